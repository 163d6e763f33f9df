import PyProof.Rows.All
import Wide.All
import OpenK.AllK
import Wide.FinOn
import Lean
import PyProof.EqAt
import PyProof.EqKinds
import PyProof.TupleCall
import PyProof.EqLayable
import KE.KIntText
import PyProof.EnumMake
import PyProof.EnumStmt
import PyProof.EnumFor
import PyProof.Rows.EnumRows
import PyProof.ExcInit
import PyProof.ExcClass2
import PyProof.InstStoreFacts
import KE.KLam
import KE.KNestM
import KE.KRevIter
import PyProof.P3In
import PySem.Challenge.RW_chancehall_k53_whole_within_steps
set_option compiler.extract_closed false
def aj := @List.getElem?_eq_getElem
def ak := @List.length_map
def ao := @List.getElem?_eq_some_iff
def aq := @List.getElem?_map
def au := @List.getD_eq_getElem?_getD
def aA := @List.length_append
def aB := @List.mem_of_getElem?
def aC := @List.getElem?_append_right
def aD := @List.getElem?_append_left
def aF := @Nat.le_refl
def aG := @PySem.Heap.get?_push_of_some
def aH := @List.mem_cons_of_mem
def aJ := @PySem.Heap.lt_size
def aK := @Nat.le_trans
def aL := @List.getElem?_eq_none
def aM := @List.length_replicate
def aN := @List.mem_cons_self
def aO := @List.mem_append_right
def aP := @Nat.ne_of_lt
def aQ := @Nat.lt_of_lt_of_le
def aR := @List.getElem_mem
def aU := @List.getElem?_of_mem
def aV := @PySem.Heap.get?_push_size
def aW := @List.size_toArray
def aX := @List.length_take
def aY := @Nat.zero_le
def aZ := @List.map_append
def bf := @Bool.false_ne_true
open PySem.W (Frag instObj methodObj hideAll hideAll_size hideAll_get of_hideAll hideAll_none lookIn plainGet hasDictIn findIn handedIn plainGet_of isFn plainOver takerIn makesIn emptyDict keepIn specialIn mroIn kitOne kia_one kitx_list kitx_tuple callWith_K methodCall_KW codeIn nsIn mg_of excIn readsIn findCls envX kla_obj codeHdIn codeHd_of_K tabObj)
section
open PySem PySem.Spec PyProof.Rows
abbrev Γ:=List (Addr×Obj)
abbrev Δ:=List Value
abbrev Θ:=List Str
abbrev Φ:=List Addr
abbrev Ψ:=Option Value
abbrev Ω:=Option Addr
abbrev Ξ:=Value->Shared->Prop
def Zs:=@decide_eq_true
def Zp:=@decide_eq_false
def ZZ:=@if_neg
def ZY:=@if_pos
def ZU:=@wpAny_bind
def ZT:=@wpAny_pure
def ZH:=@congrArg
def Z3:=@Int.emod_nonneg
def YY:=@Int.emod_lt_of_pos
def YV:=@List.mem_map
def YU:=@List.mem_cons
def YR:=@List.mem_singleton
def Y1:=@List.mem_append
def Y2:=@Nat.le_of_lt
def Y3:=@Nat.lt_of_le_of_lt
def Xs:=@Nat.le_succ
def XZ:=@Int.mul_pos
def XY:=@Int.le_of_lt
def XX:=@Nat.lt_of_le_of_ne
def XW:=@Bool.false_eq_true
def XV:=@List.mem_replicate
def XU:=@Rat.intCast_mul
def XT:=@Nat.pow_le_pow_right
def XG:=@Int.natAbs_natCast
def X0:=@List.getElem?_replicate
def X1:=@Nat.lt_succ_self
def X2:=@Nat.le_add_right
def X9:=@Nat.lt_irrefl
def Wp:=@Int.natCast_nonneg
def WZ:=@List.append_assoc
def WV:=@Nat.not_lt_zero
def WU:=@List.map_map
def WS:=@Nat.le_of_eq
def WP:=@Int.ne_of_gt
def WJ:=@PySem.boot_len
def WG:=@Nat.mul_le_mul
def WH:=@Nat.pow_add
def W1:=@List.length_range
def VZ:=@List.length_set
def VY:=@List.length_zip
def VX:=@Rat.le_refl
def VW:=@Nat.le_of_not_lt
def VU:=@Int.natAbs_mul
def VT:=@Nat.le_of_dvd
def VS:=@List.not_mem_nil
def VQ:=@Nat.one_pos
def Up:=@List.getElem?_set_ne
def UZ:=@List.getElem?_set_self
def UY:=@Nat.ne_of_gt
def UX:=@List.of_mem_zip
def UV:=@Nat.le_of_ble_eq_true
def UU:=@Nat.lt_trans
def UT:=@Int.toNat_natCast
def US:=@List.length_drop
def UR:=@Nat.mul_pos
def UQ:=@Nat.one_dvd
def UP:=@List.mem_append_left
def UK:=@Nat.min_self
def UH:=@List.getElem?_range
def U1:=@Int.natCast_mul
def U2:=@Nat.le_of_lt_succ
def Tx:=@List.drop_eq_nil_of_le
def Tu:=@Rat.divInt_add_divInt
def Tk:=@Nat.dvd_trans
def Th:=@List.map_congr_left
def TZ:=@Rat.le_trans
def TW:=@Int.lt_of_not_ge
def TU:=@Nat.add_sub_cancel_left
def TR:=@Rat.divInt_mul_divInt
def TK:=@Rat.zero_divInt
def TH:=@Rat.divInt_eq_div
def T1:=@Rat.mul_le_mul_of_nonneg_left
def T2:=@List.filterMap_cons
def JY:=@Nat.not_lt_of_le
def JU:=@List.drop_eq_getElem_cons
def JS:=@List.lookup_append
def JP:=@Int.toNat_of_nonneg
def JJ:=@Rat.divInt_eq_divInt_iff
def Qr:=@Rat.divInt_nonneg
def QY:=@List.take_of_length_le
def QU:=@List.set_eq_of_length_le
def QR:=@List.mem_of_mem_take
def QQ:=@Rat.mul_le_mul_of_nonneg_right
def QP:=@List.flatten_replicate_singleton
end
set_option Elab.async false
set_option linter.all false
set_option maxRecDepth 100000
set_option maxHeartbeats 4000000
namespace L2.Once
noncomputable section
open PySem PySem.W
def z:Pos:=⟨0,0,0,0⟩
def tE:Obj:=⟨.type "tuple",none,.seq ⟨[]⟩ 0,⟨[]⟩⟩
def fE:Obj:=⟨.none,none,.fields ⟨[]⟩,⟨[]⟩⟩
def tN(t:Nat)(l:Θ):Obj:=⟨.type "tuple",none,.seq ⟨(l.zipIdx t).map λx=>.str x.1 x.2⟩ 0,⟨[]⟩⟩
def cO(n q:Str)(t:Nat)(l a f:Int)(r u:Nat):Obj:=⟨.type "code",none,.fields ⟨[.str n t,.str q (t+1),.str "/claim/cut.py" (t+2),.int l 0,.int a 0,.int 0 0,.int 0 0,.int f 0,.ref r,.bool true,.int 181 0,.ref (r+1),.none,.ref (r+2),.ref (r+3),.ref (r+4),.int u 0,.int l 0,.str "/claim/cut.py" (u+1)]⟩,⟨[]⟩⟩
def wE:Obj:={ cls:=.type "tuple",data:=.seq #[] }
def AV:Obj:={ cls:=.none,data:=.fields #[] }
def wy:Obj:={ cls:=.type "code",data:=.fields #[.str "<module>" 182,.str "<module>" 183,.str "/claim/cut.py" 184,.int 1 0,.int 0 0,.int 0 0,.int 0 0,.int 0 0,.ref 11,.bool false,.int 181 0,.ref 12,.none,.none,.none,.none,.int 185 0,.int 1 0,.str "/claim/cut.py" 186] }
def wx:Obj:={ cls:=.type "frame",slots:=#[some (.ref 13),some (.ref 3),some (.ref 3),none,some (.str "__main__" 164),none,some (.ref 0)] }
def cP(n q:Str)(t:Nat)(l a f:Int)(r u:Nat):Obj:=⟨.type "code",none,.fields ⟨[.str n t,.str q (t+1),.str "/claim/cut.py" (t+2),.int l 0,.int a 0,.int 0 0,.int 0 0,.int f 0,.ref r,.bool true,.int 181 0,.ref (r+1),.none,.none,.none,.ref (r+2),.int u 0,.int l 0,.str "/claim/cut.py" (u+1)]⟩,⟨[]⟩⟩
def dE(P:Params)(x:Str)(t:Nat)(v:Value):DictEntry:=⟨PyData.keyHash P x,.str x t,v⟩
abbrev lf(o:Obj):BT:=.node o .nil .nil
def tr(P:Params):BT:=.node (boot_o_0 P)
 (.node (boot_o_1 P) (.node (boot_o_3 P) (lf (boot_o_7 P)) (lf wE)) (.node (boot_o_5 P) (lf (boot_o_9 P)) (lf wy)))
 (.node (boot_o_2 P) (.node (boot_o_4 P) (lf (boot_o_8 P)) (lf AV)) (.node (boot_o_6 P) (lf (boot_o_10 P)) (lf wx)))
def S0(w:World)(os:OsState):Shared:=⟨boot_heap w.params,Array.mk [],boot_drawn,boot_toks,os⟩
def Sa(w:World)(os:OsState):Shared:=⟨⟨Array.mk [boot_o_0 w.params,boot_o_1 w.params,boot_o_2 w.params,boot_o_3 w.params,boot_o_4 w.params,boot_o_5 w.params,boot_o_6 w.params,boot_o_7 w.params,boot_o_8 w.params,boot_o_9 w.params,boot_o_10 w.params,wE,AV,wy,wx],{}⟩,Array.mk [],{},187,os⟩
def Sb(w:World)(os:OsState):SharedT:=⟨tr w.params,15,{},⟨[]⟩,{},187,os⟩
def env(p:Program):Env:={ scope:=p.main.scope,locals:=mainNs,globals:=mainNs,cells:=[],code:=.ref 13,frame:=some 14 }
def cE(p:Program):Code:=.body (behindTheImports p) (env p)
abbrev p5:Ψ:=some (.ref 6)
abbrev B:List Frame:=[topFrame z]
def size(w:World):((boot_heap w.params).isNs mainGlobals&&(Array.mk [] : Array GenState).size==0,(boot_heap w.params).objs.size,(boot_heap w.params).nsMap mainGlobals "__annotations__")=(true,11,p5):=by
 rw[Fast.te8920871248978507458];kernel_rfl
def nP(p:Program)(w:World)(M:Nat)(S:SharedT)(l:List Stmt)(q:Pos)(G:Shared->Prop):Prop:=∃s,topRun treeTable p w 11 p5 M S.abs (restOf l (env p) (cE p) q B)=some s/\G s
def nP.cut{p:Program}{w:World}{n M:Nat}{S S':SharedT}{l1 l2:List Stmt}{q q':Pos}{G:Shared->Prop}(h:segRunT treeTable p w 11 p5 1 n S (piecesOf l1 (env p) (cE p) q B)=some (.next,S',cE p,q'))(k:nP p w M S' l2 q' G):nP p w (n+M) S (l1++l2) q G :=
 let⟨s,a,b⟩:=k
 ⟨s,piece_app (segRun_of h) a,b⟩
def nP.cutAt{p:Program}{w:World}{n m M:Nat}{S S':SharedT}{l:List Stmt}{q q':Pos}{G:Shared->Prop}(h:segRunT treeTable p w 11 p5 1 n S (piecesOf (l.take m) (env p) (cE p) q B)=some (.next,S',cE p,q'))(k:nP p w M S' (l.drop m) q' G):nP p w (n+M) S l q G:=by
 have:=nP.cut h k;rwa[List.take_append_drop]at this
def Good{α:Type}(p q:Program)(loose:Θ)(Xt:Shared->Bool)(Yf:Shared->α)(Ya:World->α)(g0:Bool)(w:World)(s:Shared):Prop :=
 (staticsOk (importedModules p.main.body) (boot_heap w.params) s.heap&&namesBound p s.heap&&gensDone s&&laidKept (boot_heap w.params) s.heap,openSeen q loose (importedModules p.main.body) Xt g0 s,Yf s)=(true,openGood q loose,Ya w)
def nP.last{p q:Program}{loose:Θ}{Xt:Shared->Bool}{α:Type}{Yf:Shared->α}{Ya:World->α}{g0:Bool}{w:World}{n k:Nat}{S:SharedT}{l:List Stmt}{q0 e:Pos}
 (big:(segRunT treeTable p w 11 p5 1 n S (piecesOf l (env p) (cE p) q0 B)).map (λr =>
    (r.1,r.2.2.1,r.2.2.2,(topRun treeTable p w 11 p5 k r.2.1.abs ⟨doneF .next,cE p,e,B⟩).map λs =>
     (staticsOk (importedModules p.main.body) (boot_heap w.params) s.heap&&namesBound p s.heap&&gensDone s&&laidKept (boot_heap w.params) s.heap,openSeen q loose (importedModules p.main.body) Xt g0 s,Yf s))) =
   some (.next,cE p,e,some (true,openGood q loose,Ya w))):nP p w (n+k) S l q0 (Good p q loose Xt Yf Ya g0 w):=by
 obtain⟨⟨f,sT,c,ps⟩,r1,r2⟩:=Option.map_eq_some_iff.mp big;obtain⟨rfl,rfl,rfl,r3⟩ : f=.next/\c=cE p/\ps=e/\_:=by simpa only[Prod.mk.injEq]using r2
 obtain⟨s,t1,t2⟩:=Option.map_eq_some_iff.mp r3;have q1:=piece_app (rest:=[]) (segRun_of r1) (piece_nil t1);rw[List.append_nil]at q1;exact⟨s,q1,t2⟩
def T9{p q:Program}{loose:Θ}{Xt:Shared->Bool}{α:Type}{Yf:Shared->α}{Ya:World->α}{N:Nat}{g0:Bool}{a b M:Nat}
 (ie:∀w:World,(fencedOpening treeTable p w N).map (λs=>(s.heap,s.gens,s.drawn,s.toks))=some (boot_heap w.params,Array.mk [],boot_drawn,boot_toks))
 (pre:∀w:World,(λos=>topGo treeTable p w 11 p5 a (S0 w os) (topStub p))=λos=>some (Sa w os,⟨denote treeTable (cE p),cE p,z,B⟩))
 (block:∀w:World,(λos=>segRun treeTable p w 11 p5 1 b (Sa w os) (blockOf (behindTheImports p) (env p) (cE p) z B))=λos=>some (.next,(Sb w os).abs,cE p,z))
 (mI:∀(w:World)(os:OsState),nP p w M (Sb w os) (behindTheImports p) z (Good p q loose Xt Yf Ya g0 w))
 (le:Nat.ble (a+(b+M)) N=true):LeftO p q loose Xt Yf Ya N g0:=λw=>by
 obtain⟨⟨h,gs,d,ks,os⟩,e1,e2⟩:=Option.map_eq_some_iff.mp (ie w);obtain⟨rfl,rfl,rfl,rfl⟩ : h=boot_heap w.params/\gs=Array.mk []/\d=boot_drawn/\ks=boot_toks:=by simpa using e2
 obtain⟨z1,z2,z3⟩ : _/\_/\_:=by simpa only[Prod.mk.injEq]using size w
 obtain⟨s,q1,t2⟩:=mI w os;obtain⟨l1,l2,l3⟩ : _/\_/\_:=by simpa only[Good,Prod.mk.injEq]using t2
 have q2:=go_top (congrFun (pre w) os) (piece_block (congrFun (block w) os) q1);have q3:=topRun_mono (N-(a+(b+M))) _ _ _ _ q2;rw[show a+(b+M)+(N-(a+(b+M)))=N by have:=UV le;omega]at q3;have t:topFrom treeTable p w N ⟨boot_heap w.params,Array.mk [],boot_drawn,boot_toks,os⟩=some s:=by
  unfold topFrom;dsimp only;rw[z1,z2,z3,show topRun treeTable p w 11 p5 N ⟨boot_heap w.params,Array.mk [],boot_drawn,boot_toks,os⟩ (topStub p)=some s from q3];show(match staticsOk (importedModules p.main.body) (boot_heap w.params) s.heap&&namesBound p s.heap&&gensDone s&&laidKept (boot_heap w.params) s.heap with|true=>_|false=>_)=_;rw[l1]
 unfold openEnds;rw[e1];show(topFrom treeTable p w N _).map _=_;rw[t];exact ZH some (Prod.ext l2 l3)
end
end L2.Once
namespace L2
open PySem
def gK(s:Stmt):Arguments:=match s with
 |.FunctionDef _ a _ _ _ _ _ _ _ _=>a
 |_=>{ posonlyargs:=[],args:=[],vararg:=none,kwonlyargs:=[],kw_defaults:=[],kwarg:=none,defaults:=[] }
def dJ(s:Stmt):List Stmt:=match s with
 |.FunctionDef _ _ b _ _ _ _ _ _ _=>b
 |_=>[]
def bF(s:Stmt):Scope:=match s with
 |.FunctionDef _ _ _ _ _ _ sc _ _ _=>sc
 |_=>{ kind:=.function,names:=[],isGenerator:=false,isCoroutine:=false }
end L2
namespace K53
open PySem L2
def top(i:Nat):Stmt:=PySem.Challenge.pw_chancehall_k53_whole_within_steps.main.body.getD i (.Pass ⟨0,0,0,0⟩)
def gG(i j:Nat):Stmt:=match top i with|.ClassDef _ _ _ b _ _ _ _ _ _ _=>b.getD j (.Pass ⟨0,0,0,0⟩)|_=>.Pass ⟨0,0,0,0⟩
abbrev fZ:Θ:=["thing"]
abbrev O4:Θ:=fZ
abbrev cX:Θ:=["one","other"]
abbrev Hz:Θ:=cX.append ["left","right","rest"]
abbrev oG:Θ:=["top","bottom"]
abbrev Kd:Θ:=oG.append ["common"]
abbrev jg:Θ:=["thing"]
abbrev xG:Θ:=jg.append ["top","bottom"]
abbrev vp:Θ:=["one","other"]
abbrev UI:Θ:=vp
abbrev tD:Θ:=["one","other"]
abbrev Yc:Θ:=tD
abbrev uL:Θ:=["one","other"]
abbrev YH:Θ:=uL
abbrev zV:Θ:=["one","other"]
abbrev Q3:Θ:=zV
abbrev oN:Θ:=["one","other"]
abbrev WE:Θ:=oN
abbrev lR:Θ:=["fractions"]
abbrev Rb:Θ:=lR.append ["bottom","one"]
abbrev uD:Θ:=["fractions"]
abbrev Jv:Θ:=uD.append ["leveled"]
abbrev lA:Θ:=["fractions"]
abbrev xg:Θ:=lA.append ["found","one"]
abbrev zG:Θ:=["thing","many"]
abbrev Pu:Θ:=zG
abbrev j5:Θ:=["hall","plan"]
abbrev sH:Θ:=j5.append ["room","thing"]
abbrev g8:Θ:=["offer","tops"]
abbrev jZ:Θ:=g8.append ["leveled"]
abbrev gO:Θ:=["hall","offer","leveled"]
abbrev vP:Θ:=gO.append ["behind"]
abbrev jY:Θ:=["hall","goals"]
abbrev rT:Θ:=jY.append ["marks","goal"]
abbrev iD:Θ:=["hall","plan"]
abbrev oW:Θ:=iD
abbrev gB:Θ:=["many"]
abbrev JB:Θ:=gB
abbrev kE:Θ:=["raised","bottom"]
abbrev Ad:Θ:=kE
abbrev gw:Θ:=["hall","ahead"]
abbrev rR:Θ:=gw.append ["leveled","told","room","seen"]
abbrev gq:Θ:=["hall","chosen","ahead"]
abbrev lO:Θ:=gq.append ["leveled","raised"]
abbrev gD:Θ:=["hall","marks","ahead"]
abbrev su:Θ:=gD.append ["leveled","told","room","goal","offered","most"]
abbrev jA:Θ:=["first","many","follow"]
abbrev nH:Θ:=jA.append ["told"]
abbrev gR:Θ:=["hall","many"]
abbrev jR:Θ:=gR
abbrev eE:Θ:=["hall","plan","many"]
abbrev pY:Θ:=eE.append ["chosen"]
abbrev gU:Θ:=["hall","goals","many"]
abbrev jX:Θ:=gU.append ["marks","first"]
abbrev kI:Θ:=["thing"]
abbrev Ak:Θ:=kI
abbrev iH:Θ:=["name","pay"]
abbrev sO:Θ:=iH
abbrev dW:Θ:=["room"]
abbrev xQ:Θ:=dW
abbrev fQ:Θ:=["chance"]
abbrev Fd:Θ:=fQ
abbrev jk:Θ:=["pairs"]
abbrev qe:Θ:=jk.append ["room","chance"]
abbrev ju:Θ:=["pairs"]
abbrev v8:Θ:=ju.append ["chances","room","chance"]
abbrev jr:Θ:=["share"]
abbrev Hl:Θ:=jr
abbrev j6:Θ:=["rooms"]
abbrev sU:Θ:=j6.append ["numbers","room","name"]
abbrev gW:Θ:=["door","numbers"]
abbrev sY:Θ:=gW.append ["numbered","name","chance"]
abbrev lZ:Θ:=["doors","numbers"]
abbrev Bo:Θ:=lZ.append ["taken","told","door"]
abbrev vH:Θ:=["_law_script","_law_k"]
abbrev Ql:Θ:=vH
abbrev gM:Θ:=["_law_cell_here","_law_many"]
abbrev Ob:Θ:=gM.append ["_law_found","_law_number","_law_digits","_law_k"]
abbrev rH:Θ:=["_law_one","_law_other"]
abbrev Hm:Θ:=rH.append ["_law_low","_law_high"]
abbrev jx:Θ:=["_law_top","_law_bottom"]
abbrev Nv:Θ:=jx.append ["_law_common"]
abbrev mD:Θ:=["_law_found"]
abbrev u_:Θ:=mD.append ["_law_number"]
abbrev jU:Θ:=["_law_found","_law_many"]
abbrev qW:Θ:=jU
abbrev uH:Θ:=["_law_cell_here","_law_many"]
abbrev qO:Θ:=uH.append ["_law_letters","_law_xs","_law_base","_law_at","_law_step"]
abbrev ug:Θ:=["_law_cell_here","_law_small"]
abbrev RD:Θ:=ug.append ["_law_xs","_law_bottom"]
abbrev Dk:Θ:=["_law_cell_here","_law_x","_law_y","_law_small"]
abbrev Ha:Θ:=Dk
abbrev xZ:Θ:=["_law_cell_here","_law_many","_law_small"]
abbrev qY:Θ:=xZ.append ["_law_xs","_law_rooms","_law_sort","_law_pairs","_law_bottom","_law_part","_law_weights"]
abbrev tY:Θ:=["_law_script","_law_at","_law_many","_law_small"]
abbrev K6:Θ:=tY.append ["_law_rooms","_law_first","_law_cells","_law_cell_here","_law_room","_law_door_here"]
abbrev uM:Θ:=["_law_title","_law_door_here","_law_names_here"]
abbrev yU:Θ:=uM.append ["_law_told","_law_sort","_law_pay_here","_law_pairs"]
abbrev zU:Θ:=["_law_cell_here","_law_share_here","_law_rooms"]
abbrev Qk:Θ:=zU.append ["_law_names_here","_law_found","_law_k","_law_titles"]
abbrev qu:Θ:=["_law_cell_here","_law_rooms"]
abbrev Nj:Θ:=qu.append ["_law_xs","_law_found","_law_k"]
abbrev pJ:Θ:=["_law_share_here","_law_door_here","_law_worths"]
abbrev Vy:Θ:=pJ.append ["_law_top","_law_bottom","_law_room","_law_chance","_law_part"]
abbrev qw:Θ:=["_law_one","_law_other"]
abbrev Yq:Θ:=qw
abbrev jO:Θ:=["_law_found","_law_many","_law_size_here"]
abbrev qM:Θ:=jO
abbrev zJ:Θ:=["_law_cell_here"]
abbrev Qa:Θ:=zJ.append ["_law_xs"]
abbrev uG:Θ:=["_law_share_here","_law_rooms","_law_plan","_law_numbers"]
abbrev Rp:Θ:=uG.append ["_law_found","_law_k","_law_due"]
abbrev ur:Θ:=["_law_rooms","_law_plan","_law_goals","_law_numbers"]
abbrev QK:Θ:=ur.append ["_law_found","_law_k","_law_due"]
abbrev jT:Θ:=["_law_some","_law_best"]
abbrev rW:Θ:=jT
abbrev uf:Θ:=["_law_share_here","_law_rooms","_law_numbers"]
abbrev Kh:Θ:=uf.append ["_law_found","_law_doors_here","_law_best","_law_some","_law_k"]
abbrev Ke:Θ:=["_law_script"]
abbrev Ba:Θ:=Ke.append ["_law_size_here","_law_share_here","_law_rooms","_law_hall_here","_law_goals","_law_plans","_law_found","_law_surest","_law_paid","_law_most","_law_come","_law_k","_law_own"]
abbrev jG:Θ:=["self","name","pay"]
abbrev vd:Θ:=jG
abbrev lW:Θ:=["self"]
abbrev Np:Θ:=lW
abbrev yH:Θ:=["self","room"]
abbrev dH:Θ:=yH
abbrev lQ:Θ:=["self","name","pay","room"]
abbrev tL:Θ:=lQ
abbrev gC:Θ:=["self","name","pay","pairs"]
abbrev qT:Θ:=gC
abbrev mq:Θ:=["self","name","pay","chance","room","other"]
abbrev Bh:Θ:=mq
abbrev lY:Θ:=["self","name","pay","rooms"]
abbrev um:Θ:=lY
abbrev lK:Θ:=["self","share","rooms"]
abbrev uE:Θ:=lK
abbrev d7:Θ:=["self"]
abbrev Lp:Θ:=d7
abbrev G8:Θ:=["self","name"]
abbrev yF:Θ:=G8
abbrev dX:Θ:=["self","room"]
abbrev yK:Θ:=dX
abbrev Bp:Θ:=["self","room","name"]
abbrev uR:Θ:=Bp
abbrev eF:Θ:=["self","room"]
abbrev pU:Θ:=eF
end K53
namespace H53
open PySem PySem.W L2 L2.Once K53
abbrev p:Program:=PySem.Challenge.pw_chancehall_k53_whole_within_steps
noncomputable section
noncomputable def dR(P:Params)(x:Str)(t m:Nat):DictEntry:=dE P x t (.ref m)
noncomputable def wD(l:List DictEntry)(n:Nat):Obj:=⟨.type "dict",none,.dict ⟨l⟩ n,⟨[]⟩⟩
noncomputable def i3(a b:Nat)(c:Nat)(l:Δ):Δ:=.int a 0::.int b 0::.ref c::l
noncomputable def nd(o:Obj)(l r:BT):BT:=.node o l r
noncomputable def n1(o x:Obj):BT:=.node o (lf x) .nil
def wA:Obj:=⟨.type "builtin_function_or_method",none,.fields ⟨[.builtin "type.__prepare__",.type "type"]⟩,⟨[]⟩⟩
def wB(n:Nat):Obj:=⟨.type "builtin_function_or_method",none,.fields ⟨[.builtin "object.__init_subclass__",.ref n]⟩,⟨[]⟩⟩
def wC(n:Str)(t l r u:Nat):Obj:=⟨.type "code",none,.fields ⟨[.str n t,.str n (t+1),.str "/claim/cut.py" (t+2),.int l 0,.int 0 0,.int 0 0,.int 0 0,.int 0 0,.ref r,.bool false,.int 181 0,.ref (r+1),.none,.none,.none,.none,.int u 0,.int l 0,.str "/claim/cut.py" (u+1)]⟩,⟨[]⟩⟩
def wF(c d:Nat)(n:Str)(t:Nat):Obj:=⟨.type "frame",none,.plain,⟨[some (.ref c),some (.ref 3),some (.ref d),none,some (.str n t),none,some (.ref 0)]⟩⟩
def wG(t n:Nat):Obj:=⟨.type "getset_descriptor",none,.fields ⟨[.str "__weakref__" t,.ref n,.builtin "ExceptionGroup.__weakref__",.none]⟩,⟨[]⟩⟩
def wK(n:Str)(b m:Δ)(d:Nat)(s:Δ)(o:Ψ)(t u:Nat)(x:String):Obj:=⟨.type "type",none,.cls ⟨n,b,m,d,n,true,[],s,false,none,false⟩,⟨[o,none,some (.str n t),some (.str n u),some (.builtin x),some (.bool true)]⟩⟩
def wS(n:Nat):Obj:=⟨.type "super",none,.fields ⟨[.ref n,.ref n,.ref n]⟩,⟨[]⟩⟩
def wT(n:Nat):Obj:=⟨.type "tuple",none,.seq ⟨[.ref n]⟩ 0,⟨[]⟩⟩
def fO(n q:Str)(s:Stmt)(m:Value)(c:Nat):Obj:=⟨.type "function",none,.func (fnOf n q (gK s) (dJ s) (bF s) .none .none .none m none (.ref c) .none),⟨[]⟩⟩
def fT(n q:Str)(s:Stmt):Obj:=⟨.none,none,.func { fnOf n q (gK s) (dJ s) (bF s) .none .none .none .none none .none .none with globals:=0,builtins:=0 },⟨[]⟩⟩
def fV(n:Str)(k:Nat)(m:Value)(c:Nat):Obj:=fO n n (top k) m c
def fU(n:Str)(k:Nat):Obj:=fT n n (top k)
def cU(n:Str)(t:Nat)(l a f:Int)(r u:Nat):Obj:=cO n n t l a f r u
def cV(n:Str)(t:Nat)(l a f:Int)(r u:Nat):Obj:=cP n n t l a f r u
def dM(P:Params)(l:List (String×Nat×Nat)):List DictEntry:=l.map λx=>dR P (Str.ofString x.1) x.2.1 x.2.2
def dC(P:Params)(a:Nat)(m:Value)(n:Str)(l:Int)(r:List DictEntry):List DictEntry:=dE P "__module__" a m::dE P "__qualname__" (a+2) (.str n (a+1))::dE P "__firstlineno__" (a+4) (.int l (a+3))::r
def dF(P:Params)(a:Nat)(m:Value)(l:Int)(r:List DictEntry):List DictEntry:=dE P "__module__" a m::dE P "__firstlineno__" (a+4) (.int l (a+3))::r
def wX(n:Str)(c d o t u:Nat):Obj:=wK n [.ref 31] [.ref c,.ref 31,.type "ValueError",.type "Exception",.type "BaseException",.type "object"] d [] (some (.ref o)) t u "ValueError.__new__"
def KL:Value:=.str "__main__" 164
def oB:Value:=.str "chancehall.errors" 194
def AX:Value:=.str "chancehall.wholes" 328
def tP:Value:=.str "chancehall.ratios" 348
def wP:Value:=.str "chancehall.levels" 414
def vx:Value:=.str "chancehall.plans" 439
def KI:Value:=.str "chancehall.ways" 475
def KG:Value:=.str "chancehall.worths" 487
def sC:Value:=.str "chancehall.rounds" 495
def KF:Value:=.str "chancehall.words" 568
def pC:Value:=.str "chancehall.doors" 578
def z8:Value:=.str "chancehall.halls" 765
def nq:Value:=.str "law_chancehall_k53_whole_within_steps" 880
noncomputable def zM(P:Params)(l:List (String×Nat×Nat))(n:Nat):Obj:=wD (dE P "__name__" 165 nq::dE P "__doc__" 166 .none::dE P "__package__" 167 .none::dE P "__loader__" 168 (.builtin "__main__.__loader__#opaque")::dE P "__spec__" 169 .none::dR P "__annotations__" 170 6::dR P "__builtins__" 171 4::dE P "__file__" 173 (.str "/claim/cut.py" 172)::dE P "__cached__" 174 .none::dM P [("_wall",193,21),("HallError",213,31),("NoNumber",229,44),("NoName",245,56),("NoChance",261,68),("NoShare",277,80),("NoRoom",302,99),("NoPlan",327,118),("is_whole",336,127),("divisor",347,134),("NOUGHT",352,135),("ONE",355,136),("ratio",364,143),("is_ratio",373,150),("plus",381,157),("minus",389,164),("times",397,171),("over",405,178),("under",413,185),("level",421,190),("total",429,197),("greatest",438,204),("fits",448,211),("check_plan",458,218),("behind_door",464,223),("raised_look",474,230),("goal_marks",486,237),("chosen_doors",494,242)]++dE P "MOST" 498 (.int 40 497)::dM P [("check_many",505,249),("lowered",513,256),("best_round",519,261),("plan_round",525,266),("goal_round",531,271),("rounds_behind",541,278),("best_rounds",550,285),("plan_rounds",561,292),("goal_rounds",567,297)]++dE P "LONGEST_WORD" 571 (.int 8 570)::dM P ([("is_word",577,302),("check_head",587,309),("check_room_name",594,316),("check_chance",601,323),("check_pairs",607,328),("joined_ways",613,333),("Door",660,364),("Sure",687,385),("Mixed",714,404),("Toss",742,423),("Even",764,440),("check_share",773,449),("numbers_of",783,456),("numbered_ways",794,463),("offers_of",805,470),("Hall",879,525),("_law_cell",889,536),("_law_stream",901,543),("_law_gcd",911,550),("_law_ratio",920,557),("_law_is_ratio",928,564),("_law_are_ratios",934,569),("_law_same",942,576),("_law_names",948,581),("_law_share",958,588),("_law_pay",968,595),("_law_door",974,600),("_law_doors",980,605),("_law_built",986,610),("_law_hall",992,615),("_law_chosen",1003,622),("_law_look",1017,629),("_law_below",1025,636),("_law_are_rounds",1031,641),("_law_size",1039,648),("_law_ahead",1052,655),("_law_surer",1065,662),("_law_none_above",1071,667)]++l)++[]) n
def L0(P:Params):Obj:=zM P [] 86
def AT:Obj:=fV "_wall" 0 KL 20
def AS:Obj:=⟨.type "tuple",none,.seq ⟨.type "ValueError"::[]⟩ 0,⟨[]⟩⟩
def KB(P:Params):Obj:=wD (dC P 203 oB "HallError" 5 <|dR P "__static_attributes__" 208 29::[]) 4
def AR(P:Params):Obj:=wD (dF P 203 oB 5 <|dR P "__static_attributes__" 208 29::dR P "__weakref__" 210 32::dE P "__doc__" 211 .none::[]) 3
def AQ:Obj:=wK "HallError" [.type "ValueError"] [.ref 31,.type "ValueError",.type "Exception",.type "BaseException",.type "object"] 30 [.ref 44,.ref 56,.ref 68,.ref 80,.ref 99,.ref 118] (some (.ref 22)) 196 204 "ValueError.__new__"
def KA(P:Params):Obj:=wD (dC P 221 oB "NoNumber" 7 <|dR P "__static_attributes__" 226 42::[]) 4
def AO(P:Params):Obj:=wD (dF P 221 oB 7 <|dR P "__static_attributes__" 226 42::dE P "__doc__" 227 .none::[]) 2
def AN:Obj:=wX "NoNumber" 44 43 35 214 222
def Kx(P:Params):Obj:=wD (dC P 237 oB "NoName" 9 <|dR P "__static_attributes__" 242 54::[]) 4
def AM(P:Params):Obj:=wD (dF P 237 oB 9 <|dR P "__static_attributes__" 242 54::dE P "__doc__" 243 .none::[]) 2
def AL:Obj:=wX "NoName" 56 55 47 230 238
def Kt(P:Params):Obj:=wD (dC P 253 oB "NoChance" 11 <|dR P "__static_attributes__" 258 66::[]) 4
def AK(P:Params):Obj:=wD (dF P 253 oB 11 <|dR P "__static_attributes__" 258 66::dE P "__doc__" 259 .none::[]) 2
def AJ:Obj:=wX "NoChance" 68 67 59 246 254
def Kn(P:Params):Obj:=wD (dC P 269 oB "NoShare" 13 <|dR P "__static_attributes__" 274 78::[]) 4
def AI(P:Params):Obj:=wD (dF P 269 oB 13 <|dR P "__static_attributes__" 274 78::dE P "__doc__" 275 .none::[]) 2
def AH:Obj:=wX "NoShare" 80 79 71 262 270
def Kk(P:Params):Obj:=wD (dC P 285 oB "NoRoom" 15 <|dR P "__init__" 297 96::dR P "__static_attributes__" 299 97::[]) 5
def AG:Obj:=cO "__init__" "NoRoom.__init__" 290 17 2 3 90 295
def AF:Obj:=fO "__init__" "NoRoom.__init__" (gG 7 0) oB 95
def AE(P:Params):Obj:=wD (dF P 285 oB 15 <|dR P "__init__" 297 96::dR P "__static_attributes__" 299 97::dE P "__doc__" 300 .none::[]) 2
def AD:Obj:=wX "NoRoom" 99 98 83 278 286
def MV(P:Params):Obj:=wD (dC P 310 oB "NoPlan" 20 <|dR P "__init__" 322 115::dR P "__static_attributes__" 324 116::[]) 5
def BA:Obj:=cO "__init__" "NoPlan.__init__" 315 22 2 3 109 320
def DV:Obj:=fO "__init__" "NoPlan.__init__" (gG 8 0) oB 114
def EX(P:Params):Obj:=wD (dF P 310 oB 20 <|dR P "__init__" 322 115::dR P "__static_attributes__" 324 116::dE P "__doc__" 325 .none::[]) 2
def DH:Obj:=wX "NoPlan" 118 117 102 303 311
def GH:Obj:=fV "is_whole" 10 AX 126
def Do:Obj:=tN 340 Hz
def F3:Obj:=fV "divisor" 11 AX 133
def F_:Obj:=⟨.type "tuple",none,.seq ⟨.int 0 350::.int 1 351::[]⟩ 0,⟨[]⟩⟩
def C3:Obj:=⟨.type "tuple",none,.seq ⟨.int 1 353::.int 1 354::[]⟩ 0,⟨[]⟩⟩
def BB:Obj:=fV "ratio" 15 tP 142
def BC:Obj:=fV "is_ratio" 16 tP 149
def CC:Obj:=fV "plus" 17 tP 156
def F4:Obj:=fV "minus" 18 tP 163
def ET:Obj:=fV "times" 19 tP 170
def EU:Obj:=fV "over" 20 tP 177
def D':Obj:=fV "under" 21 tP 184
def CA:Obj:=fV "level" 23 wP 189
def BF:Obj:=fV "total" 24 wP 196
def D3:Obj:=fV "greatest" 25 wP 203
def B':Obj:=fV "fits" 27 vx 210
def DC:Obj:=cU "check_plan" 449 86 2 3 212 456
def Gc:Obj:=fV "check_plan" 28 vx 217
def Cb:Obj:=cV "behind_door" 459 93 2 3 219 462
def B5:Obj:=fV "behind_door" 29 vx 222
def Cf:Obj:=tN 468 vP
def D2:Obj:=cU "raised_look" 465 96 3 3 224 472
def EJ:Obj:=fV "raised_look" 30 vx 229
def EB:Obj:=cU "goal_marks" 477 100 2 3 231 484
def B9:Obj:=fV "goal_marks" 32 KI 236
def ER:Obj:=cV "chosen_doors" 489 107 2 3 238 492
def DB:Obj:=fV "chosen_doors" 34 KG 241
def CO:Obj:=cU "check_many" 499 111 1 3 243 503
def DF:Obj:=fV "check_many" 37 sC 248
def C5:Obj:=fV "lowered" 38 sC 255
def DU:Obj:=cV "best_round" 514 116 2 3 257 517
def CY:Obj:=fV "best_round" 39 sC 260
def BE:Obj:=cV "plan_round" 520 123 3 3 262 523
def Dn:Obj:=fV "plan_round" 40 sC 265
def FM:Obj:=cV "goal_round" 526 127 3 3 267 529
def Bz:Obj:=fV "goal_round" 41 sC 270
def Fc:Obj:=cU "rounds_behind" 532 135 3 3 272 539
def D7:Obj:=fV "rounds_behind" 42 sC 277
def A6:Obj:=cU "best_rounds" 542 140 2 3 279 548
def BN:Obj:=fV "best_rounds" 43 sC 284
def EV:Obj:=cU "plan_rounds" 551 143 3 3 286 559
def EF:Obj:=fV "plan_rounds" 44 sC 291
def EM:Obj:=cV "goal_rounds" 562 148 3 3 293 565
def D1:Obj:=fV "goal_rounds" 45 sC 296
def FS:Obj:=fV "is_word" 48 KF 301
def BO:Obj:=cU "check_head" 580 160 2 3 303 585
def DS:Obj:=fV "check_head" 50 pC 308
def EN:Obj:=cU "check_room_name" 588 165 1 3 310 592
def CD:Obj:=fV "check_room_name" 51 pC 315
def F6:Obj:=cU "check_chance" 595 168 1 3 317 599
def DO:Obj:=fV "check_chance" 52 pC 322
def CF:Obj:=cV "check_pairs" 602 171 1 3 324 605
def DJ:Obj:=fV "check_pairs" 53 pC 327
def BV:Obj:=cV "joined_ways" 608 177 1 3 329 611
def BM:Obj:=fV "joined_ways" 54 pC 332
def MY(P:Params):Obj:=wD (dC P 621 pC "Door" 182 <|dM P [("__init__",634,347),("ways",641,354),("chance_to",649,361),("__static_attributes__",653,362)]++[]) 7
def FV:Obj:=cO "__init__" "Door.__init__" 626 184 3 3 341 632
def FA:Obj:=fO "__init__" "Door.__init__" (gG 55 0) pC 346
def Ee:Obj:=fO "ways" "Door.ways" (gG 55 1) pC 353
def A5:Obj:=cO "chance_to" "Door.chance_to" 642 193 2 3 355 647
def EI:Obj:=fO "chance_to" "Door.chance_to" (gG 55 2) pC 360
def B7(P:Params):Obj:=wD (dF P 621 pC 182 <|dM P [("__init__",634,347),("ways",641,354),("chance_to",649,361),("__static_attributes__",653,362),("__dict__",655,365),("__weakref__",657,366)]++dE P "__doc__" 658 .none::[]) 4
def BU:Obj:=wK "Door" [.type "object"] [.ref 364,.type "object"] 363 [.ref 385,.ref 404] none 614 622 "object.__new__"
def F8:Obj:=⟨.type "getset_descriptor",none,.fields ⟨.str "__dict__" 654::.ref 364::.builtin "function.__dict__"::.builtin "function.__dict__#set"::[]⟩,⟨[]⟩⟩
def Nd(P:Params):Obj:=wD (dC P 668 pC "Sure" 195 <|dR P "__init__" 682 382::dR P "__static_attributes__" 684 383::[]) 5
def GB:Obj:=cO "__init__" "Sure.__init__" 673 197 4 3 376 680
def FK:Obj:=fO "__init__" "Sure.__init__" (gG 56 0) pC 381
def Co(P:Params):Obj:=wD (dF P 668 pC 195 <|dR P "__init__" 682 382::dR P "__static_attributes__" 684 383::dE P "__doc__" 685 .none::[]) 2
def A8:Obj:=wK "Sure" [.ref 364] [.ref 385,.ref 364,.type "object"] 384 [] (some (.ref 369)) 661 669 "object.__new__"
def MO(P:Params):Obj:=wD (dC P 695 pC "Mixed" 201 <|dR P "__init__" 709 401::dR P "__static_attributes__" 711 402::[]) 5
def F9:Obj:=cO "__init__" "Mixed.__init__" 700 203 4 3 395 707
def Fn:Obj:=fO "__init__" "Mixed.__init__" (gG 57 0) pC 400
def GL(P:Params):Obj:=wD (dF P 695 pC 201 <|dR P "__init__" 709 401::dR P "__static_attributes__" 711 402::dE P "__doc__" 712 .none::[]) 2
def D4:Obj:=wK "Mixed" [.ref 364] [.ref 404,.ref 364,.type "object"] 403 [.ref 423,.ref 440] (some (.ref 388)) 688 696 "object.__new__"
def LF(P:Params):Obj:=wD (dC P 722 pC "Toss" 207 <|dR P "__init__" 738 420::dR P "__static_attributes__" 739 421::[]) 5
def EZ:Obj:=tN 730 Bh
def Go:Obj:=cO "__init__" "Toss.__init__" 727 209 6 3 414 736
def De:Obj:=fO "__init__" "Toss.__init__" (gG 58 0) pC 419
def CB(P:Params):Obj:=wD (dF P 722 pC 207 <|dR P "__init__" 738 420::dR P "__static_attributes__" 739 421::dE P "__doc__" 740 .none::[]) 2
def D9:Obj:=wK "Toss" [.ref 404] [.ref 423,.ref 404,.ref 364,.type "object"] 422 [] (some (.ref 407)) 715 723 "object.__new__"
def Lo(P:Params):Obj:=wD (dC P 750 pC "Even" 213 <|dR P "__init__" 760 437::dR P "__static_attributes__" 761 438::[]) 5
def C0:Obj:=cP "__init__" "Even.__init__" 755 215 4 3 433 758
def E7:Obj:=fO "__init__" "Even.__init__" (gG 59 0) pC 436
def EQ(P:Params):Obj:=wD (dF P 750 pC 213 <|dR P "__init__" 760 437::dR P "__static_attributes__" 761 438::dE P "__doc__" 762 .none::[]) 2
def BY:Obj:=wK "Even" [.ref 404] [.ref 440,.ref 404,.ref 364,.type "object"] 439 [] (some (.ref 426)) 743 751 "object.__new__"
def A9:Obj:=cU "check_share" 767 218 1 3 443 771
def B8:Obj:=fV "check_share" 61 z8 448
def C8:Obj:=cU "numbers_of" 774 221 1 3 450 781
def EW:Obj:=fV "numbers_of" 62 z8 455
def FX:Obj:=tN 787 sY
def E6:Obj:=cU "numbered_ways" 784 229 2 3 457 792
def BI:Obj:=fV "numbered_ways" 63 z8 462
def D5:Obj:=tN 798 Bo
def Fh:Obj:=cU "offers_of" 795 236 2 3 464 803
def F0:Obj:=fV "offers_of" 64 z8 469
def ML(P:Params):Obj:=wD (dC P 813 z8 "Hall" 245 <|dM P [("__init__",823,482),("size",830,489),("names",837,496),("place",845,503),("check_room",853,510),("door_at",862,517),("offers",868,522),("__static_attributes__",872,523)]++[]) 11
def C4:Obj:=cP "__init__" "Hall.__init__" 818 247 3 3 478 821
def BS:Obj:=fO "__init__" "Hall.__init__" (gG 65 0) z8 481
def CL:Obj:=fO "size" "Hall.size" (gG 65 1) z8 488
def E8:Obj:=fO "names" "Hall.names" (gG 65 2) z8 495
def BQ:Obj:=fO "place" "Hall.place" (gG 65 3) z8 502
def FB:Obj:=cO "check_room" "Hall.check_room" 846 264 2 3 504 851
def F5:Obj:=fO "check_room" "Hall.check_room" (gG 65 4) z8 509
def F7:Obj:=cO "door_at" "Hall.door_at" 854 268 3 3 511 860
def BG:Obj:=fO "door_at" "Hall.door_at" (gG 65 5) z8 516
def E9:Obj:=cP "offers" "Hall.offers" 863 271 2 3 518 866
def Fk:Obj:=fO "offers" "Hall.offers" (gG 65 6) z8 521
def Db(P:Params):Obj:=wD (dF P 813 z8 245 <|dM P [("__init__",823,482),("size",830,489),("names",837,496),("place",845,503),("check_room",853,510),("door_at",862,517),("offers",868,522),("__static_attributes__",872,523),("__dict__",874,526),("__weakref__",876,527)]++dE P "__doc__" 877 .none::[]) 4
def Dx:Obj:=wK "Hall" [.type "object"] [.ref 525,.type "object"] 524 [] none 806 814 "object.__new__"
def GA:Obj:=⟨.type "getset_descriptor",none,.fields ⟨.str "__dict__" 873::.ref 525::.builtin "function.__dict__"::.builtin "function.__dict__#set"::[]⟩,⟨[]⟩⟩
def C6:Obj:=cU "_law_cell" 882 275 2 3 530 887
def FE:Obj:=fV "_law_cell" 67 nq 535
def GE:Obj:=tN 893 Ob
def C1:Obj:=cU "_law_stream" 890 277 2 3 537 899
def C7:Obj:=fV "_law_stream" 68 nq 542
def A':Obj:=tN 905 Hm
def B3:Obj:=cU "_law_gcd" 902 288 2 3 544 909
def Ev:Obj:=fV "_law_gcd" 69 nq 549
def B2:Obj:=tN 915 Nv
def Bn:Obj:=cU "_law_ratio" 912 293 2 3 551 918
def B4:Obj:=fV "_law_ratio" 70 nq 556
def FG:Obj:=cU "_law_is_ratio" 921 296 1 3 558 926
def GG:Obj:=fV "_law_is_ratio" 71 nq 563
def DZ:Obj:=cV "_law_are_ratios" 929 303 2 3 565 932
def DM:Obj:=fV "_law_are_ratios" 72 nq 568
def Eg:Obj:=cV "_law_names" 943 309 2 3 577 946
def B6:Obj:=fV "_law_names" 74 nq 580
def Fs:Obj:=tN 952 RD
def Fa:Obj:=cU "_law_share" 949 318 2 3 582 956
def FI:Obj:=fV "_law_share" 75 nq 587
def Cn:Obj:=tN 962 Ha
def CU:Obj:=cU "_law_pay" 959 322 4 3 589 966
def C9:Obj:=fV "_law_pay" 76 nq 594
def C2:Obj:=cV "_law_door" 969 330 3 3 596 972
def EO:Obj:=fV "_law_door" 77 nq 599
def FO:Obj:=cV "_law_doors" 975 347 4 3 601 978
def Ct:Obj:=fV "_law_doors" 78 nq 604
def BH:Obj:=cV "_law_built" 981 357 3 3 606 984
def EC:Obj:=fV "_law_built" 79 nq 609
def DA:Obj:=cV "_law_hall" 987 367 3 3 611 990
def B1:Obj:=fV "_law_hall" 80 nq 614
def Ff:Obj:=tN 996 Nj
def DL:Obj:=cU "_law_chosen" 993 374 2 3 616 1001
def F2:Obj:=fV "_law_chosen" 81 nq 621
def FF:Obj:=tN 1007 Vy
def GI:Obj:=cU "_law_look" 1004 383 3 3 623 1015
def EA:Obj:=fV "_law_look" 82 nq 628
def A4:Obj:=cU "_law_below" 1018 393 2 3 630 1023
def DI:Obj:=fV "_law_below" 83 nq 635
def ED:Obj:=cV "_law_are_rounds" 1026 395 3 3 637 1029
def Da:Obj:=fV "_law_are_rounds" 84 nq 640
def Cc:Obj:=cU "_law_size" 1032 399 1 3 642 1037
def D6:Obj:=fV "_law_size" 85 nq 647
def CH:Obj:=tN 1043 Rp
def DE:Obj:=cU "_law_ahead" 1040 404 4 3 649 1050
def A7:Obj:=fV "_law_ahead" 86 nq 654
def CM:Obj:=tN 1056 QK
def Be:Obj:=cU "_law_surer" 1053 412 4 3 656 1063
def FU:Obj:=fV "_law_surer" 87 nq 661
def EK:Obj:=cV "_law_none_above" 1066 420 2 3 663 1069
def EL:Obj:=fV "_law_none_above" 88 nq 666
def II(P:Params):BT:=nd (boot_o_0 P) (nd (boot_o_1 P) (nd (L0 P) (nd (boot_o_7 P) (nd tE (nd AQ (nd fE (nd GH (n1 (cU "lowered" 506 114 2 3 250 511) tE) (n1 (tN 683 ["leads"]) (fU "_law_are_rounds" 84))) (nd tE (n1 (tN 598 ["chance"]) (cU "_law_same" 935 307 2 3 570 940)) (lf (fU "check_share" 61)))) (nd AG (nd fE (n1 fE C7) (lf fE)) (nd B5 (n1 tE fE) (lf fE)))) (nd (wT 31) (nd (AI P) (nd BB (n1 Bz (wG 875 525)) (n1 (fT "__init__" "Mixed.__init__" (gG 57 0)) A7)) (nd (tN 444 Pu) (n1 wA Cn) (lf BI))) (nd (tN 318 dH) (nd tE (n1 tE fE) (lf (wC "Even" 745 213 429 748))) (nd fE (n1 (wS 364) tE) (lf (cO "names" "Hall.names" 831 256 1 3 490 835)))))) (nd wA (nd fE (nd (wT 31) (nd F_ (n1 fE fE) (n1 tE Cc)) (nd fE (n1 CF fE) (lf C8))) (nd wA (nd (tN 393 cX) (n1 (fU "goal_rounds" 45) tE) (lf D9)) (nd tE (n1 (fT "chance_to" "Door.chance_to" (gG 55 2)) B1) (lf (fT "size" "Hall.size" (gG 65 1)))))) (nd (AM P) (nd (⟨.none,none,.fields ⟨i3 17 4 95 <|[]⟩,⟨[]⟩⟩) (nd tE (n1 tE C6) (n1 (wT 404) tE)) (nd tE (n1 (tN 629 vd) C2) (lf tE))) (nd (wS 118) (nd (fU "under" 21) (n1 fE (fU "_law_are_ratios" 72)) (lf (EQ P))) (nd (fU "check_many" 37) (n1 (wF 374 371 "chancehall.doors" 578) fE) (lf BQ)))))) (nd wE (nd (fU "_wall" 0) (nd (wT 31) (nd (AK P) (nd tE (n1 (fU "best_round" 39) (fT "door_at" "Hall.door_at" (gG 65 5))) (n1 (wB 385) fE)) (nd (fU "total" 24) (n1 DO (fU "_law_names" 74)) (lf fE))) (nd AD (nd (cU "minus" 382 58 2 3 158 387) (n1 EV tE) (lf Go)) (nd tE (n1 tE tE) (lf tE)))) (nd fE (nd (wT 31) (nd tE (n1 tE fE) (n1 (GL P) tE)) (nd B' (n1 (wC "Door" 616 182 337 619) C9) (lf tE))) (nd DV (nd tE (n1 (fU "check_head" 50) FG) (lf (fT "__init__" "Even.__init__" (gG 59 0)))) (nd tE (n1 (Nd P) (fU "_law_look" 82)) (lf (tN 841 yF)))))) (nd (wC "HallError" 198 5 25 201) (nd (AO P) (nd fE (nd (tN 359 Kd) (n1 tE (tN 869 ["numbers","offered","share"])) (n1 tE CH)) (nd (cU "greatest" 430 75 1 3 198 436) (n1 (fU "joined_ways" 54) Fa) (lf FX))) (nd (wC "NoPlan" 305 20 105 308) (nd ET (n1 fE (fU "_law_ratio" 70)) (lf wA)) (nd (fU "goal_marks" 32) (n1 (B7 P) tE) (lf fE)))) (nd (wT 31) (nd fE (nd (fU "plus" 17) (n1 (fU "best_rounds" 43) GE) (n1 (⟨.none,none,.fields ⟨i3 209 4 419 <|[]⟩,⟨[]⟩⟩) EL)) (nd tE (n1 FA (fU "_law_doors" 78)) (lf (⟨.none,none,.fields ⟨i3 247 4 481 <|i3 253 4 488 <|i3 256 4 495 <|i3 259 4 502 <|i3 264 4 509 <|i3 268 4 516 <|i3 271 4 521 <|[]⟩,⟨[]⟩⟩)))) (nd (tN 333 ["thing"]) (nd fE (n1 EN fE) (lf tE)) (nd fE (n1 tE A4) (lf tE))))))) (nd (boot_o_5 P) (nd (boot_o_9 P) (nd (tN 190 ["k"]) (nd (wS 31) (nd (wF 64 61 "chancehall.errors" 194) (nd fE (n1 tE (tN 857 uR)) (n1 A8 Da)) (nd (tN 425 Jv) (n1 (fU "check_chance" 52) tE) (lf B8))) (nd (tN 298 ["room"]) (nd tE (n1 (tN 557 ["hall","chosen"]) fE) (lf tE)) (nd fE (n1 (cO "ways" "Door.ways" 635 190 1 3 348 639) BH) (lf C4)))) (nd (Kx P) (nd (wS 80) (nd fE (n1 fE (wB 525)) (n1 Fn fE)) (nd (fU "fits" 27) (n1 tE (fU "_law_pay" 76)) (lf fE))) (nd (fT "__init__" "NoPlan.__init__" (gG 8 0)) (nd (cU "over" 398 62 2 3 172 403) (n1 (tN 583 sO) tE) (lf tE)) (nd ER (n1 (wT 364) FF) (lf tE))))) (nd tE (nd (wF 40 37 "chancehall.errors" 194) (nd (Kn P) (nd tE (n1 BE E9) (n1 (wC "Mixed" 690 201 391 693) tE)) (nd tE (n1 tE tE) (lf tE))) (nd tE (nd (fU "times" 19) (n1 D1 B2) (lf (wB 423))) (nd (tN 480 rT) (n1 EI fE) (lf CL)))) (nd (wS 56) (nd (wF 88 85 "chancehall.errors" 194) (nd (tN 377 cX) (n1 (tN 545 jR) tE) (n1 (LF P) (fU "_law_none_above" 88))) (nd DC (n1 (fT "__init__" "Door.__init__" (gG 55 0)) tE) (lf (ML P)))) (nd tE (nd D' (n1 tE DM) (lf (wS 440))) (nd DF (n1 fE tE) (lf fE)))))) (nd wy (nd AT (nd (KA P) (nd (wS 68) (nd (cU "divisor" 337 28 2 3 128 345) (n1 CY BG) (n1 wA tE)) (nd BF (n1 fE B6) (lf tE))) (nd (wB 99) (nd tE (n1 tE B3) (lf tE)) (nd D2 (n1 (tN 645 dH) (fU "_law_hall" 80)) (lf (tN 827 ["self"]))))) (nd (wF 52 49 "chancehall.errors" 194) (nd (Kk P) (nd (cU "is_ratio" 365 48 1 3 144 371) (n1 Fc tE) (n1 (wS 404) Be)) (nd fE (n1 tE fE) (lf Fh))) (nd (EX P) (nd (tN 409 cX) (n1 DS tE) (lf E7)) (nd (tN 502 ["many"]) (n1 (⟨.none,none,.fields ⟨i3 197 4 381 <|[]⟩,⟨[]⟩⟩) EA) (lf (fT "place" "Hall.place" (gG 65 3))))))) (nd tE (nd (wS 44) (nd (wF 76 73 "chancehall.errors" 194) (nd (fU "ratio" 15) (n1 (fU "goal_round" 41) Dx) (n1 (tN 703 qT) (fU "_law_ahead" 86))) (nd tE (n1 BM tE) (lf (fU "numbered_ways" 63)))) (nd tE (nd fE (n1 (cV "is_word" 572 155 1 3 298 575) B4) (lf tE)) (nd B9 (n1 F8 DL) (lf tE)))) (nd (Kt P) (nd tE (nd CC (n1 BN (fU "_law_stream" 68)) (lf (wF 412 409 "chancehall.doors" 578))) (nd (fU "behind_door" 29) (n1 fE Ct) (lf (wF 476 473 "chancehall.halls" 765)))) (nd (fU "is_whole" 10) (nd (cV "level" 416 67 1 3 186 419) (n1 tE tE) (lf (tN 770 ["share"]))) (nd tE (n1 GB tE) (lf FB)))))))) (nd (boot_o_2 P) (nd (boot_o_4 P) (nd (boot_o_8 P) (nd fE (nd (wG 209 31) (nd (wC "NoChance" 248 11 62 251) (nd tE (n1 C5 fE) (n1 (Co P) ED)) (nd fE (n1 tE (fV "_law_same" 73 nq 575)) (lf A9))) (nd AF (nd (tN 385 cX) (n1 (tN 554 eE) tE) (lf EZ)) (nd tE (n1 (fT "ways" "Door.ways" (gG 55 1)) (fU "_law_built" 79)) (lf (fT "__init__" "Hall.__init__" (gG 65 0)))))) (nd wA (nd AH (nd tE (n1 tE (wS 525)) (n1 F9 tE)) (nd tE (n1 (MY P) tE) (lf tE))) (nd tE (nd (fU "over" 20) (n1 fE (tN 924 u_)) (lf (wF 431 428 "chancehall.doors" 578))) (nd (fU "chosen_doors" 34) (n1 (wB 364) fE) (lf E8))))) (nd (KB P) (nd (wC "NoNumber" 216 7 38 219) (nd wA (nd C3 (n1 (fU "plan_round" 40) (fT "offers" "Hall.offers" (gG 65 6))) (n1 (⟨.none,none,.fields ⟨i3 203 4 400 <|[]⟩,⟨[]⟩⟩) D6)) (nd (tN 433 xg) (n1 DJ Fs) (lf EW))) (nd (MV P) (nd tE (n1 EM fE) (lf (wS 423))) (nd fE (n1 A5 tE) (lf (cO "size" "Hall.size" 824 253 1 3 483 828))))) (nd AL (nd (wC "NoRoom" 280 15 86 283) (nd fE (n1 fE FE) (n1 wA fE)) (nd (fU "check_plan" 28) (n1 tE EO) (lf wA))) (nd (wB 118) (nd (cU "under" 406 64 2 3 179 411) (n1 (tN 591 ["room"]) DZ) (lf BY)) (nd CO (n1 tE (tN 1021 rH)) (lf tE)))))) (nd (⟨.none,none,.fields ⟨i3 1 0 20 <|i3 5 0 27 <|i3 7 0 40 <|i3 9 0 52 <|i3 11 0 64 <|i3 13 0 76 <|i3 15 0 88 <|i3 20 0 107 <|i3 26 0 126 <|i3 28 0 133 <|i3 39 0 142 <|i3 48 0 149 <|i3 56 0 156 <|i3 58 0 163 <|i3 60 0 170 <|i3 62 0 177 <|i3 64 0 184 <|i3 67 0 189 <|i3 72 0 196 <|i3 75 0 203 <|i3 82 0 210 <|i3 86 0 217 <|i3 93 0 222 <|i3 96 0 229 <|i3 100 0 236 <|i3 107 0 241 <|i3 111 0 248 <|i3 114 0 255 <|i3 116 0 260 <|i3 123 0 265 <|i3 127 0 270 <|i3 135 0 277 <|i3 140 0 284 <|i3 143 0 291 <|i3 148 0 296 <|i3 155 0 301 <|i3 160 0 308 <|i3 165 0 315 <|i3 168 0 322 <|i3 171 0 327 <|i3 177 0 332 <|i3 182 0 339 <|i3 195 0 374 <|i3 201 0 393 <|i3 207 0 412 <|i3 213 0 431 <|i3 218 0 448 <|i3 221 0 455 <|i3 229 0 462 <|i3 236 0 469 <|i3 245 0 476 <|i3 275 0 535 <|i3 277 0 542 <|i3 288 0 549 <|i3 293 0 556 <|i3 296 0 563 <|i3 303 0 568 <|i3 307 0 575 <|i3 309 0 580 <|i3 318 0 587 <|i3 322 0 594 <|i3 330 0 599 <|i3 347 0 604 <|i3 357 0 609 <|i3 367 0 614 <|i3 374 0 621 <|i3 383 0 628 <|i3 393 0 635 <|i3 395 0 640 <|i3 399 0 647 <|i3 404 0 654 <|i3 412 0 661 <|i3 420 0 666 <|[]⟩,⟨[]⟩⟩) (nd (cU "_wall" 187 1 1 3 15 191) (nd wA (nd AJ (nd (fU "divisor" 11) (n1 DU F7) (n1 (wT 364) (tN 1035 Qa))) (nd (cU "total" 422 72 1 3 191 427) (n1 tE Eg) (lf (tN 777 sU)))) (nd (wS 99) (nd F4 (n1 EF (fU "_law_gcd" 69)) (lf De)) (nd (fU "raised_look" 30) (n1 fE fE) (lf fE)))) (nd (wC "NoName" 232 9 50 235) (nd wA (nd (fU "is_ratio" 16) (n1 (fU "rounds_behind" 42) (tN 885 Ql)) (n1 D4 (fU "_law_surer" 87))) (nd tE (n1 (wF 339 336 "chancehall.doors" 578) tE) (lf (fU "offers_of" 64)))) (nd (tN 323 ["room"]) (nd fE (n1 BO GG) (lf C0)) (nd fE (n1 tE GI) (lf tE))))) (nd (wF 27 24 "chancehall.errors" 194) (nd AN (nd (wC "NoShare" 264 13 74 267) (nd tE (n1 fE (Db P)) (n1 fE tE)) (nd D3 (n1 BV FI) (lf tE))) (nd (wF 107 104 "chancehall.errors" 194) (nd tE (n1 (fU "is_word" 48) Bn) (lf (Lo P))) (nd EB (n1 BU (fU "_law_chosen" 81)) (lf (tN 834 ["self"]))))) (nd wA (nd (tN 293 dH) (nd (cU "plus" 374 56 2 3 151 379) (n1 A6 tE) (lf (wC "Toss" 717 207 410 720))) (nd fE (n1 tE FO) (lf (wC "Hall" 808 245 474 811)))) (nd tE (nd (fU "level" 23) (n1 CD (tN 938 rH)) (lf fE)) (nd (tN 509 Ad) (n1 (fT "__init__" "Sure.__init__" (gG 56 0)) DI) (lf (fT "check_room" "Hall.check_room" (gG 65 4))))))))) (nd (boot_o_6 P) (nd (boot_o_10 P) (nd tE (nd (wB 31) (nd tE (nd Do (n1 fE tE) (n1 (wS 385) tE)) (nd tE (n1 F6 fE) (lf tE))) (nd (AE P) (nd (fU "minus" 18) (n1 (fU "plan_rounds" 44) A') (lf (fT "__init__" "Toss.__init__" (gG 58 0)))) (nd Cf (n1 Ee EC) (lf BS)))) (nd tE (nd (wB 80) (nd (tN 368 xG) (n1 (tN 535 nH) tE) (n1 (tN 710 ["leads"]) CM)) (nd (cU "fits" 441 82 2 3 205 446) (n1 (⟨.none,none,.fields ⟨i3 184 4 346 <|i3 190 4 353 <|i3 193 4 360 <|[]⟩,⟨[]⟩⟩) CU) (lf D5))) (nd BA (nd EU (n1 tE (fU "_law_is_ratio" 71)) (lf fE)) (nd DB (n1 wA tE) (lf fE))))) (nd fE (nd tE (nd tE (nd fE (n1 Dn Fk) (n1 (wF 393 390 "chancehall.doors" 578) fE)) (nd (fU "greatest" 25) (n1 fE (fU "_law_share" 75)) (lf fE))) (nd (⟨.none,none,.fields ⟨i3 22 4 114 <|[]⟩,⟨[]⟩⟩) (nd (cU "times" 390 60 2 3 165 395) (n1 tE tE) (lf (wT 404))) (nd tE (n1 (tN 650 ["leads","name","pay"]) Ff) (lf tE)))) (nd (wB 56) (nd tE (nd tE (n1 (tN 547 ["hall"]) fE) (n1 tE EK)) (nd Gc (n1 FV fE) (lf tE))) (nd fE (nd tE (n1 (fU "check_room_name" 51) tE) (lf (wB 440))) (nd tE (n1 (tN 676 tL) (fU "_law_below" 83)) (lf (tN 849 dH))))))) (nd wx (nd AS (nd tE (nd (wB 68) (nd F3 (n1 tE tE) (n1 (MO P) (fU "_law_size" 85))) (nd tE (n1 (fU "check_pairs" 53) tE) (lf (fU "numbers_of" 62)))) (nd (wT 31) (nd fE (n1 fE Ev) (lf (CB P))) (nd EJ (n1 tE DA) (lf tE)))) (nd tE (nd tE (nd BC (n1 D7 (fU "_law_cell" 67)) (n1 (wB 404) FU)) (nd (tN 452 sH) (n1 fE (fU "_law_door" 77)) (lf F0))) (nd DH (nd tE (n1 tE fE) (lf tE)) (nd tE (n1 (wC "Sure" 663 195 372 666) tE) (lf (cO "place" "Hall.place" 838 259 2 3 497 843)))))) (nd (AR P) (nd (wB 44) (nd tE (nd (cU "ratio" 356 39 2 3 137 362) (n1 FM GA) (n1 tE DE)) (nd fE (n1 tE fE) (lf E6))) (nd fE (nd (tN 401 cX) (n1 FS tE) (lf (⟨.none,none,.fields ⟨i3 215 4 436 <|[]⟩,⟨[]⟩⟩))) (nd tE (n1 (wG 656 364) F2) (lf (fT "names" "Hall.names" (gG 65 2)))))) (nd tE (nd (fT "__init__" "NoRoom.__init__" (gG 7 0)) (nd tE (n1 tE C1) (lf tE)) (nd Cb (n1 (tN 638 ["self"]) tE) (lf tE))) (nd (cU "is_whole" 330 26 1 3 121 334) (nd CA (n1 fE (fU "_law_same" 73)) (lf tE)) (nd (fU "lowered" 38) (n1 FK fE) (lf F5))))))))
def S1(w:World)(os:OsState):SharedT:=⟨II w.params,668,{},⟨[]⟩,{},1072,os⟩
def e1:Pos:=⟨420,0,421,106⟩
def KH:Params->Frag:=λP=>((nat_lit 2,boot_o_2 P)::(nat_lit 3,zM P [("_law_takes",1077,672),("law",1083,677)] 88)::(nat_lit 15,tE)::(nat_lit 17,tN 190 ["k"])::(nat_lit 18,tE)::(nat_lit 20,cU "_wall" 187 1 1 3 15 191)::(nat_lit 21,AT)::(nat_lit 22,AS)::(nat_lit 29,tE)::(nat_lit 30,AR P)::(nat_lit 31,AQ)::(nat_lit 32,(wG 209 31))::(nat_lit 35,(wT 31))::(nat_lit 42,tE)::(nat_lit 43,AO P)::(nat_lit 44,AN)::(nat_lit 47,(wT 31))::(nat_lit 54,tE)::(nat_lit 55,AM P)::(nat_lit 56,AL)::(nat_lit 59,(wT 31))::(nat_lit 66,tE)::(nat_lit 67,AK P)::(nat_lit 68,AJ)::(nat_lit 71,(wT 31))::(nat_lit 78,tE)::(nat_lit 79,AI P)::(nat_lit 80,AH)::(nat_lit 83,(wT 31))::(nat_lit 90,tE)::(nat_lit 92,tN 293 dH)::(nat_lit 93,tE)::(nat_lit 95,AG)::(nat_lit 96,AF)::(nat_lit 97,tN 298 ["room"])::(nat_lit 98,AE P)::(nat_lit 99,AD)::(nat_lit 102,(wT 31))::(nat_lit 109,tE)::(nat_lit 111,tN 318 dH)::(nat_lit 112,tE)::(nat_lit 114,BA)::(nat_lit 115,DV)::(nat_lit 116,tN 323 ["room"])::(nat_lit 117,EX P)::(nat_lit 118,DH)::(nat_lit 121,tE)::(nat_lit 123,tN 333 ["thing"])::(nat_lit 124,tE)::(nat_lit 126,cU "is_whole" 330 26 1 3 121 334)::(nat_lit 127,GH)::(nat_lit 128,tE)::(nat_lit 130,Do)::(nat_lit 131,tE)::(nat_lit 133,cU "divisor" 337 28 2 3 128 345)::(nat_lit 134,F3)::(nat_lit 135,F_)::(nat_lit 136,C3)::(nat_lit 137,tE)::(nat_lit 139,tN 359 Kd)::(nat_lit 140,tE)::(nat_lit 142,cU "ratio" 356 39 2 3 137 362)::(nat_lit 143,BB)::(nat_lit 144,tE)::(nat_lit 146,tN 368 xG)::(nat_lit 147,tE)::(nat_lit 149,cU "is_ratio" 365 48 1 3 144 371)::(nat_lit 150,BC)::(nat_lit 151,tE)::(nat_lit 153,tN 377 cX)::(nat_lit 154,tE)::(nat_lit 156,cU "plus" 374 56 2 3 151 379)::(nat_lit 157,CC)::(nat_lit 158,tE)::(nat_lit 160,tN 385 cX)::(nat_lit 161,tE)::(nat_lit 163,cU "minus" 382 58 2 3 158 387)::(nat_lit 164,F4)::(nat_lit 165,tE)::(nat_lit 167,tN 393 cX)::(nat_lit 168,tE)::(nat_lit 170,cU "times" 390 60 2 3 165 395)::(nat_lit 171,ET)::(nat_lit 172,tE)::(nat_lit 174,tN 401 cX)::(nat_lit 175,tE)::(nat_lit 177,cU "over" 398 62 2 3 172 403)::(nat_lit 178,EU)::(nat_lit 179,tE)::(nat_lit 181,tN 409 cX)::(nat_lit 182,tE)::(nat_lit 184,cU "under" 406 64 2 3 179 411)::(nat_lit 185,D')::(nat_lit 186,tE)::(nat_lit 189,cV "level" 416 67 1 3 186 419)::(nat_lit 190,CA)::(nat_lit 191,tE)::(nat_lit 193,tN 425 Jv)::(nat_lit 194,tE)::(nat_lit 196,cU "total" 422 72 1 3 191 427)::(nat_lit 197,BF)::(nat_lit 198,tE)::(nat_lit 200,tN 433 xg)::(nat_lit 201,tE)::(nat_lit 203,cU "greatest" 430 75 1 3 198 436)::(nat_lit 204,D3)::(nat_lit 205,tE)::(nat_lit 207,tN 444 Pu)::(nat_lit 208,tE)::(nat_lit 210,cU "fits" 441 82 2 3 205 446)::(nat_lit 211,B')::(nat_lit 212,tE)::(nat_lit 214,tN 452 sH)::(nat_lit 215,tE)::(nat_lit 217,DC)::(nat_lit 218,Gc)::(nat_lit 219,tE)::(nat_lit 222,Cb)::(nat_lit 223,B5)::(nat_lit 224,tE)::(nat_lit 226,Cf)::(nat_lit 227,tE)::(nat_lit 229,D2)::(nat_lit 230,EJ)::(nat_lit 231,tE)::(nat_lit 233,tN 480 rT)::(nat_lit 234,tE)::(nat_lit 236,EB)::(nat_lit 237,B9)::(nat_lit 238,tE)::(nat_lit 241,ER)::(nat_lit 242,DB)::(nat_lit 243,tE)::(nat_lit 245,tN 502 ["many"])::(nat_lit 246,tE)::(nat_lit 248,CO)::(nat_lit 249,DF)::(nat_lit 250,tE)::(nat_lit 252,tN 509 Ad)::(nat_lit 253,tE)::(nat_lit 255,cU "lowered" 506 114 2 3 250 511)::(nat_lit 256,C5)::(nat_lit 257,tE)::(nat_lit 260,DU)::(nat_lit 261,CY)::(nat_lit 262,tE)::(nat_lit 265,BE)::(nat_lit 266,Dn)::(nat_lit 267,tE)::(nat_lit 270,FM)::(nat_lit 271,Bz)::(nat_lit 272,tE)::(nat_lit 274,tN 535 nH)::(nat_lit 275,tE)::(nat_lit 277,Fc)::(nat_lit 278,D7)::(nat_lit 279,tE)::(nat_lit 281,tN 545 jR)::(nat_lit 282,tN 547 ["hall"])::(nat_lit 284,A6)::(nat_lit 285,BN)::(nat_lit 286,tE)::(nat_lit 288,tN 554 eE)::(nat_lit 289,tN 557 ["hall","chosen"])::(nat_lit 291,EV)::(nat_lit 292,EF)::(nat_lit 293,tE)::(nat_lit 296,EM)::(nat_lit 297,D1)::(nat_lit 298,tE)::(nat_lit 301,cV "is_word" 572 155 1 3 298 575)::(nat_lit 302,FS)::(nat_lit 303,tE)::(nat_lit 305,tN 583 sO)::(nat_lit 306,tE)::(nat_lit 308,BO)::(nat_lit 309,DS)::(nat_lit 310,tE)::(nat_lit 312,tN 591 ["room"])::(nat_lit 313,tE)::(nat_lit 315,EN)::(nat_lit 316,CD)::(nat_lit 317,tE)::(nat_lit 319,tN 598 ["chance"])::(nat_lit 320,tE)::(nat_lit 322,F6)::(nat_lit 323,DO)::(nat_lit 324,tE)::(nat_lit 327,CF)::(nat_lit 328,DJ)::(nat_lit 329,tE)::(nat_lit 332,BV)::(nat_lit 333,BM)::(nat_lit 341,tE)::(nat_lit 343,tN 629 vd)::(nat_lit 344,tE)::(nat_lit 346,FV)::(nat_lit 347,FA)::(nat_lit 348,tE)::(nat_lit 350,tN 638 ["self"])::(nat_lit 351,tE)::(nat_lit 353,cO "ways" "Door.ways" 635 190 1 3 348 639)::(nat_lit 354,Ee)::(nat_lit 355,tE)::(nat_lit 357,tN 645 dH)::(nat_lit 358,tE)::(nat_lit 360,A5)::(nat_lit 361,EI)::(nat_lit 362,tN 650 ["leads","name","pay"])::(nat_lit 363,B7 P)::(nat_lit 364,BU)::(nat_lit 365,F8)::(nat_lit 366,(wG 656 364))::(nat_lit 369,(wT 364))::(nat_lit 376,tE)::(nat_lit 378,tN 676 tL)::(nat_lit 379,tE)::(nat_lit 381,GB)::(nat_lit 382,FK)::(nat_lit 383,tN 683 ["leads"])::(nat_lit 384,Co P)::(nat_lit 385,A8)::(nat_lit 388,(wT 364))::(nat_lit 395,tE)::(nat_lit 397,tN 703 qT)::(nat_lit 398,tE)::(nat_lit 400,F9)::(nat_lit 401,Fn)::(nat_lit 402,tN 710 ["leads"])::(nat_lit 403,GL P)::(nat_lit 404,D4)::(nat_lit 407,(wT 404))::(nat_lit 414,tE)::(nat_lit 416,EZ)::(nat_lit 417,tE)::(nat_lit 419,Go)::(nat_lit 420,De)::(nat_lit 421,tE)::(nat_lit 422,CB P)::(nat_lit 423,D9)::(nat_lit 426,(wT 404))::(nat_lit 433,tE)::(nat_lit 436,C0)::(nat_lit 437,E7)::(nat_lit 438,tE)::(nat_lit 439,EQ P)::(nat_lit 440,BY)::(nat_lit 443,tE)::(nat_lit 445,tN 770 ["share"])::(nat_lit 446,tE)::(nat_lit 448,A9)::(nat_lit 449,B8)::(nat_lit 450,tE)::(nat_lit 452,tN 777 sU)::(nat_lit 453,tE)::(nat_lit 455,C8)::(nat_lit 456,EW)::(nat_lit 457,tE)::(nat_lit 459,FX)::(nat_lit 460,tE)::(nat_lit 462,E6)::(nat_lit 463,BI)::(nat_lit 464,tE)::(nat_lit 466,D5)::(nat_lit 467,tE)::(nat_lit 469,Fh)::(nat_lit 470,F0)::(nat_lit 478,tE)::(nat_lit 481,C4)::(nat_lit 482,BS)::(nat_lit 483,tE)::(nat_lit 485,tN 827 ["self"])::(nat_lit 486,tE)::(nat_lit 488,cO "size" "Hall.size" 824 253 1 3 483 828)::(nat_lit 489,CL)::(nat_lit 490,tE)::(nat_lit 492,tN 834 ["self"])::(nat_lit 493,tE)::(nat_lit 495,cO "names" "Hall.names" 831 256 1 3 490 835)::(nat_lit 496,E8)::(nat_lit 497,tE)::(nat_lit 499,tN 841 yF)::(nat_lit 500,tE)::(nat_lit 502,cO "place" "Hall.place" 838 259 2 3 497 843)::(nat_lit 503,BQ)::(nat_lit 504,tE)::(nat_lit 506,tN 849 dH)::(nat_lit 507,tE)::(nat_lit 509,FB)::(nat_lit 510,F5)::(nat_lit 511,tE)::(nat_lit 513,tN 857 uR)::(nat_lit 514,tE)::(nat_lit 516,F7)::(nat_lit 517,BG)::(nat_lit 518,tE)::(nat_lit 521,E9)::(nat_lit 522,Fk)::(nat_lit 523,tN 869 ["numbers","offered","share"])::(nat_lit 524,Db P)::(nat_lit 525,Dx)::(nat_lit 526,GA)::(nat_lit 527,(wG 875 525))::(nat_lit 530,tE)::(nat_lit 532,tN 885 Ql)::(nat_lit 533,tE)::(nat_lit 535,C6)::(nat_lit 536,FE)::(nat_lit 537,tE)::(nat_lit 539,GE)::(nat_lit 540,tE)::(nat_lit 542,C1)::(nat_lit 543,C7)::(nat_lit 544,tE)::(nat_lit 546,A')::(nat_lit 547,tE)::(nat_lit 549,B3)::(nat_lit 550,Ev)::(nat_lit 551,tE)::(nat_lit 553,B2)::(nat_lit 554,tE)::(nat_lit 556,Bn)::(nat_lit 557,B4)::(nat_lit 558,tE)::(nat_lit 560,tN 924 u_)::(nat_lit 561,tE)::(nat_lit 563,FG)::(nat_lit 564,GG)::(nat_lit 565,tE)::(nat_lit 568,DZ)::(nat_lit 569,DM)::(nat_lit 577,tE)::(nat_lit 580,Eg)::(nat_lit 581,B6)::(nat_lit 582,tE)::(nat_lit 584,Fs)::(nat_lit 585,tE)::(nat_lit 587,Fa)::(nat_lit 588,FI)::(nat_lit 589,tE)::(nat_lit 591,Cn)::(nat_lit 592,tE)::(nat_lit 594,CU)::(nat_lit 595,C9)::(nat_lit 596,tE)::(nat_lit 599,C2)::(nat_lit 600,EO)::(nat_lit 601,tE)::(nat_lit 604,FO)::(nat_lit 605,Ct)::(nat_lit 606,tE)::(nat_lit 609,BH)::(nat_lit 610,EC)::(nat_lit 611,tE)::(nat_lit 614,DA)::(nat_lit 615,B1)::(nat_lit 616,tE)::(nat_lit 618,Ff)::(nat_lit 619,tE)::(nat_lit 621,DL)::(nat_lit 622,F2)::(nat_lit 623,tE)::(nat_lit 625,FF)::(nat_lit 626,tE)::(nat_lit 628,GI)::(nat_lit 629,EA)::(nat_lit 630,tE)::(nat_lit 632,tN 1021 rH)::(nat_lit 633,tE)::(nat_lit 635,A4)::(nat_lit 636,DI)::(nat_lit 637,tE)::(nat_lit 640,ED)::(nat_lit 641,Da)::(nat_lit 642,tE)::(nat_lit 644,tN 1035 Qa)::(nat_lit 645,tE)::(nat_lit 647,Cc)::(nat_lit 648,D6)::(nat_lit 649,tE)::(nat_lit 651,CH)::(nat_lit 652,tE)::(nat_lit 654,DE)::(nat_lit 655,A7)::(nat_lit 656,tE)::(nat_lit 658,CM)::(nat_lit 659,tE)::(nat_lit 661,Be)::(nat_lit 662,FU)::(nat_lit 663,tE)::(nat_lit 666,EK)::(nat_lit 667,EL)::(nat_lit 668,tE)::(nat_lit 671,cV "_law_takes" 1072 422 3 3 668 1075)::(nat_lit 672,fV "_law_takes" 89 nq 671)::(nat_lit 673,tE)::(nat_lit 676,cV "law" 1078 432 1 3 673 1081)::(nat_lit 677,fV "law" 90 nq 676)::([]:List (Nat×Obj)))
abbrev asH:List Nat:=(KH {strHash:=λ_=>0,shareClass:=λ_=>0,mergeTok:=id,idOf:=λ_=>0,idOfShared:=λ_ _=>0,followText:=λ_=>true,idOfImm:=λ_=>0}).map (·.1)
def KHT(P:Params):Frag:=KH P++[(nat_lit 280,fE),(nat_lit 294,fE),(nat_lit 287,fE)]
abbrev vF:List Nat:=asH++[280,294,287]
noncomputable def qv:Program:=view p [0,2,3,4,5,6,7,8,10,11,13,14,15,16,17,18,19,20,21,23,24,25,27,28,29,30,32,34,36,37,38,39,40,41,42,43,44,45,47,48,50,51,52,53,54,55,56,57,58,59,61,62,63,64,65,67,68,69,70,71,72,73,74,75,76,77,78,79,80,81,82,83,84,85,86,87,88,89,90]
abbrev R:RowW:=PySem.Challenge.rw_chancehall_k53_whole_within_steps.row.toRowW
def Xt(s:Shared):Bool:=xlAt qv [] s&&recOk R.records s
def e:Pos:=⟨432,0,457,51⟩
set_option maxHeartbeats 0
def KM:looksOpen PySem.Challenge.rw_chancehall_k53_whole_within_steps.row.prog=true:=by kernel_rfl
def wsd:PySem.Challenge.rw_chancehall_k53_whole_within_steps.wellSaid=true:=by
 unfold OpenLaw.wellSaid OpenRow.wellSaid OpenRow.partSaid;rw[KM]
 kernel_rfl
def asK:∀P,vF=(KHT P).map (·.1):=λ_=>by kernel_rfl
def pre(w:World):(λos=>topGo treeTable p w 11 p5 12 (S0 w os) (topStub p))=λos=>some (Sa w os,⟨denote treeTable (cE p),cE p,z,B⟩):=by
 rw[Fast.te15667345088766844465,Fast.te14364793385576792824,Fast.te11892475500146522536];kernel_rfl
def block(w:World):(λos=>segRun treeTable p w 11 p5 1 1 (Sa w os) (blockOf (behindTheImports p) (env p) (cE p) z B))=λos=>some (.next,(Sb w os).abs,cE p,z):=by
 rw[Fast.te14374325043358763698,Fast.te14364793385576792824];kernel_rfl
def NS(w:World):(λos=>segRunT treeTable p w 11 p5 1 30000 (Sb w os) (piecesOf ((behindTheImports p).take 89) (env p) (cE p) z B))=λos=>some (.next,S1 w os,cE p,e1):=by
 rw[Fast.te10110043849684766642,Fast.te14364793385576792824];kernel_rfl
def w_{R S A B C X Y Z:Type _}{o:Option R}{f:R->A}{g:R->B}{k:R->C}{h:R->Option S}{f1:S->X}{f2:S->Y}{f3:S->Z}{a:A}{b:B}{c:C}{x:X}{y:Y}{z:Z}(h1:(o.map λr=>(f r,g r,k r,(h r).map f1))=some (a,b,c,some x))(h2:(o.map λr=>(f r,g r,k r,(h r).map f2))=some (a,b,c,some y))(h3:(o.map λr=>(f r,g r,k r,(h r).map f3))=some (a,b,c,some z)):(o.map λr=>(f r,g r,k r,(h r).map λs=>(f1 s,f2 s,f3 s)))=some (a,b,c,some (x,y,z)):=by
 cases o with
 |none=>cases h1
 |some r =>
  simp only[Option.map_some,Option.some.injEq,Prod.mk.injEq]at h1 h2 h3 ⊢;obtain⟨a1,a2,a3,a4⟩:=h1;obtain⟨_,_,_,b4⟩:=h2;obtain⟨_,_,_,c4⟩:=h3;cases hr:h r with
  |none=>rw[hr]at a4;cases a4
  |some s =>
   rw[hr]at a4 b4 c4;refine⟨a1,a2,a3,?_⟩;simp only[Option.map_some,Option.some.injEq]at a4 b4 c4 ⊢;rw[a4,b4,c4]
noncomputable def sR{α:Type}(w:World)(os:OsState)(f:Shared->α):=(segRunT treeTable p w 11 p5 1 50000 (S1 w os) (piecesOf ((behindTheImports p).drop 89) (env p) (cE p) e1 B)).map λr=>(r.1,r.2.2.1,r.2.2.2,(topRun treeTable p w 11 p5 2 r.2.1.abs ⟨doneF .next,cE p,e,B⟩).map f)
def LA(w:World):(λos=>sR w os λs=>openSeen qv [] (importedModules p.main.body) Xt true s)=λ_=>some (.next,cE p,e,some (openGood qv [])):=by
 unfold sR;rw[Fast.te10110043849684766642,Fast.te14364793385576792824,Fast.te14082659384304107361,Fast.te4187177175401517315,Fast.te5923862056798008813];kernel_rfl
def ND(w:World):(λos=>sR w os λs=>staticsOk (importedModules p.main.body) (boot_heap w.params) s.heap&&namesBound p s.heap&&gensDone s&&laidKept (boot_heap w.params) s.heap)=λ_=>some (.next,cE p,e,some (true)):=by
 unfold sR;rw[Fast.te10110043849684766642,Fast.te14364793385576792824,Fast.te14082659384304107361];kernel_rfl
def MG(w:World):(λos=>sR w os λs=>vF.map s.heap.get?)=λ_=>some (.next,cE p,e,some ((KHT w.params).map λp=>some p.2)):=by
 unfold sR;rw[Fast.te10110043849684766642,Fast.te14364793385576792824,Fast.te14082659384304107361];kernel_rfl
def big(w:World):(λos=>sR w os λs=>(staticsOk (importedModules p.main.body) (boot_heap w.params) s.heap&&namesBound p s.heap&&gensDone s&&laidKept (boot_heap w.params) s.heap,openSeen qv [] (importedModules p.main.body) Xt true s,vF.map s.heap.get?))=λ_=>some (.next,cE p,e,some (true,openGood qv [],(KHT w.params).map λp=>some p.2)):=funext λos=>w_ (congrFun (ND w) os) (congrFun (LA w) os) (congrFun (MG w) os)
def left:LeftO p qv [] Xt (λs=>vF.map s.heap.get?) (λw=>(KHT w.params).map λp=>some p.2) 200000 :=
 T9 (boot_open rfl rfl λ_=>rfl) pre block (λw os=>nP.cutAt (congrFun (NS w) os) (nP.last (congrFun (big w) os))) rfl
def hX(s:Shared)(h:Xt s=true):XL qv [] (s.heap.nsMap mainGlobals) s.heap:=xl_of s (Bool.and_eq_true_iff.mp h).1
def hR(s:Shared)(h:Xt s=true):RecFacts R.records s.heap:=recFacts_of (Bool.and_eq_true_iff.mp h).2
end
end H53
noncomputable section
abbrev zb:=List (Option Nat)
abbrev zo:=List Rat
abbrev zd:=List (Nat×Rat)
abbrev zC:=Option Int
abbrev zD:=List Nat
abbrev zS:=List Int
abbrev xw:=Option Nat
abbrev xf:=List Bool
abbrev xi:=List zo
def xa{p:Prop}(h:p:=by decide):p:=h
def xB{p:Prop}(h:p:=by lia):p:=h
def xF{p:Prop}(h:p:=by simp):p:=h
abbrev PySem.Shared.zs(s:PySem.Shared):=s.heap.objs.size
open List (range length_cons map_cons append_nil replicate map_nil replicate_succ flatten_cons foldl_cons length_singleton drop_zero lookup_cons all_cons all_map any_cons any_map getElem_zip zip_cons_cons cons_append length_zipIdx getElem_map zipWith_cons_cons zipWith map_singleton range_succ map_take take_nil range' all_eq_true map_const' ext_getElem map_set sum_cons map_replicate)
open Bool (and_eq_true)
open Nat (succ_le_succ mod_lt gcd_comm dvd_refl div_le_self pow_succ)
open Option (getD_none getD_some)
open Int (fdiv)
open Rat (divInt lt_iff le_iff)
namespace L2
open PySem PySem.Spec PyProof.Rows
abbrev xn:=List Keyword
abbrev xl:=List (Str×NameKind)
abbrev xo:=Array Value
abbrev xb:=List Stmt
abbrev xx:=List (Str×Value)
abbrev xj:=List PyData
abbrev zI:=List Env
abbrev zi:=List (Str×Rat)
abbrev ze:=List (Str×Addr)
abbrev zh:=List Expr
abbrev nS:=Sum Int Str
abbrev xk:=List nS
def xU:nS->Value->Bool
 |.inl k,v=>Value.isInt k v
 |.inr x,v=>Value.isStrOf x v
def LN(w:World):nS->Int
 |.inl k=>hashInt k
 |.inr x=>hashStr w x
def fY:∀{k:nS}{v:Value},xU k v->(∃i t,k=Sum.inl i/\v=Value.int i t)\/(∃x t,k=Sum.inr x/\v=Value.str x t)
 |.inl i,v,h=>by
  obtain⟨t,e⟩:=Value.isInt_shape (k:=i) (v:=v) h;exact .inl ⟨i,t,rfl,e⟩
 |.inr x,v,h=>by
  obtain⟨t,e⟩:=Value.isStrOf_shape (x:=x) (v:=v) h;exact .inr ⟨x,t,rfl,e⟩
def Ua(i:Int)(t:Tok):xU (.inl i) (.int i t):=by simp[xU,Value.isInt]
def Ud(x:Str)(t:Tok):xU (.inr x) (.str x t):=by simp[xU,Value.isStrOf]
def TM(a b:Int):decide ((Sum.inl a:nS)=Sum.inl b)=(a==b):=by
 by_cases e:a=b
 .subst e;simp
 .have h:¬(Sum.inl a:nS)=Sum.inl b:=λq=>e (Sum.inl.inj q);rw[Zp h];exact(beq_eq_false_iff_ne.mpr e).symm
def RC(a b:Str):decide ((Sum.inr a:nS)=Sum.inr b)=decide (a=b):=by
 by_cases e:a=b
 .subst e;simp
 .have h:¬(Sum.inr a:nS)=Sum.inr b:=λq=>e (Sum.inr.inj q);rw[Zp h,Zp e]
def UA(a:Int)(b:Str):decide ((Sum.inl a:nS)=Sum.inr b)=false:=Zp (λq=>nomatch q)
def SV(a:Str)(b:Int):decide ((Sum.inr a:nS)=Sum.inl b)=false:=Zp (λq=>nomatch q)
def jz(prog:Program)(w:World):PySem.KeyKind prog w nS where
 is:=xU
 hash:=LN w
 inj:=λv a b ha hb=>by
  rcases fY ha with⟨i,t,rfl,rfl⟩|⟨x,t,rfl,rfl⟩
  .rcases fY hb with⟨j,u,rfl,e⟩|⟨y,u,rfl,e⟩
   .injection e with e1 _;rw[e1]
   .exact nomatch e
  .rcases fY hb with⟨j,u,rfl,e⟩|⟨y,u,rfl,e⟩
   .exact nomatch e
   .injection e with e1 _;rw[e1]
 byValue:=λk v h=>by
  rcases fY h with⟨i,t,rfl,rfl⟩|⟨x,t,rfl,rfl⟩<;>rfl
 pyHash:=λhv h=>by
  rcases fY hv with⟨i,t,rfl,rfl⟩|⟨x,t,rfl,rfl⟩
  .exact wpAny_pyHash_int h
  .exact wpAny_pyHash_str h
 eqBool:=λhu hv h=>by
  rcases fY hu with⟨i,t,rfl,rfl⟩|⟨x,t,rfl,rfl⟩
  .rcases fY hv with⟨j,u,rfl,rfl⟩|⟨y,u,rfl,rfl⟩
   .rw[TM]at h;exact wpAny_eqBool_int h
   .rw[UA]at h;exact SeqAt.EqAt.int_str i t y u _ _ _ _ h
  .rcases fY hv with⟨j,u,rfl,rfl⟩|⟨y,u,rfl,rfl⟩
   .rw[SV]at h;exact SeqAt.EqAt.str_int x t j u _ _ _ _ h
   .rw[RC]at h;exact wpAny_eqBool_str h
 «strs»:=λk x t v h=>by
  rcases fY h with⟨i,u,rfl,e⟩|⟨y,u,rfl,e⟩
  .exact nomatch e
  .injection e with e1 _;subst e1;cases v<;>rfl
def Oa(prog:Program)(w:World)(i:Int)(t:Tok):(jz prog w).is (.inl i) (.int i t):=Ua i t
def Mv(prog:Program)(w:World)(x:Str)(t:Tok):(jz prog w).is (.inr x) (.str x t):=Ud x t
inductive V where
 |non|bl (b:Bool)|int (i:Int)|str (x:Str)|byt (b:Array UInt8)|flt (b:UInt64)|ref (a:Addr)|ty (n:String)
 deriving DecidableEq
abbrev xp:=Option V
abbrev xy:=List (nS×V)
abbrev xz:=List (Str×V)
abbrev Β:=List V
def z4:V->Value->Prop
 |.non,u=>u=Value.none
 |.bl b,u=>u=Value.bool b
 |.int i,u=>∃t,u=Value.int i t
 |.str x,u=>∃t,u=Value.str x t
 |.byt b,u=>∃t,u=Value.bytes b t
 |.flt b,u=>∃t,u=Value.float b t
 |.ref a,u=>u=Value.ref a
 |.ty n,u=>u=Value.type n
abbrev z5:Β->Δ->Prop:=Paired z4
def z5.length{xs:Β}{us:Δ}(r:z5 xs us):xs.length=us.length:=Paired.length r
theorem z5.get:∀{xs:Β}{us:Δ}{i:Nat}{x:V},z5 xs us->xs[i]?=some x->∃u,us[i]?=some u/\z4 x u
 |_,_,_,_,.nil,e=>by simp at e
 |_,_,0,_,.cons r _,e=>by simp at e;subst e;exact⟨_,rfl,r⟩
 |_,_,i+1,x,.cons _ t,e=>by
  obtain⟨u,h1,h2⟩:=z5.get (i:=i) (x:=x) t (by simpa using e);exact⟨u,by simpa using h1,h2⟩
theorem z5.set{x:V}{u:Value}(r:z4 x u):∀{xs:Β}{us:Δ}(i:Nat),z5 xs us->z5 (xs.set i x) (us.set i u)
 |_,_,_,.nil=>.nil
 |_,_,0,.cons _ t=>.cons r t
 |_,_,i+1,.cons q t=>.cons q (z5.set r i t)
theorem z5.append:∀{xs ys:Β}{us ws:Δ},z5 xs us->z5 ys ws->z5 (xs++ys) (us++ws)
 |_,_,_,_,.nil,s=>s
 |_,_,_,_,.cons r t,s=>.cons r (z5.append t s)
theorem z5.take:∀{xs:Β}{us:Δ}(n:Nat),z5 xs us->z5 (xs.take n) (us.take n)
 |_,_,0,_=>.nil
 |_,_,_+1,.nil=>.nil
 |_,_,n+1,.cons r t=>.cons r (z5.take n t)
theorem z5.drop:∀{xs:Β}{us:Δ}(n:Nat),z5 xs us->z5 (xs.drop n) (us.drop n)
 |_,_,0,r=>r
 |_,_,_+1,.nil=>.nil
 |_,_,n+1,.cons _ t=>z5.drop n t
def vN:xp->Ψ->Prop
 |some v,some u=>z4 v u
 |none,none=>True
 |_,_=>False
def KV{κ:Type} : List (κ×V)->List (κ×Value)->Prop:=Paired λ(p:κ×V)(q:κ×Value)=>p.1=q.1/\z4 p.2 q.2
def kV:nS->V
 |.inl i=>.int i
 |.inr x=>.str x
inductive HO where
  |lst (xs:Β)
  |tup (xs:Β)
  |dK (kvs:xy)
  |set (S:Int->Bool) (n:Nat)
  |ins (C dx:Addr) (fs:xz)
  |own (x:Addr)
  |xd (fs:xz)
  |met (f x:Addr)
  |rng (lo hi:Int)
  |frz (o:Obj) (u:HO)
  |tbl (ps:xo)
  |ext (φ:Heap->Prop)
abbrev Hp:=Addr->Option HO
def upd(H:Hp)(a:Addr)(o:HO):Hp:=λb=>if b=a then some o else H b
variable{H H':Hp}{a b x e:Addr}{o o':HO}{P:Program}{w:World}{h h':Heap}
def cj : upd H a o a=some o:=by unfold upd;rw[ZY rfl]
def bZ(h:b≠a):upd H a o b=H b:=by unfold upd;rw[ZZ h]
def V_{u:HO}(h:H a=some o)(h':H b=some u)(d:o≠u):a≠b:=by
 intro e;subst e;rw[h]at h';exact d (Option.some.inj h')
def jm(h:H a=some o)(h':H b=none):a≠b:=by
 intro e;subst e;rw[h]at h';cases h'
section
variable(P:Program)(w:World)
def fX(H:Hp)(h:Heap)(a:Addr):HO->Prop
 |.lst xs=>xs.length<=sizeLine/\∃(its:Δ)(n:Nat),z5 xs its/\h.get? a=some { cls:=.type "list",data:=.seq its.toArray n }
 |.tup xs=>xs.length<=sizeLine/\∃its:Δ,z5 xs its/\IsTup h a its.toArray
 |.dK kvs=>kvs.length<=sizeLine/\(a==sysModules)=false/\∃vs,KV kvs vs/\h.DictOf (jz P w) a vs
 |.set S n=>h.SetOf (intKind P w) a S n
 |.ins C dx fs=>H dx=some (.own a)/\fs.length<=1000/\dx≠a/\h.get? a=some (instObj C dx) /\
   ∃mA,h.Ns1 dx mA/\(∀f,vN (fs.lookup f) (mA f))/\PySem.Within mA (fs.map (·.1))
 |.own _=>∃o,h.get? a=some o
 |.xd fs=>∃mA,h.Ns1 a mA/\∀f,vN (fs.lookup f) (mA f)
 |.rng lo hi=>∃t u v,h.get? a=some { cls:=.type "range",data:=.fields #[.int lo t,.int hi u,.int 1 v] }
 |.frz o u=>h.get? a=some o/\fX H h a u
 |.tbl ps=>h.get? a=some { cls:=.none,data:=.fields ps }
 |.met f x=>h.get? a=some (methodObj (.ref f) (.ref x))
 |.ext φ=>φ h/\(∃o,h.get? a=some o)/\∀h1 h2:Heap,φ h1->(∀o,h1.get? a=some o->h2.get? a=some o)->φ h2
def HOk(H:Hp)(h:Heap):Prop:=∀a o,H a=some o->fX P w H h a o
end
def fX.lt(x:fX P w H h a o):a<h.objs.size:=by
 cases o with
 |lst xs=>obtain⟨_,_,_,_,e⟩:=x;exact aJ e
 |tup xs=>obtain⟨_,_,_,p⟩:=x;exact p.lt
 |dK kvs=>obtain⟨_,_,_,_,o,_,_,e,_⟩:=x;exact aJ e
 |set S n=>obtain⟨o,_,_,_,e,_⟩:=x;exact aJ e
 |ins C dx fs=>obtain⟨_,_,_,e,_⟩:=x;exact aJ e
 |own y=>obtain⟨_,e⟩:=x;exact aJ e
 |xd fs=>obtain⟨_,⟨_,_,_,e,_⟩,_⟩:=x;exact aJ e
 |rng lo hi=>obtain⟨_,_,_,e⟩:=x;exact aJ e
 |frz ob u=>obtain⟨e,_⟩:=x;exact aJ e
 |tbl ps=>exact aJ (show h.get? a=some _ from x)
 |met f y=>exact aJ (show h.get? a=some _ from x)
 |ext φ=>obtain⟨_,⟨_,e⟩,_⟩:=x;exact aJ e
def fX.stay(x:fX P w H h a o)(k:∀b u,(b=a\/H b=some (.own a))->h.get? b=some u->h'.get? b=some u)
 (ho:∀b,H b=some (.own a)->H' b=some (.own a))(ht:∀b xs,H b=some (.tup xs)->H' b=some (.tup xs)):fX P w H' h' a o:=by
 induction o with
 |lst xs=>obtain⟨z,its,n,r,e⟩:=x;exact⟨z,its,n,r,k _ _ (.inl rfl) e⟩
 |tup xs=>obtain⟨z,its,r,ob,e,c⟩:=x;exact⟨z,its,r,ob,k _ _ (.inl rfl) e,c⟩
 |dK kvs=>obtain⟨z,y,vs,r,ob,es,ep,e,c⟩:=x;exact⟨z,y,vs,r,ob,es,ep,k _ _ (.inl rfl) e,c⟩
 |set S n=>obtain⟨ob,es,ep,t,e,c⟩:=x;exact⟨ob,es,ep,t,k _ _ (.inl rfl) e,c⟩
 |ins C dx fs =>
  obtain⟨d,z,ne,e,mA,⟨od,es,ep,e2,c⟩,r⟩:=x;exact⟨ho _ d,z,ne,k _ _ (.inl rfl) e,mA,⟨od,es,ep,k _ _ (.inr d) e2,c⟩,r⟩
 |own y=>obtain⟨ob,e⟩:=x;exact⟨ob,k _ _ (.inl rfl) e⟩
 |xd fs=>obtain⟨mA,⟨od,es,ep,e,c⟩,r⟩:=x;exact⟨mA,⟨od,es,ep,k _ _ (.inl rfl) e,c⟩,r⟩
 |rng lo hi=>obtain⟨t,u,v,e⟩:=x;exact⟨t,u,v,k _ _ (.inl rfl) e⟩
 |frz ob u ih=>obtain⟨e,q⟩:=x;exact⟨k _ _ (.inl rfl) e,ih q⟩
 |tbl ps =>
  have e:h.get? a=some { cls:=.none,data:=.fields ps }:=x;show h'.get? a=some { cls:=.none,data:=.fields ps };exact k a _ (.inl rfl) e
 |met f y =>
  have e:h.get? a=some (methodObj (.ref f) (.ref y)):=x;show h'.get? a=some (methodObj (.ref f) (.ref y));exact k a _ (.inl rfl) e
 |ext φ=>obtain⟨p,⟨o,e⟩,st⟩:=x;exact⟨st _ _ p λo q=>k _ _ (.inl rfl) q,⟨o,k _ _ (.inl rfl) e⟩,st⟩
def HOk.lt(x:HOk P w H h)(e:H a=some o):a<h.objs.size:=(x a o e).lt
def HOk.fresh(x:HOk P w H h)(e:h.objs.size<=a):H a=none:=by
 cases q:H a with
 |none=>rfl
 |some u=>exact absurd (aQ (x.lt q) e) (X9 _)
def HOk.kept(x:HOk P w H h)(k:∀b u,h.get? b=some u->h'.get? b=some u):HOk P w H h':=λa o e =>
 (x a o e).stay (λb u _ q=>k b u q) (λ_ q=>q) λ_ _ q=>q
def HOk.laid(x:HOk P w H h)(k:∀b u,h.get? b=some u->h'.get? b=some u)(hp:h.objs.size<=a)(new:fX P w (upd H a o) h' a o):HOk P w (upd H a o) h':=λb u e=>by
 have hn:=x.fresh hp;by_cases hb:b=a
 .subst hb;rw[cj]at e;cases e;exact new
 .rw[bZ hb]at e;exact(x b u e).stay (λc v _ q=>k c v q) (λc q=>by rwa[bZ (jm q hn)]) λc xs q=>by rwa[bZ (jm q hn)]
def Rd(H:Hp)(a:Addr)(u:HO):Prop:=H a=some u\/∃o,H a=some (.frz o u)
def Rd.of{u:HO}(h:H a=some u):Rd H a u:=.inl h
def Rd.ok{u:HO}(r:Rd H a u)(x:HOk P w H h):fX P w H h a u:=by
 rcases r with r|⟨o,r⟩
 .exact x a u r
 .obtain⟨_,q⟩:=x a _ r;exact q
def vi:Option HO->Prop
 |some (.lst _)=>True
 |some (.dK _)=>True
 |some (.set _ _)=>True
 |some (.ins _ _ _)=>True
 |some (.ext _)=>True
 |_=>False
def HOk.write(ok:HOk P w H h)(mu:vi (H x))(he:e=x\/H e=some (.own x))(k:∀b u,b≠e->h.get? b=some u->h'.get? b=some u)(h9:∃u,h'.get? e=some u)
 (new:fX P w (upd H x o') h' x o'):HOk P w (upd H x o') h':=λb u q=>by
 have ii:∀c y,H c=some (.own y)->c≠x:=λc y r z=>by subst z;rw[r]at mu;exact mu
 have kD:∀c xs,H c=some (.tup xs)->c≠x:=λc xs r z=>by subst z;rw[r]at mu;exact mu
 by_cases hb:b=x
 .subst hb;rw[cj]at q;cases q;exact new
 .rw[bZ hb]at q;by_cases hbe:b=e
  .have q':H b=some (.own x):=by
    rcases he with z|z
    .exact absurd (hbe.trans z) hb
    .rw[hbe];exact z
   rw[q]at q';cases q';obtain⟨v,hv⟩:=h9;exact⟨v,by rwa[hbe]⟩
  .refine(ok b u q).stay (λc v hc r=>k c v ?_ r) (λc r=>by rwa[bZ (ii c b r)]) λc xs r=>by rwa[bZ (kD c xs r)]
   rcases hc with rfl|hc
   .exact hbe
   .rintro rfl;rcases he with z|z
    .exact ii c b hc z
    .rw[hc]at z;cases z;exact hb rfl
structure Un(fs ex:Φ)(H H':Hp)(h h':Heap):Prop where
 keep:∀b o,h.get? b=some o->H b=none->b∉fs->b∉ex->h'.get? b=some o
 slot:∀b o,h.get? b=some o->H b=none->b∈fs->b∉ex->∃sl,h'.get? b=some { o with slots:=sl }
 free:∀b o,h.get? b=some o->H b=none->b∉ex->H' b=none
 there:∀b o,h.get? b=some o->b∉ex->∃o',h'.get? b=some o'
 tups:∀b xs,H b=some (.tup xs)->H' b=some (.tup xs)
 frzs:∀b o u,H b=some (.frz o u)->H' b=some (.frz o u)
 tbls:∀b ps,H b=some (.tbl ps)->∃more,H' b=some (.tbl (ps++more))
section
variable{fs fs' ex ex':Φ}{H H1 H2:Hp}{h h1 h2 h':Heap}{a x e:Addr}{o:HO}
def Un.any(u:Un fs ex H H1 h h1){ob:Obj}(q:h.get? b=some ob)(n:H b=none)(hx:b∉ex):∃sl,h1.get? b=some { ob with slots:=sl }:=by
 by_cases hb:b∈fs
 .exact u.slot b ob q n hb hx
 .exact⟨ob.slots,u.keep b ob q n hb hx⟩
def Un.kept(k:∀b u,h.get? b=some u->h'.get? b=some u):Un fs ex H H h h' :=
 ⟨λb ob q _ _ _=>k b ob q,λb ob q _ _ _=>⟨ob.slots,k b ob q⟩,λ_ _ _ n _=>n,λb ob q _=>⟨ob,k b ob q⟩,λ_ _ q=>q,λ_ _ _ q=>q,λ_ ps q=>⟨#[],by rw[q];simp⟩⟩
def Un.refl:Un fs ex H H h h:=Un.kept λ_ _ q=>q
def Un.laid(k:∀b u,h.get? b=some u->h'.get? b=some u)(hp:h.objs.size<=a)(hn:H a=none):Un fs ex H (upd H a o) h h' where
 keep:=λb u q _ _ _=>k b u q
 slot:=λb u q _ _ _=>⟨u.slots,k b u q⟩
 free:=λb u q n _=>by rwa[bZ (aP (aQ (aJ q) hp))]
 there:=λb u q _=>⟨u,k b u q⟩
 tups:=λb xs q=>by rwa[bZ (jm q hn)]
 frzs:=λb u xs q=>by rwa[bZ (jm q hn)]
 tbls:=λb ps q=>⟨#[],by rw[bZ (jm q hn),q];simp⟩
def Un.write(mu:vi (H x))(he:e=x\/H e=some (.own x))(k:∀b u,b≠e->h.get? b=some u->h'.get? b=some u)(h9:∃u,h'.get? e=some u):Un fs ex H (upd H x o) h h':=by
 have hx:∀b,H b=none->b≠x:=λb n z=>by subst z;rw[n]at mu;exact mu
 have hb:∀b,H b=none->b≠e:=λb n z=>by
  subst z;rcases he with r|r
  .exact hx b n r
  .rw[n]at r;cases r
 have hm:∀b u,H b=some u->¬vi (some u)->b≠x:=λb u q nm z=>by subst z;rw[q]at mu;exact nm mu
 refine⟨λb u q n _ _=>k b u (hb b n) q,λb u q n _ _=>⟨u.slots,k b u (hb b n) q⟩,λb u q n _=>by rw[bZ (hx b n)];exact n,λb u q _=>?_,
  λb xs q=>by rw[bZ (hm b _ q λz=>z)];exact q,λb u xs q=>by rw[bZ (hm b _ q λz=>z)];exact q,λb ps q=>⟨#[],by rw[bZ (hm b _ q λz=>z),q];simp⟩⟩
 by_cases hbe:b=e
 .subst hbe;exact h9
 .exact⟨u,k b u hbe q⟩
end
def vt(h:Heap)(H:Hp):Φ:=(range h.objs.size).filter λa=>(H a).isSome
def xK(h:Heap)(H:Hp):Heap:=hideAll h (vt h H)
def HW(h:Heap)(H:Hp):(xK h H).objs.size=h.objs.size:=hideAll_size _ _
variable{o:Obj}
def Mx(e:h.get? b=some o)(n:H b=none):(xK h H).get? b=some o :=
 hideAll_get _ e λhm=>by
  have q:(H b).isSome:=(List.mem_filter.mp hm).2;rw[n]at q;simp at q
def RG(e:(xK h H).get? b=some o):h.get? b=some o/\H b=none:=by
 have e':h.get? b=some o:=of_hideAll (vt h H) e;refine⟨e',?_⟩;cases q:H b with
 |none=>rfl
 |some x =>
  have hm:b∈vt h H:=List.mem_filter.mpr ⟨List.mem_range.mpr (aJ e'),by simp[q]⟩;have z:(xK h H).get? b=none:=hideAll_none (vt h H) hm;rw[z]at e;cases e
def Yj(g h:Heap)(L:Addr):Γ:=(range h.objs.size).filterMap λa=>if a=L\/(g.get? a).isSome=true then none else(h.get? a).map λo=>(a,o)
def rest(g h:Heap)(L d:Addr):Γ:=(Yj g h L).filter λp=>decide (p.1≠d)
structure Mod(K:Frag)(mg:Str->Ψ)(base:Heap):Prop where
 kin:K.In base
 glob:base.Ns mainGlobals mg
 blt:∃mb,base.Ns builtinsNs mb/\∀x:Str,x≠"__name__"->mb x=bootBuiltins x
 nolimit:base.NoLimit
structure Cx where
 prog:Program
 w:World
 K:Frag
 mg:Str->Ψ
 base:Heap
 A:Around
 N:Θ
 s₀:Shared
 H₀:Hp
 env:Env
 outer:zI
 stack:zI
 ex:Φ
 fn:Str->Bool
 calm:Bool
 pn:Γ
 xe:Ξ
def og(l:zI):Φ:=l.filterMap (·.frame)
abbrev Cx.fs(X:Cx):Φ:=og X.outer
def vT(sc:Scope)(x:Str):Prop:=sc.names.lookup x=some .local\/sc.names.lookup x=some .cell\/sc.names.lookup x=some .free
def tz(sc:Scope)(x:Str):Prop:=sc.names.lookup x=some .local\/sc.names.lookup x=some .cell
def Look(env:Env)(h:Heap)(m:Str->Ψ)(x:Str)(u:Value):Prop :=
 (env.kindOf x=some .local/\m x=some u)\/((env.kindOf x=some .cell\/env.kindOf x=some .free)/\∃c,env.cells.lookup x=some c/\h.IsCell c (some u))
structure Cx.Ok(X:Cx):Prop where
 mod:Mod X.K X.mg X.base
 kind:X.env.scope.kind=.function
 glob:X.env.globals=mainGlobals
 blt:X.env.builtins=builtinsNs
 above:X.s₀.zs<=X.env.locals
 inj:∀x y c,X.env.cells.lookup x=some c->X.env.cells.lookup y=some c->x=y
 has:∀x,(X.env.kindOf x=some .cell\/X.env.kindOf x=some .free)->∃c,X.env.cells.lookup x=some c
 cab:∀x c,X.fn x->X.env.cells.lookup x=some c->X.s₀.zs<=c
 hd:X.calm->X.A.handled=none
 frames:X.A.frames=some X.stack
 stk:X.stack=X.outer\/(X.stack=X.env::X.outer/\X.env.frame=some X.env.locals)
 exf:∀b∈X.ex,b≠X.env.locals/\∀x c,X.env.cells.lookup x=some c->c≠b
 bs:∀b o,X.base.get? b=some o->X.s₀.heap.get? b=some o/\X.H₀ b=none
 bsz:X.base.objs.size<=X.s₀.zs
 noex:∀b o,X.base.get? b=some o->b∉X.ex
 exfs:∀b∈X.ex,b∉X.fs
 funs:X.s₀.heap.FunFrames X.base X.outer
 frf:∀b∈X.fs,X.H₀ b=none
structure Inv(X:Cx)(aa:Γ)(σ:List xp)(H:Hp)(s:Shared):Prop where
 ok:X.Ok
 os:s.os=X.s₀.os
 bare:AllBare s.gens
 base:Un X.fs X.ex X.H₀ H X.s₀.heap s.heap
 loc:∃m,s.heap.Ns X.env.locals m/\∀(i:Nat)(x:Str)(v:V),X.N[i]?=some x->σ[i]?=some (some v)->vT X.env.scope x->∃u,z4 v u/\Look X.env s.heap m x u
 cell:∀x c,X.env.cells.lookup x=some c->∃v,s.heap.IsCell c v
 free:H X.env.locals=none
 freeC:∀x c,X.env.cells.lookup x=some c->H c=none
 pin:∀p∈X.pn++aa,s.heap.get? p.1=some p.2/\H p.1=none/\p.1≠X.env.locals/\p.1∉X.fs/\∀v,p.2.data≠.cell v
 hok:HOk X.prog X.w H s.heap
 len:σ.length=X.N.length
variable{X:Cx}{aa:Γ}{σ:List xp}{s s':Shared}{g':Array GenState}{t' i:Nat}{ch:Φ}{x:Str}{u:Value}{M:Model}{A:Around}{E:Ξ}{v:V}{Q:Unit->Shared->Prop}{e:Expr}
def Cx.Ok.nofr(ok:X.Ok)(e:X.base.get? b=some o):b∉X.fs:=λhb=>by
 have:=(ok.funs.mem hb).1;rw[e]at this;cases this
def Inv.bs(I:Inv X aa σ H s):∀b o,X.base.get? b=some o->s.heap.get? b=some o/\H b=none:=λb o e =>
 ⟨I.base.keep b o (I.ok.bs b o e).1 (I.ok.bs b o e).2 (I.ok.nofr e) (I.ok.noex b o e),I.base.free b o (I.ok.bs b o e).1 (I.ok.bs b o e).2 (I.ok.noex b o e)⟩
def Inv.bk(I:Inv X aa σ H s):∀b o,X.base.get? b=some o->s.heap.get? b=some o:=λb o e=>(I.bs b o e).1
def Inv.mod(I:Inv X aa σ H s):Mod X.K X.mg X.base:=I.ok.mod
def Inv.kIn(I:Inv X aa σ H s):X.K.In s.heap:=I.ok.mod.kin.keeps I.bk
def Inv.fr(I:Inv X aa σ H s):∃m,Fr X.base X.env.locals s.heap m :=
 let⟨m,hn,_⟩:=I.loc
 ⟨m,hn,I.bk,aK I.ok.bsz I.ok.above⟩
def Inv.lt(I:Inv X aa σ H s):X.env.locals<s.zs:=by obtain⟨_,hn,_⟩:=I.loc;exact hn.lt
def Inv.sz(I:Inv X aa σ H s):X.s₀.zs<=s.zs:=aK I.ok.above (Y2 I.lt)
def Inv.nofs(I:Inv X aa σ H s)(h:s.zs<=a):a∉X.fs:=λhb=>by
 obtain⟨_,o,ho,_⟩:=I.ok.funs.mem hb;exact absurd (aQ (aJ ho) (aK I.sz h)) (X9 _)
def Inv.cne(I:Inv X aa σ H s):∀x c,X.env.cells.lookup x=some c->c≠X.env.locals:=λx c e z=>by
 obtain⟨v,o,ho,hd⟩:=I.cell x c e;obtain⟨m,⟨o',es,ep,cw,cr,_⟩,_⟩:=I.loc;rw[z,cw]at ho;cases ho;rw[cr]at hd;cases hd
def Inv.funs(I:Inv X aa σ H s):s.heap.FunFrames X.base X.outer:=by
 have all:∀(l:zI),(∀b∈og l,b∈X.fs)->X.s₀.heap.FunFrames X.base l->s.heap.FunFrames X.base l:=by
  intro l
  induction l with
  |nil=>intro _ _;trivial
  |cons env r ih =>
   intro hs hl;obtain⟨hk,⟨L,o,hf,hn,ho,hd⟩,hr⟩:=hl;have hL:L∈X.fs:=hs L (by unfold og;rw[T2,hf];exact aN);obtain⟨sl,e⟩:=I.base.slot L o ho (I.ok.frf L hL) hL λz=>I.ok.exfs L z hL;exact⟨hk,⟨L,_,hf,hn,e,hd⟩,ih (λb hb=>hs b (by unfold og;rw[T2,hf];exact aH _ hb)) hr⟩
 exact all X.outer (λ_ hb=>hb) I.ok.funs
def Inv.stack(I:Inv X aa σ H s):s.heap.FunFrames X.base X.stack:=by
 rcases I.ok.stk with e|⟨e,hf⟩
 .rw[e];exact I.funs
 .rw[e];obtain⟨m,hn,_⟩:=I.loc;refine .cons (by rw[I.ok.kind];decide) hf hn ?_ I.funs;exact Heap.get?_none_of_le (aK I.ok.bsz I.ok.above)
def Inv.stkSub(I:Inv X aa σ H s):∀b∈og X.stack,b∈X.env.locals::X.fs:=λb hb=>by
 rcases I.ok.stk with e|⟨e,hf⟩
 .rw[e]at hb;exact aH _ hb
 .rw[e]at hb;unfold og at hb;rw[T2,hf]at hb;exact hb
def Inv.stkFree(I:Inv X aa σ H s):∀b∈og X.stack,H b=none:=λb hb=>by
 rcases YU.mp (I.stkSub b hb)with e|hb
 .rw[e];exact I.free
 .obtain⟨_,o,ho,_⟩:=I.ok.funs.mem hb;exact I.base.free b o ho (I.ok.frf b hb) λz=>I.ok.exfs b z hb
def Inv.step{d':Drawn}(I:Inv X aa σ H s)
 (fy:∀b∈ch,(b∈X.ex\/X.s₀.zs<=b)/\b≠X.env.locals/\(∀x c,X.env.cells.lookup x=some c->c≠b)/\∀p∈X.pn++aa,p.1≠b)
 (keep:∀b o,b≠X.env.locals->b∉X.fs->b∉ch->s.heap.get? b=some o->H b=none->h'.get? b=some o)
 (slot:∀b o,b≠X.env.locals->b∈X.fs->b∉ch->s.heap.get? b=some o->H b=none->∃sl,h'.get? b=some { o with slots:=sl })(free:∀b o,b∉ch->s.heap.get? b=some o->H b=none->H' b=none)
 (there:∀b o,b∉ch->s.heap.get? b=some o->∃o',h'.get? b=some o')
 (tups:∀b xs,H b=some (.tup xs)->H' b=some (.tup xs))(frzs:∀b o u,H b=some (.frz o u)->H' b=some (.frz o u))(tbls:∀b ps,H b=some (.tbl ps)->∃more,H' b=some (.tbl (ps++more)))
 (ns:∀m,s.heap.Ns X.env.locals m->h'.Ns X.env.locals m)(hok:HOk X.prog X.w H' h')(hg:AllBare g') :
  Inv X aa σ H' { s with heap:=h',gens:=g',drawn:=d',toks:=t' }:=by
 have neL:∀b o,X.s₀.heap.get? b=some o->b≠X.env.locals:=λb o e=>aP (aQ (aJ e) I.ok.above);have jS:∀b o,X.s₀.heap.get? b=some o->b∉X.ex->b∉ch:=λb o e hx hb=>by
  rcases(fy b hb).1 with z|z
  .exact hx z
  .exact absurd (aQ (aJ e) z) (X9 _)
 have gu:∀x c,X.env.cells.lookup x=some c->∀v,s.heap.IsCell c v->h'.IsCell c v:=λx c e v hP=>by
  obtain⟨o,ho,hd⟩:=hP;have im:c∉ch:=λz=>(fy c z).2.2.1 x c e rfl;by_cases hc:c∈X.fs
  .obtain⟨sl,q⟩:=slot c o (I.cne x c e) hc im ho (I.freeC x c e);exact⟨_,q,hd⟩
  .exact⟨o,keep c o (I.cne x c e) hc im ho (I.freeC x c e),hd⟩
 refine⟨I.ok,I.os,hg,⟨λb o e n hb hx=>?_,λb o e n hb hx=>?_,λb o e n hx=>?_,λb o e hx=>?_,λb xs e=>tups b xs (I.base.tups b xs e),λb o xs e=>frzs b o xs (I.base.frzs b o xs e),λb ps e=>?_⟩,?_,λx c e=>?_,?_,λx c e=>?_,λp hp=>?_,hok,I.len⟩
 .exact keep b o (neL b o e) hb (jS b o e hx) (I.base.keep b o e n hb hx) (I.base.free b o e n hx)
 .obtain⟨sl,e1⟩:=I.base.slot b o e n hb hx;obtain⟨sl',e2⟩:=slot b _ (neL b o e) hb (jS b o e hx) e1 (I.base.free b o e n hx);exact⟨sl',e2⟩
 .obtain⟨o',e1⟩:=I.base.there b o e hx;exact free b o' (jS b o e hx) e1 (I.base.free b o e n hx)
 .obtain⟨o',e1⟩:=I.base.there b o e hx;exact there b o' (jS b o e hx) e1
 .obtain⟨m1,e1⟩:=I.base.tbls b ps e;obtain⟨m2,e2⟩:=tbls b _ e1;exact⟨m1++m2,by rw[e2,Array.append_assoc]⟩
 .obtain⟨m,hn,hl⟩:=I.loc;refine⟨m,ns m hn,λi x v e1 e2 e3=>?_⟩;obtain⟨u,r,l⟩:=hl i x v e1 e2 e3;refine⟨u,r,?_⟩;rcases l with l|⟨k,c,e,z⟩
  .exact .inl l
  .exact .inr ⟨k,c,e,gu x c e _ z⟩
 .obtain⟨v,z⟩:=I.cell x c e;exact⟨v,gu x c e v z⟩
 .obtain⟨m,⟨o,_,_,ho,_⟩,_⟩:=I.loc;exact free _ o (λz=>(fy _ z).2.1 rfl) ho I.free
 .obtain⟨v,o,ho,hd⟩:=I.cell x c e;exact free c o (λz=>(fy c z).2.2.1 x c e rfl) ho (I.freeC x c e)
 .obtain⟨e,n,ne,nf,d⟩:=I.pin p hp;have im:p.1∉ch:=λz=>(fy p.1 z).2.2.2 p hp rfl;exact⟨keep p.1 p.2 ne nf im e n,free p.1 p.2 im e n,ne,nf,d⟩
def Inv.un(I:Inv X aa σ H s)(u:Un X.fs [] H H' s.heap h')(hok:HOk X.prog X.w H' h'):Inv X aa σ H' { s with heap:=h',toks:=t' }:=by
 obtain⟨m,⟨o,es,ep,ho,r⟩,_⟩:=id I.loc;obtain⟨sl,hL⟩:=u.any ho I.free xF;exact I.step (g':=s.gens) (d':=s.drawn) (ch:=[]) (λ_ z=>nomatch z) (λb o _ hb _ e n=>u.keep b o e n hb xF) (λb o _ hb _ e n=>u.slot b o e n hb xF) (λb o _ e n=>u.free b o e n xF) (λb o _ e=>u.there b o e xF) u.tups u.frzs u.tbls (λm' hm=>by
  obtain⟨o',ja,mE,cw,r'⟩:=hm;rw[ho]at cw;cases cw;exact⟨_,ja,mE,hL,r'⟩) hok I.bare
def Inv.call{d':Drawn}(I:Inv X aa σ H s)(u:Un (og X.stack) ch H H' s.heap h')(hok:HOk X.prog X.w H' h')(hg:AllBare g')
 (fy:∀b∈ch,(b∈X.ex\/X.s₀.zs<=b)/\b≠X.env.locals/\(∀x c,X.env.cells.lookup x=some c->c≠b)/\∀p∈X.pn++aa,p.1≠b) :
  Inv X aa σ H' { s with heap:=h',gens:=g',drawn:=d',toks:=t' }:=by
 obtain⟨m,⟨o,es,ep,ho,r⟩,_⟩:=id I.loc;obtain⟨sl,hL⟩:=u.any ho I.free λz=>(fy _ z).2.1 rfl;exact I.step (ch:=ch) fy (λb o hL hb hc e n=>u.keep b o e n (λz=>(YU.mp (I.stkSub b z)).elim hL hb) hc) (λb o _ _ hc e n=>u.any e n hc) (λb o hc e n=>u.free b o e n hc) (λb o hc e=>u.there b o e hc) u.tups u.frzs u.tbls (λm' hm=>by
  obtain⟨o',ja,mE,cw,r'⟩:=hm;rw[ho]at cw;cases cw;exact⟨_,ja,mE,hL,r'⟩) hok hg
def Inv.turned{it:Addr}(I:Inv X aa σ H s)(k:∀b o,b≠it->s.heap.get? b=some o->h'.get? b=some o)(hn:H it=none)(hL:it≠X.env.locals)
 (h1:it∈X.ex\/X.s₀.zs<=it)(h2:∀x c,X.env.cells.lookup x=some c->c≠it)(h3:∀p∈X.pn++aa,p.1≠it):Inv X aa σ H { s with heap:=h',toks:=t' }:=by
 have ik:∀b u,H b=some u->b≠it:=λb u e z=>by rw[z,hn]at e;cases e
 refine I.step (g':=s.gens) (d':=s.drawn) (ch:=[it]) (λb hb=>?_) (λb o _ _ hc e _=>k b o (λz=>hc (by simp[z])) e) (λb o _ _ hc e _=>⟨o.slots,k b o (λz=>hc (by simp[z])) e⟩) (λ_ _ _ _ n=>n)
  (λb o hc e=>⟨o,k b o (λz=>hc (by simp[z])) e⟩) (λ_ _ e=>e) (λ_ _ _ e=>e) (λb ps e=>⟨#[],by rw[e];simp⟩) (λm hm=>?_) (λb u e=>?_) I.bare
 .have e:b=it:=by simpa using hb
  subst e;exact⟨h1,hL,h2,h3⟩
 .obtain⟨o,es,ep,ho,r⟩:=hm;exact⟨o,es,ep,k _ o (Ne.symm hL) ho,r⟩
 .refine(I.hok b u e).stay (λc v hc q=>k c v ?_ q) (λ_ q=>q) λ_ _ q=>q;rcases hc with z|z
  .rw[z];exact ik b u e
  .exact ik c _ z
def Inv.tok(I:Inv X aa σ H s)(t:Nat):Inv X aa σ H { s with toks:=t }:=I.un (h':=s.heap) (t':=t) Un.refl I.hok
def Inv.kept{t':Nat}(I:Inv X aa σ H s)(k:∀b u,s.heap.get? b=some u->h'.get? b=some u):Inv X aa σ H { s with heap:=h',toks:=t' }:=I.un (Un.kept k) (I.hok.kept k)
def Inv.laid{a:Addr}{o:HO}{t':Nat}(I:Inv X aa σ H s)(k:∀b u,s.heap.get? b=some u->h'.get? b=some u)(hp:s.zs<=a)(new:fX X.prog X.w (upd H a o) h' a o) :
  Inv X aa σ (upd H a o) { s with heap:=h',toks:=t' }:=I.un (Un.laid k hp (I.hok.fresh hp)) (I.hok.laid k hp new)
def Inv.write{x e:Addr}{o:HO}{t':Nat}(I:Inv X aa σ H s)(mu:vi (H x))(he:e=x\/H e=some (.own x))(k:∀b u,b≠e->s.heap.get? b=some u->h'.get? b=some u)(h9:∃u,h'.get? e=some u)
 (new:fX X.prog X.w (upd H x o) h' x o):Inv X aa σ (upd H x o) { s with heap:=h',toks:=t' }:=I.un (Un.write mu he k h9) (I.hok.write mu he k h9 new)
def Inv.pins_of{f8:Γ}(I:Inv X aa σ H s)(h:∀p∈f8,s.heap.get? p.1=some p.2/\H p.1=none/\p.1≠X.env.locals/\p.1∉X.fs/\∀v,p.2.data≠.cell v):Inv X f8 σ H s :=
 ⟨I.ok,I.os,I.bare,I.base,I.loc,I.cell,I.free,I.freeC,λp hp=>(Y1.mp hp).elim (λz=>I.pin p (UP _ z)) (h p),I.hok,I.len⟩
def Od{N:Θ}(hN:N.Nodup){j:Nat}(a:N[i]?=some x)(b:N[j]?=some x):i=j:=by
 obtain⟨h1,e1⟩:=ao.mp a;obtain⟨h2,e2⟩:=ao.mp b;exact(List.getElem_inj hN).mp (e1.trans e2.symm)
abbrev qi(X:Cx)(a:Str):Prop:=X.fn a=true\/X.env.scope.names.lookup a=some .local
def SM(I:Inv X aa σ H s)(hN:X.N.Nodup)(hi:X.N[i]?=some x)(hx:tz X.env.scope x)(r:z4 v u)
 (h:∀s',Inv X aa (σ.set i (some v)) H s'->(∃a,Heap.SameBut a s.heap s'.heap/\(a=X.env.locals\/X.env.cells.lookup x=some a))->Q () s')(hf:qi X x):wpAny M A (storeName X.env x u) Q E s:=by
 obtain⟨m,hn,hl⟩:=id I.loc;have mf:(X.env.scope.kind == .class || (X.env.scope.kind == .module&&X.env.locals != X.env.globals))=false:=by rw[I.ok.kind];rfl
 have hiσ:i<σ.length:=by rw[I.len];exact(ao.mp hi).1
 have cne:=I.cne;have dv:∀{a:Addr}{h':Heap},(∃o,s.heap.get? a=some o/\H a=none)->Heap.SameBut a s.heap h'->HOk X.prog X.w H h':=λ{a h'}ha hs b ob e=>by
  obtain⟨_,_,bo⟩:=ha;refine(I.hok b ob e).stay (λc w' hc q=>(hs.2 c ?_).trans q) (λ_ q=>q) λ_ _ q=>q;rintro rfl;rcases hc with rfl|hc
  .rw[bo]at e;cases e
  .rw[bo]at hc;cases hc
 rcases hx with hk|hk
 .refine wpAny_storeName_local hk hn (λh' hn' hs=>?_) mf;obtain⟨oL,_,_,hoL,_⟩:=id hn;refine h _ ⟨I.ok,I.os,I.bare,⟨λb o e n hb hx=>?_,λb o e n hb hx=>?_,I.base.free,λb o e hx=>?_,I.base.tups,I.base.frzs,I.base.tbls⟩,⟨_,hn',λj y v' e1 e2 e3=>?_⟩,λy c e=>?_,I.free,I.freeC,λp hp=>?_,dv ⟨oL,hoL,I.free⟩ hs,by simpa using I.len⟩ ⟨_,hs,.inl rfl⟩
  .exact(hs.2 b (aP (aQ (aJ e) I.ok.above))).trans (I.base.keep b o e n hb hx)
  .obtain⟨sl,e1⟩:=I.base.slot b o e n hb hx;exact⟨sl,(hs.2 b (aP (aQ (aJ e) I.ok.above))).trans e1⟩
  .obtain⟨o',e1⟩:=I.base.there b o e hx;exact⟨o',(hs.2 b (aP (aQ (aJ e) I.ok.above))).trans e1⟩
  .by_cases hj:j=i
   .subst hj;rw[hi]at e1;cases e1;rw[UZ hiσ]at e2;cases e2;exact⟨u,r,.inl ⟨hk,by simp⟩⟩
   .rw[Up (Ne.symm hj)]at e2;obtain⟨u',r',q⟩:=hl j y v' e1 e2 e3;refine⟨u',r',?_⟩;rcases q with⟨k,e⟩|⟨k,c,e,z⟩
    .refine .inl ⟨k,?_⟩;have:y≠x:=λe=>hj (Od hN e1 (e ▸ hi));simp[this,e]
    .exact .inr ⟨k,c,e,z.sameBut hs (cne y c e)⟩
  .obtain⟨w',z⟩:=I.cell y c e;exact⟨w',z.sameBut hs (cne y c e)⟩
  .obtain⟨e,n,ne,nf,d⟩:=I.pin p hp;exact⟨(hs.2 p.1 ne).trans e,n,ne,nf,d⟩
 .have fI:X.fn x:=by
   rcases hf with z|z
   .exact z
   .rw[z]at hk;cases hk
  obtain⟨c,hc⟩:=I.ok.has x (.inl hk);obtain⟨w',z⟩:=I.cell x c hc;refine wpAny_storeName_cell I.ok.kind hk hc z (λh' fN hs=>?_);obtain⟨oc,gf,k8⟩:=id z;refine h { s with heap:=h' } ⟨I.ok,I.os,I.bare,⟨λb o e n hb hx=>?_,λb o e n hb hx=>?_,I.base.free,λb o e hx=>?_,I.base.tups,I.base.frzs,I.base.tbls⟩,⟨m,hn.sameBut hs (Ne.symm (cne x c hc)),λj y v' e1 e2 e3=>?_⟩,λy c' e=>?_,I.free,I.freeC,λp hp=>?_,dv ⟨oc,gf,I.freeC x c hc⟩ hs,by simpa using I.len⟩ ⟨c,hs,.inr hc⟩
  .exact(hs.2 b (aP (aQ (aJ e) (I.ok.cab x c fI hc)))).trans (I.base.keep b o e n hb hx)
  .obtain⟨sl,e1⟩:=I.base.slot b o e n hb hx;exact⟨sl,(hs.2 b (aP (aQ (aJ e) (I.ok.cab x c fI hc)))).trans e1⟩
  .obtain⟨o',e1⟩:=I.base.there b o e hx;exact⟨o',(hs.2 b (aP (aQ (aJ e) (I.ok.cab x c fI hc)))).trans e1⟩
  .by_cases hj:j=i
   .subst hj;rw[hi]at e1;cases e1;rw[UZ hiσ]at e2;cases e2;exact⟨u,r,.inr ⟨.inl hk,c,hc,fN⟩⟩
   .rw[Up (Ne.symm hj)]at e2;obtain⟨u',r',q⟩:=hl j y v' e1 e2 e3;refine⟨u',r',?_⟩;rcases q with q|⟨k,c',e,z'⟩
    .exact .inl q
    .refine .inr ⟨k,c',e,z'.sameBut hs ?_⟩;rintro rfl;exact hj (Od hN e1 (I.ok.inj _ _ _ e hc ▸ hi))
  .by_cases kc:c'=c
   .subst kc;exact⟨_,fN⟩
   .obtain⟨w2,z2⟩:=I.cell y c' e;exact⟨w2,z2.sameBut hs kc⟩
  .obtain⟨e,n,ne,nf,d⟩:=I.pin p hp;refine⟨(hs.2 p.1 ?_).trans e,n,ne,nf,d⟩;intro q;rw[q,gf]at e;have q':oc=p.2:=Option.some.inj e;exact d w' (by rwa[<- q'])
def yQ(I:Inv X aa σ H s)(hN:X.N.Nodup)(hi:X.N[i]?=some x)(hx:tz X.env.scope x)(r:z4 v u)
 (h:∀s',Inv X aa (σ.set i (some v)) H s'->Q () s')(hf:qi X x:=by first|exact .inl rfl|exact .inr rfl|assumption):wpAny M A (storeName X.env x u) Q E s :=
 SM I hN hi hx r (λs' I' _=>h s' I') hf
def Inv.call'(I:Inv X aa σ H s)(ho:s'.os=s.os)(u:Un (og X.stack) ch H H' s.heap s'.heap)(hok:HOk X.prog X.w H' s'.heap)(hg:AllBare s'.gens)
 (fy:∀b∈ch,(b∈X.ex\/X.s₀.zs<=b)/\b≠X.env.locals/\(∀x c,X.env.cells.lookup x=some c->c≠b)/\∀p∈X.pn++aa,p.1≠b):Inv X aa σ H' s':=by
 obtain⟨h',g',d',t',o'⟩:=s';have e:o'=s.os:=ho;subst e;exact I.call (g':=g') (t':=t') (d':=d') u hok hg fy
abbrev XK:=Value->Ω->Hp->Prop
abbrev St:=List xp
abbrev VK:=V->Hp->Prop
abbrev TE:=St->Hp->VK->Prop
abbrev TT:=St->Hp->(Bool->Hp->Prop)->Prop
abbrev TA:=St->Hp->(Β->Hp->Prop)->Prop
structure Ends where
 nx:St->Hp->Prop
 rt:VK
 bk:St->Hp->Prop:=λ_ _=>False
 ct:St->Hp->Prop:=λ_ _=>False
abbrev TS:=Ends->St->Hp->Prop
def EP(X:Cx)(aa:Γ)(σ:St)(Q:VK)(u:Value)(s':Shared):Prop:=∃v H',Inv X aa σ H' s'/\z4 v u/\Q v H'
def TP(X:Cx)(aa:Γ)(σ:St)(Q:Bool->Hp->Prop)(b:Bool)(s':Shared):Prop:=∃H',Inv X aa σ H' s'/\Q b H'
def AP(X:Cx)(aa:Γ)(σ:St)(Q:Β->Hp->Prop)(us:Δ)(s':Shared):Prop:=∃vs H',Inv X aa σ H' s'/\z5 vs us/\Q vs H'
def SP(X:Cx)(aa:Γ)(D:Ends)(f:Flow)(s':Shared):Prop :=
 match f with
 |.next=>∃σ' H',Inv X aa σ' H' s'/\D.nx σ' H'
 |.brk=>∃σ' H',Inv X aa σ' H' s'/\D.bk σ' H'
 |.cont=>∃σ' H',Inv X aa σ' H' s'/\D.ct σ' H'
 |.ret u=>∃v σ' H',Inv X aa σ' H' s'/\z4 v u/\D.rt v H'
def PE(X:Cx)(e:Expr)(t:TE):Prop :=
 ∀(aa:Γ)(s:Shared)(σ:St)(H:Hp)(Q:VK),Inv X aa σ H s->t σ H Q->wpAny (model X.prog X.w) X.A (eval e X.env) (EP X aa σ Q) X.xe s
def PT(X:Cx)(e:Expr)(t:TT):Prop :=
 ∀(aa:Γ)(s:Shared)(σ:St)(H:Hp)(Q:Bool->Hp->Prop),Inv X aa σ H s->t σ H Q->wpAny (model X.prog X.w) X.A (isTrue e X.env (eval e X.env)) (TP X aa σ Q) X.xe s
def PW(X:Cx)(e:Expr)(t:TT):Prop :=
 ∀(cK:Sem Value)(aa:Γ)(s:Shared)(σ:St)(H:Hp)(Q:Bool->Hp->Prop),Inv X aa σ H s->t σ H Q->wpAny (model X.prog X.w) X.A (isTrue e X.env cK) (TP X aa σ Q) X.xe s
def PW.pt{X:Cx}{t:TT}(h:PW X e t):PT X e t:=h _
def PA(X:Cx)(es:zh)(t:TA):Prop :=
 ∀(pos:Pos)(aa:Γ)(s:Shared)(σ:St)(H:Hp)(Q:Β->Hp->Prop),Inv X aa σ H s->t σ H Q->wpAny (model X.prog X.w) X.A (spliced (backTo pos (starEach es X.env))) (AP X aa σ Q) X.xe s
def PS(X:Cx)(st:Stmt)(t:TS):Prop :=
 ∀(aa:Γ)(s:Shared)(σ:St)(H:Hp)(D:Ends),Inv X aa σ H s->t D σ H->wpAny (model X.prog X.w) X.A (exec st X.env) (SP X aa D) X.xe s
def PSs(X:Cx)(st:xb)(t:TS):Prop :=
 ∀(aa:Γ)(s:Shared)(σ:St)(H:Hp)(D:Ends),Inv X aa σ H s->t D σ H->wpAny (model X.prog X.w) X.A (execs st X.env) (SP X aa D) X.xe s
def e_{α:Type}{t:Sem α}{Q Q':α->Shared->Prop}(h:wpAny M A t Q E s)(hQ:∀a s,Q a s->Q' a s):wpAny M A t Q' E s:=wpAny_mono h hQ λ_ _ x=>x
variable{σ:St}{op:CmpOp}{c tg:Expr}{xs ys:Β}{K:Frag}{pos bu:Pos}{es:zh}{k:Nat}{te:TE}
section
variable{X:Cx}
def yn(i:Nat):TE:=λσ H Q=>∃v,σ[i]?=some (some v)/\Q v H
def tC(v:V):TE:=λ_ H Q=>Q v H
abbrev qk(a:Str):Prop:=(a==("__debug__":Str))=false
abbrev qf(a:Str):Prop:=(a==("__classdict__":Str))=false
def TN{pos:Pos}(hN:X.N[i]?=some x)(hv:vT X.env.scope x)(hd:qk x:=by decide)(bp:qf x:=by decide):PE X (.Name x pos) (yn i):=by
 intro aa s σ H Q I h;obtain⟨v,e,h⟩:=h;obtain⟨m,hn,hl⟩:=I.loc;obtain⟨u,r,l⟩:=hl i x v hN e hv;have bg:EP X aa σ Q u s:=⟨v,H,I,r,h⟩;rcases l with⟨hk,hm⟩|⟨hk,c,hc,b8⟩
 .exact wpAny_Name (wpAny_loadName_local I.ok.kind hk hn hm bg) hd
 .rcases hk with hk|hk
  .exact wpAny_Name (wpAny_loadName_cell I.ok.kind hk hc b8 bg) hd
  .exact wpAny_Name (wpAny_loadName_free I.ok.kind hk hc b8 bg bp) hd
def TB{i j pos} : PE X (.Constant (.int i) j pos) (tC (.int i)):=λ_ _ _ H _ I h=>wpAny_Constant_int ⟨.int i,H,I.tok _,⟨_,rfl⟩,h⟩
def PF{b j pos} : PE X (.Constant (.bool b) j pos) (tC (.bl b)):=λ_ _ _ H _ I h=>Constant_bool ⟨.bl b,H,I,rfl,h⟩
def We{j pos} : PE X (.Constant .none j pos) (tC .non):=λ_ _ _ H _ I h=>Constant_none ⟨.non,H,I,rfl,h⟩
def Se{x j pos} : PE X (.Constant (.str x) j pos) (tC (.str x)):=λ_ _ _ H _ I h=>Calls.Constant_str ⟨.str x,H,I.tok _,⟨_,rfl⟩,h⟩
def Gl(X:Cx)(x:Str):Prop:=X.env.kindOf x=some .globalImplicit
def yg{pos:Pos}{Q:Ξ}(I:Inv X aa σ H s)(hg:Gl X x)(hm:X.mg x=some u)(h:Q u s)
 (hd:qk x:=by decide):wpAny (model X.prog X.w) X.A (eval (.Name x pos) X.env) Q E s :=
 Calls.Name_function_global I.ok.kind hg (Calls.loadGlobal_global (by rw[I.ok.glob];exact I.mod.glob.keeps I.bk) hm h) hd
def Ab{pos:Pos}{Q:Ξ}(I:Inv X aa σ H s)(hg:Gl X x)(hm:X.mg x=none)(hv:bootBuiltins x=some u)(h:Q u s)
 (hn:x≠"__name__":=by decide)(hd:qk x:=by decide):wpAny (model X.prog X.w) X.A (eval (.Name x pos) X.env) Q E s:=by
 obtain⟨mb,h1,h2⟩:=I.mod.blt;exact Calls.Name_function_global I.ok.kind hg (Calls.loadGlobal_builtin (by rw[I.ok.glob];exact I.mod.glob.keeps I.bk) hm (by rw[I.ok.blt];exact h1.keeps I.bk) ((h2 x hn).trans hv) h) hd
def QX{pos:Pos}(hg:Gl X x)(hm:X.mg x=some u)(r:z4 v u)(hd:qk x:=by decide):PE X (.Name x pos) (tC v) :=
 λ_ _ _ H _ I h=>yg I hg hm ⟨v,H,I,r,h⟩ hd
def Yw{pos:Pos}(hg:Gl X x)(hm:X.mg x=none)(hv:bootBuiltins x=some u)(r:z4 v u)(hn:x≠"__name__":=by decide)(hd:qk x:=by decide):PE X (.Name x pos) (tC v) :=
 λ_ _ _ H _ I h=>Ab I hg hm hv ⟨v,H,I,r,h⟩ hn hd
variable{a b:Expr}{ta tb:TE}{pos:Pos}
def PC(X:Cx)(op:CmpOp)(a b:Expr)(t:TE):Prop :=
 ∀(aa:Γ)(s:Shared)(σ:St)(H:Hp)(Q:VK),Inv X aa σ H s->t σ H Q ->
  wpAny (model X.prog X.w) X.A (eval a X.env) (λv s₁=>wpAny (model X.prog X.w) X.A (eval b X.env) (λu s₂=>wpAny (model X.prog X.w) X.A (compareOp op v u) (EP X aa σ Q) X.xe s₂) X.xe s₁) X.xe s
def tB(t:TE):TT:=λσ H Q=>t σ H λx H1=>∃c,x=.bl c/\Q c H1
def Vf{t:TE}(h:PC X op a b t)(h1:behindInMarks op b=false:=by rfl):PT X (.Compare a [op] [b] pos) (tB t):=by
 intro aa s σ H Q I hw;refine wpAny_isTrue_Compare1 (e_ (h aa s σ H _ I hw) λv s1 h1=>e_ h1 λu s2 h2=>e_ h2 λc s3 hP=>?_) h1;obtain⟨x,H1,I1,r1,q1⟩:=hP;obtain⟨d,rfl,q⟩:=q1;cases r1;exact wpAny_truthy_bool ⟨H1,I1,q⟩
variable{tA jI:TT}{rest:zh}
def Ll(t u:TT):TT:=λσ H Q=>t σ H λc H1=>if c=true then u σ H1 Q else Q false H1
def IP(t u:TT):TT:=λσ H Q=>t σ H λc H1=>if c=true then Q true H1 else u σ H1 Q
def Mn(t:TT):TT:=λσ H Q=>t σ H λc H1=>Q (!c) H1
def pw_and1(ha:PT X a tA):PW X (.BoolOp .And [a] pos) tA:=by
 intro wh aa s σ H Q I h;refine isTrue_and (e_ (ha aa s σ H Q I h) λc s1 e=>?_);cases c with
 |true=>exact isTrue_and_nil e
 |false=>exact e
def pw_or1(ha:PT X a tA):PW X (.BoolOp .Or [a] pos) tA:=by
 intro wh aa s σ H Q I h;refine isTrue_or (e_ (ha aa s σ H Q I h) λc s1 e=>?_);cases c with
 |false=>exact isTrue_or_nil e
 |true=>exact e
def pw_and(ha:PT X a tA)(hb:PW X (.BoolOp .And (b::rest) pos) jI):PW X (.BoolOp .And (a::b::rest) pos) (Ll tA jI):=by
 intro wh aa s σ H Q I h;refine isTrue_and (e_ (ha aa s σ H _ I h) λc s1 hP=>?_);obtain⟨H1,I1,q1⟩:=hP;cases c with
 |true=>exact hb wh aa s1 σ H1 Q I1 q1
 |false=>exact⟨H1,I1,q1⟩
def pw_or(ha:PT X a tA)(hb:PW X (.BoolOp .Or (b::rest) pos) jI):PW X (.BoolOp .Or (a::b::rest) pos) (IP tA jI):=by
 intro wh aa s σ H Q I h;refine isTrue_or (e_ (ha aa s σ H _ I h) λc s1 hP=>?_);obtain⟨H1,I1,q1⟩:=hP;cases c with
 |true=>exact⟨H1,I1,q1⟩
 |false=>exact hb wh aa s1 σ H1 Q I1 q1
def YO(ha:PT X a tA):PT X (.UnaryOp .Not a pos) (Mn tA):=by
 intro aa s σ H Q I h;exact isTrue_not (ha aa s σ H (λc H1=>Q (!c) H1) I h)
def NN(ta tb:TE):TE:=λσ H Q=>ta σ H λx H1=>∃c,x=.bl c/\if c=true then tb σ H1 Q else Q (.bl false) H1
def N3(ta:TE):TE:=λσ H Q=>ta σ H λx H1=>∃c,x=.bl c/\Q (.bl (!c)) H1
def VM{op}{t:TE}(h:PE X a t):PE X (.BoolOp op [a] pos) t:=λaa s σ H Q I hw=>BoolOp_one (h aa s σ H Q I hw)
def P6(ha:PE X a ta)(hb:PE X (.BoolOp .And (b::rest) pos) tb):PE X (.BoolOp .And (a::b::rest) pos) (NN ta tb):=by
 intro aa s σ H Q I h;refine BoolOp_and (e_ (ha aa s σ H _ I h) λv s1 hP=>?_);obtain⟨x,H1,I1,r1,q1⟩:=hP;obtain⟨c,rfl,q1⟩:=q1;cases r1;refine wpAny_truthy_bool ?_;cases c with
 |true=>exact hb aa s1 σ H1 Q I1 q1
 |false=>exact⟨.bl false,H1,I1,rfl,q1⟩
def Sl(ha:PE X a ta):PE X (.UnaryOp .Not a pos) (N3 ta):=by
 intro aa s σ H Q I h;refine UnaryOp_ (e_ (ha aa s σ H _ I h) λv s1 hP=>?_);obtain⟨x,H1,I1,r1,q1⟩:=hP;obtain⟨c,rfl,q1⟩:=q1;cases r1;exact not_of (wpAny_truthy_bool ⟨.bl (!c),H1,I1,rfl,q1⟩)
def IQ(t:TT)(ta tb:TE):TE:=λσ H Q=>t σ H λc H1=>if c=true then ta σ H1 Q else tb σ H1 Q
def Vd(hc:PT X c tA)(ha:PE X a ta)(hb:PE X b tb):PE X (.IfExp c a b pos) (IQ tA ta tb):=by
 intro aa s σ H Q I h;refine wpAny_IfExp (e_ (hc aa s σ H _ I h) λd s1 hP=>?_);obtain⟨H1,I1,q1⟩:=hP;cases d with
 |true=>exact ha aa s1 σ H1 Q I1 q1
 |false=>exact hb aa s1 σ H1 Q I1 q1
end
def SqL(K:Frag)(H:Hp)(a:Addr)(xs:Β):Prop :=
 Rd H a (.lst xs) \/
  ∃(o:Obj)(its:xo)(n:Nat),K.lookup a=some o/\o.cls=.type "list"/\o.dict=none/\o.data=.seq its n/\its.size<=sizeLine/\z5 xs its.toList
def SqT(K:Frag)(H:Hp)(a:Addr)(xs:Β):Prop :=
 Rd H a (.tup xs) \/
  ∃(o:Obj)(its:xo)(n:Nat),K.lookup a=some o/\o.cls=.type "tuple"/\o.data=.seq its n/\its.size<=sizeLine/\z5 xs its.toList
def Lu:Value->xp
 |.none=>some .non
 |.bool b=>some (.bl b)
 |.int i _=>some (.int i)
 |.str x _=>some (.str x)
 |.bytes b _=>some (.byt b)
 |.float b _=>some (.flt b)
 |.ref a=>some (.ref a)
 |.type n=>some (.ty n)
 |_=>none
def z4.abs{x:V}(r:z4 x u):Lu u=some x:=by
 cases x with
 |non=>cases r;rfl
 |bl _=>cases r;rfl
 |int _=>obtain⟨t,rfl⟩:=r;rfl
 |str _=>obtain⟨t,rfl⟩:=r;rfl
 |byt _=>obtain⟨t,rfl⟩:=r;rfl
 |flt _=>obtain⟨t,rfl⟩:=r;rfl
 |ref _=>cases r;rfl
 |ty _=>cases r;rfl
def z4.inj{x y:V}{u:Value}(r:z4 x u)(q:z4 y u):x=y:=Option.some.inj (r.abs.symm.trans q.abs)
theorem z5.inj:∀{xs ys:Β}{us:Δ},z5 xs us->z5 ys us->xs=ys
 |_,_,_,.nil,.nil=>rfl
 |_,_,_,.cons r t,.cons r' t'=>by rw[r.inj r',z5.inj t t']
def SqL.of(h:H a=some (.lst xs)):SqL K H a xs:=.inl (.inl h)
def SqT.of(h:H a=some (.tup xs)):SqT K H a xs:=.inl (.inl h)
def Inv.list(I:Inv X aa σ H s)(h:SqL X.K H a xs):∃its:Δ,z5 xs its/\PlainL s.heap a its.toArray/\xs.length<=sizeLine:=by
 rcases h with h|⟨o,its,n,hk,hc,hd,hs,hz,r⟩
 .obtain⟨z,its,n,r,e⟩:=h.ok I.hok;exact⟨its,r,⟨_,n,e,rfl,rfl,rfl⟩,z⟩
 .refine⟨its.toList,r,⟨o,n,I.kIn a o hk,hc,hd,by simpa using hs⟩,?_⟩;have e:=r.length;simp only[Array.length_toList]at e;exact aK (WS e) hz
def Inv.tuple(I:Inv X aa σ H s)(h:SqT X.K H a xs):∃its:Δ,z5 xs its/\IsTup s.heap a its.toArray/\xs.length<=sizeLine:=by
 rcases h with h|⟨o,its,n,hk,hc,hs,hz,r⟩
 .obtain⟨z,its,r,p⟩:=h.ok I.hok;exact⟨its,r,p,z⟩
 .refine⟨its.toList,r,⟨o,I.kIn a o hk,hc,n,by simpa using hs⟩,?_⟩;have e:=r.length;simp only[Array.length_toList]at e;exact aK (WS e) hz
def Inv.list_inj(I:Inv X aa σ H s)(h:SqL X.K H a xs)(h':SqL X.K H a ys):xs=ys:=by
 obtain⟨its,r,⟨o,n,e,_,_,d⟩,_⟩:=I.list h;obtain⟨its',r',⟨o',n',e',_,_,d'⟩,_⟩:=I.list h';rw[e]at e';cases e';rw[d]at d';injection d' with d1 _;have:its=its':=by simpa using ZH Array.toList d1
 subst this;exact r.inj r'
def Inv.tuple_inj(I:Inv X aa σ H s)(h:SqT X.K H a xs)(h':SqT X.K H a ys):xs=ys:=by
 obtain⟨its,r,⟨o,e,_,n,d⟩,_⟩:=I.tuple h;obtain⟨its',r',⟨o',e',_,n',d'⟩,_⟩:=I.tuple h';rw[e]at e';cases e';rw[d]at d';injection d' with d1 _;have:its=its':=by simpa using ZH Array.toList d1
 subst this;exact r.inj r'
abbrev Cx.wish(X:Cx)(E:Ξ):Cx:={ X with xe:=E }
abbrev Cx.nox(X:Cx):Cx:=X.wish λ_ _=>False
def Cx.Ok.wish{X:Cx}(ok:X.Ok)(E:Ξ):(X.wish E).Ok :=
 ⟨ok.mod,ok.kind,ok.glob,ok.blt,ok.above,ok.inj,ok.has,ok.cab,ok.hd,ok.frames,ok.stk,ok.exf,ok.bs,ok.bsz,ok.noex,ok.exfs,ok.funs,ok.frf⟩
def Cx.Ok.unwish{X:Cx}(ok:(X.wish E).Ok):X.Ok :=
 ⟨ok.mod,ok.kind,ok.glob,ok.blt,ok.above,ok.inj,ok.has,ok.cab,ok.hd,ok.frames,ok.stk,ok.exf,ok.bs,ok.bsz,ok.noex,ok.exfs,ok.funs,ok.frf⟩
def Inv.wish(I:Inv X aa σ H s)(E:Ξ):Inv (X.wish E) aa σ H s:=⟨I.ok.wish E,I.os,I.bare,I.base,I.loc,I.cell,I.free,I.freeC,I.pin,I.hok,I.len⟩
def Inv.unwish(I:Inv (X.wish E) aa σ H s):Inv X aa σ H s:=⟨I.ok.unwish,I.os,I.bare,I.base,I.loc,I.cell,I.free,I.freeC,I.pin,I.hok,I.len⟩
def SP.unwish{D:Ends}{f:Flow}{s':Shared}(h:SP (X.wish E) aa D f s'):SP X aa D f s':=by
 cases f with
 |next=>obtain⟨σ',H',I,q⟩:=h;exact⟨σ',H',I.unwish,q⟩
 |brk=>obtain⟨σ',H',I,q⟩:=h;exact⟨σ',H',I.unwish,q⟩
 |cont=>obtain⟨σ',H',I,q⟩:=h;exact⟨σ',H',I.unwish,q⟩
 |ret u=>obtain⟨v,σ',H',I,r,q⟩:=h;exact⟨v,σ',H',I.unwish,r,q⟩
def PSs.nox{st:xb}{t:TS}(h:PSs X.nox st t):PSs X st t:=λaa s σ H D I hw =>
 wpAny_mono (h aa s σ H D (I.wish _) hw) (λ_ _ q=>q.unwish) λ_ _ z=>False.elim z
section
variable{X:Cx}{st:Stmt}{rest:xb}{t u:TS}{e:Expr}{te:TE}{pos:Pos}
def OI:TS:=λD σ H=>D.nx σ H
def BK(t u:TS):TS:=λD σ H=>t { D with nx:=u D } σ H
def WB:PSs X [] OI:=λ_ _ σ H _ I h=>wpAny_execs_nil ⟨σ,H,I,h⟩
def cL(h1:PS X st t)(h2:PSs X rest u):PSs X (st::rest) (BK t u):=by
 intro aa s σ H D I h;refine wpAny_execs_cons (e_ (h1 aa s σ H { D with nx:=u D } I h) λf s1 q=>?_);cases f with
 |next =>
  obtain⟨σ',H',I',q⟩:=q;exact h2 aa s1 σ' H' D I' q
 |ret v=>exact q
 |brk=>exact q
 |cont=>exact q
def CN(h1:PS X st t):PSs X [st] t:=by
 intro aa s σ H D I h;refine wpAny_execs_cons (e_ (h1 aa s σ H D I h) λf s1 q=>?_);cases f with
 |next=>exact wpAny_execs_nil q
 |ret v=>exact q
 |brk=>exact q
 |cont=>exact q
def Inv.quiet(I:Inv X aa σ H s):interactive X.env=false:=by simp[interactive,I.ok.kind]
def OA(te:TE):TS:=λD σ H=>te σ H λ_ H1=>D.nx σ H1
def Cu(he:PE X e te)(hs:swapsWith e none pos.line X.env=pure false:=by rfl):PS X (.Expr e pos) (OA te):=by
 intro aa s σ H D I h;exact wpAny_Expr_any (e_ (he aa s σ H _ I h) λv s1 hP=>by obtain⟨x,H1,I1,r1,q1⟩:=hP;exact⟨σ,H1,I1,q1⟩) I.quiet hs
def MD(te:TE):TS:=λD σ H=>te σ H D.rt
def Iv(he:PE X e te):PS X (.Return (some e) pos) (MD te):=by
 intro aa s σ H D I h;exact wpAny_Return_some (e_ (he aa s σ H _ I h) λv s1 hP=>by obtain⟨x,H1,I1,r1,q1⟩:=hP;exact⟨x,σ,H1,I1,r1,q1⟩)
def MX(c:TT)(t u:TS):TS:=λD σ H=>c σ H λb H1=>if b=true then t D σ H1 else u D σ H1
def OO{a b:xb}{tc:TT}(hc:PT X c tc)(ha:PSs X a t)(hb:PSs X b u):PS X (.If c a b pos) (MX tc t u):=by
 intro aa s σ H D I h;refine wpAny_If (e_ (hc aa s σ H _ I h) λd s1 hP=>?_);obtain⟨H1,I1,q1⟩:=hP;cases d with
 |true=>exact ha aa s1 σ H1 D I1 q1
 |false=>exact hb aa s1 σ H1 D I1 q1
def UE:TS:=λ_ _ _=>False
def Wo:PS X st UE:=λ_ _ _ _ _ _ h=>h.elim
end
abbrev TG:=V->St->Hp->(St->Hp->Prop)->Prop
abbrev sq:=Β->St->Hp->(St->Hp->Prop)->Prop
def PG(X:Cx)(gx:Expr)(t:TG):Prop :=
 ∀(aa:Γ)(s:Shared)(σ:St)(H:Hp)(v:V)(u:Value)(Q:St->Hp->Prop),Inv X aa σ H s->z4 v u->t v σ H Q ->
  wpAny (model X.prog X.w) X.A (assign gx X.env u) (λ_ s'=>∃σ' H',Inv X aa σ' H' s'/\Q σ' H') X.xe s
def PGs(X:Cx)(ts:zh)(t:sq):Prop :=
 ∀(aa:Γ)(s:Shared)(σ:St)(H:Hp)(vs:Β)(us:Δ)(Q:St->Hp->Prop),Inv X aa σ H s->z5 vs us->t vs σ H Q ->
  wpAny (model X.prog X.w) X.A (assignInOrder ((assignEach ts X.env).map (·.2)) us) (λ_ s'=>∃σ' H',Inv X aa σ' H' s'/\Q σ' H') X.xe s
abbrev yf:=V->V->V->Hp->(Hp->Prop)->Prop
def BD(X:Cx)(t:yf):Prop :=
 ∀(aa:Γ)(s:Shared)(σ:St)(H:Hp)(o i v:V)(ov iv u:Value)(Q:Hp->Prop),Inv X aa σ H s->z4 o ov->z4 i iv->z4 v u->t o i v H Q ->
  wpAny (model X.prog X.w) X.A (setItem ov iv u) (λ_ s'=>∃H',Inv X aa σ H' s'/\Q H') X.xe s
def qF(i:Nat):TG:=λv σ H Q=>Q (σ.set i (some v)) H
def kh(hN:X.N.Nodup)(hi:X.N[i]?=some x)(hx:tz X.env.scope x)(hf:qi X x:=by first|exact .inl rfl|exact .inr rfl|assumption):PG X (.Name x pos) (qF i):=by
 intro aa s σ H v u Q I r h;exact wpAny_assign_Name (yQ I hN hi hx r (λs' I'=>⟨_,H,I',h⟩) hf)
def LG:sq:=λvs σ H Q=>vs=[]/\Q σ H
def Po(t:TG)(u:sq):sq:=λvs σ H Q=>∃v r,vs=v::r/\t v σ H λσ' H'=>u r σ' H' Q
def X':PGs X [] LG:=by
 intro aa s σ H vs us Q I r h;obtain⟨e,h⟩:=h;subst e;cases r;exact assignInOrder_nil ⟨σ,H,I,h⟩
def V9{t:TG}{u:sq}(h1:PG X e t)(h2:PGs X es u)
 (hs:(assignEach (e::es) X.env).map (·.2)=assign e X.env::(assignEach es X.env).map (·.2):=by rfl):PGs X (e::es) (Po t u):=by
 intro aa s σ H vs us Q I r h;obtain⟨v,vr,e1,h⟩:=h;subst e1;cases r with
 |cons r rr =>
  rw[hs];refine assignInOrder_cons (e_ (h1 aa s σ H _ _ _ I r h) λ_ s1 hP=>?_);obtain⟨σ1,H1,I1,q1⟩:=hP;exact h2 aa s1 σ1 H1 _ _ Q I1 rr q1
def MW(K:Frag)(n:Nat)(t:sq):TG:=λv σ H Q=>∃a xs,v=.ref a/\SqT K H a xs/\xs.length=n/\t xs σ H Q
abbrev zw(X:Cx)(a:zh):Prop:=(assignEach a X.env).findIdx? (·.1)=none
def SG{t:sq}{n:Nat}(hc:X.calm)(h:PGs X es t)
 (hn:(assignEach es X.env).length=n:=by rfl)(ce:zw X es:=by rfl):PG X (.Tuple es k pos) (MW X.K n t):=by
 intro aa s σ H v u Q I r hw;obtain⟨a,xs,e1,hq,hl,hw⟩:=hw;subst e1;cases r;obtain⟨its,rv,ht,hz⟩:=I.tuple hq;refine assign_Tuple_tuple (I.ok.hd hc) ht (by simp[hn,<- hl,rv.length]) ce λh' hx=>?_;have I1:Inv X aa σ H { s with heap:=h' }:=I.kept (t':=s.toks) λb o e=>hx b o (aP (aJ e)) e;exact h aa _ σ H xs _ Q I1 (by simpa using rv) hw
def LZ(to ti:TE)(t:yf):TG:=λv σ H Q=>to σ H λo H1=>ti σ H1 λi H2=>t o i v H2 λH3=>Q σ H3
def Rc{o i:Expr}{to ti:TE}{t:yf}(ho:PE X o to)(hi:PE X i ti)(hs:BD X t)
 (ha:∀v,assign (.Subscript o i pos) X.env v=(do
   let ov <- holding [v] (eval o X.env)
   let iv <- holding [v,ov] (eval i X.env)
   standAt pos
   holding [v,ov,iv] (setItem ov iv v)
   release [v,ov,iv] []):=by intro _;rfl):PG X (.Subscript o i pos) (LZ to ti t):=by
 intro aa s σ H v u Q I r h;rw[ha];refine ZU (wpAny_holding (e_ (ho aa s σ H _ I h) λov s1 hP=>?_));obtain⟨x,H1,I1,r1,q1⟩:=hP;refine ZU (wpAny_holding (e_ (hi aa s1 σ H1 _ I1 q1) λiv s2 hP=>?_));obtain⟨y,H2,I2,r2,q2⟩:=hP;refine ZU (wpAny_standAt (ZU (wpAny_holding (e_ (hs aa s2 σ H2 x y v ov iv u _ I2 r1 r2 r q2) λ_ s3 hP=>?_))));obtain⟨H3,I3,q3⟩:=hP;exact wpAny_release ⟨σ,H3,I3,q3⟩
def LR(te:TE)(g:TG):TS:=λD σ H=>te σ H λx H1=>g x σ H1 D.nx
def Wa{g:TG}(he:PE X e te)(hg:PG X tg g)(hs:swapsWithSole [tg] e pos.line X.env=pure false:=by rfl)(hw:swappedStores [tg] e X.env=pure none:=by rfl)
 (h1:(assignEach [tg] X.env).map (·.2)=[assign tg X.env]:=by rfl):PS X (.Assign [tg] e pos) (LR te g):=by
 intro aa s σ H D I h;refine wpAny_Assign_stores (e_ (he aa s σ H _ I h) λv s1 hP=>?_) hs hw;obtain⟨x,H1,I1,r1,q1⟩:=hP;rw[h1];exact e_ (hg aa s1 σ H1 x v _ I1 r1 q1) λ_ s2 q=>q
def DQ(hN:X.N.Nodup)(hi:X.N[i]?=some x)(hx:tz X.env.scope x)(he:PE X e te)(hs:swapsWith e (some (.Name x bu)) pos.line X.env=pure false:=by rfl)(hf:qi X x:=by first|exact .inl rfl|exact .inr rfl|assumption) :
  PS X (.Assign [.Name x bu] e pos) (LR te (qF i)):=by
 intro aa s σ H D I h;refine wpAny_Assign_Name (e_ (he aa s σ H _ I h) λv s1 hP=>?_) hs;obtain⟨y,H1,I1,r1,q1⟩:=hP;exact yQ I1 hN hi hx r1 (λs2 I2=>⟨_,H1,I2,q1⟩) hf
def M0(i j:Nat)(ta:TA):TS:=λD σ H=>ta σ H λvs H1=>∃v w,vs=[v,w]/\D.nx ((σ.set i (some v)).set j (some w)) H1
variable{a:Expr}{body:xb}{p:Pos}{fp:Φ}
def Sf{j:Nat}{y:Str}{b:Expr}{ta:TA}{px py pt:Pos}{kt k2 pt2}(hc:X.calm)(hN:X.N.Nodup)(hi:X.N[i]?=some x)(hj:X.N[j]?=some y)(ll:i≠j)
 (hx:X.env.scope.names.lookup x=some .local)(hy:X.env.scope.names.lookup y=some .local)(ha:PA X [a,b] ta)
 (hw:swappedStores [.Tuple [.Name x px,.Name y py] kt pt] (.Tuple [a,b] k2 pt2) X.env=pure (some [x,y]))
 (hs:swapsWithSole [.Tuple [.Name x px,.Name y py] kt pt] (.Tuple [a,b] k2 pt2) pos.line X.env=pure false:=by rfl) :
  PS X (.Assign [.Tuple [.Name x px,.Name y py] kt pt] (.Tuple [a,b] k2 pt2) pos) (M0 i j ta):=by
 intro aa s σ H D I h;rw[exec_Assign_arm];refine ZU (wpAny_standAt ?_);rw[hs];refine ZU (ZT ?_);rw[ZZ xa];refine ZU (Tuple_ (e_ (ha _ aa s σ H _ I h) λus s1 hP=>?_));obtain⟨vs,H1,I1,r1,q1⟩:=hP;obtain⟨v,w,e1,q1⟩:=q1;subst e1;obtain⟨u1,u2,rfl,rv,eR⟩ : ∃u1 u2,us=[u1,u2]/\z4 v u1/\z4 w u2:=by
  cases r1 with
  |cons p q =>
   cases q with
   |cons p' q' =>
    cases q';exact⟨_,_,rfl,p,p'⟩
 refine wpAny_newObj_type ?_ (by show 2<=sizeLine;decide);have I2:Inv X aa σ H1 { s1 with heap:=s1.heap.push { cls:=.type "tuple",data:=.seq [u1,u2].toArray } }:=I1.kept (t':=s1.toks) λb o e=>aG _ e;rw[hw];refine ZU (ZT ?_);show wpAny (model X.prog X.w) X.A (do rule "assign.swapped-stores"; let items <- unpackItems (.ref s1.zs) 2 none;assignInOrder [λv=>bindName X.env y v,λv=>bindName X.env x v] items.reverse;pure Flow.next) _ _ _;refine ZU (wpAny_rule (ZU (unpackItems_tuple (items:=#[u1,u2]) (I.ok.hd hc) (IsTup.new s1.heap _) λh' j2=>?_)));have I3:=I2.kept (h':=h') (t':=s1.toks) λb o e=>j2 b o (aP (aJ e)) e;show wpAny _ _ (assignInOrder [λv=>bindName X.env y v,λv=>bindName X.env x v] [u2,u1] >>= λ_=>pure Flow.next) _ _ _;refine ZU (assignInOrder_cons (wpAny_bindName (yQ I3 hN hj (.inl hy) eR (λs2 I4=>?_) (.inr hy))));refine assignInOrder_cons (wpAny_bindName (yQ I4 hN hi (.inl hx) rv (λs3 I5=>assignInOrder_nil (ZT ?_)) (.inr hx)));rw[List.set_comm _ _ (Ne.symm ll)]at I5;exact⟨_,H1,I5,q1⟩
def RR(c:TT)(tb:TS):TS:=λD σ H=>∃W:Nat->St->Hp->Prop,(∃m,W m σ H)/\∀m σ H,W m σ H ->
 c σ H λb H1=>if b=true then ∃N:St->Hp->Prop,(∀σ' H',N σ' H'->∃m',m'<m/\W m' σ' H')/\tb { D with nx:=N,ct:=N,bk:=D.nx } σ H1 else D.nx σ H1
def Vh{tc:TT}{tb:TS}(hp:PassesOwn (model X.prog X.w) X.A X.env X.xe)(hc:PT X c tc)(hb:PSs X body tb):PS X (.While c body [] pos) (RR tc tb):=by
 intro aa s σ H D I h;obtain⟨W,⟨m0,w0⟩,ph⟩:=h;refine wpAny_While (codeAny_whileLoop (λn s'=>∃σ' H',Inv X aa σ' H' s'/\W n σ' H') ?_ m0 ⟨σ,H,I,w0⟩);rintro n s1 ⟨σ1,H1,I1,w1⟩;refine wpAny_passesOwn hp (e_ (hc aa s1 σ1 H1 _ I1 (ph n σ1 H1 w1)) λb s2 hP=>?_);obtain⟨H2,I2,q2⟩:=hP;cases b with
 |true =>
  obtain⟨N,hN,q2⟩:=q2;rw[ZY rfl];refine wpAny_passesOwn hp (e_ (hb aa s2 σ1 H2 _ I2 q2) λf s3 q3=>?_);cases f with
  |next =>
   obtain⟨σ3,H3,I3,n3⟩:=q3;obtain⟨m',hm,w3⟩:=hN σ3 H3 n3;exact⟨m',hm,σ3,H3,I3,w3⟩
  |cont =>
   obtain⟨σ3,H3,I3,n3⟩:=q3;obtain⟨m',hm,w3⟩:=hN σ3 H3 n3;exact⟨m',hm,σ3,H3,I3,w3⟩
  |brk=>exact q3
  |ret v=>exact q3
 |false =>
  rw[ZZ bf];exact wpAny_execs_nil ⟨σ1,H2,I2,q2⟩
structure It where
 go:Nat->Hp->Prop
 yld:Nat->Hp->V->Hp->Prop
 stop:Nat->Hp->Prop
def Cd(X:Cx)(aa:Γ)(H:Hp)(b:Addr):Prop :=
 H b=none/\b≠X.env.locals/\b∉X.fs/\(b∈X.ex\/X.s₀.zs<=b)/\(∀x c,X.env.cells.lookup x=some c->c≠b)/\∀p∈X.pn++aa,p.1≠b
def Inv.fpOk{X:Cx}(I:Inv X aa σ H s)(hb:s.zs<=b)(hn:H' b=none):Cd X aa H' b:=by
 refine⟨hn,UY (aQ I.lt hb),I.nofs hb,.inr (aK I.sz hb),λx c e z=>?_,λp hp z=>?_⟩
 .obtain⟨v,q⟩:=I.cell x c e;exact absurd (aQ q.lt (by rwa[z])) (X9 _)
 .exact absurd (aQ (aJ (I.pin p hp).1) (by rwa[z])) (X9 _)
structure Turn(P:Program)(w:World)(K:Frag)(tg:Expr)(J:It)(fp:Φ)(it:Addr)(tn:Nat->Heap->Prop):Prop where
 mem:it∈fp
 obj:∀i h,tn i h->∀b∈fp,∃o,h.get? b=some o/\∀v,o.data≠.cell v
 keep:∀i h h',tn i h->(∀b∈fp,∀o,h.get? b=some o->h'.get? b=some o)->tn i h'
 item:∀(X:Cx),X.prog=P->X.w=w->X.K=K->X.calm=true->∀(i:Nat)(aa:Γ)(s:Shared)(σ:St)(H:Hp)(E:Ξ),Inv X aa σ H s->(∀b∈fp,Cd X aa H b)->tn i s.heap->J.go i H ->
  wpAny (model P w) X.A (pyNext (.ref it)) (λr s1=>∃u,r=some u /\
   wpAny (model P w) X.A (letOwnedTupleGo tg (.ref it) u) (λ_ s2=>∃x H',Inv X aa σ H' s2/\z4 x u/\J.yld i H x H'/\tn (i+1) s2.heap/\∀b∈fp,H' b=none) E s1) E s
 done:∀(X:Cx),X.prog=P->X.w=w->X.K=K->X.calm=true->∀(i:Nat)(aa:Γ)(s:Shared)(σ:St)(H:Hp)(E:Ξ),Inv X aa σ H s->(∀b∈fp,Cd X aa H b)->tn i s.heap->J.stop i H ->
  wpAny (model P w) X.A (pyNext (.ref it)) (λr s1=>r=none/\Inv X aa σ H s1) E s
 self:∀(A:Around)(i:Nat)(s:Shared)(Q:Ξ)(E:Ξ),tn i s.heap->Q (.ref it) s->wpAny (model P w) A (pyIter (.ref it)) Q E s
abbrev TI:=St->Hp->(It->Hp->Prop)->Prop
def Ix(X:Cx)(aa:Γ)(σ:St)(tg:Expr)(R:It->Hp->Prop)(kQ:Value)(s2:Shared):Prop :=
 ∃(it:Addr)(fp:Φ)(tn:Nat->Heap->Prop)(J:It)(H':Hp),kQ=.ref it/\Inv X aa σ H' s2/\Turn X.prog X.w X.K tg J fp it tn/\tn 0 s2.heap/\(∀b∈fp,Cd X aa H' b)/\R J H'
def PI(X:Cx)(tg iter:Expr)(wi:TI):Prop :=
 ∀(aa:Γ)(s:Shared)(σ:St)(H:Hp)(R:It->Hp->Prop),Inv X aa σ H s->wi σ H R ->
  wpAny (model X.prog X.w) X.A (eval iter X.env) (λv s1=>wpAny (model X.prog X.w) X.A (pyIter v) (Ix X aa σ tg R) X.xe s1) X.xe s
def Mi{it:Addr}{n:String}{vs:xo}(ho:s.heap.get? it=some o)(hc:o.cls=.type n)(hd:o.data=.fields vs)
   (hn : ["enumerate","zip","dict_itemiterator","dict_reverseitemiterator","odict_iterator","itertools.zip_longest","itertools.pairwise"].contains n=false)(hQ:Q () s):wpAny M A (letOwnedTupleGo tg (.ref it) u) Q E s:=by
  unfold letOwnedTupleGo;cases tg<;>first
    |exact ZT hQ
    |(cases u<;>first
        |exact ZT hQ
        | (refine ZU (wpAny_load ho ?_)
           rw[hc,hd];show wpAny M A (if(["enumerate","zip","dict_itemiterator","dict_reverseitemiterator","odict_iterator","itertools.zip_longest","itertools.pairwise"].contains n&&vs[0]?==some (rawInt _))=true then _ else _) Q E s;rw[ZZ (by intro h;rw[hn,Bool.false_and]at h;cases h)];exact ZT hQ))
def IE(K:Frag)(a:Addr):It :=
 ⟨λi H=>∃xs x,SqL K H a xs/\xs[i]?=some x,λi H x H'=>H'=H/\∀xs,SqL K H a xs->xs[i]?=some x,λi H=>∃xs,SqL K H a xs/\xs.length<=i⟩
def ID(K:Frag)(a:Addr):It :=
 ⟨λi H=>∃xs x,SqT K H a xs/\xs[i]?=some x,λi H x H'=>H'=H/\∀xs,SqT K H a xs->xs[i]?=some x,λi H=>∃xs,SqT K H a xs/\xs.length<=i⟩
def wb(lo:Int)(n:Nat):It:=⟨λi _=>i<n,λi H x H'=>H'=H/\x=.int (lo+i),λi _=>n<=i⟩
def Um(a it:Addr):Turn P w K tg (IE K a) [it] it (λi h=>h.IsListIter it a i) where
 mem:=by simp
 obj:=λi h st b hb=>by
  have e:b=it:=by simpa using hb
  subst e;obtain⟨o,e,c,d⟩:=st;exact⟨o,e,λv z=>by rw[d]at z;cases z⟩
 keep:=λi h h' st k=>st.at λo e=>k it xF o e
 item:=by
  intro X hP hw hK hc i aa s σ H E I hf st hg;subst hP hw hK;obtain⟨xs,x,hq,hx⟩:=hg;obtain⟨its,rv,p,hz⟩:=I.list hq;obtain⟨u,hu,ru⟩:=rv.get hx;obtain⟨f0,f1,f2,f3,f4,f5⟩:=hf it xF;refine wpAny_pyNext_list_item st p.isList (x:=u) (by simpa using hu) λh' dA sb=>?_;have I1:Inv X aa σ H { s with heap:=h' }:=I.turned (t':=s.toks) (λb o hb e=>(sb.2 b hb).trans e) f0 f1 f3 f4 f5;obtain⟨o,e,c,d⟩:=id dA;exact⟨u,rfl,Mi (s:={ s with heap:=h' }) e c d xa ⟨x,H,I1,ru,⟨rfl,λys hy=>by rwa[I.list_inj hy hq]⟩,dA,λb hb=>(hf b hb).1⟩⟩
 done:=by
  intro X hP hw hK hc i aa s σ H E I hf st hg;subst hP hw hK;obtain⟨xs,hq,hx⟩:=hg;obtain⟨its,rv,p,hz⟩:=I.list hq;obtain⟨f0,f1,f2,f3,f4,f5⟩:=hf it xF;have hl:=rv.length;exact wpAny_pyNext_list_end (I.ok.hd hc) st p.isList (by simp;lia) λh' eb=>⟨rfl,I.turned (t':=s.toks) (λb o hb e=>eb b o hb e) f0 f1 f3 f4 f5⟩
 self:=λ_ _ _ _ _ st h=>wpAny_pyIter_listiter st h
def Qi(a it:Addr):Turn P w K tg (ID K a) [it] it (λi h=>h.IsTupleIter it a i) where
 mem:=by simp
 obj:=λi h st b hb=>by
  have e:b=it:=by simpa using hb
  subst e;obtain⟨o,e,c,d⟩:=st;exact⟨o,e,λv z=>by rw[d]at z;cases z⟩
 keep:=λi h h' st k=>st.at λo e=>k it xF o e
 item:=by
  intro X hP hw hK hc i aa s σ H E I hf st hg;subst hP hw hK;obtain⟨xs,x,hq,hx⟩:=hg;obtain⟨its,rv,p,hz⟩:=I.tuple hq;obtain⟨u,hu,ru⟩:=rv.get hx;obtain⟨f0,f1,f2,f3,f4,f5⟩:=hf it xF;refine wpAny_pyNext_tuple_item st (show s.heap.IsTuple a its.toArray from p) (x:=u) (by simpa using hu) λh' dA sb=>?_;have I1:Inv X aa σ H { s with heap:=h' }:=I.turned (t':=s.toks) (λb o hb e=>(sb.2 b hb).trans e) f0 f1 f3 f4 f5;obtain⟨o,e,c,d⟩:=id dA;exact⟨u,rfl,Mi (s:={ s with heap:=h' }) e c d xa ⟨x,H,I1,ru,⟨rfl,λys hy=>by rwa[I.tuple_inj hy hq]⟩,dA,λb hb=>(hf b hb).1⟩⟩
 done:=by
  intro X hP hw hK hc i aa s σ H E I hf st hg;subst hP hw hK;obtain⟨xs,hq,hx⟩:=hg;obtain⟨its,rv,p,hz⟩:=I.tuple hq;obtain⟨f0,f1,f2,f3,f4,f5⟩:=hf it xF;have hl:=rv.length;exact wpAny_pyNext_tuple_end (I.ok.hd hc) st (show s.heap.IsTuple a its.toArray from p) (by simp;lia) λh' eb=>⟨rfl,I.turned (t':=s.toks) (λb o hb e=>eb b o hb e) f0 f1 f3 f4 f5⟩
 self:=λ_ _ _ _ _ st h=>wpAny_pyIter_tupleiter st h
def O_(it:Addr)(lo:Int)(n:Nat):Turn P w K tg (wb lo n) [it] it (λi h=>IsRangeIter h it (lo+(i:Nat)*1) ((n:Int)-(i:Nat)) 1) where
 mem:=by simp
 obj:=λi h st b hb=>by
  have e:b=it:=by simpa using hb
  subst e;exact⟨_,st,λv z=>by
   have z':Data.fields _=Data.cell v:=z;cases z'⟩
 keep:=λi h h' st k=>k it xF _ st
 item:=by
  intro X hP hw hK hc i aa s σ H E I hf st hg;subst hP hw hK;obtain⟨f0,f1,f2,f3,f4,f5⟩:=hf it xF;have W:=Walks.range (prog:=X.prog) (w:=X.w) (I.ok.hd hc) it lo 1 n;refine W.item i s _ _ hg st λv h' tk hv dA kk=>?_;obtain⟨t,rfl⟩:=hv;have I1:Inv X aa σ H { s with heap:=h',toks:=tk }:=I.turned (λb o hb e=>kk b o (by simpa using hb) e) f0 f1 f3 f4 f5;refine⟨_,rfl,Mi (s:={ s with heap:=h',toks:=tk }) (n:="range_iterator") dA rfl rfl xa ⟨.int (lo+i),H,I1,⟨t,?_⟩,⟨rfl,rfl⟩,dA,λb hb=>(hf b hb).1⟩⟩;rw[Int.mul_one]
 done:=by
  intro X hP hw hK hc i aa s σ H E I hf st hg;subst hP hw hK;obtain⟨f0,f1,f2,f3,f4,f5⟩:=hf it xF;exact wpAny_pyNext_range_end (I.ok.hd hc) st (by have:n<=i:=hg;lia) λh' eb=>⟨rfl,I.turned (t':=s.toks) (λb o hb e=>eb b o hb e) f0 f1 f3 f4 f5⟩
 self:=λ_ _ _ _ _ st h=>wpAny_pyIter_rangeiter st h
def OS(K:Frag)(tl:TE):TI:=λσ H R=>tl σ H λx H1=>∃a,x=.ref a/\(∃xs,SqL K H1 a xs)/\R (IE K a) H1
def K'(K:Frag)(tl:TE):TI:=λσ H R=>tl σ H λx H1=>∃a,x=.ref a/\(∃xs,SqT K H1 a xs)/\R (ID K a) H1
def Zd{l:Expr}{tl:TE}(hl:PE X l tl):PI X tg l (OS X.K tl):=by
 intro aa s σ H R I h;refine e_ (hl aa s σ H _ I h) λv s1 hP=>?_;obtain⟨x,H1,I1,r1,q1⟩:=hP;obtain⟨a,e,⟨xs,hq⟩,q⟩:=q1;subst e;cases r1;obtain⟨its,rv,p,hz⟩:=I1.list hq;refine wpAny_pyIter_list p.isList ?_;refine⟨s1.zs,[s1.zs],_,_,H1,rfl,I1.kept (t':=s1.toks) λb o e=>aG _ e,Um a _,⟨_,aV _ rfl,rfl,rfl⟩,λb hb=>?_,q⟩;have e:b=s1.zs:=by simpa using hb
 subst e;exact I1.fpOk (aF _) (I1.hok.fresh (aF _))
def P8{l:Expr}{tl:TE}(hl:PE X l tl):PI X tg l (K' X.K tl):=by
 intro aa s σ H R I h;refine e_ (hl aa s σ H _ I h) λv s1 hP=>?_;obtain⟨x,H1,I1,r1,q1⟩:=hP;obtain⟨a,e,⟨xs,hq⟩,q⟩:=q1;subst e;cases r1;obtain⟨its,rv,p,hz⟩:=I1.tuple hq;refine wpAny_pyIter_tuple (show s1.heap.IsTuple a its.toArray from p) ?_;refine⟨s1.zs,[s1.zs],_,_,H1,rfl,I1.kept (t':=s1.toks) λb o e=>aG _ e,Qi a _,⟨_,aV _ rfl,rfl,rfl⟩,λb hb=>?_,q⟩;have e:b=s1.zs:=by simpa using hb
 subst e;exact I1.fpOk (aF _) (I1.hok.fresh (aF _))
def Xw{R:It->Hp->Prop}{lo hi:Int}{t u v:Tok}{tk:Nat}(I:Inv X aa σ H s)(h1 : -(2^62)<=lo)(h2:lo<2^62)(h3 : -(2^62)<=hi)(h4:hi<2^62)
 (q:R (wb lo (hi-lo).toNat) H):wpAny (model X.prog X.w) X.A (pyIter (.ref s.zs)) (Ix X aa σ tg R) E { s with heap:=s.heap.push { cls:=.type "range",data:=.fields #[.int lo t,.int hi u,.int 1 v] },toks:=tk }:=by
 refine wpAny_pyIter_range (IsRange.new ..) (small_one h1 h2 h3 h4) ?_;have I1:Inv X aa σ H { s with heap:=s.heap.push { cls:=.type "range",data:=.fields #[.int lo t,.int hi u,.int 1 v] },toks:=tk }:=I.kept λb o e=>aG _ e;refine⟨(s.heap.push { cls:=.type "range",data:=.fields #[.int lo t,.int hi u,.int 1 v] }).objs.size,[(s.heap.push { cls:=.type "range",data:=.fields #[.int lo t,.int hi u,.int 1 v] }).objs.size],_,_,H,rfl,
  I1.kept (t':=tk) λb o e=>aG _ e,O_ _ lo (hi-lo).toNat,?_,λb hb=>?_,q⟩
 .have e1:lo+((0:Nat):Int)*1=lo:=by simp
  have e2:(((hi-lo).toNat:Nat):Int)-((0:Nat):Int)=Builtin.Range.rangeSize lo hi 1:=by rw[rangeSize_one];split<;>lia
  show IsRangeIter _ _ (lo+((0:Nat):Int)*1) ((((hi-lo).toNat:Nat):Int)-((0:Nat):Int)) 1;rw[e1,e2];exact aV _ rfl
 .have e:b=(s.heap.push { cls:=.type "range",data:=.fields #[.int lo t,.int hi u,.int 1 v] }).objs.size:=by simpa using hb
  subst e;exact I1.fpOk (aF _) (I1.hok.fresh (aF _))
def Xz(ta:TA):TI:=λσ H R=>ta σ H λvs H1=>∃j:Int,vs=[.int j]/\-(2^62)<=j/\j<2^62/\R (wb 0 j.toNat) H1
def Hv{ta:TA}(hg:Gl X "range")(hm:X.mg "range"=none)(ha:PA X [a] ta)(hs:starEach [a] X.env=[(false,eval a X.env)]:=by rfl):PI X tg (.Call (.Name "range" p) [a] [] pos) (Xz ta):=by
 intro aa s σ H R I h;refine Call_ (Ab I hg hm boot_range (PyProof.Rows.callWith_type1 (e_ (ha pos aa s σ H _ I h) λus s1 hP=>?_) hs rfl));obtain⟨vs,H1,I1,r1,q1⟩:=hP;obtain⟨j,e,q1,q2,q⟩:=q1;subst e;cases r1 with
 |cons r rr =>
  cases rr;obtain⟨t,rfl⟩:=r;exact call_range_1 (Xw I1 (XY xa) (TW xa) q1 q2 (by simpa using q))
def ya(wi:TI)(g:TG)(tb:TS):TS:=λD σ H=>wi σ H λJ H1=>∃W:Nat->Nat->St->Hp->Prop,(∃m,W 0 m σ H1)/\∀i m σ H,W i m σ H ->
 (J.stop i H/\D.nx σ H)\/(J.go i H/\∃N:St->Hp->Prop,(∀σ' H',N σ' H'->∃m',m'<m/\W (i+1) m' σ' H')/\∀x H',J.yld i H x H'->g x σ H' λσ2 H2=>tb { D with nx:=N,ct:=N,bk:=D.nx } σ2 H2)
def DP(fp:Φ)(h:Heap):Γ:=fp.filterMap λb=>(h.get? b).map λo=>(b,o)
def oV(hb:b∈fp)(e:h.get? b=some o):(b,o)∈DP fp h:=List.mem_filterMap.mpr ⟨b,hb,by rw[e];rfl⟩
def SQ{p:Addr×Obj}(hp:p∈DP fp h):p.1∈fp/\h.get? p.1=some p.2:=by
 obtain⟨b,hb,e⟩:=List.mem_filterMap.mp hp;cases q:h.get? b with
 |none=>rw[q]at e;cases e
 |some o =>
  rw[q]at e;have e':(b,o)=p:=Option.some.inj e;subst e';exact⟨hb,q⟩
def Inv.pinned(I:Inv X aa σ H s)(hf:∀b∈fp,Cd X aa H b)(ho:∀b∈fp,∃o,s.heap.get? b=some o/\∀v,o.data≠.cell v):Inv X (aa++DP fp s.heap) σ H s :=
 I.pins_of λp hp=>(Y1.mp hp).elim (λz=>I.pin p (aO _ z)) λz=>by
  obtain⟨hb,e⟩:=SQ z;obtain⟨f0,f1,f2,_⟩:=hf p.1 hb;obtain⟨o,e',d⟩:=ho p.1 hb;rw[e]at e';cases e';exact⟨e,f0,f1,f2,d⟩
def Inv.unpinned{pl:Γ}(I:Inv X (aa++pl) σ H s):Inv X aa σ H s:=I.pins_of λp hp=>I.pin p (aO _ (UP _ hp))
abbrev qV(X:Cx)(a:Expr):Prop:=∀z,foldedSetIterable a X.env z=pure z
def U6{iter:Expr}{wi:TI}{g:TG}{tb:TS}(hp:PassesOwn (model X.prog X.w) X.A X.env X.xe)(hc:X.calm)(hi:PI X tg iter wi)(hg:PG X tg g)(hb:PSs X body tb)
 (hs:qV X iter:=by intro _;rfl):PS X (.For tg iter body [] pos) (ya wi g tb):=by
 intro aa s σ H D I h;refine wpAny_For (e_ (hi aa s σ H _ I h) λv s1 h1=>e_ h1 λkQ s2 h2=>?_) hs;obtain⟨it,fp,tn,J,H2,e,I2,T,f6,f2,W,⟨m0,w0⟩,ph⟩:=h2;subst e

 have gy:∀{H':Hp},(∀b∈fp,H' b=none)->∀b∈fp,Cd X aa H' b:=λhn b hb=>⟨hn b hb,(f2 b hb).2⟩;refine codeAny_forLoop_any (λn s'=>∃i σ' H',Inv X aa σ' H' s'/\tn i s'.heap/\(∀b∈fp,H' b=none)/\W i n σ' H') ?_ m0 ⟨0,σ,H2,I2,f6,λb hb=>(f2 b hb).1,w0⟩;rintro n s3 ⟨i,σ3,H3,I3,hV,fr3,w3⟩;rcases ph i n σ3 H3 w3 with⟨stop,qn⟩|⟨go,N,hN,step⟩
 .refine wpAny_passesOwn hp (e_ (T.done X rfl rfl rfl hc i aa s3 σ3 H3 X.xe I3 (gy fr3) hV stop) λr s4 hP=>?_);obtain⟨hr,I4⟩:=hP;subst hr;exact wpAny_execs_nil ⟨σ3,H3,I4,qn⟩
 .refine wpAny_passesOwn hp (e_ (T.item X rfl rfl rfl hc i aa s3 σ3 H3 X.xe I3 (gy fr3) hV go) λr s4 hP=>?_);obtain⟨u,hr,h4⟩:=hP;subst hr;refine wpAny_passesOwn hp (e_ h4 λ_ s5 hP=>?_);obtain⟨x,H5,I5,r5,y5,kr,fr5⟩:=hP;have I5':=I5.pinned (gy fr5) (T.obj _ _ kr);refine wpAny_passesOwn hp (e_ (hg _ s5 σ3 H5 x u _ I5' r5 (step x H5 y5)) λ_ s6 hP=>?_);obtain⟨σ6,H6,I6,q6⟩:=hP;refine wpAny_passesOwn hp (e_ (hb _ s6 σ6 H6 _ I6 q6) λf s7 q7=>?_);have again:∀{σ7:St}{H7:Hp},Inv X (aa++DP fp s5.heap) σ7 H7 s7->N σ7 H7->∃m,m<n/\∃i σ' H',Inv X aa σ' H' s7/\tn i s7.heap/\(∀b∈fp,H' b=none)/\W i m σ' H':=λ{σ7 H7}I7 n7=>by
   obtain⟨m',hm,w7⟩:=hN σ7 H7 n7;refine⟨m',hm,i+1,σ7,H7,I7.unpinned,T.keep _ _ _ kr λb hb o e=>(I7.pin (b,o) (aO _ (aO _ (oV hb e)))).1,λb hb=>?_,w7⟩;obtain⟨o,e,d⟩:=T.obj _ _ kr b hb;exact(I7.pin (b,o) (aO _ (aO _ (oV hb e)))).2.1
  cases f with
  |next=>obtain⟨σ7,H7,I7,n7⟩:=q7;exact again I7 n7
  |cont=>obtain⟨σ7,H7,I7,n7⟩:=q7;exact again I7 n7
  |brk=>obtain⟨σ7,H7,I7,q7⟩:=q7;exact⟨σ7,H7,I7.unpinned,q7⟩
  |ret v=>obtain⟨x7,σ7,H7,I7,r7,q7⟩:=q7;exact⟨x7,σ7,H7,I7.unpinned,r7,q7⟩
abbrev R2:=V->V->Hp->VK->Prop
def OpR(X:Cx)(f:Value->Value->Sem Value)(r:R2):Prop :=
 ∀(aa:Γ)(s:Shared)(σ:St)(H:Hp)(x y:V)(v u:Value)(Q:VK),Inv X aa σ H s->z4 x v->z4 y u->r x y H Q ->
  wpAny (model X.prog X.w) X.A (f v u) (EP X aa σ Q) X.xe s
def yy(X:Cx)(f:Value->Sem Value)(r:V->Hp->VK->Prop):Prop :=
 ∀(aa:Γ)(s:Shared)(σ:St)(H:Hp)(x:V)(v:Value)(Q:VK),Inv X aa σ H s->z4 x v->r x H Q ->
  wpAny (model X.prog X.w) X.A (f v) (EP X aa σ Q) X.xe s
def jf(X:Cx)(f:Value)(r:Β->Hp->VK->Prop):Prop :=
 ∀(aa:Γ)(s:Shared)(σ:St)(H:Hp)(xs:Β)(us:Δ)(Q:VK),Inv X aa σ H s->z5 xs us->r xs H Q ->
  wpAny (model X.prog X.w) X.A (call f us) (EP X aa σ Q) X.xe s
def Nc(X:Cx)(r:V->Hp->(Bool->Hp->Prop)->Prop):Prop :=
 ∀(aa:Γ)(s:Shared)(σ:St)(H:Hp)(x:V)(v:Value)(Q:Bool->Hp->Prop),Inv X aa σ H s->z4 x v->r x H Q ->
  wpAny (model X.prog X.w) X.A (truthy v) (TP X aa σ Q) X.xe s
def ui(r:R2)(ta tb:TE):TE:=λσ H Q=>ta σ H λx H1=>tb σ H1 λy H2=>r x y H2 Q
def IJ(r:V->Hp->VK->Prop)(ta:TE):TE:=λσ H Q=>ta σ H λx H1=>r x H1 Q
def rI(C:Int->Int->Prop)(g:Int->Int->V):R2:=λx y H Q=>∃i j,x=.int i/\y=.int j/\C i j/\Q (g i j) H
def sx(g:Int->Int->V):R2:=λx y H Q=>∃i j,x=.int i/\y=.int j/\Q (g i j) H
def rU(g:Int->V):V->Hp->VK->Prop:=λx H Q=>∃i,x=.int i/\Q (g i) H
variable{b:Expr}{ta tb tc:TE}{f:Value->Value->Sem Value}{r:R2}{g:Int->Int->Int}{us:Δ}{dx x C:Addr}{mA:Str->Ψ}{v:Value}{prog:Program}{name:Str}{pl:Sem Bool}
def xE(ha:PE X a ta)(hb:PE X b tb){R:V->V->Hp->Prop}(I:Inv X aa σ H s)
 (h:ta σ H λx H1=>tb σ H1 λy H2=>R x y H2){Q:Ξ}
 (hf:∀v u s2 x y H2,Inv X aa σ H2 s2->z4 x v->z4 y u->R x y H2->wpAny (model X.prog X.w) X.A (f v u) Q X.xe s2) :
  wpAny (model X.prog X.w) X.A (eval a X.env) (λv s₁=>wpAny (model X.prog X.w) X.A (eval b X.env) (λu s₂=>wpAny (model X.prog X.w) X.A (f v u) Q X.xe s₂) X.xe s₁) X.xe s:=by
 refine e_ (ha aa s σ H _ I h) λv s1 hP=>?_;obtain⟨x,H1,I1,r1,q1⟩:=hP;refine e_ (hb aa s1 σ H1 _ I1 q1) λu s2 hP=>?_;obtain⟨y,H2,I2,r2,q2⟩:=hP;exact hf v u s2 x y H2 I2 r1 r2 q2
def OZ{op:Operator}(ho:OpR X (binaryOp op) r)(ha:PE X a ta)(hb:PE X b tb):PE X (.BinOp a op b pos) (ui r ta tb):=by
 intro aa s σ H Q I h;exact wpAny_BinOp (xE ha hb I h λv u s2 x y H2 I2 rx ry q=>ho aa s2 σ H2 x y v u Q I2 rx ry q)
def Pd{op:UnaryOp}{r:V->Hp->VK->Prop}(ho:yy X (unaryOp op) r)(ha:PE X a ta):PE X (.UnaryOp op a pos) (IJ r ta):=by
 intro aa s σ H Q I h;exact UnaryOp_ (e_ (ha aa s σ H _ I h) λv s1 hP=>by obtain⟨x,H1,I1,r1,q1⟩:=hP;exact ho aa s1 σ H1 x v Q I1 r1 q1)
def uS{C:Int->Int->Prop}
 (rule:∀(i j:Int)(t u:Tok)(s:Shared)(Q:Ξ)(E:Ξ),C i j->Q (.int (g i j) s.toks) { s with toks:=s.toks+1 }->wpAny (model X.prog X.w) X.A (f (.int i t) (.int j u)) Q E s) :
  OpR X f (rI C λi j=>.int (g i j)):=by
 intro aa s σ H x y v u Q I rx ry h;obtain⟨i,j,rfl,rfl,hc,q⟩:=h;obtain⟨t,rfl⟩:=rx;obtain⟨t',rfl⟩:=ry;exact rule i j t t' s _ _ hc ⟨.int (g i j),H,I.tok _,⟨_,rfl⟩,q⟩
def Cs
 (rule:∀(i j:Int)(t u:Tok)(s:Shared)(Q:Ξ)(E:Ξ),Q (.int (g i j) s.toks) { s with toks:=s.toks+1 }->wpAny (model X.prog X.w) X.A (f (.int i t) (.int j u)) Q E s) :
  OpR X f (sx λi j=>.int (g i j)):=by
 intro aa s σ H x y v u Q I rx ry h;obtain⟨i,j,rfl,rfl,q⟩:=h;obtain⟨t,rfl⟩:=rx;obtain⟨t',rfl⟩:=ry;exact rule i j t t' s _ _ ⟨.int (g i j),H,I.tok _,⟨_,rfl⟩,q⟩
def vS{g:Int->Int->Bool}
 (rule:∀(i j:Int)(t u:Tok)(s:Shared)(Q:Ξ)(E:Ξ),Q (.bool (g i j)) s->wpAny (model X.prog X.w) X.A (f (.int i t) (.int j u)) Q E s) :
  OpR X f (sx λi j=>.bl (g i j)):=by
 intro aa s σ H x y v u Q I rx ry h;obtain⟨i,j,rfl,rfl,q⟩:=h;obtain⟨t,rfl⟩:=rx;obtain⟨t',rfl⟩:=ry;exact rule i j t t' s _ _ ⟨.bl (g i j),H,I,rfl,q⟩
def F1(i j:Int):Prop:=0<=j/\j<=1000000/\i.natAbs<2^64
def Zi(i j:Int):Prop:=(-(2^64)<i/\i<2^64)\/(-(2^64)<j/\j<2^64)
def Zi.ok{i j:Int}(h:Zi i j):IntMulOk i j:=by
 rcases h with⟨h1,h2⟩|⟨h1,h2⟩
 .exact .of_left (intBits_le_64 h1 h2)
 .exact .of_right (intBits_le_64 h1 h2)
def RU:OpR X (binaryOp .Add) (sx λi j=>.int (i+j)):=Cs λ_ _ _ _ _ _ _ q=>add_int q
def Uf:OpR X (binaryOp .Sub) (sx λi j=>.int (i-j)):=Cs λ_ _ _ _ _ _ _ q=>sub_int q
def Y':OpR X (binaryOp .Mult) (rI Zi λi j=>.int (i*j)):=uS λ_ _ _ _ _ _ _ hc q=>mul_int q hc.ok
def R':OpR X (binaryOp .Mod) (rI (λ_ j=>0<j) λi j=>.int (i%j)):=uS λi j _ _ _ _ _ hc q=>by
 have h1:(0:Int)<j:=hc;exact mod_int' (WP hc) (by rwa[Int.fmod_eq_emod_of_nonneg i (XY hc)])
def Sz:OpR X (binaryOp .Pow) (rI F1 λi j=>.int (i^j.toNat)):=uS λ_ _ _ _ _ _ _ hc q=>pow_int_small hc.1 hc.2.1 hc.2.2 q
def IG{f:Value->Sem Value}{g:Int->Int}
 (rule:∀(i:Int)(t:Tok)(s:Shared)(Q:Ξ)(E:Ξ),Q (.int (g i) s.toks) { s with toks:=s.toks+1 }->wpAny (model X.prog X.w) X.A (f (.int i t)) Q E s) :
  yy X f (rU λi=>.int (g i)):=by
 intro aa s σ H x v Q I rx h;obtain⟨i,rfl,q⟩:=h;obtain⟨t,rfl⟩:=rx;exact rule i t s _ _ ⟨.int (g i),H,I.tok _,⟨_,rfl⟩,q⟩
def SC:yy X (unaryOp .USub) (rU λi=>.int (-i)):=IG λ_ _ _ _ _ q=>neg_int q
def Wy:V->V->Bool
 |.non,.non=>true|.non,.int _=>true|.int _,.non=>true|.non,.bl _=>true|.bl _,.non=>true|.non,.str _=>true|.str _,.non=>true
 |.int _,.int _=>true|.bl _,.bl _=>true|.str _,.str _=>true|.byt _,.byt _=>true
 |.int _,.str _=>true|.str _,.int _=>true|.bl _,.str _=>true|.str _,.bl _=>true
 |_,_=>false
def Kj:R2:=λx y H Q=>Wy x y=true/\Q (.bl (decide (x=y))) H
def J':R2:=λx y H Q=>Wy x y=true/\Q (.bl (!decide (x=y))) H
def Rk{i j:Int} : decide (V.int i=V.int j)=(i==j):=by
 rw[Bool.eq_iff_iff];simp
def U_{i j:Bool} : decide (V.bl i=V.bl j)=(i==j):=by
 rw[Bool.eq_iff_iff];simp
def Q7{i j:Str} : decide (V.str i=V.str j)=(i==j):=by
 rw[Bool.eq_iff_iff];simp
def Ri{i j:Array UInt8} : decide (V.byt i=V.byt j)=(i.toList==j.toList):=by
 rw[Bool.eq_iff_iff];cases i;cases j;simp
def cY{Q:VK}{k k':Bool}(I:Inv X aa σ H s)(q:Q (.bl k) H)(e:k=k'):EP X aa σ Q (.bool k') s:=by
 subst e;exact⟨.bl k,H,I,rfl,q⟩
def Os:OpR X (compareOp .Eq) Kj:=by
 intro aa s σ H x y v u Q I rx ry h;obtain⟨hs,q⟩:=h;cases x with
 |non =>
  cases rx;cases y with
  |non=>cases ry;exact PySem.EqNone.eq_none_none (cY I q xF)
  |bl j=>cases ry;exact PySem.EqNone.eq_none_bool (cY I q xF)
  |int j=>obtain⟨t',rfl⟩:=ry;exact PySem.EqNone.eq_none_int (cY I q xF)
  |str j=>obtain⟨t',rfl⟩:=ry;exact PySem.EqNone.eq_none_str (cY I q xF)
  |_=>exact absurd (show false=true from hs) bf
 |bl i =>
  cases rx;cases y with
  |non=>cases ry;exact PySem.EqNone.eq_bool_none (cY I q xF)
  |bl j=>cases ry;exact eq_bool (cY I q U_)
  |str j=>obtain⟨t',rfl⟩:=ry;exact PySem.EqMixed.eq_bool_str (cY I q xF)
  |_=>exact absurd (show false=true from hs) bf
 |int i =>
  obtain⟨t,rfl⟩:=rx;cases y with
  |non=>cases ry;exact PySem.EqNone.eq_int_none (cY I q xF)
  |int j=>obtain⟨t',rfl⟩:=ry;exact eq_int (cY I q Rk)
  |str j=>obtain⟨t',rfl⟩:=ry;exact PySem.EqMixed.eq_int_str (cY I q xF)
  |_=>exact absurd (show false=true from hs) bf
 |str i =>
  obtain⟨t,rfl⟩:=rx;cases y with
  |non=>cases ry;exact PySem.EqNone.eq_str_none (cY I q xF)
  |bl j=>cases ry;exact PySem.EqMixed.eq_str_bool (cY I q xF)
  |int j=>obtain⟨t',rfl⟩:=ry;exact PySem.EqMixed.eq_str_int (cY I q xF)
  |str j=>obtain⟨t',rfl⟩:=ry;exact eq_str (cY I q Q7)
  |_=>exact absurd (show false=true from hs) bf
 |byt i =>
  obtain⟨t,rfl⟩:=rx;cases y with
  |byt j=>obtain⟨t',rfl⟩:=ry;exact PySem.W.eq_bytes (cY I q Ri)
  |_=>exact absurd (show false=true from hs) bf
 |_=>cases y<;>exact absurd (show false=true from hs) bf
def N0:OpR X (compareOp .NotEq) J':=by
 intro aa s σ H x y v u Q I rx ry h;obtain⟨hs,q⟩:=h;cases x with
 |non =>
  cases rx;cases y with
  |non=>cases ry;exact PySem.EqNone.ne_none_none (cY I q xF)
  |bl j=>cases ry;exact PySem.EqNone.ne_none_bool (cY I q xF)
  |int j=>obtain⟨t',rfl⟩:=ry;exact PySem.EqNone.ne_none_int (cY I q xF)
  |str j=>obtain⟨t',rfl⟩:=ry;exact PySem.EqNone.ne_none_str (cY I q xF)
  |_=>exact absurd (show false=true from hs) bf
 |bl i =>
  cases rx;cases y with
  |non=>cases ry;exact PySem.EqNone.ne_bool_none (cY I q xF)
  |bl j=>cases ry;exact ne_bool (cY I q (ZH not U_))
  |str j=>obtain⟨t',rfl⟩:=ry;exact PySem.EqMixed.ne_bool_str (cY I q xF)
  |_=>exact absurd (show false=true from hs) bf
 |int i =>
  obtain⟨t,rfl⟩:=rx;cases y with
  |non=>cases ry;exact PySem.EqNone.ne_int_none (cY I q xF)
  |int j=>obtain⟨t',rfl⟩:=ry;exact ne_int (cY I q (ZH not Rk))
  |str j=>obtain⟨t',rfl⟩:=ry;exact PySem.EqMixed.ne_int_str (cY I q xF)
  |_=>exact absurd (show false=true from hs) bf
 |str i =>
  obtain⟨t,rfl⟩:=rx;cases y with
  |non=>cases ry;exact PySem.EqNone.ne_str_none (cY I q xF)
  |bl j=>cases ry;exact PySem.EqMixed.ne_str_bool (cY I q xF)
  |int j=>obtain⟨t',rfl⟩:=ry;exact PySem.EqMixed.ne_str_int (cY I q xF)
  |str j=>obtain⟨t',rfl⟩:=ry;exact ne_str (cY I q (ZH not Q7))
  |_=>exact absurd (show false=true from hs) bf
 |byt i =>
  obtain⟨t,rfl⟩:=rx;cases y with
  |byt j=>obtain⟨t',rfl⟩:=ry;exact PySem.W.ne_bytes (cY I q (ZH not Ri))
  |_=>exact absurd (show false=true from hs) bf
 |_=>cases y<;>exact absurd (show false=true from hs) bf
def Pe:OpR X (compareOp .Lt) (sx λi j=>.bl (decide (i<j))):=vS λ_ _ _ _ _ _ _ q=>lt_int q
def OL:OpR X (compareOp .LtE) (sx λi j=>.bl (decide (i<=j))):=vS λ_ _ _ _ _ _ _ q=>le_int q
def OH:OpR X (compareOp .Gt) (sx λi j=>.bl (decide (j<i))):=vS λ_ _ _ _ _ _ _ q=>gt_int q
def NU:OpR X (compareOp .GtE) (sx λi j=>.bl (decide (j<=i))):=vS λ_ _ _ _ _ _ _ q=>ge_int q
def Ta:OpR X (compareOp .Is) (λx y H Q=>y=.non/\Q (.bl (decide (x=.non))) H):=by
 intro aa s σ H x y v u Q I rx ry h;obtain⟨rfl,q⟩:=h;cases ry;refine is_none_gen (cY I q ?_);cases x<;>first
  |(cases rx;rfl)
  |(obtain⟨t,rfl⟩:=rx;rfl)
def Yt:OpR X (compareOp .IsNot) (λx y H Q=>y=.non/\Q (.bl (!decide (x=.non))) H):=by
 intro aa s σ H x y v u Q I rx ry h;obtain⟨rfl,q⟩:=h;cases ry;refine isnot_none_gen (cY I q ?_);cases x<;>first
  |(cases rx;rfl)
  |(obtain⟨t,rfl⟩:=rx;rfl)
def Vi(b:Expr)(h:op≠.In:=by decide)(h2:op≠.NotIn:=by decide):behindInMarks op b=false:=by
 have e1:(op==CmpOp.In)=false:=by cases op<;>first|rfl|exact absurd rfl h
 have e2:(op==CmpOp.NotIn)=false:=by cases op<;>first|rfl|exact absurd rfl h2
 cases b<;>simp[behindInMarks,e1,e2]
def XE(ho:OpR X (compareOp op) r)(ha:PE X a ta)(hb:PE X b tb)(hm:behindInMarks op b=false):PE X (.Compare a [op] [b] pos) (ui r ta tb):=by
 intro aa s σ H Q I h;exact wpAny_Compare1 (xE ha hb I h λv u s2 x y H2 I2 rx ry q=>ho aa s2 σ H2 x y v u Q I2 rx ry q) hm
def G'(t:TE):TT:=λσ H Q=>t σ H λx H'=>∃k,x=.bl k/\Q k H'
def Zt(ho:OpR X (compareOp op) r)(ha:PE X a ta)(hb:PE X b tb)(hm:behindInMarks op b=false):PT X (.Compare a [op] [b] pos) (G' (ui r ta tb)):=by
 intro aa s σ H Q I h;refine wpAny_isTrue_Compare1 (e_ (ha aa s σ H _ I h) λv s1 ⟨x,H1,I1,r1,q1⟩=>e_ (hb aa s1 σ H1 _ I1 q1) λu s2 ⟨y,H2,I2,r2,q2⟩ =>
  e_ (ho aa s2 σ H2 x y v u _ I2 r1 r2 q2) λc s3 ⟨z,H3,I3,r3,k,e,q3⟩=>?_) hm
 subst e;cases r3;exact wpAny_truthy_bool ⟨H3,I3,q3⟩
def O2(r r':R2)(ta tb tc:TE):TE:=λσ H Q=>ta σ H λx H1=>tb σ H1 λy H2=>r x y H2 λz H3=>∃k,z=.bl k /\
 (if k=true then tc σ H3 λw' H4=>r' y w' H4 Q else Q (.bl false) H3)
def Vu{df:CmpOp}{r':R2}(ho:OpR X (compareOp op) r)(cw:OpR X (compareOp df) r')(ha:PE X a ta)(hb:PE X b tb)(hc:PE X c tc)
 (hm:lastMarks [op,df] [b,c]=false:=by with_unfolding_all rfl):PE X (.Compare a [op,df] [b,c] pos) (O2 r r' ta tb tc):=by
 intro aa s σ H Q I h;refine Compare_chain (e_ (ha aa s σ H _ I h) λv s1 ⟨x,H1,I1,r1,q1⟩=>chain_link (e_ (hb aa s1 σ H1 _ I1 q1) λu s2 ⟨y,H2,I2,r2,q2⟩ =>
  e_ (ho aa s2 σ H2 x y v u _ I2 r1 r2 q2) λd s3 ⟨z,H3,I3,r3,k,e,q3⟩=>?_)) hm
 subst e;cases r3;refine wpAny_truthy_bool ?_;cases k with
 |false=>exact ite_ff ⟨.bl false,H3,I3,rfl,q3⟩
 |true=>exact ite_tt (chain_last (e_ (hc aa s3 σ H3 _ I3 q3) λw' s4 hP=>by obtain⟨z',H4,I4,r4,q4⟩:=hP;exact cw aa s4 σ H4 y z' u w' Q I4 r2 r4 q4))
def Ww{df:CmpOp}{r':R2}(ho:OpR X (compareOp op) r)(cw:OpR X (compareOp df) r')(ha:PE X a ta)(hb:PE X b tb)(hc:PE X c tc)
 (hm:lastMarks [op,df] [b,c]=false:=by with_unfolding_all rfl):PT X (.Compare a [op,df] [b,c] pos) (G' (O2 r r' ta tb tc)):=by
 intro aa s σ H Q I h;refine isTrue_chain (e_ (ha aa s σ H _ I h) λv s1 ⟨x,H1,I1,r1,q1⟩=>test_link (e_ (hb aa s1 σ H1 _ I1 q1) λu s2 ⟨y,H2,I2,r2,q2⟩ =>
  e_ (ho aa s2 σ H2 x y v u _ I2 r1 r2 q2) λd s3 ⟨z,H3,I3,r3,k,e,q3⟩=>?_)) hm
 subst e;cases r3;refine wpAny_truthy_bool ?_;cases k with
 |false =>
  obtain⟨k',e',q'⟩:=q3;cases e';exact ite_ff ⟨H3,I3,q'⟩
 |true =>
  refine ite_tt (test_last (e_ (hc aa s3 σ H3 _ I3 q3) λw' s4 ⟨z',H4,I4,r4,q4⟩=>e_ (cw aa s4 σ H4 y z' u w' _ I4 r2 r4 q4) λd' s5 hP=>?_));obtain⟨z2,H5,I5,r5,k2,e2,q5⟩:=hP;subst e2;cases r5;exact wpAny_truthy_bool ⟨H5,I5,q5⟩
def FH(K:Frag)(x:V)(H:Hp)(k:Bool):Prop :=
 match x with
 |.non=>k=false
 |.bl b=>k=b
 |.int i=>k=(i != 0)
 |.str y=>y.length<=sizeLine/\k=((y.length:Int) != 0)
 |.byt y=>y.size<=sizeLine/\k=((y.size:Int) != 0)
 |.ref p=>(∃xs,SqL K H p xs/\k = !xs.isEmpty)\/(∃xs,SqT K H p xs/\k = !xs.isEmpty)\/∃kvs,H p=some (.dK kvs)/\k = !kvs.isEmpty
 |_=>False
def Ol{κ:Type}{kvs:List (κ×V)}{vs:List (κ×Value)}(r:KV kvs vs):(!vs.isEmpty) = !kvs.isEmpty:=by
 cases r<;>rfl
def Dt{its:Δ}(r:z5 xs its):(!its.toArray.isEmpty) = !xs.isEmpty:=by
 cases r<;>simp
def uo:(sizeLine:Nat)<2^63:=by rw[sizeLine_eq];decide
def P7:Nc X (λx H Q=>∃k,FH X.K x H k/\Q k H):=by
 intro aa s σ H x v Q I rx h;obtain⟨k,e,q⟩:=h;have hl:=uo;have hs:sizeLine=16777216:=sizeLine_eq;cases x with
 |non =>
  cases rx;have e':k=false:=e;subst e';exact truthy_none ⟨H,I,q⟩
 |bl b =>
  cases rx;have e':k=b:=e;subst e';exact wpAny_truthy_bool ⟨H,I,q⟩
 |int i =>
  obtain⟨t,rfl⟩:=rx;have e':k=(i != 0):=e;subst e';exact PySem.P.truthy_int ⟨H,I,q⟩
 |str y =>
  obtain⟨t,rfl⟩:=rx;obtain⟨hy,e'⟩ : y.length<=sizeLine/\k=((y.length:Int) != 0):=e;subst e';exact PySem.P.truthy_str xB ⟨H,I.tok _,q⟩
 |byt y =>
  obtain⟨t,rfl⟩:=rx;obtain⟨hy,e'⟩ : y.size<=sizeLine/\k=((y.size:Int) != 0):=e;subst e';exact PySem.W.truthy_bytes (aK hy xa) ⟨H,I.tok _,q⟩
 |ref p =>
  cases rx;have e':(∃xs,SqL X.K H p xs/\k = !xs.isEmpty)\/(∃xs,SqT X.K H p xs/\k = !xs.isEmpty)\/∃kvs,H p=some (.dK kvs)/\k = !kvs.isEmpty:=e;rcases e' with⟨xs,hx,e'⟩|⟨xs,hx,e'⟩|⟨kvs,hx,e'⟩
  .subst e';obtain⟨its,r,pl,hz⟩:=I.list hx;have aI:=r.length;exact wpAny_truthy_list pl.isList (by simp only[aW];lia) ⟨H,I.tok _,by rwa[Dt r]⟩
  .subst e';obtain⟨its,r,pl,hz⟩:=I.tuple hx;have aI:=r.length;exact truthy_tuple pl (by simp only[aW];lia) ⟨H,I.tok _,by rwa[Dt r]⟩
  .subst e';obtain⟨hz,hS,vs,r,m⟩ : kvs.length<=sizeLine/\(p==sysModules)=false/\∃vs,KV kvs vs/\s.heap.DictOf (jz X.prog X.w) p vs:=I.hok p _ hx;have aI:kvs.length=vs.length:=Paired.length r;exact wpAny_truthy_dict hS m xB ⟨H,I.tok _,by rwa[Ol r]⟩
 |_=>exact(show False from e).elim
def V3(ha:PE X a ta)(he:∀cK,isTrue a X.env cK=(do let v <- cK;standAt a.pos;holding [v] (truthy v))) :
  PT X a (λσ H Q=>ta σ H λx H'=>∃k,FH X.K x H' k/\Q k H'):=by
 intro aa s σ H Q I h;exact isTrue_plain (e_ (ha aa s σ H _ I h) λv s1 hP=>by obtain⟨x,H1,I1,r1,q1⟩:=hP;exact P7 aa s1 σ H1 x v Q I1 r1 q1) (he _)
def Pq:OpR X (binaryOp .Add) (λx y H Q=>∃i j,x=.str i/\y=.str j/\i.length+j.length<=sizeLine/\Q (.str (i++j)) H):=by
 intro aa s σ H x y v u Q I rx ry h;obtain⟨i,j,rfl,rfl,hz,q⟩:=h;obtain⟨t,rfl⟩:=rx;obtain⟨t',rfl⟩:=ry;exact add_str (λt' tk=>⟨.str (i++j),H,I.tok _,⟨_,rfl⟩,q⟩) hz
def vals1{x:V}(r:z5 [x] us):∃u,us=[u]/\z4 x u:=by
 cases r with
 |cons r1 r2=>cases r2;exact⟨_,rfl,r1⟩
def Wi:jf X (.builtin "abs") (λxs H Q=>∃i,xs=[.int i]/\Q (.int (if i<0 then -i else i)) H):=by
 intro aa s σ H xs us Q I r h;obtain⟨i,rfl,q⟩:=h;obtain⟨u,rfl,t,rfl⟩:=vals1 r;exact call_abs_int λu tk=>⟨.int (if i<0 then -i else i),H,I.tok _,⟨_,rfl⟩,q⟩
def Td:jf X (.type "int") (λxs H Q=>(∃i,xs=[.int i]/\Q (.int i) H)\/∃k,xs=[.bl k]/\Q (.int (if k then 1 else 0)) H):=by
 intro aa s σ H xs us Q I r h;rcases h with⟨i,rfl,q⟩|⟨k,rfl,q⟩
 .obtain⟨u,rfl,t,rfl⟩:=vals1 r;exact call_int_int ⟨.int i,H,I,⟨_,rfl⟩,q⟩
 .obtain⟨u,rfl,r1⟩:=vals1 r;cases r1;exact call_int_bool ⟨.int (if k then 1 else 0),H,I.tok _,⟨_,rfl⟩,q⟩
structure Pk(h:Heap)(x dx C:Addr)(mA:Str->Ψ):Prop where
 obj:h.get? x=some (instObj C dx)
 ns:h.Ns1 dx mA
 ne:dx≠x
def Ue(n:h.Ns1 dx mA):∃od,h.get? dx=some od/\∀name,lookIn name od=some (mA name):=by
 obtain⟨o,es,ep,ho,hd,hk,_,hm⟩:=n;refine⟨o,ho,λname=>?_⟩;have e:=hm name;unfold nsFind findBy at e;rw[<- Array.find?_toList]at e;unfold lookIn;rw[hd];dsimp only;split
 .rename_i y q
  rw[q]at e;exact ZH some e
 .rename_i q
  rw[q]at e;have a:es.toList.any (·.refKey)=false:=by
   rw[List.any_eq_false];intro y hy;obtain⟨z,t,g6⟩:=hk y (Array.mem_toList_iff.mp hy);simp[DictEntry.refKey,g6]
  have a':¬es.toList.any (·.refKey)=true:=by rw[a];exact bf
  rw[ZZ a'];exact ZH some e
def Pk.look(I:Pk h x dx C mA):∃od,PySem.W.InstAt h x (instObj C dx) C (some od)/\∀name,lookIn name od=some (mA name) :=
 let⟨od,ho,hl⟩:=Ue I.ns
 ⟨od,⟨I.obj,rfl,rfl,ho⟩,hl⟩
def get_map{my:Bool}{Q:Ξ}(X:K.In s.heap)(I:Pk s.heap x dx C mA)(hg:plainGet K C name)(hh:hasDictIn K C)
 (ha:findIn K (.ref C) name=some none)(hv:mA name=some v)(hv':handedIn v)(h:Q v { s with toks:=s.toks+1 }) :
  wpAny (model prog w) A (getAttr (.ref x) name my) Q E s:=by
 obtain⟨od,J,hl⟩:=I.look;exact PySem.W.get_value X J (plainGet_of hg).1 (PySem.W.findObj_own hh ha rfl (by rw[hl,hv])) hv' h
variable{f:Addr}{kw:xx}
def Xn{Q:Value×Δ->Shared->Prop}(X:K.In s.heap)(I:Pk s.heap x dx C mA)(hg:plainGet K C name)
 (hf:findIn K (.ref C) name=some (some (.ref f)))(ht:isFn K (.ref f))(hv:mA name=none)(h:Q (.ref f,[.ref x]) s) :
  wpAny (model prog w) A (getMethod (.ref x) name pl) Q E s:=by
 obtain⟨od,J,hl⟩:=I.look;exact PySem.W.method_fn X J (plainGet_of hg).1 (plainGet_of hg).2 hf (beq_iff_eq.mp ht) (by show(lookIn name od).map (·.isSome)=some false;rw[hl,hv];rfl) h
def ZS{ns:Θ}(X:K.In s.heap)(I:Pk s.heap x dx C mA)
 (hs:findIn K (.ref C) "__setattr__"=some (some (.builtin "object.__setattr__")))(hp:plainOver K C)(ht:takerIn K C name=some none)(hh:hasDictIn K C)
 (hw:PySem.Within mA ns)(hsz:ns.length<=sizeLine)
 (h:∀h',Pk h' x dx C (λy=>if y=name then some v else mA y)->Heap.SameBut dx s.heap h'->Q () { s with heap:=h',toks:=s.toks+2 }) :
  wpAny (model prog w) A (setAttr (.ref x) name v) Q E s:=by
 obtain⟨od,J,hl⟩:=I.look;refine PySem.W.set_plain X J hs (PySem.W.osa_open (s:={ s with toks:=s.toks+1 }) (r:=none) X J hp ht λb=>?_);obtain⟨cd,hc,cr⟩:=PySem.W.any_some hh;have hx:s.heap.get? x=some ⟨.ref C,some dx,.plain,#[]⟩:=I.obj;refine ZU (ZT (ZU (ZU (wpAny_loadPart hx (ZU (PySem.W.Looks.here (s:={ s with toks:=s.toks+1 }) (PySem.W.looks_clsIn X hc) ?_))))));rw[cr];refine ZT (a:=some dx) (ZU (ZT (ZU ?_)));refine wpAny_nsSet1 (s:={ s with toks:=s.toks+1 }) I.ns λh' hZ gT=>?_;obtain⟨oD,esD,epD,hoD,hdD,hcD⟩:=hZ.count (PySem.Within.cons name v hw);refine ZU (wpAny_lookBehind hoD (by rw[hdD];exact pastItsLine_dict (aK hcD (by rw[length_cons];exact succ_le_succ hsz))) ?_);exact ZT (h _ ⟨(gT.2 _ (Ne.symm I.ne)).trans I.obj,hZ,I.ne⟩ gT)
def Wr{R:Result->Shared->Prop}{vs:Δ}(X:K.In s.heap)(hm:makesIn K C)
 (hi:findIn K (.ref C) "__init__"=some (some (.ref f)))(hf:PySem.W.typeIn K (.ref f)=some (.type "function"))
 (h:codeAny (model prog w) (A.under (.builtin "type.__call__" ⟨.ref C::vs,kw⟩)) (.call (.ref f) ⟨.ref (s.zs+1)::vs,kw⟩) (PySem.W.InitBack (s.zs+1) R)
   { s with heap:=(s.heap.push emptyDict).push (instObj C s.zs) }) :
  codeAny (model prog w) A (.call (.ref C) ⟨vs,kw⟩) R s:=by
 obtain⟨hh,g,d,t,os⟩:=s;exact PySem.W.make_core (PySem.W.makes_of X hm) (PySem.W.looks_findIn X hi) (λself=>PySem.W.bind_fn X self hf) (.inl rfl) h
def sZ(f:Str)(v:V):xz->xz
 |[]=>[(f,v)]
 |(g,x)::r=>if g=f then(g,v)::r else(g,x)::sZ f v r
theorem Az(f g:Str)(v:V):∀fs:xz,(sZ f v fs).lookup g=if g=f then some v else fs.lookup g
 |[]=>by
  show List.lookup g [(f,v)]=_;by_cases h:g=f
  .have hb:(g==f):=beq_iff_eq.mpr h;simp only[List.lookup,hb,ZY h]
  .have hb:(g==f)=false:=beq_eq_false_iff_ne.mpr h;simp only[List.lookup,hb,ZZ h]
 |(k,x)::r=>by
  have ih:=Az f g v r;rw[show sZ f v ((k,x)::r)=(if k=f then(k,v)::r else(k,x)::sZ f v r)from rfl];by_cases hk:k=f
  .rw[ZY hk];by_cases h:g=k
   .have hb:(g==k):=beq_iff_eq.mpr h;simp only[List.lookup,hb,ZY (h.trans hk)]
   .have hb:(g==k)=false:=beq_eq_false_iff_ne.mpr h;simp only[List.lookup,hb,ZZ (λe:g=f=>h (e.trans hk.symm))]
  .rw[ZZ hk];by_cases h:g=k
   .have hb:(g==k):=beq_iff_eq.mpr h;simp only[List.lookup,hb,ZZ (λe:g=f=>hk (h.symm.trans e))]
   .have hb:(g==k)=false:=beq_eq_false_iff_ne.mpr h;simp only[List.lookup,hb];exact ih
theorem Ai(f:Str)(v:V):∀fs:xz,f∈(sZ f v fs).map (·.1)/\∀g,g∈fs.map (·.1)->g∈(sZ f v fs).map (·.1)
 |[]=>⟨by simp[sZ],λg h=>by simp at h⟩
 |(k,x)::r=>by
  obtain⟨i1,i2⟩:=Ai f v r;rw[show sZ f v ((k,x)::r)=(if k=f then(k,v)::r else(k,x)::sZ f v r)from rfl];by_cases hk:k=f
  .rw[ZY hk];subst hk;exact⟨by simp,λg h=>by simpa using h⟩
  .rw[ZZ hk];refine⟨?_,λg h=>?_⟩
   .rw[map_cons];exact aH _ i1
   .rw[map_cons]at h ⊢;rcases YU.mp h with e|e
    .exact YU.mpr (.inl e)
    .exact aH _ (i2 g e)
theorem Bl(f:Str)(v:V):∀fs:xz,(sZ f v fs).length<=fs.length+1
 |[]=>by simp[sZ]
 |(k,x)::r=>by
  have ih:=Bl f v r;rw[show sZ f v ((k,x)::r)=(if k=f then(k,v)::r else(k,x)::sZ f v r)from rfl];by_cases hk:k=f
  .rw[ZY hk,length_cons,length_cons];exact Xs _
  .rw[ZZ hk,length_cons,length_cons];exact succ_le_succ ih
variable{v:V}{a:Addr}{fs:xz}{f m:Str}{b:Bool}
def vN.some_of{o:Ψ}(r:vN (some v) o):∃u,o=some u/\z4 v u:=by
 cases o with
 |none=>exact(show False from r).elim
 |some u=>exact⟨u,rfl,r⟩
def vN.none_of{o:Ψ}(r:vN none o):o=none:=by
 cases o with
 |none=>rfl
 |some u=>exact(show False from r).elim
def Uj(r:z4 v u):handedIn u:=by
 cases v with
 |non=>cases(show u=Value.none from r);rfl
 |bl b=>cases(show u=Value.bool b from r);rfl
 |int i=>obtain⟨t,e⟩:=(show ∃t,u=Value.int i t from r);cases e;rfl
 |str x=>obtain⟨t,e⟩:=(show ∃t,u=Value.str x t from r);cases e;rfl
 |byt b=>obtain⟨t,e⟩:=(show ∃t,u=Value.bytes b t from r);cases e;rfl
 |flt b=>obtain⟨t,e⟩:=(show ∃t,u=Value.float b t from r);cases e;rfl
 |ref a=>cases(show u=Value.ref a from r);rfl
 |ty n=>cases(show u=Value.type n from r);rfl
def Ck(hok:HOk P w H h)(e:H a=some (.ins C dx fs)):∃mA,Pk h a dx C mA/\(∀f,vN (fs.lookup f) (mA f))/\PySem.Within mA (fs.map (·.1))/\fs.length<=1000/\H dx=some (.own a):=by
 obtain⟨d,z,ne,ob,mA,n,r,q⟩:=(show fX P w H h a (.ins C dx fs)from hok a _ e);exact⟨mA,⟨ob,n,ne⟩,r,q,z,d⟩
structure Cls(K:Frag)(C:Addr):Prop where
 pg:plainGet K C Str.empty
 hd:hasDictIn K C
 po:plainOver K C
 sa:findIn K (.ref C) "__setattr__"=some (some (.builtin "object.__setattr__"))
def Cls.get{K:Frag}{C:Addr}(c:Cls K C)(f:Str):plainGet K C f:=c.pg
def b_(K:Frag)(C:Addr)(f:Str):Prop:=findIn K (.ref C) f=some none
def b_.taker(n:b_ K C f):takerIn K C f=some none:=by
 unfold takerIn;rw[show findIn K (.ref C) f=some none from n]
 rfl
structure Meth(K:Frag)(C:Addr)(m:Str)(f:Addr):Prop where
 at_:findIn K (.ref C) m=some (some (.ref f))
 fn:isFn K (.ref f)
 kp:keepIn K (.ref f)
def Pn{Q:Ξ}(I:Inv X aa σ H s)(e:H a=some (.ins C dx fs))(c:Cls X.K C)(n:b_ X.K C f)(l:fs.lookup f=some v)
 (h:∀u s',Inv X aa σ H s'->z4 v u->Q u s'):wpAny (model X.prog X.w) A (getAttr (.ref a) f b) Q E s:=by
 obtain⟨mA,O,r,_,_,_⟩:=Ck I.hok e;obtain⟨u,hu,ru⟩:=vN.some_of (v:=v) (o:=mA f) (by rw[<- l];exact r f);exact get_map I.kIn O (c.get f) c.hd n hu (Uj ru) (h u _ (I.tok _) ru)
def Fo{g:Addr}{Q:Value×Δ->Shared->Prop}(I:Inv X aa σ H s)(e:H a=some (.ins C dx fs))(c:Cls X.K C)(k:Meth X.K C m g)(l:fs.lookup m=none)
 (h:Q (.ref g,[.ref a]) s):wpAny (model X.prog X.w) A (getMethod (.ref a) m pl) Q E s:=by
 obtain⟨mA,O,r,_,_,_⟩:=Ck I.hok e;have hn:mA m=none:=vN.none_of (by rw[<- l];exact r m);exact Xn I.kIn O (c.get m) k.at_ k.fn hn h
def O7{y:V}(I:Inv X aa σ H s)(e:H a=some (.ins C dx fs))(c:Cls X.K C)(n:b_ X.K C f)(hl:fs.length<1000)(ry:z4 y u)
 (h:∀s',Inv X aa σ (upd H a (.ins C dx (sZ f y fs))) s'->Q () s'):wpAny (model X.prog X.w) A (setAttr (.ref a) f u) Q E s:=by
 obtain⟨mA,O,r,wi,_,ho⟩:=Ck I.hok e;have hz:(fs.map (·.1)).length<=sizeLine:=by rw[ak,sizeLine_eq];exact aK (Y2 hl) xa
 refine ZS I.kIn O c.sa c.po n.taker c.hd wi hz λh' O' sb=>h _ ?_;have hd:∃o,h'.get? dx=some o:=by obtain⟨o,_,_,e',_⟩:=O'.ns;exact⟨o,e'⟩
 refine I.write (x:=a) (e:=dx) (by rw[e];exact True.intro) (.inr ho) (λb q hb z=>(sb.2 b hb).trans z) hd ?_;refine⟨by rw[bZ O.ne];exact ho,?_,O.ne,O'.obj,_,O'.ns,λg=>?_,λg hg=>?_⟩
 .have:=Bl f y fs;lia
 .show vN ((sZ f y fs).lookup g) (if g=f then some u else mA g);rw[Az];by_cases q:g=f
  .rw[ZY q,ZY q];exact ry
  .rw[ZZ q,ZZ q];exact r g
 .by_cases q:g=f
  .rw[q];exact(Ai f y fs).1
  .refine(Ai f y fs).2 g (wi g λz=>hg ?_);show(if g=f then some u else mA g)=none;rw[ZZ q];exact z
def Inv.made(I:Inv X aa σ H s):Inv X aa σ (upd (upd H s.zs (.own (s.zs+1))) (s.zs+1) (.ins C s.zs []))
  { s with heap:=(s.heap.push emptyDict).push (instObj C s.zs) }:=by
 have e1:(s.heap.push emptyDict).get? s.zs=some emptyDict:=aV s.heap rfl;have e2:((s.heap.push emptyDict).push (instObj C s.zs)).get? (s.zs+1)=some (instObj C s.zs):=by
  have:=aV (s.heap.push emptyDict) (o:=instObj C s.zs) rfl;rwa[Heap.size_push]at this
 have e3:(s.heap.push emptyDict).Ns s.zs (λ_=>none):=⟨emptyDict,#[],_,e1,rfl,(λe he=>absurd he xF),λ_=>rfl⟩;have I1:=I.laid (a:=s.zs) (o:=.own (s.zs+1)) (h':=s.heap.push emptyDict) (t':=s.toks) (λb u q=>aG _ q) (aF _) ⟨_,e1⟩;refine I1.laid (a:=s.zs+1) (o:=.ins C s.zs []) (t':=s.toks) (λb u q=>aG _ q) (WS (Heap.size_push _ _)) ?_;have ne:s.zs≠s.zs+1:=aP (X1 _);refine⟨by rw[bZ ne,cj],aY _,ne,e2,λ_=>none,(Heap.Ns1.of_empty e3).at λo q=>aG _ q,λ_=>True.intro,λy hy=>absurd rfl hy⟩
variable{Q:Ξ}{o aE:Expr}{tv:TE}{c:Value}{t:TA}
def Zv{env:Env}(hb:attributeBase e f env (eval e env)=eval e env)
 (h:wpAny (model prog w) A (eval e env) (λo s₁=>wpAny (model prog w) A (getAttr o f true) Q E s₁) E s):wpAny (model prog w) A (eval (.Attribute e f pos) env) Q E s :=
 Attribute_any_ h (by rw[arm_eval_Attribute,hb])
def NE(K:Frag)(ta:TE)(f:Str):TE:=λσ H Q=>ta σ H λx H1=>∃a C dx fs v,x=.ref a/\H1 a=some (.ins C dx fs)/\Cls K C/\b_ K C f/\fs.lookup f=some v/\Q v H1
def ME(K:Frag)(ta tv:TE)(f:Str):TS:=λD σ H=>tv σ H λy H1=>ta σ H1 λx H2=>∃a C dx fs,x=.ref a/\H2 a=some (.ins C dx fs)/\Cls K C/\b_ K C f/\fs.length<1000 /\
 D.nx σ (upd H2 a (.ins C dx (sZ f y fs)))
abbrev qB(X:Cx)(a:Expr)(b:Str):Prop:=attributeBase a b X.env (eval a X.env)=eval a X.env
def Wg(he:PE X e ta)(hb:qB X e f):PE X (.Attribute e f pos) (NE X.K ta f):=by
 intro aa s σ H Q I h;refine Zv hb (e_ (he aa s σ H _ I h) λu s1 h=>?_);obtain⟨x,H1,I1,rx,a,C,dx,fs,v,rfl,ea,c,n,l,q⟩:=h;obtain rfl:u=Value.ref a:=rx;exact Pn I1 ea c n l λu' s2 I2 ru=>⟨v,H1,I2,ru,q⟩
def SA(ha:PE X o ta)(hv:PE X aE tv)(hs:swapsWith aE (some (.Attribute o f bu)) pos.line X.env=pure false):PS X (.Assign [.Attribute o f bu] aE pos) (ME X.K ta tv f):=by
 intro aa s σ H D I h;refine plainObj_wpAny_Assign_Attribute (e_ (hv aa s σ H _ I h) λu s1 ⟨y,H1,I1,ry,q⟩=>e_ (ha aa s1 σ H1 _ I1 q) λov s2 h=>?_) hs;obtain⟨x,H2,I2,rx,a,C,dx,fs,rfl,ea,c,n,l,q2⟩:=h;obtain rfl:ov=Value.ref a:=rx;exact O7 I2 ea c n l ry λs3 I3=>⟨σ,_,I3,q2⟩
inductive z9(K:Frag)(H:Hp):V->Value->Prop where
 |non:z9 K H .non (.type "NoneType")
 |bl (x:Bool):z9 K H (.bl x) (.type "bool")
 |int (i:Int):z9 K H (.int i) (.type "int")
 |str (x:Str):z9 K H (.str x) (.type "str")
 |flt (x:UInt64):z9 K H (.flt x) (.type "float")
 |lst {a:Addr}{xs:Β} (e:H a=some (.lst xs)):z9 K H (.ref a) (.type "list")
 |frz {a:Addr}{o:Obj}{xs:Β} (e:H a=some (.frz o (.lst xs))):z9 K H (.ref a) (.type "list")
 |tup {a:Addr}{xs:Β} (e:H a=some (.tup xs)):z9 K H (.ref a) (.type "tuple")
 |dK {a:Addr}{kvs:xy} (e:H a=some (.dK kvs)):z9 K H (.ref a) (.type "dict")
 |ins {a C dx:Addr}{fs:xz} (e:H a=some (.ins C dx fs)) (cl:Cls K C) (ha:findIn K (.ref C) "__class__"=some (some (.builtin "object.__class__")))
   (hn:specialIn K (.builtin "object.__class__") "__get__"=some (some (.builtin "getset_descriptor.__get__"))) (htk:PySem.W.takesIn K (.builtin "object.__class__")=some true)
   (hm:mroIn K C (.type "object")=some true):z9 K H (.ref a) (.ref C)
def Tz{x:V}{t:Value}(I:Inv X aa σ H s)(rx:z4 x u)(ty:z9 X.K H x t)(e:kitOne X.K t c=some b)(h:∀tk,Q (.bool b) { s with toks:=tk }) :
  wpAny (model X.prog X.w) A (call (.builtin "isinstance") [u,c]) Q E s:=by
 cases ty with
 |non=>cases(show u=Value.none from rx);exact kia_one PySem.W.kitx_none I.kIn True.intro e (λz=>nomatch z) h
 |bl y=>cases(show u=Value.bool y from rx);exact kia_one PySem.W.kitx_bool I.kIn True.intro e (λz=>nomatch z) h
 |int i=>obtain⟨t,q⟩:=(show ∃t,u=Value.int i t from rx);cases q;exact kia_one PySem.W.kitx_int I.kIn True.intro e (λz=>nomatch z) h
 |str y=>obtain⟨t,q⟩:=(show ∃t,u=Value.str y t from rx);cases q;exact kia_one PySem.W.kitx_str I.kIn True.intro e (λz=>nomatch z) h
 |flt y=>obtain⟨t,q⟩:=(show ∃t,u=Value.float y t from rx);cases q;exact kia_one PySem.W.kitx_float I.kIn True.intro e (λz=>nomatch z) h
 |@lst a xs ea =>
  cases(show u=Value.ref a from rx);obtain⟨_,_,n,_,h1⟩:=(show fX X.prog X.w H s.heap a (.lst xs)from I.hok a _ ea);exact kia_one kitx_list I.kIn ⟨_,h1,rfl⟩ e (λz=>nomatch z) h
 |@frz a ob xs ea =>
  cases(show u=Value.ref a from rx);obtain⟨_,_,_,n,_,h1⟩:=(show fX X.prog X.w H s.heap a (.frz ob (.lst xs))from I.hok a _ ea);exact kia_one kitx_list I.kIn ⟨_,h1,rfl⟩ e (λz=>nomatch z) h
 |@tup a xs ea =>
  cases(show u=Value.ref a from rx);obtain⟨_,_,_,p⟩:=(show fX X.prog X.w H s.heap a (.tup xs)from I.hok a _ ea);obtain⟨o,h1,h2,_⟩:=p;exact kia_one kitx_tuple I.kIn ⟨o,h1,h2⟩ e (λz=>nomatch z) h
 |@dK a kvs ea =>
  cases(show u=Value.ref a from rx);obtain⟨_,_,vs,_,p⟩:=(show fX X.prog X.w H s.heap a (.dK kvs)from I.hok a _ ea);obtain⟨o,es,ep,h1,h2,_⟩:=p;exact kia_one PySem.W.kitx_dict I.kIn ⟨o,h1,h2.1⟩ e (λz=>nomatch z) h
 |@ins a C dx fs ea cl ha hn htk hm =>
  cases(show u=Value.ref a from rx);obtain⟨mA,O,_⟩:=Ck I.hok ea;obtain⟨od,J,_⟩:=O.look;exact kia_one (PySem.W.kitx_own (cl.get _) cl.hd ha hn htk hm) I.kIn J e (λz=>nomatch z) h
structure dU(k:Nat)(A:Around):Prop where
 hd:A.handled=none
 dp:A.depth+3*k+5<recursionLimit
 un:A.units+16*k+200<cLine
def dU.mono{j:Nat}(r:dU k A)(h:j<=k):dU j A:=⟨r.hd,by have:=r.dp;lia,by have:=r.un;lia⟩
def dU.md{n:Nat}(h:dU n A)(e:k<=n:=by decide):dU k A:=h.mono e
def dU.deeper{k:Nat}{A:Around}(r:dU (k+1) A)(env:Env):dU k (A.deeper env) :=
 ⟨r.hd,by have:=r.dp;show A.depth+1+3*k+5<_;lia,by have:=r.un;show A.units+3+16*k+200<_;lia⟩
def Qq : (A.under (.builtin "type.__call__" ⟨.ref C::us,kw⟩)).depth=A.depth+1:=by
 first|rfl|simp[Around.under,Code.weight,Code.isCreation,Code.isGuard,Code.isCaller,Code.frames,Code.isFrame,guardIds]
def Pr : (A.under (.builtin "type.__call__" ⟨.ref C::us,kw⟩)).units=A.units+1:=by
 first|rfl|simp[Around.under,Code.cUnits,Code.frames,Code.isFrame]
def dU.make(r:dU (k+1) A)(C:Addr)(us:Δ)(kw:xx):dU k (A.under (.builtin "type.__call__" ⟨.ref C::us,kw⟩)) :=
 ⟨r.hd,by have:=r.dp;rw[Qq];lia,by have:=r.un;rw[Pr];lia⟩
def dU.depth{k:Nat}{A:Around}(r:dU k A):A.depth<recursionLimit:=by have:=r.dp;lia
def dU.units{k:Nat}{A:Around}(r:dU k A):A.units+64<cLine:=by have:=r.un;lia
def xI:TA:=λ_ H Q=>Q [] H
def OQ(ta:TE)(tr:TA):TA:=λσ H Q=>ta σ H λx H1=>tr σ H1 λxs H2=>Q (x::xs) H2
def pQ:PA X [] xI:=λ_ _ _ _ H Q I h=>Calls.spliced_nil ⟨[],H,I,.nil,h⟩
abbrev qo(X:Cx)(a:Expr)(b:zh):Prop:=starEach (a::b) X.env=(false,eval a X.env)::starEach b X.env
def eX(ha:PE X e te)(hr:PA X es t)(hs:qo X e es:=by rfl):PA X (e::es) (OQ te t):=by
 intro pos aa s σ H Q I h;rw[hs];show wpAny _ _ (spliced ((false,eval e X.env)::backTo pos (starEach es X.env))) _ _ s;refine Calls.spliced_cons (e_ (ha aa s σ H _ I h) λu s1 hP=>?_);obtain⟨x,H1,I1,r1,q1⟩:=hP;exact e_ (hr pos aa s1 σ H1 _ I1 q1) λus s2 hP=>by obtain⟨xs,H2,I2,r2,q2⟩:=hP;exact⟨x::xs,H2,I2,.cons r1 r2,q2⟩
def Mc(t:TA):TE:=λσ H Q=>t σ H λxs H1=>xs.length<=sizeLine/\∀p,H1 p=none->Q (.ref p) (upd H1 p (.tup xs))
def NB(t:TA):TE:=λσ H Q=>t σ H λxs H1=>xs.length<=sizeLine/\∀p,H1 p=none->Q (.ref p) (upd H1 p (.lst xs))
def SE{x1}(h:PA X es t):PE X (.Tuple es x1 pos) (Mc t):=by
 intro aa s σ H Q I hq;refine wpAny_Tuple_spliced (e_ (h pos aa s σ H _ I hq) λus s1 ⟨xs,H1,I1,r,z,q⟩=>⟨by rw[<- r.length];exact z,?_⟩);have hf:H1 s1.zs=none:=I1.hok.fresh (aF _);refine⟨.ref s1.zs,upd H1 s1.zs (.tup xs),I1.laid (t':=s1.toks) (λb u e=>aG _ e) (aF _) ?_,rfl,q _ hf⟩;exact⟨z,us,r,⟨_,aV _ rfl,rfl,_,rfl⟩⟩
def UD(h:PA X es t):PE X (.List es pos) (NB t):=by
 intro aa s σ H Q I hq;refine wpAny_List_spliced (e_ (h pos aa s σ H _ I hq) λus s1 ⟨xs,H1,I1,r,z,q⟩=>⟨by rw[<- r.length];exact z,?_⟩);have hf:H1 s1.zs=none:=I1.hok.fresh (aF _);refine⟨.ref s1.zs,upd H1 s1.zs (.lst xs),I1.laid (t':=s1.toks) (λb u e=>aG _ e) (aF _) ?_,rfl,q _ hf⟩;exact⟨z,us,0,r,aV _ rfl⟩
abbrev Sp:=Β->Hp->VK->XK->Prop
abbrev p_:=zI->Hp->Shared->XK->Value->Shared->Prop
structure DR(P:Program)(w:World)(K:Frag)(mg:Str->Ψ)(base:Heap)(A:Around)(outer:zI)(s:Shared)(H:Hp):Prop where
 frames:A.frames=some outer
 mod:Mod K mg base
 bs:∀b o,base.get? b=some o->s.heap.get? b=some o/\H b=none
 bsz:base.objs.size<=s.zs
 funs:s.heap.FunFrames base outer
 frf:∀b∈og outer,H b=none
 hok:HOk P w H s.heap
 bare:AllBare s.gens
def CE(outer:zI)(P:Program)(w:World)(H:Hp)(s:Shared)(Q:VK)(u:Value)(s':Shared):Prop :=
 ∃v H',s'.os=s.os/\AllBare s'.gens/\Un (og outer) [] H H' s.heap s'.heap/\HOk P w H' s'.heap/\z4 v u/\Q v H'
def CR(CX:p_)(outer:zI)(P:Program)(w:World)(H:Hp)(s:Shared)(Q:VK)(E:XK)(r:Result)(s':Shared):Prop :=
 match r with
 |.ok (.ret u)=>CE outer P w H s Q u s'
 |.ok _=>False
 |.error e=>CX outer H s E e s'
structure bV(P:Program)(w:World)(K:Frag)(mg:Str->Ψ)(base:Heap)(CX:p_)(k:Nat)(f:Addr)(fd:FuncData)(ps:Θ)(sp:Sp):Prop where
 len:∀vs H Q E,sp vs H Q E->vs.length=ps.length
 run:∀(A:Around)(outer:zI)(s:Shared)(H:Hp)(args:Args)(us:Δ)(vs:Β)(Q:VK)(E:XK),dU k A->DR P w K mg base A outer s H->BindsTo s fd args (ps.zip us)->z5 vs us->sp vs H Q E ->
  codeAny (model P w) A (.call (.ref f) args) (CR CX outer P w H s Q E) s
variable{f:Addr}{mg:Str->Ψ}{base:Heap}{CX:p_}{fd:FuncData}{ps:Θ}{sp:Sp}{Q:VK}{E:XK}{vs c8:Β}{ds:Δ}{x:Str}{ai:Pos}{scope:Scope}
def bV.imp{sp':Sp}(F:bV P w K mg base CX k f fd ps sp)
 (h:∀vs H Q E,sp' vs H Q E->sp vs H Q E):bV P w K mg base CX k f fd ps sp' :=
 ⟨λvs H Q E q=>F.len vs H Q E (h _ _ _ _ q),λA outer s H args us vs Q E hr he hb hv hs=>F.run A outer s H args us vs Q E hr he hb hv (h _ _ _ _ hs)⟩
def DR.make{outer:zI}(e:DR P w K mg base A outer s H)(C:Addr)(us:Δ)(kw:xx) :
  DR P w K mg base (A.under (.builtin "type.__call__" ⟨.ref C::us,kw⟩)) outer s H:=⟨by first|exact e.frames|(simpa[Around.under,Code.envs,Code.isFrame,pushEnvs]using e.frames),e.mod,e.bs,e.bsz,e.funs,e.frf,e.hok,e.bare⟩
def Inv.env0(I:Inv X aa σ H s):DR X.prog X.w X.K X.mg X.base X.A X.stack s H :=
 ⟨I.ok.frames,I.ok.mod,I.bs,aK I.ok.bsz I.sz,I.stack,I.stkFree,I.hok,I.bare⟩
def Inv.after(I:Inv X aa σ H s)(h:CE X.stack X.prog X.w H s Q u s'):EP X aa σ Q u s':=by
 obtain⟨v,H',os,bare,un,hok,r,q⟩:=h;obtain⟨hh,g,d,t,os'⟩:=s';obtain rfl:os'=s.os:=os;exact⟨v,H',I.call (h':=hh) (g':=g) (d':=d) (t':=t) (ch:=[]) un hok bare (λb z=>absurd z xF),r,q⟩
def N4(sp:Sp)(c8:Β)(E:XK)(t:TA):TE:=λσ H Q=>t σ H λvs H1=>sp (vs++c8) H1 Q E
def Hb(C:Addr)(m:Str)(sp:Sp)(c8:Β)(E:XK)(ta:TE)(t:TA):TE:=λσ H Q=>ta σ H λx H1=>∃a dx fs,x=.ref a/\H1 a=some (.ins C dx fs)/\fs.lookup m=none /\
 t σ H1 λvs H2=>sp (x::(vs++c8)) H2 Q E
def NW(C:Addr)(sp:Sp)(c8:Β)(E:XK)(t:TA):TE:=λσ H Q=>t σ H λvs H1=>∀x dx,H1 x=none->H1 dx=none->dx≠x ->
 sp (.ref x::(vs++c8)) (upd (upd H1 dx (.own x)) x (.ins C dx [])) (λv H2=>v=.non/\Q (.ref x) H2) E
def Binds(K:Frag)(fd:FuncData)(ps:Θ)(ds:Δ):Prop :=
 ∀(s:Shared)(us:Δ),K.In s.heap->(us++ds).length=ps.length->BindsTo s fd ⟨us,[]⟩ (ps.zip (us++ds))
def Binds.all(h:∀us:Δ,us.length=ps.length->bindArgs fd ⟨us,[]⟩=pure (ps.zip us)):Binds K fd ps []:=λs us _ hl=>by
 rw[append_nil]at hl ⊢;exact .of_eq (h us hl)
def Passes(CX:p_)(X:Cx)(E:XK):Prop:=∀(aa:Γ)(σ:St)(H:Hp)(s:Shared)(e:Value)(s':Shared),Inv X aa σ H s->CX X.stack H s E e s'->X.xe e s'
def Fp(F:bV X.prog X.w X.K X.mg X.base CX k f fd ps sp)(hr:dU k X.A)(hb:Binds X.K fd ps ds)(hd:z5 c8 ds)(hx:Passes CX X E)
 (I:Inv X aa σ H s)(r:z5 vs us)(h:sp (vs++c8) H Q E):wpAny (model X.prog X.w) X.A (call (.ref f) us) (EP X aa σ Q) X.xe s:=by
 have r2:z5 (vs++c8) (us++ds):=r.append hd;have hl:(us++ds).length=ps.length:=by rw[<- r2.length];exact F.len _ _ _ _ h
 refine wpAny_call (codeAny_mono (F.run X.A X.stack s H ⟨us,[]⟩ (us++ds) (vs++c8) Q E hr I.env0 (hb s us I.kIn hl) r2 h) λr s' hq=>?_);cases r with
 |error e=>exact hx aa σ H s e s' I hq
 |ok fl =>
  cases fl with
  |ret u=>exact I.after hq
  |next=>exact False.elim hq
  |brk=>exact False.elim hq
  |cont=>exact False.elim hq
abbrev qh(X:Cx)(a:Pos)(b:zh):Prop:=(backTo a (starEach b X.env)).any (·.1)=false
def ZG(F:bV X.prog X.w X.K X.mg X.base CX k f fd ps sp)(hr:dU k X.A)(hg:Gl X x)(hm:X.mg x=some (.ref f))(hk:keepIn X.K (.ref f))(hb:Binds X.K fd ps ds)(hd:z5 c8 ds)(hx:Passes CX X E)
 (ha:PA X (e::es) t)(ci:qk x:=by decide)(he:qo X e es:=by rfl)(be:qh X pos es:=by rfl) :
  PE X (.Call (.Name x p) (e::es) [] pos) (N4 sp c8 E t):=by
 intro aa s σ H Q I h;refine wpAny_Call_Name_kw (yg I hg hm ?_ ci);refine callWith_K (h₀:=X.base) I.ok.mod.kin hk (e_ (ha pos aa s σ H _ I h) λus s1 ⟨vs,H1,I1,r,q⟩=>⟨I1.kIn,?_⟩) he be;exact Fp F hr hb hd hx I1 r q
def Y9(he:PE X o ta)(c:Cls X.K C)(hm:Meth X.K C m f)(F:bV X.prog X.w X.K X.mg X.base CX k f fd ps sp)(hr:dU k X.A)(hb:Binds X.K fd ps ds)(hd:z5 c8 ds)(hx:Passes CX X E)(ha:PA X (e::es) t)
 (ce:qo X e es:=by rfl)(be:qh X pos es:=by rfl)
 (ht:eval (.Call (.Attribute o m ai) (e::es) [] pos) X.env=(do
   let ov <- eval o X.env
   standAt ai.atName
   let(f,first) <- holding [ov] (getMethod ov m pl)
   callWith pos f first (backTo pos (starEach (e::es) X.env)) (backToKw pos (keywordEach [] X.env))):=by rfl) :
  PE X (.Call (.Attribute o m ai) (e::es) [] pos) (Hb C m sp c8 E ta t):=by
 intro aa s σ H Q I h;refine methodCall_KW (pl:=pl) (e_ (he aa s σ H _ I h) λu s1 hP=>?_) ht;obtain⟨x,H1,I1,rx,a,dx,fs,ex,ea,l,q⟩:=hP;subst ex;obtain rfl:u=Value.ref a:=rx;refine Fo I1 ea c hm l ?_;refine callWith_K (first:=[.ref a]) (h₀:=X.base) I.ok.mod.kin hm.kp (e_ (ha pos aa s1 σ H1 _ I1 q) λus s2 ⟨vs,H2,I2,r,q2⟩=>⟨I2.kIn,?_⟩) ce be;exact Fp (us:=.ref a::us) (vs:=.ref a::vs) F hr hb hd hx I2 (.cons rfl r) q2
def XC(he:PE X o ta)(c:Cls X.K C)(hm:Meth X.K C m f)(F:bV X.prog X.w X.K X.mg X.base CX k f fd ps sp)(hr:dU k X.A)(hb:Binds X.K fd ps ds)(hd:z5 c8 ds)(hx:Passes CX X E)
 (ht:eval (.Call (.Attribute o m ai) [] [] pos) X.env=(do
   let ov <- eval o X.env
   standAt ai.atName
   let(f,first) <- holding [ov] (getMethod ov m pl)
   callWith pos f first (backTo pos (starEach [] X.env)) (backToKw pos (keywordEach [] X.env))):=by rfl) :
  PE X (.Call (.Attribute o m ai) [] [] pos) (Hb C m sp c8 E ta xI):=by
 intro aa s σ H Q I h;refine methodCall_KW (pl:=pl) (e_ (he aa s σ H _ I h) λu s1 hP=>?_) ht;obtain⟨x,H1,I1,rx,a,dx,fs,ex,ea,l,q⟩:=hP;subst ex;obtain rfl:u=Value.ref a:=rx;refine Fo I1 ea c hm l ?_;exact PySem.W.callWith_K0 (first:=[.ref a]) I1.kIn hm.kp (Fp (us:=[.ref a]) (vs:=[.ref a]) F hr hb hd hx I1 (.cons rfl .nil) q)
structure Mk(K:Frag)(C f:Addr):Prop where
 makes:makesIn K C
 init:findIn K (.ref C) "__init__"=some (some (.ref f))
 fn:isFn K (.ref f)
 kp:keepIn K (.ref C)
def Vb(M:Mk X.K C f)(F:bV X.prog X.w X.K X.mg X.base CX k f fd ps sp)(hr:dU (k+1) X.A)(hb:Binds X.K fd ps ds)(hd:z5 c8 ds)
 (hx:Passes CX X E)(I:Inv X aa σ H s)(r:z5 vs us)
 (h:∀x dx,H x=none->H dx=none->dx≠x->sp (.ref x::(vs++c8)) (upd (upd H dx (.own x)) x (.ins C dx [])) (λv H2=>v=.non/\Q (.ref x) H2) E) :
  wpAny (model X.prog X.w) X.A (call (.ref C) us) (EP X aa σ Q) X.xe s:=by
 have hq:=h (s.zs+1) s.zs (I.hok.fresh (Xs _)) (I.hok.fresh (aF _)) (aP (X1 _));have I2:=Inv.made (C:=C) I;have r2:z5 (V.ref (s.zs+1)::(vs++c8)) (Value.ref (s.zs+1)::(us++ds)):=.cons rfl (r.append hd);have hl:(Value.ref (s.zs+1)::us++ds).length=ps.length:=by
  have e:=r2.length;rw[F.len _ _ _ _ hq]at e;exact e.symm
 refine wpAny_call (Wr (f:=f) I.kIn M.makes M.init (beq_iff_eq.mp M.fn) (codeAny_mono (F.run _ X.stack _ _ ⟨Value.ref (s.zs+1)::us,[]⟩ (Value.ref (s.zs+1)::(us++ds)) _ _ E (hr.make C us [])
  (I2.env0.make C us []) (hb _ (Value.ref (s.zs+1)::us) I2.kIn hl) r2 hq) λr s' iF=>?_))
 cases r with
 |error e=>exact hx aa σ _ _ e s' I2 iF
 |ok fl =>
  cases fl with
  |ret u =>
   obtain⟨v,H',I3,rv,ev,q3⟩:=I2.after iF;subst ev;exact⟨rv,⟨V.ref (s.zs+1),H',I3,rfl,q3⟩⟩
  |next=>exact False.elim iF
  |brk=>exact False.elim iF
  |cont=>exact False.elim iF
def Za(M:Mk X.K C f)(F:bV X.prog X.w X.K X.mg X.base CX k f fd ps sp)(hr:dU (k+1) X.A)(hg:Gl X x)(hm:X.mg x=some (.ref C))(hb:Binds X.K fd ps ds)(hd:z5 c8 ds)(hx:Passes CX X E)
 (ha:PA X (e::es) t)(ci:qk x:=by decide)(he:qo X e es:=by rfl)(be:qh X pos es:=by rfl) :
  PE X (.Call (.Name x p) (e::es) [] pos) (NW C sp c8 E t):=by
 intro aa s σ H Q I h;refine wpAny_Call_Name_kw (yg I hg hm ?_ ci);refine callWith_K (h₀:=X.base) I.ok.mod.kin M.kp (e_ (ha pos aa s σ H _ I h) λus s1 ⟨vs,H1,I1,r,q⟩=>⟨I1.kIn,?_⟩) he be;exact Vb M F hr hb hd hx I1 r q
structure bK(N P:Θ)(sc:Scope):Prop where
 kind:sc.kind=.function
 co:sc.isCoroutine=false
 gen:sc.isGenerator=false
 nd:N.Nodup
 pre:N.take P.length=P
 par:∀x∈P,sc.names.lookup x=some .local\/sc.names.lookup x=some .cell
 nofree:∀y∈sc.names,y.2≠.free
theorem HN{kindOf:Str->Option NameKind}{x:Str} : ∀{binds:xx}{m:Str->Ψ},(∀v,(x,v)∉binds)->bindL kindOf binds m x=m x
 |[],_,_=>rfl
 |(n,v)::r,m,h=>by
  unfold bindL;rw[HN λw hw=>h w (aH _ hw)];split
  .have:x≠n:=by rintro rfl;exact h v aN
   simp[this]
  .rfl
theorem HB{kindOf:Str->Option NameKind}{x:Str} : ∀{binds:xx}{m:Str->Ψ},(∀v,(x,v)∉binds)->bindC kindOf binds m x=m x
 |[],_,_=>rfl
 |(n,v)::r,m,h=>by
  unfold bindC;rw[HB λw hw=>h w (aH _ hw)];split
  .rfl
  .have:x≠n:=by rintro rfl;exact h v aN
   simp[this]
theorem Im{kindOf:Str->Option NameKind}{x:Str}{v:Value} : ∀{P:Θ}{vs:Δ}{i:Nat}{m:Str->Ψ},P.Nodup->P[i]?=some x->vs[i]?=some v->kindOf x=some .local ->
  bindL kindOf (P.zip vs) m x=some v
 |[],_,_,_,_,h,_,_=>by simp at h
 |_::_,[],_,_,_,_,h,_=>by simp at h
 |p::P,w::vs,0,m,nd,h1,h2,hk=>by
  simp at h1 h2;subst h1;subst h2;show bindL kindOf ((p,w)::P.zip vs) m p=_;unfold bindL;rw[HN λv hv=>(List.nodup_cons.mp nd).1 (UX hv).1,ZY hk];simp
 |p::P,w::vs,i+1,m,nd,h1,h2,hk=>by
  show bindL kindOf ((p,w)::P.zip vs) m x=_;unfold bindL;exact Im (i:=i) (List.nodup_cons.mp nd).2 (by simpa using h1) (by simpa using h2) hk
theorem Hs{kindOf:Str->Option NameKind}{x:Str}{v:Value} : ∀{P:Θ}{vs:Δ}{i:Nat}{m:Str->Ψ},P.Nodup->P[i]?=some x->vs[i]?=some v->kindOf x≠some .local ->
  bindC kindOf (P.zip vs) m x=some v
 |[],_,_,_,_,h,_,_=>by simp at h
 |_::_,[],_,_,_,_,h,_=>by simp at h
 |p::P,w::vs,0,m,nd,h1,h2,hk=>by
  simp at h1 h2;subst h1;subst h2;show bindC kindOf ((p,w)::P.zip vs) m p=_;unfold bindC;rw[HB λv hv=>(List.nodup_cons.mp nd).1 (UX hv).1,ZZ hk];simp
 |p::P,w::vs,i+1,m,nd,h1,h2,hk=>by
  show bindC kindOf ((p,w)::P.zip vs) m x=_;unfold bindC;exact Hs (i:=i) (List.nodup_cons.mp nd).2 (by simpa using h1) (by simpa using h2) hk
def start(N:Θ)(vs:Β):St:=vs.map some++replicate (N.length-vs.length) none
def G7(CX:p_)(P:Program)(w:World)(K:Frag)(mg:Str->Ψ)(base:Heap)(N:Θ)(qual:Str)(scope:Scope)(f:Addr)(cd:Value)(A:Around)(outer:zI)(s:Shared)(H:Hp)(E:XK):Cx where
 prog:=P
 w:=w
 K:=K
 mg:=mg
 base:=base
 A:=A.deeper (envOfC qual scope s.zs f cd)
 N:=N
 s₀:=s
 H₀:=H
 env:=envOfC qual scope s.zs f cd
 outer:=outer
 stack:=envOfC qual scope s.zs f cd::outer
 ex:=[]
 calm:=true
 fn:=λ_=>true
 pn:=[]
 xe:=λe s'=>wpAny (model P w) (A.deeper (envOfC qual scope s.zs f cd)) (leaving (envOfC qual scope s.zs f cd) e) (λ_ gz=>CX outer H s E e gz) (λe' gz=>CX outer H s E e' gz) s'
def Nf{sc:Scope}{n:Nat}(h:sc.names.lookup x=some .cell):∃c,(cellsFrom n sc.names []).lookup x=some c:=by
 have q:=PySem.W.cellsFrom_some sc.names n [] (.inl h);exact Option.isSome_iff_exists.mp q
def T_{N:Θ}{qual:Str}{cd:Value}{outer:zI}{s1:Shared}
 (S:bK N ps scope)(hd:A.handled=none)(e0:DR P w K mg base A outer s H)(hl:vs.length=ps.length)(r:z5 vs us)
 (x:InCallC s s.zs (bindL (envOfC qual scope s.zs f cd).kindOf (ps.zip us) λ_=>none) (cellsFrom (s.zs+1) scope.names []) (bindC (envOfC qual scope s.zs f cd).kindOf (ps.zip us) λ_=>none) s1) :
  Inv (G7 CX P w K mg base N qual scope f cd A outer s H E) [] (start N vs) H s1:=by
 have be:ps.length<=N.length:=by have:=ZH List.length S.pre;rw[aX]at this;lia
 obtain⟨h1,tk,rfl,hk⟩:=x.done;have eS:∀b:Addr,b∉(G7 CX P w K mg base N qual scope f cd A outer s H E).ex:=λb z=>absurd (show b∈([] : Φ)from z) xF;refine⟨⟨e0.mod,S.kind,rfl,rfl,aF _,λy z c h1 h2=>?_,λy hy=>?_,λy c _ h=>?_,λ_=>hd,Around.frames_deeper e0.frames,.inr ⟨rfl,rfl⟩,λb z=>absurd z (eS b),e0.bs,e0.bsz,λb _ _=>eS b,λb z=>absurd z (eS b),e0.funs,e0.frf⟩,
  rfl,e0.bare,Un.kept hk,⟨_,x.toInCall.ns,λi y v h1 h2 h3=>?_⟩,λy c h=>⟨_,x.cell y c h⟩,e0.hok.fresh (aF _),λy c h=>?_,λp hp=>absurd (show p∈([] : Γ)from hp) xF,e0.hok.kept hk,?_⟩
 .exact name_of_addr x.apart (PySem.mem_of_lookup h1) (PySem.mem_of_lookup h2)
 .have hy:scope.names.lookup y=some .cell\/scope.names.lookup y=some .free:=hy;rcases hy with hy|hy
  .exact Nf hy
  .exact absurd rfl (S.nofree _ (PySem.mem_of_lookup hy))
 .exact Y2 (x.above y c (PySem.mem_of_lookup h))
 .have hi:i<vs.length:=by
   unfold start at h2;by_cases hi:i<vs.length
   .exact hi
   .rw[aC (by simpa using hi)]at h2;rw[X0]at h2;split at h2<;>cases h2
  have ha:vs[i]?=some v:=by
   unfold start at h2;rw[aD (by simpa using hi),aq]at h2;cases e:vs[i]? with
   |none=>rw[e]at h2;cases h2
   |some a=>rw[e]at h2;cases h2;rfl
  obtain⟨u,hu,rv⟩:=r.get ha;have hp:ps[i]?=some y:=by
   rwa[<- S.pre,List.getElem?_take_of_lt (aQ hi (WS hl))]
  have ndP:ps.Nodup:=by rw[<- S.pre];exact S.nd.sublist (List.take_sublist _ _)
  refine⟨u,rv,?_⟩;rcases S.par y (aB hp)with k|k
  .exact .inl ⟨k,Im ndP hp hu k⟩
  .obtain⟨c,e⟩:=Nf (n:=s.zs+1) k;refine .inr ⟨.inl k,c,e,?_⟩;have q:=x.cell y c e;rw[Hs ndP hp hu (by show scope.names.lookup y≠_;rw[k];decide)]at q;exact q
 .exact e0.hok.fresh (Y2 (x.above y c (PySem.mem_of_lookup h)))
 .unfold start;show _=N.length;rw[aA,ak,aM];lia
def HP{qual:Str}{params:Arguments}{dV kV bi pm af ct oc:Value}{an od:Ω}
 {de:Array (Ψ)}{N:Θ}(lk:K.lookup f=some ⟨oc,od,.func (PySem.W.fnOf name qual params body scope dV kV bi pm an af ct),de⟩)(bp:codeIn K af qual)(S:bK N ps scope)
 (len:∀vs H Q E,sp vs H Q E->vs.length=ps.length)
 (br:∀(A:Around)(outer:zI)(s:Shared)(H:Hp)(vs:Β)(Q:VK)(E:XK),dU k (A.deeper (envOfC qual scope s.zs f af))->sp vs H Q E ->
   ∃t,PSs (G7 CX P w K mg base N qual scope f af A outer s H E) body t/\t { nx:=λ_ H'=>Q .non H',rt:=Q } (start N vs) H) :
  bV P w K mg base CX (k+1) f (PySem.W.fnOf name qual params body scope dV kV bi pm an af ct) ps sp:=by
 refine⟨len,λA outer s H args us vs Q E hr e0 hb r du=>?_⟩;have hl:=len _ _ _ _ du;have KX:K.In s.heap:=e0.mod.kin.keeps λb o e=>(e0.bs b o e).1;have kM:s.heap.NoLimit:=e0.mod.nolimit.keeps λb o e=>(e0.bs b o e).1;have cx:∀y∈ps.zip us,scope.names.lookup y.1=some .local\/(scope.names.lookup y.1=some .cell/\((cellsFrom (s.zs+1) scope.names []).lookup y.1).isSome):=λ⟨n,v⟩ hy=>by
  rcases S.par n (UX hy).1 with q|q
  .exact .inl q
  .exact .inr ⟨q,PySem.W.cellsFrom_some _ _ _ (.inl q)⟩
 refine codeAny_call_function hr.depth (KX _ _ lk) rfl S.co S.gen rfl (PySem.W.codeRec_of KX bp) (hb _ _ _ _ ?_);refine wpAny_newFunctionEnv_cells S.kind cx λenv he s1 x=>?_;subst he;refine⟨kM.keeps x.toInCall.keep,codeAny_func ?_⟩;obtain⟨t,ht,hq⟩:=br A outer s H vs Q E (hr.deeper _) du;have I:Inv (G7 CX P w K mg base N qual scope f af A outer s H E) [] (start N vs) H s1:=T_ S hr.hd e0 hl r x;refine wpAny_mono (ht [] s1 (start N vs) H _ I hq) (λfl s' hs=>?_) λe s' hs=>hs;have bg:∀{σ':St}{H':Hp}{v:V}{u:Value},Inv (G7 CX P w K mg base N qual scope f af A outer s H E) [] σ' H' s'->z4 v u->Q v H'->CE outer P w H s Q u s' :=
  λ{σ' H' v u}J rv q=>⟨v,H',J.os,J.bare,J.base,J.hok,rv,q⟩
 cases fl with
 |ret u =>
  obtain⟨v,σ',H',J,rv,q⟩:=hs;exact bg J rv q
 |next =>
  obtain⟨σ',H',J,q⟩:=hs;exact bg (v:=V.non) (u:=Value.none) J rfl q
 |brk =>
  obtain⟨_,_,_,q⟩:=hs;exact False.elim q
 |cont =>
  obtain⟨_,_,_,q⟩:=hs;exact False.elim q
section
variable{X:Cx}{x:Str}{p pos:Pos}{e:Expr}{es:zh}{t:TA}{id T:String}{r:Β->Hp->VK->Prop}
def Au(r:Β->Hp->VK->Prop)(t:TA):TE:=λσ H Q=>t σ H λvs H1=>r vs H1 Q
def Eb(hc:jf X (.builtin id) r)(hg:Gl X x)(hm:X.mg x=none)(hv:bootBuiltins x=some (.builtin id))(ha:PA X (e::es) t)(hn:x≠"__name__":=by decide)(ci:qk x:=by decide)
 (he:qo X e es:=by rfl)(be:qh X pos es:=by rfl):PE X (.Call (.Name x p) (e::es) [] pos) (Au r t):=by
 intro aa s σ H Q I h;refine wpAny_Call_Name_kw (Ab I hg hm hv ?_ hn ci);exact PyProof.Rows.callWith_builtin1 (e_ (ha pos aa s σ H _ I h) λus s1 hP=>by obtain⟨vs,H1,I1,r1,q1⟩:=hP;exact hc aa s1 σ H1 vs us Q I1 r1 q1) he be
def S7(hc:jf X (.type T) r)(hg:Gl X x)(hm:X.mg x=none)(hv:bootBuiltins x=some (.type T))(ha:PA X (e::es) t)(hn:x≠"__name__":=by decide)(ci:qk x:=by decide)
 (he:qo X e es:=by rfl)(be:qh X pos es:=by rfl):PE X (.Call (.Name x p) (e::es) [] pos) (Au r t):=by
 intro aa s σ H Q I h;refine wpAny_Call_Name_kw (Ab I hg hm hv ?_ hn ci);exact PyProof.Rows.callWith_type1 (e_ (ha pos aa s σ H _ I h) λus s1 hP=>by obtain⟨vs,H1,I1,r1,q1⟩:=hP;exact hc aa s1 σ H1 vs us Q I1 r1 q1) he be
end
end L2
namespace HT
open PySem PyProof.Rows
def sIx(n d:Nat):zC->Nat
 |none=>d
 |some v=>if v<0 then(v+(n:Int)).toNat else min v.toNat n
def yq(n d k:Nat):sIx n d (some (k:Int))=min k n:=by
 show(if(k:Int)<0 then((k:Int)+(n:Int)).toNat else min (k:Int).toNat n)=min k n;rw[ZZ (Int.not_lt_of_ge (Wp _)),UT]
def ac2(n d:Nat)(hd:d<=n)(o:zC):sIx n d o<=n:=by
 cases o with
 |none=>exact hd
 |some v =>
  show(if v<0 then(v+(n:Int)).toNat else min v.toNat n)<=n;by_cases hv:v<0
  .rw[ZY hv];lia
  .rw[ZZ hv];exact Nat.min_le_right _ _
end HT
namespace L2
open PySem PySem.Spec PyProof.Rows
abbrev TO:=St->Hp->(zC->Hp->Prop)->Prop
def PO(X:Cx)(e:Option Expr)(t:TO):Prop :=
 ∀(aa:Γ)(s:Shared)(σ:St)(H:Hp)(Q:zC->Hp->Prop),Inv X aa σ H s->t σ H Q ->
  wpAny (model X.prog X.w) X.A (evalPart e X.env) (λu s'=>∃o H',Inv X aa σ H' s'/\IsPart u o/\Q o H') X.xe s
def XI:TO:=λ_ H Q=>Q none H
def OW(t:TE):TO:=λσ H Q=>t σ H λx H1=>∃i,x=.int i/\Q (some i) H1
def intsAre_of{ns:zS} : ∀{us:Δ},z5 (ns.map V.int) us->IntsAre us ns:=by
 induction ns with
 |nil=>intro us r;rw[map_nil]at r;cases r;exact .nil
 |cons n ns ih =>
  intro us r;rw[map_cons]at r;cases r with
  |cons r1 r2 =>
   obtain⟨t,e⟩:=r1;subst e;exact .cons n t (ih r2)
variable{X:Cx}{e:Expr}{te:TE}{lo hi:Option Expr}{tl th:TO}{pos p2:Pos}{α:Type}{n:Nat}{aa:Γ}{σ:St}{H:Hp}{s:Shared}{xs ys:Β}{l:Addr}
def Y7:PO X none XI:=by
 intro aa s σ H Q I h;rw[evalPart_none];exact ZT ⟨none,H,I,.none,h⟩
def Yz(h:PE X e te):PO X (some e) (OW te):=by
 intro aa s σ H Q I hw;rw[evalPart_some];refine e_ (h aa s σ H _ I hw) λu s1 hP=>?_;obtain⟨x,H1,I1,r1,q1⟩:=hP;obtain⟨i,rfl,q⟩:=q1;obtain⟨t,rfl⟩:=r1;exact⟨some i,H1,I1,.int i t,q⟩
def SlR(X:Cx)(r:V->zC->zC->Hp->VK->Prop):Prop :=
 ∀(aa:Γ)(s:Shared)(σ:St)(H:Hp)(x:V)(v vl vu:Value)(lo hi:zC)(sl:Addr)(Q:VK),Inv X aa σ H s->z4 x v->s.heap.IsSliceOf sl vl vu .none->IsPart vl lo->IsPart vu hi->r x lo hi H Q ->
  ∃T id,typeLookup (.type T) "__getitem__"=pure (some (.builtin id))/\s.TypeIs v T/\wpAny (model X.prog X.w) X.A (getItem v (.ref sl)) (EP X aa σ Q) X.xe s
def SlR.or{r r':V->zC->zC->Hp->VK->Prop}(h:SlR X r)(h':SlR X r'):SlR X (λx lo hi H Q=>r x lo hi H Q\/r' x lo hi H Q):=by
 intro aa s σ H x v vl vu lo hi sl Q I rx hs pl pu q;rcases q with q|q
 .exact h aa s σ H x v vl vu lo hi sl Q I rx hs pl pu q
 .exact h' aa s σ H x v vl vu lo hi sl Q I rx hs pl pu q
def IL(r:V->zC->zC->Hp->VK->Prop)(te:TE)(tl th:TO):TE:=λσ H Q=>te σ H λx H1=>tl σ H1 λl H2=>th σ H2 λu H3=>r x l u H3 Q
def Vl{r:V->zC->zC->Hp->VK->Prop}(hr:SlR X r)(he:PE X e te)(hl:PO X lo tl)(hu:PO X hi th):PE X (.Subscript e (.Slice lo hi none p2) pos) (IL r te tl th):=by
 intro aa s σ H Q I h;refine Subscript_ (e_ (he aa s σ H _ I h) λv s1 hP=>?_);obtain⟨x,H1,I1,r1,q1⟩:=hP;refine wpAny_Slice (e_ (hl aa s1 σ H1 _ I1 q1) λvl s2 ⟨l,H2,I2,pl,q2⟩=>e_ (hu aa s2 σ H2 _ I2 q2) λvu s3 hP=>?_);obtain⟨u,H3,I3,pu,q3⟩:=hP;rw[evalPart_none];refine ZT ?_;have I4:Inv X aa σ H3 { s3 with heap:=s3.heap.push { cls:=.type "slice",data:=.fields #[vl,vu,.none] } }:=I3.kept (t':=s3.toks) λb ob q=>aG _ q;obtain⟨T,id,hT,ht,hg⟩:=hr aa { s3 with heap:=s3.heap.push { cls:=.type "slice",data:=.fields #[vl,vu,.none] } } σ H3 x v vl vu l u s3.zs Q I4 r1 (Heap.IsSliceOf.new ..) pl pu q3;show wpAny (model X.prog X.w) X.A (subscriptTail e (.Slice lo hi none p2) v (.ref s3.zs)) (EP X aa σ Q) X.xe { s3 with heap:=s3.heap.push { cls:=.type "slice",data:=.fields #[vl,vu,.none] } };exact tail_any (ops:=[.ref s3.zs,v]) ht hT hg (by with_unfolding_all rfl)
def T4(xs:Β)(lo hi:zC):Β:=(xs.drop (HT.sIx xs.length 0 lo)).take (HT.sIx xs.length xs.length hi-HT.sIx xs.length 0 lo)
def Lq(xs:Β)(lo hi:zC):(T4 xs lo hi).length<=xs.length:=by
 unfold T4;rw[aX,US];lia
def pE(n:Nat)(i:Int):xw:=if 0<=i then(if i<n then some i.toNat else none)else if -(n:Int)<=i then some (i+n).toNat else none
def pe(xs:List α)(i:Int):Option α:=(pE xs.length i).bind λj=>xs[j]?
def QH{i:Int}{j:Nat}(h:pE n i=some j):seqIndex? i n=some j/\j<n/\-(n:Int)<=i/\i<n:=by
 unfold pE at h;by_cases h0:0<=i
 .rw[ZY h0]at h;by_cases h1:i<n
  .rw[ZY h1]at h;have e:i.toNat=j:=Option.some.inj h;exact⟨by rw[seqIndex_of h0 h1,e],by lia,by lia,h1⟩
  .rw[ZZ h1]at h;cases h
 .rw[ZZ h0]at h;by_cases h1 : -(n:Int)<=i
  .rw[ZY h1]at h;have e:(i+n).toNat=j:=Option.some.inj h;exact⟨by rw[seqIndex_neg (TW h0) h1,e],by lia,h1,by lia⟩
  .rw[ZZ h1]at h;cases h
def Iu{xs:List α}{i:Int}{v:α}(h:pe xs i=some v):∃j,seqIndex? i xs.length=some j/\xs[j]?=some v/\j<xs.length/\-(xs.length:Int)<=i/\i<xs.length:=by
 unfold pe at h;cases e:pE xs.length i with
 |none=>rw[e]at h;cases h
 |some j =>
  rw[e]at h;obtain⟨h1,h2,h3,h4⟩:=QH e;exact⟨j,h1,h,h2,h3,h4⟩
def Cz(b:Expr):Prop:=∀o i,subscripted b false o i=operate [o,i] (getItem o i)
def IxR(X:Cx)(r:R2):Prop :=
 ∀(aE bj:Expr)(aa:Γ)(s:Shared)(σ:St)(H:Hp)(x y:V)(v u:Value)(Q:VK),Inv X aa σ H s->z4 x v->z4 y u->r x y H Q ->
  subscripted bj false v u=operate [v,u] (getItem v u)->wpAny (model X.prog X.w) X.A (subscriptTail aE bj v u) (EP X aa σ Q) X.xe s
def Z'(X:Cx)(id:String)(r:V->Β->Hp->VK->Prop):Prop :=
 ∀(aa:Γ)(s:Shared)(σ:St)(H:Hp)(x:V)(xs:Β)(v:Value)(us:Δ)(Q:VK),Inv X aa σ H s->z4 x v->z5 xs us->r x xs H Q ->
  wpAny (model X.prog X.w) X.A (call (.builtin id) (v::us)) (EP X aa σ Q) X.xe s
section
variable{X:Cx}{a b:Expr}{ta tb:TE}{pos:Pos}
def IxR.or{r r':R2}(h:IxR X r)(h':IxR X r'):IxR X (λx y H Q=>r x y H Q\/r' x y H Q):=by
 intro aE bj aa s σ H x y v u Q I rx ry q hs;rcases q with q|q
 .exact h aE bj aa s σ H x y v u Q I rx ry q hs
 .exact h' aE bj aa s σ H x y v u Q I rx ry q hs
def Ws{r:R2}(hr:IxR X r)(ha:PE X a ta)(hb:PE X b tb)(hs:Cz b):PE X (.Subscript a b pos) (ui r ta tb):=by
 intro aa s σ H Q I h;exact Subscript_ (xE ha hb I h λv u s2 x y H2 I2 rx ry q=>hr a b aa s2 σ H2 x y v u Q I2 rx ry q (hs _ _))
def LS(K:Frag):R2:=λx y H Q=>∃p xs i v,x=.ref p/\y=.int i/\SqL K H p xs/\pe xs i=some v/\Q v H
def MZ(K:Frag):R2:=λx y H Q=>∃p xs i v,x=.ref p/\y=.int i/\SqT K H p xs/\pe xs i=some v/\Q v H
def MM:R2:=λx y H Q=>∃z i c,x=.str z/\y=.int i/\z.length<=sizeLine/\pe z.cps.toList i=some c/\Q (.str ⟨#[c]⟩) H
def Jq:IxR X (LS X.K):=by
 intro aE bj aa s σ H x y v u Q I rx ry h hs;obtain⟨p,xs,i,z,rfl,rfl,hq,he,q⟩:=h;cases rx;obtain⟨t,rfl⟩:=ry;obtain⟨its,r,pl,hz⟩:=I.list hq;obtain⟨j,h1,h2,h3,h4,h5⟩:=Iu he;obtain⟨w,ew,eR⟩:=r.get h2;have hl:=r.length;have hn:=uo;have bg:EP X aa σ Q w s:=⟨z,H,I,eR,q⟩;by_cases h0:0<=i
 .have hj:i.toNat=j:=by
   rw[seqIndex_of h0 h5]at h1;exact Option.some.inj h1
  exact item_listR pl.isList h0 xB (by rw[hj];simpa using ew) bg hs
 .have hj:(i+(its.toArray.size:Int)).toNat=j:=by
   rw[seqIndex_neg (TW h0) h4]at h1;rw[aW,<- hl];exact Option.some.inj h1
  exact subscriptTail_builtinR (x:=w) pl.isList.typeIs slot_list_getitem.lookup
   (wpAny_getItem_list_neg (Q:=λr s'=>r=w/\EP X aa σ Q r s') pl.isList (TW h0) (by rw[aW]<;>lia) xB (by rw[hj];simpa using ew) ⟨rfl,bg⟩) hs
def U':IxR X (MZ X.K):=by
 intro aE bj aa s σ H x y v u Q I rx ry h hs;obtain⟨p,xs,i,z,rfl,rfl,hq,he,q⟩:=h;cases rx;obtain⟨t,rfl⟩:=ry;obtain⟨its,r,pl,hz⟩:=I.tuple hq;obtain⟨j,h1,h2,h3,h4,h5⟩:=Iu he;obtain⟨w,ew,eR⟩:=r.get h2;have hl:=r.length;have hn:=uo;have bg:EP X aa σ Q w s:=⟨z,H,I,eR,q⟩;exact subscriptTail_builtinR (x:=w) pl.typeIs slot_tuple_getitem.lookup
  (getItem_tuple (j:=j) (Q:=λr s'=>r=w/\EP X aa σ Q r s') pl xB xB (by rwa[aW,<- hl]) (by simpa using ew) ⟨rfl,bg⟩) hs
def SL:IxR X MM:=by
 intro aE bj aa s σ H x y v u Q I rx ry h hs;obtain⟨z,i,c,rfl,rfl,hz,he,q⟩:=h;obtain⟨t,rfl⟩:=rx;obtain⟨t',rfl⟩:=ry;obtain⟨j,h1,h2,h3,h4,h5⟩:=Iu he;have hl:z.cps.toList.length=z.length:=by simp[Str.length]
 rw[hl]at h1 h4 h5;have hn:=uo;exact tail_any (typeIs_str s z t) slot_str_getitem.lookup (getItem_str (c:=c) (by
  have e1:decide (i < -(2^63:Int))=false:=Zp xB;have e2:decide (i>=2^63)=false:=Zp xB;rw[e1,e2,Bool.or_false]) (by rw[h1];simpa using h2) ⟨.str ⟨#[c]⟩,H,I.tok _,⟨_,rfl⟩,q⟩) hs
def O6(its:Δ)(n j:Nat)(u:Value):Obj.mapSeq (·.setIfInBounds j u) { cls:=.type "list",data:=.seq its.toArray n }={ cls:=.type "list",data:=.seq (its.set j u).toArray n }:=by
 simp[Obj.mapSeq]
def Inv.lst{aa:Γ}{σ:St}{H:Hp}{s:Shared}{p:Addr}{xs:Β}(I:Inv X aa σ H s)(h:H p=some (.lst xs)) :
  ∃(its:Δ)(n:Nat),z5 xs its/\s.heap.get? p=some { cls:=.type "list",data:=.seq its.toArray n }/\xs.length<=sizeLine:=by
 obtain⟨z,its,n,r,e⟩:=I.hok p _ h;exact⟨its,n,r,e,z⟩
def Inv.lstUpd{p:Addr}{its its':Δ}{n':Nat}{f:Obj->Obj}(I:Inv X aa σ H s)(h:H p=some (.lst xs))
 (ho:s.heap.get? p=some { cls:=.type "list",data:=.seq its.toArray n })(hf:f { cls:=.type "list",data:=.seq its.toArray n }={ cls:=.type "list",data:=.seq its'.toArray n' })(r:z5 ys its')(hz:ys.length<=sizeLine)(t:Nat) :
  Inv X aa σ (upd H p (.lst ys)) { s with heap:=s.heap.update p f,toks:=t }:=by
 have e:(s.heap.update p f).get? p=some { cls:=.type "list",data:=.seq its'.toArray n' }:=by
  rw[Heap.get?_update_self f ho (by rw[hf]<;>rfl),hf]
 refine I.write (x:=p) (e:=p) (by rw[h];trivial) (.inl rfl) (λb u hb q=>(Heap.get?_update_other _ _ (Ne.symm hb)).trans q) ⟨_,e⟩ ?_;exact⟨hz,its',n',r,e⟩
def OR:V->V->V->Hp->(Hp->Prop)->Prop:=λo i v H Q=>∃p xs k j,o=.ref p/\i=.int k/\H p=some (.lst xs)/\pE xs.length k=some j/\Q (upd H p (.lst (xs.set j v)))
def set_list:BD X OR:=by
 intro aa s σ H o i v ov iv u Q I ro ri rv h;obtain⟨p,xs,k,j,rfl,rfl,hp,hj,q⟩:=h;cases ro;obtain⟨t,rfl⟩:=ri;obtain⟨its,n,r,ho,hz⟩:=I.lst hp;obtain⟨h1,h2,h3,h4⟩:=QH hj;have hl:=r.length;have hn:=uo;have I':Inv X aa σ (upd H p (.lst (xs.set j v))) { s with heap:=s.heap.update p (Obj.mapSeq (·.setIfInBounds j u)) } :=
  I.lstUpd hp ho (O6 its n j u) (r.set rv j) (by rwa[VZ]) s.toks
 by_cases h0:0<=k
 .have hk:k.toNat=j:=by
   rw[seqIndex_of h0 h4]at h1;exact Option.some.inj h1
  exact PySem.W.ki_setAt ho h0 xB (by rwa[aW,<- hl]) (by rw[hk];exact⟨_,I',q⟩)
 .have hk:(k+(its.toArray.size:Int)).toNat=j:=by
   rw[seqIndex_neg (TW h0) h3]at h1;rw[aW,<- hl];exact Option.some.inj h1
  exact PySem.W.ki_setBack ho (TW h0) (by rwa[aW,<- hl]) xB (by rw[hk];exact⟨_,I',q⟩)
def K7(lo hi:zC)(n:Nat):(sliceBounds lo hi none n).1=((HT.sIx n 0 lo:Nat):Int)/\(sliceBounds lo hi none n).2.1=((HT.sIx n n hi:Nat):Int)/\(sliceBounds lo hi none n).2.2=1:=by
 refine⟨?_,?_,rfl⟩
 .cases lo with
  |none=>simp[sliceBounds,HT.sIx]
  |some i =>
   simp only[sliceBounds,HT.sIx,getD_none,show(1:Int)>0 by decide,if_true];by_cases h:i<0
   .simp only[h,if_true]<;>lia
   .simp only[h,if_false]<;>lia
 .cases hi with
  |none=>simp[sliceBounds,HT.sIx]
  |some i =>
   simp only[sliceBounds,HT.sIx,getD_none,show(1:Int)>0 by decide,if_true];by_cases h:i<0
   .simp only[h,if_true]<;>lia
   .simp only[h,if_false]<;>lia
def Gz(its:Δ)(lo hi:zC):slicePick its.toArray lo hi none=((its.drop (HT.sIx its.length 0 lo)).take (HT.sIx its.length its.length hi-HT.sIx its.length 0 lo)).toArray:=by
 obtain⟨h1,h2,h3⟩:=K7 lo hi its.toArray.size;unfold slicePick;rw[h1,h2,h3];simp only[sliceRange_one,pick_run,aW]<;>rfl
def Nw(K:Frag):V->zC->zC->Hp->VK->Prop:=λx lo hi H Q=>∃a xs,x=.ref a/\SqL K H a xs/\∀p,H p=none->Q (.ref p) (upd H p (.lst (T4 xs lo hi)))
def Z0:SlR X (Nw X.K):=by
 intro aa s σ H x v vl vu lo hi sl Q I rx hs pl pu h;obtain⟨a,xs,rfl,hx,q⟩:=h;cases rx;obtain⟨its,r,ht,hz⟩:=I.list hx;have aI:=r.length;refine⟨"list",_,slot_list_getitem.lookup,ht.isList.typeIs,?_⟩;refine wpAny_getItem_list_slice ht.isList hs pl pu .none xF ?_ (by rw[aW]<;>lia);rw[Gz,<- aI];refine⟨.ref s.zs,_,I.laid (t':=s.toks) (o:=.lst (T4 xs lo hi)) (λb ob q=>aG _ q) (aF _) ?_,rfl,q _ (I.hok.fresh (aF _))⟩;exact⟨aK (Lq xs lo hi) hz,_,0,(r.drop (HT.sIx xs.length 0 lo)).take (HT.sIx xs.length xs.length hi-HT.sIx xs.length 0 lo),aV _ rfl⟩
def KW:V->V->Bool
 |.non,.non=>true
 |.bl a,.bl b=>a==b
 |.bl a,.int b=>(if a then 1 else 0)==b
 |.int a,.bl b=>a==(if b then 1 else 0)
 |.int a,.int b=>a==b
 |.str a,.str b=>a==b
 |_,_=>false
def yx:jf X (.builtin "len") (λxs H Q=>∃p ys,xs=[.ref p]/\(SqL X.K H p ys\/SqT X.K H p ys)/\Q (.int ys.length) H):=by
 intro aa s σ H xs us Q I r h;obtain⟨p,ys,rfl,hq,q⟩:=h;obtain⟨u,rfl,rx⟩:=vals1 r;cases rx;have hn:=uo;rcases hq with hq|hq
 .obtain⟨its,r',pl,hz⟩:=I.list hq;have aI:=r'.length;exact Calls.call_len_list pl.isList (by simp only[aW]<;>lia) ⟨.int ys.length,H,I.tok _,⟨s.toks+1,by rw[aW,aI]⟩,q⟩
 .obtain⟨its,r',pl,hz⟩:=I.tuple hq;have aI:=r'.length;exact len_tuple pl (by simp only[aW]<;>lia) ⟨.int ys.length,H,I.tok _,⟨s.toks+1,by rw[aW,aI]⟩,q⟩
def Lb:jf X (.builtin "len") (λxs H Q=>∃z,xs=[.str z]/\z.length<=sizeLine/\Q (.int z.length) H):=by
 intro aa s σ H xs us Q I r h;obtain⟨z,rfl,hz,q⟩:=h;obtain⟨u,rfl,t,rfl⟩:=vals1 r;have hn:=uo;exact len_str xB ⟨.int z.length,H,I.tok _,⟨_,rfl⟩,q⟩
def Li:jf X (.type "list") (λxs H Q=>∃p ys,xs=[.ref p]/\(SqL X.K H p ys\/SqT X.K H p ys)/\∀l,H l=none->Q (.ref l) (upd H l (.lst ys))):=by
 intro aa s σ H xs us Q I r h;obtain⟨p,ys,rfl,hq,q⟩:=h;obtain⟨u,rfl,rx⟩:=vals1 r;cases rx;have bg:∀(its:Δ),z5 ys its->ys.length<=sizeLine->∀(h':Heap)(c':Nat),(∀b o',s.heap.get? b=some o'->h'.get? b=some o') ->
   h'.get? s.zs=some { cls:=.type "list",dict:=none,data:=.seq its.toArray c',slots:=#[] }->EP X aa σ Q (.ref s.zs) { s with heap:=h' }:=λits r' hz h' c' kp e =>
  ⟨.ref s.zs,_,I.laid (t':=s.toks) kp (aF _) (show fX X.prog X.w _ h' _ (.lst ys)from⟨hz,its,c',r',e⟩),rfl,q _ (I.hok.fresh (aF _))⟩
 rcases hq with hq|hq
 .obtain⟨its,r',pl,hz⟩:=I.list hq;have aI:=r'.length;obtain⟨o,ho,hc,n,hd⟩:=pl.isList;exact call_list_seq p (.inl rfl) ho hc hd (λh' c' kp e=>bg its r' hz h' c' kp e) (by simp only[aW]<;>lia)
 .obtain⟨its,r',pl,hz⟩:=I.tuple hq;have aI:=r'.length;obtain⟨o,ho,hc,n,hd⟩:=pl;exact call_list_seq p (.inr rfl) ho hc hd (λh' c' kp e=>bg its r' hz h' c' kp e) (by simp only[aW]<;>lia)
def At(K:Frag)(T:String)(x:V)(H:Hp):Prop:=match x with
 |.str _=>T="str"
 |.int _=>T="int"
 |.ref p=>(T="list"/\∃xs,SqL K H p xs)\/(T="tuple"/\∃o,K.lookup p=some o/\o.cls=.type "tuple"/\o.dict=none) \/
   (T="dict"/\(∃kvs,H p=some (.dK kvs)))\/(T="set"/\∃S n,H p=some (.set S n))
 |_=>False
def UM{T:String}{x:V}{v:Value}(I:Inv X aa σ H s)(r:z4 x v)(ty:At X.K T x H) :
  s.TypeIs v T/\∀a,v=.ref a->∃ob,s.heap.get? a=some ob/\ob.dict=none:=by
 cases x with
 |str z =>
  obtain⟨t,rfl⟩:=r;cases(show T="str" from ty);exact⟨typeIs_str s z t,λ_ e=>nomatch e⟩
 |int i =>
  obtain⟨t,rfl⟩:=r;cases(show T="int" from ty);exact⟨typeIs_int s i t,λ_ e=>nomatch e⟩
 |ref p =>
  cases r;rcases ty with⟨rfl,xs,hq⟩|⟨rfl,o,hk,hc,hd⟩|⟨rfl,hk⟩|⟨rfl,S,n,hk⟩
  .obtain⟨its,_,pl,_⟩:=I.list hq;refine⟨pl.isList.typeIs,λa e=>?_⟩;cases e;obtain⟨o,n,e,c,hd,_⟩:=pl;exact⟨o,e,hd⟩
  .refine⟨⟨o,I.kIn p o hk,hc⟩,λa e=>?_⟩;cases e;exact⟨o,I.kIn _ o hk,hd⟩
  .have z:∃o,s.heap.get? p=some o/\o.ExactDict:=by
    obtain⟨kvs,hk⟩:=hk;obtain⟨_,_,_,_,o,_,_,e,ex,_⟩:=I.hok p _ hk;exact⟨o,e,ex⟩
   obtain⟨o,e,ex⟩:=z;refine⟨⟨o,e,ex.1⟩,λa e2=>?_⟩;cases e2;exact⟨o,e,ex.2.1⟩
  .obtain⟨o,_,_,_,e,ex,_⟩:=I.hok p _ hk;refine⟨⟨o,e,ex.1⟩,λa e2=>?_⟩;cases e2;exact⟨o,e,ex.2.1⟩
 |_=>exact False.elim ty
def IR(K:Frag)(T:String)(r:V->Β->Hp->VK->Prop)(to:TE)(t:TA):TE:=λσ H Q=>to σ H λx H1=>At K T x H1/\t σ H1 λxs H2=>r x xs H2 Q
variable{o e:Expr}{es:zh}{to:TE}{t:TA}{name:Str}{ai ah:Pos}{T id:String}{r:V->Β->Hp->VK->Prop}
abbrev zk(a b:Pos):Prop:=(a.endLine==b.line)=true
def HL(pa:PlainAttrs T)(slot:Slot T name id)(iq:typeOf (.builtin id)=pure (.type "method_descriptor"))(hm:Z' X id r)(ho:PE X o to)(ha:PA X (e::es) t)
 (iX:qB X o name:=by rfl)
 (l5:((backTo ah (starEach (e::es) X.env)).all (λx=>!x.1)&&(backToKw ah (keywordEach [] X.env)).all (λx=>x.1.isSome)
   && decide ((e::es).length+([] : xn).length+(if([] : xn).isEmpty then 0 else 1)<30))=true:=by rfl)
 (iP:zk ai ah:=by rfl)(hs:qo X e es:=by rfl)(gX:qh X ah es:=by rfl) :
  PE X (.Call (.Attribute o name ai) (e::es) [] ah) (IR X.K T r to t):=by
 intro aa s σ H Q I h;refine wpAny_Call_method_late iX l5 iP rfl (e_ (ho aa s σ H _ I h) λv s1 hP=>?_);obtain⟨x,H1,I1,r1,ty,q1⟩:=hP;obtain⟨h1,h2⟩:=UM I1 r1 ty;refine⟨T,id,pa,slot,iq,h1,h2,?_⟩;have hA:=ha ah aa s1 σ H1 _ I1 q1;rw[hs]at hA ⊢;refine Calls.callWith_builtin (by show(false || (backTo ah (starEach es X.env)).any (·.1))=false;rw[gX]<;>rfl) (Calls.evalArgs_plain ?_);exact e_ hA λus s2 hP=>by obtain⟨vs,H2,I2,r2,q2⟩:=hP;exact hm aa s2 σ H2 x vs v us Q I2 r1 r2 q2

end
def yA(X:Cx)(id:String)(r:V->Β->Hp->VK->Prop):Prop :=
 ∀(aa:Γ)(s:Shared)(σ:St)(H:Hp)(x:V)(xs:Β)(v:Value)(us:Δ)(Q:VK),Inv X aa σ H s->z4 x v->z5 xs us->r x xs H Q ->
  wpAny (model X.prog X.w) X.A (call (.builtin id) (v::us)) (EP X aa σ Q) X.xe s
def z5.one:∀{x:V}{us:Δ},z5 [x] us->∃u,us=[u]/\z4 x u
 |_,_,.cons r .nil=>⟨_,rfl,r⟩
def z5.two{x y:V}{us:Δ}(h:z5 [x,y] us):∃u v,us=[u,v]/\z4 x u/\z4 y v:=by
 cases h with|cons r t=>cases t with|cons q t=>cases t;exact⟨_,_,rfl,r,q⟩
theorem z5.rep{xs:Β}{us:Δ}(h:z5 xs us):∀k:Nat,z5 (replicate k xs).flatten (replicate k us).flatten
 |0=>.nil
 |k+1=>by
  rw[replicate_succ,replicate_succ,flatten_cons,flatten_cons];exact z5.append h (z5.rep h k)
theorem foldl_rep(its:Δ):∀(k:Nat)(acc:Δ),
  List.foldl (λx1 x2=>x1++x2) acc.toArray (replicate k its.toArray)=(acc++(replicate k its).flatten).toArray
 |0,acc=>by simp
 |k+1,acc=>by
  have e:acc.toArray++its.toArray=(acc++its).toArray:=by simp
  have e2:(acc++its)++(replicate k its).flatten=acc++(replicate (k+1) its).flatten:=by
   rw[replicate_succ,flatten_cons,WZ]
  rw[<- e2,<- foldl_rep its k (acc++its),<- e,replicate_succ,foldl_cons]
def Inv.lset{its its':Δ}{f:xo->xo}{t':Nat}(I:Inv X aa σ H s)(hH:H l=some (.lst xs))
 (e:s.heap.get? l=some { cls:=.type "list",data:=.seq its.toArray n })(hf:f its.toArray=its'.toArray)(hv:z5 ys its')(hz:ys.length<=sizeLine) :
  Inv X aa σ (upd H l (.lst ys)) { s with heap:=s.heap.update l (Obj.mapSeq f),toks:=t' }:=by
 have q:=PySem.IsL.update e f;rw[hf]at q;refine I.write (x:=l) (e:=l) (by rw[hH];exact trivial) (.inl rfl) (λb' u hb hu=>(Heap.get?_update_other s.heap (Obj.mapSeq f) (Ne.symm hb)).trans hu) ⟨_,q⟩ ?_;exact⟨hz,its',_,hv,q⟩
def Inv.lnew{its:Δ}{t':Nat}(I:Inv X aa σ H s)(hv:z5 ys its)(hz:ys.length<=sizeLine) :
  Inv X aa σ (upd H s.zs (.lst ys)) { s with heap:=s.heap.push { cls:=.type "list",data:=.seq its.toArray },toks:=t' } :=
 I.laid (λ_ _ q=>aG _ q) (aF _) ⟨hz,its,0,hv,aV _ rfl⟩
def Inv.fresh(I:Inv X aa σ H s):H s.zs=none:=I.hok.fresh (aF _)
def Inv.lstM(I:Inv X aa σ H s)(hH:H l=some (.lst xs)):xs.length<=sizeLine/\∃(its:Δ)(n:Nat),z5 xs its/\xs.length=its.length/\s.heap.get? l=some { cls:=.type "list",data:=.seq its.toArray n }:=by
 obtain⟨z,its,n,r,e⟩:=I.hok l _ hH;exact⟨z,its,n,r,r.length,e⟩
def W8(h:n<=sizeLine):Builtin.List.listTooLong n=false:=by
 unfold Builtin.List.listTooLong;exact Zp (JY h)
def Ys:V->Β->Hp->VK->Prop:=λx vs H Q=>∃l xs y,x=.ref l/\vs=[y]/\H l=some (.lst xs)/\xs.length<sizeLine/\Q .non (upd H l (.lst (xs++[y])))
def Ig:yA X "list.append" Ys:=by
 intro aa s σ H x vs v us Q I rx rv h;obtain⟨l,xs,y,rfl,rfl,hH,hz,q⟩:=h;cases rx;obtain⟨u,rfl,ru⟩:=rv.one;obtain⟨z,its,n,r,hl,e⟩:=I.lstM hH;refine call_meets F.slot_list_append ⟨_,e,rfl⟩ F.entry_list_append (F.args_list_append_2 _ _) (PySem.list_append l its.toArray n u (by rw[aW];lia)) ⟨e,?_⟩;refine⟨.non,_,I.lset (its':=its++[u]) hH e xF (r.append (.cons ru .nil)) ?_,rfl,q⟩;rwa[aA,length_singleton]
def No:R2:=λx y H Q=>∃l b xs zs,x=.ref l/\y=.ref b/\H l=some (.lst xs)/\H b=some (.lst zs)/\xs.length+zs.length<=sizeLine/\∀p,H p=none->Q (.ref p) (upd H p (.lst (xs++zs)))
def Sj:OpR X (binaryOp .Add) No:=by
 intro aa s σ H x y v u Q I rx ry h;obtain⟨l,b,xs,zs,rfl,rfl,hH,hB,hz,q⟩:=h;cases rx;cases ry;obtain⟨z,its,n,r,hl,e⟩:=I.lstM hH;obtain⟨z2,io,n2,r2,hl2,e2⟩:=I.lstM hB;refine PySem.P.add_list e e2 ?_ (by rw[aW,aW];lia);have ea:its.toArray++io.toArray=(its++io).toArray:=by simp
 rw[ea];exact⟨.ref _,_,I.lnew (t':=s.toks) (r.append r2) (by rw[aA];omega),rfl,q _ I.fresh⟩
def LP:R2:=λx y H Q=>∃l k xs,x=.ref l/\y=.int k/\H l=some (.lst xs)/\-(2^63)<=k/\k<2^63/\xs.length*k.toNat<=sizeLine /\
 ∀p,H p=none->Q (.ref p) (upd H p (.lst (replicate k.toNat xs).flatten))
def len_rep(xs:List α)(k:Nat):(replicate k xs).flatten.length=k*xs.length:=by
 induction k with
 |zero=>simp
 |succ k ih=>rw[replicate_succ,flatten_cons,aA,ih,Nat.succ_mul,Nat.add_comm]
def P1:OpR X (binaryOp .Mult) LP:=by
 intro aa s σ H x y v u Q I rx ry h;obtain⟨l,k,xs,rfl,rfl,hH,h1,h2,hz,q⟩:=h;cases rx;obtain⟨t,rfl⟩:=ry;obtain⟨z,its,n,r,hl,e⟩:=I.lstM hH;have aI:its.toArray.size*k.toNat<=sizeLine:=by rwa[aW,<- hl]
 have mi:¬its.toArray.size*k.toNat>(2^63-1)/8:=by
  have:(sizeLine:Nat)<=(2^63-1)/8:=by decide
  lia
 have lT:¬(!Builtin.List.listFitsIndex k)=true:=by
  rw[fitsIndex_both h1 h2];exact bf
 have iO:¬Builtin.List.listTooLong (its.toArray.size*k.toNat)=true:=by
  rw[W8 aI];exact bf
 have k9:List.foldl (λx1 x2=>x1++x2) #[] (replicate (if its.toArray.isEmpty=true then 0 else k.toNat) its.toArray)=(replicate k.toNat its).flatten.toArray:=by
  have f0:∀m:Nat,List.foldl (λx1 x2=>x1++x2) #[] (replicate m its.toArray)=(replicate m its).flatten.toArray:=λm=>by
   have:=foldl_rep its m [];rw[List.nil_append]at this;exact this
  rw[f0];cases its with
  |nil=>simp
  |cons a r'=>rw[ZZ xF]
 refine wpAny_binaryOp_repeat_ref (T:="list") (U:="int") xa ⟨_,e,rfl⟩ (λs'=>typeIs_int s' k t) noFill_list_mul F.fills_int_mul F.slot_int_rmul repeat_list F.slot_int_index.lookup
  (call_meets F.slot_int_rmul (typeIs_int s k t) F.entry_int_rmul (F.args_int_rmul_2 _ _) (int___rmul___int_list k t l its.toArray n)
   ⟨e,rfl,⟨_,e,rfl⟩,call_meets F.slot_list_mul ⟨_,e,rfl⟩ F.entry_list_mul (F.args_list_mul_2 _ _) (AutoListH.list___mul___list_int_3 l its.toArray n k t lT mi iO) ⟨e,?_⟩⟩)
 rw[k9];exact⟨.ref _,_,I.lnew (t':=s.toks) (r.rep k.toNat) (by rwa[len_rep,Nat.mul_comm]),rfl,q _ I.fresh⟩
end L2
namespace Att
open PySem PySem.W PySem.Calls PyProof.Rows
def BR{P:Params}{h:Heap} : ∀(ns:zS)(vs:Δ),WellAll P h vs (ns.map WData.int)->IntsAre vs ns:=by
 intro ns
 induction ns with
 |nil =>
  intro vs w;rw[map_nil]at w;cases w;exact .nil
 |cons n ns ih =>
  intro vs w;rw[map_cons]at w;cases w with
  |cons a b =>
   cases a;exact .cons _ _ (ih _ b)
variable{l:OpenLaw}
def Ti{n:Nat}(hn:l.most=some n){P:Params}{h:Heap}{args:List WData}{gv:Δ}
 (eI:l.row.toRowW.claim.pre args)(kR:WellAll P h gv args) :
  ∃a vs ns,gv=[Value.ref a]/\args=[WData.list (ns.map WData.int)]/\h.get? a=some { cls:=.type "list",data:=.seq vs.toArray }/\IntsAre vs ns/\ns.length<=n:=by
 have ge:WShape.hasAll [] args [.list .int]:=(pre_splitW eI).1;have hc:l.pre.holds [] { args:=args }:=(pre_splitW eI).2;obtain⟨d,r,rfl,h1,h2⟩:=hasAllW_cons ge;obtain rfl:=hasAllW_nil h2;obtain⟨xs,rfl,h3⟩:=hasW_list h1;obtain⟨ns,rfl⟩:=items_int h3;have aI:ns.length<=n:=by
  unfold OpenLaw.pre at hc;have h4:(WTm.not (.lt (.lit (.int (n:Int))) (.len (.arg 0)))).holds [] { args:=[.list (ns.map .int)] }:=by
   have h4:=(holds_andW hc).1;rw[hn]at h4;exact h4
  have h5:=condW_of h4 (w_not (w_lt w_lit (w_len_list (w_arg rfl))));rw[ak]at h5;refine VW λq=>?_;have q':(n:Int)<((ns.length:Nat):Int):=by omega
  first
   |(rw[Zs q']at h5;exact absurd h5 xa)
   |(simp at h5;omega)
 cases kR with
 |cons w1 w2 =>
  cases w2;cases w1 with
  |list ho hG=>exact⟨_,_,ns,rfl,rfl,ho,BR ns _ hG,aI⟩
def Tp(l:OpenLaw)(args:List WData):l.row.toRowW.claim.post args (.bool true) args=true :=
 postW_of (r:=l.row.toRowW) (X:=(true==true))
  (show WShape.has [] (.bool true) .bool=true by first|rfl|decide|simp[WShape.has,WShape.arms,WShape.armsAll])
  (show(WTm.eq .res (.lit (.bool true))).value [] { args:=args,res:=some (.bool true),after:=args }=some (.bool (true==true))from w_eq_bool (w_res rfl) w_lit) rfl
def Bc{n:Nat}{q:Program}{loose:Θ}{XP:(Str->Ψ)->Heap->Prop}{YP:World->Heap->Prop}{d:DefRec}
 (hn:l.most=some n)(iS:d.params.defaults=[])
 (call:∀(w:World)(s₀ s₁:Shared)(mg mb:Str->Ψ)(fa:Addr)(o:Obj)(pm cd bi:Value)(a:Addr)(vs:Δ)(ns:zS),
   Ground q loose [] XP w s₀ mg mb s₁.heap->YP w s₁.heap ->
   s₁.heap.get? fa=some o->o.data=.func (docDef d.name d.params d.body d.scope pm cd bi)->s₁.heap.CodeRec cd d.name->mg d.name=some (.ref fa) ->
   s₁.heap.get? a=some { cls:=.type "list",data:=.seq vs.toArray }->IntsAre vs ns->ns.length<=n->s₁.gens = #[] ->
   codeAny (model l.prog w) callerA (.call (.ref fa) ⟨[.ref a],[]⟩) (λr s'=>r=.ok (.ret (.bool true))/\OldK s₁.heap s'.heap/\s'.os=s₁.os/\AllBare s'.gens) s₁) :
  WalkO q loose XP YP l.row.toRowW d [] (λf vs=>PySem.call f vs):=by
 intro w s₀ s₁ mg mb G Y fa o pm cd bi dV kV ho hd bp hD gg hg args gv as eI hlay hrd kR hlo;obtain rfl:dV=.none:=Dflts.none hD iS;obtain rfl:kV=.none:=Dflts.noKw hD;obtain⟨a,vs,ns,rfl,rfl,e9,di,aI⟩:=Ti hn eI kR;refine enter_call (codeAny_mono (call w s₀ s₁ mg mb fa o pm cd bi a vs ns G Y ho (fd_plain hd) bp gg e9 di aI hg) λr s' hq=>?_);obtain⟨rfl,h2,h3,h4⟩:=hq;exact⟨.inl ⟨.bool true,.bool true,[],rfl,λ_=>rfl,.bool true,Tp l _,λ_=>⟨List.Pairwise.nil,λ_ hm=>(nomatch hm)⟩⟩,h2,h3,h4⟩
end Att
namespace L2
open PySem PySem.Spec PyProof.Rows
theorem vo:∀{vs:Δ}{ns:zS},IntsAre vs ns->z5 (ns.map V.int) vs
 |_,_,.nil=>.nil
 |_,_,.cons n t h=>.cons ⟨t,rfl⟩ (vo h)
def Only(H:Hp):Prop:=∀b,H b=none\/∃o xs,H b=some (.frz o (.lst xs))
def Vj{P:Program}{w:World}{K:Frag}{mg mb:Str->Ψ}{CX:p_}{k:Nat}{fa a:Addr}{fd:FuncData}{x:Str}{sp:Sp}{s₁:Shared}{vs:Δ}{ns:zS}
 (KX:K.In s₁.heap)(db:s₁.heap.Ns mainGlobals mg)(hb:s₁.heap.Ns builtinsNs mb)(ia:∀x:Str,x≠"__name__"->mb x=bootBuiltins x)(g5:s₁.heap.NoLimit)(hg:s₁.gens = #[])
 (ha:s₁.heap.get? a=some { cls:=.type "list",data:=.seq vs.toArray })(hi:IntsAre vs ns)(hl:ns.length<=sizeLine)(hr:dU k callerA)
 (F:∀base:Heap,K.In base->base.Ns mainGlobals mg->bV P w K mg base CX k fa fd [x] sp)(fg:∀(s:Shared)(u:Value),BindsTo s fd ⟨[u],[]⟩ [(x,u)])
 (du:∀H:Hp,Only H->SqL K H a (ns.map V.int)->sp [.ref a] H (λv _=>v=.bl true) λ_ _ _=>False)
 (i8:∀H e s',CX [] H s₁ (λ_ _ _=>False) e s'->False) :
  codeAny (model P w) callerA (.call (.ref fa) ⟨[.ref a],[]⟩) (λr s'=>r=.ok (.ret (.bool true))/\OldK s₁.heap s'.heap/\s'.os=s₁.os/\AllBare s'.gens) s₁:=by
 have rv:=vo hi;have gL:=hi.length

 have core:∀H:Hp,Only H->SqL K H a (ns.map V.int)->HOk P w H s₁.heap->(∀b,H b≠none->b=a)->(H a≠none->K.lookup a=none) ->
   codeAny (model P w) callerA (.call (.ref fa) ⟨[.ref a],[]⟩) (λr s'=>r=.ok (.ret (.bool true))/\OldK s₁.heap s'.heap/\s'.os=s₁.os/\AllBare s'.gens) s₁:=by
  intro H hO hS hok hA hK;have bP:∀{b:Addr}{o:Obj},s₁.heap.get? b=some o->H b=none->(xK s₁.heap H).get? b=some o:=λe n=>Mx e n;have eS:∀{b:Addr}{o:Obj}{es:Array DictEntry}{ep:Nat},s₁.heap.get? b=some o->o.data=.dict es ep->H b=none:=λ{b o es ep}e d=>by
   cases q:H b with
   |none=>rfl
   |some u =>
    have e':b=a:=hA b (by rw[q];simp);subst e';rw[ha]at e;cases e;have d':Data.seq vs.toArray _=Data.dict es ep:=d;cases d'
  have fF:∀{b:Addr}{m:Str->Ψ},s₁.heap.Ns b m->(xK s₁.heap H).Ns b m:=λ{b m}⟨o,es,ep,e,d,r⟩=>⟨o,es,ep,bP e (eS e d),d,r⟩;have i7:K.In (xK s₁.heap H):=λb o e=>bP (KX b o e) (by
   cases q:H b with
   |none=>rfl
   |some u =>
    have e':b=a:=hA b (by rw[q];simp);subst e';rw[hK (by rw[q];simp)]at e;cases e)
  have hM:Mod K mg (xK s₁.heap H):=⟨i7,fF db,⟨mb,fF hb,ia⟩,let⟨mc,h1,h2⟩:=g5;⟨mc,fF h1,h2⟩⟩;have e0:DR P w K mg (xK s₁.heap H) callerA [] s₁ H:=⟨rfl,hM,λb o e=>RG e,WS (HW _ _),trivial,λb hb=>absurd (show b∈([] : Φ)from hb) xF,hok,.of_eq hg⟩;refine codeAny_mono ((F _ i7 (fF db)).run callerA [] s₁ H ⟨[.ref a],[]⟩ [.ref a] [.ref a] _ _ hr e0 (fg s₁ (.ref a)) (.cons rfl .nil) (du H hO hS)) λr s' h=>?_;cases r with
  |error e=>exact(i8 H e s' h).elim
  |ok fl =>
   cases fl with
   |next=>exact False.elim h
   |brk=>exact False.elim h
   |cont=>exact False.elim h
   |ret u =>
    obtain⟨v,H',os,bare,un,hok',r',q⟩:=h;have q':v=.bl true:=q;subst q';obtain rfl:u=Value.bool true:=r';refine⟨rfl,OldK.of_keep λb o e=>?_,os,bare⟩;cases q:H b with
    |none=>exact un.keep b o e q (by intro z;exact absurd (show b∈([] : Φ)from z) xF) xF
    |some u =>
     rcases hO b with z|⟨ob,xs,z⟩
     .rw[q]at z;cases z
     .have z2:=un.frzs b ob _ z;obtain⟨e1,_⟩:=hok b _ z;obtain⟨e2,_⟩:=hok' b _ z2;rw[e]at e1;cases e1;exact e2
 cases hk:K.lookup a with
 |some o =>

  have e:=KX a o hk;rw[ha]at e;cases e;refine core (λ_=>none) (λ_=>.inl rfl) (.inr ⟨_,vs.toArray,_,hk,rfl,rfl,rfl,by rw[aW,gL];exact hl,by simpa using rv⟩) (λb u z=>by have z':(none:Option HO)=some u:=z;cases z') (λb z=>absurd rfl z) λz=>absurd rfl z
 |none =>
  refine core (λb=>if b=a then some (.frz { cls:=.type "list",data:=.seq vs.toArray } (.lst (ns.map V.int)))else none) (λb=>?_) (.inl (.inr ⟨{ cls:=.type "list",data:=.seq vs.toArray },ZY rfl⟩)) (λb u z=>?_) (λb z=>?_) λ_=>hk
  .by_cases hb:b=a
   .exact .inr ⟨_,_,ZY hb⟩
   .exact .inl (ZZ hb)
  .by_cases hb:b=a
   .have z':=(ZY hb).symm.trans z;cases z';subst hb;exact⟨ha,by rw[ak];exact hl,vs,_,rv,ha⟩
   .have z':=(ZZ hb).symm.trans z;cases z'
  .by_cases hb:b=a
   .exact hb
   .exact absurd (ZZ hb) z
abbrev KOf{K:Frag}{h:Heap}(_:K.In h):Frag:=K
def ZW{l:PySem.W.OpenLaw}{n k:Nat}{q:Program}{loose:Θ}{XP:(Str->Ψ)->Heap->Prop}{YP:World->Heap->Prop}{d:DefRec}{K:Params->Frag}{CX:World->p_}{sp:World->Sp}{x:Str}
 (hn:l.most=some n)(hZ:n<=sizeLine)(iS:d.params.defaults=[])(hr:dU k callerA)
 (hY:∀(w:World)(h:Heap),YP w h->(K w.params).In h)
 (F:∀(w:World)(mg:Str->Ψ)(fa:Addr)(h:Heap),(K w.params).In h->h.Ns mainGlobals mg->mg d.name=some (.ref fa) ->
   ∃fd:FuncData,(∀(s:Shared)(u:Value),BindsTo s fd ⟨[u],[]⟩ [(x,u)]) /\
    ∀base:Heap,(K w.params).In base->base.Ns mainGlobals mg->bV l.prog w (K w.params) mg base (CX w) k fa fd [x] (sp w))
 (du:∀(w:World)(H:Hp)(a:Addr)(ns:zS),ns.length<=n->Only H->SqL (K w.params) H a (ns.map V.int)->sp w [.ref a] H (λv _=>v=.bl true) λ_ _ _=>False)
 (i8:∀(w:World)(H:Hp)(s:Shared)(e:Value)(s':Shared),CX w [] H s (λ_ _ _=>False) e s'->False) :
  PySem.W.WalkO q loose XP YP l.row.toRowW d [] (λf vs=>PySem.call f vs):=by
 refine Att.Bc hn iS λw s₀ s₁ mg mb fa o pm cd bi a vs ns G Y ho hd bp gg e9 di aI hg=>?_;have KX:=hY w _ Y;obtain⟨fd,hb,hF⟩:=F w mg fa _ KX G.T.g gg;exact Vj KX G.T.g G.T.b G.T.builtins G.T.nolimit hg e9 di (aK aI hZ) hr hF hb (λH hO hS=>du w H a ns aI hO hS) λH e s'=>i8 w H s₁ e s'
end L2

namespace L2
open PySem PySem.Spec PyProof.Rows
abbrev cp:p_:=λ_ _ _ _ _ _=>False
abbrev E0:XK:=λ_ _ _=>False
def Ie{X:Cx} : Passes cp X E0:=λ_ _ _ _ _ _ _ h=>h.elim
structure Fun(K:Frag)(x qual:Str)(st:Stmt)(f:Addr)(fd:FuncData):Prop where
 ex:∃(oc:Value)(od:Ω)(kV bi pm:Value)(an:Ω)(af ct:Value)(de:Array (Ψ)),
  fd=PySem.W.fnOf x qual (gK st) (dJ st) (bF st) .none kV bi pm an af ct/\K.lookup f=some ⟨oc,od,.func fd,de⟩/\codeIn K af qual
 kp:keepIn K (.ref f)
variable{P:Program}{w:World}{K:Frag}{mg:Str->Ψ}{base:Heap}{x qual:Str}{st:Stmt}{f:Addr}{fd:FuncData}{ps:Θ}{sp:Sp}{oc pm:Value}{de:Array (Ψ)}{A:Around}
def Fun.ok{N:Θ}{k:Nat}(F:Fun K x qual st f fd)(S:bK N ps (bF st))(len:∀vs H Q E,sp vs H Q E->vs.length=ps.length)
 (br:∀(af:Value)(A:Around)(outer:zI)(s:Shared)(H:Hp)(vs:Β)(Q:VK)(E:XK),dU k (A.deeper (envOfC qual (bF st) s.zs f af))->sp vs H Q E ->
   ∃t,PSs (G7 cp P w K mg base N qual (bF st) f af A outer s H E).nox (dJ st) t/\t { nx:=λ_ H'=>Q .non H',rt:=Q } (start N vs) H):bV P w K mg base cp (k+1) f fd ps sp:=by
 obtain⟨oc,od,kV,bi,pm,an,af,ct,de,rfl,lk,bp⟩:=F.ex;refine HP lk bp S len λA outer s H vs Q E hr du=>?_;obtain⟨t,h,q⟩:=br af A outer s H vs Q E hr du;exact⟨t,h.nox,q⟩
def Ov{od an:Ω}{kV bi af ct:Value}(l:K.lookup f=some ⟨oc,od,.func (PySem.W.fnOf x qual (gK st) (dJ st) (bF st) .none kV bi pm an af ct),de⟩)
 (c:codeIn K af qual)(k:keepIn K (.ref f)):Fun K x qual st f (PySem.W.fnOf x qual (gK st) (dJ st) (bF st) .none kV bi pm an af ct):=⟨⟨oc,od,kV,bi,pm,an,af,ct,de,rfl,l,c⟩,k⟩
def vV{k:Nat}(hr:dU k A):A.units+1<cLine:=Y3 (Nat.add_le_add_left (by decide:1<=64) _) hr.units
def u5(sc:Scope)(x:Str):Bool:=(sc.names.lookup x).any λk=>k == .local || k == .cell || k == .free
def SW{sc:Scope}(h:u5 sc x):vT sc x:=by
 unfold u5 at h;unfold vT;cases e:sc.names.lookup x with
 |none=>rw[e]at h;cases h
 |some k=>rw[e]at h;cases k<;>first|exact .inl rfl|exact .inr (.inl rfl)|exact .inr (.inr rfl)|cases h
variable{X:Cx}{pos:Pos}{H H':Hp}{a b:Addr}{xs:Β}{prog:Program}{E:Ξ}{s:Shared}{bX es:zh}{t:String}{e:Expr}{h:Heap}{scope:Scope}{aa:Γ}{σ:L2.St}{ta:TA}{g:TG}{tb:TS}{D:Ends}
abbrev n_X(X:Cx)(i:Nat)(x:Str):Prop:=X.N[i]?=some x/\u5 X.env.scope x/\qk x/\qf x
def pv(i:Nat)(hN:n_X X i x:=by exact⟨rfl,rfl,xa,xa⟩):PE X (.Name x pos) (yn i):=TN hN.1 (SW hN.2.1) hN.2.2.1 hN.2.2.2
def Nl{A B:Prop}(h:B):if false=true then A else B:=by
 rwa[ZZ bf]
def NA{A B:Prop}(h:A):if true=true then A else B:=by
 rwa[ZY rfl]
def z0(H H':Hp):Prop:=∀b o,H b=some o->H' b=some o
def z0.refl(H:Hp):z0 H H:=λ_ _ h=>h
def z0.trans{H1 H2:Hp}(a:z0 H H1)(b:z0 H1 H2):z0 H H2:=λc o h=>b c o (a c o h)
def z0.free(e:z0 H H'){l:Addr}(h:H' l=Option.none):H l=Option.none:=by
 cases q:H l with
 |none=>rfl
 |some o =>
  rw[e l o q]at h;cases h
def z0.seq(e:z0 H H')(h:SqL K H a xs):SqL K H' a xs:=by
 rcases h with(h|⟨o,h⟩)|h
 .exact .inl (.inl (e _ _ h))
 .exact .inl (.inr ⟨o,e _ _ h⟩)
 .exact .inr h
def Bd(i:Int):Prop:=i.natAbs<2^8000
def Bd.log2{i:Int}(h:Bd i):i.natAbs.log2<8000:=by
 by_cases h0:i.natAbs=0
 .rw[h0,Nat.log2_zero];exact Nat.succ_pos _
 .exact(Nat.log2_lt h0).mpr h
def Bd.bits{i:Int}(h:Bd i):Builtin.Int.intBits i<=2^20:=by
 have e:(2:Nat)^20=1048576:=by decide
 have:=h.log2;unfold Builtin.Int.intBits;split
 .exact aY _
 .lia
def Zx:OpR X (binaryOp .Mult) (rI (λi j=>Bd i/\Bd j) λi j=>.int (i*j)):=uS λ_ _ _ _ _ _ _ hc q=>mul_int q (.of_bits hc.1.bits hc.2.bits)
def XF:OpR X (binaryOp .FloorDiv) (rI (λ_ j=>j≠0/\Bd j) λi j=>.int (i.fdiv j)):=uS λ_ _ _ _ _ _ _ hc q=>floordiv_int hc.1 q (.inl (PyProof.noPylong_of_log2 (by have:=hc.2.log2;exact UU this xa)))
def M_:jf X (.builtin "isinstance") (λxs H Q=>∃x c cv t b,xs=[x,c]/\((∃T,c=.ty T/\cv=Value.type T)\/∃C,c=.ref C/\cv=Value.ref C)/\z9 X.K H x t/\kitOne X.K t cv=some b/\Q (.bl b) H):=by
 intro aa s σ H xs us Q I r h;obtain⟨x,c,cv,t,b,rfl,rc,ty,e,q⟩:=h;obtain⟨u,v,rfl,ru,rv⟩:=r.two;have e2:v=cv:=by
  rcases rc with⟨T,rfl,rfl⟩|⟨T,rfl,rfl⟩
  .exact rv
  .exact rv
 subst e2;exact Tz I ru ty e λtk=>⟨.bl b,H,I.tok _,rfl,q⟩
def Lx:jf X (.builtin "sorted") (λxs H Q=>∃l ns,xs=[.ref l]/\SqL X.K H l (ns.map V.int)/\ns.length<64/\∀(ms:zS)p,H p=none->ms.Perm ns->ms.Pairwise (· <= ·)->Q (.ref p) (upd H p (.lst (ms.map V.int)))):=by
 intro aa s σ H xs us Q I r h;obtain⟨l,ns,rfl,hl,h64,q⟩:=h;obtain⟨u,rfl,ru⟩:=r.one;cases ru;obtain⟨its,rv,p,hz⟩:=I.list hl;have hI:=intsAre_of rv;have aI:its.length=ns.length:=by have:=rv.length;simpa using this.symm
 refine sorted_ints (vs:=its) p.isList hI (Y3 (WS aI) h64) λout ns' a1 a2 a3=>?_;obtain⟨e,he⟩:=sortedAll_at s.heap its out;have h8:H (s.zs+1)=none:=I.hok.fresh (Xs _);refine⟨.ref _,_,I.laid (a:=s.zs+1) (o:=.lst (ns'.map V.int)) (t':=s.toks) (λb u e=>sortedAll_old e) (Xs _) ?_,rfl,q ns' _ h8 a2 a3⟩;refine⟨?_,out.toList,e,vo a1,he⟩;rw[ak,a2.length_eq];rw[ak]at hz;exact hz
theorem Hr{it t:Addr}{items:xo}(g4:t≠it):∀(n i:Nat)(s:Shared)(Q:Δ->Shared->Prop),s.heap.IsListIter it t i->PlainL s.heap t items->i+n<=items.size ->
  (∀h',h'.IsListIter it t (i+n)->Heap.SameBut it s.heap h'->Q ((items.toList.drop i).take n) { s with heap:=h' })->wpAny (model prog w) A (draw (.ref it) n) Q E s
 |0,i,s,Q,hit,_,_,hQ=>by
  show wpAny _ _ (pure []) Q E s;exact ZT (by simpa using hQ s.heap hit (Heap.SameBut.refl ..))
 |n+1,i,s,Q,hit,ht,hle,hQ=>by
  have dc:i<items.size:=by lia
  show wpAny _ _ (pyNext (.ref it) >>= _) Q E s;refine ZU (wpAny_pyNext_list_item hit ht.isList (x:=items[i]) (by simp[dc]) λh₁ g7 ir=>?_);have kS:PlainL h₁ t items:=by
   obtain⟨o,k,e,r⟩:=ht;exact⟨o,k,(ir.2 t g4).trans e,r⟩
  refine ZU (wpAny_holding (Hr g4 n (i+1) _ _ g7 kS xB λh₂ lh hs₂=>ZT ?_));have hd:items.toList.drop i=items[i]::items.toList.drop (i+1):=by simp[JU,dc]
  have:=hQ h₂ (by rwa[show i+(n+1)=i+1+n by lia]) (ir.trans hs₂);rw[hd,List.take_succ_cons]at this;exact this
def Ag{t:Addr}{items:xo}{Q:Δ->Shared->Prop}(hh:A.handled=none)(ht:PlainL s.heap t items)
 (hQ:∀h',Heap.ExtBut s.zs s.heap h'->Q items.toList { s with heap:=h' }):wpAny (model prog w) A (unpackItems (.ref t) items.size none) Q E s:=by
 have dc:t≠s.zs:=by obtain⟨o,_,ho,_⟩:=ht;exact aP (aJ ho)
 unfold unpackItems;refine ZU ?_
 .unfold notIterableAtAll;refine ZU (wpAny_specialOf ht.isList.typeIs slot_list_iter.lookup ?_);refine ZT ?_;simp only[XW,if_false];refine ZU (wpAny_holding (wpAny_pyIter_list ht.isList ?_));have ht0:PlainL (s.heap.push { cls:=.type "list_iterator",data:=.fields #[.ref t,.int 0 0] }) t items:=by
   obtain⟨o,k,e,r⟩:=ht;exact⟨o,k,aG _ e,r⟩
  refine ZU (wpAny_holding (Hr dc items.size 0 _ _ ⟨_,aV _ rfl,rfl,rfl⟩ ht0 xB λh₁ g7 ir=>?_));have hG:List.take items.size (List.drop 0 items.toList)=items.toList:=by
   rw[drop_zero];exact QY xF
  rw[hG];rw[ZZ xF];have kS:PlainL h₁ t items:=by
   obtain⟨o,k,e,r⟩:=ht0;exact⟨o,k,(ir.2 t dc).trans e,r⟩
  refine ZU (wpAny_holding (wpAny_pyNext_list_end hh g7 kS.isList xF λh₂ he₂=>?_));simp only[Option.isSome_none,XW,if_false];refine ZT (hQ h₂ λb o hb e=>he₂ b o hb (ir.extBut b o hb (aG _ e)))
def zM{env:Env}{x1}{t:Addr}{items:xo}{Q:Unit->Shared->Prop}(hh:A.handled=none)(ht:PlainL s.heap t items)
 (hn:(assignEach bX env).length=items.size)(iA:(assignEach bX env).findIdx? (·.1)=none)
 (h:∀h',Heap.ExtBut s.zs s.heap h'->wpAny (model prog w) A (assignInOrder ((assignEach bX env).map (·.2)) items.toList) Q E { s with heap:=h' }) :
  wpAny (model prog w) A (assign (.Tuple bX x1 pos) env (.ref t)) Q E s:=by
 rw[assign_Tuple];refine ZU (wpAny_standAt ?_);unfold unpack;rw[hn,iA];exact ZU (wpAny_holding (Ag hh ht h))
def OY(K:Frag)(n:Nat)(t:sq):TG:=λv σ H Q=>∃a xs,v=.ref a/\SqL K H a xs/\xs.length=n/\t xs σ H Q
def Zf{k:Nat}{t:sq}{n:Nat}(hc:X.calm)(h:PGs X es t)
 (hn:(assignEach es X.env).length=n:=by rfl)(ce:zw X es:=by rfl):PG X (.Tuple es k pos) (OY X.K n t):=by
 intro aa s σ H v u Q I r hw;obtain⟨a,xs,e1,hq,hl,hw⟩:=hw;subst e1;cases r;obtain⟨its,rv,ht,hz⟩:=I.list hq;refine zM (I.ok.hd hc) ht (by simp[hn,<- hl,rv.length]) ce λh' hx=>?_;have I1:Inv X aa σ H { s with heap:=h' }:=I.kept (t':=s.toks) λb o e=>hx b o (aP (aJ e)) e;exact h aa _ σ H xs _ Q I1 (by simpa using rv) hw
def z0.upd{H:Hp}{p:Addr}{o:HO}(hp:H p=none):z0 H (upd H p o):=λb u e=>by
 rw[bZ (jm e hp)];exact e
def IxR.imp{r r':R2}(h:IxR X r)(i:∀x y H Q,r' x y H Q->r x y H Q):IxR X r':=by
 intro b pos aa s σ H x y v u Q I rx ry q hs;exact h _ _ _ _ _ _ _ _ _ _ _ I rx ry (i _ _ _ _ q) hs
def jf.imp{f:Value}{r r':Β->Hp->VK->Prop}(h:jf X f r)(i:∀xs H Q,r' xs H Q->r xs H Q):jf X f r':=λaa s σ H xs us Q I rx q=>h aa s σ H xs us Q I rx (i _ _ _ q)
def N1:Β->Hp->VK->Prop:=λxs H Q=>∃p ys,xs=[.ref p]/\H p=some (.lst ys)/\Q (.int ys.length) H
def Uh:jf X (.builtin "len") N1:=yx.imp λxs H Q hP=>by obtain⟨p,ys,a,b,c⟩:=hP;exact⟨p,ys,a,.inl (.of b),c⟩
def wf(H:Hp):V->Option String
 |.non=>some "NoneType"
 |.bl _=>some "bool"
 |.int _=>some "int"
 |.str _=>some "str"
 |.ref a=>match H a with
  |some (.lst _)=>some "list"
  |some (.tup _)=>some "tuple"
  |some (.dK _)=>some "dict"
  |_=>none
 |_=>none
def WA{x:V}(h:wf H x=some t):z9 K H x (.type t):=by
 cases x with
 |non=>cases h;exact .non
 |bl=>cases h;exact .bl _
 |int=>cases h;exact .int _
 |str=>cases h;exact .str _
 |byt=>cases h
 |flt=>cases h
 |ty=>cases h
 |ref a =>
  have h:(match H a with
   |some (.lst _)=>some "list"
   |some (.tup _)=>some "tuple"
   |some (.dK _)=>some "dict"
   |_=>none)=some t:=h
  split at h
  .cases h;exact .lst (by assumption)
  .cases h;exact .tup (by assumption)
  .cases h;exact .dK (by assumption)
  .cases h
def Jo(t T:String):Bool:=(t==T) || (t=="bool" && T=="int")
def Rx{T:String}(ht:t∈["NoneType","bool","int","str","list","tuple","dict"])(hT:T∈["bool","int","str","list","tuple","dict"]):kitOne K (.type t) (.type T)=some (Jo t T):=by
 simp only[YU,VS,or_false]at ht hT;rcases ht with rfl|rfl|rfl|rfl|rfl|rfl|rfl<;>rcases hT with rfl|rfl|rfl|rfl|rfl|rfl<;>with_unfolding_all rfl
def UN{x:V}(h:wf H x=some t):t∈["NoneType","bool","int","str","list","tuple","dict"]:=by
 cases x with
 |non=>cases h;decide
 |bl=>cases h;decide
 |int=>cases h;decide
 |str=>cases h;decide
 |byt=>cases h
 |flt=>cases h
 |ty=>cases h
 |ref a =>
  have h:(match H a with
   |some (.lst _)=>some "list"
   |some (.tup _)=>some "tuple"
   |some (.dK _)=>some "dict"
   |_=>none)=some t:=h
  split at h<;>cases h<;>decide
def Mm:Β->Hp->VK->Prop:=λxs H Q=>∃x T t,xs=[x,.ty T]/\T∈["bool","int","str","list","tuple","dict"]/\wf H x=some t/\Q (.bl (Jo t T)) H
def uK:jf X (.builtin "isinstance") Mm:=M_.imp λxs H Q hP=>by obtain⟨x,T,t,a,b,c,d⟩:=hP;exact⟨x,.ty T,.type T,.type t,_,a,.inl ⟨T,rfl,rfl⟩,WA c,Rx (UN c) b,d⟩
def PG.imp{t t':TG}(h:PG X e t)(i:∀v σ H Q,t' v σ H Q->t v σ H Q):PG X e t':=λaa s σ H v u Q I r q=>h aa s σ H v u Q I r (i _ _ _ _ q)
def PV:Β->Hp->VK->Prop:=λxs H Q=>∃l ns,xs=[.ref l]/\H l=some (.lst (ns.map V.int))/\ns.length<64/\∀(ms:zS)p,H p=none->ms.Perm ns->ms.Pairwise (· <= ·)->Q (.ref p) (upd H p (.lst (ms.map V.int)))
def TQ:jf X (.builtin "sorted") PV:=Lx.imp λxs H Q hP=>by obtain⟨l,ns,a,b,c⟩:=hP;exact⟨l,ns,a,.of b,c⟩
def p9(P:Program)(w:World)(K:Frag)(mg:Str->Ψ)(base:Heap)(k:Nat)(x:Str)(ps:Θ)(sp:Sp):Prop :=
 ∃f fd,bV P w K mg base cp k f fd ps sp/\Binds K fd ps []/\mg x=some (.ref f)/\keepIn K (.ref f)
def dG(K:Frag)(mg:Str->Ψ)(x:Str)(st:Stmt)(ps:Θ):Prop :=
 ∃f fd,Fun K x x st f fd/\(∀us:Δ,us.length=ps.length->bindArgs fd ⟨us,[]⟩=pure (ps.zip us))/\mg x=some (.ref f)
def dG.ok{k:Nat}(h:dG K mg x st ps)
 (hf:∀f fd,Fun K x x st f fd->bV P w K mg base cp k f fd ps sp):p9 P w K mg base k x ps sp:=by
 obtain⟨f,fd,a,b,c⟩:=h;exact⟨f,fd,hf f fd a,.all b,c,a.kp⟩
def Zn{od an:Ω}{kV bi af ct:Value}(X:K.In h)(G:h.Ns mainGlobals mg)
 (a:nsIn K mainGlobals x=some (some (.ref f)))(l:K.lookup f=some ⟨oc,od,.func (PySem.W.fnOf x x (gK st) (dJ st) (bF st) .none kV bi pm an af ct),de⟩)
 (c:codeIn K af x)(k:keepIn K (.ref f))
 (hb:∀(kV bi pm:Value)(an:Ω)(af ct:Value)(us:Δ),us.length=ps.length->bindArgs (PySem.W.fnOf x x (gK st) (dJ st) (bF st) .none kV bi pm an af ct) ⟨us,[]⟩=pure (ps.zip us)):dG K mg x st ps :=
 ⟨f,_,Ov l c k,hb kV bi pm an af ct,mg_of X G a⟩
section
variable{X:Cx}{p pos:Pos}{e:Expr}{es:zh}{t:TA}{x:Str}{k:Nat}{ps:Θ}{sp:Sp}
def Qt(sp:Sp)(t:TA):TE:=λσ H Q=>t σ H λvs H1=>sp vs H1 Q E0
def uP(G:p9 X.prog X.w X.K X.mg X.base k x ps sp)(hr:dU k X.A)(hg:Gl X x)(ha:PA X (e::es) t)(ci:qk x:=by decide)
 (he:qo X e es:=by rfl)(be:qh X pos es:=by rfl):PE X (.Call (.Name x p) (e::es) [] pos) (Qt sp t):=by
 obtain⟨f,fd,F,b,hm,kp⟩:=G;intro aa s σ H Q I h;refine ZG F hr hg hm kp b .nil Ie ha ci he be aa s σ H Q I ?_;show t σ H λvs H1=>sp (vs++[]) H1 Q E0;simp only[append_nil];exact h
end
def YN(a:Int):(if a<0 then -a else a)=((a.natAbs:Nat):Int):=by split<;>omega
def ZN(h base:Heap)(e:Addr)(cls:Value)(d:Ω)(fl:Value):Prop :=
 ∃oe vs T oT ts,h.get? e=some oe/\(oe.cls=cls/\oe.dict=d)/\oe.data=.fields vs/\vs[1]?=some (.ref T)/\base.get? T=none/\T≠e/\h.get? T=some oT/\oT.data=.fields ts/\ts[3]?=some fl
def LI(base:Heap)(l:zI)(e:Addr)(cls:Value)(d:Ω)(fl:Value)(h:Heap):Prop :=
 base.StaysIn h/\base.get? e=none/\h.FunFrames base l/\ZN h base e cls d fl
structure _b(P:Program)(w:World)(l:zI)(H:Hp)(s:Shared)(a:Addr)(C:Value)(H':Hp)(s':Shared)(B:Heap)(d:Ω):Prop where
 os:s'.os=s.os
 bare:AllBare s'.gens
 new:s.heap.get? a=none
 un:Un (og l) [] H H' s.heap s'.heap
 hok:HOk P w H' s'.heap
 frf:∀b∈og l,H' b=none
 fl:LI B l a C d .none s'.heap
 cov:∀b o,s'.heap.get? b=some o->b∉og l->((∃u,s.heap.get? b=some u)\/∃u,H' b=some u)->B.get? b=some o
abbrev K0:Δ:=[.type "ValueError",.type "Exception",.type "BaseException",.type "object"]
def aiH(K:Frag)(C:Addr):Prop:=excIn K C K0 "ValueError.__new__"=true
def XO(a C:Addr)(d:Ω):HO:=.ext λh=>∃o,h.get? a=some o/\o.cls=.ref C/\o.dict=d/\∃vs,o.data=.fields vs
def uF(cells:ze):xl->ze->ze
 |[],acc=>acc
 |(n,k)::r,acc=>uF cells r (if k == .free then(n,(cells.lookup n).getD 0)::acc else acc)
def PK{env:Env}(h:∀y∈scope.names,y.2=.free->∃c,env.cells.lookup y.1=some c):closureFor scope env=pure (uF env.cells scope.names []):=by
 unfold closureFor;have go:∀(l:xl)(acc:ze),(∀y∈l,y.2=.free->∃c,env.cells.lookup y.1=some c) ->
   (forIn l acc (λ(x:Str×NameKind)(r:ze)=>if(x.2==NameKind.free)=true then(do let a <- cellOf env x.1;pure (ForInStep.yield ((x.1,a)::r)))else pure (ForInStep.yield r)):Sem (ze))=pure (uF env.cells l acc):=by
  intro l
  induction l with
  |nil=>intro acc _;rfl
  |cons y r ih =>
   intro acc hy;obtain⟨n,k⟩:=y;rw[List.forIn_cons];by_cases hk:k=.free
   .subst hk;obtain⟨c,hc⟩:=hy (n,.free) aN rfl;have e1:cellOf env n=pure c:=by unfold cellOf;rw[show env.cells.lookup n=some c from hc]
    simp only[beq_self_eq_true,if_true,e1,pure_bind];rw[ih _ λz hz=>hy z (aH _ hz)];show pure _=pure (uF env.cells r (if(NameKind.free==NameKind.free)=true then(n,(env.cells.lookup n).getD 0)::acc else acc));rw[show env.cells.lookup n=some c from hc]
    rfl
   .have hb:(k==NameKind.free)=false:=by simpa using hk
    simp only[hb,XW,if_false,pure_bind];rw[ih _ λz hz=>hy z (aH _ hz)];show pure _=pure (uF env.cells r (if(k==NameKind.free)=true then(n,(env.cells.lookup n).getD 0)::acc else acc));rw[hb]
    rfl
 have e:=go scope.names [] h;show(forIn scope.names [] (λ(x:Str×NameKind)(r:ze)=>if(x.2==NameKind.free)=true then(do let a <- cellOf env x.1;pure (ForInStep.yield ((x.1,a)::r)))else pure (ForInStep.yield r)):Sem (ze)) >>= (λcs=>pure cs)=_;rw[e]
 rfl
theorem Ma{cells:ze} : ∀{names:xl}{acc:ze}{x:Str}{c:Addr},(∀y∈names,y.2=.free->∃c,cells.lookup y.1=some c)->(x,c)∈uF cells names acc->(x,c)∈acc\/cells.lookup x=some c
 |[],_,_,_,_,h=>.inl h
 |(n,k)::r,acc,x,c,hf,h=>by
  unfold uF at h;rcases Ma (λy hy=>hf y (aH _ hy)) h with z|z
  .by_cases hk:k=.free
   .subst hk;simp only[beq_self_eq_true,if_true]at z;rcases YU.mp z with e|e
    .obtain⟨c',fN⟩:=hf (n,.free) aN rfl;cases e;rw[show cells.lookup n=some c' from fN];exact .inr rfl
    .exact .inl e
   .have hb:(k==NameKind.free)=false:=by simpa using hk
    simp only[hb,XW,if_false]at z;exact .inl z
  .exact .inr z
theorem M8{cells:ze} : ∀{names:xl}{acc:ze}{x:Str},((x,NameKind.free)∈names\/∃c,(x,c)∈acc)->∃c,(x,c)∈uF cells names acc
 |[],_,_,h=>by
  rcases h with h|h
  .cases h
  .exact h
 |(n,k)::r,acc,x,h=>by
  unfold uF;refine M8 ?_;rcases h with h|⟨c,h⟩
  .rcases YU.mp h with e|e
   .cases e;exact .inr ⟨_,by simp only[beq_self_eq_true,if_true];exact aN⟩
   .exact .inl e
  .refine .inr ⟨c,?_⟩;split
   .exact aH _ h
   .exact h
theorem o_{α:Type}{x:Str}{c:α} : ∀{l:List (Str×α)},(x,c)∈l->∃c',l.lookup x=some c'
 |(y,d)::r,h=>by
  rw[lookup_cons];cases hb:x==y with
  |true=>exact⟨d,rfl⟩
  |false =>
   rcases YU.mp h with e|e
   .cases e;simp at hb
   .exact o_ e
def Inv.nostk'(I:Inv X aa σ H s)(h1:b≠X.env.locals)(h2:b∉X.fs):b∉og X.stack:=λz=>by
 rcases YU.mp (I.stkSub b z)with e|e
 .exact h1 e
 .exact h2 e
theorem yj{env:Env} : ∀{names:xl}{y:Str},(names.map λ(n,k)=>if(k==NameKind.free&&env.scope.kind == .function&&env.kindOf n==some .cell)then(n,NameKind.cell)else(n,k)).lookup y=some .cell \/
  (names.map λ(n,k)=>if(k==NameKind.free&&env.scope.kind == .function&&env.kindOf n==some .cell)then(n,NameKind.cell)else(n,k)).lookup y=some .free->(∀z∈names,z.2≠.cell)->(y,NameKind.free)∈names
 |[],y,h,_=>by rcases h with h|h<;>cases h
 |(n,k)::r,y,h,hc=>by
  have ih:=@yj env r y;simp only[map_cons]at h;by_cases hcond:(k==NameKind.free&&env.scope.kind == .function&&env.kindOf n==some .cell)
  .rw[ZY hcond]at h;simp only[lookup_cons]at h;cases hb:y==n with
   |true =>
    have hk:k=.free:=by
     simp only[and_eq_true,beq_iff_eq]at hcond;exact hcond.1.1
    have:y=n:=by simpa using hb
    subst this hk;exact aN
   |false =>
    rw[hb]at h;exact aH _ (ih h λz hz=>hc z (aH _ hz))
  .rw[ZZ hcond]at h;simp only[lookup_cons]at h;cases hb:y==n with
   |true =>
    rw[hb]at h;have:y=n:=by simpa using hb
    subst this;rcases h with h|h
    .exact absurd (Option.some.inj h) (hc (y,k) aN)
    .have:k=.free:=Option.some.inj h;subst this;exact aN
   |false =>
    rw[hb]at h;exact aH _ (ih h λz hz=>hc z (aH _ hz))
def u7:Β->Β->Bool
 |[],[]=>true
 |x::xs,y::ys=>KW x y&&u7 xs ys
 |_,_=>false
def Inv.tupIs(I:Inv X aa σ H s)(h:H a=some (.tup xs)):∃its,z5 xs its/\IsTup s.heap a its.toArray/\s.heap.IsTuple a its.toArray:=by
 obtain⟨its,rv,ht,_⟩:=I.tuple (SqT.of h);exact⟨its,rv,ht,ht⟩
def Inv.lstIs(I:Inv X aa σ H s)(h:H a=some (.lst xs)):∃its,z5 xs its/\s.heap.IsList a its.toArray:=by
 obtain⟨its,rv,ht,_⟩:=I.list (SqL.of h);exact⟨its,rv,ht.isList⟩
open PySem.SeqAt in
mutual
inductive Shows(H:Hp):V->PyData->Prop
 |non:Shows H .non .none
 |bl (b:Bool):Shows H (.bl b) (.bool b)
 |int (i:Int):Shows H (.int i) (.int i)
 |str (x:Str):Shows H (.str x) (.str x)
 |lst {a:Addr}{xs:Β}{ds:xj} : H a=some (.lst xs)->fB H xs ds->Shows H (.ref a) (.list ds)
 |tup {a:Addr}{xs:Β}{ds:xj} : H a=some (.tup xs)->fB H xs ds->Shows H (.ref a) (.tuple ds)
inductive fB(H:Hp):Β->xj->Prop
 |nil:fB H [] []
 |cons {x:V}{xs:Β}{d:PyData}{ds:xj} : Shows H x d->fB H xs ds->fB H (x::xs) (d::ds)
end
mutual
theorem Shows.same{H H':Hp}(S:z0 H H'):∀{x:V}{d:PyData},Shows H x d->Shows H' x d
 |_,_,.non=>.non
 |_,_,.bl b=>.bl b
 |_,_,.int i=>.int i
 |_,_,.str x=>.str x
 |_,_,.lst e h=>.lst (S _ _ e) (fB.same S h)
 |_,_,.tup e h=>.tup (S _ _ e) (fB.same S h)
theorem fB.same{H H':Hp}(S:z0 H H'):∀{xs:Β}{ds:xj},fB H xs ds->fB H' xs ds
 |_,_,.nil=>.nil
 |_,_,.cons h t=>.cons (Shows.same S h) (fB.same S t)
end
theorem fB.ints(H:Hp):∀ns:zS,fB H (ns.map V.int) (ns.map PyData.int)
 |[]=>.nil
 |n::ns=>.cons (.int n) (fB.ints H ns)
mutual
theorem Inv.reads(I:Inv X aa σ H s):∀{x:V}{d:PyData}{v:Value},Shows H x d->z4 x v->∃as,Reads s.heap v d as
 |_,_,_,.non,r=>by cases r;exact⟨_,.none⟩
 |_,_,_,.bl b,r=>by cases r;exact⟨_,.bool b⟩
 |_,_,_,.int i,r=>by obtain⟨t,rfl⟩:=r;exact⟨_,.int i t⟩
 |_,_,_,.str x,r=>by obtain⟨t,rfl⟩:=r;exact⟨_,.str x t⟩
 |_,_,_,.lst e h,r=>by
  cases r;obtain⟨its,rv,⟨o,ho,hc,n,hd⟩⟩:=I.lstIs e;obtain⟨as,q⟩:=Inv.readsAll I h rv;exact⟨_,.list ho hc hd q⟩
 |_,_,_,.tup e h,r=>by
  cases r;obtain⟨its,rv,_,⟨o,ho,hc,n,hd⟩⟩:=I.tupIs e;obtain⟨as,q⟩:=Inv.readsAll I h rv;exact⟨_,.tuple ho hc hd q⟩
theorem Inv.readsAll(I:Inv X aa σ H s):∀{xs:Β}{ds:xj}{vs:Δ},fB H xs ds->z5 xs vs->∃as,ReadsAll s.heap vs ds as
 |_,_,_,.nil,r=>by cases r;exact⟨_,.nil⟩
 |_,_,_,.cons h t,r=>by
  cases r with
  |cons r1 r2 =>
   obtain⟨a,q1⟩:=Inv.reads I h r1;obtain⟨b,q2⟩:=Inv.readsAll I t r2;exact⟨_,.cons q1 q2⟩
end
def OF:Β->Hp->VK->Prop:=λxs H Q=>∃(l:Addr)(ns:zS),xs=[.ref l]/\H l=some (.lst (ns.map V.int))/\Q (.int ns.sum) H
def Ub(hc:X.calm):jf X (.builtin "sum") OF:=by
 intro aa s σ H xs us Q I r h;obtain⟨l,ns,rfl,hl,q⟩:=h;obtain⟨u,rfl,ru⟩:=r.one;cases ru;obtain⟨its,rv,p⟩:=I.lstIs hl;have hI:=intsAre_of rv;obtain⟨xs,e⟩:=hI.allInts.items;have hn:=hI.numsOf;rw[show its=its.toArray.toList from rfl,e,nums_intItems]at hn;rw[e]at p;refine sum_intListG (I.ok.hd hc) p λh' tk t' k=>⟨.int ns.sum,H,I.kept k,?_,q⟩;rw[preSum_eq,QY xF,hn];exact⟨_,rfl⟩
def Tw(h:ta σ H λvs H1=>∃n:Nat,vs=[.int n]/\n<2^61/\∃J:Nat->L2.St->Hp->Prop,J 0 σ H1 /\
   (∀(k:Nat)σ' H',k<n->J k σ' H'->g (.int k) σ' H' λσ2 H2=>tb { D with nx:=J (k+1),ct:=J (k+1),bk:=D.nx } σ2 H2)/\∀σ' H',J n σ' H'->D.nx σ' H')
 (hm:∀(P Q:Β->Hp->Prop),(∀x H',P x H'->Q x H')->ta σ H P->ta σ H Q):ya (Xz ta) g tb D σ H:=by
 refine hm _ _ ?_ h;rintro x H1 ⟨n,rfl,hn,J,j0,step,bg⟩;refine⟨n,rfl,by lia,by lia,?_⟩;rw[UT];refine⟨λk m σ' H'=>k<=n/\m=n-k/\J k σ' H',⟨_,aY _,rfl,j0⟩,?_⟩;rintro k m σ' H' ⟨hk,rfl,j⟩;by_cases e:k=n
 .subst e;exact .inl ⟨aF _,bg σ' H' j⟩
 .have dc:k<n:=by exact XX hk e
  refine .inr ⟨dc,J (k+1),λσ3 H3 z=>⟨n-(k+1),by omega,by exact dc,rfl,z⟩,?_⟩;rintro x d3 ⟨rfl,rfl⟩;rw[Int.zero_add];exact step k σ' d3 dc j
def tM(t:TE):TE:=λσ H Q=>∃R:VK,t σ H R/\∀x H',R x H'->Q x H'
def wp(t:TA):TA:=λσ H Q=>∃R:Β->Hp->Prop,t σ H R/\∀x H',R x H'->Q x H'
def PE.mono{a:Expr}{t:TE}(h:PE X a t):PE X a (tM t):=λaa s σ H Q I ⟨R,h1,h2⟩ =>
 e_ (h aa s σ H R I h1) λv s' hP=>by obtain⟨x,H',I',r,q⟩:=hP;exact⟨x,H',I',r,h2 x H' q⟩
variable{t:TA}{ai ah:Pos}{tg bv iter:Expr}{v y:V}{tc:TT}{wi:TI}{te:TE}{ext:Addr->ze}{fn:Str->Bool}{a9:zh}{gt:TG}{o:xp}{u:Value}{kvs:xy}
def PA.mono(h:PA X es t):PA X es (wp t):=λpos aa s σ H Q I ⟨R,h1,h2⟩ =>
 e_ (h pos aa s σ H R I h1) λv s' hP=>by obtain⟨x,H',I',r,q⟩:=hP;exact⟨x,H',I',r,h2 x H' q⟩
def PE.imp{a:Expr}{t t':TE}(h:PE X a t)(i:∀σ H Q,t' σ H Q->t σ H Q):PE X a t':=λaa s σ H Q I q=>h aa s σ H Q I (i σ H Q q)
def SX(h:ta σ H λvs H1=>∃n:Nat,vs=[.int n]/\n<2^61/\∃J:Nat->L2.St->Hp->Prop,J 0 σ H1 /\
   (∀(k:Nat)σ' H',k<n->J k σ' H'->g (.int k) σ' H' λσ2 H2=>tb { D with nx:=J (k+1),ct:=J (k+1),bk:=D.nx } σ2 H2)/\∀σ' H',J n σ' H'->D.nx σ' H'):ya (Xz (wp ta)) g tb D σ H :=
 Tw (ta:=wp ta) ⟨_,h,λ_ _ q=>q⟩ λ_ _ i hP=>by obtain⟨R,a,b⟩:=hP;exact⟨R,a,λx H' q=>i x H' (b x H' q)⟩
def NG(to:TE)(t:TA):TE:=λσ H Q=>to σ H λx H1=>∃l xs,x=.ref l/\H1 l=some (.lst xs)/\t σ H1 λvs H2=>∃y ys,vs=[y]/\H2 l=some (.lst ys)/\ys.length<sizeLine/\Q .non (upd H2 l (.lst (ys++[y])))
abbrev qr(X:Cx)(a:Pos)(e:Expr):Prop:=((backTo a (starEach [e] X.env)).all (λx=>!x.1)&&(backToKw a (keywordEach [] X.env)).all (λx=>x.1.isSome)&&decide ([e].length+([] : xn).length+(if([] : xn).isEmpty then 0 else 1)<30))=true
def WW{o:Expr}{to:TE}(ho:PE X o to)(ha:PA X [e] t)(hb:attributeBase o "append" X.env (eval o X.env)=eval o X.env:=by rfl)
 (hf:qr X ah e:=by rfl)
 (hl:zk ai ah:=by rfl)(hs:qo X e []:=by rfl)(hp:qh X ah []:=by rfl) :
  PE X (.Call (.Attribute o "append" ai) [e] [] ah) (NG to t):=by
 refine(HL PySem.F.plainAttrs_list PySem.F.slot_list_append PySem.F.type_list_append Ig ho.mono ha.mono hb hf hl hs hp).imp λσ H Q h=>?_;refine⟨_,h,?_⟩;rintro x H1 ⟨l,xs,rfl,hx,h2⟩;refine⟨.inl ⟨rfl,_,SqL.of hx⟩,_,h2,?_⟩;rintro vs H2 ⟨y,ys,rfl,hy,hz,q⟩;exact⟨l,ys,y,rfl,rfl,hy,hz,q⟩
def Wl:Β->Hp->VK->Prop:=λxs H Q=>∃p ys,xs=[.ref p]/\H p=some (.lst ys)/\∀l,H l=none->Q (.ref l) (upd H l (.lst ys))
def P_:jf X (.type "list") Wl:=Li.imp λxs H Q hP=>by obtain⟨p,ys,a,b,c⟩:=hP;exact⟨p,ys,a,.inl (.of b),c⟩
mutual
theorem Pz:∀ns:zS,PyData.canLayAll0 (ns.map PyData.int)
 |[]=>rfl
 |n::ns=>by
  rw[map_cons];unfold PyData.canLayAll0;rw[Pz ns];rfl
end
inductive FL(H:Hp):Β->List (Int×Int)->Prop
 |nil:FL H [] []
 |cons {p:Addr}{f:Int×Int}{xs:Β}{fs:List (Int×Int)} : H p=some (.tup [.int f.1,.int f.2])->FL H xs fs->FL H (.ref p::xs) (f::fs)
def wa(x:Str):It:=⟨λi _=>i<x.cps.size,λi H v H'=>H'=H/\∃c,x.cps[i]?=some c/\v=.str ⟨#[c]⟩,λi _=>i=x.cps.size⟩
def MN(it:Addr)(x:Str)(t:Tok)(ty:String)(iq : ["enumerate","zip","dict_itemiterator","dict_reverseitemiterator","odict_iterator","itertools.zip_longest","itertools.pairwise"].contains ty=false)
 (W:∀A:Around,A.handled=none->Walks P w A it [it] [it] x.cps.size (SignAt x) (λi h=>h.IsStrIter it ty x t i))
 (iE:∀(A:Around)(i:Nat)(s:Shared)(Q:Ξ)(E:Ξ),s.heap.IsStrIter it ty x t i->Q (.ref it) s->wpAny (model P w) A (pyIter (.ref it)) Q E s):Turn P w K tg (wa x) [it] it (λi h=>h.IsStrIter it ty x t i) where
 mem:=by simp
 obj:=λi h st b hb=>by
  have e:b=it:=by simpa using hb
  subst e;obtain⟨o,ho,_,hd⟩:=st;exact⟨o,ho,λv z=>by rw[hd]at z;cases z⟩
 keep:=λi h h' st k=>let⟨o,ho,r⟩:=st;⟨o,k it xF o ho,r⟩
 item:=by
  intro X hP hw hK hc i aa s σ H E I hf st hg;subst hP hw hK;obtain⟨f0,f1,f2,f3,f4,f5⟩:=hf it xF;refine(W X.A (I.ok.hd hc)).item i s _ _ hg st λv h' tk hv dA kk=>?_;obtain⟨c,u,hx,rfl⟩:=hv;have I1:Inv X aa σ H { s with heap:=h',toks:=tk }:=I.turned (λb o hb e=>kk b o (by simpa using hb) e) f0 f1 f3 f4 f5;obtain⟨o,ho,eJ,hd⟩:=id dA;exact⟨_,rfl,Mi (s:={ s with heap:=h',toks:=tk }) ho eJ hd iq ⟨.str ⟨#[c]⟩,H,I1,⟨u,rfl⟩,⟨rfl,c,hx,rfl⟩,dA,λb hb=>(hf b hb).1⟩⟩
 done:=by
  intro X hP hw hK hc i aa s σ H E I hf st hg;subst hP hw hK;obtain⟨f0,f1,f2,f3,f4,f5⟩:=hf it xF;have lS:i=x.cps.size:=hg;subst lS;exact(W X.A (I.ok.hd hc)).done s _ _ st λh' tk kk=>⟨rfl,I.turned (λb o hb e=>kk b o (by simpa using hb) e) f0 f1 f3 f4 f5⟩
 self:=iE
def M3(te:TE):TI:=λσ H R=>te σ H λv H1=>∃x,v=.str x/\R (wa x) H1
def P2{l:Expr}{tl:TE}(hl:PE X l tl):PI X tg l (M3 tl):=by
 intro aa s σ H R I h;refine e_ (hl aa s σ H _ I h) λv s1 hP=>?_;obtain⟨x,H1,I1,r1,y,ey,q⟩:=hP;subst ey;obtain⟨t,rfl⟩:=r1;have fp:∀b∈[s1.zs],Cd X aa H1 b:=λb hb=>by
  have e:b=s1.zs:=by simpa using hb
  subst e;exact I1.fpOk (aF _) (I1.hok.fresh (aF _))
 have k:∀o:Obj,Inv X aa σ H1 { s1 with heap:=s1.heap.push o }:=λo=>I1.kept (t':=s1.toks) λb ob z=>aG _ z;cases ha:y.cps.all (· < 128)
 .exact wpAny_pyIter_wide ha ⟨s1.zs,[s1.zs],_,wa y,H1,rfl,k _,MN _ y t "str_iterator" xa (λA hA=>Walks.strWide hA _ y t) (λA i s Q E st h=>wpAny_pyIter_striter_wide st h),⟨_,aV _ rfl,rfl,rfl⟩,fp,q⟩
 .exact wpAny_pyIter_ascii ha ⟨s1.zs,[s1.zs],_,wa y,H1,rfl,k _,MN _ y t "str_ascii_iterator" xa (λA hA=>Walks.strAscii hA _ y t) (λA i s Q E st h=>wpAny_pyIter_striter_ascii st h),⟨_,aV _ rfl,rfl,rfl⟩,fp,q⟩
def Ce(x:Str)(lo hi:zC):Str:=⟨((x.cps.toList.drop (HT.sIx x.length 0 lo)).take (HT.sIx x.length x.length hi-HT.sIx x.length 0 lo)).toArray⟩
def strIdx(lo hi:zC)(n:Nat):Builtin.Str.strSliceIndices lo hi 1 n=(range (HT.sIx n n hi-HT.sIx n 0 lo)).map (HT.sIx n 0 lo + ·):=by
 rw[<- sliceRange_one];unfold Builtin.Str.strSliceIndices;have h1:∀(o:zC)(d:Nat),d<=n->(match o with
   |none=>(d:Int)
   |some i=>(let i:=if i<0 then i+(n:Int)else i;if(1:Int)>0 then max 0 (min i n)else max (-1) (min i (n-1))))=((HT.sIx n d o:Nat):Int):=by
  intro o d hd;cases o with
  |none=>rfl
  |some i =>
   simp only[HT.sIx,show(1:Int)>0 by decide,if_true];by_cases h:i<0
   .simp only[h,if_true]<;>lia
   .simp only[h,if_false]<;>lia
 have e1:=h1 lo 0 (aY _);have e2:=h1 hi n (aF _);simp only[show(1:Int)>0 by decide,if_true]at e1 e2 ⊢;rw[<- e1,<- e2]
 rfl
def Y4(x:Str)(lo hi:zC):(⟨((Builtin.Str.strSliceIndices lo hi 1 x.length).filterMap (x.cps[·]?)).toArray⟩ : Str)=Ce x lo hi:=by
 rw[strIdx,pick_run];rfl
def Qj(x:Str)(lo hi:zC)(h:(Builtin.Str.strSliceIndices lo hi 1 x.length).length=x.length):Ce x lo hi=x:=by
 rw[strIdx,ak,W1]at h;have h2:=HT.ac2 x.length x.length (aF _) hi;unfold Ce;have hx:x.length=x.cps.size:=rfl;have e:x.cps.toList.length=x.length:=by simp[hx]
 by_cases z:x.length=0
 .have:x.cps.toList=[]:=List.length_eq_zero_iff.mp (Eq.trans e z);rw[this];obtain⟨⟨l⟩⟩:=x;simp at this;subst this;simp
 .have e0:HT.sIx x.length 0 lo=0:=by lia
  rw[e0,drop_zero,QY xB]
def L8:V->zC->zC->Hp->VK->Prop:=λx lo hi H Q=>∃y,x=.str y/\y.length<=sizeLine/\Q (.str (Ce y lo hi)) H
def part_of{v:Value}{o:zC}(h:IsPart v o):∃l:Option (Int×Tok),v=partValue l/\l.map (·.1)=o:=by
 cases h with
 |none=>exact⟨none,rfl,rfl⟩
 |int i t=>exact⟨some (i,t),rfl,rfl⟩
def Rl{X:Cx} : SlR X L8:=by
 intro aa s σ H x v vl vu lo hi sl Q I rx hs pl pu h;obtain⟨y,rfl,hz,q⟩:=h;obtain⟨t,rfl⟩:=rx;obtain⟨l,rfl,el⟩:=part_of pl;obtain⟨u,rfl,eu⟩:=part_of pu;refine⟨"str",_,F.slot_str_getitem.lookup,typeIs_str s y t,wpAny_getItem_str_slice (l:=l) (u:=u) (st:=none) hs rfl ?_⟩;unfold sliceMade slicePicked;rw[el,eu];split
 .rename_i hw
  have j3:=(Bool.and_eq_true_iff.mp hw).2;rw[beq_iff_eq]at j3;have e:=Qj y lo hi j3;rw[e]at q;exact⟨.str y,H,I,⟨t,rfl⟩,q⟩
 .have e:=Y4 y lo hi;refine⟨?_,.str (Ce y lo hi),H,I.tok _,⟨s.toks,?_⟩,q⟩
  .refine aK ?_ hz;refine aK (WS (ZH Str.length e)) ?_;show((y.cps.toList.drop _).take _).toArray.size<=y.cps.size;rw[aW,aX,US,Array.length_toList];lia
  .rw[<- e];rfl
def OG:R2:=λx y H Q=>∃i j,x=.str i/\y=.str j/\i.length+j.length<=sizeLine/\Q (.str (i++j)) H
def YW:OpR X (binaryOp .Add) OG:=Pq
def Mo:R2:=λx y H Q=>∃i j,x=.str i/\y=.str j/\Q (.bl (!decide (j.cps.toList<i.cps.toList))) H
def TD:OpR X (compareOp .LtE) Mo:=by
 intro aa s σ H x y v u Q I rx ry h;obtain⟨i,j,rfl,rfl,q⟩:=h;obtain⟨t,rfl⟩:=rx;obtain⟨t',rfl⟩:=ry;exact PySem.P.le_str (cY I q rfl)
def OpR.imp{f:Value->Value->Sem Value}{r r':R2}(h:OpR X f r)(i:∀x y H Q,r' x y H Q->r x y H Q):OpR X f r':=λaa s σ H x y v u Q I rx ry q=>h aa s σ H x y v u Q I rx ry (i _ _ _ _ q)
theorem Af:∀{bs:xf}{us:Δ},z5 (bs.map V.bl) us->∀(i:Nat)(v:Value),us[i]?=some v->∃b,bs[i]?=some b/\v=.bool b
 |[],_,.nil,i,v,h=>by cases i<;>cases h
 |b::bs,_,.cons r t,0,v,h=>by
  rw[List.getElem?_cons_zero]at h;cases h;exact⟨b,rfl,r⟩
 |b::bs,_,.cons r t,i+1,v,h=>by
  rw[List.getElem?_cons_succ]at h;exact Af t i v h
def Pc:Β->Hp->VK->Prop:=λxs H Q=>∃(l:Addr)(bs:xf),xs=[.ref l]/\H l=some (.lst (bs.map V.bl))/\Q (.bl (bs.all id)) H
theorem sX:∀bs:xf,((range bs.length).all λi=>(bs[i]?).getD true)=bs.all id
 |[]=>rfl
 |b::bs=>by
  rw[length_cons,List.range_succ_eq_map,all_cons,all_map,all_cons];have:=sX bs;simp only[Function.comp_def,List.getElem?_cons_succ,List.getElem?_cons_zero,getD_some,id]at this ⊢;rw[this]
def Uo(hc:X.calm):jf X (.builtin "all") Pc:=by
 intro aa s σ H xs us Q I r h;obtain⟨l,bs,rfl,hl,q⟩:=h;obtain⟨u,rfl,ru⟩:=r.one;cases ru;obtain⟨its,rv,p⟩:=I.lstIs hl;have dc:l<s.zs:=by obtain⟨_,e,_⟩:=p;exact aJ e
 refine call_all_walk (wpAny_pyIter_list p ?_);refine⟨s.zs,[s.zs,l],[s.zs],its.toArray.size,_,_,λi=>(bs[i]?).getD true,rfl,Walks.list (A:=X.A.in1) (I.ok.hd hc) _ l (aP dc) its.toArray,
  ⟨⟨_,aV _ rfl,rfl,rfl⟩,p.push _⟩,λi v s' Q' E' hP hQ=>?_,λh' tk hk=>?_⟩
 .obtain⟨b,e,rfl⟩:=Af rv i v (by simpa using hP);simp only[e,getD_some]at hQ;exact wpAny_truthy_bool hQ
 .have e:((range its.toArray.size).all λi=>(bs[i]?).getD true)=bs.all id:=by
   rw[aW,<- rv.length,ak];exact sX bs
  refine⟨.bl (bs.all id),H,I.kept (t':=tk) λb o q=>hk b o (λhm=>?_) (aG _ q),?_,q⟩
  .rw[YR.mp hm]at q;exact X9 _ (aJ q)
  .rw[e];rfl
def IM(r:V->Β->Hp->VK->Prop)(to:TE)(t:TA):TE:=λσ H Q=>to σ H λx H1=>(∃y,x=.str y)/\t σ H1 λvs H2=>r x vs H2 Q
def Pi{o:Expr}{to:TE}{name:Str}{id:String}{r:V->Β->Hp->VK->Prop}(slot:Slot "str" name id)(iq:typeOf (.builtin id)=pure (.type "method_descriptor"))(hm:yA X id r)(ho:PE X o to)(ha:PA X [e] t)
 (hb:qB X o name:=by rfl)
 (hf:qr X ah e:=by rfl)
 (hl:zk ai ah:=by rfl)(hs:qo X e []:=by rfl)(hp:qh X ah []:=by rfl) :
  PE X (.Call (.Attribute o name ai) [e] [] ah) (IM r to t):=by
 refine(HL PySem.F.plainAttrs_str slot iq hm ho.mono ha hb hf hl hs hp).imp λσ H Q h=>?_;refine⟨_,h,?_⟩;rintro x H1 ⟨⟨y,rfl⟩,h2⟩;exact⟨rfl,h2⟩
def Wb(hg:Gl X x)(hm:∃u,X.mg x=some u/\z4 v u)(hd:qk x:=by decide):PE X (.Name x pos) (tC v):=by
 obtain⟨u,h1,h2⟩:=hm;exact QX hg h1 h2 hd
def hid(y:Str):Str:=Str.ofString "?"++y
def HF(xs:Θ)(N:Θ):Θ:=N.map λy=>if y∈xs then hid y else y
def Cx.compG(X:Cx)(N':Θ)(scope:Scope)(xs:Θ)(C:Addr)(s₀:Shared)(H₀:Hp)(ex:Φ)(pn:Γ):Cx :=
 { X with env:=compEnvC scope (uF X.env.cells scope.names []) C X.env,N:=xs++N',s₀:=s₀,H₀:=H₀,outer:=X.stack,ex:=ex,fn:=λ_=>false,pn:=pn,xe:=λ_ _=>False }
def PTs(X:Cx)(a9:zh)(tc:TT):Prop:=∀(aa:Γ)(s:Shared)(σ:L2.St)(H:Hp)(Q:Bool->Hp->Prop),Inv X aa σ H s->tc σ H Q ->
 wpAny (model X.prog X.w) X.A (forIn a9 true λc r=>if r=true then do let ok <- isTrue c X.env (eval c X.env);pure (ForInStep.yield ok)else pure (ForInStep.yield r)) (λb s'=>∃H',Inv X aa σ H' s'/\Q b H') X.xe s
def LH:TT:=λ_ H Q=>Q true H
def Zh{X:Cx} : PTs X [] LH:=λ_ _ _ H _ I q=>wpAny_tests_nil ⟨H,I,q⟩
def Y5{X:Cx}{c:Expr}(h:PT X c tc):PTs X [c] tc:=λaa s σ H Q I q=>wpAny_tests_one (h aa s σ H Q I q)
def uY(wi:TI)(n:Nat)(gt:TG)(tc:TT)(te:TE):TE:=λσ H Q=>wi σ H λJ H1=>∀D,H1 D=none->∃W:Nat->Nat->Β->Hp->Prop,(∃m,W 0 m [] (upd H1 D (.lst [])))/\∀i m ys Hc,W i m ys Hc ->
 (J.stop i Hc/\Q (.ref D) Hc)\/(J.go i Hc/\∀x H',J.yld i Hc x H'->∀pre:L2.St,pre.length=n->gt x (pre++σ) H' λσ2 H2=>∃b9:L2.St,b9.length=n/\σ2=b9++σ/\tc σ2 H2 λb H3 =>
  match b with
  |true=>te σ2 H3 λy H4=>ys.length<sizeLine/\H4 D=some (.lst ys)/\∃m',m'<m/\W (i+1) m' (ys++[y]) (upd H4 D (.lst (ys++[y])))
  |false=>∃m',m'<m/\W (i+1) m' ys H3)
def Cx.compE(X:Cx)(ext:Addr->ze)(fn:Str->Bool)(N':Θ)(scope:Scope)(xs:Θ)(C:Addr)(s₀:Shared)(H₀:Hp)(ex:Φ)(pn:Γ):Cx :=
 { X with env:=compEnvC scope (ext C++uF X.env.cells scope.names []) C X.env,N:=xs++N',s₀:=s₀,H₀:=H₀,outer:=X.stack,ex:=ex,fn:=fn,pn:=pn,xe:=λ_ _=>False }
structure Rm(X:Cx)(scope:Scope)(xs:Θ)(ext:Addr->ze)(fn:Str->Bool):Prop where
 new:∀{M:Model}{A:Around}{E:Ξ}{s:Shared}{globals:Addr}{dS:ze}{qual:Str}{outer:Env}{Q:Env->Shared->Prop},(∀g,g.Ns s.zs (λx=>([] : xx).reverse.lookup x)->(∀y c,(ext s.zs).lookup y=some c->g.IsCell c none)->(∀b o,s.heap.get? b=some o->g.get? b=some o)->Q (newEnv scope s.zs globals (ext s.zs++dS) qual none .none (some outer) builtinsNs) { s with heap:=g,toks:=s.toks+([] : xx).length }) ->
  wpAny M A (newFunctionEnv scope globals dS [] qual none .none (some outer)) Q E s
 up:∀C y c,(ext C).lookup y=some c->C<c
 one:∀C y z c,(ext C).lookup y=some c->(ext C).lookup z=some c->y=z
 nw:∀C y,fn y->∃c,(ext C).lookup y=some c
 off:∀C y,y∉xs->(ext C).lookup y=none
 kd:∀C y,((relabel scope X.env).names.lookup y=some .cell\/(relabel scope X.env).names.lookup y=some .free)->(∃c,(ext C).lookup y=some c)\/(y,NameKind.free)∈scope.names
def D8{xs:Θ}(hk:scope.kind=.function)(b8:∀y∈scope.names,y.2≠.cell):Rm X scope xs (λ_=>[]) (λ_=>false) :=
 ⟨λhQ=>wpAny_newFunctionEnv b8 (by intro y hy;simp at hy) (λg db kU=>hQ g db (λ_ _ z=>(nomatch z)) λb o e=>(kU.2 b (aP (aJ e))).trans (aG _ e)) hk,λ_ _ _ z=>(nomatch z),λ_ _ _ _ z=>(nomatch z),λ_ _ z=>(nomatch z),λ_ _ _=>rfl,λ_ _ e=>.inr (yj e b8)⟩
def Ij{use:Option (Value->Sem Unit)}{post:Ξ}{Qv:VK}{pp:Pos}{xs N':Θ}(E:Rm X scope xs ext fn)(hc:X.calm)(ge:HF xs X.N=N')(cx:scope.kind=.function)(c6:∀y∈scope.names,y.2=.local->scope.names.lookup y.1=some .local)
 (bo:∀y∈scope.names,y.2=.free->X.env.kindOf y.1=some .cell\/X.env.kindOf y.1=some .free)(fe:∀y∈X.N,y∉xs->(relabel scope X.env).names.lookup y≠some .local)(hq:∀y∈X.N,y∈xs->(relabel scope X.env).names.lookup (hid y)=none)(hi:PI X tg iter wi)
 (hg:∀C s₀ H₀ ex pn,PG (X.compE ext fn N' scope xs C s₀ H₀ ex pn) tg gt)(ht:∀C s₀ H₀ ex pn,PTs (X.compE ext fn N' scope xs C s₀ H₀ ex pn) a9 tc)(he:∀C s₀ H₀ ex pn,PE (X.compE ext fn N' scope xs C s₀ H₀ ex pn) bv te)(hs:qV X iter)(I:Inv X aa σ H s)(h:uY wi xs.length gt tc te σ H Qv)
 (mM:∀(C D:Addr)(Hc:Hp)(s6:Shared)(m:Str->Ψ)(fl:Flow),s6.heap.Ns C m->Inv X aa σ Hc s6->Cd X aa Hc C->Qv (.ref D) Hc->compPost (model X.prog X.w) X.A X.xe use post (.ref D) C (.ok fl) s6) :
  wpAny (model X.prog X.w) X.A (comprehension (.ListComp bv [⟨tg,iter,a9,0⟩] scope pos) scope X.env pp (newList []) false (eval iter X.env) use) post X.xe s:=by
 have h8:∀y∈scope.names,y.2=.free->∃c,X.env.cells.lookup y.1=some c:=λy hy e=>I.ok.has y.1 (bo y hy e);refine wpAny_comprehension_free (use:=use) (Q:=post) rfl hs (PK h8) cx c6 (e_ (hi aa s σ H _ I h) λv s1 h1=>e_ h1 λkQ s2 h2=>?_);obtain⟨it,fp,tn,J,H2,e,I2,T,f6,f2,R⟩:=h2;subst e;have nD:H2 s2.zs=none:=I2.hok.fresh (aF _);obtain⟨W,⟨m0,w0⟩,ph⟩:=R s2.zs nD;refine wpAny_newObj_type ?_ (by show 0<=sizeLine;exact aY _);have I3:Inv X aa σ (upd H2 s2.zs (.lst [])) { s2 with heap:=s2.heap.push { cls:=.type "list",dict:=none,data:=.seq ([] : Δ).toArray } }:=I2.lnew (t':=s2.toks) (ys:=[]) (its:=[]) .nil (aY _);have kA:∀b o,s2.heap.get? b=some o->(s2.heap.push { cls:=.type "list",dict:=none,data:=.seq ([] : Δ).toArray }).get? b=some o:=λb o e=>aG _ e;generalize hs3:({ s2 with heap:=s2.heap.push { cls:=.type "list",dict:=none,data:=.seq ([] : Δ).toArray } } : Shared)=s3 at I3 ⊢;have hV:tn 0 s3.heap:=T.keep _ _ _ f6 λb _ o e=>by rw[<- hs3];exact kA b o e
 generalize hH3:upd H2 s2.zs (.lst [])=H3 at I3 w0;have f3:∀b∈fp,Cd X aa H3 b:=λb hb=>by
  obtain⟨a1,a2⟩:=f2 b hb;refine⟨?_,a2⟩;obtain⟨o,e,_⟩:=T.obj _ _ f6 b hb;rwa[<- hH3,bZ (aP (aJ e))]
 refine E.new λg db eJ kg=>?_;have clm:∀{y:Str}{c:Addr},(uF X.env.cells scope.names []).lookup y=some c->X.env.cells.lookup y=some c:=λ{y c}e=>by
  rcases Ma h8 (PySem.mem_of_lookup e)with z|z
  .cases z
  .exact z
 have gc:∀{y:Str},(ext s3.zs).lookup y=none->((relabel scope X.env).names.lookup y=some .cell\/(relabel scope X.env).names.lookup y=some .free)->(X.env.kindOf y=some .cell\/X.env.kindOf y=some .free)/\∃c,(ext s3.zs++uF X.env.cells scope.names []).lookup y=some c/\X.env.cells.lookup y=some c:=λ{y}ny e=>by
  rcases E.kd s3.zs y e with⟨c,z⟩|z
  .rw[ny]at z;cases z
  .obtain⟨c,fN⟩:=M8 (cells:=X.env.cells) (acc:=[]) (.inl z);obtain⟨c,fN⟩:=o_ fN;exact⟨bo _ z rfl,c,by rw[JS,ny];exact fN,clm fN⟩
 have jn:∀{y:Str}{c:Addr},(ext s3.zs++uF X.env.cells scope.names []).lookup y=some c->(ext s3.zs).lookup y=some c\/X.env.cells.lookup y=some c:=λ{y c}e=>by
  rw[JS]at e;cases hy:(ext s3.zs).lookup y with
  |some d=>rw[hy]at e;exact .inl e
  |none=>rw[hy]at e;exact .inr (clm e)
 have cll:∀{y z c},(ext s3.zs).lookup z=some c->¬X.env.cells.lookup y=some c:=λ{y z c}e1 e=>by
  obtain⟨v,o,h1,_⟩:=I3.cell y c e;exact X9 _ (UU (aJ h1) (E.up _ _ _ e1))
 have kH:∀b∈fp,b<s3.zs:=λb hb=>by
  obtain⟨o,e,_⟩:=T.obj _ _ hV b hb;exact aJ e
 have nst:∀b∈fp,b∉og X.stack:=λb hb=>I3.nostk' (f3 b hb).2.1 (f3 b hb).2.2.1;have cfp:∀b∈fp,∀y c,(ext s3.zs++uF X.env.cells scope.names []).lookup y=some c->c≠b:=λb hb y c e=>by
  rcases jn e with z|z
  .exact UY (UU (kH b hb) (E.up _ _ _ z))
  .exact(f3 b hb).2.2.2.2.1 y c z
 generalize hX:X.compE ext fn N' scope xs s3.zs s3 H3 fp (X.pn++aa)=Y;have ok':Y.Ok:=by
  subst hX;exact⟨I3.ok.mod,cx,I3.ok.glob,I3.ok.blt,aF _,λy z c h1 h2=>by
    rcases jn h1 with e1|e1<;>rcases jn h2 with e2|e2
    .exact E.one _ _ _ _ e1 e2
    .exact absurd e2 (cll e1)
    .exact absurd e1 (cll e2)
    .exact I3.ok.inj y z c e1 e2,λy hy=>by
    cases hz:(ext s3.zs).lookup y with
    |some c=>exact⟨c,List.lookup_append.trans (by rw[hz];rfl)⟩
    |none=>exact let⟨_,c,q,_⟩:=gc hz hy;⟨c,q⟩,λy c fI e=>by
    obtain⟨d,z⟩:=E.nw s3.zs y fI;have e:(ext s3.zs++uF X.env.cells scope.names []).lookup y=some c:=e;rw[JS,z]at e;cases e;exact Y2 (E.up _ _ _ z),I3.ok.hd,I3.ok.frames,.inl rfl,
   λb hb=>⟨aP (kH b hb),cfp b hb⟩,I3.bs,aK I3.ok.bsz I3.sz,λb o e hb=>by
    rcases(f3 b hb).2.2.2.1 with z|z
    .exact I3.ok.noex b o e z
    .exact absurd (aQ (aQ (aJ e) I3.ok.bsz) z) (X9 _),nst,I3.stack,I3.stkFree⟩
 have J4:∀tk,Inv Y [] (replicate xs.length none++σ) H3 { s3 with heap:=g,toks:=tk }:=λtk=>by
  subst hX;refine⟨ok',rfl,I3.bare,Un.kept kg,⟨_,db,λi y v e1 e2 e3=>?_⟩,λy c e=>?_,I3.hok.fresh (aF _),λy c e=>(jn e).elim (λz=>I3.hok.fresh (Y2 (E.up _ _ _ z))) (I3.freeC y c),λp hp=>?_,I3.hok.kept kg,?_⟩
  .by_cases ka:i<xs.length
   .rw[aD (by rwa[aM]),X0,ZY ka]at e2;cases e2
   .obtain⟨j,rfl⟩ : ∃j,i=xs.length+j:=⟨i-xs.length,by lia⟩;have e0:N'[j]?=some y:=by
     have e1:(xs++N')[xs.length+j]?=some y:=e1;rw[aC (X2 _ _)]at e1;rw[show xs.length+j-xs.length=j by exact TU _ _]at e1;exact e1
    have ke:σ[j]?=some (some v):=by
     rw[aC (by rw[aM];exact X2 _ _),aM]at e2;rw[show xs.length+j-xs.length=j by exact TU _ _]at e2;exact e2
    rw[<- ge]at e0;obtain⟨y0,ib,ey⟩ : ∃y0,X.N[j]?=some y0/\(if y0∈xs then hid y0 else y0)=y:=by
     unfold HF at e0;rw[aq]at e0;cases hz:X.N[j]? with
     |none=>rw[hz]at e0;cases e0
     |some y0=>rw[hz]at e0;exact⟨y0,rfl,Option.some.inj e0⟩
    have e3:(relabel scope X.env).names.lookup y=some .local\/(relabel scope X.env).names.lookup y=some .cell\/(relabel scope X.env).names.lookup y=some .free:=e3;have ne:¬y0∈xs:=λz=>by
     rw[ZY z]at ey;subst ey;rw[hq y0 (aB ib) z]at e3;rcases e3 with z|z|z<;>cases z
    rw[ZZ ne]at ey;subst ey;have e3':(relabel scope X.env).names.lookup y0=some .cell\/(relabel scope X.env).names.lookup y0=some .free:=by
     rcases e3 with z|z
     .exact absurd z (fe y0 (aB ib) ne)
     .exact z
    obtain⟨kd,c,eJ,kc⟩:=gc (E.off _ _ ne) e3';obtain⟨m,_,hl⟩:=I3.loc;obtain⟨u,r,lk⟩:=hl j y0 v ib ke (.inr kd);refine⟨u,r,.inr ⟨e3',c,eJ,?_⟩⟩;rcases lk with⟨k1,_⟩|⟨_,c',q1,o,q2,q3⟩
    .exfalso;have k1':X.env.kindOf y0=some .local:=k1;rcases kd with k2|k2<;>rw[k1']at k2<;>cases k2
    .rw[kc]at q1;cases q1;exact⟨o,kg _ _ q2,q3⟩
  .rcases jn e with z|z
   .exact⟨none,eJ y c z⟩
   .obtain⟨v,o,q2,q3⟩:=I3.cell y c z;exact⟨v,o,kg _ _ q2,q3⟩
  .have g3:p∈X.pn++aa:=by simpa[Cx.compE]using hp
   obtain⟨a1,a2,a3,a4,a5⟩:=I3.pin p g3;exact⟨kg _ _ a1,a2,aP (aJ a1),I3.nostk' a3 a4,a5⟩
  .show(replicate xs.length none++σ).length=(xs++N').length;have hln:N'.length=X.N.length:=by rw[<- ge];unfold HF;rw[ak]
   rw[aA,aM,aA,I3.len,hln]
 have mx:∀{Hc:Hp},(∀b∈fp,Hc b=none)->∀b∈fp,Cd Y [] Hc b:=λ{Hc}hn b hb=>by
  subst hX;exact⟨hn b hb,aP (kH b hb),nst b hb,.inl hb,cfp b hb,λp hp=>(f3 b hb).2.2.2.2.2 p (by simpa[Cx.compE]using hp)⟩
 have gE:∀s4:Shared,s4={ s3 with heap:=g,toks:=s3.toks+([] : xx).length } ->
   codeAny (model X.prog X.w) X.A (.compLoop (.ListComp bv [⟨tg,iter,a9,0⟩] scope pos) 0 (.ref it) (.ref s2.zs) Y.env) (compPost (model X.prog X.w) X.A X.xe use post (.ref s2.zs) s3.zs) s4:=by
  rintro s4 rfl;have YP:Y.prog=X.prog/\Y.w=X.w/\Y.K=X.K/\Y.calm=X.calm/\Y.A=X.A/\Y.env.locals=s3.zs:=by subst hX;exact⟨rfl,rfl,rfl,rfl,rfl,rfl⟩
  obtain⟨y1,y2,y3,y4,y5,y6⟩:=YP;have he':PE Y bv te:=by subst hX;exact he _ _ _ _ _
  have lS:PG Y tg gt:=by subst hX;exact hg _ _ _ _ _
  have ht':PTs Y a9 tc:=by subst hX;exact ht _ _ _ _ _
  have jv:Y.xe=λ_ _=>False:=by subst hX;rfl
  have yb:∀{Hc:Hp}{w':L2.St}{pn:Γ}{s':Shared},Inv Y pn w' Hc s'->Un (og X.stack) fp H3 Hc s3.heap s'.heap:=λ{Hc w' pn s'}Z=>by
   have:=Z.base;subst hX;exact this
  have yos:∀{Hc:Hp}{w':L2.St}{pn:Γ}{s':Shared},Inv Y pn w' Hc s'->s'.os=s3.os:=λ{Hc w' pn s'}Z=>by
   have:=Z.os;subst hX;exact this
  refine codeAny_loop rfl (λn s'=>∃i ys Hc,∃w':L2.St,w'.length=xs.length/\Inv Y [] (w'++σ) Hc s'/\tn i s'.heap/\(∀b∈fp,Hc b=none)/\W i n ys Hc) (λn s5 hI=>?_) m0 ⟨0,[],H3,replicate xs.length none,aM,J4 _,T.keep _ _ _ hV λb _ o e=>kg b o e,λb hb=>(f3 b hb).1,w0⟩;obtain⟨i,ys,Hc,w',j3,Z,stc,frc,wc⟩:=hI;show wpAny _ _ ((compTurn (.ListComp bv [⟨tg,iter,a9,0⟩] scope pos) 0 (.ref it) (.ref s2.zs) Y.env).onRaise (λz=>do noteFrame z Y.env;theTreesLotGoes z)) _ _ s5;refine wpAny_noted (wpAny_noRaise ?_);rw[compTurn_list];show wpAny (model X.prog X.w) X.A _ _ _ _;rcases ph i n ys Hc wc with⟨stop,qn⟩|⟨go,step⟩
  .have hd:=T.done Y y1 y2 y3 (y4.trans hc) i [] s5 (w'++σ) Hc (λ_ _=>False) Z (mx frc) stc stop;rw[y5]at hd;refine ZU (wpAny_standAt (ZU (e_ hd λr s6 hP=>?_)));obtain⟨hr,Z6⟩:=hP;subst hr;refine ZT ?_;obtain⟨m,iN,_⟩:=Z6.loc;rw[y6]at iN;have u6:=yb Z6;have hok:HOk X.prog X.w Hc s6.heap:=by
    have z:=Z6.hok;rw[y1,y2]at z;exact z
   have cn:Hc s3.zs=none:=by
    have z:=Z6.free;rw[y6]at z;exact z
   have I6:Inv X aa σ Hc s6:=I3.call' (s':=s6) (ch:=fp) (yos Z6) u6 hok Z6.bare λb hb=>⟨(f3 b hb).2.2.2.1,(f3 b hb).2.1,(f3 b hb).2.2.2.2.1,(f3 b hb).2.2.2.2.2⟩;have fC:Cd X aa Hc s3.zs:=I3.fpOk (aF _) cn;exact mM _ _ Hc s6 m _ iN I6 fC qn
  .have hd:=T.item Y y1 y2 y3 (y4.trans hc) i [] s5 (w'++σ) Hc (λ_ _=>False) Z (mx frc) stc go;rw[y5]at hd;refine ZU (wpAny_standAt (ZU (e_ hd λr s6 hP=>?_)));obtain⟨u,hr,h6⟩:=hP;subst hr;refine ZU (e_ h6 λ_ s7 hP=>?_);obtain⟨xv,H7,Z7,r7,yl,kq,fr7⟩:=hP;have Z7':=Z7.pinned (mx fr7) (T.obj _ _ kq);have ce:=lS _ s7 _ H7 xv u _ Z7' r7 (step xv H7 yl w' j3);rw[y1,y2,y5,jv]at ce;refine ZU (e_ ce λ_ s8 hP=>?_);obtain⟨σ8,H8,Z8,pre,eI,e8,q8⟩:=hP;subst e8;have hte:=ht' _ s8 _ H8 _ Z8 q8;rw[y1,y2,y5,jv]at hte;have bg:∀{m':Nat}{jp:Β}{H9:Hp}{s9:Shared},Inv Y ([]++DP fp s7.heap) (pre++σ) H9 s9->m'<n->W (i+1) m' jp H9->∃m,m<n/\∃i ys Hc,∃w':L2.St,w'.length=xs.length/\Inv Y [] (w'++σ) Hc s9/\tn i s9.heap/\(∀b∈fp,Hc b=none)/\W i m ys Hc:=λ{m' jp H9 s9}Z9 fb w9 =>
    ⟨m',fb,i+1,jp,H9,pre,eI,Z9.unpinned,T.keep _ _ _ kq λb hb o e=>(Z9.pin (b,o) (aO _ (aO _ (oV hb e)))).1,λb hb=>by
     obtain⟨o,e,_⟩:=T.obj _ _ kq b hb;exact(Z9.pin (b,o) (aO _ (aO _ (oV hb e)))).2.1,w9⟩
   refine ZU (e_ hte λok s9 hP=>?_);obtain⟨H9,Z9,q9⟩:=hP;cases ok with
   |false =>
    obtain⟨m',fb,w9⟩:=q9;exact ZT ⟨rfl,bg Z9 fb w9⟩
   |true =>
    have hel:=he' _ s9 _ H9 _ Z9 q9;rw[y1,y2,y5,jv]at hel;refine ZU (ZU (e_ hel λev s10 hP=>?_));obtain⟨yv,H10,Z10,r10,hz,mr,m',fb,w10⟩:=hP;have mm:=Ig (X:=Y) _ s10 _ H10 (.ref s2.zs) [yv] (.ref s2.zs) [ev] (λ_ Hf=>Hf=upd H10 s2.zs (.lst (ys++[yv]))) Z10 rfl (.cons r10 .nil) ⟨_,ys,yv,rfl,rfl,mr,hz,rfl⟩;rw[y1,y2,y5,jv]at mm;refine ZU (e_ mm λav s11 hP=>?_);obtain⟨_,H11,Z11,_,e11⟩:=hP;subst e11;exact ZT (ZT ⟨rfl,bg Z11 fb w10⟩)
 have l9:Y.env=compEnvC scope (ext s3.zs++uF X.env.cells scope.names []) s3.zs X.env:=by subst hX;rfl
 rw[l9]at gE;exact codeAny_compStart_list (gE _ rfl) (T.self _ 0 _ _ _ (T.keep _ _ _ hV λb _ o e=>kg b o e) (gE _ rfl))
def Vw{xs N':Θ}(E:Rm X scope xs ext fn)(hc:X.calm)(ge:HF xs X.N=N')(cx:scope.kind=.function)(c6:∀y∈scope.names,y.2=.local->scope.names.lookup y.1=some .local)
 (bo:∀y∈scope.names,y.2=.free->X.env.kindOf y.1=some .cell\/X.env.kindOf y.1=some .free)(fe:∀y∈X.N,y∉xs->(relabel scope X.env).names.lookup y≠some .local)(hq:∀y∈X.N,y∈xs->(relabel scope X.env).names.lookup (hid y)=none)(hi:PI X tg iter wi)
 (hg:∀C s₀ H₀ ex pn,PG (X.compE ext fn N' scope xs C s₀ H₀ ex pn) tg gt)(ht:∀C s₀ H₀ ex pn,PTs (X.compE ext fn N' scope xs C s₀ H₀ ex pn) a9 tc)(he:∀C s₀ H₀ ex pn,PE (X.compE ext fn N' scope xs C s₀ H₀ ex pn) bv te)(hs:qV X iter) :
  PE X (.ListComp bv [⟨tg,iter,a9,0⟩] scope pos) (uY wi xs.length gt tc te):=by
 intro aa s σ H Q I h;rw[eval_ListComp];exact Ij E hc ge cx c6 bo fe hq hi hg ht he hs I h λC D Hc s6 m fl hn I6 fC q=>⟨m,hn,λh' kX=>⟨.ref D,Hc,I6.turned (it:=C) (h':=h') (t':=s6.toks) (λb o hb e=>(kX.2 b hb).trans e) fC.1 fC.2.1 fC.2.2.2.1 fC.2.2.2.2.1 fC.2.2.2.2.2,rfl,q⟩⟩
section
variable{κ:Type}[DecidableEq κ]
def Ft(kvs:List (κ×V))(k:κ):xp:=(kvs.find? λkv=>decide (kv.1=k)).map (·.2)
def putK(kvs:List (κ×V))(k:κ)(v:V):List (κ×V) :=
 if(kvs.any λkv=>decide (kv.1=k))=true then kvs.map (λkv=>if kv.1=k then(kv.1,v)else kv)else kvs++[(k,v)]
def Mj{p:κ×V}{r:List (κ×V)}{k:κ}(e:p.1=k):Ft (p::r) k=some p.2:=by simp[Ft,List.find?_cons,e]
def Fw{p:κ×V}{r:List (κ×V)}{k:κ}(e:¬p.1=k):Ft (p::r) k=Ft r k:=by simp[Ft,List.find?_cons,e]
def Ni(kvs:List (κ×V))(k:κ)(v:V):(putK kvs k v).length<=kvs.length+1:=by
 unfold putK;split
 .rw[ak];exact Xs _
 .rw[aA,length_cons,List.length_nil];exact aF _
def vN.isSome_eq{u:Ψ}(r:vN o u):o.isSome=u.isSome:=by
 cases o with
 |none=>cases u with
  |none=>rfl
  |some _=>exact(show False from r).elim
 |some _=>cases u with
  |none=>exact(show False from r).elim
  |some _=>rfl
def vN.getD{o:xp}{u:Ψ}{d:V}{d':Value}(r:vN o u)(rd:z4 d d'):z4 (o.getD d) (u.getD d'):=by
 cases o with
 |none=>cases u with
  |none=>exact rd
  |some _=>exact(show False from r).elim
 |some _=>cases u with
  |none=>exact(show False from r).elim
  |some _=>exact r
def KV.val{kvs:List (κ×V)}{vs:List (κ×Value)}(r:KV kvs vs)(k:κ):vN (Ft kvs k) (valueAt vs k):=by
 unfold KV at r
 induction r with
 |nil=>exact True.intro
 |@cons p q ps qs h t ih =>
  obtain⟨h1,h2⟩:=h;by_cases e:p.1=k
  .have e':q.1=k:=h1.symm.trans e;have b:valueAt (q::qs) k=some q.2:=by simp[valueAt,List.find?_cons,e']
   rwa[Mj e,b]
  .have e':¬q.1=k:=λz=>e (h1.trans z);have b:valueAt (q::qs) k=valueAt qs k:=by simp[valueAt,List.find?_cons,e']
   rwa[Fw e,b]
def KV.any{kvs:List (κ×V)}{vs:List (κ×Value)}(r:KV kvs vs)(k:κ):(kvs.any λkv=>decide (kv.1=k))=vs.any λkv=>decide (kv.1=k):=by
 unfold KV at r
 induction r with
 |nil=>rfl
 |cons h t ih=>rw[any_cons,any_cons,ih,h.1]
def KV.repl{kvs:List (κ×V)}{vs:List (κ×Value)}(r:KV kvs vs)(k:κ)(ry:z4 y u) :
  KV (kvs.map λkv=>if kv.1=k then(kv.1,y)else kv) (vs.map λkv=>if kv.1=k then(kv.1,u)else kv):=by
 unfold KV at r ⊢
 induction r with
 |nil=>exact .nil
 |@cons p q ps qs h t ih =>
  rw[map_cons,map_cons];refine .cons ?_ ih;obtain⟨h1,h2⟩:=h;by_cases e:p.1=k
  .rw[ZY e,ZY (h1.symm.trans e)];exact⟨h1,ry⟩
  .rw[ZZ e,ZZ (λz=>e (h1.trans z))];exact⟨h1,h2⟩
def KV.put{kvs:List (κ×V)}{vs:List (κ×Value)}(r:KV kvs vs)(k:κ)(ry:z4 y u):KV (putK kvs k y) (stored vs k u):=by
 unfold putK stored;rw[r.any k];by_cases e:(vs.any λkv=>decide (kv.1=k))=true
 .rw[ZY e,ZY e];exact r.repl k ry
 .rw[ZZ e,ZZ e];exact Paired.snoc r ⟨rfl,ry⟩
def KV.length{kvs:List (κ×V)}{vs:List (κ×Value)}(r:KV kvs vs):kvs.length=vs.length:=Paired.length r
end
def Ml{k:nS}(r:z4 (kV k) u):(jz P w).is k u:=by
 cases k with
 |inl i=>obtain⟨t,e⟩:=(show ∃t,u=Value.int i t from r);subst e;exact Oa P w i t
 |inr x=>obtain⟨t,e⟩:=(show ∃t,u=Value.str x t from r);subst e;exact Mv P w x t
def OC{u:HO}(ok:HOk P w H h)(e:Rd H a u):fX P w H h a u:=e.ok ok
def DN(ok:HOk P w H h)(e:Rd H a (.dK kvs)):kvs.length<=sizeLine/\(a==sysModules)=false/\∃vs,KV kvs vs/\h.DictOf (jz P w) a vs :=
 show fX P w H h a (.dK kvs)from OC ok e
def PH(ok:HOk P w H h)(e:H a=some (.dK kvs)):kvs.length<=sizeLine/\(a==sysModules)=false/\∃vs,KV kvs vs/\h.DictOf (jz P w) a vs:=DN ok (.inl e)
def Aj(H:Hp)(a:Addr)(y:V)(r:xp):Prop :=
 (∃kvs k,Rd H a (.dK kvs)/\y=kV k/\r=Ft kvs k)\/False
def FD(H:Hp)(a:Addr)(y v:V)(H':Hp):Prop :=
 (∃kvs k,H a=some (.dK kvs)/\y=kV k/\kvs.length<sizeLine/\H'=upd H a (.dK (putK kvs k v)))\/False
def Aj.k{H:Hp}{a:Addr}{kvs:xy}{k:nS}(e:H a=some (.dK kvs)):Aj H a (kV k) (Ft kvs k):=.inl ⟨kvs,k,.inl e,rfl,rfl⟩
variable{σ:St}{Q:Ξ}{h':Heap}{r:Value}{aE i:Expr}
def Inv.big(I:Inv X aa σ H s):sysModules<s.zs:=by
 have h:mainGlobals<s.zs:=(I.mod.glob.keeps I.bk).lt;exact UU xa h
def S_(hu:A.units+1<cLine)(I:Inv X aa σ H s)(g:Aj H a y (some v))(ry:z4 y u)(h:∀w' s',Inv X aa σ H s'->z4 v w'->Q w' s') :
  wpAny (model X.prog X.w) A (getItem (.ref a) u) Q E s:=by
 rcases g with⟨kvs,k,e,ey,l⟩|hF
 .subst ey;obtain⟨z,hd,vs,rel,dd⟩:=DN I.hok e;obtain⟨w',hw,eR⟩:=vN.some_of (v:=v) (o:=valueAt vs k) (by rw[l];exact rel.val k);exact wpAny_getItem_of (Ml ry) dd.mapOf hw (h w' _ (I.tok _) eR)
 .exact hF.elim
def Lc(hu:A.units+1<cLine)(I:Inv X aa σ H s)(g:Aj H a y o)(ry:z4 y u)(h:∀s',Inv X aa σ H s'->Q (.bool o.isSome) s') :
  wpAny (model X.prog X.w) A (compareOp .In u (.ref a)) Q E s:=by
 rcases g with⟨kvs,k,e,ey,l⟩|hF
 .subst ey;obtain⟨z,hd,vs,rel,dd⟩:=DN I.hok e;refine wpAny_in_of (Ml ry) hd dd.mapOf ?_;rw[<- (rel.val k).isSome_eq,<- l];exact h _ (I.tok _)
 .exact hF.elim
def XA(hu:A.units+1<cLine)(I:Inv X aa σ H s)(g:Aj H a y o)(ry:z4 y u)(h:∀s',Inv X aa σ H s'->Q (.bool (!o.isSome)) s') :
  wpAny (model X.prog X.w) A (compareOp .NotIn u (.ref a)) Q E s:=by
 rcases g with⟨kvs,k,e,ey,l⟩|hF
 .subst ey;obtain⟨z,hd,vs,rel,dd⟩:=DN I.hok e;refine wpAny_notIn_of (Ml ry) hd dd.mapOf ?_;rw[<- (rel.val k).isSome_eq,<- l];exact h _ (I.tok _)
 .exact hF.elim
def YK{t':Nat}{ob:HO}(I:Inv X aa σ H s)(mu:vi (H a))(hs:Heap.SameBut a s.heap h')(he:∃q,h'.get? a=some q)(new:fX X.prog X.w (upd H a ob) h' a ob) :
  Inv X aa σ (upd H a ob) { s with heap:=h',toks:=t' } :=
 I.write (x:=a) (e:=a) mu (.inl rfl) (λb q hb z=>(hs.2 b hb).trans z) he new
def P'{vs:List (nS×Value)}(z:kvs.length<=sizeLine)(hd:(a==sysModules)=false)(rel:KV kvs vs)(dd:h'.DictOf (jz P w) a vs) :
  fX P w H' h' a (.dK kvs):=⟨z,hd,vs,rel,dd⟩
def Tg{Q:Unit->Shared->Prop}(hu:A.units+1<cLine)(I:Inv X aa σ H s)(g:FD H a y v H')(ry:z4 y u)(rv:z4 v r)(h:∀s',Inv X aa σ H' s'->Q () s') :
  wpAny (model X.prog X.w) A (setItem (.ref a) u r) Q E s:=by
 rcases g with⟨kvs,k,e,ey,l,eH⟩|hF
 .subst ey eH;obtain⟨z,hd,vs,rel,dd⟩:=PH I.hok e;have hz:vs.length<=sizeLine:=by rw[<- rel.length];exact z
  have hl:(putK kvs k v).length<=sizeLine:=by have:=Ni kvs k v;lia
  refine wpAny_setItem_pairs (hsz:=hz) (Ml ry) dd λh' dd' hs=>h _ ?_;have he:∃q,h'.get? a=some q:=by obtain⟨q,_,_,hq,_⟩:=dd';exact⟨q,hq⟩
  exact YK I (by rw[e];exact True.intro) hs he (P' hl hd (rel.put k rv) dd')
 .exact hF.elim
def xA(i:Expr):Prop:=∀ov iv,subscripted i false ov iv=operate [ov,iv] (getItem ov iv)
def W'{env:Env}{bj:Expr}{T id:String}
 (hl:typeLookup (.type T) "__getitem__"=pure (some (.builtin id)))(hs:xA bj)
 (h:wpAny (model prog w) A (eval aE env) (λo s₁=>wpAny (model prog w) A (eval bj env) (λi s₂=>s₂.TypeIs o T/\wpAny (model prog w) A (getItem o i) Q E s₂) E s₁) E s) :
  wpAny (model prog w) A (eval (.Subscript aE bj pos) env) Q E s:=by
 refine Subscript_ (wpAny_mono h (λo s₁ h₁=>wpAny_mono h₁ (λi s₂ h₂=>?_) λ_ _ x=>x) λ_ _ x=>x);obtain⟨hT,h₂⟩:=h₂;unfold subscriptTail;refine ZU ?_;rw[getitemInPython_of_ne hT.not_modules];refine ZU (wpAny_specialOf hT hl ?_);have bg:wpAny (model prog w) A (subscripted bj false o i) (λr s₃=>wpAny (model prog w) A (letTemporaryGo aE o r >>= λ_=>pure r) Q E s₃) E s₂:=by
  rw[hs o i];exact wpAny_operating (wpAny_mono h₂ (λr s₃ h₃=>ZU (wpAny_letTemporaryGo (ZT h₃))) λ_ _ x=>x)
 first
  |exact ZT (ZU bg)
  |exact ZU (ZT (ZU bg))
  |exact ZU bg
def N5(I:Inv X aa σ H s)(g:Aj H a y o):s.TypeIs (.ref a) "dict":=by
 rcases g with⟨kvs,k,e,_,_⟩|hF
 .obtain⟨_,_,vs,_,dd⟩:=DN I.hok e;exact dd.typeIs
 .exact hF.elim
def Pl(td ty:TE):TE:=λσ H Q=>td σ H λx H1=>ty σ H1 λy H2=>∃a v,x=.ref a/\Aj H2 a y (some v)/\Q v H2
def MT(ty td:TE):TE:=λσ H Q=>ty σ H λy H1=>td σ H1 λx H2=>∃a o,x=.ref a/\Aj H2 a y o/\Q (.bl o.isSome) H2
def Yx(ty td:TE):TE:=λσ H Q=>ty σ H λy H1=>td σ H1 λx H2=>∃a o,x=.ref a/\Aj H2 a y o/\Q (.bl (!o.isSome)) H2
def OU(td ty tv:TE):TS:=λD σ H=>tv σ H λv H1=>td σ H1 λx H2=>ty σ H2 λy H3=>∃a H4,x=.ref a/\FD H3 a y v H4/\D.nx σ H4
variable{o:Expr}{td ty tv:TE}{bu:Pos}
def Y_(hu:X.A.units+1<cLine)(ho:PE X o td)(hi:PE X i ty)(hs:xA i):PE X (.Subscript o i pos) (Pl td ty):=by
 intro aa s σ H Q I h;refine W' PySem.F.slot_dict_getitem.lookup hs (e_ (ho aa s σ H _ I h) λu s1 ⟨x,H1,I1,rx,q1⟩=>e_ (hi aa s1 σ H1 _ I1 q1) λiv s2 hP=>?_);obtain⟨y,H2,I2,ry,a,v,ex,g,q2⟩:=hP;subst ex;obtain rfl:u=Value.ref a:=rx;exact⟨N5 I2 g,S_ hu I2 g ry λw' s3 I3 eR=>⟨v,H2,I3,eR,q2⟩⟩
def VA(hu:X.A.units+1<cLine)(hi:PE X i ty)(ho:PE X o td):PC X .In i o (MT ty td):=by
 intro aa s σ H Q I h;refine e_ (hi aa s σ H _ I h) λiv s1 ⟨y,H1,I1,ry,q1⟩=>e_ (ho aa s1 σ H1 _ I1 q1) λu s2 hP=>?_;obtain⟨x,H2,I2,rx,a,ov,ex,g,q2⟩:=hP;subst ex;obtain rfl:u=Value.ref a:=rx;exact Lc hu I2 g ry λs3 I3=>⟨.bl ov.isSome,H2,I3,rfl,q2⟩
def SN(hu:X.A.units+1<cLine)(hi:PE X i ty)(ho:PE X o td):PC X .NotIn i o (Yx ty td):=by
 intro aa s σ H Q I h;refine e_ (hi aa s σ H _ I h) λiv s1 ⟨y,H1,I1,ry,q1⟩=>e_ (ho aa s1 σ H1 _ I1 q1) λu s2 hP=>?_;obtain⟨x,H2,I2,rx,a,ov,ex,g,q2⟩:=hP;subst ex;obtain rfl:u=Value.ref a:=rx;exact XA hu I2 g ry λs3 I3=>⟨.bl (!ov.isSome),H2,I3,rfl,q2⟩
def Yu(hu:X.A.units+1<cLine)(ho:PE X o td)(hi:PE X i ty)(hv:PE X aE tv)(hs:swapsWith aE (some (.Subscript o i bu)) pos.line X.env=pure false) :
  PS X (.Assign [.Subscript o i bu] aE pos) (OU td ty tv):=by
 intro aa s σ H D I h;refine wpAny_Assign_Subscript (e_ (hv aa s σ H _ I h) λr s1 ⟨v,H1,I1,rv,q1⟩=>e_ (ho aa s1 σ H1 _ I1 q1) λu s2 ⟨x,H2,I2,rx,q2⟩=>e_ (hi aa s2 σ H2 _ I2 q2) λiv s3 hP=>?_) hs;obtain⟨y,H3,I3,ry,a,H4,ex,g,q3⟩:=hP;subst ex;obtain rfl:u=Value.ref a:=rx;exact Tg hu I3 g ry rv λs4 I4=>⟨σ,H4,I4,q3⟩
def Xr(h:Heap)(hb:sysModules<h.objs.size):fX P w H (h.push { cls:=.type "dict",data:=.dict #[] }) h.objs.size (.dK []) :=
 ⟨aY _,beq_eq_false_iff_ne.mpr (Ne.symm (aP hb)),[],.nil,Heap.DictOf.new h⟩
def Q4:TE:=λ_ H Q=>∀p,H p=none->Q (.ref p) (upd H p (.dK []))
def WM:PE X (.Dict [] [] pos) Q4:=λaa s σ H Q I h =>
 wpAny_Dict_empty ⟨.ref s.zs,_,I.laid (a:=s.zs) (o:=.dK []) (t':=s.toks) (λ_ _ q=>aG _ q) (aF _) (Xr s.heap I.big),rfl,h _ (I.hok.fresh (aF _))⟩
abbrev VV:List (V×V)->List (Value×Value)->Prop:=Paired λp q=>z4 p.1 q.1/\z4 p.2 q.2
structure M2(X:Cx)(o:Expr)(m:Str)(ai:Pos)(e f:Expr)(ah:Pos):Prop where
 base:qB X o m
 few:((backTo ah (starEach [e,f] X.env)).all (λx=>!x.1)&&(backToKw ah (keywordEach [] X.env)).all (λx=>x.1.isSome)
  && decide (([e,f] : zh).length+([] : xn).length+(if([] : xn).isEmpty then 0 else 1)<30))=true
 line:zk ai ah
 trees:backTo ah (starEach [e,f] X.env)=[(false,eval e X.env),(false,eval f X.env)]
def IF(H:Hp)(a:Addr):Prop:=(∃kvs,Rd H a (.dK kvs))\/False
def ZA(I:Inv X aa σ H s)(d:IF H a) :
  s.TypeIs (.ref a) "dict"/\(∀b,Value.ref a=.ref b->∃ob,s.heap.get? b=some ob/\ob.dict=none)/\(a==sysModules)=false:=by
 rcases d with⟨kvs,e⟩|hF
 .obtain⟨_,hd,vs,_,dd⟩:=DN I.hok e;refine⟨dd.typeIs,λb q=>?_,hd⟩;cases q;obtain⟨ob,_,_,h1,h2,_⟩:=dd;exact⟨ob,h1,h2.2.1⟩
 .exact hF.elim
variable{o:xp}{d:V}{f:Expr}
def Rs(hu:A.units+1<cLine)(I:Inv X aa σ H s)(g:Aj H a y o)(ry:z4 y u)(rd:z4 d r)(h:∀w' s',Inv X aa σ H s'->z4 (o.getD d) w'->Q w' s') :
  wpAny (model X.prog X.w) A (call (.builtin "dict.get") [.ref a,u,r]) Q E s:=by
 rcases g with⟨kvs,k,e,ey,l⟩|hF
 .subst ey;obtain⟨z,hd,vs,rel,dd⟩:=DN I.hok e;refine call_meetsIn PySem.F.slot_dict_get dd.typeIs PySem.F.entry_dict_get (PySem.F.args_dict_get_3 _ _ _) (meets_dict_get_default (jz X.prog X.w) a (Ml ry) hd r) ⟨_,dd.mapOf,h _ _ (I.tok _) ?_⟩;rw[l];exact(rel.val k).getD rd
 .exact hF.elim
def R1(td ty tx:TE):TE:=λσ H Q=>td σ H λx H1=>∃a,x=.ref a/\IF H1 a/\ty σ H1 λy H2=>tx σ H2 λz H3=>∃o,Aj H3 a y o/\Q (o.getD z) H3
variable{o:Expr}{tx:TE}{pl:Sem Bool}{σ:L2.St}
def VR(hu:X.A.units+1<cLine)(ho:PE X o td)(he:PE X e ty)(hf:PE X f tx)(m:M2 X o "get" ai e f ah):PE X (.Call (.Attribute o "get" ai) [e,f] [] ah) (R1 td ty tx):=by
 intro aa s σ H Q I h;refine wpAny_Call_method m.base m.few m.line PySem.F.plainAttrs_dict PySem.F.slot_dict_get PySem.F.type_dict_get (e_ (ho aa s σ H _ I h) λu s1 hP=>?_);obtain⟨x,H1,I1,rx,a,ex,d,q1⟩:=hP;subst ex;obtain rfl:u=Value.ref a:=rx;obtain⟨t1,t2,_⟩:=ZA I1 d;refine⟨t1,t2,?_⟩;rw[m.trees];refine Calls.callWith_builtin rfl (Calls.evalArgs_plain (Calls.spliced_cons (e_ (he aa s1 σ H1 _ I1 q1) λiv s2 ⟨y,H2,I2,ry,q2⟩ =>
  Calls.spliced_cons (e_ (hf aa s2 σ H2 _ I2 q2) λfv s3 ⟨z,H3,I3,rz,ov,g,q3⟩=>Calls.spliced_nil ?_))))
 exact Rs hu I3 g ry rz λw' s4 I4 eR=>⟨_,H3,I4,eR,q3⟩
def we(a:Addr)(o:Obj)(kvs:xy):It:=⟨λi H=>H a=some (.frz o (.dK kvs))/\i<kvs.length,λi H v H'=>H'=H/\∃k y,kvs[i]?=some (k,y)/\v=kV k,λi H=>H a=some (.frz o (.dK kvs))/\i=kvs.length⟩
def NO{k:nS}(h:(jz P w).is k u):z4 (kV k) u:=by
 have h:xU k u:=h;cases k with
 |inl i =>
  cases u<;>simp[xU,Value.isInt]at h
  .subst h;exact⟨_,rfl⟩
 |inr x =>
  cases u<;>simp[xU,Value.isStrOf]at h
  .subst h;exact⟨_,rfl⟩
def KV.at{κ:Type}{kvs:List (κ×V)}{vs:List (κ×Value)}(r:KV kvs vs):∀{i:Nat}{k:κ}{y:V},kvs[i]?=some (k,y)->∃u,vs[i]?=some (k,u)/\z4 y u:=by
 unfold KV at r
 induction r with
 |nil=>intro i k y h;cases h
 |@cons p q ps qs h t ih =>
  intro i k y e;cases i with
  |zero =>
   rw[List.getElem?_cons_zero]at e;cases e;obtain⟨q1,q2⟩:=q;obtain⟨h1,h2⟩:=h;cases h1;exact⟨q2,rfl,h2⟩
  |succ i =>
   rw[List.getElem?_cons_succ]at e ⊢;exact ih e
def Uq(it a:Addr)(o:Obj)(kvs:xy)(vs:List (nS×Value))(ep:Nat)(rel:KV kvs vs)(hD:∀h:Heap,h.get? a=some o->h.DictAt (jz P w) a vs ep) :
  Turn P w K tg (we a o kvs) [it] it (λi h=>h.IsKeyIter it a i vs.length ep) where
 mem:=by simp
 obj:=λi h st b hb=>by
  have e:b=it:=by simpa using hb
  subst e;obtain⟨o,ho,_,hd⟩:=st;exact⟨o,ho,λv z=>by rw[hd]at z;cases z⟩
 keep:=λi h h' st k=>let⟨o,ho,r⟩:=st;⟨o,k it xF o ho,r⟩
 item:=by
  intro X hP hw hK hc i aa s σ H E I hf st hg;subst hP hw hK;obtain⟨hg,dc⟩:=hg;obtain⟨ho,_⟩:=(show fX X.prog X.w H s.heap a (.frz o (.dK kvs))from I.hok a _ hg);obtain⟨f0,f1,f2,f3,f4,f5⟩:=hf it xF;obtain⟨⟨k,y⟩,hx⟩ : ∃p,kvs[i]?=some p:=⟨kvs[i],by simp[dc]⟩;obtain⟨u,hu,ru⟩:=rel.at hx;refine wpAny_pyNext_dict_item st (hD _ ho) hu λgN h' g6 dA sb=>?_;have I1:Inv X aa σ H { s with heap:=h' }:=I.turned (t':=s.toks) (λb ob hb e=>(sb.2 b hb).trans e) f0 f1 f3 f4 f5;obtain⟨oi,e,c,d⟩:=id dA;exact⟨gN,rfl,Mi (s:={ s with heap:=h' }) e c d xa ⟨kV k,H,I1,NO g6,⟨rfl,k,y,hx,rfl⟩,dA,λb hb=>(hf b hb).1⟩⟩
 done:=by
  intro X hP hw hK hc i aa s σ H E I hf st hg;subst hP hw hK;obtain⟨hg,rfl⟩:=hg;obtain⟨ho,_⟩:=(show fX X.prog X.w H s.heap a (.frz o (.dK kvs))from I.hok a _ hg);obtain⟨f0,f1,f2,f3,f4,f5⟩:=hf it xF;have hl:=rel.length;exact wpAny_pyNext_dict_end (I.ok.hd hc) st (hD _ ho) (by simp;exact WS (Eq.symm hl)) λh' eb=>⟨rfl,I.turned (t':=s.toks) (λb ob hb e=>eb b ob hb e) f0 f1 f3 f4 f5⟩
 self:=λ_ _ _ _ _ st h=>wpAny_pyIter_keyiter st h
def Pw(te:TE):TI:=λσ H R=>te σ H λx H1=>∃a kvs,x=.ref a/\H1 a=some (.dK kvs)/\∀o,R (we a o kvs) (upd H1 a (.frz o (.dK kvs)))
def ZK{l:Expr}{tl:TE}(hl:PE X l tl):PI X tg l (Pw tl):=by
 intro aa s σ H R I h;refine e_ (hl aa s σ H _ I h) λv s1 hP=>?_;obtain⟨x,H1,I1,r1,a,kvs,ex,ha,q⟩:=hP;subst ex;cases r1;have ok:=(show fX X.prog X.w H1 s1.heap a (.dK kvs)from I1.hok a _ ha);obtain⟨z,hd,vs,rel,o,es,ep,e,ex,ed,ek,epr,en⟩:=ok;have hD:∀h:Heap,h.get? a=some o->h.DictAt (jz X.prog X.w) a vs ep:=λh e=>⟨o,es,e,ex,ed,ek,epr,en⟩;have I2:Inv X aa σ (upd H1 a (.frz o (.dK kvs))) s1:=by
  have:=I1.write (x:=a) (e:=a) (o:=.frz o (.dK kvs)) (h':=s1.heap) (t':=s1.toks) (by rw[ha];exact True.intro) (.inl rfl) (λb u hb z=>z) ⟨o,e⟩ ⟨e,z,hd,vs,rel,o,es,ep,e,ex,ed,ek,epr,en⟩;exact this
 refine wpAny_pyIter_dict hd (hD _ e) ?_;refine⟨s1.zs,[s1.zs],_,we a o kvs,_,rfl,I2.kept (t':=s1.toks) λb ob z=>aG _ z,Uq _ a o kvs vs ep rel hD,⟨_,aV _ rfl,rfl,rfl⟩,λb hb=>?_,q o⟩;have e:b=s1.zs:=by simpa using hb
 subst e;exact I2.fpOk (aF _) (I2.hok.fresh (aF _))
def tI(g:TG):TG:=λv σ H Q=>∃R:L2.St->Hp->Prop,g v σ H R/\∀σ' H',R σ' H'->Q σ' H'
def tF(t:TT):TT:=λσ H Q=>∃R:Bool->Hp->Prop,t σ H R/\∀b H',R b H'->Q b H'
def PG.mono(h:PG X e g):PG X e (tI g):=λaa s σ H v u Q I r hP=>by obtain⟨R,h1,h2⟩:=hP;exact e_ (h aa s σ H v u R I r h1) λ_ s' hP=>by obtain⟨σ',H',I',q⟩:=hP;exact⟨σ',H',I',h2 σ' H' q⟩
def PTs.mono{t:TT}(h:PTs X a9 t):PTs X a9 (tF t):=λaa s σ H Q I hP=>by obtain⟨R,h1,h2⟩:=hP;exact e_ (h aa s σ H R I h1) λb s' hP=>by obtain⟨H',I',q⟩:=hP;exact⟨H',I',h2 b H' q⟩
structure Bm(K:Frag)(B:Addr)(m:Str)(f:Addr):Prop where
 ga:specialIn K (.ref B) "__getattribute__"=some (some (.builtin "type.__getattribute__"))
 rd:readsIn K B (.type "type")
 at_:findCls K (.ref B) (.type "type") m=some (.val (.ref f))
 hd:handedIn (.ref f)
 kp:keepIn K (.ref f)
section
variable{X:Cx}{k:Nat}{f B:Addr}{fd:FuncData}{ps:Θ}{sp:Sp}{c8:Β}{ds:Δ}{x m:Str}{p pos ai:Pos}{e:Expr}{es:zh}{t:TA}{Ex:Value->Ω->L2.St->Hp->Prop}
def Bm.get{aa:Γ}{σ:L2.St}{H:Hp}{s:Shared}{pl:Sem Bool}{A:Around}{E:Ξ}{Q:Value×Δ->Shared->Prop}(c:Bm X.K B m f)(I:Inv X aa σ H s)(h:∀t,Q (.ref f,[]) { s with toks:=t }) :
  wpAny (model X.prog X.w) A (getMethod (.ref B) m pl) Q E s :=
 PySem.W.method_cls I.kIn c.ga (PySem.W.cls_value I.kIn c.rd c.at_ c.hd (h _))
def Zm(c:Bm X.K B m f)(F:bV X.prog X.w X.K X.mg X.base cp k f fd ps sp)(hr:dU k X.A)(hg:Gl X x)(hm:X.mg x=some (.ref B))(hb:Binds X.K fd ps [])(ha:PA X (e::es) t)(ci:qk x:=by decide)
 (ce:qo X e es:=by rfl)(be:qh X pos es:=by rfl)
 (ht:eval (.Call (.Attribute (.Name x p) m ai) (e::es) [] pos) X.env=(do
   let ov <- eval (.Name x p) X.env
   standAt ai.atName
   let(f,first) <- holding [ov] (getMethod ov m pl)
   callWith pos f first (backTo pos (starEach (e::es) X.env)) (backToKw pos (keywordEach [] X.env))):=by rfl) :
  PE X (.Call (.Attribute (.Name x p) m ai) (e::es) [] pos) (Qt sp t):=by
 intro aa s σ H Q I h;refine methodCall_KW (pl:=pl) (yg I hg hm (c.get I λtk=>?_) ci) ht;refine callWith_K (first:=[]) (h₀:=X.base) I.ok.mod.kin c.kp (e_ (ha pos aa _ σ H _ (I.tok tk) h) λus s2 ⟨vs,H2,I2,r,q2⟩=>⟨I2.kIn,?_⟩) ce be;exact Fp (us:=us) (vs:=vs) F hr hb .nil Ie I2 r (by rw[append_nil];exact q2)
end
def z0.tup{K:Frag}{H H':Hp}{a:Addr}{xs:Β}(e:z0 H H')(h:SqT K H a xs):SqT K H' a xs:=by
 rcases h with(h|⟨o,h⟩)|h
 .exact .inl (.inl (e _ _ h))
 .exact .inl (.inr ⟨o,e _ _ h⟩)
 .exact .inr h
mutual
inductive jw(K:Frag)(H:Hp):V->PyData->Prop
 |non:jw K H .non .none
 |bl (b:Bool):jw K H (.bl b) (.bool b)
 |int (i:Int):jw K H (.int i) (.int i)
 |str (x:Str):jw K H (.str x) (.str x)
 |lst {a:Addr}{xs:Β}{ds:xj} : H a=some (.lst xs)->fj K H xs ds->jw K H (.ref a) (.list ds)
 |tup {a:Addr}{xs:Β}{ds:xj} : SqT K H a xs->fj K H xs ds->jw K H (.ref a) (.tuple ds)
inductive fj(K:Frag)(H:Hp):Β->xj->Prop
 |nil:fj K H [] []
 |cons {x:V}{xs:Β}{d:PyData}{ds:xj} : jw K H x d->fj K H xs ds->fj K H (x::xs) (d::ds)
end
mutual
theorem jw.same{K:Frag}{H H':Hp}(S:z0 H H'):∀{x:V}{d:PyData},jw K H x d->jw K H' x d
 |_,_,.non=>.non
 |_,_,.bl b=>.bl b
 |_,_,.int i=>.int i
 |_,_,.str x=>.str x
 |_,_,.lst e h=>.lst (S _ _ e) (fj.same S h)
 |_,_,.tup e h=>.tup (S.tup e) (fj.same S h)
theorem fj.same{K:Frag}{H H':Hp}(S:z0 H H'):∀{xs:Β}{ds:xj},fj K H xs ds->fj K H' xs ds
 |_,_,.nil=>.nil
 |_,_,.cons h t=>.cons (jw.same S h) (fj.same S t)
end
mutual
theorem Inv.readsK(I:Inv X aa σ H s):∀{x:V}{d:PyData}{v:Value},jw X.K H x d->z4 x v->∃as,Reads s.heap v d as
 |_,_,_,.non,r=>by cases r;exact⟨_,.none⟩
 |_,_,_,.bl b,r=>by cases r;exact⟨_,.bool b⟩
 |_,_,_,.int i,r=>by obtain⟨t,rfl⟩:=r;exact⟨_,.int i t⟩
 |_,_,_,.str x,r=>by obtain⟨t,rfl⟩:=r;exact⟨_,.str x t⟩
 |_,_,_,.lst e h,r=>by
  cases r;obtain⟨its,rv,⟨o,ho,hc,n,hd⟩⟩:=I.lstIs e;obtain⟨as,q⟩:=Inv.readsAllK I h rv;exact⟨_,.list ho hc hd q⟩
 |_,_,_,.tup e h,r=>by
  cases r;obtain⟨its,rv,⟨o,ho,hc,n,hd⟩,_⟩:=I.tuple e;obtain⟨as,q⟩:=Inv.readsAllK I h rv;exact⟨_,.tuple ho hc hd q⟩
theorem Inv.readsAllK(I:Inv X aa σ H s):∀{xs:Β}{ds:xj}{vs:Δ},fj X.K H xs ds->z5 xs vs->∃as,ReadsAll s.heap vs ds as
 |_,_,_,.nil,r=>by cases r;exact⟨_,.nil⟩
 |_,_,_,.cons h t,r=>by
  cases r with
  |cons r1 r2 =>
   obtain⟨a,q1⟩:=Inv.readsK I h r1;obtain⟨b,q2⟩:=Inv.readsAllK I t r2;exact⟨_,.cons q1 q2⟩
end
def ym(K:Frag)(neg:Bool):R2:=λx y H Q=>∃d e,jw K H x d/\jw K H y e/\SeqAt.shaped d/\SeqAt.shaped e/\Q (.bl (if neg then !PyData.eqv d e else PyData.eqv d e)) H
def ZB(hu:X.A.units+64<cLine):OpR X (compareOp .Eq) (ym X.K false):=by
 intro aa s σ H x y v u Q I rx ry h;obtain⟨d,e,hd,he,sd,se,q⟩:=h;obtain⟨as,ra⟩:=I.readsK hd rx;obtain⟨bs,rb⟩:=I.readsK he ry;exact SeqAt.compareEq_shaped ra rb sd se hu ⟨.bl _,H,I,rfl,q⟩
def Su(hu:X.A.units+64<cLine):OpR X (compareOp .NotEq) (ym X.K true):=by
 intro aa s σ H x y v u Q I rx ry h;obtain⟨d,e,hd,he,sd,se,q⟩:=h;obtain⟨as,ra⟩:=I.readsK hd rx;obtain⟨bs,rb⟩:=I.readsK he ry;exact SeqAt.compareNe_shaped ra rb sd se hu ⟨.bl _,H,I,rfl,q⟩
def Zo(K:Frag):Β->Hp->VK->Prop:=λxs H Q=>∃p T ys,xs=[.ref p,.ty T]/\T∈["bool","int","str","list","tuple","dict"]/\SqT K H p ys/\Q (.bl (Jo "tuple" T)) H
def M5:jf X (.builtin "isinstance") (Zo X.K):=by
 intro aa s σ H xs us Q I r h;obtain⟨p,T,ys,rfl,hT,hp,q⟩:=h;obtain⟨u,v,rfl,ru,rv⟩:=r.two;cases ru;cases rv;obtain⟨its,rvs,⟨o,ho,hc,n,hd⟩,_⟩:=I.tuple hp;refine kia_one (kitx_tuple (a:=p)) I.kIn ⟨o,ho,hc⟩ (Rx (K:=X.K) (t:="tuple") xa hT) (λz=>nomatch z) λtk=>⟨.bl _,H,I.tok _,rfl,q⟩
def OkI(P:Program)(w:World)(K:Frag)(mg:Str->Ψ)(base:Heap)(CX:p_)(k:Nat)(f:Addr)(ps:Θ)(sp:Sp):Prop:=∃fd,bV P w K mg base CX k f fd ps sp/\Binds K fd ps []
def vL(K:Frag)(x qual:Str)(st:Stmt)(ps:Θ)(f:Addr):Prop:=∃fd,Fun K x qual st f fd/\∀us:Δ,us.length=ps.length->bindArgs fd ⟨us,[]⟩=pure (ps.zip us)
variable{f c c0 Pt fR:Addr}{k i kL:Nat}{o:Obj}{p:Pos}{vs:Β}{cl:ze}{y:Str}{params:Arguments}{body:Expr}{as L:Φ}{js:zD}{spL:Β->Sp}{spR:Β->Addr->Sp}
def vL.ok{CX:p_}(h:vL K x qual st ps f)(hf:∀fd,Fun K x qual st f fd->bV P w K mg base CX k f fd ps sp):OkI P w K mg base CX k f ps sp :=
 by obtain⟨fd,a,b⟩:=h;exact⟨fd,hf fd a,.all b⟩
def Yr{od an:Ω}{kV bi af ct:Value}
 (l:K.lookup f=some ⟨oc,od,.func (PySem.W.fnOf x qual (gK st) (dJ st) (bF st) .none kV bi pm an af ct),de⟩)(c:codeIn K af qual)(k:keepIn K (.ref f))
 (hb:∀(kV bi pm:Value)(an:Ω)(af ct:Value)(us:Δ),us.length=ps.length->bindArgs (PySem.W.fnOf x qual (gK st) (dJ st) (bF st) .none kV bi pm an af ct) ⟨us,[]⟩=pure (ps.zip us)):vL K x qual st ps f :=
 ⟨_,Ov l c k,hb kV bi pm an af ct⟩
section
variable{X:Cx}{k:Nat}{f C B:Addr}{ps:Θ}{sp:Sp}{x m:Str}{p pos ai:Pos}{e o:Expr}{es:zh}{ta:TE}{t:TA}{Ex:Value->Ω->L2.St->Hp->Prop}
def W4(C:Addr)(m:Str)(sp:Sp)(ta:TE)(t:TA):TE:=λσ H Q=>ta σ H λx H1=>∃a dx fs,x=.ref a/\H1 a=some (.ins C dx fs)/\fs.lookup m=none/\t σ H1 λvs H2=>sp (x::vs) H2 Q E0
abbrev zv(X:Cx):=OkI X.prog X.w X.K X.mg X.base
def Xi(he:PE X o ta)(c:Cls X.K C)(hm:Meth X.K C m f)(G:zv X cp k f ps sp)(hr:dU k X.A)(ha:PA X (e::es) t)
 (ce:qo X e es:=by rfl)(be:qh X pos es:=by rfl)
 (ht:eval (.Call (.Attribute o m ai) (e::es) [] pos) X.env=(do
   let ov <- eval o X.env
   standAt ai.atName
   let(f,first) <- holding [ov] (getMethod ov m pl)
   callWith pos f first (backTo pos (starEach (e::es) X.env)) (backToKw pos (keywordEach [] X.env))):=by rfl) :
  PE X (.Call (.Attribute o m ai) (e::es) [] pos) (W4 C m sp ta t):=by
 obtain⟨fd,F,hb⟩:=G;refine(Y9 (pl:=pl) he.mono c hm F hr hb .nil Ie ha.mono ce be ht).imp λσ H Q h=>⟨_,h,?_⟩;rintro x H1 ⟨a,dx,fs,h1,h2,h3,h4⟩;refine⟨a,dx,fs,h1,h2,h3,_,h4,λvs H2 q=>?_⟩;show sp (x::(vs++[])) H2 Q E0;rwa[append_nil]
def Tf(he:PE X o ta)(c:Cls X.K C)(hm:Meth X.K C m f)(G:zv X cp k f ps sp)(hr:dU k X.A)
 (ht:eval (.Call (.Attribute o m ai) [] [] pos) X.env=(do
   let ov <- eval o X.env
   standAt ai.atName
   let(f,first) <- holding [ov] (getMethod ov m pl)
   callWith pos f first (backTo pos (starEach [] X.env)) (backToKw pos (keywordEach [] X.env))):=by rfl) :
  PE X (.Call (.Attribute o m ai) [] [] pos) (W4 C m sp ta xI):=by
 obtain⟨fd,F,hb⟩:=G;refine(XC (pl:=pl) he.mono c hm F hr hb .nil Ie ht).imp λσ H Q h=>⟨_,h,?_⟩;rintro x H1 ⟨a,dx,fs,h1,h2,h3,h4⟩;exact⟨a,dx,fs,h1,h2,h3,h4⟩
def UG{D:Addr}{pos:Pos}(hg:Gl X x)(hm:X.mg x=some (.ref D))(hd:qk x:=by decide):PE X (.Name x pos) (tC (.ref D)):=QX hg hm rfl hd
end
def Ib{ob:Obj}(e:(h.push o).get? b=some ob)(hs:b≠h.objs.size):h.get? b=some ob:=by
 obtain⟨e1,e2⟩:=Heap.get?_some_iff.mp e;refine Heap.get?_some_iff.mpr ⟨?_,e2⟩;cases h;simpa[Heap.push,Array.getElem?_push,hs]using e1
theorem Nm:∀{ys:Θ}{vs:Δ},z5 (ys.map V.str) vs->StrsAre vs ys
 |[],_,h=>by cases h;exact .nil
 |y::ys,_,h=>by
  rw[map_cons]at h;cases h with
  |cons a b =>
   obtain⟨t,rfl⟩:=a;exact .cons y t (Nm b)
def rJoin:V->Β->Hp->VK->Prop:=λx vs H Q=>∃a l ys,x=.str a/\vs=[.ref l]/\H l=some (.lst (ys.map V.str))/\(ys.map (·.length)).sum+ys.length*a.length<=16777216/\Q (.str (Txt.join a ys)) H
def Zj:yA X "str.join" rJoin:=by
 intro aa s σ H x vs v us Q I rx rv h;obtain⟨a,l,ys,rfl,rfl,hl,hz,q⟩:=h;obtain⟨t,rfl⟩:=rx;obtain⟨u,rfl,ru⟩:=rv.one;cases ru;obtain⟨_,its,n,r,_,e⟩:=I.lstM hl;exact join_list ⟨_,e,rfl,n,rfl⟩ (by simpa using Nm r) hz λt' k=>⟨.str _,H,I.tok _,⟨_,rfl⟩,q⟩
def U8{i0:Nat}{y0:Str}{py cS:Pos}{xs N':Θ}(E:Rm X scope xs ext fn)(hc:X.calm)(ge:HF xs X.N=N')(cx:scope.kind=.function)(c6:∀y∈scope.names,y.2=.local->scope.names.lookup y.1=some .local)
 (bo:∀y∈scope.names,y.2=.free->X.env.kindOf y.1=some .cell\/X.env.kindOf y.1=some .free)(fe:∀y∈X.N,y∉xs->(relabel scope X.env).names.lookup y≠some .local)(hq:∀y∈X.N,y∈xs->(relabel scope X.env).names.lookup (hid y)=none)(hi:PI X tg iter wi)
 (hg:∀C s₀ H₀ ex pn,PG (X.compE ext fn N' scope xs C s₀ H₀ ex pn) tg gt)(ht:∀C s₀ H₀ ex pn,PTs (X.compE ext fn N' scope xs C s₀ H₀ ex pn) a9 tc)(he:∀C s₀ H₀ ex pn,PE (X.compE ext fn N' scope xs C s₀ H₀ ex pn) bv te)(g9:PG X (.Name y0 py) (qF i0))(gS:swapsWith (.ListComp bv [⟨tg,iter,a9,0⟩] scope pos) (some (.Name y0 py)) cS.line X.env=pure true)(hs:qV X iter) :
  PS X (.Assign [.Name y0 py] (.ListComp bv [⟨tg,iter,a9,0⟩] scope pos) cS) (LR (uY wi xs.length gt tc te) (qF i0)):=by
 intro aa s σ H D0 I h;have h:uY wi xs.length gt tc te σ H (λx H1=>qF i0 x σ H1 D0.nx):=h;rw[exec_Assign_Name_used _ _ _ _ gS];refine ZU (wpAny_standAt (ZU ?_));show wpAny _ X.A (comprehension (.ListComp bv [⟨tg,iter,a9,0⟩] scope pos) scope X.env _ (newList []) false (eval iter X.env) (some (assign (.Name y0 py) X.env)) >>= λ_=>_) _ _ s;refine ZU (wpAny_mono (Ij (use:=some (assign (.Name y0 py) X.env)) (post:=λ_ s'=>SP X aa D0 .next s') E hc ge cx c6 bo fe hq hi hg ht he hs I h λC D Hc s6 m fl iN I6 fC qn=>?_) (λ_ s' hq=>ZT (ZT hq)) λ_ _ e=>e);obtain⟨oc,es,ep,ho,me,_⟩:=id iN;have I7:=I6.pinned (fp:=[C]) (λb hb=>by rwa[YR.mp hb]) λb hb=>by
  rw[YR.mp hb];exact⟨oc,ho,λv z=>by rw[me]at z;cases z⟩
 show wpAny _ X.A (assign (.Name y0 py) X.env _) _ _ s6;refine e_ (g9 _ s6 σ Hc (.ref D) _ D0.nx I7 rfl qn) λ_ s7 hP=>?_;obtain⟨σ7,H7,Z7,q7⟩:=hP;have pn7:=Z7.pin (C,oc) (aO _ (aO _ (oV xF ho)));refine⟨m,iN.at' λo e=>?_,λh' kX=>⟨σ7,H7,Z7.unpinned.turned (it:=C) (h':=h') (t':=s7.toks) (λb o hb e=>(kX.2 b hb).trans e) pn7.2.1 fC.2.1 fC.2.2.2.1 fC.2.2.2.2.1 fC.2.2.2.2.2,q7⟩⟩;rw[ho]at e;cases e;exact pn7.1
def Inv.turnedL{t':Nat}{ch:Φ}(I:Inv X aa σ H s)(k:∀b o,b∉ch->s.heap.get? b=some o->h'.get? b=some o)(hf:∀b∈ch,Cd X aa H b):Inv X aa σ H { s with heap:=h',toks:=t' }:=by
 have ik:∀b u,H b=some u->b∉ch:=λb u e z=>by rw[(hf b z).1]at e;cases e
 refine I.step (g':=s.gens) (d':=s.drawn) (ch:=ch) (λb hb=>⟨(hf b hb).2.2.2.1,(hf b hb).2.1,(hf b hb).2.2.2.2.1,(hf b hb).2.2.2.2.2⟩) (λb o _ _ hc e _=>k b o hc e) (λb o _ _ hc e _=>⟨o.slots,k b o hc e⟩) (λ_ _ _ _ n=>n) (λb o hc e=>⟨o,k b o hc e⟩) (λ_ _ e=>e) (λ_ _ _ e=>e) (λb ps e=>⟨#[],by rw[e];simp⟩) (λm hm=>?_) (λb u e=>?_) I.bare
 .obtain⟨o,es,ep,ho,r⟩:=hm;exact⟨o,es,ep,k _ o (λz=>(hf _ z).2.1 rfl) ho,r⟩
 .refine(I.hok b u e).stay (λc v hc q=>k c v ?_ q) (λ_ q=>q) λ_ _ q=>q;rcases hc with z|z
  .rw[z];exact ik b u e
  .exact ik c _ z
def y9(a b:Addr):It:=⟨λi H=>∃xs ys,H a=some (.lst xs)/\H b=some (.lst ys)/\i<xs.length/\i<ys.length,λi H v H'=>∃xs ys x y t,H a=some (.lst xs)/\H b=some (.lst ys)/\xs[i]?=some x/\ys[i]?=some y/\H t=none/\v=.ref t/\H'=upd H t (.tup [x,y]),λi H=>∃xs ys,H a=some (.lst xs)/\H b=some (.lst ys)/\(xs.length<=i\/ys.length<=i)⟩
def oA{g:Heap}{l:Addr}(x:h.IsListIter a l i)(k:∀o,h.get? a=some o->g.get? a=some o):g.IsListIter a l i:=by obtain⟨o,e,r⟩:=x;exact⟨o,k o e,r⟩
def Ku{vs:Δ} : z5 xs vs->∀{i:Nat}{x:V},xs[i]?=some x->∃u,vs[i]?=some u/\z4 x u:=by
 intro h
 induction h with
 |nil=>intro i x e;cases e
 |cons a b ih =>
  intro i x e;cases i with
  |zero=>rw[List.getElem?_cons_zero]at e;cases e;exact⟨_,rfl,a⟩
  |succ i=>rw[List.getElem?_cons_succ]at e ⊢;exact ih e
def VJ{x1}(z TI TO i1 i2 l1 l2:Addr)(D:ZipApart z TI TO i1 i2 l1 l2) :
  Turn P w K (.Tuple bX x1 pos) (y9 l1 l2) [z,TI,TO,i1,i2] z (λi h=>IsZip h z TI TO .none/\IsPair h TI (.ref i1) (.ref i2)/\(∃p q,IsPair h TO p q)/\h.IsListIter i1 l1 i/\h.IsListIter i2 l2 i) where
 mem:=by simp
 obj:=by
  rintro i h ⟨s1,s2,⟨p,q,s3⟩,⟨o4,s4,_,d4⟩,⟨o5,s5,_,d5⟩⟩ b hb;simp only[YU,VS,or_false]at hb;rcases hb with rfl|rfl|rfl|rfl|rfl
  .exact⟨_,s1,λv e=>by cases e⟩
  .exact⟨_,s2,λv e=>by cases e⟩
  .exact⟨_,s3,λv e=>by cases e⟩
  .exact⟨_,s4,λv e=>by rw[d4]at e;cases e⟩
  .exact⟨_,s5,λv e=>by rw[d5]at e;cases e⟩
 keep:=λi h h' ⟨s1,s2,⟨p,q,s3⟩,s4,s5⟩ k=>⟨k z xF _ s1,k TI xF _ s2,⟨p,q,k TO xF _ s3⟩,oA s4 (k i1 xF),oA s5 (k i2 xF)⟩
 item:=by
  intro X hP hw hK hc i aa s σ H E I hf st hg;subst hP hw hK;obtain⟨s1,s2,⟨p,q,s3⟩,s4,s5⟩:=st;obtain⟨xs,ys,ha,hb,kK,lt2⟩:=hg;obtain⟨_,eW,n1,f7,le1,g1⟩:=I.lstM ha;obtain⟨_,ip,n2,kz,le2,g2⟩:=I.lstM hb;have ex:xs[i]?=some xs[i]:=aj kK;have ey:ys[i]?=some ys[i]:=aj lt2;obtain⟨u,hu,ru⟩:=Ku f7 ex;obtain⟨v,hv,rv⟩:=Ku kz ey;refine wpAny_pyNext_zip_item D s1 s2 s3 s4 s5 (xs:=eW.toArray) (ys:=ip.toArray) ⟨_,g1,rfl,n1,rfl⟩ ⟨_,g2,rfl,n2,rfl⟩ (x:=u) (y:=v) (by simpa using hu) (by simpa using hv) λh' a1 a2 a3 a4 a5 a6 a7=>⟨_,rfl,?_⟩;refine wpAny_letOwnedTupleGo_zip a1 λh2 f6 sb=>?_;have nt:H s.zs=none:=I.fresh;have I1:=I.laid (a:=s.zs) (o:=.tup [xs[i],ys[i]]) (h':=s.heap.push { cls:=.type "tuple",data:=.seq #[u,v] }) (t':=s.toks) (λb q z=>aG _ z) (aF _)
   ⟨(by show 2<=sizeLine;decide),[u,v],.cons ru (.cons rv .nil),_,aV _ rfl,rfl,_,rfl⟩
  have nz:z≠s.zs:=aP (aJ s1);have nO:TO≠s.zs:=aP (aJ s3);have nI:TI≠s.zs:=aP (aJ s2);have kF:i1≠s.zs:=by obtain⟨o,e,_⟩:=s4;exact aP (aJ e)
  have n2':i2≠s.zs:=by obtain⟨o,e,_⟩:=s5;exact aP (aJ e)
  have i9:∀b∈[z,TI,TO,i1,i2],upd H s.zs (.tup [xs[i],ys[i]]) b=none:=by
   intro b hb;have f0:=(hf b hb).1;simp only[YU,VS,or_false]at hb;rcases hb with rfl|rfl|rfl|rfl|rfl
   .exact(bZ nz).trans f0
   .exact(bZ nI).trans f0
   .exact(bZ nO).trans f0
   .exact(bZ kF).trans f0
   .exact(bZ n2').trans f0
  have I2:=I1.turnedL (ch:=[z,TO,i1,i2]) (h':=h2) (t':=s.toks) (λb ob hb e=>by
   simp only[YU,VS,or_false,not_or]at hb;obtain⟨b1,b2,b3,b4⟩:=hb;refine(sb.2 b b1).trans ?_;by_cases hs:b=s.zs
   .subst hs;have e2:=aV s.heap (o:={ cls:=.type "tuple",data:=.seq #[u,v] }) rfl;have e:(s.heap.push { cls:=.type "tuple",data:=.seq #[u,v] }).get? s.zs=some ob:=e;rw[e2]at e;cases e;exact a5
   .exact a7 b _ b1 b2 b3 b4 (Ib e hs)) λb hb=>by
    have dq:b∈[z,TI,TO,i1,i2]:=by
     simp only[YU,VS,or_false]at hb ⊢;rcases hb with h|h|h|h<;>simp[h]
    exact⟨i9 b dq,(hf b dq).2⟩
  have mv:∀c o,c≠z->h'.get? c=some o->h2.get? c=some o:=λc o n e=>(sb.2 c n).trans e;exact⟨.ref _,_,I2,rfl,⟨xs,ys,_,_,_,ha,hb,ex,ey,nt,rfl,rfl⟩,⟨f6,mv _ _ D.TIz (a7 _ _ D.TIz D.TITO D.TIi1 D.TIi2 s2),⟨_,_,mv _ _ D.TOz a2⟩,oA a3 λo e=>mv _ _ D.i1z e,oA a4 λo e=>mv _ _ D.i2z e⟩,i9⟩
 done:=by
  intro X hP hw hK hc i aa s σ H E I hf st hg;subst hP hw hK;obtain⟨s1,s2,⟨p,q,s3⟩,s4,s5⟩:=st;obtain⟨xs,ys,ha,hb,lt⟩:=hg;obtain⟨_,eW,n1,f7,le1,g1⟩:=I.lstM ha;obtain⟨_,ip,n2,kz,le2,g2⟩:=I.lstM hb;refine wpAny_pyNext_zip_end (I.ok.hd hc) D s1 s2 s3 s4 s5 (xs:=eW.toArray) (ys:=ip.toArray) ⟨_,g1,rfl,n1,rfl⟩ ⟨_,g2,rfl,n2,rfl⟩ (by simp;lia) λh' k=>⟨rfl,I.turnedL (ch:=[z,TO,i1,i2]) (t':=s.toks) (λb ob hb e=>?_) λb hb=>?_⟩
  .simp only[YU,VS,or_false,not_or]at hb;exact k b ob hb.1 hb.2.1 hb.2.2.1 hb.2.2.2 e
  .exact hf b (by
    simp only[YU,VS,or_false]at hb ⊢;rcases hb with h|h|h|h<;>simp[h])
 self:=λ_ _ _ _ _ ⟨s1,_⟩ h=>wpAny_pyIter_zip s1 h
def TY(n l1 l2:Nat)(h1:l1<n)(h2:l2<n):ZipApart (n+4) (n+2) (n+3) n (n+1) l1 l2:=by
 constructor<;>first|exact aP (by omega)|exact UY xB
def Zy(n b:Nat)(h:b=n+4\/b=n+2\/b=n+3\/b=n\/b=n+1):n<=b:=by lia
def boot_zip:bootBuiltins "zip"=some (.type "zip"):=by decide +kernel
def LO(ta:TA):TI:=λσ H R=>ta σ H λvs H1=>∃a b xs ys,vs=[.ref a,.ref b]/\H1 a=some (.lst xs)/\H1 b=some (.lst ys)/\R (y9 a b) H1
def YI{a b:Expr}{x1}{aT:Pos}(hg:Gl X "zip")(hm:X.mg "zip"=none)(ha:PA X [a,b] ta)(hs:starEach [a,b] X.env=[(false,eval a X.env),(false,eval b X.env)]:=by rfl)(gT:starEach [b] X.env=[(false,eval b X.env)]:=by rfl) :
  PI X (.Tuple bX x1 aT) (.Call (.Name "zip" p) [a,b] [] pos) (LO ta):=by
 intro aa s σ H R I h;refine Call_ (Ab I hg hm boot_zip (PyProof.Rows.callWith_type1 (e_ (ha pos aa s σ H _ I h) λus s1 hP=>?_) (by rw[hs,gT]) (by rw[gT];rfl)));obtain⟨vs,H1,I1,r1,q1⟩:=hP;obtain⟨l1,l2,xs,ys,e,h1,h2,q⟩:=q1;subst e;obtain⟨u,v,rfl,ru,rv⟩:=r1.two;cases ru;cases rv;obtain⟨_,eW,n1,f7,le1,g1⟩:=I1.lstM h1;obtain⟨_,ip,n2,kz,le2,g2⟩:=I1.lstM h2;have z1:=aJ g1;have z2:=aJ g2;refine call_zip_2 (xs:=eW.toArray) (ys:=ip.toArray) ⟨_,g1,rfl,n1,rfl⟩ ⟨_,g2,rfl,n2,rfl⟩ λh' a1 a2 a3 a4 a5 a6 a7=>?_;refine wpAny_pyIter_zip a1 ?_;refine⟨_,[s1.zs+4,s1.zs+2,s1.zs+3,s1.zs,s1.zs+1],_,y9 l1 l2,H1,rfl,I1.kept (t':=s1.toks) λb ob e=>a7 b ob e,VJ _ _ _ _ _ l1 l2 (TY _ _ _ z1 z2),⟨a1,a2,⟨_,_,a3⟩,a4,a5⟩,λb hb=>?_,q⟩;have dq:s1.zs<=b:=by
  simp only[YU,VS,or_false]at hb;exact Zy _ _ hb
 exact I1.fpOk dq (I1.hok.fresh dq)
theorem RM(c:Nat):∀(n:Nat)(acc:Array Nat),((replicate n #[c]).foldl (· ++ ·) acc).toList=acc.toList++replicate n c
 |0,acc=>by simp
 |n+1,acc=>by
  rw[replicate_succ,foldl_cons,RM c n,Array.toList_append,WZ]
  rfl
def MH:R2:=λx y H Q=>∃c n,x=.str ⟨#[c]⟩/\y=.int n/\1<=n/\n<=1000/\∀z:Str,z.cps.toList=replicate n.toNat c->Q (.str z) H
def ZF:OpR X (binaryOp .Mult) MH:=by
 intro aa s σ H x y v u Q I rx ry h;obtain⟨c,n,rfl,rfl,h0,h1,q⟩:=h;obtain⟨t,rfl⟩:=rx;obtain⟨t',rfl⟩:=ry;have hi:(⟨#[c]⟩ : Str).length=1:=rfl;have made:∀z:Str,z.cps.toList=replicate n.toNat c->(Made.str z).post (EP X aa σ Q) s:=λz hz=>⟨by
  have:z.length=n.toNat:=by
   show z.cps.size=_;rw[<- Array.length_toList,hz,aM]
  exact aK (show z.length<=1001 by lia) xa,.str z,H,I.tok _,⟨_,rfl⟩,q z hz⟩
 refine PySem.P.mul_str ?_ (λ_ _=>?_) (λ_ _=>?_) ?_
 .rw[Zp xB,Zp xB];rfl
 .rw[hi];have:1<=(2^63-1:Int)/n:=Int.le_ediv_of_mul_le (by omega) xB;lia
 .rw[hi];unfold Builtin.Str.tooLong;exact Zp (by
   have:n.toNat<=1000:=by lia
   have e:1000<=sizeLine:=by decide
   lia)
 .split
  .lia
  .split
   .rename_i hc
    rw[hi]at hc;have e:n.toNat=1:=by
     simp at hc;lia
    refine⟨.str ⟨#[c]⟩,H,I,⟨t,rfl⟩,q _ ?_⟩;rw[e];rfl
   .refine made _ ?_;show((replicate n.toNat #[c]).foldl (· ++ ·) #[]).toList=_;rw[RM];rfl
def NY:Β->Hp->VK->Prop:=λxs H Q=>∃(l:Addr)(bs:xf),xs=[.ref l]/\H l=some (.lst (bs.map V.bl))/\Q (.bl (bs.any id)) H
theorem sW:∀bs:xf,((range bs.length).any λi=>(bs[i]?).getD true)=bs.any id
 |[]=>rfl
 |b::bs=>by
  rw[length_cons,List.range_succ_eq_map,any_cons,any_map,any_cons];have:=sW bs;simp only[Function.comp_def,List.getElem?_cons_succ,List.getElem?_cons_zero,getD_some,id]at this ⊢;rw[this]
def Tv(hc:X.calm):jf X (.builtin "any") NY:=by
 intro aa s σ H xs us Q I r h;obtain⟨l,bs,rfl,hl,q⟩:=h;obtain⟨u,rfl,ru⟩:=r.one;cases ru;obtain⟨its,rv,p⟩:=I.lstIs hl;have dc:l<s.zs:=by obtain⟨_,e,_⟩:=p;exact aJ e
 refine call_any_walk (wpAny_pyIter_list p ?_);refine⟨s.zs,[s.zs,l],[s.zs],its.toArray.size,_,_,λi=>(bs[i]?).getD true,rfl,Walks.list (A:=X.A.in1) (I.ok.hd hc) _ l (aP dc) its.toArray,
  ⟨⟨_,aV _ rfl,rfl,rfl⟩,p.push _⟩,λi v s' Q' E' hP hQ=>?_,λh' tk hk=>?_⟩
 .obtain⟨b,e,rfl⟩:=Af rv i v (by simpa using hP);simp only[e,getD_some]at hQ;exact wpAny_truthy_bool hQ
 .have e:((range its.toArray.size).any λi=>(bs[i]?).getD true)=bs.any id:=by
   rw[aW,<- rv.length,ak];exact sW bs
  refine⟨.bl (bs.any id),H,I.kept (t':=tk) λb o q=>hk b o (λhm=>?_) (aG _ q),?_,q⟩
  .rw[YR.mp hm]at q;exact X9 _ (aJ q)
  .rw[e];rfl
def y_(l:Addr):It:=⟨λi H=>∃xs,H l=some (.lst xs)/\i<xs.length,λi H v H'=>∃xs x t,H l=some (.lst xs)/\xs[i]?=some x/\H t=none/\v=.ref t/\H'=upd H t (.tup [.int i,x]),λi H=>∃xs,H l=some (.lst xs)/\xs.length<=i⟩
def S9{x1}(e it l:Addr)(g4:e≠it) :
  Turn P w K (.Tuple bX x1 pos) (y_ l) [e,it] e (λi h=>(∃old,IsEnum h e it ((i:Nat):Int) old)/\h.IsListIter it l i) where
 mem:=by simp
 obj:=by
  rintro i h ⟨⟨old,s1⟩,⟨o4,s4,_,d4⟩⟩ b hb;simp only[YU,VS,or_false]at hb;rcases hb with rfl|rfl
  .exact⟨_,s1,λv e=>by cases e⟩
  .exact⟨_,s4,λv e=>by rw[d4]at e;cases e⟩
 keep:=λi h h' ⟨⟨old,s1⟩,s4⟩ k=>⟨⟨old,k e xF _ s1⟩,oA s4 (k it xF)⟩
 item:=by
  intro X hP hw hK hc i aa s σ H E I hf st hg;subst hP hw hK;obtain⟨⟨old,s1⟩,s4⟩:=st;obtain⟨xs,ha,kK⟩:=hg;obtain⟨_,eW,n1,f7,le1,g1⟩:=I.lstM ha;have ex:xs[i]?=some xs[i]:=aj kK;obtain⟨u,hu,ru⟩:=Ku f7 ex;refine wpAny_pyNext_enum_item s1 s4 (items:=eW.toArray) ⟨_,g1,rfl,n1,rfl⟩ (x:=u) (by simpa using hu) g4 λh' a1 a3 a5 a6 a7=>⟨_,rfl,?_⟩;refine wpAny_letOwnedTupleGo_enum a1 λh2 f6 sb=>?_;have nt:H s.zs=none:=I.fresh;have I1:=I.laid (a:=s.zs) (o:=.tup [.int i,xs[i]]) (h':=s.heap.push { cls:=.type "tuple",data:=.seq #[.int i s.toks,u] }) (t':=s.toks+1) (λb q z=>aG _ z) (aF _)
   ⟨(by show 2<=sizeLine;decide),[.int i s.toks,u],.cons ⟨_,rfl⟩ (.cons ru .nil),_,aV _ rfl,rfl,_,rfl⟩
  have nz:e≠s.zs:=aP (aJ s1);have kF:it≠s.zs:=by obtain⟨o,e,_⟩:=s4;exact aP (aJ e)
  have i9:∀b∈[e,it],upd H s.zs (.tup [.int i,xs[i]]) b=none:=by
   intro b hb;have f0:=(hf b hb).1;simp only[YU,VS,or_false]at hb;rcases hb with rfl|rfl
   .exact(bZ nz).trans f0
   .exact(bZ kF).trans f0
  have I2:=I1.turnedL (ch:=[e,it]) (h':=h2) (t':=s.toks+1) (λb ob hb z=>by
   simp only[YU,VS,or_false,not_or]at hb;obtain⟨b1,b3⟩:=hb;refine(sb.2 b b1).trans ?_;by_cases hs:b=s.zs
   .subst hs;have e2:=aV s.heap (o:={ cls:=.type "tuple",data:=.seq #[.int i s.toks,u] }) rfl;have z:(s.heap.push { cls:=.type "tuple",data:=.seq #[.int i s.toks,u] }).get? s.zs=some ob:=z;rw[e2]at z;cases z;exact a5
   .exact a7 b _ b1 b3 (Ib z hs)) λb hb=>⟨i9 b hb,(hf b hb).2⟩
  have mv:∀c o,c≠e->h'.get? c=some o->h2.get? c=some o:=λc o n z=>(sb.2 c n).trans z;exact⟨.ref _,_,I2,rfl,⟨xs,_,_,ha,ex,nt,rfl,rfl⟩,⟨⟨_,by rwa[Int.natCast_add]⟩,oA a3 λo z=>mv _ _ (λy=>g4 y.symm) z⟩,i9⟩
 done:=by
  intro X hP hw hK hc i aa s σ H E I hf st hg;subst hP hw hK;obtain⟨⟨old,s1⟩,s4⟩:=st;obtain⟨xs,ha,lt⟩:=hg;obtain⟨_,eW,n1,f7,le1,g1⟩:=I.lstM ha;have hl:=f7.length;refine wpAny_pyNext_enum_end (I.ok.hd hc) s1 s4 (items:=eW.toArray) ⟨_,g1,rfl,n1,rfl⟩ (by simp;lia) λh' k=>⟨rfl,I.turnedL (ch:=[e,it]) (t':=s.toks) (λb ob hb z=>?_) hf⟩;simp only[YU,VS,or_false,not_or]at hb;exact k b ob hb.2 z
 self:=λ_ _ _ _ _ ⟨⟨_,s1⟩,_⟩ h=>wpAny_pyIter_enum s1 h
def PP(ta:TA):TI:=λσ H R=>ta σ H λvs H1=>∃a xs,vs=[.ref a]/\H1 a=some (.lst xs)/\R (y_ a) H1
def ZP{a:Expr}{x1}{aT:Pos}(hg:Gl X "enumerate")(hm:X.mg "enumerate"=none)(ha:PA X [a] ta)(hs:starEach [a] X.env=[(false,eval a X.env)]:=by rfl) :
  PI X (.Tuple bX x1 aT) (.Call (.Name "enumerate" p) [a] [] pos) (PP ta):=by
 intro aa s σ H R I h;refine Call_ (Ab I hg hm boot_enumerate (PyProof.Rows.callWith_type1 (e_ (ha pos aa s σ H _ I h) λus s1 hP=>?_) (by rw[hs];rfl) (by rfl)));obtain⟨vs,H1,I1,r1,q1⟩:=hP;obtain⟨l1,xs,e,h1,q⟩:=q1;subst e;obtain⟨u,rfl,ru⟩:=r1.one;cases ru;obtain⟨_,eW,n1,f7,le1,g1⟩:=I1.lstM h1;refine call_enumerate_list (items:=eW.toArray) ⟨_,g1,rfl,n1,rfl⟩ λh' a1 a2 a3 a7=>?_;refine wpAny_pyIter_enum a1 ?_;refine⟨_,[s1.zs+1,s1.zs],_,y_ l1,H1,rfl,I1.kept (t':=s1.toks) λb ob e=>a7 b ob e,S9 _ _ l1 (Nat.succ_ne_self _),⟨⟨_,a1⟩,a2⟩,λb hb=>?_,q⟩;have dq:s1.zs<=b:=by
  simp only[YU,VS,or_false]at hb;rcases hb with z|z
  .rw[z];exact Xs _
  .rw[z];exact aF _
 exact I1.fpOk dq (I1.hok.fresh dq)
def Tl(f:Addr)(sp:Sp)(tv:TE)(t:TA):TE:=λσ H Q=>tv σ H λv H0=>v=.ref f/\t σ H0 λvs H1=>sp vs H1 Q E0
abbrev N9(C t:Addr)(d:Ω):Obj:={ cls:=.ref C,dict:=d,data:=.fields #[.ref t,.none,.none,.none,.bool false,.none] }
def XN(a C:Addr)(d:Ω):HO:=.ext λh=>∃t,h.get? a=some (N9 C t d)
def out(H:Hp)(a:Addr):Hp:=λb=>if b=a then none else H b
def mS{N P:Θ}{sc:Scope}(h1:sc.kind=.function:=by rfl)(h2:sc.isCoroutine=false:=by rfl)(h3:sc.isGenerator=false:=by rfl)(h4:N.Nodup/\(∀x∈P,sc.names.lookup x=some .local\/sc.names.lookup x=some .cell)/\∀y∈sc.names,y.2≠.free:=by decide +kernel)(h5:N.take P.length=P:=by rfl):bK N P sc:=⟨h1,h2,h3,h4.1,h5,h4.2.1,h4.2.2⟩
abbrev _d(sc scope:Scope)(N N' xs:Θ):Prop:=HF xs N=N'/\(∀y∈scope.names,y.2=.local->scope.names.lookup y.1=some .local)/\(∀y∈scope.names,y.2=.free->sc.names.lookup y.1=some .cell\/sc.names.lookup y.1=some .free) /\
 (∀y∈N,y∉xs->(scope.names.map λ(n,k)=>if(k==NameKind.free&&sc.kind == .function&&sc.names.lookup n==some .cell)then(n,NameKind.cell)else(n,k)).lookup y≠some .local)/\∀y∈N,y∈xs->(scope.names.map λ(n,k)=>if(k==NameKind.free&&sc.kind == .function&&sc.names.lookup n==some .cell)then(n,NameKind.cell)else(n,k)).lookup (hid y)=none
abbrev CK(sc scope:Scope)(N N' xs:Θ):Prop:=(∀y∈scope.names,y.2≠.cell)/\_d sc scope N N' xs
def GY(sc:Scope)(N N' xs:Θ)(hi:PI X tg iter wi)(hg:∀{C s₀ H₀ ex pn},PG (X.compG N' scope xs C s₀ H₀ ex pn) tg gt)(ht:∀{C s₀ H₀ ex pn},PTs (X.compG N' scope xs C s₀ H₀ ex pn) a9 tc)(he:∀{C s₀ H₀ ex pn},PE (X.compG N' scope xs C s₀ H₀ ex pn) bv te)
 (eB:X.env.scope=sc:=by rfl)(eK:X.N=N:=by rfl)(hc:X.calm:=by rfl)(hk:scope.kind=.function:=by rfl)(h:CK sc scope N N' xs:=by decide +kernel)(hs:qV X iter:=by intro _;rfl):PE X (.ListComp bv [⟨tg,iter,a9,0⟩] scope pos) (uY wi xs.length (tI gt) (tF tc) (tM te)) :=
 by
 subst eB eK;exact Vw (D8 hk h.1) hc h.2.1 hk h.2.2.1 h.2.2.2.1 h.2.2.2.2.1 h.2.2.2.2.2 hi (λ_ _ _ _ _=>hg.mono) (λ_ _ _ _ _=>ht.mono) (λ_ _ _ _ _=>he.mono) hs
def HK{i0:Nat}{y0:Str}{py cS:Pos}(sc:Scope)(N N' xs:Θ)(hi:PI X tg iter wi)(hg:∀{C s₀ H₀ ex pn},PG (X.compG N' scope xs C s₀ H₀ ex pn) tg gt)(ht:∀{C s₀ H₀ ex pn},PTs (X.compG N' scope xs C s₀ H₀ ex pn) a9 tc)(he:∀{C s₀ H₀ ex pn},PE (X.compG N' scope xs C s₀ H₀ ex pn) bv te)(g9:PG X (.Name y0 py) (qF i0))
 (eB:X.env.scope=sc:=by rfl)(eK:X.N=N:=by rfl)(hc:X.calm:=by rfl)(hk:scope.kind=.function:=by rfl)(h:CK sc scope N N' xs:=by decide +kernel)(gS:swapsWith (.ListComp bv [⟨tg,iter,a9,0⟩] scope pos) (some (.Name y0 py)) cS.line X.env=pure true:=by rfl)(hs:qV X iter:=by intro _;rfl) :
  PS X (.Assign [.Name y0 py] (.ListComp bv [⟨tg,iter,a9,0⟩] scope pos) cS) (LR (uY wi xs.length (tI gt) (tF tc) (tM te)) (qF i0)) :=
 by
 subst eB eK;exact U8 (D8 hk h.1) hc h.2.1 hk h.2.2.1 h.2.2.2.1 h.2.2.2.2.1 h.2.2.2.2.2 hi (λ_ _ _ _ _=>hg.mono) (λ_ _ _ _ _=>ht.mono) (λ_ _ _ _ _=>he.mono) g9 gS hs
def OV{i j:Int}{d:Ω}{n:Nat}{sl:Array (Ψ)}{t u:Tok}(l:K.lookup a=some ⟨.type "tuple",d,.seq #[.int i t,.int j u] n,sl⟩):∀H,SqT K H a [.int i,.int j]:=λH=>.inr ⟨_,_,_,l,rfl,rfl,(by show 2<=sizeLine;decide),.cons ⟨_,rfl⟩ (.cons ⟨_,rfl⟩ .nil)⟩
def LB{i:Int}{t:Tok}(X:K.In h)(G:h.Ns mainGlobals mg)(l:nsIn K mainGlobals x=some (some (.int i t))):∃u,mg x=some u/\z4 (.int i) u:=⟨_,mg_of X G l,_,rfl⟩
def vj:Nat->(Δ->Prop)->Prop
 |0,P=>P []
 |n+1,P=>∀a,vj n λl=>P (a::l)
theorem C_:∀(n:Nat){P:Δ->Prop},vj n P->∀us:Δ,us.length=n->P us
 |0,_,h,[],_=>h
 |n+1,_,h,a::l,e=>C_ n (h a) l (Nat.succ.inj e)
section
variable{K:Frag}{h:Heap}{mg:Str->Ψ}{x m qual:Str}{v:Value}{C f:Addr}{st:Stmt}{ps:Θ}{oc:Value}{od an:Ω}{de:Array (Ψ)}{kV bi pm af ct:Value}{i j:Int}{d:Ω}{n:Nat}{sl:Array (Ψ)}{t u:Tok}
def sQ(X:K.In h:=by assumption)(G:h.Ns mainGlobals mg:=by assumption)(e:nsIn K mainGlobals x=some (some v):=by k_is):mg x=some v:=mg_of X G e
def pj(X:K.In h:=by assumption)(G:h.Ns mainGlobals mg:=by assumption)(e:nsIn K mainGlobals x=some none:=by k_is):mg x=none:=PySem.W.mg_none_of X G e
def nN(e:findIn K (.ref C) x=some none:=by k_is):b_ K C x:=e
def sP(a:findIn K (.ref C) m=some (some (.ref f)):=by k_is)(b:isFn K (.ref f):=by k_is)(c:keepIn K (.ref f):=by k_is):Meth K C m f:=⟨a,b,c⟩
def uA(a:makesIn K C:=by k_is)(b:findIn K (.ref C) "__init__"=some (some (.ref f)):=by k_is)(c:isFn K (.ref f):=by k_is)(e:keepIn K (.ref C):=by k_is):Mk K C f:=⟨a,b,c,e⟩
def t7(a:plainGet K C Str.empty:=by k_is)(b:hasDictIn K C:=by k_is)(c:plainOver K C:=by k_is)(e:findIn K (.ref C) "__setattr__"=some (some (.builtin "object.__setattr__")):=by k_is):Cls K C:=⟨a,b,c,e⟩
def AC(a:specialIn K (.ref C) "__getattribute__"=some (some (.builtin "type.__getattribute__")):=by k_is)(b:readsIn K C (.type "type"):=by k_is)(c:findCls K (.ref C) (.type "type") m=some (.val (.ref f)):=by k_is)(e:keepIn K (.ref f):=by k_is):Bm K C m f:=⟨a,b,c,rfl,e⟩
def AB(X:K.In h:=by assumption)(G:h.Ns mainGlobals mg:=by assumption)(l:nsIn K mainGlobals x=some (some (.int i t)):=by k_is):∃u,mg x=some u/\z4 (.int i) u:=LB X G l
def AA(l:K.lookup C=some ⟨.type "tuple",d,.seq #[.int i t,.int j u] n,sl⟩:=by k_is):∀H,SqT K H C [.int i,.int j]:=OV l
def mT(hb:∀(kV bi pm:Value)(an:Ω)(af ct:Value),vj ps.length λus=>bindArgs (PySem.W.fnOf x x (gK st) (dJ st) (bF st) .none kV bi pm an af ct) ⟨us,[]⟩=pure (ps.zip us):=by repeat (first|rfl|intro _))(X:K.In h:=by assumption)(G:h.Ns mainGlobals mg:=by assumption)
 (a:nsIn K mainGlobals x=some (some (.ref f)):=by k_is)(l:K.lookup f=some ⟨oc,od,.func (PySem.W.fnOf x x (gK st) (dJ st) (bF st) .none kV bi pm an af ct),de⟩:=by k_is)
 (c:codeIn K af x:=by k_is)(k:keepIn K (.ref f):=by k_is):dG K mg x st ps:=Zn X G a l c k λkV bi pm an af ct us e=>C_ _ (hb kV bi pm an af ct) us e
def sm(hb:∀(kV bi pm:Value)(an:Ω)(af ct:Value),vj ps.length λus=>bindArgs (PySem.W.fnOf x qual (gK st) (dJ st) (bF st) .none kV bi pm an af ct) ⟨us,[]⟩=pure (ps.zip us):=by repeat (first|rfl|intro _))
 (l:K.lookup f=some ⟨oc,od,.func (PySem.W.fnOf x qual (gK st) (dJ st) (bF st) .none kV bi pm an af ct),de⟩:=by k_is)(c:codeIn K af qual:=by k_is)(k:keepIn K (.ref f):=by k_is):vL K x qual st ps f:=Yr l c k λkV bi pm an af ct us e=>C_ _ (hb kV bi pm an af ct) us e
end
def ON:R2:=λx y H Q=>∃l b xs zs,x=.ref l/\y=.ref b/\H l=some (.lst xs)/\H b=some (.lst zs)/\xs.length+zs.length<=sizeLine/\∀p H',z0 H H'->H p=none->H' p=some (.lst (xs++zs))->Q (.ref p) H'
def ZR:OpR X (binaryOp .Add) ON:=Sj.imp λx y H Q hP=>by obtain⟨l,b,xs,zs,e1,e2,h1,h2,z,q⟩:=hP;exact⟨l,b,xs,zs,e1,e2,h1,h2,z,λp hp=>q p _ (z0.upd hp) hp cj⟩
def sK(P:Program)(w:World)(K:Frag)(mg:Str->Ψ)(base:Heap)(k:Nat)(f:Addr)(ps:Θ)(sp:Sp):Prop :=
 ∃fd o,bV P w K mg base cp k f fd ps sp/\Binds K fd ps []/\base.get? f=some o/\o.data=.func fd
def ZL{M:Model}(hd:o.data=.func fd)(h:Heap)(e:h.get? f=some o):∃k,(k=Keeper.frame\/k=Keeper.machine\/k=Keeper.boundFrame)/\PySem.W.Looks M h (keeperOf (.ref f)) k:=by
 refine⟨.frame,.inl rfl,(PySem.W.Looks.ld (part:=none) e).andThen ?_⟩;rw[hd];exact .now
def Wq(G:sK X.prog X.w X.K X.mg X.base k f ps sp)(hr:dU k X.A)(hv:PE X (.Name x p) tv)(ha:PA X (e::es) t)
 (he:qo X e es:=by rfl)(be:qh X pos es:=by rfl):PE X (.Call (.Name x p) (e::es) [] pos) (Tl f sp tv t):=by
 obtain⟨fd,o,F,b,ho,hd⟩:=G;intro aa s σ H Q I h;refine wpAny_Call_Name_kw (e_ (hv aa s σ H _ I h) ?_);rintro u s0 ⟨v,H0,I0,r0,rfl,q0⟩;cases r0;have ar:wpAny (model X.prog X.w) X.A (spliced (backTo pos (starEach (e::es) X.env))) (λus s1=>s1.heap.get? f=some o/\wpAny (model X.prog X.w) X.A (call (.ref f) ([]++us)) (EP X aa σ Q) X.xe s1) X.xe s0:=by
  refine e_ (ha pos aa s0 σ H0 _ I0 q0) ?_;rintro us s1 ⟨vs,H1,I1,r,q⟩;refine⟨I1.bk f o ho,Fp F hr b .nil Ie I1 r ?_⟩;rwa[append_nil]
 rw[he]at ar ⊢;exact PySem.W.callWith_of (P:=λh=>h.get? f=some o) (by show((false || (backTo pos (starEach es X.env)).any (·.1)) || false)=false;rw[be];rfl) (ZL hd) (PySem.Calls.evalArgs_plain ar)
def w8(P:Program)(w:World)(K:Frag)(mg:Str->Ψ)(base:Heap)(N:Θ)(qual:Str)(scope:Scope)(f:Addr)(cd:Value)(cl:ze)(A:Around)(outer:zI)(s:Shared)(H:Hp)(E:XK):Cx where
 prog:=P
 w:=w
 K:=K
 mg:=mg
 base:=base
 A:=A.deeper (envX qual scope s.zs f cd cl)
 N:=N
 s₀:=s
 H₀:=H
 env:=envX qual scope s.zs f cd cl
 outer:=outer
 stack:=envX qual scope s.zs f cd cl::outer
 ex:=[]
 calm:=true
 fn:=λ_=>false
 pn:=[]
 xe:=λe s'=>wpAny (model P w) (A.deeper (envX qual scope s.zs f cd cl)) (leaving (envX qual scope s.zs f cd cl) e) (λ_ gz=>cp outer H s E e gz) (λe' gz=>cp outer H s E e' gz) s'
inductive sJ(base:Heap)(scope:Scope):ze->Β->Prop where
 |nil:sJ base scope [] []
 |cons {x:Str}{c:Addr}{v:V}{u:Value}{cl:ze}{vs:Β} : scope.names.lookup x=some .free->base.IsCell c (some u)->z4 v u->cl.lookup x=none->(∀y,(y,c)∉cl)->sJ base scope cl vs->sJ base scope ((x,c)::cl) (v::vs)
def sJ.len(h:sJ base scope cl vs):cl.length=vs.length:=by
 induction h with
 |nil=>rfl
 |cons _ _ _ _ _ _ ih=>simp[ih]
def sJ.at{base:Heap}{scope:Scope}{cl:ze}{vs:Β}(h:sJ base scope cl vs){i:Nat}{x:Str}{v:V}(e:(cl.map (·.1))[i]?=some x)(ev:(vs.map some)[i]?=some (some v)):scope.names.lookup x=some .free/\∃c u,cl.lookup x=some c/\base.IsCell c (some u)/\z4 v u:=by
 induction h generalizing i with
 |nil=>simp at e
 |@cons y c v0 u cl vs k1 k2 k3 k4 k5 _ ih =>
  cases i with
  |zero =>
   simp at e ev;subst e;subst ev;exact⟨k1,c,u,by simp[List.lookup],k2,k3⟩
  |succ j =>
   simp at e ev;obtain⟨q1,c',u',q2,q3,q4⟩:=ih (i:=j) (by simpa using e) (by simpa using ev);refine⟨q1,c',u',?_,q3,q4⟩;have ne:(x==y)=false:=by
    cases z:x==y with
    |false=>rfl
    |true=>rw[beq_iff_eq.mp z,k4]at q2;cases q2
   rw[lookup_cons,ne];exact q2
def sJ.cells(h:sJ base scope cl vs)(e:cl.lookup x=some c):∃u,base.IsCell c (some u):=by
 induction h with
 |nil=>cases e
 |@cons y c0 v0 u cl vs k1 k2 k3 k4 k5 _ ih =>
  rw[lookup_cons]at e;split at e
  .cases e;exact⟨u,k2⟩
  .exact ih e
def u9(e:cl.lookup x=some c):(x,c)∈cl:=PySem.mem_of_lookup e
def sJ.inj(h:sJ base scope cl vs)(e:cl.lookup x=some c)(e':cl.lookup y=some c):x=y:=by
 induction h with
 |nil=>cases e
 |@cons z c0 v0 u cl vs k1 k2 k3 k4 k5 _ ih =>
  rw[lookup_cons]at e e';cases a:x==z<;>cases b:y==z<;>rw[a]at e<;>rw[b]at e'
  .exact ih e e'
  .cases e';exact absurd (u9 e) (k5 _)
  .cases e;exact absurd (u9 e') (k5 _)
  .rw[beq_iff_eq.mp a,beq_iff_eq.mp b]
def Qw{cd:Value}{frees:Β}{outer:zI}{E:XK}{h₁:Heap}{tk:Tok}
 (hk:scope.kind=.function)(b8:∀y∈scope.names,y.2≠.cell)(hx:scope.names.lookup x=some .local)(bo:∀y,scope.names.lookup y=some .free->∃c,cl.lookup y=some c)(hs:sJ base scope cl frees)
 (hd:A.handled=none)(e0:DR P w K mg base A outer s H)(r:z4 v u)
 (db:h₁.Ns s.zs (λy=>[(x,u)].reverse.lookup y))(h7:∀b o,s.heap.get? b=some o->h₁.get? b=some o) :
  Inv (w8 P w K mg base (x::cl.map (·.1)) qual scope f cd cl A outer s H E) [] (some v::frees.map some) H { s with heap:=h₁,toks:=tk }:=by
 have eS:∀b:Addr,b∉(w8 P w K mg base (x::cl.map (·.1)) qual scope f cd cl A outer s H E).ex:=λb z=>absurd (show b∈([] : Φ)from z) xF;have cb:∀c u,base.IsCell c (some u)->h₁.IsCell c (some u)/\H c=none:=λc u hP=>by obtain⟨o,ho,hd⟩:=hP;exact⟨⟨o,h7 _ _ (e0.bs _ _ ho).1,hd⟩,(e0.bs _ _ ho).2⟩
 refine⟨⟨e0.mod,hk,rfl,rfl,aF _,λy z c h1 h2=>hs.inj h1 h2,λy hy=>?_,(λy c h=>nomatch h),λ_=>hd,Around.frames_deeper e0.frames,.inr ⟨rfl,rfl⟩,λb z=>absurd z (eS b),e0.bs,e0.bsz,λb _ _=>eS b,λb z=>absurd z (eS b),e0.funs,e0.frf⟩,
  rfl,e0.bare,Un.kept h7,⟨_,db,λi y v' h1 h2 h3=>?_⟩,λy c h=>?_,e0.hok.fresh (aF _),λy c h=>?_,λp hp=>absurd (show p∈([] : Γ)from hp) xF,e0.hok.kept h7,?_⟩
 .rcases hy with hy|hy
  .exact absurd rfl (b8 _ (PySem.mem_of_lookup hy))
  .exact bo y hy
 .cases i with
  |zero =>
   have h1:some x=some y:=h1;have h2:some (some v)=some (some v'):=h2;cases h1;cases h2;exact⟨u,r,.inl ⟨hx,by show[(x,u)].lookup x=some u;simp[List.lookup]⟩⟩
  |succ j =>
   have h1:(cl.map (·.1))[j]?=some y:=h1;have h2:(frees.map some)[j]?=some (some v'):=h2;obtain⟨q1,c,u',q2,q3,q4⟩:=hs.at h1 h2;exact⟨u',q4,.inr ⟨.inr q1,c,q2,(cb c u' q3).1⟩⟩
 .obtain⟨u',q⟩:=hs.cells h;exact⟨_,(cb c u' q).1⟩
 .obtain⟨u',q⟩:=hs.cells h;exact(cb c u' q).2
 .show _=(x::cl.map (·.1)).length;simp[hs.len]
def Qh{c':Addr}{name:Str}{ctv:Value}{frees:Β}
 (ho:base.get? f=some (kla_obj name qual params body scope cl pm c' ctv))(hcr:base.CodeRec (.ref c') qual)
 (hk:scope.kind=.function)(hco:scope.isCoroutine=false)(lI:scope.isGenerator=false)(b8:∀y∈scope.names,y.2≠.cell)(hx:scope.names.lookup x=some .local)(bo:∀y,scope.names.lookup y=some .free->∃c,cl.lookup y=some c)(hs:sJ base scope cl frees)
 (len:∀vs H Q E,sp vs H Q E->vs.length=1)
 (br:∀(A:Around)(outer:zI)(s:Shared)(H:Hp)(v:V)(Q:VK)(E:XK),dU k (A.deeper (envX qual scope s.zs f (.ref c') cl))->sp [v] H Q E ->
   ∃t,PE (w8 P w K mg base (x::cl.map (·.1)) qual scope f (.ref c') cl A outer s H E) body t/\t (some v::frees.map some) H Q) :
  bV P w K mg base cp (k+1) f (PySem.W.kla_fn name qual params body scope cl pm (.ref c') ctv) [x] sp:=by
 refine⟨λvs H Q E h=>len vs H Q E h,λA outer s H args us vs Q E hr e0 hb r du=>?_⟩;have hl:=len _ _ _ _ du;obtain⟨v,rfl⟩ : ∃v,vs=[v]:=by
  cases vs with
  |nil=>cases hl
  |cons v t=>cases t with
   |nil=>exact⟨v,rfl⟩
   |cons _ _=>cases hl
 obtain⟨u,rfl,rv⟩ : ∃u,us=[u]/\z4 v u:=by
  cases r with
  |cons a t=>cases t;exact⟨_,rfl,a⟩
 have kM:s.heap.NoLimit:=e0.mod.nolimit.keeps λb o e=>(e0.bs b o e).1;obtain⟨c2,oc,ws,tk,e2,gf,kb,hq⟩:=hcr;refine PySem.W.kla_callFunE hr.depth (e0.bs _ _ ho).1 rfl hco lI rfl ⟨c2,oc,ws,tk,e2,(e0.bs _ _ gf).1,kb,hq⟩ (hb _ _ _ _ ?_);refine wpAny_newFunctionEnv b8 (λy hy=>?_) (λh₁ db kU=>?_) hk
 .have hy:y∈[(x,u)]:=hy;rwa[YR.mp hy]
 have h7:∀b o,s.heap.get? b=some o->h₁.get? b=some o:=λb o e=>kU.extBut b o (aP (aJ e)) (aG _ e);refine⟨kM.keeps h7,PySem.W.kla_codeExpr ?_⟩;obtain⟨t,ht,hq⟩:=br A outer s H v Q E (hr.deeper _) du;have I:=Qw (f:=f) (cd:=.ref c') (qual:=qual) (E:=E) (tk:=s.toks+[(x,u)].length) hk b8 hx bo hs hr.hd e0 rv db h7;exact wpAny_mono (ht [] _ _ H _ I hq) (λu' s' hP=>by obtain⟨v',H',J,rv',q⟩:=hP;exact⟨v',H',J.os,J.bare,J.base,J.hok,rv',q⟩) λe s' hs=>hs
def FP(c:Addr)(qual:Str):HO:=.ext λh=>∃o vs t,h.get? c=some o/\o.data=.fields vs/\vs[1]?=some (.str qual t)
def O1(f:Addr)(f':Value->Obj):HO:=.ext λh=>∃ctv,h.get? f=some (f' ctv)
def trip(pos:Pos)(c:Addr):xo:=#[rawInt pos.line,rawInt pos.col,.ref c]
def jJ(Pt:Addr)(pos:Pos)(qual:Str)(H:Hp):Ω->Prop
 |none=>H Pt=some (.tbl #[])
 |some c=>H Pt=some (.tbl (trip pos c))/\H c=some (FP c qual)
def MC(Pt:Addr)(pos:Pos)(qual:Str)(f':Addr->Value->Obj):TE:=λσ H Q=>∃oc,jJ Pt pos qual H oc /\
 ∀f c H',H f=none->f≠c->(oc=none->H c=none)->(∀c0,oc=some c0->c=c0)->jJ Pt pos qual H' (some c)->H' f=some (O1 f (f' c))->(∀b,b≠Pt->b≠c->b≠f->H' b=H b)->Q (.ref f) H'
def Nq{q:Str}(r:h.CodeRec (.ref c) q):fX P w H h c (FP c q):=by
 obtain⟨c2,o,vs,t,e,ho,hd,hv⟩:=r;cases e;exact⟨⟨o,vs,t,ho,hd,hv⟩,⟨o,ho⟩,λh1 h2 ⟨o,vs,t,a,b,d⟩ k=>⟨o,vs,t,k o a,b,d⟩⟩
def Sw{q:Str}(r:fX P w H h c (FP c q)):h.CodeRec (.ref c) q:=by
 obtain⟨⟨o,vs,t,ho,hd,hv⟩,_⟩:=r;exact⟨c,o,vs,t,rfl,ho,hd,hv⟩
def Q9{f':Value->Obj}{ctv:Value}(e:h.get? f=some (f' ctv)):fX P w H h f (O1 f f') :=
 ⟨⟨ctv,e⟩,⟨_,e⟩,λh1 h2 ⟨c,a⟩ k=>⟨c,k _ a⟩⟩
def Sr(hB:X.base.BuiltinsAt X.mg Pt)(dQ:X.env.code=.ref c0)(hC:codeHdIn X.K c0 Pt)(eJ:closureFor scope X.env=pure cl)(hE:defaultsOf params X.env=([],[]):=by rfl) :
  PE X (.Lambda params body scope pos) (MC Pt pos (X.env.qual++"<lambda>") λc ctv=>kla_obj "<lambda>" (X.env.qual++"<lambda>") params body scope cl ((X.mg "__name__").getD .none) c ctv):=by
 intro aa s σ H Q I h;obtain⟨oc,la,q⟩:=h;have hg:s.heap.Ns mainGlobals X.mg:=I.ok.mod.glob.keeps I.bk;have C:PySem.W.CodeHd s.heap c0 Pt:=codeHd_of_K I.kIn hC;obtain⟨bm,ob,b1,b2,b3,b4,b5,b6⟩:=hB;have hb:s.heap.BuiltinsAt X.mg Pt:=⟨bm,ob,b1,b2,b3,b4,I.bk _ _ b5,b6⟩;refine PySem.W.kla_eval hE ?_;cases oc with
 |none =>
  have hP:s.heap.get? Pt=some (tabObj #[]):=I.hok Pt _ la;have hgP:mainGlobals≠Pt:=λz=>by
   obtain⟨o,es,ep,e,hd,_⟩:=hg;rw[z,hP]at e;cases e;cases hd
  refine PySem.W.kla_makeFunction eJ I.ok.glob hg dQ C hP trivial rfl hgP hb λc' ctv h' tk hx hge dc k6 htb=>?_;generalize eo:kla_obj "<lambda>" (X.env.qual++"<lambda>") params body scope cl ((X.mg "__name__").getD .none) c' ctv=ob';have hf:(h'.push ob').get? h'.objs.size=some ob':=aV _ (by rw[<- eo];rfl);have fx:∀{b:Addr}{o:Obj},h'.get? b=some o->(h'.push ob').get? b=some o:=λe=>aG _ e;have lo:∀{b:Addr}{o:Obj},s.heap.get? b=some o->b≠c'/\b≠h'.objs.size:=λe=>have z:=aQ (aJ e) hge;⟨aP z,aP (UU z dc)⟩;have lH:∀{b:Addr}{u:HO},H b=some u->b≠c'/\b≠h'.objs.size:=λe=>have z:=aQ (I.hok.lt e) hge;⟨aP z,aP (UU z dc)⟩;have ptn:Pt≠c'/\Pt≠h'.objs.size:=lo hP;have cf:c'≠h'.objs.size:=aP dc
  let H':Hp:=upd (upd (upd H Pt (.tbl (trip pos c'))) c' (FP c' (X.env.qual++"<lambda>"))) h'.objs.size (O1 h'.objs.size λctv=>kla_obj "<lambda>" (X.env.qual++"<lambda>") params body scope cl ((X.mg "__name__").getD .none) c' ctv)
  have eP:H' Pt=some (.tbl (trip pos c')):=(bZ ptn.2).trans ((bZ ptn.1).trans cj);have ec:H' c'=some (FP c' (X.env.qual++"<lambda>")):=(bZ cf).trans cj;have ef:H' h'.objs.size=some (O1 h'.objs.size λctv=>kla_obj "<lambda>" (X.env.qual++"<lambda>") params body scope cl ((X.mg "__name__").getD .none) c' ctv):=cj;have gm:∀b,b≠Pt->b≠c'->b≠h'.objs.size->H' b=H b:=λb n1 n2 n3=>(bZ n3).trans ((bZ n2).trans (bZ n1));have np:∀{b:Addr}{u:HO},H b=some u->(∀ps,u≠.tbl ps)->b≠Pt:=λe n z=>by rw[z,la]at e;cases e;exact n _ rfl
  have n0:∀{b:Addr},H b=none->b≠Pt:=λe z=>by rw[z,la]at e;cases e
  have un:Un (og X.stack) [] H H' s.heap (h'.push ob'):=by
   refine⟨λb o e n _ _=>fx (hx b o (n0 n) e),λb o e n _ _=>⟨o.slots,fx (hx b o (n0 n) e)⟩,λb o e n _=>?_,λb o e _=>?_,λb xs e=>?_,λb o u e=>?_,λb ps e=>?_⟩
   .rw[gm b (n0 n) (lo e).1 (lo e).2];exact n
   .by_cases z:b=Pt
    .subst z;exact⟨_,fx htb⟩
    .exact⟨o,fx (hx b o z e)⟩
   .rw[gm b (np e (λ_ z=>by cases z)) (lH e).1 (lH e).2];exact e
   .rw[gm b (np e (λ_ z=>by cases z)) (lH e).1 (lH e).2];exact e
   .by_cases z:b=Pt
    .subst z;rw[la]at e;cases e;exact⟨trip pos c',by rw[eP];simp⟩
    .rw[gm b z (lH e).1 (lH e).2];exact⟨#[],by rw[e];simp⟩
  have hok:HOk X.prog X.w H' (h'.push ob'):=by
   intro b u e;by_cases z1:b=h'.objs.size
   .subst z1;rw[ef]at e;cases e;exact Q9 (ctv:=ctv) (by rwa[eo])
   by_cases z2:b=c'
   .subst z2;rw[ec]at e;cases e;obtain⟨c2,oc,vs,t,e2,ho,hd,hv⟩:=k6;exact Nq ⟨c2,oc,vs,t,e2,fx ho,hd,hv⟩
   by_cases z3:b=Pt
   .subst z3;rw[eP]at e;cases e;exact fx htb
   .rw[gm b z3 z2 z1]at e;refine(I.hok b u e).stay (λd o hd r=>?_) (λd r=>?_) λd xs r=>?_
    .refine fx (hx d o (λz=>?_) r);rcases hd with rfl|hd
     .exact z3 z
     .exact np hd (λ_ z=>by cases z) z
    .rw[gm d (np r (λ_ z=>by cases z)) (lH r).1 (lH r).2];exact r
    .rw[gm d (np r (λ_ z=>by cases z)) (lH r).1 (lH r).2];exact r
  have J:Inv X aa σ H' { s with heap:=h'.push ob',toks:=tk }:=I.call (g':=s.gens) (d':=s.drawn) (t':=tk) (ch:=[]) un hok I.bare λb z=>nomatch z
  subst eo;refine⟨.ref h'.objs.size,H',J,rfl,q h'.objs.size c' H' ?_ cf.symm (λ_=>?_) (λc0 z=>nomatch z) ⟨eP,ec⟩ ef gm⟩
  .cases z:H h'.objs.size with
   |none=>rfl
   |some u=>exact absurd rfl (lH z).2
  .cases z:H c' with
   |none=>rfl
   |some u=>exact absurd rfl (lH z).1
 |some c =>
  obtain⟨eh,c5⟩:=la;have hP:s.heap.get? Pt=some (tabObj (trip pos c)):=I.hok Pt _ eh;refine PySem.W.kla_makeFunctionHit (cv:=.ref c) eJ I.ok.glob hg dQ C hP (by simp[TriplesOk,trip,rawInt]) (by simp[codeAmong,trip,rawInt]) hb λctv h' tk hk hsz=>?_;generalize eo:kla_obj "<lambda>" (X.env.qual++"<lambda>") params body scope cl ((X.mg "__name__").getD .none) c ctv=ob';have hf:(h'.push ob').get? h'.objs.size=some ob':=aV _ (by rw[<- eo];rfl);have fx:∀b o,s.heap.get? b=some o->(h'.push ob').get? b=some o:=λb o e=>aG _ (hk b o e);have hn:H h'.objs.size=none:=I.hok.fresh hsz;have cf:c≠h'.objs.size:=jm c5 hn;have un:Un (og X.stack) [] H (upd H h'.objs.size (O1 h'.objs.size λctv=>kla_obj "<lambda>" (X.env.qual++"<lambda>") params body scope cl ((X.mg "__name__").getD .none) c ctv)) s.heap (h'.push ob'):=Un.laid fx hsz hn;have hok:=I.hok.laid (a:=h'.objs.size) (o:=O1 h'.objs.size λctv=>kla_obj "<lambda>" (X.env.qual++"<lambda>") params body scope cl ((X.mg "__name__").getD .none) c ctv) fx hsz (Q9 (ctv:=ctv) (by rwa[eo]));have J:=I.call (g':=s.gens) (d':=s.drawn) (t':=tk) (ch:=[]) un hok I.bare λb z=>nomatch z
  subst eo;exact⟨.ref h'.objs.size,_,J,rfl,q h'.objs.size c _ hn cf.symm (λz=>nomatch z) (λc0 z=>by cases z;rfl) ⟨(bZ (jm eh hn)).trans eh,(bZ cf).trans c5⟩ cj λb _ _ n=>bZ n⟩
def wo(as:Φ)(H:Hp):Hp:=λb=>if b∈as then none else H b
def zQ(h:b∉as):wo as H b=H b:=by unfold wo;rw[ZZ h]
def Ht(h:b∈as):wo as H b=none:=by unfold wo;rw[ZY h]
def vJ{u:HO}(e:wo as H b=some u):b∉as/\H b=some u:=by
 by_cases h:b∈as
 .rw[Ht h]at e;cases e
 .rw[zQ h]at e;exact⟨h,e⟩
def vA(e:H b=none):wo as H b=none:=by
 unfold wo;split
 .rfl
 .exact e
def Yn : z0 (wo as H) H:=λb o e=>(vJ e).2
def Nr(base h:Heap)(L:Φ):Heap:=hideAll h ((range h.objs.size).filter λb=>!(base.get? b).isSome && !decide (b∈L))
def Oj : (Nr base h L).objs.size=h.objs.size:=hideAll_size _ _
def vI(e:h.get? b=some o)(k:(base.get? b).isSome=true\/b∈L):(Nr base h L).get? b=some o:=by
 refine hideAll_get _ e λz=>?_;have:=(List.mem_filter.mp z).2;rcases k with k|k<;>simp[k]at this
def Ms(e:(Nr base h L).get? b=some o):h.get? b=some o/\((base.get? b).isSome=true\/b∈L):=by
 have e':h.get? b=some o:=of_hideAll _ e;refine⟨e',?_⟩;cases k:(base.get? b).isSome with
 |true=>exact .inl rfl
 |false =>
  by_cases m:b∈L
  .exact .inr m
  .have:(Nr base h L).get? b=none:=hideAll_none _ (List.mem_filter.mpr ⟨List.mem_range.mpr (aJ e'),by simp[k,m]⟩);rw[this]at e;cases e
def X3(Pt:Addr)(pos:Pos)(qual:Str)(f':Addr->Value->Obj)(js:zD)(spR:Β->Addr->Sp)(ta:TA):TE:=λσ H Q=>ta σ H λvs H1=>∃(f c:Addr)(frees:Β),H1 f=some (O1 f (f' c))/\f≠c/\jJ Pt pos qual H1 (some c)/\(js.map λj=>σ[j]?)=frees.map (λv=>some (some v)) /\
 spR frees f vs (wo [Pt,c,f] H1) (λv H'=>∀d3,(∀b,b≠Pt->b≠c->d3 b=H' b)->jJ Pt pos qual d3 (some c)->H' Pt=none->H' c=none->H' f=none->Q v d3) E0
theorem RK{aa:Γ}{σ:St}{H:Hp}{s:Shared}{scope:Scope}{B:Heap}(I:Inv X aa σ H s):∀{cl:ze}{js:zD}{frees:Β},(js.map λj=>σ[j]?)=frees.map (λv=>some (some v))->(js.map λj=>X.N[j]?)=cl.map (λq=>some q.1) ->
  (∀q∈cl,X.env.kindOf q.1=some .cell/\X.env.cells.lookup q.1=some q.2/\scope.names.lookup q.1=some .free)->(cl.map (·.1)).Nodup->(∀q∈cl,∀o,s.heap.get? q.2=some o->B.get? q.2=some o)->sJ B scope cl frees
 |[],js,frees,h1,h2,_,_,_=>by
  cases js with
  |nil=>cases frees with
   |nil=>exact .nil
   |cons _ _=>cases h1
  |cons _ _=>cases h2
 |(x,c)::cl,js,frees,h1,h2,h3,h4,h5=>by
  cases js with
  |nil=>cases h2
  |cons j js =>
   cases frees with
   |nil=>cases h1
   |cons v frees =>
    simp only[map_cons,List.cons.injEq]at h1 h2;obtain⟨k1,k2,k3⟩:=h3 (x,c) aN;obtain⟨m,hn,hl⟩:=I.loc;obtain⟨u,r,l⟩:=hl j x v h2.1 h1.1 (.inr (.inl k1));have q:∃c',X.env.cells.lookup x=some c'/\s.heap.IsCell c' (some u):=by
     rcases l with⟨z,_⟩|⟨_,z⟩
     .rw[show X.env.kindOf x=some .cell from k1]at z;cases z
     .exact z
    obtain⟨c',e1,o,ho,hd⟩:=q;rw[show X.env.cells.lookup x=some c from k2]at e1;cases e1;have nd:=List.nodup_cons.mp h4;have nl:cl.lookup x=none:=by
     cases e:cl.lookup x with
     |none=>rfl
     |some c2=>exact absurd (YV.mpr ⟨(x,c2),u9 e,rfl⟩) nd.1
    refine .cons k3 ⟨o,h5 _ aN o ho,hd⟩ r nl (λy hy=>?_) (RK I h1.2 h2.2 (λq hq=>h3 q (aH _ hq)) nd.2 λq hq=>h5 q (aH _ hq));obtain⟨_,e2,_⟩:=h3 (y,c) (aH _ hy);have:=I.ok.inj x y c k2 e2;subst this;exact nd.1 (YV.mpr ⟨(x,c),hy,rfl⟩)
def Px(hg:Gl X x)(hm:X.mg x=some (.ref fR))(hk:keepIn X.K (.ref fR))(hb:Binds X.K fd ps [])(hr:dU k X.A)
 (F:∀aw frees f,sK X.prog X.w X.K X.mg aw kL f [y] (spL frees)->bV X.prog X.w X.K X.mg aw cp k fR fd ps (spR frees f))
 (L:∀aw frees f c ctv,aw.get? f=some (kla_obj "<lambda>" qual params body scope cl pm c ctv)->aw.CodeRec (.ref c) qual->sJ aw scope cl frees->sK X.prog X.w X.K X.mg aw kL f [y] (spL frees))
 (hj:(js.map λj=>X.N[j]?)=cl.map (λq=>some q.1))(eJ:∀q∈cl,X.env.kindOf q.1=some .cell/\X.env.cells.lookup q.1=some q.2/\scope.names.lookup q.1=some .free)(nd:(cl.map (·.1)).Nodup)(fI:∀q∈cl,X.fn q.1)
 (ha:PA X (e::es) t)(ci:qk x:=by decide)
 (he:qo X e es:=by rfl)(be:qh X bu es:=by rfl) :
  PE X (.Call (.Name x p) (e::es) [] bu) (X3 Pt pos qual (λc ctv=>kla_obj "<lambda>" qual params body scope cl pm c ctv) js spR t):=by
 intro aa s σ H Q I h;refine wpAny_Call_Name_kw (yg I hg hm ?_ ci);refine callWith_K (h₀:=X.base) I.ok.mod.kin hk (e_ (ha bu aa s σ H _ I h) ?_) he be;rintro us s1 ⟨vs,H1,J,r,f,c,frees,hf,nfc,⟨eh,c5⟩,h8,q⟩;refine⟨J.kIn,?_⟩;obtain⟨ctv,of_⟩:=(J.hok f _ hf).1;have rc:s1.heap.CodeRec (.ref c) qual:=Sw (J.hok c _ c5);obtain⟨_,oc,ws,tw,ez,gf,kb,hqc⟩:=rc;cases ez;have hP:s1.heap.get? Pt=some (tabObj (trip pos c)):=J.hok Pt _ eh;have ncp:c≠Pt:=V_ c5 eh (by intro z;cases z);have nfp:f≠Pt:=V_ hf eh (by intro z;cases z)
 let Lk:Φ:=f::c::cl.map (·.2)
 let B:=Nr X.base s1.heap Lk
 let Hn:=wo [Pt,c,f] H1
 have j':∀{b:Addr}{u:HO},H1 b=some u->(∀ps,u≠.tbl ps)->(∀φ,u≠.ext φ)->Hn b=some u:=λ{b u}e n1 n2=>(zQ (by
  intro z;simp only[YU,VS,or_false]at z;rcases z with z|z|z<;>subst z
  .rw[eh]at e;cases e;exact n1 _ rfl
  .rw[c5]at e;cases e;exact n2 _ rfl
  .rw[hf]at e;cases e;exact n2 _ rfl)).trans e
 have bB:∀b o,X.base.get? b=some o->B.get? b=some o:=λb o e=>vI (J.bk b o e) (.inl (by rw[e];rfl));have mod:Mod X.K X.mg B:=by
  obtain⟨m1,m2,⟨mb,m3,m4⟩,m5⟩:=J.ok.mod;exact⟨m1.keeps bB,m2.keeps bB,⟨mb,m3.keeps bB,m4⟩,m5.keeps bB⟩
 have fh:∀q∈cl,H1 q.2=none/\X.s₀.zs<=q.2/\q.2≠X.env.locals:=λq hq=>by
  obtain⟨_,z,_⟩:=eJ q hq;exact⟨J.freeC _ _ z,J.ok.cab _ _ (fI q hq) z,J.cne _ _ z⟩
 have bs:∀b o,B.get? b=some o->s1.heap.get? b=some o/\Hn b=none:=λb o e=>by
  obtain⟨e1,k⟩:=Ms e;refine⟨e1,?_⟩;rcases k with k|k
  .obtain⟨o',cw⟩:=Option.isSome_iff_exists.mp k;exact vA (J.bs b o' cw).2
  .rcases YU.mp k with rfl|k
   .exact Ht xF
   .rcases YU.mp k with rfl|k
    .exact Ht xF
    .obtain⟨q,hq,rfl⟩:=YV.mp k;exact vA (fh q hq).1
 have stk:∀b∈og X.stack,B.get? b=none:=λb dq=>by
  cases z:B.get? b with
  |none=>rfl
  |some o =>
   have fr:=J.stkFree b dq;rcases(Ms z).2 with k|k
   .have:=(J.stack.mem dq).1;rw[this]at k;cases k
   .rcases YU.mp k with rfl|k
    .rw[hf]at fr;cases fr
    .rcases YU.mp k with rfl|k
     .rw[c5]at fr;cases fr
     .obtain⟨q,hq,rfl⟩:=YV.mp k;obtain⟨_,z1,z2⟩:=fh q hq;rcases YU.mp (J.stkSub _ dq)with w|w
      .exact absurd w z2
      .obtain⟨_,o',cw,_⟩:=J.ok.funs.mem w;exact absurd (aQ (aJ cw) z1) (X9 _)
 have funs:s1.heap.FunFrames B X.stack:=by
  have all:∀(l:zI),(∀b∈og l,B.get? b=none)->s1.heap.FunFrames X.base l->s1.heap.FunFrames B l:=by
   intro l
   induction l with
   |nil=>intro _ _;trivial
   |cons env r ih =>
    intro hs hl;obtain⟨hk',⟨L',o,l7,hn,ho,hd⟩,gV⟩:=hl;exact⟨hk',⟨L',o,l7,hs L' (by unfold og;rw[T2,l7];exact aN),ho,hd⟩,ih (λb dq=>hs b (by unfold og;rw[T2,l7];exact aH _ dq)) gV⟩
  exact all X.stack stk J.stack
 have hok:HOk X.prog X.w Hn s1.heap:=λb u e=>by
  obtain⟨nb,e'⟩:=vJ e;exact(J.hok b u e').stay (λ_ _ _ z=>z) (λd z=>j' z (λ_ w=>by cases w) λ_ w=>by cases w) λd xs z=>j' z (λ_ w=>by cases w) λ_ w=>by cases w
 have e0:DR X.prog X.w X.K X.mg B X.A X.stack s1 Hn:=⟨J.ok.frames,mod,bs,by rw[Oj];exact aF _,funs,λb z=>vA (J.stkFree b z),hok,J.bare⟩;have G:=F B frees f (L B frees f c ctv (vI of_ (.inr aN)) ⟨c,oc,ws,tw,rfl,vI gf (.inr (aH _ aN)),kb,hqc⟩
  (RK J h8 hj eJ nd λq hq o ho=>vI ho (.inr (aH _ (aH _ (YV.mpr ⟨q,hq,rfl⟩))))))
 have hl:us.length=ps.length:=by rw[<- r.length];exact G.len _ _ _ _ q
 have ia:=hb s1 us J.kIn (by rwa[append_nil]);rw[append_nil]at ia;refine wpAny_call (codeAny_mono (G.run X.A X.stack s1 Hn ⟨[]++us,[]⟩ us vs _ E0 hr e0 ia r q) ?_);intro res s' hq;cases res with
 |error e=>exact hq.elim
 |ok fl =>
  cases fl with
  |next=>exact False.elim hq
  |brk=>exact False.elim hq
  |cont=>exact False.elim hq
  |ret u =>
   obtain⟨v,H',os,bare,un,hok',rv,q'⟩:=hq;have np:Pt∉og X.stack:=λz=>by have:=J.stkFree _ z;rw[eh]at this;cases this
   have nc:c∉og X.stack:=λz=>by have:=J.stkFree _ z;rw[c5]at this;cases this
   have hnP:Hn Pt=none:=Ht xF;have hnC:Hn c=none:=Ht xF;have kP:=un.keep Pt _ hP hnP np xF;have kC:=un.keep c _ gf hnC nc xF;have fP:=un.free Pt _ hP hnP xF;have fC:=un.free c _ gf hnC xF
   let d3:Hp:=upd (upd H' Pt (.tbl (trip pos c))) c (FP c qual)
   have eP:d3 Pt=some (.tbl (trip pos c)):=(bZ ncp.symm).trans cj;have eC:d3 c=some (FP c qual):=cj;have eO:∀b,b≠Pt->b≠c->d3 b=H' b:=λb n1 n2=>(bZ n2).trans (bZ n1);have no:∀{b:Addr}{u:HO},H' b=some u->b≠Pt/\b≠c:=λe=>⟨(λz=>by rw[z,fP]at e;cases e),(λz=>by rw[z,fC]at e;cases e)⟩;have n0:∀{b:Addr},H1 b=none->b≠Pt/\b≠c:=λe=>⟨(λz=>by rw[z,eh]at e;cases e),(λz=>by rw[z,c5]at e;cases e)⟩;have un':Un (og X.stack) [] H1 d3 s1.heap s'.heap:=by
    refine⟨λb o e n=>un.keep b o e (vA n),λb o e n=>un.slot b o e (vA n),λb o e n z=>?_,un.there,λb xs e=>?_,λb o u e=>?_,λb ps e=>?_⟩
    .rw[eO b (n0 n).1 (n0 n).2];exact un.free b o e (vA n) z
    .have:=un.tups b xs (j' e (λ_ w=>by cases w) λ_ w=>by cases w);rw[eO b (no this).1 (no this).2];exact this
    .have:=un.frzs b o u (j' e (λ_ w=>by cases w) λ_ w=>by cases w);rw[eO b (no this).1 (no this).2];exact this
    .by_cases z:b=Pt
     .subst z;rw[eh]at e;cases e;exact⟨#[],by rw[eP];simp⟩
     .obtain⟨more,this⟩:=un.tbls b ps ((zQ (by
       intro w;simp only[YU,VS,or_false]at w;rcases w with w|w|w
       .exact z w
       .subst w;rw[c5]at e;cases e
       .subst w;rw[hf]at e;cases e)).trans e)
      exact⟨more,by rw[eO b (no this).1 (no this).2];exact this⟩
   have iL:HOk X.prog X.w d3 s'.heap:=λb u e=>by
    by_cases z1:b=c
    .subst z1;rw[eC]at e;cases e;exact Nq ⟨_,oc,ws,tw,rfl,kC,kb,hqc⟩
    by_cases z2:b=Pt
    .subst z2;rw[eP]at e;cases e;exact kP
    rw[eO b z2 z1]at e;exact(hok' b u e).stay (λ_ _ _ z=>z) (λd z=>by rw[eO d (no z).1 (no z).2];exact z) λd xs z=>by rw[eO d (no z).1 (no z).2];exact z
   exact⟨v,d3,J.call' os un' iL bare (λb z=>nomatch z),rv,q' d3 eO ⟨eP,eC⟩ fP fC (un.free f _ of_ (Ht xF) xF)⟩
def Tr(K:Frag)(mg:Str->Ψ)(x:Str)(st:Stmt)(ps:Θ)(Pt:Addr):Prop :=
 ∃f fd c,Fun K x x st f fd/\(∀us:Δ,us.length=ps.length->bindArgs fd ⟨us,[]⟩=pure (ps.zip us))/\mg x=some (.ref f)/\fd.code=.ref c/\codeHdIn K c Pt
def wv{od an:Ω}{kV bi ct:Value}(N:Nat)(hb:∀(kV bi pm:Value)(an:Ω)(af ct:Value),vj N λus=>bindArgs (PySem.W.fnOf x x (gK st) (dJ st) (bF st) .none kV bi pm an af ct) ⟨us,[]⟩=pure (ps.zip us))(hN:ps.length=N:=by rfl)(X:K.In h:=by assumption)(G:h.Ns mainGlobals mg:=by assumption)
 (a:nsIn K mainGlobals x=some (some (.ref f)):=by k_is)(l:K.lookup f=some ⟨oc,od,.func (PySem.W.fnOf x x (gK st) (dJ st) (bF st) .none kV bi pm an (.ref c0) ct),de⟩:=by k_is)
 (c:codeIn K (.ref c0) x:=by k_is)(k:keepIn K (.ref f):=by k_is)(z:codeHdIn K c0 Pt:=by kernel_rfl):Tr K mg x st ps Pt :=
 ⟨f,_,c0,Ov l c k,λus e=>C_ N (hb kV bi pm an (.ref c0) ct) us (e.trans hN),mg_of X G a,rfl,z⟩
def Uk{mb:Str->Ψ}{CX:p_}{fa:Addr}{Ts:Φ}{s₁:Shared}{vs:Δ}{ns:zS}
 (KX:K.In s₁.heap)(hP:∀Pt∈Ts,s₁.heap.get? Pt=some (tabObj #[]))(mn:∀Pt∈Ts,K.lookup Pt=none)(hC:∀Pt∈Ts,∃c0,codeHdIn K c0 Pt)(hB:∀Pt∈Ts,s₁.heap.BuiltinsAt mg Pt)
 (db:s₁.heap.Ns mainGlobals mg)(hb:s₁.heap.Ns builtinsNs mb)(ia:∀x:Str,x≠"__name__"->mb x=bootBuiltins x)(g5:s₁.heap.NoLimit)(hg:s₁.gens = #[])
 (ha:s₁.heap.get? a=some { cls:=.type "list",data:=.seq vs.toArray })(hi:IntsAre vs ns)(hl:ns.length<=sizeLine)(hr:dU k callerA)
 (F:∀base:Heap,K.In base->base.Ns mainGlobals mg->(∀Pt∈Ts,base.BuiltinsAt mg Pt)->bV P w K mg base CX k fa fd [x] sp)(fg:∀(s:Shared)(u:Value),BindsTo s fd ⟨[u],[]⟩ [(x,u)])
 (du:∀H:Hp,(∀Pt∈Ts,H Pt=some (.tbl #[]))->SqL K H a (ns.map V.int)->sp [.ref a] H (λv _=>v=.bl true) λ_ _ _=>False)
 (i8:∀H e s',CX [] H s₁ (λ_ _ _=>False) e s'->False) :
  codeAny (model P w) callerA (.call (.ref fa) ⟨[.ref a],[]⟩) (λr s'=>r=.ok (.ret (.bool true))/\OldK s₁.heap s'.heap/\s'.os=s₁.os/\AllBare s'.gens) s₁:=by
 have rv:=vo hi;have gL:=hi.length;have nPa:a∉Ts:=λz=>by rw[hP a z]at ha;cases ha
 have core:∀H:Hp,(∀b,b∉Ts->H b=none\/∃o xs,H b=some (.frz o (.lst xs)))->(∀Pt∈Ts,H Pt=some (.tbl #[]))->SqL K H a (ns.map V.int)->HOk P w H s₁.heap->(∀b,H b≠none->b=a\/b∈Ts)->(H a≠none->K.lookup a=none) ->
   codeAny (model P w) callerA (.call (.ref fa) ⟨[.ref a],[]⟩) (λr s'=>r=.ok (.ret (.bool true))/\OldK s₁.heap s'.heap/\s'.os=s₁.os/\AllBare s'.gens) s₁:=by
  intro H hO hT hS hok hA hK;have bP:∀{b:Addr}{o:Obj},s₁.heap.get? b=some o->H b=none->(xK s₁.heap H).get? b=some o:=λe n=>Mx e n;have eS:∀{b:Addr}{o:Obj}{es:Array DictEntry}{ep:Nat},s₁.heap.get? b=some o->o.data=.dict es ep->H b=none:=λ{b o es ep}e d=>by
   cases q:H b with
   |none=>rfl
   |some u =>
    rcases hA b (by rw[q];simp)with e'|e'
    .subst e';rw[ha]at e;cases e;have d':Data.seq vs.toArray _=Data.dict es ep:=d;cases d'
    .rw[hP b e']at e;cases e;cases d
  have fF:∀{b:Addr}{m:Str->Ψ},s₁.heap.Ns b m->(xK s₁.heap H).Ns b m:=λ{b m}h=>by
   obtain⟨o,es,ep,e,d,r⟩:=h;exact⟨o,es,ep,bP e (eS e d),d,r⟩
  have i7:K.In (xK s₁.heap H):=λb o e=>bP (KX b o e) (by
   cases q:H b with
   |none=>rfl
   |some u =>
    rcases hA b (by rw[q];simp)with e'|e'
    .subst e';rw[hK (by rw[q];simp)]at e;cases e
    .rw[mn b e']at e;cases e)
  have hBb:∀Pt∈Ts,(xK s₁.heap H).BuiltinsAt mg Pt:=λPt i5=>by
   obtain⟨bm,o,b1,b2,b3,b4,b5,b6,b7⟩:=hB Pt i5;refine⟨bm,o,b1,b2,b3,b4,bP b5 ?_,b6,b7⟩;cases q:H bm with
   |none=>rfl
   |some u =>
    rcases hA bm (by rw[q];simp)with e'|e'
    .subst e';rw[ha]at b5;cases b5;injection b6 with z;exact absurd z xa
    .rw[hP bm e']at b5;cases b5;cases b6
  have hM:Mod K mg (xK s₁.heap H):=⟨i7,fF db,⟨mb,fF hb,ia⟩,by obtain⟨mc,h1,h2⟩:=g5;exact⟨mc,fF h1,h2⟩⟩;have e0:DR P w K mg (xK s₁.heap H) callerA [] s₁ H:=⟨rfl,hM,λb o e=>RG e,WS (HW _ _),trivial,λb hb=>absurd (show b∈([] : Φ)from hb) xF,hok,.of_eq hg⟩;refine codeAny_mono ((F _ i7 (fF db) hBb).run callerA [] s₁ H ⟨[.ref a],[]⟩ [.ref a] [.ref a] _ _ hr e0 (fg s₁ (.ref a)) (.cons rfl .nil) (du H hT hS)) λr s' h=>?_;cases r with
  |error e=>exact(i8 H e s' h).elim
  |ok fl =>
   cases fl with
   |next=>exact False.elim h
   |brk=>exact False.elim h
   |cont=>exact False.elim h
   |ret u =>
    obtain⟨v,H',os,bare,un,hok',r',q⟩:=h;have q':v=.bl true:=q;subst q';obtain rfl:u=Value.bool true:=r';have kp:∀b o,b∉Ts->s₁.heap.get? b=some o->s'.heap.get? b=some o:=λb o n e=>by
     cases q:H b with
     |none=>exact un.keep b o e q (by intro z;exact absurd (show b∈([] : Φ)from z) xF) xF
     |some u =>
      rcases hO b n with z|⟨ob,xs,z⟩
      .rw[q]at z;cases z
      .have z2:=un.frzs b ob _ z;obtain⟨e1,_⟩:=hok b _ z;obtain⟨e2,_⟩:=hok' b _ z2;rw[e]at e1;cases e1;exact e2
    have hP':∀Pt∈Ts,∃more,s'.heap.get? Pt=some (tabObj (#[]++more)):=λPt i5=>by
     obtain⟨more,hm⟩:=un.tbls Pt _ (hT Pt i5);exact⟨more,hok' Pt _ hm⟩
    refine⟨rfl,⟨λb o e=>?_,λb o e=>?_⟩,os,bare⟩
    .by_cases z:b∈Ts
     .obtain⟨more,hm⟩:=hP' b z;obtain⟨c0,hc⟩:=hC b z;rw[hP b z]at e;cases e;exact .inr (.inl ⟨((codeHd_of_K KX hc).tab (hP b z)).isCodeTable,rfl,#[],more,rfl,hm⟩)
     .exact .inl (kp b o z e)
    .by_cases z:b∈Ts
     .obtain⟨more,hm⟩:=hP' b z;exact⟨_,hm⟩
     .exact⟨o,kp b o z e⟩
 have sF:∀{b:Addr}{u:HO},(if b∈Ts then some (HO.tbl #[])else none)=some u->b∈Ts/\u=.tbl #[]:=λ{b u}z=>by
  by_cases hb:b∈Ts
  .rw[ZY hb]at z;exact⟨hb,(Option.some.inj z).symm⟩
  .rw[ZZ hb]at z;cases z
 have noT:∀{b:Addr},(if b∈Ts then some (HO.tbl #[])else none)≠none->b∈Ts:=λ{b}z=>by
  by_cases hb:b∈Ts
  .exact hb
  .exact absurd (ZZ hb) z
 cases hk:K.lookup a with
 |some o =>
  have e:=KX a o hk;rw[ha]at e;cases e;refine core (λb=>if b∈Ts then some (.tbl #[])else none) (λb n=>.inl (ZZ n)) (λb hb=>ZY hb) (.inr ⟨_,vs.toArray,_,hk,rfl,rfl,rfl,by rw[aW,gL];exact hl,by simpa using rv⟩) (λb u z=>?_) (λb z=>.inr (noT z)) λz=>absurd (ZZ nPa) z;obtain⟨hb,rfl⟩:=sF z;exact hP b hb
 |none =>
  refine core (λb=>if b=a then some (.frz { cls:=.type "list",data:=.seq vs.toArray } (.lst (ns.map V.int)))else if b∈Ts then some (.tbl #[])else none) (λb n=>?_) (λb hb=>(ZZ (show ¬b=a from λz=>nPa (z ▸ hb))).trans (ZY hb)) (.inl (.inr ⟨{ cls:=.type "list",data:=.seq vs.toArray },ZY rfl⟩)) (λb u z=>?_) (λb z=>?_) λ_=>hk
  .by_cases hb:b=a
   .exact .inr ⟨_,_,ZY hb⟩
   .exact .inl ((ZZ hb).trans (ZZ n))
  .by_cases hb:b=a
   .have z':=(ZY hb).symm.trans z;cases z';subst hb;exact⟨ha,by rw[ak];exact hl,vs,_,rv,ha⟩
   .obtain⟨hb,rfl⟩:=sF ((ZZ hb).symm.trans z);exact hP b hb
  .by_cases hb:b=a
   .exact .inl hb
   .exact .inr (noT λy=>z ((ZZ hb).trans y))
def JR(K:Frag)(Ts:Φ):Sp:=λvs H Q _=>∃(a:Addr)(ns:zS),vs=[.ref a]/\SqL K H a (ns.map V.int)/\ns.length<=63/\(∀Pt∈Ts,H Pt=some (.tbl #[]))/\∀H',Q (.bl true) H'
def ac4{l:PySem.W.OpenLaw}{q:Program}{loose:Θ}{XP:(Str->Ψ)->Heap->Prop}{YP:World->Heap->Prop}{d:DefRec}{K:Params->Frag}(Ts:Φ)(hn:l.most=some 63)(iS:d.params.defaults=[])
 (hr:dU k callerA)(hY:∀(w:World)(h:Heap),YP w h->(K w.params).In h/\∀Pt∈Ts,h.get? Pt=some (tabObj #[]))(mn:∀(w:World),∀Pt∈Ts,(K w.params).lookup Pt=none)(hC:∀(w:World),∀Pt∈Ts,∃c0,codeHdIn (K w.params) c0 Pt)
 (F:∀(w:World)(mg:Str->Ψ)(fa:Addr)(h:Heap),(K w.params).In h->h.Ns mainGlobals mg->mg d.name=some (.ref fa) ->
   ∃st,dG (K w.params) mg d.name st [x]/\∀(base:Heap)(f:Addr)(fd:FuncData),(∀Pt∈Ts,base.BuiltinsAt mg Pt)->Fun (K w.params) d.name d.name st f fd->bV l.prog w (K w.params) mg base cp k f fd [x] (JR (K w.params) Ts)) :
  PySem.W.WalkO q loose XP YP l.row.toRowW d [] (λf vs=>PySem.call f vs):=by
 refine Att.Bc hn iS λw s₀ s₁ mg mb fa o pm cd bi a vs ns G Y ho hd bp gg e9 di aI hg=>?_;obtain⟨KX,hP⟩:=hY w _ Y;obtain⟨st,⟨f,fd,hf,hb,hm⟩,ok⟩:=F w mg fa _ KX G.T.g gg;rw[hm]at gg;have e:f=fa:=by injection gg with z;injection z
 subst e;obtain⟨bm,ob,b1,b2,b3,b4,b5,b6⟩:=G.T.bmain;have hB:∀Pt∈Ts,s₁.heap.BuiltinsAt mg Pt:=λPt i5=>by
  refine⟨bm,ob,b1,b2,λz=>?_,λz=>?_,b3,b4,b5,b6⟩
  .obtain⟨o',es,ep,e,d',_⟩:=G.T.g;rw[z,e]at b3;cases b3;rw[d']at b6;cases b6
  .rw[z,hP Pt i5]at b3;cases b3;cases b4
 exact Uk (sp:=JR (K w.params) Ts) KX hP (mn w) (hC w) hB G.T.g G.T.b G.T.builtins G.T.nolimit hg e9 di (aK aI xa) hr (λbase _ _ hB=>ok base f fd hB hf) (λs u=>.of_eq (hb [u] rfl)) (λH hT hS=>⟨a,ns,rfl,hS,aI,hT,λ_=>rfl⟩) λH e s' z=>z
def SJ{Ts:Φ}(X:Frag.In (K++Ts.map λq=>(q,o)) h)(hk:∀q∈Ts,K.lookup q=none):K.In h/\∀q∈Ts,h.get? q=some o:=by
 refine⟨λb u e=>X b u ?_,λq hq=>X q o ?_⟩
 .rw[JS,e];rfl
 .rw[JS,hk q hq]
  clear X hk
  induction Ts with
  |nil=>cases hq
  |cons t l ih =>
   show List.lookup q ((t,o)::l.map λq=>(q,o))=some o;rw[lookup_cons];by_cases z:q=t
   .rw[z];simp
   .rw[show(q==t)=false from beq_eq_false_iff_ne.mpr z];exact ih ((YU.mp hq).resolve_left z)
def abI{p:Addr->Prop}(x:p a)(y:p b)(z:p c):∀q∈[a,b,c],p q:=λq h=>by
 simp only[YU,VS,or_false]at h;rcases h with rfl|rfl|rfl
 .exact x
 .exact y
 .exact z
section
variable{X:Cx}{k:Nat}{f C B:Addr}{ps:Θ}{sp:Sp}{x m:Str}{p pos ai:Pos}{e:Expr}{es:zh}{t:TA}
def VO(C:Addr)(sp:Sp)(t:TA):TE:=λσ H Q=>t σ H λvs H1=>∀x dx,H1 x=none->H1 dx=none->dx≠x->sp (.ref x::vs) (upd (upd H1 dx (.own x)) x (.ins C dx [])) (λv H2=>v=.non/\Q (.ref x) H2) E0
def Xp(M:Mk X.K C f)(G:zv X cp k f ps sp)(hr:dU (k+1) X.A)(hg:Gl X x)(hm:X.mg x=some (.ref C))(ha:PA X (e::es) t)(ci:qk x:=by decide)
 (he:qo X e es:=by rfl)(be:qh X pos es:=by rfl):PE X (.Call (.Name x p) (e::es) [] pos) (VO C sp t):=by
 obtain⟨fd,F,hb⟩:=G;refine(Za M F hr hg hm hb .nil Ie ha.mono ci he be).imp λσ H Q h=>⟨_,h,λvs H1 q x dx h1 h2 h3=>?_⟩;rw[append_nil];exact q x dx h1 h2 h3
def Vx(c:Bm X.K B m f)(G:zv X cp k f ps sp)(hr:dU k X.A)(hg:Gl X x)(hm:X.mg x=some (.ref B))(ha:PA X (e::es) t)(ci:qk x:=by decide)
 (ce:qo X e es:=by rfl)(be:qh X pos es:=by rfl)
 (ht:eval (.Call (.Attribute (.Name x p) m ai) (e::es) [] pos) X.env=(do
   let ov <- eval (.Name x p) X.env
   standAt ai.atName
   let(f,first) <- holding [ov] (getMethod ov m pl)
   callWith pos f first (backTo pos (starEach (e::es) X.env)) (backToKw pos (keywordEach [] X.env))):=by rfl) :
  PE X (.Call (.Attribute (.Name x p) m ai) (e::es) [] pos) (Qt sp t):=by
 obtain⟨fd,F,hb⟩:=G;exact Zm (pl:=pl) c F hr hg hm hb ha ci ce be ht
end
inductive T where
 |any|non|bl (b:Bool)|int (i:Int)|str (s:Str)|val (v:V)
 |tup (ts:List T)|lst (ts:List T)|scr (ts:List T)
 |dct (ks:xk) (ts:List T)|ins (C:Addr) (ks:Θ) (ts:List T)|exc (C:Addr) (ks:Θ) (ts:List T)
abbrev zg:=List T
def T8(F:Hp):Ω->xz->Prop
 |none,l=>l=[]
 |some d,l=>F d=some (.xd l)
mutual
inductive Rep(K:Frag)(F:Hp):V->T->Prop
 |any (v:V):Rep K F v .any
 |non:Rep K F .non .non
 |bl (b:Bool):Rep K F (.bl b) (.bl b)
 |int (i:Int):Rep K F (.int i) (.int i)
 |str (s:Str):Rep K F (.str s) (.str s)
 |val (v:V):Rep K F v (.val v)
 |tup {a:Addr}{xs:Β}{ts:zg} : SqT K F a xs->bM K F xs ts->Rep K F (.ref a) (.tup ts)
 |lst {a:Addr}{xs:Β}{ts:zg} : F a=some (.lst xs)->bM K F xs ts->Rep K F (.ref a) (.lst ts)
 |scr {a:Addr}{xs:Β}{ts:zg} : SqL K F a xs->bM K F xs ts->Rep K F (.ref a) (.scr ts)
 |dct {a:Addr}{ks:xk}{xs:Β}{ts:zg} : Rd F a (.dK (ks.zip xs))->ks.length=xs.length->bM K F xs ts->Rep K F (.ref a) (.dct ks ts)
 |ins {a C dx:Addr}{ks:Θ}{xs:Β}{ts:zg} : F a=some (.ins C dx (ks.zip xs))->F dx=some (.own a)->ks.length=xs.length->bM K F xs ts->Rep K F (.ref a) (.ins C ks ts)
 |exc {a C:Addr}{d:Ω}{ks:Θ}{xs:Β}{ts:zg} : F a=some (XO a C d)->T8 F d (ks.zip xs)->ks.length=xs.length->bM K F xs ts->Rep K F (.ref a) (.exc C ks ts)
inductive bM(K:Frag)(F:Hp):Β->zg->Prop
 |nil:bM K F [] []
 |cons {x:V}{xs:Β}{t:T}{ts:zg} : Rep K F x t->bM K F xs ts->bM K F (x::xs) (t::ts)
end
variable{x:V}{ts:zg}{S:Addr->Prop}
section
variable{K:Frag}{F F' H H':Hp}
def z0.rd{u:HO}(S:z0 F F')(h:Rd F a u):Rd F' a u:=h.imp (S _ _) λhP=>by obtain⟨o,e⟩:=hP;exact⟨o,S _ _ e⟩
def T8.same{d:Ω}{l:xz}(S:z0 F F')(h:T8 F d l):T8 F' d l:=by
 cases d with
 |none=>exact h
 |some d=>exact S _ _ h
mutual
theorem Rep.same(S:z0 F F'):∀{x:V}{t:T},Rep K F x t->Rep K F' x t
 |_,_,.any v=>.any v
 |_,_,.non=>.non
 |_,_,.bl b=>.bl b
 |_,_,.int i=>.int i
 |_,_,.str s=>.str s
 |_,_,.val v=>.val v
 |_,_,.tup e h=>.tup (S.tup e) (bM.same S h)
 |_,_,.lst e h=>.lst (S _ _ e) (bM.same S h)
 |_,_,.scr e h=>.scr (S.seq e) (bM.same S h)
 |_,_,.dct e l h=>.dct (S.rd e) l (bM.same S h)
 |_,_,.ins e d l h=>.ins (S _ _ e) (S _ _ d) l (bM.same S h)
 |_,_,.exc e d l h=>.exc (S _ _ e) (d.same S) l (bM.same S h)
theorem bM.same(S:z0 F F'):∀{xs:Β}{ts:zg},bM K F xs ts->bM K F' xs ts
 |_,_,.nil=>.nil
 |_,_,.cons h t=>.cons (Rep.same S h) (bM.same S t)
end
def Rep.lstI(h:Rep K F x (.lst ts)):∃a xs,x=.ref a/\F a=some (.lst xs)/\bM K F xs ts:=by cases h;exact⟨_,_,rfl,by assumption,by assumption⟩
def Rep.tupI(h:Rep K F x (.tup ts)):∃a xs,x=.ref a/\SqT K F a xs/\bM K F xs ts:=by cases h;exact⟨_,_,rfl,by assumption,by assumption⟩
def Rep.scrI(h:Rep K F x (.scr ts)):∃a xs,x=.ref a/\SqL K F a xs/\bM K F xs ts:=by cases h;exact⟨_,_,rfl,by assumption,by assumption⟩
def Rep.dctI{ks:xk}(h:Rep K F x (.dct ks ts)):∃a xs,x=.ref a/\Rd F a (.dK (ks.zip xs))/\ks.length=xs.length/\bM K F xs ts:=by cases h;exact⟨_,_,rfl,by assumption,by assumption,by assumption⟩
def Rep.insI{C:Addr}{ks:Θ}(h:Rep K F x (.ins C ks ts)):∃a dx xs,x=.ref a/\F a=some (.ins C dx (ks.zip xs))/\F dx=some (.own a)/\ks.length=xs.length/\bM K F xs ts:=by cases h;exact⟨_,_,_,rfl,by assumption,by assumption,by assumption,by assumption⟩
theorem bM.len:∀{xs:Β}{ts:zg},bM K F xs ts->xs.length=ts.length
 |_,_,.nil=>rfl
 |_,_,.cons _ t=>ZH (· + 1) (bM.len t)
theorem bM.app:∀{xs ys:Β}{ts us:zg},bM K F xs ts->bM K F ys us->bM K F (xs++ys) (ts++us)
 |_,_,_,_,.nil,h=>h
 |_,_,_,_,.cons a b,h=>.cons a (bM.app b h)
theorem bM.at_:∀{xs:Β}{ts:zg}{i:Nat}{t:T},bM K F xs ts->ts[i]?=some t->∃x,xs[i]?=some x/\Rep K F x t
 |_,_,_,_,.nil,e=>by cases e
 |_,_,0,_,.cons a _,e=>by cases e;exact⟨_,rfl,a⟩
 |_,_,i+1,_,.cons _ b,e=>by
  obtain⟨x,q,r⟩:=bM.at_ (i:=i) b (by simpa using e);exact⟨x,by simpa using q,r⟩
theorem bM.of_at:∀{xs:Β}{ts:zg},xs.length=ts.length->(∀(i:Nat)x t,xs[i]?=some x->ts[i]?=some t->Rep K F x t)->bM K F xs ts
 |[],[],_,_=>.nil
 |x::xs,t::ts,l,h=>.cons (h 0 x t rfl rfl) (bM.of_at (Nat.succ.inj l) λi y u e1 e2=>h (i+1) y u e1 e2)
 |[],_::_,l,_=>by cases l
 |_::_,[],l,_=>by cases l
theorem bM.set{x:V}{t:T}(r:Rep K F x t):∀{xs:Β}{ts:zg}(i:Nat),bM K F xs ts->bM K F (xs.set i x) (ts.set i t)
 |_,_,_,.nil=>.nil
 |_,_,0,.cons _ h=>.cons r h
 |_,_,i+1,.cons a h=>.cons a (bM.set r i h)
theorem bM.take:∀{xs:Β}{ts:zg}(n:Nat),bM K F xs ts->bM K F (xs.take n) (ts.take n)
 |_,_,0,_=>.nil
 |_,_,_+1,.nil=>.nil
 |_,_,n+1,.cons a h=>.cons a (bM.take n h)
theorem bM.drop:∀{xs:Β}{ts:zg}(n:Nat),bM K F xs ts->bM K F (xs.drop n) (ts.drop n)
 |_,_,0,h=>h
 |_,_,_+1,.nil=>.nil
 |_,_,n+1,.cons _ h=>bM.drop n h
def hd(S:Addr->Prop)(H:Hp):Hp:=λb=>open Classical in if S b then none else H b
def uQ(h:S b):hd S H b=none:=by unfold hd;rw[ZY h]
def dI(h:¬S b):hd S H b=H b:=by unfold hd;rw[ZZ h]
def cW{o:HO}(e:hd S H b=some o):¬S b/\H b=some o:=by
 by_cases h:S b
 .rw[uQ h]at e;cases e
 .rw[dI h]at e;exact⟨h,e⟩
def jK{S':Addr->Prop}(i:∀b,S' b->S b\/H b=none)(e:z0 H H'):z0 (hd S H) (hd S' H'):=λb o h=>by
 obtain⟨n,h⟩:=cW h;rw[dI λz=>?_]
 .exact e _ _ h
 .rcases i b z with y|y
  .exact n y
  .rw[h]at y;cases y
def cF : z0 (hd S H) H:=λ_ _ h=>(cW h).2
def bW(e:z0 H H'):z0 (hd S H) (hd S H'):=jK (λ_=>.inl) e
def Rn:hd (λ_=>False) H=H:=funext λ_=>dI id
inductive OT where
 |und|fz (t:T)|l1 (ts:zg)|l2 (bE:List zg)|d1 (ks:xk) (ts:zg)|ob (a dx C:Addr) (ks:Θ) (ts:zg)|la (a:Addr) (ts:zg)|pr (ts us:zg)|gh (φ:Hp->V->Prop) (t:T)
abbrev zt:=List OT
def frz:OT->T
 |.und=>.any
 |.fz t=>t
 |.l1 ts=>.lst ts
 |.l2 bE=>.lst (bE.map T.lst)
 |.d1 ks ts=>.dct ks ts
 |.ob _ _ C ks ts=>.ins C ks ts
 |.la _ ts=>.lst ts
 |.pr ts us=>.tup [.lst ts,.lst us]
 |.gh _ t=>t
def Slo(K:Frag)(F H:Hp)(v:xp)(A:Φ):OT->Prop
 |.und=>A=[]
 |.fz t=>A=[]/\∃u,v=some u/\Rep K F u t
 |.l1 ts=>∃a xs,v=some (.ref a)/\A=[a]/\H a=some (.lst xs)/\bM K F xs ts
 |.l2 bE=>∃a bs,v=some (.ref a)/\A=a::bs/\(a::bs).Nodup/\H a=some (.lst (bs.map V.ref))/\bs.length=bE.length/\∀(i:Nat)b ts,bs[i]?=some b->bE[i]?=some ts->∃xs,H b=some (.lst xs)/\bM K F xs ts
 |.d1 ks ts=>∃a xs,v=some (.ref a)/\A=[a]/\H a=some (.dK (ks.zip xs))/\ks.length=xs.length/\bM K F xs ts
 |.ob a dx C ks ts=>∃xs,v=some (.ref a)/\A=[a,dx]/\H a=some (.ins C dx (ks.zip xs))/\H dx=some (.own a)/\ks.length=xs.length/\bM K F xs ts
 |.la a ts=>∃xs,v=some (.ref a)/\A=[a]/\H a=some (.lst xs)/\bM K F xs ts
 |.pr ts us=>∃p a b xs ys,v=some (.ref p)/\A=[a,b]/\a≠b/\F p=some (.tup [.ref a,.ref b])/\H a=some (.lst xs)/\H b=some (.lst ys)/\bM K F xs ts/\bM K F ys us
 |.gh φ t=>A=[]/\(∀F F' u,z0 F F'->φ F u->φ F' u)/\∃u,v=some u/\φ F u/\Rep K F u t
def Slo.same{v:xp}{A:Φ}(S:z0 F F')(E:z0 H H'):∀{x:OT},Slo K F H v A x->Slo K F' H' v A x
 |.und,h=>h
 |.fz _,⟨a,u,e,r⟩=>⟨a,u,e,r.same S⟩
 |.l1 _,⟨a,xs,e,z,h,r⟩=>⟨a,xs,e,z,E _ _ h,r.same S⟩
 |.l2 _,⟨a,bs,e,z,n,h,l,r⟩=>⟨a,bs,e,z,n,E _ _ h,l,λi b ts e1 e2=>let⟨xs,q,r⟩:=r i b ts e1 e2;⟨xs,E _ _ q,r.same S⟩⟩
 |.d1 _ _,⟨a,xs,e,z,h,l,r⟩=>⟨a,xs,e,z,E _ _ h,l,r.same S⟩
 |.ob _ _ _ _ _,⟨xs,e,z,h,d,l,r⟩=>⟨xs,e,z,E _ _ h,E _ _ d,l,r.same S⟩
 |.la _ _,⟨xs,e,z,h,r⟩=>⟨xs,e,z,E _ _ h,r.same S⟩
 |.pr _ _,⟨p,a,b,xs,ys,e,z,n,t,h,k,r,q⟩=>⟨p,a,b,xs,ys,e,z,n,S _ _ t,E _ _ h,E _ _ k,r.same S,q.same S⟩
 |.gh _ _,⟨a,st,u,e,p,r⟩=>⟨a,st,u,e,st _ _ _ S p,r.same S⟩
def Slo.off{v:xp}{A:Φ} : ∀{x:OT},Slo K F H v A x->(∀b∈A,∀u,H b=some u->H' b=some u)->Slo K F H' v A x
 |.und,s,_=>s
 |.fz _,s,_=>s
 |.l1 _,⟨a,xs,e,z,w,r⟩,off=>⟨a,xs,e,z,off a (by rw[z];simp) _ w,r⟩
 |.l2 _,⟨a,bs,e,z,nd,w,l,r⟩,off=>⟨a,bs,e,z,nd,off a (by rw[z];simp) _ w,l,λi b ts e1 e2=>let⟨xs,q,r⟩:=r i b ts e1 e2;⟨xs,off b (by rw[z];exact aH _ (aB e1)) _ q,r⟩⟩
 |.d1 _ _,⟨a,xs,e,z,w,r⟩,off=>⟨a,xs,e,z,off a (by rw[z];simp) _ w,r⟩
 |.ob a dx _ _ _,⟨xs,e,z,w,d,r⟩,off=>⟨xs,e,z,off a (by rw[z];simp) _ w,off dx (by rw[z];simp) _ d,r⟩
 |.la a _,⟨xs,e,z,w,r⟩,off=>⟨xs,e,z,off a (by rw[z];simp) _ w,r⟩
 |.pr _ _,⟨p,a,b,xs,ys,e,z,n,t,h,k,r⟩,off=>⟨p,a,b,xs,ys,e,z,n,t,off a (by rw[z];simp) _ h,off b (by rw[z];simp) _ k,r⟩
 |.gh _ _,s,_=>s
def V6(H:Hp)(a:Addr):Prop:=∃o,H a=some o/\((∃xs,o=.lst xs)\/(∃k,o=.dK k)\/(∃C d f,o=.ins C d f)\/∃x,o=.own x)
def Slo.sole{v:xp}{A:Φ}{x:OT}(h:Slo K F H v A x)(ha:a∈A):V6 H a:=by
 cases x with
 |und=>rw[show A=[]from h]at ha;cases ha
 |fz t=>rw[h.1]at ha;cases ha
 |l1 ts=>obtain⟨b,xs,_,rfl,e,_⟩:=h;cases YR.mp ha;exact⟨_,e,.inl ⟨_,rfl⟩⟩
 |l2 bE =>
  obtain⟨b,bs,_,rfl,_,e,l,r⟩:=h;rcases YU.mp ha with z|z
  .exact⟨_,z ▸ e,.inl ⟨_,rfl⟩⟩
  .obtain⟨i,hi⟩:=aU z;have li:i<bE.length:=l ▸ (ao.mp hi).1;obtain⟨xs,q,_⟩:=r i a _ hi (aj li);exact⟨_,q,.inl ⟨_,rfl⟩⟩
 |d1 ks ts=>obtain⟨b,xs,_,rfl,e,_⟩:=h;cases YR.mp ha;exact⟨_,e,.inr (.inl ⟨_,rfl⟩)⟩
 |ob b dx C ks ts =>
  obtain⟨xs,_,rfl,e,d,_⟩:=h;rcases YU.mp ha with z|z
  .exact⟨_,z ▸ e,.inr (.inr (.inl ⟨_,_,_,rfl⟩))⟩
  .cases YR.mp z;exact⟨_,d,.inr (.inr (.inr ⟨_,rfl⟩))⟩
 |la b ts=>obtain⟨xs,_,rfl,e,_⟩:=h;cases YR.mp ha;exact⟨_,e,.inl ⟨_,rfl⟩⟩
 |pr ts us =>
  obtain⟨p,b,c,xs,ys,_,rfl,_,_,e,d,_⟩:=h;rcases YU.mp ha with z|z
  .exact⟨_,z ▸ e,.inl ⟨_,rfl⟩⟩
  .cases YR.mp z;exact⟨_,d,.inl ⟨_,rfl⟩⟩
 |gh φ t=>rw[h.1]at ha;cases ha
def Slo.frz{u:V}{A:Φ}{x:OT}(h:Slo K F H (some u) A x)(S:z0 F F')(E:∀a∈A,F' a=H a):Rep K F' u (frz x):=by
 cases x with
 |und=>exact .any _
 |fz t=>obtain⟨_,w,e,r⟩:=h;cases e;exact r.same S
 |l1 ts=>obtain⟨b,xs,e,rfl,q,r⟩:=h;cases e;exact .lst ((E _ xF).trans q) (r.same S)
 |l2 bE =>
  obtain⟨b,bs,e,rfl,_,q,l,r⟩:=h;cases e;refine .lst ((E _ xF).trans q) (bM.of_at (by simp[l]) λi x t e1 e2=>?_);rw[aq]at e1 e2;cases e3:bs[i]? with
  |none=>rw[e3]at e1;cases e1
  |some c =>
   cases e4:bE[i]? with
   |none=>rw[e4]at e2;cases e2
   |some ts =>
    rw[e3]at e1;rw[e4]at e2;cases e1;cases e2;obtain⟨xs,q,r⟩:=r i c ts e3 e4;exact .lst ((E _ (aH _ (aB e3))).trans q) (r.same S)
 |d1 ks ts=>obtain⟨b,xs,e,rfl,q,l,r⟩:=h;cases e;exact .dct (.inl ((E _ xF).trans q)) l (r.same S)
 |ob b dx C ks ts=>obtain⟨xs,e,rfl,q,d,l,r⟩:=h;cases e;exact .ins ((E _ xF).trans q) ((E _ xF).trans d) l (r.same S)
 |la b ts=>obtain⟨xs,e,rfl,q,r⟩:=h;cases e;exact .lst ((E _ xF).trans q) (r.same S)
 |pr ts us =>
  obtain⟨p,b,c,xs,ys,e,rfl,_,t,q1,q2,r1,r2⟩:=h;cases e;exact .tup (.inl (.of (S _ _ t))) (.cons (.lst ((E _ xF).trans q1) (r1.same S)) (.cons (.lst ((E _ xF).trans q2) (r2.same S)) .nil))
 |gh φ t=>obtain⟨_,_,w,e,_,r⟩:=h;cases e;exact r.same S
abbrev zz:Type:=Nat->Φ
def Ow(own:zz)(b:Addr):Prop:=∃i,b∈own i
structure SR(K:Frag)(own:zz)(H:Hp)(σ:L2.St)(o:zt):Prop where
 len:o.length=σ.length
 sl:∀i x,o[i]?=some x->Slo K (hd (Ow own) H) H (σ[i]?.join) (own i) x
 out:∀i,o.length<=i->∀a∈own i,∃xs,H a=some (.lst xs)
 dis:∀i j a,a∈own i->a∈own j->i=j
variable{own:zz}{σ:L2.St}{o:zt}
def SR.same(h:SR K own H σ o)(E:z0 H H'):SR K own H' σ o:=⟨h.len,λi x e=>(h.sl i x e).same (bW E) E,λi hi a ha=>let⟨xs,e⟩:=h.out i hi a ha;⟨xs,E _ _ e⟩,h.dis⟩
def SR.sole(h:SR K own H σ o){b:Addr}(z:Ow own b):V6 H b:=by
 obtain⟨i,z⟩:=z;by_cases hi:i<o.length
 .exact(h.sl i _ (aj hi)).sole z
 .obtain⟨xs,e⟩:=h.out i (Nat.not_lt.mp hi) b z;exact⟨_,e,.inl ⟨_,rfl⟩⟩
def V6.ne(h:V6 H a):H a≠none:=by
 obtain⟨o,e,_⟩:=h;rw[e];exact λz=>by cases z
def NR(K:Frag)(S:Addr->Prop)(H H':Hp)(v:V)(x:OT):Prop:=∃B,(∀a∈B,H a=none)/\Slo K (hd (λb=>S b\/b∈B) H') H' (some v) B x
def NR.rep{x:OT}(h:NR K S H H' v x)(hs:∀b,S b->H b≠none):Rep K (hd S H') v (L2.frz x):=by
 obtain⟨B,n,r⟩:=h;exact r.frz (jK (λb z=>.inl (.inl z)) (λ_ _ z=>z)) λa ha=>dI λz=>hs a z (n a ha)
def NR.fz{S:Addr->Prop}{v:V}{t:T}(h:Rep K (hd S H') v t):NR K S H H' v (.fz t):=⟨[],λ_ z=>(nomatch z),rfl,v,rfl,h.same (jK (λb z=>.inl (z.elim id λy=>(nomatch y))) λ_ _ z=>z)⟩
def NR.l1{S:Addr->Prop}{a:Addr}{xs:Β}{ts:zg}(n:H a=none)(e:H' a=some (.lst xs))(h:bM K (hd (λb=>S b\/b=a) H') xs ts):NR K S H H' (.ref a) (.l1 ts) :=
 ⟨[a],λ_ z=>(YR.mp z) ▸ n,a,xs,rfl,rfl,e,h.same (jK (λb z=>.inl (z.imp id YR.mp)) λ_ _ z=>z)⟩
def NR.back{H0:Hp}{x:OT}(h:NR K S H H' v x)(E:z0 H0 H):NR K S H0 H' v x:=by
 obtain⟨B,n,r⟩:=h;exact⟨B,λa ha=>E.free (n a ha),r⟩
def own1(own:zz)(i:Nat)(B:Φ):zz:=λj=>if j=i then B else own j
def jM{B:Φ} : own1 own i B i=B:=ZY rfl
def fL{j:Nat}{B:Φ}(h:j≠i):own1 own i B j=own j:=ZZ h
def Ow.of1{B:Φ}(h:Ow (own1 own i B) b):Ow own b\/b∈B:=by
 obtain⟨j,h⟩:=h;by_cases z:j=i
 .rw[z,jM]at h;exact .inr h
 .rw[fL z]at h;exact .inl ⟨j,h⟩
def SR.put(h:SR K own H σ o)(E:z0 H H'){x:OT}(n:NR K (Ow own) H H' v x)(hi:i<o.length):∃ag,SR K ag H' (σ.set i (some v)) (o.set i x)/\z0 (hd (Ow own) H) (hd (Ow ag) H'):=by
 obtain⟨B,nb,r⟩:=n;have le:z0 (hd (Ow own) H) (hd (Ow (own1 own i B)) H'):=jK (λb z=>z.of1.imp id (nb b)) E;refine⟨own1 own i B,⟨by rw[VZ,VZ,h.len],λj y e=>?_,λj hj=>?_,λj k a e1 e2=>?_⟩,le⟩
 .by_cases z:j=i
  .subst z;rw[UZ hi]at e;cases e;rw[jM,UZ (h.len ▸ hi)];exact r.same (jK (λb z=>.inl z.of1) λ_ _ z=>z) λ_ _ z=>z
  .rw[Up (Ne.symm z)]at e;rw[fL z,Up (Ne.symm z)];exact(h.sl j y e).same le E
 .rw[VZ]at hj;rw[fL xB];intro a ha;obtain⟨xs,e⟩:=h.out j hj a ha;exact⟨xs,E _ _ e⟩
 .by_cases z:j=i<;>by_cases y:k=i
  .rw[z,y]
  .rw[z,jM]at e1;rw[fL y]at e2;exact absurd (nb a e1) (h.sole ⟨k,e2⟩).ne
  .rw[y,jM]at e2;rw[fL z]at e1;exact absurd (nb a e2) (h.sole ⟨j,e1⟩).ne
  .rw[fL z]at e1;rw[fL y]at e2;exact h.dis j k a e1 e2
def SR.frz(h:SR K own H σ o){i:Nat}{x:OT}(e:o[i]?=some x){u:V}(hu:σ[i]?=some (some u)):∃ag,SR K ag H σ (o.set i (.fz (L2.frz x)))/\z0 (hd (Ow own) H) (hd (Ow ag) H):=by
 have hi:i<o.length:=(ao.mp e).1;have le:z0 (hd (Ow own) H) (hd (Ow (own1 own i [])) H):=jK (λb z=>.inl (z.of1.elim id λy=>(nomatch y))) λ_ _ z=>z;have hs:=h.sl i x e;rw[hu]at hs;refine⟨own1 own i [],⟨by rw[VZ,h.len],λj y e'=>?_,λj hj=>?_,λj k a e1 e2=>?_⟩,le⟩
 .by_cases z:j=i
  .subst z;rw[UZ hi]at e';cases e';rw[jM,hu];exact⟨rfl,u,rfl,Slo.frz hs le λa ha=>dI λz=>by
    obtain⟨k,z⟩:=z;by_cases y:k=j
    .rw[y,jM]at z;cases z
    .rw[fL y]at z;exact y (h.dis k j a z ha)⟩
  .rw[Up (Ne.symm z)]at e';rw[fL z];exact(h.sl j y e').same le λ_ _ z=>z
 .rw[VZ]at hj;rw[fL xB];exact h.out j hj
 .by_cases z:j=i
  .rw[z,jM]at e1;cases e1
  by_cases y:k=i
  .rw[y,jM]at e2;cases e2
  .rw[fL z]at e1;rw[fL y]at e2;exact h.dis j k a e1 e2
def SR.chg(h:SR K own H σ o){x:OT}(e:o[i]?=some x){y:OT}(E:∀b u,b∉own i->H b=some u->H' b=some u)(r:Slo K (hd (Ow own) H') H' (σ[i]?.join) (own i) y):SR K own H' σ (o.set i y)/\z0 (hd (Ow own) H) (hd (Ow own) H'):=by
 have hi:i<o.length:=(ao.mp e).1;have le:z0 (hd (Ow own) H) (hd (Ow own) H'):=λb u z=>by
  obtain⟨n,z⟩:=cW z;rw[dI n];exact E b u (λq=>n ⟨i,q⟩) z
 refine⟨⟨by rw[VZ,h.len],λj z e'=>?_,λj hj a ha=>?_,h.dis⟩,le⟩
 rotate_left
 .rw[VZ]at hj;obtain⟨xs,e2⟩:=h.out j hj a ha;exact⟨xs,E a _ (λz=>by have:=h.dis j i a ha z;lia) e2⟩
 by_cases q:j=i
 .subst q;rw[UZ hi]at e';cases e';exact r
 .rw[Up (Ne.symm q)]at e';exact((h.sl j z e').same le λ_ _ z=>z).off λb hb u=>E b u λz=>q (h.dis j i b hb z)
def SR.get(h:SR K own H σ o){i:Nat}{t:T}(e:o[i]?=some (.fz t)):∃u,σ[i]?=some (some u)/\Rep K (hd (Ow own) H) u t:=by
 obtain⟨_,u,q,r⟩:=h.sl i _ e;refine⟨u,?_,r⟩;cases z:σ[i]? with
 |none=>rw[z]at q;cases q
 |some w=>rw[z]at q;exact ZH some q
end
end L2
namespace L2
open PySem PySem.Spec PyProof.Rows
abbrev RE:=zt->(OT->Prop)->Prop
abbrev RT:=zt->(Bool->Prop)->Prop
abbrev RA:=zt->(zg->Prop)->Prop
def tQ(K:Frag)(r:RE):TE:=λσ H Q=>∃own o R,SR K own H σ o/\r o R/\∀H' v x,R x->z0 H H'->NR K (Ow own) H H' v x->Q v H'
def tQT(K:Frag)(r:RT):TT:=λσ H Q=>∃own o R,SR K own H σ o/\r o R/\∀H' b,R b->z0 H H'->Q b H'
def tQA(K:Frag)(n:Nat)(r:RA):TA:=λσ H Q=>∃own o R,SR K own H σ o/\r o R/\∀H' vs ts,R ts->ts.length=n->z0 H H'->bM K (hd (Ow own) H') vs ts->Q vs H'
def QE(X:Cx)(e:Expr)(r:RE):Prop:=PE X e (tQ X.K r)
def QT(X:Cx)(e:Expr)(r:RT):Prop:=PT X e (tQT X.K r)
def QW(X:Cx)(e:Expr)(r:RT):Prop:=PW X e (tQT X.K r)
def QA(X:Cx)(es:zh)(r:RA):Prop:=PA X es (tQA X.K es.length r)
variable{X:Cx}{es:zh}{R:OT->Prop}{Q:VK}{b:Bool}{pos:Pos}{t:T}{v:V}
def PT.imp{e:Expr}{t t':TT}(h:PT X e t)(i:∀σ H Q,t' σ H Q->t σ H Q):PT X e t':=λaa s σ H Q I q=>h aa s σ H Q I (i σ H Q q)
def PW.imp{e:Expr}{t t':TT}(h:PW X e t)(i:∀σ H Q,t' σ H Q->t σ H Q):PW X e t':=λwh aa s σ H Q I q=>h wh aa s σ H Q I (i σ H Q q)
def PA.imp{t t':TA}(h:PA X es t)(i:∀σ H Q,t' σ H Q->t σ H Q):PA X es t':=λp aa s σ H Q I q=>h p aa s σ H Q I (i σ H Q q)
section
variable{K:Frag}{own:zz}{H:Hp}{σ:L2.St}{o:zt}
def tQ.mk{r:RE}(h:SR K own H σ o)(hr:r o R)(k:∀H' v x,R x->z0 H H'->Rep K (hd (Ow own) H') v (frz x)->Q v H'):tQ K r σ H Q :=
 ⟨own,o,R,h,hr,λH' v x rx E n=>k H' v x rx E (n.rep λb z=>(h.sole z).ne)⟩
def slot:zt->Nat->OT
 |[],_=>.und
 |x::_,0=>x
 |_::l,n+1=>slot l n
theorem jc:∀{o:zt}{i:Nat}{x:OT},slot o i=x->x≠.und->o[i]?=some x
 |[],_,_,e,n=>absurd e.symm n
 |_::_,0,_,e,_=>ZH some e
 |_::l,i+1,x,e,n=>by simpa using jc (o:=l) (i:=i) e n
end
def cA(i:Nat):RE:=λo q=>match slot o i with|.fz t=>q (.fz t)|_=>False
def rC(t:T):RE:=λ_ q=>q (.fz t)
abbrev qA:Type:=T->T->(OT->Prop)->Prop
def nL(g:qA)(a b:RE):RE:=λo q=>a o λx=>b o λy=>g (frz x) (frz y) q
def JI(g:T->(OT->Prop)->Prop)(a:RE):RE:=λo q=>a o λx=>g (frz x) q
def sw(b:Bool)(p q:Prop):Prop:=match b with|true=>p|false=>q
def uk{p q:Prop}(h1:b->p)(h2:b=false->q):sw b p q:=by
 cases b
 .exact h2 rfl
 .exact h1 rfl
def pS{c:Prop}[Decidable c]{p q:Prop}(h1:c->p)(h2:¬c->q):sw (decide c) p q:=uk (λe=>h1 (of_decide_eq_true e)) λe=>h2 (of_decide_eq_false e)
def uj{p q:Prop}(e:b)(h:p):sw b p q:=by subst e;exact h
def sN{p q:Prop}(e:b=false)(h:q):sw b p q:=by subst e;exact h
def qv(i:Nat){x:Str}(hN:n_X X i x:=by exact⟨rfl,rfl,xa,xa⟩):QE X (.Name x pos) (cA i):=(pv i hN).imp λσ H Q hP=>by
 obtain⟨own,o,R,h,hr,k⟩:=hP;unfold cA at hr;cases e:slot o i with
 |fz t =>
  rw[e]at hr;obtain⟨u,q,r⟩:=h.get (jc e (by intro z;cases z));exact⟨u,q,k H u _ hr (.refl _) (NR.fz r)⟩
 |_=>rw[e]at hr;exact hr.elim
def xC{x:Str}(hN:n_X X 0 x:=by exact⟨rfl,rfl,xa,xa⟩):QE X (.Name x pos) (cA 0):=qv 0 hN
def xD{x:Str}(hN:n_X X 1 x:=by exact⟨rfl,rfl,xa,xa⟩):QE X (.Name x pos) (cA 1):=qv 1 hN
def xL{x:Str}(hN:n_X X 2 x:=by exact⟨rfl,rfl,xa,xa⟩):QE X (.Name x pos) (cA 2):=qv 2 hN
def xS{x:Str}(hN:n_X X 3 x:=by exact⟨rfl,rfl,xa,xa⟩):QE X (.Name x pos) (cA 3):=qv 3 hN
def qC{e:Expr}(h:PE X e (tC v))(r:∀F,Rep X.K F v t):QE X e (rC t):=h.imp λσ H Q hP=>by obtain⟨own,o,R,_,hr,k⟩:=hP;exact k H v _ hr (.refl _) (NR.fz (r _))
def bx{i j pos} : QE X (.Constant (.int i) j pos) (rC (.int i)):=qC TB λ_=>.int _
def nQ{b j pos} : QE X (.Constant (.bool b) j pos) (rC (.bl b)):=qC PF λ_=>.bl _
def mG{j pos} : QE X (.Constant .none j pos) (rC .non):=qC We λ_=>.non
def Jp{x j pos} : QE X (.Constant (.str x) j pos) (rC (.str x)):=qC Se λ_=>.str _
def Nh{x:Str}(hm:∃u,X.mg x=some u/\z4 v u)(r:∀F,Rep X.K F v t)(hg:Gl X x:=by rfl)(hd:qk x:=by decide):QE X (.Name x pos) (rC t):=qC (Wb hg hm hd) r
variable{b a c:Expr}{ra rb:RE}{g:qA}{op:CmpOp}{S:Addr->Prop}{H:Hp}{xs:Β}{ts:zg}{K:Frag}
def GO(X:Cx)(f:Value->Value->Sem Value)(g:qA):Prop:=OpR X f λx y H Q=>∃S t u R,(∀b,S b->H b≠none)/\Rep X.K (hd S H) x t/\Rep X.K (hd S H) y u/\g t u R/\∀H' v z,R z->z0 H H'->NR X.K S H H' v z->Q v H'
theorem q2{g:qA}{σ:L2.St}{H:Hp}{Q:VK}(h:tQ X.K (nL g ra rb) σ H Q):ui (λx y H Q=>∃S t u R,(∀b,S b->H b≠none)/\Rep X.K (hd S H) x t/\Rep X.K (hd S H) y u/\g t u R/\∀H' v z,R z->z0 H H'->NR X.K S H H' v z->Q v H') (tQ X.K ra) (tQ X.K rb) σ H Q:=by
 obtain⟨own,o,R,h,hr,k⟩:=h;exact tQ.mk h hr λH1 v x q E1 r1=>tQ.mk (h.same E1) q λH2 w y q2 E2 r2=>⟨Ow own,_,_,R,λb z=>((h.same (E1.trans E2)).sole z).ne,r1.same (bW E2),r2,q2,λH' u z rz E3 n=>k H' u z rz (E1.trans (E2.trans E3)) (n.back (E1.trans E2))⟩
def bJ{op:Operator}(ho:GO X (binaryOp op) g)(ha:QE X a ra)(hb:QE X b rb):QE X (.BinOp a op b pos) (nL g ra rb):=(OZ ho ha hb).imp λ_ _ _=>q2
def oO(ho:GO X (compareOp op) g)(ha:QE X a ra)(hb:QE X b rb)(hm:behindInMarks op b=false:=by exact Vi _):QE X (.Compare a [op] [b] pos) (nL g ra rb):=(XE ho ha hb hm).imp λ_ _ _=>q2
def gI(g:Int->Int->OT):qA
 |.int i,.int j,q=>q (g i j)
 |_,_,_=>False
def GO.ints{f:Value->Value->Sem Value}{g:Int->Int->V}{t:Int->Int->T}(h:OpR X f (sx g))(r:∀i j F,Rep X.K F (g i j) (t i j)):GO X f (gI λi j=>.fz (t i j)):=h.imp λx y H Q hP=>by
 obtain⟨S,t,u,R,_,hx,hy,hg,k⟩:=hP;cases hx<;>try exact hg.elim
 cases hy<;>try exact hg.elim
 exact⟨_,_,rfl,rfl,k H _ _ hg (.refl _) (NR.fz (r _ _ _))⟩
def wJ:GO X (binaryOp .Sub) (gI λi j=>.fz (.int (i-j))):=.ints Uf λ_ _ _=>.int _
def zq:GO X (compareOp .Lt) (gI λi j=>.fz (.bl (decide (i<j)))):=.ints Pe λ_ _ _=>.bl _
def Bk:GO X (compareOp .LtE) (gI λi j=>.fz (.bl (decide (i<=j)))):=.ints OL λ_ _ _=>.bl _
def M9:GO X (compareOp .Gt) (gI λi j=>.fz (.bl (decide (j<i)))):=.ints OH λ_ _ _=>.bl _
def GM:GO X (compareOp .GtE) (gI λi j=>.fz (.bl (decide (j<=i)))):=.ints NU λ_ _ _=>.bl _
def Ay:qA
 |.int i,.int j,q=>q (.fz (.int (i+j)))
 |.str a,.str b,q=>a.length+b.length<=sizeLine/\q (.fz (.str (a++b)))
 |.lst a,.lst b,q=>a.length+b.length<=sizeLine/\q (.l1 (a++b))
 |_,_,_=>False
def w5{H':Hp}{p:Addr}(r:bM X.K (hd S H) xs ts)(E:z0 H H')(n:H p=none)(e:H' p=some (.lst xs)):NR X.K S H H' (.ref p) (.l1 ts) :=
 NR.l1 n e (r.same (jK (λb z=>z.imp id λ(y:b=p)=>y ▸ n) E))
def cN:GO X (binaryOp .Add) Ay:=λaa s σ H x y v u Q I rx ry hP=>by
 obtain⟨S,t,w,R,_,hx,hy,hg,k⟩:=hP;cases t<;>try exact hg.elim
 .cases hx;cases w<;>try exact hg.elim
  cases hy;exact RU aa s σ H _ _ v u Q I rx ry ⟨_,_,rfl,rfl,k H _ _ hg (.refl _) (NR.fz (.int _))⟩
 .cases hx;cases w<;>try exact hg.elim
  cases hy;exact YW aa s σ H _ _ v u Q I rx ry ⟨_,_,rfl,rfl,hg.1,k H _ _ hg.2 (.refl _) (NR.fz (.str _))⟩
 .cases w<;>try exact hg.elim
  obtain⟨a,xs,rfl,e1,r1⟩:=hx.lstI;obtain⟨b,ys,rfl,e2,r2⟩:=hy.lstI;exact ZR aa s σ H _ _ v u Q I rx ry ⟨a,b,xs,ys,rfl,rfl,(cW e1).2,(cW e2).2,by rw[r1.len,r2.len];exact hg.1,λp H' E n e=>k H' _ _ hg.2 E (w5 (r1.app r2) E n e)⟩
def yi:qA
 |.int i,.int j,q=>(Bd i/\Bd j)/\q (.fz (.int (i*j)))
 |.lst a,.int j,q=>(-(2^63)<=j/\j<2^63/\a.length*j.toNat<=sizeLine)/\∀z,z=(replicate j.toNat a).flatten->q (.l1 z)
 |.str a,.int j,q=>(∃c,a=⟨#[c]⟩/\1<=j/\j<=1000/\∀z:Str,z.cps.toList=replicate j.toNat c->q (.fz (.str z)))
 |_,_,_=>False
def MI:qA
 |.int i,.int j,q=>(j≠0/\Bd j)/\q (.fz (.int (i.fdiv j)))
 |_,_,_=>False
def L9:qA
 |.int i,.int j,q=>0<j/\q (.fz (.int (i%j)))
 |_,_,_=>False
def Mb:qA
 |.int i,.int j,q=>F1 i j/\q (.fz (.int (i^j.toNat)))
 |_,_,_=>False
def qN:GO X (binaryOp .FloorDiv) MI:=XF.imp λx y H Q hP=>by
 obtain⟨S,t,u,R,_,hx,hy,hg,k⟩:=hP;cases hx<;>try exact hg.elim
 cases hy<;>try exact hg.elim
 exact⟨_,_,rfl,rfl,hg.1,k H _ _ hg.2 (.refl _) (NR.fz (.int _))⟩
def cD:GO X (binaryOp .Mod) L9:=R'.imp λx y H Q hP=>by
 obtain⟨S,t,u,R,_,hx,hy,hg,k⟩:=hP;cases hx<;>try exact hg.elim
 cases hy<;>try exact hg.elim
 exact⟨_,_,rfl,rfl,hg.1,k H _ _ hg.2 (.refl _) (NR.fz (.int _))⟩
def Qy:GO X (binaryOp .Pow) Mb:=Sz.imp λx y H Q hP=>by
 obtain⟨S,t,u,R,_,hx,hy,hg,k⟩:=hP;cases hx<;>try exact hg.elim
 cases hy<;>try exact hg.elim
 exact⟨_,_,rfl,rfl,hg.1,k H _ _ hg.2 (.refl _) (NR.fz (.int _))⟩
def NI:T->(OT->Prop)->Prop
 |.int i,q=>q (.fz (.int (-i)))
 |_,_=>False
def J6(ha:QE X a ra):QE X (.UnaryOp .USub a pos) (JI NI ra):=(Pd SC ha).imp λσ H Q ⟨own,o,R,h,hr,k⟩=>tQ.mk h hr λH1 v x q E1 r1=>by
 revert r1 q
 generalize frz x=t;intro q r1;cases r1<;>try exact q.elim
 exact⟨_,rfl,k _ _ _ q E1 (NR.fz (.int _))⟩
def R7:T->Option Bool
 |.non=>some true
 |.any=>none
 |.val v=>some (decide (v=.non))
 |_=>some false
def vy(neg:Bool):qA:=λt u q=>match u,R7 t with
 |.non,some b=>q (.fz (.bl (xor neg b)))
 |_,_=>False
def Nk{F:Hp}{x:V}{b:Bool}(h:Rep K F x t)(e:R7 t=some b):decide (x=.non)=b:=by
 cases h<;>cases e<;>first|rfl|(apply Zp;intro z;cases z)
def Ar:GO X (compareOp .Is) (vy false):=Ta.imp λx y H Q hP=>by
 obtain⟨S,t,u,R,_,hx,hy,hg,k⟩:=hP;cases hy<;>try exact hg.elim
 unfold vy at hg;cases e:R7 t with
 |none=>rw[e]at hg;exact hg.elim
 |some b=>rw[e]at hg;exact⟨rfl,k H _ _ hg (.refl _) (NR.fz (by rw[Nk hx e,Bool.false_xor];exact .bl _))⟩
def Sq:GO X (compareOp .IsNot) (vy true):=Yt.imp λx y H Q hP=>by
 obtain⟨S,t,u,R,_,hx,hy,hg,k⟩:=hP;cases hy<;>try exact hg.elim
 unfold vy at hg;cases e:R7 t with
 |none=>rw[e]at hg;exact hg.elim
 |some b=>rw[e]at hg;exact⟨rfl,k H _ _ hg (.refl _) (NR.fz (by rw[Nk hx e,Bool.true_xor];exact .bl _))⟩
structure An(H:Hp)(S:Addr->Prop):Prop where
 sole:∀b,S b->V6 H b
 ins:∀a C dx fs,S a->H a=some (.ins C dx fs)->S dx
 own:∀b x,S b->H b=some (.own x)->S x
variable{b f D:Addr}{own:zz}{σ:L2.St}{P:Program}{w:World}{mg:Str->Ψ}{base:Heap}{k n:Nat}{fd:FuncData}{ps:Θ}{sp:Sp}{r:RA}{p ah aT:Pos}{α:Type}{st:Stmt}{u:HO}{ys:Β}{tg:Expr}{qual:Str}
def SR.mate{o:zt}(h:SR K own H σ o){j:Nat}(hb:b∈own j):(∀C d f,H b=some (.ins C d f)->d∈own j)/\∀x,H b=some (.own x)->x∈own j:=by
 have nl:∀{xs:Β},H b=some (.lst xs)->(∀C d f,H b=some (.ins C d f)->d∈own j)/\∀x,H b=some (.own x)->x∈own j:=λq=>⟨(λ_ _ _ e=>by rw[q]at e;cases e),(λ_ e=>by rw[q]at e;cases e)⟩;by_cases hj:j<o.length
 .have s:=h.sl j _ (aj hj);cases y:o[j]with
  |und=>rw[y]at s;rw[show own j=[]from s]at hb;cases hb
  |fz t=>rw[y]at s;rw[s.1]at hb;cases hb
  |l1 ts=>rw[y]at s;obtain⟨c,xs,_,w,q,_⟩:=s;rw[w]at hb;cases YR.mp hb;exact nl q
  |l2 bE =>
   rw[y]at s;obtain⟨c,bs,_,w1,_,q1,l,r⟩:=s;rw[w1]at hb;rcases YU.mp hb with z|z
   .exact nl (z ▸ q1)
   .obtain⟨i,hi⟩:=aU z;obtain⟨xs,q2,_⟩:=r i b _ hi (aj (l ▸ (ao.mp hi).1));exact nl q2
  |d1 ks ts=>rw[y]at s;obtain⟨c,xs,_,w,q,_⟩:=s;rw[w]at hb;cases YR.mp hb;exact⟨(λ_ _ _ e=>by rw[q]at e;cases e),(λ_ e=>by rw[q]at e;cases e)⟩
  |la c ts=>rw[y]at s;obtain⟨xs,_,w,q,_⟩:=s;rw[w]at hb;cases YR.mp hb;exact nl q
  |pr ts us =>
   rw[y]at s;obtain⟨p,c,e,xs,ys,_,w,_,_,q1,q2,_⟩:=s;rw[w]at hb;rcases YU.mp hb with z|z
   .exact nl (z ▸ q1)
   .cases YR.mp z;exact nl q2
  |gh φ t=>rw[y]at s;rw[s.1]at hb;cases hb
  |ob c d C' ks ts =>
   rw[y]at s;obtain⟨xs,_,w,q,q2,_⟩:=s;rw[w]at hb ⊢;rcases YU.mp hb with z|z
   .refine⟨λ_ _ _ e=>?_,λ_ e=>?_⟩
    .rw[z,q]at e;cases e;simp
    .rw[z,q]at e;cases e
   .cases YR.mp z;refine⟨λ_ _ _ e=>?_,λ_ e=>?_⟩
    .rw[q2]at e;cases e
    .rw[q2]at e;cases e;simp
 .obtain⟨xs,q⟩:=h.out j (Nat.not_lt.mp hj) b hb;exact nl q
def SR.hid{o:zt}(h:SR K own H σ o):An H (Ow own) :=
 ⟨λb z=>h.sole z,λa C dx fs ⟨j,z⟩ e=>⟨j,(h.mate z).1 C dx fs e⟩,λb x ⟨j,z⟩ e=>⟨j,(h.mate z).2 x e⟩⟩
def oS(S:Addr->Prop)(H G:Hp):Hp:=λb=>open Classical in if S b then H b else G b
def wU{G:Hp}(h:S b):oS S H G b=H b:=by unfold oS;rw[ZY h]
def mF{G:Hp}(h:¬S b):oS S H G b=G b:=by unfold oS;rw[ZZ h]
def ut(sp:Sp):Sp:=λvs H Q _=>∃S:Addr->Prop,An H S/\sp vs (hd S H) (λv G=>(∀b,S b->G b=none)->Q v (oS S H G)) λ_ _ _=>False
def bV.hid(F:bV P w K mg base cp k f fd ps sp):bV P w K mg base cp k f fd ps (ut sp):=by
 refine⟨λvs H Q E h=>?_,λA outer s H args us vs Q E hr e0 hb r h=>?_⟩
 .obtain⟨S,_,z⟩:=h;exact F.len vs _ _ _ z
 obtain⟨S,hS,z⟩:=h;have non:∀{b:Addr},H b=none->hd S H b=none:=λ{b}e=>by
  by_cases z:S b
  .exact uQ z
  .rw[dI z];exact e
 have dL:∀{b:Addr}{u:HO},S b->H b=some u->(∀xs,u≠.tup xs)/\(∀o v,u≠.frz o v)/\∀ps,u≠.tbl ps:=λ{b u}z e=>by
  obtain⟨o,q,w⟩:=hS.sole b z;rw[e]at q;cases q;rcases w with⟨_,rfl⟩|⟨_,rfl⟩|⟨_,_,_,rfl⟩|⟨_,rfl⟩<;>exact⟨λ_ z=>(nomatch z),λ_ _ z=>(nomatch z),λ_ z=>(nomatch z)⟩
 have e1:DR P w K mg base A outer s (hd S H):=⟨e0.frames,e0.mod,λb o e=>⟨(e0.bs b o e).1,non (e0.bs b o e).2⟩,e0.bsz,e0.funs,λb hb=>non (e0.frf b hb),λb u e=>by
  obtain⟨nb,e'⟩:=cW e;refine(e0.hok b u e').stay (λ_ _ _ z=>z) (λd z=>?_) λd xs z=>?_
  .rw[dI λy=>nb (hS.own d b y z)];exact z
  .rw[dI λy=>(dL y z).1 xs rfl];exact z,e0.bare⟩
 refine codeAny_mono (F.run A outer s (hd S H) args us vs _ _ hr e1 hb r z) λres s' hs=>?_;cases res with
 |error e=>exact hs.elim
 |ok fl =>
  cases fl with
  |next=>exact False.elim hs
  |brk=>exact False.elim hs
  |cont=>exact False.elim hs
  |ret u =>
   obtain⟨v,G,os,bare,un,hok,rv,q⟩:=hs;have there:∀{b:Addr},S b->∃o,s.heap.get? b=some o:=λ{b}y=>by
    obtain⟨u,e,w⟩:=hS.sole b y;have x:=e0.hok b u e;rcases w with⟨xs,rfl⟩|⟨kk,rfl⟩|⟨C,d,f,rfl⟩|⟨y,rfl⟩
    .obtain⟨_,_,_,_,e2⟩:=x;exact⟨_,e2⟩
    .obtain⟨_,_,_,_,_,_,_,e2,_⟩:=x;exact⟨_,e2⟩
    .obtain⟨_,_,_,e2,_⟩:=x;exact⟨_,e2⟩
    .exact x
   have keep:∀{b:Addr}{o:Obj},S b->s.heap.get? b=some o->s'.heap.get? b=some o:=λ{b o}y e=>un.keep b o e (uQ y) (λz=>(hS.sole b y).ne (e0.frf b z)) xF;have a8:∀b,S b->G b=none:=λb y=>by
    obtain⟨o,ho⟩:=there y;exact un.free b o ho (uQ y) xF
   have no':∀{b:Addr}{u:HO},G b=some u->¬S b:=λe z=>by rw[a8 _ z]at e;cases e
   have fA:∀{b:Addr}{u:HO},G b=some u->oS S H G b=some u:=λe=>(mF (no' e)).trans e;refine⟨v,oS S H G,os,bare,⟨λb o e n=>un.keep b o e (non n),λb o e n=>un.slot b o e (non n),λb o e n z=>?_,un.there,λb xs e=>?_,λb o u e=>?_,λb ps e=>?_⟩,λb u e=>?_,rv,q a8⟩
   .rw[mF λy=>(hS.sole b y).ne n];exact un.free b o e (non n) z
   .have n:¬S b:=λy=>(dL y e).1 xs rfl;exact fA (un.tups b xs ((dI n).trans e))
   .have n:¬S b:=λy=>(dL y e).2.1 o u rfl;exact fA (un.frzs b o u ((dI n).trans e))
   .have n:¬S b:=λy=>(dL y e).2.2 ps rfl;obtain⟨more,this⟩:=un.tbls b ps ((dI n).trans e);exact⟨more,fA this⟩
   .by_cases z:S b
    .rw[wU z]at e;have x:=e0.hok b u e;obtain⟨u',e',w⟩:=hS.sole b z;rw[e]at e';cases e';rcases w with⟨xs,rfl⟩|⟨kk,rfl⟩|⟨C,d,f,rfl⟩|⟨y,rfl⟩
     .obtain⟨z1,its,n,r,e2⟩:=x;exact⟨z1,its,n,r,keep z e2⟩
     .obtain⟨z1,y,vs,r,ob,es,ep,e2,c⟩:=x;exact⟨z1,y,vs,r,ob,es,ep,keep z e2,c⟩
     .obtain⟨d1,z1,ne,e2,mA,⟨od,es,ep,e3,c⟩,r⟩:=x;have sd:=hS.ins b C d f z e;exact⟨(wU sd).trans d1,z1,ne,keep z e2,mA,⟨od,es,ep,keep sd e3,c⟩,r⟩
     .obtain⟨ob,e2⟩:=x;exact⟨ob,keep z e2⟩
    .rw[mF z]at e;exact(hok b u e).stay (λ_ _ _ z=>z) (λd z=>fA z) λd xs z=>fA z
abbrev ST:=zg->(OT->Prop)->Prop
def mP(K:Frag)(S:ST):Sp:=λvs H Q _=>∃ts R,bM K H vs ts/\S ts R/\∀H' v x,R x->z0 H H'->NR K (λ_=>False) H H' v x->Q v H'
abbrev c_(P:Program)(w:World)(K:Frag)(mg:Str->Ψ)(base:Heap)(k:Nat)(x:Str)(ps:Θ)(S:ST):Prop:=p9 P w K mg base k x ps (mP K S)
def iu:RA:=λ_ q=>q []
def bN(a:RE)(r:RA):RA:=λo q=>a o λx=>r o λts=>q (frz x::ts)
def bA:QA X [] iu:=pQ.imp λσ H Q hP=>by obtain⟨own,o,R,h,hr,k⟩:=hP;exact k H [] [] hr rfl (.refl _) .nil
def tQA.mk{o:zt}{R:zg->Prop}{Q:Β->Hp->Prop}(h:SR K own H σ o)(hr:r o R)(k:∀H' vs ts,R ts->ts.length=n->z0 H H'->bM K (hd (Ow own) H') vs ts->Q vs H'):tQA K n r σ H Q:=⟨own,o,R,h,hr,k⟩
def bw{e:Expr}{a:RE}(ha:QE X e a)(hr:QA X es r)(hs:qo X e es:=by rfl):QA X (e::es) (bN a r):=(eX ha hr hs).imp λσ H Q ⟨own,o,R,h,hr,k⟩ =>
 tQ.mk h hr λH1 v x q E1 r1=>tQA.mk (h.same E1) q λH2 vs ts q2 ln E2 r2=>k H2 (v::vs) (frz x::ts) q2 (ZH (· + 1) ln) (E1.trans E2) (.cons (r1.same (bW E2)) r2)
def gF(S:ST)(r:RA):RE:=λo q=>r o λts=>S ts q
def bH{e:Expr}{x:Str}{S:ST}(G:c_ X.prog X.w X.K X.mg X.base k x ps S)(ha:QA X (e::es) r)(hr:dU k X.A:=by exact dU.mono (by assumption) xa)(hg:Gl X x:=by rfl)(ci:qk x:=by decide)
 (he:qo X e es:=by rfl)(be:qh X pos es:=by rfl):QE X (.Call (.Name x p) (e::es) [] pos) (gF S r):=by
 obtain⟨f,fd,F,b,hm,kp⟩:=G;refine(uP (sp:=ut (mP X.K S)) ⟨f,fd,F.hid,b,hm,kp⟩ hr hg ha ci he be).imp λσ H Q ⟨own,o,R,h,hr,k⟩=>tQA.mk h hr λH1 vs ts q _ E1 r1=>?_;have h1:=h.same E1;refine⟨Ow own,h1.hid,ts,R,r1,q,λG v x rx E n a8=>?_⟩;have EH:z0 H1 (oS (Ow own) H1 G):=λb u e=>by
  by_cases z:Ow own b
  .rw[wU z];exact e
  .rw[mF z];exact E b u ((dI z).trans e)
 have EG:z0 G (oS (Ow own) H1 G):=λb u e=>by rw[mF λz=>by rw[a8 b z]at e;cases e];exact e
 refine k _ v x rx (E1.trans EH) (NR.back (H:=H1) ?_ E1);obtain⟨B,nb,s⟩:=n;have out:∀a∈B,¬Ow own a:=λa ha z=>(s.sole ha).ne (a8 a z);refine⟨B,λa ha=>by have:=nb a ha;rwa[dI (out a ha)]at this,s.same (jK (λb z=>?_) EG) EG⟩;rcases z with z|z
 .exact .inr (a8 b z)
 .exact .inl (.inr z)
def rB(a:RE):RT:=λo q=>a o λx=>match frz x with|.bl b=>q b|_=>False
def IH:T->(Bool->Prop)->Prop
 |.bl b,q=>q b
 |.int i,q=>q (i != 0)
 |.non,q=>q false
 |.lst ts,q=>q (!ts.isEmpty)
 |.tup ts,q=>q (!ts.isEmpty)
 |_,_=>False
def Di(a:RE):RT:=λo q=>a o λx=>IH (frz x) q
def x_(a b:RT):RT:=λo q=>a o λc=>sw c (b o q) (q false)
def t6(a b:RT):RT:=λo q=>a o λc=>sw c (q true) (b o q)
def Fl(a:RT):RT:=λo q=>a o λc=>q (!c)
def OM(a b:RE):RE:=λo q=>a o λx=>match frz x with|.bl c=>sw c (b o q) (q (.fz (.bl false)))|_=>False
def OK(a:RE):RE:=λo q=>a o λx=>match frz x with|.bl c=>q (.fz (.bl (!c)))|_=>False
def Ki(c:RT)(a b:RE):RE:=λo q=>c o λk=>sw k (a o q) (b o q)
def tQT.mk{o:zt}{r:RT}{R:Bool->Prop}{Q:Bool->Hp->Prop}(h:SR K own H σ o)(hr:r o R)(k:∀H' b,R b->z0 H H'->Q b H'):tQT K r σ H Q:=⟨own,o,R,h,hr,k⟩
def Rep.isEmpty{K:Frag}{F:Hp}{xs:Β}{ts:zg}(h:bM K F xs ts):xs.isEmpty=ts.isEmpty:=by cases h<;>rfl
def Fb{c:Bool}{p q p' q':Prop}(h:sw c p q)(i:p->p')(j:q->q'):if c=true then p' else q':=by
 cases c
 .exact Nl (j h)
 .exact NA (i h)
section
variable{X:Cx}{a b c:Expr}{ra rb rc:RE}{qa qb qc:RT}{pos:Pos}{rest:zh}
def cM(ho:GO X (compareOp op) g)(ha:QE X a ra)(hb:QE X b rb)(hm:behindInMarks op b=false:=by exact Vi _):QT X (.Compare a [op] [b] pos) (rB (nL g ra rb)) :=
 (Zt ho ha hb hm).imp λσ H Q ⟨own,o,R,h,hr,k⟩=>q2 (ra:=ra) (rb:=rb) (tQ.mk h hr λH1 v x q E1 r1=>by
  revert r1 q
  generalize frz x=t;intro q r1;cases r1<;>try exact q.elim
  exact⟨_,rfl,k _ _ q E1⟩)
def cR(ha:QE X a ra)(he:∀cK,isTrue a X.env cK=(do let v <- cK;standAt a.pos;holding [v] (truthy v)):=by exact λ_=>rfl):QT X a (Di ra):=(V3 ha he).imp λσ H Q ⟨own,o,R,h,hr,k⟩=>tQ.mk h hr λH1 v x q E1 r1=>by
 revert r1 q
 generalize frz x=t;intro q r1;cases t<;>try exact q.elim
 .cases r1;exact⟨false,rfl,k _ _ q E1⟩
 .cases r1;exact⟨_,rfl,k _ _ q E1⟩
 .cases r1;exact⟨_,rfl,k _ _ q E1⟩
 .obtain⟨p,xs,rfl,e,r⟩:=r1.tupI;exact⟨_,.inr (.inl ⟨xs,cF.tup e,rfl⟩),by rw[Rep.isEmpty r];exact k _ _ q E1⟩
 .obtain⟨p,xs,rfl,e,r⟩:=r1.lstI;exact⟨_,.inl ⟨xs,.of (cW e).2,rfl⟩,by rw[Rep.isEmpty r];exact k _ _ q E1⟩
def dD(ha:QT X a qa):QT X (.UnaryOp .Not a pos) (Fl qa):=(YO ha).imp λσ H Q hP=>by obtain⟨own,o,R,h,hr,k⟩:=hP;exact tQT.mk h hr λH1 b q E1=>k H1 _ q E1
def Rh(ha:QT X a qa):QW X (.BoolOp .And [a] pos) qa:=pw_and1 ha
def gn(ha:QT X a qa):QW X (.BoolOp .Or [a] pos) qa:=pw_or1 ha
def Wv(ha:QT X a qa)(hb:QW X (.BoolOp .And (b::rest) pos) qb):QW X (.BoolOp .And (a::b::rest) pos) (x_ qa qb):=(pw_and ha hb).imp λσ H Q hP=>by obtain⟨own,o,R,h,hr,k⟩:=hP;exact tQT.mk h hr λH1 c q E1=>Fb q (λq=>tQT.mk (h.same E1) q λH2 d q E2=>k H2 d q (E1.trans E2)) λq=>k H1 _ q E1
def ji(ha:QT X a qa)(hb:QW X (.BoolOp .Or (b::rest) pos) qb):QW X (.BoolOp .Or (a::b::rest) pos) (t6 qa qb):=(pw_or ha hb).imp λσ H Q hP=>by obtain⟨own,o,R,h,hr,k⟩:=hP;exact tQT.mk h hr λH1 c q E1=>Fb q (λq=>k H1 _ q E1) λq=>tQT.mk (h.same E1) q λH2 d q E2=>k H2 d q (E1.trans E2)
def QW.qt(h:QW X a qa):QT X a qa:=PW.pt h
def JQ{op}(h:QE X a ra):QE X (.BoolOp op [a] pos) ra:=VM h
def JL(ha:QE X a ra)(hb:QE X (.BoolOp .And (b::rest) pos) rb):QE X (.BoolOp .And (a::b::rest) pos) (OM ra rb):=(P6 ha hb).imp λσ H Q ⟨own,o,R,h,hr,k⟩=>tQ.mk h hr λH1 v x q E1 r1=>by
 revert r1 q
 generalize frz x=t;intro q r1;cases r1<;>try exact q.elim
 exact⟨_,rfl,Fb q (λq=>⟨own,o,R,h.same E1,q,λH2 v x q E2 n=>k H2 v x q (E1.trans E2) (n.back E1)⟩) λq=>k H1 _ _ q E1 (NR.fz (.bl _))⟩
def Iw(ha:QE X a ra):QE X (.UnaryOp .Not a pos) (OK ra):=(Sl ha).imp λσ H Q ⟨own,o,R,h,hr,k⟩=>tQ.mk h hr λH1 v x q E1 r1=>by
 revert r1 q
 generalize frz x=t;intro q r1;cases r1<;>try exact q.elim
 exact⟨_,rfl,k H1 _ _ q E1 (NR.fz (.bl _))⟩
def Ih{c:Expr}(hc:QT X c qc)(ha:QE X a ra)(hb:QE X b rb):QE X (.IfExp c a b pos) (Ki qc ra rb):=(Vd hc ha hb).imp λσ H Q ⟨own,o,R,h,hr,k⟩=>tQT.mk h hr λH1 c q E1 =>
 Fb q (λq=>⟨own,o,R,h.same E1,q,λH2 v x q E2 n=>k H2 v x q (E1.trans E2) (n.back E1)⟩) λq=>⟨own,o,R,h.same E1,q,λH2 v x q E2 n=>k H2 v x q (E1.trans E2) (n.back E1)⟩
def wr(g g':qA)(a b c:RE):RE:=λo q=>a o λx=>b o λy=>g (frz x) (frz y) λz=>match frz z with|.bl k=>sw k (c o λw=>g' (frz y) (frz w) q) (q (.fz (.bl false)))|_=>False
def q3{df:CmpOp}{g':qA}(ho:GO X (compareOp op) g)(cw:GO X (compareOp df) g')(h:tQ X.K (wr g g' ra rb rc) σ H Q):O2 (λx y H Q=>∃S t u R,(∀b,S b->H b≠none)/\Rep X.K (hd S H) x t/\Rep X.K (hd S H) y u/\g t u R/\∀H' v z,R z->z0 H H'->NR X.K S H H' v z->Q v H') (λx y H Q=>∃S t u R,(∀b,S b->H b≠none)/\Rep X.K (hd S H) x t/\Rep X.K (hd S H) y u/\g' t u R/\∀H' v z,R z->z0 H H'->NR X.K S H H' v z->Q v H') (tQ X.K ra) (tQ X.K rb) (tQ X.K rc) σ H Q:=by
 obtain⟨own,o,R,h,hr,k⟩:=h;refine tQ.mk h hr λH1 v x q E1 r1=>tQ.mk (h.same E1) q λH2 w y q2 E2 r2=>?_;have h2:=h.same (E1.trans E2);refine⟨Ow own,_,_,_,λb z=>(h2.sole z).ne,r1.same (bW E2),r2,q2,λH3 u z rz E3 n=>?_⟩;have kx:=n.rep λb z=>(h2.sole z).ne
 revert kx rz
 generalize frz z=t;intro rz kx;cases kx<;>try exact rz.elim
 have h3:=h2.same E3;refine⟨_,rfl,Fb rz (λq=>tQ.mk h3 q λH4 w' z q4 E4 r4=>⟨Ow own,_,_,R,λb z=>((h3.same E4).sole z).ne,r2.same (bW (E3.trans E4)),r4,q4,λH' u z rz E5 n=>k H' u z rz (E1.trans (E2.trans (E3.trans (E4.trans E5)))) (n.back (E1.trans (E2.trans (E3.trans E4))))⟩) λq=>k H3 _ _ q (E1.trans (E2.trans E3)) (NR.fz (.bl _))⟩
def NZ{df:CmpOp}{g':qA}(ho:GO X (compareOp op) g)(cw:GO X (compareOp df) g')(ha:QE X a ra)(hb:QE X b rb)(hc:QE X c rc)(hm:lastMarks [op,df] [b,c]=false:=by with_unfolding_all rfl):QE X (.Compare a [op,df] [b,c] pos) (wr g g' ra rb rc):=(Vu ho cw ha hb hc hm).imp λ_ _ _=>q3 ho cw
def Fi{df:CmpOp}{g':qA}(ho:GO X (compareOp op) g)(cw:GO X (compareOp df) g')(ha:QE X a ra)(hb:QE X b rb)(hc:QE X c rc)(hm:lastMarks [op,df] [b,c]=false:=by with_unfolding_all rfl):QT X (.Compare a [op,df] [b,c] pos) (rB (wr g g' ra rb rc)) :=
 (Ww ho cw ha hb hc hm).imp λσ H Q ⟨own,o,R,h,hr,k⟩=>q3 (ra:=ra) (rb:=rb) (rc:=rc) ho cw (tQ.mk h hr λH1 v x q E1 r1=>by
  revert r1 q
  generalize frz x=t;intro q r1;cases r1<;>try exact q.elim
  exact⟨_,rfl,k _ _ q E1⟩)
end
def o1{α:Type} : List α->Nat->Option α
 |[],_=>none
 |x::_,0=>some x
 |_::l,n+1=>o1 l n
theorem qm{α:Type} : ∀(l:List α)(n:Nat),o1 l n=l[n]?
 |[],_=>rfl
 |_::_,0=>rfl
 |_::l,n+1=>by simpa[o1]using qm l n
def n5(ts:List α):Int->Option α
 |.ofNat n=>o1 ts n
 |.negSucc n=>o1 ts.reverse n
def W3(ts:List α)(i:Int):n5 ts i=pe ts i:=by
 unfold n5 pe pE;cases i with
 |ofNat n =>
  show o1 ts n=_;rw[qm,ZY (show 0<=Int.ofNat n from Wp n)];by_cases h:n<ts.length
  .rw[ZY (by show(n:Int)<_;lia)];rfl
  .rw[ZZ (by show ¬(n:Int)<_;lia),aL (Nat.not_lt.mp h)];rfl
 |negSucc n =>
  show o1 ts.reverse n=_;rw[qm,ZZ xB];by_cases h:n<ts.length
  .rw[ZY xB,List.getElem?_reverse h];show _=ts[_]?;rw[show(Int.negSucc n+(ts.length:Int)).toNat=ts.length-1-n by lia]
  .rw[ZZ xB,aL (by rw[List.length_reverse];exact VW h)];rfl
def bM.ix{F:Hp}{i:Int}(h:bM K F xs ts)(e:n5 ts i=some t):∃x,pe xs i=some x/\Rep K F x t:=by
 rw[W3]at e;unfold pe at e ⊢;rw[h.len];cases j:pE ts.length i with
 |none=>rw[j]at e;cases e
 |some n=>rw[j]at e;exact h.at_ e
def oT(x:Option α)(q:α->Prop):Prop:=match x with|some t=>q t|none=>False
def HZ{x:Option α}{q:α->Prop}(h:oT x q):∃t,x=some t/\q t:=by
 cases x with
 |none=>exact h.elim
 |some t=>exact⟨t,rfl,h⟩
def oQ:qA
 |.tup ts,.int i,q=>oT (n5 ts i) λt=>q (.fz t)
 |.lst ts,.int i,q=>∃t,n5 ts i=some t/\q (.fz t)
 |.scr ts,.int i,q=>∃t,n5 ts i=some t/\q (.fz t)
 |.str s,.int i,q=>s.length<=sizeLine/\∃c,n5 s.cps.toList i=some c/\q (.fz (.str ⟨#[c]⟩))
 |_,_,_=>False
section
variable{X:Cx}{a b c e:Expr}{ra rb rc re:RE}{qa qb qc:RT}{pos p2:Pos}{lo hi:Option Expr}
def KT:IxR X (λx y H Q=>∃S t u R,(∀b,S b->H b≠none)/\Rep X.K (hd S H) x t/\Rep X.K (hd S H) y u/\oQ t u R/\∀H' v z,R z->z0 H H'->NR X.K S H H' v z->Q v H'):=by
 refine(Jq.or (U'.or SL)).imp λx y H Q h=>?_;obtain⟨S,t,u,R,_,hx,hy,hg,k⟩:=h;cases u with
 |int i=>?_
 |_=>cases t<;>exact hg.elim
 cases hy;cases t with
 |any=>exact hg.elim
 |non=>exact hg.elim
 |bl _=>exact hg.elim
 |int _=>exact hg.elim
 |val _=>exact hg.elim
 |dct _ _=>exact hg.elim
 |ins _ _ _=>exact hg.elim
 |exc _ _ _=>exact hg.elim
 |str s=>?_
 |tup ts=>?_
 |lst ts=>?_
 |scr ts=>?_
 .cases hx;obtain⟨z,c,e,q⟩:=hg;rw[W3]at e;exact .inr (.inr ⟨_,_,c,rfl,rfl,z,e,k H _ _ q (.refl _) (NR.fz (.str _))⟩)
 .obtain⟨p,xs,rfl,e,r⟩:=hx.tupI;obtain⟨t,j,q⟩:=HZ hg;obtain⟨v,e',r'⟩:=r.ix j;exact .inr (.inl ⟨p,xs,i,v,rfl,rfl,cF.tup e,e',k H _ _ q (.refl _) (NR.fz r')⟩)
 .obtain⟨p,xs,rfl,e,r⟩:=hx.lstI;obtain⟨t,j,q⟩:=hg;obtain⟨v,e',r'⟩:=r.ix j;exact .inl ⟨p,xs,_,v,rfl,rfl,.of (cW e).2,e',k H _ _ q (.refl _) (NR.fz r')⟩
 .obtain⟨p,xs,rfl,e,r⟩:=hx.scrI;obtain⟨t,j,q⟩:=hg;obtain⟨v,e',r'⟩:=r.ix j;exact .inl ⟨p,xs,_,v,rfl,rfl,cF.seq e,e',k H _ _ q (.refl _) (NR.fz r')⟩
def bI(ha:QE X a ra)(hb:QE X b rb)(hs:Cz b:=by exact λ_ _=>rfl):QE X (.Subscript a b pos) (nL oQ ra rb):=(Ws KT ha hb hs).imp λ_ _ _=>q2
abbrev RO:=zt->(zC->Prop)->Prop
def IN(K:Frag)(r:RO):TO:=λσ H Q=>∃own o R,SR K own H σ o/\r o R/\∀H' b,R b->z0 H H'->Q b H'
def QO(X:Cx)(e:Option Expr)(r:RO):Prop:=PO X e (IN X.K r)
def L6:RO:=λ_ q=>q none
def Pf(a:RE):RO:=λo q=>a o λx=>match frz x with|.int i=>q (some i)|_=>False
def PO.imp{X:Cx}{e:Option Expr}{t t':TO}(h:PO X e t)(i:∀σ H Q,t' σ H Q->t σ H Q):PO X e t':=λaa s σ H Q I q=>h aa s σ H Q I (i σ H Q q)
def yC:QO X none L6:=Y7.imp λσ H Q hP=>by obtain⟨own,o,R,h,hr,k⟩:=hP;exact k H _ hr (.refl _)
def gj(h:QE X e re):QO X (some e) (Pf re):=(Yz h).imp λσ H Q ⟨own,o,R,h,hr,k⟩=>tQ.mk h hr λH1 v x q E1 r1=>by
 revert r1 q
 generalize frz x=t;intro q r1;cases r1<;>try exact q.elim
 exact⟨_,rfl,k _ _ q E1⟩
def fH(xs:List α)(lo hi:zC):List α:=(xs.drop (HT.sIx xs.length 0 lo)).take (HT.sIx xs.length xs.length hi-HT.sIx xs.length 0 lo)
def bM.cut{F:Hp}(h:bM K F xs ts)(lo hi:zC):bM K F (T4 xs lo hi) (fH ts lo hi):=by
 unfold T4 fH;rw[h.len];exact(h.drop _).take _
def KU:T->zC->zC->(OT->Prop)->Prop
 |.lst ts,lo,hi,q=>q (.l1 (fH ts lo hi))
 |.scr ts,lo,hi,q=>q (.l1 (fH ts lo hi))
 |.str s,lo,hi,q=>s.length<=sizeLine/\q (.fz (.str (Ce s lo hi)))
 |_,_,_,_=>False
def JO(a:RE)(lo hi:RO):RE:=λo q=>a o λx=>lo o λl=>hi o λu=>KU (frz x) l u q
def jj{rl rh:RO}(he:QE X e re)(hl:QO X lo rl)(hu:QO X hi rh):QE X (.Subscript e (.Slice lo hi none p2) pos) (JO re rl rh):=(Vl (Z0.or Rl) he hl hu).imp λσ H Q ⟨own,o,R,h,hr,k⟩ =>
 tQ.mk h hr λH1 v x q E1 r1=>⟨own,o,_,h.same E1,q,λH2 l q E2=>⟨own,o,_,(h.same E1).same E2,q,λH3 u q E3=>by
  have E:=E1.trans (E2.trans E3);have r1:=r1.same (bW (E2.trans E3))
  revert r1 q
  generalize frz x=t;intro q r1;cases t<;>try exact q.elim
  .cases r1;exact .inr ⟨_,rfl,q.1,k _ _ _ q.2 E (NR.fz (.str _))⟩
  .obtain⟨p,xs,rfl,e,r⟩:=r1.lstI;exact .inl ⟨p,xs,rfl,.of (cW e).2,λa ha=>k _ _ _ q (E.trans (z0.upd ha)) ((w5 (r.cut l u) (z0.upd ha) ha cj).back E)⟩
  .obtain⟨p,xs,rfl,e,r⟩:=r1.scrI;exact .inl ⟨p,xs,rfl,cF.seq e,λa ha=>k _ _ _ q (E.trans (z0.upd ha)) ((w5 (r.cut l u) (z0.upd ha) ha cj).back E)⟩⟩⟩
end
section
variable{X:Cx}{e:Expr}{es:zh}{r:RA}{pos:Pos}
def Xa(r:RA):RE:=λo q=>r o λts=>q (.fz (.tup ts))
def Yo(r:RA):RE:=λo q=>r o λts=>q (.l1 ts)
def cZ(h:QA X es r)(hz:es.length<=sizeLine:=by decide):QE X (.Tuple es k pos) (Xa r):=(SE h).imp λσ H Q ⟨own,o,R,h,hr,k⟩=>tQA.mk h hr λH1 vs ts q ln E1 r1 =>
 ⟨by rw[r1.len,ln];exact hz,λp hp=>k _ _ _ q (E1.trans (z0.upd hp)) (NR.fz (.tup (.of (by rw[dI λz=>(h.sole z).ne (E1.free hp)];exact cj)) (r1.same (bW (z0.upd hp)))))⟩
def dN(h:QA X es r)(hz:es.length<=sizeLine:=by decide):QE X (.List es pos) (Yo r):=(UD h).imp λσ H Q ⟨own,o,R,h,hr,k⟩=>tQA.mk h hr λH1 vs ts q ln E1 r1 =>
 ⟨by rw[r1.len,ln];exact hz,λp hp=>k _ _ _ q (E1.trans (z0.upd hp)) ((w5 r1 (z0.upd hp) hp cj).back E1)⟩
def GC(X:Cx)(f:Value)(g:ST):Prop:=jf X f λxs H Q=>∃S ts R,(∀b,S b->H b≠none)/\bM X.K (hd S H) xs ts/\g ts R/\∀H' v z,R z->z0 H H'->NR X.K S H H' v z->Q v H'
variable{x:Str}{p:Pos}{id Ty:String}{g:ST}
def bQ(hc:GC X (.builtin id) g)(hm:X.mg x=none)(hv:bootBuiltins x=some (.builtin id))(ha:QA X (e::es) r)(hg:Gl X x:=by rfl)(hn:x≠"__name__":=by decide)(ci:qk x:=by decide)
 (he:qo X e es:=by rfl)(be:qh X pos es:=by rfl):QE X (.Call (.Name x p) (e::es) [] pos) (gF g r) :=
 (Eb hc hg hm hv ha hn ci he be).imp λσ H Q hP=>by obtain⟨own,o,R,h,hr,k⟩:=hP;exact tQA.mk h hr λH1 vs ts q _ E1 r1=>⟨Ow own,ts,R,λb z=>((h.same E1).sole z).ne,r1,q,λH' v z rz E n=>k H' v z rz (E1.trans E) (n.back E1)⟩
def kY(hc:GC X (.type Ty) g)(hm:X.mg x=none)(hv:bootBuiltins x=some (.type Ty))(ha:QA X (e::es) r)(hg:Gl X x:=by rfl)(hn:x≠"__name__":=by decide)(ci:qk x:=by decide)
 (he:qo X e es:=by rfl)(be:qh X pos es:=by rfl):QE X (.Call (.Name x p) (e::es) [] pos) (gF g r) :=
 (S7 hc hg hm hv ha hn ci he be).imp λσ H Q hP=>by obtain⟨own,o,R,h,hr,k⟩:=hP;exact tQA.mk h hr λH1 vs ts q _ E1 r1=>⟨Ow own,ts,R,λb z=>((h.same E1).sole z).ne,r1,q,λH' v z rz E n=>k H' v z rz (E1.trans E) (n.back E1)⟩
def bM.one{F:Hp}(h:bM K F xs [t]):∃x,xs=[x]/\Rep K F x t:=by
 cases h with
 |cons a b=>cases b;exact⟨_,rfl,a⟩
def bM.two{F:Hp}{u:T}(h:bM K F xs [t,u]):∃x y,xs=[x,y]/\Rep K F x t/\Rep K F y u:=by
 cases h with
 |cons a b =>
  obtain⟨y,rfl,c⟩:=b.one;exact⟨_,y,rfl,a,c⟩
def g1(g:T->(OT->Prop)->Prop):ST:=λts q=>match ts with|[t]=>g t q|_=>False
def GC.one{f:Value}{g:T->(OT->Prop)->Prop}{r:Β->Hp->VK->Prop}(h:jf X f r)(i:∀S t x H Q R,Rep X.K (hd S H) x t->g t R->(∀H' v z,R z->z0 H H'->NR X.K S H H' v z->Q v H')->r [x] H Q):GC X f (g1 g):=h.imp λxs H Q hP=>by
 obtain⟨S,ts,R,_,rs,hg,k⟩:=hP
 match ts,hg with
 |[t],hg =>
  obtain⟨x,rfl,rx⟩:=rs.one;exact i S t x H Q R rx hg k
def Qs:T->(OT->Prop)->Prop
 |.lst ts,q=>q (.fz (.int ts.length))
 |.tup ts,q=>q (.fz (.int ts.length))
 |.scr ts,q=>q (.fz (.int ts.length))
 |_,_=>False
def eG:GC X (.builtin "len") (g1 Qs):=.one yx λS t x H Q R rx hg k=>by
 cases t<;>try exact hg.elim
 .obtain⟨p,xs,rfl,e,r⟩:=rx.tupI;exact⟨p,xs,rfl,.inr (cF.tup e),k H _ _ hg (.refl _) (NR.fz (by rw[r.len];exact .int _))⟩
 .obtain⟨p,xs,rfl,e,r⟩:=rx.lstI;exact⟨p,xs,rfl,.inl (.of (cW e).2),k H _ _ hg (.refl _) (NR.fz (by rw[r.len];exact .int _))⟩
 .obtain⟨p,xs,rfl,e,r⟩:=rx.scrI;exact⟨p,xs,rfl,.inl (cF.seq e),k H _ _ hg (.refl _) (NR.fz (by rw[r.len];exact .int _))⟩
def L4:T->(OT->Prop)->Prop
 |.str s,q=>s.length<=sizeLine/\q (.fz (.int s.length))
 |_,_=>False
def MA:T->(OT->Prop)->Prop
 |.dct ks _,q=>q (.fz (.int ks.length))
 |_,_=>False
def Ur:jf X (.builtin "len") (λxs H Q=>∃p kvs,xs=[.ref p]/\Rd H p (.dK kvs)/\Q (.int kvs.length) H):=by
 intro aa s σ H xs us Q I r h;obtain⟨p,kvs,rfl,hp,q⟩:=h;obtain⟨u,rfl,rx⟩:=vals1 r;cases rx;have hok:kvs.length<=sizeLine/\(p==sysModules)=false/\∃vs,KV kvs vs/\s.heap.DictOf (jz X.prog X.w) p vs:=by
  rcases hp with hp|⟨o,hp⟩
  .exact I.hok p _ hp
  .exact(I.hok p _ hp).2
 obtain⟨hz,hS,vs,rr,m⟩:=hok;have hl:=uo;have aI:kvs.length=vs.length:=rr.length;exact call_len_dict hS m xB ⟨.int kvs.length,H,I.tok _,⟨_,by rw[aI]⟩,q⟩
def Rf:GC X (.builtin "len") (g1 MA):=.one Ur λS t x H Q R rx hg k=>by
 cases t<;>try exact hg.elim
 obtain⟨p,xs,rfl,e,l,r⟩:=rx.dctI;exact⟨p,_,rfl,cF.rd e,k H _ _ hg (.refl _) (NR.fz (by rw[VY,l,UK];exact .int _))⟩
def MU:T->(OT->Prop)->Prop
 |.int i,q=>q (.fz (.int i.natAbs))
 |_,_=>False
def Dq:GC X (.builtin "abs") (g1 MU):=.one Wi λS t x H Q R rx hg k=>by
 cases t<;>try exact hg.elim
 cases rx;exact⟨_,rfl,k H _ _ hg (.refl _) (NR.fz (by rw[YN];exact .int _))⟩
theorem bM.ints{K:Frag}{F:Hp} : ∀{xs:Β}{ns:zS},bM K F xs (ns.map T.int)->xs=ns.map V.int
 |_,[],.nil=>rfl
 |_,n::ns,.cons a b=>by cases a;rw[bM.ints b];rfl
theorem bM.bls{K:Frag}{F:Hp} : ∀{xs:Β}{ns:xf},bM K F xs (ns.map T.bl)->xs=ns.map V.bl
 |_,[],.nil=>rfl
 |_,n::ns,.cons a b=>by cases a;rw[bM.bls b];rfl
theorem z_{K:Frag}{F:Hp} : ∀(ns:zS),bM K F (ns.map V.int) (ns.map T.int)
 |[]=>.nil
 |_::ns=>.cons (.int _) (z_ ns)
def NL:T->(OT->Prop)->Prop
 |.lst ts,q=>∃ns:zS,ts=ns.map T.int/\q (.fz (.int ns.sum))
 |_,_=>False
def Qg(hc:X.calm):GC X (.builtin "sum") (g1 NL):=.one (Ub hc) λS t x H Q R rx hg k=>by
 cases t<;>try exact hg.elim
 obtain⟨p,xs,rfl,e,r⟩:=rx.lstI;obtain⟨ns,rfl,q⟩:=hg;exact⟨p,ns,rfl,(r.ints ▸ (cW e).2),k H _ _ q (.refl _) (NR.fz (.int _))⟩
def CI(f:xf->Bool):T->(OT->Prop)->Prop
 |.lst ts,q=>∃bs:xf,ts=bs.map T.bl/\q (.fz (.bl (f bs)))
 |_,_=>False
def O5(hc:X.calm):GC X (.builtin "all") (g1 (CI λbs=>bs.all λb=>b)):=.one (Uo hc) λS t x H Q R rx hg k=>by
 cases t<;>try exact hg.elim
 obtain⟨p,xs,rfl,e,r⟩:=rx.lstI;obtain⟨ns,rfl,q⟩:=hg;exact⟨p,ns,rfl,(r.bls ▸ (cW e).2),k H _ _ q (.refl _) (NR.fz (.bl _))⟩
def ZE(hc:X.calm):GC X (.builtin "any") (g1 (CI λbs=>bs.any λb=>b)):=.one (Tv hc) λS t x H Q R rx hg k=>by
 cases t<;>try exact hg.elim
 obtain⟨p,xs,rfl,e,r⟩:=rx.lstI;obtain⟨ns,rfl,q⟩:=hg;exact⟨p,ns,rfl,(r.bls ▸ (cW e).2),k H _ _ q (.refl _) (NR.fz (.bl _))⟩
def LM:T->(OT->Prop)->Prop
 |.lst ts,q=>∃ns:zS,ts=ns.map T.int/\ns.length<64/\∀ms:zS,ms.Perm ns->ms.Pairwise (· <= ·)->q (.l1 (ms.map T.int))
 |_,_=>False
def T7:GC X (.builtin "sorted") (g1 LM):=.one TQ λS t x H Q R rx hg k=>by
 cases t<;>try exact hg.elim
 obtain⟨p,xs,rfl,e,r⟩:=rx.lstI;obtain⟨ns,rfl,l,q⟩:=hg;exact⟨p,ns,rfl,(r.ints ▸ (cW e).2),l,λms a ha m1 m2=>k _ _ _ (q ms m1 m2) (z0.upd ha) (w5 (z_ ms) (z0.upd ha) ha cj)⟩
def Of:T->(OT->Prop)->Prop
 |.lst ts,q=>q (.l1 ts)
 |_,_=>False
def QD:GC X (.type "list") (g1 Of):=.one P_ λS t x H Q R rx hg k=>by
 cases t<;>try exact hg.elim
 obtain⟨p,xs,rfl,e,r⟩:=rx.lstI;exact⟨p,xs,rfl,(cW e).2,λa ha=>k _ _ _ hg (z0.upd ha) (w5 r (z0.upd ha) ha cj)⟩
def A3:T->(OT->Prop)->Prop
 |.int i,q=>q (.fz (.int i))
 |.bl b,q=>q (.fz (.int (if b then 1 else 0)))
 |_,_=>False
def zW:GC X (.type "int") (g1 A3):=.one Td λS t x H Q R rx hg k=>by
 cases t<;>try exact hg.elim
 .cases rx;exact .inr ⟨_,rfl,k H _ _ hg (.refl _) (NR.fz (.int _))⟩
 .cases rx;exact .inl ⟨_,rfl,k H _ _ hg (.refl _) (NR.fz (.int _))⟩
inductive Knd where
 |int|bool|str|list|tuple
def Knd.s:Knd->String
 |.int=>"int"
 |.bool=>"bool"
 |.str=>"str"
 |.list=>"list"
 |.tuple=>"tuple"
def AZ:Knd->T->Option Bool
 |.int,.int _=>some true
 |.int,.bl _=>some true
 |.bool,.bl _=>some true
 |.str,.str _=>some true
 |.list,.lst _=>some true
 |.tuple,.tup _=>some true
 |_,.any=>none
 |_,.val _=>none
 |_,.scr _=>none
 |_,.ins _ _ _=>none
 |_,.exc _ _ _=>none
 |_,.dct _ _=>none
 |_,_=>some false
def Tb(kd:Knd):GC X (.builtin "isinstance") (λts q=>match ts with|[t,.val v]=>v=.ty kd.s/\oT (AZ kd t) λb=>q (.fz (.bl b))|_=>False):=by
 intro aa s σ H xs us Q I rs h;obtain⟨S,ts,R,_,rp,hg,k⟩:=h
 match ts,hg with
 |[t,.val v],hg =>
  obtain⟨x,y,rfl,rx,ry⟩:=rp.two;cases ry;obtain⟨rfl,hg⟩:=hg;obtain⟨b,j,q⟩:=HZ hg;have hk:kd.s∈["bool","int","str","list","tuple","dict"]:=by cases kd<;>decide
  cases t with
  |tup ts =>
   obtain⟨p,ys,rfl,e,r⟩:=rx.tupI;have eb:b=Jo "tuple" kd.s:=by cases kd<;>cases j<;>decide
   exact M5 aa s σ H _ us Q I rs ⟨p,kd.s,ys,rfl,hk,cF.tup e,k H _ _ q (.refl _) (NR.fz (eb ▸ .bl _))⟩
  |lst ts =>
   obtain⟨p,ys,rfl,e,r⟩:=rx.lstI;have eb:b=Jo "list" kd.s:=by cases kd<;>cases j<;>decide
   exact uK aa s σ H _ us Q I rs ⟨_,kd.s,"list",rfl,hk,by show(match H p with|some (.lst _)=>some "list" |some (.tup _)=>some "tuple" |some (.dK _)=>some "dict" |_=>none)=_;rw[(cW e).2],k H _ _ q (.refl _) (NR.fz (eb ▸ .bl _))⟩
  |non =>
   cases rx;have eb:b=Jo "NoneType" kd.s:=by cases kd<;>cases j<;>decide
   exact uK aa s σ H _ us Q I rs ⟨_,kd.s,"NoneType",rfl,hk,rfl,k H _ _ q (.refl _) (NR.fz (eb ▸ .bl _))⟩
  |bl c =>
   cases rx;have eb:b=Jo "bool" kd.s:=by cases kd<;>cases j<;>decide
   exact uK aa s σ H _ us Q I rs ⟨_,kd.s,"bool",rfl,hk,rfl,k H _ _ q (.refl _) (NR.fz (eb ▸ .bl _))⟩
  |int i =>
   cases rx;have eb:b=Jo "int" kd.s:=by cases kd<;>cases j<;>decide
   exact uK aa s σ H _ us Q I rs ⟨_,kd.s,"int",rfl,hk,rfl,k H _ _ q (.refl _) (NR.fz (eb ▸ .bl _))⟩
  |str c =>
   cases rx;have eb:b=Jo "str" kd.s:=by cases kd<;>cases j<;>decide
   exact uK aa s σ H _ us Q I rs ⟨_,kd.s,"str",rfl,hk,rfl,k H _ _ q (.refl _) (NR.fz (eb ▸ .bl _))⟩
  |_=>cases kd<;>cases j
def LL(kd:Knd)(a:RE):RE:=λo q=>a o λx=>oT (AZ kd (frz x)) λb=>q (.fz (.bl b))
def pO(kd:Knd){y:Str}{p2:Pos}(ha:QE X a ra)(hm:X.mg "isinstance"=none)(hm2:X.mg y=none)(hv2:bootBuiltins y=some (.type kd.s))(lP:Gl X y:=by rfl)(hg:Gl X "isinstance":=by rfl)(hZ:y≠"__name__":=by decide)(hd2:qk y:=by decide)
 (he:starEach (a::[.Name y p2]) X.env=(false,eval a X.env)::starEach [.Name y p2] X.env:=by rfl):QE X (.Call (.Name "isinstance" p) [a,.Name y p2] [] pos) (LL kd ra) :=
 (Eb (Tb kd) hg hm boot_isinstance (eX ha (eX (Yw (v:=.ty kd.s) lP hm2 hv2 rfl hZ hd2) pQ) he) xa xa he).imp λσ H Q ⟨own,o,R,h,hr,k⟩=>tQ.mk h hr λH1 v x q E1 r1 =>
  ⟨Ow own,[frz x,.val (.ty kd.s)],R,λb z=>((h.same E1).sole z).ne,.cons r1 (.cons (.val _) .nil),⟨rfl,q⟩,λH' v z rz E n=>k H' v z rz (E1.trans E) (n.back E1)⟩
end
structure DT where
 nx:zt->Prop
 rt:OT->Prop
 bk:zt->Prop:=λ_=>False
 ct:zt->Prop:=λ_=>False
 xc:Addr->Θ->zg->Prop:=λ_ _ _=>False
abbrev RS:=DT->zt->Prop
def zx(X:Cx):XK:=λC d H'=>(∀aa σ H s a s' B,Inv X aa σ H s->_b X.prog X.w X.stack H s a C H' s' B d->X.xe (.ref a) s') /\
 ∀aa σ H s a c,C=.ref c->Inv X aa σ H s->H a=some (XN a c d)->X.s₀.zs<=a->out H a=H'->X.xe (.ref a) s
structure Lnk(K:Frag)(Z:XK)(F:Hp)(E:DT)(D:Ends):Prop where
 nx:∀own H σ o,E.nx o->z0 F (hd (Ow own) H)->SR K own H σ o->D.nx σ H
 rt:∀S H v x B,E.rt x->z0 F (hd S H)->Slo K (hd S H) H (some v) B x->(∀a∈B,S a)->D.rt v H
 bk:∀own H σ o,E.bk o->z0 F (hd (Ow own) H)->SR K own H σ o->D.bk σ H
 ct:∀own H σ o,E.ct o->z0 F (hd (Ow own) H)->SR K own H σ o->D.ct σ H
 xc:∀H C d ks vs ts,E.xc C ks ts->z0 F H->H d=some (.xd (ks.zip vs))->bM K H vs ts->Z (.ref C) (some d) H
def Lnk.step{Z:XK}{F F':Hp}{E:DT}{D:Ends}(h:Lnk K Z F E D)(S:z0 F F'):Lnk K Z F' E D :=
 ⟨λown H σ o e s=>h.nx own H σ o e (S.trans s),λT H v x B e s=>h.rt T H v x B e (S.trans s),λown H σ o e s=>h.bk own H σ o e (S.trans s),λown H σ o e s=>h.ct own H σ o e (S.trans s),λH C d ks vs ts e s=>h.xc H C d ks vs ts e (S.trans s)⟩
def rj(X:Cx)(r:RS):TS:=λD σ H=>∃own o E,SR X.K own H σ o/\r E o/\Lnk X.K (zx X) (hd (Ow own) H) E D
def QS(X:Cx)(st:Stmt)(r:RS):Prop:=PS X st (rj X r)
def sj(X:Cx)(st:xb)(r:RS):Prop:=PSs X st (rj X r)
def PS.imp{t t':TS}(h:PS X st t)(i:∀D σ H,t' D σ H->t D σ H):PS X st t':=λaa s σ H D I q=>h aa s σ H D I (i D σ H q)
def PSs.imp{st:xb}{t t':TS}(h:PSs X st t)(i:∀D σ H,t' D σ H->t D σ H):PSs X st t':=λaa s σ H D I q=>h aa s σ H D I (i D σ H q)
def Hw:RS:=λE o=>E.nx o
def i_(a b:RS):RS:=λE o=>a { E with nx:=b E } o
def E_(i:Nat)(a:RE):RS:=λE o=>a o λx=>E.nx (o.set i (.fz (frz x)))
def Bi(i:Nat)(a:RE):RS:=λE o=>a o λx=>E.nx (o.set i x)
def OE(a:RE):RS:=λE o=>a o λ_=>E.nx o
def Te(a:RE):RS:=λE o=>a o E.rt
def HH(i:Nat):RS:=λE o=>match slot o i with|.und=>False|x=>E.rt x
def Ox(c:RT)(a b:RS):RS:=λE o=>c o λk=>sw k (a E o) (b E o)
def P9:RS:=λ_ _=>False
def Fu(i:Nat)(a:RS):RS:=λE o=>match slot o i with|.und=>False|x=>a E (o.set i (.fz (frz x)))
section
variable{K:Frag}{own:zz}{H H':Hp}{σ:L2.St}{o:zt}
def SR.putA(h:SR K own H σ o)(E:z0 H H'){x:OT}(n:NR K (Ow own) H H' v x)(i:Nat):∃ag,SR K ag H' (σ.set i (some v)) (o.set i x)/\z0 (hd (Ow own) H) (hd (Ow ag) H'):=by
 by_cases hi:i<o.length
 .exact h.put E n hi
 .rw[QU (Nat.not_lt.mp hi),QU (h.len ▸ Nat.not_lt.mp hi)];exact⟨own,h.same E,bW E⟩
def NR.frz{S:Addr->Prop}{v:V}{x:OT}(n:NR K S H H' v x)(hs:∀b,S b->H b≠none):NR K S H H' v (.fz (L2.frz x)):=NR.fz (n.rep hs)
def Slo.val{F:Hp}{v:xp}{A:Φ}{x:OT}(h:Slo K F H v A x)(n:x≠.und):∃u,v=some u:=by
 cases x with
 |und=>exact absurd rfl n
 |fz t=>exact⟨_,h.2.choose_spec.1⟩
 |l1 ts=>obtain⟨a,xs,e,_⟩:=h;exact⟨_,e⟩
 |l2 ts=>obtain⟨a,xs,e,_⟩:=h;exact⟨_,e⟩
 |d1 ks ts=>obtain⟨a,xs,e,_⟩:=h;exact⟨_,e⟩
 |ob a d C ks ts=>obtain⟨xs,e,_⟩:=h;exact⟨_,e⟩
 |la a ts=>obtain⟨xs,e,_⟩:=h;exact⟨_,e⟩
 |pr ts us=>obtain⟨p,a,b,xs,ys,e,_⟩:=h;exact⟨_,e⟩
 |gh φ t=>obtain⟨_,_,u,e,_⟩:=h;exact⟨_,e⟩
def SR.val(h:SR K own H σ o){i:Nat}{x:OT}(e:slot o i=x)(n:x≠.und):∃u,σ[i]?=some (some u)/\Slo K (hd (Ow own) H) H (some u) (own i) x:=by
 have s:=h.sl i x (jc e n);obtain⟨u,hu⟩:=s.val n;rw[hu]at s;refine⟨u,?_,s⟩;cases z:σ[i]? with
 |none=>rw[z]at hu;cases hu
 |some w=>rw[z]at hu;exact ZH some hu
end
section
variable{X:Cx}{st:Stmt}{sts:xb}{a b:RS}{e:Expr}{re:RE}{pos:Pos}
def bU:sj X [] Hw:=WB.imp λD σ H hP=>by obtain⟨own,o,E,h,hr,L⟩:=hP;exact L.nx own H σ o hr (.refl _) h
def A2{D:Ends}(h:rj X (i_ a b) D σ H):BK (rj X a) (rj X b) D σ H:=by
 obtain⟨own,o,E,h,hr,L⟩:=h;exact⟨own,o,_,h,hr,λag H' σ' o' q S h'=>⟨ag,o',E,h',q,L.step S⟩,L.rt,L.bk,L.ct,L.xc⟩
def bC(h1:QS X st a)(h2:sj X sts b):sj X (st::sts) (i_ a b):=(cL h1 h2).imp λ_ _ _=>A2
def bG(h:QS X st a):sj X [st] a:=CN h
def bL(i:Nat){x:Str}{bu:Pos}(he:QE X e re)(hN:X.N.Nodup:=by assumption)(hx:tz X.env.scope x:=by first|exact .inl rfl|exact .inr rfl)(hi:X.N[i]?=some x:=by rfl)(hs:swapsWith e (some (.Name x bu)) pos.line X.env=pure false:=by rfl)(hf:qi X x:=by first|exact .inl rfl|exact .inr rfl|assumption) :
  QS X (.Assign [.Name x bu] e pos) (E_ i re):=(DQ hN hi hx he hs hf).imp λD σ H ⟨own,o,E,h,hr,L⟩=>⟨own,o,_,h,hr,λH' v y q S n=>by
 obtain⟨ag,h',S'⟩:=h.putA S (n.frz λb z=>(h.sole z).ne) i;exact L.nx ag H' _ _ q S' h'⟩
def jL(i:Nat){x:Str}{bu:Pos}(he:QE X e re)(hN:X.N.Nodup:=by assumption)(hx:tz X.env.scope x:=by first|exact .inl rfl|exact .inr rfl)(hi:X.N[i]?=some x:=by rfl)(hs:swapsWith e (some (.Name x bu)) pos.line X.env=pure false:=by rfl)(hf:qi X x:=by first|exact .inl rfl|exact .inr rfl|assumption) :
  QS X (.Assign [.Name x bu] e pos) (Bi i re):=(DQ hN hi hx he hs hf).imp λD σ H ⟨own,o,E,h,hr,L⟩=>⟨own,o,_,h,hr,λH' v y q S n=>by
 obtain⟨ag,h',S'⟩:=h.putA S n i;exact L.nx ag H' _ _ q S' h'⟩
def je(he:QE X e re)(hs:swapsWith e none pos.line X.env=pure false:=by rfl):QS X (.Expr e pos) (OE re):=(Cu he hs).imp λD σ H hP=>by obtain⟨own,o,E,h,hr,L⟩:=hP;exact⟨own,o,_,h,hr,λH' v y q S n=>L.nx own H' σ o q (bW S) (h.same S)⟩
def bT(he:QE X e re):QS X (.Return (some e) pos) (Te re):=(Iv he).imp λD σ H ⟨own,o,E,h,hr,L⟩=>⟨own,o,_,h,hr,λH' v y q S n=>by
 obtain⟨B,nb,s⟩:=n;exact L.rt _ H' v y B q (jK (λb z=>z.imp id (nb b)) S) s λa ha=>.inr ha⟩
def jy(i:Nat){x:Str}(hN:n_X X i x:=by exact⟨rfl,rfl,xa,xa⟩):QS X (.Return (some (.Name x p)) pos) (HH i):=(Iv (pv i hN)).imp λD σ H hP=>by
 obtain⟨own,o,E,h,hr,L⟩:=hP;have hr:E.rt (slot o i)/\slot o i≠.und:=by
  unfold HH at hr;cases e:slot o i<;>rw[e]at hr<;>first|exact hr.elim|exact⟨hr,λz=>by cases z⟩
 obtain⟨u,e,s⟩:=h.val rfl hr.2;exact⟨u,e,L.rt (Ow own) H u _ _ hr.1 (.refl _) s λa ha=>⟨i,ha⟩⟩
def cT{ss ts:xb}{qc:RT}(hc:QT X c qc)(ha:sj X ss a)(hb:sj X ts b):QS X (.If c ss ts pos) (Ox qc a b):=(OO hc ha hb).imp λD σ H ⟨own,o,E,h,hr,L⟩=>tQT.mk h hr λH1 c q E1 =>
 Fb q (λq=>⟨own,o,E,h.same E1,q,L.step (bW E1)⟩) λq=>⟨own,o,E,h.same E1,q,L.step (bW E1)⟩
def fu:QS X st P9:=Wo.imp λD σ H hP=>by obtain⟨own,o,E,h,hr,L⟩:=hP;exact hr
def W_(i:Nat)(hs:QS X st a):QS X st (Fu i a):=PS.imp hs λD σ H hP=>by
 obtain⟨own,o,E,h,hr,L⟩:=hP;have hr:a E (o.set i (.fz (frz (slot o i))))/\slot o i≠.und:=by
  unfold Fu at hr;cases e:slot o i<;>rw[e]at hr<;>first|exact hr.elim|exact⟨hr,λz=>by cases z⟩
 obtain⟨u,e1,s⟩:=h.val rfl hr.2;obtain⟨ag,h',S⟩:=h.frz (jc rfl hr.2) e1;exact⟨ag,_,E,h',hr.1,L.step S⟩
def zZ(h:S D):hd S (upd H D u)=hd S H:=funext λb=>by
 by_cases z:S b
 .rw[uQ z,uQ z]
 .rw[dI z,dI z,bZ λ(e:b=D)=>z (e.symm ▸ h)]
def K2:OT->Option (List T×(zg->OT))
 |.l1 ts=>some (ts,.l1)
 |.la a ts=>some (ts,.la a)
 |_=>none
def vw(x:OT)(k:zg->(zg->OT)->Prop):Prop:=match K2 x with|some (ts,c)=>k ts c|none=>False
def Qx{x:OT}{k:zg->(zg->OT)->Prop}(h:vw x k):∃ts c,k ts c/\((x=.l1 ts/\c=.l1)\/∃a,x=.la a ts/\c=.la a):=by
 cases x with
 |l1 ts=>exact⟨ts,_,h,.inl ⟨rfl,rfl⟩⟩
 |la a ts=>exact⟨ts,_,h,.inr ⟨a,rfl,rfl⟩⟩
 |_=>exact h.elim
def L5(i:Nat)(a:RE):RS:=λE o=>vw (slot o i) λts c=>a o λy=>ts.length<sizeLine/\E.nx (o.set i (c (ts++[frz y])))
def SR.l1{K:Frag}{own:zz}{H:Hp}{σ:L2.St}{o:zt}(h:SR K own H σ o){i:Nat}{ts:zg}{c:zg->OT}(e:(slot o i=.l1 ts/\c=.l1)\/∃a,slot o i=.la a ts/\c=.la a):∃l xs,σ[i]?=some (some (.ref l))/\own i=[l]/\H l=some (.lst xs)/\bM K (hd (Ow own) H) xs ts/\∀(H':Hp)(ys:Β)us,H' l=some (.lst ys)->bM K (hd (Ow own) H') ys us->Slo K (hd (Ow own) H') H' (some (.ref l)) [l] (c us):=by
 rcases e with⟨e,rfl⟩|⟨a,e,rfl⟩
 .obtain⟨u,e1,l,xs,e2,e3,e4,r⟩:=h.val e (by intro z;cases z);cases e2;exact⟨l,xs,e1,e3,e4,r,λH' ys us a b=>⟨l,ys,rfl,rfl,a,b⟩⟩
 .obtain⟨u,e1,xs,e2,e3,e4,r⟩:=h.val e (by intro z;cases z);cases e2;exact⟨a,xs,e1,e3,e4,r,λH' ys us a b=>⟨ys,rfl,rfl,a,b⟩⟩
def V7{o:zt}{i:Nat}{c:zg->OT}(e:(slot o i=.l1 ts/\c=.l1)\/∃a,slot o i=.la a ts/\c=.la a):∃x,o[i]?=some x:=by
 rcases e with⟨e,_⟩|⟨a,e,_⟩
 .exact⟨_,jc e (by intro z;cases z)⟩
 .exact⟨_,jc e (by intro z;cases z)⟩
def SR.chg1{o:zt}(h:SR K own H σ o){i:Nat}{us:zg}{c:zg->OT}(e:∃x,o[i]?=some x){l:Addr}(eσ:σ[i]?=some (some (.ref l)))(eo:own i=[l])(sl:∀(H':Hp)(ys:Β)us,H' l=some (.lst ys)->bM K (hd (Ow own) H') ys us->Slo K (hd (Ow own) H') H' (some (.ref l)) [l] (c us))(r:bM K (hd (Ow own) H) ys us):SR K own (upd H l (.lst ys)) σ (o.set i (c us))/\z0 (hd (Ow own) H) (hd (Ow own) (upd H l (.lst ys))):=by
 obtain⟨x,e⟩:=e;refine h.chg e (λb u hb e=>(bZ λz=>hb (by rw[eo,z];simp)).trans e) ?_;rw[eσ,eo];exact sl _ ys us cj (by rw[zZ ⟨i,by rw[eo];simp⟩];exact r)
def nG(i:Nat){x:Str}{ai:Pos}(he:QE X e re)(hN:n_X X i x:=by exact⟨rfl,rfl,xa,xa⟩)
 (hb:attributeBase (.Name x p) "append" X.env (eval (.Name x p) X.env)=eval (.Name x p) X.env:=by rfl)
 (hf:qr X ah e:=by rfl)
 (hl:zk ai ah:=by rfl)(ce:qo X e []:=by rfl)(hp:qh X ah []:=by rfl)
 (hs:swapsWith (.Call (.Attribute (.Name x p) "append" ai) [e] [] ah) none pos.line X.env=pure false:=by rfl) :
  QS X (.Expr (.Call (.Attribute (.Name x p) "append" ai) [e] [] ah) pos) (L5 i re):=(Cu (WW (pv i hN) (eX he pQ ce) hb hf hl ce hp) hs).imp λD σ H hP=>by
 obtain⟨own,o,E,h,hr,L⟩:=hP;obtain⟨ts,c,hr,es⟩:=Qx hr;obtain⟨l,xs,e1,e2,e3,r,sl⟩:=h.l1 es;refine⟨_,e1,l,xs,rfl,e3,tQ.mk h hr λH1 v y q E1 r1=>⟨v,xs,rfl,E1 _ _ e3,by rw[r.len];exact q.1,?_⟩⟩;obtain⟨h',S⟩:=(h.same E1).chg1 (V7 es) e1 e2 sl ((r.same (bW E1)).app (.cons r1 .nil));exact L.nx own _ σ _ q.2 ((bW E1).trans S) h'
def MS(i:Nat)(a b:RE):RS:=λE o=>vw (slot o i) λts c=>a o λy=>b o λk=>(match frz k with|.int j=>∃n,pE ts.length j=some n/\E.nx (o.set i (c (ts.set n (frz y))))|_=>False)
def Xx(i:Nat){x:Str}{k:Expr}{rk:RE}(he:QE X e re)(hk:QE X k rk)(hN:n_X X i x:=by exact⟨rfl,rfl,xa,xa⟩)
 (ha:∀v,assign (.Subscript (.Name x p) k aT) X.env v=(do
   let ov <- holding [v] (eval (.Name x p) X.env)
   let iv <- holding [v,ov] (eval k X.env)
   standAt aT
   holding [v,ov,iv] (setItem ov iv v)
   release [v,ov,iv] []):=by intro _;rfl)
 (hs:swapsWithSole [.Subscript (.Name x p) k aT] e pos.line X.env=pure false:=by rfl)(hw:swappedStores [.Subscript (.Name x p) k aT] e X.env=pure none:=by rfl)
 (h1:(assignEach [.Subscript (.Name x p) k aT] X.env).map (·.2)=[assign (.Subscript (.Name x p) k aT) X.env]:=by rfl):QS X (.Assign [.Subscript (.Name x p) k aT] e pos) (MS i re rk):=(Wa he (Rc (pv i hN) hk set_list ha) hs hw h1).imp λD σ H hP=>by
 obtain⟨own,o,E,h,hr,L⟩:=hP;obtain⟨ts,c,hr,es⟩:=Qx hr;obtain⟨l,xs,e1,e2,e3,r,sl⟩:=h.l1 es;refine tQ.mk h hr λH1 v y q E1 r1=>⟨_,e1,tQ.mk (h.same E1) q λH2 w z q E2 r2=>?_⟩;have r1:=r1.same (bW E2)
 revert r2 q
 generalize frz z=t;intro q r2;cases t<;>try exact q.elim
 cases r2;obtain⟨n,en,q⟩:=q;have c9:=E1.trans E2;refine⟨l,xs,_,n,rfl,rfl,c9 _ _ e3,by rw[r.len];exact en,?_⟩;obtain⟨h',S⟩:=(h.same c9).chg1 (V7 es) e1 e2 sl (bM.set r1 n (r.same (bW c9)));exact L.nx own _ σ _ q ((bW c9).trans S) h'
def MQ(i:Nat)(b:RE):RE:=λo q=>vw (slot o i) λts _=>b o λy=>(match frz y with|.int j=>∃t,n5 ts j=some t/\q (.fz t)|_=>False)
def Uz(i:Nat){x:Str}{b:Expr}(hb:QE X b rb)(hN:n_X X i x:=by exact⟨rfl,rfl,xa,xa⟩)(hs:Cz b:=by exact λ_ _=>rfl):QE X (.Subscript (.Name x p) b pos) (MQ i rb):=(Ws Jq (pv i hN) hb hs).imp λσ H Q hP=>by
 obtain⟨own,o,R,h,hr,k⟩:=hP;obtain⟨ts,c,hr,es⟩:=Qx hr;obtain⟨a,xs,e1,e2,e3,r,sl⟩:=h.l1 es;refine⟨_,e1,tQ.mk h hr λH1 v y q E1 r1=>?_⟩
 revert r1 q
 generalize frz y=t;intro q r1;cases t<;>try exact q.elim
 cases r1;obtain⟨t,j,q⟩:=q;obtain⟨v,e',r'⟩:=r.ix j;exact⟨a,xs,_,v,rfl,rfl,.of (E1 _ _ e3),e',k H1 _ _ q E1 (NR.fz (r'.same (bW E1)))⟩
def Av(n:Nat)(own ag:zz)(σ σ':L2.St):Prop:=(∀j,ag j=own j\/(j<n/\ag j=[]))/\σ'.length=σ.length/\∀j,n<=j->σ'[j]?=σ[j]?
def Av.refl : Av n own own σ σ:=⟨λ_=>.inl rfl,rfl,λ_ _=>rfl⟩
def Av.trans{n:Nat}{own own1 bS:zz}{σ σ1 σ2:L2.St}(a:Av n own own1 σ σ1)(b:Av n own1 bS σ1 σ2):Av n own bS σ σ2 :=
 ⟨λj=>(b.1 j).elim (λe=>(a.1 j).imp (λz=>e.trans z) λz=>⟨z.1,e.trans z.2⟩) .inr,b.2.1.trans a.2.1,λj hj=>(b.2.2 j hj).trans (a.2.2 j hj)⟩
def Av.same{ag:zz}{σ':L2.St}(a:Av n own ag σ σ') : z0 (hd (Ow own) H) (hd (Ow ag) H):=jK (λb hP=>by obtain⟨j,z⟩:=hP;exact .inl ⟨j,(a.1 j).elim (λe=>e ▸ z) λe=>by rw[e.2]at z;cases z⟩) λ_ _ z=>z
abbrev qS:Type:=T->zt->(zt->Prop)->Prop
def sr(K:Frag)(n:Nat)(g:qS):TG:=λv σ H Q=>∃own o t R,SR K own H σ o/\Rep K (hd (Ow own) H) v t/\g t o R/\∀ag σ' o',R o'->Av n own ag σ σ'->SR K ag H σ' o'->Q σ' H
def QG(X:Cx)(n:Nat)(tg:Expr)(g:qS):Prop:=PG X tg (sr X.K n g)
abbrev qE:Type:=zg->zt->(zt->Prop)->Prop
def vc(X:Cx)(n:Nat)(tg:zh)(g:qE):Prop:=PGs X tg λv σ H Q=>∃own o t R,SR X.K own H σ o/\bM X.K (hd (Ow own) H) v t/\g t o R/\∀ag σ' o',R o'->Av n own ag σ σ'->SR X.K ag H σ' o'->Q σ' H
def PGs.imp{tg:zh}{t t':sq}(h:PGs X tg t)(i:∀v σ H Q,t' v σ H Q->t v σ H Q):PGs X tg t':=λaa s σ H v u Q I r q=>h aa s σ H v u Q I r (i _ _ _ _ q)
def hName(i:Nat):qS:=λt o q=>q (o.set i (.fz t))
def Lv:qE:=λts o q=>match ts with|[]=>q o|_=>False
def O3(g:qS)(gs:qE):qE:=λts o q=>match ts with|t::ts=>g t o λo'=>gs ts o' q|_=>False
def Na(n:Nat)(gs:qE):qS:=λt o q=>match t with|.tup ts=>ts.length=n/\gs ts o q|_=>False
def SR.setF{o:zt}(h:SR K own H σ o)(r:Rep K (hd (Ow own) H) v t){i:Nat}(hi:i<n):∃ag,SR K ag H (σ.set i (some v)) (o.set i (.fz t))/\Av n own ag σ (σ.set i (some v)):=by
 have le:z0 (hd (Ow own) H) (hd (Ow (own1 own i [])) H):=jK (λb z=>.inl (z.of1.elim id λy=>(nomatch y))) λ_ _ z=>z;have go:Av n own (own1 own i []) σ (σ.set i (some v)):=⟨λj=>by
  by_cases z:j=i
  .exact .inr ⟨z ▸ hi,by rw[z,jM]⟩
  .exact .inl (fL z),VZ,λj hj=>Up xB⟩
 by_cases hl:i<o.length
 .refine⟨own1 own i [],⟨by rw[VZ,VZ,h.len],λj y e=>?_,λj hj a ha=>?_,λj k a e1 e2=>?_⟩,go⟩
  .by_cases z:j=i
   .subst z;rw[UZ hl]at e;cases e;rw[jM,UZ (h.len ▸ hl)];exact⟨rfl,v,rfl,r.same le⟩
   .rw[Up (Ne.symm z)]at e;rw[fL z,Up (Ne.symm z)];exact(h.sl j y e).same le λ_ _ z=>z
  .rw[VZ]at hj;rw[fL xB]at ha;exact h.out j hj a ha
  .by_cases z:j=i
   .rw[z,jM]at e1;cases e1
   by_cases y:k=i
   .rw[y,jM]at e2;cases e2
   .rw[fL z]at e1;rw[fL y]at e2;exact h.dis j k a e1 e2
 .refine⟨own,?_,⟨λ_=>.inl rfl,go.2⟩⟩;rwa[QU (Nat.not_lt.mp hl),QU (h.len ▸ Nat.not_lt.mp hl)]
def cC(i:Nat){x:Str}(hN:X.N.Nodup:=by assumption)(hx:tz X.env.scope x:=by first|exact .inl rfl|exact .inr rfl)(hi:X.N[i]?=some x:=by rfl)(hn:i<n:=by decide)(hf:qi X x:=by first|exact .inl rfl|exact .inr rfl|assumption):QG X n (.Name x pos) (hName i):=(kh hN hi hx hf).imp λv σ H Q hP=>by
 obtain⟨own,o,t,R,h,r,hg,k⟩:=hP;obtain⟨ag,h',S⟩:=h.setF r hn;exact k ag _ _ hg S h'
def gb : vc X n [] Lv:=X'.imp λv σ H Q hP=>by
 obtain⟨own,o,t,R,h,r,hg,k⟩:=hP;cases r with
 |nil=>exact⟨rfl,k own σ o hg .refl h⟩
 |cons _ _=>exact hg.elim
def bY{e:Expr}{g:qS}{gs:qE}(h1:QG X n e g)(h2:vc X n es gs)(hs:(assignEach (e::es) X.env).map (·.2)=assign e X.env::(assignEach es X.env).map (·.2):=by rfl):vc X n (e::es) (O3 g gs):=(V9 h1 h2 hs).imp λv σ H Q hP=>by
 obtain⟨own,o,t,R,h,r,hg,k⟩:=hP;cases r with
 |nil=>exact hg.elim
 |cons a b=>exact⟨_,_,rfl,own,o,_,_,h,a,hg,λag σ' o' q S h'=>⟨ag,o',_,R,h',b.same S.same,q,λbS σ2 o2 q S2 h2=>k bS σ2 o2 q (S.trans S2) h2⟩⟩
def jN{m:Nat}{gs:qE}(h:vc X m es gs)(hc:X.calm:=by rfl)(hn:(assignEach es X.env).length=n:=by rfl)(ce:zw X es:=by rfl):QG X m (.Tuple es k pos) (Na n gs):=(SG hc h hn ce).imp λv σ H Q hP=>by
 obtain⟨own,o,t,R,h,r,hg,k⟩:=hP;cases t<;>try exact hg.elim
 obtain⟨a,xs,rfl,e,r⟩:=r.tupI;exact⟨a,xs,rfl,cF.tup e,r.len.trans hg.1,own,o,_,R,h,r,hg.2,k⟩
def LX(a:RE)(g:qS):RS:=λE o=>a o λx=>g (frz x) o E.nx
def PB{g:qS}(he:QE X e re)(hg:QG X n tg g)(hs:swapsWithSole [tg] e pos.line X.env=pure false:=by rfl)(hw:swappedStores [tg] e X.env=pure none:=by rfl)(h1:(assignEach [tg] X.env).map (·.2)=[assign tg X.env]:=by rfl):QS X (.Assign [tg] e pos) (LX re g) :=
 (Wa he hg hs hw h1).imp λD σ H hP=>by obtain⟨own,o,E,h,hr,L⟩:=hP;exact tQ.mk h hr λH1 v y q E1 r1=>⟨own,o,_,_,h.same E1,r1,q,λag σ' o' q S h'=>L.nx ag H1 σ' o' q ((bW E1).trans S.same) h'⟩
end
def start'(n:Nat)(ts:zg):zt:=ts.map OT.fz++replicate (n-ts.length) .und
def SR.start{H:Hp}{vs:Β}{ts:zg}(r:bM K H vs ts)(N:Θ):SR K (λ_=>[]) H (start N vs) (start' N.length ts):=by
 have e0:Ow (λ_=>[])=λ_=>False:=funext λb=>propext ⟨λhP=>by obtain⟨_,z⟩:=hP;exact(nomatch z),False.elim⟩;refine⟨by unfold start' L2.start;simp[r.len],λi x e=>?_,λ_ _ _ z=>(nomatch z),λi j a z=>(nomatch z)⟩;rw[e0,Rn];unfold start' at e;unfold L2.start;by_cases hi:i<ts.length
 .rw[aD (by simpa using hi),aq,aj hi]at e;cases e;obtain⟨v,e1,r1⟩:=r.at_ (aj hi);rw[aD (by rwa[ak,r.len]),aq,e1];exact⟨rfl,v,rfl,r1⟩
 .rw[aC (by simpa using hi),ak,X0]at e;by_cases hj:i-ts.length<N.length-ts.length
  .rw[ZY hj]at e;cases e;rfl
  .rw[ZZ hj]at e;cases e
def j_ : hd (Ow λ_=>[]) H=H:=by rw[show Ow (λ_=>[])=λ_=>False from funext λb=>propext ⟨λhP=>by obtain⟨_,z⟩:=hP;exact(nomatch z),False.elim⟩,Rn]
def VF(q:∀H' v x,R x->z0 H H'->NR K (λ_=>False) H H' v x->Q v H')(S:Addr->Prop)(H':Hp)(v:V)(x:OT)(B:Φ)(rx:R x)(E:z0 H (hd S H'))(s:Slo K (hd S H') H' (some v) B x)(hB:∀a∈B,S a):Q v H' :=
 q H' v x rx (E.trans cF) ⟨B,λa ha=>E.free (uQ (hB a ha)),s.same (jK (λb z=>.inl (z.elim False.elim (hB b))) λ_ _ z=>z) λ_ _ z=>z⟩
def Fun.okT{x:Str}{N:Θ}{S:ST}(F:Fun K x qual st f fd)(sc:bK N ps (bF st))
 {r}(br:∀{af:Value}{A:Around}{outer:zI}{s:Shared}{H:Hp}{E:XK},dU k (A.deeper (envOfC qual (bF st) s.zs f af))->N.Nodup ->sj (G7 cp P w K mg base N qual (bF st) f af A outer s H E).nox (dJ st) r)(b2:∀ts R,S ts R->r { nx:=λ_=>R (.fz .non),rt:=R } (start' N.length ts))(len:∀ts R,S ts R->ts.length=ps.length:=by intro _ _ h;repeat (first|exact(ZH List.length h.1).trans rfl|obtain⟨_,h⟩:=h)):bV P w K mg base cp (k+1) f fd ps (mP K S):=by
 refine F.ok sc (λvs H Q E h=>?_) λaf A outer s H vs Q E hr h=>?_
 .obtain⟨ts,R,r,hS,_⟩:=h;exact r.len.trans (len ts R hS)
 .obtain⟨ts,R,r,hS,q⟩:=h;have h1:=@br af A outer s H E hr sc.nd;have h2:=b2;have e0:=j_ (H:=H);have bg:=VF q;refine⟨_,h1,λ_=>[],_,_,SR.start r N,h2 ts R hS,⟨λown H' σ o rx E h=>?_,λS' H' v x B rx E s hB=>bg S' H' v x B rx (e0 ▸ E) s hB,λ_ _ _ _ z=>z.elim,λ_ _ _ _ z=>z.elim,λ_ _ _ _ _ _ z=>z.elim⟩⟩;exact bg (Ow own) H' .non _ [] rx (e0 ▸ E) ⟨rfl,_,rfl,.non⟩ λ_ z=>(nomatch z)
abbrev RI:=zt->(zg->Prop)->Prop
def ua(K:Frag)(J:It)(F:Hp)(xs:zg):Prop:=∀(S:Addr->Prop)(H:Hp)(i:Nat),(∀b,S b->H b≠none)->z0 F (hd S H) ->
 (i=xs.length->J.stop i H)/\∀t,xs[i]?=some t->J.go i H/\∀x H',J.yld i H x H'->z0 H H'/\Rep K (hd S H') x t
def wn(K:Frag)(r:RI):TI:=λσ H Q=>∃own o R,SR K own H σ o/\r o R/\∀H' J xs,R xs->z0 H H'->ua K J (hd (Ow own) H') xs->Q J H'
def QI(X:Cx)(tg it:Expr)(r:RI):Prop:=PI X tg it (wn X.K r)
def PI.imp{it:Expr}{t t':TI}(h:PI X tg it t)(i:∀σ H Q,t' σ H Q->t σ H Q):PI X tg it t':=λaa s σ H Q I q=>h aa s σ H Q I (i σ H Q q)
def NH(a:RE):RI:=λo q=>a o λx=>match frz x with|.lst ts=>q ts|_=>False
def LJ(a:RE):RI:=λo q=>a o λx=>match frz x with|.tup ts=>q ts|_=>False
def UJ{t:Addr}(n:H t=none)(hs:∀b,S b->H b≠none):hd S (upd H t u) t=some u:=by rw[dI λz=>hs t z n];exact cj
variable{g:qS}{iter bv:Expr}{ri:RI}{rc:RT}{re:RE}{H1:Hp}{a9:zh}{scope:Scope}{S:ST}{ks:xk}
section
variable{X:Cx}{tg:Expr}{e a b:Expr}{re ra rb:RE}{p pos aT:Pos}
def cG(he:QE X e re):QI X tg e (NH re):=(Zd he).imp λσ H Q ⟨own,o,R,h,hr,k⟩=>tQ.mk h hr λH1 v x q E1 r1=>by
 revert r1 q
 generalize frz x=t;intro q r1;cases t<;>try exact q.elim
 obtain⟨a,xs,rfl,e,r⟩:=r1.lstI;refine⟨a,rfl,⟨xs,.of (cW e).2⟩,k H1 _ _ q E1 λS H2 i _ SF=>⟨λhi=>⟨xs,.of (cW (SF _ _ e)).2,by rw[r.len];exact WS hi.symm⟩,λt ht=>?_⟩⟩;obtain⟨y,ey,ry⟩:=r.at_ ht;refine⟨⟨xs,y,.of (cW (SF _ _ e)).2,ey⟩,?_⟩;rintro x H3 ⟨rfl,hx⟩;have:=hx xs (.of (cW (SF _ _ e)).2);rw[ey]at this;cases this;exact⟨.refl _,ry.same SF⟩
def Sc(he:QE X e re):QI X tg e (LJ re):=(P8 he).imp λσ H Q ⟨own,o,R,h,hr,k⟩=>tQ.mk h hr λH1 v x q E1 r1=>by
 revert r1 q
 generalize frz x=t;intro q r1;cases t<;>try exact q.elim
 obtain⟨a,xs,rfl,e,r⟩:=r1.tupI;refine⟨a,rfl,⟨xs,cF.tup e⟩,k H1 _ _ q E1 λS H2 i _ SF=>⟨λhi=>⟨xs,(SF.trans cF).tup e,by rw[r.len];exact WS hi.symm⟩,λt ht=>?_⟩⟩;obtain⟨y,ey,ry⟩:=r.at_ ht;refine⟨⟨xs,y,(SF.trans cF).tup e,ey⟩,?_⟩;rintro x H3 ⟨rfl,hx⟩;have:=hx xs ((SF.trans cF).tup e);rw[ey]at this;cases this;exact⟨.refl _,ry.same SF⟩
def rng(lo:Int)(n:Nat):zg:=(range n).map λk:Nat=>.int (lo+k)
def Yg{lo:Int}{F:Hp} : ua K (wb lo n) F (rng lo n):=λS H i _ _=>⟨λhi=>by rw[rng,ak,W1]at hi;exact WS hi.symm,λt ht=>by
 unfold rng at ht;rw[aq]at ht;by_cases hi:i<n
 .rw[UH hi]at ht;cases ht;refine⟨hi,?_⟩;rintro x H' ⟨rfl,rfl⟩;exact⟨.refl _,.int _⟩
 .rw[aL (by simpa using hi)]at ht;cases ht⟩
def FC(r:RA):RI:=λo q=>r o λts=>match ts with|[.int j]=>(-(2^62)<=j/\j<2^62)/\q (rng 0 j.toNat)|_=>False
def fW(hm:X.mg "range"=none)(ha:QA X [a] r)(hg:Gl X "range":=by rfl)(hs:starEach [a] X.env=[(false,eval a X.env)]:=by rfl):QI X tg (.Call (.Name "range" p) [a] [] pos) (FC r):=(Hv hg hm ha hs).imp λσ H Q ⟨own,o,R,h,hr,k⟩=>⟨own,o,_,h,hr,λH1 vs ts q _ E1 r1=>by
 match ts,q with
 |[.int j],q =>
  obtain⟨x,rfl,rx⟩:=r1.one;cases rx;exact⟨j,rfl,q.1.1,q.1.2,k H1 _ _ q.2 E1 Yg⟩⟩
def wz(ts:zg):zg:=ts.zipIdx.map λp=>.tup [.int (p.2:Nat),p.1]
def LY(r:RA):RI:=λo q=>r o λts=>match ts with|[.lst ts]=>q (wz ts)|_=>False
def JH{bX:zh}{x1}(hm:X.mg "enumerate"=none)(ha:QA X [a] r)(hg:Gl X "enumerate":=by rfl)(hs:starEach [a] X.env=[(false,eval a X.env)]:=by rfl):QI X (.Tuple bX x1 aT) (.Call (.Name "enumerate" p) [a] [] pos) (LY r):=(ZP hg hm ha hs).imp λσ H Q ⟨own,o,R,h,hr,k⟩=>⟨own,o,_,h,hr,λH1 vs ts q _ E1 r1=>by
 match ts,q with
 |[.lst ts],q =>
  obtain⟨x,rfl,rx⟩:=r1.one;obtain⟨a,xs,rfl,e,r⟩:=rx.lstI;refine⟨a,xs,rfl,(cW e).2,k H1 _ _ q E1 λS H2 i hs SF=>⟨λhi=>⟨xs,(cW (SF _ _ e)).2,by rw[r.len,hi];simp[wz]⟩,λt ht=>?_⟩⟩;unfold wz at ht;rw[aq]at ht;by_cases hi:i<ts.length
  .rw[aj (by simpa using hi),List.getElem_zipIdx]at ht;cases ht;obtain⟨y,ey,ry⟩:=r.at_ (aj hi);refine⟨⟨xs,(cW (SF _ _ e)).2,by rwa[r.len]⟩,?_⟩;rintro x H3 ⟨eQ,x',t,e',ex,n,rfl,rfl⟩;rw[(cW (SF _ _ e)).2]at e';cases e';rw[ey]at ex;cases ex;refine⟨z0.upd n,.tup (.of (UJ n hs)) (.cons ?_ (.cons (ry.same (SF.trans (bW (z0.upd n)))) .nil))⟩;rw[show((0+i:Nat):Int)=(i:Int)by lia];exact .int _
  .rw[aL (by simpa using hi)]at ht;cases ht⟩
def Fx(ts us:zg):zg:=(ts.zip us).map λp=>.tup [p.1,p.2]
def MR(r:RA):RI:=λo q=>r o λts=>match ts with|[.lst ts,.lst us]=>q (Fx ts us)|_=>False
def Qp{bX:zh}{x1}(hm:X.mg "zip"=none)(ha:QA X [a,b] r)(hg:Gl X "zip":=by rfl)(hs:starEach [a,b] X.env=[(false,eval a X.env),(false,eval b X.env)]:=by rfl)(gT:starEach [b] X.env=[(false,eval b X.env)]:=by rfl):QI X (.Tuple bX x1 aT) (.Call (.Name "zip" p) [a,b] [] pos) (MR r):=(YI hg hm ha hs gT).imp λσ H Q ⟨own,o,R,h,hr,k⟩=>⟨own,o,_,h,hr,λH1 vs ts q _ E1 r1=>by
 match ts,q with
 |[.lst ts,.lst us],q =>
  obtain⟨x,y,rfl,rx,ry⟩:=r1.two;obtain⟨a,xs,rfl,e,r⟩:=rx.lstI;obtain⟨b,ys,rfl,e2,r2⟩:=ry.lstI;refine⟨a,b,xs,ys,rfl,(cW e).2,(cW e2).2,k H1 _ _ q E1 λS H2 i hs SF=>⟨λhi=>⟨xs,ys,(cW (SF _ _ e)).2,(cW (SF _ _ e2)).2,?_⟩,λt ht=>?_⟩⟩
  .rw[r.len,r2.len];rw[Fx,ak,VY]at hi;lia
  .unfold Fx at ht;rw[aq]at ht;by_cases hi:i<ts.length/\i<us.length
   .rw[aj (by rw[VY];omega),getElem_zip]at ht;cases ht;obtain⟨y,ey,ry⟩:=r.at_ (aj hi.1);obtain⟨z,ez,rz⟩:=r2.at_ (aj hi.2);refine⟨⟨xs,ys,(cW (SF _ _ e)).2,(cW (SF _ _ e2)).2,by rw[r.len];exact hi.1,by rw[r2.len];exact hi.2⟩,?_⟩;rintro x H3 ⟨eQ,jp,x',y',t,e',ke,ex,ey',n,rfl,rfl⟩;rw[(cW (SF _ _ e)).2]at e';cases e';rw[(cW (SF _ _ e2)).2]at ke;cases ke;rw[ey]at ex;cases ex;rw[ez]at ey';cases ey';have S3:=SF.trans (bW (S:=S) (z0.upd (o:=.tup [y,z]) n));exact⟨z0.upd n,.tup (.of (UJ n hs)) (.cons (ry.same S3) (.cons (rz.same S3) .nil))⟩
   .rw[aL (by rw[VY];omega)]at ht;cases ht⟩
def v7(g:qS)(b:RS)(E:DT):zg->zt->Prop
 |[],o=>E.nx o
 |t::ts,o=>∃N:zt->Prop,(∀o,N o->v7 g b E ts o)/\g t o λo'=>b { E with nx:=N,ct:=N,bk:=E.nx } o'
def MB(it:RI)(g:qS)(b:RS):RS:=λE o=>it o λxs=>v7 g b E xs o
def gA{body:xb}{rb:RS}(hi:QI X tg iter ri)(hg:QG X n tg g)(hb:sj X body rb)(hc:X.calm:=by rfl)(hp:PassesOwn (model X.prog X.w) X.A X.env X.xe:=by first|exact PassesOwn.never|exact PassesOwn.leaving)
 (hs:qV X iter:=by intro _;rfl):QS X (.For tg iter body [] pos) (MB ri g rb):=(U6 hp hc hi hg hb hs).imp λD σ H ⟨own,o,E,h,hr,L⟩=>⟨own,o,_,h,hr,λH1 J xs q E1 wk=>by
 refine⟨λi m σ' H'=>∃ag o',SR X.K ag H' σ' o'/\z0 (hd (Ow own) H1) (hd (Ow ag) H')/\v7 g rb E (xs.drop i) o'/\i<=xs.length/\m=xs.length-i,⟨_,own,o,h.same E1,.refl _,q,aY _,rfl⟩,?_⟩;rintro i m σ' H' ⟨ag,o',h',S',hl,il,rfl⟩;obtain⟨w1,w2⟩:=wk (Ow ag) H' i (λb z=>(h'.sole z).ne) S';have S0:=(bW E1).trans S';by_cases hi:i<xs.length
 .right;obtain⟨go,yl⟩:=w2 _ (aj hi);rw[JU hi]at hl;obtain⟨N,hN,hl⟩:=hl;refine⟨go,λσ2 H2=>∃bS o2,SR X.K bS H2 σ2 o2/\z0 (hd (Ow own) H1) (hd (Ow bS) H2)/\v7 g rb E (xs.drop (i+1)) o2,λσ2 H2 ⟨bS,o2,a,b,c⟩=>⟨xs.length-(i+1),by omega,bS,o2,a,b,c,hi,rfl⟩,λx H2 y=>?_⟩;obtain⟨E2,rx⟩:=yl x H2 y;refine⟨ag,o',_,_,h'.same E2,rx,hl,λee σ3 o3 q3 hJ h3=>⟨ee,o3,_,h3,q3,?_⟩⟩;have S3:=S'.trans ((bW (S:=Ow ag) E2).trans hJ.same);have L3:=L.step ((bW E1).trans S3);exact⟨λcy H4 σ4 o4 q S h=>⟨cy,o4,h,S3.trans S,hN _ q⟩,L3.rt,λcy H4 σ4 o4 q S h=>L3.nx cy H4 σ4 o4 q S h,λcy H4 σ4 o4 q S h=>⟨cy,o4,h,S3.trans S,hN _ q⟩,L3.xc⟩
 .left;refine⟨w1 xB,?_⟩;rw[Tx (Nat.not_lt.mp hi)]at hl;exact L.nx ag H' σ' o' hl S0 h'⟩
def VI(c:RT)(b:RS):RS:=λE o=>∃W:Nat->zt->Prop,(∃m,W m o)/\∀m o,W m o->c o λk=>sw k (∃N:zt->Prop,(∀o',N o'->∃m',m'<m/\W m' o')/\b { E with nx:=N,ct:=N,bk:=E.nx } o) (E.nx o)
def FN{body:xb}{rb:RS}(hc:QT X c rc)(hb:sj X body rb)(hp:PassesOwn (model X.prog X.w) X.A X.env X.xe:=by first|exact PassesOwn.never|exact PassesOwn.leaving):QS X (.While c body [] pos) (VI rc rb):=(Vh hp hc hb).imp λD σ H hP=>by
 obtain⟨own,o,E,h,hr,L⟩:=hP;obtain⟨W,⟨m0,w0⟩,st⟩:=hr;refine⟨λm σ' H'=>∃ag o',SR X.K ag H' σ' o'/\z0 (hd (Ow own) H) (hd (Ow ag) H')/\W m o',⟨m0,own,o,h,.refl _,w0⟩,?_⟩;rintro m σ' H' ⟨ag,o',h',S',wm⟩;refine tQT.mk h' (st m o' wm) λH1 k q E1=>Fb q (λhP=>?_) λq=>L.nx ag H1 σ' o' q (S'.trans (bW E1)) (h'.same E1);obtain⟨N,hN,q⟩:=hP;have S1:=S'.trans (bW E1);have L1:=L.step S1;refine⟨λσ2 H2=>∃bS o2,SR X.K bS H2 σ2 o2/\z0 (hd (Ow own) H) (hd (Ow bS) H2)/\N o2,λσ2 H2 hP=>?_,ag,o',_,h'.same E1,q,⟨λcy H4 σ4 o4 q S h=>⟨cy,o4,h,S1.trans S,q⟩,L1.rt,λcy H4 σ4 o4 q S h=>L1.nx cy H4 σ4 o4 q S h,λcy H4 σ4 o4 q S h=>⟨cy,o4,h,S1.trans S,q⟩,L1.xc⟩⟩;obtain⟨bS,o2,a,b,c⟩:=hP;obtain⟨m',lt,w⟩:=hN o2 c;exact⟨m',lt,bS,o2,a,b,w⟩
end
def iw(g:qS)(c:RT)(e:RE)(o:zt):zg->(zg->Prop)->Prop
 |[],q=>q []
 |t::ts,q=>∃(N:T->Prop)(M:Prop),(∀y,N y->iw g c e o ts λus=>q (y::us))/\(M->iw g c e o ts q)/\g t o λo'=>c o' λb=>sw b (e o' λy=>N (frz y)) M
def ES:RT:=λ_ q=>q true
def YQ(it:RI)(n:Nat)(g:qS)(c:RT)(e:RE):RE:=λo q=>it o λxs=>xs.length<=sizeLine/\iw g c e (replicate n .und++o) xs λus=>q (.l1 us)
def ownL2(n L:Nat)(own:zz)(A:Φ):zz:=λi=>if i<n then[]else if i<n+L then own (i-n)else if i=n+L then A else own (i-n-1)
def Ow.ownL2{n L:Nat}{own:zz}{A:Φ}{b:Addr} : Ow (ownL2 n L own A) b↔Ow own b\/b∈A:=by
 constructor
 .rintro⟨i,z⟩;unfold L2.ownL2 at z;by_cases h1:i<n
  .rw[ZY h1]at z;cases z
  rw[ZZ h1]at z;by_cases h2:i<n+L
  .rw[ZY h2]at z;exact .inl ⟨_,z⟩
  rw[ZZ h2]at z;by_cases h3:i=n+L
  .rw[ZY h3]at z;exact .inr z
  .rw[ZZ h3]at z;exact .inl ⟨_,z⟩
 .rintro(⟨i,z⟩|z)
  .by_cases h:i<L
   .exact⟨n+i,by unfold L2.ownL2;rw[ZZ (JY (X2 _ _)),ZY (Nat.add_lt_add_left h _),show n+i-n=i by exact TU _ _];exact z⟩
   .exact⟨n+i+1,by unfold L2.ownL2;rw[ZZ xB,ZZ xB,ZZ xB,show n+i+1-n-1=i by lia];exact z⟩
  .exact⟨n+L,by unfold L2.ownL2;rw[ZZ (JY (X2 _ _)),ZZ (X9 _),ZY rfl];exact z⟩
def SR.blockL{o:zt}(h:SR K own H σ o){A:Φ}{H':Hp}(E:z0 H H')(nA:∀a∈A,H a=none)(eA:∀a∈A,∃ys,H' a=some (.lst ys))(pre:L2.St):SR K (ownL2 pre.length o.length own A) H' (pre++σ) (replicate pre.length .und++o):=by
 have le:z0 (hd (Ow own) H) (hd (Ow (ownL2 pre.length o.length own A)) H'):=jK (λb z=>(Ow.ownL2.mp z).imp id (nA b)) E;have j1:∀j,∀a∈A,a∉own j:=λj a ha z=>(h.sole ⟨j,z⟩).ne (nA a ha);refine⟨by simp[h.len],λi x e=>?_,λi hi a ha=>?_,λi j a e1 e2=>?_⟩
 .by_cases h1:i<pre.length
  .rw[aD (by simpa using h1),X0,ZY h1]at e;cases e;show ownL2 _ _ _ _ i=[];unfold ownL2;rw[ZY h1]
  .rw[aC (by simpa using h1),aM]at e;have h2:i-pre.length<o.length:=(ao.mp e).1;rw[aC (Nat.not_lt.mp h1)];have:ownL2 pre.length o.length own A i=own (i-pre.length):=by unfold ownL2;rw[ZZ h1,ZY (by omega)]
   rw[this];exact(h.sl _ x e).same le E
 .rw[aA,aM]at hi;unfold ownL2 at ha;rw[ZZ xB,ZZ (JY hi)]at ha;by_cases h3:i=pre.length+o.length
  .rw[ZY h3]at ha;exact eA a ha
  .rw[ZZ h3]at ha;obtain⟨xs,e⟩:=h.out _ xB a ha;exact⟨xs,E _ _ e⟩
 .unfold ownL2 at e1 e2;by_cases a1:i<pre.length
  .rw[ZY a1]at e1;cases e1
  by_cases b1:j<pre.length
  .rw[ZY b1]at e2;cases e2
  rw[ZZ a1]at e1;rw[ZZ b1]at e2;by_cases a2:i<pre.length+o.length<;>by_cases b2:j<pre.length+o.length
  .rw[ZY a2]at e1;rw[ZY b2]at e2;have:=h.dis _ _ a e1 e2;omega
  .rw[ZY a2]at e1;rw[ZZ b2]at e2;by_cases b3:j=pre.length+o.length
   .rw[ZY b3]at e2;exact absurd e1 (j1 _ a e2)
   .rw[ZZ b3]at e2;have:=h.dis _ _ a e1 e2;omega
  .rw[ZZ a2]at e1;rw[ZY b2]at e2;by_cases a3:i=pre.length+o.length
   .rw[ZY a3]at e1;exact absurd e2 (j1 _ a e1)
   .rw[ZZ a3]at e1;have:=h.dis _ _ a e1 e2;lia
  .rw[ZZ a2]at e1;rw[ZZ b2]at e2;by_cases a3:i=pre.length+o.length<;>by_cases b3:j=pre.length+o.length
   .exact Eq.trans a3 (Eq.symm b3)
   .rw[ZY a3]at e1;rw[ZZ b3]at e2;exact absurd e2 (j1 _ a e1)
   .rw[ZZ a3]at e1;rw[ZY b3]at e2;exact absurd e1 (j1 _ a e2)
   .rw[ZZ a3]at e1;rw[ZZ b3]at e2;have:=h.dis _ _ a e1 e2;lia
def ownS(n L:Nat)(own:zz)(D:Addr):zz:=ownL2 n L own [D]
def Ow.ownS{n L:Nat}{own:zz}{D b:Addr} : Ow (ownS n L own D) b↔Ow own b\/b=D:=Ow.ownL2.trans (or_congr_right YR)
def SR.block{o:zt}(h:SR K own H σ o){H':Hp}(E:z0 H H')(nD:H D=none)(eD:H' D=some (.lst ys))(pre:L2.St):SR K (ownS pre.length o.length own D) H' (pre++σ) (replicate pre.length .und++o):=h.blockL E (λa z=>YR.mp z ▸ nD) (λa z=>YR.mp z ▸ ⟨_,eD⟩) pre
def N7{ag:zz}{pre σ':L2.St}(hp:pre.length=n)(g:Av n own ag (pre++σ) σ'):∃b9:L2.St,b9.length=n/\σ'=b9++σ:=by
 obtain⟨_,l,k⟩:=g;refine⟨σ'.take n,by rw[aX,l,aA];lia,?_⟩;refine List.ext_getElem? λi=>?_;by_cases hi:i<n
 .rw[aD (by rw[aX,l,aA];lia),List.getElem?_take_of_lt hi]
 .rw[aC (by rw[aX,l,aA];lia),k i (VW hi),aC xB,aX,l,aA]
  congr 1
  lia
def M4{o:zt}{J:It}{xs:zg}(h1:SR K own H1 σ o)(wk:ua K J (hd (Ow own) H1) xs)(lx:xs.length<=sizeLine)(q:iw g rc re (replicate n .und++o) xs λus=>R (.l1 us))(nD:H1 D=none)(k:∀H' v x,R x->z0 H1 H'->NR K (Ow own) H1 H' v x->Q v H') :
  ∃W:Nat->Nat->Β->Hp->Prop,(∃m,W 0 m [] (upd H1 D (.lst [])))/\∀i m ys Hc,W i m ys Hc ->
   (J.stop i Hc/\Q (.ref D) Hc)\/(J.go i Hc/\∀x H',J.yld i Hc x H'->∀pre:L2.St,pre.length=n->tI (sr K n g) x (pre++σ) H' λσ2 H2=>∃b9:L2.St,b9.length=n/\σ2=b9++σ/\tF (tQT K rc) σ2 H2 λb H3 =>
    match b with
    |true=>tM (tQ K re) σ2 H3 λy H4=>ys.length<sizeLine/\H4 D=some (.lst ys)/\∃m',m'<m/\W (i+1) m' (ys++[y]) (upd H4 D (.lst (ys++[y])))
    |false=>∃m',m'<m/\W (i+1) m' ys H3):=by
 generalize hO:replicate n OT.und++o=ob at q;refine⟨λi m ys Hc=>∃ts,Hc D=some (.lst ys)/\z0 H1 Hc/\bM K (hd (λb=>Ow own b\/b=D) Hc) ys ts/\ys.length<=i/\i<=xs.length/\m=xs.length-i/\iw g rc re ob (xs.drop i) λus=>R (.l1 (ts++us)),⟨_,[],cj,z0.upd nD,.nil,aF _,aY _,rfl,q⟩,?_⟩;rintro i m ys Hc ⟨ts,eD,Ec,rs,il,ix,rfl,hl⟩;have hn:∀b,Ow own b\/b=D->Hc b≠none:=λb z=>z.elim (λz=>((h1.same Ec).sole z).ne) λe z=>by rw[e,eD]at z;cases z
 have SD:z0 (hd (Ow own) H1) (hd (λb=>Ow own b\/b=D) Hc):=jK (λb z=>z.imp id λ(e:b=D)=>e ▸ nD) Ec;obtain⟨w1,w2⟩:=wk (λb=>Ow own b\/b=D) Hc i hn SD;by_cases hi:i<xs.length
 .right;obtain⟨go,yl⟩:=w2 _ (aj hi);rw[JU hi]at hl;obtain⟨N,M,hN,hM,hl⟩:=hl;refine⟨go,λx H2 y pre hp=>?_⟩;obtain⟨E2,rx⟩:=yl x H2 y;have eO:(λb=>Ow own b\/b=D)=Ow (ownS n o.length own D):=funext λb=>propext Ow.ownS.symm;have hb:SR K (ownS n o.length own D) H2 (pre++σ) ob:=by
   have:=h1.block (Ec.trans E2) nD (E2 _ _ eD) pre;rw[hp,hO]at this;exact this
  rw[eO]at rx rs;refine⟨_,⟨ownS n o.length own D,ob,_,_,hb,rx,hl,λee σ3 o3 q3 hJ h3=>?_⟩,λ_ _ z=>z⟩;obtain⟨b9,g3,rfl⟩:=N7 hp hJ;have e3:ee=ownS n o.length own D:=funext λj=>by
   rcases hJ.1 j with e|⟨e1,e2⟩
   .exact e
   .rw[e2];exact(ZY e1).symm
  subst e3;refine⟨b9,g3,rfl,_,tQT.mk h3 q3 λH3 b q4 E3=>?_,λ_ _ z=>z⟩;have q4:sw b (re o3 λy=>N (frz y)) M:=q4;cases b with
  |false=>exact⟨xs.length-(i+1),by lia,ts,E3 _ _ (E2 _ _ eD),Ec.trans (E2.trans E3),by rw[eO];exact rs.same (bW (E2.trans E3)),by exact aK il (X2 _ _),by exact hi,rfl,hM q4⟩
  |true =>
   refine⟨_,tQ.mk (h3.same E3) q4 λH4 v y q5 E4 r4=>⟨by lia,E4 _ _ (E3 _ _ (E2 _ _ eD)),xs.length-(i+1),by lia,ts++[frz y],cj,λb u e=>?_,?_,by rw[aA,length_singleton];exact succ_le_succ il,by exact hi,rfl,?_⟩,λ_ _ z=>z⟩
   .rw[bZ λz=>by rw[z,nD]at e;cases e];exact E4 _ _ (E3 _ _ (E2 _ _ (Ec _ _ e)))
   .rw[zZ (S:=λb=>Ow own b\/b=D) (.inr rfl),eO];exact(rs.same (bW (E2.trans (E3.trans E4)))).app (.cons r4 .nil)
   .have:=hN _ q5;simp only[WZ,List.singleton_append];exact this
 .left;have:i=xs.length:=by lia
  refine⟨w1 this,?_⟩;rw[Tx (VW hi)]at hl;have hl:R (.l1 (ts++[])):=hl;rw[append_nil]at hl;exact k Hc _ _ hl Ec (NR.l1 nD eD rs)
def Vo(h:tQ K (YQ ri n g rc re) σ H Q):uY (wn K ri) n (tI (sr K n g)) (tF (tQT K rc)) (tM (tQ K re)) σ H Q:=by
 obtain⟨own,o,R,h,hr,k⟩:=h;exact⟨own,o,_,h,hr,λH1 J xs q E1 wk D nD=>M4 (h.same E1) wk q.1 q.2 nD λH' v x rx E n=>k H' v x rx (E1.trans E) (n.back E1)⟩
def t5(X:Cx)(a9:zh)(r:RT):Prop:=PTs X a9 (tQT X.K r)
def cJ:t5 X [] ES:=λaa s σ H Q I hP=>by obtain⟨own,o,R,h,hr,k⟩:=hP;exact Zh aa s σ H Q I (k H true hr (.refl _))
def Z1(h:QT X c rc):t5 X [c] rc:=Y5 h
def dO(sc:Scope)(N N' xs:Θ)(hi:QI X tg iter ri)(hg:∀{C s₀ H₀ ex pn},QG (X.compG N' scope xs C s₀ H₀ ex pn) xs.length tg g)(ht:∀{C s₀ H₀ ex pn},t5 (X.compG N' scope xs C s₀ H₀ ex pn) a9 rc)(he:∀{C s₀ H₀ ex pn},QE (X.compG N' scope xs C s₀ H₀ ex pn) bv re)
 (eB:X.env.scope=sc:=by rfl)(eK:X.N=N:=by rfl)(hc:X.calm:=by rfl)(hk:scope.kind=.function:=by rfl)(h:CK sc scope N N' xs:=by decide +kernel)(hs:qV X iter:=by intro _;rfl):QE X (.ListComp bv [⟨tg,iter,a9,0⟩] scope pos) (YQ ri xs.length g rc re) :=
 (GY (gt:=sr X.K xs.length g) (tc:=tQT X.K rc) (te:=tQ X.K re) sc N N' xs hi hg ht he eB eK hc hk h hs).imp λ_ _ _=>Vo
def gH{N' xs:Θ}{C s₀ H₀ ex pn}{i:Nat}{x:Str}(hN:(xs++N').Nodup:=by decide +kernel)(hi:(xs++N')[i]?=some x:=by rfl)(hn:i<n:=by decide)(hx:tz (X.compG N' scope xs C s₀ H₀ ex pn).env.scope x:=by exact Or.inl rfl)(hf:(X.compG N' scope xs C s₀ H₀ ex pn).fn x\/(X.compG N' scope xs C s₀ H₀ ex pn).env.scope.names.lookup x=some .local:=by exact Or.inr rfl):QG (X.compG N' scope xs C s₀ H₀ ex pn) n (.Name x p) (hName i):=cC (i:=i) (hN:=hN) (hx:=hx) (hi:=hi) (hn:=hn) (hf:=hf)
def Ug{c:RT}{e:RE}{o:zt}{q:zg->Prop}(h:g t o λo'=>c o' λb=>sw b (e o' λy=>iw g c e o ts λus=>q (frz y::us)) (iw g c e o ts q)):iw g c e o (t::ts) q:=⟨λy=>iw g c e o ts λus=>q (y::us),_,λ_ h=>h,id,h⟩
section
variable{X:Cx}{a b e:Expr}{ra rb re:RE}{rt:RT}{pos:Pos}
theorem bM.reps{K:Frag}{F:Hp}{xs:Β}{ts:zg}(h:bM K F xs ts):∀n:Nat,bM K F (replicate n xs).flatten (replicate n ts).flatten
 |0=>.nil
 |n+1=>by rw[replicate_succ,replicate_succ,flatten_cons,flatten_cons];exact h.app (bM.reps h n)
def cI:GO X (binaryOp .Mult) yi:=λaa s σ H x y v u Q I rx ry h=>by
 obtain⟨S,t,w,R,_,hx,hy,hg,k⟩:=h;cases w with
 |int j=>?_
 |_=>cases t<;>exact hg.elim
 cases hy;cases t<;>try exact hg.elim
 .cases hx;exact Zx aa s σ H _ _ v u Q I rx ry ⟨_,_,rfl,rfl,hg.1,k H _ _ hg.2 (.refl _) (NR.fz (.int _))⟩
 .cases hx;obtain⟨c,rfl,h1,h2,q⟩:=hg;exact ZF aa s σ H _ _ v u Q I rx ry ⟨c,j,rfl,rfl,h1,h2,λz hz=>k H _ _ (q z hz) (.refl _) (NR.fz (.str _))⟩
 .obtain⟨p,xs,rfl,e,r⟩:=hx.lstI;obtain⟨⟨h1,h2,h3⟩,q⟩:=hg;exact P1 aa s σ H _ _ v u Q I rx ry ⟨p,j,xs,rfl,rfl,(cW e).2,h1,h2,by rw[r.len];exact h3,λa ha=>k _ _ _ (q _ rfl) (z0.upd ha) (w5 (r.reps j.toNat) (z0.upd ha) ha cj)⟩
mutual
def sB:PyData->T
 |.none=>.non
 |.bool b=>.bl b
 |.int i=>.int i
 |.str s=>.str s
 |.list ds=>.lst (Wm ds)
 |.tuple ds=>.tup (Wm ds)
 |.dict _=>.any
def Wm:xj->zg
 |[]=>[]
 |d::ds=>sB d::Wm ds
end
mutual
theorem Rep.shows{K:Frag}{F:Hp} : ∀{x:V}{t:T},Rep K F x t->∀d,t=sB d->d.canLay0=true->jw K F x d
 |_,_,.any v,d,e,s=>by cases d<;>cases e;cases s
 |_,_,.non,d,e,_=>by cases d<;>cases e;exact .non
 |_,_,.bl b,d,e,_=>by cases d<;>cases e;exact .bl _
 |_,_,.int i,d,e,_=>by cases d<;>cases e;exact .int _
 |_,_,.str s,d,e,_=>by cases d<;>cases e;exact .str _
 |_,_,.val v,d,e,_=>by cases d<;>cases e
 |_,_,.tup q h,d,e,s=>by
  cases d<;>cases e;exact .tup q (bM.shows h _ rfl s)
 |_,_,.lst q h,d,e,s=>by
  cases d<;>cases e;exact .lst q (bM.shows h _ rfl s)
 |_,_,.scr q h,d,e,_=>by cases d<;>cases e
 |_,_,.dct q l h,d,e,_=>by cases d<;>cases e
 |_,_,.ins q d' l h,d,e,_=>by cases d<;>cases e
 |_,_,.exc q d' l h,d,e,_=>by cases d<;>cases e
theorem bM.shows{K:Frag}{F:Hp} : ∀{xs:Β}{ts:zg},bM K F xs ts->∀ds,ts=Wm ds->PyData.canLayAll0 ds=true->fj K F xs ds
 |_,_,.nil,ds,e,_=>by cases ds<;>cases e;exact .nil
 |_,_,.cons a b,ds,e,s=>by
  cases ds<;>cases e;obtain⟨s1,s2⟩:=Bool.and_eq_true_iff.mp s;exact .cons (Rep.shows a _ rfl s1) (bM.shows b _ rfl s2)
end
def xr:Bool->Bool->Bool
 |false,b=>b
 |true,b=>!b
def vE:T->T->Option Bool
 |.int i,.int j=>some (decide (i=j))
 |.str i,.str j=>some (decide (i=j))
 |.bl i,.bl j=>some (decide (i=j))
 |.non,.non=>some true
 |.non,.int _=>some false
 |.int _,.non=>some false
 |.non,.str _=>some false
 |.str _,.non=>some false
 |.int _,.str _=>some false
 |.str _,.int _=>some false
 |.tup [.int a,.int b],.tup [.int c,.int d]=>some (decide (a=c)&&decide (b=d))
 |_,_=>none
def gEq(neg:Bool)(t u:T)(q:OT->Prop):Prop:=match vE t u with
 |some b=>q (.fz (.bl (xr neg b)))
 |none=>∃d e,t=sB d/\u=sB e/\SeqAt.shaped d/\SeqAt.shaped e/\q (.fz (.bl (xr neg (PyData.eqv d e))))
def HM(a b c d:Int):PyData.eqv (.tuple [.int a,.int b]) (.tuple [.int c,.int d])=(decide (a=c)&&decide (b=d)):=by
 simp only[PyData.eqv,PyData.eqvAll,Bool.and_true]
 rfl
def sv:T->xp
 |.non=>some .non
 |.bl b=>some (.bl b)
 |.int i=>some (.int i)
 |.str s=>some (.str s)
 |_=>none
def Rep.sca{F:Hp}{x:V}(h:Rep K F x t)(e:sv t=some v):x=v:=by cases h<;>cases e<;>rfl
def _c(t u:T)(b:Bool):Prop:=(∃v w,sv t=some v/\sv u=some w/\Wy v w/\decide (v=w)=b)\/∃i j k l,t=.tup [.int i,.int j]/\u=.tup [.int k,.int l]/\(decide (i=k)&&decide (j=l))=b
def PZ{u:T}{b:Bool}(e:vE t u=some b):_c t u b:=by
  cases t with
  |tup t=>
   iterate 2
    obtain _|⟨r,t⟩:=t
    .cases e
    cases r<;>try (cases e;done)
   cases t with|cons=>cases e|nil=>
    cases u<;>try (cases e;done)
    rename_i u;iterate 2
     obtain _|⟨r,u⟩:=u
     .cases e
     cases r<;>try (cases e;done)
    cases u<;>cases e;exact .inr ⟨_,_,_,_,rfl,rfl,rfl⟩
  |_=>first|(cases e;done)|(cases u<;>cases e<;>exact .inl ⟨_,_,rfl,rfl,rfl,by simp⟩)
def Qb{F:Hp}{x y:V}{u:T}{b:Bool}(S:z0 F H)(hx:Rep K F x t)(hy:Rep K F y u)(e:vE t u=some b):(Wy x y=true/\decide (x=y)=b)\/∃d e,jw K H x d/\jw K H y e/\SeqAt.shaped d/\SeqAt.shaped e/\PyData.eqv d e=b:=by
 rcases PZ e with⟨_,_,p,q,r⟩|⟨_,_,_,_,rfl,rfl,r⟩
 .cases hx.sca p;cases hy.sca q;exact .inl r
 exact .inr ⟨.tuple [.int _,.int _],.tuple [.int _,.int _],(hx.shows _ rfl rfl).same S,(hy.shows _ rfl rfl).same S,rfl,rfl,(HM _ _ _ _).trans r⟩
def V4(neg:Bool)(h1:OpR X (compareOp op) λx y H Q=>Wy x y=true/\Q (.bl (xr neg (decide (x=y)))) H)(h2:OpR X (compareOp op) (ym X.K neg)):GO X (compareOp op) (gEq neg):=λaa s σ H x y v u Q I rx ry h=>by
 obtain⟨S,t,w,R,_,hx,hy,hg,k⟩:=h;have xe:∀b:Bool,(if neg then !b else b)=xr neg b:=λb=>by cases neg<;>rfl
 unfold gEq at hg;cases es:vE t w with
 |some b =>
  rw[es]at hg;rcases Qb cF hx hy es with⟨a,c⟩|⟨d,e,s1,s2,s3,s4,c⟩
  .exact h1 aa s σ H x y v u Q I rx ry ⟨a,by rw[c];exact k H _ _ hg (.refl _) (NR.fz (.bl _))⟩
  .exact h2 aa s σ H x y v u Q I rx ry ⟨d,e,s1,s2,s3,s4,by rw[xe,c];exact k H _ _ hg (.refl _) (NR.fz (.bl _))⟩
 |none =>
  rw[es]at hg;obtain⟨d,e,e1,e2,s1,s2,q⟩:=hg;exact h2 aa s σ H x y v u Q I rx ry ⟨d,e,(hx.shows d e1 (Bool.and_eq_true_iff.mp s1).1).same cF,(hy.shows e e2 (Bool.and_eq_true_iff.mp s2).1).same cF,s1,s2,by rw[xe];exact k H _ _ q (.refl _) (NR.fz (.bl _))⟩
def yY(hu:X.A.units+64<cLine):GO X (compareOp .Eq) (gEq false):=V4 false Os (ZB hu)
def Bf(hu:X.A.units+64<cLine):GO X (compareOp .NotEq) (gEq true):=V4 true N0 (Su hu)
def flat:OT->Prop
 |.fz (.int _)=>True
 |.fz (.bl _)=>True
 |.fz (.str _)=>True
 |.fz .non=>True
 |_=>False
def Lm(i:Nat)(a:RE):RE:=λo q=>match slot o i with|.und=>False|x=>a (o.set i (.fz (frz x))) λy=>flat y/\q y
def NV(i:Nat)(a:RT):RT:=λo q=>match slot o i with|.und=>False|x=>a (o.set i (.fz (frz x))) q
def QL{i:Nat}{o:zt}{P:OT->Prop}(h:match slot o i with|.und=>False|x=>P x):P (slot o i)/\slot o i≠.und:=by
 cases e:slot o i<;>rw[e]at h<;>first|exact h.elim|exact⟨h,λz=>by cases z⟩
def Ve(i:Nat)(h:QE X e re):QE X e (Lm i re):=PE.imp h λσ H Q hP=>by
 obtain⟨own,o,R,h,hr,k⟩:=hP;obtain⟨hr,ne⟩:=QL (P:=λx=>re (o.set i (.fz (frz x))) λy=>flat y/\R y) hr;obtain⟨u,e1,s⟩:=h.val rfl ne;obtain⟨ag,h',S⟩:=h.frz (jc rfl ne) e1;refine⟨ag,_,_,h',hr,λH' v x q E n=>k H' v x q.2 E ?_⟩;have fl:=q.1;have rp:=n.rep λb z=>(h'.sole z).ne;cases x with
 |fz t=>cases t<;>first|exact fl.elim|(cases rp;first|exact NR.fz (.int _)|exact NR.fz (.bl _)|exact NR.fz (.str _)|exact NR.fz .non)
 |_=>exact fl.elim
def Ot(i:Nat)(h:QT X e rt):QT X e (NV i rt):=PT.imp h λσ H Q hP=>by
 obtain⟨own,o,R,h,hr,k⟩:=hP;obtain⟨hr,ne⟩:=QL (P:=λx=>rt (o.set i (.fz (frz x))) R) hr;obtain⟨u,e1,s⟩:=h.val rfl ne;obtain⟨ag,h',S⟩:=h.frz (jc rfl ne) e1;exact⟨ag,_,_,h',hr,k⟩
def T6:T->Option nS
 |.int i=>some (.inl i)
 |.str s=>some (.inr s)
 |_=>none
def oK{α:Type} : xk->List α->nS->Option α
 |k::ks,t::ts,j=>if k=j then some t else oK ks ts j
 |_,_,_=>none
def JN{F:Hp}{x:V}{k:nS}(h:Rep K F x t)(e:T6 t=some k):x=kV k:=by
 cases h<;>cases e<;>rfl
theorem Ax{K:Frag}{F:Hp}{k:nS} : ∀{ks:xk}{xs:Β}{ts:zg},bM K F xs ts->(∀t,oK ks ts k=some t->∃x,Ft (ks.zip xs) k=some x/\Rep K F x t)/\(oK ks ts k=none->Ft (ks.zip xs) k=none)
 |[],_,_,_=>⟨λ_ z=>(nomatch z),λ_=>rfl⟩
 |_::_,_,_,.nil=>⟨λ_ z=>(nomatch z),λ_=>rfl⟩
 |j::ks,_,_,.cons a b=>by
  by_cases h:j=k
  .refine⟨λt z=>?_,λz=>?_⟩
   .unfold oK at z;rw[ZY h]at z;cases z;exact⟨_,Mj h,a⟩
   .unfold oK at z;rw[ZY h]at z;cases z
  .obtain⟨i1,i2⟩:=Ax (k:=k) (ks:=ks) b;refine⟨λt z=>?_,λz=>?_⟩
   .unfold oK at z;rw[ZZ h]at z;obtain⟨x,e,r⟩:=i1 t z;exact⟨x,(Fw h).trans e,r⟩
   .unfold oK at z;rw[ZZ h]at z;exact(Fw h).trans (i2 z)
def Pm:qA
 |.dct ks ts,u,q=>∃k t,T6 u=some k/\oK ks ts k=some t/\q (.fz t)
 |_,_,_=>False
def KN(hu:X.A.units+1<cLine)(ha:QE X a ra)(hb:QE X b rb)(hs:xA b:=by exact λ_ _=>rfl):QE X (.Subscript a b pos) (nL Pm ra rb):=(Y_ hu ha hb hs).imp λσ H Q ⟨own,o,R,h,hr,k⟩=>tQ.mk h hr λH1 v x q E1 r1=>tQ.mk (h.same E1) q λH2 w y q E2 r2=>by
 have r1:=r1.same (bW E2)
 revert r1 q
 generalize frz x=t;intro q r1;cases t<;>try exact q.elim
 obtain⟨d,xs,rfl,e,l,r⟩:=r1.dctI;obtain⟨j,t,e1,e2,q⟩:=q;obtain⟨z,e3,r3⟩:=(Ax r).1 t e2;cases JN r2 e1;exact⟨d,z,rfl,.inl ⟨_,_,cF.rd e,rfl,e3.symm⟩,k H2 _ _ q (E1.trans E2) (NR.fz r3)⟩
def xN(neg:Bool):qA
 |u,.dct ks ts,q=>∃k,T6 u=some k/\q (.fz (.bl (xr neg (oK ks ts k).isSome)))
 |_,_,_=>False
def W2{neg:Bool}(h:tQ X.K (nL (xN neg) ra rb) σ H Q):(tQ X.K ra) σ H λy H1=>(tQ X.K rb) σ H1 λx H2=>∃a o,x=.ref a/\Aj H2 a y o/\Q (.bl (xr neg o.isSome)) H2:=by
 obtain⟨own,o,R,h,hr,k⟩:=h;refine tQ.mk h hr λH1 v x q E1 r1=>tQ.mk (h.same E1) q λH2 w y q E2 r2=>?_;have r1:=r1.same (bW E2)
 revert r2 q
 generalize frz y=t;intro q r2;cases t with
 |dct ks ts =>
  obtain⟨d,xs,rfl,e,l,r⟩:=r2.dctI;obtain⟨j,e1,q⟩:=q;cases JN r1 e1;refine⟨d,_,rfl,.inl ⟨_,_,cF.rd e,rfl,rfl⟩,?_⟩;have:(Ft (ks.zip xs) j).isSome=(oK ks ts j).isSome:=by
   cases z:oK ks ts j with
   |none=>rw[(Ax r).2 z];rfl
   |some t=>obtain⟨x,e,_⟩:=(Ax r).1 t z;rw[e];rfl
  rw[this];exact k H2 _ _ q (E1.trans E2) (NR.fz (.bl _))
 |_=>cases frz x<;>exact q.elim
def HV{r:RE}{tt:TE}(i:∀σ H Q,tQ X.K r σ H Q->tt σ H Q){Q:Bool->Hp->Prop}(h:tQT X.K (rB r) σ H Q):tB tt σ H Q:=by
 obtain⟨own,o,R,h,hr,k⟩:=h;refine i σ H _ (tQ.mk h hr λH1 v x q E1 r1=>?_)
 revert r1 q
 generalize frz x=t;intro q r1;cases r1<;>try exact q.elim
 exact⟨_,rfl,k _ _ q E1⟩
def WQ(hu:X.A.units+1<cLine)(ha:QE X a ra)(hb:QE X b rb)(h1:behindInMarks .In b=false:=by rfl):QT X (.Compare a [.In] [b] pos) (rB (nL (xN false) ra rb)):=(Vf (VA hu ha hb) h1).imp λ_ _ _=>HV λ_ _ _=>W2 (neg:=false)
def T5(hu:X.A.units+1<cLine)(ha:QE X a ra)(hb:QE X b rb)(h1:behindInMarks .NotIn b=false:=by rfl):QT X (.Compare a [.NotIn] [b] pos) (rB (nL (xN true) ra rb)):=(Vf (SN hu ha hb) h1).imp λ_ _ _=>HV λ_ _ _=>W2 (neg:=true)
def PM:RE:=λ_ q=>q (.d1 [] [])
def Kg:QE X (.Dict [] [] pos) PM:=WM.imp λσ H Q ⟨own,o,R,h,hr,k⟩ p hp=>k _ _ _ hr (z0.upd hp) ⟨[p],λa ha=>(YR.mp ha) ▸ hp,p,[],rfl,rfl,cj,rfl,.nil⟩
def aiF(i:Nat)(a b:RE):RS:=λE o=>match slot o i with|.d1 ks ts=>a o λy=>b o λk=>∃j,T6 (frz k)=some j/\oK ks ts j=none/\ks.length<sizeLine/\ks.length=ts.length/\E.nx (o.set i (.d1 (ks++[j]) (ts++[frz y])))|_=>False
end
def sD{α:Type} : Θ->List α->Str->Option α
 |k::ks,t::ts,f=>if k=f then some t else sD ks ts f
 |_,_,_=>none
def Ds:Θ->Str->Θ
 |[],f=>[f]
 |k::ks,f=>if k=f then k::ks else k::Ds ks f
def vO{α:Type} : Θ->List α->Str->α->List α
 |k::ks,t::ts,f,v=>if k=f then v::ts else t::vO ks ts f v
 |_,ts,_,v=>ts++[v]
theorem W9{K:Frag}{F:Hp}{f:Str} : ∀{ks:Θ}{xs:Β}{ts:zg},bM K F xs ts->(∀t,sD ks ts f=some t->∃x,(ks.zip xs).lookup f=some x/\Rep K F x t)/\(sD ks ts f=none->(ks.zip xs).lookup f=none)
 |[],_,_,_=>⟨λ_ z=>(nomatch z),λ_=>rfl⟩
 |_::_,_,_,.nil=>⟨λ_ z=>(nomatch z),λ_=>rfl⟩
 |j::ks,_,_,.cons a b=>by
  obtain⟨i1,i2⟩:=W9 (f:=f) (ks:=ks) b;by_cases h:j=f
  .refine⟨λt z=>?_,λz=>?_⟩
   .unfold sD at z;rw[ZY h]at z;cases z;exact⟨_,by rw[zip_cons_cons,lookup_cons,h,beq_self_eq_true],a⟩
   .unfold sD at z;rw[ZY h]at z;cases z
  .have e:∀x(r:xz),((j,x)::r).lookup f=r.lookup f:=λx r=>by rw[lookup_cons,beq_false_of_ne (Ne.symm h)]
   refine⟨λt z=>?_,λz=>?_⟩
   .unfold sD at z;rw[ZZ h]at z;obtain⟨x,e1,r⟩:=i1 t z;exact⟨x,(e _ _).trans e1,r⟩
   .unfold sD at z;rw[ZZ h]at z;exact(e _ _).trans (i2 z)
theorem Ny{f:Str}{v:V} : ∀{ks:Θ}{xs:Β},ks.length=xs.length->sZ f v (ks.zip xs)=(Ds ks f).zip (vO ks xs f v)/\(Ds ks f).length=(vO ks xs f v).length
 |[],[],_=>⟨rfl,rfl⟩
 |k::ks,x::xs,l=>by
  obtain⟨i1,i2⟩:=Ny (f:=f) (v:=v) (ks:=ks) (xs:=xs) (Nat.succ.inj l);show(if k=f then(k,v)::ks.zip xs else(k,x)::sZ f v (ks.zip xs))=_/\_;unfold Ds vO;by_cases h:k=f
  .rw[ZY h,ZY h,ZY h];exact⟨rfl,l⟩
  .rw[ZZ h,ZZ h,ZZ h,i1];exact⟨rfl,ZH (· + 1) i2⟩
 |[],_::_,l=>by cases l
 |_::_,[],l=>by cases l
theorem bM.put{K:Frag}{F:Hp}{f:Str}{v:V}{t:T}(r:Rep K F v t):∀{ks:Θ}{xs:Β}{ts:zg},bM K F xs ts->bM K F (vO ks xs f v) (vO ks ts f t)
 |[],_,_,h=>h.app (.cons r .nil)
 |_::_,_,_,.nil=>.cons r .nil
 |k::ks,_,_,.cons a b=>by
  unfold vO;by_cases h:k=f
  .rw[ZY h,ZY h];exact .cons r b
  .rw[ZZ h,ZZ h];exact .cons a (bM.put r b)
abbrev SI:=Addr->Θ->zg->zg->(Θ->zg->Prop)->Prop
def ow(a dx b:Addr):Prop:=b=a\/b=dx
def oI(K:Frag)(S:SI):Sp:=λvs H Q _=>∃a dx C ks xs ts us as R,vs=.ref a::us/\H a=some (.ins C dx (ks.zip xs))/\H dx=some (.own a)/\ks.length=xs.length/\bM K (hd (ow a dx) H) xs ts/\bM K (hd (ow a dx) H) us as/\S C ks ts as R /\
 ∀H' dP eQ eM,R dP eM->z0 (hd (ow a dx) H) (hd (ow a dx) H')->H' a=some (.ins C dx (dP.zip eQ))->H' dx=some (.own a)->dP.length=eQ.length->bM K (hd (ow a dx) H') eQ eM->Q .non H'
def startI(n:Nat)(a dx C:Addr)(ks:Θ)(ts as:zg):zt:=.ob a dx C ks ts::start' (n-1) as
def FY(a dx:Addr):zz
 |0=>[a,dx]
 |_+1=>[]
def R3(a dx:Addr):Ow (FY a dx)=ow a dx:=funext λb=>propext ⟨(λh=>by
  obtain⟨i,z⟩:=h;cases i with
  |zero =>
   rcases YU.mp z with z|z
   .exact .inl z
   .exact .inr (YR.mp z)
  |succ i=>cases z),λz=>⟨0,by show b∈[a,dx];rcases z with rfl|rfl<;>simp⟩⟩
def SR.startI{H:Hp}{a dx C:Addr}{ks:Θ}{xs:Β}{ts as:zg}{us:Β}(ha:H a=some (.ins C dx (ks.zip xs)))(cr:H dx=some (.own a))(l:ks.length=xs.length)(r:bM K (hd (ow a dx) H) xs ts)(r2:bM K (hd (ow a dx) H) us as)(N:Θ)(hN:us.length+1<=N.length) :
  SR K (FY a dx) H (L2.start N (.ref a::us)) (L2.startI N.length a dx C ks ts as):=by
 have eO:=R3 a dx;refine⟨?_,λi x e=>?_,λi hi b hb=>?_,λi j b e1 e2=>?_⟩
 .unfold L2.startI start' L2.start;have:=r2.len;simp only[length_cons,aA,ak,aM];lia
 .rw[eO];unfold L2.startI at e;cases i with
  |zero =>
   cases e;exact⟨xs,rfl,rfl,ha,cr,l,r⟩
  |succ i =>
   rw[List.getElem?_cons_succ]at e;show Slo K _ _ _ [] x;unfold start' at e;unfold L2.start;rw[map_cons,cons_append,List.getElem?_cons_succ];by_cases hi:i<as.length
   .rw[aD (by simpa using hi),aq,aj hi]at e;cases e;obtain⟨v,e1,r1⟩:=r2.at_ (aj hi);rw[aD (by rwa[ak,r2.len]),aq,e1];exact⟨rfl,v,rfl,r1⟩
   .rw[aC (by simpa using hi),ak,X0]at e;by_cases hj:i-as.length<N.length-1-as.length
    .rw[ZY hj]at e;cases e;rfl
    .rw[ZZ hj]at e;cases e
 .unfold L2.startI at hi;cases i with
  |zero=>cases hi
  |succ i=>cases hb
 .cases i with
  |zero =>
   cases j with
   |zero=>rfl
   |succ j=>cases e2
  |succ i=>cases e1
def Fun.okI{x:Str}{N:Θ}{S:SI}(F:Fun K x qual st f fd)(sc:bK N ps (bF st))(len:∀C ks ts as R,S C ks ts as R->as.length+1=ps.length)(hn:ps.length<=N.length)
 (br:∀(af:Value)(A:Around)(outer:zI)(s:Shared)(H:Hp)(E:XK),dU k (A.deeper (envOfC qual (bF st) s.zs f af))->N.Nodup ->
   ∃r,sj (G7 cp P w K mg base N qual (bF st) f af A outer s H E).nox (dJ st) r/\∀a dx C ks ts as R,S C ks ts as R->r { nx:=λo=>∃dP eM,slot o 0=.ob a dx C dP eM/\R dP eM,rt:=λ_=>False } (startI N.length a dx C ks ts as)):bV P w K mg base cp (k+1) f fd ps (oI K S):=by
 refine F.ok sc (λvs H Q E h=>?_) λaf A outer s H vs Q E hr h=>?_
 .obtain⟨a,dx,C,ks,xs,ts,us,as,R,rfl,_,_,_,_,r2,hS,_⟩:=h;rw[length_cons,r2.len];exact len _ _ _ _ _ hS
 .obtain⟨a,dx,C,ks,xs,ts,us,as,R,rfl,ha,cr,l,r,r2,hS,q⟩:=h;obtain⟨rd,h1,h2⟩:=br af A outer s H E hr sc.nd;have s0:=SR.startI ha cr l r r2 N (by rwa[r2.len,len _ _ _ _ _ hS]);have eO:=R3 a dx;refine⟨_,h1,_,_,_,s0,h2 a dx C ks ts as R hS,⟨λown H' σ o rx E h=>?_,λ_ _ _ _ _ z=>z.elim,λ_ _ _ _ z=>z.elim,λ_ _ _ _ z=>z.elim,λ_ _ _ _ _ _ z=>z.elim⟩⟩;obtain⟨dP,eM,es,rx⟩:=rx;rw[eO]at E;obtain⟨u,_,eQ,e1,e2,e3,e4,e5,e6⟩:=h.val es (by intro z;cases z);have sub:z0 (hd (Ow own) H') (hd (ow a dx) H'):=jK (λb z=>.inl ⟨0,by rw[e2];rcases z with rfl|rfl<;>simp⟩) λ_ _ z=>z;exact q H' dP eQ eM rx (E.trans sub) e3 e4 e5 (e6.same sub)
section
variable{X:Cx}{e:Expr}{es:zh}{re:RE}{r:RA}{f:Str}{pos ai p:Pos}{Fm:Addr->Prop}
def Hk(Fm:Addr->Prop)(i:Nat)(f:Str):RE:=λo q=>match slot o i with|.ob _ _ C ks ts=>Fm C/\∃t,sD ks ts f=some t/\q (.fz t)|_=>False
def Z_(i:Nat){x:Str}(c:∀C,Fm C->Cls X.K C/\b_ X.K C f)(hN:n_X X i x:=by exact⟨rfl,rfl,xa,xa⟩)(hb:attributeBase (.Name x p) f X.env (eval (.Name x p) X.env)=eval (.Name x p) X.env:=by rfl):QE X (.Attribute (.Name x p) f pos) (Hk Fm i f):=(Wg (pv i hN) hb).imp λσ H Q hP=>by
 obtain⟨own,o,R,h,hr,k⟩:=hP;unfold Hk at hr;cases es:slot o i with
 |ob a dx C ks ts =>
  rw[es]at hr;obtain⟨u,e1,xs,e2,e3,e4,e5,l,r⟩:=h.val es (by intro z;cases z);cases e2;obtain⟨hf,t,e6,q⟩:=hr;obtain⟨v,e7,r7⟩:=(W9 r).1 t e6;exact⟨_,e1,a,C,dx,_,v,rfl,e4,(c C hf).1,(c C hf).2,e7,k H _ _ q (.refl _) (NR.fz r7)⟩
 |_=>rw[es]at hr;exact hr.elim
def G2(Fm:Addr->Prop)(i:Nat)(f:Str)(a:RE):RS:=λE o=>match slot o i with|.ob b dx C ks ts=>a o λy=>(Fm C/\ks.length<1000)/\E.nx (o.set i (.ob b dx C (Ds ks f) (vO ks ts f (frz y))))|_=>False
def pG(i:Nat){x:Str}(c:∀C,Fm C->Cls X.K C/\b_ X.K C f)(he:QE X e re)(hN:n_X X i x:=by exact⟨rfl,rfl,xa,xa⟩)(hs:swapsWith e (some (.Attribute (.Name x p) f aT)) pos.line X.env=pure false:=by rfl):QS X (.Assign [.Attribute (.Name x p) f aT] e pos) (G2 Fm i f re):=(SA (pv i hN) he hs).imp λD σ H hP=>by
 obtain⟨own,o,E,h,hr,L⟩:=hP;unfold G2 at hr;cases es:slot o i with
 |ob a dx C ks ts =>
  rw[es]at hr;obtain⟨u,e1,xs,e2,e3,e4,e5,l,r⟩:=h.val es (by intro z;cases z);cases e2;refine tQ.mk h hr λH1 v y q E1 r1=>⟨_,e1,a,C,dx,_,rfl,E1 _ _ e4,(c C q.1.1).1,(c C q.1.1).2,by rw[VY,<- l,UK];exact q.1.2,?_⟩;obtain⟨pz,pl⟩:=Ny (f:=f) (v:=v) l;rw[pz];have g4:dx≠a:=V_ e5 e4 (by intro z;cases z);obtain⟨h',S⟩:=(h.same E1).chg (jc es (by intro z;cases z)) (y:=.ob a dx C (Ds ks f) (vO ks ts f (frz y))) (H':=upd H1 a (.ins C dx ((Ds ks f).zip (vO ks xs f v)))) (λb u hb e=>(bZ λz=>hb (by rw[e3,z];simp)).trans e) (by
   rw[e1,zZ ⟨i,by rw[e3];simp⟩];exact⟨_,rfl,e3,cj,(bZ g4).trans (E1 _ _ e5),pl,bM.put r1 (r.same (bW E1))⟩)
  exact L.nx own _ σ _ q.2 ((bW E1).trans S) h'
 |_=>rw[es]at hr;exact hr.elim
def L7(Fm:Addr->Prop)(f:Str)(a:RE):RE:=λo q=>a o λx=>match frz x with|.ins C ks ts=>Fm C/\∃t,sD ks ts f=some t/\q (.fz t)|_=>False
def tu(c:∀C,Fm C->Cls X.K C/\b_ X.K C f)(he:QE X e re)(hb:qB X e f:=by rfl):QE X (.Attribute e f pos) (L7 Fm f re):=(Wg he hb).imp λσ H Q ⟨own,o,R,h,hr,k⟩=>tQ.mk h hr λH1 v x q E1 r1=>by
 revert r1 q
 generalize frz x=t;intro q r1;cases t<;>try exact q.elim
 obtain⟨a,dx,xs,rfl,e,d,l,r⟩:=r1.insI;obtain⟨hf,t,e6,q⟩:=q;obtain⟨v,e7,r7⟩:=(W9 r).1 t e6;exact⟨a,_,dx,_,v,rfl,(cW e).2,(c _ hf).1,(c _ hf).2,e7,k H1 _ _ q E1 (NR.fz r7)⟩
abbrev Iy(X:Cx)(k:Nat)(fa:Addr)(ps:Θ)(S:ST):Prop:=zv X cp k fa ps (mP X.K S)
def OkI.hid{P:Program}{w:World}{K:Frag}{mg:Str->Ψ}{base:Heap}{k:Nat}{fa:Addr}{ps:Θ}{sp:Sp}(G:OkI P w K mg base cp k fa ps sp):OkI P w K mg base cp k fa ps (ut sp):=by obtain⟨fd,F,b⟩:=G;exact⟨fd,F.hid,b⟩
def Mu{o:zt}{vs:Β}{E:XK}(h1:SR X.K own H1 σ o)(r1:bM X.K (hd (Ow own) H1) vs ts)(q:S ts R)(k:∀H' v x,R x->z0 H1 H'->NR X.K (Ow own) H1 H' v x->Q v H'):ut (mP X.K S) vs H1 Q E:=by
 refine⟨Ow own,h1.hid,ts,R,r1,q,λG v x rx E n a8=>?_⟩;have EH:z0 H1 (oS (Ow own) H1 G):=λb u e=>by
  by_cases z:Ow own b
  .rw[wU z];exact e
  .rw[mF z];exact E b u ((dI z).trans e)
 have EG:z0 G (oS (Ow own) H1 G):=λb u e=>by rw[mF λz=>by rw[a8 b z]at e;cases e];exact e
 refine k _ v x rx EH ?_;obtain⟨B,nb,s⟩:=n;have out:∀a∈B,¬Ow own a:=λa ha z=>(s.sole ha).ne (a8 a z);refine⟨B,λa ha=>by have:=nb a ha;rwa[dI (out a ha)]at this,s.same (jK (λb z=>?_) EG) EG⟩;rcases z with z|z
 .exact .inr (a8 b z)
 .exact .inl (.inr z)
def HR(C:Addr)(KS:Θ)(S:ST)(a:RE)(r:RA):RE:=λo q=>a o λx=>match frz x with|.ins C' ks ts=>(C'=C/\ks=KS)/\r o λas=>S (.ins C' ks ts::as) q|_=>False
theorem Jd{f:Str} : ∀{KS:Θ}{xs:Β},f∉KS->(KS.zip xs).lookup f=none
 |[],_,_=>rfl
 |_::_,[],_=>rfl
 |k::KS,x::xs,h=>by
  rw[zip_cons_cons,lookup_cons,beq_false_of_ne λ(z:f=k)=>h (by rw[z];exact aN ..)];exact Jd λz=>h (aH _ z)
def vG{o:Expr}{ro:RE}{fa C:Addr}{KS:Θ}{pl:Sem Bool}(he:QE X o ro)(c:Cls X.K C)(hm:Meth X.K C f fa)(G:Iy X k fa ps S)(ha:QA X (e::es) r)(hr:dU k X.A:=by exact dU.mono (by assumption) xa)(hk:f∉KS:=by decide +kernel)
 (ce:qo X e es:=by rfl)(be:qh X pos es:=by rfl)
 (ht:eval (.Call (.Attribute o f ai) (e::es) [] pos) X.env=(do
   let ov <- eval o X.env
   standAt ai.atName
   let(f,first) <- holding [ov] (getMethod ov f pl)
   callWith pos f first (backTo pos (starEach (e::es) X.env)) (backToKw pos (keywordEach [] X.env))):=by rfl) :
  QE X (.Call (.Attribute o f ai) (e::es) [] pos) (HR C KS S ro r):=(Xi (pl:=pl) he c hm (OkI.hid G) hr ha ce be ht).imp λσ H Q ⟨own,o,R,h,hr,k⟩=>tQ.mk h hr λH1 v x q E1 r1=>by
 revert r1 q
 generalize frz x=t;intro q r1;cases t<;>try exact q.elim
 obtain⟨a,dx,xs,rfl,e,d,l,r⟩:=r1.insI;obtain⟨⟨rfl,rfl⟩,q⟩:=q;refine⟨a,dx,_,rfl,(cW e).2,Jd hk,tQA.mk (h.same E1) q λH2 vs as q _ E2 r2=>?_⟩;exact Mu ((h.same E1).same E2) (.cons (r1.same (bW E2)) r2) q λH' v x rx E n=>k H' v x rx (E1.trans (E2.trans E)) (n.back (E1.trans E2))
def oM{o:Expr}{ro:RE}{fa C:Addr}{KS:Θ}{pl:Sem Bool}(he:QE X o ro)(c:Cls X.K C)(hm:Meth X.K C f fa)(G:Iy X k fa ps S)(hr:dU k X.A:=by exact dU.mono (by assumption) xa)(hk:f∉KS:=by decide +kernel)
 (ht:eval (.Call (.Attribute o f ai) [] [] pos) X.env=(do
   let ov <- eval o X.env
   standAt ai.atName
   let(f,first) <- holding [ov] (getMethod ov f pl)
   callWith pos f first (backTo pos (starEach [] X.env)) (backToKw pos (keywordEach [] X.env))):=by rfl) :
  QE X (.Call (.Attribute o f ai) [] [] pos) (HR C KS S ro iu):=(Tf (pl:=pl) he c hm (OkI.hid G) hr ht).imp λσ H Q ⟨own,o,R,h,hr,k⟩=>tQ.mk h hr λH1 v x q E1 r1=>by
 revert r1 q
 generalize frz x=t;intro q r1;cases t<;>try exact q.elim
 obtain⟨a,dx,xs,rfl,e,d,l,r⟩:=r1.insI;obtain⟨⟨rfl,rfl⟩,q⟩:=q;refine⟨a,dx,_,rfl,(cW e).2,Jd hk,?_⟩;exact Mu (E:=E0) (h.same E1) (.cons r1 .nil) q λH' v x rx E n=>k H' v x rx (E1.trans E) (n.back E1)
def Oy(C:Addr)(S:SI)(r:RA):RE:=λo q=>r o λas=>S C [] [] as λks ts=>q (.fz (.ins C ks ts))
theorem yw{x:Str}{fa C:Addr}{S:SI}(M:Mk X.K C fa)(G:zv X cp k fa ps (oI X.K S))(hm:X.mg x=some (.ref C))(ha:QA X (e::es) r)(hr:dU (k+1) X.A:=by exact dU.mono (by assumption) xa)(hg:Gl X x:=by rfl)(ci:qk x:=by decide)
 (he:qo X e es:=by rfl)(be:qh X pos es:=by rfl):QE X (.Call (.Name x p) (e::es) [] pos) (Oy C S r):=(Xp M (OkI.hid G) hr hg hm ha ci he be).imp λσ H Q ⟨own,o,R,h,hr,k⟩=>tQA.mk h hr λH1 vs as q _ E1 r1 a dx na nd ne=>by
 have h1:=h.same E1;have E2:z0 H1 (upd (upd H1 dx (.own a)) a (.ins C dx [])):=(z0.upd nd).trans (z0.upd ((bZ (Ne.symm ne)).trans na));have h2:=h1.same E2;have oa:¬Ow own a:=λz=>(h1.sole z).ne na;have od:¬Ow own dx:=λz=>(h1.sole z).ne nd;refine⟨Ow own,h2.hid,a,dx,C,[],[],[],vs,as,_,rfl,(dI oa).trans cj,(dI od).trans ((bZ ne).trans cj),rfl,.nil,r1.same (λb u e=>?_),q,λG dP eQ eM rx E ea ed l r a8=>⟨rfl,?_⟩⟩
 .obtain⟨n,e⟩:=cW e;have n2:¬ow a dx b:=λz=>by rcases z with rfl|rfl<;>rw[e]at *<;>contradiction
  rw[dI n2,dI n];exact E2 _ _ e
 .have EG:z0 G (oS (Ow own) (upd (upd H1 dx (.own a)) a (.ins C dx [])) G):=λb u e=>by rw[mF λz=>by rw[a8 b z]at e;cases e];exact e
  refine k _ _ _ rx (E1.trans λb u e=>?_) (NR.fz (.ins (dx:=dx) (ks:=dP) (xs:=eQ) ?_ ?_ l (r.same λb u e=>?_)))
  .by_cases z:Ow own b
   .rw[wU z];exact E2 _ _ e
   .have n2:¬ow a dx b:=λz=>by rcases z with rfl|rfl<;>rw[e]at *<;>contradiction
    exact EG _ _ (cW (E b u ((dI n2).trans ((dI z).trans (E2 _ _ e))))).2
  .rw[dI oa];exact EG _ _ ea
  .rw[dI od];exact EG _ _ ed
  .have e':=(cW e).2;rw[dI λz=>by rw[a8 b z]at e';cases e'];exact EG _ _ e'
def G1(i:Nat)(S:SI)(r:RA):RS:=λE o=>match slot o i with|.ob a dx C ks ts=>r o λas=>S C ks ts as λdP eM=>E.nx (o.set i (.ob a dx C dP eM))|_=>False
def CG(i:Nat){x y m:Str}{p2:Pos}{fa B:Addr}{S:SI}{pl:Sem Bool}(c:Bm X.K B m fa)(G:zv X cp k fa ps (oI X.K S))(hm:X.mg x=some (.ref B))(ha:QA X es r)(hr:dU k X.A:=by exact dU.mono (by assumption) xa)(hg:Gl X x:=by rfl)
 (hN:n_X X i y:=by exact⟨rfl,rfl,xa,xa⟩)(ci:qk x:=by decide)
 (ce:starEach (.Name y p2::es) X.env=(false,eval (.Name y p2) X.env)::starEach es X.env:=by rfl)(be:qh X ah es:=by rfl)
 (ht:eval (.Call (.Attribute (.Name x p) m ai) (.Name y p2::es) [] ah) X.env=(do
   let ov <- eval (.Name x p) X.env
   standAt ai.atName
   let(f,first) <- holding [ov] (getMethod ov m pl)
   callWith ah f first (backTo ah (starEach (.Name y p2::es) X.env)) (backToKw ah (keywordEach [] X.env))):=by rfl)
 (hs:swapsWith (.Call (.Attribute (.Name x p) m ai) (.Name y p2::es) [] ah) none pos.line X.env=pure false:=by rfl) :
  QS X (.Expr (.Call (.Attribute (.Name x p) m ai) (.Name y p2::es) [] ah) pos) (G1 i S r):=(Cu (Vx (pl:=pl) c (OkI.hid G) hr hg hm (eX (pv i hN) ha ce) ci ce be ht) hs).imp λD σ H hP=>by
 obtain⟨own,o,E,h,hr,L⟩:=hP;unfold G1 at hr;cases es:slot o i with
 |ob a dx C ks ts =>
  rw[es]at hr;obtain⟨u,e1,xs,e2,e3,e4,e5,l,r⟩:=h.val es (by intro z;cases z);cases e2;refine⟨_,e1,tQA.mk h hr λH1 vs as q _ E1 r1=>?_⟩;have h1:=h.same E1;have sub:∀b,ow a dx b->b∈own i:=λb z=>by rw[e3];rcases z with rfl|rfl<;>simp
  have bus:∀b,b∈own i->ow a dx b:=λb z=>by
   rw[e3]at z;rcases YU.mp z with z|z
   .exact .inl z
   .exact .inr (YR.mp z)
  have hid:An H1 (λb=>Ow own b/\¬ow a dx b):=⟨λb z=>h1.sole z.1,λb C d f ⟨⟨j,z⟩,n⟩ e=>⟨⟨j,(h1.mate z).1 C d f e⟩,λy=>n (bus b ((h1.dis j i d ((h1.mate z).1 C d f e) (sub d y)) ▸ z))⟩,λb x ⟨⟨j,z⟩,n⟩ e=>⟨⟨j,(h1.mate z).2 x e⟩,λy=>n (bus b ((h1.dis j i x ((h1.mate z).2 x e) (sub x y)) ▸ z))⟩⟩;have u7:∀H':Hp,hd (ow a dx) (hd (λb=>Ow own b/\¬ow a dx b) H')=hd (Ow own) H':=λH'=>funext λb=>by
   by_cases z:ow a dx b
   .rw[uQ z,uQ ⟨i,sub b z⟩]
   .rw[dI z];by_cases y:Ow own b
    .rw[uQ (⟨y,z⟩ : Ow own b/\¬ow a dx b),uQ y]
    .rw[dI (λw=>y w.1),dI y]
  have na:¬(Ow own a/\¬ow a dx a):=λz=>z.2 (.inl rfl);have nd:¬(Ow own dx/\¬ow a dx dx):=λz=>z.2 (.inr rfl);refine⟨_,hid,a,dx,C,ks,xs,ts,vs,as,_,rfl,(dI na).trans (E1 _ _ e4),(dI nd).trans (E1 _ _ e5),l,by rw[u7];exact r.same (bW E1),by rw[u7];exact r1,q,λG dP eQ eM rx EE ea ed l' r' a8=>?_⟩;rw[u7]at EE;have fA:∀{b:Addr}{u:HO},G b=some u->oS (λb=>Ow own b/\¬ow a dx b) H1 G b=some u:=λ{b u}e=>(mF λz=>by rw[a8 b z]at e;cases e).trans e;obtain⟨h',S'⟩:=h1.chg (jc es (by intro z;cases z)) (y:=.ob a dx C dP eM) (H':=oS (λb=>Ow own b/\¬ow a dx b) H1 G) (λb u hb e=>by
   by_cases z:Ow own b
   .rw[wU ⟨z,λy=>hb (sub b y)⟩];exact e
   .exact fA (cW (EE b u ((dI z).trans e))).2) (by
   rw[e1];refine⟨eQ,rfl,e3,fA ea,fA ed,l',r'.same λb u e=>?_⟩;obtain⟨n1,e⟩:=cW e;rw[dI λz=>by rw[a8 b ⟨z,n1⟩]at e;cases e];exact fA e)
  exact L.nx own _ σ _ rx ((bW E1).trans S') h'
 |_=>rw[es]at hr;exact hr.elim
end
section
variable{X:Cx}{a b c e:Expr}{ra rb rc re:RE}{pos p:Pos}
def oX{x:Str}{A:Addr}{i j:Int}{pos:Pos}(hm:X.mg x=some (.ref A))(kt:∀H,SqT X.K H A [.int i,.int j])(hg:Gl X x:=by rfl)(hd:qk x:=by decide):QE X (.Name x pos) (rC (.tup [.int i,.int j])):=qC (UG hg hm hd) λF=>.tup (kt F) (.cons (.int _) (.cons (.int _) .nil))
def QE.any{Fm:Addr->Prop}{r:Addr->RE}(h:∀C,Fm C->QE X e (r C)):QE X e (λo q=>∃C,Fm C/\r C o q):=λaa s σ H Q I ⟨own,o,R,hs,⟨C,hC,hr⟩,k⟩=>h C hC aa s σ H Q I ⟨own,o,R,hs,hr,k⟩
def nR{rc:RT}{i0:Nat}{y0:Str}{py cS:Pos}(sc:Scope)(N N' xs:Θ)(hi:QI X tg iter ri)(hg:∀{C s₀ H₀ ex pn},QG (X.compG N' scope xs C s₀ H₀ ex pn) xs.length tg g)(ht:∀{C s₀ H₀ ex pn},t5 (X.compG N' scope xs C s₀ H₀ ex pn) a9 rc)(he:∀{C s₀ H₀ ex pn},QE (X.compG N' scope xs C s₀ H₀ ex pn) bv re)(g9:PG X (.Name y0 py) (qF i0))
 (eB:X.env.scope=sc:=by rfl)(eK:X.N=N:=by rfl)(hc:X.calm:=by rfl)(hk:scope.kind=.function:=by rfl)(h:CK sc scope N N' xs:=by decide +kernel)(gS:swapsWith (.ListComp bv [⟨tg,iter,a9,0⟩] scope pos) (some (.Name y0 py)) cS.line X.env=pure true:=by rfl)(hs:qV X iter:=by intro _;rfl) :
  QS X (.Assign [.Name y0 py] (.ListComp bv [⟨tg,iter,a9,0⟩] scope pos) cS) (E_ i0 (YQ ri xs.length g rc re)):=(HK (gt:=sr X.K xs.length g) (tc:=tQT X.K rc) (te:=tQ X.K re) sc N N' xs hi hg ht he g9 eB eK hc hk h gS hs).imp λD σ H ⟨own,o,E,h,hr,L⟩=>Vo ⟨own,o,_,h,hr,λH' v y q S n=>by
 obtain⟨ag,h',S'⟩:=h.putA S (n.frz λb z=>(h.sole z).ne) i0;exact L.nx ag H' _ _ q S' h'⟩
def Nn(i j:Nat)(r:RA):RS:=λE o=>r o λts=>match ts with|[t,u]=>E.nx ((o.set i (.fz t)).set j (.fz u))|_=>False
def SH(i j:Nat){x y:Str}{px py pt:Pos}{kt k2 pt2}(hc:X.calm)(hN:X.N.Nodup)(ll:i≠j)(ha:QA X [a,b] r)(hi:X.N[i]?=some x:=by rfl)(hj:X.N[j]?=some y:=by rfl)
 (hx:X.env.scope.names.lookup x=some .local:=by rfl)(hy:X.env.scope.names.lookup y=some .local:=by rfl)
 (hw:swappedStores [.Tuple [.Name x px,.Name y py] kt pt] (.Tuple [a,b] k2 pt2) X.env=pure (some [x,y]):=by rfl)
 (hs:swapsWithSole [.Tuple [.Name x px,.Name y py] kt pt] (.Tuple [a,b] k2 pt2) pos.line X.env=pure false:=by rfl) :
  QS X (.Assign [.Tuple [.Name x px,.Name y py] kt pt] (.Tuple [a,b] k2 pt2) pos) (Nn i j r):=(Sf hc hN hi hj ll hx hy ha hw hs).imp λD σ H ⟨own,o,E,h,hr,L⟩=>⟨own,o,_,h,hr,λH1 vs ts q _ E1 r1=>by
 match ts,q with
 |[t,u],q =>
  obtain⟨v,w,rfl,rv,rw_⟩:=r1.two;refine⟨v,w,rfl,?_⟩;obtain⟨ag,h',go⟩:=(h.same E1).setF rv (X1 i);obtain⟨bS,h2,S2⟩:=h'.putA (.refl _) (NR.fz (rw_.same go.same)) j;exact L.nx bS H1 _ _ q ((bW E1).trans (go.same.trans S2)) h2⟩
theorem Lw{α:Type} : ∀{l:List α},l.Nodup->∀{i j:Nat}{x:α},l[i]?=some x->l[j]?=some x->i=j
 |[],_,_,_,_,e,_=>by cases e
 |y::l,nd,i,j,x,e1,e2=>by
  obtain⟨n1,n2⟩:=List.nodup_cons.mp nd;cases i with
  |zero =>
   cases j with
   |zero=>rfl
   |succ j=>cases e1;exact absurd (aB (by simpa using e2)) n1
  |succ i =>
   cases j with
   |zero=>cases e2;exact absurd (aB (by simpa using e1)) n1
   |succ j=>exact ZH (· + 1) (Lw n2 (by simpa using e1) (by simpa using e2))
def SR.l2{K:Frag}{own:zz}{H:Hp}{σ:L2.St}{o:zt}(h:SR K own H σ o){i:Nat}{bE:List zg}(e:slot o i=.l2 bE):∃l bs,σ[i]?=some (some (.ref l))/\own i=l::bs/\(l::bs).Nodup/\H l=some (.lst (bs.map V.ref))/\bs.length=bE.length/\∀(i:Nat)b ts,bs[i]?=some b->bE[i]?=some ts->∃xs,H b=some (.lst xs)/\bM K (hd (Ow own) H) xs ts:=by
 obtain⟨u,e1,l,bs,e2,e3,nd,e4,ln,r⟩:=h.val e (by intro z;cases z);cases e2;exact⟨l,bs,e1,e3,nd,e4,ln,r⟩
def SR.chg2{o:zt}(h:SR K own H σ o){i:Nat}{bE:List zg}(e:slot o i=.l2 bE){l b:Addr}{bs:Φ}{us:zg}(eσ:σ[i]?=some (some (.ref l)))(eo:own i=l::bs)(nd:(l::bs).Nodup)(e4:H l=some (.lst (bs.map V.ref)))(ln:bs.length=bE.length)(r:∀(i:Nat)b ts,bs[i]?=some b->bE[i]?=some ts->∃xs,H b=some (.lst xs)/\bM K (hd (Ow own) H) xs ts)(eb:bs[n]?=some b)(ry:bM K (hd (Ow own) H) ys us) :
  SR K own (upd H b (.lst ys)) σ (o.set i (.l2 (bE.set n us)))/\z0 (hd (Ow own) H) (hd (Ow own) (upd H b (.lst ys))):=by
 have bm:=aB eb;obtain⟨nl,nd'⟩:=List.nodup_cons.mp nd;refine h.chg (jc e (by intro z;cases z)) (λc u hc e=>(bZ λz=>hc (by rw[eo,z];exact aH _ bm)).trans e) ?_;rw[eσ,zZ ⟨i,by rw[eo];exact aH _ bm⟩];refine⟨l,bs,rfl,eo,nd,(bZ λ(z:l=b)=>nl (by rwa[z])).trans e4,by rw[VZ];exact ln,λk c ts e1 e2=>?_⟩;by_cases z:k=n
 .subst z;rw[eb]at e1;cases e1;rw[UZ (ln ▸ (ao.mp eb).1)]at e2;cases e2;exact⟨ys,cj,ry⟩
 .rw[Up (Ne.symm z)]at e2;obtain⟨xs,q,rx⟩:=r k c ts e1 e2;refine⟨xs,(bZ λy=>?_).trans q,rx⟩;have h1:=(ao.mp e1).1;have h2:=(ao.mp eb).1;exact z (Lw nd' e1 (by rw[eb,y]))
def TC{bs:Φ}{j:Int}{c:Addr}(e:pe bs j=some c):pe (bs.map V.ref) j=some (.ref c):=by
 have:pe (bs.map V.ref) j=(pe bs j).map V.ref:=by unfold pe;rw[ak];cases pE bs.length j<;>simp
 rw[this,e];rfl
def aiG(i:Nat)(a b:RE):RE:=λo q=>match slot o i with
 |.l2 bE=>a o λx=>(match frz x with|.int j=>∃ts,n5 bE j=some ts/\b o λy=>(match frz y with|.int m=>∃t,n5 ts m=some t/\q (.fz t)|_=>False)|_=>False)
 |_=>False
def GS(i:Nat)(a b:RE):RS:=λE o=>match slot o i with
 |.l2 bE=>a o λx=>(match frz x with|.int j=>∃n ts,pE bE.length j=some n/\bE[n]?=some ts/\ts.length<sizeLine/\b o λy=>E.nx (o.set i (.l2 (bE.set n (ts++[frz y]))))|_=>False)
 |_=>False
def KO{β:Type}{xs:List α}{ys:List β}{j:Int}{y:β}(l:xs.length=ys.length)(e:pE ys.length j=some n)(ey:ys[n]?=some y):∃x,xs[n]?=some x/\pe xs j=some x:=by
 have hn:n<xs.length:=l ▸ (ao.mp ey).1;exact⟨xs[n],aj hn,by unfold pe;rw[l,e];exact aj hn⟩
def Yk(i:Nat){x:Str}{ai p2:Pos}(ha:QE X a ra)(he:QE X e re)(hN:n_X X i x:=by exact⟨rfl,rfl,xa,xa⟩)(hs1:Cz a:=by exact λ_ _=>rfl)
 (hb:attributeBase (.Subscript (.Name x p) a p2) "append" X.env (eval (.Subscript (.Name x p) a p2) X.env)=eval (.Subscript (.Name x p) a p2) X.env:=by rfl)
 (hf:qr X ah e:=by rfl)
 (hl:zk ai ah:=by rfl)(ce:qo X e []:=by rfl)(hp:qh X ah []:=by rfl)
 (hs:swapsWith (.Call (.Attribute (.Subscript (.Name x p) a p2) "append" ai) [e] [] ah) none pos.line X.env=pure false:=by rfl) :
  QS X (.Expr (.Call (.Attribute (.Subscript (.Name x p) a p2) "append" ai) [e] [] ah) pos) (GS i ra re):=(Cu (WW (Ws Jq (pv i hN) ha hs1) (eX he pQ ce) hb hf hl ce hp) hs).imp λD σ H hP=>by
 obtain⟨own,o,E,h,hr,L⟩:=hP;unfold GS at hr;cases es:slot o i with
 |l2 bE =>
  rw[es]at hr;obtain⟨l,bs,e1,e3,nd,e4,ln,r⟩:=h.l2 es;refine⟨_,e1,tQ.mk h hr λH1 v x q E1 r1=>?_⟩
  revert r1 q
  generalize frz x=t;intro q r1;cases t<;>try exact q.elim
  cases r1;obtain⟨n,ts,en,et,sz,q⟩:=q;obtain⟨c,ec,ei⟩:=KO (xs:=bs) ln en et;obtain⟨xs,eq,rx⟩:=r n c ts ec et;refine⟨l,bs.map V.ref,_,.ref c,rfl,rfl,.of (E1 _ _ e4),TC ei,c,xs,rfl,E1 _ _ eq,tQ.mk (h.same E1) q λH2 w y q E2 r2=>?_⟩;have c9:=E1.trans E2;refine⟨w,xs,rfl,c9 _ _ eq,by rw[rx.len];exact sz,?_⟩;obtain⟨h',S⟩:=(h.same c9).chg2 es e1 e3 nd (c9 _ _ e4) ln (λi b ts a c=>let⟨xs,p,q⟩:=r i b ts a c;⟨xs,c9 _ _ p,q.same (bW c9)⟩) ec ((rx.same (bW c9)).app (.cons r2 .nil));exact L.nx own _ σ _ q ((bW c9).trans S) h'
 |_=>rw[es]at hr;exact hr.elim
def NM:qA
 |.str i,.str j,q=>q (.fz (.bl (!decide (j.cps.toList<i.cps.toList))))
 |_,_,_=>False
def W7:GO X (compareOp .LtE) NM:=TD.imp λx y H Q hP=>by
 obtain⟨S,t,u,R,_,hx,hy,hg,k⟩:=hP;cases hx<;>try exact hg.elim
 cases hy<;>try exact hg.elim
 exact⟨_,_,rfl,rfl,k H _ _ hg (.refl _) (NR.fz (.bl _))⟩
def Yb:GC X (.builtin "len") (g1 L4):=.one Lb λS t x H Q R rx hg k=>by
 cases t<;>try exact hg.elim
 cases rx;exact⟨_,rfl,hg.1,k H _ _ hg.2 (.refl _) (NR.fz (.int _))⟩
def My(a:RE):RI:=λo q=>a o λx=>match frz x with|.str s=>q (s.cps.toList.map λc=>.str ⟨#[c]⟩)|_=>False
def SU(he:QE X e re):QI X tg e (My re):=(P2 he).imp λσ H Q ⟨own,o,R,h,hr,k⟩=>tQ.mk h hr λH1 v x q E1 r1=>by
 revert r1 q
 generalize frz x=t;intro q r1;cases t<;>try exact q.elim
 cases r1;refine⟨_,rfl,k H1 _ _ q E1 λS H2 i _ SF=>⟨λhi=>show i=_ by simpa using hi,λt ht=>?_⟩⟩;rw[aq]at ht;cases z:(‹Str›.cps.toList)[i]? with
 |none=>rw[z]at ht;cases ht
 |some c =>
  rw[z]at ht;cases ht;refine⟨show i<_ by simpa using(ao.mp z).1,?_⟩;rintro x H3 ⟨rfl,c',e',rfl⟩;rw[<- Array.getElem?_toList,z]at e';cases e';exact⟨.refl _,.str _⟩
end
abbrev HG:=qS
section
variable{α β:Type}{g:HG}{b:RS}{E:DT}{o:zt}
theorem R0(h:α->T)(l:List α)(J:List α->zt->Prop)(st:∀as a bs o,l=as++a::bs->J as o->g (h a) o λo'=>b { E with nx:=J (as++[a]),ct:=J (as++[a]),bk:=E.nx } o')(bg:∀o,J l o->E.nx o):∀(bs as:List α)(o:zt),l=as++bs->J as o->v7 g b E (bs.map h) o
 |[],as,o,e,j=>bg o (by rw[append_nil]at e;rwa[e])
 |a::bs,as,o,e,j=>⟨J (as++[a]),λo k=>R0 h l J st bg bs (as++[a]) o (by rw[e];simp) k,st as a bs o e j⟩
def jq(h:α->T)(l:List α)(J:List α->zt->Prop)(j:J [] o)(st:∀as a bs o,l=as++a::bs->J as o->g (h a) o λo'=>b { E with nx:=J (as++[a]),ct:=J (as++[a]),bk:=E.nx } o')(bg:∀o,J l o->E.nx o):v7 g b E (l.map h) o:=R0 h l J st bg l [] o rfl j
theorem Jr(J:Nat->zt->Prop):∀(xs:zg)(k:Nat){o:zt},J k o->(∀i t o,xs[i]?=some t->J (k+i) o->g t o λo'=>b { E with nx:=J (k+i+1),ct:=J (k+i+1),bk:=E.nx } o')->(∀o,J (k+xs.length) o->E.nx o)->v7 g b E xs o
 |[],_,o,j,_,bg=>bg o j
 |t::ts,k,o,j,st,bg=>⟨J (k+1),λo z=>Jr J ts (k+1) z (λi t o e z=>by
   have:=st (i+1) t o (by simpa using e) (by rw[show k+(i+1)=k+1+i by lia];exact z);rw[show k+(i+1)+1=k+1+i+1 by lia]at this;exact this) (λo z=>bg o (by rw[length_cons,show k+(ts.length+1)=k+1+ts.length by lia];exact z)),st 0 t o rfl j⟩
def oF(J:Nat->zt->Prop)(j:J 0 o)(st:∀k o,k<n->J k o->g (.int (k:Nat)) o λo'=>b { E with nx:=J (k+1),ct:=J (k+1),bk:=E.nx } o')(bg:∀o,J n o->E.nx o):v7 g b E (rng 0 n) o:=by
 refine Jr J (rng 0 n) 0 j (λi t o e z=>?_) λo z=>bg o (by rw[rng,ak,W1,Nat.zero_add]at z;exact z);unfold rng at e;rw[aq]at e;by_cases hi:i<n
 .rw[UH hi]at e;cases e;rw[Nat.zero_add]at z ⊢;have:=st i o hi z;show g (.int (0+((i:Nat):Int))) o _;rw[show(0:Int)+((i:Nat):Int)=((i:Nat):Int)by exact Int.zero_add _];exact this
 .rw[aL (by simpa using hi)]at e;cases e
def Ia(h:α->T)(l:List α)(J:Nat->zt->Prop)(j:J 0 o)(st:∀k a o,l[k]?=some a->J k o->g (.tup [.int (k:Nat),h a]) o λo'=>b { E with nx:=J (k+1),ct:=J (k+1),bk:=E.nx } o')(bg:∀o,J l.length o->E.nx o):v7 g b E (wz (l.map h)) o:=by
 refine Jr J (wz (l.map h)) 0 j (λi t o e z=>?_) λo z=>bg o (by rw[wz,ak,length_zipIdx,ak,Nat.zero_add]at z;exact z);unfold wz at e;rw[aq]at e;by_cases hi:i<l.length
 .rw[aj (by simpa using hi),List.getElem_zipIdx,getElem_map]at e;cases e;rw[Nat.zero_add]at z ⊢;have:=st i _ o (aj hi) z;exact this
 .rw[aL (by simpa using hi)]at e;cases e
variable{c:RT}{e:RE}{q:zg->Prop}
theorem comp_map(h:α->T)(f:α->T):∀(l:List α){q:zg->Prop},(∀a∈l,∀(N:T->Prop)(M:Prop),N (f a)->g (h a) o λo'=>c o' λb=>sw b (e o' λy=>N (frz y)) M)->q (l.map f)->iw g c e o (l.map h) q
 |[],_,_,k=>k
 |a::l,q,st,k=>⟨λy=>y=f a,False,λy z=>comp_map h f l (λa ha=>st a (aH _ ha)) (z ▸ k),False.elim,st a (aN ..) (λy=>y=f a) False rfl⟩
theorem uT(h:α->T)(p:α->Bool)(f:α->T):∀(l:List α){q:zg->Prop},(∀a∈l,∀(N:T->Prop)(M:Prop),(p a=true->N (f a))->(p a=false->M)->g (h a) o λo'=>c o' λb=>sw b (e o' λy=>N (frz y)) M)->q ((l.filter p).map f)->iw g c e o (l.map h) q
 |[],_,_,k=>k
 |a::l,q,st,k=>⟨λy=>y=f a/\p a,p a=false,λy z=>uT h p f l (λa ha=>st a (aH _ ha)) (by rw[List.filter_cons_of_pos z.2]at k;exact z.1 ▸ k),λz=>uT h p f l (λa ha=>st a (aH _ ha)) (by rw[List.filter_cons_of_neg (by rw[z];decide)]at k;exact k),st a (aN ..) (λy=>y=f a/\p a) (p a=false) (λz=>⟨rfl,z⟩) id⟩
inductive Sv(R:α->T->Prop):List α->zg->Prop
 |nil:Sv R [] []
 |cons {a:α}{t:T}{l:List α}{ts:zg} : R a t->Sv R l ts->Sv R (a::l) (t::ts)
theorem Fq(h:α->T)(R:α->T->Prop):∀(l:List α){q:zg->Prop},(∀a∈l,∀(N:T->Prop)(M:Prop),(∀t,R a t->N t)->g (h a) o λo'=>c o' λb=>sw b (e o' λy=>N (frz y)) M)->(∀ts,Sv R l ts->q ts)->iw g c e o (l.map h) q
 |[],_,_,k=>k [] .nil
 |a::l,q,st,k=>⟨R a,False,λy z=>Fq h R l (λa ha=>st a (aH _ ha)) λts t=>k _ (.cons z t),False.elim,st a (aN ..) (R a) False λ_ z=>z⟩
def QJ(f:Nat->T)(n:Nat)(st:∀k,k<n->∀(N:T->Prop)(M:Prop),N (f k)->g (.int (k:Nat)) o λo'=>c o' λb=>sw b (e o' λy=>N (frz y)) M)(k:q ((range n).map f)):iw g c e o (rng 0 n) q:=by
 refine comp_map (λk:Nat=>.int (0+k)) f (range n) (λa ha N M hN=>?_) k;have:=st a (List.mem_range.mp ha) N M hN;show g (.int (0+((a:Nat):Int))) o _;rw[show(0:Int)+((a:Nat):Int)=((a:Nat):Int)by exact Int.zero_add _];exact this
def zip_map{α β:Type}(h:α->T)(k:β->T)(xs:List α)(ys:List β):Fx (xs.map h) (ys.map k)=(xs.zip ys).map λp=>.tup [h p.1,k p.2]:=by
 unfold Fx;rw[List.zip_map,WU]
 rfl
def Xu{α:Type}(h:α->T)(xs:List α):wz (xs.map h)=xs.zipIdx.map λp=>.tup [.int (p.2:Nat),h p.1]:=by
 unfold wz;rw[List.zipIdx_map,WU]
 rfl
end
def JT(ks:xk)(j:nS):Bool:=ks.any λk=>decide (k=j)
def r8(ks:xk)(j:nS):xk:=if JT ks j=true then ks else ks++[j]
def pw(ks:xk)(ts:List α)(j:nS)(t:α):List α:=if JT ks j=true then ks.zipWith (λk x=>if k=j then t else x) ts else ts++[t]
def Vm{j:nS}(l:ks.length=xs.length):putK (ks.zip xs) j v=(r8 ks j).zip (pw ks xs j v)/\(r8 ks j).length=(pw ks xs j v).length:=by
 have any:∀{ks:xk}{xs:Β},ks.length=xs.length->((ks.zip xs).any λkv=>decide (kv.1=j))=JT ks j:=λ{ks}=>by
  induction ks with
  |nil=>intro xs _;rfl
  |cons k ks ih =>
   intro xs l;cases xs with
   |nil=>cases l
   |cons x xs=>rw[zip_cons_cons,any_cons,ih (Nat.succ.inj l)];rfl
 unfold putK r8 pw;rw[any l];by_cases h:JT ks j
 .rw[ZY h,ZY h,ZY h];refine⟨?_,by rw[List.length_zipWith,l,UK]⟩
  clear any h
  induction ks generalizing xs with
  |nil=>rfl
  |cons k ks ih =>
   cases xs with
   |nil=>cases l
   |cons x xs =>
    rw[zip_cons_cons,map_cons,ih (Nat.succ.inj l),zipWith_cons_cons,zip_cons_cons];by_cases h:k=j
    .rw[ZY h,ZY h]
    .rw[ZZ h,ZZ h]
 .rw[ZZ h,ZZ h,ZZ h];exact⟨by rw[List.zip_append l];rfl,by simp[l]⟩
def bM.kp{F:Hp}{j:nS}(r:Rep K F v t)(h:bM K F xs ts):bM K F (pw ks xs j v) (pw ks ts j t):=by
 unfold pw;by_cases z:JT ks j
 .rw[ZY z,ZY z]
  clear z
  induction ks generalizing xs ts with
  |nil=>exact .nil
  |cons k ks ih =>
   cases h with
   |nil=>exact .nil
   |cons a b =>
    rw[zipWith_cons_cons,zipWith_cons_cons];refine .cons ?_ (ih b);by_cases y:k=j
    .rw[ZY y,ZY y];exact r
    .rw[ZZ y,ZZ y];exact a
 .rw[ZZ z,ZZ z];exact h.app (.cons r .nil)
section
variable{X:Cx}{a b c e:Expr}{ra rb rc re:RE}{pos p:Pos}
def Ic(i:Nat)(a b:RE):RS:=λE o=>match slot o i with|.d1 ks ts=>a o λy=>b o λk=>∃j,T6 (frz k)=some j/\ks.length<sizeLine/\E.nx (o.set i (.d1 (r8 ks j) (pw ks ts j (frz y))))|_=>False
def SR.d1{K:Frag}{own:zz}{H:Hp}{σ:L2.St}{o:zt}(h:SR K own H σ o){i:Nat}{ks:xk}{ts:zg}(e:slot o i=.d1 ks ts):∃l xs,σ[i]?=some (some (.ref l))/\own i=[l]/\H l=some (.dK (ks.zip xs))/\ks.length=xs.length/\bM K (hd (Ow own) H) xs ts:=by
 obtain⟨u,e1,l,xs,e2,e3,e4,r⟩:=h.val e (by intro z;cases z);cases e2;exact⟨l,xs,e1,e3,e4,r⟩
def Km(i:Nat){x:Str}(hu:X.A.units+1<cLine)(he:QE X e re)(hb:QE X b rb)(hN:n_X X i x:=by exact⟨rfl,rfl,xa,xa⟩)
 (hs:swapsWith e (some (.Subscript (.Name x p) b aT)) pos.line X.env=pure false:=by rfl):QS X (.Assign [.Subscript (.Name x p) b aT] e pos) (Ic i re rb):=(Yu hu (pv i hN) hb he hs).imp λD σ H hP=>by
 obtain⟨own,o,E,h,hr,L⟩:=hP;unfold Ic at hr;cases es:slot o i with
 |d1 ks ts =>
  rw[es]at hr;obtain⟨l,xs,e1,e3,e4,ln,r⟩:=h.d1 es;refine tQ.mk h hr λH1 v y q E1 r1=>⟨_,e1,tQ.mk (h.same E1) q λH2 w z q E2 r2=>?_⟩;obtain⟨j,ek,sz,q⟩:=q;have c9:=E1.trans E2;cases JN r2 ek;obtain⟨pk,pl⟩:=Vm (j:=j) (v:=v) ln;have lz:(ks.zip xs).length<sizeLine:=by rw[VY,<- ln,UK];exact sz
  refine⟨l,_,rfl,.inl ⟨_,j,c9 _ _ e4,rfl,lz,rfl⟩,?_⟩;rw[pk];obtain⟨h',S⟩:=(h.same c9).chg (jc es (by intro z;cases z)) (y:=.d1 (r8 ks j) (pw ks ts j (frz y))) (H':=upd H2 l (.dK ((r8 ks j).zip (pw ks xs j v)))) (λb u hb e=>(bZ λz=>hb (by rw[e3,z];simp)).trans e) (by
   rw[e1,zZ ⟨i,by rw[e3];simp⟩];exact⟨l,_,rfl,e3,cj,pl,bM.kp (r1.same (bW E2)) (r.same (bW c9))⟩)
  exact L.nx own _ σ _ q ((bW c9).trans S) h'
 |_=>rw[es]at hr;exact hr.elim
def Hd(i:Nat)(a b:RE):RE:=λo q=>match slot o i with|.d1 ks ts=>a o λy=>b o λz=>∃j,T6 (frz y)=some j/\q (.fz ((oK ks ts j).getD (frz z)))|_=>False
def YZ(i:Nat){x:Str}{ai:Pos}(hu:X.A.units+1<cLine)(ha:QE X a ra)(hb:QE X b rb)(m:M2 X (.Name x p) "get" ai a b ah:=by first|exact⟨rfl,rfl,rfl,rfl⟩|constructor<;>rfl)(hN:n_X X i x:=by exact⟨rfl,rfl,xa,xa⟩) :
  QE X (.Call (.Attribute (.Name x p) "get" ai) [a,b] [] ah) (Hd i ra rb):=(VR hu (pv i hN) ha hb m).imp λσ H Q hP=>by
 obtain⟨own,o,R,h,hr,k⟩:=hP;unfold Hd at hr;cases es:slot o i with
 |d1 ks ts =>
  rw[es]at hr;obtain⟨l,xs,e1,e3,e4,ln,r⟩:=h.d1 es;refine⟨_,e1,l,rfl,.inl ⟨_,.inl e4⟩,tQ.mk h hr λH1 v y q E1 r1=>tQ.mk (h.same E1) q λH2 w z q E2 r2=>?_⟩;obtain⟨j,ek,q⟩:=q;have c9:=E1.trans E2;cases JN r1 ek;refine⟨_,Aj.k (c9 _ _ e4),?_⟩;have r:=r.same (bW c9);cases z1:oK ks ts j with
  |none =>
   rw[z1]at q;rw[(Ax r).2 z1];exact k H2 _ _ q c9 (NR.fz r2)
  |some t =>
   rw[z1]at q;obtain⟨u,e5,r5⟩:=(Ax r).1 t z1;rw[e5];exact k H2 _ _ q c9 (NR.fz r5)
 |_=>rw[es]at hr;exact hr.elim
def kT:nS->T
 |.inl i=>.int i
 |.inr s=>.str s
def Wf(f:xk->zg->zg)(i n:Nat)(g:qS)(c:RT)(e:RE):RS:=λE o=>match slot o i with
 |.d1 ks ts=>ks.length<=sizeLine/\iw g c e (replicate n .und++o.set i (.fz (.dct ks ts))) (f ks ts) λus=>E.rt (.l1 us)
 |_=>False
def iW(J:Addr->Obj->xy->It)(te:TE):TI:=λσ H R=>te σ H λx H1=>∃a kvs,x=.ref a/\H1 a=some (.dK kvs)/\∀o,R (J a o kvs) (upd H1 a (.frz o (.dK kvs)))
abbrev On:=Wf λks _=>ks.map kT
def Zz{a:Addr}{ob:Obj}{F:Hp}(l:ks.length=xs.length)(e:F a=some (.frz ob (.dK (ks.zip xs)))):ua K (we a ob (ks.zip xs)) F (ks.map kT):=λS H i _ SF=>by
 have eH:=(cW (SF _ _ e)).2;have lz:(ks.zip xs).length=ks.length:=by rw[VY,<- l,UK]
 refine⟨λhi=>⟨eH,by rw[lz];simpa using hi⟩,λt ht=>?_⟩;rw[aq]at ht;cases z:ks[i]? with
 |none=>rw[z]at ht;cases ht
 |some k =>
  rw[z]at ht;cases ht;have hi:=(ao.mp z).1;refine⟨⟨eH,by rwa[lz]⟩,?_⟩;rintro x H' ⟨rfl,k',y,e1,rfl⟩;rw[aj (by rwa[lz]),getElem_zip]at e1;rw[aj hi]at z;cases z;cases e1;refine⟨.refl _,?_⟩;cases ks[i]with
  |inl j=>exact .int _
  |inr s=>exact .str _
def Zq{J:Addr->Obj->xy->It}{f:xk->zg->zg}{rc:RT}(i:Nat)(pi:PI X tg iter (iW J (yn i)))(wk:∀{a ob ks xs ts F},ks.length=xs.length->F a=some (.frz ob (.dK (ks.zip xs)))->bM X.K F xs ts->ua X.K (J a ob (ks.zip xs)) F (f ks ts)/\(f ks ts).length=ks.length)(sc:Scope)(N N' xs:Θ)(hg:∀{C s₀ H₀ ex pn},QG (X.compG N' scope xs C s₀ H₀ ex pn) xs.length tg g)(ht:∀{C s₀ H₀ ex pn},t5 (X.compG N' scope xs C s₀ H₀ ex pn) a9 rc)(he:∀{C s₀ H₀ ex pn},QE (X.compG N' scope xs C s₀ H₀ ex pn) bv re)
 (eB:X.env.scope=sc:=by rfl)(eK:X.N=N:=by rfl)(hc:X.calm:=by rfl)(hk:scope.kind=.function:=by rfl)(h:CK sc scope N N' xs:=by decide +kernel)(hs:qV X iter) :
  QS X (.Return (some (.ListComp bv [⟨tg,iter,a9,0⟩] scope ah)) pos) (Wf f i xs.length g rc re):=(Iv (GY (gt:=sr X.K xs.length g) (tc:=tQT X.K rc) (te:=tQ X.K re) sc N N' xs pi hg ht he eB eK hc hk h hs)).imp λD σ H hP=>by
 obtain⟨own,o,E,h,hr,L⟩:=hP;unfold Wf at hr;cases es:slot o i with
 |d1 ks ts =>
  rw[es]at hr;obtain⟨l,ys,e1,e3,e4,ln,r⟩:=h.d1 es;refine⟨_,e1,l,_,rfl,e4,λob DD nD=>?_⟩;have eo:∀b,Ow (own1 own i []) b->Ow own b/\b≠l:=λb hP=>by
   obtain⟨j,z⟩:=hP;by_cases y:j=i
   .rw[y,jM]at z;cases z
   .rw[fL y]at z;exact⟨⟨j,z⟩,λw=>y (h.dis j i b z (by rw[e3,w];simp))⟩
  have nl:¬Ow (own1 own i []) l:=λz=>(eo l z).2 rfl;have ol:Ow own l:=⟨i,by rw[e3];simp⟩;have S1:z0 (hd (Ow own) H) (hd (Ow (own1 own i [])) (upd H l (.frz ob (.dK (ks.zip ys))))):=λb u e=>by
   obtain⟨n,e⟩:=cW e;rw[dI λz=>n (eo b z).1,bZ λ(z:b=l)=>n (z.symm ▸ ol)];exact e
  have h1:SR X.K (own1 own i []) (upd H l (.frz ob (.dK (ks.zip ys)))) σ (o.set i (.fz (.dct ks ts))):=by
   have hi:i<o.length:=(ao.mp (jc es (by intro z;cases z))).1;refine⟨by rw[VZ,h.len],λj y e'=>?_,λj hj a ha=>?_,λj k a z1 z2=>?_⟩
   .by_cases z:j=i
    .subst z;rw[UZ hi]at e';cases e';rw[jM,e1];exact⟨rfl,_,rfl,.dct (.inr ⟨ob,by rw[dI nl];exact cj⟩) ln (r.same S1)⟩
    .rw[Up (Ne.symm z)]at e';rw[fL z];exact((h.sl j y e').same S1 (.refl _)).off λb hb u e=>(bZ λw=>z (h.dis j i b hb (by rw[e3,w];simp))).trans e
   .rw[VZ]at hj;rw[fL xB]at ha;obtain⟨xs,e⟩:=h.out j hj a ha;exact⟨xs,(bZ λw=>by have:=h.dis j i a ha (by rw[e3,w];simp);lia).trans e⟩
   .by_cases z:j=i
    .rw[z,jM]at z1;cases z1
    by_cases y:k=i
    .rw[y,jM]at z2;cases z2
    .rw[fL z]at z1;rw[fL y]at z2;exact h.dis j k a z1 z2
  have L1:=L.step S1;obtain⟨wk,wl⟩:=wk ln (by rw[dI nl];exact cj) (r.same S1);refine M4 h1 wk (by rw[wl];exact hr.1) hr.2 nD λH' v y rx E n=>?_;obtain⟨B,nb,s⟩:=n;exact L1.rt _ H' v y B rx (jK (λb z=>z.imp id (nb b)) E) s λa ha=>.inr ha
 |_=>rw[es]at hr;exact hr.elim
def X8{rc:RT}{x:Str}(i:Nat)(sc:Scope)(N N' xs:Θ)(hg:∀{C s₀ H₀ ex pn},QG (X.compG N' scope xs C s₀ H₀ ex pn) xs.length tg g)(ht:∀{C s₀ H₀ ex pn},t5 (X.compG N' scope xs C s₀ H₀ ex pn) a9 rc)(he:∀{C s₀ H₀ ex pn},QE (X.compG N' scope xs C s₀ H₀ ex pn) bv re)
 (hN:n_X X i x:=by exact⟨rfl,rfl,xa,xa⟩)
 (eB:X.env.scope=sc:=by rfl)(eK:X.N=N:=by rfl)(hc:X.calm:=by rfl)(hk:scope.kind=.function:=by rfl)(h:CK sc scope N N' xs:=by decide +kernel)(hs:∀z,foldedSetIterable (.Name x p) X.env z=pure z:=by intro _;rfl) :
  QS X (.Return (some (.ListComp bv [⟨tg,.Name x p,a9,0⟩] scope ah)) pos) (On i xs.length g rc re):=Zq i (ZK (tg:=tg) (pv i hN)) (λl e _=>⟨Zz l e,by rw[ak]⟩) sc N N' xs hg ht he eB eK hc hk h hs
end
theorem slot_of:∀{o:zt}{i:Nat}{x:OT},o[i]?=some x->slot o i=x
 |[],_,_,e=>by cases e
 |_::_,0,_,e=>by cases e;rfl
 |_::l,i+1,x,e=>slot_of (o:=l) (by simpa using e)
def FT(g:qS)(c:RT)(e:RE)(o:zt):zg->(List zg->Prop)->Prop
 |[],q=>q []
 |t::ts,q=>∃(N:zg->Prop)(M:Prop),(∀y,N y->FT g c e o ts λus=>q (y::us))/\(M->FT g c e o ts q)/\g t o λo'=>c o' λb=>sw b (e o' λy=>match y with|.l1 us=>N us|_=>False) M
def HU(it:RI)(n:Nat)(g:qS)(c:RT)(e:RE):RE:=λo q=>it o λxs=>xs.length<=sizeLine/\FT g c e (replicate n .und++o) xs λus=>q (.l2 us)
def Tt{o:zt}{J:It}{xs:zg}(h1:SR K own H1 σ o)(wk:ua K J (hd (Ow own) H1) xs)(lx:xs.length<=sizeLine)(q:FT g rc re (replicate n .und++o) xs λus=>R (.l2 us))(nD:H1 D=none)(k:∀H' v x,R x->z0 H1 H'->NR K (Ow own) H1 H' v x->Q v H') :
  ∃W:Nat->Nat->Β->Hp->Prop,(∃m,W 0 m [] (upd H1 D (.lst [])))/\∀i m ys Hc,W i m ys Hc ->
   (J.stop i Hc/\Q (.ref D) Hc)\/(J.go i Hc/\∀x H',J.yld i Hc x H'->∀pre:L2.St,pre.length=n->tI (sr K n g) x (pre++σ) H' λσ2 H2=>∃b9:L2.St,b9.length=n/\σ2=b9++σ/\tF (tQT K rc) σ2 H2 λb H3 =>
    match b with
    |true=>tM (tQ K re) σ2 H3 λy H4=>ys.length<sizeLine/\H4 D=some (.lst ys)/\∃m',m'<m/\W (i+1) m' (ys++[y]) (upd H4 D (.lst (ys++[y])))
    |false=>∃m',m'<m/\W (i+1) m' ys H3):=by
 generalize hO:replicate n OT.und++o=ob at q;refine⟨λi m ys Hc=>∃(bs:Φ)(bE:List zg),ys=bs.map V.ref/\Hc D=some (.lst ys)/\z0 H1 Hc/\(D::bs).Nodup/\(∀b∈bs,H1 b=none)/\bs.length=bE.length/\(∀(i:Nat)b ts,bs[i]?=some b->bE[i]?=some ts->∃xs,Hc b=some (.lst xs)/\bM K (hd (λb=>Ow own b\/b∈D::bs) Hc) xs ts)/\ys.length<=i/\i<=xs.length/\m=xs.length-i/\FT g rc re ob (xs.drop i) λus=>R (.l2 (bE++us)),⟨_,[],[],rfl,cj,z0.upd nD,by simp,λ_ z=>(nomatch z),rfl,(λi b ts e=>by cases e),aF _,aY _,rfl,q⟩,?_⟩;rintro i m ys Hc ⟨bs,bE,rfl,eD,Ec,nd,nb,bl,rs,il,ix,rfl,hl⟩;have nA:∀a∈D::bs,H1 a=none:=λa ha=>by
  rcases YU.mp ha with z|z
  .rw[z];exact nD
  .exact nb a z
 have eA:∀a∈D::bs,∃ys,Hc a=some (.lst ys):=λa ha=>by
  rcases YU.mp ha with z|z
  .exact⟨_,z ▸ eD⟩
  .obtain⟨j,e⟩:=aU z;have lj:=(ao.mp e).1;obtain⟨zs,e2,_⟩:=rs j a _ e (aj (aQ lj (WS bl)));exact⟨zs,e2⟩
 have hn:∀b,Ow own b\/b∈D::bs->Hc b≠none:=λb z=>z.elim (λz=>((h1.same Ec).sole z).ne) λe z=>by obtain⟨ys,ey⟩:=eA b e;rw[ey]at z;cases z
 have SD:z0 (hd (Ow own) H1) (hd (λb=>Ow own b\/b∈D::bs) Hc):=jK (λb z=>z.imp id (nA b)) Ec;obtain⟨w1,w2⟩:=wk (λb=>Ow own b\/b∈D::bs) Hc i hn SD;by_cases hi:i<xs.length
 .right;obtain⟨go,yl⟩:=w2 _ (aj hi);rw[JU hi]at hl;obtain⟨N,M,hN,hM,hl⟩:=hl;refine⟨go,λx H2 y pre hp=>?_⟩;obtain⟨E2,rx⟩:=yl x H2 y;have eO:(λb=>Ow own b\/b∈D::bs)=Ow (ownL2 n o.length own (D::bs)):=funext λb=>propext Ow.ownL2.symm;have hb:SR K (ownL2 n o.length own (D::bs)) H2 (pre++σ) ob:=by
   have:=h1.blockL (Ec.trans E2) nA (λa ha=>let⟨ys,e⟩:=eA a ha;⟨ys,E2 _ _ e⟩) pre;rw[hp,hO]at this;exact this
  rw[eO]at rx rs;refine⟨_,⟨ownL2 n o.length own (D::bs),ob,_,_,hb,rx,hl,λee σ3 o3 q3 hJ h3=>?_⟩,λ_ _ z=>z⟩;obtain⟨b9,g3,rfl⟩:=N7 hp hJ;have e3:ee=ownL2 n o.length own (D::bs):=funext λj=>by
   rcases hJ.1 j with e|⟨e1,e2⟩
   .exact e
   .rw[e2];unfold ownL2;rw[ZY e1]
  subst e3;refine⟨b9,g3,rfl,_,tQT.mk h3 q3 λH3 b q4 E3=>?_,λ_ _ z=>z⟩;have q4:sw b (re o3 λy=>match y with|.l1 us=>N us|_=>False) M:=q4;cases b with
  |false=>exact⟨xs.length-(i+1),by lia,bs,bE,rfl,E3 _ _ (E2 _ _ eD),Ec.trans (E2.trans E3),nd,nb,bl,λj b ts e1 e2=>by
    obtain⟨zs,ez,rz⟩:=rs j b ts e1 e2;rw[eO];exact⟨zs,E3 _ _ (E2 _ _ ez),rz.same (bW (E2.trans E3))⟩,by exact aK il (X2 _ _),by exact hi,rfl,hM q4⟩
  |true =>
   refine⟨_,⟨_,_,_,h3.same E3,q4,λH4 v y q5 E4 r4=>?_⟩,λ_ _ z=>z⟩
   match y,q5,r4 with
   |.l1 us,q5,r4 =>
    obtain⟨B,nB,p,zs,ev,rfl,ep,rp⟩:=r4;cases ev;have np:H3 p=none:=nB p xF;have pn:∀{a:Addr}{u:HO},H3 a=some u->a≠p:=λe z=>by rw[z,np]at e;cases e
    have E:z0 Hc H3:=E2.trans E3;have pD:D≠p:=pn (E _ _ eD);have pb:p∉bs:=λz=>by
     obtain⟨ys,ey⟩:=eA p (aH _ z);exact pn (E _ _ ey) rfl
    have oP:∀(H:Hp)(u:HO),hd (λb=>Ow own b\/b∈D::(bs++[p])) (upd H D u)=hd (λb=>Ow own b\/b∈D::(bs++[p])) H:=λH u=>zZ (S:=λb=>Ow own b\/b∈D::(bs++[p])) (.inr xF);refine⟨by lia,E4 _ _ (E _ _ eD),xs.length-(i+1),by lia,bs++[p],bE++[us],by rw[aZ];rfl,cj,λb u e=>?_,?_,λb hb=>?_,by simp[bl],λj b ts e1 e2=>?_,by rw[aA,length_singleton];exact succ_le_succ il,by exact hi,rfl,?_⟩
    .rw[bZ λz=>by rw[z,nD]at e;cases e];exact E4 _ _ (E _ _ (Ec _ _ e))
    .rw[<- cons_append];exact List.nodup_append.mpr ⟨nd,by simp,λa ha c hc z=>by
      rw[YR.mp hc]at z;rcases YU.mp ha with y|y
      .exact pD (y.symm.trans z)
      .exact pb (z ▸ y)⟩
    .rcases Y1.mp hb with z|z
     .exact nb b z
     .rw[YR.mp z];exact(Ec.trans E).free np
    .rw[oP];by_cases hj:j<bs.length
     .rw[aD hj]at e1;rw[aD (aQ hj (WS bl))]at e2;obtain⟨zs,ez,rz⟩:=rs j b ts e1 e2;have bD:b≠D:=λz=>(List.nodup_cons.mp nd).1 (z ▸ aB e1);refine⟨zs,by rw[bZ bD];exact E4 _ _ (E _ _ ez),rz.same ?_⟩;rw[<- eO];exact jK (λc z=>by
       rcases z with z|z
       .exact .inl (.inl z)
       .rw[<- cons_append]at z;rcases Y1.mp z with y|y
        .exact .inl (.inr y)
        .rw[YR.mp y];exact .inr (E.free np)) (E.trans E4)
     .rw[aC (VW hj)]at e1;rw[aC xB]at e2;have j0:j-bs.length=0:=by
       have:=(ao.mp e1).1;simp at this;omega
      rw[j0]at e1;rw[show j-bE.length=0 by lia]at e2;cases e1;cases e2;refine⟨_,by rw[bZ (Ne.symm pD)];exact ep,rp.same (jK (λc z=>.inl ?_) λ_ _ z=>z)⟩;rcases z with z|z
      .exact .inl (Ow.ownL2.mpr (.inl z))
      .rw[<- cons_append]at z;rcases Y1.mp z with y|y
       .exact .inl (Ow.ownL2.mpr (.inr y))
       .exact .inr y
    .have:=hN _ q5;simp only[WZ,List.singleton_append];exact this
 .left;have:i=xs.length:=by lia
  refine⟨w1 this,?_⟩;rw[Tx (VW hi)]at hl;have hl:R (.l2 (bE++[])):=hl;rw[append_nil]at hl;exact k Hc _ _ hl Ec ⟨D::bs,nA,D,bs,rfl,rfl,nd,eD,bl,rs⟩
def YM(h:tQ K (HU ri n g rc re) σ H Q):uY (wn K ri) n (tI (sr K n g)) (tF (tQT K rc)) (tM (tQ K re)) σ H Q:=by
 obtain⟨own,o,R,h,hr,k⟩:=h;exact⟨own,o,_,h,hr,λH1 J xs q E1 wk D nD=>Tt (h.same E1) wk q.1 q.2 nD λH' v x rx E n=>k H' v x rx (E1.trans E) (n.back E1)⟩
def Yv{i0:Nat}{y0:Str}{py cS:Pos}(sc:Scope)(N N' xs:Θ)(hi:QI X tg iter ri)(hg:∀{C s₀ H₀ ex pn},QG (X.compG N' scope xs C s₀ H₀ ex pn) xs.length tg g)(ht:∀{C s₀ H₀ ex pn},t5 (X.compG N' scope xs C s₀ H₀ ex pn) a9 rc)(he:∀{C s₀ H₀ ex pn},QE (X.compG N' scope xs C s₀ H₀ ex pn) bv re)(g9:PG X (.Name y0 py) (qF i0))
 (eB:X.env.scope=sc:=by rfl)(eK:X.N=N:=by rfl)(hc:X.calm:=by rfl)(hk:scope.kind=.function:=by rfl)(h:CK sc scope N N' xs:=by decide +kernel)(gS:swapsWith (.ListComp bv [⟨tg,iter,a9,0⟩] scope pos) (some (.Name y0 py)) cS.line X.env=pure true:=by rfl)(hs:qV X iter:=by intro _;rfl) :
  QS X (.Assign [.Name y0 py] (.ListComp bv [⟨tg,iter,a9,0⟩] scope pos) cS) (Bi i0 (HU ri xs.length g rc re)):=(HK (gt:=sr X.K xs.length g) (tc:=tQT X.K rc) (te:=tQ X.K re) sc N N' xs hi hg ht he g9 eB eK hc hk h gS hs).imp λD σ H ⟨own,o,E,h,hr,L⟩=>YM ⟨own,o,_,h,hr,λH' v y q S n=>by
 obtain⟨ag,h',S'⟩:=h.putA S n i0;exact L.nx ag H' _ _ q S' h'⟩
theorem Hu{α:Type}(h:α->T)(f:α->zg){c:RT}{e:RE}{o:zt} : ∀(l:List α){q:List zg->Prop},(∀a∈l,∀(N:zg->Prop)(M:Prop),N (f a)->g (h a) o λo'=>c o' λb=>sw b (e o' λy=>match y with|.l1 us=>N us|_=>False) M)->q (l.map f)->FT g c e o (l.map h) q
 |[],_,_,k=>k
 |a::l,q,st,k=>⟨λy=>y=f a,False,λy z=>Hu h f l (λa ha=>st a (aH _ ha)) (z ▸ k),False.elim,st a (aN ..) (λy=>y=f a) False rfl⟩
def Wh{c:RT}{e:RE}{o:zt}{q:List zg->Prop}(f:Nat->zg)(n:Nat)(st:∀k,k<n->∀(N:zg->Prop)(M:Prop),N (f k)->g (.int (k:Nat)) o λo'=>c o' λb=>sw b (e o' λy=>match y with|.l1 us=>N us|_=>False) M)(k:q ((range n).map f)):FT g c e o (rng 0 n) q:=by
 refine Hu (λk:Nat=>.int (0+k)) f (range n) (λa ha N M hN=>?_) k;have:=st a (List.mem_range.mp ha) N M hN;show g (.int (0+((a:Nat):Int))) o _;rw[show(0:Int)+((a:Nat):Int)=((a:Nat):Int)by exact Int.zero_add _];exact this
theorem bM.strs{K:Frag}{F:Hp} : ∀{xs:Β}{ys:Θ},bM K F xs (ys.map T.str)->xs=ys.map V.str
 |_,[],h=>by cases h;rfl
 |_,y::ys,h=>by
  cases h with
  |cons a b =>
   cases a;rw[bM.strs b];rfl
def Kb(a:RE)(r:RA):RE:=λo q=>a o λx=>match frz x with
 |.str s=>r o λus=>∃ys:Θ,us=[.lst (ys.map T.str)]/\(ys.map (·.length)).sum+ys.length*s.length<=16777216/\q (.fz (.str (Txt.join s ys)))
 |_=>False
def ZD{o e:Expr}{ai:Pos}(ho:QE X o ra)(ha:QA X [e] r)(hb:attributeBase o "join" X.env (eval o X.env)=eval o X.env:=by rfl)
 (hf:qr X ah e:=by rfl)
 (hl:zk ai ah:=by rfl)(hs:qo X e []:=by rfl)(hp:qh X ah []:=by rfl) :
  QE X (.Call (.Attribute o "join" ai) [e] [] ah) (Kb ra r):=by
 refine(Pi PySem.F.slot_str_join PySem.F.type_str_join Zj ho ha hb hf hl hs hp).imp λσ H Q hP=>?_;obtain⟨own,o,R,h,hr,k⟩:=hP;refine tQ.mk h hr λH1 v x q E1 r1=>?_;cases ex:frz x with
 |str s =>
  rw[ex]at q r1;cases r1;refine⟨⟨s,rfl⟩,tQA.mk (h.same E1) q λH2 vs us q2 _ E2 r2=>?_⟩;obtain⟨ys,rfl,lz,q3⟩:=q2;obtain⟨y,rfl,ry⟩:=r2.one;obtain⟨p,xs,rfl,e,rx⟩:=ry.lstI;exact⟨s,p,ys,rfl,rfl,rx.strs ▸ (cW e).2,lz,k H2 _ _ q3 (E1.trans E2) (NR.fz (.str _))⟩
 |_=>rw[ex]at q;exact q.elim
def notStar:Expr->Bool
 |.Starred ..=>false
 |_=>true
def SZ{e:Expr}{env:Env}(h:notStar e):starEach (e::es) env=(false,eval e env)::starEach es env:=by
 cases e<;>first|rfl|cases h
structure sk(X:Cx)(e:Expr)(r:RE):Prop where
 out:QE X e r
structure ve(X:Cx)(es:zh)(r:RA):Prop where
 out:QA X es r
def Aq{e:Expr}{r:RE}(h:QE X e r):sk X e r:=⟨h⟩
def RQ{i j pos} : sk X (.Constant (.int i) j pos) (rC (.int i)):=⟨bx⟩
def N2(i:Nat){x:Str}(hN:n_X X i x:=by exact⟨rfl,rfl,xa,xa⟩):sk X (.Name x pos) (cA i):=⟨qv i hN⟩
def Zl{op:Operator}{g:qA}{b:Expr}(ho:GO X (binaryOp op) g)(ha:sk X a ra)(hb:sk X b rb):sk X (.BinOp a op b pos) (nL g ra rb):=⟨bJ ho ha.out hb.out⟩
def rY:ve X [] iu:=⟨bA⟩
def gY{e:Expr}{a:RE}(ha:sk X e a)(hr:ve X es r)(hn:notStar e:=by rfl):ve X (e::es) (bN a r):=⟨bw ha.out hr.out (SZ hn)⟩
def yV(h:ve X es r)(hz:es.length<=sizeLine:=by decide):sk X (.Tuple es k pos) (Xa r):=⟨cZ h.out hz⟩
def RB(h:ve X es r)(hz:es.length<=sizeLine:=by decide):sk X (.List es pos) (Yo r):=⟨dN h.out hz⟩
def PQ:qA
 |.int i,.int j,q=>Zi i j/\q (.fz (.int (i*j)))
 |_,_,_=>False
def Rq:GO X (binaryOp .Mult) PQ:=Y'.imp λx y H Q hP=>by
 obtain⟨S,t,u,R,_,hx,hy,hg,k⟩:=hP;cases hx<;>try exact hg.elim
 cases hy<;>try exact hg.elim
 exact⟨_,_,rfl,rfl,hg.1,k H _ _ hg.2 (.refl _) (NR.fz (.int _))⟩
def NC(n:Nat)(gs:qE):qS
 |.lst ts,o,q=>ts.length=n/\gs ts o q
 |_,_,_=>False
def To{m:Nat}{gs:qE}(hc:X.calm)(h:vc X m es gs)(hn:(assignEach es X.env).length=n:=by rfl)(ce:zw X es:=by rfl):QG X m (.Tuple es k pos) (NC n gs):=(Zf hc h hn ce).imp λv σ H Q hP=>by
 obtain⟨own,o,t,R,h,r,hg,k⟩:=hP;cases t<;>try exact hg.elim
 obtain⟨a,xs,rfl,e,r⟩:=r.lstI;exact⟨a,xs,rfl,SqL.of (cF _ _ e),r.len.trans hg.1,own,o,_,R,h,r,hg.2,k⟩
section
variable{a b c d e f x y:RS}{E:DT}{o:zt}
def IU(J:zt->Prop)(k:∀o',J o'->y E o')(h:∀Y:zt->Prop,(∀o',J o'->Y o')->i_ a (i_ x (λ_=>Y)) E o):i_ a (i_ x y) E o:=h (y E) k
def IT(J:zt->Prop)(k:∀o',J o'->y E o')(h:∀Y:zt->Prop,(∀o',J o'->Y o')->i_ a (i_ b (i_ c (i_ x (λ_=>Y)))) E o):i_ a (i_ b (i_ c (i_ x y))) E o:=h (y E) k
def IS(J:zt->Prop)(k:∀o',J o'->y E o')(h:∀Y:zt->Prop,(∀o',J o'->Y o')->i_ a (i_ b (i_ c (i_ d (i_ e (i_ f (i_ x (λ_=>Y))))))) E o):i_ a (i_ b (i_ c (i_ d (i_ e (i_ f (i_ x y)))))) E o:=h (y E) k
end
def Mq{ds:xj}(h:SeqAt.shaped (.list ds)):PyData.canLayAll0 ds/\PyData.depthAll ds<=63:=by
 have a:=SeqAt.canLay_of_shaped h;have b:=SeqAt.depth_of_shaped h;unfold PyData.canLay0 at a;unfold PyData.depth at b;exact⟨a,by exact Nat.le_of_succ_le_succ b⟩
def vz(neg:Bool)(t u:T)(q:OT->Prop):Prop:=∃d ds,t=sB d/\u=sB (.list ds)/\SeqAt.shaped d/\SeqAt.shaped (.list ds)/\q (.fz (.bl (xr neg (ds.any λy=>PyData.eqv y d))))
def XD{neg:Bool}(h0:∀{A:Around}{E:Ξ}{s:Shared}{c x:Value}{xs:xj}{d:PyData}{as bs:Φ}{Q:Ξ},Reads s.heap c (.list xs) as->Reads s.heap x d bs->PyData.canLayAll0 xs=true->d.canLay0=true->A.units+1+min (PyData.depthAll xs) d.depth<cLine->Q (.bool (xr neg (xs.any λy=>PyData.eqv y d))) s->wpAny (model X.prog X.w) A (compareOp op x c) Q E s)(hu:X.A.units+64<cLine):GO X (compareOp op) (vz neg):=λaa s σ H x y v u Q I rx ry h=>by
 obtain⟨S,t,w,R,_,hx,hy,⟨d,ds,rfl,rfl,sd,sl,q⟩,k⟩:=h;obtain⟨l1,l2⟩:=Mq sl;obtain⟨as,ra⟩:=I.readsK ((hx.shows d rfl (SeqAt.canLay_of_shaped sd)).same cF) rx;obtain⟨bs,rb⟩:=I.readsK ((hy.shows (.list ds) rfl (SeqAt.canLay_of_shaped sl)).same cF) ry;have:=Nat.min_le_left (PyData.depthAll ds) d.depth;exact h0 rb ra l1 (SeqAt.canLay_of_shaped sd) xB ⟨.bl _,H,I,rfl,k H _ _ q (.refl _) (NR.fz (.bl _))⟩
def GW(hu:X.A.units+64<cLine):GO X (compareOp .In) (vz false):=XD (λrc rx a b c q=>SeqAt.in_list_reads rc rx a b c q) hu
def SY(hu:X.A.units+64<cLine):GO X (compareOp .NotIn) (vz true):=XD (λrc rx a b c q=>SeqAt.notIn_list_reads rc rx a b c q) hu
def By(φ:Hp->V->Prop):Prop:=∀F F' u,z0 F F'->φ F u->φ F' u
section
variable{K:Frag}{own:zz}{H:Hp}{σ:L2.St}{o:zt}
def SR.gh(h:SR K own H σ o){i:Nat}{φ:Hp->V->Prop}{t:T}(e:slot o i=.gh φ t):∃u,By φ/\σ[i]?=some (some u)/\φ (hd (Ow own) H) u/\Rep K (hd (Ow own) H) u t:=by
 obtain⟨u,e1,_,st,w,e2,p,r⟩:=h.val e (by intro z;cases z);cases e2;exact⟨u,st,e1,p,r⟩
def SR.toGh(h:SR K own H σ o){i:Nat}{φ:Hp->V->Prop}(st:By φ)(e:slot o i=.fz t)(p:∀u,σ[i]?=some (some u)->φ (hd (Ow own) H) u):SR K own H σ (o.set i (.gh φ t)):=by
 have ei:=jc e (by intro z;cases z);have hi:=(ao.mp ei).1;refine⟨by rw[VZ,h.len],λj y ej=>?_,λj hj=>h.out j (by rwa[VZ]at hj),h.dis⟩;by_cases z:j=i
 .subst z;rw[UZ hi]at ej;cases ej;obtain⟨u,e1,r⟩:=h.get ei;obtain⟨a,_⟩:=h.sl j _ ei;rw[e1];exact⟨a,st,u,rfl,p u e1,r⟩
 .rw[Up (Ne.symm z)]at ej;exact h.sl j y ej
end
def Nt(F G:Hp):Prop:=∀b u,(∀t,u≠HO.tbl t)->F b=some u->G b=some u
variable{a:Addr}
section
variable{K:Frag}{F G:Hp}
def Nt.rd(e:Nt F G)(n:∀t,u≠HO.tbl t)(h:Rd F a u):Rd G a u:=h.imp (e _ _ n) λhP=>by obtain⟨o,r⟩:=hP;exact⟨o,e _ _ (λ_ z=>(nomatch z)) r⟩
def Nt.tup(e:Nt F G){a:Addr}{xs:Β}(h:SqT K F a xs):SqT K G a xs:=h.imp (e.rd λ_ z=>(nomatch z)) id
def Nt.seq(e:Nt F G)(h:SqL K F a xs):SqL K G a xs:=h.imp (e.rd λ_ z=>(nomatch z)) id
def Nt.l(e:Nt F G)(h:F a=some (.lst xs)):G a=some (.lst xs):=e _ _ (λ_ z=>(nomatch z)) h
def Nt.d(e:Nt F G){l:xy}(h:Rd F a (.dK l)):Rd G a (.dK l):=e.rd (λ_ z=>(nomatch z)) h
def Nt.i(e:Nt F G){C d:Addr}{l:xz}(h:F a=some (.ins C d l)):G a=some (.ins C d l):=e _ _ (λ_ z=>(nomatch z)) h
def Nt.o(e:Nt F G){x:Addr}(h:F a=some (.own x)):G a=some (.own x):=e _ _ (λ_ z=>(nomatch z)) h
def Nt.e(e:Nt F G){a C:Addr}{d:Ω}(h:F a=some (XO a C d)):G a=some (XO a C d):=e _ _ (λ_ z=>(nomatch z)) h
def Nt.x(e:Nt F G):∀{d:Ω}{l:xz},T8 F d l->T8 G d l
 |none,_,x=>x
 |some _,_,x=>e _ _ (λ_ z=>(nomatch z)) x
mutual
theorem Rep.nt(e:Nt F G):∀{x:V}{t:T},Rep K F x t->Rep K G x t
 |_,_,.any v=>.any v
 |_,_,.non=>.non
 |_,_,.bl b=>.bl b
 |_,_,.int i=>.int i
 |_,_,.str s=>.str s
 |_,_,.val v=>.val v
 |_,_,.tup s h=>.tup (e.tup s) (bM.nt e h)
 |_,_,.lst s h=>.lst (e.l s) (bM.nt e h)
 |_,_,.scr s h=>.scr (e.seq s) (bM.nt e h)
 |_,_,.dct s l h=>.dct (e.d s) l (bM.nt e h)
 |_,_,.ins s d l h=>.ins (e.i s) (e.o d) l (bM.nt e h)
 |_,_,.exc s x l h=>.exc (e.e s) (e.x x) l (bM.nt e h)
theorem bM.nt(e:Nt F G):∀{xs:Β}{ts:zg},bM K F xs ts->bM K G xs ts
 |_,_,.nil=>.nil
 |_,_,.cons h t=>.cons (Rep.nt e h) (bM.nt e t)
end
end
def ZO(φ:T->Hp->V->Prop):Prop:=∀t F F' u,z0 F F'->φ t F u->φ t F' u
def wq(K:Frag)(φ:T->Hp->V->Prop)(j:Nat)(S:ST):Sp:=λvs H Q _=>∃u t ts R,vs[j]?=some u/\ts[j]?=some t/\φ t H u/\bM K H vs ts/\S ts R/\∀H' v x,R x->z0 H H'->NR K (λ_=>False) H H' v x->Q v H'
def TF{G:Hp}{o:zt}{x:OT}(h1:SR K own H1 σ o)(E1:z0 H H1)(kk:∀H' v x,R x->z0 H H'->NR K (Ow own) H H' v x->Q v H')(rx:R x)(E:z0 (hd (Ow own) H1) G)(n:NR K (λ_=>False) (hd (Ow own) H1) G v x)(a8:∀b,Ow own b->G b=none):Q v (oS (Ow own) H1 G):=by
 have EH:z0 H1 (oS (Ow own) H1 G):=λb u e=>by
  by_cases z:Ow own b
  .rw[wU z];exact e
  .rw[mF z];exact E b u ((dI z).trans e)
 have EG:z0 G (oS (Ow own) H1 G):=λb u e=>by rw[mF λz=>by rw[a8 b z]at e;cases e];exact e
 refine kk _ v x rx (E1.trans EH) (NR.back (H:=H1) ?_ E1);obtain⟨B,nb,s⟩:=n;have out:∀a∈B,¬Ow own a:=λa ha z=>(s.sole ha).ne (a8 a z);refine⟨B,λa ha=>by have:=nb a ha;rwa[dI (out a ha)]at this,s.same (jK (λb z=>?_) EG) EG⟩;rcases z with z|z
 .exact .inr (a8 b z)
 .exact .inl (.inr z)
def Oc(K:Frag)(frees:Β)(S:ST):Sp:=λvs H Q E=>vs.length=1/\mP K S (frees++vs) H Q E
def T'(i:Nat)(ψ:Hp->V->Prop)(f:Addr)(tf:zg)(S:ST)(r:RA):RE:=λo q=>slot o i=.gh ψ (.val (.ref f))/\r o λts=>S (tf++ts) q
variable{x lq:Str}{e:Expr}{Pt:Addr}{lp:Pos}
def Wx{frees:Β}{tf:zg}{ψ:Hp->V->Prop}(i:Nat)(hψ:∀F u,ψ F u->bM X.K F frees tf)(G:sK X.prog X.w X.K X.mg X.base k f ps (Oc X.K frees S))(hr:dU k X.A)(ha:QA X [e] r)(hN:n_X X i x:=by exact⟨rfl,rfl,xa,xa⟩)
 (he:qo X e []:=by rfl)(be:qh X pos []:=by rfl):QE X (.Call (.Name x p) [e] [] pos) (T' i ψ f tf S r):=by
 obtain⟨fd,ob,F,b,h1,h2⟩:=G;refine(Wq (sp:=ut (Oc X.K frees S)) ⟨fd,ob,F.hid,b,h1,h2⟩ hr (pv i hN) ha he be).imp λσ H Q ⟨own,o,R,h,⟨ja,hq⟩,kk⟩=>?_;obtain⟨u,st,eu,pu,ru⟩:=h.gh ja;cases ru;exact⟨_,eu,rfl,tQA.mk h hq λH1 vs ts q l E1 r1=>⟨Ow own,(h.same E1).hid,by rw[r1.len,l];rfl,tf++ts,R,(hψ _ _ (st _ _ _ (bW E1) pu)).app r1,q,λG v x rx E n a8=>TF (h.same E1) E1 kk rx E n a8⟩⟩
def Tr.ok(h:Tr K mg x st ps Pt)
 (hf:∀f fd c,Fun K x x st f fd->fd.code=.ref c->codeHdIn K c Pt=true->bV P w K mg base cp k f fd ps sp):p9 P w K mg base k x ps sp:=by
 obtain⟨f,fd,c,a,b,d,e,g⟩:=h;exact⟨f,fd,hf f fd c a e g,.all b,d,a.kp⟩
def bV.ex{sp:α->Sp}(F:∀a,bV P w K mg base cp k f fd ps (sp a)):bV P w K mg base cp k f fd ps λvs H Q E=>∃a,sp a vs H Q E :=
 ⟨λvs H Q E hP=>by obtain⟨a,h⟩:=hP;exact(F a).len vs H Q E h,λA outer s H args us vs Q E hr e0 hb r hP=>by obtain⟨a,h⟩:=hP;exact(F a).run A outer s H args us vs Q E hr e0 hb r h⟩
def bV.andL{c:Prop}(F:c->bV P w K mg base cp k f fd ps sp):bV P w K mg base cp k f fd ps λvs H Q E=>c/\sp vs H Q E :=
 ⟨λvs H Q E h=>(F h.1).len vs H Q E h.2,λA outer s H args us vs Q E hr e0 hb r h=>(F h.1).run A outer s H args us vs Q E hr e0 hb r h.2⟩
def Fun.okC{N:Θ}{c0:Addr}(F:Fun K x qual st f fd)(hc:fd.code=.ref c0)(S:bK N ps (bF st))(len:∀vs H Q E,sp vs H Q E->vs.length=ps.length)
 (br:∀(A:Around)(outer:zI)(s:Shared)(H:Hp)(vs:Β)(Q:VK)(E:XK),dU k (A.deeper (envOfC qual (bF st) s.zs f (.ref c0)))->sp vs H Q E ->
   ∃t,PSs (G7 cp P w K mg base N qual (bF st) f (.ref c0) A outer s H E).nox (dJ st) t/\t { nx:=λ_ H'=>Q .non H',rt:=Q } (L2.start N vs) H):bV P w K mg base cp (k+1) f fd ps sp:=by
 obtain⟨oc,od,kV,bi,pm,an,af,ct,de,rfl,lk,bp⟩:=F.ex;have hc:af=.ref c0:=hc;subst hc;refine HP lk bp S len λA outer s H vs Q E hr du=>?_;obtain⟨t,h,q⟩:=br A outer s H vs Q E hr du;exact⟨t,h.nox,q⟩
def Fun.okG{N:Θ}{φ:T->Hp->V->Prop}(j:Nat)(sφ:ZO φ)(F:Fun K x qual st f fd)(sc:bK N ps (bF st))(len:∀ts R,S ts R->ts.length=ps.length)
 (br:∀(af:Value)(A:Around)(outer:zI)(s:Shared)(H:Hp)(E:XK),dU k (A.deeper (envOfC qual (bF st) s.zs f af)) ->
   ∃r,sj (G7 cp P w K mg base N qual (bF st) f af A outer s H E).nox (dJ st) r/\∀ts t R,ts[j]?=some t->S ts R->r { nx:=λ_=>R (.fz .non),rt:=R } ((start' N.length ts).set j (.gh (φ t) t))):bV P w K mg base cp (k+1) f fd ps (wq K φ j S):=by
 refine F.ok sc (λvs H Q E h=>?_) λaf A outer s H vs Q E hr h=>?_
 .obtain⟨u,t,ts,R,_,_,_,r,hS,_⟩:=h;exact r.len.trans (len ts R hS)
 .obtain⟨u,t,ts,R,eu,et,pu,r,hS,q⟩:=h;obtain⟨rd,h1,h2⟩:=br af A outer s H E hr;have e0:=j_ (H:=H);have bg:=VF q;have ht:=(ao.mp et).1;have hv:j<vs.length:=by rwa[r.len]
  refine⟨_,h1,λ_=>[],_,_,?_,h2 ts t R et hS,⟨λown H' σ o rx E h=>?_,λS' H' v x B rx E s hB=>bg S' H' v x B rx (e0 ▸ E) s hB,λ_ _ _ _ z=>z.elim,λ_ _ _ _ z=>z.elim,λ_ _ _ _ _ _ z=>z.elim⟩⟩
  .refine(SR.start r N).toGh (sφ t) ?_ λu' mB=>?_
   .refine slot_of ?_;unfold start';rw[aD (by simpa using ht),aq,et];rfl
   .unfold L2.start at mB;rw[aD (by simpa using hv),aq,eu]at mB;cases mB;rwa[e0]
  .exact bg (Ow own) H' .non _ [] rx (e0 ▸ E) ⟨rfl,_,rfl,.non⟩ λ_ z=>(nomatch z)
mutual
def NX:T->Prop
 |.tup ts=>NXs ts
 |.lst ts=>NXs ts
 |.scr ts=>NXs ts
 |.dct _ ts=>NXs ts
 |.ins _ _ ts=>NXs ts
 |.exc _ _ _=>False
 |_=>True
def NXs:zg->Prop
 |[]=>True
 |t::ts=>NX t/\NXs ts
end
theorem NXs.map{α:Type}{g:α->T}(h:∀a,NX (g a)):∀l:List α,NXs (l.map g)
 |[]=>trivial
 |a::l=>⟨h a,NXs.map h l⟩
def Nx(F G:Hp):Prop:=∀b u,(∀t,u≠HO.tbl t)->(∀φ,u≠HO.ext φ)->F b=some u->G b=some u
section
variable{K:Frag}{F G:Hp}
def AU:HO->Bool
 |.tbl _=>false
 |.ext _=>false
 |_=>true
def Nx.pl(e:Nx F G)(h:AU u)(z:F a=some u):G a=some u:=e _ _ (λt q=>by rw[q]at h;cases h) (λt q=>by rw[q]at h;cases h) z
def Nx.rp(e:Nx F G)(h:AU u)(z:Rd F a u):Rd G a u:=z.imp (e.pl h) λhP=>by obtain⟨o,r⟩:=hP;exact⟨o,e.pl rfl r⟩
mutual
theorem Rep.nx(e:Nx F G):∀{x:V}{t:T},Rep K F x t->NX t->Rep K G x t
 |_,_,.any v,_=>.any v
 |_,_,.non,_=>.non
 |_,_,.bl b,_=>.bl b
 |_,_,.int i,_=>.int i
 |_,_,.str s,_=>.str s
 |_,_,.val v,_=>.val v
 |_,_,.tup s h,n=>.tup (s.imp (e.rp rfl) id) (bM.nx e h n)
 |_,_,.lst s h,n=>.lst (e.pl rfl s) (bM.nx e h n)
 |_,_,.scr s h,n=>.scr (s.imp (e.rp rfl) id) (bM.nx e h n)
 |_,_,.dct s l h,n=>.dct (e.rp rfl s) l (bM.nx e h n)
 |_,_,.ins s d l h,n=>.ins (e.pl rfl s) (e.pl rfl d) l (bM.nx e h n)
theorem bM.nx(e:Nx F G):∀{xs:Β}{ts:zg},bM K F xs ts->NXs ts->bM K G xs ts
 |_,_,.nil,_=>.nil
 |_,_,.cons h t,n=>.cons (Rep.nx e h n.1) (bM.nx e t n.2)
end
end
def s_(Pt:Addr)(oc:Ω):Φ:=Pt::oc.toList
def jJ.same{F F':Hp}{oc:Ω}(h:jJ Pt pos qual F oc)(S:z0 F F'):jJ Pt pos qual F' oc:=by
 cases oc with
 |none=>exact S _ _ h
 |some c=>exact⟨S _ _ h.1,S _ _ h.2⟩
def jJ.nx{F:Hp}{oc:Ω}(h:jJ Pt pos qual F oc):Nx F (wo (s_ Pt oc) F):=λb u n m e=>(zQ λz=>by
 cases oc with
 |none =>
  rw[YR.mp z,h]at e;cases e;exact n _ rfl
 |some c =>
  rcases YU.mp z with z|z
  .rw[z,h.1]at e;cases e;exact n _ rfl
  .rw[YR.mp z,h.2]at e;cases e;exact m _ rfl).trans e
def vQ(K:Frag)(Pt:Addr)(pos:Pos)(qual:Str)(S:ST):Sp:=λvs H Q _=>∃(oc:Ω)(ts:zg)(R:OT->Prop),jJ Pt pos qual H oc/\bM K H vs ts/\NXs ts/\S ts R /\
 ∀H' v x c,R x->z0 (wo (s_ Pt oc) H) (wo [Pt,c] H')->jJ Pt pos qual H' (some c)->NR K (λ_=>False) H H' v x->Q v H'
def Ey(K:Frag)(Pt:Addr)(lp:Pos)(lq:Str)(S:ST)(r:RA):TE:=λσ H Q=>∃(o:zt)(R:OT->Prop)(oc:Ω),SR K (λ_=>[]) H σ o/\jJ Pt lp lq H oc/\r o (λts=>NXs ts/\S ts R) /\
 ∀H' v x c,R x->z0 (wo (s_ Pt oc) H) (wo [Pt,c] H')->jJ Pt lp lq H' (some c)->NR K (λ_=>False) H H' v x->Q v H'
def yN{L:Φ}{F G:Hp}(S:z0 F G):z0 (wo L F) (wo L G):=λb u e=>by
 obtain⟨n,e⟩:=vJ e;rw[zQ n];exact S b u e
def DY(G:p9 X.prog X.w X.K X.mg X.base k x ps (vQ X.K Pt lp lq S))(hr:dU k X.A)(hg:Gl X x)(ha:QA X (e::es) r)(ci:qk x:=by decide)
 (he:qo X e es:=by rfl)(be:qh X pos es:=by rfl):PE X (.Call (.Name x p) (e::es) [] pos) (Ey X.K Pt lp lq S r) :=
 (uP G hr hg ha ci he be).imp λσ H Q hP=>by
  obtain⟨o,R,oc,h,la,hq,kk⟩:=hP;refine tQA.mk h hq λH1 vs ts ⟨nx,q⟩ _ E1 r1=>?_;rw[j_]at r1;exact⟨oc,ts,R,la.same E1,r1,nx,q,λH' v x c rx S2 c5 n=>kk H' v x c rx ((yN E1).trans S2) c5 (n.back E1)⟩
end L2
namespace Ac
def lw(t b:Int):Int×Int:=(t/(Int.gcd t b:Nat),b/(Int.gcd t b:Nat))
section
variable{κ:Type}[DecidableEq κ]
def look(acc:List (κ×Int))(r:κ):Int:=((acc.find? λg=>decide (g.1=r)).map (·.2)).getD 0
def put(acc:List (κ×Int))(r:κ)(y:Int):List (κ×Int):=if(acc.any λg=>decide (g.1=r))=true then acc.map (λg=>if g.1=r then(g.1,y)else g)else acc++[(r,y)]
def LV(gs:List (κ×Int)):List (κ×Int):=gs.foldl (λa g=>put a g.1 (look a g.1+g.2)) []
def ways(gs:List (κ×Int))(S:Int):List (κ×Int×Int):=((LV gs).filter λg=>decide (0<g.2)).map λg=>(g.1,lw g.2 S)
end
end Ac
namespace Rw
open Ac
def rep(r:List Int×Int):List (Int×Int):=r.1.map λt=>lw t r.2
structure vn(N:Nat)(r:List Int×Int):Prop where
 pos:0<r.2
 bot:r.2.natAbs<=N
 top:∀t∈r.1,t.natAbs<=N
def sg(f:Nat->Rat):Nat->Rat
 |0=>0
 |n+1=>sg f n+f n
def sz(f:Nat->Int):Nat->Int
 |0=>0
 |n+1=>sz f n+f n
theorem wN(f g:Nat->Rat):∀n,sg (λj=>f j+g j) n=sg f n+sg g n
 |0=>by unfold sg;grind
 |n+1=>by unfold sg;rw[wN f g n];grind
theorem wH(c:Rat)(f:Nat->Rat):∀n,sg (λj=>c*f j) n=c*sg f n
 |0=>by unfold sg;grind
 |n+1=>by unfold sg;rw[wH c f n];grind
theorem pA{f g:Nat->Rat} : ∀{n},(∀j,j<n->f j=g j)->sg f n=sg g n
 |0,_=>rfl
 |n+1,h=>by unfold sg;rw[pA λj hj=>h j (Nat.lt_add_right _ hj),h n (X1 _)]
theorem qX:∀n,sg (λ_=>0) n=0
 |0=>rfl
 |n+1=>by unfold sg;rw[qX n];grind
theorem wO{v:Nat->Rat}{k:Nat} : ∀{n},sg (λj=>(if j=k then 1 else 0)*v j) n=if k<n then v k else 0
 |0=>by rw[ZZ (WV _)];rfl
 |n+1=>by
  unfold sg;rw[wO];by_cases h:k<n
  .rw[ZY h,ZZ (UY h),ZY (Nat.lt_add_right _ h)];grind
  .by_cases e:n=k
   .subst e;rw[ZZ h,ZY rfl,ZY (X1 _)];grind
   .rw[ZZ h,ZZ e,ZZ xB];grind
section
variable{A:Nat->Nat->Int}{b:Nat->Int}{m wd p:Nat}{R:Nat->Nat->Rat}{pv s:Nat->Nat}
def sw(p q x:Nat):Nat:=if x=p then q else if x=q then p else x
end
def vr(r:List Int×Int)(j:Nat):Rat:=((r.1.getD j 0:Int):Rat)/(r.2:Rat)
end Rw
namespace K53
open PySem PyProof.Rows L2
abbrev wI:=top 10
abbrev iy:Str:="is_whole"
def Mp:bK O4 fZ (bF wI):=mS
abbrev Aw:=top 11
abbrev mQ:Str:="divisor"
def QC:bK Hz cX (bF Aw):=mS
abbrev JD:=top 15
abbrev qy:Str:="ratio"
def VD:bK Kd oG (bF JD):=mS
abbrev xJ:=top 16
abbrev lD:Str:="is_ratio"
def LK:bK xG jg (bF xJ):=mS
abbrev QB:=top 17
abbrev zF:Str:="plus"
def WN:bK UI vp (bF QB):=mS
abbrev Kf:=top 18
abbrev zA:Str:="minus"
def XQ:bK Yc tD (bF Kf):=mS
abbrev JV:=top 19
abbrev zE:Str:="times"
def V1:bK YH uL (bF JV):=mS
abbrev Pg:=top 20
abbrev CP:Str:="over"
def Zk:bK Q3 zV (bF Pg):=mS
abbrev Ir:=top 21
abbrev qL:Str:="under"
def X4:bK WE oN (bF Ir):=mS
abbrev Cw:=top 23
abbrev nu:Str:="level"
def Vz:bK Rb lR (bF Cw):=mS
abbrev JW:=top 24
abbrev za:Str:="total"
def XJ:bK Jv uD (bF JW):=mS
abbrev wY:=top 25
abbrev nj:Str:="greatest"
def Ly:bK xg lA (bF wY):=mS
abbrev Oo:=top 27
abbrev Cr:Str:="fits"
def Yi:bK Pu zG (bF Oo):=mS
abbrev sI:=top 28
abbrev m6:Str:="check_plan"
def Gn:bK sH j5 (bF sI):=mS
abbrev jV:=top 29
abbrev jh:Str:="behind_door"
def Dy:bK jZ g8 (bF jV):=mS
abbrev pW:=top 30
abbrev jo:Str:="raised_look"
def Ei:bK vP gO (bF pW):=mS
abbrev sG:=top 32
abbrev m_:Str:="goal_marks"
def Ge:bK rT jY (bF sG):=mS
abbrev lE:=top 34
abbrev j9:Str:="chosen_doors"
def BW:bK oW iD (bF lE):=mS
abbrev rE:=top 37
abbrev iY:Str:="check_many"
def GX:bK JB gB (bF rE):=mS
abbrev Al:=top 38
abbrev mL:Str:="lowered"
def Qu:bK Ad kE (bF Al):=mS
abbrev nW:=top 39
abbrev iT:Str:="best_round"
def wj:bK rR gw (bF nW):=mS
abbrev lN:=top 40
abbrev iI:Str:="plan_round"
def vY:bK lO gq (bF lN):=mS
abbrev nT:=top 41
abbrev iM:Str:="goal_round"
def Hg:bK su gD (bF nT):=mS
abbrev nJ:=top 42
abbrev gQ:Str:="rounds_behind"
def qz:bK nH jA (bF nJ):=mS
abbrev iK:=top 43
abbrev dg:Str:="best_rounds"
def uX:bK jR gR (bF iK):=mS
abbrev mX:=top 44
abbrev cB:Str:="plan_rounds"
def vf:bK pY eE (bF mX):=mS
abbrev jW:=top 45
abbrev dh:Str:="goal_rounds"
def o7:bK jX gU (bF jW):=mS
abbrev vD:=top 48
abbrev mH:Str:="is_word"
def Oq:bK Ak kI (bF vD):=mS
abbrev rF:=top 50
abbrev j8:Str:="check_head"
def Hj:bK sO iH (bF rF):=mS
abbrev lX:=top 51
abbrev fD:Str:="check_room_name"
def wV:bK xQ dW (bF lX):=mS
abbrev oY:=top 52
abbrev iC:Str:="check_chance"
def Bu:bK Fd fQ (bF oY):=mS
abbrev m8:=top 53
abbrev lJ:Str:="check_pairs"
def DK:bK qe jk (bF m8):=mS
abbrev m7:=top 54
abbrev lG:Str:="joined_ways"
def DX:bK v8 ju (bF m7):=mS
abbrev qj:=top 61
abbrev mC:Str:="check_share"
def Fj:bK Hl jr (bF qj):=mS
abbrev qP:=top 62
abbrev mU:Str:="numbers_of"
def Gw:bK sU j6 (bF qP):=mS
abbrev nC:=top 63
abbrev jC:Str:="numbered_ways"
def zY:bK sY gW (bF nC):=mS
abbrev tV:=top 64
abbrev n8:Str:="offers_of"
def KQ:bK Bo lZ (bF tV):=mS
abbrev Ph:=top 67
abbrev zu:Str:="_law_cell"
def ZC:bK Ql vH (bF Ph):=mS
abbrev Df:=top 68
abbrev iQ:Str:="_law_stream"
def S8:bK Ob gM (bF Df):=mS
abbrev WY:=top 69
abbrev En:Str:="_law_gcd"
def WK:bK Hm rH (bF WY):=mS
abbrev Ej:=top 70
abbrev k_:Str:="_law_ratio"
def Ul:bK Nv jx (bF Ej):=mS
abbrev uw:=top 71
abbrev nZ:Str:="_law_is_ratio"
def Lg:bK u_ mD (bF uw):=mS
abbrev oh:=top 72
abbrev m9:Str:="_law_are_ratios"
def Gy:bK qW jU (bF oh):=mS
abbrev vB:=top 74
abbrev xT:Str:="_law_names"
def Uu:bK qO uH (bF vB):=mS
abbrev Ju:=top 75
abbrev xP:Str:="_law_share"
def X7:bK RD ug (bF Ju):=mS
abbrev Xv:=top 76
abbrev Jk:Str:="_law_pay"
def P3:bK Ha Dk (bF Xv):=mS
abbrev wW:=top 77
abbrev Cy:Str:="_law_door"
def Ko:bK qY xZ (bF wW):=mS
abbrev Cm:=top 78
abbrev zP:Str:="_law_doors"
def N6:bK K6 tY (bF Cm):=mS
abbrev yP:=top 79
abbrev yt:Str:="_law_built"
def Oi:bK yU uM (bF yP):=mS
abbrev Jw:=top 80
abbrev Ci:Str:="_law_hall"
def Yp:bK Qk zU (bF Jw):=mS
abbrev Dz:=top 81
abbrev vq:Str:="_law_chosen"
def T3:bK Nj qu (bF Dz):=mS
abbrev J9:=top 82
abbrev pF:Str:="_law_look"
def WO:bK Vy pJ (bF J9):=mS
abbrev JF:=top 83
abbrev uW:Str:="_law_below"
def VP:bK Yq qw (bF JF):=mS
abbrev n_:=top 84
abbrev mW:Str:="_law_are_rounds"
def Ga:bK qM jO (bF n_):=mS
abbrev Qz:=top 85
abbrev Cp:Str:="_law_size"
def Yy:bK Qa zJ (bF Qz):=mS
abbrev Kp:=top 86
abbrev xO:Str:="_law_ahead"
def XH:bK Rp uG (bF Kp):=mS
abbrev K9:=top 87
abbrev yO:Str:="_law_surer"
def Xc:bK QK ur (bF K9):=mS
abbrev nU:=top 88
abbrev mZ:Str:="_law_none_above"
def GK:bK rW jT (bF nU):=mS
abbrev CJ:=top 89
abbrev yS:Str:="_law_takes"
def LC:bK Kh uf (bF CJ):=mS
abbrev Dm:=top 90
abbrev Kq:Str:="law"
def uq:bK Ba Ke (bF Dm):=mS
abbrev ux:Stmt:=gG 55 0
abbrev yu:Str:="__init__"
abbrev zR:Str:="Door.__init__"
def Js:bK vd jG (bF ux):=mS
abbrev uN:Stmt:=gG 55 1
abbrev yD:Str:="ways"
abbrev zT:Str:="Door.ways"
def Ip:bK Np lW (bF uN):=mS
abbrev tX:Stmt:=gG 56 0
abbrev yR:Str:="__init__"
abbrev zy:Str:="Sure.__init__"
def IK:bK tL lQ (bF tX):=mS
abbrev rQ:Stmt:=gG 57 0
abbrev v9:Str:="__init__"
abbrev vR:Str:="Mixed.__init__"
def G5:bK qT gC (bF rQ):=mS
abbrev uU:Stmt:=gG 58 0
abbrev yc:Str:="__init__"
abbrev zH:Str:="Toss.__init__"
def I_:bK Bh mq (bF uU):=mS
abbrev pK:Stmt:=gG 59 0
abbrev xY:Str:="__init__"
abbrev zp:Str:="Even.__init__"
def J0:bK um lY (bF pK):=mS
abbrev pL:Stmt:=gG 65 0
abbrev yM:Str:="__init__"
abbrev zj:Str:="Hall.__init__"
def Kw:bK uE lK (bF pL):=mS
abbrev tW:Stmt:=gG 65 1
abbrev yp:Str:="size"
abbrev xW:Str:="Hall.size"
def Ks:bK Lp d7 (bF tW):=mS
abbrev lV:Stmt:=gG 65 4
abbrev pB:Str:="check_room"
abbrev oU:Str:="Hall.check_room"
def wZ:bK yK dX (bF lV):=mS
abbrev mV:Stmt:=gG 65 6
abbrev uh:Str:="offers"
abbrev uz:Str:="Hall.offers"
def Fv:bK pU eF (bF mV):=mS
structure nr where
 Door:Addr
 Sure:Addr
 Mixed:Addr
 Toss:Addr
 Even:Addr
 Hall:Addr
 NOUGHT:Addr
 ONE:Addr
 Door_init:Addr
 Door_ways:Addr
 Sure_init:Addr
 Mixed_init:Addr
 Toss_init:Addr
 Even_init:Addr
 Hall_init:Addr
 Hall_size:Addr
 Hall_check_room:Addr
 Hall_offers:Addr
 T_best_rounds:Addr
 T_plan_rounds:Addr
 T_goal_rounds:Addr
structure Txt(K:Frag)(mg:Str->Ψ)(D:nr):Prop where
 V0:mg "Door"=some (.ref D.Door)
 abq:mg "Even"=some (.ref D.Even)
 aa4:mg "Hall"=some (.ref D.Hall)
 Kr:mg "Mixed"=some (.ref D.Mixed)
 ni:mg "NOUGHT"=some (.ref D.NOUGHT)
 D_:mg "ONE"=some (.ref D.ONE)
 abx:mg "Sure"=some (.ref D.Sure)
 ab1:mg "Toss"=some (.ref D.Toss)
 Es:∃u,mg "LONGEST_WORD"=some u/\z4 (.int 8) u
 abm:∃u,mg "MOST"=some u/\z4 (.int 40) u
 lg:∀H,SqT K H D.NOUGHT [.int 0,.int 1]
 xu:∀H,SqT K H D.ONE [.int 1,.int 1]
 V5:Cls K D.Door
 Kc:Meth K D.Door "ways" D.Door_ways
 Ho:b_ K D.Door "leads"
 KC:b_ K D.Door "name"
 Bx:b_ K D.Door "numbers"
 BZ:b_ K D.Door "offered"
 Lj:b_ K D.Door "pay"
 Gd:b_ K D.Door "share"
 ZM:Mk K D.Sure D.Sure_init
 Vp:Cls K D.Sure
 K4:Meth K D.Sure "ways" D.Door_ways
 G6:b_ K D.Sure "leads"
 K3:b_ K D.Sure "name"
 BL:b_ K D.Sure "numbers"
 B_:b_ K D.Sure "offered"
 M6:b_ K D.Sure "pay"
 Gr:b_ K D.Sure "share"
 WD:Mk K D.Mixed D.Mixed_init
 Sy:Cls K D.Mixed
 GR:Meth K D.Mixed "ways" D.Door_ways
 FW:b_ K D.Mixed "leads"
 FZ:b_ K D.Mixed "name"
 Ae:b_ K D.Mixed "numbers"
 zX:b_ K D.Mixed "offered"
 Jl:b_ K D.Mixed "pay"
 Fy:b_ K D.Mixed "share"
 YB:Mk K D.Toss D.Toss_init
 XS:Cls K D.Toss
 K8:Meth K D.Toss "ways" D.Door_ways
 Gb:b_ K D.Toss "leads"
 Kv:b_ K D.Toss "name"
 Bt:b_ K D.Toss "numbers"
 Br:b_ K D.Toss "offered"
 LQ:b_ K D.Toss "pay"
 Gp:b_ K D.Toss "share"
 YX:Mk K D.Even D.Even_init
 Xg:Cls K D.Even
 KZ:Meth K D.Even "ways" D.Door_ways
 GQ:b_ K D.Even "leads"
 J7:b_ K D.Even "name"
 BJ:b_ K D.Even "numbers"
 Ca:b_ K D.Even "offered"
 NK:b_ K D.Even "pay"
 GP:b_ K D.Even "share"
 Ym:Mk K D.Hall D.Hall_init
 ig:Cls K D.Hall
 oE:Meth K D.Hall "check_room" D.Hall_check_room
 lU:Meth K D.Hall "offers" D.Hall_offers
 jF:Meth K D.Hall "size" D.Hall_size
 Hh:b_ K D.Hall "leads"
 JG:b_ K D.Hall "name"
 Bs:b_ K D.Hall "numbers"
 Bw:b_ K D.Hall "offered"
 N8:b_ K D.Hall "pay"
 Gk:b_ K D.Hall "share"
 xM:Bm K D.Door "__init__" D.Door_init
 Lf:vL K yu zR ux jG D.Door_init
 J1:vL K yD zT uN lW D.Door_ways
 Ja:vL K yR zy tX lQ D.Sure_init
 vU:Bm K D.Mixed "__init__" D.Mixed_init
 G4:vL K v9 vR rQ gC D.Mixed_init
 Iz:vL K yc zH uU mq D.Toss_init
 J5:vL K xY zp pK lY D.Even_init
 I9:vL K yM zj pL lK D.Hall_init
 zB:vL K yp xW tW d7 D.Hall_size
 oH:vL K pB oU lV dX D.Hall_check_room
 uV:vL K uh uz mV eF D.Hall_offers
 MF:mg "abs"=none
 Xq:mg "all"=none
 adM:mg "any"=none
 U7:mg "bool"=none
 tK:mg "enumerate"=none
 Bb:mg "int"=none
 d9:mg "isinstance"=none
 fJ:mg "len"=none
 Ef:mg "list"=none
 jD:mg "range"=none
 U5:mg "sorted"=none
 adI:mg "str"=none
 WL:mg "sum"=none
 QM:mg "tuple"=none
 V8:mg "zip"=none
 El:dG K mg iy wI fZ
 Hy:dG K mg mQ Aw cX
 R5:dG K mg qy JD oG
 Qo:dG K mg lD xJ jg
 Xf:dG K mg zF QB vp
 Yl:dG K mg zA Kf tD
 ZJ:dG K mg zE JV uL
 acd:dG K mg CP Pg zV
 Q8:dG K mg qL Ir oN
 QZ:dG K mg nu Cw lR
 f_total:dG K mg za JW uD
 O9:dG K mg nj wY lA
 acU:dG K mg Cr Oo zG
 Ji:dG K mg m6 sI j5
 Gm:dG K mg jh jV g8
 GJ:dG K mg jo pW gO
 JM:dG K mg m_ sG jY
 Dv:dG K mg j9 lE iD
 Ka:dG K mg iY rE gB
 Tj:dG K mg mL Al kE
 Jy:dG K mg iT nW gw
 J2:dG K mg iI lN gq
 Kl:dG K mg iM nT gD
 Cg:dG K mg gQ nJ jA
 Hq:Tr K mg dg iK gR D.T_best_rounds
 Gu:Tr K mg cB mX eE D.T_plan_rounds
 Gx:Tr K mg dh jW gU D.T_goal_rounds
 Ui:dG K mg mH vD kI
 Lh:dG K mg j8 rF iH
 xV:dG K mg fD lX dW
 Eo:dG K mg iC oY fQ
 G9:dG K mg lJ m8 jk
 Gi:dG K mg lG m7 ju
 GF:dG K mg mC qj jr
 Jc:dG K mg mU qP j6
 BP:dG K mg jC nC gW
 Nu:dG K mg n8 tV lZ
 abO:dG K mg zu Ph vH
 WR:dG K mg iQ Df gM
 afy:dG K mg En WY rH
 Vt:dG K mg k_ Ej jx
 N_:dG K mg nZ uw mD
 Kz:dG K mg m9 oh jU
 YG:dG K mg xT vB uH
 YL:dG K mg xP Ju ug
 agg:dG K mg Jk Xv Dk
 abJ:dG K mg Cy wW xZ
 ZQ:dG K mg zP Cm tY
 YJ:dG K mg yt yP uM
 ach:dG K mg Ci Jw zU
 U4:dG K mg vq Dz qu
 f_look:dG K mg pF J9 pJ
 aaj:dG K mg uW JF qw
 Jz:dG K mg mW n_ jO
 acY:dG K mg Cp Qz zJ
 Z4:dG K mg xO Kp uG
 Zb:dG K mg yO K9 ur
 Ld:dG K mg mZ nU jT
 Ze:dG K mg yS CJ uf
def nK(D:nr)(C:Addr):Prop:=C=D.Door\/C=D.Sure\/C=D.Mixed\/C=D.Toss\/C=D.Even\/C=D.Hall
variable{K:Frag}{mg:Str->Ψ}{D:nr}{q m n k A:Nat}{a i:Int}{x:Str}{y:Nat->Rat}{r s:Rat}{ws ps:zd}{α:Type}{ns:Θ}{o:zt}{E:DT}{ys:zo}{frees:Β}{gs:zD}{pl:zb}{σ:L2.St}{H:Hp}{aw:Heap}{c0:Addr}{own:zz}
def Txt.cl(T:Txt K mg D):∀C,nK D C->Cls K C:=by
 rintro C (rfl|rfl|rfl|rfl|rfl|rfl)
 .exact T.V5
 .exact T.Vp
 .exact T.Sy
 .exact T.XS
 .exact T.Xg
 .exact T.ig
def Txt.yW(T:Txt K mg D):∀C,nK D C->b_ K C "leads":=by
 rintro C (rfl|rfl|rfl|rfl|rfl|rfl)
 .exact T.Ho
 .exact T.G6
 .exact T.FW
 .exact T.Gb
 .exact T.GQ
 .exact T.Hh
def Txt.Cv(T:Txt K mg D):∀C,nK D C->b_ K C "name":=by
 rintro C (rfl|rfl|rfl|rfl|rfl|rfl)
 .exact T.KC
 .exact T.K3
 .exact T.FZ
 .exact T.Kv
 .exact T.J7
 .exact T.JG
def Txt.wR(T:Txt K mg D):∀C,nK D C->b_ K C "numbers":=by
 rintro C (rfl|rfl|rfl|rfl|rfl|rfl)
 .exact T.Bx
 .exact T.BL
 .exact T.Ae
 .exact T.Bt
 .exact T.BJ
 .exact T.Bs
def Txt.Fg(T:Txt K mg D):∀C,nK D C->b_ K C "offered":=by
 rintro C (rfl|rfl|rfl|rfl|rfl|rfl)
 .exact T.BZ
 .exact T.B_
 .exact T.zX
 .exact T.Br
 .exact T.Ca
 .exact T.Bw
def Txt.Vr(T:Txt K mg D):∀C,nK D C->b_ K C "pay":=by
 rintro C (rfl|rfl|rfl|rfl|rfl|rfl)
 .exact T.Lj
 .exact T.M6
 .exact T.Jl
 .exact T.LQ
 .exact T.NK
 .exact T.N8
def Txt.Ln(T:Txt K mg D):∀C,nK D C->b_ K C "share":=by
 rintro C (rfl|rfl|rfl|rfl|rfl|rfl)
 .exact T.Gd
 .exact T.Gr
 .exact T.Fy
 .exact T.Gp
 .exact T.GP
 .exact T.Gk
def dB(D:nr)(C:Addr):Prop:=C=D.Door\/C=D.Sure\/C=D.Mixed\/C=D.Toss\/C=D.Even
def dB.fam{C:Addr}(h:dB D C):nK D C:=by
 unfold dB at h;unfold nK;rcases h with h|h|h|h|h<;>simp[h]
def Txt.JK(T:Txt K mg D):∀C,dB D C->Meth K C "ways" D.Door_ways:=by
 rintro C (rfl|rfl|rfl|rfl|rfl)
 .exact T.Kc
 .exact T.K4
 .exact T.GR
 .exact T.K8
 .exact T.KZ
section
variable{P:Program}{w:World}{K:Frag}{mg:Str->Ψ}{base:Heap}{D:nr}{f:Addr}{fd:FuncData}
abbrev A0(f:Int×Int):T:=.tup [.int f.1,.int f.2]
def KP:T->Option Bool
 |.int _=>some true
 |.bl _=>some false
 |.non=>some false
 |.str _=>some false
 |.tup _=>some false
 |.lst _=>some false
 |_=>none
def lB:ST:=λts q=>∃t b,ts=[t]/\KP t=some b/\q (.fz (.bl b))
def A_(F:Fun K iy iy wI f fd)(T:Txt K mg D):bV P w K mg base cp 1 f fd fZ (mP K lB):=by
 refine F.okT Mp (λ_ _=>bG (bT (JL (pO .int xC T.d9 T.Bb boot_int) (JQ (Iw (pO .bool xC T.d9 T.U7 boot_bool)))))) ?_;rintro _ R ⟨t,b,rfl,h,q⟩;cases t<;>cases h<;>exact q
def sE:ST:=λts q=>∃a b,ts=[.int a,.int b]/\q (.fz (.int (Int.gcd a b)))
def Dr(F:Fun K mQ mQ Aw f fd)(T:Txt K mg D):bV P w K mg base cp 1 f fd cX (mP K sE):=by
 refine F.okT QC (λhr _=>bC (bL 2 (bQ Dq T.MF boot_abs (bw xC bA)))
  (bC (bL 3 (bQ Dq T.MF boot_abs (bw xD bA)))
  (bC (FN (cM (Bf hr.units) xS bx)
  (bC (bL 4 (bJ cD xL xS))
  (bC (bL 2 xS)
  (bG (bL 3 (qv 4))))))
  (bG (bT xL))))) ?_
 rintro _ R ⟨a,b,rfl,q⟩;refine⟨λm o=>∃(l r:Nat)(x:OT),o=[.fz (.int a),.fz (.int b),.fz (.int l),.fz (.int r),x]/\Nat.gcd l r=Int.gcd a b/\m=r,⟨_,_,_,_,rfl,rfl,rfl⟩,?_⟩;rintro m _ ⟨l,r,x,rfl,hg,hm⟩;refine uk (λh=>?_) λh=>?_
 .have hr:r≠0:=by intro z;subst z;cases h
  refine⟨λo=>∃x,o=[.fz (.int a),.fz (.int b),.fz (.int r),.fz (.int ((l%r:Nat):Int)),x],?_,?_⟩
  .rintro _ ⟨x,rfl⟩;exact⟨l%r,by have:=mod_lt l (Nat.pos_of_ne_zero hr);lia,r,l%r,x,rfl,(gcd_comm r (l%r)).trans ((Nat.gcd_rec r l).symm.trans ((gcd_comm r l).trans hg)),rfl⟩
  .exact⟨by lia,_,by rw[Int.natCast_emod];rfl⟩
 .have hr:r=0:=by
   by_cases z:r=0
   .exact z
   .have:(decide ((r:Int)=0))=false:=Zp xB;rw[show xr true (decide ((r:Int)=0)) = !decide ((r:Int)=0)from rfl,this]at h;cases h
  subst hr;rw[Nat.gcd_zero_right]at hg;rw[<- hg]at q;exact q
structure yB(t b x y:Int):Prop where
 pos:0<y
 gcd:Int.gcd x y=1
 eq:x*b=t*y
 lx:x.natAbs<=t.natAbs
 ly:y.natAbs<=b.natAbs
def Dl{c q:Int}(h:c≠0):fdiv (c*q) c=q:=by
 rw[Int.fdiv_eq_ediv_of_dvd (Int.dvd_mul_right c q),Int.mul_ediv_cancel_left _ h]
def Ez{c q:Int}(h:c≠0):q.natAbs<=(c*q).natAbs:=by
 rw[VU];exact Nat.le_mul_of_pos_left _ xB
def Dj{t b c:Int}(hb:b≠0)(hc:c≠0)(hg:c.natAbs=Int.gcd t b)(hs:0<c*b):yB t b (fdiv t c) (fdiv b c):=by
 have d1:c ∣ t:=Int.natAbs_dvd.mp (by rw[hg];exact Int.gcd_dvd_left t b);have d2:c ∣ b:=Int.natAbs_dvd.mp (by rw[hg];exact Int.gcd_dvd_right t b);obtain⟨x,rfl⟩:=d1;obtain⟨y,rfl⟩:=d2;rw[Dl hc,Dl hc];refine⟨?_,?_,?_,Ez hc,Ez hc⟩
 .rw[<- Int.mul_assoc]at hs;have hp:0<c*c:=by
   rcases Int.lt_or_lt_of_ne hc with z|z
   .exact Int.mul_pos_of_neg_of_neg z z
   .exact XZ z z
  exact Int.pos_of_mul_pos_right hs hp
 .rw[Int.gcd_mul_left]at hg;have hp:0<c.natAbs:=by lia
  exact Nat.eq_of_mul_eq_mul_left hp (by rw[Nat.mul_one];exact hg.symm)
 .rw[Int.mul_left_comm,Int.mul_assoc]
def pI{b:Int}(hb:b≠0):(0:Int)<(Int.gcd a b:Nat):=by
 have:=Int.gcd_pos_of_ne_zero_right a hb;lia
def Mr{j:Int}(h:i.natAbs<=j.natAbs)(k:Bd j):Bd i:=Y3 h k
theorem Vg(h:Bd i):Bd (-i):=by unfold Bd at *;rwa[Int.natAbs_neg]
def PX{b:Int}(hb:b≠0)(h:Bd b):Bd ((Int.gcd a b:Nat):Int):=Mr (by
 have:=VT xB (Int.gcd_dvd_natAbs_right a b);omega) h
def yL:ST:=λts q=>∃t b,ts=[.int t,.int b]/\b≠0/\Bd b/\∀x y,yB t b x y->q (.fz (A0 (x,y)))
def Mz(F:Fun K qy qy JD f fd)(T:Txt K mg D)(cH:c_ P w K mg base 1 iy fZ lB)(fM:c_ P w K mg base 1 mQ cX sE):bV P w K mg base cp 2 f fd oG (mP K yL):=by
 refine F.okT VD (λhr _=>bC (cT (QW.qt (ji (dD (cR (bH cH (bw xC bA)))) (gn (dD (cR (bH cH (bw xD bA)))))))
  (bG fu)
  bU)
  (bC (cT (cM (yY hr.units) xD bx)
  (bG fu)
  bU)
  (bC (bL 2 (bH fM (bw xC (bw xD bA))))
  (bC (cT (cM zq xD bx)
  (bG (bL 2 (J6 xL)))
  bU)
  (bG (bT (cZ (bw (bJ qN xC xL) (bw (bJ qN xD xL) bA))))))))) ?_
 rintro _ R ⟨t,b,rfl,hb,hd,q⟩;refine⟨_,_,rfl,rfl,_,_,rfl,rfl,?_⟩;have g0:=pI (a:=t) hb;have g1:=PX (a:=t) hb hd;refine sN (Zp hb) ⟨_,_,rfl,pS (λhn=>⟨⟨by omega,Vg g1⟩,⟨by omega,Vg g1⟩,q _ _ (Dj hb (by omega) xB (Int.mul_pos_of_neg_of_neg xB hn))⟩) λhn=>⟨⟨by exact WP g0,g1⟩,⟨by exact WP g0,g1⟩,q _ _ (Dj hb (WP g0) xB (XZ g0 xB))⟩⟩
abbrev a_(r:Rat):T:=.tup [.int r.num,.int r.den]
def nY{t b x y:Int}(h:yB t b x y)(hb:b≠0):A0 (x,y)=a_ (divInt t b):=by
 have hy:=h.pos;have e:divInt t b=⟨x,y.toNat,by lia,by have:=h.gcd;unfold Int.gcd at this;rw[show y.toNat=y.natAbs by lia];exact this⟩:=by
  rw[Rat.mk_eq_divInt,show((y.toNat:Nat):Int)=y by exact JP (XY hy)];exact(JJ hb (WP hy)).mpr h.eq.symm
 rw[e];show T.tup [.int x,.int y]=.tup [.int x,.int (y.toNat:Nat)];rw[show((y.toNat:Nat):Int)=y by exact JP (XY hy)]
def rd(r:Rat):divInt r.num r.den=r:=Rat.num_divInt_den r
def kJ(r:Rat):((r.den:Nat):Int)≠0:=by have:=r.den_pos;lia
def Bq(r:Rat):Prop:=Bd r.num/\Bd (r.den:Nat)
def IV:ST:=λts q=>∃a b:Rat,ts=[a_ a,a_ b]/\Bq a/\Bq b/\Bd ((a.den:Int)*b.den)/\q (.fz (a_ (a+b)))
def Mt:ST:=λts q=>∃a b:Rat,ts=[a_ a,a_ b]/\Bq a/\Bq b/\Bd ((a.den:Int)*b.den)/\q (.fz (a_ (a-b)))
def NQ:ST:=λts q=>∃a b:Rat,ts=[a_ a,a_ b]/\Bq a/\Bq b/\Bd ((a.den:Int)*b.den)/\q (.fz (a_ (a*b)))
def Q5:ST:=λts q=>∃a b:Rat,ts=[a_ a,a_ b]/\b≠0/\Bq a/\Bq b/\Bd ((a.den:Int)*b.num)/\q (.fz (a_ (a/b)))
def zN:ST:=λts q=>∃a b:Rat,ts=[a_ a,a_ b]/\Bq a/\Bq b/\q (.fz (.bl (decide (a<b))))
def mO{b:Int}(ha:a≠0)(hb:b≠0):a*b≠0:=λz=>(Int.mul_eq_zero.mp z).elim ha hb
section
variable(fG:c_ P w K mg base 2 qy oG yL)
include fG
def R8(F:Fun K zF zF QB f fd):bV P w K mg base cp 3 f fd vp (mP K IV):=by
 refine F.okT WN (λ_ _=>bG (bT (bH fG (bw (bJ cN (bJ cI (bI xC bx) (bI xD bx)) (bJ cI (bI xD bx) (bI xC bx))) (bw (bJ cI (bI xC bx) (bI xD bx)) bA))))) ?_;rintro _ R ⟨a,b,rfl,ha,hb,hd,q⟩;refine⟨⟨ha.1,hb.2⟩,⟨hb.1,ha.2⟩,⟨ha.2,hb.2⟩,_,_,rfl,mO (kJ a) (kJ b),hd,λx y l=>?_⟩;rwa[nY l (mO (kJ a) (kJ b)),<- Tu _ _ (kJ a) (kJ b),rd,rd]
def Vc(F:Fun K zA zA Kf f fd):bV P w K mg base cp 3 f fd tD (mP K Mt):=by
 refine F.okT XQ (λ_ _=>bG (bT (bH fG (bw (bJ wJ (bJ cI (bI xC bx) (bI xD bx)) (bJ cI (bI xD bx) (bI xC bx))) (bw (bJ cI (bI xC bx) (bI xD bx)) bA))))) ?_;rintro _ R ⟨a,b,rfl,ha,hb,hd,q⟩;refine⟨⟨ha.1,hb.2⟩,⟨hb.1,ha.2⟩,⟨ha.2,hb.2⟩,_,_,rfl,mO (kJ a) (kJ b),hd,λx y l=>?_⟩;rwa[nY l (mO (kJ a) (kJ b)),<- Rat.divInt_sub_divInt _ _ (kJ a) (kJ b),rd,rd]
def VG(F:Fun K zE zE JV f fd):bV P w K mg base cp 3 f fd uL (mP K NQ):=by
 refine F.okT V1 (λ_ _=>bG (bT (bH fG (bw (bJ cI (bI xC bx) (bI xD bx)) (bw (bJ cI (bI xC bx) (bI xD bx)) bA))))) ?_;rintro _ R ⟨a,b,rfl,ha,hb,hd,q⟩;refine⟨⟨ha.1,hb.1⟩,⟨ha.2,hb.2⟩,_,_,rfl,mO (kJ a) (kJ b),hd,λx y l=>?_⟩;rwa[nY l (mO (kJ a) (kJ b)),<- TR,rd,rd]
def Y8(F:Fun K CP CP Pg f fd):bV P w K mg base cp 3 f fd zV (mP K Q5):=by
 refine F.okT Zk (λ_ _=>bG (bT (bH fG (bw (bJ cI (bI xC bx) (bI xD bx)) (bw (bJ cI (bI xC bx) (bI xD bx)) bA))))) ?_;rintro _ R ⟨a,b,rfl,h0,ha,hb,hd,q⟩;have nb:b.num≠0:=λz=>h0 (by rw[<- rd b,z];exact TK _);refine⟨⟨ha.1,hb.2⟩,⟨ha.2,hb.1⟩,_,_,rfl,mO (kJ a) nb,hd,λx y l=>?_⟩;rwa[nY l (mO (kJ a) nb),<- TR,rd,<- Rat.inv_def,<- Rat.div_def]
end
def MP(F:Fun K qL qL Ir f fd):bV P w K mg base cp 1 f fd oN (mP K zN):=by
 refine F.okT X4 (λ_ _=>bG (bT (oO zq (bJ cI (bI xC bx) (bI xD bx)) (bJ cI (bI xD bx) (bI xC bx))))) ?_;rintro _ R ⟨a,b,rfl,ha,hb,q⟩;refine⟨⟨ha.1,hb.2⟩,⟨hb.1,ha.2⟩,?_⟩;rw[show decide (a<b)=decide (a.num*(b.den:Int)<b.num*(a.den:Int))from decide_eq_decide.mpr (lt_iff a b)]at q;exact q
def pH:ST:=λts q=>∃r:Rat,ts=[a_ r]/\q (.fz (.bl true))
def MK(F:Fun K lD lD xJ f fd)(T:Txt K mg D)(cH:c_ P w K mg base 1 iy fZ lB)(fM:c_ P w K mg base 1 mQ cX sE):bV P w K mg base cp 2 f fd jg (mP K pH):=by
 refine F.okT LK (λhr _=>bC (cT (QW.qt (ji (dD (cR (pO .tuple xC T.d9 T.QM boot_tuple))) (gn (cM (Bf hr.units) (bQ eG T.fJ WJ (bw xC bA)) bx))))
  (bG (bT nQ))
  bU)
  (bC (bL 1 (bI xC bx))
  (bC (bL 2 (bI xC bx))
  (bC (cT (QW.qt (ji (dD (cR (bH cH (bw xD bA)))) (gn (dD (cR (bH cH (bw xL bA)))))))
  (bG (bT nQ))
  bU)
  (bG (bT (JL (oO GM xL bx) (JQ (oO (yY hr.units) (bH fM (bw xD (bw xL bA))) bx))))))))) ?_
 rintro _ R ⟨r,rfl,q⟩;refine⟨_,_,rfl,rfl,_,_,rfl,rfl,?_⟩;have:=r.den_pos;refine uj (Zs xB) ⟨_,_,rfl,?_⟩;rwa[show Int.gcd r.num r.den=1 from r.reduced]
def LW:zo->Nat
 |[]=>1
 |r::rs=>Nat.lcm r.den (LW rs)
def bO(n:Nat):zo->Nat
 |[]=>n
 |r::rs=>bO (Nat.lcm n r.den) rs
theorem f9:∀(rs:zo){n:Nat},0<n->0<bO n rs
 |[],_,h=>h
 |r::rs,_,h=>f9 rs (Nat.lcm_pos h r.den_pos)
theorem j7:∀(rs:zo){n:Nat},n ∣ bO n rs/\∀r∈rs,r.den ∣ bO n rs
 |[],n=>⟨dvd_refl n,λ_ z=>(nomatch z)⟩
 |r::rs,n=>by
  obtain⟨a,b⟩:=j7 rs (n:=Nat.lcm n r.den);refine⟨Tk (Nat.dvd_lcm_left ..) a,λx hx=>?_⟩;rcases YU.mp hx with rfl|z
  .exact Tk (Nat.dvd_lcm_right ..) a
  .exact b x z
theorem kO:∀(rs:zo){n m:Nat},n ∣ m->(∀r∈rs,r.den ∣ m)->bO n rs ∣ m
 |[],_,_,h,_=>h
 |r::rs,_,_,h,k=>kO rs (Nat.lcm_dvd h (k r (aN ..))) λx hx=>k x (aH _ hx)
theorem DW:∀(as bs:zo)(n:Nat),bO n (as++bs)=bO (bO n as) bs
 |[],_,_=>rfl
 |_::as,bs,_=>DW as bs _
def f_(B:Nat)(rs:zo):zS:=rs.map λr=>r.num*((B/r.den:Nat):Int)
def Qe(h:Bd (n:Int))(l:m<=n):Bd (m:Int):=Mr (by omega) h
def VH(n d:Nat):(fdiv (n:Int) ((Int.gcd n d:Nat):Int))*d=((Nat.lcm n d:Nat):Int):=by
 rw[show Int.gcd (n:Int) (d:Int)=Nat.gcd n d from rfl,Int.fdiv_eq_ediv_of_dvd (Int.natCast_dvd_natCast.mpr (Nat.gcd_dvd_left n d)),<- Int.natCast_ediv,<- U1,Nat.lcm,Nat.div_mul_right_comm (Nat.gcd_dvd_left n d)]
def Ek(m n:Nat):fdiv (m:Int) (n:Int)=((m/n:Nat):Int):=by rw[Int.fdiv_eq_ediv_of_nonneg _ (Wp _)];rfl
def qJ:ST:=λts q=>∃rs:zo,ts=[.lst (rs.map a_)]/\rs.length<=1000/\(∀r∈rs,Bd r.num)/\Bd (bO 1 rs:Nat)/\q (.fz (.tup [.lst ((f_ (bO 1 rs) rs).map T.int),.int (bO 1 rs:Nat)]))
def M7(F:Fun K nu nu Cw f fd)(fM:c_ P w K mg base 1 mQ cX sE):bV P w K mg base cp 2 f fd lR (mP K qJ):=by
 refine F.okT Vz (λ_ _=>bC (bL 1 bx)
  (bC (gA (cG xC) (cC (n:=99) 2)
  (bG (bL 1 (bJ cI (bJ qN xD (bH fM (bw xD (bw (bI xL bx) bA)))) (bI xL bx)))))
  (bG (bT (cZ (bw (dO (bF Cw) Rb ["fractions","bottom","?one"] ["one"] (cG xC) (gH (i:=0)) cJ (bJ cI (bI xC bx) (bJ qN xL (bI xC bx)))) (bw xD bA))))))) ?_
 rintro _ R ⟨rs,rfl,rl,hn,hB,q⟩;refine jq a_ rs (λas o=>∃x,o=[.fz (.lst (rs.map a_)),.fz (.int (bO 1 as:Nat)),x]) ⟨_,rfl⟩ ?_ ?_
 .rintro as a bs _ e ⟨x,rfl⟩;have d1:=(j7 (a::bs) (n:=bO 1 as)).1;have el:bO 1 rs=bO (bO 1 as) (a::bs):=by rw[e];exact DW as (a::bs) 1
  have hp:=f9 as VQ;have hB0:=f9 rs VQ;have b1:Bd (bO 1 as:Nat):=Qe hB (el ▸ VT (el ▸ hB0) d1);have b2:Bd (a.den:Nat):=Qe hB (VT hB0 ((j7 rs).2 a (e ▸ by simp)));refine⟨_,_,rfl,⟨by have:=pI (a:=(bO 1 as:Nat)) (kJ a);exact WP this,PX (kJ a) b2⟩,⟨Mr ?_ b1,b2⟩,.fz (a_ a),?_⟩
  .rw[show Int.gcd ((bO 1 as:Nat):Int) (a.den:Int)=Nat.gcd (bO 1 as) a.den from rfl,Ek];exact div_le_self ..
  .rw[VH,DW]
   rfl
 .rintro _ ⟨x,rfl⟩;refine⟨aK (by simpa using rl) xa,comp_map a_ (λr=>.int (r.num*((bO 1 rs/r.den:Nat):Int))) rs (λr hr N M hN=>?_) ?_⟩
  .have b2:Bd (r.den:Nat):=Qe hB (VT (f9 rs VQ) ((j7 rs).2 r hr));refine⟨⟨kJ r,b2⟩,⟨hn r hr,Mr ?_ hB⟩,?_⟩
   .rw[Ek];exact div_le_self ..
   .rw[Ek];exact hN
  .have:(f_ (bO 1 rs) rs).map T.int=rs.map (λr=>.int (r.num*((bO 1 rs/r.den:Nat):Int))):=by unfold f_;rw[WU];rfl
   rw[this]at q;exact q
def R4(l:zD):Bool:=decide (1<=l.length)&&decide (l.length<=8)&&l.all λc=>decide (97<=c)&&decide (c<=122)
abbrev Wd(n:Str):Prop:=R4 n.cps.toList=true
def Wd.len{n:Str}(h:Wd n):1<=n.length/\n.length<=8:=by
 unfold Wd R4 at h;simp only[and_eq_true,decide_eq_true_eq,Array.length_toList]at h;exact h.1
def Ro(c d:Nat):(!decide ((⟨#[d]⟩ : Str).cps.toList<(⟨#[c]⟩ : Str).cps.toList))=decide (c<=d):=by
 have:((⟨#[d]⟩ : Str).cps.toList<(⟨#[c]⟩ : Str).cps.toList)↔d<c:=by
  show[d]<[c]↔d<c;constructor
  .intro h;cases h with
   |rel h=>exact h
   |cons h=>cases h
  .exact λh=>.rel h
 rw[show decide ((⟨#[d]⟩ : Str).cps.toList<(⟨#[c]⟩ : Str).cps.toList)=decide (d<c)from decide_eq_decide.mpr this];by_cases h:c<=d
 .rw[Zs h,Zp (JY h)];rfl
 .rw[Zp h,Zs (Nat.lt_of_not_le h)];rfl
def rA:ST:=λts q=>∃n:Str,ts=[.str n]/\Wd n/\q (.fz (.bl true))
def Qf(F:Fun K mH mH vD f fd)(T:Txt K mg D):bV P w K mg base cp 1 f fd kI (mP K rA):=by
 refine F.okT Oq (λ_ _=>bC (cT (QW.qt (ji (dD (cR (pO .str xC T.d9 T.adI boot_str))) (gn (dD (Fi Bk Bk bx (bQ Yb T.fJ WJ (bw xC bA)) (Nh T.Es λ_=>.int _))))))
  (bG (bT nQ))
  bU)
  (bG (bT (bQ (O5 rfl) T.Xq boot_all (bw (dO (bF vD) Ak Ak ["sign"] (SU xC) (gH (i:=0)) cJ (NZ W7 W7 Jp xC Jp)) bA))))) ?_
 rintro _ R ⟨n,rfl,hw,q⟩;obtain⟨l1,l8⟩:=hw.len;refine⟨aK l8 xa,uj (Zs xB) (sN (by rw[Zs (show((n.length:Nat):Int)<=8 by lia)];rfl) ⟨by rw[ak];exact aK l8 xa,comp_map (λc=>.str ⟨#[c]⟩) (λc=>.bl (decide (97<=c)&&decide (c<=122))) n.cps.toList (λc _ N M hN=>?_) ⟨n.cps.toList.map λc=>decide (97<=c)&&decide (c<=122),by rw[WU];rfl,?_⟩⟩)⟩
 .have e1:(!decide ((⟨#[c]⟩ : Str).cps.toList<("a":Str).cps.toList))=decide (97<=c):=by rw[show("a":Str)=⟨#[97]⟩from by decide +kernel];exact Ro 97 c
  have e2:(!decide (("z":Str).cps.toList<(⟨#[c]⟩ : Str).cps.toList))=decide (c<=122):=by rw[show("z":Str)=⟨#[122]⟩from by decide +kernel];exact Ro c 122
  refine uk (λh=>?_) λh=>?_
  .rw[<- e1,h,<- e2]at hN;exact hN
  .rw[<- e1,h]at hN;exact hN
 .have:((n.cps.toList.map λc=>decide (97<=c)&&decide (c<=122)).all λb=>b)=true:=by
   unfold Wd R4 at hw;rw[and_eq_true]at hw;rw[all_map];exact hw.2
  rw[<- this]at q;exact q
def qp:ST:=λts q=>∃(n:Str)(r:Rat),ts=[.str n,a_ r]/\Wd n/\q (.fz .non)
def GZ(F:Fun K j8 j8 rF f fd)(jH:c_ P w K mg base 1 mH kI rA)(iz:c_ P w K mg base 2 lD jg pH):bV P w K mg base cp 3 f fd iH (mP K qp):=by
 refine F.okT Hj (λ_ _=>bC (cT (dD (cR (bH jH (bw xC bA))))
  (bG fu)
  bU)
  (bG (cT (dD (cR (bH iz (bw xD bA))))
  (bG fu)
  bU))) ?_
 rintro _ R ⟨n,r,rfl,hw,q⟩;exact⟨_,rfl,hw,_,rfl,q⟩
def kW:ST:=λts q=>∃n:Str,ts=[.str n]/\Wd n/\q (.fz .non)
def xH(F:Fun K fD fD lX f fd)(jH:c_ P w K mg base 1 mH kI rA):bV P w K mg base cp 2 f fd dW (mP K kW):=by
 refine F.okT wV (λ_ _=>bG (cT (dD (cR (bH jH (bw xC bA))))
  (bG fu)
  bU)) ?_
 rintro _ R ⟨n,rfl,hw,q⟩;exact⟨_,rfl,hw,q⟩
def Ch(r:Rat):Prop:=0<=r/\r<=1/\Bd (r.den:Nat)
def Ch.bq(h:Ch r):Bq r:=by
 have h0:=Rat.num_nonneg.mpr h.1;have h1:=(le_iff r 1).mp h.2.1;exact⟨Mr (by have:r.num*((1:Rat).den:Int)<=(1:Rat).num*(r.den:Int):=h1;simp at this;omega) h.2.2,h.2.2⟩
def A1:Bq 0:=⟨Nat.two_pow_pos 8000,Nat.one_lt_two_pow xa⟩
def vb:Bq 1:=⟨Nat.one_lt_two_pow xa,Nat.one_lt_two_pow xa⟩
def nF:ST:=λts q=>∃r:Rat,ts=[a_ r]/\Ch r/\q (.fz .non)
def Bv(F:Fun K iC iC oY f fd)(T:Txt K mg D)(iz:c_ P w K mg base 2 lD jg pH)(kj:c_ P w K mg base 1 qL oN zN):bV P w K mg base cp 3 f fd fQ (mP K nF):=by
 refine F.okT Bu (λ_ _=>bG (cT (QW.qt (ji (dD (cR (bH iz (bw xC bA)))) (ji (cR (bH kj (bw xC (bw (oX T.ni T.lg) bA)))) (gn (cR (bH kj (bw (oX T.D_ T.xu) (bw xC bA))))))))
  (bG fu)
  bU)) ?_
 rintro _ R ⟨r,rfl,hc,q⟩;refine⟨_,rfl,r,0,rfl,hc.bq,A1,?_⟩;rw[Zp (Rat.not_lt.mpr hc.1)];refine⟨1,r,rfl,vb,hc.bq,?_⟩;rwa[Zp (Rat.not_lt.mpr hc.2.1)]
def w6(rs:zo):Rat:=rs.foldr (· + ·) 0
theorem Nb{B:Nat}(hB:B≠0):∀{rs:zo},(∀r∈rs,r.den ∣ B)->divInt (f_ B rs).sum B=w6 rs
 |[],_=>by show divInt 0 _=0;exact TK _
 |r::rs,h=>by
  have ih:=Nb hB (rs:=rs) λx hx=>h x (aH _ hx);have mw:((B:Nat):Int)≠0:=by lia
  obtain⟨m,hm⟩:=h r (aN ..);show divInt (r.num*((B/r.den:Nat):Int)+(f_ B rs).sum) B=r+w6 rs;have e1:r+w6 rs=divInt (r.num*B+(f_ B rs).sum*r.den) (r.den*B):=by rw[<- Tu _ _ (kJ r) mw,rd,ih]
  rw[e1];refine(JJ mw (mO (kJ r) mw)).mpr ?_;have:B/r.den=m:=by rw[hm];exact Nat.mul_div_cancel_left _ r.den_pos
  rw[this,hm];simp only[U1]
  grind
def Mg:ST:=λts q=>∃rs:zo,ts=[.lst (rs.map a_)]/\rs.length<=1000/\(∀r∈rs,Bd r.num)/\Bd (bO 1 rs:Nat)/\q (.fz (a_ (w6 rs)))
def Xm(F:Fun K za za JW f fd)(T:Txt K mg D)(gJ:c_ P w K mg base 2 nu lR qJ)(fG:c_ P w K mg base 2 qy oG yL):bV P w K mg base cp 3 f fd uD (mP K Mg):=by
 refine F.okT XJ (λ_ _=>bC (bL 1 (bH gJ (bw xC bA)))
  (bG (bT (bH fG (bw (bQ (Qg rfl) T.WL boot_sum (bw (bI xD bx) bA)) (bw (bI xD bx) bA)))))) ?_
 rintro _ R ⟨rs,rfl,rl,hn,hB,q⟩;have hp:=f9 rs VQ;have hz:((bO 1 rs:Nat):Int)≠0:=by lia
 refine⟨rs,rfl,rl,hn,hB,_,rfl,_,_,rfl,hz,hB,λx y l=>?_⟩;rwa[nY l hz,Nb (UY hp) (j7 rs).2]
abbrev n9(p:Str×Rat):T:=.tup [.str p.1,a_ p.2]
def t_:ST:=λts q=>∃ps:zi,ts=[.lst (ps.map n9)]/\ps.length<=1000/\(∀p∈ps,Wd p.1/\Ch p.2)/\Bd (bO 1 (ps.map (·.2)):Nat)/\w6 (ps.map (·.2))=1/\q (.fz .non)
def Fz(F:Fun K lJ lJ m8 f fd)(T:Txt K mg D)(eN:c_ P w K mg base 2 fD dW kW)(h_:c_ P w K mg base 3 iC fQ nF)(J8:c_ P w K mg base 3 za uD Mg):bV P w K mg base cp 4 f fd jk (mP K t_):=by
 refine F.okT DK (λhr _=>bC (gA (cG xC) (jN (n:=2) (bY (cC (n:=99) 1) (bY (cC (n:=99) 2) gb)))
  (bC (je (bH eN (bw xD bA)))
  (bG (je (bH h_ (bw xL bA))))))
  (bG (cT (cM (Bf hr.units) (bH J8 (bw (dO (bF m8) qe qe ["pair"] (cG xC) (gH (i:=0)) cJ (bI xC bx)) bA)) (oX T.D_ T.xu))
  (bG fu)
  bU))) ?_
 rintro _ R ⟨ps,rfl,pl,hp,hB,hs,q⟩;refine jq n9 ps (λ_ o=>∃x y,o=[.fz (.lst (ps.map n9)),x,y]) ⟨_,_,rfl⟩ ?_ ?_
 .rintro as a bs _ e ⟨x,y,rfl⟩;obtain⟨h1,h2⟩:=hp a (e ▸ by simp);exact⟨rfl,_,rfl,h1,_,rfl,h2,_,_,rfl⟩
 .rintro _ ⟨x,y,rfl⟩;refine⟨aK (by simpa using pl) xa,comp_map n9 (λp=>a_ p.2) ps (λp _ N M hN=>hN) ⟨ps.map (·.2),by rw[WU];rfl,by simpa using pl,λr hr=>?_,hB,?_⟩⟩
  .obtain⟨p,g3,rfl⟩:=YV.mp hr;exact(hp p g3).2.bq.1
  .rw[hs];exact q
def nV(ws:zi)(p:Str×Rat):zi:=if(ws.any λx=>decide (x.1=p.1))=true then ws.map (λx=>if x.1=p.1 then(x.1,x.2+p.2)else x)else ws++[p]
def j4(ps:zi):zi:=ps.foldl nV []
abbrev pM(ws:zi):xk:=ws.map λx=>.inr x.1
abbrev r9(ws:zi):zg:=ws.map λx=>a_ x.2
def P5(ws:zi)(n:Str):JT (pM ws) (.inr n)=ws.any λx=>decide (x.1=n):=by
 unfold JT;rw[any_map]
 congr 1
 funext x
 exact decide_eq_decide.mpr ⟨λz=>Sum.inr.inj z,λz=>ZH Sum.inr z⟩
theorem Qd(n:Str):∀ws:zi,oK (pM ws) (r9 ws) (.inr n)=(ws.find? λx=>decide (x.1=n)).map λx=>a_ x.2
 |[]=>rfl
 |x::ws=>by
  show(if(Sum.inr x.1:nS)=.inr n then some (a_ x.2)else oK (pM ws) (r9 ws) (.inr n))=_;by_cases h:x.1=n
  .rw[ZY (ZH Sum.inr h),List.find?_cons_of_pos (p:=λx:Str×Rat=>decide (x.1=n)) (Zs h)];rfl
  .rw[ZZ λz=>h (Sum.inr.inj z),List.find?_cons_of_neg (p:=λx:Str×Rat=>decide (x.1=n)) (by show ¬decide (x.1=n)=true;rw[Zp h];decide),Qd n ws]
def xq(ws:zi)(n:Str):Rat:=((ws.find? λx=>decide (x.1=n)).map (·.2)).getD 0
def YF(ws:zi)(n:Str):((oK (pM ws) (r9 ws) (.inr n)).getD (a_ 0))=a_ (xq ws n):=by
 rw[Qd];unfold xq;cases(ws.find? λx=>decide (x.1=n))<;>rfl
def RL{ws:zi}{n:Str}(nd:(ws.map (·.1)).Nodup){x:Str×Rat}(hx:x∈ws)(e:x.1=n):(ws.find? λy=>decide (y.1=n))=some x:=by
 induction ws with
 |nil=>cases hx
 |cons y ws ih =>
  obtain⟨n1,n2⟩:=List.nodup_cons.mp nd;rcases YU.mp hx with rfl|z
  .exact List.find?_cons_of_pos (p:=λy:Str×Rat=>decide (y.1=n)) (Zs e)
  .rw[List.find?_cons_of_neg (p:=λy:Str×Rat=>decide (y.1=n)) (by show ¬decide (y.1=n)=true;rw[Zp λw=>n1 (YV.mpr ⟨x,z,e.trans w.symm⟩)];decide)];exact ih n2 z
def Pp(ws:zi)(p:Str×Rat)(nd:(ws.map (·.1)).Nodup):r8 (pM ws) (.inr p.1)=pM (nV ws p)/\pw (pM ws) (r9 ws) (.inr p.1) (a_ (xq ws p.1+p.2))=r9 (nV ws p):=by
 unfold r8 pw nV;rw[P5];by_cases h:(ws.any λx=>decide (x.1=p.1))=true
 .rw[ZY h,ZY h,ZY h];refine⟨by simp only[pM,WU];refine Th λx _=>?_;show(Sum.inr x.1:nS)=.inr (if x.1=p.1 then(x.1,x.2+p.2)else x).1;split<;>rfl,?_⟩
  clear h
  rw[show r9 (ws.map λx=>if x.1=p.1 then(x.1,x.2+p.2)else x)=ws.map ((λx=>a_ x.2) ∘ λx=>if x.1=p.1 then(x.1,x.2+p.2)else x)from WU]
  suffices H:∀(us:zi),(∀x∈us,x.1=p.1->x.2=xq ws p.1)->zipWith (λ(k:nS)x=>if k=.inr p.1 then a_ (xq ws p.1+p.2)else x) (pM us) (r9 us)=us.map ((λx=>a_ x.2) ∘ λx=>if x.1=p.1 then(x.1,x.2+p.2)else x)from H ws λx hx e=>by
   unfold xq;rw[RL nd hx e];rfl
  intro us
  induction us with
  |nil=>intro _;rfl
  |cons x us ih =>
   intro H;show zipWith _ (Sum.inr x.1::pM us) (a_ x.2::r9 us)=_;rw[zipWith_cons_cons,ih λy hy=>H y (aH _ hy),map_cons]
   congr 1
   by_cases e:x.1=p.1
   .rw[ZY (ZH Sum.inr e)];show _=a_ (if x.1=p.1 then(x.1,x.2+p.2)else x).2;rw[ZY e,H x (aN ..) e]
   .rw[ZZ λz=>e (Sum.inr.inj z)];show _=a_ (if x.1=p.1 then(x.1,x.2+p.2)else x).2;rw[ZZ e]
 .rw[ZZ h,ZZ h,ZZ h];have n0:xq ws p.1=0:=by
   unfold xq;rw[List.find?_eq_none.mpr λx hx z=>h (List.any_eq_true.mpr ⟨x,hx,z⟩)];rfl
  rw[n0,Rat.zero_add];simp only[pM,r9,aZ];exact⟨rfl,rfl⟩
def R6{α:Type}[DecidableEq α]{ws:List (α×Rat)}{p:α×Rat}(nd:(ws.map (·.1)).Nodup):((if(ws.any λx=>decide (x.1=p.1))=true then ws.map (λx=>if x.1=p.1 then(x.1,x.2+p.2)else x)else ws++[p]).map (·.1)).Nodup:=by
 by_cases h:(ws.any λx=>decide (x.1=p.1))=true
 .rw[ZY h,WU];rw[show ws.map ((λx=>x.1) ∘ λx=>if x.1=p.1 then(x.1,x.2+p.2)else x)=ws.map (·.1)from Th λx _=>by show(if x.1=p.1 then(x.1,x.2+p.2)else x).1=x.1;split<;>rfl];exact nd
 .rw[ZZ h,aZ];refine List.nodup_append.mpr ⟨nd,by simp,λa ha b hb z=>h ?_⟩;obtain⟨x,hx,rfl⟩:=YV.mp ha;rw[map_singleton,YR]at hb;exact List.any_eq_true.mpr ⟨x,hx,Zs (z.trans hb)⟩
def YD{ws:zi}{p:Str×Rat}(nd:(ws.map (·.1)).Nodup):((nV ws p).map (·.1)).Nodup:=R6 nd
def Ut(as bs:zi):j4 (as++bs)=bs.foldl nV (j4 as):=List.foldl_append ..
def Mh(ps:zi):((j4 ps).map (·.1)).Nodup:=by
 suffices H:∀(ps ws:zi),(ws.map (·.1)).Nodup->((ps.foldl nV ws).map (·.1)).Nodup from H ps [] .nil
 intro ps
 induction ps with
 |nil=>exact λ_ h=>h
 |cons p ps ih=>exact λws h=>ih _ (YD h)
def Il(ps:zi):(j4 ps).length<=ps.length:=by
 suffices H:∀(ps ws:zi),(ps.foldl nV ws).length<=ws.length+ps.length from by simpa[j4]using H ps []
 intro ps
 induction ps with
 |nil=>exact λ_=>aF _
 |cons p ps ih =>
  intro ws;have h1:(nV ws p).length<=ws.length+1:=by
   unfold nV;split
   .rw[ak];exact Xs _
   .rw[aA,length_singleton];exact aF _
  have:=ih (nV ws p);rw[foldl_cons,length_cons];lia
def GN(ps:zi):Prop:=∀as a bs,ps=as++a::bs->Bq (xq (j4 as) a.1)/\Bq a.2/\Bd (((xq (j4 as) a.1).den:Int)*a.2.den)
def zm(ps:zi):zi:=(j4 ps).filter λp=>!decide (p.2=0)
def tG:ST:=λts q=>∃ps:zi,ts=[.lst (ps.map n9)]/\ps.length<=1000/\GN ps/\q (.l1 ((zm ps).map n9))
def Er(F:Fun K lG lG m7 f fd)(T:Txt K mg D)(wQ:c_ P w K mg base 3 zF vp IV):bV P w K mg base cp 4 f fd ju (mP K tG):=by
 refine F.okT DX (λhr _=>bC (jL 1 Kg)
  (bC (gA (cG xC) (jN (n:=2) (bY (cC (n:=99) 2) (bY (cC (n:=99) 3) gb)))
  (bG (Km 1 (vV hr) (bH wQ (bw (YZ 1 (vV hr) xL (oX T.ni T.lg)) (bw xS bA))) xL)))
  (bG (X8 1 (bF m7) v8 ["pairs","chances","?room","chance"] ["room"] (gH (i:=0)) (Z1 (cM (Bf hr.units) (KN (vV hr) xL xC) (oX T.ni T.lg))) (cZ (bw xC (bw (KN (vV hr) xL xC) bA))))))) ?_
 rintro _ R ⟨ps,rfl,pl,hb,q⟩;refine jq n9 ps (λas o=>∃x y,o=[.fz (.lst (ps.map n9)),.d1 (pM (j4 as)) (r9 (j4 as)),x,y]) ⟨_,_,rfl⟩ ?_ ?_
 .rintro as a bs _ e ⟨x,y,rfl⟩;obtain⟨h1,h2,h3⟩:=hb as a bs e;refine⟨rfl,_,rfl,xq (j4 as) a.1,a.2,ZH (λt=>[t,a_ a.2]) (YF (j4 as) a.1),h1,h2,h3,_,rfl,?_,.fz (.str a.1),.fz (a_ a.2),?_⟩
  .have:=Il as;have:as.length<=ps.length:=by rw[e];simp
   rw[ak];exact Y3 (show _<=1000 by lia) xa
  .obtain⟨k1,k2⟩:=Pp (j4 as) a (Mh as);rw[show j4 (as++[a])=nV (j4 as) a from by rw[Ut];rfl,<- k1,<- k2]
   rfl
 .rintro _ ⟨x,y,rfl⟩;have jl:=Il ps;refine⟨by rw[ak];exact aK (show _<=1000 by exact aK jl pl) xa,?_⟩;dsimp only;rw[show(pM (j4 ps)).map kT=(j4 ps).map λp=>.str p.1 from WU];refine uT (λp=>.str p.1) (λp=>!decide (p.2=0)) n9 (j4 ps) (λp hp N M hN hM=>?_) ?_
  rotate_left
  .exact q
  have ev:oK (pM (j4 ps)) (r9 (j4 ps)) (.inr p.1)=some (a_ p.2):=by rw[Qd,RL (Mh ps) hp rfl];rfl
  refine⟨_,_,rfl,ev,?_⟩;have ez:(decide (p.2.num=0)&&decide ((p.2.den:Int)=1))=decide (p.2=0):=by
   by_cases z:p.2=0
   .rw[z];decide
   .rw[Zp z,Zp λy=>z (Rat.num_eq_zero.mp y)];rfl
  refine uk (λh=>⟨_,_,rfl,ev,hN ?_⟩) λh=>hM ?_
  .rw[<- h];exact ZH (λb=>!b) ez.symm
  .rw[<- h];exact ZH (λb=>!b) ez.symm
abbrev sS:Θ:=["name","pay","leads"]
abbrev tj(C:Addr)(n:Str)(p:Rat)(ws:zi):T:=.ins C sS [.str n,a_ p,.lst (ws.map n9)]
def K5(D:nr):SI:=λC ks ts as R=>∃(n:Str)(p:Rat),ks=[]/\ts=[]/\nK D C/\as=[.str n,a_ p]/\Wd n/\R sS [.str n,a_ p,.lst []]
def Jb(F:Fun K yu zR ux f fd)(T:Txt K mg D)(jB:c_ P w K mg base 3 j8 iH qp):bV P w K mg base cp 4 f fd jG (oI K (K5 D)):=by
 refine F.okI Js (λC ks ts as R hP=>by obtain⟨n,p,_,_,_,e,_⟩:=hP;exact e ▸ rfl) xa λaf A outer s H E hr nd=>?_;refine⟨_,(bC (je (bH jB (bw xD (bw xL bA))))
  (bC (pG (Fm:=nK D) 0 (λC h=>⟨T.cl C h,T.Cv C h⟩) xD)
  (bC (pG (Fm:=nK D) 0 (λC h=>⟨T.cl C h,T.Vr C h⟩) xL)
  (bG (pG (Fm:=nK D) 0 (λC h=>⟨T.cl C h,T.yW C h⟩) (dN bA)))))),?_⟩
 rintro a dx C _ _ _ R ⟨n,p,rfl,rfl,hC,rfl,hw,q⟩;exact⟨_,_,rfl,hw,⟨hC,by decide⟩,⟨hC,by decide⟩,⟨hC,by decide⟩,_,_,rfl,q⟩
def Vv(D:nr):nK D D.Sure:=by simp[nK]
def Sx(D:nr):nK D D.Mixed:=by simp[nK]
def Xe(D:nr):nK D D.Toss:=by simp[nK]
def X6(D:nr):nK D D.Even:=by simp[nK]
def yd(D:nr):nK D D.Hall:=by simp[nK]
def Sd(D:nr):SI:=λC ks ts as R=>∃(n m:Str)(p:Rat),ks=[]/\ts=[]/\nK D C/\as=[.str n,a_ p,.str m]/\Wd n/\Wd m/\R sS [.str n,a_ p,.lst ([(m,1)].map n9)]
def Jh(F:Fun K yR zy tX f fd)(T:Txt K mg D)(lC:OkI P w K mg base cp 4 D.Door_init jG (oI K (K5 D)))(eN:c_ P w K mg base 2 fD dW kW):bV P w K mg base cp 5 f fd lQ (oI K (Sd D)):=by
 refine F.okI IK (λC ks ts as R hP=>by obtain⟨n,p,_,_,_,_,e,_⟩:=hP;exact e ▸ rfl) xa λaf A outer s H E hr nd=>?_;refine⟨_,(bC (CG 0 T.xM lC T.V0 (bw xD (bw xL bA)))
  (bC (je (bH eN (bw xS bA)))
  (bG (pG (Fm:=nK D) 0 (λC h=>⟨T.cl C h,T.yW C h⟩) (dN (bw (cZ (bw xS (bw (oX T.D_ T.xu) bA))) bA)))))),?_⟩
 rintro a dx C _ _ _ R ⟨n,m,p,rfl,rfl,hC,rfl,hw,hm,q⟩;exact⟨_,_,rfl,rfl,hC,rfl,hw,_,rfl,hm,⟨hC,by decide⟩,_,_,rfl,q⟩
structure v4(ps:zi):Prop where
 few:ps.length<=1000
 ok:∀p∈ps,Wd p.1/\Ch p.2
 bd:Bd (bO 1 (ps.map (·.2)):Nat)
 one:w6 (ps.map (·.2))=1
 jb:GN ps
def xR(D:nr):SI:=λC ks ts as R=>∃(n:Str)(p:Rat)(ps:zi),ks=[]/\ts=[]/\nK D C/\as=[.str n,a_ p,.lst (ps.map n9)]/\Wd n/\v4 ps/\R sS [.str n,a_ p,.lst ((zm ps).map n9)]
def GD(F:Fun K v9 vR rQ f fd)(T:Txt K mg D)(lC:OkI P w K mg base cp 4 D.Door_init jG (oI K (K5 D)))(p7:c_ P w K mg base 4 lJ jk t_)(pZ:c_ P w K mg base 4 lG ju tG):bV P w K mg base cp 5 f fd gC (oI K (xR D)):=by
 refine F.okI G5 (λC ks ts as R hP=>by obtain⟨n,p,_,_,_,_,e,_⟩:=hP;exact e ▸ rfl) xa λaf A outer s H E hr nd=>?_;refine⟨_,(bC (CG 0 T.xM lC T.V0 (bw xD (bw xL bA)))
  (bC (je (bH p7 (bw xS bA)))
  (bG (pG (Fm:=nK D) 0 (λC h=>⟨T.cl C h,T.yW C h⟩) (bH pZ (bw xS bA)))))),?_⟩
 rintro a dx C _ _ _ R ⟨n,p,ps,rfl,rfl,hC,rfl,hw,h,q⟩;exact⟨_,_,rfl,rfl,hC,rfl,hw,_,rfl,h.few,h.ok,h.bd,h.one,_,rfl,h.few,h.jb,⟨hC,by decide⟩,_,_,rfl,q⟩
def Ru(D:nr):SI:=λC ks ts as R=>∃(n x y:Str)(p c:Rat),ks=[]/\ts=[]/\nK D C/\as=[.str n,a_ p,a_ c,.str x,.str y]/\Wd n/\Ch c/\v4 [(x,c),(y,1-c)]/\R sS [.str n,a_ p,.lst ((zm [(x,c),(y,1-c)]).map n9)]
def KD(F:Fun K yc zH uU f fd)(T:Txt K mg D)(jB:c_ P w K mg base 3 j8 iH qp)(h_:c_ P w K mg base 3 iC fQ nF)(KJ:c_ P w K mg base 3 zA tD Mt)(eV:OkI P w K mg base cp 5 D.Mixed_init gC (oI K (xR D))):bV P w K mg base cp 6 f fd mq (oI K (Ru D)):=by
 refine F.okI I_ (λC ks ts as R hP=>by obtain⟨n,_,_,p,_,_,_,_,e,_⟩:=hP;exact e ▸ rfl) xa λaf A outer s H E hr nd=>?_;refine⟨_,(bC (je (bH jB (bw xD (bw xL bA))))
  (bC (je (bH h_ (bw xS bA)))
  (bG (CG 0 T.vU eV T.Kr (bw xD (bw xL (bw (dN (bw (cZ (bw (qv 4) (bw xS bA))) (bw (cZ (bw (qv 5) (bw (bH KJ (bw (oX T.D_ T.xu) (bw xS bA))) bA))) bA))) bA))))))),?_⟩
 rintro a dx C _ _ _ R ⟨n,x,y,p,c,rfl,rfl,hC,rfl,hw,hc,h,q⟩;refine⟨_,_,rfl,hw,_,rfl,hc,1,c,rfl,vb,hc.bq,?_,n,p,_,rfl,rfl,hC,rfl,hw,h,_,_,rfl,q⟩;rw[show(((1:Rat).den:Nat):Int)*(c.den:Int)=(c.den:Int)from Int.one_mul _];exact hc.2.2
def even(bn:Θ):zi:=bn.map λr=>(r,mkRat 1 bn.length)
def Qm(h:0<n):a_ (mkRat 1 n)=.tup [.int 1,.int (n:Nat)]:=by
 have:mkRat 1 n=⟨1,n,by exact UY h,by show Nat.Coprime 1 n;exact Nat.coprime_one_left n⟩:=by
  rw[Rat.mk_eq_divInt];rfl
 rw[this]
def RX(D:nr):SI:=λC ks ts as R=>∃(n:Str)(p:Rat)(bn:Θ),ks=[]/\ts=[]/\nK D C/\as=[.str n,a_ p,.lst (bn.map T.str)]/\Wd n/\v4 (even bn)/\R sS [.str n,a_ p,.lst ((zm (even bn)).map n9)]
def Jj(F:Fun K xY zp pK f fd)(T:Txt K mg D)(eV:OkI P w K mg base cp 5 D.Mixed_init gC (oI K (xR D))):bV P w K mg base cp 6 f fd lY (oI K (RX D)):=by
 refine F.okI J0 (λC ks ts as R hP=>by obtain⟨n,p,_,_,_,_,e,_⟩:=hP;exact e ▸ rfl) xa λaf A outer s H E hr nd=>?_;refine⟨_,(bG (CG 0 T.vU eV T.Kr (bw xD (bw xL (bw (dO (bF pK) um um ["room"] (cG xS) (gH (i:=0)) cJ (cZ (bw xC (bw (cZ (bw bx (bw (bQ eG T.fJ WJ (bw (qv 4) bA)) bA))) bA)))) bA))))),?_⟩;rintro a dx C _ _ _ R ⟨n,p,bn,rfl,rfl,hC,rfl,hw,h,q⟩;have hl:bn.length<=1000:=by have:=h.few;rwa[even,ak]at this
 refine⟨by rw[ak];exact aK hl xa,comp_map L2.T.str (λr=>n9 (r,mkRat 1 bn.length)) bn (λr hr N M hN=>?_) ⟨n,p,even bn,rfl,rfl,hC,?_,hw,h,_,_,rfl,q⟩⟩
 .rw[show n9 (r,mkRat 1 bn.length)=.tup [.str r,a_ (mkRat 1 bn.length)]from rfl,Qm (List.length_pos_of_mem hr),<- ak (f:=L2.T.str)]at hN;exact hN
 .unfold even;rw[WU]
  rfl
def yJ(D:nr):ST:=λts q=>∃(C:Addr)(n:Str)(p:Rat)(ws:zi),ts=[tj C n p ws]/\nK D C/\q (.l1 (ws.map n9))
def J3(F:Fun K yD zT uN f fd)(T:Txt K mg D):bV P w K mg base cp 1 f fd lW (mP K (yJ D)):=by
 refine F.okT Ip (λ_ _=>bG (bT (kY QD T.Ef boot_list (bw (tu (Fm:=nK D) (λC h=>⟨T.cl C h,T.yW C h⟩) xC) bA)))) ?_;rintro _ R ⟨C,n,p,ws,rfl,hC,q⟩;exact⟨hC,_,rfl,q⟩
structure cg where
 name:Str
 pay:Rat
 ways:zd
abbrev zn:=List (List cg)
abbrev oy(p:Nat×Rat):T:=.tup [.int (p.1:Nat),a_ p.2]
abbrev oo(o:cg):T:=.tup [.str o.name,a_ o.pay,.lst (o.ways.map oy)]
abbrev jd:Θ:=["share","numbers","offered"]
abbrev oq(ns:Θ):xk:=ns.map Sum.inr
abbrev rq(ns:Θ):zg:=(range ns.length).map λk:Nat=>.int k
abbrev nE(D:nr)(s:Rat)(ns:Θ)(off:zn):T:=.ins D.Hall jd [a_ s,.dct (oq ns) (rq ns),.lst (off.map λds=>.lst (ds.map oo))]
def uZ:ST:=λts q=>∃r:Rat,ts=[a_ r]/\0<=r/\r<1/\Bq r/\q (.fz .non)
def DG(F:Fun K mC mC qj f fd)(T:Txt K mg D)(iz:c_ P w K mg base 2 lD jg pH)(kj:c_ P w K mg base 1 qL oN zN):bV P w K mg base cp 3 f fd jr (mP K uZ):=by
 refine F.okT Fj (λ_ _=>bG (cT (QW.qt (ji (dD (cR (bH iz (bw xC bA)))) (ji (cR (bH kj (bw xC (bw (oX T.ni T.lg) bA)))) (gn (dD (cR (bH kj (bw xC (bw (oX T.D_ T.xu) bA)))))))))
  (bG fu)
  bU)) ?_
 rintro _ R ⟨r,rfl,h0,h1,hb,q⟩;refine⟨_,rfl,r,0,rfl,hb,A1,?_⟩;rw[Zp (Rat.not_lt.mpr h0)];refine⟨r,1,rfl,hb,vb,?_⟩;rwa[Zs h1]
def Vk(ns:Θ)(n:Str)(h:n∉ns):JT (oq ns) (.inr n)=false:=by
 unfold JT;rw[any_map];exact List.any_eq_false.mpr λx hx z=>h ((Sum.inr.inj (of_decide_eq_true z)) ▸ hx)
theorem O8{α:Type}(n:Str):∀(ns:Θ)(ts:List α),n∉ns->oK (oq ns) ts (.inr n)=none
 |[],_,_=>rfl
 |_::_,[],_=>rfl
 |m::ns,t::ts,h=>by
  show(if(Sum.inr m:nS)=.inr n then some t else oK (oq ns) ts (.inr n))=none;rw[ZZ λz=>h (by rw[Sum.inr.inj z];exact aN ..)];exact O8 n ns ts λz=>h (aH _ z)
theorem Rv{α:Type}{n:Str} : ∀{ns:Θ}{ts:List α}{k:Nat}{t:α},ns.Nodup->ns[k]?=some n->ts[k]?=some t->oK (oq ns) ts (.inr n)=some t
 |[],_,_,_,_,e,_=>by cases e
 |m::ns,[],_,_,_,_,e=>by cases e
 |m::ns,u::ts,k,t,nd,e1,e2=>by
  obtain⟨n1,n2⟩:=List.nodup_cons.mp nd;show(if(Sum.inr m:nS)=.inr n then some u else oK (oq ns) ts (.inr n))=some t;cases k with
  |zero=>cases e1;cases e2;exact ZY rfl
  |succ k =>
   have ib:ns[k]?=some n:=by simpa using e1
   rw[ZZ λ(z:(Sum.inr m:nS)=.inr n)=>n1 (by rw[Sum.inr.inj z];exact aB ib)];exact Rv n2 ib (by simpa using e2)
def ZI(ns:Θ)(n:Str)(h:n∉ns):r8 (oq ns) (.inr n)=oq (ns++[n])/\pw (oq ns) (rq ns) (.inr n) (.int (ns.length:Nat))=rq (ns++[n]):=by
 unfold r8 pw;rw[Vk ns n h];refine⟨by rw[ZZ xa];simp[oq],?_⟩;rw[ZZ xa];simp only[rq,aA,length_singleton,range_succ,aZ,map_singleton]
abbrev tJ(p:Str×zg):T:=.tup [.str p.1,.lst p.2]
def vZ:ST:=λts q=>∃fw:List (Str×zg),ts=[.lst (fw.map tJ)]/\fw.length<=1000/\(∀p∈fw,Wd p.1)/\(fw.map (·.1)).Nodup/\q (.d1 (oq (fw.map (·.1))) (rq (fw.map (·.1))))
def Gg(F:Fun K mU mU qP f fd)(T:Txt K mg D)(jH:c_ P w K mg base 1 mH kI rA):bV P w K mg base cp 2 f fd j6 (mP K vZ):=by
 refine F.okT Gw (λhr _=>bC (jL 1 Kg)
  (bC (gA (cG xC) (cC (n:=99) 2)
  (bC (bL 3 (bI xL bx))
  (bC (cT (QW.qt (ji (dD (cR (bH jH (bw xS bA)))) (gn (Ot 1 (WQ (vV hr) xS xD)))))
  (bG fu)
  bU)
  (bG (Km 1 (vV hr) (Ve 1 (bQ Rf T.fJ WJ (bw xD bA))) xS)))))
  (bG (jy 1)))) ?_
 rintro _ R ⟨fw,rfl,rl,hw,nd,q⟩;refine jq tJ fw (λas o=>∃x y,o=[.fz (.lst (fw.map tJ)),.d1 (oq (as.map (·.1))) (rq (as.map (·.1))),x,y]) ⟨_,_,rfl⟩ ?_ ?_
 .rintro as a bs _ e ⟨x,y,rfl⟩;have na:a.1∉as.map (·.1):=by
   rw[e,aZ,map_cons]at nd;exact λz=>(List.nodup_append.mp nd).2.2 a.1 z a.1 (aN ..) rfl
  have al:as.length<=fw.length:=by rw[e];simp
  refine⟨_,rfl,hw a (e ▸ by simp),_,rfl,?_⟩;rw[O8 a.1 _ _ na];refine⟨trivial,_,rfl,by rw[ak,ak];exact Y3 (show _<=1000 by exact aK al rl) xa,.fz (tJ a),.fz (.str a.1),?_⟩;obtain⟨k1,k2⟩:=ZI (as.map (·.1)) a.1 na;rw[aZ,map_singleton,<- k1,<- k2];simp only[ak]
  rfl
 .rintro _ ⟨x,y,rfl⟩;exact q
structure IB(ns:Θ)(us:zd):Prop where
 few:us.length<=1000
 lt:∀p∈us,p.1<ns.length
abbrev Og(ns:Θ)(us:zd):zi:=us.map λp=>(ns.getD p.1 ⟨#[]⟩,p.2)
def qx(D:nr):ST:=λts q=>∃(C:Addr)(n:Str)(p:Rat)(ns:Θ)(us:zd),ts=[tj C n p (Og ns us),.dct (oq ns) (rq ns)]/\dB D C/\ns.Nodup/\IB ns us/\q (.l1 (us.map oy))
def Ah(F:Fun K jC jC nC f fd)(T:Txt K mg D)(uc:OkI P w K mg base cp 1 D.Door_ways lW (mP K (yJ D))):bV P w K mg base cp 2 f fd gW (mP K (qx D)):=by
 refine F.okT zY (λhr _=>bC (jL 2 (dN bA))
  (bC (gA (cG (QE.any λC(hC:dB D C)=>oM xC (T.cl C hC.fam) (T.JK C hC) uc (KS:=sS))) (jN (n:=2) (bY (cC (n:=99) 3) (bY (cC (n:=99) 4) gb)))
  (bC (cT (T5 (vV hr) xS xD)
  (bG fu)
  bU)
  (bG (nG 2 (cZ (bw (KN (vV hr) xD xS) (bw (qv 4) bA)))))))
  (bG (jy 2)))) ?_
 rintro _ R ⟨C,n,p,ns,us,rfl,hC,nd,hu,q⟩;refine⟨C,hC,⟨rfl,rfl⟩,C,n,p,_,rfl,hC.fam,?_⟩;show v7 _ _ _ (List.map n9 (Og ns us)) _;rw[show(Og ns us).map n9=us.map λp=>n9 (ns.getD p.1 ⟨#[]⟩,p.2)from WU];refine jq (λp=>n9 (ns.getD p.1 ⟨#[]⟩,p.2)) us (λas o=>∃x y,o=[.fz (tj C n p (Og ns us)),.fz (.dct (oq ns) (rq ns)),.l1 (as.map oy),x,y]) ⟨_,_,rfl⟩ ?_ ?_
 .rintro as a bs _ e ⟨x,y,rfl⟩;have lt:=hu.lt a (e ▸ by simp);have al:as.length<us.length:=by rw[e];simp
  have few:=hu.few;have en:ns[a.1]?=some (ns.getD a.1 ⟨#[]⟩):=by rw[au,aj lt];rfl
  have ev:oK (oq ns) (rq ns) (.inr (ns.getD a.1 ⟨#[]⟩))=some (.int (a.1:Nat)):=Rv nd en (by rw[aq,UH lt];rfl);refine⟨rfl,_,rfl,?_⟩;rw[ev];refine⟨_,_,rfl,ev,by rw[ak];exact Y3 (show _<=1000 by exact aK (Y2 al) few) xa,.fz (.str (ns.getD a.1 ⟨#[]⟩)),.fz (a_ a.2),?_⟩;rw[aZ]
  rfl
 .rintro _ ⟨x,y,rfl⟩;exact q
structure Made where
 cls:Addr
 of:cg
abbrev xt:=List (List Made)
abbrev rL(ns:Θ)(m:Made):T:=tj m.cls m.of.name m.of.pay (Og ns m.of.ways)
structure IC(D:nr)(ns:Θ)(ds:List Made):Prop where
 few:ds.length<=1000
 cls:∀m∈ds,dB D m.cls
 ways:∀m∈ds,IB ns m.of.ways
 nd:(ds.map λm=>m.of.name).Nodup
def Yh(ns:Θ)(n:Str)(h:n∉ns):r8 (oq ns) (.inr n)=oq (ns++[n])/\pw (oq ns) (ns.map λ_=>L2.T.bl true) (.inr n) (.bl true)=(ns++[n]).map λ_=>L2.T.bl true:=by
 unfold r8 pw;rw[Vk ns n h];refine⟨by rw[ZZ xa];simp[oq],?_⟩;rw[ZZ xa];simp
def yX(D:nr):ST:=λts q=>∃(ns:Θ)(ds:List Made),ts=[.lst (ds.map (rL ns)),.dct (oq ns) (rq ns)]/\ns.Nodup/\IC D ns ds/\q (.l1 (ds.map λm=>oo m.of))
def Je(F:Fun K n8 n8 tV f fd)(T:Txt K mg D)(nM:c_ P w K mg base 2 jC gW (qx D)):bV P w K mg base cp 3 f fd lZ (mP K (yX D)):=by
 refine F.okT KQ (λhr _=>bC (jL 2 Kg)
  (bC (jL 3 (dN bA))
  (bC (gA (cG xC) (cC (n:=99) 4)
  (bC (cT (Ot 2 (WQ (vV hr) (tu (Fm:=nK D) (λC h=>⟨T.cl C h,T.Cv C h⟩) (qv 4)) xL))
  (bG fu)
  bU)
  (bC (Km 2 (vV hr) nQ (tu (Fm:=nK D) (λC h=>⟨T.cl C h,T.Cv C h⟩) (qv 4)))
  (bG (nG 3 (cZ (bw (tu (Fm:=nK D) (λC h=>⟨T.cl C h,T.Cv C h⟩) (qv 4)) (bw (tu (Fm:=nK D) (λC h=>⟨T.cl C h,T.Vr C h⟩) (qv 4)) (bw (bH nM (bw (qv 4) (bw xD bA))) bA)))))))))
  (bG (jy 3))))) ?_
 rintro _ R ⟨ns,ds,rfl,nd,hd,q⟩;refine jq (rL ns) ds (λas o=>∃x,o=[.fz (.lst (ds.map (rL ns))),.fz (.dct (oq ns) (rq ns)),.d1 (oq (as.map λm=>m.of.name)) ((as.map λm=>m.of.name).map λ_=>.bl true),.l1 (as.map λm=>oo m.of),x]) ⟨_,rfl⟩ ?_ ?_
 .rintro as a bs _ e ⟨x,rfl⟩;have na:a.of.name∉as.map λm=>m.of.name:=by
   have nd:=hd.nd;rw[e,aZ,map_cons]at nd;exact λz=>(List.nodup_append.mp nd).2.2 _ z _ (aN ..) rfl
  have al:as.length<ds.length:=by rw[e];simp
  have few:=hd.few;have ma:a∈ds:=e ▸ by simp
  have hc:=hd.cls a ma;refine⟨hc.fam,_,rfl,_,rfl,?_⟩;rw[O8 _ _ _ na];refine⟨hc.fam,_,rfl,_,rfl,by rw[ak,ak];exact Y3 (show _<=1000 by exact aK (Y2 al) few) xa,hc.fam,_,rfl,hc.fam,_,rfl,_,_,_,ns,a.of.ways,rfl,hc,nd,hd.ways a ma,by rw[ak];exact Y3 (show _<=1000 by exact aK (Y2 al) few) xa,.fz (rL ns a),?_⟩;obtain⟨k1,k2⟩:=Yh (as.map λm=>m.of.name) a.of.name na;rw[show(as++[a]).map (λm=>m.of.name)=as.map (λm=>m.of.name)++[a.of.name]from aZ,<- k1,<- k2,aZ]
  rfl
 .rintro _ ⟨x,rfl⟩;exact q
structure GT(D:nr)(ns:Θ)(ac:xt):Prop where
 len:ac.length=ns.length
 few:ns.length<=1000
 wd:∀n∈ns,Wd n
 nd:ns.Nodup
 mds:∀ds∈ac,IC D ns ds
abbrev wM(ns:Θ)(ac:xt):zg:=(ns.zip ac).map λp=>tJ (p.1,p.2.map (rL ns))
abbrev sf(ac:xt):zn:=ac.map λds=>ds.map λm=>m.of
def Ra(D:nr):SI:=λC ks ts as R=>∃(s:Rat)(ns:Θ)(ac:xt),C=D.Hall/\ks=[]/\ts=[]/\as=[a_ s,.lst (wM ns ac)]/\0<=s/\s<1/\Bq s/\GT D ns ac/\R jd [a_ s,.dct (oq ns) (rq ns),.lst ((sf ac).map λds=>.lst (ds.map oo))]
def Jt(F:Fun K yM zj pL f fd)(T:Txt K mg D)(pP:c_ P w K mg base 3 mC jr uZ)(qQ:c_ P w K mg base 2 mU j6 vZ)(uy:c_ P w K mg base 3 n8 lZ (yX D)):bV P w K mg base cp 4 f fd lK (oI K (Ra D)):=by
 refine F.okI Kw (λC ks ts as R hP=>by obtain⟨n,p,_,_,_,_,e,_⟩:=hP;exact e ▸ rfl) xa λaf A outer s H E hr nd=>?_;refine⟨_,(bC (je (bH pP (bw xD bA)))
  (bC (pG (Fm:=nK D) 0 (λC h=>⟨T.cl C h,T.Ln C h⟩) xD)
  (bC (pG (Fm:=nK D) 0 (λC h=>⟨T.cl C h,T.wR C h⟩) (bH qQ (bw xL bA)))
  (bG (pG (Fm:=nK D) 0 (λC h=>⟨T.cl C h,T.Fg C h⟩) (dO (bF pL) uE uE ["room"] (cG xL) (gH (i:=0)) cJ (bH uy (bw (bI xC bx) (bw (Z_ (Fm:=nK D) 1 (λC h=>⟨T.cl C h,T.wR C h⟩)) bA))))))))),?_⟩
 rintro a dx C _ _ _ R ⟨s,ns,ac,rfl,rfl,rfl,rfl,s0,s1,sb,h,q⟩;have z1:(ns.zip ac).map (·.1)=ns:=List.map_fst_zip (by have:=h.len;exact WS (Eq.symm this));have z2:(ns.zip ac).map (·.2)=ac:=List.map_snd_zip (by have:=h.len;exact WS this);have zl:(ns.zip ac).length=ns.length:=by rw[VY,h.len,UK]
 have hf:=yd D;have few:=h.few;refine⟨_,rfl,s0,s1,sb,⟨hf,by decide⟩,(ns.zip ac).map λp=>(p.1,p.2.map (rL ns)),by rw[WU];rfl,by rw[ak,zl];exact few,λp hp=>?_,?_,⟨hf,by decide⟩,?_⟩
 .obtain⟨x,hx,rfl⟩:=YV.mp hp;exact h.wd x.1 (z1 ▸ YV.mpr ⟨x,hx,rfl⟩)
 .rw[WU];exact z1.symm ▸ h.nd
 .rw[show((ns.zip ac).map λp=>(p.1,p.2.map (rL ns))).map (·.1)=ns from List.map_map.trans z1];refine⟨by rw[ak,zl];exact aK few xa,comp_map (λp=>tJ (p.1,p.2.map (rL ns))) (λp=>.lst (p.2.map λm=>oo m.of)) (ns.zip ac) (λp hp N M hN=>?_) ⟨⟨hf,by decide⟩,_,_,rfl,?_⟩⟩
  .exact⟨hf,_,rfl,ns,p.2,rfl,h.nd,h.mds p.2 (z2 ▸ YV.mpr ⟨p,hp,rfl⟩),hN⟩
  .have:(ns.zip ac).map (λp=>L2.T.lst (p.2.map λm=>oo m.of))=(sf ac).map λds=>.lst (ds.map oo):=by
    rw[show(sf ac).map (λds=>L2.T.lst (ds.map oo))=ac.map λds=>.lst (ds.map λm=>oo m.of)from by simp[sf,WU,Function.comp_def]]
    conv=>rhs;rw[<- z2,WU]
    rfl
   rw[<- this]at q;exact q
structure Et(ns:Θ)(off:zn):Prop where
 len:off.length=ns.length
 few:ns.length<=1000
 fews:∀ds∈off,ds.length<=1000
def iB(D:nr):ST:=λts q=>∃(s:Rat)(ns:Θ)(off:zn),ts=[nE D s ns off]/\q (.fz (.int (ns.length:Nat)))
def yE(F:Fun K yp xW tW f fd)(T:Txt K mg D):bV P w K mg base cp 1 f fd d7 (mP K (iB D)):=by
 refine F.okT Ks (λ_ _=>bG (bT (bQ Rf T.fJ WJ (bw (tu (Fm:=nK D) (λC h=>⟨T.cl C h,T.wR C h⟩) xC) bA)))) ?_;rintro _ R ⟨s,ns,off,rfl,q⟩;refine⟨yd D,_,rfl,?_⟩;rw[<- ak (f:=(Sum.inr:Str->nS))]at q;exact q
def pR(D:nr):ST:=λts q=>∃(s:Rat)(ns:Θ)(off:zn)(k:Nat),ts=[nE D s ns off,.int k]/\k<ns.length/\q (.fz .non)
def wg(F:Fun K pB oU lV f fd)(T:Txt K mg D)(cH:c_ P w K mg base 1 iy fZ lB)(cu:OkI P w K mg base cp 1 D.Hall_size d7 (mP K (iB D))):bV P w K mg base cp 2 f fd dX (mP K (pR D)):=by
 refine F.okT wZ (λ_ _=>bG (cT (QW.qt (ji (dD (cR (bH cH (bw xD bA)))) (gn (dD (Fi Bk zq bx xD (oM xC T.ig T.jF cu (KS:=jd)))))))
  (bG fu)
  bU)) ?_
 rintro _ R ⟨s,ns,off,k,rfl,hk,q⟩;refine⟨_,_,rfl,rfl,⟨rfl,rfl⟩,_,_,_,rfl,?_⟩;show sw (!decide ((k:Int)<(ns.length:Nat))) _ _;rwa[Zs (show(k:Int)<(ns.length:Nat)by lia)]
def qH(D:nr):ST:=λts q=>∃(s:Rat)(ns:Θ)(off:zn)(k:Nat)(ds:List cg),ts=[nE D s ns off,.int k]/\Et ns off/\off[k]?=some ds/\q (.l1 (ds.map oo))
def eU{l:List α}{h:α->T}{a:α}(e:l[k]?=some a):n5 (l.map h) (k:Nat)=some (h a):=by
 show o1 (l.map h) k=_;rw[qm,aq,e];rfl
def HS(F:Fun K uh uz mV f fd)(T:Txt K mg D)(c7:OkI P w K mg base cp 2 D.Hall_check_room dX (mP K (pR D))):bV P w K mg base cp 3 f fd eF (mP K (qH D)):=by
 refine F.okT Fv (λ_ _=>bC (je (vG xC T.ig T.oE c7 (bw xD bA) (KS:=jd)))
  (bG (bT (dO (bF mV) pU pU ["name","pay","numbered"] (cG (bI (tu (Fm:=nK D) (λC h=>⟨T.cl C h,T.Fg C h⟩) xC) xD)) (jN (n:=3) (bY (gH (i:=0)) (bY (gH (i:=1)) (bY (gH (i:=2)) gb)))) cJ (cZ (bw xC (bw xD (bw (kY QD T.Ef boot_list (bw xL bA)) bA)))))))) ?_
 rintro _ R ⟨s,ns,off,k,ds,rfl,h,e,q⟩;have lk:k<ns.length:=by rw[<- h.len];exact(ao.mp e).1
 refine⟨⟨rfl,rfl⟩,s,ns,off,k,rfl,lk,yd D,_,rfl,.lst (ds.map oo),eU (h:=λds=>L2.T.lst (ds.map oo)) e,by rw[ak];exact aK (h.fews ds (aB e)) xa,comp_map oo oo ds (λo _ N M hN=>⟨rfl,hN⟩) q⟩
def dT:xw->T
 |none=>.non
 |some d=>.int d
def yr:xw->Nat->Bool
 |none,n=>decide (n=0)
 |some d,n=>decide (d<n)
structure v5(off:zn)(pl:zb):Prop where
 len:pl.length=off.length
 ok:∀(k:Nat)(d:xw)(ds:List cg),pl[k]?=some d->off[k]?=some ds->yr d ds.length=true
def QV:ST:=λts q=>∃(d:xw)(n:Nat),ts=[dT d,.int n]/\q (.fz (.bl (yr d n)))
def WC(F:Fun K Cr Cr Oo f fd)(T:Txt K mg D)(cH:c_ P w K mg base 1 iy fZ lB):bV P w K mg base cp 2 f fd zG (mP K QV):=by
 refine F.okT Yi (λhr _=>bC (cT (cM (yY hr.units) xD bx)
  (bG (bT (oO Ar xC mG)))
  bU)
  (bG (bT (JL (bH cH (bw xC bA)) (JQ (NZ Bk zq bx xC xD)))))) ?_
 rintro _ R ⟨d,n,rfl,q⟩;by_cases e:n=0
 .subst e;cases d with
  |none=>exact q
  |some d=>exact q
 .refine sN (Zp xB) ?_;cases d with
  |none =>
   rw[show yr none n=false from Zp e]at q;exact⟨_,_,rfl,rfl,q⟩
  |some d =>
   rw[show yr (some d) n=decide ((d:Int)<(n:Int))from decide_eq_decide.mpr (by omega)]at q;exact⟨_,_,rfl,rfl,q⟩
def vX(D:nr):ST:=λts q=>∃(s:Rat)(ns:Θ)(off:zn)(pl:zb),ts=[nE D s ns off,.lst (pl.map dT)]/\Et ns off/\v5 off pl/\q (.fz (.bl true))
def Gv(F:Fun K m6 m6 sI f fd)(T:Txt K mg D)(Py:c_ P w K mg base 2 Cr zG QV)(cu:OkI P w K mg base cp 1 D.Hall_size d7 (mP K (iB D)))(cQ:OkI P w K mg base cp 3 D.Hall_offers eF (mP K (qH D))):bV P w K mg base cp 4 f fd j5 (mP K (vX D)):=by
 refine F.okT Gn (λhr _=>bC (cT (QW.qt (ji (dD (cR (pO .list xD T.d9 T.Ef boot_list))) (gn (cM (Bf hr.units) (bQ eG T.fJ WJ (bw xD bA)) (oM xC T.ig T.jF cu (KS:=jd))))))
  (bG fu)
  bU)
  (bC (gA (JH T.tK (bw xD bA)) (jN (n:=2) (bY (cC (n:=99) 2) (bY (cC (n:=99) 3) gb)))
  (bG (cT (dD (cR (bH Py (bw xS (bw (bQ eG T.fJ WJ (bw (vG xC T.ig T.lU cQ (bw xL bA) (KS:=jd)) bA)) bA)))))
  (bG fu)
  bU)))
  (bG (bT nQ)))) ?_
 rintro _ R ⟨s,ns,off,pl,rfl,h,hp,q⟩;refine⟨⟨rfl,rfl⟩,_,_,_,rfl,sN ?_ ?_⟩
 .show xr true (decide ((((pl.map dT).length:Nat):Int)=(ns.length:Nat)))=false;rw[ak,hp.len,h.len,Zs rfl]
  rfl
 .refine Ia dT pl (λk o=>∃x y,o=[.fz (nE D s ns off),.fz (.lst (pl.map dT)),x,y]) ⟨_,_,rfl⟩ ?_ ?_
  .rintro k d _ e ⟨x,y,rfl⟩;have lk:k<off.length:=by rw[<- hp.len];exact(ao.mp e).1
   have ek:=aj lk;refine⟨rfl,⟨rfl,rfl⟩,_,_,_,k,_,rfl,h,ek,d,(off[k]).length,?_,?_⟩
   .show[dT d,L2.T.int ((((off[k]).map oo).length:Nat):Int)]=_;rw[ak]
   .rw[hp.ok k d _ e ek];exact⟨_,_,rfl⟩
  .rintro _ ⟨x,y,rfl⟩;exact q
def ox(off:zn)(pl:zb):List (Option cg):=pl.zipIdx.map λp=>p.1.bind λd=>(off.getD p.2 [])[d]?
def sA:Option cg->T
 |none=>.non
 |some o=>oo o
def sV(D:nr):ST:=λts q=>∃(s:Rat)(ns:Θ)(off:zn)(pl:zb),ts=[nE D s ns off,.lst (pl.map dT)]/\Et ns off/\v5 off pl/\q (.l1 ((ox off pl).map sA))
def BX(F:Fun K j9 j9 lE f fd)(T:Txt K mg D)(cQ:OkI P w K mg base cp 3 D.Hall_offers eF (mP K (qH D))):bV P w K mg base cp 4 f fd iD (mP K (sV D)):=by
 refine F.okT BW (λ_ _=>bG (bT (dO (bF lE) oW oW ["room","door"] (JH T.tK (bw xD bA)) (jN (n:=2) (bY (gH (i:=0)) (bY (gH (i:=1)) gb))) cJ (Ih (cM Ar xD mG) mG (bI (vG xL T.ig T.lU cQ (bw xC bA) (KS:=jd)) xD))))) ?_;rintro _ R ⟨s,ns,off,pl,rfl,h,hp,q⟩;refine⟨by unfold wz;rw[ak,length_zipIdx,ak,hp.len,h.len];exact aK h.few xa,?_⟩;rw[Xu];refine comp_map (λp=>.tup [.int (p.2:Nat),dT p.1]) (λp=>sA (p.1.bind λd=>(off.getD p.2 [])[d]?)) pl.zipIdx (λp hm N M hN=>⟨rfl,?a⟩) ?b
 case b =>
  unfold ox at q;rw[WU]at q;exact q
 case a =>
  obtain⟨d,k⟩:=p;have e:=List.mem_zipIdx_iff_getElem?.mp hm;have lk:k<off.length:=by rw[<- hp.len];exact(ao.mp e).1
  have ek:=aj lk;have eg:off.getD k []=off[k]:=by rw[au,ek];rfl
  have ft:=hp.ok k d _ e ek;cases d with
  |none=>exact hN
  |some d =>
   have ld:d<(off[k]).length:=of_decide_eq_true ft;have hN:N (sA ((off.getD k [])[d]?)):=hN;rw[eg,aj ld]at hN;exact⟨⟨rfl,rfl⟩,_,_,_,k,_,rfl,h,ek,_,eU (aj ld),hN⟩
def qK(ws:zd)(tp:zS):Rat:=(ws.map λw=>w.2*((tp.getD w.1 0:Int):Rat)).sum
structure As(ws:zd)(tp:zS):Prop where
 few:ws.length<=1000
 lt:∀w∈ws,w.1<tp.length
 num:∀w∈ws,Bd w.2.num
 lcm:Bd (bO 1 (ws.map (·.2)):Nat)
 part:∀t∈f_ (bO 1 (ws.map (·.2))) (ws.map (·.2)),Bd t
 top:∀t∈tp,Bd t
def oJ:ST:=λts q=>∃(o:cg)(tp:zS),ts=[oo o,.lst (tp.map T.int)]/\As o.ways tp/\q (.fz (a_ (qK o.ways tp)))
theorem CT{B:Nat}(hB:0<B)(tp:zS):∀ws:zd,(∀w∈ws,w.2.den ∣ B)->divInt ((ws.map λw=>w.2.num*((B/w.2.den:Nat):Int)*tp.getD w.1 0).sum) B=qK ws tp
 |[],_=>by
  show divInt 0 B=0;exact TK _
 |w::ws,h=>by
  have ih:=CT hB tp ws λx hx=>h x (aH _ hx);show divInt (w.2.num*((B/w.2.den:Nat):Int)*tp.getD w.1 0+(ws.map λw=>w.2.num*((B/w.2.den:Nat):Int)*tp.getD w.1 0).sum) B=w.2*((tp.getD w.1 0:Int):Rat)+qK ws tp;rw[<- ih,TH,TH,Rat.intCast_add,XU];have e:((w.2.num*((B/w.2.den:Nat):Int):Int):Rat)/((B:Int):Rat)=w.2:=by
   obtain⟨k,hk⟩:=h w (aN ..);have hd:=w.2.den_pos;rw[show B/w.2.den=k by rw[hk];exact Nat.mul_div_cancel_left _ hd];have hk0:k≠0:=λz=>by rw[z]at hk;lia
   rw[<- TH,hk,U1,Rat.divInt_mul_right xB];exact rd _
  have hb:((B:Int):Rat)≠0:=λz=>by have:=Rat.intCast_eq_zero_iff.mp z;lia
  grind
def WX(ws:List α)(g h:α->Int):((ws.map g).zip ws).map (λp=>p.1*h p.2)=ws.map λw=>g w*h w:=by
 induction ws with
 |nil=>rfl
 |cons w ws ih=>exact ZH (List.cons _) ih
def Ew(F:Fun K jh jh jV f fd)(T:Txt K mg D)(gJ:c_ P w K mg base 2 nu lR qJ)(fG:c_ P w K mg base 2 qy oG yL):bV P w K mg base cp 3 f fd g8 (mP K oJ):=by
 refine F.okT Dy (λ_ _=>bC (bL 2 (bH gJ (bw (dO (bF jV) jZ jZ ["room","chance"] (cG (bI xC bx)) (jN (n:=2) (bY (gH (i:=0)) (bY (gH (i:=1)) gb))) cJ xD) bA)))
  (bG (bT (bH fG (bw (bQ (Qg rfl) T.WL boot_sum (bw (dO (bF jV) jZ jZ ["part","way"] (Qp T.V8 (bw (bI xL bx) (bw (bI xC bx) bA))) (jN (n:=2) (bY (gH (i:=0)) (bY (gH (i:=1)) gb))) cJ (bJ cI xC (bI xS (bI xD bx)))) bA)) (bw (bI xL bx) bA)))))) ?_
 rintro _ R ⟨o,tp,rfl,h,q⟩;refine⟨by rw[ak];exact aK h.few xa,comp_map oy (λw=>a_ w.2) o.ways (λw hw N M hN=>⟨rfl,hN⟩) ?_⟩;have hB:=f9 (o.ways.map (·.2)) VQ;refine⟨o.ways.map (·.2),by rw[WU];rfl,by rw[ak];exact h.few,λr hr=>?_,h.lcm,?_⟩
 .obtain⟨w,hw,rfl⟩:=YV.mp hr;exact h.num w hw
 .refine⟨by unfold Fx;rw[ak,VY,ak,ak];exact aK (aK (Nat.min_le_right ..) h.few) xa,?_⟩;rw[zip_map];refine comp_map (λp:Int×(Nat×Rat)=>.tup [.int p.1,oy p.2]) (λp=>.int (p.1*tp.getD p.2.1 0)) _ (λp hp N M hN=>?a) ?b
  case a =>
   have m2:=(UX hp).2;have lt:=h.lt _ m2;have hN:N (.int (p.1*tp.getD p.2.1 0)):=hN;rw[au,aj lt]at hN;exact⟨rfl,_,eU (aj lt),⟨h.part _ (UX hp).1,h.top _ (aR lt)⟩,hN⟩
  case b =>
   refine⟨((f_ (bO 1 (o.ways.map (·.2))) (o.ways.map (·.2))).zip o.ways).map λp=>p.1*tp.getD p.2.1 0,by rw[WU];rfl,_,_,rfl,by lia,h.lcm,λx y l=>?_⟩;rw[nY l xB];unfold f_;rw[WU,WX o.ways _ λw=>tp.getD w.1 0];have:=CT hB tp o.ways λw hw=>(j7 (o.ways.map (·.2))).2 w.2 (YV.mpr ⟨w,hw,rfl⟩);rw[<- this]at q;exact q
structure v_(s:Rat)(o:cg)(tp:zS)(B:Nat):Prop where
 bh:As o.ways tp
 pay:Bq o.pay
 bs:Bq s
 b:Bd (B:Int)
 dw:Bq (qK o.ways tp)
 d1:Bd ((s.den:Int)*(qK o.ways tp).den)
 p1:Bq (o.pay*(B:Rat))
 p2:Bq (s*qK o.ways tp)
 d2:Bd (((o.pay*(B:Rat)).den:Int)*(s*qK o.ways tp).den)
def jP(s:Rat)(tp:zS)(B:Nat)(o:cg):Rat:=o.pay*(B:Rat)+s*qK o.ways tp
def o9(D:nr):ST:=λts q=>∃(s:Rat)(ns:Θ)(off:zn)(o:cg)(tp:zS)(B:Nat),ts=[nE D s ns off,oo o,.tup [.lst (tp.map T.int),.int (B:Nat)]]/\v_ s o tp B/\q (.fz (a_ (jP s tp B o)))
def Eh(F:Fun K jo jo pW f fd)(T:Txt K mg D)(iG:c_ P w K mg base 3 jh g8 oJ)(wQ:c_ P w K mg base 3 zF vp IV)(CZ:c_ P w K mg base 3 zE uL NQ):bV P w K mg base cp 4 f fd gO (mP K (o9 D)):=by
 refine F.okT Ei (λ_ _=>bC (bL 3 (bH iG (bw xD (bw (bI xL bx) bA))))
  (bG (bT (bH wQ (bw (bH CZ (bw (bI xD bx) (bw (cZ (bw (bI xL bx) (bw bx bA))) bA))) (bw (bH CZ (bw (tu (Fm:=nK D) (λC h=>⟨T.cl C h,T.Ln C h⟩) xC) (bw xS bA))) bA)))))) ?_
 rintro _ R ⟨s,ns,off,o,tp,B,rfl,h,q⟩;refine⟨o,tp,rfl,h.bh,o.pay,(B:Rat),rfl,h.pay,⟨h.b,vb.2⟩,?_,yd D,_,rfl,s,qK o.ways tp,rfl,h.bs,h.dw,h.d1,_,_,rfl,h.p1,h.p2,h.d2,q⟩;show Bd ((o.pay.den:Int)*1);rw[Int.mul_one];exact h.pay.2
def dY(h:i.natAbs<18446744073709551616):Bd i:=aQ h (aK (by decide:18446744073709551616<=2^64) (XT xa xa))
abbrev vv(ns:zS):T:=.scr (ns.map T.int)
def Le:ST:=λts q=>∃(ns:zS)(k:Nat),ts=[vv ns,.int (k:Nat)]/\ns.length<=100/\q (.fz (.int (ns.getD k 0)))
def pN{β:Type}(h:α->β)(l:List α)(lo hi:zC):fH (l.map h) lo hi=(fH l lo hi).map h:=by unfold fH;rw[ak,map_take,List.map_drop]
def Zc(l:List α)(k:Nat):fH l (some (k:Int)) (some ((k:Int)+1))=(l.drop k).take 1:=by
 unfold fH HT.sIx;show List.take ((if(k:Int)+1<0 then _ else min ((k:Int)+1).toNat l.length)-(if(k:Int)<0 then _ else min (k:Int).toNat l.length)) (List.drop (if(k:Int)<0 then _ else min (k:Int).toNat l.length) l)=_;rw[ZZ xB,ZZ (Int.not_lt_of_ge (Wp _))];by_cases h:k<l.length
 .rw[show min ((k:Int)+1).toNat l.length=k+1 by lia,show min (k:Int).toNat l.length=k by lia,show k+1-k=1 by exact TU _ _]
 .rw[show min (k:Int).toNat l.length=l.length by lia,List.drop_length,Tx (VW h),take_nil,take_nil]
def Zu(F:Fun K zu zu Ph f fd):bV P w K mg base cp 1 f fd vH (mP K Le):=by
 refine F.okT ZC (λ_ _=>bG (bT (bI (bJ cN (jj xC (gj xD) (gj (bJ cN xD bx))) (dN (bw bx bA))) bx))) ?_;rintro _ R ⟨ns,k,rfl,hl,q⟩;have e:fH (ns.map L2.T.int) (some (k:Int)) (some ((k:Int)+1))=((ns.drop k).take 1).map L2.T.int:=by rw[pN,Zc]
 refine⟨?_,.int (ns.getD k 0),?_,q⟩
 .show(fH (ns.map L2.T.int) (some (k:Int)) (some ((k:Int)+1))).length+1<=sizeLine;rw[e,ak,aX];exact aK (show _<=2 by lia) xa
 .show n5 (fH (ns.map L2.T.int) (some (k:Int)) (some ((k:Int)+1))++[L2.T.int 0]) 0=_;rw[e];by_cases h:k<ns.length
  .rw[JU h,List.take_succ_cons,au,aj h]
   rfl
  .rw[Tx (VW h),au,aL (VW h)]
   rfl
def strN(c:Int):Nat->Int×Int
 |0=>((c%1999999973+31)*765432101%1999999973,if c<0\/10^18<=c then(c.natAbs:Int)else 0)
 |k+1=>(((strN c k).1*((strN c k).1%65521+40487)+7*(k:Int)+5)%1999999973,(strN c k).2.fdiv 1000000)
def yT(c:Int)(k:Nat):Int:=if 0<(strN c k).2 then(strN c k).2%1000000 else(strN c (k+1)).1
def Q0(c:Int):∀k,0<=(strN c k).1/\(strN c k).1<1999999973
 |0=>⟨Z3 _ xa,YY _ xa⟩
 |_+1=>⟨Z3 _ xa,YY _ xa⟩
def mj(c:Int)(k:Nat):0<=yT c k/\yT c k<2000000000:=by
 unfold yT;have:=Q0 c (k+1);split<;>lia
abbrev iZ(c:Int)(n:Nat):zS:=(range n).map (yT c)
def kZ:ST:=λts q=>∃(c:Int)(n:Nat),ts=[.int c,.int (n:Nat)]/\n<=1000/\q (.l1 ((iZ c n).map T.int))
def TV(F:Fun K iQ iQ Df f fd)(T:Txt K mg D):bV P w K mg base cp 1 f fd gM (mP K kZ):=by
 refine F.okT S8 (λ_ _=>bC (jL 2 (dN bA))
  (bC (bL 3 (bJ cD (bJ cI (bJ cN (bJ cD xC bx) bx) bx) bx))
  (bC (bL 4 bx)
  (bC (cT (QW.qt (ji (cM zq xC bx) (gn (cM GM xC (bJ Qy bx bx)))))
  (bG (bL 4 (bQ Dq T.MF boot_abs (bw xC bA))))
  bU)
  (bC (gA (fW T.jD (bw xD bA)) (cC (n:=99) 5)
  (bC (bL 3 (bJ cD (bJ cN (bJ cN (bJ cI xS (bJ cN (bJ cD xS bx) bx)) (bJ cI bx (qv 5))) bx) bx))
  (bC (nG 2 (bI (dN (bw xS (bw (bJ cD (qv 4) bx) bA))) (kY zW T.Bb boot_int (bw (oO M9 (qv 4) bx) bA))))
  (bG (bL 4 (bJ qN (qv 4) bx))))))
  (bG (jy 2))))))) ?_
 rintro _ R ⟨c,n,rfl,hn,q⟩;refine IT (λo=>o=[.fz (.int c),.fz (.int (n:Nat)),.l1 [],.fz (.int (strN c 0).1),.fz (.int (strN c 0).2),.und]) ?_ λY go=>?_
 .rintro _ rfl;refine⟨⟨by lia,by lia⟩,?_⟩;refine oF (λk o=>∃x,o=[.fz (.int c),.fz (.int (n:Nat)),.l1 ((iZ c k).map L2.T.int),.fz (.int (strN c k).1),.fz (.int (strN c k).2),x]) ⟨_,rfl⟩ ?_ ?_
  .rintro k _ hk ⟨x,rfl⟩;have b:=Q0 c k;refine⟨by decide,⟨dY xB,dY xB⟩,⟨dY xa,dY xB⟩,by decide,by decide,.int (yT c k),?_,?_,⟨by decide,dY xa⟩,.fz (.int k),?_⟩
   .by_cases h:0<(strN c k).2
    .rw[Zs h];unfold yT;rw[ZY h]
     rfl
    .rw[Zp h];unfold yT;rw[ZZ h]
     rfl
   .rw[ak,ak,W1];exact aQ (show k<1001 by lia) xa
   .rw[show iZ c (k+1)=iZ c k++[yT c k]by simp[iZ,range_succ],aZ]
    rfl
  .rintro _ ⟨x,rfl⟩;exact q
 .refine⟨by decide,⟨dY xB,dY xa⟩,by decide,?_⟩;refine pS (λh=>go _ ?_) λh=>⟨⟨by decide,by decide,by decide⟩,pS (λh'=>go _ ?_) λh'=>go _ ?_⟩
  .show _=[_,_,_,_,OT.fz (L2.T.int (if c<0\/10^18<=c then(c.natAbs:Int)else 0)),_];rw[ZY (.inl h)]
   rfl
  .show _=[_,_,_,_,OT.fz (L2.T.int (if c<0\/10^18<=c then(c.natAbs:Int)else 0)),_];rw[ZY (.inr h')]
   rfl
  .show _=[_,_,_,_,OT.fz (L2.T.int (if c<0\/10^18<=c then(c.natAbs:Int)else 0)),_];rw[ZZ (λz=>z.elim h h')]
   rfl
def Om:ST:=λts q=>∃a b:Int,ts=[.int a,.int b]/\q (.fz (.int (Int.gcd a b)))
def VC(F:Fun K En En WY f fd)(T:Txt K mg D):bV P w K mg base cp 1 f fd rH (mP K Om):=by
 refine F.okT WK (λ_ _=>bC (PB (bQ T7 T.U5 boot_sorted (bw (dN (bw (bQ Dq T.MF boot_abs (bw xC bA)) (bw (bQ Dq T.MF boot_abs (bw xD bA)) bA))) bA)) (To (n:=2) rfl (bY (cC (n:=99) 2) (bY (cC (n:=99) 3) gb))))
  (bC (FN (cM M9 xL bx)
  (bG (SH 2 3 rfl WK.nd xa (bw (bJ cD xS xL) (bw xL bA)))))
  (bG (bT xS)))) ?_
 rintro _ R ⟨a,b,rfl,q⟩;refine⟨[(a.natAbs:Int),(b.natAbs:Int)],rfl,by simp,λms pm so=>?_⟩;obtain⟨l,h,rfl,hg⟩ : ∃l h:Nat,ms=[(l:Int),(h:Int)]/\Nat.gcd l h=Int.gcd a b:=by
  have ln:=pm.length_eq
  match ms,ln with
  |[x,y],_ =>
   have hx:x=(a.natAbs:Int)\/x=(b.natAbs:Int):=by simpa using pm.subset (aN ..)
   rcases hx with rfl|rfl
   .have:=(List.perm_cons _).mp pm;have:=List.perm_singleton.mp this;cases this;exact⟨_,_,rfl,rfl⟩
   .have:=(List.perm_cons _).mp (pm.trans (List.Perm.swap _ _ _));have:=List.perm_singleton.mp this;cases this;exact⟨_,_,rfl,gcd_comm _ _⟩
 refine⟨rfl,λm o=>∃(l h:Nat),o=[.fz (.int a),.fz (.int b),.fz (.int l),.fz (.int h)]/\Nat.gcd l h=Int.gcd a b/\m=l,⟨_,_,_,rfl,hg,rfl⟩,?_⟩;rintro m _ ⟨l,h,rfl,hg,rfl⟩;refine pS (λhl=>?_) λhl=>?_
 .refine⟨λo=>o=[.fz (.int a),.fz (.int b),.fz (.int ((h%m:Nat):Int)),.fz (.int m)],?_,?_⟩
  .rintro _ rfl;exact⟨h%m,mod_lt _ xB,h%m,m,rfl,(Nat.gcd_rec m h).symm.trans hg,rfl⟩
  .exact⟨hl,by rw[Int.natCast_emod];rfl⟩
 .have:m=0:=by lia
  subst this;rw[Nat.gcd_zero_left]at hg;rw[<- hg]at q;exact q
def ou:ST:=λts q=>∃a b:Int,ts=[.int a,.int b]/\0<b/\Bd b/\q (.fz (a_ (divInt a b)))
def Tc(F:Fun K k_ k_ Ej f fd)(HY:c_ P w K mg base 1 En rH Om):bV P w K mg base cp 2 f fd jx (mP K ou):=by
 refine F.okT Ul (λ_ _=>bC (bL 2 (bH HY (bw xC (bw xD bA))))
  (bG (bT (cZ (bw (bJ qN xC xL) (bw (bJ qN xD xL) bA)))))) ?_
 rintro _ R ⟨a,b,rfl,hb,hd,q⟩;have nb:b≠0:=by exact WP hb
 have g0:=pI (a:=a) nb;have g1:=PX (a:=a) nb hd;refine⟨_,_,rfl,⟨by exact WP g0,g1⟩,⟨by exact WP g0,g1⟩,?_⟩;have l:=Dj (t:=a) nb (c:=(Int.gcd a b:Nat)) (WP g0) xB (XZ g0 hb);rw[<- nY l nb]at q;exact q
def zO:ST:=λts q=>∃r:Rat,ts=[a_ r]/\q (.fz (.bl true))
def KY(F:Fun K nZ nZ uw f fd)(T:Txt K mg D)(HY:c_ P w K mg base 1 En rH Om):bV P w K mg base cp 2 f fd mD (mP K zO):=by
 refine F.okT Lg (λhr _=>bC (cT (QW.qt (ji (dD (cR (pO .tuple xC T.d9 T.QM boot_tuple))) (gn (cM (Bf hr.units) (bQ eG T.fJ WJ (bw xC bA)) bx))))
  (bG (bT nQ))
  bU)
  (bC (gA (Sc xC) (cC (n:=99) 1)
  (bG (cT (QW.qt (ji (dD (cR (pO .int xD T.d9 T.Bb boot_int))) (gn (cR (pO .bool xD T.d9 T.U7 boot_bool)))))
  (bG (bT nQ))
  bU)))
  (bG (bT (JL (oO M9 (bI xC bx) bx) (JQ (oO (yY hr.units) (bH HY (bw (bI xC bx) (bw (bI xC bx) bA))) bx))))))) ?_
 rintro _ R ⟨r,rfl,q⟩;have:=r.den_pos;refine⟨λo=>∃x,o=[.fz (a_ r),x],?_,⟨_,rfl⟩⟩;rintro _ ⟨x,rfl⟩;refine⟨λo=>∃x,o=[.fz (a_ r),x],?_,⟨_,rfl⟩⟩;rintro _ ⟨x,rfl⟩;refine uj (Zs xB) ⟨_,_,rfl,?_⟩;rwa[show Int.gcd r.num r.den=1 from r.reduced]
def vW:ST:=λts q=>∃(rs:zo)(m:Nat),ts=[.lst (rs.map a_),.int (m:Nat)]/\rs.length=m/\m<=1000/\q (.fz (.bl true))
def Gf(F:Fun K m9 m9 oh f fd)(T:Txt K mg D)(uO:c_ P w K mg base 2 nZ mD zO):bV P w K mg base cp 3 f fd jU (mP K vW):=by
 refine F.okT Gy (λhr _=>bC (cT (QW.qt (ji (dD (cR (pO .list xC T.d9 T.Ef boot_list))) (gn (cM (Bf hr.units) (bQ eG T.fJ WJ (bw xC bA)) xD))))
  (bG (bT nQ))
  bU)
  (bG (bT (bQ (O5 rfl) T.Xq boot_all (bw (dO (bF oh) qW qW ["_law_one"] (cG xC) (gH (i:=0)) cJ (bH uO (bw xC bA))) bA))))) ?_
 rintro _ R ⟨rs,m,rfl,hl,hm,q⟩;refine sN (by rw[ak,hl,Zs rfl];rfl) ⟨by rw[ak,hl];exact aK hm xa,comp_map a_ (λ_=>.bl true) rs (λr _ N M hN=>⟨r,rfl,hN⟩) ⟨rs.map λ_=>true,by rw[WU];rfl,?_⟩⟩;have e:((rs.map λ_=>true).all λb=>b)=true:=by simp
 rw[<- e]at q;exact q
def Tq(c:Nat):Bool:=decide (97<=c)&&decide (c<=122)
def AY:zD:=(Str.ofString "abcdefghijklmnopqrstuvwxyz").cps.toList
def RY:∀i:Fin 26,o1 AY i.val=some (97+i.val):=by decide +kernel
def VN(h0:0<=i)(h1:i<26):n5 AY i=some (97+i.toNat):=by
 obtain⟨k,rfl⟩:=Int.eq_ofNat_of_zero_le h0;exact RY ⟨k,by lia⟩
def OJ(h:n<26):Tq (97+n):=by
 unfold Tq;rw[Zs (show 97<=97+n by exact X2 _ _),Zs (show 97+n<=122 by lia)];rfl
def n6(x:Str):x.cps.toList.length=x.length:=Array.length_toList
def Rt(x y:Str):(x++y).cps.toList=x.cps.toList++y.cps.toList:=by
 show(x.cps++y.cps).toList=_;rw[Array.toList_append]
def Zw(x y:Str):(x++y).length=x.length+y.length:=by
 show(x.cps++y.cps).size=_;rw[Array.size_append];rfl
def Uy : (Ce x none (some (n:Int))).cps.toList=x.cps.toList.take n:=by
 unfold Ce;have hl:x.cps.toList.length=x.length:=Array.length_toList;show((x.cps.toList.drop 0).take (HT.sIx x.length x.length (some (n:Int))-0))=_;rw[HT.yq,drop_zero,Nat.sub_zero,<- hl];rw[List.take_eq_take_iff];lia
def Lz : (Ce x (some (n:Int)) none).cps.toList=x.cps.toList.drop n:=by
 unfold Ce;have hl:x.cps.toList.length=x.length:=Array.length_toList;show((x.cps.toList.drop (HT.sIx x.length 0 (some (n:Int)))).take (x.length-HT.sIx x.length 0 (some (n:Int))))=_;rw[HT.yq,<- hl];by_cases h:n<=x.cps.toList.length
 .rw[Nat.min_eq_left h];exact QY (by rw[US];exact aF _)
 .rw[Tx (by lia:x.cps.toList.length<=n),Tx xB,take_nil]
def R9{ys:List α}{a b:Nat}(ab:a<=b)(h:b<=ys.length):fH ys (some (a:Int)) (some (b:Int))=(ys.drop a).take (b-a):=by
 unfold fH;rw[HT.yq,HT.yq,Nat.min_eq_left h,Nat.min_eq_left (aK ab h)]
def GU(h:x.cps.toList.all Tq)(lo:1<=x.length)(hi:x.length<=8):Wd x:=by
 unfold Wd R4;rwa[n6,Zs lo,Zs hi]
structure ub(ns:Θ)(n:Nat):Prop where
 len:ns.length=n
 nd:ns.Nodup
 wd:∀x∈ns,Wd x
def Rj{R:Nat->Str->Prop}(h:∀(i:Nat)x,ns[i]?=some x->R i x)(l:ns.length=n)(u:∀i j x,i<j->j<n->R i x->R j x->False):ns.Nodup:=by
 unfold List.Nodup;rw[List.pairwise_iff_getElem];intro i j hi hj ij e;exact u i j ns[i] ij (l ▸ hj) (h i _ (aj hi)) (by rw[e];exact h j _ (aj hj))
def HX{g:HG}{c:RT}{e:RE}{q:zg->Prop}(R:Nat->Str->Prop)(n:Nat)(st:∀k,k<n->∀(N:T->Prop)(M:Prop),(∀x,R k x->N (.str x))->g (.int (k:Nat)) o λo'=>c o' λb=>sw b (e o' λy=>N (frz y)) M)(k:∀ns:Θ,ns.length=n->(∀(i:Nat)x,ns[i]?=some x->R i x)->q (ns.map T.str)):iw g c e o (rng 0 n) q:=by
 have go:∀(m j:Nat),j+m=n->∀(us:Θ),us.length=j->(∀(i:Nat)x,us[i]?=some x->R i x)->∀{q:zg->Prop},(∀ns:Θ,ns.length=n->(∀(i:Nat)x,ns[i]?=some x->R i x)->(∃vs,ns=us++vs/\q (vs.map T.str))\/¬∃vs,ns=us++vs)->iw g c e o ((range' j m).map λk:Nat=>.int ((0:Int)+k)) q:=by
  intro m
  induction m with
  |zero =>
   intro j ej us lu hu q hq;rcases hq us xB hu with⟨vs,e,z⟩|z
   .have:vs=[]:=by simpa using e
    rw[this]at z;exact z
   .exact absurd ⟨[],(append_nil us).symm⟩ z
  |succ m ih =>
   intro j ej us lu hu q hq;rw[List.range'_succ,map_cons];refine Ug ?_;rw[Int.zero_add];refine st j xB (λt=>iw g c e o ((range' (j+1) m).map λk:Nat=>.int ((0:Int)+k)) λus=>q (t::us)) (iw g c e o ((range' (j+1) m).map λk:Nat=>.int ((0:Int)+k)) q) λx hx=>?_;refine ih (j+1) xB (us++[x]) (by simp[lu]) (λi y ey=>?_) λns ln hn=>?_
   .by_cases hi:i<us.length
    .rw[aD hi]at ey;exact hu i y ey
    .have hl:=(ao.mp ey).1;rw[aA,length_singleton]at hl;have:i=us.length:=by lia
     subst this;rw[aC (aF _),Nat.sub_self]at ey;cases ey;exact lu ▸ hx
   .by_cases z:∃vs,ns=us++[x]++vs
    .obtain⟨vs,e⟩:=z;refine .inl ⟨vs,e,?_⟩;rcases hq ns ln hn with⟨ws,e',q'⟩|z
     .rw[e,WZ]at e';have:=List.append_cancel_left e';rw[<- this]at q';exact q'
     .exact absurd ⟨x::vs,by rw[e,WZ];rfl⟩ z
    .exact .inr z
 have:=go n 0 (Nat.zero_add _) [] rfl (λi x z=>by cases z) (q:=q) λns ln hn=>.inl ⟨ns,rfl,k ns ln hn⟩;rw[<- List.range_eq_range']at this;exact this
def AW(c:Nat)(i:Nat)(x:Str):Prop:=x.cps.toList=replicate (i+1) c
def u4(b:zD)(at_:Nat)(x0 st:Int)(i:Nat)(x:Str):Prop:=x.cps.toList=b.take at_++(97+((x0+st*i)%26).toNat)::b.drop at_
def Zr{b:zD}{at_:Nat}{x0 st:Int}{i j:Nat}(hs:st=1\/st=3\/st=5\/st=7\/st=9\/st=11)(ij:i<j)(hj:j<26)(h1:u4 b at_ x0 st i x)(h2:u4 b at_ x0 st j x):False:=by
 have e:=h1.symm.trans h2;have e:=List.append_cancel_left e;injection e with e _;rcases hs with rfl|rfl|rfl|rfl|rfl|rfl<;>omega
def RF{c i:Nat}(hc:Tq c)(hi:i<8)(h:AW c i x):Wd x:=by
 have l:=n6 x;rw[h,aM]at l;refine GU ?_ xB xB;rw[h,all_eq_true];intro d hd;rwa[(XV.mp hd).2]
def TL{b:zD}{at_:Nat}{x0 st:Int}{i:Nat}(hb:b.all Tq)(hl:b.length<=7)(h:u4 b at_ x0 st i x):Wd x:=by
 have l:=n6 x;rw[h,aA,length_cons,aX,US]at l;refine GU ?_ xB (by omega);rw[h,all_eq_true];rw[all_eq_true]at hb;intro d hd;rcases Y1.mp hd with hd|hd
 .exact hb d (QR hd)
 .rcases YU.mp hd with rfl|hd
  .exact OJ xB
  .exact hb d (List.mem_of_mem_drop hd)
theorem Ii:∀(ys:Θ)(acc:Array Nat),(ys.foldl (λacc p=>acc++(Str.ofString "").cps++p.cps) acc).toList=acc.toList++(ys.map λy=>y.cps.toList).flatten
 |[],acc=>by simp
 |y::ys,acc=>by
  have e0:(Str.ofString "").cps = #[]:=by decide +kernel
  rw[foldl_cons,Ii ys,e0,Array.append_empty,Array.toList_append,map_cons,flatten_cons,WZ]
def w4(ys:Θ):(Txt.join (Str.ofString "") ys).cps.toList=(ys.map λy=>y.cps.toList).flatten:=by
 show((ys.drop 1).foldl (λacc p=>acc++(Str.ofString "").cps++p.cps) (ys.headD Str.empty).cps).toList=_;rw[Ii];cases ys with
 |nil=>rfl
 |cons y ys=>rfl
def Re{c d:RT}{x y z:RS}(b:Bool)(h:∀q:Bool->Prop,q b->x_ c d o q)(hq:sw b (x { E with nx:=z E } o) (y { E with nx:=z E } o)):i_ (Ox (x_ c d) x y) z E o:=h (λk=>sw k (x { E with nx:=z E } o) (y { E with nx:=z E } o)) hq
def NT:ST:=λts q=>∃(c:Int)(n:Nat),ts=[.int c,.int (n:Nat)]/\n<=26/\∀ns:Θ,ub ns n->q (.l1 (ns.map T.str))
def fK{c:Int}(h:k<n:=by decide):n5 ((iZ c n).map T.int) (k:Nat)=some (.int (yT c k)):=by
 show o1 ((iZ c n).map T.int) k=_;rw[qm,aq,aq,UH h];rfl
def Xh(F:Fun K xT xT vB f fd)(T:Txt K mg D)(dj:c_ P w K mg base 1 iQ gM kZ):bV P w K mg base cp 2 f fd uH (mP K NT):=by
 refine F.okT Uu (λhr _=>bC (bL 2 Jp)
  (bC (bL 3 (bH dj (bw xC (bw bx bA))))
  (bC (cT (QW.qt (Wv (cM (yY hr.units) (bJ cD (bI xS bx) bx) bx) (Rh (cM Bk xD bx))))
  (bG (bT (dO (bF vB) qO qO ["_law_k"] (fW T.jD (bw xD bA)) (gH (i:=0)) cJ (bJ cI (bI xS (bJ cD (bI (qv 4) bx) bx)) (bJ cN xC bx)))))
  bU)
  (bC (bL 4 (ZD Jp (bw (dO (bF vB) qO qO ["_law_x"] (cG (jj xS (gj bx) (gj (bJ cN bx (bJ cD (bI xS bx) bx))))) (gH (i:=0)) cJ (bI xS (bJ cD xC bx))) bA)))
  (bC (bL 5 (bJ cD (bI xS bx) bx))
  (bC (bL 6 (bI (dN (bw bx (bw bx (bw bx (bw bx (bw bx (bw bx bA))))))) (bJ cD (bI xS bx) bx)))
  (bG (bT (dO (bF vB) qO qO ["_law_k"] (fW T.jD (bw xD bA)) (gH (i:=0)) cJ (bJ cN (bJ cN (jj (qv 5) yC (gj (qv 6))) (bI xS (bJ cD (bJ cN (bI (qv 4) bx) (bJ cI (qv 7) xC)) bx))) (jj (qv 5) (gj (qv 6)) yC))))))))))) ?_
 rintro _ R ⟨c,n,rfl,hn,q⟩;refine⟨c,11,rfl,by decide,?_⟩;have s0:=mj c 0;have s1:=mj c 1;have lL:(Str.ofString "abcdefghijklmnopqrstuvwxyz").length<=sizeLine:=aK (show _<=1000 by decide +kernel) xa;have rl:(rng 0 n).length<=sizeLine:=by rw[rng,ak,W1];exact aK hn xa
 dsimp only;refine Re (decide (yT c 0%3=1)&&decide ((n:Int)<=8)) (λq hq=>?_) ?_
 .refine⟨_,fK (k:=0),by decide,?_⟩;refine pS (λh=>?_) λh=>?_
  .rw[Zs h,Bool.true_and]at hq;exact hq
  .rw[Zp h,Bool.false_and]at hq;exact hq
 .refine uk (λhb=>?_) λhb=>?_
  .simp only[and_eq_true,decide_eq_true_eq]at hb;refine⟨⟨by lia,by lia⟩,rl,HX (AW (97+(yT c 1%26).toNat)) n (λk hk N M hN=>?_) λns ln db=>q ns ⟨ln,Rj db ln λi j x ij hj h1 h2=>?_,λx hx=>?_⟩⟩
   .refine⟨_,fK (k:=1),by decide,lL,_,VN (Z3 _ xa) (YY _ xa),_,rfl,by lia,by lia,λz hz=>hN z ?_⟩;rw[show((k:Int)+1).toNat=k+1 by lia]at hz;exact hz
   .have:=ZH List.length (h1.symm.trans h2);rw[aM,aM]at this;lia
   .obtain⟨i,hi⟩:=aU hx;have li:=(ao.mp hi).1;exact RF (OJ xB) xB (db i x hi)
  .obtain⟨m,em,hm⟩ : ∃m:Nat,yT c 1%8=m/\m<=7:=⟨(yT c 1%8).toNat,by lia,by lia⟩;have ec:fH ((iZ c 11).map L2.T.int) (some 2) (some (2+yT c 1%8))=(((iZ c 11).drop 2).take m).map L2.T.int:=by
    rw[em,pN];have:=R9 (ys:=iZ c 11) (a:=2) (b:=2+m) (X2 _ _) (by rw[ak,W1];lia);rw[show 2+m-2=m by exact TU _ _]at this;exact ZH (List.map L2.T.int) this
   have ml:(((iZ c 11).drop 2).take m).length=m:=by rw[aX,US,ak,W1];lia
   refine⟨_,fK (k:=1),by decide,?_⟩;dsimp only[frz];show(fH ((iZ c 11).map L2.T.int) (some 2) (some (2+yT c 1%8))).length<=sizeLine/\_;rw[ec];have c26:∀x∈((iZ c 11).drop 2).take m,0<=x:=λx hx=>by
    obtain⟨k,_,rfl⟩:=YV.mp (List.mem_of_mem_drop (QR hx));exact(mj c k).1
   generalize((iZ c 11).drop 2).take m=us at ml c26 ⊢;have e0:(Str.ofString "").length=0:=by decide +kernel
   refine⟨by rw[ak,ml];exact aK hm xa,comp_map L2.T.int (λx=>.str ⟨#[97+(x%26).toNat]⟩) us (λx hx N M hN=>⟨by decide,lL,_,VN (Z3 _ xa) (YY _ xa),hN⟩) ⟨us.map λx=>⟨#[97+(x%26).toNat]⟩,by rw[WU];rfl,?_,?_⟩⟩
   .rw[e0,Nat.mul_zero,Nat.add_zero,WU,show((λx:Str=>x.length) ∘ λx:Int=>(⟨#[97+(x%26).toNat]⟩ : Str))=λ_=>1 from rfl,map_const',List.sum_replicate_nat];lia
   have bc:(Txt.join (Str.ofString "") (us.map λx=>(⟨#[97+(x%26).toNat]⟩ : Str))).cps.toList=us.map λx=>97+(x%26).toNat:=by
    rw[w4,WU]
    clear ml c26 ec
    induction us with
    |nil=>rfl
    |cons x us ih=>rw[map_cons,flatten_cons,ih];rfl
   have bl:(Txt.join (Str.ofString "") (us.map λx=>(⟨#[97+(x%26).toNat]⟩ : Str))).length<=7:=by rw[<- n6,bc,ak];exact aK (WS ml) hm
   have ba:(us.map λx=>97+(x%26).toNat).all Tq=true:=by
    rw[all_eq_true];intro d hd;obtain⟨x,hx,rfl⟩:=YV.mp hd;exact OJ xB
   rw[<- bc]at ba;generalize Txt.join (Str.ofString "") (us.map λx=>(⟨#[97+(x%26).toNat]⟩ : Str))=st at bl ba ⊢
   clear bc
   have s9:=mj c 9;have s10:=mj c 10;obtain⟨ap,eap,mm⟩ : ∃ap:Nat,yT c 9%8=ap/\ap<=7:=⟨(yT c 9%8).toNat,by lia,by lia⟩;obtain⟨sv,es,hs⟩ : ∃sv:Int,n5 [L2.T.int 1,L2.T.int 3,L2.T.int 5,L2.T.int 7,L2.T.int 9,L2.T.int 11] (yT c 10%6)=some (.int sv)/\(sv=1\/sv=3\/sv=5\/sv=7\/sv=9\/sv=11):=by
    obtain e|e|e|e|e|e:yT c 10%6=0\/yT c 10%6=1\/yT c 10%6=2\/yT c 10%6=3\/yT c 10%6=4\/yT c 10%6=5:=by lia
    .exact⟨1,by rw[e];rfl,by decide⟩
    .exact⟨3,by rw[e];rfl,by decide⟩
    .exact⟨5,by rw[e];rfl,by decide⟩
    .exact⟨7,by rw[e];rfl,by decide⟩
    .exact⟨9,by rw[e];rfl,by decide⟩
    .exact⟨11,by rw[e];rfl,by decide⟩
   have z7:(16:Nat)<=sizeLine:=by decide
   refine⟨_,fK (k:=9),by decide,?_⟩;dsimp only[frz];rw[eap];refine⟨_,fK (k:=10),by decide,_,es,⟨by lia,by lia⟩,rl,HX (u4 st.cps.toList ap (yT c 0) sv) n (λk hk N M hN=>?_) λns ln db=>q ns ⟨ln,Rj db ln λi j x ij hj h1 h2=>Zr hs ij (aQ hj hn) h1 h2,λx hx=>?_⟩⟩
   .have t1:(Ce st none (some (ap:Int))).length<=7:=by rw[<- n6,Uy,aX,n6];lia
    have t2:(Ce st (some (ap:Int)) none).length<=7:=by rw[<- n6,Lz,US,n6];exact aK (Nat.sub_le _ _) bl
    have t3:∀d:Nat,({ cps:=#[d] } : Str).length=1:=λ_=>rfl;refine⟨by exact aK bl xa,_,fK (k:=0),⟨dY xB,dY xB⟩,by decide,lL,_,VN (Z3 _ xa) (YY _ xa),by rw[t3];lia,by exact aK bl xa,by rw[Zw,t3];lia,hN _ ?_⟩;unfold u4;rw[Rt,Rt,Uy,Lz,WZ];rfl
   .obtain⟨i,hi⟩:=aU hx;exact TL ba (by rwa[n6]) (db i x hi)
def WF{h:α->L2.T}{ps:List α}{p:α}(e:ps.getLast?=some p):n5 (ps.map h) (-1)=some (h p):=by
 show o1 (ps.map h).reverse 0=_;rw[qm,<- List.map_reverse,aq,<- List.head?_eq_getElem?,List.head?_reverse,e]
 rfl
abbrev l_(ys:zo):L2.T:=.lst (ys.map a_)
structure RdN(first:zo)(N:zo->zo->Prop)(ae:xi):Prop where
 first:ae[0]?=some first
 next:∀(k:Nat)ys zs,ae[k]?=some ys->ae[k+1]?=some zs->N ys zs
def tm(first:zo)(N:zo->zo->Prop)(I:zo->Prop)(am:Nat):Prop:=∀ae,RdN first N ae->∀(k:Nat)ys,k<am->ae[k]?=some ys->I ys
def RdN.snoc{first:zo}{N:zo->zo->Prop}{ae:xi}{zs:zo}(h:RdN first N ae)(e:ae.getLast?=some ys)(hz:N ys zs):RdN first N (ae++[zs]):=by
 rw[List.getLast?_eq_getElem?]at e;have l:=(ao.mp e).1;refine⟨by rw[aD xB];exact h.first,λk as bs e1 e2=>?_⟩;by_cases c:k+1<ae.length
 .rw[aD (UU (X1 _) c)]at e1;rw[aD c]at e2;exact h.next k as bs e1 e2
 .have lk:=(ao.mp e2).1;rw[aA,length_singleton]at lk;have ek:k=ae.length-1:=by lia
  subst ek;rw[aD l,e]at e1;rw[aC (VW c),show ae.length-1+1-ae.length=0 by omega]at e2;cases e1;cases e2;exact hz
structure RnA where
 tf:List L2.T
 first:zo
 N:zo->zo->Prop
 I:zo->Prop
def RnA.ok(a:RnA)(S:ST):Prop:=∀ys(q:OT->Prop),a.I ys->(∀zs,a.N ys zs->q (.l1 (zs.map a_)))->S (a.tf++[l_ ys]) q
def HJ(a:RnA)(fo:Addr):ST:=λts q=>∃am:Nat,ts=[l_ a.first,.int (am:Nat),.val (.ref fo)]/\am<=40/\tm a.first a.N a.I am/\∀ae:xi,ae.length=am+1->RdN a.first a.N ae->q (.l1 (ae.map l_))
def uC(K:Frag)(frees:Β)(tf:List L2.T):L2.T->Hp->V->Prop:=λ_ F _=>bM K F frees tf
def OD{b:Heap}{fo:Addr}{S:ST}(F:Fun K gQ gQ nJ f fd)(T:Txt K mg D)(UW:sK P w K mg b 6 fo ["ahead"] (Oc K frees S))(a:RnA)(ha:a.ok S):bV P w K mg b cp 7 f fd jA (wq K (uC K frees a.tf) 2 (HJ a fo)):=by
 have hψ:∀F u,uC K frees a.tf (.val (.ref fo)) F u->bM K F frees a.tf:=λ_ _ h=>h;refine F.okG 2 (λ_ F F' _ S h=>bM.same S h) qz (λts R hP=>by obtain⟨_,e,_⟩:=hP;exact e ▸ rfl) λaf A outer s0 H E hr=>?_;have nd:=qz.nd;refine⟨_,(bC (jL 3 (dN (bw xC bA)))
  (bC (FN (cM Bk (Ve 3 (bQ eG T.fJ WJ (bw xS bA))) xD)
  (bG (nG 3 (Wx 2 hψ UW hr.md (bw (Uz 3 (J6 bx)) bA)))))
  (bG (jy 3)))),?_⟩
 rintro _ t R et ⟨am,rfl,eT,hB,q⟩;cases et;refine⟨λm o=>∃ae:xi,o=[.fz (l_ a.first),.fz (.int (am:Nat)),.gh (uC K frees a.tf (.val (.ref fo))) (.val (.ref fo)),.l1 (ae.map l_)]/\RdN a.first a.N ae/\0<ae.length/\m+ae.length=am+1,⟨am,[a.first],rfl,⟨rfl,λk ys zs _ e=>by cases k<;>cases e⟩,VQ,rfl⟩,?_⟩;rintro m _ ⟨ae,rfl,gV,y0,em⟩;refine⟨trivial,?_⟩;show sw (decide (((ae.map l_).length:Int)<=(am:Nat))) _ _;rw[ak];refine pS (λc=>?_) λc=>q ae xB gV;have ek:=aj (show ae.length-1<ae.length by omega);have el:ae.getLast?=some ae[ae.length-1]:=by rwa[List.getLast?_eq_getElem?]
 refine⟨λo=>∃zs:zo,o=[.fz (l_ a.first),.fz (.int (am:Nat)),.gh (uC K frees a.tf (.val (.ref fo))) (.val (.ref fo)),.l1 ((ae++[zs]).map l_)]/\a.N ae[ae.length-1] zs,?_,?_⟩
 .rintro _ ⟨zs,rfl,hz⟩;exact⟨m-1,by omega,ae++[zs],rfl,gV.snoc el hz,by simp,by rw[aA,length_singleton];lia⟩
 .refine⟨rfl,_,WF el,ha _ _ (hB ae gV _ _ xB ek) λzs hz=>⟨by rw[ak];exact aQ (show _<1001 by lia) xa,zs,?_,hz⟩⟩;rw[aZ]
  rfl
def NF(K:Frag)(Pt:Addr)(lp:Pos)(lq:Str)(S:ST)(js:zD)(r1 r2:RE):TS:=λD σ H=>∃(own:zz)(o:zt)(oc:Ω)(frees:Β)(a:RnA)(am:Nat),SR K own H σ o/\jJ Pt lp lq H oc/\(js.map λj=>σ[j]?)=frees.map (λv=>some (some v))/\bM K H frees a.tf/\NXs a.tf/\a.ok S/\am<=40/\tm a.first a.N a.I am /\
 r1 o (λx=>frz x=l_ a.first)/\r2 o (λx=>frz x=.int (am:Nat))/\∀ae H' c v,ae.length=am+1->RdN a.first a.N ae->z0 (wo (s_ Pt oc) H) (wo [Pt,c] H')->jJ Pt lp lq H' (some c)->NR K (λ_=>False) H H' v (.l1 (ae.map l_))->D.rt v H'
def Me(K:Frag)(S:ST)(frees:Β)(fo:Addr):Sp:=λvs H Q E=>∃a:RnA,a.ok S/\wq K (uC K frees a.tf) 2 (HJ a fo) vs H Q E
def UF(ys:zo):NXs (ys.map a_):=NXs.map (g:=a_) (λ_=>show True/\True/\True from⟨trivial,trivial,trivial⟩) ys
section
variable{X:Cx}{e1 e2:Expr}{r1 r2:RE}{S:ST}{Pt c0:Addr}{lp p pos rp:Pos}{params:Arguments}{body:Expr}{scope:Scope}{cl:ze}{js:zD}
def Ou(T:Txt X.K X.mg D)(hg:Gl X gQ)(hr:dU 7 X.A)(hB:X.base.BuiltinsAt X.mg Pt)(dQ:X.env.code=.ref c0)(hC:codeHdIn X.K c0 Pt)(h1:QE X e1 r1)(h2:QE X e2 r2)
 (L:∀aw frees f c ctv,aw.get? f=some (kla_obj "<lambda>" (X.env.qual++"<lambda>") params body scope cl ((X.mg "__name__").getD .none) c ctv)->aw.CodeRec (.ref c) (X.env.qual++"<lambda>")->sJ aw scope cl frees->sK X.prog X.w X.K X.mg aw 6 f ["ahead"] (Oc X.K frees S))
 (mh:closureFor scope X.env=pure cl)(hj:(js.map λj=>X.N[j]?)=cl.map (λq=>some q.1))(eJ:∀q∈cl,X.env.kindOf q.1=some .cell/\X.env.cells.lookup q.1=some q.2/\scope.names.lookup q.1=some .free)(nd:(cl.map (·.1)).Nodup)(fI:∀q∈cl,X.fn q.1)(hE:defaultsOf params X.env=([],[]):=by rfl)
 (he:starEach (e1::[e2,.Lambda params body scope lp]) X.env=(false,eval e1 X.env)::starEach [e2,.Lambda params body scope lp] X.env:=by rfl)(be:(backTo pos (starEach [e2,.Lambda params body scope lp] X.env)).any (·.1)=false:=by rfl)
 (he2:starEach (e2::[.Lambda params body scope lp]) X.env=(false,eval e2 X.env)::starEach [.Lambda params body scope lp] X.env:=by rfl)(he3:starEach (.Lambda params body scope lp::[]) X.env=(false,eval (.Lambda params body scope lp) X.env)::starEach [] X.env:=by rfl) :
  PS X (.Return (some (.Call (.Name gQ p) [e1,e2,.Lambda params body scope lp] [] pos)) rp) (NF X.K Pt lp (X.env.qual++"<lambda>") S js r1 r2):=by
 obtain⟨fR,fdR,FR,bR,mR⟩:=T.Cg;refine(Iv (Px (Pt:=Pt) (pos:=lp) (qual:=X.env.qual++"<lambda>") (pm:=(X.mg "__name__").getD .none) (params:=params) (body:=body) (scope:=scope) (cl:=cl) (js:=js) (spL:=λfrees=>Oc X.K frees S) (spR:=Me X.K S) hg mR FR.kp (.all bR) hr (λaw frees f V=>bV.ex λa=>bV.andL λh=>OD FR T V a h) L hj eJ nd fI
  (eX h1 (eX h2 (eX (Sr hB dQ hC mh hE) pQ he3) he2) he) rfl he be)).imp λD σ H h=>?_
 obtain⟨own,o,oc,frees,a,am,hs,la,hjs,rf,nx,ok,eT,rn,q1,q2,k⟩:=h;refine⟨own,o,_,hs,q1,?_⟩;rintro H1 v1 x1 ex1 S1 n1;have s1:=hs.same S1;refine⟨own,o,_,s1,q2,?_⟩;rintro H3 v2 x2 ex2 S3 n2;have a1:=n1.rep λb z=>(hs.sole z).ne;have a2:=n2.rep λb z=>(s1.sole z).ne;rw[ex1]at a1;rw[ex2]at a2;cases a2;have a1:Rep X.K H3 v1 (l_ a.first):=(a1.same cF).same S3;have kf:=S1.trans S3;have kN:=la.same kf;refine⟨oc,kN,λf4 c H4 ff fc c1 c2 la4 hf eo=>⟨f4,c,frees,hf,fc,la4,hjs,?_⟩⟩;have S34:z0 (wo (s_ Pt oc) H3) (wo [Pt,c,f4] H4):=λb u e=>by
  obtain⟨nb,e'⟩:=vJ e;have n1:b≠Pt:=λz=>nb (by rw[z];exact aN);have n2:b≠c:=λz=>by
   cases oc with
   |none=>rw[z,c1 rfl]at e';cases e'
   |some c0=>exact nb (by rw[z,c2 c0 rfl];exact aH _ aN)
  have n3:b≠f4:=λz=>by rw[z,ff]at e';cases e'
  rw[zQ (by simp;exact⟨n1,n2,n3⟩),eo b n1 n2 n3];exact e'
 have keep:Nx H3 (wo [Pt,c,f4] H4):=λb u n m e=>S34 b u (kN.nx b u n m e);have SS:z0 (wo (s_ Pt oc) H) (wo [Pt,c,f4] H4):=(yN kf).trans S34;have un:∀b u,wo [Pt,c,f4] H4 b=none->b≠Pt->b≠c->b≠f4->H b=some u->False:=λb u z n1 n2 n3 e=>by
  rw[zQ (by simp;exact⟨n1,n2,n3⟩),eo b n1 n2 n3,kf _ _ e]at z;cases z
 refine⟨a,ok,.ref f4,.val (.ref f4),[l_ a.first,.int (am:Nat),.val (.ref f4)],λx=>∃ae:xi,x=.l1 (ae.map l_)/\ae.length=am+1/\RdN a.first a.N ae,rfl,rfl,(rf.same kf).nx keep nx,.cons (a1.nx keep (UF _)) (.cons (.int _) (.cons (.val _) .nil)),⟨am,rfl,eT,rn,λae l r=>⟨ae,rfl,l,r⟩⟩,?_⟩;rintro H5 v _ ⟨ae,rfl,l,rd⟩ S5 ⟨B,nB,sl⟩ H6 e6 la6 z1 z2 z3;have S56:z0 H5 (wo [Pt,c] H6):=λb u e=>by
  have a1:b≠Pt:=λz=>by rw[z,z1]at e;cases e
  have a2:b≠c:=λz=>by rw[z,z2]at e;cases e
  rw[zQ (by simp;exact⟨a1,a2⟩),e6 b a1 a2];exact e
 have S6:=S56.trans Yn;refine k ae H6 c v l rd (SS.trans (S5.trans S56)) la6 ⟨B,λa ha=>?_,sl.same (bW S6) S6⟩;have ne:=(sl.sole ha).ne;cases e:H a with
 |none=>rfl
 |some u=>exact(un a u (nB a ha) (λz=>ne (z ▸ z1)) (λz=>ne (z ▸ z2)) (λz=>ne (z ▸ z3)) e).elim
end
open Rw (sg wN wH pA qX wO)
def dw(ws:zd)(x:Nat->Rat):Rat:=(ws.map λw=>w.2*x w.1).sum
def PL(ws:zd):Rat:=(ws.map (·.2)).sum
theorem dZ(w:Nat×Rat)(ws:zd)(x:Nat->Rat):dw (w::ws) x=w.2*x w.1+dw ws x:=rfl
theorem H_(w:Nat×Rat)(ws:zd):PL (w::ws)=w.2+PL ws:=rfl
theorem VL{M:Rat}{x:Nat->Rat} : ∀{ws:zd},(∀w∈ws,0<=w.2/\x w.1<=M)->dw ws x<=PL ws*M
 |[],_=>by show(0:Rat)<=0*M;rw[Rat.zero_mul];exact VX
 |w::ws,h=>by
  rw[dZ,H_];have:=VL (ws:=ws) λv hv=>h v (aH _ hv);obtain⟨a,b⟩:=h w (aN ..);have:=T1 b a
  grind
theorem X5(x:Nat->Rat):∀ws:zd,dw ws (λj=>-(x j))=-(dw ws x)
 |[]=>by show(0:Rat)=-0;grind
 |w::ws=>by rw[dZ,dZ,X5 x ws];grind
theorem TX(ys:zo)(k:Nat):(((f_ (bO 1 ys) ys).getD k 0:Int):Rat)=ys.getD k 0*((bO 1 ys:Nat):Rat):=by
 have hB:=f9 ys VQ;by_cases c:k<ys.length
 .have e1:(f_ (bO 1 ys) ys).getD k 0=ys[k].num*((bO 1 ys/ys[k].den:Nat):Int):=by
   unfold f_;rw[au,aq,aj c]
   rfl
  rw[e1,show ys.getD k 0=ys[k]by rw[au,aj c];rfl];obtain⟨q,hq⟩:=(j7 ys).2 ys[k] (aR c);have dp:=ys[k].den_pos;rw[hq,Nat.mul_div_cancel_left _ dp,XU];have h:=rd ys[k];have d0:((ys[k].den:Int):Rat)≠0:=λz=>by have:=Rat.intCast_eq_zero_iff.mp z;lia
  rw[TH]at h;show((ys[k].num:Int):Rat)*((q:Int):Rat)=ys[k]*(((ys[k].den*q:Nat):Int):Rat);rw[U1,XU];generalize((ys[k].num:Int):Rat)=a at *;generalize((ys[k].den:Int):Rat)=b at *
  grind
 .rw[au,aL (by unfold f_;rw[ak];exact VW c),au,aL (VW c)];show(0:Rat)=0*_
  grind
theorem zL(ys:zo):∀ws:zd,qK ws (f_ (bO 1 ys) ys)=dw ws (λk=>ys.getD k 0)*((bO 1 ys:Nat):Rat)
 |[]=>by show(0:Rat)=0*_;rw[Rat.zero_mul]
 |w::ws=>by
  show w.2*(((f_ (bO 1 ys) ys).getD w.1 0:Int):Rat)+qK ws _=_;rw[zL ys ws,dZ,TX]
  grind
def Ao(s:Rat)(y:Nat->Rat)(o:cg):Rat:=o.pay+s*dw o.ways y
def Cj(s:Rat)(ys:zo)(o:cg):jP s (f_ (bO 1 ys) ys) (bO 1 ys) o=Ao s (λk=>ys.getD k 0) o*((bO 1 ys:Nat):Rat):=by
 unfold jP Ao;rw[zL]
 grind
theorem JX{x z:Nat->Rat} : ∀{ws:zd},(∀w∈ws,0<=w.2/\x w.1<=z w.1)->dw ws x<=dw ws z
 |[],_=>VX
 |w::ws,h=>by
  rw[dZ,dZ];have:=JX (ws:=ws) λv hv=>h v (aH _ hv);obtain⟨a,b⟩:=h w (aN ..);have:=T1 b a
  grind
structure sM(s:Rat)(off:zn)(ys:zo):Prop where
 few:ys.length<=1000
 num:∀r∈ys,Bd r.num
 lcm:Bd (bO 1 ys:Nat)
 look:∀ds∈off,∀o∈ds,v_ s o (f_ (bO 1 ys) ys) (bO 1 ys)/\Bq (jP s (f_ (bO 1 ys) ys) (bO 1 ys) o)/\Bd (((jP s (f_ (bO 1 ys) ys) (bO 1 ys) o).den:Int)*(bO 1 ys:Nat))
def qU:ST:=λts q=>∃rs:zo,ts=[.lst (rs.map a_)]/\(∀x∈rs,Bq x)/\(rs=[]->q (.fz .non))/\∀m,m∈rs->(∀x∈rs,x<=m)->q (.fz (a_ m))
def IW(F:Fun K nj nj wY f fd)(T:Txt K mg D)(kj:c_ P w K mg base 1 qL oN zN):bV P w K mg base cp 2 f fd lA (mP K qU):=by
 refine F.okT Ly (λ_ _=>bC (bL 1 mG)
  (bC (gA (cG xC) (cC (n:=99) 2)
  (bG (cT (QW.qt (ji (cM Ar xD mG) (gn (cR (bH kj (bw xD (bw xL bA)))))))
  (bG (bL 1 xL))
  bU)))
  (bG (bT xD)))) ?_
 rintro _ R ⟨rs,rfl,h,q0,q⟩;refine jq a_ rs (λas o=>(as=[]/\∃x,o=[.fz (.lst (rs.map a_)),.fz .non,x])\/∃m x,o=[.fz (.lst (rs.map a_)),.fz (a_ m),x]/\m∈as/\∀x∈as,x<=m) (.inl ⟨rfl,_,rfl⟩) ?_ ?_
 .rintro as a bs _ e (⟨rfl,x,rfl⟩|⟨m,x,rfl,hm,j2⟩)
  .exact .inr ⟨a,_,rfl,by simp,λx hx=>by rw[show x=a by simpa using hx];exact VX⟩
  .have ba:Bq a:=h a (e ▸ by simp);have bm:Bq m:=h m (e ▸ UP _ hm);exact⟨m,a,rfl,bm,ba,pS (λlt=>.inr ⟨a,_,rfl,by simp,λx hx=>(Y1.mp hx).elim (λz=>TZ (j2 x z) (Rat.le_of_lt lt)) λz=>by rw[YR.mp z];exact VX⟩) λnlt=>.inr ⟨m,_,rfl,UP _ hm,λx hx=>(Y1.mp hx).elim (j2 x) λz=>by rw[YR.mp z];exact Rat.not_lt.mp nlt⟩⟩
 .rintro _ (⟨z,x,rfl⟩|⟨m,x,rfl,hm,hx⟩)
  .exact q0 z
  .exact q m hm hx
def mY:ST:=λts q=>∃m:Nat,ts=[.int (m:Nat)]/\m<=40/\q (.fz .non)
def G3(F:Fun K iY iY rE f fd)(T:Txt K mg D)(cH:c_ P w K mg base 1 iy fZ lB):bV P w K mg base cp 2 f fd gB (mP K mY):=by
 refine F.okT GX (λ_ _=>bG (cT (QW.qt (ji (dD (cR (bH cH (bw xC bA)))) (gn (dD (Fi Bk Bk bx xC (Nh T.abm λ_=>.int _))))))
  (bG fu)
  bU)) ?_
 rintro _ R ⟨m,rfl,h,q⟩;refine⟨_,_,rfl,rfl,?_⟩;show sw (!decide ((m:Int)<=40)) _ _;rwa[Zs (show(m:Int)<=40 by lia)]
def uu:Option Rat->T
 |none=>.non
 |some a=>a_ a
def Z5(r:Option Rat)(B:Nat):Rat:=match r with|none=>0|some a=>a/(B:Rat)
def qZ:ST:=λts q=>∃(r:Option Rat)(B:Nat),ts=[uu r,.int (B:Nat)]/\0<B/\Bd (B:Int)/\(∀a,r=some a->Bq a/\Bd ((a.den:Int)*(B:Nat)))/\q (.fz (a_ (Z5 r B)))
def Pb(F:Fun K mL mL Al f fd)(T:Txt K mg D)(PJ:c_ P w K mg base 3 CP zV Q5):bV P w K mg base cp 4 f fd kE (mP K qZ):=by
 refine F.okT Qu (λ_ _=>bG (bT (Ih (cM Ar xC mG) (oX T.ni T.lg) (bH PJ (bw xC (bw (cZ (bw xD (bw bx bA))) bA)))))) ?_;rintro _ R ⟨r,B,rfl,b0,bb,h,q⟩;cases r with
 |none=>exact q
 |some a =>
  obtain⟨h1,h2⟩:=h a rfl;have nz:((B:Nat):Rat)≠0:=λz=>by
   have:=Rat.intCast_eq_zero_iff.mp (show(((B:Nat):Int):Rat)=0 from z);lia
  exact⟨a,(B:Rat),rfl,nz,h1,⟨bb,vb.2⟩,h2,q⟩
def xX(ds:List cg)(g:cg->Rat)(v:Rat):Prop:=(ds=[]->v=0)/\(ds≠[]->∃o∈ds,v=g o)/\∀o∈ds,g o<=v
structure pf(s:Rat)(off:zn)(ys zs:zo):Prop where
 len:zs.length=off.length
 top:∀(k:Nat)ds,off[k]?=some ds->xX ds (Ao s λj=>ys.getD j 0) (zs.getD k 0)
def iR(D:nr):ST:=λts q=>∃(s:Rat)(ns:Θ)(off:zn)(ys:zo),ts=[nE D s ns off,.lst (ys.map a_)]/\Et ns off/\sM s off ys/\∀zs:zo,pf s off ys zs->q (.l1 (zs.map a_))
def G_(F:Fun K iT iT nW f fd)(T:Txt K mg D)(gJ:c_ P w K mg base 2 nu lR qJ)(iU:c_ P w K mg base 4 jo gO (o9 D))(mJ:c_ P w K mg base 2 nj lA qU)(jE:c_ P w K mg base 4 mL kE qZ)(cu:OkI P w K mg base cp 1 D.Hall_size d7 (mP K (iB D)))(cQ:OkI P w K mg base cp 3 D.Hall_offers eF (mP K (qH D))):bV P w K mg base cp 5 f fd gw (mP K (iR D)):=by
 refine F.okT wj (λ_ _=>bC (bL 2 (bH gJ (bw xD bA)))
  (bC (jL 3 (dN bA))
  (bC (gA (fW T.jD (bw (oM xC T.ig T.jF cu (KS:=jd)) bA)) (cC (n:=99) 4)
  (bC (nR (bF nW) rR rR ["offer"] (cG (vG xC T.ig T.lU cQ (bw (qv 4) bA) (KS:=jd))) (gH (i:=0)) cJ (bH iU (bw xD (bw xC (bw xS bA)))) (kh (i:=5) wj.nd rfl (Or.inl rfl)))
  (bG (nG 3 (bH jE (bw (bH mJ (bw (qv 5) bA)) (bw (bI xL bx) bA)))))))
  (bG (jy 3))))) ?_
 rintro _ R ⟨s,ns,off,ys,rfl,h,hm,q⟩;have few:=h.few;have hl:=h.len;have B0:=f9 ys VQ;have nz:((bO 1 ys:Nat):Rat)≠0:=λz=>by
  have:=Rat.intCast_eq_zero_iff.mp (show(((bO 1 ys:Nat):Int):Rat)=0 from z);lia
 have pp:(0:Rat)<((bO 1 ys:Nat):Rat):=Rat.intCast_lt_intCast.mpr (show(0:Int)<(bO 1 ys:Nat)by lia);refine⟨ys,rfl,hm.few,hm.num,hm.lcm,⟨rfl,rfl⟩,s,ns,off,rfl,⟨by lia,by lia⟩,oF (λk o=>∃(zs:zo)(x y:OT),o=[.fz (nE D s ns off),.fz (.lst (ys.map a_)),.fz (.tup [.lst ((f_ (bO 1 ys) ys).map L2.T.int),.int (bO 1 ys:Nat)]),.l1 (zs.map a_),x,y]/\zs.length=k/\∀(i:Nat)ds,i<k->off[i]?=some ds->xX ds (Ao s λj=>ys.getD j 0) (zs.getD i 0)) ⟨[],_,_,rfl,rfl,λi _ z=>absurd z (WV _)⟩ ?_ ?_⟩
 .rintro k _ hk ⟨zs,x,y,rfl,l1,h1⟩;have hk:k<ns.length:=by simpa using hk
  have ek:=aj (show k<off.length by lia);have mem:=aB ek;have fd:=h.fews _ mem;have lk:=hm.look _ mem;have lm:(zs.map a_).length<sizeLine:=by rw[ak];exact aQ (show _<1001 by lia) xa
  have go:∀v:Rat,xX off[k] (Ao s λj=>ys.getD j 0) v->∃(fS:zo)(x y:OT),[OT.fz (nE D s ns off),.fz (.lst (ys.map a_)),.fz (.tup [.lst ((f_ (bO 1 ys) ys).map L2.T.int),.int (bO 1 ys:Nat)]),.l1 (zs.map a_++[a_ v]),.fz (.int (k:Nat)),.fz (.lst (off[k].map λo=>a_ (jP s (f_ (bO 1 ys) ys) (bO 1 ys) o)))]=[.fz (nE D s ns off),.fz (.lst (ys.map a_)),.fz (.tup [.lst ((f_ (bO 1 ys) ys).map L2.T.int),.int (bO 1 ys:Nat)]),.l1 (fS.map a_),x,y]/\fS.length=k+1/\∀(i:Nat)ds,i<k+1->off[i]?=some ds->xX ds (Ao s λj=>ys.getD j 0) (fS.getD i 0):=λv hv=>by
   refine⟨zs++[v],_,_,by rw[aZ];rfl,by simp[l1],λi ds hi ei=>?_⟩;by_cases c:i=k
   .subst c;rw[ek]at ei;cases ei;rwa[au,aC (WS l1),l1,Nat.sub_self]
   .rw[au,aD xB,<- au];exact h1 i ds (XX (U2 hi) c) ei
  have gN:∀o,jP s (f_ (bO 1 ys) ys) (bO 1 ys) o/((bO 1 ys:Nat):Rat)=Ao s (λj=>ys.getD j 0) o:=λo=>by rw[Cj];grind
  refine⟨⟨rfl,rfl⟩,s,ns,off,k,_,rfl,h,ek,by rw[ak];exact aK fd xa,comp_map oo (λo=>a_ (jP s (f_ (bO 1 ys) ys) (bO 1 ys) o)) off[k] (λo ho N M hN=>⟨s,ns,off,o,_,_,rfl,(lk o ho).1,hN⟩) ?_⟩;refine⟨off[k].map (jP s (f_ (bO 1 ys) ys) (bO 1 ys)),by rw[WU];rfl,λx hx=>?_,λe0=>?_,λm fb hx=>?_⟩
  .obtain⟨o,ho,rfl⟩:=YV.mp hx;exact(lk o ho).2.1
  .have e0:off[k]=[]:=List.map_eq_nil_iff.mp e0;refine⟨none,bO 1 ys,rfl,B0,hm.lcm,(λa z=>nomatch z),lm,go 0 ⟨λ_=>rfl,λz=>absurd e0 z,λo ho=>by rw[e0]at ho;cases ho⟩⟩
  .obtain⟨o,ho,rfl⟩:=YV.mp fb;refine⟨some (jP s (f_ (bO 1 ys) ys) (bO 1 ys) o),bO 1 ys,rfl,B0,hm.lcm,(λa z=>by cases z;exact(lk o ho).2),lm,?_⟩;refine go _ ⟨(λz=>by rw[z]at ho;cases ho),λ_=>⟨o,ho,gN o⟩,λo' cw=>?_⟩;have:=hx _ (YV.mpr ⟨o',cw,rfl⟩);show _<=jP s (f_ (bO 1 ys) ys) (bO 1 ys) o/((bO 1 ys:Nat):Rat);rw[gN];rw[Cj,Cj]at this;exact Rat.le_of_mul_le_mul_right this pp
 .rintro _ ⟨zs,x,y,rfl,l1,h1⟩;have l1:zs.length=off.length:=by rw[hl,l1];simp
  exact q zs ⟨l1,λk ds e=>h1 k ds (by have:=(ao.mp e).1;simp;exact aQ this (WS hl)) e⟩
abbrev tT(l:xf):L2.T:=.lst (l.map L2.T.bl)
abbrev sF(k:Nat):L2.T:=.int (k:Nat)
abbrev p3(l:zD):L2.T:=.lst (l.map sF)
def si(gs:zD)(k:Nat):Bool:=decide (k∈gs)
def ng(m:Nat)(gs:zD):xf:=(range m).map (si gs)
def La(m:Nat)(gs:zD):(ng m gs).length=m:=by unfold ng;rw[ak,W1]
def YT{g:Nat} : (ng m gs).set g true=ng m (gs++[g]):=by
 unfold ng si;refine ext_getElem (by rw[VZ,ak,ak]) λk h1 h2=>?_;rw[List.getElem_set,getElem_map,List.getElem_range,getElem_map,List.getElem_range];by_cases e:g=k
 .rw[ZY e,e];exact(Zs xF).symm
 .rw[ZZ e];exact decide_eq_decide.mpr (by simp;intro z;exact absurd z.symm e)
def wu(D:nr):ST:=λts q=>∃(s:Rat)(ns:Θ)(off:zn)(gs:zD),ts=[nE D s ns off,p3 gs]/\Et ns off/\(∀g∈gs,g<ns.length)/\q (.l1 ((ng ns.length gs).map L2.T.bl))
def Gq(F:Fun K m_ m_ sG f fd)(T:Txt K mg D)(cu:OkI P w K mg base cp 1 D.Hall_size d7 (mP K (iB D)))(c7:OkI P w K mg base cp 2 D.Hall_check_room dX (mP K (pR D))):bV P w K mg base cp 3 f fd jY (mP K (wu D)):=by
 refine F.okT Ge (λ_ _=>bC (jL 2 (bJ cI (dN (bw nQ bA)) (oM xC T.ig T.jF cu (KS:=jd))))
  (bC (gA (cG xD) (cC (n:=99) 3)
  (bC (je (vG xC T.ig T.oE c7 (bw xS bA) (KS:=jd)))
  (bG (Xx 2 nQ xS))))
  (bG (jy 2)))) ?_
 rintro _ R ⟨s,ns,off,gs,rfl,h,hg,q⟩;have few:=h.few;refine⟨⟨rfl,rfl⟩,s,ns,off,rfl,⟨by lia,by lia,by show 1*_<=_;exact aK (show _<=1000 by lia) xa⟩,λz hz=>?_⟩;have hz:z=(ng ns.length []).map L2.T.bl:=by
  rw[hz,show((replicate (((ns.length:Nat):Int)).toNat [frz (OT.fz (L2.T.bl false))]).flatten)=replicate ns.length (L2.T.bl false)from QP];unfold ng;rw[WU];refine ext_getElem (by rw[aM,ak,W1]) λk h1 h2=>?_;rw[List.getElem_replicate,getElem_map]
  rfl
 rw[hz];refine jq sF gs (λas o=>∃x,o=[.fz (nE D s ns off),.fz (p3 gs),.l1 ((ng ns.length as).map L2.T.bl),x]) ⟨_,rfl⟩ ?_ ?_
 .rintro as g bs _ e ⟨x,rfl⟩;have lt:g<ns.length:=hg g (by rw[e];simp);refine⟨⟨rfl,rfl⟩,s,ns,off,g,rfl,lt,g,?_,.fz (sF g),?_⟩
  .unfold pE;rw[ak,La,ZY (Wp _),ZY xB]
   rfl
  .rw[<- YT,map_set]
   rfl
 .rintro _ ⟨x,rfl⟩;exact q
def Xj(l:List α)(h:α->T)(h0:0<=i)(h1:i<l.length):∃a∈l,n5 (l.map h) i=some (h a):=by
 obtain⟨k,rfl⟩:=Int.eq_ofNat_of_zero_le h0;have hk:k<l.length:=by lia
 refine⟨l[k],aR hk,?_⟩;show o1 (l.map h) k=_;rw[qm,aq,aj hk];rfl
def div_pos{b:Int}(hb:0<b):(divInt a b).den<=b.toNat/\(divInt a b).num.natAbs<=a.natAbs:=by
 have l:=Dj (t:=a) (b:=b) (c:=(Int.gcd a b:Nat)) (WP hb) (by have:=pI (a:=a) (b:=b) (WP hb);exact WP this) xB (XZ (pI (WP hb)) hb);have e:=nY l (WP hb);injection e with e;injection e with e1 e2;injection e2 with e2 _;injection e1 with e1;injection e2 with e2;have h1:=l.lx;have h2:=l.ly;have h3:=l.pos;have e1:a.fdiv ((Int.gcd a b:Nat):Int)=(divInt a b).num:=e1;have e2:b.fdiv ((Int.gcd a b:Nat):Int)=((divInt a b).den:Nat):=e2;rw[e1]at h1;rw[e2]at h2 h3;omega
def P0{b:Int}(ha:0<=a)(h:a<b):0<=divInt a b/\divInt a b<1:=by
 have hb:0<b:=by exact Int.lt_of_le_of_lt ha h
 refine⟨Qr ha (XY hb),?_⟩;have e:divInt a b=(a:Rat)/(b:Rat):=TH a b;rw[e];have dq:(0:Rat)<(b:Rat):=by exact_mod_cast hb
 rw[Rat.div_lt_iff dq,Rat.one_mul]
 exact_mod_cast h
structure Shr(s:Rat):Prop where
 lo:0<=s
 hi:s<1
 den:s.den<=100
structure tq(p:Rat):Prop where
 num:p.num.natAbs<=10^30
 den:p.den<=1000
def Uw(i:Int):(i*if(!false)=true then 1 else 0)=i:=Int.mul_one _
def Oe:ST:=λts q=>∃c:Int,ts=[.int c,.bl false]/\∀s:Rat,Shr s->q (.fz (a_ s))
def XR(F:Fun K xP xP Ju f fd)(T:Txt K mg D)(dj:c_ P w K mg base 1 iQ gM kZ)(d_:c_ P w K mg base 2 k_ jx ou):bV P w K mg base cp 3 f fd ug (mP K Oe):=by
 refine F.okT X7 (λ_ _=>bC (bL 2 (bH dj (bw xC (bw bx bA))))
  (bC (bL 3 (bJ cN bx (bJ cD (bI xL bx) (bI (dN (bw bx (bw bx (bw bx (bw bx bA))))) (bJ cI (bJ cD (bI xL bx) bx) (kY zW T.Bb boot_int (bw (Iw xD) bA)))))))
  (bG (bT (bH d_ (bw (bJ cD (bI xL bx) xS) (bw xS bA))))))) ?_
 rintro _ R ⟨c,rfl,q⟩;have s0:=mj c 0;have s1:=mj c 1;have s2:=mj c 2;refine⟨c,3,rfl,by decide,_,fK (k:=0),_,fK (k:=1),by decide,⟨dY xB,dY xa⟩,?_⟩;obtain⟨d,hd,ed⟩:=Xj [4,6,10,100] L2.T.int (i:=yT c 1%4) (Z3 _ xa) (by show yT c 1%4<4;exact YY _ xa);have d0:0<d/\d<=100:=by simp at hd;lia
 refine⟨_,(ZH (n5 ([4,6,10,100].map L2.T.int)) (Uw _)).trans ed,d0.1,?_⟩;have b0:0<1+yT c 0%d/\1+yT c 0%d<=100:=by
  have:=Z3 (yT c 0) (show d≠0 by lia);have:=YY (yT c 0) d0.1;lia
 refine⟨_,fK (k:=2),b0.1,_,_,rfl,b0.1,dY (by omega),q _ ?_⟩;generalize 1+yT c 0%d=b at b0 ⊢;have a0:=Z3 (yT c 2) (show b≠0 by lia);have a1:=YY (yT c 2) b0.1;obtain⟨x,y⟩:=P0 a0 a1;exact⟨x,y,by have:=(div_pos (a:=yT c 2%b) b0.1).1;lia⟩
def Ux:ST:=λts q=>∃c x y:Int,ts=[.int c,.int x,.int y,.bl false]/\(0<=x/\x<2000000000)/\(0<=y/\y<2000000000)/\∀p:Rat,tq p->q (.fz (a_ p))
def VE(F:Fun K Jk Jk Xv f fd)(T:Txt K mg D)(d_:c_ P w K mg base 2 k_ jx ou):bV P w K mg base cp 3 f fd Dk (mP K Ux):=by
 refine F.okT P3 (λhr _=>bC (cT (QW.qt (ji (cR xS) (gn (cM zq (bJ cD xD bx) bx))))
  (bG (bT (cZ (bw (bJ wJ (bJ cD xL bx) bx) (bw bx bA)))))
  bU)
  (bC (cT (cM zq (bJ cD xD bx) bx)
  (bG (bT (bH d_ (bw (bJ wJ (bJ cD xL bx) bx) (bw (bJ cN bx (bJ cD (bJ qN xD bx) bx)) bA)))))
  bU)
  (bC (cT (cM (yY hr.units) (bJ cD xD bx) bx)
  (bG (bT (cZ (bw (bJ wJ (bJ cD xC bx) bx) (bw bx bA)))))
  bU)
  (bG (bT (bH d_ (bw (bJ wJ (bJ cD (bJ cN (bJ Rq xC bx) xL) (bJ cN (bJ cI bx (bJ Qy bx bx)) bx)) (bJ Qy bx bx)) (bw (bJ cN bx (bJ cD (bJ qN xD bx) bx)) bA)))))))) ?_
 rintro _ R ⟨c,x,y,rfl,hx,hy,q⟩;have b30:Bd (10^30):=Y3 (aF _) (by decide +kernel);have lo:∀a b:Int,0<b->a.natAbs<=10^30->b<=1000->R (.fz (a_ (divInt a b))):=λa b h0 h1 h2=>by
  obtain⟨x,y⟩:=div_pos (a:=a) h0;exact q _ ⟨aK y h1,by lia⟩
 have one:∀a:Int,a.natAbs<=10^30->R (.fz (.tup [.int a,.int 1])):=λa h=>q (a:Rat) ⟨h,show(1:Nat)<=1000 by decide⟩;have d8:x.fdiv 8=x/8:=Int.fdiv_eq_ediv_of_nonneg _ xa;refine⟨by decide,pS (λh=>⟨by decide,one _ xB⟩) λh=>⟨by decide,pS (λh=>⟨by decide,⟨by decide,dY xa⟩,by decide,?_⟩) λh=>⟨by decide,pS (λh=>⟨by decide,one _ xB⟩) λh=>?_⟩⟩⟩
 .exact⟨_,_,rfl,by lia,dY xB,lo _ _ xB xB xB⟩
 .refine⟨.inr (by constructor<;>decide),⟨by decide,by decide,by decide⟩,⟨dY xa,b30⟩,by decide,⟨by decide,by decide,by decide⟩,⟨by decide,dY xa⟩,by decide,?_⟩;exact⟨_,_,rfl,by lia,dY xB,lo _ _ xB (by
   have e:(10:Int)^Int.toNat 30=10^30:=rfl;rw[e];lia) xB⟩
def pV:ST:=λts q=>∃c:Int,ts=[.int c]/\∀n:Nat,1<=n->n<=12->q (.fz (.int (n:Nat)))
def Yd(F:Fun K Cp Cp Qz f fd)(T:Txt K mg D)(dj:c_ P w K mg base 1 iQ gM kZ):bV P w K mg base cp 2 f fd zJ (mP K pV):=by
 refine F.okT Yy (λhr _=>bC (bL 1 (bH dj (bw xC (bw bx bA))))
  (bC (cT (cM (yY hr.units) (bJ cD (bI xD bx) bx) bx)
  (bG (bT (bJ cN bx (bJ cD (bI xD bx) bx))))
  bU)
  (bG (bT (bJ cN bx (bJ cD (bI xD bx) bx)))))) ?_
 rintro _ R ⟨c,rfl,q⟩;have s1:=mj c 1;have s1':0<=yT c 1:=s1.1;refine⟨c,2,rfl,by decide,_,fK (k:=0),by decide,pS (λh=>⟨_,fK (k:=1),by decide,?_⟩) λh=>⟨_,fK (k:=1),by decide,?_⟩⟩
 .have:=q (5+yT c 1%8).toNat xB xB;rw[show(((5+yT c 1%8).toNat:Nat):Int)=5+yT c 1%8 by lia]at this;exact this
 .have:=q (1+yT c 1%4).toNat xB xB;rw[show(((1+yT c 1%4).toNat:Nat):Int)=1+yT c 1%4 by lia]at this;exact this
structure LD where
 sort:Nat
 pay:Rat
 prs:zd
abbrev xh:=List LD
abbrev zr:=List xh
abbrev nv(d:LD):T:=.tup [.int (d.sort:Nat),a_ d.pay,.lst (d.prs.map oy)]
structure LDk(m:Nat)(d:LD):Prop where
 sort:d.sort<4
 pay:tq d.pay
 few:d.prs.length<=4
 lt:∀p∈d.prs,p.1<m
 nn:∀p∈d.prs,0<=p.2
 one:w6 (d.prs.map (·.2))=1
 dn:∃q:Nat,0<q/\q<=4000/\∀p∈d.prs,p.2.den ∣ q
 s0:d.sort=0->∃a,d.prs=[(a,1)]
 s1:d.sort=1->∃a b x,d.prs=[(a,x),(b,1-x)]
 s2:d.sort=2->∃rs:zD,d.prs=rs.map λr=>(r,mkRat 1 rs.length)
def XB(l:List α) : fH l none (some (n:Int))=l.take n:=by
 unfold fH;show(l.drop 0).take (HT.sIx l.length l.length (some (n:Int))-0)=_;rw[HT.yq,drop_zero,Nat.sub_zero];rw[List.take_eq_take_iff];lia
def J_{b:Int}(hb:0<b):(divInt a b).den ∣ b.toNat:=by
 have l:=Dj (t:=a) (b:=b) (c:=(Int.gcd a b:Nat)) (WP hb) (by have:=pI (a:=a) (b:=b) (WP hb);exact WP this) xB (XZ (pI (WP hb)) hb);have e:=nY l (WP hb);injection e with e;injection e with _ e2;injection e2 with e2 _;injection e2 with e2;have e2:b.fdiv ((Int.gcd a b:Nat):Int)=((divInt a b).den:Nat):=e2;have d:((Int.gcd a b:Nat):Int) ∣ b:=Int.gcd_dvd_right a b;rw[Int.fdiv_eq_ediv_of_dvd d]at e2;obtain⟨x,hx⟩:=d;have g0:=pI (a:=a) (b:=b) (WP hb);rw[Int.ediv_eq_of_eq_mul_right (WP g0) hx]at e2;exact Int.natCast_dvd_natCast.mp ⟨(Int.gcd a b:Nat),by rwa[<- e2,JP (XY hb),Int.mul_comm]⟩
theorem Sg{S:Int}(hS:S≠0):∀ws:zS,w6 (ws.map λw=>divInt w S)=divInt ws.sum S
 |[]=>by show(0:Rat)=divInt 0 S;rw[TK]
 |w::ws=>by
  show divInt w S+w6 (ws.map λw=>divInt w S)=divInt (w+ws.sum) S;rw[Sg hS ws,Tu _ _ hS hS];refine(JJ (mO hS hS) hS).mpr ?_
  grind
theorem Mf{n:Nat}(h:0<n):∀k:Nat,w6 (replicate k (mkRat 1 n))=mkRat k n
 |0=>by show(0:Rat)=mkRat 0 n;rw[Rat.zero_mkRat]
 |k+1=>by
  rw[replicate_succ];show mkRat 1 n+w6 (replicate k (mkRat 1 n))=_;rw[Mf h k,Rat.mkRat_add_mkRat _ _ (UY h) (UY h),Rat.mkRat_eq_iff (Nat.mul_ne_zero (UY h) (UY h)) (UY h)]
  push_cast
  grind
def Ye(h:0<n):mkRat n n=1:=by
 rw[show(1:Rat)=mkRat 1 1 from rfl,Rat.mkRat_eq_iff (UY h) (Nat.succ_ne_zero _)];lia
def one_sub{b:Int}(hb:b≠0):1-divInt a b=divInt (b-a) b:=by
 rw[show(1:Rat)=divInt 1 1 from rfl,Rat.divInt_sub_divInt _ _ xa hb,Int.one_mul,Int.mul_one]
def Mw(x:Rat):1-x=⟨(x.den:Int)-x.num,x.den,x.den_nz,by
  have:=x.reduced;show Nat.Coprime ((x.den:Int)-x.num).natAbs x.den;have h:Int.gcd ((x.den:Int)-x.num) (x.den:Int)=1:=by
   rw[Int.gcd_self_sub_left];exact this
  exact h⟩:=by
 rw[Rat.mk_eq_divInt,<- one_sub (kJ x),rd]
def WT(x:Rat):a_ (1-x)=.tup [.int ((x.den:Int)-x.num),.int x.den]:=by rw[Mw]
def TJ(x:Rat):(1-x).den=x.den:=by rw[Mw]
def LDk.sure{a:Nat}{p:Rat}(ha:a<m)(hp:tq p):LDk m ⟨0,p,[(a,1)]⟩ :=
 ⟨Nat.zero_lt_succ _,hp,UV rfl,by simp[ha],by simp;decide,by simp[w6];exact Rat.add_zero 1,⟨1,by decide,by decide,by simp⟩,λ_=>⟨_,rfl⟩,(λz=>by cases z),(λz=>by cases z)⟩
def LDk.toss{a b:Nat}{p x:Rat}(ha:a<m)(hb:b<m)(hp:tq p)(x0:0<=x)(x1:0<=1-x)(q0:0<q)(q1:q<=4000)(hd:x.den ∣ q):LDk m ⟨1,p,[(a,x),(b,1-x)]⟩ :=
 ⟨UV rfl,hp,UV rfl,by simp[ha,hb],by simp[x0,x1],by simp[w6];grind,⟨q,q0,q1,by simp[hd,TJ]⟩,(λz=>by cases z),λ_=>⟨_,_,_,rfl⟩,(λz=>by cases z)⟩
def V'(h:0<n):(mkRat 1 n).den=n:=by
 have e:=Qm h;injection e with e;injection e with _ e;injection e with e _;injection e with e;lia
def LDk.even{p:Rat}{rs:zD}(h0:0<rs.length)(h4:rs.length<=4)(hr:∀r∈rs,r<m)(hp:tq p):LDk m ⟨2,p,rs.map λr=>(r,mkRat 1 rs.length)⟩:=by
 have nn:(0:Rat)<=mkRat 1 rs.length:=by rw[<- Rat.divInt_ofNat];exact Qr xa (Wp _)
 refine⟨UV rfl,hp,by rw[ak];exact h4,λx hx=>?_,λx hx=>?_,?_,⟨rs.length,h0,by exact aK h4 xa,λx hx=>?_⟩,(λz=>by cases z),(λz=>by cases z),λ_=>⟨rs,rfl⟩⟩
 .obtain⟨r,h,rfl⟩:=YV.mp hx;exact hr r h
 .obtain⟨r,h,rfl⟩:=YV.mp hx;exact nn
 .rw[WU,show((λx:Nat×Rat=>x.2) ∘ λr=>(r,mkRat 1 rs.length))=λ_=>mkRat 1 rs.length from rfl,map_const',Mf h0,Ye h0]
 .obtain⟨r,h,rfl⟩:=YV.mp hx;rw[V' h0];exact dvd_refl _
def LDk.mix{p:Rat}{rs:zD}{ws:zS}(hl:ws.length<=4)(hr:∀r∈rs,r<m)(hw:∀w∈ws,0<=w)(le:ws.length<=rs.length)(s0:0<ws.sum)(s1:ws.sum<=4000)(hp:tq p):LDk m ⟨3,p,(rs.zip ws).map λx=>(x.1,divInt x.2 ws.sum)⟩:=by
 have m2:(rs.zip ws).map (λx=>x.2)=ws:=List.map_snd_zip le;refine⟨UV rfl,hp,by rw[ak,VY];lia,λx hx=>?_,λx hx=>?_,?_,⟨ws.sum.toNat,by lia,by lia,λx hx=>?_⟩,(λz=>by cases z),(λz=>by cases z),(λz=>by cases z)⟩
 .obtain⟨r,h,rfl⟩:=YV.mp hx;exact hr _ (UX h).1
 .obtain⟨r,h,rfl⟩:=YV.mp hx;exact Qr (hw _ (UX h).2) (XY s0)
 .rw[WU,show((λx:Nat×Rat=>x.2) ∘ λx:Nat×Int=>(x.1,divInt x.2 ws.sum))=(λw=>divInt w ws.sum) ∘ λx:Nat×Int=>x.2 from rfl,<- WU,m2,Sg (WP s0)];have e:=one_sub (a:=ws.sum) (b:=ws.sum) (WP s0);rw[Int.sub_self,TK]at e
  grind
 .obtain⟨r,h,rfl⟩:=YV.mp hx;exact J_ s0
theorem Wn:∀{ws:zS},(∀w∈ws,0<=w)->0<=ws.sum
 |[],_=>by decide
 |w::ws,h=>by
  have:=h w (aN ..);have:=Wn (ws:=ws) λx hx=>h x (aH _ hx);rw[sum_cons];lia
theorem Xk{b:Int} : ∀{ws:zS},(∀w∈ws,w<=b)->ws.sum<=b*ws.length
 |[],_=>by simp
 |w::ws,h=>by
  have:=h w (aN ..);have:=Xk (ws:=ws) λx hx=>h x (aH _ hx);rw[sum_cons,length_cons];have:b*((ws.length+1:Nat):Int)=b*ws.length+b:=by grind
  lia
def Q_:ST:=λts q=>∃(c:Int)(m:Nat),ts=[.int c,.int (m:Nat),.bl false]/\0<m/\m<=1000/\∀(r:Nat)(d:LD),r<m->LDk m d->q (.fz (.tup [.int (r:Nat),nv d]))
def Zg(F:Fun K Cy Cy wW f fd)(T:Txt K mg D)(dj:c_ P w K mg base 1 iQ gM kZ)(d_:c_ P w K mg base 2 k_ jx ou)(U3:c_ P w K mg base 3 Jk Dk Ux):bV P w K mg base cp 4 f fd xZ (mP K Q_):=by
 refine F.okT Ko (λhr _=>bC (bL 3 (bH dj (bw xC (bw bx bA))))
  (bC (bL 4 (dO (bF wW) qY qY ["_law_x"] (cG (jj xS (gj bx) (gj bx))) (gH (i:=0)) cJ (bJ cD xC xL)))
  (bC (bL 5 (bJ cD (bI xS bx) bx))
  (bC (bL 6 (sk.out (RB (gY (yV (gY (Aq (bI (qv 4) bx)) (gY (yV (gY RQ (gY RQ rY))) rY))) rY))))
  (bC (cT (cM (yY hr.units) (qv 5) bx)
  (bC (bL 7 (bJ cN bx (bJ cD (bI xS bx) bx)))
  (bC (bL 8 (bH d_ (bw (bJ cD (bI xS bx) (bJ cN (qv 7) bx)) (bw (qv 7) bA))))
  (bG (bL 6 (sk.out (RB (gY (yV (gY (Aq (bI (qv 4) bx)) (gY (N2 8) rY))) (gY (yV (gY (Aq (bI (qv 4) bx)) (gY (yV (gY (Zl wJ (Aq (bI (qv 8) bx)) (Aq (bI (qv 8) bx))) (gY (Aq (bI (qv 8) bx)) rY))) rY))) rY))))))))
  bU)
  (bC (cT (cM (yY hr.units) (qv 5) bx)
  (bC (bL 4 (jj (qv 4) yC (gj (bJ cN bx (bJ cD (bI xS bx) bx)))))
  (bG (nR (bF wW) qY qY ["_law_room"] (cG (qv 4)) (gH (i:=0)) cJ (cZ (bw xC (bw (cZ (bw bx (bw (bQ eG T.fJ WJ (bw (qv 5) bA)) bA))) bA))) (kh (i:=6) Ko.nd rfl (Or.inl rfl)))))
  bU)
  (bC (cT (cM (yY hr.units) (qv 5) bx)
  (bC (jL 9 (dO (bF wW) qY qY ["_law_x"] (cG (jj xS (gj bx) (gj (bJ cN bx (bJ cD (bI xS bx) bx))))) (gH (i:=0)) cJ (bJ cD xC (bI (dN (bw bx (bw bx (bw bx (bw bx bA))))) (bJ cI (bJ cD (bI (qv 4) bx) bx) (kY zW T.Bb boot_int (bw (Iw xS) bA)))))))
  (bC (Xx 9 (bJ cN (Uz 9 (J6 bx)) bx) (J6 bx))
  (bG (W_ 9 (nR (bF wW) qY qY ["_law_k"] (fW T.jD (bw (bQ eG T.fJ WJ (bw (qv 9) bA)) bA)) (gH (i:=0)) cJ (cZ (bw (bI (qv 5) xC) (bw (bH d_ (bw (bI (qv 10) xC) (bw (bQ (Qg rfl) T.WL boot_sum (bw (qv 10) bA)) bA))) bA))) (kh (i:=6) Ko.nd rfl (Or.inl rfl)))))))
  bU)
  (bG (bT (cZ (bw (bJ cD (bI xS bx) xD) (bw (cZ (bw (qv 5) (bw (bH U3 (bw xC (bw (bI xS bx) (bw (bI xS bx) (bw xL bA))))) (bw (qv 6) bA)))) bA)))))))))))) ?_
 rintro _ R ⟨c,m,rfl,m0,m1,q⟩;have mz:(0:Int)<(m:Nat):=by lia
 have sl:∀k,0<=yT c k/\yT c k<2000000000:=mj c;obtain⟨rm,hW,rme⟩ : ∃rm:Nat->Nat,(∀k,rm k<m)/\∀k,yT c k%(m:Nat)=(rm k:Nat):=⟨λk=>(yT c k%(m:Nat)).toNat,λk=>by
  have:=YY (yT c k) mz;have:=Z3 (yT c k) (show((m:Nat):Int)≠0 by exact WP mz);show(yT c k%(m:Nat)).toNat<m;lia,λk=>by
  have:=Z3 (yT c k) (show((m:Nat):Int)≠0 by exact WP mz);show _=((yT c k%(m:Nat)).toNat:Int);lia⟩
 obtain⟨so,eso,hso⟩ : ∃so:Nat,yT c 6%4=(so:Nat)/\so<4:=⟨(yT c 6%4).toNat,by have:=sl 6;lia,by have:=sl 6;lia⟩;refine IS (λo=>∃(x3 x6 x7 x8:OT)(prs:zd),o=[.fz (.int c),.fz (.int (m:Nat)),.fz (.bl false),.fz (.lst ((iZ c 14).map L2.T.int)),x3,.fz (.int (so:Nat)),.fz (.lst (prs.map oy)),x6,x7,x8]/\∀p,tq p->LDk m ⟨so,p,prs⟩) ?_ λY go=>?_
 .rintro _ ⟨x3,x6,x7,x8,prs,rfl,hk⟩;refine⟨_,fK (k:=13),mz,_,fK (k:=0),_,fK (k:=1),c,_,_,rfl,sl 0,sl 1,λp hp=>?_⟩;have:=q (rm 13) ⟨so,p,prs⟩ (hW 13) (hk p hp);rw[<- rme]at this;exact this
 .refine⟨c,14,rfl,by decide,?_⟩;have ec:fH ((iZ c 14).map L2.T.int) (some 2) (some 6)=[2,3,4,5].map (λk=>L2.T.int (yT c k)):=rfl;show(fH ((iZ c 14).map L2.T.int) (some 2) (some 6)).length<=sizeLine/\iw _ _ _ _ (fH ((iZ c 14).map L2.T.int) (some 2) (some 6)) _;rw[ec];refine⟨show 4<=sizeLine by decide,comp_map (λk=>L2.T.int (yT c k)) (λk=>.int (rm k:Nat)) [2,3,4,5] (λk _ N M hN=>⟨mz,by rwa[rme]⟩) ⟨_,fK (k:=6),by decide,?_⟩⟩;dsimp only[frz];rw[eso];refine⟨_,rfl,?_⟩;obtain rfl|rfl|rfl|rfl:so=0\/so=1\/so=2\/so=3:=by lia
  .exact go _ ⟨_,_,_,_,[(rm 2,1)],rfl,λp hp=>.sure (hW 2) hp⟩
  .have x8:=sl 8;have x9:=sl 9;refine⟨_,fK (k:=8),by decide,_,fK (k:=9),by lia,_,_,rfl,by lia,dY xB,_,rfl,_,rfl,?_⟩;obtain⟨b,eb,b0,b1⟩ : ∃b:Int,1+yT c 8%6=b/\0<b/\b<=6:=⟨_,rfl,by lia,by lia⟩;rw[eb];have a0:=Z3 (yT c 9) (show b+1≠0 by lia);have a1:=YY (yT c 9) (show 0<b+1 by exact Int.lt_trans b0 (Int.lt_succ _));generalize yT c 9%(b+1)=a at a0 a1 ⊢;have nn:0<=divInt a b:=Qr a0 (XY b0);have l1:0<=1-divInt a b:=by rw[one_sub (WP b0)];exact Qr (by omega) (XY b0)
   have dd:=J_ (a:=a) b0;generalize divInt a b=x at nn l1 dd ⊢;refine go _ ⟨.fz (.lst ([2,3,4,5].map λk=>L2.T.int (rm k:Nat))),.fz (.int b),.fz (a_ x),.und,[(rm 2,x),(rm 3,1-x)],?_,λp hp=>.toss (hW 2) (hW 3) hp nn l1 (show 0<b.toNat by lia) xB dd⟩;rw[show[(rm 2,x),(rm 3,1-x)].map oy=[.tup [.int (rm 2:Nat),a_ x],.tup [.int (rm 3:Nat),a_ (1-x)]]from rfl,WT]
   rfl
  .have x7:=sl 7;obtain⟨n,en,n0,n4⟩ : ∃n:Nat,1+yT c 7%4=(n:Nat)/\0<n/\n<=4:=⟨(1+yT c 7%4).toNat,by lia,by lia,by lia⟩;refine⟨_,fK (k:=7),by decide,?_⟩;show(fH ([2,3,4,5].map λk=>L2.T.int (rm k:Nat)) none (some (1+yT c 7%4))).length<=sizeLine/\iw _ _ _ _ (fH ([2,3,4,5].map λk=>L2.T.int (rm k:Nat)) none (some (1+yT c 7%4))) _;have ec2:fH ([2,3,4,5].map λk=>L2.T.int (rm k:Nat)) none (some (1+yT c 7%4))=(([2,3,4,5].map rm).take n).map λr:Nat=>L2.T.int (r:Nat):=by
    rw[en,XB,map_take,WU]
    rfl
   have rl:(([2,3,4,5].map rm).take n).length=n:=by rw[aX];show min n 4=n;lia
   have rlt:∀r∈([2,3,4,5].map rm).take n,r<m:=λr hr=>by
    obtain⟨k,_,rfl⟩:=YV.mp (QR hr);exact hW k
   rw[ec2];generalize([2,3,4,5].map rm).take n=rs at rl rlt ⊢;have r0:0<rs.length:=by lia
   have e2:(rs.map λr=>(r,mkRat 1 rs.length)).map oy=rs.map λr=>oy (r,mkRat 1 rs.length):=by rw[WU];rfl
   refine⟨by rw[ak];exact aK (show _<=4 by exact aK (WS rl) n4) xa,comp_map (λr:Nat=>L2.T.int (r:Nat)) (λr=>oy (r,mkRat 1 rs.length)) rs (λr hr N M hN=>?_) (go _ ⟨.fz (.lst (rs.map λr:Nat=>L2.T.int (r:Nat))),.und,.und,.und,rs.map λr=>(r,mkRat 1 rs.length),by rw[e2];rfl,λp hp=>.even r0 (aK (WS rl) n4) rlt hp⟩)⟩;rw[show oy (r,mkRat 1 rs.length)=.tup [.int (r:Nat),a_ (mkRat 1 rs.length)]from rfl,Qm r0,<- ak (f:=λr:Nat=>L2.T.int (r:Nat))]at hN;exact hN
  .have x7:=sl 7;have fq:=sl 12;obtain⟨n,en,n0,n4⟩ : ∃n:Nat,9+yT c 7%4=((8+n:Nat):Int)/\0<n/\n<=4:=⟨(1+yT c 7%4).toNat,by lia,by lia,by lia⟩;refine⟨_,fK (k:=7),by decide,?_⟩;show(fH ((iZ c 14).map L2.T.int) (some 8) (some (9+yT c 7%4))).length<=sizeLine/\iw _ _ _ _ (fH ((iZ c 14).map L2.T.int) (some 8) (some (9+yT c 7%4))) _;have ec3:fH ((iZ c 14).map L2.T.int) (some 8) (some (9+yT c 7%4))=(((iZ c 14).drop 8).take n).map L2.T.int:=by
    rw[en,pN];have:=R9 (ys:=iZ c 14) (a:=8) (b:=8+n) (X2 _ _) (by rw[ak,W1];lia);rw[show 8+n-8=n by exact TU _ _]at this;exact ZH (List.map L2.T.int) this
   have ul:(((iZ c 14).drop 8).take n).length=n:=by rw[aX,US,ak,W1];lia
   rw[ec3];generalize((iZ c 14).drop 8).take n=us at ul ⊢;obtain⟨d,hd,ed⟩:=Xj [3,3,3,1000] L2.T.int (i:=yT c 12%4) (Z3 _ xa) (by show yT c 12%4<4;exact YY _ xa);have d0:0<d/\d<=1000:=by simp at hd;lia
   refine⟨by rw[ak];exact aK (show _<=4 by exact aK (WS ul) n4) xa,comp_map L2.T.int (λx=>L2.T.int (x%d)) us (λx hx N M hN=>⟨_,fK (k:=12),by decide,⟨dY xB,dY xa⟩,_,(ZH (n5 ([3,3,3,1000].map L2.T.int)) (Uw _)).trans ed,d0.1,hN⟩) ?_⟩;have em:us.map (λx=>L2.T.int (x%d))=(us.map (· % d)).map L2.T.int:=by rw[WU];rfl
   rw[em];have wl:(us.map (· % d)).length=n:=by rwa[ak]
   have ww:∀w∈us.map (· % d),0<=w/\w<1000:=λw hw=>by
    obtain⟨x,_,rfl⟩:=YV.mp hw;have:=Z3 x (show d≠0 by lia);have:=YY x d0.1;lia
   generalize us.map (· % d)=ws at wl ww ⊢;obtain⟨vs,v,rfl⟩ : ∃vs v,ws=vs++[v]:=by
    rcases List.eq_nil_or_concat ws with rfl|⟨vs,v,e⟩
    .cases wl;cases n0
    .exact⟨vs,v,by rw[e,List.concat_eq_append]⟩
   rw[aA,length_singleton]at wl;have ixl:n5 ((vs++[v]).map L2.T.int) (-1)=some (.int v):=by
    show o1 ((vs++[v]).map L2.T.int).reverse 0=_;rw[aZ,List.reverse_append]
    rfl
   have ixn:pE ((vs++[v]).map L2.T.int).length (-1)=some vs.length:=by
    unfold pE;rw[ak,aA,length_singleton];rw[ZZ xa,ZY xB]
    congr 1
    lia
   refine⟨_,ixl,_,ixn,?_⟩;have es:((vs++[v]).map L2.T.int).set vs.length (.int (v+1))=(vs++[v+1]).map L2.T.int:=by
    rw[aZ,aZ,List.set_append_right _ _ (by rw[ak];exact aF _),ak,Nat.sub_self]
    rfl
   dsimp only[frz];rw[es];have kn:(vs++[v+1]).length=n:=by rwa[aA,length_singleton]
   have km:∀w∈vs++[v+1],0<=w/\w<=1000:=λw hw=>by
    rcases Y1.mp hw with z|z
    .have:=ww w (UP _ z);lia
    .have:=ww v (aO _ (YR.mpr rfl));rw[YR.mp z];lia
   have s0:0<(vs++[v+1]).sum:=by
    have:0<=vs.sum:=Wn λw hw=>(ww w (UP _ hw)).1;have:=(ww v (aO _ (YR.mpr rfl))).1;rw[List.sum_append];show 0<vs.sum+(v+1+0);lia
   have s1:(vs++[v+1]).sum<=1000*(vs++[v+1]).length:=Xk λw hw=>(km w hw).2;generalize vs++[v+1]=us at kn km s0 s1 ⊢;have ul':(us.map L2.T.int).length=us.length:=ak ..;have r4:∀k,k<4->([2,3,4,5].map rm)[k]?=some (rm (k+2)):=λk hk=>by
    obtain rfl|rfl|rfl|rfl:k=0\/k=1\/k=2\/k=3:=by lia
    all_goals rfl
   have z:∀k(hk:k<us.length),((([2,3,4,5].map rm).zip us).map λx=>(x.1,divInt x.2 us.sum))[k]?=some (rm (k+2),divInt (us.getD k 0) us.sum):=λk hk=>by
    rw[aq,List.getElem?_zip_eq_some (z:=(rm (k+2),us.getD k 0)) |>.mpr ⟨r4 k xB,by rw[au,aj hk];rfl⟩]
    rfl
   have ep:(range (us.map L2.T.int).length).map (λk=>oy (rm (k+2),divInt (us.getD k 0) us.sum))=((([2,3,4,5].map rm).zip us).map λx=>(x.1,divInt x.2 us.sum)).map oy:=by
    refine List.ext_getElem? λk=>?_;rw[ul'];by_cases hk:k<us.length
    .rw[aq,UH hk,aq,z k hk]
     rfl
    .rw[aL (by rw[ak,W1];exact VW hk),aL (by rw[ak,ak,VY];omega)]
   refine⟨⟨by lia,by lia⟩,by rw[rng,ak,W1];exact aK (show _<=4 by lia) xa,QJ (λk=>oy (rm (k+2),divInt (us.getD k 0) us.sum)) (us.map L2.T.int).length (λk hk N M hN=>?_) (go _ ⟨.fz (.lst ([2,3,4,5].map λk=>L2.T.int (rm k:Nat))),.und,.und,.fz (.lst (us.map L2.T.int)),(([2,3,4,5].map rm).zip us).map λx=>(x.1,divInt x.2 us.sum),by rw[ep];rfl,λp hp=>LDk.mix (rs:=[2,3,4,5].map rm) (aK (WS kn) n4) (λr hr=>?_) (λw hw=>(km w hw).1) (show us.length<=4 by exact aK (WS kn) n4) s0 xB hp⟩)⟩
   .rw[ul']at hk;have ek:us[k]?=some (us.getD k 0):=by rw[au,aj hk];rfl
    have e4:=r4 k xB;rw[aq]at e4;refine⟨.int (rm (k+2):Nat),?_,_,eU ek,us,rfl,_,_,rfl,s0,dY xB,hN⟩;show o1 _ k=_;rw[qm,aq];cases z2:([2,3,4,5] : zD)[k]? with
    |none=>rw[z2]at e4;cases e4
    |some j=>rw[z2]at e4;injection e4 with e4;show some (L2.T.int (rm j:Nat))=_;rw[show rm j=rm (k+2)from e4]
   .obtain⟨k,_,rfl⟩:=YV.mp hr;exact hW k
structure DSk(m mo:Nat)(ac:zr):Prop where
 len:ac.length=m
 few:∀ds∈ac,ds.length<=mo
 ok:∀ds∈ac,∀d∈ds,LDk m d
abbrev sn(ac:zr):List zg:=ac.map λds=>ds.map nv
abbrev rJ(ac:zr):T:=.lst (ac.map λds=>.lst (ds.map nv))
def Z2(ac:zr):frz (.l2 (sn ac))=rJ ac:=by
 show L2.T.lst ((ac.map λds=>ds.map nv).map L2.T.lst)=_;rw[WU]
 rfl
def DSk.add{mo:Nat}{ac:zr}(h:DSk m mo ac){ds:xh}{d:LD}(e:ac[k]?=some ds)(lt:ds.length<mo)(hd:LDk m d):DSk m mo (ac.set k (ds++[d])):=by
 refine⟨by rw[VZ,h.len],λx hx=>?_,λx hx y hy=>?_⟩
 .rcases List.mem_or_eq_of_mem_set hx with z|rfl
  .exact h.few x z
  .rw[aA,length_singleton];exact lt
 .rcases List.mem_or_eq_of_mem_set hx with z|rfl
  .exact h.ok x z y hy
  .rcases Y1.mp hy with z|z
   .exact h.ok ds (aB e) y z
   .rw[YR.mp z];exact hd
def Q1{ac:zr}{r:Nat}{ds:xh}(e:ac[r]?=some ds):n5 ((sn ac).map L2.T.lst) (r:Nat)=some (.lst (ds.map nv)):=by
 show o1 ((sn ac).map L2.T.lst) r=_;rw[qm,aq,aq,e];rfl
def Lr:ST:=λts q=>∃(ns:zS)(a m:Nat),ts=[vv ns,.int (a:Nat),.int (m:Nat),.bl false]/\ns.length<=100/\m<=300/\∀ac:zr,DSk m 3 ac->q (.l2 (sn ac))
def Wz(F:Fun K zP zP Cm f fd)(T:Txt K mg D)(qd:c_ P w K mg base 1 zu vH Le)(dj:c_ P w K mg base 1 iQ gM kZ)(Pj:c_ P w K mg base 4 Cy xZ Q_):bV P w K mg base cp 5 f fd tY (mP K Lr):=by
 refine F.okT N6 (λ_ _=>bC (Yv (bF Cm) K6 K6 ["_law_k"] (fW T.jD (bw xL bA)) (gH (i:=0)) cJ (dN bA) (kh (i:=4) N6.nd rfl (Or.inl rfl)))
  (bC (cT (cM M9 xL bx)
  (bC (bL 5 (bH qd (bw xC (bw xD bA))))
  (bC (bL 6 (bH dj (bw (qv 5) (bw (bJ cD (bJ cD (bJ Rq (qv 5) bx) bx) (bJ cN (bJ cI bx xL) bx)) bA))))
  (bG (gA (cG (bJ cN (qv 6) (jj xC (gj (bJ cN xD bx)) (gj (bJ cN xD bx))))) (cC (n:=99) 7)
  (bC (PB (bH Pj (bw (qv 7) (bw xL (bw xS bA)))) (jN (n:=2) (bY (cC (n:=99) 8) (bY (cC (n:=99) 9) gb))))
  (bG (cT (Ot 4 (cM zq (bQ eG T.fJ WJ (bw (bI (qv 4) (qv 8)) bA)) (bJ wJ bx (kY zW T.Bb boot_int (bw xS bA)))))
  (bG (Yk 4 (qv 8) (qv 9)))
  bU)))))))
  bU)
  (bG (jy 4)))) ?_
 rintro _ R ⟨ns,a,m,rfl,nl,m1,q⟩;have e0:(range m).map (λ_=>([] : List L2.T))=sn (replicate m []):=by
  unfold sn;rw[map_replicate,map_const',W1]
  rfl
 have h0:DSk m 3 (replicate m []):=⟨aM,λx hx=>by rw[(XV.mp hx).2];exact aY _,λx hx y hy=>by rw[(XV.mp hx).2]at hy;cases hy⟩;refine⟨⟨by lia,by lia⟩,by rw[rng,ak,W1];exact aK m1 xa,Wh (λ_=>[]) m (λk hk N M hN=>hN) ?_⟩;rw[e0];refine pS (λhm=>?_) λhm=>q _ h0;refine⟨ns,a,rfl,nl,?_⟩;dsimp only[frz];generalize ns.getD a 0=fi;have mz:(0:Int)<3*(m:Nat)+1:=by lia
 obtain⟨n,en,n1⟩ : ∃n:Nat,fi*48271%104729%(3*(m:Nat)+1)=(n:Nat)/\n<=3*m:=⟨(fi*48271%104729%(3*(m:Nat)+1)).toNat,by
  have:=Z3 (fi*48271%104729) (show(3*(m:Nat)+1:Int)≠0 by exact WP mz);lia,by
  have:=YY (fi*48271%104729) mz;have:=Z3 (fi*48271%104729) (show(3*(m:Nat)+1:Int)≠0 by exact WP mz);lia⟩
 refine⟨.inr (by constructor<;>decide),by decide,⟨dY xa,dY xB⟩,mz,fi,n,by rw[en];rfl,by lia,?_⟩;have ec:(iZ fi n).map L2.T.int++fH (ns.map L2.T.int) (some ((a:Nat)+1)) (some ((a:Nat)+25))=(iZ fi n++fH ns (some ((a:Nat)+1)) (some ((a:Nat)+25))).map L2.T.int:=by rw[pN,aZ]
 have cl:(fH ns (some ((a:Nat)+1)) (some ((a:Nat)+25))).length<=100:=by
  unfold fH;rw[aX,US];lia
 show((iZ fi n).map L2.T.int).length+(fH (ns.map L2.T.int) (some ((a:Nat)+1)) (some ((a:Nat)+25))).length<=sizeLine/\_;refine⟨?_,?_⟩
 .rw[pN,ak,ak,ak,W1];exact aK (show _<=1100 by lia) xa
 dsimp only[frz];rw[ec];have sl:(iZ fi n++fH ns (some ((a:Nat)+1)) (some ((a:Nat)+25))).length<=1100:=by rw[aA,ak,W1];lia
 generalize iZ fi n++fH ns (some ((a:Nat)+1)) (some ((a:Nat)+25))=cs at sl ⊢;refine jq L2.T.int cs (λ_ o=>∃(ac:zr)(x7 x8 x9:OT),o=[.fz (vv ns),.fz (.int (a:Nat)),.fz (.int (m:Nat)),.fz (.bl false),.l2 (sn ac),.fz (.int fi),.fz (.lst ((iZ fi n).map L2.T.int)),x7,x8,x9]/\DSk m 3 ac) ⟨_,_,_,_,rfl,h0⟩ ?_ ?_
 .rintro _ c _ _ _ ⟨ac,x7,x8,x9,rfl,h⟩;refine⟨c,m,rfl,by lia,by exact aK m1 xa,λr d hr hd=>⟨rfl,?_⟩⟩;have lr:r<ac.length:=by rwa[h.len]
  have er:=aj lr;refine⟨_,Q1 er,pS (λlt=>?_) λ_=>⟨ac,.fz (.int c),.fz (.int (r:Nat)),.fz (nv d),rfl,h⟩⟩;have lt:((ac[r].map nv).length:Int)<3:=lt;rw[ak]at lt;refine⟨r,ac[r].map nv,?_,by rw[aq,er];rfl,by rw[ak];exact aQ (show _<1001 by lia) xa,ac.set r (ac[r]++[d]),.fz (.int c),.fz (.int (r:Nat)),.fz (nv d),?_,h.add er xB hd⟩
  .unfold pE;rw[ak,ZY (Wp _),ZY xB]
   rfl
  .rw[show sn (ac.set r (ac[r]++[d]))=(sn ac).set r (ac[r].map nv++[nv d])by
    unfold sn;rw[map_set,aZ]
    rfl]
   rfl
 .rintro _ ⟨ac,x7,x8,x9,rfl,h⟩;exact q ac h
def zc(ws:zd)(p:Nat×Rat):zd:=if(ws.any λx=>decide (x.1=p.1))=true then ws.map (λx=>if x.1=p.1 then(x.1,x.2+p.2)else x)else ws++[p]
def yG(ps:zd):zd:=ps.foldl zc []
def uI(ps:zd):zd:=(yG ps).filter λp=>!decide (p.2=0)
abbrev nh(ns:Θ)(p:Nat×Rat):Str×Rat:=(ns.getD p.1 ⟨#[]⟩,p.2)
def K_(nd:ns.Nodup){i j:Nat}(hi:i<ns.length)(hj:j<ns.length):(ns.getD i ⟨#[]⟩=ns.getD j ⟨#[]⟩)↔i=j:=by
 constructor
 .intro h;rw[au,au,aj hi,aj hj]at h;rcases Nat.lt_trichotomy i j with l|l|l
  .exact absurd h ((List.pairwise_iff_getElem.mp nd) i j hi hj l)
  .exact l
  .exact absurd h.symm ((List.pairwise_iff_getElem.mp nd) j i hj hi l)
 .intro h;rw[h]
def RH(nd:ns.Nodup){p:Nat×Rat}(hw:∀w∈ws,w.1<ns.length)(hp:p.1<ns.length):nV (ws.map (nh ns)) (nh ns p)=(zc ws p).map (nh ns):=by
 have an:((ws.map (nh ns)).any λx=>decide (x.1=(nh ns p).1))=ws.any λx=>decide (x.1=p.1):=by
  rw[any_map];refine Bool.eq_iff_iff.mpr ⟨λh=>?_,λh=>?_⟩
  .obtain⟨x,hx,e⟩:=List.any_eq_true.mp h;exact List.any_eq_true.mpr ⟨x,hx,Zs ((K_ nd (hw x hx) hp).mp (of_decide_eq_true e))⟩
  .obtain⟨x,hx,e⟩:=List.any_eq_true.mp h;exact List.any_eq_true.mpr ⟨x,hx,Zs ((K_ nd (hw x hx) hp).mpr (of_decide_eq_true e))⟩
 unfold nV zc;rw[an];split
 .rw[WU,WU];refine Th λx hx=>?_;show(if(nh ns x).1=(nh ns p).1 then _ else _)=nh ns (if x.1=p.1 then _ else _);by_cases e:x.1=p.1
  .rw[ZY e,ZY ((K_ nd (hw x hx) hp).mpr e)]
  .rw[ZZ e,ZZ λz=>e ((K_ nd (hw x hx) hp).mp z)]
 .rw[aZ];rfl
def CW{p w:Nat×Rat}(h:w∈zc ws p):(w∈ws/\w.1≠p.1)\/w=p\/∃x∈ws,x.1=p.1/\w=(x.1,x.2+p.2):=by
 unfold zc at h;split at h
 .obtain⟨x,hx,rfl⟩:=YV.mp h;by_cases e:x.1=p.1
  .rw[ZY e];exact .inr (.inr ⟨x,hx,e,rfl⟩)
  .rw[ZZ e];exact .inl ⟨hx,e⟩
 .rename_i n
  rcases Y1.mp h with z|z
  .exact .inl ⟨z,λe=>n (List.any_eq_true.mpr ⟨w,z,Zs e⟩)⟩
  .exact .inr (.inl (YR.mp z))
def RZ(nd:ns.Nodup)(h:∀p∈ps,p.1<ns.length):j4 (ps.map (nh ns))=(yG ps).map (nh ns):=by
 suffices H:∀(ps ws:zd),(∀p∈ps,p.1<ns.length)->(∀w∈ws,w.1<ns.length)->(ps.map (nh ns)).foldl nV (ws.map (nh ns))=(ps.foldl zc ws).map (nh ns)from H ps [] h λ_ z=>(nomatch z)
 intro ps
 induction ps with
 |nil=>exact λ_ _ _=>rfl
 |cons p ps ih =>
  intro ws hp hw;rw[map_cons,foldl_cons,foldl_cons,RH nd hw (hp p (aN ..))];refine ih _ (λq hq=>hp q (aH _ hq)) λw hm=>?_;rcases CW hm with⟨z,_⟩|rfl|⟨x,hx,_,rfl⟩
  .exact hw w z
  .exact hp w (aN ..)
  .exact hw x hx
def X_(nd:ns.Nodup)(h:∀p∈ps,p.1<ns.length):zm (ps.map (nh ns))=(uI ps).map (nh ns):=by
 unfold zm uI;rw[RZ nd h,List.filter_map]
 rfl
def vC(hq:0<q):r.den ∣ q↔∃x:Int,r=divInt x q:=by
 constructor
 .rintro⟨k,rfl⟩;refine⟨r.num*k,?_⟩;have hk:((k:Nat):Int)≠0:=λz=>by rw[show k=0 by lia]at hq;lia
  conv=>lhs;rw[<- rd r]
  refine(JJ (kJ r) (by push_cast;exact mO (kJ r) hk)).mpr ?_
  push_cast
  grind
 .rintro⟨x,rfl⟩;have:=J_ (a:=x) (b:=(q:Nat)) xB;exact this
def FQ{a b:Rat}(hq:0<q)(ha:a.den ∣ q)(hb:b.den ∣ q):(a+b).den ∣ q:=by
 obtain⟨x,rfl⟩:=(vC hq).mp ha;obtain⟨y,rfl⟩:=(vC hq).mp hb;have h0:((q:Nat):Int)≠0:=by lia
 refine(vC hq).mpr ⟨x+y,?_⟩;rw[Tu _ _ h0 h0];refine(JJ (mO h0 h0) h0).mpr ?_
 grind
def p4{a b:Rat}{r:Nat}(hq:0<q)(hr:0<r)(ha:a.den ∣ q)(hb:b.den ∣ r):(a*b).den ∣ q*r:=by
 obtain⟨x,rfl⟩:=(vC hq).mp ha;obtain⟨y,rfl⟩:=(vC hr).mp hb;refine(vC (UR hq hr)).mpr ⟨x*y,?_⟩;rw[TR]
 push_cast
 rfl
structure ue(m q:Nat)(as ws:zd):Prop where
 nd:(ws.map (·.1)).Nodup
 lt:∀w∈ws,w.1<m
 nn:∀w∈ws,0<=w.2
 dn:∀w∈ws,w.2.den ∣ q
 sum:∀y:Nat->Rat,dw ws y=dw as y
 few:ws.length<=as.length
def Dp(as bs:zd)(y:Nat->Rat):dw (as++bs) y=dw as y+dw bs y:=by
 induction as with
 |nil=>show dw bs y=0+_;rw[Rat.zero_add]
 |cons a as ih=>rw[cons_append,dZ,dZ,ih,Rat.add_assoc]
def Pa(p:Nat×Rat)(y:Nat->Rat):dw [p] y=p.2*y p.1:=by rw[dZ];show _+0=_;rw[Rat.add_zero]
def Sn{p:Nat×Rat}(nd:(ws.map (·.1)).Nodup)(y:Nat->Rat):dw (zc ws p) y=dw ws y+p.2*y p.1:=by
 unfold zc;split
 .rename_i h
  induction ws with
  |nil=>cases h
  |cons x ws ih =>
   obtain⟨n1,n2⟩:=List.nodup_cons.mp nd;rw[map_cons,dZ,dZ];by_cases e:x.1=p.1
   .rw[ZY e];have rest:ws.map (λx=>if x.1=p.1 then(x.1,x.2+p.2)else x)=ws:=by
     conv=>rhs;rw[<- List.map_id ws]
     refine Th λz hz=>?_;rw[ZZ λw=>n1 (YV.mpr ⟨z,hz,w.trans e.symm⟩)]
     rfl
    rw[rest,<- e];show(x.2+p.2)*y x.1+dw ws y=_
    grind
   .rw[ZZ e,ih n2 (by
     rw[any_cons,Zp e,Bool.false_or]at h;exact h)]
    grind
 .rw[Dp,Pa]
def So{p:Nat×Rat}(nd:(ws.map (·.1)).Nodup):((zc ws p).map (·.1)).Nodup:=R6 nd
def YC(hq:0<q){as:zd}{p:Nat×Rat}(hp:p.1<m/\0<=p.2/\p.2.den ∣ q)(h:ue m q as ws):ue m q (as++[p]) (zc ws p):=by
 refine⟨So h.nd,λw hw=>?_,λw hw=>?_,λw hw=>?_,λy=>by rw[Sn h.nd,h.sum,Dp,Pa],?_⟩
 .rcases CW hw with⟨z,_⟩|rfl|⟨x,hx,_,rfl⟩
  .exact h.lt w z
  .exact hp.1
  .exact h.lt x hx
 .rcases CW hw with⟨z,_⟩|rfl|⟨x,hx,_,rfl⟩
  .exact h.nn w z
  .exact hp.2.1
  .have:=h.nn x hx;have:=hp.2.1;show 0<=x.2+p.2
   grind
 .rcases CW hw with⟨z,_⟩|rfl|⟨x,hx,_,rfl⟩
  .exact h.dn w z
  .exact hp.2.2
  .exact FQ hq (h.dn x hx) hp.2.2
 .have:=h.few;unfold zc;split
  .rw[ak,aA];exact aK this (X2 _ _)
  .rw[aA,aA];simp;omega
def HD(hq:0<q):∀{ps:zd},(∀p∈ps,p.1<m/\0<=p.2/\p.2.den ∣ q)->ue m q ps (yG ps):=by
 intro ps h
 suffices H:∀(ps as ws:zd),(∀p∈ps,p.1<m/\0<=p.2/\p.2.den ∣ q)->ue m q as ws->ue m q (as++ps) (ps.foldl zc ws)from H ps [] [] h ⟨.nil,λ_ z=>(nomatch z),λ_ z=>(nomatch z),λ_ z=>(nomatch z),λ_=>rfl,aF _⟩
 intro ps
 induction ps with
 |nil=>intro as ws _ h;rwa[append_nil]
 |cons p ps ih =>
  intro as ws hp h;have:=ih (as++[p]) (zc ws p) (λx hx=>hp x (aH _ hx)) (YC hq (hp p (aN ..)) h);rw[WZ]at this;exact this
theorem z6(y:Nat->Rat):∀ws:zd,dw (ws.filter λp=>!decide (p.2=0)) y=dw ws y
 |[]=>rfl
 |w::ws=>by
  by_cases e:w.2=0
  .rw[List.filter_cons_of_neg (by rw[Zs e];decide),z6 y ws,dZ,e,Rat.zero_mul,Rat.zero_add]
  .rw[List.filter_cons_of_pos (by rw[Zp e];rfl),dZ,dZ,z6 y ws]
def Dd(hq:0<q)(h:∀p∈ps,p.1<m/\0<=p.2/\p.2.den ∣ q):ue m q ps (uI ps):=by
 have j:=HD hq h;have sub:∀w∈uI ps,w∈yG ps:=λw hw=>(List.mem_filter.mp hw).1;refine⟨(List.filter_sublist.map _).nodup j.nd,λw hw=>j.lt w (sub w hw),λw hw=>j.nn w (sub w hw),λw hw=>j.dn w (sub w hw),λy=>?_,aK (List.length_filter_le ..) j.few⟩;unfold uI;rw[z6,j.sum]
theorem qG{w:Nat×Rat} : ∀{ws:zd},(∀w∈ws,0<=w.2)->w∈ws->w.2<=dw ws λ_=>1
 |[],_,h=>by cases h
 |x::ws,nn,h=>by
  rw[dZ];have n0:∀ws:zd,(∀w∈ws,0<=w.2)->0<=dw ws λ_=>1:=λws=>by
   induction ws with
   |nil=>intro _;exact VX
   |cons y ws ih =>
    intro h;rw[dZ];have:=h y (aN ..);have:=ih λw hw=>h w (aH _ hw)
    grind
  rcases YU.mp h with rfl|z
  .have:=n0 ws λw hw=>nn w (aH _ hw)
   grind
  .have:=qG (ws:=ws) (λw hw=>nn w (aH _ hw)) z;have:=nn x (aN ..)
   grind
theorem vg:∀ps:zd,(dw ps λ_=>1)=w6 (ps.map (·.2))
 |[]=>rfl
 |p::ps=>by
  rw[dZ,vg ps,Rat.mul_one]
  rfl
def LDk.all{d:LD}(h:LDk m d):∃q:Nat,0<q/\q<=4000/\∀p∈d.prs,p.1<m/\0<=p.2/\p.2.den ∣ q:=by
 obtain⟨q,q0,q1,hq⟩:=h.dn;exact⟨q,q0,q1,λp hp=>⟨h.lt p hp,h.nn p hp,hq p hp⟩⟩
def Wc(q0:0<q)(q1:q<=4000)(h0:0<=r)(h1:r<=1)(hd:r.den ∣ q):Ch r:=⟨h0,h1,dY (by have:=VT q0 hd;lia)⟩
def LDk.prsOk{d:LD}(h:LDk m d)(hn:ub ns m):v4 (d.prs.map (nh ns)):=by
 obtain⟨q,q0,q1,hq⟩:=h.all;have le1:∀p∈d.prs,p.2<=1:=λp hp=>by
  rw[<- h.one,<- vg];exact qG h.nn hp
 have few:=h.few;have m2:(d.prs.map (nh ns)).map (·.2)=d.prs.map (·.2):=by rw[WU];rfl
 refine⟨by rw[ak];exact aK few xa,λp hp=>?_,?_,by rw[m2];exact h.one,λas a bs e=>?_⟩
 .obtain⟨x,hx,rfl⟩:=YV.mp hp;obtain⟨x1,x2,x3⟩:=hq x hx;have lx:x.1<ns.length:=by rwa[hn.len]
  refine⟨hn.wd _ ?_,Wc q0 q1 x2 (le1 x hx) x3⟩;show ns.getD x.1 ⟨#[]⟩∈ns;rw[au,aj lx];exact aR lx
 .rw[m2];have:=kO (d.prs.map (·.2)) (n:=1) (m:=q) (UQ _) λr hr=>by
   obtain⟨x,hx,rfl⟩:=YV.mp hr;exact(hq x hx).2.2
  have:=VT q0 this;exact dY xB
 .obtain⟨ic,bs',e0,rfl,e2⟩:=List.map_eq_append_iff.mp e;obtain⟨a',cs',rfl,rfl,rfl⟩:=List.map_eq_cons_iff.mp e2;have sub:∀p∈ic,p∈d.prs:=λp hp=>e0 ▸ UP _ hp;have ha:=hq a' (e0 ▸ aO _ (aN ..));have ca:Ch a'.2:=Wc q0 q1 ha.2.1 (le1 a' (e0 ▸ aO _ (aN ..))) ha.2.2;have j:=HD q0 (ps:=ic) (m:=m) λp hp=>hq p (sub p hp);rw[RZ hn.nd λp hp=>by rw[hn.len];exact(hq p (sub p hp)).1];have cn:Ch (xq ((yG ic).map (nh ns)) (nh ns a').1):=by
   unfold xq;cases ef:((yG ic).map (nh ns)).find? λx=>decide (x.1=(nh ns a').1)with
   |none=>exact⟨VX,by show(0:Rat)<=1;decide,dY xa⟩
   |some x =>
    obtain⟨y,hy,rfl⟩:=YV.mp (List.mem_of_find?_eq_some ef);refine Wc q0 q1 (j.nn y hy) ?_ (j.dn y hy);have l1:=qG j.nn hy;rw[j.sum]at l1;have l2:=h.one;rw[<- vg,e0,Dp]at l2;have l3:0<=dw (a'::cs') λ_=>1:=by
     have:∀ws:zd,(∀w∈ws,0<=w.2)->0<=dw ws λ_=>1:=λws=>by
      induction ws with
      |nil=>intro _;exact VX
      |cons y ws ih =>
       intro h;rw[dZ];have:=h y (aN ..);have:=ih λw hw=>h w (aH _ hw)
       grind
     exact this _ λw hw=>h.nn w (e0 ▸ aO _ hw)
    show y.2<=1
    grind
  refine⟨cn.bq,ca.bq,?_⟩;have:=cn.2.2;have:=VT q0 ha.2.2;have mN:(xq ((yG ic).map (nh ns)) (nh ns a').1).den<=4000:=by
   unfold xq;cases ef:((yG ic).map (nh ns)).find? λx=>decide (x.1=(nh ns a').1)with
   |none=>exact UV rfl
   |some x =>
    obtain⟨y,hy,rfl⟩:=YV.mp (List.mem_of_find?_eq_some ef);have:=VT q0 (j.dn y hy);exact aK this q1
  refine dY ?_;rw[VU,XG,XG];exact Y3 (WG mN (show a'.2.den<=4000 by exact aK this q1)) xa
def oz(D:nr):Nat->Addr
 |0=>D.Sure
 |1=>D.Toss
 |2=>D.Even
 |_=>D.Mixed
abbrev I8(t:Str)(d:LD):cg:=⟨t,d.pay,uI d.prs⟩
abbrev tR(D:nr)(t:Str)(d:LD):Made:=⟨oz D d.sort,I8 t d⟩
def Vn(D:nr):∀k,dB D (oz D k)
 |0=>by unfold dB oz;simp
 |1=>by unfold dB oz;simp
 |2=>by unfold dB oz;simp
 |_+3=>by unfold dB oz;simp
def Ls(D:nr):ST:=λts q=>∃(t:Str)(d:LD)(ns:Θ)(m:Nat),ts=[.str t,nv d,.lst (ns.map T.str)]/\Wd t/\ub ns m/\LDk m d/\q (.fz (rL ns (tR D t d)))
theorem Xy(F:Fun K yt yt yP f fd)(T:Txt K mg D)(tO:OkI P w K mg base cp 5 D.Sure_init lQ (oI K (Sd D)))(eV:OkI P w K mg base cp 5 D.Mixed_init gC (oI K (xR D)))(tU:OkI P w K mg base cp 6 D.Toss_init mq (oI K (Ru D)))(tZ:OkI P w K mg base cp 6 D.Even_init lY (oI K (RX D))):bV P w K mg base cp 8 f fd uM (mP K (Ls D)):=by
 refine F.okT Oi (λhr _=>bC (PB xD (jN (n:=3) (bY (cC (n:=99) 4) (bY (cC (n:=99) 5) (bY (cC (n:=99) 6) gb)))))
  (bC (nR (bF yP) yU yU ["_law_room","_law_chance"] (cG (qv 6)) (jN (n:=2) (bY (gH (i:=0)) (bY (gH (i:=1)) gb))) cJ (cZ (bw (bI (qv 4) xC) (bw xD bA))) (kh (i:=3) Oi.nd rfl (Or.inl rfl)))
  (bC (cT (cM (yY hr.units) (qv 4) bx)
  (bG (bT (yw T.ZM tO T.abx (bw xC (bw (qv 5) (bw (bI (bI xS bx) bx) bA))))))
  bU)
  (bC (cT (cM (yY hr.units) (qv 4) bx)
  (bG (bT (yw T.YB tU T.ab1 (bw xC (bw (qv 5) (bw (bI (bI xS bx) bx) (bw (bI (bI xS bx) bx) (bw (bI (bI xS bx) bx) bA))))))))
  bU)
  (bC (cT (cM (yY hr.units) (qv 4) bx)
  (bG (bT (yw T.YX tZ T.abq (bw xC (bw (qv 5) (bw (dO (bF yP) yU yU ["_law_room","_law_chance"] (cG xS) (jN (n:=2) (bY (gH (i:=0)) (bY (gH (i:=1)) gb))) cJ xC) bA))))))
  bU)
  (bG (bT (yw T.WD eV T.Kr (bw xC (bw (qv 5) (bw xS bA))))))))))) ?_
 rintro _ R ⟨t,d,ns,m,rfl,wt,hn,hd,q⟩;have few:=hd.few;have en:∀p∈d.prs,n5 (ns.map L2.T.str) (p.1:Nat)=some (.str (nh ns p).1):=λp hp=>by
  have lp:p.1<ns.length:=by rw[hn.len];exact hd.lt p hp
  exact eU (by rw[aj lp];show _=some (ns.getD p.1 ⟨#[]⟩);rw[au,aj lp];rfl)
 have em:(d.prs.map (nh ns)).map n9=d.prs.map λp=>n9 (nh ns p):=by rw[WU];rfl
 have pk:=hd.prsOk hn;have wk:=X_ hn.nd (ps:=d.prs) λp hp=>by rw[hn.len];exact hd.lt p hp
 refine⟨rfl,by rw[ak];exact aK few xa,comp_map oy (λp=>n9 (nh ns p)) d.prs (λp hp N M hN=>⟨rfl,_,en p hp,hN⟩) ?_⟩;rw[<- em];obtain⟨so,pay,prs⟩:=d;have s4:so<4:=hd.sort;have s0:=hd.s0;have s1:=hd.s1;have s2:=hd.s2;dsimp only at *;obtain rfl|rfl|rfl|rfl:so=0\/so=1\/so=2\/so=3:=by lia
 .obtain⟨a,rfl⟩:=s0 rfl;have e1:uI [(a,1)]=[(a,1)]:=by simp[uI,yG,zc]
  have q':R (.fz (tj D.Sure t pay ([(a,1)].map (nh ns)))):=by rwa[<- e1]
  exact⟨_,rfl,t,_,pay,rfl,rfl,Vv D,rfl,wt,(pk.ok (nh ns (a,1)) (YR.mpr rfl)).1,q'⟩
 .obtain⟨a,b,x,rfl⟩:=s1 rfl;have q':R (.fz (tj D.Toss t pay (zm ([(a,x),(b,1-x)].map (nh ns))))):=by rwa[wk]
  exact⟨_,rfl,_,rfl,_,rfl,t,_,_,pay,x,rfl,rfl,Xe D,rfl,wt,(pk.ok (nh ns (a,x)) (aN ..)).2,pk,q'⟩
 .obtain⟨rs,rfl⟩:=s2 rfl;have q':R (.fz (tj D.Even t pay (zm ((rs.map λr=>(r,mkRat 1 rs.length)).map (nh ns))))):=by rwa[wk]
  have ev:even (((rs.map λr=>(r,mkRat 1 rs.length)).map (nh ns)).map (·.1))=(rs.map λr=>(r,mkRat 1 rs.length)).map (nh ns):=by
   have el:(((rs.map λr=>(r,mkRat 1 rs.length)).map (nh ns)).map (·.1)).length=rs.length:=by simp
   unfold even;rw[el];simp[Function.comp_def]
  refine⟨by rw[ak,ak];exact aK few xa,comp_map n9 (λp=>.str p.1) ((rs.map λr=>(r,mkRat 1 rs.length)).map (nh ns)) (λp hp N M hN=>⟨rfl,hN⟩) ⟨t,pay,((rs.map λr=>(r,mkRat 1 rs.length)).map (nh ns)).map (·.1),rfl,rfl,X6 D,?_,wt,by rw[ev];exact pk,?_⟩⟩
  .rw[show(((rs.map λr=>(r,mkRat 1 rs.length)).map (nh ns)).map (·.1)).map L2.T.str=((rs.map λr=>(r,mkRat 1 rs.length)).map (nh ns)).map λp=>L2.T.str p.1 from WU]
   rfl
  .rw[ev];exact q'
 .have q':R (.fz (tj D.Mixed t pay (zm (prs.map (nh ns))))):=by rwa[wk]
  exact⟨t,pay,prs.map (nh ns),rfl,rfl,Sx D,rfl,wt,pk,q'⟩
structure o8(ac:zr)(off:zn):Prop where
 len:off.length=ac.length
 at_:∀(k:Nat)ds os,ac[k]?=some ds->off[k]?=some os->∃tl:Θ,tl.length=ds.length/\os=(tl.zip ds).map λp=>I8 p.1 p.2
theorem NP{α β:Type} : ∀{xs:List α}{ys:List β}{x:α}(y:β),xs[ys.length]?=some x->xs.zip (ys++[y])=xs.zip ys++[(x,y)]
 |[],ys,_,_,e=>by cases e
 |a::xs,[],x,y,e=>by cases e;simp
 |a::xs,b::ys,x,y,e=>by
  rw[cons_append,zip_cons_cons,zip_cons_cons,NP (xs:=xs) (ys:=ys) y (by simpa using e)]
  rfl
theorem Du{α β:Type}(f:α->T)(g:β->T):∀(xs:List α)(ys:List β),Fx (xs.map f) (ys.map g)=(xs.zip ys).map λp=>.tup [f p.1,g p.2]
 |[],ys=>by cases ys<;>rfl
 |_::_,[]=>rfl
 |x::xs,y::ys=>by
  rw[zip_cons_cons,map_cons,map_cons,map_cons,<- Du f g xs ys]
  rfl
def RN(D:nr):ST:=λts q=>∃(c:Int)(s:Rat)(m mo:Nat)(ac:zr),ts=[.int c,a_ s,rJ ac]/\Shr s/\DSk m mo ac/\m<=26/\mo<=26/\∀ns off,ub ns m->Et ns off->o8 ac off->q (.fz (nE D s ns off))
def YE(F:Fun K Ci Ci Jw f fd)(T:Txt K mg D)(CV:c_ P w K mg base 2 xT uH NT)(K1:c_ P w K mg base 8 yt uM (Ls D))(tH:OkI P w K mg base cp 4 D.Hall_init lK (oI K (Ra D))):bV P w K mg base cp 9 f fd zU (mP K (RN D)):=by
 refine F.okT Yp (λ_ _=>bC (bL 3 (bH CV (bw xC (bw (bQ eG T.fJ WJ (bw xL bA)) bA))))
  (bC (jL 4 (dN bA))
  (bC (gA (fW T.jD (bw (bQ eG T.fJ WJ (bw xL bA)) bA)) (cC (n:=99) 5)
  (bC (bL 6 (bH CV (bw (bJ cN xC (qv 5)) (bw (bQ eG T.fJ WJ (bw (bI xL (qv 5)) bA)) bA))))
  (bG (nG 4 (cZ (bw (bI xS (qv 5)) (bw (dO (bF Jw) Qk Qk ["_law_title","_law_door_here"] (Qp T.V8 (bw (qv 6) (bw (bI xL (qv 5)) bA))) (jN (n:=2) (bY (gH (i:=0)) (bY (gH (i:=1)) gb))) cJ (bH K1 (bw xC (bw xD (bw (qv 5) bA))))) bA)))))))
  (bG (W_ 4 (bT (yw T.Ym tH T.aa4 (bw xD (bw (qv 4) bA))))))))) ?_
 rintro _ R ⟨c,s,m,mo,ac,rfl,hs,hd,m1,oB,q⟩;have dl:(ac.map λds=>L2.T.lst (ds.map nv)).length=m:=by rw[ak,hd.len]
 refine⟨c,m,by rw[<- dl];rfl,m1,λns hn=>?_⟩;have nl:=hn.len;have e0:wM ns []=[]:=by simp[wM]
 refine⟨⟨by rw[dl];lia,by rw[dl];lia⟩,oF (λk o=>∃(ms:xt)(x5 x6:OT),o=[.fz (.int c),.fz (a_ s),.fz (rJ ac),.fz (.lst (ns.map L2.T.str)),.l1 (wM ns ms),x5,x6]/\ms.length=k/\∀(i:Nat)ds x,ac[i]?=some ds->ms[i]?=some x->∃tl,ub tl ds.length/\x=(tl.zip ds).map λp=>tR D p.1 p.2) ⟨[],.und,.und,by rw[e0];rfl,rfl,λi ds x _ z=>by cases z⟩ ?_ ?_⟩
 .rintro k _ hk ⟨ms,x5,x6,rfl,lm,hm⟩;have hk:k<m:=by rw[dl]at hk;lia
  have lk:k<ac.length:=by rwa[hd.len]
  have ek:=aj lk;have mem:=aR lk;have fk:=hd.few _ mem;have i':n5 (ac.map λds=>L2.T.lst (ds.map nv)) (k:Nat)=some (.lst (ac[k].map nv)):=eU ek;have nk:ns[k]?=some (ns.getD k ⟨#[]⟩):=by rw[au,aj xB];rfl
  refine⟨_,i',c+k,ac[k].length,by rw[<- ak (as:=ac[k]) (f:=nv)];rfl,by exact aK fk oB,λtl ht=>?_⟩;refine⟨_,eU nk,_,i',?_⟩;have zl:(tl.zip ac[k]).length<=26:=by rw[VY];lia
  show(Fx (tl.map L2.T.str) (ac[k].map nv)).length<=sizeLine/\iw _ _ _ _ (Fx (tl.map L2.T.str) (ac[k].map nv)) _;rw[Du];refine⟨by rw[ak];exact aK zl xa,comp_map (λp=>.tup [.str p.1,nv p.2]) (λp=>rL ns (tR D p.1 p.2)) (tl.zip ac[k]) (λp hp N M hN=>⟨rfl,p.1,p.2,ns,m,rfl,ht.wd _ (UX hp).1,hn,hd.ok _ mem _ (UX hp).2,hN⟩) ⟨?_,ms++[(tl.zip ac[k]).map λp=>tR D p.1 p.2],.fz (.int (k:Nat)),.fz (.lst (tl.map L2.T.str)),?_,by rw[aA,lm];rfl,λi ds x e1 e2=>?_⟩⟩
  .rw[ak,VY];exact aQ (show _<1000 by lia) xa
  .rw[show wM ns (ms++[(tl.zip ac[k]).map λp=>tR D p.1 p.2])=wM ns ms++[.tup [.str (ns.getD k ⟨#[]⟩),.lst ((tl.zip ac[k]).map λp=>rL ns (tR D p.1 p.2))]]by
    unfold wM;rw[NP (x:=ns.getD k ⟨#[]⟩) _ (by rwa[lm]),aZ,map_singleton]
    congr 2
    show tJ (_,((tl.zip ac[k]).map λp=>tR D p.1 p.2).map (rL ns))=_;rw[WU]
    rfl]
   rfl
  .by_cases hi:i<ms.length
   .rw[aD hi]at e2;exact hm i ds x e1 e2
   .have li:=(ao.mp e2).1;rw[aA,length_singleton]at li;have:i=k:=by lia
    subst this;rw[aC (WS lm),show i-ms.length=0 by lia]at e2;cases e2;rw[ek]at e1;cases e1;exact⟨tl,ht,rfl⟩
 .rintro _ ⟨ms,x5,x6,rfl,lm,hm⟩;have lm:ms.length=m:=by rwa[lm]
  have all:∀x∈ms,∃ds∈ac,∃tl,ub tl ds.length/\x=(tl.zip ds).map λp=>tR D p.1 p.2:=λx hx=>by
   obtain⟨i,hi⟩:=aU hx;have li:=(ao.mp hi).1;have ld:i<ac.length:=by rw[hd.len];exact aQ li (WS lm)
   exact⟨_,aR ld,hm i _ x (aj ld) hi⟩
  have rk:GT D ns ms:=by
   refine⟨by rw[lm,nl],by lia,hn.wd,hn.nd,λx hx=>?_⟩;obtain⟨ds,gi,tl,ht,rfl⟩:=all x hx;have fd:=hd.few ds gi;have ko:=ht.len;refine⟨by rw[ak,VY];lia,λy hy=>?_,λy hy=>?_,?_⟩
   .obtain⟨p,_,rfl⟩:=YV.mp hy;exact Vn D _
   .obtain⟨p,hp,rfl⟩:=YV.mp hy;have lk:=hd.ok ds gi p.2 (UX hp).2;obtain⟨qq,q0,q1,hq⟩:=lk.all;have j:=Dd q0 hq;have:=j.few;have:=lk.few;exact⟨by show(uI p.2.prs).length<=1000;lia,λw hw=>by rw[nl];exact j.lt w hw⟩
   .rw[WU];show((tl.zip ds).map λp=>p.1).Nodup;rw[List.map_fst_zip (WS ko)];exact ht.nd
  have bs:Bq s:=⟨dY (by
   have h0:=Rat.num_nonneg.mpr hs.lo;have h1:=(lt_iff s 1).mp hs.hi;have h1:s.num*((1:Rat).den:Int)<(1:Rat).num*(s.den:Int):=h1;have:=hs.den;simp at h1;lia),dY (by have:=hs.den;lia)⟩
  refine⟨s,ns,ms,rfl,rfl,rfl,rfl,hs.lo,hs.hi,bs,rk,q ns (sf ms) hn ⟨?_,by lia,λos k7=>?_⟩ ⟨?_,λk ds os e1 e2=>?_⟩⟩
  .rw[ak,lm,nl]
  .obtain⟨x,hx,rfl⟩:=YV.mp k7;rw[ak];exact(rk.mds x hx).few
  .rw[ak,lm,hd.len]
  .rw[aq]at e2;cases e3:ms[k]? with
   |none=>rw[e3]at e2;cases e2
   |some x =>
    rw[e3]at e2;cases e2;obtain⟨tl,ht,rfl⟩:=hm k ds x e1 e3;exact⟨tl,ht.len,WU⟩
structure PlD(ac:zr)(pl:zb):Prop where
 len:pl.length=ac.length
 ok:∀(k:Nat)(d:xw)(ds:xh),pl[k]?=some d->ac[k]?=some ds->yr d ds.length=true
def PlD.snoc{ac:zr}(h:∀(i:Nat)(d:xw)(ds:xh),i<k->pl[i]?=some d->ac[i]?=some ds->yr d ds.length=true)(l:pl.length=k){ds:xh}(ek:ac[k]?=some ds){d:xw}(hd:yr d ds.length):∀(i:Nat)(c:xw)(es:xh),i<k+1->(pl++[d])[i]?=some c->ac[i]?=some es->yr c es.length=true:=λi c es hi e1 e2=>by
 by_cases z:i<k
 .rw[aD xB]at e1;exact h i c es z e1 e2
 .have:i=k:=by lia
  subst this;rw[aC (WS l),show i-pl.length=0 by lia]at e1;cases e1;rw[ek]at e2;cases e2;exact hd
def Hx:ST:=λts q=>∃(c:Int)(ac:zr),ts=[.int c,rJ ac]/\ac.length<=100/\∀pl:zb,PlD ac pl->q (.l1 (pl.map dT))
def Us(F:Fun K vq vq Dz f fd)(T:Txt K mg D)(dj:c_ P w K mg base 1 iQ gM kZ):bV P w K mg base cp 2 f fd qu (mP K Hx):=by
 refine F.okT T3 (λhr _=>bC (bL 2 (bH dj (bw xC (bw (bQ eG T.fJ WJ (bw xD bA)) bA))))
  (bC (jL 3 (dN bA))
  (bC (gA (fW T.jD (bw (bQ eG T.fJ WJ (bw xD bA)) bA)) (cC (n:=99) 4)
  (bG (cT (cM (yY hr.units) (bQ eG T.fJ WJ (bw (bI xD (qv 4)) bA)) bx)
  (bG (nG 3 mG))
  (bG (nG 3 (bJ cD (bI xL (qv 4)) (bQ eG T.fJ WJ (bw (bI xD (qv 4)) bA))))))))
  (bG (jy 3))))) ?_
 rintro _ R ⟨c,ac,rfl,few,q⟩;have dl:(ac.map λds=>L2.T.lst (ds.map nv)).length=ac.length:=ak ..;refine⟨c,ac.length,by rw[<- dl];rfl,by exact aK few xa,⟨by rw[dl];lia,by rw[dl];lia⟩,?_⟩;refine oF (λk o=>∃(pl:zb)(x:OT),o=[.fz (.int c),.fz (rJ ac),.fz (.lst ((iZ c ac.length).map L2.T.int)),.l1 (pl.map dT),x]/\pl.length=k/\∀(i:Nat)(d:xw)(ds:xh),i<k->pl[i]?=some d->ac[i]?=some ds->yr d ds.length=true) ⟨[],.und,rfl,rfl,λi d ds z=>absurd z (WV _)⟩ ?_ ?_
 .rintro k _ hk ⟨pl,x,rfl,l,h⟩;have hk:k<ac.length:=by rw[dl]at hk;lia
  have ek:=aj hk;have i':n5 (ac.map λds=>L2.T.lst (ds.map nv)) (k:Nat)=some (.lst (ac[k].map nv)):=eU ek;have lm:(pl.map dT).length<sizeLine:=by rw[ak];exact aQ (show _<1000 by lia) xa
  have s0:=mj c k;refine⟨_,i',?_⟩;by_cases e:ac[k].length=0
  .refine uj (Zs (by rw[ak];lia)) ⟨lm,pl++[none],.fz (.int (k:Nat)),by rw[aZ];rfl,by simp[l],PlD.snoc h l ek (Zs e)⟩
  .have p0:(0:Int)<(ac[k].map nv).length:=by rw[ak];lia
   refine sN (Zp (by rw[ak];lia)) ⟨_,fK (k:=k) hk,_,i',p0,lm,?_⟩;have a0:=Z3 (yT c k) (show((ac[k].map nv).length:Int)≠0 by exact WP p0);have a1:=YY (yT c k) p0;obtain⟨n,en⟩:=Int.eq_ofNat_of_zero_le a0;refine⟨pl++[some n],.fz (.int (k:Nat)),?_,by simp[l],PlD.snoc h l ek (Zs ?_)⟩
   .rw[aZ];show _=[_,_,_,OT.l1 (pl.map dT++[L2.T.int (n:Nat)]),_];rw[<- en]
    rfl
   .rw[ak]at a1 en;lia
 .rintro _ ⟨pl,x,rfl,l,h⟩;have l:pl.length=ac.length:=by rwa[l]
  exact q pl ⟨l,λk d ds e1 e2=>h k d ds (by rw[dl];have:=(ao.mp e1).1;lia) e1 e2⟩
open Rw (sg wN wH pA qX wO vn)
def Rz(n d:Nat)(r:Rat):Prop:=r.num.natAbs<=10^n/\r.den<=10^d
def KR{d:Nat}{b:Int}(hb:0<b)(h1:a.natAbs<=10^n)(h2:b.toNat<=10^d):Rz n d (divInt a b):=by
 obtain⟨x,y⟩:=div_pos (a:=a) hb;exact⟨aK y h1,aK x h2⟩
def Rz.mul{d n' d':Nat}{a b:Rat}(ha:Rz n d a)(hb:Rz n' d' b):Rz (n+n') (d+d') (a*b):=by
 have e:a*b=divInt (a.num*b.num) (a.den*b.den):=by rw[<- TR,rd,rd]
 have p:(0:Int)<(a.den:Int)*b.den:=XZ (by have:=a.den_pos;lia) (by have:=b.den_pos;lia);rw[e];refine KR p ?_ ?_
 .rw[VU,WH];exact WG ha.1 hb.1
 .rw[<- U1,UT,WH];exact WG ha.2 hb.2
def Rz.add{d n' d':Nat}{a b:Rat}(ha:Rz n d a)(hb:Rz n' d' b)(h1:n+d'<=k)(h2:n'+d<=k):Rz (k+1) (d+d') (a+b):=by
 have e:a+b=divInt (a.num*b.den+b.num*a.den) (a.den*b.den):=by rw[<- Tu _ _ (kJ a) (kJ b),rd,rd]
 have p:(0:Int)<(a.den:Int)*b.den:=XZ (by have:=a.den_pos;lia) (by have:=b.den_pos;lia);rw[e];refine KR p ?_ ?_
 .have x:(a.num*b.den).natAbs<=10^k:=by
   rw[VU,XG];exact aK (WG ha.1 hb.2) (by rw[<- WH];exact XT xa h1)
  have y:(b.num*a.den).natAbs<=10^k:=by
   rw[VU,XG];exact aK (WG hb.1 ha.2) (by rw[<- WH];exact XT xa h2)
  have z:=Int.natAbs_add_le (a.num*b.den) (b.num*a.den);rw[pow_succ];lia
 .rw[<- U1,UT,WH];exact WG ha.2 hb.2
def pX(h:i.natAbs<=10^n)(hn:n<=2400):Bd i:=Y3 (aK h (XT xa hn)) (by decide +kernel)
def Rz.bq{d:Nat}(h:Rz n d r)(hn:n<=2400)(hd:d<=2400):Bq r:=⟨pX h.1 hn,pX (by rw[XG];exact h.2) hd⟩
def Rz.dd{d n' d':Nat}{a b:Rat}(ha:Rz n d a)(hb:Rz n' d' b)(h:d+d'<=2400):Bd ((a.den:Int)*b.den):=pX (n:=d+d') (by
 rw[VU,XG,XG,WH];exact WG ha.2 hb.2) h
def EY(h1:r<=(A:Rat))(h2 : -(A:Rat)<=r):r.num.natAbs<=A*r.den:=by
 have a:=(le_iff r (A:Rat)).mp h1;have b:=(le_iff (-(A:Rat)) r).mp h2;have a:r.num*((1:Nat):Int)<=(A:Int)*(r.den:Int):=a;have b : -(A:Int)*(r.den:Int)<=r.num*((1:Nat):Int):=b;have c:((A*r.den:Nat):Int)=(A:Int)*r.den:=U1 ..;rw[Int.neg_mul]at b;omega
structure OfB(m PN PD CQ:Nat)(o:cg):Prop where
 pn:o.pay.num.natAbs<=PN
 pd:o.pay.den<=PD
 cq:∃q:Nat,0<q/\q<=CQ/\∀w∈o.ways,w.2.den ∣ q
 nd:(o.ways.map (·.1)).Nodup
 few:o.ways.length<=1000
 lt:∀w∈o.ways,w.1<m
 nn:∀w∈o.ways,0<=w.2
 one:PL o.ways<=1
theorem Dc:∀ws:zd,PL ws=dw ws λ_=>1
 |[]=>rfl
 |w::ws=>by rw[H_,dZ,Dc ws,Rat.mul_one]
def OfB.le1{PN PD CQ:Nat}{o:cg}(h:OfB m PN PD CQ o){w:Nat×Rat}(hw:w∈o.ways):w.2<=1:=by
 have:=qG h.nn hw;rw[<- Dc]at this;exact TZ this h.one
def G0{mo:Nat}{ac:zr}{off:zn}(hd:DSk m mo ac)(ho:o8 ac off):∀ds∈off,∀o∈ds,OfB m (10^30) 1000 4000 o:=λos k7 o hmo=>by
 obtain⟨k,ek⟩:=aU k7;have lk:k<ac.length:=by rw[<- ho.len];exact(ao.mp ek).1
 obtain⟨tl,_,rfl⟩:=ho.at_ k _ os (aj lk) ek;obtain⟨p,hp,rfl⟩:=YV.mp hmo;have lk:=hd.ok _ (aR lk) p.2 (UX hp).2;obtain⟨q,q0,q1,hq⟩:=lk.all;have j:=Dd q0 hq;have f1:=j.few;have f2:=lk.few;exact⟨lk.pay.num,lk.pay.den,⟨q,q0,q1,j.dn⟩,j.nd,by show(uI p.2.prs).length<=1000;lia,j.lt,j.nn,by
  show PL (uI p.2.prs)<=1;rw[Dc,j.sum,vg,lk.one];exact VX⟩
open Rw (sg wN wH pA qX wO vn)
theorem Dh:((1:Nat):Rat)=1:=rfl
def Rr(hs:Shr s):Rz 2 2 s:=by
 have a:=EY (r:=s) (A:=1) (Rat.le_of_lt hs.hi) (by have:=hs.lo;rw[Dh];grind);have:=hs.den;exact⟨aK a xB,this⟩
def HC{PN PD CQ:Nat}{o:cg}(h:OfB m PN PD CQ o)(hc:CQ<=10^4){w:Nat×Rat}(hw:w∈o.ways):Rz 4 4 w.2:=by
 obtain⟨q,q0,q1,hq⟩:=h.cq;have d:=VT q0 (hq w hw);have a:=EY (r:=w.2) (A:=1) (h.le1 hw) (by have:=h.nn w hw;rw[Dh];grind);exact⟨aK a xB,by lia⟩
theorem Sh{α:Type}(g:α->Int)(b:Nat):∀ws:List α,(∀w∈ws,(g w).natAbs<=b)->(ws.map g).sum.natAbs<=ws.length*b
 |[],_=>by simp
 |w::ws,h=>by
  have a:=h w (aN ..);have c:=Sh g b ws λx hx=>h x (aH _ hx);rw[map_cons,sum_cons,length_cons,Nat.add_mul,Nat.one_mul];have:=Int.natAbs_add_le (g w) (ws.map g).sum;lia
def SB{PN PD CQ t b:Nat}{o:cg}{tp:zS}{B:Nat}(hs:Shr s)(h:OfB m PN PD CQ o)(hc:CQ<=10^4)(hn:PN<=10^30)(hp:PD<=10^3)(tl:tp.length=m)(ht:∀x∈tp,x.natAbs<=10^t)(hB:B<=10^b)(lt:t<=2000)(lb:b<=2000):v_ s o tp B/\Bq (jP s tp B o)/\Bd (((jP s tp B o).den:Int)*(B:Nat)):=by
 obtain⟨q,q0,q1,hq⟩:=h.cq;have lq:bO 1 (o.ways.map (·.2))<=10^4:=aK (VT q0 (kO _ (UQ _) λr hr=>by
  obtain⟨w,hw,rfl⟩:=YV.mp hr;exact hq w hw)) (aK q1 hc)
 have lp:=f9 (o.ways.map (·.2)) VQ;have sz:=Rr hs;have pz:Rz 30 3 o.pay:=⟨aK h.pn hn,aK h.pd hp⟩;have bz:Rz b 0 (B:Rat):=⟨hB,aF 1⟩;have part:∀w∈o.ways,(w.2.num*((bO 1 (o.ways.map (·.2))/w.2.den:Nat):Int)).natAbs<=10^8:=λw hw=>by
  rw[VU,XG];exact aK (WG (HC h hc hw).1 (aK (div_le_self _ _) lq)) xa
 have top:∀k,(tp.getD k 0).natAbs<=10^t:=λk=>by
  rw[au];cases e:tp[k]? with
  |none=>exact aY _
  |some x=>exact ht x (aB e)
 have dz:Rz (t+11) 4 (qK o.ways tp):=by
  rw[<- CT lp tp o.ways λw hw=>(j7 _).2 _ (YV.mpr ⟨w,hw,rfl⟩)];refine KR xB ?_ (by rwa[UT]);refine aK (Sh _ (10^8*10^t) o.ways λw hw=>?_) ?_
  .rw[VU];exact WG (part w hw) (top w.1)
  .refine aK (Nat.mul_le_mul_right _ h.few) ?_;rw[show(1000:Nat)=10^3 from rfl,<- Nat.mul_assoc,<- WH,<- WH];exact XT xa xB
 have p1:=pz.mul bz;have p2:=sz.mul dz;have pp:=p1.add p2 (k:=2100) xB xB;refine⟨⟨⟨h.few,λw hw=>by rw[tl];exact h.lt w hw,λw hw=>((HC h hc hw).bq xa xa).1,pX (n:=4) (by rwa[XG]) xa,λx hx=>?_,λx hx=>pX (ht x hx) (aK lt xa)⟩,pz.bq xa xa,sz.bq xa xa,pX (n:=b) (by rwa[XG]) (aK lb xa),dz.bq xB xa,sz.dd dz xa,p1.bq xB xa,p2.bq xB xa,p1.dd p2 xa⟩,pp.bq xa xa,pX (n:=9+b) (by rw[VU,XG,XG,WH];exact WG pp.2 hB) xB⟩;unfold f_ at hx;rw[WU]at hx;obtain⟨w,hw,rfl⟩:=YV.mp hx;exact pX (n:=8) (part w hw) xa
def Ik(s:Rat)(y:Nat->Rat):Option cg->Rat
 |none=>0
 |some o=>Ao s y o
def GV(off:zn)(ch:List (Option cg)):Prop:=∀c∈ch,∀o,c=some o->∃ds∈off,o∈ds
def iJ(D:nr):ST:=λts q=>∃(s:Rat)(ns:Θ)(off:zn)(ch:List (Option cg))(ys:zo),ts=[nE D s ns off,.lst (ch.map sA),.lst (ys.map a_)]/\ch.length<=1000/\GV off ch/\sM s off ys/\q (.l1 ((ch.map (Ik s λj=>ys.getD j 0)).map a_))
def U0(ys:zo):((bO 1 ys:Nat):Rat)≠0:=λz=>by
 have B0:=f9 ys VQ;have:=Rat.intCast_eq_zero_iff.mp (show(((bO 1 ys:Nat):Int):Rat)=0 from z);lia
def Gj(F:Fun K iI iI lN f fd)(T:Txt K mg D)(gJ:c_ P w K mg base 2 nu lR qJ)(iU:c_ P w K mg base 4 jo gO (o9 D))(jE:c_ P w K mg base 4 mL kE qZ):bV P w K mg base cp 5 f fd gq (mP K (iJ D)):=by
 refine F.okT vY (λ_ _=>bC (bL 3 (bH gJ (bw xL bA)))
  (bC (nR (bF lN) lO lO ["offer"] (cG xD) (gH (i:=0)) cJ (Ih (cM Ar xC mG) mG (bH iU (bw xD (bw xC (bw (qv 4) bA))))) (kh (i:=4) vY.nd rfl (Or.inl rfl)))
  (bG (bT (dO (bF lN) lO lO ["one"] (cG (qv 4)) (gH (i:=0)) cJ (bH jE (bw xC (bw (bI (qv 4) bx) bA)))))))) ?_
 rintro _ R ⟨s,ns,off,ch,ys,rfl,few,ka,hm,q⟩;have B0:=f9 ys VQ;have nz:=U0 ys;refine⟨ys,rfl,hm.few,hm.num,hm.lcm,?_⟩;have lk:∀c∈ch,∀o,c=some o->v_ s o (f_ (bO 1 ys) ys) (bO 1 ys)/\Bq (jP s (f_ (bO 1 ys) ys) (bO 1 ys) o)/\Bd (((jP s (f_ (bO 1 ys) ys) (bO 1 ys) o).den:Int)*(bO 1 ys:Nat)):=λc hc o e=>by
  obtain⟨ds,h1,h2⟩:=ka c hc o e;exact hm.look ds h1 o h2
 refine⟨by rw[ak];exact aK few xa,comp_map sA (λc=>uu (c.map (jP s (f_ (bO 1 ys) ys) (bO 1 ys)))) ch (λc hc N M hN=>?_) ?_⟩
 .cases c with
  |none=>exact hN
  |some o=>exact⟨s,ns,off,o,_,_,rfl,(lk _ hc o rfl).1,hN⟩
 have e1:(ch.map λc=>uu (c.map (jP s (f_ (bO 1 ys) ys) (bO 1 ys))))=(ch.map λc=>c.map (jP s (f_ (bO 1 ys) ys) (bO 1 ys))).map uu:=by rw[WU];rfl
 rw[e1];refine⟨by rw[ak,ak];exact aK few xa,comp_map uu (λr=>a_ (Z5 r (bO 1 ys))) (ch.map λc=>c.map (jP s (f_ (bO 1 ys) ys) (bO 1 ys))) (λr gV N M hN=>?_) ?_⟩
 .obtain⟨c,hc,rfl⟩:=YV.mp gV;refine⟨_,bO 1 ys,rfl,B0,hm.lcm,λa ea=>?_,hN⟩;cases c with
  |none=>cases ea
  |some o=>cases ea;exact(lk _ hc o rfl).2
 .have e2:((ch.map λc=>c.map (jP s (f_ (bO 1 ys) ys) (bO 1 ys))).map λr=>a_ (Z5 r (bO 1 ys)))=(ch.map (Ik s λj=>ys.getD j 0)).map a_:=by
   rw[WU,WU];refine Th λc _=>?_;show a_ (Z5 (c.map _) _)=a_ (Ik s _ c);cases c with
   |none=>rfl
   |some o =>
    show a_ (jP s (f_ (bO 1 ys) ys) (bO 1 ys) o/((bO 1 ys:Nat):Rat))=a_ (Ao s _ o);rw[Cj,show Ao s (λk=>ys.getD k 0) o*((bO 1 ys:Nat):Rat)/((bO 1 ys:Nat):Rat)=Ao s (λk=>ys.getD k 0) o by grind]
  rwa[e2]
structure p6(mk:xf)(off:zn)(ys zs:zo):Prop where
 len:zs.length=mk.length
 one:∀k:Nat,mk[k]?=some true->zs.getD k 0=1
 top:∀(k:Nat)ds,mk[k]?=some false->off[k]?=some ds->xX ds (λo=>dw o.ways λj=>ys.getD j 0) (zs.getD k 0)
structure vk(off:zn)(ys:zo):Prop where
 few:ys.length<=1000
 num:∀r∈ys,Bd r.num
 lcm:Bd (bO 1 ys:Nat)
 look:∀ds∈off,∀o∈ds,As o.ways (f_ (bO 1 ys) ys)/\Bq (qK o.ways (f_ (bO 1 ys) ys))/\Bd (((qK o.ways (f_ (bO 1 ys) ys)).den:Int)*(bO 1 ys:Nat))
def jQ(D:nr):ST:=λts q=>∃(s:Rat)(ns:Θ)(off:zn)(mk:xf)(ys:zo),ts=[nE D s ns off,tT mk,.lst (ys.map a_)]/\Et ns off/\mk.length=off.length/\vk off ys/\∀zs:zo,p6 mk off ys zs->q (.l1 (zs.map a_))
def Hi(F:Fun K iM iM nT f fd)(T:Txt K mg D)(gJ:c_ P w K mg base 2 nu lR qJ)(iG:c_ P w K mg base 3 jh g8 oJ)(mJ:c_ P w K mg base 2 nj lA qU)(jE:c_ P w K mg base 4 mL kE qZ)(cQ:OkI P w K mg base cp 3 D.Hall_offers eF (mP K (qH D))):bV P w K mg base cp 5 f fd gD (mP K (jQ D)):=by
 refine F.okT Hg (λ_ _=>bC (bL 3 (bH gJ (bw xL bA)))
  (bC (jL 4 (dN bA))
  (bC (gA (JH T.tK (bw xD bA)) (jN (n:=2) (bY (cC (n:=99) 5) (bY (cC (n:=99) 6) gb)))
  (bC (bL 7 (Ih (cR (qv 6)) (dN bA) (vG xC T.ig T.lU cQ (bw (qv 5) bA) (KS:=jd))))
  (bC (bL 8 (bH mJ (bw (dO (bF nT) su su ["offer"] (cG (qv 7)) (gH (i:=0)) cJ (bH iG (bw xC (bw (bI (qv 4) bx) bA)))) bA)))
  (bG (nG 4 (Ih (cR (qv 6)) (oX T.D_ T.xu) (bH jE (bw (qv 8) (bw (bI xS bx) bA)))))))))
  (bG (jy 4))))) ?_
 rintro _ R ⟨s,ns,off,mk,ys,rfl,h,hl,hm,q⟩;have B0:=f9 ys VQ;have nz:=U0 ys;refine⟨ys,rfl,hm.few,hm.num,hm.lcm,?_⟩;have few:=h.few;have hln:=h.len;refine Ia L2.T.bl mk (λk o=>∃(zs:zo)(x5 x6 x7 x8:OT),o=[.fz (nE D s ns off),.fz (tT mk),.fz (.lst (ys.map a_)),.fz (.tup [.lst ((f_ (bO 1 ys) ys).map L2.T.int),.int (bO 1 ys:Nat)]),.l1 (zs.map a_),x5,x6,x7,x8]/\zs.length=k/\(∀i:Nat,i<k->mk[i]?=some true->zs.getD i 0=1)/\∀(i:Nat)ds,i<k->mk[i]?=some false->off[i]?=some ds->xX ds (λo=>dw o.ways λj=>ys.getD j 0) (zs.getD i 0)) ⟨[],_,_,_,_,rfl,rfl,λi z=>absurd z (WV _),λi _ z=>absurd z (WV _)⟩ ?_ ?_
 .rintro k b _ e ⟨zs,x5,x6,x7,x8,rfl,l1,h1,h2⟩;have kl:=(ao.mp e).1;have lm:(zs.map a_).length<sizeLine:=by rw[ak];exact aQ (show _<1001 by lia) xa
  have snoc:∀(v:Rat)(y5 y6 y7 y8:OT),(b=true->v=1)->(b=false->∀ds,off[k]?=some ds->xX ds (λo=>dw o.ways λj=>ys.getD j 0) v)->∃(fS:zo)(x5 x6 x7 x8:OT),[OT.fz (nE D s ns off),.fz (tT mk),.fz (.lst (ys.map a_)),.fz (.tup [.lst ((f_ (bO 1 ys) ys).map L2.T.int),.int (bO 1 ys:Nat)]),.l1 (zs.map a_++[a_ v]),y5,y6,y7,y8]=[OT.fz (nE D s ns off),.fz (tT mk),.fz (.lst (ys.map a_)),.fz (.tup [.lst ((f_ (bO 1 ys) ys).map L2.T.int),.int (bO 1 ys:Nat)]),.l1 (fS.map a_),x5,x6,x7,x8]/\fS.length=k+1/\(∀i:Nat,i<k+1->mk[i]?=some true->fS.getD i 0=1)/\∀(i:Nat)ds,i<k+1->mk[i]?=some false->off[i]?=some ds->xX ds (λo=>dw o.ways λj=>ys.getD j 0) (fS.getD i 0):=λv y5 y6 y7 y8 v1 v2=>by
   have old:∀i:Nat,i<k->(zs++[v]).getD i 0=zs.getD i 0:=λi hi=>by rw[au,aD xB,<- au]
   have new:(zs++[v]).getD k 0=v:=by rw[au,aC (WS l1),l1,Nat.sub_self];rfl
   refine⟨zs++[v],_,_,_,_,by rw[aZ];rfl,by simp[l1],λi hi ei=>?_,λi ds hi ei ed=>?_⟩
   .by_cases c:i=k
    .subst c;rw[new];rw[e]at ei;exact v1 (Option.some.inj ei)
    .rw[old i (XX (U2 hi) c)];exact h1 i (XX (U2 hi) c) ei
   .by_cases c:i=k
    .subst c;rw[new];rw[e]at ei;exact v2 (Option.some.inj ei) ds ed
    .rw[old i (XX (U2 hi) c)];exact h2 i ds (XX (U2 hi) c) ei ed
  cases b with
  |true=>exact⟨rfl,(show 0<=sizeLine by decide),[],rfl,(λx hx=>nomatch hx),(λ_=>⟨lm,snoc 1 _ _ _ _ (λ_=>rfl) λz=>nomatch z⟩),λm fb=>nomatch fb⟩
  |false =>
   have ek:=aj (show k<off.length by exact aQ kl (WS hl));have mem:=aB ek;have fd:=h.fews _ mem;have lk:=hm.look _ mem;have pp:(0:Rat)<((bO 1 ys:Nat):Rat):=Rat.intCast_lt_intCast.mpr (show(0:Int)<(bO 1 ys:Nat)by lia);have gN:∀o:cg,qK o.ways (f_ (bO 1 ys) ys)/((bO 1 ys:Nat):Rat)=dw o.ways λj=>ys.getD j 0:=λo=>by rw[zL];grind
   refine⟨rfl,⟨rfl,rfl⟩,s,ns,off,k,_,rfl,h,ek,by rw[ak];exact aK fd xa,comp_map oo (λo=>a_ (qK o.ways (f_ (bO 1 ys) ys))) off[k] (λo ho N M hN=>⟨o,_,rfl,(lk o ho).1,hN⟩) ?_⟩;refine⟨off[k].map λo=>qK o.ways (f_ (bO 1 ys) ys),by rw[WU];rfl,λx hx=>?_,λe0=>?_,λm fb hx=>?_⟩
   .obtain⟨o,ho,rfl⟩:=YV.mp hx;exact(lk o ho).2.1
   .have e0:off[k]=[]:=List.map_eq_nil_iff.mp e0;refine⟨none,bO 1 ys,rfl,B0,hm.lcm,(λa z=>nomatch z),lm,snoc 0 _ _ _ _ (λz=>nomatch z) λ_ ds ed=>?_⟩;rw[ek,e0]at ed;cases ed;exact⟨λ_=>rfl,λz=>absurd rfl z,λo ho=>nomatch ho⟩
   .obtain⟨o,ho,rfl⟩:=YV.mp fb;refine⟨some (qK o.ways (f_ (bO 1 ys) ys)),bO 1 ys,rfl,B0,hm.lcm,(λa z=>by cases z;exact(lk o ho).2),lm,snoc _ _ _ _ _ (λz=>nomatch z) λ_ ds ed=>?_⟩;rw[ek]at ed;cases ed;refine⟨(λz=>by rw[z]at ho;cases ho),λ_=>⟨o,ho,gN o⟩,λo' cw=>?_⟩;have:=hx _ (YV.mpr ⟨o',cw,rfl⟩);show _<=qK o.ways (f_ (bO 1 ys) ys)/((bO 1 ys:Nat):Rat);rw[gN];rw[zL,zL]at this;exact Rat.le_of_mul_le_mul_right this pp
 .rintro _ ⟨zs,x5,x6,x7,x8,rfl,l1,h1,h2⟩;exact q zs ⟨l1,λk ek=>h1 k (ao.mp ek).1 ek,λk ds ek ed=>h2 k ds (ao.mp ek).1 ek ed⟩
def wL{X:Cx}{a b:RS}{T:TS}{D:Ends}(h:BK (rj X (i_ a b)) T D σ H):BK (rj X a) (BK (rj X b) T) D σ H:=A2 h
def tS(b:xb):Expr:=match b.getLast? with
 |some (.Return (some (.Call _ [_,_,l] _ _)) _)=>l
 |_=>.Name "x" ⟨0,0,0,0⟩
def t9(e:Expr):Arguments:=match e with|.Lambda a _ _ _=>a|_=>gK iK
def t8(e:Expr):Expr:=match e with|.Lambda _ b _ _=>b|_=>e
def rX(e:Expr):Scope:=match e with|.Lambda _ _ c _=>c|_=>bF iK
def pc(e:Expr):Pos:=match e with|.Lambda _ _ _ p=>p|_=>⟨0,0,0,0⟩
abbrev oC(x:Str):Str:=(x++".<locals>.")++"<lambda>"
abbrev rV:Expr:=tS (dJ iK)
def XM(rN:∀b,c_ P w K mg b 5 iT gw (iR D)){f c cc:Addr}{ctv pm:Value}(ho:aw.get? f=some (kla_obj "<lambda>" (oC dg) (t9 rV) (t8 rV) (rX rV) [("hall",cc)] pm c ctv))(hc:aw.CodeRec (.ref c) (oC dg))(hs:sJ aw (rX rV) [("hall",cc)] frees):sK P w K mg aw 6 f ["ahead"] (Oc K frees (iR D)):=by
 refine⟨_,_,Qh ho hc rfl rfl rfl (by decide +kernel) rfl (λy hy=>?_) hs (λvs H Q E h=>h.1) (λA outer s H v Q E hr h=>?_),.all (λus e=>?_),ho,rfl⟩
 .have:∀y∈(rX rV).names,y.2=.free->y.1="hall":=by decide +kernel
  obtain rfl:y="hall":=this _ (PySem.mem_of_lookup hy) rfl;exact⟨cc,rfl⟩
 .obtain⟨_,h⟩:=h;cases hs with
  |@cons _ _ vh _ _ _ _ _ _ _ _ hs =>
   cases hs;refine⟨_,uP (rN aw) hr.md (by rfl) (eX (pv 1) (eX (pv 0) pQ)),?_⟩;exact⟨_,rfl,_,rfl,h⟩
 .match us,e with
  |[_],_=>rfl
def gZ(D:nr):ST:=λts q=>∃(s:Rat)(ns:Θ)(off:zn)(am:Nat),ts=[nE D s ns off,.int (am:Nat)]/\Et ns off/\am<=40/\tm (replicate off.length 0) (pf s off) (sM s off) am/\∀ae:xi,ae.length=am+1->RdN (replicate off.length 0) (pf s off) ae->q (.l1 (ae.map l_))
def uv(e:n=m):(replicate ((n:Nat):Int).toNat [a_ 0]).flatten=(replicate m (0:Rat)).map a_:=by
 rw[map_replicate,UT,QP,e]
def Dw(F:Fun K dg dg iK f fd)(hc:fd.code=.ref c0)(hC:codeHdIn K c0 D.T_best_rounds)(T:Txt K mg D)(hB:base.BuiltinsAt mg D.T_best_rounds)(rN:∀b,c_ P w K mg b 5 iT gw (iR D))(eY:c_ P w K mg base 2 iY gB mY)(cu:OkI P w K mg base cp 1 D.Hall_size d7 (mP K (iB D))):bV P w K mg base cp 8 f fd gR (vQ K D.T_best_rounds (pc rV) (oC dg) (gZ D)):=by
 refine F.okC hc uX (λvs H Q E h=>?_) (λA outer s0 H vs Q E hr h=>?_)
 .obtain⟨oc,ts,R,_,rs,_,⟨_,_,_,_,rfl,_⟩,_⟩:=h;exact rs.len
 .obtain⟨oc,ts,R,la,rs,nx,⟨s,ns,off,am,rfl,h,eT,rn,ok⟩,q⟩:=h;have nd:=uX.nd;refine⟨_,(cL (je (bH eY (bw xD bA)))
   (CN (Ou (js:=[0]) (cl:=[("hall",s0.zs+1)]) (params:=t9 rV) (body:=t8 rV) (scope:=rX rV) (lp:=pc rV) (S:=iR D) T (by rfl) hr.md hB rfl hC
    (bJ cI (dN (bw (oX T.ni T.lg) bA)) (oM xC T.ig T.jF cu (KS:=jd))) xD (λaw frees f c ctv ho hc hs=>XM rN ho hc hs) (by rfl) (by rfl) (λq hq=>by rw[YR.mp hq];exact⟨rfl,rfl,rfl⟩) xF (λq hq=>rfl)))),?_⟩
  have few:=h.few;have hl:=h.len;have n0:=rs.len;refine⟨λ_=>[],_,{ nx:=λo=>o=start' jR.length [nE D s ns off,.int (am:Nat)],rt:=λ_=>False },SR.start rs jR,⟨am,rfl,eT,rfl⟩,⟨?_,λ_ _ _ _ _ z=>z.elim,λ_ _ _ _ z=>z.elim,λ_ _ _ _ z=>z.elim,λ_ _ _ _ _ _ z=>z.elim⟩⟩;rintro own H1 σ _ rfl S1 h1;rw[j_]at S1;have fm:=S1.trans cF;obtain⟨u0,e0,r0⟩:=h1.get (i:=0) (t:=nE D s ns off) rfl;refine⟨own,_,oc,[u0],⟨[nE D s ns off],replicate off.length 0,pf s off,sM s off⟩,am,h1,la.same fm,by rw[map_singleton,e0];rfl,.cons (r0.same cF) .nil,⟨nx.1,trivial⟩,λys q hi hz=>⟨s,ns,off,ys,rfl,h,hi,hz⟩,eT,rn,?_,rfl,λae H' c v l rd S2 c5 n=>q H' v _ c (ok ae l rd) ((yN fm).trans S2) c5 (n.back fm)⟩;refine⟨⟨rfl,rfl⟩,s,ns,off,rfl,⟨by lia,by lia,?_⟩,λz ez=>?_⟩
  .show 1*_<=_;exact aK (show _<=1000 by lia) xa
  .rw[ez];show L2.T.lst (replicate _ _).flatten=l_ _;exact ZH L2.T.lst (uv hl.symm)
abbrev o6:Expr:=tS (dJ mX)
def Vs(qR:∀b,c_ P w K mg b 5 iI gq (iJ D)){f c c1 c2:Addr}{ctv pm:Value}(ho:aw.get? f=some (kla_obj "<lambda>" (oC cB) (t9 o6) (t8 o6) (rX o6) [("hall",c2),("chosen",c1)] pm c ctv))(hc:aw.CodeRec (.ref c) (oC cB))(hs:sJ aw (rX o6) [("hall",c2),("chosen",c1)] frees):sK P w K mg aw 6 f ["ahead"] (Oc K frees (iJ D)):=by
 refine⟨_,_,Qh ho hc rfl rfl rfl (by decide +kernel) rfl (λy hy=>?_) hs (λvs H Q E h=>h.1) (λA outer s H v Q E hr h=>?_),.all (λus e=>?_),ho,rfl⟩
 .have:∀y∈(rX o6).names,y.2=.free->y.1="hall"\/y.1="chosen":=by decide +kernel
  rcases this _ (PySem.mem_of_lookup hy) rfl with h|h
  .obtain rfl:y="hall":=h;exact⟨c2,rfl⟩
  .obtain rfl:y="chosen":=h;exact⟨c1,rfl⟩
 .obtain⟨_,h⟩:=h;cases hs with
  |@cons _ _ vm _ _ _ _ _ _ _ _ hs =>
   cases hs with
   |@cons _ _ vh _ _ _ _ _ _ _ _ hs =>
    cases hs;refine⟨_,uP (qR aw) hr.md (by rfl) (eX (pv 1) (eX (pv 2) (eX (pv 0) pQ))),?_⟩;exact⟨_,rfl,_,rfl,_,rfl,h⟩
 .match us,e with
  |[_],_=>rfl
def sL(s:Rat)(ch:List (Option cg))(ys zs:zo):Prop:=zs=ch.map (Ik s λj=>ys.getD j 0)
def g_(D:nr):ST:=λts q=>∃(s:Rat)(ns:Θ)(off:zn)(pl:zb)(am:Nat),ts=[nE D s ns off,.lst (pl.map dT),.int (am:Nat)]/\Et ns off/\v5 off pl/\am<=40/\tm (replicate off.length 0) (sL s (ox off pl)) (sM s off) am/\∀ae:xi,ae.length=am+1->RdN (replicate off.length 0) (sL s (ox off pl)) ae->q (.l1 (ae.map l_))
def FJ(r:Rat):NX (a_ r):=show True/\True/\True from⟨trivial,trivial,trivial⟩
def HE(o:cg):NX (oo o):=show True/\NX (a_ o.pay)/\NXs (o.ways.map oy)/\True from⟨trivial,FJ _,NXs.map (g:=oy) (λp=>show True/\NX (a_ p.2)/\True from⟨trivial,FJ _,trivial⟩) _,trivial⟩
def OX:∀c:Option cg,NX (sA c)
 |none=>trivial
 |some o=>HE o
def Op(off:zn)(pl:zb):GV off (ox off pl):=λc hc o e=>by
 obtain⟨p,_,rfl⟩:=YV.mp hc;cases h1:p.1 with
 |none=>rw[h1]at e;cases e
 |some d =>
  rw[h1]at e;have m:=aB (show(off.getD p.2 [])[d]?=some o from e);by_cases c:p.2<off.length
  .rw[au,aj c]at m;exact⟨_,aR c,m⟩
  .rw[au,aL (VW c)]at m;cases m
def VB(off:zn)(pl:zb):(ox off pl).length=pl.length:=by unfold ox;rw[ak,length_zipIdx]
def Ea(F:Fun K cB cB mX f fd)(hc:fd.code=.ref c0)(hC:codeHdIn K c0 D.T_plan_rounds)(T:Txt K mg D)(hB:base.BuiltinsAt mg D.T_plan_rounds)(qR:∀b,c_ P w K mg b 5 iI gq (iJ D))(sy:c_ P w K mg base 4 m6 j5 (vX D))(eY:c_ P w K mg base 2 iY gB mY)(oZ:c_ P w K mg base 4 j9 iD (sV D))(cu:OkI P w K mg base cp 1 D.Hall_size d7 (mP K (iB D))):bV P w K mg base cp 8 f fd eE (vQ K D.T_plan_rounds (pc o6) (oC cB) (g_ D)):=by
 refine F.okC hc vf (λvs H Q E h=>?_) (λA outer s0 H vs Q E hr h=>?_)
 .obtain⟨oc,ts,R,_,rs,_,⟨_,_,_,_,_,rfl,_⟩,_⟩:=h;exact rs.len
 .obtain⟨oc,ts,R,la,rs,nx,⟨s,ns,off,pl,am,rfl,h,hp,eT,rn,ok⟩,q⟩:=h;have nd:=vf.nd;refine⟨_,(cL (je (bH sy (bw xC (bw xD bA))))
   (cL (je (bH eY (bw xL bA)))
   (cL (bL 3 (bH oZ (bw xC (bw xD bA))))
   (CN (Ou (js:=[0,3]) (cl:=[("hall",s0.zs+1),("chosen",s0.zs+1+1)]) (params:=t9 o6) (body:=t8 o6) (scope:=rX o6) (lp:=pc o6) (S:=iJ D) T (by rfl) hr.md hB rfl hC
    (bJ cI (dN (bw (oX T.ni T.lg) bA)) (oM xC T.ig T.jF cu (KS:=jd))) xL (λaw frees f c ctv ho hc hs=>Vs qR ho hc hs) (by rfl) (by rfl) (λq hq=>by
     rcases YU.mp hq with rfl|hq
     .exact⟨rfl,rfl,rfl⟩
     .rw[YR.mp hq];exact⟨rfl,rfl,rfl⟩) (by simp;decide) (λq hq=>rfl)))))),?_⟩
  have few:=h.few;have hl:=h.len;refine wL (wL ⟨λ_=>[],_,{ nx:=λo=>o=(start' pY.length [nE D s ns off,.lst (pl.map dT),.int (am:Nat)]).set 3 (.fz (.lst ((ox off pl).map sA))),rt:=λ_=>False },SR.start rs pY,⟨s,ns,off,pl,rfl,h,hp,am,rfl,eT,s,ns,off,pl,rfl,h,hp,rfl⟩,⟨?_,λ_ _ _ _ _ z=>z.elim,λ_ _ _ _ z=>z.elim,λ_ _ _ _ z=>z.elim,λ_ _ _ _ _ _ z=>z.elim⟩⟩);rintro own H1 σ _ rfl S1 h1;rw[j_]at S1;have fm:=S1.trans cF;obtain⟨u0,e0,r0⟩:=h1.get (i:=0) (t:=nE D s ns off) rfl;obtain⟨u3,e3,r3⟩:=h1.get (i:=3) (t:=.lst ((ox off pl).map sA)) rfl;refine⟨own,_,oc,[u0,u3],⟨[nE D s ns off,.lst ((ox off pl).map sA)],replicate off.length 0,sL s (ox off pl),sM s off⟩,am,h1,la.same fm,by rw[map_cons,map_singleton,e0,e3];rfl,.cons (r0.same cF) (.cons (r3.same cF) .nil),⟨nx.1,NXs.map OX _,trivial⟩,λys q hi hz=>⟨s,ns,off,ox off pl,ys,rfl,by rw[VB,hp.len,hl];exact few,Op off pl,hi,hz _ rfl⟩,eT,rn,?_,rfl,λae H' c v l rd S2 c5 n=>q H' v _ c (ok ae l rd) ((yN fm).trans S2) c5 (n.back fm)⟩;refine⟨⟨rfl,rfl⟩,s,ns,off,rfl,⟨by lia,by lia,?_⟩,λz ez=>?_⟩
  .show 1*_<=_;exact aK (show _<=1000 by lia) xa
  .rw[ez];show L2.T.lst (replicate _ _).flatten=l_ _;exact ZH L2.T.lst (uv hl.symm)
abbrev rS:Expr:=tS (dJ jW)
def Bj(D:nr):ST:=λts q=>∃a b c,ts=[a,b,c]/\jQ D [b,a,c] q
def Xl(rZ:∀b,c_ P w K mg b 5 iM gD (jQ D)){f c c1 c2:Addr}{ctv pm:Value}(ho:aw.get? f=some (kla_obj "<lambda>" (oC dh) (t9 rS) (t8 rS) (rX rS) [("marks",c2),("hall",c1)] pm c ctv))(hc:aw.CodeRec (.ref c) (oC dh))(hs:sJ aw (rX rS) [("marks",c2),("hall",c1)] frees):sK P w K mg aw 6 f ["ahead"] (Oc K frees (Bj D)):=by
 refine⟨_,_,Qh ho hc rfl rfl rfl (by decide +kernel) rfl (λy hy=>?_) hs (λvs H Q E h=>h.1) (λA outer s H v Q E hr h=>?_),.all (λus e=>?_),ho,rfl⟩
 .have:∀y∈(rX rS).names,y.2=.free->y.1="marks"\/y.1="hall":=by decide +kernel
  rcases this _ (PySem.mem_of_lookup hy) rfl with h|h
  .obtain rfl:y="marks":=h;exact⟨c2,rfl⟩
  .obtain rfl:y="hall":=h;exact⟨c1,rfl⟩
 .obtain⟨_,h⟩:=h;cases hs with
  |@cons _ _ vm _ _ _ _ _ _ _ _ hs =>
   cases hs with
   |@cons _ _ vh _ _ _ _ _ _ _ _ hs =>
    cases hs;obtain⟨ts,R,rs,⟨a,b,c,rfl,hS⟩,kk⟩:=h;refine⟨_,uP (rZ aw) hr.md (by rfl) (eX (pv 2) (eX (pv 1) (eX (pv 0) pQ))),?_⟩;cases rs with
    |cons r1 rs=>cases rs with
     |cons r2 rs=>exact⟨_,rfl,_,rfl,_,rfl,[b,a,c],R,.cons r2 (.cons r1 rs),hS,kk⟩
 .match us,e with
  |[_],_=>rfl
def oR(mk:xf):zo:=mk.map λb=>if b then 1 else 0
def gP(D:nr):ST:=λts q=>∃(s:Rat)(ns:Θ)(off:zn)(gs:zD)(am:Nat),ts=[nE D s ns off,p3 gs,.int (am:Nat)]/\Et ns off/\(∀g∈gs,g<ns.length)/\am<=40/\tm (oR (ng ns.length gs)) (p6 (ng ns.length gs) off) (vk off) am/\∀ae:xi,ae.length=am+1->RdN (oR (ng ns.length gs)) (p6 (ng ns.length gs) off) ae->q (.l1 (ae.map l_))
def Dg(F:Fun K dh dh jW f fd)(hc:fd.code=.ref c0)(hC:codeHdIn K c0 D.T_goal_rounds)(T:Txt K mg D)(hB:base.BuiltinsAt mg D.T_goal_rounds)(rZ:∀b,c_ P w K mg b 5 iM gD (jQ D))(rO:c_ P w K mg base 3 m_ jY (wu D))(eY:c_ P w K mg base 2 iY gB mY):bV P w K mg base cp 8 f fd gU (vQ K D.T_goal_rounds (pc rS) (oC dh) (gP D)):=by
 refine F.okC hc o7 (λvs H Q E h=>?_) (λA outer s0 H vs Q E hr h=>?_)
 .obtain⟨oc,ts,R,_,rs,_,⟨_,_,_,_,_,rfl,_⟩,_⟩:=h;exact rs.len
 .obtain⟨oc,ts,R,la,rs,nx,⟨s,ns,off,gs,am,rfl,h,hg,eT,rn,ok⟩,q⟩:=h;have nd:=o7.nd;refine⟨_,(cL (bL 3 (bH rO (bw xC (bw xD bA))))
   (cL (je (bH eY (bw xL bA)))
   (cL (nR (bF jW) jX jX ["goal"] (cG xS) (gH (i:=0)) cJ (Ih (cR xC) (oX T.D_ T.xu) (oX T.ni T.lg)) (kh (i:=4) o7.nd rfl (Or.inl rfl)))
   (CN (Ou (js:=[3,0]) (cl:=[("marks",s0.zs+1+1),("hall",s0.zs+1)]) (params:=t9 rS) (body:=t8 rS) (scope:=rX rS) (lp:=pc rS) (S:=Bj D) T (by rfl) hr.md hB rfl hC
    (qv 4) xL (λaw frees f c ctv ho hc hs=>Xl rZ ho hc hs) (by rfl) (by rfl) (λq hq=>by
     rcases YU.mp hq with rfl|hq
     .exact⟨rfl,rfl,rfl⟩
     .rw[YR.mp hq];exact⟨rfl,rfl,rfl⟩) (by simp;decide) (λq hq=>rfl)))))),?_⟩
  have few:=h.few;have hl:=h.len;have ml:=La ns.length gs;refine wL (wL ⟨λ_=>[],_,{ nx:=λo=>o=((start' jX.length [nE D s ns off,p3 gs,.int (am:Nat)]).set 3 (.fz (tT (ng ns.length gs)))).set 4 (.fz (l_ (oR (ng ns.length gs)))),rt:=λ_=>False },SR.start rs jX,⟨s,ns,off,gs,rfl,h,hg,am,rfl,eT,?_⟩,⟨?_,λ_ _ _ _ _ z=>z.elim,λ_ _ _ _ z=>z.elim,λ_ _ _ _ z=>z.elim,λ_ _ _ _ _ _ z=>z.elim⟩⟩)
  .refine⟨by rw[ak,ml];exact aK few xa,comp_map L2.T.bl (λb=>a_ (if b then 1 else 0)) (ng ns.length gs) (λb hb N M hN=>?_) ?_⟩
   .cases b
    .exact hN
    .exact hN
   .have e2:((ng ns.length gs).map λb:Bool=>a_ (if b then 1 else 0))=(oR (ng ns.length gs)).map a_:=by unfold oR;rw[WU];rfl
    rw[e2]
    rfl
  rintro own H1 σ _ rfl S1 h1;rw[j_]at S1;have fm:=S1.trans cF;obtain⟨u0,e0,r0⟩:=h1.get (i:=0) (t:=nE D s ns off) rfl;obtain⟨u3,e3,r3⟩:=h1.get (i:=3) (t:=tT (ng ns.length gs)) rfl;refine⟨own,_,oc,[u3,u0],⟨[tT (ng ns.length gs),nE D s ns off],oR (ng ns.length gs),p6 (ng ns.length gs) off,vk off⟩,am,h1,la.same fm,by rw[map_cons,map_singleton,e0,e3];rfl,.cons (r3.same cF) (.cons (r0.same cF) .nil),⟨NXs.map (g:=L2.T.bl) (λ_=>trivial) _,nx.1,trivial⟩,λys q hi hz=>⟨_,_,_,rfl,s,ns,off,ng ns.length gs,ys,rfl,h,by rw[ml,hl],hi,hz⟩,eT,rn,rfl,rfl,λae H' c v l rd S2 c5 n=>q H' v _ c (ok ae l rd) ((yN fm).trans S2) c5 (n.back fm)⟩
abbrev pT(a b:Int):T:=.tup [.int a,.int b]
def oj{b:Int}(hb:0<b):divInt a b*(b:Rat)=(a:Rat):=by
 have:(b:Rat)≠0:=λz=>by have:=Rat.intCast_eq_zero_iff.mp z;lia
 rw[TH]
 grind
def ot{b:Int}(hb:0<b):(0:Rat)<(b:Rat):=Rat.intCast_lt_intCast.mpr hb
def QN{b c d:Int}(hb:0<b)(hd:0<d):divInt a b<divInt c d↔a*d<c*b:=by
 have e1:=oj (a:=a) hb;have e2:=oj (a:=c) hd;have pb:=ot hb;have pd:=ot hd;rw[<- Rat.intCast_lt_intCast,XU,XU,<- e1,<- e2];generalize divInt a b=x;generalize divInt c d=y;have pp:(0:Rat)<(b:Rat)*(d:Rat):=Rat.mul_pos pb pd;rw[show x*(b:Rat)*(d:Rat)=x*((b:Rat)*(d:Rat))from Rat.mul_assoc ..,show y*(d:Rat)*(b:Rat)=y*((b:Rat)*(d:Rat))by grind];exact(Rat.mul_lt_mul_right pp).symm
abbrev VV:Nat:=10^32
structure YsB(ys:zo):Prop where
 dn:∀y∈ys,y.den<=10^580
 hi:∀y∈ys,y<=(VV:Rat)
 lo:∀y∈ys,-(VV:Rat)<=y
def YsB.num{ys:zo}(h:YsB ys){y:Rat}(hy:y∈ys):y.num.natAbs<=10^612:=by
 refine aK (EY (h.hi y hy) (h.lo y hy)) ?_;rw[show 10^612=VV*10^580 by unfold VV;rw[<- WH]];exact Nat.mul_le_mul_left _ (h.dn y hy)
def YsB.z(h:YsB ys){y:Rat}(hy:y∈ys):Rz 612 580 y:=⟨h.num hy,h.dn y hy⟩
def YsB.get{ys:zo}(h:YsB ys)(k:Nat):Rz 612 580 (ys.getD k 0)/\ys.getD k 0<=(VV:Rat)/\-(VV:Rat)<=ys.getD k 0:=by
 rw[au];cases e:ys[k]? with
 |none=>exact⟨⟨aY _,Nat.pow_pos xa⟩,by show(0:Rat)<=_;decide +kernel,by show _<=(0:Rat);decide +kernel⟩
 |some y=>have m:=aB e;exact⟨h.z m,h.hi y m,h.lo y m⟩
def ZV{b:Int}(hb:0<b)(h1:divInt a b<=(A:Rat))(h2 : -(A:Rat)<=divInt a b):a.natAbs<=A*b.toNat:=by
 have e:=oj (a:=a) hb;have pb:=ot hb;have x:(a:Rat)<=(((A:Int)*b:Int):Rat):=by
  rw[<- e,XU];exact QQ h1 (Rat.le_of_lt pb)
 have y:((-((A:Int)*b):Int):Rat)<=(a:Rat):=by
  rw[<- e,Rat.intCast_neg,XU];have:=QQ h2 (Rat.le_of_lt pb);rw[Rat.neg_mul]at this;exact this
 have x:=Rat.intCast_le_intCast.mp x;have y:=Rat.intCast_le_intCast.mp y;have c:((A*b.toNat:Nat):Int)=(A:Int)*b:=by rw[U1,JP (XY hb)]
 omega
def mK(s:Rat)(y:Nat->Rat)(d:LD):Rat:=d.pay+s*dw d.prs y
def Oz{C:Rat}(hC:0<=C)(nn:∀w∈ws,0<=w.2)(one:(dw ws λ_=>1)<=1)(hi:∀k,y k<=C)(lo:∀k,-C<=y k):dw ws y<=C/\-C<=dw ws y:=by
 have a:=VL (M:=C) (x:=y) (ws:=ws) λw hw=>⟨nn w hw,hi w.1⟩;have b:=VL (M:=C) (x:=λk=>-(y k)) (ws:=ws) λw hw=>⟨nn w hw,by have:=lo w.1;grind⟩;rw[X5]at b;rw[<- Dc]at one;have c:PL ws*C<=1*C:=QQ one hC;constructor<;>grind
def UC{as bs:zd}(nn:∀w∈as++bs,0<=w.2)(one:(dw (as++bs) λ_=>1)<=1):(dw as λ_=>1)<=1:=by
 rw[Dp]at one;have:0<=dw bs λ_=>1:=by
  clear one
  induction bs with
  |nil=>exact VX
  |cons w ws ih =>
   rw[dZ];have:=ih λx hx=>nn x (by rcases Y1.mp hx with z|z;exact UP _ z;exact aO _ (aH _ z));have:=nn w (aO _ (aN ..))
   grind
 grind
def Aa:ST:=λts q=>∃a b c d:Int,ts=[pT a b,pT c d]/\0<b/\0<d/\(Bd a/\Bd b/\Bd c/\Bd d)/\q (.fz (.bl (decide (divInt a b<divInt c d))))
def Uc(F:Fun K uW uW JF f fd):bV P w K mg base cp 1 f fd qw (mP K Aa):=by
 refine F.okT VP (λ_ _=>bG (bT (oO zq (bJ cI (bI xC bx) (bI xD bx)) (bJ cI (bI xD bx) (bI xC bx))))) ?_;rintro _ R ⟨a,b,c,d,rfl,hb,hd,⟨ba,bb,bc,bd⟩,q⟩;refine⟨⟨ba,bd⟩,⟨bc,bb⟩,?_⟩;rw[decide_eq_decide.mpr (QN hb hd)]at q;exact q
structure LkD(m:Nat)(d:LD):Prop where
 all:∃q:Nat,0<q/\q<=4000/\∀p∈d.prs,p.1<m/\0<=p.2/\p.2.den ∣ q
 one:w6 (d.prs.map (·.2))=1
 nn:∀p∈d.prs,0<=p.2
 few:d.prs.length<=4
 pay:tq d.pay
def LDk.lk{d:LD}(h:LDk m d):LkD m d:=⟨h.all,h.one,h.nn,h.few,h.pay⟩
def LkD.bare{d:LD}(h:LkD m d)(n:Nat):LkD m ⟨n,0,d.prs⟩:=⟨h.all,h.one,h.nn,h.few,⟨show(0:Rat).num.natAbs<=10^30 by decide,show(0:Rat).den<=1000 by decide⟩⟩
def Oh:ST:=λts q=>∃(s:Rat)(m:Nat)(d:LD)(ys:zo),ts=[a_ s,nv d,.lst (ys.map a_)]/\Rz 2 2 s/\LkD m d/\ys.length=m/\YsB ys/\∀a b:Int,0<b->Bd a->Bd b->divInt a b=mK s (λk=>ys.getD k 0) d->q (.fz (pT a b))
def Ng(F:Fun K pF pF J9 f fd)(T:Txt K mg D):bV P w K mg base cp 1 f fd pJ (mP K Oh):=by
 refine F.okT WO (λ_ _=>bC (bL 3 bx)
  (bC (bL 4 bx)
  (bC (gA (cG (bI xD bx)) (jN (n:=2) (bY (cC (n:=99) 5) (bY (cC (n:=99) 6) gb)))
  (bC (bL 7 (bJ cI (bI (qv 6) bx) (bI (bI xL (qv 5)) bx)))
  (bC (bL 3 (bJ cN (bJ cI xS (qv 7)) (bJ cI (bJ cI (bI (qv 6) bx) (bI (bI xL (qv 5)) bx)) (qv 4))))
  (bG (bL 4 (bJ cI (qv 4) (qv 7)))))))
  (bC (bL 3 (bJ cI xS (bI xC bx)))
  (bC (bL 4 (bJ cI (qv 4) (bI xC bx)))
  (bG (bT (cZ (bw (bJ cN (bJ cI (bI (bI xD bx) bx) (qv 4)) (bJ cI xS (bI (bI xD bx) bx))) (bw (bJ cI (qv 4) (bI (bI xD bx) bx)) bA)))))))))) ?_
 rintro _ R ⟨s,m,d,ys,rfl,hs,hd,yl,hy,q⟩;obtain⟨qq,q0,q1,hq⟩:=hd.all;have one:(dw d.prs λ_=>1)<=1:=by rw[vg,hd.one];exact VX
 have few:=hd.few;have cz:∀p∈d.prs,Rz 4 4 p.2:=λp hp=>by
  have a:=EY (r:=p.2) (A:=1) (by
   have:=qG hd.nn hp;exact TZ this one) (by have:=hd.nn p hp;rw[Dh];grind)
  have:=VT q0 (hq p hp).2.2;exact⟨aK a xB,by lia⟩
 have pb:∀{a b:Int}{k:Nat},k<=4->0<b->b.toNat<=10^(584*k)->divInt a b<=(VV:Rat)->-(VV:Rat)<=divInt a b->Bd a/\Bd b/\a.natAbs<=10^(32+584*k):=λ{a b k}hk h0 h1 h2 h3=>by
  have x:=ZV h0 h2 h3;have y:a.natAbs<=10^(32+584*k):=aK x (by rw[WH];exact Nat.mul_le_mul_left _ h1);exact⟨pX y xB,pX (n:=584*k) xB xB,y⟩
 refine jq oy d.prs (λas o=>∃(t b:Int)(x5 x6 x7:OT),o=[.fz (a_ s),.fz (nv d),.fz (.lst (ys.map a_)),.fz (.int t),.fz (.int b),x5,x6,x7]/\0<b/\b.toNat<=10^(584*as.length)/\divInt t b=dw as λk=>ys.getD k 0) ⟨0,1,.und,.und,.und,rfl,by decide,by simp,rfl⟩ ?_ ?_
 .rintro as p bs _ e ⟨t,b,x5,x6,x7,rfl,b0,b1,ev⟩;have pm:p∈d.prs:=by rw[e];simp
  obtain⟨p1,p2,_⟩:=hq p pm;have al:as.length+1<=d.prs.length:=by rw[e];simp
  have ey:ys[p.1]?=some (ys.getD p.1 0):=by rw[au,aj xB];rfl
  obtain⟨yz,yh,yo⟩:=hy.get p.1;have c:=cz p pm;have va:=Oz (y:=λk=>ys.getD k 0) (C:=(VV:Rat)) (by decide +kernel) (ws:=as) (λw hw=>hd.nn w (by rw[e];exact UP _ hw)) (UC (bs:=p::bs) (by rw[<- e];exact hd.nn) (by rw[<- e];exact one)) (λk=>(hy.get k).2.1) λk=>(hy.get k).2.2;rw[<- ev]at va;obtain⟨bt,bb,_⟩:=pb (k:=as.length) xB b0 b1 va.1 va.2;have dp:=p.2.den_pos;have dy:=(ys.getD p.1 0).den_pos;have part:((p.2.den:Int)*((ys.getD p.1 0).den:Int)).natAbs<=10^584:=by
   rw[VU,XG,XG,show 10^584=10^4*10^580 by rw[<- WH]];exact WG c.2 yz.2
  have pp:0<(p.2.den:Int)*((ys.getD p.1 0).den:Int):=XZ xB xB;have ct:(p.2.num*(ys.getD p.1 0).num).natAbs<=10^616:=by
   rw[VU,show 10^616=10^4*10^612 by rw[<- WH]];exact WG c.1 yz.1
  have cb:=c.bq xa xa;have yb:=yz.bq xa xa;refine⟨rfl,_,eU ey,⟨cb.2,yb.2⟩,⟨bt,pX part xa⟩,_,eU ey,⟨cb.1,yb.1⟩,⟨pX ct xa,bb⟩,⟨bb,pX part xa⟩,t*((p.2.den:Int)*((ys.getD p.1 0).den:Int))+p.2.num*(ys.getD p.1 0).num*b,b*((p.2.den:Int)*((ys.getD p.1 0).den:Int)),.fz (.int (p.1:Nat)),.fz (a_ p.2),.fz (.int ((p.2.den:Int)*((ys.getD p.1 0).den:Int))),rfl,XZ b0 pp,?_,?_⟩
  .rw[aA,length_singleton,Nat.mul_add,WH,Int.toNat_mul (XY b0) (XY pp)];exact WG b1 (by rw[Nat.mul_one];lia)
  .rw[Dp,Pa,<- ev,<- Tu _ _ (WP b0) (WP pp),<- TR,rd,rd]
 .rintro _ ⟨t,b,x5,x6,x7,rfl,b0,b1,ev⟩;have va:=Oz (y:=λk=>ys.getD k 0) (C:=(VV:Rat)) (by decide +kernel) (ws:=d.prs) hd.nn one (λk=>(hy.get k).2.1) λk=>(hy.get k).2.2;rw[<- ev]at va;obtain⟨bt,bb,tn⟩:=pb (k:=d.prs.length) few b0 b1 va.1 va.2;have sz:=hs;have sb:=sz.bq xa xa;have pz:Rz 30 3 d.pay:=⟨hd.pay.num,hd.pay.den⟩;have pq:=pz.bq xa xa;have sd:=s.den_pos;have pd:=d.pay.den_pos;have b4:b.natAbs<=10^2336:=aK (show b.natAbs<=10^(584*d.prs.length)by lia) (XT xa xB);have t4:t.natAbs<=10^2368:=aK tn (XT xa xB);have bs:(b*(s.den:Int)).natAbs<=10^2338:=by
   rw[VU,XG,show 2338=2336+2 from rfl,WH];exact WG b4 sz.2
  have ts:(t*s.num).natAbs<=10^2370:=by
   rw[VU,show 2370=2368+2 from rfl,WH];exact WG t4 sz.1
  refine⟨⟨bt,sb.1⟩,⟨bb,sb.2⟩,⟨pq.1,pX bs xa⟩,⟨pX ts xa,pq.2⟩,⟨pX bs xa,pq.2⟩,q _ _ (XZ (XZ b0 xB) xB) ?_ ?_ ?_⟩
  .refine pX (n:=2374) ?_ xa;have x:(d.pay.num*(b*(s.den:Int))).natAbs<=10^2373:=by
    rw[VU];exact aK (WG pz.1 bs) (by rw[<- WH];exact XT xa xa)
   have y:(t*s.num*(d.pay.den:Int)).natAbs<=10^2373:=by
    rw[VU,XG,show 2373=2370+3 from rfl,WH];exact WG ts pz.2
   have z:=Int.natAbs_add_le (d.pay.num*(b*(s.den:Int))) (t*s.num*(d.pay.den:Int));rw[show 2374=2373+1 from rfl,pow_succ];refine aK z ?_;lia
  .refine pX (n:=2341) ?_ xa;rw[VU,XG,show 2341=2338+3 from rfl,WH];exact WG bs pz.2
  .unfold mK;rw[Int.mul_comm (b*(s.den:Int)),<- Tu _ _ (kJ d.pay) (mO (WP b0) (kJ s)),rd,<- TR,rd,ev,Rat.mul_comm]
def Jm:ST:=λts q=>∃(s:Rat)(m:Nat)(d:LD)(ys:zo),ts=[a_ s,nv d,.lst (ys.map a_)]/\Shr s/\LDk m d/\ys.length=m/\YsB ys/\∀a b:Int,0<b->Bd a->Bd b->divInt a b=mK s (λk=>ys.getD k 0) d->q (.fz (pT a b))
def YS(F:Fun K pF pF J9 f fd)(T:Txt K mg D):bV P w K mg base cp 1 f fd pJ (mP K Jm):=by
 refine(Ng F T).imp λvs H Q E h=>?_;obtain⟨ts,R,rs,⟨s,m,d,ys,e,hs,hd,l,b,q⟩,k⟩:=h;exact⟨ts,R,rs,⟨s,m,d,ys,e,Rr hs,hd.lk,l,b,q⟩,k⟩
def QF{ac:zr}{off:zn}(ho:o8 ac off)(h:PlD ac pl):v5 off pl:=by
 refine⟨by rw[h.len,ho.len],λk d os e1 e2=>?_⟩;have lk:k<ac.length:=by rw[<- ho.len];exact(ao.mp e2).1
 have ek:=aj lk;obtain⟨tl,ko,rfl⟩:=ho.at_ k _ os ek e2;have:=h.ok k d _ e1 ek;rw[ak,VY,ko,UK];exact this
open Rw (sg wN wH pA qX wO vn sz)
def vM(s:Rat)(y:Nat->Rat)(ac:zr)(pl:zb)(k:Nat):Rat:=match(pl.getD k none).bind λd=>(ac.getD k [])[d]? with
 |none=>0
 |some d=>mK s y d
def RJ{d:LD}{t:Str}(h:LDk m d):Ao s y (I8 t d)=mK s y d:=by
 obtain⟨q,q0,_,hq⟩:=h.all;unfold Ao mK;rw[(Dd q0 hq).sum]
def WI{ac:zr}{off:zn}(ho:o8 ac off)(k d:Nat):∃t:Str,(off.getD k [])[d]?=((ac.getD k [])[d]?).map (I8 t):=by
 by_cases hk:k<ac.length
 .have e1:=aj hk;have e2:=aj (show k<off.length by rwa[ho.len]);obtain⟨tl,l,eo⟩:=ho.at_ k _ _ e1 e2;rw[au,au,e1,e2];show ∃t,(off[k]'(by rwa[ho.len]))[d]?=(ac[k][d]?).map (I8 t);rw[eo,aq];by_cases hd:d<ac[k].length
  .refine⟨tl[d]' xB,?_⟩;rw[aj (show d<(tl.zip ac[k]).length by rw[VY];lia),aj hd,getElem_zip]
   rfl
  .exact⟨⟨#[]⟩,by rw[aL (show(tl.zip ac[k]).length<=d by rw[VY];lia),aL (show ac[k].length<=d by exact VW hd)];rfl⟩
 .have e1:ac[k]?=none:=aL (VW hk);have e2:off[k]?=none:=aL (by rw[ho.len];exact VW hk);exact⟨⟨#[]⟩,by rw[au,au,e1,e2];rfl⟩
def Si{ac:zr}{ds:xh}(e:ac[k]?=some ds):n5 (ac.map λds=>L2.T.lst (ds.map nv)) (k:Nat)=some (.lst (ds.map nv)):=eU (h:=λds=>L2.T.lst (ds.map nv)) e
def UB{ac:zr}{ds:xh}{c:xw}(ek:ac[k]?=some ds)(ep:pl[k]?=some c):vM s y ac pl k=match c.bind λd=>ds[d]? with|none=>0|some d=>mK s y d:=by
 unfold vM;rw[au,au,ek,ep]
 rfl
def eZ:ST:=λts q=>∃(m:Nat)(zs ys:zo),ts=[.lst (zs.map a_),.lst (ys.map a_)]/\zs.length=m/\ys.length=m/\m<=100/\YsB zs/\YsB ys/\(∀k,k<m->zs.getD k 0<=ys.getD k 0)/\q (.fz (.bl true))
def Gh(F:Fun K mZ mZ nU f fd)(T:Txt K mg D)(vK:c_ P w K mg base 1 uW qw Aa):bV P w K mg base cp 2 f fd jT (mP K eZ):=by
 refine F.okT GK (λ_ _=>bG (bT (Iw (bQ (ZE rfl) T.adM boot_any (bw (dO (bF nU) rW rW ["_law_one","_law_high"] (Qp T.V8 (bw xC (bw xD bA))) (jN (n:=2) (bY (gH (i:=0)) (bY (gH (i:=1)) gb))) cJ (bH vK (bw xD (bw xC bA)))) bA))))) ?_;rintro _ R ⟨m,zs,ys,rfl,l1,l2,m1,hz,hy,le,q⟩;show(Fx (zs.map a_) (ys.map a_)).length<=sizeLine/\iw _ _ _ _ (Fx (zs.map a_) (ys.map a_)) _;rw[Du];refine⟨by rw[ak,VY];exact aK (show _<=1000 by lia) xa,comp_map (λp:Rat×Rat=>.tup [a_ p.1,a_ p.2]) (λ_=>.bl false) (zs.zip ys) (λp hp N M hN=>?_) ⟨(zs.zip ys).map λ_=>false,by rw[WU];rfl,?_⟩⟩
 .obtain⟨k,ek⟩:=aU hp;obtain⟨e1,e2⟩:=List.getElem?_zip_eq_some.mp ek;have hk:k<m:=by rw[<- l1];exact(ao.mp e1).1
  have b1:=(hz.z (aB e1)).bq xa xa;have b2:=(hy.z (aB e2)).bq xa xa;have l:=le k hk;rw[au,au,e1,e2]at l;have l:p.1<=p.2:=l;have d1:=p.1.den_pos;have d2:=p.2.den_pos;refine⟨rfl,_,_,_,_,rfl,by lia,by lia,⟨b2.1,b2.2,b1.1,b1.2⟩,?_⟩;rwa[rd,rd,Zp (Rat.not_lt.mpr l)]
 .rw[show true = !(((zs.zip ys).map λ_=>false).any λb=>b)by simp]at q;exact q
def jt(s:Rat)(m:Nat)(ac:zr)(pl:zb)(ys:zo):zo:=(range m).map λk=>vM s (λj=>ys.getD j 0) ac pl k
def Am{ac:zr}(hk:k<m):(jt s m ac pl ys).getD k 0=vM s (λj=>ys.getD j 0) ac pl k:=by
 unfold jt;rw[au,aq,UH hk]
 rfl
def qD:ST:=λts q=>∃(s:Rat)(m mo:Nat)(ac:zr)(pl:zb)(ys:zo),ts=[a_ s,rJ ac,.lst (pl.map dT),.lst (ys.map a_)]/\Shr s/\DSk m mo ac/\m<=100/\PlD ac pl/\ys.length=m/\YsB ys/\q (.l1 ((jt s m ac pl ys).map a_))
def W5(F:Fun K xO xO Kp f fd)(T:Txt K mg D)(ud:c_ P w K mg base 1 pF pJ Jm)(d_:c_ P w K mg base 2 k_ jx ou):bV P w K mg base cp 3 f fd uG (mP K qD):=by
 refine F.okT XH (λ_ _=>bC (jL 4 (dN bA))
  (bC (gA (fW T.jD (bw (bQ eG T.fJ WJ (bw xD bA)) bA)) (cC (n:=99) 5)
  (bC (bL 6 (cZ (bw bx (bw bx bA))))
  (bC (cT (cM Sq (bI xL (qv 5)) mG)
  (bG (bL 6 (bH ud (bw xC (bw (bI (bI xD (qv 5)) (bI xL (qv 5))) (bw xS bA))))))
  bU)
  (bG (nG 4 (bH d_ (bw (bI (qv 6) bx) (bw (bI (qv 6) bx) bA))))))))
  (bG (jy 4)))) ?_
 rintro _ R ⟨s,m,mo,ac,pl,ys,rfl,hs,hd,m1,hp,yl,hy,q⟩;have dl:(ac.map λds=>L2.T.lst (ds.map nv)).length=m:=by rw[ak,hd.len]
 refine⟨⟨by rw[dl];lia,by rw[dl];lia⟩,oF (λk o=>∃x y,o=[.fz (a_ s),.fz (rJ ac),.fz (.lst (pl.map dT)),.fz (.lst (ys.map a_)),.l1 ((jt s k ac pl ys).map a_),x,y]) ⟨.und,.und,rfl⟩ ?_ ?_⟩
 .rintro k _ hk ⟨x,y,rfl⟩;have hk:k<m:=by rw[dl]at hk;lia
  have lk:k<ac.length:=by rwa[hd.len]
  have ek:=aj lk;have lp:k<pl.length:=by rw[hp.len];exact lk
  have ep:=aj lp;have ft:=hp.ok k _ _ ep ek;have lm:((jt s k ac pl ys).map a_).length<sizeLine:=by
   unfold jt;rw[ak,ak,W1];exact aQ (show k<1000 by lia) xa
  have es:jt s (k+1) ac pl ys=jt s k ac pl ys++[vM s (λj=>ys.getD j 0) ac pl k]:=by
   unfold jt;rw[range_succ,aZ]
   rfl
  dsimp only[hName];refine IU (λo=>∃a b:Int,o=[.fz (a_ s),.fz (rJ ac),.fz (.lst (pl.map dT)),.fz (.lst (ys.map a_)),.l1 ((jt s k ac pl ys).map a_),.fz (.int (k:Nat)),.fz (pT a b)]/\0<b/\Bd b/\divInt a b=vM s (λj=>ys.getD j 0) ac pl k) ?_ λY go=>?_
  .rintro _ ⟨a,b,rfl,b0,bb,ev⟩;refine⟨a,b,rfl,b0,bb,lm,.fz (.int (k:Nat)),.fz (pT a b),?_⟩;rw[es,aZ,ev]
   rfl
  .refine⟨_,eU ep,?_⟩;have da:=UB (s:=s) (y:=λj=>ys.getD j 0) ek ep;cases c:pl[k]with
   |none =>
    rw[c]at da;exact go _ ⟨0,1,rfl,by decide,dY xa,by rw[da];exact TK _⟩
   |some j =>
    rw[c]at da ft ep;have lj:j<ac[k].length:=of_decide_eq_true ft;have ej:=aj lj;have da:vM s _ ac pl k=match ac[k][j]? with|none=>0|some d=>mK s _ d:=da
    rw[ej]at da;refine⟨_,Si ek,_,eU ep,?_⟩;refine⟨_,eU ej,s,m,ac[k][j],ys,rfl,hs,hd.ok _ (aR lk) _ (aR lj),yl,hy,λa b b0 ba bb ev=>go _ ⟨a,b,rfl,b0,bb,ev.trans da.symm⟩⟩
 .rintro _ ⟨x,y,rfl⟩;rw[show((((ac.map λds=>L2.T.lst (ds.map nv)).length:Nat):Int).toNat)=m by rw[dl];rfl];exact q
structure TkB(s:Rat)(ac:zr)(y:Nat->Rat)(pl:zb):Prop where
 len:pl.length=ac.length
 ok:∀(k:Nat)ds,ac[k]?=some ds->(ds=[]/\pl[k]?=some none)\/∃d x,pl[k]?=some (some d)/\ds[d]?=some x/\∀z∈ds,mK s y z<=mK s y x
def _a(s:Rat)(y:Nat->Rat)(d:LD)(t:L2.T):Prop:=∃a b:Int,t=pT a b/\0<b/\Bd a/\Bd b/\divInt a b=mK s y d
theorem Ky{α:Type}{R:α->L2.T->Prop} : ∀{l:List α}{ts:List L2.T},Sv R l ts->∀{k:Nat}{a:α},l[k]?=some a->∃t,ts[k]?=some t/\R a t
 |_,_,.nil,_,_,e=>by cases e
 |_,_,.cons r h,0,_,e=>by cases e;exact⟨_,rfl,r⟩
 |_,_,.cons r h,k+1,_,e=>Ky h (k:=k) (by simpa using e)
theorem zK{α:Type}{R:α->L2.T->Prop} : ∀{l:List α}{ts:List L2.T},Sv R l ts->ts.length=l.length
 |_,_,.nil=>rfl
 |_,_,.cons _ h=>ZH (· + 1) (zK h)
def Xb{ts:List L2.T}{t:L2.T}(e:ts[k]?=some t):n5 ts (k:Nat)=some t:=by
 show o1 ts k=_;rw[qm];exact e
def TkB.snoc{as:zr}{ds:xh}{c:xw}(h:TkB s as y pl)(hc:(ds=[]/\c=none)\/∃d x,c=some d/\ds[d]?=some x/\∀z∈ds,mK s y z<=mK s y x):TkB s (as++[ds]) y (pl++[c]):=by
 refine⟨by rw[aA,aA,h.len];rfl,λk es e=>?_⟩;by_cases z:k<as.length
 .rw[aD z]at e;rw[aD (by rw[h.len];exact z)];exact h.ok k es e
 .have lk:=(ao.mp e).1;rw[aA,length_singleton]at lk;have ek:k=as.length:=by lia
  subst ek;rw[aC (aF _),Nat.sub_self]at e;cases e;rw[aC (by rw[h.len];exact aF _),h.len,Nat.sub_self];rcases hc with⟨e1,rfl⟩|⟨d,x,rfl,e1,e2⟩
  .exact .inl ⟨e1,rfl⟩
  .exact .inr ⟨d,x,rfl,e1,e2⟩
def Ap(s:Rat)(y:Nat->Rat)(ds:xh)(k:Nat)(c:xw):Prop:=(k=0/\c=none)\/∃d x,c=some d/\d<k/\ds[d]?=some x/\∀(j:Nat)z,j<k->ds[j]?=some z->mK s y z<=mK s y x
def yZ:ST:=λts q=>∃(s:Rat)(m mo:Nat)(ac:zr)(ys:zo),ts=[a_ s,rJ ac,.lst (ys.map a_)]/\Shr s/\DSk m mo ac/\m<=100/\mo<=100/\ys.length=m/\YsB ys/\∀pl:zb,TkB s ac (λj=>ys.getD j 0) pl->q (.l1 (pl.map dT))
def Vq(F:Fun K yS yS CJ f fd)(T:Txt K mg D)(ud:c_ P w K mg base 1 pF pJ Jm)(vK:c_ P w K mg base 1 uW qw Aa):bV P w K mg base cp 2 f fd uf (mP K yZ):=by
 refine F.okT LC (λ_ _=>bC (jL 3 (dN bA))
  (bC (gA (cG xD) (cC (n:=99) 4)
  (bC (bL 5 mG)
  (bC (nR (bF CJ) Kh Kh ["_law_door_here"] (cG (qv 4)) (gH (i:=0)) cJ (bH ud (bw xD (bw xC (bw xS bA)))) (kh (i:=6) LC.nd rfl (Or.inl rfl)))
  (bC (gA (fW T.jD (bw (bQ eG T.fJ WJ (bw (qv 6) bA)) bA)) (cC (n:=99) 7)
  (bG (cT (QW.qt (ji (cM Ar (qv 5) mG) (gn (dD (cR (bH vK (bw (bI (qv 6) (qv 7)) (bw (bI (qv 6) (qv 5)) bA))))))))
  (bG (bL 5 (qv 7)))
  bU)))
  (bG (nG 3 (qv 5)))))))
  (bG (jy 3)))) ?_
 rintro _ R ⟨s,m,mo,ac,ys,rfl,hs,hd,m1,oB,yl,hy,q⟩;refine jq (λds=>L2.T.lst (ds.map nv)) ac (λas o=>∃(pl:zb)(x4 x5 x6 x7:OT),o=[.fz (a_ s),.fz (rJ ac),.fz (.lst (ys.map a_)),.l1 (pl.map dT),x4,x5,x6,x7]/\TkB s as (λj=>ys.getD j 0) pl) ⟨[],_,_,_,_,rfl,rfl,λk ds e=>by cases e⟩ ?_ ?_
 .rintro as ds bs _ e ⟨pl,x4,x5,x6,x7,rfl,ht⟩;have dm:ds∈ac:=by rw[e];simp
  have few:=hd.few ds dm;have al:as.length<m:=by rw[<- hd.len,e];simp
  have lm:(pl.map dT).length<sizeLine:=by rw[ak,ht.len];exact aQ (show _<1001 by lia) xa
  dsimp only[hName];refine⟨by rw[ak];exact aK (show _<=1000 by lia) xa,Fq nv (_a s λj=>ys.getD j 0) ds (λd hdm N M hN=>⟨s,m,d,ys,rfl,hs,hd.ok ds dm d hdm,yl,hy,λa b b0 ba bb ev=>hN _ ⟨a,b,rfl,b0,ba,bb,ev⟩⟩) λts al=>?_⟩;have tl:=zK al;refine⟨⟨by lia,by lia⟩,oF (λk o=>∃(c:xw)(x7:OT),o=[.fz (a_ s),.fz (rJ ac),.fz (.lst (ys.map a_)),.l1 (pl.map dT),.fz (.lst (ds.map nv)),.fz (dT c),.fz (.lst ts),x7]/\Ap s (λj=>ys.getD j 0) ds k c) ⟨none,_,rfl,.inl ⟨rfl,rfl⟩⟩ ?_ ?_⟩
  .rintro k _ hk ⟨c,x7,rfl,hb⟩;have kd0:k<ts.length:=by simpa using hk
   have kd:k<ds.length:=by exact aQ kd0 (WS tl)
   have ek:=aj kd;obtain⟨t,et,a,b,rfl,b0,ba,bb,ev⟩:=Ky al ek;dsimp only[hName];have first:Ap s (λj=>ys.getD j 0) ds (k+1) (some k)->∃(c:xw)(x7:OT),[OT.fz (a_ s),.fz (rJ ac),.fz (.lst (ys.map a_)),.l1 (pl.map dT),.fz (.lst (ds.map nv)),.fz (.int (k:Nat)),.fz (.lst ts),.fz (.int (k:Nat))]=[OT.fz (a_ s),.fz (rJ ac),.fz (.lst (ys.map a_)),.l1 (pl.map dT),.fz (.lst (ds.map nv)),.fz (dT c),.fz (.lst ts),x7]/\Ap s (λj=>ys.getD j 0) ds (k+1) c:=λh=>⟨some k,_,rfl,h⟩
   rcases hb with⟨k0,rfl⟩|⟨d,x,rfl,dk,ed,eL⟩
   .refine first (.inr ⟨k,ds[k],rfl,by exact X1 _,ek,λj z hj ez=>?_⟩)
    obtain rfl:j=k:=by lia
    rw[ek]at ez;cases ez;exact VX
   .obtain⟨t',et',a',b',rfl,b0',ba',bb',ev'⟩:=Ky al ed;refine⟨_,Xb et,_,Xb et',a,b,a',b',rfl,b0,b0',⟨ba,bb,ba',bb'⟩,?_⟩;rw[ev,ev'];show sw (!decide (mK s (λj=>ys.getD j 0) ds[k]<mK s (λj=>ys.getD j 0) x)) _ _;by_cases lt:mK s (λj=>ys.getD j 0) ds[k]<mK s (λj=>ys.getD j 0) x
    .refine sN (by rw[Zs lt];rfl) ⟨some d,_,rfl,.inr ⟨d,x,rfl,by exact Nat.lt_add_right _ dk,ed,λj z hj ez=>?_⟩⟩;by_cases c:j=k
     .subst c;rw[ek]at ez;cases ez;exact Rat.le_of_lt lt
     .exact eL j z (XX (U2 hj) c) ez
    .refine uj (by rw[Zp lt];rfl) (first (.inr ⟨k,ds[k],rfl,by exact X1 _,ek,λj z hj ez=>?_⟩));by_cases c:j=k
     .subst c;rw[ek]at ez;cases ez;exact VX
     .exact TZ (eL j z (XX (U2 hj) c) ez) (Rat.not_lt.mp lt)
  .rintro _ ⟨c,x7,rfl,hb⟩;refine⟨lm,pl++[c],_,_,_,_,by rw[aZ];rfl,ht.snoc ?_⟩;have el:((ts.length:Nat):Int).toNat=ds.length:=by rw[UT,tl]
   rcases hb with⟨k0,rfl⟩|⟨d,x,rfl,dk,ed,eL⟩
   .exact .inl ⟨List.length_eq_zero_iff.mp (Eq.trans (Eq.symm el) k0),rfl⟩
   .refine .inr ⟨d,x,rfl,ed,λz hz=>?_⟩;obtain⟨j,ej⟩:=aU hz;exact eL j z (by have:=(ao.mp ej).1;lia) ej
 .rintro _ ⟨pl,x4,x5,x6,x7,rfl,ht⟩;exact q pl ht
theorem Bg{α:Type}{g:α->PyData}(h:∀x,PyData.canLay0 (g x)):∀xs:List α,PyData.canLayAll0 (xs.map g)
 |[]=>rfl
 |x::xs=>by rw[map_cons];unfold PyData.canLayAll0;rw[Bg h xs,h x];rfl
theorem Fe{α:Type}{g:α->PyData}{n:Nat}(h:∀x,PyData.depth (g x)<=n):∀xs:List α,PyData.depthAll (xs.map g)<=n
 |[]=>aY _
 |x::xs=>by
  rw[map_cons];unfold PyData.depthAll;have:=Fe h xs;have:=h x;lia
theorem zf{α:Type}{g:α->PyData}{h:α->T}(e:∀x,h x=sB (g x)):∀xs:List α,xs.map h=Wm (xs.map g)
 |[]=>rfl
 |x::xs=>by rw[map_cons,map_cons,zf e xs,e x];rfl
theorem Nz{α:Type}[DecidableEq α]{g:α->PyData}(h:∀x y,PyData.eqv (g x) (g y)=decide (x=y)):∀xs ys:List α,PyData.eqvAll (xs.map g) (ys.map g)=decide (xs=ys)
 |[],[]=>rfl
 |[],_::_=>rfl
 |_::_,[]=>rfl
 |x::xs,y::ys=>by
  rw[map_cons,map_cons];unfold PyData.eqvAll;rw[h,Nz h xs ys,<- Bool.decide_and];exact decide_eq_decide.mpr ⟨λz=>by rw[z.1,z.2],λz=>List.cons.inj z⟩
structure EqD{α:Type}[DecidableEq α](h:α->T)(g:α->PyData):Prop where
 of:∀x,h x=sB (g x)
 lay:∀x,PyData.canLay0 (g x)
 dep:∀x,PyData.depth (g x)<=60
 eqv:∀x y,PyData.eqv (g x) (g y)=decide (x=y)
def EqD.lst{α:Type}[DecidableEq α]{h:α->T}{g:α->PyData}(E:EqD h g)(xs:List α):SeqAt.shaped (.list (xs.map g)):=by
 have h1:PyData.canLay0 (.list (xs.map g)):=by unfold PyData.canLay0;exact Bg E.lay xs
 have h2:PyData.depth (.list (xs.map g))<=64:=by unfold PyData.depth;have:=Fe E.dep xs;lia
 unfold SeqAt.shaped;rw[h1,Zs h2];rfl
def EqD.gEq{α:Type}[DecidableEq α]{h:α->T}{g:α->PyData}(E:EqD h g){neg:Bool}{a c:List α}{q:OT->Prop}(hq:q (.fz (.bl (xr neg (decide (a=c)))))):gEq neg (.lst (a.map h)) (.lst (c.map h)) q:=by
 refine⟨.list (a.map g),.list (c.map g),ZH L2.T.lst (zf E.of a),ZH L2.T.lst (zf E.of c),E.lst a,E.lst c,?_⟩;unfold PyData.eqv;rwa[Nz E.eqv]
def oP(k:Nat):PyData:=.int (k:Nat)
def q_:EqD sF oP:=⟨λ_=>rfl,λ_=>rfl,λ_=>aY _,λx y=>by
 show decide ((x:Int)=(y:Int))=_;exact decide_eq_decide.mpr ⟨λz=>Int.ofNat.inj z,λz=>by rw[z]⟩⟩
def JC : ((gs.map oP).any λy=>PyData.eqv y (oP k))=si gs k:=by
 rw[any_map];unfold si;refine Bool.eq_iff_iff.mpr ⟨λz=>?_,λz=>?_⟩
 .obtain⟨y,hy,e⟩:=List.any_eq_true.mp z;have e:PyData.eqv (oP y) (oP k):=e;rw[q_.eqv]at e;exact Zs (of_decide_eq_true e ▸ hy)
 .exact List.any_eq_true.mpr ⟨k,of_decide_eq_true z,by show PyData.eqv (oP k) (oP k)=true;rw[q_.eqv];exact Zs rfl⟩
def Y6(gs:zD):p3 gs=sB (.list (gs.map oP)):=ZH L2.T.lst (zf q_.of gs)
def r_(ac:zr)(pl:zb)(gs:zD)(y:Nat->Rat)(k:Nat):Rat:=if k∈gs then 1 else match(pl.getD k none).bind λd=>(ac.getD k [])[d]? with|none=>0|some d=>dw d.prs y
def o0(m:Nat)(ac:zr)(pl:zb)(gs:zD)(ys:zo):zo:=(range m).map (r_ ac pl gs λj=>ys.getD j 0)
def yI:ST:=λts q=>∃(m mo:Nat)(ac:zr)(pl:zb)(gs:zD)(ys:zo),ts=[rJ ac,.lst (pl.map dT),p3 gs,.lst (ys.map a_)]/\DSk m mo ac/\m<=100/\gs.length<=100/\PlD ac pl/\ys.length=m/\YsB ys/\q (.l1 ((o0 m ac pl gs ys).map a_))
def W6(F:Fun K yO yO K9 f fd)(T:Txt K mg D)(ud:c_ P w K mg base 1 pF pJ Oh)(d_:c_ P w K mg base 2 k_ jx ou):bV P w K mg base cp 3 f fd ur (mP K yI):=by
 refine F.okT Xc (λhr _=>bC (jL 4 (dN bA))
  (bC (gA (fW T.jD (bw (bQ eG T.fJ WJ (bw xC bA)) bA)) (cC (n:=99) 5)
  (bC (bL 6 (cZ (bw (kY zW T.Bb boot_int (bw (oO (GW hr.units) (qv 5) xL (hm:=by rfl)) bA)) (bw bx bA))))
  (bC (cT (QW.qt (Wv (cM Sq (bI xD (qv 5)) mG) (Rh (cM (SY hr.units) (qv 5) xL (hm:=by rfl)))))
  (bG (bL 6 (bH ud (bw (cZ (bw bx (bw bx bA))) (bw (cZ (bw bx (bw (cZ (bw bx (bw bx bA))) (bw (bI (bI (bI xC (qv 5)) (bI xD (qv 5))) bx) bA)))) (bw xS bA))))))
  bU)
  (bG (nG 4 (bH d_ (bw (bI (qv 6) bx) (bw (bI (qv 6) bx) bA))))))))
  (bG (jy 4)))) ?_
 rintro _ R ⟨m,mo,ac,pl,gs,ys,rfl,hd,m1,g1,hp,yl,hy,q⟩;have dl:(ac.map λds=>L2.T.lst (ds.map nv)).length=m:=by rw[ak,hd.len]
 refine⟨⟨by rw[dl];lia,by rw[dl];lia⟩,oF (λk o=>∃x y,o=[.fz (rJ ac),.fz (.lst (pl.map dT)),.fz (p3 gs),.fz (.lst (ys.map a_)),.l1 ((o0 k ac pl gs ys).map a_),x,y]) ⟨.und,.und,rfl⟩ ?_ ?_⟩
 .rintro k _ hk ⟨x,y,rfl⟩;have hk:k<m:=by rw[dl]at hk;lia
  have lk:k<ac.length:=by rwa[hd.len]
  have ek:=aj lk;have lp:k<pl.length:=by rw[hp.len];exact lk
  have ep:=aj lp;have ft:=hp.ok k _ _ ep ek;have lm:((o0 k ac pl gs ys).map a_).length<sizeLine:=by
   unfold o0;rw[ak,ak,W1];exact aQ (show k<1000 by lia) xa
  have es:o0 (k+1) ac pl gs ys=o0 k ac pl gs ys++[r_ ac pl gs (λj=>ys.getD j 0) k]:=by
   unfold o0;rw[range_succ,aZ]
   rfl
  refine⟨oP k,gs.map oP,rfl,Y6 gs,rfl,q_.lst gs,?_⟩;rw[JC];have da:r_ ac pl gs (λj=>ys.getD j 0) k=if k∈gs then 1 else match pl[k].bind λd=>ac[k][d]? with|none=>0|some d=>dw d.prs λj=>ys.getD j 0:=by
   unfold r_;rw[au,ep,au,ek]
   rfl
  have go:∀(a b:Int)(y6:OT),0<b->Bd b->divInt a b=r_ ac pl gs (λj=>ys.getD j 0) k->∃x y,[OT.fz (rJ ac),.fz (.lst (pl.map dT)),.fz (p3 gs),.fz (.lst (ys.map a_)),.l1 ((o0 k ac pl gs ys).map a_++[a_ (divInt a b)]),.fz (.int (k:Nat)),y6]=[OT.fz (rJ ac),.fz (.lst (pl.map dT)),.fz (p3 gs),.fz (.lst (ys.map a_)),.l1 ((o0 (k+1) ac pl gs ys).map a_),x,y]:=λa b y6 b0 bb ev=>⟨_,_,by rw[es,aZ,ev];rfl⟩;by_cases hg:k∈gs
  .rw[show si gs k=true from Zs hg];rw[ZY hg]at da;refine⟨_,eU ep,?_⟩;cases c:pl[k]with
   |none=>exact⟨1,1,rfl,by decide,dY xa,lm,go 1 1 _ xa (dY xa) (by rw[da];rfl)⟩
   |some d =>
    refine⟨oP k,gs.map oP,rfl,Y6 gs,rfl,q_.lst gs,?_⟩;rw[JC,show si gs k=true from Zs hg];exact⟨1,1,rfl,by decide,dY xa,lm,go 1 1 _ xa (dY xa) (by rw[da];rfl)⟩
  .rw[show si gs k=false from Zp hg];rw[ZZ hg]at da;refine⟨_,eU ep,?_⟩;cases c:pl[k]with
   |none =>
    rw[c]at da;exact⟨0,1,rfl,by decide,dY xa,lm,go 0 1 _ xa (dY xa) (by rw[da];rfl)⟩
   |some d =>
    rw[c]at da ft ep;have lj:d<ac[k].length:=of_decide_eq_true ft;have ej:=aj lj;have da:r_ ac pl gs (λj=>ys.getD j 0) k=match ac[k][d]? with|none=>0|some x=>dw x.prs λj=>ys.getD j 0:=da
    rw[ej]at da;have da:r_ ac pl gs (λj=>ys.getD j 0) k=dw ac[k][d].prs λj=>ys.getD j 0:=da;refine⟨oP k,gs.map oP,rfl,Y6 gs,rfl,q_.lst gs,?_⟩;rw[JC,show si gs k=false from Zp hg];refine⟨_,eU ek,_,eU ep,_,eU ej,1,m,⟨0,0,ac[k][d].prs⟩,ys,rfl,⟨by decide,by decide⟩,(hd.ok _ (aR lk) _ (aR lj)).lk.bare 0,yl,hy,λa b b0 ba bb ev=>?_⟩;exact⟨a,b,rfl,b0,bb,lm,go a b _ b0 bb (by rw[ev,da];unfold mK;grind)⟩
 .rintro _ ⟨x,y,rfl⟩;have e:(((ac.map λds=>L2.T.lst (ds.map nv)).length:Nat):Int).toNat=m:=by rw[dl];rfl
  rwa[e]
def iV:ST:=λts q=>∃(ae:xi)(am m:Nat),ts=[.lst (ae.map l_),.int (am:Nat),.int (m:Nat)]/\ae.length=am+1/\(∀ys∈ae,ys.length=m)/\m<=1000/\am<=40/\q (.fz (.bl true))
def Gs(F:Fun K mW mW n_ f fd)(T:Txt K mg D)(rM:c_ P w K mg base 3 m9 jU vW):bV P w K mg base cp 4 f fd jO (mP K iV):=by
 refine F.okT Ga (λhr _=>bC (cT (QW.qt (ji (dD (cR (pO .list xC T.d9 T.Ef boot_list))) (gn (cM (Bf hr.units) (bQ eG T.fJ WJ (bw xC bA)) (bJ cN xD bx)))))
  (bG (bT nQ))
  bU)
  (bG (bT (bQ (O5 rfl) T.Xq boot_all (bw (dO (bF n_) qM qM ["_law_one"] (cG xC) (gH (i:=0)) cJ (bH rM (bw xC (bw xS bA)))) bA))))) ?_
 rintro _ R ⟨ae,am,m,rfl,hl,hm,m1,n1,q⟩;refine sN (show(!decide (((ae.map l_).length:Int)=(am:Int)+1))=false by rw[Zs (by rw[ak,hl];rfl)];rfl) ?_;refine⟨by rw[ak];exact aK (show _<=41 by lia) xa,comp_map l_ (λ_=>.bl true) ae (λys hy N M hN=>⟨ys,m,rfl,hm ys hy,m1,hN⟩) ⟨ae.map λ_=>true,by rw[WU];rfl,?_⟩⟩;rw[show true=((ae.map λ_=>true).all λb=>b)by simp]at q;exact q
open Rw (sg wN wH pA qX wO vn vr)
def Shr.left(h:Shr s):(1:Rat)<=(1-s)*100:=by
 have e:=(one_sub (a:=s.num) (b:=(s.den:Nat)) (kJ s));rw[rd]at e;have h1:=(lt_iff s 1).mp h.hi;have h1:s.num*((1:Nat):Int)<1*(s.den:Int):=h1;have hd:=h.den;have dp:=s.den_pos;have m:=oj (a:=(s.den:Int)-s.num) (b:=(s.den:Nat)) xB;rw[<- e]at m;have a:((1:Int):Rat)<=(((s.den:Int)-s.num:Int):Rat):=Rat.intCast_le_intCast.mpr xB;have b:(((s.den:Nat):Int):Rat)<=((100:Int):Rat):=Rat.intCast_le_intCast.mpr xB;have p:(0:Rat)<=1-s:=by have:=h.hi;grind
 have c:=T1 b p;have i1:((1:Int):Rat)=1:=rfl;have i2:((100:Int):Rat)=100:=rfl;rw[m]at c;rw[i1]at a;rw[i2]at c;exact TZ a c
def Wk(h:r.num.natAbs<=A):r<=(A:Rat)/\-(A:Rat)<=r:=by
 have dp:=r.den_pos;constructor
 .refine(le_iff r (A:Rat)).mpr ?_;show r.num*((1:Nat):Int)<=(A:Int)*(r.den:Int);have:(A:Int)*1<=(A:Int)*(r.den:Int):=Int.mul_le_mul_of_nonneg_left xB (Wp _);omega
 .refine(le_iff (-(A:Rat)) r).mpr ?_;show -(A:Int)*(r.den:Int)<=r.num*((1:Nat):Int);have:(A:Int)*1<=(A:Int)*(r.den:Int):=Int.mul_le_mul_of_nonneg_left xB (Wp _);rw[Int.neg_mul];omega
def U9{p x:Rat}(hs:Shr s)(hp:p.num.natAbs<=10^30)(h1:x<=(VV:Rat))(h2 : -(VV:Rat)<=x):p+s*x<=(VV:Rat)/\-(VV:Rat)<=p+s*x:=by
 obtain⟨a,b⟩:=Wk hp;have l:=hs.left;have c1:=T1 h1 hs.lo;have c2:=T1 h2 hs.lo;have v:(VV:Rat)=100*((10^30:Nat):Rat):=by decide +kernel
 have pp:(0:Rat)<=((10^30:Nat):Rat):=by decide +kernel
 have d:=QQ l pp;constructor<;>grind
open Rw (sg wN wH pA qX wO vn vr)
structure YsK(e:Nat)(ys:zo):Prop where
 cm:∃L:Nat,0<L/\L<=10^e/\∀y∈ys,y.den ∣ L
 hi:∀y∈ys,y<=(VV:Rat)
 lo:∀y∈ys,-(VV:Rat)<=y
def YsK.b{e:Nat}(h:YsK e ys)(he:e<=580):YsB ys:=by
 obtain⟨L,l0,l1,hl⟩:=h.cm;exact⟨λy hy=>aK (VT l0 (hl y hy)) (aK l1 (XT xa he)),h.hi,h.lo⟩
def mem_getD(l:ys.length=m){y:Rat}(h:y∈ys):∃k,k<m/\y=ys.getD k 0:=by
 obtain⟨k,e⟩:=aU h;exact⟨k,by rw[<- l];exact(ao.mp e).1,by rw[au,e];rfl⟩
def uB(f:Nat->Nat):Nat->Nat
 |0=>1
 |n+1=>uB f n*f n
theorem Q6{f:Nat->Nat}{k:Nat} : ∀{m:Nat},k<m->f k ∣ uB f m
 |0,h=>absurd h (WV _)
 |m+1,h=>by
  by_cases c:k=m
  .rw[c];exact Nat.dvd_mul_left _ _
  .exact Tk (Q6 (show k<m by exact XX (U2 h) c)) (Nat.dvd_mul_right _ _)
theorem Uv{f:Nat->Nat}{c:Nat}(h:∀k,f k<=c):∀m,uB f m<=c^m
 |0=>aF 1
 |m+1=>by rw[pow_succ];exact WG (Uv h m) (h m)
theorem R_{f:Nat->Nat}(h:∀k,0<f k):∀m,0<uB f m
 |0=>VQ
 |m+1=>UR (R_ h m) (h m)
theorem Xd{q L:Nat}(hq:0<q)(hL:0<L){y:Nat->Rat}(hy:∀k,(y k).den ∣ L):∀{ws:zd},(∀w∈ws,w.2.den ∣ q)->(dw ws y).den ∣ q*L
 |[],_=>UQ _
 |w::ws,h=>by
  rw[dZ];exact FQ (UR hq hL) (p4 hq hL (h w (aN ..)) (hy w.1)) (Xd hq hL hy λx hx=>h x (aH _ hx))
section
variable{s:Rat}{m mo e:Nat}{ac:zr}{off:zn}{ys zs:zo}
def t0(s:Rat)(m:Nat)(y:Nat->Rat)(v:Rat):Prop:=v=0\/v=1\/∃d,LDk m d/\(v=mK s y d\/v=dw d.prs y)
def Eu(hs:Shr s)(h:YsK e ys)(l:zs.length=m)(st:∀k,k<m->t0 s m (λj=>ys.getD j 0) (zs.getD k 0)):YsK (e+(7*m+2)) zs:=by
 obtain⟨L,l0,l1,hl⟩:=h.cm;have gl:∀k,(ys.getD k 0).den ∣ L:=λk=>by
  rw[au];cases e:ys[k]? with
  |none=>exact UQ _
  |some y=>exact hl y (aB e)
 have gh:∀k,ys.getD k 0<=(VV:Rat)/\-(VV:Rat)<=ys.getD k 0:=λk=>by
  rw[au];cases e:ys[k]? with
  |none=>exact⟨by show(0:Rat)<=_;decide +kernel,by show _<=(0:Rat);decide +kernel⟩
  |some y=>exact⟨h.hi y (aB e),h.lo y (aB e)⟩
 have sd:=s.den_pos;have va:∀d,LDk m d->_:=λd lk=>Oz (y:=λk=>ys.getD k 0) (C:=(VV:Rat)) (by decide +kernel) (ws:=d.prs) lk.nn (by rw[vg,lk.one];exact VX) (λk=>(gh k).1) λk=>(gh k).2;have bd:∀k,k<m->zs.getD k 0<=(VV:Rat)/\-(VV:Rat)<=zs.getD k 0:=λk hk=>by
  rcases st k hk with z|z|⟨d,lk,z|z⟩<;>rw[z]
  .exact⟨by decide +kernel,by decide +kernel⟩
  .exact⟨by decide +kernel,by decide +kernel⟩
  .exact U9 hs lk.pay.num (va d lk).1 (va d lk).2
  .exact va d lk
 have ex:∀k,∃q:Nat,(0<q/\q<=10^7)/\(k<m->(zs.getD k 0).den ∣ q*(s.den*L)):=λk=>by
  by_cases hk:k<m
  .rcases st k hk with z|z|⟨d,lk,z⟩
   .exact⟨1,by decide,λ_=>by rw[z];exact UQ _⟩
   .exact⟨1,by decide,λ_=>by rw[z];exact UQ _⟩
   .obtain⟨q,q0,q1,hq⟩:=lk.all;have lp:=f9 (d.prs.map (·.2)) VQ;have l4:bO 1 (d.prs.map (·.2))<=4000:=aK (VT q0 (kO _ (UQ _) λr hr=>by
     obtain⟨x,hx,rfl⟩:=YV.mp hr;exact(hq x hx).2.2)) q1
    have pd:=d.pay.den_pos;have all:=UR (UR lp pd) (UR sd l0);have dd:=Xd lp l0 gl (ws:=d.prs) λw hw=>(j7 _).2 _ (YV.mpr ⟨w,hw,rfl⟩);refine⟨bO 1 (d.prs.map (·.2))*d.pay.den,⟨UR lp pd,aK (WG l4 lk.pay.den) xa⟩,λ_=>?_⟩;rcases z with z|z<;>rw[z]
    .show(d.pay+s*dw d.prs λj=>ys.getD j 0).den ∣ _;refine FQ all ?_ ?_
     .exact Tk (Nat.dvd_mul_left _ _) (Nat.dvd_mul_right _ _)
     .refine Tk (p4 sd (UR lp l0) (dvd_refl s.den) dd) ⟨d.pay.den,by grind⟩
    .exact Tk dd ⟨d.pay.den*s.den,by grind⟩
  .exact⟨1,by decide,λz=>absurd z hk⟩
 obtain⟨f,hf⟩:=Classical.axiomOfChoice ex;have fp:∀k,0<f k:=λk=>(hf k).1.1;refine⟨⟨L*(s.den*uB f m),UR l0 (UR sd (R_ fp m)),?_,λy hy=>?_⟩,λy hy=>?_,λy hy=>?_⟩
 .rw[WH,show 7*m+2=2+7*m by exact Nat.add_comm _ _,WH,Nat.pow_mul];exact WG l1 (WG hs.den (Uv (λk=>(hf k).1.2) m))
 .obtain⟨k,hk,rfl⟩:=mem_getD l hy;obtain⟨t,ht⟩:=Q6 (f:=f) hk;exact Tk ((hf k).2 hk) ⟨t,by rw[ht];grind⟩
 .obtain⟨k,hk,rfl⟩:=mem_getD l hy;exact(bd k hk).1
 .obtain⟨k,hk,rfl⟩:=mem_getD l hy;exact(bd k hk).2
theorem Ry(hs:Shr s){first:zo}{N:zo->zo->Prop}(fl:first.length=m)(f0:YsK 0 first)(st:∀ys zs,ys.length=m->N ys zs->zs.length=m/\∀k,k<m->t0 s m (λj=>ys.getD j 0) (zs.getD k 0)){ae:xi}(h:RdN first N ae):∀(k:Nat)(ys:zo),ae[k]?=some ys->ys.length=m/\YsK ((7*m+2)*k) ys
 |0,ys,e=>by
  rw[h.first]at e;cases e;exact⟨fl,f0⟩
 |k+1,zs,e=>by
  have e1:=aj (show k<ae.length by have:=(ao.mp e).1;exact UU (X1 _) this);obtain⟨a,b⟩:=Ry hs fl f0 st h k _ e1;obtain⟨c,d⟩:=st _ _ a (h.next k _ _ e1 e);exact⟨c,Eu hs b c d⟩
def YsK.z{e:Nat}(h:YsK e ys){y:Rat}(hy:y∈ys):Rz (e+32) e y:=by
 obtain⟨L,l0,l1,hl⟩:=h.cm;have d:=aK (VT l0 (hl y hy)) l1;refine⟨aK (EY (h.hi y hy) (h.lo y hy)) ?_,d⟩;rw[WH,Nat.mul_comm];exact WG d (aF _)
def RP{ys:zo}(h:∀y∈ys,y=0\/y=1):YsK 0 ys:=⟨⟨1,VQ,aF _,λy hy=>by rcases h y hy with z|z<;>rw[z]<;>exact dvd_refl 1⟩,λy hy=>by rcases h y hy with z|z<;>rw[z]<;>decide +kernel,λy hy=>by rcases h y hy with z|z<;>rw[z]<;>decide +kernel⟩
def yk(hs:Shr s)(hd:DSk m mo ac)(m1:m<=100)(ho:o8 ac off){e:Nat}(he:e<=900)(l:ys.length=m)(h:YsK e ys):sM s off ys:=by
 obtain⟨L,l0,l1,hl⟩:=h.cm;have lc:bO 1 ys<=10^e:=aK (VT l0 (kO ys (UQ _) hl)) l1;refine⟨by lia,λr hr=>pX (h.z hr).1 xB,pX (n:=e) (by rwa[XG]) (aK he xa),λds gi o hm=>SB (t:=e+32+e) (b:=e) hs (G0 hd ho ds gi o hm) xa (aF _) xa (by unfold f_;rw[ak];exact l) (λx hx=>?_) lc xB (aK he xa)⟩;obtain⟨r,hr,rfl⟩:=YV.mp hx;rw[VU,XG,WH _ _ e];exact WG (h.z hr).1 (aK (div_le_self _ _) lc)
def LU(hs:Shr s)(hd:DSk m mo ac)(m1:m<=100)(ho:o8 ac off){e:Nat}(he:e<=900)(l:ys.length=m)(h:YsK e ys):vk off ys:=by
 have B:=yk hs hd m1 ho he l h;refine⟨B.few,B.num,B.lcm,λds gi o hm=>⟨(B.look ds gi o hm).1.bh,(B.look ds gi o hm).1.dw,?_⟩⟩;obtain⟨L,l0,l1,hl⟩:=h.cm;have lc:bO 1 ys<=10^e:=aK (VT l0 (kO ys (UQ _) hl)) l1;obtain⟨q,q0,q1,hq⟩:=(G0 hd ho ds gi o hm).cq;have lp:=f9 (o.ways.map (·.2)) VQ;have lq:bO 1 (o.ways.map (·.2))<=10^4:=aK (VT q0 (kO _ (UQ _) λr hr=>by
  obtain⟨w,hw,rfl⟩:=YV.mp hr;exact hq w hw)) (aK q1 xa)
 have dn:(qK o.ways (f_ (bO 1 ys) ys)).den<=10^4:=by
  rw[<- CT lp _ o.ways λw hw=>(j7 _).2 _ (YV.mpr ⟨w,hw,rfl⟩)];exact(KR (n:=_) xB (Y2 (Nat.lt_pow_self xa)) (by rwa[UT])).2
 refine pX (n:=4+e) ?_ xB;rw[VU,XG,XG,WH];exact WG dn lc
structure v6(s:Rat)(m:Nat)(ac:zr)(x v:Nat->Rat):Prop where
 no:∀k,k<m->ac.getD k []=[]->v k=0
 some:∀k,k<m->ac.getD k []≠[]->∃d∈ac.getD k [],v k=mK s x d
 le:∀k,k<m->∀d∈ac.getD k [],mK s x d<=v k
def O0(hd:DSk m mo ac)(ho:o8 ac off)(hk:k<m):∃(ds:xh)(tl:Θ),ac.getD k []=ds/\ac[k]?=some ds/\tl.length=ds.length/\off[k]?=some ((tl.zip ds).map λp=>I8 p.1 p.2):=by
 have e1:=aj (show k<ac.length by rwa[hd.len]);have e2:=aj (show k<off.length by rwa[ho.len,hd.len]);obtain⟨tl,l,eo⟩:=ho.at_ k _ _ e1 e2;exact⟨_,tl,by rw[au,e1];rfl,e1,l,by rw[e2,eo]⟩
def HI(hd:DSk m mo ac)(ho:o8 ac off)(hk:k<m){g:cg->Rat}{g':LD->Rat}(hg:∀t d,LDk m d->g (I8 t d)=g' d){v:Rat}(h:∀ds,off[k]?=some ds->xX ds g v):(ac.getD k []=[]->v=0)/\(ac.getD k []≠[]->∃d∈ac.getD k [],v=g' d)/\∀d∈ac.getD k [],g' d<=v:=by
 obtain⟨ds,tl,e0,e1,l,eo⟩:=O0 hd ho hk;obtain⟨t1,t2,t3⟩:=h _ eo;rw[e0];refine⟨λc=>?_,λc=>?_,λd hm=>?_⟩
 .subst c;exact t1 xF
 .obtain⟨o,hm,e⟩:=t2 λz=>c (by
   have:=ZH List.length z;rw[ak,VY,l,UK]at this;exact List.length_eq_zero_iff.mp this)
  obtain⟨p,hp,rfl⟩:=YV.mp hm;have pm:=(UX hp).2;exact⟨p.2,pm,by rw[<- hg p.1 _ (hd.ok ds (aB e1) _ pm)];exact e⟩
 .obtain⟨i,ei⟩:=aU hm;have li:=(ao.mp ei).1;have:=t3 (I8 (tl[i]' xB) d) (YV.mpr ⟨(tl[i]' xB,d),aB (List.getElem?_zip_eq_some.mpr ⟨aj xB,ei⟩),rfl⟩);rw[hg _ _ (hd.ok ds (aB e1) _ hm)]at this;exact this
def ye(hd:DSk m mo ac)(ho:o8 ac off)(h:pf s off ys zs):v6 s m ac (λj=>ys.getD j 0) (λj=>zs.getD j 0):=by
 have t:=λk(hk:k<m)=>HI hd ho hk (g':=mK s λj=>ys.getD j 0) (λt d l=>RJ l) λds e=>h.top k ds e;exact⟨λk hk=>(t k hk).1,λk hk=>(t k hk).2.1,λk hk=>(t k hk).2.2⟩
def Va{d:LD}{t:Str}(h:LDk m d):dw (I8 t d).ways y=dw d.prs y:=by
 obtain⟨q,q0,_,hq⟩:=h.all;exact(Dd q0 hq).sum y
structure IA(m:Nat)(ac:zr)(gs:zD)(x v:Nat->Rat):Prop where
 one:∀k,k<m->k∈gs->v k=1
 no:∀k,k<m->k∉gs->ac.getD k []=[]->v k=0
 some:∀k,k<m->k∉gs->ac.getD k []≠[]->∃d∈ac.getD k [],v k=dw d.prs x
 le:∀k,k<m->k∉gs->∀d∈ac.getD k [],dw d.prs x<=v k
def HA(hk:k<m):(ng m gs)[k]?=some (decide (k∈gs)):=by
 unfold ng;rw[aq,UH hk]
 rfl
def CS(hd:DSk m mo ac)(ho:o8 ac off)(h:p6 (ng m gs) off ys zs):IA m ac gs (λj=>ys.getD j 0) (λj=>zs.getD j 0):=by
 have t:=λk(hk:k<m)(n:k∉gs)=>HI hd ho hk (g':=λd=>dw d.prs λj=>ys.getD j 0) (λt d l=>Va l) λds e=>h.top k ds (by rw[HA hk,Zp n]) e;exact⟨λk hk g=>h.one k (by rw[HA hk,Zs g]),λk hk n=>(t k hk n).1,λk hk n=>(t k hk n).2.1,λk hk n=>(t k hk n).2.2⟩
def L_(hd:DSk m mo ac){d:LD}(h:d∈ac.getD k []):LDk m d:=by
 by_cases c:k<ac.length
 .rw[au,aj c]at h;exact hd.ok _ (aR c) d h
 .rw[au,aL (VW c)]at h;cases h
def PY(hd:DSk m mo ac)(ho:o8 ac off)(h:pf s off ys zs):zs.length=m/\∀k,k<m->t0 s m (λj=>ys.getD j 0) (zs.getD k 0):=by
 have n:=ye hd ho h;refine⟨by rw[h.len,ho.len,hd.len],λk hk=>?_⟩;by_cases c:ac.getD k []=[]
 .exact .inl (n.no k hk c)
 .obtain⟨d,hm,e⟩:=n.some k hk c;exact .inr (.inr ⟨d,L_ hd hm,.inl e⟩)
def PR(hd:DSk m mo ac)(ho:o8 ac off)(h:p6 (ng m gs) off ys zs):zs.length=m/\∀k,k<m->t0 s m (λj=>ys.getD j 0) (zs.getD k 0):=by
 have n:=CS hd ho h;refine⟨by rw[h.len];unfold ng;rw[ak,W1],λk hk=>?_⟩;by_cases g:k∈gs
 .exact .inr (.inl (n.one k hk g))
 .by_cases c:ac.getD k []=[]
  .exact .inl (n.no k hk g c)
  .obtain⟨d,hm,e⟩:=n.some k hk g c;exact .inr (.inr ⟨d,L_ hd hm,.inr e⟩)
def uJ(hd:DSk m mo ac)(hp:PlD ac pl)(hk:k<m):(ac.getD k []=[]/\(pl.getD k none).bind (λd=>(ac.getD k [])[d]?)=none)\/∃d∈ac.getD k [],(pl.getD k none).bind (λd=>(ac.getD k [])[d]?)=some d:=by
 have lk:k<ac.length:=by rwa[hd.len]
 have ek:=aj lk;have lp:k<pl.length:=by rw[hp.len];exact lk
 have ep:=aj lp;have ft:=hp.ok k _ _ ep ek;have gd:ac.getD k []=ac[k]:=by rw[au,ek];rfl
 have gp:pl.getD k none=pl[k]:=by rw[au,ep];rfl
 cases e:pl[k]with
 |none =>
  rw[e]at ft gp;exact .inl ⟨by rw[gd];exact List.length_eq_zero_iff.mp (of_decide_eq_true ft),by rw[gp];rfl⟩
 |some d =>
  rw[e]at ft gp;have ld:d<ac[k].length:=of_decide_eq_true ft;refine .inr ⟨ac[k][d],by rw[gd];exact aR ld,?_⟩;rw[gp,gd];exact aj ld
def RV(hd:DSk m mo ac)(hp:PlD ac pl):(jt s m ac pl ys).length=m/\∀k,k<m->t0 s m (λj=>ys.getD j 0) ((jt s m ac pl ys).getD k 0):=by
 refine⟨by unfold jt;rw[ak,W1],λk hk=>?_⟩;rw[Am hk];unfold vM;rcases uJ hd hp hk with⟨_,e⟩|⟨d,hm,e⟩<;>rw[e]
 .exact .inl rfl
 .exact .inr (.inr ⟨d,L_ hd hm,.inl rfl⟩)
def Wj(hk:k<m):(o0 m ac pl gs ys).getD k 0=r_ ac pl gs (λj=>ys.getD j 0) k:=by
 unfold o0;rw[au,aq,UH hk]
 rfl
def NJ(hd:DSk m mo ac)(hp:PlD ac pl)(gs:zD):(o0 m ac pl gs ys).length=m/\∀k,k<m->t0 s m (λj=>ys.getD j 0) ((o0 m ac pl gs ys).getD k 0):=by
 refine⟨by unfold o0;rw[ak,W1],λk hk=>?_⟩;rw[Wj hk];unfold r_;by_cases g:k∈gs
 .rw[ZY g];exact .inr (.inl rfl)
 .rw[ZZ g];rcases uJ hd hp hk with⟨_,e⟩|⟨d,hm,e⟩<;>rw[e]
  .exact .inl rfl
  .exact .inr (.inr ⟨d,L_ hd hm,.inr rfl⟩)
def V2(s0:0<=s)(hd:DSk m mo ac)(hp:PlD ac pl){x v:Nat->Rat}(le:∀j,j<m->x j<=y j)(n:v6 s m ac y v)(hk:k<m):vM s x ac pl k<=v k:=by
 unfold vM;rcases uJ hd hp hk with⟨c,e⟩|⟨d,hm,e⟩<;>rw[e]
 .rw[n.no k hk c];exact VX
 .refine TZ ?_ (n.le k hk d hm);have lk:=L_ hd hm;have a:=JX (ws:=d.prs) (x:=x) (z:=y) λw hw=>⟨lk.nn w hw,le _ (lk.lt w hw)⟩;have b:=T1 a s0;show d.pay+s*dw d.prs x<=d.pay+s*dw d.prs y
  grind
def OP(hd:DSk m mo ac)(hp:PlD ac pl){x v:Nat->Rat}(le:∀j,j<m->x j<=y j)(n:IA m ac gs y v)(hk:k<m):r_ ac pl gs x k<=v k:=by
 unfold r_;by_cases g:k∈gs
 .rw[ZY g,n.one k hk g];exact VX
 rw[ZZ g];rcases uJ hd hp hk with⟨c,e⟩|⟨d,hm,e⟩<;>rw[e]
 .rw[n.no k hk g c];exact VX
 .have lk:=L_ hd hm;exact TZ (JX (ws:=d.prs) (x:=x) (z:=y) λw hw=>⟨lk.nn w hw,le _ (lk.lt w hw)⟩) (n.le k hk g d hm)
def Q2(hd:DSk m mo ac){v:Nat->Rat}(t:TkB s ac y pl)(n:v6 s m ac y v)(hk:k<m):vM s y ac pl k=v k:=by
 have lk:k<ac.length:=by rwa[hd.len]
 have ek:=aj lk;have gd:ac.getD k []=ac[k]:=by rw[au,ek];rfl
 unfold vM;rcases t.ok k _ ek with⟨c,e⟩|⟨d,x,e,ex,eL⟩
 .rw[au,e];exact(n.no k hk (gd.trans c)).symm
 .rw[show pl.getD k none=some d by rw[au,e];rfl,gd];show(match ac[k][d]? with|none=>0|some d=>mK s y d)=_;rw[ex];have xm:=aB ex;obtain⟨z,hz,e2⟩:=n.some k hk (by rw[gd];exact List.ne_nil_of_mem xm);rw[gd]at hz;have a:=eL z hz;have b:=n.le k hk x (by rwa[gd]);show mK s y x=v k;rw[<- e2]at a;exact Rat.le_antisymm b a
def W0(t:TkB s ac y pl):PlD ac pl:=by
 refine⟨t.len,λk c ds e1 e2=>?_⟩;rcases t.ok k ds e2 with⟨rfl,e⟩|⟨d,x,e,ex,_⟩<;>rw[e]at e1<;>cases e1
 .rfl
 .exact Zs (ao.mp ex).1
def UL(hd:DSk m mo ac)(ho:o8 ac off)(hp:PlD ac pl)(h:sL s (ox off pl) ys zs):zs.length=m/\∀k,k<m->zs.getD k 0=vM s (λj=>ys.getD j 0) ac pl k:=by
 have pt:=QF ho hp;have cl:=VB off pl;have zl:zs.length=m:=by rw[h,ak,cl,hp.len,hd.len]
 refine⟨zl,λk hk=>?_⟩;have ec:=aj (show k<(ox off pl).length by rwa[cl,hp.len,hd.len]);rw[h,au,aq,ec];show Ik s _ _=_;have lp:k<pl.length:=by rwa[hp.len,hd.len]
 have eq:(ox off pl)[k]?=some (pl[k].bind λd=>(off.getD k [])[d]?):=by
  unfold ox;rw[aq,List.getElem?_zipIdx,aj lp];simp
 rw[ec]at eq;rw[Option.some.inj eq];unfold vM;rw[show pl.getD k none=pl[k]by rw[au,aj lp];rfl];cases pl[k]with
 |none=>rfl
 |some d =>
  obtain⟨t,et⟩:=WI ho k d;show Ik s _ ((off.getD k [])[d]?)=match(ac.getD k [])[d]? with|none=>0|some d=>mK s _ d
  rw[et];cases ed:(ac.getD k [])[d]? with
  |none=>rfl
  |some x=>exact RJ (L_ hd (aB ed))
def OB(hd:DSk m mo ac)(hp:PlD ac pl)(hk:k<m):t0 s m y (vM s y ac pl k):=by
 unfold vM;rcases uJ hd hp hk with⟨_,e⟩|⟨d,hm,e⟩<;>rw[e]
 .exact .inl rfl
 .exact .inr (.inr ⟨d,L_ hd hm,.inl rfl⟩)
theorem Wu(s0:0<=s)(hd:DSk m mo ac)(ho:o8 ac off){pl:zb}(hp:PlD ac pl){hU ae:xi}(hx:RdN (replicate off.length 0) (sL s (ox off pl)) hU)(hy:RdN (replicate off.length 0) (pf s off) ae):∀(k:Nat)xs ys,hU[k]?=some xs->ae[k]?=some ys->∀j,j<m->xs.getD j 0<=ys.getD j 0
 |0,xs,ys,e1,e2,j,_=>by
  rw[hx.first]at e1;rw[hy.first]at e2;cases e1;cases e2;exact VX
 |k+1,xs,ys,e1,e2,j,hj=>by
  have a1:=aj (show k<hU.length by have:=(ao.mp e1).1;exact UU (X1 _) this);have a2:=aj (show k<ae.length by have:=(ao.mp e2).1;exact UU (X1 _) this);rw[(UL hd ho hp (hx.next k _ _ a1 e1)).2 j hj];exact V2 s0 hd hp (Wu s0 hd ho hp hx hy k _ _ a1 a2) (ye hd ho (hy.next k _ _ a2 e2)) hj
end
section
variable{s:Rat}{n:Nat}{ac:zr}{nm:Θ}{off:zn}{gs:zD}{ps:List zb}{ae aS:xi}{k:Nat}{ay ax az:zo}
structure Md(s:Rat)(n:Nat)(ac:zr)(nm:Θ)(off:zn)(gs:zD)(ps:List zb):Prop where
 hs:Shr s
 hd:DSk n 3 ac
 n1:1<=n
 n2:n<=12
 h:Et nm off
 ho:o8 ac off
 g:∀g∈gs,g<n
 gl:gs.length<=4
 p:∀p∈ps,PlD ac p
 pl:ps.length<=6
 cap:(7*n+2)*ps.length<=180
def Md.ol(M:Md s n ac nm off gs ps):off.length=n:=by rw[M.ho.len,M.hd.len]
def Md.nl(M:Md s n ac nm off gs ps):nm.length=n:=by rw[<- M.h.len,M.ol]
def Md.e(M:Md s n ac nm off gs ps)(h:k<=ps.length):(7*n+2)*k<=180:=aK (Nat.mul_le_mul_left _ h) M.cap
def Md.zl(M:Md s n ac nm off gs ps):(replicate off.length (0:Rat)).length=n:=by rw[aM,M.ol]
def Em:YsK 0 (replicate n (0:Rat)):=RP λ_ hy=>.inl (XV.mp hy).2
def Rg(mk:xf):YsK 0 (oR mk):=RP λy hy=>by
 obtain⟨b,_,rfl⟩:=YV.mp hy;cases b
 .exact .inl rfl
 .exact .inr rfl
def Md.kB(M:Md s n ac nm off gs ps)(rd:RdN (replicate off.length 0) (pf s off) ae):∀(k:Nat)ys,ae[k]?=some ys->ys.length=n/\YsK ((7*n+2)*k) ys:=Ry M.hs M.zl Em (λ_ _ _ h=>PY M.hd M.ho h) rd
def Md.fl(M:Md s n ac nm off gs ps):(oR (ng nm.length gs)).length=n:=by unfold oR;rw[ak,La,M.nl]
def Md.kG(M:Md s n ac nm off gs ps)(rd:RdN (oR (ng nm.length gs)) (p6 (ng nm.length gs) off) aS):∀(k:Nat)ys,aS[k]?=some ys->ys.length=n/\YsK ((7*n+2)*k) ys:=Ry M.hs M.fl (Rg _) (λ_ _ _ h=>PR M.hd M.ho (by rw[M.nl]at h;exact h)) rd
def Md.kP(M:Md s n ac nm off gs ps){p:zb}(hp:PlD ac p)(rd:RdN (replicate off.length 0) (sL s (ox off p)) ae):∀(k:Nat)ys,ae[k]?=some ys->ys.length=n/\YsK ((7*n+2)*k) ys:=Ry M.hs M.zl Em (λ_ _ _ h=>⟨(UL M.hd M.ho hp h).1,λk hk=>by rw[(UL M.hd M.ho hp h).2 k hk];exact OB M.hd hp hk⟩) rd
def Md.rB(M:Md s n ac nm off gs ps):tm (replicate off.length 0) (pf s off) (sM s off) ps.length:=λae rd k ys hk e=>by
 obtain⟨l,a⟩:=M.kB rd k ys e;exact yk M.hs M.hd (aK M.n2 xa) M.ho (aK (M.e (Y2 hk)) xa) l a
def Md.rG(M:Md s n ac nm off gs ps):tm (oR (ng nm.length gs)) (p6 (ng nm.length gs) off) (vk off) ps.length:=λae rd k ys hk e=>by
 obtain⟨l,a⟩:=M.kG rd k ys e;exact LU M.hs M.hd (aK M.n2 xa) M.ho (aK (M.e (Y2 hk)) xa) l a
def Md.rP(M:Md s n ac nm off gs ps){p:zb}(hp:PlD ac p){j:Nat}(hj:j<=ps.length):tm (replicate off.length 0) (sL s (ox off p)) (sM s off) j:=λae rd k ys hk e=>by
 obtain⟨l,a⟩:=M.kP hp rd k ys e;exact yk M.hs M.hd (aK M.n2 xa) M.ho (aK (M.e (aK (Y2 hk) hj)) xa) l a
structure Tn(s:Rat)(n:Nat)(ae aS:xi)(k:Nat)(ay ax az:zo):Prop where
 pk:ay.length=n/\YsK ((7*n+2)*k) ay
 ck:az.length=n/\YsK ((7*n+2)*k) az
 pl:∀ys,ae[k]?=some ys->∀j,j<n->ay.getD j 0<=ys.getD j 0
 cl:∀ys,aS[k]?=some ys->∀j,j<n->az.getD j 0<=ys.getD j 0
 m:ae[k]?=some ax
def Tn.start(M:Md s n ac nm off gs ps)(ry:RdN (replicate off.length 0) (pf s off) ae)(rg:RdN (oR (ng nm.length gs)) (p6 (ng nm.length gs) off) aS):Tn s n ae aS 0 (replicate n 0) (replicate n 0) (oR (ng n gs)):=by
 have e1:=ry.first;have e2:=rg.first;rw[M.ol]at e1;rw[M.nl]at e2;refine⟨⟨aM,Em⟩,⟨by unfold oR;rw[ak,La],Rg _⟩,λys e=>?_,λys e=>?_,e1⟩
 .rw[e1]at e;cases e;exact λ_ _=>VX
 .rw[e2]at e;cases e;exact λ_ _=>VX
def Wt{xs:zo}(h1:xs.length=n)(h2:ys.length=n)(h:∀k,k<n->xs.getD k 0=ys.getD k 0):xs=ys:=by
 refine ext_getElem (by rw[h1,h2]) λk k1 k2=>?_;have:=h k (aQ k1 (WS h1));rw[au,au,aj k1,aj k2]at this;exact this
def Tn.next(M:Md s n ac nm off gs ps)(ry:RdN (replicate off.length 0) (pf s off) ae)(rg:RdN (oR (ng nm.length gs)) (p6 (ng nm.length gs) off) aS)(h:Tn s n ae aS k ay ax az){p q:zb}(hp:PlD ac p)(hq:TkB s ac (λj=>ax.getD j 0) q)(l1:k+1<ae.length)(l2:k+1<aS.length):Tn s n ae aS (k+1) (jt s n ac p ay) (jt s n ac q ax) (o0 n ac p gs az):=by
 rw[M.nl]at rg;have nx:∀ys,ae[k+1]?=some ys->v6 s n ac (λj=>ax.getD j 0) (λj=>ys.getD j 0):=λys e=>ye M.hd M.ho (ry.next k _ _ h.m e);have ey:=aj l1;have eg0:=aj (show k<aS.length by exact UU (X1 _) l2);obtain⟨a1,a2⟩:=RV (s:=s) (ys:=ay) M.hd hp;obtain⟨b1,b2⟩:=NJ (s:=s) (ys:=az) M.hd hp gs;refine⟨⟨a1,Eu M.hs h.pk.2 a1 a2⟩,⟨b1,Eu M.hs h.ck.2 b1 b2⟩,λys e j hj=>?_,λys e j hj=>?_,?_⟩
 .rw[Am hj];exact V2 M.hs.lo M.hd hp (h.pl _ h.m) (nx ys e) hj
 .rw[Wj hj];exact OP M.hd hp (h.cl _ eg0) (CS M.hd M.ho (rg.next k _ _ eg0 e)) hj
 .rw[ey];refine ZH some (Wt (n:=n) (M.kB ry _ _ ey).1 (RV (s:=s) M.hd (W0 hq)).1 λj hj=>?_);rw[Am hj];exact(Q2 M.hd hq (nx _ ey) hj).symm
end
def Ps(d:LD):NX (nv d):=⟨trivial,FJ _,NXs.map (g:=oy) (λp=>⟨trivial,FJ _,trivial⟩) _,trivial⟩
def SK(ds:xh):NX (.lst (ds.map nv)):=by unfold NX;exact NXs.map Ps ds
def Sk(ac:zr):NX (rJ ac):=by unfold NX;exact NXs.map (g:=λds=>L2.T.lst (ds.map nv)) SK ac
def ZX(ns:zS):NXs (ns.map L2.T.int):=NXs.map (g:=L2.T.int) (λ_=>trivial) ns
def He(gs:zD):NX (p3 gs):=NXs.map (g:=sF) (λ_=>trivial) gs
def HQ(pl:zb):NX (.lst (pl.map dT)):=NXs.map (g:=dT) (λc=>by cases c<;>exact trivial) pl
def qI(ys:zo):NX (l_ ys):=NXs.map FJ ys
def UO(ds:List cg):NX (.lst (ds.map oo)):=by unfold NX;exact NXs.map HE ds
def RW(s:Rat)(nm:Θ)(off:zn):NX (nE D s nm off):=by
 unfold NX;refine⟨FJ _,?_,?_,trivial⟩
 .unfold NX;exact NXs.map (g:=λk:Nat=>L2.T.int k) (λ_=>trivial) _
 .unfold NX;exact NXs.map (g:=λds=>L2.T.lst (ds.map oo)) UO off
def MJ{H':Hp}{σ':L2.St}{o':zt}(h:SR K own H σ o)(e:Nx H H')(l:o'.length=σ'.length)(hs:∀(i:Nat)x,o'[i]?=some x->x=.und\/∃t,x=.fz t/\(NX t/\o[i]?=some x/\σ'[i]?=σ[i]?\/∃u,σ'[i]?=some (some u)/\Rep K H' u t)):SR K (λ_=>[]) H' σ' o':=by
 refine⟨l,λi x ei=>?_,λ_ _ _ z=>(nomatch z),λi j a z=>(nomatch z)⟩;rw[j_];rcases hs i x ei with rfl|⟨t,rfl,⟨nx,eo,es⟩|⟨u,es,r⟩⟩
 .rfl
 .obtain⟨_,u,eu,r⟩:=h.sl i _ eo;rw[es];exact⟨rfl,u,eu,Rep.nx (λb w n m z=>e b w n m (cW z).2) r nx⟩
 .rw[es];exact⟨rfl,u,rfl,r⟩
def nX(D:nr)(ns:zS)(n:Nat)(s:Rat)(ac:zr)(nm:Θ)(off:zn)(gs:zD)(ps:List zb)(x7 x8 x9 dr d6 fq x13:OT):zt:=[.fz (vv ns),.fz (.int (n:Nat)),.fz (a_ s),.fz (rJ ac),.fz (nE D s nm off),.fz (p3 gs),.fz (.lst (ps.map λp=>L2.T.lst (p.map dT))),x7,x8,x9,dr,d6,fq,x13]
def Iq:OT->Prop
 |.und=>True
 |.fz t=>NX t
 |_=>False
def ShA:zt->Prop
 |[]=>True
 |x::l=>Iq x/\ShA l
def ShA.at_:∀{o:zt},ShA o->∀{j:Nat}{x:OT},o[j]?=some x->x=.und\/∃t,x=.fz t/\NX t
 |y::_,h,0,x,e=>by
  obtain rfl:y=x:=by simpa using e
  cases y with
  |und=>exact .inl rfl
  |fz t=>exact .inr ⟨t,rfl,h.1⟩
  |_=>exact h.1.elim
 |_::_,h,j+1,x,e=>h.2.at_ (j:=j) (by simpa using e)
def om{Pt c ki:Addr}{H':Hp}{u:HO}(S:z0 (wo (s_ Pt none) H) (wo [Pt,c] H'))(ne:ki≠Pt)(e:H ki=some u):H' ki=some u:=(vJ (S ki u ((zQ λz=>ne (YR.mp z)).trans e))).2
def Ep{K:Frag}{Pt:Addr}{lp:Pos}{lq:Str}{S:ST}{r:RA}{i:Nat}{D:Ends}{oc:Ω}(h:SR K own H σ o)(sh:ShA o)(la:jJ Pt lp lq H oc)(R:OT->Prop)(hr:r o λts=>NXs ts/\S ts R)(hi:i<o.length)
 (k:∀H' v c x,R x->z0 (wo (s_ Pt oc) H) (wo [Pt,c] H')->jJ Pt lp lq H' (some c)->SR K (λ_=>[]) H' (σ.set i (some v)) (o.set i (.fz (frz x)))->D.nx (σ.set i (some v)) H'):LR (Ey K Pt lp lq S r) (qF i) D σ H:=by
 have h0:SR K (λ_=>[]) H σ o:=MJ h (λ_ _ _ _ e=>e) h.len λj x e=>(sh.at_ e).imp id λhP=>by obtain⟨t,et,nx⟩:=hP;exact⟨t,et,.inl ⟨nx,e,rfl⟩⟩
 refine⟨o,R,oc,h0,la,hr,λH' v x c rx S2 c5 n=>k H' v c x rx S2 c5 ?_⟩;have nx:Nx H H':=λb u n m e=>(vJ (S2 b u (la.nx b u n m e))).2;have rv:=n.rep λb z=>z.elim;rw[show(λ_:Addr=>False)=Ow (λ_=>[])from funext λb=>propext ⟨False.elim,λhP=>by obtain⟨_,z⟩:=hP;exact(nomatch z)⟩,j_]at rv;have ls:i<σ.length:=by have:=h.len;exact aQ hi (WS this)
 refine MJ h0 nx (by rw[VZ,VZ,h.len]) λj y e=>?_;by_cases c:i=j
 .subst c;rw[UZ hi]at e;cases e;exact .inr ⟨_,rfl,.inr ⟨v,UZ ls,rv⟩⟩
 .rw[Up c]at e;exact(sh.at_ e).imp id λ⟨t,et,nx⟩=>⟨t,et,.inl ⟨nx,e,Up c⟩⟩
def Io{t u:TS}{D:Ends}(h:t { D with nx:=u D } σ H):BK t u D σ H:=h
section
variable{ns:zS}{n:Nat}{s:Rat}{ac:zr}{nm:Θ}{off:zn}{gs:zD}{ps:List zb}{ae aS:xi}{x7 x8 x9 dr d6 fq x13:OT}
def Pv(ps:List zb):NX (.lst (ps.map λp=>L2.T.lst (p.map dT))):=by unfold NX;exact NXs.map (g:=λp=>L2.T.lst (p.map dT)) HQ ps
def rK(ae:xi):NX (.lst (ae.map l_)):=by unfold NX;exact NXs.map qI ae
def Ss(h:ShA [x7,x8,x9,dr,d6,fq,x13]):ShA (nX D ns n s ac nm off gs ps x7 x8 x9 dr d6 fq x13):=⟨by unfold Iq NX;exact ZX ns,trivial,FJ s,Sk ac,show NX (nE D s nm off)from RW s nm off,He gs,Pv ps,h⟩
def Y0(ps:List zb):((ps.map λp=>L2.T.lst (p.map dT)).length:Int)=(ps.length:Nat):=by rw[ak]
def JE{R:OT->Prop}(ok:gZ D [nE D s nm off,.int (ps.length:Nat)] R):bN (cA 4) (bN (gF (g1 Qs) (bN (cA 6) iu)) iu) (nX D ns n s ac nm off gs ps x7 x8 x9 dr d6 fq x13) λts=>NXs ts/\gZ D ts R:=by
 show NXs [nE D s nm off,.int ((ps.map λp=>L2.T.lst (p.map dT)).length:Nat)]/\gZ D [nE D s nm off,.int ((ps.map λp=>L2.T.lst (p.map dT)).length:Nat)] R;rw[Y0];exact⟨⟨RW s nm off,trivial,trivial⟩,ok⟩
def JA{R:OT->Prop}(ok:gP D [nE D s nm off,p3 gs,.int (ps.length:Nat)] R):bN (cA 4) (bN (cA 5) (bN (gF (g1 Qs) (bN (cA 6) iu)) iu)) (nX D ns n s ac nm off gs ps x7 x8 x9 dr d6 fq x13) λts=>NXs ts/\gP D ts R:=by
 show NXs [nE D s nm off,p3 gs,.int ((ps.map λp=>L2.T.lst (p.map dT)).length:Nat)]/\gP D [nE D s nm off,p3 gs,.int ((ps.map λp=>L2.T.lst (p.map dT)).length:Nat)] R;rw[Y0];exact⟨⟨RW s nm off,He gs,trivial,trivial⟩,ok⟩
def u8{K:Frag}{H1:Hp}{T:TS}{E:Ends}(M:Md s n ac nm off gs ps)(dis:D.T_goal_rounds≠D.T_best_rounds/\D.T_plan_rounds≠D.T_best_rounds/\D.T_plan_rounds≠D.T_goal_rounds)(h1:SR K own H1 σ (nX D ns n s ac nm off gs ps .und .und .und .und .und .und .und))(i4:∀Pt∈[D.T_best_rounds,D.T_goal_rounds,D.T_plan_rounds],H1 Pt=some (.tbl #[]))
 (k:∀ae aS H3 σ3,ae.length=ps.length+1->RdN (replicate off.length 0) (pf s off) ae->aS.length=ps.length+1->RdN (oR (ng nm.length gs)) (p6 (ng nm.length gs) off) aS->H3 D.T_plan_rounds=some (.tbl #[])->SR K (λ_=>[]) H3 σ3 (nX D ns n s ac nm off gs ps (.fz (.lst (ae.map l_))) (.fz (.lst (aS.map l_))) .und .und .und .und .und)->T E σ3 H3) :
  BK (LR (Ey K D.T_best_rounds (pc rV) (oC dg) (gZ D) (bN (cA 4) (bN (gF (g1 Qs) (bN (cA 6) iu)) iu))) (qF 7)) (BK (LR (Ey K D.T_goal_rounds (pc rS) (oC dh) (gP D) (bN (cA 4) (bN (cA 5) (bN (gF (g1 Qs) (bN (cA 6) iu)) iu)))) (qF 8)) T) E σ H1:=by
 refine Io ?_;refine Ep (oc:=none) h1 (Ss ⟨trivial,trivial,trivial,trivial,trivial,trivial,trivial,trivial⟩) (i4 _ xF) (λx=>∃ae,x=.l1 (ae.map l_)/\ae.length=ps.length+1/\RdN (replicate off.length 0) (pf s off) ae) (JE ⟨s,nm,off,ps.length,rfl,M.h,by have:=M.pl;exact aK this xa,M.rB,λae l rd=>⟨ae,rfl,l,rd⟩⟩) (UV rfl) ?_;rintro H2 v2 c2 _ ⟨ae,rfl,yl,ry⟩ S2 c5 h2;have lP:=om S2 dis.1 (i4 _ xF);have hp2:=om S2 dis.2.1 (i4 _ xF)
 replace h2:SR K (λ_=>[]) H2 (σ.set 7 (some v2)) (nX D ns n s ac nm off gs ps (.fz (.lst (ae.map l_))) .und .und .und .und .und .und):=h2
 refine Io ?_;refine Ep (oc:=none) h2 (Ss ⟨rK ae,trivial,trivial,trivial,trivial,trivial,trivial,trivial⟩) lP (λx=>∃ae,x=.l1 (ae.map l_)/\ae.length=ps.length+1/\RdN (oR (ng nm.length gs)) (p6 (ng nm.length gs) off) ae) (JA ⟨s,nm,off,gs,ps.length,rfl,M.h,by rw[M.nl];exact M.g,by have:=M.pl;exact aK this xa,M.rG,λae l rd=>⟨ae,rfl,l,rd⟩⟩) (UV rfl) ?_;rintro H3 v3 c3 _ ⟨aS,rfl,gl,rg⟩ S3 kN h3;exact k ae aS H3 _ yl ry gl rg (om S3 dis.2.2 hp2) h3
end
section
variable{ns:zS}{n:Nat}{s:Rat}{ac:zr}{nm:Θ}{off:zn}{gs:zD}{ps:List zb}{ae aS:xi}{x7 x8 x9 dr d6 fq x13:OT}
def IZ(M:Md s n ac nm off gs ps)(yl:ae.length=ps.length+1)(gl:aS.length=ps.length+1)(ky:∀ys∈ae,ys.length=n)(kg:∀ys∈aS,ys.length=n)(q:E.nx (nX D ns n s ac nm off gs ps (.fz (.lst (ae.map l_))) (.fz (.lst (aS.map l_))) (.fz (l_ (replicate n 0))) (.fz (l_ (replicate n 0))) (.fz (l_ (oR (ng n gs)))) fq x13)) :
  i_ (i_ (i_ (Ox (t6 (Fl (Di (gF iV (bN (cA 7) (bN (gF (g1 Qs) (bN (cA 6) iu)) (bN (cA 1) iu)))))) (Fl (Di (gF iV (bN (cA 8) (bN (gF (g1 Qs) (bN (cA 6) iu)) (bN (cA 1) iu))))))) (Te (rC (L2.T.bl false))) Hw) (E_ 9 (nL yi (Yo (bN (Xa (bN (rC (L2.T.int 0)) (bN (rC (L2.T.int 1)) iu))) iu)) (cA 1)))) (E_ 10 (nL yi (Yo (bN (Xa (bN (rC (L2.T.int 0)) (bN (rC (L2.T.int 1)) iu))) iu)) (cA 1)))) (E_ 11 (YQ (FC (bN (cA 1) iu)) 1 (hName 0) ES (Xa (bN (gF (g1 A3) (bN (nL (vz false) (cA 0) (cA 6)) iu)) (bN (rC (L2.T.int 1)) iu))))) E (nX D ns n s ac nm off gs ps (.fz (.lst (ae.map l_))) (.fz (.lst (aS.map l_))) x9 dr d6 fq x13):=by
 refine⟨ae,ps.length,n,by rw[<- Y0];rfl,yl,ky,by have:=M.n2;exact aK this xa,by have:=M.pl;exact aK this xa,?_⟩;refine⟨aS,ps.length,n,by rw[<- Y0];rfl,gl,kg,by have:=M.n2;exact aK this xa,by have:=M.pl;exact aK this xa,?_⟩;have n2:=M.n2;have rep:(replicate ((n:Nat):Int).toNat [L2.T.tup [.int 0,.int 1]]).flatten=(replicate n (0:Rat)).map a_:=by
  rw[map_replicate,UT,QP]
  rfl
 have le : [L2.T.tup [.int 0,.int 1]].length*((n:Nat):Int).toNat<=sizeLine:=aK (show 1*_<=12 by lia) xa;refine⟨⟨by lia,by lia,le⟩,λz ez=>?_⟩;obtain rfl:z=_:=ez.trans rep;refine⟨⟨by lia,by lia,le⟩,λz ez=>?_⟩;obtain rfl:z=_:=ez.trans rep;refine⟨⟨by lia,by lia⟩,?_⟩;show(rng 0 ((n:Nat):Int).toNat).length<=sizeLine/\iw _ _ _ _ (rng 0 ((n:Nat):Int).toNat) _;rw[UT];refine⟨by rw[rng,ak,W1];exact aK n2 xa,QJ (λk=>a_ (if k∈gs then 1 else 0)) n (λk hk N M' hN=>?_) ?_⟩
 .refine⟨oP k,gs.map oP,rfl,Y6 gs,rfl,q_.lst gs,?_⟩;rw[JC];by_cases g:k∈gs
  .rw[show si gs k=true from Zs g];rw[ZY g]at hN;exact hN
  .rw[show si gs k=false from Zp g];rw[ZZ g]at hN;exact hN
 have e:(range n).map (λk=>a_ (if k∈gs then 1 else 0))=(oR (ng n gs)).map a_:=by
  unfold oR ng si;rw[WU,WU];refine Th λk _=>?_;show a_ (if k∈gs then 1 else 0)=a_ (if decide (k∈gs)=true then 1 else 0);by_cases g:k∈gs
  .rw[ZY g,ZY (Zs g)]
  .rw[ZZ g,ZZ (by rw[Zp g];decide)]
 rwa[e]
section
variable{k:Nat}{p:zb}{ay ax az:zo}
def Md.b(M:Md s n ac nm off gs ps)(hk:k<=ps.length){ys:zo}(h:YsK ((7*n+2)*k) ys):YsB ys:=h.b (aK (M.e hk) xa)
def IY(M:Md s n ac nm off gs ps)(ry:RdN (replicate off.length 0) (pf s off) ae)(tn:Tn s n ae aS k ay ax az)(ep:ps[k]?=some p)(q:∀pl,TkB s ac (λj=>ax.getD j 0) pl->E.nx (nX D ns n s ac nm off gs ps (.fz (.lst (ae.map l_))) x8 (.fz (l_ (jt s n ac p ay))) (.fz (l_ (jt s n ac pl ax))) (.fz (l_ (o0 n ac p gs az))) (.fz (.int (k:Nat))) x13)) :
  i_ (i_ (E_ 9 (gF qD (bN (cA 2) (bN (cA 3) (bN (nL oQ (cA 6) (cA 12)) (bN (cA 9) iu)))))) (E_ 11 (gF yI (bN (cA 3) (bN (nL oQ (cA 6) (cA 12)) (bN (cA 5) (bN (cA 11) iu))))))) (E_ 10 (gF qD (bN (cA 2) (bN (cA 3) (bN (gF yZ (bN (cA 2) (bN (cA 3) (bN (nL oQ (cA 7) (cA 12)) iu)))) (bN (cA 10) iu)))))) E (nX D ns n s ac nm off gs ps (.fz (.lst (ae.map l_))) x8 (.fz (l_ ay)) (.fz (l_ ax)) (.fz (l_ az)) (.fz (.int (k:Nat))) x13):=by
 have kl:k<=ps.length:=Y2 (ao.mp ep).1;have hp:=M.p p (aB ep);have n2:n<=100:=aK M.n2 xa;obtain⟨ml,mk⟩:=M.kB ry k ax tn.m;have mb:=M.b kl mk;refine⟨_,eU ep,s,n,3,ac,p,ay,rfl,M.hs,M.hd,n2,hp,tn.pk.1,M.b kl tn.pk.2,?_⟩;refine⟨_,eU ep,n,3,ac,p,gs,az,rfl,M.hd,n2,aK M.gl xa,hp,tn.ck.1,M.b kl tn.ck.2,?_⟩;exact⟨_,eU tn.m,s,n,3,ac,ax,rfl,M.hs,M.hd,n2,by decide,ml,mb,λpl t=>⟨s,n,3,ac,pl,ax,rfl,M.hs,M.hd,n2,W0 t,ml,mb,q pl t⟩⟩
def Jn{R:OT->Prop}(ep:ps[k]?=some p)(ok:g_ D [nE D s nm off,.lst (p.map dT),.int ((k+1:Nat):Int)] R):bN (cA 4) (bN (nL oQ (cA 6) (cA 12)) (bN (nL Ay (cA 12) (rC (L2.T.int 1))) iu)) (nX D ns n s ac nm off gs ps x7 x8 x9 dr d6 (.fz (.int (k:Nat))) x13) λts=>NXs ts/\g_ D ts R:=by
 refine⟨_,eU ep,⟨RW s nm off,HQ p,trivial,trivial⟩,?_⟩;show g_ D [nE D s nm off,.lst (p.map dT),.int ((k:Nat)+1:Int)] R;rw[show((k:Nat)+1:Int)=((k+1:Nat):Int)by lia];exact ok
def IX(M:Md s n ac nm off gs ps)(ry:RdN (replicate off.length 0) (pf s off) ae)(rg:RdN (oR (ng nm.length gs)) (p6 (ng nm.length gs) off) aS)(yl:ae.length=ps.length+1)(gl:aS.length=ps.length+1)(tn:Tn s n ae aS (k+1) ay ax az)(ep:ps[k]?=some p){dt:xi}(ro:RdN (replicate off.length 0) (sL s (ox off p)) dt)(ol:dt.length=k+1+1)(q:E.nx (nX D ns n s ac nm off gs ps (.fz (.lst (ae.map l_))) (.fz (.lst (aS.map l_))) (.fz (l_ ay)) dr (.fz (l_ az)) (.fz (.int (k:Nat))) (.fz (.lst (dt.map l_))))) :
  i_ (Ox (t6 (Fl (Di (gF eZ (bN (cA 9) (bN (nL oQ (cA 7) (nL Ay (cA 12) (rC (L2.T.int 1)))) iu))))) (Fl (Di (gF eZ (bN (cA 11) (bN (nL oQ (cA 8) (nL Ay (cA 12) (rC (L2.T.int 1)))) iu)))))) (Te (rC (L2.T.bl false))) Hw) (Ox (t6 (Fl (Di (gF iV (bN (cA 13) (bN (nL Ay (cA 12) (rC (L2.T.int 1))) (bN (cA 1) iu)))))) (Fl (Di (gF eZ (bN (nL oQ (cA 13) (nL Ay (cA 12) (rC (L2.T.int 1)))) (bN (nL oQ (cA 7) (nL Ay (cA 12) (rC (L2.T.int 1)))) iu)))))) (Te (rC (L2.T.bl false))) Hw) E (nX D ns n s ac nm off gs ps (.fz (.lst (ae.map l_))) (.fz (.lst (aS.map l_))) (.fz (l_ ay)) dr (.fz (l_ az)) (.fz (.int (k:Nat))) (.fz (.lst (dt.map l_)))):=by
 have kl:k+1<=ps.length:=(ao.mp ep).1;have hp:=M.p p (aB ep);have n2:n<=100:=aK M.n2 xa;have c2:(k:Nat)+(1:Int)=((k+1:Nat):Int):=by lia
 have ix:∀{hU:xi}{xs:zo},hU[k+1]?=some xs->n5 (hU.map l_) ((k:Nat)+(1:Int))=some (l_ xs):=λe=>by rw[c2];exact eU e
 have eg:=aj (show k+1<aS.length by lia);have eo:=aj (show k+1<dt.length by lia);obtain⟨ml,mk⟩:=M.kB ry _ _ tn.m;obtain⟨gl',gk⟩:=M.kG rg _ _ eg;obtain⟨ol',ok⟩:=M.kP hp ro _ _ eo;refine⟨_,ix tn.m,n,ay,ax,rfl,tn.pk.1,ml,n2,M.b kl tn.pk.2,M.b kl mk,tn.pl _ tn.m,?_⟩;refine⟨_,ix eg,n,az,_,rfl,tn.ck.1,gl',n2,M.b kl tn.ck.2,M.b kl gk,tn.cl _ eg,?_⟩;refine⟨dt,k+1,n,by rw[<- c2];rfl,ol,λys hy=>?_,by exact aK n2 xa,by have:=M.pl;lia,?_⟩
 .obtain⟨j,ej⟩:=aU hy;exact(M.kP hp ro j ys ej).1
 exact⟨_,ix eo,_,ix tn.m,n,_,ax,rfl,ol',ml,n2,M.b kl ok,M.b kl mk,Wu M.hs.lo M.hd M.ho hp ro ry _ _ _ eo tn.m,q⟩
def Xo{K:Frag}(h:SR K own H σ o)(sh:ShA o):SR K (λ_=>[]) H σ o:=MJ h (λ_ _ _ _ e=>e) h.len λj x e=>(sh.at_ e).imp id λhP=>by obtain⟨t,et,nx⟩:=hP;exact⟨t,et,.inl ⟨nx,e,rfl⟩⟩
def PU{K:Frag}(h:SR K (λ_=>[]) H σ (nX D ns n s ac nm off gs ps x7 x8 x9 dr d6 .und x13))(sh:ShA (nX D ns n s ac nm off gs ps x7 x8 x9 dr d6 .und x13)):SR K (λ_=>[]) H (σ.set 12 (some (.int (k:Nat)))) (nX D ns n s ac nm off gs ps x7 x8 x9 dr d6 (.fz (.int (k:Nat))) x13):=by
 have ls:12<σ.length:=by rw[<- h.len];exact UV rfl
 refine MJ h (λ_ _ _ _ e=>e) (by rw[VZ,<- h.len];rfl) λj x e=>?_;by_cases c:j=12
 .subst c;cases e;exact .inr ⟨_,rfl,.inr ⟨_,UZ ls,.int _⟩⟩
 .have e':(nX D ns n s ac nm off gs ps x7 x8 x9 dr d6 .und x13)[j]?=some x:=by
   match j,e,c with
   |0,e,_|1,e,_|2,e,_|3,e,_|4,e,_|5,e,_|6,e,_|7,e,_|8,e,_|9,e,_|10,e,_|11,e,_|13,e,_=>exact e
   |12,_,c=>exact absurd rfl c
   |_+14,e,_=>cases e
  exact(sh.at_ e').imp id λ⟨t,et,nx⟩=>⟨t,et,.inl ⟨nx,e',Up λz=>c z.symm⟩⟩
def ph{X:Cx}{E:Ends}{oc:Ω}(M:Md s n ac nm off gs ps)(ry:RdN (replicate off.length 0) (pf s off) ae)(rg:RdN (oR (ng nm.length gs)) (p6 (ng nm.length gs) off) aS)(yl:ae.length=ps.length+1)(gl:aS.length=ps.length+1)(tn:Tn s n ae aS k ay ax az)(ep:ps[k]?=some p)(h:SR X.K (λ_=>[]) H σ (nX D ns n s ac nm off gs ps (.fz (.lst (ae.map l_))) (.fz (.lst (aS.map l_))) (.fz (l_ ay)) (.fz (l_ ax)) (.fz (l_ az)) (.fz (.int (k:Nat))) .und))(la:jJ D.T_plan_rounds (pc o6) (oC cB) H oc)
 (kt:∀H' σ' c ay ax az,SR X.K (λ_=>[]) H' σ' (nX D ns n s ac nm off gs ps (.fz (.lst (ae.map l_))) (.fz (.lst (aS.map l_))) (.fz (l_ ay)) (.fz (l_ ax)) (.fz (l_ az)) .und .und)->jJ D.T_plan_rounds (pc o6) (oC cB) H' (some c)->Tn s n ae aS (k+1) ay ax az->E.nx σ' H') :
  BK (rj X (E_ 9 (gF qD (bN (cA 2) (bN (cA 3) (bN (nL oQ (cA 6) (cA 12)) (bN (cA 9) iu))))))) (BK (rj X (E_ 11 (gF yI (bN (cA 3) (bN (nL oQ (cA 6) (cA 12)) (bN (cA 5) (bN (cA 11) iu))))))) (BK (rj X (E_ 10 (gF qD (bN (cA 2) (bN (cA 3) (bN (gF yZ (bN (cA 2) (bN (cA 3) (bN (nL oQ (cA 7) (cA 12)) iu)))) (bN (cA 10) iu))))))) (BK (LR (Ey X.K D.T_plan_rounds (pc o6) (oC cB) (g_ D) (bN (cA 4) (bN (nL oQ (cA 6) (cA 12)) (bN (nL Ay (cA 12) (rC (L2.T.int 1))) iu)))) (qF 13))
   (rj X (i_ (Ox (t6 (Fl (Di (gF eZ (bN (cA 9) (bN (nL oQ (cA 7) (nL Ay (cA 12) (rC (L2.T.int 1)))) iu))))) (Fl (Di (gF eZ (bN (cA 11) (bN (nL oQ (cA 8) (nL Ay (cA 12) (rC (L2.T.int 1)))) iu)))))) (Te (rC (L2.T.bl false))) Hw) (Ox (t6 (Fl (Di (gF iV (bN (cA 13) (bN (nL Ay (cA 12) (rC (L2.T.int 1))) (bN (cA 1) iu)))))) (Fl (Di (gF eZ (bN (nL oQ (cA 13) (nL Ay (cA 12) (rC (L2.T.int 1)))) (bN (nL oQ (cA 7) (nL Ay (cA 12) (rC (L2.T.int 1)))) iu)))))) (Te (rC (L2.T.bl false))) Hw)))))) E σ H:=by
 have kl:=(ao.mp ep).1;have hp:=M.p p (aB ep);have pl:=M.pl;refine wL (wL ?_);refine⟨λ_=>[],_,{ nx:=λo=>∃ay ax az,o=nX D ns n s ac nm off gs ps (.fz (.lst (ae.map l_))) (.fz (.lst (aS.map l_))) (.fz (l_ ay)) (.fz (l_ ax)) (.fz (l_ az)) (.fz (.int (k:Nat))) .und/\Tn s n ae aS (k+1) ay ax az,rt:=λ_=>False },h,IY M ry tn ep λq t=>⟨_,_,_,rfl,tn.next M ry rg hp t xB xB⟩,⟨?_,λ_ _ _ _ _ z=>z.elim,λ_ _ _ _ z=>z.elim,λ_ _ _ _ z=>z.elim,λ_ _ _ _ _ _ z=>z.elim⟩⟩;rintro own H1 σ1 _ ⟨ay,ax,az,rfl,tn⟩ S1 h1;rw[j_]at S1;have eh:=la.same (S1.trans cF);refine Io ?_;refine Ep (i:=13) h1 (Ss ⟨rK ae,rK aS,qI _,qI _,qI _,trivial,trivial,trivial⟩) eh (λx=>∃dt,x=.l1 (dt.map l_)/\dt.length=k+1+1/\RdN (replicate off.length 0) (sL s (ox off p)) dt) (Jn ep ⟨s,nm,off,p,k+1,rfl,M.h,QF M.ho hp,by lia,M.rP hp kl,λdt l r=>⟨dt,rfl,l,r⟩⟩) (UV rfl) ?_;rintro H2 v c _ ⟨dt,rfl,ol,ro⟩ S2 c5 h2
 replace h2:SR X.K (λ_=>[]) H2 (σ1.set 13 (some v)) (nX D ns n s ac nm off gs ps (.fz (.lst (ae.map l_))) (.fz (.lst (aS.map l_))) (.fz (l_ ay)) (.fz (l_ ax)) (.fz (l_ az)) (.fz (.int (k:Nat))) (.fz (.lst (dt.map l_)))):=h2
 refine⟨λ_=>[],_,{ nx:=λo=>o=nX D ns n s ac nm off gs ps (.fz (.lst (ae.map l_))) (.fz (.lst (aS.map l_))) (.fz (l_ ay)) (.fz (l_ ax)) (.fz (l_ az)) (.fz (.int (k:Nat))) (.fz (.lst (dt.map l_))),rt:=λ_=>False },h2,IX M ry rg yl gl tn ep ro ol rfl,⟨?_,λ_ _ _ _ _ z=>z.elim,λ_ _ _ _ z=>z.elim,λ_ _ _ _ z=>z.elim,λ_ _ _ _ _ _ z=>z.elim⟩⟩;rintro ee H3 σ3 _ rfl S3 h3;rw[j_]at S3;refine kt H3 σ3 c ay ax az (MJ h3 (λ_ _ _ _ e=>e) h3.len λj x e=>?_) (c5.same (S3.trans cF)) tn;have sh:ShA (nX D ns n s ac nm off gs ps (.fz (.lst (ae.map l_))) (.fz (.lst (aS.map l_))) (.fz (l_ ay)) (.fz (l_ ax)) (.fz (l_ az)) .und .und):=Ss ⟨rK ae,rK aS,qI _,qI _,qI _,trivial,trivial,trivial⟩;rcases sh.at_ e with rfl|⟨t,rfl,nx⟩
 .exact .inl rfl
 .refine .inr ⟨t,rfl,.inl ⟨nx,?_,rfl⟩⟩
  match j,e with
  |0,e|1,e|2,e|3,e|4,e|5,e|6,e|7,e|8,e|9,e|10,e|11,e=>exact e
  |12,e|13,e|_+14,e=>cases e
end
end
def rD(r:Rat):PyData:=.tuple [.int r.num,.int r.den]
def YA:EqD a_ rD:=⟨λ_=>rfl,λ_=>rfl,λr=>by unfold rD PyData.depth PyData.depthAll PyData.depthAll PyData.depthAll PyData.depth;decide,λx y=>by
 unfold rD;rw[HM,<- Bool.decide_and];exact decide_eq_decide.mpr ⟨λz=>Rat.ext z.1 (by have:=z.2;lia),λz=>by rw[z];exact⟨rfl,rfl⟩⟩⟩
def P4(F:Fun K Kq Kq Dm f fd)(T:Txt K mg D)(qd:c_ P w K mg base 1 zu vH Le)(Qn:c_ P w K mg base 2 Cp zJ pV)(Jg:c_ P w K mg base 3 xP ug Oe)(Jf:c_ P w K mg base 5 zP tY Lr)(Qc:c_ P w K mg base 9 Ci zU (RN D))(dj:c_ P w K mg base 1 iQ gM kZ)(Ed:c_ P w K mg base 2 vq qu Hx)(p8:p9 P w K mg base 8 dg gR (vQ K D.T_best_rounds (pc rV) (oC dg) (gZ D)))(ql:p9 P w K mg base 8 dh gU (vQ K D.T_goal_rounds (pc rS) (oC dh) (gP D)))(qg:p9 P w K mg base 8 cB eE (vQ K D.T_plan_rounds (pc o6) (oC cB) (g_ D)))(lF:c_ P w K mg base 4 mW jO iV)(Cq:c_ P w K mg base 3 xO uG qD)(Jx:c_ P w K mg base 3 yO ur yI)(JZ:c_ P w K mg base 2 yS uf yZ)(lM:c_ P w K mg base 2 mZ jT eZ)(dis:D.T_goal_rounds≠D.T_best_rounds/\D.T_plan_rounds≠D.T_best_rounds/\D.T_plan_rounds≠D.T_goal_rounds):bV P w K mg base cp 12 f fd Ke (JR K [D.T_best_rounds,D.T_goal_rounds,D.T_plan_rounds]):=by
 have nd:=uq.nd;refine F.ok uq (λvs H Q E h=>?_) (λaf A outer s0 H vs Q E hr h=>?_)
 .obtain⟨_,_,rfl,_⟩:=h
  rfl
 obtain⟨a,ns,rfl,hs,nl,hT,hQ⟩:=h;refine⟨_,(cL (bL 1 (bH Qn (bw (bH qd (bw xC (bw bx bA))) bA)))
  (cL (bL 2 (bH Jg (bw (bH qd (bw xC (bw bx bA))) (bw nQ bA))))
  (cL (bL 3 (bH Jf (bw xC (bw bx (bw xD (bw nQ bA))))))
  (cL (bL 4 (bH Qc (bw (bH qd (bw xC (bw bx bA))) (bw xL (bw xS bA)))))
  (cL (bL 5 (dO (bF Dm) Ba Ba ["_law_x"] (cG (jj (bH dj (bw (bH qd (bw xC (bw bx bA))) (bw bx bA))) yC (gj (bJ cD (bH qd (bw xC (bw bx bA))) bx)))) (gH (i:=0)) cJ (bJ cD xC xL)))
  (cL (nR (bF Dm) Ba Ba ["_law_cell_here"] (cG (jj xC (gj bx) (gj bx))) (gH (i:=0)) cJ (bH Ed (bw xC (bw (qv 4) bA))) (kh (i:=6) uq.nd rfl (Or.inl rfl)))
  (cL (cT (cM M9 xD bx)
  (bG (bL 6 (jj (qv 6) yC (gj bx))))
  bU)
  (cL (DQ (i:=7) uq.nd rfl (Or.inl rfl) (DY p8 hr.md (by rfl) (bw (qv 4) (bw (bQ eG T.fJ WJ (bw (qv 6) bA)) bA))))
  (cL (DQ (i:=8) uq.nd rfl (Or.inl rfl) (DY ql hr.md (by rfl) (bw (qv 4) (bw (qv 5) (bw (bQ eG T.fJ WJ (bw (qv 6) bA)) bA)))))
  (cL (cT (QW.qt (ji (dD (cR (bH lF (bw (qv 7) (bw (bQ eG T.fJ WJ (bw (qv 6) bA)) (bw xD bA)))))) (gn (dD (cR (bH lF (bw (qv 8) (bw (bQ eG T.fJ WJ (bw (qv 6) bA)) (bw xD bA)))))))))
  (bG (bT nQ))
  bU)
  (cL (bL 9 (bJ cI (dN (bw (cZ (bw bx (bw bx bA))) bA)) xD))
  (cL (bL 10 (bJ cI (dN (bw (cZ (bw bx (bw bx bA))) bA)) xD))
  (cL (nR (bF Dm) Ba Ba ["_law_room"] (fW T.jD (bw xD bA)) (gH (i:=0)) cJ (cZ (bw (kY zW T.Bb boot_int (bw (oO (GW hr.units) xC (qv 6) (hm:=by rfl)) bA)) (bw bx bA))) (kh (i:=11) uq.nd rfl (Or.inl rfl)))
  (cL (U6 PassesOwn.never rfl (Hv (by rfl) T.jD (eX (Eb Uh (by rfl) T.fJ WJ (eX (pv 6) pQ)) pQ).mono) (kh (i:=12) uq.nd rfl (Or.inl rfl))
  (cL (bL 9 (bH Cq (bw xL (bw xS (bw (bI (qv 6) (qv 12)) (bw (qv 9) bA))))))
  (cL (bL 11 (bH Jx (bw xS (bw (bI (qv 6) (qv 12)) (bw (qv 5) (bw (qv 11) bA))))))
  (cL (bL 10 (bH Cq (bw xL (bw xS (bw (bH JZ (bw xL (bw xS (bw (bI (qv 7) (qv 12)) bA)))) (bw (qv 10) bA))))))
  (cL (DQ (i:=13) uq.nd rfl (Or.inl rfl) (DY qg hr.md (by rfl) (bw (qv 4) (bw (bI (qv 6) (qv 12)) (bw (bJ cN (qv 12) bx) bA)))))
  (bC (cT (QW.qt (ji (dD (cR (bH lM (bw (qv 9) (bw (bI (qv 7) (bJ cN (qv 12) bx)) bA))))) (gn (dD (cR (bH lM (bw (qv 11) (bw (bI (qv 8) (bJ cN (qv 12) bx)) bA))))))))
  (bG (bT nQ))
  bU)
  (bG (cT (QW.qt (ji (dD (cR (bH lF (bw (qv 13) (bw (bJ cN (qv 12) bx) (bw xD bA)))))) (gn (dD (cR (bH lM (bw (bI (qv 13) (bJ cN (qv 12) bx)) (bw (bI (qv 7) (bJ cN (qv 12) bx)) bA))))))))
  (bG (bT nQ))
  bU))))))))
  (bG (bT (oO (yY hr.units) (qv 10) (bI (qv 7) (bQ eG T.fJ WJ (bw (qv 6) bA)))))))))))))))))))),?_⟩
 refine wL (wL (wL (wL (wL (wL ?_)))));refine⟨λ_=>[],_,{ nx:=λo=>∃(n:Nat)(s:Rat)(ac:zr)(nm:Θ)(off:zn)(gs:zD)(ps:List zb),o=nX D ns n s ac nm off gs ps .und .und .und .und .und .und .und/\Md s n ac nm off gs ps,rt:=λ_=>False },SR.start (.cons (.scr hs (z_ ns)) .nil) Ba,?_,⟨?_,λ_ _ _ _ _ z=>z.elim,λ_ _ _ _ z=>z.elim,λ_ _ _ _ z=>z.elim,λ_ _ _ _ _ _ z=>z.elim⟩⟩
 .refine⟨ns,0,rfl,by exact aK nl xa,_,rfl,λn n1 n2=>⟨ns,2,rfl,by exact aK nl xa,_,rfl,λs hs=>⟨ns,5,n,rfl,by exact aK nl xa,by exact aK n2 xa,λac hd=>?_⟩⟩⟩;dsimp only;rw[Z2];refine⟨ns,1,rfl,by exact aK nl xa,_,s,n,3,ac,rfl,hs,hd,by exact aK n2 xa,by decide,λnm off hn hok ho=>?_⟩;refine⟨ns,3,rfl,by exact aK nl xa,_,4,rfl,by decide,?_⟩;refine⟨ns,4,rfl,by exact aK nl xa,by decide,?_⟩;show(fH ((iZ (ns.getD 3 0) 4).map L2.T.int) none (some (ns.getD 4 0%5))).length<=sizeLine/\iw _ _ _ _ (fH ((iZ (ns.getD 3 0) 4).map L2.T.int) none (some (ns.getD 4 0%5))) _;generalize ns.getD 4 0%5=u;rw[pN];have l4:(fH (iZ (ns.getD 3 0) 4) none (some u)).length<=4:=by
   unfold fH;rw[aX,US];have:(iZ (ns.getD 3 0) 4).length=4:=rfl;lia
  generalize fH (iZ (ns.getD 3 0) 4) none (some u)=gl at l4 ⊢;refine⟨by rw[ak];exact aK l4 xa,comp_map L2.T.int (λx:Int=>.int (x%((n:Nat):Int))) _ (λx _ N M hN=>⟨by lia,hN⟩) ?_⟩;have e:gl.map (λx:Int=>L2.T.int (x%((n:Nat):Int)))=(gl.map λx:Int=>(x%((n:Nat):Int)).toNat).map sF:=by
   rw[WU];refine Th λx _=>?_;show L2.T.int _=L2.T.int _;rw[JP (Z3 _ xB)]
  rw[e];have hg:∀g∈(gl.map λx:Int=>(x%((n:Nat):Int)).toNat),g<n:=λg hg=>by
   obtain⟨x,_,rfl⟩:=YV.mp hg;have:=YY x (show(0:Int)<(n:Nat)by lia);have:=Z3 x (show((n:Nat):Int)≠0 by lia);lia
  have lv:(gl.map λx:Int=>(x%((n:Nat):Int)).toNat).length<=4:=by rwa[ak]
  generalize(gl.map λx:Int=>(x%((n:Nat):Int)).toNat)=gs at hg lv ⊢;show(fH (ns.map L2.T.int) (some 30) (some 36)).length<=sizeLine/\iw _ _ _ _ (fH (ns.map L2.T.int) (some 30) (some 36)) _;rw[pN];have l6:(fH ns (some 30) (some 36)).length<=6:=by
   unfold fH;rw[aX,US];have a:HT.sIx ns.length 0 (some 30)=min 30 ns.length:=by simp[HT.sIx]
   have b:HT.sIx ns.length ns.length (some 36)=min 36 ns.length:=by simp[HT.sIx]
   omega
  generalize fH ns (some 30) (some 36)=cs at l6 ⊢;refine⟨by rw[ak];exact aK l6 xa,Fq L2.T.int (λ_ t=>∃p:zb,PlD ac p/\t=.lst (p.map dT)) cs (λx _ N M hN=>⟨x,ac,rfl,by have:=hd.len;lia,λp hp=>hN _ ⟨p,hp,rfl⟩⟩) λts al=>?_⟩;obtain⟨ps,rfl,hp⟩ : ∃ps:List zb,ts=ps.map (λp=>L2.T.lst (p.map dT))/\∀p∈ps,PlD ac p:=by
   have:=zK al
   clear this
   induction al with
   |nil=>exact⟨[],rfl,λ_ z=>(nomatch z)⟩
   |cons r _ ih =>
    obtain⟨p,hp,rfl⟩:=r;obtain⟨ps,rfl,h⟩:=ih (by simp at l6;exact aK l6 xa);exact⟨p::ps,rfl,λx hx=>by rcases YU.mp hx with rfl|hx;exact hp;exact h x hx⟩
  have pl:ps.length<=6:=by have:=zK al;rw[ak]at this;exact aK (WS this) l6
  refine pS (λh=>?_) λh=>?_
  .have h:4<n:=by lia
   have ec:fH (ps.map λp=>L2.T.lst (p.map dT)) none (some 2)=(ps.take 2).map λp=>L2.T.lst (p.map dT):=by
    rw[pN];unfold fH;have b:HT.sIx (ps.length:Nat) ps.length (some 2)=min 2 ps.length:=by simp[HT.sIx]
    have a:HT.sIx ps.length 0 none=0:=rfl;rw[a,b];simp
   have l2:(ps.take 2).length<=2:=by rw[aX];exact Nat.min_le_left _ _
   refine⟨n,s,ac,nm,off,gs,ps.take 2,?_,hs,hd,n1,n2,hok,ho,hg,lv,λp h=>hp p (QR h),by exact aK l2 xa,?_⟩
   .rw[nX,<- ec]
    rfl
   .exact aK (WG (show 7*n+2<=86 by lia) l2) xa
  .have h:n<=4:=by lia
   exact⟨n,s,ac,nm,off,gs,ps,rfl,hs,hd,n1,n2,hok,ho,hg,lv,hp,pl,aK (WG (show 7*n+2<=30 by lia) pl) xa⟩
 .rintro own H1 σ _ ⟨n,s,ac,nm,off,gs,ps,rfl,M⟩ S1 h1;have i4:∀Pt∈[D.T_best_rounds,D.T_goal_rounds,D.T_plan_rounds],H1 Pt=some (.tbl #[]):=λPt hP=>(cW (S1 _ _ (by rw[j_];exact hT Pt hP))).2;refine u8 M dis h1 i4 λae aS H3 σ yl ry gl rg hp3 h3=>?_;refine wL (wL (wL ?_));refine⟨λ_=>[],_,{ nx:=λo=>o=nX D ns n s ac nm off gs ps (.fz (.lst (ae.map l_))) (.fz (.lst (aS.map l_))) (.fz (l_ (replicate n 0))) (.fz (l_ (replicate n 0))) (.fz (l_ (oR (ng n gs)))) .und .und,rt:=λ_=>False },h3,IZ M yl gl (λys hy=>?_) (λys hy=>?_) rfl,⟨?_,λ_ _ _ _ _ z=>z.elim,λ_ _ _ _ z=>z.elim,λ_ _ _ _ z=>z.elim,λ_ _ _ _ _ _ z=>z.elim⟩⟩
  .obtain⟨j,ej⟩:=aU hy;exact(M.kB ry j ys ej).1
  .obtain⟨j,ej⟩:=aU hy;exact(M.kG rg j ys ej).1
  rintro cy H4 σ4 _ rfl S4 h4;rw[j_]at S4;have hp4:jJ D.T_plan_rounds (pc o6) (oC cB) H4 none:=jJ.same (oc:=none) hp3 (S4.trans cF)
  clear S4 h3 hp3
  obtain⟨u6,e6,r6⟩:=h4.get (i:=6) (t:=.lst (ps.map λp=>L2.T.lst (p.map dT))) rfl;obtain⟨a6,xs6,rfl,i6,r6⟩:=r6.lstI;have l6:xs6.length=ps.length:=by rw[r6.len,ak]
  refine Io (SX ⟨_,e6,a6,xs6,rfl,(cW i6).2,ps.length,by rw[l6],by have:=M.pl;exact Y3 this xa,λk σ' H'=>∃(oc:Ω)(ay ax az:zo),SR K (λ_=>[]) H' σ' (nX D ns n s ac nm off gs ps (.fz (.lst (ae.map l_))) (.fz (.lst (aS.map l_))) (.fz (l_ ay)) (.fz (l_ ax)) (.fz (l_ az)) .und .und)/\jJ D.T_plan_rounds (pc o6) (oC cB) H' oc/\Tn s n ae aS k ay ax az,⟨none,_,_,_,Xo h4 (Ss ⟨rK ae,rK aS,qI _,qI _,qI _,trivial,trivial,trivial⟩),hp4,Tn.start M ry rg⟩,?_,?_⟩)
  .rintro k σ' H' hk ⟨oc,ay,ax,az,h,la,tn⟩;exact ph M ry rg yl gl tn (aj hk) (PU (x13:=.und) h (Ss ⟨rK ae,rK aS,qI _,qI _,qI _,trivial,trivial,trivial⟩)) la λd3 σ'' c ay ax az h la tn=>⟨some c,ay,ax,az,h,la,tn⟩
  .rintro σ' H' ⟨oc,ay,ax,az,h,la,tn⟩;refine⟨λ_=>[],_,{ nx:=λ_=>False,rt:=λx=>x=.fz (.bl true) },h,?_,⟨λ_ _ _ _ z=>z.elim,?_,λ_ _ _ _ z=>z.elim,λ_ _ _ _ z=>z.elim,λ_ _ _ _ _ _ z=>z.elim⟩⟩
   .refine⟨_,by rw[ak];exact eU tn.m,?_⟩;refine YA.gEq (neg:=false) (a:=ax) (c:=ax) ?_;rw[Zs rfl]
    rfl
   .rintro S H3 v _ B rfl _ ⟨_,u,eu,ru⟩ _;cases eu;cases ru;exact hQ H3
end
def law_fn{l:PySem.W.OpenLaw}{w:World}{Ts:Φ}(T0:∃D:nr,([D.T_best_rounds,D.T_goal_rounds,D.T_plan_rounds]=Ts/\D.T_goal_rounds≠D.T_best_rounds/\D.T_plan_rounds≠D.T_best_rounds/\D.T_plan_rounds≠D.T_goal_rounds)/\Txt K mg D)(base:Heap)(hB:∀Pt∈Ts,base.BuiltinsAt mg Pt)(f:Addr)(fd:FuncData)(F:Fun K Kq Kq Dm f fd) :
  bV l.prog w K mg base cp 12 f fd Ke (JR K Ts):=by
 obtain⟨D,⟨rfl,dis⟩,T⟩:=T0;have R:∀base:Heap,c_ l.prog w K mg base 5 iT gw (iR D)/\c_ l.prog w K mg base 5 iI gq (iJ D)/\c_ l.prog w K mg base 5 iM gD (jQ D):=λbase=>by
  have o {k:Nat}{n:Str}{st:Stmt}{ps:Θ}{sp:Sp} (h:dG K mg n st ps) (g:∀f fd,Fun K n n st f fd->bV l.prog w K mg base cp k f fd ps sp):p9 l.prog w K mg base k n ps sp:=h.ok g;have i {X:p_}{k:Nat}{n m:Str}{st:Stmt}{ps:Θ}{f:Addr}{sp:Sp} (h:vL K n m st ps f) (g:∀fd,Fun K n m st f fd->bV l.prog w K mg base X k f fd ps sp):OkI l.prog w K mg base X k f ps sp:=h.ok g;have cH:=o T.El λ_ _ F=>A_ F T;have fM:=o T.Hy λ_ _ F=>Dr F T;have fG:=o T.R5 λ_ _ F=>Mz F T cH fM;have wQ:=o T.Xf λ_ _ F=>R8 fG F;have CZ:=o T.ZJ λ_ _ F=>VG fG F;have PJ:=o T.acd λ_ _ F=>Y8 fG F;have kj:=o T.Q8 λ_ _ F=>MP F;have gJ:=o T.QZ λ_ _ F=>M7 F fM;have cu:=i T.zB λ_ F=>yE F T;have c7:=i T.oH λ_ F=>wg F T cH cu;have cQ:=i T.uV λ_ F=>HS F T c7;have iG:=o T.Gm λ_ _ F=>Ew F T gJ fG;have iU:=o T.GJ λ_ _ F=>Eh F T iG wQ CZ;have mJ:=o T.O9 λ_ _ F=>IW F T kj;have jE:=o T.Tj λ_ _ F=>Pb F T PJ;exact⟨o T.Jy λ_ _ F=>G_ F T gJ iU mJ jE cu cQ,o T.J2 λ_ _ F=>Gj F T gJ iU jE,o T.Kl λ_ _ F=>Hi F T gJ iG mJ jE cQ⟩
 have o {k:Nat}{n:Str}{st:Stmt}{ps:Θ}{sp:Sp} (h:dG K mg n st ps) (g:∀f fd,Fun K n n st f fd->bV l.prog w K mg base cp k f fd ps sp):p9 l.prog w K mg base k n ps sp:=h.ok g;have i {X:p_}{k:Nat}{n m:Str}{st:Stmt}{ps:Θ}{f:Addr}{sp:Sp} (h:vL K n m st ps f) (g:∀fd,Fun K n m st f fd->bV l.prog w K mg base X k f fd ps sp):OkI l.prog w K mg base X k f ps sp:=h.ok g;have cH:=o T.El λ_ _ F=>A_ F T;have fM:=o T.Hy λ_ _ F=>Dr F T;have fG:=o T.R5 λ_ _ F=>Mz F T cH fM;have wQ:=o T.Xf λ_ _ F=>R8 fG F;have KJ:=o T.Yl λ_ _ F=>Vc fG F;have gJ:=o T.QZ λ_ _ F=>M7 F fM;have kj:=o T.Q8 λ_ _ F=>MP F;have iz:=o T.Qo λ_ _ F=>MK F T cH fM;have jH:=o T.Ui λ_ _ F=>Qf F T;have jB:=o T.Lh λ_ _ F=>GZ F jH iz;have eN:=o T.xV λ_ _ F=>xH F jH;have h_:=o T.Eo λ_ _ F=>Bv F T iz kj;have J8:=o T.f_total λ_ _ F=>Xm F T gJ fG;have p7:=o T.G9 λ_ _ F=>Fz F T eN h_ J8;have pZ:=o T.Gi λ_ _ F=>Er F T wQ;have lC:=i T.Lf λ_ F=>Jb F T jB;have tO:=i T.Ja λ_ F=>Jh F T lC eN;have eV:=i T.G4 λ_ F=>GD F T lC p7 pZ;have tU:=i T.Iz λ_ F=>KD F T jB h_ KJ eV;have tZ:=i T.J5 λ_ F=>Jj F T eV;have uc:=i T.J1 λ_ F=>J3 F T;have pP:=o T.GF λ_ _ F=>DG F T iz kj;have qQ:=o T.Jc λ_ _ F=>Gg F T jH;have nM:=o T.BP λ_ _ F=>Ah F T uc;have uy:=o T.Nu λ_ _ F=>Je F T nM;have tH:=i T.I9 λ_ F=>Jt F T pP qQ uy;have cu:=i T.zB λ_ F=>yE F T;have c7:=i T.oH λ_ F=>wg F T cH cu;have cQ:=i T.uV λ_ F=>HS F T c7;have Py:=o T.acU λ_ _ F=>WC F T cH;have sy:=o T.Ji λ_ _ F=>Gv F T Py cu cQ;have oZ:=o T.Dv λ_ _ F=>BX F T cQ;have qd:=o T.abO λ_ _ F=>Zu F;have dj:=o T.WR λ_ _ F=>TV F T;have HY:=o T.afy λ_ _ F=>VC F T;have d_:=o T.Vt λ_ _ F=>Tc F HY;have uO:=o T.N_ λ_ _ F=>KY F T HY;have rM:=o T.Kz λ_ _ F=>Gf F T uO;have CV:=o T.YG λ_ _ F=>Xh F T dj;have eY:=o T.Ka λ_ _ F=>G3 F T cH;have rO:=o T.JM λ_ _ F=>Gq F T cu c7;have Jg:=o T.YL λ_ _ F=>XR F T dj d_;have U3:=o T.agg λ_ _ F=>VE F T d_;have Qn:=o T.acY λ_ _ F=>Yd F T dj;have Pj:=o T.abJ λ_ _ F=>Zg F T dj d_ U3;have Jf:=o T.ZQ λ_ _ F=>Wz F T qd dj Pj;have K1:=o T.YJ λ_ _ F=>Xy F T tO eV tU tZ;have Qc:=o T.ach λ_ _ F=>YE F T CV K1 tH;have Ed:=o T.U4 λ_ _ F=>Us F T dj;have p8:p9 l.prog w K mg base 8 dg gR (vQ K D.T_best_rounds _ _ _):=T.Hq.ok λ_ _ _ F hc hC=>Dw F hc hC T (hB _ xF) (λb=>(R b).1) eY cu;have qg:p9 l.prog w K mg base 8 cB eE (vQ K D.T_plan_rounds _ _ _):=T.Gu.ok λ_ _ _ F hc hC=>Ea F hc hC T (hB _ xF) (λb=>(R b).2.1) sy eY oZ cu;have ql:p9 l.prog w K mg base 8 dh gU (vQ K D.T_goal_rounds _ _ _):=T.Gx.ok λ_ _ _ F hc hC=>Dg F hc hC T (hB _ xF) (λb=>(R b).2.2) rO eY;have vK:=o T.aaj λ_ _ F=>Uc F;have ud:=o T.f_look λ_ _ F=>YS F T;have lM:=o T.Ld λ_ _ F=>Gh F T vK;have Cq:=o T.Z4 λ_ _ F=>W5 F T ud d_;have JZ:=o T.Ze λ_ _ F=>Vq F T ud vK;have Jx:=o T.Zb λ_ _ F=>W6 F T (o T.f_look λ_ _ F=>Ng F T) d_;have lF:=o T.Jz λ_ _ F=>Gs F T rM;exact P4 F T qd Qn Jg Jf Qc dj Ed p8 ql qg lF Cq Jx JZ lM dis
end K53
end
open PySem PySem.W PyProof.Rows L2
set_option maxRecDepth 100000 in
set_option maxHeartbeats 0 in
theorem PySem.Challenge.cw_chancehall_k53_whole_within_steps_holds : PySem.Challenge.rw_chancehall_k53_whole_within_steps.Holds := by
 w_on
 refine holds_law H53.wsd λku=>?_;refine holds_open (q:=H53.qv) (loose:=[]) (XP:=XL H53.qv []) (YP:=InK H53.KHT) H53.left (InK.of H53.asK) InK.keeps H53.hX XL.keeps (by rfl) (by rfl) (by rfl) H53.hR (by rfl) ku (by decide +kernel) ⟨rfl,rfl,rfl,rfl,rfl,by decide +kernel⟩ ?hw ?hc
 (case hw=>w_witness2)
 have hkf:PySem.Challenge.rw_chancehall_k53_whole_within_steps=PySem.Challenge.rw_chancehall_k53_whole_within_steps/\H53.KH=H53.KH:=by
  k_fill
  exact⟨rfl,rfl⟩
 clear hkf
 refine L2.ac4 (l:=PySem.Challenge.rw_chancehall_k53_whole_within_steps) (k:=12) (x := "_law_script") [280,294,287] rfl rfl ⟨rfl,by decide,by decide⟩ (λw h Y=>L2.SJ (K:=H53.KH w.params) (o:=L2.Once.fE) (Ts:=[280,294,287]) (show(H53.KH w.params++[(280,L2.Once.fE),(294,L2.Once.fE),(287,L2.Once.fE)]).In h from Y) (L2.abI (by kernel_rfl) (by kernel_rfl) (by kernel_rfl))) (λw=>L2.abI (by kernel_rfl) (by kernel_rfl) (by kernel_rfl)) (λw=>L2.abI ⟨284,by kernel_rfl⟩ ⟨296,by kernel_rfl⟩ ⟨291,by kernel_rfl⟩) ?F
 case F =>
  intro w mg fa h KX G gg;refine⟨K53.Dm,?_,λbase f fd hB F=>K53.law_fn ?T base hB f fd F⟩
  .exact mT
  case T =>
   refine⟨⟨364,385,404,423,440,525,135,136,347,354,382,401,420,437,482,489,510,522,280,287,294⟩,⟨rfl,by decide,by decide,by decide⟩,⟨sQ,sQ,sQ,sQ,sQ,sQ,sQ,sQ,AB,AB,AA,AA,t7,sP,nN,nN,nN,nN,nN,nN,uA,t7,sP,nN,nN,nN,nN,nN,nN,uA,t7,sP,nN,nN,nN,nN,nN,nN,uA,t7,sP,nN,nN,nN,nN,nN,nN,uA,t7,sP,nN,nN,nN,nN,nN,nN,uA,t7,sP,sP,sP,nN,nN,nN,nN,nN,nN,AC,sm,sm,sm,AC,sm,sm,sm,sm,sm,sm,sm,pj,pj,pj,pj,pj,pj,pj,pj,pj,pj,pj,pj,pj,pj,pj,mT,mT,mT,mT,mT,mT,mT,mT,mT,mT,mT,mT,mT,mT,mT,mT,mT,mT,mT,mT,mT,mT,mT,mT,wv 2 λ_ _ _ _ _ _ _ _=>rfl,wv 3 λ_ _ _ _ _ _ _ _ _=>rfl,wv 3 λ_ _ _ _ _ _ _ _ _=>rfl,mT,mT,mT,mT,mT,mT,mT,mT,mT,mT,mT,mT,mT,mT,mT,mT,mT,mT,mT,mT,mT,mT,mT,mT,mT,mT,mT,mT,mT,mT,mT,mT⟩⟩
#print axioms PySem.Challenge.cw_chancehall_k53_whole_within_steps_holds
