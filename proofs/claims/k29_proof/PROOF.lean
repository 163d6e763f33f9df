import PyProof.Rows.All
import Wide.All
import OpenK.AllK
import Wide.FinOn
import Lean
import PyProof.EqAt
import PyProof.EqKinds
import PyProof.TupleCall
import PyProof.EqLayable
import KE.KIntText
import PyProof.EnumMake
import PyProof.EnumStmt
import PyProof.EnumFor
import PyProof.Rows.EnumRows
import PyProof.ExcInit
import PyProof.ExcClass2
import PyProof.InstStoreFacts
import KE.KRevIter
import PySem.Challenge.RW_chancehall_k29_lacks
def aj := @List.getElem?_eq_getElem
def ak := @List.length_map
def ao := @List.getElem?_eq_some_iff
def aq := @List.getElem?_map
def au := @List.getD_eq_getElem?_getD
def aA := @List.length_append
def aC := @List.mem_of_getElem?
def aD := @List.getElem?_append_right
def aF := @List.getElem?_append_left
def aG := @Nat.le_refl
def aH := @PySem.Heap.get?_push_of_some
def aJ := @List.mem_cons_of_mem
def aK := @PySem.Heap.lt_size
def aL := @Nat.le_trans
def aM := @List.getElem?_eq_none
def aN := @List.length_replicate
def aO := @List.mem_cons_self
def aP := @List.mem_append_right
def aQ := @Nat.ne_of_lt
def aR := @Nat.lt_of_lt_of_le
def aU := @List.getElem_mem
def aV := @List.getElem?_of_mem
def aW := @PySem.Heap.get?_push_size
def aX := @List.size_toArray
def aY := @List.length_take
def aZ := @Nat.zero_le
def bf := @List.map_append
def bw := @Bool.false_ne_true
open PySem.W (Frag instObj methodObj hideAll hideAll_get of_hideAll lookIn plainGet hasDictIn findIn handedIn plainGet_of findObj_own isFn plainOver takerIn set_plain looks_clsIn makesIn typeIn emptyDict looks_findIn keepIn specialIn mroIn kitOne kia_one kitx_list kitx_tuple callWith_K methodCall_KW codeIn nsIn mg_of excIn isNs_of_in clsIn looks_mroIn readsIn findCls method_cls cls_value notCls nsOkIn)
section
open PySem PySem.Spec PyProof.Rows
abbrev Γ:=List (Int×Int)
abbrev Δ:=List (Addr×Obj)
abbrev Θ:=List Value
abbrev Φ:=List Str
abbrev Ψ:=List Addr
abbrev Ω:=Option Value
abbrev Ξ:=Option Addr
abbrev Β:=Int×Int
abbrev Ε:=Value->Shared->Prop
def Zs:=@decide_eq_true
def Zp:=@decide_eq_false
def ZZ:=@if_neg
def ZY:=@if_pos
def ZU:=@wpAny_bind
def ZT:=@wpAny_pure
def ZH:=@congrArg
def Z3:=@Int.emod_nonneg
def YY:=@Int.emod_lt_of_pos
def YV:=@List.mem_map
def YU:=@List.mem_cons
def YR:=@List.mem_singleton
def Y1:=@List.mem_append
def Y2:=@Nat.le_of_lt
def Y3:=@Nat.lt_of_le_of_lt
def Xs:=@Nat.le_succ
def XZ:=@Int.mul_pos
def XY:=@Int.le_of_lt
def XX:=@Nat.lt_of_le_of_ne
def XW:=@Bool.false_eq_true
def XV:=@Rat.intCast_mul
def XU:=@Rat.mul_comm
def XT:=@Nat.pow_le_pow_right
def XG:=@Int.natAbs_natCast
def X0:=@List.getElem?_replicate
def X1:=@Nat.lt_succ_self
def X2:=@Nat.le_add_right
def X9:=@Nat.lt_irrefl
def Wp:=@Int.natCast_nonneg
def WZ:=@List.append_assoc
def WV:=@Nat.not_lt_zero
def WU:=@Nat.lt_add_right
def WS:=@Int.ne_of_gt
def WP:=@List.length_range
def WJ:=@List.map_map
def WG:=@PySem.boot_len
def WH:=@Nat.le_of_eq
def W1:=@Nat.mul_le_mul
def VZ:=@Int.natAbs_mul
def VY:=@List.length_set
def VX:=@Nat.pow_add
def VW:=@List.getElem?_range
def VU:=@List.length_zip
def VT:=@Nat.le_of_not_lt
def VS:=@Rat.le_refl
def VQ:=@List.getElem?_set_ne
def Up:=@List.not_mem_nil
def UZ:=@Nat.le_of_lt_succ
def UY:=@Nat.ne_of_gt
def UX:=@List.getElem_map
def UV:=@Nat.le_of_dvd
def UU:=@Nat.min_self
def UT:=@List.getElem?_set_self
def US:=@Nat.one_pos
def UR:=@List.of_mem_zip
def UQ:=@List.map_congr_left
def UP:=@Nat.mul_pos
def UK:=@Nat.mul_le_mul_left
def UH:=@List.mem_append_left
def U1:=@List.length_drop
def U2:=@Nat.lt_trans
def Tu:=@Rat.divInt_eq_div
def Ts:=@Rat.le_trans
def Tk:=@Rat.mul_le_mul_of_nonneg_left
def Th:=@Nat.succ_pos
def TZ:=@Int.natCast_mul
def TW:=@Nat.one_dvd
def TU:=@Nat.le_of_ble_eq_true
def TR:=@Nat.not_lt_of_le
def TK:=@List.length_zipWith
def TH:=@Rat.divInt_add_divInt
def T2:=@List.ext_getElem
def JY:=@Nat.mul_comm
def JU:=@Nat.add_sub_cancel_left
def JS:=@List.drop_eq_nil_of_le
def JP:=@Int.mul_comm
def JJ:=@Int.one_mul
def Qr:=@Rat.divInt_mul_divInt
def QY:=@Rat.zero_divInt
def QU:=@List.getElem_range
def QR:=@Rat.le_of_lt
def QQ:=@Int.lt_of_not_ge
def QP:=@Bool.and_eq_true
def Q1:=@Int.gcd_dvd_right
def Q2:=@Rat.divInt_eq_divInt_iff
def Q3:=@Nat.dvd_trans
def Q4:=@List.mem_of_getLast?
def Zzz:=@List.drop_eq_getElem_cons
def Zzy:=@List.ext_getElem?
def Zzx:=@List.getElem?_zipWith
def Zzw:=@Int.mul_ediv_cancel_left
def Zzv:=@Rat.mul_le_mul_of_nonneg_right
def Zzu:=@Rat.divInt_nonneg
def Zzt:=@List.take_of_length_le
def Zzs:=@Int.fdiv_eq_ediv_of_nonneg
def Zzr:=@List.set_eq_of_length_le
def Zzq:=@Int.gcd_pos_of_ne_zero_right
def Zyz:=@Int.ediv_pos_of_pos_of_dvd
def Zyy:=@Nat.le_mul_of_pos_left
def Zyx:=@Int.eq_ofNat_of_zero_le
end
set_option Elab.async false
set_option linter.all false
set_option maxRecDepth 100000
set_option maxHeartbeats 4000000
namespace L2.Once
noncomputable section
open PySem PySem.W
def z:Pos:=⟨0,0,0,0⟩
def tE:Obj:=⟨.type "tuple",none,.seq ⟨[]⟩ 0,⟨[]⟩⟩
def fE:Obj:=⟨.none,none,.fields ⟨[]⟩,⟨[]⟩⟩
def tN(t:Nat)(l:Φ):Obj:=⟨.type "tuple",none,.seq ⟨(l.zipIdx t).map λx=>.str x.1 x.2⟩ 0,⟨[]⟩⟩
def cO(n q:Str)(t:Nat)(l a f:Int)(r u:Nat):Obj:=⟨.type "code",none,.fields ⟨[.str n t,.str q (t+1),.str "/claim/cut.py" (t+2),.int l 0,.int a 0,.int 0 0,.int 0 0,.int f 0,.ref r,.bool true,.int 181 0,.ref (r+1),.none,.ref (r+2),.ref (r+3),.ref (r+4),.int u 0,.int l 0,.str "/claim/cut.py" (u+1)]⟩,⟨[]⟩⟩
def o11:Obj:={ cls:=.type "tuple",data:=.seq #[] }
def o12:Obj:={ cls:=.none,data:=.fields #[] }
noncomputable def o13:Obj:={ cls:=.type "code",data:=.fields #[.str "<module>" 182,.str "<module>" 183,.str "/claim/cut.py" 184,.int 1 0,.int 0 0,.int 0 0,.int 0 0,.int 0 0,.ref 11,.bool false,.int 181 0,.ref 12,.none,.none,.none,.none,.int 185 0,.int 1 0,.str "/claim/cut.py" 186] }
noncomputable def o14:Obj:={ cls:=.type "frame",slots:=#[some (.ref 13),some (.ref 3),some (.ref 3),none,some (.str "__main__" 164),none,some (.ref 0)] }
def cP(n q:Str)(t:Nat)(l a f:Int)(r u:Nat):Obj:=⟨.type "code",none,.fields ⟨[.str n t,.str q (t+1),.str "/claim/cut.py" (t+2),.int l 0,.int a 0,.int 0 0,.int 0 0,.int f 0,.ref r,.bool true,.int 181 0,.ref (r+1),.none,.none,.none,.ref (r+2),.int u 0,.int l 0,.str "/claim/cut.py" (u+1)]⟩,⟨[]⟩⟩
def dE(P:Params)(x:Str)(t:Nat)(v:Value):DictEntry:=⟨PyData.keyHash P x,.str x t,v⟩
abbrev lf(o:Obj):BT:=.node o .nil .nil
def tr(P:Params):BT:=.node (boot_o_0 P)
 (.node (boot_o_1 P) (.node (boot_o_3 P) (lf (boot_o_7 P)) (lf o11)) (.node (boot_o_5 P) (lf (boot_o_9 P)) (lf o13)))
 (.node (boot_o_2 P) (.node (boot_o_4 P) (lf (boot_o_8 P)) (lf o12)) (.node (boot_o_6 P) (lf (boot_o_10 P)) (lf o14)))
def S0(w:World)(os:OsState):Shared:=⟨boot_heap w.params,Array.mk [],boot_drawn,boot_toks,os⟩
def Sa(w:World)(os:OsState):Shared:=⟨⟨Array.mk [boot_o_0 w.params,boot_o_1 w.params,boot_o_2 w.params,boot_o_3 w.params,boot_o_4 w.params,boot_o_5 w.params,boot_o_6 w.params,boot_o_7 w.params,boot_o_8 w.params,boot_o_9 w.params,boot_o_10 w.params,o11,o12,o13,o14],{}⟩,Array.mk [],{},187,os⟩
def Sb(w:World)(os:OsState):SharedT:=⟨tr w.params,15,{},⟨[]⟩,{},187,os⟩
def env(p:Program):Env:={ scope:=p.main.scope,locals:=mainNs,globals:=mainNs,cells:=[],code:=.ref 13,frame:=some 14 }
def cE(p:Program):Code:=.body (behindTheImports p) (env p)
abbrev ann:Ω:=some (.ref 6)
abbrev B:List Frame:=[topFrame z]
def size(w:World):((boot_heap w.params).isNs mainGlobals&&(Array.mk [] : Array GenState).size==0,(boot_heap w.params).objs.size,(boot_heap w.params).nsMap mainGlobals "__annotations__")=(true,11,ann):=by
 rw[Fast.te8920871248978507458];kernel_rfl
def oY(p:Program)(w:World)(M:Nat)(S:SharedT)(l:List Stmt)(q:Pos)(G:Shared->Prop):Prop:=∃s,topRun treeTable p w 11 ann M S.abs (restOf l (env p) (cE p) q B)=some s/\G s
def oY.cut{p:Program}{w:World}{n M:Nat}{S S':SharedT}{l1 l2:List Stmt}{q q':Pos}{G:Shared->Prop}(h:segRunT treeTable p w 11 ann 1 n S (piecesOf l1 (env p) (cE p) q B)=some (.next,S',cE p,q'))(k:oY p w M S' l2 q' G):oY p w (n+M) S (l1++l2) q G :=
 let⟨s,a,b⟩:=k
 ⟨s,piece_app (segRun_of h) a,b⟩
def oY.cutAt{p:Program}{w:World}{n m M:Nat}{S S':SharedT}{l:List Stmt}{q q':Pos}{G:Shared->Prop}(h:segRunT treeTable p w 11 ann 1 n S (piecesOf (l.take m) (env p) (cE p) q B)=some (.next,S',cE p,q'))(k:oY p w M S' (l.drop m) q' G):oY p w (n+M) S l q G:=by
 have:=oY.cut h k;rwa[List.take_append_drop]at this
def Good{α:Type}(p q:Program)(loose:Φ)(Xt:Shared->Bool)(Yf:Shared->α)(Ya:World->α)(g0:Bool)(w:World)(s:Shared):Prop :=
 (staticsOk (importedModules p.main.body) (boot_heap w.params) s.heap&&namesBound p s.heap&&gensDone s&&laidKept (boot_heap w.params) s.heap,openSeen q loose (importedModules p.main.body) Xt g0 s,Yf s)=(true,openGood q loose,Ya w)
def oY.last{p q:Program}{loose:Φ}{Xt:Shared->Bool}{α:Type}{Yf:Shared->α}{Ya:World->α}{g0:Bool}{w:World}{n k:Nat}{S:SharedT}{l:List Stmt}{q0 e:Pos}
 (big:(segRunT treeTable p w 11 ann 1 n S (piecesOf l (env p) (cE p) q0 B)).map (λr =>
    (r.1,r.2.2.1,r.2.2.2,(topRun treeTable p w 11 ann k r.2.1.abs ⟨doneF .next,cE p,e,B⟩).map λs =>
     (staticsOk (importedModules p.main.body) (boot_heap w.params) s.heap&&namesBound p s.heap&&gensDone s&&laidKept (boot_heap w.params) s.heap,openSeen q loose (importedModules p.main.body) Xt g0 s,Yf s))) =
   some (.next,cE p,e,some (true,openGood q loose,Ya w))):oY p w (n+k) S l q0 (Good p q loose Xt Yf Ya g0 w):=by
 obtain⟨⟨f,sT,c,ps⟩,r1,r2⟩:=Option.map_eq_some_iff.mp big;obtain⟨rfl,rfl,rfl,r3⟩ : f=.next/\c=cE p/\ps=e/\_:=by simpa only[Prod.mk.injEq]using r2
 obtain⟨s,t1,t2⟩:=Option.map_eq_some_iff.mp r3;have q1:=piece_app (rest:=[]) (segRun_of r1) (piece_nil t1);rw[List.append_nil]at q1;exact⟨s,q1,t2⟩
def aah{p q:Program}{loose:Φ}{Xt:Shared->Bool}{α:Type}{Yf:Shared->α}{Ya:World->α}{N:Nat}{g0:Bool}{a b M:Nat}
 (jp:∀w:World,(fencedOpening treeTable p w N).map (λs=>(s.heap,s.gens,s.drawn,s.toks))=some (boot_heap w.params,Array.mk [],boot_drawn,boot_toks))
 (pre:∀w:World,(λos=>topGo treeTable p w 11 ann a (S0 w os) (topStub p))=λos=>some (Sa w os,⟨denote treeTable (cE p),cE p,z,B⟩))
 (block:∀w:World,(λos=>segRun treeTable p w 11 ann 1 b (Sa w os) (blockOf (behindTheImports p) (env p) (cE p) z B))=λos=>some (.next,(Sb w os).abs,cE p,z))
 (iE:∀(w:World)(os:OsState),oY p w M (Sb w os) (behindTheImports p) z (Good p q loose Xt Yf Ya g0 w))
 (le:Nat.ble (a+(b+M)) N=true):LeftO p q loose Xt Yf Ya N g0:=λw=>by
 obtain⟨⟨h,gs,d,ks,os⟩,e1,e2⟩:=Option.map_eq_some_iff.mp (jp w);obtain⟨rfl,rfl,rfl,rfl⟩ : h=boot_heap w.params/\gs=Array.mk []/\d=boot_drawn/\ks=boot_toks:=by simpa using e2
 obtain⟨z1,z2,z3⟩ : _/\_/\_:=by simpa only[Prod.mk.injEq]using size w
 obtain⟨s,q1,t2⟩:=iE w os;obtain⟨l1,l2,l3⟩ : _/\_/\_:=by simpa only[Good,Prod.mk.injEq]using t2
 have q2:=go_top (congrFun (pre w) os) (piece_block (congrFun (block w) os) q1);have q3:=topRun_mono (N-(a+(b+M))) _ _ _ _ q2;rw[show a+(b+M)+(N-(a+(b+M)))=N by have:=TU le;omega]at q3;have t:topFrom treeTable p w N ⟨boot_heap w.params,Array.mk [],boot_drawn,boot_toks,os⟩=some s:=by
  unfold topFrom;dsimp only;rw[z1,z2,z3,show topRun treeTable p w 11 ann N ⟨boot_heap w.params,Array.mk [],boot_drawn,boot_toks,os⟩ (topStub p)=some s from q3];show(match staticsOk (importedModules p.main.body) (boot_heap w.params) s.heap&&namesBound p s.heap&&gensDone s&&laidKept (boot_heap w.params) s.heap with|true=>_|false=>_)=_;rw[l1]
 unfold openEnds;rw[e1];show(topFrom treeTable p w N _).map _=_;rw[t];exact ZH some (Prod.ext l2 l3)
end
end L2.Once
namespace L2
open PySem
def jM(s:Stmt):Arguments:=match s with
 |.FunctionDef _ a _ _ _ _ _ _ _ _=>a
 |_=>{ posonlyargs:=[],args:=[],vararg:=none,kwonlyargs:=[],kw_defaults:=[],kwarg:=none,defaults:=[] }
def fD(s:Stmt):List Stmt:=match s with
 |.FunctionDef _ _ b _ _ _ _ _ _ _=>b
 |_=>[]
def bG(s:Stmt):Scope:=match s with
 |.FunctionDef _ _ _ _ _ _ sc _ _ _=>sc
 |_=>{ kind:=.function,names:=[],isGenerator:=false,isCoroutine:=false }
end L2
namespace K29
open PySem L2
def top(i:Nat):Stmt:=PySem.Challenge.pw_chancehall_k29_lacks.main.body.getD i (.Pass ⟨0,0,0,0⟩)
def gO(i j:Nat):Stmt:=match top i with|.ClassDef _ _ _ b _ _ _ _ _ _ _=>b.getD j (.Pass ⟨0,0,0,0⟩)|_=>.Pass ⟨0,0,0,0⟩
abbrev gH:Φ:=["thing"]
abbrev WR:Φ:=gH
abbrev cR:Φ:=["one","other"]
abbrev Ob:Φ:=cR.append ["left","right","rest"]
abbrev mq:Φ:=["top","bottom"]
abbrev RB:Φ:=mq.append ["common"]
abbrev jA:Φ:=["thing"]
abbrev BX:Φ:=jA.append ["top","bottom"]
abbrev zR:Φ:=["one","other"]
abbrev aiM:Φ:=zR
abbrev lU:Φ:=["one","other"]
abbrev agi:Φ:=lU
abbrev uq:Φ:=["one","other"]
abbrev afc:Φ:=uq
abbrev z_:Φ:=["one","other"]
abbrev aiu:Φ:=z_
abbrev oN:Φ:=["one","other"]
abbrev afo:Φ:=oN
abbrev mC:Φ:=["fractions"]
abbrev Yu:Φ:=mC.append ["bottom","one"]
abbrev yF:Φ:=["fractions"]
abbrev Sx:Φ:=yF.append ["leveled"]
abbrev oH:Φ:=["fractions"]
abbrev Ci:Φ:=oH.append ["found","one"]
abbrev kO:Φ:=["hall"]
abbrev vI:Φ:=kO
abbrev vU:Φ:=["thing","many"]
abbrev Yi:Φ:=vU
abbrev dN:Φ:=["hall","plan"]
abbrev vG:Φ:=dN.append ["room","thing"]
abbrev jr:Φ:=["offer","tops"]
abbrev kj:Φ:=jr.append ["leveled"]
abbrev gR:Φ:=["hall","offer","leveled"]
abbrev Aw:Φ:=gR.append ["behind"]
abbrev uh:Φ:=["hall","room","worths"]
abbrev Qs:Φ:=uh.append ["offered","leveled"]
abbrev pI:Φ:=["tops","bottom"]
abbrev T4:Φ:=pI.append ["common","top"]
abbrev mJ:Φ:=["row","often"]
abbrev yJ:Φ:=mJ
abbrev oJ:Φ:=["row","other","often"]
abbrev Bh:Φ:=oJ.append ["bottom","common","own","added","tops"]
abbrev lZ:Φ:=["leveled","step"]
abbrev xX:Φ:=lZ.append ["row"]
abbrev jT:Φ:=["row","column"]
abbrev yx:Φ:=jT
abbrev iQ:Φ:=["leveled"]
abbrev jB:Φ:=iQ
abbrev kE:Φ:=["leveled","place","column"]
abbrev DK:Φ:=kE.append ["row"]
abbrev uw:Φ:=["leveled","steps","step"]
abbrev RP:Φ:=uw
abbrev lW:Φ:=["leveled","steps","place","found","column"]
abbrev G6:Φ:=lW.append ["first"]
abbrev iR:Φ:=["leveled","steps","place","column"]
abbrev zy:Φ:=iR.append ["row","often"]
abbrev qR:Φ:=["rows","wide"]
abbrev Gi:Φ:=qR.append ["leveled","steps","place","column","found"]
abbrev oG:Φ:=["rows"]
abbrev W9:Φ:=oG
abbrev jh:Φ:=["rows","rights"]
abbrev su:Φ:=jh
abbrev mQ:Φ:=["end","wide"]
abbrev yK:Φ:=mQ.append ["begins","row","columns"]
abbrev qU:Φ:=["end","begins","wide"]
abbrev Gd:Φ:=qU.append ["row"]
abbrev mL:Φ:=["end","begins","wide"]
abbrev G5:Φ:=mL.append ["answer","row","column"]
abbrev jj:Φ:=["many"]
abbrev jZ:Φ:=jj
abbrev gY:Φ:=["rows","rights"]
abbrev Aq:Φ:=gY.append ["wide","end","begins"]
abbrev gB:Φ:=["hall","plan"]
abbrev qL:Φ:=gB
abbrev jU:Φ:=["share","chosen"]
abbrev GP:Φ:=jU.append ["rows","room","offer","behind","chance"]
abbrev ux:Φ:=["rows"]
abbrev xG:Φ:=ux
abbrev jN:Φ:=["hall","plan"]
abbrev yW:Φ:=jN.append ["chosen","pays"]
abbrev jq:Φ:=["hall","plan","start"]
abbrev sH:Φ:=jq.append ["begin"]
abbrev jC:Φ:=["seen","door"]
abbrev rT:Φ:=jC.append ["most"]
abbrev tX:Φ:=["hall","plan","worths"]
abbrev Ln:Φ:=tX.append ["leveled","told","room","door","seen"]
abbrev oF:Φ:=["hall","plan"]
abbrev Bw:Φ:=oF.append ["told","coming"]
abbrev lg:Φ:=["hall"]
abbrev aaR:Φ:=lg
abbrev jE:Φ:=["hall","plan"]
abbrev JQ:Φ:=jE.append ["best","told","room","door"]
abbrev lB:Φ:=["thing"]
abbrev FJ:Φ:=lB
abbrev iV:Φ:=["name","pay"]
abbrev vQ:Φ:=iV
abbrev eY:Φ:=["room"]
abbrev Et:Φ:=eY
abbrev gC:Φ:=["chance"]
abbrev JH:Φ:=gC
abbrev jy:Φ:=["pairs"]
abbrev rW:Φ:=jy.append ["room","chance"]
abbrev ji:Φ:=["pairs"]
abbrev Aj:Φ:=ji.append ["chances","room","chance"]
abbrev jw:Φ:=["share"]
abbrev M4:Φ:=jw
abbrev kh:Φ:=["rooms"]
abbrev uJ:Φ:=kh.append ["numbers","room","name"]
abbrev g_:Φ:=["door","numbers"]
abbrev vX:Φ:=g_.append ["numbered","name","chance"]
abbrev mH:Φ:=["doors","numbers"]
abbrev G3:Φ:=mH.append ["taken","told","door"]
abbrev z6:Φ:=["_law_script","_law_k"]
abbrev Xq:Φ:=z6
abbrev fB:Φ:=["_law_cell_here","_law_many"]
abbrev VD:Φ:=fB.append ["_law_found","_law_number","_law_digits","_law_k"]
abbrev wR:Φ:=["_law_one","_law_other"]
abbrev agN:Φ:=wR.append ["_law_low","_law_high"]
abbrev nu:Φ:=["_law_top","_law_bottom"]
abbrev Ut:Φ:=nu.append ["_law_common"]
abbrev lO:Φ:=["_law_found"]
abbrev xg:Φ:=lO.append ["_law_number"]
abbrev iW:Φ:=["_law_found","_law_many"]
abbrev vV:Φ:=iW
abbrev zP:Φ:=["_law_one","_law_other"]
abbrev ai2:Φ:=zP
abbrev wI:Φ:=["_law_cell_here","_law_many"]
abbrev vg:Φ:=wI.append ["_law_letters","_law_xs","_law_base","_law_at","_law_step"]
abbrev zq:Φ:=["_law_cell_here"]
abbrev Zo:Φ:=zq.append ["_law_xs","_law_bottom"]
abbrev Mh:Φ:=["_law_cell_here","_law_x","_law_y"]
abbrev ag9:Φ:=Mh
abbrev Cu:Φ:=["_law_cell_here","_law_many"]
abbrev uO:Φ:=Cu.append ["_law_xs","_law_rooms","_law_sort","_law_pairs","_law_bottom","_law_part","_law_weights"]
abbrev yL:Φ:=["_law_script","_law_at","_law_many","_law_most"]
abbrev Zt:Φ:=yL.append ["_law_rooms","_law_first","_law_cells","_law_k","_law_cell_here","_law_room","_law_door_here"]
abbrev zE:Φ:=["_law_title","_law_door_here","_law_names_here"]
abbrev DR:Φ:=zE.append ["_law_told","_law_sort","_law_pay_here","_law_pairs"]
abbrev Ef:Φ:=["_law_cell_here","_law_share_here","_law_rooms"]
abbrev XF:Φ:=Ef.append ["_law_names_here","_law_found","_law_k","_law_titles"]
abbrev uy:Φ:=["_law_cell_here","_law_rooms"]
abbrev T_:Φ:=uy.append ["_law_xs","_law_found","_law_k"]
abbrev EY:Φ:=["_law_share_here","_law_door_here","_law_worths"]
abbrev abn:Φ:=EY.append ["_law_top","_law_bottom","_law_room","_law_chance","_law_part"]
abbrev Cr:Φ:=["_law_cell_here"]
abbrev Yg:Φ:=Cr.append ["_law_xs"]
abbrev yM:Φ:=["_law_found","_law_share_here","_law_rooms","_law_plan","_law_best"]
abbrev Yp:Φ:=yM.append ["_law_k","_law_due","_law_look_here"]
abbrev K9:Φ:=["_law_some"]
abbrev agW:Φ:=K9.append ["_law_top","_law_bottom","_law_one"]
abbrev Jq:Φ:=["_law_cell_here","_law_many"]
abbrev alv:Φ:=Jq
abbrev tZ:Φ:=["_law_cell_here","_law_plan","_law_rooms"]
abbrev adW:Φ:=tZ.append ["_law_xs","_law_at","_law_later","_law_found","_law_some"]
abbrev pZ:Φ:=["_law_hall_here","_law_plan"]
abbrev N7:Φ:=pZ.append ["e"]
abbrev lQ:Φ:=["_law_hall_here","_law_cell_here","_law_plan","_law_rooms"]
abbrev Hj:Φ:=lQ.append ["_law_at","_law_spoilt_here","_law_word","_law_room"]
abbrev R4:Φ:=["_law_script"]
abbrev anp:Φ:=R4.append ["_law_share_here","_law_many","_law_rooms","_law_hall_here","_law_plan","_law_xs","_law_handed","_law_held","_law_start","_law_some","_law_own","_law_best","_law_visit","_law_lack"]
abbrev jR:Φ:=["self","name","pay"]
abbrev zK:Φ:=jR
abbrev lY:Φ:=["self"]
abbrev U_:Φ:=lY
abbrev Fg:Φ:=["self","room"]
abbrev d7:Φ:=Fg
abbrev lM:Φ:=["self","name","pay","room"]
abbrev yR:Φ:=lM
abbrev gM:Φ:=["self","name","pay","pairs"]
abbrev uM:Φ:=gM
abbrev lN:Φ:=["self","name","pay","chance","room","other"]
abbrev GX:Φ:=lN
abbrev mj:Φ:=["self","name","pay","rooms"]
abbrev yG:Φ:=mj
abbrev mR:Φ:=["self","share","rooms"]
abbrev xM:Φ:=mR
abbrev fW:Φ:=["self"]
abbrev Vj:Φ:=fW
abbrev M6:Φ:=["self","name"]
abbrev Dm:Φ:=M6
abbrev eX:Φ:=["self","room"]
abbrev Ep:Φ:=eX
abbrev HJ:Φ:=["self","room","name"]
abbrev w5:Φ:=HJ
abbrev dO:Φ:=["self","room"]
abbrev sV:Φ:=dO
abbrev ju:Φ:=["self","room"]
abbrev Nq:Φ:=ju
end K29
namespace H29
open PySem PySem.W L2 L2.Once K29
abbrev p:Program:=PySem.Challenge.pw_chancehall_k29_lacks
noncomputable section
def dR(P:Params)(x:Str)(t m:Nat):DictEntry:=dE P x t (.ref m)
def wD(l:List DictEntry)(n:Nat):Obj:=⟨.type "dict",none,.dict ⟨l⟩ n,⟨[]⟩⟩
def i3(a b:Nat)(c:Nat)(l:Θ):Θ:=.int a 0::.int b 0::.ref c::l
def nd(o:Obj)(l r:BT):BT:=.node o l r
def n1(o x:Obj):BT:=.node o (lf x) .nil
def n2(o x y:Obj):BT:=.node o (lf x) (lf y)
def wA:Obj:=⟨.type "builtin_function_or_method",none,.fields ⟨[.builtin "type.__prepare__",.type "type"]⟩,⟨[]⟩⟩
def wB(n:Nat):Obj:=⟨.type "builtin_function_or_method",none,.fields ⟨[.builtin "object.__init_subclass__",.ref n]⟩,⟨[]⟩⟩
def wC(n:Str)(t l r u:Nat):Obj:=⟨.type "code",none,.fields ⟨[.str n t,.str n (t+1),.str "/claim/cut.py" (t+2),.int l 0,.int 0 0,.int 0 0,.int 0 0,.int 0 0,.ref r,.bool false,.int 181 0,.ref (r+1),.none,.none,.none,.none,.int u 0,.int l 0,.str "/claim/cut.py" (u+1)]⟩,⟨[]⟩⟩
def wF(c d:Nat)(n:Str)(t:Nat):Obj:=⟨.type "frame",none,.plain,⟨[some (.ref c),some (.ref 3),some (.ref d),none,some (.str n t),none,some (.ref 0)]⟩⟩
def wG(t n:Nat):Obj:=⟨.type "getset_descriptor",none,.fields ⟨[.str "__weakref__" t,.ref n,.builtin "ExceptionGroup.__weakref__",.none]⟩,⟨[]⟩⟩
def wK(n:Str)(b m:Θ)(d:Nat)(s:Θ)(o:Ω)(t u:Nat)(x:String):Obj:=⟨.type "type",none,.cls ⟨n,b,m,d,n,true,[],s,false,none,false⟩,⟨[o,none,some (.str n t),some (.str n u),some (.builtin x),some (.bool true)]⟩⟩
def wS(n:Nat):Obj:=⟨.type "super",none,.fields ⟨[.ref n,.ref n,.ref n]⟩,⟨[]⟩⟩
def wT(n:Nat):Obj:=⟨.type "tuple",none,.seq ⟨[.ref n]⟩ 0,⟨[]⟩⟩
def fO(n q:Str)(s:Stmt)(m:Value)(c:Nat):Obj:=⟨.type "function",none,.func (fnOf n q (jM s) (fD s) (bG s) .none .none .none m none (.ref c) .none),⟨[]⟩⟩
def fT(n q:Str)(s:Stmt):Obj:=⟨.none,none,.func { fnOf n q (jM s) (fD s) (bG s) .none .none .none .none none .none .none with globals:=0,builtins:=0 },⟨[]⟩⟩
def fV(n:Str)(k:Nat)(m:Value)(c:Nat):Obj:=fO n n (top k) m c
def fU(n:Str)(k:Nat):Obj:=fT n n (top k)
def cU(n:Str)(t:Nat)(l a f:Int)(r u:Nat):Obj:=cO n n t l a f r u
def cV(n:Str)(t:Nat)(l a f:Int)(r u:Nat):Obj:=cP n n t l a f r u
def dM(P:Params)(l:List (String×Nat×Nat)):List DictEntry:=l.map λx=>dR P (Str.ofString x.1) x.2.1 x.2.2
def dC(P:Params)(a:Nat)(m:Value)(n:Str)(l:Int)(r:List DictEntry):List DictEntry:=dE P "__module__" a m::dE P "__qualname__" (a+2) (.str n (a+1))::dE P "__firstlineno__" (a+4) (.int l (a+3))::r
def dF(P:Params)(a:Nat)(m:Value)(l:Int)(r:List DictEntry):List DictEntry:=dE P "__module__" a m::dE P "__firstlineno__" (a+4) (.int l (a+3))::r
noncomputable def wX(n:Str)(c d o t u:Nat):Obj:=wK n [.ref 31] [.ref c,.ref 31,.type "ValueError",.type "Exception",.type "BaseException",.type "object"] d [] (some (.ref o)) t u "ValueError.__new__"
def mo0:Value:=.str "__main__" 164
def mo1:Value:=.str "chancehall.errors" 194
def mo2:Value:=.str "chancehall.wholes" 328
def mo3:Value:=.str "chancehall.ratios" 348
def mo4:Value:=.str "chancehall.levels" 414
def mo5:Value:=.str "chancehall.plans" 439
def mo6:Value:=.str "chancehall.papers" 487
def mo7:Value:=.str "chancehall.solving" 579
def mo8:Value:=.str "chancehall.worths" 639
def mo9:Value:=.str "chancehall.mending" 678
def aoM:Value:=.str "chancehall.lacks" 712
def apD:Value:=.str "chancehall.words" 726
def qW:Value:=.str "chancehall.doors" 736
def Gu:Value:=.str "chancehall.halls" 923
def oA:Value:=.str "law_chancehall_k29_lacks" 1038
noncomputable def zM(P:Params)(l:List (String×Nat×Nat))(n:Nat):Obj:=wD (dE P "__name__" 165 oA::dE P "__doc__" 166 .none::dE P "__package__" 167 .none::dE P "__loader__" 168 (.builtin "__main__.__loader__#opaque")::dE P "__spec__" 169 .none::dR P "__annotations__" 170 6::dR P "__builtins__" 171 4::dE P "__file__" 173 (.str "/claim/cut.py" 172)::dE P "__cached__" 174 .none::dM P [("_wall",193,21),("HallError",213,31),("NoNumber",229,44),("NoName",245,56),("NoChance",261,68),("NoShare",277,80),("NoRoom",302,99),("NoPlan",327,118),("is_whole",336,127),("divisor",347,134),("NOUGHT",352,135),("ONE",355,136),("ratio",364,143),("is_ratio",373,150),("plus",381,157),("minus",389,164),("times",397,171),("over",405,178),("under",413,185),("level",421,190),("total",429,197),("greatest",438,204),("first_plan",446,209),("fits",454,216),("check_plan",464,223),("behind_door",470,228),("raised_look",480,235),("looks",486,240),("lowest",494,245),("row_times",500,250),("row_plus",506,255),("take_step",515,262),("number_at",523,269),("fractions_of",529,274),("first_from",539,281),("go_on",548,288),("begin_row",560,295),("clear_column",572,302),("reduced",578,307),("width_of",587,314),("with_rights",593,319),("begins_of",599,324),("odd_row",609,331),("answer_of",621,338),("single_rows",627,343),("only_answer",638,350),("chosen_doors",646,355),("left_rows",659,362),("turned",665,367),("worths_of",671,372),("visits_from",677,377),("better_door",688,384),("mended",694,389),("mendings",704,396),("best_of",711,403),("lacks_of",725,410)]++dE P "LONGEST_WORD" 729 (.int 8 728)::dM P ([("is_word",735,415),("check_head",745,422),("check_room_name",752,429),("check_chance",759,436),("check_pairs",765,441),("joined_ways",771,446),("Door",818,477),("Sure",845,498),("Mixed",872,517),("Toss",900,536),("Even",922,553),("check_share",931,562),("numbers_of",941,569),("numbered_ways",952,576),("offers_of",963,583),("Hall",1037,638),("_law_cell",1047,649),("_law_stream",1059,656),("_law_gcd",1069,663),("_law_ratio",1078,670),("_law_is_ratio",1086,677),("_law_are_ratios",1092,682),("_law_same",1100,689),("_law_names",1106,694),("_law_share",1115,701),("_law_pay",1124,708),("_law_door",1130,713),("_law_doors",1136,718),("_law_built",1142,723),("_law_hall",1148,728),("_law_chosen",1159,735),("_law_look",1173,742),("_law_size",1181,749),("_law_right",1195,756),("_law_sum",1205,763),("_law_odd",1213,770),("_law_spoilt",1227,777),("_law_refused",1236,784)]++l)++[]) n
def aoV(P:Params):Obj:=zM P [] 104
def q21:Obj:=fV "_wall" 0 mo0 20
def q22:Obj:=⟨.type "tuple",none,.seq ⟨.type "ValueError"::[]⟩ 0,⟨[]⟩⟩
def q24(P:Params):Obj:=wD (dC P 203 mo1 "HallError" 5 <|dR P "__static_attributes__" 208 29::[]) 4
def q30(P:Params):Obj:=wD (dF P 203 mo1 5 <|dR P "__static_attributes__" 208 29::dR P "__weakref__" 210 32::dE P "__doc__" 211 .none::[]) 3
noncomputable def q31:Obj:=wK "HallError" [.type "ValueError"] [.ref 31,.type "ValueError",.type "Exception",.type "BaseException",.type "object"] 30 [.ref 44,.ref 56,.ref 68,.ref 80,.ref 99,.ref 118] (some (.ref 22)) 196 204 "ValueError.__new__"
def q37(P:Params):Obj:=wD (dC P 221 mo1 "NoNumber" 7 <|dR P "__static_attributes__" 226 42::[]) 4
def q43(P:Params):Obj:=wD (dF P 221 mo1 7 <|dR P "__static_attributes__" 226 42::dE P "__doc__" 227 .none::[]) 2
def q44:Obj:=wX "NoNumber" 44 43 35 214 222
def q49(P:Params):Obj:=wD (dC P 237 mo1 "NoName" 9 <|dR P "__static_attributes__" 242 54::[]) 4
def q55(P:Params):Obj:=wD (dF P 237 mo1 9 <|dR P "__static_attributes__" 242 54::dE P "__doc__" 243 .none::[]) 2
def q56:Obj:=wX "NoName" 56 55 47 230 238
def q61(P:Params):Obj:=wD (dC P 253 mo1 "NoChance" 11 <|dR P "__static_attributes__" 258 66::[]) 4
def q67(P:Params):Obj:=wD (dF P 253 mo1 11 <|dR P "__static_attributes__" 258 66::dE P "__doc__" 259 .none::[]) 2
def q68:Obj:=wX "NoChance" 68 67 59 246 254
def q73(P:Params):Obj:=wD (dC P 269 mo1 "NoShare" 13 <|dR P "__static_attributes__" 274 78::[]) 4
def q79(P:Params):Obj:=wD (dF P 269 mo1 13 <|dR P "__static_attributes__" 274 78::dE P "__doc__" 275 .none::[]) 2
def q80:Obj:=wX "NoShare" 80 79 71 262 270
def q85(P:Params):Obj:=wD (dC P 285 mo1 "NoRoom" 15 <|dR P "__init__" 297 96::dR P "__static_attributes__" 299 97::[]) 5
def q95:Obj:=cO "__init__" "NoRoom.__init__" 290 17 2 3 90 295
def q96:Obj:=fO "__init__" "NoRoom.__init__" (gO 7 0) mo1 95
def q98(P:Params):Obj:=wD (dF P 285 mo1 15 <|dR P "__init__" 297 96::dR P "__static_attributes__" 299 97::dE P "__doc__" 300 .none::[]) 2
def q99:Obj:=wX "NoRoom" 99 98 83 278 286
def apQ(P:Params):Obj:=wD (dC P 310 mo1 "NoPlan" 20 <|dR P "__init__" 322 115::dR P "__static_attributes__" 324 116::[]) 5
def anf:Obj:=cO "__init__" "NoPlan.__init__" 315 22 2 3 109 320
def akY:Obj:=fO "__init__" "NoPlan.__init__" (gO 8 0) mo1 114
def ak5(P:Params):Obj:=wD (dF P 310 mo1 20 <|dR P "__init__" 322 115::dR P "__static_attributes__" 324 116::dE P "__doc__" 325 .none::[]) 2
def alC:Obj:=wX "NoPlan" 118 117 102 303 311
def aoc:Obj:=fV "is_whole" 10 mo2 126
def akv:Obj:=tN 340 Ob
def akD:Obj:=fV "divisor" 11 mo2 133
def alA:Obj:=⟨.type "tuple",none,.seq ⟨.int 0 350::.int 1 351::[]⟩ 0,⟨[]⟩⟩
def alK:Obj:=⟨.type "tuple",none,.seq ⟨.int 1 353::.int 1 354::[]⟩ 0,⟨[]⟩⟩
def akg:Obj:=fV "ratio" 15 mo3 142
def ajT:Obj:=fV "is_ratio" 16 mo3 149
def ajL:Obj:=fV "plus" 17 mo3 156
def ame:Obj:=fV "minus" 18 mo3 163
def amC:Obj:=fV "times" 19 mo3 170
def an7:Obj:=fV "over" 20 mo3 177
def am4:Obj:=fV "under" 21 mo3 184
def amn:Obj:=fV "level" 23 mo4 189
def amb:Obj:=fV "total" 24 mo4 196
def ald:Obj:=fV "greatest" 25 mo4 203
def akx:Obj:=cV "first_plan" 441 82 1 3 205 444
def akp:Obj:=fV "first_plan" 27 mo5 208
def ani:Obj:=fV "fits" 28 mo5 215
def akA:Obj:=cU "check_plan" 455 88 2 3 217 462
def amI:Obj:=fV "check_plan" 29 mo5 222
def am8:Obj:=cV "behind_door" 465 95 2 3 224 468
def anV:Obj:=fV "behind_door" 30 mo5 227
def amZ:Obj:=tN 474 Aw
def al6:Obj:=cU "raised_look" 471 98 3 3 229 478
def alO:Obj:=fV "raised_look" 31 mo5 234
def aj1:Obj:=fV "looks" 32 mo5 239
def alX:Obj:=fV "lowest" 34 mo6 244
def amv:Obj:=cV "row_times" 495 111 2 3 246 498
def ajQ:Obj:=fV "row_times" 35 mo6 249
def ajS:Obj:=cV "row_plus" 501 113 3 3 251 504
def akf:Obj:=fV "row_plus" 36 mo6 254
def akS:Obj:=cU "take_step" 507 120 2 3 256 513
def anG:Obj:=fV "take_step" 37 mo6 261
def alc:Obj:=cU "number_at" 516 129 2 3 263 521
def anz:Obj:=fV "number_at" 38 mo6 268
def alY:Obj:=cV "fractions_of" 524 131 1 3 270 527
def akt:Obj:=fV "fractions_of" 39 mo6 273
def ajE:Obj:=tN 533 DK
def ak6:Obj:=cU "first_from" 530 133 3 3 275 537
def akh:Obj:=fV "first_from" 40 mo6 280
def amM:Obj:=fV "go_on" 41 mo6 287
def amE:Obj:=tN 552 G6
def ank:Obj:=cU "begin_row" 549 141 5 3 289 558
def aky:Obj:=fV "begin_row" 42 mo6 294
def amc:Obj:=tN 564 zy
def alo:Obj:=cU "clear_column" 561 147 4 3 296 570
def ajV:Obj:=fV "clear_column" 43 mo6 301
def aof:Obj:=fV "reduced" 44 mo6 306
def anU:Obj:=cU "width_of" 581 164 1 3 308 585
def akd:Obj:=fV "width_of" 46 mo7 313
def anr:Obj:=cV "with_rights" 588 168 2 3 315 591
def aoq:Obj:=fV "with_rights" 47 mo7 318
def aoa:Obj:=cV "begins_of" 594 170 2 3 320 597
def ajO:Obj:=fV "begins_of" 48 mo7 323
def alN:Obj:=fV "odd_row" 49 mo7 330
def alb:Obj:=tN 613 G5
def akm:Obj:=cU "answer_of" 610 182 3 3 332 619
def ake:Obj:=fV "answer_of" 50 mo7 337
def alq:Obj:=cV "single_rows" 622 187 1 3 339 625
def ami:Obj:=fV "single_rows" 51 mo7 342
def amh:Obj:=tN 631 Aq
def al1:Obj:=cU "only_answer" 628 189 2 3 344 636
def amy:Obj:=fV "only_answer" 52 mo7 349
def aku:Obj:=cV "chosen_doors" 641 197 2 3 351 644
def ajN:Obj:=fV "chosen_doors" 54 mo8 354
def amA:Obj:=tN 650 GP
def akE:Obj:=cU "left_rows" 647 199 2 3 356 657
def alx:Obj:=fV "left_rows" 55 mo8 361
def amJ:Obj:=fV "turned" 56 mo8 366
def akN:Obj:=cV "worths_of" 666 208 2 3 368 669
def alh:Obj:=fV "worths_of" 57 mo8 371
def ak0:Obj:=cV "visits_from" 672 213 3 3 373 675
def ak1:Obj:=fV "visits_from" 58 mo8 376
def alf:Obj:=cU "better_door" 680 219 2 3 378 686
def amt:Obj:=fV "better_door" 60 mo9 383
def anb:Obj:=fV "mended" 61 mo9 388
def aom:Obj:=cU "mendings" 695 232 2 3 390 702
def aoj:Obj:=fV "mendings" 62 mo9 395
def ajU:Obj:=fV "best_of" 63 mo9 402
def amg:Obj:=tN 717 JQ
def anA:Obj:=cU "lacks_of" 714 243 2 3 404 723
def aml:Obj:=fV "lacks_of" 65 aoM 409
def alk:Obj:=fV "is_word" 68 apD 414
def am2:Obj:=cU "check_head" 738 257 2 3 416 743
def anI:Obj:=fV "check_head" 70 qW 421
def amR:Obj:=cU "check_room_name" 746 262 1 3 423 750
def aj2:Obj:=fV "check_room_name" 71 qW 428
def akz:Obj:=cU "check_chance" 753 265 1 3 430 757
def amW:Obj:=fV "check_chance" 72 qW 435
def akU:Obj:=cV "check_pairs" 760 268 1 3 437 763
def am9:Obj:=fV "check_pairs" 73 qW 440
def amu:Obj:=cV "joined_ways" 766 274 1 3 442 769
def amL:Obj:=fV "joined_ways" 74 qW 445
noncomputable def aqd(P:Params):Obj:=wD (dC P 779 qW "Door" 279 <|dM P [("__init__",792,460),("ways",799,467),("chance_to",807,474),("__static_attributes__",811,475)]++[]) 7
def alE:Obj:=cO "__init__" "Door.__init__" 784 281 3 3 454 790
def anx:Obj:=fO "__init__" "Door.__init__" (gO 75 0) qW 459
def akO:Obj:=fO "ways" "Door.ways" (gO 75 1) qW 466
def aod:Obj:=cO "chance_to" "Door.chance_to" 800 290 2 3 468 805
def amG:Obj:=fO "chance_to" "Door.chance_to" (gO 75 2) qW 473
noncomputable def aj4(P:Params):Obj:=wD (dF P 779 qW 279 <|dM P [("__init__",792,460),("ways",799,467),("chance_to",807,474),("__static_attributes__",811,475),("__dict__",813,478),("__weakref__",815,479)]++dE P "__doc__" 816 .none::[]) 4
def amT:Obj:=wK "Door" [.type "object"] [.ref 477,.type "object"] 476 [.ref 498,.ref 517] none 772 780 "object.__new__"
noncomputable def ako:Obj:=⟨.type "getset_descriptor",none,.fields ⟨.str "__dict__" 812::.ref 477::.builtin "function.__dict__"::.builtin "function.__dict__#set"::[]⟩,⟨[]⟩⟩
def aoL(P:Params):Obj:=wD (dC P 826 qW "Sure" 292 <|dR P "__init__" 840 495::dR P "__static_attributes__" 842 496::[]) 5
def alj:Obj:=cO "__init__" "Sure.__init__" 831 294 4 3 489 838
def anw:Obj:=fO "__init__" "Sure.__init__" (gO 76 0) qW 494
def alU(P:Params):Obj:=wD (dF P 826 qW 292 <|dR P "__init__" 840 495::dR P "__static_attributes__" 842 496::dE P "__doc__" 843 .none::[]) 2
def anT:Obj:=wK "Sure" [.ref 477] [.ref 498,.ref 477,.type "object"] 497 [] (some (.ref 482)) 819 827 "object.__new__"
def ap1(P:Params):Obj:=wD (dC P 853 qW "Mixed" 298 <|dR P "__init__" 867 514::dR P "__static_attributes__" 869 515::[]) 5
def ajK:Obj:=cO "__init__" "Mixed.__init__" 858 300 4 3 508 865
def alp:Obj:=fO "__init__" "Mixed.__init__" (gO 77 0) qW 513
def akk(P:Params):Obj:=wD (dF P 853 qW 298 <|dR P "__init__" 867 514::dR P "__static_attributes__" 869 515::dE P "__doc__" 870 .none::[]) 2
noncomputable def anC:Obj:=wK "Mixed" [.ref 477] [.ref 517,.ref 477,.type "object"] 516 [.ref 536,.ref 553] (some (.ref 501)) 846 854 "object.__new__"
def aps(P:Params):Obj:=wD (dC P 880 qW "Toss" 304 <|dR P "__init__" 896 533::dR P "__static_attributes__" 897 534::[]) 5
def an6:Obj:=tN 888 GX
def amr:Obj:=cO "__init__" "Toss.__init__" 885 306 6 3 527 894
def an0:Obj:=fO "__init__" "Toss.__init__" (gO 78 0) qW 532
def ali(P:Params):Obj:=wD (dF P 880 qW 304 <|dR P "__init__" 896 533::dR P "__static_attributes__" 897 534::dE P "__doc__" 898 .none::[]) 2
def akZ:Obj:=wK "Toss" [.ref 517] [.ref 536,.ref 517,.ref 477,.type "object"] 535 [] (some (.ref 520)) 873 881 "object.__new__"
def apv(P:Params):Obj:=wD (dC P 908 qW "Even" 310 <|dR P "__init__" 918 550::dR P "__static_attributes__" 919 551::[]) 5
def alI:Obj:=cP "__init__" "Even.__init__" 913 312 4 3 546 916
def alV:Obj:=fO "__init__" "Even.__init__" (gO 79 0) qW 549
def ak2(P:Params):Obj:=wD (dF P 908 qW 310 <|dR P "__init__" 918 550::dR P "__static_attributes__" 919 551::dE P "__doc__" 920 .none::[]) 2
def anu:Obj:=wK "Even" [.ref 517] [.ref 553,.ref 517,.ref 477,.type "object"] 552 [] (some (.ref 539)) 901 909 "object.__new__"
def am0:Obj:=cU "check_share" 925 315 1 3 556 929
def ant:Obj:=fV "check_share" 81 Gu 561
def anF:Obj:=cU "numbers_of" 932 318 1 3 563 939
def ajJ:Obj:=fV "numbers_of" 82 Gu 568
def ajF:Obj:=tN 945 vX
def amB:Obj:=cU "numbered_ways" 942 326 2 3 570 950
def am6:Obj:=fV "numbered_ways" 83 Gu 575
def akJ:Obj:=tN 956 G3
def alJ:Obj:=cU "offers_of" 953 333 2 3 577 961
def an4:Obj:=fV "offers_of" 84 Gu 582
noncomputable def ao9(P:Params):Obj:=wD (dC P 971 Gu "Hall" 342 <|dM P [("__init__",981,595),("size",988,602),("names",995,609),("place",1003,616),("check_room",1011,623),("door_at",1020,630),("offers",1026,635),("__static_attributes__",1030,636)]++[]) 11
def akB:Obj:=cP "__init__" "Hall.__init__" 976 344 3 3 591 979
def am1:Obj:=fO "__init__" "Hall.__init__" (gO 85 0) Gu 594
def amN:Obj:=fO "size" "Hall.size" (gO 85 1) Gu 601
def anh:Obj:=fO "names" "Hall.names" (gO 85 2) Gu 608
def amD:Obj:=cO "place" "Hall.place" 996 356 2 3 610 1001
def alH:Obj:=fO "place" "Hall.place" (gO 85 3) Gu 615
def alB:Obj:=cO "check_room" "Hall.check_room" 1004 361 2 3 617 1009
def aj3:Obj:=fO "check_room" "Hall.check_room" (gO 85 4) Gu 622
def aop:Obj:=cO "door_at" "Hall.door_at" 1012 365 3 3 624 1018
def amH:Obj:=fO "door_at" "Hall.door_at" (gO 85 5) Gu 629
def ale:Obj:=cP "offers" "Hall.offers" 1021 368 2 3 631 1024
def amd:Obj:=fO "offers" "Hall.offers" (gO 85 6) Gu 634
noncomputable def ajR(P:Params):Obj:=wD (dF P 971 Gu 342 <|dM P [("__init__",981,595),("size",988,602),("names",995,609),("place",1003,616),("check_room",1011,623),("door_at",1020,630),("offers",1026,635),("__static_attributes__",1030,636),("__dict__",1032,639),("__weakref__",1034,640)]++dE P "__doc__" 1035 .none::[]) 4
def ajW:Obj:=wK "Hall" [.type "object"] [.ref 638,.type "object"] 637 [] none 964 972 "object.__new__"
def akq:Obj:=⟨.type "getset_descriptor",none,.fields ⟨.str "__dict__" 1031::.ref 638::.builtin "function.__dict__"::.builtin "function.__dict__#set"::[]⟩,⟨[]⟩⟩
def amQ:Obj:=cU "_law_cell" 1040 372 2 3 643 1045
def alm:Obj:=fV "_law_cell" 87 oA 648
def anc:Obj:=tN 1051 VD
def amo:Obj:=cU "_law_stream" 1048 374 2 3 650 1057
def alF:Obj:=fV "_law_stream" 88 oA 655
def amO:Obj:=tN 1063 agN
def ajM:Obj:=cU "_law_gcd" 1060 385 2 3 657 1067
def amX:Obj:=fV "_law_gcd" 89 oA 662
def aj8:Obj:=tN 1073 Ut
def akn:Obj:=cU "_law_ratio" 1070 390 2 3 664 1076
def alQ:Obj:=fV "_law_ratio" 90 oA 669
def am5:Obj:=cU "_law_is_ratio" 1079 393 1 3 671 1084
def anJ:Obj:=fV "_law_is_ratio" 91 oA 676
def akG:Obj:=cV "_law_are_ratios" 1087 400 2 3 678 1090
def ajI:Obj:=fV "_law_are_ratios" 92 oA 681
def amw:Obj:=cU "_law_same" 1093 404 2 3 683 1098
def ak7:Obj:=fV "_law_same" 93 oA 688
def akQ:Obj:=cV "_law_names" 1101 406 2 3 690 1104
def alR:Obj:=fV "_law_names" 94 oA 693
def aj7:Obj:=tN 1110 Zo
def aln:Obj:=cU "_law_share" 1107 415 1 3 695 1113
def amK:Obj:=fV "_law_share" 95 oA 700
def an1:Obj:=tN 1119 ag9
def amk:Obj:=cU "_law_pay" 1116 419 3 3 702 1122
def aoo:Obj:=fV "_law_pay" 96 oA 707
def akI:Obj:=cV "_law_door" 1125 427 2 3 709 1128
def anQ:Obj:=fV "_law_door" 97 oA 712
def amq:Obj:=cV "_law_doors" 1131 444 4 3 714 1134
def ajZ:Obj:=fV "_law_doors" 98 oA 717
def anL:Obj:=cV "_law_built" 1137 458 3 3 719 1140
def anR:Obj:=fV "_law_built" 99 oA 722
def aot:Obj:=cV "_law_hall" 1143 468 3 3 724 1146
def akC:Obj:=fV "_law_hall" 100 oA 727
def akL:Obj:=tN 1152 T_
def alS:Obj:=cU "_law_chosen" 1149 475 2 3 729 1157
def ajY:Obj:=fV "_law_chosen" 101 oA 734
def aoi:Obj:=tN 1163 abn
def akl:Obj:=cU "_law_look" 1160 484 3 3 736 1171
def akr:Obj:=fV "_law_look" 102 oA 741
def akK:Obj:=cU "_law_size" 1174 494 1 3 743 1179
def anS:Obj:=fV "_law_size" 103 oA 748
def alw:Obj:=tN 1185 Yp
def ajH:Obj:=cU "_law_right" 1182 501 5 3 750 1193
def al5:Obj:=fV "_law_right" 104 oA 755
def al9:Obj:=tN 1199 agW
def amY:Obj:=cU "_law_sum" 1196 512 1 3 757 1203
def anq:Obj:=fV "_law_sum" 105 oA 762
def akF:Obj:=cU "_law_odd" 1206 519 2 3 764 1211
def amf:Obj:=fV "_law_odd" 106 oA 769
def als:Obj:=tN 1217 ["_law_cell_here","_law_plan","_law_rooms","_law_xs","_law_some","_law_at","_law_later","_law_found"]
def ama:Obj:=cU "_law_spoilt" 1214 523 3 3 771 1225
def amS:Obj:=fV "_law_spoilt" 107 oA 776
def ane:Obj:=tN 1231 N7
def anj:Obj:=cU "_law_refused" 1228 537 2 3 778 1234
def akb:Obj:=fV "_law_refused" 108 oA 783
def tr1(P:Params):BT:=nd (boot_o_0 P) (nd (boot_o_1 P) (nd (aoV P) (nd (boot_o_7 P) (nd tE (nd q31 (nd fE (nd aoc (n2 akf tE tE) (n1 alf akq)) (nd tE (n1 aoq amB) (n1 tE fE))) (nd q95 (nd fE (n1 (cU "go_on" 540 138 3 3 282 546) (⟨.none,none,.fields ⟨i3 312 4 549 <|[]⟩,⟨[]⟩⟩)) (n1 alk tE)) (nd amI (n1 tE (fT "names" "Hall.names" (gO 85 2))) (n1 (wG 814 477) ajY)))) (nd (wT 31) (nd (q79 P) (nd akg (n2 fE tE anj) (n1 (tN 708 ["hall"]) amo)) (nd (fU "first_plan" 27) (n1 tE tE) (n1 (tN 796 ["self"]) tE))) (nd (tN 318 d7) (nd tE (n1 tE tE) (n1 fE (fU "_law_same" 93))) (nd (cV "looks" 481 101 3 3 236 484) (n1 amJ aj3) (n1 anw fE))))) (nd wA (nd fE (nd (wT 31) (nd alA (n2 tE (wB 517) (fU "_law_spoilt" 107)) (n1 fE (fU "_law_cell" 87))) (nd fE (n1 (tN 603 Gd) an4) (n1 fE (fU "_law_door" 97)))) (nd wA (nd (tN 393 cR) (n1 aky tE) (n1 tE fE)) (nd amZ (n1 tE amD) (n1 (wC "Sure" 821 292 485 824) tE)))) (nd (q55 P) (nd (⟨.none,none,.fields ⟨i3 17 4 95 <|[]⟩,⟨[]⟩⟩) (nd tE (n1 (fU "first_from" 40) (ali P)) (n1 tE amX)) (nd (cU "fits" 447 84 2 3 210 452) (n1 ami tE) (n1 tE aot))) (nd (wS 118) (nd (fU "under" 21) (n1 tE (fU "numbers_of" 82)) (n1 (fU "check_pairs" 73) tE)) (nd fE (n1 (fU "visits_from" 58) tE) (n1 (ap1 P) al9)))))) (nd o11 (nd (fU "_wall" 0) (nd (wT 31) (nd (q67 P) (nd tE (n2 tE (tN 868 ["leads"]) tE) (n1 (fU "mended" 61) tE)) (nd (fU "total" 24) (n1 aoa akJ) (n1 (⟨.none,none,.fields ⟨i3 281 4 459 <|i3 287 4 466 <|i3 290 4 473 <|[]⟩,⟨[]⟩⟩) amk))) (nd q99 (nd (cU "minus" 382 58 2 3 158 387) (n1 amE fE) (n1 tE (fU "_law_is_ratio" 91))) (nd am8 (n1 ajN fE) (n1 wA tE)))) (nd fE (nd (wT 31) (nd tE (n1 tE (fT "__init__" "Toss.__init__" (gO 78 0))) (n1 ajU amO)) (nd fE (n1 tE am1) (n1 akO anR))) (nd akY (nd tE (n1 aof tE) (n1 akz fE)) (nd (fU "lowest" 34) (n1 akN tE) (n1 (wS 498) ajH))))) (nd (wC "HallError" 198 5 25 201) (nd (q43 P) (nd fE (nd (tN 359 RB) (n2 (fU "number_at" 38) tE fE) (n1 aom fE)) (nd (cU "greatest" 430 75 1 3 198 436) (n1 alN tE) (n1 alE fE))) (nd (wC "NoPlan" 305 20 105 308) (nd amC (n1 tE (wB 553)) (n1 (fU "check_room_name" 71) tE)) (nd alO (n1 tE (tN 1007 d7)) (n1 (tN 834 yR) (fU "_law_size" 103))))) (nd (wT 31) (nd fE (nd (fU "plus" 17) (n1 fE (wT 517)) (n1 tE tE)) (nd (tN 458 vG) (n1 tE tE) (n1 (tN 808 ["leads","name","pay"]) akL))) (nd (tN 333 ["thing"]) (nd fE (n1 tE fE) (n1 fE (fU "_law_share" 95))) (nd tE (n1 fE amd) (n1 (wF 506 503 "chancehall.doors" 736) anq))))))) (nd (boot_o_5 P) (nd (boot_o_9 P) (nd (tN 190 ["k"]) (nd (wS 31) (nd (wF 64 61 "chancehall.errors" 194) (nd fE (n2 fE ajK akF) (n1 tE (wS 638))) (nd (tN 425 Sx) (n1 fE tE) (n1 (aqd P) tE))) (nd (tN 298 ["room"]) (nd tE (n1 tE (wF 544 541 "chancehall.doors" 736)) (n1 fE (tN 1082 xg))) (nd fE (n1 (fU "chosen_doors" 54) anh) (n1 (wB 477) fE)))) (nd (q49 P) (nd (wS 80) (nd fE (n1 alY an6) (n1 (fU "best_of" 63) tE)) (nd akp (n1 akm (fT "__init__" "Hall.__init__" (gO 85 0))) (n1 (fT "ways" "Door.ways" (gO 75 1)) (fU "_law_built" 99)))) (nd (fT "__init__" "NoPlan.__init__" (gO 8 0)) (nd (cU "over" 398 62 2 3 172 403) (n1 (fU "reduced" 44) am0) (n1 tE ak7)) (nd tE (n1 fE fE) (n1 (alU P) tE))))) (nd tE (nd (wF 40 37 "chancehall.errors" 194) (nd (q73 P) (nd tE (n2 (tN 519 yx) wA amS) (n1 tE alm)) (nd tE (n1 (fU "odd_row" 49) wA) (n1 tE anQ))) (nd tE (nd (fU "times" 19) (n1 fE anu) (n1 (tN 749 ["room"]) akG)) (nd (fU "raised_look" 31) (n1 akE tE) (n1 tE (tN 1177 Yg))))) (nd (wS 56) (nd (wF 88 85 "chancehall.errors" 194) (nd (tN 377 cR) (n1 akh (wS 536)) (n1 anA fE)) (nd tE (n1 fE (cO "size" "Hall.size" 982 350 1 3 596 986)) (n1 aod tE))) (nd tE (nd am4 (n1 anU ajJ) (n1 am9 aj7)) (nd amv (n1 ak1 (fT "offers" "Hall.offers" (gO 85 6))) (n1 (⟨.none,none,.fields ⟨i3 300 4 513 <|[]⟩,⟨[]⟩⟩) (fU "_law_sum" 105))))))) (nd o13 (nd q21 (nd (q37 P) (nd (wS 68) (nd (cU "divisor" 337 28 2 3 128 345) (n2 akS anC als) (n1 anb (tN 1043 Xq))) (nd amb (n1 tE (fU "offers_of" 84)) (n1 (wF 452 449 "chancehall.doors" 736) tE))) (nd (wB 99) (nd tE (n1 (fU "begin_row" 42) alI) (n1 am2 anJ)) (nd tE (n1 fE tE) (n1 tE akl)))) (nd (wF 52 49 "chancehall.errors" 194) (nd (q85 P) (nd (cU "is_ratio" 365 48 1 3 144 371) (n1 ajE an0) (n1 fE (fU "_law_gcd" 89))) (nd tE (n1 (fU "single_rows" 51) fE) (n1 fE fE))) (nd (ak5 P) (nd (tN 409 cR) (n1 fE (tN 935 uJ)) (n1 tE akQ)) (nd alX (n1 tE aop) (n1 (wT 477) tE))))) (nd tE (nd (wS 44) (nd (wF 76 73 "chancehall.errors" 194) (nd (fU "ratio" 15) (n2 anz (wC "Toss" 875 304 523 878) tE) (n1 tE tE)) (nd tE (n1 fE (wC "Hall" 966 342 587 969)) (n1 tE amq))) (nd tE (nd fE (n1 alo fE) (n1 aj2 (tN 1096 wR))) (nd fE (n1 (fU "turned" 56) (fT "check_room" "Hall.check_room" (gO 85 4))) (n1 (fT "__init__" "Sure.__init__" (gO 76 0)) anS)))) (nd (q61 P) (nd tE (nd ajL (n1 tE (apv P)) (n1 (fU "is_word" 68) akn)) (nd (fU "check_plan" 29) (n1 al1 (tN 992 ["self"])) (n1 amT (fU "_law_chosen" 101)))) (nd (fU "is_whole" 10) (nd (cV "level" 416 67 1 3 186 419) (n1 (fU "with_rights" 47) tE) (n1 amu amK)) (nd (fU "row_plus" 36) (n1 tE (ajR P)) (n1 fE fE)))))))) (nd (boot_o_2 P) (nd (boot_o_4 P) (nd (boot_o_8 P) (nd fE (nd (wG 209 31) (nd (wC "NoChance" 248 11 62 251) (nd tE (n2 tE (fT "__init__" "Mixed.__init__" (gO 77 0)) (fU "_law_odd" 106)) (n1 amt (wG 1033 638))) (nd fE (n1 tE am6) (n1 wA an1))) (nd q96 (nd (tN 385 cR) (n1 amM (wC "Even" 903 310 542 906)) (n1 tE fE)) (nd tE (n1 fE (cO "names" "Hall.names" 989 353 1 3 603 993)) (n1 (wS 477) tE)))) (nd wA (nd q80 (nd tE (n2 (fU "fractions_of" 39) fE akb) (n1 tE alF)) (nd akx (n1 (fU "answer_of" 50) fE) (n1 tE fE))) (nd tE (nd (fU "over" 20) (n1 fE (fU "check_share" 81)) (n1 (tN 756 ["chance"]) amw)) (nd aj1 (n1 tE tE) (n1 (tN 841 ["leads"]) alw))))) (nd (q24 P) (nd (wC "NoNumber" 216 7 38 219) (nd wA (nd alK (n2 fE (wT 517) ama) (n1 (tN 698 Bw) amQ)) (nd (tN 433 Ci) (n1 tE tE) (n1 (tN 787 zK) akI))) (nd (apQ P) (nd tE (n1 tE (ak2 P)) (n1 fE (fU "_law_are_ratios" 92))) (nd tE (n1 (fU "left_rows" 55) alH) (n1 (wF 487 484 "chancehall.doors" 736) fE)))) (nd q56 (nd (wC "NoRoom" 280 15 86 283) (nd fE (n1 ak6 akZ) (n1 (fU "lacks_of" 65) tE)) (nd ani (n1 tE (fT "size" "Hall.size" (gO 85 1))) (n1 (fT "chance_to" "Door.chance_to" (gO 75 2)) akC))) (nd (wB 118) (nd (cU "under" 406 64 2 3 179 411) (n1 (fU "width_of" 46) anF) (n1 akU fE)) (nd (fU "row_times" 35) (n1 ak0 fE) (n1 tE tE)))))) (nd (⟨.none,none,.fields ⟨i3 1 0 20 <|i3 5 0 27 <|i3 7 0 40 <|i3 9 0 52 <|i3 11 0 64 <|i3 13 0 76 <|i3 15 0 88 <|i3 20 0 107 <|i3 26 0 126 <|i3 28 0 133 <|i3 39 0 142 <|i3 48 0 149 <|i3 56 0 156 <|i3 58 0 163 <|i3 60 0 170 <|i3 62 0 177 <|i3 64 0 184 <|i3 67 0 189 <|i3 72 0 196 <|i3 75 0 203 <|i3 82 0 208 <|i3 84 0 215 <|i3 88 0 222 <|i3 95 0 227 <|i3 98 0 234 <|i3 101 0 239 <|i3 106 0 244 <|i3 111 0 249 <|i3 113 0 254 <|i3 120 0 261 <|i3 129 0 268 <|i3 131 0 273 <|i3 133 0 280 <|i3 138 0 287 <|i3 141 0 294 <|i3 147 0 301 <|i3 152 0 306 <|i3 164 0 313 <|i3 168 0 318 <|i3 170 0 323 <|i3 177 0 330 <|i3 182 0 337 <|i3 187 0 342 <|i3 189 0 349 <|i3 197 0 354 <|i3 199 0 361 <|i3 206 0 366 <|i3 208 0 371 <|i3 213 0 376 <|i3 219 0 383 <|i3 224 0 388 <|i3 232 0 395 <|i3 240 0 402 <|i3 243 0 409 <|i3 252 0 414 <|i3 257 0 421 <|i3 262 0 428 <|i3 265 0 435 <|i3 268 0 440 <|i3 274 0 445 <|i3 279 0 452 <|i3 292 0 487 <|i3 298 0 506 <|i3 304 0 525 <|i3 310 0 544 <|i3 315 0 561 <|i3 318 0 568 <|i3 326 0 575 <|i3 333 0 582 <|i3 342 0 589 <|i3 372 0 648 <|i3 374 0 655 <|i3 385 0 662 <|i3 390 0 669 <|i3 393 0 676 <|i3 400 0 681 <|i3 404 0 688 <|i3 406 0 693 <|i3 415 0 700 <|i3 419 0 707 <|i3 427 0 712 <|i3 444 0 717 <|i3 458 0 722 <|i3 468 0 727 <|i3 475 0 734 <|i3 484 0 741 <|i3 494 0 748 <|i3 501 0 755 <|i3 512 0 762 <|i3 519 0 769 <|i3 523 0 776 <|i3 537 0 783 <|[]⟩,⟨[]⟩⟩) (nd (cU "_wall" 187 1 1 3 15 191) (nd wA (nd q68 (nd (fU "divisor" 11) (n2 (fU "take_step" 37) (akk P) fE) (n1 (cV "mended" 689 224 3 3 385 692) fE)) (nd (cU "total" 422 72 1 3 191 427) (n1 ajO tE) (n1 (wC "Door" 774 279 450 777) aoo))) (nd (wS 99) (nd ame (n1 tE (fT "__init__" "Even.__init__" (gO 79 0))) (n1 (fU "check_head" 70) am5)) (nd anV (n1 tE (tN 999 Dm)) (n1 (aoL P) (fU "_law_look" 102))))) (nd (wC "NoName" 232 9 50 235) (nd wA (nd (fU "is_ratio" 16) (n1 fE amr) (n1 tE tE)) (nd (tN 450 Yi) (n1 fE tE) (n1 tE tE))) (nd (tN 323 ["room"]) (nd fE (n1 tE fE) (n1 amW (fU "_law_names" 94))) (nd (cV "lowest" 489 106 2 3 241 492) (n1 alh (fT "door_at" "Hall.door_at" (gO 85 5))) (n1 (wB 498) al5))))) (nd (wF 27 24 "chancehall.errors" 194) (nd q44 (nd (wC "NoShare" 264 13 74 267) (nd tE (n2 alc (⟨.none,none,.fields ⟨i3 306 4 532 <|[]⟩,⟨[]⟩⟩) ane) (n1 aoj anc)) (nd ald (n1 tE (⟨.none,none,.fields ⟨i3 344 4 594 <|i3 350 4 601 <|i3 353 4 608 <|i3 356 4 615 <|i3 361 4 622 <|i3 365 4 629 <|i3 368 4 634 <|[]⟩,⟨[]⟩⟩)) (n1 anx (fU "_law_doors" 98)))) (nd (wF 107 104 "chancehall.errors" 194) (nd tE (n1 (fU "clear_column" 43) tE) (n1 amR fE)) (nd tE (n1 fE tE) (n1 tE akK)))) (nd wA (nd (tN 293 d7) (nd (cU "plus" 374 56 2 3 151 379) (n1 (tN 543 RP) wA) (n1 fE (fU "_law_ratio" 90))) (nd tE (n1 (fU "only_answer" 52) fE) (n1 (aj4 P) tE))) (nd tE (nd (fU "level" 23) (n1 fE ajF) (n1 (fU "joined_ways" 74) aln)) (nd fE (n1 (tN 683 rT) (tN 1027 ["numbers","offered","share"])) (n1 tE tE))))))) (nd (boot_o_6 P) (nd (boot_o_10 P) (nd tE (nd (wB 31) (nd tE (nd akv (n2 (tN 510 xX) alp amf) (n1 fE (wB 638))) (nd tE (n1 (fU "begins_of" 48) fE) (n1 tE (fU "_law_pay" 96)))) (nd (q98 P) (nd (fU "minus" 18) (n1 fE tE) (n1 (tN 741 vQ) tE)) (nd (fU "behind_door" 30) (n1 aku tE) (n1 (wT 477) aoi)))) (nd tE (nd (wB 80) (nd (tN 368 BX) (n1 akt tE) (n1 (cU "best_of" 705 240 1 3 397 709) fE)) (nd tE (n1 ake akB) (n1 (cO "ways" "Door.ways" 793 287 1 3 461 797) anL))) (nd anf (nd an7 (n1 (cV "reduced" 573 152 2 3 303 576) ant) (n1 (fU "check_chance" 72) tE)) (nd fE (n1 (fU "worths_of" 57) (tN 1015 w5)) (n1 anT (fU "_law_right" 104)))))) (nd fE (nd tE (nd tE (nd fE (n2 tE (aps P) tE) (n1 (fU "mendings" 62) tE)) (nd (fU "greatest" 25) (n1 (cU "odd_row" 600 177 3 3 325 607) (ao9 P)) (n1 (fT "__init__" "Door.__init__" (gO 75 0)) tE))) (nd (⟨.none,none,.fields ⟨i3 22 4 114 <|[]⟩,⟨[]⟩⟩) (nd (cU "times" 390 60 2 3 165 395) (n1 amc (wS 553)) (n1 tE ajI)) (nd al6 (n1 alx fE) (n1 fE tE)))) (nd (wB 56) (nd tE (nd tE (n1 tE (wB 536)) (n1 aml aj8)) (nd fE (n1 amh amN) (n1 amG fE))) (nd fE (nd tE (n1 akd tE) (n1 tE tE)) (nd ajQ (n1 tE ale) (n1 (wC "Mixed" 848 298 504 851) amY)))))) (nd o14 (nd q22 (nd tE (nd (wB 68) (nd akD (n2 anG (wS 517) tE) (n1 tE tE)) (nd tE (n1 fE alJ) (n1 tE fE))) (nd (wT 31) (nd fE (n1 ank alV) (n1 anI tE)) (nd fE (n1 amA (fT "place" "Hall.place" (gO 85 3))) (n1 (⟨.none,none,.fields ⟨i3 294 4 494 <|[]⟩,⟨[]⟩⟩) akr)))) (nd tE (nd tE (nd ajT (n1 tE tE) (n1 amg ajM)) (nd (fU "fits" 28) (n1 alq (tN 985 ["self"])) (n1 (tN 803 d7) (fU "_law_hall" 100)))) (nd alC (nd tE (n1 (tN 584 ["rows"]) tE) (n1 fE alR)) (nd tE (n1 fE amH) (n1 wA fE))))) (nd (q30 P) (nd (wB 44) (nd tE (nd (cU "ratio" 356 39 2 3 137 362) (n2 tE (wF 525 522 "chancehall.doors" 736) (fU "_law_refused" 108)) (n1 fE (fU "_law_stream" 88))) (nd fE (n1 alb (wF 589 586 "chancehall.halls" 923)) (n1 fE ajZ))) (nd fE (nd (tN 401 cR) (n1 ajV (tN 928 ["share"])) (n1 tE tE)) (nd (fU "looks" 32) (n1 (cV "turned" 660 206 1 3 363 663) alB) (n1 alj tE)))) (nd tE (nd (fT "__init__" "NoRoom.__init__" (gO 7 0)) (nd tE (n1 (fU "go_on" 41) tE) (n1 (cV "is_word" 730 252 1 3 411 733) alQ)) (nd akA (n1 amy tE) (n1 ako alS))) (nd (cU "is_whole" 330 26 1 3 121 334) (nd amn (n1 anr (fU "numbered_ways" 83)) (n1 amL tE)) (nd ajS (n1 (fU "better_door" 60) ajW) (n1 (tN 861 uM) (tN 1209 fB)))))))))
def S1(w:World)(os:OsState):SharedT:=⟨tr1 w.params,785,{},⟨[]⟩,{},1237,os⟩
def e1:Pos:=⟨537,0,542,25⟩
def KH:Params->Frag:=λP=>((nat_lit 2,boot_o_2 P)::(nat_lit 3,zM P [("_law_plan_told",1250,791),("law",1271,798)] 106)::(nat_lit 15,tE)::(nat_lit 17,tN 190 ["k"])::(nat_lit 18,tE)::(nat_lit 20,cU "_wall" 187 1 1 3 15 191)::(nat_lit 21,q21)::(nat_lit 22,q22)::(nat_lit 29,tE)::(nat_lit 30,q30 P)::(nat_lit 31,q31)::(nat_lit 32,(wG 209 31))::(nat_lit 35,(wT 31))::(nat_lit 42,tE)::(nat_lit 43,q43 P)::(nat_lit 44,q44)::(nat_lit 47,(wT 31))::(nat_lit 54,tE)::(nat_lit 55,q55 P)::(nat_lit 56,q56)::(nat_lit 59,(wT 31))::(nat_lit 66,tE)::(nat_lit 67,q67 P)::(nat_lit 68,q68)::(nat_lit 71,(wT 31))::(nat_lit 78,tE)::(nat_lit 79,q79 P)::(nat_lit 80,q80)::(nat_lit 83,(wT 31))::(nat_lit 90,tE)::(nat_lit 92,tN 293 d7)::(nat_lit 93,tE)::(nat_lit 95,q95)::(nat_lit 96,q96)::(nat_lit 97,tN 298 ["room"])::(nat_lit 98,q98 P)::(nat_lit 99,q99)::(nat_lit 102,(wT 31))::(nat_lit 109,tE)::(nat_lit 111,tN 318 d7)::(nat_lit 112,tE)::(nat_lit 114,anf)::(nat_lit 115,akY)::(nat_lit 116,tN 323 ["room"])::(nat_lit 117,ak5 P)::(nat_lit 118,alC)::(nat_lit 121,tE)::(nat_lit 123,tN 333 ["thing"])::(nat_lit 124,tE)::(nat_lit 126,cU "is_whole" 330 26 1 3 121 334)::(nat_lit 127,aoc)::(nat_lit 128,tE)::(nat_lit 130,akv)::(nat_lit 131,tE)::(nat_lit 133,cU "divisor" 337 28 2 3 128 345)::(nat_lit 134,akD)::(nat_lit 135,alA)::(nat_lit 136,alK)::(nat_lit 137,tE)::(nat_lit 139,tN 359 RB)::(nat_lit 140,tE)::(nat_lit 142,cU "ratio" 356 39 2 3 137 362)::(nat_lit 143,akg)::(nat_lit 144,tE)::(nat_lit 146,tN 368 BX)::(nat_lit 147,tE)::(nat_lit 149,cU "is_ratio" 365 48 1 3 144 371)::(nat_lit 150,ajT)::(nat_lit 151,tE)::(nat_lit 153,tN 377 cR)::(nat_lit 154,tE)::(nat_lit 156,cU "plus" 374 56 2 3 151 379)::(nat_lit 157,ajL)::(nat_lit 158,tE)::(nat_lit 160,tN 385 cR)::(nat_lit 161,tE)::(nat_lit 163,cU "minus" 382 58 2 3 158 387)::(nat_lit 164,ame)::(nat_lit 165,tE)::(nat_lit 167,tN 393 cR)::(nat_lit 168,tE)::(nat_lit 170,cU "times" 390 60 2 3 165 395)::(nat_lit 171,amC)::(nat_lit 172,tE)::(nat_lit 174,tN 401 cR)::(nat_lit 175,tE)::(nat_lit 177,cU "over" 398 62 2 3 172 403)::(nat_lit 178,an7)::(nat_lit 179,tE)::(nat_lit 181,tN 409 cR)::(nat_lit 182,tE)::(nat_lit 184,cU "under" 406 64 2 3 179 411)::(nat_lit 185,am4)::(nat_lit 186,tE)::(nat_lit 189,cV "level" 416 67 1 3 186 419)::(nat_lit 190,amn)::(nat_lit 191,tE)::(nat_lit 193,tN 425 Sx)::(nat_lit 194,tE)::(nat_lit 196,cU "total" 422 72 1 3 191 427)::(nat_lit 197,amb)::(nat_lit 198,tE)::(nat_lit 200,tN 433 Ci)::(nat_lit 201,tE)::(nat_lit 203,cU "greatest" 430 75 1 3 198 436)::(nat_lit 204,ald)::(nat_lit 205,tE)::(nat_lit 208,akx)::(nat_lit 209,akp)::(nat_lit 210,tE)::(nat_lit 212,tN 450 Yi)::(nat_lit 213,tE)::(nat_lit 215,cU "fits" 447 84 2 3 210 452)::(nat_lit 216,ani)::(nat_lit 217,tE)::(nat_lit 219,tN 458 vG)::(nat_lit 220,tE)::(nat_lit 222,akA)::(nat_lit 223,amI)::(nat_lit 224,tE)::(nat_lit 227,am8)::(nat_lit 228,anV)::(nat_lit 229,tE)::(nat_lit 231,amZ)::(nat_lit 232,tE)::(nat_lit 234,al6)::(nat_lit 235,alO)::(nat_lit 236,tE)::(nat_lit 239,cV "looks" 481 101 3 3 236 484)::(nat_lit 240,aj1)::(nat_lit 241,tE)::(nat_lit 244,cV "lowest" 489 106 2 3 241 492)::(nat_lit 245,alX)::(nat_lit 246,tE)::(nat_lit 249,amv)::(nat_lit 250,ajQ)::(nat_lit 251,tE)::(nat_lit 254,ajS)::(nat_lit 255,akf)::(nat_lit 256,tE)::(nat_lit 258,tN 510 xX)::(nat_lit 259,tE)::(nat_lit 261,akS)::(nat_lit 262,anG)::(nat_lit 263,tE)::(nat_lit 265,tN 519 yx)::(nat_lit 266,tE)::(nat_lit 268,alc)::(nat_lit 269,anz)::(nat_lit 270,tE)::(nat_lit 273,alY)::(nat_lit 274,akt)::(nat_lit 275,tE)::(nat_lit 277,ajE)::(nat_lit 278,tE)::(nat_lit 280,ak6)::(nat_lit 281,akh)::(nat_lit 282,tE)::(nat_lit 284,tN 543 RP)::(nat_lit 285,tE)::(nat_lit 287,cU "go_on" 540 138 3 3 282 546)::(nat_lit 288,amM)::(nat_lit 289,tE)::(nat_lit 291,amE)::(nat_lit 292,tE)::(nat_lit 294,ank)::(nat_lit 295,aky)::(nat_lit 296,tE)::(nat_lit 298,amc)::(nat_lit 299,tE)::(nat_lit 301,alo)::(nat_lit 302,ajV)::(nat_lit 303,tE)::(nat_lit 306,cV "reduced" 573 152 2 3 303 576)::(nat_lit 307,aof)::(nat_lit 308,tE)::(nat_lit 310,tN 584 ["rows"])::(nat_lit 311,tE)::(nat_lit 313,anU)::(nat_lit 314,akd)::(nat_lit 315,tE)::(nat_lit 318,anr)::(nat_lit 319,aoq)::(nat_lit 320,tE)::(nat_lit 323,aoa)::(nat_lit 324,ajO)::(nat_lit 325,tE)::(nat_lit 327,tN 603 Gd)::(nat_lit 328,tE)::(nat_lit 330,cU "odd_row" 600 177 3 3 325 607)::(nat_lit 331,alN)::(nat_lit 332,tE)::(nat_lit 334,alb)::(nat_lit 335,tE)::(nat_lit 337,akm)::(nat_lit 338,ake)::(nat_lit 339,tE)::(nat_lit 342,alq)::(nat_lit 343,ami)::(nat_lit 344,tE)::(nat_lit 346,amh)::(nat_lit 347,tE)::(nat_lit 349,al1)::(nat_lit 350,amy)::(nat_lit 351,tE)::(nat_lit 354,aku)::(nat_lit 355,ajN)::(nat_lit 356,tE)::(nat_lit 358,amA)::(nat_lit 359,tE)::(nat_lit 361,akE)::(nat_lit 362,alx)::(nat_lit 363,tE)::(nat_lit 366,cV "turned" 660 206 1 3 363 663)::(nat_lit 367,amJ)::(nat_lit 368,tE)::(nat_lit 371,akN)::(nat_lit 372,alh)::(nat_lit 373,tE)::(nat_lit 376,ak0)::(nat_lit 377,ak1)::(nat_lit 378,tE)::(nat_lit 380,tN 683 rT)::(nat_lit 381,tE)::(nat_lit 383,alf)::(nat_lit 384,amt)::(nat_lit 385,tE)::(nat_lit 388,cV "mended" 689 224 3 3 385 692)::(nat_lit 389,anb)::(nat_lit 390,tE)::(nat_lit 392,tN 698 Bw)::(nat_lit 393,tE)::(nat_lit 395,aom)::(nat_lit 396,aoj)::(nat_lit 397,tE)::(nat_lit 399,tN 708 ["hall"])::(nat_lit 400,tE)::(nat_lit 402,cU "best_of" 705 240 1 3 397 709)::(nat_lit 403,ajU)::(nat_lit 404,tE)::(nat_lit 406,amg)::(nat_lit 407,tE)::(nat_lit 409,anA)::(nat_lit 410,aml)::(nat_lit 411,tE)::(nat_lit 414,cV "is_word" 730 252 1 3 411 733)::(nat_lit 415,alk)::(nat_lit 416,tE)::(nat_lit 418,tN 741 vQ)::(nat_lit 419,tE)::(nat_lit 421,am2)::(nat_lit 422,anI)::(nat_lit 423,tE)::(nat_lit 425,tN 749 ["room"])::(nat_lit 426,tE)::(nat_lit 428,amR)::(nat_lit 429,aj2)::(nat_lit 430,tE)::(nat_lit 432,tN 756 ["chance"])::(nat_lit 433,tE)::(nat_lit 435,akz)::(nat_lit 436,amW)::(nat_lit 437,tE)::(nat_lit 440,akU)::(nat_lit 441,am9)::(nat_lit 442,tE)::(nat_lit 445,amu)::(nat_lit 446,amL)::(nat_lit 454,tE)::(nat_lit 456,tN 787 zK)::(nat_lit 457,tE)::(nat_lit 459,alE)::(nat_lit 460,anx)::(nat_lit 461,tE)::(nat_lit 463,tN 796 ["self"])::(nat_lit 464,tE)::(nat_lit 466,cO "ways" "Door.ways" 793 287 1 3 461 797)::(nat_lit 467,akO)::(nat_lit 468,tE)::(nat_lit 470,tN 803 d7)::(nat_lit 471,tE)::(nat_lit 473,aod)::(nat_lit 474,amG)::(nat_lit 475,tN 808 ["leads","name","pay"])::(nat_lit 476,aj4 P)::(nat_lit 477,amT)::(nat_lit 478,ako)::(nat_lit 479,(wG 814 477))::(nat_lit 482,(wT 477))::(nat_lit 489,tE)::(nat_lit 491,tN 834 yR)::(nat_lit 492,tE)::(nat_lit 494,alj)::(nat_lit 495,anw)::(nat_lit 496,tN 841 ["leads"])::(nat_lit 497,alU P)::(nat_lit 498,anT)::(nat_lit 501,(wT 477))::(nat_lit 508,tE)::(nat_lit 510,tN 861 uM)::(nat_lit 511,tE)::(nat_lit 513,ajK)::(nat_lit 514,alp)::(nat_lit 515,tN 868 ["leads"])::(nat_lit 516,akk P)::(nat_lit 517,anC)::(nat_lit 520,(wT 517))::(nat_lit 527,tE)::(nat_lit 529,an6)::(nat_lit 530,tE)::(nat_lit 532,amr)::(nat_lit 533,an0)::(nat_lit 534,tE)::(nat_lit 535,ali P)::(nat_lit 536,akZ)::(nat_lit 539,(wT 517))::(nat_lit 546,tE)::(nat_lit 549,alI)::(nat_lit 550,alV)::(nat_lit 551,tE)::(nat_lit 552,ak2 P)::(nat_lit 553,anu)::(nat_lit 556,tE)::(nat_lit 558,tN 928 ["share"])::(nat_lit 559,tE)::(nat_lit 561,am0)::(nat_lit 562,ant)::(nat_lit 563,tE)::(nat_lit 565,tN 935 uJ)::(nat_lit 566,tE)::(nat_lit 568,anF)::(nat_lit 569,ajJ)::(nat_lit 570,tE)::(nat_lit 572,ajF)::(nat_lit 573,tE)::(nat_lit 575,amB)::(nat_lit 576,am6)::(nat_lit 577,tE)::(nat_lit 579,akJ)::(nat_lit 580,tE)::(nat_lit 582,alJ)::(nat_lit 583,an4)::(nat_lit 591,tE)::(nat_lit 594,akB)::(nat_lit 595,am1)::(nat_lit 596,tE)::(nat_lit 598,tN 985 ["self"])::(nat_lit 599,tE)::(nat_lit 601,cO "size" "Hall.size" 982 350 1 3 596 986)::(nat_lit 602,amN)::(nat_lit 603,tE)::(nat_lit 605,tN 992 ["self"])::(nat_lit 606,tE)::(nat_lit 608,cO "names" "Hall.names" 989 353 1 3 603 993)::(nat_lit 609,anh)::(nat_lit 610,tE)::(nat_lit 612,tN 999 Dm)::(nat_lit 613,tE)::(nat_lit 615,amD)::(nat_lit 616,alH)::(nat_lit 617,tE)::(nat_lit 619,tN 1007 d7)::(nat_lit 620,tE)::(nat_lit 622,alB)::(nat_lit 623,aj3)::(nat_lit 624,tE)::(nat_lit 626,tN 1015 w5)::(nat_lit 627,tE)::(nat_lit 629,aop)::(nat_lit 630,amH)::(nat_lit 631,tE)::(nat_lit 634,ale)::(nat_lit 635,amd)::(nat_lit 636,tN 1027 ["numbers","offered","share"])::(nat_lit 637,ajR P)::(nat_lit 638,ajW)::(nat_lit 639,akq)::(nat_lit 640,(wG 1033 638))::(nat_lit 643,tE)::(nat_lit 645,tN 1043 Xq)::(nat_lit 646,tE)::(nat_lit 648,amQ)::(nat_lit 649,alm)::(nat_lit 650,tE)::(nat_lit 652,anc)::(nat_lit 653,tE)::(nat_lit 655,amo)::(nat_lit 656,alF)::(nat_lit 657,tE)::(nat_lit 659,amO)::(nat_lit 660,tE)::(nat_lit 662,ajM)::(nat_lit 663,amX)::(nat_lit 664,tE)::(nat_lit 666,aj8)::(nat_lit 667,tE)::(nat_lit 669,akn)::(nat_lit 670,alQ)::(nat_lit 671,tE)::(nat_lit 673,tN 1082 xg)::(nat_lit 674,tE)::(nat_lit 676,am5)::(nat_lit 677,anJ)::(nat_lit 678,tE)::(nat_lit 681,akG)::(nat_lit 682,ajI)::(nat_lit 683,tE)::(nat_lit 685,tN 1096 wR)::(nat_lit 686,tE)::(nat_lit 688,amw)::(nat_lit 689,ak7)::(nat_lit 690,tE)::(nat_lit 693,akQ)::(nat_lit 694,alR)::(nat_lit 695,tE)::(nat_lit 697,aj7)::(nat_lit 698,tE)::(nat_lit 700,aln)::(nat_lit 701,amK)::(nat_lit 702,tE)::(nat_lit 704,an1)::(nat_lit 705,tE)::(nat_lit 707,amk)::(nat_lit 708,aoo)::(nat_lit 709,tE)::(nat_lit 712,akI)::(nat_lit 713,anQ)::(nat_lit 714,tE)::(nat_lit 717,amq)::(nat_lit 718,ajZ)::(nat_lit 719,tE)::(nat_lit 722,anL)::(nat_lit 723,anR)::(nat_lit 724,tE)::(nat_lit 727,aot)::(nat_lit 728,akC)::(nat_lit 729,tE)::(nat_lit 731,akL)::(nat_lit 732,tE)::(nat_lit 734,alS)::(nat_lit 735,ajY)::(nat_lit 736,tE)::(nat_lit 738,aoi)::(nat_lit 739,tE)::(nat_lit 741,akl)::(nat_lit 742,akr)::(nat_lit 743,tE)::(nat_lit 745,tN 1177 Yg)::(nat_lit 746,tE)::(nat_lit 748,akK)::(nat_lit 749,anS)::(nat_lit 750,tE)::(nat_lit 752,alw)::(nat_lit 753,tE)::(nat_lit 755,ajH)::(nat_lit 756,al5)::(nat_lit 757,tE)::(nat_lit 759,al9)::(nat_lit 760,tE)::(nat_lit 762,amY)::(nat_lit 763,anq)::(nat_lit 764,tE)::(nat_lit 766,tN 1209 fB)::(nat_lit 767,tE)::(nat_lit 769,akF)::(nat_lit 770,amf)::(nat_lit 771,tE)::(nat_lit 773,als)::(nat_lit 774,tE)::(nat_lit 776,ama)::(nat_lit 777,amS)::(nat_lit 778,tE)::(nat_lit 780,ane)::(nat_lit 781,tE)::(nat_lit 783,anj)::(nat_lit 784,akb)::(nat_lit 785,tE)::(nat_lit 787,tN 1240 Hj)::(nat_lit 788,tE)::(nat_lit 790,cU "_law_plan_told" 1237 543 4 3 785 1248)::(nat_lit 791,fV "_law_plan_told" 109 oA 790)::(nat_lit 792,tE)::(nat_lit 794,tN 1254 ["_law_script","_law_share_here","_law_many","_law_rooms","_law_hall_here","_law_plan","_law_xs","_law_own","_law_best","_law_handed","_law_held","_law_start","_law_some","_law_visit","_law_lack"])::(nat_lit 795,tE)::(nat_lit 797,cU "law" 1251 547 1 3 792 1269)::(nat_lit 798,fV "law" 110 oA 797)::([]:List (Nat×Obj)))
abbrev asH:List Nat:=(KH {strHash:=λ_=>0,shareClass:=λ_=>0,mergeTok:=id,idOf:=λ_=>0,idOfShared:=λ_ _=>0,followText:=λ_=>true,idOfImm:=λ_=>0}).map (·.1)
end
noncomputable def qv:Program:=view p [0,2,3,4,5,6,7,8,10,11,13,14,15,16,17,18,19,20,21,23,24,25,27,28,29,30,31,32,34,35,36,37,38,39,40,41,42,43,44,46,47,48,49,50,51,52,54,55,56,57,58,60,61,62,63,65,67,68,70,71,72,73,74,75,76,77,78,79,81,82,83,84,85,87,88,89,90,91,92,93,94,95,96,97,98,99,100,101,102,103,104,105,106,107,108,109,110]
abbrev R:RowW:=PySem.Challenge.rw_chancehall_k29_lacks.row.toRowW
noncomputable def Xt(s:Shared):Bool:=xlAt qv [] s&&recOk R.records s
def e:Pos:=⟨547,0,573,64⟩
set_option maxHeartbeats 0
def lko:looksOpen PySem.Challenge.rw_chancehall_k29_lacks.row.prog=true:=by kernel_rfl
def wsd:PySem.Challenge.rw_chancehall_k29_lacks.wellSaid=true:=by
 unfold OpenLaw.wellSaid OpenRow.wellSaid OpenRow.partSaid;rw[lko]
 kernel_rfl
def asK:∀P,asH=(KH P).map (·.1):=λ_=>by kernel_rfl
def pre(w:World):(λos=>topGo treeTable p w 11 ann 12 (S0 w os) (topStub p))=λos=>some (Sa w os,⟨denote treeTable (cE p),cE p,z,B⟩):=by
 rw[Fast.te15667345088766844465,Fast.te14364793385576792824,Fast.te11892475500146522536];kernel_rfl
def block(w:World):(λos=>segRun treeTable p w 11 ann 1 1 (Sa w os) (blockOf (behindTheImports p) (env p) (cE p) z B))=λos=>some (.next,(Sb w os).abs,cE p,z):=by
 rw[Fast.te14374325043358763698,Fast.te14364793385576792824];kernel_rfl
def ak8(w:World):(λos=>segRunT treeTable p w 11 ann 1 30000 (Sb w os) (piecesOf ((behindTheImports p).take 109) (env p) (cE p) z B))=λos=>some (.next,S1 w os,cE p,e1):=by
 rw[Fast.te10110043849684766642,Fast.te14364793385576792824];kernel_rfl
def comb{R S A B C X Y Z:Type _}{o:Option R}{f:R->A}{g:R->B}{k:R->C}{h:R->Option S}{f1:S->X}{f2:S->Y}{f3:S->Z}{a:A}{b:B}{c:C}{x:X}{y:Y}{z:Z}(h1:(o.map λr=>(f r,g r,k r,(h r).map f1))=some (a,b,c,some x))(h2:(o.map λr=>(f r,g r,k r,(h r).map f2))=some (a,b,c,some y))(h3:(o.map λr=>(f r,g r,k r,(h r).map f3))=some (a,b,c,some z)):(o.map λr=>(f r,g r,k r,(h r).map λs=>(f1 s,f2 s,f3 s)))=some (a,b,c,some (x,y,z)):=by
 cases o with
 |none=>cases h1
 |some r =>
  simp only[Option.map_some,Option.some.injEq,Prod.mk.injEq]at h1 h2 h3 ⊢;obtain⟨a1,a2,a3,a4⟩:=h1;obtain⟨_,_,_,b4⟩:=h2;obtain⟨_,_,_,c4⟩:=h3;cases hr:h r with
  |none=>rw[hr]at a4;cases a4
  |some s =>
   rw[hr]at a4 b4 c4;refine⟨a1,a2,a3,?_⟩;simp only[Option.map_some,Option.some.injEq]at a4 b4 c4 ⊢;rw[a4,b4,c4]
def ao0{R S A B C X Y:Type _}{o:Option R}{f:R->A}{g:R->B}{k:R->C}{h:R->Option S}{f1:S->X}{f2:S->Y}{a:A}{b:B}{c:C}{x:X}{y:Y}(h1:(o.map λr=>(f r,g r,k r,(h r).map f1))=some (a,b,c,some x))(h2:(o.map λr=>(f r,g r,k r,(h r).map f2))=some (a,b,c,some y)):(o.map λr=>(f r,g r,k r,(h r).map λs=>(f1 s,f2 s)))=some (a,b,c,some (x,y)):=by
 cases o with
 |none=>cases h1
 |some r =>
  simp only[Option.map_some,Option.some.injEq,Prod.mk.injEq]at h1 h2 ⊢;obtain⟨a1,a2,a3,a4⟩:=h1;obtain⟨_,_,_,b4⟩:=h2;cases hr:h r with
  |none=>rw[hr]at a4;cases a4
  |some s =>
   rw[hr]at a4 b4;refine⟨a1,a2,a3,?_⟩;simp only[Option.map_some,Option.some.injEq]at a4 b4 ⊢;rw[a4,b4]
noncomputable def sR{α:Type}(w:World)(os:OsState)(f:Shared->α):=(segRunT treeTable p w 11 ann 1 50000 (S1 w os) (piecesOf ((behindTheImports p).drop 109) (env p) (cE p) e1 B)).map λr=>(r.1,r.2.2.1,r.2.2.2,(topRun treeTable p w 11 ann 2 r.2.1.abs ⟨doneF .next,cE p,e,B⟩).map f)
def sn0(w:World):(λos=>sR w os λs=>(openSeen qv [] (importedModules p.main.body) Xt true s).1)=λ_=>some (.next,cE p,e,some ((openGood qv []).1)):=by
 unfold sR;rw[Fast.te10110043849684766642,Fast.te14364793385576792824,Fast.te14082659384304107361,Fast.te4187177175401517315,Fast.te5923862056798008813];kernel_rfl
def sn1(w:World):(λos=>sR w os λs=>(openSeen qv [] (importedModules p.main.body) Xt true s).2)=λ_=>some (.next,cE p,e,some ((openGood qv []).2)):=by
 unfold sR;rw[Fast.te10110043849684766642,Fast.te14364793385576792824,Fast.te14082659384304107361];kernel_rfl
def apy(w:World):(λos=>sR w os λs=>openSeen qv [] (importedModules p.main.body) Xt true s)=λ_=>some (.next,cE p,e,some (openGood qv [])):=funext λos=>ao0 (congrFun (sn0 w) os) (congrFun (sn1 w) os)
def aoX(w:World):(λos=>sR w os λs=>staticsOk (importedModules p.main.body) (boot_heap w.params) s.heap&&namesBound p s.heap&&gensDone s&&laidKept (boot_heap w.params) s.heap)=λ_=>some (.next,cE p,e,some (true)):=by
 unfold sR;rw[Fast.te10110043849684766642,Fast.te14364793385576792824,Fast.te14082659384304107361];kernel_rfl
def aov(w:World):(λos=>sR w os λs=>asH.map s.heap.get?)=λ_=>some (.next,cE p,e,some ((KH w.params).map λp=>some p.2)):=by
 unfold sR;rw[Fast.te10110043849684766642,Fast.te14364793385576792824,Fast.te14082659384304107361];kernel_rfl
def big(w:World):(λos=>sR w os λs=>(staticsOk (importedModules p.main.body) (boot_heap w.params) s.heap&&namesBound p s.heap&&gensDone s&&laidKept (boot_heap w.params) s.heap,openSeen qv [] (importedModules p.main.body) Xt true s,asH.map s.heap.get?))=λ_=>some (.next,cE p,e,some (true,openGood qv [],(KH w.params).map λp=>some p.2)):=funext λos=>comb (congrFun (aoX w) os) (congrFun (apy w) os) (congrFun (aov w) os)
def left:LeftO p qv [] Xt (λs=>asH.map s.heap.get?) (λw=>(KH w.params).map λp=>some p.2) 200000 :=
 aah (boot_open rfl rfl λ_=>rfl) pre block (λw os=>oY.cutAt (congrFun (ak8 w) os) (oY.last (congrFun (big w) os))) rfl
def hX(s:Shared)(h:Xt s=true):XL qv [] (s.heap.nsMap mainGlobals) s.heap:=xl_of s (Bool.and_eq_true_iff.mp h).1
def hR(s:Shared)(h:Xt s=true):RecFacts R.records s.heap:=recFacts_of (Bool.and_eq_true_iff.mp h).2
end H29
noncomputable section
abbrev ze:=List (Option Nat)
abbrev zC:=List (Nat×Rat)
abbrev xj:=List Rat
abbrev xy:=List Int
abbrev xb:=Option Int
abbrev xt:=Option Nat
abbrev xL:=List Nat
abbrev xN:=Option Bool
abbrev wv:=List xj
def wb{p:Prop}(h:p:=by decide):p:=h
def wf{p:Prop}(h:p:=by lia):p:=h
def wp{p:Prop}(h:p:=by simp):p:=h
namespace L2
open PySem PySem.Spec PyProof.Rows
abbrev xA:=List Keyword
abbrev xE:=Array GenState
abbrev xC:=List (Str×NameKind)
abbrev xa:=List PyData
abbrev xn:=List Stmt
abbrev xh:=Array Value
abbrev xo:=List (Str×Value)
abbrev xm:=List Env
abbrev xp:=List (Str×Addr)
abbrev xw:=List (Str×Rat)
abbrev xz:=List Expr
abbrev Key:=Sum Int Str
abbrev xB:=List Key
def Fb:Key->Value->Bool
 |.inl k,v=>Value.isInt k v
 |.inr x,v=>Value.isStrOf x v
def apq(w:World):Key->Int
 |.inl k=>hashInt k
 |.inr x=>hashStr w x
def gJ:∀{k:Key}{v:Value},Fb k v=true->(∃i t,k=Sum.inl i/\v=Value.int i t)\/(∃x t,k=Sum.inr x/\v=Value.str x t)
 |.inl i,v,h=>by
  obtain⟨t,e⟩:=Value.isInt_shape (k:=i) (v:=v) h;exact .inl ⟨i,t,rfl,e⟩
 |.inr x,v,h=>by
  obtain⟨t,e⟩:=Value.isStrOf_shape (x:=x) (v:=v) h;exact .inr ⟨x,t,rfl,e⟩
def aa0(i:Int)(t:Tok):Fb (.inl i) (.int i t)=true:=by simp[Fb,Value.isInt]
def aaJ(x:Str)(t:Tok):Fb (.inr x) (.str x t)=true:=by simp[Fb,Value.isStrOf]
def ahq(a b:Int):decide ((Sum.inl a:Key)=Sum.inl b)=(a==b):=by
 by_cases e:a=b
 .subst e;simp
 .have h:¬(Sum.inl a:Key)=Sum.inl b:=λq=>e (Sum.inl.inj q);rw[Zp h];exact(beq_eq_false_iff_ne.mpr e).symm
def ah3(a b:Str):decide ((Sum.inr a:Key)=Sum.inr b)=decide (a=b):=by
 by_cases e:a=b
 .subst e;simp
 .have h:¬(Sum.inr a:Key)=Sum.inr b:=λq=>e (Sum.inr.inj q);rw[Zp h,Zp e]
def ahX(a:Int)(b:Str):decide ((Sum.inl a:Key)=Sum.inr b)=false:=Zp (λq=>nomatch q)
def ahk(a:Str)(b:Int):decide ((Sum.inr a:Key)=Sum.inl b)=false:=Zp (λq=>nomatch q)
def jJ(prog:Program)(w:World):PySem.KeyKind prog w Key where
 is:=Fb
 hash:=apq w
 inj:=λv a b ha hb=>by
  rcases gJ ha with⟨i,t,rfl,rfl⟩|⟨x,t,rfl,rfl⟩
  .rcases gJ hb with⟨j,u,rfl,e⟩|⟨y,u,rfl,e⟩
   .injection e with e1 _;rw[e1]
   .exact nomatch e
  .rcases gJ hb with⟨j,u,rfl,e⟩|⟨y,u,rfl,e⟩
   .exact nomatch e
   .injection e with e1 _;rw[e1]
 byValue:=λk v h=>by
  rcases gJ h with⟨i,t,rfl,rfl⟩|⟨x,t,rfl,rfl⟩<;>rfl
 pyHash:=λhv h=>by
  rcases gJ hv with⟨i,t,rfl,rfl⟩|⟨x,t,rfl,rfl⟩
  .exact wpAny_pyHash_int h
  .exact wpAny_pyHash_str h
 eqBool:=λhu hv h=>by
  rcases gJ hu with⟨i,t,rfl,rfl⟩|⟨x,t,rfl,rfl⟩
  .rcases gJ hv with⟨j,u,rfl,rfl⟩|⟨y,u,rfl,rfl⟩
   .rw[ahq]at h;exact wpAny_eqBool_int h
   .rw[ahX]at h;exact SeqAt.EqAt.int_str i t y u _ _ _ _ h
  .rcases gJ hv with⟨j,u,rfl,rfl⟩|⟨y,u,rfl,rfl⟩
   .rw[ahk]at h;exact SeqAt.EqAt.str_int x t j u _ _ _ _ h
   .rw[ah3]at h;exact wpAny_eqBool_str h
 «strs»:=λk x t v h=>by
  rcases gJ h with⟨i,u,rfl,e⟩|⟨y,u,rfl,e⟩
  .exact nomatch e
  .injection e with e1 _;subst e1;cases v<;>rfl
def Ur(prog:Program)(w:World)(i:Int)(t:Tok):(jJ prog w).is (.inl i) (.int i t)=true:=aa0 i t
def V9(prog:Program)(w:World)(x:Str)(t:Tok):(jJ prog w).is (.inr x) (.str x t)=true:=aaJ x t
inductive V where
 |non|bl (b:Bool)|int (i:Int)|str (x:Str)|byt (b:Array UInt8)|flt (b:UInt64)|ref (a:Addr)|ty (n:String)
 deriving DecidableEq
abbrev xS:=List (Key×V)
abbrev xD:=Option V
abbrev xl:=List (Str×V)
abbrev Ζ:=List V
def RelV:V->Value->Prop
 |.non,u=>u=Value.none
 |.bl b,u=>u=Value.bool b
 |.int i,u=>∃t,u=Value.int i t
 |.str x,u=>∃t,u=Value.str x t
 |.byt b,u=>∃t,u=Value.bytes b t
 |.flt b,u=>∃t,u=Value.float b t
 |.ref a,u=>u=Value.ref a
 |.ty n,u=>u=Value.type n
abbrev Vals:Ζ->Θ->Prop:=Paired RelV
def Vals.length{xs:Ζ}{us:Θ}(r:Vals xs us):xs.length=us.length:=Paired.length r
theorem Vals.get:∀{xs:Ζ}{us:Θ}{i:Nat}{x:V},Vals xs us->xs[i]?=some x->∃u,us[i]?=some u/\RelV x u
 |_,_,_,_,.nil,e=>by simp at e
 |_,_,0,_,.cons r _,e=>by simp at e;subst e;exact⟨_,rfl,r⟩
 |_,_,i+1,x,.cons _ t,e=>by
  obtain⟨u,h1,h2⟩:=Vals.get (i:=i) (x:=x) t (by simpa using e);exact⟨u,by simpa using h1,h2⟩
theorem Vals.set{x:V}{u:Value}(r:RelV x u):∀{xs:Ζ}{us:Θ}(i:Nat),Vals xs us->Vals (xs.set i x) (us.set i u)
 |_,_,_,.nil=>.nil
 |_,_,0,.cons _ t=>.cons r t
 |_,_,i+1,.cons q t=>.cons q (Vals.set r i t)
theorem Vals.append:∀{xs ys:Ζ}{us ws:Θ},Vals xs us->Vals ys ws->Vals (xs++ys) (us++ws)
 |_,_,_,_,.nil,s=>s
 |_,_,_,_,.cons r t,s=>.cons r (Vals.append t s)
theorem Vals.take:∀{xs:Ζ}{us:Θ}(n:Nat),Vals xs us->Vals (xs.take n) (us.take n)
 |_,_,0,_=>.nil
 |_,_,_+1,.nil=>.nil
 |_,_,n+1,.cons r t=>.cons r (Vals.take n t)
theorem Vals.drop:∀{xs:Ζ}{us:Θ}(n:Nat),Vals xs us->Vals (xs.drop n) (us.drop n)
 |_,_,0,r=>r
 |_,_,_+1,.nil=>.nil
 |_,_,n+1,.cons _ t=>Vals.drop n t
def yU:xD->Ω->Prop
 |some v,some u=>RelV v u
 |none,none=>True
 |_,_=>False
def KV{κ:Type} : List (κ×V)->List (κ×Value)->Prop:=Paired λ(p:κ×V)(q:κ×Value)=>p.1=q.1/\RelV p.2 q.2
def kV:Key->V
 |.inl i=>.int i
 |.inr x=>.str x
inductive HO where
  |lst (xs:Ζ)
  |tup (xs:Ζ)
  |dK (kvs:xS)
  |set (S:Int->Bool) (n:Nat)
  |ins (C dx:Addr) (fs:xl)
  |own (x:Addr)
  |xd (fs:xl)
  |met (f x:Addr)
  |rng (lo hi:Int)
  |frz (o:Obj) (u:HO)
  |tbl (ps:xh)
  |ext (φ:Heap->Prop)
abbrev Hp:=Addr->Option HO
def upd(H:Hp)(a:Addr)(o:HO):Hp:=λb=>if b=a then some o else H b
variable{H H':Hp}{a b x e:Addr}{o o':HO}{P:Program}{w:World}{h h':Heap}
def cj : upd H a o a=some o:=by unfold upd;rw[ZY rfl]
def bZ(h:b≠a):upd H a o b=H b:=by unfold upd;rw[ZZ h]
def JW{u:HO}(h:H a=some o)(h':H b=some u)(d:o≠u):a≠b:=by
 intro e;subst e;rw[h]at h';exact d (Option.some.inj h')
def k_(h:H a=some o)(h':H b=none):a≠b:=by
 intro e;subst e;rw[h]at h';cases h'
section
variable(P:Program)(w:World)
def fK(H:Hp)(h:Heap)(a:Addr):HO->Prop
 |.lst xs=>xs.length<=sizeLine/\∃(its:Θ)(n:Nat),Vals xs its/\h.get? a=some { cls:=.type "list",data:=.seq its.toArray n }
 |.tup xs=>xs.length<=sizeLine/\∃its:Θ,Vals xs its/\IsTup h a its.toArray
 |.dK kvs=>kvs.length<=sizeLine/\(a==sysModules)=false/\∃vs,KV kvs vs/\h.DictOf (jJ P w) a vs
 |.set S n=>h.SetOf (intKind P w) a S n
 |.ins C dx fs=>H dx=some (.own a)/\fs.length<=1000/\dx≠a/\h.get? a=some (instObj C dx) /\
   ∃mA,h.Ns1 dx mA/\(∀f,yU (fs.lookup f) (mA f))/\PySem.Within mA (fs.map (·.1))
 |.own _=>∃o,h.get? a=some o
 |.xd fs=>∃mA,h.Ns1 a mA/\∀f,yU (fs.lookup f) (mA f)
 |.rng lo hi=>∃t u v,h.get? a=some { cls:=.type "range",data:=.fields #[.int lo t,.int hi u,.int 1 v] }
 |.frz o u=>h.get? a=some o/\fK H h a u
 |.tbl ps=>h.get? a=some { cls:=.none,data:=.fields ps }
 |.met f x=>h.get? a=some (methodObj (.ref f) (.ref x))
 |.ext φ=>φ h/\(∃o,h.get? a=some o)/\∀h1 h2:Heap,φ h1->(∀o,h1.get? a=some o->h2.get? a=some o)->φ h2
def HOk(H:Hp)(h:Heap):Prop:=∀a o,H a=some o->fK P w H h a o
end
def fK.lt(x:fK P w H h a o):a<h.objs.size:=by
 cases o with
 |lst xs=>obtain⟨_,_,_,_,e⟩:=x;exact aK e
 |tup xs=>obtain⟨_,_,_,p⟩:=x;exact p.lt
 |dK kvs=>obtain⟨_,_,_,_,o,_,_,e,_⟩:=x;exact aK e
 |set S n=>obtain⟨o,_,_,_,e,_⟩:=x;exact aK e
 |ins C dx fs=>obtain⟨_,_,_,e,_⟩:=x;exact aK e
 |own y=>obtain⟨_,e⟩:=x;exact aK e
 |xd fs=>obtain⟨_,⟨_,_,_,e,_⟩,_⟩:=x;exact aK e
 |rng lo hi=>obtain⟨_,_,_,e⟩:=x;exact aK e
 |frz ob u=>obtain⟨e,_⟩:=x;exact aK e
 |tbl ps=>exact aK (show h.get? a=some _ from x)
 |met f y=>exact aK (show h.get? a=some _ from x)
 |ext φ=>obtain⟨_,⟨_,e⟩,_⟩:=x;exact aK e
def fK.stay(x:fK P w H h a o)(k:∀b u,(b=a\/H b=some (.own a))->h.get? b=some u->h'.get? b=some u)
 (ho:∀b,H b=some (.own a)->H' b=some (.own a))(ht:∀b xs,H b=some (.tup xs)->H' b=some (.tup xs)):fK P w H' h' a o:=by
 induction o with
 |lst xs=>obtain⟨z,its,n,r,e⟩:=x;exact⟨z,its,n,r,k _ _ (.inl rfl) e⟩
 |tup xs=>obtain⟨z,its,r,ob,e,c⟩:=x;exact⟨z,its,r,ob,k _ _ (.inl rfl) e,c⟩
 |dK kvs=>obtain⟨z,y,vs,r,ob,es,ep,e,c⟩:=x;exact⟨z,y,vs,r,ob,es,ep,k _ _ (.inl rfl) e,c⟩
 |set S n=>obtain⟨ob,es,ep,t,e,c⟩:=x;exact⟨ob,es,ep,t,k _ _ (.inl rfl) e,c⟩
 |ins C dx fs =>
  obtain⟨d,z,ne,e,mA,⟨od,es,ep,e2,c⟩,r⟩:=x;exact⟨ho _ d,z,ne,k _ _ (.inl rfl) e,mA,⟨od,es,ep,k _ _ (.inr d) e2,c⟩,r⟩
 |own y=>obtain⟨ob,e⟩:=x;exact⟨ob,k _ _ (.inl rfl) e⟩
 |xd fs=>obtain⟨mA,⟨od,es,ep,e,c⟩,r⟩:=x;exact⟨mA,⟨od,es,ep,k _ _ (.inl rfl) e,c⟩,r⟩
 |rng lo hi=>obtain⟨t,u,v,e⟩:=x;exact⟨t,u,v,k _ _ (.inl rfl) e⟩
 |frz ob u ih=>obtain⟨e,q⟩:=x;exact⟨k _ _ (.inl rfl) e,ih q⟩
 |tbl ps =>
  have e:h.get? a=some { cls:=.none,data:=.fields ps }:=x;show h'.get? a=some { cls:=.none,data:=.fields ps };exact k a _ (.inl rfl) e
 |met f y =>
  have e:h.get? a=some (methodObj (.ref f) (.ref y)):=x;show h'.get? a=some (methodObj (.ref f) (.ref y));exact k a _ (.inl rfl) e
 |ext φ=>obtain⟨p,⟨o,e⟩,st⟩:=x;exact⟨st _ _ p λo q=>k _ _ (.inl rfl) q,⟨o,k _ _ (.inl rfl) e⟩,st⟩
def HOk.lt(x:HOk P w H h)(e:H a=some o):a<h.objs.size:=(x a o e).lt
def HOk.fresh(x:HOk P w H h)(e:h.objs.size<=a):H a=none:=by
 cases q:H a with
 |none=>rfl
 |some u=>exact absurd (aR (x.lt q) e) (X9 _)
def HOk.kept(x:HOk P w H h)(k:∀b u,h.get? b=some u->h'.get? b=some u):HOk P w H h':=λa o e =>
 (x a o e).stay (λb u _ q=>k b u q) (λ_ q=>q) λ_ _ q=>q
def HOk.laid(x:HOk P w H h)(k:∀b u,h.get? b=some u->h'.get? b=some u)(hp:h.objs.size<=a)(new:fK P w (upd H a o) h' a o):HOk P w (upd H a o) h':=λb u e=>by
 have hn:=x.fresh hp;by_cases hb:b=a
 .subst hb;rw[cj]at e;cases e;exact new
 .rw[bZ hb]at e;exact(x b u e).stay (λc v _ q=>k c v q) (λc q=>by rw[bZ (k_ q hn)];exact q) λc xs q=>by rw[bZ (k_ q hn)];exact q
def Rd(H:Hp)(a:Addr)(u:HO):Prop:=H a=some u\/∃o,H a=some (.frz o u)
def Rd.of{u:HO}(h:H a=some u):Rd H a u:=.inl h
def Rd.ok{u:HO}(r:Rd H a u)(x:HOk P w H h):fK P w H h a u:=by
 rcases r with r|⟨o,r⟩
 .exact x a u r
 .obtain⟨_,q⟩:=x a _ r;exact q
def Mut:Option HO->Prop
 |some (.lst _)=>True
 |some (.dK _)=>True
 |some (.set _ _)=>True
 |some (.ins _ _ _)=>True
 |some (.ext _)=>True
 |_=>False
def HOk.write(ok:HOk P w H h)(mu:Mut (H x))(he:e=x\/H e=some (.own x))(k:∀b u,b≠e->h.get? b=some u->h'.get? b=some u)(i7:∃u,h'.get? e=some u)
 (new:fK P w (upd H x o') h' x o'):HOk P w (upd H x o') h':=λb u q=>by
 have jv:∀c y,H c=some (.own y)->c≠x:=λc y r z=>by subst z;rw[r]at mu;exact mu
 have mm:∀c xs,H c=some (.tup xs)->c≠x:=λc xs r z=>by subst z;rw[r]at mu;exact mu
 by_cases hb:b=x
 .subst hb;rw[cj]at q;cases q;exact new
 .rw[bZ hb]at q;by_cases hbe:b=e
  .have q':H b=some (.own x):=by
    rcases he with z|z
    .exact absurd (hbe.trans z) hb
    .rw[hbe];exact z
   rw[q]at q';cases q';obtain⟨v,hv⟩:=i7;exact⟨v,by rwa[hbe]⟩
  .refine(ok b u q).stay (λc v hc r=>k c v ?_ r) (λc r=>by rwa[bZ (jv c b r)]) λc xs r=>by rwa[bZ (mm c xs r)]
   rcases hc with rfl|hc
   .exact hbe
   .rintro rfl;rcases he with z|z
    .exact jv c b hc z
    .rw[hc]at z;cases z;exact hb rfl
structure Un(fs ex:Ψ)(H H':Hp)(h h':Heap):Prop where
 keep:∀b o,h.get? b=some o->H b=none->b∉fs->b∉ex->h'.get? b=some o
 slot:∀b o,h.get? b=some o->H b=none->b∈fs->b∉ex->∃sl,h'.get? b=some { o with slots:=sl }
 free:∀b o,h.get? b=some o->H b=none->b∉ex->H' b=none
 there:∀b o,h.get? b=some o->b∉ex->∃o',h'.get? b=some o'
 tups:∀b xs,H b=some (.tup xs)->H' b=some (.tup xs)
 frzs:∀b o u,H b=some (.frz o u)->H' b=some (.frz o u)
 tbls:∀b ps,H b=some (.tbl ps)->∃more,H' b=some (.tbl (ps++more))
section
variable{fs fs' ex pE:Ψ}{H H1 H2:Hp}{h h1 h2 h':Heap}{a x e:Addr}{o:HO}
def Un.any(u:Un fs ex H H1 h h1){ob:Obj}(q:h.get? b=some ob)(n:H b=none)(hx:b∉ex):∃sl,h1.get? b=some { ob with slots:=sl }:=by
 by_cases hb:b∈fs
 .exact u.slot b ob q n hb hx
 .exact⟨ob.slots,u.keep b ob q n hb hx⟩
def Un.kept(k:∀b u,h.get? b=some u->h'.get? b=some u):Un fs ex H H h h' :=
 ⟨λb ob q _ _ _=>k b ob q,λb ob q _ _ _=>⟨ob.slots,k b ob q⟩,λ_ _ _ n _=>n,λb ob q _=>⟨ob,k b ob q⟩,λ_ _ q=>q,λ_ _ _ q=>q,λ_ ps q=>⟨#[],by rw[q];simp⟩⟩
def Un.refl:Un fs ex H H h h:=Un.kept λ_ _ q=>q
def Un.laid(k:∀b u,h.get? b=some u->h'.get? b=some u)(hp:h.objs.size<=a)(hn:H a=none):Un fs ex H (upd H a o) h h' where
 keep:=λb u q _ _ _=>k b u q
 slot:=λb u q _ _ _=>⟨u.slots,k b u q⟩
 free:=λb u q n _=>by rwa[bZ (aQ (aR (aK q) hp))]
 there:=λb u q _=>⟨u,k b u q⟩
 tups:=λb xs q=>by rw[bZ (k_ q hn)];exact q
 frzs:=λb u xs q=>by rw[bZ (k_ q hn)];exact q
 tbls:=λb ps q=>⟨#[],by rw[bZ (k_ q hn),q];simp⟩
def Un.write(mu:Mut (H x))(he:e=x\/H e=some (.own x))(k:∀b u,b≠e->h.get? b=some u->h'.get? b=some u)(i7:∃u,h'.get? e=some u):Un fs ex H (upd H x o) h h':=by
 have hx:∀b,H b=none->b≠x:=λb n z=>by subst z;rw[n]at mu;exact mu
 have hb:∀b,H b=none->b≠e:=λb n z=>by
  subst z;rcases he with r|r
  .exact hx b n r
  .rw[n]at r;cases r
 have hm:∀b u,H b=some u->¬Mut (some u)->b≠x:=λb u q nm z=>by subst z;rw[q]at mu;exact nm mu
 refine⟨λb u q n _ _=>k b u (hb b n) q,λb u q n _ _=>⟨u.slots,k b u (hb b n) q⟩,λb u q n _=>by rw[bZ (hx b n)];exact n,λb u q _=>?_,
  λb xs q=>by rw[bZ (hm b _ q λz=>z)];exact q,λb u xs q=>by rw[bZ (hm b _ q λz=>z)];exact q,λb ps q=>⟨#[],by rw[bZ (hm b _ q λz=>z),q];simp⟩⟩
 by_cases hbe:b=e
 .subst hbe;exact i7
 .exact⟨u,k b u hbe q⟩
end
def trk(h:Heap)(H:Hp):Ψ:=(List.range h.objs.size).filter λa=>(H a).isSome
def Rv(h:Heap)(H:Hp):Heap:=hideAll h (trk h H)
def aa1(h:Heap)(H:Hp):(Rv h H).objs.size=h.objs.size:=PySem.W.hideAll_size _ _
variable{o:Obj}
def acz(e:h.get? b=some o)(n:H b=none):(Rv h H).get? b=some o :=
 hideAll_get _ e λhm=>by
  have q:(H b).isSome=true:=(List.mem_filter.mp hm).2;rw[n]at q;simp at q
def agt(e:(Rv h H).get? b=some o):h.get? b=some o/\H b=none:=by
 have e':h.get? b=some o:=of_hideAll (trk h H) e;refine⟨e',?_⟩;cases q:H b with
 |none=>rfl
 |some x =>
  have hm:b∈trk h H:=List.mem_filter.mpr ⟨List.mem_range.mpr (aK e'),by simp[q]⟩;have z:(Rv h H).get? b=none:=PySem.W.hideAll_none (trk h H) hm;rw[z]at e;cases e
def agl(g h:Heap)(L:Addr):Δ:=(List.range h.objs.size).filterMap λa=>if a=L\/(g.get? a).isSome=true then none else(h.get? a).map λo=>(a,o)
def rest(g h:Heap)(L d:Addr):Δ:=(agl g h L).filter λp=>decide (p.1≠d)
structure Mod(K:Frag)(mg:Str->Ω)(base:Heap):Prop where
 kin:K.In base
 glob:base.Ns mainGlobals mg
 blt:∃mb,base.Ns builtinsNs mb/\∀x:Str,x≠"__name__"->mb x=bootBuiltins x
 nolimit:base.NoLimit
structure Cx where
 prog:Program
 w:World
 K:Frag
 mg:Str->Ω
 base:Heap
 A:Around
 N:Φ
 s₀:Shared
 H₀:Hp
 env:Env
 outer:xm
 stack:xm
 ex:Ψ
 fn:Str->Bool
 calm:Bool
 pn:Δ
 xe:Ε
def frs(l:xm):Ψ:=l.filterMap (·.frame)
abbrev Cx.fs(X:Cx):Ψ:=frs X.outer
def Vis(sc:Scope)(x:Str):Prop:=sc.names.lookup x=some .local\/sc.names.lookup x=some .cell\/sc.names.lookup x=some .free
def Loc(sc:Scope)(x:Str):Prop:=sc.names.lookup x=some .local\/sc.names.lookup x=some .cell
def Look(env:Env)(h:Heap)(m:Str->Ω)(x:Str)(u:Value):Prop :=
 (env.kindOf x=some .local/\m x=some u)\/((env.kindOf x=some .cell\/env.kindOf x=some .free)/\∃c,env.cells.lookup x=some c/\h.IsCell c (some u))
structure Cx.Ok(X:Cx):Prop where
 mod:Mod X.K X.mg X.base
 kind:X.env.scope.kind=.function
 glob:X.env.globals=mainGlobals
 blt:X.env.builtins=builtinsNs
 above:X.s₀.heap.objs.size<=X.env.locals
 inj:∀x y c,X.env.cells.lookup x=some c->X.env.cells.lookup y=some c->x=y
 has:∀x,(X.env.kindOf x=some .cell\/X.env.kindOf x=some .free)->∃c,X.env.cells.lookup x=some c
 cab:∀x c,X.fn x=true->X.env.cells.lookup x=some c->X.s₀.heap.objs.size<=c
 hd:X.calm=true->X.A.handled=none
 frames:X.A.frames=some X.stack
 stk:X.stack=X.outer\/(X.stack=X.env::X.outer/\X.env.frame=some X.env.locals)
 exf:∀b∈X.ex,b≠X.env.locals/\∀x c,X.env.cells.lookup x=some c->c≠b
 bs:∀b o,X.base.get? b=some o->X.s₀.heap.get? b=some o/\X.H₀ b=none
 bsz:X.base.objs.size<=X.s₀.heap.objs.size
 noex:∀b o,X.base.get? b=some o->b∉X.ex
 exfs:∀b∈X.ex,b∉X.fs
 funs:X.s₀.heap.FunFrames X.base X.outer
 frf:∀b∈X.fs,X.H₀ b=none
structure Inv(X:Cx)(aa:Δ)(σ:List xD)(H:Hp)(s:Shared):Prop where
 ok:X.Ok
 os:s.os=X.s₀.os
 bare:AllBare s.gens
 base:Un X.fs X.ex X.H₀ H X.s₀.heap s.heap
 loc:∃m,s.heap.Ns X.env.locals m/\∀(i:Nat)(x:Str)(v:V),X.N[i]?=some x->σ[i]?=some (some v)->Vis X.env.scope x->∃u,RelV v u/\Look X.env s.heap m x u
 cell:∀x c,X.env.cells.lookup x=some c->∃v,s.heap.IsCell c v
 free:H X.env.locals=none
 freeC:∀x c,X.env.cells.lookup x=some c->H c=none
 pin:∀p∈X.pn++aa,s.heap.get? p.1=some p.2/\H p.1=none/\p.1≠X.env.locals/\p.1∉X.fs/\∀v,p.2.data≠.cell v
 hok:HOk X.prog X.w H s.heap
 len:σ.length=X.N.length
variable{X:Cx}{aa:Δ}{σ:List xD}{s s':Shared}{t' i:Nat}{ch:Ψ}{x:Str}{u:Value}{M:Model}{A:Around}{E:Ε}{v:V}{Q:Unit->Shared->Prop}{e:Expr}
def Cx.Ok.nofr(ok:X.Ok)(e:X.base.get? b=some o):b∉X.fs:=λhb=>by
 have:=(ok.funs.mem hb).1;rw[e]at this;cases this
def Inv.bs(I:Inv X aa σ H s):∀b o,X.base.get? b=some o->s.heap.get? b=some o/\H b=none:=λb o e =>
 ⟨I.base.keep b o (I.ok.bs b o e).1 (I.ok.bs b o e).2 (I.ok.nofr e) (I.ok.noex b o e),I.base.free b o (I.ok.bs b o e).1 (I.ok.bs b o e).2 (I.ok.noex b o e)⟩
def Inv.bk(I:Inv X aa σ H s):∀b o,X.base.get? b=some o->s.heap.get? b=some o:=λb o e=>(I.bs b o e).1
def Inv.mod(I:Inv X aa σ H s):Mod X.K X.mg X.base:=I.ok.mod
def Inv.kIn(I:Inv X aa σ H s):X.K.In s.heap:=I.ok.mod.kin.keeps I.bk
def Inv.fr(I:Inv X aa σ H s):∃m,Fr X.base X.env.locals s.heap m :=
 let⟨m,hn,_⟩:=I.loc
 ⟨m,hn,I.bk,aL I.ok.bsz I.ok.above⟩
def Inv.lt(I:Inv X aa σ H s):X.env.locals<s.heap.objs.size:=by obtain⟨_,hn,_⟩:=I.loc;exact hn.lt
def Inv.sz(I:Inv X aa σ H s):X.s₀.heap.objs.size<=s.heap.objs.size:=aL I.ok.above (Y2 I.lt)
def Inv.nofs(I:Inv X aa σ H s)(h:s.heap.objs.size<=a):a∉X.fs:=λhb=>by
 obtain⟨_,o,ho,_⟩:=I.ok.funs.mem hb;exact absurd (aR (aK ho) (aL I.sz h)) (X9 _)
def Inv.cne(I:Inv X aa σ H s):∀x c,X.env.cells.lookup x=some c->c≠X.env.locals:=λx c e z=>by
 obtain⟨v,o,ho,hd⟩:=I.cell x c e;obtain⟨m,⟨o',es,ep,db,bu,_⟩,_⟩:=I.loc;rw[z,db]at ho;cases ho;rw[bu]at hd;cases hd
def Inv.funs(I:Inv X aa σ H s):s.heap.FunFrames X.base X.outer:=by
 have all:∀(l:xm),(∀b∈frs l,b∈X.fs)->X.s₀.heap.FunFrames X.base l->s.heap.FunFrames X.base l:=by
  intro l
  induction l with
  |nil=>intro _ _;trivial
  |cons env r ih =>
   intro hs hl;obtain⟨hk,⟨L,o,hf,hn,ho,hd⟩,hr⟩:=hl;have hL:L∈X.fs:=hs L (by unfold frs;rw[List.filterMap_cons,hf];exact aO);obtain⟨sl,e⟩:=I.base.slot L o ho (I.ok.frf L hL) hL λz=>I.ok.exfs L z hL;exact⟨hk,⟨L,_,hf,hn,e,hd⟩,ih (λb hb=>hs b (by unfold frs;rw[List.filterMap_cons,hf];exact aJ _ hb)) hr⟩
 exact all X.outer (λ_ hb=>hb) I.ok.funs
def Inv.stack(I:Inv X aa σ H s):s.heap.FunFrames X.base X.stack:=by
 rcases I.ok.stk with e|⟨e,hf⟩
 .rw[e];exact I.funs
 .rw[e];obtain⟨m,hn,_⟩:=I.loc;refine .cons (by rw[I.ok.kind];decide) hf hn ?_ I.funs;exact Heap.get?_none_of_le (aL I.ok.bsz I.ok.above)
def Inv.stkSub(I:Inv X aa σ H s):∀b∈frs X.stack,b∈X.env.locals::X.fs:=λb hb=>by
 rcases I.ok.stk with e|⟨e,hf⟩
 .rw[e]at hb;exact aJ _ hb
 .rw[e]at hb;unfold frs at hb;rw[List.filterMap_cons,hf]at hb;exact hb
def Inv.stkFree(I:Inv X aa σ H s):∀b∈frs X.stack,H b=none:=λb hb=>by
 rcases YU.mp (I.stkSub b hb)with e|hb
 .rw[e];exact I.free
 .obtain⟨_,o,ho,_⟩:=I.ok.funs.mem hb;exact I.base.free b o ho (I.ok.frf b hb) λz=>I.ok.exfs b z hb
def Inv.step{g':xE}{d':Drawn}(I:Inv X aa σ H s)
 (f7:∀b∈ch,(b∈X.ex\/X.s₀.heap.objs.size<=b)/\b≠X.env.locals/\(∀x c,X.env.cells.lookup x=some c->c≠b)/\∀p∈X.pn++aa,p.1≠b)
 (keep:∀b o,b≠X.env.locals->b∉X.fs->b∉ch->s.heap.get? b=some o->H b=none->h'.get? b=some o)
 (slot:∀b o,b≠X.env.locals->b∈X.fs->b∉ch->s.heap.get? b=some o->H b=none->∃sl,h'.get? b=some { o with slots:=sl })(free:∀b o,b∉ch->s.heap.get? b=some o->H b=none->H' b=none)
 (there:∀b o,b∉ch->s.heap.get? b=some o->∃o',h'.get? b=some o')
 (tups:∀b xs,H b=some (.tup xs)->H' b=some (.tup xs))(frzs:∀b o u,H b=some (.frz o u)->H' b=some (.frz o u))(tbls:∀b ps,H b=some (.tbl ps)->∃more,H' b=some (.tbl (ps++more)))
 (ns:∀m,s.heap.Ns X.env.locals m->h'.Ns X.env.locals m)(hok:HOk X.prog X.w H' h')(hg:AllBare g') :
  Inv X aa σ H' { s with heap:=h',gens:=g',drawn:=d',toks:=t' }:=by
 have neL:∀b o,X.s₀.heap.get? b=some o->b≠X.env.locals:=λb o e=>aQ (aR (aK e) I.ok.above);have kN:∀b o,X.s₀.heap.get? b=some o->b∉X.ex->b∉ch:=λb o e hx hb=>by
  rcases(f7 b hb).1 with z|z
  .exact hx z
  .exact absurd (aR (aK e) z) (X9 _)
 have g5:∀x c,X.env.cells.lookup x=some c->∀v,s.heap.IsCell c v->h'.IsCell c v:=λx c e v hP=>by
  obtain⟨o,ho,hd⟩:=hP;have j2:c∉ch:=λz=>(f7 c z).2.2.1 x c e rfl;by_cases hc:c∈X.fs
  .obtain⟨sl,q⟩:=slot c o (I.cne x c e) hc j2 ho (I.freeC x c e);exact⟨_,q,hd⟩
  .exact⟨o,keep c o (I.cne x c e) hc j2 ho (I.freeC x c e),hd⟩
 refine⟨I.ok,I.os,hg,⟨λb o e n hb hx=>?_,λb o e n hb hx=>?_,λb o e n hx=>?_,λb o e hx=>?_,λb xs e=>tups b xs (I.base.tups b xs e),λb o xs e=>frzs b o xs (I.base.frzs b o xs e),λb ps e=>?_⟩,?_,λx c e=>?_,?_,λx c e=>?_,λp hp=>?_,hok,I.len⟩
 .exact keep b o (neL b o e) hb (kN b o e hx) (I.base.keep b o e n hb hx) (I.base.free b o e n hx)
 .obtain⟨sl,e1⟩:=I.base.slot b o e n hb hx;obtain⟨jn,e2⟩:=slot b _ (neL b o e) hb (kN b o e hx) e1 (I.base.free b o e n hx);exact⟨jn,e2⟩
 .obtain⟨o',e1⟩:=I.base.there b o e hx;exact free b o' (kN b o e hx) e1 (I.base.free b o e n hx)
 .obtain⟨o',e1⟩:=I.base.there b o e hx;exact there b o' (kN b o e hx) e1
 .obtain⟨m1,e1⟩:=I.base.tbls b ps e;obtain⟨m2,e2⟩:=tbls b _ e1;exact⟨m1++m2,by rw[e2,Array.append_assoc]⟩
 .obtain⟨m,hn,hl⟩:=I.loc;refine⟨m,ns m hn,λi x v e1 e2 e3=>?_⟩;obtain⟨u,r,l⟩:=hl i x v e1 e2 e3;refine⟨u,r,?_⟩;rcases l with l|⟨k,c,e,z⟩
  .exact .inl l
  .exact .inr ⟨k,c,e,g5 x c e _ z⟩
 .obtain⟨v,z⟩:=I.cell x c e;exact⟨v,g5 x c e v z⟩
 .obtain⟨m,⟨o,_,_,ho,_⟩,_⟩:=I.loc;exact free _ o (λz=>(f7 _ z).2.1 rfl) ho I.free
 .obtain⟨v,o,ho,hd⟩:=I.cell x c e;exact free c o (λz=>(f7 c z).2.2.1 x c e rfl) ho (I.freeC x c e)
 .obtain⟨e,n,ne,nf,d⟩:=I.pin p hp;have j2:p.1∉ch:=λz=>(f7 p.1 z).2.2.2 p hp rfl;exact⟨keep p.1 p.2 ne nf j2 e n,free p.1 p.2 j2 e n,ne,nf,d⟩
def Inv.un(I:Inv X aa σ H s)(u:Un X.fs [] H H' s.heap h')(hok:HOk X.prog X.w H' h'):Inv X aa σ H' { s with heap:=h',toks:=t' }:=by
 obtain⟨m,⟨o,es,ep,ho,r⟩,_⟩:=id I.loc;obtain⟨sl,hL⟩:=u.any ho I.free wp;exact I.step (g':=s.gens) (d':=s.drawn) (ch:=[]) (λ_ z=>nomatch z) (λb o _ hb _ e n=>u.keep b o e n hb wp) (λb o _ hb _ e n=>u.slot b o e n hb wp) (λb o _ e n=>u.free b o e n wp) (λb o _ e=>u.there b o e wp) u.tups u.frzs u.tbls (λm' hm=>by
  obtain⟨o',pM,pS,db,r'⟩:=hm;rw[ho]at db;cases db;exact⟨_,pM,pS,hL,r'⟩) hok I.bare
def Inv.call{g':xE}{d':Drawn}(I:Inv X aa σ H s)(u:Un (frs X.stack) ch H H' s.heap h')(hok:HOk X.prog X.w H' h')(hg:AllBare g')
 (f7:∀b∈ch,(b∈X.ex\/X.s₀.heap.objs.size<=b)/\b≠X.env.locals/\(∀x c,X.env.cells.lookup x=some c->c≠b)/\∀p∈X.pn++aa,p.1≠b) :
  Inv X aa σ H' { s with heap:=h',gens:=g',drawn:=d',toks:=t' }:=by
 obtain⟨m,⟨o,es,ep,ho,r⟩,_⟩:=id I.loc;obtain⟨sl,hL⟩:=u.any ho I.free λz=>(f7 _ z).2.1 rfl;exact I.step (ch:=ch) f7 (λb o hL hb hc e n=>u.keep b o e n (λz=>(YU.mp (I.stkSub b z)).elim hL hb) hc) (λb o _ _ hc e n=>u.any e n hc) (λb o hc e n=>u.free b o e n hc) (λb o hc e=>u.there b o e hc) u.tups u.frzs u.tbls (λm' hm=>by
  obtain⟨o',pM,pS,db,r'⟩:=hm;rw[ho]at db;cases db;exact⟨_,pM,pS,hL,r'⟩) hok hg
def Inv.turned{it:Addr}(I:Inv X aa σ H s)(k:∀b o,b≠it->s.heap.get? b=some o->h'.get? b=some o)(hn:H it=none)(hL:it≠X.env.locals)
 (h1:it∈X.ex\/X.s₀.heap.objs.size<=it)(h2:∀x c,X.env.cells.lookup x=some c->c≠it)(h3:∀p∈X.pn++aa,p.1≠it):Inv X aa σ H { s with heap:=h',toks:=t' }:=by
 have j1:∀b u,H b=some u->b≠it:=λb u e z=>by rw[z,hn]at e;cases e
 refine I.step (g':=s.gens) (d':=s.drawn) (ch:=[it]) (λb hb=>?_) (λb o _ _ hc e _=>k b o (λz=>hc (by simp[z])) e) (λb o _ _ hc e _=>⟨o.slots,k b o (λz=>hc (by simp[z])) e⟩) (λ_ _ _ _ n=>n)
  (λb o hc e=>⟨o,k b o (λz=>hc (by simp[z])) e⟩) (λ_ _ e=>e) (λ_ _ _ e=>e) (λb ps e=>⟨#[],by rw[e];simp⟩) (λm hm=>?_) (λb u e=>?_) I.bare
 .have e:b=it:=by simpa using hb
  subst e;exact⟨h1,hL,h2,h3⟩
 .obtain⟨o,es,ep,ho,r⟩:=hm;exact⟨o,es,ep,k _ o (Ne.symm hL) ho,r⟩
 .refine(I.hok b u e).stay (λc v hc q=>k c v ?_ q) (λ_ q=>q) λ_ _ q=>q;rcases hc with z|z
  .rw[z];exact j1 b u e
  .exact j1 c _ z
def Inv.tok(I:Inv X aa σ H s)(t:Nat):Inv X aa σ H { s with toks:=t }:=I.un (h':=s.heap) (t':=t) Un.refl I.hok
def Inv.kept{t':Nat}(I:Inv X aa σ H s)(k:∀b u,s.heap.get? b=some u->h'.get? b=some u):Inv X aa σ H { s with heap:=h',toks:=t' }:=I.un (Un.kept k) (I.hok.kept k)
def Inv.laid{a:Addr}{o:HO}{t':Nat}(I:Inv X aa σ H s)(k:∀b u,s.heap.get? b=some u->h'.get? b=some u)(hp:s.heap.objs.size<=a)(new:fK X.prog X.w (upd H a o) h' a o) :
  Inv X aa σ (upd H a o) { s with heap:=h',toks:=t' }:=I.un (Un.laid k hp (I.hok.fresh hp)) (I.hok.laid k hp new)
def Inv.write{x e:Addr}{o:HO}{t':Nat}(I:Inv X aa σ H s)(mu:Mut (H x))(he:e=x\/H e=some (.own x))(k:∀b u,b≠e->s.heap.get? b=some u->h'.get? b=some u)(i7:∃u,h'.get? e=some u)
 (new:fK X.prog X.w (upd H x o) h' x o):Inv X aa σ (upd H x o) { s with heap:=h',toks:=t' }:=I.un (Un.write mu he k i7) (I.hok.write mu he k i7 new)
def Inv.pins_of{dq:Δ}(I:Inv X aa σ H s)(h:∀p∈dq,s.heap.get? p.1=some p.2/\H p.1=none/\p.1≠X.env.locals/\p.1∉X.fs/\∀v,p.2.data≠.cell v):Inv X dq σ H s :=
 ⟨I.ok,I.os,I.bare,I.base,I.loc,I.cell,I.free,I.freeC,λp hp=>(Y1.mp hp).elim (λz=>I.pin p (UH _ z)) (h p),I.hok,I.len⟩
def Ju{N:Φ}(hN:N.Nodup){j:Nat}(a:N[i]?=some x)(b:N[j]?=some x):i=j:=by
 obtain⟨h1,e1⟩:=ao.mp a;obtain⟨h2,e2⟩:=ao.mp b;exact(List.getElem_inj hN).mp (e1.trans e2.symm)
abbrev qE(X:Cx)(a:Str):Prop:=X.fn a=true\/X.env.scope.names.lookup a=some .local
def abe(I:Inv X aa σ H s)(hN:X.N.Nodup)(hi:X.N[i]?=some x)(hx:Loc X.env.scope x)(r:RelV v u)
 (h:∀s',Inv X aa (σ.set i (some v)) H s'->(∃a,Heap.SameBut a s.heap s'.heap/\(a=X.env.locals\/X.env.cells.lookup x=some a))->Q () s')(hf:qE X x):wpAny M A (storeName X.env x u) Q E s:=by
 obtain⟨m,hn,hl⟩:=id I.loc;have fx:(X.env.scope.kind == .class || (X.env.scope.kind == .module&&X.env.locals != X.env.globals))=false:=by rw[I.ok.kind];rfl
 have kU:i<σ.length:=by rw[I.len];exact(ao.mp hi).1
 have cne:=I.cne;have dL:∀{a:Addr}{h':Heap},(∃o,s.heap.get? a=some o/\H a=none)->Heap.SameBut a s.heap h'->HOk X.prog X.w H h':=λ{a h'}ha hs b ob e=>by
  obtain⟨_,_,cc⟩:=ha;refine(I.hok b ob e).stay (λc w' hc q=>(hs.2 c ?_).trans q) (λ_ q=>q) λ_ _ q=>q;rintro rfl;rcases hc with rfl|hc
  .rw[cc]at e;cases e
  .rw[cc]at hc;cases hc
 rcases hx with hk|hk
 .refine wpAny_storeName_local hk hn (λh' nN hs=>?_) fx;obtain⟨oL,_,_,hoL,_⟩:=id hn;refine h _ ⟨I.ok,I.os,I.bare,⟨λb o e n hb hx=>?_,λb o e n hb hx=>?_,I.base.free,λb o e hx=>?_,I.base.tups,I.base.frzs,I.base.tbls⟩,⟨_,nN,λj y v' e1 e2 e3=>?_⟩,λy c e=>?_,I.free,I.freeC,λp hp=>?_,dL ⟨oL,hoL,I.free⟩ hs,by simpa using I.len⟩ ⟨_,hs,.inl rfl⟩
  .exact(hs.2 b (aQ (aR (aK e) I.ok.above))).trans (I.base.keep b o e n hb hx)
  .obtain⟨sl,e1⟩:=I.base.slot b o e n hb hx;exact⟨sl,(hs.2 b (aQ (aR (aK e) I.ok.above))).trans e1⟩
  .obtain⟨o',e1⟩:=I.base.there b o e hx;exact⟨o',(hs.2 b (aQ (aR (aK e) I.ok.above))).trans e1⟩
  .by_cases hj:j=i
   .subst hj;rw[hi]at e1;cases e1;rw[UT kU]at e2;cases e2;exact⟨u,r,.inl ⟨hk,by simp⟩⟩
   .rw[VQ (Ne.symm hj)]at e2;obtain⟨u',r',q⟩:=hl j y v' e1 e2 e3;refine⟨u',r',?_⟩;rcases q with⟨k,e⟩|⟨k,c,e,z⟩
    .refine .inl ⟨k,?_⟩;have:y≠x:=λe=>hj (Ju hN e1 (e ▸ hi));simp[this,e]
    .exact .inr ⟨k,c,e,z.sameBut hs (cne y c e)⟩
  .obtain⟨w',z⟩:=I.cell y c e;exact⟨w',z.sameBut hs (cne y c e)⟩
  .obtain⟨e,n,ne,nf,d⟩:=I.pin p hp;exact⟨(hs.2 p.1 ne).trans e,n,ne,nf,d⟩
 .have ku:X.fn x=true:=by
   rcases hf with z|z
   .exact z
   .rw[z]at hk;cases hk
  obtain⟨c,hc⟩:=I.ok.has x (.inl hk);obtain⟨w',z⟩:=I.cell x c hc;refine wpAny_storeName_cell I.ok.kind hk hc z (λh' de hs=>?_);obtain⟨oc,hoc,nv⟩:=id z;refine h { s with heap:=h' } ⟨I.ok,I.os,I.bare,⟨λb o e n hb hx=>?_,λb o e n hb hx=>?_,I.base.free,λb o e hx=>?_,I.base.tups,I.base.frzs,I.base.tbls⟩,⟨m,hn.sameBut hs (Ne.symm (cne x c hc)),λj y v' e1 e2 e3=>?_⟩,λy c' e=>?_,I.free,I.freeC,λp hp=>?_,dL ⟨oc,hoc,I.freeC x c hc⟩ hs,by simpa using I.len⟩ ⟨c,hs,.inr hc⟩
  .exact(hs.2 b (aQ (aR (aK e) (I.ok.cab x c ku hc)))).trans (I.base.keep b o e n hb hx)
  .obtain⟨sl,e1⟩:=I.base.slot b o e n hb hx;exact⟨sl,(hs.2 b (aQ (aR (aK e) (I.ok.cab x c ku hc)))).trans e1⟩
  .obtain⟨o',e1⟩:=I.base.there b o e hx;exact⟨o',(hs.2 b (aQ (aR (aK e) (I.ok.cab x c ku hc)))).trans e1⟩
  .by_cases hj:j=i
   .subst hj;rw[hi]at e1;cases e1;rw[UT kU]at e2;cases e2;exact⟨u,r,.inr ⟨.inl hk,c,hc,de⟩⟩
   .rw[VQ (Ne.symm hj)]at e2;obtain⟨u',r',q⟩:=hl j y v' e1 e2 e3;refine⟨u',r',?_⟩;rcases q with q|⟨k,c',e,z'⟩
    .exact .inl q
    .refine .inr ⟨k,c',e,z'.sameBut hs ?_⟩;rintro rfl;exact hj (Ju hN e1 (I.ok.inj _ _ _ e hc ▸ hi))
  .by_cases k4:c'=c
   .subst k4;exact⟨_,de⟩
   .obtain⟨w2,z2⟩:=I.cell y c' e;exact⟨w2,z2.sameBut hs k4⟩
  .obtain⟨e,n,ne,nf,d⟩:=I.pin p hp;refine⟨(hs.2 p.1 ?_).trans e,n,ne,nf,d⟩;intro q;rw[q,hoc]at e;have q':oc=p.2:=Option.some.inj e;exact d w' (by rwa[<- q'])
def uD(I:Inv X aa σ H s)(hN:X.N.Nodup)(hi:X.N[i]?=some x)(hx:Loc X.env.scope x)(r:RelV v u)
 (h:∀s',Inv X aa (σ.set i (some v)) H s'->Q () s')(hf:qE X x:=by first|exact .inl rfl|exact .inr rfl|assumption):wpAny M A (storeName X.env x u) Q E s :=
 abe I hN hi hx r (λs' I' _=>h s' I') hf
def Inv.call'(I:Inv X aa σ H s)(ho:s'.os=s.os)(u:Un (frs X.stack) ch H H' s.heap s'.heap)(hok:HOk X.prog X.w H' s'.heap)(hg:AllBare s'.gens)
 (f7:∀b∈ch,(b∈X.ex\/X.s₀.heap.objs.size<=b)/\b≠X.env.locals/\(∀x c,X.env.cells.lookup x=some c->c≠b)/\∀p∈X.pn++aa,p.1≠b):Inv X aa σ H' s':=by
 obtain⟨h',g',d',t',o'⟩:=s';have e:o'=s.os:=ho;subst e;exact I.call (g':=g') (t':=t') (d':=d') u hok hg f7
abbrev XK:=Value->Ξ->Hp->Prop
abbrev St:=List xD
abbrev VK:=V->Hp->Prop
abbrev TE:=St->Hp->VK->Prop
abbrev TT:=St->Hp->(Bool->Hp->Prop)->Prop
abbrev TA:=St->Hp->(Ζ->Hp->Prop)->Prop
structure Ends where
 nx:St->Hp->Prop
 rt:VK
 bk:St->Hp->Prop:=λ_ _=>False
 ct:St->Hp->Prop:=λ_ _=>False
abbrev TS:=Ends->St->Hp->Prop
def EP(X:Cx)(aa:Δ)(σ:St)(Q:VK)(u:Value)(s':Shared):Prop:=∃v H',Inv X aa σ H' s'/\RelV v u/\Q v H'
def TP(X:Cx)(aa:Δ)(σ:St)(Q:Bool->Hp->Prop)(b:Bool)(s':Shared):Prop:=∃H',Inv X aa σ H' s'/\Q b H'
def AP(X:Cx)(aa:Δ)(σ:St)(Q:Ζ->Hp->Prop)(us:Θ)(s':Shared):Prop:=∃vs H',Inv X aa σ H' s'/\Vals vs us/\Q vs H'
def SP(X:Cx)(aa:Δ)(D:Ends)(f:Flow)(s':Shared):Prop :=
 match f with
 |.next=>∃σ' H',Inv X aa σ' H' s'/\D.nx σ' H'
 |.brk=>∃σ' H',Inv X aa σ' H' s'/\D.bk σ' H'
 |.cont=>∃σ' H',Inv X aa σ' H' s'/\D.ct σ' H'
 |.ret u=>∃v σ' H',Inv X aa σ' H' s'/\RelV v u/\D.rt v H'
def PE(X:Cx)(e:Expr)(t:TE):Prop :=
 ∀(aa:Δ)(s:Shared)(σ:St)(H:Hp)(Q:VK),Inv X aa σ H s->t σ H Q->wpAny (model X.prog X.w) X.A (eval e X.env) (EP X aa σ Q) X.xe s
def PT(X:Cx)(e:Expr)(t:TT):Prop :=
 ∀(aa:Δ)(s:Shared)(σ:St)(H:Hp)(Q:Bool->Hp->Prop),Inv X aa σ H s->t σ H Q->wpAny (model X.prog X.w) X.A (isTrue e X.env (eval e X.env)) (TP X aa σ Q) X.xe s
def PW(X:Cx)(e:Expr)(t:TT):Prop :=
 ∀(cm:Sem Value)(aa:Δ)(s:Shared)(σ:St)(H:Hp)(Q:Bool->Hp->Prop),Inv X aa σ H s->t σ H Q->wpAny (model X.prog X.w) X.A (isTrue e X.env cm) (TP X aa σ Q) X.xe s
def PW.pt{X:Cx}{t:TT}(h:PW X e t):PT X e t:=h _
def PA(X:Cx)(es:xz)(t:TA):Prop :=
 ∀(pos:Pos)(aa:Δ)(s:Shared)(σ:St)(H:Hp)(Q:Ζ->Hp->Prop),Inv X aa σ H s->t σ H Q->wpAny (model X.prog X.w) X.A (spliced (backTo pos (starEach es X.env))) (AP X aa σ Q) X.xe s
def PS(X:Cx)(st:Stmt)(t:TS):Prop :=
 ∀(aa:Δ)(s:Shared)(σ:St)(H:Hp)(D:Ends),Inv X aa σ H s->t D σ H->wpAny (model X.prog X.w) X.A (exec st X.env) (SP X aa D) X.xe s
def PSs(X:Cx)(st:xn)(t:TS):Prop :=
 ∀(aa:Δ)(s:Shared)(σ:St)(H:Hp)(D:Ends),Inv X aa σ H s->t D σ H->wpAny (model X.prog X.w) X.A (execs st X.env) (SP X aa D) X.xe s
def thn{α:Type}{t:Sem α}{Q Q':α->Shared->Prop}(h:wpAny M A t Q E s)(hQ:∀a s,Q a s->Q' a s):wpAny M A t Q' E s:=wpAny_mono h hQ λ_ _ x=>x
variable{σ:St}{c tg:Expr}{xs ys:Ζ}{K:Frag}{pos aS:Pos}{es:xz}{k:Nat}{te:TE}
section
variable{X:Cx}
def aoh(i:Nat):TE:=λσ H Q=>∃v,σ[i]?=some (some v)/\Q v H
def tC(v:V):TE:=λ_ H Q=>Q v H
abbrev qk(a:Str):Prop:=(a==("__debug__":Str))=false
abbrev qo(a:Str):Prop:=(a==("__classdict__":Str))=false
def aix{pos:Pos}(hN:X.N[i]?=some x)(hv:Vis X.env.scope x)(hd:qk x:=by decide)(aI:qo x:=by decide):PE X (.Name x pos) (aoh i):=by
 intro aa s σ H Q I h;obtain⟨v,e,h⟩:=h;obtain⟨m,hn,hl⟩:=I.loc;obtain⟨u,r,l⟩:=hl i x v hN e hv;have aE:EP X aa σ Q u s:=⟨v,H,I,r,h⟩;rcases l with⟨hk,hm⟩|⟨hk,c,hc,cK⟩
 .exact wpAny_Name (wpAny_loadName_local I.ok.kind hk hn hm aE) hd
 .rcases hk with hk|hk
  .exact wpAny_Name (wpAny_loadName_cell I.ok.kind hk hc cK aE) hd
  .exact wpAny_Name (wpAny_loadName_free I.ok.kind hk hc cK aE aI) hd
def FW{i j pos} : PE X (.Constant (.int i) j pos) (tC (.int i)):=λ_ _ _ H _ I h=>wpAny_Constant_int ⟨.int i,H,I.tok _,⟨_,rfl⟩,h⟩
def aj9{b j pos} : PE X (.Constant (.bool b) j pos) (tC (.bl b)):=λ_ _ _ H _ I h=>Constant_bool ⟨.bl b,H,I,rfl,h⟩
def acH{j pos} : PE X (.Constant .none j pos) (tC .non):=λ_ _ _ H _ I h=>Constant_none ⟨.non,H,I,rfl,h⟩
def Qm{x j pos} : PE X (.Constant (.str x) j pos) (tC (.str x)):=λ_ _ _ H _ I h=>Calls.Constant_str ⟨.str x,H,I.tok _,⟨_,rfl⟩,h⟩
def Gl(X:Cx)(x:Str):Prop:=X.env.kindOf x=some .globalImplicit
def rK{pos:Pos}{Q:Ε}(I:Inv X aa σ H s)(hg:Gl X x)(hm:X.mg x=some u)(h:Q u s)
 (hd:qk x:=by decide):wpAny (model X.prog X.w) X.A (eval (.Name x pos) X.env) Q E s :=
 Calls.Name_function_global I.ok.kind hg (Calls.loadGlobal_global (by rw[I.ok.glob];exact I.mod.glob.keeps I.bk) hm h) hd
def BJ{pos:Pos}{Q:Ε}(I:Inv X aa σ H s)(hg:Gl X x)(hm:X.mg x=none)(hv:bootBuiltins x=some u)(h:Q u s)
 (hn:x≠"__name__":=by decide)(hd:qk x:=by decide):wpAny (model X.prog X.w) X.A (eval (.Name x pos) X.env) Q E s:=by
 obtain⟨mb,h1,h2⟩:=I.mod.blt;exact Calls.Name_function_global I.ok.kind hg (Calls.loadGlobal_builtin (by rw[I.ok.glob];exact I.mod.glob.keeps I.bk) hm (by rw[I.ok.blt];exact h1.keeps I.bk) ((h2 x hn).trans hv) h) hd
def Zn{pos:Pos}(hg:Gl X x)(hm:X.mg x=some u)(r:RelV v u)(hd:qk x:=by decide):PE X (.Name x pos) (tC v) :=
 λ_ _ _ H _ I h=>rK I hg hm ⟨v,H,I,r,h⟩ hd
def agx{pos:Pos}(hg:Gl X x)(hm:X.mg x=none)(hv:bootBuiltins x=some u)(r:RelV v u)(hn:x≠"__name__":=by decide)(hd:qk x:=by decide):PE X (.Name x pos) (tC v) :=
 λ_ _ _ H _ I h=>BJ I hg hm hv ⟨v,H,I,r,h⟩ hn hd
variable{a b:Expr}{ta tb:TE}{pos:Pos}
def PC(X:Cx)(op:CmpOp)(a b:Expr)(t:TE):Prop :=
 ∀(aa:Δ)(s:Shared)(σ:St)(H:Hp)(Q:VK),Inv X aa σ H s->t σ H Q ->
  wpAny (model X.prog X.w) X.A (eval a X.env) (λv s₁=>wpAny (model X.prog X.w) X.A (eval b X.env) (λu s₂=>wpAny (model X.prog X.w) X.A (compareOp op v u) (EP X aa σ Q) X.xe s₂) X.xe s₁) X.xe s
def tB(t:TE):TT:=λσ H Q=>t σ H λx H1=>∃c,x=.bl c/\Q c H1
def acw{op:CmpOp}{t:TE}(h:PC X op a b t)(h1:behindInMarks op b=false:=by rfl):PT X (.Compare a [op] [b] pos) (tB t):=by
 intro aa s σ H Q I hw;refine wpAny_isTrue_Compare1 (thn (h aa s σ H _ I hw) λv s1 h1=>thn h1 λu s2 h2=>thn h2 λc s3 hP=>?_) h1;obtain⟨x,H1,I1,r1,q1⟩:=hP;obtain⟨d,rfl,q⟩:=q1;cases r1;exact wpAny_truthy_bool ⟨H1,I1,q⟩
variable{tA kK:TT}{rest:xz}
def ap8(t u:TT):TT:=λσ H Q=>t σ H λc H1=>if c=true then u σ H1 Q else Q false H1
def tOr(t u:TT):TT:=λσ H Q=>t σ H λc H1=>if c=true then Q true H1 else u σ H1 Q
def apY(t:TT):TT:=λσ H Q=>t σ H λc H1=>Q (!c) H1
def pw_and1(ha:PT X a tA):PW X (.BoolOp .And [a] pos) tA:=by
 intro wh aa s σ H Q I h;refine isTrue_and (thn (ha aa s σ H Q I h) λc s1 e=>?_);cases c with
 |true=>exact isTrue_and_nil e
 |false=>exact e
def pw_or1(ha:PT X a tA):PW X (.BoolOp .Or [a] pos) tA:=by
 intro wh aa s σ H Q I h;refine isTrue_or (thn (ha aa s σ H Q I h) λc s1 e=>?_);cases c with
 |false=>exact isTrue_or_nil e
 |true=>exact e
def pw_and(ha:PT X a tA)(hb:PW X (.BoolOp .And (b::rest) pos) kK):PW X (.BoolOp .And (a::b::rest) pos) (ap8 tA kK):=by
 intro wh aa s σ H Q I h;refine isTrue_and (thn (ha aa s σ H _ I h) λc s1 hP=>?_);obtain⟨H1,I1,q1⟩:=hP;cases c with
 |true=>exact hb wh aa s1 σ H1 Q I1 q1
 |false=>exact⟨H1,I1,q1⟩
def pw_or(ha:PT X a tA)(hb:PW X (.BoolOp .Or (b::rest) pos) kK):PW X (.BoolOp .Or (a::b::rest) pos) (tOr tA kK):=by
 intro wh aa s σ H Q I h;refine isTrue_or (thn (ha aa s σ H _ I h) λc s1 hP=>?_);obtain⟨H1,I1,q1⟩:=hP;cases c with
 |true=>exact⟨H1,I1,q1⟩
 |false=>exact hb wh aa s1 σ H1 Q I1 q1
def ajo(ha:PT X a tA):PT X (.UnaryOp .Not a pos) (apY tA):=by
 intro aa s σ H Q I h;exact isTrue_not (ha aa s σ H (λc H1=>Q (!c) H1) I h)
def aos(ta tb:TE):TE:=λσ H Q=>ta σ H λx H1=>∃c,x=.bl c/\if c=true then tb σ H1 Q else Q (.bl false) H1
def amV(ta:TE):TE:=λσ H Q=>ta σ H λx H1=>∃c,x=.bl c/\Q (.bl (!c)) H1
def ai9{op}{t:TE}(h:PE X a t):PE X (.BoolOp op [a] pos) t:=λaa s σ H Q I hw=>BoolOp_one (h aa s σ H Q I hw)
def ahF(ha:PE X a ta)(hb:PE X (.BoolOp .And (b::rest) pos) tb):PE X (.BoolOp .And (a::b::rest) pos) (aos ta tb):=by
 intro aa s σ H Q I h;refine BoolOp_and (thn (ha aa s σ H _ I h) λv s1 hP=>?_);obtain⟨x,H1,I1,r1,q1⟩:=hP;obtain⟨c,rfl,q1⟩:=q1;cases r1;refine wpAny_truthy_bool ?_;cases c with
 |true=>exact hb aa s1 σ H1 Q I1 q1
 |false=>exact⟨.bl false,H1,I1,rfl,q1⟩
def aiz(ha:PE X a ta):PE X (.UnaryOp .Not a pos) (amV ta):=by
 intro aa s σ H Q I h;refine UnaryOp_ (thn (ha aa s σ H _ I h) λv s1 hP=>?_);obtain⟨x,H1,I1,r1,q1⟩:=hP;obtain⟨c,rfl,q1⟩:=q1;cases r1;exact not_of (wpAny_truthy_bool ⟨.bl (!c),H1,I1,rfl,q1⟩)
def tIf(t:TT)(ta tb:TE):TE:=λσ H Q=>t σ H λc H1=>if c=true then ta σ H1 Q else tb σ H1 Q
def ac3(hc:PT X c tA)(ha:PE X a ta)(hb:PE X b tb):PE X (.IfExp c a b pos) (tIf tA ta tb):=by
 intro aa s σ H Q I h;refine wpAny_IfExp (thn (hc aa s σ H _ I h) λd s1 hP=>?_);obtain⟨H1,I1,q1⟩:=hP;cases d with
 |true=>exact ha aa s1 σ H1 Q I1 q1
 |false=>exact hb aa s1 σ H1 Q I1 q1
end
def SqL(K:Frag)(H:Hp)(a:Addr)(xs:Ζ):Prop :=
 Rd H a (.lst xs) \/
  ∃(o:Obj)(its:xh)(n:Nat),K.lookup a=some o/\o.cls=.type "list"/\o.dict=none/\o.data=.seq its n/\its.size<=sizeLine/\Vals xs its.toList
def SqT(K:Frag)(H:Hp)(a:Addr)(xs:Ζ):Prop :=
 Rd H a (.tup xs) \/
  ∃(o:Obj)(its:xh)(n:Nat),K.lookup a=some o/\o.cls=.type "tuple"/\o.data=.seq its n/\its.size<=sizeLine/\Vals xs its.toList
def aoF:Value->xD
 |.none=>some .non
 |.bool b=>some (.bl b)
 |.int i _=>some (.int i)
 |.str x _=>some (.str x)
 |.bytes b _=>some (.byt b)
 |.float b _=>some (.flt b)
 |.ref a=>some (.ref a)
 |.type n=>some (.ty n)
 |_=>none
def RelV.abs{x:V}(r:RelV x u):aoF u=some x:=by
 cases x with
 |non=>cases r;rfl
 |bl _=>cases r;rfl
 |int _=>obtain⟨t,rfl⟩:=r;rfl
 |str _=>obtain⟨t,rfl⟩:=r;rfl
 |byt _=>obtain⟨t,rfl⟩:=r;rfl
 |flt _=>obtain⟨t,rfl⟩:=r;rfl
 |ref _=>cases r;rfl
 |ty _=>cases r;rfl
def RelV.inj{x y:V}{u:Value}(r:RelV x u)(q:RelV y u):x=y:=Option.some.inj (r.abs.symm.trans q.abs)
theorem Vals.inj:∀{xs ys:Ζ}{us:Θ},Vals xs us->Vals ys us->xs=ys
 |_,_,_,.nil,.nil=>rfl
 |_,_,_,.cons r t,.cons r' t'=>by rw[r.inj r',Vals.inj t t']
def SqL.of(h:H a=some (.lst xs)):SqL K H a xs:=.inl (.inl h)
def SqT.of(h:H a=some (.tup xs)):SqT K H a xs:=.inl (.inl h)
def Inv.list(I:Inv X aa σ H s)(h:SqL X.K H a xs):∃its:Θ,Vals xs its/\PlainL s.heap a its.toArray/\xs.length<=sizeLine:=by
 rcases h with h|⟨o,its,n,hk,hc,hd,hs,hz,r⟩
 .obtain⟨z,its,n,r,e⟩:=h.ok I.hok;exact⟨its,r,⟨_,n,e,rfl,rfl,rfl⟩,z⟩
 .refine⟨its.toList,r,⟨o,n,I.kIn a o hk,hc,hd,by simpa using hs⟩,?_⟩;have e:=r.length;simp only[Array.length_toList]at e;exact aL (WH e) hz
def Inv.tuple(I:Inv X aa σ H s)(h:SqT X.K H a xs):∃its:Θ,Vals xs its/\IsTup s.heap a its.toArray/\xs.length<=sizeLine:=by
 rcases h with h|⟨o,its,n,hk,hc,hs,hz,r⟩
 .obtain⟨z,its,r,p⟩:=h.ok I.hok;exact⟨its,r,p,z⟩
 .refine⟨its.toList,r,⟨o,I.kIn a o hk,hc,n,by simpa using hs⟩,?_⟩;have e:=r.length;simp only[Array.length_toList]at e;exact aL (WH e) hz
def Inv.list_inj(I:Inv X aa σ H s)(h:SqL X.K H a xs)(h':SqL X.K H a ys):xs=ys:=by
 obtain⟨its,r,⟨o,n,e,_,_,d⟩,_⟩:=I.list h;obtain⟨its',r',⟨o',n',e',_,_,d'⟩,_⟩:=I.list h';rw[e]at e';cases e';rw[d]at d';injection d' with d1 _;have:its=its':=by simpa using ZH Array.toList d1
 subst this;exact r.inj r'
def Inv.tuple_inj(I:Inv X aa σ H s)(h:SqT X.K H a xs)(h':SqT X.K H a ys):xs=ys:=by
 obtain⟨its,r,⟨o,e,_,n,d⟩,_⟩:=I.tuple h;obtain⟨its',r',⟨o',e',_,n',d'⟩,_⟩:=I.tuple h';rw[e]at e';cases e';rw[d]at d';injection d' with d1 _;have:its=its':=by simpa using ZH Array.toList d1
 subst this;exact r.inj r'
abbrev Cx.wish(X:Cx)(E:Ε):Cx:={ X with xe:=E }
abbrev Cx.nox(X:Cx):Cx:=X.wish λ_ _=>False
def Cx.Ok.wish{X:Cx}(ok:X.Ok)(E:Ε):(X.wish E).Ok :=
 ⟨ok.mod,ok.kind,ok.glob,ok.blt,ok.above,ok.inj,ok.has,ok.cab,ok.hd,ok.frames,ok.stk,ok.exf,ok.bs,ok.bsz,ok.noex,ok.exfs,ok.funs,ok.frf⟩
def Cx.Ok.unwish{X:Cx}(ok:(X.wish E).Ok):X.Ok :=
 ⟨ok.mod,ok.kind,ok.glob,ok.blt,ok.above,ok.inj,ok.has,ok.cab,ok.hd,ok.frames,ok.stk,ok.exf,ok.bs,ok.bsz,ok.noex,ok.exfs,ok.funs,ok.frf⟩
def Inv.wish(I:Inv X aa σ H s)(E:Ε):Inv (X.wish E) aa σ H s:=⟨I.ok.wish E,I.os,I.bare,I.base,I.loc,I.cell,I.free,I.freeC,I.pin,I.hok,I.len⟩
def Inv.unwish(I:Inv (X.wish E) aa σ H s):Inv X aa σ H s:=⟨I.ok.unwish,I.os,I.bare,I.base,I.loc,I.cell,I.free,I.freeC,I.pin,I.hok,I.len⟩
def SP.unwish{D:Ends}{f:Flow}{s':Shared}(h:SP (X.wish E) aa D f s'):SP X aa D f s':=by
 cases f with
 |next=>obtain⟨σ',H',I,q⟩:=h;exact⟨σ',H',I.unwish,q⟩
 |brk=>obtain⟨σ',H',I,q⟩:=h;exact⟨σ',H',I.unwish,q⟩
 |cont=>obtain⟨σ',H',I,q⟩:=h;exact⟨σ',H',I.unwish,q⟩
 |ret u=>obtain⟨v,σ',H',I,r,q⟩:=h;exact⟨v,σ',H',I.unwish,r,q⟩
def PSs.nox{st:xn}{t:TS}(h:PSs X.nox st t):PSs X st t:=λaa s σ H D I hw =>
 wpAny_mono (h aa s σ H D (I.wish _) hw) (λ_ _ q=>q.unwish) λ_ _ z=>False.elim z
section
variable{X:Cx}{st:Stmt}{rest:xn}{t u:TS}{e:Expr}{te:TE}{pos:Pos}
def anv:TS:=λD σ H=>D.nx σ H
def aaq(t u:TS):TS:=λD σ H=>t { D with nx:=u D } σ H
def afk:PSs X [] anv:=λ_ _ σ H _ I h=>wpAny_execs_nil ⟨σ,H,I,h⟩
def Ld(h1:PS X st t)(h2:PSs X rest u):PSs X (st::rest) (aaq t u):=by
 intro aa s σ H D I h;refine wpAny_execs_cons (thn (h1 aa s σ H { D with nx:=u D } I h) λf s1 q=>?_);cases f with
 |next =>
  obtain⟨σ',H',I',q⟩:=q;exact h2 aa s1 σ' H' D I' q
 |ret v=>exact q
 |brk=>exact q
 |cont=>exact q
def zY(h1:PS X st t):PSs X [st] t:=by
 intro aa s σ H D I h;refine wpAny_execs_cons (thn (h1 aa s σ H D I h) λf s1 q=>?_);cases f with
 |next=>exact wpAny_execs_nil q
 |ret v=>exact q
 |brk=>exact q
 |cont=>exact q
def Inv.quiet(I:Inv X aa σ H s):interactive X.env=false:=by simp[interactive,I.ok.kind]
def anM(te:TE):TS:=λD σ H=>te σ H λ_ H1=>D.nx σ H1
def mD(he:PE X e te)(hs:swapsWith e none pos.line X.env=pure false:=by rfl):PS X (.Expr e pos) (anM te):=by
 intro aa s σ H D I h;exact wpAny_Expr_any (thn (he aa s σ H _ I h) λv s1 hP=>by obtain⟨x,H1,I1,r1,q1⟩:=hP;exact⟨σ,H1,I1,q1⟩) I.quiet hs
def apV(te:TE):TS:=λD σ H=>te σ H D.rt
def LQ(he:PE X e te):PS X (.Return (some e) pos) (apV te):=by
 intro aa s σ H D I h;exact wpAny_Return_some (thn (he aa s σ H _ I h) λv s1 hP=>by obtain⟨x,H1,I1,r1,q1⟩:=hP;exact⟨x,σ,H1,I1,r1,q1⟩)
def apn(c:TT)(t u:TS):TS:=λD σ H=>c σ H λb H1=>if b=true then t D σ H1 else u D σ H1
def akT{a b:xn}{tc:TT}(hc:PT X c tc)(ha:PSs X a t)(hb:PSs X b u):PS X (.If c a b pos) (apn tc t u):=by
 intro aa s σ H D I h;refine wpAny_If (thn (hc aa s σ H _ I h) λd s1 hP=>?_);obtain⟨H1,I1,q1⟩:=hP;cases d with
 |true=>exact ha aa s1 σ H1 D I1 q1
 |false=>exact hb aa s1 σ H1 D I1 q1
def ahy:TS:=λ_ _ _=>False
def ac4:PS X st ahy:=λ_ _ _ _ _ _ h=>h.elim
end
abbrev TG:=V->St->Hp->(St->Hp->Prop)->Prop
abbrev TGs:=Ζ->St->Hp->(St->Hp->Prop)->Prop
def PG(X:Cx)(g9:Expr)(t:TG):Prop :=
 ∀(aa:Δ)(s:Shared)(σ:St)(H:Hp)(v:V)(u:Value)(Q:St->Hp->Prop),Inv X aa σ H s->RelV v u->t v σ H Q ->
  wpAny (model X.prog X.w) X.A (assign g9 X.env u) (λ_ s'=>∃σ' H',Inv X aa σ' H' s'/\Q σ' H') X.xe s
def PGs(X:Cx)(ts:xz)(t:TGs):Prop :=
 ∀(aa:Δ)(s:Shared)(σ:St)(H:Hp)(vs:Ζ)(us:Θ)(Q:St->Hp->Prop),Inv X aa σ H s->Vals vs us->t vs σ H Q ->
  wpAny (model X.prog X.w) X.A (assignInOrder ((assignEach ts X.env).map (·.2)) us) (λ_ s'=>∃σ' H',Inv X aa σ' H' s'/\Q σ' H') X.xe s
abbrev ahH:=V->V->V->Hp->(Hp->Prop)->Prop
def akH(X:Cx)(t:ahH):Prop :=
 ∀(aa:Δ)(s:Shared)(σ:St)(H:Hp)(o i v:V)(ov iv u:Value)(Q:Hp->Prop),Inv X aa σ H s->RelV o ov->RelV i iv->RelV v u->t o i v H Q ->
  wpAny (model X.prog X.w) X.A (setItem ov iv u) (λ_ s'=>∃H',Inv X aa σ H' s'/\Q H') X.xe s
abbrev TIp:=V->V->Hp->VK->Prop
def PIp(X:Cx)(op:Operator)(t:TIp):Prop :=
 ∀(aa:Δ)(s:Shared)(σ:St)(H:Hp)(x y:V)(v u:Value)(Q:VK),Inv X aa σ H s->RelV x v->RelV y u->t x y H Q ->
  wpAny (model X.prog X.w) X.A (inplaceOp op v u) (EP X aa σ Q) X.xe s
def Ai(i:Nat):TG:=λv σ H Q=>Q (σ.set i (some v)) H
def jQ(hN:X.N.Nodup)(hi:X.N[i]?=some x)(hx:Loc X.env.scope x)(hf:qE X x:=by first|exact .inl rfl|exact .inr rfl|assumption):PG X (.Name x pos) (Ai i):=by
 intro aa s σ H v u Q I r h;exact wpAny_assign_Name (uD I hN hi hx r (λs' I'=>⟨_,H,I',h⟩) hf)
def aox:TGs:=λvs σ H Q=>vs=[]/\Q σ H
def anE(t:TG)(u:TGs):TGs:=λvs σ H Q=>∃v r,vs=v::r/\t v σ H λσ' H'=>u r σ' H' Q
def YW:PGs X [] aox:=by
 intro aa s σ H vs us Q I r h;obtain⟨e,h⟩:=h;subst e;cases r;exact assignInOrder_nil ⟨σ,H,I,h⟩
def Kg{t:TG}{u:TGs}(h1:PG X e t)(h2:PGs X es u)
 (hs:(assignEach (e::es) X.env).map (·.2)=assign e X.env::(assignEach es X.env).map (·.2):=by rfl):PGs X (e::es) (anE t u):=by
 intro aa s σ H vs us Q I r h;obtain⟨v,vr,e1,h⟩:=h;subst e1;cases r with
 |cons r rr =>
  rw[hs];refine assignInOrder_cons (thn (h1 aa s σ H _ _ _ I r h) λ_ s1 hP=>?_);obtain⟨σ1,H1,I1,q1⟩:=hP;exact h2 aa s1 σ1 H1 _ _ Q I1 rr q1
def apZ(K:Frag)(n:Nat)(t:TGs):TG:=λv σ H Q=>∃a xs,v=.ref a/\SqT K H a xs/\xs.length=n/\t xs σ H Q
abbrev zt(X:Cx)(a:xz):Prop:=(assignEach a X.env).findIdx? (·.1)=none
def ady{t:TGs}{n:Nat}(hc:X.calm=true)(h:PGs X es t)
 (hn:(assignEach es X.env).length=n:=by rfl)(bv:zt X es:=by rfl):PG X (.Tuple es k pos) (apZ X.K n t):=by
 intro aa s σ H v u Q I r hw;obtain⟨a,xs,e1,hq,hl,hw⟩:=hw;subst e1;cases r;obtain⟨its,rv,ht,hz⟩:=I.tuple hq;refine assign_Tuple_tuple (I.ok.hd hc) ht (by simp[hn,<- hl,rv.length]) bv λh' hx=>?_;have I1:Inv X aa σ H { s with heap:=h' }:=I.kept (t':=s.toks) λb o e=>hx b o (aQ (aK e)) e;exact h aa _ σ H xs _ Q I1 (by simpa using rv) hw
def aoA(to ti:TE)(t:ahH):TG:=λv σ H Q=>to σ H λo H1=>ti σ H1 λi H2=>t o i v H2 λH3=>Q σ H3
def ad2{o i:Expr}{to ti:TE}{t:ahH}(ho:PE X o to)(hi:PE X i ti)(hs:akH X t)
 (ha:∀v,assign (.Subscript o i pos) X.env v=(do
   let ov <- holding [v] (eval o X.env)
   let iv <- holding [v,ov] (eval i X.env)
   standAt pos
   holding [v,ov,iv] (setItem ov iv v)
   release [v,ov,iv] []):=by intro _;rfl):PG X (.Subscript o i pos) (aoA to ti t):=by
 intro aa s σ H v u Q I r h;rw[ha];refine ZU (wpAny_holding (thn (ho aa s σ H _ I h) λov s1 hP=>?_));obtain⟨x,H1,I1,r1,q1⟩:=hP;refine ZU (wpAny_holding (thn (hi aa s1 σ H1 _ I1 q1) λiv s2 hP=>?_));obtain⟨y,H2,I2,r2,q2⟩:=hP;refine ZU (wpAny_standAt (ZU (wpAny_holding (thn (hs aa s2 σ H2 x y v ov iv u _ I2 r1 r2 r q2) λ_ s3 hP=>?_))));obtain⟨H3,I3,q3⟩:=hP;exact wpAny_release ⟨σ,H3,I3,q3⟩
def afJ(te:TE)(g:TG):TS:=λD σ H=>te σ H λx H1=>g x σ H1 D.nx
def Ye{g:TG}(he:PE X e te)(hg:PG X tg g)(hs:swapsWithSole [tg] e pos.line X.env=pure false:=by rfl)(hw:swappedStores [tg] e X.env=pure none:=by rfl)
 (h1:(assignEach [tg] X.env).map (·.2)=[assign tg X.env]:=by rfl):PS X (.Assign [tg] e pos) (afJ te g):=by
 intro aa s σ H D I h;refine wpAny_Assign_stores (thn (he aa s σ H _ I h) λv s1 hP=>?_) hs hw;obtain⟨x,H1,I1,r1,q1⟩:=hP;rw[h1];exact thn (hg aa s1 σ H1 x v _ I1 r1 q1) λ_ s2 q=>q
def acf(hN:X.N.Nodup)(hi:X.N[i]?=some x)(hx:Loc X.env.scope x)(he:PE X e te)(hs:swapsWith e (some (.Name x aS)) pos.line X.env=pure false:=by rfl)(hf:qE X x:=by first|exact .inl rfl|exact .inr rfl|assumption) :
  PS X (.Assign [.Name x aS] e pos) (afJ te (Ai i)):=by
 intro aa s σ H D I h;refine wpAny_Assign_Name (thn (he aa s σ H _ I h) λv s1 hP=>?_) hs;obtain⟨y,H1,I1,r1,q1⟩:=hP;exact uD I1 hN hi hx r1 (λs2 I2=>⟨_,H1,I2,q1⟩) hf
def apK(i j:Nat)(ta:TA):TS:=λD σ H=>ta σ H λvs H1=>∃v w,vs=[v,w]/\D.nx ((σ.set i (some v)).set j (some w)) H1
variable{a:Expr}{ta:TA}{op:Operator}{bE:xn}{p:Pos}{fp:Ψ}
def aiw{j:Nat}{y:Str}{b:Expr}{px py pt:Pos}{kt k2 pt2}(hc:X.calm=true)(hN:X.N.Nodup)(hi:X.N[i]?=some x)(hj:X.N[j]?=some y)(i6:i≠j)
 (hx:X.env.scope.names.lookup x=some .local)(hy:X.env.scope.names.lookup y=some .local)(ha:PA X [a,b] ta)
 (hw:swappedStores [.Tuple [.Name x px,.Name y py] kt pt] (.Tuple [a,b] k2 pt2) X.env=pure (some [x,y]))
 (hs:swapsWithSole [.Tuple [.Name x px,.Name y py] kt pt] (.Tuple [a,b] k2 pt2) pos.line X.env=pure false:=by rfl) :
  PS X (.Assign [.Tuple [.Name x px,.Name y py] kt pt] (.Tuple [a,b] k2 pt2) pos) (apK i j ta):=by
 intro aa s σ H D I h;rw[exec_Assign_arm];refine ZU (wpAny_standAt ?_);rw[hs];refine ZU (ZT ?_);rw[ZZ wb];refine ZU (Tuple_ (thn (ha _ aa s σ H _ I h) λus s1 hP=>?_));obtain⟨vs,H1,I1,r1,q1⟩:=hP;obtain⟨v,w,e1,q1⟩:=q1;subst e1;obtain⟨u1,u2,rfl,rv,dv⟩ : ∃u1 u2,us=[u1,u2]/\RelV v u1/\RelV w u2:=by
  cases r1 with
  |cons p q =>
   cases q with
   |cons p' q' =>
    cases q';exact⟨_,_,rfl,p,p'⟩
 refine wpAny_newObj_type ?_ (by show 2<=sizeLine;decide);have I2:Inv X aa σ H1 { s1 with heap:=s1.heap.push { cls:=.type "tuple",data:=.seq [u1,u2].toArray } }:=I1.kept (t':=s1.toks) λb o e=>aH _ e;rw[hw];refine ZU (ZT ?_);show wpAny (model X.prog X.w) X.A (do rule "assign.swapped-stores"; let items <- unpackItems (.ref s1.heap.objs.size) 2 none;assignInOrder [λv=>bindName X.env y v,λv=>bindName X.env x v] items.reverse;pure Flow.next) _ _ _;refine ZU (wpAny_rule (ZU (unpackItems_tuple (items:=#[u1,u2]) (I.ok.hd hc) (IsTup.new s1.heap _) λh' i4=>?_)));have I3:=I2.kept (h':=h') (t':=s1.toks) λb o e=>i4 b o (aQ (aK e)) e;show wpAny _ _ (assignInOrder [λv=>bindName X.env y v,λv=>bindName X.env x v] [u2,u1] >>= λ_=>pure Flow.next) _ _ _;refine ZU (assignInOrder_cons (wpAny_bindName (uD I3 hN hj (.inl hy) dv (λs2 I4=>?_) (.inr hy))));refine assignInOrder_cons (wpAny_bindName (uD I4 hN hi (.inl hx) rv (λs3 I5=>assignInOrder_nil (ZT ?_)) (.inr hx)));rw[List.set_comm _ _ (Ne.symm i6)]at I5;exact⟨_,H1,I5,q1⟩
def apG(i:Nat)(te:TE)(ti:TIp):TS:=λD σ H=>∃x,σ[i]?=some (some x)/\te σ H λy H1=>ti x y H1 λz H2=>D.nx (σ.set i (some z)) H2
def ahg{ti:TIp}(hN:X.N.Nodup)(hi:X.N[i]?=some x)(hx:Loc X.env.scope x)(he:PE X e te)(ho:PIp X op ti)(hf:qE X x:=by first|exact .inl rfl|exact .inr rfl|assumption) :
  PS X (.AugAssign (.Name x aS) op e pos) (apG i te ti):=by
 intro aa s σ H D I h;obtain⟨v,e1,h⟩:=h;obtain⟨m,hn,hl⟩:=I.loc;have vis:Vis X.env.scope x:=by rcases hx with k|k;exact .inl k;exact .inr (.inl k)
 obtain⟨u,r,l⟩:=hl i x v hi e1 vis;refine wpAny_AugAssign_Name ?_;have go:wpAny (model X.prog X.w) X.A (eval e X.env) (λw s₂=>wpAny (model X.prog X.w) X.A (inplaceOp op u w) (λr s₃=>wpAny (model X.prog X.w) X.A (storeName X.env x r) (λ_=>SP X aa D .next) X.xe s₃) X.xe s₂) X.xe s:=by
  refine thn (he aa s σ H _ I h) λw s1 hP=>?_;obtain⟨y,H1,I1,r1,q1⟩:=hP;refine thn (ho aa s1 σ H1 v y u w _ I1 r r1 q1) λz s2 hP=>?_;obtain⟨zv,H2,I2,r2,q2⟩:=hP;exact uD I2 hN hi hx r2 (λs3 I3=>⟨_,H2,I3,q2⟩) hf
 rcases l with⟨hk,hm⟩|⟨hk,c,hc,cK⟩
 .exact wpAny_loadName_local I.ok.kind hk hn hm go
 .rcases hk with hk|hk
  .exact wpAny_loadName_cell I.ok.kind hk hc cK go
  .rcases hx with k|k
   .have:X.env.scope.names.lookup x=some .free:=hk;rw[k]at this;cases this
   .have:X.env.scope.names.lookup x=some .free:=hk;rw[k]at this;cases this
def ipI(f:Int->Int->Int):TIp:=λx y H Q=>∃i j,x=.int i/\y=.int j/\Q (.int (f i j)) H
def ahm:PIp X .Add (ipI λi j=>i+j):=by
 intro aa s σ H x y v u Q I r1 r2 h;obtain⟨i,j,e1,e2,q⟩:=h;subst e1;subst e2;obtain⟨t,rfl⟩:=r1;obtain⟨t',rfl⟩:=r2;exact iadd_int ⟨.int _,H,I.tok _,⟨_,rfl⟩,q⟩
def ajD(c:TT)(tb:TS):TS:=λD σ H=>∃W:Nat->St->Hp->Prop,(∃m,W m σ H)/\∀m σ H,W m σ H ->
 c σ H λb H1=>if b=true then ∃N:St->Hp->Prop,(∀σ' H',N σ' H'->∃m',m'<m/\W m' σ' H')/\tb { D with nx:=N,ct:=N,bk:=D.nx } σ H1 else D.nx σ H1
def ac5{tc:TT}{tb:TS}(hp:PassesOwn (model X.prog X.w) X.A X.env X.xe)(hc:PT X c tc)(hb:PSs X bE tb):PS X (.While c bE [] pos) (ajD tc tb):=by
 intro aa s σ H D I h;obtain⟨W,⟨m0,w0⟩,fc⟩:=h;refine wpAny_While (codeAny_whileLoop (λn s'=>∃σ' H',Inv X aa σ' H' s'/\W n σ' H') ?_ m0 ⟨σ,H,I,w0⟩);rintro n s1 ⟨σ1,H1,I1,w1⟩;refine wpAny_passesOwn hp (thn (hc aa s1 σ1 H1 _ I1 (fc n σ1 H1 w1)) λb s2 hP=>?_);obtain⟨H2,I2,q2⟩:=hP;cases b with
 |true =>
  obtain⟨N,hN,q2⟩:=q2;rw[ZY rfl];refine wpAny_passesOwn hp (thn (hb aa s2 σ1 H2 _ I2 q2) λf s3 q3=>?_);cases f with
  |next =>
   obtain⟨σ3,H3,I3,n3⟩:=q3;obtain⟨m',hm,w3⟩:=hN σ3 H3 n3;exact⟨m',hm,σ3,H3,I3,w3⟩
  |cont =>
   obtain⟨σ3,H3,I3,n3⟩:=q3;obtain⟨m',hm,w3⟩:=hN σ3 H3 n3;exact⟨m',hm,σ3,H3,I3,w3⟩
  |brk=>exact q3
  |ret v=>exact q3
 |false =>
  rw[ZZ bw];exact wpAny_execs_nil ⟨σ1,H2,I2,q2⟩
structure It where
 go:Nat->Hp->Prop
 yld:Nat->Hp->V->Hp->Prop
 stop:Nat->Hp->Prop
def HX(X:Cx)(aa:Δ)(H:Hp)(b:Addr):Prop :=
 H b=none/\b≠X.env.locals/\b∉X.fs/\(b∈X.ex\/X.s₀.heap.objs.size<=b)/\(∀x c,X.env.cells.lookup x=some c->c≠b)/\∀p∈X.pn++aa,p.1≠b
def Inv.fpOk{X:Cx}(I:Inv X aa σ H s)(hb:s.heap.objs.size<=b)(hn:H' b=none):HX X aa H' b:=by
 refine⟨hn,UY (aR I.lt hb),I.nofs hb,.inr (aL I.sz hb),λx c e z=>?_,λp hp z=>?_⟩
 .obtain⟨v,q⟩:=I.cell x c e;exact absurd (aR q.lt (by rwa[z])) (X9 _)
 .exact absurd (aR (aK (I.pin p hp).1) (by rwa[z])) (X9 _)
structure Turn(P:Program)(w:World)(K:Frag)(tg:Expr)(J:It)(fp:Ψ)(it:Addr)(tn:Nat->Heap->Prop):Prop where
 mem:it∈fp
 obj:∀i h,tn i h->∀b∈fp,∃o,h.get? b=some o/\∀v,o.data≠.cell v
 keep:∀i h h',tn i h->(∀b∈fp,∀o,h.get? b=some o->h'.get? b=some o)->tn i h'
 item:∀(X:Cx),X.prog=P->X.w=w->X.K=K->X.calm=true->∀(i:Nat)(aa:Δ)(s:Shared)(σ:St)(H:Hp)(E:Ε),Inv X aa σ H s->(∀b∈fp,HX X aa H b)->tn i s.heap->J.go i H ->
  wpAny (model P w) X.A (pyNext (.ref it)) (λr s1=>∃u,r=some u /\
   wpAny (model P w) X.A (letOwnedTupleGo tg (.ref it) u) (λ_ s2=>∃x H',Inv X aa σ H' s2/\RelV x u/\J.yld i H x H'/\tn (i+1) s2.heap/\∀b∈fp,H' b=none) E s1) E s
 done:∀(X:Cx),X.prog=P->X.w=w->X.K=K->X.calm=true->∀(i:Nat)(aa:Δ)(s:Shared)(σ:St)(H:Hp)(E:Ε),Inv X aa σ H s->(∀b∈fp,HX X aa H b)->tn i s.heap->J.stop i H ->
  wpAny (model P w) X.A (pyNext (.ref it)) (λr s1=>r=none/\Inv X aa σ H s1) E s
 self:∀(A:Around)(i:Nat)(s:Shared)(Q:Ε)(E:Ε),tn i s.heap->Q (.ref it) s->wpAny (model P w) A (pyIter (.ref it)) Q E s
abbrev TI:=St->Hp->(It->Hp->Prop)->Prop
def PIE(X:Cx)(aa:Δ)(σ:St)(tg:Expr)(R:It->Hp->Prop)(mI:Value)(s2:Shared):Prop :=
 ∃(it:Addr)(fp:Ψ)(tn:Nat->Heap->Prop)(J:It)(H':Hp),mI=.ref it/\Inv X aa σ H' s2/\Turn X.prog X.w X.K tg J fp it tn/\tn 0 s2.heap/\(∀b∈fp,HX X aa H' b)/\R J H'
def PI(X:Cx)(tg iter:Expr)(wi:TI):Prop :=
 ∀(aa:Δ)(s:Shared)(σ:St)(H:Hp)(R:It->Hp->Prop),Inv X aa σ H s->wi σ H R ->
  wpAny (model X.prog X.w) X.A (eval iter X.env) (λv s1=>wpAny (model X.prog X.w) X.A (pyIter v) (PIE X aa σ tg R) X.xe s1) X.xe s
def Vb{it:Addr}{n:String}{vs:xh}(ho:s.heap.get? it=some o)(hc:o.cls=.type n)(hd:o.data=.fields vs)
   (hn : ["enumerate","zip","dict_itemiterator","dict_reverseitemiterator","odict_iterator","itertools.zip_longest","itertools.pairwise"].contains n=false)(hQ:Q () s):wpAny M A (letOwnedTupleGo tg (.ref it) u) Q E s:=by
  unfold letOwnedTupleGo;cases tg<;>first
    |exact ZT hQ
    |(cases u<;>first
        |exact ZT hQ
        | (refine ZU (wpAny_load ho ?_)
           rw[hc,hd];show wpAny M A (if(["enumerate","zip","dict_itemiterator","dict_reverseitemiterator","odict_iterator","itertools.zip_longest","itertools.pairwise"].contains n&&vs[0]?==some (rawInt _))=true then _ else _) Q E s;rw[ZZ (by intro h;rw[hn,Bool.false_and]at h;cases h)];exact ZT hQ))
def Itl(K:Frag)(a:Addr):It :=
 ⟨λi H=>∃xs x,SqL K H a xs/\xs[i]?=some x,λi H x H'=>H'=H/\∀xs,SqL K H a xs->xs[i]?=some x,λi H=>∃xs,SqL K H a xs/\xs.length<=i⟩
def Itt(K:Frag)(a:Addr):It :=
 ⟨λi H=>∃xs x,SqT K H a xs/\xs[i]?=some x,λi H x H'=>H'=H/\∀xs,SqT K H a xs->xs[i]?=some x,λi H=>∃xs,SqT K H a xs/\xs.length<=i⟩
def Itr(lo:Int)(n:Nat):It:=⟨λi _=>i<n,λi H x H'=>H'=H/\x=.int (lo+i),λi _=>n<=i⟩
def aao(a it:Addr):Turn P w K tg (Itl K a) [it] it (λi h=>h.IsListIter it a i) where
 mem:=by simp
 obj:=λi h st b hb=>by
  have e:b=it:=by simpa using hb
  subst e;obtain⟨o,e,c,d⟩:=st;exact⟨o,e,λv z=>by rw[d]at z;cases z⟩
 keep:=λi h h' st k=>st.at λo e=>k it wp o e
 item:=by
  intro X hP hw hK hc i aa s σ H E I hf st hg;subst hP hw hK;obtain⟨xs,x,hq,hx⟩:=hg;obtain⟨its,rv,p,hz⟩:=I.list hq;obtain⟨u,hu,ru⟩:=rv.get hx;obtain⟨f0,f1,f2,f3,f4,f5⟩:=hf it wp;refine wpAny_pyNext_list_item st p.isList (x:=u) (by simpa using hu) λh' dk sb=>?_;have I1:Inv X aa σ H { s with heap:=h' }:=I.turned (t':=s.toks) (λb o hb e=>(sb.2 b hb).trans e) f0 f1 f3 f4 f5;obtain⟨o,e,c,d⟩:=id dk;exact⟨u,rfl,Vb (s:={ s with heap:=h' }) e c d wb ⟨x,H,I1,ru,⟨rfl,λys hy=>by rwa[I.list_inj hy hq]⟩,dk,λb hb=>(hf b hb).1⟩⟩
 done:=by
  intro X hP hw hK hc i aa s σ H E I hf st hg;subst hP hw hK;obtain⟨xs,hq,hx⟩:=hg;obtain⟨its,rv,p,hz⟩:=I.list hq;obtain⟨f0,f1,f2,f3,f4,f5⟩:=hf it wp;have hl:=rv.length;exact wpAny_pyNext_list_end (I.ok.hd hc) st p.isList (by simp;lia) λh' eb=>⟨rfl,I.turned (t':=s.toks) (λb o hb e=>eb b o hb e) f0 f1 f3 f4 f5⟩
 self:=λ_ _ _ _ _ st h=>wpAny_pyIter_listiter st h
def Xw(a it:Addr):Turn P w K tg (Itt K a) [it] it (λi h=>h.IsTupleIter it a i) where
 mem:=by simp
 obj:=λi h st b hb=>by
  have e:b=it:=by simpa using hb
  subst e;obtain⟨o,e,c,d⟩:=st;exact⟨o,e,λv z=>by rw[d]at z;cases z⟩
 keep:=λi h h' st k=>st.at λo e=>k it wp o e
 item:=by
  intro X hP hw hK hc i aa s σ H E I hf st hg;subst hP hw hK;obtain⟨xs,x,hq,hx⟩:=hg;obtain⟨its,rv,p,hz⟩:=I.tuple hq;obtain⟨u,hu,ru⟩:=rv.get hx;obtain⟨f0,f1,f2,f3,f4,f5⟩:=hf it wp;refine wpAny_pyNext_tuple_item st (show s.heap.IsTuple a its.toArray from p) (x:=u) (by simpa using hu) λh' dk sb=>?_;have I1:Inv X aa σ H { s with heap:=h' }:=I.turned (t':=s.toks) (λb o hb e=>(sb.2 b hb).trans e) f0 f1 f3 f4 f5;obtain⟨o,e,c,d⟩:=id dk;exact⟨u,rfl,Vb (s:={ s with heap:=h' }) e c d wb ⟨x,H,I1,ru,⟨rfl,λys hy=>by rwa[I.tuple_inj hy hq]⟩,dk,λb hb=>(hf b hb).1⟩⟩
 done:=by
  intro X hP hw hK hc i aa s σ H E I hf st hg;subst hP hw hK;obtain⟨xs,hq,hx⟩:=hg;obtain⟨its,rv,p,hz⟩:=I.tuple hq;obtain⟨f0,f1,f2,f3,f4,f5⟩:=hf it wp;have hl:=rv.length;exact wpAny_pyNext_tuple_end (I.ok.hd hc) st (show s.heap.IsTuple a its.toArray from p) (by simp;lia) λh' eb=>⟨rfl,I.turned (t':=s.toks) (λb o hb e=>eb b o hb e) f0 f1 f3 f4 f5⟩
 self:=λ_ _ _ _ _ st h=>wpAny_pyIter_tupleiter st h
def Xd(it:Addr)(lo:Int)(n:Nat):Turn P w K tg (Itr lo n) [it] it (λi h=>IsRangeIter h it (lo+(i:Nat)*1) ((n:Int)-(i:Nat)) 1) where
 mem:=by simp
 obj:=λi h st b hb=>by
  have e:b=it:=by simpa using hb
  subst e;exact⟨_,st,λv z=>by
   have z':Data.fields _=Data.cell v:=z;cases z'⟩
 keep:=λi h h' st k=>k it wp _ st
 item:=by
  intro X hP hw hK hc i aa s σ H E I hf st hg;subst hP hw hK;obtain⟨f0,f1,f2,f3,f4,f5⟩:=hf it wp;have W:=Walks.range (prog:=X.prog) (w:=X.w) (I.ok.hd hc) it lo 1 n;refine W.item i s _ _ hg st λv h' tk hv dk kk=>?_;obtain⟨t,rfl⟩:=hv;have I1:Inv X aa σ H { s with heap:=h',toks:=tk }:=I.turned (λb o hb e=>kk b o (by simpa using hb) e) f0 f1 f3 f4 f5;refine⟨_,rfl,Vb (s:={ s with heap:=h',toks:=tk }) (n:="range_iterator") dk rfl rfl wb ⟨.int (lo+i),H,I1,⟨t,?_⟩,⟨rfl,rfl⟩,dk,λb hb=>(hf b hb).1⟩⟩;rw[Int.mul_one]
 done:=by
  intro X hP hw hK hc i aa s σ H E I hf st hg;subst hP hw hK;obtain⟨f0,f1,f2,f3,f4,f5⟩:=hf it wp;exact wpAny_pyNext_range_end (I.ok.hd hc) st (by have:n<=i:=hg;lia) λh' eb=>⟨rfl,I.turned (t':=s.toks) (λb o hb e=>eb b o hb e) f0 f1 f3 f4 f5⟩
 self:=λ_ _ _ _ _ st h=>wpAny_pyIter_rangeiter st h
def alr(K:Frag)(tl:TE):TI:=λσ H R=>tl σ H λx H1=>∃a,x=.ref a/\(∃xs,SqL K H1 a xs)/\R (Itl K a) H1
def apS(K:Frag)(tl:TE):TI:=λσ H R=>tl σ H λx H1=>∃a,x=.ref a/\(∃xs,SqT K H1 a xs)/\R (Itt K a) H1
def agh{l:Expr}{tl:TE}(hl:PE X l tl):PI X tg l (alr X.K tl):=by
 intro aa s σ H R I h;refine thn (hl aa s σ H _ I h) λv s1 hP=>?_;obtain⟨x,H1,I1,r1,q1⟩:=hP;obtain⟨a,e,⟨xs,hq⟩,q⟩:=q1;subst e;cases r1;obtain⟨its,rv,p,hz⟩:=I1.list hq;refine wpAny_pyIter_list p.isList ?_;refine⟨s1.heap.objs.size,[s1.heap.objs.size],_,_,H1,rfl,I1.kept (t':=s1.toks) λb o e=>aH _ e,aao a _,⟨_,aW _ rfl,rfl,rfl⟩,λb hb=>?_,q⟩;have e:b=s1.heap.objs.size:=by simpa using hb
 subst e;exact I1.fpOk (aG _) (I1.hok.fresh (aG _))
def aje{l:Expr}{tl:TE}(hl:PE X l tl):PI X tg l (apS X.K tl):=by
 intro aa s σ H R I h;refine thn (hl aa s σ H _ I h) λv s1 hP=>?_;obtain⟨x,H1,I1,r1,q1⟩:=hP;obtain⟨a,e,⟨xs,hq⟩,q⟩:=q1;subst e;cases r1;obtain⟨its,rv,p,hz⟩:=I1.tuple hq;refine wpAny_pyIter_tuple (show s1.heap.IsTuple a its.toArray from p) ?_;refine⟨s1.heap.objs.size,[s1.heap.objs.size],_,_,H1,rfl,I1.kept (t':=s1.toks) λb o e=>aH _ e,Xw a _,⟨_,aW _ rfl,rfl,rfl⟩,λb hb=>?_,q⟩;have e:b=s1.heap.objs.size:=by simpa using hb
 subst e;exact I1.fpOk (aG _) (I1.hok.fresh (aG _))
def VH{R:It->Hp->Prop}{lo hi:Int}{t u v:Tok}{tk:Nat}(I:Inv X aa σ H s)(h1 : -(2^62)<=lo)(h2:lo<2^62)(h3 : -(2^62)<=hi)(h4:hi<2^62)
 (q:R (Itr lo (hi-lo).toNat) H):wpAny (model X.prog X.w) X.A (pyIter (.ref s.heap.objs.size)) (PIE X aa σ tg R) E { s with heap:=s.heap.push { cls:=.type "range",data:=.fields #[.int lo t,.int hi u,.int 1 v] },toks:=tk }:=by
 refine wpAny_pyIter_range (IsRange.new ..) (small_one h1 h2 h3 h4) ?_;have I1:Inv X aa σ H { s with heap:=s.heap.push { cls:=.type "range",data:=.fields #[.int lo t,.int hi u,.int 1 v] },toks:=tk }:=I.kept λb o e=>aH _ e;refine⟨(s.heap.push { cls:=.type "range",data:=.fields #[.int lo t,.int hi u,.int 1 v] }).objs.size,[(s.heap.push { cls:=.type "range",data:=.fields #[.int lo t,.int hi u,.int 1 v] }).objs.size],_,_,H,rfl,
  I1.kept (t':=tk) λb o e=>aH _ e,Xd _ lo (hi-lo).toNat,?_,λb hb=>?_,q⟩
 .have e1:lo+((0:Nat):Int)*1=lo:=by simp
  have e2:(((hi-lo).toNat:Nat):Int)-((0:Nat):Int)=Builtin.Range.rangeSize lo hi 1:=by rw[rangeSize_one];split<;>lia
  show IsRangeIter _ _ (lo+((0:Nat):Int)*1) ((((hi-lo).toNat:Nat):Int)-((0:Nat):Int)) 1;rw[e1,e2];exact aW _ rfl
 .have e:b=(s.heap.push { cls:=.type "range",data:=.fields #[.int lo t,.int hi u,.int 1 v] }).objs.size:=by simpa using hb
  subst e;exact I1.fpOk (aG _) (I1.hok.fresh (aG _))
def aly(ta:TA):TI:=λσ H R=>ta σ H λvs H1=>∃j:Int,vs=[.int j]/\-(2^62)<=j/\j<2^62/\R (Itr 0 j.toNat) H1
def aks(ta:TA):TI:=λσ H R=>ta σ H λvs H1=>∃i j:Int,vs=[.int i,.int j]/\(-(2^62)<=i/\i<2^62/\-(2^62)<=j/\j<2^62)/\R (Itr i (j-i).toNat) H1
def aa3(hg:Gl X "range")(hm:X.mg "range"=none)(ha:PA X [a] ta)(hs:starEach [a] X.env=[(false,eval a X.env)]:=by rfl):PI X tg (.Call (.Name "range" p) [a] [] pos) (aly ta):=by
 intro aa s σ H R I h;refine Call_ (BJ I hg hm boot_range (PyProof.Rows.callWith_type1 (thn (ha pos aa s σ H _ I h) λus s1 hP=>?_) hs rfl));obtain⟨vs,H1,I1,r1,q1⟩:=hP;obtain⟨j,e,q1,q2,q⟩:=q1;subst e;cases r1 with
 |cons r rr =>
  cases rr;obtain⟨t,rfl⟩:=r;exact call_range_1 (VH I1 (XY wb) (QQ wb) q1 q2 (by simpa using q))
def aae{b:Expr}(hg:Gl X "range")(hm:X.mg "range"=none)(ha:PA X [a,b] ta)(hs:starEach [a,b] X.env=[(false,eval a X.env),(false,eval b X.env)]:=by rfl)(eC:starEach [b] X.env=[(false,eval b X.env)]:=by rfl) :
  PI X tg (.Call (.Name "range" p) [a,b] [] pos) (aks ta):=by
 intro aa s σ H R I h;refine Call_ (BJ I hg hm boot_range (PyProof.Rows.callWith_type1 (thn (ha pos aa s σ H _ I h) λus s1 hP=>?_) (by rw[hs,eC]) (by rw[eC];rfl)));obtain⟨vs,H1,I1,r1,q1⟩:=hP;obtain⟨i,j,e,⟨q1,q2,q3,q4⟩,q⟩:=q1;subst e;cases r1 with
 |cons r rr =>
  cases rr with
  |cons r' rr =>
   cases rr;obtain⟨t,rfl⟩:=r;obtain⟨t',rfl⟩:=r';exact call_range_2 (VH I1 q1 q2 q3 q4 q)
def amj(wi:TI)(g:TG)(tb:TS):TS:=λD σ H=>wi σ H λJ H1=>∃W:Nat->Nat->St->Hp->Prop,(∃m,W 0 m σ H1)/\∀i m σ H,W i m σ H ->
 (J.stop i H/\D.nx σ H)\/(J.go i H/\∃N:St->Hp->Prop,(∀σ' H',N σ' H'->∃m',m'<m/\W (i+1) m' σ' H')/\∀x H',J.yld i H x H'->g x σ H' λσ2 H2=>tb { D with nx:=N,ct:=N,bk:=D.nx } σ2 H2)
def Ko(fp:Ψ)(h:Heap):Δ:=fp.filterMap λb=>(h.get? b).map λo=>(b,o)
def pR(hb:b∈fp)(e:h.get? b=some o):(b,o)∈Ko fp h:=List.mem_filterMap.mpr ⟨b,hb,by rw[e];rfl⟩
def aaX{p:Addr×Obj}(hp:p∈Ko fp h):p.1∈fp/\h.get? p.1=some p.2:=by
 obtain⟨b,hb,e⟩:=List.mem_filterMap.mp hp;cases q:h.get? b with
 |none=>rw[q]at e;cases e
 |some o =>
  rw[q]at e;have e':(b,o)=p:=Option.some.inj e;subst e';exact⟨hb,q⟩
def Inv.pinned(I:Inv X aa σ H s)(hf:∀b∈fp,HX X aa H b)(ho:∀b∈fp,∃o,s.heap.get? b=some o/\∀v,o.data≠.cell v):Inv X (aa++Ko fp s.heap) σ H s :=
 I.pins_of λp hp=>(Y1.mp hp).elim (λz=>I.pin p (aP _ z)) λz=>by
  obtain⟨hb,e⟩:=aaX z;obtain⟨f0,f1,f2,_⟩:=hf p.1 hb;obtain⟨o,e',d⟩:=ho p.1 hb;rw[e]at e';cases e';exact⟨e,f0,f1,f2,d⟩
def Inv.unpinned{pl:Δ}(I:Inv X (aa++pl) σ H s):Inv X aa σ H s:=I.pins_of λp hp=>I.pin p (aP _ (UH _ hp))
abbrev qA(X:Cx)(a:Expr):Prop:=∀z,foldedSetIterable a X.env z=pure z
def aee{iter:Expr}{wi:TI}{g:TG}{tb:TS}(hp:PassesOwn (model X.prog X.w) X.A X.env X.xe)(hc:X.calm=true)(hi:PI X tg iter wi)(hg:PG X tg g)(hb:PSs X bE tb)
 (hs:qA X iter:=by intro _;rfl):PS X (.For tg iter bE [] pos) (amj wi g tb):=by
 intro aa s σ H D I h;refine wpAny_For (thn (hi aa s σ H _ I h) λv s1 h1=>thn h1 λmI s2 h2=>?_) hs;obtain⟨it,fp,tn,J,H2,e,I2,T,gy,f2,W,⟨m0,w0⟩,fc⟩:=h2;subst e

 have hG:∀{H':Hp},(∀b∈fp,H' b=none)->∀b∈fp,HX X aa H' b:=λhn b hb=>⟨hn b hb,(f2 b hb).2⟩;refine codeAny_forLoop_any (λn s'=>∃i σ' H',Inv X aa σ' H' s'/\tn i s'.heap/\(∀b∈fp,H' b=none)/\W i n σ' H') ?_ m0 ⟨0,σ,H2,I2,gy,λb hb=>(f2 b hb).1,w0⟩;rintro n s3 ⟨i,σ3,H3,I3,iL,fr3,w3⟩;rcases fc i n σ3 H3 w3 with⟨stop,qn⟩|⟨go,N,hN,step⟩
 .refine wpAny_passesOwn hp (thn (T.done X rfl rfl rfl hc i aa s3 σ3 H3 X.xe I3 (hG fr3) iL stop) λr s4 hP=>?_);obtain⟨hr,I4⟩:=hP;subst hr;exact wpAny_execs_nil ⟨σ3,H3,I4,qn⟩
 .refine wpAny_passesOwn hp (thn (T.item X rfl rfl rfl hc i aa s3 σ3 H3 X.xe I3 (hG fr3) iL go) λr s4 hP=>?_);obtain⟨u,hr,h4⟩:=hP;subst hr;refine wpAny_passesOwn hp (thn h4 λ_ s5 hP=>?_);obtain⟨x,H5,I5,r5,y5,lS,fr5⟩:=hP;have I5':=I5.pinned (hG fr5) (T.obj _ _ lS);refine wpAny_passesOwn hp (thn (hg _ s5 σ3 H5 x u _ I5' r5 (step x H5 y5)) λ_ s6 hP=>?_);obtain⟨σ6,H6,I6,q6⟩:=hP;refine wpAny_passesOwn hp (thn (hb _ s6 σ6 H6 _ I6 q6) λf s7 q7=>?_);have again:∀{σ7:St}{H7:Hp},Inv X (aa++Ko fp s5.heap) σ7 H7 s7->N σ7 H7->∃m,m<n/\∃i σ' H',Inv X aa σ' H' s7/\tn i s7.heap/\(∀b∈fp,H' b=none)/\W i m σ' H':=λ{σ7 H7}I7 n7=>by
   obtain⟨m',hm,w7⟩:=hN σ7 H7 n7;refine⟨m',hm,i+1,σ7,H7,I7.unpinned,T.keep _ _ _ lS λb hb o e=>(I7.pin (b,o) (aP _ (aP _ (pR hb e)))).1,λb hb=>?_,w7⟩;obtain⟨o,e,d⟩:=T.obj _ _ lS b hb;exact(I7.pin (b,o) (aP _ (aP _ (pR hb e)))).2.1
  cases f with
  |next=>obtain⟨σ7,H7,I7,n7⟩:=q7;exact again I7 n7
  |cont=>obtain⟨σ7,H7,I7,n7⟩:=q7;exact again I7 n7
  |brk=>obtain⟨σ7,H7,I7,q7⟩:=q7;exact⟨σ7,H7,I7.unpinned,q7⟩
  |ret v=>obtain⟨x7,σ7,H7,I7,r7,q7⟩:=q7;exact⟨x7,σ7,H7,I7.unpinned,r7,q7⟩
abbrev R2:=V->V->Hp->VK->Prop
def OpR(X:Cx)(f:Value->Value->Sem Value)(r:R2):Prop :=
 ∀(aa:Δ)(s:Shared)(σ:St)(H:Hp)(x y:V)(v u:Value)(Q:VK),Inv X aa σ H s->RelV x v->RelV y u->r x y H Q ->
  wpAny (model X.prog X.w) X.A (f v u) (EP X aa σ Q) X.xe s
def UnR(X:Cx)(f:Value->Sem Value)(r:V->Hp->VK->Prop):Prop :=
 ∀(aa:Δ)(s:Shared)(σ:St)(H:Hp)(x:V)(v:Value)(Q:VK),Inv X aa σ H s->RelV x v->r x H Q ->
  wpAny (model X.prog X.w) X.A (f v) (EP X aa σ Q) X.xe s
def jx(X:Cx)(f:Value)(r:Ζ->Hp->VK->Prop):Prop :=
 ∀(aa:Δ)(s:Shared)(σ:St)(H:Hp)(xs:Ζ)(us:Θ)(Q:VK),Inv X aa σ H s->Vals xs us->r xs H Q ->
  wpAny (model X.prog X.w) X.A (call f us) (EP X aa σ Q) X.xe s
def apJ(X:Cx)(r:V->Hp->(Bool->Hp->Prop)->Prop):Prop :=
 ∀(aa:Δ)(s:Shared)(σ:St)(H:Hp)(x:V)(v:Value)(Q:Bool->Hp->Prop),Inv X aa σ H s->RelV x v->r x H Q ->
  wpAny (model X.prog X.w) X.A (truthy v) (TP X aa σ Q) X.xe s
def tOp(r:R2)(ta tb:TE):TE:=λσ H Q=>ta σ H λx H1=>tb σ H1 λy H2=>r x y H2 Q
def tUn(r:V->Hp->VK->Prop)(ta:TE):TE:=λσ H Q=>ta σ H λx H1=>r x H1 Q
def rI(C:Int->Int->Prop)(g:Int->Int->V):R2:=λx y H Q=>∃i j,x=.int i/\y=.int j/\C i j/\Q (g i j) H
def rI0(g:Int->Int->V):R2:=λx y H Q=>∃i j,x=.int i/\y=.int j/\Q (g i j) H
def rU(g:Int->V):V->Hp->VK->Prop:=λx H Q=>∃i,x=.int i/\Q (g i) H
variable{b:Expr}{ta tb:TE}{f:Value->Value->Sem Value}{r:R2}{v:Value}{g:Int->Int->Int}
def ahC(ha:PE X a ta)(hb:PE X b tb){R:V->V->Hp->Prop}(I:Inv X aa σ H s)
 (h:ta σ H λx H1=>tb σ H1 λy H2=>R x y H2){Q:Ε}
 (hf:∀v u s2 x y H2,Inv X aa σ H2 s2->RelV x v->RelV y u->R x y H2->wpAny (model X.prog X.w) X.A (f v u) Q X.xe s2) :
  wpAny (model X.prog X.w) X.A (eval a X.env) (λv s₁=>wpAny (model X.prog X.w) X.A (eval b X.env) (λu s₂=>wpAny (model X.prog X.w) X.A (f v u) Q X.xe s₂) X.xe s₁) X.xe s:=by
 refine thn (ha aa s σ H _ I h) λv s1 hP=>?_;obtain⟨x,H1,I1,r1,q1⟩:=hP;refine thn (hb aa s1 σ H1 _ I1 q1) λu s2 hP=>?_;obtain⟨y,H2,I2,r2,q2⟩:=hP;exact hf v u s2 x y H2 I2 r1 r2 q2
def abU(ho:OpR X (binaryOp op) r)(ha:PE X a ta)(hb:PE X b tb):PE X (.BinOp a op b pos) (tOp r ta tb):=by
 intro aa s σ H Q I h;exact wpAny_BinOp (ahC ha hb I h λv u s2 x y H2 I2 rx ry q=>ho aa s2 σ H2 x y v u Q I2 rx ry q)
def an2{op:UnaryOp}{r:V->Hp->VK->Prop}(ho:UnR X (unaryOp op) r)(ha:PE X a ta):PE X (.UnaryOp op a pos) (tUn r ta):=by
 intro aa s σ H Q I h;exact UnaryOp_ (thn (ha aa s σ H _ I h) λv s1 hP=>by obtain⟨x,H1,I1,r1,q1⟩:=hP;exact ho aa s1 σ H1 x v Q I1 r1 q1)
def Dg(ho:OpR X (inplaceOp op) r){x y:V}{Q:VK}(I:Inv X aa σ H s)
 (rx:RelV x v)(ry:RelV y u)(q:r x y H Q):wpAny (model X.prog X.w) X.A (inplaceOp op v u) (EP X aa σ Q) X.xe s:=ho aa s σ H x y v u Q I rx ry q
def opI{C:Int->Int->Prop}
 (rule:∀(i j:Int)(t u:Tok)(s:Shared)(Q:Ε)(E:Ε),C i j->Q (.int (g i j) s.toks) { s with toks:=s.toks+1 }->wpAny (model X.prog X.w) X.A (f (.int i t) (.int j u)) Q E s) :
  OpR X f (rI C λi j=>.int (g i j)):=by
 intro aa s σ H x y v u Q I rx ry h;obtain⟨i,j,rfl,rfl,hc,q⟩:=h;obtain⟨t,rfl⟩:=rx;obtain⟨t',rfl⟩:=ry;exact rule i j t t' s _ _ hc ⟨.int (g i j),H,I.tok _,⟨_,rfl⟩,q⟩
def alG
 (rule:∀(i j:Int)(t u:Tok)(s:Shared)(Q:Ε)(E:Ε),Q (.int (g i j) s.toks) { s with toks:=s.toks+1 }->wpAny (model X.prog X.w) X.A (f (.int i t) (.int j u)) Q E s) :
  OpR X f (rI0 λi j=>.int (g i j)):=by
 intro aa s σ H x y v u Q I rx ry h;obtain⟨i,j,rfl,rfl,q⟩:=h;obtain⟨t,rfl⟩:=rx;obtain⟨t',rfl⟩:=ry;exact rule i j t t' s _ _ ⟨.int (g i j),H,I.tok _,⟨_,rfl⟩,q⟩
def aeV{g:Int->Int->Bool}
 (rule:∀(i j:Int)(t u:Tok)(s:Shared)(Q:Ε)(E:Ε),Q (.bool (g i j)) s->wpAny (model X.prog X.w) X.A (f (.int i t) (.int j u)) Q E s) :
  OpR X f (rI0 λi j=>.bl (g i j)):=by
 intro aa s σ H x y v u Q I rx ry h;obtain⟨i,j,rfl,rfl,q⟩:=h;obtain⟨t,rfl⟩:=rx;obtain⟨t',rfl⟩:=ry;exact rule i j t t' s _ _ ⟨.bl (g i j),H,I,rfl,q⟩
def akM(i j:Int):Prop:=0<=j/\j<=1000000/\i.natAbs<2^64
def af6(i j:Int):Prop:=(-(2^64)<i/\i<2^64)\/(-(2^64)<j/\j<2^64)
def af6.ok{i j:Int}(h:af6 i j):IntMulOk i j:=by
 rcases h with⟨h1,h2⟩|⟨h1,h2⟩
 .exact .of_left (intBits_le_64 h1 h2)
 .exact .of_right (intBits_le_64 h1 h2)
def ahu:OpR X (binaryOp .Add) (rI0 λi j=>.int (i+j)):=alG λ_ _ _ _ _ _ _ q=>add_int q
def aiq:OpR X (binaryOp .Sub) (rI0 λi j=>.int (i-j)):=alG λ_ _ _ _ _ _ _ q=>sub_int q
def ahD:OpR X (binaryOp .Mult) (rI af6 λi j=>.int (i*j)):=opI λ_ _ _ _ _ _ _ hc q=>mul_int q hc.ok
def ah5:OpR X (binaryOp .Mod) (rI (λ_ j=>0<j) λi j=>.int (i%j)):=opI λi j _ _ _ _ _ hc q=>by
 have h1:(0:Int)<j:=hc;exact mod_int' (WS hc) (by rw[Int.fmod_eq_emod_of_nonneg i (XY hc)];exact q)
def aiX:OpR X (binaryOp .Pow) (rI akM λi j=>.int (i^j.toNat)):=opI λ_ _ _ _ _ _ _ hc q=>pow_int_small hc.1 hc.2.1 hc.2.2 q
def unI{f:Value->Sem Value}{g:Int->Int}
 (rule:∀(i:Int)(t:Tok)(s:Shared)(Q:Ε)(E:Ε),Q (.int (g i) s.toks) { s with toks:=s.toks+1 }->wpAny (model X.prog X.w) X.A (f (.int i t)) Q E s) :
  UnR X f (rU λi=>.int (g i)):=by
 intro aa s σ H x v Q I rx h;obtain⟨i,rfl,q⟩:=h;obtain⟨t,rfl⟩:=rx;exact rule i t s _ _ ⟨.int (g i),H,I.tok _,⟨_,rfl⟩,q⟩
def ajC:UnR X (unaryOp .USub) (rU λi=>.int (-i)):=unI λ_ _ _ _ _ q=>neg_int q
def afI:V->V->Bool
 |.non,.non=>true|.non,.int _=>true|.int _,.non=>true|.non,.bl _=>true|.bl _,.non=>true|.non,.str _=>true|.str _,.non=>true
 |.int _,.int _=>true|.bl _,.bl _=>true|.str _,.str _=>true|.byt _,.byt _=>true
 |.int _,.str _=>true|.str _,.int _=>true|.bl _,.str _=>true|.str _,.bl _=>true
 |_,_=>false
def rEq:R2:=λx y H Q=>afI x y=true/\Q (.bl (decide (x=y))) H
def rNe:R2:=λx y H Q=>afI x y=true/\Q (.bl (!decide (x=y))) H
def ZG{i j:Int} : decide (V.int i=V.int j)=(i==j):=by
 rw[Bool.eq_iff_iff];simp
def adx{i j:Bool} : decide (V.bl i=V.bl j)=(i==j):=by
 rw[Bool.eq_iff_iff];simp
def Zb{i j:Str} : decide (V.str i=V.str j)=(i==j):=by
 rw[Bool.eq_iff_iff];simp
def Yw{i j:Array UInt8} : decide (V.byt i=V.byt j)=(i.toList==j.toList):=by
 rw[Bool.eq_iff_iff];cases i;cases j;simp
def dH{Q:VK}{k k':Bool}(I:Inv X aa σ H s)(q:Q (.bl k) H)(e:k=k'):EP X aa σ Q (.bool k') s:=by
 subst e;exact⟨.bl k,H,I,rfl,q⟩
def anO:OpR X (compareOp .Eq) rEq:=by
 intro aa s σ H x y v u Q I rx ry h;obtain⟨hs,q⟩:=h;cases x with
 |non =>
  cases rx;cases y with
  |non=>cases ry;exact PySem.EqNone.eq_none_none (dH I q wp)
  |bl j=>cases ry;exact PySem.EqNone.eq_none_bool (dH I q wp)
  |int j=>obtain⟨t',rfl⟩:=ry;exact PySem.EqNone.eq_none_int (dH I q wp)
  |str j=>obtain⟨t',rfl⟩:=ry;exact PySem.EqNone.eq_none_str (dH I q wp)
  |_=>exact absurd (show false=true from hs) bw
 |bl i =>
  cases rx;cases y with
  |non=>cases ry;exact PySem.EqNone.eq_bool_none (dH I q wp)
  |bl j=>cases ry;exact eq_bool (dH I q adx)
  |str j=>obtain⟨t',rfl⟩:=ry;exact PySem.EqMixed.eq_bool_str (dH I q wp)
  |_=>exact absurd (show false=true from hs) bw
 |int i =>
  obtain⟨t,rfl⟩:=rx;cases y with
  |non=>cases ry;exact PySem.EqNone.eq_int_none (dH I q wp)
  |int j=>obtain⟨t',rfl⟩:=ry;exact eq_int (dH I q ZG)
  |str j=>obtain⟨t',rfl⟩:=ry;exact PySem.EqMixed.eq_int_str (dH I q wp)
  |_=>exact absurd (show false=true from hs) bw
 |str i =>
  obtain⟨t,rfl⟩:=rx;cases y with
  |non=>cases ry;exact PySem.EqNone.eq_str_none (dH I q wp)
  |bl j=>cases ry;exact PySem.EqMixed.eq_str_bool (dH I q wp)
  |int j=>obtain⟨t',rfl⟩:=ry;exact PySem.EqMixed.eq_str_int (dH I q wp)
  |str j=>obtain⟨t',rfl⟩:=ry;exact eq_str (dH I q Zb)
  |_=>exact absurd (show false=true from hs) bw
 |byt i =>
  obtain⟨t,rfl⟩:=rx;cases y with
  |byt j=>obtain⟨t',rfl⟩:=ry;exact PySem.W.eq_bytes (dH I q Yw)
  |_=>exact absurd (show false=true from hs) bw
 |_=>cases y<;>exact absurd (show false=true from hs) bw
def aj0:OpR X (compareOp .NotEq) rNe:=by
 intro aa s σ H x y v u Q I rx ry h;obtain⟨hs,q⟩:=h;cases x with
 |non =>
  cases rx;cases y with
  |non=>cases ry;exact PySem.EqNone.ne_none_none (dH I q wp)
  |bl j=>cases ry;exact PySem.EqNone.ne_none_bool (dH I q wp)
  |int j=>obtain⟨t',rfl⟩:=ry;exact PySem.EqNone.ne_none_int (dH I q wp)
  |str j=>obtain⟨t',rfl⟩:=ry;exact PySem.EqNone.ne_none_str (dH I q wp)
  |_=>exact absurd (show false=true from hs) bw
 |bl i =>
  cases rx;cases y with
  |non=>cases ry;exact PySem.EqNone.ne_bool_none (dH I q wp)
  |bl j=>cases ry;exact ne_bool (dH I q (ZH not adx))
  |str j=>obtain⟨t',rfl⟩:=ry;exact PySem.EqMixed.ne_bool_str (dH I q wp)
  |_=>exact absurd (show false=true from hs) bw
 |int i =>
  obtain⟨t,rfl⟩:=rx;cases y with
  |non=>cases ry;exact PySem.EqNone.ne_int_none (dH I q wp)
  |int j=>obtain⟨t',rfl⟩:=ry;exact ne_int (dH I q (ZH not ZG))
  |str j=>obtain⟨t',rfl⟩:=ry;exact PySem.EqMixed.ne_int_str (dH I q wp)
  |_=>exact absurd (show false=true from hs) bw
 |str i =>
  obtain⟨t,rfl⟩:=rx;cases y with
  |non=>cases ry;exact PySem.EqNone.ne_str_none (dH I q wp)
  |bl j=>cases ry;exact PySem.EqMixed.ne_str_bool (dH I q wp)
  |int j=>obtain⟨t',rfl⟩:=ry;exact PySem.EqMixed.ne_str_int (dH I q wp)
  |str j=>obtain⟨t',rfl⟩:=ry;exact ne_str (dH I q (ZH not Zb))
  |_=>exact absurd (show false=true from hs) bw
 |byt i =>
  obtain⟨t,rfl⟩:=rx;cases y with
  |byt j=>obtain⟨t',rfl⟩:=ry;exact PySem.W.ne_bytes (dH I q (ZH not Yw))
  |_=>exact absurd (show false=true from hs) bw
 |_=>cases y<;>exact absurd (show false=true from hs) bw
def ak9:OpR X (compareOp .Lt) (rI0 λi j=>.bl (decide (i<j))):=aeV λ_ _ _ _ _ _ _ q=>lt_int q
def al8:OpR X (compareOp .LtE) (rI0 λi j=>.bl (decide (i<=j))):=aeV λ_ _ _ _ _ _ _ q=>le_int q
def anZ:OpR X (compareOp .Gt) (rI0 λi j=>.bl (decide (j<i))):=aeV λ_ _ _ _ _ _ _ q=>gt_int q
def al7:OpR X (compareOp .GtE) (rI0 λi j=>.bl (decide (j<=i))):=aeV λ_ _ _ _ _ _ _ q=>ge_int q
def ahE:OpR X (compareOp .Is) (λx y H Q=>y=.non/\Q (.bl (decide (x=.non))) H):=by
 intro aa s σ H x y v u Q I rx ry h;obtain⟨rfl,q⟩:=h;cases ry;refine is_none_gen (dH I q ?_);cases x<;>first
  |(cases rx;rfl)
  |(obtain⟨t,rfl⟩:=rx;rfl)
def aeL:OpR X (compareOp .IsNot) (λx y H Q=>y=.non/\Q (.bl (!decide (x=.non))) H):=by
 intro aa s σ H x y v u Q I rx ry h;obtain⟨rfl,q⟩:=h;cases ry;refine isnot_none_gen (dH I q ?_);cases x<;>first
  |(cases rx;rfl)
  |(obtain⟨t,rfl⟩:=rx;rfl)
variable{op:CmpOp}{tc:TE}{us:Θ}{dx x C f:Addr}{mA:Str->Ω}{prog:Program}{name:Str}{pl:Sem Bool}{kw:xo}
def acV(b:Expr)(h:op≠.In:=by decide)(h2:op≠.NotIn:=by decide):behindInMarks op b=false:=by
 have e1:(op==CmpOp.In)=false:=by cases op<;>first|rfl|exact absurd rfl h
 have e2:(op==CmpOp.NotIn)=false:=by cases op<;>first|rfl|exact absurd rfl h2
 cases b<;>simp[behindInMarks,e1,e2]
def afj(ho:OpR X (compareOp op) r)(ha:PE X a ta)(hb:PE X b tb)(hm:behindInMarks op b=false):PE X (.Compare a [op] [b] pos) (tOp r ta tb):=by
 intro aa s σ H Q I h;exact wpAny_Compare1 (ahC ha hb I h λv u s2 x y H2 I2 rx ry q=>ho aa s2 σ H2 x y v u Q I2 rx ry q) hm
def ag1(t:TE):TT:=λσ H Q=>t σ H λx H'=>∃k,x=.bl k/\Q k H'
def af9(ho:OpR X (compareOp op) r)(ha:PE X a ta)(hb:PE X b tb)(hm:behindInMarks op b=false):PT X (.Compare a [op] [b] pos) (ag1 (tOp r ta tb)):=by
 intro aa s σ H Q I h;refine wpAny_isTrue_Compare1 (thn (ha aa s σ H _ I h) λv s1 ⟨x,H1,I1,r1,q1⟩=>thn (hb aa s1 σ H1 _ I1 q1) λu s2 ⟨y,H2,I2,r2,q2⟩ =>
  thn (ho aa s2 σ H2 x y v u _ I2 r1 r2 q2) λc s3 ⟨z,H3,I3,r3,k,e,q3⟩=>?_) hm
 subst e;cases r3;exact wpAny_truthy_bool ⟨H3,I3,q3⟩
def Xl(r r':R2)(ta tb tc:TE):TE:=λσ H Q=>ta σ H λx H1=>tb σ H1 λy H2=>r x y H2 λz H3=>∃k,z=.bl k /\
 (if k=true then tc σ H3 λw' H4=>r' y w' H4 Q else Q (.bl false) H3)
def abW{du:CmpOp}{r':R2}(ho:OpR X (compareOp op) r)(db:OpR X (compareOp du) r')(ha:PE X a ta)(hb:PE X b tb)(hc:PE X c tc)
 (hm:lastMarks [op,du] [b,c]=false:=by with_unfolding_all rfl):PE X (.Compare a [op,du] [b,c] pos) (Xl r r' ta tb tc):=by
 intro aa s σ H Q I h;refine Compare_chain (thn (ha aa s σ H _ I h) λv s1 ⟨x,H1,I1,r1,q1⟩=>chain_link (thn (hb aa s1 σ H1 _ I1 q1) λu s2 ⟨y,H2,I2,r2,q2⟩ =>
  thn (ho aa s2 σ H2 x y v u _ I2 r1 r2 q2) λd s3 ⟨z,H3,I3,r3,k,e,q3⟩=>?_)) hm
 subst e;cases r3;refine wpAny_truthy_bool ?_;cases k with
 |false=>exact ite_ff ⟨.bl false,H3,I3,rfl,q3⟩
 |true=>exact ite_tt (chain_last (thn (hc aa s3 σ H3 _ I3 q3) λw' s4 hP=>by obtain⟨z',H4,I4,r4,q4⟩:=hP;exact db aa s4 σ H4 y z' u w' Q I4 r2 r4 q4))
def ad4{du:CmpOp}{r':R2}(ho:OpR X (compareOp op) r)(db:OpR X (compareOp du) r')(ha:PE X a ta)(hb:PE X b tb)(hc:PE X c tc)
 (hm:lastMarks [op,du] [b,c]=false:=by with_unfolding_all rfl):PT X (.Compare a [op,du] [b,c] pos) (ag1 (Xl r r' ta tb tc)):=by
 intro aa s σ H Q I h;refine isTrue_chain (thn (ha aa s σ H _ I h) λv s1 ⟨x,H1,I1,r1,q1⟩=>test_link (thn (hb aa s1 σ H1 _ I1 q1) λu s2 ⟨y,H2,I2,r2,q2⟩ =>
  thn (ho aa s2 σ H2 x y v u _ I2 r1 r2 q2) λd s3 ⟨z,H3,I3,r3,k,e,q3⟩=>?_)) hm
 subst e;cases r3;refine wpAny_truthy_bool ?_;cases k with
 |false =>
  obtain⟨k',e',q'⟩:=q3;cases e';exact ite_ff ⟨H3,I3,q'⟩
 |true =>
  refine ite_tt (test_last (thn (hc aa s3 σ H3 _ I3 q3) λw' s4 ⟨z',H4,I4,r4,q4⟩=>thn (db aa s4 σ H4 y z' u w' _ I4 r2 r4 q4) λd' s5 hP=>?_));obtain⟨z2,H5,I5,r5,k2,e2,q5⟩:=hP;subst e2;cases r5;exact wpAny_truthy_bool ⟨H5,I5,q5⟩
def al0(K:Frag)(x:V)(H:Hp)(k:Bool):Prop :=
 match x with
 |.non=>k=false
 |.bl b=>k=b
 |.int i=>k=(i != 0)
 |.str y=>y.length<=sizeLine/\k=((y.length:Int) != 0)
 |.byt y=>y.size<=sizeLine/\k=((y.size:Int) != 0)
 |.ref p=>(∃xs,SqL K H p xs/\k = !xs.isEmpty)\/(∃xs,SqT K H p xs/\k = !xs.isEmpty)\/∃kvs,H p=some (.dK kvs)/\k = !kvs.isEmpty
 |_=>False
def WL{κ:Type}{kvs:List (κ×V)}{vs:List (κ×Value)}(r:KV kvs vs):(!vs.isEmpty) = !kvs.isEmpty:=by
 cases r<;>rfl
def Lz{its:Θ}(r:Vals xs its):(!its.toArray.isEmpty) = !xs.isEmpty:=by
 cases r<;>simp
def xK:(sizeLine:Nat)<2^63:=by rw[sizeLine_eq];decide
def ai8:apJ X (λx H Q=>∃k,al0 X.K x H k/\Q k H):=by
 intro aa s σ H x v Q I rx h;obtain⟨k,e,q⟩:=h;have hl:=xK;have hs:sizeLine=16777216:=sizeLine_eq;cases x with
 |non =>
  cases rx;have e':k=false:=e;subst e';exact truthy_none ⟨H,I,q⟩
 |bl b =>
  cases rx;have e':k=b:=e;subst e';exact wpAny_truthy_bool ⟨H,I,q⟩
 |int i =>
  obtain⟨t,rfl⟩:=rx;have e':k=(i != 0):=e;subst e';exact PySem.P.truthy_int ⟨H,I,q⟩
 |str y =>
  obtain⟨t,rfl⟩:=rx;obtain⟨hy,e'⟩ : y.length<=sizeLine/\k=((y.length:Int) != 0):=e;subst e';exact PySem.P.truthy_str wf ⟨H,I.tok _,q⟩
 |byt y =>
  obtain⟨t,rfl⟩:=rx;obtain⟨hy,e'⟩ : y.size<=sizeLine/\k=((y.size:Int) != 0):=e;subst e';exact PySem.W.truthy_bytes (aL hy wb) ⟨H,I.tok _,q⟩
 |ref p =>
  cases rx;have e':(∃xs,SqL X.K H p xs/\k = !xs.isEmpty)\/(∃xs,SqT X.K H p xs/\k = !xs.isEmpty)\/∃kvs,H p=some (.dK kvs)/\k = !kvs.isEmpty:=e;rcases e' with⟨xs,hx,e'⟩|⟨xs,hx,e'⟩|⟨kvs,hx,e'⟩
  .subst e';obtain⟨its,r,pl,hz⟩:=I.list hx;have a8:=r.length;exact wpAny_truthy_list pl.isList (by simp only[aX];lia) ⟨H,I.tok _,by rw[Lz r];exact q⟩
  .subst e';obtain⟨its,r,pl,hz⟩:=I.tuple hx;have a8:=r.length;exact truthy_tuple pl (by simp only[aX];lia) ⟨H,I.tok _,by rw[Lz r];exact q⟩
  .subst e';obtain⟨hz,hS,vs,r,m⟩ : kvs.length<=sizeLine/\(p==sysModules)=false/\∃vs,KV kvs vs/\s.heap.DictOf (jJ X.prog X.w) p vs:=I.hok p _ hx;have a8:kvs.length=vs.length:=Paired.length r;exact wpAny_truthy_dict hS m wf ⟨H,I.tok _,by rw[WL r];exact q⟩
 |_=>exact(show False from e).elim
def ad3(ha:PE X a ta)(he:∀cm,isTrue a X.env cm=(do let v <- cm;standAt a.pos;holding [v] (truthy v))) :
  PT X a (λσ H Q=>ta σ H λx H'=>∃k,al0 X.K x H' k/\Q k H'):=by
 intro aa s σ H Q I h;exact isTrue_plain (thn (ha aa s σ H _ I h) λv s1 hP=>by obtain⟨x,H1,I1,r1,q1⟩:=hP;exact ai8 aa s1 σ H1 x v Q I1 r1 q1) (he _)
def XM:OpR X (binaryOp .Add) (λx y H Q=>∃i j,x=.str i/\y=.str j/\i.length+j.length<=sizeLine/\Q (.str (i++j)) H):=by
 intro aa s σ H x y v u Q I rx ry h;obtain⟨i,j,rfl,rfl,hz,q⟩:=h;obtain⟨t,rfl⟩:=rx;obtain⟨t',rfl⟩:=ry;exact add_str (λt' tk=>⟨.str (i++j),H,I.tok _,⟨_,rfl⟩,q⟩) hz
def vals1{x:V}(r:Vals [x] us):∃u,us=[u]/\RelV x u:=by
 cases r with
 |cons r1 r2=>cases r2;exact⟨_,rfl,r1⟩
def acZ:jx X (.builtin "abs") (λxs H Q=>∃i,xs=[.int i]/\Q (.int (if i<0 then -i else i)) H):=by
 intro aa s σ H xs us Q I r h;obtain⟨i,rfl,q⟩:=h;obtain⟨u,rfl,t,rfl⟩:=vals1 r;exact call_abs_int λu tk=>⟨.int (if i<0 then -i else i),H,I.tok _,⟨_,rfl⟩,q⟩
def aa2:jx X (.type "int") (λxs H Q=>(∃i,xs=[.int i]/\Q (.int i) H)\/∃k,xs=[.bl k]/\Q (.int (if k then 1 else 0)) H):=by
 intro aa s σ H xs us Q I r h;rcases h with⟨i,rfl,q⟩|⟨k,rfl,q⟩
 .obtain⟨u,rfl,t,rfl⟩:=vals1 r;exact call_int_int ⟨.int i,H,I,⟨_,rfl⟩,q⟩
 .obtain⟨u,rfl,r1⟩:=vals1 r;cases r1;exact call_int_bool ⟨.int (if k then 1 else 0),H,I.tok _,⟨_,rfl⟩,q⟩
structure X4(h:Heap)(x dx C:Addr)(mA:Str->Ω):Prop where
 obj:h.get? x=some (instObj C dx)
 ns:h.Ns1 dx mA
 ne:dx≠x
def N_(n:h.Ns1 dx mA):∃od,h.get? dx=some od/\∀name,lookIn name od=some (mA name):=by
 obtain⟨o,es,ep,ho,hd,hk,_,hm⟩:=n;refine⟨o,ho,λname=>?_⟩;have e:=hm name;unfold nsFind findBy at e;rw[<- Array.find?_toList]at e;unfold lookIn;rw[hd];dsimp only;split
 .rename_i y q
  rw[q]at e;exact ZH some e
 .rename_i q
  rw[q]at e;have a:es.toList.any (·.refKey)=false:=by
   rw[List.any_eq_false];intro y hy;obtain⟨z,t,ie⟩:=hk y (Array.mem_toList_iff.mp hy);simp[DictEntry.refKey,ie]
  have a':¬es.toList.any (·.refKey)=true:=by rw[a];exact bw
  rw[ZZ a'];exact ZH some e
def X4.look(I:X4 h x dx C mA):∃od,PySem.W.InstAt h x (instObj C dx) C (some od)/\∀name,lookIn name od=some (mA name) :=
 let⟨od,ho,hl⟩:=N_ I.ns
 ⟨od,⟨I.obj,rfl,rfl,ho⟩,hl⟩
def get_map{pj:Bool}{Q:Ε}(X:K.In s.heap)(I:X4 s.heap x dx C mA)(hg:plainGet K C name=true)(hh:hasDictIn K C=true)
 (ha:findIn K (.ref C) name=some none)(hv:mA name=some v)(mS:handedIn v=true)(h:Q v { s with toks:=s.toks+1 }) :
  wpAny (model prog w) A (getAttr (.ref x) name pj) Q E s:=by
 obtain⟨od,J,hl⟩:=I.look;exact PySem.W.get_value X J (plainGet_of hg).1 (findObj_own hh ha rfl (by rw[hl,hv])) mS h
def abt{Q:Value×Θ->Shared->Prop}(X:K.In s.heap)(I:X4 s.heap x dx C mA)(hg:plainGet K C name=true)
 (hf:findIn K (.ref C) name=some (some (.ref f)))(ht:isFn K (.ref f)=true)(hv:mA name=none)(h:Q (.ref f,[.ref x]) s) :
  wpAny (model prog w) A (getMethod (.ref x) name pl) Q E s:=by
 obtain⟨od,J,hl⟩:=I.look;exact PySem.W.method_fn X J (plainGet_of hg).1 (plainGet_of hg).2 hf (beq_iff_eq.mp ht) (by show(lookIn name od).map (·.isSome)=some false;rw[hl,hv];rfl) h
def afm{ns:Φ}(X:K.In s.heap)(I:X4 s.heap x dx C mA)
 (hs:findIn K (.ref C) "__setattr__"=some (some (.builtin "object.__setattr__")))(hp:plainOver K C=true)(ht:takerIn K C name=some none)(hh:hasDictIn K C=true)
 (hw:PySem.Within mA ns)(hsz:ns.length<=sizeLine)
 (h:∀h',X4 h' x dx C (λy=>if y=name then some v else mA y)->Heap.SameBut dx s.heap h'->Q () { s with heap:=h',toks:=s.toks+2 }) :
  wpAny (model prog w) A (setAttr (.ref x) name v) Q E s:=by
 obtain⟨od,J,hl⟩:=I.look;refine set_plain X J hs (PySem.W.osa_open (s:={ s with toks:=s.toks+1 }) (r:=none) X J hp ht λb=>?_);obtain⟨cd,hc,bu⟩:=PySem.W.any_some hh;have hx:s.heap.get? x=some ⟨.ref C,some dx,.plain,#[]⟩:=I.obj;refine ZU (ZT (ZU (ZU (wpAny_loadPart hx (ZU (PySem.W.Looks.here (s:={ s with toks:=s.toks+1 }) (looks_clsIn X hc) ?_))))));rw[bu];refine ZT (a:=some dx) (ZU (ZT (ZU ?_)));refine wpAny_nsSet1 (s:={ s with toks:=s.toks+1 }) I.ns λh' i5 eC=>?_;obtain⟨oD,esD,epD,nE,oy,io⟩:=i5.count (PySem.Within.cons name v hw);refine ZU (wpAny_lookBehind nE (by rw[oy];exact pastItsLine_dict (aL io (by rw[List.length_cons];exact Nat.succ_le_succ hsz))) ?_);exact ZT (h _ ⟨(eC.2 _ (Ne.symm I.ne)).trans I.obj,i5,I.ne⟩ eC)
def acd{R:Result->Shared->Prop}{vs:Θ}(X:K.In s.heap)(hm:makesIn K C=true)
 (hi:findIn K (.ref C) "__init__"=some (some (.ref f)))(hf:typeIn K (.ref f)=some (.type "function"))
 (h:codeAny (model prog w) (A.under (.builtin "type.__call__" ⟨.ref C::vs,kw⟩)) (.call (.ref f) ⟨.ref (s.heap.objs.size+1)::vs,kw⟩) (PySem.W.InitBack (s.heap.objs.size+1) R)
   { s with heap:=(s.heap.push emptyDict).push (instObj C s.heap.objs.size) }) :
  codeAny (model prog w) A (.call (.ref C) ⟨vs,kw⟩) R s:=by
 obtain⟨hh,g,d,t,os⟩:=s;exact PySem.W.make_core (PySem.W.makes_of X hm) (looks_findIn X hi) (λself=>PySem.W.bind_fn X self hf) (.inl rfl) h
def wg(f:Str)(v:V):xl->xl
 |[]=>[(f,v)]
 |(g,x)::r=>if g=f then(g,v)::r else(g,x)::wg f v r
theorem Hq(f g:Str)(v:V):∀fs:xl,(wg f v fs).lookup g=if g=f then some v else fs.lookup g
 |[]=>by
  show List.lookup g [(f,v)]=_;by_cases h:g=f
  .have hb:(g==f)=true:=beq_iff_eq.mpr h;simp only[List.lookup,hb,ZY h]
  .have hb:(g==f)=false:=beq_eq_false_iff_ne.mpr h;simp only[List.lookup,hb,ZZ h]
 |(k,x)::r=>by
  have ih:=Hq f g v r;rw[show wg f v ((k,x)::r)=(if k=f then(k,v)::r else(k,x)::wg f v r)from rfl];by_cases hk:k=f
  .rw[ZY hk];by_cases h:g=k
   .have hb:(g==k)=true:=beq_iff_eq.mpr h;simp only[List.lookup,hb,ZY (h.trans hk)]
   .have hb:(g==k)=false:=beq_eq_false_iff_ne.mpr h;simp only[List.lookup,hb,ZZ (λe:g=f=>h (e.trans hk.symm))]
  .rw[ZZ hk];by_cases h:g=k
   .have hb:(g==k)=true:=beq_iff_eq.mpr h;simp only[List.lookup,hb,ZZ (λe:g=f=>hk (h.symm.trans e))]
   .have hb:(g==k)=false:=beq_eq_false_iff_ne.mpr h;simp only[List.lookup,hb];exact ih
theorem FN(f:Str)(v:V):∀fs:xl,f∈(wg f v fs).map (·.1)/\∀g,g∈fs.map (·.1)->g∈(wg f v fs).map (·.1)
 |[]=>⟨by simp[wg],λg h=>by simp at h⟩
 |(k,x)::r=>by
  obtain⟨i1,i2⟩:=FN f v r;rw[show wg f v ((k,x)::r)=(if k=f then(k,v)::r else(k,x)::wg f v r)from rfl];by_cases hk:k=f
  .rw[ZY hk];subst hk;exact⟨by simp,λg h=>by simpa using h⟩
  .rw[ZZ hk];refine⟨?_,λg h=>?_⟩
   .rw[List.map_cons];exact aJ _ i1
   .rw[List.map_cons]at h ⊢;rcases YU.mp h with e|e
    .exact YU.mpr (.inl e)
    .exact aJ _ (i2 g e)
theorem Hi(f:Str)(v:V):∀fs:xl,(wg f v fs).length<=fs.length+1
 |[]=>by simp[wg]
 |(k,x)::r=>by
  have ih:=Hi f v r;rw[show wg f v ((k,x)::r)=(if k=f then(k,v)::r else(k,x)::wg f v r)from rfl];by_cases hk:k=f
  .rw[ZY hk,List.length_cons,List.length_cons];exact Xs _
  .rw[ZZ hk,List.length_cons,List.length_cons];exact Nat.succ_le_succ ih
variable{v:V}{a:Addr}{fs:xl}{f m:Str}{b:Bool}
def yU.some_of{o:Ω}(r:yU (some v) o):∃u,o=some u/\RelV v u:=by
 cases o with
 |none=>exact(show False from r).elim
 |some u=>exact⟨u,rfl,r⟩
def yU.none_of{o:Ω}(r:yU none o):o=none:=by
 cases o with
 |none=>rfl
 |some u=>exact(show False from r).elim
def Om(r:RelV v u):handedIn u=true:=by
 cases v with
 |non=>cases(show u=Value.none from r);rfl
 |bl b=>cases(show u=Value.bool b from r);rfl
 |int i=>obtain⟨t,e⟩:=(show ∃t,u=Value.int i t from r);cases e;rfl
 |str x=>obtain⟨t,e⟩:=(show ∃t,u=Value.str x t from r);cases e;rfl
 |byt b=>obtain⟨t,e⟩:=(show ∃t,u=Value.bytes b t from r);cases e;rfl
 |flt b=>obtain⟨t,e⟩:=(show ∃t,u=Value.float b t from r);cases e;rfl
 |ref a=>cases(show u=Value.ref a from r);rfl
 |ty n=>cases(show u=Value.type n from r);rfl
def Jc(hok:HOk P w H h)(e:H a=some (.ins C dx fs)):∃mA,X4 h a dx C mA/\(∀f,yU (fs.lookup f) (mA f))/\PySem.Within mA (fs.map (·.1))/\fs.length<=1000/\H dx=some (.own a):=by
 obtain⟨d,z,ne,ob,mA,n,r,q⟩:=(show fK P w H h a (.ins C dx fs)from hok a _ e);exact⟨mA,⟨ob,n,ne⟩,r,q,z,d⟩
structure Cls(K:Frag)(C:Addr):Prop where
 pg:plainGet K C Str.empty=true
 hd:hasDictIn K C=true
 po:plainOver K C=true
 sa:findIn K (.ref C) "__setattr__"=some (some (.builtin "object.__setattr__"))
def Cls.get{K:Frag}{C:Addr}(c:Cls K C)(f:Str):plainGet K C f=true:=c.pg
def cg(K:Frag)(C:Addr)(f:Str):Prop:=findIn K (.ref C) f=some none
def cg.taker(n:cg K C f):takerIn K C f=some none:=by
 unfold takerIn;rw[show findIn K (.ref C) f=some none from n]
 rfl
structure Meth(K:Frag)(C:Addr)(m:Str)(f:Addr):Prop where
 at_:findIn K (.ref C) m=some (some (.ref f))
 fn:isFn K (.ref f)=true
 kp:keepIn K (.ref f)=true
def Xf{Q:Ε}(I:Inv X aa σ H s)(e:H a=some (.ins C dx fs))(c:Cls X.K C)(n:cg X.K C f)(l:fs.lookup f=some v)
 (h:∀u s',Inv X aa σ H s'->RelV v u->Q u s'):wpAny (model X.prog X.w) A (getAttr (.ref a) f b) Q E s:=by
 obtain⟨mA,O,r,_,_,_⟩:=Jc I.hok e;obtain⟨u,hu,ru⟩:=yU.some_of (v:=v) (o:=mA f) (by rw[<- l];exact r f);exact get_map I.kIn O (c.get f) c.hd n hu (Om ru) (h u _ (I.tok _) ru)
def Mf{g:Addr}{Q:Value×Θ->Shared->Prop}(I:Inv X aa σ H s)(e:H a=some (.ins C dx fs))(c:Cls X.K C)(k:Meth X.K C m g)(l:fs.lookup m=none)
 (h:Q (.ref g,[.ref a]) s):wpAny (model X.prog X.w) A (getMethod (.ref a) m pl) Q E s:=by
 obtain⟨mA,O,r,_,_,_⟩:=Jc I.hok e;have hn:mA m=none:=yU.none_of (by rw[<- l];exact r m);exact abt I.kIn O (c.get m) k.at_ k.fn hn h
def X8{y:V}(I:Inv X aa σ H s)(e:H a=some (.ins C dx fs))(c:Cls X.K C)(n:cg X.K C f)(hl:fs.length<1000)(ry:RelV y u)
 (h:∀s',Inv X aa σ (upd H a (.ins C dx (wg f y fs))) s'->Q () s'):wpAny (model X.prog X.w) A (setAttr (.ref a) f u) Q E s:=by
 obtain⟨mA,O,r,wi,_,ho⟩:=Jc I.hok e;have hz:(fs.map (·.1)).length<=sizeLine:=by rw[ak,sizeLine_eq];exact aL (Y2 hl) wb
 refine afm I.kIn O c.sa c.po n.taker c.hd wi hz λh' O' sb=>h _ ?_;have hd:∃o,h'.get? dx=some o:=by obtain⟨o,_,_,e',_⟩:=O'.ns;exact⟨o,e'⟩
 refine I.write (x:=a) (e:=dx) (by rw[e];exact True.intro) (.inr ho) (λb q hb z=>(sb.2 b hb).trans z) hd ?_;refine⟨by rw[bZ O.ne];exact ho,?_,O.ne,O'.obj,_,O'.ns,λg=>?_,λg hg=>?_⟩
 .have:=Hi f y fs;lia
 .show yU ((wg f y fs).lookup g) (if g=f then some u else mA g);rw[Hq];by_cases q:g=f
  .rw[ZY q,ZY q];exact ry
  .rw[ZZ q,ZZ q];exact r g
 .by_cases q:g=f
  .rw[q];exact(FN f y fs).1
  .refine(FN f y fs).2 g (wi g λz=>hg ?_);show(if g=f then some u else mA g)=none;rw[ZZ q];exact z
def Inv.made(I:Inv X aa σ H s):Inv X aa σ (upd (upd H s.heap.objs.size (.own (s.heap.objs.size+1))) (s.heap.objs.size+1) (.ins C s.heap.objs.size []))
  { s with heap:=(s.heap.push emptyDict).push (instObj C s.heap.objs.size) }:=by
 have e1:(s.heap.push emptyDict).get? s.heap.objs.size=some emptyDict:=aW s.heap rfl;have e2:((s.heap.push emptyDict).push (instObj C s.heap.objs.size)).get? (s.heap.objs.size+1)=some (instObj C s.heap.objs.size):=by
  have:=aW (s.heap.push emptyDict) (o:=instObj C s.heap.objs.size) rfl;rwa[Heap.size_push]at this
 have e3:(s.heap.push emptyDict).Ns s.heap.objs.size (λ_=>none):=⟨emptyDict,#[],_,e1,rfl,(λe he=>absurd he wp),λ_=>rfl⟩;have I1:=I.laid (a:=s.heap.objs.size) (o:=.own (s.heap.objs.size+1)) (h':=s.heap.push emptyDict) (t':=s.toks) (λb u q=>aH _ q) (aG _) ⟨_,e1⟩;refine I1.laid (a:=s.heap.objs.size+1) (o:=.ins C s.heap.objs.size []) (t':=s.toks) (λb u q=>aH _ q) (WH (Heap.size_push _ _)) ?_;have ne:s.heap.objs.size≠s.heap.objs.size+1:=aQ (X1 _);refine⟨by rw[bZ ne,cj],aZ _,ne,e2,λ_=>none,(Heap.Ns1.of_empty e3).at λo q=>aH _ q,λ_=>True.intro,λy hy=>absurd rfl hy⟩
variable{Q:Ε}{o ar:Expr}{tv:TE}{c:Value}{t:TA}
def Y9{env:Env}(hb:attributeBase e f env (eval e env)=eval e env)
 (h:wpAny (model prog w) A (eval e env) (λo s₁=>wpAny (model prog w) A (getAttr o f true) Q E s₁) E s):wpAny (model prog w) A (eval (.Attribute e f pos) env) Q E s :=
 Attribute_any_ h (by rw[arm_eval_Attribute,hb])
def ap3(K:Frag)(ta:TE)(f:Str):TE:=λσ H Q=>ta σ H λx H1=>∃a C dx fs v,x=.ref a/\H1 a=some (.ins C dx fs)/\Cls K C/\cg K C f/\fs.lookup f=some v/\Q v H1
def aqe(K:Frag)(ta tv:TE)(f:Str):TS:=λD σ H=>tv σ H λy H1=>ta σ H1 λx H2=>∃a C dx fs,x=.ref a/\H2 a=some (.ins C dx fs)/\Cls K C/\cg K C f/\fs.length<1000 /\
 D.nx σ (upd H2 a (.ins C dx (wg f y fs)))
abbrev zw(X:Cx)(a:Expr)(b:Str):Prop:=attributeBase a b X.env (eval a X.env)=eval a X.env
def adq(he:PE X e ta)(hb:zw X e f):PE X (.Attribute e f pos) (ap3 X.K ta f):=by
 intro aa s σ H Q I h;refine Y9 hb (thn (he aa s σ H _ I h) λu s1 h=>?_);obtain⟨x,H1,I1,rx,a,C,dx,fs,v,rfl,ea,c,n,l,q⟩:=h;obtain rfl:u=Value.ref a:=rx;exact Xf I1 ea c n l λu' s2 I2 ru=>⟨v,H1,I2,ru,q⟩
def ain(ha:PE X o ta)(hv:PE X ar tv)(hs:swapsWith ar (some (.Attribute o f aS)) pos.line X.env=pure false):PS X (.Assign [.Attribute o f aS] ar pos) (aqe X.K ta tv f):=by
 intro aa s σ H D I h;refine plainObj_wpAny_Assign_Attribute (thn (hv aa s σ H _ I h) λu s1 ⟨y,H1,I1,ry,q⟩=>thn (ha aa s1 σ H1 _ I1 q) λov s2 h=>?_) hs;obtain⟨x,H2,I2,rx,a,C,dx,fs,rfl,ea,c,n,l,q2⟩:=h;obtain rfl:ov=Value.ref a:=rx;exact X8 I2 ea c n l ry λs3 I3=>⟨σ,_,I3,q2⟩
inductive Fo(K:Frag)(H:Hp):V->Value->Prop where
 |non:Fo K H .non (.type "NoneType")
 |bl (x:Bool):Fo K H (.bl x) (.type "bool")
 |int (i:Int):Fo K H (.int i) (.type "int")
 |str (x:Str):Fo K H (.str x) (.type "str")
 |flt (x:UInt64):Fo K H (.flt x) (.type "float")
 |lst {a:Addr}{xs:Ζ} (e:H a=some (.lst xs)):Fo K H (.ref a) (.type "list")
 |frz {a:Addr}{o:Obj}{xs:Ζ} (e:H a=some (.frz o (.lst xs))):Fo K H (.ref a) (.type "list")
 |tup {a:Addr}{xs:Ζ} (e:H a=some (.tup xs)):Fo K H (.ref a) (.type "tuple")
 |dK {a:Addr}{kvs:xS} (e:H a=some (.dK kvs)):Fo K H (.ref a) (.type "dict")
 |ins {a C dx:Addr}{fs:xl} (e:H a=some (.ins C dx fs)) (cl:Cls K C) (ha:findIn K (.ref C) "__class__"=some (some (.builtin "object.__class__")))
   (hn:specialIn K (.builtin "object.__class__") "__get__"=some (some (.builtin "getset_descriptor.__get__"))) (htk:PySem.W.takesIn K (.builtin "object.__class__")=some true)
   (hm:mroIn K C (.type "object")=some true):Fo K H (.ref a) (.ref C)
def aaW{x:V}{t:Value}(I:Inv X aa σ H s)(rx:RelV x u)(ty:Fo X.K H x t)(e:kitOne X.K t c=some b)(h:∀tk,Q (.bool b) { s with toks:=tk }) :
  wpAny (model X.prog X.w) A (call (.builtin "isinstance") [u,c]) Q E s:=by
 cases ty with
 |non=>cases(show u=Value.none from rx);exact kia_one PySem.W.kitx_none I.kIn True.intro e (λz=>nomatch z) h
 |bl y=>cases(show u=Value.bool y from rx);exact kia_one PySem.W.kitx_bool I.kIn True.intro e (λz=>nomatch z) h
 |int i=>obtain⟨t,q⟩:=(show ∃t,u=Value.int i t from rx);cases q;exact kia_one PySem.W.kitx_int I.kIn True.intro e (λz=>nomatch z) h
 |str y=>obtain⟨t,q⟩:=(show ∃t,u=Value.str y t from rx);cases q;exact kia_one PySem.W.kitx_str I.kIn True.intro e (λz=>nomatch z) h
 |flt y=>obtain⟨t,q⟩:=(show ∃t,u=Value.float y t from rx);cases q;exact kia_one PySem.W.kitx_float I.kIn True.intro e (λz=>nomatch z) h
 |@lst a xs ea =>
  cases(show u=Value.ref a from rx);obtain⟨_,_,n,_,h1⟩:=(show fK X.prog X.w H s.heap a (.lst xs)from I.hok a _ ea);exact kia_one kitx_list I.kIn ⟨_,h1,rfl⟩ e (λz=>nomatch z) h
 |@frz a ob xs ea =>
  cases(show u=Value.ref a from rx);obtain⟨_,_,_,n,_,h1⟩:=(show fK X.prog X.w H s.heap a (.frz ob (.lst xs))from I.hok a _ ea);exact kia_one kitx_list I.kIn ⟨_,h1,rfl⟩ e (λz=>nomatch z) h
 |@tup a xs ea =>
  cases(show u=Value.ref a from rx);obtain⟨_,_,_,p⟩:=(show fK X.prog X.w H s.heap a (.tup xs)from I.hok a _ ea);obtain⟨o,h1,h2,_⟩:=p;exact kia_one kitx_tuple I.kIn ⟨o,h1,h2⟩ e (λz=>nomatch z) h
 |@dK a kvs ea =>
  cases(show u=Value.ref a from rx);obtain⟨_,_,vs,_,p⟩:=(show fK X.prog X.w H s.heap a (.dK kvs)from I.hok a _ ea);obtain⟨o,es,ep,h1,h2,_⟩:=p;exact kia_one PySem.W.kitx_dict I.kIn ⟨o,h1,h2.1⟩ e (λz=>nomatch z) h
 |@ins a C dx fs ea cl ha hn htk hm =>
  cases(show u=Value.ref a from rx);obtain⟨mA,O,_⟩:=Jc I.hok ea;obtain⟨od,J,_⟩:=O.look;exact kia_one (PySem.W.kitx_own (cl.get _) cl.hd ha hn htk hm) I.kIn J e (λz=>nomatch z) h
structure d9(k:Nat)(A:Around):Prop where
 hd:A.handled=none
 dp:A.depth+3*k+5<recursionLimit
 un:A.units+16*k+200<cLine
def d9.mono{j:Nat}(r:d9 k A)(h:j<=k):d9 j A:=⟨r.hd,by have:=r.dp;lia,by have:=r.un;lia⟩
def d9.md{n:Nat}(h:d9 n A)(e:k<=n:=by decide):d9 k A:=h.mono e
def d9.deeper{k:Nat}{A:Around}(r:d9 (k+1) A)(env:Env):d9 k (A.deeper env) :=
 ⟨r.hd,by have:=r.dp;show A.depth+1+3*k+5<_;lia,by have:=r.un;show A.units+3+16*k+200<_;lia⟩
def Yc : (A.under (.builtin "type.__call__" ⟨.ref C::us,kw⟩)).depth=A.depth+1:=by
 first|rfl|simp[Around.under,Code.weight,Code.isCreation,Code.isGuard,Code.isCaller,Code.frames,Code.isFrame,guardIds]
def Yj : (A.under (.builtin "type.__call__" ⟨.ref C::us,kw⟩)).units=A.units+1:=by
 first|rfl|simp[Around.under,Code.cUnits,Code.frames,Code.isFrame]
def d9.make(r:d9 (k+1) A)(C:Addr)(us:Θ)(kw:xo):d9 k (A.under (.builtin "type.__call__" ⟨.ref C::us,kw⟩)) :=
 ⟨r.hd,by have:=r.dp;rw[Yc];lia,by have:=r.un;rw[Yj];lia⟩
def d9.depth{k:Nat}{A:Around}(r:d9 k A):A.depth<recursionLimit:=by have:=r.dp;lia
def d9.units{k:Nat}{A:Around}(r:d9 k A):A.units+64<cLine:=by have:=r.un;lia
def ah7:TA:=λ_ H Q=>Q [] H
def akR(ta:TE)(tr:TA):TA:=λσ H Q=>ta σ H λx H1=>tr σ H1 λxs H2=>Q (x::xs) H2
def nq:PA X [] ah7:=λ_ _ _ _ H Q I h=>Calls.spliced_nil ⟨[],H,I,.nil,h⟩
abbrev qr(X:Cx)(a:Expr)(b:xz):Prop:=starEach (a::b) X.env=(false,eval a X.env)::starEach b X.env
def dG(ha:PE X e te)(hr:PA X es t)(hs:qr X e es:=by rfl):PA X (e::es) (akR te t):=by
 intro pos aa s σ H Q I h;rw[hs];show wpAny _ _ (spliced ((false,eval e X.env)::backTo pos (starEach es X.env))) _ _ s;refine Calls.spliced_cons (thn (ha aa s σ H _ I h) λu s1 hP=>?_);obtain⟨x,H1,I1,r1,q1⟩:=hP;exact thn (hr pos aa s1 σ H1 _ I1 q1) λus s2 hP=>by obtain⟨xs,H2,I2,r2,q2⟩:=hP;exact⟨x::xs,H2,I2,.cons r1 r2,q2⟩
def ao1(t:TA):TE:=λσ H Q=>t σ H λxs H1=>xs.length<=sizeLine/\∀p,H1 p=none->Q (.ref p) (upd H1 p (.tup xs))
def apf(t:TA):TE:=λσ H Q=>t σ H λxs H1=>xs.length<=sizeLine/\∀p,H1 p=none->Q (.ref p) (upd H1 p (.lst xs))
def abo{x1}(h:PA X es t):PE X (.Tuple es x1 pos) (ao1 t):=by
 intro aa s σ H Q I hq;refine wpAny_Tuple_spliced (thn (h pos aa s σ H _ I hq) λus s1 ⟨xs,H1,I1,r,z,q⟩=>⟨by rw[<- r.length];exact z,?_⟩);have hf:H1 s1.heap.objs.size=none:=I1.hok.fresh (aG _);refine⟨.ref s1.heap.objs.size,upd H1 s1.heap.objs.size (.tup xs),I1.laid (t':=s1.toks) (λb u e=>aH _ e) (aG _) ?_,rfl,q _ hf⟩;exact⟨z,us,r,⟨_,aW _ rfl,rfl,_,rfl⟩⟩
def abk(h:PA X es t):PE X (.List es pos) (apf t):=by
 intro aa s σ H Q I hq;refine wpAny_List_spliced (thn (h pos aa s σ H _ I hq) λus s1 ⟨xs,H1,I1,r,z,q⟩=>⟨by rw[<- r.length];exact z,?_⟩);have hf:H1 s1.heap.objs.size=none:=I1.hok.fresh (aG _);refine⟨.ref s1.heap.objs.size,upd H1 s1.heap.objs.size (.lst xs),I1.laid (t':=s1.toks) (λb u e=>aH _ e) (aG _) ?_,rfl,q _ hf⟩;exact⟨z,us,0,r,aW _ rfl⟩
abbrev Sp:=Ζ->Hp->VK->XK->Prop
abbrev CXT:=xm->Hp->Shared->XK->Value->Shared->Prop
structure T7(P:Program)(w:World)(K:Frag)(mg:Str->Ω)(base:Heap)(A:Around)(outer:xm)(s:Shared)(H:Hp):Prop where
 frames:A.frames=some outer
 mod:Mod K mg base
 bs:∀b o,base.get? b=some o->s.heap.get? b=some o/\H b=none
 bsz:base.objs.size<=s.heap.objs.size
 funs:s.heap.FunFrames base outer
 frf:∀b∈frs outer,H b=none
 hok:HOk P w H s.heap
 bare:AllBare s.gens
def CE(outer:xm)(P:Program)(w:World)(H:Hp)(s:Shared)(Q:VK)(u:Value)(s':Shared):Prop :=
 ∃v H',s'.os=s.os/\AllBare s'.gens/\Un (frs outer) [] H H' s.heap s'.heap/\HOk P w H' s'.heap/\RelV v u/\Q v H'
def CR(CX:CXT)(outer:xm)(P:Program)(w:World)(H:Hp)(s:Shared)(Q:VK)(E:XK)(r:Result)(s':Shared):Prop :=
 match r with
 |.ok (.ret u)=>CE outer P w H s Q u s'
 |.ok _=>False
 |.error e=>CX outer H s E e s'
structure fL(P:Program)(w:World)(K:Frag)(mg:Str->Ω)(base:Heap)(CX:CXT)(k:Nat)(f:Addr)(fd:FuncData)(ps:Φ)(sp:Sp):Prop where
 len:∀vs H Q E,sp vs H Q E->vs.length=ps.length
 run:∀(A:Around)(outer:xm)(s:Shared)(H:Hp)(args:Args)(us:Θ)(vs:Ζ)(Q:VK)(E:XK),d9 k A->T7 P w K mg base A outer s H->BindsTo s fd args (ps.zip us)->Vals vs us->sp vs H Q E ->
  codeAny (model P w) A (.call (.ref f) args) (CR CX outer P w H s Q E) s
variable{f:Addr}{mg:Str->Ω}{base:Heap}{CX:CXT}{fd:FuncData}{ps:Φ}{sp:Sp}{Q:VK}{E:XK}{vs c5:Ζ}{ds:Θ}{x:Str}{ai:Pos}{scope:Scope}
def fL.imp{sp':Sp}(F:fL P w K mg base CX k f fd ps sp)
 (h:∀vs H Q E,sp' vs H Q E->sp vs H Q E):fL P w K mg base CX k f fd ps sp' :=
 ⟨λvs H Q E q=>F.len vs H Q E (h _ _ _ _ q),λA outer s H args us vs Q E hr he hb hv hs=>F.run A outer s H args us vs Q E hr he hb hv (h _ _ _ _ hs)⟩
def T7.make{outer:xm}(e:T7 P w K mg base A outer s H)(C:Addr)(us:Θ)(kw:xo) :
  T7 P w K mg base (A.under (.builtin "type.__call__" ⟨.ref C::us,kw⟩)) outer s H:=⟨by first|exact e.frames|(simpa[Around.under,Code.envs,Code.isFrame,pushEnvs]using e.frames),e.mod,e.bs,e.bsz,e.funs,e.frf,e.hok,e.bare⟩
def Inv.env0(I:Inv X aa σ H s):T7 X.prog X.w X.K X.mg X.base X.A X.stack s H :=
 ⟨I.ok.frames,I.ok.mod,I.bs,aL I.ok.bsz I.sz,I.stack,I.stkFree,I.hok,I.bare⟩
def Inv.after(I:Inv X aa σ H s)(h:CE X.stack X.prog X.w H s Q u s'):EP X aa σ Q u s':=by
 obtain⟨v,H',os,bare,un,hok,r,q⟩:=h;obtain⟨hh,g,d,t,os'⟩:=s';obtain rfl:os'=s.os:=os;exact⟨v,H',I.call (h':=hh) (g':=g) (d':=d) (t':=t) (ch:=[]) un hok bare (λb z=>absurd z wp),r,q⟩
def alD(sp:Sp)(c5:Ζ)(E:XK)(t:TA):TE:=λσ H Q=>t σ H λvs H1=>sp (vs++c5) H1 Q E
def ag6(C:Addr)(m:Str)(sp:Sp)(c5:Ζ)(E:XK)(ta:TE)(t:TA):TE:=λσ H Q=>ta σ H λx H1=>∃a dx fs,x=.ref a/\H1 a=some (.ins C dx fs)/\fs.lookup m=none /\
 t σ H1 λvs H2=>sp (x::(vs++c5)) H2 Q E
def am3(C:Addr)(sp:Sp)(c5:Ζ)(E:XK)(t:TA):TE:=λσ H Q=>t σ H λvs H1=>∀x dx,H1 x=none->H1 dx=none->dx≠x ->
 sp (.ref x::(vs++c5)) (upd (upd H1 dx (.own x)) x (.ins C dx [])) (λv H2=>v=.non/\Q (.ref x) H2) E
def Binds(K:Frag)(fd:FuncData)(ps:Φ)(ds:Θ):Prop :=
 ∀(s:Shared)(us:Θ),K.In s.heap->(us++ds).length=ps.length->BindsTo s fd ⟨us,[]⟩ (ps.zip (us++ds))
def Binds.all(h:∀us:Θ,us.length=ps.length->bindArgs fd ⟨us,[]⟩=pure (ps.zip us)):Binds K fd ps []:=λs us _ hl=>by
 rw[List.append_nil]at hl ⊢;exact .of_eq (h us hl)
def Passes(CX:CXT)(X:Cx)(E:XK):Prop:=∀(aa:Δ)(σ:St)(H:Hp)(s:Shared)(e:Value)(s':Shared),Inv X aa σ H s->CX X.stack H s E e s'->X.xe e s'
def Tg(F:fL X.prog X.w X.K X.mg X.base CX k f fd ps sp)(hr:d9 k X.A)(hb:Binds X.K fd ps ds)(hd:Vals c5 ds)(hx:Passes CX X E)
 (I:Inv X aa σ H s)(r:Vals vs us)(h:sp (vs++c5) H Q E):wpAny (model X.prog X.w) X.A (call (.ref f) us) (EP X aa σ Q) X.xe s:=by
 have r2:Vals (vs++c5) (us++ds):=r.append hd;have hl:(us++ds).length=ps.length:=by rw[<- r2.length];exact F.len _ _ _ _ h
 refine wpAny_call (codeAny_mono (F.run X.A X.stack s H ⟨us,[]⟩ (us++ds) (vs++c5) Q E hr I.env0 (hb s us I.kIn hl) r2 h) λr s' hq=>?_);cases r with
 |error e=>exact hx aa σ H s e s' I hq
 |ok fl =>
  cases fl with
  |ret u=>exact I.after hq
  |next=>exact False.elim hq
  |brk=>exact False.elim hq
  |cont=>exact False.elim hq
abbrev qV(X:Cx)(a:Pos)(b:xz):Prop:=(backTo a (starEach b X.env)).any (·.1)=false
def ae9(F:fL X.prog X.w X.K X.mg X.base CX k f fd ps sp)(hr:d9 k X.A)(hg:Gl X x)(hm:X.mg x=some (.ref f))(hk:keepIn X.K (.ref f)=true)(hb:Binds X.K fd ps ds)(hd:Vals c5 ds)(hx:Passes CX X E)
 (ha:PA X (e::es) t)(br:qk x:=by decide)(he:qr X e es:=by rfl)(hpl:qV X pos es:=by rfl) :
  PE X (.Call (.Name x p) (e::es) [] pos) (alD sp c5 E t):=by
 intro aa s σ H Q I h;refine wpAny_Call_Name_kw (rK I hg hm ?_ br);refine callWith_K (h₀:=X.base) I.ok.mod.kin hk (thn (ha pos aa s σ H _ I h) λus s1 ⟨vs,H1,I1,r,q⟩=>⟨I1.kIn,?_⟩) he hpl;exact Tg F hr hb hd hx I1 r q
def ae2(he:PE X o ta)(c:Cls X.K C)(hm:Meth X.K C m f)(F:fL X.prog X.w X.K X.mg X.base CX k f fd ps sp)(hr:d9 k X.A)(hb:Binds X.K fd ps ds)(hd:Vals c5 ds)(hx:Passes CX X E)(ha:PA X (e::es) t)
 (bv:qr X e es:=by rfl)(hpl:qV X pos es:=by rfl)
 (ht:eval (.Call (.Attribute o m ai) (e::es) [] pos) X.env=(do
   let ov <- eval o X.env
   standAt ai.atName
   let(f,first) <- holding [ov] (getMethod ov m pl)
   callWith pos f first (backTo pos (starEach (e::es) X.env)) (backToKw pos (keywordEach [] X.env))):=by rfl) :
  PE X (.Call (.Attribute o m ai) (e::es) [] pos) (ag6 C m sp c5 E ta t):=by
 intro aa s σ H Q I h;refine methodCall_KW (pl:=pl) (thn (he aa s σ H _ I h) λu s1 hP=>?_) ht;obtain⟨x,H1,I1,rx,a,dx,fs,ex,ea,l,q⟩:=hP;subst ex;obtain rfl:u=Value.ref a:=rx;refine Mf I1 ea c hm l ?_;refine callWith_K (first:=[.ref a]) (h₀:=X.base) I.ok.mod.kin hm.kp (thn (ha pos aa s1 σ H1 _ I1 q) λus s2 ⟨vs,H2,I2,r,q2⟩=>⟨I2.kIn,?_⟩) bv hpl;exact Tg (us:=.ref a::us) (vs:=.ref a::vs) F hr hb hd hx I2 (.cons rfl r) q2
def adA(he:PE X o ta)(c:Cls X.K C)(hm:Meth X.K C m f)(F:fL X.prog X.w X.K X.mg X.base CX k f fd ps sp)(hr:d9 k X.A)(hb:Binds X.K fd ps ds)(hd:Vals c5 ds)(hx:Passes CX X E)
 (ht:eval (.Call (.Attribute o m ai) [] [] pos) X.env=(do
   let ov <- eval o X.env
   standAt ai.atName
   let(f,first) <- holding [ov] (getMethod ov m pl)
   callWith pos f first (backTo pos (starEach [] X.env)) (backToKw pos (keywordEach [] X.env))):=by rfl) :
  PE X (.Call (.Attribute o m ai) [] [] pos) (ag6 C m sp c5 E ta ah7):=by
 intro aa s σ H Q I h;refine methodCall_KW (pl:=pl) (thn (he aa s σ H _ I h) λu s1 hP=>?_) ht;obtain⟨x,H1,I1,rx,a,dx,fs,ex,ea,l,q⟩:=hP;subst ex;obtain rfl:u=Value.ref a:=rx;refine Mf I1 ea c hm l ?_;exact PySem.W.callWith_K0 (first:=[.ref a]) I1.kIn hm.kp (Tg (us:=[.ref a]) (vs:=[.ref a]) F hr hb hd hx I1 (.cons rfl .nil) q)
structure Mk(K:Frag)(C f:Addr):Prop where
 makes:makesIn K C=true
 init:findIn K (.ref C) "__init__"=some (some (.ref f))
 fn:isFn K (.ref f)=true
 kp:keepIn K (.ref C)=true
def aew(M:Mk X.K C f)(F:fL X.prog X.w X.K X.mg X.base CX k f fd ps sp)(hr:d9 (k+1) X.A)(hb:Binds X.K fd ps ds)(hd:Vals c5 ds)
 (hx:Passes CX X E)(I:Inv X aa σ H s)(r:Vals vs us)
 (h:∀x dx,H x=none->H dx=none->dx≠x->sp (.ref x::(vs++c5)) (upd (upd H dx (.own x)) x (.ins C dx [])) (λv H2=>v=.non/\Q (.ref x) H2) E) :
  wpAny (model X.prog X.w) X.A (call (.ref C) us) (EP X aa σ Q) X.xe s:=by
 have hq:=h (s.heap.objs.size+1) s.heap.objs.size (I.hok.fresh (Xs _)) (I.hok.fresh (aG _)) (aQ (X1 _));have I2:=Inv.made (C:=C) I;have r2:Vals (V.ref (s.heap.objs.size+1)::(vs++c5)) (Value.ref (s.heap.objs.size+1)::(us++ds)):=.cons rfl (r.append hd);have hl:(Value.ref (s.heap.objs.size+1)::us++ds).length=ps.length:=by
  have e:=r2.length;rw[F.len _ _ _ _ hq]at e;exact e.symm
 refine wpAny_call (acd (f:=f) I.kIn M.makes M.init (beq_iff_eq.mp M.fn) (codeAny_mono (F.run _ X.stack _ _ ⟨Value.ref (s.heap.objs.size+1)::us,[]⟩ (Value.ref (s.heap.objs.size+1)::(us++ds)) _ _ E (hr.make C us [])
  (I2.env0.make C us []) (hb _ (Value.ref (s.heap.objs.size+1)::us) I2.kIn hl) r2 hq) λr s' c9=>?_))
 cases r with
 |error e=>exact hx aa σ _ _ e s' I2 c9
 |ok fl =>
  cases fl with
  |ret u =>
   obtain⟨v,H',I3,rv,ev,q3⟩:=I2.after c9;subst ev;exact⟨rv,⟨V.ref (s.heap.objs.size+1),H',I3,rfl,q3⟩⟩
  |next=>exact False.elim c9
  |brk=>exact False.elim c9
  |cont=>exact False.elim c9
def aeH(M:Mk X.K C f)(F:fL X.prog X.w X.K X.mg X.base CX k f fd ps sp)(hr:d9 (k+1) X.A)(hg:Gl X x)(hm:X.mg x=some (.ref C))(hb:Binds X.K fd ps ds)(hd:Vals c5 ds)(hx:Passes CX X E)
 (ha:PA X (e::es) t)(br:qk x:=by decide)(he:qr X e es:=by rfl)(hpl:qV X pos es:=by rfl) :
  PE X (.Call (.Name x p) (e::es) [] pos) (am3 C sp c5 E t):=by
 intro aa s σ H Q I h;refine wpAny_Call_Name_kw (rK I hg hm ?_ br);refine callWith_K (h₀:=X.base) I.ok.mod.kin M.kp (thn (ha pos aa s σ H _ I h) λus s1 ⟨vs,H1,I1,r,q⟩=>⟨I1.kIn,?_⟩) he hpl;exact aew M F hr hb hd hx I1 r q
structure bK(N P:Φ)(sc:Scope):Prop where
 kind:sc.kind=.function
 co:sc.isCoroutine=false
 gen:sc.isGenerator=false
 nd:N.Nodup
 pre:N.take P.length=P
 par:∀x∈P,sc.names.lookup x=some .local\/sc.names.lookup x=some .cell
 nofree:∀y∈sc.names,y.2≠.free
theorem O_{kindOf:Str->Option NameKind}{x:Str} : ∀{binds:xo}{m:Str->Ω},(∀v,(x,v)∉binds)->bindL kindOf binds m x=m x
 |[],_,_=>rfl
 |(n,v)::r,m,h=>by
  unfold bindL;rw[O_ λw hw=>h w (aJ _ hw)];split
  .have:x≠n:=by rintro rfl;exact h v aO
   simp[this]
  .rfl
theorem OJ{kindOf:Str->Option NameKind}{x:Str} : ∀{binds:xo}{m:Str->Ω},(∀v,(x,v)∉binds)->bindC kindOf binds m x=m x
 |[],_,_=>rfl
 |(n,v)::r,m,h=>by
  unfold bindC;rw[OJ λw hw=>h w (aJ _ hw)];split
  .rfl
  .have:x≠n:=by rintro rfl;exact h v aO
   simp[this]
theorem Oa{kindOf:Str->Option NameKind}{x:Str}{v:Value} : ∀{P:Φ}{vs:Θ}{i:Nat}{m:Str->Ω},P.Nodup->P[i]?=some x->vs[i]?=some v->kindOf x=some .local ->
  bindL kindOf (P.zip vs) m x=some v
 |[],_,_,_,_,h,_,_=>by simp at h
 |_::_,[],_,_,_,_,h,_=>by simp at h
 |p::P,w::vs,0,m,nd,h1,h2,hk=>by
  simp at h1 h2;subst h1;subst h2;show bindL kindOf ((p,w)::P.zip vs) m p=_;unfold bindL;rw[O_ λv hv=>(List.nodup_cons.mp nd).1 (UR hv).1,ZY hk];simp
 |p::P,w::vs,i+1,m,nd,h1,h2,hk=>by
  show bindL kindOf ((p,w)::P.zip vs) m x=_;unfold bindL;exact Oa (i:=i) (List.nodup_cons.mp nd).2 (by simpa using h1) (by simpa using h2) hk
theorem Ou{kindOf:Str->Option NameKind}{x:Str}{v:Value} : ∀{P:Φ}{vs:Θ}{i:Nat}{m:Str->Ω},P.Nodup->P[i]?=some x->vs[i]?=some v->kindOf x≠some .local ->
  bindC kindOf (P.zip vs) m x=some v
 |[],_,_,_,_,h,_,_=>by simp at h
 |_::_,[],_,_,_,_,h,_=>by simp at h
 |p::P,w::vs,0,m,nd,h1,h2,hk=>by
  simp at h1 h2;subst h1;subst h2;show bindC kindOf ((p,w)::P.zip vs) m p=_;unfold bindC;rw[OJ λv hv=>(List.nodup_cons.mp nd).1 (UR hv).1,ZZ hk];simp
 |p::P,w::vs,i+1,m,nd,h1,h2,hk=>by
  show bindC kindOf ((p,w)::P.zip vs) m x=_;unfold bindC;exact Ou (i:=i) (List.nodup_cons.mp nd).2 (by simpa using h1) (by simpa using h2) hk
def start(N:Φ)(vs:Ζ):St:=vs.map some++List.replicate (N.length-vs.length) none
def Cy(CX:CXT)(P:Program)(w:World)(K:Frag)(mg:Str->Ω)(base:Heap)(N:Φ)(ag:Str)(scope:Scope)(f:Addr)(cd:Value)(A:Around)(outer:xm)(s:Shared)(H:Hp)(E:XK):Cx where
 prog:=P
 w:=w
 K:=K
 mg:=mg
 base:=base
 A:=A.deeper (envOfC ag scope s.heap.objs.size f cd)
 N:=N
 s₀:=s
 H₀:=H
 env:=envOfC ag scope s.heap.objs.size f cd
 outer:=outer
 stack:=envOfC ag scope s.heap.objs.size f cd::outer
 ex:=[]
 calm:=true
 fn:=λ_=>true
 pn:=[]
 xe:=λe s'=>wpAny (model P w) (A.deeper (envOfC ag scope s.heap.objs.size f cd)) (leaving (envOfC ag scope s.heap.objs.size f cd) e) (λ_ l6=>CX outer H s E e l6) (λe' l6=>CX outer H s E e' l6) s'
def T5{sc:Scope}{n:Nat}(h:sc.names.lookup x=some .cell):∃c,(cellsFrom n sc.names []).lookup x=some c:=by
 have q:=PySem.W.cellsFrom_some sc.names n [] (.inl h);exact Option.isSome_iff_exists.mp q
def aay{N:Φ}{ag:Str}{cd:Value}{outer:xm}{s1:Shared}
 (S:bK N ps scope)(hd:A.handled=none)(e0:T7 P w K mg base A outer s H)(hl:vs.length=ps.length)(r:Vals vs us)
 (x:InCallC s s.heap.objs.size (bindL (envOfC ag scope s.heap.objs.size f cd).kindOf (ps.zip us) λ_=>none) (cellsFrom (s.heap.objs.size+1) scope.names []) (bindC (envOfC ag scope s.heap.objs.size f cd).kindOf (ps.zip us) λ_=>none) s1) :
  Inv (Cy CX P w K mg base N ag scope f cd A outer s H E) [] (start N vs) H s1:=by
 have hpl:ps.length<=N.length:=by have:=ZH List.length S.pre;rw[aY]at this;lia
 obtain⟨h1,tk,rfl,hk⟩:=x.done;have jI:∀b:Addr,b∉(Cy CX P w K mg base N ag scope f cd A outer s H E).ex:=λb z=>absurd (show b∈([] : Ψ)from z) wp;refine⟨⟨e0.mod,S.kind,rfl,rfl,aG _,λy z c h1 h2=>?_,λy hy=>?_,λy c _ h=>?_,λ_=>hd,Around.frames_deeper e0.frames,.inr ⟨rfl,rfl⟩,λb z=>absurd z (jI b),e0.bs,e0.bsz,λb _ _=>jI b,λb z=>absurd z (jI b),e0.funs,e0.frf⟩,
  rfl,e0.bare,Un.kept hk,⟨_,x.toInCall.ns,λi y v h1 h2 h3=>?_⟩,λy c h=>⟨_,x.cell y c h⟩,e0.hok.fresh (aG _),λy c h=>?_,λp hp=>absurd (show p∈([] : Δ)from hp) wp,e0.hok.kept hk,?_⟩
 .exact name_of_addr x.apart (PySem.mem_of_lookup h1) (PySem.mem_of_lookup h2)
 .have hy:scope.names.lookup y=some .cell\/scope.names.lookup y=some .free:=hy;rcases hy with hy|hy
  .exact T5 hy
  .exact absurd rfl (S.nofree _ (PySem.mem_of_lookup hy))
 .exact Y2 (x.above y c (PySem.mem_of_lookup h))
 .have hi:i<vs.length:=by
   unfold start at h2;by_cases hi:i<vs.length
   .exact hi
   .rw[aD (by simpa using hi)]at h2;rw[X0]at h2;split at h2<;>cases h2
  have ha:vs[i]?=some v:=by
   unfold start at h2;rw[aF (by simpa using hi),aq]at h2;cases e:vs[i]? with
   |none=>rw[e]at h2;cases h2
   |some a=>rw[e]at h2;cases h2;rfl
  obtain⟨u,hu,rv⟩:=r.get ha;have hp:ps[i]?=some y:=by
   rwa[<- S.pre,List.getElem?_take_of_lt (aR hi (WH hl))]
  have ndP:ps.Nodup:=by rw[<- S.pre];exact S.nd.sublist (List.take_sublist _ _)
  refine⟨u,rv,?_⟩;rcases S.par y (aC hp)with k|k
  .exact .inl ⟨k,Oa ndP hp hu k⟩
  .obtain⟨c,e⟩:=T5 (n:=s.heap.objs.size+1) k;refine .inr ⟨.inl k,c,e,?_⟩;have q:=x.cell y c e;rw[Ou ndP hp hu (by show scope.names.lookup y≠_;rw[k];decide)]at q;exact q
 .exact e0.hok.fresh (Y2 (x.above y c (PySem.mem_of_lookup h)))
 .unfold start;show _=N.length;rw[aA,ak,aN];lia
def agP{ag:Str}{fe:Arguments}{dV kV bP pm ah ct oc:Value}{an od:Ξ}
 {dt:Array (Ω)}{N:Φ}(lk:K.lookup f=some ⟨oc,od,.func (PySem.W.fnOf name ag fe bE scope dV kV bP pm an ah ct),dt⟩)(aI:codeIn K ah ag=true)(S:bK N ps scope)
 (len:∀vs H Q E,sp vs H Q E->vs.length=ps.length)
 (a9:∀(A:Around)(outer:xm)(s:Shared)(H:Hp)(vs:Ζ)(Q:VK)(E:XK),d9 k (A.deeper (envOfC ag scope s.heap.objs.size f ah))->sp vs H Q E ->
   ∃t,PSs (Cy CX P w K mg base N ag scope f ah A outer s H E) bE t/\t { nx:=λ_ H'=>Q .non H',rt:=Q } (start N vs) H) :
  fL P w K mg base CX (k+1) f (PySem.W.fnOf name ag fe bE scope dV kV bP pm an ah ct) ps sp:=by
 refine⟨len,λA outer s H args us vs Q E hr e0 hb r eR=>?_⟩;have hl:=len _ _ _ _ eR;have KX:K.In s.heap:=e0.mod.kin.keeps λb o e=>(e0.bs b o e).1;have lim:s.heap.NoLimit:=e0.mod.nolimit.keeps λb o e=>(e0.bs b o e).1;have cf:∀y∈ps.zip us,scope.names.lookup y.1=some .local\/(scope.names.lookup y.1=some .cell/\((cellsFrom (s.heap.objs.size+1) scope.names []).lookup y.1).isSome=true):=λ⟨n,v⟩ hy=>by
  rcases S.par n (UR hy).1 with q|q
  .exact .inl q
  .exact .inr ⟨q,PySem.W.cellsFrom_some _ _ _ (.inl q)⟩
 refine codeAny_call_function hr.depth (KX _ _ lk) rfl S.co S.gen rfl (PySem.W.codeRec_of KX aI) (hb _ _ _ _ ?_);refine wpAny_newFunctionEnv_cells S.kind cf λenv he s1 x=>?_;subst he;refine⟨lim.keeps x.toInCall.keep,codeAny_func ?_⟩;obtain⟨t,ht,hq⟩:=a9 A outer s H vs Q E (hr.deeper _) eR;have I:Inv (Cy CX P w K mg base N ag scope f ah A outer s H E) [] (start N vs) H s1:=aay S hr.hd e0 hl r x;refine wpAny_mono (ht [] s1 (start N vs) H _ I hq) (λfl s' hs=>?_) λe s' hs=>hs;have aE:∀{σ':St}{H':Hp}{v:V}{u:Value},Inv (Cy CX P w K mg base N ag scope f ah A outer s H E) [] σ' H' s'->RelV v u->Q v H'->CE outer P w H s Q u s' :=
  λ{σ' H' v u}J rv q=>⟨v,H',J.os,J.bare,J.base,J.hok,rv,q⟩
 cases fl with
 |ret u =>
  obtain⟨v,σ',H',J,rv,q⟩:=hs;exact aE J rv q
 |next =>
  obtain⟨σ',H',J,q⟩:=hs;exact aE (v:=V.non) (u:=Value.none) J rfl q
 |brk =>
  obtain⟨_,_,_,q⟩:=hs;exact False.elim q
 |cont =>
  obtain⟨_,_,_,q⟩:=hs;exact False.elim q
section
variable{X:Cx}{x:Str}{p pos:Pos}{e:Expr}{es:xz}{t:TA}{id T:String}{r:Ζ->Hp->VK->Prop}
def tCB(r:Ζ->Hp->VK->Prop)(t:TA):TE:=λσ H Q=>t σ H λvs H1=>r vs H1 Q
def VF(hc:jx X (.builtin id) r)(hg:Gl X x)(hm:X.mg x=none)(hv:bootBuiltins x=some (.builtin id))(ha:PA X (e::es) t)(hn:x≠"__name__":=by decide)(br:qk x:=by decide)
 (he:qr X e es:=by rfl)(hpl:qV X pos es:=by rfl):PE X (.Call (.Name x p) (e::es) [] pos) (tCB r t):=by
 intro aa s σ H Q I h;refine wpAny_Call_Name_kw (BJ I hg hm hv ?_ hn br);exact PyProof.Rows.callWith_builtin1 (thn (ha pos aa s σ H _ I h) λus s1 hP=>by obtain⟨vs,H1,I1,r1,q1⟩:=hP;exact hc aa s1 σ H1 vs us Q I1 r1 q1) he hpl
def aaV(hc:jx X (.type T) r)(hg:Gl X x)(hm:X.mg x=none)(hv:bootBuiltins x=some (.type T))(ha:PA X (e::es) t)(hn:x≠"__name__":=by decide)(br:qk x:=by decide)
 (he:qr X e es:=by rfl)(hpl:qV X pos es:=by rfl):PE X (.Call (.Name x p) (e::es) [] pos) (tCB r t):=by
 intro aa s σ H Q I h;refine wpAny_Call_Name_kw (BJ I hg hm hv ?_ hn br);exact PyProof.Rows.callWith_type1 (thn (ha pos aa s σ H _ I h) λus s1 hP=>by obtain⟨vs,H1,I1,r1,q1⟩:=hP;exact hc aa s1 σ H1 vs us Q I1 r1 q1) he hpl
end
end L2
namespace HT
open PySem PyProof.Rows
def sIx(n d:Nat):xb->Nat
 |none=>d
 |some v=>if v<0 then(v+(n:Int)).toNat else min v.toNat n
theorem Uz(n d:Nat):sIx n d none=d:=rfl
def zV(n d k:Nat):sIx n d (some (k:Int))=min k n:=by
 show(if(k:Int)<0 then((k:Int)+(n:Int)).toNat else min (k:Int).toNat n)=min k n;rw[ZZ (Int.not_lt_of_ge (Wp _)),Int.toNat_natCast]
def ahx(n d:Nat)(hd:d<=n)(o:xb):sIx n d o<=n:=by
 cases o with
 |none=>exact hd
 |some v =>
  show(if v<0 then(v+(n:Int)).toNat else min v.toNat n)<=n;by_cases hv:v<0
  .rw[ZY hv];lia
  .rw[ZZ hv];exact Nat.min_le_right _ _
end HT
namespace L2
open PySem PySem.Spec PyProof.Rows
abbrev TO:=St->Hp->(xb->Hp->Prop)->Prop
def PO(X:Cx)(e:Option Expr)(t:TO):Prop :=
 ∀(aa:Δ)(s:Shared)(σ:St)(H:Hp)(Q:xb->Hp->Prop),Inv X aa σ H s->t σ H Q ->
  wpAny (model X.prog X.w) X.A (evalPart e X.env) (λu s'=>∃o H',Inv X aa σ H' s'/\IsPart u o/\Q o H') X.xe s
def afM:TO:=λ_ H Q=>Q none H
def amx(t:TE):TO:=λσ H Q=>t σ H λx H1=>∃i,x=.int i/\Q (some i) H1
def intsAre_of{ns:xy} : ∀{us:Θ},Vals (ns.map V.int) us->IntsAre us ns:=by
 induction ns with
 |nil=>intro us r;rw[List.map_nil]at r;cases r;exact .nil
 |cons n ns ih =>
  intro us r;rw[List.map_cons]at r;cases r with
  |cons r1 r2 =>
   obtain⟨t,e⟩:=r1;subst e;exact .cons n t (ih r2)
variable{X:Cx}{e:Expr}{te:TE}{lo hi:Option Expr}{tl th:TO}{pos p2:Pos}{α:Type}{n:Nat}{aa:Δ}{σ:St}{H:Hp}{s:Shared}{xs ys:Ζ}{l:Addr}
def ae7:PO X none afM:=by
 intro aa s σ H Q I h;rw[evalPart_none];exact ZT ⟨none,H,I,.none,h⟩
def af5(h:PE X e te):PO X (some e) (amx te):=by
 intro aa s σ H Q I hw;rw[evalPart_some];refine thn (h aa s σ H _ I hw) λu s1 hP=>?_;obtain⟨x,H1,I1,r1,q1⟩:=hP;obtain⟨i,rfl,q⟩:=q1;obtain⟨t,rfl⟩:=r1;exact⟨some i,H1,I1,.int i t,q⟩
def SlR(X:Cx)(r:V->xb->xb->Hp->VK->Prop):Prop :=
 ∀(aa:Δ)(s:Shared)(σ:St)(H:Hp)(x:V)(v vl vu:Value)(lo hi:xb)(sl:Addr)(Q:VK),Inv X aa σ H s->RelV x v->s.heap.IsSliceOf sl vl vu .none->IsPart vl lo->IsPart vu hi->r x lo hi H Q ->
  ∃T id,typeLookup (.type T) "__getitem__"=pure (some (.builtin id))/\s.TypeIs v T/\wpAny (model X.prog X.w) X.A (getItem v (.ref sl)) (EP X aa σ Q) X.xe s
def SlR.or{r r':V->xb->xb->Hp->VK->Prop}(h:SlR X r)(h':SlR X r'):SlR X (λx lo hi H Q=>r x lo hi H Q\/r' x lo hi H Q):=by
 intro aa s σ H x v vl vu lo hi sl Q I rx hs pl pu q;rcases q with q|q
 .exact h aa s σ H x v vl vu lo hi sl Q I rx hs pl pu q
 .exact h' aa s σ H x v vl vu lo hi sl Q I rx hs pl pu q
def tSl(r:V->xb->xb->Hp->VK->Prop)(te:TE)(tl th:TO):TE:=λσ H Q=>te σ H λx H1=>tl σ H1 λl H2=>th σ H2 λu H3=>r x l u H3 Q
def ab9{r:V->xb->xb->Hp->VK->Prop}(hr:SlR X r)(he:PE X e te)(hl:PO X lo tl)(hu:PO X hi th):PE X (.Subscript e (.Slice lo hi none p2) pos) (tSl r te tl th):=by
 intro aa s σ H Q I h;refine Subscript_ (thn (he aa s σ H _ I h) λv s1 hP=>?_);obtain⟨x,H1,I1,r1,q1⟩:=hP;refine wpAny_Slice (thn (hl aa s1 σ H1 _ I1 q1) λvl s2 ⟨l,H2,I2,pl,q2⟩=>thn (hu aa s2 σ H2 _ I2 q2) λvu s3 hP=>?_);obtain⟨u,H3,I3,pu,q3⟩:=hP;rw[evalPart_none];refine ZT ?_;have I4:Inv X aa σ H3 { s3 with heap:=s3.heap.push { cls:=.type "slice",data:=.fields #[vl,vu,.none] } }:=I3.kept (t':=s3.toks) λb ob q=>aH _ q;obtain⟨T,id,hT,ht,hg⟩:=hr aa { s3 with heap:=s3.heap.push { cls:=.type "slice",data:=.fields #[vl,vu,.none] } } σ H3 x v vl vu l u s3.heap.objs.size Q I4 r1 (Heap.IsSliceOf.new ..) pl pu q3;show wpAny (model X.prog X.w) X.A (subscriptTail e (.Slice lo hi none p2) v (.ref s3.heap.objs.size)) (EP X aa σ Q) X.xe { s3 with heap:=s3.heap.push { cls:=.type "slice",data:=.fields #[vl,vu,.none] } };exact tail_any (ops:=[.ref s3.heap.objs.size,v]) ht hT hg (by with_unfolding_all rfl)
def aaZ(xs:Ζ)(lo hi:xb):Ζ:=(xs.drop (HT.sIx xs.length 0 lo)).take (HT.sIx xs.length xs.length hi-HT.sIx xs.length 0 lo)
def Ve(xs:Ζ)(lo hi:xb):(aaZ xs lo hi).length<=xs.length:=by
 unfold aaZ;rw[aY,U1];lia
def ixN(n:Nat)(i:Int):xt:=if 0<=i then(if i<n then some i.toNat else none)else if -(n:Int)<=i then some (i+n).toNat else none
def atI(xs:List α)(i:Int):Option α:=(ixN xs.length i).bind λj=>xs[j]?
def Y4{i:Int}{j:Nat}(h:ixN n i=some j):seqIndex? i n=some j/\j<n/\-(n:Int)<=i/\i<n:=by
 unfold ixN at h;by_cases h0:0<=i
 .rw[ZY h0]at h;by_cases h1:i<n
  .rw[ZY h1]at h;have e:i.toNat=j:=Option.some.inj h;exact⟨by rw[seqIndex_of h0 h1,e],by lia,by lia,h1⟩
  .rw[ZZ h1]at h;cases h
 .rw[ZZ h0]at h;by_cases h1 : -(n:Int)<=i
  .rw[ZY h1]at h;have e:(i+n).toNat=j:=Option.some.inj h;exact⟨by rw[seqIndex_neg (QQ h0) h1,e],by lia,h1,by lia⟩
  .rw[ZZ h1]at h;cases h
def RG{xs:List α}{i:Int}{v:α}(h:atI xs i=some v):∃j,seqIndex? i xs.length=some j/\xs[j]?=some v/\j<xs.length/\-(xs.length:Int)<=i/\i<xs.length:=by
 unfold atI at h;cases e:ixN xs.length i with
 |none=>rw[e]at h;cases h
 |some j =>
  rw[e]at h;obtain⟨h1,h2,h3,h4⟩:=Y4 e;exact⟨j,h1,h,h2,h3,h4⟩
def rG(b:Expr):Prop:=∀o i,subscripted b false o i=operate [o,i] (getItem o i)
def IxR(X:Cx)(r:R2):Prop :=
 ∀(ar bj:Expr)(aa:Δ)(s:Shared)(σ:St)(H:Hp)(x y:V)(v u:Value)(Q:VK),Inv X aa σ H s->RelV x v->RelV y u->r x y H Q ->
  subscripted bj false v u=operate [v,u] (getItem v u)->wpAny (model X.prog X.w) X.A (subscriptTail ar bj v u) (EP X aa σ Q) X.xe s
def MtR(X:Cx)(id:String)(r:V->Ζ->Hp->VK->Prop):Prop :=
 ∀(aa:Δ)(s:Shared)(σ:St)(H:Hp)(x:V)(xs:Ζ)(v:Value)(us:Θ)(Q:VK),Inv X aa σ H s->RelV x v->Vals xs us->r x xs H Q ->
  wpAny (model X.prog X.w) X.A (call (.builtin id) (v::us)) (EP X aa σ Q) X.xe s
section
variable{X:Cx}{a b:Expr}{ta tb:TE}{pos:Pos}
def IxR.or{r r':R2}(h:IxR X r)(h':IxR X r'):IxR X (λx y H Q=>r x y H Q\/r' x y H Q):=by
 intro ar bj aa s σ H x y v u Q I rx ry q hs;rcases q with q|q
 .exact h ar bj aa s σ H x y v u Q I rx ry q hs
 .exact h' ar bj aa s σ H x y v u Q I rx ry q hs
def vW{r:R2}(hr:IxR X r)(ha:PE X a ta)(hb:PE X b tb)(hs:rG b):PE X (.Subscript a b pos) (tOp r ta tb):=by
 intro aa s σ H Q I h;exact Subscript_ (ahC ha hb I h λv u s2 x y H2 I2 rx ry q=>hr a b aa s2 σ H2 x y v u Q I2 rx ry q (hs _ _))
def apt(K:Frag):R2:=λx y H Q=>∃p xs i v,x=.ref p/\y=.int i/\SqL K H p xs/\atI xs i=some v/\Q v H
def apw(K:Frag):R2:=λx y H Q=>∃p xs i v,x=.ref p/\y=.int i/\SqT K H p xs/\atI xs i=some v/\Q v H
def apo:R2:=λx y H Q=>∃z i c,x=.str z/\y=.int i/\z.length<=sizeLine/\atI z.cps.toList i=some c/\Q (.str ⟨#[c]⟩) H
def rA:IxR X (apt X.K):=by
 intro ar bj aa s σ H x y v u Q I rx ry h hs;obtain⟨p,xs,i,z,rfl,rfl,hq,he,q⟩:=h;cases rx;obtain⟨t,rfl⟩:=ry;obtain⟨its,r,pl,hz⟩:=I.list hq;obtain⟨j,h1,h2,h3,h4,h5⟩:=RG he;obtain⟨w,ew,dv⟩:=r.get h2;have hl:=r.length;have hn:=xK;have aE:EP X aa σ Q w s:=⟨z,H,I,dv,q⟩;by_cases h0:0<=i
 .have hj:i.toNat=j:=by
   rw[seqIndex_of h0 h5]at h1;exact Option.some.inj h1
  exact item_listR pl.isList h0 wf (by rw[hj];simpa using ew) aE hs
 .have hj:(i+(its.toArray.size:Int)).toNat=j:=by
   rw[seqIndex_neg (QQ h0) h4]at h1;rw[aX,<- hl];exact Option.some.inj h1
  exact subscriptTail_builtinR (x:=w) pl.isList.typeIs slot_list_getitem.lookup
   (wpAny_getItem_list_neg (Q:=λr s'=>r=w/\EP X aa σ Q r s') pl.isList (QQ h0) (by rw[aX]<;>lia) wf (by rw[hj];simpa using ew) ⟨rfl,aE⟩) hs
def Jm:IxR X (apw X.K):=by
 intro ar bj aa s σ H x y v u Q I rx ry h hs;obtain⟨p,xs,i,z,rfl,rfl,hq,he,q⟩:=h;cases rx;obtain⟨t,rfl⟩:=ry;obtain⟨its,r,pl,hz⟩:=I.tuple hq;obtain⟨j,h1,h2,h3,h4,h5⟩:=RG he;obtain⟨w,ew,dv⟩:=r.get h2;have hl:=r.length;have hn:=xK;have aE:EP X aa σ Q w s:=⟨z,H,I,dv,q⟩;exact subscriptTail_builtinR (x:=w) pl.typeIs slot_tuple_getitem.lookup
  (getItem_tuple (j:=j) (Q:=λr s'=>r=w/\EP X aa σ Q r s') pl wf wf (by rwa[aX,<- hl]) (by simpa using ew) ⟨rfl,aE⟩) hs
def ah4:IxR X apo:=by
 intro ar bj aa s σ H x y v u Q I rx ry h hs;obtain⟨z,i,c,rfl,rfl,hz,he,q⟩:=h;obtain⟨t,rfl⟩:=rx;obtain⟨t',rfl⟩:=ry;obtain⟨j,h1,h2,h3,h4,h5⟩:=RG he;have hl:z.cps.toList.length=z.length:=by simp[Str.length]
 rw[hl]at h1 h4 h5;have hn:=xK;exact tail_any (typeIs_str s z t) slot_str_getitem.lookup (getItem_str (c:=c) (by
  have e1:decide (i < -(2^63:Int))=false:=Zp wf;have e2:decide (i>=2^63)=false:=Zp wf;rw[e1,e2,Bool.or_false]) (by rw[h1];simpa using h2) ⟨.str ⟨#[c]⟩,H,I.tok _,⟨_,rfl⟩,q⟩) hs
def W3(its:Θ)(n j:Nat)(u:Value):Obj.mapSeq (·.setIfInBounds j u) { cls:=.type "list",data:=.seq its.toArray n }={ cls:=.type "list",data:=.seq (its.set j u).toArray n }:=by
 simp[Obj.mapSeq]
def Inv.lst{aa:Δ}{σ:St}{H:Hp}{s:Shared}{p:Addr}{xs:Ζ}(I:Inv X aa σ H s)(h:H p=some (.lst xs)) :
  ∃(its:Θ)(n:Nat),Vals xs its/\s.heap.get? p=some { cls:=.type "list",data:=.seq its.toArray n }/\xs.length<=sizeLine:=by
 obtain⟨z,its,n,r,e⟩:=I.hok p _ h;exact⟨its,n,r,e,z⟩
def Inv.lstUpd{p:Addr}{its its':Θ}{n':Nat}{f:Obj->Obj}(I:Inv X aa σ H s)(h:H p=some (.lst xs))
 (ho:s.heap.get? p=some { cls:=.type "list",data:=.seq its.toArray n })(hf:f { cls:=.type "list",data:=.seq its.toArray n }={ cls:=.type "list",data:=.seq its'.toArray n' })(r:Vals ys its')(hz:ys.length<=sizeLine)(t:Nat) :
  Inv X aa σ (upd H p (.lst ys)) { s with heap:=s.heap.update p f,toks:=t }:=by
 have e:(s.heap.update p f).get? p=some { cls:=.type "list",data:=.seq its'.toArray n' }:=by
  rw[Heap.get?_update_self f ho (by rw[hf]<;>rfl),hf]
 refine I.write (x:=p) (e:=p) (by rw[h];trivial) (.inl rfl) (λb u hb q=>(Heap.get?_update_other _ _ (Ne.symm hb)).trans q) ⟨_,e⟩ ?_;exact⟨hz,its',n',r,e⟩
def ano:V->V->V->Hp->(Hp->Prop)->Prop:=λo i v H Q=>∃p xs k j,o=.ref p/\i=.int k/\H p=some (.lst xs)/\ixN xs.length k=some j/\Q (upd H p (.lst (xs.set j v)))
def set_list:akH X ano:=by
 intro aa s σ H o i v ov iv u Q I ro ri rv h;obtain⟨p,xs,k,j,rfl,rfl,hp,hj,q⟩:=h;cases ro;obtain⟨t,rfl⟩:=ri;obtain⟨its,n,r,ho,hz⟩:=I.lst hp;obtain⟨h1,h2,h3,h4⟩:=Y4 hj;have hl:=r.length;have hn:=xK;have I':Inv X aa σ (upd H p (.lst (xs.set j v))) { s with heap:=s.heap.update p (Obj.mapSeq (·.setIfInBounds j u)) } :=
  I.lstUpd hp ho (W3 its n j u) (r.set rv j) (by rwa[VY]) s.toks
 by_cases h0:0<=k
 .have hk:k.toNat=j:=by
   rw[seqIndex_of h0 h4]at h1;exact Option.some.inj h1
  exact PySem.W.ki_setAt ho h0 wf (by rwa[aX,<- hl]) (by rw[hk];exact⟨_,I',q⟩)
 .have hk:(k+(its.toArray.size:Int)).toNat=j:=by
   rw[seqIndex_neg (QQ h0) h3]at h1;rw[aX,<- hl];exact Option.some.inj h1
  exact PySem.W.ki_setBack ho (QQ h0) (by rwa[aX,<- hl]) wf (by rw[hk];exact⟨_,I',q⟩)
def Pn(lo hi:xb)(n:Nat):(sliceBounds lo hi none n).1=((HT.sIx n 0 lo:Nat):Int)/\(sliceBounds lo hi none n).2.1=((HT.sIx n n hi:Nat):Int)/\(sliceBounds lo hi none n).2.2=1:=by
 refine⟨?_,?_,rfl⟩
 .cases lo with
  |none=>simp[sliceBounds,HT.sIx]
  |some i =>
   simp only[sliceBounds,HT.sIx,Option.getD_none,show(1:Int)>0 by decide,if_true];by_cases h:i<0
   .simp only[h,if_true]<;>lia
   .simp only[h,if_false]<;>lia
 .cases hi with
  |none=>simp[sliceBounds,HT.sIx]
  |some i =>
   simp only[sliceBounds,HT.sIx,Option.getD_none,show(1:Int)>0 by decide,if_true];by_cases h:i<0
   .simp only[h,if_true]<;>lia
   .simp only[h,if_false]<;>lia
def Mv(its:Θ)(lo hi:xb):slicePick its.toArray lo hi none=((its.drop (HT.sIx its.length 0 lo)).take (HT.sIx its.length its.length hi-HT.sIx its.length 0 lo)).toArray:=by
 obtain⟨h1,h2,h3⟩:=Pn lo hi its.toArray.size;unfold slicePick;rw[h1,h2,h3];simp only[sliceRange_one,pick_run,aX]<;>rfl
def aoH(K:Frag):V->xb->xb->Hp->VK->Prop:=λx lo hi H Q=>∃a xs,x=.ref a/\SqL K H a xs/\∀p,H p=none->Q (.ref p) (upd H p (.lst (aaZ xs lo hi)))
def aft:SlR X (aoH X.K):=by
 intro aa s σ H x v vl vu lo hi sl Q I rx hs pl pu h;obtain⟨a,xs,rfl,hx,q⟩:=h;cases rx;obtain⟨its,r,ht,hz⟩:=I.list hx;have a8:=r.length;refine⟨"list",_,slot_list_getitem.lookup,ht.isList.typeIs,?_⟩;refine wpAny_getItem_list_slice ht.isList hs pl pu .none wp ?_ (by rw[aX]<;>lia);rw[Mv,<- a8];refine⟨.ref s.heap.objs.size,_,I.laid (t':=s.toks) (o:=.lst (aaZ xs lo hi)) (λb ob q=>aH _ q) (aG _) ?_,rfl,q _ (I.hok.fresh (aG _))⟩;exact⟨aL (Ve xs lo hi) hz,_,0,(r.drop (HT.sIx xs.length 0 lo)).take (HT.sIx xs.length xs.length hi-HT.sIx xs.length 0 lo),aW _ rfl⟩
def eqV:V->V->Bool
 |.non,.non=>true
 |.bl a,.bl b=>a==b
 |.bl a,.int b=>(if a then 1 else 0)==b
 |.int a,.bl b=>a==(if b then 1 else 0)
 |.int a,.int b=>a==b
 |.str a,.str b=>a==b
 |_,_=>false
def QZ:jx X (.builtin "len") (λxs H Q=>∃p ys,xs=[.ref p]/\(SqL X.K H p ys\/SqT X.K H p ys)/\Q (.int ys.length) H):=by
 intro aa s σ H xs us Q I r h;obtain⟨p,ys,rfl,hq,q⟩:=h;obtain⟨u,rfl,rx⟩:=vals1 r;cases rx;have hn:=xK;rcases hq with hq|hq
 .obtain⟨its,r',pl,hz⟩:=I.list hq;have a8:=r'.length;exact Calls.call_len_list pl.isList (by simp only[aX]<;>lia) ⟨.int ys.length,H,I.tok _,⟨s.toks+1,by rw[aX,a8]⟩,q⟩
 .obtain⟨its,r',pl,hz⟩:=I.tuple hq;have a8:=r'.length;exact len_tuple pl (by simp only[aX]<;>lia) ⟨.int ys.length,H,I.tok _,⟨s.toks+1,by rw[aX,a8]⟩,q⟩
def Tw:jx X (.builtin "len") (λxs H Q=>∃z,xs=[.str z]/\z.length<=sizeLine/\Q (.int z.length) H):=by
 intro aa s σ H xs us Q I r h;obtain⟨z,rfl,hz,q⟩:=h;obtain⟨u,rfl,t,rfl⟩:=vals1 r;have hn:=xK;exact len_str wf ⟨.int z.length,H,I.tok _,⟨_,rfl⟩,q⟩
def Qn:jx X (.type "list") (λxs H Q=>∃p ys,xs=[.ref p]/\(SqL X.K H p ys\/SqT X.K H p ys)/\∀l,H l=none->Q (.ref l) (upd H l (.lst ys))):=by
 intro aa s σ H xs us Q I r h;obtain⟨p,ys,rfl,hq,q⟩:=h;obtain⟨u,rfl,rx⟩:=vals1 r;cases rx;have aE:∀(its:Θ),Vals ys its->ys.length<=sizeLine->∀(h':Heap)(c':Nat),(∀b o',s.heap.get? b=some o'->h'.get? b=some o') ->
   h'.get? s.heap.objs.size=some { cls:=.type "list",dict:=none,data:=.seq its.toArray c',slots:=#[] }->EP X aa σ Q (.ref s.heap.objs.size) { s with heap:=h' }:=λits r' hz h' c' kp e =>
  ⟨.ref s.heap.objs.size,_,I.laid (t':=s.toks) kp (aG _) (show fK X.prog X.w _ h' _ (.lst ys)from⟨hz,its,c',r',e⟩),rfl,q _ (I.hok.fresh (aG _))⟩
 rcases hq with hq|hq
 .obtain⟨its,r',pl,hz⟩:=I.list hq;have a8:=r'.length;obtain⟨o,ho,hc,n,hd⟩:=pl.isList;exact call_list_seq p (.inl rfl) ho hc hd (λh' c' kp e=>aE its r' hz h' c' kp e) (by simp only[aX]<;>lia)
 .obtain⟨its,r',pl,hz⟩:=I.tuple hq;have a8:=r'.length;obtain⟨o,ho,hc,n,hd⟩:=pl;exact call_list_seq p (.inr rfl) ho hc hd (λh' c' kp e=>aE its r' hz h' c' kp e) (by simp only[aX]<;>lia)
def NP:jx X (.type "tuple") (λxs H Q=>∃p ys,xs=[.ref p]/\((SqL X.K H p ys/\∀l,H l=none->Q (.ref l) (upd H l (.tup ys)))\/(SqT X.K H p ys/\Q (.ref p) H))):=by
 intro aa s σ H xs us Q I r h;obtain⟨p,ys,rfl,h⟩:=h;obtain⟨u,rfl,rx⟩:=vals1 r;cases rx;rcases h with⟨hq,q⟩|⟨hq,q⟩
 .obtain⟨its,r',pl,hz⟩:=I.list hq;have a8:=r'.length;refine call_tuple_list pl.isList (λh' kp=>?_) (by simp only[aX]<;>lia);have I1:Inv X aa σ H { s with heap:=h' }:=I.kept (t':=s.toks) kp;have I2:Inv X aa σ (upd H h'.objs.size (.tup ys)) { s with heap:=h'.push { cls:=.type "tuple",data:=.seq its.toArray } } :=
   I1.laid (t':=s.toks) (λb o e=>aH _ e) (aG _) (show fK X.prog X.w _ _ _ (.tup ys)from⟨hz,its,r',IsTup.new _ _⟩)
  exact⟨.ref h'.objs.size,_,I2,rfl,q _ (I1.hok.fresh (aG _))⟩
 .obtain⟨its,r',pl,hz⟩:=I.tuple hq;exact call_tuple_same pl ⟨.ref p,H,I,rfl,q⟩
def tyV(K:Frag)(T:String)(x:V)(H:Hp):Prop:=match x with
 |.str _=>T="str"
 |.int _=>T="int"
 |.ref p=>(T="list"/\∃xs,SqL K H p xs)\/(T="tuple"/\∃o,K.lookup p=some o/\o.cls=.type "tuple"/\o.dict=none) \/
   (T="dict"/\(∃kvs,H p=some (.dK kvs)))\/(T="set"/\∃S n,H p=some (.set S n))
 |_=>False
def acN{T:String}{x:V}{v:Value}(I:Inv X aa σ H s)(r:RelV x v)(ty:tyV X.K T x H) :
  s.TypeIs v T/\∀a,v=.ref a->∃ob,s.heap.get? a=some ob/\ob.dict=none:=by
 cases x with
 |str z =>
  obtain⟨t,rfl⟩:=r;cases(show T="str" from ty);exact⟨typeIs_str s z t,λ_ e=>nomatch e⟩
 |int i =>
  obtain⟨t,rfl⟩:=r;cases(show T="int" from ty);exact⟨typeIs_int s i t,λ_ e=>nomatch e⟩
 |ref p =>
  cases r;rcases ty with⟨rfl,xs,hq⟩|⟨rfl,o,hk,hc,hd⟩|⟨rfl,hk⟩|⟨rfl,S,n,hk⟩
  .obtain⟨its,_,pl,_⟩:=I.list hq;refine⟨pl.isList.typeIs,λa e=>?_⟩;cases e;obtain⟨o,n,e,c,hd,_⟩:=pl;exact⟨o,e,hd⟩
  .refine⟨⟨o,I.kIn p o hk,hc⟩,λa e=>?_⟩;cases e;exact⟨o,I.kIn _ o hk,hd⟩
  .have z:∃o,s.heap.get? p=some o/\o.ExactDict:=by
    obtain⟨kvs,hk⟩:=hk;obtain⟨_,_,_,_,o,_,_,e,ex,_⟩:=I.hok p _ hk;exact⟨o,e,ex⟩
   obtain⟨o,e,ex⟩:=z;refine⟨⟨o,e,ex.1⟩,λa e2=>?_⟩;cases e2;exact⟨o,e,ex.2.1⟩
  .obtain⟨o,_,_,_,e,ex,_⟩:=I.hok p _ hk;refine⟨⟨o,e,ex.1⟩,λa e2=>?_⟩;cases e2;exact⟨o,e,ex.2.1⟩
 |_=>exact False.elim ty
def aoD(K:Frag)(T:String)(r:V->Ζ->Hp->VK->Prop)(to:TE):TE:=λσ H Q=>to σ H λx H1=>tyV K T x H1/\r x [] H1 Q
def tBM(K:Frag)(T:String)(r:V->Ζ->Hp->VK->Prop)(to:TE)(t:TA):TE:=λσ H Q=>to σ H λx H1=>tyV K T x H1/\t σ H1 λxs H2=>r x xs H2 Q
variable{o e:Expr}{es:xz}{to:TE}{t:TA}{name:Str}{ai af:Pos}{T id:String}{r:V->Ζ->Hp->VK->Prop}
abbrev zh(a b:Pos):Prop:=(a.endLine==b.line)=true
def ahT(pa:PlainAttrs T)(slot:Slot T name id)(h8:typeOf (.builtin id)=pure (.type "method_descriptor"))(hm:MtR X id r)(ho:PE X o to)
 (fy:zw X o name:=by rfl)(fq:zh ai af:=by rfl):PE X (.Call (.Attribute o name ai) [] [] af) (aoD X.K T r to):=by
 intro aa s σ H Q I h;refine wpAny_Call_method0_late fy fq (thn (ho aa s σ H _ I h) λv s1 hP=>?_);obtain⟨x,H1,I1,r1,ty,q1⟩:=hP;obtain⟨h1,h2⟩:=acN I1 r1 ty;exact⟨T,id,pa,slot,h8,h1,h2,Calls.callWith_builtin rfl (PySem.evalArgs_none (hm aa s1 σ H1 x [] v [] Q I1 r1 .nil q1))⟩
def abF(pa:PlainAttrs T)(slot:Slot T name id)(h8:typeOf (.builtin id)=pure (.type "method_descriptor"))(hm:MtR X id r)(ho:PE X o to)(ha:PA X (e::es) t)
 (fy:zw X o name:=by rfl)
 (og:((backTo af (starEach (e::es) X.env)).all (λx=>!x.1)&&(backToKw af (keywordEach [] X.env)).all (λx=>x.1.isSome)
   && decide ((e::es).length+([] : xA).length+(if([] : xA).isEmpty then 0 else 1)<30))=true:=by rfl)
 (fq:zh ai af:=by rfl)(hs:qr X e es:=by rfl)(ia:qV X af es:=by rfl) :
  PE X (.Call (.Attribute o name ai) (e::es) [] af) (tBM X.K T r to t):=by
 intro aa s σ H Q I h;refine wpAny_Call_method_late fy og fq rfl (thn (ho aa s σ H _ I h) λv s1 hP=>?_);obtain⟨x,H1,I1,r1,ty,q1⟩:=hP;obtain⟨h1,h2⟩:=acN I1 r1 ty;refine⟨T,id,pa,slot,h8,h1,h2,?_⟩;have hA:=ha af aa s1 σ H1 _ I1 q1;rw[hs]at hA ⊢;refine Calls.callWith_builtin (by show(false || (backTo af (starEach es X.env)).any (·.1))=false;rw[ia]<;>rfl) (Calls.evalArgs_plain ?_);exact thn hA λus s2 hP=>by obtain⟨vs,H2,I2,r2,q2⟩:=hP;exact hm aa s2 σ H2 x vs v us Q I2 r1 r2 q2

end
def MtM(X:Cx)(id:String)(r:V->Ζ->Hp->VK->Prop):Prop :=
 ∀(aa:Δ)(s:Shared)(σ:St)(H:Hp)(x:V)(xs:Ζ)(v:Value)(us:Θ)(Q:VK),Inv X aa σ H s->RelV x v->Vals xs us->r x xs H Q ->
  wpAny (model X.prog X.w) X.A (call (.builtin id) (v::us)) (EP X aa σ Q) X.xe s
def Vals.one:∀{x:V}{us:Θ},Vals [x] us->∃u,us=[u]/\RelV x u
 |_,_,.cons r .nil=>⟨_,rfl,r⟩
def Vals.two{x y:V}{us:Θ}(h:Vals [x,y] us):∃u v,us=[u,v]/\RelV x u/\RelV y v:=by
 cases h with|cons r t=>cases t with|cons q t=>cases t;exact⟨_,_,rfl,r,q⟩
def Vals.zero:∀{us:Θ},Vals [] us->us=[]
 |_,.nil=>rfl
def Vals.reverse{xs:Ζ}{us:Θ}(h:Vals xs us):Vals xs.reverse us.reverse:=by
 induction h with
 |nil=>exact .nil
 |cons r t ih=>rw[List.reverse_cons,List.reverse_cons];exact Vals.append ih (.cons r .nil)
theorem Vals.rep{xs:Ζ}{us:Θ}(h:Vals xs us):∀k:Nat,Vals (List.replicate k xs).flatten (List.replicate k us).flatten
 |0=>.nil
 |k+1=>by
  rw[List.replicate_succ,List.replicate_succ,List.flatten_cons,List.flatten_cons];exact Vals.append h (Vals.rep h k)
theorem foldl_rep(its:Θ):∀(k:Nat)(acc:Θ),
  List.foldl (λx1 x2=>x1++x2) acc.toArray (List.replicate k its.toArray)=(acc++(List.replicate k its).flatten).toArray
 |0,acc=>by simp
 |k+1,acc=>by
  have e:acc.toArray++its.toArray=(acc++its).toArray:=by simp
  have e2:(acc++its)++(List.replicate k its).flatten=acc++(List.replicate (k+1) its).flatten:=by
   rw[List.replicate_succ,List.flatten_cons,WZ]
  rw[<- e2,<- foldl_rep its k (acc++its),<- e,List.replicate_succ,List.foldl_cons]
def Inv.lset{its its':Θ}{f:xh->xh}{t':Nat}(I:Inv X aa σ H s)(hH:H l=some (.lst xs))
 (e:s.heap.get? l=some { cls:=.type "list",data:=.seq its.toArray n })(hf:f its.toArray=its'.toArray)(hv:Vals ys its')(hz:ys.length<=sizeLine) :
  Inv X aa σ (upd H l (.lst ys)) { s with heap:=s.heap.update l (Obj.mapSeq f),toks:=t' }:=by
 have q:=PySem.IsL.update e f;rw[hf]at q;refine I.write (x:=l) (e:=l) (by rw[hH];exact trivial) (.inl rfl) (λb' u hb hu=>(Heap.get?_update_other s.heap (Obj.mapSeq f) (Ne.symm hb)).trans hu) ⟨_,q⟩ ?_;exact⟨hz,its',_,hv,q⟩
def Inv.lnew{its:Θ}{t':Nat}(I:Inv X aa σ H s)(hv:Vals ys its)(hz:ys.length<=sizeLine) :
  Inv X aa σ (upd H s.heap.objs.size (.lst ys)) { s with heap:=s.heap.push { cls:=.type "list",data:=.seq its.toArray },toks:=t' } :=
 I.laid (λ_ _ q=>aH _ q) (aG _) ⟨hz,its,0,hv,aW _ rfl⟩
def Inv.fresh(I:Inv X aa σ H s):H s.heap.objs.size=none:=I.hok.fresh (aG _)
def Inv.lstM(I:Inv X aa σ H s)(hH:H l=some (.lst xs)):xs.length<=sizeLine/\∃(its:Θ)(n:Nat),Vals xs its/\xs.length=its.length/\s.heap.get? l=some { cls:=.type "list",data:=.seq its.toArray n }:=by
 obtain⟨z,its,n,r,e⟩:=I.hok l _ hH;exact⟨z,its,n,r,r.length,e⟩
def acr(h:n<=sizeLine):Builtin.List.listTooLong n=false:=by
 unfold Builtin.List.listTooLong;exact Zp (TR h)
def aeP:V->Ζ->Hp->VK->Prop:=λx vs H Q=>∃l xs y,x=.ref l/\vs=[y]/\H l=some (.lst xs)/\xs.length<sizeLine/\Q .non (upd H l (.lst (xs++[y])))
def Oh:MtM X "list.append" aeP:=by
 intro aa s σ H x vs v us Q I rx rv h;obtain⟨l,xs,y,rfl,rfl,hH,hz,q⟩:=h;cases rx;obtain⟨u,rfl,ru⟩:=rv.one;obtain⟨z,its,n,r,hl,e⟩:=I.lstM hH;refine call_meets F.slot_list_append ⟨_,e,rfl⟩ F.entry_list_append (F.args_list_append_2 _ _) (PySem.list_append l its.toArray n u (by rw[aX];lia)) ⟨e,?_⟩;refine⟨.non,_,I.lset (its':=its++[u]) hH e wp (r.append (.cons ru .nil)) ?_,rfl,q⟩;rwa[aA,List.length_singleton]
def abg:V->Ζ->Hp->VK->Prop:=λx vs H Q=>∃l xs,x=.ref l/\vs=[]/\H l=some (.lst xs)/\Q .non (upd H l (.lst xs.reverse))
def Wx:MtM X "list.reverse" abg:=by
 intro aa s σ H x vs v us Q I rx rv h;obtain⟨l,xs,rfl,rfl,hH,q⟩:=h;cases rx;have hus:=rv.zero;subst hus;obtain⟨z,its,n,r,hl,e⟩:=I.lstM hH;refine call_meets F.slot_list_reverse ⟨_,e,rfl⟩ F.entry_list_reverse (F.args_list_reverse_1 _) (AutoSeq1.list_reverse_list_0 l its.toArray n (by rw[aX];lia)) ⟨e,?_⟩;refine⟨.non,_,I.lset (its':=its.reverse) hH e wp r.reverse ?_,rfl,q⟩;rw[List.length_reverse];omega
def apk:R2:=λx y H Q=>∃l b xs zs,x=.ref l/\y=.ref b/\H l=some (.lst xs)/\H b=some (.lst zs)/\xs.length+zs.length<=sizeLine/\∀p,H p=none->Q (.ref p) (upd H p (.lst (xs++zs)))
def ahW:OpR X (binaryOp .Add) apk:=by
 intro aa s σ H x y v u Q I rx ry h;obtain⟨l,b,xs,zs,rfl,rfl,hH,hB,hz,q⟩:=h;cases rx;cases ry;obtain⟨z,its,n,r,hl,e⟩:=I.lstM hH;obtain⟨z2,j3,n2,r2,hl2,e2⟩:=I.lstM hB;refine PySem.P.add_list e e2 ?_ (by rw[aX,aX];lia);have ea:its.toArray++j3.toArray=(its++j3).toArray:=by simp
 rw[ea];exact⟨.ref _,_,I.lnew (t':=s.toks) (r.append r2) (by rw[aA];omega),rfl,q _ I.fresh⟩
def aqb:R2:=λx y H Q=>∃l k xs,x=.ref l/\y=.int k/\H l=some (.lst xs)/\-(2^63)<=k/\k<2^63/\xs.length*k.toNat<=sizeLine /\
 ∀p,H p=none->Q (.ref p) (upd H p (.lst (List.replicate k.toNat xs).flatten))
def len_rep(xs:List α)(k:Nat):(List.replicate k xs).flatten.length=k*xs.length:=by
 induction k with
 |zero=>simp
 |succ k ih=>rw[List.replicate_succ,List.flatten_cons,aA,ih,Nat.succ_mul,Nat.add_comm]
def aik:OpR X (binaryOp .Mult) aqb:=by
 intro aa s σ H x y v u Q I rx ry h;obtain⟨l,k,xs,rfl,rfl,hH,h1,h2,hz,q⟩:=h;cases rx;obtain⟨t,rfl⟩:=ry;obtain⟨z,its,n,r,hl,e⟩:=I.lstM hH;have a8:its.toArray.size*k.toNat<=sizeLine:=by rwa[aX,<- hl]
 have oQ:¬its.toArray.size*k.toNat>(2^63-1)/8:=by
  have:(sizeLine:Nat)<=(2^63-1)/8:=by decide
  lia
 have n9:¬(!Builtin.List.listFitsIndex k)=true:=by
  rw[fitsIndex_both h1 h2];exact bw
 have kn:¬Builtin.List.listTooLong (its.toArray.size*k.toNat)=true:=by
  rw[acr a8];exact bw
 have nK:List.foldl (λx1 x2=>x1++x2) #[] (List.replicate (if its.toArray.isEmpty=true then 0 else k.toNat) its.toArray)=(List.replicate k.toNat its).flatten.toArray:=by
  have f0:∀m:Nat,List.foldl (λx1 x2=>x1++x2) #[] (List.replicate m its.toArray)=(List.replicate m its).flatten.toArray:=λm=>by
   have:=foldl_rep its m [];rw[List.nil_append]at this;exact this
  rw[f0];cases its with
  |nil=>simp
  |cons a r'=>rw[ZZ wp]
 refine wpAny_binaryOp_repeat_ref (T:="list") (U:="int") wb ⟨_,e,rfl⟩ (λs'=>typeIs_int s' k t) noFill_list_mul F.fills_int_mul F.slot_int_rmul repeat_list F.slot_int_index.lookup
  (call_meets F.slot_int_rmul (typeIs_int s k t) F.entry_int_rmul (F.args_int_rmul_2 _ _) (int___rmul___int_list k t l its.toArray n)
   ⟨e,rfl,⟨_,e,rfl⟩,call_meets F.slot_list_mul ⟨_,e,rfl⟩ F.entry_list_mul (F.args_list_mul_2 _ _) (AutoListH.list___mul___list_int_3 l its.toArray n k t n9 oQ kn) ⟨e,?_⟩⟩)
 rw[nK];exact⟨.ref _,_,I.lnew (t':=s.toks) (r.rep k.toNat) (by rwa[len_rep,JY]),rfl,q _ I.fresh⟩
end L2
namespace Att
open PySem PySem.W PySem.Calls PyProof.Rows
def Hx{P:Params}{h:Heap} : ∀(ns:xy)(vs:Θ),WellAll P h vs (ns.map WData.int)->IntsAre vs ns:=by
 intro ns
 induction ns with
 |nil =>
  intro vs w;rw[List.map_nil]at w;cases w;exact .nil
 |cons n ns ih =>
  intro vs w;rw[List.map_cons]at w;cases w with
  |cons a b =>
   cases a;exact .cons _ _ (ih _ b)
variable{l:OpenLaw}
def aai{n:Nat}(hn:l.most=some n){P:Params}{h:Heap}{args:List WData}{g7:Θ}
 (eL:l.row.toRowW.claim.pre args=true)(mM:WellAll P h g7 args) :
  ∃a vs ns,g7=[Value.ref a]/\args=[WData.list (ns.map WData.int)]/\h.get? a=some { cls:=.type "list",data:=.seq vs.toArray }/\IntsAre vs ns/\ns.length<=n:=by
 have gS:WShape.hasAll [] args [.list .int]=true:=(pre_splitW eL).1;have hc:l.pre.holds [] { args:=args }=true:=(pre_splitW eL).2;obtain⟨d,r,rfl,h1,h2⟩:=hasAllW_cons gS;obtain rfl:=hasAllW_nil h2;obtain⟨xs,rfl,h3⟩:=hasW_list h1;obtain⟨ns,rfl⟩:=items_int h3;have a8:ns.length<=n:=by
  unfold OpenLaw.pre at hc;have h4:(WTm.not (.lt (.lit (.int (n:Int))) (.len (.arg 0)))).holds [] { args:=[.list (ns.map .int)] }=true:=by
   have h4:=(holds_andW hc).1;rw[hn]at h4;exact h4
  have h5:=condW_of h4 (w_not (w_lt w_lit (w_len_list (w_arg rfl))));rw[ak]at h5;refine VT λq=>?_;have q':(n:Int)<((ns.length:Nat):Int):=by omega
  first
   |(rw[Zs q']at h5;exact absurd h5 wb)
   |(simp at h5;omega)
 cases mM with
 |cons w1 w2 =>
  cases w2;cases w1 with
  |list ho iq=>exact⟨_,_,ns,rfl,rfl,ho,Hx ns _ iq,a8⟩
def aaT(l:OpenLaw)(args:List WData):l.row.toRowW.claim.post args (.bool true) args=true :=
 postW_of (r:=l.row.toRowW) (X:=(true==true))
  (show WShape.has [] (.bool true) .bool=true by first|rfl|decide|simp[WShape.has,WShape.arms,WShape.armsAll])
  (show(WTm.eq .res (.lit (.bool true))).value [] { args:=args,res:=some (.bool true),after:=args }=some (.bool (true==true))from w_eq_bool (w_res rfl) w_lit) rfl
def Uh{n:Nat}{q:Program}{loose:Φ}{XP:(Str->Ω)->Heap->Prop}{YP:World->Heap->Prop}{d:DefRec}
 (hn:l.most=some n)(kx:d.params.defaults=[])
 (call:∀(w:World)(s₀ s₁:Shared)(mg mb:Str->Ω)(fa:Addr)(o:Obj)(pm cd bP:Value)(a:Addr)(vs:Θ)(ns:xy),
   Ground q loose [] XP w s₀ mg mb s₁.heap->YP w s₁.heap ->
   s₁.heap.get? fa=some o->o.data=.func (docDef d.name d.params d.body d.scope pm cd bP)->s₁.heap.CodeRec cd d.name->mg d.name=some (.ref fa) ->
   s₁.heap.get? a=some { cls:=.type "list",data:=.seq vs.toArray }->IntsAre vs ns->ns.length<=n->s₁.gens = #[] ->
   codeAny (model l.prog w) callerA (.call (.ref fa) ⟨[.ref a],[]⟩) (λr s'=>r=.ok (.ret (.bool true))/\OldK s₁.heap s'.heap/\s'.os=s₁.os/\AllBare s'.gens) s₁) :
  WalkO q loose XP YP l.row.toRowW d [] (λf vs=>PySem.call f vs):=by
 intro w s₀ s₁ mg mb G Y fa o pm cd bP dV kV ho hd aI hD gX hg args g7 as eL hlay hrd mM hlo;obtain rfl:dV=.none:=Dflts.none hD kx;obtain rfl:kV=.none:=Dflts.noKw hD;obtain⟨a,vs,ns,rfl,rfl,ib,fw,a8⟩:=aai hn eL mM;refine enter_call (codeAny_mono (call w s₀ s₁ mg mb fa o pm cd bP a vs ns G Y ho (fd_plain hd) aI gX ib fw a8 hg) λr s' hq=>?_);obtain⟨rfl,h2,h3,h4⟩:=hq;exact⟨.inl ⟨.bool true,.bool true,[],rfl,λ_=>rfl,.bool true,aaT l _,λ_=>⟨List.Pairwise.nil,λ_ hm=>(nomatch hm)⟩⟩,h2,h3,h4⟩
end Att
namespace L2
open PySem PySem.Spec PyProof.Rows
theorem Ge:∀{vs:Θ}{ns:xy},IntsAre vs ns->Vals (ns.map V.int) vs
 |_,_,.nil=>.nil
 |_,_,.cons n t h=>.cons ⟨t,rfl⟩ (Ge h)
def Only(H:Hp):Prop:=∀b,H b=none\/∃o xs,H b=some (.frz o (.lst xs))
def acv{P:Program}{w:World}{K:Frag}{mg mb:Str->Ω}{CX:CXT}{k:Nat}{fa a:Addr}{fd:FuncData}{x:Str}{sp:Sp}{s₁:Shared}{vs:Θ}{ns:xy}
 (KX:K.In s₁.heap)(eI:s₁.heap.Ns mainGlobals mg)(hb:s₁.heap.Ns builtinsNs mb)(hbb:∀x:Str,x≠"__name__"->mb x=bootBuiltins x)(nS:s₁.heap.NoLimit)(hg:s₁.gens = #[])
 (ha:s₁.heap.get? a=some { cls:=.type "list",data:=.seq vs.toArray })(hi:IntsAre vs ns)(hl:ns.length<=sizeLine)(hr:d9 k callerA)
 (F:∀base:Heap,K.In base->base.Ns mainGlobals mg->fL P w K mg base CX k fa fd [x] sp)(kA:∀(s:Shared)(u:Value),BindsTo s fd ⟨[u],[]⟩ [(x,u)])
 (eR:∀H:Hp,Only H->SqL K H a (ns.map V.int)->sp [.ref a] H (λv _=>v=.bl true) λ_ _ _=>False)
 (o6:∀H e s',CX [] H s₁ (λ_ _ _=>False) e s'->False) :
  codeAny (model P w) callerA (.call (.ref fa) ⟨[.ref a],[]⟩) (λr s'=>r=.ok (.ret (.bool true))/\OldK s₁.heap s'.heap/\s'.os=s₁.os/\AllBare s'.gens) s₁:=by
 have rv:=Ge hi;have mE:=hi.length

 have core:∀H:Hp,Only H->SqL K H a (ns.map V.int)->HOk P w H s₁.heap->(∀b,H b≠none->b=a)->(H a≠none->K.lookup a=none) ->
   codeAny (model P w) callerA (.call (.ref fa) ⟨[.ref a],[]⟩) (λr s'=>r=.ok (.ret (.bool true))/\OldK s₁.heap s'.heap/\s'.os=s₁.os/\AllBare s'.gens) s₁:=by
  intro H hO hS hok hA hK;have eK:∀{b:Addr}{o:Obj},s₁.heap.get? b=some o->H b=none->(Rv s₁.heap H).get? b=some o:=λe n=>acz e n;have jI:∀{b:Addr}{o:Obj}{es:Array DictEntry}{ep:Nat},s₁.heap.get? b=some o->o.data=.dict es ep->H b=none:=λ{b o es ep}e d=>by
   cases q:H b with
   |none=>rfl
   |some u =>
    have e':b=a:=hA b (by rw[q];simp);subst e';rw[ha]at e;cases e;have d':Data.seq vs.toArray _=Data.dict es ep:=d;cases d'
  have kM:∀{b:Addr}{m:Str->Ω},s₁.heap.Ns b m->(Rv s₁.heap H).Ns b m:=λ{b m}⟨o,es,ep,e,d,r⟩=>⟨o,es,ep,eK e (jI e d),d,r⟩;have hKb:K.In (Rv s₁.heap H):=λb o e=>eK (KX b o e) (by
   cases q:H b with
   |none=>rfl
   |some u =>
    have e':b=a:=hA b (by rw[q];simp);subst e';rw[hK (by rw[q];simp)]at e;cases e)
  have hM:Mod K mg (Rv s₁.heap H):=⟨hKb,kM eI,⟨mb,kM hb,hbb⟩,let⟨mc,h1,h2⟩:=nS;⟨mc,kM h1,h2⟩⟩;have e0:T7 P w K mg (Rv s₁.heap H) callerA [] s₁ H:=⟨rfl,hM,λb o e=>agt e,WH (aa1 _ _),trivial,λb hb=>absurd (show b∈([] : Ψ)from hb) wp,hok,.of_eq hg⟩;refine codeAny_mono ((F _ hKb (kM eI)).run callerA [] s₁ H ⟨[.ref a],[]⟩ [.ref a] [.ref a] _ _ hr e0 (kA s₁ (.ref a)) (.cons rfl .nil) (eR H hO hS)) λr s' h=>?_;cases r with
  |error e=>exact(o6 H e s' h).elim
  |ok fl =>
   cases fl with
   |next=>exact False.elim h
   |brk=>exact False.elim h
   |cont=>exact False.elim h
   |ret u =>
    obtain⟨v,H',os,bare,un,hok',r',q⟩:=h;have q':v=.bl true:=q;subst q';obtain rfl:u=Value.bool true:=r';refine⟨rfl,OldK.of_keep λb o e=>?_,os,bare⟩;cases q:H b with
    |none=>exact un.keep b o e q (by intro z;exact absurd (show b∈([] : Ψ)from z) wp) wp
    |some u =>
     rcases hO b with z|⟨ob,xs,z⟩
     .rw[q]at z;cases z
     .have z2:=un.frzs b ob _ z;obtain⟨e1,_⟩:=hok b _ z;obtain⟨e2,_⟩:=hok' b _ z2;rw[e]at e1;cases e1;exact e2
 cases hk:K.lookup a with
 |some o =>

  have e:=KX a o hk;rw[ha]at e;cases e;refine core (λ_=>none) (λ_=>.inl rfl) (.inr ⟨_,vs.toArray,_,hk,rfl,rfl,rfl,by rw[aX,mE];exact hl,by simpa using rv⟩) (λb u z=>by have z':(none:Option HO)=some u:=z;cases z') (λb z=>absurd rfl z) λz=>absurd rfl z
 |none =>
  refine core (λb=>if b=a then some (.frz { cls:=.type "list",data:=.seq vs.toArray } (.lst (ns.map V.int)))else none) (λb=>?_) (.inl (.inr ⟨{ cls:=.type "list",data:=.seq vs.toArray },ZY rfl⟩)) (λb u z=>?_) (λb z=>?_) λ_=>hk
  .by_cases hb:b=a
   .exact .inr ⟨_,_,ZY hb⟩
   .exact .inl (ZZ hb)
  .by_cases hb:b=a
   .have z':=(ZY hb).symm.trans z;cases z';subst hb;exact⟨ha,by rw[ak];exact hl,vs,_,rv,ha⟩
   .have z':=(ZZ hb).symm.trans z;cases z'
  .by_cases hb:b=a
   .exact hb
   .exact absurd (ZZ hb) z
abbrev KOf{K:Frag}{h:Heap}(_:K.In h):Frag:=K
def Y8{l:PySem.W.OpenLaw}{n k:Nat}{q:Program}{loose:Φ}{XP:(Str->Ω)->Heap->Prop}{YP:World->Heap->Prop}{d:DefRec}{K:Params->Frag}{CX:World->CXT}{sp:World->Sp}{x:Str}
 (hn:l.most=some n)(i5:n<=sizeLine)(kx:d.params.defaults=[])(hr:d9 k callerA)
 (hY:∀(w:World)(h:Heap),YP w h->(K w.params).In h)
 (F:∀(w:World)(mg:Str->Ω)(fa:Addr)(h:Heap),(K w.params).In h->h.Ns mainGlobals mg->mg d.name=some (.ref fa) ->
   ∃fd:FuncData,(∀(s:Shared)(u:Value),BindsTo s fd ⟨[u],[]⟩ [(x,u)]) /\
    ∀base:Heap,(K w.params).In base->base.Ns mainGlobals mg->fL l.prog w (K w.params) mg base (CX w) k fa fd [x] (sp w))
 (eR:∀(w:World)(H:Hp)(a:Addr)(ns:xy),ns.length<=n->Only H->SqL (K w.params) H a (ns.map V.int)->sp w [.ref a] H (λv _=>v=.bl true) λ_ _ _=>False)
 (o6:∀(w:World)(H:Hp)(s:Shared)(e:Value)(s':Shared),CX w [] H s (λ_ _ _=>False) e s'->False) :
  PySem.W.WalkO q loose XP YP l.row.toRowW d [] (λf vs=>PySem.call f vs):=by
 refine Att.Uh hn kx λw s₀ s₁ mg mb fa o pm cd bP a vs ns G Y ho hd aI gX ib fw a8 hg=>?_;have KX:=hY w _ Y;obtain⟨fd,hb,hF⟩:=F w mg fa _ KX G.T.g gX;exact acv KX G.T.g G.T.b G.T.builtins G.T.nolimit hg ib fw (aL a8 i5) hr hF hb (λH hO hS=>eR w H a ns a8 hO hS) λH e s'=>o6 w H s₁ e s'
end L2

namespace L2
open PySem PySem.Spec PyProof.Rows
abbrev CX0:CXT:=λ_ _ _ _ _ _=>False
abbrev E0:XK:=λ_ _ _=>False
def O9{X:Cx} : Passes CX0 X E0:=λ_ _ _ _ _ _ _ h=>h.elim
structure Fun(K:Frag)(x ag:Str)(st:Stmt)(f:Addr)(fd:FuncData):Prop where
 ex:∃(oc:Value)(od:Ξ)(kV bP pm:Value)(an:Ξ)(ah ct:Value)(dt:Array (Ω)),
  fd=PySem.W.fnOf x ag (jM st) (fD st) (bG st) .none kV bP pm an ah ct/\K.lookup f=some ⟨oc,od,.func fd,dt⟩/\codeIn K ah ag=true
 kp:keepIn K (.ref f)=true
variable{P:Program}{w:World}{K:Frag}{mg:Str->Ω}{base:Heap}{x ag:Str}{st:Stmt}{f:Addr}{fd:FuncData}{N ps:Φ}{sp:Sp}{oc:Value}{dt:Array (Ω)}{A:Around}
def Fun.ok{k:Nat}(F:Fun K x ag st f fd)(S:bK N ps (bG st))(len:∀vs H Q E,sp vs H Q E->vs.length=ps.length)
 (a9:∀(ah:Value)(A:Around)(outer:xm)(s:Shared)(H:Hp)(vs:Ζ)(Q:VK)(E:XK),d9 k (A.deeper (envOfC ag (bG st) s.heap.objs.size f ah))->sp vs H Q E ->
   ∃t,PSs (Cy CX0 P w K mg base N ag (bG st) f ah A outer s H E).nox (fD st) t/\t { nx:=λ_ H'=>Q .non H',rt:=Q } (start N vs) H):fL P w K mg base CX0 (k+1) f fd ps sp:=by
 obtain⟨oc,od,kV,bP,pm,an,ah,ct,dt,rfl,lk,aI⟩:=F.ex;refine agP lk aI S len λA outer s H vs Q E hr eR=>?_;obtain⟨t,h,q⟩:=a9 ah A outer s H vs Q E hr eR;exact⟨t,h.nox,q⟩
def ab2{od an:Ξ}{kV bP pm ah ct:Value}(l:K.lookup f=some ⟨oc,od,.func (PySem.W.fnOf x ag (jM st) (fD st) (bG st) .none kV bP pm an ah ct),dt⟩)
 (c:codeIn K ah ag=true)(k:keepIn K (.ref f)=true):Fun K x ag st f (PySem.W.fnOf x ag (jM st) (fD st) (bG st) .none kV bP pm an ah ct):=⟨⟨oc,od,kV,bP,pm,an,ah,ct,dt,rfl,l,c⟩,k⟩
def Ag{k:Nat}(hr:d9 k A):A.units+1<cLine:=Y3 (Nat.add_le_add_left (by decide:1<=64) _) hr.units
def qX(sc:Scope)(x:Str):Bool:=(sc.names.lookup x).any λk=>k == .local || k == .cell || k == .free
def ahU{sc:Scope}(h:qX sc x=true):Vis sc x:=by
 unfold qX at h;unfold Vis;cases e:sc.names.lookup x with
 |none=>rw[e]at h;cases h
 |some k=>rw[e]at h;cases k<;>first|exact .inl rfl|exact .inr (.inl rfl)|exact .inr (.inr rfl)|cases h
variable{X:Cx}{pos:Pos}{H H':Hp}{a b:Addr}{xs:Ζ}{prog:Program}{E:Ε}{s:Shared}{Q:Unit->Shared->Prop}{b6 es:xz}{t:String}{e:Expr}{h:Heap}{fl:Value}{oe o:Obj}{vs:xh}
def pv(i:Nat)(hN:X.N[i]?=some x:=by rfl)(hv:qX X.env.scope x=true:=by rfl)(hd:qk x:=by decide)
 (aI:qo x:=by decide):PE X (.Name x pos) (aoh i):=aix hN (ahU hv) hd aI
def ao2{A B:Prop}(h:B):if false=true then A else B:=by
 rwa[ZZ bw]
def apd{A B:Prop}(h:A):if true=true then A else B:=by
 rwa[ZY rfl]
def Same(H H':Hp):Prop:=∀b o,H b=some o->H' b=some o
def Same.refl(H:Hp):Same H H:=λ_ _ h=>h
def Same.trans{H1 H2:Hp}(a:Same H H1)(b:Same H1 H2):Same H H2:=λc o h=>b c o (a c o h)
def Same.free(e:Same H H'){l:Addr}(h:H' l=Option.none):H l=Option.none:=by
 cases q:H l with
 |none=>rfl
 |some o =>
  rw[e l o q]at h;cases h
def Same.seq(e:Same H H')(h:SqL K H a xs):SqL K H' a xs:=by
 rcases h with(h|⟨o,h⟩)|h
 .exact .inl (.inl (e _ _ h))
 .exact .inl (.inr ⟨o,e _ _ h⟩)
 .exact .inr h
def Bd(i:Int):Prop:=i.natAbs<2^8000
def Bd.log2{i:Int}(h:Bd i):i.natAbs.log2<8000:=by
 by_cases h0:i.natAbs=0
 .rw[h0,Nat.log2_zero];exact Th _
 .exact(Nat.log2_lt h0).mpr h
def Bd.bits{i:Int}(h:Bd i):Builtin.Int.intBits i<=2^20:=by
 have e:(2:Nat)^20=1048576:=by decide
 have:=h.log2;unfold Builtin.Int.intBits;split
 .exact aZ _
 .lia
def PB:OpR X (binaryOp .Mult) (rI (λi j=>Bd i/\Bd j) λi j=>.int (i*j)):=opI λ_ _ _ _ _ _ _ hc q=>mul_int q (.of_bits hc.1.bits hc.2.bits)
def acW:OpR X (binaryOp .FloorDiv) (rI (λ_ j=>j≠0/\Bd j) λi j=>.int (i.fdiv j)):=opI λ_ _ _ _ _ _ _ hc q=>floordiv_int hc.1 q (.inl (PyProof.noPylong_of_log2 (by have:=hc.2.log2;exact U2 this wb)))
def UJ:jx X (.builtin "isinstance") (λxs H Q=>∃x c cv t b,xs=[x,c]/\((∃T,c=.ty T/\cv=Value.type T)\/∃C,c=.ref C/\cv=Value.ref C)/\Fo X.K H x t/\kitOne X.K t cv=some b/\Q (.bl b) H):=by
 intro aa s σ H xs us Q I r h;obtain⟨x,c,cv,t,b,rfl,rc,ty,e,q⟩:=h;obtain⟨u,v,rfl,ru,rv⟩:=r.two;have e2:v=cv:=by
  rcases rc with⟨T,rfl,rfl⟩|⟨T,rfl,rfl⟩
  .exact rv
  .exact rv
 subst e2;exact aaW I ru ty e λtk=>⟨.bl b,H,I.tok _,rfl,q⟩
def Ue:jx X (.builtin "sorted") (λxs H Q=>∃l ns,xs=[.ref l]/\SqL X.K H l (ns.map V.int)/\ns.length<64/\∀(ms:xy)p,H p=none->ms.Perm ns->ms.Pairwise (· <= ·)->Q (.ref p) (upd H p (.lst (ms.map V.int)))):=by
 intro aa s σ H xs us Q I r h;obtain⟨l,ns,rfl,hl,h64,q⟩:=h;obtain⟨u,rfl,ru⟩:=r.one;cases ru;obtain⟨its,rv,p,hz⟩:=I.list hl;have hI:=intsAre_of rv;have a8:its.length=ns.length:=by have:=rv.length;simpa using this.symm
 refine sorted_ints (vs:=its) p.isList hI (Y3 (WH a8) h64) λout ns' a1 a2 a3=>?_;obtain⟨e,he⟩:=sortedAll_at s.heap its out;have dA:H (s.heap.objs.size+1)=none:=I.hok.fresh (Xs _);refine⟨.ref _,_,I.laid (a:=s.heap.objs.size+1) (o:=.lst (ns'.map V.int)) (t':=s.toks) (λb u e=>sortedAll_old e) (Xs _) ?_,rfl,q ns' _ dA a2 a3⟩;refine⟨?_,out.toList,e,Ge a1,he⟩;rw[ak,a2.length_eq];rw[ak]at hz;exact hz
theorem Od{it t:Addr}{items:xh}(ic:t≠it):∀(n i:Nat)(s:Shared)(Q:Θ->Shared->Prop),s.heap.IsListIter it t i->PlainL s.heap t items->i+n<=items.size ->
  (∀h',h'.IsListIter it t (i+n)->Heap.SameBut it s.heap h'->Q ((items.toList.drop i).take n) { s with heap:=h' })->wpAny (model prog w) A (draw (.ref it) n) Q E s
 |0,i,s,Q,hit,_,_,hQ=>by
  show wpAny _ _ (pure []) Q E s;exact ZT (by simpa using hQ s.heap hit (Heap.SameBut.refl ..))
 |n+1,i,s,Q,hit,ht,hle,hQ=>by
  have eP:i<items.size:=by lia
  show wpAny _ _ (pyNext (.ref it) >>= _) Q E s;refine ZU (wpAny_pyNext_list_item hit ht.isList (x:=items[i]) (by simp[eP]) λh₁ ii ka=>?_);have mT:PlainL h₁ t items:=by
   obtain⟨o,k,e,r⟩:=ht;exact⟨o,k,(ka.2 t ic).trans e,r⟩
  refine ZU (wpAny_holding (Od ic n (i+1) _ _ ii mT wf λh₂ nV hs₂=>ZT ?_));have hd:items.toList.drop i=items[i]::items.toList.drop (i+1):=by simp[Zzz,eP]
  have:=hQ h₂ (by rwa[show i+(n+1)=i+1+n by lia]) (ka.trans hs₂);rw[hd,List.take_succ_cons]at this;exact this
def Gb{t:Addr}{items:xh}{Q:Θ->Shared->Prop}(hh:A.handled=none)(ht:PlainL s.heap t items)
 (hQ:∀h',Heap.ExtBut s.heap.objs.size s.heap h'->Q items.toList { s with heap:=h' }):wpAny (model prog w) A (unpackItems (.ref t) items.size none) Q E s:=by
 have eP:t≠s.heap.objs.size:=by obtain⟨o,_,ho,_⟩:=ht;exact aQ (aK ho)
 unfold unpackItems;refine ZU ?_
 .unfold notIterableAtAll;refine ZU (wpAny_specialOf ht.isList.typeIs slot_list_iter.lookup ?_);refine ZT ?_;simp only[XW,if_false];refine ZU (wpAny_holding (wpAny_pyIter_list ht.isList ?_));have ht0:PlainL (s.heap.push { cls:=.type "list_iterator",data:=.fields #[.ref t,.int 0 0] }) t items:=by
   obtain⟨o,k,e,r⟩:=ht;exact⟨o,k,aH _ e,r⟩
  refine ZU (wpAny_holding (Od eP items.size 0 _ _ ⟨_,aW _ rfl,rfl,rfl⟩ ht0 wf λh₁ ii ka=>?_));have iq:List.take items.size (List.drop 0 items.toList)=items.toList:=by
   rw[List.drop_zero];exact Zzt wp
  rw[iq];rw[ZZ wp];have mT:PlainL h₁ t items:=by
   obtain⟨o,k,e,r⟩:=ht0;exact⟨o,k,(ka.2 t eP).trans e,r⟩
  refine ZU (wpAny_holding (wpAny_pyNext_list_end hh ii mT.isList wp λh₂ he₂=>?_));simp only[Option.isSome_none,XW,if_false];refine ZT (hQ h₂ λb o hb e=>he₂ b o hb (ka.extBut b o hb (aH _ e)))
def DY{env:Env}{x1}{t:Addr}{items:xh}(hh:A.handled=none)(ht:PlainL s.heap t items)
 (hn:(assignEach b6 env).length=items.size)(kb:(assignEach b6 env).findIdx? (·.1)=none)
 (h:∀h',Heap.ExtBut s.heap.objs.size s.heap h'->wpAny (model prog w) A (assignInOrder ((assignEach b6 env).map (·.2)) items.toList) Q E { s with heap:=h' }) :
  wpAny (model prog w) A (assign (.Tuple b6 x1 pos) env (.ref t)) Q E s:=by
 rw[assign_Tuple];refine ZU (wpAny_standAt ?_);unfold unpack;rw[hn,kb];exact ZU (wpAny_holding (Gb hh ht h))
def anN(K:Frag)(n:Nat)(t:TGs):TG:=λv σ H Q=>∃a xs,v=.ref a/\SqL K H a xs/\xs.length=n/\t xs σ H Q
def afz{k:Nat}{t:TGs}{n:Nat}(hc:X.calm=true)(h:PGs X es t)
 (hn:(assignEach es X.env).length=n:=by rfl)(bv:zt X es:=by rfl):PG X (.Tuple es k pos) (anN X.K n t):=by
 intro aa s σ H v u Q I r hw;obtain⟨a,xs,e1,hq,hl,hw⟩:=hw;subst e1;cases r;obtain⟨its,rv,ht,hz⟩:=I.list hq;refine DY (I.ok.hd hc) ht (by simp[hn,<- hl,rv.length]) bv λh' hx=>?_;have I1:Inv X aa σ H { s with heap:=h' }:=I.kept (t':=s.toks) λb o e=>hx b o (aQ (aK e)) e;exact h aa _ σ H xs _ Q I1 (by simpa using rv) hw
def Same.upd{H:Hp}{p:Addr}{o:HO}(hp:H p=none):Same H (upd H p o):=λb u e=>by
 rw[bZ (k_ e hp)];exact e
def IxR.imp{r r':R2}(h:IxR X r)(i:∀x y H Q,r' x y H Q->r x y H Q):IxR X r':=by
 intro b pos aa s σ H x y v u Q I rx ry q hs;exact h _ _ _ _ _ _ _ _ _ _ _ I rx ry (i _ _ _ _ q) hs
def aor:R2:=λx y H Q=>∃p xs i v,x=.ref p/\y=.int i/\H p=some (.lst xs)/\atI xs i=some v/\Q v H
def ab3:IxR X aor:=rA.imp λx y H Q hP=>by obtain⟨p,xs,i,v,a,b,c,d⟩:=hP;exact⟨p,xs,i,v,a,b,.of c,d⟩
def jx.imp{f:Value}{r r':Ζ->Hp->VK->Prop}(h:jx X f r)(i:∀xs H Q,r' xs H Q->r xs H Q):jx X f r':=λaa s σ H xs us Q I rx q=>h aa s σ H xs us Q I rx (i _ _ _ q)
def tyS(H:Hp):V->Option String
 |.non=>some "NoneType"
 |.bl _=>some "bool"
 |.int _=>some "int"
 |.str _=>some "str"
 |.ref a=>match H a with
  |some (.lst _)=>some "list"
  |some (.tup _)=>some "tuple"
  |some (.dK _)=>some "dict"
  |_=>none
 |_=>none
def ahV{x:V}(h:tyS H x=some t):Fo K H x (.type t):=by
 cases x with
 |non=>cases h;exact .non
 |bl=>cases h;exact .bl _
 |int=>cases h;exact .int _
 |str=>cases h;exact .str _
 |byt=>cases h
 |flt=>cases h
 |ty=>cases h
 |ref a =>
  have h:(match H a with
   |some (.lst _)=>some "list"
   |some (.tup _)=>some "tuple"
   |some (.dK _)=>some "dict"
   |_=>none)=some t:=h
  split at h
  .cases h;exact .lst (by assumption)
  .cases h;exact .tup (by assumption)
  .cases h;exact .dK (by assumption)
  .cases h
def R3(t T:String):Bool:=(t==T) || (t=="bool" && T=="int")
def Yy{T:String}(ht:t∈["NoneType","bool","int","str","list","tuple","dict"])(hT:T∈["bool","int","str","list","tuple","dict"]):kitOne K (.type t) (.type T)=some (R3 t T):=by
 simp only[YU,Up,or_false]at ht hT;rcases ht with rfl|rfl|rfl|rfl|rfl|rfl|rfl<;>rcases hT with rfl|rfl|rfl|rfl|rfl|rfl<;>with_unfolding_all rfl
def ail{x:V}(h:tyS H x=some t):t∈["NoneType","bool","int","str","list","tuple","dict"]:=by
 cases x with
 |non=>cases h;decide
 |bl=>cases h;decide
 |int=>cases h;decide
 |str=>cases h;decide
 |byt=>cases h
 |flt=>cases h
 |ty=>cases h
 |ref a =>
  have h:(match H a with
   |some (.lst _)=>some "list"
   |some (.tup _)=>some "tuple"
   |some (.dK _)=>some "dict"
   |_=>none)=some t:=h
  split at h<;>cases h<;>decide
def ap6:Ζ->Hp->VK->Prop:=λxs H Q=>∃x T t,xs=[x,.ty T]/\T∈["bool","int","str","list","tuple","dict"]/\tyS H x=some t/\Q (.bl (R3 t T)) H
def zA:jx X (.builtin "isinstance") ap6:=UJ.imp λxs H Q hP=>by obtain⟨x,T,t,a,b,c,d⟩:=hP;exact⟨x,.ty T,.type T,.type t,_,a,.inl ⟨T,rfl,rfl⟩,ahV c,Yy (ail c) b,d⟩
def PG.imp{t t':TG}(h:PG X e t)(i:∀v σ H Q,t' v σ H Q->t v σ H Q):PG X e t':=λaa s σ H v u Q I r q=>h aa s σ H v u Q I r (i _ _ _ _ q)
def an5(n:Nat)(t:TGs):TG:=λv σ H Q=>∃a xs,v=.ref a/\H a=some (.tup xs)/\xs.length=n/\t xs σ H Q
def ae6{k:Nat}{t:TGs}{n:Nat}(hc:X.calm=true)(h:PGs X es t)(hn:(assignEach es X.env).length=n:=by rfl)(bv:zt X es:=by rfl):PG X (.Tuple es k pos) (an5 n t) :=
 (ady hc h hn bv).imp λv σ H Q hP=>by obtain⟨a,xs,e1,e2,e3⟩:=hP;exact⟨a,xs,e1,.of e2,e3⟩
def ak4:Ζ->Hp->VK->Prop:=λxs H Q=>∃l ns,xs=[.ref l]/\H l=some (.lst (ns.map V.int))/\ns.length<64/\∀(ms:xy)p,H p=none->ms.Perm ns->ms.Pairwise (· <= ·)->Q (.ref p) (upd H p (.lst (ms.map V.int)))
def aak:jx X (.builtin "sorted") ak4:=Ue.imp λxs H Q hP=>by obtain⟨l,ns,a,b,c⟩:=hP;exact⟨l,ns,a,.of b,c⟩
def OkF(P:Program)(w:World)(K:Frag)(mg:Str->Ω)(base:Heap)(k:Nat)(x:Str)(ps:Φ)(sp:Sp):Prop :=
 ∃f fd,fL P w K mg base CX0 k f fd ps sp/\Binds K fd ps []/\mg x=some (.ref f)/\keepIn K (.ref f)=true
def cH(K:Frag)(mg:Str->Ω)(x:Str)(st:Stmt)(ps:Φ):Prop :=
 ∃f fd,Fun K x x st f fd/\(∀us:Θ,us.length=ps.length->bindArgs fd ⟨us,[]⟩=pure (ps.zip us))/\mg x=some (.ref f)
def cH.ok{k:Nat}(h:cH K mg x st ps)
 (hf:∀f fd,Fun K x x st f fd->fL P w K mg base CX0 k f fd ps sp):OkF P w K mg base k x ps sp:=by
 obtain⟨f,fd,a,b,c⟩:=h;exact⟨f,fd,hf f fd a,.all b,c,a.kp⟩
def afC{od an:Ξ}{kV bP pm ah ct:Value}(X:K.In h)(G:h.Ns mainGlobals mg)
 (a:nsIn K mainGlobals x=some (some (.ref f)))(l:K.lookup f=some ⟨oc,od,.func (PySem.W.fnOf x x (jM st) (fD st) (bG st) .none kV bP pm an ah ct),dt⟩)
 (c:codeIn K ah x=true)(k:keepIn K (.ref f)=true)
 (hb:∀(kV bP pm:Value)(an:Ξ)(ah ct:Value)(us:Θ),us.length=ps.length->bindArgs (PySem.W.fnOf x x (jM st) (fD st) (bG st) .none kV bP pm an ah ct) ⟨us,[]⟩=pure (ps.zip us)):cH K mg x st ps :=
 ⟨f,_,ab2 l c k,hb kV bP pm an ah ct,mg_of X G a⟩
def Zd(K:Frag):Sp:=λvs H Q _=>∃(a:Addr)(ns:xy),vs=[.ref a]/\SqL K H a (ns.map V.int)/\ns.length<=63/\Only H/\∀H',Q (.bl true) H'
def aj6{l:PySem.W.OpenLaw}{k:Nat}{q:Program}{loose:Φ}{XP:(Str->Ω)->Heap->Prop}{YP:World->Heap->Prop}{d:DefRec}{K:Params->Frag}(hn:l.most=some 63)(kx:d.params.defaults=[])
 (hr:d9 k callerA)(hY:∀(w:World)(h:Heap),YP w h->(K w.params).In h)
 (F:∀(w:World)(mg:Str->Ω)(fa:Addr)(h:Heap),(K w.params).In h->h.Ns mainGlobals mg->mg d.name=some (.ref fa) ->
   ∃st,cH (K w.params) mg d.name st [x]/\∀(base:Heap)(f:Addr)(fd:FuncData),Fun (K w.params) d.name d.name st f fd->fL l.prog w (K w.params) mg base CX0 k f fd [x] (Zd (K w.params))) :
  PySem.W.WalkO q loose XP YP l.row.toRowW d [] (λf vs=>PySem.call f vs):=by
 refine L2.Y8 (n:=63) (k:=k) (x:=x) (CX:=λ_=>CX0) (sp:=λw=>Zd (K w.params)) hn wb kx hr hY (λw mg fa h KX G gX=>?_) (λ_ _ a ns hl hO hS=>⟨a,ns,rfl,hS,hl,hO,λ_=>rfl⟩) λ_ _ _ _ _ z=>z;obtain⟨st,⟨f,fd,hf,hb,hm⟩,ok⟩:=F w mg fa h KX G gX;rw[hm]at gX;have e:f=fa:=by injection gX with z;injection z
 subst e;exact⟨fd,λs u=>.of_eq (hb [u] rfl),λbase _ _=>ok base f fd hf⟩
section
variable{X:Cx}{p pos:Pos}{e:Expr}{es:xz}{t:TA}{x:Str}{k:Nat}{ps:Φ}{sp:Sp}
def Xv(sp:Sp)(t:TA):TE:=λσ H Q=>t σ H λvs H1=>sp vs H1 Q E0
def Ew(G:OkF X.prog X.w X.K X.mg X.base k x ps sp)(hr:d9 k X.A)(hg:Gl X x)(ha:PA X (e::es) t)(br:qk x:=by decide)
 (he:qr X e es:=by rfl)(hpl:qV X pos es:=by rfl):PE X (.Call (.Name x p) (e::es) [] pos) (Xv sp t):=by
 obtain⟨f,fd,F,b,hm,kp⟩:=G;intro aa s σ H Q I h;refine ae9 F hr hg hm kp b .nil O9 ha br he hpl aa s σ H Q I ?_;show t σ H λvs H1=>sp (vs++[]) H1 Q E0;simp only[List.append_nil];exact h
end
def ai7(a:Int):(if a<0 then -a else a)=((a.natAbs:Nat):Int):=by split<;>omega
def uG(a:Int){b:Int}(h:0<b):Int.fdiv a b=a/b:=Zzs a (XY h)
def TrD(h base:Heap)(e:Addr)(cls:Value)(d:Ξ)(fl:Value):Prop :=
 ∃oe vs T oT ts,h.get? e=some oe/\(oe.cls=cls/\oe.dict=d)/\oe.data=.fields vs/\vs[1]?=some (.ref T)/\base.get? T=none/\T≠e/\h.get? T=some oT/\oT.data=.fields ts/\ts[3]?=some fl
def v9(base:Heap)(l:xm)(e:Addr)(cls:Value)(d:Ξ)(fl:Value)(h:Heap):Prop :=
 base.StaysIn h/\base.get? e=none/\h.FunFrames base l/\TrD h base e cls d fl
def v9.first{l:xm}{e:Addr}{cls:Value}{d:Ξ}(x:v9 base l e cls d fl h):∃oe vs,h.get? e=some oe/\oe.cls=cls/\oe.dict=d/\oe.data=.fields vs :=
 by obtain⟨_,_,_,oe,vs,_,_,_,he,hc,hd,_⟩:=x;exact⟨oe,vs,he,hc.1,hc.2,hd⟩
section
variable{M:Model}{A:Around}{E:Ε}{s:Shared}{base:Heap}{env:Env}{outer l:xm}{L e:Addr}{cls:Value}{d:Ξ}{Q:Unit->Shared->Prop}
def Kw(o:Obj)(f:xh->xh):(Obj.mapFields f o).dict=o.dict:=by
 unfold Obj.mapFields;split<;>rfl
def adn{head:Value}{gp:Bool}(dA:A.frames=some (env::outer))(hl:s.heap.FunFrames base (env::outer))(hf:env.frame=some L)(he:s.heap.get? e=some oe)
 (fS:base.StaysIn s.heap)(f6:base.get? e=none)(hd:oe.data=.fields vs)(hsz:1<vs.size)(h:∀h',v9 base (env::outer) e oe.cls oe.dict (rawInt L) h'->s.heap.UpToSlots h'->Q () { s with heap:=h' }) :
  wpAny M A (do let a <- frameOf env;let pl <- entryPlaceOf L gp;let b <- EntryCells.newEntry head a .none (rawInt L) .none pl;setField (.ref e) 1 b) Q E s:=by
 have nofr:e∉(env::outer).filterMap (·.frame):=λz=>by
  obtain⟨_,o,ho,hnf⟩:=hl.mem z;rw[he]at ho;cases ho;exact hnf vs hd
 refine ZU (wpAny_frameOf_fun dA hl hf λg hg=>ZU (wpAny_entryPlaceOf λpl hpl=>?_));unfold EntryCells.newEntry newFields;refine ZU (wpAny_newObj_type ?_ (hpl.sizeOk5 _ _ _ _ _));have eg:g.get? e=some oe:=(hg.2.1 e nofr).trans he;have kg:base.StaysIn g:=λb o q=>(hg.2.1 b λz=>by rw[(hl.mem z).1]at q;cases q).trans (fS b o q);generalize db:({ cls:=.type "traceback",dict:=none,data:=.fields ([head,.ref L,.none,rawInt L,.none]++(if pl.isEmpty then List.replicate 6 Value.none else pl)).toArray } : Obj)=ot;have hZ:g.objs.size≠e:=UY (aK eg);have e2:(g.push ot).get? e=some oe:=aH _ eg;refine wpAny_setField e2 hd hsz (h _ ?_ ?_)
 all_goals
  have d3:=Obj.data_mapFields hd (·.setIfInBounds 1 (Value.ref g.objs.size));have e3:=Heap.get?_update_self (Obj.mapFields (·.setIfInBounds 1 (Value.ref g.objs.size))) e2 (Obj.isFreed_of_fields d3);have keep:∀b o,b≠e->g.get? b=some o->((g.push ot).update e (Obj.mapFields (·.setIfInBounds 1 (Value.ref g.objs.size)))).get? b=some o:=λb o nb q=>by
   rw[Heap.get?_update_other _ _ (Ne.symm nb)];exact aH _ q
  have nr:∀b o,s.heap.get? b=some o->(∀ws,o.data≠.fields ws)->b≠e:=λb o q nf z=>by
   rw[z,he]at q;cases q;exact nf vs hd
 .refine⟨λb o q=>keep b o (λz=>by rw[z,f6]at q;cases q) (kg b o q),f6,hl.of_keeps λb o q nf=>?_,?_⟩
  .obtain⟨sl,z⟩:=hg.2.2 b o q;exact⟨_,keep b _ (nr b o q nf) z,rfl⟩
  .refine⟨_,_,g.objs.size,ot,_,e3,⟨Obj.cls_mapFields _ _,Kw _ _⟩,d3,by simp[hsz],kg.fresh,hZ,?_,by rw[<- db],?_⟩
   .rw[Heap.get?_update_other _ _ (Ne.symm hZ)];exact aW g (by rw[<- db];rfl)
   .first|(simp;done)|(rcases hpl with rfl|⟨_,_,_,_,_,_,_,rfl⟩<;>simp)
 .intro b o q nf;obtain⟨sl,z⟩:=hg.2.2 b o q;exact⟨sl,keep b _ (nr b o q nf) z⟩
def XD(dA:A.frames=some (env::outer))(hl:s.heap.FunFrames base (env::outer))(hf:env.frame=some L)(he:s.heap.get? e=some oe)
 (fS:base.StaysIn s.heap)(f6:base.get? e=none)(hd:oe.data=.fields vs)(h1:vs[1]?=some .none)(h:∀h',v9 base (env::outer) e oe.cls oe.dict (rawInt L) h'->s.heap.UpToSlots h'->Q () { s with heap:=h' }) :
  wpAny M A (noteFrame (.ref e) env) Q E s:=by
 unfold noteFrame;simp only[hf];refine ZU (wpAny_field he hd h1 ?_);rw[ZZ wb];exact adn dA hl hf he fS f6 hd (Array.getElem?_eq_some_iff.mp h1).1 h
def Pb(dA:A.frames=some (env::outer))(hf:env.frame=some L)(x:v9 base (env::outer) e cls d .none s.heap)
 (h:∀h',v9 base (env::outer) e cls d (rawInt L) h'->s.heap.UpToSlots h'->Q () { s with heap:=h' }):wpAny M A (noteFrame (.ref e) env) Q E s:=by
 obtain⟨fS,f6,hl,oe,vs,T,oT,ts,he,⟨hc,hdd⟩,hd,h1,nT,hZ,hT,g4,h3⟩:=x;subst hc hdd;unfold noteFrame;simp only[hf];refine ZU (wpAny_field he hd h1 ?_);rw[ZY (show(Value.ref T != Value.none)=true from by simp)];refine ZU (wpAny_field hT g4 h3 ?_);rw[ZZ (show ¬((Value.none==rawInt L)=true)from by simp[rawInt])];refine ZU (wpAny_setField hT g4 (Array.getElem?_eq_some_iff.mp h3).1 ?_);have b9:∀b,b≠T->(s.heap.update T (Obj.mapFields (·.setIfInBounds 3 Value.none))).get? b=s.heap.get? b:=λb hb=>Heap.get?_update_other _ _ (Ne.symm hb);have nr:∀b o,s.heap.get? b=some o->(∀ws,o.data≠.fields ws)->b≠T:=λb o q nf z=>by
  rw[z,hT]at q;cases q;exact nf ts g4
 refine adn (s:={ s with heap:=_ }) dA (hl.of_keeps λb o q nf=>⟨o,(b9 b (nr b o q nf)).trans q,rfl⟩) hf ((b9 e (Ne.symm hZ)).trans he)
  (λb o q=>(b9 b λz=>by rw[z,nT]at q;cases q).trans (fS b o q)) f6 hd (Array.getElem?_eq_some_iff.mp h1).1 λh' y up=>h h' y λb o q nf=>up b o ((b9 b (nr b o q nf)).trans q) nf
def Zc(x:v9 base l e cls d fl s.heap)(h:∀h',v9 base l e cls d .none h'->s.heap.UpToSlots h'->Q () { s with heap:=h' }):wpAny M A (setFlight (.ref e) none) Q E s:=by
 obtain⟨fS,f6,hl,oe,vs,T,oT,ts,he,hc,hd,h1,nT,hZ,hT,g4,h3⟩:=x;have z3:3<ts.size:=(Array.getElem?_eq_some_iff.mp h3).1;have b9:∀b,b≠T->(s.heap.update T (Obj.mapFields (·.setIfInBounds 3 ((none:Ξ).elim Value.none λf=>rawInt f)))).get? b=s.heap.get? b:=λb hb=>Heap.get?_update_other _ _ (Ne.symm hb);have nr:∀b o,s.heap.get? b=some o->(∀ws,o.data≠.fields ws)->b≠T:=λb o q nf z=>by
  rw[z,hT]at q;cases q;exact nf ts g4
 unfold setFlight;refine ZU (wpAny_field he hd h1 ?_);rw[ZY (show(Value.ref T != Value.none)=true from by simp)];refine wpAny_setField hT g4 z3 (h _ ⟨λb o q=>(b9 b λz=>by rw[z,nT]at q;cases q).trans (fS b o q),f6,hl.of_keeps λb o q nf=>⟨o,(b9 b (nr b o q nf)).trans q,rfl⟩,?_⟩ λb o q nf=>⟨o.slots,(b9 b (nr b o q nf)).trans q⟩);exact⟨oe,vs,T,_,_,(b9 e (Ne.symm hZ)).trans he,hc,hd,h1,nT,hZ,Heap.get?_update_self _ hT (Obj.isFreed_of_fields (Obj.data_mapFields g4 _)),Obj.data_mapFields g4 _,by simp[z3]⟩
def v9.pop(x:v9 base (env::outer) e cls d fl h):v9 base outer e cls d fl h:=⟨x.1,x.2.1,x.2.2.1.2.2,x.2.2.2⟩
def acB(dA:A.frames=some (env::outer))(hf:env.frame=some L)(x:v9 base (env::outer) e cls d .none s.heap)
 (h:∀h',v9 base outer e cls d .none h'->s.heap.UpToSlots h'->Q () { s with heap:=h' }):wpAny M A (leaving env (.ref e)) Q E s:=by
 unfold leaving;exact ZU (Pb dA hf x λh1 y up=>Zc y λh2 z lv=>h h2 z.pop (up.trans lv))
def aaA{h0:Heap}(dA:A.frames=some (env::outer))(hf:env.frame=some L)(fS:base.StaysIn h0)(hl:h0.FunFrames base (env::outer))(gN:∀b o,h0.get? b=some o->s.heap.get? b=some o)
 (new:h0.get? e=none)(he:s.heap.get? e=some oe)(hd:oe.data=.fields vs)(h1:vs[1]?=some .none)
 (h:∀h',v9 base outer e oe.cls oe.dict .none h'->s.heap.UpToSlots h'->Q () { s with heap:=h' }):wpAny M A (leaving env (.ref e)) Q E s:=by
 have f6:base.get? e=none:=by
  cases q:base.get? e with
  |none=>rfl
  |some o=>have:=fS e o q;rw[new]at this;cases this
 unfold leaving;exact ZU (XD dA (hl.of_keeps λb o q _=>⟨o,gN b o q,rfl⟩) hf he (λb o q=>gN b o (fS b o q)) f6 hd h1 λh1 y up=>Zc y λh2 z lv=>h h2 z.pop (up.trans lv))
end
def fK.there{o:HO}(x:fK P w H h a o):∃ob,h.get? a=some ob:=by
 cases o with
 |lst xs=>obtain⟨_,_,_,_,e⟩:=x;exact⟨_,e⟩
 |tup xs=>obtain⟨_,_,_,o,e,_⟩:=x;exact⟨_,e⟩
 |dK kvs=>obtain⟨_,_,_,_,o,_,_,e,_⟩:=x;exact⟨_,e⟩
 |set S n=>obtain⟨o,_,_,_,e,_⟩:=x;exact⟨_,e⟩
 |ins C dx fs=>obtain⟨_,_,_,e,_⟩:=x;exact⟨_,e⟩
 |own y=>exact x
 |xd fs=>obtain⟨_,⟨_,_,_,e,_⟩,_⟩:=x;exact⟨_,e⟩
 |rng lo hi=>obtain⟨_,_,_,e⟩:=x;exact⟨_,e⟩
 |frz ob u=>obtain⟨e,_⟩:=x;exact⟨_,e⟩
 |tbl ps=>exact⟨_,(show h.get? a=some _ from x)⟩
 |met f y=>exact⟨_,(show h.get? a=some _ from x)⟩
 |ext φ=>obtain⟨_,e,_⟩:=x;exact e
structure Fly(P:Program)(w:World)(l:xm)(H:Hp)(s:Shared)(a:Addr)(C:Value)(H':Hp)(s':Shared)(B:Heap)(d:Ξ):Prop where
 os:s'.os=s.os
 bare:AllBare s'.gens
 new:s.heap.get? a=none
 un:Un (frs l) [] H H' s.heap s'.heap
 hok:HOk P w H' s'.heap
 frf:∀b∈frs l,H' b=none
 fl:v9 B l a C d .none s'.heap
 cov:∀b o,s'.heap.get? b=some o->b∉frs l->((∃u,s.heap.get? b=some u)\/∃u,H' b=some u)->B.get? b=some o
section
variable{P:Program}{w:World}{l:xm}{H H':Hp}{s s':Shared}{a:Addr}{C:Value}{B:Heap}{d:Ξ}{h':Heap}
def Fly.trk(F:Fly P w l H s a C H' s' B d){u:HO}(e:H' b=some u)(q:s'.heap.get? b=some o):B.get? b=some o :=
 F.cov b o q (λz=>by rw[F.frf b z]at e;cases e) (.inr ⟨u,e⟩)
def Fly.hok'(F:Fly P w l H s a C H' s' B d)(k:∀b o,B.get? b=some o->h'.get? b=some o):HOk P w H' h':=λb u e =>
 (F.hok b u e).stay (λc v hc q=>k c v (by
  rcases hc with z|z
  .subst z;exact F.trk e q
  .exact F.trk z q)) (λ_ q=>q) λ_ _ q=>q
def Fly.un'(F:Fly P w l H s a C H' s' B d)(k:∀b o,B.get? b=some o->h'.get? b=some o)(up:s'.heap.UpToSlots h'):Un (frs l) [] H H' s.heap h':=by
 have nf:∀b∈frs l,∀o,s'.heap.get? b=some o->∀vs,o.data≠.fields vs:=λb hb o e=>by
  obtain⟨_,o',e',d⟩:=F.fl.2.2.1.mem hb;rw[e]at e';cases e';exact d
 refine⟨λb o q n hb hx=>k b o (F.cov b o (F.un.keep b o q n hb hx) hb (.inl ⟨o,q⟩)),λb o q n hb hx=>?_,F.un.free,λb o q hx=>?_,F.un.tups,F.un.frzs,F.un.tbls⟩
 .obtain⟨sl,e⟩:=F.un.slot b o q n hb hx;obtain⟨jn,e'⟩:=up b _ e (nf b hb _ e);exact⟨jn,e'⟩
 .obtain⟨o',e⟩:=F.un.there b o q hx;by_cases hb:b∈frs l
  .obtain⟨jn,e'⟩:=up b _ e (nf b hb _ e);exact⟨_,e'⟩
  .exact⟨o',k b o' (F.cov b o' e hb (.inl ⟨o,q⟩))⟩
end
section
variable{X:Cx}{aa:Δ}{σ:List xD}{H H':Hp}{s s':Shared}{a:Addr}{C:Value}{B:Heap}{d:Ξ}{h':Heap}
def Inv.flown(I:Inv X aa σ H s)(F:Fly X.prog X.w X.stack H s a C H' s' B d)(k:∀b o,B.get? b=some o->h'.get? b=some o)(up:s'.heap.UpToSlots h'):Inv X aa σ H' { s' with heap:=h' } :=
 I.call' (s':={ s' with heap:=h' }) (ch:=[]) F.os (F.un' k up) (F.hok' k) F.bare λ_ z=>nomatch z
def Inv.old(I:Inv X aa σ H s)(hx:X.ex=[])(e:X.s₀.heap.get? b=some o):(∃u,s.heap.get? b=some u)/\b≠X.env.locals:=by
 obtain⟨u,q⟩:=I.base.there b o e (by rw[hx];simp);exact⟨⟨u,q⟩,aQ (aR (aK e) I.ok.above)⟩
def Inv.nostk(I:Inv X aa σ H s)(h1:b≠X.env.locals)(h2:b∉X.fs):b∉frs X.stack:=λz=>by
 rcases YU.mp (I.stkSub b z)with e|e
 .exact h1 e
 .exact h2 e
def Inv.flyOut(I:Inv X aa σ H s)(hx:X.ex=[])(F:Fly X.prog X.w X.stack H s a C H' s' B d)(fl:v9 B X.outer a C d .none h')(up:s'.heap.UpToSlots h') :
  Fly X.prog X.w X.outer X.H₀ X.s₀ a C H' { s' with heap:=h' } B d:=by
 have J:=I.flown F fl.1 up;refine⟨J.os,J.bare,?_,by have:=J.base;rw[hx]at this;exact this,J.hok,λb hb=>?_,fl,λb o e hb hc=>?_⟩
 .cases q:X.s₀.heap.get? a with
  |none=>rfl
  |some o =>
   obtain⟨⟨u,z⟩,_⟩:=I.old hx q;rw[F.new]at z;cases z
 .obtain⟨_,o,ho,_⟩:=I.ok.funs.mem hb;exact J.base.free b o ho (I.ok.frf b hb) λz=>I.ok.exfs b z hb
 .rcases hc with⟨u,q⟩|⟨u,q⟩
  .obtain⟨⟨v,z⟩,n⟩:=I.old hx q;obtain⟨o',e'⟩:=F.un.there b v z wp;have y:=F.cov b o' e' (I.nostk n hb) (.inl ⟨v,z⟩);have e2:=fl.1 b o' y;rw[show({ s' with heap:=h' } : Shared).heap.get? b=h'.get? b from rfl,e2]at e;cases e;exact y
  .obtain⟨o',e'⟩:=(F.hok b u q).there;have y:=F.trk q e';have e2:=fl.1 b o' y;rw[show({ s' with heap:=h' } : Shared).heap.get? b=h'.get? b from rfl,e2]at e;cases e;exact y
end
def CXO(P:Program)(w:World):CXT:=λl H s E e s'=>∃a C d H' B,e=.ref a/\Fly P w l H s a C H' s' B d/\E C d H'
def af4(X:Cx)(Ex:Value->Ξ->L2.St->Hp->Prop):Prop :=
 ∀aa σ H s a C H' s' B d,Inv X aa σ H s->Fly X.prog X.w X.stack H s a C H' s' B d->Ex C d σ H'->X.xe (.ref a) s'
variable{E:XK}{scope:Scope}{cd:Value}{outer:xm}{C:Addr}
def agd:af4 (Cy (CXO P w) P w K mg base N ag scope f cd A outer s H E) (λC d _ H'=>E C d H'):=by
 intro aa σ H1 s1 a C H' s' B d I F q;show wpAny _ _ (leaving _ (.ref a)) _ _ _;refine acB (outer:=outer) I.ok.frames rfl F.fl λh' fl up=>?_;exact⟨a,C,d,H',B,rfl,I.flyOut rfl F fl up,q⟩
def Fun.okX{k:Nat}(F:Fun K x ag st f fd)(S:bK N ps (bG st))(len:∀vs H Q E,sp vs H Q E->vs.length=ps.length)
 (a9:∀(ah:Value)(A:Around)(outer:xm)(s:Shared)(H:Hp)(vs:Ζ)(Q:VK)(E:XK),d9 k (A.deeper (envOfC ag (bG st) s.heap.objs.size f ah))->sp vs H Q E ->
   ∃t,PSs (Cy (CXO P w) P w K mg base N ag (bG st) f ah A outer s H E) (fD st) t/\t { nx:=λ_ H'=>Q .non H',rt:=Q } (L2.start N vs) H):fL P w K mg base (CXO P w) (k+1) f fd ps sp:=by
 obtain⟨oc,od,kV,bP,pm,an,ah,ct,dt,rfl,lk,aI⟩:=F.ex;exact agP lk aI S len λA outer s H vs Q E hr eR=>a9 ah A outer s H vs Q E hr eR
def OkX(P:Program)(w:World)(K:Frag)(mg:Str->Ω)(base:Heap)(k:Nat)(x:Str)(ps:Φ)(sp:Sp):Prop :=
 ∃f fd,fL P w K mg base (CXO P w) k f fd ps sp/\Binds K fd ps []/\mg x=some (.ref f)/\keepIn K (.ref f)=true
def cH.okX{k:Nat}(h:cH K mg x st ps)
 (hf:∀f fd,Fun K x x st f fd->fL P w K mg base (CXO P w) k f fd ps sp):OkX P w K mg base k x ps sp:=by
 obtain⟨f,fd,a,b,c⟩:=h;exact⟨f,fd,hf f fd a,.all b,c,a.kp⟩
section
variable{X:Cx}{p pos:Pos}{e:Expr}{es:xz}{t:TA}{x:Str}{k:Nat}{ps:Φ}{sp:Sp}{Ex:Value->Ξ->L2.St->Hp->Prop}
def ajy(sp:Sp)(Ex:Value->Ξ->L2.St->Hp->Prop)(t:TA):TE:=λσ H Q=>t σ H λvs H1=>sp vs H1 Q λC d H'=>Ex C d σ H'
def Ua(G:OkX X.prog X.w X.K X.mg X.base k x ps sp)(hr:d9 k X.A)(hg:Gl X x)(hx:af4 X Ex)(ha:PA X (e::es) t)(br:qk x:=by decide)
 (he:qr X e es:=by rfl)(hpl:qV X pos es:=by rfl):PE X (.Call (.Name x p) (e::es) [] pos) (ajy sp Ex t):=by
 obtain⟨f,fd,F,hb,hm,kp⟩:=G;intro aa s σ H Q I h;refine wpAny_Call_Name_kw (rK I hg hm ?_ br);refine callWith_K (h₀:=X.base) I.ok.mod.kin kp (thn (ha pos aa s σ H _ I h) λus s1 ⟨vs,H1,I1,r,q⟩=>⟨I1.kIn,?_⟩) he hpl;have hl:us.length=ps.length:=by rw[<- r.length];exact F.len _ _ _ _ q
 have ck:=hb s1 us I1.kIn (by simpa using hl);simp only[List.append_nil]at ck;refine wpAny_call (codeAny_mono (F.run X.A X.stack s1 H1 ⟨us,[]⟩ us vs Q _ hr I1.env0 ck r q) λr s' hq=>?_);cases r with
 |error e =>
  obtain⟨a,C,d,H',B,rfl,Fl,q'⟩:=hq;exact hx aa σ H1 s1 a C H' s' B d I1 Fl q'
 |ok fl =>
  cases fl with
  |ret u=>exact I1.after hq
  |next=>exact False.elim hq
  |brk=>exact False.elim hq
  |cont=>exact False.elim hq
end
abbrev bmV:Θ:=[.type "ValueError",.type "Exception",.type "BaseException",.type "object"]
def air(K:Frag)(C:Addr):Prop:=excIn K C bmV "ValueError.__new__"=true
def aeM(X:K.In h)(q:air K C):∃bm N nm qn bs gi sn sub ab col dd k0 k1 k2 k3 k5 mN,h.get? C=some (excClassObj nm qn C N bs bm gi sn sub ab col dd k0 k1 k2 k3 k5 "ValueError.__new__") /\
  h.Ns N mN/\mN "__init__"=none/\OwnTail h bmV bm:=by
 unfold air excIn at q;split at q
 .rename_i dd cd sl ho
  split at q
  .rename_i C' bm k0 k1 k2 k3 n k5 hm hs
   simp only[QP,beq_iff_eq,Bool.not_eq_true']at q;obtain⟨⟨⟨⟨⟨rfl,rfl⟩,ky⟩,ht⟩,hok⟩,hni⟩:=q;obtain⟨nm,bs,mro,ns,qn,hd,sn,sub,ab,col,del⟩:=cd;dsimp only at hm ky hok hni;subst hm ky;have hsl:sl = #[k0,k1,k2,k3,some (.builtin "ValueError.__new__"),k5]:=by
    obtain⟨l⟩:=sl;simp only at hs;rw[hs]
   subst hsl;exact⟨bm,ns,nm,qn,bs,hd,sn,sub,ab,col,dd,k0,k1,k2,k3,k5,_,X _ _ ho,.of_isNs (isNs_of_in X hok),PySem.W.nsMap_none_of_in X hok hni,PySem.W.tail_of_in X ht⟩
  .cases q
 .cases q
abbrev Cx.tryc(X:Cx)(pn:Δ)(E:Ε):Cx:={ X with pn:=pn,xe:=E }
abbrev Cx.marked(X:Cx)(a:Addr)(E:Ε):Cx:={ X with A:=X.A.mark (some (.ref a)),calm:=false,xe:=E }
variable{E:Ε}{pn aa dq:Δ}{σ:L2.St}{i t:Nat}{n Dn:Str}{M:Model}{d:Drawn}{g:xE}{os:OsState}{D:Addr}{nh np ai af:Pos}{bE gx:xn}{b₀:Stmt}{tb:(Value->Ξ->L2.St->Hp->Prop)->TS}{th:TS}{to te:TE}{tg be iter:Expr}{v:V}{tc:TT}{wi:TI}{ext:Addr->xp}{fn:Str->Bool}{az:xz}{gt:TG}
def Cx.Ok.tryc(ok:X.Ok):(X.tryc pn E).Ok:=⟨ok.mod,ok.kind,ok.glob,ok.blt,ok.above,ok.inj,ok.has,ok.cab,ok.hd,ok.frames,ok.stk,ok.exf,ok.bs,ok.bsz,ok.noex,ok.exfs,ok.funs,ok.frf⟩
def Cx.Ok.untry(ok:(X.tryc pn E).Ok):X.Ok:=⟨ok.mod,ok.kind,ok.glob,ok.blt,ok.above,ok.inj,ok.has,ok.cab,ok.hd,ok.frames,ok.stk,ok.exf,ok.bs,ok.bsz,ok.noex,ok.exfs,ok.funs,ok.frf⟩
def Inv.tryc(I:Inv X aa σ H s):Inv (X.tryc (X.pn++aa) E) [] σ H s:=⟨I.ok.tryc,I.os,I.bare,I.base,I.loc,I.cell,I.free,I.freeC,λp hp=>I.pin p (by simpa using hp),I.hok,I.len⟩
def Inv.untry(I:Inv (X.tryc (X.pn++aa) E) dq σ H s):Inv X aa σ H s:=⟨I.ok.untry,I.os,I.bare,I.base,I.loc,I.cell,I.free,I.freeC,λp hp=>I.pin p (UH _ hp),I.hok,I.len⟩
def Cx.Ok.marked(ok:X.Ok):(X.marked a E).Ok:=⟨ok.mod,ok.kind,ok.glob,ok.blt,ok.above,ok.inj,ok.has,ok.cab,λz=>(nomatch z),ok.frames,ok.stk,ok.exf,ok.bs,ok.bsz,ok.noex,ok.exfs,ok.funs,ok.frf⟩
def Inv.marked(I:Inv X aa σ H s):Inv (X.marked a E) aa σ H s:=⟨I.ok.marked,I.os,I.bare,I.base,I.loc,I.cell,I.free,I.freeC,I.pin,I.hok,I.len⟩
def Inv.unmarked(ok:X.Ok)(I:Inv (X.marked a E) aa σ H s):Inv X aa σ H s:=⟨ok,I.os,I.bare,I.base,I.loc,I.cell,I.free,I.freeC,I.pin,I.hok,I.len⟩
def Inv.track{o:HO}(I:Inv X aa σ H s)(hn:H a=none)(ha:X.s₀.heap.get? a=none)(hL:a≠X.env.locals)(hC:∀x c,X.env.cells.lookup x=some c->c≠a)(hp:∀p∈X.pn++aa,p.1≠a)
 (ok:fK X.prog X.w (upd H a o) s.heap a o):Inv X aa σ (upd H a o) s:=by
 have ne:∀b u,H b=some u->b≠a:=λb u e=>k_ e hn;have ne0:∀b u,X.s₀.heap.get? b=some u->b≠a:=λb u e z=>by rw[z,ha]at e;cases e
 refine⟨I.ok,I.os,I.bare,⟨I.base.keep,I.base.slot,λb ob e n hx=>by rw[bZ (ne0 b ob e)];exact I.base.free b ob e n hx,I.base.there,λb xs e=>?_,λb ob u e=>?_,λb ps e=>?_⟩,I.loc,I.cell,by rw[bZ hL.symm];exact I.free,λx c e=>by rw[bZ (hC x c e)];exact I.freeC x c e,λp q=>?_,λb u e=>?_,I.len⟩
 .have z:=I.base.tups b xs e;rw[bZ (ne b _ z)];exact z
 .have z:=I.base.frzs b ob u e;rw[bZ (ne b _ z)];exact z
 .obtain⟨m,z⟩:=I.base.tbls b ps e;exact⟨m,by rw[bZ (ne b _ z)];exact z⟩
 .obtain⟨h1,h2,h3⟩:=I.pin p q;exact⟨h1,by rw[bZ (hp p q)];exact h2,h3⟩
 .by_cases z:b=a
  .subst z;rw[cj]at e;cases e;exact ok
  .rw[bZ z]at e;exact(I.hok b u e).stay (λ_ _ _ q=>q) (λc q=>by rw[bZ (ne c _ q)];exact q) λc xs q=>by rw[bZ (ne c _ q)];exact q
def Inv.unname(I:Inv X aa σ H s)(hN:X.N.Nodup)(hi:X.N[i]?=some n)(hk:X.env.scope.names.lookup n=some .local)
 (h:∀s',Inv X aa (σ.set i none) H s'->Q () s'):wpAny M A (do bindName X.env n .none;unbindBehindTheSuite X.env n pos) Q E s:=by
 obtain⟨m,hn,hl⟩:=id I.loc;have fx:(X.env.scope.kind == .class || (X.env.scope.kind == .module&&X.env.locals != X.env.globals))=false:=by rw[I.ok.kind];rfl
 have cne:=I.cne;have kU:i<σ.length:=by rw[I.len];exact(ao.mp hi).1
 refine wpAny_nameGoes_keeps hk hn fx λh' v nN hs=>?_;have hok:HOk X.prog X.w H h':=λb ob e=>(I.hok b ob e).stay (λc w' hc q=>(hs.2 c (by
  rintro rfl;rcases hc with rfl|hc
  .rw[I.free]at e;cases e
  .rw[I.free]at hc;cases hc)).trans q) (λ_ q=>q) λ_ _ q=>q
 refine h _ ⟨I.ok,I.os,I.bare,⟨λb o e n' hb hx=>?_,λb o e n' hb hx=>?_,I.base.free,λb o e hx=>?_,I.base.tups,I.base.frzs,I.base.tbls⟩,⟨_,nN,λj y v' e1 e2 e3=>?_⟩,λy c e=>?_,I.free,I.freeC,λp hp=>?_,hok,by simpa using I.len⟩
 .exact(hs.2 b (aQ (aR (aK e) I.ok.above))).trans (I.base.keep b o e n' hb hx)
 .obtain⟨sl,e1⟩:=I.base.slot b o e n' hb hx;exact⟨sl,(hs.2 b (aQ (aR (aK e) I.ok.above))).trans e1⟩
 .obtain⟨o',e1⟩:=I.base.there b o e hx;exact⟨o',(hs.2 b (aQ (aR (aK e) I.ok.above))).trans e1⟩
 .by_cases hj:j=i
  .subst hj;rw[UT kU]at e2;cases e2
  .rw[VQ (Ne.symm hj)]at e2;obtain⟨u',r',q⟩:=hl j y v' e1 e2 e3;refine⟨u',r',?_⟩;rcases q with⟨k,e⟩|⟨k,c,e,z⟩
   .refine .inl ⟨k,?_⟩;have:y≠n:=λe=>hj (Ju hN e1 (e ▸ hi));simp[this,e]
   .exact .inr ⟨k,c,e,z.sameBut hs (cne y c e)⟩
 .obtain⟨w',z⟩:=I.cell y c e;exact⟨w',z.sameBut hs (cne y c e)⟩
 .obtain⟨e,n',ne,nf,d⟩:=I.pin p hp;exact⟨(hs.2 p.1 ne).trans e,n',ne,nf,d⟩
def XO(a C:Addr)(d:Ξ):HO:=.ext λh=>∃o,h.get? a=some o/\o.cls=.ref C/\o.dict=d/\∃vs,o.data=.fields vs
def Wk{Q:Bool->Shared->Prop}{b:Bool}(X:K.In h)
 (qD:mroIn K D (.type "BaseException")=some true)(lI:typeIn K (.ref D)=some (.type "type"))(he:h.get? a=some oe)(hc:oe.cls=.ref C)(qS:mroIn K C (.ref D)=some b)
 (hq:Q b ⟨h,g,d,t,os⟩):wpAny M A (excMatches (.ref a) (.ref D)) Q E ⟨h,g,d,t,os⟩:=by
 have l1:PySem.W.Looks M h (isInstance (.ref D) (.type "tuple")) false:=(PySem.W.looks_typeIn X lI).andThen (PySem.W.Looks.of_pure tc_notTuple);have l2:PySem.W.Looks M h (isType (.ref D)) true:=by
  obtain⟨cdD,io,_⟩:=Option.bind_eq_some_iff.mp qD;unfold clsIn at io;split at io
  .rename_i c' d' cd' jn ho
   intro A' Q' E' s' k q;unfold isType loadHead;exact ZU (wpAny_loadPart (k _ _ (X _ _ ho)) (ZT q))
  .cases io
 have l3:PySem.W.Looks M h (isSubtype (.ref D) (.type "BaseException")) true:=looks_mroIn X qD;have l4:PySem.W.Looks M h (isSubtype (.ref C) (.ref D)) b:=looks_mroIn X qS;have l5:PySem.W.Looks M h (typeOf (.ref a)) (.ref C):=by
  intro A' Q' E' s' k q;rw[<- hc]at q;unfold typeOf;exact ZU (wpAny_loadPart (k _ _ he) (ZT q))
 unfold excMatches;refine ZU (l1.at ?_);simp only[XW,if_false];refine ZU (ZT ?_);simp only[List.forIn_cons,List.forIn_nil];unfold isExcClass;refine ZU (ZU (ZU (ZU (l2.at ?_))));simp only[if_true];refine l3.at ?_;simp only[Bool.not_true,XW,if_false];refine ZT (ZT (ZU (l5.at ?_)));refine ZU (ZU (ZU (l4.at ?_)));cases b with
 |true =>
  simp only[if_true];exact ZT (ZT (ZT hq))
 |false =>
  simp only[XW,if_false];exact ZT (ZT (ZT hq))
def Ends.unset(R:Ends)(i:Nat):Ends:={ nx:=λσ H=>R.nx (σ.set i none) H,rt:=R.rt,bk:=λσ H=>R.bk (σ.set i none) H,ct:=λσ H=>R.ct (σ.set i none) H }
def ajj(K:Frag)(D:Addr)(i:Nat)(tb:(Value->Ξ->L2.St->Hp->Prop)->TS)(th:TS):TS:=λR σ H =>
 ∃Ex:Value->Ξ->L2.St->Hp->Prop,tb Ex R σ H/\∀C' d σ' H',Ex C' d σ' H'->∃C,C'=.ref C/\mroIn K C (.ref D)=some true /\
  ∀a,H' a=none->th (R.unset i) (σ'.set i (some (.ref a))) (upd H' a (XO a C d))
def aev(hN:X.N.Nodup)(hi:X.N[i]?=some n)(g3:X.env.scope.names.lookup n=some .local)(hgD:Gl X Dn)(hmD:X.mg Dn=some (.ref D))(qD:mroIn X.K D (.type "BaseException")=some true)
 (lI:typeIn X.K (.ref D)=some (.type "type"))(bv:X.stack=X.env::X.outer)(dA:X.env.frame=some X.env.locals)(hex:X.ex=[])
 (hb:∀pn' E' Ex,af4 (X.tryc pn' E') Ex->PSs (X.tryc pn' E') bE (tb Ex))(hh:∀a E',PSs (X.marked a E') (b₀::gx) th)(br:qk Dn:=by decide) :
  PS X (.Try bE [.ExceptHandler (some (.Name Dn np)) (some n) (b₀::gx) nh] [] [] pos) (ajj X.K D i tb th):=by
 intro aa s σ H R I h;obtain⟨Ex,h1,h2⟩:=h;refine wpAny_Try_except ?_;have iE:∀{Y:Cx}{pn:Δ}{f:Flow}{s':Shared},(∀{σ':L2.St}{H':Hp},Inv Y pn σ' H' s'->Inv X aa σ' H' s')->SP Y pn R f s'->SP X aa R f s':=λ{Y pn f s'}k q=>by
  cases f with
  |next=>obtain⟨σ',H',J,z⟩:=q;exact⟨σ',H',k J,z⟩
  |brk=>obtain⟨σ',H',J,z⟩:=q;exact⟨σ',H',k J,z⟩
  |cont=>obtain⟨σ',H',J,z⟩:=q;exact⟨σ',H',k J,z⟩
  |ret u=>obtain⟨v,σ',H',J,z⟩:=q;exact⟨v,σ',H',k J,z⟩
 refine wpAny_mono (hb (X.pn++aa) _ Ex ?_ [] s σ H R I.tryc h1) (λf s1 q=>?_) λ_ _ z=>z
 rotate_left
 .have q':=iE (λJ=>J.untry) q;cases f with
  |next=>exact wpAny_execs_nil q'
  |brk=>exact q'
  |cont=>exact q'
  |ret u=>exact q'
 intro dq σ1 H1 s1 a C' H' s' B d J F ex;have J0:Inv X aa σ1 H1 s1:=J.untry;obtain⟨C,rfl,qS,k⟩:=h2 C' d σ1 H' ex;have F0:Fly X.prog X.w X.stack H1 s1 a (.ref C) H' s' B d:=F;have fl0:v9 B (X.env::X.outer) a (.ref C) d .none s'.heap:=by rw[<- bv];exact F0.fl
 show wpAny _ _ (noteFrame (.ref a) X.env) _ _ _;refine Pb (outer:=X.outer) (L:=X.env.locals) (I.ok.frames.trans (by rw[bv])) dA fl0 λh₄ ik sm₄=>?_;refine Zc ik λh₅ pi sm₅=>?_;have J5:Inv X aa σ1 H' { s' with heap:=h₅ }:=J0.flown F0 pi.1 (sm₄.trans sm₅);obtain⟨oe,vs,he,fx,_,hd⟩:=pi.first;refine wpAny_handleBy_cons (codeAny_handlers_test ?_) (by intro q;cases q);refine rK (X:=X.marked a (λ_ _=>False)) J5.marked hgD hmD ?_ br;refine Wk (K:=X.K) J5.kIn qD lI he fx qS ?_;show codeAny _ _ _ _ _;refine codeAny_handlers_suite_as ?_;refine Zc pi λh₆ fl₆ sm₆=>?_;have J6:Inv X aa σ1 H' { s' with heap:=h₆ }:=J0.flown F0 fl₆.1 ((sm₄.trans sm₅).trans sm₆);obtain⟨oe6,vs6,kX,kz,hda,oz⟩:=fl₆.first;have na:H' a=none:=by
  cases q:H' a with
  |none=>rfl
  |some u =>
   obtain⟨o',e'⟩:=(F0.hok a u q).there;have y:=F0.trk q e';rw[F0.fl.2.1]at y;cases y
 have ns:X.s₀.heap.get? a=none:=by
  cases q:X.s₀.heap.get? a with
  |none=>rfl
  |some o =>
   obtain⟨⟨u,z⟩,_⟩:=J0.old hex q;rw[F0.new]at z;cases z
 have nL:a≠X.env.locals:=λz=>by
  obtain⟨m,⟨o,es,ep,e,dd,_⟩,_⟩:=J6.loc;rw[<- z]at e;have e':h₆.get? a=some o:=e;rw[kX]at e';cases e';rw[oz]at dd;cases dd
 have nC:∀x c,X.env.cells.lookup x=some c->c≠a:=λx c e z=>by
  obtain⟨v,o,e',dd⟩:=J6.cell x c e;rw[z]at e';have e2:h₆.get? a=some o:=e';rw[kX]at e2;cases e2;rw[oz]at dd;cases dd
 have nP:∀p∈X.pn++aa,p.1≠a:=λp hp z=>by
  have:=(J0.pin p hp).1;rw[z,F0.new]at this;cases this
 have okx:fK X.prog X.w (upd H' a (XO a C d)) h₆ a (XO a C d):=⟨⟨oe6,kX,kz,hda,vs6,oz⟩,⟨oe6,kX⟩,λg1 g2 ⟨o,e1,e2⟩ kk=>⟨o,kk o e1,e2⟩⟩;have J7:Inv X aa σ1 (upd H' a (XO a C d)) { s' with heap:=h₆ }:=J6.track na ns nL nC nP okx;refine uD (X:=X.marked a (λ_ _=>False)) J7.marked hN hi (.inl g3) (v:=.ref a) rfl (λs8 J8=>?_) (.inr g3);have J8':Inv X aa (σ1.set i (some (.ref a))) (upd H' a (XO a C d)) s8:=J8.unmarked I.ok;refine wpAny_mono (hh a _ aa s8 _ _ _ J8'.marked (k a na)) (λf s9 q=>?_) λ_ _ z=>z;cases f with
 |next =>
  obtain⟨σ',H2,J9,z⟩:=q;exact(J9.unmarked I.ok).unname hN hi g3 λiN iF=>⟨_,_,iF,z⟩
 |brk =>
  obtain⟨σ',H2,J9,z⟩:=q;exact(J9.unmarked I.ok).unname hN hi g3 λiN iF=>⟨_,_,iF,z⟩
 |cont =>
  obtain⟨σ',H2,J9,z⟩:=q;exact(J9.unmarked I.ok).unname hN hi g3 λiN iF=>⟨_,_,iF,z⟩
 |ret u =>
  obtain⟨v,σ',H2,J9,rv,z⟩:=q;exact(J9.unmarked I.ok).unname hN hi g3 λiN iF=>⟨v,_,_,iF,rv,z⟩
structure aa4(K:Frag)(C:Addr):Prop where
 ga:findIn K (.ref C) "__getattribute__"=some (some (.builtin "BaseException.__getattribute__"))
 gn:findIn K (.ref C) "__getattr__"=some none
 cl:findIn K (.ref C) "__class__"=some (some (.builtin "object.__class__"))
 mo:mroIn K C (.type "object")=some true
 mb:mroIn K C (.type "BaseException")=some true
def D_(hx:h.get? a=some o)(hc:o.cls=.ref C):PySem.W.Looks M h (typeOf (.ref a)) (.ref C):=by
 intro A' Q' E' s' k q;rw[<- hc]at q;unfold typeOf;exact ZU (wpAny_loadPart (k _ _ hx) (ZT q))
def PK{gE:Value}(X:K.In h)(T:aa4 K C)(hx:h.get? a=some o)(hc:o.cls=.ref C)(hq:Q () ⟨h,g,d,t,os⟩) :
  wpAny M A (checkBuiltinCall "BaseException.__getattribute__" ⟨[.ref a,gE],[]⟩) Q E ⟨h,g,d,t,os⟩:=by
 have hk:builtinKind "BaseException.__getattribute__"=some .slot:=by decide +kernel
 have h9:splitId "BaseException.__getattribute__"=some ("BaseException","__getattribute__"):=by decide +kernel
 have ha:=F.args_bexc_ga (.ref a) gE;have LT:=D_ (M:=M) hx hc;have LB:=looks_mroIn (M:=M) X T.mb;simp only[checkBuiltinCall,hk,h9];refine ZU ?_;unfold isInstance
 repeat (first|with_reducible refine LT.at ?_|with_reducible refine LB.at ?_|(with_reducible refine wpAny_loadPart_at hx ?_;rw[hc])|wp_step)
 exact hq
def wj(cells:xp):xC->xp->xp
 |[],acc=>acc
 |(n,k)::r,acc=>wj cells r (if k == .free then(n,(cells.lookup n).getD 0)::acc else acc)
def WM{env:Env}(h:∀y∈scope.names,y.2=.free->∃c,env.cells.lookup y.1=some c):closureFor scope env=pure (wj env.cells scope.names []):=by
 unfold closureFor;have go:∀(l:xC)(acc:xp),(∀y∈l,y.2=.free->∃c,env.cells.lookup y.1=some c) ->
   (forIn l acc (λ(x:Str×NameKind)(r:xp)=>if(x.2==NameKind.free)=true then(do let a <- cellOf env x.1;pure (ForInStep.yield ((x.1,a)::r)))else pure (ForInStep.yield r)):Sem (xp))=pure (wj env.cells l acc):=by
  intro l
  induction l with
  |nil=>intro acc _;rfl
  |cons y r ih =>
   intro acc hy;obtain⟨n,k⟩:=y;rw[List.forIn_cons];by_cases hk:k=.free
   .subst hk;obtain⟨c,hc⟩:=hy (n,.free) aO rfl;have e1:cellOf env n=pure c:=by unfold cellOf;rw[show env.cells.lookup n=some c from hc]
    simp only[beq_self_eq_true,if_true,e1,pure_bind];rw[ih _ λz hz=>hy z (aJ _ hz)];show pure _=pure (wj env.cells r (if(NameKind.free==NameKind.free)=true then(n,(env.cells.lookup n).getD 0)::acc else acc));rw[show env.cells.lookup n=some c from hc]
    rfl
   .have hb:(k==NameKind.free)=false:=by simpa using hk
    simp only[hb,XW,if_false,pure_bind];rw[ih _ λz hz=>hy z (aJ _ hz)];show pure _=pure (wj env.cells r (if(k==NameKind.free)=true then(n,(env.cells.lookup n).getD 0)::acc else acc));rw[hb]
    rfl
 have e:=go scope.names [] h;show(forIn scope.names [] (λ(x:Str×NameKind)(r:xp)=>if(x.2==NameKind.free)=true then(do let a <- cellOf env x.1;pure (ForInStep.yield ((x.1,a)::r)))else pure (ForInStep.yield r)):Sem (xp)) >>= (λcs=>pure cs)=_;rw[e]
 rfl
theorem VB{cells:xp} : ∀{names:xC}{acc:xp}{x:Str}{c:Addr},(∀y∈names,y.2=.free->∃c,cells.lookup y.1=some c)->(x,c)∈wj cells names acc->(x,c)∈acc\/cells.lookup x=some c
 |[],_,_,_,_,h=>.inl h
 |(n,k)::r,acc,x,c,hf,h=>by
  unfold wj at h;rcases VB (λy hy=>hf y (aJ _ hy)) h with z|z
  .by_cases hk:k=.free
   .subst hk;simp only[beq_self_eq_true,if_true]at z;rcases YU.mp z with e|e
    .obtain⟨c',de⟩:=hf (n,.free) aO rfl;cases e;rw[show cells.lookup n=some c' from de];exact .inr rfl
    .exact .inl e
   .have hb:(k==NameKind.free)=false:=by simpa using hk
    simp only[hb,XW,if_false]at z;exact .inl z
  .exact .inr z
theorem UG{cells:xp} : ∀{names:xC}{acc:xp}{x:Str},((x,NameKind.free)∈names\/∃c,(x,c)∈acc)->∃c,(x,c)∈wj cells names acc
 |[],_,_,h=>by
  rcases h with h|h
  .cases h
  .exact h
 |(n,k)::r,acc,x,h=>by
  unfold wj;refine UG ?_;rcases h with h|⟨c,h⟩
  .rcases YU.mp h with e|e
   .cases e;exact .inr ⟨_,by simp only[beq_self_eq_true,if_true];exact aO⟩
   .exact .inl e
  .refine .inr ⟨c,?_⟩;split
   .exact aJ _ h
   .exact h
theorem p7{α:Type}{x:Str}{c:α} : ∀{l:List (Str×α)},(x,c)∈l->∃c',l.lookup x=some c'
 |(y,d)::r,h=>by
  rw[List.lookup_cons];cases hb:x==y with
  |true=>exact⟨d,rfl⟩
  |false =>
   rcases YU.mp h with e|e
   .cases e;simp at hb
   .exact p7 e
def Inv.nostk'(I:Inv X aa σ H s)(h1:b≠X.env.locals)(h2:b∉X.fs):b∉frs X.stack:=λz=>by
 rcases YU.mp (I.stkSub b z)with e|e
 .exact h1 e
 .exact h2 e
theorem DX{env:Env} : ∀{names:xC}{y:Str},(names.map λ(n,k)=>if(k==NameKind.free&&env.scope.kind == .function&&env.kindOf n==some .cell)then(n,NameKind.cell)else(n,k)).lookup y=some .cell \/
  (names.map λ(n,k)=>if(k==NameKind.free&&env.scope.kind == .function&&env.kindOf n==some .cell)then(n,NameKind.cell)else(n,k)).lookup y=some .free->(∀z∈names,z.2≠.cell)->(y,NameKind.free)∈names
 |[],y,h,_=>by rcases h with h|h<;>cases h
 |(n,k)::r,y,h,hc=>by
  have ih:=@DX env r y;simp only[List.map_cons]at h;by_cases hcond:(k==NameKind.free&&env.scope.kind == .function&&env.kindOf n==some .cell)=true
  .rw[ZY hcond]at h;simp only[List.lookup_cons]at h;cases hb:y==n with
   |true =>
    have hk:k=.free:=by
     simp only[QP,beq_iff_eq]at hcond;exact hcond.1.1
    have:y=n:=by simpa using hb
    subst this hk;exact aO
   |false =>
    rw[hb]at h;exact aJ _ (ih h λz hz=>hc z (aJ _ hz))
  .rw[ZZ hcond]at h;simp only[List.lookup_cons]at h;cases hb:y==n with
   |true =>
    rw[hb]at h;have:y=n:=by simpa using hb
    subst this;rcases h with h|h
    .exact absurd (Option.some.inj h) (hc (y,k) aO)
    .have:k=.free:=Option.some.inj h;subst this;exact aO
   |false =>
    rw[hb]at h;exact aJ _ (ih h λz hz=>hc z (aJ _ hz))
def eqF:Ζ->Ζ->Bool
 |[],[]=>true
 |x::xs,y::ys=>eqV x y&&eqF xs ys
 |_,_=>false
def Inv.tupIs(I:Inv X aa σ H s)(h:H a=some (.tup xs)):∃its,Vals xs its/\IsTup s.heap a its.toArray/\s.heap.IsTuple a its.toArray:=by
 obtain⟨its,rv,ht,_⟩:=I.tuple (SqT.of h);exact⟨its,rv,ht,ht⟩
def Inv.lstIs(I:Inv X aa σ H s)(h:H a=some (.lst xs)):∃its,Vals xs its/\s.heap.IsList a its.toArray:=by
 obtain⟨its,rv,ht,_⟩:=I.list (SqL.of h);exact⟨its,rv,ht.isList⟩
open PySem.SeqAt in
section
variable{X:Cx}
structure PSB(X:Cx)(st:Stmt)(t:TS):Prop where
 out:PS X st t
structure agD(X:Cx)(b:xn)(t:TS):Prop where
 out:PSs X b t
def ZW{rest:xn}{t u:TS}(h1:PSB X st t)(h2:agD X rest u):agD X (st::rest) (aaq t u):=⟨Ld h1.out h2.out⟩
end
def Fun.okB{k:Nat}(F:Fun K x ag st f fd)(S:bK N ps (bG st))(len:∀vs H Q E,sp vs H Q E->vs.length=ps.length)
 (a9:∀(ah:Value)(A:Around)(outer:xm)(s:Shared)(H:Hp)(vs:Ζ)(Q:VK)(E:XK),d9 k (A.deeper (envOfC ag (bG st) s.heap.objs.size f ah))->sp vs H Q E ->
   ∃t,agD (Cy CX0 P w K mg base N ag (bG st) f ah A outer s H E).nox (fD st) t/\t { nx:=λ_ H'=>Q .non H',rt:=Q } (L2.start N vs) H):fL P w K mg base CX0 (k+1) f fd ps sp :=
 F.ok S len λah A outer s H vs Q E hr eR=>let⟨t,h1,h2⟩:=a9 ah A outer s H vs Q E hr eR;⟨t,h1.out,h2⟩
mutual
inductive Shows(H:Hp):V->PyData->Prop
 |non:Shows H .non .none
 |bl (b:Bool):Shows H (.bl b) (.bool b)
 |int (i:Int):Shows H (.int i) (.int i)
 |str (x:Str):Shows H (.str x) (.str x)
 |lst {a:Addr}{xs:Ζ}{ds:xa} : H a=some (.lst xs)->f9 H xs ds->Shows H (.ref a) (.list ds)
 |tup {a:Addr}{xs:Ζ}{ds:xa} : H a=some (.tup xs)->f9 H xs ds->Shows H (.ref a) (.tuple ds)
inductive f9(H:Hp):Ζ->xa->Prop
 |nil:f9 H [] []
 |cons {x:V}{xs:Ζ}{d:PyData}{ds:xa} : Shows H x d->f9 H xs ds->f9 H (x::xs) (d::ds)
end
mutual
theorem Shows.same{H H':Hp}(S:Same H H'):∀{x:V}{d:PyData},Shows H x d->Shows H' x d
 |_,_,.non=>.non
 |_,_,.bl b=>.bl b
 |_,_,.int i=>.int i
 |_,_,.str x=>.str x
 |_,_,.lst e h=>.lst (S _ _ e) (f9.same S h)
 |_,_,.tup e h=>.tup (S _ _ e) (f9.same S h)
theorem f9.same{H H':Hp}(S:Same H H'):∀{xs:Ζ}{ds:xa},f9 H xs ds->f9 H' xs ds
 |_,_,.nil=>.nil
 |_,_,.cons h t=>.cons (Shows.same S h) (f9.same S t)
end
theorem f9.ints(H:Hp):∀ns:xy,f9 H (ns.map V.int) (ns.map PyData.int)
 |[]=>.nil
 |n::ns=>.cons (.int n) (f9.ints H ns)
mutual
theorem Inv.reads(I:Inv X aa σ H s):∀{x:V}{d:PyData}{v:Value},Shows H x d->RelV x v->∃as,Reads s.heap v d as
 |_,_,_,.non,r=>by cases r;exact⟨_,.none⟩
 |_,_,_,.bl b,r=>by cases r;exact⟨_,.bool b⟩
 |_,_,_,.int i,r=>by obtain⟨t,rfl⟩:=r;exact⟨_,.int i t⟩
 |_,_,_,.str x,r=>by obtain⟨t,rfl⟩:=r;exact⟨_,.str x t⟩
 |_,_,_,.lst e h,r=>by
  cases r;obtain⟨its,rv,⟨o,ho,hc,n,hd⟩⟩:=I.lstIs e;obtain⟨as,q⟩:=Inv.readsAll I h rv;exact⟨_,.list ho hc hd q⟩
 |_,_,_,.tup e h,r=>by
  cases r;obtain⟨its,rv,_,⟨o,ho,hc,n,hd⟩⟩:=I.tupIs e;obtain⟨as,q⟩:=Inv.readsAll I h rv;exact⟨_,.tuple ho hc hd q⟩
theorem Inv.readsAll(I:Inv X aa σ H s):∀{xs:Ζ}{ds:xa}{vs:Θ},f9 H xs ds->Vals xs vs->∃as,ReadsAll s.heap vs ds as
 |_,_,_,.nil,r=>by cases r;exact⟨_,.nil⟩
 |_,_,_,.cons h t,r=>by
  cases r with
  |cons r1 r2 =>
   obtain⟨a,q1⟩:=Inv.reads I h r1;obtain⟨b,q2⟩:=Inv.readsAll I t r2;exact⟨_,.cons q1 q2⟩
end
def alz:Ζ->Hp->VK->Prop:=λxs H Q=>∃(l:Addr)(ns:xy),xs=[.ref l]/\H l=some (.lst (ns.map V.int))/\Q (.int ns.sum) H
def aaw(hc:X.calm=true):jx X (.builtin "sum") alz:=by
 intro aa s σ H xs us Q I r h;obtain⟨l,ns,rfl,hl,q⟩:=h;obtain⟨u,rfl,ru⟩:=r.one;cases ru;obtain⟨its,rv,p⟩:=I.lstIs hl;have hI:=intsAre_of rv;obtain⟨xs,e⟩:=hI.allInts.items;have hn:=hI.numsOf;rw[show its=its.toArray.toList from rfl,e,nums_intItems]at hn;rw[e]at p;refine sum_intListG (I.ok.hd hc) p λh' tk t' k=>⟨.int ns.sum,H,I.kept k,?_,q⟩;rw[preSum_eq,Zzt wp,hn];exact⟨_,rfl⟩
def tM(t:TE):TE:=λσ H Q=>∃R:VK,t σ H R/\∀x H',R x H'->Q x H'
def tMA(t:TA):TA:=λσ H Q=>∃R:Ζ->Hp->Prop,t σ H R/\∀x H',R x H'->Q x H'
def PE.mono{a:Expr}{t:TE}(h:PE X a t):PE X a (tM t):=λaa s σ H Q I ⟨R,h1,h2⟩ =>
 thn (h aa s σ H R I h1) λv s' hP=>by obtain⟨x,H',I',r,q⟩:=hP;exact⟨x,H',I',r,h2 x H' q⟩
def PA.mono{t:TA}(h:PA X es t):PA X es (tMA t):=λpos aa s σ H Q I ⟨R,h1,h2⟩ =>
 thn (h pos aa s σ H R I h1) λv s' hP=>by obtain⟨x,H',I',r,q⟩:=hP;exact⟨x,H',I',r,h2 x H' q⟩
def PE.imp{a:Expr}{t t':TE}(h:PE X a t)(i:∀σ H Q,t' σ H Q->t σ H Q):PE X a t':=λaa s σ H Q I q=>h aa s σ H Q I (i σ H Q q)
def apT(to:TE)(t:TA):TE:=λσ H Q=>to σ H λx H1=>∃l xs,x=.ref l/\H1 l=some (.lst xs)/\t σ H1 λvs H2=>∃y ys,vs=[y]/\H2 l=some (.lst ys)/\ys.length<sizeLine/\Q .non (upd H2 l (.lst (ys++[y])))
abbrev qB(X:Cx)(a:Pos)(e:Expr):Prop:=((backTo a (starEach [e] X.env)).all (λx=>!x.1)&&(backToKw a (keywordEach [] X.env)).all (λx=>x.1.isSome)&&decide ([e].length+([] : xA).length+(if([] : xA).isEmpty then 0 else 1)<30))=true
def Yn{o:Expr}{t:TA}(ho:PE X o to)(ha:PA X [e] t)(hb:attributeBase o "append" X.env (eval o X.env)=eval o X.env:=by rfl)
 (hf:qB X af e:=by rfl)
 (hl:zh ai af:=by rfl)(hs:qr X e []:=by rfl)(hp:qV X af []:=by rfl) :
  PE X (.Call (.Attribute o "append" ai) [e] [] af) (apT to t):=by
 refine(abF PySem.F.plainAttrs_list PySem.F.slot_list_append PySem.F.type_list_append Oh ho.mono ha.mono hb hf hl hs hp).imp λσ H Q h=>?_;refine⟨_,h,?_⟩;rintro x H1 ⟨l,xs,rfl,hx,h2⟩;refine⟨.inl ⟨rfl,_,SqL.of hx⟩,_,h2,?_⟩;rintro vs H2 ⟨y,ys,rfl,hy,hz,q⟩;exact⟨l,ys,y,rfl,rfl,hy,hz,q⟩
def aiJ:Ζ->Hp->VK->Prop:=λxs H Q=>∃p ys,xs=[.ref p]/\H p=some (.lst ys)/\∀l,H l=none->Q (.ref l) (upd H l (.lst ys))
def Ym:jx X (.type "list") aiJ:=Qn.imp λxs H Q hP=>by obtain⟨p,ys,a,b,c⟩:=hP;exact⟨p,ys,a,.inl (.of b),c⟩
mutual
theorem Xi:∀ns:xy,PyData.canLayAll0 (ns.map PyData.int)=true
 |[]=>rfl
 |n::ns=>by
  rw[List.map_cons];unfold PyData.canLayAll0;rw[Xi ns];rfl
end
inductive FL(H:Hp):Ζ->Γ->Prop
 |nil:FL H [] []
 |cons {p:Addr}{f:Β}{xs:Ζ}{fs:Γ} : H p=some (.tup [.int f.1,.int f.2])->FL H xs fs->FL H (.ref p::xs) (f::fs)
def Its(x:Str):It:=⟨λi _=>i<x.cps.size,λi H v H'=>H'=H/\∃c,x.cps[i]?=some c/\v=.str ⟨#[c]⟩,λi _=>i=x.cps.size⟩
def Vs(it:Addr)(x:Str)(t:Tok)(ty:String)(h8 : ["enumerate","zip","dict_itemiterator","dict_reverseitemiterator","odict_iterator","itertools.zip_longest","itertools.pairwise"].contains ty=false)
 (W:∀A:Around,A.handled=none->Walks P w A it [it] [it] x.cps.size (SignAt x) (λi h=>h.IsStrIter it ty x t i))
 (kc:∀(A:Around)(i:Nat)(s:Shared)(Q:Ε)(E:Ε),s.heap.IsStrIter it ty x t i->Q (.ref it) s->wpAny (model P w) A (pyIter (.ref it)) Q E s):Turn P w K tg (Its x) [it] it (λi h=>h.IsStrIter it ty x t i) where
 mem:=by simp
 obj:=λi h st b hb=>by
  have e:b=it:=by simpa using hb
  subst e;obtain⟨o,ho,_,hd⟩:=st;exact⟨o,ho,λv z=>by rw[hd]at z;cases z⟩
 keep:=λi h h' st k=>let⟨o,ho,r⟩:=st;⟨o,k it wp o ho,r⟩
 item:=by
  intro X hP hw hK hc i aa s σ H E I hf st hg;subst hP hw hK;obtain⟨f0,f1,f2,f3,f4,f5⟩:=hf it wp;refine(W X.A (I.ok.hd hc)).item i s _ _ hg st λv h' tk hv dk kk=>?_;obtain⟨c,u,hx,rfl⟩:=hv;have I1:Inv X aa σ H { s with heap:=h',toks:=tk }:=I.turned (λb o hb e=>kk b o (by simpa using hb) e) f0 f1 f3 f4 f5;obtain⟨o,ho,im,hd⟩:=id dk;exact⟨_,rfl,Vb (s:={ s with heap:=h',toks:=tk }) ho im hd h8 ⟨.str ⟨#[c]⟩,H,I1,⟨u,rfl⟩,⟨rfl,c,hx,rfl⟩,dk,λb hb=>(hf b hb).1⟩⟩
 done:=by
  intro X hP hw hK hc i aa s σ H E I hf st hg;subst hP hw hK;obtain⟨f0,f1,f2,f3,f4,f5⟩:=hf it wp;have n5:i=x.cps.size:=hg;subst n5;exact(W X.A (I.ok.hd hc)).done s _ _ st λh' tk kk=>⟨rfl,I.turned (λb o hb e=>kk b o (by simpa using hb) e) f0 f1 f3 f4 f5⟩
 self:=kc
def apW(te:TE):TI:=λσ H R=>te σ H λv H1=>∃x,v=.str x/\R (Its x) H1
def aij{l:Expr}{tl:TE}(hl:PE X l tl):PI X tg l (apW tl):=by
 intro aa s σ H R I h;refine thn (hl aa s σ H _ I h) λv s1 hP=>?_;obtain⟨x,H1,I1,r1,y,ey,q⟩:=hP;subst ey;obtain⟨t,rfl⟩:=r1;have fp:∀b∈[s1.heap.objs.size],HX X aa H1 b:=λb hb=>by
  have e:b=s1.heap.objs.size:=by simpa using hb
  subst e;exact I1.fpOk (aG _) (I1.hok.fresh (aG _))
 have k:∀o:Obj,Inv X aa σ H1 { s1 with heap:=s1.heap.push o }:=λo=>I1.kept (t':=s1.toks) λb ob z=>aH _ z;cases ha:y.cps.all (· < 128)
 .exact wpAny_pyIter_wide ha ⟨s1.heap.objs.size,[s1.heap.objs.size],_,Its y,H1,rfl,k _,Vs _ y t "str_iterator" wb (λA hA=>Walks.strWide hA _ y t) (λA i s Q E st h=>wpAny_pyIter_striter_wide st h),⟨_,aW _ rfl,rfl,rfl⟩,fp,q⟩
 .exact wpAny_pyIter_ascii ha ⟨s1.heap.objs.size,[s1.heap.objs.size],_,Its y,H1,rfl,k _,Vs _ y t "str_ascii_iterator" wb (λA hA=>Walks.strAscii hA _ y t) (λA i s Q E st h=>wpAny_pyIter_striter_ascii st h),⟨_,aW _ rfl,rfl,rfl⟩,fp,q⟩
def Hw(x:Str)(lo hi:xb):Str:=⟨((x.cps.toList.drop (HT.sIx x.length 0 lo)).take (HT.sIx x.length x.length hi-HT.sIx x.length 0 lo)).toArray⟩
def strIdx(lo hi:xb)(n:Nat):Builtin.Str.strSliceIndices lo hi 1 n=(List.range (HT.sIx n n hi-HT.sIx n 0 lo)).map (HT.sIx n 0 lo + ·):=by
 rw[<- sliceRange_one];unfold Builtin.Str.strSliceIndices;have h1:∀(o:xb)(d:Nat),d<=n->(match o with
   |none=>(d:Int)
   |some i=>(let i:=if i<0 then i+(n:Int)else i;if(1:Int)>0 then max 0 (min i n)else max (-1) (min i (n-1))))=((HT.sIx n d o:Nat):Int):=by
  intro o d hd;cases o with
  |none=>rfl
  |some i =>
   simp only[HT.sIx,show(1:Int)>0 by decide,if_true];by_cases h:i<0
   .simp only[h,if_true]<;>lia
   .simp only[h,if_false]<;>lia
 have e1:=h1 lo 0 (aZ _);have e2:=h1 hi n (aG _);simp only[show(1:Int)>0 by decide,if_true]at e1 e2 ⊢;rw[<- e1,<- e2]
 rfl
def aeB(x:Str)(lo hi:xb):(⟨((Builtin.Str.strSliceIndices lo hi 1 x.length).filterMap (x.cps[·]?)).toArray⟩ : Str)=Hw x lo hi:=by
 rw[strIdx,pick_run];rfl
def WD(x:Str)(lo hi:xb)(h:(Builtin.Str.strSliceIndices lo hi 1 x.length).length=x.length):Hw x lo hi=x:=by
 rw[strIdx,ak,WP]at h;have h2:=HT.ahx x.length x.length (aG _) hi;unfold Hw;have hx:x.length=x.cps.size:=rfl;have e:x.cps.toList.length=x.length:=by simp[hx]
 by_cases z:x.length=0
 .have:x.cps.toList=[]:=List.length_eq_zero_iff.mp (Eq.trans e z);rw[this];obtain⟨⟨l⟩⟩:=x;simp at this;subst this;simp
 .have e0:HT.sIx x.length 0 lo=0:=by lia
  rw[e0,List.drop_zero,Zzt wf]
def aoQ:V->xb->xb->Hp->VK->Prop:=λx lo hi H Q=>∃y,x=.str y/\y.length<=sizeLine/\Q (.str (Hw y lo hi)) H
def part_of{v:Value}{o:xb}(h:IsPart v o):∃l:Option (Int×Tok),v=partValue l/\l.map (·.1)=o:=by
 cases h with
 |none=>exact⟨none,rfl,rfl⟩
 |int i t=>exact⟨some (i,t),rfl,rfl⟩
def aia{X:Cx} : SlR X aoQ:=by
 intro aa s σ H x v vl vu lo hi sl Q I rx hs pl pu h;obtain⟨y,rfl,hz,q⟩:=h;obtain⟨t,rfl⟩:=rx;obtain⟨l,rfl,el⟩:=part_of pl;obtain⟨u,rfl,eu⟩:=part_of pu;refine⟨"str",_,F.slot_str_getitem.lookup,typeIs_str s y t,wpAny_getItem_str_slice (l:=l) (u:=u) (st:=none) hs rfl ?_⟩;unfold sliceMade slicePicked;rw[el,eu];split
 .rename_i hw
  have fN:=(Bool.and_eq_true_iff.mp hw).2;rw[beq_iff_eq]at fN;have e:=WD y lo hi fN;rw[e]at q;exact⟨.str y,H,I,⟨t,rfl⟩,q⟩
 .have e:=aeB y lo hi;refine⟨?_,.str (Hw y lo hi),H,I.tok _,⟨s.toks,?_⟩,q⟩
  .refine aL ?_ hz;refine aL (WH (ZH Str.length e)) ?_;show((y.cps.toList.drop _).take _).toArray.size<=y.cps.size;rw[aX,aY,U1,Array.length_toList];lia
  .rw[<- e];rfl
def akc:R2:=λx y H Q=>∃i j,x=.str i/\y=.str j/\i.length+j.length<=sizeLine/\Q (.str (i++j)) H
def afP:OpR X (binaryOp .Add) akc:=XM
def apM:R2:=λx y H Q=>∃i j,x=.str i/\y=.str j/\Q (.bl (!decide (j.cps.toList<i.cps.toList))) H
def ahp:OpR X (compareOp .LtE) apM:=by
 intro aa s σ H x y v u Q I rx ry h;obtain⟨i,j,rfl,rfl,q⟩:=h;obtain⟨t,rfl⟩:=rx;obtain⟨t',rfl⟩:=ry;exact PySem.P.le_str (dH I q rfl)
def OpR.imp{f:Value->Value->Sem Value}{r r':R2}(h:OpR X f r)(i:∀x y H Q,r' x y H Q->r x y H Q):OpR X f r':=λaa s σ H x y v u Q I rx ry q=>h aa s σ H x y v u Q I rx ry (i _ _ _ _ q)
theorem Ot:∀{bs:List Bool}{us:Θ},Vals (bs.map V.bl) us->∀(i:Nat)(v:Value),us[i]?=some v->∃b,bs[i]?=some b/\v=.bool b
 |[],_,.nil,i,v,h=>by cases i<;>cases h
 |b::bs,_,.cons r t,0,v,h=>by
  rw[List.getElem?_cons_zero]at h;cases h;exact⟨b,rfl,r⟩
 |b::bs,_,.cons r t,i+1,v,h=>by
  rw[List.getElem?_cons_succ]at h;exact Ot t i v h
def alM:Ζ->Hp->VK->Prop:=λxs H Q=>∃(l:Addr)(bs:List Bool),xs=[.ref l]/\H l=some (.lst (bs.map V.bl))/\Q (.bl (bs.all id)) H
theorem vY:∀bs:List Bool,((List.range bs.length).all λi=>(bs[i]?).getD true)=bs.all id
 |[]=>rfl
 |b::bs=>by
  rw[List.length_cons,List.range_succ_eq_map,List.all_cons,List.all_map,List.all_cons];have:=vY bs;simp only[Function.comp_def,List.getElem?_cons_succ,List.getElem?_cons_zero,Option.getD_some,id]at this ⊢;rw[this]
def aaz(hc:X.calm=true):jx X (.builtin "all") alM:=by
 intro aa s σ H xs us Q I r h;obtain⟨l,bs,rfl,hl,q⟩:=h;obtain⟨u,rfl,ru⟩:=r.one;cases ru;obtain⟨its,rv,p⟩:=I.lstIs hl;have eP:l<s.heap.objs.size:=by obtain⟨_,e,_⟩:=p;exact aK e
 refine call_all_walk (wpAny_pyIter_list p ?_);refine⟨s.heap.objs.size,[s.heap.objs.size,l],[s.heap.objs.size],its.toArray.size,_,_,λi=>(bs[i]?).getD true,rfl,Walks.list (A:=X.A.in1) (I.ok.hd hc) _ l (aQ eP) its.toArray,
  ⟨⟨_,aW _ rfl,rfl,rfl⟩,p.push _⟩,λi v s' Q' E' hP hQ=>?_,λh' tk hk=>?_⟩
 .obtain⟨b,e,rfl⟩:=Ot rv i v (by simpa using hP);simp only[e,Option.getD_some]at hQ;exact wpAny_truthy_bool hQ
 .have e:((List.range its.toArray.size).all λi=>(bs[i]?).getD true)=bs.all id:=by
   rw[aX,<- rv.length,ak];exact vY bs
  refine⟨.bl (bs.all id),H,I.kept (t':=tk) λb o q=>hk b o (λhm=>?_) (aH _ q),?_,q⟩
  .rw[YR.mp hm]at q;exact X9 _ (aK q)
  .rw[e];rfl
def tSM(r:V->Ζ->Hp->VK->Prop)(to:TE)(t:TA):TE:=λσ H Q=>to σ H λx H1=>(∃y,x=.str y)/\t σ H1 λvs H2=>r x vs H2 Q
def anD{o:Expr}{t:TA}{name:Str}{id:String}{r:V->Ζ->Hp->VK->Prop}(slot:Slot "str" name id)(h8:typeOf (.builtin id)=pure (.type "method_descriptor"))(hm:MtM X id r)(ho:PE X o to)(ha:PA X [e] t)
 (hb:zw X o name:=by rfl)
 (hf:qB X af e:=by rfl)
 (hl:zh ai af:=by rfl)(hs:qr X e []:=by rfl)(hp:qV X af []:=by rfl) :
  PE X (.Call (.Attribute o name ai) [e] [] af) (tSM r to t):=by
 refine(abF PySem.F.plainAttrs_str slot h8 hm ho.mono ha hb hf hl hs hp).imp λσ H Q h=>?_;refine⟨_,h,?_⟩;rintro x H1 ⟨⟨y,rfl⟩,h2⟩;exact⟨rfl,h2⟩
def aeo(hg:Gl X x)(hm:∃u,X.mg x=some u/\RelV v u)(hd:qk x:=by decide):PE X (.Name x pos) (tC v):=by
 obtain⟨u,h1,h2⟩:=hm;exact Zn hg h1 h2 hd
def abP{t:TS}(h1:PSB X st t):agD X [st] t:=⟨zY h1.out⟩
def hid(y:Str):Str:=Str.ofString "?"++y
def O2(xs:Φ)(N:Φ):Φ:=N.map λy=>if y∈xs then hid y else y
def Cx.compG(X:Cx)(N':Φ)(scope:Scope)(xs:Φ)(C:Addr)(s₀:Shared)(H₀:Hp)(ex:Ψ)(pn:Δ):Cx :=
 { X with env:=compEnvC scope (wj X.env.cells scope.names []) C X.env,N:=xs++N',s₀:=s₀,H₀:=H₀,outer:=X.stack,ex:=ex,fn:=λ_=>false,pn:=pn,xe:=λ_ _=>False }
def PTs(X:Cx)(az:xz)(tc:TT):Prop:=∀(aa:Δ)(s:Shared)(σ:L2.St)(H:Hp)(Q:Bool->Hp->Prop),Inv X aa σ H s->tc σ H Q ->
 wpAny (model X.prog X.w) X.A (forIn az true λc r=>if r=true then do let ok <- isTrue c X.env (eval c X.env);pure (ForInStep.yield ok)else pure (ForInStep.yield r)) (λb s'=>∃H',Inv X aa σ H' s'/\Q b H') X.xe s
def ape:TT:=λ_ H Q=>Q true H
def ae8{X:Cx} : PTs X [] ape:=λ_ _ _ H _ I q=>wpAny_tests_nil ⟨H,I,q⟩
def afL{X:Cx}{c:Expr}(h:PT X c tc):PTs X [c] tc:=λaa s σ H Q I q=>wpAny_tests_one (h aa s σ H Q I q)
def rR(wi:TI)(n:Nat)(gt:TG)(tc:TT)(te:TE):TE:=λσ H Q=>wi σ H λJ H1=>∀D,H1 D=none->∃W:Nat->Nat->Ζ->Hp->Prop,(∃m,W 0 m [] (upd H1 D (.lst [])))/\∀i m ys Hc,W i m ys Hc ->
 (J.stop i Hc/\Q (.ref D) Hc)\/(J.go i Hc/\∀x H',J.yld i Hc x H'->∀pre:L2.St,pre.length=n->gt x (pre++σ) H' λσ2 H2=>∃b7:L2.St,b7.length=n/\σ2=b7++σ/\tc σ2 H2 λb H3 =>
  match b with
  |true=>te σ2 H3 λy H4=>ys.length<sizeLine/\H4 D=some (.lst ys)/\∃m',m'<m/\W (i+1) m' (ys++[y]) (upd H4 D (.lst (ys++[y])))
  |false=>∃m',m'<m/\W (i+1) m' ys H3)
def Cx.compE(X:Cx)(ext:Addr->xp)(fn:Str->Bool)(N':Φ)(scope:Scope)(xs:Φ)(C:Addr)(s₀:Shared)(H₀:Hp)(ex:Ψ)(pn:Δ):Cx :=
 { X with env:=compEnvC scope (ext C++wj X.env.cells scope.names []) C X.env,N:=xs++N',s₀:=s₀,H₀:=H₀,outer:=X.stack,ex:=ex,fn:=fn,pn:=pn,xe:=λ_ _=>False }
structure Vr(X:Cx)(scope:Scope)(xs:Φ)(ext:Addr->xp)(fn:Str->Bool):Prop where
 new:∀{M:Model}{A:Around}{E:Ε}{s:Shared}{globals:Addr}{bS:xp}{ag:Str}{outer:Env}{Q:Env->Shared->Prop},(∀g,g.Ns s.heap.objs.size (λx=>([] : xo).reverse.lookup x)->(∀y c,(ext s.heap.objs.size).lookup y=some c->g.IsCell c none)->(∀b o,s.heap.get? b=some o->g.get? b=some o)->Q (newEnv scope s.heap.objs.size globals (ext s.heap.objs.size++bS) ag none .none (some outer) builtinsNs) { s with heap:=g,toks:=s.toks+([] : xo).length }) ->
  wpAny M A (newFunctionEnv scope globals bS [] ag none .none (some outer)) Q E s
 up:∀C y c,(ext C).lookup y=some c->C<c
 one:∀C y z c,(ext C).lookup y=some c->(ext C).lookup z=some c->y=z
 nw:∀C y,fn y=true->∃c,(ext C).lookup y=some c
 off:∀C y,y∉xs->(ext C).lookup y=none
 kd:∀C y,((relabel scope X.env).names.lookup y=some .cell\/(relabel scope X.env).names.lookup y=some .free)->(∃c,(ext C).lookup y=some c)\/(y,NameKind.free)∈scope.names
def aj5{X:Cx}{xs:Φ}(hk:scope.kind=.function)(cK:∀y∈scope.names,y.2≠.cell):Vr X scope xs (λ_=>[]) (λ_=>false) :=
 ⟨λhQ=>wpAny_newFunctionEnv cK (by intro y hy;simp at hy) (λg eI hsb=>hQ g eI (λ_ _ z=>(nomatch z)) λb o e=>(hsb.2 b (aQ (aK e))).trans (aH _ e)) hk,λ_ _ _ z=>(nomatch z),λ_ _ _ _ z=>(nomatch z),λ_ _ z=>(nomatch z),λ_ _ _=>rfl,λ_ _ e=>.inr (DX e cK)⟩
def O1{use:Option (Value->Sem Unit)}{post:Ε}{Qv:VK}{pp:Pos}{xs N':Φ}(E:Vr X scope xs ext fn)(hc:X.calm=true)(gS:O2 xs X.N=N')(cf:scope.kind=.function)(cy:∀y∈scope.names,y.2=.local->scope.names.lookup y.1=some .local)
 (cc:∀y∈scope.names,y.2=.free->X.env.kindOf y.1=some .cell\/X.env.kindOf y.1=some .free)(fm:∀y∈X.N,y∉xs->(relabel scope X.env).names.lookup y≠some .local)(hq:∀y∈X.N,y∈xs->(relabel scope X.env).names.lookup (hid y)=none)(hi:PI X tg iter wi)
 (hg:∀C s₀ H₀ ex pn,PG (X.compE ext fn N' scope xs C s₀ H₀ ex pn) tg gt)(ht:∀C s₀ H₀ ex pn,PTs (X.compE ext fn N' scope xs C s₀ H₀ ex pn) az tc)(he:∀C s₀ H₀ ex pn,PE (X.compE ext fn N' scope xs C s₀ H₀ ex pn) be te)(hs:qA X iter)(I:Inv X aa σ H s)(h:rR wi xs.length gt tc te σ H Qv)
 (pV:∀(C D:Addr)(Hc:Hp)(s6:Shared)(m:Str->Ω)(fl:Flow),s6.heap.Ns C m->Inv X aa σ Hc s6->HX X aa Hc C->Qv (.ref D) Hc->compPost (model X.prog X.w) X.A X.xe use post (.ref D) C (.ok fl) s6) :
  wpAny (model X.prog X.w) X.A (comprehension (.ListComp be [⟨tg,iter,az,0⟩] scope pos) scope X.env pp (newList []) false (eval iter X.env) use) post X.xe s:=by
 have dA:∀y∈scope.names,y.2=.free->∃c,X.env.cells.lookup y.1=some c:=λy hy e=>I.ok.has y.1 (cc y hy e);refine wpAny_comprehension_free (use:=use) (Q:=post) rfl hs (WM dA) cf cy (thn (hi aa s σ H _ I h) λv s1 h1=>thn h1 λmI s2 h2=>?_);obtain⟨it,fp,tn,J,H2,e,I2,T,gy,f2,R⟩:=h2;subst e;have nD:H2 s2.heap.objs.size=none:=I2.hok.fresh (aG _);obtain⟨W,⟨m0,w0⟩,fc⟩:=R s2.heap.objs.size nD;refine wpAny_newObj_type ?_ (by show 0<=sizeLine;exact aZ _);have I3:Inv X aa σ (upd H2 s2.heap.objs.size (.lst [])) { s2 with heap:=s2.heap.push { cls:=.type "list",dict:=none,data:=.seq ([] : Θ).toArray } }:=I2.lnew (t':=s2.toks) (ys:=[]) (its:=[]) .nil (aZ _);have mi:∀b o,s2.heap.get? b=some o->(s2.heap.push { cls:=.type "list",dict:=none,data:=.seq ([] : Θ).toArray }).get? b=some o:=λb o e=>aH _ e;generalize hs3:({ s2 with heap:=s2.heap.push { cls:=.type "list",dict:=none,data:=.seq ([] : Θ).toArray } } : Shared)=s3 at I3 ⊢;have iL:tn 0 s3.heap:=T.keep _ _ _ gy λb _ o e=>by rw[<- hs3];exact mi b o e
 generalize hH3:upd H2 s2.heap.objs.size (.lst [])=H3 at I3 w0;have f3:∀b∈fp,HX X aa H3 b:=λb hb=>by
  obtain⟨a1,a2⟩:=f2 b hb;refine⟨?_,a2⟩;obtain⟨o,e,_⟩:=T.obj _ _ gy b hb;rwa[<- hH3,bZ (aQ (aK e))]
 refine E.new λg eI im kg=>?_;have clm:∀{y:Str}{c:Addr},(wj X.env.cells scope.names []).lookup y=some c->X.env.cells.lookup y=some c:=λ{y c}e=>by
  rcases VB dA (PySem.mem_of_lookup e)with z|z
  .cases z
  .exact z
 have gL:∀{y:Str},(ext s3.heap.objs.size).lookup y=none->((relabel scope X.env).names.lookup y=some .cell\/(relabel scope X.env).names.lookup y=some .free)->(X.env.kindOf y=some .cell\/X.env.kindOf y=some .free)/\∃c,(ext s3.heap.objs.size++wj X.env.cells scope.names []).lookup y=some c/\X.env.cells.lookup y=some c:=λ{y}ny e=>by
  rcases E.kd s3.heap.objs.size y e with⟨c,z⟩|z
  .rw[ny]at z;cases z
  .obtain⟨c,de⟩:=UG (cells:=X.env.cells) (acc:=[]) (.inl z);obtain⟨c,de⟩:=p7 de;exact⟨cc _ z rfl,c,by rw[List.lookup_append,ny];exact de,clm de⟩
 have kF:∀{y:Str}{c:Addr},(ext s3.heap.objs.size++wj X.env.cells scope.names []).lookup y=some c->(ext s3.heap.objs.size).lookup y=some c\/X.env.cells.lookup y=some c:=λ{y c}e=>by
  rw[List.lookup_append]at e;cases hy:(ext s3.heap.objs.size).lookup y with
  |some d=>rw[hy]at e;exact .inl e
  |none=>rw[hy]at e;exact .inr (clm e)
 have cll:∀{y z c},(ext s3.heap.objs.size).lookup z=some c->¬X.env.cells.lookup y=some c:=λ{y z c}e1 e=>by
  obtain⟨v,o,h1,_⟩:=I3.cell y c e;exact X9 _ (U2 (aK h1) (E.up _ _ _ e1))
 have my:∀b∈fp,b<s3.heap.objs.size:=λb hb=>by
  obtain⟨o,e,_⟩:=T.obj _ _ iL b hb;exact aK e
 have nst:∀b∈fp,b∉frs X.stack:=λb hb=>I3.nostk' (f3 b hb).2.1 (f3 b hb).2.2.1;have cfp:∀b∈fp,∀y c,(ext s3.heap.objs.size++wj X.env.cells scope.names []).lookup y=some c->c≠b:=λb hb y c e=>by
  rcases kF e with z|z
  .exact UY (U2 (my b hb) (E.up _ _ _ z))
  .exact(f3 b hb).2.2.2.2.1 y c z
 generalize hX:X.compE ext fn N' scope xs s3.heap.objs.size s3 H3 fp (X.pn++aa)=Y;have ok':Y.Ok:=by
  subst hX;exact⟨I3.ok.mod,cf,I3.ok.glob,I3.ok.blt,aG _,λy z c h1 h2=>by
    rcases kF h1 with e1|e1<;>rcases kF h2 with e2|e2
    .exact E.one _ _ _ _ e1 e2
    .exact absurd e2 (cll e1)
    .exact absurd e1 (cll e2)
    .exact I3.ok.inj y z c e1 e2,λy hy=>by
    cases hz:(ext s3.heap.objs.size).lookup y with
    |some c=>exact⟨c,List.lookup_append.trans (by rw[hz];rfl)⟩
    |none=>exact let⟨_,c,q,_⟩:=gL hz hy;⟨c,q⟩,λy c ku e=>by
    obtain⟨d,z⟩:=E.nw s3.heap.objs.size y ku;have e:(ext s3.heap.objs.size++wj X.env.cells scope.names []).lookup y=some c:=e;rw[List.lookup_append,z]at e;cases e;exact Y2 (E.up _ _ _ z),I3.ok.hd,I3.ok.frames,.inl rfl,
   λb hb=>⟨aQ (my b hb),cfp b hb⟩,I3.bs,aL I3.ok.bsz I3.sz,λb o e hb=>by
    rcases(f3 b hb).2.2.2.1 with z|z
    .exact I3.ok.noex b o e z
    .exact absurd (aR (aR (aK e) I3.ok.bsz) z) (X9 _),nst,I3.stack,I3.stkFree⟩
 have J4:∀tk,Inv Y [] (List.replicate xs.length none++σ) H3 { s3 with heap:=g,toks:=tk }:=λtk=>by
  subst hX;refine⟨ok',rfl,I3.bare,Un.kept kg,⟨_,eI,λi y v e1 e2 e3=>?_⟩,λy c e=>?_,I3.hok.fresh (aG _),λy c e=>(kF e).elim (λz=>I3.hok.fresh (Y2 (E.up _ _ _ z))) (I3.freeC y c),λp hp=>?_,I3.hok.kept kg,?_⟩
  .by_cases kr:i<xs.length
   .rw[aF (by rwa[aN]),X0,ZY kr]at e2;cases e2
   .obtain⟨j,rfl⟩ : ∃j,i=xs.length+j:=⟨i-xs.length,by lia⟩;have e0:N'[j]?=some y:=by
     have e1:(xs++N')[xs.length+j]?=some y:=e1;rw[aD (X2 _ _)]at e1;rw[show xs.length+j-xs.length=j by exact JU _ _]at e1;exact e1
    have k6:σ[j]?=some (some v):=by
     rw[aD (by rw[aN];exact X2 _ _),aN]at e2;rw[show xs.length+j-xs.length=j by exact JU _ _]at e2;exact e2
    rw[<- gS]at e0;obtain⟨y0,gu,ey⟩ : ∃y0,X.N[j]?=some y0/\(if y0∈xs then hid y0 else y0)=y:=by
     unfold O2 at e0;rw[aq]at e0;cases hz:X.N[j]? with
     |none=>rw[hz]at e0;cases e0
     |some y0=>rw[hz]at e0;exact⟨y0,rfl,Option.some.inj e0⟩
    have e3:(relabel scope X.env).names.lookup y=some .local\/(relabel scope X.env).names.lookup y=some .cell\/(relabel scope X.env).names.lookup y=some .free:=e3;have ne:¬y0∈xs:=λz=>by
     rw[ZY z]at ey;subst ey;rw[hq y0 (aC gu) z]at e3;rcases e3 with z|z|z<;>cases z
    rw[ZZ ne]at ey;subst ey;have e3':(relabel scope X.env).names.lookup y0=some .cell\/(relabel scope X.env).names.lookup y0=some .free:=by
     rcases e3 with z|z
     .exact absurd z (fm y0 (aC gu) ne)
     .exact z
    obtain⟨kd,c,im,k4⟩:=gL (E.off _ _ ne) e3';obtain⟨m,_,hl⟩:=I3.loc;obtain⟨u,r,lk⟩:=hl j y0 v gu k6 (.inr kd);refine⟨u,r,.inr ⟨e3',c,im,?_⟩⟩;rcases lk with⟨k1,_⟩|⟨_,c',q1,o,q2,q3⟩
    .exfalso;have k1':X.env.kindOf y0=some .local:=k1;rcases kd with k2|k2<;>rw[k1']at k2<;>cases k2
    .rw[k4]at q1;cases q1;exact⟨o,kg _ _ q2,q3⟩
  .rcases kF e with z|z
   .exact⟨none,im y c z⟩
   .obtain⟨v,o,q2,q3⟩:=I3.cell y c z;exact⟨v,o,kg _ _ q2,q3⟩
  .have di:p∈X.pn++aa:=by simpa[Cx.compE]using hp
   obtain⟨a1,a2,a3,a4,a5⟩:=I3.pin p di;exact⟨kg _ _ a1,a2,aQ (aK a1),I3.nostk' a3 a4,a5⟩
  .show(List.replicate xs.length none++σ).length=(xs++N').length;have g3:N'.length=X.N.length:=by rw[<- gS];unfold O2;rw[ak]
   rw[aA,aN,aA,I3.len,g3]
 have ph:∀{Hc:Hp},(∀b∈fp,Hc b=none)->∀b∈fp,HX Y [] Hc b:=λ{Hc}hn b hb=>by
  subst hX;exact⟨hn b hb,aQ (my b hb),nst b hb,.inl hb,cfp b hb,λp hp=>(f3 b hb).2.2.2.2.2 p (by simpa[Cx.compE]using hp)⟩
 have h7:∀s4:Shared,s4={ s3 with heap:=g,toks:=s3.toks+([] : xo).length } ->
   codeAny (model X.prog X.w) X.A (.compLoop (.ListComp be [⟨tg,iter,az,0⟩] scope pos) 0 (.ref it) (.ref s2.heap.objs.size) Y.env) (compPost (model X.prog X.w) X.A X.xe use post (.ref s2.heap.objs.size) s3.heap.objs.size) s4:=by
  rintro s4 rfl;have YP:Y.prog=X.prog/\Y.w=X.w/\Y.K=X.K/\Y.calm=X.calm/\Y.A=X.A/\Y.env.locals=s3.heap.objs.size:=by subst hX;exact⟨rfl,rfl,rfl,rfl,rfl,rfl⟩
  obtain⟨y1,y2,y3,y4,y5,y6⟩:=YP;have he':PE Y be te:=by subst hX;exact he _ _ _ _ _
  have n5:PG Y tg gt:=by subst hX;exact hg _ _ _ _ _
  have ht':PTs Y az tc:=by subst hX;exact ht _ _ _ _ _
  have kG:Y.xe=λ_ _=>False:=by subst hX;rfl
  have yb:∀{Hc:Hp}{w':L2.St}{pn:Δ}{s':Shared},Inv Y pn w' Hc s'->Un (frs X.stack) fp H3 Hc s3.heap s'.heap:=λ{Hc w' pn s'}Z=>by
   have:=Z.base;subst hX;exact this
  have yos:∀{Hc:Hp}{w':L2.St}{pn:Δ}{s':Shared},Inv Y pn w' Hc s'->s'.os=s3.os:=λ{Hc w' pn s'}Z=>by
   have:=Z.os;subst hX;exact this
  refine codeAny_loop rfl (λn s'=>∃i ys Hc,∃w':L2.St,w'.length=xs.length/\Inv Y [] (w'++σ) Hc s'/\tn i s'.heap/\(∀b∈fp,Hc b=none)/\W i n ys Hc) (λn s5 hI=>?_) m0 ⟨0,[],H3,List.replicate xs.length none,aN,J4 _,T.keep _ _ _ iL λb _ o e=>kg b o e,λb hb=>(f3 b hb).1,w0⟩;obtain⟨i,ys,Hc,w',fN,Z,stc,frc,wc⟩:=hI;show wpAny _ _ ((compTurn (.ListComp be [⟨tg,iter,az,0⟩] scope pos) 0 (.ref it) (.ref s2.heap.objs.size) Y.env).onRaise (λz=>do noteFrame z Y.env;theTreesLotGoes z)) _ _ s5;refine wpAny_noted (wpAny_noRaise ?_);rw[compTurn_list];show wpAny (model X.prog X.w) X.A _ _ _ _;rcases fc i n ys Hc wc with⟨stop,qn⟩|⟨go,step⟩
  .have hd:=T.done Y y1 y2 y3 (y4.trans hc) i [] s5 (w'++σ) Hc (λ_ _=>False) Z (ph frc) stc stop;rw[y5]at hd;refine ZU (wpAny_standAt (ZU (thn hd λr s6 hP=>?_)));obtain⟨hr,Z6⟩:=hP;subst hr;refine ZT ?_;obtain⟨m,kf,_⟩:=Z6.loc;rw[y6]at kf;have u6:=yb Z6;have hok:HOk X.prog X.w Hc s6.heap:=by
    have z:=Z6.hok;rw[y1,y2]at z;exact z
   have cn:Hc s3.heap.objs.size=none:=by
    have z:=Z6.free;rw[y6]at z;exact z
   have I6:Inv X aa σ Hc s6:=I3.call' (s':=s6) (ch:=fp) (yos Z6) u6 hok Z6.bare λb hb=>⟨(f3 b hb).2.2.2.1,(f3 b hb).2.1,(f3 b hb).2.2.2.2.1,(f3 b hb).2.2.2.2.2⟩;have fC:HX X aa Hc s3.heap.objs.size:=I3.fpOk (aG _) cn;exact pV _ _ Hc s6 m _ kf I6 fC qn
  .have hd:=T.item Y y1 y2 y3 (y4.trans hc) i [] s5 (w'++σ) Hc (λ_ _=>False) Z (ph frc) stc go;rw[y5]at hd;refine ZU (wpAny_standAt (ZU (thn hd λr s6 hP=>?_)));obtain⟨u,hr,h6⟩:=hP;subst hr;refine ZU (thn h6 λ_ s7 hP=>?_);obtain⟨xv,H7,Z7,r7,yl,lP,fr7⟩:=hP;have Z7':=Z7.pinned (ph fr7) (T.obj _ _ lP);have bv:=n5 _ s7 _ H7 xv u _ Z7' r7 (step xv H7 yl w' fN);rw[y1,y2,y5,kG]at bv;refine ZU (thn bv λ_ s8 hP=>?_);obtain⟨σ8,H8,Z8,pre,eL,e8,q8⟩:=hP;subst e8;have hte:=ht' _ s8 _ H8 _ Z8 q8;rw[y1,y2,y5,kG]at hte;have aE:∀{m':Nat}{i9:Ζ}{H9:Hp}{s9:Shared},Inv Y ([]++Ko fp s7.heap) (pre++σ) H9 s9->m'<n->W (i+1) m' i9 H9->∃m,m<n/\∃i ys Hc,∃w':L2.St,w'.length=xs.length/\Inv Y [] (w'++σ) Hc s9/\tn i s9.heap/\(∀b∈fp,Hc b=none)/\W i m ys Hc:=λ{m' i9 H9 s9}Z9 ki w9 =>
    ⟨m',ki,i+1,i9,H9,pre,eL,Z9.unpinned,T.keep _ _ _ lP λb hb o e=>(Z9.pin (b,o) (aP _ (aP _ (pR hb e)))).1,λb hb=>by
     obtain⟨o,e,_⟩:=T.obj _ _ lP b hb;exact(Z9.pin (b,o) (aP _ (aP _ (pR hb e)))).2.1,w9⟩
   refine ZU (thn hte λok s9 hP=>?_);obtain⟨H9,Z9,q9⟩:=hP;cases ok with
   |false =>
    obtain⟨m',ki,w9⟩:=q9;exact ZT ⟨rfl,aE Z9 ki w9⟩
   |true =>
    have hel:=he' _ s9 _ H9 _ Z9 q9;rw[y1,y2,y5,kG]at hel;refine ZU (ZU (thn hel λev iN hP=>?_));obtain⟨yv,H10,Z10,mh,hz,o1,m',ki,w10⟩:=hP;have o0:=Oh (X:=Y) _ iN _ H10 (.ref s2.heap.objs.size) [yv] (.ref s2.heap.objs.size) [ev] (λ_ Hf=>Hf=upd H10 s2.heap.objs.size (.lst (ys++[yv]))) Z10 rfl (.cons mh .nil) ⟨_,ys,yv,rfl,rfl,o1,hz,rfl⟩;rw[y1,y2,y5,kG]at o0;refine ZU (thn o0 λav s11 hP=>?_);obtain⟨_,H11,Z11,_,e11⟩:=hP;subst e11;exact ZT (ZT ⟨rfl,aE Z11 ki w10⟩)
 have om:Y.env=compEnvC scope (ext s3.heap.objs.size++wj X.env.cells scope.names []) s3.heap.objs.size X.env:=by subst hX;rfl
 rw[om]at h7;exact codeAny_compStart_list (h7 _ rfl) (T.self _ 0 _ _ _ (T.keep _ _ _ iL λb _ o e=>kg b o e) (h7 _ rfl))
def Wg{xs N':Φ}(E:Vr X scope xs ext fn)(hc:X.calm=true)(gS:O2 xs X.N=N')(cf:scope.kind=.function)(cy:∀y∈scope.names,y.2=.local->scope.names.lookup y.1=some .local)
 (cc:∀y∈scope.names,y.2=.free->X.env.kindOf y.1=some .cell\/X.env.kindOf y.1=some .free)(fm:∀y∈X.N,y∉xs->(relabel scope X.env).names.lookup y≠some .local)(hq:∀y∈X.N,y∈xs->(relabel scope X.env).names.lookup (hid y)=none)(hi:PI X tg iter wi)
 (hg:∀C s₀ H₀ ex pn,PG (X.compE ext fn N' scope xs C s₀ H₀ ex pn) tg gt)(ht:∀C s₀ H₀ ex pn,PTs (X.compE ext fn N' scope xs C s₀ H₀ ex pn) az tc)(he:∀C s₀ H₀ ex pn,PE (X.compE ext fn N' scope xs C s₀ H₀ ex pn) be te)(hs:qA X iter) :
  PE X (.ListComp be [⟨tg,iter,az,0⟩] scope pos) (rR wi xs.length gt tc te):=by
 intro aa s σ H Q I h;rw[eval_ListComp];exact O1 E hc gS cf cy cc fm hq hi hg ht he hs I h λC D Hc s6 m fl hn I6 fC q=>⟨m,hn,λh' m4=>⟨.ref D,Hc,I6.turned (it:=C) (h':=h') (t':=s6.toks) (λb o hb e=>(m4.2 b hb).trans e) fC.1 fC.2.1 fC.2.2.2.1 fC.2.2.2.2.1 fC.2.2.2.2.2,rfl,q⟩⟩
variable{o:xD}{u r:Value}{y:V}{kvs:xS}{σ:St}{h':Heap}{ar i:Expr}
section
variable{κ:Type}[DecidableEq κ]
def JM(kvs:List (κ×V))(k:κ):xD:=(kvs.find? λkv=>decide (kv.1=k)).map (·.2)
def putK(kvs:List (κ×V))(k:κ)(v:V):List (κ×V) :=
 if(kvs.any λkv=>decide (kv.1=k))=true then kvs.map (λkv=>if kv.1=k then(kv.1,v)else kv)else kvs++[(k,v)]
def V7{p:κ×V}{r:List (κ×V)}{k:κ}(e:p.1=k):JM (p::r) k=some p.2:=by simp[JM,List.find?_cons,e]
def Jo{p:κ×V}{r:List (κ×V)}{k:κ}(e:¬p.1=k):JM (p::r) k=JM r k:=by simp[JM,List.find?_cons,e]
def Wh(kvs:List (κ×V))(k:κ)(v:V):(putK kvs k v).length<=kvs.length+1:=by
 unfold putK;split
 .rw[ak];exact Xs _
 .rw[aA,List.length_cons,List.length_nil];exact aG _
def yU.isSome_eq{u:Ω}(r:yU o u):o.isSome=u.isSome:=by
 cases o with
 |none=>cases u with
  |none=>rfl
  |some _=>exact(show False from r).elim
 |some _=>cases u with
  |none=>exact(show False from r).elim
  |some _=>rfl
def yU.getD{o:xD}{u:Ω}{d:V}{d':Value}(r:yU o u)(rd:RelV d d'):RelV (o.getD d) (u.getD d'):=by
 cases o with
 |none=>cases u with
  |none=>exact rd
  |some _=>exact(show False from r).elim
 |some _=>cases u with
  |none=>exact(show False from r).elim
  |some _=>exact r
def KV.val{kvs:List (κ×V)}{vs:List (κ×Value)}(r:KV kvs vs)(k:κ):yU (JM kvs k) (valueAt vs k):=by
 unfold KV at r
 induction r with
 |nil=>exact True.intro
 |@cons p q ps qs h t ih =>
  obtain⟨h1,h2⟩:=h;by_cases e:p.1=k
  .have e':q.1=k:=h1.symm.trans e;have b:valueAt (q::qs) k=some q.2:=by simp[valueAt,List.find?_cons,e']
   rwa[V7 e,b]
  .have e':¬q.1=k:=λz=>e (h1.trans z);have b:valueAt (q::qs) k=valueAt qs k:=by simp[valueAt,List.find?_cons,e']
   rwa[Jo e,b]
def KV.any{kvs:List (κ×V)}{vs:List (κ×Value)}(r:KV kvs vs)(k:κ):(kvs.any λkv=>decide (kv.1=k))=vs.any λkv=>decide (kv.1=k):=by
 unfold KV at r
 induction r with
 |nil=>rfl
 |cons h t ih=>rw[List.any_cons,List.any_cons,ih,h.1]
def KV.repl{kvs:List (κ×V)}{vs:List (κ×Value)}(r:KV kvs vs)(k:κ)(ry:RelV y u) :
  KV (kvs.map λkv=>if kv.1=k then(kv.1,y)else kv) (vs.map λkv=>if kv.1=k then(kv.1,u)else kv):=by
 unfold KV at r ⊢
 induction r with
 |nil=>exact .nil
 |@cons p q ps qs h t ih =>
  rw[List.map_cons,List.map_cons];refine .cons ?_ ih;obtain⟨h1,h2⟩:=h;by_cases e:p.1=k
  .rw[ZY e,ZY (h1.symm.trans e)];exact⟨h1,ry⟩
  .rw[ZZ e,ZZ (λz=>e (h1.trans z))];exact⟨h1,h2⟩
def KV.put{kvs:List (κ×V)}{vs:List (κ×Value)}(r:KV kvs vs)(k:κ)(ry:RelV y u):KV (putK kvs k y) (stored vs k u):=by
 unfold putK stored;rw[r.any k];by_cases e:(vs.any λkv=>decide (kv.1=k))=true
 .rw[ZY e,ZY e];exact r.repl k ry
 .rw[ZZ e,ZZ e];exact Paired.snoc r ⟨rfl,ry⟩
def KV.length{kvs:List (κ×V)}{vs:List (κ×Value)}(r:KV kvs vs):kvs.length=vs.length:=Paired.length r
end
def U8{k:Key}(r:RelV (kV k) u):(jJ P w).is k u=true:=by
 cases k with
 |inl i=>obtain⟨t,e⟩:=(show ∃t,u=Value.int i t from r);subst e;exact Ur P w i t
 |inr x=>obtain⟨t,e⟩:=(show ∃t,u=Value.str x t from r);subst e;exact V9 P w x t
def anH{u:HO}(ok:HOk P w H h)(e:Rd H a u):fK P w H h a u:=e.ok ok
def K5(ok:HOk P w H h)(e:Rd H a (.dK kvs)):kvs.length<=sizeLine/\(a==sysModules)=false/\∃vs,KV kvs vs/\h.DictOf (jJ P w) a vs :=
 show fK P w H h a (.dK kvs)from anH ok e
def alu(ok:HOk P w H h)(e:H a=some (.dK kvs)):kvs.length<=sizeLine/\(a==sysModules)=false/\∃vs,KV kvs vs/\h.DictOf (jJ P w) a vs:=K5 ok (.inl e)
def Fx(H:Hp)(a:Addr)(y:V)(r:xD):Prop :=
 (∃kvs k,Rd H a (.dK kvs)/\y=kV k/\r=JM kvs k)\/False
def al3(H:Hp)(a:Addr)(y v:V)(H':Hp):Prop :=
 (∃kvs k,H a=some (.dK kvs)/\y=kV k/\kvs.length<sizeLine/\H'=upd H a (.dK (putK kvs k v)))\/False
def Fx.k{H:Hp}{a:Addr}{kvs:xS}{k:Key}(e:H a=some (.dK kvs)):Fx H a (kV k) (JM kvs k):=.inl ⟨kvs,k,.inl e,rfl,rfl⟩
def Inv.big(I:Inv X aa σ H s):sysModules<s.heap.objs.size:=by
 have h:mainGlobals<s.heap.objs.size:=(I.mod.glob.keeps I.bk).lt;exact U2 wb h
def aaO{Q:Ε}(hu:A.units+1<cLine)(I:Inv X aa σ H s)(g:Fx H a y (some v))(ry:RelV y u)(h:∀w' s',Inv X aa σ H s'->RelV v w'->Q w' s') :
  wpAny (model X.prog X.w) A (getItem (.ref a) u) Q E s:=by
 rcases g with⟨kvs,k,e,ey,l⟩|hF
 .subst ey;obtain⟨z,hd,vs,rel,dd⟩:=K5 I.hok e;obtain⟨w',hw,dv⟩:=yU.some_of (v:=v) (o:=valueAt vs k) (by rw[l];exact rel.val k);exact wpAny_getItem_of (U8 ry) dd.mapOf hw (h w' _ (I.tok _) dv)
 .exact hF.elim
def aqh{Q:Ε}(hu:A.units+1<cLine)(I:Inv X aa σ H s)(g:Fx H a y o)(ry:RelV y u)(h:∀s',Inv X aa σ H s'->Q (.bool o.isSome) s') :
  wpAny (model X.prog X.w) A (compareOp .In u (.ref a)) Q E s:=by
 rcases g with⟨kvs,k,e,ey,l⟩|hF
 .subst ey;obtain⟨z,hd,vs,rel,dd⟩:=K5 I.hok e;refine wpAny_in_of (U8 ry) hd dd.mapOf ?_;rw[<- (rel.val k).isSome_eq,<- l];exact h _ (I.tok _)
 .exact hF.elim
def agp{Q:Ε}(hu:A.units+1<cLine)(I:Inv X aa σ H s)(g:Fx H a y o)(ry:RelV y u)(h:∀s',Inv X aa σ H s'->Q (.bool (!o.isSome)) s') :
  wpAny (model X.prog X.w) A (compareOp .NotIn u (.ref a)) Q E s:=by
 rcases g with⟨kvs,k,e,ey,l⟩|hF
 .subst ey;obtain⟨z,hd,vs,rel,dd⟩:=K5 I.hok e;refine wpAny_notIn_of (U8 ry) hd dd.mapOf ?_;rw[<- (rel.val k).isSome_eq,<- l];exact h _ (I.tok _)
 .exact hF.elim
def agb{t':Nat}{ob:HO}(I:Inv X aa σ H s)(mu:Mut (H a))(hs:Heap.SameBut a s.heap h')(he:∃q,h'.get? a=some q)(new:fK X.prog X.w (upd H a ob) h' a ob) :
  Inv X aa σ (upd H a ob) { s with heap:=h',toks:=t' } :=
 I.write (x:=a) (e:=a) mu (.inl rfl) (λb q hb z=>(hs.2 b hb).trans z) he new
def ajs{vs:List (Key×Value)}(z:kvs.length<=sizeLine)(hd:(a==sysModules)=false)(rel:KV kvs vs)(dd:h'.DictOf (jJ P w) a vs) :
  fK P w H' h' a (.dK kvs):=⟨z,hd,vs,rel,dd⟩
def aad(hu:A.units+1<cLine)(I:Inv X aa σ H s)(g:al3 H a y v H')(ry:RelV y u)(rv:RelV v r)(h:∀s',Inv X aa σ H' s'->Q () s') :
  wpAny (model X.prog X.w) A (setItem (.ref a) u r) Q E s:=by
 rcases g with⟨kvs,k,e,ey,l,eH⟩|hF
 .subst ey eH;obtain⟨z,hd,vs,rel,dd⟩:=alu I.hok e;have hz:vs.length<=sizeLine:=by rw[<- rel.length];exact z
  have hl:(putK kvs k v).length<=sizeLine:=by have:=Wh kvs k v;lia
  refine wpAny_setItem_pairs (hsz:=hz) (U8 ry) dd λh' p6 hs=>h _ ?_;have he:∃q,h'.get? a=some q:=by obtain⟨q,_,_,hq,_⟩:=p6;exact⟨q,hq⟩
  exact agb I (by rw[e];exact True.intro) hs he (ajs hl hd (rel.put k rv) p6)
 .exact hF.elim
def ahS(i:Expr):Prop:=∀ov iv,subscripted i false ov iv=operate [ov,iv] (getItem ov iv)
def afW{env:Env}{bj:Expr}{T id:String}{Q:Ε}
 (hl:typeLookup (.type T) "__getitem__"=pure (some (.builtin id)))(hs:ahS bj)
 (h:wpAny (model prog w) A (eval ar env) (λo s₁=>wpAny (model prog w) A (eval bj env) (λi s₂=>s₂.TypeIs o T/\wpAny (model prog w) A (getItem o i) Q E s₂) E s₁) E s) :
  wpAny (model prog w) A (eval (.Subscript ar bj pos) env) Q E s:=by
 refine Subscript_ (wpAny_mono h (λo s₁ h₁=>wpAny_mono h₁ (λi s₂ h₂=>?_) λ_ _ x=>x) λ_ _ x=>x);obtain⟨hT,h₂⟩:=h₂;unfold subscriptTail;refine ZU ?_;rw[getitemInPython_of_ne hT.not_modules];refine ZU (wpAny_specialOf hT hl ?_);have aE:wpAny (model prog w) A (subscripted bj false o i) (λr s₃=>wpAny (model prog w) A (letTemporaryGo ar o r >>= λ_=>pure r) Q E s₃) E s₂:=by
  rw[hs o i];exact wpAny_operating (wpAny_mono h₂ (λr s₃ h₃=>ZU (wpAny_letTemporaryGo (ZT h₃))) λ_ _ x=>x)
 first
  |exact ZT (ZU aE)
  |exact ZU (ZT (ZU aE))
  |exact ZU aE
def Vu{X:Cx}(I:Inv X aa σ H s)(g:Fx H a y o):s.TypeIs (.ref a) "dict":=by
 rcases g with⟨kvs,k,e,_,_⟩|hF
 .obtain⟨_,_,vs,_,dd⟩:=K5 I.hok e;exact dd.typeIs
 .exact hF.elim
def anP(td ty:TE):TE:=λσ H Q=>td σ H λx H1=>ty σ H1 λy H2=>∃a v,x=.ref a/\Fx H2 a y (some v)/\Q v H2
def ao8(ty td:TE):TE:=λσ H Q=>ty σ H λy H1=>td σ H1 λx H2=>∃a o,x=.ref a/\Fx H2 a y o/\Q (.bl o.isSome) H2
def afE(ty td:TE):TE:=λσ H Q=>ty σ H λy H1=>td σ H1 λx H2=>∃a o,x=.ref a/\Fx H2 a y o/\Q (.bl (!o.isSome)) H2
def ana(td ty tv:TE):TS:=λD σ H=>tv σ H λv H1=>td σ H1 λx H2=>ty σ H2 λy H3=>∃a H4,x=.ref a/\al3 H3 a y v H4/\D.nx σ H4
variable{o:Expr}{td ty tv:TE}{aS:Pos}{d:V}
def afp(hu:X.A.units+1<cLine)(ho:PE X o td)(hi:PE X i ty)(hs:ahS i):PE X (.Subscript o i pos) (anP td ty):=by
 intro aa s σ H Q I h;refine afW PySem.F.slot_dict_getitem.lookup hs (thn (ho aa s σ H _ I h) λu s1 ⟨x,H1,I1,rx,q1⟩=>thn (hi aa s1 σ H1 _ I1 q1) λiv s2 hP=>?_);obtain⟨y,H2,I2,ry,a,v,ex,g,q2⟩:=hP;subst ex;obtain rfl:u=Value.ref a:=rx;exact⟨Vu I2 g,aaO hu I2 g ry λw' s3 I3 dv=>⟨v,H2,I3,dv,q2⟩⟩
def aii(hu:X.A.units+1<cLine)(hi:PE X i ty)(ho:PE X o td):PC X .In i o (ao8 ty td):=by
 intro aa s σ H Q I h;refine thn (hi aa s σ H _ I h) λiv s1 ⟨y,H1,I1,ry,q1⟩=>thn (ho aa s1 σ H1 _ I1 q1) λu s2 hP=>?_;obtain⟨x,H2,I2,rx,a,ov,ex,g,q2⟩:=hP;subst ex;obtain rfl:u=Value.ref a:=rx;exact aqh hu I2 g ry λs3 I3=>⟨.bl ov.isSome,H2,I3,rfl,q2⟩
def ZS(hu:X.A.units+1<cLine)(hi:PE X i ty)(ho:PE X o td):PC X .NotIn i o (afE ty td):=by
 intro aa s σ H Q I h;refine thn (hi aa s σ H _ I h) λiv s1 ⟨y,H1,I1,ry,q1⟩=>thn (ho aa s1 σ H1 _ I1 q1) λu s2 hP=>?_;obtain⟨x,H2,I2,rx,a,ov,ex,g,q2⟩:=hP;subst ex;obtain rfl:u=Value.ref a:=rx;exact agp hu I2 g ry λs3 I3=>⟨.bl (!ov.isSome),H2,I3,rfl,q2⟩
def aeT(hu:X.A.units+1<cLine)(ho:PE X o td)(hi:PE X i ty)(hv:PE X ar tv)(hs:swapsWith ar (some (.Subscript o i aS)) pos.line X.env=pure false) :
  PS X (.Assign [.Subscript o i aS] ar pos) (ana td ty tv):=by
 intro aa s σ H D I h;refine wpAny_Assign_Subscript (thn (hv aa s σ H _ I h) λr s1 ⟨v,H1,I1,rv,q1⟩=>thn (ho aa s1 σ H1 _ I1 q1) λu s2 ⟨x,H2,I2,rx,q2⟩=>thn (hi aa s2 σ H2 _ I2 q2) λiv s3 hP=>?_) hs;obtain⟨y,H3,I3,ry,a,H4,ex,g,q3⟩:=hP;subst ex;obtain rfl:u=Value.ref a:=rx;exact aad hu I3 g ry rv λs4 I4=>⟨σ,H4,I4,q3⟩
def ado(h:Heap)(hb:sysModules<h.objs.size):fK P w H (h.push { cls:=.type "dict",data:=.dict #[] }) h.objs.size (.dK []) :=
 ⟨aZ _,beq_eq_false_iff_ne.mpr (Ne.symm (aQ hb)),[],.nil,Heap.DictOf.new h⟩
def ajm:TE:=λ_ H Q=>∀p,H p=none->Q (.ref p) (upd H p (.dK []))
def ab8:PE X (.Dict [] [] pos) ajm:=λaa s σ H Q I h =>
 wpAny_Dict_empty ⟨.ref s.heap.objs.size,_,I.laid (a:=s.heap.objs.size) (o:=.dK []) (t':=s.toks) (λ_ _ q=>aH _ q) (aG _) (ado s.heap I.big),rfl,h _ (I.hok.fresh (aG _))⟩
abbrev VV:List (V×V)->List (Value×Value)->Prop:=Paired λp q=>RelV p.1 q.1/\RelV p.2 q.2
structure M2(X:Cx)(o:Expr)(m:Str)(ai:Pos)(e f:Expr)(af:Pos):Prop where
 base:zw X o m
 few:((backTo af (starEach [e,f] X.env)).all (λx=>!x.1)&&(backToKw af (keywordEach [] X.env)).all (λx=>x.1.isSome)
  && decide (([e,f] : xz).length+([] : xA).length+(if([] : xA).isEmpty then 0 else 1)<30))=true
 line:zh ai af
 trees:backTo af (starEach [e,f] X.env)=[(false,eval e X.env),(false,eval f X.env)]
def IsD(H:Hp)(a:Addr):Prop:=(∃kvs,Rd H a (.dK kvs))\/False
def aiv{X:Cx}(I:Inv X aa σ H s)(d:IsD H a) :
  s.TypeIs (.ref a) "dict"/\(∀b,Value.ref a=.ref b->∃ob,s.heap.get? b=some ob/\ob.dict=none)/\(a==sysModules)=false:=by
 rcases d with⟨kvs,e⟩|hF
 .obtain⟨_,hd,vs,_,dd⟩:=K5 I.hok e;refine⟨dd.typeIs,λb q=>?_,hd⟩;cases q;obtain⟨ob,_,_,h1,h2,_⟩:=dd;exact⟨ob,h1,h2.2.1⟩
 .exact hF.elim
variable{o:xD}{f:Expr}
def ahf{Q:Ε}(hu:A.units+1<cLine)(I:Inv X aa σ H s)(g:Fx H a y o)(ry:RelV y u)(rd:RelV d r)(h:∀w' s',Inv X aa σ H s'->RelV (o.getD d) w'->Q w' s') :
  wpAny (model X.prog X.w) A (call (.builtin "dict.get") [.ref a,u,r]) Q E s:=by
 rcases g with⟨kvs,k,e,ey,l⟩|hF
 .subst ey;obtain⟨z,hd,vs,rel,dd⟩:=K5 I.hok e;refine call_meetsIn PySem.F.slot_dict_get dd.typeIs PySem.F.entry_dict_get (PySem.F.args_dict_get_3 _ _ _) (meets_dict_get_default (jJ X.prog X.w) a (U8 ry) hd r) ⟨_,dd.mapOf,h _ _ (I.tok _) ?_⟩;rw[l];exact(rel.val k).getD rd
 .exact hF.elim
def aho(td ty tx:TE):TE:=λσ H Q=>td σ H λx H1=>∃a,x=.ref a/\IsD H1 a/\ty σ H1 λy H2=>tx σ H2 λz H3=>∃o,Fx H3 a y o/\Q (o.getD z) H3
variable{o:Expr}{tx:TE}{pl:Sem Bool}{σ:L2.St}{k:Nat}
def adQ(hu:X.A.units+1<cLine)(ho:PE X o td)(he:PE X e ty)(hf:PE X f tx)(m:M2 X o "get" ai e f af):PE X (.Call (.Attribute o "get" ai) [e,f] [] af) (aho td ty tx):=by
 intro aa s σ H Q I h;refine wpAny_Call_method m.base m.few m.line PySem.F.plainAttrs_dict PySem.F.slot_dict_get PySem.F.type_dict_get (thn (ho aa s σ H _ I h) λu s1 hP=>?_);obtain⟨x,H1,I1,rx,a,ex,d,q1⟩:=hP;subst ex;obtain rfl:u=Value.ref a:=rx;obtain⟨t1,t2,_⟩:=aiv I1 d;refine⟨t1,t2,?_⟩;rw[m.trees];refine Calls.callWith_builtin rfl (Calls.evalArgs_plain (Calls.spliced_cons (thn (he aa s1 σ H1 _ I1 q1) λiv s2 ⟨y,H2,I2,ry,q2⟩ =>
  Calls.spliced_cons (thn (hf aa s2 σ H2 _ I2 q2) λfv s3 ⟨z,H3,I3,rz,ov,g,q3⟩=>Calls.spliced_nil ?_))))
 exact ahf hu I3 g ry rz λw' s4 I4 dv=>⟨_,H3,I4,dv,q3⟩
def Itk(a:Addr)(o:Obj)(kvs:xS):It:=⟨λi H=>H a=some (.frz o (.dK kvs))/\i<kvs.length,λi H v H'=>H'=H/\∃k y,kvs[i]?=some (k,y)/\v=kV k,λi H=>H a=some (.frz o (.dK kvs))/\i=kvs.length⟩
def anW{k:Key}(h:(jJ P w).is k u=true):RelV (kV k) u:=by
 have h:Fb k u=true:=h;cases k with
 |inl i =>
  cases u<;>simp[Fb,Value.isInt]at h
  .subst h;exact⟨_,rfl⟩
 |inr x =>
  cases u<;>simp[Fb,Value.isStrOf]at h
  .subst h;exact⟨_,rfl⟩
def KV.at{κ:Type}{kvs:List (κ×V)}{vs:List (κ×Value)}(r:KV kvs vs):∀{i:Nat}{k:κ}{y:V},kvs[i]?=some (k,y)->∃u,vs[i]?=some (k,u)/\RelV y u:=by
 unfold KV at r
 induction r with
 |nil=>intro i k y h;cases h
 |@cons p q ps qs h t ih =>
  intro i k y e;cases i with
  |zero =>
   rw[List.getElem?_cons_zero]at e;cases e;obtain⟨q1,q2⟩:=q;obtain⟨h1,h2⟩:=h;cases h1;exact⟨q2,rfl,h2⟩
  |succ i =>
   rw[List.getElem?_cons_succ]at e ⊢;exact ih e
def aaf(it a:Addr)(o:Obj)(kvs:xS)(vs:List (Key×Value))(ep:Nat)(rel:KV kvs vs)(hD:∀h:Heap,h.get? a=some o->h.DictAt (jJ P w) a vs ep) :
  Turn P w K tg (Itk a o kvs) [it] it (λi h=>h.IsKeyIter it a i vs.length ep) where
 mem:=by simp
 obj:=λi h st b hb=>by
  have e:b=it:=by simpa using hb
  subst e;obtain⟨o,ho,_,hd⟩:=st;exact⟨o,ho,λv z=>by rw[hd]at z;cases z⟩
 keep:=λi h h' st k=>let⟨o,ho,r⟩:=st;⟨o,k it wp o ho,r⟩
 item:=by
  intro X hP hw hK hc i aa s σ H E I hf st hg;subst hP hw hK;obtain⟨hg,eP⟩:=hg;obtain⟨ho,_⟩:=(show fK X.prog X.w H s.heap a (.frz o (.dK kvs))from I.hok a _ hg);obtain⟨f0,f1,f2,f3,f4,f5⟩:=hf it wp;obtain⟨⟨k,y⟩,hx⟩ : ∃p,kvs[i]?=some p:=⟨kvs[i],by simp[eP]⟩;obtain⟨u,hu,ru⟩:=rel.at hx;refine wpAny_pyNext_dict_item st (hD _ ho) hu λce h' ie dk sb=>?_;have I1:Inv X aa σ H { s with heap:=h' }:=I.turned (t':=s.toks) (λb ob hb e=>(sb.2 b hb).trans e) f0 f1 f3 f4 f5;obtain⟨oi,e,c,d⟩:=id dk;exact⟨ce,rfl,Vb (s:={ s with heap:=h' }) e c d wb ⟨kV k,H,I1,anW ie,⟨rfl,k,y,hx,rfl⟩,dk,λb hb=>(hf b hb).1⟩⟩
 done:=by
  intro X hP hw hK hc i aa s σ H E I hf st hg;subst hP hw hK;obtain⟨hg,rfl⟩:=hg;obtain⟨ho,_⟩:=(show fK X.prog X.w H s.heap a (.frz o (.dK kvs))from I.hok a _ hg);obtain⟨f0,f1,f2,f3,f4,f5⟩:=hf it wp;have hl:=rel.length;exact wpAny_pyNext_dict_end (I.ok.hd hc) st (hD _ ho) (by simp;exact WH (Eq.symm hl)) λh' eb=>⟨rfl,I.turned (t':=s.toks) (λb ob hb e=>eb b ob hb e) f0 f1 f3 f4 f5⟩
 self:=λ_ _ _ _ _ st h=>wpAny_pyIter_keyiter st h
def aon(te:TE):TI:=λσ H R=>te σ H λx H1=>∃a kvs,x=.ref a/\H1 a=some (.dK kvs)/\∀o,R (Itk a o kvs) (upd H1 a (.frz o (.dK kvs)))
def aeK{l:Expr}{tl:TE}(hl:PE X l tl):PI X tg l (aon tl):=by
 intro aa s σ H R I h;refine thn (hl aa s σ H _ I h) λv s1 hP=>?_;obtain⟨x,H1,I1,r1,a,kvs,ex,ha,q⟩:=hP;subst ex;cases r1;have ok:=(show fK X.prog X.w H1 s1.heap a (.dK kvs)from I1.hok a _ ha);obtain⟨z,hd,vs,rel,o,es,ep,e,ex,ed,ek,epr,en⟩:=ok;have hD:∀h:Heap,h.get? a=some o->h.DictAt (jJ X.prog X.w) a vs ep:=λh e=>⟨o,es,e,ex,ed,ek,epr,en⟩;have I2:Inv X aa σ (upd H1 a (.frz o (.dK kvs))) s1:=by
  have:=I1.write (x:=a) (e:=a) (o:=.frz o (.dK kvs)) (h':=s1.heap) (t':=s1.toks) (by rw[ha];exact True.intro) (.inl rfl) (λb u hb z=>z) ⟨o,e⟩ ⟨e,z,hd,vs,rel,o,es,ep,e,ex,ed,ek,epr,en⟩;exact this
 refine wpAny_pyIter_dict hd (hD _ e) ?_;refine⟨s1.heap.objs.size,[s1.heap.objs.size],_,Itk a o kvs,_,rfl,I2.kept (t':=s1.toks) λb ob z=>aH _ z,aaf _ a o kvs vs ep rel hD,⟨_,aW _ rfl,rfl,rfl⟩,λb hb=>?_,q o⟩;have e:b=s1.heap.objs.size:=by simpa using hb
 subst e;exact I2.fpOk (aG _) (I2.hok.fresh (aG _))
def tMG(g:TG):TG:=λv σ H Q=>∃R:L2.St->Hp->Prop,g v σ H R/\∀σ' H',R σ' H'->Q σ' H'
def tMT(t:TT):TT:=λσ H Q=>∃R:Bool->Hp->Prop,t σ H R/\∀b H',R b H'->Q b H'
def PG.mono{g:TG}(h:PG X e g):PG X e (tMG g):=λaa s σ H v u Q I r hP=>by obtain⟨R,h1,h2⟩:=hP;exact thn (h aa s σ H v u R I r h1) λ_ s' hP=>by obtain⟨σ',H',I',q⟩:=hP;exact⟨σ',H',I',h2 σ' H' q⟩
def PTs.mono{t:TT}(h:PTs X az t):PTs X az (tMT t):=λaa s σ H Q I hP=>by obtain⟨R,h1,h2⟩:=hP;exact thn (h aa s σ H R I h1) λb s' hP=>by obtain⟨H',I',q⟩:=hP;exact⟨H',I',h2 b H' q⟩
structure G7(K:Frag)(B:Addr)(m:Str)(f:Addr):Prop where
 ga:specialIn K (.ref B) "__getattribute__"=some (some (.builtin "type.__getattribute__"))
 rd:readsIn K B (.type "type")=true
 at_:findCls K (.ref B) (.type "type") m=some (.val (.ref f))
 hd:handedIn (.ref f)=true
 kp:keepIn K (.ref f)=true
section
variable{X:Cx}{k:Nat}{f B:Addr}{fd:FuncData}{ps:Φ}{sp:Sp}{c5:Ζ}{ds:Θ}{x m:Str}{p pos ai:Pos}{e:Expr}{es:xz}{t:TA}{Ex:Value->Ξ->L2.St->Hp->Prop}
def G7.get{aa:Δ}{σ:L2.St}{H:Hp}{s:Shared}{pl:Sem Bool}{A:Around}{E:Ε}{Q:Value×Θ->Shared->Prop}(c:G7 X.K B m f)(I:Inv X aa σ H s)(h:∀t,Q (.ref f,[]) { s with toks:=t }) :
  wpAny (model X.prog X.w) A (getMethod (.ref B) m pl) Q E s :=
 method_cls I.kIn c.ga (cls_value I.kIn c.rd c.at_ c.hd (h _))
def af7(c:G7 X.K B m f)(F:fL X.prog X.w X.K X.mg X.base CX0 k f fd ps sp)(hr:d9 k X.A)(hg:Gl X x)(hm:X.mg x=some (.ref B))(hb:Binds X.K fd ps [])(ha:PA X (e::es) t)(br:qk x:=by decide)
 (bv:qr X e es:=by rfl)(hpl:qV X pos es:=by rfl)
 (ht:eval (.Call (.Attribute (.Name x p) m ai) (e::es) [] pos) X.env=(do
   let ov <- eval (.Name x p) X.env
   standAt ai.atName
   let(f,first) <- holding [ov] (getMethod ov m pl)
   callWith pos f first (backTo pos (starEach (e::es) X.env)) (backToKw pos (keywordEach [] X.env))):=by rfl) :
  PE X (.Call (.Attribute (.Name x p) m ai) (e::es) [] pos) (Xv sp t):=by
 intro aa s σ H Q I h;refine methodCall_KW (pl:=pl) (rK I hg hm (c.get I λtk=>?_) br) ht;refine callWith_K (first:=[]) (h₀:=X.base) I.ok.mod.kin c.kp (thn (ha pos aa _ σ H _ (I.tok tk) h) λus s2 ⟨vs,H2,I2,r,q2⟩=>⟨I2.kIn,?_⟩) bv hpl;exact Tg (us:=us) (vs:=vs) F hr hb .nil O9 I2 r (by rw[List.append_nil];exact q2)
end
def Same.tup{K:Frag}{H H':Hp}{a:Addr}{xs:Ζ}(e:Same H H')(h:SqT K H a xs):SqT K H' a xs:=by
 rcases h with(h|⟨o,h⟩)|h
 .exact .inl (.inl (e _ _ h))
 .exact .inl (.inr ⟨o,e _ _ h⟩)
 .exact .inr h
mutual
inductive iz(K:Frag)(H:Hp):V->PyData->Prop
 |non:iz K H .non .none
 |bl (b:Bool):iz K H (.bl b) (.bool b)
 |int (i:Int):iz K H (.int i) (.int i)
 |str (x:Str):iz K H (.str x) (.str x)
 |lst {a:Addr}{xs:Ζ}{ds:xa} : H a=some (.lst xs)->fZ K H xs ds->iz K H (.ref a) (.list ds)
 |tup {a:Addr}{xs:Ζ}{ds:xa} : SqT K H a xs->fZ K H xs ds->iz K H (.ref a) (.tuple ds)
inductive fZ(K:Frag)(H:Hp):Ζ->xa->Prop
 |nil:fZ K H [] []
 |cons {x:V}{xs:Ζ}{d:PyData}{ds:xa} : iz K H x d->fZ K H xs ds->fZ K H (x::xs) (d::ds)
end
mutual
theorem iz.same{K:Frag}{H H':Hp}(S:Same H H'):∀{x:V}{d:PyData},iz K H x d->iz K H' x d
 |_,_,.non=>.non
 |_,_,.bl b=>.bl b
 |_,_,.int i=>.int i
 |_,_,.str x=>.str x
 |_,_,.lst e h=>.lst (S _ _ e) (fZ.same S h)
 |_,_,.tup e h=>.tup (S.tup e) (fZ.same S h)
theorem fZ.same{K:Frag}{H H':Hp}(S:Same H H'):∀{xs:Ζ}{ds:xa},fZ K H xs ds->fZ K H' xs ds
 |_,_,.nil=>.nil
 |_,_,.cons h t=>.cons (iz.same S h) (fZ.same S t)
end
mutual
theorem Inv.readsK(I:Inv X aa σ H s):∀{x:V}{d:PyData}{v:Value},iz X.K H x d->RelV x v->∃as,Reads s.heap v d as
 |_,_,_,.non,r=>by cases r;exact⟨_,.none⟩
 |_,_,_,.bl b,r=>by cases r;exact⟨_,.bool b⟩
 |_,_,_,.int i,r=>by obtain⟨t,rfl⟩:=r;exact⟨_,.int i t⟩
 |_,_,_,.str x,r=>by obtain⟨t,rfl⟩:=r;exact⟨_,.str x t⟩
 |_,_,_,.lst e h,r=>by
  cases r;obtain⟨its,rv,⟨o,ho,hc,n,hd⟩⟩:=I.lstIs e;obtain⟨as,q⟩:=Inv.readsAllK I h rv;exact⟨_,.list ho hc hd q⟩
 |_,_,_,.tup e h,r=>by
  cases r;obtain⟨its,rv,⟨o,ho,hc,n,hd⟩,_⟩:=I.tuple e;obtain⟨as,q⟩:=Inv.readsAllK I h rv;exact⟨_,.tuple ho hc hd q⟩
theorem Inv.readsAllK(I:Inv X aa σ H s):∀{xs:Ζ}{ds:xa}{vs:Θ},fZ X.K H xs ds->Vals xs vs->∃as,ReadsAll s.heap vs ds as
 |_,_,_,.nil,r=>by cases r;exact⟨_,.nil⟩
 |_,_,_,.cons h t,r=>by
  cases r with
  |cons r1 r2 =>
   obtain⟨a,q1⟩:=Inv.readsK I h r1;obtain⟨b,q2⟩:=Inv.readsAllK I t r2;exact⟨_,.cons q1 q2⟩
end
def ajb(K:Frag)(neg:Bool):R2:=λx y H Q=>∃d e,iz K H x d/\iz K H y e/\SeqAt.shaped d=true/\SeqAt.shaped e=true/\Q (.bl (if neg then !PyData.eqv d e else PyData.eqv d e)) H
def ahi(hu:X.A.units+64<cLine):OpR X (compareOp .Eq) (ajb X.K false):=by
 intro aa s σ H x y v u Q I rx ry h;obtain⟨d,e,hd,he,sd,se,q⟩:=h;obtain⟨as,ra⟩:=I.readsK hd rx;obtain⟨bs,rb⟩:=I.readsK he ry;exact SeqAt.compareEq_shaped ra rb sd se hu ⟨.bl _,H,I,rfl,q⟩
def ahY(hu:X.A.units+64<cLine):OpR X (compareOp .NotEq) (ajb X.K true):=by
 intro aa s σ H x y v u Q I rx ry h;obtain⟨d,e,hd,he,sd,se,q⟩:=h;obtain⟨as,ra⟩:=I.readsK hd rx;obtain⟨bs,rb⟩:=I.readsK he ry;exact SeqAt.compareNe_shaped ra rb sd se hu ⟨.bl _,H,I,rfl,q⟩
def agm(K:Frag):Ζ->Hp->VK->Prop:=λxs H Q=>∃p T ys,xs=[.ref p,.ty T]/\T∈["bool","int","str","list","tuple","dict"]/\SqT K H p ys/\Q (.bl (R3 "tuple" T)) H
def Uo:jx X (.builtin "isinstance") (agm X.K):=by
 intro aa s σ H xs us Q I r h;obtain⟨p,T,ys,rfl,hT,hp,q⟩:=h;obtain⟨u,v,rfl,ru,rv⟩:=r.two;cases ru;cases rv;obtain⟨its,rvs,⟨o,ho,hc,n,hd⟩,_⟩:=I.tuple hp;refine kia_one (kitx_tuple (a:=p)) I.kIn ⟨o,ho,hc⟩ (Yy (K:=X.K) (t:="tuple") wb hT) (λz=>nomatch z) λtk=>⟨.bl _,H,I.tok _,rfl,q⟩
def OkI(P:Program)(w:World)(K:Frag)(mg:Str->Ω)(base:Heap)(CX:CXT)(k:Nat)(f:Addr)(ps:Φ)(sp:Sp):Prop:=∃fd,fL P w K mg base CX k f fd ps sp/\Binds K fd ps []
def Af(K:Frag)(x ag:Str)(st:Stmt)(ps:Φ)(f:Addr):Prop:=∃fd,Fun K x ag st f fd/\∀us:Θ,us.length=ps.length->bindArgs fd ⟨us,[]⟩=pure (ps.zip us)
def Af.ok{CX:CXT}{f:Addr}(h:Af K x ag st ps f)(hf:∀fd,Fun K x ag st f fd->fL P w K mg base CX k f fd ps sp):OkI P w K mg base CX k f ps sp :=
 by obtain⟨fd,a,b⟩:=h;exact⟨fd,hf fd a,.all b⟩
def ago{f:Addr}{od an:Ξ}{kV bP pm ah ct:Value}
 (l:K.lookup f=some ⟨oc,od,.func (PySem.W.fnOf x ag (jM st) (fD st) (bG st) .none kV bP pm an ah ct),dt⟩)(c:codeIn K ah ag=true)(k:keepIn K (.ref f)=true)
 (hb:∀(kV bP pm:Value)(an:Ξ)(ah ct:Value)(us:Θ),us.length=ps.length->bindArgs (PySem.W.fnOf x ag (jM st) (fD st) (bG st) .none kV bP pm an ah ct) ⟨us,[]⟩=pure (ps.zip us)):Af K x ag st ps f :=
 ⟨_,ab2 l c k,hb kV bP pm an ah ct⟩
section
variable{X:Cx}{k:Nat}{f C B:Addr}{ps:Φ}{sp:Sp}{x m:Str}{p pos ai:Pos}{e o:Expr}{es:xz}{ta:TE}{t:TA}{Ex:Value->Ξ->L2.St->Hp->Prop}
def adZ(C:Addr)(m:Str)(sp:Sp)(ta:TE)(t:TA):TE:=λσ H Q=>ta σ H λx H1=>∃a dx fs,x=.ref a/\H1 a=some (.ins C dx fs)/\fs.lookup m=none/\t σ H1 λvs H2=>sp (x::vs) H2 Q E0
abbrev zn(X:Cx):=OkI X.prog X.w X.K X.mg X.base
def adl(he:PE X o ta)(c:Cls X.K C)(hm:Meth X.K C m f)(G:zn X CX0 k f ps sp)(hr:d9 k X.A)(ha:PA X (e::es) t)
 (bv:qr X e es:=by rfl)(hpl:qV X pos es:=by rfl)
 (ht:eval (.Call (.Attribute o m ai) (e::es) [] pos) X.env=(do
   let ov <- eval o X.env
   standAt ai.atName
   let(f,first) <- holding [ov] (getMethod ov m pl)
   callWith pos f first (backTo pos (starEach (e::es) X.env)) (backToKw pos (keywordEach [] X.env))):=by rfl) :
  PE X (.Call (.Attribute o m ai) (e::es) [] pos) (adZ C m sp ta t):=by
 obtain⟨fd,F,hb⟩:=G;refine(ae2 (pl:=pl) he.mono c hm F hr hb .nil O9 ha.mono bv hpl ht).imp λσ H Q h=>⟨_,h,?_⟩;rintro x H1 ⟨a,dx,fs,h1,h2,h3,h4⟩;refine⟨a,dx,fs,h1,h2,h3,_,h4,λvs H2 q=>?_⟩;show sp (x::(vs++[])) H2 Q E0;rw[List.append_nil];exact q
def aax(he:PE X o ta)(c:Cls X.K C)(hm:Meth X.K C m f)(G:zn X CX0 k f ps sp)(hr:d9 k X.A)
 (ht:eval (.Call (.Attribute o m ai) [] [] pos) X.env=(do
   let ov <- eval o X.env
   standAt ai.atName
   let(f,first) <- holding [ov] (getMethod ov m pl)
   callWith pos f first (backTo pos (starEach [] X.env)) (backToKw pos (keywordEach [] X.env))):=by rfl) :
  PE X (.Call (.Attribute o m ai) [] [] pos) (adZ C m sp ta ah7):=by
 obtain⟨fd,F,hb⟩:=G;refine(adA (pl:=pl) he.mono c hm F hr hb .nil O9 ht).imp λσ H Q h=>⟨_,h,?_⟩;rintro x H1 ⟨a,dx,fs,h1,h2,h3,h4⟩;exact⟨a,dx,fs,h1,h2,h3,h4⟩
def aey{pos:Pos}(hg:Gl X x)(hm:X.mg x=some (.ref D))(hd:qk x:=by decide):PE X (.Name x pos) (tC (.ref D)):=Zn hg hm rfl hd
end
variable{o ox:Obj}{i:Nat}{ta:TA}{x0 f:Str}{us:Θ}{mN:Str->Ω}{fI x HE:Addr}{v:Value}
def Oc{ob:Obj}(e:(h.push o).get? b=some ob)(hs:b≠h.objs.size):h.get? b=some ob:=by
 obtain⟨e1,e2⟩:=Heap.get?_some_iff.mp e;refine Heap.get?_some_iff.mpr ⟨?_,e2⟩;cases h;simpa[Heap.push,Array.getElem?_push,hs]using e1
theorem Vd:∀{ys:Φ}{vs:Θ},Vals (ys.map V.str) vs->StrsAre vs ys
 |[],_,h=>by cases h;exact .nil
 |y::ys,_,h=>by
  rw[List.map_cons]at h;cases h with
  |cons a b =>
   obtain⟨t,rfl⟩:=a;exact .cons y t (Vd b)
def rJoin:V->Ζ->Hp->VK->Prop:=λx vs H Q=>∃a l ys,x=.str a/\vs=[.ref l]/\H l=some (.lst (ys.map V.str))/\(ys.map (·.length)).sum+ys.length*a.length<=16777216/\Q (.str (Txt.join a ys)) H
def afX:MtM X "str.join" rJoin:=by
 intro aa s σ H x vs v us Q I rx rv h;obtain⟨a,l,ys,rfl,rfl,hl,hz,q⟩:=h;obtain⟨t,rfl⟩:=rx;obtain⟨u,rfl,ru⟩:=rv.one;cases ru;obtain⟨_,its,n,r,_,e⟩:=I.lstM hl;exact join_list ⟨_,e,rfl,n,rfl⟩ (by simpa using Vd r) hz λt' k=>⟨.str _,H,I.tok _,⟨_,rfl⟩,q⟩
def ace{i0:Nat}{y0:Str}{py b8:Pos}{xs N':Φ}(E:Vr X scope xs ext fn)(hc:X.calm=true)(gS:O2 xs X.N=N')(cf:scope.kind=.function)(cy:∀y∈scope.names,y.2=.local->scope.names.lookup y.1=some .local)
 (cc:∀y∈scope.names,y.2=.free->X.env.kindOf y.1=some .cell\/X.env.kindOf y.1=some .free)(fm:∀y∈X.N,y∉xs->(relabel scope X.env).names.lookup y≠some .local)(hq:∀y∈X.N,y∈xs->(relabel scope X.env).names.lookup (hid y)=none)(hi:PI X tg iter wi)
 (hg:∀C s₀ H₀ ex pn,PG (X.compE ext fn N' scope xs C s₀ H₀ ex pn) tg gt)(ht:∀C s₀ H₀ ex pn,PTs (X.compE ext fn N' scope xs C s₀ H₀ ex pn) az tc)(he:∀C s₀ H₀ ex pn,PE (X.compE ext fn N' scope xs C s₀ H₀ ex pn) be te)(gh:PG X (.Name y0 py) (Ai i0))(f':swapsWith (.ListComp be [⟨tg,iter,az,0⟩] scope pos) (some (.Name y0 py)) b8.line X.env=pure true)(hs:qA X iter) :
  PS X (.Assign [.Name y0 py] (.ListComp be [⟨tg,iter,az,0⟩] scope pos) b8) (afJ (rR wi xs.length gt tc te) (Ai i0)):=by
 intro aa s σ H D0 I h;have h:rR wi xs.length gt tc te σ H (λx H1=>Ai i0 x σ H1 D0.nx):=h;rw[exec_Assign_Name_used _ _ _ _ f'];refine ZU (wpAny_standAt (ZU ?_));show wpAny _ X.A (comprehension (.ListComp be [⟨tg,iter,az,0⟩] scope pos) scope X.env _ (newList []) false (eval iter X.env) (some (assign (.Name y0 py) X.env)) >>= λ_=>_) _ _ s;refine ZU (wpAny_mono (O1 (use:=some (assign (.Name y0 py) X.env)) (post:=λ_ s'=>SP X aa D0 .next s') E hc gS cf cy cc fm hq hi hg ht he hs I h λC D Hc s6 m fl kf I6 fC qn=>?_) (λ_ s' hq=>ZT (ZT hq)) λ_ _ e=>e);obtain⟨oc,es,ep,ho,ow,_⟩:=id kf;have I7:=I6.pinned (fp:=[C]) (λb hb=>by rwa[YR.mp hb]) λb hb=>by
  rw[YR.mp hb];exact⟨oc,ho,λv z=>by rw[ow]at z;cases z⟩
 show wpAny _ X.A (assign (.Name y0 py) X.env _) _ _ s6;refine thn (gh _ s6 σ Hc (.ref D) _ D0.nx I7 rfl qn) λ_ s7 hP=>?_;obtain⟨σ7,H7,Z7,q7⟩:=hP;have pn7:=Z7.pin (C,oc) (aP _ (aP _ (pR wp ho)));refine⟨m,kf.at' λo e=>?_,λh' m4=>⟨σ7,H7,Z7.unpinned.turned (it:=C) (h':=h') (t':=s7.toks) (λb o hb e=>(m4.2 b hb).trans e) pn7.2.1 fC.2.1 fC.2.2.2.1 fC.2.2.2.2.1 fC.2.2.2.2.2,q7⟩⟩;rw[ho]at e;cases e;exact pn7.1
def Inv.turnedL{t':Nat}{ch:Ψ}(I:Inv X aa σ H s)(k:∀b o,b∉ch->s.heap.get? b=some o->h'.get? b=some o)(hf:∀b∈ch,HX X aa H b):Inv X aa σ H { s with heap:=h',toks:=t' }:=by
 have j1:∀b u,H b=some u->b∉ch:=λb u e z=>by rw[(hf b z).1]at e;cases e
 refine I.step (g':=s.gens) (d':=s.drawn) (ch:=ch) (λb hb=>⟨(hf b hb).2.2.2.1,(hf b hb).2.1,(hf b hb).2.2.2.2.1,(hf b hb).2.2.2.2.2⟩) (λb o _ _ hc e _=>k b o hc e) (λb o _ _ hc e _=>⟨o.slots,k b o hc e⟩) (λ_ _ _ _ n=>n) (λb o hc e=>⟨o,k b o hc e⟩) (λ_ _ e=>e) (λ_ _ _ e=>e) (λb ps e=>⟨#[],by rw[e];simp⟩) (λm hm=>?_) (λb u e=>?_) I.bare
 .obtain⟨o,es,ep,ho,r⟩:=hm;exact⟨o,es,ep,k _ o (λz=>(hf _ z).2.1 rfl) ho,r⟩
 .refine(I.hok b u e).stay (λc v hc q=>k c v ?_ q) (λ_ q=>q) λ_ _ q=>q;rcases hc with z|z
  .rw[z];exact j1 b u e
  .exact j1 c _ z
def Itz(a b:Addr):It:=⟨λi H=>∃xs ys,H a=some (.lst xs)/\H b=some (.lst ys)/\i<xs.length/\i<ys.length,λi H v H'=>∃xs ys x y t,H a=some (.lst xs)/\H b=some (.lst ys)/\xs[i]?=some x/\ys[i]?=some y/\H t=none/\v=.ref t/\H'=upd H t (.tup [x,y]),λi H=>∃xs ys,H a=some (.lst xs)/\H b=some (.lst ys)/\(xs.length<=i\/ys.length<=i)⟩
def pJ{g:Heap}{l:Addr}(x:h.IsListIter a l i)(k:∀o,h.get? a=some o->g.get? a=some o):g.IsListIter a l i:=by obtain⟨o,e,r⟩:=x;exact⟨o,k o e,r⟩
def Pu{vs:Θ} : Vals xs vs->∀{i:Nat}{x:V},xs[i]?=some x->∃u,vs[i]?=some u/\RelV x u:=by
 intro h
 induction h with
 |nil=>intro i x e;cases e
 |cons a b ih =>
  intro i x e;cases i with
  |zero=>rw[List.getElem?_cons_zero]at e;cases e;exact⟨_,rfl,a⟩
  |succ i=>rw[List.getElem?_cons_succ]at e ⊢;exact ih e
def adM{x1}(z TI TO i1 i2 l1 l2:Addr)(D:ZipApart z TI TO i1 i2 l1 l2) :
  Turn P w K (.Tuple b6 x1 pos) (Itz l1 l2) [z,TI,TO,i1,i2] z (λi h=>IsZip h z TI TO .none/\IsPair h TI (.ref i1) (.ref i2)/\(∃p q,IsPair h TO p q)/\h.IsListIter i1 l1 i/\h.IsListIter i2 l2 i) where
 mem:=by simp
 obj:=by
  rintro i h ⟨s1,s2,⟨p,q,s3⟩,⟨o4,s4,_,d4⟩,⟨o5,s5,_,d5⟩⟩ b hb;simp only[YU,Up,or_false]at hb;rcases hb with rfl|rfl|rfl|rfl|rfl
  .exact⟨_,s1,λv e=>by cases e⟩
  .exact⟨_,s2,λv e=>by cases e⟩
  .exact⟨_,s3,λv e=>by cases e⟩
  .exact⟨_,s4,λv e=>by rw[d4]at e;cases e⟩
  .exact⟨_,s5,λv e=>by rw[d5]at e;cases e⟩
 keep:=λi h h' ⟨s1,s2,⟨p,q,s3⟩,s4,s5⟩ k=>⟨k z wp _ s1,k TI wp _ s2,⟨p,q,k TO wp _ s3⟩,pJ s4 (k i1 wp),pJ s5 (k i2 wp)⟩
 item:=by
  intro X hP hw hK hc i aa s σ H E I hf st hg;subst hP hw hK;obtain⟨s1,s2,⟨p,q,s3⟩,s4,s5⟩:=st;obtain⟨xs,ys,ha,hb,mB,lt2⟩:=hg;obtain⟨_,fg,n1,gz,le1,g1⟩:=I.lstM ha;obtain⟨_,j',n2,mf,le2,g2⟩:=I.lstM hb;have ex:xs[i]?=some xs[i]:=aj mB;have ey:ys[i]?=some ys[i]:=aj lt2;obtain⟨u,hu,ru⟩:=Pu gz ex;obtain⟨v,hv,rv⟩:=Pu mf ey;refine wpAny_pyNext_zip_item D s1 s2 s3 s4 s5 (xs:=fg.toArray) (ys:=j'.toArray) ⟨_,g1,rfl,n1,rfl⟩ ⟨_,g2,rfl,n2,rfl⟩ (x:=u) (y:=v) (by simpa using hu) (by simpa using hv) λh' a1 a2 a3 a4 a5 a6 a7=>⟨_,rfl,?_⟩;refine wpAny_letOwnedTupleGo_zip a1 λh2 gy sb=>?_;have nt:H s.heap.objs.size=none:=I.fresh;have I1:=I.laid (a:=s.heap.objs.size) (o:=.tup [xs[i],ys[i]]) (h':=s.heap.push { cls:=.type "tuple",data:=.seq #[u,v] }) (t':=s.toks) (λb q z=>aH _ z) (aG _)
   ⟨(by show 2<=sizeLine;decide),[u,v],.cons ru (.cons rv .nil),_,aW _ rfl,rfl,_,rfl⟩
  have nz:z≠s.heap.objs.size:=aQ (aK s1);have nO:TO≠s.heap.objs.size:=aQ (aK s3);have nI:TI≠s.heap.objs.size:=aQ (aK s2);have mw:i1≠s.heap.objs.size:=by obtain⟨o,e,_⟩:=s4;exact aQ (aK e)
  have n2':i2≠s.heap.objs.size:=by obtain⟨o,e,_⟩:=s5;exact aQ (aK e)
  have kB:∀b∈[z,TI,TO,i1,i2],upd H s.heap.objs.size (.tup [xs[i],ys[i]]) b=none:=by
   intro b hb;have f0:=(hf b hb).1;simp only[YU,Up,or_false]at hb;rcases hb with rfl|rfl|rfl|rfl|rfl
   .exact(bZ nz).trans f0
   .exact(bZ nI).trans f0
   .exact(bZ nO).trans f0
   .exact(bZ mw).trans f0
   .exact(bZ n2').trans f0
  have I2:=I1.turnedL (ch:=[z,TO,i1,i2]) (h':=h2) (t':=s.toks) (λb ob hb e=>by
   simp only[YU,Up,or_false,not_or]at hb;obtain⟨b1,b2,b3,b4⟩:=hb;refine(sb.2 b b1).trans ?_;by_cases hs:b=s.heap.objs.size
   .subst hs;have e2:=aW s.heap (o:={ cls:=.type "tuple",data:=.seq #[u,v] }) rfl;have e:(s.heap.push { cls:=.type "tuple",data:=.seq #[u,v] }).get? s.heap.objs.size=some ob:=e;rw[e2]at e;cases e;exact a5
   .exact a7 b _ b1 b2 b3 b4 (Oc e hs)) λb hb=>by
    have ck:b∈[z,TI,TO,i1,i2]:=by
     simp only[YU,Up,or_false]at hb ⊢;rcases hb with h|h|h|h<;>simp[h]
    exact⟨kB b ck,(hf b ck).2⟩
  have mv:∀c o,c≠z->h'.get? c=some o->h2.get? c=some o:=λc o n e=>(sb.2 c n).trans e;exact⟨.ref _,_,I2,rfl,⟨xs,ys,_,_,_,ha,hb,ex,ey,nt,rfl,rfl⟩,⟨gy,mv _ _ D.TIz (a7 _ _ D.TIz D.TITO D.TIi1 D.TIi2 s2),⟨_,_,mv _ _ D.TOz a2⟩,pJ a3 λo e=>mv _ _ D.i1z e,pJ a4 λo e=>mv _ _ D.i2z e⟩,kB⟩
 done:=by
  intro X hP hw hK hc i aa s σ H E I hf st hg;subst hP hw hK;obtain⟨s1,s2,⟨p,q,s3⟩,s4,s5⟩:=st;obtain⟨xs,ys,ha,hb,lt⟩:=hg;obtain⟨_,fg,n1,gz,le1,g1⟩:=I.lstM ha;obtain⟨_,j',n2,mf,le2,g2⟩:=I.lstM hb;refine wpAny_pyNext_zip_end (I.ok.hd hc) D s1 s2 s3 s4 s5 (xs:=fg.toArray) (ys:=j'.toArray) ⟨_,g1,rfl,n1,rfl⟩ ⟨_,g2,rfl,n2,rfl⟩ (by simp;lia) λh' k=>⟨rfl,I.turnedL (ch:=[z,TO,i1,i2]) (t':=s.toks) (λb ob hb e=>?_) λb hb=>?_⟩
  .simp only[YU,Up,or_false,not_or]at hb;exact k b ob hb.1 hb.2.1 hb.2.2.1 hb.2.2.2 e
  .exact hf b (by
    simp only[YU,Up,or_false]at hb ⊢;rcases hb with h|h|h|h<;>simp[h])
 self:=λ_ _ _ _ _ ⟨s1,_⟩ h=>wpAny_pyIter_zip s1 h
def aaB(n l1 l2:Nat)(h1:l1<n)(h2:l2<n):ZipApart (n+4) (n+2) (n+3) n (n+1) l1 l2:=by
 constructor<;>first|exact aQ (by omega)|exact UY wf
def afK(n b:Nat)(h:b=n+4\/b=n+2\/b=n+3\/b=n\/b=n+1):n<=b:=by lia
def boot_zip:bootBuiltins "zip"=some (.type "zip"):=by decide +kernel
def aoe(ta:TA):TI:=λσ H R=>ta σ H λvs H1=>∃a b xs ys,vs=[.ref a,.ref b]/\H1 a=some (.lst xs)/\H1 b=some (.lst ys)/\R (Itz a b) H1
def adD{a b:Expr}{x1}{p ax:Pos}(hg:Gl X "zip")(hm:X.mg "zip"=none)(ha:PA X [a,b] ta)(hs:starEach [a,b] X.env=[(false,eval a X.env),(false,eval b X.env)]:=by rfl)(eC:starEach [b] X.env=[(false,eval b X.env)]:=by rfl) :
  PI X (.Tuple b6 x1 ax) (.Call (.Name "zip" p) [a,b] [] pos) (aoe ta):=by
 intro aa s σ H R I h;refine Call_ (BJ I hg hm boot_zip (PyProof.Rows.callWith_type1 (thn (ha pos aa s σ H _ I h) λus s1 hP=>?_) (by rw[hs,eC]) (by rw[eC];rfl)));obtain⟨vs,H1,I1,r1,q1⟩:=hP;obtain⟨l1,l2,xs,ys,e,h1,h2,q⟩:=q1;subst e;obtain⟨u,v,rfl,ru,rv⟩:=r1.two;cases ru;cases rv;obtain⟨_,fg,n1,gz,le1,g1⟩:=I1.lstM h1;obtain⟨_,j',n2,mf,le2,g2⟩:=I1.lstM h2;have z1:=aK g1;have z2:=aK g2;refine call_zip_2 (xs:=fg.toArray) (ys:=j'.toArray) ⟨_,g1,rfl,n1,rfl⟩ ⟨_,g2,rfl,n2,rfl⟩ λh' a1 a2 a3 a4 a5 a6 a7=>?_;refine wpAny_pyIter_zip a1 ?_;refine⟨_,[s1.heap.objs.size+4,s1.heap.objs.size+2,s1.heap.objs.size+3,s1.heap.objs.size,s1.heap.objs.size+1],_,Itz l1 l2,H1,rfl,I1.kept (t':=s1.toks) λb ob e=>a7 b ob e,adM _ _ _ _ _ l1 l2 (aaB _ _ _ z1 z2),⟨a1,a2,⟨_,_,a3⟩,a4,a5⟩,λb hb=>?_,q⟩;have ck:s1.heap.objs.size<=b:=by
  simp only[YU,Up,or_false]at hb;exact afK _ _ hb
 exact I1.fpOk ck (I1.hok.fresh ck)
def aaF{g:TG}{tb:TS}{D:Ends}(h:ta σ H λvs H1=>∃a b xs ys,vs=[.ref a,.ref b]/\H1 a=some (.lst xs)/\H1 b=some (.lst ys)/\xs.length=ys.length/\∃J:Nat->L2.St->Hp->Prop,J 0 σ H1 /\
   (∀k x y σ' H' t,xs[k]?=some x->ys[k]?=some y->J k σ' H'->H' a=some (.lst xs)->H' b=some (.lst ys)->H' t=none->g (.ref t) σ' (upd H' t (.tup [x,y])) λσ2 H2=>tb { D with nx:=λσ3 H3=>H3 a=some (.lst xs)/\H3 b=some (.lst ys)/\J (k+1) σ3 H3,ct:=λσ3 H3=>H3 a=some (.lst xs)/\H3 b=some (.lst ys)/\J (k+1) σ3 H3,bk:=D.nx } σ2 H2) /\
   ∀σ' H',J xs.length σ' H'->H' a=some (.lst xs)->H' b=some (.lst ys)->D.nx σ' H'):amj (aoe (tMA ta)) g tb D σ H:=by
 refine⟨_,h,?_⟩;rintro vs H1 ⟨a,b,xs,ys,rfl,hx,hy,hl,J,j0,step,aE⟩;refine⟨a,b,xs,ys,rfl,hx,hy,λk m σ' H'=>k<=xs.length/\m=xs.length-k/\H' a=some (.lst xs)/\H' b=some (.lst ys)/\J k σ' H',⟨_,aZ _,rfl,hx,hy,j0⟩,?_⟩;rintro k m σ' H' ⟨hk,rfl,ir,ck,j⟩;by_cases e:k=xs.length
 .subst e;exact .inl ⟨⟨xs,ys,ir,ck,.inl (aG _)⟩,aE σ' H' j ir ck⟩
 .have eP:k<xs.length:=by exact XX hk e
  refine .inr ⟨⟨xs,ys,ir,ck,eP,by exact aR eP (WH hl)⟩,λσ3 H3=>H3 a=some (.lst xs)/\H3 b=some (.lst ys)/\J (k+1) σ3 H3,λσ3 H3 ⟨z1,z2,z3⟩=>⟨xs.length-(k+1),by lia,by exact eP,rfl,z1,z2,z3⟩,?_⟩;rintro v H'' ⟨eQ,i9,x,y,t,e1,e2,e3,e4,e5,rfl,rfl⟩;rw[ir]at e1;rw[ck]at e2;cases e1;cases e2;exact step k x y σ' H' t e3 e4 j ir ck e5
def rlb(sc scope:Scope):Scope:={ scope with names:=scope.names.map λ(n,k)=>if(k==NameKind.free&&sc.kind == .function&&sc.names.lookup n==some .cell)then(n,NameKind.cell)else(n,k) }
theorem YZ(c:Nat):∀(n:Nat)(acc:Array Nat),((List.replicate n #[c]).foldl (· ++ ·) acc).toList=acc.toList++List.replicate n c
 |0,acc=>by simp
 |n+1,acc=>by
  rw[List.replicate_succ,List.foldl_cons,YZ c n,Array.toList_append,WZ]
  rfl
def aol:R2:=λx y H Q=>∃c n,x=.str ⟨#[c]⟩/\y=.int n/\1<=n/\n<=1000/\∀z:Str,z.cps.toList=List.replicate n.toNat c->Q (.str z) H
def afQ:OpR X (binaryOp .Mult) aol:=by
 intro aa s σ H x y v u Q I rx ry h;obtain⟨c,n,rfl,rfl,h0,h1,q⟩:=h;obtain⟨t,rfl⟩:=rx;obtain⟨t',rfl⟩:=ry;have hi:(⟨#[c]⟩ : Str).length=1:=rfl;have made:∀z:Str,z.cps.toList=List.replicate n.toNat c->(Made.str z).post (EP X aa σ Q) s:=λz hz=>⟨by
  have:z.length=n.toNat:=by
   show z.cps.size=_;rw[<- Array.length_toList,hz,aN]
  exact aL (show z.length<=1001 by lia) wb,.str z,H,I.tok _,⟨_,rfl⟩,q z hz⟩
 refine PySem.P.mul_str ?_ (λ_ _=>?_) (λ_ _=>?_) ?_
 .rw[Zp wf,Zp wf];rfl
 .rw[hi];have:1<=(2^63-1:Int)/n:=Int.le_ediv_of_mul_le (by omega) wf;lia
 .rw[hi];unfold Builtin.Str.tooLong;exact Zp (by
   have:n.toNat<=1000:=by lia
   have e:1000<=sizeLine:=by decide
   lia)
 .split
  .lia
  .split
   .rename_i hc
    rw[hi]at hc;have e:n.toNat=1:=by
     simp at hc;lia
    refine⟨.str ⟨#[c]⟩,H,I,⟨t,rfl⟩,q _ ?_⟩;rw[e];rfl
   .refine made _ ?_;show((List.replicate n.toNat #[c]).foldl (· ++ ·) #[]).toList=_;rw[YZ];rfl
def Cx.compGC(X:Cx)(N':Φ)(scope:Scope)(x0:Str)(C:Addr)(s₀:Shared)(H₀:Hp)(ex:Ψ)(pn:Δ):Cx :=
 { X with env:=compEnvC scope ((x0,C+1)::wj X.env.cells scope.names []) C X.env,N:=[x0]++N',s₀:=s₀,H₀:=H₀,outer:=X.stack,ex:=ex,fn:=λz=>z==x0,pn:=pn,xe:=λ_ _=>False }
theorem Az{env:Env}{x0:Str} : ∀{names:xC}{y:Str},y≠x0->((names.map λ(n,k)=>if(k==NameKind.free&&env.scope.kind == .function&&env.kindOf n==some .cell)then(n,NameKind.cell)else(n,k)).lookup y=some .cell \/
  (names.map λ(n,k)=>if(k==NameKind.free&&env.scope.kind == .function&&env.kindOf n==some .cell)then(n,NameKind.cell)else(n,k)).lookup y=some .free)->(∀z∈names,z.2=.cell->z.1=x0)->(y,NameKind.free)∈names
 |[],y,_,h,_=>by rcases h with h|h<;>cases h
 |(n,k)::r,y,ny,h,hc=>by
  have ih:=@Az env x0 r y ny;have de:∀z∈r,z.2=.cell->z.1=x0:=λz hz=>hc z (aJ _ hz);simp only[List.map_cons]at h;by_cases hcond:(k==NameKind.free&&env.scope.kind == .function&&env.kindOf n==some .cell)=true
  .rw[ZY hcond]at h;have hk:k=.free:=by
    simp only[QP,beq_iff_eq]at hcond;exact hcond.1.1
   subst hk;simp only[List.lookup_cons]at h;cases hb:y==n with
   |true=>rw[show y=n by simpa using hb];exact aO
   |false=>rw[hb]at h;exact aJ _ (ih h de)
  .rw[ZZ hcond]at h;simp only[List.lookup_cons]at h;cases hb:y==n with
   |true =>
    have e:y=n:=by simpa using hb
    rw[hb]at h;rcases h with h|h
    .cases h;exact absurd (e.trans (hc (n,.cell) aO rfl)) ny
    .cases h;rw[e];exact aO
   |false=>rw[hb]at h;exact aJ _ (ih h de)
def Nu{globals:Addr}{bS:xp}{outer:Env}{Q:Env->Shared->Prop}(gm:∀n acc,cellsFrom n scope.names acc=(x0,n)::acc)(gf:∀h,pushCells h scope.names=h.push { cls:=.type "cell",data:=.cell none })
 (hQ:∀g,g.Ns s.heap.objs.size (λx=>([] : xo).reverse.lookup x)->g.IsCell (s.heap.objs.size+1) none->(∀b o,s.heap.get? b=some o->g.get? b=some o)->Q (newEnv scope s.heap.objs.size globals ((x0,s.heap.objs.size+1)::bS) ag none .none (some outer) builtinsNs) { s with heap:=g,toks:=s.toks+([] : xo).length }) :
  wpAny M A (newFunctionEnv scope globals bS [] ag none .none (some outer)) Q E s:=by
 simp only[newFunctionEnv,Option.isSome_some,if_true];refine ZU (wpAny_alloc ?_);refine ZU (wpAny_layCells _ (λname kind cells=>by cases hkc:kind==NameKind.cell<;>simp[hkc]) _ _ _ _ ?_);rw[gm,gf];have z1:(s.heap.push { cls:=.type "dict",data:=.dict #[] }).objs.size=s.heap.objs.size+1:=Heap.size_push ..;show wpAny _ _ (forIn ([] : xo) _ _ >>= _) _ _ _;rw[List.forIn_nil];refine ZU (ZT (ZT ?_));have c1:=aW (s.heap.push { cls:=.type "dict",data:=.dict #[] }) (o:={ cls:=.type "cell",data:=.cell none }) rfl;rw[z1]at c1;show Q (newEnv scope s.heap.objs.size globals ((x0,(s.heap.push { cls:=.type "dict",data:=.dict #[] }).objs.size)::bS) ag none .none (some outer) builtinsNs) _;rw[z1];exact hQ _ ((Heap.Ns.new s.heap (.type "dict")).at' λo e=>aH _ e) ⟨_,c1,rfl⟩ λb o e=>aH _ (aH _ e)
def Zm{y:Str}{d c:Addr}(e : [(x0,d)].lookup y=some c):y=x0/\c=d:=by
 rw[List.lookup_cons]at e;cases hy:y==x0 with
 |true=>rw[hy]at e;cases e;exact⟨by simpa using hy,rfl⟩
 |false=>rw[hy]at e;cases e
def ext1(gm:∀n acc,cellsFrom n scope.names acc=(x0,n)::acc)(gf:∀h,pushCells h scope.names=h.push { cls:=.type "cell",data:=.cell none })(oC:∀y∈scope.names,y.2=.cell->y.1=x0):Vr X scope [x0] (λC=>[(x0,C+1)]) (λz=>z==x0) :=
 ⟨λhQ=>Nu gm gf λg eI im kg=>hQ g eI (λy c e=>by rwa[(Zm e).2]) kg,λC y c e=>by rw[(Zm e).2];exact X1 _,λC y z c e1 e2=>(Zm e1).1.trans (Zm e2).1.symm,λC y e=>⟨C+1,by rw[beq_iff_eq.mp e];exact List.lookup_cons_self⟩,λC y e=>by
  rw[List.lookup_cons,beq_eq_false_iff_ne.mpr λz=>e (by rw[z];simp)]
  rfl,λC y e=>by
  by_cases ny:y=x0
  .exact .inl ⟨C+1,by rw[ny];exact List.lookup_cons_self⟩
  .exact .inr (Az ny e oC)⟩
def Ite(l:Addr):It:=⟨λi H=>∃xs,H l=some (.lst xs)/\i<xs.length,λi H v H'=>∃xs x t,H l=some (.lst xs)/\xs[i]?=some x/\H t=none/\v=.ref t/\H'=upd H t (.tup [.int i,x]),λi H=>∃xs,H l=some (.lst xs)/\xs.length<=i⟩
def ZQ{x1}(e it l:Addr)(ic:e≠it) :
  Turn P w K (.Tuple b6 x1 pos) (Ite l) [e,it] e (λi h=>(∃old,IsEnum h e it ((i:Nat):Int) old)/\h.IsListIter it l i) where
 mem:=by simp
 obj:=by
  rintro i h ⟨⟨old,s1⟩,⟨o4,s4,_,d4⟩⟩ b hb;simp only[YU,Up,or_false]at hb;rcases hb with rfl|rfl
  .exact⟨_,s1,λv e=>by cases e⟩
  .exact⟨_,s4,λv e=>by rw[d4]at e;cases e⟩
 keep:=λi h h' ⟨⟨old,s1⟩,s4⟩ k=>⟨⟨old,k e wp _ s1⟩,pJ s4 (k it wp)⟩
 item:=by
  intro X hP hw hK hc i aa s σ H E I hf st hg;subst hP hw hK;obtain⟨⟨old,s1⟩,s4⟩:=st;obtain⟨xs,ha,mB⟩:=hg;obtain⟨_,fg,n1,gz,le1,g1⟩:=I.lstM ha;have ex:xs[i]?=some xs[i]:=aj mB;obtain⟨u,hu,ru⟩:=Pu gz ex;refine wpAny_pyNext_enum_item s1 s4 (items:=fg.toArray) ⟨_,g1,rfl,n1,rfl⟩ (x:=u) (by simpa using hu) ic λh' a1 a3 a5 a6 a7=>⟨_,rfl,?_⟩;refine wpAny_letOwnedTupleGo_enum a1 λh2 gy sb=>?_;have nt:H s.heap.objs.size=none:=I.fresh;have I1:=I.laid (a:=s.heap.objs.size) (o:=.tup [.int i,xs[i]]) (h':=s.heap.push { cls:=.type "tuple",data:=.seq #[.int i s.toks,u] }) (t':=s.toks+1) (λb q z=>aH _ z) (aG _)
   ⟨(by show 2<=sizeLine;decide),[.int i s.toks,u],.cons ⟨_,rfl⟩ (.cons ru .nil),_,aW _ rfl,rfl,_,rfl⟩
  have nz:e≠s.heap.objs.size:=aQ (aK s1);have mw:it≠s.heap.objs.size:=by obtain⟨o,e,_⟩:=s4;exact aQ (aK e)
  have kB:∀b∈[e,it],upd H s.heap.objs.size (.tup [.int i,xs[i]]) b=none:=by
   intro b hb;have f0:=(hf b hb).1;simp only[YU,Up,or_false]at hb;rcases hb with rfl|rfl
   .exact(bZ nz).trans f0
   .exact(bZ mw).trans f0
  have I2:=I1.turnedL (ch:=[e,it]) (h':=h2) (t':=s.toks+1) (λb ob hb z=>by
   simp only[YU,Up,or_false,not_or]at hb;obtain⟨b1,b3⟩:=hb;refine(sb.2 b b1).trans ?_;by_cases hs:b=s.heap.objs.size
   .subst hs;have e2:=aW s.heap (o:={ cls:=.type "tuple",data:=.seq #[.int i s.toks,u] }) rfl;have z:(s.heap.push { cls:=.type "tuple",data:=.seq #[.int i s.toks,u] }).get? s.heap.objs.size=some ob:=z;rw[e2]at z;cases z;exact a5
   .exact a7 b _ b1 b3 (Oc z hs)) λb hb=>⟨kB b hb,(hf b hb).2⟩
  have mv:∀c o,c≠e->h'.get? c=some o->h2.get? c=some o:=λc o n z=>(sb.2 c n).trans z;exact⟨.ref _,_,I2,rfl,⟨xs,_,_,ha,ex,nt,rfl,rfl⟩,⟨⟨_,by rwa[Int.natCast_add]⟩,pJ a3 λo z=>mv _ _ (λy=>ic y.symm) z⟩,kB⟩
 done:=by
  intro X hP hw hK hc i aa s σ H E I hf st hg;subst hP hw hK;obtain⟨⟨old,s1⟩,s4⟩:=st;obtain⟨xs,ha,lt⟩:=hg;obtain⟨_,fg,n1,gz,le1,g1⟩:=I.lstM ha;have hl:=gz.length;refine wpAny_pyNext_enum_end (I.ok.hd hc) s1 s4 (items:=fg.toArray) ⟨_,g1,rfl,n1,rfl⟩ (by simp;lia) λh' k=>⟨rfl,I.turnedL (ch:=[e,it]) (t':=s.toks) (λb ob hb z=>?_) hf⟩;simp only[YU,Up,or_false,not_or]at hb;exact k b ob hb.2 z
 self:=λ_ _ _ _ _ ⟨⟨_,s1⟩,_⟩ h=>wpAny_pyIter_enum s1 h
def al2(ta:TA):TI:=λσ H R=>ta σ H λvs H1=>∃a xs,vs=[.ref a]/\H1 a=some (.lst xs)/\R (Ite a) H1
def af8{a:Expr}{x1}{p ax:Pos}(hg:Gl X "enumerate")(hm:X.mg "enumerate"=none)(ha:PA X [a] ta)(hs:starEach [a] X.env=[(false,eval a X.env)]:=by rfl) :
  PI X (.Tuple b6 x1 ax) (.Call (.Name "enumerate" p) [a] [] pos) (al2 ta):=by
 intro aa s σ H R I h;refine Call_ (BJ I hg hm boot_enumerate (PyProof.Rows.callWith_type1 (thn (ha pos aa s σ H _ I h) λus s1 hP=>?_) (by rw[hs];rfl) (by rfl)));obtain⟨vs,H1,I1,r1,q1⟩:=hP;obtain⟨l1,xs,e,h1,q⟩:=q1;subst e;obtain⟨u,rfl,ru⟩:=r1.one;cases ru;obtain⟨_,fg,n1,gz,le1,g1⟩:=I1.lstM h1;refine call_enumerate_list (items:=fg.toArray) ⟨_,g1,rfl,n1,rfl⟩ λh' a1 a2 a3 a7=>?_;refine wpAny_pyIter_enum a1 ?_;refine⟨_,[s1.heap.objs.size+1,s1.heap.objs.size],_,Ite l1,H1,rfl,I1.kept (t':=s1.toks) λb ob e=>a7 b ob e,ZQ _ _ l1 (Nat.succ_ne_self _),⟨⟨_,a1⟩,a2⟩,λb hb=>?_,q⟩;have ck:s1.heap.objs.size<=b:=by
  simp only[YU,Up,or_false]at hb;rcases hb with z|z
  .rw[z];exact Xs _
  .rw[z];exact aG _
 exact I1.fpOk ck (I1.hok.fresh ck)
def Bm(i:Int):Prop:=i.natAbs<2^500000
def Bm.bits{i:Int}(h:Bm i):Builtin.Int.intBits i<=2^20:=by
 have e:(2:Nat)^20=1048576:=by decide
 have l:i.natAbs.log2<500000:=by
  by_cases h0:i.natAbs=0
  .rw[h0,Nat.log2_zero];exact Th _
  .exact(Nat.log2_lt h0).mpr h
 unfold Builtin.Int.intBits;split
 .exact aZ _
 .lia
def agA : OpR X (binaryOp .Mult) (rI (λi j=>Bm i/\Bm j) λi j=>.int (i*j)):=opI λ_ _ _ _ _ _ _ hc q=>mul_int q (.of_bits hc.1.bits hc.2.bits)
section
variable{prog:Program}{w:World}{A:Around}{E:Ε}{h:Heap}{g:xE}{d:Drawn}{t:Nat}{os:OsState}{nm q:Str}{C N:Addr}{bs bm k7:Θ}{gi:Bool}{sn:Φ}{sub:Θ}{ab:Bool}{col:xN}{dd:Ξ}{k0 k1 k2 k3 k5:Ω}{B eh fh:String}
abbrev Oj(h:Heap)(C:Addr)(us:Θ):Heap:=(h.push { cls:=.type "tuple",data:=.seq us.toArray }).push { cls:=.ref C,data:=.fields #[.ref h.objs.size,.none,.none,.none,.bool false,.none] }
def Hl(b:Addr)(o:Obj)(e:h.get? b=some o):(Oj h C us).get? b=some o:=aH _ (aH _ e)
def Mx(F:ExcBaseFacts B eh fh k7)(T:OwnTail h k7 bm){oI:Obj}{Q:Fin->Shared->Prop}(hC:h.get? C=some (excClassObj nm q C N bs bm gi sn sub ab col dd k0 k1 k2 k3 k5 eh))(hn:h.Ns N mN)(hi:mN "__init__"=some (.ref fI))(hf:h.get? fI=some oI)(hc:oI.cls=.type "function")(hl:us.length<=sizeLine)
 (hq:wpAny (model prog w) A (call (.ref fI) (.ref (h.objs.size+1)::us)) (λr s'=>r=.none/\Q (.done (.ret (.ref (h.objs.size+1)))) s') E ⟨Oj h C us,g,d,t,os⟩):wpAny (model prog w) A (Builtin.«type.__call__» ⟨.ref C::us,[]⟩) Q E ⟨h,g,d,t,os⟩:=by
 have K:=Hl (h:=h) (C:=C) (us:=us);have C1:=K _ _ hC;have T1:=T.keeps K;have at_:(Oj h C us).get? (h.objs.size+1)=some { cls:=.ref C,data:=.fields #[.ref h.objs.size,.none,.none,.none,.bool false,.none] }:=by heap_get
 have isC:(Value.ref C::bm).contains (.ref C)=true:=by simp
 repeat (first|with_reducible refine wpAny_loadPart_at hC ?_|with_reducible refine wpAny_madeBy_exc hC ?_|wp_step)
 refine codeAny_call_builtin_code (Code.quiet_builtin _ F.quiet) (wpAny_check_new_subT F T hC (codeAny_exc_new_subT F T hC ?_ hl));show wpAny _ _ _ _ _ _;unfold isInstance
 repeat (first|with_reducible refine wpAny_loadPart_at at_ ?_|(with_reducible refine wpAny_isSubtype_exc C1 ?_;rw[isC])|wp_step)
 show wpAny _ _ (typeLookup (.ref C) _) _ _ _;refine wpAny_typeLookup_tail C1 (hn.keeps K) T1 F.mroIs F.init.lookup ?_;rw[hi];refine wpAny_holding (ZU ?_);unfold bindSpecial;refine ZU (wpAny_typeOf (T:="function") ⟨_,K _ _ hf,hc⟩ ?_);rw[ZY wb];refine ZT (ZU (wpAny_mono hq (λr s' hP=>?_) λ_ _ x=>x));obtain⟨e,z⟩:=hP;subst e
 wp_walk
 exact z
def acn(F:ExcBaseFacts B eh fh k7)(T:OwnTail h k7 bm){oI:Obj}{Q:Ε}(hC:h.get? C=some (excClassObj nm q C N bs bm gi sn sub ab col dd k0 k1 k2 k3 k5 eh))(hn:h.Ns N mN)(hi:mN "__init__"=some (.ref fI))(hf:h.get? fI=some oI)(hc:oI.cls=.type "function")(hl:us.length<=sizeLine)
 (hq:wpAny (model prog w) (A.under (.builtin "type.__call__" ⟨.ref C::us,[]⟩)) (call (.ref fI) (.ref (h.objs.size+1)::us)) (λr s'=>r=.none/\Q (.ref (h.objs.size+1)) s') E ⟨Oj h C us,g,d,t,os⟩):wpAny (model prog w) A (call (.ref C) us) Q E ⟨h,g,d,t,os⟩:=by
 have a1:=tc_lookup;have a2:=tc_bind (.ref C);have a3:(⟨h,g,d,t,os⟩ : Shared).TypeIs (.ref C) "type":=⟨_,hC,rfl⟩;refine wpAny_call (codeAny_of_tree ?_);show wpAny _ _ (callAny (.ref C) _) _ _ _
 repeat (any_goals (first|assumption|with_reducible refine wpAny_loadPart_at hC ?_|wp_step))
 exact⟨rfl,codeAny_call_builtin_at (Code.quiet_builtin _ (by decide +kernel)) entry_typeCall (wpAny_check_type_call_sub hC (Mx F T hC hn hi hf hc hl hq))⟩
end
def Px:Θ->Bool
 |.ref _::l=>Px l
 |l=>l==bmV
def XS{self:Value}{l:Θ}(h:Px l=true):refuseLoop self "__setattr__" l=pure ():=by
 induction l with
 |nil=>cases h
 |cons x l ih =>
  cases x with
  |ref C=>rw[refuseLoop_ref];exact ih h
  |type n =>
   have e:Value.type n::l=bmV:=beq_iff_eq.mp h;rw[e];exact PySem.F.store_ValueError.passes self
  |_=>exact absurd (beq_iff_eq.mp h) (by intro z;cases z)
structure acg(K:Frag)(C:Addr):Prop where
 cd:∃cd,clsIn K C=some cd/\cd.hasDict=true/\Px cd.mro=true
 sa:findIn K (.ref C) "__setattr__"=some (some (.builtin "object.__setattr__"))
 mo:mroIn K C (.type "object")=some true
def afn(X:K.In s.heap)(S:acg K C)(n:cg K C f)(hx:s.heap.get? x=some ox)(hc:ox.cls=.ref C)(hd:ox.dict=none)(hv:ox.data=.fields vs)
 (hq:∀h' t',h'.Ns1 s.heap.objs.size (λy=>if y=f then some v else none)->h'.get? x=some { ox with dict:=some s.heap.objs.size }->(∀b,b≠x->b≠s.heap.objs.size->h'.get? b=s.heap.get? b)->Q () ⟨h',s.gens,s.drawn,t',s.os⟩):wpAny (model prog w) A (setAttr (.ref x) f v) Q E s:=by
 obtain⟨cd,aI,hdi,hm⟩:=S.cd;have J:PySem.W.InstAt s.heap x ox C none:=⟨hx,hc,by unfold notCls;rw[hv],by rw[hd];trivial⟩;have SF:=PySem.F.store_object;refine set_plain X J S.sa ?_;have sub:PySem.W.Looks (model prog w) s.heap (isInstance (.ref x) (.type "object")) true:=J.type.andThen (looks_mroIn X S.mo);have lm:PySem.W.Looks (model prog w) s.heap (mroOf (.ref C)) cd.mro:=(looks_clsIn X aI).andThen .now;generalize fR:({ s with toks:=s.toks+1 } : Shared)=s1;have e1:s1.heap=s.heap:=by rw[<- fR]
 rw[<- e1]at sub lm X J;refine codeAny_call_builtin SF.slot.plain SF.entry (@PySem.W.check_slot (model prog w) _ _ s1 "object.__setattr__" "object" "__setattr__" (.ref x) [.str f s.toks,v] [] _ SF.kind SF.split sub (SF.args (.ref x) (.str f s.toks) v) ?_);rw[PySem.W.osa_eq,refuse_eq];refine ZU (ZU (J.type.here (ZU (lm.here ?_))));rw[XS hm];refine ZT (ZU (J.type.here (ZU ((looks_findIn X n).here (ZU (ZT ?_))))));have hx1:s1.heap.get? x=some ox:=by rwa[e1]
 obtain⟨oc,odi,oda,dt⟩:=ox;dsimp only at hc hd hv;subst hc hd hv;refine ZU (ZT (ZU (ZU (wpAny_loadPart hx1 (ZU ((looks_clsIn X aI).here ?_))))));rw[hdi,ZZ wp,ZZ (by simp[typeHasDict])];have e0:=fR;obtain⟨hp,gg,dr,tk,os⟩:=s1;dsimp only at hx1 e1 ⊢;cases e0;have hxs:x≠s.heap.objs.size:=aQ (aK hx);refine ZU (wpAny_alloc' (ZU (wpAny_update' (aH _ hx) (ZT ?_))));generalize hu:(s.heap.push { cls:=.type "dict",data:=.dict #[] }).update x _=hU;have q1:hU.get? s.heap.objs.size=some { cls:=.type "dict",data:=.dict #[] }:=by
  rw[<- hu];exact(Heap.get?_update_ne _ _ _ _ hxs.symm).trans (Heap.get?_push_at rfl rfl)
 have q2:hU.get? x=some { cls:=.ref C,dict:=some s.heap.objs.size,data:=.fields vs,slots:=dt }:=by
  rw[<- hu];exact Heap.get?_update_self _ (aH _ hx) rfl
 have q3:∀b,b≠x->b≠s.heap.objs.size->hU.get? b=s.heap.get? b:=λb n1 n2=>by
  rw[<- hu];exact(Heap.get?_update_ne _ _ _ _ n1).trans (Heap.get?_push_ne _ _ _ n2)
 dsimp only;unfold Builtin.ObjectAttr.storeInDict Builtin.ObjectAttr.newKeyGuard;refine ZU (ZT (ZU (wpAny_nsSet1 (Heap.Ns1.of_empty ⟨_,#[],_,q1,rfl,λ_ z=>absurd z wp,λ_=>rfl⟩) λh' hn hs=>?_)));obtain⟨oD,esD,epD,nE,oy,io⟩:=hn.count (Within.cons f v Within.nil);refine ZU (wpAny_lookBehind nE (by rw[oy];exact pastItsLine_dict (aL io (by rw[List.length_cons,List.length_nil,sizeLine_eq];exact Nat.le_add_left _ _))) ?_)
 wp_walk
 exact hq h' _ hn ((hs.2 x hxs).trans q2) λb n1 n2=>(hs.2 b n2).trans (q3 b n1 n2)
structure QL(K:Frag)(C HE fI:Addr):Prop where
 ex:∃nm qn N bs sn sub ab col dd k0 k1 k2 k3 k5,K.lookup C=some (excClassObj nm qn C N bs (.ref HE::bmV) true sn sub ab col dd k0 k1 k2 k3 k5 "ValueError.__new__")/\nsOkIn K N=true/\nsIn K N "__init__"=some (some (.ref fI))
 he:air K HE
 fn:∃o,K.lookup fI=some o/\o.cls=.type "function"
 kp:keepIn K (.ref C)=true
def af0{N:Addr}{m:Str->Ω}(X:K.In h)(G:h.Ns N m)(e:nsIn K N n=some (some v)):m n=some v:=by
 obtain⟨o,es,ep,ho,hd,_,hf⟩:=G;rw[<- hf];unfold nsIn at e;split at e
 .rename_i q
  cases(X _ _ q).symm.trans ho;cases hd;unfold nsFind findBy;rw[<- Array.find?_toList];split at e
  .rename_i en he
   cases e;rw[he];rfl
  .split at e<;>cases e
 .cases e
def QL.obj(q:QL K C HE fI)(X:K.In h):∃nm qn N bs sn sub ab col dd k0 k1 k2 k3 k5 mN o,h.get? C=some (excClassObj nm qn C N bs (.ref HE::bmV) true sn sub ab col dd k0 k1 k2 k3 k5 "ValueError.__new__") /\
  h.Ns N mN/\mN "__init__"=some (.ref fI)/\h.get? fI=some o/\o.cls=.type "function"/\OwnTail h bmV (.ref HE::bmV):=by
 obtain⟨nm,qn,N,bs,sn,sub,ab,col,dd,k0,k1,k2,k3,k5,l,a,b⟩:=q.ex;obtain⟨o,lo,ho⟩:=q.fn;obtain⟨bm,N',nm',qn',bs',bu,sn',sub',ab',col',p6,k0',k1',k2',k3',k5',mN',hC,hN,hi,T⟩:=aeM X q.he;exact⟨nm,qn,N,bs,sn,sub,ab,col,dd,k0,k1,k2,k3,k5,_,o,X _ _ l,.of_isNs (isNs_of_in X a),af0 X (.of_isNs (isNs_of_in X a)) b,X _ _ lo,ho,.own hC hN hi .base⟩
abbrev Uj(C t:Addr)(d:Ξ):Obj:={ cls:=.ref C,dict:=d,data:=.fields #[.ref t,.none,.none,.none,.bool false,.none] }
def XN(a C:Addr)(d:Ξ):HO:=.ext λh=>∃t,h.get? a=some (Uj C t d)
def aex{t:Addr}{d:Ξ}(e:h.get? a=some (Uj C t d)):fK P w H h a (XN a C d):=⟨⟨t,e⟩,⟨_,e⟩,λ_ _ ⟨u,z⟩ k=>⟨u,k _ z⟩⟩
def Ze{d:Ξ}(e:fK P w H h a (XN a C d)):∃t,h.get? a=some (Uj C t d):=e.1
def ai4{o:HO}(e:H a=some o):upd H a o=H:=by
 funext b;unfold upd;split
 .rename_i z;rw[z,e]
 .rfl
structure ad5(K:Frag)(B:Addr):Prop where
 ga:specialIn K (.ref B) "__getattribute__"=some (some (.builtin "type.__getattribute__"))
 rd:readsIn K B (.type "type")=true
 at_:findCls K (.ref B) (.type "type") "__init__"=some (.val (.builtin "ValueError.__init__"))
section
variable{X:Cx}{B C HE fI:Addr}{x:Str}{p pos ai:Pos}{e:Expr}{es:xz}{t:TA}{aa:Δ}{σ:L2.St}{H:Hp}{s:Shared}
def init_exc{Q:Ε}(I:Inv X aa σ H s)(q:QL X.K C HE fI)(ha:H a=some (XN a C none))(hl:us.length<=sizeLine)
 (h:∀s',Inv X aa σ H s'->Q .none s'):wpAny (model X.prog X.w) A (call (.builtin "ValueError.__init__") (.ref a::us)) Q E s:=by
 obtain⟨nm,qn,N,bs,sn,sub,ab,col,dd,k0,k1,k2,k3,k5,mN,o,hC,hN,hi,hf,oj,T⟩:=q.obj I.kIn;obtain⟨u,hx⟩:=Ze (I.hok a _ ha);have F:=PySem.F.excBase_ValueError;obtain⟨hp,gs,dr,tk,os⟩:=s;refine wpAny_call (codeAny_call_builtin F.init.plain F.initEntry (wpAny_check_init_subT F T hC hx rfl ?_))
 wp_walk
 refine h _ ?_;have e1:(hp.push { cls:=.type "tuple",data:=.seq us.toArray }).get? a=some (Uj C u none):=aH _ hx;have J:=I.write (x:=a) (e:=a) (o:=XN a C none) (t':=tk) (h':=(hp.push { cls:=.type "tuple",data:=.seq us.toArray }).update a (Obj.mapFields λx=>x.setIfInBounds 0 (Value.ref hp.objs.size))) (by rw[ha];trivial) (.inl rfl)
  (λb v n z=>(Heap.get?_update_other _ _ (Ne.symm n)).trans (aH _ z)) ⟨_,Heap.get?_update_self _ e1 rfl⟩ (aex (t:=hp.objs.size) (Heap.get?_update_self _ e1 rfl))
 rwa[ai4 ha]at J
def ahJ(C:Addr)(t:TA):TE:=λσ H Q=>t σ H λvs H1=>∃a ws,vs=.ref a::ws/\H1 a=some (XN a C none)/\ws.length<=sizeLine/\Q .non H1
def adC(c:ad5 X.K B)(q:QL X.K C HE fI)(hg:Gl X x)(hm:X.mg x=some (.ref B))(ha:PA X (e::es) t)(br:qk x:=by decide)
 (bv:qr X e es:=by rfl)(hpl:qV X pos es:=by rfl)
 (ht:eval (.Call (.Attribute (.Name x p) "__init__" ai) (e::es) [] pos) X.env=(do
   let ov <- eval (.Name x p) X.env
   standAt ai.atName
   let(f,first) <- holding [ov] (getMethod ov "__init__" pl)
   callWith pos f first (backTo pos (starEach (e::es) X.env)) (backToKw pos (keywordEach [] X.env))):=by rfl) :
  PE X (.Call (.Attribute (.Name x p) "__init__" ai) (e::es) [] pos) (ahJ C t):=by
 intro aa s σ H Q I h;refine methodCall_KW (pl:=pl) (rK I hg hm (method_cls I.kIn c.ga (cls_value I.kIn c.rd c.at_ wb ?_)) br) ht;show wpAny _ _ (callWith pos (.builtin "ValueError.__init__") [] (backTo pos (starEach (e::es) X.env)) []) _ _ _;have h2:=ha pos aa _ σ H _ (I.tok (s.toks+1)) h;rw[bv]at h2 ⊢;refine PySem.W.callWith_of (P:=λ_=>True) (by show((false || (backTo pos (starEach es X.env)).any (·.1)) || false)=false;rw[hpl];rfl) (λ_ _=>⟨.machine,.inr (.inl rfl),.now⟩) (Calls.evalArgs_plain (thn h2 λus s2 ⟨vs,H2,I2,r,a,ws,e1,e2,e3,e4⟩=>⟨trivial,?_⟩));subst e1;cases r with
 |cons r1 r2 =>
  cases r1;exact init_exc I2 q e2 (by rwa[<- r2.length]) λs' J=>⟨.non,H2,J,rfl,e4⟩
end
variable{v:V}{ta:TE}
def aag(I:Inv X aa σ H s)(e:H a=some (XN a C none))(c:acg X.K C)(n:cg X.K C f)(r:RelV v u)
 (h:∀d s',H d=none->d≠a->Inv X aa σ (upd (upd H a (XN a C (some d))) d (.xd [(f,v)])) s'->Q () s'):wpAny (model X.prog X.w) A (setAttr (.ref a) f u) Q E s:=by
 obtain⟨t,ha⟩:=Ze (I.hok a _ e);have nd:H s.heap.objs.size=none:=I.hok.fresh (aG _);have na:s.heap.objs.size≠a:=(aQ (aK ha)).symm;refine afn I.kIn c n ha rfl rfl rfl λh' t' hn hx ho=>h s.heap.objs.size _ nd na ?_;have J:=I.write (x:=a) (e:=a) (o:=XN a C (some s.heap.objs.size)) (t':=t') (h':=h') (by rw[e];trivial) (.inl rfl) (λb w z q=>(ho b z (aQ (aK q))).trans q) ⟨_,hx⟩ (aex hx);refine J.track ((bZ na).trans nd) (Heap.get?_none_of_le I.sz) (UY I.lt) (λx c q z=>?_) (λp q z=>?_) ⟨_,hn,λg=>?_⟩
 .obtain⟨w,o,q',_⟩:=I.cell x c q;rw[z]at q';exact X9 _ (aK q')
 .have q':=(I.pin p q).1;rw[z]at q';exact X9 _ (aK q')
 .by_cases z:g=f
  .subst z;simp[List.lookup];exact r
  .have:(g==f)=false:=by simp[z]
   simp[List.lookup,this,z]
   trivial
def akX(K:Frag)(ta tv:TE)(f:Str):TS:=λD σ H=>tv σ H λy H1=>ta σ H1 λx H2=>∃a C,x=.ref a/\H2 a=some (XN a C none)/\acg K C/\cg K C f/\∀d,H2 d=none->d≠a->D.nx σ (upd (upd H2 a (XN a C (some d))) d (.xd [(f,y)]))
def afV{o:Expr}(ha:PE X o ta)(hv:PE X ar tv)(hs:swapsWith ar (some (.Attribute o f aS)) pos.line X.env=pure false):PS X (.Assign [.Attribute o f aS] ar pos) (akX X.K ta tv f):=by
 intro aa s σ H D I h;refine plainObj_wpAny_Assign_Attribute (thn (hv aa s σ H _ I h) λu s1 ⟨y,H1,I1,ry,q⟩=>thn (ha aa s1 σ H1 _ I1 q) λov s2 hP=>?_) hs;obtain⟨x,H2,I2,rx,a,C,ex,ea,c,n,q2⟩:=hP;subst ex;obtain rfl:ov=Value.ref a:=rx;exact aag I2 ea c n ry λd s3 h1 h2 I3=>⟨σ,_,I3,q2 d h1 h2⟩
def Inv.madeE(I:Inv X aa σ H s):Inv X aa σ (upd H (s.heap.objs.size+1) (XN (s.heap.objs.size+1) C none)) { s with heap:=Oj s.heap C us } :=
 I.laid (a:=s.heap.objs.size+1) (o:=XN (s.heap.objs.size+1) C none) (h':=Oj s.heap C us) (t':=s.toks) Hl (Xs _) (aex (t:=s.heap.objs.size) (by heap_get))
def aa6{vs:Ζ}{Q:Addr->Hp->Prop}(q:QL X.K C HE fI)(F:fL X.prog X.w X.K X.mg X.base CX0 k fI fd ps sp)(hr:d9 (k+1) X.A)(hb:Binds X.K fd ps [])
 (I:Inv X aa σ H s)(r:Vals vs us)(hl:us.length<=sizeLine)(h:∀x,H x=none->sp (.ref x::vs) (upd H x (XN x C none)) (λv H2=>v=.non/\Q x H2) E0) :
  wpAny (model X.prog X.w) X.A (call (.ref C) us) (λu s'=>∃a H',u=.ref a/\X.s₀.heap.objs.size<=a/\Inv X aa σ H' s'/\Q a H') X.xe s:=by
 obtain⟨nm,qn,N,bs,sn,sub,ab,col,dd,k0,k1,k2,k3,k5,mN,o,hC,hN,hi,hf,oj,T⟩:=q.obj I.kIn;have hq:=h (s.heap.objs.size+1) (I.hok.fresh (Xs _));have I2:=I.madeE (C:=C) (us:=us);have r2:Vals (V.ref (s.heap.objs.size+1)::vs) (Value.ref (s.heap.objs.size+1)::us):=.cons rfl r;have hl2:(Value.ref (s.heap.objs.size+1)::us++[]).length=ps.length:=by
  rw[List.append_nil,<- r2.length];exact F.len _ _ _ _ hq
 have ck:=hb _ (Value.ref (s.heap.objs.size+1)::us) I2.kIn hl2;rw[List.append_nil]at ck;have sz:=I.sz;obtain⟨hp,g,d,t,os⟩:=s;refine acn PySem.F.excBase_ValueError T hC hN hi hf oj hl (wpAny_call (codeAny_mono (F.run _ X.stack _ _ ⟨Value.ref (hp.objs.size+1)::us,[]⟩ _ _ _ E0 (hr.make C us []) (I2.env0.make C us []) ck r2 hq) λr s' c9=>?_));cases r with
 |error e=>exact O9 aa σ _ _ e s' I2 c9
 |ok fl =>
  cases fl with
  |ret u =>
   obtain⟨v,H',I3,rv,ev,q3⟩:=I2.after c9;subst ev;exact⟨rv,hp.objs.size+1,H',rfl,Nat.le_succ_of_le sz,I3,q3⟩
  |next=>exact False.elim c9
  |brk=>exact False.elim c9
  |cont=>exact False.elim c9
def out(H:Hp)(a:Addr):Hp:=λb=>if b=a then none else H b
def VP : out H a a=none:=by unfold out;rw[ZY rfl]
def xW(n:b≠a):out H a b=H b:=by unfold out;rw[ZZ n]
def Ub{o:HO}(e:out H a b=some o):b≠a/\H b=some o:=by
 by_cases z:b=a
 .subst z;rw[VP]at e;cases e
 .exact⟨z,by rw[xW z]at e;exact e⟩
section
variable{X:Cx}{aa:Δ}{σ:L2.St}{H:Hp}{s:Shared}{a C:Addr}{B h':Heap}{d:Ξ}
def Inv.flyMade(I:Inv X aa σ H s)(hx:X.ex=[])(e:H a=some (XN a C d))(sz:X.s₀.heap.objs.size<=a)(hB:B=hideAll (s.heap.hide a) (frs X.stack))(fl:v9 B X.outer a (.ref C) d .none h')(up:s.heap.UpToSlots h') :
  Fly X.prog X.w X.outer X.H₀ X.s₀ a (.ref C) (out H a) { s with heap:=h' } B d:=by
 have kR:∀b o,b≠a->s.heap.get? b=some o->b∉frs X.stack->B.get? b=some o:=λb o n q m=>by rw[hB];exact hideAll_get _ ((Heap.hide_ne _ n).trans q) m
 have ni:∀b u,H b=some u->b∉frs X.stack:=λb u q z=>by rw[I.stkFree b z]at q;cases q
 have trk:∀b u o,b≠a->H b=some u->s.heap.get? b=some o->B.get? b=some o:=λb u o n q r=>kR b o n r (ni b u q);have na:∀b,H b=none->b≠a:=λb q z=>by rw[z,e]at q;cases q
 have nf:∀b∈frs X.stack,∀o,s.heap.get? b=some o->∀vs,o.data≠.fields vs:=λb hb o q=>by
  obtain⟨_,o',e',z⟩:=I.stack.mem hb;rw[q]at e';cases e';exact z
 have hok:HOk X.prog X.w (out H a) h':=λb u q=>by
  obtain⟨n,q⟩:=Ub q;refine(I.hok b u q).stay (λc v hc r=>?_) (λc r=>?_) λc xs r=>?_
  .rcases hc with z|z
   .subst z;exact fl.1 c v (trk c u v n q r)
   .exact fl.1 c v (trk c _ v (JW z e (by intro z;cases z)) z r)
  .rw[xW (JW r e (by intro z;cases z))];exact r
  .rw[xW (JW r e (by intro z;cases z))];exact r
 have un:Un (frs X.stack) [a] H (out H a) s.heap h':=by
  refine⟨λb o q n hb _=>fl.1 b o (kR b o (na b n) q hb),λb o q n hb _=>up b o q (nf b hb o q),λb o _ n _=>by rw[xW (na b n)];exact n,λb o q hb=>?_,λb xs q=>?_,λb o u q=>?_,λb ps q=>⟨#[],?_⟩⟩
  .by_cases m:b∈frs X.stack
   .obtain⟨sl,r⟩:=up b o q (nf b m o q);exact⟨_,r⟩
   .exact⟨o,fl.1 b o (kR b o (by simpa using hb) q m)⟩
  .rw[xW (JW q e (by intro z;cases z))];exact q
  .rw[xW (JW q e (by intro z;cases z))];exact q
  .rw[xW (JW q e (by intro z;cases z)),q];simp
 have J:Inv X aa σ (out H a) { s with heap:=h' }:=I.call' (s':={ s with heap:=h' }) (ch:=[a]) rfl un hok I.bare λb hb=>by
  obtain rfl:b=a:=by simpa using hb
  exact⟨.inr sz,(λz=>by have:=I.free;rw[<- z,e]at this;cases this),(λx c q z=>by have:=I.freeC x c q;rw[z,e]at this;cases this),(λp hp z=>by have:=(I.pin p hp).2.1;rw[z,e]at this;cases this)⟩
 have lta:∀b o,X.s₀.heap.get? b=some o->b≠a:=λb o q z=>X9 a (aR (z ▸ aK q) sz);refine⟨J.os,J.bare,Heap.get?_none_of_le sz,by have:=J.base;rw[hx]at this;exact this,J.hok,λb hb=>?_,fl,λb o q hb hc=>?_⟩
 .obtain⟨_,o,ho,_⟩:=I.ok.funs.mem hb;exact J.base.free b o ho (I.ok.frf b hb) λz=>I.ok.exfs b z hb
 .have aE:∀v,B.get? b=some v->B.get? b=some o:=λv y=>by
   have e2:=fl.1 b v y;rw[show({ s with heap:=h' } : Shared).heap.get? b=h'.get? b from rfl,e2]at q;cases q;exact y
  rcases hc with⟨u,r⟩|⟨u,r⟩
  .obtain⟨⟨v,z⟩,n⟩:=I.old hx r;exact aE v (kR b v (lta b u r) z (I.nostk n hb))
  .obtain⟨n,r⟩:=Ub r;obtain⟨o',e'⟩:=(I.hok b u r).there;exact aE o' (trk b u o' n r e')
end
def Xy(X:Cx)(Ex:Value->Ξ->L2.St->Hp->Prop):Prop :=
 ∀aa σ H s a C d,Inv X aa σ H s->H a=some (XN a C d)->X.s₀.heap.objs.size<=a->Ex (.ref C) d σ (out H a)->X.xe (.ref a) s
variable{f:Addr}{E:XK}
def Z5:Xy (Cy (CXO P w) P w K mg base N ag scope f cd A outer s H E) (λC d _ H'=>E C d H'):=by
 intro aa σ H1 s1 a C d I e sz q;show wpAny _ _ (leaving _ (.ref a)) _ _ _;have kr:∀env∈(envOfC ag scope s.heap.objs.size f cd::outer),∀b,env.frame=some b->b∈frs (envOfC ag scope s.heap.objs.size f cd::outer):=λenv he b hb=>List.mem_filterMap.mpr ⟨env,he,hb⟩;obtain⟨t,ha⟩:=Ze (I.hok a _ e);have fr:(s1.heap.hide a).FunFrames base (envOfC ag scope s.heap.objs.size f cd::outer):=PySem.W.funFrames_hideAll (as:=[a]) I.stack λenv he b hb z=>by
  obtain rfl:b=a:=by simpa using hb
  have:=I.stkFree b (kr env he b z);rw[e]at this;cases this
 refine aaA (base:=hideAll (s1.heap.hide a) (frs (envOfC ag scope s.heap.objs.size f cd::outer))) (h0:=s1.heap.hide a) (outer:=outer) I.ok.frames rfl (λb o q=>of_hideAll _ q) (PySem.W.funFrames_hide fr kr) (λb o q=>Heap.of_hide q) (Heap.hide_self _ _) ha rfl rfl λh' fl up=>?_;exact⟨a,.ref C,d,out H1 a,_,rfl,I.flyMade rfl e sz rfl fl up,q⟩
section
variable{prog:Program}{w:World}{A:Around}{E:Ε}{s:Shared}{env:Env}{nm qn:Str}{C N:Addr}{bs bm:Θ}{hd:Bool}{sn:Φ}{sub:Θ}{ab:Bool}{col:xN}{dd:Ξ}{k0 k1 k2 k3 k5:Ω}
def Z2{x:Sem Value}{Q:Flow->Shared->Prop}(hb:bm.contains (.type "BaseException")=true)(hh:A.handled=none)
 (h:wpAny (model prog w) A x (λv s1=>∃a t d,v=.ref a/\s1.heap.get? C=some (excClassObj nm qn C N bs bm hd sn sub ab col dd k0 k1 k2 k3 k5 "ValueError.__new__")/\s1.heap.get? a=some (Uj C t d)/\E (.ref a) s1) E s):wpAny (model prog w) A (raiseStmt env (some x) none) Q E s:=by
 have hB:(Value.ref C::bm).contains (.type "BaseException")=true:=by rw[List.contains_cons,hb,Bool.or_true]
 unfold raiseStmt;refine ZU (wpAny_mono h (λv s1 z=>?_) λ_ _ z=>z);obtain⟨a,t,d,rfl,hC,ha,hE⟩:=z;obtain⟨hp,gs,dr,tk,os⟩:=s1
 repeat (first|with_reducible refine wpAny_loadPart_at ha ?_|with_reducible refine wpAny_loadPart_at hC ?_|(with_reducible refine wpAny_isSubtype_exc hC ?_;rw[hB])|wp_step)
 exact wpAny_raiseNew_none hh hE
end
section
variable{X:Cx}{x:Str}{np af pos:Pos}{e₀:Expr}{rest:xz}{ta:TA}{C HE fI:Addr}{Ex:Value->Ξ->L2.St->Hp->Prop}{k:Nat}{ps:Φ}{sp:Sp}
def afv(C:Addr)(sp:Sp)(Ex:Value->Ξ->L2.St->Hp->Prop)(ta:TA):TS:=λ_ σ H=>ta σ H λvs H1=>vs.length<=sizeLine/\∀a,H1 a=none->sp (.ref a::vs) (upd H1 a (XN a C none)) (λv H2=>v=.non/\∃d,H2 a=some (XN a C d)/\Ex (.ref C) d σ (out H2 a)) E0
def aac(hc:X.calm=true)(hg:Gl X x)(hm:X.mg x=some (.ref C))(q:QL X.K C HE fI)(G:zn X CX0 k fI ps sp)(hr:d9 (k+1) X.A)(hx:Xy X Ex)(ha:PA X (e₀::rest) ta)(br:qk x:=by decide)
 (he:qr X e₀ rest:=by rfl)(hpl:qV X af rest:=by rfl) :
  PS X (.Raise (some (.Call (.Name x np) (e₀::rest) [] af)) none pos) (afv C sp Ex ta):=by
 obtain⟨fd,F,hb⟩:=G;intro aa s σ H D I h;obtain⟨nm,qn,N,bs,sn,sub,ab,col,dd,k0,k1,k2,k3,k5,mN,o,hC,hN,hi,hf,oj,T⟩:=q.obj I.ok.mod.kin;rw[arm_exec_Raise];refine ZU (wpAny_standAt (Z2 (C:=C) (nm:=nm) (qn:=qn) (N:=N) (bs:=bs) (bm:=.ref HE::bmV) (hd:=true) (sn:=sn) (sub:=sub) (ab:=ab) (col:=col) (dd:=dd) (k0:=k0) (k1:=k1) (k2:=k2) (k3:=k3) (k5:=k5) (T.hasType wb) (I.ok.hd hc) ?_));refine ZU (thn (Q:=λu s1=>∃a H' d,u=.ref a/\X.s₀.heap.objs.size<=a/\Inv X aa σ H' s1/\H' a=some (XN a C d)/\Ex (.ref C) d σ (out H' a)) ?_ λu s1 ⟨a,H',d,e1,e2,I1,e3,e4⟩=>ZU (wpAny_standAt (ZT ?_)))
 .refine wpAny_Call_Name_kw (rK I hg hm ?_ br);refine callWith_K (h₀:=X.base) I.ok.mod.kin q.kp (thn (ha af aa s σ H _ I h) λus s1 ⟨vs,H1,I1,r,hl,q1⟩=>⟨I1.kIn,?_⟩) he hpl;exact thn (aa6 (Q:=λa H2=>∃d,H2 a=some (XN a C d)/\Ex (.ref C) d σ (out H2 a)) q F hr hb I1 r (by show us.length<=_;rwa[<- r.length]) q1) λu s2 hP=>by obtain⟨a,H2,e1,e2,I2,d,e3,e4⟩:=hP;exact⟨a,H2,d,e1,e2,I2,e3,e4⟩
 .obtain⟨t,ht⟩:=Ze (I1.hok a _ e3);exact⟨a,t,d,e1,I1.bk _ _ hC,ht,hx aa σ H' s1 a C d I1 e3 e2 e4⟩
end
variable{f:Str}{od:Option Obj}{E:Ε}{d:Drawn}
def Xp{tk:Tok}{fl b:Bool}{Q:Ε}(X:K.In h)(T:aa4 K C)(J:PySem.W.InstAt h a o C od)(hx:h.get? a=some o)(hc:o.cls=.ref C)(hf:PySem.W.findObj K C od f=some (.value u))(hh:handedIn u=true)(hq:Q u ⟨h,g,d,t,os⟩) :
  wpAny (model prog w) A (getAttrBy (.ref a) (.str f tk) fl b) Q E ⟨h,g,d,t,os⟩:=by
 have f3:=F.excAttr_ValueError.ga.bind (.ref a);have n2:(Value.builtin "BaseException.__getattribute__"== Value.builtin "object.__getattribute__")=false:=by decide +kernel
 have n1:(onTheHeap (Value.ref C)&&Value.builtin "BaseException.__getattribute__"== Value.builtin "object.__getattribute__")=false:=by rw[n2];exact Bool.and_false _
 have LT:=D_ (M:=model prog w) hx hc;have LG:=looks_findIn (M:=model prog w) X T.ga;have LN:=looks_findIn (M:=model prog w) X T.gn;have LF:=PySem.W.looks_find (M:=model prog w) X J hf
 repeat (any_goals (first|assumption|with_reducible refine LT.at ?_|with_reducible refine LG.at ?_|with_reducible refine LN.at ?_|(with_reducible refine wpAny_loadPart_at hx ?_;rw[hc])|wp_step))
 rw[ZZ (show ¬(b&&onTheHeap (Value.builtin "BaseException.__getattribute__"))=true from by rw[show onTheHeap (Value.builtin "BaseException.__getattribute__")=false from rfl,Bool.and_false];exact bw)]
 repeat (any_goals (first|assumption|wp_step))
 refine codeAny_call_builtin F.excAttr_ValueError.ga.plain F.entry_bexc_ga (PK X T hx hc ?_)
 repeat (any_goals (first|assumption|with_reducible refine LT.at ?_|with_reducible refine LF.at ?_|wp_step))
 show wpAny _ _ (handedOut u) _ _ _;rw[PySem.W.handedOut_of hh];exact ZT hq
variable{d:Addr}{fs:xl}
def aaY{b:Bool}{Q:Ε}(I:Inv X aa σ H s)(e:H a=some (XO a C (some d)))(ed:H d=some (.xd fs))(c:aa4 X.K C)(hh:hasDictIn X.K C=true)(n:cg X.K C f)(l:fs.lookup f=some v)
 (h:∀u s',Inv X aa σ H s'->RelV v u->Q u s'):wpAny (model X.prog X.w) A (getAttr (.ref a) f b) Q E s:=by
 obtain⟨ox,hx,hc,hd,vs,hv⟩:=(I.hok a _ e).1;obtain⟨mA,hn,r⟩:=I.hok d _ ed;obtain⟨od,ho,hl⟩:=N_ hn;obtain⟨u,hu,ru⟩:=yU.some_of (v:=v) (o:=mA f) (by rw[<- l];exact r f);have J:PySem.W.InstAt s.heap a ox C (some od):=⟨hx,hc,by unfold notCls;rw[hv],by rwa[hd]⟩;have I2:=I.tok (s.toks+1);have kI:=I.kIn;obtain⟨hp,g,dr,t,os⟩:=s;unfold getAttr
 repeat (first|exact Xp kI c J hx hc (findObj_own hh n rfl (by rw[hl,hu])) (Om ru) (h u _ I2 ru)|wp_step)
def ag0(K:Frag)(ta:TE)(f:Str):TE:=λσ H Q=>ta σ H λx H1=>∃a C d fs v,x=.ref a/\H1 a=some (XO a C (some d))/\H1 d=some (.xd fs)/\aa4 K C/\hasDictIn K C=true/\cg K C f/\fs.lookup f=some v/\Q v H1
def aeI(he:PE X e ta)(hb:zw X e f):PE X (.Attribute e f pos) (ag0 X.K ta f):=by
 intro aa s σ H Q I h;refine Y9 hb (thn (he aa s σ H _ I h) λu s1 hP=>?_);obtain⟨x,H1,I1,rx,a,C,d,fs,v,ex,ea,ed,c,hd,n,l,q⟩:=hP;subst ex;obtain rfl:u=Value.ref a:=rx;exact aaY I1 ea ed c hd n l λu' s2 I2 ru=>⟨v,H1,I2,ru,q⟩
def fsc{P:Φ}{sc:Scope}(h1:sc.kind=.function:=by rfl)(h2:sc.isCoroutine=false:=by rfl)(h3:sc.isGenerator=false:=by rfl)(h4:N.Nodup/\(∀x∈P,sc.names.lookup x=some .local\/sc.names.lookup x=some .cell)/\∀y∈sc.names,y.2≠.free:=by decide +kernel)(h5:N.take P.length=P:=by rfl):bK N P sc:=⟨h1,h2,h3,h4.1,h5,h4.2.1,h4.2.2⟩
abbrev CK0(sc scope:Scope)(N N' xs:Φ):Prop:=O2 xs N=N'/\(∀y∈scope.names,y.2=.local->scope.names.lookup y.1=some .local)/\(∀y∈scope.names,y.2=.free->sc.names.lookup y.1=some .cell\/sc.names.lookup y.1=some .free) /\
 (∀y∈N,y∉xs->(scope.names.map λ(n,k)=>if(k==NameKind.free&&sc.kind == .function&&sc.names.lookup n==some .cell)then(n,NameKind.cell)else(n,k)).lookup y≠some .local)/\∀y∈N,y∈xs->(scope.names.map λ(n,k)=>if(k==NameKind.free&&sc.kind == .function&&sc.names.lookup n==some .cell)then(n,NameKind.cell)else(n,k)).lookup (hid y)=none
abbrev CK(sc scope:Scope)(N N' xs:Φ):Prop:=(∀y∈scope.names,y.2≠.cell)/\CK0 sc scope N N' xs
def ad0(sc:Scope)(N N' xs:Φ)(hi:PI X tg iter wi)(hg:∀{C s₀ H₀ ex pn},PG (X.compG N' scope xs C s₀ H₀ ex pn) tg gt)(ht:∀{C s₀ H₀ ex pn},PTs (X.compG N' scope xs C s₀ H₀ ex pn) az tc)(he:∀{C s₀ H₀ ex pn},PE (X.compG N' scope xs C s₀ H₀ ex pn) be te)
 (cx:X.env.scope=sc:=by rfl)(cS:X.N=N:=by rfl)(hc:X.calm=true:=by rfl)(hk:scope.kind=.function:=by rfl)(h:CK sc scope N N' xs:=by decide +kernel)(hs:qA X iter:=by intro _;rfl):PE X (.ListComp be [⟨tg,iter,az,0⟩] scope pos) (rR wi xs.length (tMG gt) (tMT tc) (tM te)) :=
 by
 subst cx cS;exact Wg (aj5 hk h.1) hc h.2.1 hk h.2.2.1 h.2.2.2.1 h.2.2.2.2.1 h.2.2.2.2.2 hi (λ_ _ _ _ _=>hg.mono) (λ_ _ _ _ _=>ht.mono) (λ_ _ _ _ _=>he.mono) hs
def aki{i j:Int}{d:Ξ}{n:Nat}{sl:Array (Ω)}{t u:Tok}(l:K.lookup a=some ⟨.type "tuple",d,.seq #[.int i t,.int j u] n,sl⟩):∀H,SqT K H a [.int i,.int j]:=λH=>.inr ⟨_,_,_,l,rfl,rfl,(by show 2<=sizeLine;decide),.cons ⟨_,rfl⟩ (.cons ⟨_,rfl⟩ .nil)⟩
def ap5{x:Str}{i:Int}{t:Tok}(X:K.In h)(G:h.Ns mainGlobals mg)(l:nsIn K mainGlobals x=some (some (.int i t))):∃u,mg x=some u/\RelV (.int i) u:=⟨_,mg_of X G l,_,rfl⟩
def Lst:Nat->(Θ->Prop)->Prop
 |0,P=>P []
 |n+1,P=>∀a,Lst n λl=>P (a::l)
theorem Ss:∀(n:Nat){P:Θ->Prop},Lst n P->∀us:Θ,us.length=n->P us
 |0,_,h,[],_=>h
 |n+1,_,h,a::l,e=>Ss n (h a) l (Nat.succ.inj e)
section
variable{K:Frag}{h:Heap}{mg:Str->Ω}{x m ag:Str}{v:Value}{C f:Addr}{st:Stmt}{ps:Φ}{oc:Value}{od an:Ξ}{dt:Array (Ω)}{kV bP pm ah ct:Value}{i j:Int}{d:Ξ}{n:Nat}{sl:Array (Ω)}{t u:Tok}
def q_c(X:K.In h:=by assumption)(G:h.Ns mainGlobals mg:=by assumption)(e:nsIn K mainGlobals x=some (some v):=by k_is):mg x=some v:=mg_of X G e
def q_z(X:K.In h:=by assumption)(G:h.Ns mainGlobals mg:=by assumption)(e:nsIn K mainGlobals x=some none:=by k_is):mg x=none:=PySem.W.mg_none_of X G e
def q_n(e:findIn K (.ref C) x=some none:=by k_is):cg K C x:=e
def q_m(a:findIn K (.ref C) m=some (some (.ref f)):=by k_is)(b:isFn K (.ref f)=true:=by k_is)(c:keepIn K (.ref f)=true:=by k_is):Meth K C m f:=⟨a,b,c⟩
def q_M(a:makesIn K C=true:=by k_is)(b:findIn K (.ref C) "__init__"=some (some (.ref f)):=by k_is)(c:isFn K (.ref f)=true:=by k_is)(e:keepIn K (.ref C)=true:=by k_is):Mk K C f:=⟨a,b,c,e⟩
def q_4(a:plainGet K C Str.empty=true:=by k_is)(b:hasDictIn K C=true:=by k_is)(c:plainOver K C=true:=by k_is)(e:findIn K (.ref C) "__setattr__"=some (some (.builtin "object.__setattr__")):=by k_is):Cls K C:=⟨a,b,c,e⟩
def q_B(a:specialIn K (.ref C) "__getattribute__"=some (some (.builtin "type.__getattribute__")):=by k_is)(b:readsIn K C (.type "type")=true:=by k_is)(c:findCls K (.ref C) (.type "type") m=some (.val (.ref f)):=by k_is)(e:keepIn K (.ref f)=true:=by k_is):G7 K C m f:=⟨a,b,c,rfl,e⟩
def q_g(X:K.In h:=by assumption)(G:h.Ns mainGlobals mg:=by assumption)(l:nsIn K mainGlobals x=some (some (.int i t)):=by k_is):∃u,mg x=some u/\RelV (.int i) u:=ap5 X G l
def q_t(l:K.lookup C=some ⟨.type "tuple",d,.seq #[.int i t,.int j u] n,sl⟩:=by k_is):∀H,SqT K H C [.int i,.int j]:=aki l
def q_f(hb:∀(kV bP pm:Value)(an:Ξ)(ah ct:Value),Lst ps.length λus=>bindArgs (PySem.W.fnOf x x (jM st) (fD st) (bG st) .none kV bP pm an ah ct) ⟨us,[]⟩=pure (ps.zip us):=by repeat (first|rfl|intro _))(X:K.In h:=by assumption)(G:h.Ns mainGlobals mg:=by assumption)
 (a:nsIn K mainGlobals x=some (some (.ref f)):=by k_is)(l:K.lookup f=some ⟨oc,od,.func (PySem.W.fnOf x x (jM st) (fD st) (bG st) .none kV bP pm an ah ct),dt⟩:=by k_is)
 (c:codeIn K ah x=true:=by k_is)(k:keepIn K (.ref f)=true:=by k_is):cH K mg x st ps:=afC X G a l c k λkV bP pm an ah ct us e=>Ss _ (hb kV bP pm an ah ct) us e
def q_h(hb:∀(kV bP pm:Value)(an:Ξ)(ah ct:Value),Lst ps.length λus=>bindArgs (PySem.W.fnOf x ag (jM st) (fD st) (bG st) .none kV bP pm an ah ct) ⟨us,[]⟩=pure (ps.zip us):=by repeat (first|rfl|intro _))
 (l:K.lookup f=some ⟨oc,od,.func (PySem.W.fnOf x ag (jM st) (fD st) (bG st) .none kV bP pm an ah ct),dt⟩:=by k_is)(c:codeIn K ah ag=true:=by k_is)(k:keepIn K (.ref f)=true:=by k_is):Af K x ag st ps f:=ago l c k λkV bP pm an ah ct us e=>Ss _ (hb kV bP pm an ah ct) us e
end
variable{N:Addr}{nm qn:Str}{bs sub:Θ}{sn:Φ}{ab:Bool}{col:xN}{dd:Ξ}{k0 k1 k2 k3 k5:Ω}{cd:ClassData}{t:TA}{x:V}
def q_E(he:excIn K HE bmV "ValueError.__new__"=true:=by k_exc)(l:K.lookup C=some (excClassObj nm qn C N bs (.ref HE::bmV) true sn sub ab col dd k0 k1 k2 k3 k5 "ValueError.__new__"):=by k_is)(n1:nsOkIn K N=true:=by kernel_rfl)(n2:nsIn K N "__init__"=some (some (.ref fI)):=by k_is)
 (lf:K.lookup fI=some o:=by k_is)(hf:o.cls=.type "function":=by rfl)(kp:keepIn K (.ref C)=true:=by k_is):QL K C HE fI:=⟨⟨nm,qn,N,bs,sn,sub,ab,col,dd,k0,k1,k2,k3,k5,l,n1,n2⟩,he,⟨o,lf,hf⟩,kp⟩
def q_S(a:clsIn K C=some cd:=by k_is)(b:cd.hasDict=true:=by rfl)(c:Px cd.mro=true:=by rfl)(e:findIn K (.ref C) "__setattr__"=some (some (.builtin "object.__setattr__")):=by k_is)(m:mroIn K C (.type "object")=some true:=by k_is):acg K C:=⟨⟨cd,a,b,c⟩,e,m⟩
def q_b(a:specialIn K (.ref C) "__getattribute__"=some (some (.builtin "type.__getattribute__")):=by k_is)(b:readsIn K C (.type "type")=true:=by k_is)(c:findCls K (.ref C) (.type "type") "__init__"=some (.val (.builtin "ValueError.__init__")):=by k_is):ad5 K C:=⟨a,b,c⟩
def q_5(a:findIn K (.ref C) "__getattribute__"=some (some (.builtin "BaseException.__getattribute__")):=by k_is)(b:findIn K (.ref C) "__getattr__"=some none:=by k_is)(c:findIn K (.ref C) "__class__"=some (some (.builtin "object.__class__")):=by k_is)(e:mroIn K C (.type "object")=some true:=by k_is)(m:mroIn K C (.type "BaseException")=some true:=by k_is):aa4 K C:=⟨a,b,c,e,m⟩
def adF{K':Frag}(hK:X.K=K')(he:PE X e ta)(hb:zw X e f):PE X (.Attribute e f pos) (ag0 K' ta f):=by
 subst hK;exact aeI he hb
def apL(t:TA):TE:=λσ H Q=>t σ H λxs H1=>xs.length<=sizeLine/\∀p H',Same H1 H'->H1 p=none->H' p=some (.tup xs)->Q (.ref p) H'
def Qw(h:PA X es t):PE X (.Tuple es k pos) (apL t):=(abo h.mono).imp λσ H Q h=>⟨_,h,λxs H1 z=>⟨z.1,λp hp=>z.2 p _ (Same.upd hp) hp cj⟩⟩
def akW:R2:=λx y H Q=>∃l b xs zs,x=.ref l/\y=.ref b/\H l=some (.lst xs)/\H b=some (.lst zs)/\xs.length+zs.length<=sizeLine/\∀p H',Same H H'->H p=none->H' p=some (.lst (xs++zs))->Q (.ref p) H'
def ae4:OpR X (binaryOp .Add) akW:=ahW.imp λx y H Q hP=>by obtain⟨l,b,xs,zs,e1,e2,h1,h2,z,q⟩:=hP;exact⟨l,b,xs,zs,e1,e2,h1,h2,z,λp hp=>q p _ (Same.upd hp) hp cj⟩
def amU:Ζ->Hp->VK->Prop:=λxs H Q=>∃p ys,xs=[.ref p]/\H p=some (.lst ys)/\∀l H',Same H H'->H l=none->H' l=some (.tup ys)->Q (.ref l) H'
def aaK:jx X (.type "tuple") amU:=NP.imp λxs H Q hP=>by obtain⟨p,ys,a,b,c⟩:=hP;exact⟨p,ys,a,.inl ⟨.of b,λl hl=>c l _ (Same.upd hl) hl cj⟩⟩
def aoS(to:TE):TE:=λσ H Q=>to σ H λx H1=>∃l xs,x=.ref l/\H1 l=some (.lst xs)/\Q .non (upd H1 l (.lst xs.reverse))
def aiL{o:Expr}(ho:PE X o to)(hb:attributeBase o "reverse" X.env (eval o X.env)=eval o X.env:=by rfl)(hl:zh ai af:=by rfl) :
  PE X (.Call (.Attribute o "reverse" ai) [] [] af) (aoS to):=by
 refine(ahT PySem.F.plainAttrs_list PySem.F.slot_list_reverse PySem.F.type_list_reverse Wx ho.mono hb hl).imp λσ H Q h=>?_;refine⟨_,h,?_⟩;rintro x H1 ⟨l,xs,rfl,hx,q⟩;exact⟨.inl ⟨rfl,_,SqL.of hx⟩,l,xs,rfl,rfl,hx,q⟩
section
variable{X:Cx}{k:Nat}{f C B:Addr}{ps:Φ}{sp:Sp}{x m:Str}{p pos ai:Pos}{e:Expr}{es:xz}{t:TA}
def ajA(C:Addr)(sp:Sp)(t:TA):TE:=λσ H Q=>t σ H λvs H1=>∀x dx,H1 x=none->H1 dx=none->dx≠x->sp (.ref x::vs) (upd (upd H1 dx (.own x)) x (.ins C dx [])) (λv H2=>v=.non/\Q (.ref x) H2) E0
def ad1(M:Mk X.K C f)(G:zn X CX0 k f ps sp)(hr:d9 (k+1) X.A)(hg:Gl X x)(hm:X.mg x=some (.ref C))(ha:PA X (e::es) t)(br:qk x:=by decide)
 (he:qr X e es:=by rfl)(hpl:qV X pos es:=by rfl):PE X (.Call (.Name x p) (e::es) [] pos) (ajA C sp t):=by
 obtain⟨fd,F,hb⟩:=G;refine(aeH M F hr hg hm hb .nil O9 ha.mono br he hpl).imp λσ H Q h=>⟨_,h,λvs H1 q x dx h1 h2 h3=>?_⟩;rw[List.append_nil];exact q x dx h1 h2 h3
def abv(c:G7 X.K B m f)(G:zn X CX0 k f ps sp)(hr:d9 k X.A)(hg:Gl X x)(hm:X.mg x=some (.ref B))(ha:PA X (e::es) t)(br:qk x:=by decide)
 (bv:qr X e es:=by rfl)(hpl:qV X pos es:=by rfl)
 (ht:eval (.Call (.Attribute (.Name x p) m ai) (e::es) [] pos) X.env=(do
   let ov <- eval (.Name x p) X.env
   standAt ai.atName
   let(f,first) <- holding [ov] (getMethod ov m pl)
   callWith pos f first (backTo pos (starEach (e::es) X.env)) (backToKw pos (keywordEach [] X.env))):=by rfl) :
  PE X (.Call (.Attribute (.Name x p) m ai) (e::es) [] pos) (Xv sp t):=by
 obtain⟨fd,F,hb⟩:=G;exact af7 (pl:=pl) c F hr hg hm hb ha br bv hpl ht
end
inductive T where
 |any|non|bl (b:Bool)|int (i:Int)|str (s:Str)|val (v:V)
 |tup (ts:List T)|lst (ts:List T)|scr (ts:List T)
 |dct (ks:xB) (ts:List T)|ins (C:Addr) (ks:Φ) (ts:List T)|exc (C:Addr) (ks:Φ) (ts:List T)
abbrev zD:=List T
abbrev wx:=List zD
def afe(F:Hp):Ξ->xl->Prop
 |none,l=>l=[]
 |some d,l=>F d=some (.xd l)
mutual
inductive Rep(K:Frag)(F:Hp):V->T->Prop
 |any (v:V):Rep K F v .any
 |non:Rep K F .non .non
 |bl (b:Bool):Rep K F (.bl b) (.bl b)
 |int (i:Int):Rep K F (.int i) (.int i)
 |str (s:Str):Rep K F (.str s) (.str s)
 |val (v:V):Rep K F v (.val v)
 |tup {a:Addr}{xs:Ζ}{ts:zD} : SqT K F a xs->b_ K F xs ts->Rep K F (.ref a) (.tup ts)
 |lst {a:Addr}{xs:Ζ}{ts:zD} : F a=some (.lst xs)->b_ K F xs ts->Rep K F (.ref a) (.lst ts)
 |scr {a:Addr}{xs:Ζ}{ts:zD} : SqL K F a xs->b_ K F xs ts->Rep K F (.ref a) (.scr ts)
 |dct {a:Addr}{ks:xB}{xs:Ζ}{ts:zD} : Rd F a (.dK (ks.zip xs))->ks.length=xs.length->b_ K F xs ts->Rep K F (.ref a) (.dct ks ts)
 |ins {a C dx:Addr}{ks:Φ}{xs:Ζ}{ts:zD} : F a=some (.ins C dx (ks.zip xs))->F dx=some (.own a)->ks.length=xs.length->b_ K F xs ts->Rep K F (.ref a) (.ins C ks ts)
 |exc {a C:Addr}{d:Ξ}{ks:Φ}{xs:Ζ}{ts:zD} : F a=some (XO a C d)->afe F d (ks.zip xs)->ks.length=xs.length->b_ K F xs ts->Rep K F (.ref a) (.exc C ks ts)
inductive b_(K:Frag)(F:Hp):Ζ->zD->Prop
 |nil:b_ K F [] []
 |cons {x:V}{xs:Ζ}{t:T}{ts:zD} : Rep K F x t->b_ K F xs ts->b_ K F (x::xs) (t::ts)
end
variable{ts:zD}{S:Addr->Prop}
section
variable{K:Frag}{F F' H H':Hp}
def Same.rd{u:HO}(S:Same F F')(h:Rd F a u):Rd F' a u:=h.imp (S _ _) λhP=>by obtain⟨o,e⟩:=hP;exact⟨o,S _ _ e⟩
def afe.same{d:Ξ}{l:xl}(S:Same F F')(h:afe F d l):afe F' d l:=by
 cases d with
 |none=>exact h
 |some d=>exact S _ _ h
mutual
theorem Rep.same(S:Same F F'):∀{x:V}{t:T},Rep K F x t->Rep K F' x t
 |_,_,.any v=>.any v
 |_,_,.non=>.non
 |_,_,.bl b=>.bl b
 |_,_,.int i=>.int i
 |_,_,.str s=>.str s
 |_,_,.val v=>.val v
 |_,_,.tup e h=>.tup (S.tup e) (b_.same S h)
 |_,_,.lst e h=>.lst (S _ _ e) (b_.same S h)
 |_,_,.scr e h=>.scr (S.seq e) (b_.same S h)
 |_,_,.dct e l h=>.dct (S.rd e) l (b_.same S h)
 |_,_,.ins e d l h=>.ins (S _ _ e) (S _ _ d) l (b_.same S h)
 |_,_,.exc e d l h=>.exc (S _ _ e) (d.same S) l (b_.same S h)
theorem b_.same(S:Same F F'):∀{xs:Ζ}{ts:zD},b_ K F xs ts->b_ K F' xs ts
 |_,_,.nil=>.nil
 |_,_,.cons h t=>.cons (Rep.same S h) (b_.same S t)
end
def Rep.lstI(h:Rep K F x (.lst ts)):∃a xs,x=.ref a/\F a=some (.lst xs)/\b_ K F xs ts:=by cases h;exact⟨_,_,rfl,by assumption,by assumption⟩
def Rep.tupI(h:Rep K F x (.tup ts)):∃a xs,x=.ref a/\SqT K F a xs/\b_ K F xs ts:=by cases h;exact⟨_,_,rfl,by assumption,by assumption⟩
def Rep.scrI(h:Rep K F x (.scr ts)):∃a xs,x=.ref a/\SqL K F a xs/\b_ K F xs ts:=by cases h;exact⟨_,_,rfl,by assumption,by assumption⟩
def Rep.dctI{ks:xB}(h:Rep K F x (.dct ks ts)):∃a xs,x=.ref a/\Rd F a (.dK (ks.zip xs))/\ks.length=xs.length/\b_ K F xs ts:=by cases h;exact⟨_,_,rfl,by assumption,by assumption,by assumption⟩
def Rep.insI{ks:Φ}(h:Rep K F x (.ins C ks ts)):∃a dx xs,x=.ref a/\F a=some (.ins C dx (ks.zip xs))/\F dx=some (.own a)/\ks.length=xs.length/\b_ K F xs ts:=by cases h;exact⟨_,_,_,rfl,by assumption,by assumption,by assumption,by assumption⟩
theorem b_.len:∀{xs:Ζ}{ts:zD},b_ K F xs ts->xs.length=ts.length
 |_,_,.nil=>rfl
 |_,_,.cons _ t=>ZH (· + 1) (b_.len t)
theorem b_.app:∀{xs ys:Ζ}{ts us:zD},b_ K F xs ts->b_ K F ys us->b_ K F (xs++ys) (ts++us)
 |_,_,_,_,.nil,h=>h
 |_,_,_,_,.cons a b,h=>.cons a (b_.app b h)
theorem b_.at_:∀{xs:Ζ}{ts:zD}{i:Nat}{t:T},b_ K F xs ts->ts[i]?=some t->∃x,xs[i]?=some x/\Rep K F x t
 |_,_,_,_,.nil,e=>by cases e
 |_,_,0,_,.cons a _,e=>by cases e;exact⟨_,rfl,a⟩
 |_,_,i+1,_,.cons _ b,e=>by
  obtain⟨x,q,r⟩:=b_.at_ (i:=i) b (by simpa using e);exact⟨x,by simpa using q,r⟩
theorem b_.of_at:∀{xs:Ζ}{ts:zD},xs.length=ts.length->(∀(i:Nat)x t,xs[i]?=some x->ts[i]?=some t->Rep K F x t)->b_ K F xs ts
 |[],[],_,_=>.nil
 |x::xs,t::ts,l,h=>.cons (h 0 x t rfl rfl) (b_.of_at (Nat.succ.inj l) λi y u e1 e2=>h (i+1) y u e1 e2)
 |[],_::_,l,_=>by cases l
 |_::_,[],l,_=>by cases l
theorem b_.set{x:V}{t:T}(r:Rep K F x t):∀{xs:Ζ}{ts:zD}(i:Nat),b_ K F xs ts->b_ K F (xs.set i x) (ts.set i t)
 |_,_,_,.nil=>.nil
 |_,_,0,.cons _ h=>.cons r h
 |_,_,i+1,.cons a h=>.cons a (b_.set r i h)
theorem b_.take:∀{xs:Ζ}{ts:zD}(n:Nat),b_ K F xs ts->b_ K F (xs.take n) (ts.take n)
 |_,_,0,_=>.nil
 |_,_,_+1,.nil=>.nil
 |_,_,n+1,.cons a h=>.cons a (b_.take n h)
theorem b_.drop:∀{xs:Ζ}{ts:zD}(n:Nat),b_ K F xs ts->b_ K F (xs.drop n) (ts.drop n)
 |_,_,0,h=>h
 |_,_,_+1,.nil=>.nil
 |_,_,n+1,.cons _ h=>b_.drop n h
def hd(S:Addr->Prop)(H:Hp):Hp:=λb=>open Classical in if S b then none else H b
def o7(h:S b):hd S H b=none:=by unfold hd;rw[ZY h]
def cW(h:¬S b):hd S H b=H b:=by unfold hd;rw[ZZ h]
def cT{o:HO}(e:hd S H b=some o):¬S b/\H b=some o:=by
 by_cases h:S b
 .rw[o7 h]at e;cases e
 .rw[cW h]at e;exact⟨h,e⟩
def iw{S':Addr->Prop}(i:∀b,S' b->S b\/H b=none)(e:Same H H'):Same (hd S H) (hd S' H'):=λb o h=>by
 obtain⟨n,h⟩:=cT h;rw[cW λz=>?_]
 .exact e _ _ h
 .rcases i b z with y|y
  .exact n y
  .rw[h]at y;cases y
def cQ : Same (hd S H) H:=λ_ _ h=>(cT h).2
def bU(e:Same H H'):Same (hd S H) (hd S H'):=iw (λ_=>.inl) e
def Ip:hd (λ_=>False) H=H:=funext λ_=>cW id
inductive OT where
 |und|fz (t:T)|l1 (ts:zD)|l2 (tss:wx)|d1 (ks:xB) (ts:zD)|ob (a dx C:Addr) (ks:Φ) (ts:zD)|la (a:Addr) (ts:zD)
abbrev zI:=List OT
def frz:OT->T
 |.und=>.any
 |.fz t=>t
 |.l1 ts=>.lst ts
 |.l2 tss=>.lst (tss.map T.lst)
 |.d1 ks ts=>.dct ks ts
 |.ob _ _ C ks ts=>.ins C ks ts
 |.la _ ts=>.lst ts
def Slo(K:Frag)(F H:Hp)(v:xD)(A:Ψ):OT->Prop
 |.und=>A=[]
 |.fz t=>A=[]/\∃u,v=some u/\Rep K F u t
 |.l1 ts=>∃a xs,v=some (.ref a)/\A=[a]/\H a=some (.lst xs)/\b_ K F xs ts
 |.l2 tss=>∃a bs,v=some (.ref a)/\A=a::bs/\(a::bs).Nodup/\H a=some (.lst (bs.map V.ref))/\bs.length=tss.length/\∀(i:Nat)b ts,bs[i]?=some b->tss[i]?=some ts->∃xs,H b=some (.lst xs)/\b_ K F xs ts
 |.d1 ks ts=>∃a xs,v=some (.ref a)/\A=[a]/\H a=some (.dK (ks.zip xs))/\ks.length=xs.length/\b_ K F xs ts
 |.ob a dx C ks ts=>∃xs,v=some (.ref a)/\A=[a,dx]/\H a=some (.ins C dx (ks.zip xs))/\H dx=some (.own a)/\ks.length=xs.length/\b_ K F xs ts
 |.la a ts=>∃xs,v=some (.ref a)/\A=[a]/\H a=some (.lst xs)/\b_ K F xs ts
def Slo.same{v:xD}{A:Ψ}(S:Same F F')(E:Same H H'):∀{x:OT},Slo K F H v A x->Slo K F' H' v A x
 |.und,h=>h
 |.fz _,⟨a,u,e,r⟩=>⟨a,u,e,r.same S⟩
 |.l1 _,⟨a,xs,e,z,h,r⟩=>⟨a,xs,e,z,E _ _ h,r.same S⟩
 |.l2 _,⟨a,bs,e,z,n,h,l,r⟩=>⟨a,bs,e,z,n,E _ _ h,l,λi b ts e1 e2=>let⟨xs,q,r⟩:=r i b ts e1 e2;⟨xs,E _ _ q,r.same S⟩⟩
 |.d1 _ _,⟨a,xs,e,z,h,l,r⟩=>⟨a,xs,e,z,E _ _ h,l,r.same S⟩
 |.ob _ _ _ _ _,⟨xs,e,z,h,d,l,r⟩=>⟨xs,e,z,E _ _ h,E _ _ d,l,r.same S⟩
 |.la _ _,⟨xs,e,z,h,r⟩=>⟨xs,e,z,E _ _ h,r.same S⟩
def Slo.off{v:xD}{A:Ψ} : ∀{x:OT},Slo K F H v A x->(∀b∈A,∀u,H b=some u->H' b=some u)->Slo K F H' v A x
 |.und,s,_=>s
 |.fz _,s,_=>s
 |.l1 _,⟨a,xs,e,z,w,r⟩,off=>⟨a,xs,e,z,off a (by rw[z];simp) _ w,r⟩
 |.l2 _,⟨a,bs,e,z,nd,w,l,r⟩,off=>⟨a,bs,e,z,nd,off a (by rw[z];simp) _ w,l,λi b ts e1 e2=>let⟨xs,q,r⟩:=r i b ts e1 e2;⟨xs,off b (by rw[z];exact aJ _ (aC e1)) _ q,r⟩⟩
 |.d1 _ _,⟨a,xs,e,z,w,r⟩,off=>⟨a,xs,e,z,off a (by rw[z];simp) _ w,r⟩
 |.ob a dx _ _ _,⟨xs,e,z,w,d,r⟩,off=>⟨xs,e,z,off a (by rw[z];simp) _ w,off dx (by rw[z];simp) _ d,r⟩
 |.la a _,⟨xs,e,z,w,r⟩,off=>⟨xs,e,z,off a (by rw[z];simp) _ w,r⟩
def acy(H:Hp)(a:Addr):Prop:=∃o,H a=some o/\((∃xs,o=.lst xs)\/(∃k,o=.dK k)\/(∃C d f,o=.ins C d f)\/∃x,o=.own x)
def Slo.sole{v:xD}{A:Ψ}{x:OT}(h:Slo K F H v A x)(ha:a∈A):acy H a:=by
 cases x with
 |und=>rw[show A=[]from h]at ha;cases ha
 |fz t=>rw[h.1]at ha;cases ha
 |l1 ts=>obtain⟨b,xs,_,rfl,e,_⟩:=h;cases YR.mp ha;exact⟨_,e,.inl ⟨_,rfl⟩⟩
 |l2 tss =>
  obtain⟨b,bs,_,rfl,_,e,l,r⟩:=h;rcases YU.mp ha with z|z
  .exact⟨_,z ▸ e,.inl ⟨_,rfl⟩⟩
  .obtain⟨i,hi⟩:=aV z;have li:i<tss.length:=l ▸ (ao.mp hi).1;obtain⟨xs,q,_⟩:=r i a _ hi (aj li);exact⟨_,q,.inl ⟨_,rfl⟩⟩
 |d1 ks ts=>obtain⟨b,xs,_,rfl,e,_⟩:=h;cases YR.mp ha;exact⟨_,e,.inr (.inl ⟨_,rfl⟩)⟩
 |ob b dx C ks ts =>
  obtain⟨xs,_,rfl,e,d,_⟩:=h;rcases YU.mp ha with z|z
  .exact⟨_,z ▸ e,.inr (.inr (.inl ⟨_,_,_,rfl⟩))⟩
  .cases YR.mp z;exact⟨_,d,.inr (.inr (.inr ⟨_,rfl⟩))⟩
 |la b ts=>obtain⟨xs,_,rfl,e,_⟩:=h;cases YR.mp ha;exact⟨_,e,.inl ⟨_,rfl⟩⟩
def Slo.frz{u:V}{A:Ψ}{x:OT}(h:Slo K F H (some u) A x)(S:Same F F')(E:∀a∈A,F' a=H a):Rep K F' u (frz x):=by
 cases x with
 |und=>exact .any _
 |fz t=>obtain⟨_,w,e,r⟩:=h;cases e;exact r.same S
 |l1 ts=>obtain⟨b,xs,e,rfl,q,r⟩:=h;cases e;exact .lst ((E _ wp).trans q) (r.same S)
 |l2 tss =>
  obtain⟨b,bs,e,rfl,_,q,l,r⟩:=h;cases e;refine .lst ((E _ wp).trans q) (b_.of_at (by simp[l]) λi x t e1 e2=>?_);rw[aq]at e1 e2;cases e3:bs[i]? with
  |none=>rw[e3]at e1;cases e1
  |some c =>
   cases e4:tss[i]? with
   |none=>rw[e4]at e2;cases e2
   |some ts =>
    rw[e3]at e1;rw[e4]at e2;cases e1;cases e2;obtain⟨xs,q,r⟩:=r i c ts e3 e4;exact .lst ((E _ (aJ _ (aC e3))).trans q) (r.same S)
 |d1 ks ts=>obtain⟨b,xs,e,rfl,q,l,r⟩:=h;cases e;exact .dct (.inl ((E _ wp).trans q)) l (r.same S)
 |ob b dx C ks ts=>obtain⟨xs,e,rfl,q,d,l,r⟩:=h;cases e;exact .ins ((E _ wp).trans q) ((E _ wp).trans d) l (r.same S)
 |la b ts=>obtain⟨xs,e,rfl,q,r⟩:=h;cases e;exact .lst ((E _ wp).trans q) (r.same S)
def Ow(own:Nat->Ψ)(b:Addr):Prop:=∃i,b∈own i
structure SR(K:Frag)(own:Nat->Ψ)(H:Hp)(σ:L2.St)(o:zI):Prop where
 len:o.length=σ.length
 sl:∀i x,o[i]?=some x->Slo K (hd (Ow own) H) H (σ[i]?.join) (own i) x
 out:∀i,o.length<=i->∀a∈own i,∃xs,H a=some (.lst xs)
 dis:∀i j a,a∈own i->a∈own j->i=j
variable{own:Nat->Ψ}{σ:L2.St}{o:zI}
def SR.same(h:SR K own H σ o)(E:Same H H'):SR K own H' σ o:=⟨h.len,λi x e=>(h.sl i x e).same (bU E) E,λi hi a ha=>let⟨xs,e⟩:=h.out i hi a ha;⟨xs,E _ _ e⟩,h.dis⟩
def SR.sole(h:SR K own H σ o){b:Addr}(z:Ow own b):acy H b:=by
 obtain⟨i,z⟩:=z;by_cases hi:i<o.length
 .exact(h.sl i _ (aj hi)).sole z
 .obtain⟨xs,e⟩:=h.out i (Nat.not_lt.mp hi) b z;exact⟨_,e,.inl ⟨_,rfl⟩⟩
def acy.ne(h:acy H a):H a≠none:=by
 obtain⟨o,e,_⟩:=h;rw[e];exact λz=>by cases z
def NR(K:Frag)(S:Addr->Prop)(H H':Hp)(v:V)(x:OT):Prop:=∃B,(∀a∈B,H a=none)/\Slo K (hd (λb=>S b\/b∈B) H') H' (some v) B x
def NR.rep{x:OT}(h:NR K S H H' v x)(hs:∀b,S b->H b≠none):Rep K (hd S H') v (L2.frz x):=by
 obtain⟨B,n,r⟩:=h;exact r.frz (iw (λb z=>.inl (.inl z)) (λ_ _ z=>z)) λa ha=>cW λz=>hs a z (n a ha)
def NR.fz{S:Addr->Prop}{v:V}{t:T}(h:Rep K (hd S H') v t):NR K S H H' v (.fz t):=⟨[],λ_ z=>(nomatch z),rfl,v,rfl,h.same (iw (λb z=>.inl (z.elim id λy=>(nomatch y))) λ_ _ z=>z)⟩
def NR.l1{S:Addr->Prop}{a:Addr}{xs:Ζ}{ts:zD}(n:H a=none)(e:H' a=some (.lst xs))(h:b_ K (hd (λb=>S b\/b=a) H') xs ts):NR K S H H' (.ref a) (.l1 ts) :=
 ⟨[a],λ_ z=>(YR.mp z) ▸ n,a,xs,rfl,rfl,e,h.same (iw (λb z=>.inl (z.imp id YR.mp)) λ_ _ z=>z)⟩
def NR.back{H0:Hp}{x:OT}(h:NR K S H H' v x)(E:Same H0 H):NR K S H0 H' v x:=by
 obtain⟨B,n,r⟩:=h;exact⟨B,λa ha=>E.free (n a ha),r⟩
def own1(own:Nat->Ψ)(i:Nat)(B:Ψ):Nat->Ψ:=λj=>if j=i then B else own j
def jY{B:Ψ} : own1 own i B i=B:=ZY rfl
def gq{j:Nat}{B:Ψ}(h:j≠i):own1 own i B j=own j:=ZZ h
def Ow.of1{B:Ψ}(h:Ow (own1 own i B) b):Ow own b\/b∈B:=by
 obtain⟨j,h⟩:=h;by_cases z:j=i
 .rw[z,jY]at h;exact .inr h
 .rw[gq z]at h;exact .inl ⟨j,h⟩
def SR.put(h:SR K own H σ o)(E:Same H H'){x:OT}(n:NR K (Ow own) H H' v x)(hi:i<o.length):∃am,SR K am H' (σ.set i (some v)) (o.set i x)/\Same (hd (Ow own) H) (hd (Ow am) H'):=by
 obtain⟨B,nb,r⟩:=n;have le:Same (hd (Ow own) H) (hd (Ow (own1 own i B)) H'):=iw (λb z=>z.of1.imp id (nb b)) E;refine⟨own1 own i B,⟨by rw[VY,VY,h.len],λj y e=>?_,λj hj=>?_,λj k a e1 e2=>?_⟩,le⟩
 .by_cases z:j=i
  .subst z;rw[UT hi]at e;cases e;rw[jY,UT (h.len ▸ hi)];exact r.same (iw (λb z=>.inl z.of1) λ_ _ z=>z) λ_ _ z=>z
  .rw[VQ (Ne.symm z)]at e;rw[gq z,VQ (Ne.symm z)];exact(h.sl j y e).same le E
 .rw[VY]at hj;rw[gq wf];intro a ha;obtain⟨xs,e⟩:=h.out j hj a ha;exact⟨xs,E _ _ e⟩
 .by_cases z:j=i<;>by_cases y:k=i
  .rw[z,y]
  .rw[z,jY]at e1;rw[gq y]at e2;exact absurd (nb a e1) (h.sole ⟨k,e2⟩).ne
  .rw[y,jY]at e2;rw[gq z]at e1;exact absurd (nb a e2) (h.sole ⟨j,e1⟩).ne
  .rw[gq z]at e1;rw[gq y]at e2;exact h.dis j k a e1 e2
def SR.frz(h:SR K own H σ o){i:Nat}{x:OT}(e:o[i]?=some x){u:V}(hu:σ[i]?=some (some u)):∃am,SR K am H σ (o.set i (.fz (L2.frz x)))/\Same (hd (Ow own) H) (hd (Ow am) H):=by
 have hi:i<o.length:=(ao.mp e).1;have le:Same (hd (Ow own) H) (hd (Ow (own1 own i [])) H):=iw (λb z=>.inl (z.of1.elim id λy=>(nomatch y))) λ_ _ z=>z;have hs:=h.sl i x e;rw[hu]at hs;refine⟨own1 own i [],⟨by rw[VY,h.len],λj y e'=>?_,λj hj=>?_,λj k a e1 e2=>?_⟩,le⟩
 .by_cases z:j=i
  .subst z;rw[UT hi]at e';cases e';rw[jY,hu];exact⟨rfl,u,rfl,Slo.frz hs le λa ha=>cW λz=>by
    obtain⟨k,z⟩:=z;by_cases y:k=j
    .rw[y,jY]at z;cases z
    .rw[gq y]at z;exact y (h.dis k j a z ha)⟩
  .rw[VQ (Ne.symm z)]at e';rw[gq z];exact(h.sl j y e').same le λ_ _ z=>z
 .rw[VY]at hj;rw[gq wf];exact h.out j hj
 .by_cases z:j=i
  .rw[z,jY]at e1;cases e1
  by_cases y:k=i
  .rw[y,jY]at e2;cases e2
  .rw[gq z]at e1;rw[gq y]at e2;exact h.dis j k a e1 e2
def SR.chg(h:SR K own H σ o){x:OT}(e:o[i]?=some x){y:OT}(E:∀b u,b∉own i->H b=some u->H' b=some u)(r:Slo K (hd (Ow own) H') H' (σ[i]?.join) (own i) y):SR K own H' σ (o.set i y)/\Same (hd (Ow own) H) (hd (Ow own) H'):=by
 have hi:i<o.length:=(ao.mp e).1;have le:Same (hd (Ow own) H) (hd (Ow own) H'):=λb u z=>by
  obtain⟨n,z⟩:=cT z;rw[cW n];exact E b u (λq=>n ⟨i,q⟩) z
 refine⟨⟨by rw[VY,h.len],λj z e'=>?_,λj hj a ha=>?_,h.dis⟩,le⟩
 rotate_left
 .rw[VY]at hj;obtain⟨xs,e2⟩:=h.out j hj a ha;exact⟨xs,E a _ (λz=>by have:=h.dis j i a ha z;lia) e2⟩
 by_cases q:j=i
 .subst q;rw[UT hi]at e';cases e';exact r
 .rw[VQ (Ne.symm q)]at e';exact((h.sl j z e').same le λ_ _ z=>z).off λb hb u=>E b u λz=>q (h.dis j i b hb z)
def SR.get(h:SR K own H σ o){i:Nat}{t:T}(e:o[i]?=some (.fz t)):∃u,σ[i]?=some (some u)/\Rep K (hd (Ow own) H) u t:=by
 obtain⟨_,u,q,r⟩:=h.sl i _ e;refine⟨u,?_,r⟩;cases z:σ[i]? with
 |none=>rw[z]at q;cases q
 |some w=>rw[z]at q;exact ZH some q
end
end L2
namespace L2
open PySem PySem.Spec PyProof.Rows
abbrev RE:=zI->(OT->Prop)->Prop
abbrev RT:=zI->(Bool->Prop)->Prop
abbrev RA:=zI->(zD->Prop)->Prop
def tQ(K:Frag)(r:RE):TE:=λσ H Q=>∃own o R,SR K own H σ o/\r o R/\∀H' v x,R x->Same H H'->NR K (Ow own) H H' v x->Q v H'
def tQT(K:Frag)(r:RT):TT:=λσ H Q=>∃own o R,SR K own H σ o/\r o R/\∀H' b,R b->Same H H'->Q b H'
def tQA(K:Frag)(n:Nat)(r:RA):TA:=λσ H Q=>∃own o R,SR K own H σ o/\r o R/\∀H' vs ts,R ts->ts.length=n->Same H H'->b_ K (hd (Ow own) H') vs ts->Q vs H'
def QE(X:Cx)(e:Expr)(r:RE):Prop:=PE X e (tQ X.K r)
def QT(X:Cx)(e:Expr)(r:RT):Prop:=PT X e (tQT X.K r)
def QW(X:Cx)(e:Expr)(r:RT):Prop:=PW X e (tQT X.K r)
def QA(X:Cx)(es:xz)(r:RA):Prop:=PA X es (tQA X.K es.length r)
variable{X:Cx}{e:Expr}{es:xz}{K:Frag}{own:Nat->Ψ}{H:Hp}{σ:L2.St}{o:zI}{R:OT->Prop}{Q:VK}{b:Bool}{x:Str}{pos:Pos}{t:T}{v:V}
def PT.imp{t t':TT}(h:PT X e t)(i:∀σ H Q,t' σ H Q->t σ H Q):PT X e t':=λaa s σ H Q I q=>h aa s σ H Q I (i σ H Q q)
def PW.imp{t t':TT}(h:PW X e t)(i:∀σ H Q,t' σ H Q->t σ H Q):PW X e t':=λwh aa s σ H Q I q=>h wh aa s σ H Q I (i σ H Q q)
def PA.imp{t t':TA}(h:PA X es t)(i:∀σ H Q,t' σ H Q->t σ H Q):PA X es t':=λp aa s σ H Q I q=>h p aa s σ H Q I (i σ H Q q)
def tQ.mk{r:RE}(h:SR K own H σ o)(hr:r o R)(k:∀H' v x,R x->Same H H'->Rep K (hd (Ow own) H') v (frz x)->Q v H'):tQ K r σ H Q :=
 ⟨own,o,R,h,hr,λH' v x rx E n=>k H' v x rx E (n.rep λb z=>(h.sole z).ne)⟩
def slot:zI->Nat->OT
 |[],_=>.und
 |x::_,0=>x
 |_::l,n+1=>slot l n
theorem jf:∀{o:zI}{i:Nat}{x:OT},slot o i=x->x≠.und->o[i]?=some x
 |[],_,_,e,n=>absurd e.symm n
 |_::_,0,_,e,_=>ZH some e
 |_::l,i+1,x,e,n=>by simpa using jf (o:=l) (i:=i) e n
def aco(i:Nat):RE:=λo q=>match slot o i with|.fz t=>q (.fz t)|_=>False
def rC(t:T):RE:=λ_ q=>q (.fz t)
abbrev zd:Type:=T->T->(OT->Prop)->Prop
def rOp(g:zd)(a b:RE):RE:=λo q=>a o λx=>b o λy=>g (frz x) (frz y) q
def rUn(g:T->(OT->Prop)->Prop)(a:RE):RE:=λo q=>a o λx=>g (frz x) q
def sw(b:Bool)(p q:Prop):Prop:=match b with|true=>p|false=>q
def sw2{p q:Prop}(h1:b=true->p)(h2:b=false->q):sw b p q:=by
 cases b
 .exact h2 rfl
 .exact h1 rfl
def swD{c:Prop}[Decidable c]{p q:Prop}(h1:c->p)(h2:¬c->q):sw (decide c) p q:=sw2 (λe=>h1 (of_decide_eq_true e)) λe=>h2 (of_decide_eq_false e)
def swT{p q:Prop}(e:b=true)(h:p):sw b p q:=by subst e;exact h
def swF{p q:Prop}(e:b=false)(h:q):sw b p q:=by subst e;exact h
def qv(i:Nat)(hN:X.N[i]?=some x:=by rfl)(hv:qX X.env.scope x=true:=by rfl)(hd:qk x:=by decide)
 (aI:qo x:=by decide):QE X (.Name x pos) (aco i):=(pv i hN hv hd aI).imp λσ H Q hP=>by
 obtain⟨own,o,R,h,hr,k⟩:=hP;unfold aco at hr;cases e:slot o i with
 |fz t =>
  rw[e]at hr;obtain⟨u,q,r⟩:=h.get (jf e (by intro z;cases z));exact⟨u,q,k H u _ hr (.refl _) (NR.fz r)⟩
 |_=>rw[e]at hr;exact hr.elim
def wr(hN:X.N[0]?=some x:=by rfl)(hv:qX X.env.scope x=true:=by rfl)(hd:qk x:=by decide)(aI:qo x:=by decide):QE X (.Name x pos) (aco 0):=qv 0 hN hv hd aI
def wn(hN:X.N[1]?=some x:=by rfl)(hv:qX X.env.scope x=true:=by rfl)(hd:qk x:=by decide)(aI:qo x:=by decide):QE X (.Name x pos) (aco 1):=qv 1 hN hv hd aI
def we(hN:X.N[2]?=some x:=by rfl)(hv:qX X.env.scope x=true:=by rfl)(hd:qk x:=by decide)(aI:qo x:=by decide):QE X (.Name x pos) (aco 2):=qv 2 hN hv hd aI
def wa(hN:X.N[3]?=some x:=by rfl)(hv:qX X.env.scope x=true:=by rfl)(hd:qk x:=by decide)(aI:qo x:=by decide):QE X (.Name x pos) (aco 3):=qv 3 hN hv hd aI
def wP(hN:X.N[4]?=some x:=by rfl)(hv:qX X.env.scope x=true:=by rfl)(hd:qk x:=by decide)(aI:qo x:=by decide):QE X (.Name x pos) (aco 4):=qv 4 hN hv hd aI
def wE(hN:X.N[5]?=some x:=by rfl)(hv:qX X.env.scope x=true:=by rfl)(hd:qk x:=by decide)(aI:qo x:=by decide):QE X (.Name x pos) (aco 5):=qv 5 hN hv hd aI
def qC(h:PE X e (tC v))(r:∀F,Rep X.K F v t):QE X e (rC t):=h.imp λσ H Q hP=>by obtain⟨own,o,R,_,hr,k⟩:=hP;exact k H v _ hr (.refl _) (NR.fz (r _))
def bA{i j pos} : QE X (.Constant (.int i) j pos) (rC (.int i)):=qC FW λ_=>.int _
def j5{b j pos} : QE X (.Constant (.bool b) j pos) (rC (.bl b)):=qC aj9 λ_=>.bl _
def fJ{j pos} : QE X (.Constant .none j pos) (rC .non):=qC acH λ_=>.non
def m9{x j pos} : QE X (.Constant (.str x) j pos) (rC (.str x)):=qC Qm λ_=>.str _
def abm(hm:∃u,X.mg x=some u/\RelV v u)(r:∀F,Rep X.K F v t)(hg:Gl X x:=by rfl)(hd:qk x:=by decide):QE X (.Name x pos) (rC t):=qC (aeo hg hm hd) r
variable{b a c:Expr}{ra rb re:RE}{g:zd}{op:CmpOp}{S:Addr->Prop}{H':Hp}{xs:Ζ}{ts:zD}{f:Addr}{P:Program}{w:World}{mg:Str->Ω}{base:Heap}{k n:Nat}{fd:FuncData}{ps:Φ}{r:RA}{p p2:Pos}{α:Type}{lo hi:Option Expr}
def GO(X:Cx)(f:Value->Value->Sem Value)(g:zd):Prop:=OpR X f λx y H Q=>∃S t u R,(∀b,S b->H b≠none)/\Rep X.K (hd S H) x t/\Rep X.K (hd S H) y u/\g t u R/\∀H' v z,R z->Same H H'->NR X.K S H H' v z->Q v H'
theorem q2{g:zd}{σ:L2.St}{H:Hp}{Q:VK}(h:tQ X.K (rOp g ra rb) σ H Q):tOp (λx y H Q=>∃S t u R,(∀b,S b->H b≠none)/\Rep X.K (hd S H) x t/\Rep X.K (hd S H) y u/\g t u R/\∀H' v z,R z->Same H H'->NR X.K S H H' v z->Q v H') (tQ X.K ra) (tQ X.K rb) σ H Q:=by
 obtain⟨own,o,R,h,hr,k⟩:=h;exact tQ.mk h hr λH1 v x q E1 r1=>tQ.mk (h.same E1) q λH2 w y q2 E2 r2=>⟨Ow own,_,_,R,λb z=>((h.same (E1.trans E2)).sole z).ne,r1.same (bU E2),r2,q2,λH' u z rz E3 n=>k H' u z rz (E1.trans (E2.trans E3)) (n.back (E1.trans E2))⟩
def bL{op:Operator}(ho:GO X (binaryOp op) g)(ha:QE X a ra)(hb:QE X b rb):QE X (.BinOp a op b pos) (rOp g ra rb):=(abU ho ha hb).imp λ_ _ _=>q2
def qK(ho:GO X (compareOp op) g)(ha:QE X a ra)(hb:QE X b rb)(hm:behindInMarks op b=false:=by exact acV _):QE X (.Compare a [op] [b] pos) (rOp g ra rb):=(afj ho ha hb hm).imp λ_ _ _=>q2
def gI(g:Int->Int->OT):zd
 |.int i,.int j,q=>q (g i j)
 |_,_,_=>False
def GO.ints{f:Value->Value->Sem Value}{g:Int->Int->V}{t:Int->Int->T}(h:OpR X f (rI0 g))(r:∀i j F,Rep X.K F (g i j) (t i j)):GO X f (gI λi j=>.fz (t i j)):=h.imp λx y H Q hP=>by
 obtain⟨S,t,u,R,_,hx,hy,hg,k⟩:=hP;cases hx<;>try exact hg.elim
 cases hy<;>try exact hg.elim
 exact⟨_,_,rfl,rfl,k H _ _ hg (.refl _) (NR.fz (r _ _ _))⟩
def Bp:GO X (binaryOp .Sub) (gI λi j=>.fz (.int (i-j))):=.ints aiq λ_ _ _=>.int _
def v7:GO X (compareOp .Lt) (gI λi j=>.fz (.bl (decide (i<j)))):=.ints ak9 λ_ _ _=>.bl _
def O5:GO X (compareOp .LtE) (gI λi j=>.fz (.bl (decide (i<=j)))):=.ints al8 λ_ _ _=>.bl _
def JR:GO X (compareOp .Gt) (gI λi j=>.fz (.bl (decide (j<i)))):=.ints anZ λ_ _ _=>.bl _
def agL:GO X (compareOp .GtE) (gI λi j=>.fz (.bl (decide (j<=i)))):=.ints al7 λ_ _ _=>.bl _
def ap9:zd
 |.int i,.int j,q=>q (.fz (.int (i+j)))
 |.str a,.str b,q=>a.length+b.length<=sizeLine/\q (.fz (.str (a++b)))
 |.lst a,.lst b,q=>a.length+b.length<=sizeLine/\q (.l1 (a++b))
 |_,_,_=>False
def Cm{p:Addr}(r:b_ X.K (hd S H) xs ts)(E:Same H H')(n:H p=none)(e:H' p=some (.lst xs)):NR X.K S H H' (.ref p) (.l1 ts) :=
 NR.l1 n e (r.same (iw (λb z=>z.imp id λ(y:b=p)=>y ▸ n) E))
def cL:GO X (binaryOp .Add) ap9:=λaa s σ H x y v u Q I rx ry hP=>by
 obtain⟨S,t,w,R,_,hx,hy,hg,k⟩:=hP;cases t<;>try exact hg.elim
 .cases hx;cases w<;>try exact hg.elim
  cases hy;exact ahu aa s σ H _ _ v u Q I rx ry ⟨_,_,rfl,rfl,k H _ _ hg (.refl _) (NR.fz (.int _))⟩
 .cases hx;cases w<;>try exact hg.elim
  cases hy;exact afP aa s σ H _ _ v u Q I rx ry ⟨_,_,rfl,rfl,hg.1,k H _ _ hg.2 (.refl _) (NR.fz (.str _))⟩
 .cases w<;>try exact hg.elim
  obtain⟨a,xs,rfl,e1,r1⟩:=hx.lstI;obtain⟨b,ys,rfl,e2,r2⟩:=hy.lstI;exact ae4 aa s σ H _ _ v u Q I rx ry ⟨a,b,xs,ys,rfl,rfl,(cT e1).2,(cT e2).2,by rw[r1.len,r2.len];exact hg.1,λp H' E n e=>k H' _ _ hg.2 E (Cm (r1.app r2) E n e)⟩
def apg:zd
 |.int i,.int j,q=>(Bd i/\Bd j)/\q (.fz (.int (i*j)))
 |.lst a,.int j,q=>(-(2^63)<=j/\j<2^63/\a.length*j.toNat<=sizeLine)/\∀z,z=(List.replicate j.toNat a).flatten->q (.l1 z)
 |.str a,.int j,q=>(∃c,a=⟨#[c]⟩/\1<=j/\j<=1000/\∀z:Str,z.cps.toList=List.replicate j.toNat c->q (.fz (.str z)))
 |_,_,_=>False
def aoR:zd
 |.int i,.int j,q=>(j≠0/\Bd j)/\q (.fz (.int (i.fdiv j)))
 |_,_,_=>False
def ao7:zd
 |.int i,.int j,q=>0<j/\q (.fz (.int (i%j)))
 |_,_,_=>False
def apC:zd
 |.int i,.int j,q=>akM i j/\q (.fz (.int (i^j.toNat)))
 |_,_,_=>False
def nJ:GO X (binaryOp .FloorDiv) aoR:=acW.imp λx y H Q hP=>by
 obtain⟨S,t,u,R,_,hx,hy,hg,k⟩:=hP;cases hx<;>try exact hg.elim
 cases hy<;>try exact hg.elim
 exact⟨_,_,rfl,rfl,hg.1,k H _ _ hg.2 (.refl _) (NR.fz (.int _))⟩
def cA:GO X (binaryOp .Mod) ao7:=ah5.imp λx y H Q hP=>by
 obtain⟨S,t,u,R,_,hx,hy,hg,k⟩:=hP;cases hx<;>try exact hg.elim
 cases hy<;>try exact hg.elim
 exact⟨_,_,rfl,rfl,hg.1,k H _ _ hg.2 (.refl _) (NR.fz (.int _))⟩
def Q_:GO X (binaryOp .Pow) apC:=aiX.imp λx y H Q hP=>by
 obtain⟨S,t,u,R,_,hx,hy,hg,k⟩:=hP;cases hx<;>try exact hg.elim
 cases hy<;>try exact hg.elim
 exact⟨_,_,rfl,rfl,hg.1,k H _ _ hg.2 (.refl _) (NR.fz (.int _))⟩
def ap7:T->(OT->Prop)->Prop
 |.int i,q=>q (.fz (.int (-i)))
 |_,_=>False
def vm(ha:QE X a ra):QE X (.UnaryOp .USub a pos) (rUn ap7 ra):=(an2 ajC ha).imp λσ H Q ⟨own,o,R,h,hr,k⟩=>tQ.mk h hr λH1 v x q E1 r1=>by
 revert r1 q
 generalize frz x=t;intro q r1;cases r1<;>try exact q.elim
 exact⟨_,rfl,k _ _ _ q E1 (NR.fz (.int _))⟩
def Y7:T->xN
 |.non=>some true
 |.any=>none
 |.val v=>some (decide (v=.non))
 |_=>some false
def gIs(neg:Bool):zd:=λt u q=>match u,Y7 t with
 |.non,some b=>q (.fz (.bl (xor neg b)))
 |_,_=>False
def UL{F:Hp}{x:V}{b:Bool}(h:Rep K F x t)(e:Y7 t=some b):decide (x=.non)=b:=by
 cases h<;>cases e<;>first|rfl|(apply Zp;intro z;cases z)
def xu:GO X (compareOp .Is) (gIs false):=ahE.imp λx y H Q hP=>by
 obtain⟨S,t,u,R,_,hx,hy,hg,k⟩:=hP;cases hy<;>try exact hg.elim
 unfold gIs at hg;cases e:Y7 t with
 |none=>rw[e]at hg;exact hg.elim
 |some b=>rw[e]at hg;exact⟨rfl,k H _ _ hg (.refl _) (NR.fz (by rw[UL hx e,Bool.false_xor];exact .bl _))⟩
def Jd:GO X (compareOp .IsNot) (gIs true):=aeL.imp λx y H Q hP=>by
 obtain⟨S,t,u,R,_,hx,hy,hg,k⟩:=hP;cases hy<;>try exact hg.elim
 unfold gIs at hg;cases e:Y7 t with
 |none=>rw[e]at hg;exact hg.elim
 |some b=>rw[e]at hg;exact⟨rfl,k H _ _ hg (.refl _) (NR.fz (by rw[UL hx e,Bool.true_xor];exact .bl _))⟩
structure Hid(H:Hp)(S:Addr->Prop):Prop where
 sole:∀b,S b->acy H b
 ins:∀a C dx fs,S a->H a=some (.ins C dx fs)->S dx
 own:∀b x,S b->H b=some (.own x)->S x
def SR.mate(h:SR K own H σ o){j:Nat}{b:Addr}(hb:b∈own j):(∀C d f,H b=some (.ins C d f)->d∈own j)/\∀x,H b=some (.own x)->x∈own j:=by
 have nl:∀{xs:Ζ},H b=some (.lst xs)->(∀C d f,H b=some (.ins C d f)->d∈own j)/\∀x,H b=some (.own x)->x∈own j:=λq=>⟨(λ_ _ _ e=>by rw[q]at e;cases e),(λ_ e=>by rw[q]at e;cases e)⟩;by_cases hj:j<o.length
 .have s:=h.sl j _ (aj hj);cases y:o[j]with
  |und=>rw[y]at s;rw[show own j=[]from s]at hb;cases hb
  |fz t=>rw[y]at s;rw[s.1]at hb;cases hb
  |l1 ts=>rw[y]at s;obtain⟨c,xs,_,w,q,_⟩:=s;rw[w]at hb;cases YR.mp hb;exact nl q
  |l2 tss =>
   rw[y]at s;obtain⟨c,bs,_,w1,_,q1,l,r⟩:=s;rw[w1]at hb;rcases YU.mp hb with z|z
   .exact nl (z ▸ q1)
   .obtain⟨i,hi⟩:=aV z;obtain⟨xs,q2,_⟩:=r i b _ hi (aj (l ▸ (ao.mp hi).1));exact nl q2
  |d1 ks ts=>rw[y]at s;obtain⟨c,xs,_,w,q,_⟩:=s;rw[w]at hb;cases YR.mp hb;exact⟨(λ_ _ _ e=>by rw[q]at e;cases e),(λ_ e=>by rw[q]at e;cases e)⟩
  |la c ts=>rw[y]at s;obtain⟨xs,_,w,q,_⟩:=s;rw[w]at hb;cases YR.mp hb;exact nl q
  |ob c d C' ks ts =>
   rw[y]at s;obtain⟨xs,_,w,q,q2,_⟩:=s;rw[w]at hb ⊢;rcases YU.mp hb with z|z
   .refine⟨λ_ _ _ e=>?_,λ_ e=>?_⟩
    .rw[z,q]at e;cases e;simp
    .rw[z,q]at e;cases e
   .cases YR.mp z;refine⟨λ_ _ _ e=>?_,λ_ e=>?_⟩
    .rw[q2]at e;cases e
    .rw[q2]at e;cases e;simp
 .obtain⟨xs,q⟩:=h.out j (Nat.not_lt.mp hj) b hb;exact nl q
def SR.hid(h:SR K own H σ o):Hid H (Ow own) :=
 ⟨λb z=>h.sole z,λa C dx fs ⟨j,z⟩ e=>⟨j,(h.mate z).1 C dx fs e⟩,λb x ⟨j,z⟩ e=>⟨j,(h.mate z).2 x e⟩⟩
def mrg(S:Addr->Prop)(H G:Hp):Hp:=λb=>open Classical in if S b then H b else G b
def xU{G:Hp}{b:Addr}(h:S b):mrg S H G b=H b:=by unfold mrg;rw[ZY h]
def lV{G:Hp}{b:Addr}(h:¬S b):mrg S H G b=G b:=by unfold mrg;rw[ZZ h]
def spH(sp:Sp):Sp:=λvs H Q _=>∃S:Addr->Prop,Hid H S/\sp vs (hd S H) (λv G=>(∀b,S b->G b=none)->Q v (mrg S H G)) λ_ _ _=>False
def fL.hid{sp:Sp}(F:fL P w K mg base CX0 k f fd ps sp):fL P w K mg base CX0 k f fd ps (spH sp):=by
 refine⟨λvs H Q E h=>?_,λA outer s H args us vs Q E hr e0 hb r h=>?_⟩
 .obtain⟨S,_,z⟩:=h;exact F.len vs _ _ _ z
 obtain⟨S,hS,z⟩:=h;have non:∀{b:Addr},H b=none->hd S H b=none:=λ{b}e=>by
  by_cases z:S b
  .exact o7 z
  .rw[cW z];exact e
 have d6:∀{b:Addr}{u:HO},S b->H b=some u->(∀xs,u≠.tup xs)/\(∀o v,u≠.frz o v)/\∀ps,u≠.tbl ps:=λ{b u}z e=>by
  obtain⟨o,q,w⟩:=hS.sole b z;rw[e]at q;cases q;rcases w with⟨_,rfl⟩|⟨_,rfl⟩|⟨_,_,_,rfl⟩|⟨_,rfl⟩<;>exact⟨λ_ z=>(nomatch z),λ_ _ z=>(nomatch z),λ_ z=>(nomatch z)⟩
 have e1:T7 P w K mg base A outer s (hd S H):=⟨e0.frames,e0.mod,λb o e=>⟨(e0.bs b o e).1,non (e0.bs b o e).2⟩,e0.bsz,e0.funs,λb hb=>non (e0.frf b hb),λb u e=>by
  obtain⟨nb,e'⟩:=cT e;refine(e0.hok b u e').stay (λ_ _ _ z=>z) (λd z=>?_) λd xs z=>?_
  .rw[cW λy=>nb (hS.own d b y z)];exact z
  .rw[cW λy=>(d6 y z).1 xs rfl];exact z,e0.bare⟩
 refine codeAny_mono (F.run A outer s (hd S H) args us vs _ _ hr e1 hb r z) λres s' hs=>?_;cases res with
 |error e=>exact hs.elim
 |ok fl =>
  cases fl with
  |next=>exact False.elim hs
  |brk=>exact False.elim hs
  |cont=>exact False.elim hs
  |ret u =>
   obtain⟨v,G,os,bare,un,hok,rv,q⟩:=hs;have there:∀{b:Addr},S b->∃o,s.heap.get? b=some o:=λ{b}y=>by
    obtain⟨u,e,w⟩:=hS.sole b y;have x:=e0.hok b u e;rcases w with⟨xs,rfl⟩|⟨kk,rfl⟩|⟨C,d,f,rfl⟩|⟨y,rfl⟩
    .obtain⟨_,_,_,_,e2⟩:=x;exact⟨_,e2⟩
    .obtain⟨_,_,_,_,_,_,_,e2,_⟩:=x;exact⟨_,e2⟩
    .obtain⟨_,_,_,e2,_⟩:=x;exact⟨_,e2⟩
    .exact x
   have keep:∀{b:Addr}{o:Obj},S b->s.heap.get? b=some o->s'.heap.get? b=some o:=λ{b o}y e=>un.keep b o e (o7 y) (λz=>(hS.sole b y).ne (e0.frf b z)) wp;have bi:∀b,S b->G b=none:=λb y=>by
    obtain⟨o,ho⟩:=there y;exact un.free b o ho (o7 y) wp
   have no':∀{b:Addr}{u:HO},G b=some u->¬S b:=λe z=>by rw[bi _ z]at e;cases e
   have df:∀{b:Addr}{u:HO},G b=some u->mrg S H G b=some u:=λe=>(lV (no' e)).trans e;refine⟨v,mrg S H G,os,bare,⟨λb o e n=>un.keep b o e (non n),λb o e n=>un.slot b o e (non n),λb o e n z=>?_,un.there,λb xs e=>?_,λb o u e=>?_,λb ps e=>?_⟩,λb u e=>?_,rv,q bi⟩
   .rw[lV λy=>(hS.sole b y).ne n];exact un.free b o e (non n) z
   .have n:¬S b:=λy=>(d6 y e).1 xs rfl;exact df (un.tups b xs ((cW n).trans e))
   .have n:¬S b:=λy=>(d6 y e).2.1 o u rfl;exact df (un.frzs b o u ((cW n).trans e))
   .have n:¬S b:=λy=>(d6 y e).2.2 ps rfl;obtain⟨more,this⟩:=un.tbls b ps ((cW n).trans e);exact⟨more,df this⟩
   .by_cases z:S b
    .rw[xU z]at e;have x:=e0.hok b u e;obtain⟨u',e',w⟩:=hS.sole b z;rw[e]at e';cases e';rcases w with⟨xs,rfl⟩|⟨kk,rfl⟩|⟨C,d,f,rfl⟩|⟨y,rfl⟩
     .obtain⟨z1,its,n,r,e2⟩:=x;exact⟨z1,its,n,r,keep z e2⟩
     .obtain⟨z1,y,vs,r,ob,es,ep,e2,c⟩:=x;exact⟨z1,y,vs,r,ob,es,ep,keep z e2,c⟩
     .obtain⟨d1,z1,ne,e2,mA,⟨od,es,ep,e3,c⟩,r⟩:=x;have sd:=hS.ins b C d f z e;exact⟨(xU sd).trans d1,z1,ne,keep z e2,mA,⟨od,es,ep,keep sd e3,c⟩,r⟩
     .obtain⟨ob,e2⟩:=x;exact⟨ob,keep z e2⟩
    .rw[lV z]at e;exact(hok b u e).stay (λ_ _ _ z=>z) (λd z=>df z) λd xs z=>df z
abbrev ST:=zD->(OT->Prop)->Prop
def spT(K:Frag)(S:ST):Sp:=λvs H Q _=>∃ts R,b_ K H vs ts/\S ts R/\∀H' v x,R x->Same H H'->NR K (λ_=>False) H H' v x->Q v H'
abbrev OkT(P:Program)(w:World)(K:Frag)(mg:Str->Ω)(base:Heap)(k:Nat)(x:Str)(ps:Φ)(S:ST):Prop:=OkF P w K mg base k x ps (spT K S)
def aiA:RA:=λ_ q=>q []
def agZ(a:RE)(r:RA):RA:=λo q=>a o λx=>r o λts=>q (frz x::ts)
def bC:QA X [] aiA:=nq.imp λσ H Q hP=>by obtain⟨own,o,R,h,hr,k⟩:=hP;exact k H [] [] hr rfl (.refl _) .nil
def tQA.mk{R:zD->Prop}{Q:Ζ->Hp->Prop}(h:SR K own H σ o)(hr:r o R)(k:∀H' vs ts,R ts->ts.length=n->Same H H'->b_ K (hd (Ow own) H') vs ts->Q vs H'):tQA K n r σ H Q:=⟨own,o,R,h,hr,k⟩
def bx{a:RE}(ha:QE X e a)(hr:QA X es r)(hs:qr X e es:=by rfl):QA X (e::es) (agZ a r):=(dG ha hr hs).imp λσ H Q ⟨own,o,R,h,hr,k⟩ =>
 tQ.mk h hr λH1 v x q E1 r1=>tQA.mk (h.same E1) q λH2 vs ts q2 ln E2 r2=>k H2 (v::vs) (frz x::ts) q2 (ZH (· + 1) ln) (E1.trans E2) (.cons (r1.same (bU E2)) r2)
def adz(S:ST)(r:RA):RE:=λo q=>r o λts=>S ts q
def bI{S:ST}(G:OkT X.prog X.w X.K X.mg X.base k x ps S)(ha:QA X (e::es) r)(hr:d9 k X.A:=by exact d9.mono (by assumption) wb)(hg:Gl X x:=by rfl)(br:qk x:=by decide)
 (he:qr X e es:=by rfl)(hpl:qV X pos es:=by rfl):QE X (.Call (.Name x p) (e::es) [] pos) (adz S r):=by
 obtain⟨f,fd,F,b,hm,kp⟩:=G;refine(Ew (sp:=spH (spT X.K S)) ⟨f,fd,F.hid,b,hm,kp⟩ hr hg ha br he hpl).imp λσ H Q ⟨own,o,R,h,hr,k⟩=>tQA.mk h hr λH1 vs ts q _ E1 r1=>?_;have h1:=h.same E1;refine⟨Ow own,h1.hid,ts,R,r1,q,λG v x rx E n bi=>?_⟩;have EH:Same H1 (mrg (Ow own) H1 G):=λb u e=>by
  by_cases z:Ow own b
  .rw[xU z];exact e
  .rw[lV z];exact E b u ((cW z).trans e)
 have EG:Same G (mrg (Ow own) H1 G):=λb u e=>by rw[lV λz=>by rw[bi b z]at e;cases e];exact e
 refine k _ v x rx (E1.trans EH) (NR.back (H:=H1) ?_ E1);obtain⟨B,nb,s⟩:=n;have out:∀a∈B,¬Ow own a:=λa ha z=>(s.sole ha).ne (bi a z);refine⟨B,λa ha=>by have:=nb a ha;rwa[cW (out a ha)]at this,s.same (iw (λb z=>?_) EG) EG⟩;rcases z with z|z
 .exact .inr (bi b z)
 .exact .inl (.inr z)
def rB(a:RE):RT:=λo q=>a o λx=>match frz x with|.bl b=>q b|_=>False
def tru:T->(Bool->Prop)->Prop
 |.bl b,q=>q b
 |.int i,q=>q (i != 0)
 |.non,q=>q false
 |.lst ts,q=>q (!ts.isEmpty)
 |.tup ts,q=>q (!ts.isEmpty)
 |_,_=>False
def aqa(a:RE):RT:=λo q=>a o λx=>tru (frz x) q
def aiB(a b:RT):RT:=λo q=>a o λc=>sw c (b o q) (q false)
def rOr(a b:RT):RT:=λo q=>a o λc=>sw c (q true) (b o q)
def apa(a:RT):RT:=λo q=>a o λc=>q (!c)
def amP(a b:RE):RE:=λo q=>a o λx=>match frz x with|.bl c=>sw c (b o q) (q (.fz (.bl false)))|_=>False
def anl(a:RE):RE:=λo q=>a o λx=>match frz x with|.bl c=>q (.fz (.bl (!c)))|_=>False
def rIf(c:RT)(a b:RE):RE:=λo q=>c o λk=>sw k (a o q) (b o q)
def tQT.mk{r:RT}{R:Bool->Prop}{Q:Bool->Hp->Prop}(h:SR K own H σ o)(hr:r o R)(k:∀H' b,R b->Same H H'->Q b H'):tQT K r σ H Q:=⟨own,o,R,h,hr,k⟩
def Rep.isEmpty{K:Frag}{F:Hp}{xs:Ζ}{ts:zD}(h:b_ K F xs ts):xs.isEmpty=ts.isEmpty:=by cases h<;>rfl
def KD{c:Bool}{p q p' q':Prop}(h:sw c p q)(i:p->p')(j:q->q'):if c=true then p' else q':=by
 cases c
 .exact ao2 (j h)
 .exact apd (i h)
section
variable{X:Cx}{a b c:Expr}{ra rb rc:RE}{qa qb qc:RT}{pos:Pos}{rest:xz}
def bY(ho:GO X (compareOp op) g)(ha:QE X a ra)(hb:QE X b rb)(hm:behindInMarks op b=false:=by exact acV _):QT X (.Compare a [op] [b] pos) (rB (rOp g ra rb)) :=
 (af9 ho ha hb hm).imp λσ H Q ⟨own,o,R,h,hr,k⟩=>q2 (ra:=ra) (rb:=rb) (tQ.mk h hr λH1 v x q E1 r1=>by
  revert r1 q
  generalize frz x=t;intro q r1;cases r1<;>try exact q.elim
  exact⟨_,rfl,k _ _ q E1⟩)
def dI(ha:QE X a ra)(he:∀cm,isTrue a X.env cm=(do let v <- cm;standAt a.pos;holding [v] (truthy v)):=by exact λ_=>rfl):QT X a (aqa ra):=(ad3 ha he).imp λσ H Q ⟨own,o,R,h,hr,k⟩=>tQ.mk h hr λH1 v x q E1 r1=>by
 revert r1 q
 generalize frz x=t;intro q r1;cases t<;>try exact q.elim
 .cases r1;exact⟨false,rfl,k _ _ q E1⟩
 .cases r1;exact⟨_,rfl,k _ _ q E1⟩
 .cases r1;exact⟨_,rfl,k _ _ q E1⟩
 .obtain⟨p,xs,rfl,e,r⟩:=r1.tupI;exact⟨_,.inr (.inl ⟨xs,cQ.tup e,rfl⟩),by rw[Rep.isEmpty r];exact k _ _ q E1⟩
 .obtain⟨p,xs,rfl,e,r⟩:=r1.lstI;exact⟨_,.inl ⟨xs,.of (cT e).2,rfl⟩,by rw[Rep.isEmpty r];exact k _ _ q E1⟩
def eE(ha:QT X a qa):QT X (.UnaryOp .Not a pos) (apa qa):=(ajo ha).imp λσ H Q hP=>by obtain⟨own,o,R,h,hr,k⟩:=hP;exact tQT.mk h hr λH1 b q E1=>k H1 _ q E1
def Sd(ha:QT X a qa):QW X (.BoolOp .And [a] pos) qa:=pw_and1 ha
def ig(ha:QT X a qa):QW X (.BoolOp .Or [a] pos) qa:=pw_or1 ha
def Yb(ha:QT X a qa)(hb:QW X (.BoolOp .And (b::rest) pos) qb):QW X (.BoolOp .And (a::b::rest) pos) (aiB qa qb):=(pw_and ha hb).imp λσ H Q hP=>by obtain⟨own,o,R,h,hr,k⟩:=hP;exact tQT.mk h hr λH1 c q E1=>KD q (λq=>tQT.mk (h.same E1) q λH2 d q E2=>k H2 d q (E1.trans E2)) λq=>k H1 _ q E1
def jD(ha:QT X a qa)(hb:QW X (.BoolOp .Or (b::rest) pos) qb):QW X (.BoolOp .Or (a::b::rest) pos) (rOr qa qb):=(pw_or ha hb).imp λσ H Q hP=>by obtain⟨own,o,R,h,hr,k⟩:=hP;exact tQT.mk h hr λH1 c q E1=>KD q (λq=>k H1 _ q E1) λq=>tQT.mk (h.same E1) q λH2 d q E2=>k H2 d q (E1.trans E2)
def QW.qt(h:QW X a qa):QT X a qa:=PW.pt h
def Gr{op}(h:QE X a ra):QE X (.BoolOp op [a] pos) ra:=ai9 h
def Ca(ha:QE X a ra)(hb:QE X (.BoolOp .And (b::rest) pos) rb):QE X (.BoolOp .And (a::b::rest) pos) (amP ra rb):=(ahF ha hb).imp λσ H Q ⟨own,o,R,h,hr,k⟩=>tQ.mk h hr λH1 v x q E1 r1=>by
 revert r1 q
 generalize frz x=t;intro q r1;cases r1<;>try exact q.elim
 exact⟨_,rfl,KD q (λq=>⟨own,o,R,h.same E1,q,λH2 v x q E2 n=>k H2 v x q (E1.trans E2) (n.back E1)⟩) λq=>k H1 _ _ q E1 (NR.fz (.bl _))⟩
def abp(ha:QE X a ra):QE X (.UnaryOp .Not a pos) (anl ra):=(aiz ha).imp λσ H Q ⟨own,o,R,h,hr,k⟩=>tQ.mk h hr λH1 v x q E1 r1=>by
 revert r1 q
 generalize frz x=t;intro q r1;cases r1<;>try exact q.elim
 exact⟨_,rfl,k H1 _ _ q E1 (NR.fz (.bl _))⟩
def Hg{c:Expr}(hc:QT X c qc)(ha:QE X a ra)(hb:QE X b rb):QE X (.IfExp c a b pos) (rIf qc ra rb):=(ac3 hc ha hb).imp λσ H Q ⟨own,o,R,h,hr,k⟩=>tQT.mk h hr λH1 c q E1 =>
 KD q (λq=>⟨own,o,R,h.same E1,q,λH2 v x q E2 n=>k H2 v x q (E1.trans E2) (n.back E1)⟩) λq=>⟨own,o,R,h.same E1,q,λH2 v x q E2 n=>k H2 v x q (E1.trans E2) (n.back E1)⟩
def rCh(g g':zd)(a b c:RE):RE:=λo q=>a o λx=>b o λy=>g (frz x) (frz y) λz=>match frz z with|.bl k=>sw k (c o λw=>g' (frz y) (frz w) q) (q (.fz (.bl false)))|_=>False
def q3{du:CmpOp}{g':zd}(ho:GO X (compareOp op) g)(db:GO X (compareOp du) g')(h:tQ X.K (rCh g g' ra rb rc) σ H Q):Xl (λx y H Q=>∃S t u R,(∀b,S b->H b≠none)/\Rep X.K (hd S H) x t/\Rep X.K (hd S H) y u/\g t u R/\∀H' v z,R z->Same H H'->NR X.K S H H' v z->Q v H') (λx y H Q=>∃S t u R,(∀b,S b->H b≠none)/\Rep X.K (hd S H) x t/\Rep X.K (hd S H) y u/\g' t u R/\∀H' v z,R z->Same H H'->NR X.K S H H' v z->Q v H') (tQ X.K ra) (tQ X.K rb) (tQ X.K rc) σ H Q:=by
 obtain⟨own,o,R,h,hr,k⟩:=h;refine tQ.mk h hr λH1 v x q E1 r1=>tQ.mk (h.same E1) q λH2 w y q2 E2 r2=>?_;have h2:=h.same (E1.trans E2);refine⟨Ow own,_,_,_,λb z=>(h2.sole z).ne,r1.same (bU E2),r2,q2,λH3 u z rz E3 n=>?_⟩;have l7:=n.rep λb z=>(h2.sole z).ne
 revert l7 rz
 generalize frz z=t;intro rz l7;cases l7<;>try exact rz.elim
 have h3:=h2.same E3;refine⟨_,rfl,KD rz (λq=>tQ.mk h3 q λH4 w' z q4 E4 r4=>⟨Ow own,_,_,R,λb z=>((h3.same E4).sole z).ne,r2.same (bU (E3.trans E4)),r4,q4,λH' u z rz E5 n=>k H' u z rz (E1.trans (E2.trans (E3.trans (E4.trans E5)))) (n.back (E1.trans (E2.trans (E3.trans E4))))⟩) λq=>k H3 _ _ q (E1.trans (E2.trans E3)) (NR.fz (.bl _))⟩
def Jx{du:CmpOp}{g':zd}(ho:GO X (compareOp op) g)(db:GO X (compareOp du) g')(ha:QE X a ra)(hb:QE X b rb)(hc:QE X c rc)(hm:lastMarks [op,du] [b,c]=false:=by with_unfolding_all rfl):QE X (.Compare a [op,du] [b,c] pos) (rCh g g' ra rb rc):=(abW ho db ha hb hc hm).imp λ_ _ _=>q3 ho db
def Wa{du:CmpOp}{g':zd}(ho:GO X (compareOp op) g)(db:GO X (compareOp du) g')(ha:QE X a ra)(hb:QE X b rb)(hc:QE X c rc)(hm:lastMarks [op,du] [b,c]=false:=by with_unfolding_all rfl):QT X (.Compare a [op,du] [b,c] pos) (rB (rCh g g' ra rb rc)) :=
 (ad4 ho db ha hb hc hm).imp λσ H Q ⟨own,o,R,h,hr,k⟩=>q3 (ra:=ra) (rb:=rb) (rc:=rc) ho db (tQ.mk h hr λH1 v x q E1 r1=>by
  revert r1 q
  generalize frz x=t;intro q r1;cases r1<;>try exact q.elim
  exact⟨_,rfl,k _ _ q E1⟩)
end
def nth{α:Type} : List α->Nat->Option α
 |[],_=>none
 |x::_,0=>some x
 |_::l,n+1=>nth l n
theorem pO{α:Type} : ∀(l:List α)(n:Nat),nth l n=l[n]?
 |[],_=>rfl
 |_::_,0=>rfl
 |_::l,n+1=>by simpa[nth]using pO l n
def ixT(ts:List α):Int->Option α
 |.ofNat n=>nth ts n
 |.negSucc n=>nth ts.reverse n
def W2(ts:List α)(i:Int):ixT ts i=atI ts i:=by
 unfold ixT atI ixN;cases i with
 |ofNat n =>
  show nth ts n=_;rw[pO,ZY (show 0<=Int.ofNat n from Wp n)];by_cases h:n<ts.length
  .rw[ZY (by show(n:Int)<_;lia)];rfl
  .rw[ZZ (by show ¬(n:Int)<_;lia),aM (Nat.not_lt.mp h)];rfl
 |negSucc n =>
  show nth ts.reverse n=_;rw[pO,ZZ wf];by_cases h:n<ts.length
  .rw[ZY wf,List.getElem?_reverse h];show _=ts[_]?;rw[show(Int.negSucc n+(ts.length:Int)).toNat=ts.length-1-n by lia]
  .rw[ZZ wf,aM (by rw[List.length_reverse];exact VT h)];rfl
def b_.ix{F:Hp}{i:Int}(h:b_ K F xs ts)(e:ixT ts i=some t):∃x,atI xs i=some x/\Rep K F x t:=by
 rw[W2]at e;unfold atI at e ⊢;rw[h.len];cases j:ixN ts.length i with
 |none=>rw[j]at e;cases e
 |some n=>rw[j]at e;exact h.at_ e
def oT(x:Option α)(q:α->Prop):Prop:=match x with|some t=>q t|none=>False
def agT{x:Option α}{q:α->Prop}(h:oT x q):∃t,x=some t/\q t:=by
 cases x with
 |none=>exact h.elim
 |some t=>exact⟨t,rfl,h⟩
def gIx:zd
 |.tup ts,.int i,q=>oT (ixT ts i) λt=>q (.fz t)
 |.lst ts,.int i,q=>∃t,ixT ts i=some t/\q (.fz t)
 |.scr ts,.int i,q=>∃t,ixT ts i=some t/\q (.fz t)
 |.str s,.int i,q=>s.length<=sizeLine/\∃c,ixT s.cps.toList i=some c/\q (.fz (.str ⟨#[c]⟩))
 |_,_,_=>False
def gix:IxR X (λx y H Q=>∃S t u R,(∀b,S b->H b≠none)/\Rep X.K (hd S H) x t/\Rep X.K (hd S H) y u/\gIx t u R/\∀H' v z,R z->Same H H'->NR X.K S H H' v z->Q v H'):=by
 refine(rA.or (Jm.or ah4)).imp λx y H Q h=>?_;obtain⟨S,t,u,R,_,hx,hy,hg,k⟩:=h;cases u with
 |int i=>?_
 |_=>cases t<;>exact hg.elim
 cases hy;cases t with
 |any=>exact hg.elim
 |non=>exact hg.elim
 |bl _=>exact hg.elim
 |int _=>exact hg.elim
 |val _=>exact hg.elim
 |dct _ _=>exact hg.elim
 |ins _ _ _=>exact hg.elim
 |exc _ _ _=>exact hg.elim
 |str s=>?_
 |tup ts=>?_
 |lst ts=>?_
 |scr ts=>?_
 .cases hx;obtain⟨z,c,e,q⟩:=hg;rw[W2]at e;exact .inr (.inr ⟨_,_,c,rfl,rfl,z,e,k H _ _ q (.refl _) (NR.fz (.str _))⟩)
 .obtain⟨p,xs,rfl,e,r⟩:=hx.tupI;obtain⟨t,j,q⟩:=agT hg;obtain⟨v,e',r'⟩:=r.ix j;exact .inr (.inl ⟨p,xs,i,v,rfl,rfl,cQ.tup e,e',k H _ _ q (.refl _) (NR.fz r')⟩)
 .obtain⟨p,xs,rfl,e,r⟩:=hx.lstI;obtain⟨t,j,q⟩:=hg;obtain⟨v,e',r'⟩:=r.ix j;exact .inl ⟨p,xs,_,v,rfl,rfl,.of (cT e).2,e',k H _ _ q (.refl _) (NR.fz r')⟩
 .obtain⟨p,xs,rfl,e,r⟩:=hx.scrI;obtain⟨t,j,q⟩:=hg;obtain⟨v,e',r'⟩:=r.ix j;exact .inl ⟨p,xs,_,v,rfl,rfl,cQ.seq e,e',k H _ _ q (.refl _) (NR.fz r')⟩
def bJ(ha:QE X a ra)(hb:QE X b rb)(hs:rG b:=by exact λ_ _=>rfl):QE X (.Subscript a b pos) (rOp gIx ra rb):=(vW gix ha hb hs).imp λ_ _ _=>q2
abbrev RO:=zI->(xb->Prop)->Prop
def tQO(K:Frag)(r:RO):TO:=λσ H Q=>∃own o R,SR K own H σ o/\r o R/\∀H' b,R b->Same H H'->Q b H'
def QO(X:Cx)(e:Option Expr)(r:RO):Prop:=PO X e (tQO X.K r)
def apz:RO:=λ_ q=>q none
def an3(a:RE):RO:=λo q=>a o λx=>match frz x with|.int i=>q (some i)|_=>False
def PO.imp{e:Option Expr}{t t':TO}(h:PO X e t)(i:∀σ H Q,t' σ H Q->t σ H Q):PO X e t':=λaa s σ H Q I q=>h aa s σ H Q I (i σ H Q q)
def Du:QO X none apz:=ae7.imp λσ H Q hP=>by obtain⟨own,o,R,h,hr,k⟩:=hP;exact k H _ hr (.refl _)
def iy(h:QE X e re):QO X (some e) (an3 re):=(af5 h).imp λσ H Q ⟨own,o,R,h,hr,k⟩=>tQ.mk h hr λH1 v x q E1 r1=>by
 revert r1 q
 generalize frz x=t;intro q r1;cases r1<;>try exact q.elim
 exact⟨_,rfl,k _ _ q E1⟩
def gU(xs:List α)(lo hi:xb):List α:=(xs.drop (HT.sIx xs.length 0 lo)).take (HT.sIx xs.length xs.length hi-HT.sIx xs.length 0 lo)
def b_.cut{F:Hp}(h:b_ K F xs ts)(lo hi:xb):b_ K F (aaZ xs lo hi) (gU ts lo hi):=by
 unfold aaZ gU;rw[h.len];exact(h.drop _).take _
def gSl:T->xb->xb->(OT->Prop)->Prop
 |.lst ts,lo,hi,q=>q (.l1 (gU ts lo hi))
 |.scr ts,lo,hi,q=>q (.l1 (gU ts lo hi))
 |.str s,lo,hi,q=>s.length<=sizeLine/\q (.fz (.str (Hw s lo hi)))
 |_,_,_,_=>False
def rSl(a:RE)(lo hi:RO):RE:=λo q=>a o λx=>lo o λl=>hi o λu=>gSl (frz x) l u q
def kJ{rl rh:RO}(he:QE X e re)(hl:QO X lo rl)(hu:QO X hi rh):QE X (.Subscript e (.Slice lo hi none p2) pos) (rSl re rl rh):=(ab9 (aft.or aia) he hl hu).imp λσ H Q ⟨own,o,R,h,hr,k⟩ =>
 tQ.mk h hr λH1 v x q E1 r1=>⟨own,o,_,h.same E1,q,λH2 l q E2=>⟨own,o,_,(h.same E1).same E2,q,λH3 u q E3=>by
  have E:=E1.trans (E2.trans E3);have r1:=r1.same (bU (E2.trans E3))
  revert r1 q
  generalize frz x=t;intro q r1;cases t<;>try exact q.elim
  .cases r1;exact .inr ⟨_,rfl,q.1,k _ _ _ q.2 E (NR.fz (.str _))⟩
  .obtain⟨p,xs,rfl,e,r⟩:=r1.lstI;exact .inl ⟨p,xs,rfl,.of (cT e).2,λa ha=>k _ _ _ q (E.trans (Same.upd ha)) ((Cm (r.cut l u) (Same.upd ha) ha cj).back E)⟩
  .obtain⟨p,xs,rfl,e,r⟩:=r1.scrI;exact .inl ⟨p,xs,rfl,cQ.seq e,λa ha=>k _ _ _ q (E.trans (Same.upd ha)) ((Cm (r.cut l u) (Same.upd ha) ha cj).back E)⟩⟩⟩
section
variable{X:Cx}{e:Expr}{es:xz}{r:RA}{pos:Pos}
def akV(r:RA):RE:=λo q=>r o λts=>q (.fz (.tup ts))
def anB(r:RA):RE:=λo q=>r o λts=>q (.l1 ts)
def cN(h:QA X es r)(hz:es.length<=sizeLine:=by decide):QE X (.Tuple es k pos) (akV r):=(abo h).imp λσ H Q ⟨own,o,R,h,hr,k⟩=>tQA.mk h hr λH1 vs ts q ln E1 r1 =>
 ⟨by rw[r1.len,ln];exact hz,λp hp=>k _ _ _ q (E1.trans (Same.upd hp)) (NR.fz (.tup (.of (by rw[cW λz=>(h.sole z).ne (E1.free hp)];exact cj)) (r1.same (bU (Same.upd hp)))))⟩
def dh(h:QA X es r)(hz:es.length<=sizeLine:=by decide):QE X (.List es pos) (anB r):=(abk h).imp λσ H Q ⟨own,o,R,h,hr,k⟩=>tQA.mk h hr λH1 vs ts q ln E1 r1 =>
 ⟨by rw[r1.len,ln];exact hz,λp hp=>k _ _ _ q (E1.trans (Same.upd hp)) ((Cm r1 (Same.upd hp) hp cj).back E1)⟩
def GC(X:Cx)(f:Value)(g:ST):Prop:=jx X f λxs H Q=>∃S ts R,(∀b,S b->H b≠none)/\b_ X.K (hd S H) xs ts/\g ts R/\∀H' v z,R z->Same H H'->NR X.K S H H' v z->Q v H'
variable{x:Str}{p:Pos}{id Ty:String}{g:ST}
def bR(hc:GC X (.builtin id) g)(hm:X.mg x=none)(hv:bootBuiltins x=some (.builtin id))(ha:QA X (e::es) r)(hg:Gl X x:=by rfl)(hn:x≠"__name__":=by decide)(br:qk x:=by decide)
 (he:qr X e es:=by rfl)(hpl:qV X pos es:=by rfl):QE X (.Call (.Name x p) (e::es) [] pos) (adz g r) :=
 (VF hc hg hm hv ha hn br he hpl).imp λσ H Q hP=>by obtain⟨own,o,R,h,hr,k⟩:=hP;exact tQA.mk h hr λH1 vs ts q _ E1 r1=>⟨Ow own,ts,R,λb z=>((h.same E1).sole z).ne,r1,q,λH' v z rz E n=>k H' v z rz (E1.trans E) (n.back E1)⟩
def lF(hc:GC X (.type Ty) g)(hm:X.mg x=none)(hv:bootBuiltins x=some (.type Ty))(ha:QA X (e::es) r)(hg:Gl X x:=by rfl)(hn:x≠"__name__":=by decide)(br:qk x:=by decide)
 (he:qr X e es:=by rfl)(hpl:qV X pos es:=by rfl):QE X (.Call (.Name x p) (e::es) [] pos) (adz g r) :=
 (aaV hc hg hm hv ha hn br he hpl).imp λσ H Q hP=>by obtain⟨own,o,R,h,hr,k⟩:=hP;exact tQA.mk h hr λH1 vs ts q _ E1 r1=>⟨Ow own,ts,R,λb z=>((h.same E1).sole z).ne,r1,q,λH' v z rz E n=>k H' v z rz (E1.trans E) (n.back E1)⟩
def b_.one{F:Hp}(h:b_ K F xs [t]):∃x,xs=[x]/\Rep K F x t:=by
 cases h with
 |cons a b=>cases b;exact⟨_,rfl,a⟩
def b_.two{F:Hp}{u:T}(h:b_ K F xs [t,u]):∃x y,xs=[x,y]/\Rep K F x t/\Rep K F y u:=by
 cases h with
 |cons a b =>
  obtain⟨y,rfl,c⟩:=b.one;exact⟨_,y,rfl,a,c⟩
def g1(g:T->(OT->Prop)->Prop):ST:=λts q=>match ts with|[t]=>g t q|_=>False
def GC.one{f:Value}{g:T->(OT->Prop)->Prop}{r:Ζ->Hp->VK->Prop}(h:jx X f r)(i:∀S t x H Q R,Rep X.K (hd S H) x t->g t R->(∀H' v z,R z->Same H H'->NR X.K S H H' v z->Q v H')->r [x] H Q):GC X f (g1 g):=h.imp λxs H Q hP=>by
 obtain⟨S,ts,R,_,rs,hg,k⟩:=hP
 match ts,hg with
 |[t],hg =>
  obtain⟨x,rfl,rx⟩:=rs.one;exact i S t x H Q R rx hg k
def aph:T->(OT->Prop)->Prop
 |.lst ts,q=>q (.fz (.int ts.length))
 |.tup ts,q=>q (.fz (.int ts.length))
 |.scr ts,q=>q (.fz (.int ts.length))
 |_,_=>False
def cJ:GC X (.builtin "len") (g1 aph):=.one QZ λS t x H Q R rx hg k=>by
 cases t<;>try exact hg.elim
 .obtain⟨p,xs,rfl,e,r⟩:=rx.tupI;exact⟨p,xs,rfl,.inr (cQ.tup e),k H _ _ hg (.refl _) (NR.fz (by rw[r.len];exact .int _))⟩
 .obtain⟨p,xs,rfl,e,r⟩:=rx.lstI;exact⟨p,xs,rfl,.inl (.of (cT e).2),k H _ _ hg (.refl _) (NR.fz (by rw[r.len];exact .int _))⟩
 .obtain⟨p,xs,rfl,e,r⟩:=rx.scrI;exact⟨p,xs,rfl,.inl (cQ.seq e),k H _ _ hg (.refl _) (NR.fz (by rw[r.len];exact .int _))⟩
def aoJ:T->(OT->Prop)->Prop
 |.str s,q=>s.length<=sizeLine/\q (.fz (.int s.length))
 |_,_=>False
def aoG:T->(OT->Prop)->Prop
 |.dct ks _,q=>q (.fz (.int ks.length))
 |_,_=>False
def aaG:jx X (.builtin "len") (λxs H Q=>∃p kvs,xs=[.ref p]/\Rd H p (.dK kvs)/\Q (.int kvs.length) H):=by
 intro aa s σ H xs us Q I r h;obtain⟨p,kvs,rfl,hp,q⟩:=h;obtain⟨u,rfl,rx⟩:=vals1 r;cases rx;have hok:kvs.length<=sizeLine/\(p==sysModules)=false/\∃vs,KV kvs vs/\s.heap.DictOf (jJ X.prog X.w) p vs:=by
  rcases hp with hp|⟨o,hp⟩
  .exact I.hok p _ hp
  .exact(I.hok p _ hp).2
 obtain⟨hz,hS,vs,rr,m⟩:=hok;have hl:=xK;have a8:kvs.length=vs.length:=rr.length;exact call_len_dict hS m wf ⟨.int kvs.length,H,I.tok _,⟨_,by rw[a8]⟩,q⟩
def YC:GC X (.builtin "len") (g1 aoG):=.one aaG λS t x H Q R rx hg k=>by
 cases t<;>try exact hg.elim
 obtain⟨p,xs,rfl,e,l,r⟩:=rx.dctI;exact⟨p,_,rfl,cQ.rd e,k H _ _ hg (.refl _) (NR.fz (by rw[VU,l,UU];exact .int _))⟩
def aoT:T->(OT->Prop)->Prop
 |.int i,q=>q (.fz (.int i.natAbs))
 |_,_=>False
def Lf:GC X (.builtin "abs") (g1 aoT):=.one acZ λS t x H Q R rx hg k=>by
 cases t<;>try exact hg.elim
 cases rx;exact⟨_,rfl,k H _ _ hg (.refl _) (NR.fz (by rw[ai7];exact .int _))⟩
theorem b_.ints{K:Frag}{F:Hp} : ∀{xs:Ζ}{ns:xy},b_ K F xs (ns.map T.int)->xs=ns.map V.int
 |_,[],.nil=>rfl
 |_,n::ns,.cons a b=>by cases a;rw[b_.ints b];rfl
theorem b_.bls{K:Frag}{F:Hp} : ∀{xs:Ζ}{ns:List Bool},b_ K F xs (ns.map T.bl)->xs=ns.map V.bl
 |_,[],.nil=>rfl
 |_,n::ns,.cons a b=>by cases a;rw[b_.bls b];rfl
theorem Fv{K:Frag}{F:Hp} : ∀(ns:xy),b_ K F (ns.map V.int) (ns.map T.int)
 |[]=>.nil
 |_::ns=>.cons (.int _) (Fv ns)
def apm:T->(OT->Prop)->Prop
 |.lst ts,q=>∃ns:xy,ts=ns.map T.int/\q (.fz (.int ns.sum))
 |_,_=>False
def X6(hc:X.calm=true):GC X (.builtin "sum") (g1 apm):=.one (aaw hc) λS t x H Q R rx hg k=>by
 cases t<;>try exact hg.elim
 obtain⟨p,xs,rfl,e,r⟩:=rx.lstI;obtain⟨ns,rfl,q⟩:=hg;exact⟨p,ns,rfl,(r.ints ▸ (cT e).2),k H _ _ q (.refl _) (NR.fz (.int _))⟩
def apR(f:List Bool->Bool):T->(OT->Prop)->Prop
 |.lst ts,q=>∃bs:List Bool,ts=bs.map T.bl/\q (.fz (.bl (f bs)))
 |_,_=>False
def abX(hc:X.calm=true):GC X (.builtin "all") (g1 (apR λbs=>bs.all λb=>b)):=.one (aaz hc) λS t x H Q R rx hg k=>by
 cases t<;>try exact hg.elim
 obtain⟨p,xs,rfl,e,r⟩:=rx.lstI;obtain⟨ns,rfl,q⟩:=hg;exact⟨p,ns,rfl,(r.bls ▸ (cT e).2),k H _ _ q (.refl _) (NR.fz (.bl _))⟩
def aoI:T->(OT->Prop)->Prop
 |.lst ts,q=>∃ns:xy,ts=ns.map T.int/\ns.length<64/\∀ms:xy,ms.Perm ns->ms.Pairwise (· <= ·)->q (.l1 (ms.map T.int))
 |_,_=>False
def aas:GC X (.builtin "sorted") (g1 aoI):=.one aak λS t x H Q R rx hg k=>by
 cases t<;>try exact hg.elim
 obtain⟨p,xs,rfl,e,r⟩:=rx.lstI;obtain⟨ns,rfl,l,q⟩:=hg;exact⟨p,ns,rfl,(r.ints ▸ (cT e).2),l,λms a ha m1 m2=>k _ _ _ (q ms m1 m2) (Same.upd ha) (Cm (Fv ms) (Same.upd ha) ha cj)⟩
def alZ:T->(OT->Prop)->Prop
 |.lst ts,q=>q (.l1 ts)
 |_,_=>False
def z8:GC X (.type "list") (g1 alZ):=.one Ym λS t x H Q R rx hg k=>by
 cases t<;>try exact hg.elim
 obtain⟨p,xs,rfl,e,r⟩:=rx.lstI;exact⟨p,xs,rfl,(cT e).2,λa ha=>k _ _ _ hg (Same.upd ha) (Cm r (Same.upd ha) ha cj)⟩
def aoz:T->(OT->Prop)->Prop
 |.int i,q=>q (.fz (.int i))
 |.bl b,q=>q (.fz (.int (if b then 1 else 0)))
 |_,_=>False
def aiP:GC X (.type "int") (g1 aoz):=.one aa2 λS t x H Q R rx hg k=>by
 cases t<;>try exact hg.elim
 .cases rx;exact .inr ⟨_,rfl,k H _ _ hg (.refl _) (NR.fz (.int _))⟩
 .cases rx;exact .inl ⟨_,rfl,k H _ _ hg (.refl _) (NR.fz (.int _))⟩
inductive Knd where
 |int|bool|str|list|tuple
def Knd.s:Knd->String
 |.int=>"int"
 |.bool=>"bool"
 |.str=>"str"
 |.list=>"list"
 |.tuple=>"tuple"
def isK:Knd->T->xN
 |.int,.int _=>some true
 |.int,.bl _=>some true
 |.bool,.bl _=>some true
 |.str,.str _=>some true
 |.list,.lst _=>some true
 |.tuple,.tup _=>some true
 |_,.any=>none
 |_,.val _=>none
 |_,.scr _=>none
 |_,.ins _ _ _=>none
 |_,.exc _ _ _=>none
 |_,.dct _ _=>none
 |_,_=>some false
def aif(kd:Knd):GC X (.builtin "isinstance") (λts q=>match ts with|[t,.val v]=>v=.ty kd.s/\oT (isK kd t) λb=>q (.fz (.bl b))|_=>False):=by
 intro aa s σ H xs us Q I rs h;obtain⟨S,ts,R,_,rp,hg,k⟩:=h
 match ts,hg with
 |[t,.val v],hg =>
  obtain⟨x,y,rfl,rx,ry⟩:=rp.two;cases ry;obtain⟨rfl,hg⟩:=hg;obtain⟨b,j,q⟩:=agT hg;have hk:kd.s∈["bool","int","str","list","tuple","dict"]:=by cases kd<;>decide
  cases t with
  |tup ts =>
   obtain⟨p,ys,rfl,e,r⟩:=rx.tupI;have eb:b=R3 "tuple" kd.s:=by cases kd<;>cases j<;>decide
   exact Uo aa s σ H _ us Q I rs ⟨p,kd.s,ys,rfl,hk,cQ.tup e,k H _ _ q (.refl _) (NR.fz (eb ▸ .bl _))⟩
  |lst ts =>
   obtain⟨p,ys,rfl,e,r⟩:=rx.lstI;have eb:b=R3 "list" kd.s:=by cases kd<;>cases j<;>decide
   exact zA aa s σ H _ us Q I rs ⟨_,kd.s,"list",rfl,hk,by show(match H p with|some (.lst _)=>some "list" |some (.tup _)=>some "tuple" |some (.dK _)=>some "dict" |_=>none)=_;rw[(cT e).2],k H _ _ q (.refl _) (NR.fz (eb ▸ .bl _))⟩
  |non =>
   cases rx;have eb:b=R3 "NoneType" kd.s:=by cases kd<;>cases j<;>decide
   exact zA aa s σ H _ us Q I rs ⟨_,kd.s,"NoneType",rfl,hk,rfl,k H _ _ q (.refl _) (NR.fz (eb ▸ .bl _))⟩
  |bl c =>
   cases rx;have eb:b=R3 "bool" kd.s:=by cases kd<;>cases j<;>decide
   exact zA aa s σ H _ us Q I rs ⟨_,kd.s,"bool",rfl,hk,rfl,k H _ _ q (.refl _) (NR.fz (eb ▸ .bl _))⟩
  |int i =>
   cases rx;have eb:b=R3 "int" kd.s:=by cases kd<;>cases j<;>decide
   exact zA aa s σ H _ us Q I rs ⟨_,kd.s,"int",rfl,hk,rfl,k H _ _ q (.refl _) (NR.fz (eb ▸ .bl _))⟩
  |str c =>
   cases rx;have eb:b=R3 "str" kd.s:=by cases kd<;>cases j<;>decide
   exact zA aa s σ H _ us Q I rs ⟨_,kd.s,"str",rfl,hk,rfl,k H _ _ q (.refl _) (NR.fz (eb ▸ .bl _))⟩
  |_=>cases kd<;>cases j
def ap2(kd:Knd)(a:RE):RE:=λo q=>a o λx=>oT (isK kd (frz x)) λb=>q (.fz (.bl b))
def pU(kd:Knd){y:Str}(ha:QE X a ra)(hm:X.mg "isinstance"=none)(kS:X.mg y=none)(mP:bootBuiltins y=some (.type kd.s))(hg2:Gl X y:=by rfl)(hg:Gl X "isinstance":=by rfl)(i5:y≠"__name__":=by decide)(oB:qk y:=by decide)
 (he:starEach (a::[.Name y p2]) X.env=(false,eval a X.env)::starEach [.Name y p2] X.env:=by rfl):QE X (.Call (.Name "isinstance" p) [a,.Name y p2] [] pos) (ap2 kd ra) :=
 (VF (aif kd) hg hm boot_isinstance (dG ha (dG (agx (v:=.ty kd.s) hg2 kS mP rfl i5 oB) nq) he) wb wb he).imp λσ H Q ⟨own,o,R,h,hr,k⟩=>tQ.mk h hr λH1 v x q E1 r1 =>
  ⟨Ow own,[frz x,.val (.ty kd.s)],R,λb z=>((h.same E1).sole z).ne,.cons r1 (.cons (.val _) .nil),⟨rfl,q⟩,λH' v z rz E n=>k H' v z rz (E1.trans E) (n.back E1)⟩
end
structure DT where
 nx:zI->Prop
 rt:OT->Prop
 bk:zI->Prop:=λ_=>False
 ct:zI->Prop:=λ_=>False
 xc:Addr->Φ->zD->Prop:=λ_ _ _=>False
abbrev RS:=DT->zI->Prop
def zx(X:Cx):XK:=λC d H'=>(∀aa σ H s a s' B,Inv X aa σ H s->Fly X.prog X.w X.stack H s a C H' s' B d->X.xe (.ref a) s') /\
 ∀aa σ H s a c,C=.ref c->Inv X aa σ H s->H a=some (XN a c d)->X.s₀.heap.objs.size<=a->out H a=H'->X.xe (.ref a) s
structure Lnk(K:Frag)(Z:XK)(F:Hp)(E:DT)(D:Ends):Prop where
 nx:∀own H σ o,E.nx o->Same F (hd (Ow own) H)->SR K own H σ o->D.nx σ H
 rt:∀S H v x B,E.rt x->Same F (hd S H)->Slo K (hd S H) H (some v) B x->(∀a∈B,S a)->D.rt v H
 bk:∀own H σ o,E.bk o->Same F (hd (Ow own) H)->SR K own H σ o->D.bk σ H
 ct:∀own H σ o,E.ct o->Same F (hd (Ow own) H)->SR K own H σ o->D.ct σ H
 xc:∀H C d ks vs ts,E.xc C ks ts->Same F H->H d=some (.xd (ks.zip vs))->b_ K H vs ts->Z (.ref C) (some d) H
variable{E:DT}{st:Stmt}{b a:RS}{sts:xn}{aS ai af ax:Pos}{D:Addr}{i:Nat}{ys:Ζ}
def Lnk.step{Z:XK}{F F':Hp}{D:Ends}(h:Lnk K Z F E D)(S:Same F F'):Lnk K Z F' E D :=
 ⟨λown H σ o e s=>h.nx own H σ o e (S.trans s),λT H v x B e s=>h.rt T H v x B e (S.trans s),λown H σ o e s=>h.bk own H σ o e (S.trans s),λown H σ o e s=>h.ct own H σ o e (S.trans s),λH C d ks vs ts e s=>h.xc H C d ks vs ts e (S.trans s)⟩
def tQS(X:Cx)(r:RS):TS:=λD σ H=>∃own o E,SR X.K own H σ o/\r E o/\Lnk X.K (zx X) (hd (Ow own) H) E D
def QS(X:Cx)(st:Stmt)(r:RS):Prop:=PS X st (tQS X r)
def QSs(X:Cx)(st:xn)(r:RS):Prop:=PSs X st (tQS X r)
def PS.imp{t t':TS}(h:PS X st t)(i:∀D σ H,t' D σ H->t D σ H):PS X st t':=λaa s σ H D I q=>h aa s σ H D I (i D σ H q)
def PSs.imp{st:xn}{t t':TS}(h:PSs X st t)(i:∀D σ H,t' D σ H->t D σ H):PSs X st t':=λaa s σ H D I q=>h aa s σ H D I (i D σ H q)
def agR:RS:=λE o=>E.nx o
def eG(a b:RS):RS:=λE o=>a { E with nx:=b E } o
def ams(i:Nat)(a:RE):RS:=λE o=>a o λx=>E.nx (o.set i (.fz (frz x)))
def ajB(i:Nat)(a:RE):RS:=λE o=>a o λx=>E.nx (o.set i x)
def anm(a:RE):RS:=λE o=>a o λ_=>E.nx o
def apb(a:RE):RS:=λE o=>a o E.rt
def agV(i:Nat):RS:=λE o=>match slot o i with|.und=>False|x=>E.rt x
def ahI(c:RT)(a b:RS):RS:=λE o=>c o λk=>sw k (a E o) (b E o)
def ai0:RS:=λ_ _=>False
def aok(i:Nat)(a:RS):RS:=λE o=>match slot o i with|.und=>False|x=>a E (o.set i (.fz (frz x)))
def SR.putA(h:SR K own H σ o)(E:Same H H'){x:OT}(n:NR K (Ow own) H H' v x)(i:Nat):∃am,SR K am H' (σ.set i (some v)) (o.set i x)/\Same (hd (Ow own) H) (hd (Ow am) H'):=by
 by_cases hi:i<o.length
 .exact h.put E n hi
 .rw[Zzr (Nat.not_lt.mp hi),Zzr (h.len ▸ Nat.not_lt.mp hi)];exact⟨own,h.same E,bU E⟩
def NR.frz{S:Addr->Prop}{v:V}{x:OT}(n:NR K S H H' v x)(hs:∀b,S b->H b≠none):NR K S H H' v (.fz (L2.frz x)):=NR.fz (n.rep hs)
def Slo.val{F:Hp}{v:xD}{A:Ψ}{x:OT}(h:Slo K F H v A x)(n:x≠.und):∃u,v=some u:=by
 cases x with
 |und=>exact absurd rfl n
 |fz t=>exact⟨_,h.2.choose_spec.1⟩
 |l1 ts=>obtain⟨a,xs,e,_⟩:=h;exact⟨_,e⟩
 |l2 ts=>obtain⟨a,xs,e,_⟩:=h;exact⟨_,e⟩
 |d1 ks ts=>obtain⟨a,xs,e,_⟩:=h;exact⟨_,e⟩
 |ob a d C ks ts=>obtain⟨xs,e,_⟩:=h;exact⟨_,e⟩
 |la a ts=>obtain⟨xs,e,_⟩:=h;exact⟨_,e⟩
def SR.val(h:SR K own H σ o){i:Nat}{x:OT}(e:slot o i=x)(n:x≠.und):∃u,σ[i]?=some (some u)/\Slo K (hd (Ow own) H) H (some u) (own i) x:=by
 have s:=h.sl i x (jf e n);obtain⟨u,hu⟩:=s.val n;rw[hu]at s;refine⟨u,?_,s⟩;cases z:σ[i]? with
 |none=>rw[z]at hu;cases hu
 |some w=>rw[z]at hu;exact ZH some hu
def bT:QSs X [] agR:=afk.imp λD σ H hP=>by obtain⟨own,o,E,h,hr,L⟩:=hP;exact L.nx own H σ o hr (.refl _) h
def aoC{D:Ends}(h:tQS X (eG a b) D σ H):aaq (tQS X a) (tQS X b) D σ H:=by
 obtain⟨own,o,E,h,hr,L⟩:=h;exact⟨own,o,_,h,hr,λam H' σ' o' q S h'=>⟨am,o',E,h',q,L.step S⟩,L.rt,L.bk,L.ct,L.xc⟩
def bF(h1:QS X st a)(h2:QSs X sts b):QSs X (st::sts) (eG a b):=(Ld h1 h2).imp λ_ _ _=>aoC
def bH(h:QS X st a):QSs X [st] a:=zY h
def bN(i:Nat)(he:QE X e re)(hN:X.N.Nodup:=by assumption)(hx:Loc X.env.scope x:=by first|exact .inl rfl|exact .inr rfl)(hi:X.N[i]?=some x:=by rfl)(hs:swapsWith e (some (.Name x aS)) pos.line X.env=pure false:=by rfl)(hf:qE X x:=by first|exact .inl rfl|exact .inr rfl|assumption) :
  QS X (.Assign [.Name x aS] e pos) (ams i re):=(acf hN hi hx he hs hf).imp λD σ H ⟨own,o,E,h,hr,L⟩=>⟨own,o,_,h,hr,λH' v y q S n=>by
 obtain⟨am,h',S'⟩:=h.putA S (n.frz λb z=>(h.sole z).ne) i;exact L.nx am H' _ _ q S' h'⟩
def gQ(i:Nat)(he:QE X e re)(hN:X.N.Nodup:=by assumption)(hx:Loc X.env.scope x:=by first|exact .inl rfl|exact .inr rfl)(hi:X.N[i]?=some x:=by rfl)(hs:swapsWith e (some (.Name x aS)) pos.line X.env=pure false:=by rfl)(hf:qE X x:=by first|exact .inl rfl|exact .inr rfl|assumption) :
  QS X (.Assign [.Name x aS] e pos) (ajB i re):=(acf hN hi hx he hs hf).imp λD σ H ⟨own,o,E,h,hr,L⟩=>⟨own,o,_,h,hr,λH' v y q S n=>by
 obtain⟨am,h',S'⟩:=h.putA S n i;exact L.nx am H' _ _ q S' h'⟩
def iD(he:QE X e re)(hs:swapsWith e none pos.line X.env=pure false:=by rfl):QS X (.Expr e pos) (anm re):=(mD he hs).imp λD σ H hP=>by obtain⟨own,o,E,h,hr,L⟩:=hP;exact⟨own,o,_,h,hr,λH' v y q S n=>L.nx own H' σ o q (bU S) (h.same S)⟩
def bO(he:QE X e re):QS X (.Return (some e) pos) (apb re):=(LQ he).imp λD σ H ⟨own,o,E,h,hr,L⟩=>⟨own,o,_,h,hr,λH' v y q S n=>by
 obtain⟨B,nb,s⟩:=n;exact L.rt _ H' v y B q (iw (λb z=>z.imp id (nb b)) S) s λa ha=>.inr ha⟩
def jL(i:Nat)(hN:X.N[i]?=some x:=by rfl)(hv:qX X.env.scope x=true:=by rfl)(hd:qk x:=by decide)(aI:qo x:=by decide):QS X (.Return (some (.Name x p)) pos) (agV i):=(LQ (pv i hN hv hd aI)).imp λD σ H hP=>by
 obtain⟨own,o,E,h,hr,L⟩:=hP;have hr:E.rt (slot o i)/\slot o i≠.und:=by
  unfold agV at hr;cases e:slot o i<;>rw[e]at hr<;>first|exact hr.elim|exact⟨hr,λz=>by cases z⟩
 obtain⟨u,e,s⟩:=h.val rfl hr.2;exact⟨u,e,L.rt (Ow own) H u _ _ hr.1 (.refl _) s λa ha=>⟨i,ha⟩⟩
def cC{ss ts:xn}{qc:RT}(hc:QT X c qc)(ha:QSs X ss a)(hb:QSs X ts b):QS X (.If c ss ts pos) (ahI qc a b):=(akT hc ha hb).imp λD σ H ⟨own,o,E,h,hr,L⟩=>tQT.mk h hr λH1 c q E1 =>
 KD q (λq=>⟨own,o,E,h.same E1,q,L.step (bU E1)⟩) λq=>⟨own,o,E,h.same E1,q,L.step (bU E1)⟩
def gF:QS X st ai0:=ac4.imp λD σ H hP=>by obtain⟨own,o,E,h,hr,L⟩:=hP;exact hr
def Gy(i:Nat)(hs:QS X st a):QS X st (aok i a):=PS.imp hs λD σ H hP=>by
 obtain⟨own,o,E,h,hr,L⟩:=hP;have hr:a E (o.set i (.fz (frz (slot o i))))/\slot o i≠.und:=by
  unfold aok at hr;cases e:slot o i<;>rw[e]at hr<;>first|exact hr.elim|exact⟨hr,λz=>by cases z⟩
 obtain⟨u,e1,s⟩:=h.val rfl hr.2;obtain⟨am,h',S⟩:=h.frz (jf rfl hr.2) e1;exact⟨am,_,E,h',hr.1,L.step S⟩
def Bv{u:HO}(h:S D):hd S (upd H D u)=hd S H:=funext λb=>by
 by_cases z:S b
 .rw[o7 z,o7 z]
 .rw[cW z,cW z,bZ λ(e:b=D)=>z (e.symm ▸ h)]
def asL:OT->Option (List T×(zD->OT))
 |.l1 ts=>some (ts,.l1)
 |.la a ts=>some (ts,.la a)
 |_=>none
def onL(x:OT)(k:zD->(zD->OT)->Prop):Prop:=match asL x with|some (ts,c)=>k ts c|none=>False
def Gz{x:OT}{k:zD->(zD->OT)->Prop}(h:onL x k):∃ts c,k ts c/\((x=.l1 ts/\c=.l1)\/∃a,x=.la a ts/\c=.la a):=by
 cases x with
 |l1 ts=>exact⟨ts,_,h,.inl ⟨rfl,rfl⟩⟩
 |la a ts=>exact⟨ts,_,h,.inr ⟨a,rfl,rfl⟩⟩
 |_=>exact h.elim
def aoO(i:Nat)(a:RE):RS:=λE o=>onL (slot o i) λts c=>a o λy=>ts.length<sizeLine/\E.nx (o.set i (c (ts++[frz y])))
def SR.l1{K:Frag}{own:Nat->Ψ}{H:Hp}{σ:L2.St}{o:zI}(h:SR K own H σ o){i:Nat}{ts:zD}{c:zD->OT}(e:(slot o i=.l1 ts/\c=.l1)\/∃a,slot o i=.la a ts/\c=.la a):∃l xs,σ[i]?=some (some (.ref l))/\own i=[l]/\H l=some (.lst xs)/\b_ K (hd (Ow own) H) xs ts/\∀(H':Hp)(ys:Ζ)us,H' l=some (.lst ys)->b_ K (hd (Ow own) H') ys us->Slo K (hd (Ow own) H') H' (some (.ref l)) [l] (c us):=by
 rcases e with⟨e,rfl⟩|⟨a,e,rfl⟩
 .obtain⟨u,e1,l,xs,e2,e3,e4,r⟩:=h.val e (by intro z;cases z);cases e2;exact⟨l,xs,e1,e3,e4,r,λH' ys us a b=>⟨l,ys,rfl,rfl,a,b⟩⟩
 .obtain⟨u,e1,xs,e2,e3,e4,r⟩:=h.val e (by intro z;cases z);cases e2;exact⟨a,xs,e1,e3,e4,r,λH' ys us a b=>⟨ys,rfl,rfl,a,b⟩⟩
def KY{c:zD->OT}(e:(slot o i=.l1 ts/\c=.l1)\/∃a,slot o i=.la a ts/\c=.la a):∃x,o[i]?=some x:=by
 rcases e with⟨e,_⟩|⟨a,e,_⟩
 .exact⟨_,jf e (by intro z;cases z)⟩
 .exact⟨_,jf e (by intro z;cases z)⟩
def SR.chg1(h:SR K own H σ o){us:zD}{c:zD->OT}(e:∃x,o[i]?=some x){l:Addr}(eσ:σ[i]?=some (some (.ref l)))(eo:own i=[l])(sl:∀(H':Hp)(ys:Ζ)us,H' l=some (.lst ys)->b_ K (hd (Ow own) H') ys us->Slo K (hd (Ow own) H') H' (some (.ref l)) [l] (c us))(r:b_ K (hd (Ow own) H) ys us):SR K own (upd H l (.lst ys)) σ (o.set i (c us))/\Same (hd (Ow own) H) (hd (Ow own) (upd H l (.lst ys))):=by
 obtain⟨x,e⟩:=e;refine h.chg e (λb u hb e=>(bZ λz=>hb (by rw[eo,z];simp)).trans e) ?_;rw[eσ,eo];exact sl _ ys us cj (by rw[Bv ⟨i,by rw[eo];simp⟩];exact r)
def oX(i:Nat)(he:QE X e re)(hN:X.N[i]?=some x:=by rfl)(hv:qX X.env.scope x=true:=by rfl)(bu:qk x:=by decide)(aI:qo x:=by decide)
 (hb:attributeBase (.Name x p) "append" X.env (eval (.Name x p) X.env)=eval (.Name x p) X.env:=by rfl)
 (hf:qB X af e:=by rfl)
 (hl:zh ai af:=by rfl)(bv:qr X e []:=by rfl)(hp:qV X af []:=by rfl)
 (hs:swapsWith (.Call (.Attribute (.Name x p) "append" ai) [e] [] af) none pos.line X.env=pure false:=by rfl) :
  QS X (.Expr (.Call (.Attribute (.Name x p) "append" ai) [e] [] af) pos) (aoO i re):=(mD (Yn (pv i hN hv bu aI) (dG he nq bv) hb hf hl bv hp) hs).imp λD σ H hP=>by
 obtain⟨own,o,E,h,hr,L⟩:=hP;obtain⟨ts,c,hr,es⟩:=Gz hr;obtain⟨l,xs,e1,e2,e3,r,sl⟩:=h.l1 es;refine⟨_,e1,l,xs,rfl,e3,tQ.mk h hr λH1 v y q E1 r1=>⟨v,xs,rfl,E1 _ _ e3,by rw[r.len];exact q.1,?_⟩⟩;obtain⟨h',S⟩:=(h.same E1).chg1 (KY es) e1 e2 sl ((r.same (bU E1)).app (.cons r1 .nil));exact L.nx own _ σ _ q.2 ((bU E1).trans S) h'
def aoE(i:Nat)(a b:RE):RS:=λE o=>onL (slot o i) λts c=>a o λy=>b o λk=>(match frz k with|.int j=>∃n,ixN ts.length j=some n/\E.nx (o.set i (c (ts.set n (frz y))))|_=>False)
def yu(i:Nat){k:Expr}{rk:RE}(he:QE X e re)(hk:QE X k rk)(hN:X.N[i]?=some x:=by rfl)(hv:qX X.env.scope x=true:=by rfl)(bu:qk x:=by decide)(aI:qo x:=by decide)
 (ha:∀v,assign (.Subscript (.Name x p) k ax) X.env v=(do
   let ov <- holding [v] (eval (.Name x p) X.env)
   let iv <- holding [v,ov] (eval k X.env)
   standAt ax
   holding [v,ov,iv] (setItem ov iv v)
   release [v,ov,iv] []):=by intro _;rfl)
 (hs:swapsWithSole [.Subscript (.Name x p) k ax] e pos.line X.env=pure false:=by rfl)(hw:swappedStores [.Subscript (.Name x p) k ax] e X.env=pure none:=by rfl)
 (h1:(assignEach [.Subscript (.Name x p) k ax] X.env).map (·.2)=[assign (.Subscript (.Name x p) k ax) X.env]:=by rfl):QS X (.Assign [.Subscript (.Name x p) k ax] e pos) (aoE i re rk):=(Ye he (ad2 (pv i hN hv bu aI) hk set_list ha) hs hw h1).imp λD σ H hP=>by
 obtain⟨own,o,E,h,hr,L⟩:=hP;obtain⟨ts,c,hr,es⟩:=Gz hr;obtain⟨l,xs,e1,e2,e3,r,sl⟩:=h.l1 es;refine tQ.mk h hr λH1 v y q E1 r1=>⟨_,e1,tQ.mk (h.same E1) q λH2 w z q E2 r2=>?_⟩;have r1:=r1.same (bU E2)
 revert r2 q
 generalize frz z=t;intro q r2;cases t<;>try exact q.elim
 cases r2;obtain⟨n,en,q⟩:=q;have bX:=E1.trans E2;refine⟨l,xs,_,n,rfl,rfl,bX _ _ e3,by rw[r.len];exact en,?_⟩;obtain⟨h',S⟩:=(h.same bX).chg1 (KY es) e1 e2 sl (b_.set r1 n (r.same (bU bX)));exact L.nx own _ σ _ q ((bU bX).trans S) h'
def apj(i:Nat)(b:RE):RE:=λo q=>onL (slot o i) λts _=>b o λy=>(match frz y with|.int j=>∃t,ixT ts j=some t/\q (.fz t)|_=>False)
def uL(i:Nat){b:Expr}(hb:QE X b rb)(hN:X.N[i]?=some x:=by rfl)(hv:qX X.env.scope x=true:=by rfl)(bu:qk x:=by decide)
 (aI:qo x:=by decide)(hs:rG b:=by exact λ_ _=>rfl):QE X (.Subscript (.Name x p) b pos) (apj i rb):=(vW rA (pv i hN hv bu aI) hb hs).imp λσ H Q hP=>by
 obtain⟨own,o,R,h,hr,k⟩:=hP;obtain⟨ts,c,hr,es⟩:=Gz hr;obtain⟨a,xs,e1,e2,e3,r,sl⟩:=h.l1 es;refine⟨_,e1,tQ.mk h hr λH1 v y q E1 r1=>?_⟩
 revert r1 q
 generalize frz y=t;intro q r1;cases t<;>try exact q.elim
 cases r1;obtain⟨t,j,q⟩:=q;obtain⟨v,e',r'⟩:=r.ix j;exact⟨a,xs,_,v,rfl,rfl,.of (E1 _ _ e3),e',k H1 _ _ q E1 (NR.fz (r'.same (bU E1)))⟩
def ag4(i:Nat)(f:Int->Int->Int)(a:RE):RS:=λE o=>match slot o i with|.fz (.int k)=>a o λy=>(match frz y with|.int j=>E.nx (o.set i (.fz (.int (f k j))))|_=>False)|_=>False
def ah9(i:Nat){op:Operator}{f:Int->Int->Int}(ho:PIp X op (ipI f))(he:QE X e re)(hN:X.N.Nodup:=by assumption)(hx:Loc X.env.scope x:=by first|exact .inl rfl|exact .inr rfl)(hi:X.N[i]?=some x:=by rfl)(hf:qE X x:=by first|exact .inl rfl|exact .inr rfl|assumption):QS X (.AugAssign (.Name x aS) op e pos) (ag4 i f re):=(ahg hN hi hx he ho hf).imp λD σ H hP=>by
 obtain⟨own,o,E,h,hr,L⟩:=hP;unfold ag4 at hr;cases es:slot o i with
 |fz t =>
  rw[es]at hr;cases t<;>try exact hr.elim
  obtain⟨u,e1,r⟩:=h.get (jf es (by intro z;cases z));cases r;refine⟨_,e1,tQ.mk h hr λH1 v y q E1 r1=>?_⟩
  revert r1 q
  generalize frz y=t;intro q r1;cases t<;>try exact q.elim
  cases r1;refine⟨_,_,rfl,rfl,?_⟩;obtain⟨am,h',S⟩:=(h.same E1).putA (.refl _) (NR.fz (.int _)) i;exact L.nx am _ _ _ q ((bU E1).trans S) h'
 |_=>rw[es]at hr;exact hr.elim
def Gj(n:Nat)(own am:Nat->Ψ)(σ σ':L2.St):Prop:=(∀j,am j=own j\/(j<n/\am j=[]))/\σ'.length=σ.length/\∀j,n<=j->σ'[j]?=σ[j]?
def Gj.refl : Gj n own own σ σ:=⟨λ_=>.inl rfl,rfl,λ_ _=>rfl⟩
def Gj.trans{n:Nat}{own own1 b5:Nat->Ψ}{σ σ1 σ2:L2.St}(a:Gj n own own1 σ σ1)(b:Gj n own1 b5 σ1 σ2):Gj n own b5 σ σ2 :=
 ⟨λj=>(b.1 j).elim (λe=>(a.1 j).imp (λz=>e.trans z) λz=>⟨z.1,e.trans z.2⟩) .inr,b.2.1.trans a.2.1,λj hj=>(b.2.2 j hj).trans (a.2.2 j hj)⟩
def Gj.same{am:Nat->Ψ}{σ':L2.St}(a:Gj n own am σ σ') : Same (hd (Ow own) H) (hd (Ow am) H):=iw (λb hP=>by obtain⟨j,z⟩:=hP;exact .inl ⟨j,(a.1 j).elim (λe=>e ▸ z) λe=>by rw[e.2]at z;cases z⟩) λ_ _ z=>z
abbrev zg:Type:=T->zI->(zI->Prop)->Prop
def tQG(K:Frag)(n:Nat)(g:zg):TG:=λv σ H Q=>∃own o t R,SR K own H σ o/\Rep K (hd (Ow own) H) v t/\g t o R/\∀am σ' o',R o'->Gj n own am σ σ'->SR K am H σ' o'->Q σ' H
def QG(X:Cx)(n:Nat)(tg:Expr)(g:zg):Prop:=PG X tg (tQG X.K n g)
abbrev zo:Type:=zD->zI->(zI->Prop)->Prop
def QGs(X:Cx)(n:Nat)(tg:xz)(g:zo):Prop:=PGs X tg λv σ H Q=>∃own o t R,SR X.K own H σ o/\b_ X.K (hd (Ow own) H) v t/\g t o R/\∀am σ' o',R o'->Gj n own am σ σ'->SR X.K am H σ' o'->Q σ' H
def PGs.imp{tg:xz}{t t':TGs}(h:PGs X tg t)(i:∀v σ H Q,t' v σ H Q->t v σ H Q):PGs X tg t':=λaa s σ H v u Q I r q=>h aa s σ H v u Q I r (i _ _ _ _ q)
def hName(i:Nat):zg:=λt o q=>q (o.set i (.fz t))
def ao3:zo:=λts o q=>match ts with|[]=>q o|_=>False
def alW(g:zg)(gs:zo):zo:=λts o q=>match ts with|t::ts=>g t o λo'=>gs ts o' q|_=>False
def apE(n:Nat)(gs:zo):zg:=λt o q=>match t with|.tup ts=>ts.length=n/\gs ts o q|_=>False
def SR.setF(h:SR K own H σ o)(r:Rep K (hd (Ow own) H) v t)(hi:i<n):∃am,SR K am H (σ.set i (some v)) (o.set i (.fz t))/\Gj n own am σ (σ.set i (some v)):=by
 have le:Same (hd (Ow own) H) (hd (Ow (own1 own i [])) H):=iw (λb z=>.inl (z.of1.elim id λy=>(nomatch y))) λ_ _ z=>z;have go:Gj n own (own1 own i []) σ (σ.set i (some v)):=⟨λj=>by
  by_cases z:j=i
  .exact .inr ⟨z ▸ hi,by rw[z,jY]⟩
  .exact .inl (gq z),VY,λj hj=>VQ wf⟩
 by_cases hl:i<o.length
 .refine⟨own1 own i [],⟨by rw[VY,VY,h.len],λj y e=>?_,λj hj a ha=>?_,λj k a e1 e2=>?_⟩,go⟩
  .by_cases z:j=i
   .subst z;rw[UT hl]at e;cases e;rw[jY,UT (h.len ▸ hl)];exact⟨rfl,v,rfl,r.same le⟩
   .rw[VQ (Ne.symm z)]at e;rw[gq z,VQ (Ne.symm z)];exact(h.sl j y e).same le λ_ _ z=>z
  .rw[VY]at hj;rw[gq wf]at ha;exact h.out j hj a ha
  .by_cases z:j=i
   .rw[z,jY]at e1;cases e1
   by_cases y:k=i
   .rw[y,jY]at e2;cases e2
   .rw[gq z]at e1;rw[gq y]at e2;exact h.dis j k a e1 e2
 .refine⟨own,?_,⟨λ_=>.inl rfl,go.2⟩⟩;rwa[Zzr (Nat.not_lt.mp hl),Zzr (h.len ▸ Nat.not_lt.mp hl)]
def bW(i:Nat)(hN:X.N.Nodup:=by assumption)(hx:Loc X.env.scope x:=by first|exact .inl rfl|exact .inr rfl)(hi:X.N[i]?=some x:=by rfl)(hn:i<n:=by decide)(hf:qE X x:=by first|exact .inl rfl|exact .inr rfl|assumption):QG X n (.Name x pos) (hName i):=(jQ hN hi hx hf).imp λv σ H Q hP=>by
 obtain⟨own,o,t,R,h,r,hg,k⟩:=hP;obtain⟨am,h',S⟩:=h.setF r hn;exact k am _ _ hg S h'
def dB : QGs X n [] ao3:=YW.imp λv σ H Q hP=>by
 obtain⟨own,o,t,R,h,r,hg,k⟩:=hP;cases r with
 |nil=>exact⟨rfl,k own σ o hg .refl h⟩
 |cons _ _=>exact hg.elim
variable{g:zg}{gs:zo}{tg:Expr}
def bQ(h1:QG X n e g)(h2:QGs X n es gs)(hs:(assignEach (e::es) X.env).map (·.2)=assign e X.env::(assignEach es X.env).map (·.2):=by rfl):QGs X n (e::es) (alW g gs):=(Kg h1 h2 hs).imp λv σ H Q hP=>by
 obtain⟨own,o,t,R,h,r,hg,k⟩:=hP;cases r with
 |nil=>exact hg.elim
 |cons a b=>exact⟨_,_,rfl,own,o,_,_,h,a,hg,λam σ' o' q S h'=>⟨am,o',_,R,h',b.same S.same,q,λb5 σ2 o2 q S2 h2=>k b5 σ2 o2 q (S.trans S2) h2⟩⟩
def fj{m:Nat}(h:QGs X m es gs)(hc:X.calm=true:=by rfl)(hn:(assignEach es X.env).length=n:=by rfl)(bv:zt X es:=by rfl):QG X m (.Tuple es k pos) (apE n gs):=(ady hc h hn bv).imp λv σ H Q hP=>by
 obtain⟨own,o,t,R,h,r,hg,k⟩:=hP;cases t<;>try exact hg.elim
 obtain⟨a,xs,rfl,e,r⟩:=r.tupI;exact⟨a,xs,rfl,cQ.tup e,r.len.trans hg.1,own,o,_,R,h,r,hg.2,k⟩
def apr(a:RE)(g:zg):RS:=λE o=>a o λx=>g (frz x) o E.nx
def Gh(he:QE X e re)(hg:QG X n tg g)(hs:swapsWithSole [tg] e pos.line X.env=pure false:=by rfl)(hw:swappedStores [tg] e X.env=pure none:=by rfl)(h1:(assignEach [tg] X.env).map (·.2)=[assign tg X.env]:=by rfl):QS X (.Assign [tg] e pos) (apr re g) :=
 (Ye he hg hs hw h1).imp λD σ H hP=>by obtain⟨own,o,E,h,hr,L⟩:=hP;exact tQ.mk h hr λH1 v y q E1 r1=>⟨own,o,_,_,h.same E1,r1,q,λam σ' o' q S h'=>L.nx am H1 σ' o' q ((bU E1).trans S.same) h'⟩
def start'(n:Nat)(ts:zD):zI:=ts.map OT.fz++List.replicate (n-ts.length) .und
def SR.start{H:Hp}{vs:Ζ}{ts:zD}(r:b_ K H vs ts)(N:Φ):SR K (λ_=>[]) H (start N vs) (start' N.length ts):=by
 have e0:Ow (λ_=>[])=λ_=>False:=funext λb=>propext ⟨λhP=>by obtain⟨_,z⟩:=hP;exact(nomatch z),False.elim⟩;refine⟨by unfold start' L2.start;simp[r.len],λi x e=>?_,λ_ _ _ z=>(nomatch z),λi j a z=>(nomatch z)⟩;rw[e0,Ip];unfold start' at e;unfold L2.start;by_cases hi:i<ts.length
 .rw[aF (by simpa using hi),aq,aj hi]at e;cases e;obtain⟨v,e1,r1⟩:=r.at_ (aj hi);rw[aF (by rwa[ak,r.len]),aq,e1];exact⟨rfl,v,rfl,r1⟩
 .rw[aD (by simpa using hi),ak,X0]at e;by_cases hj:i-ts.length<N.length-ts.length
  .rw[ZY hj]at e;cases e;rfl
  .rw[ZZ hj]at e;cases e
def Fun.okT{ag:Str}{N:Φ}{S:ST}(F:Fun K x ag st f fd)(sc:bK N ps (bG st))
 {r}(a9:∀{ah:Value}{A:Around}{outer:xm}{s:Shared}{H:Hp}{E:XK},d9 k (A.deeper (envOfC ag (bG st) s.heap.objs.size f ah))->N.Nodup ->QSs (Cy CX0 P w K mg base N ag (bG st) f ah A outer s H E).nox (fD st) r)(b2:∀ts R,S ts R->r { nx:=λ_=>R (.fz .non),rt:=R } (start' N.length ts))(len:∀ts R,S ts R->ts.length=ps.length:=by intro _ _ h;repeat (first|exact(ZH List.length h.1).trans rfl|obtain⟨_,h⟩:=h)):fL P w K mg base CX0 (k+1) f fd ps (spT K S):=by
 refine F.ok sc (λvs H Q E h=>?_) λah A outer s H vs Q E hr h=>?_
 .obtain⟨ts,R,r,hS,_⟩:=h;exact r.len.trans (len ts R hS)
 .obtain⟨ts,R,r,hS,q⟩:=h;have h1:=@a9 ah A outer s H E hr sc.nd;have h2:=b2;have e0:hd (Ow λ_=>[]) H=H:=by rw[show Ow (λ_=>[])=λ_=>False from funext λb=>propext ⟨λhP=>by obtain⟨_,z⟩:=hP;exact(nomatch z),False.elim⟩,Ip]
  have aE:∀(S:Addr->Prop)H' v x B,R x->Same H (hd S H')->Slo K (hd S H') H' (some v) B x->(∀a∈B,S a)->Q v H':=λS' H' v x B rx E s hB =>
   q H' v x rx (E.trans cQ) ⟨B,λa ha=>E.free (o7 (hB a ha)),s.same (iw (λb z=>.inl (z.elim False.elim (hB b))) λ_ _ z=>z) λ_ _ z=>z⟩
  refine⟨_,h1,λ_=>[],_,_,SR.start r N,h2 ts R hS,⟨λown H' σ o rx E h=>?_,λS' H' v x B rx E s hB=>aE S' H' v x B rx (e0 ▸ E) s hB,λ_ _ _ _ z=>z.elim,λ_ _ _ _ z=>z.elim,λ_ _ _ _ _ _ z=>z.elim⟩⟩;exact aE (Ow own) H' .non _ [] rx (e0 ▸ E) ⟨rfl,_,rfl,.non⟩ λ_ z=>(nomatch z)
def Fun.okU{ag:Str}{N:Φ}{S:ST}(F:Fun K x ag st f fd)(sc:bK N ps (bG st))
 (a9:∀(ah:Value)(A:Around)(outer:xm)(s:Shared)(H:Hp)(E:XK),d9 k (A.deeper (envOfC ag (bG st) s.heap.objs.size f ah))->N.Nodup ->
   ∃r,QSs (Cy CX0 P w K mg base N ag (bG st) f ah A outer s H E).nox (fD st) r/\∀ts R,S ts R->r { nx:=λ_=>R (.fz .non),rt:=R } (start' N.length ts))(len:∀ts R,S ts R->ts.length=ps.length:=by intro _ _ h;repeat (first|exact(ZH List.length h.1).trans rfl|obtain⟨_,h⟩:=h)):fL P w K mg base CX0 (k+1) f fd ps (spT K S):=by
 refine F.ok sc (λvs H Q E h=>?_) λah A outer s H vs Q E hr h=>?_
 .obtain⟨ts,R,r,hS,_⟩:=h;exact r.len.trans (len ts R hS)
 .obtain⟨ts,R,r,hS,q⟩:=h;obtain⟨rd,h1,h2⟩:=a9 ah A outer s H E hr sc.nd;have e0:hd (Ow λ_=>[]) H=H:=by rw[show Ow (λ_=>[])=λ_=>False from funext λb=>propext ⟨λhP=>by obtain⟨_,z⟩:=hP;exact(nomatch z),False.elim⟩,Ip]
  have aE:∀(S:Addr->Prop)H' v x B,R x->Same H (hd S H')->Slo K (hd S H') H' (some v) B x->(∀a∈B,S a)->Q v H':=λS' H' v x B rx E s hB =>
   q H' v x rx (E.trans cQ) ⟨B,λa ha=>E.free (o7 (hB a ha)),s.same (iw (λb z=>.inl (z.elim False.elim (hB b))) λ_ _ z=>z) λ_ _ z=>z⟩
  refine⟨_,h1,λ_=>[],_,_,SR.start r N,h2 ts R hS,⟨λown H' σ o rx E h=>?_,λS' H' v x B rx E s hB=>aE S' H' v x B rx (e0 ▸ E) s hB,λ_ _ _ _ z=>z.elim,λ_ _ _ _ z=>z.elim,λ_ _ _ _ _ _ z=>z.elim⟩⟩;exact aE (Ow own) H' .non _ [] rx (e0 ▸ E) ⟨rfl,_,rfl,.non⟩ λ_ z=>(nomatch z)
abbrev RI:=zI->(zD->Prop)->Prop
def Wlk(K:Frag)(J:It)(F:Hp)(xs:zD):Prop:=∀(S:Addr->Prop)(H:Hp)(i:Nat),(∀b,S b->H b≠none)->Same F (hd S H) ->
 (i=xs.length->J.stop i H)/\∀t,xs[i]?=some t->J.go i H/\∀x H',J.yld i H x H'->Same H H'/\Rep K (hd S H') x t
def tQI(K:Frag)(r:RI):TI:=λσ H Q=>∃own o R,SR K own H σ o/\r o R/\∀H' J xs,R xs->Same H H'->Wlk K J (hd (Ow own) H') xs->Q J H'
def QI(X:Cx)(tg it:Expr)(r:RI):Prop:=PI X tg it (tQI X.K r)
def PI.imp{it:Expr}{t t':TI}(h:PI X tg it t)(i:∀σ H Q,t' σ H Q->t σ H Q):PI X tg it t':=λaa s σ H Q I q=>h aa s σ H Q I (i σ H Q q)
def apO(a:RE):RI:=λo q=>a o λx=>match frz x with|.lst ts=>q ts|_=>False
def apu(a:RE):RI:=λo q=>a o λx=>match frz x with|.tup ts=>q ts|_=>False
def ab7{t:Addr}{u:HO}(n:H t=none)(hs:∀b,S b->H b≠none):hd S (upd H t u) t=some u:=by rw[cW λz=>hs t z n];exact cj
variable{a b iter be:Expr}{ri:RI}{rc rt:RT}{H1:Hp}{az:xz}{scope:Scope}{i0:Nat}{y0:Str}{q:zD->Prop}
def cI(he:QE X e re):QI X tg e (apO re):=(agh he).imp λσ H Q ⟨own,o,R,h,hr,k⟩=>tQ.mk h hr λH1 v x q E1 r1=>by
 revert r1 q
 generalize frz x=t;intro q r1;cases t<;>try exact q.elim
 obtain⟨a,xs,rfl,e,r⟩:=r1.lstI;refine⟨a,rfl,⟨xs,.of (cT e).2⟩,k H1 _ _ q E1 λS H2 i _ SF=>⟨λhi=>⟨xs,.of (cT (SF _ _ e)).2,by rw[r.len];exact WH hi.symm⟩,λt ht=>?_⟩⟩;obtain⟨y,ey,ry⟩:=r.at_ ht;refine⟨⟨xs,y,.of (cT (SF _ _ e)).2,ey⟩,?_⟩;rintro x H3 ⟨rfl,hx⟩;have:=hx xs (.of (cT (SF _ _ e)).2);rw[ey]at this;cases this;exact⟨.refl _,ry.same SF⟩
def aiS(he:QE X e re):QI X tg e (apu re):=(aje he).imp λσ H Q ⟨own,o,R,h,hr,k⟩=>tQ.mk h hr λH1 v x q E1 r1=>by
 revert r1 q
 generalize frz x=t;intro q r1;cases t<;>try exact q.elim
 obtain⟨a,xs,rfl,e,r⟩:=r1.tupI;refine⟨a,rfl,⟨xs,cQ.tup e⟩,k H1 _ _ q E1 λS H2 i _ SF=>⟨λhi=>⟨xs,(SF.trans cQ).tup e,by rw[r.len];exact WH hi.symm⟩,λt ht=>?_⟩⟩;obtain⟨y,ey,ry⟩:=r.at_ ht;refine⟨⟨xs,y,(SF.trans cQ).tup e,ey⟩,?_⟩;rintro x H3 ⟨rfl,hx⟩;have:=hx xs ((SF.trans cQ).tup e);rw[ey]at this;cases this;exact⟨.refl _,ry.same SF⟩
def rng(lo:Int)(n:Nat):zD:=(List.range n).map λk:Nat=>.int (lo+k)
def Za{lo:Int}{F:Hp} : Wlk K (Itr lo n) F (rng lo n):=λS H i _ _=>⟨λhi=>by rw[rng,ak,WP]at hi;exact WH hi.symm,λt ht=>by
 unfold rng at ht;rw[aq]at ht;by_cases hi:i<n
 .rw[VW hi]at ht;cases ht;refine⟨hi,?_⟩;rintro x H' ⟨rfl,rfl⟩;exact⟨.refl _,.int _⟩
 .rw[aM (by simpa using hi)]at ht;cases ht⟩
def ao6(r:RA):RI:=λo q=>r o λts=>match ts with|[.int j]=>(-(2^62)<=j/\j<2^62)/\q (rng 0 j.toNat)|_=>False
def aow(r:RA):RI:=λo q=>r o λts=>match ts with|[.int i,.int j]=>(-(2^62)<=i/\i<2^62/\-(2^62)<=j/\j<2^62)/\q (rng i (j-i).toNat)|_=>False
def dZ(hm:X.mg "range"=none)(ha:QA X [a] r)(hg:Gl X "range":=by rfl)(hs:starEach [a] X.env=[(false,eval a X.env)]:=by rfl):QI X tg (.Call (.Name "range" p) [a] [] pos) (ao6 r):=(aa3 hg hm ha hs).imp λσ H Q ⟨own,o,R,h,hr,k⟩=>⟨own,o,_,h,hr,λH1 vs ts q _ E1 r1=>by
 match ts,q with
 |[.int j],q =>
  obtain⟨x,rfl,rx⟩:=r1.one;cases rx;exact⟨j,rfl,q.1.1,q.1.2,k H1 _ _ q.2 E1 Za⟩⟩
def Ol(hm:X.mg "range"=none)(ha:QA X [a,b] r)(hg:Gl X "range":=by rfl)(hs:starEach [a,b] X.env=[(false,eval a X.env),(false,eval b X.env)]:=by rfl)(eC:starEach [b] X.env=[(false,eval b X.env)]:=by rfl):QI X tg (.Call (.Name "range" p) [a,b] [] pos) (aow r):=(aae hg hm ha hs eC).imp λσ H Q ⟨own,o,R,h,hr,k⟩=>⟨own,o,_,h,hr,λH1 vs ts q _ E1 r1=>by
 match ts,q with
 |[.int i,.int j],q =>
  obtain⟨x,y,rfl,rx,ry⟩:=r1.two;cases rx;cases ry;exact⟨i,j,rfl,q.1,k H1 _ _ q.2 E1 Za⟩⟩
def Bb(ts:zD):zD:=ts.zipIdx.map λp=>.tup [.int (p.2:Nat),p.1]
def aoZ(r:RA):RI:=λo q=>r o λts=>match ts with|[.lst ts]=>q (Bb ts)|_=>False
def rF{b6:xz}{x1}(hm:X.mg "enumerate"=none)(ha:QA X [a] r)(hg:Gl X "enumerate":=by rfl)(hs:starEach [a] X.env=[(false,eval a X.env)]:=by rfl):QI X (.Tuple b6 x1 ax) (.Call (.Name "enumerate" p) [a] [] pos) (aoZ r):=(af8 hg hm ha hs).imp λσ H Q ⟨own,o,R,h,hr,k⟩=>⟨own,o,_,h,hr,λH1 vs ts q _ E1 r1=>by
 match ts,q with
 |[.lst ts],q =>
  obtain⟨x,rfl,rx⟩:=r1.one;obtain⟨a,xs,rfl,e,r⟩:=rx.lstI;refine⟨a,xs,rfl,(cT e).2,k H1 _ _ q E1 λS H2 i hs SF=>⟨λhi=>⟨xs,(cT (SF _ _ e)).2,by rw[r.len,hi];simp[Bb]⟩,λt ht=>?_⟩⟩;unfold Bb at ht;rw[aq]at ht;by_cases hi:i<ts.length
  .rw[aj (by simpa using hi),List.getElem_zipIdx]at ht;cases ht;obtain⟨y,ey,ry⟩:=r.at_ (aj hi);refine⟨⟨xs,(cT (SF _ _ e)).2,by rwa[r.len]⟩,?_⟩;rintro x H3 ⟨eQ,x',t,e',ex,n,rfl,rfl⟩;rw[(cT (SF _ _ e)).2]at e';cases e';rw[ey]at ex;cases ex;refine⟨Same.upd n,.tup (.of (ab7 n hs)) (.cons ?_ (.cons (ry.same (SF.trans (bU (Same.upd n)))) .nil))⟩;rw[show((0+i:Nat):Int)=(i:Int)by lia];exact .int _
  .rw[aM (by simpa using hi)]at ht;cases ht⟩
def La(ts us:zD):zD:=(ts.zip us).map λp=>.tup [p.1,p.2]
def ap4(r:RA):RI:=λo q=>r o λts=>match ts with|[.lst ts,.lst us]=>q (La ts us)|_=>False
def TF{b6:xz}{x1}(hm:X.mg "zip"=none)(ha:QA X [a,b] r)(hg:Gl X "zip":=by rfl)(hs:starEach [a,b] X.env=[(false,eval a X.env),(false,eval b X.env)]:=by rfl)(eC:starEach [b] X.env=[(false,eval b X.env)]:=by rfl):QI X (.Tuple b6 x1 ax) (.Call (.Name "zip" p) [a,b] [] pos) (ap4 r):=(adD hg hm ha hs eC).imp λσ H Q ⟨own,o,R,h,hr,k⟩=>⟨own,o,_,h,hr,λH1 vs ts q _ E1 r1=>by
 match ts,q with
 |[.lst ts,.lst us],q =>
  obtain⟨x,y,rfl,rx,ry⟩:=r1.two;obtain⟨a,xs,rfl,e,r⟩:=rx.lstI;obtain⟨b,ys,rfl,e2,r2⟩:=ry.lstI;refine⟨a,b,xs,ys,rfl,(cT e).2,(cT e2).2,k H1 _ _ q E1 λS H2 i hs SF=>⟨λhi=>⟨xs,ys,(cT (SF _ _ e)).2,(cT (SF _ _ e2)).2,?_⟩,λt ht=>?_⟩⟩
  .rw[r.len,r2.len];rw[La,ak,VU]at hi;lia
  .unfold La at ht;rw[aq]at ht;by_cases hi:i<ts.length/\i<us.length
   .rw[aj (by rw[VU];omega),List.getElem_zip]at ht;cases ht;obtain⟨y,ey,ry⟩:=r.at_ (aj hi.1);obtain⟨z,ez,rz⟩:=r2.at_ (aj hi.2);refine⟨⟨xs,ys,(cT (SF _ _ e)).2,(cT (SF _ _ e2)).2,by rw[r.len];exact hi.1,by rw[r2.len];exact hi.2⟩,?_⟩;rintro x H3 ⟨eQ,i9,x',y',t,e',k6,ex,kC,n,rfl,rfl⟩;rw[(cT (SF _ _ e)).2]at e';cases e';rw[(cT (SF _ _ e2)).2]at k6;cases k6;rw[ey]at ex;cases ex;rw[ez]at kC;cases kC;have S3:=SF.trans (bU (S:=S) (Same.upd (o:=.tup [y,z]) n));exact⟨Same.upd n,.tup (.of (ab7 n hs)) (.cons (ry.same S3) (.cons (rz.same S3) .nil))⟩
   .rw[aM (by rw[VU];omega)]at ht;cases ht⟩
def Ay(g:zg)(b:RS)(E:DT):zD->zI->Prop
 |[],o=>E.nx o
 |t::ts,o=>∃N:zI->Prop,(∀o,N o->Ay g b E ts o)/\g t o λo'=>b { E with nx:=N,ct:=N,bk:=E.nx } o'
def apP(it:RI)(g:zg)(b:RS):RS:=λE o=>it o λxs=>Ay g b E xs o
def eF{bE:xn}{rb:RS}(hi:QI X tg iter ri)(hg:QG X n tg g)(hb:QSs X bE rb)(hc:X.calm=true:=by rfl)(hp:PassesOwn (model X.prog X.w) X.A X.env X.xe:=by first|exact PassesOwn.never|exact PassesOwn.leaving)
 (hs:qA X iter:=by intro _;rfl):QS X (.For tg iter bE [] pos) (apP ri g rb):=(aee hp hc hi hg hb hs).imp λD σ H ⟨own,o,E,h,hr,L⟩=>⟨own,o,_,h,hr,λH1 J xs q E1 wk=>by
 refine⟨λi m σ' H'=>∃am o',SR X.K am H' σ' o'/\Same (hd (Ow own) H1) (hd (Ow am) H')/\Ay g rb E (xs.drop i) o'/\i<=xs.length/\m=xs.length-i,⟨_,own,o,h.same E1,.refl _,q,aZ _,rfl⟩,?_⟩;rintro i m σ' H' ⟨am,o',h',S',hl,il,rfl⟩;obtain⟨w1,w2⟩:=wk (Ow am) H' i (λb z=>(h'.sole z).ne) S';have S0:=(bU E1).trans S';by_cases hi:i<xs.length
 .right;obtain⟨go,yl⟩:=w2 _ (aj hi);rw[Zzz hi]at hl;obtain⟨N,hN,hl⟩:=hl;refine⟨go,λσ2 H2=>∃b5 o2,SR X.K b5 H2 σ2 o2/\Same (hd (Ow own) H1) (hd (Ow b5) H2)/\Ay g rb E (xs.drop (i+1)) o2,λσ2 H2 ⟨b5,o2,a,b,c⟩=>⟨xs.length-(i+1),by omega,b5,o2,a,b,c,hi,rfl⟩,λx H2 y=>?_⟩;obtain⟨E2,rx⟩:=yl x H2 y;refine⟨am,o',_,_,h'.same E2,rx,hl,λff σ3 o3 q3 iA h3=>⟨ff,o3,_,h3,q3,?_⟩⟩;have S3:=S'.trans ((bU (S:=Ow am) E2).trans iA.same);have L3:=L.step ((bU E1).trans S3);exact⟨λcr H4 σ4 o4 q S h=>⟨cr,o4,h,S3.trans S,hN _ q⟩,L3.rt,λcr H4 σ4 o4 q S h=>L3.nx cr H4 σ4 o4 q S h,λcr H4 σ4 o4 q S h=>⟨cr,o4,h,S3.trans S,hN _ q⟩,L3.xc⟩
 .left;refine⟨w1 wf,?_⟩;rw[JS (Nat.not_lt.mp hi)]at hl;exact L.nx am H' σ' o' hl S0 h'⟩
def ahR(c:RT)(b:RS):RS:=λE o=>∃W:Nat->zI->Prop,(∃m,W m o)/\∀m o,W m o->c o λk=>sw k (∃N:zI->Prop,(∀o',N o'->∃m',m'<m/\W m' o')/\b { E with nx:=N,ct:=N,bk:=E.nx } o) (E.nx o)
def JL{bE:xn}{rb:RS}(hc:QT X c rc)(hb:QSs X bE rb)(hp:PassesOwn (model X.prog X.w) X.A X.env X.xe:=by first|exact PassesOwn.never|exact PassesOwn.leaving):QS X (.While c bE [] pos) (ahR rc rb):=(ac5 hp hc hb).imp λD σ H hP=>by
 obtain⟨own,o,E,h,hr,L⟩:=hP;obtain⟨W,⟨m0,w0⟩,st⟩:=hr;refine⟨λm σ' H'=>∃am o',SR X.K am H' σ' o'/\Same (hd (Ow own) H) (hd (Ow am) H')/\W m o',⟨m0,own,o,h,.refl _,w0⟩,?_⟩;rintro m σ' H' ⟨am,o',h',S',wm⟩;refine tQT.mk h' (st m o' wm) λH1 k q E1=>KD q (λhP=>?_) λq=>L.nx am H1 σ' o' q (S'.trans (bU E1)) (h'.same E1);obtain⟨N,hN,q⟩:=hP;have S1:=S'.trans (bU E1);have L1:=L.step S1;refine⟨λσ2 H2=>∃b5 o2,SR X.K b5 H2 σ2 o2/\Same (hd (Ow own) H) (hd (Ow b5) H2)/\N o2,λσ2 H2 hP=>?_,am,o',_,h'.same E1,q,⟨λcr H4 σ4 o4 q S h=>⟨cr,o4,h,S1.trans S,q⟩,L1.rt,λcr H4 σ4 o4 q S h=>L1.nx cr H4 σ4 o4 q S h,λcr H4 σ4 o4 q S h=>⟨cr,o4,h,S1.trans S,q⟩,L1.xc⟩⟩;obtain⟨b5,o2,a,b,c⟩:=hP;obtain⟨m',lt,w⟩:=hN o2 c;exact⟨m',lt,b5,o2,a,b,w⟩
def jW(g:zg)(c:RT)(e:RE)(o:zI):zD->(zD->Prop)->Prop
 |[],q=>q []
 |t::ts,q=>∃(N:T->Prop)(M:Prop),(∀y,N y->jW g c e o ts λus=>q (y::us))/\(M->jW g c e o ts q)/\g t o λo'=>c o' λb=>sw b (e o' λy=>N (frz y)) M
def apU:RT:=λ_ q=>q true
def aal(it:RI)(n:Nat)(g:zg)(c:RT)(e:RE):RE:=λo q=>it o λxs=>xs.length<=sizeLine/\jW g c e (List.replicate n .und++o) xs λus=>q (.l1 us)
def ownS(n L:Nat)(own:Nat->Ψ)(D:Addr):Nat->Ψ:=λi=>if i<n then[]else if i<n+L then own (i-n)else if i=n+L then[D]else own (i-n-1)
def Ow.ownS{n L:Nat}{own:Nat->Ψ}{D b:Addr} : Ow (ownS n L own D) b↔Ow own b\/b=D:=by
 constructor
 .rintro⟨i,z⟩;unfold L2.ownS at z;by_cases h1:i<n
  .rw[ZY h1]at z;cases z
  rw[ZZ h1]at z;by_cases h2:i<n+L
  .rw[ZY h2]at z;exact .inl ⟨_,z⟩
  rw[ZZ h2]at z;by_cases h3:i=n+L
  .rw[ZY h3]at z;exact .inr (YR.mp z)
  .rw[ZZ h3]at z;exact .inl ⟨_,z⟩
 .rintro(⟨i,z⟩|rfl)
  .by_cases h:i<L
   .exact⟨n+i,by unfold L2.ownS;rw[ZZ (TR (X2 _ _)),ZY (Nat.add_lt_add_left h _),show n+i-n=i by exact JU _ _];exact z⟩
   .exact⟨n+i+1,by unfold L2.ownS;rw[ZZ wf,ZZ wf,ZZ wf,show n+i+1-n-1=i by lia];exact z⟩
  .exact⟨n+L,by unfold L2.ownS;rw[ZZ (TR (X2 _ _)),ZZ (X9 _),ZY rfl];simp⟩
def SR.block(h:SR K own H σ o)(E:Same H H')(nD:H D=none)(eD:H' D=some (.lst ys))(pre:L2.St):SR K (ownS pre.length o.length own D) H' (pre++σ) (List.replicate pre.length .und++o):=by
 have le:Same (hd (Ow own) H) (hd (Ow (ownS pre.length o.length own D)) H'):=iw (λb z=>(Ow.ownS.mp z).imp id λ(e:b=D)=>e ▸ nD) E;have f8:∀j,D∉own j:=λj z=>(h.sole ⟨j,z⟩).ne nD;refine⟨by simp[h.len],λi x e=>?_,λi hi a ha=>?_,λi j a e1 e2=>?_⟩
 .by_cases h1:i<pre.length
  .rw[aF (by simpa using h1),X0,ZY h1]at e;cases e;show ownS _ _ _ _ i=[];unfold ownS;rw[ZY h1]
  .rw[aD (by simpa using h1),aN]at e;have h2:i-pre.length<o.length:=(ao.mp e).1;rw[aD (Nat.not_lt.mp h1)];have:ownS pre.length o.length own D i=own (i-pre.length):=by unfold ownS;rw[ZZ h1,ZY (by omega)]
   rw[this];exact(h.sl _ x e).same le E
 .rw[aA,aN]at hi;unfold ownS at ha;rw[ZZ wf,ZZ (TR hi)]at ha;by_cases h3:i=pre.length+o.length
  .rw[ZY h3]at ha;cases YR.mp ha;exact⟨_,eD⟩
  .rw[ZZ h3]at ha;obtain⟨xs,e⟩:=h.out _ wf a ha;exact⟨xs,E _ _ e⟩
 .unfold ownS at e1 e2;by_cases a1:i<pre.length
  .rw[ZY a1]at e1;cases e1
  by_cases b1:j<pre.length
  .rw[ZY b1]at e2;cases e2
  rw[ZZ a1]at e1;rw[ZZ b1]at e2;by_cases a2:i<pre.length+o.length<;>by_cases b2:j<pre.length+o.length
  .rw[ZY a2]at e1;rw[ZY b2]at e2;have:=h.dis _ _ a e1 e2;omega
  .rw[ZY a2]at e1;rw[ZZ b2]at e2;by_cases b3:j=pre.length+o.length
   .rw[ZY b3]at e2;cases YR.mp e2;exact absurd e1 (f8 _)
   .rw[ZZ b3]at e2;have:=h.dis _ _ a e1 e2;omega
  .rw[ZZ a2]at e1;rw[ZY b2]at e2;by_cases a3:i=pre.length+o.length
   .rw[ZY a3]at e1;cases YR.mp e1;exact absurd e2 (f8 _)
   .rw[ZZ a3]at e1;have:=h.dis _ _ a e1 e2;lia
  .rw[ZZ a2]at e1;rw[ZZ b2]at e2;by_cases a3:i=pre.length+o.length<;>by_cases b3:j=pre.length+o.length
   .exact Eq.trans a3 (Eq.symm b3)
   .rw[ZY a3]at e1;rw[ZZ b3]at e2;cases YR.mp e1;exact absurd e2 (f8 _)
   .rw[ZZ a3]at e1;rw[ZY b3]at e2;cases YR.mp e2;exact absurd e1 (f8 _)
   .rw[ZZ a3]at e1;rw[ZZ b3]at e2;have:=h.dis _ _ a e1 e2;lia
def U7{am:Nat->Ψ}{pre σ':L2.St}(hp:pre.length=n)(g:Gj n own am (pre++σ) σ'):∃b7:L2.St,b7.length=n/\σ'=b7++σ:=by
 obtain⟨_,l,k⟩:=g;refine⟨σ'.take n,by rw[aY,l,aA];lia,?_⟩;refine Zzy λi=>?_;by_cases hi:i<n
 .rw[aF (by rw[aY,l,aA];lia),List.getElem?_take_of_lt hi]
 .rw[aD (by rw[aY,l,aA];lia),k i (VT hi),aD wf,aY,l,aA]
  congr 1
  lia
def Wo{J:It}{xs:zD}(h1:SR K own H1 σ o)(wk:Wlk K J (hd (Ow own) H1) xs)(lx:xs.length<=sizeLine)(q:jW g rc re (List.replicate n .und++o) xs λus=>R (.l1 us))(nD:H1 D=none)(k:∀H' v x,R x->Same H1 H'->NR K (Ow own) H1 H' v x->Q v H') :
  ∃W:Nat->Nat->Ζ->Hp->Prop,(∃m,W 0 m [] (upd H1 D (.lst [])))/\∀i m ys Hc,W i m ys Hc ->
   (J.stop i Hc/\Q (.ref D) Hc)\/(J.go i Hc/\∀x H',J.yld i Hc x H'->∀pre:L2.St,pre.length=n->tMG (tQG K n g) x (pre++σ) H' λσ2 H2=>∃b7:L2.St,b7.length=n/\σ2=b7++σ/\tMT (tQT K rc) σ2 H2 λb H3 =>
    match b with
    |true=>tM (tQ K re) σ2 H3 λy H4=>ys.length<sizeLine/\H4 D=some (.lst ys)/\∃m',m'<m/\W (i+1) m' (ys++[y]) (upd H4 D (.lst (ys++[y])))
    |false=>∃m',m'<m/\W (i+1) m' ys H3):=by
 generalize hO:List.replicate n OT.und++o=ob at q;refine⟨λi m ys Hc=>∃ts,Hc D=some (.lst ys)/\Same H1 Hc/\b_ K (hd (λb=>Ow own b\/b=D) Hc) ys ts/\ys.length<=i/\i<=xs.length/\m=xs.length-i/\jW g rc re ob (xs.drop i) λus=>R (.l1 (ts++us)),⟨_,[],cj,Same.upd nD,.nil,aG _,aZ _,rfl,q⟩,?_⟩;rintro i m ys Hc ⟨ts,eD,Ec,rs,il,ix,rfl,hl⟩;have hn:∀b,Ow own b\/b=D->Hc b≠none:=λb z=>z.elim (λz=>((h1.same Ec).sole z).ne) λe z=>by rw[e,eD]at z;cases z
 have SD:Same (hd (Ow own) H1) (hd (λb=>Ow own b\/b=D) Hc):=iw (λb z=>z.imp id λ(e:b=D)=>e ▸ nD) Ec;obtain⟨w1,w2⟩:=wk (λb=>Ow own b\/b=D) Hc i hn SD;by_cases hi:i<xs.length
 .right;obtain⟨go,yl⟩:=w2 _ (aj hi);rw[Zzz hi]at hl;obtain⟨N,M,hN,hM,hl⟩:=hl;refine⟨go,λx H2 y pre hp=>?_⟩;obtain⟨E2,rx⟩:=yl x H2 y;have eO:(λb=>Ow own b\/b=D)=Ow (ownS n o.length own D):=funext λb=>propext Ow.ownS.symm;have hb:SR K (ownS n o.length own D) H2 (pre++σ) ob:=by
   have:=h1.block (Ec.trans E2) nD (E2 _ _ eD) pre;rw[hp,hO]at this;exact this
  rw[eO]at rx rs;refine⟨_,⟨ownS n o.length own D,ob,_,_,hb,rx,hl,λff σ3 o3 q3 iA h3=>?_⟩,λ_ _ z=>z⟩;obtain⟨b7,di,rfl⟩:=U7 hp iA;have e3:ff=ownS n o.length own D:=funext λj=>by
   rcases iA.1 j with e|⟨e1,e2⟩
   .exact e
   .rw[e2];unfold ownS;rw[ZY e1]
  subst e3;refine⟨b7,di,rfl,_,tQT.mk h3 q3 λH3 b q4 E3=>?_,λ_ _ z=>z⟩;have q4:sw b (re o3 λy=>N (frz y)) M:=q4;cases b with
  |false=>exact⟨xs.length-(i+1),by lia,ts,E3 _ _ (E2 _ _ eD),Ec.trans (E2.trans E3),by rw[eO];exact rs.same (bU (E2.trans E3)),by exact aL il (X2 _ _),by exact hi,rfl,hM q4⟩
  |true =>
   refine⟨_,tQ.mk (h3.same E3) q4 λH4 v y q5 E4 r4=>⟨by lia,E4 _ _ (E3 _ _ (E2 _ _ eD)),xs.length-(i+1),by lia,ts++[frz y],cj,λb u e=>?_,?_,by rw[aA,List.length_singleton];exact Nat.succ_le_succ il,by exact hi,rfl,?_⟩,λ_ _ z=>z⟩
   .rw[bZ λz=>by rw[z,nD]at e;cases e];exact E4 _ _ (E3 _ _ (E2 _ _ (Ec _ _ e)))
   .rw[Bv (S:=λb=>Ow own b\/b=D) (.inr rfl),eO];exact(rs.same (bU (E2.trans (E3.trans E4)))).app (.cons r4 .nil)
   .have:=hN _ q5;simp only[WZ,List.singleton_append];exact this
 .left;have:i=xs.length:=by lia
  refine⟨w1 this,?_⟩;rw[JS (VT hi)]at hl;have hl:R (.l1 (ts++[])):=hl;rw[List.append_nil]at hl;exact k Hc _ _ hl Ec (NR.l1 nD eD rs)
def Lp(h:tQ K (aal ri n g rc re) σ H Q):rR (tQI K ri) n (tMG (tQG K n g)) (tMT (tQT K rc)) (tM (tQ K re)) σ H Q:=by
 obtain⟨own,o,R,h,hr,k⟩:=h;exact⟨own,o,_,h,hr,λH1 J xs q E1 wk D nD=>Wo (h.same E1) wk q.1 q.2 nD λH' v x rx E n=>k H' v x rx (E1.trans E) (n.back E1)⟩
def QTs(X:Cx)(az:xz)(r:RT):Prop:=PTs X az (tQT X.K r)
def cD:QTs X [] apU:=λaa s σ H Q I hP=>by obtain⟨own,o,R,h,hr,k⟩:=hP;exact ae8 aa s σ H Q I (k H true hr (.refl _))
def Zz(h:QT X c rc):QTs X [c] rc:=afL h
def eU(sc:Scope)(N N' xs:Φ)(hi:QI X tg iter ri)(hg:∀{C s₀ H₀ ex pn},QG (X.compG N' scope xs C s₀ H₀ ex pn) xs.length tg g)(ht:∀{C s₀ H₀ ex pn},QTs (X.compG N' scope xs C s₀ H₀ ex pn) az rc)(he:∀{C s₀ H₀ ex pn},QE (X.compG N' scope xs C s₀ H₀ ex pn) be re)
 (cx:X.env.scope=sc:=by rfl)(cS:X.N=N:=by rfl)(hc:X.calm=true:=by rfl)(hk:scope.kind=.function:=by rfl)(h:CK sc scope N N' xs:=by decide +kernel)(hs:qA X iter:=by intro _;rfl):QE X (.ListComp be [⟨tg,iter,az,0⟩] scope pos) (aal ri xs.length g rc re) :=
 (ad0 (gt:=tQG X.K xs.length g) (tc:=tQT X.K rc) (te:=tQ X.K re) sc N N' xs hi hg ht he cx cS hc hk h hs).imp λ_ _ _=>Lp
def zc{X:Cx}{tg iter be:Expr}{az:List Expr}{ri:RI}{g:zg}{rc:RT}{re:RE}{scope:Scope}{pos:Pos}(Z:RI->Nat->zg->RT->RE->RE)(hZ:∀{K σ H Q ri n g rc re},tQ K (Z ri n g rc re) σ H Q->rR (tQI K ri) n (tMG (tQG K n g)) (tMT (tQT K rc)) (tM (tQ K re)) σ H Q)(sc:Scope)(N N':Φ)(x0:Str)(hi:QI X tg iter ri)(hg:∀{C s₀ H₀ ex pn},QG (X.compGC N' scope x0 C s₀ H₀ ex pn) 1 tg g)(ht:∀{C s₀ H₀ ex pn},QTs (X.compGC N' scope x0 C s₀ H₀ ex pn) az rc)(he:∀{C s₀ H₀ ex pn},QE (X.compGC N' scope x0 C s₀ H₀ ex pn) be re)
 (cx:X.env.scope=sc:=by rfl)(cS:X.N=N:=by rfl)(hc:X.calm=true:=by rfl)(hk:scope.kind=.function:=by rfl)(gm:∀n acc,cellsFrom n scope.names acc=(x0,n)::acc:=by intro _ _;rfl)(gf:∀h,pushCells h scope.names=h.push { cls:=.type "cell",data:=.cell none }:=by intro _;rfl)(h:(∀y∈scope.names,y.2=.cell->y.1=x0)/\CK0 sc scope N N' [x0]:=by decide +kernel)(hs:qA X iter:=by intro _;rfl):QE X (.ListComp be [⟨tg,iter,az,0⟩] scope pos) (Z ri 1 g rc re):=PE.imp (by subst cx cS;exact Wg (ext1 gm gf h.1) hc h.2.1 hk h.2.2.1 h.2.2.2.1 h.2.2.2.2.1 h.2.2.2.2.2 hi (λ_ _ _ _ _=>hg.mono) (λ_ _ _ _ _=>ht.mono) (λ_ _ _ _ _=>he.mono) hs) λ_ _ _=>hZ
def YG:=@zc X tg iter be az ri g rc re scope pos aal Lp
def TJ{N0:Φ}{x0:Str}{sO:Scope}{C0:Addr}{s0:Shared}{H0:Hp}{eJ:Ψ}{dQ:Δ}(sc:Scope)(N N' xs:Φ)(hi:QI (X.compGC N0 sO x0 C0 s0 H0 eJ dQ) tg iter ri)(hg:∀{C s₀ H₀ ex pn},QG ((X.compGC N0 sO x0 C0 s0 H0 eJ dQ).compG N' scope xs C s₀ H₀ ex pn) xs.length tg g)(ht:∀{C s₀ H₀ ex pn},QTs ((X.compGC N0 sO x0 C0 s0 H0 eJ dQ).compG N' scope xs C s₀ H₀ ex pn) az rc)(he:∀{C s₀ H₀ ex pn},QE ((X.compGC N0 sO x0 C0 s0 H0 eJ dQ).compG N' scope xs C s₀ H₀ ex pn) be re)
 (cx:X.env.scope=sc:=by rfl)(cS : [x0]++N0=N:=by rfl)(hc:X.calm=true:=by rfl)(hk:scope.kind=.function:=by rfl)(h:CK (rlb sc sO) scope N N' xs:=by decide +kernel)(hs:∀z,foldedSetIterable iter (X.compGC N0 sO x0 C0 s0 H0 eJ dQ).env z=pure z:=by intro _;rfl):QE (X.compGC N0 sO x0 C0 s0 H0 eJ dQ) (.ListComp be [⟨tg,iter,az,0⟩] scope pos) (aal ri xs.length g rc re):=by
 subst cx cS;exact eU (X:=X.compGC N0 sO x0 C0 s0 H0 eJ dQ) (rlb X.env.scope sO) _ N' xs hi hg ht he rfl rfl hc hk h hs
def zf{X:Cx}{tg iter be:Expr}{az:List Expr}{ri:RI}{g:zg}{rc:RT}{re:RE}{scope:Scope}{pos:Pos}{i0:Nat}{y0:Str}{py b8:Pos}(Z:Nat->RI->Nat->zg->RT->RE->RS)(hZ:∀{X i0 ri n g rc re D σ H},tQS X (Z i0 ri n g rc re) D σ H->afJ (rR (tQI X.K ri) n (tMG (tQG X.K n g)) (tMT (tQT X.K rc)) (tM (tQ X.K re))) (Ai i0) D σ H)(sc:Scope)(N N' xs:Φ)(hi:QI X tg iter ri)(hg:∀{C s₀ H₀ ex pn},QG (X.compG N' scope xs C s₀ H₀ ex pn) xs.length tg g)(ht:∀{C s₀ H₀ ex pn},QTs (X.compG N' scope xs C s₀ H₀ ex pn) az rc)(he:∀{C s₀ H₀ ex pn},QE (X.compG N' scope xs C s₀ H₀ ex pn) be re)(gh:PG X (.Name y0 py) (Ai i0))
 (cx:X.env.scope=sc:=by rfl)(cS:X.N=N:=by rfl)(hc:X.calm=true:=by rfl)(hk:scope.kind=.function:=by rfl)(h:CK sc scope N N' xs:=by decide +kernel)(f':swapsWith (.ListComp be [⟨tg,iter,az,0⟩] scope pos) (some (.Name y0 py)) b8.line X.env=pure true:=by rfl)(hs:qA X iter:=by intro _;rfl):QS X (.Assign [.Name y0 py] (.ListComp be [⟨tg,iter,az,0⟩] scope pos) b8) (Z i0 ri xs.length g rc re):=PS.imp (by subst cx cS;exact ace (aj5 hk h.1) hc h.2.1 hk h.2.2.1 h.2.2.2.1 h.2.2.2.2.1 h.2.2.2.2.2 hi (λ_ _ _ _ _=>hg.mono) (λ_ _ _ _ _=>ht.mono) (λ_ _ _ _ _=>he.mono) gh f' hs) λ_ _ _=>hZ
def ahv{py b8:Pos}:=@zf X tg iter be az ri g rc re scope pos i0 y0 py b8 (λi r n g c e=>ajB i (aal r n g c e)) λ{_ i0 _ _ _ _ _ _ _ _}⟨own,o,E,h,hr,L⟩=>Lp ⟨own,o,_,h,hr,λH' v y q S n=>by
 obtain⟨am,h',S'⟩:=h.putA S n i0;exact L.nx am H' _ _ q S' h'⟩
def gk{N' xs:Φ}{C s₀ H₀ ex pn}(hN:(xs++N').Nodup:=by decide +kernel)(hi:(xs++N')[i]?=some x:=by rfl)(hn:i<n:=by decide)(hx:Loc (X.compG N' scope xs C s₀ H₀ ex pn).env.scope x:=by exact Or.inl rfl)(hf:(X.compG N' scope xs C s₀ H₀ ex pn).fn x=true\/(X.compG N' scope xs C s₀ H₀ ex pn).env.scope.names.lookup x=some .local:=by exact Or.inr rfl):QG (X.compG N' scope xs C s₀ H₀ ex pn) n (.Name x p) (hName i):=bW (i:=i) (hN:=hN) (hx:=hx) (hi:=hi) (hn:=hn) (hf:=hf)
def abD{N':Φ}{x0:Str}{C s₀ H₀ ex pn}(hN:([x0]++N').Nodup:=by decide +kernel)(hx:Loc (X.compGC N' scope x0 C s₀ H₀ ex pn).env.scope x0:=by exact Or.inr rfl):QG (X.compGC N' scope x0 C s₀ H₀ ex pn) 1 (.Name x0 p) (hName 0)   := bW (i:=0) (hN:=hN) (hx:=hx) (hi:=rfl) (hn:=wb) (hf:=(.inl (beq_self_eq_true _)))
def aa7{c:RT}{e:RE}(h:g t o λo'=>c o' λb=>sw b (e o' λy=>jW g c e o ts λus=>q (frz y::us)) (jW g c e o ts q)):jW g c e o (t::ts) q:=⟨λy=>jW g c e o ts λus=>q (y::us),_,λ_ h=>h,id,h⟩
theorem b_.reps{K:Frag}{F:Hp}{xs:Ζ}{ts:zD}(h:b_ K F xs ts):∀n:Nat,b_ K F (List.replicate n xs).flatten (List.replicate n ts).flatten
 |0=>.nil
 |n+1=>by rw[List.replicate_succ,List.replicate_succ,List.flatten_cons,List.flatten_cons];exact h.app (b_.reps h n)
def cG:GO X (binaryOp .Mult) apg:=λaa s σ H x y v u Q I rx ry h=>by
 obtain⟨S,t,w,R,_,hx,hy,hg,k⟩:=h;cases w with
 |int j=>?_
 |_=>cases t<;>exact hg.elim
 cases hy;cases t<;>try exact hg.elim
 .cases hx;exact PB aa s σ H _ _ v u Q I rx ry ⟨_,_,rfl,rfl,hg.1,k H _ _ hg.2 (.refl _) (NR.fz (.int _))⟩
 .cases hx;obtain⟨c,rfl,h1,h2,q⟩:=hg;exact afQ aa s σ H _ _ v u Q I rx ry ⟨c,j,rfl,rfl,h1,h2,λz hz=>k H _ _ (q z hz) (.refl _) (NR.fz (.str _))⟩
 .obtain⟨p,xs,rfl,e,r⟩:=hx.lstI;obtain⟨⟨h1,h2,h3⟩,q⟩:=hg;exact aik aa s σ H _ _ v u Q I rx ry ⟨p,j,xs,rfl,rfl,(cT e).2,h1,h2,by rw[r.len];exact h3,λa ha=>k _ _ _ (q _ rfl) (Same.upd ha) (Cm (r.reps j.toNat) (Same.upd ha) ha cj)⟩
mutual
def ofD:PyData->T
 |.none=>.non
 |.bool b=>.bl b
 |.int i=>.int i
 |.str s=>.str s
 |.list ds=>.lst (abu ds)
 |.tuple ds=>.tup (abu ds)
 |.dict _=>.any
def abu:xa->zD
 |[]=>[]
 |d::ds=>ofD d::abu ds
end
mutual
theorem Rep.shows{K:Frag}{F:Hp} : ∀{x:V}{t:T},Rep K F x t->∀d,t=ofD d->d.canLay0=true->iz K F x d
 |_,_,.any v,d,e,s=>by cases d<;>cases e;cases s
 |_,_,.non,d,e,_=>by cases d<;>cases e;exact .non
 |_,_,.bl b,d,e,_=>by cases d<;>cases e;exact .bl _
 |_,_,.int i,d,e,_=>by cases d<;>cases e;exact .int _
 |_,_,.str s,d,e,_=>by cases d<;>cases e;exact .str _
 |_,_,.val v,d,e,_=>by cases d<;>cases e
 |_,_,.tup q h,d,e,s=>by
  cases d<;>cases e;exact .tup q (b_.shows h _ rfl s)
 |_,_,.lst q h,d,e,s=>by
  cases d<;>cases e;exact .lst q (b_.shows h _ rfl s)
 |_,_,.scr q h,d,e,_=>by cases d<;>cases e
 |_,_,.dct q l h,d,e,_=>by cases d<;>cases e
 |_,_,.ins q d' l h,d,e,_=>by cases d<;>cases e
 |_,_,.exc q d' l h,d,e,_=>by cases d<;>cases e
theorem b_.shows{K:Frag}{F:Hp} : ∀{xs:Ζ}{ts:zD},b_ K F xs ts->∀ds,ts=abu ds->PyData.canLayAll0 ds=true->fZ K F xs ds
 |_,_,.nil,ds,e,_=>by cases ds<;>cases e;exact .nil
 |_,_,.cons a b,ds,e,s=>by
  cases ds<;>cases e;obtain⟨s1,s2⟩:=Bool.and_eq_true_iff.mp s;exact .cons (Rep.shows a _ rfl s1) (b_.shows b _ rfl s2)
end
def xr:Bool->Bool->Bool
 |false,b=>b
 |true,b=>!b
def eqS:T->T->xN
 |.int i,.int j=>some (decide (i=j))
 |.str i,.str j=>some (decide (i=j))
 |.bl i,.bl j=>some (decide (i=j))
 |.non,.non=>some true
 |.non,.int _=>some false
 |.int _,.non=>some false
 |.non,.str _=>some false
 |.str _,.non=>some false
 |.int _,.str _=>some false
 |.str _,.int _=>some false
 |.tup [.int a,.int b],.tup [.int c,.int d]=>some (decide (a=c)&&decide (b=d))
 |_,_=>none
def gEq(neg:Bool)(t u:T)(q:OT->Prop):Prop:=match eqS t u with
 |some b=>q (.fz (.bl (xr neg b)))
 |none=>∃d e,t=ofD d/\u=ofD e/\SeqAt.shaped d=true/\SeqAt.shaped e=true/\q (.fz (.bl (xr neg (PyData.eqv d e))))
def aep(a b c d:Int):PyData.eqv (.tuple [.int a,.int b]) (.tuple [.int c,.int d])=(decide (a=c)&&decide (b=d)):=by
 simp only[PyData.eqv,PyData.eqvAll,Bool.and_true]
 rfl
def ahO{F:Hp}{x y:V}{u:T}{b:Bool}(S:Same F H)(hx:Rep K F x t)(hy:Rep K F y u)(e:eqS t u=some b):(afI x y=true/\decide (x=y)=b)\/∃d e,iz K H x d/\iz K H y e/\SeqAt.shaped d=true/\SeqAt.shaped e=true/\PyData.eqv d e=b:=by
 unfold eqS at e;split at e<;>cases e
 .cases hx;cases hy;exact .inl ⟨rfl,by simp⟩
 .cases hx;cases hy;exact .inl ⟨rfl,by simp⟩
 .cases hx;cases hy;exact .inl ⟨rfl,by simp⟩
 .cases hx;cases hy;exact .inl ⟨rfl,rfl⟩
 .cases hx;cases hy;exact .inl ⟨rfl,rfl⟩
 .cases hx;cases hy;exact .inl ⟨rfl,rfl⟩
 .cases hx;cases hy;exact .inl ⟨rfl,rfl⟩
 .cases hx;cases hy;exact .inl ⟨rfl,rfl⟩
 .cases hx;cases hy;exact .inl ⟨rfl,rfl⟩
 .cases hx;cases hy;exact .inl ⟨rfl,rfl⟩
 .exact .inr ⟨.tuple [.int _,.int _],.tuple [.int _,.int _],(hx.shows _ rfl rfl).same S,(hy.shows _ rfl rfl).same S,rfl,rfl,aep _ _ _ _⟩
def abl(neg:Bool)(h1:OpR X (compareOp op) λx y H Q=>afI x y=true/\Q (.bl (xr neg (decide (x=y)))) H)(h2:OpR X (compareOp op) (ajb X.K neg)):GO X (compareOp op) (gEq neg):=λaa s σ H x y v u Q I rx ry h=>by
 obtain⟨S,t,w,R,_,hx,hy,hg,k⟩:=h;have xe:∀b:Bool,(if neg then !b else b)=xr neg b:=λb=>by cases neg<;>rfl
 unfold gEq at hg;cases es:eqS t w with
 |some b =>
  rw[es]at hg;rcases ahO cQ hx hy es with⟨a,c⟩|⟨d,e,s1,s2,s3,s4,c⟩
  .exact h1 aa s σ H x y v u Q I rx ry ⟨a,by rw[c];exact k H _ _ hg (.refl _) (NR.fz (.bl _))⟩
  .exact h2 aa s σ H x y v u Q I rx ry ⟨d,e,s1,s2,s3,s4,by rw[xe,c];exact k H _ _ hg (.refl _) (NR.fz (.bl _))⟩
 |none =>
  rw[es]at hg;obtain⟨d,e,e1,e2,s1,s2,q⟩:=hg;exact h2 aa s σ H x y v u Q I rx ry ⟨d,e,(hx.shows d e1 (Bool.and_eq_true_iff.mp s1).1).same cQ,(hy.shows e e2 (Bool.and_eq_true_iff.mp s2).1).same cQ,s1,s2,by rw[xe];exact k H _ _ q (.refl _) (NR.fz (.bl _))⟩
def go_eq(hu:X.A.units+64<cLine):GO X (compareOp .Eq) (gEq false):=abl false anO (ahi hu)
def mY(hu:X.A.units+64<cLine):GO X (compareOp .NotEq) (gEq true):=abl true aj0 (ahY hu)
def flat:OT->Prop
 |.fz (.int _)=>True
 |.fz (.bl _)=>True
 |.fz (.str _)=>True
 |.fz .non=>True
 |_=>False
def aqg(i:Nat)(a:RE):RE:=λo q=>match slot o i with|.und=>False|x=>a (o.set i (.fz (frz x))) λy=>flat y/\q y
def ajX(i:Nat)(a:RT):RT:=λo q=>match slot o i with|.und=>False|x=>a (o.set i (.fz (frz x))) q
def Zy{P:OT->Prop}(h:match slot o i with|.und=>False|x=>P x):P (slot o i)/\slot o i≠.und:=by
 cases e:slot o i<;>rw[e]at h<;>first|exact h.elim|exact⟨h,λz=>by cases z⟩
def Q6(i:Nat)(h:QE X e re):QE X e (aqg i re):=PE.imp h λσ H Q hP=>by
 obtain⟨own,o,R,h,hr,k⟩:=hP;obtain⟨hr,ne⟩:=Zy (P:=λx=>re (o.set i (.fz (frz x))) λy=>flat y/\R y) hr;obtain⟨u,e1,s⟩:=h.val rfl ne;obtain⟨am,h',S⟩:=h.frz (jf rfl ne) e1;refine⟨am,_,_,h',hr,λH' v x q E n=>k H' v x q.2 E ?_⟩;have fl:=q.1;have rp:=n.rep λb z=>(h'.sole z).ne;cases x with
 |fz t=>cases t<;>first|exact fl.elim|(cases rp;first|exact NR.fz (.int _)|exact NR.fz (.bl _)|exact NR.fz (.str _)|exact NR.fz .non)
 |_=>exact fl.elim
def KR(i:Nat)(h:QT X e rt):QT X e (ajX i rt):=PT.imp h λσ H Q hP=>by
 obtain⟨own,o,R,h,hr,k⟩:=hP;obtain⟨hr,ne⟩:=Zy (P:=λx=>rt (o.set i (.fz (frz x))) R) hr;obtain⟨u,e1,s⟩:=h.val rfl ne;obtain⟨am,h',S⟩:=h.frz (jf rfl ne) e1;exact⟨am,_,_,h',hr,k⟩
def aaP:T->Option Key
 |.int i=>some (.inl i)
 |.str s=>some (.inr s)
 |_=>none
def qm{α:Type} : xB->List α->Key->Option α
 |k::ks,t::ts,j=>if k=j then some t else qm ks ts j
 |_,_,_=>none
def R0{F:Hp}{x:V}{k:Key}(h:Rep K F x t)(e:aaP t=some k):x=kV k:=by
 cases h<;>cases e<;>rfl
theorem Fy{K:Frag}{F:Hp}{k:Key} : ∀{ks:xB}{xs:Ζ}{ts:zD},b_ K F xs ts->(∀t,qm ks ts k=some t->∃x,JM (ks.zip xs) k=some x/\Rep K F x t)/\(qm ks ts k=none->JM (ks.zip xs) k=none)
 |[],_,_,_=>⟨λ_ z=>(nomatch z),λ_=>rfl⟩
 |_::_,_,_,.nil=>⟨λ_ z=>(nomatch z),λ_=>rfl⟩
 |j::ks,_,_,.cons a b=>by
  by_cases h:j=k
  .refine⟨λt z=>?_,λz=>?_⟩
   .unfold qm at z;rw[ZY h]at z;cases z;exact⟨_,V7 h,a⟩
   .unfold qm at z;rw[ZY h]at z;cases z
  .obtain⟨i1,i2⟩:=Fy (k:=k) (ks:=ks) b;refine⟨λt z=>?_,λz=>?_⟩
   .unfold qm at z;rw[ZZ h]at z;obtain⟨x,e,r⟩:=i1 t z;exact⟨x,(Jo h).trans e,r⟩
   .unfold qm at z;rw[ZZ h]at z;exact(Jo h).trans (i2 z)
def ak3:zd
 |.dct ks ts,u,q=>∃k t,aaP u=some k/\qm ks ts k=some t/\q (.fz t)
 |_,_,_=>False
def Rp(hu:X.A.units+1<cLine)(ha:QE X a ra)(hb:QE X b rb)(hs:ahS b:=by exact λ_ _=>rfl):QE X (.Subscript a b pos) (rOp ak3 ra rb):=(afp hu ha hb hs).imp λσ H Q ⟨own,o,R,h,hr,k⟩=>tQ.mk h hr λH1 v x q E1 r1=>tQ.mk (h.same E1) q λH2 w y q E2 r2=>by
 have r1:=r1.same (bU E2)
 revert r1 q
 generalize frz x=t;intro q r1;cases t<;>try exact q.elim
 obtain⟨d,xs,rfl,e,l,r⟩:=r1.dctI;obtain⟨j,t,e1,e2,q⟩:=q;obtain⟨z,e3,r3⟩:=(Fy r).1 t e2;cases R0 r2 e1;exact⟨d,z,rfl,.inl ⟨_,_,cQ.rd e,rfl,e3.symm⟩,k H2 _ _ q (E1.trans E2) (NR.fz r3)⟩
def aip(neg:Bool):zd
 |u,.dct ks ts,q=>∃k,aaP u=some k/\q (.fz (.bl (xr neg (qm ks ts k).isSome)))
 |_,_,_=>False
def adP{neg:Bool}(h:tQ X.K (rOp (aip neg) ra rb) σ H Q):(tQ X.K ra) σ H λy H1=>(tQ X.K rb) σ H1 λx H2=>∃a o,x=.ref a/\Fx H2 a y o/\Q (.bl (xr neg o.isSome)) H2:=by
 obtain⟨own,o,R,h,hr,k⟩:=h;refine tQ.mk h hr λH1 v x q E1 r1=>tQ.mk (h.same E1) q λH2 w y q E2 r2=>?_;have r1:=r1.same (bU E2)
 revert r2 q
 generalize frz y=t;intro q r2;cases t with
 |dct ks ts =>
  obtain⟨d,xs,rfl,e,l,r⟩:=r2.dctI;obtain⟨j,e1,q⟩:=q;cases R0 r1 e1;refine⟨d,_,rfl,.inl ⟨_,_,cQ.rd e,rfl,rfl⟩,?_⟩;have:(JM (ks.zip xs) j).isSome=(qm ks ts j).isSome:=by
   cases z:qm ks ts j with
   |none=>rw[(Fy r).2 z];rfl
   |some t=>obtain⟨x,e,_⟩:=(Fy r).1 t z;rw[e];rfl
  rw[this];exact k H2 _ _ q (E1.trans E2) (NR.fz (.bl _))
 |_=>cases frz x<;>exact q.elim
def agY{r:RE}{tt:TE}(i:∀σ H Q,tQ X.K r σ H Q->tt σ H Q){Q:Bool->Hp->Prop}(h:tQT X.K (rB r) σ H Q):tB tt σ H Q:=by
 obtain⟨own,o,R,h,hr,k⟩:=h;refine i σ H _ (tQ.mk h hr λH1 v x q E1 r1=>?_)
 revert r1 q
 generalize frz x=t;intro q r1;cases r1<;>try exact q.elim
 exact⟨_,rfl,k _ _ q E1⟩
def abE(hu:X.A.units+1<cLine)(ha:QE X a ra)(hb:QE X b rb)(h1:behindInMarks .In b=false:=by rfl):QT X (.Compare a [.In] [b] pos) (rB (rOp (aip false) ra rb)):=(acw (aii hu ha hb) h1).imp λ_ _ _=>agY λ_ _ _=>adP (neg:=false)
def aam(hu:X.A.units+1<cLine)(ha:QE X a ra)(hb:QE X b rb)(h1:behindInMarks .NotIn b=false:=by rfl):QT X (.Compare a [.NotIn] [b] pos) (rB (rOp (aip true) ra rb)):=(acw (ZS hu ha hb) h1).imp λ_ _ _=>agY λ_ _ _=>adP (neg:=true)
def aou:RE:=λ_ q=>q (.d1 [] [])
def RV:QE X (.Dict [] [] pos) aou:=ab8.imp λσ H Q ⟨own,o,R,h,hr,k⟩ p hp=>k _ _ _ hr (Same.upd hp) ⟨[p],λa ha=>(YR.mp ha) ▸ hp,p,[],rfl,rfl,cj,rfl,.nil⟩
def aqi(i:Nat)(a b:RE):RS:=λE o=>match slot o i with|.d1 ks ts=>a o λy=>b o λk=>∃j,aaP (frz k)=some j/\qm ks ts j=none/\ks.length<sizeLine/\ks.length=ts.length/\E.nx (o.set i (.d1 (ks++[j]) (ts++[frz y])))|_=>False
def lkF{α:Type} : Φ->List α->Str->Option α
 |k::ks,t::ts,f=>if k=f then some t else lkF ks ts f
 |_,_,_=>none
def KZ:Φ->Str->Φ
 |[],f=>[f]
 |k::ks,f=>if k=f then k::ks else k::KZ ks f
def Al{α:Type} : Φ->List α->Str->α->List α
 |k::ks,t::ts,f,v=>if k=f then v::ts else t::Al ks ts f v
 |_,ts,_,v=>ts++[v]
theorem acL{K:Frag}{F:Hp}{f:Str} : ∀{ks:Φ}{xs:Ζ}{ts:zD},b_ K F xs ts->(∀t,lkF ks ts f=some t->∃x,(ks.zip xs).lookup f=some x/\Rep K F x t)/\(lkF ks ts f=none->(ks.zip xs).lookup f=none)
 |[],_,_,_=>⟨λ_ z=>(nomatch z),λ_=>rfl⟩
 |_::_,_,_,.nil=>⟨λ_ z=>(nomatch z),λ_=>rfl⟩
 |j::ks,_,_,.cons a b=>by
  obtain⟨i1,i2⟩:=acL (f:=f) (ks:=ks) b;by_cases h:j=f
  .refine⟨λt z=>?_,λz=>?_⟩
   .unfold lkF at z;rw[ZY h]at z;cases z;exact⟨_,by rw[List.zip_cons_cons,List.lookup_cons,h,beq_self_eq_true],a⟩
   .unfold lkF at z;rw[ZY h]at z;cases z
  .have e:∀x(r:xl),((j,x)::r).lookup f=r.lookup f:=λx r=>by rw[List.lookup_cons,beq_false_of_ne (Ne.symm h)]
   refine⟨λt z=>?_,λz=>?_⟩
   .unfold lkF at z;rw[ZZ h]at z;obtain⟨x,e1,r⟩:=i1 t z;exact⟨x,(e _ _).trans e1,r⟩
   .unfold lkF at z;rw[ZZ h]at z;exact(e _ _).trans (i2 z)
theorem T9{f:Str}{v:V} : ∀{ks:Φ}{xs:Ζ},ks.length=xs.length->wg f v (ks.zip xs)=(KZ ks f).zip (Al ks xs f v)/\(KZ ks f).length=(Al ks xs f v).length
 |[],[],_=>⟨rfl,rfl⟩
 |k::ks,x::xs,l=>by
  obtain⟨i1,i2⟩:=T9 (f:=f) (v:=v) (ks:=ks) (xs:=xs) (Nat.succ.inj l);show(if k=f then(k,v)::ks.zip xs else(k,x)::wg f v (ks.zip xs))=_/\_;unfold KZ Al;by_cases h:k=f
  .rw[ZY h,ZY h,ZY h];exact⟨rfl,l⟩
  .rw[ZZ h,ZZ h,ZZ h,i1];exact⟨rfl,ZH (· + 1) i2⟩
 |[],_::_,l=>by cases l
 |_::_,[],l=>by cases l
theorem b_.put{K:Frag}{F:Hp}{f:Str}{v:V}{t:T}(r:Rep K F v t):∀{ks:Φ}{xs:Ζ}{ts:zD},b_ K F xs ts->b_ K F (Al ks xs f v) (Al ks ts f t)
 |[],_,_,h=>h.app (.cons r .nil)
 |_::_,_,_,.nil=>.cons r .nil
 |k::ks,_,_,.cons a b=>by
  unfold Al;by_cases h:k=f
  .rw[ZY h,ZY h];exact .cons r b
  .rw[ZZ h,ZZ h];exact .cons a (b_.put r b)
abbrev SI:=Addr->Φ->zD->zD->(Φ->zD->Prop)->Prop
def Slf(a dx b:Addr):Prop:=b=a\/b=dx
def spI(K:Frag)(S:SI):Sp:=λvs H Q _=>∃a dx C ks xs ts us as R,vs=.ref a::us/\H a=some (.ins C dx (ks.zip xs))/\H dx=some (.own a)/\ks.length=xs.length/\b_ K (hd (Slf a dx) H) xs ts/\b_ K (hd (Slf a dx) H) us as/\S C ks ts as R /\
 ∀H' eB eQ c6,R eB c6->Same (hd (Slf a dx) H) (hd (Slf a dx) H')->H' a=some (.ins C dx (eB.zip eQ))->H' dx=some (.own a)->eB.length=eQ.length->b_ K (hd (Slf a dx) H') eQ c6->Q .non H'
def startI(n:Nat)(a dx C:Addr)(ks:Φ)(ts as:zD):zI:=.ob a dx C ks ts::start' (n-1) as
def al4(a dx:Addr):Nat->Ψ
 |0=>[a,dx]
 |_+1=>[]
def Yr(a dx:Addr):Ow (al4 a dx)=Slf a dx:=funext λb=>propext ⟨(λh=>by
  obtain⟨i,z⟩:=h;cases i with
  |zero =>
   rcases YU.mp z with z|z
   .exact .inl z
   .exact .inr (YR.mp z)
  |succ i=>cases z),λz=>⟨0,by show b∈[a,dx];rcases z with rfl|rfl<;>simp⟩⟩
def SR.startI{H:Hp}{a dx C:Addr}{ks:Φ}{xs:Ζ}{ts as:zD}{us:Ζ}(ha:H a=some (.ins C dx (ks.zip xs)))(bu:H dx=some (.own a))(l:ks.length=xs.length)(r:b_ K (hd (Slf a dx) H) xs ts)(r2:b_ K (hd (Slf a dx) H) us as)(N:Φ)(hN:us.length+1<=N.length) :
  SR K (al4 a dx) H (L2.start N (.ref a::us)) (L2.startI N.length a dx C ks ts as):=by
 have eO:=Yr a dx;refine⟨?_,λi x e=>?_,λi hi b hb=>?_,λi j b e1 e2=>?_⟩
 .unfold L2.startI start' L2.start;have:=r2.len;simp only[List.length_cons,aA,ak,aN];lia
 .rw[eO];unfold L2.startI at e;cases i with
  |zero =>
   cases e;exact⟨xs,rfl,rfl,ha,bu,l,r⟩
  |succ i =>
   rw[List.getElem?_cons_succ]at e;show Slo K _ _ _ [] x;unfold start' at e;unfold L2.start;rw[List.map_cons,List.cons_append,List.getElem?_cons_succ];by_cases hi:i<as.length
   .rw[aF (by simpa using hi),aq,aj hi]at e;cases e;obtain⟨v,e1,r1⟩:=r2.at_ (aj hi);rw[aF (by rwa[ak,r2.len]),aq,e1];exact⟨rfl,v,rfl,r1⟩
   .rw[aD (by simpa using hi),ak,X0]at e;by_cases hj:i-as.length<N.length-1-as.length
    .rw[ZY hj]at e;cases e;rfl
    .rw[ZZ hj]at e;cases e
 .unfold L2.startI at hi;cases i with
  |zero=>cases hi
  |succ i=>cases hb
 .cases i with
  |zero =>
   cases j with
   |zero=>rfl
   |succ j=>cases e2
  |succ i=>cases e1
def Fun.okI{ag:Str}{N:Φ}{S:SI}(F:Fun K x ag st f fd)(sc:bK N ps (bG st))(len:∀C ks ts as R,S C ks ts as R->as.length+1=ps.length)(hn:ps.length<=N.length)
 (a9:∀(ah:Value)(A:Around)(outer:xm)(s:Shared)(H:Hp)(E:XK),d9 k (A.deeper (envOfC ag (bG st) s.heap.objs.size f ah))->N.Nodup ->
   ∃r,QSs (Cy CX0 P w K mg base N ag (bG st) f ah A outer s H E).nox (fD st) r/\∀a dx C ks ts as R,S C ks ts as R->r { nx:=λo=>∃eB c6,slot o 0=.ob a dx C eB c6/\R eB c6,rt:=λ_=>False } (startI N.length a dx C ks ts as)):fL P w K mg base CX0 (k+1) f fd ps (spI K S):=by
 refine F.ok sc (λvs H Q E h=>?_) λah A outer s H vs Q E hr h=>?_
 .obtain⟨a,dx,C,ks,xs,ts,us,as,R,rfl,_,_,_,_,r2,hS,_⟩:=h;rw[List.length_cons,r2.len];exact len _ _ _ _ _ hS
 .obtain⟨a,dx,C,ks,xs,ts,us,as,R,rfl,ha,bu,l,r,r2,hS,q⟩:=h;obtain⟨rd,h1,h2⟩:=a9 ah A outer s H E hr sc.nd;have s0:=SR.startI ha bu l r r2 N (by rwa[r2.len,len _ _ _ _ _ hS]);have eO:=Yr a dx;refine⟨_,h1,_,_,_,s0,h2 a dx C ks ts as R hS,⟨λown H' σ o rx E h=>?_,λ_ _ _ _ _ z=>z.elim,λ_ _ _ _ z=>z.elim,λ_ _ _ _ z=>z.elim,λ_ _ _ _ _ _ z=>z.elim⟩⟩;obtain⟨eB,c6,es,rx⟩:=rx;rw[eO]at E;obtain⟨u,_,eQ,e1,e2,e3,e4,e5,e6⟩:=h.val es (by intro z;cases z);have sub:Same (hd (Ow own) H') (hd (Slf a dx) H'):=iw (λb z=>.inl ⟨0,by rw[e2];rcases z with rfl|rfl<;>simp⟩) λ_ _ z=>z;exact q H' eB eQ c6 rx (E.trans sub) e3 e4 e5 (e6.same sub)
def ahd(Fm:Addr->Prop)(i:Nat)(f:Str):RE:=λo q=>match slot o i with|.ob _ _ C ks ts=>Fm C/\∃t,lkF ks ts f=some t/\q (.fz t)|_=>False
variable{f:Str}{Fm:Addr->Prop}{S:ST}{pl:Sem Bool}{j:Int}
def afT(i:Nat)(c:∀C,Fm C->Cls X.K C/\cg X.K C f)(hN:X.N[i]?=some x:=by rfl)(hv:qX X.env.scope x=true:=by rfl)(bu:qk x:=by decide)(aI:qo x:=by decide)(hb:attributeBase (.Name x p) f X.env (eval (.Name x p) X.env)=eval (.Name x p) X.env:=by rfl):QE X (.Attribute (.Name x p) f pos) (ahd Fm i f):=(adq (pv i hN hv bu aI) hb).imp λσ H Q hP=>by
 obtain⟨own,o,R,h,hr,k⟩:=hP;unfold ahd at hr;cases es:slot o i with
 |ob a dx C ks ts =>
  rw[es]at hr;obtain⟨u,e1,xs,e2,e3,e4,e5,l,r⟩:=h.val es (by intro z;cases z);cases e2;obtain⟨hf,t,e6,q⟩:=hr;obtain⟨v,e7,r7⟩:=(acL r).1 t e6;exact⟨_,e1,a,C,dx,_,v,rfl,e4,(c C hf).1,(c C hf).2,e7,k H _ _ q (.refl _) (NR.fz r7)⟩
 |_=>rw[es]at hr;exact hr.elim
def agM(Fm:Addr->Prop)(i:Nat)(f:Str)(a:RE):RS:=λE o=>match slot o i with|.ob b dx C ks ts=>a o λy=>(Fm C/\ks.length<1000)/\E.nx (o.set i (.ob b dx C (KZ ks f) (Al ks ts f (frz y))))|_=>False
def rJ(i:Nat)(c:∀C,Fm C->Cls X.K C/\cg X.K C f)(he:QE X e re)(hN:X.N[i]?=some x:=by rfl)(hv:qX X.env.scope x=true:=by rfl)(bu:qk x:=by decide)(aI:qo x:=by decide)(hs:swapsWith e (some (.Attribute (.Name x p) f ax)) pos.line X.env=pure false:=by rfl):QS X (.Assign [.Attribute (.Name x p) f ax] e pos) (agM Fm i f re):=(ain (pv i hN hv bu aI) he hs).imp λD σ H hP=>by
 obtain⟨own,o,E,h,hr,L⟩:=hP;unfold agM at hr;cases es:slot o i with
 |ob a dx C ks ts =>
  rw[es]at hr;obtain⟨u,e1,xs,e2,e3,e4,e5,l,r⟩:=h.val es (by intro z;cases z);cases e2;refine tQ.mk h hr λH1 v y q E1 r1=>⟨_,e1,a,C,dx,_,rfl,E1 _ _ e4,(c C q.1.1).1,(c C q.1.1).2,by rw[VU,<- l,UU];exact q.1.2,?_⟩;obtain⟨pz,pl⟩:=T9 (f:=f) (v:=v) l;rw[pz];have ic:dx≠a:=JW e5 e4 (by intro z;cases z);obtain⟨h',S⟩:=(h.same E1).chg (jf es (by intro z;cases z)) (y:=.ob a dx C (KZ ks f) (Al ks ts f (frz y))) (H':=upd H1 a (.ins C dx ((KZ ks f).zip (Al ks xs f v)))) (λb u hb e=>(bZ λz=>hb (by rw[e3,z];simp)).trans e) (by
   rw[e1,Bv ⟨i,by rw[e3];simp⟩];exact⟨_,rfl,e3,cj,(bZ ic).trans (E1 _ _ e5),pl,b_.put r1 (r.same (bU E1))⟩)
  exact L.nx own _ σ _ q.2 ((bU E1).trans S) h'
 |_=>rw[es]at hr;exact hr.elim
def aoY(Fm:Addr->Prop)(f:Str)(a:RE):RE:=λo q=>a o λx=>match frz x with|.ins C ks ts=>Fm C/\∃t,lkF ks ts f=some t/\q (.fz t)|_=>False
def sU(c:∀C,Fm C->Cls X.K C/\cg X.K C f)(he:QE X e re)(hb:zw X e f:=by rfl):QE X (.Attribute e f pos) (aoY Fm f re):=(adq he hb).imp λσ H Q ⟨own,o,R,h,hr,k⟩=>tQ.mk h hr λH1 v x q E1 r1=>by
 revert r1 q
 generalize frz x=t;intro q r1;cases t<;>try exact q.elim
 obtain⟨a,dx,xs,rfl,e,d,l,r⟩:=r1.insI;obtain⟨hf,t,e6,q⟩:=q;obtain⟨v,e7,r7⟩:=(acL r).1 t e6;exact⟨a,_,dx,_,v,rfl,(cT e).2,(c _ hf).1,(c _ hf).2,e7,k H1 _ _ q E1 (NR.fz r7)⟩
abbrev OkM(X:Cx)(k:Nat)(fa:Addr)(ps:Φ)(S:ST):Prop:=zn X CX0 k fa ps (spT X.K S)
def OkI.hid{P:Program}{w:World}{K:Frag}{mg:Str->Ω}{base:Heap}{k:Nat}{fa:Addr}{ps:Φ}{sp:Sp}(G:OkI P w K mg base CX0 k fa ps sp):OkI P w K mg base CX0 k fa ps (spH sp):=by obtain⟨fd,F,b⟩:=G;exact⟨fd,F.hid,b⟩
def Us{vs:Ζ}{E:XK}(h1:SR X.K own H1 σ o)(r1:b_ X.K (hd (Ow own) H1) vs ts)(q:S ts R)(k:∀H' v x,R x->Same H1 H'->NR X.K (Ow own) H1 H' v x->Q v H'):spH (spT X.K S) vs H1 Q E:=by
 refine⟨Ow own,h1.hid,ts,R,r1,q,λG v x rx E n bi=>?_⟩;have EH:Same H1 (mrg (Ow own) H1 G):=λb u e=>by
  by_cases z:Ow own b
  .rw[xU z];exact e
  .rw[lV z];exact E b u ((cW z).trans e)
 have EG:Same G (mrg (Ow own) H1 G):=λb u e=>by rw[lV λz=>by rw[bi b z]at e;cases e];exact e
 refine k _ v x rx EH ?_;obtain⟨B,nb,s⟩:=n;have out:∀a∈B,¬Ow own a:=λa ha z=>(s.sole ha).ne (bi a z);refine⟨B,λa ha=>by have:=nb a ha;rwa[cW (out a ha)]at this,s.same (iw (λb z=>?_) EG) EG⟩;rcases z with z|z
 .exact .inr (bi b z)
 .exact .inl (.inr z)
def ahe(C:Addr)(KS:Φ)(S:ST)(a:RE)(r:RA):RE:=λo q=>a o λx=>match frz x with|.ins C' ks ts=>(C'=C/\ks=KS)/\r o λas=>S (.ins C' ks ts::as) q|_=>False
theorem Tt{f:Str} : ∀{KS:Φ}{xs:Ζ},f∉KS->(KS.zip xs).lookup f=none
 |[],_,_=>rfl
 |_::_,[],_=>rfl
 |k::KS,x::xs,h=>by
  rw[List.zip_cons_cons,List.lookup_cons,beq_false_of_ne λ(z:f=k)=>h (by rw[z];exact aO ..)];exact Tt λz=>h (aJ _ z)
def rH{o:Expr}{ro:RE}{fa C:Addr}{KS:Φ}(he:QE X o ro)(c:Cls X.K C)(hm:Meth X.K C f fa)(G:OkM X k fa ps S)(ha:QA X (e::es) r)(hr:d9 k X.A:=by exact d9.mono (by assumption) wb)(hk:f∉KS:=by decide +kernel)
 (bv:qr X e es:=by rfl)(hpl:qV X pos es:=by rfl)
 (ht:eval (.Call (.Attribute o f ai) (e::es) [] pos) X.env=(do
   let ov <- eval o X.env
   standAt ai.atName
   let(f,first) <- holding [ov] (getMethod ov f pl)
   callWith pos f first (backTo pos (starEach (e::es) X.env)) (backToKw pos (keywordEach [] X.env))):=by rfl) :
  QE X (.Call (.Attribute o f ai) (e::es) [] pos) (ahe C KS S ro r):=(adl (pl:=pl) he c hm (OkI.hid G) hr ha bv hpl ht).imp λσ H Q ⟨own,o,R,h,hr,k⟩=>tQ.mk h hr λH1 v x q E1 r1=>by
 revert r1 q
 generalize frz x=t;intro q r1;cases t<;>try exact q.elim
 obtain⟨a,dx,xs,rfl,e,d,l,r⟩:=r1.insI;obtain⟨⟨rfl,rfl⟩,q⟩:=q;refine⟨a,dx,_,rfl,(cT e).2,Tt hk,tQA.mk (h.same E1) q λH2 vs as q _ E2 r2=>?_⟩;exact Us ((h.same E1).same E2) (.cons (r1.same (bU E2)) r2) q λH' v x rx E n=>k H' v x rx (E1.trans (E2.trans E)) (n.back (E1.trans E2))
def ud{o:Expr}{ro:RE}{fa C:Addr}{KS:Φ}(he:QE X o ro)(c:Cls X.K C)(hm:Meth X.K C f fa)(G:OkM X k fa ps S)(hr:d9 k X.A:=by exact d9.mono (by assumption) wb)(hk:f∉KS:=by decide +kernel)
 (ht:eval (.Call (.Attribute o f ai) [] [] pos) X.env=(do
   let ov <- eval o X.env
   standAt ai.atName
   let(f,first) <- holding [ov] (getMethod ov f pl)
   callWith pos f first (backTo pos (starEach [] X.env)) (backToKw pos (keywordEach [] X.env))):=by rfl) :
  QE X (.Call (.Attribute o f ai) [] [] pos) (ahe C KS S ro aiA):=(aax (pl:=pl) he c hm (OkI.hid G) hr ht).imp λσ H Q ⟨own,o,R,h,hr,k⟩=>tQ.mk h hr λH1 v x q E1 r1=>by
 revert r1 q
 generalize frz x=t;intro q r1;cases t<;>try exact q.elim
 obtain⟨a,dx,xs,rfl,e,d,l,r⟩:=r1.insI;obtain⟨⟨rfl,rfl⟩,q⟩:=q;refine⟨a,dx,_,rfl,(cT e).2,Tt hk,?_⟩;exact Us (E:=E0) (h.same E1) (.cons r1 .nil) q λH' v x rx E n=>k H' v x rx (E1.trans E) (n.back E1)
def ala(C:Addr)(S:SI)(r:RA):RE:=λo q=>r o λas=>S C [] [] as λks ts=>q (.fz (.ins C ks ts))
theorem CZ{fa C:Addr}{S:SI}(M:Mk X.K C fa)(G:zn X CX0 k fa ps (spI X.K S))(hm:X.mg x=some (.ref C))(ha:QA X (e::es) r)(hr:d9 (k+1) X.A:=by exact d9.mono (by assumption) wb)(hg:Gl X x:=by rfl)(br:qk x:=by decide)
 (he:qr X e es:=by rfl)(hpl:qV X pos es:=by rfl):QE X (.Call (.Name x p) (e::es) [] pos) (ala C S r):=(ad1 M (OkI.hid G) hr hg hm ha br he hpl).imp λσ H Q ⟨own,o,R,h,hr,k⟩=>tQA.mk h hr λH1 vs as q _ E1 r1 a dx na nd ne=>by
 have h1:=h.same E1;have E2:Same H1 (upd (upd H1 dx (.own a)) a (.ins C dx [])):=(Same.upd nd).trans (Same.upd ((bZ (Ne.symm ne)).trans na));have h2:=h1.same E2;have oa:¬Ow own a:=λz=>(h1.sole z).ne na;have od:¬Ow own dx:=λz=>(h1.sole z).ne nd;refine⟨Ow own,h2.hid,a,dx,C,[],[],[],vs,as,_,rfl,(cW oa).trans cj,(cW od).trans ((bZ ne).trans cj),rfl,.nil,r1.same (λb u e=>?_),q,λG eB eQ c6 rx E ea ed l r bi=>⟨rfl,?_⟩⟩
 .obtain⟨n,e⟩:=cT e;have n2:¬Slf a dx b:=λz=>by rcases z with rfl|rfl<;>rw[e]at *<;>contradiction
  rw[cW n2,cW n];exact E2 _ _ e
 .have EG:Same G (mrg (Ow own) (upd (upd H1 dx (.own a)) a (.ins C dx [])) G):=λb u e=>by rw[lV λz=>by rw[bi b z]at e;cases e];exact e
  refine k _ _ _ rx (E1.trans λb u e=>?_) (NR.fz (.ins (dx:=dx) (ks:=eB) (xs:=eQ) ?_ ?_ l (r.same λb u e=>?_)))
  .by_cases z:Ow own b
   .rw[xU z];exact E2 _ _ e
   .have n2:¬Slf a dx b:=λz=>by rcases z with rfl|rfl<;>rw[e]at *<;>contradiction
    exact EG _ _ (cT (E b u ((cW n2).trans ((cW z).trans (E2 _ _ e))))).2
  .rw[cW oa];exact EG _ _ ea
  .rw[cW od];exact EG _ _ ed
  .have e':=(cT e).2;rw[cW λz=>by rw[bi b z]at e';cases e'];exact EG _ _ e'
def ag8(i:Nat)(S:SI)(r:RA):RS:=λE o=>match slot o i with|.ob a dx C ks ts=>r o λas=>S C ks ts as λeB c6=>E.nx (o.set i (.ob a dx C eB c6))|_=>False
def Jg(i:Nat){y m:Str}{fa B:Addr}{S:SI}(c:G7 X.K B m fa)(G:zn X CX0 k fa ps (spI X.K S))(hm:X.mg x=some (.ref B))(ha:QA X es r)(hr:d9 k X.A:=by exact d9.mono (by assumption) wb)(hg:Gl X x:=by rfl)
 (hN:X.N[i]?=some y:=by rfl)(hv:qX X.env.scope y=true:=by rfl)(bu:qk y:=by decide)(aI:qo y:=by decide)(br:qk x:=by decide)
 (bv:starEach (.Name y p2::es) X.env=(false,eval (.Name y p2) X.env)::starEach es X.env:=by rfl)(hpl:qV X af es:=by rfl)
 (ht:eval (.Call (.Attribute (.Name x p) m ai) (.Name y p2::es) [] af) X.env=(do
   let ov <- eval (.Name x p) X.env
   standAt ai.atName
   let(f,first) <- holding [ov] (getMethod ov m pl)
   callWith af f first (backTo af (starEach (.Name y p2::es) X.env)) (backToKw af (keywordEach [] X.env))):=by rfl)
 (hs:swapsWith (.Call (.Attribute (.Name x p) m ai) (.Name y p2::es) [] af) none pos.line X.env=pure false:=by rfl) :
  QS X (.Expr (.Call (.Attribute (.Name x p) m ai) (.Name y p2::es) [] af) pos) (ag8 i S r):=(mD (abv (pl:=pl) c (OkI.hid G) hr hg hm (dG (pv i hN hv bu aI) ha bv) br bv hpl ht) hs).imp λD σ H hP=>by
 obtain⟨own,o,E,h,hr,L⟩:=hP;unfold ag8 at hr;cases es:slot o i with
 |ob a dx C ks ts =>
  rw[es]at hr;obtain⟨u,e1,xs,e2,e3,e4,e5,l,r⟩:=h.val es (by intro z;cases z);cases e2;refine⟨_,e1,tQA.mk h hr λH1 vs as q _ E1 r1=>?_⟩;have h1:=h.same E1;have sub:∀b,Slf a dx b->b∈own i:=λb z=>by rw[e3];rcases z with rfl|rfl<;>simp
  have bus:∀b,b∈own i->Slf a dx b:=λb z=>by
   rw[e3]at z;rcases YU.mp z with z|z
   .exact .inl z
   .exact .inr (YR.mp z)
  have hid:Hid H1 (λb=>Ow own b/\¬Slf a dx b):=⟨λb z=>h1.sole z.1,λb C d f ⟨⟨j,z⟩,n⟩ e=>⟨⟨j,(h1.mate z).1 C d f e⟩,λy=>n (bus b ((h1.dis j i d ((h1.mate z).1 C d f e) (sub d y)) ▸ z))⟩,λb x ⟨⟨j,z⟩,n⟩ e=>⟨⟨j,(h1.mate z).2 x e⟩,λy=>n (bus b ((h1.dis j i x ((h1.mate z).2 x e) (sub x y)) ▸ z))⟩⟩;have eqF:∀H':Hp,hd (Slf a dx) (hd (λb=>Ow own b/\¬Slf a dx b) H')=hd (Ow own) H':=λH'=>funext λb=>by
   by_cases z:Slf a dx b
   .rw[o7 z,o7 ⟨i,sub b z⟩]
   .rw[cW z];by_cases y:Ow own b
    .rw[o7 (⟨y,z⟩ : Ow own b/\¬Slf a dx b),o7 y]
    .rw[cW (λw=>y w.1),cW y]
  have na:¬(Ow own a/\¬Slf a dx a):=λz=>z.2 (.inl rfl);have nd:¬(Ow own dx/\¬Slf a dx dx):=λz=>z.2 (.inr rfl);refine⟨_,hid,a,dx,C,ks,xs,ts,vs,as,_,rfl,(cW na).trans (E1 _ _ e4),(cW nd).trans (E1 _ _ e5),l,by rw[eqF];exact r.same (bU E1),by rw[eqF];exact r1,q,λG eB eQ c6 rx EE ea ed l' r' bi=>?_⟩;rw[eqF]at EE;have df:∀{b:Addr}{u:HO},G b=some u->mrg (λb=>Ow own b/\¬Slf a dx b) H1 G b=some u:=λ{b u}e=>(lV λz=>by rw[bi b z]at e;cases e).trans e;obtain⟨h',S'⟩:=h1.chg (jf es (by intro z;cases z)) (y:=.ob a dx C eB c6) (H':=mrg (λb=>Ow own b/\¬Slf a dx b) H1 G) (λb u hb e=>by
   by_cases z:Ow own b
   .rw[xU ⟨z,λy=>hb (sub b y)⟩];exact e
   .exact df (cT (EE b u ((cW z).trans e))).2) (by
   rw[e1];refine⟨eQ,rfl,e3,df ea,df ed,l',r'.same λb u e=>?_⟩;obtain⟨n1,e⟩:=cT e;rw[cW λz=>by rw[bi b ⟨z,n1⟩]at e;cases e];exact df e)
  exact L.nx own _ σ _ rx ((bU E1).trans S') h'
 |_=>rw[es]at hr;exact hr.elim
def jX{A:Addr}{i:Int}(hm:X.mg x=some (.ref A))(kt:∀H,SqT X.K H A [.int i,.int j])(hg:Gl X x:=by rfl)(hd:qk x:=by decide):QE X (.Name x pos) (rC (.tup [.int i,.int j])):=qC (aey hg hm hd) λF=>.tup (kt F) (.cons (.int _) (.cons (.int _) .nil))
def QE.any{r:Addr->RE}(h:∀C,Fm C->QE X e (r C)):QE X e (λo q=>∃C,Fm C/\r C o q):=λaa s σ H Q I ⟨own,o,R,hs,⟨C,hC,hr⟩,k⟩=>h C hC aa s σ H Q I ⟨own,o,R,hs,hr,k⟩
def rN{py b8:Pos}:=@zf X tg iter be az ri g rc re scope pos i0 y0 py b8 (λi r n g c e=>ams i (aal r n g c e)) λ{_ i0 _ _ _ _ _ _ _ _}⟨own,o,E,h,hr,L⟩=>Lp ⟨own,o,_,h,hr,λH' v y q S n=>by
 obtain⟨am,h',S'⟩:=h.putA S (n.frz λb z=>(h.sole z).ne) i0;exact L.nx am H' _ _ q S' h'⟩
def apl(i j:Nat)(r:RA):RS:=λE o=>r o λts=>match ts with|[t,u]=>E.nx ((o.set i (.fz t)).set j (.fz u))|_=>False
def ah8(i j:Nat){y:Str}{px py pt:Pos}{kt k2 pt2}(hc:X.calm=true)(hN:X.N.Nodup)(i6:i≠j)(ha:QA X [a,b] r)(hi:X.N[i]?=some x:=by rfl)(hj:X.N[j]?=some y:=by rfl)
 (hx:X.env.scope.names.lookup x=some .local:=by rfl)(hy:X.env.scope.names.lookup y=some .local:=by rfl)
 (hw:swappedStores [.Tuple [.Name x px,.Name y py] kt pt] (.Tuple [a,b] k2 pt2) X.env=pure (some [x,y]):=by rfl)
 (hs:swapsWithSole [.Tuple [.Name x px,.Name y py] kt pt] (.Tuple [a,b] k2 pt2) pos.line X.env=pure false:=by rfl) :
  QS X (.Assign [.Tuple [.Name x px,.Name y py] kt pt] (.Tuple [a,b] k2 pt2) pos) (apl i j r):=(aiw hc hN hi hj i6 hx hy ha hw hs).imp λD σ H ⟨own,o,E,h,hr,L⟩=>⟨own,o,_,h,hr,λH1 vs ts q _ E1 r1=>by
 match ts,q with
 |[t,u],q =>
  obtain⟨v,w,rfl,rv,l9⟩:=r1.two;refine⟨v,w,rfl,?_⟩;obtain⟨am,h',go⟩:=(h.same E1).setF rv (X1 i);obtain⟨b5,h2,S2⟩:=h'.putA (.refl _) (NR.fz (l9.same go.same)) j;exact L.nx b5 H1 _ _ q ((bU E1).trans (go.same.trans S2)) h2⟩
def ix2{β:Type}{xs:List α}{ys:List β}{y:β}(l:xs.length=ys.length)(e:ixT ys j=some y):∃n x,ixN ys.length j=some n/\ys[n]?=some y/\xs[n]?=some x/\atI xs j=some x:=by
 rw[W2]at e;unfold atI at e ⊢;rw[l];cases z:ixN ys.length j with
 |none=>rw[z]at e;cases e
 |some n =>
  rw[z]at e;have hn:n<xs.length:=l ▸ (ao.mp e).1;exact⟨n,xs[n],rfl,e,aj hn,aj hn⟩
theorem Lh{α:Type} : ∀{l:List α},l.Nodup->∀{i j:Nat}{x:α},l[i]?=some x->l[j]?=some x->i=j
 |[],_,_,_,_,e,_=>by cases e
 |y::l,nd,i,j,x,e1,e2=>by
  obtain⟨n1,n2⟩:=List.nodup_cons.mp nd;cases i with
  |zero =>
   cases j with
   |zero=>rfl
   |succ j=>cases e1;exact absurd (aC (by simpa using e2)) n1
  |succ i =>
   cases j with
   |zero=>cases e2;exact absurd (aC (by simpa using e1)) n1
   |succ j=>exact ZH (· + 1) (Lh n2 (by simpa using e1) (by simpa using e2))
def SR.l2{K:Frag}{own:Nat->Ψ}{H:Hp}{σ:L2.St}{o:zI}(h:SR K own H σ o){i:Nat}{tss:wx}(e:slot o i=.l2 tss):∃l bs,σ[i]?=some (some (.ref l))/\own i=l::bs/\(l::bs).Nodup/\H l=some (.lst (bs.map V.ref))/\bs.length=tss.length/\∀(i:Nat)b ts,bs[i]?=some b->tss[i]?=some ts->∃xs,H b=some (.lst xs)/\b_ K (hd (Ow own) H) xs ts:=by
 obtain⟨u,e1,l,bs,e2,e3,nd,e4,ln,r⟩:=h.val e (by intro z;cases z);cases e2;exact⟨l,bs,e1,e3,nd,e4,ln,r⟩
def SR.chg2(h:SR K own H σ o){tss:wx}(e:slot o i=.l2 tss){l b:Addr}{bs:Ψ}{us:zD}(eσ:σ[i]?=some (some (.ref l)))(eo:own i=l::bs)(nd:(l::bs).Nodup)(e4:H l=some (.lst (bs.map V.ref)))(ln:bs.length=tss.length)(r:∀(i:Nat)b ts,bs[i]?=some b->tss[i]?=some ts->∃xs,H b=some (.lst xs)/\b_ K (hd (Ow own) H) xs ts)(eb:bs[n]?=some b)(ry:b_ K (hd (Ow own) H) ys us) :
  SR K own (upd H b (.lst ys)) σ (o.set i (.l2 (tss.set n us)))/\Same (hd (Ow own) H) (hd (Ow own) (upd H b (.lst ys))):=by
 have bm:=aC eb;obtain⟨nl,kP⟩:=List.nodup_cons.mp nd;refine h.chg (jf e (by intro z;cases z)) (λc u hc e=>(bZ λz=>hc (by rw[eo,z];exact aJ _ bm)).trans e) ?_;rw[eσ,Bv ⟨i,by rw[eo];exact aJ _ bm⟩];refine⟨l,bs,rfl,eo,nd,(bZ λ(z:l=b)=>nl (by rwa[z])).trans e4,by rw[VY];exact ln,λk c ts e1 e2=>?_⟩;by_cases z:k=n
 .subst z;rw[eb]at e1;cases e1;rw[UT (ln ▸ (ao.mp eb).1)]at e2;cases e2;exact⟨ys,cj,ry⟩
 .rw[VQ (Ne.symm z)]at e2;obtain⟨xs,q,rx⟩:=r k c ts e1 e2;refine⟨xs,(bZ λy=>?_).trans q,rx⟩;have h1:=(ao.mp e1).1;have h2:=(ao.mp eb).1;exact z (Lh kP e1 (by rw[eb,y]))
def QB{bs:Ψ}{c:Addr}(e:atI bs j=some c):atI (bs.map V.ref) j=some (.ref c):=by
 have:atI (bs.map V.ref) j=(atI bs j).map V.ref:=by unfold atI;rw[ak];cases ixN bs.length j<;>simp
 rw[this,e];rfl
def agQ(i:Nat)(a b:RE):RE:=λo q=>match slot o i with
 |.l2 tss=>a o λx=>(match frz x with|.int j=>∃ts,ixT tss j=some ts/\b o λy=>(match frz y with|.int m=>∃t,ixT ts m=some t/\q (.fz t)|_=>False)|_=>False)
 |_=>False
def agn(i:Nat)(ha:QE X a ra)(hb:QE X b rb)(hN:X.N[i]?=some x:=by rfl)(hv:qX X.env.scope x=true:=by rfl)(bu:qk x:=by decide)
 (aI:qo x:=by decide)(fR:rG a:=by exact λ_ _=>rfl)(hs:rG b:=by exact λ_ _=>rfl):QE X (.Subscript (.Subscript (.Name x p) a p2) b pos) (agQ i ra rb):=(vW rA (vW rA (pv i hN hv bu aI) ha fR) hb hs).imp λσ H Q hP=>by
 obtain⟨own,o,R,h,hr,k⟩:=hP;unfold agQ at hr;cases es:slot o i with
 |l2 tss =>
  rw[es]at hr;obtain⟨l,bs,e1,e3,nd,e4,ln,r⟩:=h.l2 es;refine⟨_,e1,tQ.mk h hr λH1 v x q E1 r1=>?_⟩
  revert r1 q
  generalize frz x=t;intro q r1;cases t<;>try exact q.elim
  cases r1;obtain⟨ts,ej,q⟩:=q;obtain⟨n,c,_,et,ec,ei⟩:=ix2 (xs:=bs) ln ej;obtain⟨xs,eq,rx⟩:=r n c ts ec et;refine⟨l,bs.map V.ref,_,.ref c,rfl,rfl,.of (E1 _ _ e4),?_,tQ.mk (h.same E1) q λH2 w y q E2 r2=>?_⟩
  .exact QB ei
  .revert r2 q
   generalize frz y=t;intro q r2;cases t<;>try exact q.elim
   cases r2;obtain⟨t,em,q⟩:=q;obtain⟨z,e7,r7⟩:=rx.ix em;have bX:=E1.trans E2;exact⟨c,xs,_,z,rfl,rfl,.of (bX _ _ eq),e7,k H2 _ _ q bX (NR.fz (r7.same (bU bX)))⟩
 |_=>rw[es]at hr;exact hr.elim
def agK(i:Nat)(a b:RE):RS:=λE o=>match slot o i with
 |.l2 tss=>a o λx=>(match frz x with|.int j=>∃n ts,ixN tss.length j=some n/\tss[n]?=some ts/\ts.length<sizeLine/\b o λy=>E.nx (o.set i (.l2 (tss.set n (ts++[frz y]))))|_=>False)
 |_=>False
def ix3{β:Type}{xs:List α}{ys:List β}{y:β}(l:xs.length=ys.length)(e:ixN ys.length j=some n)(ey:ys[n]?=some y):∃x,xs[n]?=some x/\atI xs j=some x:=by
 have hn:n<xs.length:=l ▸ (ao.mp ey).1;exact⟨xs[n],aj hn,by unfold atI;rw[l,e];exact aj hn⟩
def YD(i:Nat)(ha:QE X a ra)(he:QE X e re)(hN:X.N[i]?=some x:=by rfl)(hv:qX X.env.scope x=true:=by rfl)(bu:qk x:=by decide)(aI:qo x:=by decide)(fR:rG a:=by exact λ_ _=>rfl)
 (hb:attributeBase (.Subscript (.Name x p) a p2) "append" X.env (eval (.Subscript (.Name x p) a p2) X.env)=eval (.Subscript (.Name x p) a p2) X.env:=by rfl)
 (hf:qB X af e:=by rfl)
 (hl:zh ai af:=by rfl)(bv:qr X e []:=by rfl)(hp:qV X af []:=by rfl)
 (hs:swapsWith (.Call (.Attribute (.Subscript (.Name x p) a p2) "append" ai) [e] [] af) none pos.line X.env=pure false:=by rfl) :
  QS X (.Expr (.Call (.Attribute (.Subscript (.Name x p) a p2) "append" ai) [e] [] af) pos) (agK i ra re):=(mD (Yn (vW rA (pv i hN hv bu aI) ha fR) (dG he nq bv) hb hf hl bv hp) hs).imp λD σ H hP=>by
 obtain⟨own,o,E,h,hr,L⟩:=hP;unfold agK at hr;cases es:slot o i with
 |l2 tss =>
  rw[es]at hr;obtain⟨l,bs,e1,e3,nd,e4,ln,r⟩:=h.l2 es;refine⟨_,e1,tQ.mk h hr λH1 v x q E1 r1=>?_⟩
  revert r1 q
  generalize frz x=t;intro q r1;cases t<;>try exact q.elim
  cases r1;obtain⟨n,ts,en,et,sz,q⟩:=q;obtain⟨c,ec,ei⟩:=ix3 (xs:=bs) ln en et;obtain⟨xs,eq,rx⟩:=r n c ts ec et;refine⟨l,bs.map V.ref,_,.ref c,rfl,rfl,.of (E1 _ _ e4),QB ei,c,xs,rfl,E1 _ _ eq,tQ.mk (h.same E1) q λH2 w y q E2 r2=>?_⟩;have bX:=E1.trans E2;refine⟨w,xs,rfl,bX _ _ eq,by rw[rx.len];exact sz,?_⟩;obtain⟨h',S⟩:=(h.same bX).chg2 es e1 e3 nd (bX _ _ e4) ln (λi b ts a c=>let⟨xs,p,q⟩:=r i b ts a c;⟨xs,bX _ _ p,q.same (bU bX)⟩) ec ((rx.same (bU bX)).app (.cons r2 .nil));exact L.nx own _ σ _ q ((bU bX).trans S) h'
 |_=>rw[es]at hr;exact hr.elim
def ag5(i:Nat)(c a b:RE):RS:=λE o=>match slot o i with
 |.l2 tss=>c o λy=>a o λx=>(match frz x with|.int j=>∃n ts,ixN tss.length j=some n/\tss[n]?=some ts/\b o λz=>(match frz z with|.int m=>∃k,ixN ts.length m=some k/\E.nx (o.set i (.l2 (tss.set n (ts.set k (frz y)))))|_=>False)|_=>False)
 |_=>False
def aeW(i:Nat)(he:QE X e re)(ha:QE X a ra)(hk:QE X b rb)(hN:X.N[i]?=some x:=by rfl)(hv:qX X.env.scope x=true:=by rfl)(bu:qk x:=by decide)(aI:qo x:=by decide)(fR:rG a:=by exact λ_ _=>rfl)
 (hq:∀v,assign (.Subscript (.Subscript (.Name x p) a p2) b ax) X.env v=(do
   let ov <- holding [v] (eval (.Subscript (.Name x p) a p2) X.env)
   let iv <- holding [v,ov] (eval b X.env)
   standAt ax
   holding [v,ov,iv] (setItem ov iv v)
   release [v,ov,iv] []):=by intro _;rfl)
 (hs:swapsWithSole [.Subscript (.Subscript (.Name x p) a p2) b ax] e pos.line X.env=pure false:=by rfl)(hw:swappedStores [.Subscript (.Subscript (.Name x p) a p2) b ax] e X.env=pure none:=by rfl)
 (h1:(assignEach [.Subscript (.Subscript (.Name x p) a p2) b ax] X.env).map (·.2)=[assign (.Subscript (.Subscript (.Name x p) a p2) b ax) X.env]:=by rfl):QS X (.Assign [.Subscript (.Subscript (.Name x p) a p2) b ax] e pos) (ag5 i re ra rb):=(Ye he (ad2 (vW rA (pv i hN hv bu aI) ha fR) hk set_list hq) hs hw h1).imp λD σ H hP=>by
 obtain⟨own,o,E,h,hr,L⟩:=hP;unfold ag5 at hr;cases es:slot o i with
 |l2 tss =>
  rw[es]at hr;obtain⟨l,bs,e1,e3,nd,e4,ln,r⟩:=h.l2 es;refine tQ.mk h hr λH0 v0 y q E0' r0=>⟨_,e1,tQ.mk (h.same E0') q λH1 v x q E1 r1=>?_⟩
  revert r1 q
  generalize frz x=t;intro q r1;cases t<;>try exact q.elim
  cases r1;obtain⟨n,ts,en,et,q⟩:=q;obtain⟨c,ec,ei⟩:=ix3 (xs:=bs) ln en et;obtain⟨xs,eq,rx⟩:=r n c ts ec et;have E01:=E0'.trans E1;refine⟨l,bs.map V.ref,_,.ref c,rfl,rfl,.of (E01 _ _ e4),QB ei,tQ.mk (h.same E01) q λH2 w z q E2 r2=>?_⟩
  revert r2 q
  generalize frz z=t;intro q r2;cases t<;>try exact q.elim
  cases r2;obtain⟨k,ek,q⟩:=q;have bX:=E01.trans E2;refine⟨c,xs,_,k,rfl,rfl,bX _ _ eq,by rw[rx.len];exact ek,?_⟩;obtain⟨h',S⟩:=(h.same bX).chg2 es e1 e3 nd (bX _ _ e4) ln (λi b ts a c=>let⟨xs,p,q⟩:=r i b ts a c;⟨xs,bX _ _ p,q.same (bU bX)⟩) ec (b_.set (r0.same (bU (E1.trans E2))) k (rx.same (bU bX)));exact L.nx own _ σ _ q ((bU bX).trans S) h'
 |_=>rw[es]at hr;exact hr.elim
def apF:zd
 |.str i,.str j,q=>q (.fz (.bl (!decide (j.cps.toList<i.cps.toList))))
 |_,_,_=>False
def aby:GO X (compareOp .LtE) apF:=ahp.imp λx y H Q hP=>by
 obtain⟨S,t,u,R,_,hx,hy,hg,k⟩:=hP;cases hx<;>try exact hg.elim
 cases hy<;>try exact hg.elim
 exact⟨_,_,rfl,rfl,k H _ _ hg (.refl _) (NR.fz (.bl _))⟩
def aeU:GC X (.builtin "len") (g1 aoJ):=.one Tw λS t x H Q R rx hg k=>by
 cases t<;>try exact hg.elim
 cases rx;exact⟨_,rfl,hg.1,k H _ _ hg.2 (.refl _) (NR.fz (.int _))⟩
def ao5(a:RE):RI:=λo q=>a o λx=>match frz x with|.str s=>q (s.cps.toList.map λc=>.str ⟨#[c]⟩)|_=>False
def ajx(he:QE X e re):QI X tg e (ao5 re):=(aij he).imp λσ H Q ⟨own,o,R,h,hr,k⟩=>tQ.mk h hr λH1 v x q E1 r1=>by
 revert r1 q
 generalize frz x=t;intro q r1;cases t<;>try exact q.elim
 cases r1;refine⟨_,rfl,k H1 _ _ q E1 λS H2 i _ SF=>⟨λhi=>show i=_ by simpa using hi,λt ht=>?_⟩⟩;rw[aq]at ht;cases z:(‹Str›.cps.toList)[i]? with
 |none=>rw[z]at ht;cases ht
 |some c =>
  rw[z]at ht;cases ht;refine⟨show i<_ by simpa using(ao.mp z).1,?_⟩;rintro x H3 ⟨rfl,c',e',rfl⟩;rw[<- Array.getElem?_toList,z]at e';cases e';exact⟨.refl _,.str _⟩
abbrev HG:=zg
variable{e:RE}{b:RS}{g:HG}{c:RT}{ks:xB}
theorem ZD(h:α->T)(l:List α)(J:List α->zI->Prop)(st:∀as a bs o,l=as++a::bs->J as o->g (h a) o λo'=>b { E with nx:=J (as++[a]),ct:=J (as++[a]),bk:=E.nx } o')(aE:∀o,J l o->E.nx o):∀(bs as:List α)(o:zI),l=as++bs->J as o->Ay g b E (bs.map h) o
 |[],as,o,e,j=>aE o (by rw[List.append_nil]at e;rwa[e])
 |a::bs,as,o,e,j=>⟨J (as++[a]),λo k=>ZD h l J st aE bs (as++[a]) o (by rw[e];simp) k,st as a bs o e j⟩
def iM(h:α->T)(l:List α)(J:List α->zI->Prop)(j:J [] o)(st:∀as a bs o,l=as++a::bs->J as o->g (h a) o λo'=>b { E with nx:=J (as++[a]),ct:=J (as++[a]),bk:=E.nx } o')(aE:∀o,J l o->E.nx o):Ay g b E (l.map h) o:=ZD h l J st aE l [] o rfl j
theorem CN(J:Nat->zI->Prop):∀(xs:zD)(k:Nat){o:zI},J k o->(∀i t o,xs[i]?=some t->J (k+i) o->g t o λo'=>b { E with nx:=J (k+i+1),ct:=J (k+i+1),bk:=E.nx } o')->(∀o,J (k+xs.length) o->E.nx o)->Ay g b E xs o
 |[],_,o,j,_,aE=>aE o j
 |t::ts,k,o,j,st,aE=>⟨J (k+1),λo z=>CN J ts (k+1) z (λi t o e z=>by
   have:=st (i+1) t o (by simpa using e) (by rw[show k+(i+1)=k+1+i by lia];exact z);rw[show k+(i+1)+1=k+1+i+1 by lia]at this;exact this) (λo z=>aE o (by rw[List.length_cons,show k+(ts.length+1)=k+1+ts.length by lia];exact z)),st 0 t o rfl j⟩
def qz(J:Nat->zI->Prop)(j:J 0 o)(st:∀k o,k<n->J k o->g (.int (k:Nat)) o λo'=>b { E with nx:=J (k+1),ct:=J (k+1),bk:=E.nx } o')(aE:∀o,J n o->E.nx o):Ay g b E (rng 0 n) o:=by
 refine CN J (rng 0 n) 0 j (λi t o e z=>?_) λo z=>aE o (by rw[rng,ak,WP,Nat.zero_add]at z;exact z);unfold rng at e;rw[aq]at e;by_cases hi:i<n
 .rw[VW hi]at e;cases e;rw[Nat.zero_add]at z ⊢;have:=st i o hi z;show g (.int (0+((i:Nat):Int))) o _;rw[show(0:Int)+((i:Nat):Int)=((i:Nat):Int)by exact Int.zero_add _];exact this
 .rw[aM (by simpa using hi)]at e;cases e
def pK(h:α->T)(l:List α)(J:Nat->zI->Prop)(j:J 0 o)(st:∀k a o,l[k]?=some a->J k o->g (.tup [.int (k:Nat),h a]) o λo'=>b { E with nx:=J (k+1),ct:=J (k+1),bk:=E.nx } o')(aE:∀o,J l.length o->E.nx o):Ay g b E (Bb (l.map h)) o:=by
 refine CN J (Bb (l.map h)) 0 j (λi t o e z=>?_) λo z=>aE o (by rw[Bb,ak,List.length_zipIdx,ak,Nat.zero_add]at z;exact z);unfold Bb at e;rw[aq]at e;by_cases hi:i<l.length
 .rw[aj (by simpa using hi),List.getElem_zipIdx,UX]at e;cases e;rw[Nat.zero_add]at z ⊢;have:=st i _ o (aj hi) z;exact this
 .rw[aM (by simpa using hi)]at e;cases e
theorem comp_map(h:α->T)(f:α->T):∀(l:List α){q:zD->Prop},(∀a∈l,∀(N:T->Prop)(M:Prop),N (f a)->g (h a) o λo'=>c o' λb=>sw b (e o' λy=>N (frz y)) M)->q (l.map f)->jW g c e o (l.map h) q
 |[],_,_,k=>k
 |a::l,q,st,k=>⟨λy=>y=f a,False,λy z=>comp_map h f l (λa ha=>st a (aJ _ ha)) (z ▸ k),False.elim,st a (aO ..) (λy=>y=f a) False rfl⟩
theorem rM(h:α->T)(p:α->Bool)(f:α->T):∀(l:List α){q:zD->Prop},(∀a∈l,∀(N:T->Prop)(M:Prop),(p a=true->N (f a))->(p a=false->M)->g (h a) o λo'=>c o' λb=>sw b (e o' λy=>N (frz y)) M)->q ((l.filter p).map f)->jW g c e o (l.map h) q
 |[],_,_,k=>k
 |a::l,q,st,k=>⟨λy=>y=f a/\p a=true,p a=false,λy z=>rM h p f l (λa ha=>st a (aJ _ ha)) (by rw[List.filter_cons_of_pos z.2]at k;exact z.1 ▸ k),λz=>rM h p f l (λa ha=>st a (aJ _ ha)) (by rw[List.filter_cons_of_neg (by rw[z];decide)]at k;exact k),st a (aO ..) (λy=>y=f a/\p a=true) (p a=false) (λz=>⟨rfl,z⟩) id⟩
inductive ajg(R:α->T->Prop):List α->zD->Prop
 |nil:ajg R [] []
 |cons {a:α}{t:T}{l:List α}{ts:zD} : R a t->ajg R l ts->ajg R (a::l) (t::ts)
def Ey(f:Nat->T)(n:Nat)(st:∀k,k<n->∀(N:T->Prop)(M:Prop),N (f k)->g (.int (k:Nat)) o λo'=>c o' λb=>sw b (e o' λy=>N (frz y)) M)(k:q ((List.range n).map f)):jW g c e o (rng 0 n) q:=by
 refine comp_map (λk:Nat=>.int (0+k)) f (List.range n) (λa ha N M hN=>?_) k;have:=st a (List.mem_range.mp ha) N M hN;show g (.int (0+((a:Nat):Int))) o _;rw[show(0:Int)+((a:Nat):Int)=((a:Nat):Int)by exact Int.zero_add _];exact this
def zip_map{α β:Type}(h:α->T)(k:β->T)(xs:List α)(ys:List β):La (xs.map h) (ys.map k)=(xs.zip ys).map λp=>.tup [h p.1,k p.2]:=by
 unfold La;rw[List.zip_map,WJ]
 rfl
def adT(h:α->T)(xs:List α):Bb (xs.map h)=xs.zipIdx.map λp=>.tup [.int (p.2:Nat),h p.1]:=by
 unfold Bb;rw[List.zipIdx_map,WJ]
 rfl
def S9(ks:xB)(j:Key):Bool:=ks.any λk=>decide (k=j)
def kpK(ks:xB)(j:Key):xB:=if S9 ks j=true then ks else ks++[j]
def kpT(ks:xB)(ts:List α)(j:Key)(t:α):List α:=if S9 ks j=true then ks.zipWith (λk x=>if k=j then t else x) ts else ts++[t]
def acO{j:Key}(l:ks.length=xs.length):putK (ks.zip xs) j v=(kpK ks j).zip (kpT ks xs j v)/\(kpK ks j).length=(kpT ks xs j v).length:=by
 have any:∀{ks:xB}{xs:Ζ},ks.length=xs.length->((ks.zip xs).any λkv=>decide (kv.1=j))=S9 ks j:=λ{ks}=>by
  induction ks with
  |nil=>intro xs _;rfl
  |cons k ks ih =>
   intro xs l;cases xs with
   |nil=>cases l
   |cons x xs=>rw[List.zip_cons_cons,List.any_cons,ih (Nat.succ.inj l)];rfl
 unfold putK kpK kpT;rw[any l];by_cases h:S9 ks j=true
 .rw[ZY h,ZY h,ZY h];refine⟨?_,by rw[TK,l,UU]⟩
  clear any h
  induction ks generalizing xs with
  |nil=>rfl
  |cons k ks ih =>
   cases xs with
   |nil=>cases l
   |cons x xs =>
    rw[List.zip_cons_cons,List.map_cons,ih (Nat.succ.inj l),List.zipWith_cons_cons,List.zip_cons_cons];by_cases h:k=j
    .rw[ZY h,ZY h]
    .rw[ZZ h,ZZ h]
 .rw[ZZ h,ZZ h,ZZ h];exact⟨by rw[List.zip_append l];rfl,by simp[l]⟩
def b_.kp{F:Hp}{j:Key}(r:Rep K F v t)(h:b_ K F xs ts):b_ K F (kpT ks xs j v) (kpT ks ts j t):=by
 unfold kpT;by_cases z:S9 ks j=true
 .rw[ZY z,ZY z]
  clear z
  induction ks generalizing xs ts with
  |nil=>exact .nil
  |cons k ks ih =>
   cases h with
   |nil=>exact .nil
   |cons a b =>
    rw[List.zipWith_cons_cons,List.zipWith_cons_cons];refine .cons ?_ (ih b);by_cases y:k=j
    .rw[ZY y,ZY y];exact r
    .rw[ZZ y,ZZ y];exact a
 .rw[ZZ z,ZZ z];exact h.app (.cons r .nil)
def aha(i:Nat)(a b:RE):RS:=λE o=>match slot o i with|.d1 ks ts=>a o λy=>b o λk=>∃j,aaP (frz k)=some j/\ks.length<sizeLine/\E.nx (o.set i (.d1 (kpK ks j) (kpT ks ts j (frz y))))|_=>False
def SR.d1{K:Frag}{own:Nat->Ψ}{H:Hp}{σ:L2.St}{o:zI}(h:SR K own H σ o){i:Nat}{ks:xB}{ts:zD}(e:slot o i=.d1 ks ts):∃l xs,σ[i]?=some (some (.ref l))/\own i=[l]/\H l=some (.dK (ks.zip xs))/\ks.length=xs.length/\b_ K (hd (Ow own) H) xs ts:=by
 obtain⟨u,e1,l,xs,e2,e3,e4,r⟩:=h.val e (by intro z;cases z);cases e2;exact⟨l,xs,e1,e3,e4,r⟩
variable{e b:Expr}{g:zg}{as:Ψ}
def PJ(i:Nat)(hu:X.A.units+1<cLine)(he:QE X e re)(hb:QE X b rb)(hN:X.N[i]?=some x:=by rfl)(hv:qX X.env.scope x=true:=by rfl)(bu:qk x:=by decide)(aI:qo x:=by decide)
 (hs:swapsWith e (some (.Subscript (.Name x p) b ax)) pos.line X.env=pure false:=by rfl):QS X (.Assign [.Subscript (.Name x p) b ax] e pos) (aha i re rb):=(aeT hu (pv i hN hv bu aI) hb he hs).imp λD σ H hP=>by
 obtain⟨own,o,E,h,hr,L⟩:=hP;unfold aha at hr;cases es:slot o i with
 |d1 ks ts =>
  rw[es]at hr;obtain⟨l,xs,e1,e3,e4,ln,r⟩:=h.d1 es;refine tQ.mk h hr λH1 v y q E1 r1=>⟨_,e1,tQ.mk (h.same E1) q λH2 w z q E2 r2=>?_⟩;obtain⟨j,ek,sz,q⟩:=q;have bX:=E1.trans E2;cases R0 r2 ek;obtain⟨pk,pl⟩:=acO (j:=j) (v:=v) ln;have lz:(ks.zip xs).length<sizeLine:=by rw[VU,<- ln,UU];exact sz
  refine⟨l,_,rfl,.inl ⟨_,j,bX _ _ e4,rfl,lz,rfl⟩,?_⟩;rw[pk];obtain⟨h',S⟩:=(h.same bX).chg (jf es (by intro z;cases z)) (y:=.d1 (kpK ks j) (kpT ks ts j (frz y))) (H':=upd H2 l (.dK ((kpK ks j).zip (kpT ks xs j v)))) (λb u hb e=>(bZ λz=>hb (by rw[e3,z];simp)).trans e) (by
   rw[e1,Bv ⟨i,by rw[e3];simp⟩];exact⟨l,_,rfl,e3,cj,pl,b_.kp (r1.same (bU E2)) (r.same (bU bX))⟩)
  exact L.nx own _ σ _ q ((bU bX).trans S) h'
 |_=>rw[es]at hr;exact hr.elim
def ahb(i:Nat)(a b:RE):RE:=λo q=>match slot o i with|.d1 ks ts=>a o λy=>b o λz=>∃j,aaP (frz y)=some j/\q (.fz ((qm ks ts j).getD (frz z)))|_=>False
def afb(i:Nat)(hu:X.A.units+1<cLine)(ha:QE X a ra)(hb:QE X b rb)(m:M2 X (.Name x p) "get" ai a b af:=by first|exact⟨rfl,rfl,rfl,rfl⟩|constructor<;>rfl)(hN:X.N[i]?=some x:=by rfl)(hv:qX X.env.scope x=true:=by rfl)(bu:qk x:=by decide)(aI:qo x:=by decide) :
  QE X (.Call (.Attribute (.Name x p) "get" ai) [a,b] [] af) (ahb i ra rb):=(adQ hu (pv i hN hv bu aI) ha hb m).imp λσ H Q hP=>by
 obtain⟨own,o,R,h,hr,k⟩:=hP;unfold ahb at hr;cases es:slot o i with
 |d1 ks ts =>
  rw[es]at hr;obtain⟨l,xs,e1,e3,e4,ln,r⟩:=h.d1 es;refine⟨_,e1,l,rfl,.inl ⟨_,.inl e4⟩,tQ.mk h hr λH1 v y q E1 r1=>tQ.mk (h.same E1) q λH2 w z q E2 r2=>?_⟩;obtain⟨j,ek,q⟩:=q;have bX:=E1.trans E2;cases R0 r1 ek;refine⟨_,Fx.k (bX _ _ e4),?_⟩;have r:=r.same (bU bX);cases z1:qm ks ts j with
  |none =>
   rw[z1]at q;rw[(Fy r).2 z1];exact k H2 _ _ q bX (NR.fz r2)
  |some t =>
   rw[z1]at q;obtain⟨u,e5,r5⟩:=(Fy r).1 t z1;rw[e5];exact k H2 _ _ q bX (NR.fz r5)
 |_=>rw[es]at hr;exact hr.elim
def kT:Key->T
 |.inl i=>.int i
 |.inr s=>.str s
def agS(i n:Nat)(g:zg)(c:RT)(e:RE):RS:=λE o=>match slot o i with
 |.d1 ks ts=>ks.length<=sizeLine/\jW g c e (List.replicate n .und++o.set i (.fz (.dct ks ts))) (ks.map kT) λus=>E.rt (.l1 us)
 |_=>False
def afU{a:Addr}{ob:Obj}{F:Hp}(l:ks.length=xs.length)(e:F a=some (.frz ob (.dK (ks.zip xs)))):Wlk K (Itk a ob (ks.zip xs)) F (ks.map kT):=λS H i _ SF=>by
 have eH:=(cT (SF _ _ e)).2;have lz:(ks.zip xs).length=ks.length:=by rw[VU,<- l,UU]
 refine⟨λhi=>⟨eH,by rw[lz];simpa using hi⟩,λt ht=>?_⟩;rw[aq]at ht;cases z:ks[i]? with
 |none=>rw[z]at ht;cases ht
 |some k =>
  rw[z]at ht;cases ht;have hi:=(ao.mp z).1;refine⟨⟨eH,by rwa[lz]⟩,?_⟩;rintro x H' ⟨rfl,k',y,e1,rfl⟩;rw[aj (by rwa[lz]),List.getElem_zip]at e1;rw[aj hi]at z;cases z;cases e1;refine⟨.refl _,?_⟩;cases ks[i]with
  |inl j=>exact .int _
  |inr s=>exact .str _
def afw(i:Nat)(sc:Scope)(N N' xs:Φ)(hg:∀{C s₀ H₀ ex pn},QG (X.compG N' scope xs C s₀ H₀ ex pn) xs.length tg g)(ht:∀{C s₀ H₀ ex pn},QTs (X.compG N' scope xs C s₀ H₀ ex pn) az rc)(he:∀{C s₀ H₀ ex pn},QE (X.compG N' scope xs C s₀ H₀ ex pn) be re)
 (hN:X.N[i]?=some x:=by rfl)(hv:qX X.env.scope x=true:=by rfl)(bu:qk x:=by decide)(aI:qo x:=by decide)
 (cx:X.env.scope=sc:=by rfl)(cS:X.N=N:=by rfl)(hc:X.calm=true:=by rfl)(hk:scope.kind=.function:=by rfl)(h:CK sc scope N N' xs:=by decide +kernel)(hs:∀z,foldedSetIterable (.Name x p) X.env z=pure z:=by intro _;rfl) :
  QS X (.Return (some (.ListComp be [⟨tg,.Name x p,az,0⟩] scope af)) pos) (agS i xs.length g rc re):=(LQ (ad0 (gt:=tQG X.K xs.length g) (tc:=tQT X.K rc) (te:=tQ X.K re) sc N N' xs (aeK (tg:=tg) (pv i hN hv bu aI)) hg ht he cx cS hc hk h hs)).imp λD σ H hP=>by
 obtain⟨own,o,E,h,hr,L⟩:=hP;unfold agS at hr;cases es:slot o i with
 |d1 ks ts =>
  rw[es]at hr;obtain⟨l,ys,e1,e3,e4,ln,r⟩:=h.d1 es;refine⟨_,e1,l,_,rfl,e4,λob DD nD=>?_⟩;have eo:∀b,Ow (own1 own i []) b->Ow own b/\b≠l:=λb hP=>by
   obtain⟨j,z⟩:=hP;by_cases y:j=i
   .rw[y,jY]at z;cases z
   .rw[gq y]at z;exact⟨⟨j,z⟩,λw=>y (h.dis j i b z (by rw[e3,w];simp))⟩
  have nl:¬Ow (own1 own i []) l:=λz=>(eo l z).2 rfl;have ol:Ow own l:=⟨i,by rw[e3];simp⟩;have S1:Same (hd (Ow own) H) (hd (Ow (own1 own i [])) (upd H l (.frz ob (.dK (ks.zip ys))))):=λb u e=>by
   obtain⟨n,e⟩:=cT e;rw[cW λz=>n (eo b z).1,bZ λ(z:b=l)=>n (z.symm ▸ ol)];exact e
  have h1:SR X.K (own1 own i []) (upd H l (.frz ob (.dK (ks.zip ys)))) σ (o.set i (.fz (.dct ks ts))):=by
   have hi:i<o.length:=(ao.mp (jf es (by intro z;cases z))).1;refine⟨by rw[VY,h.len],λj y e'=>?_,λj hj a ha=>?_,λj k a z1 z2=>?_⟩
   .by_cases z:j=i
    .subst z;rw[UT hi]at e';cases e';rw[jY,e1];exact⟨rfl,_,rfl,.dct (.inr ⟨ob,by rw[cW nl];exact cj⟩) ln (r.same S1)⟩
    .rw[VQ (Ne.symm z)]at e';rw[gq z];exact((h.sl j y e').same S1 (.refl _)).off λb hb u e=>(bZ λw=>z (h.dis j i b hb (by rw[e3,w];simp))).trans e
   .rw[VY]at hj;rw[gq wf]at ha;obtain⟨xs,e⟩:=h.out j hj a ha;exact⟨xs,(bZ λw=>by have:=h.dis j i a ha (by rw[e3,w];simp);lia).trans e⟩
   .by_cases z:j=i
    .rw[z,jY]at z1;cases z1
    by_cases y:k=i
    .rw[y,jY]at z2;cases z2
    .rw[gq z]at z1;rw[gq y]at z2;exact h.dis j k a z1 z2
  have L1:=L.step S1;refine Wo h1 (afU ln (by rw[cW nl];exact cj)) (by simpa using hr.1) hr.2 nD λH' v y rx E n=>?_;obtain⟨B,nb,s⟩:=n;exact L1.rt _ H' v y B rx (iw (λb z=>z.imp id (nb b)) E) s λa ha=>.inr ha
 |_=>rw[es]at hr;exact hr.elim
def aht(K:Frag)(as:Ψ)(H:Hp)(tss:wx):Prop:=tss.length=as.length/\∀(j:Nat)a ts,as[j]?=some a->tss[j]?=some ts->∃xs,H a=some (.lst xs)/\b_ K (hd (· ∈ as) H) xs ts
abbrev SO:=wx->zD->(wx->Prop)->Prop
def spO(K:Frag)(S:SO):Sp:=λvs H Q _=>∃(as:Ψ)(tss:wx)(us:Ζ)(ts:zD)(R:wx->Prop),vs=as.map V.ref++us/\as.Nodup/\aht K as H tss/\b_ K (hd (· ∈ as) H) us ts/\S tss ts R /\
 ∀H' bg,R bg->Same (hd (· ∈ as) H) (hd (· ∈ as) H')->aht K as H' bg->Q .non H'
def ownL(as:Ψ)(i:Nat):Ψ:=match as[i]? with|some a=>[a]|none=>[]
def Im{b:Addr}(h:b∈ownL as i):as[i]?=some b:=by
 unfold ownL at h;cases e:as[i]? with
 |none=>rw[e]at h;cases h
 |some a=>rw[e]at h;cases YR.mp h;rfl
def Zk{b:Addr}(h:as[i]?=some b):ownL as i=[b]:=by unfold ownL;rw[h]
def Ow.ownL(as:Ψ):Ow (L2.ownL as)=(· ∈ as):=funext λb=>propext ⟨λ⟨i,z⟩=>aC (Im z),λz=>by
 obtain⟨i,e⟩:=aV z;exact⟨i,by rw[Zk e];simp⟩⟩
def startO(n:Nat)(as:Ψ)(tss:wx)(ts:zD):zI:=List.zipWith OT.la as tss++start' (n-as.length) ts
def SR.startO{H:Hp}{as:Ψ}{tss:wx}{us:Ζ}{ts:zD}(nd:as.Nodup)(h:aht K as H tss)(r:b_ K (hd (· ∈ as) H) us ts)(N:Φ)(hN:as.length+us.length<=N.length):SR K (ownL as) H (L2.start N (as.map V.ref++us)) (L2.startO N.length as tss ts):=by
 have zl:(List.zipWith OT.la as tss).length=as.length:=by rw[TK,h.1,UU]
 refine⟨?_,λi x e=>?_,λi hi b hb=>?_,λi j b e1 e2=>Lh nd (Im e1) (Im e2)⟩
 .unfold L2.startO start' L2.start;have:=r.len;simp only[aA,ak,aN,zl];lia
 .rw[Ow.ownL];unfold L2.startO at e;unfold L2.start;by_cases hi:i<as.length
  .rw[aF (by rwa[zl]),Zzx]at e;have ea:=aj hi;have et:=aj (l:=tss) (by rwa[h.1]);rw[ea,et]at e;cases e;rw[Zk ea,aF (by simp;exact WU _ hi),aq,aF (by simpa using hi),aq,ea];obtain⟨xs,q,rx⟩:=h.2 i _ _ ea et;exact⟨xs,rfl,rfl,q,rx⟩
  .have on:ownL as i=[]:=by unfold ownL;rw[aM (Nat.not_lt.mp hi)]
   rw[on];rw[aD (by rw[zl];exact Nat.not_lt.mp hi),zl]at e;unfold start' at e;by_cases hj:i-as.length<ts.length
   .rw[aF (by simpa using hj),aq,aj hj]at e;cases e;obtain⟨v,e1,r1⟩:=r.at_ (aj hj);have:=r.len;rw[aF (by simp;lia),aq,aD (by simpa using Nat.not_lt.mp hi),ak,e1];exact⟨rfl,v,rfl,r1⟩
   .rw[aD (by simpa using hj),ak,X0]at e;split at e
    .cases e;rfl
    .cases e
 .unfold L2.startO at hi;rw[aA,zl]at hi;have:=(ao.mp (Im hb)).1;lia
theorem slot_of:∀{o:zI}{i:Nat}{x:OT},o[i]?=some x->slot o i=x
 |[],_,_,e=>by cases e
 |_::_,0,_,e=>by cases e;rfl
 |_::l,i+1,x,e=>slot_of (o:=l) (by simpa using e)
variable{S:SO}{p1:Pos}
def Fun.okO{ag:Str}{f:Addr}{N:Φ}(F:Fun K x ag st f fd)(sc:bK N ps (bG st))(len:∀tss ts R,S tss ts R->tss.length+ts.length=ps.length)(hn:ps.length<=N.length)
 (a9:∀(ah:Value)(A:Around)(outer:xm)(s:Shared)(H:Hp)(E:XK),d9 k (A.deeper (envOfC ag (bG st) s.heap.objs.size f ah))->N.Nodup ->
   ∃r,QSs (Cy CX0 P w K mg base N ag (bG st) f ah A outer s H E).nox (fD st) r/\∀as tss ts R,tss.length=as.length->S tss ts R->r { nx:=λo=>∃bg,(∀j,slot o j=slot (List.zipWith OT.la as bg) j\/as.length<=j)/\bg.length=as.length/\R bg,rt:=λ_=>False } (startO N.length as tss ts)):fL P w K mg base CX0 (k+1) f fd ps (spO K S):=by
 refine F.ok sc (λvs H Q E h=>?_) λah A outer s H vs Q E hr h=>?_
 .obtain⟨as,tss,us,ts,R,rfl,_,l,r,hS,_⟩:=h;rw[aA,ak,<- l.1,r.len];exact len _ _ _ hS
 .obtain⟨as,tss,us,ts,R,rfl,nd,l,r,hS,q⟩:=h;obtain⟨rd,h1,h2⟩:=a9 ah A outer s H E hr sc.nd;have s0:=SR.startO nd l r N (by rwa[<- l.1,r.len,len _ _ _ hS]);refine⟨_,h1,_,_,_,s0,h2 as tss ts R l.1 hS,⟨λown H' σ o rx E h=>?_,λ_ _ _ _ _ z=>z.elim,λ_ _ _ _ z=>z.elim,λ_ _ _ _ z=>z.elim,λ_ _ _ _ _ _ z=>z.elim⟩⟩;obtain⟨bg,es,tl,rx⟩:=rx;rw[Ow.ownL]at E;have ce:∀(j:Nat)a t,as[j]?=some a->bg[j]?=some t->slot o j=.la a t:=λj a t e1 e2=>by
   rcases es j with z|z
   .rw[z];exact slot_of (by rw[Zzx,e1,e2])
   .exact absurd (ao.mp e1).1 (Nat.not_lt.mpr z)
  have sub:Same (hd (Ow own) H') (hd (· ∈ as) H'):=iw (λb z=>.inl (by
   obtain⟨j,e⟩:=aV z;have lj:j<bg.length:=tl ▸ (ao.mp e).1;obtain⟨u,_,xs,_,e3,_⟩:=h.val (ce j b _ e (aj lj)) (by intro z;cases z);exact⟨j,by rw[e3];simp⟩)) λ_ _ z=>z
  refine q H' bg rx (E.trans sub) ⟨tl,λj a t e1 e2=>?_⟩;obtain⟨u,_,xs,_,_,e4,r4⟩:=h.val (ce j a t e1 e2) (by intro z;cases z);exact⟨xs,e4,r4.same sub⟩
def aem(h:SR K own H σ o)(hs:∀a∈as,∃j,own j=[a]):Hid H (λb=>Ow own b/\b∉as)/\∀H':Hp,hd (· ∈ as) (hd (λb=>Ow own b/\b∉as) H')=hd (Ow own) H':=by
 have in1:∀{b x:Addr}{j:Nat},b∈own j->b∉as->x∈own j->x∉as:=λ{b x j}hb n hx z=>by
  obtain⟨k,ek⟩:=hs x z;have:=h.dis j k x hx (by rw[ek];simp);subst this;rw[ek]at hb hx;cases YR.mp hb;exact n z
 refine⟨⟨λb z=>h.sole z.1,λb C d f ⟨⟨j,z⟩,n⟩ e=>⟨⟨j,(h.mate z).1 C d f e⟩,in1 z n ((h.mate z).1 C d f e)⟩,λb x ⟨⟨j,z⟩,n⟩ e=>⟨⟨j,(h.mate z).2 x e⟩,in1 z n ((h.mate z).2 x e)⟩⟩,λH'=>funext λb=>?_⟩;by_cases z:b∈as
 .obtain⟨k,ek⟩:=hs b z;rw[o7 z,o7 ⟨k,by rw[ek];simp⟩]
 .rw[cW z];by_cases y:Ow own b
  .rw[o7 (⟨y,z⟩ : Ow own b/\b∉as),o7 y]
  .rw[cW (λw=>y w.1),cW y]
def aoy(i:Nat)(S:SO)(r:RA):RS:=λE o=>onL (slot o i) λts c=>r o λas=>S [ts] as λtss=>match tss with|[t]=>E.nx (o.set i (c t))|_=>False
def aiD(i:Nat){y:Str}(G:OkF X.prog X.w X.K X.mg X.base k x ps (spO X.K S))(ha:QA X es r)(hr:d9 k X.A:=by exact d9.mono (by assumption) wb)(hg:Gl X x:=by rfl)(hN:X.N[i]?=some y:=by rfl)(hv:qX X.env.scope y=true:=by rfl)(bu:qk y:=by decide)(aI:qo y:=by decide)(br:qk x:=by decide)
 (he:starEach (.Name y p1::es) X.env=(false,eval (.Name y p1) X.env)::starEach es X.env:=by rfl)(hpl:qV X af es:=by rfl)(hs:swapsWith (.Call (.Name x p) (.Name y p1::es) [] af) none pos.line X.env=pure false:=by rfl):QS X (.Expr (.Call (.Name x p) (.Name y p1::es) [] af) pos) (aoy i S r):=by
 obtain⟨f,fd,F,b,hm,kp⟩:=G;refine(mD (Ew (sp:=spH (spO X.K S)) ⟨f,fd,F.hid,b,hm,kp⟩ hr hg (dG (pv i hN hv bu aI) ha he) br he hpl) hs).imp λD σ H hP=>?_;obtain⟨own,o,E,h,hr,L⟩:=hP;obtain⟨ts,c,hr,es⟩:=Gz hr;obtain⟨l,xs,e1,e2,e3,r0,sl⟩:=h.l1 es;refine⟨_,e1,tQA.mk h hr λH1 vs as q _ E1 r1=>?_⟩;have h1:=h.same E1;obtain⟨hid,eqF⟩:=aem h1 (as:=[l]) λa ha=>⟨i,by rwa[YR.mp ha]⟩;have nl:¬(Ow own l/\l∉[l]):=λz=>z.2 wp;refine⟨_,hid,[l],[ts],vs,as,_,rfl,by simp,⟨rfl,λj a t ea et=>?_⟩,by rw[eqF];exact r1,q,λG bg rx EE ls bi=>?_⟩
 .cases j with
  |zero=>cases ea;cases et;exact⟨xs,(cW nl).trans (E1 _ _ e3),by rw[eqF];exact r0.same (bU E1)⟩
  |succ j=>cases ea
 .match bg,rx,ls with
  |[t],rx,ls =>
   obtain⟨ys,ey,ry⟩:=ls.2 0 l t rfl rfl;rw[eqF]at EE;have df:∀{b:Addr}{u:HO},G b=some u->mrg (λb=>Ow own b/\b∉[l]) H1 G b=some u:=λ{b u}e=>(lV λz=>by rw[bi b z]at e;cases e).trans e;obtain⟨x,ex⟩:=KY es;obtain⟨h',S'⟩:=h1.chg ex (y:=c t) (H':=mrg (λb=>Ow own b/\b∉[l]) H1 G) (λb u hb e=>by
    by_cases z:Ow own b
    .rw[xU ⟨z,λy=>hb (by rwa[e2])⟩];exact e
    .exact df (cT (EE b u ((cW z).trans e))).2) (by
    rw[e1,e2];refine sl _ ys t (df ey) (ry.same λb u e=>?_);obtain⟨n1,e⟩:=cT e;rw[cW λz=>by rw[bi b ⟨z,n1⟩]at e;cases e];exact df e)
   exact L.nx own _ σ _ rx ((bU E1).trans S') h'
def aoW(i j:Nat)(S:SO)(r:RA):RS:=λE o=>onL (slot o i) λts c=>onL (slot o j) λus d=>r o λas=>S [ts,us] as λtss=>match tss with|[t,u]=>E.nx ((o.set i (c t)).set j (d u))|_=>False
def J1(i j:Nat){y z:Str}(G:OkF X.prog X.w X.K X.mg X.base k x ps (spO X.K S))(hr:d9 k X.A)(hg:Gl X x)(ha:QA X es r)(i6:i≠j:=by decide)(hN:X.N[i]?=some y:=by rfl)(hv:qX X.env.scope y=true:=by rfl)(bu:qk y:=by decide)(aI:qo y:=by decide)(hN2:X.N[j]?=some z:=by rfl)(mP:qX X.env.scope z=true:=by rfl)(oB:qk z:=by decide)(oP:qo z:=by decide)(br:qk x:=by decide)
 (he:starEach (.Name y p1::.Name z p2::es) X.env=(false,eval (.Name y p1) X.env)::starEach (.Name z p2::es) X.env:=by rfl)(he2:starEach (.Name z p2::es) X.env=(false,eval (.Name z p2) X.env)::starEach es X.env:=by rfl)(hpl:(backTo af (starEach (.Name z p2::es) X.env)).any (·.1)=false:=by rfl)(hs:swapsWith (.Call (.Name x p) (.Name y p1::.Name z p2::es) [] af) none pos.line X.env=pure false:=by rfl):QS X (.Expr (.Call (.Name x p) (.Name y p1::.Name z p2::es) [] af) pos) (aoW i j S r):=by
 obtain⟨f,fd,F,b,hm,kp⟩:=G;refine(mD (Ew (sp:=spH (spO X.K S)) ⟨f,fd,F.hid,b,hm,kp⟩ hr hg (dG (pv i hN hv bu aI) (dG (pv j hN2 mP oB oP) ha he2) he) br he hpl) hs).imp λD σ H hP=>?_;obtain⟨own,o,E,h,hr,L⟩:=hP;obtain⟨ts,c,hr,es⟩:=Gz hr;obtain⟨us,d,hr,es2⟩:=Gz hr;obtain⟨l,xs,e1,e2,e3,r0,sl⟩:=h.l1 es;obtain⟨m,zs,f1,f2,f3,s0,sl2⟩:=h.l1 es2;have lm:l≠m:=λz=>i6 (h.dis i j l (by rw[e2];simp) (by rw[f2,z];simp));refine⟨_,e1,_,f1,tQA.mk h hr λH1 vs as q _ E1 r1=>?_⟩;have h1:=h.same E1;obtain⟨hid,eqF⟩:=aem h1 (as:=[l,m]) λa ha=>by
  rcases YU.mp ha with z|z
  .exact⟨i,by rwa[z]⟩
  .exact⟨j,by rwa[YR.mp z]⟩
 have nl:¬(Ow own l/\l∉[l,m]):=λz=>z.2 wp;have nm:¬(Ow own m/\m∉[l,m]):=λz=>z.2 wp;refine⟨_,hid,[l,m],[ts,us],vs,as,_,rfl,by simp[lm],⟨rfl,λj a t ea et=>?_⟩,by rw[eqF];exact r1,q,λG bg rx EE ls bi=>?_⟩
 .match j,ea,et with
  |0,ea,et=>cases ea;cases et;exact⟨xs,(cW nl).trans (E1 _ _ e3),by rw[eqF];exact r0.same (bU E1)⟩
  |1,ea,et=>cases ea;cases et;exact⟨zs,(cW nm).trans (E1 _ _ f3),by rw[eqF];exact s0.same (bU E1)⟩
  |j+2,ea,_=>cases ea
 .match bg,rx,ls with
  |[t,u],rx,ls =>
   obtain⟨ys,ey,ry⟩:=ls.2 0 l t rfl rfl;obtain⟨ws,ew,l9⟩:=ls.2 1 m u rfl rfl;rw[eqF]at EE;have df:∀{b:Addr}{u:HO},G b=some u->mrg (λb=>Ow own b/\b∉[l,m]) H1 G b=some u:=λ{b u}e=>(lV λz=>by rw[bi b z]at e;cases e).trans e;generalize hM:mrg (λb=>Ow own b/\b∉[l,m]) H1 G=M at df;have keep:∀b u,b≠l->b≠m->H1 b=some u->M b=some u:=λb u n1 n2 e=>by
    by_cases z:Ow own b
    .rw[<- hM,xU ⟨z,by simp[n1,n2]⟩];exact e
    .exact df (cT (EE b u ((cW z).trans e))).2
   have back:∀(M':Hp),(∀b,b≠m->M' b=M b)->Same (hd (· ∈ [l,m]) G) (hd (Ow own) M'):=λM' hM' b u e=>by
    obtain⟨n1,e⟩:=cT e;rw[cW (λz=>by rw[bi b ⟨z,n1⟩]at e;cases e),hM' b λz=>n1 (by simp[z])];exact df e
   obtain⟨x,ex⟩:=KY es;obtain⟨x2,ex2⟩:=KY es2;obtain⟨h2,S2⟩:=h1.chg ex (y:=c t) (H':=upd M m (.lst zs)) (λb u hb e=>by
    by_cases z:b=m
    .rw[z,cj];rw[z,E1 _ _ f3]at e;exact e
    .rw[bZ z];exact keep b u (λy=>hb (by rw[e2,y];simp)) z e) (by
    rw[e1,e2];exact sl _ ys t ((bZ lm).trans (df ey)) (ry.same (back _ λb n=>bZ n)))
   obtain⟨h3,S3⟩:=h2.chg (show(o.set i (c t))[j]?=some x2 by rwa[VQ i6]) (y:=d u) (H':=M) (λb w hb e=>by rw[bZ λz=>hb (by rw[f2,z];simp)]at e;exact e) (by
    rw[f1,f2];exact sl2 _ ws u (df ew) (l9.same (back _ λ_ _=>rfl)))
   exact L.nx own _ σ _ rx ((bU E1).trans (S2.trans S3)) h3
def LR(g:zg)(c:RT)(e:RE)(o:zI):zD->(wx->Prop)->Prop
 |[],q=>q []
 |t::ts,q=>∃(N:zD->Prop)(M:Prop),(∀y,N y->LR g c e o ts λus=>q (y::us))/\(M->LR g c e o ts q)/\g t o λo'=>c o' λb=>sw b (e o' λy=>match y with|.l1 us=>N us|_=>False) M
def ad9(it:RI)(n:Nat)(g:zg)(c:RT)(e:RE):RE:=λo q=>it o λxs=>xs.length<=sizeLine/\LR g c e (List.replicate n .und++o) xs λus=>q (.l2 us)
def ownL2(n L:Nat)(own:Nat->Ψ)(A:Ψ):Nat->Ψ:=λi=>if i<n then[]else if i<n+L then own (i-n)else if i=n+L then A else own (i-n-1)
def Ow.ownL2{n L:Nat}{own:Nat->Ψ}{A:Ψ}{b:Addr} : Ow (ownL2 n L own A) b↔Ow own b\/b∈A:=by
 constructor
 .rintro⟨i,z⟩;unfold L2.ownL2 at z;by_cases h1:i<n
  .rw[ZY h1]at z;cases z
  rw[ZZ h1]at z;by_cases h2:i<n+L
  .rw[ZY h2]at z;exact .inl ⟨_,z⟩
  rw[ZZ h2]at z;by_cases h3:i=n+L
  .rw[ZY h3]at z;exact .inr z
  .rw[ZZ h3]at z;exact .inl ⟨_,z⟩
 .rintro(⟨i,z⟩|z)
  .by_cases h:i<L
   .exact⟨n+i,by unfold L2.ownL2;rw[ZZ (TR (X2 _ _)),ZY (Nat.add_lt_add_left h _),show n+i-n=i by exact JU _ _];exact z⟩
   .exact⟨n+i+1,by unfold L2.ownL2;rw[ZZ wf,ZZ wf,ZZ wf,show n+i+1-n-1=i by lia];exact z⟩
  .exact⟨n+L,by unfold L2.ownL2;rw[ZZ (TR (X2 _ _)),ZZ (X9 _),ZY rfl];exact z⟩
def SR.blockL(h:SR K own H σ o){A:Ψ}(E:Same H H')(nA:∀a∈A,H a=none)(eA:∀a∈A,∃ys,H' a=some (.lst ys))(pre:L2.St):SR K (ownL2 pre.length o.length own A) H' (pre++σ) (List.replicate pre.length .und++o):=by
 have le:Same (hd (Ow own) H) (hd (Ow (ownL2 pre.length o.length own A)) H'):=iw (λb z=>(Ow.ownL2.mp z).imp id (nA b)) E;have f8:∀j,∀a∈A,a∉own j:=λj a ha z=>(h.sole ⟨j,z⟩).ne (nA a ha);refine⟨by simp[h.len],λi x e=>?_,λi hi a ha=>?_,λi j a e1 e2=>?_⟩
 .by_cases h1:i<pre.length
  .rw[aF (by simpa using h1),X0,ZY h1]at e;cases e;show ownL2 _ _ _ _ i=[];unfold ownL2;rw[ZY h1]
  .rw[aD (by simpa using h1),aN]at e;have h2:i-pre.length<o.length:=(ao.mp e).1;rw[aD (Nat.not_lt.mp h1)];have:ownL2 pre.length o.length own A i=own (i-pre.length):=by unfold ownL2;rw[ZZ h1,ZY (by omega)]
   rw[this];exact(h.sl _ x e).same le E
 .rw[aA,aN]at hi;unfold ownL2 at ha;rw[ZZ wf,ZZ (TR hi)]at ha;by_cases h3:i=pre.length+o.length
  .rw[ZY h3]at ha;exact eA a ha
  .rw[ZZ h3]at ha;obtain⟨xs,e⟩:=h.out _ wf a ha;exact⟨xs,E _ _ e⟩
 .unfold ownL2 at e1 e2;by_cases a1:i<pre.length
  .rw[ZY a1]at e1;cases e1
  by_cases b1:j<pre.length
  .rw[ZY b1]at e2;cases e2
  rw[ZZ a1]at e1;rw[ZZ b1]at e2;by_cases a2:i<pre.length+o.length<;>by_cases b2:j<pre.length+o.length
  .rw[ZY a2]at e1;rw[ZY b2]at e2;have:=h.dis _ _ a e1 e2;omega
  .rw[ZY a2]at e1;rw[ZZ b2]at e2;by_cases b3:j=pre.length+o.length
   .rw[ZY b3]at e2;exact absurd e1 (f8 _ a e2)
   .rw[ZZ b3]at e2;have:=h.dis _ _ a e1 e2;omega
  .rw[ZZ a2]at e1;rw[ZY b2]at e2;by_cases a3:i=pre.length+o.length
   .rw[ZY a3]at e1;exact absurd e2 (f8 _ a e1)
   .rw[ZZ a3]at e1;have:=h.dis _ _ a e1 e2;lia
  .rw[ZZ a2]at e1;rw[ZZ b2]at e2;by_cases a3:i=pre.length+o.length<;>by_cases b3:j=pre.length+o.length
   .exact Eq.trans a3 (Eq.symm b3)
   .rw[ZY a3]at e1;rw[ZZ b3]at e2;exact absurd e2 (f8 _ a e1)
   .rw[ZZ a3]at e1;rw[ZY b3]at e2;exact absurd e1 (f8 _ a e2)
   .rw[ZZ a3]at e1;rw[ZZ b3]at e2;have:=h.dis _ _ a e1 e2;lia
def aan{J:It}{xs:zD}(h1:SR K own H1 σ o)(wk:Wlk K J (hd (Ow own) H1) xs)(lx:xs.length<=sizeLine)(q:LR g rc re (List.replicate n .und++o) xs λus=>R (.l2 us))(nD:H1 D=none)(k:∀H' v x,R x->Same H1 H'->NR K (Ow own) H1 H' v x->Q v H') :
  ∃W:Nat->Nat->Ζ->Hp->Prop,(∃m,W 0 m [] (upd H1 D (.lst [])))/\∀i m ys Hc,W i m ys Hc ->
   (J.stop i Hc/\Q (.ref D) Hc)\/(J.go i Hc/\∀x H',J.yld i Hc x H'->∀pre:L2.St,pre.length=n->tMG (tQG K n g) x (pre++σ) H' λσ2 H2=>∃b7:L2.St,b7.length=n/\σ2=b7++σ/\tMT (tQT K rc) σ2 H2 λb H3 =>
    match b with
    |true=>tM (tQ K re) σ2 H3 λy H4=>ys.length<sizeLine/\H4 D=some (.lst ys)/\∃m',m'<m/\W (i+1) m' (ys++[y]) (upd H4 D (.lst (ys++[y])))
    |false=>∃m',m'<m/\W (i+1) m' ys H3):=by
 generalize hO:List.replicate n OT.und++o=ob at q;refine⟨λi m ys Hc=>∃(bs:Ψ)(tss:wx),ys=bs.map V.ref/\Hc D=some (.lst ys)/\Same H1 Hc/\(D::bs).Nodup/\(∀b∈bs,H1 b=none)/\bs.length=tss.length/\(∀(i:Nat)b ts,bs[i]?=some b->tss[i]?=some ts->∃xs,Hc b=some (.lst xs)/\b_ K (hd (λb=>Ow own b\/b∈D::bs) Hc) xs ts)/\ys.length<=i/\i<=xs.length/\m=xs.length-i/\LR g rc re ob (xs.drop i) λus=>R (.l2 (tss++us)),⟨_,[],[],rfl,cj,Same.upd nD,by simp,λ_ z=>(nomatch z),rfl,(λi b ts e=>by cases e),aG _,aZ _,rfl,q⟩,?_⟩;rintro i m ys Hc ⟨bs,tss,rfl,eD,Ec,nd,nb,bl,rs,il,ix,rfl,hl⟩;have nA:∀a∈D::bs,H1 a=none:=λa ha=>by
  rcases YU.mp ha with z|z
  .rw[z];exact nD
  .exact nb a z
 have eA:∀a∈D::bs,∃ys,Hc a=some (.lst ys):=λa ha=>by
  rcases YU.mp ha with z|z
  .exact⟨_,z ▸ eD⟩
  .obtain⟨j,e⟩:=aV z;have lj:=(ao.mp e).1;obtain⟨zs,e2,_⟩:=rs j a _ e (aj (aR lj (WH bl)));exact⟨zs,e2⟩
 have hn:∀b,Ow own b\/b∈D::bs->Hc b≠none:=λb z=>z.elim (λz=>((h1.same Ec).sole z).ne) λe z=>by obtain⟨ys,ey⟩:=eA b e;rw[ey]at z;cases z
 have SD:Same (hd (Ow own) H1) (hd (λb=>Ow own b\/b∈D::bs) Hc):=iw (λb z=>z.imp id (nA b)) Ec;obtain⟨w1,w2⟩:=wk (λb=>Ow own b\/b∈D::bs) Hc i hn SD;by_cases hi:i<xs.length
 .right;obtain⟨go,yl⟩:=w2 _ (aj hi);rw[Zzz hi]at hl;obtain⟨N,M,hN,hM,hl⟩:=hl;refine⟨go,λx H2 y pre hp=>?_⟩;obtain⟨E2,rx⟩:=yl x H2 y;have eO:(λb=>Ow own b\/b∈D::bs)=Ow (ownL2 n o.length own (D::bs)):=funext λb=>propext Ow.ownL2.symm;have hb:SR K (ownL2 n o.length own (D::bs)) H2 (pre++σ) ob:=by
   have:=h1.blockL (Ec.trans E2) nA (λa ha=>let⟨ys,e⟩:=eA a ha;⟨ys,E2 _ _ e⟩) pre;rw[hp,hO]at this;exact this
  rw[eO]at rx rs;refine⟨_,⟨ownL2 n o.length own (D::bs),ob,_,_,hb,rx,hl,λff σ3 o3 q3 iA h3=>?_⟩,λ_ _ z=>z⟩;obtain⟨b7,di,rfl⟩:=U7 hp iA;have e3:ff=ownL2 n o.length own (D::bs):=funext λj=>by
   rcases iA.1 j with e|⟨e1,e2⟩
   .exact e
   .rw[e2];unfold ownL2;rw[ZY e1]
  subst e3;refine⟨b7,di,rfl,_,tQT.mk h3 q3 λH3 b q4 E3=>?_,λ_ _ z=>z⟩;have q4:sw b (re o3 λy=>match y with|.l1 us=>N us|_=>False) M:=q4;cases b with
  |false=>exact⟨xs.length-(i+1),by lia,bs,tss,rfl,E3 _ _ (E2 _ _ eD),Ec.trans (E2.trans E3),nd,nb,bl,λj b ts e1 e2=>by
    obtain⟨zs,ez,rz⟩:=rs j b ts e1 e2;rw[eO];exact⟨zs,E3 _ _ (E2 _ _ ez),rz.same (bU (E2.trans E3))⟩,by exact aL il (X2 _ _),by exact hi,rfl,hM q4⟩
  |true =>
   refine⟨_,⟨_,_,_,h3.same E3,q4,λH4 v y q5 E4 r4=>?_⟩,λ_ _ z=>z⟩
   match y,q5,r4 with
   |.l1 us,q5,r4 =>
    obtain⟨B,nB,p,zs,ev,rfl,ep,rp⟩:=r4;cases ev;have np:H3 p=none:=nB p wp;have pn:∀{a:Addr}{u:HO},H3 a=some u->a≠p:=λe z=>by rw[z,np]at e;cases e
    have E:Same Hc H3:=E2.trans E3;have pD:D≠p:=pn (E _ _ eD);have pb:p∉bs:=λz=>by
     obtain⟨ys,ey⟩:=eA p (aJ _ z);exact pn (E _ _ ey) rfl
    have inD:∀(H:Hp)(u:HO),hd (λb=>Ow own b\/b∈D::(bs++[p])) (upd H D u)=hd (λb=>Ow own b\/b∈D::(bs++[p])) H:=λH u=>Bv (S:=λb=>Ow own b\/b∈D::(bs++[p])) (.inr wp);refine⟨by lia,E4 _ _ (E _ _ eD),xs.length-(i+1),by lia,bs++[p],tss++[us],by rw[bf];rfl,cj,λb u e=>?_,?_,λb hb=>?_,by simp[bl],λj b ts e1 e2=>?_,by rw[aA,List.length_singleton];exact Nat.succ_le_succ il,by exact hi,rfl,?_⟩
    .rw[bZ λz=>by rw[z,nD]at e;cases e];exact E4 _ _ (E _ _ (Ec _ _ e))
    .rw[<- List.cons_append];exact List.nodup_append.mpr ⟨nd,by simp,λa ha c hc z=>by
      rw[YR.mp hc]at z;rcases YU.mp ha with y|y
      .exact pD (y.symm.trans z)
      .exact pb (z ▸ y)⟩
    .rcases Y1.mp hb with z|z
     .exact nb b z
     .rw[YR.mp z];exact(Ec.trans E).free np
    .rw[inD];by_cases hj:j<bs.length
     .rw[aF hj]at e1;rw[aF (aR hj (WH bl))]at e2;obtain⟨zs,ez,rz⟩:=rs j b ts e1 e2;have bD:b≠D:=λz=>(List.nodup_cons.mp nd).1 (z ▸ aC e1);refine⟨zs,by rw[bZ bD];exact E4 _ _ (E _ _ ez),rz.same ?_⟩;rw[<- eO];exact iw (λc z=>by
       rcases z with z|z
       .exact .inl (.inl z)
       .rw[<- List.cons_append]at z;rcases Y1.mp z with y|y
        .exact .inl (.inr y)
        .rw[YR.mp y];exact .inr (E.free np)) (E.trans E4)
     .rw[aD (VT hj)]at e1;rw[aD wf]at e2;have j0:j-bs.length=0:=by
       have:=(ao.mp e1).1;simp at this;omega
      rw[j0]at e1;rw[show j-tss.length=0 by lia]at e2;cases e1;cases e2;refine⟨_,by rw[bZ (Ne.symm pD)];exact ep,rp.same (iw (λc z=>.inl ?_) λ_ _ z=>z)⟩;rcases z with z|z
      .exact .inl (Ow.ownL2.mpr (.inl z))
      .rw[<- List.cons_append]at z;rcases Y1.mp z with y|y
       .exact .inl (Ow.ownL2.mpr (.inr y))
       .exact .inr y
    .have:=hN _ q5;simp only[WZ,List.singleton_append];exact this
 .left;have:i=xs.length:=by lia
  refine⟨w1 this,?_⟩;rw[JS (VT hi)]at hl;have hl:R (.l2 (tss++[])):=hl;rw[List.append_nil]at hl;exact k Hc _ _ hl Ec ⟨D::bs,nA,D,bs,rfl,rfl,nd,eD,bl,rs⟩
def Zr(h:tQ K (ad9 ri n g rc re) σ H Q):rR (tQI K ri) n (tMG (tQG K n g)) (tMT (tQT K rc)) (tM (tQ K re)) σ H Q:=by
 obtain⟨own,o,R,h,hr,k⟩:=h;exact⟨own,o,_,h,hr,λH1 J xs q E1 wk D nD=>aan (h.same E1) wk q.1 q.2 nD λH' v x rx E n=>k H' v x rx (E1.trans E) (n.back E1)⟩
def acI:=@zc X tg iter be az ri g rc re scope pos ad9 Zr
def agE{py b8:Pos}:=@zf X tg iter be az ri g rc re scope pos i0 y0 py b8 (λi r n g c e=>ajB i (ad9 r n g c e)) λ{_ i0 _ _ _ _ _ _ _ _}⟨own,o,E,h,hr,L⟩=>Zr ⟨own,o,_,h,hr,λH' v y q S n=>by
 obtain⟨am,h',S'⟩:=h.putA S n i0;exact L.nx am H' _ _ q S' h'⟩
theorem O7{α:Type}(h:α->T)(f:α->zD){c:RT}{e:RE}{o:zI} : ∀(l:List α){q:wx->Prop},(∀a∈l,∀(N:zD->Prop)(M:Prop),N (f a)->g (h a) o λo'=>c o' λb=>sw b (e o' λy=>match y with|.l1 us=>N us|_=>False) M)->q (l.map f)->LR g c e o (l.map h) q
 |[],_,_,k=>k
 |a::l,q,st,k=>⟨λy=>y=f a,False,λy z=>O7 h f l (λa ha=>st a (aJ _ ha)) (z ▸ k),False.elim,st a (aO ..) (λy=>y=f a) False rfl⟩
def VR{e:RE}{q:wx->Prop}(f:Nat->zD)(n:Nat)(st:∀k,k<n->∀(N:zD->Prop)(M:Prop),N (f k)->g (.int (k:Nat)) o λo'=>c o' λb=>sw b (e o' λy=>match y with|.l1 us=>N us|_=>False) M)(k:q ((List.range n).map f)):LR g c e o (rng 0 n) q:=by
 refine O7 (λk:Nat=>.int (0+k)) f (List.range n) (λa ha N M hN=>?_) k;have:=st a (List.mem_range.mp ha) N M hN;show g (.int (0+((a:Nat):Int))) o _;rw[show(0:Int)+((a:Nat):Int)=((a:Nat):Int)by exact Int.zero_add _];exact this
abbrev J2(f:Β):PyData:=.tuple [.int f.1,.int f.2]
abbrev frP(f:Β):T:=.tup [.int f.1,.int f.2]
def aeO(K:Frag):V->Ζ->Hp->VK->Prop:=λx vs H Q=>∃(l:Addr)(b:V)(xs:Ζ)(fs:Γ)(f:Β)(j:Nat),x=.ref l/\vs=[b]/\H l=some (.lst xs)/\xs.length=fs.length/\(∀(i:Nat)x g,xs[i]?=some x->fs[i]?=some g->iz K H x (J2 g))/\iz K H b (J2 f)/\xs.length<=sizeLine/\fs[j]?=some f/\(∀i g,i<j->fs[i]?=some g->g≠f)/\Q (.int (j:Nat)) H
open Classical in
def aiN(h:Heap)(f:Β)(v:Value):Bool:=decide (∃as,Reads h v (J2 f) as)
open Classical in
def Ti{h:Heap}{v:Value}{g f:Β}(r:Reads h v (J2 g) as):aiN h f v=(decide (g.1=f.1)&&decide (g.2=f.2)):=by
 unfold aiN;by_cases e:g=f
 .subst e;rw[Zs ⟨as,r⟩,Zs rfl,Zs rfl];rfl
 .have nd:¬∃as,Reads h v (J2 f) as:=λ⟨bs,z⟩=>e (by
   have:=SeqAt.Reads.unique _ _ _ _ _ rfl r z;injection this with this;injection this with t1 t2;injection t2 with t2;injection t1 with t1;injection t2 with t2;exact Prod.ext t1 t2)
  rw[Zp nd];by_cases h1:g.1=f.1
  .by_cases h2:g.2=f.2
   .exact absurd (Prod.ext h1 h2) e
   .rw[Zp h2,Bool.and_false]
  .rw[Zp h1,Bool.false_and]
def aa9(hu:X.A.units+64<cLine):MtM X "list.index" (aeO X.K):=by
 intro aa s σ H x vs v us Q I rx rv h;obtain⟨l,b,xs,fs,f,j,rfl,rfl,hl,lf,fl,hb,hz,ej,nj,q⟩:=h;cases rx;obtain⟨u,rfl,ru⟩:=rv.one;obtain⟨bs,rb⟩:=I.readsK hb ru;obtain⟨z,its,n,r,ko,e⟩:=I.lstM hl;have lr:=r.length;have lh:∀(i:Nat)(hi:i<its.toArray.size),∃g as,fs[i]?=some g/\Reads s.heap its.toArray[i] (J2 g) as:=λi hi=>by
  rw[aX]at hi;have ex:xs[i]?=some (xs[i]' wf):=aj _;have eg:fs[i]?=some (fs[i]' wf):=aj _;obtain⟨u,eu,ru⟩:=r.get ex;obtain⟨as,ra⟩:=I.readsK (fl i _ _ ex eg) ru;refine⟨_,as,eg,?_⟩;rwa[List.getElem_toArray,(ao.mp eu).2]
 have lj:=(ao.mp ej).1;have hj:j<its.toArray.size:=by rw[aX];lia
 rw[sizeLine_eq]at hz;refine call_meets F.slot_list_index ⟨_,e,rfl⟩ F.entry_list_index (F.args_list_index_2 _ _) (SeqAt.list_indexAt l its.toArray n _ _ _ (aiN s.heap f) j hj wf ?_ λm hm lm=>?_) ⟨e,λy hy=>?_,⟨.int _,H,I.tok _,⟨_,rfl⟩,q⟩⟩
 .obtain⟨g,as,e2,e3⟩:=lh j hj;rw[ej]at e2;cases e2;rw[Ti e3,Zs rfl,Zs rfl];rfl
 .obtain⟨g,as,e2,e3⟩:=lh m hm;have ne:=nj m g lm e2;rw[Ti e3];by_cases h1:g.1=f.1
  .by_cases h2:g.2=f.2
   .exact absurd (Prod.ext h1 h2) ne
   .rw[Zp h2,Bool.and_false]
  .rw[Zp h1,Bool.false_and]
 .obtain⟨i,hi,ei⟩:=Array.getElem_of_mem hy;obtain⟨g,as,e2,e3⟩:=lh i hi;rw[<- ei,Ti e3,<- aep];exact SeqAt.eqAt_reads _ _ _ _ _ _ _ _ e3 rb rfl rfl (by
   have d:(J2 g).depth<=3:=TU rfl;have m:=Nat.min_le_left (J2 g).depth (J2 f).depth;show X.A.units+1+min (J2 g).depth (J2 f).depth<cLine;lia)
def apc(a:RE)(r:RA):RE:=λo q=>a o λx=>match frz x with
 |.lst ts=>r o λus=>∃(fs:Γ)(f:Β)(j:Nat),ts=fs.map frP/\us=[frP f]/\fs.length<=sizeLine/\fs[j]?=some f/\(∀i g,i<j->fs[i]?=some g->g≠f)/\q (.fz (.int (j:Nat)))
 |_=>False
def ai3{o:Expr}(hu:X.A.units+64<cLine)(ho:QE X o ra)(ha:QA X [e] r)(hb:attributeBase o "index" X.env (eval o X.env)=eval o X.env:=by rfl)
 (hf:qB X af e:=by rfl)
 (hl:zh ai af:=by rfl)(hs:qr X e []:=by rfl)(hp:qV X af []:=by rfl) :
  QE X (.Call (.Attribute o "index" ai) [e] [] af) (apc ra r):=by
 refine(abF PySem.F.plainAttrs_list PySem.F.slot_list_index PySem.F.type_list_index (aa9 hu) ho.mono ha.mono hb hf hl hs hp).imp λσ H Q hP=>?_;obtain⟨own,o,R,h,hr,k⟩:=hP;refine⟨_,tQ.mk h hr λH1 v x q E1 r1=>?_,λ_ _ z=>z⟩;cases ex:frz x with
 |lst ts =>
  rw[ex]at q r1;obtain⟨p,xs,rfl,e,rx⟩:=r1.lstI;refine⟨.inl ⟨rfl,_,SqL.of (cQ _ _ e)⟩,_,tQA.mk (h.same E1) q λH2 vs us q2 _ E2 r2=>?_,λ_ _ z=>z⟩;obtain⟨fs,f,j,rfl,rfl,lf,ej,nj,q3⟩:=q2;obtain⟨y,rfl,ry⟩:=r2.one;have S2:Same (hd (Ow own) H1) H2:=(bU E2).trans cQ;refine⟨p,y,xs,fs,f,j,rfl,rfl,E2 _ _ (cQ _ _ e),by rw[rx.len,ak],λi x g ex eg=>?_,(ry.shows _ rfl rfl).same cQ,by rw[rx.len,ak];exact lf,ej,nj,k H2 _ _ q3 (E1.trans E2) (NR.fz (.int _))⟩;obtain⟨v,ev,rv⟩:=rx.at_ (show(fs.map frP)[i]?=some (frP g)by rw[aq,eg];rfl);rw[ex]at ev;cases ev;exact(rv.shows _ rfl rfl).same S2
 |_=>rw[ex]at q;exact q.elim
theorem b_.strs{K:Frag}{F:Hp} : ∀{xs:Ζ}{ys:Φ},b_ K F xs (ys.map T.str)->xs=ys.map V.str
 |_,[],h=>by cases h;rfl
 |_,y::ys,h=>by
  cases h with
  |cons a b =>
   cases a;rw[b_.strs b];rfl
def rJn(a:RE)(r:RA):RE:=λo q=>a o λx=>match frz x with
 |.str s=>r o λus=>∃ys:Φ,us=[.lst (ys.map T.str)]/\(ys.map (·.length)).sum+ys.length*s.length<=16777216/\q (.fz (.str (Txt.join s ys)))
 |_=>False
def ae0{o:Expr}(ho:QE X o ra)(ha:QA X [e] r)(hb:attributeBase o "join" X.env (eval o X.env)=eval o X.env:=by rfl)
 (hf:qB X af e:=by rfl)
 (hl:zh ai af:=by rfl)(hs:qr X e []:=by rfl)(hp:qV X af []:=by rfl) :
  QE X (.Call (.Attribute o "join" ai) [e] [] af) (rJn ra r):=by
 refine(anD PySem.F.slot_str_join PySem.F.type_str_join afX ho ha hb hf hl hs hp).imp λσ H Q hP=>?_;obtain⟨own,o,R,h,hr,k⟩:=hP;refine tQ.mk h hr λH1 v x q E1 r1=>?_;cases ex:frz x with
 |str s =>
  rw[ex]at q r1;cases r1;refine⟨⟨s,rfl⟩,tQA.mk (h.same E1) q λH2 vs us q2 _ E2 r2=>?_⟩;obtain⟨ys,rfl,lz,q3⟩:=q2;obtain⟨y,rfl,ry⟩:=r2.one;obtain⟨p,xs,rfl,e,rx⟩:=ry.lstI;exact⟨s,p,ys,rfl,rfl,rx.strs ▸ (cT e).2,lz,k H2 _ _ q3 (E1.trans E2) (NR.fz (.str _))⟩
 |_=>rw[ex]at q;exact q.elim
def notStar:Expr->Bool
 |.Starred ..=>false
 |_=>true
def ahM{env:Env}(h:notStar e=true):starEach (e::es) env=(false,eval e env)::starEach es env:=by
 cases e<;>first|rfl|cases h
structure QEB(X:Cx)(e:Expr)(r:RE):Prop where
 out:QE X e r
structure QAB(X:Cx)(es:xz)(r:RA):Prop where
 out:QA X es r
def Gf{r:RE}(h:QE X e r):QEB X e r:=⟨h⟩
def Zh{i j pos} : QEB X (.Constant (.int i) j pos) (rC (.int i)):=⟨bA⟩
def an8(i:Nat)(hN:X.N[i]?=some x:=by rfl)(hv:qX X.env.scope x=true:=by rfl)(hd:qk x:=by decide)(aI:qo x:=by decide):QEB X (.Name x pos) (aco i):=⟨qv i hN hv hd aI⟩
def ajz{op:Operator}{g:zd}(ho:GO X (binaryOp op) g)(ha:QEB X a ra)(hb:QEB X b rb):QEB X (.BinOp a op b pos) (rOp g ra rb):=⟨bL ho ha.out hb.out⟩
def vA:QAB X [] aiA:=⟨bC⟩
def gP{a:RE}(ha:QEB X e a)(hr:QAB X es r)(hn:notStar e=true:=by rfl):QAB X (e::es) (agZ a r):=⟨bx ha.out hr.out (ahM hn)⟩
def DN(h:QAB X es r)(hz:es.length<=sizeLine:=by decide):QEB X (.Tuple es k pos) (akV r):=⟨cN h.out hz⟩
def Zg(h:QAB X es r)(hz:es.length<=sizeLine:=by decide):QEB X (.List es pos) (anB r):=⟨dh h.out hz⟩
def aob:zd
 |.int i,.int j,q=>af6 i j/\q (.fz (.int (i*j)))
 |_,_,_=>False
def Y0:GO X (binaryOp .Mult) aob:=ahD.imp λx y H Q hP=>by
 obtain⟨S,t,u,R,_,hx,hy,hg,k⟩:=hP;cases hx<;>try exact hg.elim
 cases hy<;>try exact hg.elim
 exact⟨_,_,rfl,rfl,hg.1,k H _ _ hg.2 (.refl _) (NR.fz (.int _))⟩
def apH(n:Nat)(gs:zo):zg
 |.lst ts,o,q=>ts.length=n/\gs ts o q
 |_,_,_=>False
def ahz{m:Nat}(hc:X.calm=true)(h:QGs X m es gs)(hn:(assignEach es X.env).length=n:=by rfl)(bv:zt X es:=by rfl):QG X m (.Tuple es k pos) (apH n gs):=(afz hc h hn bv).imp λv σ H Q hP=>by
 obtain⟨own,o,t,R,h,r,hg,k⟩:=hP;cases t<;>try exact hg.elim
 obtain⟨a,xs,rfl,e,r⟩:=r.lstI;exact⟨a,xs,rfl,SqL.of (cQ _ _ e),r.len.trans hg.1,own,o,_,R,h,r,hg.2,k⟩
variable{x y a b c e f d:RS}
def sq1(J:zI->Prop)(k:∀o',J o'->y E o')(h:∀Y:zI->Prop,(∀o',J o'->Y o')->eG x (λ_=>Y) E o):eG x y E o:=h (y E) k
def sq2(J:zI->Prop)(k:∀o',J o'->y E o')(h:∀Y:zI->Prop,(∀o',J o'->Y o')->eG a (eG x (λ_=>Y)) E o):eG a (eG x y) E o:=h (y E) k
def sq3(J:zI->Prop)(k:∀o',J o'->y E o')(h:∀Y:zI->Prop,(∀o',J o'->Y o')->eG a (eG b (eG x (λ_=>Y))) E o):eG a (eG b (eG x y)) E o:=h (y E) k
def sq4(J:zI->Prop)(k:∀o',J o'->y E o')(h:∀Y:zI->Prop,(∀o',J o'->Y o')->eG a (eG b (eG c (eG x (λ_=>Y)))) E o):eG a (eG b (eG c (eG x y))) E o:=h (y E) k
def sq7(J:zI->Prop)(k:∀o',J o'->y E o')(h:∀Y:zI->Prop,(∀o',J o'->Y o')->eG a (eG b (eG c (eG d (eG e (eG f (eG x (λ_=>Y))))))) E o):eG a (eG b (eG c (eG d (eG e (eG f (eG x y)))))) E o:=h (y E) k
abbrev XC:=Addr->Φ->zD->Prop
abbrev SX:=zD->(OT->Prop)->XC->Prop
def spX(K:Frag)(S:SX):Sp:=λvs H Q E=>∃ts R Z,b_ K H vs ts/\S ts R Z/\(∀H' v x,R x->Same H H'->NR K (λ_=>False) H H' v x->Q v H') /\
 ∀H' C d ks us c6,Z C ks c6->Same H H'->H' d=some (.xd (ks.zip us))->b_ K H' us c6->E (.ref C) (some d) H'
abbrev aiY(P:Program)(w:World)(K:Frag)(mg:Str->Ω)(base:Heap)(k:Nat)(x:Str)(ps:Φ)(S:SX):Prop:=OkX P w K mg base k x ps (spX K S)
variable{x:Str}{a:Expr}
def Fun.okTX{ag:Str}{f:Addr}{N:Φ}{S:SX}(F:Fun K x ag st f fd)(sc:bK N ps (bG st))
 {r}(a9:∀{ah:Value}{A:Around}{outer:xm}{s:Shared}{H:Hp}{E:XK},d9 k (A.deeper (envOfC ag (bG st) s.heap.objs.size f ah))->N.Nodup ->QSs (Cy (CXO P w) P w K mg base N ag (bG st) f ah A outer s H E) (fD st) r)(b2:∀ts R Z,S ts R Z->r { nx:=λ_=>R (.fz .non),rt:=R,xc:=Z } (start' N.length ts))(len:∀ts R Z,S ts R Z->ts.length=ps.length:=by intro _ _ _ h;repeat (first|exact(ZH List.length h.1).trans rfl|obtain⟨_,h⟩:=h)):fL P w K mg base (CXO P w) (k+1) f fd ps (spX K S):=by
 refine F.okX sc (λvs H Q E h=>?_) λah A outer s H vs Q E hr h=>?_
 .obtain⟨ts,R,Z,r,hS,_⟩:=h;exact r.len.trans (len ts R Z hS)
 .obtain⟨ts,R,Z,r,hS,q,qx⟩:=h;have h1:=@a9 ah A outer s H E hr sc.nd;have h2:=b2;have e0:hd (Ow λ_=>[]) H=H:=by rw[show Ow (λ_=>[])=λ_=>False from funext λb=>propext ⟨λhP=>by obtain⟨_,z⟩:=hP;exact(nomatch z),False.elim⟩,Ip]
  have aE:∀(S:Addr->Prop)H' v x B,R x->Same H (hd S H')->Slo K (hd S H') H' (some v) B x->(∀a∈B,S a)->Q v H':=λS' H' v x B rx E s hB =>
   q H' v x rx (E.trans cQ) ⟨B,λa ha=>E.free (o7 (hB a ha)),s.same (iw (λb z=>.inl (z.elim False.elim (hB b))) λ_ _ z=>z) λ_ _ z=>z⟩
  refine⟨_,h1,λ_=>[],_,_,SR.start r N,h2 ts R Z hS,⟨λown H' σ o rx E h=>?_,λS' H' v x B rx E s hB=>aE S' H' v x B rx (e0 ▸ E) s hB,λ_ _ _ _ z=>z.elim,λ_ _ _ _ z=>z.elim,λH' C d ks us c6 z E e r'=>?_⟩⟩
  .exact aE (Ow own) H' .non _ [] rx (e0 ▸ E) ⟨rfl,_,rfl,.non⟩ λ_ z=>(nomatch z)
  .have e1:=qx H' C d ks us c6 z (e0 ▸ E) e r';exact⟨λaa σ H2 s2 a s' B I F2=>agd aa σ H2 s2 a _ H' s' B _ I F2 e1,λaa σ H2 s2 a c ec I ha ge eo=>Z5 aa σ H2 s2 a c _ I ha ge (by rw[eo,<- ec];exact e1)⟩
def ahN:af4 X λC d _ H'=>zx X C d H':=λaa σ H s a C H' s' B d I F z=>z.1 aa σ H s a s' B I F
def abh:Xy X λC d _ H'=>zx X C d H':=λaa σ H s a C d I e g z=>z.2 aa σ H s a C rfl I e g rfl
def ahn(S:SX)(r:RA):RS:=λE o=>r o λts=>S ts (λ_=>E.nx o) E.xc
def adk{e:Expr}{S:SX}(G:aiY X.prog X.w X.K X.mg X.base k x ps S)(ha:QA X (e::es) r)(hr:d9 k X.A:=by exact d9.mono (by assumption) wb)(hg:Gl X x:=by rfl)(br:qk x:=by decide)
 (he:qr X e es:=by rfl)(hpl:qV X pos es:=by rfl)
 (hs:swapsWith (.Call (.Name x p) (e::es) [] pos) none aS.line X.env=pure false:=by rfl):QS X (.Expr (.Call (.Name x p) (e::es) [] pos) aS) (ahn S r) :=
 (mD (Ua G hr hg ahN ha br he hpl) hs).imp λD σ H ⟨own,o,E,h,hr,L⟩=>tQA.mk h hr λH1 vs ts q _ E1 r1=>by
  refine⟨ts,_,_,r1.same cQ,q,λH' v x q S n=>?_,λH' C d ks us c6 z S e r'=>L.xc H' C d ks us c6 z (cQ.trans (E1.trans S)) e r'⟩;exact L.nx own H' σ o q (bU (E1.trans S)) (h.same (E1.trans S))
def ahZ(C:Addr)(ce:Str):Sp:=λvs H Q _=>∃a v,vs=[.ref a,v]/\H a=some (XN a C none)/\∀d,H d=none->d≠a->Q .non (upd (upd H a (XN a C (some d))) d (.xd [(ce,v)]))
def ahQ{a d:Addr}{o o' x:HO}(n:H a=none)(e:d≠a):out (upd (upd (upd H a o) a o') d x) a=upd H d x:=by
 funext b
 by_cases z:b=a
 .subst z;rw[VP,bZ (Ne.symm e),n]
 .rw[xW z];by_cases y:b=d
  .subst y;rw[cj,cj]
  .rw[bZ y,bZ z,bZ z,bZ y]
def ahA(C:Addr)(ce:Str)(re:RE):RS:=λE o=>re o λx=>E.xc C [ce] [frz x]
def Va{ce:Str}{np:Pos}{e:Expr}{C HE fI:Addr}(hc:X.calm=true)(hm:X.mg x=some (.ref C))(q:QL X.K C HE fI)(G:zn X CX0 k fI ps (ahZ C ce))(ha:QE X e re)(hr:d9 (k+1) X.A:=by exact d9.mono (by assumption) wb)(hg:Gl X x:=by rfl)(br:qk x:=by decide)
 (he:qr X e []:=by rfl)(hpl:qV X af []:=by rfl) :
  QS X (.Raise (some (.Call (.Name x np) [e] [] af)) none pos) (ahA C ce re) :=
 (aac hc hg hm q G hr abh (bx ha bC he) br he hpl).imp λD σ H ⟨own,o,E,h,hr,L⟩=>tQA.mk h hr λH1 vs ts q ln E1 r1=>by
  obtain⟨t,rfl⟩ : ∃t,ts=[t]:=by
   match ts,ln with
   |[t],_=>exact⟨t,rfl⟩
  obtain⟨v,rfl⟩ : ∃v,vs=[v]:=by
   match vs,r1.len with
   |[v],_=>exact⟨v,rfl⟩
  refine⟨(show 1<=sizeLine by decide),λa ha=>⟨a,v,rfl,cj,λd hd da=>⟨rfl,some d,(bZ (Ne.symm da)).trans cj,?_⟩⟩⟩;rw[ahQ ha da];have bu:H1 d=none:=by rw[bZ da]at hd;exact hd
  exact L.xc _ C d [ce] [v] _ q (cQ.trans (E1.trans (Same.upd bu))) cj (r1.same (cQ.trans (Same.upd bu)))
def ao4:T->(OT->Prop)->Prop
 |.lst ts,q=>q (.fz (.tup ts))
 |_,_=>False
def adi:GC X (.type "tuple") (g1 ao4):=aaK.imp λxs H Q hP=>by
 obtain⟨S,ts,R,hs,rs,hg,k⟩:=hP
 match ts,hg with
 |[t],hg =>
  obtain⟨x,rfl,rx⟩:=rs.one;cases t<;>try exact hg.elim
  obtain⟨p,xs,rfl,e,r⟩:=rx.lstI;exact⟨p,xs,rfl,(cT e).2,λl H' E n e'=>k _ _ _ hg E (NR.fz (.tup (.of (by rwa[cW λz=>hs l z n])) (r.same (bU E))))⟩
def rP(X:Cx)(t:TS):RS:=λE o=>∀own H σ D,SR X.K own H σ o->Lnk X.K (zx X) (hd (Ow own) H) E D->t D σ H
def aoN{t:TS}(h:PS X st t):QS X st (rP X t):=h.imp λD σ H hP=>by obtain⟨own,o,E,s,hr,L⟩:=hP;exact hr own H σ D s L
def drp(o:zI):xL->zI
 |[]=>o
 |j::js=>(drp o js).set j .und
def aoP:OT->OT->(OT->Prop)->Prop
 |.l1 ts,.l1 us,q=>q (.l2 [ts,us])
 |_,_,_=>False
def aqc(a b:RE):RE:=λo q=>a o λx=>b o λy=>aoP x y q
def aiG{b:Expr}(ha:QE X a ra)(hb:QE X b rb)(hs:starEach [a,b] X.env=(false,eval a X.env)::starEach [b] X.env:=by rfl)(eC:qr X b []:=by rfl):QE X (.List [a,b] pos) (aqc ra rb):=(abk (dG ha (dG hb nq eC) hs)).imp λσ H Q hP=>by
 obtain⟨own,o,R,h,hr,k⟩:=hP;refine⟨own,o,_,h,hr,λH1 v x q1 E1 n1=>?_⟩;cases x with
 |l1 ts =>
  obtain⟨B,nb,c,xs,ev,rfl,e1,r1⟩:=n1;cases ev;have nc:H c=none:=nb c wp;have h1:=h.block E1 nc e1 [];refine⟨_,o,_,h1,q1,λH2 w y q2 E2 n2=>?_⟩;cases y with
  |l1 us =>
   obtain⟨B2,nb2,d,ys,ew,rfl,e2,r2⟩:=n2;cases ew;have nd:H1 d=none:=nb2 d wp;refine⟨(show 2<=sizeLine by decide),λp hp=>?_⟩;have np:=E2.free hp;have gu:=E2 _ _ e1;have pc:p≠c:=λz=>by rw[z,gu]at hp;cases hp
   have pd:p≠d:=λz=>by rw[z,e2]at hp;cases hp
   have cd:c≠d:=λz=>by rw[<- z,e1]at nd;cases nd
   have U:Same H2 (upd H2 p (.lst [V.ref c,V.ref d])):=Same.upd hp;refine k _ _ _ q2 (E1.trans (E2.trans U)) ⟨[p,c,d],λb hb=>?_,p,[c,d],rfl,rfl,?_,cj,rfl,λi b c6 eb et=>?_⟩
   .simp only[YU,Up,or_false]at hb;rcases hb with rfl|rfl|rfl
    .exact E1.free np
    .exact nc
    .exact E1.free nd
   .simp[pc,pd,cd]
   .match i,eb,et with
    |0,rfl,rfl =>
     refine⟨xs,U _ _ gu,r1.same (iw (λb z=>?_) (E2.trans U))⟩;rcases z with z|z
     .exact .inl (.inl z)
     .simp only[YU,Up,or_false]at z;rcases z with rfl|rfl|rfl
      .exact .inr np
      .exact .inl (.inr wp)
      .exact .inr nd
    |1,rfl,rfl =>
     refine⟨ys,U _ _ e2,r2.same (iw (λb z=>?_) U)⟩;rcases z with z|z
     .exact .inl (.inl (Ow.ownS.mpr (.inl z)))
     .simp only[YU,Up,or_false]at z;rcases z with rfl|rfl|rfl
      .exact .inr hp
      .exact .inl (.inl (Ow.ownS.mpr (.inr rfl)))
      .exact .inl (.inr wp)
  |_=>exact q2.elim
 |_=>exact⟨own,o,_,h.same E1,q1,λ_ _ _ q _ _=>q.elim⟩
def am7:zd
 |.int i,.int j,q=>(Bm i/\Bm j)/\q (.fz (.int (i*j)))
 |_,_,_=>False
def Ea:GO X (binaryOp .Mult) am7:=agA.imp λx y H Q hP=>by
 obtain⟨S,t,u,R,_,hx,hy,hg,k⟩:=hP;cases hx<;>try exact hg.elim
 cases hy<;>try exact hg.elim
 exact⟨_,_,rfl,rfl,hg.1,k H _ _ hg.2 (.refl _) (NR.fz (.int _))⟩
def C_{i:Int}(h:i.natAbs<=10^n)(hn:n<=100000):Bm i:=by
 have a:10^n<=(2^4)^n:=Nat.pow_le_pow_left wb n;rw[<- Nat.pow_mul]at a;exact Y3 (aL h a) (Nat.pow_lt_pow_right wb wf)
theorem b_.rev{K:Frag}{F:Hp} : ∀{xs:Ζ}{ts:zD},b_ K F xs ts->b_ K F xs.reverse ts.reverse
 |_,_,.nil=>.nil
 |_,_,.cons a t=>by
  rw[List.reverse_cons,List.reverse_cons];exact(b_.rev t).app (.cons a .nil)
def ag7(i:Nat)(a:RE):RS:=λE o=>match slot o i with
 |.l2 tss=>a o λx=>(match frz x with|.int j=>∃n ts,ixN tss.length j=some n/\tss[n]?=some ts/\E.nx (o.set i (.l2 (tss.set n ts.reverse)))|_=>False)
 |_=>False
def afq(i:Nat)(ha:QE X a ra)(hN:X.N[i]?=some x:=by rfl)(hv:qX X.env.scope x=true:=by rfl)(bu:qk x:=by decide)(aI:qo x:=by decide)(fR:rG a:=by exact λ_ _=>rfl)
 (hb:attributeBase (.Subscript (.Name x p) a p2) "reverse" X.env (eval (.Subscript (.Name x p) a p2) X.env)=eval (.Subscript (.Name x p) a p2) X.env:=by rfl)(hl:zh ai af:=by rfl)
 (hs:swapsWith (.Call (.Attribute (.Subscript (.Name x p) a p2) "reverse" ai) [] [] af) none pos.line X.env=pure false:=by rfl) :
  QS X (.Expr (.Call (.Attribute (.Subscript (.Name x p) a p2) "reverse" ai) [] [] af) pos) (ag7 i ra):=(mD (aiL (vW rA (pv i hN hv bu aI) ha fR) hb hl) hs).imp λD σ H hP=>by
 obtain⟨own,o,E,h,hr,L⟩:=hP;unfold ag7 at hr;cases es:slot o i with
 |l2 tss =>
  rw[es]at hr;obtain⟨l,bs,e1,e3,nd,e4,ln,r⟩:=h.l2 es;refine⟨_,e1,tQ.mk h hr λH1 v x q E1 r1=>?_⟩
  revert r1 q
  generalize frz x=t;intro q r1;cases t<;>try exact q.elim
  cases r1;obtain⟨n,ts,en,et,q⟩:=q;obtain⟨c,ec,ei⟩:=ix3 (xs:=bs) ln en et;obtain⟨xs,eq,rx⟩:=r n c ts ec et;refine⟨l,bs.map V.ref,_,.ref c,rfl,rfl,.of (E1 _ _ e4),QB ei,c,xs,rfl,E1 _ _ eq,?_⟩;obtain⟨h',S⟩:=(h.same E1).chg2 es e1 e3 nd (E1 _ _ e4) ln (λi b ts a c=>let⟨xs,p,q⟩:=r i b ts a c;⟨xs,E1 _ _ p,q.same (bU E1)⟩) ec (rx.same (bU E1)).rev;exact L.nx own _ σ _ q ((bU E1).trans S) h'
 |_=>rw[es]at hr;exact hr.elim
end L2
namespace Ac
def lw(t b:Int):Int×Int:=(t/(Int.gcd t b:Nat),b/(Int.gcd t b:Nat))
def aog{t b:Int}(hb:0<b):(0:Int)<(Int.gcd t b:Nat):=by
 have:=Zzq t (show b≠0 by exact WS hb);lia
section
variable{κ:Type}[DecidableEq κ]
def look(acc:List (κ×Int))(r:κ):Int:=((acc.find? λg=>decide (g.1=r)).map (·.2)).getD 0
def put(acc:List (κ×Int))(r:κ)(y:Int):List (κ×Int):=if(acc.any λg=>decide (g.1=r))=true then acc.map (λg=>if g.1=r then(g.1,y)else g)else acc++[(r,y)]
def apx(gs:List (κ×Int)):List (κ×Int):=gs.foldl (λa g=>put a g.1 (look a g.1+g.2)) []
def ways(gs:List (κ×Int))(S:Int):List (κ×Int×Int):=((apx gs).filter λg=>decide (0<g.2)).map λg=>(g.1,lw g.2 S)
end
end Ac
namespace Rw
open Ac
def rep(r:List Int×Int):Γ:=r.1.map λt=>lw t r.2
def gcL(ts:xy)(b:Int):Int:=ts.foldl (λc t=>((Int.gcd t c:Nat):Int)) b
theorem iG:∀{ts:xy}{b:Int},0<b->0<gcL ts b
 |[],_,h=>h
 |t::ts,b,h=>iG (ts:=ts) (aog (t:=t) h)
theorem iJ:∀{ts:xy}{b:Int},gcL ts b ∣ b/\∀t∈ts,gcL ts b ∣ t
 |[],b=>⟨Int.dvd_refl b,by simp⟩
 |t::ts,b=>by
  obtain⟨h1,h2⟩:=iJ (ts:=ts) (b:=((Int.gcd t b:Nat):Int));refine⟨Int.dvd_trans h1 (Q1 t b),λx hx=>?_⟩;rcases YU.mp hx with rfl|hx
  .exact Int.dvd_trans h1 (Int.gcd_dvd_left x b)
  .exact h2 x hx
def sW{ts:xy}{b:Int}(h:0<b):gcL ts b<=b:=Int.le_of_dvd h iJ.1
def jm(r:List Int×Int):List Int×Int:=(r.1.map λt=>t/gcL r.1 r.2,r.2/gcL r.1 r.2)
def kZ(r:List Int×Int):(jm r).1.length=r.1.length:=by unfold jm;rw[ak]
def jc(r:List Int×Int)(c:Β):List Int×Int:=(r.1.map λt=>t*c.1,r.2*c.2)
def oE(r o:List Int×Int)(c:Β):List Int×Int :=
 (List.zipWith (λa b=>a*(o.2*c.2/((Int.gcd r.2 (o.2*c.2):Nat):Int))+b*(r.2/((Int.gcd r.2 (o.2*c.2):Nat):Int)*c.1)) r.1 o.1,r.2*(o.2*c.2/((Int.gcd r.2 (o.2*c.2):Nat):Int)))
structure Big(N:Nat)(r:List Int×Int):Prop where
 pos:0<r.2
 bot:r.2.natAbs<=N
 top:∀t∈r.1,t.natAbs<=N
variable{N:Nat}{R':Nat->Nat->Rat}
def Big.le{M:Nat}{r:List Int×Int}(h:Big N r)(hn:N<=M):Big M r:=⟨h.pos,aL h.bot hn,λt ht=>aL (h.top t ht) hn⟩
def Uy{d t g x:Int}(h1:d ∣ t*x)(h2:d ∣ g*x):d ∣ ((Int.gcd t g:Nat):Int)*x:=by
 have h:=Int.dvd_coe_gcd h1 h2;rw[Int.gcd_mul_right]at h;rw[TZ]at h;rcases Int.natAbs_eq x with e|e
 .rw[e];exact h
 .rw[e,Int.mul_neg];exact Int.dvd_neg.mpr h
theorem xR{d x:Int} : ∀{ts:xy}{b:Int},d ∣ b*x->(∀t∈ts,d ∣ t*x)->d ∣ gcL ts b*x
 |[],_,h,_=>h
 |t::ts,b,h,k=>xR (ts:=ts) (Uy (k t aO) h) λu hu=>k u (aJ _ hu)
def Alk(r s:List Int×Int):Prop:=r.1.length=s.1.length/\∀(k:Nat)(a b:Int),r.1[k]?=some a->s.1[k]?=some b->a*s.2=b*r.2
def lR{r:List Int×Int}(h:0<r.2):gcL (jm r).1 (jm r).2=1:=by
 have g0:=iG (ts:=r.1) h;obtain⟨d1,d2⟩:=iJ (ts:=r.1) (b:=r.2);have p:0<(jm r).2:=Zyz h (XY g0) d1;have q0:=iG (ts:=(jm r).1) p;obtain⟨e1,e2⟩:=iJ (ts:=(jm r).1) (b:=(jm r).2);have ce:gcL (jm r).1 (jm r).2*gcL r.1 r.2 ∣ gcL r.1 r.2*1:=by
  refine xR ?_ λt ht=>?_
  .obtain⟨u,hu⟩:=e1;have hu:r.2/gcL r.1 r.2=gcL (jm r).1 (jm r).2*u:=hu;refine⟨u,?_⟩;rw[Int.mul_one,Int.mul_right_comm,<- hu,Int.ediv_mul_cancel d1]
  .obtain⟨u,hu⟩:=e2 (t/gcL r.1 r.2) (YV.mpr ⟨t,ht,rfl⟩);refine⟨u,?_⟩;rw[Int.mul_one,Int.mul_right_comm,<- hu,Int.ediv_mul_cancel (d2 t ht)]
 rw[Int.mul_one]at ce;have:=Int.le_of_dvd g0 ce;have:gcL (jm r).1 (jm r).2<=1:=by
  refine Int.le_of_mul_le_mul_right (a:=gcL r.1 r.2) ?_ g0;lia
 lia
def least{r s:List Int×Int}(hr:0<r.2)(g:gcL r.1 r.2=1)(a:Alk r s)(h:Big N s):Big N r:=by
 have d:r.2 ∣ gcL r.1 r.2*s.2:=xR ⟨s.2,rfl⟩ λt ht=>by
  obtain⟨k,hk,rfl⟩:=List.mem_iff_getElem.mp ht;have hs:k<s.1.length:=by rwa[<- a.1]
  rw[a.2 k _ _ (aj hk) (aj hs)];exact⟨_,JP _ _⟩
 rw[g,JJ]at d;obtain⟨m,hm⟩:=d;have m0:0<m:=Int.pos_of_mul_pos_right (by rw[<- hm];exact h.pos) hr;refine⟨hr,?_,λt ht=>?_⟩
 .have:=Int.le_of_dvd h.pos ⟨m,hm⟩;have:=h.bot;lia
 .obtain⟨k,hk,rfl⟩:=List.mem_iff_getElem.mp ht;have hs:k<s.1.length:=by rwa[<- a.1]
  have e:=a.2 k _ _ (aj hk) (aj hs);rw[hm,JP r.2 m,<- Int.mul_assoc]at e;have e:=Int.eq_of_mul_eq_mul_right (WS hr) e;have b:=h.top _ (aU hs);rw[<- e,VZ]at b;exact aL (Nat.le_mul_of_pos_right _ (by omega)) b
def gr(N:Nat):Nat->Nat
 |0=>N
 |m+1=>2*(gr N m*gr N m)
def sg(f:Nat->Rat):Nat->Rat
 |0=>0
 |n+1=>sg f n+f n
def sz(f:Nat->Int):Nat->Int
 |0=>0
 |n+1=>sz f n+f n
theorem gw(f g:Nat->Rat):∀n,sg (λj=>f j+g j) n=sg f n+sg g n
 |0=>by unfold sg;grind
 |n+1=>by unfold sg;rw[gw f g n];grind
theorem fH(c:Rat)(f:Nat->Rat):∀n,sg (λj=>c*f j) n=c*sg f n
 |0=>by unfold sg;grind
 |n+1=>by unfold sg;rw[fH c f n];grind
theorem bV{f g:Nat->Rat} : ∀{n},(∀j,j<n->f j=g j)->sg f n=sg g n
 |0,_=>rfl
 |n+1,h=>by unfold sg;rw[bV λj hj=>h j (WU _ hj),h n (X1 _)]
theorem fQ:∀n,sg (λ_=>0) n=0
 |0=>rfl
 |n+1=>by unfold sg;rw[fQ n];grind
theorem gA{v:Nat->Rat}{k:Nat} : ∀{n},sg (λj=>(if j=k then 1 else 0)*v j) n=if k<n then v k else 0
 |0=>by rw[ZZ (WV _)];rfl
 |n+1=>by
  unfold sg;rw[gA];by_cases h:k<n
  .rw[ZY h,ZZ (UY h),ZY (WU _ h)];grind
  .by_cases e:n=k
   .subst e;rw[ZZ h,ZY rfl,ZY (X1 _)];grind
   .rw[ZZ h,ZZ e,ZZ wf];grind
theorem I8(f:Nat->Nat->Rat)(m:Nat):∀n,sg (λk=>sg (λl=>f k l) m) n=sg (λl=>sg (λk=>f k l) n) m
 |0=>by
  show(0:Rat)=sg (λ_=>0) m;rw[fQ]
 |n+1=>by
  show sg (λk=>sg (λl=>f k l) m) n+sg (λl=>f n l) m=sg (λl=>sg (λk=>f k l) n+f n l) m;rw[gw,I8 f m n]
theorem Rt(f:Nat->Int):∀n,((sz f n:Int):Rat)=sg (λk=>(f k:Rat)) n
 |0=>Rat.intCast_zero
 |n+1=>by unfold sz sg;rw[Rat.intCast_add,Rt f n]
theorem Mi{f:Nat->Int}{B:Nat} : ∀{n},(∀k,k<n->(f k).natAbs<=B)->(sz f n).natAbs<=n*B
 |0,_=>by unfold sz;simp
 |n+1,h=>by
  unfold sz;have:=Mi (n:=n) λk hk=>h k (WU _ hk);have:=h n (X1 _);rw[Nat.add_mul,Nat.one_mul];omega
theorem adw(f g:Nat->Int):∀n,sz (λk=>f k-g k) n=sz f n-sz g n
 |0=>rfl
 |n+1=>by unfold sz;rw[adw f g n];lia
theorem Ui{f g:Nat->Int} : ∀{n},(∀j,j<n->f j=g j)->sz f n=sz g n
 |0,_=>rfl
 |n+1,h=>by unfold sz;rw[Ui λj hj=>h j (WU _ hj),h n (X1 _)]
theorem Vw{α:Type}(q:α->Bool):∀L:List α,(L.filter q).length+(L.filter λx=>!q x).length=L.length
 |[]=>rfl
 |x::L=>by
  have:=Vw q L;rw[List.filter_cons,List.filter_cons];cases h:q x with
  |true=>rw[ZY rfl,ZZ wp,List.length_cons,List.length_cons];lia
  |false=>rw[ZZ wp,ZY wp,List.length_cons,List.length_cons];lia
theorem abj{α:Type}(f:α->Nat)(n:Nat):∀(W:Nat)(L:List α),(∀x∈L,f x<W)->W*n<L.length->∃v,n<(L.filter λx=>f x==v).length
 |0,L,h,hl=>by
  cases L with
  |nil=>simp at hl
  |cons x L=>exact absurd (h x aO) (WV _)
 |W+1,L,h,hl=>by
  by_cases e:n<(L.filter λx=>f x==W).length
  .exact⟨W,e⟩
  .have pl:=Vw (λx=>f x==W) L;rw[Nat.add_mul,Nat.one_mul]at hl;obtain⟨v,hv⟩:=abj f n W (L.filter λx=>!(f x==W)) (λx hx=>by
    obtain⟨a,b⟩:=List.mem_filter.mp hx;have:=h x a;have ne:f x≠W:=λz=>by rw[z]at b;simp at b
    lia) (by omega)
   exact⟨v,aR hv (List.Sublist.length_le (List.Sublist.filter _ List.filter_sublist))⟩
theorem digits_inj{W:Nat}(hW:0<W):∀(n c d:Nat),c<W^n->d<W^n->(∀k,k<n->c/W^k%W=d/W^k%W)->c=d
 |0,c,d,hc,hd,_=>by
  rw[Nat.pow_zero]at hc hd;lia
 |n+1,c,d,hc,hd,h=>by
  have h0:=h 0 (Th _);rw[Nat.pow_zero,Nat.div_one,Nat.div_one]at h0;have e:=digits_inj hW n (c/W) (d/W) (Nat.div_lt_of_lt_mul (by rwa[JY,<- Nat.pow_succ])) (Nat.div_lt_of_lt_mul (by rw[JY,<- Nat.pow_succ];exact hd)) λk hk=>by
   have:=h (k+1) (Nat.succ_lt_succ hk);rw[Nat.div_div_eq_div_mul,Nat.div_div_eq_div_mul,<- Nat.pow_succ'];exact this
  rw[<- Nat.div_add_mod c W,<- Nat.div_add_mod d W,e,h0]
theorem aaC{p:Nat}(hN:1<=N):(2*((p+1)*((2*(p+1)*N)^p*N))+1)^p<((2*(p+1)*N)^p+1)^(p+1):=by
 have w:2*((p+1)*((2*(p+1)*N)^p*N))+1<=2*(p+1)*N*((2*(p+1)*N)^p+1):=by
  have e:2*((p+1)*((2*(p+1)*N)^p*N))=2*(p+1)*N*(2*(p+1)*N)^p:=by ac_rfl
  have x1:1<=2*(p+1)*N:=W1 (show 1<=2*(p+1)by lia) hN;rw[e];generalize 2*(p+1)*N=X at *;rw[Nat.mul_add,Nat.mul_one];exact Nat.add_le_add_left x1 _
 refine Y3 (Nat.pow_le_pow_left w p) ?_;rw[Nat.mul_pow,Nat.pow_succ,JY];exact Nat.mul_lt_mul_of_pos_left (X1 _) (Nat.pow_pos (Th _))
theorem ab4{p:Nat}{C:Nat->Nat->Int}(hN:1<=N)(hC:∀k l,k<=p->l<p->(C k l).natAbs<=N) :
  ∃ay:Nat->Int,(∃k,k<=p/\ay k≠0)/\(∀k,(ay k).natAbs<=(2*(p+1)*N)^p)/\∀l,l<p->sz (λk=>ay k*C k l) (p+1)=0:=by
 have ps:=aaC (p:=p) hN;generalize hB:(2*(p+1)*N)^p=B at *;generalize hO:(p+1)*(B*N)=O at *;have p4:∀c k:Nat,c/(B+1)^k%(B+1)<=B:=λc k=>UZ (Nat.mod_lt _ (Th _));have eb:∀l c,l<p->(sz (λk=>((c/(B+1)^k%(B+1):Nat):Int)*C k l) (p+1)).natAbs<=O:=λl c hl=>by
  rw[<- hO];refine Mi λk hk=>?_;rw[VZ,XG];exact W1 (p4 c k) (hC k l (UZ hk) hl)
 have all:∀q,q<=p->∃L:xL,L.Nodup/\(∀c∈L,c<(B+1)^(p+1))/\(∀l,l<q->∀c∈L,∀d∈L,sz (λk=>((c/(B+1)^k%(B+1):Nat):Int)*C k l) (p+1)=sz (λk=>((d/(B+1)^k%(B+1):Nat):Int)*C k l) (p+1))/\(2*O+1)^(p-q)<L.length:=by
  intro q
  induction q with
  |zero=>exact λ_=>⟨List.range ((B+1)^(p+1)),List.nodup_range,λc hc=>List.mem_range.mp hc,λl hl=>absurd hl (WV _),by rwa[WP,Nat.sub_zero]⟩
  |succ q ih =>
   intro hq;obtain⟨L,nd,lt,eq,ln⟩:=ih (aL (Xs _) hq);have e1:(2*O+1)^(p-q)=(2*O+1)*(2*O+1)^(p-(q+1)):=by rw[<- Nat.pow_succ',show(p-(q+1)).succ=p-q by lia]
   rw[e1]at ln;obtain⟨v,hv⟩:=abj (λc=>(sz (λk=>((c/(B+1)^k%(B+1):Nat):Int)*C k q) (p+1)+O).toNat) _ _ L (λc _=>by
    have:=eb q c (aR (X1 _) hq);omega) ln
   refine⟨_,List.Pairwise.sublist List.filter_sublist nd,λc hc=>lt c (List.mem_filter.mp hc).1,λl hl c hc d hd=>?_,hv⟩;obtain⟨c1,c2⟩:=List.mem_filter.mp hc;obtain⟨d1,d2⟩:=List.mem_filter.mp hd;by_cases e:l<q
   .exact eq l e c c1 d d1
   .have e:l=q:=by lia
    subst e;have c2:=beq_iff_eq.mp c2;have d2:=beq_iff_eq.mp d2;have:=eb l c (aR hl hq);have:=eb l d (aR hl hq);omega
 obtain⟨L,nd,lt,eq,ln⟩:=all p (aG p);rw[Nat.sub_self,Nat.pow_zero]at ln
 match L,nd,lt,eq,ln with
 |c::d::L,nd,lt,eq,_ =>
  have ne:c≠d:=λz=>by
   rw[z]at nd;exact(List.nodup_cons.mp nd).1 aO
  refine⟨λk=>((c/(B+1)^k%(B+1):Nat):Int)-((d/(B+1)^k%(B+1):Nat):Int),?_,λk=>?_,λl hl=>?_⟩
  .by_cases h:∀k,k<p+1->c/(B+1)^k%(B+1)=d/(B+1)^k%(B+1)
   .exact absurd (digits_inj (Th B) (p+1) c d (lt c aO) (lt d (aJ _ aO)) h) ne
   .obtain⟨k,hk⟩:=Classical.not_forall.mp h;obtain⟨k1,k2⟩:=Classical.not_imp.mp hk;exact⟨k,by exact UZ k1,λz=>k2 (by
     have z:((c/(B+1)^k%(B+1):Nat):Int)-((d/(B+1)^k%(B+1):Nat):Int)=0:=z;generalize c/(B+1)^k%(B+1)=x at *;generalize d/(B+1)^k%(B+1)=y at *;lia)⟩
  .have:=p4 c k;have:=p4 d k;show(((c/(B+1)^k%(B+1):Nat):Int)-((d/(B+1)^k%(B+1):Nat):Int)).natAbs<=B;omega
  .rw[Ui (g:=λk=>((c/(B+1)^k%(B+1):Nat):Int)*C k l-((d/(B+1)^k%(B+1):Nat):Int)*C k l) λk _=>Int.sub_mul _ _ _,adw,eq l hl c aO d (aJ _ aO)];exact Int.sub_self _
 |[_],_,_,_,ln=>exact absurd ln wp
 |[],_,_,_,ln=>exact absurd ln wp
structure gK(A:Nat->Nat->Int)(b:Nat->Int)(m wd:Nat)(R:Nat->Nat->Rat)(p:Nat)(pv s:Nat->Nat):Prop where
 pm:p<=m
 sm:∀i,i<m->s i<m
 pw:∀l,l<p->pv l<wd
 unit:∀i l,i<m->l<p->R i (pv l)=if i=l then 1 else 0
 dec:∀i j,i<m->j<wd->(A (s i) j:Rat)=(if i<p then 0 else(b (s i):Rat)*R i j)+sg (λl=>(A (s i) (pv l):Rat)*R l j) p
 ind:∀ay:Nat->Rat,(∀j,j<wd->sg (λk=>ay k*(A (s k) j:Rat)) p=0)->∀k,k<p->ay k=0
section
variable{A:Nat->Nat->Int}{b:Nat->Int}{m wd p:Nat}{R:Nat->Nat->Rat}{pv s:Nat->Nat}
def gK.comb(h:gK A b m wd R p pv s)(ay:Nat->Rat){j:Nat}(hj:j<wd):sg (λk=>ay k*(A (s k) j:Rat)) p=sg (λl=>sg (λk=>ay k*(A (s k) (pv l):Rat)) p*R l j) p:=by
 have pm:=h.pm;rw[bV (g:=λk=>sg (λl=>ay k*(A (s k) (pv l):Rat)*R l j) p) λk hk=>?_]
 .rw[I8];refine bV λl hl=>?_;rw[bV (g:=λk=>R l j*(ay k*(A (s k) (pv l):Rat))) λk _=>XU _ _,fH,XU]
 .rw[h.dec k j (aR hk pm) hj,ZY hk,Rat.zero_add,<- fH];exact bV λl _=>(Rat.mul_assoc _ _ _).symm
def jd{x:Int}(h:x≠0):(x:Rat)≠0:=λz=>h (Rat.intCast_inj.mp (z.trans Rat.intCast_zero.symm))
def ang{m q:Nat}(hN:1<=N)(hq:q+1<=m):(2*(q+1)*N)^(q+1)<=(2*m*N)^m:=by
 have x:2*(q+1)*N<=2*m*N:=W1 wf (aG N);have y:1<=2*m*N:=W1 (show 1<=2*m by lia) hN;exact aL (Nat.pow_le_pow_left x _) (XT y hq)
def afl{m q:Nat}(hN:1<=N)(hq:q+1<=m):(q+1)*((2*(q+1)*N)^q*N)<=(2*m*N)^m:=by
 refine aL ?_ (ang hN hq);have e:(2*(q+1)*N)^(q+1)=2*((q+1)*((2*(q+1)*N)^q*N)):=by
  rw[Nat.pow_succ];ac_rfl
 lia
def gK.bound(h:gK A b m wd R p pv s)(hN:1<=N)(hA:∀i j,i<m->j<wd->(A i j).natAbs<=N)(hb:∀i,i<m->0<b i/\(b i).natAbs<=N){i:Nat}(hi:i<m) :
    ∃(v:Nat->Int)(u:Int),u≠0/\u.natAbs<=(2*m*N)^m/\(∀j,j<wd->(v j).natAbs<=(2*m*N)^m)/\∀j,j<wd->R i j*(u:Rat)=(v j:Rat):=by
  have pm:=h.pm;by_cases ip:i<p
  . obtain⟨q,rfl⟩ : ∃q,p=q+1:=⟨p-1,by lia⟩
    obtain⟨ay,⟨k0,kq,jS⟩,bl,zr⟩:=ab4 (p:=q) (C:=λk l=>A (s k) (if l<i then pv l else pv (l+1))) hN λk l hk hl=>by
      refine hA _ _ (h.sm k wf) ?_;by_cases e:l<i
      . rw[ZY e];exact h.pw l (WU _ hl)
      . rw[ZZ e];exact h.pw (l+1) (Nat.succ_lt_succ hl)
    have cast:∀j,((sz (λk=>ay k*A (s k) j) (q+1):Int):Rat)=sg (λk=>(ay k:Rat)*(A (s k) j:Rat)) (q+1):=λj=>by
      rw[Rt];exact bV λk _=>XV _ _
    have zl:∀l,l<q+1->l≠i->sz (λk=>ay k*A (s k) (pv l)) (q+1)=0:=λl hl ne=>by
      by_cases e:l<i
      . have:=zr l (aR e (UZ ip))
        rw[ZY e]at this;exact this
      . have:=zr (l-1) (by omega)
        rw[ZZ wf,show l-1+1=l by lia]at this;exact this
    have ce:∀j,j<wd->((sz (λk=>ay k*A (s k) j) (q+1):Int):Rat)=((sz (λk=>ay k*A (s k) (pv i)) (q+1):Int):Rat)*R i j:=λj hj=>by
      rw[cast,h.comb (λk=>(ay k:Rat)) hj,bV (g:=λl=>(if l=i then 1 else 0)*(((sz (λk=>ay k*A (s k) (pv i)) (q+1):Int):Rat)*R l j)) λl hl=>?_,gA,ZY ip];rw[<- cast (pv l)];by_cases e:l=i
      . rw[ZY e,e,Rat.one_mul]
      . rw[ZZ e,zl l hl e,Rat.intCast_zero];grind
    refine⟨λj=>sz (λk=>ay k*A (s k) j) (q+1),sz (λk=>ay k*A (s k) (pv i)) (q+1),λz=>?_,?_,λj hj=>?_,λj hj=>?_⟩
    . have:=h.ind (λk=>(ay k:Rat)) (λj hj=>by
        rw[<- cast,ce j hj,z,Rat.intCast_zero];grind) k0 (Y3 kq (X1 _))
      exact jd jS this
    . exact aL (Mi λk hk=>by rw[VZ];exact W1 (bl k) (hA _ _ (h.sm k (aR hk pm)) (h.pw i ip))) (afl hN (by omega))
    . exact aL (Mi λk hk=>by rw[VZ];exact W1 (bl k) (hA _ _ (h.sm k (aR hk pm)) hj)) (afl hN (by omega))
    . rw[ce j hj,XU]
  . obtain⟨ay,⟨k0,kq,jS⟩,bl,zr⟩:=ab4 (p:=p) (C:=λk l=>A (s (if k<p then k else i)) (pv l)) hN λk l hk hl=>by
      refine hA _ _ (h.sm _ ?_) (h.pw l hl);by_cases e:k<p
      . rw[ZY e];exact aR e pm
      . rwa[ZZ e]
    have cast:∀j,((sz (λk=>ay k*A (s (if k<p then k else i)) j) (p+1):Int):Rat)=sg (λk=>(ay k:Rat)*(A (s k) j:Rat)) p+(ay p:Rat)*(A (s i) j:Rat):=λj=>by
      rw[Rt];show sg _ p+((ay p*A (s (if p<p then p else i)) j:Int):Rat)=_;rw[ZZ (X9 _),XV,bV (g:=λk=>(ay k:Rat)*(A (s k) j:Rat)) λk hk=>by rw[ZY hk,XV]]
    have ce:∀j,j<wd->((sz (λk=>ay k*A (s (if k<p then k else i)) j) (p+1):Int):Rat)=((ay p*b (s i):Int):Rat)*R i j:=λj hj=>by
      have e0:sg (λl=>sg (λk=>(ay k:Rat)*(A (s k) (pv l):Rat)) p*R l j) p+(ay p:Rat)*sg (λl=>(A (s i) (pv l):Rat)*R l j) p=0:=by
        rw[<- fH,<- gw,bV (g:=λ_=>0) λl hl=>?_,fQ];have:=cast (pv l);rw[zr l hl,Rat.intCast_zero]at this
        calc _=(sg (λk=>(ay k:Rat)*(A (s k) (pv l):Rat)) p+(ay p:Rat)*(A (s i) (pv l):Rat))*R l j:=by grind
          _=0:=by rw[<- this];grind
      rw[cast,h.comb (λk=>(ay k:Rat)) hj,h.dec i j hi hj,ZZ ip,XV]
      grind
    have bp:=hb _ (h.sm i hi);have lp:ay p≠0:=λz=>by
      have kp:k0<p:=by
        by_cases e:k0=p
        . rw[e,z]at jS;exact absurd rfl jS
        . exact XX kq e
      have:=h.ind (λk=>(ay k:Rat)) (λj hj=>by
        have c:=cast j;rw[ce j hj,z,Int.zero_mul,Rat.intCast_zero]at c
        grind) k0 kp
      exact jd jS this
    refine⟨λj=>sz (λk=>ay k*A (s (if k<p then k else i)) j) (p+1),ay p*b (s i),λz=>?_,?_,λj hj=>?_,λj hj=>?_⟩
    . rcases Int.mul_eq_zero.mp z with y|y
      . exact lp y
      . lia
    . rw[VZ]
      refine aL (W1 (bl p) bp.2) (aL ?_ (afl hN (show p+1<=m by lia)));exact Zyy _ (Th p)
    . exact aL (Mi λk hk=>by
        rw[VZ];refine W1 (bl k) (hA _ _ (h.sm _ ?_) hj);by_cases e:k<p
        . rw[ZY e];exact aR e pm
        . rwa[ZZ e]) (afl hN (show p+1<=m by lia))
    . rw[ce j hj,XU]
def gK.congr(h:gK A b m wd R p pv s)(e:∀i j,i<m->R i j=R' i j):gK A b m wd R' p pv s:=by
 have pm:=h.pm;refine⟨h.pm,h.sm,h.pw,λi l hi hl=>by rw[<- e i _ hi];exact h.unit i l hi hl,λi j hi hj=>?_,h.ind⟩;rw[h.dec i j hi hj,e i j hi,bV λl hl=>by rw[e l j (aR hl pm)]]
def gK.zero(hb:∀i,i<m->0<b i):gK A b m wd (λi j=>(A i j:Rat)/(b i:Rat)) 0 pv id:=by
 refine⟨aZ _,λi hi=>hi,λl hl=>absurd hl (WV _),λi l _ hl=>absurd hl (WV _),λi j hi hj=>?_,λay _ k hk=>absurd hk (WV _)⟩;rw[ZZ (WV _)];have:=jd (WS (hb i hi));show(A i j:Rat)=(b i:Rat)*((A i j:Rat)/(b i:Rat))+0
 grind
def sw(p q x:Nat):Nat:=if x=p then q else if x=q then p else x
def gK.swap(h:gK A b m wd R p pv s){q:Nat}(hp:p<=q)(hq:q<m)(hR:∀i j,i<m->j<wd->R' i j=R (sw p q i) j):gK A b m wd R' p pv (λi=>s (sw p q i)):=by
 have pm:=h.pm;have sl:∀l,l<p->sw p q l=l:=λl hl=>by unfold sw;rw[ZZ (aQ hl),ZZ wf]
 have sm:∀i,i<m->sw p q i<m:=λi hi=>by
  unfold sw;split
  .exact hq
  .split<;>omega
 have sp:∀i,(sw p q i<p)↔i<p:=λi=>by
  unfold sw;split
  .lia
  .split<;>lia
 refine⟨pm,λi hi=>h.sm _ (sm i hi),h.pw,λi l hi hl=>?_,λi j hi hj=>?_,λay hz=>?_⟩
 .rw[hR i _ hi (h.pw l hl),h.unit _ l (sm i hi) hl];by_cases e:i=l
  .rw[ZY e,e,ZY (sl l hl)]
  .rw[ZZ e,ZZ λz=>e ?_];have:i<p:=(sp i).mp (Y3 (WH z) hl);rw[<- z,sl i this]
 .rw[h.dec _ j (sm i hi) hj,hR i j hi hj]
  congr 1
  .by_cases e:i<p
   .rw[ZY e,ZY ((sp i).mpr e)]
   .rw[ZZ e,ZZ λz=>e ((sp i).mp z)]
  .exact bV λl hl=>by rw[hR l j (aR hl pm) hj,sl l hl]
 .exact h.ind ay λj hj=>by
   rw[<- hz j hj];exact bV λk hk=>by rw[sl k hk]
def gK.pivot(h:gK A b m wd R p pv s)(hp:p<m)(hb:∀i,i<m->0<b i){c:Nat}(hc:c<wd)(h0:R p c≠0)(ng:∀j,j<wd->R' p j*R p c=R p j)(nX:∀i j,i<m->i≠p->j<wd->R' i j=R i j-R i c*R' p j) :
  gK A b m wd R' (p+1) (λl=>if l=p then c else pv l) s:=by
 have pm:=h.pm;have one:R' p c=1:=by
  have:=ng c hc
  grind
 have zp:∀l,l<p->R' p (pv l)=0:=λl hl=>by
  have:=ng (pv l) (h.pw l hl);rw[h.unit p l hp hl,ZZ (UY hl)]at this
  grind
 have pvl:∀l,l<p->(if l=p then c else pv l)=pv l:=λl hl=>ZZ (aQ hl);have old:∀i j,i<m->i≠p->j<wd->R i j=R' i j+R i c*R' p j:=λi j hi ne hj=>by rw[nX i j hi ne hj];grind
 have dec:∀i j,i<m->j<wd->(A (s i) j:Rat)=(if i<p+1 then 0 else(b (s i):Rat)*R' i j)+sg (λl=>(A (s i) (if l=p then c else pv l):Rat)*R' l j) (p+1):=λi j hi hj=>by
  have dj:=h.dec i j hi hj;have dc:=h.dec i c hi hc;have ej:sg (λl=>(A (s i) (pv l):Rat)*R l j) p=sg (λl=>(A (s i) (pv l):Rat)*R' l j) p+R' p j*sg (λl=>(A (s i) (pv l):Rat)*R l c) p:=by
   rw[<- fH,<- gw];exact bV λl hl=>by rw[old l j (U2 hl hp) (aQ hl) hj];grind
  rw[ej]at dj;show _=_+(sg _ p+(A (s i) (if p=p then c else pv p):Rat)*R' p j);rw[ZY rfl,bV (g:=λl=>(A (s i) (pv l):Rat)*R' l j) λl hl=>by rw[pvl l hl]];by_cases e:i<p
  .rw[ZY (WU _ e)];rw[ZY e]at dj dc
   grind
  .rw[ZZ e]at dj dc;by_cases e2:i=p
   .rw[ZY wf];subst e2;have:=ng j hj
    grind
   .rw[ZZ wf];have:=old i j hi e2 hj
    grind
 refine⟨hp,h.sm,λl hl=>?_,λi l hi hl=>?_,dec,λay hz=>?_⟩
 .by_cases e:l=p
  .show(if l=p then c else pv l)<wd;rwa[ZY e]
  .show(if l=p then c else pv l)<wd;rw[ZZ e];exact h.pw l (XX (UZ hl) e)
 .show R' i (if l=p then c else pv l)=_;by_cases e:l=p
  .rw[ZY e,e];by_cases ip:i=p
   .rw[ZY ip,ip];exact one
   .rw[ZZ ip,nX i c hi ip hc,one];grind
  .rw[ZZ e];have ko:l<p:=by exact XX (UZ hl) e
   by_cases ip:i=p
   .rw[ip,zp l ko,ZZ (Ne.symm e)]
   .rw[nX i _ hi ip (h.pw l ko),zp l ko,h.unit i l hi ko];grind
 .have lp:ay p=0:=by
   by_cases z:ay p=0
   .exact z
   .exfalso

    have hj:∀j,j<wd->sg (λk=>ay k*(A (s k) j:Rat)) p=-(ay p*(A (s p) j:Rat)):=λj hj=>by
     have:sg (λk=>ay k*(A (s k) j:Rat)) p+ay p*(A (s p) j:Rat)=0:=hz j hj
     grind
    have de:=h.comb ay hc;rw[hj c hc,bV (g:=λl=>-(ay p)*((A (s p) (pv l):Rat)*R l c)) λl hl=>by rw[hj _ (h.pw l hl)];grind,fH]at de;have dc:=h.dec p c hp hc;rw[ZZ (X9 p)]at dc;have b0:=jd (WS (hb _ (h.sm p hp)));have:ay p*((b (s p):Rat)*R p c)=0:=by rw[dc]at de;grind
    grind
  intro k hk;by_cases e:k=p
  .rw[e];exact lp
  .refine h.ind ay (λj hj=>?_) k (XX (UZ hk) e);have:sg (λk=>ay k*(A (s k) j:Rat)) p+ay p*(A (s p) j:Rat)=0:=hz j hj;rw[lp]at this
   grind
end
def vr(r:List Int×Int)(j:Nat):Rat:=((r.1.getD j 0:Int):Rat)/(r.2:Rat)
def Og{f:Int->Int}(h0:f 0=0)(xs:xy)(j:Nat):(xs.map f).getD j 0=f (xs.getD j 0):=by
 rw[au,au,aq];cases xs[j]? with
 |none=>exact h0.symm
 |some t=>rfl
theorem pW{r:List Int×Int}(h:0<r.2)(j:Nat):vr (jm r) j=vr r j:=by
 have g0:=iG (ts:=r.1) h;obtain⟨d1,d2⟩:=iJ (ts:=r.1) (b:=r.2);have e1:(jm r).1.getD j 0=r.1.getD j 0/gcL r.1 r.2:=Og (f:=λt=>t/gcL r.1 r.2) (Int.zero_ediv _) r.1 j;have d3:gcL r.1 r.2 ∣ r.1.getD j 0:=by
  rw[au];cases e:r.1[j]? with
  |none=>exact⟨0,by rw[Int.mul_zero];rfl⟩
  |some t=>exact d2 t (aC e)
 have e2:(jm r).2=r.2/gcL r.1 r.2:=rfl;unfold vr;rw[e1,e2];generalize r.1.getD j 0=t at *;generalize gcL r.1 r.2=g at *;obtain⟨u,hu⟩:=d3;obtain⟨v,hv⟩:=d1;rw[hu,hv,Zzw _ (WS g0),Zzw _ (WS g0),XV,XV];have v0:v≠0:=λz=>by rw[hv,z,Int.mul_zero]at h;lia
 have:=jd v0;have:=jd (WS g0)
 grind
def j_{r:List Int×Int}{c:Β}(h:0<r.2)(hc:0<c.2)(j:Nat):vr (jc r c) j=vr r j*((c.1:Rat)/(c.2:Rat)):=by
 have e1:(jc r c).1.getD j 0=r.1.getD j 0*c.1:=Og (f:=λt=>t*c.1) (Int.zero_mul _) r.1 j;have e2:(jc r c).2=r.2*c.2:=rfl;unfold vr;rw[e1,e2,XV,XV];have:=jd (WS h);have:=jd (WS hc)
 grind
theorem nU{r p:List Int×Int}{c:Β}(hr:0<r.2)(hp:0<p.2)(hc:0<c.2)(hl:r.1.length=p.1.length)(j:Nat):vr (oE r p c) j=vr r j+((c.1:Rat)/(c.2:Rat))*vr p j:=by
 have hB:=XZ hp hc;have g0:=aog (t:=r.2) hB;obtain⟨u,hu⟩:=Int.gcd_dvd_left r.2 (p.2*c.2);obtain⟨v,hv⟩:=Q1 r.2 (p.2*c.2);have es:oE r p c=(List.zipWith (λx y=>x*v+y*(u*c.1)) r.1 p.1,r.2*v):=by
  unfold oE;generalize((Int.gcd r.2 (p.2*c.2):Nat):Int)=g at g0 hu hv ⊢;have e1:p.2*c.2/g=v:=by rw[hv,Zzw _ (WS g0)]
  have e2:r.2/g=u:=by
   conv=>lhs;rw[hu]
   exact Zzw _ (WS g0)
  rw[e1,e2]
 generalize((Int.gcd r.2 (p.2*c.2):Nat):Int)=g at g0 hu hv;have v0:0<v:=Int.pos_of_mul_pos_right (by rwa[<- hv]) g0;have ez:(List.zipWith (λx y=>x*v+y*(u*c.1)) r.1 p.1).getD j 0=r.1.getD j 0*v+p.1.getD j 0*(u*c.1):=by
  rw[au,au,au,Zzx];by_cases e:j<r.1.length
  .rw[aj e,aj (aR e (WH hl))];rfl
  .rw[aM (VT e),aM wf];show(0:Int)=0*v+0*(u*c.1);rw[Int.zero_mul,Int.zero_mul];rfl
 rw[es];unfold vr;show((List.zipWith (λx y=>x*v+y*(u*c.1)) r.1 p.1).getD j 0:Rat)/((r.2*v:Int):Rat)=_;rw[ez];generalize r.1.getD j 0=x;generalize p.1.getD j 0=y;have hu':(r.2:Rat)=(g:Rat)*(u:Rat):=by rw[<- XV,<- hu]
 have mS:(p.2:Rat)*(c.2:Rat)=(g:Rat)*(v:Rat):=by rw[<- XV,<- XV,hv]
 have r0:=jd (WS hr);have p0:=jd (WS hp);have c0:=jd (WS hc);have q0:=jd (WS v0);have k0:=jd (WS g0);rw[Rat.intCast_add,XV,XV,XV,XV];generalize(r.2:Rat)=r2 at *;generalize(p.2:Rat)=p2 at *;generalize(c.2:Rat)=c2 at *;generalize(c.1:Rat)=c1 at *;generalize(g:Rat)=gg at *;generalize(u:Rat)=uu at *;generalize(v:Rat)=vv at *;generalize(x:Rat)=xx at *;generalize(y:Rat)=yy at *;have e1:(xx*vv+yy*(uu*c1))/(r2*vv)=xx/r2+yy*(uu*c1)/(r2*vv):=by grind
 have e2:yy*(uu*c1)/(r2*vv)=c1/c2*(yy/p2):=by
  have:uu*(c2*p2)=r2*vv:=by rw[hu',XU c2 p2,mS];grind
  grind
 rw[e1,e2]
def oh{M wd:Nat}{r:List Int×Int}(hr:0<r.2)(g:gcL r.1 r.2=1)(hw:r.1.length=wd){v:Nat->Int}{u:Int}(u0:u≠0)(ub:u.natAbs<=M)(vb:∀j,j<wd->(v j).natAbs<=M)(e:∀j,j<wd->vr r j*(u:Rat)=(v j:Rat)):Big M r:=by
 refine least (s:=((List.range wd).map λj=>v j*u.sign,u.natAbs)) hr g ⟨?_,λk a b ha hb=>?_⟩ ⟨?_,?_,λt ht=>?_⟩
 .show r.1.length=((List.range wd).map λj=>v j*u.sign).length;rw[hw,ak,WP]
 .have kw:k<wd:=by rw[<- hw];exact(ao.mp ha).1
  have hb:((List.range wd).map λj=>v j*u.sign)[k]?=some b:=hb;rw[aq,VW kw]at hb;cases hb;show a*((u.natAbs:Nat):Int)=v k*u.sign*r.2;have ek:=e k kw;unfold vr at ek;rw[au,ha]at ek;have ek:(a:Rat)/(r.2:Rat)*(u:Rat)=(v k:Rat):=ek;have r0:=jd (WS hr);have k2:a*u=v k*r.2:=by
   refine Rat.intCast_inj.mp ?_;rw[XV,XV]
   grind
  have k1:((u.natAbs:Nat):Int)=u*u.sign:=(Int.mul_sign_self u).symm;rw[k1,<- Int.mul_assoc,k2];ac_rfl
 .show(0:Int)<(u.natAbs:Nat);lia
 .show(((u.natAbs:Nat):Int)).natAbs<=M;rwa[XG]
 .obtain⟨j,hj,rfl⟩:=YV.mp ht;rw[VZ,Int.natAbs_sign_of_ne_zero u0,Nat.mul_one];exact vb j (List.mem_range.mp hj)
end Rw
namespace K29
open PySem PyProof.Rows L2
abbrev Bj:=top 10
abbrev jt:Str:="is_whole"
def Vp:bK WR gH (bG Bj):=fsc
abbrev Gk:=top 11
abbrev lA:Str:="divisor"
def Yk:bK Ob cR (bG Gk):=fsc
abbrev Pq:=top 15
abbrev pL:Str:="ratio"
def ac6:bK RB mq (bG Pq):=fsc
abbrev B_:=top 16
abbrev oM:Str:="is_ratio"
def Wi:bK BX jA (bG B_):=fsc
abbrev Wu:=top 17
abbrev Ja:Str:="plus"
def agv:bK aiM zR (bG Wu):=fsc
abbrev RM:=top 18
abbrev qI:Str:="minus"
def adg:bK agi lU (bG RM):=fsc
abbrev Tj:=top 19
abbrev El:Str:="times"
def ach:bK afc uq (bG Tj):=fsc
abbrev Xk:=top 20
abbrev Iv:Str:="over"
def afi:bK aiu z_ (bG Xk):=fsc
abbrev Qq:=top 21
abbrev uF:Str:="under"
def aei:bK afo oN (bG Qq):=fsc
abbrev Ir:=top 23
abbrev qN:Str:="level"
def abz:bK Yu mC (bG Ir):=fsc
abbrev QV:=top 24
abbrev Jl:Str:="total"
def ab6:bK Sx yF (bG QV):=fsc
abbrev Bx:=top 25
abbrev xq:Str:="greatest"
def Vo:bK Ci oH (bG Bx):=fsc
abbrev pA:=top 27
abbrev sE:Str:="first_plan"
def MF:bK vI kO (bG pA):=fsc
abbrev QH:=top 28
abbrev Ed:Str:="fits"
def YS:bK Yi vU (bG QH):=fsc
abbrev o_:=top 29
abbrev eZ:Str:="check_plan"
def Ax:bK vG dN (bG o_):=fsc
abbrev j9:=top 30
abbrev qw:Str:="behind_door"
def Lw:bK kj jr (bG j9):=fsc
abbrev sZ:=top 31
abbrev lX:Str:="raised_look"
def K7:bK Aw gR (bG sZ):=fsc
abbrev IK:=top 32
abbrev Ez:Str:="looks"
def acX:bK Qs uh (bG IK):=fsc
abbrev Em:=top 34
abbrev zO:Str:="lowest"
def aaI:bK T4 pI (bG Em):=fsc
abbrev qZ:=top 35
abbrev uH:Str:="row_times"
def Tp:bK yJ mJ (bG qZ):=fsc
abbrev vN:=top 36
abbrev yw:Str:="row_plus"
def G_:bK Bh oJ (bG vN):=fsc
abbrev wQ:=top 37
abbrev uI:Str:="take_step"
def Rj:bK xX lZ (bG wQ):=fsc
abbrev yX:=top 38
abbrev pF:Str:="number_at"
def Qc:bK yx jT (bG yX):=fsc
abbrev jo:=top 39
abbrev oO:Str:="fractions_of"
def Ii:bK jB iQ (bG jo):=fsc
abbrev uK:=top 40
abbrev tK:Str:="first_from"
def Ng:bK DK kE (bG uK):=fsc
abbrev Rf:=top 41
abbrev CG:Str:="go_on"
def adY:bK RP uw (bG Rf):=fsc
abbrev yj:=top 42
abbrev vq:Str:="begin_row"
def Ql:bK G6 lW (bG yj):=fsc
abbrev pP:=top 43
abbrev oU:Str:="clear_column"
def HY:bK zy iR (bG pP):=fsc
abbrev Ab:=top 44
abbrev BL:Str:="reduced"
def JC:bK Gi qR (bG Ab):=fsc
abbrev Bg:=top 46
abbrev yC:Str:="width_of"
def Vx:bK W9 oG (bG Bg):=fsc
abbrev nY:=top 47
abbrev qg:Str:="with_rights"
def K8:bK su jh (bG nY):=fsc
abbrev rE:=top 48
abbrev uU:Str:="begins_of"
def Er:bK yK mQ (bG rE):=fsc
abbrev FQ:=top 49
abbrev BR:Str:="odd_row"
def W0:bK Gd qU (bG FQ):=fsc
abbrev xZ:=top 50
abbrev vH:Str:="answer_of"
def Qe:bK G5 mL (bG xZ):=fsc
abbrev j8:=top 51
abbrev qG:Str:="single_rows"
def KQ:bK jZ jj (bG j8):=fsc
abbrev rY:=top 52
abbrev mV:Str:="only_answer"
def Kc:bK Aq gY (bG rY):=fsc
abbrev mW:=top 54
abbrev kW:Str:="chosen_doors"
def Ie:bK qL gB (bG mW):=fsc
abbrev yV:=top 55
abbrev pG:Str:="left_rows"
def Tz:bK GP jU (bG yV):=fsc
abbrev wL:=top 56
abbrev Gp:Str:="turned"
def aar:bK xG ux (bG wL):=fsc
abbrev q_:=top 57
abbrev pH:Str:="worths_of"
def Dd:bK yW jN (bG q_):=fsc
abbrev nR:=top 58
abbrev qP:Str:="visits_from"
def zj:bK sH jq (bG nR):=fsc
abbrev sJ:=top 60
abbrev qT:Str:="better_door"
def JD:bK rT jC (bG sJ):=fsc
abbrev Eu:=top 61
abbrev Gq:Str:="mended"
def O6:bK Ln tX (bG Eu):=fsc
abbrev Cd:=top 62
abbrev xY:Str:="mendings"
def U6:bK Bw oF (bG Cd):=fsc
abbrev Gv:=top 63
abbrev qH:Str:="best_of"
def X7:bK aaR lg (bG Gv):=fsc
abbrev uT:=top 65
abbrev ou:Str:="lacks_of"
def GZ:bK JQ jE (bG uT):=fsc
abbrev zU:=top 68
abbrev pN:Str:="is_word"
def Xc:bK FJ lB (bG zU):=fsc
abbrev uR:=top 70
abbrev n_:Str:="check_head"
def M_:bK vQ iV (bG uR):=fsc
abbrev mO:=top 71
abbrev iH:Str:="check_room_name"
def Bc:bK Et eY (bG mO):=fsc
abbrev qM:=top 72
abbrev kY:Str:="check_chance"
def Ih:bK JH gC (bG qM):=fsc
abbrev nM:=top 73
abbrev qu:Str:="check_pairs"
def Ml:bK rW jy (bG nM):=fsc
abbrev n8:=top 74
abbrev p8:Str:="joined_ways"
def Ma:bK Aj ji (bG n8):=fsc
abbrev tV:=top 81
abbrev qd:Str:="check_share"
def Kh:bK M4 jw (bG tV):=fsc
abbrev vd:=top 82
abbrev tL:Str:="numbers_of"
def Ny:bK uJ kh (bG vd):=fsc
abbrev oR:=top 83
abbrev nH:Str:="numbered_ways"
def GJ:bK vX g_ (bG oR):=fsc
abbrev xO:=top 84
abbrev vR:Str:="offers_of"
def RZ:bK G3 mH (bG xO):=fsc
abbrev Wq:=top 87
abbrev IV:Str:="_law_cell"
def aeE:bK Xq z6 (bG Wq):=fsc
abbrev Jt:=top 88
abbrev iZ:Str:="_law_stream"
def aaj:bK VD fB (bG Jt):=fsc
abbrev acU:=top 89
abbrev SQ:Str:="_law_gcd"
def adI:bK agN wR (bG acU):=fsc
abbrev JT:=top 90
abbrev t_:Str:="_law_ratio"
def aaE:bK Ut nu (bG JT):=fsc
abbrev xT:=top 91
abbrev uQ:Str:="_law_is_ratio"
def Rm:bK xg lO (bG xT):=fsc
abbrev pB:=top 92
abbrev nQ:Str:="_law_are_ratios"
def Nt:bK vV iW (bG pB):=fsc
abbrev s_same:=top 93
abbrev I_:Str:="_law_same"
def agg:bK ai2 zP (bG s_same):=fsc
abbrev Aa:=top 94
abbrev LK:Str:="_law_names"
def ad7:bK vg wI (bG Aa):=fsc
abbrev Sw:=top 95
abbrev Jj:Str:="_law_share"
def adB:bK Zo zq (bG Sw):=fsc
abbrev adb:=top 96
abbrev Xe:Str:="_law_pay"
def ai1:bK ag9 Mh (bG adb):=fsc
abbrev Ce:=top 97
abbrev Ry:Str:="_law_door"
def S6:bK uO Cu (bG Ce):=fsc
abbrev Jf:=top 98
abbrev KJ:Str:="_law_doors"
def U4:bK Zt yL (bG Jf):=fsc
abbrev Dp:=top 99
abbrev JG:Str:="_law_built"
def Vn:bK DR zE (bG Dp):=fsc
abbrev QD:=top 100
abbrev RD:Str:="_law_hall"
def agc:bK XF Ef (bG QD):=fsc
abbrev KN:=top 101
abbrev FZ:Str:="_law_chosen"
def aat:bK T_ uy (bG KN):=fsc
abbrev XQ:=top 102
abbrev Tv:Str:="_law_look"
def afG:bK abn EY (bG XQ):=fsc
abbrev WX:=top 103
abbrev Qy:Str:="_law_size"
def agG:bK Yg Cr (bG WX):=fsc
abbrev Sh:=top 104
abbrev Kp:Str:="_law_right"
def abV:bK Yp yM (bG Sh):=fsc
abbrev adp:=top 105
abbrev WY:Str:="_law_sum"
def ajh:bK agW K9 (bG adp):=fsc
abbrev adt:=top 106
abbrev Xo:Str:="_law_odd"
def ahG:bK alv Jq (bG adt):=fsc
abbrev Jp:=top 107
abbrev Gx:Str:="_law_spoilt"
def aap:bK adW tZ (bG Jp):=fsc
abbrev Gg:=top 108
abbrev BP:Str:="_law_refused"
def JX:bK N7 pZ (bG Gg):=fsc
abbrev zH:=top 109
abbrev vD:Str:="_law_plan_told"
def R6:bK Hj lQ (bG zH):=fsc
abbrev Zx:=top 110
abbrev Ws:Str:="law"
def Xh:bK anp R4 (bG Zx):=fsc
abbrev yQ:Stmt:=gO 75 0
abbrev DQ:Str:="__init__"
abbrev Di:Str:="Door.__init__"
def Rk:bK zK jR (bG yQ):=fsc
abbrev xH:Stmt:=gO 75 1
abbrev Eo:Str:="ways"
abbrev Ej:Str:="Door.ways"
def Qu:bK U_ lY (bG xH):=fsc
abbrev wW:Stmt:=gO 76 0
abbrev Cp:Str:="__init__"
abbrev Ds:Str:="Sure.__init__"
def QF:bK yR lM (bG wW):=fsc
abbrev uN:Stmt:=gO 77 0
abbrev Ah:Str:="__init__"
abbrev Ar:Str:="Mixed.__init__"
def Nk:bK uM gM (bG uN):=fsc
abbrev yH:Stmt:=gO 78 0
abbrev Dv:Str:="__init__"
abbrev CJ:Str:="Toss.__init__"
def Pk:bK GX lN (bG yH):=fsc
abbrev rQ:Stmt:=gO 79 0
abbrev Eh:Str:="__init__"
abbrev Dy:Str:="Even.__init__"
def Sg:bK yG mj (bG rQ):=fsc
abbrev rO:Stmt:=gO 85 0
abbrev Fi:Str:="__init__"
abbrev Cw:Str:="Hall.__init__"
def RW:bK xM mR (bG rO):=fsc
abbrev wY:Stmt:=gO 85 1
abbrev DP:Str:="size"
abbrev Fj:Str:="Hall.size"
def Rh:bK Vj fW (bG wY):=fsc
abbrev mX:Stmt:=gO 85 4
abbrev qj:Str:="check_room"
abbrev qe:Str:="Hall.check_room"
def Cg:bK Ep eX (bG mX):=fsc
abbrev nZ:Stmt:=gO 85 6
abbrev wZ:Str:="offers"
abbrev yq:Str:="Hall.offers"
def Jk:bK sV dO (bG nZ):=fsc
abbrev tR:Stmt:=gO 8 0
abbrev xV:Str:="__init__"
abbrev yt:Str:="NoPlan.__init__"
def J_:bK Nq ju (bG tR):=fsc
structure Adr where
 HallError:Addr
 NoPlan:Addr
 Door:Addr
 Sure:Addr
 Mixed:Addr
 Toss:Addr
 Even:Addr
 Hall:Addr
 NOUGHT:Addr
 ONE:Addr
 Door_init:Addr
 Door_ways:Addr
 Sure_init:Addr
 Mixed_init:Addr
 Toss_init:Addr
 Even_init:Addr
 Hall_init:Addr
 Hall_size:Addr
 Hall_check_room:Addr
 Hall_offers:Addr
 NoPlan_init:Addr
structure Txt(K:Frag)(mg:Str->Ω)(D:Adr):Prop where
 abR:mg "Door"=some (.ref D.Door)
 ahr:mg "Even"=some (.ref D.Even)
 aio:mg "Hall"=some (.ref D.Hall)
 V3:mg "HallError"=some (.ref D.HallError)
 S8:mg "Mixed"=some (.ref D.Mixed)
 gZ:mg "NOUGHT"=some (.ref D.NOUGHT)
 JZ:mg "NoPlan"=some (.ref D.NoPlan)
 Dt:mg "ONE"=some (.ref D.ONE)
 ajl:mg "Sure"=some (.ref D.Sure)
 ahw:mg "Toss"=some (.ref D.Toss)
 aek:mroIn K D.NoPlan (.type "BaseException")=some true
 acM:typeIn K (.ref D.NoPlan)=some (.type "type")
 Kz:∃u,mg "LONGEST_WORD"=some u/\RelV (.int 8) u
 fY:∀H,SqT K H D.NOUGHT [.int 0,.int 1]
 uP:∀H,SqT K H D.ONE [.int 1,.int 1]
 abK:Cls K D.Door
 Sq:Meth K D.Door "ways" D.Door_ways
 MK:cg K D.Door "leads"
 R_:cg K D.Door "name"
 Ij:cg K D.Door "numbers"
 Hz:cg K D.Door "offered"
 T6:cg K D.Door "pay"
 Nr:cg K D.Door "share"
 afh:Mk K D.Sure D.Sure_init
 adN:Cls K D.Sure
 R9:Meth K D.Sure "ways" D.Door_ways
 Nz:cg K D.Sure "leads"
 Ro:cg K D.Sure "name"
 Ik:cg K D.Sure "numbers"
 Ib:cg K D.Sure "offered"
 Vv:cg K D.Sure "pay"
 Np:cg K D.Sure "share"
 abT:Mk K D.Mixed D.Mixed_init
 ZX:Cls K D.Mixed
 Nm:Meth K D.Mixed "ways" D.Door_ways
 Mj:cg K D.Mixed "leads"
 Mu:cg K D.Mixed "name"
 Gn:cg K D.Mixed "numbers"
 GF:cg K D.Mixed "offered"
 QJ:cg K D.Mixed "pay"
 Kv:cg K D.Mixed "share"
 aeC:Mk K D.Toss D.Toss_init
 abO:Cls K D.Toss
 Tf:Meth K D.Toss "ways" D.Door_ways
 M7:cg K D.Toss "leads"
 Qz:cg K D.Toss "name"
 Ig:cg K D.Toss "numbers"
 Ia:cg K D.Toss "offered"
 V0:cg K D.Toss "pay"
 M8:cg K D.Toss "share"
 afZ:Mk K D.Even D.Even_init
 aeA:Cls K D.Even
 SM:Meth K D.Even "ways" D.Door_ways
 Nj:cg K D.Even "leads"
 Qg:cg K D.Even "name"
 Hs:cg K D.Even "numbers"
 HS:cg K D.Even "offered"
 Vl:cg K D.Even "pay"
 Mq:cg K D.Even "share"
 agz:Mk K D.Hall D.Hall_init
 gG:Cls K D.Hall
 qJ:Meth K D.Hall "check_room" D.Hall_check_room
 g8:Meth K D.Hall "offers" D.Hall_offers
 mG:Meth K D.Hall "size" D.Hall_size
 MJ:cg K D.Hall "leads"
 Qx:cg K D.Hall "name"
 HW:cg K D.Hall "numbers"
 Ht:cg K D.Hall "offered"
 Ux:cg K D.Hall "pay"
 MN:cg K D.Hall "share"
 xi_NoPlan:QL K D.NoPlan D.HallError D.NoPlan_init
 xs_NoPlan:acg K D.NoPlan
 xk_NoPlan:aa4 K D.NoPlan
 hd_NoPlan:hasDictIn K D.NoPlan=true
 sm_NoPlan:mroIn K D.NoPlan (.ref D.NoPlan)=some true
 zG:cg K D.NoPlan "room"
 ib_HallError:ad5 K D.HallError
 Dh:G7 K D.Door "__init__" D.Door_init
 QK:Af K DQ Di yQ jR D.Door_init
 TQ:Af K Eo Ej xH lY D.Door_ways
 Qf:Af K Cp Ds wW lM D.Sure_init
 A_:G7 K D.Mixed "__init__" D.Mixed_init
 Ni:Af K Ah Ar uN gM D.Mixed_init
 RQ:Af K Dv CJ yH lN D.Toss_init
 PL:Af K Eh Dy rQ mj D.Even_init
 Pj:Af K Fi Cw rO mR D.Hall_init
 R7:Af K DP Fj wY fW D.Hall_size
 Bt:Af K qj qe mX eX D.Hall_check_room
 Jh:Af K wZ yq nZ dO D.Hall_offers
 Mg:Af K xV yt tR ju D.NoPlan_init
 VJ:mg "abs"=none
 ag2:mg "all"=none
 W8:mg "bool"=none
 iu:mg "enumerate"=none
 acC:mg "int"=none
 d_:mg "isinstance"=none
 dJ:mg "len"=none
 vP:mg "list"=none
 fM:mg "range"=none
 abf:mg "sorted"=none
 ajP:mg "str"=none
 ab1:mg "sum"=none
 Q8:mg "tuple"=none
 Wb:mg "zip"=none
 WK:cH K mg jt Bj gH
 Z4:cH K mg lA Gk cR
 aeZ:cH K mg pL Pq mq
 Xa:cH K mg oM B_ jA
 ai6:cH K mg Ja Wu zR
 agf:cH K mg qI RM lU
 agk:cH K mg El Tj uq
 aiZ:cH K mg Iv Xk z_
 afS:cH K mg uF Qq oN
 aeF:cH K mg qN Ir mC
 f_total:cH K mg Jl QV yF
 W5:cH K mg xq Bx oH
 Qk:cH K mg sE pA kO
 adH:cH K mg Ed QH vU
 Eb:cH K mg eZ o_ dN
 Nv:cH K mg qw j9 jr
 Mp:cH K mg lX sZ gR
 afg:cH K mg Ez IK uh
 aes:cH K mg zO Em pI
 Wf:cH K mg uH qZ mJ
 W6:cH K mg yw vN oJ
 Ul:cH K mg uI wQ lZ
 Uw:cH K mg pF yX jT
 JV:cH K mg oO jo iQ
 S_:cH K mg tK uK kE
 agF:cH K mg CG Rf uw
 Wj:cH K mg vq yj lW
 K_:cH K mg oU pP iR
 aau:cH K mg BL Ab qR
 WT:cH K mg yC Bg oG
 Nx:cH K mg qg nY jh
 Vk:cH K mg uU rE mQ
 Z1:cH K mg BR FQ qU
 Wm:cH K mg vH xZ mL
 NQ:cH K mg qG j8 jj
 M5:cH K mg mV rY gY
 Kr:cH K mg kW mW gB
 Uv:cH K mg pG yV jU
 abw:cH K mg Gp wL ux
 Uq:cH K mg pH q_ jN
 Mz:cH K mg qP nR jq
 N5:cH K mg qT sJ jC
 adh:cH K mg Gq Eu tX
 Ww:cH K mg xY Cd oF
 aa5:cH K mg qH Gv lg
 Lx:cH K mg ou uT jE
 aaN:cH K mg pN zU lB
 Rq:cH K mg n_ uR iV
 Cz:cH K mg iH mO eY
 Jv:cH K mg kY qM gC
 MP:cH K mg qu nM jy
 Mr:cH K mg p8 n8 ji
 NK:cH K mg qd tV jw
 Tn:cH K mg tL vd kh
 HD:cH K mg nH oR g_
 V1:cH K mg vR xO mH
 aiW:cH K mg IV Wq z6
 ada:cH K mg iZ Jt fB
 anY:cH K mg SQ acU wR
 ad6:cH K mg t_ JT nu
 VG:cH K mg uQ xT lO
 Qi:cH K mg nQ pB iW
 ajt:cH K mg I_ s_same zP
 afB:cH K mg LK Aa wI
 ae5:cH K mg Jj Sw zq
 alL:cH K mg Xe adb Mh
 aju:cH K mg Ry Ce Cu
 afD:cH K mg KJ Jf yL
 agq:cH K mg JG Dp zE
 aiO:cH K mg RD QD Ef
 ade:cH K mg FZ KN uy
 f_look:cH K mg Tv XQ EY
 aiR:cH K mg Qy WX Cr
 afA:cH K mg Kp Sh yM
 alg:cH K mg WY adp K9
 ajG:cH K mg Xo adt Jq
 ac7:cH K mg Gx Jp tZ
 aa8:cH K mg BP Gg pZ
 Vg:cH K mg vD zH lQ
def Fam(D:Adr)(C:Addr):Prop:=C=D.Door\/C=D.Sure\/C=D.Mixed\/C=D.Toss\/C=D.Even\/C=D.Hall
variable{D:Adr}{c r s:Rat}{b y:Nat->Rat}{a:Int}{i j m n k wd N A M mo PN PD CQ:Nat}{x:Str}{ws ps:zC}{α:Type}{E:DT}{o:zI}{ae:wv}{pl:ze}{ys zs:xj}{H:Hp}{ns:Φ}
def Txt.cl{K:Frag}{mg:Str->Ω}(T:Txt K mg D):∀C,Fam D C->Cls K C:=by
 rintro C (rfl|rfl|rfl|rfl|rfl|rfl)
 .exact T.abK
 .exact T.adN
 .exact T.ZX
 .exact T.abO
 .exact T.aeA
 .exact T.gG
def Txt.CW{K:Frag}{mg:Str->Ω}(T:Txt K mg D):∀C,Fam D C->cg K C "leads":=by
 rintro C (rfl|rfl|rfl|rfl|rfl|rfl)
 .exact T.MK
 .exact T.Nz
 .exact T.Mj
 .exact T.M7
 .exact T.Nj
 .exact T.MJ
def Txt.Iz{K:Frag}{mg:Str->Ω}(T:Txt K mg D):∀C,Fam D C->cg K C "name":=by
 rintro C (rfl|rfl|rfl|rfl|rfl|rfl)
 .exact T.R_
 .exact T.Ro
 .exact T.Mu
 .exact T.Qz
 .exact T.Qg
 .exact T.Qx
def Txt.Bk{K:Frag}{mg:Str->Ω}(T:Txt K mg D):∀C,Fam D C->cg K C "numbers":=by
 rintro C (rfl|rfl|rfl|rfl|rfl|rfl)
 .exact T.Ij
 .exact T.Ik
 .exact T.Gn
 .exact T.Ig
 .exact T.Hs
 .exact T.HW
def Txt.Kl{K:Frag}{mg:Str->Ω}(T:Txt K mg D):∀C,Fam D C->cg K C "offered":=by
 rintro C (rfl|rfl|rfl|rfl|rfl|rfl)
 .exact T.Hz
 .exact T.Ib
 .exact T.GF
 .exact T.Ia
 .exact T.HS
 .exact T.Ht
def Txt.adV{K:Frag}{mg:Str->Ω}(T:Txt K mg D):∀C,Fam D C->cg K C "pay":=by
 rintro C (rfl|rfl|rfl|rfl|rfl|rfl)
 .exact T.T6
 .exact T.Vv
 .exact T.QJ
 .exact T.V0
 .exact T.Vl
 .exact T.Ux
def Txt.Fe{K:Frag}{mg:Str->Ω}(T:Txt K mg D):∀C,Fam D C->cg K C "share":=by
 rintro C (rfl|rfl|rfl|rfl|rfl|rfl)
 .exact T.Nr
 .exact T.Np
 .exact T.Kv
 .exact T.M8
 .exact T.Mq
 .exact T.MN
def dW(D:Adr)(C:Addr):Prop:=C=D.Door\/C=D.Sure\/C=D.Mixed\/C=D.Toss\/C=D.Even
def dW.fam{C:Addr}(h:dW D C):Fam D C:=by
 unfold dW at h;unfold Fam;rcases h with h|h|h|h|h<;>simp[h]
def Txt.Qo{K:Frag}{mg:Str->Ω}(T:Txt K mg D):∀C,dW D C->Meth K C "ways" D.Door_ways:=by
 rintro C (rfl|rfl|rfl|rfl|rfl)
 .exact T.Sq
 .exact T.R9
 .exact T.Nm
 .exact T.Tf
 .exact T.SM
class Bs where
 P:Program
 w:World
 K:Frag
 mg:Str->Ω
 base:Heap
section
open Bs (P w K mg base)
abbrev gT[Bs](k:Nat)(x:Str)(ps:Φ)(S:ST):Prop:=OkT P w K mg base k x ps S
abbrev gI[Bs](k:Nat)(a:Addr)(ps:Φ)(S:ST):Prop:=OkI P w K mg base CX0 k a ps (spT K S)
abbrev FT[Bs](k:Nat)(f:Addr)(fd:FuncData)(ps:Φ)(S:ST):Prop:=fL P w K mg base CX0 k f fd ps (spT K S)
abbrev Fu[Bs](n:Str)(s:Stmt)(f:Addr)(fd:FuncData):Prop:=Fun K n n s f fd
abbrev Tx[Bs](D:Adr):Prop:=Txt K mg D
variable[Bs]{D:Adr}{f:Addr}{fd:FuncData}
def ya{k:Nat}{n:Str}{st:Stmt}{ps:Φ}{sp:Sp}(h:cH K mg n st ps)(g:∀{f fd},Fun K n n st f fd->fL P w K mg base CX0 k f fd ps sp):OkF P w K mg base k n ps sp:=h.ok λ_ _=>g
def ye{X:CXT}{k:Nat}{n m:Str}{st:Stmt}{ps:Φ}{f:Addr}{sp:Sp}(h:Af K n m st ps f)(g:∀{fd},Fun K n m st f fd->fL P w K mg base X k f fd ps sp):OkI P w K mg base X k f ps sp:=h.ok λ_=>g
def yf{k:Nat}{n:Str}{st:Stmt}{ps:Φ}{sp:Sp}(h:cH K mg n st ps)(g:∀{f fd},Fun K n n st f fd->fL P w K mg base (CXO P w) k f fd ps sp):OkX P w K mg base k n ps sp:=h.okX λ_ _=>g
abbrev frT(f:Β):T:=.tup [.int f.1,.int f.2]
def isW:T->xN
 |.int _=>some true
 |.bl _=>some false
 |.non=>some false
 |.str _=>some false
 |.tup _=>some false
 |.lst _=>some false
 |_=>none
def lG:ST:=λts q=>∃t b,ts=[t]/\isW t=some b/\q (.fz (.bl b))
def U0(T:Tx D):gT 1 jt gH lG:=ya T.WK λF=>by
 refine F.okT Vp (λ_ _=>bH (bO (Ca (pU .int wr T.d_ T.acC boot_int) (Gr (abp (pU .bool wr T.d_ T.W8 boot_bool)))))) ?_;rintro _ R ⟨t,b,rfl,h,q⟩;cases t<;>cases h<;>exact q
def nF:ST:=λts q=>∃a b,ts=[.int a,.int b]/\q (.fz (.int (Int.gcd a b)))
def Xn(T:Tx D):gT 1 lA cR nF:=ya T.Z4 λF=>by
 refine F.okT Yk (λhr _=>bF (bN 2 (bR Lf T.VJ boot_abs (bx wr bC)))
  (bF (bN 3 (bR Lf T.VJ boot_abs (bx wn bC)))
  (bF (JL (bY (mY hr.units) wa bA)
  (bF (bN 4 (bL cA we wa))
  (bF (bN 2 wa)
  (bH (bN 3 wP)))))
  (bH (bO we))))) ?_
 rintro _ R ⟨a,b,rfl,q⟩;refine⟨λm o=>∃(l r:Nat)(x:OT),o=[.fz (.int a),.fz (.int b),.fz (.int l),.fz (.int r),x]/\Nat.gcd l r=Int.gcd a b/\m=r,⟨_,_,_,_,rfl,rfl,rfl⟩,?_⟩;rintro m _ ⟨l,r,x,rfl,hg,hm⟩;refine sw2 (λh=>?_) λh=>?_
 .have hr:r≠0:=by intro z;subst z;cases h
  refine⟨λo=>∃x,o=[.fz (.int a),.fz (.int b),.fz (.int r),.fz (.int ((l%r:Nat):Int)),x],?_,?_⟩
  .rintro _ ⟨x,rfl⟩;exact⟨l%r,by have:=Nat.mod_lt l (Nat.pos_of_ne_zero hr);lia,r,l%r,x,rfl,(Nat.gcd_comm r (l%r)).trans ((Nat.gcd_rec r l).symm.trans ((Nat.gcd_comm r l).trans hg)),rfl⟩
  .exact⟨by lia,_,by rw[Int.natCast_emod];rfl⟩
 .have hr:r=0:=by
   by_cases z:r=0
   .exact z
   .have:(decide ((r:Int)=0))=false:=Zp wf;rw[show xr true (decide ((r:Int)=0)) = !decide ((r:Int)=0)from rfl,this]at h;cases h
  subst hr;rw[Nat.gcd_zero_right]at hg;rw[<- hg]at q;exact q
structure Low(t b x y:Int):Prop where
 pos:0<y
 gcd:Int.gcd x y=1
 eq:x*b=t*y
 lx:x.natAbs<=t.natAbs
 ly:y.natAbs<=b.natAbs
def JK{c q:Int}(h:c≠0):Int.fdiv (c*q) c=q:=by
 rw[Int.fdiv_eq_ediv_of_dvd (Int.dvd_mul_right c q),Zzw _ h]
def Ka{c q:Int}(h:c≠0):q.natAbs<=(c*q).natAbs:=by
 rw[VZ];exact Zyy _ wf
def wH{t b c:Int}(hb:b≠0)(hc:c≠0)(hg:c.natAbs=Int.gcd t b)(hs:0<c*b):Low t b (Int.fdiv t c) (Int.fdiv b c):=by
 have d1:c ∣ t:=Int.natAbs_dvd.mp (by rw[hg];exact Int.gcd_dvd_left t b);have d2:c ∣ b:=Int.natAbs_dvd.mp (by rw[hg];exact Q1 t b);obtain⟨x,rfl⟩:=d1;obtain⟨y,rfl⟩:=d2;rw[JK hc,JK hc];refine⟨?_,?_,?_,Ka hc,Ka hc⟩
 .rw[<- Int.mul_assoc]at hs;have hp:0<c*c:=by
   rcases Int.lt_or_lt_of_ne hc with z|z
   .exact Int.mul_pos_of_neg_of_neg z z
   .exact XZ z z
  exact Int.pos_of_mul_pos_right hs hp
 .rw[Int.gcd_mul_left]at hg;have hp:0<c.natAbs:=by lia
  exact Nat.eq_of_mul_eq_mul_left hp (by rw[Nat.mul_one];exact hg.symm)
 .rw[Int.mul_left_comm,Int.mul_assoc]
def n6{b:Int}(hb:b≠0):(0:Int)<(Int.gcd a b:Nat):=by
 have:=Zzq a hb;lia
def Ox{i j:Int}(h:i.natAbs<=j.natAbs)(k:Bd j):Bd i:=Y3 h k
theorem acF{i:Int}(h:Bd i):Bd (-i):=by unfold Bd at *;rwa[Int.natAbs_neg]
def X_{b:Int}(hb:b≠0)(h:Bd b):Bd ((Int.gcd a b:Nat):Int):=Ox (by
 have:=UV wf (Int.gcd_dvd_natAbs_right a b);omega) h
def um:ST:=λts q=>∃t b,ts=[.int t,.int b]/\b≠0/\Bd b/\∀x y,Low t b x y->q (.fz (frT (x,y)))
def adv(T:Tx D):gT 2 pL mq um:=ya T.aeZ λF=>by
 refine F.okT ac6 (λhr _=>bF (cC (QW.qt (jD (eE (dI (bI (U0 T) (bx wr bC)))) (ig (eE (dI (bI (U0 T) (bx wn bC)))))))
  (bH gF)
  bT)
  (bF (cC (bY (go_eq hr.units) wn bA)
  (bH gF)
  bT)
  (bF (bN 2 (bI (Xn T) (bx wr (bx wn bC))))
  (bF (cC (bY v7 wn bA)
  (bH (bN 2 (vm we)))
  bT)
  (bH (bO (cN (bx (bL nJ wr we) (bx (bL nJ wn we) bC))))))))) ?_
 rintro _ R ⟨t,b,rfl,hb,hd,q⟩;refine⟨_,_,rfl,rfl,_,_,rfl,rfl,?_⟩;have g0:=n6 (a:=t) hb;have g1:=X_ (a:=t) hb hd;refine swF (Zp hb) ⟨_,_,rfl,swD (λhn=>⟨⟨by omega,acF g1⟩,⟨by omega,acF g1⟩,q _ _ (wH hb (by omega) wf (Int.mul_pos_of_neg_of_neg wf hn))⟩) λhn=>⟨⟨by exact WS g0,g1⟩,⟨by exact WS g0,g1⟩,q _ _ (wH hb (WS g0) wf (XZ g0 wf))⟩⟩
abbrev frR(r:Rat):T:=.tup [.int r.num,.int r.den]
def jG{t b x y:Int}(h:Low t b x y)(hb:b≠0):frT (x,y)=frR (Rat.divInt t b):=by
 have hy:=h.pos;have e:Rat.divInt t b=⟨x,y.toNat,by lia,by have:=h.gcd;unfold Int.gcd at this;rw[show y.toNat=y.natAbs by lia];exact this⟩:=by
  rw[Rat.mk_eq_divInt,show((y.toNat:Nat):Int)=y by exact Int.toNat_of_nonneg (XY hy)];exact(Q2 hb (WS hy)).mpr h.eq.symm
 rw[e];show T.tup [.int x,.int y]=.tup [.int x,.int (y.toNat:Nat)];rw[show((y.toNat:Nat):Int)=y by exact Int.toNat_of_nonneg (XY hy)]
def rd(r:Rat):Rat.divInt r.num r.den=r:=Rat.num_divInt_den r
def lD(r:Rat):((r.den:Nat):Int)≠0:=by have:=r.den_pos;lia
def Bq(r:Rat):Prop:=Bd r.num/\Bd (r.den:Nat)
def Rr:ST:=λts q=>∃a b:Rat,ts=[frR a,frR b]/\Bq a/\Bq b/\Bd ((a.den:Int)*b.den)/\q (.fz (frR (a+b)))
def uo:ST:=λts q=>∃a b:Rat,ts=[frR a,frR b]/\Bq a/\Bq b/\Bd ((a.den:Int)*b.den)/\q (.fz (frR (a-b)))
def Km:ST:=λts q=>∃a b:Rat,ts=[frR a,frR b]/\Bq a/\Bq b/\Bd ((a.den:Int)*b.den)/\q (.fz (frR (a*b)))
def RN:ST:=λts q=>∃a b:Rat,ts=[frR a,frR b]/\b≠0/\Bq a/\Bq b/\Bd ((a.den:Int)*b.num)/\q (.fz (frR (a/b)))
def wO:ST:=λts q=>∃a b:Rat,ts=[frR a,frR b]/\Bq a/\Bq b/\q (.fz (.bl (decide (a<b))))
def m_{b:Int}(ha:a≠0)(hb:b≠0):a*b≠0:=λz=>(Int.mul_eq_zero.mp z).elim ha hb
def afF(T:Tx D):gT 3 Ja zR Rr:=ya T.ai6 λF=>by
 refine F.okT agv (λ_ _=>bH (bO (bI (adv T) (bx (bL cL (bL cG (bJ wr bA) (bJ wn bA)) (bL cG (bJ wn bA) (bJ wr bA))) (bx (bL cG (bJ wr bA) (bJ wn bA)) bC))))) ?_;rintro _ R ⟨a,b,rfl,ha,hb,hd,q⟩;refine⟨⟨ha.1,hb.2⟩,⟨hb.1,ha.2⟩,⟨ha.2,hb.2⟩,_,_,rfl,m_ (lD a) (lD b),hd,λx y l=>?_⟩;rw[jG l (m_ (lD a) (lD b)),<- TH _ _ (lD a) (lD b),rd,rd];exact q
def adO(T:Tx D):gT 3 qI lU uo:=ya T.agf λF=>by
 refine F.okT adg (λ_ _=>bH (bO (bI (adv T) (bx (bL Bp (bL cG (bJ wr bA) (bJ wn bA)) (bL cG (bJ wn bA) (bJ wr bA))) (bx (bL cG (bJ wr bA) (bJ wn bA)) bC))))) ?_;rintro _ R ⟨a,b,rfl,ha,hb,hd,q⟩;refine⟨⟨ha.1,hb.2⟩,⟨hb.1,ha.2⟩,⟨ha.2,hb.2⟩,_,_,rfl,m_ (lD a) (lD b),hd,λx y l=>?_⟩;rw[jG l (m_ (lD a) (lD b)),<- Rat.divInt_sub_divInt _ _ (lD a) (lD b),rd,rd];exact q
def abx(T:Tx D):gT 3 El uq Km:=ya T.agk λF=>by
 refine F.okT ach (λ_ _=>bH (bO (bI (adv T) (bx (bL cG (bJ wr bA) (bJ wn bA)) (bx (bL cG (bJ wr bA) (bJ wn bA)) bC))))) ?_;rintro _ R ⟨a,b,rfl,ha,hb,hd,q⟩;refine⟨⟨ha.1,hb.1⟩,⟨ha.2,hb.2⟩,_,_,rfl,m_ (lD a) (lD b),hd,λx y l=>?_⟩;rw[jG l (m_ (lD a) (lD b)),<- Qr,rd,rd];exact q
def aeJ(T:Tx D):gT 3 Iv z_ RN:=ya T.aiZ λF=>by
 refine F.okT afi (λ_ _=>bH (bO (bI (adv T) (bx (bL cG (bJ wr bA) (bJ wn bA)) (bx (bL cG (bJ wr bA) (bJ wn bA)) bC))))) ?_;rintro _ R ⟨a,b,rfl,h0,ha,hb,hd,q⟩;have nb:b.num≠0:=λz=>h0 (by rw[<- rd b,z];exact QY _);refine⟨⟨ha.1,hb.2⟩,⟨ha.2,hb.1⟩,_,_,rfl,m_ (lD a) nb,hd,λx y l=>?_⟩;rw[jG l (m_ (lD a) nb),<- Qr,rd,<- Rat.inv_def,<- Rat.div_def];exact q
def acR(T:Tx D):gT 1 uF oN wO:=ya T.afS λF=>by
 refine F.okT aei (λ_ _=>bH (bO (qK v7 (bL cG (bJ wr bA) (bJ wn bA)) (bL cG (bJ wn bA) (bJ wr bA))))) ?_;rintro _ R ⟨a,b,rfl,ha,hb,q⟩;refine⟨⟨ha.1,hb.2⟩,⟨hb.1,ha.2⟩,?_⟩;rw[show decide (a<b)=decide (a.num*(b.den:Int)<b.num*(a.den:Int))from decide_eq_decide.mpr (Rat.lt_iff a b)]at q;exact q
def qY:ST:=λts q=>∃r:Rat,ts=[frR r]/\q (.fz (.bl true))
def Vf(T:Tx D):gT 2 oM jA qY:=ya T.Xa λF=>by
 refine F.okT Wi (λhr _=>bF (cC (QW.qt (jD (eE (dI (pU .tuple wr T.d_ T.Q8 boot_tuple))) (ig (bY (mY hr.units) (bR cJ T.dJ WG (bx wr bC)) bA))))
  (bH (bO j5))
  bT)
  (bF (bN 1 (bJ wr bA))
  (bF (bN 2 (bJ wr bA))
  (bF (cC (QW.qt (jD (eE (dI (bI (U0 T) (bx wn bC)))) (ig (eE (dI (bI (U0 T) (bx we bC)))))))
  (bH (bO j5))
  bT)
  (bH (bO (Ca (qK agL we bA) (Gr (qK (go_eq hr.units) (bI (Xn T) (bx wn (bx we bC))) bA))))))))) ?_
 rintro _ R ⟨r,rfl,q⟩;refine⟨_,_,rfl,rfl,_,_,rfl,rfl,?_⟩;have:=r.den_pos;refine swT (Zs wf) ⟨_,_,rfl,?_⟩;rw[show Int.gcd r.num r.den=1 from r.reduced];exact q
def aoB:xj->Nat
 |[]=>1
 |r::rs=>Nat.lcm r.den (aoB rs)
def cF(n:Nat):xj->Nat
 |[]=>n
 |r::rs=>cF (Nat.lcm n r.den) rs
theorem gD:∀(rs:xj){n:Nat},0<n->0<cF n rs
 |[],_,h=>h
 |r::rs,_,h=>gD rs (Nat.lcm_pos h r.den_pos)
theorem j6:∀(rs:xj){n:Nat},n ∣ cF n rs/\∀r∈rs,r.den ∣ cF n rs
 |[],n=>⟨Nat.dvd_refl n,λ_ z=>(nomatch z)⟩
 |r::rs,n=>by
  obtain⟨a,b⟩:=j6 rs (n:=Nat.lcm n r.den);refine⟨Q3 (Nat.dvd_lcm_left ..) a,λx hx=>?_⟩;rcases YU.mp hx with rfl|z
  .exact Q3 (Nat.dvd_lcm_right ..) a
  .exact b x z
theorem pX:∀(rs:xj){n m:Nat},n ∣ m->(∀r∈rs,r.den ∣ m)->cF n rs ∣ m
 |[],_,_,h,_=>h
 |r::rs,_,_,h,k=>pX rs (Nat.lcm_dvd h (k r (aO ..))) λx hx=>k x (aJ _ hx)
theorem K4:∀(as bs:xj)(n:Nat),cF n (as++bs)=cF (cF n as) bs
 |[],_,_=>rfl
 |_::as,bs,_=>K4 as bs _
def tops(B:Nat)(rs:xj):xy:=rs.map λr=>r.num*((B/r.den:Nat):Int)
def W_(h:Bd (n:Int))(l:m<=n):Bd (m:Int):=Ox (by omega) h
def acG(n d:Nat):(Int.fdiv (n:Int) ((Int.gcd n d:Nat):Int))*d=((Nat.lcm n d:Nat):Int):=by
 rw[show Int.gcd (n:Int) (d:Int)=Nat.gcd n d from rfl,Int.fdiv_eq_ediv_of_dvd (Int.natCast_dvd_natCast.mpr (Nat.gcd_dvd_left n d)),<- Int.natCast_ediv,<- TZ,Nat.lcm,Nat.div_mul_right_comm (Nat.gcd_dvd_left n d)]
def Kq(m n:Nat):Int.fdiv (m:Int) (n:Int)=((m/n:Nat):Int):=by rw[Zzs _ (Wp _)];rfl
def ur:ST:=λts q=>∃rs:xj,ts=[.lst (rs.map frR)]/\rs.length<=1000/\(∀r∈rs,Bd r.num)/\Bd (cF 1 rs:Nat)/\q (.fz (.tup [.lst ((tops (cF 1 rs) rs).map T.int),.int (cF 1 rs:Nat)]))
def aeu(T:Tx D):gT 2 qN mC ur:=ya T.aeF λF=>by
 refine F.okT abz (λ_ _=>bF (bN 1 bA)
  (bF (eF (cI wr) (bW (n:=99) 2)
  (bH (bN 1 (bL cG (bL nJ wn (bI (Xn T) (bx wn (bx (bJ we bA) bC)))) (bJ we bA)))))
  (bH (bO (cN (bx (eU (bG Ir) Yu ["fractions","bottom","?one"] ["one"] (cI wr) (gk (i:=0)) cD (bL cG (bJ wr bA) (bL nJ we (bJ wr bA)))) (bx wn bC))))))) ?_
 rintro _ R ⟨rs,rfl,rl,hn,hB,q⟩;refine iM frR rs (λas o=>∃x,o=[.fz (.lst (rs.map frR)),.fz (.int (cF 1 as:Nat)),x]) ⟨_,rfl⟩ ?_ ?_
 .rintro as a bs _ e ⟨x,rfl⟩;have d1:=(j6 (a::bs) (n:=cF 1 as)).1;have el:cF 1 rs=cF (cF 1 as) (a::bs):=by rw[e];exact K4 as (a::bs) 1
  have hp:=gD as US;have hB0:=gD rs US;have b1:Bd (cF 1 as:Nat):=W_ hB (el ▸ UV (el ▸ hB0) d1);have b2:Bd (a.den:Nat):=W_ hB (UV hB0 ((j6 rs).2 a (e ▸ by simp)));refine⟨_,_,rfl,⟨by have:=n6 (a:=(cF 1 as:Nat)) (lD a);exact WS this,X_ (lD a) b2⟩,⟨Ox ?_ b1,b2⟩,.fz (frR a),?_⟩
  .rw[show Int.gcd ((cF 1 as:Nat):Int) (a.den:Int)=Nat.gcd (cF 1 as) a.den from rfl,Kq];exact Nat.div_le_self ..
  .rw[acG,K4]
   rfl
 .rintro _ ⟨x,rfl⟩;refine⟨aL (by simpa using rl) wb,comp_map frR (λr=>.int (r.num*((cF 1 rs/r.den:Nat):Int))) rs (λr hr N M hN=>?_) ?_⟩
  .have b2:Bd (r.den:Nat):=W_ hB (UV (gD rs US) ((j6 rs).2 r hr));refine⟨⟨lD r,b2⟩,⟨hn r hr,Ox ?_ hB⟩,?_⟩
   .rw[Kq];exact Nat.div_le_self ..
   .rw[Kq];exact hN
  .have:(tops (cF 1 rs) rs).map L2.T.int=rs.map (λr=>.int (r.num*((cF 1 rs/r.den:Nat):Int))):=by unfold tops;rw[WJ];rfl
   rw[this]at q;exact q
def Y_(l:xL):Bool:=decide (1<=l.length)&&decide (l.length<=8)&&l.all λc=>decide (97<=c)&&decide (c<=122)
abbrev Wd(n:Str):Prop:=Y_ n.cps.toList=true
def Wd.len{n:Str}(h:Wd n):1<=n.length/\n.length<=8:=by
 unfold Wd Y_ at h;simp only[QP,decide_eq_true_eq,Array.length_toList]at h;exact h.1
def Yq(c d:Nat):(!decide ((⟨#[d]⟩ : Str).cps.toList<(⟨#[c]⟩ : Str).cps.toList))=decide (c<=d):=by
 have:((⟨#[d]⟩ : Str).cps.toList<(⟨#[c]⟩ : Str).cps.toList)↔d<c:=by
  show[d]<[c]↔d<c;constructor
  .intro h;cases h with
   |rel h=>exact h
   |cons h=>cases h
  .exact λh=>.rel h
 rw[show decide ((⟨#[d]⟩ : Str).cps.toList<(⟨#[c]⟩ : Str).cps.toList)=decide (d<c)from decide_eq_decide.mpr this];by_cases h:c<=d
 .rw[Zs h,Zp (TR h)];rfl
 .rw[Zp h,Zs (Nat.lt_of_not_le h)];rfl
def vK:ST:=λts q=>∃n:Str,ts=[.str n]/\Wd n/\q (.fz (.bl true))
def XJ(T:Tx D):gT 1 pN lB vK:=ya T.aaN λF=>by
 refine F.okT Xc (λ_ _=>bF (cC (QW.qt (jD (eE (dI (pU .str wr T.d_ T.ajP boot_str))) (ig (eE (Wa O5 O5 bA (bR aeU T.dJ WG (bx wr bC)) (abm T.Kz λ_=>.int _))))))
  (bH (bO j5))
  bT)
  (bH (bO (bR (abX rfl) T.ag2 boot_all (bx (eU (bG zU) FJ FJ ["sign"] (ajx wr) (gk (i:=0)) cD (Jx aby aby m9 wr m9)) bC))))) ?_
 rintro _ R ⟨n,rfl,hw,q⟩;obtain⟨l1,l8⟩:=hw.len;refine⟨aL l8 wb,swT (Zs wf) (swF (by rw[Zs (show((n.length:Nat):Int)<=8 by lia)];rfl) ⟨by rw[ak];exact aL l8 wb,comp_map (λc=>.str ⟨#[c]⟩) (λc=>.bl (decide (97<=c)&&decide (c<=122))) n.cps.toList (λc _ N M hN=>?_) ⟨n.cps.toList.map λc=>decide (97<=c)&&decide (c<=122),by rw[WJ];rfl,?_⟩⟩)⟩
 .have e1:(!decide ((⟨#[c]⟩ : Str).cps.toList<("a":Str).cps.toList))=decide (97<=c):=by rw[show("a":Str)=⟨#[97]⟩from by decide +kernel];exact Yq 97 c
  have e2:(!decide (("z":Str).cps.toList<(⟨#[c]⟩ : Str).cps.toList))=decide (c<=122):=by rw[show("z":Str)=⟨#[122]⟩from by decide +kernel];exact Yq c 122
  refine sw2 (λh=>?_) λh=>?_
  .rw[<- e1,h,<- e2]at hN;exact hN
  .rw[<- e1,h]at hN;exact hN
 .have:((n.cps.toList.map λc=>decide (97<=c)&&decide (c<=122)).all λb=>b)=true:=by
   unfold Wd Y_ at hw;rw[QP]at hw;rw[List.all_map];exact hw.2
  rw[<- this]at q;exact q
def sX:ST:=λts q=>∃(n:Str)(r:Rat),ts=[.str n,frR r]/\Wd n/\q (.fz .non)
def Ms(T:Tx D):gT 3 n_ iV sX:=ya T.Rq λF=>by
 refine F.okT M_ (λ_ _=>bF (cC (eE (dI (bI (XJ T) (bx wr bC))))
  (bH gF)
  bT)
  (bH (cC (eE (dI (bI (Vf T) (bx wn bC))))
  (bH gF)
  bT))) ?_
 rintro _ R ⟨n,r,rfl,hw,q⟩;exact⟨_,rfl,hw,_,rfl,q⟩
def lC:ST:=λts q=>∃n:Str,ts=[.str n]/\Wd n/\q (.fz .non)
def Bf(T:Tx D):gT 2 iH eY lC:=ya T.Cz λF=>by
 refine F.okT Bc (λ_ _=>bH (cC (eE (dI (bI (XJ T) (bx wr bC))))
  (bH gF)
  bT)) ?_
 rintro _ R ⟨n,rfl,hw,q⟩;exact⟨_,rfl,hw,q⟩
def Ch(r:Rat):Prop:=0<=r/\r<=1/\Bd (r.den:Nat)
def Ch.bq(h:Ch r):Bq r:=by
 have h0:=Rat.num_nonneg.mpr h.1;have h1:=(Rat.le_iff r 1).mp h.2.1;exact⟨Ox (by have:r.num*((1:Rat).den:Int)<=(1:Rat).num*(r.den:Int):=h1;simp at this;omega) h.2.2,h.2.2⟩
def bq0:Bq 0:=⟨Nat.two_pow_pos 8000,Nat.one_lt_two_pow wb⟩
def bq1:Bq 1:=⟨Nat.one_lt_two_pow wb,Nat.one_lt_two_pow wb⟩
def oW:ST:=λts q=>∃r:Rat,ts=[frR r]/\Ch r/\q (.fz .non)
def Hv(T:Tx D):gT 3 kY gC oW:=ya T.Jv λF=>by
 refine F.okT Ih (λ_ _=>bH (cC (QW.qt (jD (eE (dI (bI (Vf T) (bx wr bC)))) (jD (dI (bI (acR T) (bx wr (bx (jX T.gZ T.fY) bC)))) (ig (dI (bI (acR T) (bx (jX T.Dt T.uP) (bx wr bC))))))))
  (bH gF)
  bT)) ?_
 rintro _ R ⟨r,rfl,hc,q⟩;refine⟨_,rfl,r,0,rfl,hc.bq,bq0,?_⟩;rw[Zp (Rat.not_lt.mpr hc.1)];refine⟨1,r,rfl,bq1,hc.bq,?_⟩;rw[Zp (Rat.not_lt.mpr hc.2.1)];exact q
def Cq(rs:xj):Rat:=rs.foldr (· + ·) 0
theorem Uk{B:Nat}(hB:B≠0):∀{rs:xj},(∀r∈rs,r.den ∣ B)->Rat.divInt (tops B rs).sum B=Cq rs
 |[],_=>by show Rat.divInt 0 _=0;exact QY _
 |r::rs,h=>by
  have ih:=Uk hB (rs:=rs) λx hx=>h x (aJ _ hx);have pe:((B:Nat):Int)≠0:=by lia
  obtain⟨m,hm⟩:=h r (aO ..);show Rat.divInt (r.num*((B/r.den:Nat):Int)+(tops B rs).sum) B=r+Cq rs;have e1:r+Cq rs=Rat.divInt (r.num*B+(tops B rs).sum*r.den) (r.den*B):=by rw[<- TH _ _ (lD r) pe,rd,ih]
  rw[e1];refine(Q2 pe (m_ (lD r) pe)).mpr ?_;have:B/r.den=m:=by rw[hm];exact Nat.mul_div_cancel_left _ r.den_pos
  rw[this,hm];simp only[TZ]
  grind
def T3:ST:=λts q=>∃rs:xj,ts=[.lst (rs.map frR)]/\rs.length<=1000/\(∀r∈rs,Bd r.num)/\Bd (cF 1 rs:Nat)/\q (.fz (frR (Cq rs)))
def acQ(T:Tx D):gT 3 Jl yF T3:=ya T.f_total λF=>by
 refine F.okT ab6 (λ_ _=>bF (bN 1 (bI (aeu T) (bx wr bC)))
  (bH (bO (bI (adv T) (bx (bR (X6 rfl) T.ab1 boot_sum (bx (bJ wn bA) bC)) (bx (bJ wn bA) bC)))))) ?_
 rintro _ R ⟨rs,rfl,rl,hn,hB,q⟩;have hp:=gD rs US;have hz:((cF 1 rs:Nat):Int)≠0:=by lia
 refine⟨rs,rfl,rl,hn,hB,_,rfl,_,_,rfl,hz,hB,λx y l=>?_⟩;rw[jG l hz,Uk (UY hp) (j6 rs).2];exact q
abbrev wyT(p:Str×Rat):T:=.tup [.str p.1,frR p.2]
def za:ST:=λts q=>∃ps:xw,ts=[.lst (ps.map wyT)]/\ps.length<=1000/\(∀p∈ps,Wd p.1/\Ch p.2)/\Bd (cF 1 (ps.map (·.2)):Nat)/\Cq (ps.map (·.2))=1/\q (.fz .non)
def Jz(T:Tx D):gT 4 qu jy za:=ya T.MP λF=>by
 refine F.okT Ml (λhr _=>bF (eF (cI wr) (fj (n:=2) (bQ (bW (n:=99) 1) (bQ (bW (n:=99) 2) dB)))
  (bF (iD (bI (Bf T) (bx wn bC)))
  (bH (iD (bI (Hv T) (bx we bC))))))
  (bH (cC (bY (mY hr.units) (bI (acQ T) (bx (eU (bG nM) rW rW ["pair"] (cI wr) (gk (i:=0)) cD (bJ wr bA)) bC)) (jX T.Dt T.uP))
  (bH gF)
  bT))) ?_
 rintro _ R ⟨ps,rfl,pl,hp,hB,hs,q⟩;refine iM wyT ps (λ_ o=>∃x y,o=[.fz (.lst (ps.map wyT)),x,y]) ⟨_,_,rfl⟩ ?_ ?_
 .rintro as a bs _ e ⟨x,y,rfl⟩;obtain⟨h1,h2⟩:=hp a (e ▸ by simp);exact⟨rfl,_,rfl,h1,_,rfl,h2,_,_,rfl⟩
 .rintro _ ⟨x,y,rfl⟩;refine⟨aL (by simpa using pl) wb,comp_map wyT (λp=>frR p.2) ps (λp _ N M hN=>hN) ⟨ps.map (·.2),by rw[WJ];rfl,by simpa using pl,λr hr=>?_,hB,?_⟩⟩
  .obtain⟨p,di,rfl⟩:=YV.mp hr;exact(hp p di).2.bq.1
  .rw[hs];exact q
def addW(ws:xw)(p:Str×Rat):xw:=if(ws.any λx=>decide (x.1=p.1))=true then ws.map (λx=>if x.1=p.1 then(x.1,x.2+p.2)else x)else ws++[p]
def j4(ps:xw):xw:=ps.foldl addW []
abbrev wKs(ws:xw):xB:=ws.map λx=>.inr x.1
abbrev wTs(ws:xw):zD:=ws.map λx=>frR x.2
def ahK(ws:xw)(n:Str):S9 (wKs ws) (.inr n)=ws.any λx=>decide (x.1=n):=by
 unfold S9;rw[List.any_map]
 congr 1
 funext x
 exact decide_eq_decide.mpr ⟨λz=>Sum.inr.inj z,λz=>ZH Sum.inr z⟩
theorem Wz(n:Str):∀ws:xw,qm (wKs ws) (wTs ws) (.inr n)=(ws.find? λx=>decide (x.1=n)).map λx=>frR x.2
 |[]=>rfl
 |x::ws=>by
  show(if(Sum.inr x.1:Key)=.inr n then some (frR x.2)else qm (wKs ws) (wTs ws) (.inr n))=_;by_cases h:x.1=n
  .rw[ZY (ZH Sum.inr h),List.find?_cons_of_pos (p:=λx:Str×Rat=>decide (x.1=n)) (Zs h)];rfl
  .rw[ZZ λz=>h (Sum.inr.inj z),List.find?_cons_of_neg (p:=λx:Str×Rat=>decide (x.1=n)) (by show ¬decide (x.1=n)=true;rw[Zp h];decide),Wz n ws]
def BK(ws:xw)(n:Str):Rat:=((ws.find? λx=>decide (x.1=n)).map (·.2)).getD 0
def ae3(ws:xw)(n:Str):((qm (wKs ws) (wTs ws) (.inr n)).getD (frR 0))=frR (BK ws n):=by
 rw[Wz];unfold BK;cases(ws.find? λx=>decide (x.1=n))<;>rfl
def Zw{ws:xw}{n:Str}(nd:(ws.map (·.1)).Nodup){x:Str×Rat}(hx:x∈ws)(e:x.1=n):(ws.find? λy=>decide (y.1=n))=some x:=by
 induction ws with
 |nil=>cases hx
 |cons y ws ih =>
  obtain⟨n1,n2⟩:=List.nodup_cons.mp nd;rcases YU.mp hx with rfl|z
  .exact List.find?_cons_of_pos (p:=λy:Str×Rat=>decide (y.1=n)) (Zs e)
  .rw[List.find?_cons_of_neg (p:=λy:Str×Rat=>decide (y.1=n)) (by show ¬decide (y.1=n)=true;rw[Zp λw=>n1 (YV.mpr ⟨x,z,e.trans w.symm⟩)];decide)];exact ih n2 z
def alT(ws:xw)(p:Str×Rat)(nd:(ws.map (·.1)).Nodup):kpK (wKs ws) (.inr p.1)=wKs (addW ws p)/\kpT (wKs ws) (wTs ws) (.inr p.1) (frR (BK ws p.1+p.2))=wTs (addW ws p):=by
 unfold kpK kpT addW;rw[ahK];by_cases h:(ws.any λx=>decide (x.1=p.1))=true
 .rw[ZY h,ZY h,ZY h];refine⟨by simp only[wKs,WJ];refine UQ λx _=>?_;show(Sum.inr x.1:Key)=.inr (if x.1=p.1 then(x.1,x.2+p.2)else x).1;split<;>rfl,?_⟩
  clear h
  rw[show wTs (ws.map λx=>if x.1=p.1 then(x.1,x.2+p.2)else x)=ws.map ((λx=>frR x.2) ∘ λx=>if x.1=p.1 then(x.1,x.2+p.2)else x)from WJ]
  suffices H:∀(us:xw),(∀x∈us,x.1=p.1->x.2=BK ws p.1)->List.zipWith (λ(k:Key)x=>if k=.inr p.1 then frR (BK ws p.1+p.2)else x) (wKs us) (wTs us)=us.map ((λx=>frR x.2) ∘ λx=>if x.1=p.1 then(x.1,x.2+p.2)else x)from H ws λx hx e=>by
   unfold BK;rw[Zw nd hx e];rfl
  intro us
  induction us with
  |nil=>intro _;rfl
  |cons x us ih =>
   intro H;show List.zipWith _ (Sum.inr x.1::wKs us) (frR x.2::wTs us)=_;rw[List.zipWith_cons_cons,ih λy hy=>H y (aJ _ hy),List.map_cons]
   congr 1
   by_cases e:x.1=p.1
   .rw[ZY (ZH Sum.inr e)];show _=frR (if x.1=p.1 then(x.1,x.2+p.2)else x).2;rw[ZY e,H x (aO ..) e]
   .rw[ZZ λz=>e (Sum.inr.inj z)];show _=frR (if x.1=p.1 then(x.1,x.2+p.2)else x).2;rw[ZZ e]
 .rw[ZZ h,ZZ h,ZZ h];have n0:BK ws p.1=0:=by
   unfold BK;rw[List.find?_eq_none.mpr λx hx z=>h (List.any_eq_true.mpr ⟨x,hx,z⟩)];rfl
  rw[n0,Rat.zero_add];simp only[wKs,wTs,bf];exact⟨rfl,rfl⟩
def agw{ws:xw}{p:Str×Rat}(nd:(ws.map (·.1)).Nodup):((addW ws p).map (·.1)).Nodup:=by
 unfold addW;by_cases h:(ws.any λx=>decide (x.1=p.1))=true
 .rw[ZY h,WJ];rw[show ws.map ((λx=>x.1) ∘ λx=>if x.1=p.1 then(x.1,x.2+p.2)else x)=ws.map (·.1)from UQ λx _=>by show(if x.1=p.1 then(x.1,x.2+p.2)else x).1=x.1;split<;>rfl];exact nd
 .rw[ZZ h,bf];refine List.nodup_append.mpr ⟨nd,by simp,λa ha b hb z=>h ?_⟩;obtain⟨x,hx,rfl⟩:=YV.mp ha;rw[List.map_singleton,YR]at hb;exact List.any_eq_true.mpr ⟨x,hx,Zs (z.trans hb)⟩
def aav(as bs:xw):j4 (as++bs)=bs.foldl addW (j4 as):=List.foldl_append ..
def Vy(ps:xw):((j4 ps).map (·.1)).Nodup:=by
 suffices H:∀(ps ws:xw),(ws.map (·.1)).Nodup->((ps.foldl addW ws).map (·.1)).Nodup from H ps [] .nil
 intro ps
 induction ps with
 |nil=>exact λ_ h=>h
 |cons p ps ih=>exact λws h=>ih _ (agw h)
def Ov(ps:xw):(j4 ps).length<=ps.length:=by
 suffices H:∀(ps ws:xw),(ps.foldl addW ws).length<=ws.length+ps.length from by simpa[j4]using H ps []
 intro ps
 induction ps with
 |nil=>exact λ_=>aG _
 |cons p ps ih =>
  intro ws;have h1:(addW ws p).length<=ws.length+1:=by
   unfold addW;split
   .rw[ak];exact Xs _
   .rw[aA,List.length_singleton];exact aG _
  have:=ih (addW ws p);rw[List.foldl_cons,List.length_cons];lia
def agI(ps:xw):Prop:=∀as a bs,ps=as++a::bs->Bq (BK (j4 as) a.1)/\Bq a.2/\Bd (((BK (j4 as) a.1).den:Int)*a.2.den)
def Dk(ps:xw):xw:=(j4 ps).filter λp=>!decide (p.2=0)
def xP:ST:=λts q=>∃ps:xw,ts=[.lst (ps.map wyT)]/\ps.length<=1000/\agI ps/\q (.l1 ((Dk ps).map wyT))
def Lg(T:Tx D):gT 4 p8 ji xP:=ya T.Mr λF=>by
 refine F.okT Ma (λhr _=>bF (gQ 1 RV)
  (bF (eF (cI wr) (fj (n:=2) (bQ (bW (n:=99) 2) (bQ (bW (n:=99) 3) dB)))
  (bH (PJ 1 (Ag hr) (bI (afF T) (bx (afb 1 (Ag hr) we (jX T.gZ T.fY)) (bx wa bC))) we)))
  (bH (afw 1 (bG n8) Aj ["pairs","chances","?room","chance"] ["room"] (gk (i:=0)) (Zz (bY (mY hr.units) (Rp (Ag hr) we wr) (jX T.gZ T.fY))) (cN (bx wr (bx (Rp (Ag hr) we wr) bC))))))) ?_
 rintro _ R ⟨ps,rfl,pl,hb,q⟩;refine iM wyT ps (λas o=>∃x y,o=[.fz (.lst (ps.map wyT)),.d1 (wKs (j4 as)) (wTs (j4 as)),x,y]) ⟨_,_,rfl⟩ ?_ ?_
 .rintro as a bs _ e ⟨x,y,rfl⟩;obtain⟨h1,h2,h3⟩:=hb as a bs e;refine⟨rfl,_,rfl,BK (j4 as) a.1,a.2,ZH (λt=>[t,frR a.2]) (ae3 (j4 as) a.1),h1,h2,h3,_,rfl,?_,.fz (.str a.1),.fz (frR a.2),?_⟩
  .have:=Ov as;have:as.length<=ps.length:=by rw[e];simp
   rw[ak];exact Y3 (show _<=1000 by lia) wb
  .obtain⟨k1,k2⟩:=alT (j4 as) a (Vy as);rw[show j4 (as++[a])=addW (j4 as) a from by rw[aav];rfl,<- k1,<- k2]
   rfl
 .rintro _ ⟨x,y,rfl⟩;have jl:=Ov ps;refine⟨by rw[ak];exact aL (show _<=1000 by exact aL jl pl) wb,?_⟩;rw[show(wKs (j4 ps)).map kT=(j4 ps).map λp=>.str p.1 from WJ];refine rM (λp=>.str p.1) (λp=>!decide (p.2=0)) wyT (j4 ps) (λp hp N M hN hM=>?_) ?_
  rotate_left
  .exact q
  have ev:qm (wKs (j4 ps)) (wTs (j4 ps)) (.inr p.1)=some (frR p.2):=by rw[Wz,Zw (Vy ps) hp rfl];rfl
  refine⟨_,_,rfl,ev,?_⟩;have ez:(decide (p.2.num=0)&&decide ((p.2.den:Int)=1))=decide (p.2=0):=by
   by_cases z:p.2=0
   .rw[z];decide
   .rw[Zp z,Zp λy=>z (Rat.num_eq_zero.mp y)];rfl
  refine sw2 (λh=>⟨_,_,rfl,ev,hN ?_⟩) λh=>hM ?_
  .rw[<- h];exact ZH (λb=>!b) ez.symm
  .rw[<- h];exact ZH (λb=>!b) ez.symm
abbrev vJ:Φ:=["name","pay","leads"]
abbrev drT(C:Addr)(n:Str)(p:Rat)(ws:xw):T:=.ins C vJ [.str n,frR p,.lst (ws.map wyT)]
def QM(D:Adr):SI:=λC ks ts as R=>∃(n:Str)(p:Rat),ks=[]/\ts=[]/\Fam D C/\as=[.str n,frR p]/\Wd n/\R vJ [.str n,frR p,.lst []]
def RL(T:Tx D):OkI P w K mg base CX0 4 D.Door_init jR (spI K (QM D)):=ye T.QK λF=>by
 refine F.okI Rk (λC ks ts as R hP=>by obtain⟨n,p,_,_,_,e,_⟩:=hP;exact e ▸ rfl) wb λah A outer s H E hr nd=>?_;refine⟨_,(bF (iD (bI (Ms T) (bx wn (bx we bC))))
  (bF (rJ (Fm:=Fam D) 0 (λC h=>⟨T.cl C h,T.Iz C h⟩) wn)
  (bF (rJ (Fm:=Fam D) 0 (λC h=>⟨T.cl C h,T.adV C h⟩) we)
  (bH (rJ (Fm:=Fam D) 0 (λC h=>⟨T.cl C h,T.CW C h⟩) (dh bC)))))),?_⟩
 rintro a dx C _ _ _ R ⟨n,p,rfl,rfl,hC,rfl,hw,q⟩;exact⟨_,_,rfl,hw,⟨hC,by decide⟩,⟨hC,by decide⟩,⟨hC,by decide⟩,_,_,rfl,q⟩
def acs(D:Adr):Fam D D.Sure:=by simp[Fam]
def ZP(D:Adr):Fam D D.Mixed:=by simp[Fam]
def ad8(D:Adr):Fam D D.Toss:=by simp[Fam]
def acY(D:Adr):Fam D D.Even:=by simp[Fam]
def ug(D:Adr):Fam D D.Hall:=by simp[Fam]
def Yx(D:Adr):SI:=λC ks ts as R=>∃(n m:Str)(p:Rat),ks=[]/\ts=[]/\Fam D C/\as=[.str n,frR p,.str m]/\Wd n/\Wd m/\R vJ [.str n,frR p,.lst ([(m,1)].map wyT)]
def SN(T:Tx D):OkI P w K mg base CX0 5 D.Sure_init lM (spI K (Yx D)):=ye T.Qf λF=>by
 refine F.okI QF (λC ks ts as R hP=>by obtain⟨n,p,_,_,_,_,e,_⟩:=hP;exact e ▸ rfl) wb λah A outer s H E hr nd=>?_;refine⟨_,(bF (Jg 0 T.Dh (RL T) T.abR (bx wn (bx we bC)))
  (bF (iD (bI (Bf T) (bx wa bC)))
  (bH (rJ (Fm:=Fam D) 0 (λC h=>⟨T.cl C h,T.CW C h⟩) (dh (bx (cN (bx wa (bx (jX T.Dt T.uP) bC))) bC)))))),?_⟩
 rintro a dx C _ _ _ R ⟨n,m,p,rfl,rfl,hC,rfl,hw,hm,q⟩;exact⟨_,_,rfl,rfl,hC,rfl,hw,_,rfl,hm,⟨hC,by decide⟩,_,_,rfl,q⟩
structure Prs(ps:xw):Prop where
 few:ps.length<=1000
 ok:∀p∈ps,Wd p.1/\Ch p.2
 bd:Bd (cF 1 (ps.map (·.2)):Nat)
 one:Cq (ps.map (·.2))=1
 jb:agI ps
def Dj(D:Adr):SI:=λC ks ts as R=>∃(n:Str)(p:Rat)(ps:xw),ks=[]/\ts=[]/\Fam D C/\as=[.str n,frR p,.lst (ps.map wyT)]/\Wd n/\Prs ps/\R vJ [.str n,frR p,.lst ((Dk ps).map wyT)]
def NZ(T:Tx D):OkI P w K mg base CX0 5 D.Mixed_init gM (spI K (Dj D)):=ye T.Ni λF=>by
 refine F.okI Nk (λC ks ts as R hP=>by obtain⟨n,p,_,_,_,_,e,_⟩:=hP;exact e ▸ rfl) wb λah A outer s H E hr nd=>?_;refine⟨_,(bF (Jg 0 T.Dh (RL T) T.abR (bx wn (bx we bC)))
  (bF (iD (bI (Jz T) (bx wa bC)))
  (bH (rJ (Fm:=Fam D) 0 (λC h=>⟨T.cl C h,T.CW C h⟩) (bI (Lg T) (bx wa bC)))))),?_⟩
 rintro a dx C _ _ _ R ⟨n,p,ps,rfl,rfl,hC,rfl,hw,h,q⟩;exact⟨_,_,rfl,rfl,hC,rfl,hw,_,rfl,h.few,h.ok,h.bd,h.one,_,rfl,h.few,h.jb,⟨hC,by decide⟩,_,_,rfl,q⟩
def YL(D:Adr):SI:=λC ks ts as R=>∃(n x y:Str)(p c:Rat),ks=[]/\ts=[]/\Fam D C/\as=[.str n,frR p,frR c,.str x,.str y]/\Wd n/\Ch c/\Prs [(x,c),(y,1-c)]/\R vJ [.str n,frR p,.lst ((Dk [(x,c),(y,1-c)]).map wyT)]
def Tq(T:Tx D):OkI P w K mg base CX0 6 D.Toss_init lN (spI K (YL D)):=ye T.RQ λF=>by
 refine F.okI Pk (λC ks ts as R hP=>by obtain⟨n,_,_,p,_,_,_,_,e,_⟩:=hP;exact e ▸ rfl) wb λah A outer s H E hr nd=>?_;refine⟨_,(bF (iD (bI (Ms T) (bx wn (bx we bC))))
  (bF (iD (bI (Hv T) (bx wa bC)))
  (bH (Jg 0 T.A_ (NZ T) T.S8 (bx wn (bx we (bx (dh (bx (cN (bx wP (bx wa bC))) (bx (cN (bx wE (bx (bI (adO T) (bx (jX T.Dt T.uP) (bx wa bC))) bC))) bC))) bC))))))),?_⟩
 rintro a dx C _ _ _ R ⟨n,x,y,p,c,rfl,rfl,hC,rfl,hw,hc,h,q⟩;refine⟨_,_,rfl,hw,_,rfl,hc,1,c,rfl,bq1,hc.bq,?_,n,p,_,rfl,rfl,hC,rfl,hw,h,_,_,rfl,q⟩;rw[show(((1:Rat).den:Nat):Int)*(c.den:Int)=(c.den:Int)from JJ _];exact hc.2.2
def even(bn:Φ):xw:=bn.map λr=>(r,mkRat 1 bn.length)
def XR(h:0<n):frR (mkRat 1 n)=.tup [.int 1,.int (n:Nat)]:=by
 have:mkRat 1 n=⟨1,n,by exact UY h,by show Nat.Coprime 1 n;exact Nat.coprime_one_left n⟩:=by
  rw[Rat.mk_eq_divInt];rfl
 rw[this]
def ZJ(D:Adr):SI:=λC ks ts as R=>∃(n:Str)(p:Rat)(bn:Φ),ks=[]/\ts=[]/\Fam D C/\as=[.str n,frR p,.lst (bn.map T.str)]/\Wd n/\Prs (even bn)/\R vJ [.str n,frR p,.lst ((Dk (even bn)).map wyT)]
def Q9(T:Tx D):OkI P w K mg base CX0 6 D.Even_init mj (spI K (ZJ D)):=ye T.PL λ{fd}F=>by
 refine F.okI Sg (λC ks ts as R hP=>by obtain⟨n,p,_,_,_,_,e,_⟩:=hP;exact e ▸ rfl) wb λah A outer s H E hr nd=>?_;refine⟨_,(bH (Jg 0 T.A_ (NZ T) T.S8 (bx wn (bx we (bx (eU (bG rQ) yG yG ["room"] (cI wa) (gk (i:=0)) cD (cN (bx wr (bx (cN (bx bA (bx (bR cJ T.dJ WG (bx wP bC)) bC))) bC)))) bC))))),?_⟩;rintro a dx C _ _ _ R ⟨n,p,bn,rfl,rfl,hC,rfl,hw,h,q⟩;have hl:bn.length<=1000:=by have:=h.few;rwa[even,ak]at this
 refine⟨by rw[ak];exact aL hl wb,comp_map L2.T.str (λr=>wyT (r,mkRat 1 bn.length)) bn (λr hr N M hN=>?_) ⟨n,p,even bn,rfl,rfl,hC,?_,hw,h,_,_,rfl,q⟩⟩
 .rw[show wyT (r,mkRat 1 bn.length)=.tup [.str r,frR (mkRat 1 bn.length)]from rfl,XR (List.length_pos_of_mem hr),<- ak (f:=L2.T.str)]at hN;exact hN
 .unfold even;rw[WJ]
  rfl
def Cv(D:Adr):ST:=λts q=>∃(C:Addr)(n:Str)(p:Rat)(ws:xw),ts=[drT C n p ws]/\Fam D C/\q (.l1 (ws.map wyT))
def RX(T:Tx D):gI 1 D.Door_ways lY (Cv D):=ye T.TQ λF=>by
 refine F.okT Qu (λ_ _=>bH (bO (lF z8 T.vP boot_list (bx (sU (Fm:=Fam D) (λC h=>⟨T.cl C h,T.CW C h⟩) wr) bC)))) ?_;rintro _ R ⟨C,n,p,ws,rfl,hC,q⟩;exact⟨hC,_,rfl,q⟩
structure bM where
 name:Str
 pay:Rat
 ways:zC
abbrev wq:=List bM
abbrev xF:=Option bM
abbrev xk:=List xF
abbrev zi:=List wq
abbrev nwT(p:Nat×Rat):T:=.tup [.int (p.1:Nat),frR p.2]
abbrev ofT(o:bM):T:=.tup [.str o.name,frR o.pay,.lst (o.ways.map nwT)]
abbrev iC:Φ:=["share","numbers","offered"]
abbrev nmK(ns:Φ):xB:=ns.map Sum.inr
abbrev nmT(ns:Φ):zD:=(List.range ns.length).map λk:Nat=>.int k
abbrev hlT(D:Adr)(s:Rat)(ns:Φ)(off:zi):T:=.ins D.Hall iC [frR s,.dct (nmK ns) (nmT ns),.lst (off.map λds=>.lst (ds.map ofT))]
def yI:ST:=λts q=>∃r:Rat,ts=[frR r]/\0<=r/\r<1/\Bq r/\q (.fz .non)
def K6(T:Tx D):gT 3 qd jw yI:=ya T.NK λF=>by
 refine F.okT Kh (λ_ _=>bH (cC (QW.qt (jD (eE (dI (bI (Vf T) (bx wr bC)))) (jD (dI (bI (acR T) (bx wr (bx (jX T.gZ T.fY) bC)))) (ig (eE (dI (bI (acR T) (bx wr (bx (jX T.Dt T.uP) bC)))))))))
  (bH gF)
  bT)) ?_
 rintro _ R ⟨r,rfl,h0,h1,hb,q⟩;refine⟨_,rfl,r,0,rfl,hb,bq0,?_⟩;rw[Zp (Rat.not_lt.mpr h0)];refine⟨r,1,rfl,hb,bq1,?_⟩;rw[Zs h1];exact q
def adG(ns:Φ)(n:Str)(h:n∉ns):S9 (nmK ns) (.inr n)=false:=by
 unfold S9;rw[List.any_map];exact List.any_eq_false.mpr λx hx z=>h ((Sum.inr.inj (of_decide_eq_true z)) ▸ hx)
theorem Wv{α:Type}(n:Str):∀(ns:Φ)(ts:List α),n∉ns->qm (nmK ns) ts (.inr n)=none
 |[],_,_=>rfl
 |_::_,[],_=>rfl
 |m::ns,t::ts,h=>by
  show(if(Sum.inr m:Key)=.inr n then some t else qm (nmK ns) ts (.inr n))=none;rw[ZZ λz=>h (by rw[Sum.inr.inj z];exact aO ..)];exact Wv n ns ts λz=>h (aJ _ z)
theorem Yv{α:Type}{n:Str} : ∀{ns:Φ}{ts:List α}{k:Nat}{t:α},ns.Nodup->ns[k]?=some n->ts[k]?=some t->qm (nmK ns) ts (.inr n)=some t
 |[],_,_,_,_,e,_=>by cases e
 |m::ns,[],_,_,_,_,e=>by cases e
 |m::ns,u::ts,k,t,nd,e1,e2=>by
  obtain⟨n1,n2⟩:=List.nodup_cons.mp nd;show(if(Sum.inr m:Key)=.inr n then some u else qm (nmK ns) ts (.inr n))=some t;cases k with
  |zero=>cases e1;cases e2;exact ZY rfl
  |succ k =>
   have gu:ns[k]?=some n:=by simpa using e1
   rw[ZZ λ(z:(Sum.inr m:Key)=.inr n)=>n1 (by rw[Sum.inr.inj z];exact aC gu)];exact Yv n2 gu (by simpa using e2)
def aiQ(ns:Φ)(n:Str)(h:n∉ns):kpK (nmK ns) (.inr n)=nmK (ns++[n])/\kpT (nmK ns) (nmT ns) (.inr n) (.int (ns.length:Nat))=nmT (ns++[n]):=by
 unfold kpK kpT;rw[adG ns n h];refine⟨by rw[ZZ wb];simp[nmK],?_⟩;rw[ZZ wb];simp only[nmT,aA,List.length_singleton,List.range_succ,bf,List.map_singleton]
abbrev rmT(p:Str×zD):T:=.tup [.str p.1,.lst p.2]
def Ba:ST:=λts q=>∃fF:List (Str×zD),ts=[.lst (fF.map rmT)]/\fF.length<=1000/\(∀p∈fF,Wd p.1)/\(fF.map (·.1)).Nodup/\q (.d1 (nmK (fF.map (·.1))) (nmT (fF.map (·.1))))
def Nf(T:Tx D):gT 2 tL kh Ba:=ya T.Tn λF=>by
 refine F.okT Ny (λhr _=>bF (gQ 1 RV)
  (bF (eF (cI wr) (bW (n:=99) 2)
  (bF (bN 3 (bJ we bA))
  (bF (cC (QW.qt (jD (eE (dI (bI (XJ T) (bx wa bC)))) (ig (KR 1 (abE (Ag hr) wa wn)))))
  (bH gF)
  bT)
  (bH (PJ 1 (Ag hr) (Q6 1 (bR YC T.dJ WG (bx wn bC))) wa)))))
  (bH (jL 1)))) ?_
 rintro _ R ⟨fF,rfl,rl,hw,nd,q⟩;refine iM rmT fF (λas o=>∃x y,o=[.fz (.lst (fF.map rmT)),.d1 (nmK (as.map (·.1))) (nmT (as.map (·.1))),x,y]) ⟨_,_,rfl⟩ ?_ ?_
 .rintro as a bs _ e ⟨x,y,rfl⟩;have na:a.1∉as.map (·.1):=by
   rw[e,bf,List.map_cons]at nd;exact λz=>(List.nodup_append.mp nd).2.2 a.1 z a.1 (aO ..) rfl
  have al:as.length<=fF.length:=by rw[e];simp
  refine⟨_,rfl,hw a (e ▸ by simp),_,rfl,?_⟩;rw[Wv a.1 _ _ na];refine⟨trivial,_,rfl,by rw[ak,ak];exact Y3 (show _<=1000 by exact aL al rl) wb,.fz (rmT a),.fz (.str a.1),?_⟩;obtain⟨k1,k2⟩:=aiQ (as.map (·.1)) a.1 na;rw[bf,List.map_singleton,<- k1,<- k2];simp only[ak]
  rfl
 .rintro _ ⟨x,y,rfl⟩;exact q
structure NWk(ns:Φ)(us:zC):Prop where
 few:us.length<=1000
 lt:∀p∈us,p.1<ns.length
abbrev Vm(ns:Φ)(us:zC):xw:=us.map λp=>(ns.getD p.1 ⟨#[]⟩,p.2)
def uz(D:Adr):ST:=λts q=>∃(C:Addr)(n:Str)(p:Rat)(ns:Φ)(us:zC),ts=[drT C n p (Vm ns us),.dct (nmK ns) (nmT ns)]/\dW D C/\ns.Nodup/\NWk ns us/\q (.l1 (us.map nwT))
def Fw(T:Tx D):gT 2 nH g_ (uz D):=ya T.HD λF=>by
 refine F.okT GJ (λhr _=>bF (gQ 2 (dh bC))
  (bF (eF (cI (QE.any λC(hC:dW D C)=>ud wr (T.cl C hC.fam) (T.Qo C hC) (RX T) (KS:=vJ))) (fj (n:=2) (bQ (bW (n:=99) 3) (bQ (bW (n:=99) 4) dB)))
  (bF (cC (aam (Ag hr) wa wn)
  (bH gF)
  bT)
  (bH (oX 2 (cN (bx (Rp (Ag hr) wn wa) (bx wP bC)))))))
  (bH (jL 2)))) ?_
 rintro _ R ⟨C,n,p,ns,us,rfl,hC,nd,hu,q⟩;refine⟨C,hC,⟨rfl,rfl⟩,C,n,p,_,rfl,hC.fam,?_⟩;show Ay _ _ _ (List.map wyT (Vm ns us)) _;rw[show(Vm ns us).map wyT=us.map λp=>wyT (ns.getD p.1 ⟨#[]⟩,p.2)from WJ];refine iM (λp=>wyT (ns.getD p.1 ⟨#[]⟩,p.2)) us (λas o=>∃x y,o=[.fz (drT C n p (Vm ns us)),.fz (.dct (nmK ns) (nmT ns)),.l1 (as.map nwT),x,y]) ⟨_,_,rfl⟩ ?_ ?_
 .rintro as a bs _ e ⟨x,y,rfl⟩;have lt:=hu.lt a (e ▸ by simp);have al:as.length<us.length:=by rw[e];simp
  have few:=hu.few;have en:ns[a.1]?=some (ns.getD a.1 ⟨#[]⟩):=by rw[au,aj lt];rfl
  have ev:qm (nmK ns) (nmT ns) (.inr (ns.getD a.1 ⟨#[]⟩))=some (.int (a.1:Nat)):=Yv nd en (by rw[aq,VW lt];rfl);refine⟨rfl,_,rfl,?_⟩;rw[ev];refine⟨_,_,rfl,ev,by rw[ak];exact Y3 (show _<=1000 by exact aL (Y2 al) few) wb,.fz (.str (ns.getD a.1 ⟨#[]⟩)),.fz (frR a.2),?_⟩;rw[bf]
  rfl
 .rintro _ ⟨x,y,rfl⟩;exact q
structure Made where
 cls:Addr
 of:bM
abbrev xI:=List (List Made)
abbrev mdT(ns:Φ)(m:Made):T:=drT m.cls m.of.name m.of.pay (Vm ns m.of.ways)
structure Mds(D:Adr)(ns:Φ)(ds:List Made):Prop where
 few:ds.length<=1000
 cls:∀m∈ds,dW D m.cls
 ways:∀m∈ds,NWk ns m.of.ways
 nd:(ds.map λm=>m.of.name).Nodup
def aeR(ns:Φ)(n:Str)(h:n∉ns):kpK (nmK ns) (.inr n)=nmK (ns++[n])/\kpT (nmK ns) (ns.map λ_=>L2.T.bl true) (.inr n) (.bl true)=(ns++[n]).map λ_=>L2.T.bl true:=by
 unfold kpK kpT;rw[adG ns n h];refine⟨by rw[ZZ wb];simp[nmK],?_⟩;rw[ZZ wb];simp
def Ek(D:Adr):ST:=λts q=>∃(ns:Φ)(ds:List Made),ts=[.lst (ds.map (mdT ns)),.dct (nmK ns) (nmT ns)]/\ns.Nodup/\Mds D ns ds/\q (.l1 (ds.map λm=>ofT m.of))
def Td(T:Tx D):gT 3 vR mH (Ek D):=ya T.V1 λF=>by
 refine F.okT RZ (λhr _=>bF (gQ 2 RV)
  (bF (gQ 3 (dh bC))
  (bF (eF (cI wr) (bW (n:=99) 4)
  (bF (cC (KR 2 (abE (Ag hr) (sU (Fm:=Fam D) (λC h=>⟨T.cl C h,T.Iz C h⟩) wP) we))
  (bH gF)
  bT)
  (bF (PJ 2 (Ag hr) j5 (sU (Fm:=Fam D) (λC h=>⟨T.cl C h,T.Iz C h⟩) wP))
  (bH (oX 3 (cN (bx (sU (Fm:=Fam D) (λC h=>⟨T.cl C h,T.Iz C h⟩) wP) (bx (sU (Fm:=Fam D) (λC h=>⟨T.cl C h,T.adV C h⟩) wP) (bx (bI (Fw T) (bx wP (bx wn bC))) bC)))))))))
  (bH (jL 3))))) ?_
 rintro _ R ⟨ns,ds,rfl,nd,hd,q⟩;refine iM (mdT ns) ds (λas o=>∃x,o=[.fz (.lst (ds.map (mdT ns))),.fz (.dct (nmK ns) (nmT ns)),.d1 (nmK (as.map λm=>m.of.name)) ((as.map λm=>m.of.name).map λ_=>.bl true),.l1 (as.map λm=>ofT m.of),x]) ⟨_,rfl⟩ ?_ ?_
 .rintro as a bs _ e ⟨x,rfl⟩;have na:a.of.name∉as.map λm=>m.of.name:=by
   have nd:=hd.nd;rw[e,bf,List.map_cons]at nd;exact λz=>(List.nodup_append.mp nd).2.2 _ z _ (aO ..) rfl
  have al:as.length<ds.length:=by rw[e];simp
  have few:=hd.few;have ma:a∈ds:=e ▸ by simp
  have hc:=hd.cls a ma;refine⟨hc.fam,_,rfl,_,rfl,?_⟩;rw[Wv _ _ _ na];refine⟨hc.fam,_,rfl,_,rfl,by rw[ak,ak];exact Y3 (show _<=1000 by exact aL (Y2 al) few) wb,hc.fam,_,rfl,hc.fam,_,rfl,_,_,_,ns,a.of.ways,rfl,hc,nd,hd.ways a ma,by rw[ak];exact Y3 (show _<=1000 by exact aL (Y2 al) few) wb,.fz (mdT ns a),?_⟩;obtain⟨k1,k2⟩:=aeR (as.map λm=>m.of.name) a.of.name na;rw[show(as++[a]).map (λm=>m.of.name)=as.map (λm=>m.of.name)++[a.of.name]from bf,<- k1,<- k2,bf]
  rfl
 .rintro _ ⟨x,rfl⟩;exact q
structure ahc(D:Adr)(ns:Φ)(ac:xI):Prop where
 len:ac.length=ns.length
 few:ns.length<=1000
 wd:∀n∈ns,Wd n
 nd:ns.Nodup
 mds:∀ds∈ac,Mds D ns ds
abbrev Br(ns:Φ)(ac:xI):zD:=(ns.zip ac).map λp=>rmT (p.1,p.2.map (mdT ns))
abbrev offs(ac:xI):zi:=ac.map λds=>ds.map λm=>m.of
def YK(D:Adr):SI:=λC ks ts as R=>∃(s:Rat)(ns:Φ)(ac:xI),C=D.Hall/\ks=[]/\ts=[]/\as=[frR s,.lst (Br ns ac)]/\0<=s/\s<1/\Bq s/\ahc D ns ac/\R iC [frR s,.dct (nmK ns) (nmT ns),.lst ((offs ac).map λds=>.lst (ds.map ofT))]
def Rn(T:Tx D):OkI P w K mg base CX0 4 D.Hall_init mR (spI K (YK D)):=ye T.Pj λF=>by
 refine F.okI RW (λC ks ts as R hP=>by obtain⟨n,p,_,_,_,_,e,_⟩:=hP;exact e ▸ rfl) wb λah A outer s H E hr nd=>?_;refine⟨_,(bF (iD (bI (K6 T) (bx wn bC)))
  (bF (rJ (Fm:=Fam D) 0 (λC h=>⟨T.cl C h,T.Fe C h⟩) wn)
  (bF (rJ (Fm:=Fam D) 0 (λC h=>⟨T.cl C h,T.Bk C h⟩) (bI (Nf T) (bx we bC)))
  (bH (rJ (Fm:=Fam D) 0 (λC h=>⟨T.cl C h,T.Kl C h⟩) (eU (bG rO) xM xM ["room"] (cI we) (gk (i:=0)) cD (bI (Td T) (bx (bJ wr bA) (bx (afT (Fm:=Fam D) 1 (λC h=>⟨T.cl C h,T.Bk C h⟩)) bC))))))))),?_⟩
 rintro a dx C _ _ _ R ⟨s,ns,ac,rfl,rfl,rfl,rfl,s0,s1,sb,h,q⟩;have z1:(ns.zip ac).map (·.1)=ns:=List.map_fst_zip (by have:=h.len;exact WH (Eq.symm this));have z2:(ns.zip ac).map (·.2)=ac:=List.map_snd_zip (by have:=h.len;exact WH this);have zl:(ns.zip ac).length=ns.length:=by rw[VU,h.len,UU]
 have hf:=ug D;have few:=h.few;refine⟨_,rfl,s0,s1,sb,⟨hf,by decide⟩,(ns.zip ac).map λp=>(p.1,p.2.map (mdT ns)),by rw[WJ];rfl,by rw[ak,zl];exact few,λp hp=>?_,?_,⟨hf,by decide⟩,?_⟩
 .obtain⟨x,hx,rfl⟩:=YV.mp hp;exact h.wd x.1 (z1 ▸ YV.mpr ⟨x,hx,rfl⟩)
 .rw[WJ];exact z1.symm ▸ h.nd
 .rw[show((ns.zip ac).map λp=>(p.1,p.2.map (mdT ns))).map (·.1)=ns from List.map_map.trans z1];refine⟨by rw[ak,zl];exact aL few wb,comp_map (λp=>rmT (p.1,p.2.map (mdT ns))) (λp=>.lst (p.2.map λm=>ofT m.of)) (ns.zip ac) (λp hp N M hN=>?_) ⟨⟨hf,by decide⟩,_,_,rfl,?_⟩⟩
  .exact⟨hf,_,rfl,ns,p.2,rfl,h.nd,h.mds p.2 (z2 ▸ YV.mpr ⟨p,hp,rfl⟩),hN⟩
  .have:(ns.zip ac).map (λp=>L2.T.lst (p.2.map λm=>ofT m.of))=(offs ac).map λds=>.lst (ds.map ofT):=by
    rw[show(offs ac).map (λds=>L2.T.lst (ds.map ofT))=ac.map λds=>.lst (ds.map λm=>ofT m.of)from by simp[offs,WJ,Function.comp_def]]
    conv=>rhs;rw[<- z2,WJ]
    rfl
   rw[<- this]at q;exact q
structure Ad(ns:Φ)(off:zi):Prop where
 len:off.length=ns.length
 few:ns.length<=1000
 fews:∀ds∈off,ds.length<=1000
def jO(D:Adr):ST:=λts q=>∃(s:Rat)(ns:Φ)(off:zi),ts=[hlT D s ns off]/\q (.fz (.int (ns.length:Nat)))
def QC(T:Tx D):gI 1 D.Hall_size fW (jO D):=ye T.R7 λ{fd}F=>by
 refine F.okT Rh (λ_ _=>bH (bO (bR YC T.dJ WG (bx (sU (Fm:=Fam D) (λC h=>⟨T.cl C h,T.Bk C h⟩) wr) bC)))) ?_;rintro _ R ⟨s,ns,off,rfl,q⟩;refine⟨ug D,_,rfl,?_⟩;rw[<- ak (f:=(Sum.inr:Str->Key))]at q;exact q
def tu(D:Adr):ST:=λts q=>∃(s:Rat)(ns:Φ)(off:zi)(k:Nat),ts=[hlT D s ns off,.int k]/\k<ns.length/\q (.fz .non)
def NT(T:Tx D):gI 2 D.Hall_check_room eX (tu D):=ye T.Bt λF=>by
 refine F.okT Cg (λ_ _=>bH (cC (QW.qt (jD (eE (dI (bI (U0 T) (bx wn bC)))) (ig (eE (Wa O5 v7 bA wn (ud wr T.gG T.mG (QC T) (KS:=iC)))))))
  (bH gF)
  bT)) ?_
 rintro _ R ⟨s,ns,off,k,rfl,hk,q⟩;refine⟨_,_,rfl,rfl,⟨rfl,rfl⟩,_,_,_,rfl,?_⟩;show sw (!decide ((k:Int)<(ns.length:Nat))) _ _;rw[Zs (show(k:Int)<(ns.length:Nat)by lia)];exact q
def m7(D:Adr):ST:=λts q=>∃(s:Rat)(ns:Φ)(off:zi)(k:Nat)(ds:wq),ts=[hlT D s ns off,.int k]/\Ad ns off/\off[k]?=some ds/\q (.l1 (ds.map ofT))
def dg{l:List α}{h:α->T}{a:α}(e:l[k]?=some a):ixT (l.map h) (k:Nat)=some (h a):=by
 show nth (l.map h) k=_;rw[pO,aq,e];rfl
def aaD(T:Tx D):gI 3 D.Hall_offers dO (m7 D):=ye T.Jh λF=>by
 refine F.okT Jk (λ_ _=>bF (iD (rH wr T.gG T.qJ (NT T) (bx wn bC) (KS:=iC)))
  (bH (bO (eU (bG nZ) sV sV ["name","pay","numbered"] (cI (bJ (sU (Fm:=Fam D) (λC h=>⟨T.cl C h,T.Kl C h⟩) wr) wn)) (fj (n:=3) (bQ (gk (i:=0)) (bQ (gk (i:=1)) (bQ (gk (i:=2)) dB)))) cD (cN (bx wr (bx wn (bx (lF z8 T.vP boot_list (bx we bC)) bC)))))))) ?_
 rintro _ R ⟨s,ns,off,k,ds,rfl,h,e,q⟩;have lk:k<ns.length:=by rw[<- h.len];exact(ao.mp e).1
 refine⟨⟨rfl,rfl⟩,s,ns,off,k,rfl,lk,ug D,_,rfl,.lst (ds.map ofT),dg (h:=λds=>L2.T.lst (ds.map ofT)) e,by rw[ak];exact aL (h.fews ds (aC e)) wb,comp_map ofT ofT ds (λo _ N M hN=>⟨rfl,hN⟩) q⟩
def acA(m:Nat):wx:=(List.range m).map λi=>(List.range m).map λj=>frR (if j=i then 1 else 0)
def xQ:ST:=λts q=>∃m:Nat,ts=[.int m]/\m<=100/\q (.l2 (acA m))
def Ji(T:Tx D):gT 1 qG jj xQ:=ya T.NQ λF=>by
 refine F.okT KQ (λhr _=>bH (bO (acI (bG j8) jZ jZ "row" (dZ T.fM (bx wr bC)) abD cD (TJ (bG j8) ("row"::jZ) ("row"::jZ) ["column"] (dZ T.fM (bx wn bC)) (gk (i:=0)) cD (Hg (bY (go_eq hr.units) wr wn) (jX T.Dt T.uP) (jX T.gZ T.fY)))))) ?_;rintro _ R ⟨m,rfl,h,q⟩;have sz:(100:Nat)<=sizeLine:=by decide
 have rl:(rng 0 m).length<=sizeLine:=by rw[rng,ak,WP];exact aL h sz
 refine⟨⟨by lia,by lia⟩,rl,VR (λi=>(List.range m).map λj=>frR (if j=i then 1 else 0)) m (λi hi N M hN=>⟨⟨by lia,by lia⟩,rl,Ey (λj=>frR (if j=i then 1 else 0)) m (λj hj N M hN=>?_) hN⟩) q⟩;by_cases e:j=i
 .rw[ZY e]at hN;exact swT (Zs wf) hN
 .rw[ZZ e]at hN;exact swF (Zp wf) hN
def dT:xt->T
 |none=>.non
 |some d=>.int d
def Av:xt->Nat->Bool
 |none,n=>decide (n=0)
 |some d,n=>decide (d<n)
structure PlT(off:zi)(pl:ze):Prop where
 len:pl.length=off.length
 ok:∀(k:Nat)(d:xt)(ds:wq),pl[k]?=some d->off[k]?=some ds->Av d ds.length=true
def ZL:ST:=λts q=>∃(d:xt)(n:Nat),ts=[dT d,.int n]/\q (.fz (.bl (Av d n)))
def afH(T:Tx D):gT 2 Ed vU ZL:=ya T.adH λF=>by
 refine F.okT YS (λhr _=>bF (cC (bY (go_eq hr.units) wn bA)
  (bH (bO (qK xu wr fJ)))
  bT)
  (bH (bO (Ca (bI (U0 T) (bx wr bC)) (Gr (Jx O5 v7 bA wr wn)))))) ?_
 rintro _ R ⟨d,n,rfl,q⟩;by_cases e:n=0
 .subst e;cases d with
  |none=>exact q
  |some d=>exact q
 .refine swF (Zp wf) ?_;cases d with
  |none =>
   rw[show Av none n=false from Zp e]at q;exact⟨_,_,rfl,rfl,q⟩
  |some d =>
   rw[show Av (some d) n=decide ((d:Int)<(n:Int))from decide_eq_decide.mpr (by omega)]at q;exact⟨_,_,rfl,rfl,q⟩
def i_(D:Adr):ST:=λts q=>∃(s:Rat)(ns:Φ)(off:zi)(pl:ze),ts=[hlT D s ns off,.lst (pl.map dT)]/\Ad ns off/\PlT off pl/\q (.fz (.bl true))
def Nh(T:Tx D):gT 4 eZ dN (i_ D):=ya T.Eb λF=>by
 refine F.okT Ax (λhr _=>bF (cC (QW.qt (jD (eE (dI (pU .list wn T.d_ T.vP boot_list))) (ig (bY (mY hr.units) (bR cJ T.dJ WG (bx wn bC)) (ud wr T.gG T.mG (QC T) (KS:=iC))))))
  (bH gF)
  bT)
  (bF (eF (rF T.iu (bx wn bC)) (fj (n:=2) (bQ (bW (n:=99) 2) (bQ (bW (n:=99) 3) dB)))
  (bH (cC (eE (dI (bI (afH T) (bx wa (bx (bR cJ T.dJ WG (bx (rH wr T.gG T.g8 (aaD T) (bx we bC) (KS:=iC)) bC)) bC)))))
  (bH gF)
  bT)))
  (bH (bO j5)))) ?_
 rintro _ R ⟨s,ns,off,pl,rfl,h,hp,q⟩;refine⟨⟨rfl,rfl⟩,_,_,_,rfl,swF ?_ ?_⟩
 .show xr true (decide ((((pl.map dT).length:Nat):Int)=(ns.length:Nat)))=false;rw[ak,hp.len,h.len,Zs rfl]
  rfl
 .refine pK dT pl (λk o=>∃x y,o=[.fz (hlT D s ns off),.fz (.lst (pl.map dT)),x,y]) ⟨_,_,rfl⟩ ?_ ?_
  .rintro k d _ e ⟨x,y,rfl⟩;have lk:k<off.length:=by rw[<- hp.len];exact(ao.mp e).1
   have ek:=aj lk;refine⟨rfl,⟨rfl,rfl⟩,_,_,_,k,_,rfl,h,ek,d,(off[k]).length,?_,?_⟩
   .show[dT d,L2.T.int ((((off[k]).map ofT).length:Nat):Int)]=_;rw[ak]
   .rw[hp.ok k d _ e ek];exact⟨_,_,rfl⟩
  .rintro _ ⟨x,y,rfl⟩;exact q
def chO(off:zi)(pl:ze):xk:=pl.zipIdx.map λp=>p.1.bind λd=>(off.getD p.2 [])[d]?
def opT:xF->T
 |none=>.non
 |some o=>ofT o
def oZ(D:Adr):ST:=λts q=>∃(s:Rat)(ns:Φ)(off:zi)(pl:ze),ts=[hlT D s ns off,.lst (pl.map dT)]/\Ad ns off/\PlT off pl/\q (.l1 ((chO off pl).map opT))
def Hu(T:Tx D):gT 4 kW gB (oZ D):=ya T.Kr λF=>by
 refine F.okT Ie (λ_ _=>bH (bO (eU (bG mW) qL qL ["room","door"] (rF T.iu (bx wn bC)) (fj (n:=2) (bQ (gk (i:=0)) (bQ (gk (i:=1)) dB))) cD (Hg (bY xu wn fJ) fJ (bJ (rH we T.gG T.g8 (aaD T) (bx wr bC) (KS:=iC)) wn))))) ?_;rintro _ R ⟨s,ns,off,pl,rfl,h,hp,q⟩;refine⟨by unfold Bb;rw[ak,List.length_zipIdx,ak,hp.len,h.len];exact aL h.few wb,?_⟩;rw[adT];refine comp_map (λp=>.tup [.int (p.2:Nat),dT p.1]) (λp=>opT (p.1.bind λd=>(off.getD p.2 [])[d]?)) pl.zipIdx (λp hm N M hN=>⟨rfl,?a⟩) ?b
 case b =>
  unfold chO at q;rw[WJ]at q;exact q
 case a =>
  obtain⟨d,k⟩:=p;have e:=List.mem_zipIdx_iff_getElem?.mp hm;have lk:k<off.length:=by rw[<- hp.len];exact(ao.mp e).1
  have ek:=aj lk;have eg:off.getD k []=off[k]:=by rw[au,ek];rfl
  have ft:=hp.ok k d _ e ek;cases d with
  |none=>exact hN
  |some d =>
   have ld:d<(off[k]).length:=of_decide_eq_true ft;have hN:N (opT ((off.getD k [])[d]?)):=hN;rw[eg,aj ld]at hN;exact⟨⟨rfl,rfl⟩,_,_,_,k,_,rfl,h,ek,_,dg (aj ld),hN⟩
open Rw (vr jm jc oE gcL iG iJ sW lR Big pW j_ nU kZ oh gK)
abbrev Row:=List Int×Int
abbrev xf:=List Row
abbrev rwT(r:Row):T:=.tup [.lst (r.1.map T.int),.int r.2]
def NN:Nat:=10^600
def aiV{i:Int}(h:i.natAbs<=NN*NN*NN):Bd i:=Y3 h (by decide +kernel)
def bdN{i:Int}(h:i.natAbs<=NN):Bd i:=aiV (aL h (by decide +kernel))
def aeN{i:Int}(h:i.natAbs<=NN*NN):Bd i:=aiV (aL h (by decide +kernel))
def aeX{b:Int}(h1:a.natAbs<=m)(h2:b.natAbs<=n):(a*b).natAbs<=m*n:=by rw[VZ];exact W1 h1 h2
def uG{b:Int}(h:0<b):Int.fdiv a b=a/b:=Zzs _ (XY h)
def GK:ST:=λts q=>∃r:Row,ts=[.lst (r.1.map T.int),.int r.2]/\0<r.2/\Bd r.2/\r.1.length<=1000/\q (.fz (rwT (jm r)))
def aaU(T:Tx D):gT 2 zO pI GK:=ya T.aes λF=>by
 refine F.okT aaI (λ_ _=>bF (bN 2 wn)
  (bF (eF (cI wr) (bW (n:=99) 3)
  (bH (bN 2 (bI (Xn T) (bx wa (bx we bC))))))
  (bH (bO (cN (bx (eU (bG Em) T4 ["tops","bottom","common","?top"] ["top"] (cI wr) (gk (i:=0)) cD (bL nJ wr wa)) (bx (bL nJ wn we) bC))))))) ?_
 rintro _ R ⟨⟨tops,b⟩,rfl,hb,bb,tl,q⟩;have hb:0<b:=hb;have bb:Bd b:=bb;refine iM L2.T.int tops (λas o=>∃x,o=[.fz (.lst (tops.map L2.T.int)),.fz (.int b),.fz (.int (gcL as b)),x]) ⟨_,rfl⟩ ?_ ?_
 .rintro as a bs _ e ⟨x,rfl⟩;refine⟨_,_,rfl,.fz (.int a),?_⟩;rw[show gcL (as++[a]) b=((Int.gcd a (gcL as b):Nat):Int)from by unfold gcL;rw[List.foldl_append];rfl]
  rfl
 .rintro _ ⟨x,rfl⟩;have g0:=iG (ts:=tops) hb;have g1:Bd (gcL tops b):=Ox (by have:=sW (ts:=tops) hb;omega) bb;refine⟨by rw[ak];exact aL tl wb,comp_map L2.T.int (λt=>.int (t/gcL tops b)) tops (λt ht N M hN=>⟨⟨by exact WS g0,g1⟩,?_⟩) ⟨⟨by exact WS g0,g1⟩,?_⟩⟩
  .rw[uG g0];exact hN
  .rw[uG g0];have:(jm (tops,b)).1.map L2.T.int=tops.map λt=>.int (t/gcL tops b):=WJ;rw[<- this];exact q
structure Fn(c:Rat):Prop where
 n:c.num.natAbs<=NN
 d:c.den<=NN
abbrev pr(c:Rat):Int×Int:=(c.num,c.den)
def Es:ST:=λts q=>∃(r:Row)(c:Rat),ts=[rwT r,frR c]/\Big NN r/\r.1.length<=1000/\Fn c/\q (.fz (rwT (jm (jc r (pr c)))))
def TV(T:Tx D):gT 3 uH mJ Es:=ya T.Wf λF=>by
 refine F.okT Tp (λ_ _=>bH (bO (bI (aaU T) (bx (eU (bG qZ) yJ yJ ["top"] (cI (bJ wr bA)) (gk (i:=0)) cD (bL cG wr (bJ we bA))) (bx (bL cG (bJ wr bA) (bJ wn bA)) bC))))) ?_;rintro _ R ⟨r,c,rfl,hr,rl,hc,q⟩;have:=c.den_pos;have cd:((c.den:Nat):Int).natAbs<=NN:=hc.d;refine⟨by rw[ak];exact aL rl wb,comp_map L2.T.int (λt=>.int (t*c.num)) r.1 (λt ht N M hN=>⟨⟨bdN (hr.top t ht),bdN hc.n⟩,hN⟩) ⟨⟨bdN hr.bot,bdN cd⟩,jc r (pr c),?_,XZ hr.pos (show(0:Int)<(c.den:Nat)by lia),aeN (aeX hr.bot cd),by show(r.1.map _).length<=1000;rw[ak];exact rl,q⟩⟩;show _=[L2.T.lst ((r.1.map λt=>t*c.num).map L2.T.int),.int (r.2*c.den)];rw[WJ]
 rfl
def G9:ST:=λts q=>∃(r o:Row)(c:Rat),ts=[rwT r,rwT o,frR c]/\Big NN r/\Big NN o/\r.1.length<=1000/\o.1.length=r.1.length/\Fn c/\q (.fz (rwT (jm (oE r o (pr c)))))
def T8(T:Tx D):gT 3 yw oJ G9:=ya T.W6 λF=>by
 refine F.okT G_ (λ_ _=>bF (bN 3 (bL cG (bJ wn bA) (bJ we bA)))
  (bF (bN 4 (bI (Xn T) (bx (bJ wr bA) (bx wa bC))))
  (bF (bN 5 (bL nJ wa wP))
  (bF (bN 6 (bL cG (bL nJ (bJ wr bA) wP) (bJ we bA)))
  (bF (rN (bG vN) Bh Bh ["one","another"] (TF T.Wb (bx (bJ wr bA) (bx (bJ wn bA) bC))) (fj (n:=2) (bQ (gk (i:=0)) (bQ (gk (i:=1)) dB))) cD (bL cL (bL cG wr (qv 7)) (bL cG wn (qv 8))) (jQ (i:=7) G_.nd rfl (Or.inl rfl)))
  (bH (bO (bI (aaU T) (bx (qv 7) (bx (bL cG (bJ wr bA) wE) bC)))))))))) ?_
 rintro _ R ⟨r,o,c,rfl,hr,ho,rl,ol,hc,q⟩;have:=c.den_pos;have cd:((c.den:Nat):Int).natAbs<=NN:=hc.d;have hB:0<o.2*(c.den:Int):=XZ ho.pos wf;have bB:=aeX ho.bot cd;have g0:=n6 (a:=r.2) (WS hB);have gr:((Int.gcd r.2 (o.2*(c.den:Int)):Nat):Int)≠0:=by exact WS g0
 have gl:Int.gcd r.2 (o.2*(c.den:Int))<=r.2.natAbs:=UV (by have:=hr.pos;omega) (Int.gcd_dvd_natAbs_left ..);have gb:Bd ((Int.gcd r.2 (o.2*(c.den:Int)):Nat):Int):=bdN (by have:=hr.bot;lia);have d2:(o.2*(c.den:Int)/((Int.gcd r.2 (o.2*(c.den:Int)):Nat):Int)).natAbs<=NN*NN:=aL (Int.natAbs_ediv_le_natAbs _ _) bB;have d1:(r.2/((Int.gcd r.2 (o.2*(c.den:Int)):Nat):Int)).natAbs<=NN:=aL (Int.natAbs_ediv_le_natAbs _ _) hr.bot;refine⟨⟨bdN ho.bot,bdN cd⟩,_,_,rfl,⟨gr,gb⟩,⟨gr,gb⟩,⟨by rw[uG g0];exact bdN d1,bdN hc.n⟩,?_⟩;rw[uG g0,uG g0];refine⟨by unfold La;rw[ak,VU,ak,ak,ol,UU];exact aL rl wb,?_⟩;rw[zip_map];refine comp_map (λp=>.tup [.int p.1,.int p.2]) (λp=>.int (p.1*(o.2*(c.den:Int)/((Int.gcd r.2 (o.2*(c.den:Int)):Nat):Int))+p.2*(r.2/((Int.gcd r.2 (o.2*(c.den:Int)):Nat):Int)*c.num))) (r.1.zip o.1) (λp hp N M hN=>⟨rfl,⟨bdN (hr.top _ (UR hp).1),aeN d2⟩,⟨bdN (ho.top _ (UR hp).2),aeN (aeX d1 hc.n)⟩,hN⟩) ⟨⟨bdN hr.bot,aeN d2⟩,oE r o (pr c),?_,?_,aiV ?_,?_,q⟩
 .show _=[L2.T.lst ((List.zipWith _ r.1 o.1).map L2.T.int),_];rw[List.map_zipWith,List.zip,List.map_zipWith]
  rfl
 .exact XZ hr.pos (Zyz hB (XY g0) (Q1 ..))
 .rw[Nat.mul_assoc];exact aeX hr.bot d2
 .show(List.zipWith _ r.1 o.1).length<=1000;rwa[TK,ol,UU]
open Rw (vr jm jc oE gcL iG iJ sW lR Big pW j_ nU kZ oh gK)
inductive Stp where
 |swap (i j:Nat)|times (i:Nat) (c:Rat)|add (i j:Nat) (c:Rat)
def stT:Stp->T
 |.swap i j=>.tup [.str "swap",.int i,.int j]
 |.times i c=>.tup [.str "times",.int i,frR c]
 |.add i j c=>.tup [.str "add",.int i,.int j,frR c]
def rAt(rs:xf)(i:Nat):Row:=rs.getD i ([],1)
def wN(rs:xf):Stp->xf
 |.swap i j=>(rs.set i (rAt rs j)).set j (rAt rs i)
 |.times i c=>rs.set i (jm (jc (rAt rs i) (pr c)))
 |.add i j c=>rs.set i (jm (oE (rAt rs i) (rAt rs j) (pr c)))
def an9(n:Nat):Stp->Prop
 |.swap i j=>i<n/\j<n
 |.times i c=>i<n/\Fn c
 |.add i j c=>i<n/\j<n/\Fn c
def zN{rs:xf}(h:i<rs.length):rs[i]?=some (rAt rs i):=by
 unfold rAt;rw[au,aj h];rfl
def fX{rs:xf}(h:i<rs.length):rAt rs i∈rs:=aC (zN h)
def uX(h:i<n):ixN n ((i:Nat):Int)=some i:=by
 unfold ixN;rw[ZY (Wp _),ZY wf];rfl
def vf{rs:xf}(h:i<rs.length):ixT (rs.map rwT) ((i:Nat):Int)=some (rwT (rAt rs i)):=dg (zN h)
structure Rws(rs:xf)(wd:Nat):Prop where
 big:∀r∈rs,Big NN r
 wds:∀r∈rs,r.1.length=wd
 few:rs.length<=100
 wde:wd<=1000
def En:SO:=λtss ts R=>∃(rs:xf)(st:Stp)(wd:Nat),tss=[rs.map rwT]/\ts=[stT st]/\Rws rs wd/\an9 rs.length st/\R [(wN rs st).map rwT]
def Pr(T:Tx D):OkF P w K mg base 4 uI lZ (spO K En):=ya T.Ul λF=>by
 refine F.okO Rj (λtss ts R ⟨rs,st,wd,e1,e2,_⟩=>by rw[e1,e2];rfl) wb λah A outer s H E hr nd=>?_;refine⟨_,(bF (bN 2 (uL 0 (bJ wn bA)))
  (bH (cC (bY (go_eq hr.units) (bJ wn bA) m9)
  (bF (yu 0 (uL 0 (bJ wn bA)) (bJ wn bA))
  (bH (yu 0 we (bJ wn bA))))
  (bH (cC (bY (go_eq hr.units) (bJ wn bA) m9)
  (bH (yu 0 (bI (TV T) (bx we (bx (bJ wn bA) bC))) (bJ wn bA)))
  (bH (yu 0 (bI (T8 T) (bx we (bx (uL 0 (bJ wn bA)) (bx (bJ wn bA) bC)))) (bJ wn bA)))))))),?_⟩
 rintro as tss ts R tl ⟨rs,st,wd,rfl,rfl,h,hs,q⟩;obtain⟨a,rfl⟩ : ∃a,as=[a]:=by
  match as,tl with
  |[a],_=>exact⟨a,rfl⟩
 have aE:∀(L:List L2.T)(x y:OT),R [L]->∃bg,(∀j,slot [.la a L,x,y] j=slot (List.zipWith OT.la [a] bg) j\/[a].length<=j)/\bg.length=[a].length/\R bg:=λL x y q=>⟨[L],λj=>by
  cases j with
  |zero=>exact .inl rfl
  |succ j=>exact .inr wp,rfl,q⟩
 have lm:(rs.map rwT).length=rs.length:=ak _
 match st,hs,q with
 |.swap i j,hs,q =>
  refine⟨_,vf hs.1,_,vf hs.2,i,uX (lm ▸ hs.1),j,uX (by rw[VY,lm];exact hs.2),aE _ _ _ ?_⟩;rw[wN,List.map_set,List.map_set]at q;exact q
 |.times i c,hs,q =>
  have m:=fX hs.1;refine⟨_,vf hs.1,rAt rs i,c,rfl,h.big _ m,by rw[h.wds _ m];exact h.wde,hs.2,i,uX (lm ▸ hs.1),aE _ _ _ ?_⟩;rw[wN,List.map_set]at q;exact q
 |.add i j c,hs,q =>
  have m:=fX hs.1;have n:=fX hs.2.1;refine⟨_,vf hs.1,_,vf hs.2.1,rAt rs i,rAt rs j,c,rfl,h.big _ m,h.big _ n,by rw[h.wds _ m];exact h.wde,by rw[h.wds _ m,h.wds _ n],hs.2.2,i,uX (lm ▸ hs.1),aE _ _ _ ?_⟩;rw[wN,List.map_set]at q;exact q
open Rw (vr jm jc oE gcL iG iJ sW lR Big pW j_ nU kZ oh gK)
def vC:ST:=λts q=>∃(r:Row)(k:Nat),ts=[rwT r,.int k]/\k<r.1.length/\Big NN r/\q (.fz (frR (vr r k)))
def SJ(T:Tx D):gT 3 pF jT vC:=ya T.Uw λF=>by
 refine F.okT Qc (λ_ _=>bH (bO (bI (adv T) (bx (bJ (bJ wr bA) wn) (bx (bJ wr bA) bC))))) ?_;rintro _ R ⟨r,k,rfl,hk,hr,q⟩;have h0:=hr.pos;refine⟨_,dg (aj hk),_,_,rfl,by exact WS h0,bdN hr.bot,λx y l=>?_⟩;rw[jG l (WS h0),Tu];unfold vr at q;rw[au,aj hk]at q;exact q
def vZ:ST:=λts q=>∃(rs:xf)(wd:Nat),ts=[.lst (rs.map rwT)]/\Rws rs wd/\q (.l1 (rs.map λr=>.lst ((List.range wd).map λk=>frR (vr r k))))
def H_(T:Tx D):gT 3 oO iQ vZ:=ya T.JV λF=>by
 refine F.okT Ii (λ_ _=>bH (bO (YG (bG jo) jB jB "row" (cI wr) abD cD (TJ (bG jo) ("row"::jB) ("row"::jB) ["top"] (cI (bJ wr bA)) (gk (i:=0)) cD (bI (adv T) (bx wr (bx (bJ wn bA) bC))))))) ?_;rintro _ R ⟨rs,wd,rfl,h,q⟩;refine⟨by rw[ak];exact aL h.few wb,comp_map rwT (λr=>.lst ((List.range wd).map λk=>frR (vr r k))) rs (λr hr N M hN=>⟨by rw[ak,h.wds r hr];exact aL h.wde wb,?_⟩) q⟩;have hb:=h.big r hr;have h0:=hb.pos;refine comp_map L2.T.int (λt=>frR ((t:Rat)/(r.2:Rat))) r.1 (λt ht N M hN=>⟨_,_,rfl,by exact WS h0,bdN hb.bot,λx y l=>by rwa[jG l (WS h0),Tu]⟩) ?_;have e:(r.1.map λt:Int=>frR ((t:Rat)/(r.2:Rat)))=(List.range wd).map λk=>frR (vr r k):=by
  refine T2 (by rw[ak,ak,WP,h.wds r hr]) λn h1 h2=>?_;rw[ak]at h1;rw[UX,UX,QU];unfold vr;rw[au,aj h1]
  rfl
 rwa[e]
def abN{lo:Nat}{t:T}(e:(rng (lo:Nat) n)[i]?=some t):i<n/\t=.int ((lo+i:Nat):Int):=by
 unfold rng at e;rw[aq]at e;by_cases hi:i<n
 .rw[VW hi]at e;cases e;exact⟨hi,rfl⟩
 .rw[aM (by simpa using hi)]at e;cases e
def abJ{r:Row}(h:0<r.2)(hk:k<r.1.length):vr r k=0↔r.1[k]=0:=by
 have e:vr r k=(r.1[k] : Rat)/(r.2:Rat):=by unfold vr;rw[au,aj hk];rfl
 have n:(r.2:Rat)≠0:=λz=>by have:=Rat.intCast_eq_zero_iff.mp z;lia
 rw[e];constructor
 .intro z;have:(r.1[k] : Rat)=0:=by grind
  exact Rat.intCast_eq_zero_iff.mp this
 .intro z;rw[z];grind
def Ao:ST:=λts R=>∃(rs:xf)(wd p k:Nat),ts=[.lst (rs.map rwT),.int p,.int k]/\Rws rs wd/\p<=rs.length/\k<wd/\(∀q,p<=q->q<rs.length->vr (rAt rs q) k≠0->R (.fz (.int q)))/\((∀i,p<=i->i<rs.length->vr (rAt rs i) k=0)->R (.fz .non))
def M9(T:Tx D):gT 1 tK kE Ao:=ya T.S_ λF=>by
 refine F.okT Ng (λhr _=>bF (eF (Ol T.fM (bx wn (bx (bR cJ T.dJ WG (bx wr bC)) bC))) (bW (n:=99) 3)
  (bH (cC (bY (mY hr.units) (bJ (bJ (bJ wr wa) bA) we) bA)
  (bH (bO wa))
  bT)))
  (bH (bO fJ))) ?_
 rintro _ R ⟨rs,wd,p,k,rfl,h,hp,hk,q,q0⟩;have at_:∀i,i<rs.length->k<(rAt rs i).1.length:=λi hi=>by rwa[h.wds _ (fX hi)]
 have few:=h.few;have lm:(rs.map rwT).length=rs.length:=ak _;refine⟨⟨by lia,by lia,by lia,by lia⟩,CN (λi o=>∃x,o=[.fz (.lst (rs.map rwT)),.fz (.int p),.fz (.int k),x]/\∀j,p<=j->j<p+i->vr (rAt rs j) k=0) _ 0 ⟨_,rfl,λj _ _=>by lia⟩ (λi t o e z=>?_) λo z=>?_⟩
 .obtain⟨hi,rfl⟩:=abN e;rw[lm]at hi;have eS:p+i<rs.length:=by omega
  obtain⟨x,rfl,hz⟩:=z;have v0:=abJ (h.big _ (fX eS)).pos (at_ _ eS);refine⟨_,vf eS,_,dg (aj (at_ _ eS)),?_⟩;by_cases c:(rAt rs (p+i)).1[k]'(at_ _ eS)=0
  .refine swF (by show xr true (decide (_=_))=false;rw[Zs c];rfl) ⟨_,rfl,λj hj hl=>?_⟩;by_cases ej:j=p+i
   .rw[ej];exact v0.mpr c
   .exact hz j hj wf
  .exact swT (by show xr true (decide (_=_))=true;rw[Zp c];rfl) (q _ (X2 _ _) eS λz=>c (v0.mp z))
 .obtain⟨x,rfl,hz⟩:=z;refine q0 λj hj hl=>hz j hj ?_;unfold rng;rw[ak,WP,lm];lia
def Ks:SO:=λtss ts R=>∃(rs:xf)(ss:zD)(st:Stp)(wd:Nat),tss=[rs.map rwT,ss]/\ts=[stT st]/\Rws rs wd/\an9 rs.length st/\ss.length<sizeLine/\R [(wN rs st).map rwT,ss++[stT st]]
def abH(T:Tx D):OkF P w K mg base 5 CG uw (spO K Ks):=ya T.agF λF=>by
 refine F.okO adY (λtss ts R ⟨rs,ss,st,wd,e1,e2,_⟩=>by rw[e1,e2];rfl) wb λah A outer s H E hr nd=>?_;refine⟨_,(bF (aiD 0 (Pr T) (bx we bC))
  (bH (oX 1 we))),?_⟩
 rintro as tss ts R tl ⟨rs,ss,st,wd,rfl,rfl,h,hs,hl,q⟩;obtain⟨a,b,rfl⟩ : ∃a b,as=[a,b]:=by
  match as,tl with
  |[a,b],_=>exact⟨a,b,rfl⟩
 refine⟨rs,st,wd,rfl,rfl,h,hs,hl,[(wN rs st).map rwT,ss++[stT st]],λj=>?_,rfl,q⟩
 match j with
 |0=>exact .inl rfl
 |1=>exact .inl rfl
 |j+2=>exact .inr wp
open Rw (vr jm jc oE gcL iG iJ sW lR Big pW j_ nU kZ oh gK)
def Jb{rs:xf}{r:Row}(h:i<rs.length)(j:Nat):rAt (rs.set i r) j=if j=i then r else rAt rs j:=by
 unfold rAt;rw[au,au,List.getElem?_set];by_cases e:i=j
 .subst e;rw[ZY rfl,ZY rfl,ZY h];rfl
 .rw[ZZ e,ZZ (Ne.symm e)]
def Fn.of{b:Int}(hb:b≠0)(h1:a.natAbs<=NN)(h2:b.natAbs<=NN):Fn (Rat.divInt a b):=by
 have hg:=Zzq a hb;have low:∃x y,Low a b x y:=by
  rcases Int.lt_or_lt_of_ne hb with z|z
  .exact⟨_,_,wH (c:=-((Int.gcd a b:Nat):Int)) hb wf wf (Int.mul_pos_of_neg_of_neg wf z)⟩
  .exact⟨_,_,wH (c:=((Int.gcd a b:Nat):Int)) hb wf wf (XZ wf z)⟩
 obtain⟨x,y,l⟩:=low;have e:=jG l hb;injection e with e;injection e with e1 e;injection e with e2 e;injection e1 with e1;injection e2 with e2;exact⟨by rw[<- e1];exact aL l.lx h1,by have:=l.ly;lia⟩
def acj{r:Row}(hk:k<r.1.length):vr r k=Rat.divInt r.1[k] r.2:=by
 unfold vr;rw[au,aj hk,Tu];rfl
def Fn.vr{r:Row}{k:Nat}(h:Big NN r)(hk:k<r.1.length):Fn (vr r k):=by
 have:=h.pos;rw[acj hk];exact Fn.of (WS this) (h.top _ (aU _)) h.bot
def Fn.inv(h:Fn c)(h0:c≠0):Fn (1/c):=by
 have nb:c.num≠0:=λz=>h0 (by rw[<- rd c,z];exact QY _);rw[Rat.div_def,Rat.one_mul,Rat.inv_def];exact Fn.of nb h.d h.n
def Fn.neg(h:Fn c):Fn (0-c):=by
 rw[Rat.sub_eq_add_neg,Rat.zero_add];exact⟨by show(-c.num).natAbs<=NN;rw[Int.natAbs_neg];exact h.n,h.d⟩
def Fn.bq(h:Fn c):Bq c:=⟨bdN h.n,bdN h.d⟩
def Rws.fn{rs:xf}(h:Rws rs wd)(hi:i<rs.length)(hk:k<wd):Fn (Rw.vr (rAt rs i) k):=Fn.vr (h.big _ (fX hi)) (by rwa[h.wds _ (fX hi)])
def Rws.of{rs dm:xf}(h:Rws rs wd)(hl:dm.length=rs.length)(hr:∀i,i<rs.length->Big NN (rAt dm i)/\(rAt dm i).1.length=wd):Rws dm wd:=by
 have:∀r∈dm,Big NN r/\r.1.length=wd:=λr hm=>by
  obtain⟨i,hi,e0⟩:=List.getElem_of_mem hm;have e:=zN hi;rw[aj hi,e0]at e;injection e with e;rw[e];exact hr i (hl ▸ hi)
 exact⟨λr hm=>(this r hm).1,λr hm=>(this r hm).2,hl ▸ h.few,h.wde⟩
def Jw(rs:xf)(st:Stp):(wN rs st).length=rs.length:=by cases st<;>simp[wN]
def bgP(r:Row)(k:Nat):Row:=if vr r k=1 then r else jm (jc r (pr (1/vr r k)))
def bgA(rs:xf)(p q k i:Nat):Row:=if i=p then bgP (rAt rs q) k else rAt rs (Rw.sw p q i)
def swR(rs:xf)(p q:Nat):xf:=if q=p then rs else wN rs (.swap p q)
def aeS(rs:xf)(p q:Nat):(swR rs p q).length=rs.length:=by
 unfold swR;split
 .rfl
 .exact Jw _ _
def ais{rs:xf}{p q:Nat}(hp:p<rs.length)(hq:q<rs.length)(i:Nat):rAt (swR rs p q) i=rAt rs (Rw.sw p q i):=by
 unfold swR Rw.sw;by_cases e:q=p
 .subst e;rw[ZY rfl];by_cases c:i=q
  .rw[ZY c,c]
  .rw[ZZ c,ZZ c]
 .rw[ZZ e];show rAt ((rs.set p (rAt rs q)).set q (rAt rs p)) i=_;rw[Jb (by rwa[VY]),Jb hp];by_cases c:i=q
  .subst c;rw[ZY rfl,ZZ e,ZY rfl]
  .rw[ZZ c];by_cases d:i=p
   .rw[ZY d,ZY d]
   .rw[ZZ d,ZZ d,ZZ c]
def Dz:SO:=λtss ts R=>∃(rs:xf)(ss:zD)(wd p q k:Nat),tss=[rs.map rwT,ss]/\ts=[.int p,.int q,.int k]/\Rws rs wd/\p<rs.length/\q<rs.length/\k<wd/\vr (rAt rs q) k≠0/\ss.length+2<sizeLine /\
 ∀dm i',dm.length=rs.length->(∀i,i<rs.length->rAt dm i=bgA rs p q k i)->i'.length<=ss.length+2->R [dm.map rwT,i']
def ajc{x y:RS}(J:zI->Prop)(k:∀o',J o'->y E o')(h:(∀o',J o'->y E o')->eG x y E o):eG x y E o:=h k
def eqR(v u:Rat):(decide (v.num=u.num)&&decide (((v.den:Nat):Int)=u.den))=decide (v=u):=by
 rw[<- Bool.decide_and];refine decide_eq_decide.mpr ⟨λ⟨a,b⟩=>Rat.ext a wf,λz=>by rw[z];exact⟨rfl,rfl⟩⟩
def fin2{R:wx->Prop}{a b:Addr}(L M:zD)(q:R [L,M]):∃bg,(∀j,slot (.la a L::.la b M::o) j=slot (List.zipWith OT.la [a,b] bg) j\/[a,b].length<=j)/\bg.length=[a,b].length/\R bg:=⟨[L,M],λj=>by
 match j with
 |0=>exact .inl rfl
 |1=>exact .inl rfl
 |j+2=>exact .inr wp,rfl,q⟩
def acP{β:Type}{as:List α}{x y:β}(tl : [x,y].length=as.length):∃a b,as=[a,b]:=by
 match as,tl with
 |[a,b],_=>exact⟨a,b,rfl⟩
def Ph(T:Tx D):OkF P w K mg base 6 vq lW (spO K Dz):=ya T.Wj λF=>by
 refine F.okO Ql (λtss ts R ⟨rs,ss,wd,p,q,k,e1,e2,_⟩=>by rw[e1,e2];rfl) wb λah A outer s H E hr nd=>?_;refine⟨_,(bF (cC (bY (mY hr.units) wa we)
  (bH (J1 0 1 (abH T) hr.md (by rfl) (bx (cN (bx m9 (bx we (bx wa bC)))) bC)))
  bT)
  (bF (bN 5 (bI (SJ T) (bx (uL 0 we) (bx wP bC))))
  (bH (cC (bY (mY hr.units) wE (jX T.Dt T.uP))
  (bH (J1 0 1 (abH T) hr.md (by rfl) (bx (cN (bx m9 (bx we (bx (bI (aeJ T) (bx (jX T.Dt T.uP) (bx wE bC))) bC)))) bC)))
  bT)))),?_⟩
 rintro as tss ts R tl ⟨rs,ss,wd,p,q,k,rfl,rfl,h,hp,hq,hk,h0,hl,ok⟩;obtain⟨a,b,rfl⟩:=acP tl;have sl:=aeS rs p q;have sa:=ais hp hq;have hJ:Rw.sw p q p=q:=ZY rfl;have swl:∀i,i<rs.length->Rw.sw p q i<rs.length:=λi hi=>by
  unfold Rw.sw;split
  .exact hq
  .split<;>omega
 have hS:Rws (swR rs p q) wd:=h.of sl λi hi=>by rw[sa];exact⟨h.big _ (fX (swl i hi)),h.wds _ (fX (swl i hi))⟩
 refine ajc (λo=>∃dP,o=[.la a ((swR rs p q).map rwT),.la b dP,.fz (.int p),.fz (.int q),.fz (.int k),.und]/\dP.length<=ss.length+1) ?_ λgo=>?_
 .rintro _ ⟨dP,rfl,l1⟩;have di:p<(swR rs p q).length:=by lia
  have hk':k<(rAt (swR rs p q) p).1.length:=by rwa[hS.wds _ (fX di)]
  have fn:=hS.fn di hk;refine⟨_,vf di,_,k,rfl,hk',hS.big _ (fX di),?_⟩;have v:vr (rAt (swR rs p q) p) k=vr (rAt rs q) k:=by rw[sa,hJ]
  rw[v];rw[v]at fn;by_cases e:vr (rAt rs q) k=1
  .refine swF (by show xr true (_&&_)=false;rw[show(decide ((vr (rAt rs q) k).num=1)&&decide (((vr (rAt rs q) k).den:Int)=1))=_ from eqR _ 1,Zs e];rfl) (fin2 _ _ (ok _ _ sl (λi hi=>?_) (aL l1 (Xs _))));rw[sa];unfold bgA bgP;split
   .rename_i c;rw[c,hJ]
   .rfl
  .refine swT (by show xr true (_&&_)=true;rw[show(decide ((vr (rAt rs q) k).num=1)&&decide (((vr (rAt rs q) k).den:Int)=1))=_ from eqR _ 1,Zp e];rfl) ⟨1,_,rfl,h0,bq1,fn.bq,by show Bd (1*_);rw[JJ];exact bdN fn.n,swR rs p q,dP,.times p (1/vr (rAt rs q) k),wd,rfl,rfl,hS,⟨di,fn.inv h0⟩,by lia,fin2 _ _ (ok _ _ (by rwa[Jw]) (λi hi=>?_) (by rw[aA];show _+1<=_;exact Nat.succ_le_succ l1))⟩;show rAt ((swR rs p q).set p _) i=_;rw[Jb di,sa,sa,hJ];unfold bgA bgP;split
   .rfl
   .rfl
 .by_cases e:q=p
  .refine swF (by show xr true (decide (_=_))=false;rw[Zs wf];rfl) (go [.la a (rs.map rwT),.la b ss,.fz (.int p),.fz (.int q),.fz (.int k),.und] ⟨ss,?_,by exact Xs _⟩);unfold swR;rw[ZY e]
  .refine swT (by show xr true (decide (_=_))=true;rw[Zp wf];rfl) ⟨rs,ss,.swap p q,wd,rfl,rfl,h,⟨hp,hq⟩,by lia,go [.la a ((wN rs (.swap p q)).map rwT),.la b (ss++[stT (.swap p q)]),.fz (.int p),.fz (.int q),.fz (.int k),.und] ⟨ss++[stT (.swap p q)],?_,by simp⟩⟩;unfold swR;rw[ZZ e]
open Rw (vr jm jc oE gcL iG iJ sW lR Big pW j_ nU kZ oh gK)
def clA(rs:xf)(p k i:Nat):Row:=if i=p\/vr (rAt rs i) k=0 then rAt rs i else jm (oE (rAt rs i) (rAt rs p) (pr (0-vr (rAt rs i) k)))
def v8:SO:=λtss ts R=>∃(rs:xf)(ss:zD)(wd p k:Nat),tss=[rs.map rwT,ss]/\ts=[.int p,.int k]/\Rws rs wd/\p<rs.length/\k<wd/\ss.length+rs.length<sizeLine/\(∀i,i<rs.length->Big NN (clA rs p k i)) /\
 ∀dm i',dm.length=rs.length->(∀i,i<rs.length->rAt dm i=clA rs p k i)->i'.length<=ss.length+rs.length->R [dm.map rwT,i']
def agy{rs:xf}{p:Nat}(h:Rws rs wd)(hp:p<rs.length)(hi:i<rs.length):(clA rs p k i).1.length=wd:=by
 unfold clA;split
 .exact h.wds _ (fX hi)
 .rw[kZ];show(List.zipWith _ (rAt rs i).1 (rAt rs p).1).length=wd;rw[TK,h.wds _ (fX hi),h.wds _ (fX hp),UU]
def HB(T:Tx D):OkF P w K mg base 6 oU iR (spO K v8):=ya T.K_ λF=>by
 refine F.okO HY (λtss ts R ⟨rs,ss,wd,p,k,e1,e2,_⟩=>by rw[e1,e2];rfl) wb λah A outer s H E hr nd=>?_;refine⟨_,(bH (eF (dZ T.fM (bx (Q6 0 (bR cJ T.dJ WG (bx wr bC))) bC)) (bW (n:=99) 4)
  (bH (cC (QW.qt (Yb (bY (mY hr.units) wP we) (Sd (bY (mY hr.units) (bJ (bJ (uL 0 wP) bA) wa) bA))))
  (bF (bN 5 (bI (adO T) (bx (jX T.gZ T.fY) (bx (bI (SJ T) (bx (uL 0 wP) (bx wa bC))) bC))))
  (bH (J1 0 1 (abH T) hr.md (by rfl) (bx (cN (bx m9 (bx wP (bx we (bx wE bC))))) bC))))
  bT)))),?_⟩
 rintro as tss ts R tl ⟨rs,ss,wd,p,k,rfl,rfl,h,hp,hk,hl,hb,ok⟩;obtain⟨a,b,rfl⟩:=acP tl;have lm:(rs.map rwT).length=rs.length:=ak _;have few:=h.few;refine⟨trivial,⟨by lia,by lia⟩,qz (λn o=>∃c8 dP x y,o=[.la a (c8.map rwT),.la b dP,.fz (.int p),.fz (.int k),x,y]/\c8.length=rs.length/\(∀i,i<rs.length->rAt c8 i=if i<n then clA rs p k i else rAt rs i)/\dP.length<=ss.length+n) ⟨rs,ss,_,_,rfl,rfl,λi _=>by rw[ZZ (WV _)],aG _⟩ ?_ ?_⟩
 .rintro n _ hn ⟨c8,dP,x,y,rfl,l1,g6,s1⟩;have hn:n<rs.length:=by rw[lm]at hn;lia
  have rn:rAt c8 n=rAt rs n:=by rw[g6 n hn,ZZ (X9 _)]
  have rp:rAt c8 p=rAt rs p:=by
   rw[g6 p hp];split
   .unfold clA;rw[ZY (.inl rfl)]
   .rfl
  have h1:Rws c8 wd:=h.of l1 λi hi=>by
   rw[g6 i hi];split
   .exact⟨hb i hi,agy h hp hi⟩
   .exact⟨h.big _ (fX hi),h.wds _ (fX hi)⟩
  have stay:clA rs p k n=rAt rs n->∀i,i<rs.length->rAt c8 i=if i<n+1 then clA rs p k i else rAt rs i:=λe i hi=>by
   rw[g6 i hi];by_cases c:i=n
   .subst c;rw[ZZ (X9 _),ZY (X1 _),e]
   .by_cases d:i<n
    .rw[ZY d,ZY (WU _ d)]
    .rw[ZZ d,ZZ wf]
  by_cases e:n=p
  .exact swF (by show xr true (decide (_=_))=false;rw[Zs wf];rfl) ⟨c8,dP,_,_,rfl,l1,stay (ZY (.inl e)),by lia⟩
  .have gV:n<c8.length:=by lia
   have hk1:k<(rAt c8 n).1.length:=by rwa[h1.wds _ (fX gV)]
   have v0:=abJ (h1.big _ (fX gV)).pos hk1;refine swT (by show xr true (decide (_=_))=true;rw[Zp wf];rfl) ⟨_,vf gV,_,dg (aj hk1),?_⟩;by_cases c:(rAt c8 n).1[k]'hk1=0
   .exact swF (by show xr true (decide (_=_))=false;rw[Zs c];rfl) ⟨c8,dP,_,_,rfl,l1,stay (ZY (.inr (by rw[<- rn];exact v0.mpr c))),by lia⟩
   .have fn:=h1.fn gV hk;refine swT (by show xr true (decide (_=_))=true;rw[Zp c];rfl) ⟨_,vf gV,_,k,rfl,hk1,h1.big _ (fX gV),0,_,rfl,bq0,fn.bq,by show Bd (1*_);rw[JJ];exact bdN fn.d,c8,dP,.add n p (0-vr (rAt c8 n) k),wd,rfl,rfl,h1,⟨gV,by lia,fn.neg⟩,by lia,wN c8 (.add n p (0-vr (rAt c8 n) k)),dP++[stT (.add n p (0-vr (rAt c8 n) k))],_,_,rfl,by rw[Jw];exact l1,λi hi=>?_,by rw[aA];show _+1<=_;lia⟩;show rAt (c8.set n _) i=_;rw[Jb gV,rn,rp];by_cases d:i=n
    .rw[ZY d,d,ZY (X1 _)];unfold clA;rw[ZZ λz=>z.elim e λz=>c (v0.mp (by rw[rn];exact z))]
    .rw[ZZ d,g6 i hi];by_cases d':i<n
     .rw[ZY d',ZY (WU _ d')]
     .rw[ZZ d',ZZ wf]
 .rintro _ ⟨c8,dP,x,y,rfl,l1,g6,s1⟩;rw[lm]at g6 s1;exact fin2 _ _ (ok c8 dP l1 (λi hi=>by rw[g6 i hi,ZY wf]) wf)
open Rw (vr jm jc oE gcL iG iJ sW lR Big pW j_ nU kZ oh gK sg gw fH bV fQ gA)
def abM(c:Rat):(((pr c).1:Int):Rat)/(((pr c).2:Int):Rat)=c:=by rw[<- Tu];exact rd c
def RJ(c:Rat):0<(pr c).2:=by have:=c.den_pos;show(0:Int)<(c.den:Nat);lia
def Zj{r:Row}(h:0<r.2):0<(jm r).2:=Zyz h (XY (iG h)) iJ.1
def ajf{r:Row}(h:0<r.2)(h0:vr r k≠0):0<(bgP r k).2/\(bgP r k).1.length=r.1.length/\(gcL (bgP r k).1 (bgP r k).2=1\/bgP r k=r)/\∀j,vr (bgP r k) j*vr r k=vr r j:=by
 unfold bgP;by_cases e:vr r k=1
 .rw[ZY e];exact⟨h,rfl,.inr rfl,λj=>by rw[e,Rat.mul_one]⟩
 .rw[ZZ e];have tp:0<(jc r (pr (1/vr r k))).2:=XZ h (RJ _);refine⟨Zj tp,by rw[kZ];unfold jc;rw[ak],.inl (lR tp),λj=>?_⟩;rw[pW tp,j_ h (RJ _),abM]
  grind
def ajq{rs:xf}{p:Nat}(hi:0<(rAt rs i).2)(hp:0<(rAt rs p).2)(hl:(rAt rs i).1.length=(rAt rs p).1.length):0<(clA rs p k i).2/\(gcL (clA rs p k i).1 (clA rs p k i).2=1\/clA rs p k i=rAt rs i)/\∀j,vr (clA rs p k i) j=if i=p then vr (rAt rs p) j else vr (rAt rs i) j-vr (rAt rs i) k*vr (rAt rs p) j:=by
 unfold clA;by_cases e:i=p
 .rw[ZY (.inl e)];exact⟨hi,.inr rfl,λj=>by rw[ZY e,e]⟩
 .by_cases z:vr (rAt rs i) k=0
  .rw[ZY (.inr z)];exact⟨hi,.inr rfl,λj=>by rw[ZZ e,z];grind⟩
  .rw[ZZ λy=>y.elim e z];have tp:0<(oE (rAt rs i) (rAt rs p) (pr (0-vr (rAt rs i) k))).2:=by
    have hB:=XZ hp (RJ (0-vr (rAt rs i) k));exact XZ hi (Zyz hB (XY (n6 (WS hB))) (Q1 _ _))
   refine⟨Zj tp,.inl (lR tp),λj=>?_⟩;rw[pW tp,nU hi hp (RJ _) hl,abM,ZZ e]
   grind
structure FnB(M:Nat)(c:Rat):Prop where
 n:c.num.natAbs<=M
 d:c.den<=M
def FnB.vr{M:Nat}{r:Row}{k:Nat}(h:Big M r)(hk:k<r.1.length):FnB M (Rw.vr r k):=by
 have hb:=h.pos;have hg:=Zzq r.1[k] (WS hb);have l:=wH (t:=r.1[k]) (c:=((Int.gcd r.1[k] r.2:Nat):Int)) (WS hb) wf wf (XZ wf hb);have e:=jG l (WS hb);rw[acj hk];injection e with e;injection e with e1 e;injection e with e2 e;injection e1 with e1;injection e2 with e2;exact⟨by rw[<- e1];exact aL l.lx (h.top _ (aU _)),by have:=l.ly;have:=h.bot;omega⟩
structure B0(rs0:xf)(wd N:Nat):Prop where
 big:∀i,i<rs0.length->Big N (rAt rs0 i)/\(rAt rs0 i).1.length=wd
 one:1<=N
 mb:(2*rs0.length*N)^rs0.length<=NN
 nn:N<=NN
abbrev aT(rs0:xf)(i j:Nat):Int:=(rAt rs0 i).1.getD j 0
abbrev aB(rs0:xf)(i:Nat):Int:=(rAt rs0 i).2
structure Gs(rs0:xf)(wd N c:Nat)(rs:xf):Prop where
 len:rs.length=rs0.length
 row:∀i,i<rs0.length->0<(rAt rs i).2/\(rAt rs i).1.length=wd/\(gcL (rAt rs i).1 (rAt rs i).2=1\/Big N (rAt rs i))
 st:∃pv s,gK (aT rs0) (aB rs0) rs0.length wd (λi j=>vr (rAt rs i) j) c pv s
 unit:∀i l,i<rs0.length->l<c->vr (rAt rs i) l=if i=l then 1 else 0
 ker:∀x:Nat->Rat,(∀i,i<rs0.length->sg (λj=>vr (rAt rs i) j*x j) wd=0)->∀i,i<rs0.length->sg (λj=>vr (rAt rs0 i) j*x j) wd=0
section
variable{rs0 rs:xf}{wd N c q:Nat}
def B0.zero(h:B0 rs0 wd N):Gs rs0 wd N 0 rs0:=⟨rfl,λi hi=>⟨(h.big i hi).1.pos,(h.big i hi).2,.inr (h.big i hi).1⟩,⟨λ_=>0,id,gK.zero λi hi=>(h.big i hi).1.pos⟩,λ_ _ _ z=>absurd z (WV _),λ_ z=>z⟩
def apI{N:Nat}(hm:1<=m)(h1:1<=N):N<=(2*m*N)^m:=by
  have x:N<=2*m*N:=Zyy _ wf;have y:1<=2*m*N:=W1 (show 1<=2*m by lia) h1
  calc N<=(2*m*N)^1:=by rwa[Nat.pow_one]
    _<=_:=XT y hm
def B0.sbigM(h:B0 rs0 wd N){R:Nat->Nat->Rat}{p:Nat}(st:∃pv s,gK (aT rs0) (aB rs0) rs0.length wd R p pv s)(hi:i<rs0.length){r:Row}(hr:0<r.2)(hw:r.1.length=wd)(g:gcL r.1 r.2=1\/Big N r)(e:∀j,j<wd->vr r j=R i j):Big ((2*rs0.length*N)^rs0.length) r:=by
 rcases g with g|g
 .obtain⟨pv,s,st⟩:=st;obtain⟨v,u,u0,ub,vb,ee⟩:=st.bound h.one (λi j hi hj=>by
   have b:=h.big i hi;show((rAt rs0 i).1.getD j 0).natAbs<=N;rw[au,aj (by rwa[b.2])];exact b.1.top _ (aU _)) (λi hi=>⟨(h.big i hi).1.pos,(h.big i hi).1.bot⟩) hi
  exact oh hr g hw u0 ub vb λj hj=>by rw[e j hj];exact ee j hj
 .exact g.le (apI wf h.one)
def B0.sbig(h:B0 rs0 wd N){R:Nat->Nat->Rat}{p:Nat}(st:∃pv s,gK (aT rs0) (aB rs0) rs0.length wd R p pv s)(hi:i<rs0.length){r:Row}(hr:0<r.2)(hw:r.1.length=wd)(g:gcL r.1 r.2=1\/Big N r)(e:∀j,j<wd->vr r j=R i j):Big NN r:=(h.sbigM st hi hr hw g e).le h.mb
def Gs.bigM(g:Gs rs0 wd N c rs)(h:B0 rs0 wd N)(hi:i<rs0.length):Big ((2*rs0.length*N)^rs0.length) (rAt rs i):=h.sbigM g.st hi (g.row i hi).1 (g.row i hi).2.1 (g.row i hi).2.2 λ_ _=>rfl
def Gs.big(g:Gs rs0 wd N c rs)(h:B0 rs0 wd N)(hi:i<rs0.length):Big NN (rAt rs i):=h.sbig g.st hi (g.row i hi).1 (g.row i hi).2.1 (g.row i hi).2.2 λ_ _=>rfl
def YX{p q:Nat}(hp:p<m)(hq:q<m)(hi:i<m):Rw.sw p q i<m:=by
 unfold Rw.sw;split
 .exact hq
 .split<;>omega
def agH(p q i:Nat):Rw.sw p q (Rw.sw p q i)=i:=by
 unfold Rw.sw;by_cases a:i=p
 .subst a;rw[ZY rfl];by_cases b:q=i
  .rw[ZY b,b]
  .rw[ZZ b,ZY rfl]
 .by_cases b:i=q
  .subst b;rw[ZZ a,ZY rfl,ZY rfl]
  .rw[ZZ a,ZZ b,ZZ a,ZZ b]
def Gs.next(g:Gs rs0 wd N c rs)(h:B0 rs0 wd N)(hc:c<rs0.length)(cw:c<wd)(hq:c<=q)(c9:q<rs0.length)(h0:vr (rAt rs q) c≠0){rs2:xf}(e2:∀i,i<rs0.length->rAt rs2 i=bgA rs c q c i) :
  (∀i,i<rs0.length->Big NN (rAt rs2 i)/\(rAt rs2 i).1.length=wd)/\(∀i,i<rs0.length->Big NN (clA rs2 c c i))/\∀hV:xf,hV.length=rs0.length->(∀i,i<rs0.length->rAt hV i=clA rs2 c c i)->Gs rs0 wd N (c+1) hV:=by
 have hJ:Rw.sw c q c=q:=ZY rfl;obtain⟨b1,b2,b3,b4⟩:=ajf (g.row q c9).1 h0;have ec:rAt rs2 c=bgP (rAt rs q) c:=by rw[e2 c hc];exact ZY rfl
 have ei:∀i,i<rs0.length->i≠c->rAt rs2 i=rAt rs (Rw.sw c q i):=λi hi ne=>by rw[e2 i hi];exact ZZ ne
 have ci:∀i,i<rs0.length->0<(rAt rs2 i).2/\(rAt rs2 i).1.length=wd/\(gcL (rAt rs2 i).1 (rAt rs2 i).2=1\/Big N (rAt rs2 i)):=λi hi=>by
  by_cases e:i=c
  .rw[e,ec];refine⟨b1,by rw[b2];exact(g.row q c9).2.1,b3.elim .inl λz=>?_⟩;rw[z];exact(g.row q c9).2.2
  .rw[ei i hi e];exact g.row _ (YX hc c9 hi)
 have cl:=λi(hi:i<rs0.length)=>ajq (rs:=rs2) (p:=c) (k:=c) (i:=i) (ci i hi).1 (ci c hc).1 (by rw[(ci i hi).2.1,(ci c hc).2.1]);have clw:∀i,i<rs0.length->(clA rs2 c c i).1.length=wd:=λi hi=>by
  unfold clA;split
  .exact(ci i hi).2.1
  .rw[kZ];show(List.zipWith _ (rAt rs2 i).1 (rAt rs2 c).1).length=wd;rw[TK,(ci i hi).2.1,(ci c hc).2.1,UU]
 have clg:∀i,i<rs0.length->gcL (clA rs2 c c i).1 (clA rs2 c c i).2=1\/Big N (clA rs2 c c i):=λi hi=>(cl i hi).2.1.elim .inl λz=>by rw[z];exact(ci i hi).2.2
 have Vc:∀j,vr (clA rs2 c c c) j*vr (rAt rs q) c=vr (rAt rs q) j:=λj=>by
  rw[(cl c hc).2.2 j,ZY rfl,ec];exact b4 j
 have Vi:∀i,i<rs0.length->i≠c->∀j,vr (clA rs2 c c i) j=vr (rAt rs (Rw.sw c q i)) j-vr (rAt rs (Rw.sw c q i)) c*vr (clA rs2 c c c) j:=λi hi ne j=>by
  rw[(cl i hi).2.2 j,(cl c hc).2.2 j,ZZ ne,ZY rfl,ei i hi ne]
 have dk:∃pv s,gK (aT rs0) (aB rs0) rs0.length wd (λi j=>vr (clA rs2 c c i) j) (c+1) pv s:=by
  obtain⟨pv,s,st⟩:=g.st;have s1:=st.swap hq c9 (R':=λi j=>vr (rAt rs (Rw.sw c q i)) j) λi j _ _=>rfl;exact⟨_,_,s1.pivot hc (λi hi=>(h.big i hi).1.pos) cw (by show vr (rAt rs (Rw.sw c q c)) c≠0;rwa[hJ]) (R':=λi j=>vr (clA rs2 c c i) j) (λj _=>by show vr (clA rs2 c c c) j*vr (rAt rs (Rw.sw c q c)) c=vr (rAt rs (Rw.sw c q c)) j;rw[hJ];exact Vc j) λi j hi ne _=>Vi i hi ne j⟩
 have qf:∀i,i<rs0.length->Big NN (clA rs2 c c i):=λi hi=>h.sbig dk hi (cl i hi).1 (clw i hi) (clg i hi) λ_ _=>rfl;refine⟨λi hi=>⟨?_,(ci i hi).2.1⟩,qf,λhV l3 e3=>⟨l3,λi hi=>by rw[e3 i hi];exact⟨(cl i hi).1,clw i hi,clg i hi⟩,?_,λi l hi hl=>?_,λx hx=>g.ker x λi hi=>?_⟩⟩
 .by_cases e:i=c
  .rw[e];refine h.sbig dk hc (ci c hc).1 (ci c hc).2.1 (ci c hc).2.2 λj _=>?_;show _=vr (clA rs2 c c c) j;rw[(cl c hc).2.2 j,ZY rfl]
  .rw[ei i hi e];exact g.big h (YX hc c9 hi)
 .obtain⟨pv,s,st⟩:=dk;exact⟨pv,s,st.congr λi j hi=>by rw[e3 i hi]⟩
 .rw[e3 i hi];have v0:l<c->vr (clA rs2 c c c) l=0:=λhl=>by
   have:=Vc l;rw[g.unit q l c9 hl,ZZ wf]at this
   grind
  have v1:vr (clA rs2 c c c) c=1:=by
   have:=Vc c
   grind
  by_cases e:i=c
  .subst e;by_cases z:l<i
   .rw[v0 z,ZZ (UY z)]
   .rw[show l=i by lia,v1,ZY rfl]
  .rw[Vi i hi e l];by_cases z:l<c
   .rw[v0 z,g.unit _ l (YX hc c9 hi) z];have:(Rw.sw c q i=l)=(i=l):=by
     unfold Rw.sw;rw[ZZ e];split
     .exact propext ⟨λ_=>by lia,λ_=>by lia⟩
     .rfl
    simp only[this]
    grind
   .rw[show l=c by lia,v1,ZZ e]
    grind
 .have oS:=hx c hc;rw[e3 c hc]at oS;by_cases e:i=q
  .rw[e,bV (g:=λj=>vr (rAt rs q) c*(vr (clA rs2 c c c) j*x j)) λj _=>by rw[<- Vc j];grind,fH,oS]
   grind
  .have hs:=YX hc c9 hi;have ne:Rw.sw c q i≠c:=λz=>by
    have:=agH c q i;rw[z,hJ]at this;exact e this.symm
   have hi0:=hx _ hs;rw[e3 _ hs]at hi0;rw[bV (g:=λj=>vr (clA rs2 c c (Rw.sw c q i)) j*x j+vr (rAt rs i) c*(vr (clA rs2 c c c) j*x j)) λj _=>by rw[Vi _ hs ne,agH];grind,gw,fH,oS,hi0]
   grind
def Gs.found(g:Gs rs0 wd N c rs)(hc:c<rs0.length)(cw:c<wd)(inj:∀x:Nat->Rat,(∀j,rs0.length<=j->x j=0)->(∀i,i<rs0.length->sg (λj=>vr (rAt rs0 i) j*x j) wd=0)->∀j,j<rs0.length->x j=0):¬∀i,c<=i->i<rs0.length->vr (rAt rs i) c=0:=λhz=>by
 have:=inj (λj=>if j<c then -(vr (rAt rs j) c)else if j=c then 1 else 0) (λj hj=>by rw[ZZ wf,ZZ wf]) (g.ker _ λi hi=>?_) c hc
 .rw[ZZ (X9 _),ZY rfl]at this;exact absurd this wb
 .rw[bV (g:=λj=>(if j=i then 1 else 0)*(if j<c then -(vr (rAt rs j) c)else 0)+(if j=c then 1 else 0)*vr (rAt rs i) c) λj hj=>?_,gw,gA (v:=λj=>if j<c then -(vr (rAt rs j) c)else 0),gA (v:=λ_=>vr (rAt rs i) c),ZY cw]
  .by_cases e:i<c
   .rw[ZY (U2 e cw),ZY e]
    grind
   .rw[hz i (VT e) hi];rw[ZZ e]
    grind
  .by_cases a:j<c
   .rw[ZY a,ZY a,g.unit i j hi a,ZZ (show j≠c by exact aQ a)];by_cases b:i=j
    .rw[ZY b,ZY b.symm];grind
    .rw[ZZ b,ZZ (Ne.symm b)];grind
   .rw[ZZ a,ZZ a];by_cases b:j=c
    .rw[ZY b,b];grind
    .rw[ZZ b];grind
def Gs.answer(g:Gs rs0 (rs0.length+1) N rs0.length rs)(hi:i<rs0.length):sg (λj=>vr (rAt rs0 i) j*vr (rAt rs j) rs0.length) rs0.length=vr (rAt rs0 i) rs0.length:=by
 have:=g.ker (λj=>if j<rs0.length then vr (rAt rs j) rs0.length else -1) (λi hi=>?_) i hi
 .show _=_;rw[show sg (λj=>vr (rAt rs0 i) j*(if j<rs0.length then vr (rAt rs j) rs0.length else -1)) (rs0.length+1)=sg (λj=>vr (rAt rs0 i) j*(if j<rs0.length then vr (rAt rs j) rs0.length else -1)) rs0.length+vr (rAt rs0 i) rs0.length*(if rs0.length<rs0.length then vr (rAt rs rs0.length) rs0.length else -1)from rfl,ZZ (X9 _),bV (g:=λj=>vr (rAt rs0 i) j*vr (rAt rs j) rs0.length) λj hj=>by rw[ZY hj]]at this
  grind
 .rw[show sg (λj=>vr (rAt rs i) j*(if j<rs0.length then vr (rAt rs j) rs0.length else -1)) (rs0.length+1)=sg (λj=>vr (rAt rs i) j*(if j<rs0.length then vr (rAt rs j) rs0.length else -1)) rs0.length+vr (rAt rs i) rs0.length*(if rs0.length<rs0.length then vr (rAt rs rs0.length) rs0.length else -1)from rfl,ZZ (X9 _),bV (g:=λj=>(if j=i then 1 else 0)*vr (rAt rs j) rs0.length) λj hj=>by rw[ZY hj,g.unit i j hi hj];simp only[eq_comm],gA (v:=λj=>vr (rAt rs j) rs0.length),ZY hi]
  grind
end
open Rw (vr jm jc oE gcL iG iJ sW lR Big pW j_ nU kZ oh gK sg gw fH bV fQ gA)
abbrev mZ(r:xj):Row:=(tops (cF 1 r) r,((cF 1 r:Nat):Int))
abbrev wM(r:xj):T:=.lst (r.map frR)
def af2(r:xj):(mZ r).1.length=r.length:=ak _
def Tc(r:xj)(j:Nat):vr (mZ r) j=r.getD j 0:=by
 unfold vr;have hB:=gD r US;show(((tops (cF 1 r) r).getD j 0:Int):Rat)/(((cF 1 r:Nat):Int):Rat)=_;unfold tops;rw[au,au,aq];by_cases h:j<r.length
 .rw[aj h];show((r[j].num*((cF 1 r/r[j].den:Nat):Int):Int):Rat)/_=r[j];obtain⟨k,hk⟩:=(j6 r (n:=1)).2 r[j] (aU h);have hd:=r[j].den_pos;rw[show cF 1 r/r[j].den=k by rw[hk];exact Nat.mul_div_cancel_left _ hd];have kq:k≠0:=λz=>by rw[z]at hk;lia
  rw[<- Tu,hk,TZ,Rat.divInt_mul_right wf];exact rd _
 .rw[aM (Nat.not_lt.mp h)];show((0:Int):Rat)/_=0
  grind
structure Sys(ae:wv)(N:Nat):Prop where
 wid:∀r∈ae,r.length=ae.length+1
 few:ae.length<=100
 lev:∀r∈ae,Big N (mZ r)
 num:∀r∈ae,∀c∈r,Bd c.num
 one:1<=N
 mb:(2*ae.length*N)^ae.length<=NN
 nn:N<=NN
 inj:∀x:Nat->Rat,(∀j,ae.length<=j->x j=0)->(∀r∈ae,sg (λj=>r.getD j 0*x j) (ae.length+1)=0)->∀j,j<ae.length->x j=0
def R5(h:i<ae.length):rAt (ae.map mZ) i=mZ ae[i]:=by
 have:=zN (rs:=ae.map mZ) (i:=i) (by rwa[ak]);rw[aq,aj h]at this;injection this with this;exact this.symm
def Sys.b0(h:Sys ae N):B0 (ae.map mZ) (ae.length+1) N:=⟨λi hi=>by
 rw[ak]at hi;rw[R5 hi];exact⟨h.lev _ (aU hi),by rw[af2];exact h.wid _ (aU hi)⟩,h.one,by rw[ak];exact h.mb,h.nn⟩
def Rws.mk'{rs:xf}(hr:∀i,i<rs.length->Big NN (rAt rs i)/\(rAt rs i).1.length=wd)(h1:rs.length<=100)(h2:wd<=1000):Rws rs wd:=by
 have:∀r∈rs,Big NN r/\r.1.length=wd:=λr hm=>by
  obtain⟨i,hi,e0⟩:=List.getElem_of_mem hm;have e:=zN hi;rw[aj hi,e0]at e;injection e with e;rw[e];exact hr i hi
 exact⟨λr hm=>(this r hm).1,λr hm=>(this r hm).2,h1,h2⟩
def Sys.rws{c:Nat}{rs:xf}(h:Sys ae N)(g:Gs (ae.map mZ) (ae.length+1) N c rs):Rws rs (ae.length+1):=by
 have l:=g.len;have few:=h.few;rw[ak]at l;refine Rws.mk' (λi hi=>?_) (aL (WH l) few) wf;have eS:i<(ae.map mZ).length:=by rw[g.len]at hi;exact hi
 exact⟨g.big h.b0 eS,(g.row i eS).2.1⟩
def aiT(hi:i<ae.length)(x:Nat->Rat):sg (λj=>vr (rAt (ae.map mZ) i) j*x j) n=sg (λj=>ae[i].getD j 0*x j) n:=bV λj _=>by rw[R5 hi,Tc]
def Sys.inj'(h:Sys ae N):∀x:Nat->Rat,(∀j,(ae.map mZ).length<=j->x j=0)->(∀i,i<(ae.map mZ).length->sg (λj=>vr (rAt (ae.map mZ) i) j*x j) (ae.length+1)=0)->∀j,j<(ae.map mZ).length->x j=0:=by
 rw[ak];intro x h1 h2;refine h.inj x h1 λr hr=>?_;obtain⟨i,hi,rfl⟩:=List.getElem_of_mem hr;rw[<- aiT hi];exact h2 i hi
def Mt(m:Nat)(y:Nat->Rat):zD:=(List.range m).map λi=>.lst ((List.range (m+1)).map λj=>frR (if j<m then if i=j then 1 else 0 else y i))
def aiH{rs:xf}(h:Sys ae N)(g:Gs (ae.map mZ) (ae.length+1) N ae.length rs):(rs.map λr=>T.lst ((List.range (ae.length+1)).map λk=>frR (vr r k)))=Mt ae.length λi=>vr (rAt rs i) ae.length:=by
 have l:=g.len;rw[ak]at l;unfold Mt;refine T2 (by rw[ak,ak,WP,l]) λi h1 h2=>?_;rw[ak]at h1;rw[UX,UX,QU];have e:=zN h1;rw[aj h1]at e;injection e with e;rw[e]
 congr 1
 refine UQ λj hj=>?_;have hj:=List.mem_range.mp hj;by_cases c:j<ae.length
 .rw[ZY c,g.unit i j (by rw[ak];exact aR h1 (WH l)) c]
 .rw[ZZ c,show j=ae.length by lia]
def ajr{rs:xf}(g:Gs (ae.map mZ) (ae.length+1) N ae.length rs):∀r∈ae,sg (λj=>r.getD j 0*vr (rAt rs j) ae.length) ae.length=r.getD ae.length 0:=λr hr=>by
 obtain⟨i,hi,rfl⟩:=List.getElem_of_mem hr;have l:(ae.map mZ).length=ae.length:=ak _;have:=Gs.answer (rs0:=ae.map mZ) (N:=N) (rs:=rs) (by rwa[l]) (i:=i) (by rwa[l]);rw[l,R5 hi,Tc]at this;rw[<- this];exact bV λj _=>by rw[Tc]
def KC:ST:=λts R=>∃(ae:wv)(N:Nat),ts=[.lst (ae.map wM),.int ae.length]/\Sys ae N/\∀(ss:zD)(y:Nat->Rat),(∀r∈ae,sg (λj=>r.getD j 0*y j) ae.length=r.getD ae.length 0)->(∀i,i<ae.length->FnB ((2*ae.length*N)^ae.length) (y i))->R (.fz (.tup [.lst ss,.lst (Mt ae.length y)]))
def Yh(T:Tx D):gT 7 BL qR KC:=ya T.aau λF=>by
 refine F.okT JC (λhr _=>bF (ahv (bG Ab) Gi Gi ["row"] (cI wr) (gk (i:=0)) cD (bI (aeu T) (bx wr bC)) (jQ (i:=2) JC.nd rfl (Or.inl rfl)))
  (bF (gQ 3 (dh bC))
  (bF (bN 4 bA)
  (bF (eF (dZ T.fM (bx wn bC)) (bW (n:=99) 5)
  (bF (bN 6 (Q6 2 (bI (M9 T) (bx we (bx wP (bx wE bC))))))
  (bH (cC (bY Jd (qv 6) fJ)
  (bF (J1 2 3 (Ph T) hr.md (by rfl) (bx wP (bx (qv 6) (bx wE bC))))
  (bF (J1 2 3 (HB T) hr.md (by rfl) (bx wP (bx wE bC)))
  (bH (ah9 4 ahm bA))))
  bT))))
  (bH (Gy 3 (Gy 2 (bO (cN (bx wa (bx (bI (H_ T) (bx we bC)) bC))))))))))) ?_
 rintro _ R ⟨ae,N,rfl,h,ok⟩;have lm:(ae.map wM).length=ae.length:=ak _;have ll:(ae.map mZ).length=ae.length:=ak _;have few:=h.few;have b0:=h.b0;have e0:(ae.map λr=>rwT (mZ r))=(ae.map mZ).map rwT:=by rw[WJ];rfl
 refine⟨by rw[lm];exact aL few wb,comp_map wM (λr=>rwT (mZ r)) ae (λr hr N' M hN=>⟨r,rfl,by rw[h.wid r hr];lia,h.num r hr,bdN (aL (h.lev r hr).bot h.nn),hN⟩) ?_⟩;rw[e0];refine⟨⟨by lia,by lia⟩,qz (λc o=>∃rs ss x y,o=[.fz (.lst (ae.map wM)),.fz (.int ae.length),.l1 (rs.map rwT),.l1 ss,.fz (.int (c:Nat)),x,y]/\Gs (ae.map mZ) (ae.length+1) N c rs/\ss.length<=102*c) ⟨_,[],_,_,rfl,b0.zero,aG _⟩ ?_ ?_⟩
 .rintro c _ hc ⟨rs,ss,x,y,rfl,g,sl⟩;have hc:c<ae.length:=by lia
  have de:c<(ae.map mZ).length:=by lia
  have l:=g.len;have hR:=h.rws g;have big:(20000:Nat)<sizeLine:=by decide
  refine⟨rs,_,c,c,rfl,hR,by lia,by exact WU _ hc,λq h1 h2 h3=>⟨trivial,rs,ss,_,c,q,c,rfl,rfl,hR,by exact Y3 h1 h2,h2,by exact WU _ hc,h3,by lia,λrs2 ss2 l2 e2 s2=>?_⟩,λz=>(g.found de (WU _ hc) h.inj' λi a b=>z i a wf).elim⟩;obtain⟨n1,n2,n3⟩:=g.next b0 de (WU _ hc) h1 (aR h2 (WH l)) h3 (rs2:=rs2) λi hi=>e2 i wf;exact⟨rs2,ss2,_,c,c,rfl,rfl,Rws.mk' (λi hi=>n1 i wf) wf wf,by lia,by exact WU _ hc,by lia,λi hi=>n2 i wf,λhV ss3 l3 e3 s3=>⟨hV,ss3,.fz (.int c),.fz (.int q),rfl,n3 hV wf λi hi=>e3 i wf,by lia⟩⟩
 .rintro _ ⟨rs,ss,x,y,rfl,g,sl⟩;have g:Gs (ae.map mZ) (ae.length+1) N ae.length rs:=g;have hR:=h.rws g;have l:=g.len;refine⟨rs,_,rfl,hR,?_⟩;have:=ok ss _ (ajr g) λi hi=>by
   have eS:i<(ae.map mZ).length:=by lia
   have b:=g.bigM b0 eS;rw[ll]at b;exact FnB.vr b (by rw[(g.row i eS).2.1];exact X1 _)
  rw[<- aiH h g]at this;exact this
open Rw (vr jm jc oE gcL iG iJ sW lR Big pW j_ nU kZ oh gK sg gw fH bV fQ gA)
def GQ:ST:=λts q=>∃(ae:wv)(n:Nat),ts=[.lst (ae.map wM)]/\(∀r∈ae,r.length=n)/\(ae=[]->n=0)/\q (.fz (.int n))
def U9(T:Tx D):gT 1 yC oG GQ:=ya T.WT λF=>by
 refine F.okT Vx (λhr _=>bF (cC (bY (go_eq hr.units) (bR cJ T.dJ WG (bx wr bC)) bA)
  (bH (bO bA))
  bT)
  (bH (bO (bR cJ T.dJ WG (bx (bJ wr bA) bC))))) ?_
 rintro _ R ⟨ae,n,rfl,h,h0,q⟩
 match ae,h,h0 with
 |[],h,h0=>rw[h0 rfl]at q;exact q
 |r::ae,h,h0 =>
  have e:(r.map frR).length=n:=by rw[ak];exact h r (aO ..)
  rw[<- e]at q;exact⟨_,rfl,q⟩
theorem UW(i:Nat):∀m,(List.range m).filter (λj=>decide (j=i))=if i<m then[i]else[]
 |0=>by rw[ZZ (WV _)];rfl
 |m+1=>by
  rw[List.range_succ,List.filter_append,UW i m];by_cases e:m=i
  .subst e;rw[ZZ (X9 _),ZY (X1 _)];simp
  .rw[List.filter_cons_of_neg (by simpa using e)];by_cases c:i<m
   .rw[ZY c,ZY (WU _ c)];rfl
   .rw[ZZ c,ZZ wf];rfl
def yP:ST:=λts q=>∃(ae:wv)(aw:xj),ts=[.lst (ae.map wM),.lst (aw.map frR)]/\ae.length<=100/\(∀r∈ae,r.length<=100)/\q (.l1 ((List.zipWith (λr c=>r++[c]) ae aw).map wM))
def JB(T:Tx D):gT 1 qg jh yP:=ya T.Nx λF=>by
 refine F.okT K8 (λ_ _=>bH (bO (eU (bG nY) su su ["row","right"] (TF T.Wb (bx wr (bx wn bC))) (fj (n:=2) (bQ (gk (i:=0)) (bQ (gk (i:=1)) dB))) cD (bL cL wr (dh (bx wn bC)))))) ?_;rintro _ R ⟨ae,aw,rfl,h1,h2,q⟩;have zl:(ae.zip aw).length<=ae.length:=by rw[VU];exact Nat.min_le_left ..
 refine⟨by unfold La;rw[ak,VU,ak,ak];exact aL (aL (Nat.min_le_left ..) h1) wb,?_⟩;rw[zip_map];refine comp_map (λp=>.tup [wM p.1,frR p.2]) (λp=>wM (p.1++[p.2])) (ae.zip aw) (λp hp N M hN=>⟨rfl,?a,?b⟩) ?c
 case a =>
  have:=h2 _ (UR hp).1;show(p.1.map frR).length+1<=sizeLine;rw[ak];exact aL (show _<=101 by exact Nat.succ_le_succ this) wb
 case b =>
  show N (.lst (p.1.map frR++[frR p.2]));rw[show(p.1.map frR++[frR p.2])=(p.1++[p.2]).map frR by rw[bf];rfl];exact hN
 case c =>
  rw[List.map_zipWith]at q;rw[List.zip,List.map_zipWith];exact q
def CV:ST:=λts q=>∃(m:Nat)(y:Nat->Rat),ts=[.lst (Mt m y),.int m]/\m<=100/\q (.l1 ((List.range m).map λi:Nat=>.int i))
def Ra(T:Tx D):gT 1 uU mQ CV:=ya T.Vk λF=>by
 refine F.okT Er (λhr _=>bF (gQ 2 (dh bC))
  (bF (eF (cI wr) (bW (n:=99) 3)
  (bF (rN (bG rE) yK yK ["column"] (dZ T.fM (bx wn bC)) (gk (i:=0)) (Zz (bY (mY hr.units) (bJ wP wr) (jX T.gZ T.fY))) wr (jQ (i:=4) Er.nd rfl (Or.inl rfl)))
  (bH (cC (bY JR (bR cJ T.dJ WG (bx wP bC)) bA)
  (bH (oX 2 (bJ wP bA)))
  bT))))
  (bH (jL 2)))) ?_
 rintro _ R ⟨m,y,rfl,h,q⟩;have sz:(1000:Nat)<=sizeLine:=by decide
 refine iM _ (List.range m) (λas o=>∃x z,o=[.fz (.lst (Mt m y)),.fz (.int m),.l1 (as.map λi:Nat=>.int i),x,z]) ⟨_,_,rfl⟩ ?_ ?_
 .rintro as i bs _ e ⟨x,z,rfl⟩;have hi:i<m:=List.mem_range.mp (e ▸ by simp);have la:as.length<m:=by have:=ZH List.length e;rw[WP,aA,List.length_cons]at this;lia
  refine⟨⟨by lia,by lia⟩,by rw[rng,ak,WP];exact aL (show _<=1000 by lia) sz,rM (λk:Nat=>.int (0+k)) (λj=>decide (j=i)) (λj=>.int (0+(j:Nat))) (List.range m) (λj hj N M h1 h2=>?_) ?_⟩
  .have hj:=List.mem_range.mp hj;show hName 0 (L2.T.int (0+((j:Nat):Int))) _ _;rw[show(0:Int)+((j:Nat):Int)=((j:Nat):Int)by lia]at h1 ⊢;refine⟨_,dg (VW (WU _ hj)),?_⟩;by_cases c:j=i
   .refine swT ?_ (h1 (Zs c));show xr true (_&&_)=true;rw[ZY hj,ZY c.symm]
    rfl
   .refine swF ?_ (h2 (Zp c));show xr true (_&&_)=false;rw[ZY hj,ZZ (Ne.symm c)]
    rfl
  .rw[UW,ZY hi];refine⟨_,rfl,by rw[ak];lia,.fz (.lst ((List.range (m+1)).map λj=>frR (if j<m then if i=j then 1 else 0 else y i))),.fz (.lst [.int (0+(i:Nat))]),?_⟩;rw[bf];show[_,_,OT.l1 (as.map _++[L2.T.int (0+(i:Nat))]),_,OT.fz (.lst [L2.T.int (0+(i:Nat))])]=[_,_,OT.l1 (as.map _++[L2.T.int (i:Nat)]),_,_];rw[show(0:Int)+((i:Nat):Int)=((i:Nat):Int)by exact Int.zero_add _]
 .rintro _ ⟨x,z,rfl⟩;exact q
def Lr:ST:=λts q=>∃(m:Nat)(y:Nat->Rat),ts=[.lst (Mt m y),.lst ((List.range m).map λi:Nat=>.int i),.int m]/\m<=100/\q (.fz .non)
def Xu(T:Tx D):gT 1 BR qU Lr:=ya T.Z1 λF=>by
 refine F.okT W0 (λhr _=>bF (eF (Ol T.fM (bx (bR cJ T.dJ WG (bx wn bC)) (bx (bR cJ T.dJ WG (bx wr bC)) bC))) (bW (n:=99) 3)
  (bH (cC (bY (mY hr.units) (bJ (bJ wr wa) we) (jX T.gZ T.fY))
  (bH (bO wa))
  bT)))
  (bH (bO fJ))) ?_
 rintro _ R ⟨m,y,rfl,h,q⟩;have l1:((List.range m).map λi:Nat=>L2.T.int i).length=m:=by rw[ak,WP]
 have l2:(Mt m y).length=m:=by unfold Mt;rw[ak,WP]
 refine⟨⟨by lia,by lia,by lia,by lia⟩,CN (λ_ _=>True) _ 0 trivial (λi t o e z=>?_) λo _=>q⟩;have:=(abN e).1;lia
def Dq:ST:=λts q=>∃(m:Nat)(y:Nat->Rat),ts=[.lst (Mt m y),.lst ((List.range m).map λi:Nat=>.int i),.int m]/\m<=100/\q (.l1 ((List.range m).map λi=>frR (y i)))
def Te(T:Tx D):gT 1 vH mL Dq:=ya T.Wm λF=>by
 refine F.okT Qe (λ_ _=>bF (gQ 3 (bL cG (dh (bx (jX T.gZ T.fY) bC)) we))
  (bF (eF (rF T.iu (bx wn bC)) (fj (n:=2) (bQ (bW (n:=99) 4) (bQ (bW (n:=99) 5) dB)))
  (bH (yu 3 (bJ (bJ wr wP) we) wE)))
  (bH (jL 3)))) ?_
 rintro _ R ⟨m,y,rfl,h,q⟩;refine⟨⟨by lia,by lia,by show 1*_<=_;exact aL (show _<=100 by lia) wb⟩,λz ez=>?_⟩;have ez:z=(List.range m).map λi=>if i<0 then frR (y i)else frR 0:=by
  rw[ez,List.flatten_replicate_singleton];refine T2 (by rw[aN,ak,WP];rfl) λn h1 h2=>?_;rw[List.getElem_replicate,UX,ZZ (WV _)]
  rfl
 subst ez;refine pK (λi:Nat=>.int i) (List.range m) (λk o=>∃x z,o=[.fz (.lst (Mt m y)),.fz (.lst ((List.range m).map λi:Nat=>.int i)),.fz (.int m),.l1 ((List.range m).map λi=>if i<k then frR (y i)else frR 0),x,z]) ⟨_,_,rfl⟩ ?_ ?_
 .rintro k i _ e ⟨x,z,rfl⟩;have hk:k<m:=by have:=(ao.mp e).1;rwa[WP]at this
  rw[VW hk]at e;cases e;refine⟨rfl,_,dg (VW hk),_,dg (VW (X1 m)),k,uX (by rwa[ak,WP]),.fz (.int k),.fz (.int k),?_⟩;have:((List.range m).map λi=>if i<k then frR (y i)else frR 0).set k (frR (if m<m then if k=m then 1 else 0 else y k))=(List.range m).map λi=>if i<k+1 then frR (y i)else frR 0:=by
   rw[ZZ (X9 _)];refine T2 (by rw[VY,ak,ak]) λn h1 h2=>?_;rw[List.getElem_set,UX,UX,QU];by_cases c:k=n
   .rw[ZY c,ZY wf,c]
   .rw[ZZ c];by_cases d:n<k
    .rw[ZY d,ZY (WU _ d)]
    .rw[ZZ d,ZZ wf]
  rw[<- this]
  rfl
 .rintro _ ⟨x,z,rfl⟩;have:((List.range m).map λi=>if i<(List.range m).length then frR (y i)else frR 0)=(List.range m).map λi=>frR (y i):=UQ λi hi=>by rw[WP,ZY (List.mem_range.mp hi)]
  rw[<- this]at q;exact q
open Rw (vr jm jc oE gcL iG iJ sW lR Big pW j_ nU kZ oh gK sg gw fH bV fQ gA)
abbrev Dg(ae:wv)(aw:xj):wv:=List.zipWith (λr c=>r++[c]) ae aw
def pY:ST:=λts R=>∃(ae:wv)(aw:xj)(N:Nat),ts=[.lst (ae.map wM),.lst (aw.map frR)]/\aw.length=ae.length/\(∀r∈ae,r.length=ae.length)/\Sys (Dg ae aw) N/\∀y:Nat->Rat,(∀r∈Dg ae aw,sg (λj=>r.getD j 0*y j) ae.length=r.getD ae.length 0)->(∀i,i<ae.length->FnB ((2*ae.length*N)^ae.length) (y i))->R (.l1 ((List.range ae.length).map λi=>frR (y i)))
def L_(T:Tx D):gT 8 mV gY pY:=ya T.M5 λF=>by
 refine F.okT Kc (λ_ _=>bF (bN 2 (bI (U9 T) (bx wr bC)))
  (bF (bN 3 (bJ (bI (Yh T) (bx (bI (JB T) (bx wr (bx wn bC))) (bx we bC))) bA))
  (bF (bN 4 (bI (Ra T) (bx wa (bx we bC))))
  (bF (cC (QW.qt (jD (bY v7 (bR cJ T.dJ WG (bx wP bC)) we) (ig (bY Jd (bI (Xu T) (bx wa (bx wP (bx we bC)))) fJ))))
  (bH (bO fJ))
  bT)
  (bH (bO (bI (Te T) (bx wa (bx wP (bx we bC)))))))))) ?_
 rintro _ R ⟨ae,aw,N,rfl,hl,hw,h,ok⟩;have la:(Dg ae aw).length=ae.length:=by rw[TK,hl,UU]
 have few:=h.few;rw[la]at few;refine⟨ae,ae.length,rfl,hw,λz=>by rw[z];rfl,ae,aw,rfl,few,λr hr=>by rw[hw r hr];exact few,Dg ae aw,N,?_,h,λss y h1 h2=>?_⟩
 .rw[la];rfl
 .rw[la]at h1 h2 ⊢;have lr:((List.range ae.length).map λi:Nat=>L2.T.int i).length=ae.length:=by rw[ak,WP]
  exact⟨ae.length,y,rfl,few,swF (Zp (by show ¬((((List.range ae.length).map λi:Nat=>L2.T.int i).length:Nat):Int)<_;lia)) ⟨ae.length,y,rfl,few,ae.length,y,rfl,few,ok y h1 h2⟩⟩
open Rw (sg)
def rowsOf(f:Nat->Nat->Rat)(m:Nat):wx:=(List.range m).map λi=>(List.range m).map λj=>frR (f i j)
def tW:zC->Nat->Rat
 |[],_=>0
 |w::ws,j=>(if w.1=j then w.2 else 0)+tW ws j
def jg:xF->zC
 |none=>[]
 |some o=>o.ways
structure WyB(s:Rat)(m:Nat)(ws:zC):Prop where
 nd:(ws.map (·.1)).Nodup
 few:ws.length<=1000
 lt:∀w∈ws,w.1<m
 bq:∀w∈ws,Bq w.2/\Bd ((s.den:Int)*w.2.den)/\Bq (s*w.2)
def dX(s:Rat)(cs:xk)(i j:Nat):Rat:=(if j=i then 1 else 0)-s*tW (jg (cs.getD i none)) j
def vM:ST:=λts q=>∃(s:Rat)(cs:xk),ts=[frR s,.lst (cs.map opT)]/\cs.length<=100/\Bq s/\(∀o∈cs,WyB s cs.length (jg o))/\q (.l2 (rowsOf (dX s cs) cs.length))
def Uc(f:Nat->Nat->Rat)(m:Nat):(rowsOf f m).length=m:=by unfold rowsOf;rw[ak,WP]
def Y5{f:Nat->Nat->Rat}(h:i<m):(rowsOf f m)[i]?=some ((List.range m).map λj=>frR (f i j)):=by
 unfold rowsOf;rw[aq,VW h];rfl
def vB{f g:Nat->Nat->Rat}(h:∀i j,i<m->j<m->f i j=g i j):rowsOf f m=rowsOf g m:=UQ λi hi=>UQ λj hj=>by rw[h i j (List.mem_range.mp hi) (List.mem_range.mp hj)]
def aec{f g:Nat->Nat->Rat}{v:Rat}(h:∀a b,a<m->b<m->g a b=if a=i/\b=k then v else f a b):(rowsOf f m).set i (((List.range m).map λj=>frR (f i j)).set k (frR v))=rowsOf g m:=by
 unfold rowsOf;refine T2 (by rw[VY,ak,ak]) λa h1 h2=>?_;have ha:a<m:=by rw[ak,WP]at h2;exact h2
 rw[List.getElem_set];by_cases e:i=a
 .rw[ZY e,UX,QU];refine T2 (by rw[VY,ak,ak]) λb h3 h4=>?_;have hb:b<m:=by rw[ak,WP]at h4;exact h4
  rw[List.getElem_set,UX,UX,QU,h a b ha hb];by_cases c:k=b
  .rw[ZY c,ZY ⟨e.symm,c.symm⟩]
  .rw[ZZ c,ZZ λz=>c z.2.symm,e]
 .rw[ZZ e,UX,UX,QU];refine UQ λb hb=>?_;rw[h a b ha (List.mem_range.mp hb),ZZ λz=>e z.1.symm]
def afd{f:Nat->Nat->Rat}(h:i<m):ixT (rowsOf f m) ((i:Nat):Int)=some ((List.range m).map λj=>frR (f i j)):=by
 show nth (rowsOf f m) i=_;rw[pO,Y5 h]
def acq(as:zC)(w:Nat×Rat)(j:Nat):tW (as++[w]) j=tW as j+if w.1=j then w.2 else 0:=by
 induction as with
 |nil=>show(_+(0:Rat))=0+_;grind
 |cons a as ih=>show _+tW (as++[w]) j=(_+tW as j)+_;rw[ih];grind
def aaL(h:j∉ws.map (·.1)):tW ws j=0:=by
 induction ws with
 |nil=>rfl
 |cons a as ih =>
  show(if a.1=j then a.2 else 0)+tW as j=0;rw[ih λz=>h (aJ _ z),ZZ λz=>h (by rw[<- z];exact aO ..)]
  grind
def vo(s:Rat)(cs:xk)(n:Nat)(as:zC)(i j:Nat):Rat:=if i<n then dX s cs i j else if i=n then(if j=i then 1 else 0)-s*tW as j else if j=i then 1 else 0
def afx(s:Rat)(cs:xk)(n i j:Nat):vo s cs n [] i j=if i<n then dX s cs i j else if j=i then 1 else 0:=by
 unfold vo;split
 .rfl
 .split
  .show _-s*0=_;grind
  .rfl
def aeY{cs:xk}(i j:Nat):vo s cs n (jg (cs.getD n none)) i j=if i<n+1 then dX s cs i j else if j=i then 1 else 0:=by
 unfold vo;by_cases a:i<n
 .rw[ZY a,ZY (show i<n+1 by exact WU _ a)]
 .by_cases b:i=n
  .subst b;rw[ZZ a,ZY rfl,ZY (show i<i+1 by exact X1 _)]
   rfl
  .rw[ZZ a,ZZ b,ZZ (show ¬i<n+1 by lia)]
def X5(s:Rat)(cs:xk)(n:Nat)(as:zC)(j:Nat):vo s cs n as n j=(if j=n then 1 else 0)-s*tW as j:=by unfold vo;rw[ZZ (X9 _),ZY rfl]
def ah1{cs:xk}(as bs:zC)(j:Nat)(h:i≠n):vo s cs n as i j=vo s cs n bs i j:=by unfold vo;rw[ZZ h,ZZ h]
def Qa(T:Tx D):gT 4 pG jU vM:=ya T.Uv λ{f fd}F=>by
 refine F.okT Tz (λ_ _=>bF (gQ 2 (bI (Ji T) (bx (bR cJ T.dJ WG (bx wn bC)) bC)))
  (bF (eF (rF T.iu (bx wn bC)) (fj (n:=2) (bQ (bW (n:=99) 3) (bQ (bW (n:=99) 4) dB)))
  (bH (cC (bY Jd wP fJ)
  (bH (eF (cI (bJ wP bA)) (fj (n:=2) (bQ (bW (n:=99) 5) (bQ (bW (n:=99) 6) dB)))
  (bH (aeW 2 (bI (adO T) (bx (agn 2 wa wE) (bx (bI (abx T) (bx wr (bx (qv 6) bC))) bC))) wa wE))))
  bT)))
  (bH (jL 2)))) ?_
 rintro _ R ⟨s,cs,rfl,hm,hs,hw,q⟩;refine⟨cs.length,?_,hm,?_⟩
 .show[L2.T.int (((cs.map opT).length:Nat):Int)]=_;rw[ak]
 .have lc:∀x:Nat,((cs.map opT).length:Nat)=cs.length:=λ_=>ak _;refine pK opT cs (λn o=>∃x y z u,o=[.fz (frR s),.fz (.lst (cs.map opT)),.l2 (rowsOf (λi j=>if i<n then dX s cs i j else if j=i then 1 else 0) cs.length),x,y,z,u]) ⟨.und,.und,.und,.und,?_⟩ ?_ ?_
  .show[_,_,OT.l2 (rowsOf (λi j=>if j=i then 1 else 0) cs.length),_,_,_,_]=_;rw[vB (f:=λi j=>if j=i then 1 else 0) (g:=λi j=>if i<0 then dX s cs i j else if j=i then 1 else 0) λi j _ _=>by rw[ZZ (WV _)]]
  .rintro n oo _ e ⟨x,y,z,u,rfl⟩;have hn:n<cs.length:=(ao.mp e).1;have eg:cs.getD n none=oo:=by rw[au,e];rfl
   have hb:=hw oo (aC e);rw[show rowsOf (λi j=>if i<n then dX s cs i j else if j=i then 1 else 0) cs.length=rowsOf (vo s cs n []) cs.length from vB λi j _ _=>(afx s cs n i j).symm];rw[show rowsOf (λi j=>if i<n+1 then dX s cs i j else if j=i then 1 else 0) cs.length=rowsOf (vo s cs n (jg oo)) cs.length from vB λi j _ _=>by rw[<- eg];exact(aeY i j).symm];refine⟨rfl,?_⟩
   match oo,hb with
   |none,hb=>exact⟨_,_,_,_,rfl⟩
   |some o,hb =>
    refine iM nwT o.ways (λas ot=>∃z u,ot=[.fz (frR s),.fz (.lst (cs.map opT)),.l2 (rowsOf (vo s cs n as) cs.length),.fz (.int n),.fz (ofT o),z,u]) ⟨_,_,rfl⟩ ?_ ?_
    .rintro as ⟨k,c⟩ bs _ e2 ⟨z,u,rfl⟩;have kS:(k,c)∈o.ways:=e2 ▸ by simp
     have hk:=hb.lt _ kS;obtain⟨c1,c2,c3⟩:=hb.bq _ kS;have nk:k∉as.map (·.1):=λz=>by
      have nd:=hb.nd;rw[show jg (some o)=o.ways from rfl,e2,bf]at nd;exact(List.nodup_append.mp nd).2.2 k z k wp rfl
     have cell:vo s cs n as n k=if k=n then 1 else 0:=by
      unfold vo;rw[ZZ (X9 _),ZY rfl,aaL nk]
      grind
     have q1:Bq (vo s cs n as n k)/\Bd (((vo s cs n as n k).den:Int)*(s*c).den):=by
      rw[cell];split
      .exact⟨bq1,by show Bd (1*_);rw[JJ];exact c3.2⟩
      .exact⟨bq0,by show Bd (1*_);rw[JJ];exact c3.2⟩
     refine⟨rfl,_,(afd hn),_,dg (VW hk),s,c,rfl,hs,c1,c2,_,_,rfl,q1.1,c3,q1.2,n,_,uX (by rwa[Uc]),Y5 hn,k,uX (by rwa[ak,WP]),.fz (.int k),.fz (frR c),?_⟩;rw[<- aec (f:=vo s cs n as) (g:=vo s cs n (as++[(k,c)])) (i:=n) (k:=k) (v:=vo s cs n as n k-s*c) λa b _ _=>?_]
     .rfl
     .by_cases a1:a=n
      .subst a1;rw[X5,acq];by_cases b1:b=k
       .subst b1;rw[ZY (show a=a/\b=b from⟨rfl,rfl⟩),X5,ZY (show(b,c).1=b from rfl)]
        grind
       .rw[ZZ (show ¬(a=a/\b=k)from λz=>b1 z.2),X5,ZZ (show ¬(k,c).1=b from λz=>b1 z.symm)]
        grind
      .rw[ZZ (show ¬(a=n/\b=k)from λz=>a1 z.1)];exact ah1 _ _ _ a1
    .rintro _ ⟨z,u,rfl⟩;exact⟨_,_,_,_,rfl⟩
  .rintro _ ⟨x,y,z,u,rfl⟩;rw[show rowsOf (dX s cs) cs.length=rowsOf (λi j=>if i<cs.length then dX s cs i j else if j=i then 1 else 0) cs.length from vB λi j hi _=>by rw[ZY hi]]at q;exact q
open Rw (sg)
def m5:xF->Rat
 |none=>0
 |some o=>o.pay
def Dl(s:Rat)(cs:xk):wv:=(List.range cs.length).map λi=>(List.range cs.length).map λj=>dX s cs i j
def ap0(s:Rat)(cs:xk):(rowsOf (dX s cs) cs.length).map T.lst=(Dl s cs).map wM:=by
 unfold rowsOf Dl;rw[WJ,WJ];refine UQ λi _=>?_;show T.lst _=T.lst (List.map frR _);rw[WJ]
 rfl
def Tr(s:Rat)(cs:xk):(Dl s cs).length=cs.length:=by unfold Dl;rw[ak,WP]
def ahB{cs:xk} : ∀r∈Dl s cs,r.length=cs.length:=λr hr=>by
 obtain⟨i,_,rfl⟩:=YV.mp hr;rw[ak,WP]
def Je(s:Rat)(cs:xk)(y:Nat->Rat):Prop:=∀i,i<cs.length->sg (λj=>dX s cs i j*y j) cs.length=m5 (cs.getD i none)
structure WoB(s:Rat)(cs:xk)(N:Nat):Prop where
 bs:Bq s
 ways:∀o∈cs,WyB s cs.length (jg o)
 sys:Sys (Dg (Dl s cs) (cs.map m5)) N
def Yl{cs:xk}(h:i<cs.length):(Dg (Dl s cs) (cs.map m5))[i]?=some (((List.range cs.length).map λj=>dX s cs i j)++[m5 (cs.getD i none)]):=by
 unfold Dg Dl;rw[Zzx,aq,VW h,aq,au,aj h]
 rfl
def adE{cs:xk}(h:∀r∈Dg (Dl s cs) (cs.map m5),sg (λj=>r.getD j 0*y j) cs.length=r.getD cs.length 0):Je s cs y:=λi hi=>by
 have:=h _ (aC (Yl hi));have l:((List.range cs.length).map λj=>dX s cs i j).length=cs.length:=by rw[ak,WP]
 rw[show(((List.range cs.length).map λj=>dX s cs i j)++[m5 (cs.getD i none)]).getD cs.length 0=m5 (cs.getD i none)by
  rw[au,aD (by rw[l];exact aG _),l,Nat.sub_self];rfl]at this
 rw[<- this];refine Rw.bV λj hj=>?_;rw[au,aF (by rwa[l]),aq,VW hj]
 rfl
def uV(D:Adr):ST:=λts R=>∃(s:Rat)(ns:Φ)(off:zi)(pl:ze)(N:Nat),ts=[hlT D s ns off,.lst (pl.map dT)]/\Ad ns off/\PlT off pl/\off.length<=100/\WoB s (chO off pl) N/\∀y:Nat->Rat,Je s (chO off pl) y->(∀i,i<off.length->FnB ((2*off.length*N)^off.length) (y i))->R (.l1 ((List.range off.length).map λi=>frR (y i)))
def zJ{off:zi}(h:PlT off pl):(chO off pl).length=off.length:=by unfold chO;rw[ak,List.length_zipIdx,h.len]
def P0(T:Tx D):gT 9 pH jN (uV D):=ya T.Uq λF=>by
 refine F.okT Dd (λ_ _=>bF (iD (bI (Nh T) (bx wr (bx wn bC))))
  (bF (bN 2 (bI (Hu T) (bx wr (bx wn bC))))
  (bF (rN (bG q_) yW yW ["offer"] (cI we) (gk (i:=0)) cD (Hg (bY xu wr fJ) (jX T.gZ T.fY) (bJ wr bA)) (jQ (i:=3) Dd.nd rfl (Or.inl rfl)))
  (bH (bO (bI (L_ T) (bx (bI (Qa T) (bx (sU (Fm:=Fam D) (λC h=>⟨T.cl C h,T.Fe C h⟩) wr) (bx we bC))) (bx wa bC)))))))) ?_
 rintro _ R ⟨s,ns,off,pl,N,rfl,h,hp,few,hw,ok⟩;have cl:=zJ hp;refine⟨_,_,_,_,rfl,h,hp,_,_,_,_,rfl,h,hp,?_⟩;refine⟨by rw[ak,cl];exact aL few wb,comp_map opT (λo=>frR (m5 o)) (chO off pl) (λo ho N M hN=>by cases o<;>exact hN) ?_⟩;refine⟨ug D,_,rfl,s,chO off pl,rfl,by exact aL (WH cl) few,hw.bs,hw.ways,Dl s (chO off pl),(chO off pl).map m5,N,?_,by rw[ak,Tr],by rw[Tr];exact ahB,hw.sys,?_⟩
 .show[L2.T.lst ((rowsOf (dX s (chO off pl)) (chO off pl).length).map L2.T.lst),L2.T.lst ((chO off pl).map λo=>frR (m5 o))]=_;rw[ap0,WJ]
  rfl
 .rw[Tr,cl];exact λy h1 h2=>ok y (adE (by rwa[cl])) h2
def Hy(ws:zC)(tp:xy):Rat:=(ws.map λw=>w.2*((tp.getD w.1 0:Int):Rat)).sum
structure BhB(ws:zC)(tp:xy):Prop where
 few:ws.length<=1000
 lt:∀w∈ws,w.1<tp.length
 num:∀w∈ws,Bd w.2.num
 lcm:Bd (cF 1 (ws.map (·.2)):Nat)
 part:∀t∈tops (cF 1 (ws.map (·.2))) (ws.map (·.2)),Bd t
 top:∀t∈tp,Bd t
def yS:ST:=λts q=>∃(o:bM)(tp:xy),ts=[ofT o,.lst (tp.map T.int)]/\BhB o.ways tp/\q (.fz (frR (Hy o.ways tp)))
theorem Q7{B:Nat}(hB:0<B)(tp:xy):∀ws:zC,(∀w∈ws,w.2.den ∣ B)->Rat.divInt ((ws.map λw=>w.2.num*((B/w.2.den:Nat):Int)*tp.getD w.1 0).sum) B=Hy ws tp
 |[],_=>by
  show Rat.divInt 0 B=0;exact QY _
 |w::ws,h=>by
  have ih:=Q7 hB tp ws λx hx=>h x (aJ _ hx);show Rat.divInt (w.2.num*((B/w.2.den:Nat):Int)*tp.getD w.1 0+(ws.map λw=>w.2.num*((B/w.2.den:Nat):Int)*tp.getD w.1 0).sum) B=w.2*((tp.getD w.1 0:Int):Rat)+Hy ws tp;rw[<- ih,Tu,Tu,Rat.intCast_add,XV];have e:((w.2.num*((B/w.2.den:Nat):Int):Int):Rat)/((B:Int):Rat)=w.2:=by
   obtain⟨k,hk⟩:=h w (aO ..);have hd:=w.2.den_pos;rw[show B/w.2.den=k by rw[hk];exact Nat.mul_div_cancel_left _ hd];have kq:k≠0:=λz=>by rw[z]at hk;lia
   rw[<- Tu,hk,TZ,Rat.divInt_mul_right wf];exact rd _
  have hb:((B:Int):Rat)≠0:=λz=>by have:=Rat.intCast_eq_zero_iff.mp z;lia
  grind
def abY(ws:List α)(g h:α->Int):((ws.map g).zip ws).map (λp=>p.1*h p.2)=ws.map λw=>g w*h w:=by
 induction ws with
 |nil=>rfl
 |cons w ws ih=>exact ZH (List.cons _) ih
def Ls(T:Tx D):gT 3 qw jr yS:=ya T.Nv λF=>by
 refine F.okT Lw (λ_ _=>bF (bN 2 (bI (aeu T) (bx (eU (bG j9) kj kj ["room","chance"] (cI (bJ wr bA)) (fj (n:=2) (bQ (gk (i:=0)) (bQ (gk (i:=1)) dB))) cD wn) bC)))
  (bH (bO (bI (adv T) (bx (bR (X6 rfl) T.ab1 boot_sum (bx (eU (bG j9) kj kj ["part","way"] (TF T.Wb (bx (bJ we bA) (bx (bJ wr bA) bC))) (fj (n:=2) (bQ (gk (i:=0)) (bQ (gk (i:=1)) dB))) cD (bL cG wr (bJ wa (bJ wn bA)))) bC)) (bx (bJ we bA) bC)))))) ?_
 rintro _ R ⟨o,tp,rfl,h,q⟩;refine⟨by rw[ak];exact aL h.few wb,comp_map nwT (λw=>frR w.2) o.ways (λw hw N M hN=>⟨rfl,hN⟩) ?_⟩;have hB:=gD (o.ways.map (·.2)) US;refine⟨o.ways.map (·.2),by rw[WJ];rfl,by rw[ak];exact h.few,λr hr=>?_,h.lcm,?_⟩
 .obtain⟨w,hw,rfl⟩:=YV.mp hr;exact h.num w hw
 .refine⟨by unfold La;rw[ak,VU,ak,ak];exact aL (aL (Nat.min_le_right ..) h.few) wb,?_⟩;rw[zip_map];refine comp_map (λp:Int×(Nat×Rat)=>.tup [.int p.1,nwT p.2]) (λp=>.int (p.1*tp.getD p.2.1 0)) _ (λp hp N M hN=>?a) ?b
  case a =>
   have m2:=(UR hp).2;have lt:=h.lt _ m2;have hN:N (.int (p.1*tp.getD p.2.1 0)):=hN;rw[au,aj lt]at hN;exact⟨rfl,_,dg (aj lt),⟨h.part _ (UR hp).1,h.top _ (aU lt)⟩,hN⟩
  case b =>
   refine⟨((tops (cF 1 (o.ways.map (·.2))) (o.ways.map (·.2))).zip o.ways).map λp=>p.1*tp.getD p.2.1 0,by rw[WJ];rfl,_,_,rfl,by lia,h.lcm,λx y l=>?_⟩;rw[jG l wf];unfold tops;rw[WJ,abY o.ways _ λw=>tp.getD w.1 0];have:=Q7 hB tp o.ways λw hw=>(j6 (o.ways.map (·.2))).2 w.2 (YV.mpr ⟨w,hw,rfl⟩);rw[<- this]at q;exact q
def GR:ST:=λts q=>∃(r:Rat)(rs:xj),ts=[.lst ((r::rs).map frR)]/\(∀x∈r::rs,Bq x)/\∀m,m∈r::rs->(∀x∈r::rs,x<=m)->q (.fz (frR m))
def Vz(T:Tx D):gT 2 xq oH GR:=ya T.W5 λF=>by
 refine F.okT Vo (λ_ _=>bF (bN 1 fJ)
  (bF (eF (cI wr) (bW (n:=99) 2)
  (bH (cC (QW.qt (jD (bY xu wn fJ) (ig (dI (bI (acR T) (bx wn (bx we bC)))))))
  (bH (bN 1 we))
  bT)))
  (bH (bO wn)))) ?_
 rintro _ R ⟨r,rs,rfl,h,q⟩;refine iM frR (r::rs) (λas o=>(as=[]/\∃x,o=[.fz (.lst ((r::rs).map frR)),.fz .non,x])\/∃m x,o=[.fz (.lst ((r::rs).map frR)),.fz (frR m),x]/\m∈as/\∀x∈as,x<=m) (.inl ⟨rfl,_,rfl⟩) ?_ ?_
 .rintro as a bs _ e (⟨rfl,x,rfl⟩|⟨m,x,rfl,hm,i4⟩)
  .exact .inr ⟨a,_,rfl,by simp,λx hx=>by rw[show x=a by simpa using hx];exact VS⟩
  .have ba:Bq a:=h a (e ▸ by simp);have bm:Bq m:=h m (e ▸ UH _ hm);exact⟨m,a,rfl,bm,ba,swD (λlt=>.inr ⟨a,_,rfl,by simp,λx hx=>(Y1.mp hx).elim (λz=>Ts (i4 x z) (QR lt)) λz=>by rw[YR.mp z];exact VS⟩) λmr=>.inr ⟨m,_,rfl,UH _ hm,λx hx=>(Y1.mp hx).elim (i4 x) λz=>by rw[YR.mp z];exact Rat.not_lt.mp mr⟩⟩
 .rintro _ (⟨z,_⟩|⟨m,x,rfl,hm,hx⟩)
  .cases z
  .exact q m hm hx
structure LkB(s:Rat)(o:bM)(tp:xy)(B:Nat):Prop where
 bh:BhB o.ways tp
 pay:Bq o.pay
 bs:Bq s
 b:Bd (B:Int)
 dw:Bq (Hy o.ways tp)
 d1:Bd ((s.den:Int)*(Hy o.ways tp).den)
 p1:Bq (o.pay*(B:Rat))
 p2:Bq (s*Hy o.ways tp)
 d2:Bd (((o.pay*(B:Rat)).den:Int)*(s*Hy o.ways tp).den)
def mF(s:Rat)(tp:xy)(B:Nat)(o:bM):Rat:=o.pay*(B:Rat)+s*Hy o.ways tp
def pQ(D:Adr):ST:=λts q=>∃(s:Rat)(ns:Φ)(off:zi)(o:bM)(tp:xy)(B:Nat),ts=[hlT D s ns off,ofT o,.tup [.lst (tp.map T.int),.int (B:Nat)]]/\LkB s o tp B/\q (.fz (frR (mF s tp B o)))
def Ke(T:Tx D):gT 4 lX gR (pQ D):=ya T.Mp λF=>by
 refine F.okT K7 (λ_ _=>bF (bN 3 (bI (Ls T) (bx wn (bx (bJ we bA) bC))))
  (bH (bO (bI (afF T) (bx (bI (abx T) (bx (bJ wn bA) (bx (cN (bx (bJ we bA) (bx bA bC))) bC))) (bx (bI (abx T) (bx (sU (Fm:=Fam D) (λC h=>⟨T.cl C h,T.Fe C h⟩) wr) (bx wa bC))) bC)))))) ?_
 rintro _ R ⟨s,ns,off,o,tp,B,rfl,h,q⟩;refine⟨o,tp,rfl,h.bh,o.pay,(B:Rat),rfl,h.pay,⟨h.b,bq1.2⟩,?_,ug D,_,rfl,s,Hy o.ways tp,rfl,h.bs,h.dw,h.d1,_,_,rfl,h.p1,h.p2,h.d2,q⟩;show Bd ((o.pay.den:Int)*1);rw[Int.mul_one];exact h.pay.2
def YB(rs:xj)(d b:Nat):Prop:=(∀x∈rs,x<=rs.getD d 0)/\b=d\/((rs.getD d 0)<rs.getD b 0/\b<rs.length/\(∀x∈rs,x<=rs.getD b 0)/\∀i,i<b->rs.getD i 0≠rs.getD b 0)
def aiK{a b:Rat}(h:(a.num,((a.den:Nat):Int))=(b.num,((b.den:Nat):Int))):a=b:=by
 injection h with h1 h2;exact Rat.ext h1 wf
def aef{rs:xj}{m:Rat}(h:m∈rs):∃j:Nat,rs[j]?=some m/\∀(i:Nat)g,i<j->rs[i]?=some g->g≠m:=by
 induction rs with
 |nil=>cases h
 |cons r rs ih =>
  by_cases e:r=m
  .exact⟨0,by rw[e];rfl,λi _ z=>absurd z (WV _)⟩
  .obtain⟨j,e1,e2⟩:=ih ((YU.mp h).resolve_left λz=>e z.symm);refine⟨j+1,e1,λi g hi eg=>?_⟩;cases i with
   |zero=>cases eg;exact e
   |succ i=>exact e2 i g (Nat.lt_of_succ_lt_succ hi) eg
def wU:ST:=λts q=>∃(rs:xj)(d:Nat),ts=[.lst (rs.map frR),.int (d:Nat)]/\d<rs.length/\rs.length<=1000/\(∀x∈rs,Bq x)/\∀b:Nat,YB rs d b->q (.fz (.int (b:Nat)))
def Le(T:Tx D):gT 3 qT jC wU:=ya T.N5 λF=>by
 refine F.okT JD (λhr _=>bF (bN 2 (bI (Vz T) (bx wr bC)))
  (bF (cC (dI (bI (acR T) (bx (bJ wr wn) (bx we bC))))
  (bH (bO (ai3 hr.units wr (bx we bC))))
  bT)
  (bH (bO wn)))) ?_
 rintro _ R ⟨rs,d,rfl,hd,few,hb,q⟩;have ed:=aj hd;have gd:rs.getD d 0=rs[d]:=by rw[au,ed];rfl
 obtain⟨r,dm,e0⟩ : ∃r dm,rs=r::dm:=by
  cases rs with
  |nil=>exact absurd hd (WV _)
  |cons r rs=>exact⟨r,rs,rfl⟩
 refine⟨r,dm,by rw[e0];rfl,λx hx=>hb x (e0 ▸ hx),λm hm hx=>?_⟩;rw[<- e0]at hm hx;refine⟨_,dg ed,_,m,rfl,hb _ (aU hd),hb m hm,swD (λlt=>?_) λmr=>?_⟩
 .obtain⟨j,ej,nj⟩:=aef hm;have gj:rs.getD j 0=m:=by rw[au,ej];rfl
  refine⟨rs.map λr=>(r.num,((r.den:Nat):Int)),(m.num,((m.den:Nat):Int)),j,by rw[WJ];rfl,rfl,by rw[ak];exact aL few wb,by rw[aq,ej];rfl,λi g hi eg=>?_,q j (.inr ⟨by rw[gd,gj];exact lt,(ao.mp ej).1,by rw[gj];exact hx,λi hi=>?_⟩)⟩
  .rw[aq]at eg;have li:i<rs.length:=U2 hi (ao.mp ej).1;rw[aj li]at eg;cases eg;exact λz=>nj i _ hi (aj li) (aiK z)
  .have li:i<rs.length:=U2 hi (ao.mp ej).1;rw[gj,au,aj li];exact nj i _ hi (aj li)
 .refine q d (.inl ⟨λx i4=>?_,rfl⟩);rw[gd];exact Ts (hx x i4) (Rat.not_lt.mp mr)
structure P_(s:Rat)(off:zi)(tp:xy)(B:Nat)(pl bo:ze):Prop where
 len:bo.length=pl.length
 none:∀k:Nat,pl[k]?=some none->bo[k]?=some none
 some:∀(k d:Nat)(ds:wq),pl[k]?=some (some d)->off[k]?=some ds->∃b,bo[k]?=some (some b)/\YB (ds.map (mF s tp B)) d b
structure MeB(s:Rat)(off:zi)(ys:xj):Prop where
 few:ys.length<=1000
 num:∀r∈ys,Bd r.num
 lcm:Bd (cF 1 ys:Nat)
 look:∀ds∈off,∀o∈ds,LkB s o (tops (cF 1 ys) ys) (cF 1 ys)/\Bq (mF s (tops (cF 1 ys) ys) (cF 1 ys) o)/\Bd (((mF s (tops (cF 1 ys) ys) (cF 1 ys) o).den:Int)*(cF 1 ys:Nat))
def Oo(D:Adr):ST:=λts R=>∃(s:Rat)(ns:Φ)(off:zi)(pl:ze)(ys:xj),ts=[hlT D s ns off,.lst (pl.map dT),.lst (ys.map frR)]/\Ad ns off/\PlT off pl/\MeB s off ys/\∀bo:ze,P_ s off (tops (cF 1 ys) ys) (cF 1 ys) pl bo->R (.l1 (bo.map dT))
theorem Z0(T:Tx D):gT 5 Gq tX (Oo D):=ya T.adh λ{f fd}F=>by
 refine F.okT O6 (λ_ _=>bF (iD (bI (Nh T) (bx wr (bx wn bC))))
  (bF (bN 3 (bI (aeu T) (bx we bC)))
  (bF (gQ 4 (dh bC))
  (bF (eF (rF T.iu (bx wn bC)) (fj (n:=2) (bQ (bW (n:=99) 5) (bQ (bW (n:=99) 6) dB)))
  (bF (rN (bG Eu) Ln Ln ["offer"] (cI (rH wr T.gG T.g8 (aaD T) (bx wE bC) (KS:=iC))) (gk (i:=0)) cD (bI (Ke T) (bx wn (bx wr (bx wP bC)))) (jQ (i:=7) O6.nd rfl (Or.inl rfl)))
  (bH (oX 4 (Hg (bY xu (qv 6) fJ) fJ (bI (Le T) (bx (qv 7) (bx (qv 6) bC))))))))
  (bH (jL 4)))))) ?_
 rintro _ R ⟨s,ns,off,pl,ys,rfl,h,hp,hm,ok⟩;refine⟨_,_,_,_,rfl,h,hp,ys,rfl,hm.few,hm.num,hm.lcm,?_⟩;have lk:=hm.look;generalize cF 1 ys=B at *;generalize tops B ys=tp at *;refine pK dT pl (λk o=>∃bo x y z,o=[.fz (hlT D s ns off),.fz (.lst (pl.map dT)),.fz (.lst (ys.map frR)),.fz (.tup [.lst (tp.map L2.T.int),.int (B:Nat)]),.l1 (bo.map dT),x,y,z]/\bo.length=k/\(∀i:Nat,i<k->pl[i]?=some none->bo[i]?=some none)/\∀(i d:Nat)(ds:wq),i<k->pl[i]?=some (some d)->off[i]?=some ds->∃b,bo[i]?=some (some b)/\YB (ds.map (mF s tp B)) d b) ⟨[],.und,.und,.und,rfl,rfl,λi z=>absurd z (WV _),λi d ds z=>absurd z (WV _)⟩ ?_ ?_
 .rintro k d _ e ⟨bo,x,y,z,rfl,l1,h1,h2⟩;have iS:k<off.length:=by rw[<- hp.len];exact(ao.mp e).1
  have ek:=aj iS;have few:=h.few;have hl:=h.len;have lm:(bo.map dT).length<sizeLine:=by rw[ak];exact aR (show _<1001 by lia) wb
  have mem:=aU iS;have fd:=h.fews _ mem;have kQ:∀{i:Nat}(v:xt),i<k->(bo++[v])[i]?=bo[i]?:=λv hi=>aF wf;have rgt:∀v:xt,(bo++[v])[k]?=some v:=λv=>by rw[aD (WH l1),l1,Nat.sub_self];rfl
  have ma:∀v:xt,bo.map dT++[dT v]=(bo++[v]).map dT:=λv=>by rw[bf];rfl
  refine⟨rfl,⟨rfl,rfl⟩,_,_,_,k,_,rfl,h,ek,by rw[ak];exact aL fd wb,comp_map ofT (λo=>frR (mF s tp B o)) off[k] (λo ho N M hN=>⟨s,ns,off,o,tp,B,rfl,(lk _ mem o ho).1,hN⟩) ?_⟩;cases d with
  |none =>
   refine⟨lm,bo++[none],.fz (.int k),.fz .non,.fz (.lst (off[k].map λo=>frR (mF s tp B o))),?_,by simp[l1],λi hi ei=>?_,λi d ds hi ei=>?_⟩
   .rw[<- ma]
    rfl
   .by_cases c:i=k
    .rw[c];exact rgt none
    .rw[kQ none (XX (UZ hi) c)];exact h1 i (XX (UZ hi) c) ei
   .by_cases c:i=k
    .rw[c,e]at ei;cases ei
    .rw[kQ none (XX (UZ hi) c)];exact h2 i d ds (XX (UZ hi) c) ei
  |some d =>
   have ld:d<(off[k]).length:=of_decide_eq_true (hp.ok k (some d) _ e ek);refine⟨off[k].map (mF s tp B),d,by rw[WJ];rfl,by rw[ak];exact ld,by rw[ak];exact fd,λx hx=>?_,λb hb=>⟨lm,bo++[some b],.fz (.int k),.fz (.int d),.fz (.lst (off[k].map λo=>frR (mF s tp B o))),?_,by simp[l1],λi hi ei=>?_,λi d' ds hi ei es=>?_⟩⟩
   .obtain⟨o,ho,rfl⟩:=YV.mp hx;exact(lk _ mem o ho).2.1
   .rw[<- ma]
    rfl
   .by_cases c:i=k
    .rw[c,e]at ei;cases ei
    .rw[kQ (some b) (XX (UZ hi) c)];exact h1 i (XX (UZ hi) c) ei
   .by_cases c:i=k
    .subst c;rw[e]at ei;rw[ek]at es;cases ei;cases es;exact⟨b,rgt (some b),hb⟩
    .rw[kQ (some b) (XX (UZ hi) c)];exact h2 i d' ds (XX (UZ hi) c) ei es
 .rintro _ ⟨bo,x,y,z,rfl,l1,h1,h2⟩;exact ok bo ⟨l1,λk e=>h1 k (ao.mp e).1 e,λk d ds e=>h2 k d ds (ao.mp e).1 e⟩
open Rw (sg gw fH bV fQ gA)
def dw(ws:zC)(x:Nat->Rat):Rat:=(ws.map λw=>w.2*x w.1).sum
def Fq(ws:zC):Rat:=(ws.map (·.2)).sum
theorem cY(w:Nat×Rat)(ws:zC)(x:Nat->Rat):dw (w::ws) x=w.2*x w.1+dw ws x:=rfl
theorem zZ(w:Nat×Rat)(ws:zC):Fq (w::ws)=w.2+Fq ws:=rfl
theorem Y6{M:Rat}{x:Nat->Rat} : ∀{ws:zC},(∀w∈ws,0<=w.2/\x w.1<=M)->dw ws x<=Fq ws*M
 |[],_=>by show(0:Rat)<=0*M;rw[Rat.zero_mul];exact VS
 |w::ws,h=>by
  rw[cY,zZ];have:=Y6 (ws:=ws) λv hv=>h v (aJ _ hv);obtain⟨a,b⟩:=h w (aO ..);have:=Tk b a
  grind
theorem agU{m:Nat}{x:Nat->Rat} : ∀{ws:zC},(∀w∈ws,w.1<m)->sg (λj=>tW ws j*x j) m=dw ws x
 |[],_=>by
  show sg (λj=>0*x j) m=0;rw[bV (g:=λ_=>0) λj _=>Rat.zero_mul _,fQ]
 |w::ws,h=>by
  rw[cY,<- agU (m:=m) (ws:=ws) λv hv=>h v (aJ _ hv)];rw[bV (g:=λj=>(if j=w.1 then 1 else 0)*(w.2*x j)+tW ws j*x j) λj _=>?_,gw,gA (v:=λj=>w.2*x j),ZY (h w (aO ..))];show((if w.1=j then w.2 else 0)+tW ws j)*x j=_;by_cases e:w.1=j
  .rw[ZY e,ZY e.symm];grind
  .rw[ZZ e,ZZ (Ne.symm e)];grind
theorem adu(x:Nat->Rat):∀{m:Nat},0<m->∃i,i<m/\∀j,j<m->x j<=x i
 |0,h=>absurd h (WV _)
 |1,_=>⟨0,US,λj hj=>by rw[show j=0 by exact Nat.eq_zero_of_le_zero (UZ hj)];exact VS⟩
 |m+2,_=>by
  obtain⟨i,hi,h⟩:=adu x (m:=m+1) (Th _);by_cases c:x i<=x (m+1)
  .refine⟨m+1,by exact X1 _,λj hj=>?_⟩;by_cases e:j=m+1
   .rw[e];exact VS
   .exact Ts (h j (XX (UZ hj) e)) c
  .refine⟨i,by exact U2 hi (X1 _),λj hj=>?_⟩;by_cases e:j=m+1
   .rw[e];exact QR (Rat.not_le.mp c)
   .exact h j (XX (UZ hj) e)
structure ShB(s:Rat)(m:Nat)(ws:zC):Prop where
 lt:∀w∈ws,w.1<m
 nn:∀w∈ws,0<=w.2
 one:Fq ws<=1
def sub_le{ws:Nat->zC}{x:Nat->Rat}(s0:0<=s)(s1:s<1)(hw:∀i,i<m->ShB s m (ws i))(h:∀i,i<m->x i<=s*dw (ws i) x):∀j,j<m->x j<=0:=λj hj=>by
 obtain⟨i,hi,mx⟩:=adu x (m:=m) wf;refine Ts (mx j hj) (Rat.not_lt.mp λp=>?_);have b:=hw i hi;have d:dw (ws i) x<=Fq (ws i)*x i:=Y6 λw hw=>⟨b.nn w hw,mx _ (b.lt w hw)⟩;have e:Fq (ws i)*x i<=1*x i:=Zzv b.one (QR p);have f:=Tk (Ts d e) s0;have g:=h i hi;have k:s*x i<1*x i:=Rat.mul_lt_mul_of_pos_right s1 p
 grind
def Kd{cs:xk}{x:Nat->Rat}(hi:i<cs.length)(h:∀w∈jg (cs.getD i none),w.1<cs.length):sg (λj=>dX s cs i j*x j) cs.length=x i-s*dw (jg (cs.getD i none)) x:=by
 rw[<- agU h,bV (g:=λj=>(if j=i then 1 else 0)*x j+(-s)*(tW (jg (cs.getD i none)) j*x j)) λj _=>by unfold dX;grind,gw,fH,gA (v:=x),ZY hi]
 grind
def Oz{cs:xk}(h:∀i,i<cs.length->ShB s cs.length (jg (cs.getD i none))):Je s cs y↔∀i,i<cs.length->y i=m5 (cs.getD i none)+s*dw (jg (cs.getD i none)) y:=by
 constructor
 .intro w i hi;have:=w i hi;rw[Kd hi (h i hi).lt]at this
  grind
 .intro w i hi;rw[Kd hi (h i hi).lt];have:=w i hi
  grind
theorem Q0(x:Nat->Rat):∀ws:zC,dw ws (λj=>-(x j))=-(dw ws x)
 |[]=>by show(0:Rat)=-0;grind
 |w::ws=>by rw[cY,cY,Q0 x ws];grind
def ahl{cs:xk}(s0:0<=s)(s1:s<1)(h:∀i,i<cs.length->ShB s cs.length (jg (cs.getD i none)))(x:Nat->Rat)(hx:∀i,i<cs.length->sg (λj=>dX s cs i j*x j) cs.length=0):∀j,j<cs.length->x j=0:=λj hj=>by
 have e:∀i,i<cs.length->x i=s*dw (jg (cs.getD i none)) x:=λi hi=>by
  have:=hx i hi;rw[Kd hi (h i hi).lt]at this
  grind
 have a:=sub_le s0 s1 h (x:=x) (λi hi=>by rw[<- e i hi];exact VS) j hj;have b:=sub_le s0 s1 h (x:=λj=>-(x j)) (λi hi=>by
  show -(x i)<=_;rw[Q0,e i hi]
  grind) j hj
 grind
open Rw (sg gw fH bV fQ gA Big)
def DW(s:Rat)(cs:xk):(Dg (Dl s cs) (cs.map m5)).length=cs.length:=by rw[TK,Tr,ak,UU]
def af3{cs:xk}(s0:0<=s)(s1:s<1)(h:∀i,i<cs.length->ShB s cs.length (jg (cs.getD i none)))(x:Nat->Rat)(h0:∀j,cs.length<=j->x j=0)(hx:∀r∈Dg (Dl s cs) (cs.map m5),sg (λj=>r.getD j 0*x j) (cs.length+1)=0):∀j,j<cs.length->x j=0:=by
 refine ahl s0 s1 h x λi hi=>?_;have:=hx _ (aC (Yl hi));have l:((List.range cs.length).map λj=>dX s cs i j).length=cs.length:=by rw[ak,WP]
 rw[<- this];show _=sg (λj=>(((List.range cs.length).map λj=>dX s cs i j)++[m5 (cs.getD i none)]).getD j 0*x j) cs.length+_*x cs.length;rw[h0 _ (aG _),Rat.mul_zero,Rat.add_zero];refine bV λj hj=>?_;rw[au,aF (by rwa[l]),aq,VW hj]
 rfl
def Yz{Q:Nat}{r:xj}(hA:1<=A)(hQ:0<Q)(h:∀c∈r,c.den ∣ Q/\c.num.natAbs<=A*c.den):Big (A*Q) (mZ r):=by
 have hB:=gD r US;have hd:cF 1 r ∣ Q:=pX r (TW _) λc hc=>(h c hc).1;have le:=UV hQ hd;refine⟨by show(0:Int)<(cF 1 r:Nat);lia,?_,λt ht=>?_⟩
 .show((cF 1 r:Nat):Int).natAbs<=A*Q;rw[XG];exact aL le (Zyy _ hA)
 .obtain⟨c,hc,rfl⟩:=YV.mp ht;rw[VZ,XG];refine aL (Nat.mul_le_mul_right _ (h c hc).2) ?_;rw[Nat.mul_assoc,Nat.mul_div_cancel' ((j6 r).2 c hc)];exact UK _ le
def Qp{cs:xk}{r:xj}(hr:r∈Dg (Dl s cs) (cs.map m5)):∃i,i<cs.length/\r=((List.range cs.length).map λj=>dX s cs i j)++[m5 (cs.getD i none)]:=by
 obtain⟨i,e⟩:=aV hr;have hi:i<cs.length:=by have:=(ao.mp e).1;rw[DW]at this;exact this
 rw[Yl hi]at e;injection e with e;exact⟨i,hi,e.symm⟩
def ZM(ys:xj)(k:Nat):(((tops (cF 1 ys) ys).getD k 0:Int):Rat)=ys.getD k 0*((cF 1 ys:Nat):Rat):=by
 have h:=Tc ys k;unfold Rw.vr at h;have hB:=gD ys US;have n:((((cF 1 ys:Nat):Int)):Rat)≠0:=λz=>by have:=Rat.intCast_eq_zero_iff.mp z;lia
 have e:((((cF 1 ys:Nat):Int)):Rat)=((cF 1 ys:Nat):Rat):=rfl;rw[<- e,<- h];show _=(((tops (cF 1 ys) ys).getD k 0:Int):Rat)/_*_
 grind
theorem Yt(ys:xj):∀ws:zC,Hy ws (tops (cF 1 ys) ys)=dw ws (λk=>ys.getD k 0)*((cF 1 ys:Nat):Rat)
 |[]=>by show(0:Rat)=0*_;rw[Rat.zero_mul]
 |w::ws=>by
  show w.2*(((tops (cF 1 ys) ys).getD w.1 0:Int):Rat)+Hy ws _=_;rw[Yt ys ws,cY,ZM]
  grind
def Ae(s:Rat)(y:Nat->Rat)(o:bM):Rat:=o.pay+s*dw o.ways y
def DG(s:Rat)(ys:xj)(o:bM):mF s (tops (cF 1 ys) ys) (cF 1 ys) o=Ae s (λk=>ys.getD k 0) o*((cF 1 ys:Nat):Rat):=by
 unfold mF Ae;rw[Yt]
 grind
theorem Jy{x z:Nat->Rat} : ∀{ws:zC},(∀w∈ws,x w.1=z w.1)->dw ws x=dw ws z
 |[],_=>rfl
 |w::ws,h=>by rw[cY,cY,h w (aO ..),Jy λv hv=>h v (aJ _ hv)]
theorem ZK{x z:Nat->Rat} : ∀{ws:zC},(∀w∈ws,0<=w.2/\x w.1<=z w.1)->dw ws x<=dw ws z
 |[],_=>VS
 |w::ws,h=>by
  rw[cY,cY];have:=ZK (ws:=ws) λv hv=>h v (aJ _ hv);obtain⟨a,b⟩:=h w (aO ..);have:=Tk b a
  grind
theorem Gm(x z:Nat->Rat):∀ws:zC,dw ws (λj=>x j-z j)=dw ws x-dw ws z
 |[]=>by show(0:Rat)=0-0;grind
 |w::ws=>by rw[cY,cY,cY,Gm x z ws];grind
def oK(s:Rat)(y:Nat->Rat)(c:xF):Rat:=m5 c+s*dw (jg c) y
def Ei{c:Nat->xF}{z:Nat->Rat}(s0:0<=s)(s1:s<1)(hw:∀i,i<m->ShB s m (jg (c i)))(hy:∀i,i<m->y i<=oK s y (c i))(hz:∀i,i<m->z i=oK s z (c i)):∀i,i<m->y i<=z i:=λi hi=>by
 have:=sub_le s0 s1 hw (x:=λj=>y j-z j) (λi hi=>by
  rw[Gm];show y i-z i<=_;have a:=hy i hi;have b:=hz i hi;unfold oK at a b
  grind) i hi
 grind
def aci{c:Nat->xF}{z:Nat->Rat}(s0:0<=s)(s1:s<1)(hw:∀i,i<m->ShB s m (jg (c i)))(hy:∀i,i<m->y i<=oK s y (c i))(hz:∀i,i<m->z i=oK s z (c i))(hi:i<m)(lt:y i<oK s y (c i)):y i<z i:=by
 have le:=Ei s0 s1 hw hy hz;have m1:=ZK (ws:=jg (c i)) (x:=y) (z:=z) λw hm=>⟨(hw i hi).nn w hm,le _ ((hw i hi).lt w hm)⟩;have m2:=Tk m1 s0;have e:=hz i hi;unfold oK at lt e
 grind
def Ho{off:zi}{d:xt}(e:pl[i]?=some d):(chO off pl).getD i none=d.bind λd=>(off.getD i [])[d]?:=by
 unfold chO;rw[au,aq,List.getElem?_zipIdx,e];simp
def afu{ds:wq}{d b:Nat}(hd:d<ds.length)(h:YB (ds.map (mF s (tops (cF 1 ys) ys) (cF 1 ys))) d b):b=d\/∃o p,ds[d]?=some o/\ds[b]?=some p/\Ae s (λk=>ys.getD k 0) o<Ae s (λk=>ys.getD k 0) p:=by
 rcases h with⟨_,e⟩|⟨lt,lb,_⟩
 .exact .inl e
 .rw[ak]at lb;refine .inr ⟨_,_,aj hd,aj lb,?_⟩;rw[au,au,aq,aq,aj hd,aj lb]at lt;have lt:mF s (tops (cF 1 ys) ys) (cF 1 ys) ds[d]<mF s (tops (cF 1 ys) ys) (cF 1 ys) ds[b]:=lt;rw[DG,DG]at lt;have hB:=gD ys US;have p:(0:Rat)<((cF 1 ys:Nat):Rat):=by
   have:((0:Int):Rat)<(((cF 1 ys:Nat):Int):Rat):=Rat.intCast_lt_intCast.mpr wf;exact this
  exact(Rat.mul_lt_mul_right p).mp lt
def Pa{off:zi}{tp:xy}{B:Nat}{bo:ze}(hp:PlT off pl)(h:P_ s off tp B pl bo):PlT off bo:=by
 refine⟨by rw[h.len,hp.len],λk d ds e1 e2=>?_⟩;have lk:k<pl.length:=by rw[<- h.len];exact(ao.mp e1).1
 have ek:=aj lk;have ft:=hp.ok k _ ds ek e2;cases ed:pl[k]with
 |none =>
  rw[ed]at ek ft;rw[h.none k ek]at e1;cases e1;exact ft
 |some c =>
  rw[ed]at ek ft;obtain⟨b,e3,hb⟩:=h.some k c ds ek e2;rw[e3]at e1;cases e1;have lc:c<ds.length:=of_decide_eq_true ft;rcases hb with⟨_,rfl⟩|⟨_,lb,_⟩
  .exact ft
  .rw[ak]at lb;exact Zs lb
def rise{off:zi}{bo:ze}{z:Nat->Rat}(s0:0<=s)(s1:s<1)(hw:∀ds∈off,∀o∈ds,ShB s off.length o.ways)(hp:PlT off pl)(h:P_ s off (tops (cF 1 ys) ys) (cF 1 ys) pl bo)
 (hy:∀i,i<off.length->ys.getD i 0=oK s (λk=>ys.getD k 0) ((chO off pl).getD i none))(hz:∀i,i<off.length->z i=oK s z ((chO off bo).getD i none)):(∀i,i<off.length->ys.getD i 0<=z i)/\∀i,i<off.length->bo[i]?≠pl[i]?->ys.getD i 0<z i:=by
 have di:=Pa hp h;have sh:∀{ql:ze},PlT off ql->∀i,i<off.length->ShB s off.length (jg ((chO off ql).getD i none)):=λ{ql}hq i hi=>by
  have ei:=aj (show i<ql.length by rwa[hq.len]);rw[Ho ei];cases ql[i]'(by rwa[hq.len])with
  |none=>exact⟨λ_ z=>(nomatch z),λ_ z=>(nomatch z),by show(0:Rat)<=1;decide⟩
  |some d =>
   show ShB s off.length (jg ((off.getD i [])[d]?));rw[au,aj hi];show ShB s off.length (jg (off[i][d]?));cases ed:off[i][d]? with
   |none=>exact⟨λ_ z=>(nomatch z),λ_ z=>(nomatch z),by show(0:Rat)<=1;decide⟩
   |some o=>exact hw _ (aU hi) o (aC ed)
 have ce:∀i,i<off.length->(bo[i]?=pl[i]?/\ys.getD i 0=oK s (λk=>ys.getD k 0) ((chO off bo).getD i none))\/ys.getD i 0<oK s (λk=>ys.getD k 0) ((chO off bo).getD i none):=λi hi=>by
  have lp:i<pl.length:=by rwa[hp.len]
  have ei:=aj lp;have eo:=aj hi;have go:off.getD i []=off[i]:=by rw[au,eo];rfl
  have iX:=hy i hi;rw[Ho ei]at iX;cases ed:pl[i]with
  |none =>
   rw[ed]at ei iX;have e':=h.none i ei;exact .inl ⟨by rw[e',ei],by rwa[Ho e']⟩
  |some d =>
   rw[ed]at ei iX;obtain⟨b,e',hb⟩:=h.some i d _ ei eo;have ld:d<(off[i]).length:=of_decide_eq_true (hp.ok i (some d) _ ei eo);rcases afu ld hb with rfl|⟨o,p,e1,e2,lt⟩
   .exact .inl ⟨by rw[e',ei],by rwa[Ho e']⟩
   .refine .inr ?_;rw[Ho e',iX];show oK s _ ((off.getD i [])[d]?)<oK s _ ((off.getD i [])[b]?);rw[go,e1,e2];exact lt
 have le1:∀i,i<off.length->ys.getD i 0<=oK s (λk=>ys.getD k 0) ((chO off bo).getD i none):=λi hi=>(ce i hi).elim (λz=>by rw[<- z.2];exact VS) QR;exact⟨Ei (y:=λk=>ys.getD k 0) s0 s1 (sh di) le1 hz,λi hi ne=>aci (y:=λk=>ys.getD k 0) s0 s1 (sh di) le1 hz hi ((ce i hi).resolve_left λz=>ne z.1)⟩
theorem Hh{α:Type}{g:α->PyData}(h:∀x,PyData.canLay0 (g x)=true):∀xs:List α,PyData.canLayAll0 (xs.map g)=true
 |[]=>rfl
 |x::xs=>by rw[List.map_cons];unfold PyData.canLayAll0;rw[Hh h xs,h x];rfl
theorem JF{α:Type}{g:α->PyData}{n:Nat}(h:∀x,PyData.depth (g x)<=n):∀xs:List α,PyData.depthAll (xs.map g)<=n
 |[]=>aZ _
 |x::xs=>by
  rw[List.map_cons];unfold PyData.depthAll;have:=JF h xs;have:=h x;lia
theorem Js{α:Type}{g:α->PyData}{h:α->T}(e:∀x,h x=ofD (g x)):∀xs:List α,xs.map h=abu (xs.map g)
 |[]=>rfl
 |x::xs=>by rw[List.map_cons,List.map_cons,Js e xs,e x];rfl
theorem TY{α:Type}[DecidableEq α]{g:α->PyData}(h:∀x y,PyData.eqv (g x) (g y)=decide (x=y)):∀xs ys:List α,PyData.eqvAll (xs.map g) (ys.map g)=decide (xs=ys)
 |[],[]=>rfl
 |[],_::_=>rfl
 |_::_,[]=>rfl
 |x::xs,y::ys=>by
  rw[List.map_cons,List.map_cons];unfold PyData.eqvAll;rw[h,TY h xs ys,<- Bool.decide_and];exact decide_eq_decide.mpr ⟨λz=>by rw[z.1,z.2],λz=>List.cons.inj z⟩
structure EqD{α:Type}[DecidableEq α](h:α->T)(g:α->PyData):Prop where
 of:∀x,h x=ofD (g x)
 lay:∀x,PyData.canLay0 (g x)=true
 dep:∀x,PyData.depth (g x)<=60
 eqv:∀x y,PyData.eqv (g x) (g y)=decide (x=y)
def EqD.lst{α:Type}[DecidableEq α]{h:α->T}{g:α->PyData}(E:EqD h g)(xs:List α):SeqAt.shaped (.list (xs.map g))=true:=by
 have h1:PyData.canLay0 (.list (xs.map g))=true:=by unfold PyData.canLay0;exact Hh E.lay xs
 have h2:PyData.depth (.list (xs.map g))<=64:=by unfold PyData.depth;have:=JF E.dep xs;lia
 unfold SeqAt.shaped;rw[h1,Zs h2];rfl
def EqD.gEq{α:Type}[DecidableEq α]{h:α->T}{g:α->PyData}(E:EqD h g){neg:Bool}{a c:List α}{q:OT->Prop}(hq:q (.fz (.bl (xr neg (decide (a=c)))))):gEq neg (.lst (a.map h)) (.lst (c.map h)) q:=by
 refine⟨.list (a.map g),.list (c.map g),ZH L2.T.lst (Js E.of a),ZH L2.T.lst (Js E.of c),E.lst a,E.lst c,?_⟩;unfold PyData.eqv;rwa[TY E.eqv]
def dD:xt->PyData
 |none=>.none
 |some d=>.int (d:Nat)
def Vq:EqD dT dD:=⟨λx=>by cases x<;>rfl,λx=>by cases x<;>rfl,λx=>by cases x<;>exact aZ _,λx y=>by
 cases x<;>cases y
 .rfl
 .rfl
 .rfl
 .rename_i a b
  show decide ((a:Int)=(b:Int))=_;exact decide_eq_decide.mpr ⟨λz=>by rw[Int.ofNat.inj z],λz=>by rw[Option.some.inj z]⟩⟩
def uf:zi->List ze
 |[]=>[[]]
 |ds::off=>((if ds=[]then[none]else(List.range ds.length).map some).map λd=>(uf off).map λpl=>d::pl).flatten
theorem Yo:∀{off:zi}{pl:ze},PlT off pl->pl∈uf off
 |[],pl,h=>by
  have:=h.len;rw[List.length_eq_zero_iff.mp this];exact YR.mpr rfl
 |ds::off,[],h=>by have:=h.len;cases this
 |ds::off,d::pl,h=>by
  have ih:=Yo (off:=off) (pl:=pl) ⟨Nat.succ.inj h.len,λk d ds e1 e2=>h.ok (k+1) d ds e1 e2⟩;have ft:=h.ok 0 d ds rfl rfl;refine List.mem_flatten.mpr ⟨_,YV.mpr ⟨d,?_,rfl⟩,YV.mpr ⟨pl,ih,rfl⟩⟩;cases d with
  |none =>
   have:ds.length=0:=of_decide_eq_true ft;rw[ZY (List.length_eq_zero_iff.mp this)];exact YR.mpr rfl
  |some d =>
   have:d<ds.length:=of_decide_eq_true ft;rw[ZZ λz=>by rw[z]at this;cases this];exact YV.mpr ⟨d,List.mem_range.mpr this,rfl⟩
theorem OD{α:Type} : ∀{l l':List α},l.Nodup->(∀a∈l,a∈l')->l.length<=l'.length
 |[],_,_,_=>aZ _
 |a::l,l',nd,h=>by
  obtain⟨s,t,rfl⟩:=List.append_of_mem (h a (aO ..));have kP:=List.nodup_cons.mp nd;have:=OD (l:=l) (l':=s++t) kP.2 λb hb=>by
   have m:=h b (aJ _ hb);rcases Y1.mp m with z|z
   .exact UH _ z
   .rcases YU.mp z with y|y
    .exact absurd (y ▸ hb) kP.1
    .exact aP _ y
  rw[List.length_cons,aA,List.length_cons];rw[aA]at this;lia
def nG(s:Rat)(off:zi)(pl:ze)(ys:xj):Prop:=ys.length=off.length/\∀i,i<off.length->ys.getD i 0=oK s (λk=>ys.getD k 0) ((chO off pl).getD i none)
abbrev Mnd(s:Rat)(off:zi)(ys:xj)(pl bo:ze):Prop:=P_ s off (tops (cF 1 ys) ys) (cF 1 ys) pl bo
structure MnB(s:Rat)(off:zi)(N:Nat):Prop where
 s0:0<=s
 s1:s<1
 few:off.length<=100
 sh:∀ds∈off,∀o∈ds,ShB s off.length o.ways
 wo:∀pl,PlT off pl->WoB s (chO off pl) N
 me:∀ys:xj,ys.length=off.length->(∀r∈ys,FnB ((2*off.length*N)^off.length) r)->MeB s off ys
 pls:(uf off).length<sizeLine
def zQ{off:zi}(hw:∀ds∈off,∀o∈ds,ShB s off.length o.ways){ql:ze}(hq:PlT off ql)(i:Nat)(hi:i<off.length):ShB s off.length (jg ((chO off ql).getD i none)):=by
 have ei:=aj (show i<ql.length by rwa[hq.len]);rw[Ho ei];cases ql[i]'(by rwa[hq.len])with
 |none=>exact⟨λ_ z=>(nomatch z),λ_ z=>(nomatch z),by show(0:Rat)<=1;decide⟩
 |some d =>
  show ShB s off.length (jg ((off.getD i [])[d]?));rw[au,aj hi];show ShB s off.length (jg (off[i][d]?));cases ed:off[i][d]? with
  |none=>exact⟨λ_ z=>(nomatch z),λ_ z=>(nomatch z),by show(0:Rat)<=1;decide⟩
  |some o=>exact hw _ (aU hi) o (aC ed)
def V8{off:zi}(s0:0<=s)(s1:s<1)(hw:∀ds∈off,∀o∈ds,ShB s off.length o.ways)(hp:PlT off pl)(hy:nG s off pl ys)(hz:nG s off pl zs)(i:Nat)(hi:i<off.length):ys.getD i 0=zs.getD i 0 :=
 Rat.le_antisymm (Ei (y:=λk=>ys.getD k 0) (z:=λk=>zs.getD k 0) s0 s1 (zQ hw hp) (λi hi=>by rw[<- hy.2 i hi];exact VS) hz.2 i hi) (Ei (y:=λk=>zs.getD k 0) (z:=λk=>ys.getD k 0) s0 s1 (zQ hw hp) (λi hi=>by rw[<- hz.2 i hi];exact VS) hy.2 i hi)
abbrev PWs:=List xt×xj
abbrev xi:=List PWs
abbrev pwT(p:PWs):T:=.tup [.lst (p.1.map dT),.lst (p.2.map frR)]
structure Told(s:Rat)(off:zi)(M:Nat)(pl:ze)(ps:xi):Prop where
 hd:∀p,ps[0]?=some p->p.1=pl
 ok:∀p∈ps,PlT off p.1/\nG s off p.1 p.2/\∀r∈p.2,FnB M r
 up:∀(k:Nat)p q,ps[k]?=some p->ps[k+1]?=some q->Mnd s off p.2 p.1 q.1/\q.1≠p.1
def More(m:Nat)(ys zs:xj):Prop:=(∀i,i<m->ys.getD i 0<=zs.getD i 0)/\∃i,i<m/\ys.getD i 0<zs.getD i 0
def More.trans{xs:xj}(h:More m xs ys)(k:More m ys zs):More m xs zs :=
 ⟨λi hi=>Ts (h.1 i hi) (k.1 i hi),let⟨i,hi,l⟩:=h.2;⟨i,hi,by have:=k.1 i hi;grind⟩⟩
def amF{off:zi}{bo:ze}(hp:PlT off pl)(di:PlT off bo)(n:bo≠pl):∃i,i<off.length/\bo[i]?≠pl[i]?:=by
 refine Classical.byContradiction λc=>n (Zzy λi=>?_);by_cases hi:i<off.length
 .exact Decidable.byContradiction λz=>c ⟨i,hi,z⟩
 .rw[aM (by rw[di.len];exact VT hi),aM (by rw[hp.len];exact VT hi)]
def Told.step{off:zi}{ps:xi}(h:Told s off M pl ps)(B:MnB s off N){p q:PWs}(e1:ps[k]?=some p)(e2:ps[k+1]?=some q):More off.length p.2 q.2:=by
 obtain⟨u,n⟩:=h.up k p q e1 e2;obtain⟨a1,a2,_⟩:=h.ok p (aC e1);obtain⟨b1,b2,_⟩:=h.ok q (aC e2);obtain⟨c1,c2⟩:=rise (z:=λk=>q.2.getD k 0) B.s0 B.s1 B.sh a1 u a2.2 b2.2;obtain⟨i,hi,ne⟩:=amF a1 b1 n;exact⟨c1,i,hi,c2 i hi ne⟩
def Told.more{s:Rat}{off:zi}{M N:Nat}{pl:ze}{ps:xi}(h:Told s off M pl ps)(B:MnB s off N){j:Nat}{p:PWs}(e1:ps[j]?=some p):∀(k:Nat){q:PWs},j<k->ps[k]?=some q->More off.length p.2 q.2
 |0,_,l,_=>absurd l (WV _)
 |k+1,q,l,e2=>by
  have lk:k<ps.length:=by have:=(ao.mp e2).1;exact U2 (X1 _) this
  have ek:=aj lk;have st:=h.step B ek e2;by_cases c:j=k
  .subst c;rw[e1]at ek;cases ek;exact st
  .exact(h.more B e1 k (XX (UZ l) c) ek).trans st
def Told.ne{off:zi}{ps:xi}(h:Told s off M pl ps)(B:MnB s off N){p q:PWs}(l:j<k)(e1:ps[j]?=some p)(e2:ps[k]?=some q):p.1≠q.1:=λz=>by
 obtain⟨_,i,hi,lt⟩:=h.more B e1 k l e2;obtain⟨a1,a2,_⟩:=h.ok p (aC e1);obtain⟨b1,b2,_⟩:=h.ok q (aC e2);rw[<- z]at b2;rw[V8 B.s0 B.s1 B.sh a1 a2 b2 i hi]at lt;exact absurd lt (by grind)
def Told.nodup{off:zi}{ps:xi}(h:Told s off M pl ps)(B:MnB s off N):(ps.map (·.1)).Nodup:=by
 refine List.pairwise_iff_getElem.mpr λi j hi hj l=>?_;rw[ak]at hi hj;rw[UX,UX];exact h.ne B l (aj hi) (aj hj)
def Told.len{off:zi}{ps:xi}(h:Told s off M pl ps)(B:MnB s off N):ps.length<=(uf off).length:=by
 have:=OD (h.nodup B) (l':=uf off) λa ha=>by
  obtain⟨p,hp,rfl⟩:=YV.mp ha;exact Yo (h.ok p hp).1
 rwa[ak]at this
def Told.snoc{off:zi}{ps:xi}{x:PWs}(h:Told s off M pl ps)(h0:ps=[]->x.1=pl)(hx:PlT off x.1/\nG s off x.1 x.2/\∀r∈x.2,FnB M r)(hl:∀p,ps.getLast?=some p->Mnd s off p.2 p.1 x.1/\x.1≠p.1):Told s off M pl (ps++[x]):=by
 refine⟨λp e=>?_,λp hp=>?_,λk p q e1 e2=>?_⟩
 .cases ps with
  |nil=>cases e;exact h0 rfl
  |cons y ps=>exact h.hd p e
 .rcases Y1.mp hp with z|z
  .exact h.ok p z
  .cases YR.mp z;exact hx
 .have lk:k+1<(ps++[x]).length:=(ao.mp e2).1;rw[aA,List.length_singleton]at lk;rw[aF (Nat.lt_of_succ_lt_succ lk)]at e1;by_cases c:k+1<ps.length
  .rw[aF c]at e2;exact h.up k p q e1 e2
  .rw[aD (VT c),show k+1-ps.length=0 by omega]at e2;cases e2;exact hl p (by rw[List.getLast?_eq_getElem?,show ps.length-1=k by omega];exact e1)
def aoK{t:T}{ts:zD}{q:OT->Prop}(h:q (.fz t)):gIx (.tup (t::ts)) (.int 0) q:=h
def aic{c d:RT}{q:Bool->Prop}(b:Bool)(h:∀q:Bool->Prop,q b->rOr c d o q)(hq:q b):rOr c d o q:=h q hq
def Sy{h:α->T}{ps:List α}{p:α}(e:ps.getLast?=some p):ixT (ps.map h) (-1)=some (h p):=by
 show nth (ps.map h).reverse 0=_;rw[pO,<- List.map_reverse,aq,<- List.head?_eq_getElem?,List.head?_reverse,e]
 rfl
structure Hr(s:Rat)(off:zi)(M:Nat)(pl:ze)(ps:xi):Prop where
 told:Told s off M pl ps
 ne:ps≠[]
 last:∀p,ps.getLast?=some p->Mnd s off p.2 p.1 p.1
def G4(D:Adr):ST:=λts R=>∃(s:Rat)(ns:Φ)(off:zi)(pl:ze)(N:Nat),ts=[hlT D s ns off,.lst (pl.map dT)]/\Ad ns off/\PlT off pl/\MnB s off N/\∀ps:xi,Hr s off ((2*off.length*N)^off.length) pl ps->R (.l1 (ps.map pwT))
def Uu(T:Tx D):gT 10 xY oF (G4 D):=ya T.Ww λF=>by
 refine F.okT U6 (λhr _=>bF (iD (bI (Nh T) (bx wr (bx wn bC))))
  (bF (gQ 2 (dh bC))
  (bF (bN 3 (lF z8 T.vP boot_list (bx wn bC)))
  (bF (JL (QW.qt (jD (bY (go_eq hr.units) (Q6 2 (bR cJ T.dJ WG (bx we bC))) bA) (ig (bY (mY hr.units) wa (bJ (uL 2 (vm bA)) bA)))))
  (bF (oX 2 (cN (bx wa (bx (bI (P0 T) (bx wr (bx wa bC))) bC))))
  (bH (bN 3 (bI (Z0 T) (bx wr (bx wa (bx (bJ (uL 2 (vm bA)) bA) bC))))))))
  (bH (jL 2)))))) ?_
 rintro _ R ⟨s,ns,off,pl,N,rfl,h,hp,B,ok⟩;generalize eM:(2*off.length*N)^off.length=M at ok;refine⟨_,_,_,_,rfl,h,hp,?_⟩;refine⟨λm o=>∃(ps:xi)(cl:ze),o=[.fz (hlT D s ns off),.fz (.lst (pl.map dT)),.l1 (ps.map pwT),.fz (.lst (cl.map dT))]/\Told s off M pl ps/\PlT off cl/\(ps=[]->cl=pl)/\(∀p,ps.getLast?=some p->Mnd s off p.2 p.1 cl)/\m+ps.length=(uf off).length,⟨(uf off).length,[],pl,rfl,⟨λ_ z=>(nomatch z),λ_ z=>(nomatch z),λ_ _ _ z=>(nomatch z)⟩,hp,λ_=>rfl,λ_ z=>(nomatch z),rfl⟩,?_⟩;rintro m _ ⟨ps,cl,rfl,t,hc,c0,cu,em⟩;refine aic (decide (ps.getLast?.map (·.1)≠some cl)) (λq hq=>?_) (swD (λhn=>?_) λhn=>?_)
 .cases e:ps.getLast? with
  |none =>
   have e0:=List.getLast?_eq_none_iff.mp e;subst e0;exact⟨trivial,hq⟩
  |some p =>
   have n0:ps.length≠0:=λz=>by rw[List.length_eq_zero_iff.mp z]at e;cases e
   rw[e]at hq;refine⟨trivial,swF (Zp (by rw[ak];lia)) ⟨_,Sy e,?_⟩⟩;dsimp only[rC,frz];refine aoK (t:=.lst (p.1.map dT)) ?_;refine Vq.gEq ?_;have e2:xr true (decide (cl=p.1))=decide ((some p).map (·.1)≠some cl):=by
    by_cases c:cl=p.1
    .rw[Zs c,c];simp
     rfl
    .rw[Zp c];have:¬(p.1=cl):=λz=>c z.symm;simp[this]
     rfl
   rwa[e2]
 .refine⟨λo'=>∃(ys:xj)(eW:ze),o'=[.fz (hlT D s ns off),.fz (.lst (pl.map dT)),.l1 ((ps++[(cl,ys)]).map pwT),.fz (.lst (eW.map dT))]/\nG s off cl ys/\(∀r∈ys,FnB M r)/\Mnd s off ys cl eW,?_,?_⟩
  .rintro _ ⟨ys,eW,rfl,h1,h2,h3⟩;have t':Told s off M pl (ps++[(cl,ys)]):=t.snoc c0 ⟨hc,h1,h2⟩ λp e=>⟨cu p e,λz=>hn (by rw[e];exact ZH some z.symm)⟩;have l:=t'.len B;rw[aA,List.length_singleton]at l;refine⟨(uf off).length-(ps.length+1),by omega,ps++[(cl,ys)],eW,rfl,t',Pa hc h3,λz=>absurd z wp,λp e=>?_,by rw[aA,List.length_singleton];exact Nat.sub_add_cancel l⟩;rw[List.getLast?_concat]at e;cases e;exact h3
  .have sl:(ps.map pwT).length<sizeLine:=by
    rw[ak];have:=t.len B;have:=B.pls;lia
   refine⟨s,ns,off,cl,N,rfl,h,hc,B.few,B.wo cl hc,λy hw hb=>⟨sl,?_⟩⟩;have ym:((List.range off.length).map y).map frR=(List.range off.length).map λi=>frR (y i):=by rw[WJ];rfl
   have yl:((List.range off.length).map y).length=off.length:=by rw[ak,WP]
   have yg:∀k,k<off.length->((List.range off.length).map y).getD k 0=y k:=λk hk=>by rw[au,aq,VW hk];rfl
   have fb:∀r∈(List.range off.length).map y,FnB ((2*off.length*N)^off.length) r:=λr hr=>by
    obtain⟨i,hi,rfl⟩:=YV.mp hr;exact hb i (List.mem_range.mp hi)
   have wy:nG s off cl ((List.range off.length).map y):=⟨yl,λi hi=>by
    have sp:=zQ B.sh hc;have eW:=zJ hc;rw[yg i hi,(Oz (by rwa[eW])).mp hw i (by rwa[eW])];unfold oK;rw[Jy (x:=λk=>((List.range off.length).map y).getD k 0) (z:=y) λw hm=>yg w.1 ((sp i hi).lt w hm)]⟩
   rw[<- ym];have el:(ps++[(cl,(List.range off.length).map y)]).getLast?=some (cl,(List.range off.length).map y):=by simp
   have il:=Sy (h:=pwT) el;rw[bf]at il;refine⟨_,il,s,ns,off,cl,(List.range off.length).map y,rfl,h,hc,B.me _ yl fb,λeW hm=>⟨_,eW,?_,wy,eM ▸ fb,hm⟩⟩;rw[bf]
   rfl
 .have hn:ps.getLast?.map (·.1)=some cl:=Decidable.not_not.mp hn;refine ok ps ⟨t,(λz=>by rw[z]at hn;cases hn),λp e=>?_⟩;rw[e]at hn;cases hn;exact cu p e
def K3(T:Tx D):OkI P w K mg base CX0 1 D.NoPlan_init ju (ahZ D.NoPlan "room"):=ye T.Mg λF=>by
 refine F.okB J_ ?_ ?_
 .rintro _ _ _ _ ⟨a,v,rfl,_⟩;rfl
 .rintro ah A outer s H _ Q E hr ⟨a,v,rfl,ha,q⟩;refine⟨_,(ZW (PSB.mk (mD (adC T.ib_HallError T.xi_NoPlan (by rfl) T.V3 (dG (pv 0) (dG Qm nq)))))
   (abP (PSB.mk (afV (pv 0) (pv 1) rfl)))),?_⟩
  exact⟨_,rfl,a,[_],rfl,ha,by decide,_,rfl,_,rfl,a,D.NoPlan,rfl,ha,T.xs_NoPlan,T.zG,q⟩
def Ky(t:L2.T)(n:Nat):xN:=if n=0 then match t with|.non=>some true|.any=>none|.val _=>none|_=>some false else match t with|.int k=>some (decide (0<=k)&&decide (k<n))|_=>(isW t).map λ_=>false
def VL:ST:=λts q=>∃(t:L2.T)(n:Nat)(b:Bool),ts=[t,.int n]/\Ky t n=some b/\q (.fz (.bl b))
def acD(T:Tx D):gT 2 Ed vU VL:=ya T.adH λF=>by
 refine F.okT YS (λhr _=>bF (cC (bY (go_eq hr.units) wn bA)
  (bH (bO (qK xu wr fJ)))
  bT)
  (bH (bO (Ca (bI (U0 T) (bx wr bC)) (Gr (Jx O5 v7 bA wr wn)))))) ?_
 rintro _ R ⟨t,n,b,rfl,hb,q⟩;by_cases e:n=0
 .subst e;cases t<;>cases hb<;>exact q
 .refine swF (Zp wf) ?_;unfold Ky at hb;rw[ZZ e]at hb;cases t with
  |int k =>
   cases hb;refine⟨_,_,rfl,rfl,?_⟩;show sw (decide (0<=k)) (R (.fz (.bl (decide (k<(n:Int)))))) (R (.fz (.bl false)));by_cases k0:0<=k
   .rw[Zs k0,Bool.true_and]at q;exact swT (Zs k0) q
   .rw[Zp k0,Bool.false_and]at q;exact swF (Zp k0) q
  |_=>cases hb<;>exact⟨_,_,rfl,rfl,q⟩
inductive PlX(off:zi):L2.T->L2.T->Prop
 |kind {t:L2.T} : isK .list t=some false->PlX off t .non
 |len {ts:List L2.T} : ts.length≠off.length->PlX off (.lst ts) .non
 |at{ts:List L2.T}{k:Nat}{t:L2.T}{ds:wq} : ts.length=off.length->(∀(j:Nat)(u:L2.T)(es:wq),j<k->ts[j]?=some u->off[j]?=some es->Ky u es.length=some true)->ts[k]?=some t->off[k]?=some ds->Ky t ds.length=some false->PlX off (.lst ts) (.int k)
def mK(D:Adr):SX:=λts _ z=>∃(s:Rat)(ns:Φ)(off:zi)(v w:L2.T),ts=[hlT D s ns off,v]/\Ad ns off/\PlX off v w/\z D.NoPlan ["room"] [w]
def J3(T:Tx D):aiY P w K mg base 4 eZ dN (mK D):=yf T.Eb λF=>by
 refine F.okTX Ax (λhr _=>bF (cC (QW.qt (jD (eE (dI (pU .list wn T.d_ T.vP boot_list))) (ig (bY (mY hr.units) (bR cJ T.dJ WG (bx wn bC)) (ud wr T.gG T.mG (QC T) (KS:=iC))))))
  (bH (Va rfl T.JZ T.xi_NoPlan (K3 T) fJ))
  bT)
  (bF (eF (rF T.iu (bx wn bC)) (fj (n:=2) (bQ (bW (n:=99) 2) (bQ (bW (n:=99) 3) dB)))
  (bH (cC (eE (dI (bI (acD T) (bx wa (bx (bR cJ T.dJ WG (bx (rH wr T.gG T.g8 (aaD T) (bx we bC) (KS:=iC)) bC)) bC)))))
  (bH (Va rfl T.JZ T.xi_NoPlan (K3 T) we))
  bT)))
  (bH (bO j5)))) ?_
 rintro _ R Z ⟨s,ns,off,v,w,rfl,h,hp,q⟩;cases hp with
 |kind e =>
  cases v<;>first|exact q|cases e
 |len e =>
  refine⟨⟨rfl,rfl⟩,_,_,_,rfl,swT ?_ ?_⟩
  .have hl:=h.len;rw[Zp (λz=>e wf)]
   rfl
  .exact q
 |@«at» us k t ds l hf et eo ef =>
  refine⟨⟨rfl,rfl⟩,_,_,_,rfl,swF ?_ ?_⟩
  .show xr true (decide (((us.length:Nat):Int)=(ns.length:Nat)))=false;rw[l,h.len,Zs rfl]
   rfl
  .have hk:k<us.length:=(ao.mp et).1;rw[show us=us.map λt=>t from(List.map_id' us).symm];refine pK (λt=>t) us (λj o=>j<=k/\∃x y,o=[.fz (hlT D s ns off),.fz (.lst (us.map λt=>t)),x,y]) ⟨aZ _,_,_,rfl⟩ ?_ ?_
   .rintro j u _ e ⟨jk,x,y,rfl⟩;have lj:j<off.length:=by rw[<- l];exact(ao.mp e).1
    have ej:=aj lj;by_cases c:j=k
    .subst c;rw[et]at e;cases e;rw[eo]at ej;have ds':(off[j]).length=ds.length:=by rw[Option.some.inj ej]
     refine⟨rfl,⟨rfl,rfl⟩,_,_,_,j,_,rfl,h,eo,t,ds.length,false,?_,ef,q⟩;show[t,L2.T.int (((ds.map ofT).length:Nat):Int)]=_;rw[ak]
    .refine⟨rfl,⟨rfl,rfl⟩,_,_,_,j,_,rfl,h,ej,u,(off[j]).length,true,?_,hf j u _ (XX jk c) e ej,?_⟩
     .show[u,L2.T.int ((((off[j]).map ofT).length:Nat):Int)]=_;rw[ak]
     .exact⟨by lia,_,_,rfl⟩
   .rintro _ ⟨z,x,y,rfl⟩;exact absurd z (Nat.not_le_of_lt hk)
def Ak(off:zi):ze:=off.map λds=>if 0<ds.length then some 0 else none
def aed(off:zi):PlT off (Ak off):=by
 refine⟨ak ..,λk d ds e1 e2=>?_⟩;unfold Ak at e1;rw[aq,e2]at e1;cases e1;show Av (if 0<ds.length then some 0 else none) ds.length=true;split
 .rename_i h;exact Zs h
 .rename_i h;exact Zs wf
def Am(D:Adr):ST:=λts q=>∃(s:Rat)(ns:Φ)(off:zi),ts=[hlT D s ns off]/\Ad ns off/\q (.l1 ((Ak off).map dT))
def Nb(T:Tx D):gT 4 sE kO (Am D):=ya T.Qk λF=>by
 refine F.okT MF (λ_ _=>bH (bO (eU (bG pA) vI vI ["room"] (dZ T.fM (bx (ud wr T.gG T.mG (QC T) (KS:=iC)) bC)) (gk (i:=0)) cD (Hg (bY JR (bR cJ T.dJ WG (bx (rH wn T.gG T.g8 (aaD T) (bx wr bC) (KS:=iC)) bC)) bA) bA fJ)))) ?_;rintro _ R ⟨s,ns,off,rfl,h,q⟩;have few:=h.few;have hl:=h.len;have em:(List.range ns.length).map (λk=>dT (if 0<(off.getD k []).length then some 0 else none))=(Ak off).map dT:=by
  refine Zzy λk=>?_;unfold Ak;rw[aq,aq,aq];by_cases hk:k<ns.length
  .rw[VW hk,aj (show k<off.length by lia)];show some (dT (if 0<(off.getD k []).length then some 0 else none))=some (dT (if 0<off[k].length then some 0 else none));rw[show off.getD k []=off[k]by rw[au,aj (show k<off.length by lia)];rfl]
  .rw[aM (by rw[WP];exact VT hk),aM (show off.length<=k by lia)]
   rfl
 refine⟨⟨rfl,rfl⟩,s,ns,off,rfl,⟨by lia,by lia⟩,by rw[rng,ak,WP];exact aL (show _<=1000 by lia) wb,Ey (λk=>dT (if 0<(off.getD k []).length then some 0 else none)) ns.length (λk hk N M hN=>?_) ?_⟩
 .have ek:=aj (show k<off.length by lia);rw[au,ek]at hN;have hN:N (dT (if 0<off[k].length then some 0 else none)):=hN;refine⟨⟨rfl,rfl⟩,s,ns,off,k,_,rfl,h,ek,?_⟩;by_cases c:0<off[k].length
  .rw[ZY c]at hN;exact swT (Zs (by rw[ak];lia)) hN
  .rw[ZZ c]at hN;exact swF (Zp (by rw[ak];lia)) hN
 .rw[em];exact q
def vO(D:Adr):ST:=λts q=>∃(s:Rat)(ns:Φ)(off:zi)(N:Nat),ts=[hlT D s ns off]/\Ad ns off/\MnB s off N/\∀(ps:xi)(p:PWs),Hr s off ((2*off.length*N)^off.length) (Ak off) ps->ps.getLast?=some p->q (.fz (pwT p))
def Xg(T:Tx D):gT 11 qH lg (vO D):=ya T.aa5 λF=>by
 refine F.okT X7 (λ_ _=>bH (bO (bJ (bI (Uu T) (bx wr (bx (bI (Nb T) (bx wr bC)) bC))) (vm bA)))) ?_;rintro _ R ⟨s,ns,off,N,rfl,h,B,q⟩;refine⟨s,ns,off,rfl,h,s,ns,off,Ak off,N,rfl,h,aed off,B,λps hm=>?_⟩;cases e:ps.getLast? with
 |none=>exact absurd (List.getLast?_eq_none_iff.mp e) hm.ne
 |some p=>exact⟨_,Sy e,q ps p hm e⟩
def u_(l:zs.length=m)(hk:k<m):zs[k]?=some (zs.getD k 0):=by rw[au,aj wf];rfl
def rD(r:Rat):PyData:=.tuple [.int r.num,.int r.den]
def afr:EqD frR rD:=⟨λ_=>rfl,λ_=>rfl,λr=>by unfold rD PyData.depth PyData.depthAll PyData.depthAll PyData.depthAll PyData.depth;decide,λx y=>by
 unfold rD;rw[aep,<- Bool.decide_and];exact decide_eq_decide.mpr ⟨λz=>Rat.ext z.1 (by have:=z.2;lia),λz=>by rw[z];exact⟨rfl,rfl⟩⟩⟩
def aoU{t u:T}{ts:zD}{q:OT->Prop}(h:q (.fz u)):gIx (.tup (t::u::ts)) (.int 1) q:=h
def LC(D:Adr):ST:=λts q=>∃(s:Rat)(ns:Φ)(off:zi)(k:Nat)(ys:xj)(ds:wq),ts=[hlT D s ns off,.int (k:Nat),.lst (ys.map frR)]/\Ad ns off/\off[k]?=some ds/\MeB s off ys/\q (.l1 (ds.map λo=>frR (Ae s (λj=>ys.getD j 0) o)))
def acK(T:Tx D):gT 5 Ez uh (LC D):=ya T.afg λ{f fd}F=>by
 refine F.okT acX (λ_ _=>bF (bN 3 (rH wr T.gG T.g8 (aaD T) (bx wn bC) (KS:=iC)))
  (bF (bN 4 (bI (aeu T) (bx we bC)))
  (bH (bO (eU (bG IK) Qs Qs ["offer"] (cI wa) (gk (i:=0)) cD (bI (aeJ T) (bx (bI (Ke T) (bx wn (bx wr (bx wE bC)))) (bx (cN (bx (bJ wE bA) (bx bA bC))) bC)))))))) ?_
 rintro _ R ⟨s,ns,off,k,ys,ds,rfl,h,ek,hm,q⟩;have mem:=aC ek;have fd:=h.fews _ mem;have B0:=gD ys US;refine⟨⟨rfl,rfl⟩,_,_,_,k,_,rfl,h,ek,ys,rfl,hm.few,hm.num,hm.lcm,by rw[ak];exact aL fd wb,comp_map ofT (λo=>frR (Ae s (λj=>ys.getD j 0) o)) ds (λo ho N M hN=>?_) q⟩;obtain⟨l1,l2,l3⟩:=hm.look _ mem o ho;have nz:((cF 1 ys:Nat):Rat)≠0:=λz=>by
  have:=Rat.intCast_eq_zero_iff.mp (show(((cF 1 ys:Nat):Int):Rat)=0 from z);lia
 refine⟨s,ns,off,o,_,_,rfl,l1,_,((cF 1 ys:Nat):Rat),rfl,nz,l2,⟨hm.lcm,bq1.2⟩,l3,?_⟩;rw[show mF s (tops (cF 1 ys) ys) (cF 1 ys) o/((cF 1 ys:Nat):Rat)=Ae s (λj=>ys.getD j 0) o by rw[DG];grind];exact hN
def yr(s:Rat)(off:zi)(ys:xj)(pl:ze)(k:Nat):Rat:=match(pl.getD k none).bind λd=>(off.getD k [])[d]? with
 |none=>0
 |some o=>ys.getD k 0-Ae s (λj=>ys.getD j 0) o
structure LaB(s:Rat)(off:zi)(ys:xj):Prop where
 y:∀r∈ys,Bq r
 v:∀ds∈off,∀o∈ds,Bq (Ae s (λj=>ys.getD j 0) o)
 d:∀r∈ys,∀ds∈off,∀o∈ds,Bd ((r.den:Int)*(Ae s (λj=>ys.getD j 0) o).den)
def G8(D:Adr):ST:=λts q=>∃(s:Rat)(ns:Φ)(off:zi)(pl:ze)(N:Nat),ts=[hlT D s ns off,.lst (pl.map dT)]/\Ad ns off/\PlT off pl/\MnB s off N/\(∀p:PWs,PlT off p.1->nG s off p.1 p.2->(∀r∈p.2,FnB ((2*off.length*N)^off.length) r)->LaB s off p.2)/\∀(ps:xi)(p:PWs),Hr s off ((2*off.length*N)^off.length) (Ak off) ps->ps.getLast?=some p->q (.l1 ((List.range off.length).map λk=>frR (yr s off p.2 pl k)))
def Wn(T:Tx D):gT 12 ou jE (G8 D):=ya T.Lx λF=>by
 refine F.okT GZ (λ_ _=>bF (iD (bI (Nh T) (bx wr (bx wn bC))))
  (bF (bN 2 (bJ (bI (Xg T) (bx wr bC)) bA))
  (bF (gQ 3 (dh bC))
  (bF (eF (rF T.iu (bx wn bC)) (fj (n:=2) (bQ (bW (n:=99) 4) (bQ (bW (n:=99) 5) dB)))
  (bH (oX 3 (Hg (bY xu wE fJ) (jX T.gZ T.fY) (bI (adO T) (bx (bJ we wP) (bx (bJ (bI (acK T) (bx wr (bx wP (bx we bC)))) wE) bC)))))))
  (bH (jL 3)))))) ?_
 rintro _ R ⟨s,ns,off,pl,N,rfl,h,hp,B,LB,ok⟩;refine⟨_,_,_,_,rfl,h,hp,s,ns,off,N,rfl,h,B,λps p hm el=>?_⟩;have ok:=ok ps p hm el;obtain⟨k1,k2,k3⟩:=hm.told.ok p (Q4 el);have lb:=LB p k1 k2 k3;have me:=B.me p.2 k2.1 k3;have few:=B.few;dsimp only[rC,frz];refine aoU (u:=.lst (p.2.map frR)) ?_;refine pK dT pl (λk o=>∃x y,o=[.fz (hlT D s ns off),.fz (.lst (pl.map dT)),.fz (.lst (p.2.map frR)),.l1 ((List.range k).map λk=>frR (yr s off p.2 pl k)),x,y]) ⟨.und,.und,rfl⟩ ?_ ?_
 .rintro k d _ e ⟨x,y,rfl⟩;have iS:k<off.length:=by rw[<- hp.len];exact(ao.mp e).1
  have ek:=aj iS;have lm:((List.range k).map λk=>frR (yr s off p.2 pl k)).length<sizeLine:=by rw[ak,WP];exact aR (show _<1001 by lia) wb
  have ey:p.2[k]?=some (p.2.getD k 0):=by rw[au,aj (by rwa[k2.1])];rfl
  have next:∀r:Rat,yr s off p.2 pl k=r->((List.range k).map λk=>frR (yr s off p.2 pl k))++[frR r]=(List.range (k+1)).map λk=>frR (yr s off p.2 pl k):=λr hr=>by rw[<- hr,List.range_succ,bf];rfl
  have eg:pl.getD k none=d:=by rw[au,e];rfl
  refine⟨rfl,?_⟩;cases d with
  |none =>
   refine⟨lm,.fz (.int k),.fz .non,?_⟩;rw[<- next 0 (by unfold yr;rw[eg];rfl)]
   rfl
  |some d =>
   have ld:d<(off[k]).length:=of_decide_eq_true (hp.ok k (some d) _ e ek);have mo:=aU iS;have md:=aU ld;refine⟨_,dg ey,s,ns,off,k,p.2,off[k],rfl,h,ek,me,_,dg (h:=λo=>frR (Ae s (λj=>p.2.getD j 0) o)) (aj ld),_,_,rfl,lb.y _ (aC ey),lb.v _ mo _ md,lb.d _ (aC ey) _ mo _ md,lm,.fz (.int k),.fz (.int d),?_⟩;rw[<- next (p.2.getD k 0-Ae s (λj=>p.2.getD j 0) off[k][d]) (by
    unfold yr;rw[eg,au (l:=off),ek];show(match off[k][d]? with|none=>(0:Rat)|some o=>_)=_;rw[aj ld])]
   rfl
 .rintro _ ⟨x,y,rfl⟩;rw[hp.len];exact ok
def Rg(T:Tx D):aiY P w K mg base 12 ou jE (mK D):=yf T.Lx λF=>by
 refine F.okTX GZ (λ_ _=>bF (adk (J3 T) (bx wr (bx wn bC)))
  (bF (bN 2 (bJ (bI (Xg T) (bx wr bC)) bA))
  (bF (gQ 3 (dh bC))
  (bF (eF (rF T.iu (bx wn bC)) (fj (n:=2) (bQ (bW (n:=99) 4) (bQ (bW (n:=99) 5) dB)))
  (bH (oX 3 (Hg (bY xu wE fJ) (jX T.gZ T.fY) (bI (adO T) (bx (bJ we wP) (bx (bJ (bI (acK T) (bx wr (bx wP (bx we bC)))) wE) bC)))))))
  (bH (jL 3)))))) ?_
 rintro _ R Z ⟨s,ns,off,v,w,rfl,h,hp,q⟩;exact⟨s,ns,off,v,w,rfl,h,hp,q⟩
def aeh{t u:TS}{D:Ends}{σ:L2.St}(h:∀u',u'=u->aaq t u' D σ H):aaq t u D σ H:=h u rfl
def ahL{t u:TS}{D:Ends}{σ:L2.St}(h:t { D with nx:=u D } σ H):aaq t u D σ H:=h
def Lq(D:Adr):ST:=λts q=>∃(s:Rat)(ns:Φ)(off:zi)(v w:L2.T),ts=[hlT D s ns off,v]/\Ad ns off/\PlX off v w/\q (.fz (.tup [.str "plan",w]))
def W4(T:Tx D):gT 13 BP pZ (Lq D):=ya T.aa8 λF=>by
 refine F.ok JX (λvs H Q E h=>?_) (λah A outer s H vs Q E hr h=>?_)
 .obtain⟨ts,R,r,⟨_,_,_,_,_,rfl,_⟩,_⟩:=h;exact r.len
 .obtain⟨ts,R,r,⟨s',ns,off,v',w',rfl,hh,hp,q⟩,k⟩:=h;obtain⟨o,v,rfl⟩ : ∃o v,vs=[o,v]:=by
   match vs,r.len with
   |[o,v],_=>exact⟨o,v,rfl⟩
  refine⟨_,(Ld (aev (i:=2) JX.nd rfl rfl (by rfl) T.JZ T.aek T.acM rfl rfl rfl (λ_ _ _ HF=>(zY (mD (Ua (Rg T) hr.md (by rfl) HF (dG (pv 0) (dG (pv 1) nq))))))
    (λ_ _=>(zY (LQ (Qw (dG Qm (dG (adF (K':=K) rfl (pv 2) rfl) nq)))))))
   (zY (LQ (Qw (dG Qm (dG acH nq)))))),?_⟩
  refine aeh λR1 hR1=>?_;refine ahL ⟨λC d σ H'=>C=.ref D.NoPlan/\σ=[some o,some v,none]/\∃d' u,d=some d'/\Same H H'/\H' d'=some (.xd [("room",u)])/\Rep K H' u w',?_,?_⟩
  .refine⟨_,rfl,_,rfl,_,λ_=>False,λC ks us=>C=D.NoPlan/\ks=(["room"] : Φ)/\us=[w'],r,⟨s',ns,off,v',w',rfl,hh,hp,rfl,rfl,rfl⟩,(λ_ _ _ z=>z.elim),?_⟩;rintro H' C d ks us c6 ⟨rfl,rfl,rfl⟩ S hx ru
   match us,ru with
   |[u],.cons ru .nil=>exact⟨rfl,rfl,d,u,rfl,S,hx,ru⟩
  .rintro _ _ σ' H' ⟨rfl,rfl,d,u,rfl,S,hx,ru⟩;refine⟨D.NoPlan,rfl,T.sm_NoPlan,λa ha=>?_⟩;have S1:Same H' (upd H' a (XO a D.NoPlan (some d))):=Same.upd ha;have hX:upd H' a (XO a D.NoPlan (some d)) a=some (XO a D.NoPlan (some d)):=cj;generalize upd H' a (XO a D.NoPlan (some d))=H1 at S1 hX ⊢;exact⟨_,rfl,a,D.NoPlan,d,_,u,rfl,hX,S1 _ _ hx,T.xk_NoPlan,T.hd_NoPlan,T.zG,rfl,(show 2<=sizeLine by decide),λt H5 S5 ft et=>k H5 (.ref t) _ q (S.trans (S1.trans S5)) (NR.fz (by
    rw[Ip];exact .tup (.inl (Rd.of et)) (.cons (.str _) (.cons (ru.same (S1.trans S5)) .nil))))⟩
def Iu(l:List α)(c:Int)(hl:l.length=m)(h0:0<m):∃t,t∈l/\ixT l (c%(m:Nat))=some t:=by
 have a:=Z3 c (show((m:Nat):Int)≠0 by lia);have b:=YY c (show(0:Int)<(m:Nat)by lia);obtain⟨k,e⟩:=Zyx a;have hk:k<l.length:=by lia
 refine⟨l[k],aU hk,?_⟩;rw[e];show nth l k=_;rw[pO,aj hk]
def acS:ST:=λts q=>∃(c:Int)(n:Nat),ts=[.int c,.int (n:Nat)]/\n<=100/\∀t,Ky t n=some false->q (.fz t)
def aiU(T:Tx D):gT 1 Xo Jq acS:=ya T.ajG λF=>by
 refine F.okT ahG (λhr _=>bF (cC (bY (go_eq hr.units) wn bA)
  (bH (bO (bJ (dh (bx bA (bx j5 (bx m9 (bx (vm bA) (bx (dh bC) (bx (cN (bx bA (bx bA bC))) bC))))))) (bL cA wr bA))))
  bT)
  (bH (bO (bJ (dh (bx fJ (bx (vm bA) (bx wn (bx j5 (bx j5 (bx m9 (bx (dh (bx bA bC)) (bx (bL cL wn (bL Q_ bA bA)) bC))))))))) (bL cA wr bA))))) ?_
 rintro _ R ⟨c,n,rfl,nl,q⟩;refine swD (λh=>?_) λh=>?_
 .have n0:n=0:=by lia
  subst n0;refine⟨by decide,?_⟩;obtain⟨t,ht,e⟩:=Iu [L2.T.int 0,.bl false,.str "",.int (-1),.lst [],.tup [.int 0,.int 1]] c rfl wb;refine⟨t,e,q t ?_⟩
  revert t
  simp only[YU,Up,or_false];rintro t (rfl|rfl|rfl|rfl|rfl|rfl) _<;>rfl
 .have n0:n≠0:=by lia
  refine⟨?_,?_⟩
  .exact⟨by decide,by decide⟩
  have e30:(10:Int)^Int.toNat 30=10^30:=rfl;dsimp only[frz];rw[e30];refine⟨by decide,?_⟩;obtain⟨t,ht,e⟩:=Iu [L2.T.non,.int (-1),.int (n:Nat),.bl true,.bl false,.str "0",.lst [.int 0],.int ((n:Nat)+10^30)] c (m:=8) rfl wb;refine⟨t,e,q t ?_⟩
  revert t
  simp only[YU,Up,or_false];have big:(100:Int)<10^30:=by decide
  rintro t (rfl|rfl|rfl|rfl|rfl|rfl|rfl|rfl) _<;>unfold Ky<;>rw[ZZ n0]<;>first|rfl|(refine ZH some ?_;rw[Zp (show ¬(_:Int)<(n:Nat)by lia),Bool.and_false])
def iT{i:Int}(h:i.natAbs<18446744073709551616):Bd i:=aR h (aL (by decide:18446744073709551616<=2^64) (XT wb wb))
abbrev scT(ns:xy):T:=.scr (ns.map T.int)
def Pz:ST:=λts q=>∃(ns:xy)(k:Nat),ts=[scT ns,.int (k:Nat)]/\ns.length<=100/\q (.fz (.int (ns.getD k 0)))
def Dw{β:Type}(h:α->β)(l:List α)(lo hi:xb):gU (l.map h) lo hi=(gU l lo hi).map h:=by unfold gU;rw[ak,List.map_take,List.map_drop]
def afs(l:List α)(k:Nat):gU l (some (k:Int)) (some ((k:Int)+1))=(l.drop k).take 1:=by
 unfold gU HT.sIx;show List.take ((if(k:Int)+1<0 then _ else min ((k:Int)+1).toNat l.length)-(if(k:Int)<0 then _ else min (k:Int).toNat l.length)) (List.drop (if(k:Int)<0 then _ else min (k:Int).toNat l.length) l)=_;rw[ZZ wf,ZZ (Int.not_lt_of_ge (Wp _))];by_cases h:k<l.length
 .rw[show min ((k:Int)+1).toNat l.length=k+1 by lia,show min (k:Int).toNat l.length=k by lia,show k+1-k=1 by exact JU _ _]
 .rw[show min (k:Int).toNat l.length=l.length by lia,List.drop_length,JS (VT h),List.take_nil,List.take_nil]
def agu(T:Tx D):gT 1 IV z6 Pz:=ya T.aiW λF=>by
 refine F.okT aeE (λ_ _=>bH (bO (bJ (bL cL (kJ wr (iy wn) (iy (bL cL wn bA))) (dh (bx bA bC))) bA))) ?_;rintro _ R ⟨ns,k,rfl,hl,q⟩;have e:gU (ns.map L2.T.int) (some (k:Int)) (some ((k:Int)+1))=((ns.drop k).take 1).map L2.T.int:=by rw[Dw,afs]
 refine⟨?_,.int (ns.getD k 0),?_,q⟩
 .show(gU (ns.map L2.T.int) (some (k:Int)) (some ((k:Int)+1))).length+1<=sizeLine;rw[e,ak,aY];exact aL (show _<=2 by lia) wb
 .show ixT (gU (ns.map L2.T.int) (some (k:Int)) (some ((k:Int)+1))++[L2.T.int 0]) 0=_;rw[e];by_cases h:k<ns.length
  .rw[Zzz h,List.take_succ_cons,au,aj h]
   rfl
  .rw[JS (VT h),au,aM (VT h)]
   rfl
def strN(c:Int):Nat->Int×Int
 |0=>((c%1999999973+31)*765432101%1999999973,if c<0\/10^18<=c then(c.natAbs:Int)else 0)
 |k+1=>(((strN c k).1*((strN c k).1%65521+40487)+7*(k:Int)+5)%1999999973,(strN c k).2.fdiv 1000000)
def strm(c:Int)(k:Nat):Int:=if 0<(strN c k).2 then(strN c k).2%1000000 else(strN c (k+1)).1
def YM(c:Int):∀k,0<=(strN c k).1/\(strN c k).1<1999999973
 |0=>⟨Z3 _ wb,YY _ wb⟩
 |_+1=>⟨Z3 _ wb,YY _ wb⟩
def mU(c:Int)(k:Nat):0<=strm c k/\strm c k<2000000000:=by
 unfold strm;have:=YM c (k+1);split<;>lia
abbrev j7(c:Int)(n:Nat):xy:=(List.range n).map (strm c)
def jP:ST:=λts q=>∃(c:Int)(n:Nat),ts=[.int c,.int (n:Nat)]/\n<=1000/\q (.l1 ((j7 c n).map T.int))
def abb(T:Tx D):gT 1 iZ fB jP:=ya T.ada λF=>by
 refine F.okT aaj (λ_ _=>bF (gQ 2 (dh bC))
  (bF (bN 3 (bL cA (bL cG (bL cL (bL cA wr bA) bA) bA) bA))
  (bF (bN 4 bA)
  (bF (cC (QW.qt (jD (bY v7 wr bA) (ig (bY agL wr (bL Q_ bA bA)))))
  (bH (bN 4 (bR Lf T.VJ boot_abs (bx wr bC))))
  bT)
  (bF (eF (dZ T.fM (bx wn bC)) (bW (n:=99) 5)
  (bF (bN 3 (bL cA (bL cL (bL cL (bL cG wa (bL cL (bL cA wa bA) bA)) (bL cG bA wE)) bA) bA))
  (bF (oX 2 (bJ (dh (bx wa (bx (bL cA wP bA) bC))) (lF aiP T.acC boot_int (bx (qK JR wP bA) bC))))
  (bH (bN 4 (bL nJ wP bA))))))
  (bH (jL 2))))))) ?_
 rintro _ R ⟨c,n,rfl,hn,q⟩;refine sq4 (λo=>o=[.fz (.int c),.fz (.int (n:Nat)),.l1 [],.fz (.int (strN c 0).1),.fz (.int (strN c 0).2),.und]) ?_ λY go=>?_
 .rintro _ rfl;refine⟨⟨by lia,by lia⟩,?_⟩;refine qz (λk o=>∃x,o=[.fz (.int c),.fz (.int (n:Nat)),.l1 ((j7 c k).map L2.T.int),.fz (.int (strN c k).1),.fz (.int (strN c k).2),x]) ⟨_,rfl⟩ ?_ ?_
  .rintro k _ hk ⟨x,rfl⟩;have b:=YM c k;refine⟨by decide,⟨iT wf,iT wf⟩,⟨iT wb,iT wf⟩,by decide,by decide,.int (strm c k),?_,?_,⟨by decide,iT wb⟩,.fz (.int k),?_⟩
   .by_cases h:0<(strN c k).2
    .rw[Zs h];unfold strm;rw[ZY h]
     rfl
    .rw[Zp h];unfold strm;rw[ZZ h]
     rfl
   .rw[ak,ak,WP];exact aR (show k<1001 by lia) wb
   .rw[show j7 c (k+1)=j7 c k++[strm c k]by simp[j7,List.range_succ],bf]
    rfl
  .rintro _ ⟨x,rfl⟩;exact q
 .refine⟨by decide,⟨iT wf,iT wb⟩,by decide,?_⟩;refine swD (λh=>go _ ?_) λh=>⟨⟨by decide,by decide,by decide⟩,swD (λh'=>go _ ?_) λh'=>go _ ?_⟩
  .show _=[_,_,_,_,OT.fz (L2.T.int (if c<0\/10^18<=c then(c.natAbs:Int)else 0)),_];rw[ZY (.inl h)]
   rfl
  .show _=[_,_,_,_,OT.fz (L2.T.int (if c<0\/10^18<=c then(c.natAbs:Int)else 0)),_];rw[ZY (.inr h')]
   rfl
  .show _=[_,_,_,_,OT.fz (L2.T.int (if c<0\/10^18<=c then(c.natAbs:Int)else 0)),_];rw[ZZ (λz=>z.elim h h')]
   rfl
def X3:ST:=λts q=>∃a b:Int,ts=[.int a,.int b]/\q (.fz (.int (Int.gcd a b)))
def ajn(T:Tx D):gT 1 SQ wR X3:=ya T.anY λF=>by
 refine F.okT adI (λ_ _=>bF (Gh (bR aas T.abf boot_sorted (bx (dh (bx (bR Lf T.VJ boot_abs (bx wr bC)) (bx (bR Lf T.VJ boot_abs (bx wn bC)) bC))) bC)) (ahz (n:=2) rfl (bQ (bW (n:=99) 2) (bQ (bW (n:=99) 3) dB))))
  (bF (JL (bY JR we bA)
  (bH (ah8 2 3 rfl adI.nd wb (bx (bL cA wa we) (bx we bC)))))
  (bH (bO wa)))) ?_
 rintro _ R ⟨a,b,rfl,q⟩;refine⟨[(a.natAbs:Int),(b.natAbs:Int)],rfl,by simp,λms pm so=>?_⟩;obtain⟨l,h,rfl,hg⟩ : ∃l h:Nat,ms=[(l:Int),(h:Int)]/\Nat.gcd l h=Int.gcd a b:=by
  have ln:=pm.length_eq
  match ms,ln with
  |[x,y],_ =>
   have hx:x=(a.natAbs:Int)\/x=(b.natAbs:Int):=by simpa using pm.subset (aO ..)
   rcases hx with rfl|rfl
   .have:=(List.perm_cons _).mp pm;have:=List.perm_singleton.mp this;cases this;exact⟨_,_,rfl,rfl⟩
   .have:=(List.perm_cons _).mp (pm.trans (List.Perm.swap _ _ _));have:=List.perm_singleton.mp this;cases this;exact⟨_,_,rfl,Nat.gcd_comm _ _⟩
 refine⟨rfl,λm o=>∃(l h:Nat),o=[.fz (.int a),.fz (.int b),.fz (.int l),.fz (.int h)]/\Nat.gcd l h=Int.gcd a b/\m=l,⟨_,_,_,rfl,hg,rfl⟩,?_⟩;rintro m _ ⟨l,h,rfl,hg,rfl⟩;refine swD (λhl=>?_) λhl=>?_
 .refine⟨λo=>o=[.fz (.int a),.fz (.int b),.fz (.int ((h%m:Nat):Int)),.fz (.int m)],?_,?_⟩
  .rintro _ rfl;exact⟨h%m,Nat.mod_lt _ wf,h%m,m,rfl,(Nat.gcd_rec m h).symm.trans hg,rfl⟩
  .exact⟨hl,by rw[Int.natCast_emod];rfl⟩
 .have:m=0:=by lia
  subst this;rw[Nat.gcd_zero_left]at hg;rw[<- hg]at q;exact q
def z9:ST:=λts q=>∃a b:Int,ts=[.int a,.int b]/\0<b/\Bd b/\q (.fz (frR (Rat.divInt a b)))
def Z_(T:Tx D):gT 2 t_ nu z9:=ya T.ad6 λF=>by
 refine F.okT aaE (λ_ _=>bF (bN 2 (bI (ajn T) (bx wr (bx wn bC))))
  (bH (bO (cN (bx (bL nJ wr we) (bx (bL nJ wn we) bC)))))) ?_
 rintro _ R ⟨a,b,rfl,hb,hd,q⟩;have nb:b≠0:=by exact WS hb
 have g0:=n6 (a:=a) nb;have g1:=X_ (a:=a) nb hd;refine⟨_,_,rfl,⟨by exact WS g0,g1⟩,⟨by exact WS g0,g1⟩,?_⟩;have l:=wH (t:=a) nb (c:=(Int.gcd a b:Nat)) (WS g0) wf (XZ g0 hb);rw[<- jG l nb]at q;exact q
def Dr:ST:=λts q=>∃r:Rat,ts=[frR r]/\q (.fz (.bl true))
def TX(T:Tx D):gT 2 uQ lO Dr:=ya T.VG λF=>by
 refine F.okT Rm (λhr _=>bF (cC (QW.qt (jD (eE (dI (pU .tuple wr T.d_ T.Q8 boot_tuple))) (ig (bY (mY hr.units) (bR cJ T.dJ WG (bx wr bC)) bA))))
  (bH (bO j5))
  bT)
  (bF (eF (aiS wr) (bW (n:=99) 1)
  (bH (cC (QW.qt (jD (eE (dI (pU .int wn T.d_ T.acC boot_int))) (ig (dI (pU .bool wn T.d_ T.W8 boot_bool)))))
  (bH (bO j5))
  bT)))
  (bH (bO (Ca (qK JR (bJ wr bA) bA) (Gr (qK (go_eq hr.units) (bI (ajn T) (bx (bJ wr bA) (bx (bJ wr bA) bC))) bA))))))) ?_
 rintro _ R ⟨r,rfl,q⟩;have:=r.den_pos;refine⟨λo=>∃x,o=[.fz (frR r),x],?_,⟨_,rfl⟩⟩;rintro _ ⟨x,rfl⟩;refine⟨λo=>∃x,o=[.fz (frR r),x],?_,⟨_,rfl⟩⟩;rintro _ ⟨x,rfl⟩;refine swT (Zs wf) ⟨_,_,rfl,?_⟩;rw[show Int.gcd r.num r.den=1 from r.reduced];exact q
def sG:ST:=λts q=>∃(rs:xj)(m:Nat),ts=[.lst (rs.map frR),.int (m:Nat)]/\rs.length=m/\m<=1000/\q (.fz (.bl true))
def Mw(T:Tx D):gT 3 nQ iW sG:=ya T.Qi λF=>by
 refine F.okT Nt (λhr _=>bF (cC (QW.qt (jD (eE (dI (pU .list wr T.d_ T.vP boot_list))) (ig (bY (mY hr.units) (bR cJ T.dJ WG (bx wr bC)) wn))))
  (bH (bO j5))
  bT)
  (bH (bO (bR (abX rfl) T.ag2 boot_all (bx (eU (bG pB) vV vV ["_law_one"] (cI wr) (gk (i:=0)) cD (bI (TX T) (bx wr bC))) bC))))) ?_
 rintro _ R ⟨rs,m,rfl,hl,hm,q⟩;refine swF (by rw[ak,hl,Zs rfl];rfl) ⟨by rw[ak,hl];exact aL hm wb,comp_map frR (λ_=>.bl true) rs (λr _ N M hN=>⟨r,rfl,hN⟩) ⟨rs.map λ_=>true,by rw[WJ];rfl,?_⟩⟩;have e:((rs.map λ_=>true).all λb=>b)=true:=by simp
 rw[<- e]at q;exact q
def aaS(c:Nat):Bool:=decide (97<=c)&&decide (c<=122)
def ltL:xL:=(Str.ofString "abcdefghijklmnopqrstuvwxyz").cps.toList
def aiy:∀i:Fin 26,nth ltL i.val=some (97+i.val):=by decide +kernel
def adR{i:Int}(h0:0<=i)(h1:i<26):ixT ltL i=some (97+i.toNat):=by
 obtain⟨k,rfl⟩:=Zyx h0;exact aiy ⟨k,by lia⟩
def XH(h:n<26):aaS (97+n)=true:=by
 unfold aaS;rw[Zs (show 97<=97+n by exact X2 _ _),Zs (show 97+n<=122 by lia)];rfl
def pC(x:Str):x.cps.toList.length=x.length:=Array.length_toList
def Zq(x y:Str):(x++y).cps.toList=x.cps.toList++y.cps.toList:=by
 show(x.cps++y.cps).toList=_;rw[Array.toList_append]
def afR(x y:Str):(x++y).length=x.length+y.length:=by
 show(x.cps++y.cps).size=_;rw[Array.size_append];rfl
def acT : (Hw x none (some (n:Int))).cps.toList=x.cps.toList.take n:=by
 unfold Hw;have hl:x.cps.toList.length=x.length:=Array.length_toList;show((x.cps.toList.drop 0).take (HT.sIx x.length x.length (some (n:Int))-0))=_;rw[HT.zV,List.drop_zero,Nat.sub_zero,<- hl];rw[List.take_eq_take_iff];lia
def Vt : (Hw x (some (n:Int)) none).cps.toList=x.cps.toList.drop n:=by
 unfold Hw;have hl:x.cps.toList.length=x.length:=Array.length_toList;show((x.cps.toList.drop (HT.sIx x.length 0 (some (n:Int)))).take (x.length-HT.sIx x.length 0 (some (n:Int))))=_;rw[HT.zV,<- hl];by_cases h:n<=x.cps.toList.length
 .rw[Nat.min_eq_left h];exact Zzt (by rw[U1];exact aG _)
 .rw[JS (by lia:x.cps.toList.length<=n),JS wf,List.take_nil]
def YF{ys:List α}{a b:Nat}(ab:a<=b)(h:b<=ys.length):gU ys (some (a:Int)) (some (b:Int))=(ys.drop a).take (b-a):=by
 unfold gU;rw[HT.zV,HT.zV,Nat.min_eq_left h,Nat.min_eq_left (aL ab h)]
def agX(h:x.cps.toList.all aaS=true)(lo:1<=x.length)(hi:x.length<=8):Wd x:=by
 unfold Wd Y_;rwa[pC,Zs lo,Zs hi]
structure Nms(ns:Φ)(n:Nat):Prop where
 len:ns.length=n
 nd:ns.Nodup
 wd:∀x∈ns,Wd x
def YQ{R:Nat->Str->Prop}(h:∀(i:Nat)x,ns[i]?=some x->R i x)(l:ns.length=n)(u:∀i j x,i<j->j<n->R i x->R j x->False):ns.Nodup:=by
 unfold List.Nodup;rw[List.pairwise_iff_getElem];intro i j hi hj ij e;exact u i j ns[i] ij (l ▸ hj) (h i _ (aj hi)) (by rw[e];exact h j _ (aj hj))
def O8{g:HG}{c:RT}{e:RE}{q:zD->Prop}(R:Nat->Str->Prop)(n:Nat)(st:∀k,k<n->∀(N:T->Prop)(M:Prop),(∀x,R k x->N (.str x))->g (.int (k:Nat)) o λo'=>c o' λb=>sw b (e o' λy=>N (frz y)) M)(k:∀ns:Φ,ns.length=n->(∀(i:Nat)x,ns[i]?=some x->R i x)->q (ns.map T.str)):jW g c e o (rng 0 n) q:=by
 have go:∀(m j:Nat),j+m=n->∀(us:Φ),us.length=j->(∀(i:Nat)x,us[i]?=some x->R i x)->∀{q:zD->Prop},(∀ns:Φ,ns.length=n->(∀(i:Nat)x,ns[i]?=some x->R i x)->(∃vs,ns=us++vs/\q (vs.map T.str))\/¬∃vs,ns=us++vs)->jW g c e o ((List.range' j m).map λk:Nat=>.int ((0:Int)+k)) q:=by
  intro m
  induction m with
  |zero =>
   intro j ej us lu hu q hq;rcases hq us wf hu with⟨vs,e,z⟩|z
   .have:vs=[]:=by simpa using e
    rw[this]at z;exact z
   .exact absurd ⟨[],(List.append_nil us).symm⟩ z
  |succ m ih =>
   intro j ej us lu hu q hq;rw[List.range'_succ,List.map_cons];refine aa7 ?_;rw[Int.zero_add];refine st j wf (λt=>jW g c e o ((List.range' (j+1) m).map λk:Nat=>.int ((0:Int)+k)) λus=>q (t::us)) (jW g c e o ((List.range' (j+1) m).map λk:Nat=>.int ((0:Int)+k)) q) λx hx=>?_;refine ih (j+1) wf (us++[x]) (by simp[lu]) (λi y ey=>?_) λns ln hn=>?_
   .by_cases hi:i<us.length
    .rw[aF hi]at ey;exact hu i y ey
    .have hl:=(ao.mp ey).1;rw[aA,List.length_singleton]at hl;have:i=us.length:=by lia
     subst this;rw[aD (aG _),Nat.sub_self]at ey;cases ey;exact lu ▸ hx
   .by_cases z:∃vs,ns=us++[x]++vs
    .obtain⟨vs,e⟩:=z;refine .inl ⟨vs,e,?_⟩;rcases hq ns ln hn with⟨ws,e',q'⟩|z
     .rw[e,WZ]at e';have:=List.append_cancel_left e';rw[<- this]at q';exact q'
     .exact absurd ⟨x::vs,by rw[e,WZ];rfl⟩ z
    .exact .inr z
 have:=go n 0 (Nat.zero_add _) [] rfl (λi x z=>by cases z) (q:=q) λns ln hn=>.inl ⟨ns,rfl,k ns ln hn⟩;rw[<- List.range_eq_range']at this;exact this
def nm1(c:Nat)(i:Nat)(x:Str):Prop:=x.cps.toList=List.replicate (i+1) c
def nm2(b:xL)(at_:Nat)(x0 st:Int)(i:Nat)(x:Str):Prop:=x.cps.toList=b.take at_++(97+((x0+st*i)%26).toNat)::b.drop at_
def ae1{b:xL}{at_:Nat}{x0 st:Int}(hs:st=1\/st=3\/st=5\/st=7\/st=9\/st=11)(ij:i<j)(hj:j<26)(h1:nm2 b at_ x0 st i x)(h2:nm2 b at_ x0 st j x):False:=by
 have e:=h1.symm.trans h2;have e:=List.append_cancel_left e;injection e with e _;rcases hs with rfl|rfl|rfl|rfl|rfl|rfl<;>omega
def ai5{c:Nat}(hc:aaS c=true)(hi:i<8)(h:nm1 c i x):Wd x:=by
 have l:=pC x;rw[h,aN]at l;refine agX ?_ wf wf;rw[h,List.all_eq_true];intro d hd;rwa[(List.mem_replicate.mp hd).2]
def ahj{b:xL}{at_:Nat}{x0 st:Int}(hb:b.all aaS=true)(hl:b.length<=7)(h:nm2 b at_ x0 st i x):Wd x:=by
 have l:=pC x;rw[h,aA,List.length_cons,aY,U1]at l;refine agX ?_ wf (by omega);rw[h,List.all_eq_true];rw[List.all_eq_true]at hb;intro d hd;rcases Y1.mp hd with hd|hd
 .exact hb d (List.mem_of_mem_take hd)
 .rcases YU.mp hd with rfl|hd
  .exact XH wf
  .exact hb d (List.mem_of_mem_drop hd)
theorem Oi:∀(ys:Φ)(acc:Array Nat),(ys.foldl (λacc p=>acc++(Str.ofString "").cps++p.cps) acc).toList=acc.toList++(ys.map λy=>y.cps.toList).flatten
 |[],acc=>by simp
 |y::ys,acc=>by
  have e0:(Str.ofString "").cps = #[]:=by decide +kernel
  rw[List.foldl_cons,Oi ys,e0,Array.append_empty,Array.toList_append,List.map_cons,List.flatten_cons,WZ]
def glue(ys:Φ):(Txt.join (Str.ofString "") ys).cps.toList=(ys.map λy=>y.cps.toList).flatten:=by
 show((ys.drop 1).foldl (λacc p=>acc++(Str.ofString "").cps++p.cps) (ys.headD Str.empty).cps).toList=_;rw[Oi];cases ys with
 |nil=>rfl
 |cons y ys=>rfl
def aiE{c d:RT}{x y z:RS}(b:Bool)(h:∀q:Bool->Prop,q b->aiB c d o q)(hq:sw b (x { E with nx:=z E } o) (y { E with nx:=z E } o)):eG (ahI (aiB c d) x y) z E o:=h (λk=>sw k (x { E with nx:=z E } o) (y { E with nx:=z E } o)) hq
def Wc:ST:=λts q=>∃(c:Int)(n:Nat),ts=[.int c,.int (n:Nat)]/\n<=26/\∀ns:Φ,Nms ns n->q (.l1 (ns.map T.str))
def dU{c:Int}(h:k<n:=by decide):ixT ((j7 c n).map T.int) (k:Nat)=some (.int (strm c k)):=by
 show nth ((j7 c n).map T.int) k=_;rw[pO,aq,aq,VW h];rfl
def ac0(T:Tx D):gT 2 LK wI Wc:=ya T.afB λF=>by
 refine F.okT ad7 (λhr _=>bF (bN 2 m9)
  (bF (bN 3 (bI (abb T) (bx wr (bx bA bC))))
  (bF (cC (QW.qt (Yb (bY (go_eq hr.units) (bL cA (bJ wa bA) bA) bA) (Sd (bY O5 wn bA))))
  (bH (bO (eU (bG Aa) vg vg ["_law_k"] (dZ T.fM (bx wn bC)) (gk (i:=0)) cD (bL cG (bJ wa (bL cA (bJ wP bA) bA)) (bL cL wr bA)))))
  bT)
  (bF (bN 4 (ae0 m9 (bx (eU (bG Aa) vg vg ["_law_x"] (cI (kJ wa (iy bA) (iy (bL cL bA (bL cA (bJ wa bA) bA))))) (gk (i:=0)) cD (bJ wa (bL cA wr bA))) bC)))
  (bF (bN 5 (bL cA (bJ wa bA) bA))
  (bF (bN 6 (bJ (dh (bx bA (bx bA (bx bA (bx bA (bx bA (bx bA bC))))))) (bL cA (bJ wa bA) bA)))
  (bH (bO (eU (bG Aa) vg vg ["_law_k"] (dZ T.fM (bx wn bC)) (gk (i:=0)) cD (bL cL (bL cL (kJ wE Du (iy (qv 6))) (bJ wa (bL cA (bL cL (bJ wP bA) (bL cG (qv 7) wr)) bA))) (kJ wE (iy (qv 6)) Du))))))))))) ?_
 rintro _ R ⟨c,n,rfl,hn,q⟩;refine⟨c,11,rfl,by decide,?_⟩;have s0:=mU c 0;have s1:=mU c 1;have lL:(Str.ofString "abcdefghijklmnopqrstuvwxyz").length<=sizeLine:=aL (show _<=1000 by decide +kernel) wb;have rl:(rng 0 n).length<=sizeLine:=by rw[rng,ak,WP];exact aL hn wb
 dsimp only;refine aiE (decide (strm c 0%3=1)&&decide ((n:Int)<=8)) (λq hq=>?_) ?_
 .refine⟨_,dU (k:=0),by decide,?_⟩;refine swD (λh=>?_) λh=>?_
  .rw[Zs h,Bool.true_and]at hq;exact hq
  .rw[Zp h,Bool.false_and]at hq;exact hq
 .refine sw2 (λhb=>?_) λhb=>?_
  .simp only[QP,decide_eq_true_eq]at hb;refine⟨⟨by lia,by lia⟩,rl,O8 (nm1 (97+(strm c 1%26).toNat)) n (λk hk N M hN=>?_) λns ln eI=>q ns ⟨ln,YQ eI ln λi j x ij hj h1 h2=>?_,λx hx=>?_⟩⟩
   .refine⟨_,dU (k:=1),by decide,lL,_,adR (Z3 _ wb) (YY _ wb),_,rfl,by lia,by lia,λz hz=>hN z ?_⟩;rw[show((k:Int)+1).toNat=k+1 by lia]at hz;exact hz
   .have:=ZH List.length (h1.symm.trans h2);rw[aN,aN]at this;lia
   .obtain⟨i,hi⟩:=aV hx;have li:=(ao.mp hi).1;exact ai5 (XH wf) wf (eI i x hi)
  .obtain⟨m,em,hm⟩ : ∃m:Nat,strm c 1%8=m/\m<=7:=⟨(strm c 1%8).toNat,by lia,by lia⟩;have ec:gU ((j7 c 11).map L2.T.int) (some 2) (some (2+strm c 1%8))=(((j7 c 11).drop 2).take m).map L2.T.int:=by
    rw[em,Dw];have:=YF (ys:=j7 c 11) (a:=2) (b:=2+m) (X2 _ _) (by rw[ak,WP];lia);rw[show 2+m-2=m by exact JU _ _]at this;exact ZH (List.map L2.T.int) this
   have ml:(((j7 c 11).drop 2).take m).length=m:=by rw[aY,U1,ak,WP];lia
   refine⟨_,dU (k:=1),by decide,?_⟩;dsimp only[frz];show(gU ((j7 c 11).map L2.T.int) (some 2) (some (2+strm c 1%8))).length<=sizeLine/\_;rw[ec];have c26:∀x∈((j7 c 11).drop 2).take m,0<=x:=λx hx=>by
    obtain⟨k,_,rfl⟩:=YV.mp (List.mem_of_mem_drop (List.mem_of_mem_take hx));exact(mU c k).1
   generalize((j7 c 11).drop 2).take m=us at ml c26 ⊢;have e0:(Str.ofString "").length=0:=by decide +kernel
   refine⟨by rw[ak,ml];exact aL hm wb,comp_map L2.T.int (λx=>.str ⟨#[97+(x%26).toNat]⟩) us (λx hx N M hN=>⟨by decide,lL,_,adR (Z3 _ wb) (YY _ wb),hN⟩) ⟨us.map λx=>⟨#[97+(x%26).toNat]⟩,by rw[WJ];rfl,?_,?_⟩⟩
   .rw[e0,Nat.mul_zero,Nat.add_zero,WJ,show((λx:Str=>x.length) ∘ λx:Int=>(⟨#[97+(x%26).toNat]⟩ : Str))=λ_=>1 from rfl,List.map_const',List.sum_replicate_nat];lia
   have bc:(Txt.join (Str.ofString "") (us.map λx=>(⟨#[97+(x%26).toNat]⟩ : Str))).cps.toList=us.map λx=>97+(x%26).toNat:=by
    rw[glue,WJ]
    clear ml c26 ec
    induction us with
    |nil=>rfl
    |cons x us ih=>rw[List.map_cons,List.flatten_cons,ih];rfl
   have bl:(Txt.join (Str.ofString "") (us.map λx=>(⟨#[97+(x%26).toNat]⟩ : Str))).length<=7:=by rw[<- pC,bc,ak];exact aL (WH ml) hm
   have ba:(us.map λx=>97+(x%26).toNat).all aaS=true:=by
    rw[List.all_eq_true];intro d hd;obtain⟨x,hx,rfl⟩:=YV.mp hd;exact XH wf
   rw[<- bc]at ba;generalize Txt.join (Str.ofString "") (us.map λx=>(⟨#[97+(x%26).toNat]⟩ : Str))=st at bl ba ⊢
   clear bc
   have s9:=mU c 9;have iN:=mU c 10;obtain⟨ap,eap,o0⟩ : ∃ap:Nat,strm c 9%8=ap/\ap<=7:=⟨(strm c 9%8).toNat,by lia,by lia⟩;obtain⟨sv,es,hs⟩ : ∃sv:Int,ixT [L2.T.int 1,L2.T.int 3,L2.T.int 5,L2.T.int 7,L2.T.int 9,L2.T.int 11] (strm c 10%6)=some (.int sv)/\(sv=1\/sv=3\/sv=5\/sv=7\/sv=9\/sv=11):=by
    obtain e|e|e|e|e|e:strm c 10%6=0\/strm c 10%6=1\/strm c 10%6=2\/strm c 10%6=3\/strm c 10%6=4\/strm c 10%6=5:=by lia
    .exact⟨1,by rw[e];rfl,by decide⟩
    .exact⟨3,by rw[e];rfl,by decide⟩
    .exact⟨5,by rw[e];rfl,by decide⟩
    .exact⟨7,by rw[e];rfl,by decide⟩
    .exact⟨9,by rw[e];rfl,by decide⟩
    .exact⟨11,by rw[e];rfl,by decide⟩
   have z7:(16:Nat)<=sizeLine:=by decide
   refine⟨_,dU (k:=9),by decide,?_⟩;dsimp only[frz];rw[eap];refine⟨_,dU (k:=10),by decide,_,es,⟨by lia,by lia⟩,rl,O8 (nm2 st.cps.toList ap (strm c 0) sv) n (λk hk N M hN=>?_) λns ln eI=>q ns ⟨ln,YQ eI ln λi j x ij hj h1 h2=>ae1 hs ij (aR hj hn) h1 h2,λx hx=>?_⟩⟩
   .have t1:(Hw st none (some (ap:Int))).length<=7:=by rw[<- pC,acT,aY,pC];lia
    have t2:(Hw st (some (ap:Int)) none).length<=7:=by rw[<- pC,Vt,U1,pC];exact aL (Nat.sub_le _ _) bl
    have t3:∀d:Nat,({ cps:=#[d] } : Str).length=1:=λ_=>rfl;refine⟨by exact aL bl wb,_,dU (k:=0),⟨iT wf,iT wf⟩,by decide,lL,_,adR (Z3 _ wb) (YY _ wb),by rw[t3];lia,by exact aL bl wb,by rw[afR,t3];lia,hN _ ?_⟩;unfold nm2;rw[Zq,Zq,acT,Vt,WZ];rfl
   .obtain⟨i,hi⟩:=aV hx;exact ahj ba (by rwa[pC]) (eI i x hi)
def ab0(l:List α)(h:α->T){i:Int}(h0:0<=i)(h1:i<l.length):∃a∈l,ixT (l.map h) i=some (h a):=by
 obtain⟨k,rfl⟩:=Zyx h0;have hk:k<l.length:=by lia
 refine⟨l[k],aU hk,?_⟩;show nth (l.map h) k=_;rw[pO,aq,aj hk];rfl
def div_pos{b:Int}(hb:0<b):(Rat.divInt a b).den<=b.toNat/\(Rat.divInt a b).num.natAbs<=a.natAbs:=by
 have l:=wH (t:=a) (b:=b) (c:=(Int.gcd a b:Nat)) (WS hb) (by have:=n6 (a:=a) (b:=b) (WS hb);exact WS this) wf (XZ (n6 (WS hb)) hb);have e:=jG l (WS hb);injection e with e;injection e with e1 e2;injection e2 with e2 _;injection e1 with e1;injection e2 with e2;have h1:=l.lx;have h2:=l.ly;have h3:=l.pos;have e1:a.fdiv ((Int.gcd a b:Nat):Int)=(Rat.divInt a b).num:=e1;have e2:b.fdiv ((Int.gcd a b:Nat):Int)=((Rat.divInt a b).den:Nat):=e2;rw[e1]at h1;rw[e2]at h2 h3;omega
def Xm{b:Int}(ha:0<=a)(h:a<b):0<=Rat.divInt a b/\Rat.divInt a b<1:=by
 have hb:0<b:=by exact Int.lt_of_le_of_lt ha h
 refine⟨Zzu ha (XY hb),?_⟩;have e:Rat.divInt a b=(a:Rat)/(b:Rat):=Tu a b;rw[e];have ck:(0:Rat)<(b:Rat):=by exact_mod_cast hb
 rw[Rat.div_lt_iff ck,Rat.one_mul]
 exact_mod_cast h
structure Shr(s:Rat):Prop where
 lo:0<=s
 hi:s<1
 den:s.den<=100
def Ug:ST:=λts q=>∃c:Int,ts=[.int c]/\∀s:Rat,Shr s->q (.fz (frR s))
def abS(T:Tx D):gT 3 Jj zq Ug:=ya T.ae5 λF=>by
 refine F.okT adB (λ_ _=>bF (bN 1 (bI (abb T) (bx wr (bx bA bC))))
  (bF (bN 2 (bL cL bA (bL cA (bJ wn bA) (bJ (dh (bx bA (bx bA (bx bA (bx bA bC))))) (bL cA (bJ wn bA) bA)))))
  (bH (bO (bI (Z_ T) (bx (bL cA (bJ wn bA) we) (bx we bC))))))) ?_
 rintro _ R ⟨c,rfl,q⟩;have s0:=mU c 0;have s1:=mU c 1;have s2:=mU c 2;refine⟨c,3,rfl,by decide,_,dU (k:=0),_,dU (k:=1),by decide,?_⟩;obtain⟨d,hd,ed⟩:=ab0 [4,6,10,100] L2.T.int (i:=strm c 1%4) (Z3 _ wb) (by show strm c 1%4<4;exact YY _ wb);have d0:0<d/\d<=100:=by simp at hd;lia
 refine⟨_,ed,d0.1,?_⟩;have b0:0<1+strm c 0%d/\1+strm c 0%d<=100:=by
  have:=Z3 (strm c 0) (show d≠0 by lia);have:=YY (strm c 0) d0.1;lia
 refine⟨_,dU (k:=2),b0.1,_,_,rfl,b0.1,iT (by omega),q _ ?_⟩;generalize 1+strm c 0%d=b at b0 ⊢;have a0:=Z3 (strm c 2) (show b≠0 by lia);have a1:=YY (strm c 2) b0.1;obtain⟨x,y⟩:=Xm a0 a1;exact⟨x,y,by have:=(div_pos (a:=strm c 2%b) b0.1).1;lia⟩
structure Pay(p:Rat):Prop where
 num:p.num.natAbs<=10^30
 den:p.den<=1000
def ac8:ST:=λts q=>∃c x y:Int,ts=[.int c,.int x,.int y]/\(0<=x/\x<2000000000)/\(0<=y/\y<2000000000)/\∀p:Rat,Pay p->q (.fz (frR p))
def aja(T:Tx D):gT 3 Xe Mh ac8:=ya T.alL λF=>by
 refine F.okT ai1 (λhr _=>bF (cC (bY v7 (bL cA wn bA) bA)
  (bH (bO (cN (bx (bL Bp (bL cA we bA) bA) (bx bA bC)))))
  bT)
  (bF (cC (bY v7 (bL cA wn bA) bA)
  (bH (bO (bI (Z_ T) (bx (bL Bp (bL cA we bA) bA) (bx (bL cL bA (bL cA (bL nJ wn bA) bA)) bC)))))
  bT)
  (bF (cC (bY (go_eq hr.units) (bL cA wn bA) bA)
  (bH (bO (cN (bx (bL Bp (bL cA wr bA) bA) (bx bA bC)))))
  bT)
  (bH (bO (bI (Z_ T) (bx (bL Bp (bL cA (bL cL (bL Y0 wr bA) we) (bL cL (bL cG bA (bL Q_ bA bA)) bA)) (bL Q_ bA bA)) (bx (bL cL bA (bL cA (bL nJ wn bA) bA)) bC)))))))) ?_
 rintro _ R ⟨c,x,y,rfl,hx,hy,q⟩;have b30:Bd (10^30):=Y3 (aG _) (by decide +kernel);have lo:∀a b:Int,0<b->a.natAbs<=10^30->b<=1000->R (.fz (frR (Rat.divInt a b))):=λa b h0 h1 h2=>by
  obtain⟨x,y⟩:=div_pos (a:=a) h0;exact q _ ⟨aL y h1,by lia⟩
 have one:∀a:Int,a.natAbs<=10^30->R (.fz (.tup [.int a,.int 1])):=λa h=>q (a:Rat) ⟨h,show(1:Nat)<=1000 by decide⟩;have d8:x.fdiv 8=x/8:=Zzs _ wb;refine⟨by decide,swD (λh=>⟨by decide,one _ wf⟩) λh=>⟨by decide,swD (λh=>⟨by decide,⟨by decide,iT wb⟩,by decide,?_⟩) λh=>⟨by decide,swD (λh=>⟨by decide,one _ wf⟩) λh=>?_⟩⟩⟩
 .exact⟨_,_,rfl,by lia,iT wf,lo _ _ wf wf wf⟩
 .refine⟨.inr (by constructor<;>decide),⟨by decide,by decide,by decide⟩,⟨iT wb,b30⟩,by decide,⟨by decide,by decide,by decide⟩,⟨by decide,iT wb⟩,by decide,?_⟩;exact⟨_,_,rfl,by lia,iT wf,lo _ _ wf (by
   have e:(10:Int)^Int.toNat 30=10^30:=rfl;rw[e];lia) wf⟩
def st_size:ST:=λts q=>∃c:Int,ts=[.int c]/\∀n:Nat,n<=6->q (.fz (.int (n:Nat)))
def afa(T:Tx D):gT 2 Qy Cr st_size:=ya T.aiR λF=>by
 refine F.okT agG (λhr _=>bF (bN 1 (bI (abb T) (bx wr (bx bA bC))))
  (bF (cC (bY (go_eq hr.units) (bL cA (bJ wn bA) bA) bA)
  (bH (bO bA))
  bT)
  (bF (cC (bY (go_eq hr.units) (bL cA (bJ wn bA) bA) bA)
  (bH (bO (bL cL bA (bL cA (bJ wn bA) bA))))
  bT)
  (bH (bO (bL cL bA (bL cA (bJ wn bA) bA))))))) ?_
 rintro _ R ⟨c,rfl,q⟩;have s1:=mU c 1;have s1':0<=strm c 1:=s1.1;refine⟨c,2,rfl,by decide,_,dU (k:=0),by decide,swD (λh=>q 0 wb) λh=>⟨_,dU (k:=0),by decide,swD (λh=>⟨_,dU (k:=1),by decide,?_⟩) λh=>⟨_,dU (k:=1),by decide,?_⟩⟩⟩
 .have:=q (5+strm c 1%2).toNat wf;rw[show(((5+strm c 1%2).toNat:Nat):Int)=5+strm c 1%2 by lia]at this;exact this
 .have:=q (1+strm c 1%4).toNat wf;rw[show(((1+strm c 1%4).toNat:Nat):Int)=1+strm c 1%4 by lia]at this;exact this
structure LD where
 sort:Nat
 pay:Rat
 prs:zC
abbrev zS:=List (List LD)
abbrev ldT(d:LD):T:=.tup [.int (d.sort:Nat),frR d.pay,.lst (d.prs.map nwT)]
structure LDk(m:Nat)(d:LD):Prop where
 sort:d.sort<4
 pay:Pay d.pay
 few:d.prs.length<=4
 lt:∀p∈d.prs,p.1<m
 nn:∀p∈d.prs,0<=p.2
 one:Cq (d.prs.map (·.2))=1
 dn:∃q:Nat,0<q/\q<=4000/\∀p∈d.prs,p.2.den ∣ q
 s0:d.sort=0->∃a,d.prs=[(a,1)]
 s1:d.sort=1->∃a b x,d.prs=[(a,x),(b,1-x)]
 s2:d.sort=2->∃rs:xL,d.prs=rs.map λr=>(r,mkRat 1 rs.length)
def afY(l:List α) : gU l none (some (n:Int))=l.take n:=by
 unfold gU;show(l.drop 0).take (HT.sIx l.length l.length (some (n:Int))-0)=_;rw[HT.zV,List.drop_zero,Nat.sub_zero];rw[List.take_eq_take_iff];lia
def Qd{b:Int}(hb:0<b):(Rat.divInt a b).den ∣ b.toNat:=by
 have l:=wH (t:=a) (b:=b) (c:=(Int.gcd a b:Nat)) (WS hb) (by have:=n6 (a:=a) (b:=b) (WS hb);exact WS this) wf (XZ (n6 (WS hb)) hb);have e:=jG l (WS hb);injection e with e;injection e with _ e2;injection e2 with e2 _;injection e2 with e2;have e2:b.fdiv ((Int.gcd a b:Nat):Int)=((Rat.divInt a b).den:Nat):=e2;have d:((Int.gcd a b:Nat):Int) ∣ b:=Q1 a b;rw[Int.fdiv_eq_ediv_of_dvd d]at e2;obtain⟨x,hx⟩:=d;have g0:=n6 (a:=a) (b:=b) (WS hb);rw[Int.ediv_eq_of_eq_mul_right (WS g0) hx]at e2;exact Int.natCast_dvd_natCast.mp ⟨(Int.gcd a b:Nat),by rwa[<- e2,Int.toNat_of_nonneg (XY hb),JP]⟩
theorem YT{S:Int}(hS:S≠0):∀ws:xy,Cq (ws.map λw=>Rat.divInt w S)=Rat.divInt ws.sum S
 |[]=>by show(0:Rat)=Rat.divInt 0 S;rw[QY]
 |w::ws=>by
  show Rat.divInt w S+Cq (ws.map λw=>Rat.divInt w S)=Rat.divInt (w+ws.sum) S;rw[YT hS ws,TH _ _ hS hS];refine(Q2 (m_ hS hS) hS).mpr ?_
  grind
theorem VN{n:Nat}(h:0<n):∀k:Nat,Cq (List.replicate k (mkRat 1 n))=mkRat k n
 |0=>by show(0:Rat)=mkRat 0 n;rw[Rat.zero_mkRat]
 |k+1=>by
  rw[List.replicate_succ];show mkRat 1 n+Cq (List.replicate k (mkRat 1 n))=_;rw[VN h k,Rat.mkRat_add_mkRat _ _ (UY h) (UY h),Rat.mkRat_eq_iff (Nat.mul_ne_zero (UY h) (UY h)) (UY h)]
  push_cast
  grind
def afN(h:0<n):mkRat n n=1:=by
 rw[show(1:Rat)=mkRat 1 1 from rfl,Rat.mkRat_eq_iff (UY h) (Nat.succ_ne_zero _)];lia
def one_sub{b:Int}(hb:b≠0):1-Rat.divInt a b=Rat.divInt (b-a) b:=by
 rw[show(1:Rat)=Rat.divInt 1 1 from rfl,Rat.divInt_sub_divInt _ _ wb hb,JJ,Int.mul_one]
def V6(x:Rat):1-x=⟨(x.den:Int)-x.num,x.den,x.den_nz,by
  have:=x.reduced;show Nat.Coprime ((x.den:Int)-x.num).natAbs x.den;have h:Int.gcd ((x.den:Int)-x.num) (x.den:Int)=1:=by
   rw[Int.gcd_self_sub_left];exact this
  exact h⟩:=by
 rw[Rat.mk_eq_divInt,<- one_sub (lD x),rd]
def aeg(x:Rat):frR (1-x)=.tup [.int ((x.den:Int)-x.num),.int x.den]:=by rw[V6]
def abd(x:Rat):(1-x).den=x.den:=by rw[V6]
def LDk.sure{a:Nat}{p:Rat}(ha:a<m)(hp:Pay p):LDk m ⟨0,p,[(a,1)]⟩ :=
 ⟨Nat.zero_lt_succ _,hp,TU rfl,by simp[ha],by simp;decide,by simp[Cq];exact Rat.add_zero 1,⟨1,by decide,by decide,by simp⟩,λ_=>⟨_,rfl⟩,(λz=>by cases z),(λz=>by cases z)⟩
def LDk.toss{a b q:Nat}{p x:Rat}(ha:a<m)(hb:b<m)(hp:Pay p)(x0:0<=x)(x1:0<=1-x)(q0:0<q)(q1:q<=4000)(hd:x.den ∣ q):LDk m ⟨1,p,[(a,x),(b,1-x)]⟩ :=
 ⟨TU rfl,hp,TU rfl,by simp[ha,hb],by simp[x0,x1],by simp[Cq];grind,⟨q,q0,q1,by simp[hd,abd]⟩,(λz=>by cases z),λ_=>⟨_,_,_,rfl⟩,(λz=>by cases z)⟩
def ah2(h:0<n):(mkRat 1 n).den=n:=by
 have e:=XR h;injection e with e;injection e with _ e;injection e with e _;injection e with e;lia
def LDk.even{p:Rat}{rs:xL}(h0:0<rs.length)(h4:rs.length<=4)(hr:∀r∈rs,r<m)(hp:Pay p):LDk m ⟨2,p,rs.map λr=>(r,mkRat 1 rs.length)⟩:=by
 have nn:(0:Rat)<=mkRat 1 rs.length:=by rw[<- Rat.divInt_ofNat];exact Zzu wb (Wp _)
 refine⟨TU rfl,hp,by rw[ak];exact h4,λx hx=>?_,λx hx=>?_,?_,⟨rs.length,h0,by exact aL h4 wb,λx hx=>?_⟩,(λz=>by cases z),(λz=>by cases z),λ_=>⟨rs,rfl⟩⟩
 .obtain⟨r,h,rfl⟩:=YV.mp hx;exact hr r h
 .obtain⟨r,h,rfl⟩:=YV.mp hx;exact nn
 .rw[WJ,show((λx:Nat×Rat=>x.2) ∘ λr=>(r,mkRat 1 rs.length))=λ_=>mkRat 1 rs.length from rfl,List.map_const',VN h0,afN h0]
 .obtain⟨r,h,rfl⟩:=YV.mp hx;rw[ah2 h0];exact Nat.dvd_refl _
def LDk.mix{p:Rat}{rs:xL}{ws:xy}(hl:ws.length<=4)(hr:∀r∈rs,r<m)(hw:∀w∈ws,0<=w)(le:ws.length<=rs.length)(s0:0<ws.sum)(s1:ws.sum<=4000)(hp:Pay p):LDk m ⟨3,p,(rs.zip ws).map λx=>(x.1,Rat.divInt x.2 ws.sum)⟩:=by
 have m2:(rs.zip ws).map (λx=>x.2)=ws:=List.map_snd_zip le;refine⟨TU rfl,hp,by rw[ak,VU];lia,λx hx=>?_,λx hx=>?_,?_,⟨ws.sum.toNat,by lia,by lia,λx hx=>?_⟩,(λz=>by cases z),(λz=>by cases z),(λz=>by cases z)⟩
 .obtain⟨r,h,rfl⟩:=YV.mp hx;exact hr _ (UR h).1
 .obtain⟨r,h,rfl⟩:=YV.mp hx;exact Zzu (hw _ (UR h).2) (XY s0)
 .rw[WJ,show((λx:Nat×Rat=>x.2) ∘ λx:Nat×Int=>(x.1,Rat.divInt x.2 ws.sum))=(λw=>Rat.divInt w ws.sum) ∘ λx:Nat×Int=>x.2 from rfl,<- WJ,m2,YT (WS s0)];have e:=one_sub (a:=ws.sum) (b:=ws.sum) (WS s0);rw[Int.sub_self,QY]at e
  grind
 .obtain⟨r,h,rfl⟩:=YV.mp hx;exact Qd s0
theorem adK:∀{ws:xy},(∀w∈ws,0<=w)->0<=ws.sum
 |[],_=>by decide
 |w::ws,h=>by
  have:=h w (aO ..);have:=adK (ws:=ws) λx hx=>h x (aJ _ hx);rw[List.sum_cons];lia
theorem adS{b:Int} : ∀{ws:xy},(∀w∈ws,w<=b)->ws.sum<=b*ws.length
 |[],_=>by simp
 |w::ws,h=>by
  have:=h w (aO ..);have:=adS (ws:=ws) λx hx=>h x (aJ _ hx);rw[List.sum_cons,List.length_cons];have:b*((ws.length+1:Nat):Int)=b*ws.length+b:=by grind
  lia
def YJ:ST:=λts q=>∃(c:Int)(m:Nat),ts=[.int c,.int (m:Nat)]/\0<m/\m<=1000/\∀(r:Nat)(d:LD),r<m->LDk m d->q (.fz (.tup [.int (r:Nat),ldT d]))
def afy(T:Tx D):gT 4 Ry Cu YJ:=ya T.aju λ{f fd}F=>by
 refine F.okT S6 (λhr _=>bF (bN 2 (bI (abb T) (bx wr (bx bA bC))))
  (bF (bN 3 (eU (bG Ce) uO uO ["_law_x"] (cI (kJ we (iy bA) (iy bA))) (gk (i:=0)) cD (bL cA wr we)))
  (bF (bN 4 (bL cA (bJ we bA) bA))
  (bF (bN 5 (QEB.out (Zg (gP (DN (gP (Gf (bJ wa bA)) (gP (DN (gP Zh (gP Zh vA))) vA))) vA))))
  (bF (cC (bY (go_eq hr.units) wP bA)
  (bF (bN 6 (bL cL bA (bL cA (bJ we bA) bA)))
  (bF (bN 7 (bI (Z_ T) (bx (bL cA (bJ we bA) (bL cL (qv 6) bA)) (bx (qv 6) bC))))
  (bH (bN 5 (QEB.out (Zg (gP (DN (gP (Gf (bJ wa bA)) (gP (an8 7) vA))) (gP (DN (gP (Gf (bJ wa bA)) (gP (DN (gP (ajz Bp (Gf (bJ (qv 7) bA)) (Gf (bJ (qv 7) bA))) (gP (Gf (bJ (qv 7) bA)) vA))) vA))) vA))))))))
  bT)
  (bF (cC (bY (go_eq hr.units) wP bA)
  (bF (bN 3 (kJ wa Du (iy (bL cL bA (bL cA (bJ we bA) bA)))))
  (bH (rN (bG Ce) uO uO ["_law_room"] (cI wa) (gk (i:=0)) cD (cN (bx wr (bx (cN (bx bA (bx (bR cJ T.dJ WG (bx wP bC)) bC))) bC))) (jQ (i:=5) S6.nd rfl (Or.inl rfl)))))
  bT)
  (bF (cC (bY (go_eq hr.units) wP bA)
  (bF (gQ 8 (eU (bG Ce) uO uO ["_law_x"] (cI (kJ we (iy bA) (iy (bL cL bA (bL cA (bJ we bA) bA))))) (gk (i:=0)) cD (bL cA wr (bJ (dh (bx bA (bx bA (bx bA (bx bA bC))))) (bL cA (bJ wa bA) bA)))))
  (bF (yu 8 (bL cL (uL 8 (vm bA)) bA) (vm bA))
  (bH (Gy 8 (rN (bG Ce) uO uO ["_law_k"] (dZ T.fM (bx (bR cJ T.dJ WG (bx (qv 8) bC)) bC)) (gk (i:=0)) cD (cN (bx (bJ wP wr) (bx (bI (Z_ T) (bx (bJ (qv 9) wr) (bx (bR (X6 rfl) T.ab1 boot_sum (bx (qv 9) bC)) bC))) bC))) (jQ (i:=5) S6.nd rfl (Or.inl rfl)))))))
  bT)
  (bH (bO (cN (bx (bL cA (bJ we bA) wn) (bx (cN (bx wP (bx (bI (aja T) (bx wr (bx (bJ we bA) (bx (bJ we bA) bC)))) (bx wE bC)))) bC)))))))))))) ?_
 rintro _ R ⟨c,m,rfl,m0,m1,q⟩;have mz:(0:Int)<(m:Nat):=by lia
 have sl:∀k,0<=strm c k/\strm c k<2000000000:=mU c;obtain⟨rm,iO,rme⟩ : ∃rm:Nat->Nat,(∀k,rm k<m)/\∀k,strm c k%(m:Nat)=(rm k:Nat):=⟨λk=>(strm c k%(m:Nat)).toNat,λk=>by
  have:=YY (strm c k) mz;have:=Z3 (strm c k) (show((m:Nat):Int)≠0 by exact WS mz);show(strm c k%(m:Nat)).toNat<m;lia,λk=>by
  have:=Z3 (strm c k) (show((m:Nat):Int)≠0 by exact WS mz);show _=((strm c k%(m:Nat)).toNat:Int);lia⟩
 obtain⟨so,eso,hso⟩ : ∃so:Nat,strm c 6%4=(so:Nat)/\so<4:=⟨(strm c 6%4).toNat,by have:=sl 6;lia,by have:=sl 6;lia⟩;refine sq7 (λo=>∃(x3 x6 x7 x8:OT)(prs:zC),o=[.fz (.int c),.fz (.int (m:Nat)),.fz (.lst ((j7 c 14).map L2.T.int)),x3,.fz (.int (so:Nat)),.fz (.lst (prs.map nwT)),x6,x7,x8]/\∀p,Pay p->LDk m ⟨so,p,prs⟩) ?_ λY go=>?_
 .rintro _ ⟨x3,x6,x7,x8,prs,rfl,hk⟩;refine⟨_,dU (k:=13),mz,_,dU (k:=0),_,dU (k:=1),c,_,_,rfl,sl 0,sl 1,λp hp=>?_⟩;have:=q (rm 13) ⟨so,p,prs⟩ (iO 13) (hk p hp);rw[<- rme]at this;exact this
 .refine⟨c,14,rfl,by decide,?_⟩;have ec:gU ((j7 c 14).map L2.T.int) (some 2) (some 6)=[2,3,4,5].map (λk=>L2.T.int (strm c k)):=rfl;show(gU ((j7 c 14).map L2.T.int) (some 2) (some 6)).length<=sizeLine/\jW _ _ _ _ (gU ((j7 c 14).map L2.T.int) (some 2) (some 6)) _;rw[ec];refine⟨show 4<=sizeLine by decide,comp_map (λk=>L2.T.int (strm c k)) (λk=>.int (rm k:Nat)) [2,3,4,5] (λk _ N M hN=>⟨mz,by rwa[rme]⟩) ⟨_,dU (k:=6),by decide,?_⟩⟩;dsimp only[frz];rw[eso];refine⟨_,rfl,?_⟩;obtain rfl|rfl|rfl|rfl:so=0\/so=1\/so=2\/so=3:=by lia
  .exact go _ ⟨_,_,_,_,[(rm 2,1)],rfl,λp hp=>.sure (iO 2) hp⟩
  .have x8:=sl 8;have x9:=sl 9;refine⟨_,dU (k:=8),by decide,_,dU (k:=9),by lia,_,_,rfl,by lia,iT wf,_,rfl,_,rfl,?_⟩;obtain⟨b,eb,b0,b1⟩ : ∃b:Int,1+strm c 8%6=b/\0<b/\b<=6:=⟨_,rfl,by lia,by lia⟩;rw[eb];have a0:=Z3 (strm c 9) (show b+1≠0 by lia);have a1:=YY (strm c 9) (show 0<b+1 by exact Int.lt_trans b0 (Int.lt_succ _));generalize strm c 9%(b+1)=a at a0 a1 ⊢;have nn:0<=Rat.divInt a b:=Zzu a0 (XY b0);have l1:0<=1-Rat.divInt a b:=by rw[one_sub (WS b0)];exact Zzu (by omega) (XY b0)
   have dd:=Qd (a:=a) b0;generalize Rat.divInt a b=x at nn l1 dd ⊢;refine go _ ⟨.fz (.lst ([2,3,4,5].map λk=>L2.T.int (rm k:Nat))),.fz (.int b),.fz (frR x),.und,[(rm 2,x),(rm 3,1-x)],?_,λp hp=>.toss (iO 2) (iO 3) hp nn l1 (show 0<b.toNat by lia) wf dd⟩;rw[show[(rm 2,x),(rm 3,1-x)].map nwT=[.tup [.int (rm 2:Nat),frR x],.tup [.int (rm 3:Nat),frR (1-x)]]from rfl,aeg]
   rfl
  .have x7:=sl 7;obtain⟨n,en,n0,n4⟩ : ∃n:Nat,1+strm c 7%4=(n:Nat)/\0<n/\n<=4:=⟨(1+strm c 7%4).toNat,by lia,by lia,by lia⟩;refine⟨_,dU (k:=7),by decide,?_⟩;show(gU ([2,3,4,5].map λk=>L2.T.int (rm k:Nat)) none (some (1+strm c 7%4))).length<=sizeLine/\jW _ _ _ _ (gU ([2,3,4,5].map λk=>L2.T.int (rm k:Nat)) none (some (1+strm c 7%4))) _;have ec2:gU ([2,3,4,5].map λk=>L2.T.int (rm k:Nat)) none (some (1+strm c 7%4))=(([2,3,4,5].map rm).take n).map λr:Nat=>L2.T.int (r:Nat):=by
    rw[en,afY,List.map_take,WJ]
    rfl
   have rl:(([2,3,4,5].map rm).take n).length=n:=by rw[aY];show min n 4=n;lia
   have rlt:∀r∈([2,3,4,5].map rm).take n,r<m:=λr hr=>by
    obtain⟨k,_,rfl⟩:=YV.mp (List.mem_of_mem_take hr);exact iO k
   rw[ec2];generalize([2,3,4,5].map rm).take n=rs at rl rlt ⊢;have r0:0<rs.length:=by lia
   have e2:(rs.map λr=>(r,mkRat 1 rs.length)).map nwT=rs.map λr=>nwT (r,mkRat 1 rs.length):=by rw[WJ];rfl
   refine⟨by rw[ak];exact aL (show _<=4 by exact aL (WH rl) n4) wb,comp_map (λr:Nat=>L2.T.int (r:Nat)) (λr=>nwT (r,mkRat 1 rs.length)) rs (λr hr N M hN=>?_) (go _ ⟨.fz (.lst (rs.map λr:Nat=>L2.T.int (r:Nat))),.und,.und,.und,rs.map λr=>(r,mkRat 1 rs.length),by rw[e2];rfl,λp hp=>.even r0 (aL (WH rl) n4) rlt hp⟩)⟩;rw[show nwT (r,mkRat 1 rs.length)=.tup [.int (r:Nat),frR (mkRat 1 rs.length)]from rfl,XR r0,<- ak (f:=λr:Nat=>L2.T.int (r:Nat))]at hN;exact hN
  .have x7:=sl 7;have x12:=sl 12;obtain⟨n,en,n0,n4⟩ : ∃n:Nat,9+strm c 7%4=((8+n:Nat):Int)/\0<n/\n<=4:=⟨(1+strm c 7%4).toNat,by lia,by lia,by lia⟩;refine⟨_,dU (k:=7),by decide,?_⟩;show(gU ((j7 c 14).map L2.T.int) (some 8) (some (9+strm c 7%4))).length<=sizeLine/\jW _ _ _ _ (gU ((j7 c 14).map L2.T.int) (some 8) (some (9+strm c 7%4))) _;have ec3:gU ((j7 c 14).map L2.T.int) (some 8) (some (9+strm c 7%4))=(((j7 c 14).drop 8).take n).map L2.T.int:=by
    rw[en,Dw];have:=YF (ys:=j7 c 14) (a:=8) (b:=8+n) (X2 _ _) (by rw[ak,WP];lia);rw[show 8+n-8=n by exact JU _ _]at this;exact ZH (List.map L2.T.int) this
   have ul:(((j7 c 14).drop 8).take n).length=n:=by rw[aY,U1,ak,WP];lia
   rw[ec3];generalize((j7 c 14).drop 8).take n=us at ul ⊢;obtain⟨d,hd,ed⟩:=ab0 [3,3,3,1000] L2.T.int (i:=strm c 12%4) (Z3 _ wb) (by show strm c 12%4<4;exact YY _ wb);have d0:0<d/\d<=1000:=by simp at hd;lia
   refine⟨by rw[ak];exact aL (show _<=4 by exact aL (WH ul) n4) wb,comp_map L2.T.int (λx=>L2.T.int (x%d)) us (λx hx N M hN=>⟨_,dU (k:=12),by decide,_,ed,d0.1,hN⟩) ?_⟩;have em:us.map (λx=>L2.T.int (x%d))=(us.map (· % d)).map L2.T.int:=by rw[WJ];rfl
   rw[em];have wl:(us.map (· % d)).length=n:=by rwa[ak]
   have ww:∀w∈us.map (· % d),0<=w/\w<1000:=λw hw=>by
    obtain⟨x,_,rfl⟩:=YV.mp hw;have:=Z3 x (show d≠0 by lia);have:=YY x d0.1;lia
   generalize us.map (· % d)=ws at wl ww ⊢;obtain⟨vs,v,rfl⟩ : ∃vs v,ws=vs++[v]:=by
    rcases List.eq_nil_or_concat ws with rfl|⟨vs,v,e⟩
    .cases wl;cases n0
    .exact⟨vs,v,by rw[e,List.concat_eq_append]⟩
   rw[aA,List.length_singleton]at wl;have ixl:ixT ((vs++[v]).map L2.T.int) (-1)=some (.int v):=by
    show nth ((vs++[v]).map L2.T.int).reverse 0=_;rw[bf,List.reverse_append]
    rfl
   have ixn:ixN ((vs++[v]).map L2.T.int).length (-1)=some vs.length:=by
    unfold ixN;rw[ak,aA,List.length_singleton];rw[ZZ wb,ZY wf]
    congr 1
    lia
   refine⟨_,ixl,_,ixn,?_⟩;have es:((vs++[v]).map L2.T.int).set vs.length (.int (v+1))=(vs++[v+1]).map L2.T.int:=by
    rw[bf,bf,List.set_append_right _ _ (by rw[ak];exact aG _),ak,Nat.sub_self]
    rfl
   dsimp only[frz];rw[es];have k9:(vs++[v+1]).length=n:=by rwa[aA,List.length_singleton]
   have k8:∀w∈vs++[v+1],0<=w/\w<=1000:=λw hw=>by
    rcases Y1.mp hw with z|z
    .have:=ww w (UH _ z);lia
    .have:=ww v (aP _ (YR.mpr rfl));rw[YR.mp z];lia
   have s0:0<(vs++[v+1]).sum:=by
    have:0<=vs.sum:=adK λw hw=>(ww w (UH _ hw)).1;have:=(ww v (aP _ (YR.mpr rfl))).1;rw[List.sum_append];show 0<vs.sum+(v+1+0);lia
   have s1:(vs++[v+1]).sum<=1000*(vs++[v+1]).length:=adS λw hw=>(k8 w hw).2;generalize vs++[v+1]=us at k9 k8 s0 s1 ⊢;have ul':(us.map L2.T.int).length=us.length:=ak ..;have r4:∀k,k<4->([2,3,4,5].map rm)[k]?=some (rm (k+2)):=λk hk=>by
    obtain rfl|rfl|rfl|rfl:k=0\/k=1\/k=2\/k=3:=by lia
    all_goals rfl
   have z:∀k(hk:k<us.length),((([2,3,4,5].map rm).zip us).map λx=>(x.1,Rat.divInt x.2 us.sum))[k]?=some (rm (k+2),Rat.divInt (us.getD k 0) us.sum):=λk hk=>by
    rw[aq,List.getElem?_zip_eq_some (z:=(rm (k+2),us.getD k 0)) |>.mpr ⟨r4 k wf,by rw[au,aj hk];rfl⟩]
    rfl
   have ep:(List.range (us.map L2.T.int).length).map (λk=>nwT (rm (k+2),Rat.divInt (us.getD k 0) us.sum))=((([2,3,4,5].map rm).zip us).map λx=>(x.1,Rat.divInt x.2 us.sum)).map nwT:=by
    refine Zzy λk=>?_;rw[ul'];by_cases hk:k<us.length
    .rw[aq,VW hk,aq,z k hk]
     rfl
    .rw[aM (by rw[ak,WP];exact VT hk),aM (by rw[ak,ak,VU];omega)]
   refine⟨⟨by lia,by lia⟩,by rw[rng,ak,WP];exact aL (show _<=4 by lia) wb,Ey (λk=>nwT (rm (k+2),Rat.divInt (us.getD k 0) us.sum)) (us.map L2.T.int).length (λk hk N M hN=>?_) (go _ ⟨.fz (.lst ([2,3,4,5].map λk=>L2.T.int (rm k:Nat))),.und,.und,.fz (.lst (us.map L2.T.int)),(([2,3,4,5].map rm).zip us).map λx=>(x.1,Rat.divInt x.2 us.sum),by rw[ep];rfl,λp hp=>LDk.mix (rs:=[2,3,4,5].map rm) (aL (WH k9) n4) (λr hr=>?_) (λw hw=>(k8 w hw).1) (show us.length<=4 by exact aL (WH k9) n4) s0 wf hp⟩)⟩
   .rw[ul']at hk;have ek:us[k]?=some (us.getD k 0):=by rw[au,aj hk];rfl
    have e4:=r4 k wf;rw[aq]at e4;refine⟨.int (rm (k+2):Nat),?_,_,dg ek,us,rfl,_,_,rfl,s0,iT wf,hN⟩;show nth _ k=_;rw[pO,aq];cases z2:([2,3,4,5] : xL)[k]? with
    |none=>rw[z2]at e4;cases e4
    |some j=>rw[z2]at e4;injection e4 with e4;show some (L2.T.int (rm j:Nat))=_;rw[show rm j=rm (k+2)from e4]
   .obtain⟨k,_,rfl⟩:=YV.mp hr;exact iO k
structure DSk(m mo:Nat)(ac:zS):Prop where
 len:ac.length=m
 few:∀ds∈ac,ds.length<=mo
 ok:∀ds∈ac,∀d∈ds,LDk m d
abbrev dsT(ac:zS):wx:=ac.map λds=>ds.map ldT
abbrev Ly(ac:zS):T:=.lst (ac.map λds=>.lst (ds.map ldT))
def aeD(ac:zS):frz (.l2 (dsT ac))=Ly ac:=by
 show L2.T.lst ((ac.map λds=>ds.map ldT).map L2.T.lst)=_;rw[WJ]
 rfl
def DSk.add{ac:zS}(h:DSk m mo ac){ds:List LD}{d:LD}(e:ac[k]?=some ds)(lt:ds.length<mo)(hd:LDk m d):DSk m mo (ac.set k (ds++[d])):=by
 refine⟨by rw[VY,h.len],λx hx=>?_,λx hx y hy=>?_⟩
 .rcases List.mem_or_eq_of_mem_set hx with z|rfl
  .exact h.few x z
  .rw[aA,List.length_singleton];exact lt
 .rcases List.mem_or_eq_of_mem_set hx with z|rfl
  .exact h.ok x z y hy
  .rcases Y1.mp hy with z|z
   .exact h.ok ds (aC e) y z
   .rw[YR.mp z];exact hd
def aiC{ac:zS}{r:Nat}{ds:List LD}(e:ac[r]?=some ds):ixT ((dsT ac).map L2.T.lst) (r:Nat)=some (.lst (ds.map ldT)):=by
 show nth ((dsT ac).map L2.T.lst) r=_;rw[pO,aq,aq,e];rfl
def U5:ST:=λts q=>∃(ns:xy)(a m mo:Nat),ts=[scT ns,.int (a:Nat),.int (m:Nat),.int (mo:Nat)]/\ns.length<=100/\m<=300/\mo<=1000/\∀ac:zS,DSk m mo ac->q (.l2 (dsT ac))
def abB(T:Tx D):gT 5 KJ yL U5:=ya T.afD λF=>by
 refine F.okT U4 (λhr _=>bF (agE (bG Jf) Zt ["_law_script","_law_at","_law_many","_law_most","_law_rooms","_law_first","_law_cells","?_law_k","_law_cell_here","_law_room","_law_door_here"] ["_law_k"] (dZ T.fM (bx we bC)) (gk (i:=0)) cD (dh bC) (jQ (i:=4) U4.nd rfl (Or.inl rfl)))
  (bF (cC (bY JR we bA)
  (bF (bN 5 (bI (agu T) (bx wr (bx wn bC))))
  (bF (bN 6 (bI (abb T) (bx wE (bx (bL cA (bL cA (bL Y0 wE bA) bA) (bL cL (bL cG bA we) bA)) bC))))
  (bF (bN 6 (bL cL (qv 6) (kJ wr (iy (bL cL wn bA)) (iy (bL cL wn bA)))))
  (bH (eF (dZ T.fM (bx (bR cJ T.dJ WG (bx (qv 6) bC)) bC)) (bW (n:=99) 7)
  (bF (bN 8 (bJ (qv 6) (qv 7)))
  (bF (cC (QW.qt (Yb (bY (go_eq hr.units) (bL cA wE bA) bA) (Sd (bY (go_eq hr.units) (bL cA (qv 7) bA) bA))))
  (bH (bN 8 (bL cA (qv 8) bA)))
  bT)
  (bF (Gh (bI (afy T) (bx (qv 8) (bx we bC))) (fj (n:=2) (bQ (bW (n:=99) 9) (bQ (bW (n:=99) 10) dB))))
  (bH (cC (KR 4 (bY v7 (bR cJ T.dJ WG (bx (bJ wP (qv 9)) bC)) wa))
  (bH (YD 4 (qv 9) (qv 10)))
  bT))))))))))
  bT)
  (bH (jL 4)))) ?_
 rintro _ R ⟨ns,a,m,mo,rfl,nl,m1,mo1,q⟩;have e0:(List.range m).map (λ_=>([] : List L2.T))=dsT (List.replicate m []):=by
  unfold dsT;rw[List.map_replicate,List.map_const',WP]
  rfl
 have h0:DSk m mo (List.replicate m []):=⟨aN,λx hx=>by rw[(List.mem_replicate.mp hx).2];exact aZ _,λx hx y hy=>by rw[(List.mem_replicate.mp hx).2]at hy;cases hy⟩;refine⟨⟨by lia,by lia⟩,by rw[rng,ak,WP];exact aL m1 wb,VR (λ_=>[]) m (λk hk N M hN=>hN) ?_⟩;rw[e0];refine swD (λhm=>?_) λhm=>q _ h0;refine⟨ns,a,rfl,nl,?_⟩;dsimp only[frz];generalize ns.getD a 0=fi;have mz:(0:Int)<3*(m:Nat)+1:=by lia
 obtain⟨n,en,n1⟩ : ∃n:Nat,fi*48271%104729%(3*(m:Nat)+1)=(n:Nat)/\n<=3*m:=⟨(fi*48271%104729%(3*(m:Nat)+1)).toNat,by
  have:=Z3 (fi*48271%104729) (show(3*(m:Nat)+1:Int)≠0 by exact WS mz);lia,by
  have:=YY (fi*48271%104729) mz;have:=Z3 (fi*48271%104729) (show(3*(m:Nat)+1:Int)≠0 by exact WS mz);lia⟩
 refine⟨.inr (by constructor<;>decide),by decide,⟨iT wb,iT wf⟩,mz,fi,n,by rw[en];rfl,by lia,?_⟩;have ec:(j7 fi n).map L2.T.int++gU (ns.map L2.T.int) (some ((a:Nat)+1)) (some ((a:Nat)+25))=(j7 fi n++gU ns (some ((a:Nat)+1)) (some ((a:Nat)+25))).map L2.T.int:=by rw[Dw,bf]
 have cl:(gU ns (some ((a:Nat)+1)) (some ((a:Nat)+25))).length<=100:=by
  unfold gU;rw[aY,U1];lia
 show((j7 fi n).map L2.T.int).length+(gU (ns.map L2.T.int) (some ((a:Nat)+1)) (some ((a:Nat)+25))).length<=sizeLine/\_;refine⟨?_,?_⟩
 .rw[Dw,ak,ak,ak,WP];exact aL (show _<=1100 by lia) wb
 dsimp only[frz];rw[ec];have sl:(j7 fi n++gU ns (some ((a:Nat)+1)) (some ((a:Nat)+25))).length<=1100:=by rw[aA,ak,WP];lia
 generalize j7 fi n++gU ns (some ((a:Nat)+1)) (some ((a:Nat)+25))=cs at sl ⊢;refine⟨⟨by rw[ak];lia,by rw[ak];lia⟩,qz (λk o=>∃(ac:zS)(x7 x8 x9 kH:OT),o=[.fz (scT ns),.fz (.int (a:Nat)),.fz (.int (m:Nat)),.fz (.int (mo:Nat)),.l2 (dsT ac),.fz (.int fi),.fz (.lst (cs.map L2.T.int)),x7,x8,x9,kH]/\DSk m mo ac) ⟨_,_,_,_,_,rfl,h0⟩ ?_ ?_⟩
 .rintro k _ hk ⟨ac,x7,x8,x9,kH,rfl,h⟩;rw[ak]at hk;dsimp only[hName];refine sq2 (λo=>∃c:Int,o=[.fz (scT ns),.fz (.int (a:Nat)),.fz (.int (m:Nat)),.fz (.int (mo:Nat)),.l2 (dsT ac),.fz (.int fi),.fz (.lst (cs.map L2.T.int)),.fz (.int (k:Nat)),.fz (.int c),x9,kH]) ?_ λY go=>?_
  .rintro _ ⟨c,rfl⟩;refine⟨c,m,rfl,by lia,by exact aL m1 wb,λr d hr hd=>⟨rfl,?_⟩⟩;have lr:r<ac.length:=by rwa[h.len]
   have er:=aj lr;refine⟨_,aiC er,swD (λlt=>?_) λ_=>⟨ac,.fz (.int (k:Nat)),.fz (.int c),.fz (.int (r:Nat)),.fz (ldT d),rfl,h⟩⟩;have lt:((ac[r].map ldT).length:Int)<(mo:Nat):=lt;rw[ak]at lt;refine⟨r,ac[r].map ldT,?_,by rw[aq,er];rfl,by rw[ak];exact aR (show _<1001 by lia) wb,ac.set r (ac[r]++[d]),.fz (.int (k:Nat)),.fz (.int c),.fz (.int (r:Nat)),.fz (ldT d),?_,h.add er wf hd⟩
   .unfold ixN;rw[ak,ZY (Wp _),ZY wf]
    rfl
   .rw[show dsT (ac.set r (ac[r]++[d]))=(dsT ac).set r (ac[r].map ldT++[ldT d])by
     unfold dsT;rw[List.map_set,bf]
     rfl]
    rfl
  .refine⟨_,dg (aj hk),by decide,swD (λh1=>⟨by decide,swD (λh2=>⟨by decide,go _ ⟨_,rfl⟩⟩) λh2=>go _ ⟨_,rfl⟩⟩) λh1=>go _ ⟨_,rfl⟩⟩
 .rintro _ ⟨ac,x7,x8,x9,kH,rfl,h⟩;exact q ac h
def BW(ws:zC)(p:Nat×Rat):zC:=if(ws.any λx=>decide (x.1=p.1))=true then ws.map (λx=>if x.1=p.1 then(x.1,x.2+p.2)else x)else ws++[p]
def Dc(ps:zC):zC:=ps.foldl BW []
def wJ(ps:zC):zC:=(Dc ps).filter λp=>!decide (p.2=0)
abbrev nmP(ns:Φ)(p:Nat×Rat):Str×Rat:=(ns.getD p.1 ⟨#[]⟩,p.2)
def Qt(nd:ns.Nodup)(hi:i<ns.length)(hj:j<ns.length):(ns.getD i ⟨#[]⟩=ns.getD j ⟨#[]⟩)↔i=j:=by
 constructor
 .intro h;rw[au,au,aj hi,aj hj]at h;rcases Nat.lt_trichotomy i j with l|l|l
  .exact absurd h ((List.pairwise_iff_getElem.mp nd) i j hi hj l)
  .exact l
  .exact absurd h.symm ((List.pairwise_iff_getElem.mp nd) j i hj hi l)
 .intro h;rw[h]
def ajd(nd:ns.Nodup){p:Nat×Rat}(hw:∀w∈ws,w.1<ns.length)(hp:p.1<ns.length):addW (ws.map (nmP ns)) (nmP ns p)=(BW ws p).map (nmP ns):=by
 have an:((ws.map (nmP ns)).any λx=>decide (x.1=(nmP ns p).1))=ws.any λx=>decide (x.1=p.1):=by
  rw[List.any_map];refine Bool.eq_iff_iff.mpr ⟨λh=>?_,λh=>?_⟩
  .obtain⟨x,hx,e⟩:=List.any_eq_true.mp h;exact List.any_eq_true.mpr ⟨x,hx,Zs ((Qt nd (hw x hx) hp).mp (of_decide_eq_true e))⟩
  .obtain⟨x,hx,e⟩:=List.any_eq_true.mp h;exact List.any_eq_true.mpr ⟨x,hx,Zs ((Qt nd (hw x hx) hp).mpr (of_decide_eq_true e))⟩
 unfold addW BW;rw[an];split
 .rw[WJ,WJ];refine UQ λx hx=>?_;show(if(nmP ns x).1=(nmP ns p).1 then _ else _)=nmP ns (if x.1=p.1 then _ else _);by_cases e:x.1=p.1
  .rw[ZY e,ZY ((Qt nd (hw x hx) hp).mpr e)]
  .rw[ZZ e,ZZ λz=>e ((Qt nd (hw x hx) hp).mp z)]
 .rw[bf];rfl
def Io{p w:Nat×Rat}(h:w∈BW ws p):(w∈ws/\w.1≠p.1)\/w=p\/∃x∈ws,x.1=p.1/\w=(x.1,x.2+p.2):=by
 unfold BW at h;split at h
 .obtain⟨x,hx,rfl⟩:=YV.mp h;by_cases e:x.1=p.1
  .rw[ZY e];exact .inr (.inr ⟨x,hx,e,rfl⟩)
  .rw[ZZ e];exact .inl ⟨hx,e⟩
 .rename_i n
  rcases Y1.mp h with z|z
  .exact .inl ⟨z,λe=>n (List.any_eq_true.mpr ⟨w,z,Zs e⟩)⟩
  .exact .inr (.inl (YR.mp z))
def ZF(nd:ns.Nodup)(h:∀p∈ps,p.1<ns.length):j4 (ps.map (nmP ns))=(Dc ps).map (nmP ns):=by
 suffices H:∀(ps ws:zC),(∀p∈ps,p.1<ns.length)->(∀w∈ws,w.1<ns.length)->(ps.map (nmP ns)).foldl addW (ws.map (nmP ns))=(ps.foldl BW ws).map (nmP ns)from H ps [] h λ_ z=>(nomatch z)
 intro ps
 induction ps with
 |nil=>exact λ_ _ _=>rfl
 |cons p ps ih =>
  intro ws hp hw;rw[List.map_cons,List.foldl_cons,List.foldl_cons,ajd nd hw (hp p (aO ..))];refine ih _ (λq hq=>hp q (aJ _ hq)) λw hm=>?_;rcases Io hm with⟨z,_⟩|rfl|⟨x,hx,_,rfl⟩
  .exact hw w z
  .exact hp w (aO ..)
  .exact hw x hx
def afO(nd:ns.Nodup)(h:∀p∈ps,p.1<ns.length):Dk (ps.map (nmP ns))=(wJ ps).map (nmP ns):=by
 unfold Dk wJ;rw[ZF nd h,List.filter_map]
 rfl
def zT{q:Nat}(hq:0<q):r.den ∣ q↔∃x:Int,r=Rat.divInt x q:=by
 constructor
 .rintro⟨k,rfl⟩;refine⟨r.num*k,?_⟩;have hk:((k:Nat):Int)≠0:=λz=>by rw[show k=0 by lia]at hq;lia
  conv=>lhs;rw[<- rd r]
  refine(Q2 (lD r) (by push_cast;exact m_ (lD r) hk)).mpr ?_
  push_cast
  grind
 .rintro⟨x,rfl⟩;have:=Qd (a:=x) (b:=(q:Nat)) wf;exact this
def CT{a b:Rat}{q:Nat}(hq:0<q)(ha:a.den ∣ q)(hb:b.den ∣ q):(a+b).den ∣ q:=by
 obtain⟨x,rfl⟩:=(zT hq).mp ha;obtain⟨y,rfl⟩:=(zT hq).mp hb;have h0:((q:Nat):Int)≠0:=by lia
 refine(zT hq).mpr ⟨x+y,?_⟩;rw[TH _ _ h0 h0];refine(Q2 (m_ h0 h0) h0).mpr ?_
 grind
def den_mul{a b:Rat}{q r:Nat}(hq:0<q)(hr:0<r)(ha:a.den ∣ q)(hb:b.den ∣ r):(a*b).den ∣ q*r:=by
 obtain⟨x,rfl⟩:=(zT hq).mp ha;obtain⟨y,rfl⟩:=(zT hr).mp hb;refine(zT (UP hq hr)).mpr ⟨x*y,?_⟩;rw[Qr]
 push_cast
 rfl
theorem agB{a:Rat} : (-a).den=a.den:=rfl
structure JnI(m q:Nat)(as ws:zC):Prop where
 nd:(ws.map (·.1)).Nodup
 lt:∀w∈ws,w.1<m
 nn:∀w∈ws,0<=w.2
 dn:∀w∈ws,w.2.den ∣ q
 sum:∀y:Nat->Rat,dw ws y=dw as y
 few:ws.length<=as.length
def Li(as bs:zC)(y:Nat->Rat):dw (as++bs) y=dw as y+dw bs y:=by
 induction as with
 |nil=>show dw bs y=0+_;rw[Rat.zero_add]
 |cons a as ih=>rw[List.cons_append,cY,cY,ih,Rat.add_assoc]
def Wt(p:Nat×Rat)(y:Nat->Rat):dw [p] y=p.2*y p.1:=by rw[cY];show _+0=_;rw[Rat.add_zero]
def aiF{p:Nat×Rat}(nd:(ws.map (·.1)).Nodup)(y:Nat->Rat):dw (BW ws p) y=dw ws y+p.2*y p.1:=by
 unfold BW;split
 .rename_i h
  induction ws with
  |nil=>cases h
  |cons x ws ih =>
   obtain⟨n1,n2⟩:=List.nodup_cons.mp nd;rw[List.map_cons,cY,cY];by_cases e:x.1=p.1
   .rw[ZY e];have rest:ws.map (λx=>if x.1=p.1 then(x.1,x.2+p.2)else x)=ws:=by
     conv=>rhs;rw[<- List.map_id ws]
     refine UQ λz hz=>?_;rw[ZZ λw=>n1 (YV.mpr ⟨z,hz,w.trans e.symm⟩)]
     rfl
    rw[rest,<- e];show(x.2+p.2)*y x.1+dw ws y=_
    grind
   .rw[ZZ e,ih n2 (by
     rw[List.any_cons,Zp e,Bool.false_or]at h;exact h)]
    grind
 .rw[Li,Wt]
def ahP{p:Nat×Rat}(nd:(ws.map (·.1)).Nodup):((BW ws p).map (·.1)).Nodup:=by
 unfold BW;by_cases h:(ws.any λx=>decide (x.1=p.1))=true
 .rw[ZY h,WJ];rw[show ws.map ((λx=>x.1) ∘ λx=>if x.1=p.1 then(x.1,x.2+p.2)else x)=ws.map (·.1)from UQ λx _=>by show(if x.1=p.1 then(x.1,x.2+p.2)else x).1=x.1;split<;>rfl];exact nd
 .rw[ZZ h,bf];refine List.nodup_append.mpr ⟨nd,by simp,λa ha b hb z=>h ?_⟩;obtain⟨x,hx,rfl⟩:=YV.mp ha;rw[List.map_singleton,YR]at hb;exact List.any_eq_true.mpr ⟨x,hx,Zs (z.trans hb)⟩
def agr{q:Nat}(hq:0<q){as:zC}{p:Nat×Rat}(hp:p.1<m/\0<=p.2/\p.2.den ∣ q)(h:JnI m q as ws):JnI m q (as++[p]) (BW ws p):=by
 refine⟨ahP h.nd,λw hw=>?_,λw hw=>?_,λw hw=>?_,λy=>by rw[aiF h.nd,h.sum,Li,Wt],?_⟩
 .rcases Io hw with⟨z,_⟩|rfl|⟨x,hx,_,rfl⟩
  .exact h.lt w z
  .exact hp.1
  .exact h.lt x hx
 .rcases Io hw with⟨z,_⟩|rfl|⟨x,hx,_,rfl⟩
  .exact h.nn w z
  .exact hp.2.1
  .have:=h.nn x hx;have:=hp.2.1;show 0<=x.2+p.2
   grind
 .rcases Io hw with⟨z,_⟩|rfl|⟨x,hx,_,rfl⟩
  .exact h.dn w z
  .exact hp.2.2
  .exact CT hq (h.dn x hx) hp.2.2
 .have:=h.few;unfold BW;split
  .rw[ak,aA];exact aL this (X2 _ _)
  .rw[aA,aA];simp;omega
def N8{q:Nat}(hq:0<q):∀{ps:zC},(∀p∈ps,p.1<m/\0<=p.2/\p.2.den ∣ q)->JnI m q ps (Dc ps):=by
 intro ps h
 suffices H:∀(ps as ws:zC),(∀p∈ps,p.1<m/\0<=p.2/\p.2.den ∣ q)->JnI m q as ws->JnI m q (as++ps) (ps.foldl BW ws)from H ps [] [] h ⟨.nil,λ_ z=>(nomatch z),λ_ z=>(nomatch z),λ_ z=>(nomatch z),λ_=>rfl,aG _⟩
 intro ps
 induction ps with
 |nil=>intro as ws _ h;rwa[List.append_nil]
 |cons p ps ih =>
  intro as ws hp h;have:=ih (as++[p]) (BW ws p) (λx hx=>hp x (aJ _ hx)) (agr hq (hp p (aO ..)) h);rw[WZ]at this;exact this
theorem Ga(y:Nat->Rat):∀ws:zC,dw (ws.filter λp=>!decide (p.2=0)) y=dw ws y
 |[]=>rfl
 |w::ws=>by
  by_cases e:w.2=0
  .rw[List.filter_cons_of_neg (by rw[Zs e];decide),Ga y ws,cY,e,Rat.zero_mul,Rat.zero_add]
  .rw[List.filter_cons_of_pos (by rw[Zp e];rfl),cY,cY,Ga y ws]
def Sv{q:Nat}(hq:0<q)(h:∀p∈ps,p.1<m/\0<=p.2/\p.2.den ∣ q):JnI m q ps (wJ ps):=by
 have j:=N8 hq h;have sub:∀w∈wJ ps,w∈Dc ps:=λw hw=>(List.mem_filter.mp hw).1;refine⟨(List.filter_sublist.map _).nodup j.nd,λw hw=>j.lt w (sub w hw),λw hw=>j.nn w (sub w hw),λw hw=>j.dn w (sub w hw),λy=>?_,aL (List.length_filter_le ..) j.few⟩;unfold wJ;rw[Ga,j.sum]
theorem uE{w:Nat×Rat} : ∀{ws:zC},(∀w∈ws,0<=w.2)->w∈ws->w.2<=dw ws λ_=>1
 |[],_,h=>by cases h
 |x::ws,nn,h=>by
  rw[cY];have n0:∀ws:zC,(∀w∈ws,0<=w.2)->0<=dw ws λ_=>1:=λws=>by
   induction ws with
   |nil=>intro _;exact VS
   |cons y ws ih =>
    intro h;rw[cY];have:=h y (aO ..);have:=ih λw hw=>h w (aJ _ hw)
    grind
  rcases YU.mp h with rfl|z
  .have:=n0 ws λw hw=>nn w (aJ _ hw)
   grind
  .have:=uE (ws:=ws) (λw hw=>nn w (aJ _ hw)) z;have:=nn x (aO ..)
   grind
theorem zW:∀ps:zC,(dw ps λ_=>1)=Cq (ps.map (·.2))
 |[]=>rfl
 |p::ps=>by
  rw[cY,zW ps,Rat.mul_one]
  rfl
def LDk.all{d:LD}(h:LDk m d):∃q:Nat,0<q/\q<=4000/\∀p∈d.prs,p.1<m/\0<=p.2/\p.2.den ∣ q:=by
 obtain⟨q,q0,q1,hq⟩:=h.dn;exact⟨q,q0,q1,λp hp=>⟨h.lt p hp,h.nn p hp,hq p hp⟩⟩
def abG{q:Nat}(q0:0<q)(q1:q<=4000)(h0:0<=r)(h1:r<=1)(hd:r.den ∣ q):Ch r:=⟨h0,h1,iT (by have:=UV q0 hd;lia)⟩
def LDk.prsOk{d:LD}(h:LDk m d)(hn:Nms ns m):Prs (d.prs.map (nmP ns)):=by
 obtain⟨q,q0,q1,hq⟩:=h.all;have le1:∀p∈d.prs,p.2<=1:=λp hp=>by
  rw[<- h.one,<- zW];exact uE h.nn hp
 have few:=h.few;have m2:(d.prs.map (nmP ns)).map (·.2)=d.prs.map (·.2):=by rw[WJ];rfl
 refine⟨by rw[ak];exact aL few wb,λp hp=>?_,?_,by rw[m2];exact h.one,λas a bs e=>?_⟩
 .obtain⟨x,hx,rfl⟩:=YV.mp hp;obtain⟨x1,x2,x3⟩:=hq x hx;have lx:x.1<ns.length:=by rwa[hn.len]
  refine⟨hn.wd _ ?_,abG q0 q1 x2 (le1 x hx) x3⟩;show ns.getD x.1 ⟨#[]⟩∈ns;rw[au,aj lx];exact aU lx
 .rw[m2];have:=pX (d.prs.map (·.2)) (n:=1) (m:=q) (TW _) λr hr=>by
   obtain⟨x,hx,rfl⟩:=YV.mp hr;exact(hq x hx).2.2
  have:=UV q0 this;exact iT wf
 .obtain⟨i8,bs',e0,rfl,e2⟩:=List.map_eq_append_iff.mp e;obtain⟨a',cs',rfl,rfl,rfl⟩:=List.map_eq_cons_iff.mp e2;have sub:∀p∈i8,p∈d.prs:=λp hp=>e0 ▸ UH _ hp;have ha:=hq a' (e0 ▸ aP _ (aO ..));have ca:Ch a'.2:=abG q0 q1 ha.2.1 (le1 a' (e0 ▸ aP _ (aO ..))) ha.2.2;have j:=N8 q0 (ps:=i8) (m:=m) λp hp=>hq p (sub p hp);rw[ZF hn.nd λp hp=>by rw[hn.len];exact(hq p (sub p hp)).1];have cn:Ch (BK ((Dc i8).map (nmP ns)) (nmP ns a').1):=by
   unfold BK;cases ef:((Dc i8).map (nmP ns)).find? λx=>decide (x.1=(nmP ns a').1)with
   |none=>exact⟨VS,by show(0:Rat)<=1;decide,iT wb⟩
   |some x =>
    obtain⟨y,hy,rfl⟩:=YV.mp (List.mem_of_find?_eq_some ef);refine abG q0 q1 (j.nn y hy) ?_ (j.dn y hy);have l1:=uE j.nn hy;rw[j.sum]at l1;have l2:=h.one;rw[<- zW,e0,Li]at l2;have l3:0<=dw (a'::cs') λ_=>1:=by
     have:∀ws:zC,(∀w∈ws,0<=w.2)->0<=dw ws λ_=>1:=λws=>by
      induction ws with
      |nil=>intro _;exact VS
      |cons y ws ih =>
       intro h;rw[cY];have:=h y (aO ..);have:=ih λw hw=>h w (aJ _ hw)
       grind
     exact this _ λw hw=>h.nn w (e0 ▸ aP _ hw)
    show y.2<=1
    grind
  refine⟨cn.bq,ca.bq,?_⟩;have:=cn.2.2;have:=UV q0 ha.2.2;have p5:(BK ((Dc i8).map (nmP ns)) (nmP ns a').1).den<=4000:=by
   unfold BK;cases ef:((Dc i8).map (nmP ns)).find? λx=>decide (x.1=(nmP ns a').1)with
   |none=>exact TU rfl
   |some x =>
    obtain⟨y,hy,rfl⟩:=YV.mp (List.mem_of_find?_eq_some ef);have:=UV q0 (j.dn y hy);exact aL this q1
  refine iT ?_;rw[VZ,XG,XG];exact Y3 (W1 p5 (show a'.2.den<=4000 by exact aL this q1)) wb
def clsOf(D:Adr):Nat->Addr
 |0=>D.Sure
 |1=>D.Toss
 |2=>D.Even
 |_=>D.Mixed
abbrev S7(t:Str)(d:LD):bM:=⟨t,d.pay,wJ d.prs⟩
abbrev zL(D:Adr)(t:Str)(d:LD):Made:=⟨clsOf D d.sort,S7 t d⟩
def abr(D:Adr):∀k,dW D (clsOf D k)
 |0=>by unfold dW clsOf;simp
 |1=>by unfold dW clsOf;simp
 |2=>by unfold dW clsOf;simp
 |_+3=>by unfold dW clsOf;simp
def U3(D:Adr):ST:=λts q=>∃(t:Str)(d:LD)(ns:Φ)(m:Nat),ts=[.str t,ldT d,.lst (ns.map T.str)]/\Wd t/\Nms ns m/\LDk m d/\q (.fz (mdT ns (zL D t d)))
theorem acp(T:Tx D):gT 8 JG zE (U3 D):=ya T.agq λF=>by
 refine F.okT Vn (λhr _=>bF (Gh wn (fj (n:=3) (bQ (bW (n:=99) 4) (bQ (bW (n:=99) 5) (bQ (bW (n:=99) 6) dB)))))
  (bF (rN (bG Dp) DR DR ["_law_room","_law_chance"] (cI (qv 6)) (fj (n:=2) (bQ (gk (i:=0)) (bQ (gk (i:=1)) dB))) cD (cN (bx (bJ wP wr) (bx wn bC))) (jQ (i:=3) Vn.nd rfl (Or.inl rfl)))
  (bF (cC (bY (go_eq hr.units) wP bA)
  (bH (bO (CZ T.afh (SN T) T.ajl (bx wr (bx wE (bx (bJ (bJ wa bA) bA) bC))))))
  bT)
  (bF (cC (bY (go_eq hr.units) wP bA)
  (bH (bO (CZ T.aeC (Tq T) T.ahw (bx wr (bx wE (bx (bJ (bJ wa bA) bA) (bx (bJ (bJ wa bA) bA) (bx (bJ (bJ wa bA) bA) bC))))))))
  bT)
  (bF (cC (bY (go_eq hr.units) wP bA)
  (bH (bO (CZ T.afZ (Q9 T) T.ahr (bx wr (bx wE (bx (eU (bG Dp) DR DR ["_law_room","_law_chance"] (cI wa) (fj (n:=2) (bQ (gk (i:=0)) (bQ (gk (i:=1)) dB))) cD wr) bC))))))
  bT)
  (bH (bO (CZ T.abT (NZ T) T.S8 (bx wr (bx wE (bx wa bC))))))))))) ?_
 rintro _ R ⟨t,d,ns,m,rfl,wt,hn,hd,q⟩;have few:=hd.few;have en:∀p∈d.prs,ixT (ns.map L2.T.str) (p.1:Nat)=some (.str (nmP ns p).1):=λp hp=>by
  have lp:p.1<ns.length:=by rw[hn.len];exact hd.lt p hp
  exact dg (by rw[aj lp];show _=some (ns.getD p.1 ⟨#[]⟩);rw[au,aj lp];rfl)
 have em:(d.prs.map (nmP ns)).map wyT=d.prs.map λp=>wyT (nmP ns p):=by rw[WJ];rfl
 have pk:=hd.prsOk hn;have wk:=afO hn.nd (ps:=d.prs) λp hp=>by rw[hn.len];exact hd.lt p hp
 refine⟨rfl,by rw[ak];exact aL few wb,comp_map nwT (λp=>wyT (nmP ns p)) d.prs (λp hp N M hN=>⟨rfl,_,en p hp,hN⟩) ?_⟩;rw[<- em];obtain⟨so,pay,prs⟩:=d;have s4:so<4:=hd.sort;have s0:=hd.s0;have s1:=hd.s1;have s2:=hd.s2;dsimp only at *;obtain rfl|rfl|rfl|rfl:so=0\/so=1\/so=2\/so=3:=by lia
 .obtain⟨a,rfl⟩:=s0 rfl;have e1:wJ [(a,1)]=[(a,1)]:=by simp[wJ,Dc,BW]
  have q':R (.fz (drT D.Sure t pay ([(a,1)].map (nmP ns)))):=by rw[<- e1];exact q
  exact⟨_,rfl,t,_,pay,rfl,rfl,acs D,rfl,wt,(pk.ok (nmP ns (a,1)) (YR.mpr rfl)).1,q'⟩
 .obtain⟨a,b,x,rfl⟩:=s1 rfl;have q':R (.fz (drT D.Toss t pay (Dk ([(a,x),(b,1-x)].map (nmP ns))))):=by rw[wk];exact q
  exact⟨_,rfl,_,rfl,_,rfl,t,_,_,pay,x,rfl,rfl,ad8 D,rfl,wt,(pk.ok (nmP ns (a,x)) (aO ..)).2,pk,q'⟩
 .obtain⟨rs,rfl⟩:=s2 rfl;have q':R (.fz (drT D.Even t pay (Dk ((rs.map λr=>(r,mkRat 1 rs.length)).map (nmP ns))))):=by rw[wk];exact q
  have ev:even (((rs.map λr=>(r,mkRat 1 rs.length)).map (nmP ns)).map (·.1))=(rs.map λr=>(r,mkRat 1 rs.length)).map (nmP ns):=by
   have el:(((rs.map λr=>(r,mkRat 1 rs.length)).map (nmP ns)).map (·.1)).length=rs.length:=by simp
   unfold even;rw[el];simp[Function.comp_def]
  refine⟨by rw[ak,ak];exact aL few wb,comp_map wyT (λp=>.str p.1) ((rs.map λr=>(r,mkRat 1 rs.length)).map (nmP ns)) (λp hp N M hN=>⟨rfl,hN⟩) ⟨t,pay,((rs.map λr=>(r,mkRat 1 rs.length)).map (nmP ns)).map (·.1),rfl,rfl,acY D,?_,wt,by rw[ev];exact pk,?_⟩⟩
  .rw[show(((rs.map λr=>(r,mkRat 1 rs.length)).map (nmP ns)).map (·.1)).map L2.T.str=((rs.map λr=>(r,mkRat 1 rs.length)).map (nmP ns)).map λp=>L2.T.str p.1 from WJ]
   rfl
  .rw[ev];exact q'
 .have q':R (.fz (drT D.Mixed t pay (Dk (prs.map (nmP ns))))):=by rw[wk];exact q
  exact⟨t,pay,prs.map (nmP ns),rfl,rfl,ZP D,rfl,wt,pk,q'⟩
structure o9(ac:zS)(off:zi):Prop where
 len:off.length=ac.length
 at_:∀(k:Nat)ds os,ac[k]?=some ds->off[k]?=some os->∃tl:Φ,tl.length=ds.length/\os=(tl.zip ds).map λp=>S7 p.1 p.2
theorem Ud{α β:Type} : ∀{xs:List α}{ys:List β}{x:α}(y:β),xs[ys.length]?=some x->xs.zip (ys++[y])=xs.zip ys++[(x,y)]
 |[],ys,_,_,e=>by cases e
 |a::xs,[],x,y,e=>by cases e;simp
 |a::xs,b::ys,x,y,e=>by
  rw[List.cons_append,List.zip_cons_cons,List.zip_cons_cons,Ud (xs:=xs) (ys:=ys) y (by simpa using e)]
  rfl
theorem Um{α β:Type}(f:α->T)(g:β->T):∀(xs:List α)(ys:List β),La (xs.map f) (ys.map g)=(xs.zip ys).map λp=>.tup [f p.1,g p.2]
 |[],ys=>by cases ys<;>rfl
 |_::_,[]=>rfl
 |x::xs,y::ys=>by
  rw[List.zip_cons_cons,List.map_cons,List.map_cons,List.map_cons,<- Um f g xs ys]
  rfl
def Zv(D:Adr):ST:=λts q=>∃(c:Int)(s:Rat)(m mo:Nat)(ac:zS),ts=[.int c,frR s,Ly ac]/\Shr s/\DSk m mo ac/\m<=26/\mo<=26/\∀ns off,Nms ns m->Ad ns off->o9 ac off->q (.fz (hlT D s ns off))
def aeG(T:Tx D):gT 9 RD Ef (Zv D):=ya T.aiO λ{f fd}F=>by
 refine F.okT agc (λ_ _=>bF (bN 3 (bI (ac0 T) (bx wr (bx (bR cJ T.dJ WG (bx we bC)) bC))))
  (bF (gQ 4 (dh bC))
  (bF (eF (dZ T.fM (bx (bR cJ T.dJ WG (bx we bC)) bC)) (bW (n:=99) 5)
  (bF (bN 6 (bI (ac0 T) (bx (bL cL wr wE) (bx (bR cJ T.dJ WG (bx (bJ we wE) bC)) bC))))
  (bH (oX 4 (cN (bx (bJ wa wE) (bx (eU (bG QD) XF XF ["_law_title","_law_door_here"] (TF T.Wb (bx (qv 6) (bx (bJ we wE) bC))) (fj (n:=2) (bQ (gk (i:=0)) (bQ (gk (i:=1)) dB))) cD (bI (acp T) (bx wr (bx wn (bx wE bC))))) bC)))))))
  (bH (Gy 4 (bO (CZ T.agz (Rn T) T.aio (bx wn (bx wP bC))))))))) ?_
 rintro _ R ⟨c,s,m,mo,ac,rfl,hs,hd,m1,mo1,q⟩;have dl:(ac.map λds=>L2.T.lst (ds.map ldT)).length=m:=by rw[ak,hd.len]
 refine⟨c,m,by rw[<- dl];rfl,m1,λns hn=>?_⟩;have nl:=hn.len;have e0:Br ns []=[]:=by simp[Br]
 refine⟨⟨by rw[dl];lia,by rw[dl];lia⟩,qz (λk o=>∃(ms:xI)(x5 x6:OT),o=[.fz (.int c),.fz (frR s),.fz (Ly ac),.fz (.lst (ns.map L2.T.str)),.l1 (Br ns ms),x5,x6]/\ms.length=k/\∀(i:Nat)ds x,ac[i]?=some ds->ms[i]?=some x->∃tl,Nms tl ds.length/\x=(tl.zip ds).map λp=>zL D p.1 p.2) ⟨[],.und,.und,by rw[e0];rfl,rfl,λi ds x _ z=>by cases z⟩ ?_ ?_⟩
 .rintro k _ hk ⟨ms,x5,x6,rfl,lm,hm⟩;have hk:k<m:=by rw[dl]at hk;lia
  have lk:k<ac.length:=by rwa[hd.len]
  have ek:=aj lk;have mem:=aU lk;have fk:=hd.few _ mem;have kD:ixT (ac.map λds=>L2.T.lst (ds.map ldT)) (k:Nat)=some (.lst (ac[k].map ldT)):=dg ek;have nk:ns[k]?=some (ns.getD k ⟨#[]⟩):=by rw[au,aj wf];rfl
  refine⟨_,kD,c+k,ac[k].length,by rw[<- ak (as:=ac[k]) (f:=ldT)];rfl,by exact aL fk mo1,λtl ht=>?_⟩;refine⟨_,dg nk,_,kD,?_⟩;have zl:(tl.zip ac[k]).length<=26:=by rw[VU];lia
  show(La (tl.map L2.T.str) (ac[k].map ldT)).length<=sizeLine/\jW _ _ _ _ (La (tl.map L2.T.str) (ac[k].map ldT)) _;rw[Um];refine⟨by rw[ak];exact aL zl wb,comp_map (λp=>.tup [.str p.1,ldT p.2]) (λp=>mdT ns (zL D p.1 p.2)) (tl.zip ac[k]) (λp hp N M hN=>⟨rfl,p.1,p.2,ns,m,rfl,ht.wd _ (UR hp).1,hn,hd.ok _ mem _ (UR hp).2,hN⟩) ⟨?_,ms++[(tl.zip ac[k]).map λp=>zL D p.1 p.2],.fz (.int (k:Nat)),.fz (.lst (tl.map L2.T.str)),?_,by rw[aA,lm];rfl,λi ds x e1 e2=>?_⟩⟩
  .rw[ak,VU];exact aR (show _<1000 by lia) wb
  .rw[show Br ns (ms++[(tl.zip ac[k]).map λp=>zL D p.1 p.2])=Br ns ms++[.tup [.str (ns.getD k ⟨#[]⟩),.lst ((tl.zip ac[k]).map λp=>mdT ns (zL D p.1 p.2))]]by
    unfold Br;rw[Ud (x:=ns.getD k ⟨#[]⟩) _ (by rwa[lm]),bf,List.map_singleton]
    congr 2
    show rmT (_,((tl.zip ac[k]).map λp=>zL D p.1 p.2).map (mdT ns))=_;rw[WJ]
    rfl]
   rfl
  .by_cases hi:i<ms.length
   .rw[aF hi]at e2;exact hm i ds x e1 e2
   .have li:=(ao.mp e2).1;rw[aA,List.length_singleton]at li;have:i=k:=by lia
    subst this;rw[aD (WH lm),show i-ms.length=0 by lia]at e2;cases e2;rw[ek]at e1;cases e1;exact⟨tl,ht,rfl⟩
 .rintro _ ⟨ms,x5,x6,rfl,lm,hm⟩;have lm:ms.length=m:=by rwa[lm]
  have all:∀x∈ms,∃ds∈ac,∃tl,Nms tl ds.length/\x=(tl.zip ds).map λp=>zL D p.1 p.2:=λx hx=>by
   obtain⟨i,hi⟩:=aV hx;have li:=(ao.mp hi).1;have ld:i<ac.length:=by rw[hd.len];exact aR li (WH lm)
   exact⟨_,aU ld,hm i _ x (aj ld) hi⟩
  have rk:ahc D ns ms:=by
   refine⟨by rw[lm,nl],by lia,hn.wd,hn.nd,λx hx=>?_⟩;obtain⟨ds,eT,tl,ht,rfl⟩:=all x hx;have fd:=hd.few ds eT;have gv:=ht.len;refine⟨by rw[ak,VU];lia,λy hy=>?_,λy hy=>?_,?_⟩
   .obtain⟨p,_,rfl⟩:=YV.mp hy;exact abr D _
   .obtain⟨p,hp,rfl⟩:=YV.mp hy;have lk:=hd.ok ds eT p.2 (UR hp).2;obtain⟨qq,q0,q1,hq⟩:=lk.all;have j:=Sv q0 hq;have:=j.few;have:=lk.few;exact⟨by show(wJ p.2.prs).length<=1000;lia,λw hw=>by rw[nl];exact j.lt w hw⟩
   .rw[WJ];show((tl.zip ds).map λp=>p.1).Nodup;rw[List.map_fst_zip (WH gv)];exact ht.nd
  have bs:Bq s:=⟨iT (by
   have h0:=Rat.num_nonneg.mpr hs.lo;have h1:=(Rat.lt_iff s 1).mp hs.hi;have h1:s.num*((1:Rat).den:Int)<(1:Rat).num*(s.den:Int):=h1;have:=hs.den;simp at h1;lia),iT (by have:=hs.den;lia)⟩
  refine⟨s,ns,ms,rfl,rfl,rfl,rfl,hs.lo,hs.hi,bs,rk,q ns (offs ms) hn ⟨?_,by lia,λos ke=>?_⟩ ⟨?_,λk ds os e1 e2=>?_⟩⟩
  .rw[ak,lm,nl]
  .obtain⟨x,hx,rfl⟩:=YV.mp ke;rw[ak];exact(rk.mds x hx).few
  .rw[ak,lm,hd.len]
  .rw[aq]at e2;cases e3:ms[k]? with
   |none=>rw[e3]at e2;cases e2
   |some x =>
    rw[e3]at e2;cases e2;obtain⟨tl,ht,rfl⟩:=hm k ds x e1 e3;exact⟨tl,ht.len,WJ⟩
structure PlD(ac:zS)(pl:ze):Prop where
 len:pl.length=ac.length
 ok:∀(k:Nat)(d:xt)(ds:List LD),pl[k]?=some d->ac[k]?=some ds->Av d ds.length=true
def PlD.snoc{ac:zS}(h:∀(i:Nat)(d:xt)(ds:List LD),i<k->pl[i]?=some d->ac[i]?=some ds->Av d ds.length=true)(l:pl.length=k){ds:List LD}(ek:ac[k]?=some ds){d:xt}(hd:Av d ds.length=true):∀(i:Nat)(c:xt)(es:List LD),i<k+1->(pl++[d])[i]?=some c->ac[i]?=some es->Av c es.length=true:=λi c es hi e1 e2=>by
 by_cases z:i<k
 .rw[aF wf]at e1;exact h i c es z e1 e2
 .have:i=k:=by lia
  subst this;rw[aD (WH l),show i-pl.length=0 by lia]at e1;cases e1;rw[ek]at e2;cases e2;exact hd
def Oe:ST:=λts q=>∃(c:Int)(ac:zS),ts=[.int c,Ly ac]/\ac.length<=100/\∀pl:ze,PlD ac pl->q (.l1 (pl.map dT))
def aaM(T:Tx D):gT 2 FZ uy Oe:=ya T.ade λF=>by
 refine F.okT aat (λhr _=>bF (bN 2 (bI (abb T) (bx wr (bx (bR cJ T.dJ WG (bx wn bC)) bC))))
  (bF (gQ 3 (dh bC))
  (bF (eF (dZ T.fM (bx (bR cJ T.dJ WG (bx wn bC)) bC)) (bW (n:=99) 4)
  (bH (cC (bY (go_eq hr.units) (bR cJ T.dJ WG (bx (bJ wn wP) bC)) bA)
  (bH (oX 3 fJ))
  (bH (oX 3 (bL cA (bJ we wP) (bR cJ T.dJ WG (bx (bJ wn wP) bC))))))))
  (bH (jL 3))))) ?_
 rintro _ R ⟨c,ac,rfl,few,q⟩;have dl:(ac.map λds=>L2.T.lst (ds.map ldT)).length=ac.length:=ak ..;refine⟨c,ac.length,by rw[<- dl];rfl,by exact aL few wb,⟨by rw[dl];lia,by rw[dl];lia⟩,?_⟩;refine qz (λk o=>∃(pl:ze)(x:OT),o=[.fz (.int c),.fz (Ly ac),.fz (.lst ((j7 c ac.length).map L2.T.int)),.l1 (pl.map dT),x]/\pl.length=k/\∀(i:Nat)(d:xt)(ds:List LD),i<k->pl[i]?=some d->ac[i]?=some ds->Av d ds.length=true) ⟨[],.und,rfl,rfl,λi d ds z=>absurd z (WV _)⟩ ?_ ?_
 .rintro k _ hk ⟨pl,x,rfl,l,h⟩;have hk:k<ac.length:=by rw[dl]at hk;lia
  have ek:=aj hk;have kD:ixT (ac.map λds=>L2.T.lst (ds.map ldT)) (k:Nat)=some (.lst (ac[k].map ldT)):=dg ek;have lm:(pl.map dT).length<sizeLine:=by rw[ak];exact aR (show _<1000 by lia) wb
  have s0:=mU c k;refine⟨_,kD,?_⟩;by_cases e:ac[k].length=0
  .refine swT (Zs (by rw[ak];lia)) ⟨lm,pl++[none],.fz (.int (k:Nat)),by rw[bf];rfl,by simp[l],PlD.snoc h l ek (Zs e)⟩
  .have p0:(0:Int)<(ac[k].map ldT).length:=by rw[ak];lia
   refine swF (Zp (by rw[ak];lia)) ⟨_,dU (k:=k) hk,_,kD,p0,lm,?_⟩;have a0:=Z3 (strm c k) (show((ac[k].map ldT).length:Int)≠0 by exact WS p0);have a1:=YY (strm c k) p0;obtain⟨n,en⟩:=Zyx a0;refine⟨pl++[some n],.fz (.int (k:Nat)),?_,by simp[l],PlD.snoc h l ek (Zs ?_)⟩
   .rw[bf];show _=[_,_,_,OT.l1 (pl.map dT++[L2.T.int (n:Nat)]),_];rw[<- en]
    rfl
   .rw[ak]at a1 en;lia
 .rintro _ ⟨pl,x,rfl,l,h⟩;have l:pl.length=ac.length:=by rwa[l]
  exact q pl ⟨l,λk d ds e1 e2=>h k d ds (by rw[dl];have:=(ao.mp e1).1;lia) e1 e2⟩
open Rw (sg gw fH bV fQ gA Big)
def Rz(n d:Nat)(r:Rat):Prop:=r.num.natAbs<=10^n/\r.den<=10^d
def Xx{d:Nat}{b:Int}(hb:0<b)(h1:a.natAbs<=10^n)(h2:b.toNat<=10^d):Rz n d (Rat.divInt a b):=by
 obtain⟨x,y⟩:=div_pos (a:=a) hb;exact⟨aL y h1,aL x h2⟩
def Rz.mul{d n' d':Nat}{a b:Rat}(ha:Rz n d a)(hb:Rz n' d' b):Rz (n+n') (d+d') (a*b):=by
 have e:a*b=Rat.divInt (a.num*b.num) (a.den*b.den):=by rw[<- Qr,rd,rd]
 have p:(0:Int)<(a.den:Int)*b.den:=XZ (by have:=a.den_pos;lia) (by have:=b.den_pos;lia);rw[e];refine Xx p ?_ ?_
 .rw[VZ,VX];exact W1 ha.1 hb.1
 .rw[<- TZ,Int.toNat_natCast,VX];exact W1 ha.2 hb.2
def Rz.add{d n' d':Nat}{a b:Rat}(ha:Rz n d a)(hb:Rz n' d' b)(h1:n+d'<=k)(h2:n'+d<=k):Rz (k+1) (d+d') (a+b):=by
 have e:a+b=Rat.divInt (a.num*b.den+b.num*a.den) (a.den*b.den):=by rw[<- TH _ _ (lD a) (lD b),rd,rd]
 have p:(0:Int)<(a.den:Int)*b.den:=XZ (by have:=a.den_pos;lia) (by have:=b.den_pos;lia);rw[e];refine Xx p ?_ ?_
 .have x:(a.num*b.den).natAbs<=10^k:=by
   rw[VZ,XG];exact aL (W1 ha.1 hb.2) (by rw[<- VX];exact XT wb h1)
  have y:(b.num*a.den).natAbs<=10^k:=by
   rw[VZ,XG];exact aL (W1 hb.1 ha.2) (by rw[<- VX];exact XT wb h2)
  have z:=Int.natAbs_add_le (a.num*b.den) (b.num*a.den);rw[Nat.pow_succ];lia
 .rw[<- TZ,Int.toNat_natCast,VX];exact W1 ha.2 hb.2
def uc{i:Int}(h:i.natAbs<=10^n)(hn:n<=2400):Bd i:=Y3 (aL h (XT wb hn)) (by decide +kernel)
def Rz.bq{d:Nat}(h:Rz n d r)(hn:n<=2400)(hd:d<=2400):Bq r:=⟨uc h.1 hn,uc (by rw[XG];exact h.2) hd⟩
def Rz.dd{d n' d':Nat}{a b:Rat}(ha:Rz n d a)(hb:Rz n' d' b)(h:d+d'<=2400):Bd ((a.den:Int)*b.den):=uc (n:=d+d') (by
 rw[VZ,XG,XG,VX];exact W1 ha.2 hb.2) h
def Rz.mono{d n' d':Nat}{a:Rat}(h:Rz n d a)(h1:n<=n')(h2:d<=d'):Rz n' d' a:=⟨aL h.1 (XT wb h1),aL h.2 (XT wb h2)⟩
def Bu(h1:r<=(A:Rat))(h2 : -(A:Rat)<=r):r.num.natAbs<=A*r.den:=by
 have a:=(Rat.le_iff r (A:Rat)).mp h1;have b:=(Rat.le_iff (-(A:Rat)) r).mp h2;have a:r.num*((1:Nat):Int)<=(A:Int)*(r.den:Int):=a;have b : -(A:Int)*(r.den:Int)<=r.num*((1:Nat):Int):=b;have c:((A*r.den:Nat):Int)=(A:Int)*r.den:=TZ ..;rw[Int.neg_mul]at b;omega
structure OfB(m PN PD CQ:Nat)(o:bM):Prop where
 pn:o.pay.num.natAbs<=PN
 pd:o.pay.den<=PD
 cq:∃q:Nat,0<q/\q<=CQ/\∀w∈o.ways,w.2.den ∣ q
 nd:(o.ways.map (·.1)).Nodup
 few:o.ways.length<=1000
 lt:∀w∈o.ways,w.1<m
 nn:∀w∈o.ways,0<=w.2
 one:Fq o.ways<=1
theorem Df:∀ws:zC,Fq ws=dw ws λ_=>1
 |[]=>rfl
 |w::ws=>by rw[zZ,cY,Df ws,Rat.mul_one]
def OfB.le1{o:bM}(h:OfB m PN PD CQ o){w:Nat×Rat}(hw:w∈o.ways):w.2<=1:=by
 have:=uE h.nn hw;rw[<- Df]at this;exact Ts this h.one
def acE{ac:zS}{off:zi}(hd:DSk m mo ac)(ho:o9 ac off):∀ds∈off,∀o∈ds,OfB m (10^30) 1000 4000 o:=λos ke o hmo=>by
 obtain⟨k,ek⟩:=aV ke;have lk:k<ac.length:=by rw[<- ho.len];exact(ao.mp ek).1
 obtain⟨tl,_,rfl⟩:=ho.at_ k _ os (aj lk) ek;obtain⟨p,hp,rfl⟩:=YV.mp hmo;have lk:=hd.ok _ (aU lk) p.2 (UR hp).2;obtain⟨q,q0,q1,hq⟩:=lk.all;have j:=Sv q0 hq;have f1:=j.few;have f2:=lk.few;exact⟨lk.pay.num,lk.pay.den,⟨q,q0,q1,j.dn⟩,j.nd,by show(wJ p.2.prs).length<=1000;lia,j.lt,j.nn,by
  show Fq (wJ p.2.prs)<=1;rw[Df,j.sum,zW,lk.one];exact VS⟩
open Rw (sg gw fH bV fQ gA Big)
def ahs(nn:∀w∈ws,0<=w.2)(j:Nat):0<=tW ws j/\tW ws j<=Fq ws:=by
 induction ws with
 |nil=>exact⟨VS,VS⟩
 |cons w ws ih =>
  have:=nn w (aO ..);obtain⟨a,b⟩:=ih λx hx=>nn x (aJ _ hx);rw[zZ];show 0<=(if w.1=j then w.2 else 0)+tW ws j/\(if w.1=j then w.2 else 0)+tW ws j<=_;split<;>grind
def ac9{q:Nat}(hq:0<q)(h:∀w∈ws,w.2.den ∣ q)(j:Nat):(tW ws j).den ∣ q:=by
 induction ws with
 |nil=>exact TW _
 |cons w ws ih =>
  refine CT hq ?_ (ih λx hx=>h x (aJ _ hx));split
  .exact h w (aO ..)
  .exact TW _
abbrev qO(c:xF):Nat:=cF 1 ((jg c).map (·.2))
def CoB(m PN PD CQ:Nat)(c:xF):Prop:=∀o,c=some o->OfB m PN PD CQ o
def CoB.sh{c:xF}(h:CoB m PN PD CQ c):ShB s m (jg c):=by
 cases c with
 |none=>exact⟨λ_ z=>(nomatch z),λ_ z=>(nomatch z),by show(0:Rat)<=1;decide⟩
 |some o=>have b:=h o rfl;exact⟨b.lt,b.nn,b.one⟩
def W7(c:xF):0<qO c:=gD _ US
def aie{c:xF}{w:Nat×Rat}(hw:w∈jg c):w.2.den ∣ qO c:=(j6 _).2 _ (YV.mpr ⟨w,hw,rfl⟩)
def CoB.q{m PN PD CQ:Nat}{c:xF}(h:CoB m PN PD CQ c)(h1:1<=CQ):qO c<=CQ:=by
 cases c with
 |none=>exact h1
 |some o =>
  obtain⟨q,q0,q1,hq⟩:=(h o rfl).cq;refine aL (UV q0 (pX _ (TW _) λr hr=>?_)) q1;obtain⟨w,hw,rfl⟩:=YV.mp hr;exact hq w hw
def CoB.pd{m PN PD CQ:Nat}{c:xF}(h:CoB m PN PD CQ c)(h1:1<=PD):(m5 c).den<=PD:=by
 cases c with
 |none=>exact h1
 |some o=>exact(h o rfl).pd
def CoB.pn{m PN PD CQ:Nat}{c:xF}(h:CoB m PN PD CQ c):(m5 c).num.natAbs<=PN:=by
 cases c with
 |none=>exact aZ _
 |some o=>exact(h o rfl).pn
theorem zm:((1:Nat):Rat)=1:=rfl
def abq{cs:xk}(s0:0<=s)(s1:s<1)(h:CoB m PN PD CQ (cs.getD i none)):(dX s cs i j).den ∣ s.den*qO (cs.getD i none)/\(dX s cs i j).num.natAbs<=1*(dX s cs i j).den:=by
 have sh:=CoB.sh (s:=s) h;obtain⟨a,b⟩:=ahs sh.nn j;have b1:=Ts b sh.one;have c1:s*tW (jg (cs.getD i none)) j<=1:=by
  have:=Tk b1 s0
  grind
 have c0:0<=s*tW (jg (cs.getD i none)) j:=Rat.mul_nonneg s0 a;have sd:=s.den_pos;have qp:=W7 (cs.getD i none);refine⟨?_,Bu ?_ ?_⟩
 .unfold dX;rw[Rat.sub_eq_add_neg];refine CT (UP sd qp) ?_ ?_
  .split<;>exact TW _
  .rw[agB];exact den_mul sd qp (Nat.dvd_refl _) (ac9 qp (λw hw=>aie hw) j)
 .unfold dX;rw[zm];split<;>grind
 .unfold dX;rw[zm];split<;>grind
def aga{cs:xk}(hs:Shr s)(few:cs.length<=100)(h:∀c∈cs,CoB cs.length PN PD CQ c)(h1:1<=PD)(h2:1<=CQ)(hN:N=(PN+1)*(100*CQ*PD))(mb:(2*cs.length*N)^cs.length<=NN)(nn:N<=NN):Sys (Dg (Dl s cs) (cs.map m5)) N:=by
 have gc:∀i,i<cs.length->CoB cs.length PN PD CQ (cs.getD i none):=λi hi=>h _ (by rw[au,aj hi];exact aU hi);have sd:=s.den_pos;have all:∀i,i<cs.length->∀c∈((List.range cs.length).map λj=>dX s cs i j)++[m5 (cs.getD i none)],c.den ∣ s.den*qO (cs.getD i none)*(m5 (cs.getD i none)).den/\c.num.natAbs<=(PN+1)*c.den:=λi hi c hc=>by
  rcases Y1.mp hc with z|z
  .obtain⟨j,_,rfl⟩:=YV.mp z;obtain⟨a,b⟩:=abq (j:=j) hs.lo hs.hi (gc i hi);exact⟨Q3 a (Nat.dvd_mul_right _ _),aL b (Nat.mul_le_mul_right _ (Nat.le_add_left _ _))⟩
  .rw[YR.mp z];refine⟨Nat.dvd_mul_left _ _,?_⟩;have:=(gc i hi).pn;have:=(m5 (cs.getD i none)).den_pos;exact aL (show _<=(PN+1)*1 by lia) (UK _ this)
 have qp:∀i,i<cs.length->0<s.den*qO (cs.getD i none)*(m5 (cs.getD i none)).den/\s.den*qO (cs.getD i none)*(m5 (cs.getD i none)).den<=100*CQ*PD:=λi hi =>
  ⟨UP (UP sd (W7 _)) (Rat.den_pos _),W1 (W1 hs.den ((gc i hi).q h2)) ((gc i hi).pd h1)⟩
 refine⟨λr hr=>?_,by rw[DW];exact few,λr hr=>?_,λr hr c hm=>?_,?_,by rw[DW];exact mb,nn,?_⟩
 .obtain⟨i,hi,rfl⟩:=Qp hr;rw[DW,aA,ak,WP];rfl
 .obtain⟨i,hi,rfl⟩:=Qp hr;obtain⟨a,b⟩:=qp i hi;exact(Yz (Nat.le_add_left _ _) a (all i hi)).le (by rw[hN];exact UK _ b)
 .obtain⟨i,hi,rfl⟩:=Qp hr;obtain⟨a,b⟩:=all i hi c hm;obtain⟨p,q⟩:=qp i hi;exact bdN (aL b (aL (UK _ (aL (UV p a) q)) (by rwa[<- hN])))
 .rw[hN];exact UP (Th _) (UP (UP wb (aR (X1 _) h2)) (aR (X1 _) h1))
 .rw[DW];exact λx h0 hx=>af3 hs.lo hs.hi (λi hi=>(gc i hi).sh) x h0 hx
def Fd(hs:Shr s):Rz 2 2 s:=by
 have a:=Bu (r:=s) (A:=1) (QR hs.hi) (by have:=hs.lo;rw[zm];grind);have:=hs.den;exact⟨aL a wf,this⟩
def Zi{o:bM}(h:OfB m PN PD CQ o)(hc:CQ<=10^4){w:Nat×Rat}(hw:w∈o.ways):Rz 4 4 w.2:=by
 obtain⟨q,q0,q1,hq⟩:=h.cq;have d:=UV q0 (hq w hw);have a:=Bu (r:=w.2) (A:=1) (h.le1 hw) (by have:=h.nn w hw;rw[zm];grind);exact⟨aL a wf,by lia⟩
def aea{off:zi}(ob:∀ds∈off,∀o∈ds,OfB m PN PD CQ o):∀c∈chO off pl,CoB m PN PD CQ c:=λc hc o eo=>by
 obtain⟨p,hp,rfl⟩:=YV.mp hc;cases e:p.1 with
 |none=>rw[e]at eo;cases eo
 |some d =>
  rw[e]at eo;have eo:(off.getD p.2 [])[d]?=some o:=eo;by_cases l:p.2<off.length
  .rw[au,aj l]at eo;exact ob _ (aU l) o (aC eo)
  .have:off[p.2]?=none:=aM (VT l);rw[au,this]at eo;cases eo
def ajv{off:zi}(hs:Shr s)(few:off.length<=100)(ob:∀ds∈off,∀o∈ds,OfB off.length PN PD CQ o)(h1:1<=PD)(h2:1<=CQ)(hc:CQ<=10^4)(hN:N=(PN+1)*(100*CQ*PD))(mb:(2*off.length*N)^off.length<=NN)(nn:N<=NN)(hp:PlT off pl):WoB s (chO off pl) N:=by
 have cl:=zJ hp;have co:=aea (pl:=pl) ob;have sz:=Fd hs;refine⟨sz.bq wb wb,λc hm=>?_,aga hs (aL (WH cl) few) (by rwa[cl]) h1 h2 hN (by rwa[cl]) nn⟩;rw[cl];cases c with
 |none=>exact⟨.nil,aZ _,λ_ z=>(nomatch z),λ_ z=>(nomatch z)⟩
 |some o =>
  have b:=co _ hm o rfl;refine⟨b.nd,b.few,b.lt,λw hw=>?_⟩;have wz:=Zi b hc hw;exact⟨wz.bq wb wb,sz.dd wz wb,(sz.mul wz).bq wb wb⟩
def Yd(rs:xj)(n M:Nat)(hM:0<M):(∀r∈rs,r.den<=M)->cF n rs<=n*M^rs.length:=by
 induction rs generalizing n with
 |nil=>intro _;show n<=n*1;lia
 |cons r rs ih =>
  intro h;have l1:Nat.lcm n r.den<=n*M:=aL (by unfold Nat.lcm;exact Nat.div_le_self _ _) (UK _ (h r (aO ..)));refine aL (ih (Nat.lcm n r.den) λx hx=>h x (aJ _ hx)) ?_;rw[List.length_cons,Nat.pow_succ,JY (M^rs.length),<- Nat.mul_assoc];exact Nat.mul_le_mul_right _ l1
theorem Zu{α:Type}(g:α->Int)(b:Nat):∀ws:List α,(∀w∈ws,(g w).natAbs<=b)->(ws.map g).sum.natAbs<=ws.length*b
 |[],_=>by simp
 |w::ws,h=>by
  have a:=h w (aO ..);have c:=Zu g b ws λx hx=>h x (aJ _ hx);rw[List.map_cons,List.sum_cons,List.length_cons,Nat.add_mul,Nat.one_mul];have:=Int.natAbs_add_le (g w) (ws.map g).sum;lia
def aib{t b:Nat}{o:bM}{tp:xy}{B:Nat}(hs:Shr s)(h:OfB m PN PD CQ o)(hc:CQ<=10^4)(hn:PN<=10^30)(hp:PD<=10^3)(tl:tp.length=m)(ht:∀x∈tp,x.natAbs<=10^t)(hB:B<=10^b)(lt:t<=2000)(lb:b<=2000):LkB s o tp B/\Bq (mF s tp B o)/\Bd (((mF s tp B o).den:Int)*(B:Nat)):=by
 obtain⟨q,q0,q1,hq⟩:=h.cq;have lq:cF 1 (o.ways.map (·.2))<=10^4:=aL (UV q0 (pX _ (TW _) λr hr=>by
  obtain⟨w,hw,rfl⟩:=YV.mp hr;exact hq w hw)) (aL q1 hc)
 have lp:=gD (o.ways.map (·.2)) US;have sz:=Fd hs;have pz:Rz 30 3 o.pay:=⟨aL h.pn hn,aL h.pd hp⟩;have bz:Rz b 0 (B:Rat):=⟨hB,aG 1⟩;have part:∀w∈o.ways,(w.2.num*((cF 1 (o.ways.map (·.2))/w.2.den:Nat):Int)).natAbs<=10^8:=λw hw=>by
  rw[VZ,XG];exact aL (W1 (Zi h hc hw).1 (aL (Nat.div_le_self _ _) lq)) wb
 have top:∀k,(tp.getD k 0).natAbs<=10^t:=λk=>by
  rw[au];cases e:tp[k]? with
  |none=>exact aZ _
  |some x=>exact ht x (aC e)
 have dz:Rz (t+11) 4 (Hy o.ways tp):=by
  rw[<- Q7 lp tp o.ways λw hw=>(j6 _).2 _ (YV.mpr ⟨w,hw,rfl⟩)];refine Xx wf ?_ (by rwa[Int.toNat_natCast]);refine aL (Zu _ (10^8*10^t) o.ways λw hw=>?_) ?_
  .rw[VZ];exact W1 (part w hw) (top w.1)
  .refine aL (Nat.mul_le_mul_right _ h.few) ?_;rw[show(1000:Nat)=10^3 from rfl,<- Nat.mul_assoc,<- VX,<- VX];exact XT wb wf
 have p1:=pz.mul bz;have p2:=sz.mul dz;have pp:=p1.add p2 (k:=2100) wf wf;refine⟨⟨⟨h.few,λw hw=>by rw[tl];exact h.lt w hw,λw hw=>((Zi h hc hw).bq wb wb).1,uc (n:=4) (by rwa[XG]) wb,λx hx=>?_,λx hx=>uc (ht x hx) (aL lt wb)⟩,pz.bq wb wb,sz.bq wb wb,uc (n:=b) (by rwa[XG]) (aL lb wb),dz.bq wf wb,sz.dd dz wb,p1.bq wf wb,p2.bq wf wb,p1.dd p2 wb⟩,pp.bq wb wb,uc (n:=9+b) (by rw[VZ,XG,XG,VX];exact W1 pp.2 hB) wf⟩;unfold tops at hx;rw[WJ]at hx;obtain⟨w,hw,rfl⟩:=YV.mp hx;exact uc (n:=8) (part w hw) wb
theorem acu{c:Nat}(hc:1<=c):∀{off:zi},(∀ds∈off,ds.length<=c)->(uf off).length<=c^off.length
 |[],_=>aG 1
 |ds::off,h=>by
  have ih:=acu hc (off:=off) λx hx=>h x (aJ _ hx);have l:∀(as:ze),((as.map λd=>(uf off).map λpl=>d::pl).flatten).length=as.length*(uf off).length:=λas=>by
   induction as with
   |nil=>simp
   |cons a as ih=>rw[List.map_cons,List.flatten_cons,aA,ak,ih,List.length_cons,Nat.add_mul,Nat.one_mul,Nat.add_comm]
  unfold uf;rw[l,List.length_cons,Nat.pow_succ,JY];refine W1 ih ?_;split
  .exact hc
  .rw[ak,WP];exact h ds (aO ..)
def ait{off:zi}{e:Nat}(hs:Shr s)(few:off.length<=100)(ob:∀ds∈off,∀o∈ds,OfB off.length PN PD CQ o)(h1:1<=PD)(h2:1<=CQ)(hc:CQ<=10^4)(hn:PN<=10^30)(hp:PD<=10^3)(hN:N=(PN+1)*(100*CQ*PD))(mb:(2*off.length*N)^off.length<=10^e)(he:e<=600)(nn:N<=NN)(le:e+e*off.length<=2000)(pls:(uf off).length<sizeLine):MnB s off N:=by
 have mn:(2*off.length*N)^off.length<=NN:=aL mb (XT wb he);refine⟨hs.lo,hs.hi,few,λds eT o ho=>let b:=ob ds eT o ho;⟨b.lt,b.nn,b.one⟩,λpl hpl=>ajv hs few ob h1 h2 hc hN mn nn hpl,λys yl yb=>?_,pls⟩;have yn:∀r∈ys,r.num.natAbs<=10^e:=λr hr=>aL (yb r hr).n mb;have yd:∀r∈ys,r.den<=10^e:=λr hr=>aL (yb r hr).d mb;have lc:cF 1 ys<=10^(e*off.length):=by
  have:=Yd ys 1 (10^e) (Nat.pow_pos wb) yd;rw[Nat.one_mul,yl,<- Nat.pow_mul]at this;exact this
 refine⟨by lia,λr hr=>uc (yn r hr) (aL he wb),uc (n:=e*off.length) (by rwa[XG]) wf,λds eT o ho=>aib (t:=e+e*off.length) (b:=e*off.length) hs (ob ds eT o ho) hc hn hp (by unfold tops;rwa[ak]) (λx hx=>?_) lc (by omega) wf⟩;obtain⟨r,hr,rfl⟩:=YV.mp hx;rw[VZ,XG,VX];exact W1 (yn r hr) (aL (Nat.div_le_self _ _) lc)
def ael(h:m<=6):(2*m*((10^30+1)*(100*4000*1000)))^m<=10^246:=by
 obtain rfl|rfl|rfl|rfl|rfl|rfl|rfl:m=0\/m=1\/m=2\/m=3\/m=4\/m=5\/m=6:=by lia
 all_goals decide +kernel
abbrev pT(a b:Int):T:=.tup [.int a,.int b]
def div_mul{b:Int}(hb:0<b):Rat.divInt a b*(b:Rat)=(a:Rat):=by
 have:(b:Rat)≠0:=λz=>by have:=Rat.intCast_eq_zero_iff.mp z;lia
 rw[Tu]
 grind
def cast_pos{b:Int}(hb:0<b):(0:Rat)<(b:Rat):=Rat.intCast_lt_intCast.mpr hb
def div_eq{b c d:Int}(hb:0<b)(hd:0<d):Rat.divInt a b=Rat.divInt c d↔a*d=c*b:=Q2 (WS hb) (WS hd)
abbrev VV:Nat:=10^32
structure YsB(ys:xj):Prop where
 dn:∀y∈ys,y.den<=10^580
 hi:∀y∈ys,y<=(VV:Rat)
 lo:∀y∈ys,-(VV:Rat)<=y
def YsB.num{ys:xj}(h:YsB ys){y:Rat}(hy:y∈ys):y.num.natAbs<=10^612:=by
 refine aL (Bu (h.hi y hy) (h.lo y hy)) ?_;rw[show 10^612=VV*10^580 by unfold VV;rw[<- VX]];exact UK _ (h.dn y hy)
def YsB.z(h:YsB ys){y:Rat}(hy:y∈ys):Rz 612 580 y:=⟨h.num hy,h.dn y hy⟩
def YsB.get{ys:xj}(h:YsB ys)(k:Nat):Rz 612 580 (ys.getD k 0)/\ys.getD k 0<=(VV:Rat)/\-(VV:Rat)<=ys.getD k 0:=by
 rw[au];cases e:ys[k]? with
 |none=>exact⟨⟨aZ _,Nat.pow_pos wb⟩,by show(0:Rat)<=_;decide +kernel,by show _<=(0:Rat);decide +kernel⟩
 |some y=>have m:=aC e;exact⟨h.z m,h.hi y m,h.lo y m⟩
def aeQ{b:Int}(hb:0<b)(h1:Rat.divInt a b<=(A:Rat))(h2 : -(A:Rat)<=Rat.divInt a b):a.natAbs<=A*b.toNat:=by
 have e:=div_mul (a:=a) hb;have pb:=cast_pos hb;have x:(a:Rat)<=(((A:Int)*b:Int):Rat):=by
  rw[<- e,XV];exact Zzv h1 (QR pb)
 have y:((-((A:Int)*b):Int):Rat)<=(a:Rat):=by
  rw[<- e,Rat.intCast_neg,XV];have:=Zzv h2 (QR pb);rw[Rat.neg_mul]at this;exact this
 have x:=Rat.intCast_le_intCast.mp x;have y:=Rat.intCast_le_intCast.mp y;have c:((A*b.toNat:Nat):Int)=(A:Int)*b:=by rw[TZ,Int.toNat_of_nonneg (XY hb)]
 omega
def HN(s:Rat)(y:Nat->Rat)(d:LD):Rat:=d.pay+s*dw d.prs y
def Rb{C:Rat}(hC:0<=C)(nn:∀w∈ws,0<=w.2)(one:(dw ws λ_=>1)<=1)(hi:∀k,y k<=C)(lo:∀k,-C<=y k):dw ws y<=C/\-C<=dw ws y:=by
 have a:=Y6 (M:=C) (x:=y) (ws:=ws) λw hw=>⟨nn w hw,hi w.1⟩;have b:=Y6 (M:=C) (x:=λk=>-(y k)) (ws:=ws) λw hw=>⟨nn w hw,by have:=lo w.1;grind⟩;rw[Q0]at b;rw[<- Df]at one;have c:Fq ws*C<=1*C:=Zzv one hC;constructor<;>grind
def ajw{as bs:zC}(nn:∀w∈as++bs,0<=w.2)(one:(dw (as++bs) λ_=>1)<=1):(dw as λ_=>1)<=1:=by
 rw[Li]at one;have:0<=dw bs λ_=>1:=by
  clear one
  induction bs with
  |nil=>exact VS
  |cons w ws ih =>
   rw[cY];have:=ih λx hx=>nn x (by rcases Y1.mp hx with z|z;exact UH _ z;exact aP _ (aJ _ z));have:=nn w (aP _ (aO ..))
   grind
 grind
def Il{ac:zS}{off:zi}(ho:o9 ac off)(h:PlD ac pl):PlT off pl:=by
 refine⟨by rw[h.len,ho.len],λk d os e1 e2=>?_⟩;have lk:k<ac.length:=by rw[<- ho.len];exact(ao.mp e2).1
 have ek:=aj lk;obtain⟨tl,gv,rfl⟩:=ho.at_ k _ os ek e2;have:=h.ok k d _ e1 ek;rw[ak,VU,gv,UU];exact this
open Rw (sg gw fH bV fQ gA Big sz)
def WW(s:Rat)(y:Nat->Rat)(ac:zS)(pl:ze)(k:Nat):Rat:=match(pl.getD k none).bind λd=>(ac.getD k [])[d]? with
 |none=>0
 |some d=>HN s y d
def Iw{d:LD}{t:Str}(h:LDk m d):Ae s y (S7 t d)=HN s y d:=by
 obtain⟨q,q0,_,hq⟩:=h.all;unfold Ae HN;rw[(Sv q0 hq).sum]
def QX{ac:zS}{off:zi}(ho:o9 ac off)(k d:Nat):∃t:Str,(off.getD k [])[d]?=((ac.getD k [])[d]?).map (S7 t):=by
 by_cases hk:k<ac.length
 .have e1:=aj hk;have e2:=aj (show k<off.length by rwa[ho.len]);obtain⟨tl,l,eo⟩:=ho.at_ k _ _ e1 e2;rw[au,au,e1,e2];show ∃t,(off[k]'(by rwa[ho.len]))[d]?=(ac[k][d]?).map (S7 t);rw[eo,aq];by_cases hd:d<ac[k].length
  .refine⟨tl[d]' wf,?_⟩;rw[aj (show d<(tl.zip ac[k]).length by rw[VU];lia),aj hd,List.getElem_zip]
   rfl
  .exact⟨⟨#[]⟩,by rw[aM (show(tl.zip ac[k]).length<=d by rw[VU];lia),aM (show ac[k].length<=d by exact VT hd)];rfl⟩
 .have e1:ac[k]?=none:=aM (VT hk);have e2:off[k]?=none:=aM (by rw[ho.len];exact VT hk);exact⟨⟨#[]⟩,by rw[au,au,e1,e2];rfl⟩
def Qj{ac:zS}{off:zi}(hd:DSk m mo ac)(ho:o9 ac off)(hk:k<pl.length):oK s y ((chO off pl).getD k none)=WW s y ac pl k:=by
 have ek:=aj hk;rw[Ho ek];unfold WW;rw[show pl.getD k none=pl[k]by rw[au,ek];rfl];cases pl[k]with
 |none =>
  show(0:Rat)+s*0=0
  grind
 |some d =>
  obtain⟨t,et⟩:=QX ho k d;show oK s y ((off.getD k [])[d]?)=match(ac.getD k [])[d]? with|none=>0|some d=>HN s y d
  rw[et];cases ed:(ac.getD k [])[d]? with
  |none =>
   show(0:Rat)+s*0=0
   grind
  |some x =>
   have lx:LDk m x:=by
    by_cases c:k<ac.length
    .rw[au,aj c]at ed;exact hd.ok _ (aU c) x (aC ed)
    .have:ac[k]?=none:=aM (VT c);rw[au,this]at ed;cases ed
   exact Iw lx
structure Opt(s:Rat)(m:Nat)(ac:zS)(ys:xj):Prop where
 len:ys.length=m
 le:∀(k:Nat)ds,ac[k]?=some ds->∀d∈ds,HN s (λj=>ys.getD j 0) d<=ys.getD k 0
 no:∀k,k<m->ac.getD k []=[]->ys.getD k 0=0
def Zf{ac:zS}(hd:DSk m mo ac)(h:Opt s m ac ys)(hp:PlD ac pl)(hk:k<m):WW s (λj=>ys.getD j 0) ac pl k<=ys.getD k 0:=by
 have lk:k<ac.length:=by rwa[hd.len]
 have ek:=aj lk;have lp:k<pl.length:=by rwa[hp.len]
 have ep:=aj lp;have ft:=hp.ok k _ _ ep ek;have gd:ac.getD k []=ac[k]:=by rw[au,ek];rfl
 unfold WW;rw[gd,show pl.getD k none=pl[k]by rw[au,ep];rfl];cases e:pl[k]with
 |none =>
  rw[e]at ft;have:ac[k].length=0:=of_decide_eq_true ft;rw[h.no k hk (by rw[gd];exact List.length_eq_zero_iff.mp this)];exact VS
 |some d =>
  rw[e]at ft;have ld:d<ac[k].length:=of_decide_eq_true ft;show(match ac[k][d]? with|none=>0|some d=>HN s _ d)<=_;rw[aj ld];exact h.le k _ ek _ (aU ld)
def Xz{ac:zS}{off:zi}(hd:DSk m mo ac)(ho:o9 ac off){ps:xi}(h:Hr s off M pl ps){p:PWs}(e:ps.getLast?=some p):Opt s m ac p.2:=by
 have mem:p∈ps:=Q4 e;obtain⟨k1,k2,_⟩:=h.told.ok p mem;have ol:off.length=m:=by rw[ho.len,hd.len]
 have lst:=h.last p e;refine⟨by rw[k2.1,ol],λk ds ek x hx=>?_,λk hk e0=>?_⟩
 .have lk:k<ac.length:=(ao.mp ek).1;have lo:k<off.length:=by rwa[ho.len]
  have eo:=aj lo;obtain⟨tl,gv,eos⟩:=ho.at_ k ds _ ek eo;have lp:k<p.1.length:=by rwa[k1.len]
  have ep:=aj lp;have ft:=k1.ok k _ _ ep eo;have ol':off[k].length=ds.length:=by rw[eos,ak,VU];lia
  obtain⟨j,ej⟩:=aV hx;have lj:j<ds.length:=(ao.mp ej).1;have lj':j<off[k].length:=by rwa[ol']
  have eoj:off[k][j]=S7 (tl[j]' wf) x:=by
   have:(off[k])[j]?=some (S7 (tl[j]' wf) x):=by
    rw[eos,aq,aj (show j<(tl.zip ds).length by rw[VU];lia),List.getElem_zip];rw[aj lj]at ej;cases ej
    rfl
   rw[aj lj']at this;exact Option.some.inj this
  have lx:=hd.ok ds (aC ek) x hx;have yk:=k2.2 k lo;rw[Ho ep]at yk;cases ed:p.1[k]with
  |none =>
   rw[ed]at ft;have:off[k].length=0:=of_decide_eq_true ft;lia
  |some c =>
   rw[ed]at ep yk;have lc:c<off[k].length:=by rw[ed]at ft;exact of_decide_eq_true ft
   obtain⟨b,eb,bet⟩:=lst.some k c _ ep eo;rw[ep]at eb;cases eb;have fA:mF s (tops (cF 1 p.2) p.2) (cF 1 p.2) off[k][j]<=mF s (tops (cF 1 p.2) p.2) (cF 1 p.2) off[k][c]:=by
    rcases bet with⟨le,_⟩|⟨lt,_⟩
    .have:=le _ (YV.mpr ⟨_,aU lj',rfl⟩);rw[au,aq,aj lc]at this;exact this
    .exact absurd lt (by grind)
   rw[DG,DG]at fA;have hB:=gD p.2 US;have pp:(0:Rat)<((cF 1 p.2:Nat):Rat):=by
    have:((0:Int):Rat)<(((cF 1 p.2:Nat):Int):Rat):=Rat.intCast_lt_intCast.mpr wf;exact this
   have fA:=Rat.not_lt.mp λlt=>absurd fA (Rat.not_le.mpr ((Rat.mul_lt_mul_right pp).mpr lt));rw[eoj,Iw lx]at fA;have yk:p.2.getD k 0=oK s (λk=>p.2.getD k 0) ((off.getD k [])[c]?):=yk;rw[au (l:=off),eo]at yk;have yk:p.2.getD k 0=oK s (λk=>p.2.getD k 0) (off[k][c]?):=yk;rw[aj lc]at yk;rwa[yk]
 .have lo:k<off.length:=by rwa[ol]
  have lp:k<p.1.length:=by rwa[k1.len]
  rw[k2.2 k lo,Qj hd ho lp];unfold WW;rw[e0];cases p.1.getD k none<;>rfl
def V4{ac:zS}{off:zi}(s0:0<=s)(s1:s<1)(sh:∀ds∈off,∀o∈ds,ShB s off.length o.ways)(hd:DSk m mo ac)(ho:o9 ac off)(hp:PlD ac pl)(hz:nG s off pl zs)(h:Opt s m ac ys):∀k,k<m->zs.getD k 0<=ys.getD k 0:=λk hk=>by
 have ol:off.length=m:=by rw[ho.len,hd.len]
 have pt:=Il ho hp;have:=sub_le (m:=off.length) (ws:=λi=>jg ((chO off pl).getD i none)) s0 s1 (zQ sh pt) (x:=λj=>zs.getD j 0-ys.getD j 0) (λi hi=>by
  have a:=hz.2 i hi;have b:=Zf hd h hp (k:=i) (aR hi (WH ol));rw[<- Qj hd ho (by rwa[pt.len])]at b;unfold oK at a b;rw[Gm];show zs.getD i 0-ys.getD i 0<=_
  grind) k wf
 grind
open Rw (sg gw fH bV fQ gA Big vr)
def Shr.left(h:Shr s):(1:Rat)<=(1-s)*100:=by
 have e:=(one_sub (a:=s.num) (b:=(s.den:Nat)) (lD s));rw[rd]at e;have h1:=(Rat.lt_iff s 1).mp h.hi;have h1:s.num*((1:Nat):Int)<1*(s.den:Int):=h1;have hd:=h.den;have dp:=s.den_pos;have m:=div_mul (a:=(s.den:Int)-s.num) (b:=(s.den:Nat)) wf;rw[<- e]at m;have a:((1:Int):Rat)<=(((s.den:Int)-s.num:Int):Rat):=Rat.intCast_le_intCast.mpr wf;have b:(((s.den:Nat):Int):Rat)<=((100:Int):Rat):=Rat.intCast_le_intCast.mpr wf;have p:(0:Rat)<=1-s:=by have:=h.hi;grind
 have c:=Tk b p;have i1:((1:Int):Rat)=1:=rfl;have i2:((100:Int):Rat)=100:=rfl;rw[m]at c;rw[i1]at a;rw[i2]at c;exact Ts a c
def acJ(h:r.num.natAbs<=A):r<=(A:Rat)/\-(A:Rat)<=r:=by
 have dp:=r.den_pos;constructor
 .refine(Rat.le_iff r (A:Rat)).mpr ?_;show r.num*((1:Nat):Int)<=(A:Int)*(r.den:Int);have:(A:Int)*1<=(A:Int)*(r.den:Int):=Int.mul_le_mul_of_nonneg_left wf (Wp _);omega
 .refine(Rat.le_iff (-(A:Rat)) r).mpr ?_;show -(A:Int)*(r.den:Int)<=r.num*((1:Nat):Int);have:(A:Int)*1<=(A:Int)*(r.den:Int):=Int.mul_le_mul_of_nonneg_left wf (Wp _);rw[Int.neg_mul];omega
def ZV{c:Nat->xF}(hs:Shr s)(hc:∀i,i<m->CoB m PN PD CQ (c i))(hn:PN<=10^30)(hy:∀i,i<m->y i=oK s y (c i)):∀i,i<m->y i<=(VV:Rat)/\-(VV:Rat)<=y i:=λi hi=>by
 have vp:(0:Rat)<=(VV:Rat):=by decide +kernel
 have cst:∀(C:Rat)(ws:zC),dw ws (λ_=>C)=C*Fq ws:=λC ws=>by
  induction ws with
  |nil=>show(0:Rat)=C*0;grind
  |cons w ws ih=>rw[cY,zZ,ih];grind
 have l:=hs.left;have v:(VV:Rat)=100*((10^30:Nat):Rat):=by decide +kernel
 have pp:(0:Rat)<=((10^30:Nat):Rat):=by decide +kernel
 have d:=Zzv l pp;have ce:∀k,k<m->(m5 (c k)<=((10^30:Nat):Rat)/\-((10^30:Nat):Rat)<=m5 (c k))/\s*((VV:Rat)*Fq (jg (c k)))<=s*(VV:Rat):=λk hk=>by
  refine⟨acJ (aL (hc k hk).pn hn),?_⟩;have one:=(CoB.sh (s:=s) (hc k hk)).one;have:=Tk one vp;have:=Tk this hs.lo
  grind
 constructor
 .have:=sub_le (m:=m) (ws:=λi=>jg (c i)) hs.lo hs.hi (λi hi=>(hc i hi).sh) (x:=λj=>y j-(VV:Rat)) (λk hk=>by
   rw[Gm,cst];have e:=hy k hk;unfold oK at e;obtain⟨⟨a,b⟩,g⟩:=ce k hk;show y k-(VV:Rat)<=_
   grind) i hi
  grind
 .have:=sub_le (m:=m) (ws:=λi=>jg (c i)) hs.lo hs.hi (λi hi=>(hc i hi).sh) (x:=λj=>-(y j)-(VV:Rat)) (λk hk=>by
   rw[Gm (λj=>-(y j)),cst,Q0];have e:=hy k hk;unfold oK at e;obtain⟨⟨a,b⟩,g⟩:=ce k hk;show -(y k)-(VV:Rat)<=_
   grind) i hi
  grind
def amm(xs:List α):(gU xs (some 1) none).length=xs.length-1:=by
 show(gU xs (some ((1:Nat):Int)) none).length=_;unfold gU;rw[HT.zV,HT.Uz,aY,U1];lia
def aiI(xs:List α):(gU xs none (some (-1))).length=xs.length-1:=by
 unfold gU;rw[HT.Uz,aY,U1];show min ((if(-1:Int)<0 then(-1+(xs.length:Int)).toNat else min (-1:Int).toNat xs.length)-0) (xs.length-0)=_;rw[ZY wb];lia
def alP{off:zi}(hp:PlT off pl){u:L2.T}{es:wq}(e1:(pl.map dT)[j]?=some u)(e2:off[j]?=some es):Ky u es.length=some true:=by
 rw[aq]at e1;cases e:pl[j]? with
 |none=>rw[e]at e1;cases e1
 |some d =>
  rw[e]at e1;cases e1;cases d with
  |none =>
   have:=of_decide_eq_true (hp.ok j none es e e2);show Ky .non es.length=_;rw[this];rfl
  |some k =>
   have:=of_decide_eq_true (hp.ok j (some k) es e e2);show Ky (.int (k:Nat)) es.length=_;unfold Ky;rw[ZZ wf];refine ZH some ?_;rw[Zs (Wp _),Zs wf];rfl
def adf(c:Int)(h:0<m):∃k:Nat,k<m/\c%(m:Nat)=(k:Nat):=by
 have a:=Z3 c (show((m:Nat):Int)≠0 by omega);have b:=YY c (show(0:Int)<(m:Nat)by lia);exact⟨(c%(m:Nat)).toNat,by lia,by lia⟩
def Pg:ST:=λts q=>∃(c:Int)(pl:ze)(ac:zS)(m mo:Nat)(off:zi),ts=[.int c,.lst (pl.map dT),Ly ac]/\DSk m mo ac/\m<=100/\mo<=100/\off.map List.length=ac.map List.length/\PlT off pl/\∀v w,PlX off v w->q (.fz (.tup [w,v]))
def aaQ(T:Tx D):gT 2 Gx tZ Pg:=ya T.ac7 λ{f fd}F=>by
 refine F.okT aap (λhr _=>bF (bN 3 (bI (abb T) (bx wr (bx bA bC))))
  (bF (cC (QW.qt (jD (bY (go_eq hr.units) (bL cA (bJ wa bA) bA) bA) (ig (bY (go_eq hr.units) (bR cJ T.dJ WG (bx we bC)) bA))))
  (bF (bN 7 (dh (bx fJ (bx (lF adi T.Q8 boot_tuple (bx wn bC)) (bx (bL cL wn (dh (bx fJ bC))) (bx (bL cL wn (dh (bx bA bC))) (bx m9 (bx bA (bx j5 bC)))))))))
  (bF (cC (bY JR (bR cJ T.dJ WG (bx wn bC)) bA)
  (bH (bN 7 (bL cL (qv 7) (dh (bx (kJ wn (iy bA) Du) (bx (kJ wn Du (iy (vm bA))) (bx (dh bC) bC)))))))
  bT)
  (bH (bO (cN (bx fJ (bx (bJ (qv 7) (bL cA (bJ wa bA) (bR cJ T.dJ WG (bx (qv 7) bC)))) bC)))))))
  bT)
  (bF (bN 4 (bL cA (bJ wa bA) (bR cJ T.dJ WG (bx we bC))))
  (bF (bN 5 (bL cL (bL cL wP bA) (bL cA (bJ wa bA) (bR cJ T.dJ WG (bx we bC)))))
  (bF (gQ 6 (lF z8 T.vP boot_list (bx wn bC)))
  (bF (yu 6 (bI (aiU T) (bx (bJ wa bA) (bx (bR cJ T.dJ WG (bx (bJ we wP) bC)) bC))) wP)
  (bF (cC (bY v7 wE (bR cJ T.dJ WG (bx we bC)))
  (bH (yu 6 (bI (aiU T) (bx (bJ wa bA) (bx (bR cJ T.dJ WG (bx (bJ we wE) bC)) bC))) wE))
  bT)
  (bH (Gy 6 (bO (cN (bx wP (bx (qv 6) bC))))))))))))) ?_
 rintro _ R ⟨c,pl,ac,m,mo,off,rfl,hd,m1,mo1,eo,hp,q⟩;have ol:off.length=m:=by rw[<- hd.len,<- ak (f:=List.length),eo,ak]
 have pm:(pl.map dT).length=off.length:=by rw[ak,hp.len]
 have dl:(ac.map λds=>L2.T.lst (ds.map ldT)).length=m:=by rw[ak,hd.len]
 have fd:=λ(j:Nat)(u:L2.T)(es:wq)=>alP hp (j:=j) (u:=u) (es:=es);generalize pl.map dT=us at pm fd ⊢;have sz1:us.length+1<=sizeLine:=aL (show us.length+1<=101 by lia) wb;refine⟨c,5,rfl,by decide,_,dU (k:=0),by decide,swD (λ_=>?a) λh3=>swD (λ_=>?b) λh0=>?c⟩
 case c =>
  have m0:0<m:=by rw[dl]at h0;lia
  obtain⟨k,k1,k2⟩:=adf (strm c 1) m0;obtain⟨l,l1,l2⟩:=adf (strm c 2) m0;have k3:strm c 1%(((ac.map λds=>L2.T.lst (ds.map ldT)).length:Nat):Int)=(k:Nat):=by rwa[dl]
  have l3:strm c 2%(((ac.map λds=>L2.T.lst (ds.map ldT)).length:Nat):Int)=(l:Nat):=by rw[dl];exact l2
  refine⟨_,dU (k:=1),by rw[dl];lia,?_⟩;rw[k3];refine⟨_,dU (k:=2),by rw[dl];lia,?_⟩;rw[l3];have ed:∀k,k<m->ac[k]?=some (ac.getD k []):=λk hk=>by rw[au,aj (by rwa[hd.len])];rfl
  have few:∀k,k<m->(ac.getD k []).length<=100:=λk hk=>aL (hd.few _ (aC (ed k hk))) mo1;have two:∀{a:Int}{k:Nat},[L2.T.int a,L2.T.int ((((ac.getD k []).map ldT).length:Nat):Int)]=[L2.T.int a,L2.T.int (((ac.getD k []).length:Nat):Int)]:=by intro a k;rw[ak]
  have eok:off[k]?=some off[k]:=aj wf;have lk:(off[k]).length=(ac.getD k []).length:=by
   have:=ZH (·[k]?) eo;simp only[aq,eok,ed k k1]at this;exact Option.some.inj this
  have aE:∀vs:List L2.T,vs.length=off.length->(∀j,j<k->vs[j]?=us[j]?)->(∀t,Ky t (ac.getD k []).length=some false->vs[k]?=some t->R (.fz (.tup [.int (k:Nat),.lst vs]))):=λvs vl vj t ht vk =>
   q _ _ (.at vl (λj u es hj e1 e2=>fd j u es (by rw[<- vj j hj];exact e1) e2) vk eok (by rwa[lk]))
  refine⟨_,dU (k:=3),.lst ((ac.getD k []).map ldT),dg (h:=λds=>L2.T.lst (ds.map ldT)) (ed k k1),strm c 3,(ac.getD k []).length,two,few k k1,λt ht=>⟨k,uX wf,?_⟩⟩;have kl:(k:Int)+1+(l:Int)=((k+1+l:Nat):Int):=by lia
  rw[kl];refine swD (λh=>?_) λh=>?_
  .have h':k+1+l<m:=by rw[dl]at h;lia
   refine⟨_,dU (k:=4),.lst ((ac.getD (k+1+l) []).map ldT),dg (h:=λds=>L2.T.lst (ds.map ldT)) (ed _ h'),strm c 4,(ac.getD (k+1+l) []).length,two,few _ h',λt' ht'=>⟨k+1+l,uX (by rw[VY];lia),?_⟩⟩;refine aE _ (by rw[VY,VY,pm]) (λj hj=>?_) t ht ?_
   .rw[VQ wf,VQ (UY hj)]
   .rw[VQ wf,UT wf];rfl
  .refine aE _ (by rw[VY,pm]) (λj hj=>?_) t ht ?_
   .rw[VQ (UY hj)]
   .rw[UT wf];rfl
 all_goals
  refine⟨sz1,sz1,swD (λhl=>⟨(show 10<=sizeLine by decide),?_⟩) λhl=>?_⟩
  .obtain⟨t,ht,e⟩:=Iu [L2.T.non,.tup us,.lst (us++[.non]),.lst (us++[.int 0]),.str "plan",.int 0,.bl true,.lst (gU us (some 1) none),.lst (gU us none (some (-1))),.lst []] (strm c 1) (m:=10) rfl wb;refine⟨_,dU (k:=1),(show(0:Int)<((10:Nat):Int)by decide),t,e,q t .non ?_⟩
   revert t
   simp only[YU,Up,or_false];rintro t (rfl|rfl|rfl|rfl|rfl|rfl|rfl|rfl|rfl|rfl) _<;>first|exact .kind rfl|(refine .len ?_;first|rw[aA,pm];simp|rw[amm];lia|rw[aiI];lia|exact λ(z:0=off.length)=>by lia)
  .obtain⟨t,ht,e⟩:=Iu [L2.T.non,.tup us,.lst (us++[.non]),.lst (us++[.int 0]),.str "plan",.int 0,.bl true] (strm c 1) (m:=7) rfl wb;refine⟨_,dU (k:=1),(show(0:Int)<((7:Nat):Int)by decide),t,e,q t .non ?_⟩
   revert t
   simp only[YU,Up,or_false];rintro t (rfl|rfl|rfl|rfl|rfl|rfl|rfl) _<;>first|exact .kind rfl|(refine .len ?_;rw[aA,pm];simp)
def CP(D:Adr):ST:=λts q=>∃(s:Rat)(ns:Φ)(off:zi)(c:Int)(pl:ze)(ac:zS)(m mo:Nat),ts=[hlT D s ns off,.int c,.lst (pl.map dT),Ly ac]/\Ad ns off/\DSk m mo ac/\m<=100/\mo<=100/\off.map List.length=ac.map List.length/\PlT off pl/\q (.fz (.bl true))
def R8(T:Tx D):gT 14 vD lQ (CP D):=ya T.Vg λF=>by
 refine F.okT R6 (λhr _=>bF (Gh (bI (aaQ T) (bx wn (bx we (bx wa bC)))) (fj (n:=2) (bQ (bW (n:=99) 4) (bQ (bW (n:=99) 5) dB))))
  (bF (Gh (bI (W4 T) (bx wr (bx wE bC))) (fj (n:=2) (bQ (bW (n:=99) 6) (bQ (bW (n:=99) 7) dB))))
  (bH (bO (Ca (qK (go_eq hr.units) (qv 6) m9) (Ca (abp (pU .bool (qv 7) T.d_ T.W8 boot_bool)) (Gr (qK (go_eq hr.units) (qv 7) wP)))))))) ?_
 rintro _ R ⟨s,ns,off,c,pl,ac,m,mo,rfl,h,hd,m1,mo1,eo,hp,q⟩;refine⟨c,pl,ac,m,mo,off,rfl,hd,m1,mo1,eo,hp,λv w hx=>⟨rfl,s,ns,off,v,w,rfl,h,hx,rfl,?_⟩⟩;cases hx with
 |kind e=>exact q
 |len e=>exact q
 |@«at» us k t ds l hf et eo ef =>
  have e:decide (((k:Nat):Int)=(k:Nat))=true:=Zs rfl;rw[<- e]at q;exact q
open Rw (sg gw fH bV fQ gA I8 Big)
def Qh(f:Nat->Nat->Rat)(m:Nat):wv:=(List.range m).map λi=>(List.range m).map λj=>f i j
def E_(f:Nat->Nat->Rat)(m:Nat):(Qh f m).length=m:=by unfold Qh;rw[ak,WP]
def aen{f:Nat->Nat->Rat} : ∀r∈Qh f m,r.length=m:=λr hr=>by
 obtain⟨i,_,rfl⟩:=YV.mp hr;rw[ak,WP]
abbrev Wr(f:Nat->Nat->Rat)(b:Nat->Rat)(m:Nat):wv:=Dg (Qh f m) ((List.range m).map b)
def zu(f:Nat->Nat->Rat)(b:Nat->Rat)(m:Nat):(Wr f b m).length=m:=by rw[TK,E_,ak,WP,UU]
def Py{f:Nat->Nat->Rat}(h:i<m):(Wr f b m)[i]?=some (((List.range m).map λj=>f i j)++[b i]):=by
 unfold Wr Qh;rw[Zzx,aq,VW h,aq,VW h]
 rfl
def Jr{f:Nat->Nat->Rat}{r:xj}(hr:r∈Wr f b m):∃i,i<m/\r=((List.range m).map λj=>f i j)++[b i]:=by
 obtain⟨i,e⟩:=aV hr;have hi:i<m:=by have:=(ao.mp e).1;rw[zu]at this;exact this
 rw[Py hi]at e;exact⟨i,hi,(Option.some.inj e).symm⟩
def RK{f:Nat->Nat->Rat}(y:Nat->Rat):sg (λj=>(((List.range m).map λj=>f i j)++[b i]).getD j 0*y j) m=sg (λj=>f i j*y j) m/\(((List.range m).map λj=>f i j)++[b i]).getD m 0=b i:=by
 have l:((List.range m).map λj=>f i j).length=m:=by rw[ak,WP]
 refine⟨bV λj hj=>?_,?_⟩
 .rw[au,aF (by rwa[l]),aq,VW hj];rfl
 .rw[au,aD (by rw[l];exact aG _),l,Nat.sub_self];rfl
def anK{f:Nat->Nat->Rat}(h:∀r∈Wr f b m,sg (λj=>r.getD j 0*y j) m=r.getD m 0):∀i,i<m->sg (λj=>f i j*y j) m=b i:=λi hi=>by
 have:=h _ (aC (Py hi));rw[(RK y).1,(RK y).2]at this;exact this
def akP{f:Nat->Nat->Rat}{Q:Nat}{q:Nat->Nat}(few:m<=100)(hA:1<=A)(q0:∀i,i<m->0<q i/\q i<=Q)(hc:∀i j,i<m->j<m->(f i j).den ∣ q i/\(f i j).num.natAbs<=A*(f i j).den)(hb:∀i,i<m->(b i).den ∣ q i/\(b i).num.natAbs<=A*(b i).den)(hQ:1<=Q)(mb:(2*m*(A*Q))^m<=NN)(nn:A*Q<=NN)(inj:∀x:Nat->Rat,(∀i,i<m->sg (λj=>f i j*x j) m=0)->∀j,j<m->x j=0):Sys (Wr f b m) (A*Q):=by
 have all:∀i,i<m->∀c∈((List.range m).map λj=>f i j)++[b i],c.den ∣ q i/\c.num.natAbs<=A*c.den:=λi hi c de=>by
  rcases Y1.mp de with z|z
  .obtain⟨j,hj,rfl⟩:=YV.mp z;exact hc i j hi (List.mem_range.mp hj)
  .rw[YR.mp z];exact hb i hi
 refine⟨λr hr=>?_,by rw[zu];exact few,λr hr=>?_,λr hr c hm=>?_,UP hA hQ,by rw[zu];exact mb,nn,?_⟩
 .obtain⟨i,hi,rfl⟩:=Jr hr;rw[zu,aA,ak,WP];rfl
 .obtain⟨i,hi,rfl⟩:=Jr hr;exact(Yz hA (q0 i hi).1 (all i hi)).le (UK _ (q0 i hi).2)
 .obtain⟨i,hi,rfl⟩:=Jr hr;obtain⟨a,c⟩:=all i hi c hm;exact bdN (aL c (aL (UK _ (aL (UV (q0 i hi).1 a) (q0 i hi).2)) nn))
 .rw[zu];intro x h0 hx;refine inj x λi hi=>?_;have:=hx _ (aC (Py hi));have e:sg (λj=>(((List.range m).map λj=>f i j)++[b i]).getD j 0*x j) (m+1)=sg (λj=>(((List.range m).map λj=>f i j)++[b i]).getD j 0*x j) m+_*x m:=rfl;rw[e,h0 _ (aG _),Rat.mul_zero,Rat.add_zero,(RK x).1]at this;exact this
theorem ag3{f:Nat->Rat} : ∀{n:Nat},(∀i,i<n->0<=f i)->0<=sg f n/\(sg f n=0->∀i,i<n->f i=0)
 |0,_=>⟨VS,λ_ i z=>absurd z (WV _)⟩
 |n+1,h=>by
  obtain⟨a,b⟩:=ag3 (f:=f) (n:=n) λi hi=>h i (WU _ hi);have c:=h n (X1 _);show 0<=sg f n+f n/\(sg f n+f n=0->_);refine⟨by grind,λe i hi=>?_⟩;have e1:sg f n=0:=by grind
  have e2:f n=0:=by grind
  by_cases z:i=n
  .rw[z];exact e2
  .exact b e1 i (XX (UZ hi) z)
def aez(f:Nat->Nat->Rat)(x y:Nat->Rat)(m:Nat):sg (λj=>y j*sg (λi=>f i j*x i) m) m=sg (λi=>x i*sg (λj=>f i j*y j) m) m:=by
 rw[bV (g:=λj=>sg (λi=>y j*(f i j*x i)) m) λj _=>(fH _ _ _).symm,bV (f:=λi=>x i*sg (λj=>f i j*y j) m) (g:=λi=>sg (λj=>x i*(f i j*y j)) m) λi _=>(fH _ _ _).symm,I8 (λj i=>y j*(f i j*x i))];exact bV λi _=>bV λj _=>by grind
theorem abI{cs:xk}(s0:0<=s)(s1:s<1)(h:∀i,i<cs.length->ShB s cs.length (jg (cs.getD i none)))(x:Nat->Rat)(hx:∀j,j<cs.length->sg (λi=>dX s cs i j*x i) cs.length=0):∀i,i<cs.length->x i=0:=by
 have e:=aez (dX s cs) x (λj=>if 0<=x j then 1 else -1) cs.length;rw[bV (g:=λ_=>0) λj hj=>by rw[hx j hj,Rat.mul_zero],fQ]at e;have t:∀i,i<cs.length->0<=x i*sg (λj=>dX s cs i j*(if 0<=x j then 1 else -1)) cs.length/\(x i*sg (λj=>dX s cs i j*(if 0<=x j then 1 else -1)) cs.length=0->x i=0):=λi hi=>by
  have b:=h i hi;rw[Kd hi b.lt];obtain⟨b1,b2⟩:=Rb (y:=λj=>if 0<=x j then(1:Rat)else -1) (C:=1) wb b.nn (by rw[<- Df];exact b.one) (λk=>by split<;>decide) λk=>by split<;>decide
  generalize dw (jg (cs.getD i none)) (λj=>if 0<=x j then(1:Rat)else -1)=q at *;have k1:=Tk b1 s0;have k2:=Tk b2 s0;by_cases z:0<=x i
  .rw[ZY z];have m:0<1-s*q:=by grind
   refine⟨Rat.mul_nonneg z (by grind),λe=>?_⟩;rcases Rat.mul_eq_zero.mp e with e|e
   .exact e
   .grind
  .rw[ZZ z];have m:0<1+s*q:=by grind
   have dn:0 <= -(x i):=by grind
   have g:=Rat.mul_nonneg dn (show 0<=1+s*q by grind);refine⟨by grind,λe=>?_⟩;rcases Rat.mul_eq_zero.mp e with e|e
   .exact e
   .grind
 exact λi hi=>(t i hi).2 ((ag3 λj hj=>(t j hj).1).2 e.symm i hi)
open Rw (sg gw fH bV fQ gA Big)
def N6:ST:=λts q=>∃(f:Nat->Nat->Rat)(m:Nat),ts=[.lst ((rowsOf f m).map .lst)]/\m<=100/\q (.l1 ((Qh (λj i=>f i j) m).map wM))
def aaH(T:Tx D):gT 1 Gp ux N6:=ya T.abw λ{f fd}F=>by
 refine F.okT aar (λ_ _=>bH (bO (YG (bG wL) xG xG "column" (dZ T.fM (bx (bR cJ T.dJ WG (bx wr bC)) bC)) abD cD (TJ (bG wL) ("column"::xG) ("column"::xG) ["row"] (cI wn) (gk (i:=0)) cD (bJ wr wn))))) ?_;rintro _ R ⟨f,m,rfl,m1,q⟩;have lr:((rowsOf f m).map L2.T.lst).length=m:=by rw[ak,Uc]
 have sz:(100:Nat)<=sizeLine:=by decide
 have er:(rowsOf f m).map L2.T.lst=(List.range m).map λi=>wM ((List.range m).map λj=>f i j):=by
  unfold rowsOf;rw[WJ];refine UQ λi _=>?_;show L2.T.lst _=L2.T.lst _;rw[WJ];rfl
 refine⟨⟨by rw[lr];lia,by rw[lr];lia⟩,?_⟩;rw[show(((((rowsOf f m).map L2.T.lst).length:Nat):Int)).toNat=m by rw[lr];rfl];refine⟨by rw[rng,ak,WP];exact aL m1 sz,Ey (λj=>wM ((List.range m).map λi=>f i j)) m (λj hj N M hN=>⟨by rw[lr];exact aL m1 sz,?_⟩) ?_⟩
 .show jW _ _ _ _ ((rowsOf f m).map L2.T.lst) _;rw[er];refine comp_map (λi=>wM ((List.range m).map λj=>f i j)) (λi=>frR (f i j)) (List.range m) (λi hi N M hN=>⟨_,dg (h:=frR) (show((List.range m).map λj=>f i j)[j]?=some (f i j)by rw[aq,VW hj];rfl),hN⟩) ?_;rw[show((List.range m).map λi=>frR (f i j))=((List.range m).map λi=>f i j).map frR by rw[WJ];rfl];exact hN
 .rw[show((List.range m).map λj=>wM ((List.range m).map λi=>f i j))=(Qh (λj i=>f i j) m).map wM by unfold Qh;rw[WJ];rfl];exact q
abbrev oneAt(st:Nat)(j:Nat):Rat:=if j=st then 1 else 0
def abQ(s:Rat)(cs:xk)(st:Nat)(x:Nat->Rat):Prop:=∀j,j<cs.length->sg (λi=>dX s cs i j*x i) cs.length=oneAt st j
structure ViB(s:Rat)(cs:xk)(st N:Nat):Prop where
 bs:Bq s
 ways:∀o∈cs,WyB s cs.length (jg o)
 sys:Sys (Wr (λj i=>dX s cs i j) (oneAt st) cs.length) N
def wu(D:Adr):ST:=λts R=>∃(s:Rat)(ns:Φ)(off:zi)(pl:ze)(st N:Nat),ts=[hlT D s ns off,.lst (pl.map dT),.int (st:Nat)]/\Ad ns off/\PlT off pl/\off.length<=100/\st<off.length/\ViB s (chO off pl) st N/\∀x:Nat->Rat,abQ s (chO off pl) st x->(∀i,i<off.length->FnB ((2*off.length*N)^off.length) (x i))->R (.l1 ((List.range off.length).map λi=>frR (x i)))
def Lj(T:Tx D):gT 9 qP jq (wu D):=ya T.Mz λF=>by
 refine F.okT zj (λhr _=>bF (iD (bI (Nh T) (bx wr (bx wn bC))))
  (bF (iD (rH wr T.gG T.qJ (NT T) (bx we bC) (KS:=iC)))
  (bF (rN (bG nR) sH sH ["room"] (dZ T.fM (bx (ud wr T.gG T.mG (QC T) (KS:=iC)) bC)) (gk (i:=0)) cD (Hg (bY (go_eq hr.units) wr wa) (jX T.Dt T.uP) (jX T.gZ T.fY)) (jQ (i:=3) zj.nd rfl (Or.inl rfl)))
  (bH (bO (bI (L_ T) (bx (bI (aaH T) (bx (bI (Qa T) (bx (sU (Fm:=Fam D) (λC h=>⟨T.cl C h,T.Fe C h⟩) wr) (bx (bI (Hu T) (bx wr (bx wn bC))) bC))) bC)) (bx wa bC)))))))) ?_
 rintro _ R ⟨s,ns,off,pl,st,N,rfl,h,hp,few,bv,hv,ok⟩;have cl:=zJ hp;have nl:=h.len;refine⟨_,_,_,_,rfl,h,hp,⟨rfl,rfl⟩,_,_,_,st,rfl,by exact aR bv (WH nl),⟨rfl,rfl⟩,_,_,_,rfl,⟨by lia,by lia⟩,by rw[rng,ak,WP];exact aL (show ns.length<=100 by lia) wb,?_⟩;refine Ey (λj=>frR (oneAt st j)) ns.length (λj hj N M hN=>?_) ?_
 .unfold oneAt at hN;by_cases e:j=st
  .rw[ZY e]at hN;exact swT (Zs wf) hN
  .rw[ZZ e]at hN;exact swF (Zp wf) hN
 .refine⟨ug D,_,rfl,_,_,_,_,rfl,h,hp,s,chO off pl,rfl,by exact aL (WH cl) few,hv.bs,hv.ways,dX s (chO off pl),(chO off pl).length,rfl,by exact aL (WH cl) few,Qh (λj i=>dX s (chO off pl) i j) (chO off pl).length,(List.range (chO off pl).length).map (oneAt st),N,?_,by rw[ak,WP,E_],by rw[E_];exact aen,hv.sys,?_⟩
  .show[_,L2.T.lst ((List.range ns.length).map λj=>frR (oneAt st j))]=_;rw[WJ,cl,show ns.length=off.length by exact Eq.symm nl]
   rfl
  .rw[E_,cl];exact λy h1 h2=>ok y (by rw[<- cl]at h1;exact anK h1) h2
def ZC:ST:=λts q=>∃(s:Rat)(m:Nat)(d:LD)(ys:xj),ts=[frR s,ldT d,.lst (ys.map frR)]/\Shr s/\LDk m d/\ys.length=m/\YsB ys/\∀a b:Int,0<b->Bd a->Bd b->Rat.divInt a b=HN s (λk=>ys.getD k 0) d->q (.fz (pT a b))
def ags(T:Tx D):gT 1 Tv EY ZC:=ya T.f_look λF=>by
 refine F.okT afG (λ_ _=>bF (bN 3 bA)
  (bF (bN 4 bA)
  (bF (eF (cI (bJ wn bA)) (fj (n:=2) (bQ (bW (n:=99) 5) (bQ (bW (n:=99) 6) dB)))
  (bF (bN 7 (bL cG (bJ (qv 6) bA) (bJ (bJ we wE) bA)))
  (bF (bN 3 (bL cL (bL cG wa (qv 7)) (bL cG (bL cG (bJ (qv 6) bA) (bJ (bJ we wE) bA)) wP)))
  (bH (bN 4 (bL cG wP (qv 7)))))))
  (bF (bN 3 (bL cG wa (bJ wr bA)))
  (bF (bN 4 (bL cG wP (bJ wr bA)))
  (bH (bO (cN (bx (bL cL (bL cG (bJ (bJ wn bA) bA) wP) (bL cG wa (bJ (bJ wn bA) bA))) (bx (bL cG wP (bJ (bJ wn bA) bA)) bC)))))))))) ?_
 rintro _ R ⟨s,m,d,ys,rfl,hs,hd,yl,hy,q⟩;obtain⟨qq,q0,q1,hq⟩:=hd.all;have one:(dw d.prs λ_=>1)<=1:=by rw[zW,hd.one];exact VS
 have few:=hd.few;have cz:∀p∈d.prs,Rz 4 4 p.2:=λp hp=>by
  have a:=Bu (r:=p.2) (A:=1) (by
   have:=uE hd.nn hp;exact Ts this one) (by have:=hd.nn p hp;rw[zm];grind)
  have:=UV q0 (hq p hp).2.2;exact⟨aL a wf,by lia⟩
 have pb:∀{a b:Int}{k:Nat},k<=4->0<b->b.toNat<=10^(584*k)->Rat.divInt a b<=(VV:Rat)->-(VV:Rat)<=Rat.divInt a b->Bd a/\Bd b/\a.natAbs<=10^(32+584*k):=λ{a b k}hk h0 h1 h2 h3=>by
  have x:=aeQ h0 h2 h3;have y:a.natAbs<=10^(32+584*k):=aL x (by rw[VX];exact UK _ h1);exact⟨uc y wf,uc (n:=584*k) wf wf,y⟩
 refine iM nwT d.prs (λas o=>∃(t b:Int)(x5 x6 x7:OT),o=[.fz (frR s),.fz (ldT d),.fz (.lst (ys.map frR)),.fz (.int t),.fz (.int b),x5,x6,x7]/\0<b/\b.toNat<=10^(584*as.length)/\Rat.divInt t b=dw as λk=>ys.getD k 0) ⟨0,1,.und,.und,.und,rfl,by decide,by simp,rfl⟩ ?_ ?_
 .rintro as p bs _ e ⟨t,b,x5,x6,x7,rfl,b0,b1,ev⟩;have pm:p∈d.prs:=by rw[e];simp
  obtain⟨p1,p2,_⟩:=hq p pm;have al:as.length+1<=d.prs.length:=by rw[e];simp
  have ey:ys[p.1]?=some (ys.getD p.1 0):=by rw[au,aj wf];rfl
  obtain⟨yz,yh,yo⟩:=hy.get p.1;have c:=cz p pm;have va:=Rb (y:=λk=>ys.getD k 0) (C:=(VV:Rat)) (by decide +kernel) (ws:=as) (λw hw=>hd.nn w (by rw[e];exact UH _ hw)) (ajw (bs:=p::bs) (by rw[<- e];exact hd.nn) (by rw[<- e];exact one)) (λk=>(hy.get k).2.1) λk=>(hy.get k).2.2;rw[<- ev]at va;obtain⟨bt,bb,_⟩:=pb (k:=as.length) wf b0 b1 va.1 va.2;have dp:=p.2.den_pos;have dy:=(ys.getD p.1 0).den_pos;have part:((p.2.den:Int)*((ys.getD p.1 0).den:Int)).natAbs<=10^584:=by
   rw[VZ,XG,XG,show 10^584=10^4*10^580 by rw[<- VX]];exact W1 c.2 yz.2
  have pp:0<(p.2.den:Int)*((ys.getD p.1 0).den:Int):=XZ wf wf;have ct:(p.2.num*(ys.getD p.1 0).num).natAbs<=10^616:=by
   rw[VZ,show 10^616=10^4*10^612 by rw[<- VX]];exact W1 c.1 yz.1
  have cb:=c.bq wb wb;have yb:=yz.bq wb wb;refine⟨rfl,_,dg ey,⟨cb.2,yb.2⟩,⟨bt,uc part wb⟩,_,dg ey,⟨cb.1,yb.1⟩,⟨uc ct wb,bb⟩,⟨bb,uc part wb⟩,t*((p.2.den:Int)*((ys.getD p.1 0).den:Int))+p.2.num*(ys.getD p.1 0).num*b,b*((p.2.den:Int)*((ys.getD p.1 0).den:Int)),.fz (.int (p.1:Nat)),.fz (frR p.2),.fz (.int ((p.2.den:Int)*((ys.getD p.1 0).den:Int))),rfl,XZ b0 pp,?_,?_⟩
  .rw[aA,List.length_singleton,Nat.mul_add,VX,Int.toNat_mul (XY b0) (XY pp)];exact W1 b1 (by rw[Nat.mul_one];lia)
  .rw[Li,Wt,<- ev,<- TH _ _ (WS b0) (WS pp),<- Qr,rd,rd]
 .rintro _ ⟨t,b,x5,x6,x7,rfl,b0,b1,ev⟩;have va:=Rb (y:=λk=>ys.getD k 0) (C:=(VV:Rat)) (by decide +kernel) (ws:=d.prs) hd.nn one (λk=>(hy.get k).2.1) λk=>(hy.get k).2.2;rw[<- ev]at va;obtain⟨bt,bb,tn⟩:=pb (k:=d.prs.length) few b0 b1 va.1 va.2;have sz:=Fd hs;have sb:=sz.bq wb wb;have pz:Rz 30 3 d.pay:=⟨hd.pay.num,hd.pay.den⟩;have pq:=pz.bq wb wb;have sd:=s.den_pos;have pd:=d.pay.den_pos;have b4:b.natAbs<=10^2336:=aL (show b.natAbs<=10^(584*d.prs.length)by lia) (XT wb wf);have t4:t.natAbs<=10^2368:=aL tn (XT wb wf);have bs:(b*(s.den:Int)).natAbs<=10^2338:=by
   rw[VZ,XG,show 2338=2336+2 from rfl,VX];exact W1 b4 sz.2
  have ts:(t*s.num).natAbs<=10^2370:=by
   rw[VZ,show 2370=2368+2 from rfl,VX];exact W1 t4 sz.1
  refine⟨⟨bt,sb.1⟩,⟨bb,sb.2⟩,⟨pq.1,uc bs wb⟩,⟨uc ts wb,pq.2⟩,⟨uc bs wb,pq.2⟩,q _ _ (XZ (XZ b0 wf) wf) ?_ ?_ ?_⟩
  .refine uc (n:=2374) ?_ wb;have x:(d.pay.num*(b*(s.den:Int))).natAbs<=10^2373:=by
    rw[VZ];exact aL (W1 pz.1 bs) (by rw[<- VX];exact XT wb wb)
   have y:(t*s.num*(d.pay.den:Int)).natAbs<=10^2373:=by
    rw[VZ,XG,show 2373=2370+3 from rfl,VX];exact W1 ts pz.2
   have z:=Int.natAbs_add_le (d.pay.num*(b*(s.den:Int))) (t*s.num*(d.pay.den:Int));rw[show 2374=2373+1 from rfl,Nat.pow_succ];refine aL z ?_;lia
  .refine uc (n:=2341) ?_ wb;rw[VZ,XG,show 2341=2338+3 from rfl,VX];exact W1 bs pz.2
  .unfold HN;rw[JP (b*(s.den:Int)),<- TH _ _ (lD d.pay) (m_ (WS b0) (lD s)),rd,<- Qr,rd,ev,XU]
def Lk:ST:=λts q=>∃a b c d:Int,ts=[pT a b,pT c d]/\0<b/\0<d/\(Bm a/\Bm b/\Bm c/\Bm d)/\q (.fz (.bl (decide (Rat.divInt a b=Rat.divInt c d))))
def abZ(T:Tx D):gT 1 I_ zP Lk:=ya T.ajt λF=>by
 refine F.okT agg (λhr _=>bH (bO (qK (go_eq hr.units) (bL Ea (bJ wr bA) (bJ wn bA)) (bL Ea (bJ wn bA) (bJ wr bA))))) ?_;rintro _ R ⟨a,b,c,d,rfl,hb,hd,⟨ba,bb,bc,bd⟩,q⟩;refine⟨⟨ba,bd⟩,⟨bc,bb⟩,?_⟩;rw[decide_eq_decide.mpr (div_eq hb hd)]at q;exact q
def akj{ac:zS}{ds:List LD}(e:ac[k]?=some ds):ixT (ac.map λds=>L2.T.lst (ds.map ldT)) (k:Nat)=some (.lst (ds.map ldT)):=dg (h:=λds=>L2.T.lst (ds.map ldT)) e
def Ru{ac:zS}{off:zi}(ho:o9 ac off)(h:PlT off pl):PlD ac pl:=by
 refine⟨by rw[h.len,ho.len],λk d ds e1 e2=>?_⟩;have lk:k<off.length:=by rw[ho.len];exact(ao.mp e2).1
 have ek:=aj lk;obtain⟨tl,gv,eo⟩:=ho.at_ k ds _ e2 ek;have:=h.ok k d _ e1 ek;rw[eo,ak,VU,gv,UU]at this;exact this
open Rw (sg gw fH bV fQ gA Big vr)
def V5:xL->Nat
 |[]=>1
 |n::ns=>n*V5 ns
theorem Oq{n:Nat} : ∀{ns:xL},n∈ns->n ∣ V5 ns
 |m::ns,h=>(YU.mp h).elim (λe=>e ▸ Nat.dvd_mul_right _ _) λz=>Q3 (Oq z) (Nat.dvd_mul_left _ _)
theorem YH{c:Nat} : ∀{ns:xL},(∀n∈ns,0<n/\n<=c)->0<V5 ns/\V5 ns<=c^ns.length
 |[],_=>⟨US,aG _⟩
 |n::ns,h=>by
  obtain⟨a,b⟩:=YH λx hx=>h x (aJ n hx);obtain⟨p,q⟩:=h n (aO ..);refine⟨UP p a,?_⟩;rw[List.length_cons,Nat.pow_succ,JY (c^_)];exact W1 q b
abbrev N23(m:Nat):Nat:=1*(100*4000^m)
def abC(h:m<=8):(2*m*N23 m)^m<=10^260/\N23 m<=10^260:=by
 obtain rfl|rfl|rfl|rfl|rfl|rfl|rfl|rfl|rfl:m=0\/m=1\/m=2\/m=3\/m=4\/m=5\/m=6\/m=7\/m=8:=by lia
 all_goals decide +kernel
def apA{ac:zS}{off:zi}(hs:Shr s)(hd:DSk m mo ac)(m8:m<=8)(ho:o9 ac off)(hp:PlT off pl)(st:Nat):ViB s (chO off pl) st (N23 m):=by
 have ol:off.length=m:=by rw[ho.len,hd.len]
 have cl:(chO off pl).length=m:=by rw[zJ hp,ol]
 have ob:=acE hd ho;have co:=aea (pl:=pl) ob;have sz:=Fd hs;have sd:=s.den_pos;have gc:∀i,i<m->(chO off pl).getD i none∈chO off pl:=λi hi=>by rw[au,aj wf];exact aU _
 obtain⟨m1,m2⟩:=abC m8;have NL:10^260<=NN:=XT wb wb;obtain⟨p0,p1⟩:=YH (c:=4000) (ns:=(chO off pl).map qO) λn hn=>by
  obtain⟨c,hc,rfl⟩:=YV.mp hn;exact⟨W7 _,(co c hc).q wb⟩
 rw[ak,cl]at p1;refine⟨sz.bq wb wb,λc hm=>?_,?_⟩
 .rw[cl];cases c with
  |none=>exact⟨.nil,aZ _,λ_ z=>(nomatch z),λ_ z=>(nomatch z)⟩
  |some o =>
   have b:=co _ hm o rfl;refine⟨b.nd,b.few,b.lt,λw hw=>?_⟩;have wz:=Zi b wb hw;exact⟨wz.bq wb wb,sz.dd wz wb,(sz.mul wz).bq wb wb⟩
 .rw[cl];refine akP (q:=λ_=>s.den*V5 ((chO off pl).map qO)) (aL m8 wb) wb (λi hi=>⟨UP sd p0,W1 hs.den p1⟩) (λj i hj hi=>?_) (λj hj=>?_) (UP wb (Nat.pow_pos wb)) (aL m1 NL) (aL m2 NL) λx hx=>?_
  .obtain⟨a,b⟩:=abq (j:=j) hs.lo hs.hi (co _ (gc i hi));exact⟨Q3 a (Nat.mul_dvd_mul_left _ (Oq (YV.mpr ⟨_,gc i hi,rfl⟩))),b⟩
  .show(if j=st then(1:Rat)else 0).den ∣ _/\(if j=st then(1:Rat)else 0).num.natAbs<=1*(if j=st then(1:Rat)else 0).den;split
   .exact⟨TW _,aG _⟩
   .exact⟨TW _,aZ _⟩
  .rw[<- cl]at hx ⊢;exact abI hs.lo hs.hi (λi hi=>by rw[cl]at hi ⊢;exact(co _ (gc i hi)).sh) x hx
def dY(s:Rat)(ac:zS)(ys:xj)(pl:ze)(k:Nat):Rat:=match(pl.getD k none).bind λd=>(ac.getD k [])[d]? with
 |none=>0
 |some d=>ys.getD k 0-HN s (λj=>ys.getD j 0) d
def V_:ST:=λts q=>∃(s:Rat)(m mo:Nat)(ac:zS)(pl:ze)(ys:xj),ts=[.lst ((List.range m).map λk=>frR (dY s ac ys pl k)),frR s,Ly ac,.lst (pl.map dT),.lst (ys.map frR)]/\Shr s/\DSk m mo ac/\m<=100/\PlD ac pl/\ys.length=m/\YsB ys/\(∀k,k<m->0<=dY s ac ys pl k/\Rz 2400 2400 (dY s ac ys pl k))/\q (.fz (.bl true))
def ac2(T:Tx D):gT 4 Kp yM V_:=ya T.afA λF=>by
 refine F.okT abV (λ_ _=>bF (cC (eE (dI (bI (Mw T) (bx wr (bx (bR cJ T.dJ WG (bx we bC)) bC)))))
  (bH (bO j5))
  bT)
  (bF (eF (dZ T.fM (bx (bR cJ T.dJ WG (bx we bC)) bC)) (bW (n:=99) 5)
  (bF (bN 6 (cN (bx bA (bx bA bC))))
  (bF (cC (bY Jd (bJ wa wE) fJ)
  (bF (bN 7 (bI (ags T) (bx wn (bx (bJ (bJ we wE) (bJ wa wE)) (bx wP bC)))))
  (bH (bN 6 (cN (bx (bL Bp (bL cG (bJ (bJ wP wE) bA) (bJ (qv 7) bA)) (bL cG (bJ (qv 7) bA) (bJ (bJ wP wE) bA))) (bx (bL cG (bJ (qv 7) bA) (bJ (bJ wP wE) bA)) bC))))))
  bT)
  (bH (cC (QW.qt (jD (bY v7 (bJ (bJ wr wE) bA) bA) (ig (eE (dI (bI (abZ T) (bx (bJ wr wE) (bx (qv 6) bC))))))))
  (bH (bO j5))
  bT)))))
  (bH (bO j5)))) ?_
 rintro _ R ⟨s,m,mo,ac,pl,ys,rfl,hs,hd,m1,hp,yl,hy,hl,q⟩;have dl:(ac.map λds=>L2.T.lst (ds.map ldT)).length=m:=by rw[ak,hd.len]
 have em:((List.range m).map λk=>frR (dY s ac ys pl k))=((List.range m).map λk=>dY s ac ys pl k).map frR:=by rw[WJ];rfl
 refine⟨(List.range m).map λk=>dY s ac ys pl k,m,by rw[<- em];show[_,L2.T.int (((ac.map λds=>L2.T.lst (ds.map ldT)).length:Nat):Int)]=_;rw[dl];rfl,by rw[ak,WP],by exact aL m1 wb,⟨by rw[dl];lia,by rw[dl];lia⟩,qz (λk o=>∃x y z,o=[.fz (.lst ((List.range m).map λk=>frR (dY s ac ys pl k))),.fz (frR s),.fz (Ly ac),.fz (.lst (pl.map dT)),.fz (.lst (ys.map frR)),x,y,z]) ⟨_,_,_,rfl⟩ ?_ ?_⟩
 .rintro k _ hk ⟨x,y,z,rfl⟩;have hk:k<m:=by rw[dl]at hk;lia
  have lk:k<ac.length:=by rwa[hd.len]
  have ek:=aj lk;have lp:k<pl.length:=by rwa[hp.len]
  have ep:=aj lp;have ey:ys[k]?=some (ys.getD k 0):=by rw[au,aj wf];rfl
  have el:ixT ((List.range m).map λk=>frR (dY s ac ys pl k)) (k:Nat)=some (frR (dY s ac ys pl k)):=dg (h:=λk=>frR (dY s ac ys pl k)) (VW hk);have yb:=(hy.get k).1.bq wb wb;have ft:=hp.ok k _ _ ep ek;have yp:=(ys.getD k 0).den_pos;have rp:=(dY s ac ys pl k).den_pos;obtain⟨l0,lz⟩:=hl k hk;have ln:0<=(dY s ac ys pl k).num:=Rat.num_nonneg.mpr l0;dsimp only[hName];refine sq2 (λo=>∃(a b:Int)(x:OT),o=[.fz (.lst ((List.range m).map λk=>frR (dY s ac ys pl k))),.fz (frR s),.fz (Ly ac),.fz (.lst (pl.map dT)),.fz (.lst (ys.map frR)),.fz (.int (k:Nat)),.fz (pT a b),x]/\0<b/\Bm a/\Bm b/\Rat.divInt a b=dY s ac ys pl k) ?_ λY go=>?_
  .rintro _ ⟨a,b,x,rfl,b0,ba,bb,ev⟩;refine⟨_,el,swF (Zp (Int.not_lt_of_ge ln)) ⟨_,el,_,_,a,b,rfl,by lia,b0,⟨C_ lz.1 wb,C_ (n:=2400) (by rw[XG];exact lz.2) wb,ba,bb⟩,?_⟩⟩;rw[rd,ev,Zs rfl];exact⟨_,_,_,rfl⟩
  .refine⟨_,dg ep,?_⟩;have eg:pl.getD k none=pl[k]:=by rw[au,ep];rfl
   cases c:pl[k]with
   |none =>
    rw[c]at eg;exact go _ ⟨0,1,_,rfl,by decide,C_ (n:=0) wb wb,C_ (n:=0) wb wb,by unfold dY;rw[eg];exact QY _⟩
   |some j =>
    rw[c]at ft ep eg;have lj:j<ac[k].length:=of_decide_eq_true ft;have ej:=aj lj;have due:dY s ac ys pl k=ys.getD k 0-HN s (λj=>ys.getD j 0) ac[k][j]:=by
     unfold dY;rw[eg,au (l:=ac),ek];show(match ac[k][j]? with|none=>(0:Rat)|some d=>_)=_;rw[ej]
    refine⟨_,akj ek,_,dg ep,?_⟩;refine⟨_,dg ej,s,m,ac[k][j],ys,rfl,hs,hd.ok _ (aU lk) _ (aU lj),yl,hy,λa b b0 ba bb ev=>?_⟩;obtain⟨yz,_,_⟩:=hy.get k;have big:∀{u v:Int}{n:Nat},Bd u->v.natAbs<=10^n->n<=700->(u*v).natAbs<=10^3200:=λ{u v n}hu hv hn=>by
     rw[VZ,show(3200:Nat)=2500+700 from rfl,VX];exact W1 (aL (Y2 hu) (by decide +kernel)) (aL hv (XT wb hn))
    have yd:(((ys.getD k 0).den:Nat):Int).natAbs<=10^580:=by rw[XG];exact yz.2
    have c1:=big bb yz.1 wb;have c2:=big ba yd wb;have c3:=big bb yd wb;refine⟨_,dg ey,⟨yb.1,bb⟩,_,dg ey,⟨ba,yb.2⟩,_,dg ey,⟨bb,yb.2⟩,go _ ⟨_,_,_,rfl,XZ b0 wf,?_,C_ c3 wb,?_⟩⟩
    .refine C_ (n:=3201) ?_ wb;have z:=Int.natAbs_sub_le ((ys.getD k 0).num*b) (a*((ys.getD k 0).den:Int));rw[JP]at c1;rw[show(3201:Nat)=3200+1 from rfl,Nat.pow_succ];lia
    .rw[due,<- ev,JP b,<- Rat.divInt_sub_divInt _ _ wf (WS b0),rd]
 .rintro _ ⟨x,y,z,rfl⟩;exact q
def agj(ps:Γ):Rat:=(ps.map λp=>Rat.divInt p.1 p.2).sum
def adJ:ST:=λts q=>∃ps:Γ,ts=[.lst (ps.map λp=>pT p.1 p.2)]/\ps.length<=20/\(∀p∈ps,0<p.2/\p.1.natAbs<=10^3000/\p.2.natAbs<=10^3000)/\∀a b:Int,0<b->Bm a->Bm b->Rat.divInt a b=agj ps->q (.fz (pT a b))
def aji(T:Tx D):gT 1 WY K9 adJ:=ya T.alg λF=>by
 refine F.okT ajh (λ_ _=>bF (bN 1 bA)
  (bF (bN 2 bA)
  (bF (eF (cI wr) (bW (n:=99) 3)
  (bF (bN 1 (bL cL (bL Ea wn (bJ wa bA)) (bL Ea (bJ wa bA) we)))
  (bH (bN 2 (bL Ea we (bJ wa bA))))))
  (bH (bO (cN (bx wn (bx we bC)))))))) ?_
 rintro _ R ⟨ps,rfl,few,hp,q⟩;refine iM (λp:Int×Int=>pT p.1 p.2) ps (λas o=>∃(t b:Int)(x:OT),o=[.fz (.lst (ps.map λp=>pT p.1 p.2)),.fz (.int t),.fz (.int b),x]/\0<b/\t.natAbs<=10^(3001*as.length)/\b.natAbs<=10^(3001*as.length)/\Rat.divInt t b=agj as) ⟨0,1,_,rfl,by decide,by decide,by decide,rfl⟩ ?_ ?_
 .rintro as p bs _ e ⟨t,b,x,rfl,b0,ht,hb,ev⟩;have al:as.length+1<=ps.length:=by rw[e];simp
  obtain⟨p0,p1,p2⟩:=hp p (by rw[e];simp);have up:3001*(as++[p]).length=3001*as.length+3001:=by rw[aA,List.length_singleton];lia
  have bt:=C_ ht wf;have bb:=C_ hb wf;have q1:=C_ p1 wb;have q2:=C_ p2 wb;have mul:∀{u v:Int},u.natAbs<=10^(3001*as.length)->v.natAbs<=10^3000->(u*v).natAbs<=10^(3001*as.length+3000):=λ{u v}hu hv=>by
   rw[VZ,VX];exact W1 hu hv
  have m1:=mul ht p2;have m2:=mul hb p1;have m3:=mul hb p2;have w:10^(3001*as.length+3001)=10^(3001*as.length+3000)*10:=Nat.pow_succ ..;refine⟨⟨bt,q2⟩,⟨q1,bb⟩,⟨bb,q2⟩,_,_,_,rfl,XZ b0 p0,?_,?_,?_⟩
  .have z:=Int.natAbs_add_le (t*p.2) (p.1*b);rw[JP]at m2;rw[up,w];lia
  .rw[up,w];lia
  .rw[<- TH _ _ (WS b0) (WS p0),ev];unfold agj;rw[bf,List.sum_append];simp[Rat.add_zero]
 .rintro _ ⟨t,b,x,rfl,b0,ht,hb,ev⟩;exact q t b b0 (C_ ht wf) (C_ hb wf) ev
open Rw (sg gw fH bV fQ gA Big vr)
def agC{ac:zS}{off:zi}(hd:DSk m mo ac)(ho:o9 ac off)(ys:xj)(pl:ze)(k:Nat):yr s off ys pl k=dY s ac ys pl k:=by
 unfold yr dY;cases pl.getD k none with
 |none=>rfl
 |some d =>
  obtain⟨t,et⟩:=QX ho k d;show(match(off.getD k [])[d]? with|none=>(0:Rat)|some o=>_)=match(ac.getD k [])[d]? with|none=>0|some d=>_
  rw[et];cases ed:(ac.getD k [])[d]? with
  |none=>rfl
  |some x =>
   have lx:LDk m x:=by
    by_cases c:k<ac.length
    .rw[au,aj c]at ed;exact hd.ok _ (aU c) x (aC ed)
    .have:ac[k]?=none:=aM (VT c);rw[au,this]at ed;cases ed
   show ys.getD k 0-Ae s _ (S7 t x)=ys.getD k 0-HN s _ x;rw[Iw lx]
def Lb{ac:zS}(hd:DSk m mo ac)(h:Opt s m ac ys)(hp:PlD ac pl)(hk:k<m):dY s ac ys pl k=ys.getD k 0-WW s (λj=>ys.getD j 0) ac pl k:=by
 have lk:k<ac.length:=by rwa[hd.len]
 have ek:=aj lk;have lp:k<pl.length:=by rwa[hp.len]
 have ep:=aj lp;have ft:=hp.ok k _ _ ep ek;have gd:ac.getD k []=ac[k]:=by rw[au,ek];rfl
 unfold dY WW;rw[gd,show pl.getD k none=pl[k]by rw[au,ep];rfl];cases e:pl[k]with
 |none =>
  rw[e]at ft;have:ac[k].length=0:=of_decide_eq_true ft;rw[h.no k hk (by rw[gd];exact List.length_eq_zero_iff.mp this)];show(0:Rat)=0-0
  grind
 |some d =>
  rw[e]at ft;have ld:d<ac[k].length:=of_decide_eq_true ft;rw[show((some d).bind λd=>ac[k][d]?)=some ac[k][d]from aj ld]
def abA{ac:zS}{off:zi}(sh:∀ds∈off,∀o∈ds,ShB s off.length o.ways)(hd:DSk m mo ac)(ho:o9 ac off)(hp:PlD ac pl)(hz:nG s off pl zs)(h:Opt s m ac ys){st:Nat}(bv:st<m){x:Nat->Rat}(hx:abQ s (chO off pl) st x):ys.getD st 0=zs.getD st 0+sg (λk=>x k*dY s ac ys pl k) m:=by
 have pt:=Il ho hp;have ol:off.length=m:=by rw[ho.len,hd.len]
 have cl:(chO off pl).length=m:=by rw[zJ pt,ol]
 have two:=aez (dX s (chO off pl)) x (λj=>ys.getD j 0-zs.getD j 0) m;have a:sg (λj=>(ys.getD j 0-zs.getD j 0)*sg (λi=>dX s (chO off pl) i j*x i) m) m=ys.getD st 0-zs.getD st 0:=by
  rw[bV (g:=λj=>(if j=st then 1 else 0)*(ys.getD j 0-zs.getD j 0)) λj hj=>by
   rw[show sg (λi=>dX s (chO off pl) i j*x i) m=oneAt st j by have:=hx j (by rwa[cl]);rwa[cl]at this,XU],gA (v:=λj=>ys.getD j 0-zs.getD j 0),ZY bv]
 have b:sg (λi=>x i*sg (λj=>dX s (chO off pl) i j*(ys.getD j 0-zs.getD j 0)) m) m=sg (λk=>x k*dY s ac ys pl k) m:=bV λi hi=>by
  have sp:=zQ sh pt i wf;have rs:=Kd (x:=λj=>ys.getD j 0-zs.getD j 0) (s:=s) (cs:=chO off pl) (i:=i) (by rwa[cl]) (by rw[cl,<- ol];exact sp.lt);rw[cl]at rs;rw[rs,Gm,Lb hd h hp hi,<- Qj hd ho (by rw[pt.len];lia)];have:=hz.2 i wf;unfold oK at this ⊢
  grind
 rw[a,b]at two
 grind
def V2{off:zi}(sh:∀ds∈off,∀o∈ds,ShB s off.length o.ways)(hc:PlT off pl)(hw:Je s (chO off pl) y):nG s off pl ((List.range off.length).map y):=by
 have yl:((List.range off.length).map y).length=off.length:=by rw[ak,WP]
 have yg:∀k,k<off.length->((List.range off.length).map y).getD k 0=y k:=λk hk=>by rw[au,aq,VW hk];rfl
 refine⟨yl,λi hi=>?_⟩;have sp:=zQ sh hc;have eW:=zJ hc;rw[yg i hi,(Oz (by rwa[eW])).mp hw i (by rwa[eW])];unfold oK;rw[Jy (x:=λk=>((List.range off.length).map y).getD k 0) (z:=y) λw hm=>yg w.1 ((sp i hi).lt w hm)]
def mem_getD(l:ys.length=m){y:Rat}(h:y∈ys):∃k,k<m/\y=ys.getD k 0:=by
 obtain⟨k,e⟩:=aV h;exact⟨k,by rw[<- l];exact(ao.mp e).1,by rw[au,e];rfl⟩
abbrev N29:Nat:=(10^30+1)*(100*4000*1000)
def apB{ac:zS}{off:zi}(hs:Shr s)(hd:DSk m 4 ac)(m6:m<=6)(ho:o9 ac off):MnB s off N29:=by
 have ol:off.length=m:=by rw[ho.len,hd.len]
 have fo:∀ds∈off,ds.length<=4:=λos ke=>by
  obtain⟨k,ek⟩:=aV ke;have lk:k<ac.length:=by rw[<- ho.len];exact(ao.mp ek).1
  obtain⟨tl,_,rfl⟩:=ho.at_ k _ os (aj lk) ek;have:=hd.few _ (aU lk);rw[ak,VU];lia
 have l:4^off.length<=4^8:=XT wb wf;exact ait (e:=246) hs wf (by rw[ol];exact acE hd ho) wb wb wb wb wb rfl (ael (aL (WH ol) m6)) wb (by decide +kernel) (by have:246*off.length<=246*6:=UK _ (aL (WH ol) m6);lia) (Y3 (aL (acu (by decide:1<=4) fo) l) wb)
def ah6{ac:zS}{off:zi}(hs:Shr s)(hd:DSk m 4 ac)(m6:m<=6)(ho:o9 ac off)(hp:PlT off pl)(hz:nG s off pl zs)(fb:∀r∈zs,FnB ((2*off.length*N29)^off.length) r):YsB zs/\∀z∈zs,Rz 278 246 z:=by
 have ol:off.length=m:=by rw[ho.len,hd.len]
 have cl:=zJ hp;have co:=aea (pl:=pl) (acE hd ho);have ab:=ZV hs (m:=off.length) (c:=λi=>(chO off pl).getD i none) (λi hi=>by
  rw[ol];exact co _ (by rw[au,aj (by rwa[cl])];exact aU _)) wb (y:=λk=>zs.getD k 0) hz.2
 have mem:∀z∈zs,z<=(VV:Rat)/\-(VV:Rat)<=z:=λz hm=>by
  obtain⟨k,hk,rfl⟩:=mem_getD hz.1 hm;exact ab k hk
 have dn:∀z∈zs,z.den<=10^246:=λz hm=>aL (fb z hm).d (ael (aL (WH ol) m6));exact⟨⟨λz hm=>aL (dn z hm) (XT wb wb),λz hm=>(mem z hm).1,λz hm=>(mem z hm).2⟩,λz hm=>⟨aL (Bu (mem z hm).1 (mem z hm).2) (by rw[show(278:Nat)=32+246 from rfl,VX];exact UK _ (dn z hm)),dn z hm⟩⟩
theorem agO{y:Nat->Rat}(hy:∀k,(y k).den<=10^246):∀{ws:zC},(∀w∈ws,w.2.den<=10^4)->(dw ws y).den<=10^(250*ws.length)
 |[],_=>aG 1
 |w::ws,h=>by
  have a:=agO hy (ws:=ws) λx hx=>h x (aJ _ hx);have b:=W1 (h w (aO ..)) (hy w.1);have p1:=w.2.den_pos;have p2:=(y w.1).den_pos;have p3:=(dw ws y).den_pos;have pp:0<w.2.den*(y w.1).den*(dw ws y).den:=UP (UP p1 p2) p3;rw[cY];refine aL (UV pp (CT pp (Q3 (den_mul p1 p2 (Nat.dvd_refl _) (Nat.dvd_refl _)) (Nat.dvd_mul_right _ _)) (Nat.dvd_mul_left _ _))) ?_;rw[List.length_cons,Nat.mul_add,Nat.add_comm,VX,Nat.mul_one,show(250:Nat)=4+246 from rfl,VX];exact W1 b a
def agJ{d:LD}(hs:Shr s)(hd:LDk m d)(h:YsB ys)(hz:∀y∈ys,Rz 278 246 y):Rz 1038 1005 (HN s (λj=>ys.getD j 0) d):=by
 obtain⟨q,q0,q1,hq⟩:=hd.all;have one:(dw d.prs λ_=>1)<=1:=by rw[zW,hd.one];exact VS
 have va:=Rb (y:=λk=>ys.getD k 0) (C:=(VV:Rat)) (by decide +kernel) (ws:=d.prs) hd.nn one (λk=>(h.get k).2.1) λk=>(h.get k).2.2;have dd:(dw d.prs λk=>ys.getD k 0).den<=10^1000:=by
  refine aL (agO (λk=>?_) λw hw=>aL (UV q0 (hq w hw).2.2) (aL q1 wb)) (XT wb (by have:=hd.few;lia));rw[au];cases e:ys[k]? with
  |none=>exact Nat.one_le_pow _ _ wb
  |some y=>exact(hz y (aC e)).2
 have dz:Rz 1032 1000 (dw d.prs λk=>ys.getD k 0):=⟨aL (Bu va.1 va.2) (by rw[show(1032:Nat)=32+1000 from rfl,VX];exact UK _ dd),dd⟩;have pz:Rz 30 3 d.pay:=⟨hd.pay.num,hd.pay.den⟩;exact pz.add ((Fd hs).mul dz) (k:=1037) wb wb
def Rz.neg{d:Nat}(h:Rz n d r):Rz n d (-r):=⟨by show(-r.num).natAbs<=_;rw[Int.natAbs_neg];exact h.1,h.2⟩
def WQ{ac:zS}(hs:Shr s)(hd:DSk m mo ac)(h:Opt s m ac ys)(hy:YsB ys)(hk:∀y∈ys,Rz 278 246 y)(hp:PlD ac pl)(k:Nat)(lk:k<m):0<=dY s ac ys pl k/\Rz 1285 1251 (dY s ac ys pl k):=by
 refine⟨by rw[Lb hd h hp lk];have:=Zf hd h hp lk;grind,?_⟩;unfold dY;cases e:(pl.getD k none).bind λd=>(ac.getD k [])[d]? with
 |none=>exact⟨aZ _,Nat.one_le_pow _ _ wb⟩
 |some d =>
  have ld:LDk m d:=by
   cases ep:pl.getD k none with
   |none=>rw[ep]at e;cases e
   |some c =>
    rw[ep]at e;have e:(ac.getD k [])[c]?=some d:=e;have l':k<ac.length:=by rwa[hd.len]
    rw[au,aj l']at e;exact hd.ok _ (aU l') d (aC e)
  have yz:=hk _ (aC (u_ h.len lk));show Rz 1285 1251 (ys.getD k 0-_);rw[Rat.sub_eq_add_neg];exact yz.add (agJ hs ld hy hk).neg (k:=1284) wb wb
def laB{ac:zS}{off:zi}(hs:Shr s)(hd:DSk m 4 ac)(m6:m<=6)(ho:o9 ac off){p:PWs}(h1:PlT off p.1)(h2:nG s off p.1 p.2)(h3:∀r∈p.2,FnB ((2*off.length*N29)^off.length) r):LaB s off p.2:=by
 obtain⟨hy,hk⟩:=ah6 hs hd m6 ho h1 h2 h3;have vz:∀ds∈off,∀o∈ds,Rz 1038 1005 (Ae s (λj=>p.2.getD j 0) o):=λds eT o hx=>by
  obtain⟨k,ek⟩:=aV eT;obtain⟨j,ej⟩:=aV hx;obtain⟨t,et⟩:=QX ho k j;rw[au,ek]at et;have et:ds[j]?=_:=et;have lk:k<ac.length:=by rw[<- ho.len];exact(ao.mp ek).1
  rw[ej,au,aj lk]at et;have et:some o=((ac[k])[j]?).map (S7 t):=et;cases ed:(ac[k])[j]? with
  |none=>rw[ed]at et;cases et
  |some x =>
   rw[ed]at et;cases et;have lx:=hd.ok _ (aU lk) x (aC ed);rw[Iw lx];exact agJ hs lx hy hk
 exact⟨λr hr=>(hk r hr).bq wb wb,λds eT o hx=>(vz ds eT o hx).bq wb wb,λr hr ds eT o hx=>(hk r hr).dd (vz ds eT o hx) wb⟩
theorem aer(f:Nat->Rat):∀m,((List.range m).map f).sum=sg f m
 |0=>rfl
 |m+1=>by rw[List.range_succ,bf,List.sum_append,aer f m];show _+(f m+0)=_;rw[Rat.add_zero];rfl
def ZR{ac:zS}{off:zi}(hs:Shr s)(hd:DSk m mo ac)(ho:o9 ac off)(B:MnB s off N){bo:ze}{ps iP:xi}{p p':PWs}(h:Hr s off M pl ps)(e:ps.getLast?=some p)(h':Hr s off M bo iP)(e':iP.getLast?=some p'):p'.2=p.2:=by
 obtain⟨k1,k2,_⟩:=h.told.ok p (Q4 e);obtain⟨r1,r2,_⟩:=h'.told.ok p' (Q4 e');have dS:=Xz hd ho h e;have ro:=Xz hd ho h' e';refine Zzy λk=>?_;by_cases hk:k<m
 .rw[u_ ro.len hk,u_ dS.len hk];exact ZH some (Rat.le_antisymm (V4 hs.lo hs.hi B.sh hd ho (Ru ho r1) r2 dS k hk) (V4 hs.lo hs.hi B.sh hd ho (Ru ho k1) k2 ro k hk))
 .rw[aM (by have:=ro.len;lia),aM (by have:=dS.len;lia)]
def aej{t:L2.T}{q:OT->Prop}(e:slot o i=.fz t)(h:q (.fz t)):aco i o q:=by unfold aco;rwa[e]
def sq9{a b c d e f g h x y:RS}(J:zI->Prop)(k:∀o',J o'->y E o')(p:∀Y:zI->Prop,(∀o',J o'->Y o')->eG a (eG b (eG c (eG d (eG e (eG f (eG g (eG h (eG x (λ_=>Y))))))))) E o):eG a (eG b (eG c (eG d (eG e (eG f (eG g (eG h (eG x y)))))))) E o:=p (y E) k
structure aeb(s:Rat)(m:Nat)(ac:zS)(nm:Φ)(off:zi)(pl:ze)(ps:xi)(p:PWs):Prop where
 hs:Shr s
 m6:m<=6
 hd:DSk m 4 ac
 hok:Ad nm off
 ho:o9 ac off
 B:MnB s off N29
 hpl:PlD ac pl
 hm:Hr s off ((2*off.length*N29)^off.length) (Ak off) ps
 el:ps.getLast?=some p
abbrev lkT(s:Rat)(m:Nat)(ac:zS)(ys:xj)(pl:ze):List L2.T:=(List.range m).map λk=>frR (dY s ac ys pl k)
def o29(D:Adr)(ns:xy)(s:Rat)(m:Nat)(ac:zS)(nm:Φ)(off:zi)(pl:ze)(p:PWs)(c:Int)(oq start ja:OT):zI:=[.fz (scT ns),.fz (frR s),.fz (.int (m:Nat)),.fz (Ly ac),.fz (hlT D s nm off),.fz (.lst (pl.map dT)),.fz (.lst ((j7 c 2).map L2.T.int)),.fz (.lst (pl.map dT)),oq,start,ja,.fz (.lst (p.1.map dT)),.fz (.lst (p.2.map frR)),.und,.und]
def ahh{a b c:RT}{x y:RS}(h1:∀q:Bool->Prop,q false->a o q)(h2:∀q:Bool->Prop,q false->b o q)(h3:∀q:Bool->Prop,q false->c o q)(h:y E o):eG (ahI (rOr a (rOr b c)) x agR) y E o:=h1 _ (h2 _ (h3 _ h))
def prT(x y:Nat->Rat)(k:Nat):L2.T:=pT ((x k).num*(y k).num) (((x k).den:Int)*((y k).den:Int))
def Vh{K:Frag}{F:Hp}{x:V}{b:Int}(h:Rep K F x (pT a b)):∃q,x=.ref q/\SqT K F q [.int a,.int b]:=by
 obtain⟨q,xs,rfl,s,r⟩:=h.tupI;refine⟨q,rfl,?_⟩;cases r with
 |cons a r=>cases r with
  |cons b r =>
   cases r;cases a;cases b;exact s
def adX{K:Frag}{F G:Hp}{a:Addr}{xs:Ζ}(h:SqT K F a xs)(e:∀b u,(∀l,u≠HO.lst l)->F b=some u->G b=some u):SqT K G a xs:=by
 rcases h with h|h
 .exact .inl (h.imp (e _ _ λ_ z=>(nomatch z)) λhP=>by obtain⟨o,r⟩:=hP;exact⟨o,e _ _ (λ_ z=>(nomatch z)) r⟩)
 .exact .inr h
def adL:ST:=λts q=>∃ns:xy,ts=[scT ns]/\ns.length<=63/\q (.fz (.bl true))
def ajp(T:Tx D)(F:Fu Ws Zx f fd):FT 15 f fd R4 adL:=by
 refine F.okU Xh λah A outer s H E hr nd=>?_;refine⟨_,(bF (bN 1 (bI (abS T) (bx (bI (agu T) (bx wr (bx bA bC))) bC)))
  (bF (bN 2 (bI (afa T) (bx (bI (agu T) (bx wr (bx bA bC))) bC)))
  (bF (bN 3 (bI (abB T) (bx wr (bx bA (bx we (bx bA bC))))))
  (bF (bN 4 (bI (aeG T) (bx (bI (agu T) (bx wr (bx bA bC))) (bx wn (bx wa bC)))))
  (bF (bN 5 (bI (aaM T) (bx (bI (agu T) (bx wr (bx bA bC))) (bx wa bC))))
  (bF (bN 6 (bI (abb T) (bx (bI (agu T) (bx wr (bx bA bC))) (bx bA bC))))
  (bF (Gh (bI (Xg T) (bx wP bC)) (fj (n:=2) (bQ (bW (n:=99) 11) (bQ (bW (n:=99) 12) dB))))
  (bF (bN 7 (lF z8 T.vP boot_list (bx wE bC)))
  (bF (gQ 8 (aiG (bI (Wn T) (bx wP (bx (qv 7) bC))) (bI (Wn T) (bx wP (bx (lF z8 T.vP boot_list (bx (qv 11) bC)) bC)))))
  (bF (cC (eE (dI (bI (R8 T) (bx wP (bx (bJ (qv 6) bA) (bx wE (bx wa bC)))))))
  (bH (bO j5))
  bT)
  (bF (cC (QW.qt (jD (eE (dI (bI (Mw T) (bx (qv 12) (bx we bC))))) (jD (KR 8 (bY (mY hr.units) (bJ (qv 8) bA) (bL cG (dh (bx (cN (bx bA (bx bA bC))) bC)) we))) (ig (bY (mY hr.units) (qv 7) wE)))))
  (bH (bO j5))
  bT)
  (bF (cC (eE (KR 8 (dI (bI (ac2 T) (bx (bJ (qv 8) bA) (bx wn (bx wa (bx wE (bx (qv 12) bC)))))))))
  (bH (bO j5))
  bT)
  (bF (cC (bY (go_eq hr.units) we bA)
  (bH (bO j5))
  bT)
  (bF (bN 9 (bL cA (bJ (qv 6) bA) we))
  (bF (gQ 10 (dh (bx (bJ (bI (P0 T) (bx wP (bx wE bC))) (qv 9)) bC)))
  (bF (aoN (aee PassesOwn.never rfl (adD (by rfl) T.Wb (dG (Ew (Lj T) hr.md (by rfl) (dG (pv 4) (dG (pv 5) (dG (pv 9) nq)))) (dG (vW ab3 (pv 8) FW (λ_ _=>rfl)) nq)).mono) (ae6 (n:=2) rfl (Kg (jQ (i:=13) Xh.nd rfl (Or.inl rfl)) (Kg (jQ (i:=14) Xh.nd rfl (Or.inl rfl)) YW)))
     (zY (mD (Yn (pv 10) (dG (Qw (dG (abU PB (vW Jm (pv 13) FW (λ_ _=>rfl)) (vW Jm (pv 14) FW (λ_ _=>rfl))) (dG (abU PB (vW Jm (pv 13) FW (λ_ _=>rfl)) (vW Jm (pv 14) FW (λ_ _=>rfl))) nq))) nq))))))
  (bF (afq 8 bA)
  (bF (YD 8 bA (cN (bx bA (bx bA bC))))
  (bF (cC (eE (dI (bI (ac2 T) (bx (bI (Wn T) (bx wP (bx (qv 7) bC))) (bx wn (bx wa (bx wE (bx (qv 12) bC))))))))
  (bH (bO j5))
  bT)
  (bH (Gy 10 (bO (bI (abZ T) (bx (bJ (qv 12) (qv 9)) (bx (bI (aji T) (bx (qv 10) bC)) bC))))))))))))))))))))))))),?_⟩
 rintro _ R ⟨ns,rfl,nl,q⟩;have LB:∀{s:Rat}{m:Nat}{ac:zS}{nm:Φ}{off:zi}{pl:ze}{ps:xi}{p:PWs},aeb s m ac nm off pl ps p->∀p:PWs,PlT off p.1->nG s off p.1 p.2->(∀r∈p.2,FnB ((2*off.length*N29)^off.length) r)->LaB s off p.2:=λd p h1 h2 h3=>laB d.hs d.hd d.m6 d.ho h1 h2 h3;have lo:∀{s:Rat}{m:Nat}{ac:zS}{nm:Φ}{off:zi}{pl:ze}{ps:xi}{p:PWs},aeb s m ac nm off pl ps p->∀(iP:xi)(p':PWs),Hr s off ((2*off.length*N29)^off.length) (Ak off) iP->iP.getLast?=some p'->∀ql,((List.range off.length).map λk=>frR (yr s off p'.2 ql k))=lkT s m ac p.2 ql:=λ{s m ac nm off pl ps p}d iP p' h' e' ql=>by
  rw[show off.length=m from d.ho.len.trans d.hd.len,ZR d.hs d.hd d.ho d.B d.hm d.el h' e'];exact UQ λk _=>by rw[agC d.hd d.ho]
 refine sq9 (λo=>∃s m ac nm off pl ps p,aeb s m ac nm off pl ps p/\o=o29 D ns s m ac nm off pl p (ns.getD 4 0) (.l2 [lkT s m ac p.2 pl,lkT s m ac p.2 p.1]) .und .und) ?_ λY hY=>?_
 rotate_left
 .refine⟨ns,2,rfl,by exact aL nl wb,_,rfl,λs hs=>⟨ns,0,rfl,by exact aL nl wb,_,rfl,λm m6=>⟨ns,5,m,4,rfl,by exact aL nl wb,by exact aL m6 wb,by decide,λac hd=>?_⟩⟩⟩;dsimp only;rw[aeD];refine⟨ns,1,rfl,by exact aL nl wb,_,s,m,4,ac,rfl,hs,hd,by exact aL m6 wb,by decide,λnm off hn hok ho=>?_⟩;have dl:=hd.len;have B:=apB hs hd m6 ho;refine⟨ns,3,rfl,by exact aL nl wb,_,ac,rfl,by lia,λpl hpl=>⟨ns,4,rfl,by exact aL nl wb,_,2,rfl,by decide,s,nm,off,N29,rfl,hok,B,λps p hm el=>?_⟩⟩;have dr:aeb s m ac nm off pl ps p:=⟨hs,m6,hd,hok,ho,B,hpl,hm,el⟩;refine⟨rfl,s,nm,off,pl,N29,rfl,hok,Il ho hpl,B,LB dr,λps1 p1 h1 e1=>⟨s,nm,off,p.1,N29,rfl,hok,(hm.told.ok p (Q4 el)).1,B,LB dr,λps2 p2 h2 e2=>?_⟩⟩;rw[lo dr ps1 p1 h1 e1,lo dr ps2 p2 h2 e2];exact hY _ ⟨s,m,ac,nm,off,pl,ps,p,dr,rfl⟩
 rintro _ ⟨s,m,ac,nm,off,pl,ps,p,dr,rfl⟩;obtain⟨hs,m6,hd,hok,ho,B,hpl,hm,el⟩:=dr;have dr:aeb s m ac nm off pl ps p:=⟨hs,m6,hd,hok,ho,B,hpl,hm,el⟩;have dl:=hd.len;have ol:off.length=m:=by rw[ho.len,dl]
 have hp:=Il ho hpl;obtain⟨k1,k2,k3⟩:=hm.told.ok p (Q4 el);have dS:=Xz hd ho hm el;obtain⟨yb,yk⟩:=ah6 hs hd m6 ho k1 k2 k3;have ri:∀k,k<m->0<=dY s ac p.2 pl k/\Rz 2400 2400 (dY s ac p.2 pl k):=λk hk=>let⟨a,b⟩:=WQ hs hd dS yb yk hpl k hk;⟨a,b.mono wb wb⟩;generalize ns.getD 4 0=c;refine sq3 (λo=>o=o29 D ns s m ac nm off pl p c (.l2 [lkT s m ac p.2 pl,lkT s m ac p.2 p.1]) .und .und) ?_ λY hY=>?_
 rotate_left
 .have eo:off.map List.length=ac.map List.length:=by
   refine T2 (by rw[ak,ak,ho.len]) λk k1 k2=>?_;rw[ak]at k1 k2;rw[UX,UX];obtain⟨tl,gv,e⟩:=ho.at_ k _ _ (aj k2) (aj k1);rw[e,ak,VU,gv,UU]
  have z0:((List.range m).map λk=>dY s ac p.2 p.1 k)=List.replicate m 0:=by
   refine T2 (by rw[ak,WP,aN]) λk h1 h2=>?_;rw[ak,WP]at h1;rw[UX,QU,List.getElem_replicate,Lb hd dS (Ru ho k1) h1,<- Qj hd ho (by rw[k1.len];lia),<- k2.2 k wf]
   grind
  have lm:lkT s m ac p.2 p.1=((List.range m).map λk=>dY s ac p.2 p.1 k).map frR:=by rw[WJ];rfl
  refine sq1 (λo=>o=o29 D ns s m ac nm off pl p c (.l2 [lkT s m ac p.2 pl,lkT s m ac p.2 p.1]) .und .und) ?_ λY hY=>⟨_,dU (k:=1),s,nm,off,_,pl,ac,m,4,rfl,hok,hd,by exact aL m6 wb,by decide,eo,hp,hY _ rfl⟩;rintro _ rfl;refine ahh (λq h=>⟨p.2,m,rfl,dS.len,by exact aL m6 wb,h⟩) (λq h=>?_) (λq h=>?_) ⟨_,rfl,s,m,4,ac,pl,p.2,rfl,hs,hd,by exact aL m6 wb,hpl,dS.len,yb,ri,hY _ rfl⟩
  .refine⟨_,rfl,⟨by lia,by lia,by show 1*_<=_;exact aL (show _<=6 by lia) wb⟩,λz hz=>?_⟩;have hz:z=(List.replicate m (0:Rat)).map frR:=by rw[hz,List.map_replicate];exact List.flatten_replicate_singleton
   dsimp only[frz];rw[hz,lm,z0];refine afr.gEq ?_;rwa[Zs rfl]
  .dsimp only[rB,rOp];refine aej (t:=.lst (pl.map dT)) rfl (aej (t:=.lst (pl.map dT)) rfl ?_);refine Vq.gEq (a:=pl) (c:=pl) ?_;rwa[Zs rfl]
 rintro _ rfl;refine swD (λ_=>q) λn0=>?_;have mp:(0:Int)<(m:Nat):=by lia
 obtain⟨st,es,ls⟩ : ∃a:Nat,strm c 0%(m:Nat)=(a:Nat)/\a<m:=by
  have h1:=Z3 (strm c 0) (show((m:Nat):Int)≠0 by omega);have h2:=YY (strm c 0) mp;exact⟨(strm c 0%(m:Nat)).toNat,by lia,by lia⟩
 refine⟨_,dU (k:=0),mp,?_⟩;dsimp only[frz];rw[es];refine⟨s,nm,off,pl,N29,rfl,hok,hp,B.few,B.wo pl hp,λy hw hb=>?_⟩;have ym:((List.range off.length).map y).map frR=(List.range off.length).map λi=>frR (y i):=by rw[WJ];rfl
 have wz:=V2 B.sh hp hw;rw[<- ym];have zb:∀r∈(List.range off.length).map y,FnB ((2*off.length*N29)^off.length) r:=λr hr=>by
  obtain⟨i,hi,rfl⟩:=YV.mp hr;exact hb i (List.mem_range.mp hi)
 generalize(List.range off.length).map y=zs at wz zb ⊢;have zk:=(ah6 hs hd m6 ho hp wz zb).2;have zl:zs.length=m:=by rw[wz.1,ol]
 refine⟨_,dg (u_ zl ls),?_⟩;show rP _ _ _ (o29 D ns s m ac nm off pl p c (.l2 [lkT s m ac p.2 pl,lkT s m ac p.2 p.1]) (.fz (.int (st:Nat))) (.l1 [frR (zs.getD st 0)]));intro own H1 σ Dn h L;obtain⟨u4,e4,r4⟩:=h.get (i:=4) (t:=hlT D s nm off) rfl;obtain⟨u5,e5,r5⟩:=h.get (i:=5) (t:=.lst (pl.map dT)) rfl;obtain⟨u9,e9,r9⟩:=h.get (i:=9) (t:=.int (st:Nat)) rfl;cases r9;obtain⟨l,bs,e8,o8,nd,hl,lb,hc⟩:=h.l2 (i:=8) (tss:=[lkT s m ac p.2 pl,lkT s m ac p.2 p.1]) rfl;obtain⟨b0,b1,rfl⟩ : ∃b0 b1,bs=[b0,b1]:=by
  match bs,lb with
  |[b0,b1],_=>exact⟨b0,b1,rfl⟩
 obtain⟨c0,xs0,e10,kL,pf,mh,p9⟩:=h.l1 (i:=10) (c:=.l1) (.inl ⟨rfl,rfl⟩);obtain⟨ys,hb0,ry⟩:=hc 0 b0 _ rfl rfl;have yl:ys.length=m:=by rw[ry.len,ak,WP]
 have l15:σ.length=15:=h.len.symm;have c0o:Ow own c0:=⟨10,by rw[kL];simp⟩;have b0c:b0≠c0:=λz=>by
  have:=h.dis 8 10 b0 (by rw[o8];simp) (by rw[kL,z];simp);lia
 refine aaF ⟨_,e4,_,e5,_,e9,_,λx=>∃v:Nat->Rat,x=.l1 ((List.range off.length).map λi=>frR (v i))/\abQ s (chO off pl) st v/\∀i,i<off.length->FnB ((2*off.length*N23 m)^off.length) (v i),.cons (r4.same cQ) (.cons (r5.same cQ) (.cons (.int _) .nil)),⟨s,nm,off,pl,st,N23 m,rfl,hok,hp,by lia,by lia,apA hs hd (aL m6 wb) ho hp st,λv hv hb=>⟨v,rfl,hv,hb⟩⟩,?_⟩;rintro H2 _ _ ⟨v,rfl,hv,hvb⟩ S2 ⟨B2,nb,a2,xs2,ea,rfl,ha2,rx2⟩;cases ea;have a2c:a2≠c0:=λz=>by
  have:=nb a2 wp;rw[z,pf]at this;cases this
 have vz:∀k,k<m->Rz 260 260 (v k):=λk hk=>by
  have:=hvb k wf;rw[ol]at this;exact⟨aL this.n (abC (aL m6 wb)).1,aL this.d (abC (aL m6 wb)).1⟩
 have xl2:xs2.length=m:=by rw[rx2.len,ak,WP,ol]
 refine⟨_,e8,l,[.ref b0,.ref b1],0,.ref b0,rfl,rfl,S2 _ _ hl,rfl,a2,b0,xs2,ys,rfl,ha2,S2 _ _ hb0,by rw[xl2,yl],λk σ' H'=>σ'.length=σ.length/\(∀i,i∉[13,14]->σ'[i]?=σ[i]?)/\(∀b u,b≠c0->H2 b=some u->H' b=some u)/\∃ws,H' c0=some (.lst ws)/\b_ K (L2.hd (Ow own) H') ws (frR (zs.getD st 0)::(List.range k).map (prT v (dY s ac p.2 pl))),⟨rfl,λ_ _=>rfl,λ_ _ _ z=>z,xs0,S2 _ _ pf,mh.same (bU S2)⟩,?_,?_⟩
 .rintro k x y σ' H' t ex ey ⟨sl,se,hk,ws,fN,dv⟩ ir ck ht;have km:k<m:=by rw[<- yl];exact(ao.mp ey).1
  obtain⟨x',pE,rx⟩:=rx2.at_ (i:=k) (t:=frR (v k)) (by rw[aq,VW wf];rfl);obtain⟨y',kC,ryk⟩:=ry.at_ (i:=k) (t:=frR (dY s ac p.2 pl k)) (by rw[aq,VW km];rfl);rw[ex]at pE;rw[ey]at kC;cases pE;cases kC;obtain⟨q1,rfl,s1⟩:=Vh rx;obtain⟨q2,rfl,s2⟩:=Vh ryk;have S3:Same H' (upd H' t (.tup [.ref q1,.ref q2])):=Same.upd ht;have s1:SqT K (upd H' t (.tup [.ref q1,.ref q2])) q1 [.int (v k).num,.int ((v k).den:Nat)]:=adX s1 λb u hu e=>S3 _ _ (hk b u (λz=>by
   have e:=(cT e).2;rw[z,S2 _ _ pf]at e;cases e;exact hu _ rfl) (cT e).2)
  have s2:SqT K (upd H' t (.tup [.ref q1,.ref q2])) q2 [.int (dY s ac p.2 pl k).num,.int ((dY s ac p.2 pl k).den:Nat)]:=adX s2 λb u hu e=>S3 _ _ (hk b u (λz=>(cT e).1 (z ▸ c0o)) (S2 _ _ (cT e).2));have g:∀i,i∉[13,14]->((σ'.set 13 (some (.ref q1))).set 14 (some (.ref q2)))[i]?=σ[i]?:=λi hi=>by rw[VQ (λz=>hi (by rw[<- z];decide)),VQ (λz=>hi (by rw[<- z];decide)),se i hi]
  have g13:((σ'.set 13 (some (V.ref q1))).set 14 (some (.ref q2)))[13]?=some (some (.ref q1)):=by rw[VQ wb,UT wf]
  have g14:((σ'.set 13 (some (V.ref q1))).set 14 (some (.ref q2)))[14]?=some (some (.ref q2)):=by rw[UT (by rw[VY];lia)]
  obtain⟨b1',b2'⟩:=(vz k km).bq wb wb;obtain⟨b3',b4'⟩:=(WQ hs hd dS yb yk hpl k km).2.bq wb wb;refine⟨t,_,rfl,cj,rfl,_,_,rfl,_,_,rfl,rfl,_,(g 10 wb).trans e10,c0,ws,rfl,S3 _ _ fN,_,g13,q1,_,0,_,rfl,rfl,s1,rfl,_,g14,q2,_,0,_,rfl,rfl,s2,rfl,_,_,rfl,rfl,⟨b1',b3'⟩,_,g13,q1,_,1,_,rfl,rfl,s1,rfl,_,g14,q2,_,1,_,rfl,rfl,s2,rfl,_,_,rfl,rfl,⟨b2',b4'⟩,(show 2<=sizeLine by decide),λpa H4 S4 fp ep=>⟨_,ws,rfl,S4 _ _ (S3 _ _ fN),?_,?_⟩⟩
  .rw[dv.len];exact Y3 (show _<=10 by rw[List.length_cons,ak,WP];lia) wb
  have S5:=S3.trans S4;refine⟨by rw[bZ a2c];exact S5 _ _ ir,by rw[bZ b0c];exact S5 _ _ ck,by rw[VY,VY,sl],g,λb u bc e=>by rw[bZ bc];exact S5 _ _ (hk b u bc e),ws++[.ref pa],cj,?_⟩;rw[Bv c0o,List.range_succ,bf,<- List.cons_append];refine(dv.same (bU S5)).app (.cons (.tup (.inl (Rd.of ((cW λz=>?_).trans ep))) (.cons (.int _) (.cons (.int _) .nil))) .nil);exact(h.sole z).ne (by
   cases e:H1 pa with
   |none=>rfl
   |some u =>
    exfalso;have nc:pa≠c0:=λz=>by rw[z,S3 _ _ fN]at fp;cases fp
    rw[S3 _ _ (hk pa u nc (S2 _ _ e))]at fp;cases fp)
 .rintro σ' H' ⟨sl,se,hk,ws,fN,dv⟩ _ _;obtain⟨h',SS⟩:=h.chg (H':=H') (i:=10) (x:=.l1 [frR (zs.getD st 0)]) rfl (y:=.l1 (frR (zs.getD st 0)::(List.range m).map (prT v (dY s ac p.2 pl)))) (λb u nb e=>hk b u (λz=>nb (by rw[kL,z];simp)) (S2 _ _ e)) (by rw[e10,kL];exact p9 H' ws _ fN (by rwa[<- xl2]));refine L.nx own H' σ' _ ?_ SS ⟨h'.len.trans sl.symm,λi x e=>?_,h'.out,h'.dis⟩
  rotate_left
  .by_cases c:i∈[13,14]
   .have:x=.und:=by
     rcases YU.mp c with rfl|c
     .exact(Option.some.inj e).symm
     .cases YR.mp c;exact(Option.some.inj e).symm
    subst this;exact h'.sl i _ e
   .rw[se i c];exact h'.sl i _ e
  have lq:(lkT s m ac p.2 pl).reverse.length<sizeLine:=by
   rw[List.length_reverse,ak,WP];exact Y3 m6 wb
  refine⟨0,_,rfl,rfl,0,_,rfl,rfl,lq,s,nm,off,pl,N29,rfl,hok,hp,B,LB dr,λps3 p3 h3 e3=>?_⟩;rw[lo dr ps3 p3 h3 e3];refine⟨s,m,4,ac,pl,p.2,rfl,hs,hd,by exact aL m6 wb,hpl,dS.len,yb,ri,?_⟩;have yz:=yk _ (aC (u_ dS.len ls));have zz:=zk _ (aC (u_ zl ls));have sm:=abA B.sh hd ho hpl wz dS ls hv;refine⟨_,dg (u_ dS.len ls),((zs.getD st 0).num,((zs.getD st 0).den:Int))::(List.range m).map λk=>((v k).num*(dY s ac p.2 pl k).num,((v k).den:Int)*((dY s ac p.2 pl k).den:Int)),?_,?_,λx hx=>?_,λa b b0 ba bb ev=>?_⟩
  .show[L2.T.lst (frR (zs.getD st 0)::(List.range m).map (prT v (dY s ac p.2 pl)))]=_;rw[List.map_cons,WJ]
   rfl
  .rw[List.length_cons,ak,WP];lia
  .have up:∀{n:Nat}{i:Nat},i<=10^n->n<=3000->i<=10^3000:=λh l=>aL h (XT wb l);rcases YU.mp hx with rfl|hx
   .have:=(zs.getD st 0).den_pos;exact⟨by show(0:Int)<((zs.getD st 0).den:Int);lia,up zz.1 wb,up (by rw[XG];exact zz.2) wb⟩
   .obtain⟨k,hk,rfl⟩:=YV.mp hx;have hk:=List.mem_range.mp hk;have p1:=(v k).den_pos;have p2:=(dY s ac p.2 pl k).den_pos;have z1:=vz k hk;have z2:=(WQ hs hd dS yb yk hpl k hk).2;refine⟨XZ wf wf,up (n:=260+1285) ?_ wb,up (n:=260+1251) ?_ wb⟩
    .rw[VZ,VX];exact W1 z1.1 z2.1
    .rw[VZ,XG,XG,VX];exact W1 z1.2 z2.2
  .have dp:=(p.2.getD st 0).den_pos;refine⟨_,_,a,b,rfl,by lia,b0,⟨C_ yz.1 wb,C_ (n:=246) (by rw[XG];exact yz.2) wb,ba,bb⟩,?_⟩;rw[rd,ev,Zs ?_]
   .exact q
   .unfold agj;rw[List.map_cons,WJ,List.sum_cons,sm,rd]
    congr 1
    rw[<- aer];refine ZH List.sum (UQ λk _=>?_);show _=Rat.divInt ((v k).num*(dY s ac p.2 pl k).num) (((v k).den:Int)*((dY s ac p.2 pl k).den:Int));rw[<- Qr,rd,rd]
end
def ajk{K:Frag}{vs:Ζ}{Q:VK}{E:XK}(h:Zd K vs H Q E):spT K adL vs H Q E:=by
 obtain⟨a,ns,rfl,hs,hl,_,hQ⟩:=h;refine⟨[scT ns],λx=>x=.fz (.bl true),.cons (.scr hs (Fv ns)) .nil,⟨ns,rfl,hl,rfl⟩,?_⟩;rintro H' v _ rfl _ ⟨B,_,_,u,e,r⟩;cases e;cases r;exact hQ H'
def law_fn{l:PySem.W.OpenLaw}{w:World}{K:Frag}{mg:Str->Ω}(T0:∃D,Txt K mg D)(base:Heap)(f:Addr)(fd:FuncData)(F:Fun K Ws Ws Zx f fd) :
  fL l.prog w K mg base CX0 15 f fd R4 (Zd K):=by
 obtain⟨D,T⟩:=T0
 letI:Bs:=⟨l.prog,w,K,mg,base⟩
 exact(ajp T F).imp λ_ _ _ _ h=>ajk h
end K29
end
open PySem PySem.W PyProof.Rows L2
set_option maxRecDepth 100000 in
set_option maxHeartbeats 0 in
theorem PySem.Challenge.cw_chancehall_k29_lacks_holds : PySem.Challenge.rw_chancehall_k29_lacks.Holds := by
 w_on
 refine holds_law H29.wsd λlT=>?_;refine holds_open (q:=H29.qv) (loose:=[]) (XP:=XL H29.qv []) (YP:=InK H29.KH) H29.left (InK.of H29.asK) InK.keeps H29.hX XL.keeps (by rfl) (by rfl) (by rfl) H29.hR (by rfl) lT (by decide +kernel) ⟨rfl,rfl,rfl,rfl,rfl,by decide +kernel⟩ ?hw ?hc
 (case hw=>w_witness2)
 k_fill
 refine L2.aj6 (l:=PySem.Challenge.rw_chancehall_k29_lacks) (k:=15) (x := "_law_script") rfl rfl ⟨rfl,by decide,by decide⟩ (λw h Y=>(show(H29.KH w.params).In h from Y)) ?F
 case F =>
  intro w mg fa h KX G gX;refine⟨K29.Zx,?_,λbase f fd F=>K29.law_fn ?T base f fd F⟩
  .exact q_f
  case T =>
   refine⟨⟨31,118,477,498,517,536,553,638,135,136,460,467,495,514,533,550,595,602,623,635,115⟩,⟨q_c,q_c,q_c,q_c,q_c,q_c,q_c,q_c,q_c,q_c,by k_is,by k_is,q_g,q_t,q_t,q_4,q_m,q_n,q_n,q_n,q_n,q_n,q_n,q_M,q_4,q_m,q_n,q_n,q_n,q_n,q_n,q_n,q_M,q_4,q_m,q_n,q_n,q_n,q_n,q_n,q_n,q_M,q_4,q_m,q_n,q_n,q_n,q_n,q_n,q_n,q_M,q_4,q_m,q_n,q_n,q_n,q_n,q_n,q_n,q_M,q_4,q_m,q_m,q_m,q_n,q_n,q_n,q_n,q_n,q_n,q_E,q_S,q_5,by k_is,by k_is,q_n,q_b,q_B,q_h,q_h,q_h,q_B,q_h,q_h,q_h,q_h,q_h,q_h,q_h,q_h,q_z,q_z,q_z,q_z,q_z,q_z,q_z,q_z,q_z,q_z,q_z,q_z,q_z,q_z,q_f,q_f,q_f,q_f,q_f,q_f,q_f,q_f,q_f,q_f,q_f,q_f,q_f,q_f,q_f,q_f,q_f,q_f,q_f,q_f,q_f,q_f,q_f,q_f,q_f,q_f,q_f,q_f,q_f,q_f,q_f,q_f,q_f,q_f,q_f,q_f,q_f,q_f,q_f,q_f,q_f,q_f,q_f,q_f,q_f,q_f,q_f,q_f,q_f,q_f,q_f,q_f,q_f,q_f,q_f,q_f,q_f,q_f,q_f,q_f,q_f,q_f,q_f,q_f,q_f,q_f,q_f,q_f,q_f,q_f,q_f,q_f,q_f,q_f,q_f,q_f,q_f,q_f,q_f⟩⟩
#print axioms PySem.Challenge.cw_chancehall_k29_lacks_holds
