import PyProof.Rows.All
import Wide.All
import OpenK.AllK
import Wide.FinOn
import Lean
import PyProof.EqAt
import PyProof.EqKinds
import PyProof.TupleCall
import PyProof.EqLayable
import KE.KIntText
import PyProof.EnumMake
import PyProof.EnumStmt
import PyProof.EnumFor
import PyProof.Rows.EnumRows
import PyProof.ExcInit
import PyProof.ExcClass2
import PyProof.InstStoreFacts
import KE.KRevIter
import PyProof.P3In
import PySem.Challenge.RW_chancehall_k39_whole_no_plan_beyond
def aj := @List.getElem?_eq_getElem
def ak := @List.length_map
def ao := @List.getElem?_eq_some_iff
def aq := @List.getElem?_map
def au := @List.getD_eq_getElem?_getD
def aA := @List.length_append
def aC := @List.mem_of_getElem?
def aD := @List.getElem?_append_right
def aF := @List.getElem?_append_left
def aG := @Nat.le_refl
def aH := @PySem.Heap.get?_push_of_some
def aJ := @List.mem_cons_of_mem
def aK := @PySem.Heap.lt_size
def aL := @Nat.le_trans
def aM := @List.getElem?_eq_none
def aN := @List.length_replicate
def aO := @List.mem_cons_self
def aP := @List.mem_append_right
def aQ := @Nat.ne_of_lt
def aR := @Nat.lt_of_lt_of_le
def aU := @List.getElem_mem
def aV := @List.getElem?_of_mem
def aW := @PySem.Heap.get?_push_size
def aX := @List.size_toArray
def aY := @List.length_take
def aZ := @Nat.zero_le
def bf := @List.map_append
def bx := @Bool.false_ne_true
open PySem.W (Frag instObj methodObj lookIn plainGet hasDictIn findIn handedIn plainGet_of isFn plainOver takerIn makesIn emptyDict keepIn specialIn mroIn kitOne kia_one kitx_list kitx_tuple callWith_K methodCall_KW codeIn nsIn mg_of excIn readsIn findCls)
section
open PySem PySem.Spec PyProof.Rows
abbrev Γ:=List (Int×Int)
abbrev Δ:=List (Addr×Obj)
abbrev Θ:=List Value
abbrev Φ:=List Str
abbrev Ψ:=List Addr
abbrev Ω:=Option Value
abbrev Ξ:=Option Addr
abbrev Β:=Int×Int
abbrev Ε:=Value->Shared->Prop
def Zs:=@decide_eq_true
def Zp:=@decide_eq_false
def ZZ:=@if_neg
def ZY:=@if_pos
def ZU:=@wpAny_bind
def ZT:=@wpAny_pure
def ZH:=@congrArg
def Z3:=@Int.emod_nonneg
def YY:=@Int.emod_lt_of_pos
def YV:=@List.mem_map
def YU:=@List.mem_cons
def YR:=@List.mem_singleton
def Y1:=@List.mem_append
def Y2:=@Nat.le_of_lt
def Y3:=@Nat.lt_of_le_of_lt
def Xs:=@Nat.le_succ
def XZ:=@Int.mul_pos
def XY:=@Int.le_of_lt
def XX:=@Nat.lt_of_le_of_ne
def XW:=@Bool.false_eq_true
def XV:=@Rat.intCast_mul
def XU:=@Nat.pow_le_pow_right
def XT:=@Int.natAbs_natCast
def XG:=@List.getElem?_replicate
def X0:=@Nat.lt_succ_self
def X1:=@Nat.le_add_right
def X2:=@Nat.lt_irrefl
def X9:=@Int.natCast_nonneg
def Wp:=@List.append_assoc
def WZ:=@Nat.not_lt_zero
def WV:=@Nat.lt_add_right
def WU:=@List.map_map
def WS:=@Int.ne_of_gt
def WP:=@List.length_range
def WJ:=@Nat.le_of_eq
def WG:=@PySem.boot_len
def WH:=@List.length_zip
def W1:=@Rat.le_refl
def VZ:=@List.length_set
def VY:=@List.not_mem_nil
def VX:=@List.getElem?_range
def VW:=@List.getElem_map
def VV:=@Int.natAbs_mul
def VU:=@Nat.mul_le_mul
def VT:=@Nat.le_of_lt_succ
def VS:=@Nat.le_of_not_lt
def VQ:=@Nat.ne_of_gt
def Up:=@Nat.min_self
def UZ:=@Nat.le_of_dvd
def UY:=@List.getElem?_set_ne
def UX:=@List.map_congr_left
def UV:=@List.of_mem_zip
def UU:=@List.mem_append_left
def UT:=@Nat.le_of_ble_eq_true
def US:=@List.getElem?_set_self
def UR:=@Nat.one_pos
def UQ:=@List.ext_getElem
def UP:=@Rat.le_of_lt
def UK:=@List.any_map
def UH:=@Nat.sub_self
def U1:=@Nat.zero_add
def U2:=@List.length_zipIdx
def Tu:=@List.getElem_range
def Ts:=@List.length_drop
def Tk:=@Nat.lt_trans
def Th:=@List.map_set
def TZ:=@Nat.not_lt_of_le
def TW:=@List.getElem_zip
def TU:=@Int.one_mul
def TR:=@Rat.divInt_eq_div
def TK:=@Nat.mul_comm
def TH:=@Nat.succ_pos
def T1:=@Nat.add_sub_cancel_left
def T2:=@List.drop_eq_nil_of_le
def JY:=@List.length_zipWith
def JU:=@Rat.zero_add
def JS:=@Nat.one_dvd
def JP:=@Int.lt_of_not_ge
def JJ:=@Int.gcd_dvd_right
def Qr:=@Int.natCast_mul
def QY:=@Rat.divInt_eq_divInt_iff
def QU:=@Rat.divInt_add_divInt
def QR:=@Rat.zero_divInt
def QQ:=@List.drop_eq_getElem_cons
def QP:=@Bool.and_eq_true
def Q1:=@Option.getD_some
def Q2:=@List.getElem_zipIdx
def Q3:=@Rat.intCast_zero
def Q4:=@Int.mul_ediv_cancel_left
def Zzz:=@Nat.mul_le_mul_left
def Zzy:=@List.take_of_length_le
def Zzx:=@List.set_eq_of_length_le
def Zzw:=@Int.gcd_pos_of_ne_zero_right
def Zzv:=@Int.ediv_pos_of_pos_of_dvd
def Zzu:=@Nat.le_mul_of_pos_left
def Zzt:=@List.find?_cons_of_pos
def Zzs:=@List.find?_cons_of_neg
end
set_option Elab.async false
set_option linter.all false
set_option maxRecDepth 100000
set_option maxHeartbeats 4000000
namespace L2.Once
noncomputable section
open PySem PySem.W
def z:Pos:=⟨0,0,0,0⟩
def tE:Obj:=⟨.type "tuple",none,.seq ⟨[]⟩ 0,⟨[]⟩⟩
def fE:Obj:=⟨.none,none,.fields ⟨[]⟩,⟨[]⟩⟩
def tN(t:Nat)(l:Φ):Obj:=⟨.type "tuple",none,.seq ⟨(l.zipIdx t).map λx=>.str x.1 x.2⟩ 0,⟨[]⟩⟩
def cO(n q:Str)(t:Nat)(l a f:Int)(r u:Nat):Obj:=⟨.type "code",none,.fields ⟨[.str n t,.str q (t+1),.str "/claim/cut.py" (t+2),.int l 0,.int a 0,.int 0 0,.int 0 0,.int f 0,.ref r,.bool true,.int 181 0,.ref (r+1),.none,.ref (r+2),.ref (r+3),.ref (r+4),.int u 0,.int l 0,.str "/claim/cut.py" (u+1)]⟩,⟨[]⟩⟩
def o11:Obj:={ cls:=.type "tuple",data:=.seq #[] }
def o12:Obj:={ cls:=.none,data:=.fields #[] }
noncomputable def o13:Obj:={ cls:=.type "code",data:=.fields #[.str "<module>" 182,.str "<module>" 183,.str "/claim/cut.py" 184,.int 1 0,.int 0 0,.int 0 0,.int 0 0,.int 0 0,.ref 11,.bool false,.int 181 0,.ref 12,.none,.none,.none,.none,.int 185 0,.int 1 0,.str "/claim/cut.py" 186] }
noncomputable def o14:Obj:={ cls:=.type "frame",slots:=#[some (.ref 13),some (.ref 3),some (.ref 3),none,some (.str "__main__" 164),none,some (.ref 0)] }
def cP(n q:Str)(t:Nat)(l a f:Int)(r u:Nat):Obj:=⟨.type "code",none,.fields ⟨[.str n t,.str q (t+1),.str "/claim/cut.py" (t+2),.int l 0,.int a 0,.int 0 0,.int 0 0,.int f 0,.ref r,.bool true,.int 181 0,.ref (r+1),.none,.none,.none,.ref (r+2),.int u 0,.int l 0,.str "/claim/cut.py" (u+1)]⟩,⟨[]⟩⟩
def dE(P:Params)(x:Str)(t:Nat)(v:Value):DictEntry:=⟨PyData.keyHash P x,.str x t,v⟩
abbrev lf(o:Obj):BT:=.node o .nil .nil
def tr(P:Params):BT:=.node (boot_o_0 P)
 (.node (boot_o_1 P) (.node (boot_o_3 P) (lf (boot_o_7 P)) (lf o11)) (.node (boot_o_5 P) (lf (boot_o_9 P)) (lf o13)))
 (.node (boot_o_2 P) (.node (boot_o_4 P) (lf (boot_o_8 P)) (lf o12)) (.node (boot_o_6 P) (lf (boot_o_10 P)) (lf o14)))
def S0(w:World)(os:OsState):Shared:=⟨boot_heap w.params,Array.mk [],boot_drawn,boot_toks,os⟩
def Sa(w:World)(os:OsState):Shared:=⟨⟨Array.mk [boot_o_0 w.params,boot_o_1 w.params,boot_o_2 w.params,boot_o_3 w.params,boot_o_4 w.params,boot_o_5 w.params,boot_o_6 w.params,boot_o_7 w.params,boot_o_8 w.params,boot_o_9 w.params,boot_o_10 w.params,o11,o12,o13,o14],{}⟩,Array.mk [],{},187,os⟩
def Sb(w:World)(os:OsState):SharedT:=⟨tr w.params,15,{},⟨[]⟩,{},187,os⟩
def env(p:Program):Env:={ scope:=p.main.scope,locals:=mainNs,globals:=mainNs,cells:=[],code:=.ref 13,frame:=some 14 }
def cE(p:Program):Code:=.body (behindTheImports p) (env p)
abbrev ann:Ω:=some (.ref 6)
abbrev B:List Frame:=[topFrame z]
def size(w:World):((boot_heap w.params).isNs mainGlobals&&(Array.mk [] : Array GenState).size==0,(boot_heap w.params).objs.size,(boot_heap w.params).nsMap mainGlobals "__annotations__")=(true,11,ann):=by
 rw[Fast.te8920871248978507458];kernel_rfl
def pI(p:Program)(w:World)(M:Nat)(S:SharedT)(l:List Stmt)(q:Pos)(G:Shared->Prop):Prop:=∃s,topRun treeTable p w 11 ann M S.abs (restOf l (env p) (cE p) q B)=some s/\G s
def pI.cut{p:Program}{w:World}{n M:Nat}{S S':SharedT}{l1 l2:List Stmt}{q q':Pos}{G:Shared->Prop}(h:segRunT treeTable p w 11 ann 1 n S (piecesOf l1 (env p) (cE p) q B)=some (.next,S',cE p,q'))(k:pI p w M S' l2 q' G):pI p w (n+M) S (l1++l2) q G :=
 let⟨s,a,b⟩:=k
 ⟨s,piece_app (segRun_of h) a,b⟩
def pI.cutAt{p:Program}{w:World}{n m M:Nat}{S S':SharedT}{l:List Stmt}{q q':Pos}{G:Shared->Prop}(h:segRunT treeTable p w 11 ann 1 n S (piecesOf (l.take m) (env p) (cE p) q B)=some (.next,S',cE p,q'))(k:pI p w M S' (l.drop m) q' G):pI p w (n+M) S l q G:=by
 have:=pI.cut h k;rwa[List.take_append_drop]at this
def Good{α:Type}(p q:Program)(loose:Φ)(Xt:Shared->Bool)(Yf:Shared->α)(Ya:World->α)(g0:Bool)(w:World)(s:Shared):Prop :=
 (staticsOk (importedModules p.main.body) (boot_heap w.params) s.heap&&namesBound p s.heap&&gensDone s&&laidKept (boot_heap w.params) s.heap,openSeen q loose (importedModules p.main.body) Xt g0 s,Yf s)=(true,openGood q loose,Ya w)
def pI.last{p q:Program}{loose:Φ}{Xt:Shared->Bool}{α:Type}{Yf:Shared->α}{Ya:World->α}{g0:Bool}{w:World}{n k:Nat}{S:SharedT}{l:List Stmt}{q0 e:Pos}
 (big:(segRunT treeTable p w 11 ann 1 n S (piecesOf l (env p) (cE p) q0 B)).map (λr =>
    (r.1,r.2.2.1,r.2.2.2,(topRun treeTable p w 11 ann k r.2.1.abs ⟨doneF .next,cE p,e,B⟩).map λs =>
     (staticsOk (importedModules p.main.body) (boot_heap w.params) s.heap&&namesBound p s.heap&&gensDone s&&laidKept (boot_heap w.params) s.heap,openSeen q loose (importedModules p.main.body) Xt g0 s,Yf s))) =
   some (.next,cE p,e,some (true,openGood q loose,Ya w))):pI p w (n+k) S l q0 (Good p q loose Xt Yf Ya g0 w):=by
 obtain⟨⟨f,sT,c,ps⟩,r1,r2⟩:=Option.map_eq_some_iff.mp big;obtain⟨rfl,rfl,rfl,r3⟩ : f=.next/\c=cE p/\ps=e/\_:=by simpa only[Prod.mk.injEq]using r2
 obtain⟨s,t1,t2⟩:=Option.map_eq_some_iff.mp r3;have q1:=piece_app (rest:=[]) (segRun_of r1) (piece_nil t1);rw[List.append_nil]at q1;exact⟨s,q1,t2⟩
def aax{p q:Program}{loose:Φ}{Xt:Shared->Bool}{α:Type}{Yf:Shared->α}{Ya:World->α}{N:Nat}{g0:Bool}{a b M:Nat}
 (jp:∀w:World,(fencedOpening treeTable p w N).map (λs=>(s.heap,s.gens,s.drawn,s.toks))=some (boot_heap w.params,Array.mk [],boot_drawn,boot_toks))
 (pre:∀w:World,(λos=>topGo treeTable p w 11 ann a (S0 w os) (topStub p))=λos=>some (Sa w os,⟨denote treeTable (cE p),cE p,z,B⟩))
 (block:∀w:World,(λos=>segRun treeTable p w 11 ann 1 b (Sa w os) (blockOf (behindTheImports p) (env p) (cE p) z B))=λos=>some (.next,(Sb w os).abs,cE p,z))
 (ox:∀(w:World)(os:OsState),pI p w M (Sb w os) (behindTheImports p) z (Good p q loose Xt Yf Ya g0 w))
 (le:Nat.ble (a+(b+M)) N=true):LeftO p q loose Xt Yf Ya N g0:=λw=>by
 obtain⟨⟨h,gs,d,ks,os⟩,e1,e2⟩:=Option.map_eq_some_iff.mp (jp w);obtain⟨rfl,rfl,rfl,rfl⟩ : h=boot_heap w.params/\gs=Array.mk []/\d=boot_drawn/\ks=boot_toks:=by simpa using e2
 obtain⟨z1,z2,z3⟩ : _/\_/\_:=by simpa only[Prod.mk.injEq]using size w
 obtain⟨s,q1,t2⟩:=ox w os;obtain⟨l1,l2,l3⟩ : _/\_/\_:=by simpa only[Good,Prod.mk.injEq]using t2
 have q2:=go_top (congrFun (pre w) os) (piece_block (congrFun (block w) os) q1);have q3:=topRun_mono (N-(a+(b+M))) _ _ _ _ q2;rw[show a+(b+M)+(N-(a+(b+M)))=N by have:=UT le;omega]at q3;have t:topFrom treeTable p w N ⟨boot_heap w.params,Array.mk [],boot_drawn,boot_toks,os⟩=some s:=by
  unfold topFrom;dsimp only;rw[z1,z2,z3,show topRun treeTable p w 11 ann N ⟨boot_heap w.params,Array.mk [],boot_drawn,boot_toks,os⟩ (topStub p)=some s from q3];show(match staticsOk (importedModules p.main.body) (boot_heap w.params) s.heap&&namesBound p s.heap&&gensDone s&&laidKept (boot_heap w.params) s.heap with|true=>_|false=>_)=_;rw[l1]
 unfold openEnds;rw[e1];show(topFrom treeTable p w N _).map _=_;rw[t];exact ZH some (Prod.ext l2 l3)
end
end L2.Once
namespace L2
open PySem
def jE(s:Stmt):Arguments:=match s with
 |.FunctionDef _ a _ _ _ _ _ _ _ _=>a
 |_=>{ posonlyargs:=[],args:=[],vararg:=none,kwonlyargs:=[],kw_defaults:=[],kwarg:=none,defaults:=[] }
def gk(s:Stmt):List Stmt:=match s with
 |.FunctionDef _ _ b _ _ _ _ _ _ _=>b
 |_=>[]
def bH(s:Stmt):Scope:=match s with
 |.FunctionDef _ _ _ _ _ _ sc _ _ _=>sc
 |_=>{ kind:=.function,names:=[],isGenerator:=false,isCoroutine:=false }
end L2
namespace K39
open PySem L2
def top(i:Nat):Stmt:=PySem.Challenge.pw_chancehall_k39_whole_no_plan_beyond.main.body.getD i (.Pass ⟨0,0,0,0⟩)
def gJ(i j:Nat):Stmt:=match top i with|.ClassDef _ _ _ b _ _ _ _ _ _ _=>b.getD j (.Pass ⟨0,0,0,0⟩)|_=>.Pass ⟨0,0,0,0⟩
abbrev h_:Φ:=["thing"]
abbrev Xu:Φ:=h_
abbrev cN:Φ:=["one","other"]
abbrev Ot:Φ:=cN.append ["left","right","rest"]
abbrev mH:Φ:=["top","bottom"]
abbrev R8:Φ:=mH.append ["common"]
abbrev jm:Φ:=["thing"]
abbrev CJ:Φ:=jm.append ["top","bottom"]
abbrev Dj:Φ:=["one","other"]
abbrev ahQ:Φ:=Dj
abbrev qT:Φ:=["one","other"]
abbrev agF:Φ:=qT
abbrev z_:Φ:=["one","other"]
abbrev afM:Φ:=z_
abbrev El:Φ:=["one","other"]
abbrev ah8:Φ:=El
abbrev oU:Φ:=["one","other"]
abbrev aez:Φ:=oU
abbrev oG:Φ:=["fractions"]
abbrev YW:Φ:=oG.append ["bottom","one"]
abbrev yX:Φ:=["fractions"]
abbrev RN:Φ:=yX.append ["leveled"]
abbrev lD:Φ:=["fractions"]
abbrev rE:Φ:=lD.append ["found","one"]
abbrev uO:Φ:=["fractions"]
abbrev afg:Φ:=uO.append ["found","one"]
abbrev iU:Φ:=["hall"]
abbrev vB:Φ:=iU
abbrev Fe:Φ:=["thing","many"]
abbrev Wt:Φ:=Fe
abbrev j5:Φ:=["hall","plan"]
abbrev wu:Φ:=j5.append ["room","thing"]
abbrev jB:Φ:=["offer","tops"]
abbrev j4:Φ:=jB.append ["leveled"]
abbrev pZ:Φ:=["tops","bottom"]
abbrev Vq:Φ:=pZ.append ["common","top"]
abbrev mq:Φ:=["row","often"]
abbrev xX:Φ:=mq
abbrev oR:Φ:=["row","other","often"]
abbrev Cj:Φ:=oR.append ["bottom","common","own","added","tops"]
abbrev mJ:Φ:=["leveled","step"]
abbrev zK:Φ:=mJ.append ["row"]
abbrev jL:Φ:=["row","column"]
abbrev yJ:Φ:=jL
abbrev iQ:Φ:=["leveled"]
abbrev jf:Φ:=iQ
abbrev jY:Φ:=["leveled","place","column"]
abbrev Du:Φ:=jY.append ["row"]
abbrev uP:Φ:=["leveled","steps","step"]
abbrev Q5:Φ:=uP
abbrev lV:Φ:=["leveled","steps","place","found","column"]
abbrev Ho:Φ:=lV.append ["first"]
abbrev iM:Φ:=["leveled","steps","place","column"]
abbrev zR:Φ:=iM.append ["row","often"]
abbrev rY:Φ:=["rows","wide"]
abbrev G4:Φ:=rY.append ["leveled","steps","place","column","found"]
abbrev oh:Φ:=["rows"]
abbrev Xv:Φ:=oh
abbrev jz:Φ:=["rows","rights"]
abbrev um:Φ:=jz
abbrev mC:Φ:=["end","wide"]
abbrev yx:Φ:=mC.append ["begins","row","columns"]
abbrev qz:Φ:=["end","begins","wide"]
abbrev Gn:Φ:=qz.append ["row"]
abbrev mW:Φ:=["end","begins","wide"]
abbrev Hr:Φ:=mW.append ["answer","row","column"]
abbrev jD:Φ:=["many"]
abbrev j7:Φ:=jD
abbrev ju:Φ:=["rows","rights"]
abbrev Bw:Φ:=ju.append ["wide","end","begins"]
abbrev eV:Φ:=["hall","goals"]
abbrev vX:Φ:=eV.append ["marks","goal"]
abbrev oV:Φ:=["hall","marks"]
abbrev q_:Φ:=oV.append ["told","room","goal","offered"]
abbrev qI:Φ:=["door","steps"]
abbrev Rg:Φ:=qI
abbrev m9:Φ:=["doors","steps"]
abbrev Hl:Φ:=m9
abbrev nJ:Φ:=["doors","steps"]
abbrev Gg:Φ:=nJ
abbrev lM:Φ:=["marks","leads","joins"]
abbrev qD:Φ:=lM.append ["steps","coming","many","room"]
abbrev iH:Φ:=["hall","plan"]
abbrev rP:Φ:=iH
abbrev lN:Φ:=["share","chosen"]
abbrev Hv:Φ:=lN.append ["rows","room","offer","behind","chance"]
abbrev j6:Φ:=["marks","chosen"]
abbrev iz:Φ:=j6.append ["leads","steps"]
abbrev f9:Φ:=["hall","marks","plan"]
abbrev qP:Φ:=f9.append ["rights"]
abbrev j9:Φ:=["hall","goals","plan"]
abbrev vV:Φ:=j9.append ["marks"]
abbrev jx:Φ:=["seen","door","pick"]
abbrev uH:Φ:=jx.append ["best"]
abbrev jt:Φ:=["hall","marks","told","pick"]
abbrev tY:Φ:=jt.append ["tops","turned","room","door","offered"]
abbrev nC:Φ:=["hall","marks","plan","pick"]
abbrev Ox:Φ:=nC.append ["told","coming"]
abbrev iJ:Φ:=["hall","marks"]
abbrev qF:Φ:=iJ.append ["leads","steps","plan","room","doors"]
abbrev fG:Φ:=["hall","goals"]
abbrev Cu:Φ:=fG
abbrev gR:Φ:=["hall","goals"]
abbrev pH:Φ:=gR.append ["marks"]
abbrev k_:Φ:=["thing"]
abbrev GK:Φ:=k_
abbrev iT:Φ:=["name","pay"]
abbrev vL:Φ:=iT
abbrev eG:Φ:=["room"]
abbrev Dq:Φ:=eG
abbrev fZ:Φ:=["chance"]
abbrev J6:Φ:=fZ
abbrev jr:Φ:=["pairs"]
abbrev tV:Φ:=jr.append ["room","chance"]
abbrev jh:Φ:=["pairs"]
abbrev Bv:Φ:=jh.append ["chances","room","chance"]
abbrev jq:Φ:=["share"]
abbrev Mi:Φ:=jq
abbrev kE:Φ:=["rooms"]
abbrev vp:Φ:=kE.append ["numbers","room","name"]
abbrev gU:Φ:=["door","numbers"]
abbrev w6:Φ:=gU.append ["numbered","name","chance"]
abbrev mO:Φ:=["doors","numbers"]
abbrev Hs:Φ:=mO.append ["taken","told","door"]
abbrev Bg:Φ:=["_law_script","_law_k"]
abbrev X4:Φ:=Bg
abbrev jH:Φ:=["_law_cell_here","_law_many"]
abbrev Wj:Φ:=jH.append ["_law_found","_law_number","_law_digits","_law_k"]
abbrev GP:Φ:=["_law_one","_law_other"]
abbrev agJ:Φ:=GP.append ["_law_low","_law_high"]
abbrev qg:Φ:=["_law_top","_law_bottom"]
abbrev Ux:Φ:=qg.append ["_law_common"]
abbrev zj:Φ:=["_law_cell_here","_law_many"]
abbrev wj:Φ:=zj.append ["_law_letters","_law_xs","_law_base","_law_at","_law_step"]
abbrev Dp:Φ:=["_law_cell_here","_law_many"]
abbrev wI:Φ:=Dp.append ["_law_xs","_law_rooms","_law_pay","_law_pairs","_law_bottom","_law_part","_law_weights"]
abbrev yG:Φ:=["_law_script","_law_at","_law_many","_law_most"]
abbrev QX:Φ:=yG.append ["_law_rooms","_law_first","_law_cells","_law_cell_here","_law_room"]
abbrev xZ:Φ:=["_law_title","_law_door_here","_law_names_here"]
abbrev Dw:Φ:=xZ.append ["_law_told","_law_sort","_law_pay","_law_pairs"]
abbrev Dm:Φ:=["_law_cell_here","_law_share","_law_rooms"]
abbrev Yd:Φ:=Dm.append ["_law_names_here","_law_found","_law_k","_law_titles"]
abbrev Fx:Φ:=["_law_cell_here"]
abbrev Xi:Φ:=Fx.append ["_law_xs"]
abbrev Fg:Φ:=["_law_door_here"]
abbrev ac5:Φ:=Fg.append ["_law_found","_law_room","_law_chance","_law_top","_law_bottom"]
abbrev yt:Φ:=["_law_cell_here","_law_many"]
abbrev Ti:Φ:=yt.append ["_law_xs"]
abbrev uU:Φ:=["_law_found"]
abbrev DR:Φ:=uU
abbrev jk:Φ:=["_law_found"]
abbrev MJ:Φ:=jk
abbrev lO:Φ:=["_law_found","_law_many"]
abbrev z8:Φ:=lO
abbrev oW:Φ:=["_law_rooms"]
abbrev rF:Φ:=oW
abbrev DY:Φ:=["_law_ways_here","_law_chances_here"]
abbrev acd:Φ:=DY.append ["_law_top","_law_bottom","_law_room","_law_chance","_law_part"]
abbrev Ad:Φ:=["_law_ways_here","_law_plan_here"]
abbrev YX:Φ:=Ad.append ["_law_found","_law_k"]
abbrev Et:Φ:=["_law_taken_here","_law_goals_here"]
abbrev Qa:Φ:=Et.append ["_law_found","_law_turn","_law_k"]
abbrev nF:Φ:=["_law_found","_law_ways_here","_law_goals_here","_law_plan_here"]
abbrev Og:Φ:=nF.append ["_law_taken_here","_law_near_here","_law_k","_law_due"]
abbrev Fy:Φ:=["_law_found","_law_rooms"]
abbrev adY:Φ:=Fy.append ["_law_door_here","_law_doors_here"]
abbrev DW:Φ:=["_law_found","_law_rooms","_law_ways_here","_law_goals_here"]
abbrev aea:Φ:=DW
abbrev xR:Φ:=["_law_rooms"]
abbrev pR:Φ:=xR.append ["_law_found","_law_doors_here"]
abbrev rK:Φ:=["_law_low","_law_mine","_law_high"]
abbrev Oo:Φ:=rK.append ["_law_one","_law_two","_law_three"]
abbrev R_:Φ:=["_law_script"]
abbrev VP:Φ:=R_.append ["_law_rooms","_law_ways_here","_law_share","_law_hall_here","_law_goals_here","_law_plans_here","_law_late","_law_high","_law_low","_law_k","_law_held","_law_plan_here","_law_mine"]
abbrev jJ:Φ:=["self","name","pay"]
abbrev zF:Φ:=jJ
abbrev mK:Φ:=["self"]
abbrev V_:Φ:=mK
abbrev DQ:Φ:=["self","room"]
abbrev dX:Φ:=DQ
abbrev mD:Φ:=["self","name","pay","room"]
abbrev yS:Φ:=mD
abbrev gH:Φ:=["self","name","pay","pairs"]
abbrev vA:Φ:=gH
abbrev lY:Φ:=["self","name","pay","chance","room","other"]
abbrev Hy:Φ:=lY
abbrev mV:Φ:=["self","name","pay","rooms"]
abbrev zm:Φ:=mV
abbrev mL:Φ:=["self","share","rooms"]
abbrev yZ:Φ:=mL
abbrev gA:Φ:=["self"]
abbrev Wf:Φ:=gA
abbrev Mv:Φ:=["self","name"]
abbrev Ea:Φ:=Mv
abbrev eN:Φ:=["self","room"]
abbrev Fj:Φ:=eN
abbrev Iv:Φ:=["self","room","name"]
abbrev z6:Φ:=Iv
abbrev dZ:Φ:=["self","room"]
abbrev uc:Φ:=dZ
end K39
namespace H39
open PySem PySem.W L2 L2.Once K39
abbrev p:Program:=PySem.Challenge.pw_chancehall_k39_whole_no_plan_beyond
noncomputable section
def dR(P:Params)(x:Str)(t m:Nat):DictEntry:=dE P x t (.ref m)
def wD(l:List DictEntry)(n:Nat):Obj:=⟨.type "dict",none,.dict ⟨l⟩ n,⟨[]⟩⟩
def i3(a b:Nat)(c:Nat)(l:Θ):Θ:=.int a 0::.int b 0::.ref c::l
def nd(o:Obj)(l r:BT):BT:=.node o l r
def n1(o x:Obj):BT:=.node o (lf x) .nil
def n2(o x y:Obj):BT:=.node o (lf x) (lf y)
noncomputable def wA:Obj:=⟨.type "builtin_function_or_method",none,.fields ⟨[.builtin "type.__prepare__",.type "type"]⟩,⟨[]⟩⟩
def wB(n:Nat):Obj:=⟨.type "builtin_function_or_method",none,.fields ⟨[.builtin "object.__init_subclass__",.ref n]⟩,⟨[]⟩⟩
def wC(n:Str)(t l r u:Nat):Obj:=⟨.type "code",none,.fields ⟨[.str n t,.str n (t+1),.str "/claim/cut.py" (t+2),.int l 0,.int 0 0,.int 0 0,.int 0 0,.int 0 0,.ref r,.bool false,.int 181 0,.ref (r+1),.none,.none,.none,.none,.int u 0,.int l 0,.str "/claim/cut.py" (u+1)]⟩,⟨[]⟩⟩
def wF(c d:Nat)(n:Str)(t:Nat):Obj:=⟨.type "frame",none,.plain,⟨[some (.ref c),some (.ref 3),some (.ref d),none,some (.str n t),none,some (.ref 0)]⟩⟩
def wG(t n:Nat):Obj:=⟨.type "getset_descriptor",none,.fields ⟨[.str "__weakref__" t,.ref n,.builtin "ExceptionGroup.__weakref__",.none]⟩,⟨[]⟩⟩
def wK(n:Str)(b m:Θ)(d:Nat)(s:Θ)(o:Ω)(t u:Nat)(x:String):Obj:=⟨.type "type",none,.cls ⟨n,b,m,d,n,true,[],s,false,none,false⟩,⟨[o,none,some (.str n t),some (.str n u),some (.builtin x),some (.bool true)]⟩⟩
def wS(n:Nat):Obj:=⟨.type "super",none,.fields ⟨[.ref n,.ref n,.ref n]⟩,⟨[]⟩⟩
def wT(n:Nat):Obj:=⟨.type "tuple",none,.seq ⟨[.ref n]⟩ 0,⟨[]⟩⟩
def fO(n q:Str)(s:Stmt)(m:Value)(c:Nat):Obj:=⟨.type "function",none,.func (fnOf n q (jE s) (gk s) (bH s) .none .none .none m none (.ref c) .none),⟨[]⟩⟩
def fT(n q:Str)(s:Stmt):Obj:=⟨.none,none,.func { fnOf n q (jE s) (gk s) (bH s) .none .none .none .none none .none .none with globals:=0,builtins:=0 },⟨[]⟩⟩
def fV(n:Str)(k:Nat)(m:Value)(c:Nat):Obj:=fO n n (top k) m c
def fU(n:Str)(k:Nat):Obj:=fT n n (top k)
def cU(n:Str)(t:Nat)(l a f:Int)(r u:Nat):Obj:=cO n n t l a f r u
def cV(n:Str)(t:Nat)(l a f:Int)(r u:Nat):Obj:=cP n n t l a f r u
def dM(P:Params)(l:List (String×Nat×Nat)):List DictEntry:=l.map λx=>dR P (Str.ofString x.1) x.2.1 x.2.2
def dC(P:Params)(a:Nat)(m:Value)(n:Str)(l:Int)(r:List DictEntry):List DictEntry:=dE P "__module__" a m::dE P "__qualname__" (a+2) (.str n (a+1))::dE P "__firstlineno__" (a+4) (.int l (a+3))::r
def dF(P:Params)(a:Nat)(m:Value)(l:Int)(r:List DictEntry):List DictEntry:=dE P "__module__" a m::dE P "__firstlineno__" (a+4) (.int l (a+3))::r
def wX(n:Str)(c d o t u:Nat):Obj:=wK n [.ref 31] [.ref c,.ref 31,.type "ValueError",.type "Exception",.type "BaseException",.type "object"] d [] (some (.ref o)) t u "ValueError.__new__"
def mo0:Value:=.str "__main__" 164
def mo1:Value:=.str "chancehall.errors" 194
def mo2:Value:=.str "chancehall.wholes" 328
def mo3:Value:=.str "chancehall.ratios" 348
def mo4:Value:=.str "chancehall.levels" 414
def mo5:Value:=.str "chancehall.plans" 448
def mo6:Value:=.str "chancehall.papers" 480
def mo7:Value:=.str "chancehall.solving" 572
def mo8:Value:=.str "chancehall.ways" 632
def mo9:Value:=.str "chancehall.worths" 674
def Sh:Value:=.str "chancehall.goals" 695
def apb:Value:=.str "chancehall.words" 770
def sE:Value:=.str "chancehall.doors" 780
def Gw:Value:=.str "chancehall.halls" 967
def nu:Value:=.str "law_chancehall_k39_whole_no_plan_beyond" 1082
noncomputable def zM(P:Params)(l:List (String×Nat×Nat))(n:Nat):Obj:=wD (dE P "__name__" 165 nu::dE P "__doc__" 166 .none::dE P "__package__" 167 .none::dE P "__loader__" 168 (.builtin "__main__.__loader__#opaque")::dE P "__spec__" 169 .none::dR P "__annotations__" 170 6::dR P "__builtins__" 171 4::dE P "__file__" 173 (.str "/claim/cut.py" 172)::dE P "__cached__" 174 .none::dM P [("_wall",193,21),("HallError",213,31),("NoNumber",229,44),("NoName",245,56),("NoChance",261,68),("NoShare",277,80),("NoRoom",302,99),("NoPlan",327,118),("is_whole",336,127),("divisor",347,134),("NOUGHT",352,135),("ONE",355,136),("ratio",364,143),("is_ratio",373,150),("plus",381,157),("minus",389,164),("times",397,171),("over",405,178),("under",413,185),("level",421,190),("total",429,197),("greatest",438,204),("least",447,211),("first_plan",455,216),("fits",463,223),("check_plan",473,230),("behind_door",479,235),("lowest",487,240),("row_times",493,245),("row_plus",499,250),("take_step",508,257),("number_at",516,264),("fractions_of",522,269),("first_from",532,276),("go_on",541,283),("begin_row",553,290),("clear_column",565,297),("reduced",571,302),("width_of",580,309),("with_rights",586,314),("begins_of",592,319),("odd_row",602,326),("answer_of",614,333),("single_rows",620,338),("only_answer",631,345),("goal_marks",643,352),("leads_of",649,357),("meets",655,362),("by_some",661,367),("by_each",667,372),("steps_to",673,377),("chosen_doors",681,382),("left_rows",694,389),("on_the_way",702,394),("plan_chances",708,399),("chances_of",718,406),("picked_door",728,413),("turned_plan",734,418),("settled",746,425),("keeping_plan",752,430),("greatest_chances",760,437),("least_chances",769,444)]++dE P "LONGEST_WORD" 773 (.int 8 772)::dM P ([("is_word",779,449),("check_head",789,456),("check_room_name",796,463),("check_chance",803,470),("check_pairs",809,475),("joined_ways",815,480),("Door",862,511),("Sure",889,532),("Mixed",916,551),("Toss",944,570),("Even",966,587),("check_share",975,596),("numbers_of",985,603),("numbered_ways",996,610),("offers_of",1007,617),("Hall",1081,672),("_law_cell",1091,683),("_law_stream",1103,690),("_law_gcd",1113,697),("_law_ratio",1122,704),("_law_names",1128,709),("_law_door",1134,714),("_law_doors",1140,719),("_law_built",1146,724),("_law_hall",1152,729),("_law_size",1160,736),("_law_ways",1166,741),("_law_goals",1172,746),("_law_whole",1179,753),("_law_is_fraction",1186,760),("_law_fractions",1192,765),("_law_all_ways",1198,770),("_law_mean",1211,777),("_law_taken",1221,784),("_law_near",1227,789),("_law_chances",1241,796),("_law_plan",1251,803),("_law_pair",1261,810),("_law_plans",1267,815)]++l)++[]) n
def apH(P:Params):Obj:=zM P [] 111
def q21:Obj:=fV "_wall" 0 mo0 20
noncomputable def q22:Obj:=⟨.type "tuple",none,.seq ⟨.type "ValueError"::[]⟩ 0,⟨[]⟩⟩
noncomputable def q24(P:Params):Obj:=wD (dC P 203 mo1 "HallError" 5 <|dR P "__static_attributes__" 208 29::[]) 4
noncomputable def q30(P:Params):Obj:=wD (dF P 203 mo1 5 <|dR P "__static_attributes__" 208 29::dR P "__weakref__" 210 32::dE P "__doc__" 211 .none::[]) 3
noncomputable def q31:Obj:=wK "HallError" [.type "ValueError"] [.ref 31,.type "ValueError",.type "Exception",.type "BaseException",.type "object"] 30 [.ref 44,.ref 56,.ref 68,.ref 80,.ref 99,.ref 118] (some (.ref 22)) 196 204 "ValueError.__new__"
noncomputable def q37(P:Params):Obj:=wD (dC P 221 mo1 "NoNumber" 7 <|dR P "__static_attributes__" 226 42::[]) 4
noncomputable def q43(P:Params):Obj:=wD (dF P 221 mo1 7 <|dR P "__static_attributes__" 226 42::dE P "__doc__" 227 .none::[]) 2
def q44:Obj:=wX "NoNumber" 44 43 35 214 222
noncomputable def q49(P:Params):Obj:=wD (dC P 237 mo1 "NoName" 9 <|dR P "__static_attributes__" 242 54::[]) 4
noncomputable def q55(P:Params):Obj:=wD (dF P 237 mo1 9 <|dR P "__static_attributes__" 242 54::dE P "__doc__" 243 .none::[]) 2
def q56:Obj:=wX "NoName" 56 55 47 230 238
noncomputable def q61(P:Params):Obj:=wD (dC P 253 mo1 "NoChance" 11 <|dR P "__static_attributes__" 258 66::[]) 4
noncomputable def q67(P:Params):Obj:=wD (dF P 253 mo1 11 <|dR P "__static_attributes__" 258 66::dE P "__doc__" 259 .none::[]) 2
def q68:Obj:=wX "NoChance" 68 67 59 246 254
noncomputable def q73(P:Params):Obj:=wD (dC P 269 mo1 "NoShare" 13 <|dR P "__static_attributes__" 274 78::[]) 4
noncomputable def q79(P:Params):Obj:=wD (dF P 269 mo1 13 <|dR P "__static_attributes__" 274 78::dE P "__doc__" 275 .none::[]) 2
def q80:Obj:=wX "NoShare" 80 79 71 262 270
noncomputable def q85(P:Params):Obj:=wD (dC P 285 mo1 "NoRoom" 15 <|dR P "__init__" 297 96::dR P "__static_attributes__" 299 97::[]) 5
noncomputable def q95:Obj:=cO "__init__" "NoRoom.__init__" 290 17 2 3 90 295
noncomputable def q96:Obj:=fO "__init__" "NoRoom.__init__" (gJ 7 0) mo1 95
noncomputable def q98(P:Params):Obj:=wD (dF P 285 mo1 15 <|dR P "__init__" 297 96::dR P "__static_attributes__" 299 97::dE P "__doc__" 300 .none::[]) 2
def q99:Obj:=wX "NoRoom" 99 98 83 278 286
noncomputable def aqr(P:Params):Obj:=wD (dC P 310 mo1 "NoPlan" 20 <|dR P "__init__" 322 115::dR P "__static_attributes__" 324 116::[]) 5
noncomputable def alY:Obj:=cO "__init__" "NoPlan.__init__" 315 22 2 3 109 320
noncomputable def anQ:Obj:=fO "__init__" "NoPlan.__init__" (gJ 8 0) mo1 114
noncomputable def alu(P:Params):Obj:=wD (dF P 310 mo1 20 <|dR P "__init__" 322 115::dR P "__static_attributes__" 324 116::dE P "__doc__" 325 .none::[]) 2
def aou:Obj:=wX "NoPlan" 118 117 102 303 311
def alW:Obj:=fV "is_whole" 10 mo2 126
def akG:Obj:=tN 340 Ot
def alD:Obj:=fV "divisor" 11 mo2 133
noncomputable def ala:Obj:=⟨.type "tuple",none,.seq ⟨.int 0 350::.int 1 351::[]⟩ 0,⟨[]⟩⟩
noncomputable def akL:Obj:=⟨.type "tuple",none,.seq ⟨.int 1 353::.int 1 354::[]⟩ 0,⟨[]⟩⟩
def akn:Obj:=fV "ratio" 15 mo3 142
def alS:Obj:=fV "is_ratio" 16 mo3 149
def akM:Obj:=fV "plus" 17 mo3 156
def aoi:Obj:=fV "minus" 18 mo3 163
def anr:Obj:=fV "times" 19 mo3 170
def aoB:Obj:=fV "over" 20 mo3 177
def am6:Obj:=fV "under" 21 mo3 184
def anv:Obj:=fV "level" 23 mo4 189
def amR:Obj:=fV "total" 24 mo4 196
def alm:Obj:=fV "greatest" 25 mo4 203
def aj7:Obj:=fV "least" 26 mo4 210
def ald:Obj:=cV "first_plan" 450 88 1 3 212 453
def akI:Obj:=fV "first_plan" 28 mo5 215
def anS:Obj:=fV "fits" 29 mo5 222
def aoq:Obj:=cU "check_plan" 464 94 2 3 224 471
def aoN:Obj:=fV "check_plan" 30 mo5 229
def ak3:Obj:=cV "behind_door" 474 101 2 3 231 477
def akk:Obj:=fV "behind_door" 31 mo5 234
def aos:Obj:=fV "lowest" 33 mo6 239
def aj9:Obj:=cV "row_times" 488 110 2 3 241 491
def akj:Obj:=fV "row_times" 34 mo6 244
def am2:Obj:=cV "row_plus" 494 112 3 3 246 497
def akJ:Obj:=fV "row_plus" 35 mo6 249
def ank:Obj:=cU "take_step" 500 119 2 3 251 506
def akq:Obj:=fV "take_step" 36 mo6 256
def ajY:Obj:=cU "number_at" 509 128 2 3 258 514
def ajZ:Obj:=fV "number_at" 37 mo6 263
def alJ:Obj:=cV "fractions_of" 517 130 1 3 265 520
def anl:Obj:=fV "fractions_of" 38 mo6 268
def alM:Obj:=tN 526 Du
def akg:Obj:=cU "first_from" 523 132 3 3 270 530
def an2:Obj:=fV "first_from" 39 mo6 275
def aj8:Obj:=fV "go_on" 40 mo6 282
def alR:Obj:=tN 545 Ho
def an1:Obj:=cU "begin_row" 542 140 5 3 284 551
def an7:Obj:=fV "begin_row" 41 mo6 289
def amD:Obj:=tN 557 zR
def aj6:Obj:=cU "clear_column" 554 146 4 3 291 563
def ajP:Obj:=fV "clear_column" 42 mo6 296
def ak0:Obj:=fV "reduced" 43 mo6 301
def aoz:Obj:=cU "width_of" 574 163 1 3 303 578
def ak1:Obj:=fV "width_of" 45 mo7 308
def aoF:Obj:=cV "with_rights" 581 167 2 3 310 584
def am4:Obj:=fV "with_rights" 46 mo7 313
def akY:Obj:=cV "begins_of" 587 169 2 3 315 590
def anm:Obj:=fV "begins_of" 47 mo7 318
def amL:Obj:=fV "odd_row" 48 mo7 325
def anY:Obj:=tN 606 Hr
def ak4:Obj:=cU "answer_of" 603 181 3 3 327 612
def anR:Obj:=fV "answer_of" 49 mo7 332
def aoA:Obj:=cV "single_rows" 615 186 1 3 334 618
def aop:Obj:=fV "single_rows" 50 mo7 337
def anj:Obj:=tN 624 Bw
def amM:Obj:=cU "only_answer" 621 188 2 3 339 629
def aok:Obj:=fV "only_answer" 51 mo7 344
def ani:Obj:=cU "goal_marks" 634 196 2 3 346 641
def alz:Obj:=fV "goal_marks" 53 mo8 351
def amn:Obj:=cV "leads_of" 644 202 2 3 353 647
def ajR:Obj:=fV "leads_of" 54 mo8 356
def akz:Obj:=fV "meets" 55 mo8 361
def amF:Obj:=fV "by_some" 56 mo8 366
def an9:Obj:=fV "by_each" 57 mo8 371
def aob:Obj:=cV "steps_to" 668 214 3 3 373 671
def amb:Obj:=fV "steps_to" 58 mo8 376
def alr:Obj:=cV "chosen_doors" 676 225 2 3 378 679
def akP:Obj:=fV "chosen_doors" 60 mo9 381
def ama:Obj:=tN 685 Hv
def akh:Obj:=cU "left_rows" 682 227 2 3 383 692
def akC:Obj:=fV "left_rows" 61 mo9 388
def alP:Obj:=cV "on_the_way" 697 235 2 3 390 700
def amX:Obj:=fV "on_the_way" 63 Sh 393
def alK:Obj:=cV "plan_chances" 703 239 3 3 395 706
def amg:Obj:=fV "plan_chances" 64 Sh 398
def akF:Obj:=cU "chances_of" 709 242 3 3 400 716
def aoa:Obj:=fV "chances_of" 65 Sh 405
def aoj:Obj:=cU "picked_door" 719 246 3 3 407 726
def akt:Obj:=fV "picked_door" 66 Sh 412
def anD:Obj:=cV "turned_plan" 729 251 4 3 414 732
def amd:Obj:=fV "turned_plan" 67 Sh 417
def akR:Obj:=tN 738 Ox
def ajO:Obj:=fV "settled" 68 Sh 424
def alh:Obj:=cV "keeping_plan" 747 265 2 3 426 750
def alf:Obj:=fV "keeping_plan" 69 Sh 429
def al2:Obj:=cU "greatest_chances" 753 273 2 3 431 758
def alV:Obj:=fV "greatest_chances" 70 Sh 436
def am9:Obj:=cU "least_chances" 761 275 2 3 438 767
def aj4:Obj:=fV "least_chances" 71 Sh 443
def amZ:Obj:=fV "is_word" 74 apb 448
def amJ:Obj:=cU "check_head" 782 285 2 3 450 787
def aky:Obj:=fV "check_head" 76 sE 455
def ak8:Obj:=cU "check_room_name" 790 290 1 3 457 794
def an8:Obj:=fV "check_room_name" 77 sE 462
def ang:Obj:=cU "check_chance" 797 293 1 3 464 801
def aj5:Obj:=fV "check_chance" 78 sE 469
def aow:Obj:=cV "check_pairs" 804 296 1 3 471 807
def aoh:Obj:=fV "check_pairs" 79 sE 474
def anc:Obj:=cV "joined_ways" 810 302 1 3 476 813
def alC:Obj:=fV "joined_ways" 80 sE 479
noncomputable def apj(P:Params):Obj:=wD (dC P 823 sE "Door" 307 <|dM P [("__init__",836,494),("ways",843,501),("chance_to",851,508),("__static_attributes__",855,509)]++[]) 7
noncomputable def alQ:Obj:=cO "__init__" "Door.__init__" 828 309 3 3 488 834
def ajX:Obj:=fO "__init__" "Door.__init__" (gJ 81 0) sE 493
def alc:Obj:=fO "ways" "Door.ways" (gJ 81 1) sE 500
noncomputable def ajN:Obj:=cO "chance_to" "Door.chance_to" 844 318 2 3 502 849
noncomputable def alA:Obj:=fO "chance_to" "Door.chance_to" (gJ 81 2) sE 507
noncomputable def akS(P:Params):Obj:=wD (dF P 823 sE 307 <|dM P [("__init__",836,494),("ways",843,501),("chance_to",851,508),("__static_attributes__",855,509),("__dict__",857,512),("__weakref__",859,513)]++dE P "__doc__" 860 .none::[]) 4
noncomputable def am5:Obj:=wK "Door" [.type "object"] [.ref 511,.type "object"] 510 [.ref 532,.ref 551] none 816 824 "object.__new__"
noncomputable def amc:Obj:=⟨.type "getset_descriptor",none,.fields ⟨.str "__dict__" 856::.ref 511::.builtin "function.__dict__"::.builtin "function.__dict__#set"::[]⟩,⟨[]⟩⟩
noncomputable def aqh(P:Params):Obj:=wD (dC P 870 sE "Sure" 320 <|dR P "__init__" 884 529::dR P "__static_attributes__" 886 530::[]) 5
noncomputable def aoM:Obj:=cO "__init__" "Sure.__init__" 875 322 4 3 523 882
def anH:Obj:=fO "__init__" "Sure.__init__" (gJ 82 0) sE 528
noncomputable def am8(P:Params):Obj:=wD (dF P 870 sE 320 <|dR P "__init__" 884 529::dR P "__static_attributes__" 886 530::dE P "__doc__" 887 .none::[]) 2
noncomputable def amN:Obj:=wK "Sure" [.ref 511] [.ref 532,.ref 511,.type "object"] 531 [] (some (.ref 516)) 863 871 "object.__new__"
noncomputable def apI(P:Params):Obj:=wD (dC P 897 sE "Mixed" 326 <|dR P "__init__" 911 548::dR P "__static_attributes__" 913 549::[]) 5
noncomputable def alX:Obj:=cO "__init__" "Mixed.__init__" 902 328 4 3 542 909
noncomputable def alv:Obj:=fO "__init__" "Mixed.__init__" (gJ 83 0) sE 547
noncomputable def amt(P:Params):Obj:=wD (dF P 897 sE 326 <|dR P "__init__" 911 548::dR P "__static_attributes__" 913 549::dE P "__doc__" 914 .none::[]) 2
noncomputable def alL:Obj:=wK "Mixed" [.ref 511] [.ref 551,.ref 511,.type "object"] 550 [.ref 570,.ref 587] (some (.ref 535)) 890 898 "object.__new__"
noncomputable def apg(P:Params):Obj:=wD (dC P 924 sE "Toss" 332 <|dR P "__init__" 940 567::dR P "__static_attributes__" 941 568::[]) 5
def ams:Obj:=tN 932 Hy
noncomputable def aj2:Obj:=cO "__init__" "Toss.__init__" 929 334 6 3 561 938
def anh:Obj:=fO "__init__" "Toss.__init__" (gJ 84 0) sE 566
noncomputable def aki(P:Params):Obj:=wD (dF P 924 sE 332 <|dR P "__init__" 940 567::dR P "__static_attributes__" 941 568::dE P "__doc__" 942 .none::[]) 2
noncomputable def aot:Obj:=wK "Toss" [.ref 551] [.ref 570,.ref 551,.ref 511,.type "object"] 569 [] (some (.ref 554)) 917 925 "object.__new__"
noncomputable def aoQ(P:Params):Obj:=wD (dC P 952 sE "Even" 338 <|dR P "__init__" 962 584::dR P "__static_attributes__" 963 585::[]) 5
noncomputable def alx:Obj:=cP "__init__" "Even.__init__" 957 340 4 3 580 960
def amQ:Obj:=fO "__init__" "Even.__init__" (gJ 85 0) sE 583
noncomputable def am3(P:Params):Obj:=wD (dF P 952 sE 338 <|dR P "__init__" 962 584::dR P "__static_attributes__" 963 585::dE P "__doc__" 964 .none::[]) 2
noncomputable def amO:Obj:=wK "Even" [.ref 551] [.ref 587,.ref 551,.ref 511,.type "object"] 586 [] (some (.ref 573)) 945 953 "object.__new__"
def ake:Obj:=cU "check_share" 969 343 1 3 590 973
def akZ:Obj:=fV "check_share" 87 Gw 595
def amk:Obj:=cU "numbers_of" 976 346 1 3 597 983
def anI:Obj:=fV "numbers_of" 88 Gw 602
def ajH:Obj:=tN 989 w6
def ane:Obj:=cU "numbered_ways" 986 354 2 3 604 994
def aor:Obj:=fV "numbered_ways" 89 Gw 609
def als:Obj:=tN 1000 Hs
def amU:Obj:=cU "offers_of" 997 361 2 3 611 1005
def anP:Obj:=fV "offers_of" 90 Gw 616
noncomputable def apu(P:Params):Obj:=wD (dC P 1015 Gw "Hall" 370 <|dM P [("__init__",1025,629),("size",1032,636),("names",1039,643),("place",1047,650),("check_room",1055,657),("door_at",1064,664),("offers",1070,669),("__static_attributes__",1074,670)]++[]) 11
noncomputable def al6:Obj:=cP "__init__" "Hall.__init__" 1020 372 3 3 625 1023
def amx:Obj:=fO "__init__" "Hall.__init__" (gJ 91 0) Gw 628
def akx:Obj:=fO "size" "Hall.size" (gJ 91 1) Gw 635
def alp:Obj:=cO "names" "Hall.names" 1033 381 1 3 637 1037
def al1:Obj:=fO "names" "Hall.names" (gJ 91 2) Gw 642
def ajQ:Obj:=cO "place" "Hall.place" 1040 384 2 3 644 1045
def alI:Obj:=fO "place" "Hall.place" (gJ 91 3) Gw 649
noncomputable def ajW:Obj:=cO "check_room" "Hall.check_room" 1048 389 2 3 651 1053
noncomputable def anN:Obj:=fO "check_room" "Hall.check_room" (gJ 91 4) Gw 656
noncomputable def amq:Obj:=cO "door_at" "Hall.door_at" 1056 393 3 3 658 1062
def ajL:Obj:=fO "door_at" "Hall.door_at" (gJ 91 5) Gw 663
noncomputable def amf:Obj:=cP "offers" "Hall.offers" 1065 396 2 3 665 1068
def amP:Obj:=fO "offers" "Hall.offers" (gJ 91 6) Gw 668
noncomputable def akv(P:Params):Obj:=wD (dF P 1015 Gw 370 <|dM P [("__init__",1025,629),("size",1032,636),("names",1039,643),("place",1047,650),("check_room",1055,657),("door_at",1064,664),("offers",1070,669),("__static_attributes__",1074,670),("__dict__",1076,673),("__weakref__",1078,674)]++dE P "__doc__" 1079 .none::[]) 4
noncomputable def anF:Obj:=wK "Hall" [.type "object"] [.ref 672,.type "object"] 671 [] none 1008 1016 "object.__new__"
noncomputable def ano:Obj:=⟨.type "getset_descriptor",none,.fields ⟨.str "__dict__" 1075::.ref 672::.builtin "function.__dict__"::.builtin "function.__dict__#set"::[]⟩,⟨[]⟩⟩
def akl:Obj:=cU "_law_cell" 1084 400 2 3 677 1089
def an4:Obj:=fV "_law_cell" 93 nu 682
def ali:Obj:=tN 1095 Wj
def ajV:Obj:=cU "_law_stream" 1092 402 2 3 684 1101
def akO:Obj:=fV "_law_stream" 94 nu 689
def ajS:Obj:=tN 1107 agJ
def an5:Obj:=cU "_law_gcd" 1104 413 2 3 691 1111
def amw:Obj:=fV "_law_gcd" 95 nu 696
def amS:Obj:=tN 1117 Ux
def akH:Obj:=cU "_law_ratio" 1114 418 2 3 698 1120
def amE:Obj:=fV "_law_ratio" 96 nu 703
def alb:Obj:=cV "_law_names" 1123 421 2 3 705 1126
def amG:Obj:=fV "_law_names" 97 nu 708
def anM:Obj:=cV "_law_door" 1129 430 2 3 710 1132
def am1:Obj:=fV "_law_door" 98 nu 713
def amm:Obj:=cV "_law_doors" 1135 447 4 3 715 1138
def akV:Obj:=fV "_law_doors" 99 nu 718
def an6:Obj:=cV "_law_built" 1141 457 3 3 720 1144
def aoK:Obj:=fV "_law_built" 100 nu 723
def ajM:Obj:=cV "_law_hall" 1147 467 3 3 725 1150
def al3:Obj:=fV "_law_hall" 101 nu 728
def anA:Obj:=cU "_law_size" 1153 474 1 3 730 1158
def aoE:Obj:=fV "_law_size" 102 nu 735
def ak7:Obj:=cV "_law_ways" 1161 479 1 3 737 1164
def akf:Obj:=fV "_law_ways" 103 nu 740
def amK:Obj:=cV "_law_goals" 1167 485 2 3 742 1170
def ajK:Obj:=fV "_law_goals" 104 nu 745
def al7:Obj:=cU "_law_whole" 1173 490 1 3 747 1177
def ajJ:Obj:=fV "_law_whole" 105 nu 752
def akN:Obj:=cU "_law_is_fraction" 1180 492 1 3 754 1184
def ajU:Obj:=fV "_law_is_fraction" 106 nu 759
def anE:Obj:=cV "_law_fractions" 1187 498 2 3 761 1190
def ajI:Obj:=fV "_law_fractions" 107 nu 764
def amB:Obj:=cV "_law_all_ways" 1193 502 1 3 766 1196
def aoI:Obj:=fV "_law_all_ways" 108 nu 769
def alT:Obj:=tN 1202 acd
def alO:Obj:=cU "_law_mean" 1199 504 2 3 771 1209
def ak2:Obj:=fV "_law_mean" 109 nu 776
def amo:Obj:=tN 1215 YX
def aoD:Obj:=cU "_law_taken" 1212 512 2 3 778 1219
def akb:Obj:=fV "_law_taken" 110 nu 783
def aoO:Obj:=cV "_law_near" 1222 520 2 3 785 1225
def alH:Obj:=fV "_law_near" 111 nu 788
def anL:Obj:=tN 1231 Og
def anU:Obj:=cU "_law_chances" 1228 527 4 3 790 1239
def akp:Obj:=fV "_law_chances" 112 nu 795
def anb:Obj:=tN 1245 adY
def al0:Obj:=cU "_law_plan" 1242 541 2 3 797 1249
def aon:Obj:=fV "_law_plan" 113 nu 802
def ami:Obj:=tN 1255 aea
def aof:Obj:=cU "_law_pair" 1252 550 4 3 804 1259
def akK:Obj:=fV "_law_pair" 114 nu 809
def amj:Obj:=cV "_law_plans" 1262 554 1 3 811 1265
def akB:Obj:=fV "_law_plans" 115 nu 814
def tr1(P:Params):BT:=nd (boot_o_0 P) (nd (boot_o_1 P) (nd (apH P) (nd (boot_o_7 P) (nd tE (nd q31 (nd fE (nd alW (n2 (fU "take_step" 36) am5 fE) (n1 tE (tN 1036 ["self"]))) (nd tE (n1 anm (aoQ P)) (n1 (fU "is_word" 74) akH))) (nd q95 (nd fE (n2 tE fE anb) (n1 fE (akv P))) (nd anS (n1 ani tE) (n1 anc anA)))) (nd (wT 31) (nd (q79 P) (nd akn (n2 fE (fT "__init__" "Sure.__init__" (gJ 82 0)) aoD) (n1 amg (fT "check_room" "Hall.check_room" (gJ 91 4)))) (nd (tN 442 rE) (n1 fE fE) (n1 an8 akV))) (nd (tN 318 dX) (nd tE (n2 tE (wC "Toss" 919 332 557 922) akB) (n1 tE tE)) (nd (cV "lowest" 482 105 2 3 236 485) (n1 amF (wC "Hall" 1010 370 621 1013)) (n1 tE (fU "_law_whole" 105)))))) (nd wA (nd fE (nd (wT 31) (nd ala (n2 ajY tE (fU "_law_mean" 109)) (n1 fE tE)) (nd fE (n1 tE alx) (n1 amJ fE))) (nd wA (nd (tN 393 cN) (n2 (fU "clear_column" 42) alL tE) (n1 (fU "settled" 68) (tN 1087 X4))) (nd tE (n1 fE (fU "offers_of" 90)) (n1 (wF 486 483 "chancehall.doors" 780) fE)))) (nd (q55 P) (nd (⟨.none,none,.fields ⟨i3 17 4 95 <|[]⟩,⟨[]⟩⟩) (nd tE (n2 (tN 536 Q5) (wT 511) fE) (n1 tE amq)) (nd ald (n1 (fU "only_answer" 51) (tN 979 vp)) (n1 tE (fU "_law_hall" 101)))) (nd (wS 118) (nd (fU "under" 21) (n1 fE anh) (n1 fE (fU "_law_gcd" 95))) (nd fE (n1 (fU "steps_to" 58) fE) (n1 fE akN)))))) (nd o11 (nd (fU "_wall" 0) (nd (wT 31) (nd (q67 P) (nd tE (n2 fE (wB 511) tE) (n1 (fU "left_rows" 61) al1)) (nd (fU "total" 24) (n1 tE (wF 578 575 "chancehall.doors" 780)) (n1 fE (fU "_law_names" 97)))) (nd q99 (nd (cU "minus" 382 58 2 3 158 387) (n2 tE alX aon) (n1 tE (wS 672))) (nd tE (n1 (fU "leads_of" 54) tE) (n1 (apj P) (fU "_law_ways" 103))))) (nd fE (nd (wT 31) (nd tE (n2 akg (am8 P) (fU "_law_near" 111)) (n1 tE fE)) (nd aj7 (n1 tE ake) (n1 tE an6))) (nd anQ (nd tE (n1 (fU "width_of" 45) ams) (n1 (fU "greatest_chances" 70) tE)) (nd (fU "row_times" 34) (n1 (cV "by_each" 662 212 2 3 368 665) (fT "__init__" "Hall.__init__" (gJ 91 0))) (n1 (fT "ways" "Door.ways" (gJ 81 1)) fE))))) (nd (wC "HallError" 198 5 25 201) (nd (q43 P) (nd fE (nd (tN 359 R8) (n2 (fU "fractions_of" 38) tE fE) (n1 tE tE)) (nd (cU "greatest" 430 75 1 3 198 436) (n1 (fU "answer_of" 49) amO) (n1 (tN 793 ["room"]) tE))) (nd (wC "NoPlan" 305 20 105 308) (nd anr (n2 fE wA tE) (n1 fE an4)) (nd akk (n1 tE wA) (n1 tE tE)))) (nd (wT 31) (nd fE (nd (fU "plus" 17) (n2 aj8 (⟨.none,none,.fields ⟨i3 328 4 547 <|[]⟩,⟨[]⟩⟩) anU) (n1 (fU "picked_door" 66) (fT "offers" "Hall.offers" (gJ 91 6)))) (nd (tN 459 Wt) (n1 fE anI) (n1 aoh fE))) (nd (tN 333 ["thing"]) (nd fE (n1 tE (wS 570)) (n1 am9 fE)) (nd tE (n1 fE (cO "size" "Hall.size" 1026 378 1 3 630 1030)) (n1 ajN (fU "_law_fractions" 107)))))))) (nd (boot_o_5 P) (nd (boot_o_9 P) (nd (tN 190 ["k"]) (nd (wS 31) (nd (wF 64 61 "chancehall.errors" 194) (nd fE (n2 akq (wG 858 511) amB) (n1 ama (fT "names" "Hall.names" (gJ 91 2)))) (nd (tN 425 RN) (n1 fE (⟨.none,none,.fields ⟨i3 340 4 583 <|[]⟩,⟨[]⟩⟩)) (n1 amZ tE))) (nd (tN 298 ["room"]) (nd tE (n2 an1 tE (fU "_law_plan" 113)) (n1 anD ano)) (nd fE (n1 tE ane) (n1 tE tE)))) (nd (q49 P) (nd (wS 80) (nd fE (n2 tE anH tE) (n1 fE anN)) (nd (fU "least" 26) (n1 aoA tE) (n1 fE fE))) (nd (fT "__init__" "NoPlan.__init__" (gJ 8 0)) (nd (cU "over" 398 62 2 3 172 403) (n1 (tN 577 ["rows"]) tE) (n1 (tN 756 eV) ajV)) (nd tE (n1 fE tE) (n1 (tN 840 ["self"]) ajJ))))) (nd tE (nd (wF 40 37 "chancehall.errors" 194) (nd (q73 P) (nd tE (n2 tE (wC "Sure" 865 320 519 868) ak2) (n1 alP ajQ)) (nd tE (n1 anY tE) (n1 tE anM))) (nd tE (nd (fU "times" 19) (n2 ajP (wB 551) aof) (n1 ajO (fU "_law_cell" 93))) (nd (fU "behind_door" 31) (n1 (cV "meets" 650 208 2 3 358 653) anP) (n1 fE amK)))) (nd (wS 56) (nd (wF 88 85 "chancehall.errors" 194) (nd (tN 377 cN) (n2 (fU "go_on" 40) (apI P) tE) (n1 (tN 722 uH) tE)) (nd tE (n1 aok (fU "numbers_of" 88)) (n1 (fU "check_pairs" 79) al3))) (nd tE (nd am6 (n1 aoF (aki P)) (n1 tE amw)) (nd am2 (n1 amb tE) (n1 tE tE)))))) (nd o13 (nd q21 (nd (q37 P) (nd (wS 68) (nd (cU "divisor" 337 28 2 3 128 345) (n2 tE wA alT) (n1 akC fE)) (nd amR (n1 (cU "odd_row" 593 176 3 3 320 600) fE) (n1 tE amG))) (nd (wB 99) (nd tE (n2 amD (tN 912 ["leads"]) fE) (n1 akR tE)) (nd aoq (n1 ajR als) (n1 (⟨.none,none,.fields ⟨i3 309 4 493 <|i3 315 4 500 <|i3 318 4 507 <|[]⟩,⟨[]⟩⟩) akf)))) (nd (wF 52 49 "chancehall.errors" 194) (nd (q85 P) (nd (cU "is_ratio" 365 48 1 3 144 371) (n2 tE (wS 532) alH) (n1 akF tE)) (nd fE (n1 anj tE) (n1 ang tE))) (nd (alu P) (nd (tN 409 cN) (n1 ak1 (fT "__init__" "Toss.__init__" (gJ 84 0))) (n1 alV ajS)) (nd akj (n1 tE amx) (n1 alc tE))))) (nd tE (nd (wS 44) (nd (wF 76 73 "chancehall.errors" 194) (nd (fU "ratio" 15) (n2 anl (tN 878 yS) tE) (n1 (fU "plan_chances" 64) (tN 1051 dX))) (nd tE (n1 anR (wB 587)) (n1 (fU "check_room_name" 77) (fU "_law_doors" 99)))) (nd tE (nd fE (n2 (cV "reduced" 566 151 2 3 298 569) tE (fU "_law_plans" 115)) (n1 alh fE)) (nd fE (n1 (fU "by_some" 56) tE) (n1 alQ (tN 1176 DR))))) (nd (q61 P) (nd tE (nd akM (n2 fE (wF 540 537 "chancehall.doors" 780) tE) (n1 akt amP)) (nd (fU "fits" 29) (n1 tE fE) (n1 fE tE))) (nd (fU "is_whole" 10) (nd (cV "level" 416 67 1 3 186 419) (n1 (fU "begins_of" 47) (wT 551)) (n1 tE tE)) (nd (tN 503 zK) (n1 alr tE) (n1 (tN 852 ["leads","name","pay"]) ajI)))))))) (nd (boot_o_2 P) (nd (boot_o_4 P) (nd (boot_o_8 P) (nd fE (nd (wG 209 31) (nd (wC "NoChance" 248 11 62 251) (nd tE (n2 ank amc (fU "_law_all_ways" 108)) (n1 fE tE)) (nd fE (n1 tE tE) (n1 (cV "is_word" 774 280 1 3 445 777) amE))) (nd q96 (nd (tN 385 cN) (n2 (fU "begin_row" 41) (tN 905 vA) tE) (n1 (fU "turned_plan" 67) anF)) (nd tE (n1 alz (fU "numbered_ways" 89)) (n1 alC aoE)))) (nd wA (nd q80 (nd tE (n2 alM aoM akb) (n1 tE ajW)) (nd tE (n1 (fU "single_rows" 50) (tN 972 ["share"])) (n1 tE tE))) (nd tE (nd (fU "over" 20) (n1 fE (wF 559 556 "chancehall.doors" 780)) (n1 fE (fU "_law_stream" 94))) (nd aos (n1 tE (wF 623 620 "chancehall.halls" 967)) (n1 fE al7))))) (nd (q24 P) (nd (wC "NoNumber" 216 7 38 219) (nd wA (nd akL (n2 ajZ (⟨.none,none,.fields ⟨i3 322 4 528 <|[]⟩,⟨[]⟩⟩) alO) (n1 (fU "on_the_way" 63) (fT "place" "Hall.place" (gJ 91 3)))) (nd (tN 433 rE) (n1 fE amQ) (n1 aky (fU "_law_door" 98)))) (nd (aqr P) (nd tE (n2 aj6 (wS 551) (fU "_law_pair" 114)) (n1 (cU "settled" 735 258 4 3 419 744) tE)) (nd fE (n1 (fU "meets" 55) amU) (n1 tE (fU "_law_goals" 104))))) (nd q56 (nd (wC "NoRoom" 280 15 86 283) (nd fE (n2 tE wA anL) (n1 fE ajL)) (nd akI (n1 amM tE) (n1 fE ajM))) (nd (wB 118) (nd (cU "under" 406 64 2 3 179 411) (n1 (fU "with_rights" 46) tE) (n1 (tN 764 pH) an5)) (nd (fU "row_plus" 35) (n1 aob (tN 1029 ["self"])) (n1 (tN 847 dX) ajU)))))) (nd (⟨.none,none,.fields ⟨i3 1 0 20 <|i3 5 0 27 <|i3 7 0 40 <|i3 9 0 52 <|i3 11 0 64 <|i3 13 0 76 <|i3 15 0 88 <|i3 20 0 107 <|i3 26 0 126 <|i3 28 0 133 <|i3 39 0 142 <|i3 48 0 149 <|i3 56 0 156 <|i3 58 0 163 <|i3 60 0 170 <|i3 62 0 177 <|i3 64 0 184 <|i3 67 0 189 <|i3 72 0 196 <|i3 75 0 203 <|i3 81 0 210 <|i3 88 0 215 <|i3 90 0 222 <|i3 94 0 229 <|i3 101 0 234 <|i3 105 0 239 <|i3 110 0 244 <|i3 112 0 249 <|i3 119 0 256 <|i3 128 0 263 <|i3 130 0 268 <|i3 132 0 275 <|i3 137 0 282 <|i3 140 0 289 <|i3 146 0 296 <|i3 151 0 301 <|i3 163 0 308 <|i3 167 0 313 <|i3 169 0 318 <|i3 176 0 325 <|i3 181 0 332 <|i3 186 0 337 <|i3 188 0 344 <|i3 196 0 351 <|i3 202 0 356 <|i3 208 0 361 <|i3 210 0 366 <|i3 212 0 371 <|i3 214 0 376 <|i3 225 0 381 <|i3 227 0 388 <|i3 235 0 393 <|i3 239 0 398 <|i3 242 0 405 <|i3 246 0 412 <|i3 251 0 417 <|i3 258 0 424 <|i3 265 0 429 <|i3 273 0 436 <|i3 275 0 443 <|i3 280 0 448 <|i3 285 0 455 <|i3 290 0 462 <|i3 293 0 469 <|i3 296 0 474 <|i3 302 0 479 <|i3 307 0 486 <|i3 320 0 521 <|i3 326 0 540 <|i3 332 0 559 <|i3 338 0 578 <|i3 343 0 595 <|i3 346 0 602 <|i3 354 0 609 <|i3 361 0 616 <|i3 370 0 623 <|i3 400 0 682 <|i3 402 0 689 <|i3 413 0 696 <|i3 418 0 703 <|i3 421 0 708 <|i3 430 0 713 <|i3 447 0 718 <|i3 457 0 723 <|i3 467 0 728 <|i3 474 0 735 <|i3 479 0 740 <|i3 485 0 745 <|i3 490 0 752 <|i3 492 0 759 <|i3 498 0 764 <|i3 502 0 769 <|i3 504 0 776 <|i3 512 0 783 <|i3 520 0 788 <|i3 527 0 795 <|i3 541 0 802 <|i3 550 0 809 <|i3 554 0 814 <|[]⟩,⟨[]⟩⟩) (nd (cU "_wall" 187 1 1 3 15 191) (nd wA (nd q68 (nd (fU "divisor" 11) (n2 (tN 512 yJ) (wT 511) fE) (n1 akh tE)) (nd (cU "total" 422 72 1 3 191 427) (n1 (fU "odd_row" 48) tE) (n1 (tN 785 vL) alb))) (nd (wS 99) (nd aoi (n2 fE alv tE) (n1 fE (wB 672))) (nd (fU "check_plan" 30) (n1 amn fE) (n1 tE ak7)))) (nd (wC "NoName" 232 9 50 235) (nd wA (nd (fU "is_ratio" 16) (n2 an2 amN aoO) (n1 (fU "chances_of" 65) (tN 1059 z6))) (nd tE (n1 fE akZ) (n1 (fU "check_chance" 78) aoK))) (nd (tN 323 ["room"]) (nd fE (n1 aoz tE) (n1 al2 fE)) (nd aj9 (n1 an9 al6) (n1 (cO "ways" "Door.ways" 837 315 1 3 495 841) (tN 1183 DR)))))) (nd (wF 27 24 "chancehall.errors" 194) (nd q44 (nd (wC "NoShare" 264 13 74 267) (nd tE (n2 alJ fE amo) (n1 fE fE)) (nd alm (n1 ak4 (wS 587)) (n1 tE fE))) (nd (wF 107 104 "chancehall.errors" 194) (nd tE (n2 (fU "reduced" 43) (apg P) fE) (n1 (fU "keeping_plan" 69) tE)) (nd tE (n1 fE (apu P)) (n1 (fT "__init__" "Door.__init__" (gJ 81 0)) fE)))) (nd wA (nd (tN 293 dX) (nd (cU "plus" 374 56 2 3 151 379) (n2 tE (wC "Mixed" 892 326 538 895) akp) (n1 aoj amf)) (nd tE (n1 (tN 637 vX) tE) (n1 tE (tN 1156 Xi)))) (nd tE (nd (fU "level" 23) (n1 fE (wB 570)) (n1 aj4 amS)) (nd fE (n1 (fU "chosen_doors" 60) akx) (n1 alA anE))))))) (nd (boot_o_6 P) (nd (boot_o_10 P) (nd tE (nd (wB 31) (nd tE (nd akG (n2 tE (wS 511) aoI) (n1 tE alp)) (nd tE (n1 (tN 596 Gn) (wC "Even" 947 338 576 950)) (n1 tE fE))) (nd (q98 P) (nd (fU "minus" 18) (n2 an7 (fT "__init__" "Mixed.__init__" (gJ 83 0)) al0) (n1 amd (wG 1077 672))) (nd (tN 467 wu) (n1 fE aor) (n1 wA fE)))) (nd tE (nd (wB 80) (nd (tN 368 CJ) (n2 (fU "first_from" 39) (tN 885 ["leads"]) fE) (n1 (tN 712 vV) tE)) (nd (cU "least" 439 81 1 3 205 445) (n1 aop (fU "check_share" 87)) (n1 (tN 800 ["chance"]) (fU "_law_built" 100)))) (nd alY (nd aoB (n1 tE fE) (n1 tE akO)) (nd fE (n1 (fU "by_each" 57) fE) (n1 tE tE))))) (nd fE (nd tE (nd tE (nd fE (n2 fE (wF 521 518 "chancehall.doors" 780) tE) (n1 amX alI)) (nd (fU "greatest" 25) (n1 tE (am3 P)) (n1 fE am1))) (nd (⟨.none,none,.fields ⟨i3 22 4 114 <|[]⟩,⟨[]⟩⟩) (nd (cU "times" 390 60 2 3 165 395) (n2 tE (wT 551) akK) (n1 tE akl)) (nd ak3 (n1 akz tE) (n1 (tN 831 zF) ajK)))) (nd (wB 56) (nd tE (nd tE (n2 (cU "go_on" 533 137 3 3 277 539) tE (fU "_law_chances" 112)) (n1 tE fE)) (nd fE (n1 tE amk) (n1 aow tE))) (nd fE (nd tE (n1 am4 aot) (n1 (fU "least_chances" 71) tE)) (nd akJ (n1 tE (fT "size" "Hall.size" (gJ 91 1))) (n1 (fT "chance_to" "Door.chance_to" (gJ 81 2)) fE)))))) (nd o14 (nd q22 (nd tE (nd (wB 68) (nd alD (n2 (fU "number_at" 37) (aqh P) tE) (n1 tE (tN 1043 Ea))) (nd tE (n1 amL (fT "__init__" "Even.__init__" (gJ 85 0))) (n1 (fU "check_head" 76) tE))) (nd (wT 31) (nd fE (n2 tE (amt P) ami) (n1 tE fE)) (nd aoN (n1 tE tE) (n1 (wC "Door" 818 307 484 821) tE)))) (nd tE (nd tE (nd alS (n2 fE (wB 532) tE) (n1 aoa (fT "door_at" "Hall.door_at" (gJ 91 5)))) (nd (fU "first_plan" 28) (n1 tE fE) (n1 aj5 fE))) (nd aou (nd tE (n1 tE aj2) (n1 tE tE)) (nd tE (n1 fE tE) (n1 tE (fU "_law_is_fraction" 106)))))) (nd (q30 P) (nd (wB 44) (nd tE (nd (cU "ratio" 356 39 2 3 137 362) (n2 tE tE (fU "_law_taken" 110)) (n1 alK tE)) (nd fE (n1 tE tE) (n1 ak8 amm))) (nd fE (nd (tN 401 cN) (n2 ak0 (⟨.none,none,.fields ⟨i3 334 4 566 <|[]⟩,⟨[]⟩⟩) amj) (n1 alf ali)) (nd (fU "lowest" 33) (n1 (cV "by_some" 656 210 2 3 363 659) (⟨.none,none,.fields ⟨i3 372 4 628 <|i3 378 4 635 <|i3 381 4 642 <|i3 384 4 649 <|i3 389 4 656 <|i3 393 4 663 <|i3 396 4 668 <|[]⟩,⟨[]⟩⟩)) (n1 ajX tE)))) (nd tE (nd (fT "__init__" "NoRoom.__init__" (gJ 7 0)) (nd tE (n2 alR tE fE) (n1 tE (tN 1071 ["numbers","offered","share"]))) (nd (cU "fits" 456 90 2 3 217 461) (n1 (fU "goal_marks" 53) ajH) (n1 (fU "joined_ways" 80) (fU "_law_size" 102)))) (nd (cU "is_whole" 330 26 1 3 121 334) (nd anv (n1 akY wA) (n1 fE (fU "_law_ratio" 96))) (nd tE (n1 akP fE) (n1 (akS P) tE))))))))
def S1(w:World)(os:OsState):SharedT:=⟨tr1 w.params,816,{},⟨[]⟩,{},1268,os⟩
def e1:Pos:=⟨554,0,563,21⟩
def KH:Params->Frag:=λP=>((nat_lit 2,boot_o_2 P)::(nat_lit 3,zM P [("_law_between",1279,822),("law",1285,827)] 113)::(nat_lit 15,tE)::(nat_lit 17,tN 190 ["k"])::(nat_lit 18,tE)::(nat_lit 20,cU "_wall" 187 1 1 3 15 191)::(nat_lit 21,q21)::(nat_lit 22,q22)::(nat_lit 29,tE)::(nat_lit 30,q30 P)::(nat_lit 31,q31)::(nat_lit 32,(wG 209 31))::(nat_lit 35,(wT 31))::(nat_lit 42,tE)::(nat_lit 43,q43 P)::(nat_lit 44,q44)::(nat_lit 47,(wT 31))::(nat_lit 54,tE)::(nat_lit 55,q55 P)::(nat_lit 56,q56)::(nat_lit 59,(wT 31))::(nat_lit 66,tE)::(nat_lit 67,q67 P)::(nat_lit 68,q68)::(nat_lit 71,(wT 31))::(nat_lit 78,tE)::(nat_lit 79,q79 P)::(nat_lit 80,q80)::(nat_lit 83,(wT 31))::(nat_lit 90,tE)::(nat_lit 92,tN 293 dX)::(nat_lit 93,tE)::(nat_lit 95,q95)::(nat_lit 96,q96)::(nat_lit 97,tN 298 ["room"])::(nat_lit 98,q98 P)::(nat_lit 99,q99)::(nat_lit 102,(wT 31))::(nat_lit 109,tE)::(nat_lit 111,tN 318 dX)::(nat_lit 112,tE)::(nat_lit 114,alY)::(nat_lit 115,anQ)::(nat_lit 116,tN 323 ["room"])::(nat_lit 117,alu P)::(nat_lit 118,aou)::(nat_lit 121,tE)::(nat_lit 123,tN 333 ["thing"])::(nat_lit 124,tE)::(nat_lit 126,cU "is_whole" 330 26 1 3 121 334)::(nat_lit 127,alW)::(nat_lit 128,tE)::(nat_lit 130,akG)::(nat_lit 131,tE)::(nat_lit 133,cU "divisor" 337 28 2 3 128 345)::(nat_lit 134,alD)::(nat_lit 135,ala)::(nat_lit 136,akL)::(nat_lit 137,tE)::(nat_lit 139,tN 359 R8)::(nat_lit 140,tE)::(nat_lit 142,cU "ratio" 356 39 2 3 137 362)::(nat_lit 143,akn)::(nat_lit 144,tE)::(nat_lit 146,tN 368 CJ)::(nat_lit 147,tE)::(nat_lit 149,cU "is_ratio" 365 48 1 3 144 371)::(nat_lit 150,alS)::(nat_lit 151,tE)::(nat_lit 153,tN 377 cN)::(nat_lit 154,tE)::(nat_lit 156,cU "plus" 374 56 2 3 151 379)::(nat_lit 157,akM)::(nat_lit 158,tE)::(nat_lit 160,tN 385 cN)::(nat_lit 161,tE)::(nat_lit 163,cU "minus" 382 58 2 3 158 387)::(nat_lit 164,aoi)::(nat_lit 165,tE)::(nat_lit 167,tN 393 cN)::(nat_lit 168,tE)::(nat_lit 170,cU "times" 390 60 2 3 165 395)::(nat_lit 171,anr)::(nat_lit 172,tE)::(nat_lit 174,tN 401 cN)::(nat_lit 175,tE)::(nat_lit 177,cU "over" 398 62 2 3 172 403)::(nat_lit 178,aoB)::(nat_lit 179,tE)::(nat_lit 181,tN 409 cN)::(nat_lit 182,tE)::(nat_lit 184,cU "under" 406 64 2 3 179 411)::(nat_lit 185,am6)::(nat_lit 186,tE)::(nat_lit 189,cV "level" 416 67 1 3 186 419)::(nat_lit 190,anv)::(nat_lit 191,tE)::(nat_lit 193,tN 425 RN)::(nat_lit 194,tE)::(nat_lit 196,cU "total" 422 72 1 3 191 427)::(nat_lit 197,amR)::(nat_lit 198,tE)::(nat_lit 200,tN 433 rE)::(nat_lit 201,tE)::(nat_lit 203,cU "greatest" 430 75 1 3 198 436)::(nat_lit 204,alm)::(nat_lit 205,tE)::(nat_lit 207,tN 442 rE)::(nat_lit 208,tE)::(nat_lit 210,cU "least" 439 81 1 3 205 445)::(nat_lit 211,aj7)::(nat_lit 212,tE)::(nat_lit 215,ald)::(nat_lit 216,akI)::(nat_lit 217,tE)::(nat_lit 219,tN 459 Wt)::(nat_lit 220,tE)::(nat_lit 222,cU "fits" 456 90 2 3 217 461)::(nat_lit 223,anS)::(nat_lit 224,tE)::(nat_lit 226,tN 467 wu)::(nat_lit 227,tE)::(nat_lit 229,aoq)::(nat_lit 230,aoN)::(nat_lit 231,tE)::(nat_lit 234,ak3)::(nat_lit 235,akk)::(nat_lit 236,tE)::(nat_lit 239,cV "lowest" 482 105 2 3 236 485)::(nat_lit 240,aos)::(nat_lit 241,tE)::(nat_lit 244,aj9)::(nat_lit 245,akj)::(nat_lit 246,tE)::(nat_lit 249,am2)::(nat_lit 250,akJ)::(nat_lit 251,tE)::(nat_lit 253,tN 503 zK)::(nat_lit 254,tE)::(nat_lit 256,ank)::(nat_lit 257,akq)::(nat_lit 258,tE)::(nat_lit 260,tN 512 yJ)::(nat_lit 261,tE)::(nat_lit 263,ajY)::(nat_lit 264,ajZ)::(nat_lit 265,tE)::(nat_lit 268,alJ)::(nat_lit 269,anl)::(nat_lit 270,tE)::(nat_lit 272,alM)::(nat_lit 273,tE)::(nat_lit 275,akg)::(nat_lit 276,an2)::(nat_lit 277,tE)::(nat_lit 279,tN 536 Q5)::(nat_lit 280,tE)::(nat_lit 282,cU "go_on" 533 137 3 3 277 539)::(nat_lit 283,aj8)::(nat_lit 284,tE)::(nat_lit 286,alR)::(nat_lit 287,tE)::(nat_lit 289,an1)::(nat_lit 290,an7)::(nat_lit 291,tE)::(nat_lit 293,amD)::(nat_lit 294,tE)::(nat_lit 296,aj6)::(nat_lit 297,ajP)::(nat_lit 298,tE)::(nat_lit 301,cV "reduced" 566 151 2 3 298 569)::(nat_lit 302,ak0)::(nat_lit 303,tE)::(nat_lit 305,tN 577 ["rows"])::(nat_lit 306,tE)::(nat_lit 308,aoz)::(nat_lit 309,ak1)::(nat_lit 310,tE)::(nat_lit 313,aoF)::(nat_lit 314,am4)::(nat_lit 315,tE)::(nat_lit 318,akY)::(nat_lit 319,anm)::(nat_lit 320,tE)::(nat_lit 322,tN 596 Gn)::(nat_lit 323,tE)::(nat_lit 325,cU "odd_row" 593 176 3 3 320 600)::(nat_lit 326,amL)::(nat_lit 327,tE)::(nat_lit 329,anY)::(nat_lit 330,tE)::(nat_lit 332,ak4)::(nat_lit 333,anR)::(nat_lit 334,tE)::(nat_lit 337,aoA)::(nat_lit 338,aop)::(nat_lit 339,tE)::(nat_lit 341,anj)::(nat_lit 342,tE)::(nat_lit 344,amM)::(nat_lit 345,aok)::(nat_lit 346,tE)::(nat_lit 348,tN 637 vX)::(nat_lit 349,tE)::(nat_lit 351,ani)::(nat_lit 352,alz)::(nat_lit 353,tE)::(nat_lit 356,amn)::(nat_lit 357,ajR)::(nat_lit 358,tE)::(nat_lit 361,cV "meets" 650 208 2 3 358 653)::(nat_lit 362,akz)::(nat_lit 363,tE)::(nat_lit 366,cV "by_some" 656 210 2 3 363 659)::(nat_lit 367,amF)::(nat_lit 368,tE)::(nat_lit 371,cV "by_each" 662 212 2 3 368 665)::(nat_lit 372,an9)::(nat_lit 373,tE)::(nat_lit 376,aob)::(nat_lit 377,amb)::(nat_lit 378,tE)::(nat_lit 381,alr)::(nat_lit 382,akP)::(nat_lit 383,tE)::(nat_lit 385,ama)::(nat_lit 386,tE)::(nat_lit 388,akh)::(nat_lit 389,akC)::(nat_lit 390,tE)::(nat_lit 393,alP)::(nat_lit 394,amX)::(nat_lit 395,tE)::(nat_lit 398,alK)::(nat_lit 399,amg)::(nat_lit 400,tE)::(nat_lit 402,tN 712 vV)::(nat_lit 403,tE)::(nat_lit 405,akF)::(nat_lit 406,aoa)::(nat_lit 407,tE)::(nat_lit 409,tN 722 uH)::(nat_lit 410,tE)::(nat_lit 412,aoj)::(nat_lit 413,akt)::(nat_lit 414,tE)::(nat_lit 417,anD)::(nat_lit 418,amd)::(nat_lit 419,tE)::(nat_lit 421,akR)::(nat_lit 422,tE)::(nat_lit 424,cU "settled" 735 258 4 3 419 744)::(nat_lit 425,ajO)::(nat_lit 426,tE)::(nat_lit 429,alh)::(nat_lit 430,alf)::(nat_lit 431,tE)::(nat_lit 433,tN 756 eV)::(nat_lit 434,tE)::(nat_lit 436,al2)::(nat_lit 437,alV)::(nat_lit 438,tE)::(nat_lit 440,tN 764 pH)::(nat_lit 441,tE)::(nat_lit 443,am9)::(nat_lit 444,aj4)::(nat_lit 445,tE)::(nat_lit 448,cV "is_word" 774 280 1 3 445 777)::(nat_lit 449,amZ)::(nat_lit 450,tE)::(nat_lit 452,tN 785 vL)::(nat_lit 453,tE)::(nat_lit 455,amJ)::(nat_lit 456,aky)::(nat_lit 457,tE)::(nat_lit 459,tN 793 ["room"])::(nat_lit 460,tE)::(nat_lit 462,ak8)::(nat_lit 463,an8)::(nat_lit 464,tE)::(nat_lit 466,tN 800 ["chance"])::(nat_lit 467,tE)::(nat_lit 469,ang)::(nat_lit 470,aj5)::(nat_lit 471,tE)::(nat_lit 474,aow)::(nat_lit 475,aoh)::(nat_lit 476,tE)::(nat_lit 479,anc)::(nat_lit 480,alC)::(nat_lit 488,tE)::(nat_lit 490,tN 831 zF)::(nat_lit 491,tE)::(nat_lit 493,alQ)::(nat_lit 494,ajX)::(nat_lit 495,tE)::(nat_lit 497,tN 840 ["self"])::(nat_lit 498,tE)::(nat_lit 500,cO "ways" "Door.ways" 837 315 1 3 495 841)::(nat_lit 501,alc)::(nat_lit 502,tE)::(nat_lit 504,tN 847 dX)::(nat_lit 505,tE)::(nat_lit 507,ajN)::(nat_lit 508,alA)::(nat_lit 509,tN 852 ["leads","name","pay"])::(nat_lit 510,akS P)::(nat_lit 511,am5)::(nat_lit 512,amc)::(nat_lit 513,(wG 858 511))::(nat_lit 516,(wT 511))::(nat_lit 523,tE)::(nat_lit 525,tN 878 yS)::(nat_lit 526,tE)::(nat_lit 528,aoM)::(nat_lit 529,anH)::(nat_lit 530,tN 885 ["leads"])::(nat_lit 531,am8 P)::(nat_lit 532,amN)::(nat_lit 535,(wT 511))::(nat_lit 542,tE)::(nat_lit 544,tN 905 vA)::(nat_lit 545,tE)::(nat_lit 547,alX)::(nat_lit 548,alv)::(nat_lit 549,tN 912 ["leads"])::(nat_lit 550,amt P)::(nat_lit 551,alL)::(nat_lit 554,(wT 551))::(nat_lit 561,tE)::(nat_lit 563,ams)::(nat_lit 564,tE)::(nat_lit 566,aj2)::(nat_lit 567,anh)::(nat_lit 568,tE)::(nat_lit 569,aki P)::(nat_lit 570,aot)::(nat_lit 573,(wT 551))::(nat_lit 580,tE)::(nat_lit 583,alx)::(nat_lit 584,amQ)::(nat_lit 585,tE)::(nat_lit 586,am3 P)::(nat_lit 587,amO)::(nat_lit 590,tE)::(nat_lit 592,tN 972 ["share"])::(nat_lit 593,tE)::(nat_lit 595,ake)::(nat_lit 596,akZ)::(nat_lit 597,tE)::(nat_lit 599,tN 979 vp)::(nat_lit 600,tE)::(nat_lit 602,amk)::(nat_lit 603,anI)::(nat_lit 604,tE)::(nat_lit 606,ajH)::(nat_lit 607,tE)::(nat_lit 609,ane)::(nat_lit 610,aor)::(nat_lit 611,tE)::(nat_lit 613,als)::(nat_lit 614,tE)::(nat_lit 616,amU)::(nat_lit 617,anP)::(nat_lit 625,tE)::(nat_lit 628,al6)::(nat_lit 629,amx)::(nat_lit 630,tE)::(nat_lit 632,tN 1029 ["self"])::(nat_lit 633,tE)::(nat_lit 635,cO "size" "Hall.size" 1026 378 1 3 630 1030)::(nat_lit 636,akx)::(nat_lit 637,tE)::(nat_lit 639,tN 1036 ["self"])::(nat_lit 640,tE)::(nat_lit 642,alp)::(nat_lit 643,al1)::(nat_lit 644,tE)::(nat_lit 646,tN 1043 Ea)::(nat_lit 647,tE)::(nat_lit 649,ajQ)::(nat_lit 650,alI)::(nat_lit 651,tE)::(nat_lit 653,tN 1051 dX)::(nat_lit 654,tE)::(nat_lit 656,ajW)::(nat_lit 657,anN)::(nat_lit 658,tE)::(nat_lit 660,tN 1059 z6)::(nat_lit 661,tE)::(nat_lit 663,amq)::(nat_lit 664,ajL)::(nat_lit 665,tE)::(nat_lit 668,amf)::(nat_lit 669,amP)::(nat_lit 670,tN 1071 ["numbers","offered","share"])::(nat_lit 671,akv P)::(nat_lit 672,anF)::(nat_lit 673,ano)::(nat_lit 674,(wG 1077 672))::(nat_lit 677,tE)::(nat_lit 679,tN 1087 X4)::(nat_lit 680,tE)::(nat_lit 682,akl)::(nat_lit 683,an4)::(nat_lit 684,tE)::(nat_lit 686,ali)::(nat_lit 687,tE)::(nat_lit 689,ajV)::(nat_lit 690,akO)::(nat_lit 691,tE)::(nat_lit 693,ajS)::(nat_lit 694,tE)::(nat_lit 696,an5)::(nat_lit 697,amw)::(nat_lit 698,tE)::(nat_lit 700,amS)::(nat_lit 701,tE)::(nat_lit 703,akH)::(nat_lit 704,amE)::(nat_lit 705,tE)::(nat_lit 708,alb)::(nat_lit 709,amG)::(nat_lit 710,tE)::(nat_lit 713,anM)::(nat_lit 714,am1)::(nat_lit 715,tE)::(nat_lit 718,amm)::(nat_lit 719,akV)::(nat_lit 720,tE)::(nat_lit 723,an6)::(nat_lit 724,aoK)::(nat_lit 725,tE)::(nat_lit 728,ajM)::(nat_lit 729,al3)::(nat_lit 730,tE)::(nat_lit 732,tN 1156 Xi)::(nat_lit 733,tE)::(nat_lit 735,anA)::(nat_lit 736,aoE)::(nat_lit 737,tE)::(nat_lit 740,ak7)::(nat_lit 741,akf)::(nat_lit 742,tE)::(nat_lit 745,amK)::(nat_lit 746,ajK)::(nat_lit 747,tE)::(nat_lit 749,tN 1176 DR)::(nat_lit 750,tE)::(nat_lit 752,al7)::(nat_lit 753,ajJ)::(nat_lit 754,tE)::(nat_lit 756,tN 1183 DR)::(nat_lit 757,tE)::(nat_lit 759,akN)::(nat_lit 760,ajU)::(nat_lit 761,tE)::(nat_lit 764,anE)::(nat_lit 765,ajI)::(nat_lit 766,tE)::(nat_lit 769,amB)::(nat_lit 770,aoI)::(nat_lit 771,tE)::(nat_lit 773,alT)::(nat_lit 774,tE)::(nat_lit 776,alO)::(nat_lit 777,ak2)::(nat_lit 778,tE)::(nat_lit 780,amo)::(nat_lit 781,tE)::(nat_lit 783,aoD)::(nat_lit 784,akb)::(nat_lit 785,tE)::(nat_lit 788,aoO)::(nat_lit 789,alH)::(nat_lit 790,tE)::(nat_lit 792,anL)::(nat_lit 793,tE)::(nat_lit 795,anU)::(nat_lit 796,akp)::(nat_lit 797,tE)::(nat_lit 799,anb)::(nat_lit 800,tE)::(nat_lit 802,al0)::(nat_lit 803,aon)::(nat_lit 804,tE)::(nat_lit 806,ami)::(nat_lit 807,tE)::(nat_lit 809,aof)::(nat_lit 810,akK)::(nat_lit 811,tE)::(nat_lit 814,amj)::(nat_lit 815,akB)::(nat_lit 816,tE)::(nat_lit 818,tN 1271 Oo)::(nat_lit 819,tE)::(nat_lit 821,cU "_law_between" 1268 564 3 3 816 1277)::(nat_lit 822,fV "_law_between" 116 nu 821)::(nat_lit 823,tE)::(nat_lit 826,cV "law" 1280 569 1 3 823 1283)::(nat_lit 827,fV "law" 117 nu 826)::([]:List (Nat×Obj)))
abbrev asH:List Nat:=(KH {strHash:=λ_=>0,shareClass:=λ_=>0,mergeTok:=id,idOf:=λ_=>0,idOfShared:=λ_ _=>0,followText:=λ_=>true,idOfImm:=λ_=>0}).map (·.1)
end
noncomputable def qv:Program:=view p [0,2,3,4,5,6,7,8,10,11,13,14,15,16,17,18,19,20,21,23,24,25,26,28,29,30,31,33,34,35,36,37,38,39,40,41,42,43,45,46,47,48,49,50,51,53,54,55,56,57,58,60,61,63,64,65,66,67,68,69,70,71,73,74,76,77,78,79,80,81,82,83,84,85,87,88,89,90,91,93,94,95,96,97,98,99,100,101,102,103,104,105,106,107,108,109,110,111,112,113,114,115,116,117]
abbrev R:RowW:=PySem.Challenge.rw_chancehall_k39_whole_no_plan_beyond.row.toRowW
noncomputable def Xt(s:Shared):Bool:=xlAt qv [] s&&recOk R.records s
def e:Pos:=⟨569,0,592,15⟩
set_option maxHeartbeats 0
def lko:looksOpen PySem.Challenge.rw_chancehall_k39_whole_no_plan_beyond.row.prog=true:=by kernel_rfl
def wsd:PySem.Challenge.rw_chancehall_k39_whole_no_plan_beyond.wellSaid=true:=by
 unfold OpenLaw.wellSaid OpenRow.wellSaid OpenRow.partSaid;rw[lko]
 kernel_rfl
def asK:∀P,asH=(KH P).map (·.1):=λ_=>by kernel_rfl
def pre(w:World):(λos=>topGo treeTable p w 11 ann 12 (S0 w os) (topStub p))=λos=>some (Sa w os,⟨denote treeTable (cE p),cE p,z,B⟩):=by
 rw[Fast.te15667345088766844465,Fast.te14364793385576792824,Fast.te11892475500146522536];kernel_rfl
def block(w:World):(λos=>segRun treeTable p w 11 ann 1 1 (Sa w os) (blockOf (behindTheImports p) (env p) (cE p) z B))=λos=>some (.next,(Sb w os).abs,cE p,z):=by
 rw[Fast.te14374325043358763698,Fast.te14364793385576792824];kernel_rfl
def aog(w:World):(λos=>segRunT treeTable p w 11 ann 1 30000 (Sb w os) (piecesOf ((behindTheImports p).take 116) (env p) (cE p) z B))=λos=>some (.next,S1 w os,cE p,e1):=by
 rw[Fast.te10110043849684766642,Fast.te14364793385576792824];kernel_rfl
def comb{R S A B C X Y Z:Type _}{o:Option R}{f:R->A}{g:R->B}{k:R->C}{h:R->Option S}{f1:S->X}{f2:S->Y}{f3:S->Z}{a:A}{b:B}{c:C}{x:X}{y:Y}{z:Z}(h1:(o.map λr=>(f r,g r,k r,(h r).map f1))=some (a,b,c,some x))(h2:(o.map λr=>(f r,g r,k r,(h r).map f2))=some (a,b,c,some y))(h3:(o.map λr=>(f r,g r,k r,(h r).map f3))=some (a,b,c,some z)):(o.map λr=>(f r,g r,k r,(h r).map λs=>(f1 s,f2 s,f3 s)))=some (a,b,c,some (x,y,z)):=by
 cases o with
 |none=>cases h1
 |some r =>
  simp only[Option.map_some,Option.some.injEq,Prod.mk.injEq]at h1 h2 h3 ⊢;obtain⟨a1,a2,a3,a4⟩:=h1;obtain⟨_,_,_,b4⟩:=h2;obtain⟨_,_,_,c4⟩:=h3;cases hr:h r with
  |none=>rw[hr]at a4;cases a4
  |some s =>
   rw[hr]at a4 b4 c4;refine⟨a1,a2,a3,?_⟩;simp only[Option.map_some,Option.some.injEq]at a4 b4 c4 ⊢;rw[a4,b4,c4]
def aqf{R S A B C X Y:Type _}{o:Option R}{f:R->A}{g:R->B}{k:R->C}{h:R->Option S}{f1:S->X}{f2:S->Y}{a:A}{b:B}{c:C}{x:X}{y:Y}(h1:(o.map λr=>(f r,g r,k r,(h r).map f1))=some (a,b,c,some x))(h2:(o.map λr=>(f r,g r,k r,(h r).map f2))=some (a,b,c,some y)):(o.map λr=>(f r,g r,k r,(h r).map λs=>(f1 s,f2 s)))=some (a,b,c,some (x,y)):=by
 cases o with
 |none=>cases h1
 |some r =>
  simp only[Option.map_some,Option.some.injEq,Prod.mk.injEq]at h1 h2 ⊢;obtain⟨a1,a2,a3,a4⟩:=h1;obtain⟨_,_,_,b4⟩:=h2;cases hr:h r with
  |none=>rw[hr]at a4;cases a4
  |some s =>
   rw[hr]at a4 b4;refine⟨a1,a2,a3,?_⟩;simp only[Option.map_some,Option.some.injEq]at a4 b4 ⊢;rw[a4,b4]
noncomputable def sR{α:Type}(w:World)(os:OsState)(f:Shared->α):=(segRunT treeTable p w 11 ann 1 50000 (S1 w os) (piecesOf ((behindTheImports p).drop 116) (env p) (cE p) e1 B)).map λr=>(r.1,r.2.2.1,r.2.2.2,(topRun treeTable p w 11 ann 2 r.2.1.abs ⟨doneF .next,cE p,e,B⟩).map f)
def sn0(w:World):(λos=>sR w os λs=>(openSeen qv [] (importedModules p.main.body) Xt true s).1)=λ_=>some (.next,cE p,e,some ((openGood qv []).1)):=by
 unfold sR;rw[Fast.te10110043849684766642,Fast.te14364793385576792824,Fast.te14082659384304107361,Fast.te4187177175401517315,Fast.te5923862056798008813];kernel_rfl
def sn1(w:World):(λos=>sR w os λs=>(openSeen qv [] (importedModules p.main.body) Xt true s).2)=λ_=>some (.next,cE p,e,some ((openGood qv []).2)):=by
 unfold sR;rw[Fast.te10110043849684766642,Fast.te14364793385576792824,Fast.te14082659384304107361];kernel_rfl
def ao0(w:World):(λos=>sR w os λs=>openSeen qv [] (importedModules p.main.body) Xt true s)=λ_=>some (.next,cE p,e,some (openGood qv [])):=funext λos=>aqf (congrFun (sn0 w) os) (congrFun (sn1 w) os)
def apY(w:World):(λos=>sR w os λs=>staticsOk (importedModules p.main.body) (boot_heap w.params) s.heap&&namesBound p s.heap&&gensDone s&&laidKept (boot_heap w.params) s.heap)=λ_=>some (.next,cE p,e,some (true)):=by
 unfold sR;rw[Fast.te10110043849684766642,Fast.te14364793385576792824,Fast.te14082659384304107361];kernel_rfl
def aqj(w:World):(λos=>sR w os λs=>asH.map s.heap.get?)=λ_=>some (.next,cE p,e,some ((KH w.params).map λp=>some p.2)):=by
 unfold sR;rw[Fast.te10110043849684766642,Fast.te14364793385576792824,Fast.te14082659384304107361];kernel_rfl
def big(w:World):(λos=>sR w os λs=>(staticsOk (importedModules p.main.body) (boot_heap w.params) s.heap&&namesBound p s.heap&&gensDone s&&laidKept (boot_heap w.params) s.heap,openSeen qv [] (importedModules p.main.body) Xt true s,asH.map s.heap.get?))=λ_=>some (.next,cE p,e,some (true,openGood qv [],(KH w.params).map λp=>some p.2)):=funext λos=>comb (congrFun (apY w) os) (congrFun (ao0 w) os) (congrFun (aqj w) os)
def left:LeftO p qv [] Xt (λs=>asH.map s.heap.get?) (λw=>(KH w.params).map λp=>some p.2) 200000 :=
 aax (boot_open rfl rfl λ_=>rfl) pre block (λw os=>pI.cutAt (congrFun (aog w) os) (pI.last (congrFun (big w) os))) rfl
def hX(s:Shared)(h:Xt s=true):XL qv [] (s.heap.nsMap mainGlobals) s.heap:=xl_of s (Bool.and_eq_true_iff.mp h).1
def hR(s:Shared)(h:Xt s=true):RecFacts R.records s.heap:=recFacts_of (Bool.and_eq_true_iff.mp h).2
end H39
noncomputable section
abbrev zb:=List (Option Nat)
abbrev zg:=List (Nat×Rat)
abbrev zn:=List Nat
abbrev zi:=List Bool
abbrev zS:=List Rat
abbrev zI:=Option Int
abbrev xz:=List Int
abbrev xf:=List (List (Option Nat)×(Nat->Rat))
abbrev xl:=Option Nat
abbrev xN:=List (List zg)
abbrev xE:=List zS
abbrev xI:=List (List zn)
abbrev xA:=List zn
def wx{p:Prop}(h:p:=by decide):p:=h
def wv{p:Prop}(h:p:=by lia):p:=h
def wf{p:Prop}(h:p:=by simp):p:=h
namespace L2
open PySem PySem.Spec PyProof.Rows
abbrev xL:=List Keyword
abbrev xF:=List (Str×NameKind)
abbrev xB:=List Stmt
abbrev xa:=Array Value
abbrev xt:=List Env
abbrev xp:=List (Str×Value)
abbrev xy:=List PyData
abbrev xk:=List (Str×Addr)
abbrev zD:=List (Str×Rat)
abbrev zt:=List Expr
abbrev Key:=Sum Int Str
abbrev xh:=List Key
def En:Key->Value->Bool
 |.inl k,v=>Value.isInt k v
 |.inr x,v=>Value.isStrOf x v
def aoX(w:World):Key->Int
 |.inl k=>hashInt k
 |.inr x=>hashStr w x
def gC:∀{k:Key}{v:Value},En k v=true->(∃i t,k=Sum.inl i/\v=Value.int i t)\/(∃x t,k=Sum.inr x/\v=Value.str x t)
 |.inl i,v,h=>by
  obtain⟨t,e⟩:=Value.isInt_shape (k:=i) (v:=v) h;exact .inl ⟨i,t,rfl,e⟩
 |.inr x,v,h=>by
  obtain⟨t,e⟩:=Value.isStrOf_shape (x:=x) (v:=v) h;exact .inr ⟨x,t,rfl,e⟩
def aaY(i:Int)(t:Tok):En (.inl i) (.int i t)=true:=by simp[En,Value.isInt]
def aaI(x:Str)(t:Tok):En (.inr x) (.str x t)=true:=by simp[En,Value.isStrOf]
def aho(a b:Int):decide ((Sum.inl a:Key)=Sum.inl b)=(a==b):=by
 by_cases e:a=b
 .subst e;simp
 .have h:¬(Sum.inl a:Key)=Sum.inl b:=λq=>e (Sum.inl.inj q);rw[Zp h];exact(beq_eq_false_iff_ne.mpr e).symm
def ahN(a b:Str):decide ((Sum.inr a:Key)=Sum.inr b)=decide (a=b):=by
 by_cases e:a=b
 .subst e;simp
 .have h:¬(Sum.inr a:Key)=Sum.inr b:=λq=>e (Sum.inr.inj q);rw[Zp h,Zp e]
def air(a:Int)(b:Str):decide ((Sum.inl a:Key)=Sum.inr b)=false:=Zp (λq=>nomatch q)
def ail(a:Str)(b:Int):decide ((Sum.inr a:Key)=Sum.inl b)=false:=Zp (λq=>nomatch q)
def gn(prog:Program)(w:World):PySem.KeyKind prog w Key where
 is:=En
 hash:=aoX w
 inj:=λv a b ha hb=>by
  rcases gC ha with⟨i,t,rfl,rfl⟩|⟨x,t,rfl,rfl⟩
  .rcases gC hb with⟨j,u,rfl,e⟩|⟨y,u,rfl,e⟩
   .injection e with e1 _;rw[e1]
   .exact nomatch e
  .rcases gC hb with⟨j,u,rfl,e⟩|⟨y,u,rfl,e⟩
   .exact nomatch e
   .injection e with e1 _;rw[e1]
 byValue:=λk v h=>by
  rcases gC h with⟨i,t,rfl,rfl⟩|⟨x,t,rfl,rfl⟩<;>rfl
 pyHash:=λhv h=>by
  rcases gC hv with⟨i,t,rfl,rfl⟩|⟨x,t,rfl,rfl⟩
  .exact wpAny_pyHash_int h
  .exact wpAny_pyHash_str h
 eqBool:=λhu hv h=>by
  rcases gC hu with⟨i,t,rfl,rfl⟩|⟨x,t,rfl,rfl⟩
  .rcases gC hv with⟨j,u,rfl,rfl⟩|⟨y,u,rfl,rfl⟩
   .rw[aho]at h;exact wpAny_eqBool_int h
   .rw[air]at h;exact SeqAt.EqAt.int_str i t y u _ _ _ _ h
  .rcases gC hv with⟨j,u,rfl,rfl⟩|⟨y,u,rfl,rfl⟩
   .rw[ail]at h;exact SeqAt.EqAt.str_int x t j u _ _ _ _ h
   .rw[ahN]at h;exact wpAny_eqBool_str h
 «strs»:=λk x t v h=>by
  rcases gC h with⟨i,u,rfl,e⟩|⟨y,u,rfl,e⟩
  .exact nomatch e
  .injection e with e1 _;subst e1;cases v<;>rfl
def Vm(prog:Program)(w:World)(i:Int)(t:Tok):(gn prog w).is (.inl i) (.int i t)=true:=aaY i t
def T8(prog:Program)(w:World)(x:Str)(t:Tok):(gn prog w).is (.inr x) (.str x t)=true:=aaI x t
inductive V where
 |non|bl (b:Bool)|int (i:Int)|str (x:Str)|byt (b:Array UInt8)|flt (b:UInt64)|ref (a:Addr)|ty (n:String)
 deriving DecidableEq
abbrev xC:=Option V
abbrev xi:=List (Key×V)
abbrev xn:=List (Str×V)
abbrev Ζ:=List V
def RelV:V->Value->Prop
 |.non,u=>u=Value.none
 |.bl b,u=>u=Value.bool b
 |.int i,u=>∃t,u=Value.int i t
 |.str x,u=>∃t,u=Value.str x t
 |.byt b,u=>∃t,u=Value.bytes b t
 |.flt b,u=>∃t,u=Value.float b t
 |.ref a,u=>u=Value.ref a
 |.ty n,u=>u=Value.type n
abbrev Vals:Ζ->Θ->Prop:=Paired RelV
def Vals.length{xs:Ζ}{us:Θ}(r:Vals xs us):xs.length=us.length:=Paired.length r
theorem Vals.get:∀{xs:Ζ}{us:Θ}{i:Nat}{x:V},Vals xs us->xs[i]?=some x->∃u,us[i]?=some u/\RelV x u
 |_,_,_,_,.nil,e=>by simp at e
 |_,_,0,_,.cons r _,e=>by simp at e;subst e;exact⟨_,rfl,r⟩
 |_,_,i+1,x,.cons _ t,e=>by
  obtain⟨u,h1,h2⟩:=Vals.get (i:=i) (x:=x) t (by simpa using e);exact⟨u,by simpa using h1,h2⟩
theorem Vals.set{x:V}{u:Value}(r:RelV x u):∀{xs:Ζ}{us:Θ}(i:Nat),Vals xs us->Vals (xs.set i x) (us.set i u)
 |_,_,_,.nil=>.nil
 |_,_,0,.cons _ t=>.cons r t
 |_,_,i+1,.cons q t=>.cons q (Vals.set r i t)
theorem Vals.append:∀{xs ys:Ζ}{us ws:Θ},Vals xs us->Vals ys ws->Vals (xs++ys) (us++ws)
 |_,_,_,_,.nil,s=>s
 |_,_,_,_,.cons r t,s=>.cons r (Vals.append t s)
theorem Vals.take:∀{xs:Ζ}{us:Θ}(n:Nat),Vals xs us->Vals (xs.take n) (us.take n)
 |_,_,0,_=>.nil
 |_,_,_+1,.nil=>.nil
 |_,_,n+1,.cons r t=>.cons r (Vals.take n t)
theorem Vals.drop:∀{xs:Ζ}{us:Θ}(n:Nat),Vals xs us->Vals (xs.drop n) (us.drop n)
 |_,_,0,r=>r
 |_,_,_+1,.nil=>.nil
 |_,_,n+1,.cons _ t=>Vals.drop n t
def Bk:xC->Ω->Prop
 |some v,some u=>RelV v u
 |none,none=>True
 |_,_=>False
def KV{κ:Type} : List (κ×V)->List (κ×Value)->Prop:=Paired λ(p:κ×V)(q:κ×Value)=>p.1=q.1/\RelV p.2 q.2
def kV:Key->V
 |.inl i=>.int i
 |.inr x=>.str x
inductive HO where
  |lst (xs:Ζ)
  |tup (xs:Ζ)
  |dK (kvs:xi)
  |set (S:Int->Bool) (n:Nat)
  |ins (C dx:Addr) (fs:xn)
  |own (x:Addr)
  |xd (fs:xn)
  |met (f x:Addr)
  |rng (lo hi:Int)
  |frz (o:Obj) (u:HO)
  |tbl (ps:xa)
  |ext (φ:Heap->Prop)
abbrev Hp:=Addr->Option HO
def upd(H:Hp)(a:Addr)(o:HO):Hp:=λb=>if b=a then some o else H b
variable{H H':Hp}{a b x e:Addr}{o o':HO}{P:Program}{w:World}{h h':Heap}
def cM : upd H a o a=some o:=by unfold upd;rw[ZY rfl]
def cB(h:b≠a):upd H a o b=H b:=by unfold upd;rw[ZZ h]
def akA{u:HO}(h:H a=some o)(h':H b=some u)(d:o≠u):a≠b:=by
 intro e;subst e;rw[h]at h';exact d (Option.some.inj h')
def ni(h:H a=some o)(h':H b=none):a≠b:=by
 intro e;subst e;rw[h]at h';cases h'
section
variable(P:Program)(w:World)
def gq(H:Hp)(h:Heap)(a:Addr):HO->Prop
 |.lst xs=>xs.length<=sizeLine/\∃(its:Θ)(n:Nat),Vals xs its/\h.get? a=some { cls:=.type "list",data:=.seq its.toArray n }
 |.tup xs=>xs.length<=sizeLine/\∃its:Θ,Vals xs its/\IsTup h a its.toArray
 |.dK kvs=>kvs.length<=sizeLine/\(a==sysModules)=false/\∃vs,KV kvs vs/\h.DictOf (gn P w) a vs
 |.set S n=>h.SetOf (intKind P w) a S n
 |.ins C dx fs=>H dx=some (.own a)/\fs.length<=1000/\dx≠a/\h.get? a=some (instObj C dx) /\
   ∃mA,h.Ns1 dx mA/\(∀f,Bk (fs.lookup f) (mA f))/\PySem.Within mA (fs.map (·.1))
 |.own _=>∃o,h.get? a=some o
 |.xd fs=>∃mA,h.Ns1 a mA/\∀f,Bk (fs.lookup f) (mA f)
 |.rng lo hi=>∃t u v,h.get? a=some { cls:=.type "range",data:=.fields #[.int lo t,.int hi u,.int 1 v] }
 |.frz o u=>h.get? a=some o/\gq H h a u
 |.tbl ps=>h.get? a=some { cls:=.none,data:=.fields ps }
 |.met f x=>h.get? a=some (methodObj (.ref f) (.ref x))
 |.ext φ=>φ h/\(∃o,h.get? a=some o)/\∀h1 h2:Heap,φ h1->(∀o,h1.get? a=some o->h2.get? a=some o)->φ h2
def HOk(H:Hp)(h:Heap):Prop:=∀a o,H a=some o->gq P w H h a o
end
def gq.lt(x:gq P w H h a o):a<h.objs.size:=by
 cases o with
 |lst xs=>obtain⟨_,_,_,_,e⟩:=x;exact aK e
 |tup xs=>obtain⟨_,_,_,p⟩:=x;exact p.lt
 |dK kvs=>obtain⟨_,_,_,_,o,_,_,e,_⟩:=x;exact aK e
 |set S n=>obtain⟨o,_,_,_,e,_⟩:=x;exact aK e
 |ins C dx fs=>obtain⟨_,_,_,e,_⟩:=x;exact aK e
 |own y=>obtain⟨_,e⟩:=x;exact aK e
 |xd fs=>obtain⟨_,⟨_,_,_,e,_⟩,_⟩:=x;exact aK e
 |rng lo hi=>obtain⟨_,_,_,e⟩:=x;exact aK e
 |frz ob u=>obtain⟨e,_⟩:=x;exact aK e
 |tbl ps=>exact aK (show h.get? a=some _ from x)
 |met f y=>exact aK (show h.get? a=some _ from x)
 |ext φ=>obtain⟨_,⟨_,e⟩,_⟩:=x;exact aK e
def gq.stay(x:gq P w H h a o)(k:∀b u,(b=a\/H b=some (.own a))->h.get? b=some u->h'.get? b=some u)
 (ho:∀b,H b=some (.own a)->H' b=some (.own a))(ht:∀b xs,H b=some (.tup xs)->H' b=some (.tup xs)):gq P w H' h' a o:=by
 induction o with
 |lst xs=>obtain⟨z,its,n,r,e⟩:=x;exact⟨z,its,n,r,k _ _ (.inl rfl) e⟩
 |tup xs=>obtain⟨z,its,r,ob,e,c⟩:=x;exact⟨z,its,r,ob,k _ _ (.inl rfl) e,c⟩
 |dK kvs=>obtain⟨z,y,vs,r,ob,es,ep,e,c⟩:=x;exact⟨z,y,vs,r,ob,es,ep,k _ _ (.inl rfl) e,c⟩
 |set S n=>obtain⟨ob,es,ep,t,e,c⟩:=x;exact⟨ob,es,ep,t,k _ _ (.inl rfl) e,c⟩
 |ins C dx fs =>
  obtain⟨d,z,ne,e,mA,⟨od,es,ep,e2,c⟩,r⟩:=x;exact⟨ho _ d,z,ne,k _ _ (.inl rfl) e,mA,⟨od,es,ep,k _ _ (.inr d) e2,c⟩,r⟩
 |own y=>obtain⟨ob,e⟩:=x;exact⟨ob,k _ _ (.inl rfl) e⟩
 |xd fs=>obtain⟨mA,⟨od,es,ep,e,c⟩,r⟩:=x;exact⟨mA,⟨od,es,ep,k _ _ (.inl rfl) e,c⟩,r⟩
 |rng lo hi=>obtain⟨t,u,v,e⟩:=x;exact⟨t,u,v,k _ _ (.inl rfl) e⟩
 |frz ob u ih=>obtain⟨e,q⟩:=x;exact⟨k _ _ (.inl rfl) e,ih q⟩
 |tbl ps =>
  have e:h.get? a=some { cls:=.none,data:=.fields ps }:=x;show h'.get? a=some { cls:=.none,data:=.fields ps };exact k a _ (.inl rfl) e
 |met f y =>
  have e:h.get? a=some (methodObj (.ref f) (.ref y)):=x;show h'.get? a=some (methodObj (.ref f) (.ref y));exact k a _ (.inl rfl) e
 |ext φ=>obtain⟨p,⟨o,e⟩,st⟩:=x;exact⟨st _ _ p λo q=>k _ _ (.inl rfl) q,⟨o,k _ _ (.inl rfl) e⟩,st⟩
def HOk.lt(x:HOk P w H h)(e:H a=some o):a<h.objs.size:=(x a o e).lt
def HOk.fresh(x:HOk P w H h)(e:h.objs.size<=a):H a=none:=by
 cases q:H a with
 |none=>rfl
 |some u=>exact absurd (aR (x.lt q) e) (X2 _)
def HOk.kept(x:HOk P w H h)(k:∀b u,h.get? b=some u->h'.get? b=some u):HOk P w H h':=λa o e =>
 (x a o e).stay (λb u _ q=>k b u q) (λ_ q=>q) λ_ _ q=>q
def HOk.laid(x:HOk P w H h)(k:∀b u,h.get? b=some u->h'.get? b=some u)(hp:h.objs.size<=a)(new:gq P w (upd H a o) h' a o):HOk P w (upd H a o) h':=λb u e=>by
 have hn:=x.fresh hp;by_cases hb:b=a
 .subst hb;rw[cM]at e;cases e;exact new
 .rw[cB hb]at e;exact(x b u e).stay (λc v _ q=>k c v q) (λc q=>by rwa[cB (ni q hn)]) λc xs q=>by rwa[cB (ni q hn)]
def Rd(H:Hp)(a:Addr)(u:HO):Prop:=H a=some u\/∃o,H a=some (.frz o u)
def Rd.ok{u:HO}(r:Rd H a u)(x:HOk P w H h):gq P w H h a u:=by
 rcases r with r|⟨o,r⟩
 .exact x a u r
 .obtain⟨_,q⟩:=x a _ r;exact q
def Mut:Option HO->Prop
 |some (.lst _)=>True
 |some (.dK _)=>True
 |some (.set _ _)=>True
 |some (.ins _ _ _)=>True
 |some (.ext _)=>True
 |_=>False
def HOk.write(ok:HOk P w H h)(mu:Mut (H x))(he:e=x\/H e=some (.own x))(k:∀b u,b≠e->h.get? b=some u->h'.get? b=some u)(iS:∃u,h'.get? e=some u)
 (new:gq P w (upd H x o') h' x o'):HOk P w (upd H x o') h':=λb u q=>by
 have js:∀c y,H c=some (.own y)->c≠x:=λc y r z=>by subst z;rw[r]at mu;exact mu
 have lI:∀c xs,H c=some (.tup xs)->c≠x:=λc xs r z=>by subst z;rw[r]at mu;exact mu
 by_cases hb:b=x
 .subst hb;rw[cM]at q;cases q;exact new
 .rw[cB hb]at q;by_cases hbe:b=e
  .have q':H b=some (.own x):=by
    rcases he with z|z
    .exact absurd (hbe.trans z) hb
    .rw[hbe];exact z
   rw[q]at q';cases q';obtain⟨v,hv⟩:=iS;exact⟨v,by rwa[hbe]⟩
  .refine(ok b u q).stay (λc v hc r=>k c v ?_ r) (λc r=>by rwa[cB (js c b r)]) λc xs r=>by rwa[cB (lI c xs r)]
   rcases hc with rfl|hc
   .exact hbe
   .rintro rfl;rcases he with z|z
    .exact js c b hc z
    .rw[hc]at z;cases z;exact hb rfl
structure Un(fs ex:Ψ)(H H':Hp)(h h':Heap):Prop where
 keep:∀b o,h.get? b=some o->H b=none->b∉fs->b∉ex->h'.get? b=some o
 slot:∀b o,h.get? b=some o->H b=none->b∈fs->b∉ex->∃sl,h'.get? b=some { o with slots:=sl }
 free:∀b o,h.get? b=some o->H b=none->b∉ex->H' b=none
 there:∀b o,h.get? b=some o->b∉ex->∃o',h'.get? b=some o'
 tups:∀b xs,H b=some (.tup xs)->H' b=some (.tup xs)
 frzs:∀b o u,H b=some (.frz o u)->H' b=some (.frz o u)
 tbls:∀b ps,H b=some (.tbl ps)->∃more,H' b=some (.tbl (ps++more))
section
variable{fs fs' ex oq:Ψ}{H H1 H2:Hp}{h h1 h2 h':Heap}{a x e:Addr}{o:HO}
def Un.any(u:Un fs ex H H1 h h1){ob:Obj}(q:h.get? b=some ob)(n:H b=none)(hx:b∉ex):∃sl,h1.get? b=some { ob with slots:=sl }:=by
 by_cases hb:b∈fs
 .exact u.slot b ob q n hb hx
 .exact⟨ob.slots,u.keep b ob q n hb hx⟩
def Un.kept(k:∀b u,h.get? b=some u->h'.get? b=some u):Un fs ex H H h h' :=
 ⟨λb ob q _ _ _=>k b ob q,λb ob q _ _ _=>⟨ob.slots,k b ob q⟩,λ_ _ _ n _=>n,λb ob q _=>⟨ob,k b ob q⟩,λ_ _ q=>q,λ_ _ _ q=>q,λ_ ps q=>⟨#[],by rw[q];simp⟩⟩
def Un.refl:Un fs ex H H h h:=Un.kept λ_ _ q=>q
def Un.laid(k:∀b u,h.get? b=some u->h'.get? b=some u)(hp:h.objs.size<=a)(hn:H a=none):Un fs ex H (upd H a o) h h' where
 keep:=λb u q _ _ _=>k b u q
 slot:=λb u q _ _ _=>⟨u.slots,k b u q⟩
 free:=λb u q n _=>by rwa[cB (aQ (aR (aK q) hp))]
 there:=λb u q _=>⟨u,k b u q⟩
 tups:=λb xs q=>by rwa[cB (ni q hn)]
 frzs:=λb u xs q=>by rwa[cB (ni q hn)]
 tbls:=λb ps q=>⟨#[],by rw[cB (ni q hn),q];simp⟩
def Un.write(mu:Mut (H x))(he:e=x\/H e=some (.own x))(k:∀b u,b≠e->h.get? b=some u->h'.get? b=some u)(iS:∃u,h'.get? e=some u):Un fs ex H (upd H x o) h h':=by
 have hx:∀b,H b=none->b≠x:=λb n z=>by subst z;rw[n]at mu;exact mu
 have hb:∀b,H b=none->b≠e:=λb n z=>by
  subst z;rcases he with r|r
  .exact hx b n r
  .rw[n]at r;cases r
 have hm:∀b u,H b=some u->¬Mut (some u)->b≠x:=λb u q nm z=>by subst z;rw[q]at mu;exact nm mu
 refine⟨λb u q n _ _=>k b u (hb b n) q,λb u q n _ _=>⟨u.slots,k b u (hb b n) q⟩,λb u q n _=>by rw[cB (hx b n)];exact n,λb u q _=>?_,
  λb xs q=>by rw[cB (hm b _ q λz=>z)];exact q,λb u xs q=>by rw[cB (hm b _ q λz=>z)];exact q,λb ps q=>⟨#[],by rw[cB (hm b _ q λz=>z),q];simp⟩⟩
 by_cases hbe:b=e
 .subst hbe;exact iS
 .exact⟨u,k b u hbe q⟩
end
def trk(h:Heap)(H:Hp):Ψ:=(List.range h.objs.size).filter λa=>(H a).isSome
def Sg(h:Heap)(H:Hp):Heap:=PySem.W.hideAll h (trk h H)
def aaG(h:Heap)(H:Hp):(Sg h H).objs.size=h.objs.size:=PySem.W.hideAll_size _ _
variable{o:Obj}
def aeb(e:h.get? b=some o)(n:H b=none):(Sg h H).get? b=some o :=
 PySem.W.hideAll_get _ e λhm=>by
  have q:(H b).isSome=true:=(List.mem_filter.mp hm).2;rw[n]at q;simp at q
def aeZ(e:(Sg h H).get? b=some o):h.get? b=some o/\H b=none:=by
 have e':h.get? b=some o:=PySem.W.of_hideAll (trk h H) e;refine⟨e',?_⟩;cases q:H b with
 |none=>rfl
 |some x =>
  have hm:b∈trk h H:=List.mem_filter.mpr ⟨List.mem_range.mpr (aK e'),by simp[q]⟩;have z:(Sg h H).get? b=none:=PySem.W.hideAll_none (trk h H) hm;rw[z]at e;cases e
def afF(g h:Heap)(L:Addr):Δ:=(List.range h.objs.size).filterMap λa=>if a=L\/(g.get? a).isSome=true then none else(h.get? a).map λo=>(a,o)
def rest(g h:Heap)(L d:Addr):Δ:=(afF g h L).filter λp=>decide (p.1≠d)
structure Mod(K:Frag)(mg:Str->Ω)(base:Heap):Prop where
 kin:K.In base
 glob:base.Ns mainGlobals mg
 blt:∃mb,base.Ns builtinsNs mb/\∀x:Str,x≠"__name__"->mb x=bootBuiltins x
 nolimit:base.NoLimit
structure Cx where
 prog:Program
 w:World
 K:Frag
 mg:Str->Ω
 base:Heap
 A:Around
 N:Φ
 s₀:Shared
 H₀:Hp
 env:Env
 outer:xt
 stack:xt
 ex:Ψ
 fn:Str->Bool
 calm:Bool
 pn:Δ
 xe:Ε
def frs(l:xt):Ψ:=l.filterMap (·.frame)
abbrev Cx.fs(X:Cx):Ψ:=frs X.outer
def Vis(sc:Scope)(x:Str):Prop:=sc.names.lookup x=some .local\/sc.names.lookup x=some .cell\/sc.names.lookup x=some .free
def Loc(sc:Scope)(x:Str):Prop:=sc.names.lookup x=some .local\/sc.names.lookup x=some .cell
def Look(env:Env)(h:Heap)(m:Str->Ω)(x:Str)(u:Value):Prop :=
 (env.kindOf x=some .local/\m x=some u)\/((env.kindOf x=some .cell\/env.kindOf x=some .free)/\∃c,env.cells.lookup x=some c/\h.IsCell c (some u))
structure Cx.Ok(X:Cx):Prop where
 mod:Mod X.K X.mg X.base
 kind:X.env.scope.kind=.function
 glob:X.env.globals=mainGlobals
 blt:X.env.builtins=builtinsNs
 above:X.s₀.heap.objs.size<=X.env.locals
 inj:∀x y c,X.env.cells.lookup x=some c->X.env.cells.lookup y=some c->x=y
 has:∀x,(X.env.kindOf x=some .cell\/X.env.kindOf x=some .free)->∃c,X.env.cells.lookup x=some c
 cab:∀x c,X.fn x=true->X.env.cells.lookup x=some c->X.s₀.heap.objs.size<=c
 hd:X.calm=true->X.A.handled=none
 frames:X.A.frames=some X.stack
 stk:X.stack=X.outer\/(X.stack=X.env::X.outer/\X.env.frame=some X.env.locals)
 exf:∀b∈X.ex,b≠X.env.locals/\∀x c,X.env.cells.lookup x=some c->c≠b
 bs:∀b o,X.base.get? b=some o->X.s₀.heap.get? b=some o/\X.H₀ b=none
 bsz:X.base.objs.size<=X.s₀.heap.objs.size
 noex:∀b o,X.base.get? b=some o->b∉X.ex
 exfs:∀b∈X.ex,b∉X.fs
 funs:X.s₀.heap.FunFrames X.base X.outer
 frf:∀b∈X.fs,X.H₀ b=none
structure Inv(X:Cx)(aa:Δ)(σ:List xC)(H:Hp)(s:Shared):Prop where
 ok:X.Ok
 os:s.os=X.s₀.os
 bare:AllBare s.gens
 base:Un X.fs X.ex X.H₀ H X.s₀.heap s.heap
 loc:∃m,s.heap.Ns X.env.locals m/\∀(i:Nat)(x:Str)(v:V),X.N[i]?=some x->σ[i]?=some (some v)->Vis X.env.scope x->∃u,RelV v u/\Look X.env s.heap m x u
 cell:∀x c,X.env.cells.lookup x=some c->∃v,s.heap.IsCell c v
 free:H X.env.locals=none
 freeC:∀x c,X.env.cells.lookup x=some c->H c=none
 pin:∀p∈X.pn++aa,s.heap.get? p.1=some p.2/\H p.1=none/\p.1≠X.env.locals/\p.1∉X.fs/\∀v,p.2.data≠.cell v
 hok:HOk X.prog X.w H s.heap
 len:σ.length=X.N.length
variable{X:Cx}{aa:Δ}{σ:List xC}{s s':Shared}{g':Array GenState}{t' i:Nat}{ch:Ψ}{x:Str}{u:Value}{M:Model}{A:Around}{E:Ε}{v:V}{Q:Unit->Shared->Prop}{e:Expr}
def Cx.Ok.nofr(ok:X.Ok)(e:X.base.get? b=some o):b∉X.fs:=λhb=>by
 have:=(ok.funs.mem hb).1;rw[e]at this;cases this
def Inv.bs(I:Inv X aa σ H s):∀b o,X.base.get? b=some o->s.heap.get? b=some o/\H b=none:=λb o e =>
 ⟨I.base.keep b o (I.ok.bs b o e).1 (I.ok.bs b o e).2 (I.ok.nofr e) (I.ok.noex b o e),I.base.free b o (I.ok.bs b o e).1 (I.ok.bs b o e).2 (I.ok.noex b o e)⟩
def Inv.bk(I:Inv X aa σ H s):∀b o,X.base.get? b=some o->s.heap.get? b=some o:=λb o e=>(I.bs b o e).1
def Inv.mod(I:Inv X aa σ H s):Mod X.K X.mg X.base:=I.ok.mod
def Inv.kIn(I:Inv X aa σ H s):X.K.In s.heap:=I.ok.mod.kin.keeps I.bk
def Inv.fr(I:Inv X aa σ H s):∃m,Fr X.base X.env.locals s.heap m :=
 let⟨m,hn,_⟩:=I.loc
 ⟨m,hn,I.bk,aL I.ok.bsz I.ok.above⟩
def Inv.lt(I:Inv X aa σ H s):X.env.locals<s.heap.objs.size:=by obtain⟨_,hn,_⟩:=I.loc;exact hn.lt
def Inv.sz(I:Inv X aa σ H s):X.s₀.heap.objs.size<=s.heap.objs.size:=aL I.ok.above (Y2 I.lt)
def Inv.nofs(I:Inv X aa σ H s)(h:s.heap.objs.size<=a):a∉X.fs:=λhb=>by
 obtain⟨_,o,ho,_⟩:=I.ok.funs.mem hb;exact absurd (aR (aK ho) (aL I.sz h)) (X2 _)
def Inv.cne(I:Inv X aa σ H s):∀x c,X.env.cells.lookup x=some c->c≠X.env.locals:=λx c e z=>by
 obtain⟨v,o,ho,hd⟩:=I.cell x c e;obtain⟨m,⟨o',es,ep,dA,bt,_⟩,_⟩:=I.loc;rw[z,dA]at ho;cases ho;rw[bt]at hd;cases hd
def Inv.funs(I:Inv X aa σ H s):s.heap.FunFrames X.base X.outer:=by
 have all:∀(l:xt),(∀b∈frs l,b∈X.fs)->X.s₀.heap.FunFrames X.base l->s.heap.FunFrames X.base l:=by
  intro l
  induction l with
  |nil=>intro _ _;trivial
  |cons env r ih =>
   intro hs hl;obtain⟨hk,⟨L,o,hf,hn,ho,hd⟩,hr⟩:=hl;have hL:L∈X.fs:=hs L (by unfold frs;rw[List.filterMap_cons,hf];exact aO);obtain⟨sl,e⟩:=I.base.slot L o ho (I.ok.frf L hL) hL λz=>I.ok.exfs L z hL;exact⟨hk,⟨L,_,hf,hn,e,hd⟩,ih (λb hb=>hs b (by unfold frs;rw[List.filterMap_cons,hf];exact aJ _ hb)) hr⟩
 exact all X.outer (λ_ hb=>hb) I.ok.funs
def Inv.stack(I:Inv X aa σ H s):s.heap.FunFrames X.base X.stack:=by
 rcases I.ok.stk with e|⟨e,hf⟩
 .rw[e];exact I.funs
 .rw[e];obtain⟨m,hn,_⟩:=I.loc;refine .cons (by rw[I.ok.kind];decide) hf hn ?_ I.funs;exact Heap.get?_none_of_le (aL I.ok.bsz I.ok.above)
def Inv.stkSub(I:Inv X aa σ H s):∀b∈frs X.stack,b∈X.env.locals::X.fs:=λb hb=>by
 rcases I.ok.stk with e|⟨e,hf⟩
 .rw[e]at hb;exact aJ _ hb
 .rw[e]at hb;unfold frs at hb;rw[List.filterMap_cons,hf]at hb;exact hb
def Inv.stkFree(I:Inv X aa σ H s):∀b∈frs X.stack,H b=none:=λb hb=>by
 rcases YU.mp (I.stkSub b hb)with e|hb
 .rw[e];exact I.free
 .obtain⟨_,o,ho,_⟩:=I.ok.funs.mem hb;exact I.base.free b o ho (I.ok.frf b hb) λz=>I.ok.exfs b z hb
def Inv.step{d':Drawn}(I:Inv X aa σ H s)
 (gf:∀b∈ch,(b∈X.ex\/X.s₀.heap.objs.size<=b)/\b≠X.env.locals/\(∀x c,X.env.cells.lookup x=some c->c≠b)/\∀p∈X.pn++aa,p.1≠b)
 (keep:∀b o,b≠X.env.locals->b∉X.fs->b∉ch->s.heap.get? b=some o->H b=none->h'.get? b=some o)
 (slot:∀b o,b≠X.env.locals->b∈X.fs->b∉ch->s.heap.get? b=some o->H b=none->∃sl,h'.get? b=some { o with slots:=sl })(free:∀b o,b∉ch->s.heap.get? b=some o->H b=none->H' b=none)
 (there:∀b o,b∉ch->s.heap.get? b=some o->∃o',h'.get? b=some o')
 (tups:∀b xs,H b=some (.tup xs)->H' b=some (.tup xs))(frzs:∀b o u,H b=some (.frz o u)->H' b=some (.frz o u))(tbls:∀b ps,H b=some (.tbl ps)->∃more,H' b=some (.tbl (ps++more)))
 (ns:∀m,s.heap.Ns X.env.locals m->h'.Ns X.env.locals m)(hok:HOk X.prog X.w H' h')(hg:AllBare g') :
  Inv X aa σ H' { s with heap:=h',gens:=g',drawn:=d',toks:=t' }:=by
 have neL:∀b o,X.s₀.heap.get? b=some o->b≠X.env.locals:=λb o e=>aQ (aR (aK e) I.ok.above);have kK:∀b o,X.s₀.heap.get? b=some o->b∉X.ex->b∉ch:=λb o e hx hb=>by
  rcases(gf b hb).1 with z|z
  .exact hx z
  .exact absurd (aR (aK e) z) (X2 _)
 have hZ:∀x c,X.env.cells.lookup x=some c->∀v,s.heap.IsCell c v->h'.IsCell c v:=λx c e v hP=>by
  obtain⟨o,ho,hd⟩:=hP;have j':c∉ch:=λz=>(gf c z).2.2.1 x c e rfl;by_cases hc:c∈X.fs
  .obtain⟨sl,q⟩:=slot c o (I.cne x c e) hc j' ho (I.freeC x c e);exact⟨_,q,hd⟩
  .exact⟨o,keep c o (I.cne x c e) hc j' ho (I.freeC x c e),hd⟩
 refine⟨I.ok,I.os,hg,⟨λb o e n hb hx=>?_,λb o e n hb hx=>?_,λb o e n hx=>?_,λb o e hx=>?_,λb xs e=>tups b xs (I.base.tups b xs e),λb o xs e=>frzs b o xs (I.base.frzs b o xs e),λb ps e=>?_⟩,?_,λx c e=>?_,?_,λx c e=>?_,λp hp=>?_,hok,I.len⟩
 .exact keep b o (neL b o e) hb (kK b o e hx) (I.base.keep b o e n hb hx) (I.base.free b o e n hx)
 .obtain⟨sl,e1⟩:=I.base.slot b o e n hb hx;obtain⟨sl',e2⟩:=slot b _ (neL b o e) hb (kK b o e hx) e1 (I.base.free b o e n hx);exact⟨sl',e2⟩
 .obtain⟨o',e1⟩:=I.base.there b o e hx;exact free b o' (kK b o e hx) e1 (I.base.free b o e n hx)
 .obtain⟨o',e1⟩:=I.base.there b o e hx;exact there b o' (kK b o e hx) e1
 .obtain⟨m1,e1⟩:=I.base.tbls b ps e;obtain⟨m2,e2⟩:=tbls b _ e1;exact⟨m1++m2,by rw[e2,Array.append_assoc]⟩
 .obtain⟨m,hn,hl⟩:=I.loc;refine⟨m,ns m hn,λi x v e1 e2 e3=>?_⟩;obtain⟨u,r,l⟩:=hl i x v e1 e2 e3;refine⟨u,r,?_⟩;rcases l with l|⟨k,c,e,z⟩
  .exact .inl l
  .exact .inr ⟨k,c,e,hZ x c e _ z⟩
 .obtain⟨v,z⟩:=I.cell x c e;exact⟨v,hZ x c e v z⟩
 .obtain⟨m,⟨o,_,_,ho,_⟩,_⟩:=I.loc;exact free _ o (λz=>(gf _ z).2.1 rfl) ho I.free
 .obtain⟨v,o,ho,hd⟩:=I.cell x c e;exact free c o (λz=>(gf c z).2.2.1 x c e rfl) ho (I.freeC x c e)
 .obtain⟨e,n,ne,nf,d⟩:=I.pin p hp;have j':p.1∉ch:=λz=>(gf p.1 z).2.2.2 p hp rfl;exact⟨keep p.1 p.2 ne nf j' e n,free p.1 p.2 j' e n,ne,nf,d⟩
def Inv.un(I:Inv X aa σ H s)(u:Un X.fs [] H H' s.heap h')(hok:HOk X.prog X.w H' h'):Inv X aa σ H' { s with heap:=h',toks:=t' }:=by
 obtain⟨m,⟨o,es,ep,ho,r⟩,_⟩:=id I.loc;obtain⟨sl,hL⟩:=u.any ho I.free wf;exact I.step (g':=s.gens) (d':=s.drawn) (ch:=[]) (λ_ z=>nomatch z) (λb o _ hb _ e n=>u.keep b o e n hb wf) (λb o _ hb _ e n=>u.slot b o e n hb wf) (λb o _ e n=>u.free b o e n wf) (λb o _ e=>u.there b o e wf) u.tups u.frzs u.tbls (λm' hm=>by
  obtain⟨o',gz,ow,dA,r'⟩:=hm;rw[ho]at dA;cases dA;exact⟨_,gz,ow,hL,r'⟩) hok I.bare
def Inv.call{d':Drawn}(I:Inv X aa σ H s)(u:Un (frs X.stack) ch H H' s.heap h')(hok:HOk X.prog X.w H' h')(hg:AllBare g')
 (gf:∀b∈ch,(b∈X.ex\/X.s₀.heap.objs.size<=b)/\b≠X.env.locals/\(∀x c,X.env.cells.lookup x=some c->c≠b)/\∀p∈X.pn++aa,p.1≠b) :
  Inv X aa σ H' { s with heap:=h',gens:=g',drawn:=d',toks:=t' }:=by
 obtain⟨m,⟨o,es,ep,ho,r⟩,_⟩:=id I.loc;obtain⟨sl,hL⟩:=u.any ho I.free λz=>(gf _ z).2.1 rfl;exact I.step (ch:=ch) gf (λb o hL hb hc e n=>u.keep b o e n (λz=>(YU.mp (I.stkSub b z)).elim hL hb) hc) (λb o _ _ hc e n=>u.any e n hc) (λb o hc e n=>u.free b o e n hc) (λb o hc e=>u.there b o e hc) u.tups u.frzs u.tbls (λm' hm=>by
  obtain⟨o',gz,ow,dA,r'⟩:=hm;rw[ho]at dA;cases dA;exact⟨_,gz,ow,hL,r'⟩) hok hg
def Inv.turned{it:Addr}(I:Inv X aa σ H s)(k:∀b o,b≠it->s.heap.get? b=some o->h'.get? b=some o)(hn:H it=none)(hL:it≠X.env.locals)
 (h1:it∈X.ex\/X.s₀.heap.objs.size<=it)(h2:∀x c,X.env.cells.lookup x=some c->c≠it)(h3:∀p∈X.pn++aa,p.1≠it):Inv X aa σ H { s with heap:=h',toks:=t' }:=by
 have jS:∀b u,H b=some u->b≠it:=λb u e z=>by rw[z,hn]at e;cases e
 refine I.step (g':=s.gens) (d':=s.drawn) (ch:=[it]) (λb hb=>?_) (λb o _ _ hc e _=>k b o (λz=>hc (by simp[z])) e) (λb o _ _ hc e _=>⟨o.slots,k b o (λz=>hc (by simp[z])) e⟩) (λ_ _ _ _ n=>n)
  (λb o hc e=>⟨o,k b o (λz=>hc (by simp[z])) e⟩) (λ_ _ e=>e) (λ_ _ _ e=>e) (λb ps e=>⟨#[],by rw[e];simp⟩) (λm hm=>?_) (λb u e=>?_) I.bare
 .have e:b=it:=by simpa using hb
  subst e;exact⟨h1,hL,h2,h3⟩
 .obtain⟨o,es,ep,ho,r⟩:=hm;exact⟨o,es,ep,k _ o (Ne.symm hL) ho,r⟩
 .refine(I.hok b u e).stay (λc v hc q=>k c v ?_ q) (λ_ q=>q) λ_ _ q=>q;rcases hc with z|z
  .rw[z];exact jS b u e
  .exact jS c _ z
def Inv.tok(I:Inv X aa σ H s)(t:Nat):Inv X aa σ H { s with toks:=t }:=I.un (h':=s.heap) (t':=t) Un.refl I.hok
def Inv.kept{t':Nat}(I:Inv X aa σ H s)(k:∀b u,s.heap.get? b=some u->h'.get? b=some u):Inv X aa σ H { s with heap:=h',toks:=t' }:=I.un (Un.kept k) (I.hok.kept k)
def Inv.laid{a:Addr}{o:HO}{t':Nat}(I:Inv X aa σ H s)(k:∀b u,s.heap.get? b=some u->h'.get? b=some u)(hp:s.heap.objs.size<=a)(new:gq X.prog X.w (upd H a o) h' a o) :
  Inv X aa σ (upd H a o) { s with heap:=h',toks:=t' }:=I.un (Un.laid k hp (I.hok.fresh hp)) (I.hok.laid k hp new)
def Inv.write{x e:Addr}{o:HO}{t':Nat}(I:Inv X aa σ H s)(mu:Mut (H x))(he:e=x\/H e=some (.own x))(k:∀b u,b≠e->s.heap.get? b=some u->h'.get? b=some u)(iS:∃u,h'.get? e=some u)
 (new:gq X.prog X.w (upd H x o) h' x o):Inv X aa σ (upd H x o) { s with heap:=h',toks:=t' }:=I.un (Un.write mu he k iS) (I.hok.write mu he k iS new)
def Inv.pins_of{gV:Δ}(I:Inv X aa σ H s)(h:∀p∈gV,s.heap.get? p.1=some p.2/\H p.1=none/\p.1≠X.env.locals/\p.1∉X.fs/\∀v,p.2.data≠.cell v):Inv X gV σ H s :=
 ⟨I.ok,I.os,I.bare,I.base,I.loc,I.cell,I.free,I.freeC,λp hp=>(Y1.mp hp).elim (λz=>I.pin p (UU _ z)) (h p),I.hok,I.len⟩
def Vd{N:Φ}(hN:N.Nodup){j:Nat}(a:N[i]?=some x)(b:N[j]?=some x):i=j:=by
 obtain⟨h1,e1⟩:=ao.mp a;obtain⟨h2,e2⟩:=ao.mp b;exact(List.getElem_inj hN).mp (e1.trans e2.symm)
abbrev qi(X:Cx)(a:Str):Prop:=X.fn a=true\/X.env.scope.names.lookup a=some .local
def aa9(I:Inv X aa σ H s)(hN:X.N.Nodup)(hi:X.N[i]?=some x)(hx:Loc X.env.scope x)(r:RelV v u)
 (h:∀s',Inv X aa (σ.set i (some v)) H s'->(∃a,Heap.SameBut a s.heap s'.heap/\(a=X.env.locals\/X.env.cells.lookup x=some a))->Q () s')(hf:qi X x):wpAny M A (storeName X.env x u) Q E s:=by
 obtain⟨m,hn,hl⟩:=id I.loc;have nv:(X.env.scope.kind == .class || (X.env.scope.kind == .module&&X.env.locals != X.env.globals))=false:=by rw[I.ok.kind];rfl
 have hiσ:i<σ.length:=by rw[I.len];exact(ao.mp hi).1
 have cne:=I.cne;have eK:∀{a:Addr}{h':Heap},(∃o,s.heap.get? a=some o/\H a=none)->Heap.SameBut a s.heap h'->HOk X.prog X.w H h':=λ{a h'}ha hs b ob e=>by
  obtain⟨_,_,cc⟩:=ha;refine(I.hok b ob e).stay (λc w' hc q=>(hs.2 c ?_).trans q) (λ_ q=>q) λ_ _ q=>q;rintro rfl;rcases hc with rfl|hc
  .rw[cc]at e;cases e
  .rw[cc]at hc;cases hc
 rcases hx with hk|hk
 .refine wpAny_storeName_local hk hn (λh' hn' hs=>?_) nv;obtain⟨oL,_,_,hoL,_⟩:=id hn;refine h _ ⟨I.ok,I.os,I.bare,⟨λb o e n hb hx=>?_,λb o e n hb hx=>?_,I.base.free,λb o e hx=>?_,I.base.tups,I.base.frzs,I.base.tbls⟩,⟨_,hn',λj y v' e1 e2 e3=>?_⟩,λy c e=>?_,I.free,I.freeC,λp hp=>?_,eK ⟨oL,hoL,I.free⟩ hs,by simpa using I.len⟩ ⟨_,hs,.inl rfl⟩
  .exact(hs.2 b (aQ (aR (aK e) I.ok.above))).trans (I.base.keep b o e n hb hx)
  .obtain⟨sl,e1⟩:=I.base.slot b o e n hb hx;exact⟨sl,(hs.2 b (aQ (aR (aK e) I.ok.above))).trans e1⟩
  .obtain⟨o',e1⟩:=I.base.there b o e hx;exact⟨o',(hs.2 b (aQ (aR (aK e) I.ok.above))).trans e1⟩
  .by_cases hj:j=i
   .subst hj;rw[hi]at e1;cases e1;rw[US hiσ]at e2;cases e2;exact⟨u,r,.inl ⟨hk,by simp⟩⟩
   .rw[UY (Ne.symm hj)]at e2;obtain⟨u',r',q⟩:=hl j y v' e1 e2 e3;refine⟨u',r',?_⟩;rcases q with⟨k,e⟩|⟨k,c,e,z⟩
    .refine .inl ⟨k,?_⟩;have:y≠x:=λe=>hj (Vd hN e1 (e ▸ hi));simp[this,e]
    .exact .inr ⟨k,c,e,z.sameBut hs (cne y c e)⟩
  .obtain⟨w',z⟩:=I.cell y c e;exact⟨w',z.sameBut hs (cne y c e)⟩
  .obtain⟨e,n,ne,nf,d⟩:=I.pin p hp;exact⟨(hs.2 p.1 ne).trans e,n,ne,nf,d⟩
 .have kx:X.fn x=true:=by
   rcases hf with z|z
   .exact z
   .rw[z]at hk;cases hk
  obtain⟨c,hc⟩:=I.ok.has x (.inl hk);obtain⟨w',z⟩:=I.cell x c hc;refine wpAny_storeName_cell I.ok.kind hk hc z (λh' df hs=>?_);obtain⟨oc,hoc,mE⟩:=id z;refine h { s with heap:=h' } ⟨I.ok,I.os,I.bare,⟨λb o e n hb hx=>?_,λb o e n hb hx=>?_,I.base.free,λb o e hx=>?_,I.base.tups,I.base.frzs,I.base.tbls⟩,⟨m,hn.sameBut hs (Ne.symm (cne x c hc)),λj y v' e1 e2 e3=>?_⟩,λy c' e=>?_,I.free,I.freeC,λp hp=>?_,eK ⟨oc,hoc,I.freeC x c hc⟩ hs,by simpa using I.len⟩ ⟨c,hs,.inr hc⟩
  .exact(hs.2 b (aQ (aR (aK e) (I.ok.cab x c kx hc)))).trans (I.base.keep b o e n hb hx)
  .obtain⟨sl,e1⟩:=I.base.slot b o e n hb hx;exact⟨sl,(hs.2 b (aQ (aR (aK e) (I.ok.cab x c kx hc)))).trans e1⟩
  .obtain⟨o',e1⟩:=I.base.there b o e hx;exact⟨o',(hs.2 b (aQ (aR (aK e) (I.ok.cab x c kx hc)))).trans e1⟩
  .by_cases hj:j=i
   .subst hj;rw[hi]at e1;cases e1;rw[US hiσ]at e2;cases e2;exact⟨u,r,.inr ⟨.inl hk,c,hc,df⟩⟩
   .rw[UY (Ne.symm hj)]at e2;obtain⟨u',r',q⟩:=hl j y v' e1 e2 e3;refine⟨u',r',?_⟩;rcases q with q|⟨k,c',e,z'⟩
    .exact .inl q
    .refine .inr ⟨k,c',e,z'.sameBut hs ?_⟩;rintro rfl;exact hj (Vd hN e1 (I.ok.inj _ _ _ e hc ▸ hi))
  .by_cases kQ:c'=c
   .subst kQ;exact⟨_,df⟩
   .obtain⟨w2,z2⟩:=I.cell y c' e;exact⟨w2,z2.sameBut hs kQ⟩
  .obtain⟨e,n,ne,nf,d⟩:=I.pin p hp;refine⟨(hs.2 p.1 ?_).trans e,n,ne,nf,d⟩;intro q;rw[q,hoc]at e;have q':oc=p.2:=Option.some.inj e;exact d w' (by rwa[<- q'])
def zN(I:Inv X aa σ H s)(hN:X.N.Nodup)(hi:X.N[i]?=some x)(hx:Loc X.env.scope x)(r:RelV v u)
 (h:∀s',Inv X aa (σ.set i (some v)) H s'->Q () s')(hf:qi X x:=by first|exact .inl rfl|exact .inr rfl|assumption):wpAny M A (storeName X.env x u) Q E s :=
 aa9 I hN hi hx r (λs' I' _=>h s' I') hf
def Inv.call'(I:Inv X aa σ H s)(ho:s'.os=s.os)(u:Un (frs X.stack) ch H H' s.heap s'.heap)(hok:HOk X.prog X.w H' s'.heap)(hg:AllBare s'.gens)
 (gf:∀b∈ch,(b∈X.ex\/X.s₀.heap.objs.size<=b)/\b≠X.env.locals/\(∀x c,X.env.cells.lookup x=some c->c≠b)/\∀p∈X.pn++aa,p.1≠b):Inv X aa σ H' s':=by
 obtain⟨h',g',d',t',o'⟩:=s';have e:o'=s.os:=ho;subst e;exact I.call (g':=g') (t':=t') (d':=d') u hok hg gf
abbrev XK:=Value->Ξ->Hp->Prop
abbrev St:=List xC
abbrev VK:=V->Hp->Prop
abbrev TE:=St->Hp->VK->Prop
abbrev TT:=St->Hp->(Bool->Hp->Prop)->Prop
abbrev TA:=St->Hp->(Ζ->Hp->Prop)->Prop
structure Ends where
 nx:St->Hp->Prop
 rt:VK
 bk:St->Hp->Prop:=λ_ _=>False
 ct:St->Hp->Prop:=λ_ _=>False
abbrev TS:=Ends->St->Hp->Prop
def EP(X:Cx)(aa:Δ)(σ:St)(Q:VK)(u:Value)(s':Shared):Prop:=∃v H',Inv X aa σ H' s'/\RelV v u/\Q v H'
def TP(X:Cx)(aa:Δ)(σ:St)(Q:Bool->Hp->Prop)(b:Bool)(s':Shared):Prop:=∃H',Inv X aa σ H' s'/\Q b H'
def AP(X:Cx)(aa:Δ)(σ:St)(Q:Ζ->Hp->Prop)(us:Θ)(s':Shared):Prop:=∃vs H',Inv X aa σ H' s'/\Vals vs us/\Q vs H'
def SP(X:Cx)(aa:Δ)(D:Ends)(f:Flow)(s':Shared):Prop :=
 match f with
 |.next=>∃σ' H',Inv X aa σ' H' s'/\D.nx σ' H'
 |.brk=>∃σ' H',Inv X aa σ' H' s'/\D.bk σ' H'
 |.cont=>∃σ' H',Inv X aa σ' H' s'/\D.ct σ' H'
 |.ret u=>∃v σ' H',Inv X aa σ' H' s'/\RelV v u/\D.rt v H'
def PE(X:Cx)(e:Expr)(t:TE):Prop :=
 ∀(aa:Δ)(s:Shared)(σ:St)(H:Hp)(Q:VK),Inv X aa σ H s->t σ H Q->wpAny (model X.prog X.w) X.A (eval e X.env) (EP X aa σ Q) X.xe s
def PT(X:Cx)(e:Expr)(t:TT):Prop :=
 ∀(aa:Δ)(s:Shared)(σ:St)(H:Hp)(Q:Bool->Hp->Prop),Inv X aa σ H s->t σ H Q->wpAny (model X.prog X.w) X.A (isTrue e X.env (eval e X.env)) (TP X aa σ Q) X.xe s
def PW(X:Cx)(e:Expr)(t:TT):Prop :=
 ∀(c6:Sem Value)(aa:Δ)(s:Shared)(σ:St)(H:Hp)(Q:Bool->Hp->Prop),Inv X aa σ H s->t σ H Q->wpAny (model X.prog X.w) X.A (isTrue e X.env c6) (TP X aa σ Q) X.xe s
def PW.pt{X:Cx}{t:TT}(h:PW X e t):PT X e t:=h _
def PA(X:Cx)(es:zt)(t:TA):Prop :=
 ∀(pos:Pos)(aa:Δ)(s:Shared)(σ:St)(H:Hp)(Q:Ζ->Hp->Prop),Inv X aa σ H s->t σ H Q->wpAny (model X.prog X.w) X.A (spliced (backTo pos (starEach es X.env))) (AP X aa σ Q) X.xe s
def PS(X:Cx)(st:Stmt)(t:TS):Prop :=
 ∀(aa:Δ)(s:Shared)(σ:St)(H:Hp)(D:Ends),Inv X aa σ H s->t D σ H->wpAny (model X.prog X.w) X.A (exec st X.env) (SP X aa D) X.xe s
def PSs(X:Cx)(st:xB)(t:TS):Prop :=
 ∀(aa:Δ)(s:Shared)(σ:St)(H:Hp)(D:Ends),Inv X aa σ H s->t D σ H->wpAny (model X.prog X.w) X.A (execs st X.env) (SP X aa D) X.xe s
def thn{α:Type}{t:Sem α}{Q Q':α->Shared->Prop}(h:wpAny M A t Q E s)(hQ:∀a s,Q a s->Q' a s):wpAny M A t Q' E s:=wpAny_mono h hQ λ_ _ x=>x
variable{σ:St}{c tg:Expr}{xs ys:Ζ}{K:Frag}{pos bi:Pos}{es:zt}{k:Nat}{te:TE}
section
variable{X:Cx}
def ahA(i:Nat):TE:=λσ H Q=>∃v,σ[i]?=some (some v)/\Q v H
def tC(v:V):TE:=λ_ H Q=>Q v H
abbrev qk(a:Str):Prop:=(a==("__debug__":Str))=false
abbrev qf(a:Str):Prop:=(a==("__classdict__":Str))=false
def ahP{pos:Pos}(hN:X.N[i]?=some x)(hv:Vis X.env.scope x)(hd:qk x:=by decide)(a9:qf x:=by decide):PE X (.Name x pos) (ahA i):=by
 intro aa s σ H Q I h;obtain⟨v,e,h⟩:=h;obtain⟨m,hn,hl⟩:=I.loc;obtain⟨u,r,l⟩:=hl i x v hN e hv;have fin:EP X aa σ Q u s:=⟨v,H,I,r,h⟩;rcases l with⟨hk,hm⟩|⟨hk,c,hc,de⟩
 .exact wpAny_Name (wpAny_loadName_local I.ok.kind hk hn hm fin) hd
 .rcases hk with hk|hk
  .exact wpAny_Name (wpAny_loadName_cell I.ok.kind hk hc de fin) hd
  .exact wpAny_Name (wpAny_loadName_free I.ok.kind hk hc de fin a9) hd
def aia{i j pos} : PE X (.Constant (.int i) j pos) (tC (.int i)):=λ_ _ _ H _ I h=>wpAny_Constant_int ⟨.int i,H,I.tok _,⟨_,rfl⟩,h⟩
def aox{b j pos} : PE X (.Constant (.bool b) j pos) (tC (.bl b)):=λ_ _ _ H _ I h=>Constant_bool ⟨.bl b,H,I,rfl,h⟩
def ahq{j pos} : PE X (.Constant .none j pos) (tC .non):=λ_ _ _ H _ I h=>Constant_none ⟨.non,H,I,rfl,h⟩
def ahC{x j pos} : PE X (.Constant (.str x) j pos) (tC (.str x)):=λ_ _ _ H _ I h=>Calls.Constant_str ⟨.str x,H,I.tok _,⟨_,rfl⟩,h⟩
def Gl(X:Cx)(x:Str):Prop:=X.env.kindOf x=some .globalImplicit
def Jm{pos:Pos}{Q:Ε}(I:Inv X aa σ H s)(hg:Gl X x)(hm:X.mg x=some u)(h:Q u s)
 (hd:qk x:=by decide):wpAny (model X.prog X.w) X.A (eval (.Name x pos) X.env) Q E s :=
 Calls.Name_function_global I.ok.kind hg (Calls.loadGlobal_global (by rw[I.ok.glob];exact I.mod.glob.keeps I.bk) hm h) hd
def zW{pos:Pos}{Q:Ε}(I:Inv X aa σ H s)(hg:Gl X x)(hm:X.mg x=none)(hv:bootBuiltins x=some u)(h:Q u s)
 (hn:x≠"__name__":=by decide)(hd:qk x:=by decide):wpAny (model X.prog X.w) X.A (eval (.Name x pos) X.env) Q E s:=by
 obtain⟨mb,h1,h2⟩:=I.mod.blt;exact Calls.Name_function_global I.ok.kind hg (Calls.loadGlobal_builtin (by rw[I.ok.glob];exact I.mod.glob.keeps I.bk) hm (by rw[I.ok.blt];exact h1.keeps I.bk) ((h2 x hn).trans hv) h) hd
def Y_{pos:Pos}(hg:Gl X x)(hm:X.mg x=some u)(r:RelV v u)(hd:qk x:=by decide):PE X (.Name x pos) (tC v) :=
 λ_ _ _ H _ I h=>Jm I hg hm ⟨v,H,I,r,h⟩ hd
def aeP{pos:Pos}(hg:Gl X x)(hm:X.mg x=none)(hv:bootBuiltins x=some u)(r:RelV v u)(hn:x≠"__name__":=by decide)(hd:qk x:=by decide):PE X (.Name x pos) (tC v) :=
 λ_ _ _ H _ I h=>zW I hg hm hv ⟨v,H,I,r,h⟩ hn hd
variable{a b:Expr}{ta tb:TE}{pos:Pos}
def PC(X:Cx)(op:CmpOp)(a b:Expr)(t:TE):Prop :=
 ∀(aa:Δ)(s:Shared)(σ:St)(H:Hp)(Q:VK),Inv X aa σ H s->t σ H Q ->
  wpAny (model X.prog X.w) X.A (eval a X.env) (λv s₁=>wpAny (model X.prog X.w) X.A (eval b X.env) (λu s₂=>wpAny (model X.prog X.w) X.A (compareOp op v u) (EP X aa σ Q) X.xe s₂) X.xe s₁) X.xe s
def tB(t:TE):TT:=λσ H Q=>t σ H λx H1=>∃c,x=.bl c/\Q c H1
def ab4{op:CmpOp}{t:TE}(h:PC X op a b t)(h1:behindInMarks op b=false:=by rfl):PT X (.Compare a [op] [b] pos) (tB t):=by
 intro aa s σ H Q I hw;refine wpAny_isTrue_Compare1 (thn (h aa s σ H _ I hw) λv s1 h1=>thn h1 λu s2 h2=>thn h2 λc s3 hP=>?_) h1;obtain⟨x,H1,I1,r1,q1⟩:=hP;obtain⟨d,rfl,q⟩:=q1;cases r1;exact wpAny_truthy_bool ⟨H1,I1,q⟩
variable{tA kG:TT}{rest:zt}
def aqq(t u:TT):TT:=λσ H Q=>t σ H λc H1=>if c=true then u σ H1 Q else Q false H1
def tOr(t u:TT):TT:=λσ H Q=>t σ H λc H1=>if c=true then Q true H1 else u σ H1 Q
def aqm(t:TT):TT:=λσ H Q=>t σ H λc H1=>Q (!c) H1
def pw_and1(ha:PT X a tA):PW X (.BoolOp .And [a] pos) tA:=by
 intro wh aa s σ H Q I h;refine isTrue_and (thn (ha aa s σ H Q I h) λc s1 e=>?_);cases c with
 |true=>exact isTrue_and_nil e
 |false=>exact e
def pw_or1(ha:PT X a tA):PW X (.BoolOp .Or [a] pos) tA:=by
 intro wh aa s σ H Q I h;refine isTrue_or (thn (ha aa s σ H Q I h) λc s1 e=>?_);cases c with
 |false=>exact isTrue_or_nil e
 |true=>exact e
def pw_and(ha:PT X a tA)(hb:PW X (.BoolOp .And (b::rest) pos) kG):PW X (.BoolOp .And (a::b::rest) pos) (aqq tA kG):=by
 intro wh aa s σ H Q I h;refine isTrue_and (thn (ha aa s σ H _ I h) λc s1 hP=>?_);obtain⟨H1,I1,q1⟩:=hP;cases c with
 |true=>exact hb wh aa s1 σ H1 Q I1 q1
 |false=>exact⟨H1,I1,q1⟩
def pw_or(ha:PT X a tA)(hb:PW X (.BoolOp .Or (b::rest) pos) kG):PW X (.BoolOp .Or (a::b::rest) pos) (tOr tA kG):=by
 intro wh aa s σ H Q I h;refine isTrue_or (thn (ha aa s σ H _ I h) λc s1 hP=>?_);obtain⟨H1,I1,q1⟩:=hP;cases c with
 |true=>exact⟨H1,I1,q1⟩
 |false=>exact hb wh aa s1 σ H1 Q I1 q1
def ajt(ha:PT X a tA):PT X (.UnaryOp .Not a pos) (aqm tA):=by
 intro aa s σ H Q I h;exact isTrue_not (ha aa s σ H (λc H1=>Q (!c) H1) I h)
def ak6(ta tb:TE):TE:=λσ H Q=>ta σ H λx H1=>∃c,x=.bl c/\if c=true then tb σ H1 Q else Q (.bl false) H1
def aoJ(ta:TE):TE:=λσ H Q=>ta σ H λx H1=>∃c,x=.bl c/\Q (.bl (!c)) H1
def ajB{op}{t:TE}(h:PE X a t):PE X (.BoolOp op [a] pos) t:=λaa s σ H Q I hw=>BoolOp_one (h aa s σ H Q I hw)
def aiG(ha:PE X a ta)(hb:PE X (.BoolOp .And (b::rest) pos) tb):PE X (.BoolOp .And (a::b::rest) pos) (ak6 ta tb):=by
 intro aa s σ H Q I h;refine BoolOp_and (thn (ha aa s σ H _ I h) λv s1 hP=>?_);obtain⟨x,H1,I1,r1,q1⟩:=hP;obtain⟨c,rfl,q1⟩:=q1;cases r1;refine wpAny_truthy_bool ?_;cases c with
 |true=>exact hb aa s1 σ H1 Q I1 q1
 |false=>exact⟨.bl false,H1,I1,rfl,q1⟩
def ahY(ha:PE X a ta):PE X (.UnaryOp .Not a pos) (aoJ ta):=by
 intro aa s σ H Q I h;refine UnaryOp_ (thn (ha aa s σ H _ I h) λv s1 hP=>?_);obtain⟨x,H1,I1,r1,q1⟩:=hP;obtain⟨c,rfl,q1⟩:=q1;cases r1;exact not_of (wpAny_truthy_bool ⟨.bl (!c),H1,I1,rfl,q1⟩)
def tIf(t:TT)(ta tb:TE):TE:=λσ H Q=>t σ H λc H1=>if c=true then ta σ H1 Q else tb σ H1 Q
def abo(hc:PT X c tA)(ha:PE X a ta)(hb:PE X b tb):PE X (.IfExp c a b pos) (tIf tA ta tb):=by
 intro aa s σ H Q I h;refine wpAny_IfExp (thn (hc aa s σ H _ I h) λd s1 hP=>?_);obtain⟨H1,I1,q1⟩:=hP;cases d with
 |true=>exact ha aa s1 σ H1 Q I1 q1
 |false=>exact hb aa s1 σ H1 Q I1 q1
end
def SqL(K:Frag)(H:Hp)(a:Addr)(xs:Ζ):Prop :=
 Rd H a (.lst xs) \/
  ∃(o:Obj)(its:xa)(n:Nat),K.lookup a=some o/\o.cls=.type "list"/\o.dict=none/\o.data=.seq its n/\its.size<=sizeLine/\Vals xs its.toList
def SqT(K:Frag)(H:Hp)(a:Addr)(xs:Ζ):Prop :=
 Rd H a (.tup xs) \/
  ∃(o:Obj)(its:xa)(n:Nat),K.lookup a=some o/\o.cls=.type "tuple"/\o.data=.seq its n/\its.size<=sizeLine/\Vals xs its.toList
def ap9:Value->xC
 |.none=>some .non
 |.bool b=>some (.bl b)
 |.int i _=>some (.int i)
 |.str x _=>some (.str x)
 |.bytes b _=>some (.byt b)
 |.float b _=>some (.flt b)
 |.ref a=>some (.ref a)
 |.type n=>some (.ty n)
 |_=>none
def RelV.abs{x:V}(r:RelV x u):ap9 u=some x:=by
 cases x with
 |non=>cases r;rfl
 |bl _=>cases r;rfl
 |int _=>obtain⟨t,rfl⟩:=r;rfl
 |str _=>obtain⟨t,rfl⟩:=r;rfl
 |byt _=>obtain⟨t,rfl⟩:=r;rfl
 |flt _=>obtain⟨t,rfl⟩:=r;rfl
 |ref _=>cases r;rfl
 |ty _=>cases r;rfl
def RelV.inj{x y:V}{u:Value}(r:RelV x u)(q:RelV y u):x=y:=Option.some.inj (r.abs.symm.trans q.abs)
theorem Vals.inj:∀{xs ys:Ζ}{us:Θ},Vals xs us->Vals ys us->xs=ys
 |_,_,_,.nil,.nil=>rfl
 |_,_,_,.cons r t,.cons r' t'=>by rw[r.inj r',Vals.inj t t']
def SqL.of(h:H a=some (.lst xs)):SqL K H a xs:=.inl (.inl h)
def SqT.of(h:H a=some (.tup xs)):SqT K H a xs:=.inl (.inl h)
def Inv.list(I:Inv X aa σ H s)(h:SqL X.K H a xs):∃its:Θ,Vals xs its/\PlainL s.heap a its.toArray/\xs.length<=sizeLine:=by
 rcases h with h|⟨o,its,n,hk,hc,hd,hs,hz,r⟩
 .obtain⟨z,its,n,r,e⟩:=h.ok I.hok;exact⟨its,r,⟨_,n,e,rfl,rfl,rfl⟩,z⟩
 .refine⟨its.toList,r,⟨o,n,I.kIn a o hk,hc,hd,by simpa using hs⟩,?_⟩;have e:=r.length;simp only[Array.length_toList]at e;exact aL (WJ e) hz
def Inv.tuple(I:Inv X aa σ H s)(h:SqT X.K H a xs):∃its:Θ,Vals xs its/\IsTup s.heap a its.toArray/\xs.length<=sizeLine:=by
 rcases h with h|⟨o,its,n,hk,hc,hs,hz,r⟩
 .obtain⟨z,its,r,p⟩:=h.ok I.hok;exact⟨its,r,p,z⟩
 .refine⟨its.toList,r,⟨o,I.kIn a o hk,hc,n,by simpa using hs⟩,?_⟩;have e:=r.length;simp only[Array.length_toList]at e;exact aL (WJ e) hz
def Inv.list_inj(I:Inv X aa σ H s)(h:SqL X.K H a xs)(h':SqL X.K H a ys):xs=ys:=by
 obtain⟨its,r,⟨o,n,e,_,_,d⟩,_⟩:=I.list h;obtain⟨its',r',⟨o',n',e',_,_,d'⟩,_⟩:=I.list h';rw[e]at e';cases e';rw[d]at d';injection d' with d1 _;have:its=its':=by simpa using ZH Array.toList d1
 subst this;exact r.inj r'
abbrev Cx.wish(X:Cx)(E:Ε):Cx:={ X with xe:=E }
abbrev Cx.nox(X:Cx):Cx:=X.wish λ_ _=>False
def Cx.Ok.wish{X:Cx}(ok:X.Ok)(E:Ε):(X.wish E).Ok :=
 ⟨ok.mod,ok.kind,ok.glob,ok.blt,ok.above,ok.inj,ok.has,ok.cab,ok.hd,ok.frames,ok.stk,ok.exf,ok.bs,ok.bsz,ok.noex,ok.exfs,ok.funs,ok.frf⟩
def Cx.Ok.unwish{X:Cx}(ok:(X.wish E).Ok):X.Ok :=
 ⟨ok.mod,ok.kind,ok.glob,ok.blt,ok.above,ok.inj,ok.has,ok.cab,ok.hd,ok.frames,ok.stk,ok.exf,ok.bs,ok.bsz,ok.noex,ok.exfs,ok.funs,ok.frf⟩
def Inv.wish(I:Inv X aa σ H s)(E:Ε):Inv (X.wish E) aa σ H s:=⟨I.ok.wish E,I.os,I.bare,I.base,I.loc,I.cell,I.free,I.freeC,I.pin,I.hok,I.len⟩
def Inv.unwish(I:Inv (X.wish E) aa σ H s):Inv X aa σ H s:=⟨I.ok.unwish,I.os,I.bare,I.base,I.loc,I.cell,I.free,I.freeC,I.pin,I.hok,I.len⟩
def SP.unwish{D:Ends}{f:Flow}{s':Shared}(h:SP (X.wish E) aa D f s'):SP X aa D f s':=by
 cases f with
 |next=>obtain⟨σ',H',I,q⟩:=h;exact⟨σ',H',I.unwish,q⟩
 |brk=>obtain⟨σ',H',I,q⟩:=h;exact⟨σ',H',I.unwish,q⟩
 |cont=>obtain⟨σ',H',I,q⟩:=h;exact⟨σ',H',I.unwish,q⟩
 |ret u=>obtain⟨v,σ',H',I,r,q⟩:=h;exact⟨v,σ',H',I.unwish,r,q⟩
def PSs.nox{st:xB}{t:TS}(h:PSs X.nox st t):PSs X st t:=λaa s σ H D I hw =>
 wpAny_mono (h aa s σ H D (I.wish _) hw) (λ_ _ q=>q.unwish) λ_ _ z=>False.elim z
section
variable{X:Cx}{st:Stmt}{rest:xB}{t u:TS}{e:Expr}{te:TE}{pos:Pos}
def alg:TS:=λD σ H=>D.nx σ H
def alG(t u:TS):TS:=λD σ H=>t { D with nx:=u D } σ H
def afJ:PSs X [] alg:=λ_ _ σ H _ I h=>wpAny_execs_nil ⟨σ,H,I,h⟩
def aco(h1:PS X st t)(h2:PSs X rest u):PSs X (st::rest) (alG t u):=by
 intro aa s σ H D I h;refine wpAny_execs_cons (thn (h1 aa s σ H { D with nx:=u D } I h) λf s1 q=>?_);cases f with
 |next =>
  obtain⟨σ',H',I',q⟩:=q;exact h2 aa s1 σ' H' D I' q
 |ret v=>exact q
 |brk=>exact q
 |cont=>exact q
def af5(h1:PS X st t):PSs X [st] t:=by
 intro aa s σ H D I h;refine wpAny_execs_cons (thn (h1 aa s σ H D I h) λf s1 q=>?_);cases f with
 |next=>exact wpAny_execs_nil q
 |ret v=>exact q
 |brk=>exact q
 |cont=>exact q
def Inv.quiet(I:Inv X aa σ H s):interactive X.env=false:=by simp[interactive,I.ok.kind]
def amA(te:TE):TS:=λD σ H=>te σ H λ_ H1=>D.nx σ H1
def Bb(he:PE X e te)(hs:swapsWith e none pos.line X.env=pure false:=by rfl):PS X (.Expr e pos) (amA te):=by
 intro aa s σ H D I h;exact wpAny_Expr_any (thn (he aa s σ H _ I h) λv s1 hP=>by obtain⟨x,H1,I1,r1,q1⟩:=hP;exact⟨σ,H1,I1,q1⟩) I.quiet hs
def apq(te:TE):TS:=λD σ H=>te σ H D.rt
def WM(he:PE X e te):PS X (.Return (some e) pos) (apq te):=by
 intro aa s σ H D I h;exact wpAny_Return_some (thn (he aa s σ H _ I h) λv s1 hP=>by obtain⟨x,H1,I1,r1,q1⟩:=hP;exact⟨x,σ,H1,I1,r1,q1⟩)
def apG(c:TT)(t u:TS):TS:=λD σ H=>c σ H λb H1=>if b=true then t D σ H1 else u D σ H1
def ak5{a b:xB}{tc:TT}(hc:PT X c tc)(ha:PSs X a t)(hb:PSs X b u):PS X (.If c a b pos) (apG tc t u):=by
 intro aa s σ H D I h;refine wpAny_If (thn (hc aa s σ H _ I h) λd s1 hP=>?_);obtain⟨H1,I1,q1⟩:=hP;cases d with
 |true=>exact ha aa s1 σ H1 D I1 q1
 |false=>exact hb aa s1 σ H1 D I1 q1
def ahn:TS:=λ_ _ _=>False
def adt:PS X st ahn:=λ_ _ _ _ _ _ h=>h.elim
end
abbrev TG:=V->St->Hp->(St->Hp->Prop)->Prop
abbrev TGs:=Ζ->St->Hp->(St->Hp->Prop)->Prop
def PG(X:Cx)(h9:Expr)(t:TG):Prop :=
 ∀(aa:Δ)(s:Shared)(σ:St)(H:Hp)(v:V)(u:Value)(Q:St->Hp->Prop),Inv X aa σ H s->RelV v u->t v σ H Q ->
  wpAny (model X.prog X.w) X.A (assign h9 X.env u) (λ_ s'=>∃σ' H',Inv X aa σ' H' s'/\Q σ' H') X.xe s
def PGs(X:Cx)(ts:zt)(t:TGs):Prop :=
 ∀(aa:Δ)(s:Shared)(σ:St)(H:Hp)(vs:Ζ)(us:Θ)(Q:St->Hp->Prop),Inv X aa σ H s->Vals vs us->t vs σ H Q ->
  wpAny (model X.prog X.w) X.A (assignInOrder ((assignEach ts X.env).map (·.2)) us) (λ_ s'=>∃σ' H',Inv X aa σ' H' s'/\Q σ' H') X.xe s
abbrev ahE:=V->V->V->Hp->(Hp->Prop)->Prop
def aoL(X:Cx)(t:ahE):Prop :=
 ∀(aa:Δ)(s:Shared)(σ:St)(H:Hp)(o i v:V)(ov iv u:Value)(Q:Hp->Prop),Inv X aa σ H s->RelV o ov->RelV i iv->RelV v u->t o i v H Q ->
  wpAny (model X.prog X.w) X.A (setItem ov iv u) (λ_ s'=>∃H',Inv X aa σ H' s'/\Q H') X.xe s
abbrev TIp:=V->V->Hp->VK->Prop
def PIp(X:Cx)(op:Operator)(t:TIp):Prop :=
 ∀(aa:Δ)(s:Shared)(σ:St)(H:Hp)(x y:V)(v u:Value)(Q:VK),Inv X aa σ H s->RelV x v->RelV y u->t x y H Q ->
  wpAny (model X.prog X.w) X.A (inplaceOp op v u) (EP X aa σ Q) X.xe s
def Bx(i:Nat):TG:=λv σ H Q=>Q (σ.set i (some v)) H
def gB(hN:X.N.Nodup)(hi:X.N[i]?=some x)(hx:Loc X.env.scope x)(hf:qi X x:=by first|exact .inl rfl|exact .inr rfl|assumption):PG X (.Name x pos) (Bx i):=by
 intro aa s σ H v u Q I r h;exact wpAny_assign_Name (zN I hN hi hx r (λs' I'=>⟨_,H,I',h⟩) hf)
def ap6:TGs:=λvs σ H Q=>vs=[]/\Q σ H
def anW(t:TG)(u:TGs):TGs:=λvs σ H Q=>∃v r,vs=v::r/\t v σ H λσ' H'=>u r σ' H' Q
def agn:PGs X [] ap6:=by
 intro aa s σ H vs us Q I r h;obtain⟨e,h⟩:=h;subst e;cases r;exact assignInOrder_nil ⟨σ,H,I,h⟩
def abF{t:TG}{u:TGs}(h1:PG X e t)(h2:PGs X es u)
 (hs:(assignEach (e::es) X.env).map (·.2)=assign e X.env::(assignEach es X.env).map (·.2):=by rfl):PGs X (e::es) (anW t u):=by
 intro aa s σ H vs us Q I r h;obtain⟨v,vr,e1,h⟩:=h;subst e1;cases r with
 |cons r rr =>
  rw[hs];refine assignInOrder_cons (thn (h1 aa s σ H _ _ _ I r h) λ_ s1 hP=>?_);obtain⟨σ1,H1,I1,q1⟩:=hP;exact h2 aa s1 σ1 H1 _ _ Q I1 rr q1
def apn(K:Frag)(n:Nat)(t:TGs):TG:=λv σ H Q=>∃a xs,v=.ref a/\SqT K H a xs/\xs.length=n/\t xs σ H Q
abbrev zk(X:Cx)(a:zt):Prop:=(assignEach a X.env).findIdx? (·.1)=none
def aio{t:TGs}{n:Nat}(hc:X.calm=true)(h:PGs X es t)
 (hn:(assignEach es X.env).length=n:=by rfl)(b8:zk X es:=by rfl):PG X (.Tuple es k pos) (apn X.K n t):=by
 intro aa s σ H v u Q I r hw;obtain⟨a,xs,e1,hq,hl,hw⟩:=hw;subst e1;cases r;obtain⟨its,rv,ht,hz⟩:=I.tuple hq;refine assign_Tuple_tuple (I.ok.hd hc) ht (by simp[hn,<- hl,rv.length]) b8 λh' hx=>?_;have I1:Inv X aa σ H { s with heap:=h' }:=I.kept (t':=s.toks) λb o e=>hx b o (aQ (aK e)) e;exact h aa _ σ H xs _ Q I1 (by simpa using rv) hw
def apJ(to ti:TE)(t:ahE):TG:=λv σ H Q=>to σ H λo H1=>ti σ H1 λi H2=>t o i v H2 λH3=>Q σ H3
def adl{o i:Expr}{to ti:TE}{t:ahE}(ho:PE X o to)(hi:PE X i ti)(hs:aoL X t)
 (ha:∀v,assign (.Subscript o i pos) X.env v=(do
   let ov <- holding [v] (eval o X.env)
   let iv <- holding [v,ov] (eval i X.env)
   standAt pos
   holding [v,ov,iv] (setItem ov iv v)
   release [v,ov,iv] []):=by intro _;rfl):PG X (.Subscript o i pos) (apJ to ti t):=by
 intro aa s σ H v u Q I r h;rw[ha];refine ZU (wpAny_holding (thn (ho aa s σ H _ I h) λov s1 hP=>?_));obtain⟨x,H1,I1,r1,q1⟩:=hP;refine ZU (wpAny_holding (thn (hi aa s1 σ H1 _ I1 q1) λiv s2 hP=>?_));obtain⟨y,H2,I2,r2,q2⟩:=hP;refine ZU (wpAny_standAt (ZU (wpAny_holding (thn (hs aa s2 σ H2 x y v ov iv u _ I2 r1 r2 r q2) λ_ s3 hP=>?_))));obtain⟨H3,I3,q3⟩:=hP;exact wpAny_release ⟨σ,H3,I3,q3⟩
def aen(te:TE)(g:TG):TS:=λD σ H=>te σ H λx H1=>g x σ H1 D.nx
def Wx{g:TG}(he:PE X e te)(hg:PG X tg g)(hs:swapsWithSole [tg] e pos.line X.env=pure false:=by rfl)(hw:swappedStores [tg] e X.env=pure none:=by rfl)
 (h1:(assignEach [tg] X.env).map (·.2)=[assign tg X.env]:=by rfl):PS X (.Assign [tg] e pos) (aen te g):=by
 intro aa s σ H D I h;refine wpAny_Assign_stores (thn (he aa s σ H _ I h) λv s1 hP=>?_) hs hw;obtain⟨x,H1,I1,r1,q1⟩:=hP;rw[h1];exact thn (hg aa s1 σ H1 x v _ I1 r1 q1) λ_ s2 q=>q
def ade(hN:X.N.Nodup)(hi:X.N[i]?=some x)(hx:Loc X.env.scope x)(he:PE X e te)(hs:swapsWith e (some (.Name x bi)) pos.line X.env=pure false:=by rfl)(hf:qi X x:=by first|exact .inl rfl|exact .inr rfl|assumption) :
  PS X (.Assign [.Name x bi] e pos) (aen te (Bx i)):=by
 intro aa s σ H D I h;refine wpAny_Assign_Name (thn (he aa s σ H _ I h) λv s1 hP=>?_) hs;obtain⟨y,H1,I1,r1,q1⟩:=hP;exact zN I1 hN hi hx r1 (λs2 I2=>⟨_,H1,I2,q1⟩) hf
def ape(i j:Nat)(ta:TA):TS:=λD σ H=>ta σ H λvs H1=>∃v w,vs=[v,w]/\D.nx ((σ.set i (some v)).set j (some w)) H1
variable{a:Expr}{ta:TA}{op:Operator}{b6:xB}{p:Pos}{fp:Ψ}
def ai2{j:Nat}{y:Str}{b:Expr}{px py pt:Pos}{kt k2 pt2}(hc:X.calm=true)(hN:X.N.Nodup)(hi:X.N[i]?=some x)(hj:X.N[j]?=some y)(iP:i≠j)
 (hx:X.env.scope.names.lookup x=some .local)(hy:X.env.scope.names.lookup y=some .local)(ha:PA X [a,b] ta)
 (hw:swappedStores [.Tuple [.Name x px,.Name y py] kt pt] (.Tuple [a,b] k2 pt2) X.env=pure (some [x,y]))
 (hs:swapsWithSole [.Tuple [.Name x px,.Name y py] kt pt] (.Tuple [a,b] k2 pt2) pos.line X.env=pure false:=by rfl) :
  PS X (.Assign [.Tuple [.Name x px,.Name y py] kt pt] (.Tuple [a,b] k2 pt2) pos) (ape i j ta):=by
 intro aa s σ H D I h;rw[exec_Assign_arm];refine ZU (wpAny_standAt ?_);rw[hs];refine ZU (ZT ?_);rw[ZZ wx];refine ZU (Tuple_ (thn (ha _ aa s σ H _ I h) λus s1 hP=>?_));obtain⟨vs,H1,I1,r1,q1⟩:=hP;obtain⟨v,w,e1,q1⟩:=q1;subst e1;obtain⟨u1,u2,rfl,rv,fI⟩ : ∃u1 u2,us=[u1,u2]/\RelV v u1/\RelV w u2:=by
  cases r1 with
  |cons p q =>
   cases q with
   |cons p' q' =>
    cases q';exact⟨_,_,rfl,p,p'⟩
 refine wpAny_newObj_type ?_ (by show 2<=sizeLine;decide);have I2:Inv X aa σ H1 { s1 with heap:=s1.heap.push { cls:=.type "tuple",data:=.seq [u1,u2].toArray } }:=I1.kept (t':=s1.toks) λb o e=>aH _ e;rw[hw];refine ZU (ZT ?_);show wpAny (model X.prog X.w) X.A (do rule "assign.swapped-stores"; let items <- unpackItems (.ref s1.heap.objs.size) 2 none;assignInOrder [λv=>bindName X.env y v,λv=>bindName X.env x v] items.reverse;pure Flow.next) _ _ _;refine ZU (wpAny_rule (ZU (unpackItems_tuple (items:=#[u1,u2]) (I.ok.hd hc) (IsTup.new s1.heap _) λh' hx'=>?_)));have I3:=I2.kept (h':=h') (t':=s1.toks) λb o e=>hx' b o (aQ (aK e)) e;show wpAny _ _ (assignInOrder [λv=>bindName X.env y v,λv=>bindName X.env x v] [u2,u1] >>= λ_=>pure Flow.next) _ _ _;refine ZU (assignInOrder_cons (wpAny_bindName (zN I3 hN hj (.inl hy) fI (λs2 I4=>?_) (.inr hy))));refine assignInOrder_cons (wpAny_bindName (zN I4 hN hi (.inl hx) rv (λs3 I5=>assignInOrder_nil (ZT ?_)) (.inr hx)));rw[List.set_comm _ _ (Ne.symm iP)]at I5;exact⟨_,H1,I5,q1⟩
def ao6(i:Nat)(te:TE)(ti:TIp):TS:=λD σ H=>∃x,σ[i]?=some (some x)/\te σ H λy H1=>ti x y H1 λz H2=>D.nx (σ.set i (some z)) H2
def ai6{ti:TIp}(hN:X.N.Nodup)(hi:X.N[i]?=some x)(hx:Loc X.env.scope x)(he:PE X e te)(ho:PIp X op ti)(hf:qi X x:=by first|exact .inl rfl|exact .inr rfl|assumption) :
  PS X (.AugAssign (.Name x bi) op e pos) (ao6 i te ti):=by
 intro aa s σ H D I h;obtain⟨v,e1,h⟩:=h;obtain⟨m,hn,hl⟩:=I.loc;have vis:Vis X.env.scope x:=by rcases hx with k|k;exact .inl k;exact .inr (.inl k)
 obtain⟨u,r,l⟩:=hl i x v hi e1 vis;refine wpAny_AugAssign_Name ?_;have go:wpAny (model X.prog X.w) X.A (eval e X.env) (λw s₂=>wpAny (model X.prog X.w) X.A (inplaceOp op u w) (λr s₃=>wpAny (model X.prog X.w) X.A (storeName X.env x r) (λ_=>SP X aa D .next) X.xe s₃) X.xe s₂) X.xe s:=by
  refine thn (he aa s σ H _ I h) λw s1 hP=>?_;obtain⟨y,H1,I1,r1,q1⟩:=hP;refine thn (ho aa s1 σ H1 v y u w _ I1 r r1 q1) λz s2 hP=>?_;obtain⟨zv,H2,I2,r2,q2⟩:=hP;exact zN I2 hN hi hx r2 (λs3 I3=>⟨_,H2,I3,q2⟩) hf
 rcases l with⟨hk,hm⟩|⟨hk,c,hc,de⟩
 .exact wpAny_loadName_local I.ok.kind hk hn hm go
 .rcases hk with hk|hk
  .exact wpAny_loadName_cell I.ok.kind hk hc de go
  .rcases hx with k|k
   .have:X.env.scope.names.lookup x=some .free:=hk;rw[k]at this;cases this
   .have:X.env.scope.names.lookup x=some .free:=hk;rw[k]at this;cases this
def ipI(f:Int->Int->Int):TIp:=λx y H Q=>∃i j,x=.int i/\y=.int j/\Q (.int (f i j)) H
def adb:PIp X .Add (ipI λi j=>i+j):=by
 intro aa s σ H x y v u Q I r1 r2 h;obtain⟨i,j,e1,e2,q⟩:=h;subst e1;subst e2;obtain⟨t,rfl⟩:=r1;obtain⟨t',rfl⟩:=r2;exact iadd_int ⟨.int _,H,I.tok _,⟨_,rfl⟩,q⟩
def ajd(c:TT)(tb:TS):TS:=λD σ H=>∃W:Nat->St->Hp->Prop,(∃m,W m σ H)/\∀m σ H,W m σ H ->
 c σ H λb H1=>if b=true then ∃N:St->Hp->Prop,(∀σ' H',N σ' H'->∃m',m'<m/\W m' σ' H')/\tb { D with nx:=N,ct:=N,bk:=D.nx } σ H1 else D.nx σ H1
def adf{tc:TT}{tb:TS}(hp:PassesOwn (model X.prog X.w) X.A X.env X.xe)(hc:PT X c tc)(hb:PSs X b6 tb):PS X (.While c b6 [] pos) (ajd tc tb):=by
 intro aa s σ H D I h;obtain⟨W,⟨m0,w0⟩,turn⟩:=h;refine wpAny_While (codeAny_whileLoop (λn s'=>∃σ' H',Inv X aa σ' H' s'/\W n σ' H') ?_ m0 ⟨σ,H,I,w0⟩);rintro n s1 ⟨σ1,H1,I1,w1⟩;refine wpAny_passesOwn hp (thn (hc aa s1 σ1 H1 _ I1 (turn n σ1 H1 w1)) λb s2 hP=>?_);obtain⟨H2,I2,q2⟩:=hP;cases b with
 |true =>
  obtain⟨N,hN,q2⟩:=q2;rw[ZY rfl];refine wpAny_passesOwn hp (thn (hb aa s2 σ1 H2 _ I2 q2) λf s3 q3=>?_);cases f with
  |next =>
   obtain⟨σ3,H3,I3,n3⟩:=q3;obtain⟨m',hm,w3⟩:=hN σ3 H3 n3;exact⟨m',hm,σ3,H3,I3,w3⟩
  |cont =>
   obtain⟨σ3,H3,I3,n3⟩:=q3;obtain⟨m',hm,w3⟩:=hN σ3 H3 n3;exact⟨m',hm,σ3,H3,I3,w3⟩
  |brk=>exact q3
  |ret v=>exact q3
 |false =>
  rw[ZZ bx];exact wpAny_execs_nil ⟨σ1,H2,I2,q2⟩
structure It where
 go:Nat->Hp->Prop
 yld:Nat->Hp->V->Hp->Prop
 stop:Nat->Hp->Prop
def Ig(X:Cx)(aa:Δ)(H:Hp)(b:Addr):Prop :=
 H b=none/\b≠X.env.locals/\b∉X.fs/\(b∈X.ex\/X.s₀.heap.objs.size<=b)/\(∀x c,X.env.cells.lookup x=some c->c≠b)/\∀p∈X.pn++aa,p.1≠b
def Inv.fpOk{X:Cx}(I:Inv X aa σ H s)(hb:s.heap.objs.size<=b)(hn:H' b=none):Ig X aa H' b:=by
 refine⟨hn,VQ (aR I.lt hb),I.nofs hb,.inr (aL I.sz hb),λx c e z=>?_,λp hp z=>?_⟩
 .obtain⟨v,q⟩:=I.cell x c e;exact absurd (aR q.lt (by rwa[z])) (X2 _)
 .exact absurd (aR (aK (I.pin p hp).1) (by rwa[z])) (X2 _)
structure Turn(P:Program)(w:World)(K:Frag)(tg:Expr)(J:It)(fp:Ψ)(it:Addr)(tn:Nat->Heap->Prop):Prop where
 mem:it∈fp
 obj:∀i h,tn i h->∀b∈fp,∃o,h.get? b=some o/\∀v,o.data≠.cell v
 keep:∀i h h',tn i h->(∀b∈fp,∀o,h.get? b=some o->h'.get? b=some o)->tn i h'
 item:∀(X:Cx),X.prog=P->X.w=w->X.K=K->X.calm=true->∀(i:Nat)(aa:Δ)(s:Shared)(σ:St)(H:Hp)(E:Ε),Inv X aa σ H s->(∀b∈fp,Ig X aa H b)->tn i s.heap->J.go i H ->
  wpAny (model P w) X.A (pyNext (.ref it)) (λr s1=>∃u,r=some u /\
   wpAny (model P w) X.A (letOwnedTupleGo tg (.ref it) u) (λ_ s2=>∃x H',Inv X aa σ H' s2/\RelV x u/\J.yld i H x H'/\tn (i+1) s2.heap/\∀b∈fp,H' b=none) E s1) E s
 done:∀(X:Cx),X.prog=P->X.w=w->X.K=K->X.calm=true->∀(i:Nat)(aa:Δ)(s:Shared)(σ:St)(H:Hp)(E:Ε),Inv X aa σ H s->(∀b∈fp,Ig X aa H b)->tn i s.heap->J.stop i H ->
  wpAny (model P w) X.A (pyNext (.ref it)) (λr s1=>r=none/\Inv X aa σ H s1) E s
 self:∀(A:Around)(i:Nat)(s:Shared)(Q:Ε)(E:Ε),tn i s.heap->Q (.ref it) s->wpAny (model P w) A (pyIter (.ref it)) Q E s
abbrev TI:=St->Hp->(It->Hp->Prop)->Prop
def PIE(X:Cx)(aa:Δ)(σ:St)(tg:Expr)(R:It->Hp->Prop)(l6:Value)(s2:Shared):Prop :=
 ∃(it:Addr)(fp:Ψ)(tn:Nat->Heap->Prop)(J:It)(H':Hp),l6=.ref it/\Inv X aa σ H' s2/\Turn X.prog X.w X.K tg J fp it tn/\tn 0 s2.heap/\(∀b∈fp,Ig X aa H' b)/\R J H'
def PI(X:Cx)(tg iter:Expr)(wi:TI):Prop :=
 ∀(aa:Δ)(s:Shared)(σ:St)(H:Hp)(R:It->Hp->Prop),Inv X aa σ H s->wi σ H R ->
  wpAny (model X.prog X.w) X.A (eval iter X.env) (λv s1=>wpAny (model X.prog X.w) X.A (pyIter v) (PIE X aa σ tg R) X.xe s1) X.xe s
def ZJ{it:Addr}{n:String}{vs:xa}(ho:s.heap.get? it=some o)(hc:o.cls=.type n)(hd:o.data=.fields vs)
   (hn : ["enumerate","zip","dict_itemiterator","dict_reverseitemiterator","odict_iterator","itertools.zip_longest","itertools.pairwise"].contains n=false)(hQ:Q () s):wpAny M A (letOwnedTupleGo tg (.ref it) u) Q E s:=by
  unfold letOwnedTupleGo;cases tg<;>first
    |exact ZT hQ
    |(cases u<;>first
        |exact ZT hQ
        | (refine ZU (wpAny_load ho ?_)
           rw[hc,hd];show wpAny M A (if(["enumerate","zip","dict_itemiterator","dict_reverseitemiterator","odict_iterator","itertools.zip_longest","itertools.pairwise"].contains n&&vs[0]?==some (rawInt _))=true then _ else _) Q E s;rw[ZZ (by intro h;rw[hn,Bool.false_and]at h;cases h)];exact ZT hQ))
def Itl(K:Frag)(a:Addr):It :=
 ⟨λi H=>∃xs x,SqL K H a xs/\xs[i]?=some x,λi H x H'=>H'=H/\∀xs,SqL K H a xs->xs[i]?=some x,λi H=>∃xs,SqL K H a xs/\xs.length<=i⟩
def Itr(lo:Int)(n:Nat):It:=⟨λi _=>i<n,λi H x H'=>H'=H/\x=.int (lo+i),λi _=>n<=i⟩
def aa7(a it:Addr):Turn P w K tg (Itl K a) [it] it (λi h=>h.IsListIter it a i) where
 mem:=by simp
 obj:=λi h st b hb=>by
  have e:b=it:=by simpa using hb
  subst e;obtain⟨o,e,c,d⟩:=st;exact⟨o,e,λv z=>by rw[d]at z;cases z⟩
 keep:=λi h h' st k=>st.at λo e=>k it wf o e
 item:=by
  intro X hP hw hK hc i aa s σ H E I hf st hg;subst hP hw hK;obtain⟨xs,x,hq,hx⟩:=hg;obtain⟨its,rv,p,hz⟩:=I.list hq;obtain⟨u,hu,ru⟩:=rv.get hx;obtain⟨f0,f1,f2,f3,f4,f5⟩:=hf it wf;refine wpAny_pyNext_list_item st p.isList (x:=u) (by simpa using hu) λh' eB sb=>?_;have I1:Inv X aa σ H { s with heap:=h' }:=I.turned (t':=s.toks) (λb o hb e=>(sb.2 b hb).trans e) f0 f1 f3 f4 f5;obtain⟨o,e,c,d⟩:=id eB;exact⟨u,rfl,ZJ (s:={ s with heap:=h' }) e c d wx ⟨x,H,I1,ru,⟨rfl,λys hy=>by rwa[I.list_inj hy hq]⟩,eB,λb hb=>(hf b hb).1⟩⟩
 done:=by
  intro X hP hw hK hc i aa s σ H E I hf st hg;subst hP hw hK;obtain⟨xs,hq,hx⟩:=hg;obtain⟨its,rv,p,hz⟩:=I.list hq;obtain⟨f0,f1,f2,f3,f4,f5⟩:=hf it wf;have hl:=rv.length;exact wpAny_pyNext_list_end (I.ok.hd hc) st p.isList (by simp;lia) λh' eb=>⟨rfl,I.turned (t':=s.toks) (λb o hb e=>eb b o hb e) f0 f1 f3 f4 f5⟩
 self:=λ_ _ _ _ _ st h=>wpAny_pyIter_listiter st h
def Wn(it:Addr)(lo:Int)(n:Nat):Turn P w K tg (Itr lo n) [it] it (λi h=>IsRangeIter h it (lo+(i:Nat)*1) ((n:Int)-(i:Nat)) 1) where
 mem:=by simp
 obj:=λi h st b hb=>by
  have e:b=it:=by simpa using hb
  subst e;exact⟨_,st,λv z=>by
   have z':Data.fields _=Data.cell v:=z;cases z'⟩
 keep:=λi h h' st k=>k it wf _ st
 item:=by
  intro X hP hw hK hc i aa s σ H E I hf st hg;subst hP hw hK;obtain⟨f0,f1,f2,f3,f4,f5⟩:=hf it wf;have W:=Walks.range (prog:=X.prog) (w:=X.w) (I.ok.hd hc) it lo 1 n;refine W.item i s _ _ hg st λv h' tk hv eB kk=>?_;obtain⟨t,rfl⟩:=hv;have I1:Inv X aa σ H { s with heap:=h',toks:=tk }:=I.turned (λb o hb e=>kk b o (by simpa using hb) e) f0 f1 f3 f4 f5;refine⟨_,rfl,ZJ (s:={ s with heap:=h',toks:=tk }) (n:="range_iterator") eB rfl rfl wx ⟨.int (lo+i),H,I1,⟨t,?_⟩,⟨rfl,rfl⟩,eB,λb hb=>(hf b hb).1⟩⟩;rw[Int.mul_one]
 done:=by
  intro X hP hw hK hc i aa s σ H E I hf st hg;subst hP hw hK;obtain⟨f0,f1,f2,f3,f4,f5⟩:=hf it wf;exact wpAny_pyNext_range_end (I.ok.hd hc) st (by have:n<=i:=hg;lia) λh' eb=>⟨rfl,I.turned (t':=s.toks) (λb o hb e=>eb b o hb e) f0 f1 f3 f4 f5⟩
 self:=λ_ _ _ _ _ st h=>wpAny_pyIter_rangeiter st h
def akQ(K:Frag)(tl:TE):TI:=λσ H R=>tl σ H λx H1=>∃a,x=.ref a/\(∃xs,SqL K H1 a xs)/\R (Itl K a) H1
def afp{l:Expr}{tl:TE}(hl:PE X l tl):PI X tg l (akQ X.K tl):=by
 intro aa s σ H R I h;refine thn (hl aa s σ H _ I h) λv s1 hP=>?_;obtain⟨x,H1,I1,r1,q1⟩:=hP;obtain⟨a,e,⟨xs,hq⟩,q⟩:=q1;subst e;cases r1;obtain⟨its,rv,p,hz⟩:=I1.list hq;refine wpAny_pyIter_list p.isList ?_;refine⟨s1.heap.objs.size,[s1.heap.objs.size],_,_,H1,rfl,I1.kept (t':=s1.toks) λb o e=>aH _ e,aa7 a _,⟨_,aW _ rfl,rfl,rfl⟩,λb hb=>?_,q⟩;have e:b=s1.heap.objs.size:=by simpa using hb
 subst e;exact I1.fpOk (aG _) (I1.hok.fresh (aG _))
def Wb{R:It->Hp->Prop}{lo hi:Int}{t u v:Tok}{tk:Nat}(I:Inv X aa σ H s)(h1 : -(2^62)<=lo)(h2:lo<2^62)(h3 : -(2^62)<=hi)(h4:hi<2^62)
 (q:R (Itr lo (hi-lo).toNat) H):wpAny (model X.prog X.w) X.A (pyIter (.ref s.heap.objs.size)) (PIE X aa σ tg R) E { s with heap:=s.heap.push { cls:=.type "range",data:=.fields #[.int lo t,.int hi u,.int 1 v] },toks:=tk }:=by
 refine wpAny_pyIter_range (IsRange.new ..) (small_one h1 h2 h3 h4) ?_;have I1:Inv X aa σ H { s with heap:=s.heap.push { cls:=.type "range",data:=.fields #[.int lo t,.int hi u,.int 1 v] },toks:=tk }:=I.kept λb o e=>aH _ e;refine⟨(s.heap.push { cls:=.type "range",data:=.fields #[.int lo t,.int hi u,.int 1 v] }).objs.size,[(s.heap.push { cls:=.type "range",data:=.fields #[.int lo t,.int hi u,.int 1 v] }).objs.size],_,_,H,rfl,
  I1.kept (t':=tk) λb o e=>aH _ e,Wn _ lo (hi-lo).toNat,?_,λb hb=>?_,q⟩
 .have e1:lo+((0:Nat):Int)*1=lo:=by simp
  have e2:(((hi-lo).toNat:Nat):Int)-((0:Nat):Int)=Builtin.Range.rangeSize lo hi 1:=by rw[rangeSize_one];split<;>lia
  show IsRangeIter _ _ (lo+((0:Nat):Int)*1) ((((hi-lo).toNat:Nat):Int)-((0:Nat):Int)) 1;rw[e1,e2];exact aW _ rfl
 .have e:b=(s.heap.push { cls:=.type "range",data:=.fields #[.int lo t,.int hi u,.int 1 v] }).objs.size:=by simpa using hb
  subst e;exact I1.fpOk (aG _) (I1.hok.fresh (aG _))
def akD(ta:TA):TI:=λσ H R=>ta σ H λvs H1=>∃j:Int,vs=[.int j]/\-(2^62)<=j/\j<2^62/\R (Itr 0 j.toNat) H1
def akE(ta:TA):TI:=λσ H R=>ta σ H λvs H1=>∃i j:Int,vs=[.int i,.int j]/\(-(2^62)<=i/\i<2^62/\-(2^62)<=j/\j<2^62)/\R (Itr i (j-i).toNat) H1
def aaP(hg:Gl X "range")(hm:X.mg "range"=none)(ha:PA X [a] ta)(hs:starEach [a] X.env=[(false,eval a X.env)]:=by rfl):PI X tg (.Call (.Name "range" p) [a] [] pos) (akD ta):=by
 intro aa s σ H R I h;refine Call_ (zW I hg hm boot_range (PyProof.Rows.callWith_type1 (thn (ha pos aa s σ H _ I h) λus s1 hP=>?_) hs rfl));obtain⟨vs,H1,I1,r1,q1⟩:=hP;obtain⟨j,e,q1,q2,q⟩:=q1;subst e;cases r1 with
 |cons r rr =>
  cases rr;obtain⟨t,rfl⟩:=r;exact call_range_1 (Wb I1 (XY wx) (JP wx) q1 q2 (by simpa using q))
def aaH{b:Expr}(hg:Gl X "range")(hm:X.mg "range"=none)(ha:PA X [a,b] ta)(hs:starEach [a,b] X.env=[(false,eval a X.env),(false,eval b X.env)]:=by rfl)(dQ:starEach [b] X.env=[(false,eval b X.env)]:=by rfl) :
  PI X tg (.Call (.Name "range" p) [a,b] [] pos) (akE ta):=by
 intro aa s σ H R I h;refine Call_ (zW I hg hm boot_range (PyProof.Rows.callWith_type1 (thn (ha pos aa s σ H _ I h) λus s1 hP=>?_) (by rw[hs,dQ]) (by rw[dQ];rfl)));obtain⟨vs,H1,I1,r1,q1⟩:=hP;obtain⟨i,j,e,⟨q1,q2,q3,q4⟩,q⟩:=q1;subst e;cases r1 with
 |cons r rr =>
  cases rr with
  |cons r' rr =>
   cases rr;obtain⟨t,rfl⟩:=r;obtain⟨t',rfl⟩:=r';exact call_range_2 (Wb I1 q1 q2 q3 q4 q)
def aoU(wi:TI)(g:TG)(tb:TS):TS:=λD σ H=>wi σ H λJ H1=>∃W:Nat->Nat->St->Hp->Prop,(∃m,W 0 m σ H1)/\∀i m σ H,W i m σ H ->
 (J.stop i H/\D.nx σ H)\/(J.go i H/\∃N:St->Hp->Prop,(∀σ' H',N σ' H'->∃m',m'<m/\W (i+1) m' σ' H')/\∀x H',J.yld i H x H'->g x σ H' λσ2 H2=>tb { D with nx:=N,ct:=N,bk:=D.nx } σ2 H2)
def KJ(fp:Ψ)(h:Heap):Δ:=fp.filterMap λb=>(h.get? b).map λo=>(b,o)
def qN(hb:b∈fp)(e:h.get? b=some o):(b,o)∈KJ fp h:=List.mem_filterMap.mpr ⟨b,hb,by rw[e];rfl⟩
def aa2{p:Addr×Obj}(hp:p∈KJ fp h):p.1∈fp/\h.get? p.1=some p.2:=by
 obtain⟨b,hb,e⟩:=List.mem_filterMap.mp hp;cases q:h.get? b with
 |none=>rw[q]at e;cases e
 |some o =>
  rw[q]at e;have e':(b,o)=p:=Option.some.inj e;subst e';exact⟨hb,q⟩
def Inv.pinned(I:Inv X aa σ H s)(hf:∀b∈fp,Ig X aa H b)(ho:∀b∈fp,∃o,s.heap.get? b=some o/\∀v,o.data≠.cell v):Inv X (aa++KJ fp s.heap) σ H s :=
 I.pins_of λp hp=>(Y1.mp hp).elim (λz=>I.pin p (aP _ z)) λz=>by
  obtain⟨hb,e⟩:=aa2 z;obtain⟨f0,f1,f2,_⟩:=hf p.1 hb;obtain⟨o,e',d⟩:=ho p.1 hb;rw[e]at e';cases e';exact⟨e,f0,f1,f2,d⟩
def Inv.unpinned{pl:Δ}(I:Inv X (aa++pl) σ H s):Inv X aa σ H s:=I.pins_of λp hp=>I.pin p (aP _ (UU _ hp))
abbrev qV(X:Cx)(a:Expr):Prop:=∀z,foldedSetIterable a X.env z=pure z
def aiI{iter:Expr}{wi:TI}{g:TG}{tb:TS}(hp:PassesOwn (model X.prog X.w) X.A X.env X.xe)(hc:X.calm=true)(hi:PI X tg iter wi)(hg:PG X tg g)(hb:PSs X b6 tb)
 (hs:qV X iter:=by intro _;rfl):PS X (.For tg iter b6 [] pos) (aoU wi g tb):=by
 intro aa s σ H D I h;refine wpAny_For (thn (hi aa s σ H _ I h) λv s1 h1=>thn h1 λl6 s2 h2=>?_) hs;obtain⟨it,fp,tn,J,H2,e,I2,T,fq,f2,W,⟨m0,w0⟩,turn⟩:=h2;subst e

 have ia:∀{H':Hp},(∀b∈fp,H' b=none)->∀b∈fp,Ig X aa H' b:=λhn b hb=>⟨hn b hb,(f2 b hb).2⟩;refine codeAny_forLoop_any (λn s'=>∃i σ' H',Inv X aa σ' H' s'/\tn i s'.heap/\(∀b∈fp,H' b=none)/\W i n σ' H') ?_ m0 ⟨0,σ,H2,I2,fq,λb hb=>(f2 b hb).1,w0⟩;rintro n s3 ⟨i,σ3,H3,I3,iF,fr3,w3⟩;rcases turn i n σ3 H3 w3 with⟨stop,qn⟩|⟨go,N,hN,step⟩
 .refine wpAny_passesOwn hp (thn (T.done X rfl rfl rfl hc i aa s3 σ3 H3 X.xe I3 (ia fr3) iF stop) λr s4 hP=>?_);obtain⟨hr,I4⟩:=hP;subst hr;exact wpAny_execs_nil ⟨σ3,H3,I4,qn⟩
 .refine wpAny_passesOwn hp (thn (T.item X rfl rfl rfl hc i aa s3 σ3 H3 X.xe I3 (ia fr3) iF go) λr s4 hP=>?_);obtain⟨u,hr,h4⟩:=hP;subst hr;refine wpAny_passesOwn hp (thn h4 λ_ s5 hP=>?_);obtain⟨x,H5,I5,r5,y5,k3,fr5⟩:=hP;have I5':=I5.pinned (ia fr5) (T.obj _ _ k3);refine wpAny_passesOwn hp (thn (hg _ s5 σ3 H5 x u _ I5' r5 (step x H5 y5)) λ_ s6 hP=>?_);obtain⟨σ6,H6,I6,q6⟩:=hP;refine wpAny_passesOwn hp (thn (hb _ s6 σ6 H6 _ I6 q6) λf s7 q7=>?_);have again:∀{σ7:St}{H7:Hp},Inv X (aa++KJ fp s5.heap) σ7 H7 s7->N σ7 H7->∃m,m<n/\∃i σ' H',Inv X aa σ' H' s7/\tn i s7.heap/\(∀b∈fp,H' b=none)/\W i m σ' H':=λ{σ7 H7}I7 n7=>by
   obtain⟨m',hm,w7⟩:=hN σ7 H7 n7;refine⟨m',hm,i+1,σ7,H7,I7.unpinned,T.keep _ _ _ k3 λb hb o e=>(I7.pin (b,o) (aP _ (aP _ (qN hb e)))).1,λb hb=>?_,w7⟩;obtain⟨o,e,d⟩:=T.obj _ _ k3 b hb;exact(I7.pin (b,o) (aP _ (aP _ (qN hb e)))).2.1
  cases f with
  |next=>obtain⟨σ7,H7,I7,n7⟩:=q7;exact again I7 n7
  |cont=>obtain⟨σ7,H7,I7,n7⟩:=q7;exact again I7 n7
  |brk=>obtain⟨σ7,H7,I7,q7⟩:=q7;exact⟨σ7,H7,I7.unpinned,q7⟩
  |ret v=>obtain⟨x7,σ7,H7,I7,r7,q7⟩:=q7;exact⟨x7,σ7,H7,I7.unpinned,r7,q7⟩
abbrev R2:=V->V->Hp->VK->Prop
def OpR(X:Cx)(f:Value->Value->Sem Value)(r:R2):Prop :=
 ∀(aa:Δ)(s:Shared)(σ:St)(H:Hp)(x y:V)(v u:Value)(Q:VK),Inv X aa σ H s->RelV x v->RelV y u->r x y H Q ->
  wpAny (model X.prog X.w) X.A (f v u) (EP X aa σ Q) X.xe s
def UnR(X:Cx)(f:Value->Sem Value)(r:V->Hp->VK->Prop):Prop :=
 ∀(aa:Δ)(s:Shared)(σ:St)(H:Hp)(x:V)(v:Value)(Q:VK),Inv X aa σ H s->RelV x v->r x H Q ->
  wpAny (model X.prog X.w) X.A (f v) (EP X aa σ Q) X.xe s
def jo(X:Cx)(f:Value)(r:Ζ->Hp->VK->Prop):Prop :=
 ∀(aa:Δ)(s:Shared)(σ:St)(H:Hp)(xs:Ζ)(us:Θ)(Q:VK),Inv X aa σ H s->Vals xs us->r xs H Q ->
  wpAny (model X.prog X.w) X.A (call f us) (EP X aa σ Q) X.xe s
def apr(X:Cx)(r:V->Hp->(Bool->Hp->Prop)->Prop):Prop :=
 ∀(aa:Δ)(s:Shared)(σ:St)(H:Hp)(x:V)(v:Value)(Q:Bool->Hp->Prop),Inv X aa σ H s->RelV x v->r x H Q ->
  wpAny (model X.prog X.w) X.A (truthy v) (TP X aa σ Q) X.xe s
def tOp(r:R2)(ta tb:TE):TE:=λσ H Q=>ta σ H λx H1=>tb σ H1 λy H2=>r x y H2 Q
def tUn(r:V->Hp->VK->Prop)(ta:TE):TE:=λσ H Q=>ta σ H λx H1=>r x H1 Q
def rI(C:Int->Int->Prop)(g:Int->Int->V):R2:=λx y H Q=>∃i j,x=.int i/\y=.int j/\C i j/\Q (g i j) H
def rI0(g:Int->Int->V):R2:=λx y H Q=>∃i j,x=.int i/\y=.int j/\Q (g i j) H
def rU(g:Int->V):V->Hp->VK->Prop:=λx H Q=>∃i,x=.int i/\Q (g i) H
variable{b:Expr}{ta tb:TE}{f:Value->Value->Sem Value}{r:R2}{v:Value}{g:Int->Int->Int}
def aht(ha:PE X a ta)(hb:PE X b tb){R:V->V->Hp->Prop}(I:Inv X aa σ H s)
 (h:ta σ H λx H1=>tb σ H1 λy H2=>R x y H2){Q:Ε}
 (hf:∀v u s2 x y H2,Inv X aa σ H2 s2->RelV x v->RelV y u->R x y H2->wpAny (model X.prog X.w) X.A (f v u) Q X.xe s2) :
  wpAny (model X.prog X.w) X.A (eval a X.env) (λv s₁=>wpAny (model X.prog X.w) X.A (eval b X.env) (λu s₂=>wpAny (model X.prog X.w) X.A (f v u) Q X.xe s₂) X.xe s₁) X.xe s:=by
 refine thn (ha aa s σ H _ I h) λv s1 hP=>?_;obtain⟨x,H1,I1,r1,q1⟩:=hP;refine thn (hb aa s1 σ H1 _ I1 q1) λu s2 hP=>?_;obtain⟨y,H2,I2,r2,q2⟩:=hP;exact hf v u s2 x y H2 I2 r1 r2 q2
def anw(ho:OpR X (binaryOp op) r)(ha:PE X a ta)(hb:PE X b tb):PE X (.BinOp a op b pos) (tOp r ta tb):=by
 intro aa s σ H Q I h;exact wpAny_BinOp (aht ha hb I h λv u s2 x y H2 I2 rx ry q=>ho aa s2 σ H2 x y v u Q I2 rx ry q)
def aj0{op:UnaryOp}{r:V->Hp->VK->Prop}(ho:UnR X (unaryOp op) r)(ha:PE X a ta):PE X (.UnaryOp op a pos) (tUn r ta):=by
 intro aa s σ H Q I h;exact UnaryOp_ (thn (ha aa s σ H _ I h) λv s1 hP=>by obtain⟨x,H1,I1,r1,q1⟩:=hP;exact ho aa s1 σ H1 x v Q I1 r1 q1)
def aai(ho:OpR X (inplaceOp op) r){x y:V}{Q:VK}(I:Inv X aa σ H s)
 (rx:RelV x v)(ry:RelV y u)(q:r x y H Q):wpAny (model X.prog X.w) X.A (inplaceOp op v u) (EP X aa σ Q) X.xe s:=ho aa s σ H x y v u Q I rx ry q
def opI{C:Int->Int->Prop}
 (rule:∀(i j:Int)(t u:Tok)(s:Shared)(Q:Ε)(E:Ε),C i j->Q (.int (g i j) s.toks) { s with toks:=s.toks+1 }->wpAny (model X.prog X.w) X.A (f (.int i t) (.int j u)) Q E s) :
  OpR X f (rI C λi j=>.int (g i j)):=by
 intro aa s σ H x y v u Q I rx ry h;obtain⟨i,j,rfl,rfl,hc,q⟩:=h;obtain⟨t,rfl⟩:=rx;obtain⟨t',rfl⟩:=ry;exact rule i j t t' s _ _ hc ⟨.int (g i j),H,I.tok _,⟨_,rfl⟩,q⟩
def an0
 (rule:∀(i j:Int)(t u:Tok)(s:Shared)(Q:Ε)(E:Ε),Q (.int (g i j) s.toks) { s with toks:=s.toks+1 }->wpAny (model X.prog X.w) X.A (f (.int i t) (.int j u)) Q E s) :
  OpR X f (rI0 λi j=>.int (g i j)):=by
 intro aa s σ H x y v u Q I rx ry h;obtain⟨i,j,rfl,rfl,q⟩:=h;obtain⟨t,rfl⟩:=rx;obtain⟨t',rfl⟩:=ry;exact rule i j t t' s _ _ ⟨.int (g i j),H,I.tok _,⟨_,rfl⟩,q⟩
def afK{g:Int->Int->Bool}
 (rule:∀(i j:Int)(t u:Tok)(s:Shared)(Q:Ε)(E:Ε),Q (.bool (g i j)) s->wpAny (model X.prog X.w) X.A (f (.int i t) (.int j u)) Q E s) :
  OpR X f (rI0 λi j=>.bl (g i j)):=by
 intro aa s σ H x y v u Q I rx ry h;obtain⟨i,j,rfl,rfl,q⟩:=h;obtain⟨t,rfl⟩:=rx;obtain⟨t',rfl⟩:=ry;exact rule i j t t' s _ _ ⟨.bl (g i j),H,I,rfl,q⟩
def aol(i j:Int):Prop:=0<=j/\j<=1000000/\i.natAbs<2^64
def aeN(i j:Int):Prop:=(-(2^64)<i/\i<2^64)\/(-(2^64)<j/\j<2^64)
def aeN.ok{i j:Int}(h:aeN i j):IntMulOk i j:=by
 rcases h with⟨h1,h2⟩|⟨h1,h2⟩
 .exact .of_left (intBits_le_64 h1 h2)
 .exact .of_right (intBits_le_64 h1 h2)
def aic:OpR X (binaryOp .Add) (rI0 λi j=>.int (i+j)):=an0 λ_ _ _ _ _ _ _ q=>add_int q
def ajm:OpR X (binaryOp .Sub) (rI0 λi j=>.int (i-j)):=an0 λ_ _ _ _ _ _ _ q=>sub_int q
def aiv:OpR X (binaryOp .Mult) (rI aeN λi j=>.int (i*j)):=opI λ_ _ _ _ _ _ _ hc q=>mul_int q hc.ok
def ai9:OpR X (binaryOp .Mod) (rI (λ_ j=>0<j) λi j=>.int (i%j)):=opI λi j _ _ _ _ _ hc q=>by
 have h1:(0:Int)<j:=hc;exact mod_int' (WS hc) (by rwa[Int.fmod_eq_emod_of_nonneg i (XY hc)])
def ai7:OpR X (binaryOp .Pow) (rI aol λi j=>.int (i^j.toNat)):=opI λ_ _ _ _ _ _ _ hc q=>pow_int_small hc.1 hc.2.1 hc.2.2 q
def unI{f:Value->Sem Value}{g:Int->Int}
 (rule:∀(i:Int)(t:Tok)(s:Shared)(Q:Ε)(E:Ε),Q (.int (g i) s.toks) { s with toks:=s.toks+1 }->wpAny (model X.prog X.w) X.A (f (.int i t)) Q E s) :
  UnR X f (rU λi=>.int (g i)):=by
 intro aa s σ H x v Q I rx h;obtain⟨i,rfl,q⟩:=h;obtain⟨t,rfl⟩:=rx;exact rule i t s _ _ ⟨.int (g i),H,I.tok _,⟨_,rfl⟩,q⟩
def ajh:UnR X (unaryOp .USub) (rU λi=>.int (-i)):=unI λ_ _ _ _ _ q=>neg_int q
def abB:V->V->Bool
 |.non,.non=>true|.non,.int _=>true|.int _,.non=>true|.non,.bl _=>true|.bl _,.non=>true|.non,.str _=>true|.str _,.non=>true
 |.int _,.int _=>true|.bl _,.bl _=>true|.str _,.str _=>true|.byt _,.byt _=>true
 |.int _,.str _=>true|.str _,.int _=>true|.bl _,.str _=>true|.str _,.bl _=>true
 |_,_=>false
def rEq:R2:=λx y H Q=>abB x y=true/\Q (.bl (decide (x=y))) H
def rNe:R2:=λx y H Q=>abB x y=true/\Q (.bl (!decide (x=y))) H
def Zf{i j:Int} : decide (V.int i=V.int j)=(i==j):=by
 rw[Bool.eq_iff_iff];simp
def ad9{i j:Bool} : decide (V.bl i=V.bl j)=(i==j):=by
 rw[Bool.eq_iff_iff];simp
def ZG{i j:Str} : decide (V.str i=V.str j)=(i==j):=by
 rw[Bool.eq_iff_iff];simp
def YD{i j:Array UInt8} : decide (V.byt i=V.byt j)=(i.toList==j.toList):=by
 rw[Bool.eq_iff_iff];cases i;cases j;simp
def dG{Q:VK}{k k':Bool}(I:Inv X aa σ H s)(q:Q (.bl k) H)(e:k=k'):EP X aa σ Q (.bool k') s:=by
 subst e;exact⟨.bl k,H,I,rfl,q⟩
def aod:OpR X (compareOp .Eq) rEq:=by
 intro aa s σ H x y v u Q I rx ry h;obtain⟨hs,q⟩:=h;cases x with
 |non =>
  cases rx;cases y with
  |non=>cases ry;exact PySem.EqNone.eq_none_none (dG I q wf)
  |bl j=>cases ry;exact PySem.EqNone.eq_none_bool (dG I q wf)
  |int j=>obtain⟨t',rfl⟩:=ry;exact PySem.EqNone.eq_none_int (dG I q wf)
  |str j=>obtain⟨t',rfl⟩:=ry;exact PySem.EqNone.eq_none_str (dG I q wf)
  |_=>exact absurd (show false=true from hs) bx
 |bl i =>
  cases rx;cases y with
  |non=>cases ry;exact PySem.EqNone.eq_bool_none (dG I q wf)
  |bl j=>cases ry;exact eq_bool (dG I q ad9)
  |str j=>obtain⟨t',rfl⟩:=ry;exact PySem.EqMixed.eq_bool_str (dG I q wf)
  |_=>exact absurd (show false=true from hs) bx
 |int i =>
  obtain⟨t,rfl⟩:=rx;cases y with
  |non=>cases ry;exact PySem.EqNone.eq_int_none (dG I q wf)
  |int j=>obtain⟨t',rfl⟩:=ry;exact eq_int (dG I q Zf)
  |str j=>obtain⟨t',rfl⟩:=ry;exact PySem.EqMixed.eq_int_str (dG I q wf)
  |_=>exact absurd (show false=true from hs) bx
 |str i =>
  obtain⟨t,rfl⟩:=rx;cases y with
  |non=>cases ry;exact PySem.EqNone.eq_str_none (dG I q wf)
  |bl j=>cases ry;exact PySem.EqMixed.eq_str_bool (dG I q wf)
  |int j=>obtain⟨t',rfl⟩:=ry;exact PySem.EqMixed.eq_str_int (dG I q wf)
  |str j=>obtain⟨t',rfl⟩:=ry;exact eq_str (dG I q ZG)
  |_=>exact absurd (show false=true from hs) bx
 |byt i =>
  obtain⟨t,rfl⟩:=rx;cases y with
  |byt j=>obtain⟨t',rfl⟩:=ry;exact PySem.W.eq_bytes (dG I q YD)
  |_=>exact absurd (show false=true from hs) bx
 |_=>cases y<;>exact absurd (show false=true from hs) bx
def aln:OpR X (compareOp .NotEq) rNe:=by
 intro aa s σ H x y v u Q I rx ry h;obtain⟨hs,q⟩:=h;cases x with
 |non =>
  cases rx;cases y with
  |non=>cases ry;exact PySem.EqNone.ne_none_none (dG I q wf)
  |bl j=>cases ry;exact PySem.EqNone.ne_none_bool (dG I q wf)
  |int j=>obtain⟨t',rfl⟩:=ry;exact PySem.EqNone.ne_none_int (dG I q wf)
  |str j=>obtain⟨t',rfl⟩:=ry;exact PySem.EqNone.ne_none_str (dG I q wf)
  |_=>exact absurd (show false=true from hs) bx
 |bl i =>
  cases rx;cases y with
  |non=>cases ry;exact PySem.EqNone.ne_bool_none (dG I q wf)
  |bl j=>cases ry;exact ne_bool (dG I q (ZH not ad9))
  |str j=>obtain⟨t',rfl⟩:=ry;exact PySem.EqMixed.ne_bool_str (dG I q wf)
  |_=>exact absurd (show false=true from hs) bx
 |int i =>
  obtain⟨t,rfl⟩:=rx;cases y with
  |non=>cases ry;exact PySem.EqNone.ne_int_none (dG I q wf)
  |int j=>obtain⟨t',rfl⟩:=ry;exact ne_int (dG I q (ZH not Zf))
  |str j=>obtain⟨t',rfl⟩:=ry;exact PySem.EqMixed.ne_int_str (dG I q wf)
  |_=>exact absurd (show false=true from hs) bx
 |str i =>
  obtain⟨t,rfl⟩:=rx;cases y with
  |non=>cases ry;exact PySem.EqNone.ne_str_none (dG I q wf)
  |bl j=>cases ry;exact PySem.EqMixed.ne_str_bool (dG I q wf)
  |int j=>obtain⟨t',rfl⟩:=ry;exact PySem.EqMixed.ne_str_int (dG I q wf)
  |str j=>obtain⟨t',rfl⟩:=ry;exact ne_str (dG I q (ZH not ZG))
  |_=>exact absurd (show false=true from hs) bx
 |byt i =>
  obtain⟨t,rfl⟩:=rx;cases y with
  |byt j=>obtain⟨t',rfl⟩:=ry;exact PySem.W.ne_bytes (dG I q (ZH not YD))
  |_=>exact absurd (show false=true from hs) bx
 |_=>cases y<;>exact absurd (show false=true from hs) bx
def amv:OpR X (compareOp .Lt) (rI0 λi j=>.bl (decide (i<j))):=afK λ_ _ _ _ _ _ _ q=>lt_int q
def akX:OpR X (compareOp .LtE) (rI0 λi j=>.bl (decide (i<=j))):=afK λ_ _ _ _ _ _ _ q=>le_int q
def amW:OpR X (compareOp .Gt) (rI0 λi j=>.bl (decide (j<i))):=afK λ_ _ _ _ _ _ _ q=>gt_int q
def ako:OpR X (compareOp .GtE) (rI0 λi j=>.bl (decide (j<=i))):=afK λ_ _ _ _ _ _ _ q=>ge_int q
def aip:OpR X (compareOp .Is) (λx y H Q=>y=.non/\Q (.bl (decide (x=.non))) H):=by
 intro aa s σ H x y v u Q I rx ry h;obtain⟨rfl,q⟩:=h;cases ry;refine is_none_gen (dG I q ?_);cases x<;>first
  |(cases rx;rfl)
  |(obtain⟨t,rfl⟩:=rx;rfl)
def aeI:OpR X (compareOp .IsNot) (λx y H Q=>y=.non/\Q (.bl (!decide (x=.non))) H):=by
 intro aa s σ H x y v u Q I rx ry h;obtain⟨rfl,q⟩:=h;cases ry;refine isnot_none_gen (dG I q ?_);cases x<;>first
  |(cases rx;rfl)
  |(obtain⟨t,rfl⟩:=rx;rfl)
variable{op:CmpOp}{tc:TE}{us:Θ}{dx x C f:Addr}{mA:Str->Ω}{prog:Program}{name:Str}{pl:Sem Bool}{kw:xp}
def adO(b:Expr)(h:op≠.In:=by decide)(h2:op≠.NotIn:=by decide):behindInMarks op b=false:=by
 have e1:(op==CmpOp.In)=false:=by cases op<;>first|rfl|exact absurd rfl h
 have e2:(op==CmpOp.NotIn)=false:=by cases op<;>first|rfl|exact absurd rfl h2
 cases b<;>simp[behindInMarks,e1,e2]
def agi(ho:OpR X (compareOp op) r)(ha:PE X a ta)(hb:PE X b tb)(hm:behindInMarks op b=false):PE X (.Compare a [op] [b] pos) (tOp r ta tb):=by
 intro aa s σ H Q I h;exact wpAny_Compare1 (aht ha hb I h λv u s2 x y H2 I2 rx ry q=>ho aa s2 σ H2 x y v u Q I2 rx ry q) hm
def agX(t:TE):TT:=λσ H Q=>t σ H λx H'=>∃k,x=.bl k/\Q k H'
def afI(ho:OpR X (compareOp op) r)(ha:PE X a ta)(hb:PE X b tb)(hm:behindInMarks op b=false):PT X (.Compare a [op] [b] pos) (agX (tOp r ta tb)):=by
 intro aa s σ H Q I h;refine wpAny_isTrue_Compare1 (thn (ha aa s σ H _ I h) λv s1 ⟨x,H1,I1,r1,q1⟩=>thn (hb aa s1 σ H1 _ I1 q1) λu s2 ⟨y,H2,I2,r2,q2⟩ =>
  thn (ho aa s2 σ H2 x y v u _ I2 r1 r2 q2) λc s3 ⟨z,H3,I3,r3,k,e,q3⟩=>?_) hm
 subst e;cases r3;exact wpAny_truthy_bool ⟨H3,I3,q3⟩
def XC(r r':R2)(ta tb tc:TE):TE:=λσ H Q=>ta σ H λx H1=>tb σ H1 λy H2=>r x y H2 λz H3=>∃k,z=.bl k /\
 (if k=true then tc σ H3 λw' H4=>r' y w' H4 Q else Q (.bl false) H3)
def ad3{dL:CmpOp}{r':R2}(ho:OpR X (compareOp op) r)(dA:OpR X (compareOp dL) r')(ha:PE X a ta)(hb:PE X b tb)(hc:PE X c tc)
 (hm:lastMarks [op,dL] [b,c]=false:=by with_unfolding_all rfl):PE X (.Compare a [op,dL] [b,c] pos) (XC r r' ta tb tc):=by
 intro aa s σ H Q I h;refine Compare_chain (thn (ha aa s σ H _ I h) λv s1 ⟨x,H1,I1,r1,q1⟩=>chain_link (thn (hb aa s1 σ H1 _ I1 q1) λu s2 ⟨y,H2,I2,r2,q2⟩ =>
  thn (ho aa s2 σ H2 x y v u _ I2 r1 r2 q2) λd s3 ⟨z,H3,I3,r3,k,e,q3⟩=>?_)) hm
 subst e;cases r3;refine wpAny_truthy_bool ?_;cases k with
 |false=>exact ite_ff ⟨.bl false,H3,I3,rfl,q3⟩
 |true=>exact ite_tt (chain_last (thn (hc aa s3 σ H3 _ I3 q3) λw' s4 hP=>by obtain⟨z',H4,I4,r4,q4⟩:=hP;exact dA aa s4 σ H4 y z' u w' Q I4 r2 r4 q4))
def acH{dL:CmpOp}{r':R2}(ho:OpR X (compareOp op) r)(dA:OpR X (compareOp dL) r')(ha:PE X a ta)(hb:PE X b tb)(hc:PE X c tc)
 (hm:lastMarks [op,dL] [b,c]=false:=by with_unfolding_all rfl):PT X (.Compare a [op,dL] [b,c] pos) (agX (XC r r' ta tb tc)):=by
 intro aa s σ H Q I h;refine isTrue_chain (thn (ha aa s σ H _ I h) λv s1 ⟨x,H1,I1,r1,q1⟩=>test_link (thn (hb aa s1 σ H1 _ I1 q1) λu s2 ⟨y,H2,I2,r2,q2⟩ =>
  thn (ho aa s2 σ H2 x y v u _ I2 r1 r2 q2) λd s3 ⟨z,H3,I3,r3,k,e,q3⟩=>?_)) hm
 subst e;cases r3;refine wpAny_truthy_bool ?_;cases k with
 |false =>
  obtain⟨k',e',q'⟩:=q3;cases e';exact ite_ff ⟨H3,I3,q'⟩
 |true =>
  refine ite_tt (test_last (thn (hc aa s3 σ H3 _ I3 q3) λw' s4 ⟨z',H4,I4,r4,q4⟩=>thn (dA aa s4 σ H4 y z' u w' _ I4 r2 r4 q4) λd' s5 hP=>?_));obtain⟨z2,H5,I5,r5,k2,e2,q5⟩:=hP;subst e2;cases r5;exact wpAny_truthy_bool ⟨H5,I5,q5⟩
def alZ(K:Frag)(x:V)(H:Hp)(k:Bool):Prop :=
 match x with
 |.non=>k=false
 |.bl b=>k=b
 |.int i=>k=(i != 0)
 |.str y=>y.length<=sizeLine/\k=((y.length:Int) != 0)
 |.byt y=>y.size<=sizeLine/\k=((y.size:Int) != 0)
 |.ref p=>(∃xs,SqL K H p xs/\k = !xs.isEmpty)\/(∃xs,SqT K H p xs/\k = !xs.isEmpty)\/∃kvs,H p=some (.dK kvs)/\k = !kvs.isEmpty
 |_=>False
def W0{κ:Type}{kvs:List (κ×V)}{vs:List (κ×Value)}(r:KV kvs vs):(!vs.isEmpty) = !kvs.isEmpty:=by
 cases r<;>rfl
def Kd{its:Θ}(r:Vals xs its):(!its.toArray.isEmpty) = !xs.isEmpty:=by
 cases r<;>simp
def zZ:(sizeLine:Nat)<2^63:=by rw[sizeLine_eq];decide
def ah2:apr X (λx H Q=>∃k,alZ X.K x H k/\Q k H):=by
 intro aa s σ H x v Q I rx h;obtain⟨k,e,q⟩:=h;have hl:=zZ;have hs:sizeLine=16777216:=sizeLine_eq;cases x with
 |non =>
  cases rx;have e':k=false:=e;subst e';exact truthy_none ⟨H,I,q⟩
 |bl b =>
  cases rx;have e':k=b:=e;subst e';exact wpAny_truthy_bool ⟨H,I,q⟩
 |int i =>
  obtain⟨t,rfl⟩:=rx;have e':k=(i != 0):=e;subst e';exact PySem.P.truthy_int ⟨H,I,q⟩
 |str y =>
  obtain⟨t,rfl⟩:=rx;obtain⟨hy,e'⟩ : y.length<=sizeLine/\k=((y.length:Int) != 0):=e;subst e';exact PySem.P.truthy_str wv ⟨H,I.tok _,q⟩
 |byt y =>
  obtain⟨t,rfl⟩:=rx;obtain⟨hy,e'⟩ : y.size<=sizeLine/\k=((y.size:Int) != 0):=e;subst e';exact PySem.W.truthy_bytes (aL hy wx) ⟨H,I.tok _,q⟩
 |ref p =>
  cases rx;have e':(∃xs,SqL X.K H p xs/\k = !xs.isEmpty)\/(∃xs,SqT X.K H p xs/\k = !xs.isEmpty)\/∃kvs,H p=some (.dK kvs)/\k = !kvs.isEmpty:=e;rcases e' with⟨xs,hx,e'⟩|⟨xs,hx,e'⟩|⟨kvs,hx,e'⟩
  .subst e';obtain⟨its,r,pl,hz⟩:=I.list hx;have be:=r.length;exact wpAny_truthy_list pl.isList (by simp only[aX];lia) ⟨H,I.tok _,by rwa[Kd r]⟩
  .subst e';obtain⟨its,r,pl,hz⟩:=I.tuple hx;have be:=r.length;exact truthy_tuple pl (by simp only[aX];lia) ⟨H,I.tok _,by rwa[Kd r]⟩
  .subst e';obtain⟨hz,hS,vs,r,m⟩ : kvs.length<=sizeLine/\(p==sysModules)=false/\∃vs,KV kvs vs/\s.heap.DictOf (gn X.prog X.w) p vs:=I.hok p _ hx;have be:kvs.length=vs.length:=Paired.length r;exact wpAny_truthy_dict hS m wv ⟨H,I.tok _,by rwa[W0 r]⟩
 |_=>exact(show False from e).elim
def adX(ha:PE X a ta)(he:∀c6,isTrue a X.env c6=(do let v <- c6;standAt a.pos;holding [v] (truthy v))) :
  PT X a (λσ H Q=>ta σ H λx H'=>∃k,alZ X.K x H' k/\Q k H'):=by
 intro aa s σ H Q I h;exact isTrue_plain (thn (ha aa s σ H _ I h) λv s1 hP=>by obtain⟨x,H1,I1,r1,q1⟩:=hP;exact ah2 aa s1 σ H1 x v Q I1 r1 q1) (he _)
def Yl:OpR X (binaryOp .Add) (λx y H Q=>∃i j,x=.str i/\y=.str j/\i.length+j.length<=sizeLine/\Q (.str (i++j)) H):=by
 intro aa s σ H x y v u Q I rx ry h;obtain⟨i,j,rfl,rfl,hz,q⟩:=h;obtain⟨t,rfl⟩:=rx;obtain⟨t',rfl⟩:=ry;exact add_str (λt' tk=>⟨.str (i++j),H,I.tok _,⟨_,rfl⟩,q⟩) hz
def vals1{x:V}(r:Vals [x] us):∃u,us=[u]/\RelV x u:=by
 cases r with
 |cons r1 r2=>cases r2;exact⟨_,rfl,r1⟩
def vals2{x y:V}(r:Vals [x,y] us):∃u w',us=[u,w']/\RelV x u/\RelV y w':=by
 cases r with
 |cons r1 r2 =>
  cases r2 with
  |cons r3 r4=>cases r4;exact⟨_,_,rfl,r1,r3⟩
def adu:jo X (.builtin "abs") (λxs H Q=>∃i,xs=[.int i]/\Q (.int (if i<0 then -i else i)) H):=by
 intro aa s σ H xs us Q I r h;obtain⟨i,rfl,q⟩:=h;obtain⟨u,rfl,t,rfl⟩:=vals1 r;exact call_abs_int λu tk=>⟨.int (if i<0 then -i else i),H,I.tok _,⟨_,rfl⟩,q⟩
def aaX(hc:X.calm=true):jo X (.builtin "min") (λxs H Q=>∃i j,xs=[.int i,.int j]/\Q (.int (if j<i then j else i)) H):=by
 intro aa s σ H xs us Q I r h;obtain⟨i,j,rfl,q⟩:=h;obtain⟨u,w',rfl,⟨t,rfl⟩,⟨t',rfl⟩⟩:=vals2 r;refine min_two_ints (I.ok.hd hc) λh' tk k=>⟨_,H,I.kept k,?_,q⟩;by_cases hj:j<i
 .rw[ZY hj,ZY hj];exact⟨_,rfl⟩
 .rw[ZZ hj,ZZ hj];exact⟨_,rfl⟩
def aah:jo X (.type "int") (λxs H Q=>(∃i,xs=[.int i]/\Q (.int i) H)\/∃k,xs=[.bl k]/\Q (.int (if k then 1 else 0)) H):=by
 intro aa s σ H xs us Q I r h;rcases h with⟨i,rfl,q⟩|⟨k,rfl,q⟩
 .obtain⟨u,rfl,t,rfl⟩:=vals1 r;exact call_int_int ⟨.int i,H,I,⟨_,rfl⟩,q⟩
 .obtain⟨u,rfl,r1⟩:=vals1 r;cases r1;exact call_int_bool ⟨.int (if k then 1 else 0),H,I.tok _,⟨_,rfl⟩,q⟩
structure XM(h:Heap)(x dx C:Addr)(mA:Str->Ω):Prop where
 obj:h.get? x=some (instObj C dx)
 ns:h.Ns1 dx mA
 ne:dx≠x
def aac(n:h.Ns1 dx mA):∃od,h.get? dx=some od/\∀name,lookIn name od=some (mA name):=by
 obtain⟨o,es,ep,ho,hd,hk,_,hm⟩:=n;refine⟨o,ho,λname=>?_⟩;have e:=hm name;unfold nsFind findBy at e;rw[<- Array.find?_toList]at e;unfold lookIn;rw[hd];dsimp only;split
 .rename_i y q
  rw[q]at e;exact ZH some e
 .rename_i q
  rw[q]at e;have a:es.toList.any (·.refKey)=false:=by
   rw[List.any_eq_false];intro y hy;obtain⟨z,t,f6⟩:=hk y (Array.mem_toList_iff.mp hy);simp[DictEntry.refKey,f6]
  have a':¬es.toList.any (·.refKey)=true:=by rw[a];exact bx
  rw[ZZ a'];exact ZH some e
def XM.look(I:XM h x dx C mA):∃od,PySem.W.InstAt h x (instObj C dx) C (some od)/\∀name,lookIn name od=some (mA name) :=
 let⟨od,ho,hl⟩:=aac I.ns
 ⟨od,⟨I.obj,rfl,rfl,ho⟩,hl⟩
def get_map{oj:Bool}{Q:Ε}(X:K.In s.heap)(I:XM s.heap x dx C mA)(hg:plainGet K C name=true)(hh:hasDictIn K C=true)
 (ha:findIn K (.ref C) name=some none)(hv:mA name=some v)(mn:handedIn v=true)(h:Q v { s with toks:=s.toks+1 }) :
  wpAny (model prog w) A (getAttr (.ref x) name oj) Q E s:=by
 obtain⟨od,J,hl⟩:=I.look;exact PySem.W.get_value X J (plainGet_of hg).1 (PySem.W.findObj_own hh ha rfl (by rw[hl,hv])) mn h
def acE{Q:Value×Θ->Shared->Prop}(X:K.In s.heap)(I:XM s.heap x dx C mA)(hg:plainGet K C name=true)
 (hf:findIn K (.ref C) name=some (some (.ref f)))(ht:isFn K (.ref f)=true)(hv:mA name=none)(h:Q (.ref f,[.ref x]) s) :
  wpAny (model prog w) A (getMethod (.ref x) name pl) Q E s:=by
 obtain⟨od,J,hl⟩:=I.look;exact PySem.W.method_fn X J (plainGet_of hg).1 (plainGet_of hg).2 hf (beq_iff_eq.mp ht) (by show(lookIn name od).map (·.isSome)=some false;rw[hl,hv];rfl) h
def af9{ns:Φ}(X:K.In s.heap)(I:XM s.heap x dx C mA)
 (hs:findIn K (.ref C) "__setattr__"=some (some (.builtin "object.__setattr__")))(hp:plainOver K C=true)(ht:takerIn K C name=some none)(hh:hasDictIn K C=true)
 (hw:PySem.Within mA ns)(hsz:ns.length<=sizeLine)
 (h:∀h',XM h' x dx C (λy=>if y=name then some v else mA y)->Heap.SameBut dx s.heap h'->Q () { s with heap:=h',toks:=s.toks+2 }) :
  wpAny (model prog w) A (setAttr (.ref x) name v) Q E s:=by
 obtain⟨od,J,hl⟩:=I.look;refine PySem.W.set_plain X J hs (PySem.W.osa_open (s:={ s with toks:=s.toks+1 }) (r:=none) X J hp ht λb=>?_);obtain⟨cd,hc,bt⟩:=PySem.W.any_some hh;have hx:s.heap.get? x=some ⟨.ref C,some dx,.plain,#[]⟩:=I.obj;refine ZU (ZT (ZU (ZU (wpAny_loadPart hx (ZU (PySem.W.Looks.here (s:={ s with toks:=s.toks+1 }) (PySem.W.looks_clsIn X hc) ?_))))));rw[bt];refine ZT (a:=some dx) (ZU (ZT (ZU ?_)));refine wpAny_nsSet1 (s:={ s with toks:=s.toks+1 }) I.ns λh' iN dQ=>?_;obtain⟨oD,esD,epD,hoD,hdD,hcD⟩:=iN.count (PySem.Within.cons name v hw);refine ZU (wpAny_lookBehind hoD (by rw[hdD];exact pastItsLine_dict (aL hcD (by rw[List.length_cons];exact Nat.succ_le_succ hsz))) ?_);exact ZT (h _ ⟨(dQ.2 _ (Ne.symm I.ne)).trans I.obj,iN,I.ne⟩ dQ)
def ab5{R:Result->Shared->Prop}{vs:Θ}(X:K.In s.heap)(hm:makesIn K C=true)
 (hi:findIn K (.ref C) "__init__"=some (some (.ref f)))(hf:PySem.W.typeIn K (.ref f)=some (.type "function"))
 (h:codeAny (model prog w) (A.under (.builtin "type.__call__" ⟨.ref C::vs,kw⟩)) (.call (.ref f) ⟨.ref (s.heap.objs.size+1)::vs,kw⟩) (PySem.W.InitBack (s.heap.objs.size+1) R)
   { s with heap:=(s.heap.push emptyDict).push (instObj C s.heap.objs.size) }) :
  codeAny (model prog w) A (.call (.ref C) ⟨vs,kw⟩) R s:=by
 obtain⟨hh,g,d,t,os⟩:=s;exact PySem.W.make_core (PySem.W.makes_of X hm) (PySem.W.looks_findIn X hi) (λself=>PySem.W.bind_fn X self hf) (.inl rfl) h
def xP(f:Str)(v:V):xn->xn
 |[]=>[(f,v)]
 |(g,x)::r=>if g=f then(g,v)::r else(g,x)::xP f v r
theorem Hu(f g:Str)(v:V):∀fs:xn,(xP f v fs).lookup g=if g=f then some v else fs.lookup g
 |[]=>by
  show List.lookup g [(f,v)]=_;by_cases h:g=f
  .have hb:(g==f)=true:=beq_iff_eq.mpr h;simp only[List.lookup,hb,ZY h]
  .have hb:(g==f)=false:=beq_eq_false_iff_ne.mpr h;simp only[List.lookup,hb,ZZ h]
 |(k,x)::r=>by
  have ih:=Hu f g v r;rw[show xP f v ((k,x)::r)=(if k=f then(k,v)::r else(k,x)::xP f v r)from rfl];by_cases hk:k=f
  .rw[ZY hk];by_cases h:g=k
   .have hb:(g==k)=true:=beq_iff_eq.mpr h;simp only[List.lookup,hb,ZY (h.trans hk)]
   .have hb:(g==k)=false:=beq_eq_false_iff_ne.mpr h;simp only[List.lookup,hb,ZZ (λe:g=f=>h (e.trans hk.symm))]
  .rw[ZZ hk];by_cases h:g=k
   .have hb:(g==k)=true:=beq_iff_eq.mpr h;simp only[List.lookup,hb,ZZ (λe:g=f=>hk (h.symm.trans e))]
   .have hb:(g==k)=false:=beq_eq_false_iff_ne.mpr h;simp only[List.lookup,hb];exact ih
theorem G5(f:Str)(v:V):∀fs:xn,f∈(xP f v fs).map (·.1)/\∀g,g∈fs.map (·.1)->g∈(xP f v fs).map (·.1)
 |[]=>⟨by simp[xP],λg h=>by simp at h⟩
 |(k,x)::r=>by
  obtain⟨i1,i2⟩:=G5 f v r;rw[show xP f v ((k,x)::r)=(if k=f then(k,v)::r else(k,x)::xP f v r)from rfl];by_cases hk:k=f
  .rw[ZY hk];subst hk;exact⟨by simp,λg h=>by simpa using h⟩
  .rw[ZZ hk];refine⟨?_,λg h=>?_⟩
   .rw[List.map_cons];exact aJ _ i1
   .rw[List.map_cons]at h ⊢;rcases YU.mp h with e|e
    .exact YU.mpr (.inl e)
    .exact aJ _ (i2 g e)
theorem Ht(f:Str)(v:V):∀fs:xn,(xP f v fs).length<=fs.length+1
 |[]=>by simp[xP]
 |(k,x)::r=>by
  have ih:=Ht f v r;rw[show xP f v ((k,x)::r)=(if k=f then(k,v)::r else(k,x)::xP f v r)from rfl];by_cases hk:k=f
  .rw[ZY hk,List.length_cons,List.length_cons];exact Xs _
  .rw[ZZ hk,List.length_cons,List.length_cons];exact Nat.succ_le_succ ih
variable{v:V}{a:Addr}{fs:xn}{f m:Str}{b:Bool}
def Bk.some_of{o:Ω}(r:Bk (some v) o):∃u,o=some u/\RelV v u:=by
 cases o with
 |none=>exact(show False from r).elim
 |some u=>exact⟨u,rfl,r⟩
def Bk.none_of{o:Ω}(r:Bk none o):o=none:=by
 cases o with
 |none=>rfl
 |some u=>exact(show False from r).elim
def abh(r:RelV v u):handedIn u=true:=by
 cases v with
 |non=>cases(show u=Value.none from r);rfl
 |bl b=>cases(show u=Value.bool b from r);rfl
 |int i=>obtain⟨t,e⟩:=(show ∃t,u=Value.int i t from r);cases e;rfl
 |str x=>obtain⟨t,e⟩:=(show ∃t,u=Value.str x t from r);cases e;rfl
 |byt b=>obtain⟨t,e⟩:=(show ∃t,u=Value.bytes b t from r);cases e;rfl
 |flt b=>obtain⟨t,e⟩:=(show ∃t,u=Value.float b t from r);cases e;rfl
 |ref a=>cases(show u=Value.ref a from r);rfl
 |ty n=>cases(show u=Value.type n from r);rfl
def Jf(hok:HOk P w H h)(e:H a=some (.ins C dx fs)):∃mA,XM h a dx C mA/\(∀f,Bk (fs.lookup f) (mA f))/\PySem.Within mA (fs.map (·.1))/\fs.length<=1000/\H dx=some (.own a):=by
 obtain⟨d,z,ne,ob,mA,n,r,q⟩:=(show gq P w H h a (.ins C dx fs)from hok a _ e);exact⟨mA,⟨ob,n,ne⟩,r,q,z,d⟩
structure Cls(K:Frag)(C:Addr):Prop where
 pg:plainGet K C Str.empty=true
 hd:hasDictIn K C=true
 po:plainOver K C=true
 sa:findIn K (.ref C) "__setattr__"=some (some (.builtin "object.__setattr__"))
def Cls.get{K:Frag}{C:Addr}(c:Cls K C)(f:Str):plainGet K C f=true:=c.pg
def cu(K:Frag)(C:Addr)(f:Str):Prop:=findIn K (.ref C) f=some none
def cu.taker(n:cu K C f):takerIn K C f=some none:=by
 unfold takerIn;rw[show findIn K (.ref C) f=some none from n]
 rfl
structure Meth(K:Frag)(C:Addr)(m:Str)(f:Addr):Prop where
 at_:findIn K (.ref C) m=some (some (.ref f))
 fn:isFn K (.ref f)=true
 kp:keepIn K (.ref f)=true
def Xc{Q:Ε}(I:Inv X aa σ H s)(e:H a=some (.ins C dx fs))(c:Cls X.K C)(n:cu X.K C f)(l:fs.lookup f=some v)
 (h:∀u s',Inv X aa σ H s'->RelV v u->Q u s'):wpAny (model X.prog X.w) A (getAttr (.ref a) f b) Q E s:=by
 obtain⟨mA,O,r,_,_,_⟩:=Jf I.hok e;obtain⟨u,hu,ru⟩:=Bk.some_of (v:=v) (o:=mA f) (by rw[<- l];exact r f);exact get_map I.kIn O (c.get f) c.hd n hu (abh ru) (h u _ (I.tok _) ru)
def JW{g:Addr}{Q:Value×Θ->Shared->Prop}(I:Inv X aa σ H s)(e:H a=some (.ins C dx fs))(c:Cls X.K C)(k:Meth X.K C m g)(l:fs.lookup m=none)
 (h:Q (.ref g,[.ref a]) s):wpAny (model X.prog X.w) A (getMethod (.ref a) m pl) Q E s:=by
 obtain⟨mA,O,r,_,_,_⟩:=Jf I.hok e;have hn:mA m=none:=Bk.none_of (by rw[<- l];exact r m);exact acE I.kIn O (c.get m) k.at_ k.fn hn h
def Xn{y:V}(I:Inv X aa σ H s)(e:H a=some (.ins C dx fs))(c:Cls X.K C)(n:cu X.K C f)(hl:fs.length<1000)(ry:RelV y u)
 (h:∀s',Inv X aa σ (upd H a (.ins C dx (xP f y fs))) s'->Q () s'):wpAny (model X.prog X.w) A (setAttr (.ref a) f u) Q E s:=by
 obtain⟨mA,O,r,wi,_,ho⟩:=Jf I.hok e;have hz:(fs.map (·.1)).length<=sizeLine:=by rw[ak,sizeLine_eq];exact aL (Y2 hl) wx
 refine af9 I.kIn O c.sa c.po n.taker c.hd wi hz λh' O' sb=>h _ ?_;have hd:∃o,h'.get? dx=some o:=by obtain⟨o,_,_,e',_⟩:=O'.ns;exact⟨o,e'⟩
 refine I.write (x:=a) (e:=dx) (by rw[e];exact True.intro) (.inr ho) (λb q hb z=>(sb.2 b hb).trans z) hd ?_;refine⟨by rw[cB O.ne];exact ho,?_,O.ne,O'.obj,_,O'.ns,λg=>?_,λg hg=>?_⟩
 .have:=Ht f y fs;lia
 .show Bk ((xP f y fs).lookup g) (if g=f then some u else mA g);rw[Hu];by_cases q:g=f
  .rw[ZY q,ZY q];exact ry
  .rw[ZZ q,ZZ q];exact r g
 .by_cases q:g=f
  .rw[q];exact(G5 f y fs).1
  .refine(G5 f y fs).2 g (wi g λz=>hg ?_);show(if g=f then some u else mA g)=none;rw[ZZ q];exact z
def Inv.made(I:Inv X aa σ H s):Inv X aa σ (upd (upd H s.heap.objs.size (.own (s.heap.objs.size+1))) (s.heap.objs.size+1) (.ins C s.heap.objs.size []))
  { s with heap:=(s.heap.push emptyDict).push (instObj C s.heap.objs.size) }:=by
 have e1:(s.heap.push emptyDict).get? s.heap.objs.size=some emptyDict:=aW s.heap rfl;have e2:((s.heap.push emptyDict).push (instObj C s.heap.objs.size)).get? (s.heap.objs.size+1)=some (instObj C s.heap.objs.size):=by
  have:=aW (s.heap.push emptyDict) (o:=instObj C s.heap.objs.size) rfl;rwa[Heap.size_push]at this
 have e3:(s.heap.push emptyDict).Ns s.heap.objs.size (λ_=>none):=⟨emptyDict,#[],_,e1,rfl,(λe he=>absurd he wf),λ_=>rfl⟩;have I1:=I.laid (a:=s.heap.objs.size) (o:=.own (s.heap.objs.size+1)) (h':=s.heap.push emptyDict) (t':=s.toks) (λb u q=>aH _ q) (aG _) ⟨_,e1⟩;refine I1.laid (a:=s.heap.objs.size+1) (o:=.ins C s.heap.objs.size []) (t':=s.toks) (λb u q=>aH _ q) (WJ (Heap.size_push _ _)) ?_;have ne:s.heap.objs.size≠s.heap.objs.size+1:=aQ (X0 _);refine⟨by rw[cB ne,cM],aZ _,ne,e2,λ_=>none,(Heap.Ns1.of_empty e3).at λo q=>aH _ q,λ_=>True.intro,λy hy=>absurd rfl hy⟩
variable{Q:Ε}{o az:Expr}{tv:TE}{c:Value}{t:TA}
def afX{env:Env}(hb:attributeBase e f env (eval e env)=eval e env)
 (h:wpAny (model prog w) A (eval e env) (λo s₁=>wpAny (model prog w) A (getAttr o f true) Q E s₁) E s):wpAny (model prog w) A (eval (.Attribute e f pos) env) Q E s :=
 Attribute_any_ h (by rw[arm_eval_Attribute,hb])
def aoR(K:Frag)(ta:TE)(f:Str):TE:=λσ H Q=>ta σ H λx H1=>∃a C dx fs v,x=.ref a/\H1 a=some (.ins C dx fs)/\Cls K C/\cu K C f/\fs.lookup f=some v/\Q v H1
def aoV(K:Frag)(ta tv:TE)(f:Str):TS:=λD σ H=>tv σ H λy H1=>ta σ H1 λx H2=>∃a C dx fs,x=.ref a/\H2 a=some (.ins C dx fs)/\Cls K C/\cu K C f/\fs.length<1000 /\
 D.nx σ (upd H2 a (.ins C dx (xP f y fs)))
abbrev qB(X:Cx)(a:Expr)(b:Str):Prop:=attributeBase a b X.env (eval a X.env)=eval a X.env
def ad6(he:PE X e ta)(hb:qB X e f):PE X (.Attribute e f pos) (aoR X.K ta f):=by
 intro aa s σ H Q I h;refine afX hb (thn (he aa s σ H _ I h) λu s1 h=>?_);obtain⟨x,H1,I1,rx,a,C,dx,fs,v,rfl,ea,c,n,l,q⟩:=h;obtain rfl:u=Value.ref a:=rx;exact Xc I1 ea c n l λu' s2 I2 ru=>⟨v,H1,I2,ru,q⟩
def ai4(ha:PE X o ta)(hv:PE X az tv)(hs:swapsWith az (some (.Attribute o f bi)) pos.line X.env=pure false):PS X (.Assign [.Attribute o f bi] az pos) (aoV X.K ta tv f):=by
 intro aa s σ H D I h;refine plainObj_wpAny_Assign_Attribute (thn (hv aa s σ H _ I h) λu s1 ⟨y,H1,I1,ry,q⟩=>thn (ha aa s1 σ H1 _ I1 q) λov s2 h=>?_) hs;obtain⟨x,H2,I2,rx,a,C,dx,fs,rfl,ea,c,n,l,q2⟩:=h;obtain rfl:ov=Value.ref a:=rx;exact Xn I2 ea c n l ry λs3 I3=>⟨σ,_,I3,q2⟩
inductive GD(K:Frag)(H:Hp):V->Value->Prop where
 |non:GD K H .non (.type "NoneType")
 |bl (x:Bool):GD K H (.bl x) (.type "bool")
 |int (i:Int):GD K H (.int i) (.type "int")
 |str (x:Str):GD K H (.str x) (.type "str")
 |flt (x:UInt64):GD K H (.flt x) (.type "float")
 |lst {a:Addr}{xs:Ζ} (e:H a=some (.lst xs)):GD K H (.ref a) (.type "list")
 |frz {a:Addr}{o:Obj}{xs:Ζ} (e:H a=some (.frz o (.lst xs))):GD K H (.ref a) (.type "list")
 |tup {a:Addr}{xs:Ζ} (e:H a=some (.tup xs)):GD K H (.ref a) (.type "tuple")
 |dK {a:Addr}{kvs:xi} (e:H a=some (.dK kvs)):GD K H (.ref a) (.type "dict")
 |ins {a C dx:Addr}{fs:xn} (e:H a=some (.ins C dx fs)) (cl:Cls K C) (ha:findIn K (.ref C) "__class__"=some (some (.builtin "object.__class__")))
   (hn:specialIn K (.builtin "object.__class__") "__get__"=some (some (.builtin "getset_descriptor.__get__"))) (htk:PySem.W.takesIn K (.builtin "object.__class__")=some true)
   (hm:mroIn K C (.type "object")=some true):GD K H (.ref a) (.ref C)
def aaQ{x:V}{t:Value}(I:Inv X aa σ H s)(rx:RelV x u)(ty:GD X.K H x t)(e:kitOne X.K t c=some b)(h:∀tk,Q (.bool b) { s with toks:=tk }) :
  wpAny (model X.prog X.w) A (call (.builtin "isinstance") [u,c]) Q E s:=by
 cases ty with
 |non=>cases(show u=Value.none from rx);exact kia_one PySem.W.kitx_none I.kIn True.intro e (λz=>nomatch z) h
 |bl y=>cases(show u=Value.bool y from rx);exact kia_one PySem.W.kitx_bool I.kIn True.intro e (λz=>nomatch z) h
 |int i=>obtain⟨t,q⟩:=(show ∃t,u=Value.int i t from rx);cases q;exact kia_one PySem.W.kitx_int I.kIn True.intro e (λz=>nomatch z) h
 |str y=>obtain⟨t,q⟩:=(show ∃t,u=Value.str y t from rx);cases q;exact kia_one PySem.W.kitx_str I.kIn True.intro e (λz=>nomatch z) h
 |flt y=>obtain⟨t,q⟩:=(show ∃t,u=Value.float y t from rx);cases q;exact kia_one PySem.W.kitx_float I.kIn True.intro e (λz=>nomatch z) h
 |@lst a xs ea =>
  cases(show u=Value.ref a from rx);obtain⟨_,_,n,_,h1⟩:=(show gq X.prog X.w H s.heap a (.lst xs)from I.hok a _ ea);exact kia_one kitx_list I.kIn ⟨_,h1,rfl⟩ e (λz=>nomatch z) h
 |@frz a ob xs ea =>
  cases(show u=Value.ref a from rx);obtain⟨_,_,_,n,_,h1⟩:=(show gq X.prog X.w H s.heap a (.frz ob (.lst xs))from I.hok a _ ea);exact kia_one kitx_list I.kIn ⟨_,h1,rfl⟩ e (λz=>nomatch z) h
 |@tup a xs ea =>
  cases(show u=Value.ref a from rx);obtain⟨_,_,_,p⟩:=(show gq X.prog X.w H s.heap a (.tup xs)from I.hok a _ ea);obtain⟨o,h1,h2,_⟩:=p;exact kia_one kitx_tuple I.kIn ⟨o,h1,h2⟩ e (λz=>nomatch z) h
 |@dK a kvs ea =>
  cases(show u=Value.ref a from rx);obtain⟨_,_,vs,_,p⟩:=(show gq X.prog X.w H s.heap a (.dK kvs)from I.hok a _ ea);obtain⟨o,es,ep,h1,h2,_⟩:=p;exact kia_one PySem.W.kitx_dict I.kIn ⟨o,h1,h2.1⟩ e (λz=>nomatch z) h
 |@ins a C dx fs ea cl ha hn htk hm =>
  cases(show u=Value.ref a from rx);obtain⟨mA,O,_⟩:=Jf I.hok ea;obtain⟨od,J,_⟩:=O.look;exact kia_one (PySem.W.kitx_own (cl.get _) cl.hd ha hn htk hm) I.kIn J e (λz=>nomatch z) h
structure eY(k:Nat)(A:Around):Prop where
 hd:A.handled=none
 dp:A.depth+3*k+5<recursionLimit
 un:A.units+16*k+200<cLine
def eY.mono{j:Nat}(r:eY k A)(h:j<=k):eY j A:=⟨r.hd,by have:=r.dp;lia,by have:=r.un;lia⟩
def eY.md{n:Nat}(h:eY n A)(e:k<=n:=by decide):eY k A:=h.mono e
def eY.deeper{k:Nat}{A:Around}(r:eY (k+1) A)(env:Env):eY k (A.deeper env) :=
 ⟨r.hd,by have:=r.dp;show A.depth+1+3*k+5<_;lia,by have:=r.un;show A.units+3+16*k+200<_;lia⟩
def Yw : (A.under (.builtin "type.__call__" ⟨.ref C::us,kw⟩)).depth=A.depth+1:=by
 first|rfl|simp[Around.under,Code.weight,Code.isCreation,Code.isGuard,Code.isCaller,Code.frames,Code.isFrame,guardIds]
def Wm : (A.under (.builtin "type.__call__" ⟨.ref C::us,kw⟩)).units=A.units+1:=by
 first|rfl|simp[Around.under,Code.cUnits,Code.frames,Code.isFrame]
def eY.make(r:eY (k+1) A)(C:Addr)(us:Θ)(kw:xp):eY k (A.under (.builtin "type.__call__" ⟨.ref C::us,kw⟩)) :=
 ⟨r.hd,by have:=r.dp;rw[Yw];lia,by have:=r.un;rw[Wm];lia⟩
def eY.depth{k:Nat}{A:Around}(r:eY k A):A.depth<recursionLimit:=by have:=r.dp;lia
def eY.units{k:Nat}{A:Around}(r:eY k A):A.units+64<cLine:=by have:=r.un;lia
def aiE:TA:=λ_ H Q=>Q [] H
def alF(ta:TE)(tr:TA):TA:=λσ H Q=>ta σ H λx H1=>tr σ H1 λxs H2=>Q (x::xs) H2
def QD:PA X [] aiE:=λ_ _ _ _ H Q I h=>Calls.spliced_nil ⟨[],H,I,.nil,h⟩
abbrev qo(X:Cx)(a:Expr)(b:zt):Prop:=starEach (a::b) X.env=(false,eval a X.env)::starEach b X.env
def pL(ha:PE X e te)(hr:PA X es t)(hs:qo X e es:=by rfl):PA X (e::es) (alF te t):=by
 intro pos aa s σ H Q I h;rw[hs];show wpAny _ _ (spliced ((false,eval e X.env)::backTo pos (starEach es X.env))) _ _ s;refine Calls.spliced_cons (thn (ha aa s σ H _ I h) λu s1 hP=>?_);obtain⟨x,H1,I1,r1,q1⟩:=hP;exact thn (hr pos aa s1 σ H1 _ I1 q1) λus s2 hP=>by obtain⟨xs,H2,I2,r2,q2⟩:=hP;exact⟨x::xs,H2,I2,.cons r1 r2,q2⟩
def ap2(t:TA):TE:=λσ H Q=>t σ H λxs H1=>xs.length<=sizeLine/\∀p,H1 p=none->Q (.ref p) (upd H1 p (.tup xs))
def aoW(t:TA):TE:=λσ H Q=>t σ H λxs H1=>xs.length<=sizeLine/\∀p,H1 p=none->Q (.ref p) (upd H1 p (.lst xs))
def aiC{x1}(h:PA X es t):PE X (.Tuple es x1 pos) (ap2 t):=by
 intro aa s σ H Q I hq;refine wpAny_Tuple_spliced (thn (h pos aa s σ H _ I hq) λus s1 ⟨xs,H1,I1,r,z,q⟩=>⟨by rw[<- r.length];exact z,?_⟩);have hf:H1 s1.heap.objs.size=none:=I1.hok.fresh (aG _);refine⟨.ref s1.heap.objs.size,upd H1 s1.heap.objs.size (.tup xs),I1.laid (t':=s1.toks) (λb u e=>aH _ e) (aG _) ?_,rfl,q _ hf⟩;exact⟨z,us,r,⟨_,aW _ rfl,rfl,_,rfl⟩⟩
def ajC(h:PA X es t):PE X (.List es pos) (aoW t):=by
 intro aa s σ H Q I hq;refine wpAny_List_spliced (thn (h pos aa s σ H _ I hq) λus s1 ⟨xs,H1,I1,r,z,q⟩=>⟨by rw[<- r.length];exact z,?_⟩);have hf:H1 s1.heap.objs.size=none:=I1.hok.fresh (aG _);refine⟨.ref s1.heap.objs.size,upd H1 s1.heap.objs.size (.lst xs),I1.laid (t':=s1.toks) (λb u e=>aH _ e) (aG _) ?_,rfl,q _ hf⟩;exact⟨z,us,0,r,aW _ rfl⟩
abbrev Sp:=Ζ->Hp->VK->XK->Prop
abbrev CXT:=xt->Hp->Shared->XK->Value->Shared->Prop
structure Uu(P:Program)(w:World)(K:Frag)(mg:Str->Ω)(base:Heap)(A:Around)(outer:xt)(s:Shared)(H:Hp):Prop where
 frames:A.frames=some outer
 mod:Mod K mg base
 bs:∀b o,base.get? b=some o->s.heap.get? b=some o/\H b=none
 bsz:base.objs.size<=s.heap.objs.size
 funs:s.heap.FunFrames base outer
 frf:∀b∈frs outer,H b=none
 hok:HOk P w H s.heap
 bare:AllBare s.gens
def CE(outer:xt)(P:Program)(w:World)(H:Hp)(s:Shared)(Q:VK)(u:Value)(s':Shared):Prop :=
 ∃v H',s'.os=s.os/\AllBare s'.gens/\Un (frs outer) [] H H' s.heap s'.heap/\HOk P w H' s'.heap/\RelV v u/\Q v H'
def CR(CX:CXT)(outer:xt)(P:Program)(w:World)(H:Hp)(s:Shared)(Q:VK)(E:XK)(r:Result)(s':Shared):Prop :=
 match r with
 |.ok (.ret u)=>CE outer P w H s Q u s'
 |.ok _=>False
 |.error e=>CX outer H s E e s'
structure gY(P:Program)(w:World)(K:Frag)(mg:Str->Ω)(base:Heap)(CX:CXT)(k:Nat)(f:Addr)(fd:FuncData)(ps:Φ)(sp:Sp):Prop where
 len:∀vs H Q E,sp vs H Q E->vs.length=ps.length
 run:∀(A:Around)(outer:xt)(s:Shared)(H:Hp)(args:Args)(us:Θ)(vs:Ζ)(Q:VK)(E:XK),eY k A->Uu P w K mg base A outer s H->BindsTo s fd args (ps.zip us)->Vals vs us->sp vs H Q E ->
  codeAny (model P w) A (.call (.ref f) args) (CR CX outer P w H s Q E) s
variable{f:Addr}{mg:Str->Ω}{base:Heap}{CX:CXT}{fd:FuncData}{ps:Φ}{sp:Sp}{Q:VK}{E:XK}{vs dm:Ζ}{ds:Θ}{x:Str}{ah:Pos}{scope:Scope}
def gY.imp{sp':Sp}(F:gY P w K mg base CX k f fd ps sp)
 (h:∀vs H Q E,sp' vs H Q E->sp vs H Q E):gY P w K mg base CX k f fd ps sp' :=
 ⟨λvs H Q E q=>F.len vs H Q E (h _ _ _ _ q),λA outer s H args us vs Q E hr he hb hv hs=>F.run A outer s H args us vs Q E hr he hb hv (h _ _ _ _ hs)⟩
def Uu.make{outer:xt}(e:Uu P w K mg base A outer s H)(C:Addr)(us:Θ)(kw:xp) :
  Uu P w K mg base (A.under (.builtin "type.__call__" ⟨.ref C::us,kw⟩)) outer s H:=⟨by first|exact e.frames|(simpa[Around.under,Code.envs,Code.isFrame,pushEnvs]using e.frames),e.mod,e.bs,e.bsz,e.funs,e.frf,e.hok,e.bare⟩
def Inv.env0(I:Inv X aa σ H s):Uu X.prog X.w X.K X.mg X.base X.A X.stack s H :=
 ⟨I.ok.frames,I.ok.mod,I.bs,aL I.ok.bsz I.sz,I.stack,I.stkFree,I.hok,I.bare⟩
def Inv.after(I:Inv X aa σ H s)(h:CE X.stack X.prog X.w H s Q u s'):EP X aa σ Q u s':=by
 obtain⟨v,H',os,bare,un,hok,r,q⟩:=h;obtain⟨hh,g,d,t,os'⟩:=s';obtain rfl:os'=s.os:=os;exact⟨v,H',I.call (h':=hh) (g':=g) (d':=d) (t':=t) (ch:=[]) un hok bare (λb z=>absurd z wf),r,q⟩
def aoC(sp:Sp)(dm:Ζ)(E:XK)(t:TA):TE:=λσ H Q=>t σ H λvs H1=>sp (vs++dm) H1 Q E
def agT(C:Addr)(m:Str)(sp:Sp)(dm:Ζ)(E:XK)(ta:TE)(t:TA):TE:=λσ H Q=>ta σ H λx H1=>∃a dx fs,x=.ref a/\H1 a=some (.ins C dx fs)/\fs.lookup m=none /\
 t σ H1 λvs H2=>sp (x::(vs++dm)) H2 Q E
def akT(C:Addr)(sp:Sp)(dm:Ζ)(E:XK)(t:TA):TE:=λσ H Q=>t σ H λvs H1=>∀x dx,H1 x=none->H1 dx=none->dx≠x ->
 sp (.ref x::(vs++dm)) (upd (upd H1 dx (.own x)) x (.ins C dx [])) (λv H2=>v=.non/\Q (.ref x) H2) E
def Binds(K:Frag)(fd:FuncData)(ps:Φ)(ds:Θ):Prop :=
 ∀(s:Shared)(us:Θ),K.In s.heap->(us++ds).length=ps.length->BindsTo s fd ⟨us,[]⟩ (ps.zip (us++ds))
def Binds.all(h:∀us:Θ,us.length=ps.length->bindArgs fd ⟨us,[]⟩=pure (ps.zip us)):Binds K fd ps []:=λs us _ hl=>by
 rw[List.append_nil]at hl ⊢;exact .of_eq (h us hl)
def Passes(CX:CXT)(X:Cx)(E:XK):Prop:=∀(aa:Δ)(σ:St)(H:Hp)(s:Shared)(e:Value)(s':Shared),Inv X aa σ H s->CX X.stack H s E e s'->X.xe e s'
def J7(F:gY X.prog X.w X.K X.mg X.base CX k f fd ps sp)(hr:eY k X.A)(hb:Binds X.K fd ps ds)(hd:Vals dm ds)(hx:Passes CX X E)
 (I:Inv X aa σ H s)(r:Vals vs us)(h:sp (vs++dm) H Q E):wpAny (model X.prog X.w) X.A (call (.ref f) us) (EP X aa σ Q) X.xe s:=by
 have r2:Vals (vs++dm) (us++ds):=r.append hd;have hl:(us++ds).length=ps.length:=by rw[<- r2.length];exact F.len _ _ _ _ h
 refine wpAny_call (codeAny_mono (F.run X.A X.stack s H ⟨us,[]⟩ (us++ds) (vs++dm) Q E hr I.env0 (hb s us I.kIn hl) r2 h) λr s' hq=>?_);cases r with
 |error e=>exact hx aa σ H s e s' I hq
 |ok fl =>
  cases fl with
  |ret u=>exact I.after hq
  |next=>exact False.elim hq
  |brk=>exact False.elim hq
  |cont=>exact False.elim hq
abbrev qh(X:Cx)(a:Pos)(b:zt):Prop:=(backTo a (starEach b X.env)).any (·.1)=false
def agg(F:gY X.prog X.w X.K X.mg X.base CX k f fd ps sp)(hr:eY k X.A)(hg:Gl X x)(hm:X.mg x=some (.ref f))(hk:keepIn X.K (.ref f)=true)(hb:Binds X.K fd ps ds)(hd:Vals dm ds)(hx:Passes CX X E)
 (ha:PA X (e::es) t)(cf:qk x:=by decide)(he:qo X e es:=by rfl)(br:qh X pos es:=by rfl) :
  PE X (.Call (.Name x p) (e::es) [] pos) (aoC sp dm E t):=by
 intro aa s σ H Q I h;refine wpAny_Call_Name_kw (Jm I hg hm ?_ cf);refine callWith_K (h₀:=X.base) I.ok.mod.kin hk (thn (ha pos aa s σ H _ I h) λus s1 ⟨vs,H1,I1,r,q⟩=>⟨I1.kIn,?_⟩) he br;exact J7 F hr hb hd hx I1 r q
def afi(he:PE X o ta)(c:Cls X.K C)(hm:Meth X.K C m f)(F:gY X.prog X.w X.K X.mg X.base CX k f fd ps sp)(hr:eY k X.A)(hb:Binds X.K fd ps ds)(hd:Vals dm ds)(hx:Passes CX X E)(ha:PA X (e::es) t)
 (b8:qo X e es:=by rfl)(br:qh X pos es:=by rfl)
 (ht:eval (.Call (.Attribute o m ah) (e::es) [] pos) X.env=(do
   let ov <- eval o X.env
   standAt ah.atName
   let(f,first) <- holding [ov] (getMethod ov m pl)
   callWith pos f first (backTo pos (starEach (e::es) X.env)) (backToKw pos (keywordEach [] X.env))):=by rfl) :
  PE X (.Call (.Attribute o m ah) (e::es) [] pos) (agT C m sp dm E ta t):=by
 intro aa s σ H Q I h;refine methodCall_KW (pl:=pl) (thn (he aa s σ H _ I h) λu s1 hP=>?_) ht;obtain⟨x,H1,I1,rx,a,dx,fs,ex,ea,l,q⟩:=hP;subst ex;obtain rfl:u=Value.ref a:=rx;refine JW I1 ea c hm l ?_;refine callWith_K (first:=[.ref a]) (h₀:=X.base) I.ok.mod.kin hm.kp (thn (ha pos aa s1 σ H1 _ I1 q) λus s2 ⟨vs,H2,I2,r,q2⟩=>⟨I2.kIn,?_⟩) b8 br;exact J7 (us:=.ref a::us) (vs:=.ref a::vs) F hr hb hd hx I2 (.cons rfl r) q2
def abq(he:PE X o ta)(c:Cls X.K C)(hm:Meth X.K C m f)(F:gY X.prog X.w X.K X.mg X.base CX k f fd ps sp)(hr:eY k X.A)(hb:Binds X.K fd ps ds)(hd:Vals dm ds)(hx:Passes CX X E)
 (ht:eval (.Call (.Attribute o m ah) [] [] pos) X.env=(do
   let ov <- eval o X.env
   standAt ah.atName
   let(f,first) <- holding [ov] (getMethod ov m pl)
   callWith pos f first (backTo pos (starEach [] X.env)) (backToKw pos (keywordEach [] X.env))):=by rfl) :
  PE X (.Call (.Attribute o m ah) [] [] pos) (agT C m sp dm E ta aiE):=by
 intro aa s σ H Q I h;refine methodCall_KW (pl:=pl) (thn (he aa s σ H _ I h) λu s1 hP=>?_) ht;obtain⟨x,H1,I1,rx,a,dx,fs,ex,ea,l,q⟩:=hP;subst ex;obtain rfl:u=Value.ref a:=rx;refine JW I1 ea c hm l ?_;exact PySem.W.callWith_K0 (first:=[.ref a]) I1.kIn hm.kp (J7 (us:=[.ref a]) (vs:=[.ref a]) F hr hb hd hx I1 (.cons rfl .nil) q)
structure Mk(K:Frag)(C f:Addr):Prop where
 makes:makesIn K C=true
 init:findIn K (.ref C) "__init__"=some (some (.ref f))
 fn:isFn K (.ref f)=true
 kp:keepIn K (.ref C)=true
def abt(M:Mk X.K C f)(F:gY X.prog X.w X.K X.mg X.base CX k f fd ps sp)(hr:eY (k+1) X.A)(hb:Binds X.K fd ps ds)(hd:Vals dm ds)
 (hx:Passes CX X E)(I:Inv X aa σ H s)(r:Vals vs us)
 (h:∀x dx,H x=none->H dx=none->dx≠x->sp (.ref x::(vs++dm)) (upd (upd H dx (.own x)) x (.ins C dx [])) (λv H2=>v=.non/\Q (.ref x) H2) E) :
  wpAny (model X.prog X.w) X.A (call (.ref C) us) (EP X aa σ Q) X.xe s:=by
 have hq:=h (s.heap.objs.size+1) s.heap.objs.size (I.hok.fresh (Xs _)) (I.hok.fresh (aG _)) (aQ (X0 _));have I2:=Inv.made (C:=C) I;have r2:Vals (V.ref (s.heap.objs.size+1)::(vs++dm)) (Value.ref (s.heap.objs.size+1)::(us++ds)):=.cons rfl (r.append hd);have hl:(Value.ref (s.heap.objs.size+1)::us++ds).length=ps.length:=by
  have e:=r2.length;rw[F.len _ _ _ _ hq]at e;exact e.symm
 refine wpAny_call (ab5 (f:=f) I.kIn M.makes M.init (beq_iff_eq.mp M.fn) (codeAny_mono (F.run _ X.stack _ _ ⟨Value.ref (s.heap.objs.size+1)::us,[]⟩ (Value.ref (s.heap.objs.size+1)::(us++ds)) _ _ E (hr.make C us [])
  (I2.env0.make C us []) (hb _ (Value.ref (s.heap.objs.size+1)::us) I2.kIn hl) r2 hq) λr s' eJ=>?_))
 cases r with
 |error e=>exact hx aa σ _ _ e s' I2 eJ
 |ok fl =>
  cases fl with
  |ret u =>
   obtain⟨v,H',I3,rv,ev,q3⟩:=I2.after eJ;subst ev;exact⟨rv,⟨V.ref (s.heap.objs.size+1),H',I3,rfl,q3⟩⟩
  |next=>exact False.elim eJ
  |brk=>exact False.elim eJ
  |cont=>exact False.elim eJ
def aeB(M:Mk X.K C f)(F:gY X.prog X.w X.K X.mg X.base CX k f fd ps sp)(hr:eY (k+1) X.A)(hg:Gl X x)(hm:X.mg x=some (.ref C))(hb:Binds X.K fd ps ds)(hd:Vals dm ds)(hx:Passes CX X E)
 (ha:PA X (e::es) t)(cf:qk x:=by decide)(he:qo X e es:=by rfl)(br:qh X pos es:=by rfl) :
  PE X (.Call (.Name x p) (e::es) [] pos) (akT C sp dm E t):=by
 intro aa s σ H Q I h;refine wpAny_Call_Name_kw (Jm I hg hm ?_ cf);refine callWith_K (h₀:=X.base) I.ok.mod.kin M.kp (thn (ha pos aa s σ H _ I h) λus s1 ⟨vs,H1,I1,r,q⟩=>⟨I1.kIn,?_⟩) he br;exact abt M F hr hb hd hx I1 r q
structure bL(N P:Φ)(sc:Scope):Prop where
 kind:sc.kind=.function
 co:sc.isCoroutine=false
 gen:sc.isGenerator=false
 nd:N.Nodup
 pre:N.take P.length=P
 par:∀x∈P,sc.names.lookup x=some .local\/sc.names.lookup x=some .cell
 nofree:∀y∈sc.names,y.2≠.free
theorem Ob{kindOf:Str->Option NameKind}{x:Str} : ∀{binds:xp}{m:Str->Ω},(∀v,(x,v)∉binds)->bindL kindOf binds m x=m x
 |[],_,_=>rfl
 |(n,v)::r,m,h=>by
  unfold bindL;rw[Ob λw hw=>h w (aJ _ hw)];split
  .have:x≠n:=by rintro rfl;exact h v aO
   simp[this]
  .rfl
theorem O8{kindOf:Str->Option NameKind}{x:Str} : ∀{binds:xp}{m:Str->Ω},(∀v,(x,v)∉binds)->bindC kindOf binds m x=m x
 |[],_,_=>rfl
 |(n,v)::r,m,h=>by
  unfold bindC;rw[O8 λw hw=>h w (aJ _ hw)];split
  .rfl
  .have:x≠n:=by rintro rfl;exact h v aO
   simp[this]
theorem OJ{kindOf:Str->Option NameKind}{x:Str}{v:Value} : ∀{P:Φ}{vs:Θ}{i:Nat}{m:Str->Ω},P.Nodup->P[i]?=some x->vs[i]?=some v->kindOf x=some .local ->
  bindL kindOf (P.zip vs) m x=some v
 |[],_,_,_,_,h,_,_=>by simp at h
 |_::_,[],_,_,_,_,h,_=>by simp at h
 |p::P,w::vs,0,m,nd,h1,h2,hk=>by
  simp at h1 h2;subst h1;subst h2;show bindL kindOf ((p,w)::P.zip vs) m p=_;unfold bindL;rw[Ob λv hv=>(List.nodup_cons.mp nd).1 (UV hv).1,ZY hk];simp
 |p::P,w::vs,i+1,m,nd,h1,h2,hk=>by
  show bindL kindOf ((p,w)::P.zip vs) m x=_;unfold bindL;exact OJ (i:=i) (List.nodup_cons.mp nd).2 (by simpa using h1) (by simpa using h2) hk
theorem Oh{kindOf:Str->Option NameKind}{x:Str}{v:Value} : ∀{P:Φ}{vs:Θ}{i:Nat}{m:Str->Ω},P.Nodup->P[i]?=some x->vs[i]?=some v->kindOf x≠some .local ->
  bindC kindOf (P.zip vs) m x=some v
 |[],_,_,_,_,h,_,_=>by simp at h
 |_::_,[],_,_,_,_,h,_=>by simp at h
 |p::P,w::vs,0,m,nd,h1,h2,hk=>by
  simp at h1 h2;subst h1;subst h2;show bindC kindOf ((p,w)::P.zip vs) m p=_;unfold bindC;rw[O8 λv hv=>(List.nodup_cons.mp nd).1 (UV hv).1,ZZ hk];simp
 |p::P,w::vs,i+1,m,nd,h1,h2,hk=>by
  show bindC kindOf ((p,w)::P.zip vs) m x=_;unfold bindC;exact Oh (i:=i) (List.nodup_cons.mp nd).2 (by simpa using h1) (by simpa using h2) hk
def start(N:Φ)(vs:Ζ):St:=vs.map some++List.replicate (N.length-vs.length) none
def Qn(CX:CXT)(P:Program)(w:World)(K:Frag)(mg:Str->Ω)(base:Heap)(N:Φ)(am:Str)(scope:Scope)(f:Addr)(cd:Value)(A:Around)(outer:xt)(s:Shared)(H:Hp)(E:XK):Cx where
 prog:=P
 w:=w
 K:=K
 mg:=mg
 base:=base
 A:=A.deeper (envOfC am scope s.heap.objs.size f cd)
 N:=N
 s₀:=s
 H₀:=H
 env:=envOfC am scope s.heap.objs.size f cd
 outer:=outer
 stack:=envOfC am scope s.heap.objs.size f cd::outer
 ex:=[]
 calm:=true
 fn:=λ_=>true
 pn:=[]
 xe:=λe s'=>wpAny (model P w) (A.deeper (envOfC am scope s.heap.objs.size f cd)) (leaving (envOfC am scope s.heap.objs.size f cd) e) (λ_ k7=>CX outer H s E e k7) (λe' k7=>CX outer H s E e' k7) s'
def Uw{sc:Scope}{n:Nat}(h:sc.names.lookup x=some .cell):∃c,(cellsFrom n sc.names []).lookup x=some c:=by
 have q:=PySem.W.cellsFrom_some sc.names n [] (.inl h);exact Option.isSome_iff_exists.mp q
def aae{N:Φ}{am:Str}{cd:Value}{outer:xt}{s1:Shared}
 (S:bL N ps scope)(hd:A.handled=none)(e0:Uu P w K mg base A outer s H)(hl:vs.length=ps.length)(r:Vals vs us)
 (x:InCallC s s.heap.objs.size (bindL (envOfC am scope s.heap.objs.size f cd).kindOf (ps.zip us) λ_=>none) (cellsFrom (s.heap.objs.size+1) scope.names []) (bindC (envOfC am scope s.heap.objs.size f cd).kindOf (ps.zip us) λ_=>none) s1) :
  Inv (Qn CX P w K mg base N am scope f cd A outer s H E) [] (start N vs) H s1:=by
 have br:ps.length<=N.length:=by have:=ZH List.length S.pre;rw[aY]at this;lia
 obtain⟨h1,tk,rfl,hk⟩:=x.done;have jv:∀b:Addr,b∉(Qn CX P w K mg base N am scope f cd A outer s H E).ex:=λb z=>absurd (show b∈([] : Ψ)from z) wf;refine⟨⟨e0.mod,S.kind,rfl,rfl,aG _,λy z c h1 h2=>?_,λy hy=>?_,λy c _ h=>?_,λ_=>hd,Around.frames_deeper e0.frames,.inr ⟨rfl,rfl⟩,λb z=>absurd z (jv b),e0.bs,e0.bsz,λb _ _=>jv b,λb z=>absurd z (jv b),e0.funs,e0.frf⟩,
  rfl,e0.bare,Un.kept hk,⟨_,x.toInCall.ns,λi y v h1 h2 h3=>?_⟩,λy c h=>⟨_,x.cell y c h⟩,e0.hok.fresh (aG _),λy c h=>?_,λp hp=>absurd (show p∈([] : Δ)from hp) wf,e0.hok.kept hk,?_⟩
 .exact name_of_addr x.apart (PySem.mem_of_lookup h1) (PySem.mem_of_lookup h2)
 .have hy:scope.names.lookup y=some .cell\/scope.names.lookup y=some .free:=hy;rcases hy with hy|hy
  .exact Uw hy
  .exact absurd rfl (S.nofree _ (PySem.mem_of_lookup hy))
 .exact Y2 (x.above y c (PySem.mem_of_lookup h))
 .have hi:i<vs.length:=by
   unfold start at h2;by_cases hi:i<vs.length
   .exact hi
   .rw[aD (by simpa using hi)]at h2;rw[XG]at h2;split at h2<;>cases h2
  have ha:vs[i]?=some v:=by
   unfold start at h2;rw[aF (by simpa using hi),aq]at h2;cases e:vs[i]? with
   |none=>rw[e]at h2;cases h2
   |some a=>rw[e]at h2;cases h2;rfl
  obtain⟨u,hu,rv⟩:=r.get ha;have hp:ps[i]?=some y:=by
   rwa[<- S.pre,List.getElem?_take_of_lt (aR hi (WJ hl))]
  have ndP:ps.Nodup:=by rw[<- S.pre];exact S.nd.sublist (List.take_sublist _ _)
  refine⟨u,rv,?_⟩;rcases S.par y (aC hp)with k|k
  .exact .inl ⟨k,OJ ndP hp hu k⟩
  .obtain⟨c,e⟩:=Uw (n:=s.heap.objs.size+1) k;refine .inr ⟨.inl k,c,e,?_⟩;have q:=x.cell y c e;rw[Oh ndP hp hu (by show scope.names.lookup y≠_;rw[k];decide)]at q;exact q
 .exact e0.hok.fresh (Y2 (x.above y c (PySem.mem_of_lookup h)))
 .unfold start;show _=N.length;rw[aA,ak,aN];lia
def anB{am:Str}{fN:Arguments}{dV kV bz pm ag ct oc:Value}{an od:Ξ}
 {eP:Array (Ω)}{N:Φ}(lk:K.lookup f=some ⟨oc,od,.func (PySem.W.fnOf name am fN b6 scope dV kV bz pm an ag ct),eP⟩)(a9:codeIn K ag am=true)(S:bL N ps scope)
 (len:∀vs H Q E,sp vs H Q E->vs.length=ps.length)
 (ci:∀(A:Around)(outer:xt)(s:Shared)(H:Hp)(vs:Ζ)(Q:VK)(E:XK),eY k (A.deeper (envOfC am scope s.heap.objs.size f ag))->sp vs H Q E ->
   ∃t,PSs (Qn CX P w K mg base N am scope f ag A outer s H E) b6 t/\t { nx:=λ_ H'=>Q .non H',rt:=Q } (start N vs) H) :
  gY P w K mg base CX (k+1) f (PySem.W.fnOf name am fN b6 scope dV kV bz pm an ag ct) ps sp:=by
 refine⟨len,λA outer s H args us vs Q E hr e0 hb r hE=>?_⟩;have hl:=len _ _ _ _ hE;have KX:K.In s.heap:=e0.mod.kin.keeps λb o e=>(e0.bs b o e).1;have lim:s.heap.NoLimit:=e0.mod.nolimit.keeps λb o e=>(e0.bs b o e).1;have cK:∀y∈ps.zip us,scope.names.lookup y.1=some .local\/(scope.names.lookup y.1=some .cell/\((cellsFrom (s.heap.objs.size+1) scope.names []).lookup y.1).isSome=true):=λ⟨n,v⟩ hy=>by
  rcases S.par n (UV hy).1 with q|q
  .exact .inl q
  .exact .inr ⟨q,PySem.W.cellsFrom_some _ _ _ (.inl q)⟩
 refine codeAny_call_function hr.depth (KX _ _ lk) rfl S.co S.gen rfl (PySem.W.codeRec_of KX a9) (hb _ _ _ _ ?_);refine wpAny_newFunctionEnv_cells S.kind cK λenv he s1 x=>?_;subst he;refine⟨lim.keeps x.toInCall.keep,codeAny_func ?_⟩;obtain⟨t,ht,hq⟩:=ci A outer s H vs Q E (hr.deeper _) hE;have I:Inv (Qn CX P w K mg base N am scope f ag A outer s H E) [] (start N vs) H s1:=aae S hr.hd e0 hl r x;refine wpAny_mono (ht [] s1 (start N vs) H _ I hq) (λfl s' hs=>?_) λe s' hs=>hs;have fin:∀{σ':St}{H':Hp}{v:V}{u:Value},Inv (Qn CX P w K mg base N am scope f ag A outer s H E) [] σ' H' s'->RelV v u->Q v H'->CE outer P w H s Q u s' :=
  λ{σ' H' v u}J rv q=>⟨v,H',J.os,J.bare,J.base,J.hok,rv,q⟩
 cases fl with
 |ret u =>
  obtain⟨v,σ',H',J,rv,q⟩:=hs;exact fin J rv q
 |next =>
  obtain⟨σ',H',J,q⟩:=hs;exact fin (v:=V.non) (u:=Value.none) J rfl q
 |brk =>
  obtain⟨_,_,_,q⟩:=hs;exact False.elim q
 |cont =>
  obtain⟨_,_,_,q⟩:=hs;exact False.elim q
section
variable{X:Cx}{x:Str}{p pos:Pos}{e:Expr}{es:zt}{t:TA}{id T:String}{r:Ζ->Hp->VK->Prop}
def tCB(r:Ζ->Hp->VK->Prop)(t:TA):TE:=λσ H Q=>t σ H λvs H1=>r vs H1 Q
def Vj(hc:jo X (.builtin id) r)(hg:Gl X x)(hm:X.mg x=none)(hv:bootBuiltins x=some (.builtin id))(ha:PA X (e::es) t)(hn:x≠"__name__":=by decide)(cf:qk x:=by decide)
 (he:qo X e es:=by rfl)(br:qh X pos es:=by rfl):PE X (.Call (.Name x p) (e::es) [] pos) (tCB r t):=by
 intro aa s σ H Q I h;refine wpAny_Call_Name_kw (zW I hg hm hv ?_ hn cf);exact PyProof.Rows.callWith_builtin1 (thn (ha pos aa s σ H _ I h) λus s1 hP=>by obtain⟨vs,H1,I1,r1,q1⟩:=hP;exact hc aa s1 σ H1 vs us Q I1 r1 q1) he br
def aa5(hc:jo X (.type T) r)(hg:Gl X x)(hm:X.mg x=none)(hv:bootBuiltins x=some (.type T))(ha:PA X (e::es) t)(hn:x≠"__name__":=by decide)(cf:qk x:=by decide)
 (he:qo X e es:=by rfl)(br:qh X pos es:=by rfl):PE X (.Call (.Name x p) (e::es) [] pos) (tCB r t):=by
 intro aa s σ H Q I h;refine wpAny_Call_Name_kw (zW I hg hm hv ?_ hn cf);exact PyProof.Rows.callWith_type1 (thn (ha pos aa s σ H _ I h) λus s1 hP=>by obtain⟨vs,H1,I1,r1,q1⟩:=hP;exact hc aa s1 σ H1 vs us Q I1 r1 q1) he br
end
end L2
namespace HT
open PySem PyProof.Rows
def sIx(n d:Nat):zI->Nat
 |none=>d
 |some v=>if v<0 then(v+(n:Int)).toNat else min v.toNat n
def Dv(n d k:Nat):sIx n d (some (k:Int))=min k n:=by
 show(if(k:Int)<0 then((k:Int)+(n:Int)).toNat else min (k:Int).toNat n)=min k n;rw[ZZ (Int.not_lt_of_ge (X9 _)),Int.toNat_natCast]
def aie(n d:Nat)(hd:d<=n)(o:zI):sIx n d o<=n:=by
 cases o with
 |none=>exact hd
 |some v =>
  show(if v<0 then(v+(n:Int)).toNat else min v.toNat n)<=n;by_cases hv:v<0
  .rw[ZY hv];lia
  .rw[ZZ hv];exact Nat.min_le_right _ _
end HT
namespace L2
open PySem PySem.Spec PyProof.Rows
abbrev TO:=St->Hp->(zI->Hp->Prop)->Prop
def PO(X:Cx)(e:Option Expr)(t:TO):Prop :=
 ∀(aa:Δ)(s:Shared)(σ:St)(H:Hp)(Q:zI->Hp->Prop),Inv X aa σ H s->t σ H Q ->
  wpAny (model X.prog X.w) X.A (evalPart e X.env) (λu s'=>∃o H',Inv X aa σ H' s'/\IsPart u o/\Q o H') X.xe s
def aeX:TO:=λ_ H Q=>Q none H
def aj3(t:TE):TO:=λσ H Q=>t σ H λx H1=>∃i,x=.int i/\Q (some i) H1
def intsAre_of{ns:xz} : ∀{us:Θ},Vals (ns.map V.int) us->IntsAre us ns:=by
 induction ns with
 |nil=>intro us r;rw[List.map_nil]at r;cases r;exact .nil
 |cons n ns ih =>
  intro us r;rw[List.map_cons]at r;cases r with
  |cons r1 r2 =>
   obtain⟨t,e⟩:=r1;subst e;exact .cons n t (ih r2)
variable{X:Cx}{e:Expr}{te:TE}{lo hi:Option Expr}{tl th:TO}{pos p2:Pos}{α:Type}{n:Nat}{aa:Δ}{σ:St}{H:Hp}{s:Shared}{xs ys:Ζ}{l:Addr}
def afY:PO X none aeX:=by
 intro aa s σ H Q I h;rw[evalPart_none];exact ZT ⟨none,H,I,.none,h⟩
def afr(h:PE X e te):PO X (some e) (aj3 te):=by
 intro aa s σ H Q I hw;rw[evalPart_some];refine thn (h aa s σ H _ I hw) λu s1 hP=>?_;obtain⟨x,H1,I1,r1,q1⟩:=hP;obtain⟨i,rfl,q⟩:=q1;obtain⟨t,rfl⟩:=r1;exact⟨some i,H1,I1,.int i t,q⟩
def SlR(X:Cx)(r:V->zI->zI->Hp->VK->Prop):Prop :=
 ∀(aa:Δ)(s:Shared)(σ:St)(H:Hp)(x:V)(v vl vu:Value)(lo hi:zI)(sl:Addr)(Q:VK),Inv X aa σ H s->RelV x v->s.heap.IsSliceOf sl vl vu .none->IsPart vl lo->IsPart vu hi->r x lo hi H Q ->
  ∃T id,typeLookup (.type T) "__getitem__"=pure (some (.builtin id))/\s.TypeIs v T/\wpAny (model X.prog X.w) X.A (getItem v (.ref sl)) (EP X aa σ Q) X.xe s
def SlR.or{r r':V->zI->zI->Hp->VK->Prop}(h:SlR X r)(h':SlR X r'):SlR X (λx lo hi H Q=>r x lo hi H Q\/r' x lo hi H Q):=by
 intro aa s σ H x v vl vu lo hi sl Q I rx hs pl pu q;rcases q with q|q
 .exact h aa s σ H x v vl vu lo hi sl Q I rx hs pl pu q
 .exact h' aa s σ H x v vl vu lo hi sl Q I rx hs pl pu q
def tSl(r:V->zI->zI->Hp->VK->Prop)(te:TE)(tl th:TO):TE:=λσ H Q=>te σ H λx H1=>tl σ H1 λl H2=>th σ H2 λu H3=>r x l u H3 Q
def acr{r:V->zI->zI->Hp->VK->Prop}(hr:SlR X r)(he:PE X e te)(hl:PO X lo tl)(hu:PO X hi th):PE X (.Subscript e (.Slice lo hi none p2) pos) (tSl r te tl th):=by
 intro aa s σ H Q I h;refine Subscript_ (thn (he aa s σ H _ I h) λv s1 hP=>?_);obtain⟨x,H1,I1,r1,q1⟩:=hP;refine wpAny_Slice (thn (hl aa s1 σ H1 _ I1 q1) λvl s2 ⟨l,H2,I2,pl,q2⟩=>thn (hu aa s2 σ H2 _ I2 q2) λvu s3 hP=>?_);obtain⟨u,H3,I3,pu,q3⟩:=hP;rw[evalPart_none];refine ZT ?_;have I4:Inv X aa σ H3 { s3 with heap:=s3.heap.push { cls:=.type "slice",data:=.fields #[vl,vu,.none] } }:=I3.kept (t':=s3.toks) λb ob q=>aH _ q;obtain⟨T,id,hT,ht,hg⟩:=hr aa { s3 with heap:=s3.heap.push { cls:=.type "slice",data:=.fields #[vl,vu,.none] } } σ H3 x v vl vu l u s3.heap.objs.size Q I4 r1 (Heap.IsSliceOf.new ..) pl pu q3;show wpAny (model X.prog X.w) X.A (subscriptTail e (.Slice lo hi none p2) v (.ref s3.heap.objs.size)) (EP X aa σ Q) X.xe { s3 with heap:=s3.heap.push { cls:=.type "slice",data:=.fields #[vl,vu,.none] } };exact tail_any (ops:=[.ref s3.heap.objs.size,v]) ht hT hg (by with_unfolding_all rfl)
def aaR(xs:Ζ)(lo hi:zI):Ζ:=(xs.drop (HT.sIx xs.length 0 lo)).take (HT.sIx xs.length xs.length hi-HT.sIx xs.length 0 lo)
def V1(xs:Ζ)(lo hi:zI):(aaR xs lo hi).length<=xs.length:=by
 unfold aaR;rw[aY,Ts];lia
def ixN(n:Nat)(i:Int):xl:=if 0<=i then(if i<n then some i.toNat else none)else if -(n:Int)<=i then some (i+n).toNat else none
def atI(xs:List α)(i:Int):Option α:=(ixN xs.length i).bind λj=>xs[j]?
def ZC{i:Int}{j:Nat}(h:ixN n i=some j):seqIndex? i n=some j/\j<n/\-(n:Int)<=i/\i<n:=by
 unfold ixN at h;by_cases h0:0<=i
 .rw[ZY h0]at h;by_cases h1:i<n
  .rw[ZY h1]at h;have e:i.toNat=j:=Option.some.inj h;exact⟨by rw[seqIndex_of h0 h1,e],by lia,by lia,h1⟩
  .rw[ZZ h1]at h;cases h
 .rw[ZZ h0]at h;by_cases h1 : -(n:Int)<=i
  .rw[ZY h1]at h;have e:(i+n).toNat=j:=Option.some.inj h;exact⟨by rw[seqIndex_neg (JP h0) h1,e],by lia,h1,by lia⟩
  .rw[ZZ h1]at h;cases h
def Rk{xs:List α}{i:Int}{v:α}(h:atI xs i=some v):∃j,seqIndex? i xs.length=some j/\xs[j]?=some v/\j<xs.length/\-(xs.length:Int)<=i/\i<xs.length:=by
 unfold atI at h;cases e:ixN xs.length i with
 |none=>rw[e]at h;cases h
 |some j =>
  rw[e]at h;obtain⟨h1,h2,h3,h4⟩:=ZC e;exact⟨j,h1,h,h2,h3,h4⟩
def tu(b:Expr):Prop:=∀o i,subscripted b false o i=operate [o,i] (getItem o i)
def IxR(X:Cx)(r:R2):Prop :=
 ∀(az bj:Expr)(aa:Δ)(s:Shared)(σ:St)(H:Hp)(x y:V)(v u:Value)(Q:VK),Inv X aa σ H s->RelV x v->RelV y u->r x y H Q ->
  subscripted bj false v u=operate [v,u] (getItem v u)->wpAny (model X.prog X.w) X.A (subscriptTail az bj v u) (EP X aa σ Q) X.xe s
def MtR(X:Cx)(id:String)(r:V->Ζ->Hp->VK->Prop):Prop :=
 ∀(aa:Δ)(s:Shared)(σ:St)(H:Hp)(x:V)(xs:Ζ)(v:Value)(us:Θ)(Q:VK),Inv X aa σ H s->RelV x v->Vals xs us->r x xs H Q ->
  wpAny (model X.prog X.w) X.A (call (.builtin id) (v::us)) (EP X aa σ Q) X.xe s
section
variable{X:Cx}{a b:Expr}{ta tb:TE}{pos:Pos}
def IxR.or{r r':R2}(h:IxR X r)(h':IxR X r'):IxR X (λx y H Q=>r x y H Q\/r' x y H Q):=by
 intro az bj aa s σ H x y v u Q I rx ry q hs;rcases q with q|q
 .exact h az bj aa s σ H x y v u Q I rx ry q hs
 .exact h' az bj aa s σ H x y v u Q I rx ry q hs
def Oa{r:R2}(hr:IxR X r)(ha:PE X a ta)(hb:PE X b tb)(hs:tu b):PE X (.Subscript a b pos) (tOp r ta tb):=by
 intro aa s σ H Q I h;exact Subscript_ (aht ha hb I h λv u s2 x y H2 I2 rx ry q=>hr a b aa s2 σ H2 x y v u Q I2 rx ry q (hs _ _))
def aps(K:Frag):R2:=λx y H Q=>∃p xs i v,x=.ref p/\y=.int i/\SqL K H p xs/\atI xs i=some v/\Q v H
def apD(K:Frag):R2:=λx y H Q=>∃p xs i v,x=.ref p/\y=.int i/\SqT K H p xs/\atI xs i=some v/\Q v H
def ao1:R2:=λx y H Q=>∃z i c,x=.str z/\y=.int i/\z.length<=sizeLine/\atI z.cps.toList i=some c/\Q (.str ⟨#[c]⟩) H
def Ao:IxR X (aps X.K):=by
 intro az bj aa s σ H x y v u Q I rx ry h hs;obtain⟨p,xs,i,z,rfl,rfl,hq,he,q⟩:=h;cases rx;obtain⟨t,rfl⟩:=ry;obtain⟨its,r,pl,hz⟩:=I.list hq;obtain⟨j,h1,h2,h3,h4,h5⟩:=Rk he;obtain⟨w,ew,fI⟩:=r.get h2;have hl:=r.length;have hn:=zZ;have fin:EP X aa σ Q w s:=⟨z,H,I,fI,q⟩;by_cases h0:0<=i
 .have hj:i.toNat=j:=by
   rw[seqIndex_of h0 h5]at h1;exact Option.some.inj h1
  exact item_listR pl.isList h0 wv (by rw[hj];simpa using ew) fin hs
 .have hj:(i+(its.toArray.size:Int)).toNat=j:=by
   rw[seqIndex_neg (JP h0) h4]at h1;rw[aX,<- hl];exact Option.some.inj h1
  exact subscriptTail_builtinR (x:=w) pl.isList.typeIs slot_list_getitem.lookup
   (wpAny_getItem_list_neg (Q:=λr s'=>r=w/\EP X aa σ Q r s') pl.isList (JP h0) (by rw[aX]<;>lia) wv (by rw[hj];simpa using ew) ⟨rfl,fin⟩) hs
def ahL:IxR X (apD X.K):=by
 intro az bj aa s σ H x y v u Q I rx ry h hs;obtain⟨p,xs,i,z,rfl,rfl,hq,he,q⟩:=h;cases rx;obtain⟨t,rfl⟩:=ry;obtain⟨its,r,pl,hz⟩:=I.tuple hq;obtain⟨j,h1,h2,h3,h4,h5⟩:=Rk he;obtain⟨w,ew,fI⟩:=r.get h2;have hl:=r.length;have hn:=zZ;have fin:EP X aa σ Q w s:=⟨z,H,I,fI,q⟩;exact subscriptTail_builtinR (x:=w) pl.typeIs slot_tuple_getitem.lookup
  (getItem_tuple (j:=j) (Q:=λr s'=>r=w/\EP X aa σ Q r s') pl wv wv (by rwa[aX,<- hl]) (by simpa using ew) ⟨rfl,fin⟩) hs
def ahG:IxR X ao1:=by
 intro az bj aa s σ H x y v u Q I rx ry h hs;obtain⟨z,i,c,rfl,rfl,hz,he,q⟩:=h;obtain⟨t,rfl⟩:=rx;obtain⟨t',rfl⟩:=ry;obtain⟨j,h1,h2,h3,h4,h5⟩:=Rk he;have hl:z.cps.toList.length=z.length:=by simp[Str.length]
 rw[hl]at h1 h4 h5;have hn:=zZ;exact tail_any (typeIs_str s z t) slot_str_getitem.lookup (getItem_str (c:=c) (by
  have e1:decide (i < -(2^63:Int))=false:=Zp wv;have e2:decide (i>=2^63)=false:=Zp wv;rw[e1,e2,Bool.or_false]) (by rw[h1];simpa using h2) ⟨.str ⟨#[c]⟩,H,I.tok _,⟨_,rfl⟩,q⟩) hs
def YC(its:Θ)(n j:Nat)(u:Value):Obj.mapSeq (·.setIfInBounds j u) { cls:=.type "list",data:=.seq its.toArray n }={ cls:=.type "list",data:=.seq (its.set j u).toArray n }:=by
 simp[Obj.mapSeq]
def Inv.lst{aa:Δ}{σ:St}{H:Hp}{s:Shared}{p:Addr}{xs:Ζ}(I:Inv X aa σ H s)(h:H p=some (.lst xs)) :
  ∃(its:Θ)(n:Nat),Vals xs its/\s.heap.get? p=some { cls:=.type "list",data:=.seq its.toArray n }/\xs.length<=sizeLine:=by
 obtain⟨z,its,n,r,e⟩:=I.hok p _ h;exact⟨its,n,r,e,z⟩
def Inv.lstUpd{p:Addr}{its its':Θ}{n':Nat}{f:Obj->Obj}(I:Inv X aa σ H s)(h:H p=some (.lst xs))
 (ho:s.heap.get? p=some { cls:=.type "list",data:=.seq its.toArray n })(hf:f { cls:=.type "list",data:=.seq its.toArray n }={ cls:=.type "list",data:=.seq its'.toArray n' })(r:Vals ys its')(hz:ys.length<=sizeLine)(t:Nat) :
  Inv X aa σ (upd H p (.lst ys)) { s with heap:=s.heap.update p f,toks:=t }:=by
 have e:(s.heap.update p f).get? p=some { cls:=.type "list",data:=.seq its'.toArray n' }:=by
  rw[Heap.get?_update_self f ho (by rw[hf]<;>rfl),hf]
 refine I.write (x:=p) (e:=p) (by rw[h];trivial) (.inl rfl) (λb u hb q=>(Heap.get?_update_other _ _ (Ne.symm hb)).trans q) ⟨_,e⟩ ?_;exact⟨hz,its',n',r,e⟩
def amC:V->V->V->Hp->(Hp->Prop)->Prop:=λo i v H Q=>∃p xs k j,o=.ref p/\i=.int k/\H p=some (.lst xs)/\ixN xs.length k=some j/\Q (upd H p (.lst (xs.set j v)))
def set_list:aoL X amC:=by
 intro aa s σ H o i v ov iv u Q I ro ri rv h;obtain⟨p,xs,k,j,rfl,rfl,hp,hj,q⟩:=h;cases ro;obtain⟨t,rfl⟩:=ri;obtain⟨its,n,r,ho,hz⟩:=I.lst hp;obtain⟨h1,h2,h3,h4⟩:=ZC hj;have hl:=r.length;have hn:=zZ;have I':Inv X aa σ (upd H p (.lst (xs.set j v))) { s with heap:=s.heap.update p (Obj.mapSeq (·.setIfInBounds j u)) } :=
  I.lstUpd hp ho (YC its n j u) (r.set rv j) (by rwa[VZ]) s.toks
 by_cases h0:0<=k
 .have hk:k.toNat=j:=by
   rw[seqIndex_of h0 h4]at h1;exact Option.some.inj h1
  exact PySem.W.ki_setAt ho h0 wv (by rwa[aX,<- hl]) (by rw[hk];exact⟨_,I',q⟩)
 .have hk:(k+(its.toArray.size:Int)).toNat=j:=by
   rw[seqIndex_neg (JP h0) h3]at h1;rw[aX,<- hl];exact Option.some.inj h1
  exact PySem.W.ki_setBack ho (JP h0) (by rwa[aX,<- hl]) wv (by rw[hk];exact⟨_,I',q⟩)
def Rv(lo hi:zI)(n:Nat):(sliceBounds lo hi none n).1=((HT.sIx n 0 lo:Nat):Int)/\(sliceBounds lo hi none n).2.1=((HT.sIx n n hi:Nat):Int)/\(sliceBounds lo hi none n).2.2=1:=by
 refine⟨?_,?_,rfl⟩
 .cases lo with
  |none=>simp[sliceBounds,HT.sIx]
  |some i =>
   simp only[sliceBounds,HT.sIx,Option.getD_none,show(1:Int)>0 by decide,if_true];by_cases h:i<0
   .simp only[h,if_true]<;>lia
   .simp only[h,if_false]<;>lia
 .cases hi with
  |none=>simp[sliceBounds,HT.sIx]
  |some i =>
   simp only[sliceBounds,HT.sIx,Option.getD_none,show(1:Int)>0 by decide,if_true];by_cases h:i<0
   .simp only[h,if_true]<;>lia
   .simp only[h,if_false]<;>lia
def Ml(its:Θ)(lo hi:zI):slicePick its.toArray lo hi none=((its.drop (HT.sIx its.length 0 lo)).take (HT.sIx its.length its.length hi-HT.sIx its.length 0 lo)).toArray:=by
 obtain⟨h1,h2,h3⟩:=Rv lo hi its.toArray.size;unfold slicePick;rw[h1,h2,h3];simp only[sliceRange_one,pick_run,aX]<;>rfl
def apk(K:Frag):V->zI->zI->Hp->VK->Prop:=λx lo hi H Q=>∃a xs,x=.ref a/\SqL K H a xs/\∀p,H p=none->Q (.ref p) (upd H p (.lst (aaR xs lo hi)))
def afL:SlR X (apk X.K):=by
 intro aa s σ H x v vl vu lo hi sl Q I rx hs pl pu h;obtain⟨a,xs,rfl,hx,q⟩:=h;cases rx;obtain⟨its,r,ht,hz⟩:=I.list hx;have be:=r.length;refine⟨"list",_,slot_list_getitem.lookup,ht.isList.typeIs,?_⟩;refine wpAny_getItem_list_slice ht.isList hs pl pu .none wf ?_ (by rw[aX]<;>lia);rw[Ml,<- be];refine⟨.ref s.heap.objs.size,_,I.laid (t':=s.toks) (o:=.lst (aaR xs lo hi)) (λb ob q=>aH _ q) (aG _) ?_,rfl,q _ (I.hok.fresh (aG _))⟩;exact⟨aL (V1 xs lo hi) hz,_,0,(r.drop (HT.sIx xs.length 0 lo)).take (HT.sIx xs.length xs.length hi-HT.sIx xs.length 0 lo),aW _ rfl⟩
def Oi:V->Bool
 |.non=>true
 |.bl _=>true
 |.int _=>true
 |.str _=>true
 |_=>false
def eqV:V->V->Bool
 |.non,.non=>true
 |.bl a,.bl b=>a==b
 |.bl a,.int b=>(if a then 1 else 0)==b
 |.int a,.bl b=>a==(if b then 1 else 0)
 |.int a,.int b=>a==b
 |.str a,.str b=>a==b
 |_,_=>false
def S6:jo X (.builtin "len") (λxs H Q=>∃p ys,xs=[.ref p]/\(SqL X.K H p ys\/SqT X.K H p ys)/\Q (.int ys.length) H):=by
 intro aa s σ H xs us Q I r h;obtain⟨p,ys,rfl,hq,q⟩:=h;obtain⟨u,rfl,rx⟩:=vals1 r;cases rx;have hn:=zZ;rcases hq with hq|hq
 .obtain⟨its,r',pl,hz⟩:=I.list hq;have be:=r'.length;exact Calls.call_len_list pl.isList (by simp only[aX]<;>lia) ⟨.int ys.length,H,I.tok _,⟨s.toks+1,by rw[aX,be]⟩,q⟩
 .obtain⟨its,r',pl,hz⟩:=I.tuple hq;have be:=r'.length;exact len_tuple pl (by simp only[aX]<;>lia) ⟨.int ys.length,H,I.tok _,⟨s.toks+1,by rw[aX,be]⟩,q⟩
def Pg:jo X (.builtin "len") (λxs H Q=>∃z,xs=[.str z]/\z.length<=sizeLine/\Q (.int z.length) H):=by
 intro aa s σ H xs us Q I r h;obtain⟨z,rfl,hz,q⟩:=h;obtain⟨u,rfl,t,rfl⟩:=vals1 r;have hn:=zZ;exact len_str wv ⟨.int z.length,H,I.tok _,⟨_,rfl⟩,q⟩
def QV:jo X (.type "list") (λxs H Q=>∃p ys,xs=[.ref p]/\(SqL X.K H p ys\/SqT X.K H p ys)/\∀l,H l=none->Q (.ref l) (upd H l (.lst ys))):=by
 intro aa s σ H xs us Q I r h;obtain⟨p,ys,rfl,hq,q⟩:=h;obtain⟨u,rfl,rx⟩:=vals1 r;cases rx;have fin:∀(its:Θ),Vals ys its->ys.length<=sizeLine->∀(h':Heap)(c':Nat),(∀b o',s.heap.get? b=some o'->h'.get? b=some o') ->
   h'.get? s.heap.objs.size=some { cls:=.type "list",dict:=none,data:=.seq its.toArray c',slots:=#[] }->EP X aa σ Q (.ref s.heap.objs.size) { s with heap:=h' }:=λits r' hz h' c' kp e =>
  ⟨.ref s.heap.objs.size,_,I.laid (t':=s.toks) kp (aG _) (show gq X.prog X.w _ h' _ (.lst ys)from⟨hz,its,c',r',e⟩),rfl,q _ (I.hok.fresh (aG _))⟩
 rcases hq with hq|hq
 .obtain⟨its,r',pl,hz⟩:=I.list hq;have be:=r'.length;obtain⟨o,ho,hc,n,hd⟩:=pl.isList;exact call_list_seq p (.inl rfl) ho hc hd (λh' c' kp e=>fin its r' hz h' c' kp e) (by simp only[aX]<;>lia)
 .obtain⟨its,r',pl,hz⟩:=I.tuple hq;have be:=r'.length;obtain⟨o,ho,hc,n,hd⟩:=pl;exact call_list_seq p (.inr rfl) ho hc hd (λh' c' kp e=>fin its r' hz h' c' kp e) (by simp only[aX]<;>lia)
def tyV(K:Frag)(T:String)(x:V)(H:Hp):Prop:=match x with
 |.str _=>T="str"
 |.int _=>T="int"
 |.ref p=>(T="list"/\∃xs,SqL K H p xs)\/(T="tuple"/\∃o,K.lookup p=some o/\o.cls=.type "tuple"/\o.dict=none) \/
   (T="dict"/\(∃kvs,H p=some (.dK kvs)))\/(T="set"/\∃S n,H p=some (.set S n))
 |_=>False
def ah4{T:String}{x:V}{v:Value}(I:Inv X aa σ H s)(r:RelV x v)(ty:tyV X.K T x H) :
  s.TypeIs v T/\∀a,v=.ref a->∃ob,s.heap.get? a=some ob/\ob.dict=none:=by
 cases x with
 |str z =>
  obtain⟨t,rfl⟩:=r;cases(show T="str" from ty);exact⟨typeIs_str s z t,λ_ e=>nomatch e⟩
 |int i =>
  obtain⟨t,rfl⟩:=r;cases(show T="int" from ty);exact⟨typeIs_int s i t,λ_ e=>nomatch e⟩
 |ref p =>
  cases r;rcases ty with⟨rfl,xs,hq⟩|⟨rfl,o,hk,hc,hd⟩|⟨rfl,hk⟩|⟨rfl,S,n,hk⟩
  .obtain⟨its,_,pl,_⟩:=I.list hq;refine⟨pl.isList.typeIs,λa e=>?_⟩;cases e;obtain⟨o,n,e,c,hd,_⟩:=pl;exact⟨o,e,hd⟩
  .refine⟨⟨o,I.kIn p o hk,hc⟩,λa e=>?_⟩;cases e;exact⟨o,I.kIn _ o hk,hd⟩
  .have z:∃o,s.heap.get? p=some o/\o.ExactDict:=by
    obtain⟨kvs,hk⟩:=hk;obtain⟨_,_,_,_,o,_,_,e,ex,_⟩:=I.hok p _ hk;exact⟨o,e,ex⟩
   obtain⟨o,e,ex⟩:=z;refine⟨⟨o,e,ex.1⟩,λa e2=>?_⟩;cases e2;exact⟨o,e,ex.2.1⟩
  .obtain⟨o,_,_,_,e,ex,_⟩:=I.hok p _ hk;refine⟨⟨o,e,ex.1⟩,λa e2=>?_⟩;cases e2;exact⟨o,e,ex.2.1⟩
 |_=>exact False.elim ty
def tBM(K:Frag)(T:String)(r:V->Ζ->Hp->VK->Prop)(to:TE)(t:TA):TE:=λσ H Q=>to σ H λx H1=>tyV K T x H1/\t σ H1 λxs H2=>r x xs H2 Q
variable{o e:Expr}{es:zt}{to:TE}{t:TA}{name:Str}{ah af:Pos}{T id:String}{r:V->Ζ->Hp->VK->Prop}
abbrev zz(a b:Pos):Prop:=(a.endLine==b.line)=true
def Zm(pa:PlainAttrs T)(slot:Slot T name id)(kf:typeOf (.builtin id)=pure (.type "method_descriptor"))(hm:MtR X id r)(ho:PE X o to)(ha:PA X (e::es) t)
 (kA:qB X o name:=by rfl)
 (nc:((backTo af (starEach (e::es) X.env)).all (λx=>!x.1)&&(backToKw af (keywordEach [] X.env)).all (λx=>x.1.isSome)
   && decide ((e::es).length+([] : xL).length+(if([] : xL).isEmpty then 0 else 1)<30))=true:=by rfl)
 (ku:zz ah af:=by rfl)(hs:qo X e es:=by rfl)(ik:qh X af es:=by rfl) :
  PE X (.Call (.Attribute o name ah) (e::es) [] af) (tBM X.K T r to t):=by
 intro aa s σ H Q I h;refine wpAny_Call_method_late kA nc ku rfl (thn (ho aa s σ H _ I h) λv s1 hP=>?_);obtain⟨x,H1,I1,r1,ty,q1⟩:=hP;obtain⟨h1,h2⟩:=ah4 I1 r1 ty;refine⟨T,id,pa,slot,kf,h1,h2,?_⟩;have hA:=ha af aa s1 σ H1 _ I1 q1;rw[hs]at hA ⊢;refine Calls.callWith_builtin (by show(false || (backTo af (starEach es X.env)).any (·.1))=false;rw[ik]<;>rfl) (Calls.evalArgs_plain ?_);exact thn hA λus s2 hP=>by obtain⟨vs,H2,I2,r2,q2⟩:=hP;exact hm aa s2 σ H2 x vs v us Q I2 r1 r2 q2

end
def MtM(X:Cx)(id:String)(r:V->Ζ->Hp->VK->Prop):Prop :=
 ∀(aa:Δ)(s:Shared)(σ:St)(H:Hp)(x:V)(xs:Ζ)(v:Value)(us:Θ)(Q:VK),Inv X aa σ H s->RelV x v->Vals xs us->r x xs H Q ->
  wpAny (model X.prog X.w) X.A (call (.builtin id) (v::us)) (EP X aa σ Q) X.xe s
def Vals.one:∀{x:V}{us:Θ},Vals [x] us->∃u,us=[u]/\RelV x u
 |_,_,.cons r .nil=>⟨_,rfl,r⟩
def Vals.two{x y:V}{us:Θ}(h:Vals [x,y] us):∃u v,us=[u,v]/\RelV x u/\RelV y v:=by
 cases h with|cons r t=>cases t with|cons q t=>cases t;exact⟨_,_,rfl,r,q⟩
theorem Vals.rep{xs:Ζ}{us:Θ}(h:Vals xs us):∀k:Nat,Vals (List.replicate k xs).flatten (List.replicate k us).flatten
 |0=>.nil
 |k+1=>by
  rw[List.replicate_succ,List.replicate_succ,List.flatten_cons,List.flatten_cons];exact Vals.append h (Vals.rep h k)
theorem foldl_rep(its:Θ):∀(k:Nat)(acc:Θ),
  List.foldl (λx1 x2=>x1++x2) acc.toArray (List.replicate k its.toArray)=(acc++(List.replicate k its).flatten).toArray
 |0,acc=>by simp
 |k+1,acc=>by
  have e:acc.toArray++its.toArray=(acc++its).toArray:=by simp
  have e2:(acc++its)++(List.replicate k its).flatten=acc++(List.replicate (k+1) its).flatten:=by
   rw[List.replicate_succ,List.flatten_cons,Wp]
  rw[<- e2,<- foldl_rep its k (acc++its),<- e,List.replicate_succ,List.foldl_cons]
def Inv.lset{its its':Θ}{f:xa->xa}{t':Nat}(I:Inv X aa σ H s)(hH:H l=some (.lst xs))
 (e:s.heap.get? l=some { cls:=.type "list",data:=.seq its.toArray n })(hf:f its.toArray=its'.toArray)(hv:Vals ys its')(hz:ys.length<=sizeLine) :
  Inv X aa σ (upd H l (.lst ys)) { s with heap:=s.heap.update l (Obj.mapSeq f),toks:=t' }:=by
 have q:=PySem.IsL.update e f;rw[hf]at q;refine I.write (x:=l) (e:=l) (by rw[hH];exact trivial) (.inl rfl) (λb' u hb hu=>(Heap.get?_update_other s.heap (Obj.mapSeq f) (Ne.symm hb)).trans hu) ⟨_,q⟩ ?_;exact⟨hz,its',_,hv,q⟩
def Inv.lnew{its:Θ}{t':Nat}(I:Inv X aa σ H s)(hv:Vals ys its)(hz:ys.length<=sizeLine) :
  Inv X aa σ (upd H s.heap.objs.size (.lst ys)) { s with heap:=s.heap.push { cls:=.type "list",data:=.seq its.toArray },toks:=t' } :=
 I.laid (λ_ _ q=>aH _ q) (aG _) ⟨hz,its,0,hv,aW _ rfl⟩
def Inv.fresh(I:Inv X aa σ H s):H s.heap.objs.size=none:=I.hok.fresh (aG _)
def Inv.lstM(I:Inv X aa σ H s)(hH:H l=some (.lst xs)):xs.length<=sizeLine/\∃(its:Θ)(n:Nat),Vals xs its/\xs.length=its.length/\s.heap.get? l=some { cls:=.type "list",data:=.seq its.toArray n }:=by
 obtain⟨z,its,n,r,e⟩:=I.hok l _ hH;exact⟨z,its,n,r,r.length,e⟩
def adz(h:n<=sizeLine):Builtin.List.listTooLong n=false:=by
 unfold Builtin.List.listTooLong;exact Zp (TZ h)
def afe:V->Ζ->Hp->VK->Prop:=λx vs H Q=>∃l xs y,x=.ref l/\vs=[y]/\H l=some (.lst xs)/\xs.length<sizeLine/\Q .non (upd H l (.lst (xs++[y])))
def Ov:MtM X "list.append" afe:=by
 intro aa s σ H x vs v us Q I rx rv h;obtain⟨l,xs,y,rfl,rfl,hH,hz,q⟩:=h;cases rx;obtain⟨u,rfl,ru⟩:=rv.one;obtain⟨z,its,n,r,hl,e⟩:=I.lstM hH;refine call_meets F.slot_list_append ⟨_,e,rfl⟩ F.entry_list_append (F.args_list_append_2 _ _) (PySem.list_append l its.toArray n u (by rw[aX];lia)) ⟨e,?_⟩;refine⟨.non,_,I.lset (its':=its++[u]) hH e wf (r.append (.cons ru .nil)) ?_,rfl,q⟩;rwa[aA,List.length_singleton]
def ao4:R2:=λx y H Q=>∃l b xs zs,x=.ref l/\y=.ref b/\H l=some (.lst xs)/\H b=some (.lst zs)/\xs.length+zs.length<=sizeLine/\∀p,H p=none->Q (.ref p) (upd H p (.lst (xs++zs)))
def aiK:OpR X (binaryOp .Add) ao4:=by
 intro aa s σ H x y v u Q I rx ry h;obtain⟨l,b,xs,zs,rfl,rfl,hH,hB,hz,q⟩:=h;cases rx;cases ry;obtain⟨z,its,n,r,hl,e⟩:=I.lstM hH;obtain⟨z2,ke,n2,r2,hl2,e2⟩:=I.lstM hB;refine PySem.P.add_list e e2 ?_ (by rw[aX,aX];lia);have ea:its.toArray++ke.toArray=(its++ke).toArray:=by simp
 rw[ea];exact⟨.ref _,_,I.lnew (t':=s.toks) (r.append r2) (by rw[aA];omega),rfl,q _ I.fresh⟩
def apC:R2:=λx y H Q=>∃l k xs,x=.ref l/\y=.int k/\H l=some (.lst xs)/\-(2^63)<=k/\k<2^63/\xs.length*k.toNat<=sizeLine /\
 ∀p,H p=none->Q (.ref p) (upd H p (.lst (List.replicate k.toNat xs).flatten))
def len_rep(xs:List α)(k:Nat):(List.replicate k xs).flatten.length=k*xs.length:=by
 induction k with
 |zero=>simp
 |succ k ih=>rw[List.replicate_succ,List.flatten_cons,aA,ih,Nat.succ_mul,Nat.add_comm]
def aje:OpR X (binaryOp .Mult) apC:=by
 intro aa s σ H x y v u Q I rx ry h;obtain⟨l,k,xs,rfl,rfl,hH,h1,h2,hz,q⟩:=h;cases rx;obtain⟨t,rfl⟩:=ry;obtain⟨z,its,n,r,hl,e⟩:=I.lstM hH;have be:its.toArray.size*k.toNat<=sizeLine:=by rwa[aX,<- hl]
 have nL:¬its.toArray.size*k.toNat>(2^63-1)/8:=by
  have:(sizeLine:Nat)<=(2^63-1)/8:=by decide
  lia
 have mT:¬(!Builtin.List.listFitsIndex k)=true:=by
  rw[fitsIndex_both h1 h2];exact bx
 have kr:¬Builtin.List.listTooLong (its.toArray.size*k.toNat)=true:=by
  rw[adz be];exact bx
 have mI:List.foldl (λx1 x2=>x1++x2) #[] (List.replicate (if its.toArray.isEmpty=true then 0 else k.toNat) its.toArray)=(List.replicate k.toNat its).flatten.toArray:=by
  have f0:∀m:Nat,List.foldl (λx1 x2=>x1++x2) #[] (List.replicate m its.toArray)=(List.replicate m its).flatten.toArray:=λm=>by
   have:=foldl_rep its m [];rw[List.nil_append]at this;exact this
  rw[f0];cases its with
  |nil=>simp
  |cons a r'=>rw[ZZ wf]
 refine wpAny_binaryOp_repeat_ref (T:="list") (U:="int") wx ⟨_,e,rfl⟩ (λs'=>typeIs_int s' k t) noFill_list_mul F.fills_int_mul F.slot_int_rmul repeat_list F.slot_int_index.lookup
  (call_meets F.slot_int_rmul (typeIs_int s k t) F.entry_int_rmul (F.args_int_rmul_2 _ _) (int___rmul___int_list k t l its.toArray n)
   ⟨e,rfl,⟨_,e,rfl⟩,call_meets F.slot_list_mul ⟨_,e,rfl⟩ F.entry_list_mul (F.args_list_mul_2 _ _) (AutoListH.list___mul___list_int_3 l its.toArray n k t mT nL kr) ⟨e,?_⟩⟩)
 rw[mI];exact⟨.ref _,_,I.lnew (t':=s.toks) (r.rep k.toNat) (by rwa[len_rep,TK]),rfl,q _ I.fresh⟩
end L2
namespace Att
open PySem PySem.W PySem.Calls PyProof.Rows
def IV{P:Params}{h:Heap} : ∀(ns:xz)(vs:Θ),WellAll P h vs (ns.map WData.int)->IntsAre vs ns:=by
 intro ns
 induction ns with
 |nil =>
  intro vs w;rw[List.map_nil]at w;cases w;exact .nil
 |cons n ns ih =>
  intro vs w;rw[List.map_cons]at w;cases w with
  |cons a b =>
   cases a;exact .cons _ _ (ih _ b)
variable{l:OpenLaw}
def aaO{n:Nat}(hn:l.most=some n){P:Params}{h:Heap}{args:List WData}{h8:Θ}
 (fg:l.row.toRowW.claim.pre args=true)(mh:WellAll P h h8 args) :
  ∃a vs ns,h8=[Value.ref a]/\args=[WData.list (ns.map WData.int)]/\h.get? a=some { cls:=.type "list",data:=.seq vs.toArray }/\IntsAre vs ns/\ns.length<=n:=by
 have hG:WShape.hasAll [] args [.list .int]=true:=(pre_splitW fg).1;have hc:l.pre.holds [] { args:=args }=true:=(pre_splitW fg).2;obtain⟨d,r,rfl,h1,h2⟩:=hasAllW_cons hG;obtain rfl:=hasAllW_nil h2;obtain⟨xs,rfl,h3⟩:=hasW_list h1;obtain⟨ns,rfl⟩:=items_int h3;have be:ns.length<=n:=by
  unfold OpenLaw.pre at hc;have h4:(WTm.not (.lt (.lit (.int (n:Int))) (.len (.arg 0)))).holds [] { args:=[.list (ns.map .int)] }=true:=by
   have h4:=(holds_andW hc).1;rw[hn]at h4;exact h4
  have h5:=condW_of h4 (w_not (w_lt w_lit (w_len_list (w_arg rfl))));rw[ak]at h5;refine VS λq=>?_;have q':(n:Int)<((ns.length:Nat):Int):=by omega
  first
   |(rw[Zs q']at h5;exact absurd h5 wx)
   |(simp at h5;omega)
 cases mh with
 |cons w1 w2 =>
  cases w2;cases w1 with
  |list ho hall=>exact⟨_,_,ns,rfl,rfl,ho,IV ns _ hall,be⟩
def aaq(l:OpenLaw)(args:List WData):l.row.toRowW.claim.post args (.bool true) args=true :=
 postW_of (r:=l.row.toRowW) (X:=(true==true))
  (show WShape.has [] (.bool true) .bool=true by first|rfl|decide|simp[WShape.has,WShape.arms,WShape.armsAll])
  (show(WTm.eq .res (.lit (.bool true))).value [] { args:=args,res:=some (.bool true),after:=args }=some (.bool (true==true))from w_eq_bool (w_res rfl) w_lit) rfl
def Vw{n:Nat}{q:Program}{loose:Φ}{XP:(Str->Ω)->Heap->Prop}{YP:World->Heap->Prop}{d:DefRec}
 (hn:l.most=some n)(ky:d.params.defaults=[])
 (call:∀(w:World)(s₀ s₁:Shared)(mg mb:Str->Ω)(fa:Addr)(o:Obj)(pm cd bz:Value)(a:Addr)(vs:Θ)(ns:xz),
   Ground q loose [] XP w s₀ mg mb s₁.heap->YP w s₁.heap ->
   s₁.heap.get? fa=some o->o.data=.func (docDef d.name d.params d.body d.scope pm cd bz)->s₁.heap.CodeRec cd d.name->mg d.name=some (.ref fa) ->
   s₁.heap.get? a=some { cls:=.type "list",data:=.seq vs.toArray }->IntsAre vs ns->ns.length<=n->s₁.gens = #[] ->
   codeAny (model l.prog w) callerA (.call (.ref fa) ⟨[.ref a],[]⟩) (λr s'=>r=.ok (.ret (.bool true))/\OldK s₁.heap s'.heap/\s'.os=s₁.os/\AllBare s'.gens) s₁) :
  WalkO q loose XP YP l.row.toRowW d [] (λf vs=>PySem.call f vs):=by
 intro w s₀ s₁ mg mb G Y fa o pm cd bz dV kV ho hd a9 hD gc hg args h8 as fg hlay hrd mh hlo;obtain rfl:dV=.none:=Dflts.none hD ky;obtain rfl:kV=.none:=Dflts.noKw hD;obtain⟨a,vs,ns,rfl,rfl,im,f7,be⟩:=aaO hn fg mh;refine enter_call (codeAny_mono (call w s₀ s₁ mg mb fa o pm cd bz a vs ns G Y ho (fd_plain hd) a9 gc im f7 be hg) λr s' hq=>?_);obtain⟨rfl,h2,h3,h4⟩:=hq;exact⟨.inl ⟨.bool true,.bool true,[],rfl,λ_=>rfl,.bool true,aaq l _,λ_=>⟨List.Pairwise.nil,λ_ hm=>(nomatch hm)⟩⟩,h2,h3,h4⟩
end Att
namespace L2
open PySem PySem.Spec PyProof.Rows
theorem Hj:∀{vs:Θ}{ns:xz},IntsAre vs ns->Vals (ns.map V.int) vs
 |_,_,.nil=>.nil
 |_,_,.cons n t h=>.cons ⟨t,rfl⟩ (Hj h)
def Only(H:Hp):Prop:=∀b,H b=none\/∃o xs,H b=some (.frz o (.lst xs))
def ab3{P:Program}{w:World}{K:Frag}{mg mb:Str->Ω}{CX:CXT}{k:Nat}{fa a:Addr}{fd:FuncData}{x:Str}{sp:Sp}{s₁:Shared}{vs:Θ}{ns:xz}
 (KX:K.In s₁.heap)(eS:s₁.heap.Ns mainGlobals mg)(hb:s₁.heap.Ns builtinsNs mb)(hbb:∀x:Str,x≠"__name__"->mb x=bootBuiltins x)(mM:s₁.heap.NoLimit)(hg:s₁.gens = #[])
 (ha:s₁.heap.get? a=some { cls:=.type "list",data:=.seq vs.toArray })(hi:IntsAre vs ns)(hl:ns.length<=sizeLine)(hr:eY k callerA)
 (F:∀base:Heap,K.In base->base.Ns mainGlobals mg->gY P w K mg base CX k fa fd [x] sp)(kz:∀(s:Shared)(u:Value),BindsTo s fd ⟨[u],[]⟩ [(x,u)])
 (hE:∀H:Hp,Only H->SqL K H a (ns.map V.int)->sp [.ref a] H (λv _=>v=.bl true) λ_ _ _=>False)
 (nX:∀H e s',CX [] H s₁ (λ_ _ _=>False) e s'->False) :
  codeAny (model P w) callerA (.call (.ref fa) ⟨[.ref a],[]⟩) (λr s'=>r=.ok (.ret (.bool true))/\OldK s₁.heap s'.heap/\s'.os=s₁.os/\AllBare s'.gens) s₁:=by
 have rv:=Hj hi;have l5:=hi.length

 have core:∀H:Hp,Only H->SqL K H a (ns.map V.int)->HOk P w H s₁.heap->(∀b,H b≠none->b=a)->(H a≠none->K.lookup a=none) ->
   codeAny (model P w) callerA (.call (.ref fa) ⟨[.ref a],[]⟩) (λr s'=>r=.ok (.ret (.bool true))/\OldK s₁.heap s'.heap/\s'.os=s₁.os/\AllBare s'.gens) s₁:=by
  intro H hO hS hok hA hK;have fe:∀{b:Addr}{o:Obj},s₁.heap.get? b=some o->H b=none->(Sg s₁.heap H).get? b=some o:=λe n=>aeb e n;have jv:∀{b:Addr}{o:Obj}{es:Array DictEntry}{ep:Nat},s₁.heap.get? b=some o->o.data=.dict es ep->H b=none:=λ{b o es ep}e d=>by
   cases q:H b with
   |none=>rfl
   |some u =>
    have e':b=a:=hA b (by rw[q];simp);subst e';rw[ha]at e;cases e;have d':Data.seq vs.toArray _=Data.dict es ep:=d;cases d'
  have kH:∀{b:Addr}{m:Str->Ω},s₁.heap.Ns b m->(Sg s₁.heap H).Ns b m:=λ{b m}⟨o,es,ep,e,d,r⟩=>⟨o,es,ep,fe e (jv e d),d,r⟩;have hKb:K.In (Sg s₁.heap H):=λb o e=>fe (KX b o e) (by
   cases q:H b with
   |none=>rfl
   |some u =>
    have e':b=a:=hA b (by rw[q];simp);subst e';rw[hK (by rw[q];simp)]at e;cases e)
  have hM:Mod K mg (Sg s₁.heap H):=⟨hKb,kH eS,⟨mb,kH hb,hbb⟩,let⟨mc,h1,h2⟩:=mM;⟨mc,kH h1,h2⟩⟩;have e0:Uu P w K mg (Sg s₁.heap H) callerA [] s₁ H:=⟨rfl,hM,λb o e=>aeZ e,WJ (aaG _ _),trivial,λb hb=>absurd (show b∈([] : Ψ)from hb) wf,hok,.of_eq hg⟩;refine codeAny_mono ((F _ hKb (kH eS)).run callerA [] s₁ H ⟨[.ref a],[]⟩ [.ref a] [.ref a] _ _ hr e0 (kz s₁ (.ref a)) (.cons rfl .nil) (hE H hO hS)) λr s' h=>?_;cases r with
  |error e=>exact(nX H e s' h).elim
  |ok fl =>
   cases fl with
   |next=>exact False.elim h
   |brk=>exact False.elim h
   |cont=>exact False.elim h
   |ret u =>
    obtain⟨v,H',os,bare,un,hok',r',q⟩:=h;have q':v=.bl true:=q;subst q';obtain rfl:u=Value.bool true:=r';refine⟨rfl,OldK.of_keep λb o e=>?_,os,bare⟩;cases q:H b with
    |none=>exact un.keep b o e q (by intro z;exact absurd (show b∈([] : Ψ)from z) wf) wf
    |some u =>
     rcases hO b with z|⟨ob,xs,z⟩
     .rw[q]at z;cases z
     .have z2:=un.frzs b ob _ z;obtain⟨e1,_⟩:=hok b _ z;obtain⟨e2,_⟩:=hok' b _ z2;rw[e]at e1;cases e1;exact e2
 cases hk:K.lookup a with
 |some o =>

  have e:=KX a o hk;rw[ha]at e;cases e;refine core (λ_=>none) (λ_=>.inl rfl) (.inr ⟨_,vs.toArray,_,hk,rfl,rfl,rfl,by rw[aX,l5];exact hl,by simpa using rv⟩) (λb u z=>by have z':(none:Option HO)=some u:=z;cases z') (λb z=>absurd rfl z) λz=>absurd rfl z
 |none =>
  refine core (λb=>if b=a then some (.frz { cls:=.type "list",data:=.seq vs.toArray } (.lst (ns.map V.int)))else none) (λb=>?_) (.inl (.inr ⟨{ cls:=.type "list",data:=.seq vs.toArray },ZY rfl⟩)) (λb u z=>?_) (λb z=>?_) λ_=>hk
  .by_cases hb:b=a
   .exact .inr ⟨_,_,ZY hb⟩
   .exact .inl (ZZ hb)
  .by_cases hb:b=a
   .have z':=(ZY hb).symm.trans z;cases z';subst hb;exact⟨ha,by rw[ak];exact hl,vs,_,rv,ha⟩
   .have z':=(ZZ hb).symm.trans z;cases z'
  .by_cases hb:b=a
   .exact hb
   .exact absurd (ZZ hb) z
abbrev KOf{K:Frag}{h:Heap}(_:K.In h):Frag:=K
def Y8{l:PySem.W.OpenLaw}{n k:Nat}{q:Program}{loose:Φ}{XP:(Str->Ω)->Heap->Prop}{YP:World->Heap->Prop}{d:DefRec}{K:Params->Frag}{CX:World->CXT}{sp:World->Sp}{x:Str}
 (hn:l.most=some n)(iN:n<=sizeLine)(ky:d.params.defaults=[])(hr:eY k callerA)
 (hY:∀(w:World)(h:Heap),YP w h->(K w.params).In h)
 (F:∀(w:World)(mg:Str->Ω)(fa:Addr)(h:Heap),(K w.params).In h->h.Ns mainGlobals mg->mg d.name=some (.ref fa) ->
   ∃fd:FuncData,(∀(s:Shared)(u:Value),BindsTo s fd ⟨[u],[]⟩ [(x,u)]) /\
    ∀base:Heap,(K w.params).In base->base.Ns mainGlobals mg->gY l.prog w (K w.params) mg base (CX w) k fa fd [x] (sp w))
 (hE:∀(w:World)(H:Hp)(a:Addr)(ns:xz),ns.length<=n->Only H->SqL (K w.params) H a (ns.map V.int)->sp w [.ref a] H (λv _=>v=.bl true) λ_ _ _=>False)
 (nX:∀(w:World)(H:Hp)(s:Shared)(e:Value)(s':Shared),CX w [] H s (λ_ _ _=>False) e s'->False) :
  PySem.W.WalkO q loose XP YP l.row.toRowW d [] (λf vs=>PySem.call f vs):=by
 refine Att.Vw hn ky λw s₀ s₁ mg mb fa o pm cd bz a vs ns G Y ho hd a9 gc im f7 be hg=>?_;have KX:=hY w _ Y;obtain⟨fd,hb,hF⟩:=F w mg fa _ KX G.T.g gc;exact ab3 KX G.T.g G.T.b G.T.builtins G.T.nolimit hg im f7 (aL be iN) hr hF hb (λH hO hS=>hE w H a ns be hO hS) λH e s'=>nX w H s₁ e s'
end L2

namespace L2
open PySem PySem.Spec PyProof.Rows
abbrev CX0:CXT:=λ_ _ _ _ _ _=>False
abbrev E0:XK:=λ_ _ _=>False
def OD{X:Cx} : Passes CX0 X E0:=λ_ _ _ _ _ _ _ h=>h.elim
structure Fun(K:Frag)(x am:Str)(st:Stmt)(f:Addr)(fd:FuncData):Prop where
 ex:∃(oc:Value)(od:Ξ)(kV bz pm:Value)(an:Ξ)(ag ct:Value)(eP:Array (Ω)),
  fd=PySem.W.fnOf x am (jE st) (gk st) (bH st) .none kV bz pm an ag ct/\K.lookup f=some ⟨oc,od,.func fd,eP⟩/\codeIn K ag am=true
 kp:keepIn K (.ref f)=true
variable{P:Program}{w:World}{K:Frag}{mg:Str->Ω}{base:Heap}{x am:Str}{st:Stmt}{f:Addr}{ps:Φ}{sp:Sp}{oc:Value}{eP:Array (Ω)}{A:Around}
def Fun.ok{fd:FuncData}{N:Φ}{k:Nat}(F:Fun K x am st f fd)(S:bL N ps (bH st))(len:∀vs H Q E,sp vs H Q E->vs.length=ps.length)
 (ci:∀(ag:Value)(A:Around)(outer:xt)(s:Shared)(H:Hp)(vs:Ζ)(Q:VK)(E:XK),eY k (A.deeper (envOfC am (bH st) s.heap.objs.size f ag))->sp vs H Q E ->
   ∃t,PSs (Qn CX0 P w K mg base N am (bH st) f ag A outer s H E).nox (gk st) t/\t { nx:=λ_ H'=>Q .non H',rt:=Q } (start N vs) H):gY P w K mg base CX0 (k+1) f fd ps sp:=by
 obtain⟨oc,od,kV,bz,pm,an,ag,ct,eP,rfl,lk,a9⟩:=F.ex;refine anB lk a9 S len λA outer s H vs Q E hr hE=>?_;obtain⟨t,h,q⟩:=ci ag A outer s H vs Q E hr hE;exact⟨t,h.nox,q⟩
def abR{od an:Ξ}{kV bz pm ag ct:Value}(l:K.lookup f=some ⟨oc,od,.func (PySem.W.fnOf x am (jE st) (gk st) (bH st) .none kV bz pm an ag ct),eP⟩)
 (c:codeIn K ag am=true)(k:keepIn K (.ref f)=true):Fun K x am st f (PySem.W.fnOf x am (jE st) (gk st) (bH st) .none kV bz pm an ag ct):=⟨⟨oc,od,kV,bz,pm,an,ag,ct,eP,rfl,l,c⟩,k⟩
def xJ{k:Nat}(hr:eY k A):A.units+1<cLine:=Y3 (Nat.add_le_add_left (by decide:1<=64) _) hr.units
def rD(sc:Scope)(x:Str):Bool:=(sc.names.lookup x).any λk=>k == .local || k == .cell || k == .free
def aiO{sc:Scope}(h:rD sc x=true):Vis sc x:=by
 unfold rD at h;unfold Vis;cases e:sc.names.lookup x with
 |none=>rw[e]at h;cases h
 |some k=>rw[e]at h;cases k<;>first|exact .inl rfl|exact .inr (.inl rfl)|exact .inr (.inr rfl)|cases h
variable{X:Cx}{pos:Pos}{H H':Hp}{a b:Addr}{xs:Ζ}{prog:Program}{E:Ε}{s:Shared}{aE es:zt}{t:String}{e:Expr}{h:Heap}{scope:Scope}{aa:Δ}{σ:L2.St}
def pv(i:Nat)(hN:X.N[i]?=some x:=by rfl)(hv:rD X.env.scope x=true:=by rfl)(hd:qk x:=by decide)
 (a9:qf x:=by decide):PE X (.Name x pos) (ahA i):=ahP hN (aiO hv) hd a9
def aql{A B:Prop}(h:B):if false=true then A else B:=by
 rwa[ZZ bx]
def aqd{A B:Prop}(h:A):if true=true then A else B:=by
 rwa[ZY rfl]
def Same(H H':Hp):Prop:=∀b o,H b=some o->H' b=some o
def Same.refl(H:Hp):Same H H:=λ_ _ h=>h
def Same.trans{H1 H2:Hp}(a:Same H H1)(b:Same H1 H2):Same H H2:=λc o h=>b c o (a c o h)
def Same.free(e:Same H H'){l:Addr}(h:H' l=Option.none):H l=Option.none:=by
 cases q:H l with
 |none=>rfl
 |some o =>
  rw[e l o q]at h;cases h
def Same.seq(e:Same H H')(h:SqL K H a xs):SqL K H' a xs:=by
 rcases h with(h|⟨o,h⟩)|h
 .exact .inl (.inl (e _ _ h))
 .exact .inl (.inr ⟨o,e _ _ h⟩)
 .exact .inr h
def Bd(i:Int):Prop:=i.natAbs<2^8000
def Bd.log2{i:Int}(h:Bd i):i.natAbs.log2<8000:=by
 by_cases h0:i.natAbs=0
 .rw[h0,Nat.log2_zero];exact TH _
 .exact(Nat.log2_lt h0).mpr h
def Bd.bits{i:Int}(h:Bd i):Builtin.Int.intBits i<=2^20:=by
 have e:(2:Nat)^20=1048576:=by decide
 have:=h.log2;unfold Builtin.Int.intBits;split
 .exact aZ _
 .lia
def aga:OpR X (binaryOp .Mult) (rI (λi j=>Bd i/\Bd j) λi j=>.int (i*j)):=opI λ_ _ _ _ _ _ _ hc q=>mul_int q (.of_bits hc.1.bits hc.2.bits)
def acB:OpR X (binaryOp .FloorDiv) (rI (λ_ j=>j≠0/\Bd j) λi j=>.int (i.fdiv j)):=opI λ_ _ _ _ _ _ _ hc q=>floordiv_int hc.1 q (.inl (PyProof.noPylong_of_log2 (by have:=hc.2.log2;exact Tk this wx)))
def V4:jo X (.builtin "isinstance") (λxs H Q=>∃x c cv t b,xs=[x,c]/\((∃T,c=.ty T/\cv=Value.type T)\/∃C,c=.ref C/\cv=Value.ref C)/\GD X.K H x t/\kitOne X.K t cv=some b/\Q (.bl b) H):=by
 intro aa s σ H xs us Q I r h;obtain⟨x,c,cv,t,b,rfl,rc,ty,e,q⟩:=h;obtain⟨u,v,rfl,ru,rv⟩:=r.two;have e2:v=cv:=by
  rcases rc with⟨T,rfl,rfl⟩|⟨T,rfl,rfl⟩
  .exact rv
  .exact rv
 subst e2;exact aaQ I ru ty e λtk=>⟨.bl b,H,I.tok _,rfl,q⟩
def V2:jo X (.builtin "sorted") (λxs H Q=>∃l ns,xs=[.ref l]/\SqL X.K H l (ns.map V.int)/\ns.length<64/\∀(ms:xz)p,H p=none->ms.Perm ns->ms.Pairwise (· <= ·)->Q (.ref p) (upd H p (.lst (ms.map V.int)))):=by
 intro aa s σ H xs us Q I r h;obtain⟨l,ns,rfl,hl,h64,q⟩:=h;obtain⟨u,rfl,ru⟩:=r.one;cases ru;obtain⟨its,rv,p,hz⟩:=I.list hl;have hI:=intsAre_of rv;have be:its.length=ns.length:=by have:=rv.length;simpa using this.symm
 refine sorted_ints (vs:=its) p.isList hI (Y3 (WJ be) h64) λout ns' a1 a2 a3=>?_;obtain⟨e,he⟩:=sortedAll_at s.heap its out;have kP:H (s.heap.objs.size+1)=none:=I.hok.fresh (Xs _);refine⟨.ref _,_,I.laid (a:=s.heap.objs.size+1) (o:=.lst (ns'.map V.int)) (t':=s.toks) (λb u e=>sortedAll_old e) (Xs _) ?_,rfl,q ns' _ kP a2 a3⟩;refine⟨?_,out.toList,e,Hj a1,he⟩;rw[ak,a2.length_eq];rw[ak]at hz;exact hz
theorem N_{it t:Addr}{items:xa}(eT:t≠it):∀(n i:Nat)(s:Shared)(Q:Θ->Shared->Prop),s.heap.IsListIter it t i->PlainL s.heap t items->i+n<=items.size ->
  (∀h',h'.IsListIter it t (i+n)->Heap.SameBut it s.heap h'->Q ((items.toList.drop i).take n) { s with heap:=h' })->wpAny (model prog w) A (draw (.ref it) n) Q E s
 |0,i,s,Q,hit,_,_,hQ=>by
  show wpAny _ _ (pure []) Q E s;exact ZT (by simpa using hQ s.heap hit (Heap.SameBut.refl ..))
 |n+1,i,s,Q,hit,ht,hle,hQ=>by
  have fh:i<items.size:=by lia
  show wpAny _ _ (pyNext (.ref it) >>= _) Q E s;refine ZU (wpAny_pyNext_list_item hit ht.isList (x:=items[i]) (by simp[fh]) λh₁ iq ki=>?_);have mr:PlainL h₁ t items:=by
   obtain⟨o,k,e,r⟩:=ht;exact⟨o,k,(ki.2 t eT).trans e,r⟩
  refine ZU (wpAny_holding (N_ eT n (i+1) _ _ iq mr wv λh₂ mN hs₂=>ZT ?_));have hd:items.toList.drop i=items[i]::items.toList.drop (i+1):=by simp[QQ,fh]
  have:=hQ h₂ (by rwa[show i+(n+1)=i+1+n by lia]) (ki.trans hs₂);rw[hd,List.take_succ_cons]at this;exact this
def Gj{t:Addr}{items:xa}{Q:Θ->Shared->Prop}(hh:A.handled=none)(ht:PlainL s.heap t items)
 (hQ:∀h',Heap.ExtBut s.heap.objs.size s.heap h'->Q items.toList { s with heap:=h' }):wpAny (model prog w) A (unpackItems (.ref t) items.size none) Q E s:=by
 have fh:t≠s.heap.objs.size:=by obtain⟨o,_,ho,_⟩:=ht;exact aQ (aK ho)
 unfold unpackItems;refine ZU ?_
 .unfold notIterableAtAll;refine ZU (wpAny_specialOf ht.isList.typeIs slot_list_iter.lookup ?_);refine ZT ?_;simp only[XW,if_false];refine ZU (wpAny_holding (wpAny_pyIter_list ht.isList ?_));have ht0:PlainL (s.heap.push { cls:=.type "list_iterator",data:=.fields #[.ref t,.int 0 0] }) t items:=by
   obtain⟨o,k,e,r⟩:=ht;exact⟨o,k,aH _ e,r⟩
  refine ZU (wpAny_holding (N_ fh items.size 0 _ _ ⟨_,aW _ rfl,rfl,rfl⟩ ht0 wv λh₁ iq ki=>?_));have hall:List.take items.size (List.drop 0 items.toList)=items.toList:=by
   rw[List.drop_zero];exact Zzy wf
  rw[hall];rw[ZZ wf];have mr:PlainL h₁ t items:=by
   obtain⟨o,k,e,r⟩:=ht0;exact⟨o,k,(ki.2 t fh).trans e,r⟩
  refine ZU (wpAny_holding (wpAny_pyNext_list_end hh iq mr.isList wf λh₂ he₂=>?_));simp only[Option.isSome_none,XW,if_false];refine ZT (hQ h₂ λb o hb e=>he₂ b o hb (ki.extBut b o hb (aH _ e)))
def Er{env:Env}{x1}{t:Addr}{items:xa}{Q:Unit->Shared->Prop}(hh:A.handled=none)(ht:PlainL s.heap t items)
 (hn:(assignEach aE env).length=items.size)(kl:(assignEach aE env).findIdx? (·.1)=none)
 (h:∀h',Heap.ExtBut s.heap.objs.size s.heap h'->wpAny (model prog w) A (assignInOrder ((assignEach aE env).map (·.2)) items.toList) Q E { s with heap:=h' }) :
  wpAny (model prog w) A (assign (.Tuple aE x1 pos) env (.ref t)) Q E s:=by
 rw[assign_Tuple];refine ZU (wpAny_standAt ?_);unfold unpack;rw[hn,kl];exact ZU (wpAny_holding (Gj hh ht h))
def anq(K:Frag)(n:Nat)(t:TGs):TG:=λv σ H Q=>∃a xs,v=.ref a/\SqL K H a xs/\xs.length=n/\t xs σ H Q
def afV{k:Nat}{t:TGs}{n:Nat}(hc:X.calm=true)(h:PGs X es t)
 (hn:(assignEach es X.env).length=n:=by rfl)(b8:zk X es:=by rfl):PG X (.Tuple es k pos) (anq X.K n t):=by
 intro aa s σ H v u Q I r hw;obtain⟨a,xs,e1,hq,hl,hw⟩:=hw;subst e1;cases r;obtain⟨its,rv,ht,hz⟩:=I.list hq;refine Er (I.ok.hd hc) ht (by simp[hn,<- hl,rv.length]) b8 λh' hx=>?_;have I1:Inv X aa σ H { s with heap:=h' }:=I.kept (t':=s.toks) λb o e=>hx b o (aQ (aK e)) e;exact h aa _ σ H xs _ Q I1 (by simpa using rv) hw
def Same.upd{H:Hp}{p:Addr}{o:HO}(hp:H p=none):Same H (upd H p o):=λb u e=>by
 rw[cB (ni e hp)];exact e
def IxR.imp{r r':R2}(h:IxR X r)(i:∀x y H Q,r' x y H Q->r x y H Q):IxR X r':=by
 intro b pos aa s σ H x y v u Q I rx ry q hs;exact h _ _ _ _ _ _ _ _ _ _ _ I rx ry (i _ _ _ _ q) hs
def jo.imp{f:Value}{r r':Ζ->Hp->VK->Prop}(h:jo X f r)(i:∀xs H Q,r' xs H Q->r xs H Q):jo X f r':=λaa s σ H xs us Q I rx q=>h aa s σ H xs us Q I rx (i _ _ _ q)
def tyS(H:Hp):V->Option String
 |.non=>some "NoneType"
 |.bl _=>some "bool"
 |.int _=>some "int"
 |.str _=>some "str"
 |.ref a=>match H a with
  |some (.lst _)=>some "list"
  |some (.tup _)=>some "tuple"
  |some (.dK _)=>some "dict"
  |_=>none
 |_=>none
def ajF{x:V}(h:tyS H x=some t):GD K H x (.type t):=by
 cases x with
 |non=>cases h;exact .non
 |bl=>cases h;exact .bl _
 |int=>cases h;exact .int _
 |str=>cases h;exact .str _
 |byt=>cases h
 |flt=>cases h
 |ty=>cases h
 |ref a =>
  have h:(match H a with
   |some (.lst _)=>some "list"
   |some (.tup _)=>some "tuple"
   |some (.dK _)=>some "dict"
   |_=>none)=some t:=h
  split at h
  .cases h;exact .lst (by assumption)
  .cases h;exact .tup (by assumption)
  .cases h;exact .dK (by assumption)
  .cases h
def Qw(t T:String):Bool:=(t==T) || (t=="bool" && T=="int")
def Za{T:String}(ht:t∈["NoneType","bool","int","str","list","tuple","dict"])(hT:T∈["bool","int","str","list","tuple","dict"]):kitOne K (.type t) (.type T)=some (Qw t T):=by
 simp only[YU,VY,or_false]at ht hT;rcases ht with rfl|rfl|rfl|rfl|rfl|rfl|rfl<;>rcases hT with rfl|rfl|rfl|rfl|rfl|rfl<;>with_unfolding_all rfl
def ahx{x:V}(h:tyS H x=some t):t∈["NoneType","bool","int","str","list","tuple","dict"]:=by
 cases x with
 |non=>cases h;decide
 |bl=>cases h;decide
 |int=>cases h;decide
 |str=>cases h;decide
 |byt=>cases h
 |flt=>cases h
 |ty=>cases h
 |ref a =>
  have h:(match H a with
   |some (.lst _)=>some "list"
   |some (.tup _)=>some "tuple"
   |some (.dK _)=>some "dict"
   |_=>none)=some t:=h
  split at h<;>cases h<;>decide
def ao9:Ζ->Hp->VK->Prop:=λxs H Q=>∃x T t,xs=[x,.ty T]/\T∈["bool","int","str","list","tuple","dict"]/\tyS H x=some t/\Q (.bl (Qw t T)) H
def zc:jo X (.builtin "isinstance") ao9:=V4.imp λxs H Q hP=>by obtain⟨x,T,t,a,b,c,d⟩:=hP;exact⟨x,.ty T,.type T,.type t,_,a,.inl ⟨T,rfl,rfl⟩,ajF c,Za (ahx c) b,d⟩
def PG.imp{t t':TG}(h:PG X e t)(i:∀v σ H Q,t' v σ H Q->t v σ H Q):PG X e t':=λaa s σ H v u Q I r q=>h aa s σ H v u Q I r (i _ _ _ _ q)
def alE:Ζ->Hp->VK->Prop:=λxs H Q=>∃l ns,xs=[.ref l]/\H l=some (.lst (ns.map V.int))/\ns.length<64/\∀(ms:xz)p,H p=none->ms.Perm ns->ms.Pairwise (· <= ·)->Q (.ref p) (upd H p (.lst (ms.map V.int)))
def aaV:jo X (.builtin "sorted") alE:=V2.imp λxs H Q hP=>by obtain⟨l,ns,a,b,c⟩:=hP;exact⟨l,ns,a,.of b,c⟩
def OkF(P:Program)(w:World)(K:Frag)(mg:Str->Ω)(base:Heap)(k:Nat)(x:Str)(ps:Φ)(sp:Sp):Prop :=
 ∃f fd,gY P w K mg base CX0 k f fd ps sp/\Binds K fd ps []/\mg x=some (.ref f)/\keepIn K (.ref f)=true
def cC(K:Frag)(mg:Str->Ω)(x:Str)(st:Stmt)(ps:Φ):Prop :=
 ∃f fd,Fun K x x st f fd/\(∀us:Θ,us.length=ps.length->bindArgs fd ⟨us,[]⟩=pure (ps.zip us))/\mg x=some (.ref f)
def cC.ok{k:Nat}(h:cC K mg x st ps)
 (hf:∀f fd,Fun K x x st f fd->gY P w K mg base CX0 k f fd ps sp):OkF P w K mg base k x ps sp:=by
 obtain⟨f,fd,a,b,c⟩:=h;exact⟨f,fd,hf f fd a,.all b,c,a.kp⟩
def aeL{od an:Ξ}{kV bz pm ag ct:Value}(X:K.In h)(G:h.Ns mainGlobals mg)
 (a:nsIn K mainGlobals x=some (some (.ref f)))(l:K.lookup f=some ⟨oc,od,.func (PySem.W.fnOf x x (jE st) (gk st) (bH st) .none kV bz pm an ag ct),eP⟩)
 (c:codeIn K ag x=true)(k:keepIn K (.ref f)=true)
 (hb:∀(kV bz pm:Value)(an:Ξ)(ag ct:Value)(us:Θ),us.length=ps.length->bindArgs (PySem.W.fnOf x x (jE st) (gk st) (bH st) .none kV bz pm an ag ct) ⟨us,[]⟩=pure (ps.zip us)):cC K mg x st ps :=
 ⟨f,_,abR l c k,hb kV bz pm an ag ct,mg_of X G a⟩
def Zh(K:Frag):Sp:=λvs H Q _=>∃(a:Addr)(ns:xz),vs=[.ref a]/\SqL K H a (ns.map V.int)/\ns.length<=63/\Only H/\∀H',Q (.bl true) H'
def anp{l:PySem.W.OpenLaw}{k:Nat}{q:Program}{loose:Φ}{XP:(Str->Ω)->Heap->Prop}{YP:World->Heap->Prop}{d:DefRec}{K:Params->Frag}(hn:l.most=some 63)(ky:d.params.defaults=[])
 (hr:eY k callerA)(hY:∀(w:World)(h:Heap),YP w h->(K w.params).In h)
 (F:∀(w:World)(mg:Str->Ω)(fa:Addr)(h:Heap),(K w.params).In h->h.Ns mainGlobals mg->mg d.name=some (.ref fa) ->
   ∃st,cC (K w.params) mg d.name st [x]/\∀(base:Heap)(f:Addr)(fd:FuncData),Fun (K w.params) d.name d.name st f fd->gY l.prog w (K w.params) mg base CX0 k f fd [x] (Zh (K w.params))) :
  PySem.W.WalkO q loose XP YP l.row.toRowW d [] (λf vs=>PySem.call f vs):=by
 refine L2.Y8 (n:=63) (k:=k) (x:=x) (CX:=λ_=>CX0) (sp:=λw=>Zh (K w.params)) hn wx ky hr hY (λw mg fa h KX G gc=>?_) (λ_ _ a ns hl hO hS=>⟨a,ns,rfl,hS,hl,hO,λ_=>rfl⟩) λ_ _ _ _ _ z=>z;obtain⟨st,⟨f,fd,hf,hb,hm⟩,ok⟩:=F w mg fa h KX G gc;rw[hm]at gc;have e:f=fa:=by injection gc with z;injection z
 subst e;exact⟨fd,λs u=>.of_eq (hb [u] rfl),λbase _ _=>ok base f fd hf⟩
section
variable{X:Cx}{p pos:Pos}{e:Expr}{es:zt}{t:TA}{x:Str}{k:Nat}{ps:Φ}{sp:Sp}
def Yt(sp:Sp)(t:TA):TE:=λσ H Q=>t σ H λvs H1=>sp vs H1 Q E0
def Ls(G:OkF X.prog X.w X.K X.mg X.base k x ps sp)(hr:eY k X.A)(hg:Gl X x)(ha:PA X (e::es) t)(cf:qk x:=by decide)
 (he:qo X e es:=by rfl)(br:qh X pos es:=by rfl):PE X (.Call (.Name x p) (e::es) [] pos) (Yt sp t):=by
 obtain⟨f,fd,F,b,hm,kp⟩:=G;intro aa s σ H Q I h;refine agg F hr hg hm kp b .nil OD ha cf he br aa s σ H Q I ?_;show t σ H λvs H1=>sp (vs++[]) H1 Q E0;simp only[List.append_nil];exact h
end
def ahR(a:Int):(if a<0 then -a else a)=((a.natAbs:Nat):Int):=by split<;>omega
def uM(a:Int){b:Int}(h:0<b):Int.fdiv a b=a/b:=Int.fdiv_eq_ediv_of_nonneg a (XY h)
def TrD(h base:Heap)(e:Addr)(cls:Value)(d:Ξ)(fl:Value):Prop :=
 ∃oe vs T oT ts,h.get? e=some oe/\(oe.cls=cls/\oe.dict=d)/\oe.data=.fields vs/\vs[1]?=some (.ref T)/\base.get? T=none/\T≠e/\h.get? T=some oT/\oT.data=.fields ts/\ts[3]?=some fl
def apl(base:Heap)(l:xt)(e:Addr)(cls:Value)(d:Ξ)(fl:Value)(h:Heap):Prop :=
 base.StaysIn h/\base.get? e=none/\h.FunFrames base l/\TrD h base e cls d fl
structure Fly(P:Program)(w:World)(l:xt)(H:Hp)(s:Shared)(a:Addr)(C:Value)(H':Hp)(s':Shared)(B:Heap)(d:Ξ):Prop where
 os:s'.os=s.os
 bare:AllBare s'.gens
 new:s.heap.get? a=none
 un:Un (frs l) [] H H' s.heap s'.heap
 hok:HOk P w H' s'.heap
 frf:∀b∈frs l,H' b=none
 fl:apl B l a C d .none s'.heap
 cov:∀b o,s'.heap.get? b=some o->b∉frs l->((∃u,s.heap.get? b=some u)\/∃u,H' b=some u)->B.get? b=some o
abbrev bmV:Θ:=[.type "ValueError",.type "Exception",.type "BaseException",.type "object"]
def aqt(K:Frag)(C:Addr):Prop:=excIn K C bmV "ValueError.__new__"=true
def XO(a C:Addr)(d:Ξ):HO:=.ext λh=>∃o,h.get? a=some o/\o.cls=.ref C/\o.dict=d/\∃vs,o.data=.fields vs
def vf(cells:xk):xF->xk->xk
 |[],acc=>acc
 |(n,k)::r,acc=>vf cells r (if k == .free then(n,(cells.lookup n).getD 0)::acc else acc)
def Xg{env:Env}(h:∀y∈scope.names,y.2=.free->∃c,env.cells.lookup y.1=some c):closureFor scope env=pure (vf env.cells scope.names []):=by
 unfold closureFor;have go:∀(l:xF)(acc:xk),(∀y∈l,y.2=.free->∃c,env.cells.lookup y.1=some c) ->
   (forIn l acc (λ(x:Str×NameKind)(r:xk)=>if(x.2==NameKind.free)=true then(do let a <- cellOf env x.1;pure (ForInStep.yield ((x.1,a)::r)))else pure (ForInStep.yield r)):Sem (xk))=pure (vf env.cells l acc):=by
  intro l
  induction l with
  |nil=>intro acc _;rfl
  |cons y r ih =>
   intro acc hy;obtain⟨n,k⟩:=y;rw[List.forIn_cons];by_cases hk:k=.free
   .subst hk;obtain⟨c,hc⟩:=hy (n,.free) aO rfl;have e1:cellOf env n=pure c:=by unfold cellOf;rw[show env.cells.lookup n=some c from hc]
    simp only[beq_self_eq_true,if_true,e1,pure_bind];rw[ih _ λz hz=>hy z (aJ _ hz)];show pure _=pure (vf env.cells r (if(NameKind.free==NameKind.free)=true then(n,(env.cells.lookup n).getD 0)::acc else acc));rw[show env.cells.lookup n=some c from hc]
    rfl
   .have hb:(k==NameKind.free)=false:=by simpa using hk
    simp only[hb,XW,if_false,pure_bind];rw[ih _ λz hz=>hy z (aJ _ hz)];show pure _=pure (vf env.cells r (if(k==NameKind.free)=true then(n,(env.cells.lookup n).getD 0)::acc else acc));rw[hb]
    rfl
 have e:=go scope.names [] h;show(forIn scope.names [] (λ(x:Str×NameKind)(r:xk)=>if(x.2==NameKind.free)=true then(do let a <- cellOf env x.1;pure (ForInStep.yield ((x.1,a)::r)))else pure (ForInStep.yield r)):Sem (xk)) >>= (λcs=>pure cs)=_;rw[e]
 rfl
theorem V8{cells:xk} : ∀{names:xF}{acc:xk}{x:Str}{c:Addr},(∀y∈names,y.2=.free->∃c,cells.lookup y.1=some c)->(x,c)∈vf cells names acc->(x,c)∈acc\/cells.lookup x=some c
 |[],_,_,_,_,h=>.inl h
 |(n,k)::r,acc,x,c,hf,h=>by
  unfold vf at h;rcases V8 (λy hy=>hf y (aJ _ hy)) h with z|z
  .by_cases hk:k=.free
   .subst hk;simp only[beq_self_eq_true,if_true]at z;rcases YU.mp z with e|e
    .obtain⟨c',df⟩:=hf (n,.free) aO rfl;cases e;rw[show cells.lookup n=some c' from df];exact .inr rfl
    .exact .inl e
   .have hb:(k==NameKind.free)=false:=by simpa using hk
    simp only[hb,XW,if_false]at z;exact .inl z
  .exact .inr z
theorem Wk{cells:xk} : ∀{names:xF}{acc:xk}{x:Str},((x,NameKind.free)∈names\/∃c,(x,c)∈acc)->∃c,(x,c)∈vf cells names acc
 |[],_,_,h=>by
  rcases h with h|h
  .cases h
  .exact h
 |(n,k)::r,acc,x,h=>by
  unfold vf;refine Wk ?_;rcases h with h|⟨c,h⟩
  .rcases YU.mp h with e|e
   .cases e;exact .inr ⟨_,by simp only[beq_self_eq_true,if_true];exact aO⟩
   .exact .inl e
  .refine .inr ⟨c,?_⟩;split
   .exact aJ _ h
   .exact h
theorem rA{α:Type}{x:Str}{c:α} : ∀{l:List (Str×α)},(x,c)∈l->∃c',l.lookup x=some c'
 |(y,d)::r,h=>by
  rw[List.lookup_cons];cases hb:x==y with
  |true=>exact⟨d,rfl⟩
  |false =>
   rcases YU.mp h with e|e
   .cases e;simp at hb
   .exact rA e
def Cx.comp(X:Cx)(N':Φ)(scope:Scope)(x:Str)(C:Addr)(s₀:Shared)(H₀:Hp)(ex:Ψ)(pn:Δ):Cx :=
 { X with env:=compEnvC scope (vf X.env.cells scope.names []) C X.env,N:=x::N',s₀:=s₀,H₀:=H₀,outer:=X.stack,ex:=ex,fn:=λ_=>false,pn:=pn,xe:=λ_ _=>False }
def Inv.nostk'(I:Inv X aa σ H s)(h1:b≠X.env.locals)(h2:b∉X.fs):b∉frs X.stack:=λz=>by
 rcases YU.mp (I.stkSub b z)with e|e
 .exact h1 e
 .exact h2 e
theorem Ey{env:Env} : ∀{names:xF}{y:Str},(names.map λ(n,k)=>if(k==NameKind.free&&env.scope.kind == .function&&env.kindOf n==some .cell)then(n,NameKind.cell)else(n,k)).lookup y=some .cell \/
  (names.map λ(n,k)=>if(k==NameKind.free&&env.scope.kind == .function&&env.kindOf n==some .cell)then(n,NameKind.cell)else(n,k)).lookup y=some .free->(∀z∈names,z.2≠.cell)->(y,NameKind.free)∈names
 |[],y,h,_=>by rcases h with h|h<;>cases h
 |(n,k)::r,y,h,hc=>by
  have ih:=@Ey env r y;simp only[List.map_cons]at h;by_cases hcond:(k==NameKind.free&&env.scope.kind == .function&&env.kindOf n==some .cell)=true
  .rw[ZY hcond]at h;simp only[List.lookup_cons]at h;cases hb:y==n with
   |true =>
    have hk:k=.free:=by
     simp only[QP,beq_iff_eq]at hcond;exact hcond.1.1
    have:y=n:=by simpa using hb
    subst this hk;exact aO
   |false =>
    rw[hb]at h;exact aJ _ (ih h λz hz=>hc z (aJ _ hz))
  .rw[ZZ hcond]at h;simp only[List.lookup_cons]at h;cases hb:y==n with
   |true =>
    rw[hb]at h;have:y=n:=by simpa using hb
    subst this;rcases h with h|h
    .exact absurd (Option.some.inj h) (hc (y,k) aO)
    .have:k=.free:=Option.some.inj h;subst this;exact aO
   |false =>
    rw[hb]at h;exact aJ _ (ih h λz hz=>hc z (aJ _ hz))
def eqF:Ζ->Ζ->Bool
 |[],[]=>true
 |x::xs,y::ys=>eqV x y&&eqF xs ys
 |_,_=>false
def eqH(H:Hp)(x y:V):Option Bool :=
 match x,y with
 |.ref a,.ref b=>match H a,H b with
  |some (.tup xs),some (.tup ys)=>if xs.all Oi&&ys.all Oi then some (eqF xs ys)else none
  |some (.lst xs),some (.lst ys)=>if xs.all Oi&&ys.all Oi then some (eqF xs ys)else none
  |some (.lst _),some (.tup _)=>some false
  |some (.tup _),some (.lst _)=>some false
  |_,_=>none
 |.ref a,y=>if Oi y then(match H a with
  |some (.tup _)=>some false
  |some (.lst _)=>some false
  |_=>none)else none
 |x,.ref b=>if Oi x then(match H b with
  |some (.tup _)=>some false
  |some (.lst _)=>some false
  |_=>none)else none
 |x,y=>if abB x y then some (decide (x=y))else none
def Inv.tupIs(I:Inv X aa σ H s)(h:H a=some (.tup xs)):∃its,Vals xs its/\IsTup s.heap a its.toArray/\s.heap.IsTuple a its.toArray:=by
 obtain⟨its,rv,ht,_⟩:=I.tuple (SqT.of h);exact⟨its,rv,ht,ht⟩
def Inv.lstIs(I:Inv X aa σ H s)(h:H a=some (.lst xs)):∃its,Vals xs its/\s.heap.IsList a its.toArray:=by
 obtain⟨its,rv,ht,_⟩:=I.list (SqL.of h);exact⟨its,rv,ht.isList⟩
open PySem.SeqAt in
mutual
inductive Shows(H:Hp):V->PyData->Prop
 |non:Shows H .non .none
 |bl (b:Bool):Shows H (.bl b) (.bool b)
 |int (i:Int):Shows H (.int i) (.int i)
 |str (x:Str):Shows H (.str x) (.str x)
 |lst {a:Addr}{xs:Ζ}{ds:xy} : H a=some (.lst xs)->fQ H xs ds->Shows H (.ref a) (.list ds)
 |tup {a:Addr}{xs:Ζ}{ds:xy} : H a=some (.tup xs)->fQ H xs ds->Shows H (.ref a) (.tuple ds)
inductive fQ(H:Hp):Ζ->xy->Prop
 |nil:fQ H [] []
 |cons {x:V}{xs:Ζ}{d:PyData}{ds:xy} : Shows H x d->fQ H xs ds->fQ H (x::xs) (d::ds)
end
mutual
theorem Shows.same{H H':Hp}(S:Same H H'):∀{x:V}{d:PyData},Shows H x d->Shows H' x d
 |_,_,.non=>.non
 |_,_,.bl b=>.bl b
 |_,_,.int i=>.int i
 |_,_,.str x=>.str x
 |_,_,.lst e h=>.lst (S _ _ e) (fQ.same S h)
 |_,_,.tup e h=>.tup (S _ _ e) (fQ.same S h)
theorem fQ.same{H H':Hp}(S:Same H H'):∀{xs:Ζ}{ds:xy},fQ H xs ds->fQ H' xs ds
 |_,_,.nil=>.nil
 |_,_,.cons h t=>.cons (Shows.same S h) (fQ.same S t)
end
theorem fQ.ints(H:Hp):∀ns:xz,fQ H (ns.map V.int) (ns.map PyData.int)
 |[]=>.nil
 |n::ns=>.cons (.int n) (fQ.ints H ns)
mutual
theorem Inv.reads(I:Inv X aa σ H s):∀{x:V}{d:PyData}{v:Value},Shows H x d->RelV x v->∃as,Reads s.heap v d as
 |_,_,_,.non,r=>by cases r;exact⟨_,.none⟩
 |_,_,_,.bl b,r=>by cases r;exact⟨_,.bool b⟩
 |_,_,_,.int i,r=>by obtain⟨t,rfl⟩:=r;exact⟨_,.int i t⟩
 |_,_,_,.str x,r=>by obtain⟨t,rfl⟩:=r;exact⟨_,.str x t⟩
 |_,_,_,.lst e h,r=>by
  cases r;obtain⟨its,rv,⟨o,ho,hc,n,hd⟩⟩:=I.lstIs e;obtain⟨as,q⟩:=Inv.readsAll I h rv;exact⟨_,.list ho hc hd q⟩
 |_,_,_,.tup e h,r=>by
  cases r;obtain⟨its,rv,_,⟨o,ho,hc,n,hd⟩⟩:=I.tupIs e;obtain⟨as,q⟩:=Inv.readsAll I h rv;exact⟨_,.tuple ho hc hd q⟩
theorem Inv.readsAll(I:Inv X aa σ H s):∀{xs:Ζ}{ds:xy}{vs:Θ},fQ H xs ds->Vals xs vs->∃as,ReadsAll s.heap vs ds as
 |_,_,_,.nil,r=>by cases r;exact⟨_,.nil⟩
 |_,_,_,.cons h t,r=>by
  cases r with
  |cons r1 r2 =>
   obtain⟨a,q1⟩:=Inv.reads I h r1;obtain⟨b,q2⟩:=Inv.readsAll I t r2;exact⟨_,.cons q1 q2⟩
end
def anC:Ζ->Hp->VK->Prop:=λxs H Q=>∃(l:Addr)(ns:xz),xs=[.ref l]/\H l=some (.lst (ns.map V.int))/\Q (.int ns.sum) H
def aal(hc:X.calm=true):jo X (.builtin "sum") anC:=by
 intro aa s σ H xs us Q I r h;obtain⟨l,ns,rfl,hl,q⟩:=h;obtain⟨u,rfl,ru⟩:=r.one;cases ru;obtain⟨its,rv,p⟩:=I.lstIs hl;have hI:=intsAre_of rv;obtain⟨xs,e⟩:=hI.allInts.items;have hn:=hI.numsOf;rw[show its=its.toArray.toList from rfl,e,nums_intItems]at hn;rw[e]at p;refine sum_intListG (I.ok.hd hc) p λh' tk t' k=>⟨.int ns.sum,H,I.kept k,?_,q⟩;rw[preSum_eq,Zzy wf,hn];exact⟨_,rfl⟩
def tM(t:TE):TE:=λσ H Q=>∃R:VK,t σ H R/\∀x H',R x H'->Q x H'
def tMA(t:TA):TA:=λσ H Q=>∃R:Ζ->Hp->Prop,t σ H R/\∀x H',R x H'->Q x H'
def PE.mono{a:Expr}{t:TE}(h:PE X a t):PE X a (tM t):=λaa s σ H Q I ⟨R,h1,h2⟩ =>
 thn (h aa s σ H R I h1) λv s' hP=>by obtain⟨x,H',I',r,q⟩:=hP;exact⟨x,H',I',r,h2 x H' q⟩
variable{t:TA}{ah af:Pos}{tg l aS iter:Expr}{tl te:TE}{v y:V}{tc:TT}{wi:TI}{ext:Addr->xk}{fn:Str->Bool}{ay:zt}{gt:TG}{o:xC}{u:Value}{kvs:xi}
def PA.mono(h:PA X es t):PA X es (tMA t):=λpos aa s σ H Q I ⟨R,h1,h2⟩ =>
 thn (h pos aa s σ H R I h1) λv s' hP=>by obtain⟨x,H',I',r,q⟩:=hP;exact⟨x,H',I',r,h2 x H' q⟩
def PE.imp{a:Expr}{t t':TE}(h:PE X a t)(i:∀σ H Q,t' σ H Q->t σ H Q):PE X a t':=λaa s σ H Q I q=>h aa s σ H Q I (i σ H Q q)
def apB(to:TE)(t:TA):TE:=λσ H Q=>to σ H λx H1=>∃l xs,x=.ref l/\H1 l=some (.lst xs)/\t σ H1 λvs H2=>∃y ys,vs=[y]/\H2 l=some (.lst ys)/\ys.length<sizeLine/\Q .non (upd H2 l (.lst (ys++[y])))
abbrev qr(X:Cx)(a:Pos)(e:Expr):Prop:=((backTo a (starEach [e] X.env)).all (λx=>!x.1)&&(backToKw a (keywordEach [] X.env)).all (λx=>x.1.isSome)&&decide ([e].length+([] : xL).length+(if([] : xL).isEmpty then 0 else 1)<30))=true
def acu{o:Expr}{to:TE}(ho:PE X o to)(ha:PA X [e] t)(hb:attributeBase o "append" X.env (eval o X.env)=eval o X.env:=by rfl)
 (hf:qr X af e:=by rfl)
 (hl:zz ah af:=by rfl)(hs:qo X e []:=by rfl)(hp:qh X af []:=by rfl) :
  PE X (.Call (.Attribute o "append" ah) [e] [] af) (apB to t):=by
 refine(Zm PySem.F.plainAttrs_list PySem.F.slot_list_append PySem.F.type_list_append Ov ho.mono ha.mono hb hf hl hs hp).imp λσ H Q h=>?_;refine⟨_,h,?_⟩;rintro x H1 ⟨l,xs,rfl,hx,h2⟩;refine⟨.inl ⟨rfl,_,SqL.of hx⟩,_,h2,?_⟩;rintro vs H2 ⟨y,ys,rfl,hy,hz,q⟩;exact⟨l,ys,y,rfl,rfl,hy,hz,q⟩
def ahT:Ζ->Hp->VK->Prop:=λxs H Q=>∃p ys,xs=[.ref p]/\H p=some (.lst ys)/\∀l,H l=none->Q (.ref l) (upd H l (.lst ys))
def X6:jo X (.type "list") ahT:=QV.imp λxs H Q hP=>by obtain⟨p,ys,a,b,c⟩:=hP;exact⟨p,ys,a,.inl (.of b),c⟩
mutual
theorem WL:∀ns:xz,PyData.canLayAll0 (ns.map PyData.int)=true
 |[]=>rfl
 |n::ns=>by
  rw[List.map_cons];unfold PyData.canLayAll0;rw[WL ns];rfl
end
def frD(f:Β):PyData:=.tuple [.int f.1,.int f.2]
inductive FL(H:Hp):Ζ->Γ->Prop
 |nil:FL H [] []
 |cons {p:Addr}{f:Β}{xs:Ζ}{fs:Γ} : H p=some (.tup [.int f.1,.int f.2])->FL H xs fs->FL H (.ref p::xs) (f::fs)
def Its(x:Str):It:=⟨λi _=>i<x.cps.size,λi H v H'=>H'=H/\∃c,x.cps[i]?=some c/\v=.str ⟨#[c]⟩,λi _=>i=x.cps.size⟩
def U5(it:Addr)(x:Str)(t:Tok)(ty:String)(kf : ["enumerate","zip","dict_itemiterator","dict_reverseitemiterator","odict_iterator","itertools.zip_longest","itertools.pairwise"].contains ty=false)
 (W:∀A:Around,A.handled=none->Walks P w A it [it] [it] x.cps.size (SignAt x) (λi h=>h.IsStrIter it ty x t i))
 (kn:∀(A:Around)(i:Nat)(s:Shared)(Q:Ε)(E:Ε),s.heap.IsStrIter it ty x t i->Q (.ref it) s->wpAny (model P w) A (pyIter (.ref it)) Q E s):Turn P w K tg (Its x) [it] it (λi h=>h.IsStrIter it ty x t i) where
 mem:=by simp
 obj:=λi h st b hb=>by
  have e:b=it:=by simpa using hb
  subst e;obtain⟨o,ho,_,hd⟩:=st;exact⟨o,ho,λv z=>by rw[hd]at z;cases z⟩
 keep:=λi h h' st k=>let⟨o,ho,r⟩:=st;⟨o,k it wf o ho,r⟩
 item:=by
  intro X hP hw hK hc i aa s σ H E I hf st hg;subst hP hw hK;obtain⟨f0,f1,f2,f3,f4,f5⟩:=hf it wf;refine(W X.A (I.ok.hd hc)).item i s _ _ hg st λv h' tk hv eB kk=>?_;obtain⟨c,u,hx,rfl⟩:=hv;have I1:Inv X aa σ H { s with heap:=h',toks:=tk }:=I.turned (λb o hb e=>kk b o (by simpa using hb) e) f0 f1 f3 f4 f5;obtain⟨o,ho,ir,hd⟩:=id eB;exact⟨_,rfl,ZJ (s:={ s with heap:=h',toks:=tk }) ho ir hd kf ⟨.str ⟨#[c]⟩,H,I1,⟨u,rfl⟩,⟨rfl,c,hx,rfl⟩,eB,λb hb=>(hf b hb).1⟩⟩
 done:=by
  intro X hP hw hK hc i aa s σ H E I hf st hg;subst hP hw hK;obtain⟨f0,f1,f2,f3,f4,f5⟩:=hf it wf;have mS:i=x.cps.size:=hg;subst mS;exact(W X.A (I.ok.hd hc)).done s _ _ st λh' tk kk=>⟨rfl,I.turned (λb o hb e=>kk b o (by simpa using hb) e) f0 f1 f3 f4 f5⟩
 self:=kn
def aqi(te:TE):TI:=λσ H R=>te σ H λv H1=>∃x,v=.str x/\R (Its x) H1
def aik(hl:PE X l tl):PI X tg l (aqi tl):=by
 intro aa s σ H R I h;refine thn (hl aa s σ H _ I h) λv s1 hP=>?_;obtain⟨x,H1,I1,r1,y,ey,q⟩:=hP;subst ey;obtain⟨t,rfl⟩:=r1;have fp:∀b∈[s1.heap.objs.size],Ig X aa H1 b:=λb hb=>by
  have e:b=s1.heap.objs.size:=by simpa using hb
  subst e;exact I1.fpOk (aG _) (I1.hok.fresh (aG _))
 have k:∀o:Obj,Inv X aa σ H1 { s1 with heap:=s1.heap.push o }:=λo=>I1.kept (t':=s1.toks) λb ob z=>aH _ z;cases ha:y.cps.all (· < 128)
 .exact wpAny_pyIter_wide ha ⟨s1.heap.objs.size,[s1.heap.objs.size],_,Its y,H1,rfl,k _,U5 _ y t "str_iterator" wx (λA hA=>Walks.strWide hA _ y t) (λA i s Q E st h=>wpAny_pyIter_striter_wide st h),⟨_,aW _ rfl,rfl,rfl⟩,fp,q⟩
 .exact wpAny_pyIter_ascii ha ⟨s1.heap.objs.size,[s1.heap.objs.size],_,Its y,H1,rfl,k _,U5 _ y t "str_ascii_iterator" wx (λA hA=>Walks.strAscii hA _ y t) (λA i s Q E st h=>wpAny_pyIter_striter_ascii st h),⟨_,aW _ rfl,rfl,rfl⟩,fp,q⟩
def HY(x:Str)(lo hi:zI):Str:=⟨((x.cps.toList.drop (HT.sIx x.length 0 lo)).take (HT.sIx x.length x.length hi-HT.sIx x.length 0 lo)).toArray⟩
def strIdx(lo hi:zI)(n:Nat):Builtin.Str.strSliceIndices lo hi 1 n=(List.range (HT.sIx n n hi-HT.sIx n 0 lo)).map (HT.sIx n 0 lo + ·):=by
 rw[<- sliceRange_one];unfold Builtin.Str.strSliceIndices;have h1:∀(o:zI)(d:Nat),d<=n->(match o with
   |none=>(d:Int)
   |some i=>(let i:=if i<0 then i+(n:Int)else i;if(1:Int)>0 then max 0 (min i n)else max (-1) (min i (n-1))))=((HT.sIx n d o:Nat):Int):=by
  intro o d hd;cases o with
  |none=>rfl
  |some i =>
   simp only[HT.sIx,show(1:Int)>0 by decide,if_true];by_cases h:i<0
   .simp only[h,if_true]<;>lia
   .simp only[h,if_false]<;>lia
 have e1:=h1 lo 0 (aZ _);have e2:=h1 hi n (aG _);simp only[show(1:Int)>0 by decide,if_true]at e1 e2 ⊢;rw[<- e1,<- e2]
 rfl
def aex(x:Str)(lo hi:zI):(⟨((Builtin.Str.strSliceIndices lo hi 1 x.length).filterMap (x.cps[·]?)).toArray⟩ : Str)=HY x lo hi:=by
 rw[strIdx,pick_run];rfl
def Yv(x:Str)(lo hi:zI)(h:(Builtin.Str.strSliceIndices lo hi 1 x.length).length=x.length):HY x lo hi=x:=by
 rw[strIdx,ak,WP]at h;have h2:=HT.aie x.length x.length (aG _) hi;unfold HY;have hx:x.length=x.cps.size:=rfl;have e:x.cps.toList.length=x.length:=by simp[hx]
 by_cases z:x.length=0
 .have:x.cps.toList=[]:=List.length_eq_zero_iff.mp (Eq.trans e z);rw[this];obtain⟨⟨l⟩⟩:=x;simp at this;subst this;simp
 .have e0:HT.sIx x.length 0 lo=0:=by lia
  rw[e0,List.drop_zero,Zzy wv]
def aqk:V->zI->zI->Hp->VK->Prop:=λx lo hi H Q=>∃y,x=.str y/\y.length<=sizeLine/\Q (.str (HY y lo hi)) H
def part_of{v:Value}{o:zI}(h:IsPart v o):∃l:Option (Int×Tok),v=partValue l/\l.map (·.1)=o:=by
 cases h with
 |none=>exact⟨none,rfl,rfl⟩
 |int i t=>exact⟨some (i,t),rfl,rfl⟩
def ahw{X:Cx} : SlR X aqk:=by
 intro aa s σ H x v vl vu lo hi sl Q I rx hs pl pu h;obtain⟨y,rfl,hz,q⟩:=h;obtain⟨t,rfl⟩:=rx;obtain⟨l,rfl,el⟩:=part_of pl;obtain⟨u,rfl,eu⟩:=part_of pu;refine⟨"str",_,F.slot_str_getitem.lookup,typeIs_str s y t,wpAny_getItem_str_slice (l:=l) (u:=u) (st:=none) hs rfl ?_⟩;unfold sliceMade slicePicked;rw[el,eu];split
 .rename_i hw
  have dr:=(Bool.and_eq_true_iff.mp hw).2;rw[beq_iff_eq]at dr;have e:=Yv y lo hi dr;rw[e]at q;exact⟨.str y,H,I,⟨t,rfl⟩,q⟩
 .have e:=aex y lo hi;refine⟨?_,.str (HY y lo hi),H,I.tok _,⟨s.toks,?_⟩,q⟩
  .refine aL ?_ hz;refine aL (WJ (ZH Str.length e)) ?_;show((y.cps.toList.drop _).take _).toArray.size<=y.cps.size;rw[aX,aY,Ts,Array.length_toList];lia
  .rw[<- e];rfl
def ajT:R2:=λx y H Q=>∃i j,x=.str i/\y=.str j/\i.length+j.length<=sizeLine/\Q (.str (i++j)) H
def af6:OpR X (binaryOp .Add) ajT:=Yl
def apy:R2:=λx y H Q=>∃i j,x=.str i/\y=.str j/\Q (.bl (!decide (j.cps.toList<i.cps.toList))) H
def ahH:OpR X (compareOp .LtE) apy:=by
 intro aa s σ H x y v u Q I rx ry h;obtain⟨i,j,rfl,rfl,q⟩:=h;obtain⟨t,rfl⟩:=rx;obtain⟨t',rfl⟩:=ry;exact PySem.P.le_str (dG I q rfl)
def OpR.imp{f:Value->Value->Sem Value}{r r':R2}(h:OpR X f r)(i:∀x y H Q,r' x y H Q->r x y H Q):OpR X f r':=λaa s σ H x y v u Q I rx ry q=>h aa s σ H x y v u Q I rx ry (i _ _ _ _ q)
theorem Gv:∀{bs:zi}{us:Θ},Vals (bs.map V.bl) us->∀(i:Nat)(v:Value),us[i]?=some v->∃b,bs[i]?=some b/\v=.bool b
 |[],_,.nil,i,v,h=>by cases i<;>cases h
 |b::bs,_,.cons r t,0,v,h=>by
  rw[List.getElem?_cons_zero]at h;cases h;exact⟨b,rfl,r⟩
 |b::bs,_,.cons r t,i+1,v,h=>by
  rw[List.getElem?_cons_succ]at h;exact Gv t i v h
def aml:Ζ->Hp->VK->Prop:=λxs H Q=>∃(l:Addr)(bs:zi),xs=[.ref l]/\H l=some (.lst (bs.map V.bl))/\Q (.bl (bs.all id)) H
theorem w5:∀bs:zi,((List.range bs.length).all λi=>(bs[i]?).getD true)=bs.all id
 |[]=>rfl
 |b::bs=>by
  rw[List.length_cons,List.range_succ_eq_map,List.all_cons,List.all_map,List.all_cons];have:=w5 bs;simp only[Function.comp_def,List.getElem?_cons_succ,List.getElem?_cons_zero,Q1,id]at this ⊢;rw[this]
def aas(hc:X.calm=true):jo X (.builtin "all") aml:=by
 intro aa s σ H xs us Q I r h;obtain⟨l,bs,rfl,hl,q⟩:=h;obtain⟨u,rfl,ru⟩:=r.one;cases ru;obtain⟨its,rv,p⟩:=I.lstIs hl;have fh:l<s.heap.objs.size:=by obtain⟨_,e,_⟩:=p;exact aK e
 refine call_all_walk (wpAny_pyIter_list p ?_);refine⟨s.heap.objs.size,[s.heap.objs.size,l],[s.heap.objs.size],its.toArray.size,_,_,λi=>(bs[i]?).getD true,rfl,Walks.list (A:=X.A.in1) (I.ok.hd hc) _ l (aQ fh) its.toArray,
  ⟨⟨_,aW _ rfl,rfl,rfl⟩,p.push _⟩,λi v s' Q' E' hP hQ=>?_,λh' tk hk=>?_⟩
 .obtain⟨b,e,rfl⟩:=Gv rv i v (by simpa using hP);simp only[e,Q1]at hQ;exact wpAny_truthy_bool hQ
 .have e:((List.range its.toArray.size).all λi=>(bs[i]?).getD true)=bs.all id:=by
   rw[aX,<- rv.length,ak];exact w5 bs
  refine⟨.bl (bs.all id),H,I.kept (t':=tk) λb o q=>hk b o (λhm=>?_) (aH _ q),?_,q⟩
  .rw[YR.mp hm]at q;exact X2 _ (aK q)
  .rw[e];rfl
def tSM(r:V->Ζ->Hp->VK->Prop)(to:TE)(t:TA):TE:=λσ H Q=>to σ H λx H1=>(∃y,x=.str y)/\t σ H1 λvs H2=>r x vs H2 Q
def akr{o:Expr}{to:TE}{name:Str}{id:String}{r:V->Ζ->Hp->VK->Prop}(slot:Slot "str" name id)(kf:typeOf (.builtin id)=pure (.type "method_descriptor"))(hm:MtM X id r)(ho:PE X o to)(ha:PA X [e] t)
 (hb:qB X o name:=by rfl)
 (hf:qr X af e:=by rfl)
 (hl:zz ah af:=by rfl)(hs:qo X e []:=by rfl)(hp:qh X af []:=by rfl) :
  PE X (.Call (.Attribute o name ah) [e] [] af) (tSM r to t):=by
 refine(Zm PySem.F.plainAttrs_str slot kf hm ho.mono ha hb hf hl hs hp).imp λσ H Q h=>?_;refine⟨_,h,?_⟩;rintro x H1 ⟨⟨y,rfl⟩,h2⟩;exact⟨rfl,h2⟩
def acL(hg:Gl X x)(hm:∃u,X.mg x=some u/\RelV v u)(hd:qk x:=by decide):PE X (.Name x pos) (tC v):=by
 obtain⟨u,h1,h2⟩:=hm;exact Y_ hg h1 h2 hd
def hid(y:Str):Str:=Str.ofString "?"++y
def Oc(xs:Φ)(N:Φ):Φ:=N.map λy=>if y∈xs then hid y else y
def Cx.compG(X:Cx)(N':Φ)(scope:Scope)(xs:Φ)(C:Addr)(s₀:Shared)(H₀:Hp)(ex:Ψ)(pn:Δ):Cx :=
 { X with env:=compEnvC scope (vf X.env.cells scope.names []) C X.env,N:=xs++N',s₀:=s₀,H₀:=H₀,outer:=X.stack,ex:=ex,fn:=λ_=>false,pn:=pn,xe:=λ_ _=>False }
def PTs(X:Cx)(ay:zt)(tc:TT):Prop:=∀(aa:Δ)(s:Shared)(σ:L2.St)(H:Hp)(Q:Bool->Hp->Prop),Inv X aa σ H s->tc σ H Q ->
 wpAny (model X.prog X.w) X.A (forIn ay true λc r=>if r=true then do let ok <- isTrue c X.env (eval c X.env);pure (ForInStep.yield ok)else pure (ForInStep.yield r)) (λb s'=>∃H',Inv X aa σ H' s'/\Q b H') X.xe s
def aph:TT:=λ_ H Q=>Q true H
def aeQ{X:Cx} : PTs X [] aph:=λ_ _ _ H _ I q=>wpAny_tests_nil ⟨H,I,q⟩
def agw{X:Cx}{c:Expr}(h:PT X c tc):PTs X [c] tc:=λaa s σ H Q I q=>wpAny_tests_one (h aa s σ H Q I q)
def tR(wi:TI)(n:Nat)(gt:TG)(tc:TT)(te:TE):TE:=λσ H Q=>wi σ H λJ H1=>∀D,H1 D=none->∃W:Nat->Nat->Ζ->Hp->Prop,(∃m,W 0 m [] (upd H1 D (.lst [])))/\∀i m ys Hc,W i m ys Hc ->
 (J.stop i Hc/\Q (.ref D) Hc)\/(J.go i Hc/\∀x H',J.yld i Hc x H'->∀pre:L2.St,pre.length=n->gt x (pre++σ) H' λσ2 H2=>∃bX:L2.St,bX.length=n/\σ2=bX++σ/\tc σ2 H2 λb H3 =>
  match b with
  |true=>te σ2 H3 λy H4=>ys.length<sizeLine/\H4 D=some (.lst ys)/\∃m',m'<m/\W (i+1) m' (ys++[y]) (upd H4 D (.lst (ys++[y])))
  |false=>∃m',m'<m/\W (i+1) m' ys H3)
def Cx.compE(X:Cx)(ext:Addr->xk)(fn:Str->Bool)(N':Φ)(scope:Scope)(xs:Φ)(C:Addr)(s₀:Shared)(H₀:Hp)(ex:Ψ)(pn:Δ):Cx :=
 { X with env:=compEnvC scope (ext C++vf X.env.cells scope.names []) C X.env,N:=xs++N',s₀:=s₀,H₀:=H₀,outer:=X.stack,ex:=ex,fn:=fn,pn:=pn,xe:=λ_ _=>False }
structure Ui(X:Cx)(scope:Scope)(xs:Φ)(ext:Addr->xk)(fn:Str->Bool):Prop where
 new:∀{M:Model}{A:Around}{E:Ε}{s:Shared}{globals:Addr}{bE:xk}{am:Str}{outer:Env}{Q:Env->Shared->Prop},(∀g,g.Ns s.heap.objs.size (λx=>([] : xp).reverse.lookup x)->(∀y c,(ext s.heap.objs.size).lookup y=some c->g.IsCell c none)->(∀b o,s.heap.get? b=some o->g.get? b=some o)->Q (newEnv scope s.heap.objs.size globals (ext s.heap.objs.size++bE) am none .none (some outer) builtinsNs) { s with heap:=g,toks:=s.toks+([] : xp).length }) ->
  wpAny M A (newFunctionEnv scope globals bE [] am none .none (some outer)) Q E s
 up:∀C y c,(ext C).lookup y=some c->C<c
 one:∀C y z c,(ext C).lookup y=some c->(ext C).lookup z=some c->y=z
 nw:∀C y,fn y=true->∃c,(ext C).lookup y=some c
 off:∀C y,y∉xs->(ext C).lookup y=none
 kd:∀C y,((relabel scope X.env).names.lookup y=some .cell\/(relabel scope X.env).names.lookup y=some .free)->(∃c,(ext C).lookup y=some c)\/(y,NameKind.free)∈scope.names
def am7{X:Cx}{xs:Φ}(hk:scope.kind=.function)(de:∀y∈scope.names,y.2≠.cell):Ui X scope xs (λ_=>[]) (λ_=>false) :=
 ⟨λhQ=>wpAny_newFunctionEnv de (by intro y hy;simp at hy) (λg eS hsb=>hQ g eS (λ_ _ z=>(nomatch z)) λb o e=>(hsb.2 b (aQ (aK e))).trans (aH _ e)) hk,λ_ _ _ z=>(nomatch z),λ_ _ _ _ z=>(nomatch z),λ_ _ z=>(nomatch z),λ_ _ _=>rfl,λ_ _ e=>.inr (Ey e de)⟩
def N5{use:Option (Value->Sem Unit)}{post:Ε}{Qv:VK}{pp:Pos}{xs N':Φ}(E:Ui X scope xs ext fn)(hc:X.calm=true)(hG:Oc xs X.N=N')(cK:scope.kind=.function)(db:∀y∈scope.names,y.2=.local->scope.names.lookup y.1=some .local)
 (cc:∀y∈scope.names,y.2=.free->X.env.kindOf y.1=some .cell\/X.env.kindOf y.1=some .free)(fS:∀y∈X.N,y∉xs->(relabel scope X.env).names.lookup y≠some .local)(hq:∀y∈X.N,y∈xs->(relabel scope X.env).names.lookup (hid y)=none)(hi:PI X tg iter wi)
 (hg:∀C s₀ H₀ ex pn,PG (X.compE ext fn N' scope xs C s₀ H₀ ex pn) tg gt)(ht:∀C s₀ H₀ ex pn,PTs (X.compE ext fn N' scope xs C s₀ H₀ ex pn) ay tc)(he:∀C s₀ H₀ ex pn,PE (X.compE ext fn N' scope xs C s₀ H₀ ex pn) aS te)(hs:qV X iter)(I:Inv X aa σ H s)(h:tR wi xs.length gt tc te σ H Qv)
 (oy:∀(C D:Addr)(Hc:Hp)(s6:Shared)(m:Str->Ω)(fl:Flow),s6.heap.Ns C m->Inv X aa σ Hc s6->Ig X aa Hc C->Qv (.ref D) Hc->compPost (model X.prog X.w) X.A X.xe use post (.ref D) C (.ok fl) s6) :
  wpAny (model X.prog X.w) X.A (comprehension (.ListComp aS [⟨tg,iter,ay,0⟩] scope pos) scope X.env pp (newList []) false (eval iter X.env) use) post X.xe s:=by
 have kP:∀y∈scope.names,y.2=.free->∃c,X.env.cells.lookup y.1=some c:=λy hy e=>I.ok.has y.1 (cc y hy e);refine wpAny_comprehension_free (use:=use) (Q:=post) rfl hs (Xg kP) cK db (thn (hi aa s σ H _ I h) λv s1 h1=>thn h1 λl6 s2 h2=>?_);obtain⟨it,fp,tn,J,H2,e,I2,T,fq,f2,R⟩:=h2;subst e;have nD:H2 s2.heap.objs.size=none:=I2.hok.fresh (aG _);obtain⟨W,⟨m0,w0⟩,turn⟩:=R s2.heap.objs.size nD;refine wpAny_newObj_type ?_ (by show 0<=sizeLine;exact aZ _);have I3:Inv X aa σ (upd H2 s2.heap.objs.size (.lst [])) { s2 with heap:=s2.heap.push { cls:=.type "list",dict:=none,data:=.seq ([] : Θ).toArray } }:=I2.lnew (t':=s2.toks) (ys:=[]) (its:=[]) .nil (aZ _);have lh:∀b o,s2.heap.get? b=some o->(s2.heap.push { cls:=.type "list",dict:=none,data:=.seq ([] : Θ).toArray }).get? b=some o:=λb o e=>aH _ e;generalize hs3:({ s2 with heap:=s2.heap.push { cls:=.type "list",dict:=none,data:=.seq ([] : Θ).toArray } } : Shared)=s3 at I3 ⊢;have iF:tn 0 s3.heap:=T.keep _ _ _ fq λb _ o e=>by rw[<- hs3];exact lh b o e
 generalize hH3:upd H2 s2.heap.objs.size (.lst [])=H3 at I3 w0;have f3:∀b∈fp,Ig X aa H3 b:=λb hb=>by
  obtain⟨a1,a2⟩:=f2 b hb;refine⟨?_,a2⟩;obtain⟨o,e,_⟩:=T.obj _ _ fq b hb;rwa[<- hH3,cB (aQ (aK e))]
 refine E.new λg eS ir kg=>?_;have clm:∀{y:Str}{c:Addr},(vf X.env.cells scope.names []).lookup y=some c->X.env.cells.lookup y=some c:=λ{y c}e=>by
  rcases V8 kP (PySem.mem_of_lookup e)with z|z
  .cases z
  .exact z
 have gX:∀{y:Str},(ext s3.heap.objs.size).lookup y=none->((relabel scope X.env).names.lookup y=some .cell\/(relabel scope X.env).names.lookup y=some .free)->(X.env.kindOf y=some .cell\/X.env.kindOf y=some .free)/\∃c,(ext s3.heap.objs.size++vf X.env.cells scope.names []).lookup y=some c/\X.env.cells.lookup y=some c:=λ{y}ny e=>by
  rcases E.kd s3.heap.objs.size y e with⟨c,z⟩|z
  .rw[ny]at z;cases z
  .obtain⟨c,df⟩:=Wk (cells:=X.env.cells) (acc:=[]) (.inl z);obtain⟨c,df⟩:=rA df;exact⟨cc _ z rfl,c,by rw[List.lookup_append,ny];exact df,clm df⟩
 have kD:∀{y:Str}{c:Addr},(ext s3.heap.objs.size++vf X.env.cells scope.names []).lookup y=some c->(ext s3.heap.objs.size).lookup y=some c\/X.env.cells.lookup y=some c:=λ{y c}e=>by
  rw[List.lookup_append]at e;cases hy:(ext s3.heap.objs.size).lookup y with
  |some d=>rw[hy]at e;exact .inl e
  |none=>rw[hy]at e;exact .inr (clm e)
 have cll:∀{y z c},(ext s3.heap.objs.size).lookup z=some c->¬X.env.cells.lookup y=some c:=λ{y z c}e1 e=>by
  obtain⟨v,o,h1,_⟩:=I3.cell y c e;exact X2 _ (Tk (aK h1) (E.up _ _ _ e1))
 have ka:∀b∈fp,b<s3.heap.objs.size:=λb hb=>by
  obtain⟨o,e,_⟩:=T.obj _ _ iF b hb;exact aK e
 have nst:∀b∈fp,b∉frs X.stack:=λb hb=>I3.nostk' (f3 b hb).2.1 (f3 b hb).2.2.1;have cfp:∀b∈fp,∀y c,(ext s3.heap.objs.size++vf X.env.cells scope.names []).lookup y=some c->c≠b:=λb hb y c e=>by
  rcases kD e with z|z
  .exact VQ (Tk (ka b hb) (E.up _ _ _ z))
  .exact(f3 b hb).2.2.2.2.1 y c z
 generalize hX:X.compE ext fn N' scope xs s3.heap.objs.size s3 H3 fp (X.pn++aa)=Y;have ok':Y.Ok:=by
  subst hX;exact⟨I3.ok.mod,cK,I3.ok.glob,I3.ok.blt,aG _,λy z c h1 h2=>by
    rcases kD h1 with e1|e1<;>rcases kD h2 with e2|e2
    .exact E.one _ _ _ _ e1 e2
    .exact absurd e2 (cll e1)
    .exact absurd e1 (cll e2)
    .exact I3.ok.inj y z c e1 e2,λy hy=>by
    cases hz:(ext s3.heap.objs.size).lookup y with
    |some c=>exact⟨c,List.lookup_append.trans (by rw[hz];rfl)⟩
    |none=>exact let⟨_,c,q,_⟩:=gX hz hy;⟨c,q⟩,λy c kx e=>by
    obtain⟨d,z⟩:=E.nw s3.heap.objs.size y kx;have e:(ext s3.heap.objs.size++vf X.env.cells scope.names []).lookup y=some c:=e;rw[List.lookup_append,z]at e;cases e;exact Y2 (E.up _ _ _ z),I3.ok.hd,I3.ok.frames,.inl rfl,
   λb hb=>⟨aQ (ka b hb),cfp b hb⟩,I3.bs,aL I3.ok.bsz I3.sz,λb o e hb=>by
    rcases(f3 b hb).2.2.2.1 with z|z
    .exact I3.ok.noex b o e z
    .exact absurd (aR (aR (aK e) I3.ok.bsz) z) (X2 _),nst,I3.stack,I3.stkFree⟩
 have J4:∀tk,Inv Y [] (List.replicate xs.length none++σ) H3 { s3 with heap:=g,toks:=tk }:=λtk=>by
  subst hX;refine⟨ok',rfl,I3.bare,Un.kept kg,⟨_,eS,λi y v e1 e2 e3=>?_⟩,λy c e=>?_,I3.hok.fresh (aG _),λy c e=>(kD e).elim (λz=>I3.hok.fresh (Y2 (E.up _ _ _ z))) (I3.freeC y c),λp hp=>?_,I3.hok.kept kg,?_⟩
  .by_cases hin:i<xs.length
   .rw[aF (by rwa[aN]),XG,ZY hin]at e2;cases e2
   .obtain⟨j,rfl⟩ : ∃j,i=xs.length+j:=⟨i-xs.length,by lia⟩;have e0:N'[j]?=some y:=by
     have e1:(xs++N')[xs.length+j]?=some y:=e1;rw[aD (X1 _ _)]at e1;rw[show xs.length+j-xs.length=j by exact T1 _ _]at e1;exact e1
    have iE:σ[j]?=some (some v):=by
     rw[aD (by rw[aN];exact X1 _ _),aN]at e2;rw[show xs.length+j-xs.length=j by exact T1 _ _]at e2;exact e2
    rw[<- hG]at e0;obtain⟨y0,i4,ey⟩ : ∃y0,X.N[j]?=some y0/\(if y0∈xs then hid y0 else y0)=y:=by
     unfold Oc at e0;rw[aq]at e0;cases hz:X.N[j]? with
     |none=>rw[hz]at e0;cases e0
     |some y0=>rw[hz]at e0;exact⟨y0,rfl,Option.some.inj e0⟩
    have e3:(relabel scope X.env).names.lookup y=some .local\/(relabel scope X.env).names.lookup y=some .cell\/(relabel scope X.env).names.lookup y=some .free:=e3;have ne:¬y0∈xs:=λz=>by
     rw[ZY z]at ey;subst ey;rw[hq y0 (aC i4) z]at e3;rcases e3 with z|z|z<;>cases z
    rw[ZZ ne]at ey;subst ey;have kC:(relabel scope X.env).names.lookup y0=some .cell\/(relabel scope X.env).names.lookup y0=some .free:=by
     rcases e3 with z|z
     .exact absurd z (fS y0 (aC i4) ne)
     .exact z
    obtain⟨kd,c,ir,kQ⟩:=gX (E.off _ _ ne) kC;obtain⟨m,_,hl⟩:=I3.loc;obtain⟨u,r,lk⟩:=hl j y0 v i4 iE (.inr kd);refine⟨u,r,.inr ⟨kC,c,ir,?_⟩⟩;rcases lk with⟨k1,_⟩|⟨_,c',q1,o,q2,q3⟩
    .exfalso;have k1':X.env.kindOf y0=some .local:=k1;rcases kd with k2|k2<;>rw[k1']at k2<;>cases k2
    .rw[kQ]at q1;cases q1;exact⟨o,kg _ _ q2,q3⟩
  .rcases kD e with z|z
   .exact⟨none,ir y c z⟩
   .obtain⟨v,o,q2,q3⟩:=I3.cell y c z;exact⟨v,o,kg _ _ q2,q3⟩
  .have b5:p∈X.pn++aa:=by simpa[Cx.compE]using hp
   obtain⟨a1,a2,a3,a4,a5⟩:=I3.pin p b5;exact⟨kg _ _ a1,a2,aQ (aK a1),I3.nostk' a3 a4,a5⟩
  .show(List.replicate xs.length none++σ).length=(xs++N').length;have hln:N'.length=X.N.length:=by rw[<- hG];unfold Oc;rw[ak]
   rw[aA,aN,aA,I3.len,hln]
 have og:∀{Hc:Hp},(∀b∈fp,Hc b=none)->∀b∈fp,Ig Y [] Hc b:=λ{Hc}hn b hb=>by
  subst hX;exact⟨hn b hb,aQ (ka b hb),nst b hb,.inl hb,cfp b hb,λp hp=>(f3 b hb).2.2.2.2.2 p (by simpa[Cx.compE]using hp)⟩
 have ii:∀s4:Shared,s4={ s3 with heap:=g,toks:=s3.toks+([] : xp).length } ->
   codeAny (model X.prog X.w) X.A (.compLoop (.ListComp aS [⟨tg,iter,ay,0⟩] scope pos) 0 (.ref it) (.ref s2.heap.objs.size) Y.env) (compPost (model X.prog X.w) X.A X.xe use post (.ref s2.heap.objs.size) s3.heap.objs.size) s4:=by
  rintro s4 rfl;have YP:Y.prog=X.prog/\Y.w=X.w/\Y.K=X.K/\Y.calm=X.calm/\Y.A=X.A/\Y.env.locals=s3.heap.objs.size:=by subst hX;exact⟨rfl,rfl,rfl,rfl,rfl,rfl⟩
  obtain⟨y1,y2,y3,y4,y5,y6⟩:=YP;have he':PE Y aS te:=by subst hX;exact he _ _ _ _ _
  have mS:PG Y tg gt:=by subst hX;exact hg _ _ _ _ _
  have ht':PTs Y ay tc:=by subst hX;exact ht _ _ _ _ _
  have kF:Y.xe=λ_ _=>False:=by subst hX;rfl
  have yb:∀{Hc:Hp}{w':L2.St}{pn:Δ}{s':Shared},Inv Y pn w' Hc s'->Un (frs X.stack) fp H3 Hc s3.heap s'.heap:=λ{Hc w' pn s'}Z=>by
   have:=Z.base;subst hX;exact this
  have yos:∀{Hc:Hp}{w':L2.St}{pn:Δ}{s':Shared},Inv Y pn w' Hc s'->s'.os=s3.os:=λ{Hc w' pn s'}Z=>by
   have:=Z.os;subst hX;exact this
  refine codeAny_loop rfl (λn s'=>∃i ys Hc,∃w':L2.St,w'.length=xs.length/\Inv Y [] (w'++σ) Hc s'/\tn i s'.heap/\(∀b∈fp,Hc b=none)/\W i n ys Hc) (λn s5 hI=>?_) m0 ⟨0,[],H3,List.replicate xs.length none,aN,J4 _,T.keep _ _ _ iF λb _ o e=>kg b o e,λb hb=>(f3 b hb).1,w0⟩;obtain⟨i,ys,Hc,w',dr,Z,stc,frc,wc⟩:=hI;show wpAny _ _ ((compTurn (.ListComp aS [⟨tg,iter,ay,0⟩] scope pos) 0 (.ref it) (.ref s2.heap.objs.size) Y.env).onRaise (λz=>do noteFrame z Y.env;theTreesLotGoes z)) _ _ s5;refine wpAny_noted (wpAny_noRaise ?_);rw[compTurn_list];show wpAny (model X.prog X.w) X.A _ _ _ _;rcases turn i n ys Hc wc with⟨stop,qn⟩|⟨go,step⟩
  .have hd:=T.done Y y1 y2 y3 (y4.trans hc) i [] s5 (w'++σ) Hc (λ_ _=>False) Z (og frc) stc stop;rw[y5]at hd;refine ZU (wpAny_standAt (ZU (thn hd λr s6 hP=>?_)));obtain⟨hr,Z6⟩:=hP;subst hr;refine ZT ?_;obtain⟨m,kq,_⟩:=Z6.loc;rw[y6]at kq;have u6:=yb Z6;have hok:HOk X.prog X.w Hc s6.heap:=by
    have z:=Z6.hok;rw[y1,y2]at z;exact z
   have cn:Hc s3.heap.objs.size=none:=by
    have z:=Z6.free;rw[y6]at z;exact z
   have I6:Inv X aa σ Hc s6:=I3.call' (s':=s6) (ch:=fp) (yos Z6) u6 hok Z6.bare λb hb=>⟨(f3 b hb).2.2.2.1,(f3 b hb).2.1,(f3 b hb).2.2.2.2.1,(f3 b hb).2.2.2.2.2⟩;have fC:Ig X aa Hc s3.heap.objs.size:=I3.fpOk (aG _) cn;exact oy _ _ Hc s6 m _ kq I6 fC qn
  .have hd:=T.item Y y1 y2 y3 (y4.trans hc) i [] s5 (w'++σ) Hc (λ_ _=>False) Z (og frc) stc go;rw[y5]at hd;refine ZU (wpAny_standAt (ZU (thn hd λr s6 hP=>?_)));obtain⟨u,hr,h6⟩:=hP;subst hr;refine ZU (thn h6 λ_ s7 hP=>?_);obtain⟨xv,H7,Z7,r7,yl,kX,fr7⟩:=hP;have Z7':=Z7.pinned (og fr7) (T.obj _ _ kX);have b8:=mS _ s7 _ H7 xv u _ Z7' r7 (step xv H7 yl w' dr);rw[y1,y2,y5,kF]at b8;refine ZU (thn b8 λ_ s8 hP=>?_);obtain⟨σ8,H8,Z8,pre,fg,e8,q8⟩:=hP;subst e8;have hte:=ht' _ s8 _ H8 _ Z8 q8;rw[y1,y2,y5,kF]at hte;have fin:∀{m':Nat}{i6:Ζ}{H9:Hp}{s9:Shared},Inv Y ([]++KJ fp s7.heap) (pre++σ) H9 s9->m'<n->W (i+1) m' i6 H9->∃m,m<n/\∃i ys Hc,∃w':L2.St,w'.length=xs.length/\Inv Y [] (w'++σ) Hc s9/\tn i s9.heap/\(∀b∈fp,Hc b=none)/\W i m ys Hc:=λ{m' i6 H9 s9}Z9 hU w9 =>
    ⟨m',hU,i+1,i6,H9,pre,fg,Z9.unpinned,T.keep _ _ _ kX λb hb o e=>(Z9.pin (b,o) (aP _ (aP _ (qN hb e)))).1,λb hb=>by
     obtain⟨o,e,_⟩:=T.obj _ _ kX b hb;exact(Z9.pin (b,o) (aP _ (aP _ (qN hb e)))).2.1,w9⟩
   refine ZU (thn hte λok s9 hP=>?_);obtain⟨H9,Z9,q9⟩:=hP;cases ok with
   |false =>
    obtain⟨m',hU,w9⟩:=q9;exact ZT ⟨rfl,fin Z9 hU w9⟩
   |true =>
    have hel:=he' _ s9 _ H9 _ Z9 q9;rw[y1,y2,y5,kF]at hel;refine ZU (ZU (thn hel λev s10 hP=>?_));obtain⟨yv,H10,Z10,r10,hz,nV,m',hU,w10⟩:=hP;have nS:=Ov (X:=Y) _ s10 _ H10 (.ref s2.heap.objs.size) [yv] (.ref s2.heap.objs.size) [ev] (λ_ Hf=>Hf=upd H10 s2.heap.objs.size (.lst (ys++[yv]))) Z10 rfl (.cons r10 .nil) ⟨_,ys,yv,rfl,rfl,nV,hz,rfl⟩;rw[y1,y2,y5,kF]at nS;refine ZU (thn nS λav s11 hP=>?_);obtain⟨_,H11,Z11,_,e11⟩:=hP;subst e11;exact ZT (ZT ⟨rfl,fin Z11 hU w10⟩)
 have ng:Y.env=compEnvC scope (ext s3.heap.objs.size++vf X.env.cells scope.names []) s3.heap.objs.size X.env:=by subst hX;rfl
 rw[ng]at ii;exact codeAny_compStart_list (ii _ rfl) (T.self _ 0 _ _ _ (T.keep _ _ _ iF λb _ o e=>kg b o e) (ii _ rfl))
def U3{xs N':Φ}(E:Ui X scope xs ext fn)(hc:X.calm=true)(hG:Oc xs X.N=N')(cK:scope.kind=.function)(db:∀y∈scope.names,y.2=.local->scope.names.lookup y.1=some .local)
 (cc:∀y∈scope.names,y.2=.free->X.env.kindOf y.1=some .cell\/X.env.kindOf y.1=some .free)(fS:∀y∈X.N,y∉xs->(relabel scope X.env).names.lookup y≠some .local)(hq:∀y∈X.N,y∈xs->(relabel scope X.env).names.lookup (hid y)=none)(hi:PI X tg iter wi)
 (hg:∀C s₀ H₀ ex pn,PG (X.compE ext fn N' scope xs C s₀ H₀ ex pn) tg gt)(ht:∀C s₀ H₀ ex pn,PTs (X.compE ext fn N' scope xs C s₀ H₀ ex pn) ay tc)(he:∀C s₀ H₀ ex pn,PE (X.compE ext fn N' scope xs C s₀ H₀ ex pn) aS te)(hs:qV X iter) :
  PE X (.ListComp aS [⟨tg,iter,ay,0⟩] scope pos) (tR wi xs.length gt tc te):=by
 intro aa s σ H Q I h;rw[eval_ListComp];exact N5 E hc hG cK db cc fS hq hi hg ht he hs I h λC D Hc s6 m fl hn I6 fC q=>⟨m,hn,λh' mw=>⟨.ref D,Hc,I6.turned (it:=C) (h':=h') (t':=s6.toks) (λb o hb e=>(mw.2 b hb).trans e) fC.1 fC.2.1 fC.2.2.2.1 fC.2.2.2.2.1 fC.2.2.2.2.2,rfl,q⟩⟩
section
variable{κ:Type}[DecidableEq κ]
def Ke(kvs:List (κ×V))(k:κ):xC:=(kvs.find? λkv=>decide (kv.1=k)).map (·.2)
def putK(kvs:List (κ×V))(k:κ)(v:V):List (κ×V) :=
 if(kvs.any λkv=>decide (kv.1=k))=true then kvs.map (λkv=>if kv.1=k then(kv.1,v)else kv)else kvs++[(k,v)]
def Vv{p:κ×V}{r:List (κ×V)}{k:κ}(e:p.1=k):Ke (p::r) k=some p.2:=by simp[Ke,List.find?_cons,e]
def Lq{p:κ×V}{r:List (κ×V)}{k:κ}(e:¬p.1=k):Ke (p::r) k=Ke r k:=by simp[Ke,List.find?_cons,e]
def UL(kvs:List (κ×V))(k:κ)(v:V):(putK kvs k v).length<=kvs.length+1:=by
 unfold putK;split
 .rw[ak];exact Xs _
 .rw[aA,List.length_cons,List.length_nil];exact aG _
def Bk.isSome_eq{u:Ω}(r:Bk o u):o.isSome=u.isSome:=by
 cases o with
 |none=>cases u with
  |none=>rfl
  |some _=>exact(show False from r).elim
 |some _=>cases u with
  |none=>exact(show False from r).elim
  |some _=>rfl
def Bk.getD{o:xC}{u:Ω}{d:V}{d':Value}(r:Bk o u)(rd:RelV d d'):RelV (o.getD d) (u.getD d'):=by
 cases o with
 |none=>cases u with
  |none=>exact rd
  |some _=>exact(show False from r).elim
 |some _=>cases u with
  |none=>exact(show False from r).elim
  |some _=>exact r
def KV.val{kvs:List (κ×V)}{vs:List (κ×Value)}(r:KV kvs vs)(k:κ):Bk (Ke kvs k) (valueAt vs k):=by
 unfold KV at r
 induction r with
 |nil=>exact True.intro
 |@cons p q ps qs h t ih =>
  obtain⟨h1,h2⟩:=h;by_cases e:p.1=k
  .have e':q.1=k:=h1.symm.trans e;have b:valueAt (q::qs) k=some q.2:=by simp[valueAt,List.find?_cons,e']
   rwa[Vv e,b]
  .have e':¬q.1=k:=λz=>e (h1.trans z);have b:valueAt (q::qs) k=valueAt qs k:=by simp[valueAt,List.find?_cons,e']
   rwa[Lq e,b]
def KV.any{kvs:List (κ×V)}{vs:List (κ×Value)}(r:KV kvs vs)(k:κ):(kvs.any λkv=>decide (kv.1=k))=vs.any λkv=>decide (kv.1=k):=by
 unfold KV at r
 induction r with
 |nil=>rfl
 |cons h t ih=>rw[List.any_cons,List.any_cons,ih,h.1]
def KV.repl{kvs:List (κ×V)}{vs:List (κ×Value)}(r:KV kvs vs)(k:κ)(ry:RelV y u) :
  KV (kvs.map λkv=>if kv.1=k then(kv.1,y)else kv) (vs.map λkv=>if kv.1=k then(kv.1,u)else kv):=by
 unfold KV at r ⊢
 induction r with
 |nil=>exact .nil
 |@cons p q ps qs h t ih =>
  rw[List.map_cons,List.map_cons];refine .cons ?_ ih;obtain⟨h1,h2⟩:=h;by_cases e:p.1=k
  .rw[ZY e,ZY (h1.symm.trans e)];exact⟨h1,ry⟩
  .rw[ZZ e,ZZ (λz=>e (h1.trans z))];exact⟨h1,h2⟩
def KV.put{kvs:List (κ×V)}{vs:List (κ×Value)}(r:KV kvs vs)(k:κ)(ry:RelV y u):KV (putK kvs k y) (stored vs k u):=by
 unfold putK stored;rw[r.any k];by_cases e:(vs.any λkv=>decide (kv.1=k))=true
 .rw[ZY e,ZY e];exact r.repl k ry
 .rw[ZZ e,ZZ e];exact Paired.snoc r ⟨rfl,ry⟩
def KV.length{kvs:List (κ×V)}{vs:List (κ×Value)}(r:KV kvs vs):kvs.length=vs.length:=Paired.length r
end
def T6{k:Key}(r:RelV (kV k) u):(gn P w).is k u=true:=by
 cases k with
 |inl i=>obtain⟨t,e⟩:=(show ∃t,u=Value.int i t from r);subst e;exact Vm P w i t
 |inr x=>obtain⟨t,e⟩:=(show ∃t,u=Value.str x t from r);subst e;exact T8 P w x t
def ana{u:HO}(ok:HOk P w H h)(e:Rd H a u):gq P w H h a u:=e.ok ok
def J8(ok:HOk P w H h)(e:Rd H a (.dK kvs)):kvs.length<=sizeLine/\(a==sysModules)=false/\∃vs,KV kvs vs/\h.DictOf (gn P w) a vs :=
 show gq P w H h a (.dK kvs)from ana ok e
def al4(ok:HOk P w H h)(e:H a=some (.dK kvs)):kvs.length<=sizeLine/\(a==sysModules)=false/\∃vs,KV kvs vs/\h.DictOf (gn P w) a vs:=J8 ok (.inl e)
def GF(H:Hp)(a:Addr)(y:V)(r:xC):Prop :=
 (∃kvs k,Rd H a (.dK kvs)/\y=kV k/\r=Ke kvs k)\/False
def amV(H:Hp)(a:Addr)(y v:V)(H':Hp):Prop :=
 (∃kvs k,H a=some (.dK kvs)/\y=kV k/\kvs.length<sizeLine/\H'=upd H a (.dK (putK kvs k v)))\/False
def GF.k{H:Hp}{a:Addr}{kvs:xi}{k:Key}(e:H a=some (.dK kvs)):GF H a (kV k) (Ke kvs k):=.inl ⟨kvs,k,.inl e,rfl,rfl⟩
variable{σ:St}{Q:Ε}{h':Heap}{r:Value}{az i:Expr}
def Inv.big(I:Inv X aa σ H s):sysModules<s.heap.objs.size:=by
 have h:mainGlobals<s.heap.objs.size:=(I.mod.glob.keeps I.bk).lt;exact Tk wx h
def aaC(hu:A.units+1<cLine)(I:Inv X aa σ H s)(g:GF H a y (some v))(ry:RelV y u)(h:∀w' s',Inv X aa σ H s'->RelV v w'->Q w' s') :
  wpAny (model X.prog X.w) A (getItem (.ref a) u) Q E s:=by
 rcases g with⟨kvs,k,e,ey,l⟩|hF
 .subst ey;obtain⟨z,hd,vs,rel,dd⟩:=J8 I.hok e;obtain⟨w',hw,fI⟩:=Bk.some_of (v:=v) (o:=valueAt vs k) (by rw[l];exact rel.val k);exact wpAny_getItem_of (T6 ry) dd.mapOf hw (h w' _ (I.tok _) fI)
 .exact hF.elim
def apL(hu:A.units+1<cLine)(I:Inv X aa σ H s)(g:GF H a y o)(ry:RelV y u)(h:∀s',Inv X aa σ H s'->Q (.bool o.isSome) s') :
  wpAny (model X.prog X.w) A (compareOp .In u (.ref a)) Q E s:=by
 rcases g with⟨kvs,k,e,ey,l⟩|hF
 .subst ey;obtain⟨z,hd,vs,rel,dd⟩:=J8 I.hok e;refine wpAny_in_of (T6 ry) hd dd.mapOf ?_;rw[<- (rel.val k).isSome_eq,<- l];exact h _ (I.tok _)
 .exact hF.elim
def agq(hu:A.units+1<cLine)(I:Inv X aa σ H s)(g:GF H a y o)(ry:RelV y u)(h:∀s',Inv X aa σ H s'->Q (.bool (!o.isSome)) s') :
  wpAny (model X.prog X.w) A (compareOp .NotIn u (.ref a)) Q E s:=by
 rcases g with⟨kvs,k,e,ey,l⟩|hF
 .subst ey;obtain⟨z,hd,vs,rel,dd⟩:=J8 I.hok e;refine wpAny_notIn_of (T6 ry) hd dd.mapOf ?_;rw[<- (rel.val k).isSome_eq,<- l];exact h _ (I.tok _)
 .exact hF.elim
def afc{t':Nat}{ob:HO}(I:Inv X aa σ H s)(mu:Mut (H a))(hs:Heap.SameBut a s.heap h')(he:∃q,h'.get? a=some q)(new:gq X.prog X.w (upd H a ob) h' a ob) :
  Inv X aa σ (upd H a ob) { s with heap:=h',toks:=t' } :=
 I.write (x:=a) (e:=a) mu (.inl rfl) (λb q hb z=>(hs.2 b hb).trans z) he new
def aiA{vs:List (Key×Value)}(z:kvs.length<=sizeLine)(hd:(a==sysModules)=false)(rel:KV kvs vs)(dd:h'.DictOf (gn P w) a vs) :
  gq P w H' h' a (.dK kvs):=⟨z,hd,vs,rel,dd⟩
def abj{Q:Unit->Shared->Prop}(hu:A.units+1<cLine)(I:Inv X aa σ H s)(g:amV H a y v H')(ry:RelV y u)(rv:RelV v r)(h:∀s',Inv X aa σ H' s'->Q () s') :
  wpAny (model X.prog X.w) A (setItem (.ref a) u r) Q E s:=by
 rcases g with⟨kvs,k,e,ey,l,eH⟩|hF
 .subst ey eH;obtain⟨z,hd,vs,rel,dd⟩:=al4 I.hok e;have hz:vs.length<=sizeLine:=by rw[<- rel.length];exact z
  have hl:(putK kvs k v).length<=sizeLine:=by have:=UL kvs k v;lia
  refine wpAny_setItem_pairs (hsz:=hz) (T6 ry) dd λh' dd' hs=>h _ ?_;have he:∃q,h'.get? a=some q:=by obtain⟨q,_,_,hq,_⟩:=dd';exact⟨q,hq⟩
  exact afc I (by rw[e];exact True.intro) hs he (aiA hl hd (rel.put k rv) dd')
 .exact hF.elim
def aiF(i:Expr):Prop:=∀ov iv,subscripted i false ov iv=operate [ov,iv] (getItem ov iv)
def aeR{env:Env}{bj:Expr}{T id:String}
 (hl:typeLookup (.type T) "__getitem__"=pure (some (.builtin id)))(hs:aiF bj)
 (h:wpAny (model prog w) A (eval az env) (λo s₁=>wpAny (model prog w) A (eval bj env) (λi s₂=>s₂.TypeIs o T/\wpAny (model prog w) A (getItem o i) Q E s₂) E s₁) E s) :
  wpAny (model prog w) A (eval (.Subscript az bj pos) env) Q E s:=by
 refine Subscript_ (wpAny_mono h (λo s₁ h₁=>wpAny_mono h₁ (λi s₂ h₂=>?_) λ_ _ x=>x) λ_ _ x=>x);obtain⟨hT,h₂⟩:=h₂;unfold subscriptTail;refine ZU ?_;rw[getitemInPython_of_ne hT.not_modules];refine ZU (wpAny_specialOf hT hl ?_);have fin:wpAny (model prog w) A (subscripted bj false o i) (λr s₃=>wpAny (model prog w) A (letTemporaryGo az o r >>= λ_=>pure r) Q E s₃) E s₂:=by
  rw[hs o i];exact wpAny_operating (wpAny_mono h₂ (λr s₃ h₃=>ZU (wpAny_letTemporaryGo (ZT h₃))) λ_ _ x=>x)
 first
  |exact ZT (ZU fin)
  |exact ZU (ZT (ZU fin))
  |exact ZU fin
def TX{X:Cx}(I:Inv X aa σ H s)(g:GF H a y o):s.TypeIs (.ref a) "dict":=by
 rcases g with⟨kvs,k,e,_,_⟩|hF
 .obtain⟨_,_,vs,_,dd⟩:=J8 I.hok e;exact dd.typeIs
 .exact hF.elim
def aku(td ty:TE):TE:=λσ H Q=>td σ H λx H1=>ty σ H1 λy H2=>∃a v,x=.ref a/\GF H2 a y (some v)/\Q v H2
def apf(ty td:TE):TE:=λσ H Q=>ty σ H λy H1=>td σ H1 λx H2=>∃a o,x=.ref a/\GF H2 a y o/\Q (.bl o.isSome) H2
def aeM(ty td:TE):TE:=λσ H Q=>ty σ H λy H1=>td σ H1 λx H2=>∃a o,x=.ref a/\GF H2 a y o/\Q (.bl (!o.isSome)) H2
def anJ(td ty tv:TE):TS:=λD σ H=>tv σ H λv H1=>td σ H1 λx H2=>ty σ H2 λy H3=>∃a H4,x=.ref a/\amV H3 a y v H4/\D.nx σ H4
variable{o:Expr}{td ty tv:TE}{bi:Pos}{d:V}
def aem(hu:X.A.units+1<cLine)(ho:PE X o td)(hi:PE X i ty)(hs:aiF i):PE X (.Subscript o i pos) (aku td ty):=by
 intro aa s σ H Q I h;refine aeR PySem.F.slot_dict_getitem.lookup hs (thn (ho aa s σ H _ I h) λu s1 ⟨x,H1,I1,rx,q1⟩=>thn (hi aa s1 σ H1 _ I1 q1) λiv s2 hP=>?_);obtain⟨y,H2,I2,ry,a,v,ex,g,q2⟩:=hP;subst ex;obtain rfl:u=Value.ref a:=rx;exact⟨TX I2 g,aaC hu I2 g ry λw' s3 I3 fI=>⟨v,H2,I3,fI,q2⟩⟩
def ahf(hu:X.A.units+1<cLine)(hi:PE X i ty)(ho:PE X o td):PC X .In i o (apf ty td):=by
 intro aa s σ H Q I h;refine thn (hi aa s σ H _ I h) λiv s1 ⟨y,H1,I1,ry,q1⟩=>thn (ho aa s1 σ H1 _ I1 q1) λu s2 hP=>?_;obtain⟨x,H2,I2,rx,a,ov,ex,g,q2⟩:=hP;subst ex;obtain rfl:u=Value.ref a:=rx;exact apL hu I2 g ry λs3 I3=>⟨.bl ov.isSome,H2,I3,rfl,q2⟩
def aaS(hu:X.A.units+1<cLine)(hi:PE X i ty)(ho:PE X o td):PC X .NotIn i o (aeM ty td):=by
 intro aa s σ H Q I h;refine thn (hi aa s σ H _ I h) λiv s1 ⟨y,H1,I1,ry,q1⟩=>thn (ho aa s1 σ H1 _ I1 q1) λu s2 hP=>?_;obtain⟨x,H2,I2,rx,a,ov,ex,g,q2⟩:=hP;subst ex;obtain rfl:u=Value.ref a:=rx;exact agq hu I2 g ry λs3 I3=>⟨.bl (!ov.isSome),H2,I3,rfl,q2⟩
def agj(hu:X.A.units+1<cLine)(ho:PE X o td)(hi:PE X i ty)(hv:PE X az tv)(hs:swapsWith az (some (.Subscript o i bi)) pos.line X.env=pure false) :
  PS X (.Assign [.Subscript o i bi] az pos) (anJ td ty tv):=by
 intro aa s σ H D I h;refine wpAny_Assign_Subscript (thn (hv aa s σ H _ I h) λr s1 ⟨v,H1,I1,rv,q1⟩=>thn (ho aa s1 σ H1 _ I1 q1) λu s2 ⟨x,H2,I2,rx,q2⟩=>thn (hi aa s2 σ H2 _ I2 q2) λiv s3 hP=>?_) hs;obtain⟨y,H3,I3,ry,a,H4,ex,g,q3⟩:=hP;subst ex;obtain rfl:u=Value.ref a:=rx;exact abj hu I3 g ry rv λs4 I4=>⟨σ,H4,I4,q3⟩
def aec(h:Heap)(hb:sysModules<h.objs.size):gq P w H (h.push { cls:=.type "dict",data:=.dict #[] }) h.objs.size (.dK []) :=
 ⟨aZ _,beq_eq_false_iff_ne.mpr (Ne.symm (aQ hb)),[],.nil,Heap.DictOf.new h⟩
def aiw:TE:=λ_ H Q=>∀p,H p=none->Q (.ref p) (upd H p (.dK []))
def acM:PE X (.Dict [] [] pos) aiw:=λaa s σ H Q I h =>
 wpAny_Dict_empty ⟨.ref s.heap.objs.size,_,I.laid (a:=s.heap.objs.size) (o:=.dK []) (t':=s.toks) (λ_ _ q=>aH _ q) (aG _) (aec s.heap I.big),rfl,h _ (I.hok.fresh (aG _))⟩
structure M1(X:Cx)(o:Expr)(m:Str)(ah:Pos)(e:Expr)(af:Pos):Prop where
 base:qB X o m
 few:((backTo af (starEach [e] X.env)).all (λx=>!x.1)&&(backToKw af (keywordEach [] X.env)).all (λx=>x.1.isSome)
  && decide (([e] : zt).length+([] : xL).length+(if([] : xL).isEmpty then 0 else 1)<30))=true
 line:zz ah af
 trees:backTo af (starEach [e] X.env)=[(false,eval e X.env)]
structure M2(X:Cx)(o:Expr)(m:Str)(ah:Pos)(e f:Expr)(af:Pos):Prop where
 base:qB X o m
 few:((backTo af (starEach [e,f] X.env)).all (λx=>!x.1)&&(backToKw af (keywordEach [] X.env)).all (λx=>x.1.isSome)
  && decide (([e,f] : zt).length+([] : xL).length+(if([] : xL).isEmpty then 0 else 1)<30))=true
 line:zz ah af
 trees:backTo af (starEach [e,f] X.env)=[(false,eval e X.env),(false,eval f X.env)]
def IsD(H:Hp)(a:Addr):Prop:=(∃kvs,Rd H a (.dK kvs))\/False
def aju{X:Cx}(I:Inv X aa σ H s)(d:IsD H a) :
  s.TypeIs (.ref a) "dict"/\(∀b,Value.ref a=.ref b->∃ob,s.heap.get? b=some ob/\ob.dict=none)/\(a==sysModules)=false:=by
 rcases d with⟨kvs,e⟩|hF
 .obtain⟨_,hd,vs,_,dd⟩:=J8 I.hok e;refine⟨dd.typeIs,λb q=>?_,hd⟩;cases q;obtain⟨ob,_,_,h1,h2,_⟩:=dd;exact⟨ob,h1,h2.2.1⟩
 .exact hF.elim
variable{o:xC}{f:Expr}
def aii(hu:A.units+1<cLine)(I:Inv X aa σ H s)(g:GF H a y o)(ry:RelV y u)(rd:RelV d r)(h:∀w' s',Inv X aa σ H s'->RelV (o.getD d) w'->Q w' s') :
  wpAny (model X.prog X.w) A (call (.builtin "dict.get") [.ref a,u,r]) Q E s:=by
 rcases g with⟨kvs,k,e,ey,l⟩|hF
 .subst ey;obtain⟨z,hd,vs,rel,dd⟩:=J8 I.hok e;refine call_meetsIn PySem.F.slot_dict_get dd.typeIs PySem.F.entry_dict_get (PySem.F.args_dict_get_3 _ _ _) (meets_dict_get_default (gn X.prog X.w) a (T6 ry) hd r) ⟨_,dd.mapOf,h _ _ (I.tok _) ?_⟩;rw[l];exact(rel.val k).getD rd
 .exact hF.elim
def aib(td ty tx:TE):TE:=λσ H Q=>td σ H λx H1=>∃a,x=.ref a/\IsD H1 a/\ty σ H1 λy H2=>tx σ H2 λz H3=>∃o,GF H3 a y o/\Q (o.getD z) H3
variable{o:Expr}{tx:TE}{pl:Sem Bool}{σ:L2.St}
def abT(hu:X.A.units+1<cLine)(ho:PE X o td)(he:PE X e ty)(hf:PE X f tx)(m:M2 X o "get" ah e f af):PE X (.Call (.Attribute o "get" ah) [e,f] [] af) (aib td ty tx):=by
 intro aa s σ H Q I h;refine wpAny_Call_method m.base m.few m.line PySem.F.plainAttrs_dict PySem.F.slot_dict_get PySem.F.type_dict_get (thn (ho aa s σ H _ I h) λu s1 hP=>?_);obtain⟨x,H1,I1,rx,a,ex,d,q1⟩:=hP;subst ex;obtain rfl:u=Value.ref a:=rx;obtain⟨t1,t2,_⟩:=aju I1 d;refine⟨t1,t2,?_⟩;rw[m.trees];refine Calls.callWith_builtin rfl (Calls.evalArgs_plain (Calls.spliced_cons (thn (he aa s1 σ H1 _ I1 q1) λiv s2 ⟨y,H2,I2,ry,q2⟩ =>
  Calls.spliced_cons (thn (hf aa s2 σ H2 _ I2 q2) λfv s3 ⟨z,H3,I3,rz,ov,g,q3⟩=>Calls.spliced_nil ?_))))
 exact aii hu I3 g ry rz λw' s4 I4 fI=>⟨_,H3,I4,fI,q3⟩
def Itk(a:Addr)(o:Obj)(kvs:xi):It:=⟨λi H=>H a=some (.frz o (.dK kvs))/\i<kvs.length,λi H v H'=>H'=H/\∃k y,kvs[i]?=some (k,y)/\v=kV k,λi H=>H a=some (.frz o (.dK kvs))/\i=kvs.length⟩
def ag3{k:Key}(h:(gn P w).is k u=true):RelV (kV k) u:=by
 have h:En k u=true:=h;cases k with
 |inl i =>
  cases u<;>simp[En,Value.isInt]at h
  .subst h;exact⟨_,rfl⟩
 |inr x =>
  cases u<;>simp[En,Value.isStrOf]at h
  .subst h;exact⟨_,rfl⟩
def KV.at{κ:Type}{kvs:List (κ×V)}{vs:List (κ×Value)}(r:KV kvs vs):∀{i:Nat}{k:κ}{y:V},kvs[i]?=some (k,y)->∃u,vs[i]?=some (k,u)/\RelV y u:=by
 unfold KV at r
 induction r with
 |nil=>intro i k y h;cases h
 |@cons p q ps qs h t ih =>
  intro i k y e;cases i with
  |zero =>
   rw[List.getElem?_cons_zero]at e;cases e;obtain⟨q1,q2⟩:=q;obtain⟨h1,h2⟩:=h;cases h1;exact⟨q2,rfl,h2⟩
  |succ i =>
   rw[List.getElem?_cons_succ]at e ⊢;exact ih e
def aad(it a:Addr)(o:Obj)(kvs:xi)(vs:List (Key×Value))(ep:Nat)(rel:KV kvs vs)(hD:∀h:Heap,h.get? a=some o->h.DictAt (gn P w) a vs ep) :
  Turn P w K tg (Itk a o kvs) [it] it (λi h=>h.IsKeyIter it a i vs.length ep) where
 mem:=by simp
 obj:=λi h st b hb=>by
  have e:b=it:=by simpa using hb
  subst e;obtain⟨o,ho,_,hd⟩:=st;exact⟨o,ho,λv z=>by rw[hd]at z;cases z⟩
 keep:=λi h h' st k=>let⟨o,ho,r⟩:=st;⟨o,k it wf o ho,r⟩
 item:=by
  intro X hP hw hK hc i aa s σ H E I hf st hg;subst hP hw hK;obtain⟨hg,fh⟩:=hg;obtain⟨ho,_⟩:=(show gq X.prog X.w H s.heap a (.frz o (.dK kvs))from I.hok a _ hg);obtain⟨f0,f1,f2,f3,f4,f5⟩:=hf it wf;obtain⟨⟨k,y⟩,hx⟩ : ∃p,kvs[i]?=some p:=⟨kvs[i],by simp[fh]⟩;obtain⟨u,hu,ru⟩:=rel.at hx;refine wpAny_pyNext_dict_item st (hD _ ho) hu λdu h' f6 eB sb=>?_;have I1:Inv X aa σ H { s with heap:=h' }:=I.turned (t':=s.toks) (λb ob hb e=>(sb.2 b hb).trans e) f0 f1 f3 f4 f5;obtain⟨oi,e,c,d⟩:=id eB;exact⟨du,rfl,ZJ (s:={ s with heap:=h' }) e c d wx ⟨kV k,H,I1,ag3 f6,⟨rfl,k,y,hx,rfl⟩,eB,λb hb=>(hf b hb).1⟩⟩
 done:=by
  intro X hP hw hK hc i aa s σ H E I hf st hg;subst hP hw hK;obtain⟨hg,rfl⟩:=hg;obtain⟨ho,_⟩:=(show gq X.prog X.w H s.heap a (.frz o (.dK kvs))from I.hok a _ hg);obtain⟨f0,f1,f2,f3,f4,f5⟩:=hf it wf;have hl:=rel.length;exact wpAny_pyNext_dict_end (I.ok.hd hc) st (hD _ ho) (by simp;exact WJ (Eq.symm hl)) λh' eb=>⟨rfl,I.turned (t':=s.toks) (λb ob hb e=>eb b ob hb e) f0 f1 f3 f4 f5⟩
 self:=λ_ _ _ _ _ st h=>wpAny_pyIter_keyiter st h
def alU(te:TE):TI:=λσ H R=>te σ H λx H1=>∃a kvs,x=.ref a/\H1 a=some (.dK kvs)/\∀o,R (Itk a o kvs) (upd H1 a (.frz o (.dK kvs)))
def ae2(hl:PE X l tl):PI X tg l (alU tl):=by
 intro aa s σ H R I h;refine thn (hl aa s σ H _ I h) λv s1 hP=>?_;obtain⟨x,H1,I1,r1,a,kvs,ex,ha,q⟩:=hP;subst ex;cases r1;have ok:=(show gq X.prog X.w H1 s1.heap a (.dK kvs)from I1.hok a _ ha);obtain⟨z,hd,vs,rel,o,es,ep,e,ex,ed,ek,iX,en⟩:=ok;have hD:∀h:Heap,h.get? a=some o->h.DictAt (gn X.prog X.w) a vs ep:=λh e=>⟨o,es,e,ex,ed,ek,iX,en⟩;have I2:Inv X aa σ (upd H1 a (.frz o (.dK kvs))) s1:=by
  have:=I1.write (x:=a) (e:=a) (o:=.frz o (.dK kvs)) (h':=s1.heap) (t':=s1.toks) (by rw[ha];exact True.intro) (.inl rfl) (λb u hb z=>z) ⟨o,e⟩ ⟨e,z,hd,vs,rel,o,es,ep,e,ex,ed,ek,iX,en⟩;exact this
 refine wpAny_pyIter_dict hd (hD _ e) ?_;refine⟨s1.heap.objs.size,[s1.heap.objs.size],_,Itk a o kvs,_,rfl,I2.kept (t':=s1.toks) λb ob z=>aH _ z,aad _ a o kvs vs ep rel hD,⟨_,aW _ rfl,rfl,rfl⟩,λb hb=>?_,q o⟩;have e:b=s1.heap.objs.size:=by simpa using hb
 subst e;exact I2.fpOk (aG _) (I2.hok.fresh (aG _))
def tMG(g:TG):TG:=λv σ H Q=>∃R:L2.St->Hp->Prop,g v σ H R/\∀σ' H',R σ' H'->Q σ' H'
def tMT(t:TT):TT:=λσ H Q=>∃R:Bool->Hp->Prop,t σ H R/\∀b H',R b H'->Q b H'
def PG.mono{g:TG}(h:PG X e g):PG X e (tMG g):=λaa s σ H v u Q I r hP=>by obtain⟨R,h1,h2⟩:=hP;exact thn (h aa s σ H v u R I r h1) λ_ s' hP=>by obtain⟨σ',H',I',q⟩:=hP;exact⟨σ',H',I',h2 σ' H' q⟩
def PTs.mono{t:TT}(h:PTs X ay t):PTs X ay (tMT t):=λaa s σ H Q I hP=>by obtain⟨R,h1,h2⟩:=hP;exact thn (h aa s σ H R I h1) λb s' hP=>by obtain⟨H',I',q⟩:=hP;exact⟨H',I',h2 b H' q⟩
structure HJ(K:Frag)(B:Addr)(m:Str)(f:Addr):Prop where
 ga:specialIn K (.ref B) "__getattribute__"=some (some (.builtin "type.__getattribute__"))
 rd:readsIn K B (.type "type")=true
 at_:findCls K (.ref B) (.type "type") m=some (.val (.ref f))
 hd:handedIn (.ref f)=true
 kp:keepIn K (.ref f)=true
section
variable{X:Cx}{k:Nat}{f B:Addr}{fd:FuncData}{ps:Φ}{sp:Sp}{dm:Ζ}{ds:Θ}{x m:Str}{p pos ah:Pos}{e:Expr}{es:zt}{t:TA}{Ex:Value->Ξ->L2.St->Hp->Prop}
def HJ.get{aa:Δ}{σ:L2.St}{H:Hp}{s:Shared}{pl:Sem Bool}{A:Around}{E:Ε}{Q:Value×Θ->Shared->Prop}(c:HJ X.K B m f)(I:Inv X aa σ H s)(h:∀t,Q (.ref f,[]) { s with toks:=t }) :
  wpAny (model X.prog X.w) A (getMethod (.ref B) m pl) Q E s :=
 PySem.W.method_cls I.kIn c.ga (PySem.W.cls_value I.kIn c.rd c.at_ c.hd (h _))
def agd(c:HJ X.K B m f)(F:gY X.prog X.w X.K X.mg X.base CX0 k f fd ps sp)(hr:eY k X.A)(hg:Gl X x)(hm:X.mg x=some (.ref B))(hb:Binds X.K fd ps [])(ha:PA X (e::es) t)(cf:qk x:=by decide)
 (b8:qo X e es:=by rfl)(br:qh X pos es:=by rfl)
 (ht:eval (.Call (.Attribute (.Name x p) m ah) (e::es) [] pos) X.env=(do
   let ov <- eval (.Name x p) X.env
   standAt ah.atName
   let(f,first) <- holding [ov] (getMethod ov m pl)
   callWith pos f first (backTo pos (starEach (e::es) X.env)) (backToKw pos (keywordEach [] X.env))):=by rfl) :
  PE X (.Call (.Attribute (.Name x p) m ah) (e::es) [] pos) (Yt sp t):=by
 intro aa s σ H Q I h;refine methodCall_KW (pl:=pl) (Jm I hg hm (c.get I λtk=>?_) cf) ht;refine callWith_K (first:=[]) (h₀:=X.base) I.ok.mod.kin c.kp (thn (ha pos aa _ σ H _ (I.tok tk) h) λus s2 ⟨vs,H2,I2,r,q2⟩=>⟨I2.kIn,?_⟩) b8 br;exact J7 (us:=us) (vs:=vs) F hr hb .nil OD I2 r (by rw[List.append_nil];exact q2)
end
def Same.tup{K:Frag}{H H':Hp}{a:Addr}{xs:Ζ}(e:Same H H')(h:SqT K H a xs):SqT K H' a xs:=by
 rcases h with(h|⟨o,h⟩)|h
 .exact .inl (.inl (e _ _ h))
 .exact .inl (.inr ⟨o,e _ _ h⟩)
 .exact .inr h
mutual
inductive gP(K:Frag)(H:Hp):V->PyData->Prop
 |non:gP K H .non .none
 |bl (b:Bool):gP K H (.bl b) (.bool b)
 |int (i:Int):gP K H (.int i) (.int i)
 |str (x:Str):gP K H (.str x) (.str x)
 |lst {a:Addr}{xs:Ζ}{ds:xy} : H a=some (.lst xs)->eF K H xs ds->gP K H (.ref a) (.list ds)
 |tup {a:Addr}{xs:Ζ}{ds:xy} : SqT K H a xs->eF K H xs ds->gP K H (.ref a) (.tuple ds)
inductive eF(K:Frag)(H:Hp):Ζ->xy->Prop
 |nil:eF K H [] []
 |cons {x:V}{xs:Ζ}{d:PyData}{ds:xy} : gP K H x d->eF K H xs ds->eF K H (x::xs) (d::ds)
end
mutual
theorem gP.same{K:Frag}{H H':Hp}(S:Same H H'):∀{x:V}{d:PyData},gP K H x d->gP K H' x d
 |_,_,.non=>.non
 |_,_,.bl b=>.bl b
 |_,_,.int i=>.int i
 |_,_,.str x=>.str x
 |_,_,.lst e h=>.lst (S _ _ e) (eF.same S h)
 |_,_,.tup e h=>.tup (S.tup e) (eF.same S h)
theorem eF.same{K:Frag}{H H':Hp}(S:Same H H'):∀{xs:Ζ}{ds:xy},eF K H xs ds->eF K H' xs ds
 |_,_,.nil=>.nil
 |_,_,.cons h t=>.cons (gP.same S h) (eF.same S t)
end
mutual
theorem Inv.readsK(I:Inv X aa σ H s):∀{x:V}{d:PyData}{v:Value},gP X.K H x d->RelV x v->∃as,Reads s.heap v d as
 |_,_,_,.non,r=>by cases r;exact⟨_,.none⟩
 |_,_,_,.bl b,r=>by cases r;exact⟨_,.bool b⟩
 |_,_,_,.int i,r=>by obtain⟨t,rfl⟩:=r;exact⟨_,.int i t⟩
 |_,_,_,.str x,r=>by obtain⟨t,rfl⟩:=r;exact⟨_,.str x t⟩
 |_,_,_,.lst e h,r=>by
  cases r;obtain⟨its,rv,⟨o,ho,hc,n,hd⟩⟩:=I.lstIs e;obtain⟨as,q⟩:=Inv.readsAllK I h rv;exact⟨_,.list ho hc hd q⟩
 |_,_,_,.tup e h,r=>by
  cases r;obtain⟨its,rv,⟨o,ho,hc,n,hd⟩,_⟩:=I.tuple e;obtain⟨as,q⟩:=Inv.readsAllK I h rv;exact⟨_,.tuple ho hc hd q⟩
theorem Inv.readsAllK(I:Inv X aa σ H s):∀{xs:Ζ}{ds:xy}{vs:Θ},eF X.K H xs ds->Vals xs vs->∃as,ReadsAll s.heap vs ds as
 |_,_,_,.nil,r=>by cases r;exact⟨_,.nil⟩
 |_,_,_,.cons h t,r=>by
  cases r with
  |cons r1 r2 =>
   obtain⟨a,q1⟩:=Inv.readsK I h r1;obtain⟨b,q2⟩:=Inv.readsAllK I t r2;exact⟨_,.cons q1 q2⟩
end
def ajs(K:Frag)(neg:Bool):R2:=λx y H Q=>∃d e,gP K H x d/\gP K H y e/\SeqAt.shaped d=true/\SeqAt.shaped e=true/\Q (.bl (if neg then !PyData.eqv d e else PyData.eqv d e)) H
def ahF(hu:X.A.units+64<cLine):OpR X (compareOp .Eq) (ajs X.K false):=by
 intro aa s σ H x y v u Q I rx ry h;obtain⟨d,e,hd,he,sd,se,q⟩:=h;obtain⟨as,ra⟩:=I.readsK hd rx;obtain⟨bs,rb⟩:=I.readsK he ry;exact SeqAt.compareEq_shaped ra rb sd se hu ⟨.bl _,H,I,rfl,q⟩
def ahB(hu:X.A.units+64<cLine):OpR X (compareOp .NotEq) (ajs X.K true):=by
 intro aa s σ H x y v u Q I rx ry h;obtain⟨d,e,hd,he,sd,se,q⟩:=h;obtain⟨as,ra⟩:=I.readsK hd rx;obtain⟨bs,rb⟩:=I.readsK he ry;exact SeqAt.compareNe_shaped ra rb sd se hu ⟨.bl _,H,I,rfl,q⟩
def afd(K:Frag):Ζ->Hp->VK->Prop:=λxs H Q=>∃p T ys,xs=[.ref p,.ty T]/\T∈["bool","int","str","list","tuple","dict"]/\SqT K H p ys/\Q (.bl (Qw "tuple" T)) H
def Vy:jo X (.builtin "isinstance") (afd X.K):=by
 intro aa s σ H xs us Q I r h;obtain⟨p,T,ys,rfl,hT,hp,q⟩:=h;obtain⟨u,v,rfl,ru,rv⟩:=r.two;cases ru;cases rv;obtain⟨its,rvs,⟨o,ho,hc,n,hd⟩,_⟩:=I.tuple hp;refine kia_one (kitx_tuple (a:=p)) I.kIn ⟨o,ho,hc⟩ (Za (K:=X.K) (t:="tuple") wx hT) (λz=>nomatch z) λtk=>⟨.bl _,H,I.tok _,rfl,q⟩
def OkI(P:Program)(w:World)(K:Frag)(mg:Str->Ω)(base:Heap)(CX:CXT)(k:Nat)(f:Addr)(ps:Φ)(sp:Sp):Prop:=∃fd,gY P w K mg base CX k f fd ps sp/\Binds K fd ps []
def CV(K:Frag)(x am:Str)(st:Stmt)(ps:Φ)(f:Addr):Prop:=∃fd,Fun K x am st f fd/\∀us:Θ,us.length=ps.length->bindArgs fd ⟨us,[]⟩=pure (ps.zip us)
variable{f:Addr}{k i:Nat}{p:Pos}{x0:Str}
def CV.ok{CX:CXT}(h:CV K x am st ps f)(hf:∀fd,Fun K x am st f fd->gY P w K mg base CX k f fd ps sp):OkI P w K mg base CX k f ps sp :=
 by obtain⟨fd,a,b⟩:=h;exact⟨fd,hf fd a,.all b⟩
def afP{od an:Ξ}{kV bz pm ag ct:Value}
 (l:K.lookup f=some ⟨oc,od,.func (PySem.W.fnOf x am (jE st) (gk st) (bH st) .none kV bz pm an ag ct),eP⟩)(c:codeIn K ag am=true)(k:keepIn K (.ref f)=true)
 (hb:∀(kV bz pm:Value)(an:Ξ)(ag ct:Value)(us:Θ),us.length=ps.length->bindArgs (PySem.W.fnOf x am (jE st) (gk st) (bH st) .none kV bz pm an ag ct) ⟨us,[]⟩=pure (ps.zip us)):CV K x am st ps f :=
 ⟨_,abR l c k,hb kV bz pm an ag ct⟩
section
variable{X:Cx}{k:Nat}{f C B:Addr}{ps:Φ}{sp:Sp}{x m:Str}{p pos ah:Pos}{e o:Expr}{es:zt}{ta:TE}{t:TA}{Ex:Value->Ξ->L2.St->Hp->Prop}
def ab9(C:Addr)(m:Str)(sp:Sp)(ta:TE)(t:TA):TE:=λσ H Q=>ta σ H λx H1=>∃a dx fs,x=.ref a/\H1 a=some (.ins C dx fs)/\fs.lookup m=none/\t σ H1 λvs H2=>sp (x::vs) H2 Q E0
abbrev zw(X:Cx):=OkI X.prog X.w X.K X.mg X.base
def acO(he:PE X o ta)(c:Cls X.K C)(hm:Meth X.K C m f)(G:zw X CX0 k f ps sp)(hr:eY k X.A)(ha:PA X (e::es) t)
 (b8:qo X e es:=by rfl)(br:qh X pos es:=by rfl)
 (ht:eval (.Call (.Attribute o m ah) (e::es) [] pos) X.env=(do
   let ov <- eval o X.env
   standAt ah.atName
   let(f,first) <- holding [ov] (getMethod ov m pl)
   callWith pos f first (backTo pos (starEach (e::es) X.env)) (backToKw pos (keywordEach [] X.env))):=by rfl) :
  PE X (.Call (.Attribute o m ah) (e::es) [] pos) (ab9 C m sp ta t):=by
 obtain⟨fd,F,hb⟩:=G;refine(afi (pl:=pl) he.mono c hm F hr hb .nil OD ha.mono b8 br ht).imp λσ H Q h=>⟨_,h,?_⟩;rintro x H1 ⟨a,dx,fs,h1,h2,h3,h4⟩;refine⟨a,dx,fs,h1,h2,h3,_,h4,λvs H2 q=>?_⟩;show sp (x::(vs++[])) H2 Q E0;rwa[List.append_nil]
def aaK(he:PE X o ta)(c:Cls X.K C)(hm:Meth X.K C m f)(G:zw X CX0 k f ps sp)(hr:eY k X.A)
 (ht:eval (.Call (.Attribute o m ah) [] [] pos) X.env=(do
   let ov <- eval o X.env
   standAt ah.atName
   let(f,first) <- holding [ov] (getMethod ov m pl)
   callWith pos f first (backTo pos (starEach [] X.env)) (backToKw pos (keywordEach [] X.env))):=by rfl) :
  PE X (.Call (.Attribute o m ah) [] [] pos) (ab9 C m sp ta aiE):=by
 obtain⟨fd,F,hb⟩:=G;refine(abq (pl:=pl) he.mono c hm F hr hb .nil OD ht).imp λσ H Q h=>⟨_,h,?_⟩;rintro x H1 ⟨a,dx,fs,h1,h2,h3,h4⟩;exact⟨a,dx,fs,h1,h2,h3,h4⟩
def adv{D:Addr}{pos:Pos}(hg:Gl X x)(hm:X.mg x=some (.ref D))(hd:qk x:=by decide):PE X (.Name x pos) (tC (.ref D)):=Y_ hg hm rfl hd
end
def Itp(a:Addr)(o:Obj)(kvs:xi):It:=⟨λi H=>H a=some (.frz o (.dK kvs))/\i<kvs.length,λi H v H'=>∃k y t,kvs[i]?=some (k,y)/\H t=none/\v=.ref t/\H'=upd H t (.tup [kV k,y]),λi H=>H a=some (.frz o (.dK kvs))/\i=kvs.length⟩
def Kq:entryFor table "dict_itemiterator.__iter__"=some Builtin.«dict_keyiterator.__iter__»:=entryFor_alias (id' :="dict_keyiterator.__iter__") (by kernel_rfl) rfl (by decide +kernel) (by kernel_rfl)
def Ww{it d:Addr}{n ep:Nat}{ok ov:Value}(st:IsItemIter s.heap it d i n ep ok ov)(q:Q (.ref it) s):wpAny (model P w) A (pyIter (.ref it)) Q E s:=by
 have ty:s.TypeIs (.ref it) "dict_itemiterator":=⟨_,st,rfl⟩;exact wpAny_pyIter_slot ty F.slot_dict_itemiterator_iter (wpAny_call_entry F.slot_dict_itemiterator_iter ty Kq (ZT ⟨_,rfl,"dict_itemiterator",_,ty,F.slot_dict_itemiterator_next.lookup,q⟩) (F.args_dict_itemiterator_iter_1 _))
def Ba{o ob:Obj}(e:(h.push o).get? b=some ob)(hs:b≠h.objs.size):h.get? b=some ob:=by
 obtain⟨e1,e2⟩:=Heap.get?_some_iff.mp e;refine Heap.get?_some_iff.mpr ⟨?_,e2⟩;cases h;simpa[Heap.push,Array.getElem?_push,hs]using e1
def Xh{x1}(it a:Addr)(o:Obj)(kvs:xi)(vs:List (Key×Value))(ep:Nat)(rel:KV kvs vs)(hD:∀h:Heap,h.get? a=some o->h.DictAt (gn P w) a vs ep) :
  Turn P w K (.Tuple aE x1 pos) (Itp a o kvs) [it] it (λi h=>∃ok ov,IsItemIter h it a i vs.length ep ok ov) where
 mem:=by simp
 obj:=by
  rintro i h ⟨ok,ov,st⟩ b hb;have e:b=it:=by simpa using hb
  subst e;exact⟨_,st,λv z=>by cases z⟩
 keep:=λi h h' ⟨ok,ov,st⟩ k=>⟨ok,ov,k it wf _ st⟩
 item:=by
  intro X hP hw hK hc i aa s σ H E I hf st hg;subst hP hw hK;obtain⟨ok,ov,st⟩:=st;obtain⟨hg,fh⟩:=hg;obtain⟨ho,_⟩:=(show gq X.prog X.w H s.heap a (.frz o (.dK kvs))from I.hok a _ hg);obtain⟨f0,f1,f2,f3,f4,f5⟩:=hf it wf;obtain⟨⟨k,y⟩,hx⟩ : ∃p,kvs[i]?=some p:=⟨kvs[i],by simp[fh]⟩;obtain⟨u,hu,ru⟩:=rel.at hx;refine wpAny_pyNext_items_item st (hD _ ho) hu λdu h' f6 out ht hz hk=>⟨_,rfl,?_⟩;refine wpAny_letOwnedTupleGo_items out λh2 fq sb=>?_;have nt:H s.heap.objs.size=none:=I.fresh;have ne:it≠s.heap.objs.size:=aQ (aK st);have I1:=I.laid (a:=s.heap.objs.size) (o:=.tup [kV k,y]) (h':=s.heap.push { cls:=.type "tuple",data:=.seq #[du,u] }) (t':=s.toks) (λb q z=>aH _ z) (aG _)
   ⟨(by show 2<=sizeLine;decide),[du,u],.cons (ag3 f6) (.cons ru .nil),_,aW _ rfl,rfl,_,rfl⟩
  have I2:=I1.turned (it:=it) (h':=h2) (t':=s.toks) (λb ob hb e=>by
   refine(sb.2 b hb).trans ?_;by_cases hs:b=s.heap.objs.size
   .subst hs;have e2:=aW s.heap (o:={ cls:=.type "tuple",data:=.seq #[du,u] }) rfl;have e:(s.heap.push { cls:=.type "tuple",data:=.seq #[du,u] }).get? s.heap.objs.size=some ob:=e;rw[e2]at e;cases e;exact ht
   .exact hk b _ hb (Ba e hs)) ((cB ne).trans f0) f1 f3 f4 f5
  exact⟨.ref _,_,I2,rfl,⟨k,y,_,hx,nt,rfl,rfl⟩,⟨_,_,fq⟩,λb hb=>by
   have e:b=it:=by simpa using hb
   subst e;exact(cB ne).trans f0⟩
 done:=by
  intro X hP hw hK hc i aa s σ H E I hf st hg;subst hP hw hK;obtain⟨ok,ov,st⟩:=st;obtain⟨hg,rfl⟩:=hg;obtain⟨ho,_⟩:=(show gq X.prog X.w H s.heap a (.frz o (.dK kvs))from I.hok a _ hg);obtain⟨f0,f1,f2,f3,f4,f5⟩:=hf it wf;have hl:=rel.length;exact wpAny_pyNext_items_end (I.ok.hd hc) st (hD _ ho) (by simp;exact WJ (Eq.symm hl)) λh' eb=>⟨rfl,I.turned (t':=s.toks) (λb ob hb e=>eb b ob hb e) f0 f1 f3 f4 f5⟩
 self:=λ_ _ _ _ _ ⟨_,_,st⟩ h=>Ww st h
def aiL(te:TE):TI:=λσ H R=>te σ H λx H1=>∃a kvs,x=.ref a/\H1 a=some (.dK kvs)/\∀o,R (Itp a o kvs) (upd H1 a (.frz o (.dK kvs)))
def adn{x1}{aw:Pos}(hl:PE X l tl)(hb:attributeBase l "items" X.env (eval l X.env)=eval l X.env)(hn:zz ah pos):PI X (.Tuple aE x1 aw) (.Call (.Attribute l "items" ah) [] [] pos) (aiL tl):=by
 intro aa s σ H R I h;refine wpAny_Call_method (T:="dict") (id:="dict.items") hb rfl hn PySem.F.plainAttrs_dict PySem.F.slot_dict_items PySem.F.type_dict_items (thn (hl aa s σ H _ I h) λv s1 hP=>?_);obtain⟨x,H1,I1,r1,a,kvs,ex,ha,q⟩:=hP;subst ex;cases r1;have ok:=(show gq X.prog X.w H1 s1.heap a (.dK kvs)from I1.hok a _ ha);obtain⟨z,hd,vs,rel,o,es,ep,e,ex,ed,ek,iX,en⟩:=ok;have hD:∀h:Heap,h.get? a=some o->h.DictAt (gn X.prog X.w) a vs ep:=λh e=>⟨o,es,e,ex,ed,ek,iX,en⟩;have I2:Inv X aa σ (upd H1 a (.frz o (.dK kvs))) s1:=by
  have:=I1.write (x:=a) (e:=a) (o:=.frz o (.dK kvs)) (h':=s1.heap) (t':=s1.toks) (by rw[ha];exact True.intro) (.inl rfl) (λb u hb z=>z) ⟨o,e⟩ ⟨e,z,hd,vs,rel,o,es,ep,e,ex,ed,ek,iX,en⟩;exact this
 have hm:s1.heap.DictOf (gn X.prog X.w) a vs:=⟨o,es,ep,e,ex,ed,ek,iX,en⟩;refine⟨hm.typeIs,hm.mapOf.noDict,?_⟩;refine method_meetsIn PySem.F.slot_dict_items PySem.F.entry_dict_items rfl (PySem.evalArgs_none ⟨rfl,hm.typeIs,PySem.F.args_dict_items_1 _,_,meets_dict_items (gn X.prog X.w) a hd,⟨vs,hm⟩,?_⟩);have I3:Inv X aa σ (upd H1 a (.frz o (.dK kvs))) { s1 with heap:=s1.heap.push { cls:=.type "dict_items",data:=.fields #[.ref a] } }:=I2.kept (t':=s1.toks) λb ob z=>aH _ z;refine wpAny_pyIter_items ⟨_,aW _ rfl,rfl,rfl⟩ (hD _ (aH _ e)) ?_;refine⟨_,[_],_,Itp a o kvs,_,rfl,I3.kept (t':=s1.toks) λb ob z=>aH _ z,Xh _ a o kvs vs ep rel hD,⟨_,_,aW _ rfl⟩,λb hb=>?_,q o⟩;rw[YR.mp hb];exact I3.fpOk (aG _) (I3.hok.fresh (aG _))
theorem Ug:∀{ys:Φ}{vs:Θ},Vals (ys.map V.str) vs->StrsAre vs ys
 |[],_,h=>by cases h;exact .nil
 |y::ys,_,h=>by
  rw[List.map_cons]at h;cases h with
  |cons a b =>
   obtain⟨t,rfl⟩:=a;exact .cons y t (Ug b)
def rJoin:V->Ζ->Hp->VK->Prop:=λx vs H Q=>∃a l ys,x=.str a/\vs=[.ref l]/\H l=some (.lst (ys.map V.str))/\(ys.map (·.length)).sum+ys.length*a.length<=16777216/\Q (.str (Txt.join a ys)) H
def afN:MtM X "str.join" rJoin:=by
 intro aa s σ H x vs v us Q I rx rv h;obtain⟨a,l,ys,rfl,rfl,hl,hz,q⟩:=h;obtain⟨t,rfl⟩:=rx;obtain⟨u,rfl,ru⟩:=rv.one;cases ru;obtain⟨_,its,n,r,_,e⟩:=I.lstM hl;exact join_list ⟨_,e,rfl,n,rfl⟩ (by simpa using Ug r) hz λt' k=>⟨.str _,H,I.tok _,⟨_,rfl⟩,q⟩
def abM{i0:Nat}{y0:Str}{py b7:Pos}{xs N':Φ}(E:Ui X scope xs ext fn)(hc:X.calm=true)(hG:Oc xs X.N=N')(cK:scope.kind=.function)(db:∀y∈scope.names,y.2=.local->scope.names.lookup y.1=some .local)
 (cc:∀y∈scope.names,y.2=.free->X.env.kindOf y.1=some .cell\/X.env.kindOf y.1=some .free)(fS:∀y∈X.N,y∉xs->(relabel scope X.env).names.lookup y≠some .local)(hq:∀y∈X.N,y∈xs->(relabel scope X.env).names.lookup (hid y)=none)(hi:PI X tg iter wi)
 (hg:∀C s₀ H₀ ex pn,PG (X.compE ext fn N' scope xs C s₀ H₀ ex pn) tg gt)(ht:∀C s₀ H₀ ex pn,PTs (X.compE ext fn N' scope xs C s₀ H₀ ex pn) ay tc)(he:∀C s₀ H₀ ex pn,PE (X.compE ext fn N' scope xs C s₀ H₀ ex pn) aS te)(gv:PG X (.Name y0 py) (Bx i0))(gp:swapsWith (.ListComp aS [⟨tg,iter,ay,0⟩] scope pos) (some (.Name y0 py)) b7.line X.env=pure true)(hs:qV X iter) :
  PS X (.Assign [.Name y0 py] (.ListComp aS [⟨tg,iter,ay,0⟩] scope pos) b7) (aen (tR wi xs.length gt tc te) (Bx i0)):=by
 intro aa s σ H D0 I h;have h:tR wi xs.length gt tc te σ H (λx H1=>Bx i0 x σ H1 D0.nx):=h;rw[exec_Assign_Name_used _ _ _ _ gp];refine ZU (wpAny_standAt (ZU ?_));show wpAny _ X.A (comprehension (.ListComp aS [⟨tg,iter,ay,0⟩] scope pos) scope X.env _ (newList []) false (eval iter X.env) (some (assign (.Name y0 py) X.env)) >>= λ_=>_) _ _ s;refine ZU (wpAny_mono (N5 (use:=some (assign (.Name y0 py) X.env)) (post:=λ_ s'=>SP X aa D0 .next s') E hc hG cK db cc fS hq hi hg ht he hs I h λC D Hc s6 m fl kq I6 fC qn=>?_) (λ_ s' hq=>ZT (ZT hq)) λ_ _ e=>e);obtain⟨oc,es,ep,ho,nh,_⟩:=id kq;have I7:=I6.pinned (fp:=[C]) (λb hb=>by rwa[YR.mp hb]) λb hb=>by
  rw[YR.mp hb];exact⟨oc,ho,λv z=>by rw[nh]at z;cases z⟩
 show wpAny _ X.A (assign (.Name y0 py) X.env _) _ _ s6;refine thn (gv _ s6 σ Hc (.ref D) _ D0.nx I7 rfl qn) λ_ s7 hP=>?_;obtain⟨σ7,H7,Z7,q7⟩:=hP;have pn7:=Z7.pin (C,oc) (aP _ (aP _ (qN wf ho)));refine⟨m,kq.at' λo e=>?_,λh' mw=>⟨σ7,H7,Z7.unpinned.turned (it:=C) (h':=h') (t':=s7.toks) (λb o hb e=>(mw.2 b hb).trans e) pn7.2.1 fC.2.1 fC.2.2.2.1 fC.2.2.2.2.1 fC.2.2.2.2.2,q7⟩⟩;rw[ho]at e;cases e;exact pn7.1
def Inv.turnedL{t':Nat}{ch:Ψ}(I:Inv X aa σ H s)(k:∀b o,b∉ch->s.heap.get? b=some o->h'.get? b=some o)(hf:∀b∈ch,Ig X aa H b):Inv X aa σ H { s with heap:=h',toks:=t' }:=by
 have jS:∀b u,H b=some u->b∉ch:=λb u e z=>by rw[(hf b z).1]at e;cases e
 refine I.step (g':=s.gens) (d':=s.drawn) (ch:=ch) (λb hb=>⟨(hf b hb).2.2.2.1,(hf b hb).2.1,(hf b hb).2.2.2.2.1,(hf b hb).2.2.2.2.2⟩) (λb o _ _ hc e _=>k b o hc e) (λb o _ _ hc e _=>⟨o.slots,k b o hc e⟩) (λ_ _ _ _ n=>n) (λb o hc e=>⟨o,k b o hc e⟩) (λ_ _ e=>e) (λ_ _ _ e=>e) (λb ps e=>⟨#[],by rw[e];simp⟩) (λm hm=>?_) (λb u e=>?_) I.bare
 .obtain⟨o,es,ep,ho,r⟩:=hm;exact⟨o,es,ep,k _ o (λz=>(hf _ z).2.1 rfl) ho,r⟩
 .refine(I.hok b u e).stay (λc v hc q=>k c v ?_ q) (λ_ q=>q) λ_ _ q=>q;rcases hc with z|z
  .rw[z];exact jS b u e
  .exact jS c _ z
def Itz(a b:Addr):It:=⟨λi H=>∃xs ys,H a=some (.lst xs)/\H b=some (.lst ys)/\i<xs.length/\i<ys.length,λi H v H'=>∃xs ys x y t,H a=some (.lst xs)/\H b=some (.lst ys)/\xs[i]?=some x/\ys[i]?=some y/\H t=none/\v=.ref t/\H'=upd H t (.tup [x,y]),λi H=>∃xs ys,H a=some (.lst xs)/\H b=some (.lst ys)/\(xs.length<=i\/ys.length<=i)⟩
def fY{g:Heap}{l:Addr}(x:h.IsListIter a l i)(k:∀o,h.get? a=some o->g.get? a=some o):g.IsListIter a l i:=by obtain⟨o,e,r⟩:=x;exact⟨o,k o e,r⟩
def Az{vs:Θ} : Vals xs vs->∀{i:Nat}{x:V},xs[i]?=some x->∃u,vs[i]?=some u/\RelV x u:=by
 intro h
 induction h with
 |nil=>intro i x e;cases e
 |cons a b ih =>
  intro i x e;cases i with
  |zero=>rw[List.getElem?_cons_zero]at e;cases e;exact⟨_,rfl,a⟩
  |succ i=>rw[List.getElem?_cons_succ]at e ⊢;exact ih e
def ab6{x1}(z TI TO i1 i2 l1 l2:Addr)(D:ZipApart z TI TO i1 i2 l1 l2) :
  Turn P w K (.Tuple aE x1 pos) (Itz l1 l2) [z,TI,TO,i1,i2] z (λi h=>IsZip h z TI TO .none/\IsPair h TI (.ref i1) (.ref i2)/\(∃p q,IsPair h TO p q)/\h.IsListIter i1 l1 i/\h.IsListIter i2 l2 i) where
 mem:=by simp
 obj:=by
  rintro i h ⟨s1,s2,⟨p,q,s3⟩,⟨o4,s4,_,d4⟩,⟨o5,s5,_,d5⟩⟩ b hb;simp only[YU,VY,or_false]at hb;rcases hb with rfl|rfl|rfl|rfl|rfl
  .exact⟨_,s1,λv e=>by cases e⟩
  .exact⟨_,s2,λv e=>by cases e⟩
  .exact⟨_,s3,λv e=>by cases e⟩
  .exact⟨_,s4,λv e=>by rw[d4]at e;cases e⟩
  .exact⟨_,s5,λv e=>by rw[d5]at e;cases e⟩
 keep:=λi h h' ⟨s1,s2,⟨p,q,s3⟩,s4,s5⟩ k=>⟨k z wf _ s1,k TI wf _ s2,⟨p,q,k TO wf _ s3⟩,fY s4 (k i1 wf),fY s5 (k i2 wf)⟩
 item:=by
  intro X hP hw hK hc i aa s σ H E I hf st hg;subst hP hw hK;obtain⟨s1,s2,⟨p,q,s3⟩,s4,s5⟩:=st;obtain⟨xs,ys,ha,hb,kb,lT⟩:=hg;obtain⟨_,dy,n1,fA,le1,g1⟩:=I.lstM ha;obtain⟨_,gi,n2,iL,kM,g2⟩:=I.lstM hb;have ex:xs[i]?=some xs[i]:=aj kb;have ey:ys[i]?=some ys[i]:=aj lT;obtain⟨u,hu,ru⟩:=Az fA ex;obtain⟨v,hv,rv⟩:=Az iL ey;refine wpAny_pyNext_zip_item D s1 s2 s3 s4 s5 (xs:=dy.toArray) (ys:=gi.toArray) ⟨_,g1,rfl,n1,rfl⟩ ⟨_,g2,rfl,n2,rfl⟩ (x:=u) (y:=v) (by simpa using hu) (by simpa using hv) λh' a1 a2 a3 a4 a5 a6 a7=>⟨_,rfl,?_⟩;refine wpAny_letOwnedTupleGo_zip a1 λh2 fq sb=>?_;have nt:H s.heap.objs.size=none:=I.fresh;have I1:=I.laid (a:=s.heap.objs.size) (o:=.tup [xs[i],ys[i]]) (h':=s.heap.push { cls:=.type "tuple",data:=.seq #[u,v] }) (t':=s.toks) (λb q z=>aH _ z) (aG _)
   ⟨(by show 2<=sizeLine;decide),[u,v],.cons ru (.cons rv .nil),_,aW _ rfl,rfl,_,rfl⟩
  have nz:z≠s.heap.objs.size:=aQ (aK s1);have nO:TO≠s.heap.objs.size:=aQ (aK s3);have nI:TI≠s.heap.objs.size:=aQ (aK s2);have lS:i1≠s.heap.objs.size:=by obtain⟨o,e,_⟩:=s4;exact aQ (aK e)
  have n2':i2≠s.heap.objs.size:=by obtain⟨o,e,_⟩:=s5;exact aQ (aK e)
  have hV:∀b∈[z,TI,TO,i1,i2],upd H s.heap.objs.size (.tup [xs[i],ys[i]]) b=none:=by
   intro b hb;have f0:=(hf b hb).1;simp only[YU,VY,or_false]at hb;rcases hb with rfl|rfl|rfl|rfl|rfl
   .exact(cB nz).trans f0
   .exact(cB nI).trans f0
   .exact(cB nO).trans f0
   .exact(cB lS).trans f0
   .exact(cB n2').trans f0
  have I2:=I1.turnedL (ch:=[z,TO,i1,i2]) (h':=h2) (t':=s.toks) (λb ob hb e=>by
   simp only[YU,VY,or_false,not_or]at hb;obtain⟨b1,b2,b3,b4⟩:=hb;refine(sb.2 b b1).trans ?_;by_cases hs:b=s.heap.objs.size
   .subst hs;have e2:=aW s.heap (o:={ cls:=.type "tuple",data:=.seq #[u,v] }) rfl;have e:(s.heap.push { cls:=.type "tuple",data:=.seq #[u,v] }).get? s.heap.objs.size=some ob:=e;rw[e2]at e;cases e;exact a5
   .exact a7 b _ b1 b2 b3 b4 (Ba e hs)) λb hb=>by
    have fc:b∈[z,TI,TO,i1,i2]:=by
     simp only[YU,VY,or_false]at hb ⊢;rcases hb with h|h|h|h<;>simp[h]
    exact⟨hV b fc,(hf b fc).2⟩
  have mv:∀c o,c≠z->h'.get? c=some o->h2.get? c=some o:=λc o n e=>(sb.2 c n).trans e;exact⟨.ref _,_,I2,rfl,⟨xs,ys,_,_,_,ha,hb,ex,ey,nt,rfl,rfl⟩,⟨fq,mv _ _ D.TIz (a7 _ _ D.TIz D.TITO D.TIi1 D.TIi2 s2),⟨_,_,mv _ _ D.TOz a2⟩,fY a3 λo e=>mv _ _ D.i1z e,fY a4 λo e=>mv _ _ D.i2z e⟩,hV⟩
 done:=by
  intro X hP hw hK hc i aa s σ H E I hf st hg;subst hP hw hK;obtain⟨s1,s2,⟨p,q,s3⟩,s4,s5⟩:=st;obtain⟨xs,ys,ha,hb,lt⟩:=hg;obtain⟨_,dy,n1,fA,le1,g1⟩:=I.lstM ha;obtain⟨_,gi,n2,iL,kM,g2⟩:=I.lstM hb;refine wpAny_pyNext_zip_end (I.ok.hd hc) D s1 s2 s3 s4 s5 (xs:=dy.toArray) (ys:=gi.toArray) ⟨_,g1,rfl,n1,rfl⟩ ⟨_,g2,rfl,n2,rfl⟩ (by simp;lia) λh' k=>⟨rfl,I.turnedL (ch:=[z,TO,i1,i2]) (t':=s.toks) (λb ob hb e=>?_) λb hb=>?_⟩
  .simp only[YU,VY,or_false,not_or]at hb;exact k b ob hb.1 hb.2.1 hb.2.2.1 hb.2.2.2 e
  .exact hf b (by
    simp only[YU,VY,or_false]at hb ⊢;rcases hb with h|h|h|h<;>simp[h])
 self:=λ_ _ _ _ _ ⟨s1,_⟩ h=>wpAny_pyIter_zip s1 h
def aa3(n l1 l2:Nat)(h1:l1<n)(h2:l2<n):ZipApart (n+4) (n+2) (n+3) n (n+1) l1 l2:=by
 constructor<;>first|exact aQ (by omega)|exact VQ wv
def ags(n b:Nat)(h:b=n+4\/b=n+2\/b=n+3\/b=n\/b=n+1):n<=b:=by lia
def boot_zip:bootBuiltins "zip"=some (.type "zip"):=by decide +kernel
def apV(ta:TA):TI:=λσ H R=>ta σ H λvs H1=>∃a b xs ys,vs=[.ref a,.ref b]/\H1 a=some (.lst xs)/\H1 b=some (.lst ys)/\R (Itz a b) H1
def ajp{a b:Expr}{ta:TA}{x1}{aw:Pos}(hg:Gl X "zip")(hm:X.mg "zip"=none)(ha:PA X [a,b] ta)(hs:starEach [a,b] X.env=[(false,eval a X.env),(false,eval b X.env)]:=by rfl)(dQ:starEach [b] X.env=[(false,eval b X.env)]:=by rfl) :
  PI X (.Tuple aE x1 aw) (.Call (.Name "zip" p) [a,b] [] pos) (apV ta):=by
 intro aa s σ H R I h;refine Call_ (zW I hg hm boot_zip (PyProof.Rows.callWith_type1 (thn (ha pos aa s σ H _ I h) λus s1 hP=>?_) (by rw[hs,dQ]) (by rw[dQ];rfl)));obtain⟨vs,H1,I1,r1,q1⟩:=hP;obtain⟨l1,l2,xs,ys,e,h1,h2,q⟩:=q1;subst e;obtain⟨u,v,rfl,ru,rv⟩:=r1.two;cases ru;cases rv;obtain⟨_,dy,n1,fA,le1,g1⟩:=I1.lstM h1;obtain⟨_,gi,n2,iL,kM,g2⟩:=I1.lstM h2;have z1:=aK g1;have z2:=aK g2;refine call_zip_2 (xs:=dy.toArray) (ys:=gi.toArray) ⟨_,g1,rfl,n1,rfl⟩ ⟨_,g2,rfl,n2,rfl⟩ λh' a1 a2 a3 a4 a5 a6 a7=>?_;refine wpAny_pyIter_zip a1 ?_;refine⟨_,[s1.heap.objs.size+4,s1.heap.objs.size+2,s1.heap.objs.size+3,s1.heap.objs.size,s1.heap.objs.size+1],_,Itz l1 l2,H1,rfl,I1.kept (t':=s1.toks) λb ob e=>a7 b ob e,ab6 _ _ _ _ _ l1 l2 (aa3 _ _ _ z1 z2),⟨a1,a2,⟨_,_,a3⟩,a4,a5⟩,λb hb=>?_,q⟩;have fc:s1.heap.objs.size<=b:=by
  simp only[YU,VY,or_false]at hb;exact ags _ _ hb
 exact I1.fpOk fc (I1.hok.fresh fc)
def rlb(sc scope:Scope):Scope:={ scope with names:=scope.names.map λ(n,k)=>if(k==NameKind.free&&sc.kind == .function&&sc.names.lookup n==some .cell)then(n,NameKind.cell)else(n,k) }
theorem Zv(c:Nat):∀(n:Nat)(acc:Array Nat),((List.replicate n #[c]).foldl (· ++ ·) acc).toList=acc.toList++List.replicate n c
 |0,acc=>by simp
 |n+1,acc=>by
  rw[List.replicate_succ,List.foldl_cons,Zv c n,Array.toList_append,Wp]
  rfl
def anz:R2:=λx y H Q=>∃c n,x=.str ⟨#[c]⟩/\y=.int n/\1<=n/\n<=1000/\∀z:Str,z.cps.toList=List.replicate n.toNat c->Q (.str z) H
def afC:OpR X (binaryOp .Mult) anz:=by
 intro aa s σ H x y v u Q I rx ry h;obtain⟨c,n,rfl,rfl,h0,h1,q⟩:=h;obtain⟨t,rfl⟩:=rx;obtain⟨t',rfl⟩:=ry;have hi:(⟨#[c]⟩ : Str).length=1:=rfl;have made:∀z:Str,z.cps.toList=List.replicate n.toNat c->(Made.str z).post (EP X aa σ Q) s:=λz hz=>⟨by
  have:z.length=n.toNat:=by
   show z.cps.size=_;rw[<- Array.length_toList,hz,aN]
  exact aL (show z.length<=1001 by lia) wx,.str z,H,I.tok _,⟨_,rfl⟩,q z hz⟩
 refine PySem.P.mul_str ?_ (λ_ _=>?_) (λ_ _=>?_) ?_
 .rw[Zp wv,Zp wv];rfl
 .rw[hi];have:1<=(2^63-1:Int)/n:=Int.le_ediv_of_mul_le (by omega) wv;lia
 .rw[hi];unfold Builtin.Str.tooLong;exact Zp (by
   have:n.toNat<=1000:=by lia
   have e:1000<=sizeLine:=by decide
   lia)
 .split
  .lia
  .split
   .rename_i hc
    rw[hi]at hc;have e:n.toNat=1:=by
     simp at hc;lia
    refine⟨.str ⟨#[c]⟩,H,I,⟨t,rfl⟩,q _ ?_⟩;rw[e];rfl
   .refine made _ ?_;show((List.replicate n.toNat #[c]).foldl (· ++ ·) #[]).toList=_;rw[Zv];rfl
def Cx.compGC(X:Cx)(N':Φ)(scope:Scope)(x0:Str)(C:Addr)(s₀:Shared)(H₀:Hp)(ex:Ψ)(pn:Δ):Cx :=
 { X with env:=compEnvC scope ((x0,C+1)::vf X.env.cells scope.names []) C X.env,N:=[x0]++N',s₀:=s₀,H₀:=H₀,outer:=X.stack,ex:=ex,fn:=λz=>z==x0,pn:=pn,xe:=λ_ _=>False }
theorem BJ{env:Env}{x0:Str} : ∀{names:xF}{y:Str},y≠x0->((names.map λ(n,k)=>if(k==NameKind.free&&env.scope.kind == .function&&env.kindOf n==some .cell)then(n,NameKind.cell)else(n,k)).lookup y=some .cell \/
  (names.map λ(n,k)=>if(k==NameKind.free&&env.scope.kind == .function&&env.kindOf n==some .cell)then(n,NameKind.cell)else(n,k)).lookup y=some .free)->(∀z∈names,z.2=.cell->z.1=x0)->(y,NameKind.free)∈names
 |[],y,_,h,_=>by rcases h with h|h<;>cases h
 |(n,k)::r,y,ny,h,hc=>by
  have ih:=@BJ env x0 r y ny;have df:∀z∈r,z.2=.cell->z.1=x0:=λz hz=>hc z (aJ _ hz);simp only[List.map_cons]at h;by_cases hcond:(k==NameKind.free&&env.scope.kind == .function&&env.kindOf n==some .cell)=true
  .rw[ZY hcond]at h;have hk:k=.free:=by
    simp only[QP,beq_iff_eq]at hcond;exact hcond.1.1
   subst hk;simp only[List.lookup_cons]at h;cases hb:y==n with
   |true=>rw[show y=n by simpa using hb];exact aO
   |false=>rw[hb]at h;exact aJ _ (ih h df)
  .rw[ZZ hcond]at h;simp only[List.lookup_cons]at h;cases hb:y==n with
   |true =>
    have e:y=n:=by simpa using hb
    rw[hb]at h;rcases h with h|h
    .cases h;exact absurd (e.trans (hc (n,.cell) aO rfl)) ny
    .cases h;rw[e];exact aO
   |false=>rw[hb]at h;exact aJ _ (ih h df)
def Nt{M:Model}{globals:Addr}{bE:xk}{outer:Env}{Q:Env->Shared->Prop}(gy:∀n acc,cellsFrom n scope.names acc=(x0,n)::acc)(gu:∀h,pushCells h scope.names=h.push { cls:=.type "cell",data:=.cell none })
 (hQ:∀g,g.Ns s.heap.objs.size (λx=>([] : xp).reverse.lookup x)->g.IsCell (s.heap.objs.size+1) none->(∀b o,s.heap.get? b=some o->g.get? b=some o)->Q (newEnv scope s.heap.objs.size globals ((x0,s.heap.objs.size+1)::bE) am none .none (some outer) builtinsNs) { s with heap:=g,toks:=s.toks+([] : xp).length }) :
  wpAny M A (newFunctionEnv scope globals bE [] am none .none (some outer)) Q E s:=by
 simp only[newFunctionEnv,Option.isSome_some,if_true];refine ZU (wpAny_alloc ?_);refine ZU (wpAny_layCells _ (λname kind cells=>by cases hkc:kind==NameKind.cell<;>simp[hkc]) _ _ _ _ ?_);rw[gy,gu];have z1:(s.heap.push { cls:=.type "dict",data:=.dict #[] }).objs.size=s.heap.objs.size+1:=Heap.size_push ..;show wpAny _ _ (forIn ([] : xp) _ _ >>= _) _ _ _;rw[List.forIn_nil];refine ZU (ZT (ZT ?_));have c1:=aW (s.heap.push { cls:=.type "dict",data:=.dict #[] }) (o:={ cls:=.type "cell",data:=.cell none }) rfl;rw[z1]at c1;show Q (newEnv scope s.heap.objs.size globals ((x0,(s.heap.push { cls:=.type "dict",data:=.dict #[] }).objs.size)::bE) am none .none (some outer) builtinsNs) _;rw[z1];exact hQ _ ((Heap.Ns.new s.heap (.type "dict")).at' λo e=>aH _ e) ⟨_,c1,rfl⟩ λb o e=>aH _ (aH _ e)
def Zq{y:Str}{d c:Addr}(e : [(x0,d)].lookup y=some c):y=x0/\c=d:=by
 rw[List.lookup_cons]at e;cases hy:y==x0 with
 |true=>rw[hy]at e;cases e;exact⟨by simpa using hy,rfl⟩
 |false=>rw[hy]at e;cases e
def ext1(gy:∀n acc,cellsFrom n scope.names acc=(x0,n)::acc)(gu:∀h,pushCells h scope.names=h.push { cls:=.type "cell",data:=.cell none })(nE:∀y∈scope.names,y.2=.cell->y.1=x0):Ui X scope [x0] (λC=>[(x0,C+1)]) (λz=>z==x0) :=
 ⟨λhQ=>Nt gy gu λg eS ir kg=>hQ g eS (λy c e=>by rwa[(Zq e).2]) kg,λC y c e=>by rw[(Zq e).2];exact X0 _,λC y z c e1 e2=>(Zq e1).1.trans (Zq e2).1.symm,λC y e=>⟨C+1,by rw[beq_iff_eq.mp e];exact List.lookup_cons_self⟩,λC y e=>by
  rw[List.lookup_cons,beq_eq_false_iff_ne.mpr λz=>e (by rw[z];simp)]
  rfl,λC y e=>by
  by_cases ny:y=x0
  .exact .inl ⟨C+1,by rw[ny];exact List.lookup_cons_self⟩
  .exact .inr (BJ ny e nE)⟩
def aks:Ζ->Hp->VK->Prop:=λxs H Q=>∃(l:Addr)(bs:zi),xs=[.ref l]/\H l=some (.lst (bs.map V.bl))/\Q (.bl (bs.any id)) H
theorem xM:∀bs:zi,((List.range bs.length).any λi=>(bs[i]?).getD true)=bs.any id
 |[]=>rfl
 |b::bs=>by
  rw[List.length_cons,List.range_succ_eq_map,List.any_cons,UK,List.any_cons];have:=xM bs;simp only[Function.comp_def,List.getElem?_cons_succ,List.getElem?_cons_zero,Q1,id]at this ⊢;rw[this]
def aag(hc:X.calm=true):jo X (.builtin "any") aks:=by
 intro aa s σ H xs us Q I r h;obtain⟨l,bs,rfl,hl,q⟩:=h;obtain⟨u,rfl,ru⟩:=r.one;cases ru;obtain⟨its,rv,p⟩:=I.lstIs hl;have fh:l<s.heap.objs.size:=by obtain⟨_,e,_⟩:=p;exact aK e
 refine call_any_walk (wpAny_pyIter_list p ?_);refine⟨s.heap.objs.size,[s.heap.objs.size,l],[s.heap.objs.size],its.toArray.size,_,_,λi=>(bs[i]?).getD true,rfl,Walks.list (A:=X.A.in1) (I.ok.hd hc) _ l (aQ fh) its.toArray,
  ⟨⟨_,aW _ rfl,rfl,rfl⟩,p.push _⟩,λi v s' Q' E' hP hQ=>?_,λh' tk hk=>?_⟩
 .obtain⟨b,e,rfl⟩:=Gv rv i v (by simpa using hP);simp only[e,Q1]at hQ;exact wpAny_truthy_bool hQ
 .have e:((List.range its.toArray.size).any λi=>(bs[i]?).getD true)=bs.any id:=by
   rw[aX,<- rv.length,ak];exact xM bs
  refine⟨.bl (bs.any id),H,I.kept (t':=tk) λb o q=>hk b o (λhm=>?_) (aH _ q),?_,q⟩
  .rw[YR.mp hm]at q;exact X2 _ (aK q)
  .rw[e];rfl
def Ite(l:Addr):It:=⟨λi H=>∃xs,H l=some (.lst xs)/\i<xs.length,λi H v H'=>∃xs x t,H l=some (.lst xs)/\xs[i]?=some x/\H t=none/\v=.ref t/\H'=upd H t (.tup [.int i,x]),λi H=>∃xs,H l=some (.lst xs)/\xs.length<=i⟩
def aaF{x1}(e it l:Addr)(eT:e≠it) :
  Turn P w K (.Tuple aE x1 pos) (Ite l) [e,it] e (λi h=>(∃old,IsEnum h e it ((i:Nat):Int) old)/\h.IsListIter it l i) where
 mem:=by simp
 obj:=by
  rintro i h ⟨⟨old,s1⟩,⟨o4,s4,_,d4⟩⟩ b hb;simp only[YU,VY,or_false]at hb;rcases hb with rfl|rfl
  .exact⟨_,s1,λv e=>by cases e⟩
  .exact⟨_,s4,λv e=>by rw[d4]at e;cases e⟩
 keep:=λi h h' ⟨⟨old,s1⟩,s4⟩ k=>⟨⟨old,k e wf _ s1⟩,fY s4 (k it wf)⟩
 item:=by
  intro X hP hw hK hc i aa s σ H E I hf st hg;subst hP hw hK;obtain⟨⟨old,s1⟩,s4⟩:=st;obtain⟨xs,ha,kb⟩:=hg;obtain⟨_,dy,n1,fA,le1,g1⟩:=I.lstM ha;have ex:xs[i]?=some xs[i]:=aj kb;obtain⟨u,hu,ru⟩:=Az fA ex;refine wpAny_pyNext_enum_item s1 s4 (items:=dy.toArray) ⟨_,g1,rfl,n1,rfl⟩ (x:=u) (by simpa using hu) eT λh' a1 a3 a5 a6 a7=>⟨_,rfl,?_⟩;refine wpAny_letOwnedTupleGo_enum a1 λh2 fq sb=>?_;have nt:H s.heap.objs.size=none:=I.fresh;have I1:=I.laid (a:=s.heap.objs.size) (o:=.tup [.int i,xs[i]]) (h':=s.heap.push { cls:=.type "tuple",data:=.seq #[.int i s.toks,u] }) (t':=s.toks+1) (λb q z=>aH _ z) (aG _)
   ⟨(by show 2<=sizeLine;decide),[.int i s.toks,u],.cons ⟨_,rfl⟩ (.cons ru .nil),_,aW _ rfl,rfl,_,rfl⟩
  have nz:e≠s.heap.objs.size:=aQ (aK s1);have lS:it≠s.heap.objs.size:=by obtain⟨o,e,_⟩:=s4;exact aQ (aK e)
  have hV:∀b∈[e,it],upd H s.heap.objs.size (.tup [.int i,xs[i]]) b=none:=by
   intro b hb;have f0:=(hf b hb).1;simp only[YU,VY,or_false]at hb;rcases hb with rfl|rfl
   .exact(cB nz).trans f0
   .exact(cB lS).trans f0
  have I2:=I1.turnedL (ch:=[e,it]) (h':=h2) (t':=s.toks+1) (λb ob hb z=>by
   simp only[YU,VY,or_false,not_or]at hb;obtain⟨b1,b3⟩:=hb;refine(sb.2 b b1).trans ?_;by_cases hs:b=s.heap.objs.size
   .subst hs;have e2:=aW s.heap (o:={ cls:=.type "tuple",data:=.seq #[.int i s.toks,u] }) rfl;have z:(s.heap.push { cls:=.type "tuple",data:=.seq #[.int i s.toks,u] }).get? s.heap.objs.size=some ob:=z;rw[e2]at z;cases z;exact a5
   .exact a7 b _ b1 b3 (Ba z hs)) λb hb=>⟨hV b hb,(hf b hb).2⟩
  have mv:∀c o,c≠e->h'.get? c=some o->h2.get? c=some o:=λc o n z=>(sb.2 c n).trans z;exact⟨.ref _,_,I2,rfl,⟨xs,_,_,ha,ex,nt,rfl,rfl⟩,⟨⟨_,by rwa[Int.natCast_add]⟩,fY a3 λo z=>mv _ _ (λy=>eT y.symm) z⟩,hV⟩
 done:=by
  intro X hP hw hK hc i aa s σ H E I hf st hg;subst hP hw hK;obtain⟨⟨old,s1⟩,s4⟩:=st;obtain⟨xs,ha,lt⟩:=hg;obtain⟨_,dy,n1,fA,le1,g1⟩:=I.lstM ha;have hl:=fA.length;refine wpAny_pyNext_enum_end (I.ok.hd hc) s1 s4 (items:=dy.toArray) ⟨_,g1,rfl,n1,rfl⟩ (by simp;lia) λh' k=>⟨rfl,I.turnedL (ch:=[e,it]) (t':=s.toks) (λb ob hb z=>?_) hf⟩;simp only[YU,VY,or_false,not_or]at hb;exact k b ob hb.2 z
 self:=λ_ _ _ _ _ ⟨⟨_,s1⟩,_⟩ h=>wpAny_pyIter_enum s1 h
def akd(ta:TA):TI:=λσ H R=>ta σ H λvs H1=>∃a xs,vs=[.ref a]/\H1 a=some (.lst xs)/\R (Ite a) H1
def ael{a:Expr}{ta:TA}{x1}{aw:Pos}(hg:Gl X "enumerate")(hm:X.mg "enumerate"=none)(ha:PA X [a] ta)(hs:starEach [a] X.env=[(false,eval a X.env)]:=by rfl) :
  PI X (.Tuple aE x1 aw) (.Call (.Name "enumerate" p) [a] [] pos) (akd ta):=by
 intro aa s σ H R I h;refine Call_ (zW I hg hm boot_enumerate (PyProof.Rows.callWith_type1 (thn (ha pos aa s σ H _ I h) λus s1 hP=>?_) (by rw[hs];rfl) (by rfl)));obtain⟨vs,H1,I1,r1,q1⟩:=hP;obtain⟨l1,xs,e,h1,q⟩:=q1;subst e;obtain⟨u,rfl,ru⟩:=r1.one;cases ru;obtain⟨_,dy,n1,fA,le1,g1⟩:=I1.lstM h1;refine call_enumerate_list (items:=dy.toArray) ⟨_,g1,rfl,n1,rfl⟩ λh' a1 a2 a3 a7=>?_;refine wpAny_pyIter_enum a1 ?_;refine⟨_,[s1.heap.objs.size+1,s1.heap.objs.size],_,Ite l1,H1,rfl,I1.kept (t':=s1.toks) λb ob e=>a7 b ob e,aaF _ _ l1 (Nat.succ_ne_self _),⟨⟨_,a1⟩,a2⟩,λb hb=>?_,q⟩;have fc:s1.heap.objs.size<=b:=by
  simp only[YU,VY,or_false]at hb;rcases hb with z|z
  .rw[z];exact Xs _
  .rw[z];exact aG _
 exact I1.fpOk fc (I1.hok.fresh fc)
def OkV(P:Program)(w:World)(K:Frag)(mg:Str->Ω)(base:Heap)(k:Nat)(f:Addr)(ps:Φ)(sp:Sp):Prop:=∃fd,gY P w K mg base CX0 k f fd ps sp/\Binds K fd ps []/\keepIn K (.ref f)=true
def OkF.val(G:OkF P w K mg base k x ps sp):∃f,mg x=some (.ref f)/\OkV P w K mg base k f ps sp :=
 let⟨f,fd,F,b,hm,kp⟩:=G
 ⟨f,hm,fd,F,b,kp⟩
def ajo(f:Addr)(sp:Sp)(tv:TE)(t:TA):TE:=λσ H Q=>tv σ H λv H0=>v=.ref f/\t σ H0 λvs H1=>sp vs H1 Q E0
def acR(G:OkV X.prog X.w X.K X.mg X.base k f ps sp)(hr:eY k X.A)(hv:PE X (.Name x p) tv)(ha:PA X (e::es) t)
 (he:qo X e es:=by rfl)(br:qh X pos es:=by rfl):PE X (.Call (.Name x p) (e::es) [] pos) (ajo f sp tv t):=by
 obtain⟨fd,F,b,hk⟩:=G;intro aa s σ H Q I h;refine wpAny_Call_Name_kw (thn (hv aa s σ H _ I h) ?_);rintro u s0 ⟨v,H0,I0,r0,rfl,q0⟩;cases r0;refine callWith_K (h₀:=X.base) I0.ok.mod.kin hk (thn (ha pos aa s0 σ H0 _ I0 q0) λus s1 ⟨vs,H1,I1,r,q⟩=>⟨I1.kIn,?_⟩) he br;refine J7 F hr b .nil OD I1 r ?_;rwa[List.append_nil]
abbrev alN(C t:Addr)(d:Ξ):Obj:={ cls:=.ref C,dict:=d,data:=.fields #[.ref t,.none,.none,.none,.bool false,.none] }
def XN(a C:Addr)(d:Ξ):HO:=.ext λh=>∃t,h.get? a=some (alN C t d)
def out(H:Hp)(a:Addr):Hp:=λb=>if b=a then none else H b
def fsc{N P:Φ}{sc:Scope}(h1:sc.kind=.function:=by rfl)(h2:sc.isCoroutine=false:=by rfl)(h3:sc.isGenerator=false:=by rfl)(h4:N.Nodup/\(∀x∈P,sc.names.lookup x=some .local\/sc.names.lookup x=some .cell)/\∀y∈sc.names,y.2≠.free:=by decide +kernel)(h5:N.take P.length=P:=by rfl):bL N P sc:=⟨h1,h2,h3,h4.1,h5,h4.2.1,h4.2.2⟩
abbrev CK0(sc scope:Scope)(N N' xs:Φ):Prop:=Oc xs N=N'/\(∀y∈scope.names,y.2=.local->scope.names.lookup y.1=some .local)/\(∀y∈scope.names,y.2=.free->sc.names.lookup y.1=some .cell\/sc.names.lookup y.1=some .free) /\
 (∀y∈N,y∉xs->(scope.names.map λ(n,k)=>if(k==NameKind.free&&sc.kind == .function&&sc.names.lookup n==some .cell)then(n,NameKind.cell)else(n,k)).lookup y≠some .local)/\∀y∈N,y∈xs->(scope.names.map λ(n,k)=>if(k==NameKind.free&&sc.kind == .function&&sc.names.lookup n==some .cell)then(n,NameKind.cell)else(n,k)).lookup (hid y)=none
abbrev CK(sc scope:Scope)(N N' xs:Φ):Prop:=(∀y∈scope.names,y.2≠.cell)/\CK0 sc scope N N' xs
def adx(sc:Scope)(N N' xs:Φ)(hi:PI X tg iter wi)(hg:∀{C s₀ H₀ ex pn},PG (X.compG N' scope xs C s₀ H₀ ex pn) tg gt)(ht:∀{C s₀ H₀ ex pn},PTs (X.compG N' scope xs C s₀ H₀ ex pn) ay tc)(he:∀{C s₀ H₀ ex pn},PE (X.compG N' scope xs C s₀ H₀ ex pn) aS te)
 (b9:X.env.scope=sc:=by rfl)(ck:X.N=N:=by rfl)(hc:X.calm=true:=by rfl)(hk:scope.kind=.function:=by rfl)(h:CK sc scope N N' xs:=by decide +kernel)(hs:qV X iter:=by intro _;rfl):PE X (.ListComp aS [⟨tg,iter,ay,0⟩] scope pos) (tR wi xs.length (tMG gt) (tMT tc) (tM te)) :=
 by
 subst b9 ck;exact U3 (am7 hk h.1) hc h.2.1 hk h.2.2.1 h.2.2.2.1 h.2.2.2.2.1 h.2.2.2.2.2 hi (λ_ _ _ _ _=>hg.mono) (λ_ _ _ _ _=>ht.mono) (λ_ _ _ _ _=>he.mono) hs
def anG{i j:Int}{d:Ξ}{n:Nat}{sl:Array (Ω)}{t u:Tok}(l:K.lookup a=some ⟨.type "tuple",d,.seq #[.int i t,.int j u] n,sl⟩):∀H,SqT K H a [.int i,.int j]:=λH=>.inr ⟨_,_,_,l,rfl,rfl,(by show 2<=sizeLine;decide),.cons ⟨_,rfl⟩ (.cons ⟨_,rfl⟩ .nil)⟩
def aoP{i:Int}{t:Tok}(X:K.In h)(G:h.Ns mainGlobals mg)(l:nsIn K mainGlobals x=some (some (.int i t))):∃u,mg x=some u/\RelV (.int i) u:=⟨_,mg_of X G l,_,rfl⟩
def Lst:Nat->(Θ->Prop)->Prop
 |0,P=>P []
 |n+1,P=>∀a,Lst n λl=>P (a::l)
theorem Pk:∀(n:Nat){P:Θ->Prop},Lst n P->∀us:Θ,us.length=n->P us
 |0,_,h,[],_=>h
 |n+1,_,h,a::l,e=>Pk n (h a) l (Nat.succ.inj e)
section
variable{K:Frag}{h:Heap}{mg:Str->Ω}{x m am:Str}{v:Value}{C f:Addr}{st:Stmt}{ps:Φ}{oc:Value}{od an:Ξ}{eP:Array (Ω)}{kV bz pm ag ct:Value}{i j:Int}{d:Ξ}{n:Nat}{sl:Array (Ω)}{t u:Tok}
def q_c(X:K.In h:=by assumption)(G:h.Ns mainGlobals mg:=by assumption)(e:nsIn K mainGlobals x=some (some v):=by k_is):mg x=some v:=mg_of X G e
def q_z(X:K.In h:=by assumption)(G:h.Ns mainGlobals mg:=by assumption)(e:nsIn K mainGlobals x=some none:=by k_is):mg x=none:=PySem.W.mg_none_of X G e
def q_n(e:findIn K (.ref C) x=some none:=by k_is):cu K C x:=e
def q_m(a:findIn K (.ref C) m=some (some (.ref f)):=by k_is)(b:isFn K (.ref f)=true:=by k_is)(c:keepIn K (.ref f)=true:=by k_is):Meth K C m f:=⟨a,b,c⟩
def q_M(a:makesIn K C=true:=by k_is)(b:findIn K (.ref C) "__init__"=some (some (.ref f)):=by k_is)(c:isFn K (.ref f)=true:=by k_is)(e:keepIn K (.ref C)=true:=by k_is):Mk K C f:=⟨a,b,c,e⟩
def q_4(a:plainGet K C Str.empty=true:=by k_is)(b:hasDictIn K C=true:=by k_is)(c:plainOver K C=true:=by k_is)(e:findIn K (.ref C) "__setattr__"=some (some (.builtin "object.__setattr__")):=by k_is):Cls K C:=⟨a,b,c,e⟩
def q_B(a:specialIn K (.ref C) "__getattribute__"=some (some (.builtin "type.__getattribute__")):=by k_is)(b:readsIn K C (.type "type")=true:=by k_is)(c:findCls K (.ref C) (.type "type") m=some (.val (.ref f)):=by k_is)(e:keepIn K (.ref f)=true:=by k_is):HJ K C m f:=⟨a,b,c,rfl,e⟩
def q_g(X:K.In h:=by assumption)(G:h.Ns mainGlobals mg:=by assumption)(l:nsIn K mainGlobals x=some (some (.int i t)):=by k_is):∃u,mg x=some u/\RelV (.int i) u:=aoP X G l
def q_t(l:K.lookup C=some ⟨.type "tuple",d,.seq #[.int i t,.int j u] n,sl⟩:=by k_is):∀H,SqT K H C [.int i,.int j]:=anG l
def q_f(hb:∀(kV bz pm:Value)(an:Ξ)(ag ct:Value),Lst ps.length λus=>bindArgs (PySem.W.fnOf x x (jE st) (gk st) (bH st) .none kV bz pm an ag ct) ⟨us,[]⟩=pure (ps.zip us):=by repeat (first|rfl|intro _))(X:K.In h:=by assumption)(G:h.Ns mainGlobals mg:=by assumption)
 (a:nsIn K mainGlobals x=some (some (.ref f)):=by k_is)(l:K.lookup f=some ⟨oc,od,.func (PySem.W.fnOf x x (jE st) (gk st) (bH st) .none kV bz pm an ag ct),eP⟩:=by k_is)
 (c:codeIn K ag x=true:=by k_is)(k:keepIn K (.ref f)=true:=by k_is):cC K mg x st ps:=aeL X G a l c k λkV bz pm an ag ct us e=>Pk _ (hb kV bz pm an ag ct) us e
def q_h(hb:∀(kV bz pm:Value)(an:Ξ)(ag ct:Value),Lst ps.length λus=>bindArgs (PySem.W.fnOf x am (jE st) (gk st) (bH st) .none kV bz pm an ag ct) ⟨us,[]⟩=pure (ps.zip us):=by repeat (first|rfl|intro _))
 (l:K.lookup f=some ⟨oc,od,.func (PySem.W.fnOf x am (jE st) (gk st) (bH st) .none kV bz pm an ag ct),eP⟩:=by k_is)(c:codeIn K ag am=true:=by k_is)(k:keepIn K (.ref f)=true:=by k_is):CV K x am st ps f:=afP l c k λkV bz pm an ag ct us e=>Pk _ (hb kV bz pm an ag ct) us e
end
def aoo:R2:=λx y H Q=>∃l b xs zs,x=.ref l/\y=.ref b/\H l=some (.lst xs)/\H b=some (.lst zs)/\xs.length+zs.length<=sizeLine/\∀p H',Same H H'->H p=none->H' p=some (.lst (xs++zs))->Q (.ref p) H'
def aek:OpR X (binaryOp .Add) aoo:=aiK.imp λx y H Q hP=>by obtain⟨l,b,xs,zs,e1,e2,h1,h2,z,q⟩:=hP;exact⟨l,b,xs,zs,e1,e2,h1,h2,z,λp hp=>q p _ (Same.upd hp) hp cM⟩
section
variable{X:Cx}{k:Nat}{f C B:Addr}{ps:Φ}{sp:Sp}{x m:Str}{p pos ah:Pos}{e:Expr}{es:zt}{t:TA}
def ajq(C:Addr)(sp:Sp)(t:TA):TE:=λσ H Q=>t σ H λvs H1=>∀x dx,H1 x=none->H1 dx=none->dx≠x->sp (.ref x::vs) (upd (upd H1 dx (.own x)) x (.ins C dx [])) (λv H2=>v=.non/\Q (.ref x) H2) E0
def abD(M:Mk X.K C f)(G:zw X CX0 k f ps sp)(hr:eY (k+1) X.A)(hg:Gl X x)(hm:X.mg x=some (.ref C))(ha:PA X (e::es) t)(cf:qk x:=by decide)
 (he:qo X e es:=by rfl)(br:qh X pos es:=by rfl):PE X (.Call (.Name x p) (e::es) [] pos) (ajq C sp t):=by
 obtain⟨fd,F,hb⟩:=G;refine(aeB M F hr hg hm hb .nil OD ha.mono cf he br).imp λσ H Q h=>⟨_,h,λvs H1 q x dx h1 h2 h3=>?_⟩;rw[List.append_nil];exact q x dx h1 h2 h3
def aed(c:HJ X.K B m f)(G:zw X CX0 k f ps sp)(hr:eY k X.A)(hg:Gl X x)(hm:X.mg x=some (.ref B))(ha:PA X (e::es) t)(cf:qk x:=by decide)
 (b8:qo X e es:=by rfl)(br:qh X pos es:=by rfl)
 (ht:eval (.Call (.Attribute (.Name x p) m ah) (e::es) [] pos) X.env=(do
   let ov <- eval (.Name x p) X.env
   standAt ah.atName
   let(f,first) <- holding [ov] (getMethod ov m pl)
   callWith pos f first (backTo pos (starEach (e::es) X.env)) (backToKw pos (keywordEach [] X.env))):=by rfl) :
  PE X (.Call (.Attribute (.Name x p) m ah) (e::es) [] pos) (Yt sp t):=by
 obtain⟨fd,F,hb⟩:=G;exact agd (pl:=pl) c F hr hg hm hb ha cf b8 br ht
end
inductive T where
 |any|non|bl (b:Bool)|int (i:Int)|str (s:Str)|val (v:V)
 |tup (ts:List T)|lst (ts:List T)|scr (ts:List T)
 |dct (ks:xh) (ts:List T)|ins (C:Addr) (ks:Φ) (ts:List T)|exc (C:Addr) (ks:Φ) (ts:List T)
abbrev zh:=List T
abbrev wq:=List zh
def agD(F:Hp):Ξ->xn->Prop
 |none,l=>l=[]
 |some d,l=>F d=some (.xd l)
mutual
inductive Rep(K:Frag)(F:Hp):V->T->Prop
 |any (v:V):Rep K F v .any
 |non:Rep K F .non .non
 |bl (b:Bool):Rep K F (.bl b) (.bl b)
 |int (i:Int):Rep K F (.int i) (.int i)
 |str (s:Str):Rep K F (.str s) (.str s)
 |val (v:V):Rep K F v (.val v)
 |tup {a:Addr}{xs:Ζ}{ts:zh} : SqT K F a xs->cg K F xs ts->Rep K F (.ref a) (.tup ts)
 |lst {a:Addr}{xs:Ζ}{ts:zh} : F a=some (.lst xs)->cg K F xs ts->Rep K F (.ref a) (.lst ts)
 |scr {a:Addr}{xs:Ζ}{ts:zh} : SqL K F a xs->cg K F xs ts->Rep K F (.ref a) (.scr ts)
 |dct {a:Addr}{ks:xh}{xs:Ζ}{ts:zh} : Rd F a (.dK (ks.zip xs))->ks.length=xs.length->cg K F xs ts->Rep K F (.ref a) (.dct ks ts)
 |ins {a C dx:Addr}{ks:Φ}{xs:Ζ}{ts:zh} : F a=some (.ins C dx (ks.zip xs))->F dx=some (.own a)->ks.length=xs.length->cg K F xs ts->Rep K F (.ref a) (.ins C ks ts)
 |exc {a C:Addr}{d:Ξ}{ks:Φ}{xs:Ζ}{ts:zh} : F a=some (XO a C d)->agD F d (ks.zip xs)->ks.length=xs.length->cg K F xs ts->Rep K F (.ref a) (.exc C ks ts)
inductive cg(K:Frag)(F:Hp):Ζ->zh->Prop
 |nil:cg K F [] []
 |cons {x:V}{xs:Ζ}{t:T}{ts:zh} : Rep K F x t->cg K F xs ts->cg K F (x::xs) (t::ts)
end
variable{x:V}{ts:zh}{S:Addr->Prop}
section
variable{K:Frag}{F F' H H':Hp}
def Same.rd{u:HO}(S:Same F F')(h:Rd F a u):Rd F' a u:=h.imp (S _ _) λhP=>by obtain⟨o,e⟩:=hP;exact⟨o,S _ _ e⟩
def agD.same{d:Ξ}{l:xn}(S:Same F F')(h:agD F d l):agD F' d l:=by
 cases d with
 |none=>exact h
 |some d=>exact S _ _ h
mutual
theorem Rep.same(S:Same F F'):∀{x:V}{t:T},Rep K F x t->Rep K F' x t
 |_,_,.any v=>.any v
 |_,_,.non=>.non
 |_,_,.bl b=>.bl b
 |_,_,.int i=>.int i
 |_,_,.str s=>.str s
 |_,_,.val v=>.val v
 |_,_,.tup e h=>.tup (S.tup e) (cg.same S h)
 |_,_,.lst e h=>.lst (S _ _ e) (cg.same S h)
 |_,_,.scr e h=>.scr (S.seq e) (cg.same S h)
 |_,_,.dct e l h=>.dct (S.rd e) l (cg.same S h)
 |_,_,.ins e d l h=>.ins (S _ _ e) (S _ _ d) l (cg.same S h)
 |_,_,.exc e d l h=>.exc (S _ _ e) (d.same S) l (cg.same S h)
theorem cg.same(S:Same F F'):∀{xs:Ζ}{ts:zh},cg K F xs ts->cg K F' xs ts
 |_,_,.nil=>.nil
 |_,_,.cons h t=>.cons (Rep.same S h) (cg.same S t)
end
def Rep.lstI(h:Rep K F x (.lst ts)):∃a xs,x=.ref a/\F a=some (.lst xs)/\cg K F xs ts:=by cases h;exact⟨_,_,rfl,by assumption,by assumption⟩
def Rep.tupI(h:Rep K F x (.tup ts)):∃a xs,x=.ref a/\SqT K F a xs/\cg K F xs ts:=by cases h;exact⟨_,_,rfl,by assumption,by assumption⟩
def Rep.scrI(h:Rep K F x (.scr ts)):∃a xs,x=.ref a/\SqL K F a xs/\cg K F xs ts:=by cases h;exact⟨_,_,rfl,by assumption,by assumption⟩
def Rep.dctI{ks:xh}(h:Rep K F x (.dct ks ts)):∃a xs,x=.ref a/\Rd F a (.dK (ks.zip xs))/\ks.length=xs.length/\cg K F xs ts:=by cases h;exact⟨_,_,rfl,by assumption,by assumption,by assumption⟩
def Rep.insI{C:Addr}{ks:Φ}(h:Rep K F x (.ins C ks ts)):∃a dx xs,x=.ref a/\F a=some (.ins C dx (ks.zip xs))/\F dx=some (.own a)/\ks.length=xs.length/\cg K F xs ts:=by cases h;exact⟨_,_,_,rfl,by assumption,by assumption,by assumption,by assumption⟩
theorem cg.len:∀{xs:Ζ}{ts:zh},cg K F xs ts->xs.length=ts.length
 |_,_,.nil=>rfl
 |_,_,.cons _ t=>ZH (· + 1) (cg.len t)
theorem cg.app:∀{xs ys:Ζ}{ts us:zh},cg K F xs ts->cg K F ys us->cg K F (xs++ys) (ts++us)
 |_,_,_,_,.nil,h=>h
 |_,_,_,_,.cons a b,h=>.cons a (cg.app b h)
theorem cg.at_:∀{xs:Ζ}{ts:zh}{i:Nat}{t:T},cg K F xs ts->ts[i]?=some t->∃x,xs[i]?=some x/\Rep K F x t
 |_,_,_,_,.nil,e=>by cases e
 |_,_,0,_,.cons a _,e=>by cases e;exact⟨_,rfl,a⟩
 |_,_,i+1,_,.cons _ b,e=>by
  obtain⟨x,q,r⟩:=cg.at_ (i:=i) b (by simpa using e);exact⟨x,by simpa using q,r⟩
theorem cg.of_at:∀{xs:Ζ}{ts:zh},xs.length=ts.length->(∀(i:Nat)x t,xs[i]?=some x->ts[i]?=some t->Rep K F x t)->cg K F xs ts
 |[],[],_,_=>.nil
 |x::xs,t::ts,l,h=>.cons (h 0 x t rfl rfl) (cg.of_at (Nat.succ.inj l) λi y u e1 e2=>h (i+1) y u e1 e2)
 |[],_::_,l,_=>by cases l
 |_::_,[],l,_=>by cases l
theorem cg.set{x:V}{t:T}(r:Rep K F x t):∀{xs:Ζ}{ts:zh}(i:Nat),cg K F xs ts->cg K F (xs.set i x) (ts.set i t)
 |_,_,_,.nil=>.nil
 |_,_,0,.cons _ h=>.cons r h
 |_,_,i+1,.cons a h=>.cons a (cg.set r i h)
theorem cg.take:∀{xs:Ζ}{ts:zh}(n:Nat),cg K F xs ts->cg K F (xs.take n) (ts.take n)
 |_,_,0,_=>.nil
 |_,_,_+1,.nil=>.nil
 |_,_,n+1,.cons a h=>.cons a (cg.take n h)
theorem cg.drop:∀{xs:Ζ}{ts:zh}(n:Nat),cg K F xs ts->cg K F (xs.drop n) (ts.drop n)
 |_,_,0,h=>h
 |_,_,_+1,.nil=>.nil
 |_,_,n+1,.cons _ h=>cg.drop n h
def hd(S:Addr->Prop)(H:Hp):Hp:=λb=>open Classical in if S b then none else H b
def rJ(h:S b):hd S H b=none:=by unfold hd;rw[ZY h]
def cX(h:¬S b):hd S H b=H b:=by unfold hd;rw[ZZ h]
def cH{o:HO}(e:hd S H b=some o):¬S b/\H b=some o:=by
 by_cases h:S b
 .rw[rJ h]at e;cases e
 .rw[cX h]at e;exact⟨h,e⟩
def jd{S':Addr->Prop}(i:∀b,S' b->S b\/H b=none)(e:Same H H'):Same (hd S H) (hd S' H'):=λb o h=>by
 obtain⟨n,h⟩:=cH h;rw[cX λz=>?_]
 .exact e _ _ h
 .rcases i b z with y|y
  .exact n y
  .rw[h]at y;cases y
def dH : Same (hd S H) H:=λ_ _ h=>(cH h).2
def bY(e:Same H H'):Same (hd S H) (hd S H'):=jd (λ_=>.inl) e
def YH:hd (λ_=>False) H=H:=funext λ_=>cX id
inductive OT where
 |und|fz (t:T)|l1 (ts:zh)|l2 (ar:wq)|d1 (ks:xh) (ts:zh)|ob (a dx C:Addr) (ks:Φ) (ts:zh)|la (a:Addr) (ts:zh)
abbrev ze:=List OT
def frz:OT->T
 |.und=>.any
 |.fz t=>t
 |.l1 ts=>.lst ts
 |.l2 ar=>.lst (ar.map T.lst)
 |.d1 ks ts=>.dct ks ts
 |.ob _ _ C ks ts=>.ins C ks ts
 |.la _ ts=>.lst ts
def Slo(K:Frag)(F H:Hp)(v:xC)(A:Ψ):OT->Prop
 |.und=>A=[]
 |.fz t=>A=[]/\∃u,v=some u/\Rep K F u t
 |.l1 ts=>∃a xs,v=some (.ref a)/\A=[a]/\H a=some (.lst xs)/\cg K F xs ts
 |.l2 ar=>∃a bs,v=some (.ref a)/\A=a::bs/\(a::bs).Nodup/\H a=some (.lst (bs.map V.ref))/\bs.length=ar.length/\∀(i:Nat)b ts,bs[i]?=some b->ar[i]?=some ts->∃xs,H b=some (.lst xs)/\cg K F xs ts
 |.d1 ks ts=>∃a xs,v=some (.ref a)/\A=[a]/\H a=some (.dK (ks.zip xs))/\ks.length=xs.length/\cg K F xs ts
 |.ob a dx C ks ts=>∃xs,v=some (.ref a)/\A=[a,dx]/\H a=some (.ins C dx (ks.zip xs))/\H dx=some (.own a)/\ks.length=xs.length/\cg K F xs ts
 |.la a ts=>∃xs,v=some (.ref a)/\A=[a]/\H a=some (.lst xs)/\cg K F xs ts
def Slo.same{v:xC}{A:Ψ}(S:Same F F')(E:Same H H'):∀{x:OT},Slo K F H v A x->Slo K F' H' v A x
 |.und,h=>h
 |.fz _,⟨a,u,e,r⟩=>⟨a,u,e,r.same S⟩
 |.l1 _,⟨a,xs,e,z,h,r⟩=>⟨a,xs,e,z,E _ _ h,r.same S⟩
 |.l2 _,⟨a,bs,e,z,n,h,l,r⟩=>⟨a,bs,e,z,n,E _ _ h,l,λi b ts e1 e2=>let⟨xs,q,r⟩:=r i b ts e1 e2;⟨xs,E _ _ q,r.same S⟩⟩
 |.d1 _ _,⟨a,xs,e,z,h,l,r⟩=>⟨a,xs,e,z,E _ _ h,l,r.same S⟩
 |.ob _ _ _ _ _,⟨xs,e,z,h,d,l,r⟩=>⟨xs,e,z,E _ _ h,E _ _ d,l,r.same S⟩
 |.la _ _,⟨xs,e,z,h,r⟩=>⟨xs,e,z,E _ _ h,r.same S⟩
def Slo.off{v:xC}{A:Ψ} : ∀{x:OT},Slo K F H v A x->(∀b∈A,∀u,H b=some u->H' b=some u)->Slo K F H' v A x
 |.und,s,_=>s
 |.fz _,s,_=>s
 |.l1 _,⟨a,xs,e,z,w,r⟩,off=>⟨a,xs,e,z,off a (by rw[z];simp) _ w,r⟩
 |.l2 _,⟨a,bs,e,z,nd,w,l,r⟩,off=>⟨a,bs,e,z,nd,off a (by rw[z];simp) _ w,l,λi b ts e1 e2=>let⟨xs,q,r⟩:=r i b ts e1 e2;⟨xs,off b (by rw[z];exact aJ _ (aC e1)) _ q,r⟩⟩
 |.d1 _ _,⟨a,xs,e,z,w,r⟩,off=>⟨a,xs,e,z,off a (by rw[z];simp) _ w,r⟩
 |.ob a dx _ _ _,⟨xs,e,z,w,d,r⟩,off=>⟨xs,e,z,off a (by rw[z];simp) _ w,off dx (by rw[z];simp) _ d,r⟩
 |.la a _,⟨xs,e,z,w,r⟩,off=>⟨xs,e,z,off a (by rw[z];simp) _ w,r⟩
def acK(H:Hp)(a:Addr):Prop:=∃o,H a=some o/\((∃xs,o=.lst xs)\/(∃k,o=.dK k)\/(∃C d f,o=.ins C d f)\/∃x,o=.own x)
def Slo.sole{v:xC}{A:Ψ}{x:OT}(h:Slo K F H v A x)(ha:a∈A):acK H a:=by
 cases x with
 |und=>rw[show A=[]from h]at ha;cases ha
 |fz t=>rw[h.1]at ha;cases ha
 |l1 ts=>obtain⟨b,xs,_,rfl,e,_⟩:=h;cases YR.mp ha;exact⟨_,e,.inl ⟨_,rfl⟩⟩
 |l2 ar =>
  obtain⟨b,bs,_,rfl,_,e,l,r⟩:=h;rcases YU.mp ha with z|z
  .exact⟨_,z ▸ e,.inl ⟨_,rfl⟩⟩
  .obtain⟨i,hi⟩:=aV z;have li:i<ar.length:=l ▸ (ao.mp hi).1;obtain⟨xs,q,_⟩:=r i a _ hi (aj li);exact⟨_,q,.inl ⟨_,rfl⟩⟩
 |d1 ks ts=>obtain⟨b,xs,_,rfl,e,_⟩:=h;cases YR.mp ha;exact⟨_,e,.inr (.inl ⟨_,rfl⟩)⟩
 |ob b dx C ks ts =>
  obtain⟨xs,_,rfl,e,d,_⟩:=h;rcases YU.mp ha with z|z
  .exact⟨_,z ▸ e,.inr (.inr (.inl ⟨_,_,_,rfl⟩))⟩
  .cases YR.mp z;exact⟨_,d,.inr (.inr (.inr ⟨_,rfl⟩))⟩
 |la b ts=>obtain⟨xs,_,rfl,e,_⟩:=h;cases YR.mp ha;exact⟨_,e,.inl ⟨_,rfl⟩⟩
def Slo.frz{u:V}{A:Ψ}{x:OT}(h:Slo K F H (some u) A x)(S:Same F F')(E:∀a∈A,F' a=H a):Rep K F' u (frz x):=by
 cases x with
 |und=>exact .any _
 |fz t=>obtain⟨_,w,e,r⟩:=h;cases e;exact r.same S
 |l1 ts=>obtain⟨b,xs,e,rfl,q,r⟩:=h;cases e;exact .lst ((E _ wf).trans q) (r.same S)
 |l2 ar =>
  obtain⟨b,bs,e,rfl,_,q,l,r⟩:=h;cases e;refine .lst ((E _ wf).trans q) (cg.of_at (by simp[l]) λi x t e1 e2=>?_);rw[aq]at e1 e2;cases e3:bs[i]? with
  |none=>rw[e3]at e1;cases e1
  |some c =>
   cases e4:ar[i]? with
   |none=>rw[e4]at e2;cases e2
   |some ts =>
    rw[e3]at e1;rw[e4]at e2;cases e1;cases e2;obtain⟨xs,q,r⟩:=r i c ts e3 e4;exact .lst ((E _ (aJ _ (aC e3))).trans q) (r.same S)
 |d1 ks ts=>obtain⟨b,xs,e,rfl,q,l,r⟩:=h;cases e;exact .dct (.inl ((E _ wf).trans q)) l (r.same S)
 |ob b dx C ks ts=>obtain⟨xs,e,rfl,q,d,l,r⟩:=h;cases e;exact .ins ((E _ wf).trans q) ((E _ wf).trans d) l (r.same S)
 |la b ts=>obtain⟨xs,e,rfl,q,r⟩:=h;cases e;exact .lst ((E _ wf).trans q) (r.same S)
def Ow(own:Nat->Ψ)(b:Addr):Prop:=∃i,b∈own i
structure SR(K:Frag)(own:Nat->Ψ)(H:Hp)(σ:L2.St)(o:ze):Prop where
 len:o.length=σ.length
 sl:∀i x,o[i]?=some x->Slo K (hd (Ow own) H) H (σ[i]?.join) (own i) x
 out:∀i,o.length<=i->∀a∈own i,∃xs,H a=some (.lst xs)
 dis:∀i j a,a∈own i->a∈own j->i=j
variable{own:Nat->Ψ}{σ:L2.St}{o:ze}
def SR.same(h:SR K own H σ o)(E:Same H H'):SR K own H' σ o:=⟨h.len,λi x e=>(h.sl i x e).same (bY E) E,λi hi a ha=>let⟨xs,e⟩:=h.out i hi a ha;⟨xs,E _ _ e⟩,h.dis⟩
def SR.sole(h:SR K own H σ o){b:Addr}(z:Ow own b):acK H b:=by
 obtain⟨i,z⟩:=z;by_cases hi:i<o.length
 .exact(h.sl i _ (aj hi)).sole z
 .obtain⟨xs,e⟩:=h.out i (Nat.not_lt.mp hi) b z;exact⟨_,e,.inl ⟨_,rfl⟩⟩
def acK.ne(h:acK H a):H a≠none:=by
 obtain⟨o,e,_⟩:=h;rw[e];exact λz=>by cases z
def NR(K:Frag)(S:Addr->Prop)(H H':Hp)(v:V)(x:OT):Prop:=∃B,(∀a∈B,H a=none)/\Slo K (hd (λb=>S b\/b∈B) H') H' (some v) B x
def NR.rep{x:OT}(h:NR K S H H' v x)(hs:∀b,S b->H b≠none):Rep K (hd S H') v (L2.frz x):=by
 obtain⟨B,n,r⟩:=h;exact r.frz (jd (λb z=>.inl (.inl z)) (λ_ _ z=>z)) λa ha=>cX λz=>hs a z (n a ha)
def NR.fz{S:Addr->Prop}{v:V}{t:T}(h:Rep K (hd S H') v t):NR K S H H' v (.fz t):=⟨[],λ_ z=>(nomatch z),rfl,v,rfl,h.same (jd (λb z=>.inl (z.elim id λy=>(nomatch y))) λ_ _ z=>z)⟩
def NR.l1{S:Addr->Prop}{a:Addr}{xs:Ζ}{ts:zh}(n:H a=none)(e:H' a=some (.lst xs))(h:cg K (hd (λb=>S b\/b=a) H') xs ts):NR K S H H' (.ref a) (.l1 ts) :=
 ⟨[a],λ_ z=>(YR.mp z) ▸ n,a,xs,rfl,rfl,e,h.same (jd (λb z=>.inl (z.imp id YR.mp)) λ_ _ z=>z)⟩
def NR.back{H0:Hp}{x:OT}(h:NR K S H H' v x)(E:Same H0 H):NR K S H0 H' v x:=by
 obtain⟨B,n,r⟩:=h;exact⟨B,λa ha=>E.free (n a ha),r⟩
def own1(own:Nat->Ψ)(i:Nat)(B:Ψ):Nat->Ψ:=λj=>if j=i then B else own j
def jV{B:Ψ} : own1 own i B i=B:=ZY rfl
def fX{j:Nat}{B:Ψ}(h:j≠i):own1 own i B j=own j:=ZZ h
def Ow.of1{B:Ψ}(h:Ow (own1 own i B) b):Ow own b\/b∈B:=by
 obtain⟨j,h⟩:=h;by_cases z:j=i
 .rw[z,jV]at h;exact .inr h
 .rw[fX z]at h;exact .inl ⟨j,h⟩
def SR.put(h:SR K own H σ o)(E:Same H H'){x:OT}(n:NR K (Ow own) H H' v x)(hi:i<o.length):∃ai,SR K ai H' (σ.set i (some v)) (o.set i x)/\Same (hd (Ow own) H) (hd (Ow ai) H'):=by
 obtain⟨B,nb,r⟩:=n;have le:Same (hd (Ow own) H) (hd (Ow (own1 own i B)) H'):=jd (λb z=>z.of1.imp id (nb b)) E;refine⟨own1 own i B,⟨by rw[VZ,VZ,h.len],λj y e=>?_,λj hj=>?_,λj k a e1 e2=>?_⟩,le⟩
 .by_cases z:j=i
  .subst z;rw[US hi]at e;cases e;rw[jV,US (h.len ▸ hi)];exact r.same (jd (λb z=>.inl z.of1) λ_ _ z=>z) λ_ _ z=>z
  .rw[UY (Ne.symm z)]at e;rw[fX z,UY (Ne.symm z)];exact(h.sl j y e).same le E
 .rw[VZ]at hj;rw[fX wv];intro a ha;obtain⟨xs,e⟩:=h.out j hj a ha;exact⟨xs,E _ _ e⟩
 .by_cases z:j=i<;>by_cases y:k=i
  .rw[z,y]
  .rw[z,jV]at e1;rw[fX y]at e2;exact absurd (nb a e1) (h.sole ⟨k,e2⟩).ne
  .rw[y,jV]at e2;rw[fX z]at e1;exact absurd (nb a e2) (h.sole ⟨j,e1⟩).ne
  .rw[fX z]at e1;rw[fX y]at e2;exact h.dis j k a e1 e2
def SR.frz(h:SR K own H σ o){i:Nat}{x:OT}(e:o[i]?=some x){u:V}(hu:σ[i]?=some (some u)):∃ai,SR K ai H σ (o.set i (.fz (L2.frz x)))/\Same (hd (Ow own) H) (hd (Ow ai) H):=by
 have hi:i<o.length:=(ao.mp e).1;have le:Same (hd (Ow own) H) (hd (Ow (own1 own i [])) H):=jd (λb z=>.inl (z.of1.elim id λy=>(nomatch y))) λ_ _ z=>z;have hs:=h.sl i x e;rw[hu]at hs;refine⟨own1 own i [],⟨by rw[VZ,h.len],λj y e'=>?_,λj hj=>?_,λj k a e1 e2=>?_⟩,le⟩
 .by_cases z:j=i
  .subst z;rw[US hi]at e';cases e';rw[jV,hu];exact⟨rfl,u,rfl,Slo.frz hs le λa ha=>cX λz=>by
    obtain⟨k,z⟩:=z;by_cases y:k=j
    .rw[y,jV]at z;cases z
    .rw[fX y]at z;exact y (h.dis k j a z ha)⟩
  .rw[UY (Ne.symm z)]at e';rw[fX z];exact(h.sl j y e').same le λ_ _ z=>z
 .rw[VZ]at hj;rw[fX wv];exact h.out j hj
 .by_cases z:j=i
  .rw[z,jV]at e1;cases e1
  by_cases y:k=i
  .rw[y,jV]at e2;cases e2
  .rw[fX z]at e1;rw[fX y]at e2;exact h.dis j k a e1 e2
def SR.chg(h:SR K own H σ o){x:OT}(e:o[i]?=some x){y:OT}(E:∀b u,b∉own i->H b=some u->H' b=some u)(r:Slo K (hd (Ow own) H') H' (σ[i]?.join) (own i) y):SR K own H' σ (o.set i y)/\Same (hd (Ow own) H) (hd (Ow own) H'):=by
 have hi:i<o.length:=(ao.mp e).1;have le:Same (hd (Ow own) H) (hd (Ow own) H'):=λb u z=>by
  obtain⟨n,z⟩:=cH z;rw[cX n];exact E b u (λq=>n ⟨i,q⟩) z
 refine⟨⟨by rw[VZ,h.len],λj z e'=>?_,λj hj a ha=>?_,h.dis⟩,le⟩
 rotate_left
 .rw[VZ]at hj;obtain⟨xs,e2⟩:=h.out j hj a ha;exact⟨xs,E a _ (λz=>by have:=h.dis j i a ha z;lia) e2⟩
 by_cases q:j=i
 .subst q;rw[US hi]at e';cases e';exact r
 .rw[UY (Ne.symm q)]at e';exact((h.sl j z e').same le λ_ _ z=>z).off λb hb u=>E b u λz=>q (h.dis j i b hb z)
def SR.get(h:SR K own H σ o){i:Nat}{t:T}(e:o[i]?=some (.fz t)):∃u,σ[i]?=some (some u)/\Rep K (hd (Ow own) H) u t:=by
 obtain⟨_,u,q,r⟩:=h.sl i _ e;refine⟨u,?_,r⟩;cases z:σ[i]? with
 |none=>rw[z]at q;cases q
 |some w=>rw[z]at q;exact ZH some q
end
end L2
namespace L2
open PySem PySem.Spec PyProof.Rows
abbrev RE:=ze->(OT->Prop)->Prop
abbrev RT:=ze->(Bool->Prop)->Prop
abbrev RA:=ze->(zh->Prop)->Prop
def tQ(K:Frag)(r:RE):TE:=λσ H Q=>∃own o R,SR K own H σ o/\r o R/\∀H' v x,R x->Same H H'->NR K (Ow own) H H' v x->Q v H'
def tQT(K:Frag)(r:RT):TT:=λσ H Q=>∃own o R,SR K own H σ o/\r o R/\∀H' b,R b->Same H H'->Q b H'
def tQA(K:Frag)(n:Nat)(r:RA):TA:=λσ H Q=>∃own o R,SR K own H σ o/\r o R/\∀H' vs ts,R ts->ts.length=n->Same H H'->cg K (hd (Ow own) H') vs ts->Q vs H'
def QE(X:Cx)(e:Expr)(r:RE):Prop:=PE X e (tQ X.K r)
def QT(X:Cx)(e:Expr)(r:RT):Prop:=PT X e (tQT X.K r)
def QW(X:Cx)(e:Expr)(r:RT):Prop:=PW X e (tQT X.K r)
def QA(X:Cx)(es:zt)(r:RA):Prop:=PA X es (tQA X.K es.length r)
variable{X:Cx}{e:Expr}{es:zt}{K:Frag}{own:Nat->Ψ}{H:Hp}{σ:L2.St}{o:ze}{R:OT->Prop}{Q:VK}{b:Bool}{x:Str}{pos:Pos}{t:T}{v:V}
def PT.imp{t t':TT}(h:PT X e t)(i:∀σ H Q,t' σ H Q->t σ H Q):PT X e t':=λaa s σ H Q I q=>h aa s σ H Q I (i σ H Q q)
def PW.imp{t t':TT}(h:PW X e t)(i:∀σ H Q,t' σ H Q->t σ H Q):PW X e t':=λwh aa s σ H Q I q=>h wh aa s σ H Q I (i σ H Q q)
def PA.imp{t t':TA}(h:PA X es t)(i:∀σ H Q,t' σ H Q->t σ H Q):PA X es t':=λp aa s σ H Q I q=>h p aa s σ H Q I (i σ H Q q)
def tQ.mk{r:RE}(h:SR K own H σ o)(hr:r o R)(k:∀H' v x,R x->Same H H'->Rep K (hd (Ow own) H') v (frz x)->Q v H'):tQ K r σ H Q :=
 ⟨own,o,R,h,hr,λH' v x rx E n=>k H' v x rx E (n.rep λb z=>(h.sole z).ne)⟩
def slot:ze->Nat->OT
 |[],_=>.und
 |x::_,0=>x
 |_::l,n+1=>slot l n
theorem iC:∀{o:ze}{i:Nat}{x:OT},slot o i=x->x≠.und->o[i]?=some x
 |[],_,_,e,n=>absurd e.symm n
 |_::_,0,_,e,_=>ZH some e
 |_::l,i+1,x,e,n=>by simpa using iC (o:=l) (i:=i) e n
def ajf(i:Nat):RE:=λo q=>match slot o i with|.fz t=>q (.fz t)|_=>False
def rC(t:T):RE:=λ_ q=>q (.fz t)
abbrev qA:Type:=T->T->(OT->Prop)->Prop
def rOp(g:qA)(a b:RE):RE:=λo q=>a o λx=>b o λy=>g (frz x) (frz y) q
def rUn(g:T->(OT->Prop)->Prop)(a:RE):RE:=λo q=>a o λx=>g (frz x) q
def sw(b:Bool)(p q:Prop):Prop:=match b with|true=>p|false=>q
def sw2{p q:Prop}(h1:b=true->p)(h2:b=false->q):sw b p q:=by
 cases b
 .exact h2 rfl
 .exact h1 rfl
def swD{c:Prop}[Decidable c]{p q:Prop}(h1:c->p)(h2:¬c->q):sw (decide c) p q:=sw2 (λe=>h1 (of_decide_eq_true e)) λe=>h2 (of_decide_eq_false e)
def swT{p q:Prop}(e:b=true)(h:p):sw b p q:=by subst e;exact h
def swF{p q:Prop}(e:b=false)(h:q):sw b p q:=by subst e;exact h
def qv(i:Nat)(hN:X.N[i]?=some x:=by rfl)(hv:rD X.env.scope x=true:=by rfl)(hd:qk x:=by decide)
 (a9:qf x:=by decide):QE X (.Name x pos) (ajf i):=(pv i hN hv hd a9).imp λσ H Q hP=>by
 obtain⟨own,o,R,h,hr,k⟩:=hP;unfold ajf at hr;cases e:slot o i with
 |fz t =>
  rw[e]at hr;obtain⟨u,q,r⟩:=h.get (iC e (by intro z;cases z));exact⟨u,q,k H u _ hr (.refl _) (NR.fz r)⟩
 |_=>rw[e]at hr;exact hr.elim
def wp(hN:X.N[0]?=some x:=by rfl)(hv:rD X.env.scope x=true:=by rfl)(hd:qk x:=by decide)(a9:qf x:=by decide):QE X (.Name x pos) (ajf 0):=qv 0 hN hv hd a9
def wo(hN:X.N[1]?=some x:=by rfl)(hv:rD X.env.scope x=true:=by rfl)(hd:qk x:=by decide)(a9:qf x:=by decide):QE X (.Name x pos) (ajf 1):=qv 1 hN hv hd a9
def wr(hN:X.N[2]?=some x:=by rfl)(hv:rD X.env.scope x=true:=by rfl)(hd:qk x:=by decide)(a9:qf x:=by decide):QE X (.Name x pos) (ajf 2):=qv 2 hN hv hd a9
def wn(hN:X.N[3]?=some x:=by rfl)(hv:rD X.env.scope x=true:=by rfl)(hd:qk x:=by decide)(a9:qf x:=by decide):QE X (.Name x pos) (ajf 3):=qv 3 hN hv hd a9
def we(hN:X.N[4]?=some x:=by rfl)(hv:rD X.env.scope x=true:=by rfl)(hd:qk x:=by decide)(a9:qf x:=by decide):QE X (.Name x pos) (ajf 4):=qv 4 hN hv hd a9
def wa(hN:X.N[5]?=some x:=by rfl)(hv:rD X.env.scope x=true:=by rfl)(hd:qk x:=by decide)(a9:qf x:=by decide):QE X (.Name x pos) (ajf 5):=qv 5 hN hv hd a9
def qC(h:PE X e (tC v))(r:∀F,Rep X.K F v t):QE X e (rC t):=h.imp λσ H Q hP=>by obtain⟨own,o,R,_,hr,k⟩:=hP;exact k H v _ hr (.refl _) (NR.fz (r _))
def bF{i j pos} : QE X (.Constant (.int i) j pos) (rC (.int i)):=qC aia λ_=>.int _
def g_{b j pos} : QE X (.Constant (.bool b) j pos) (rC (.bl b)):=qC aox λ_=>.bl _
def eE{j pos} : QE X (.Constant .none j pos) (rC .non):=qC ahq λ_=>.non
def vU{x j pos} : QE X (.Constant (.str x) j pos) (rC (.str x)):=qC ahC λ_=>.str _
def V3(hm:∃u,X.mg x=some u/\RelV v u)(r:∀F,Rep X.K F v t)(hg:Gl X x:=by rfl)(hd:qk x:=by decide):QE X (.Name x pos) (rC t):=qC (acL hg hm hd) r
variable{b a c:Expr}{ra rb re:RE}{g:qA}{op:CmpOp}{S:Addr->Prop}{H':Hp}{xs:Ζ}{ts:zh}{f:Addr}{P:Program}{w:World}{mg:Str->Ω}{base:Heap}{k n:Nat}{fd:FuncData}{ps:Φ}{r:RA}{p p2:Pos}{α:Type}{lo hi:Option Expr}
def GO(X:Cx)(f:Value->Value->Sem Value)(g:qA):Prop:=OpR X f λx y H Q=>∃S t u R,(∀b,S b->H b≠none)/\Rep X.K (hd S H) x t/\Rep X.K (hd S H) y u/\g t u R/\∀H' v z,R z->Same H H'->NR X.K S H H' v z->Q v H'
theorem q2{g:qA}{σ:L2.St}{H:Hp}{Q:VK}(h:tQ X.K (rOp g ra rb) σ H Q):tOp (λx y H Q=>∃S t u R,(∀b,S b->H b≠none)/\Rep X.K (hd S H) x t/\Rep X.K (hd S H) y u/\g t u R/\∀H' v z,R z->Same H H'->NR X.K S H H' v z->Q v H') (tQ X.K ra) (tQ X.K rb) σ H Q:=by
 obtain⟨own,o,R,h,hr,k⟩:=h;exact tQ.mk h hr λH1 v x q E1 r1=>tQ.mk (h.same E1) q λH2 w y q2 E2 r2=>⟨Ow own,_,_,R,λb z=>((h.same (E1.trans E2)).sole z).ne,r1.same (bY E2),r2,q2,λH' u z rz E3 n=>k H' u z rz (E1.trans (E2.trans E3)) (n.back (E1.trans E2))⟩
def bO{op:Operator}(ho:GO X (binaryOp op) g)(ha:QE X a ra)(hb:QE X b rb):QE X (.BinOp a op b pos) (rOp g ra rb):=(anw ho ha hb).imp λ_ _ _=>q2
def qw(ho:GO X (compareOp op) g)(ha:QE X a ra)(hb:QE X b rb)(hm:behindInMarks op b=false:=by exact adO _):QE X (.Compare a [op] [b] pos) (rOp g ra rb):=(agi ho ha hb hm).imp λ_ _ _=>q2
def gI(g:Int->Int->OT):qA
 |.int i,.int j,q=>q (g i j)
 |_,_,_=>False
def GO.ints{f:Value->Value->Sem Value}{g:Int->Int->V}{t:Int->Int->T}(h:OpR X f (rI0 g))(r:∀i j F,Rep X.K F (g i j) (t i j)):GO X f (gI λi j=>.fz (t i j)):=h.imp λx y H Q hP=>by
 obtain⟨S,t,u,R,_,hx,hy,hg,k⟩:=hP;cases hx<;>try exact hg.elim
 cases hy<;>try exact hg.elim
 exact⟨_,_,rfl,rfl,k H _ _ hg (.refl _) (NR.fz (r _ _ _))⟩
def Wq:GO X (binaryOp .Sub) (gI λi j=>.fz (.int (i-j))):=.ints ajm λ_ _ _=>.int _
def Hx:GO X (compareOp .Lt) (gI λi j=>.fz (.bl (decide (i<j)))):=.ints amv λ_ _ _=>.bl _
def TY:GO X (compareOp .LtE) (gI λi j=>.fz (.bl (decide (i<=j)))):=.ints akX λ_ _ _=>.bl _
def yF:GO X (compareOp .Gt) (gI λi j=>.fz (.bl (decide (j<i)))):=.ints amW λ_ _ _=>.bl _
def abw:GO X (compareOp .GtE) (gI λi j=>.fz (.bl (decide (j<=i)))):=.ints ako λ_ _ _=>.bl _
def apT:qA
 |.int i,.int j,q=>q (.fz (.int (i+j)))
 |.str a,.str b,q=>a.length+b.length<=sizeLine/\q (.fz (.str (a++b)))
 |.lst a,.lst b,q=>a.length+b.length<=sizeLine/\q (.l1 (a++b))
 |_,_,_=>False
def Cq{p:Addr}(r:cg X.K (hd S H) xs ts)(E:Same H H')(n:H p=none)(e:H' p=some (.lst xs)):NR X.K S H H' (.ref p) (.l1 ts) :=
 NR.l1 n e (r.same (jd (λb z=>z.imp id λ(y:b=p)=>y ▸ n) E))
def dh:GO X (binaryOp .Add) apT:=λaa s σ H x y v u Q I rx ry hP=>by
 obtain⟨S,t,w,R,_,hx,hy,hg,k⟩:=hP;cases t<;>try exact hg.elim
 .cases hx;cases w<;>try exact hg.elim
  cases hy;exact aic aa s σ H _ _ v u Q I rx ry ⟨_,_,rfl,rfl,k H _ _ hg (.refl _) (NR.fz (.int _))⟩
 .cases hx;cases w<;>try exact hg.elim
  cases hy;exact af6 aa s σ H _ _ v u Q I rx ry ⟨_,_,rfl,rfl,hg.1,k H _ _ hg.2 (.refl _) (NR.fz (.str _))⟩
 .cases w<;>try exact hg.elim
  obtain⟨a,xs,rfl,e1,r1⟩:=hx.lstI;obtain⟨b,ys,rfl,e2,r2⟩:=hy.lstI;exact aek aa s σ H _ _ v u Q I rx ry ⟨a,b,xs,ys,rfl,rfl,(cH e1).2,(cH e2).2,by rw[r1.len,r2.len];exact hg.1,λp H' E n e=>k H' _ _ hg.2 E (Cq (r1.app r2) E n e)⟩
def ap3:qA
 |.int i,.int j,q=>(Bd i/\Bd j)/\q (.fz (.int (i*j)))
 |.lst a,.int j,q=>(-(2^63)<=j/\j<2^63/\a.length*j.toNat<=sizeLine)/\∀z,z=(List.replicate j.toNat a).flatten->q (.l1 z)
 |.str a,.int j,q=>(∃c,a=⟨#[c]⟩/\1<=j/\j<=1000/\∀z:Str,z.cps.toList=List.replicate j.toNat c->q (.fz (.str z)))
 |_,_,_=>False
def aqo:qA
 |.int i,.int j,q=>(j≠0/\Bd j)/\q (.fz (.int (i.fdiv j)))
 |_,_,_=>False
def apd:qA
 |.int i,.int j,q=>0<j/\q (.fz (.int (i%j)))
 |_,_,_=>False
def ap5:qA
 |.int i,.int j,q=>aol i j/\q (.fz (.int (i^j.toNat)))
 |_,_,_=>False
def oZ:GO X (binaryOp .FloorDiv) aqo:=acB.imp λx y H Q hP=>by
 obtain⟨S,t,u,R,_,hx,hy,hg,k⟩:=hP;cases hx<;>try exact hg.elim
 cases hy<;>try exact hg.elim
 exact⟨_,_,rfl,rfl,hg.1,k H _ _ hg.2 (.refl _) (NR.fz (.int _))⟩
def cW:GO X (binaryOp .Mod) apd:=ai9.imp λx y H Q hP=>by
 obtain⟨S,t,u,R,_,hx,hy,hg,k⟩:=hP;cases hx<;>try exact hg.elim
 cases hy<;>try exact hg.elim
 exact⟨_,_,rfl,rfl,hg.1,k H _ _ hg.2 (.refl _) (NR.fz (.int _))⟩
def ahe:GO X (binaryOp .Pow) ap5:=ai7.imp λx y H Q hP=>by
 obtain⟨S,t,u,R,_,hx,hy,hg,k⟩:=hP;cases hx<;>try exact hg.elim
 cases hy<;>try exact hg.elim
 exact⟨_,_,rfl,rfl,hg.1,k H _ _ hg.2 (.refl _) (NR.fz (.int _))⟩
def aoZ:T->(OT->Prop)->Prop
 |.int i,q=>q (.fz (.int (-i)))
 |_,_=>False
def Yn(ha:QE X a ra):QE X (.UnaryOp .USub a pos) (rUn aoZ ra):=(aj0 ajh ha).imp λσ H Q ⟨own,o,R,h,hr,k⟩=>tQ.mk h hr λH1 v x q E1 r1=>by
 revert r1 q
 generalize frz x=t;intro q r1;cases r1<;>try exact q.elim
 exact⟨_,rfl,k _ _ _ q E1 (NR.fz (.int _))⟩
def Zz:T->Option Bool
 |.non=>some true
 |.any=>none
 |.val v=>some (decide (v=.non))
 |_=>some false
def gIs(neg:Bool):qA:=λt u q=>match u,Zz t with
 |.non,some b=>q (.fz (.bl (xor neg b)))
 |_,_=>False
def Uj{F:Hp}{x:V}{b:Bool}(h:Rep K F x t)(e:Zz t=some b):decide (x=.non)=b:=by
 cases h<;>cases e<;>first|rfl|(apply Zp;intro z;cases z)
def qU:GO X (compareOp .Is) (gIs false):=aip.imp λx y H Q hP=>by
 obtain⟨S,t,u,R,_,hx,hy,hg,k⟩:=hP;cases hy<;>try exact hg.elim
 unfold gIs at hg;cases e:Zz t with
 |none=>rw[e]at hg;exact hg.elim
 |some b=>rw[e]at hg;exact⟨rfl,k H _ _ hg (.refl _) (NR.fz (by rw[Uj hx e,Bool.false_xor];exact .bl _))⟩
def Ds:GO X (compareOp .IsNot) (gIs true):=aeI.imp λx y H Q hP=>by
 obtain⟨S,t,u,R,_,hx,hy,hg,k⟩:=hP;cases hy<;>try exact hg.elim
 unfold gIs at hg;cases e:Zz t with
 |none=>rw[e]at hg;exact hg.elim
 |some b=>rw[e]at hg;exact⟨rfl,k H _ _ hg (.refl _) (NR.fz (by rw[Uj hx e,Bool.true_xor];exact .bl _))⟩
structure Hid(H:Hp)(S:Addr->Prop):Prop where
 sole:∀b,S b->acK H b
 ins:∀a C dx fs,S a->H a=some (.ins C dx fs)->S dx
 own:∀b x,S b->H b=some (.own x)->S x
def SR.mate(h:SR K own H σ o){j:Nat}{b:Addr}(hb:b∈own j):(∀C d f,H b=some (.ins C d f)->d∈own j)/\∀x,H b=some (.own x)->x∈own j:=by
 have nl:∀{xs:Ζ},H b=some (.lst xs)->(∀C d f,H b=some (.ins C d f)->d∈own j)/\∀x,H b=some (.own x)->x∈own j:=λq=>⟨(λ_ _ _ e=>by rw[q]at e;cases e),(λ_ e=>by rw[q]at e;cases e)⟩;by_cases hj:j<o.length
 .have s:=h.sl j _ (aj hj);cases y:o[j]with
  |und=>rw[y]at s;rw[show own j=[]from s]at hb;cases hb
  |fz t=>rw[y]at s;rw[s.1]at hb;cases hb
  |l1 ts=>rw[y]at s;obtain⟨c,xs,_,w,q,_⟩:=s;rw[w]at hb;cases YR.mp hb;exact nl q
  |l2 ar =>
   rw[y]at s;obtain⟨c,bs,_,w1,_,q1,l,r⟩:=s;rw[w1]at hb;rcases YU.mp hb with z|z
   .exact nl (z ▸ q1)
   .obtain⟨i,hi⟩:=aV z;obtain⟨xs,q2,_⟩:=r i b _ hi (aj (l ▸ (ao.mp hi).1));exact nl q2
  |d1 ks ts=>rw[y]at s;obtain⟨c,xs,_,w,q,_⟩:=s;rw[w]at hb;cases YR.mp hb;exact⟨(λ_ _ _ e=>by rw[q]at e;cases e),(λ_ e=>by rw[q]at e;cases e)⟩
  |la c ts=>rw[y]at s;obtain⟨xs,_,w,q,_⟩:=s;rw[w]at hb;cases YR.mp hb;exact nl q
  |ob c d C' ks ts =>
   rw[y]at s;obtain⟨xs,_,w,q,q2,_⟩:=s;rw[w]at hb ⊢;rcases YU.mp hb with z|z
   .refine⟨λ_ _ _ e=>?_,λ_ e=>?_⟩
    .rw[z,q]at e;cases e;simp
    .rw[z,q]at e;cases e
   .cases YR.mp z;refine⟨λ_ _ _ e=>?_,λ_ e=>?_⟩
    .rw[q2]at e;cases e
    .rw[q2]at e;cases e;simp
 .obtain⟨xs,q⟩:=h.out j (Nat.not_lt.mp hj) b hb;exact nl q
def SR.hid(h:SR K own H σ o):Hid H (Ow own) :=
 ⟨λb z=>h.sole z,λa C dx fs ⟨j,z⟩ e=>⟨j,(h.mate z).1 C dx fs e⟩,λb x ⟨j,z⟩ e=>⟨j,(h.mate z).2 x e⟩⟩
def mrg(S:Addr->Prop)(H G:Hp):Hp:=λb=>open Classical in if S b then H b else G b
def vJ{G:Hp}{b:Addr}(h:S b):mrg S H G b=H b:=by unfold mrg;rw[ZY h]
def jO{G:Hp}{b:Addr}(h:¬S b):mrg S H G b=G b:=by unfold mrg;rw[ZZ h]
def spH(sp:Sp):Sp:=λvs H Q _=>∃S:Addr->Prop,Hid H S/\sp vs (hd S H) (λv G=>(∀b,S b->G b=none)->Q v (mrg S H G)) λ_ _ _=>False
def gY.hid{sp:Sp}(F:gY P w K mg base CX0 k f fd ps sp):gY P w K mg base CX0 k f fd ps (spH sp):=by
 refine⟨λvs H Q E h=>?_,λA outer s H args us vs Q E hr e0 hb r h=>?_⟩
 .obtain⟨S,_,z⟩:=h;exact F.len vs _ _ _ z
 obtain⟨S,hS,z⟩:=h;have non:∀{b:Addr},H b=none->hd S H b=none:=λ{b}e=>by
  by_cases z:S b
  .exact rJ z
  .rw[cX z];exact e
 have eQ:∀{b:Addr}{u:HO},S b->H b=some u->(∀xs,u≠.tup xs)/\(∀o v,u≠.frz o v)/\∀ps,u≠.tbl ps:=λ{b u}z e=>by
  obtain⟨o,q,w⟩:=hS.sole b z;rw[e]at q;cases q;rcases w with⟨_,rfl⟩|⟨_,rfl⟩|⟨_,_,_,rfl⟩|⟨_,rfl⟩<;>exact⟨λ_ z=>(nomatch z),λ_ _ z=>(nomatch z),λ_ z=>(nomatch z)⟩
 have e1:Uu P w K mg base A outer s (hd S H):=⟨e0.frames,e0.mod,λb o e=>⟨(e0.bs b o e).1,non (e0.bs b o e).2⟩,e0.bsz,e0.funs,λb hb=>non (e0.frf b hb),λb u e=>by
  obtain⟨nb,e'⟩:=cH e;refine(e0.hok b u e').stay (λ_ _ _ z=>z) (λd z=>?_) λd xs z=>?_
  .rw[cX λy=>nb (hS.own d b y z)];exact z
  .rw[cX λy=>(eQ y z).1 xs rfl];exact z,e0.bare⟩
 refine codeAny_mono (F.run A outer s (hd S H) args us vs _ _ hr e1 hb r z) λres s' hs=>?_;cases res with
 |error e=>exact hs.elim
 |ok fl =>
  cases fl with
  |next=>exact False.elim hs
  |brk=>exact False.elim hs
  |cont=>exact False.elim hs
  |ret u =>
   obtain⟨v,G,os,bare,un,hok,rv,q⟩:=hs;have there:∀{b:Addr},S b->∃o,s.heap.get? b=some o:=λ{b}y=>by
    obtain⟨u,e,w⟩:=hS.sole b y;have x:=e0.hok b u e;rcases w with⟨xs,rfl⟩|⟨kk,rfl⟩|⟨C,d,f,rfl⟩|⟨y,rfl⟩
    .obtain⟨_,_,_,_,e2⟩:=x;exact⟨_,e2⟩
    .obtain⟨_,_,_,_,_,_,_,e2,_⟩:=x;exact⟨_,e2⟩
    .obtain⟨_,_,_,e2,_⟩:=x;exact⟨_,e2⟩
    .exact x
   have keep:∀{b:Addr}{o:Obj},S b->s.heap.get? b=some o->s'.heap.get? b=some o:=λ{b o}y e=>un.keep b o e (rJ y) (λz=>(hS.sole b y).ne (e0.frf b z)) wf;have a8:∀b,S b->G b=none:=λb y=>by
    obtain⟨o,ho⟩:=there y;exact un.free b o ho (rJ y) wf
   have no':∀{b:Addr}{u:HO},G b=some u->¬S b:=λe z=>by rw[a8 _ z]at e;cases e
   have dt:∀{b:Addr}{u:HO},G b=some u->mrg S H G b=some u:=λe=>(jO (no' e)).trans e;refine⟨v,mrg S H G,os,bare,⟨λb o e n=>un.keep b o e (non n),λb o e n=>un.slot b o e (non n),λb o e n z=>?_,un.there,λb xs e=>?_,λb o u e=>?_,λb ps e=>?_⟩,λb u e=>?_,rv,q a8⟩
   .rw[jO λy=>(hS.sole b y).ne n];exact un.free b o e (non n) z
   .have n:¬S b:=λy=>(eQ y e).1 xs rfl;exact dt (un.tups b xs ((cX n).trans e))
   .have n:¬S b:=λy=>(eQ y e).2.1 o u rfl;exact dt (un.frzs b o u ((cX n).trans e))
   .have n:¬S b:=λy=>(eQ y e).2.2 ps rfl;obtain⟨more,this⟩:=un.tbls b ps ((cX n).trans e);exact⟨more,dt this⟩
   .by_cases z:S b
    .rw[vJ z]at e;have x:=e0.hok b u e;obtain⟨u',e',w⟩:=hS.sole b z;rw[e]at e';cases e';rcases w with⟨xs,rfl⟩|⟨kk,rfl⟩|⟨C,d,f,rfl⟩|⟨y,rfl⟩
     .obtain⟨z1,its,n,r,e2⟩:=x;exact⟨z1,its,n,r,keep z e2⟩
     .obtain⟨z1,y,vs,r,ob,es,ep,e2,c⟩:=x;exact⟨z1,y,vs,r,ob,es,ep,keep z e2,c⟩
     .obtain⟨d1,z1,ne,e2,mA,⟨od,es,ep,e3,c⟩,r⟩:=x;have sd:=hS.ins b C d f z e;exact⟨(vJ sd).trans d1,z1,ne,keep z e2,mA,⟨od,es,ep,keep sd e3,c⟩,r⟩
     .obtain⟨ob,e2⟩:=x;exact⟨ob,keep z e2⟩
    .rw[jO z]at e;exact(hok b u e).stay (λ_ _ _ z=>z) (λd z=>dt z) λd xs z=>dt z
abbrev ST:=zh->(OT->Prop)->Prop
def spT(K:Frag)(S:ST):Sp:=λvs H Q _=>∃ts R,cg K H vs ts/\S ts R/\∀H' v x,R x->Same H H'->NR K (λ_=>False) H H' v x->Q v H'
abbrev OkT(P:Program)(w:World)(K:Frag)(mg:Str->Ω)(base:Heap)(k:Nat)(x:Str)(ps:Φ)(S:ST):Prop:=OkF P w K mg base k x ps (spT K S)
def ah9:RA:=λ_ q=>q []
def agN(a:RE)(r:RA):RA:=λo q=>a o λx=>r o λts=>q (frz x::ts)
def bC:QA X [] ah9:=QD.imp λσ H Q hP=>by obtain⟨own,o,R,h,hr,k⟩:=hP;exact k H [] [] hr rfl (.refl _) .nil
def tQA.mk{R:zh->Prop}{Q:Ζ->Hp->Prop}(h:SR K own H σ o)(hr:r o R)(k:∀H' vs ts,R ts->ts.length=n->Same H H'->cg K (hd (Ow own) H') vs ts->Q vs H'):tQA K n r σ H Q:=⟨own,o,R,h,hr,k⟩
def bA{a:RE}(ha:QE X e a)(hr:QA X es r)(hs:qo X e es:=by rfl):QA X (e::es) (agN a r):=(pL ha hr hs).imp λσ H Q ⟨own,o,R,h,hr,k⟩ =>
 tQ.mk h hr λH1 v x q E1 r1=>tQA.mk (h.same E1) q λH2 vs ts q2 ln E2 r2=>k H2 (v::vs) (frz x::ts) q2 (ZH (· + 1) ln) (E1.trans E2) (.cons (r1.same (bY E2)) r2)
def ady(S:ST)(r:RA):RE:=λo q=>r o λts=>S ts q
def bJ{S:ST}(G:OkT X.prog X.w X.K X.mg X.base k x ps S)(ha:QA X (e::es) r)(hr:eY k X.A:=by exact eY.mono (by assumption) wx)(hg:Gl X x:=by rfl)(cf:qk x:=by decide)
 (he:qo X e es:=by rfl)(br:qh X pos es:=by rfl):QE X (.Call (.Name x p) (e::es) [] pos) (ady S r):=by
 obtain⟨f,fd,F,b,hm,kp⟩:=G;refine(Ls (sp:=spH (spT X.K S)) ⟨f,fd,F.hid,b,hm,kp⟩ hr hg ha cf he br).imp λσ H Q ⟨own,o,R,h,hr,k⟩=>tQA.mk h hr λH1 vs ts q _ E1 r1=>?_;have h1:=h.same E1;refine⟨Ow own,h1.hid,ts,R,r1,q,λG v x rx E n a8=>?_⟩;have EH:Same H1 (mrg (Ow own) H1 G):=λb u e=>by
  by_cases z:Ow own b
  .rw[vJ z];exact e
  .rw[jO z];exact E b u ((cX z).trans e)
 have EG:Same G (mrg (Ow own) H1 G):=λb u e=>by rw[jO λz=>by rw[a8 b z]at e;cases e];exact e
 refine k _ v x rx (E1.trans EH) (NR.back (H:=H1) ?_ E1);obtain⟨B,nb,s⟩:=n;have out:∀a∈B,¬Ow own a:=λa ha z=>(s.sole ha).ne (a8 a z);refine⟨B,λa ha=>by have:=nb a ha;rwa[cX (out a ha)]at this,s.same (jd (λb z=>?_) EG) EG⟩;rcases z with z|z
 .exact .inr (a8 b z)
 .exact .inl (.inr z)
def rB(a:RE):RT:=λo q=>a o λx=>match frz x with|.bl b=>q b|_=>False
def tru:T->(Bool->Prop)->Prop
 |.bl b,q=>q b
 |.int i,q=>q (i != 0)
 |.non,q=>q false
 |.lst ts,q=>q (!ts.isEmpty)
 |.tup ts,q=>q (!ts.isEmpty)
 |_,_=>False
def aoY(a:RE):RT:=λo q=>a o λx=>tru (frz x) q
def ajA(a b:RT):RT:=λo q=>a o λc=>sw c (b o q) (q false)
def rOr(a b:RT):RT:=λo q=>a o λc=>sw c (q true) (b o q)
def apQ(a:RT):RT:=λo q=>a o λc=>q (!c)
def am0(a b:RE):RE:=λo q=>a o λx=>match frz x with|.bl c=>sw c (b o q) (q (.fz (.bl false)))|_=>False
def anu(a:RE):RE:=λo q=>a o λx=>match frz x with|.bl c=>q (.fz (.bl (!c)))|_=>False
def rIf(c:RT)(a b:RE):RE:=λo q=>c o λk=>sw k (a o q) (b o q)
def tQT.mk{r:RT}{R:Bool->Prop}{Q:Bool->Hp->Prop}(h:SR K own H σ o)(hr:r o R)(k:∀H' b,R b->Same H H'->Q b H'):tQT K r σ H Q:=⟨own,o,R,h,hr,k⟩
def Rep.isEmpty{K:Frag}{F:Hp}{xs:Ζ}{ts:zh}(h:cg K F xs ts):xs.isEmpty=ts.isEmpty:=by cases h<;>rfl
def Km{c:Bool}{p q p' q':Prop}(h:sw c p q)(i:p->p')(j:q->q'):if c=true then p' else q':=by
 cases c
 .exact aql (j h)
 .exact aqd (i h)
section
variable{X:Cx}{a b c:Expr}{ra rb rc:RE}{qa qb qc:RT}{pos:Pos}{rest:zt}
def bW(ho:GO X (compareOp op) g)(ha:QE X a ra)(hb:QE X b rb)(hm:behindInMarks op b=false:=by exact adO _):QT X (.Compare a [op] [b] pos) (rB (rOp g ra rb)) :=
 (afI ho ha hb hm).imp λσ H Q ⟨own,o,R,h,hr,k⟩=>q2 (ra:=ra) (rb:=rb) (tQ.mk h hr λH1 v x q E1 r1=>by
  revert r1 q
  generalize frz x=t;intro q r1;cases r1<;>try exact q.elim
  exact⟨_,rfl,k _ _ q E1⟩)
def cF(ha:QE X a ra)(he:∀c6,isTrue a X.env c6=(do let v <- c6;standAt a.pos;holding [v] (truthy v)):=by exact λ_=>rfl):QT X a (aoY ra):=(adX ha he).imp λσ H Q ⟨own,o,R,h,hr,k⟩=>tQ.mk h hr λH1 v x q E1 r1=>by
 revert r1 q
 generalize frz x=t;intro q r1;cases t<;>try exact q.elim
 .cases r1;exact⟨false,rfl,k _ _ q E1⟩
 .cases r1;exact⟨_,rfl,k _ _ q E1⟩
 .cases r1;exact⟨_,rfl,k _ _ q E1⟩
 .obtain⟨p,xs,rfl,e,r⟩:=r1.tupI;exact⟨_,.inr (.inl ⟨xs,dH.tup e,rfl⟩),by rw[Rep.isEmpty r];exact k _ _ q E1⟩
 .obtain⟨p,xs,rfl,e,r⟩:=r1.lstI;exact⟨_,.inl ⟨xs,.of (cH e).2,rfl⟩,by rw[Rep.isEmpty r];exact k _ _ q E1⟩
def dN(ha:QT X a qa):QT X (.UnaryOp .Not a pos) (apQ qa):=(ajt ha).imp λσ H Q hP=>by obtain⟨own,o,R,h,hr,k⟩:=hP;exact tQT.mk h hr λH1 b q E1=>k H1 _ q E1
def Ax(ha:QT X a qa):QW X (.BoolOp .And [a] pos) qa:=pw_and1 ha
def eX(ha:QT X a qa):QW X (.BoolOp .Or [a] pos) qa:=pw_or1 ha
def Gi(ha:QT X a qa)(hb:QW X (.BoolOp .And (b::rest) pos) qb):QW X (.BoolOp .And (a::b::rest) pos) (ajA qa qb):=(pw_and ha hb).imp λσ H Q hP=>by obtain⟨own,o,R,h,hr,k⟩:=hP;exact tQT.mk h hr λH1 c q E1=>Km q (λq=>tQT.mk (h.same E1) q λH2 d q E2=>k H2 d q (E1.trans E2)) λq=>k H1 _ q E1
def fW(ha:QT X a qa)(hb:QW X (.BoolOp .Or (b::rest) pos) qb):QW X (.BoolOp .Or (a::b::rest) pos) (rOr qa qb):=(pw_or ha hb).imp λσ H Q hP=>by obtain⟨own,o,R,h,hr,k⟩:=hP;exact tQT.mk h hr λH1 c q E1=>Km q (λq=>k H1 _ q E1) λq=>tQT.mk (h.same E1) q λH2 d q E2=>k H2 d q (E1.trans E2)
def QW.qt(h:QW X a qa):QT X a qa:=PW.pt h
def G3{op}(h:QE X a ra):QE X (.BoolOp op [a] pos) ra:=ajB h
def G6(ha:QE X a ra)(hb:QE X (.BoolOp .And (b::rest) pos) rb):QE X (.BoolOp .And (a::b::rest) pos) (am0 ra rb):=(aiG ha hb).imp λσ H Q ⟨own,o,R,h,hr,k⟩=>tQ.mk h hr λH1 v x q E1 r1=>by
 revert r1 q
 generalize frz x=t;intro q r1;cases r1<;>try exact q.elim
 exact⟨_,rfl,Km q (λq=>⟨own,o,R,h.same E1,q,λH2 v x q E2 n=>k H2 v x q (E1.trans E2) (n.back E1)⟩) λq=>k H1 _ _ q E1 (NR.fz (.bl _))⟩
def ab0(ha:QE X a ra):QE X (.UnaryOp .Not a pos) (anu ra):=(ahY ha).imp λσ H Q ⟨own,o,R,h,hr,k⟩=>tQ.mk h hr λH1 v x q E1 r1=>by
 revert r1 q
 generalize frz x=t;intro q r1;cases r1<;>try exact q.elim
 exact⟨_,rfl,k H1 _ _ q E1 (NR.fz (.bl _))⟩
def FJ{c:Expr}(hc:QT X c qc)(ha:QE X a ra)(hb:QE X b rb):QE X (.IfExp c a b pos) (rIf qc ra rb):=(abo hc ha hb).imp λσ H Q ⟨own,o,R,h,hr,k⟩=>tQT.mk h hr λH1 c q E1 =>
 Km q (λq=>⟨own,o,R,h.same E1,q,λH2 v x q E2 n=>k H2 v x q (E1.trans E2) (n.back E1)⟩) λq=>⟨own,o,R,h.same E1,q,λH2 v x q E2 n=>k H2 v x q (E1.trans E2) (n.back E1)⟩
def rCh(g g':qA)(a b c:RE):RE:=λo q=>a o λx=>b o λy=>g (frz x) (frz y) λz=>match frz z with|.bl k=>sw k (c o λw=>g' (frz y) (frz w) q) (q (.fz (.bl false)))|_=>False
def q3{dL:CmpOp}{g':qA}(ho:GO X (compareOp op) g)(dA:GO X (compareOp dL) g')(h:tQ X.K (rCh g g' ra rb rc) σ H Q):XC (λx y H Q=>∃S t u R,(∀b,S b->H b≠none)/\Rep X.K (hd S H) x t/\Rep X.K (hd S H) y u/\g t u R/\∀H' v z,R z->Same H H'->NR X.K S H H' v z->Q v H') (λx y H Q=>∃S t u R,(∀b,S b->H b≠none)/\Rep X.K (hd S H) x t/\Rep X.K (hd S H) y u/\g' t u R/\∀H' v z,R z->Same H H'->NR X.K S H H' v z->Q v H') (tQ X.K ra) (tQ X.K rb) (tQ X.K rc) σ H Q:=by
 obtain⟨own,o,R,h,hr,k⟩:=h;refine tQ.mk h hr λH1 v x q E1 r1=>tQ.mk (h.same E1) q λH2 w y q2 E2 r2=>?_;have h2:=h.same (E1.trans E2);refine⟨Ow own,_,_,_,λb z=>(h2.sole z).ne,r1.same (bY E2),r2,q2,λH3 u z rz E3 n=>?_⟩;have k8:=n.rep λb z=>(h2.sole z).ne
 revert k8 rz
 generalize frz z=t;intro rz k8;cases k8<;>try exact rz.elim
 have h3:=h2.same E3;refine⟨_,rfl,Km rz (λq=>tQ.mk h3 q λH4 w' z q4 E4 r4=>⟨Ow own,_,_,R,λb z=>((h3.same E4).sole z).ne,r2.same (bY (E3.trans E4)),r4,q4,λH' u z rz E5 n=>k H' u z rz (E1.trans (E2.trans (E3.trans (E4.trans E5)))) (n.back (E1.trans (E2.trans (E3.trans E4))))⟩) λq=>k H3 _ _ q (E1.trans (E2.trans E3)) (NR.fz (.bl _))⟩
def Vh{dL:CmpOp}{g':qA}(ho:GO X (compareOp op) g)(dA:GO X (compareOp dL) g')(ha:QE X a ra)(hb:QE X b rb)(hc:QE X c rc)(hm:lastMarks [op,dL] [b,c]=false:=by with_unfolding_all rfl):QE X (.Compare a [op,dL] [b,c] pos) (rCh g g' ra rb rc):=(ad3 ho dA ha hb hc hm).imp λ_ _ _=>q3 ho dA
def Vp{dL:CmpOp}{g':qA}(ho:GO X (compareOp op) g)(dA:GO X (compareOp dL) g')(ha:QE X a ra)(hb:QE X b rb)(hc:QE X c rc)(hm:lastMarks [op,dL] [b,c]=false:=by with_unfolding_all rfl):QT X (.Compare a [op,dL] [b,c] pos) (rB (rCh g g' ra rb rc)) :=
 (acH ho dA ha hb hc hm).imp λσ H Q ⟨own,o,R,h,hr,k⟩=>q3 (ra:=ra) (rb:=rb) (rc:=rc) ho dA (tQ.mk h hr λH1 v x q E1 r1=>by
  revert r1 q
  generalize frz x=t;intro q r1;cases r1<;>try exact q.elim
  exact⟨_,rfl,k _ _ q E1⟩)
end
def nth{α:Type} : List α->Nat->Option α
 |[],_=>none
 |x::_,0=>some x
 |_::l,n+1=>nth l n
theorem vD{α:Type} : ∀(l:List α)(n:Nat),nth l n=l[n]?
 |[],_=>rfl
 |_::_,0=>rfl
 |_::l,n+1=>by simpa[nth]using vD l n
def ixT(ts:List α):Int->Option α
 |.ofNat n=>nth ts n
 |.negSucc n=>nth ts.reverse n
def WT(ts:List α)(i:Int):ixT ts i=atI ts i:=by
 unfold ixT atI ixN;cases i with
 |ofNat n =>
  show nth ts n=_;rw[vD,ZY (show 0<=Int.ofNat n from X9 n)];by_cases h:n<ts.length
  .rw[ZY (by show(n:Int)<_;lia)];rfl
  .rw[ZZ (by show ¬(n:Int)<_;lia),aM (Nat.not_lt.mp h)];rfl
 |negSucc n =>
  show nth ts.reverse n=_;rw[vD,ZZ wv];by_cases h:n<ts.length
  .rw[ZY wv,List.getElem?_reverse h];show _=ts[_]?;rw[show(Int.negSucc n+(ts.length:Int)).toNat=ts.length-1-n by lia]
  .rw[ZZ wv,aM (by rw[List.length_reverse];exact VS h)];rfl
def cg.ix{F:Hp}{i:Int}(h:cg K F xs ts)(e:ixT ts i=some t):∃x,atI xs i=some x/\Rep K F x t:=by
 rw[WT]at e;unfold atI at e ⊢;rw[h.len];cases j:ixN ts.length i with
 |none=>rw[j]at e;cases e
 |some n=>rw[j]at e;exact h.at_ e
def oT(x:Option α)(q:α->Prop):Prop:=match x with|some t=>q t|none=>False
def agV{x:Option α}{q:α->Prop}(h:oT x q):∃t,x=some t/\q t:=by
 cases x with
 |none=>exact h.elim
 |some t=>exact⟨t,rfl,h⟩
def gIx:qA
 |.tup ts,.int i,q=>oT (ixT ts i) λt=>q (.fz t)
 |.lst ts,.int i,q=>∃t,ixT ts i=some t/\q (.fz t)
 |.scr ts,.int i,q=>∃t,ixT ts i=some t/\q (.fz t)
 |.str s,.int i,q=>s.length<=sizeLine/\∃c,ixT s.cps.toList i=some c/\q (.fz (.str ⟨#[c]⟩))
 |_,_,_=>False
def gix:IxR X (λx y H Q=>∃S t u R,(∀b,S b->H b≠none)/\Rep X.K (hd S H) x t/\Rep X.K (hd S H) y u/\gIx t u R/\∀H' v z,R z->Same H H'->NR X.K S H H' v z->Q v H'):=by
 refine(Ao.or (ahL.or ahG)).imp λx y H Q h=>?_;obtain⟨S,t,u,R,_,hx,hy,hg,k⟩:=h;cases u with
 |int i=>?_
 |_=>cases t<;>exact hg.elim
 cases hy;cases t with
 |any=>exact hg.elim
 |non=>exact hg.elim
 |bl _=>exact hg.elim
 |int _=>exact hg.elim
 |val _=>exact hg.elim
 |dct _ _=>exact hg.elim
 |ins _ _ _=>exact hg.elim
 |exc _ _ _=>exact hg.elim
 |str s=>?_
 |tup ts=>?_
 |lst ts=>?_
 |scr ts=>?_
 .cases hx;obtain⟨z,c,e,q⟩:=hg;rw[WT]at e;exact .inr (.inr ⟨_,_,c,rfl,rfl,z,e,k H _ _ q (.refl _) (NR.fz (.str _))⟩)
 .obtain⟨p,xs,rfl,e,r⟩:=hx.tupI;obtain⟨t,j,q⟩:=agV hg;obtain⟨v,e',r'⟩:=r.ix j;exact .inr (.inl ⟨p,xs,i,v,rfl,rfl,dH.tup e,e',k H _ _ q (.refl _) (NR.fz r')⟩)
 .obtain⟨p,xs,rfl,e,r⟩:=hx.lstI;obtain⟨t,j,q⟩:=hg;obtain⟨v,e',r'⟩:=r.ix j;exact .inl ⟨p,xs,_,v,rfl,rfl,.of (cH e).2,e',k H _ _ q (.refl _) (NR.fz r')⟩
 .obtain⟨p,xs,rfl,e,r⟩:=hx.scrI;obtain⟨t,j,q⟩:=hg;obtain⟨v,e',r'⟩:=r.ix j;exact .inl ⟨p,xs,_,v,rfl,rfl,dH.seq e,e',k H _ _ q (.refl _) (NR.fz r')⟩
def bK(ha:QE X a ra)(hb:QE X b rb)(hs:tu b:=by exact λ_ _=>rfl):QE X (.Subscript a b pos) (rOp gIx ra rb):=(Oa gix ha hb hs).imp λ_ _ _=>q2
abbrev RO:=ze->(zI->Prop)->Prop
def tQO(K:Frag)(r:RO):TO:=λσ H Q=>∃own o R,SR K own H σ o/\r o R/\∀H' b,R b->Same H H'->Q b H'
def QO(X:Cx)(e:Option Expr)(r:RO):Prop:=PO X e (tQO X.K r)
def apF:RO:=λ_ q=>q none
def alq(a:RE):RO:=λo q=>a o λx=>match frz x with|.int i=>q (some i)|_=>False
def PO.imp{e:Option Expr}{t t':TO}(h:PO X e t)(i:∀σ H Q,t' σ H Q->t σ H Q):PO X e t':=λaa s σ H Q I q=>h aa s σ H Q I (i σ H Q q)
def Ra:QO X none apF:=afY.imp λσ H Q hP=>by obtain⟨own,o,R,h,hr,k⟩:=hP;exact k H _ hr (.refl _)
def iD(h:QE X e re):QO X (some e) (alq re):=(afr h).imp λσ H Q ⟨own,o,R,h,hr,k⟩=>tQ.mk h hr λH1 v x q E1 r1=>by
 revert r1 q
 generalize frz x=t;intro q r1;cases r1<;>try exact q.elim
 exact⟨_,rfl,k _ _ q E1⟩
def gZ(xs:List α)(lo hi:zI):List α:=(xs.drop (HT.sIx xs.length 0 lo)).take (HT.sIx xs.length xs.length hi-HT.sIx xs.length 0 lo)
def cg.cut{F:Hp}(h:cg K F xs ts)(lo hi:zI):cg K F (aaR xs lo hi) (gZ ts lo hi):=by
 unfold aaR gZ;rw[h.len];exact(h.drop _).take _
def gSl:T->zI->zI->(OT->Prop)->Prop
 |.lst ts,lo,hi,q=>q (.l1 (gZ ts lo hi))
 |.scr ts,lo,hi,q=>q (.l1 (gZ ts lo hi))
 |.str s,lo,hi,q=>s.length<=sizeLine/\q (.fz (.str (HY s lo hi)))
 |_,_,_,_=>False
def rSl(a:RE)(lo hi:RO):RE:=λo q=>a o λx=>lo o λl=>hi o λu=>gSl (frz x) l u q
def mR{rl rh:RO}(he:QE X e re)(hl:QO X lo rl)(hu:QO X hi rh):QE X (.Subscript e (.Slice lo hi none p2) pos) (rSl re rl rh):=(acr (afL.or ahw) he hl hu).imp λσ H Q ⟨own,o,R,h,hr,k⟩ =>
 tQ.mk h hr λH1 v x q E1 r1=>⟨own,o,_,h.same E1,q,λH2 l q E2=>⟨own,o,_,(h.same E1).same E2,q,λH3 u q E3=>by
  have E:=E1.trans (E2.trans E3);have r1:=r1.same (bY (E2.trans E3))
  revert r1 q
  generalize frz x=t;intro q r1;cases t<;>try exact q.elim
  .cases r1;exact .inr ⟨_,rfl,q.1,k _ _ _ q.2 E (NR.fz (.str _))⟩
  .obtain⟨p,xs,rfl,e,r⟩:=r1.lstI;exact .inl ⟨p,xs,rfl,.of (cH e).2,λa ha=>k _ _ _ q (E.trans (Same.upd ha)) ((Cq (r.cut l u) (Same.upd ha) ha cM).back E)⟩
  .obtain⟨p,xs,rfl,e,r⟩:=r1.scrI;exact .inl ⟨p,xs,rfl,dH.seq e,λa ha=>k _ _ _ q (E.trans (Same.upd ha)) ((Cq (r.cut l u) (Same.upd ha) ha cM).back E)⟩⟩⟩
section
variable{X:Cx}{e:Expr}{es:zt}{r:RA}{pos:Pos}
def amY(r:RA):RE:=λo q=>r o λts=>q (.fz (.tup ts))
def aoy(r:RA):RE:=λo q=>r o λts=>q (.l1 ts)
def dY(h:QA X es r)(hz:es.length<=sizeLine:=by decide):QE X (.Tuple es k pos) (amY r):=(aiC h).imp λσ H Q ⟨own,o,R,h,hr,k⟩=>tQA.mk h hr λH1 vs ts q ln E1 r1 =>
 ⟨by rw[r1.len,ln];exact hz,λp hp=>k _ _ _ q (E1.trans (Same.upd hp)) (NR.fz (.tup (.of (by rw[cX λz=>(h.sole z).ne (E1.free hp)];exact cM)) (r1.same (bY (Same.upd hp)))))⟩
def cR(h:QA X es r)(hz:es.length<=sizeLine:=by decide):QE X (.List es pos) (aoy r):=(ajC h).imp λσ H Q ⟨own,o,R,h,hr,k⟩=>tQA.mk h hr λH1 vs ts q ln E1 r1 =>
 ⟨by rw[r1.len,ln];exact hz,λp hp=>k _ _ _ q (E1.trans (Same.upd hp)) ((Cq r1 (Same.upd hp) hp cM).back E1)⟩
def GC(X:Cx)(f:Value)(g:ST):Prop:=jo X f λxs H Q=>∃S ts R,(∀b,S b->H b≠none)/\cg X.K (hd S H) xs ts/\g ts R/\∀H' v z,R z->Same H H'->NR X.K S H H' v z->Q v H'
variable{x:Str}{p:Pos}{id Ty:String}{g:ST}
def bT(hc:GC X (.builtin id) g)(hm:X.mg x=none)(hv:bootBuiltins x=some (.builtin id))(ha:QA X (e::es) r)(hg:Gl X x:=by rfl)(hn:x≠"__name__":=by decide)(cf:qk x:=by decide)
 (he:qo X e es:=by rfl)(br:qh X pos es:=by rfl):QE X (.Call (.Name x p) (e::es) [] pos) (ady g r) :=
 (Vj hc hg hm hv ha hn cf he br).imp λσ H Q hP=>by obtain⟨own,o,R,h,hr,k⟩:=hP;exact tQA.mk h hr λH1 vs ts q _ E1 r1=>⟨Ow own,ts,R,λb z=>((h.same E1).sole z).ne,r1,q,λH' v z rz E n=>k H' v z rz (E1.trans E) (n.back E1)⟩
def jQ(hc:GC X (.type Ty) g)(hm:X.mg x=none)(hv:bootBuiltins x=some (.type Ty))(ha:QA X (e::es) r)(hg:Gl X x:=by rfl)(hn:x≠"__name__":=by decide)(cf:qk x:=by decide)
 (he:qo X e es:=by rfl)(br:qh X pos es:=by rfl):QE X (.Call (.Name x p) (e::es) [] pos) (ady g r) :=
 (aa5 hc hg hm hv ha hn cf he br).imp λσ H Q hP=>by obtain⟨own,o,R,h,hr,k⟩:=hP;exact tQA.mk h hr λH1 vs ts q _ E1 r1=>⟨Ow own,ts,R,λb z=>((h.same E1).sole z).ne,r1,q,λH' v z rz E n=>k H' v z rz (E1.trans E) (n.back E1)⟩
def cg.one{F:Hp}(h:cg K F xs [t]):∃x,xs=[x]/\Rep K F x t:=by
 cases h with
 |cons a b=>cases b;exact⟨_,rfl,a⟩
def cg.two{F:Hp}{u:T}(h:cg K F xs [t,u]):∃x y,xs=[x,y]/\Rep K F x t/\Rep K F y u:=by
 cases h with
 |cons a b =>
  obtain⟨y,rfl,c⟩:=b.one;exact⟨_,y,rfl,a,c⟩
def g1(g:T->(OT->Prop)->Prop):ST:=λts q=>match ts with|[t]=>g t q|_=>False
def GC.one{f:Value}{g:T->(OT->Prop)->Prop}{r:Ζ->Hp->VK->Prop}(h:jo X f r)(i:∀S t x H Q R,Rep X.K (hd S H) x t->g t R->(∀H' v z,R z->Same H H'->NR X.K S H H' v z->Q v H')->r [x] H Q):GC X f (g1 g):=h.imp λxs H Q hP=>by
 obtain⟨S,ts,R,_,rs,hg,k⟩:=hP
 match ts,hg with
 |[t],hg =>
  obtain⟨x,rfl,rx⟩:=rs.one;exact i S t x H Q R rx hg k
def ao2:T->(OT->Prop)->Prop
 |.lst ts,q=>q (.fz (.int ts.length))
 |.tup ts,q=>q (.fz (.int ts.length))
 |.scr ts,q=>q (.fz (.int ts.length))
 |_,_=>False
def cQ:GC X (.builtin "len") (g1 ao2):=.one S6 λS t x H Q R rx hg k=>by
 cases t<;>try exact hg.elim
 .obtain⟨p,xs,rfl,e,r⟩:=rx.tupI;exact⟨p,xs,rfl,.inr (dH.tup e),k H _ _ hg (.refl _) (NR.fz (by rw[r.len];exact .int _))⟩
 .obtain⟨p,xs,rfl,e,r⟩:=rx.lstI;exact⟨p,xs,rfl,.inl (.of (cH e).2),k H _ _ hg (.refl _) (NR.fz (by rw[r.len];exact .int _))⟩
 .obtain⟨p,xs,rfl,e,r⟩:=rx.scrI;exact⟨p,xs,rfl,.inl (dH.seq e),k H _ _ hg (.refl _) (NR.fz (by rw[r.len];exact .int _))⟩
def apA:T->(OT->Prop)->Prop
 |.str s,q=>s.length<=sizeLine/\q (.fz (.int s.length))
 |_,_=>False
def aqc:T->(OT->Prop)->Prop
 |.dct ks _,q=>q (.fz (.int ks.length))
 |_,_=>False
def aaz:jo X (.builtin "len") (λxs H Q=>∃p kvs,xs=[.ref p]/\Rd H p (.dK kvs)/\Q (.int kvs.length) H):=by
 intro aa s σ H xs us Q I r h;obtain⟨p,kvs,rfl,hp,q⟩:=h;obtain⟨u,rfl,rx⟩:=vals1 r;cases rx;have hok:kvs.length<=sizeLine/\(p==sysModules)=false/\∃vs,KV kvs vs/\s.heap.DictOf (gn X.prog X.w) p vs:=by
  rcases hp with hp|⟨o,hp⟩
  .exact I.hok p _ hp
  .exact(I.hok p _ hp).2
 obtain⟨hz,hS,vs,rr,m⟩:=hok;have hl:=zZ;have be:kvs.length=vs.length:=rr.length;exact call_len_dict hS m wv ⟨.int kvs.length,H,I.tok _,⟨_,by rw[be]⟩,q⟩
def ZL:GC X (.builtin "len") (g1 aqc):=.one aaz λS t x H Q R rx hg k=>by
 cases t<;>try exact hg.elim
 obtain⟨p,xs,rfl,e,l,r⟩:=rx.dctI;exact⟨p,_,rfl,dH.rd e,k H _ _ hg (.refl _) (NR.fz (by rw[WH,l,Up];exact .int _))⟩
def apc:T->(OT->Prop)->Prop
 |.int i,q=>q (.fz (.int i.natAbs))
 |_,_=>False
def JK:GC X (.builtin "abs") (g1 apc):=.one adu λS t x H Q R rx hg k=>by
 cases t<;>try exact hg.elim
 cases rx;exact⟨_,rfl,k H _ _ hg (.refl _) (NR.fz (by rw[ahR];exact .int _))⟩
theorem cg.ints{K:Frag}{F:Hp} : ∀{xs:Ζ}{ns:xz},cg K F xs (ns.map T.int)->xs=ns.map V.int
 |_,[],.nil=>rfl
 |_,n::ns,.cons a b=>by cases a;rw[cg.ints b];rfl
theorem cg.bls{K:Frag}{F:Hp} : ∀{xs:Ζ}{ns:zi},cg K F xs (ns.map T.bl)->xs=ns.map V.bl
 |_,[],.nil=>rfl
 |_,n::ns,.cons a b=>by cases a;rw[cg.bls b];rfl
theorem GZ{K:Frag}{F:Hp} : ∀(ns:xz),cg K F (ns.map V.int) (ns.map T.int)
 |[]=>.nil
 |_::ns=>.cons (.int _) (GZ ns)
def aqe:T->(OT->Prop)->Prop
 |.lst ts,q=>∃ns:xz,ts=ns.map T.int/\q (.fz (.int ns.sum))
 |_,_=>False
def Xq(hc:X.calm=true):GC X (.builtin "sum") (g1 aqe):=.one (aal hc) λS t x H Q R rx hg k=>by
 cases t<;>try exact hg.elim
 obtain⟨p,xs,rfl,e,r⟩:=rx.lstI;obtain⟨ns,rfl,q⟩:=hg;exact⟨p,ns,rfl,(r.ints ▸ (cH e).2),k H _ _ q (.refl _) (NR.fz (.int _))⟩
def amu(f:zi->Bool):T->(OT->Prop)->Prop
 |.lst ts,q=>∃bs:zi,ts=bs.map T.bl/\q (.fz (.bl (f bs)))
 |_,_=>False
def Xb(hc:X.calm=true):GC X (.builtin "all") (g1 (amu λbs=>bs.all λb=>b)):=.one (aas hc) λS t x H Q R rx hg k=>by
 cases t<;>try exact hg.elim
 obtain⟨p,xs,rfl,e,r⟩:=rx.lstI;obtain⟨ns,rfl,q⟩:=hg;exact⟨p,ns,rfl,(r.bls ▸ (cH e).2),k H _ _ q (.refl _) (NR.fz (.bl _))⟩
def Xl(hc:X.calm=true):GC X (.builtin "any") (g1 (amu λbs=>bs.any λb=>b)):=.one (aag hc) λS t x H Q R rx hg k=>by
 cases t<;>try exact hg.elim
 obtain⟨p,xs,rfl,e,r⟩:=rx.lstI;obtain⟨ns,rfl,q⟩:=hg;exact⟨p,ns,rfl,(r.bls ▸ (cH e).2),k H _ _ q (.refl _) (NR.fz (.bl _))⟩
def aoS:T->(OT->Prop)->Prop
 |.lst ts,q=>∃ns:xz,ts=ns.map T.int/\ns.length<64/\∀ms:xz,ms.Perm ns->ms.Pairwise (· <= ·)->q (.l1 (ms.map T.int))
 |_,_=>False
def abb:GC X (.builtin "sorted") (g1 aoS):=.one aaV λS t x H Q R rx hg k=>by
 cases t<;>try exact hg.elim
 obtain⟨p,xs,rfl,e,r⟩:=rx.lstI;obtain⟨ns,rfl,l,q⟩:=hg;exact⟨p,ns,rfl,(r.ints ▸ (cH e).2),l,λms a ha m1 m2=>k _ _ _ (q ms m1 m2) (Same.upd ha) (Cq (GZ ms) (Same.upd ha) ha cM)⟩
def aly:T->(OT->Prop)->Prop
 |.lst ts,q=>q (.l1 ts)
 |_,_=>False
def sY:GC X (.type "list") (g1 aly):=.one X6 λS t x H Q R rx hg k=>by
 cases t<;>try exact hg.elim
 obtain⟨p,xs,rfl,e,r⟩:=rx.lstI;exact⟨p,xs,rfl,(cH e).2,λa ha=>k _ _ _ hg (Same.upd ha) (Cq r (Same.upd ha) ha cM)⟩
def apm:T->(OT->Prop)->Prop
 |.int i,q=>q (.fz (.int i))
 |.bl b,q=>q (.fz (.int (if b then 1 else 0)))
 |_,_=>False
def aiy:GC X (.type "int") (g1 apm):=.one aah λS t x H Q R rx hg k=>by
 cases t<;>try exact hg.elim
 .cases rx;exact .inr ⟨_,rfl,k H _ _ hg (.refl _) (NR.fz (.int _))⟩
 .cases rx;exact .inl ⟨_,rfl,k H _ _ hg (.refl _) (NR.fz (.int _))⟩
inductive Knd where
 |int|bool|str|list|tuple
def Knd.s:Knd->String
 |.int=>"int"
 |.bool=>"bool"
 |.str=>"str"
 |.list=>"list"
 |.tuple=>"tuple"
def isK:Knd->T->Option Bool
 |.int,.int _=>some true
 |.int,.bl _=>some true
 |.bool,.bl _=>some true
 |.str,.str _=>some true
 |.list,.lst _=>some true
 |.tuple,.tup _=>some true
 |_,.any=>none
 |_,.val _=>none
 |_,.scr _=>none
 |_,.ins _ _ _=>none
 |_,.exc _ _ _=>none
 |_,.dct _ _=>none
 |_,_=>some false
def ahy(kd:Knd):GC X (.builtin "isinstance") (λts q=>match ts with|[t,.val v]=>v=.ty kd.s/\oT (isK kd t) λb=>q (.fz (.bl b))|_=>False):=by
 intro aa s σ H xs us Q I rs h;obtain⟨S,ts,R,_,rp,hg,k⟩:=h
 match ts,hg with
 |[t,.val v],hg =>
  obtain⟨x,y,rfl,rx,ry⟩:=rp.two;cases ry;obtain⟨rfl,hg⟩:=hg;obtain⟨b,j,q⟩:=agV hg;have hk:kd.s∈["bool","int","str","list","tuple","dict"]:=by cases kd<;>decide
  cases t with
  |tup ts =>
   obtain⟨p,ys,rfl,e,r⟩:=rx.tupI;have eb:b=Qw "tuple" kd.s:=by cases kd<;>cases j<;>decide
   exact Vy aa s σ H _ us Q I rs ⟨p,kd.s,ys,rfl,hk,dH.tup e,k H _ _ q (.refl _) (NR.fz (eb ▸ .bl _))⟩
  |lst ts =>
   obtain⟨p,ys,rfl,e,r⟩:=rx.lstI;have eb:b=Qw "list" kd.s:=by cases kd<;>cases j<;>decide
   exact zc aa s σ H _ us Q I rs ⟨_,kd.s,"list",rfl,hk,by show(match H p with|some (.lst _)=>some "list" |some (.tup _)=>some "tuple" |some (.dK _)=>some "dict" |_=>none)=_;rw[(cH e).2],k H _ _ q (.refl _) (NR.fz (eb ▸ .bl _))⟩
  |non =>
   cases rx;have eb:b=Qw "NoneType" kd.s:=by cases kd<;>cases j<;>decide
   exact zc aa s σ H _ us Q I rs ⟨_,kd.s,"NoneType",rfl,hk,rfl,k H _ _ q (.refl _) (NR.fz (eb ▸ .bl _))⟩
  |bl c =>
   cases rx;have eb:b=Qw "bool" kd.s:=by cases kd<;>cases j<;>decide
   exact zc aa s σ H _ us Q I rs ⟨_,kd.s,"bool",rfl,hk,rfl,k H _ _ q (.refl _) (NR.fz (eb ▸ .bl _))⟩
  |int i =>
   cases rx;have eb:b=Qw "int" kd.s:=by cases kd<;>cases j<;>decide
   exact zc aa s σ H _ us Q I rs ⟨_,kd.s,"int",rfl,hk,rfl,k H _ _ q (.refl _) (NR.fz (eb ▸ .bl _))⟩
  |str c =>
   cases rx;have eb:b=Qw "str" kd.s:=by cases kd<;>cases j<;>decide
   exact zc aa s σ H _ us Q I rs ⟨_,kd.s,"str",rfl,hk,rfl,k H _ _ q (.refl _) (NR.fz (eb ▸ .bl _))⟩
  |_=>cases kd<;>cases j
def apR(kd:Knd)(a:RE):RE:=λo q=>a o λx=>oT (isK kd (frz x)) λb=>q (.fz (.bl b))
def rM(kd:Knd){y:Str}(ha:QE X a ra)(hm:X.mg "isinstance"=none)(kN:X.mg y=none)(mm:bootBuiltins y=some (.type kd.s))(hg2:Gl X y:=by rfl)(hg:Gl X "isinstance":=by rfl)(iN:y≠"__name__":=by decide)(nr:qk y:=by decide)
 (he:starEach (a::[.Name y p2]) X.env=(false,eval a X.env)::starEach [.Name y p2] X.env:=by rfl):QE X (.Call (.Name "isinstance" p) [a,.Name y p2] [] pos) (apR kd ra) :=
 (Vj (ahy kd) hg hm boot_isinstance (pL ha (pL (aeP (v:=.ty kd.s) hg2 kN mm rfl iN nr) QD) he) wx wx he).imp λσ H Q ⟨own,o,R,h,hr,k⟩=>tQ.mk h hr λH1 v x q E1 r1 =>
  ⟨Ow own,[frz x,.val (.ty kd.s)],R,λb z=>((h.same E1).sole z).ne,.cons r1 (.cons (.val _) .nil),⟨rfl,q⟩,λH' v z rz E n=>k H' v z rz (E1.trans E) (n.back E1)⟩
end
structure DT where
 nx:ze->Prop
 rt:OT->Prop
 bk:ze->Prop:=λ_=>False
 ct:ze->Prop:=λ_=>False
 xc:Addr->Φ->zh->Prop:=λ_ _ _=>False
abbrev RS:=DT->ze->Prop
def zx(X:Cx):XK:=λC d H'=>(∀aa σ H s a s' B,Inv X aa σ H s->Fly X.prog X.w X.stack H s a C H' s' B d->X.xe (.ref a) s') /\
 ∀aa σ H s a c,C=.ref c->Inv X aa σ H s->H a=some (XN a c d)->X.s₀.heap.objs.size<=a->out H a=H'->X.xe (.ref a) s
structure Lnk(K:Frag)(Z:XK)(F:Hp)(E:DT)(D:Ends):Prop where
 nx:∀own H σ o,E.nx o->Same F (hd (Ow own) H)->SR K own H σ o->D.nx σ H
 rt:∀S H v x B,E.rt x->Same F (hd S H)->Slo K (hd S H) H (some v) B x->(∀a∈B,S a)->D.rt v H
 bk:∀own H σ o,E.bk o->Same F (hd (Ow own) H)->SR K own H σ o->D.bk σ H
 ct:∀own H σ o,E.ct o->Same F (hd (Ow own) H)->SR K own H σ o->D.ct σ H
 xc:∀H C d ks vs ts,E.xc C ks ts->Same F H->H d=some (.xd (ks.zip vs))->cg K H vs ts->Z (.ref C) (some d) H
variable{E:DT}{st:Stmt}{b a:RS}{i7:xB}{bi ah af aw:Pos}{D:Addr}{i:Nat}{ys:Ζ}
def Lnk.step{Z:XK}{F F':Hp}{D:Ends}(h:Lnk K Z F E D)(S:Same F F'):Lnk K Z F' E D :=
 ⟨λown H σ o e s=>h.nx own H σ o e (S.trans s),λT H v x B e s=>h.rt T H v x B e (S.trans s),λown H σ o e s=>h.bk own H σ o e (S.trans s),λown H σ o e s=>h.ct own H σ o e (S.trans s),λH C d ks vs ts e s=>h.xc H C d ks vs ts e (S.trans s)⟩
def tQS(X:Cx)(r:RS):TS:=λD σ H=>∃own o E,SR X.K own H σ o/\r E o/\Lnk X.K (zx X) (hd (Ow own) H) E D
def QS(X:Cx)(st:Stmt)(r:RS):Prop:=PS X st (tQS X r)
def QSs(X:Cx)(st:xB)(r:RS):Prop:=PSs X st (tQS X r)
def PS.imp{t t':TS}(h:PS X st t)(i:∀D σ H,t' D σ H->t D σ H):PS X st t':=λaa s σ H D I q=>h aa s σ H D I (i D σ H q)
def PSs.imp{st:xB}{t t':TS}(h:PSs X st t)(i:∀D σ H,t' D σ H->t D σ H):PSs X st t':=λaa s σ H D I q=>h aa s σ H D I (i D σ H q)
def anZ:RS:=λE o=>E.nx o
def jF(a b:RS):RS:=λE o=>a { E with nx:=b E } o
def ahJ(i:Nat)(a:RE):RS:=λE o=>a o λx=>E.nx (o.set i (.fz (frz x)))
def aiu(i:Nat)(a:RE):RS:=λE o=>a o λx=>E.nx (o.set i x)
def aoc(a:RE):RS:=λE o=>a o λ_=>E.nx o
def ao7(a:RE):RS:=λE o=>a o E.rt
def agU(i:Nat):RS:=λE o=>match slot o i with|.und=>False|x=>E.rt x
def al8(c:RT)(a b:RS):RS:=λE o=>c o λk=>sw k (a E o) (b E o)
def ais:RS:=λ_ _=>False
def aom(i:Nat)(a:RS):RS:=λE o=>match slot o i with|.und=>False|x=>a E (o.set i (.fz (frz x)))
def SR.putA(h:SR K own H σ o)(E:Same H H'){x:OT}(n:NR K (Ow own) H H' v x)(i:Nat):∃ai,SR K ai H' (σ.set i (some v)) (o.set i x)/\Same (hd (Ow own) H) (hd (Ow ai) H'):=by
 by_cases hi:i<o.length
 .exact h.put E n hi
 .rw[Zzx (Nat.not_lt.mp hi),Zzx (h.len ▸ Nat.not_lt.mp hi)];exact⟨own,h.same E,bY E⟩
def NR.frz{S:Addr->Prop}{v:V}{x:OT}(n:NR K S H H' v x)(hs:∀b,S b->H b≠none):NR K S H H' v (.fz (L2.frz x)):=NR.fz (n.rep hs)
def Slo.val{F:Hp}{v:xC}{A:Ψ}{x:OT}(h:Slo K F H v A x)(n:x≠.und):∃u,v=some u:=by
 cases x with
 |und=>exact absurd rfl n
 |fz t=>exact⟨_,h.2.choose_spec.1⟩
 |l1 ts=>obtain⟨a,xs,e,_⟩:=h;exact⟨_,e⟩
 |l2 ts=>obtain⟨a,xs,e,_⟩:=h;exact⟨_,e⟩
 |d1 ks ts=>obtain⟨a,xs,e,_⟩:=h;exact⟨_,e⟩
 |ob a d C ks ts=>obtain⟨xs,e,_⟩:=h;exact⟨_,e⟩
 |la a ts=>obtain⟨xs,e,_⟩:=h;exact⟨_,e⟩
def SR.val(h:SR K own H σ o){i:Nat}{x:OT}(e:slot o i=x)(n:x≠.und):∃u,σ[i]?=some (some u)/\Slo K (hd (Ow own) H) H (some u) (own i) x:=by
 have s:=h.sl i x (iC e n);obtain⟨u,hu⟩:=s.val n;rw[hu]at s;refine⟨u,?_,s⟩;cases z:σ[i]? with
 |none=>rw[z]at hu;cases hu
 |some w=>rw[z]at hu;exact ZH some hu
def bV:QSs X [] anZ:=afJ.imp λD σ H hP=>by obtain⟨own,o,E,h,hr,L⟩:=hP;exact L.nx own H σ o hr (.refl _) h
def ap8{D:Ends}(h:tQS X (jF a b) D σ H):alG (tQS X a) (tQS X b) D σ H:=by
 obtain⟨own,o,E,h,hr,L⟩:=h;exact⟨own,o,_,h,hr,λai H' σ' o' q S h'=>⟨ai,o',E,h',q,L.step S⟩,L.rt,L.bk,L.ct,L.xc⟩
def bG(h1:QS X st a)(h2:QSs X i7 b):QSs X (st::i7) (jF a b):=(aco h1 h2).imp λ_ _ _=>ap8
def bI(h:QS X st a):QSs X [st] a:=af5 h
def bQ(i:Nat)(he:QE X e re)(hN:X.N.Nodup:=by assumption)(hx:Loc X.env.scope x:=by first|exact .inl rfl|exact .inr rfl)(hi:X.N[i]?=some x:=by rfl)(hs:swapsWith e (some (.Name x bi)) pos.line X.env=pure false:=by rfl)(hf:qi X x:=by first|exact .inl rfl|exact .inr rfl|assumption) :
  QS X (.Assign [.Name x bi] e pos) (ahJ i re):=(ade hN hi hx he hs hf).imp λD σ H ⟨own,o,E,h,hr,L⟩=>⟨own,o,_,h,hr,λH' v y q S n=>by
 obtain⟨ai,h',S'⟩:=h.putA S (n.frz λb z=>(h.sole z).ne) i;exact L.nx ai H' _ _ q S' h'⟩
def gK(i:Nat)(he:QE X e re)(hN:X.N.Nodup:=by assumption)(hx:Loc X.env.scope x:=by first|exact .inl rfl|exact .inr rfl)(hi:X.N[i]?=some x:=by rfl)(hs:swapsWith e (some (.Name x bi)) pos.line X.env=pure false:=by rfl)(hf:qi X x:=by first|exact .inl rfl|exact .inr rfl|assumption) :
  QS X (.Assign [.Name x bi] e pos) (aiu i re):=(ade hN hi hx he hs hf).imp λD σ H ⟨own,o,E,h,hr,L⟩=>⟨own,o,_,h,hr,λH' v y q S n=>by
 obtain⟨ai,h',S'⟩:=h.putA S n i;exact L.nx ai H' _ _ q S' h'⟩
def mX(he:QE X e re)(hs:swapsWith e none pos.line X.env=pure false:=by rfl):QS X (.Expr e pos) (aoc re):=(Bb he hs).imp λD σ H hP=>by obtain⟨own,o,E,h,hr,L⟩:=hP;exact⟨own,o,_,h,hr,λH' v y q S n=>L.nx own H' σ o q (bY S) (h.same S)⟩
def bR(he:QE X e re):QS X (.Return (some e) pos) (ao7 re):=(WM he).imp λD σ H ⟨own,o,E,h,hr,L⟩=>⟨own,o,_,h,hr,λH' v y q S n=>by
 obtain⟨B,nb,s⟩:=n;exact L.rt _ H' v y B q (jd (λb z=>z.imp id (nb b)) S) s λa ha=>.inr ha⟩
def iu(i:Nat)(hN:X.N[i]?=some x:=by rfl)(hv:rD X.env.scope x=true:=by rfl)(hd:qk x:=by decide)(a9:qf x:=by decide):QS X (.Return (some (.Name x p)) pos) (agU i):=(WM (pv i hN hv hd a9)).imp λD σ H hP=>by
 obtain⟨own,o,E,h,hr,L⟩:=hP;have hr:E.rt (slot o i)/\slot o i≠.und:=by
  unfold agU at hr;cases e:slot o i<;>rw[e]at hr<;>first|exact hr.elim|exact⟨hr,λz=>by cases z⟩
 obtain⟨u,e,s⟩:=h.val rfl hr.2;exact⟨u,e,L.rt (Ow own) H u _ _ hr.1 (.refl _) s λa ha=>⟨i,ha⟩⟩
def cA{ss ts:xB}{qc:RT}(hc:QT X c qc)(ha:QSs X ss a)(hb:QSs X ts b):QS X (.If c ss ts pos) (al8 qc a b):=(ak5 hc ha hb).imp λD σ H ⟨own,o,E,h,hr,L⟩=>tQT.mk h hr λH1 c q E1 =>
 Km q (λq=>⟨own,o,E,h.same E1,q,L.step (bY E1)⟩) λq=>⟨own,o,E,h.same E1,q,L.step (bY E1)⟩
def gG:QS X st ais:=adt.imp λD σ H hP=>by obtain⟨own,o,E,h,hr,L⟩:=hP;exact hr
def Tr(i:Nat)(hs:QS X st a):QS X st (aom i a):=PS.imp hs λD σ H hP=>by
 obtain⟨own,o,E,h,hr,L⟩:=hP;have hr:a E (o.set i (.fz (frz (slot o i))))/\slot o i≠.und:=by
  unfold aom at hr;cases e:slot o i<;>rw[e]at hr<;>first|exact hr.elim|exact⟨hr,λz=>by cases z⟩
 obtain⟨u,e1,s⟩:=h.val rfl hr.2;obtain⟨ai,h',S⟩:=h.frz (iC rfl hr.2) e1;exact⟨ai,_,E,h',hr.1,L.step S⟩
def Gx{u:HO}(h:S D):hd S (upd H D u)=hd S H:=funext λb=>by
 by_cases z:S b
 .rw[rJ z,rJ z]
 .rw[cX z,cX z,cB λ(e:b=D)=>z (e.symm ▸ h)]
def asL:OT->Option (List T×(zh->OT))
 |.l1 ts=>some (ts,.l1)
 |.la a ts=>some (ts,.la a)
 |_=>none
def onL(x:OT)(k:zh->(zh->OT)->Prop):Prop:=match asL x with|some (ts,c)=>k ts c|none=>False
def Gp{x:OT}{k:zh->(zh->OT)->Prop}(h:onL x k):∃ts c,k ts c/\((x=.l1 ts/\c=.l1)\/∃a,x=.la a ts/\c=.la a):=by
 cases x with
 |l1 ts=>exact⟨ts,_,h,.inl ⟨rfl,rfl⟩⟩
 |la a ts=>exact⟨ts,_,h,.inr ⟨a,rfl,rfl⟩⟩
 |_=>exact h.elim
def aqp(i:Nat)(a:RE):RS:=λE o=>onL (slot o i) λts c=>a o λy=>ts.length<sizeLine/\E.nx (o.set i (c (ts++[frz y])))
def SR.l1{K:Frag}{own:Nat->Ψ}{H:Hp}{σ:L2.St}{o:ze}(h:SR K own H σ o){i:Nat}{ts:zh}{c:zh->OT}(e:(slot o i=.l1 ts/\c=.l1)\/∃a,slot o i=.la a ts/\c=.la a):∃l xs,σ[i]?=some (some (.ref l))/\own i=[l]/\H l=some (.lst xs)/\cg K (hd (Ow own) H) xs ts/\∀(H':Hp)(ys:Ζ)us,H' l=some (.lst ys)->cg K (hd (Ow own) H') ys us->Slo K (hd (Ow own) H') H' (some (.ref l)) [l] (c us):=by
 rcases e with⟨e,rfl⟩|⟨a,e,rfl⟩
 .obtain⟨u,e1,l,xs,e2,e3,e4,r⟩:=h.val e (by intro z;cases z);cases e2;exact⟨l,xs,e1,e3,e4,r,λH' ys us a b=>⟨l,ys,rfl,rfl,a,b⟩⟩
 .obtain⟨u,e1,xs,e2,e3,e4,r⟩:=h.val e (by intro z;cases z);cases e2;exact⟨a,xs,e1,e3,e4,r,λH' ys us a b=>⟨ys,rfl,rfl,a,b⟩⟩
def Lg{c:zh->OT}(e:(slot o i=.l1 ts/\c=.l1)\/∃a,slot o i=.la a ts/\c=.la a):∃x,o[i]?=some x:=by
 rcases e with⟨e,_⟩|⟨a,e,_⟩
 .exact⟨_,iC e (by intro z;cases z)⟩
 .exact⟨_,iC e (by intro z;cases z)⟩
def SR.chg1(h:SR K own H σ o){us:zh}{c:zh->OT}(e:∃x,o[i]?=some x){l:Addr}(eσ:σ[i]?=some (some (.ref l)))(eo:own i=[l])(sl:∀(H':Hp)(ys:Ζ)us,H' l=some (.lst ys)->cg K (hd (Ow own) H') ys us->Slo K (hd (Ow own) H') H' (some (.ref l)) [l] (c us))(r:cg K (hd (Ow own) H) ys us):SR K own (upd H l (.lst ys)) σ (o.set i (c us))/\Same (hd (Ow own) H) (hd (Ow own) (upd H l (.lst ys))):=by
 obtain⟨x,e⟩:=e;refine h.chg e (λb u hb e=>(cB λz=>hb (by rw[eo,z];simp)).trans e) ?_;rw[eσ,eo];exact sl _ ys us cM (by rw[Gx ⟨i,by rw[eo];simp⟩];exact r)
def uh(i:Nat)(he:QE X e re)(hN:X.N[i]?=some x:=by rfl)(hv:rD X.env.scope x=true:=by rfl)(bt:qk x:=by decide)(a9:qf x:=by decide)
 (hb:attributeBase (.Name x p) "append" X.env (eval (.Name x p) X.env)=eval (.Name x p) X.env:=by rfl)
 (hf:qr X af e:=by rfl)
 (hl:zz ah af:=by rfl)(b8:qo X e []:=by rfl)(hp:qh X af []:=by rfl)
 (hs:swapsWith (.Call (.Attribute (.Name x p) "append" ah) [e] [] af) none pos.line X.env=pure false:=by rfl) :
  QS X (.Expr (.Call (.Attribute (.Name x p) "append" ah) [e] [] af) pos) (aqp i re):=(Bb (acu (pv i hN hv bt a9) (pL he QD b8) hb hf hl b8 hp) hs).imp λD σ H hP=>by
 obtain⟨own,o,E,h,hr,L⟩:=hP;obtain⟨ts,c,hr,es⟩:=Gp hr;obtain⟨l,xs,e1,e2,e3,r,sl⟩:=h.l1 es;refine⟨_,e1,l,xs,rfl,e3,tQ.mk h hr λH1 v y q E1 r1=>⟨v,xs,rfl,E1 _ _ e3,by rw[r.len];exact q.1,?_⟩⟩;obtain⟨h',S⟩:=(h.same E1).chg1 (Lg es) e1 e2 sl ((r.same (bY E1)).app (.cons r1 .nil));exact L.nx own _ σ _ q.2 ((bY E1).trans S) h'
def apa(i:Nat)(a b:RE):RS:=λE o=>onL (slot o i) λts c=>a o λy=>b o λk=>(match frz k with|.int j=>∃n,ixN ts.length j=some n/\E.nx (o.set i (c (ts.set n (frz y))))|_=>False)
def uo(i:Nat){k:Expr}{rk:RE}(he:QE X e re)(hk:QE X k rk)(hN:X.N[i]?=some x:=by rfl)(hv:rD X.env.scope x=true:=by rfl)(bt:qk x:=by decide)(a9:qf x:=by decide)
 (ha:∀v,assign (.Subscript (.Name x p) k aw) X.env v=(do
   let ov <- holding [v] (eval (.Name x p) X.env)
   let iv <- holding [v,ov] (eval k X.env)
   standAt aw
   holding [v,ov,iv] (setItem ov iv v)
   release [v,ov,iv] []):=by intro _;rfl)
 (hs:swapsWithSole [.Subscript (.Name x p) k aw] e pos.line X.env=pure false:=by rfl)(hw:swappedStores [.Subscript (.Name x p) k aw] e X.env=pure none:=by rfl)
 (h1:(assignEach [.Subscript (.Name x p) k aw] X.env).map (·.2)=[assign (.Subscript (.Name x p) k aw) X.env]:=by rfl):QS X (.Assign [.Subscript (.Name x p) k aw] e pos) (apa i re rk):=(Wx he (adl (pv i hN hv bt a9) hk set_list ha) hs hw h1).imp λD σ H hP=>by
 obtain⟨own,o,E,h,hr,L⟩:=hP;obtain⟨ts,c,hr,es⟩:=Gp hr;obtain⟨l,xs,e1,e2,e3,r,sl⟩:=h.l1 es;refine tQ.mk h hr λH1 v y q E1 r1=>⟨_,e1,tQ.mk (h.same E1) q λH2 w z q E2 r2=>?_⟩;have r1:=r1.same (bY E2)
 revert r2 q
 generalize frz z=t;intro q r2;cases t<;>try exact q.elim
 cases r2;obtain⟨n,en,q⟩:=q;have bP:=E1.trans E2;refine⟨l,xs,_,n,rfl,rfl,bP _ _ e3,by rw[r.len];exact en,?_⟩;obtain⟨h',S⟩:=(h.same bP).chg1 (Lg es) e1 e2 sl (cg.set r1 n (r.same (bY bP)));exact L.nx own _ σ _ q ((bY bP).trans S) h'
def apS(i:Nat)(b:RE):RE:=λo q=>onL (slot o i) λts _=>b o λy=>(match frz y with|.int j=>∃t,ixT ts j=some t/\q (.fz t)|_=>False)
def wV(i:Nat){b:Expr}(hb:QE X b rb)(hN:X.N[i]?=some x:=by rfl)(hv:rD X.env.scope x=true:=by rfl)(bt:qk x:=by decide)
 (a9:qf x:=by decide)(hs:tu b:=by exact λ_ _=>rfl):QE X (.Subscript (.Name x p) b pos) (apS i rb):=(Oa Ao (pv i hN hv bt a9) hb hs).imp λσ H Q hP=>by
 obtain⟨own,o,R,h,hr,k⟩:=hP;obtain⟨ts,c,hr,es⟩:=Gp hr;obtain⟨a,xs,e1,e2,e3,r,sl⟩:=h.l1 es;refine⟨_,e1,tQ.mk h hr λH1 v y q E1 r1=>?_⟩
 revert r1 q
 generalize frz y=t;intro q r1;cases t<;>try exact q.elim
 cases r1;obtain⟨t,j,q⟩:=q;obtain⟨v,e',r'⟩:=r.ix j;exact⟨a,xs,_,v,rfl,rfl,.of (E1 _ _ e3),e',k H1 _ _ q E1 (NR.fz (r'.same (bY E1)))⟩
def ahc(i:Nat)(f:Int->Int->Int)(a:RE):RS:=λE o=>match slot o i with|.fz (.int k)=>a o λy=>(match frz y with|.int j=>E.nx (o.set i (.fz (.int (f k j))))|_=>False)|_=>False
def aeg(i:Nat){op:Operator}{f:Int->Int->Int}(ho:PIp X op (ipI f))(he:QE X e re)(hN:X.N.Nodup:=by assumption)(hx:Loc X.env.scope x:=by first|exact .inl rfl|exact .inr rfl)(hi:X.N[i]?=some x:=by rfl)(hf:qi X x:=by first|exact .inl rfl|exact .inr rfl|assumption):QS X (.AugAssign (.Name x bi) op e pos) (ahc i f re):=(ai6 hN hi hx he ho hf).imp λD σ H hP=>by
 obtain⟨own,o,E,h,hr,L⟩:=hP;unfold ahc at hr;cases es:slot o i with
 |fz t =>
  rw[es]at hr;cases t<;>try exact hr.elim
  obtain⟨u,e1,r⟩:=h.get (iC es (by intro z;cases z));cases r;refine⟨_,e1,tQ.mk h hr λH1 v y q E1 r1=>?_⟩
  revert r1 q
  generalize frz y=t;intro q r1;cases t<;>try exact q.elim
  cases r1;refine⟨_,_,rfl,rfl,?_⟩;obtain⟨ai,h',S⟩:=(h.same E1).putA (.refl _) (NR.fz (.int _)) i;exact L.nx ai _ _ _ q ((bY E1).trans S) h'
 |_=>rw[es]at hr;exact hr.elim
def Gk(n:Nat)(own ai:Nat->Ψ)(σ σ':L2.St):Prop:=(∀j,ai j=own j\/(j<n/\ai j=[]))/\σ'.length=σ.length/\∀j,n<=j->σ'[j]?=σ[j]?
def Gk.refl : Gk n own own σ σ:=⟨λ_=>.inl rfl,rfl,λ_ _=>rfl⟩
def Gk.trans{n:Nat}{own own1 bS:Nat->Ψ}{σ σ1 σ2:L2.St}(a:Gk n own own1 σ σ1)(b:Gk n own1 bS σ1 σ2):Gk n own bS σ σ2 :=
 ⟨λj=>(b.1 j).elim (λe=>(a.1 j).imp (λz=>e.trans z) λz=>⟨z.1,e.trans z.2⟩) .inr,b.2.1.trans a.2.1,λj hj=>(b.2.2 j hj).trans (a.2.2 j hj)⟩
def Gk.same{ai:Nat->Ψ}{σ':L2.St}(a:Gk n own ai σ σ') : Same (hd (Ow own) H) (hd (Ow ai) H):=jd (λb hP=>by obtain⟨j,z⟩:=hP;exact .inl ⟨j,(a.1 j).elim (λe=>e ▸ z) λe=>by rw[e.2]at z;cases z⟩) λ_ _ z=>z
abbrev qS:Type:=T->ze->(ze->Prop)->Prop
def tQG(K:Frag)(n:Nat)(g:qS):TG:=λv σ H Q=>∃own o t R,SR K own H σ o/\Rep K (hd (Ow own) H) v t/\g t o R/\∀ai σ' o',R o'->Gk n own ai σ σ'->SR K ai H σ' o'->Q σ' H
def QG(X:Cx)(n:Nat)(tg:Expr)(g:qS):Prop:=PG X tg (tQG X.K n g)
abbrev qE:Type:=zh->ze->(ze->Prop)->Prop
def QGs(X:Cx)(n:Nat)(tg:zt)(g:qE):Prop:=PGs X tg λv σ H Q=>∃own o t R,SR X.K own H σ o/\cg X.K (hd (Ow own) H) v t/\g t o R/\∀ai σ' o',R o'->Gk n own ai σ σ'->SR X.K ai H σ' o'->Q σ' H
def PGs.imp{tg:zt}{t t':TGs}(h:PGs X tg t)(i:∀v σ H Q,t' v σ H Q->t v σ H Q):PGs X tg t':=λaa s σ H v u Q I r q=>h aa s σ H v u Q I r (i _ _ _ _ q)
def hName(i:Nat):qS:=λt o q=>q (o.set i (.fz t))
def amH:qE:=λts o q=>match ts with|[]=>q o|_=>False
def ag7(g:qS)(gs:qE):qE:=λts o q=>match ts with|t::ts=>g t o λo'=>gs ts o' q|_=>False
def ap7(n:Nat)(gs:qE):qS:=λt o q=>match t with|.tup ts=>ts.length=n/\gs ts o q|_=>False
def SR.setF(h:SR K own H σ o)(r:Rep K (hd (Ow own) H) v t)(hi:i<n):∃ai,SR K ai H (σ.set i (some v)) (o.set i (.fz t))/\Gk n own ai σ (σ.set i (some v)):=by
 have le:Same (hd (Ow own) H) (hd (Ow (own1 own i [])) H):=jd (λb z=>.inl (z.of1.elim id λy=>(nomatch y))) λ_ _ z=>z;have go:Gk n own (own1 own i []) σ (σ.set i (some v)):=⟨λj=>by
  by_cases z:j=i
  .exact .inr ⟨z ▸ hi,by rw[z,jV]⟩
  .exact .inl (fX z),VZ,λj hj=>UY wv⟩
 by_cases hl:i<o.length
 .refine⟨own1 own i [],⟨by rw[VZ,VZ,h.len],λj y e=>?_,λj hj a ha=>?_,λj k a e1 e2=>?_⟩,go⟩
  .by_cases z:j=i
   .subst z;rw[US hl]at e;cases e;rw[jV,US (h.len ▸ hl)];exact⟨rfl,v,rfl,r.same le⟩
   .rw[UY (Ne.symm z)]at e;rw[fX z,UY (Ne.symm z)];exact(h.sl j y e).same le λ_ _ z=>z
  .rw[VZ]at hj;rw[fX wv]at ha;exact h.out j hj a ha
  .by_cases z:j=i
   .rw[z,jV]at e1;cases e1
   by_cases y:k=i
   .rw[y,jV]at e2;cases e2
   .rw[fX z]at e1;rw[fX y]at e2;exact h.dis j k a e1 e2
 .refine⟨own,?_,⟨λ_=>.inl rfl,go.2⟩⟩;rwa[Zzx (Nat.not_lt.mp hl),Zzx (h.len ▸ Nat.not_lt.mp hl)]
def bU(i:Nat)(hN:X.N.Nodup:=by assumption)(hx:Loc X.env.scope x:=by first|exact .inl rfl|exact .inr rfl)(hi:X.N[i]?=some x:=by rfl)(hn:i<n:=by decide)(hf:qi X x:=by first|exact .inl rfl|exact .inr rfl|assumption):QG X n (.Name x pos) (hName i):=(gB hN hi hx hf).imp λv σ H Q hP=>by
 obtain⟨own,o,t,R,h,r,hg,k⟩:=hP;obtain⟨ai,h',S⟩:=h.setF r hn;exact k ai _ _ hg S h'
def cL : QGs X n [] amH:=agn.imp λv σ H Q hP=>by
 obtain⟨own,o,t,R,h,r,hg,k⟩:=hP;cases r with
 |nil=>exact⟨rfl,k own σ o hg .refl h⟩
 |cons _ _=>exact hg.elim
variable{g:qS}{gs:qE}{tg:Expr}
def bM(h1:QG X n e g)(h2:QGs X n es gs)(hs:(assignEach (e::es) X.env).map (·.2)=assign e X.env::(assignEach es X.env).map (·.2):=by rfl):QGs X n (e::es) (ag7 g gs):=(abF h1 h2 hs).imp λv σ H Q hP=>by
 obtain⟨own,o,t,R,h,r,hg,k⟩:=hP;cases r with
 |nil=>exact hg.elim
 |cons a b=>exact⟨_,_,rfl,own,o,_,_,h,a,hg,λai σ' o' q S h'=>⟨ai,o',_,R,h',b.same S.same,q,λbS σ2 o2 q S2 h2=>k bS σ2 o2 q (S.trans S2) h2⟩⟩
def dB{m:Nat}(h:QGs X m es gs)(hc:X.calm=true:=by rfl)(hn:(assignEach es X.env).length=n:=by rfl)(b8:zk X es:=by rfl):QG X m (.Tuple es k pos) (ap7 n gs):=(aio hc h hn b8).imp λv σ H Q hP=>by
 obtain⟨own,o,t,R,h,r,hg,k⟩:=hP;cases t<;>try exact hg.elim
 obtain⟨a,xs,rfl,e,r⟩:=r.tupI;exact⟨a,xs,rfl,dH.tup e,r.len.trans hg.1,own,o,_,R,h,r,hg.2,k⟩
def apO(a:RE)(g:qS):RS:=λE o=>a o λx=>g (frz x) o E.nx
def Ym(he:QE X e re)(hg:QG X n tg g)(hs:swapsWithSole [tg] e pos.line X.env=pure false:=by rfl)(hw:swappedStores [tg] e X.env=pure none:=by rfl)(h1:(assignEach [tg] X.env).map (·.2)=[assign tg X.env]:=by rfl):QS X (.Assign [tg] e pos) (apO re g) :=
 (Wx he hg hs hw h1).imp λD σ H hP=>by obtain⟨own,o,E,h,hr,L⟩:=hP;exact tQ.mk h hr λH1 v y q E1 r1=>⟨own,o,_,_,h.same E1,r1,q,λai σ' o' q S h'=>L.nx ai H1 σ' o' q ((bY E1).trans S.same) h'⟩
def start'(n:Nat)(ts:zh):ze:=ts.map OT.fz++List.replicate (n-ts.length) .und
def SR.start{H:Hp}{vs:Ζ}{ts:zh}(r:cg K H vs ts)(N:Φ):SR K (λ_=>[]) H (start N vs) (start' N.length ts):=by
 have e0:Ow (λ_=>[])=λ_=>False:=funext λb=>propext ⟨λhP=>by obtain⟨_,z⟩:=hP;exact(nomatch z),False.elim⟩;refine⟨by unfold start' L2.start;simp[r.len],λi x e=>?_,λ_ _ _ z=>(nomatch z),λi j a z=>(nomatch z)⟩;rw[e0,YH];unfold start' at e;unfold L2.start;by_cases hi:i<ts.length
 .rw[aF (by simpa using hi),aq,aj hi]at e;cases e;obtain⟨v,e1,r1⟩:=r.at_ (aj hi);rw[aF (by rwa[ak,r.len]),aq,e1];exact⟨rfl,v,rfl,r1⟩
 .rw[aD (by simpa using hi),ak,XG]at e;by_cases hj:i-ts.length<N.length-ts.length
  .rw[ZY hj]at e;cases e;rfl
  .rw[ZZ hj]at e;cases e
def Fun.okT{am:Str}{N:Φ}{S:ST}(F:Fun K x am st f fd)(sc:bL N ps (bH st))
 {r}(ci:∀{ag:Value}{A:Around}{outer:xt}{s:Shared}{H:Hp}{E:XK},eY k (A.deeper (envOfC am (bH st) s.heap.objs.size f ag))->N.Nodup ->QSs (Qn CX0 P w K mg base N am (bH st) f ag A outer s H E).nox (gk st) r)(b2:∀ts R,S ts R->r { nx:=λ_=>R (.fz .non),rt:=R } (start' N.length ts))(len:∀ts R,S ts R->ts.length=ps.length:=by intro _ _ h;repeat (first|exact(ZH List.length h.1).trans rfl|obtain⟨_,h⟩:=h)):gY P w K mg base CX0 (k+1) f fd ps (spT K S):=by
 refine F.ok sc (λvs H Q E h=>?_) λag A outer s H vs Q E hr h=>?_
 .obtain⟨ts,R,r,hS,_⟩:=h;exact r.len.trans (len ts R hS)
 .obtain⟨ts,R,r,hS,q⟩:=h;have h1:=@ci ag A outer s H E hr sc.nd;have h2:=b2;have e0:hd (Ow λ_=>[]) H=H:=by rw[show Ow (λ_=>[])=λ_=>False from funext λb=>propext ⟨λhP=>by obtain⟨_,z⟩:=hP;exact(nomatch z),False.elim⟩,YH]
  have fin:∀(S:Addr->Prop)H' v x B,R x->Same H (hd S H')->Slo K (hd S H') H' (some v) B x->(∀a∈B,S a)->Q v H':=λS' H' v x B rx E s hB =>
   q H' v x rx (E.trans dH) ⟨B,λa ha=>E.free (rJ (hB a ha)),s.same (jd (λb z=>.inl (z.elim False.elim (hB b))) λ_ _ z=>z) λ_ _ z=>z⟩
  refine⟨_,h1,λ_=>[],_,_,SR.start r N,h2 ts R hS,⟨λown H' σ o rx E h=>?_,λS' H' v x B rx E s hB=>fin S' H' v x B rx (e0 ▸ E) s hB,λ_ _ _ _ z=>z.elim,λ_ _ _ _ z=>z.elim,λ_ _ _ _ _ _ z=>z.elim⟩⟩;exact fin (Ow own) H' .non _ [] rx (e0 ▸ E) ⟨rfl,_,rfl,.non⟩ λ_ z=>(nomatch z)
def Fun.okU{am:Str}{N:Φ}{S:ST}(F:Fun K x am st f fd)(sc:bL N ps (bH st))
 (ci:∀(ag:Value)(A:Around)(outer:xt)(s:Shared)(H:Hp)(E:XK),eY k (A.deeper (envOfC am (bH st) s.heap.objs.size f ag))->N.Nodup ->
   ∃r,QSs (Qn CX0 P w K mg base N am (bH st) f ag A outer s H E).nox (gk st) r/\∀ts R,S ts R->r { nx:=λ_=>R (.fz .non),rt:=R } (start' N.length ts))(len:∀ts R,S ts R->ts.length=ps.length:=by intro _ _ h;repeat (first|exact(ZH List.length h.1).trans rfl|obtain⟨_,h⟩:=h)):gY P w K mg base CX0 (k+1) f fd ps (spT K S):=by
 refine F.ok sc (λvs H Q E h=>?_) λag A outer s H vs Q E hr h=>?_
 .obtain⟨ts,R,r,hS,_⟩:=h;exact r.len.trans (len ts R hS)
 .obtain⟨ts,R,r,hS,q⟩:=h;obtain⟨rd,h1,h2⟩:=ci ag A outer s H E hr sc.nd;have e0:hd (Ow λ_=>[]) H=H:=by rw[show Ow (λ_=>[])=λ_=>False from funext λb=>propext ⟨λhP=>by obtain⟨_,z⟩:=hP;exact(nomatch z),False.elim⟩,YH]
  have fin:∀(S:Addr->Prop)H' v x B,R x->Same H (hd S H')->Slo K (hd S H') H' (some v) B x->(∀a∈B,S a)->Q v H':=λS' H' v x B rx E s hB =>
   q H' v x rx (E.trans dH) ⟨B,λa ha=>E.free (rJ (hB a ha)),s.same (jd (λb z=>.inl (z.elim False.elim (hB b))) λ_ _ z=>z) λ_ _ z=>z⟩
  refine⟨_,h1,λ_=>[],_,_,SR.start r N,h2 ts R hS,⟨λown H' σ o rx E h=>?_,λS' H' v x B rx E s hB=>fin S' H' v x B rx (e0 ▸ E) s hB,λ_ _ _ _ z=>z.elim,λ_ _ _ _ z=>z.elim,λ_ _ _ _ _ _ z=>z.elim⟩⟩;exact fin (Ow own) H' .non _ [] rx (e0 ▸ E) ⟨rfl,_,rfl,.non⟩ λ_ z=>(nomatch z)
abbrev RI:=ze->(zh->Prop)->Prop
def Wlk(K:Frag)(J:It)(F:Hp)(xs:zh):Prop:=∀(S:Addr->Prop)(H:Hp)(i:Nat),(∀b,S b->H b≠none)->Same F (hd S H) ->
 (i=xs.length->J.stop i H)/\∀t,xs[i]?=some t->J.go i H/\∀x H',J.yld i H x H'->Same H H'/\Rep K (hd S H') x t
def tQI(K:Frag)(r:RI):TI:=λσ H Q=>∃own o R,SR K own H σ o/\r o R/\∀H' J xs,R xs->Same H H'->Wlk K J (hd (Ow own) H') xs->Q J H'
def QI(X:Cx)(tg it:Expr)(r:RI):Prop:=PI X tg it (tQI X.K r)
def PI.imp{it:Expr}{t t':TI}(h:PI X tg it t)(i:∀σ H Q,t' σ H Q->t σ H Q):PI X tg it t':=λaa s σ H Q I q=>h aa s σ H Q I (i σ H Q q)
def aqb(a:RE):RI:=λo q=>a o λx=>match frz x with|.lst ts=>q ts|_=>False
def RV{t:Addr}{u:HO}(n:H t=none)(hs:∀b,S b->H b≠none):hd S (upd H t u) t=some u:=by rw[cX λz=>hs t z n];exact cM
variable{a b iter aS:Expr}{aE ay:zt}{ri:RI}{rc rt:RT}{H1 H0:Hp}{scope sO:Scope}{N0:Φ}{C0:Addr}{s0:Shared}{dk:Ψ}{di:Δ}{i0:Nat}{y0:Str}{q:zh->Prop}
def bZ(he:QE X e re):QI X tg e (aqb re):=(afp he).imp λσ H Q ⟨own,o,R,h,hr,k⟩=>tQ.mk h hr λH1 v x q E1 r1=>by
 revert r1 q
 generalize frz x=t;intro q r1;cases t<;>try exact q.elim
 obtain⟨a,xs,rfl,e,r⟩:=r1.lstI;refine⟨a,rfl,⟨xs,.of (cH e).2⟩,k H1 _ _ q E1 λS H2 i _ SF=>⟨λhi=>⟨xs,.of (cH (SF _ _ e)).2,by rw[r.len];exact WJ hi.symm⟩,λt ht=>?_⟩⟩;obtain⟨y,ey,ry⟩:=r.at_ ht;refine⟨⟨xs,y,.of (cH (SF _ _ e)).2,ey⟩,?_⟩;rintro x H3 ⟨rfl,hx⟩;have:=hx xs (.of (cH (SF _ _ e)).2);rw[ey]at this;cases this;exact⟨.refl _,ry.same SF⟩
def rng(lo:Int)(n:Nat):zh:=(List.range n).map λk:Nat=>.int (lo+k)
def Y5{lo:Int}{F:Hp} : Wlk K (Itr lo n) F (rng lo n):=λS H i _ _=>⟨λhi=>by rw[rng,ak,WP]at hi;exact WJ hi.symm,λt ht=>by
 unfold rng at ht;rw[aq]at ht;by_cases hi:i<n
 .rw[VX hi]at ht;cases ht;refine⟨hi,?_⟩;rintro x H' ⟨rfl,rfl⟩;exact⟨.refl _,.int _⟩
 .rw[aM (by simpa using hi)]at ht;cases ht⟩
def apx(r:RA):RI:=λo q=>r o λts=>match ts with|[.int j]=>(-(2^62)<=j/\j<2^62)/\q (rng 0 j.toNat)|_=>False
def aqa(r:RA):RI:=λo q=>r o λts=>match ts with|[.int i,.int j]=>(-(2^62)<=i/\i<2^62/\-(2^62)<=j/\j<2^62)/\q (rng i (j-i).toNat)|_=>False
def dI(hm:X.mg "range"=none)(ha:QA X [a] r)(hg:Gl X "range":=by rfl)(hs:starEach [a] X.env=[(false,eval a X.env)]:=by rfl):QI X tg (.Call (.Name "range" p) [a] [] pos) (apx r):=(aaP hg hm ha hs).imp λσ H Q ⟨own,o,R,h,hr,k⟩=>⟨own,o,_,h,hr,λH1 vs ts q _ E1 r1=>by
 match ts,q with
 |[.int j],q =>
  obtain⟨x,rfl,rx⟩:=r1.one;cases rx;exact⟨j,rfl,q.1.1,q.1.2,k H1 _ _ q.2 E1 Y5⟩⟩
def Oz(hm:X.mg "range"=none)(ha:QA X [a,b] r)(hg:Gl X "range":=by rfl)(hs:starEach [a,b] X.env=[(false,eval a X.env),(false,eval b X.env)]:=by rfl)(dQ:starEach [b] X.env=[(false,eval b X.env)]:=by rfl):QI X tg (.Call (.Name "range" p) [a,b] [] pos) (aqa r):=(aaH hg hm ha hs dQ).imp λσ H Q ⟨own,o,R,h,hr,k⟩=>⟨own,o,_,h,hr,λH1 vs ts q _ E1 r1=>by
 match ts,q with
 |[.int i,.int j],q =>
  obtain⟨x,y,rfl,rx,ry⟩:=r1.two;cases rx;cases ry;exact⟨i,j,rfl,q.1,k H1 _ _ q.2 E1 Y5⟩⟩
def tD(ts:zh):zh:=ts.zipIdx.map λp=>.tup [.int (p.2:Nat),p.1]
def apZ(r:RA):RI:=λo q=>r o λts=>match ts with|[.lst ts]=>q (tD ts)|_=>False
def pU{x1}(hm:X.mg "enumerate"=none)(ha:QA X [a] r)(hg:Gl X "enumerate":=by rfl)(hs:starEach [a] X.env=[(false,eval a X.env)]:=by rfl):QI X (.Tuple aE x1 aw) (.Call (.Name "enumerate" p) [a] [] pos) (apZ r):=(ael hg hm ha hs).imp λσ H Q ⟨own,o,R,h,hr,k⟩=>⟨own,o,_,h,hr,λH1 vs ts q _ E1 r1=>by
 match ts,q with
 |[.lst ts],q =>
  obtain⟨x,rfl,rx⟩:=r1.one;obtain⟨a,xs,rfl,e,r⟩:=rx.lstI;refine⟨a,xs,rfl,(cH e).2,k H1 _ _ q E1 λS H2 i hs SF=>⟨λhi=>⟨xs,(cH (SF _ _ e)).2,by rw[r.len,hi];simp[tD]⟩,λt ht=>?_⟩⟩;unfold tD at ht;rw[aq]at ht;by_cases hi:i<ts.length
  .rw[aj (by simpa using hi),Q2]at ht;cases ht;obtain⟨y,ey,ry⟩:=r.at_ (aj hi);refine⟨⟨xs,(cH (SF _ _ e)).2,by rwa[r.len]⟩,?_⟩;rintro x H3 ⟨fm,x',t,e',ex,n,rfl,rfl⟩;rw[(cH (SF _ _ e)).2]at e';cases e';rw[ey]at ex;cases ex;refine⟨Same.upd n,.tup (.of (RV n hs)) (.cons ?_ (.cons (ry.same (SF.trans (bY (Same.upd n)))) .nil))⟩;rw[show((0+i:Nat):Int)=(i:Int)by lia];exact .int _
  .rw[aM (by simpa using hi)]at ht;cases ht⟩
def B_(ts us:zh):zh:=(ts.zip us).map λp=>.tup [p.1,p.2]
def ap0(r:RA):RI:=λo q=>r o λts=>match ts with|[.lst ts,.lst us]=>q (B_ ts us)|_=>False
def BZ{x1}(hm:X.mg "zip"=none)(ha:QA X [a,b] r)(hg:Gl X "zip":=by rfl)(hs:starEach [a,b] X.env=[(false,eval a X.env),(false,eval b X.env)]:=by rfl)(dQ:starEach [b] X.env=[(false,eval b X.env)]:=by rfl):QI X (.Tuple aE x1 aw) (.Call (.Name "zip" p) [a,b] [] pos) (ap0 r):=(ajp hg hm ha hs dQ).imp λσ H Q ⟨own,o,R,h,hr,k⟩=>⟨own,o,_,h,hr,λH1 vs ts q _ E1 r1=>by
 match ts,q with
 |[.lst ts,.lst us],q =>
  obtain⟨x,y,rfl,rx,ry⟩:=r1.two;obtain⟨a,xs,rfl,e,r⟩:=rx.lstI;obtain⟨b,ys,rfl,e2,r2⟩:=ry.lstI;refine⟨a,b,xs,ys,rfl,(cH e).2,(cH e2).2,k H1 _ _ q E1 λS H2 i hs SF=>⟨λhi=>⟨xs,ys,(cH (SF _ _ e)).2,(cH (SF _ _ e2)).2,?_⟩,λt ht=>?_⟩⟩
  .rw[r.len,r2.len];rw[B_,ak,WH]at hi;lia
  .unfold B_ at ht;rw[aq]at ht;by_cases hi:i<ts.length/\i<us.length
   .rw[aj (by rw[WH];omega),TW]at ht;cases ht;obtain⟨y,ey,ry⟩:=r.at_ (aj hi.1);obtain⟨z,ez,rz⟩:=r2.at_ (aj hi.2);refine⟨⟨xs,ys,(cH (SF _ _ e)).2,(cH (SF _ _ e2)).2,by rw[r.len];exact hi.1,by rw[r2.len];exact hi.2⟩,?_⟩;rintro x H3 ⟨fm,i6,x',y',t,e',iE,ex,kB,n,rfl,rfl⟩;rw[(cH (SF _ _ e)).2]at e';cases e';rw[(cH (SF _ _ e2)).2]at iE;cases iE;rw[ey]at ex;cases ex;rw[ez]at kB;cases kB;have S3:=SF.trans (bY (S:=S) (Same.upd (o:=.tup [y,z]) n));exact⟨Same.upd n,.tup (.of (RV n hs)) (.cons (ry.same S3) (.cons (rz.same S3) .nil))⟩
   .rw[aM (by rw[WH];omega)]at ht;cases ht⟩
def xH(g:qS)(b:RS)(E:DT):zh->ze->Prop
 |[],o=>E.nx o
 |t::ts,o=>∃N:ze->Prop,(∀o,N o->xH g b E ts o)/\g t o λo'=>b { E with nx:=N,ct:=N,bk:=E.nx } o'
def aoT(it:RI)(g:qS)(b:RS):RS:=λE o=>it o λxs=>xH g b E xs o
def cY{b6:xB}{rb:RS}(hi:QI X tg iter ri)(hg:QG X n tg g)(hb:QSs X b6 rb)(hc:X.calm=true:=by rfl)(hp:PassesOwn (model X.prog X.w) X.A X.env X.xe:=by first|exact PassesOwn.never|exact PassesOwn.leaving)
 (hs:qV X iter:=by intro _;rfl):QS X (.For tg iter b6 [] pos) (aoT ri g rb):=(aiI hp hc hi hg hb hs).imp λD σ H ⟨own,o,E,h,hr,L⟩=>⟨own,o,_,h,hr,λH1 J xs q E1 wk=>by
 refine⟨λi m σ' H'=>∃ai o',SR X.K ai H' σ' o'/\Same (hd (Ow own) H1) (hd (Ow ai) H')/\xH g rb E (xs.drop i) o'/\i<=xs.length/\m=xs.length-i,⟨_,own,o,h.same E1,.refl _,q,aZ _,rfl⟩,?_⟩;rintro i m σ' H' ⟨ai,o',h',S',hl,il,rfl⟩;obtain⟨w1,w2⟩:=wk (Ow ai) H' i (λb z=>(h'.sole z).ne) S';have S0:=(bY E1).trans S';by_cases hi:i<xs.length
 .right;obtain⟨go,yl⟩:=w2 _ (aj hi);rw[QQ hi]at hl;obtain⟨N,hN,hl⟩:=hl;refine⟨go,λσ2 H2=>∃bS o2,SR X.K bS H2 σ2 o2/\Same (hd (Ow own) H1) (hd (Ow bS) H2)/\xH g rb E (xs.drop (i+1)) o2,λσ2 H2 ⟨bS,o2,a,b,c⟩=>⟨xs.length-(i+1),by omega,bS,o2,a,b,c,hi,rfl⟩,λx H2 y=>?_⟩;obtain⟨E2,rx⟩:=yl x H2 y;refine⟨ai,o',_,_,h'.same E2,rx,hl,λfR σ3 o3 q3 iA h3=>⟨fR,o3,_,h3,q3,?_⟩⟩;have S3:=S'.trans ((bY (S:=Ow ai) E2).trans iA.same);have L3:=L.step ((bY E1).trans S3);exact⟨λc8 H4 σ4 o4 q S h=>⟨c8,o4,h,S3.trans S,hN _ q⟩,L3.rt,λc8 H4 σ4 o4 q S h=>L3.nx c8 H4 σ4 o4 q S h,λc8 H4 σ4 o4 q S h=>⟨c8,o4,h,S3.trans S,hN _ q⟩,L3.xc⟩
 .left;refine⟨w1 wv,?_⟩;rw[T2 (Nat.not_lt.mp hi)]at hl;exact L.nx ai H' σ' o' hl S0 h'⟩
def ahU(c:RT)(b:RS):RS:=λE o=>∃W:Nat->ze->Prop,(∃m,W m o)/\∀m o,W m o->c o λk=>sw k (∃N:ze->Prop,(∀o',N o'->∃m',m'<m/\W m' o')/\b { E with nx:=N,ct:=N,bk:=E.nx } o) (E.nx o)
def Dk{b6:xB}{rb:RS}(hc:QT X c rc)(hb:QSs X b6 rb)(hp:PassesOwn (model X.prog X.w) X.A X.env X.xe:=by first|exact PassesOwn.never|exact PassesOwn.leaving):QS X (.While c b6 [] pos) (ahU rc rb):=(adf hp hc hb).imp λD σ H hP=>by
 obtain⟨own,o,E,h,hr,L⟩:=hP;obtain⟨W,⟨m0,w0⟩,st⟩:=hr;refine⟨λm σ' H'=>∃ai o',SR X.K ai H' σ' o'/\Same (hd (Ow own) H) (hd (Ow ai) H')/\W m o',⟨m0,own,o,h,.refl _,w0⟩,?_⟩;rintro m σ' H' ⟨ai,o',h',S',wm⟩;refine tQT.mk h' (st m o' wm) λH1 k q E1=>Km q (λhP=>?_) λq=>L.nx ai H1 σ' o' q (S'.trans (bY E1)) (h'.same E1);obtain⟨N,hN,q⟩:=hP;have S1:=S'.trans (bY E1);have L1:=L.step S1;refine⟨λσ2 H2=>∃bS o2,SR X.K bS H2 σ2 o2/\Same (hd (Ow own) H) (hd (Ow bS) H2)/\N o2,λσ2 H2 hP=>?_,ai,o',_,h'.same E1,q,⟨λc8 H4 σ4 o4 q S h=>⟨c8,o4,h,S1.trans S,q⟩,L1.rt,λc8 H4 σ4 o4 q S h=>L1.nx c8 H4 σ4 o4 q S h,λc8 H4 σ4 o4 q S h=>⟨c8,o4,h,S1.trans S,q⟩,L1.xc⟩⟩;obtain⟨bS,o2,a,b,c⟩:=hP;obtain⟨m',lt,w⟩:=hN o2 c;exact⟨m',lt,bS,o2,a,b,w⟩
def ig(g:qS)(c:RT)(e:RE)(o:ze):zh->(zh->Prop)->Prop
 |[],q=>q []
 |t::ts,q=>∃(N:T->Prop)(M:Prop),(∀y,N y->ig g c e o ts λus=>q (y::us))/\(M->ig g c e o ts q)/\g t o λo'=>c o' λb=>sw b (e o' λy=>N (frz y)) M
def apv:RT:=λ_ q=>q true
def WX(it:RI)(n:Nat)(g:qS)(c:RT)(e:RE):RE:=λo q=>it o λxs=>xs.length<=sizeLine/\ig g c e (List.replicate n .und++o) xs λus=>q (.l1 us)
def ownS(n L:Nat)(own:Nat->Ψ)(D:Addr):Nat->Ψ:=λi=>if i<n then[]else if i<n+L then own (i-n)else if i=n+L then[D]else own (i-n-1)
def Ow.ownS{n L:Nat}{own:Nat->Ψ}{D b:Addr} : Ow (ownS n L own D) b↔Ow own b\/b=D:=by
 constructor
 .rintro⟨i,z⟩;unfold L2.ownS at z;by_cases h1:i<n
  .rw[ZY h1]at z;cases z
  rw[ZZ h1]at z;by_cases h2:i<n+L
  .rw[ZY h2]at z;exact .inl ⟨_,z⟩
  rw[ZZ h2]at z;by_cases h3:i=n+L
  .rw[ZY h3]at z;exact .inr (YR.mp z)
  .rw[ZZ h3]at z;exact .inl ⟨_,z⟩
 .rintro(⟨i,z⟩|rfl)
  .by_cases h:i<L
   .exact⟨n+i,by unfold L2.ownS;rw[ZZ (TZ (X1 _ _)),ZY (Nat.add_lt_add_left h _),show n+i-n=i by exact T1 _ _];exact z⟩
   .exact⟨n+i+1,by unfold L2.ownS;rw[ZZ wv,ZZ wv,ZZ wv,show n+i+1-n-1=i by lia];exact z⟩
  .exact⟨n+L,by unfold L2.ownS;rw[ZZ (TZ (X1 _ _)),ZZ (X2 _),ZY rfl];simp⟩
def SR.block(h:SR K own H σ o)(E:Same H H')(nD:H D=none)(eD:H' D=some (.lst ys))(pre:L2.St):SR K (ownS pre.length o.length own D) H' (pre++σ) (List.replicate pre.length .und++o):=by
 have le:Same (hd (Ow own) H) (hd (Ow (ownS pre.length o.length own D)) H'):=jd (λb z=>(Ow.ownS.mp z).imp id λ(e:b=D)=>e ▸ nD) E;have gh:∀j,D∉own j:=λj z=>(h.sole ⟨j,z⟩).ne nD;refine⟨by simp[h.len],λi x e=>?_,λi hi a ha=>?_,λi j a e1 e2=>?_⟩
 .by_cases h1:i<pre.length
  .rw[aF (by simpa using h1),XG,ZY h1]at e;cases e;show ownS _ _ _ _ i=[];unfold ownS;rw[ZY h1]
  .rw[aD (by simpa using h1),aN]at e;have h2:i-pre.length<o.length:=(ao.mp e).1;rw[aD (Nat.not_lt.mp h1)];have:ownS pre.length o.length own D i=own (i-pre.length):=by unfold ownS;rw[ZZ h1,ZY (by omega)]
   rw[this];exact(h.sl _ x e).same le E
 .rw[aA,aN]at hi;unfold ownS at ha;rw[ZZ wv,ZZ (TZ hi)]at ha;by_cases h3:i=pre.length+o.length
  .rw[ZY h3]at ha;cases YR.mp ha;exact⟨_,eD⟩
  .rw[ZZ h3]at ha;obtain⟨xs,e⟩:=h.out _ wv a ha;exact⟨xs,E _ _ e⟩
 .unfold ownS at e1 e2;by_cases a1:i<pre.length
  .rw[ZY a1]at e1;cases e1
  by_cases b1:j<pre.length
  .rw[ZY b1]at e2;cases e2
  rw[ZZ a1]at e1;rw[ZZ b1]at e2;by_cases a2:i<pre.length+o.length<;>by_cases b2:j<pre.length+o.length
  .rw[ZY a2]at e1;rw[ZY b2]at e2;have:=h.dis _ _ a e1 e2;omega
  .rw[ZY a2]at e1;rw[ZZ b2]at e2;by_cases b3:j=pre.length+o.length
   .rw[ZY b3]at e2;cases YR.mp e2;exact absurd e1 (gh _)
   .rw[ZZ b3]at e2;have:=h.dis _ _ a e1 e2;omega
  .rw[ZZ a2]at e1;rw[ZY b2]at e2;by_cases a3:i=pre.length+o.length
   .rw[ZY a3]at e1;cases YR.mp e1;exact absurd e2 (gh _)
   .rw[ZZ a3]at e1;have:=h.dis _ _ a e1 e2;lia
  .rw[ZZ a2]at e1;rw[ZZ b2]at e2;by_cases a3:i=pre.length+o.length<;>by_cases b3:j=pre.length+o.length
   .exact Eq.trans a3 (Eq.symm b3)
   .rw[ZY a3]at e1;rw[ZZ b3]at e2;cases YR.mp e1;exact absurd e2 (gh _)
   .rw[ZZ a3]at e1;rw[ZY b3]at e2;cases YR.mp e2;exact absurd e1 (gh _)
   .rw[ZZ a3]at e1;rw[ZZ b3]at e2;have:=h.dis _ _ a e1 e2;lia
def Wi{ai:Nat->Ψ}{pre σ':L2.St}(hp:pre.length=n)(g:Gk n own ai (pre++σ) σ'):∃bX:L2.St,bX.length=n/\σ'=bX++σ:=by
 obtain⟨_,l,k⟩:=g;refine⟨σ'.take n,by rw[aY,l,aA];lia,?_⟩;refine List.ext_getElem? λi=>?_;by_cases hi:i<n
 .rw[aF (by rw[aY,l,aA];lia),List.getElem?_take_of_lt hi]
 .rw[aD (by rw[aY,l,aA];lia),k i (VS hi),aD wv,aY,l,aA]
  congr 1
  lia
def VB{J:It}{xs:zh}(h1:SR K own H1 σ o)(wk:Wlk K J (hd (Ow own) H1) xs)(lx:xs.length<=sizeLine)(q:ig g rc re (List.replicate n .und++o) xs λus=>R (.l1 us))(nD:H1 D=none)(k:∀H' v x,R x->Same H1 H'->NR K (Ow own) H1 H' v x->Q v H') :
  ∃W:Nat->Nat->Ζ->Hp->Prop,(∃m,W 0 m [] (upd H1 D (.lst [])))/\∀i m ys Hc,W i m ys Hc ->
   (J.stop i Hc/\Q (.ref D) Hc)\/(J.go i Hc/\∀x H',J.yld i Hc x H'->∀pre:L2.St,pre.length=n->tMG (tQG K n g) x (pre++σ) H' λσ2 H2=>∃bX:L2.St,bX.length=n/\σ2=bX++σ/\tMT (tQT K rc) σ2 H2 λb H3 =>
    match b with
    |true=>tM (tQ K re) σ2 H3 λy H4=>ys.length<sizeLine/\H4 D=some (.lst ys)/\∃m',m'<m/\W (i+1) m' (ys++[y]) (upd H4 D (.lst (ys++[y])))
    |false=>∃m',m'<m/\W (i+1) m' ys H3):=by
 generalize hO:List.replicate n OT.und++o=ob at q;refine⟨λi m ys Hc=>∃ts,Hc D=some (.lst ys)/\Same H1 Hc/\cg K (hd (λb=>Ow own b\/b=D) Hc) ys ts/\ys.length<=i/\i<=xs.length/\m=xs.length-i/\ig g rc re ob (xs.drop i) λus=>R (.l1 (ts++us)),⟨_,[],cM,Same.upd nD,.nil,aG _,aZ _,rfl,q⟩,?_⟩;rintro i m ys Hc ⟨ts,eD,Ec,rs,il,ix,rfl,hl⟩;have hn:∀b,Ow own b\/b=D->Hc b≠none:=λb z=>z.elim (λz=>((h1.same Ec).sole z).ne) λe z=>by rw[e,eD]at z;cases z
 have SD:Same (hd (Ow own) H1) (hd (λb=>Ow own b\/b=D) Hc):=jd (λb z=>z.imp id λ(e:b=D)=>e ▸ nD) Ec;obtain⟨w1,w2⟩:=wk (λb=>Ow own b\/b=D) Hc i hn SD;by_cases hi:i<xs.length
 .right;obtain⟨go,yl⟩:=w2 _ (aj hi);rw[QQ hi]at hl;obtain⟨N,M,hN,hM,hl⟩:=hl;refine⟨go,λx H2 y pre hp=>?_⟩;obtain⟨E2,rx⟩:=yl x H2 y;have eO:(λb=>Ow own b\/b=D)=Ow (ownS n o.length own D):=funext λb=>propext Ow.ownS.symm;have hb:SR K (ownS n o.length own D) H2 (pre++σ) ob:=by
   have:=h1.block (Ec.trans E2) nD (E2 _ _ eD) pre;rw[hp,hO]at this;exact this
  rw[eO]at rx rs;refine⟨_,⟨ownS n o.length own D,ob,_,_,hb,rx,hl,λfR σ3 o3 q3 iA h3=>?_⟩,λ_ _ z=>z⟩;obtain⟨bX,b5,rfl⟩:=Wi hp iA;have e3:fR=ownS n o.length own D:=funext λj=>by
   rcases iA.1 j with e|⟨e1,e2⟩
   .exact e
   .rw[e2];unfold ownS;rw[ZY e1]
  subst e3;refine⟨bX,b5,rfl,_,tQT.mk h3 q3 λH3 b q4 E3=>?_,λ_ _ z=>z⟩;have q4:sw b (re o3 λy=>N (frz y)) M:=q4;cases b with
  |false=>exact⟨xs.length-(i+1),by lia,ts,E3 _ _ (E2 _ _ eD),Ec.trans (E2.trans E3),by rw[eO];exact rs.same (bY (E2.trans E3)),by exact aL il (X1 _ _),by exact hi,rfl,hM q4⟩
  |true =>
   refine⟨_,tQ.mk (h3.same E3) q4 λH4 v y q5 E4 r4=>⟨by lia,E4 _ _ (E3 _ _ (E2 _ _ eD)),xs.length-(i+1),by lia,ts++[frz y],cM,λb u e=>?_,?_,by rw[aA,List.length_singleton];exact Nat.succ_le_succ il,by exact hi,rfl,?_⟩,λ_ _ z=>z⟩
   .rw[cB λz=>by rw[z,nD]at e;cases e];exact E4 _ _ (E3 _ _ (E2 _ _ (Ec _ _ e)))
   .rw[Gx (S:=λb=>Ow own b\/b=D) (.inr rfl),eO];exact(rs.same (bY (E2.trans (E3.trans E4)))).app (.cons r4 .nil)
   .have:=hN _ q5;simp only[Wp,List.singleton_append];exact this
 .left;have:i=xs.length:=by lia
  refine⟨w1 this,?_⟩;rw[T2 (VS hi)]at hl;have hl:R (.l1 (ts++[])):=hl;rw[List.append_nil]at hl;exact k Hc _ _ hl Ec (NR.l1 nD eD rs)
def Kw(h:tQ K (WX ri n g rc re) σ H Q):tR (tQI K ri) n (tMG (tQG K n g)) (tMT (tQT K rc)) (tM (tQ K re)) σ H Q:=by
 obtain⟨own,o,R,h,hr,k⟩:=h;exact⟨own,o,_,h,hr,λH1 J xs q E1 wk D nD=>VB (h.same E1) wk q.1 q.2 nD λH' v x rx E n=>k H' v x rx (E1.trans E) (n.back E1)⟩
def QTs(X:Cx)(ay:zt)(r:RT):Prop:=PTs X ay (tQT X.K r)
def b_:QTs X [] apv:=λaa s σ H Q I hP=>by obtain⟨own,o,R,h,hr,k⟩:=hP;exact aeQ aa s σ H Q I (k H true hr (.refl _))
def DK(h:QT X c rc):QTs X [c] rc:=agw h
def cD(sc:Scope)(N N' xs:Φ)(hi:QI X tg iter ri)(hg:∀{C s₀ H₀ ex pn},QG (X.compG N' scope xs C s₀ H₀ ex pn) xs.length tg g)(ht:∀{C s₀ H₀ ex pn},QTs (X.compG N' scope xs C s₀ H₀ ex pn) ay rc)(he:∀{C s₀ H₀ ex pn},QE (X.compG N' scope xs C s₀ H₀ ex pn) aS re)
 (b9:X.env.scope=sc:=by rfl)(ck:X.N=N:=by rfl)(hc:X.calm=true:=by rfl)(hk:scope.kind=.function:=by rfl)(h:CK sc scope N N' xs:=by decide +kernel)(hs:qV X iter:=by intro _;rfl):QE X (.ListComp aS [⟨tg,iter,ay,0⟩] scope pos) (WX ri xs.length g rc re) :=
 (adx (gt:=tQG X.K xs.length g) (tc:=tQT X.K rc) (te:=tQ X.K re) sc N N' xs hi hg ht he b9 ck hc hk h hs).imp λ_ _ _=>Kw
def zf{X:Cx}{tg iter aS:Expr}{ay:List Expr}{ri:RI}{g:qS}{rc:RT}{re:RE}{scope:Scope}{pos:Pos}(Z:RI->Nat->qS->RT->RE->RE)(hZ:∀{K σ H Q ri n g rc re},tQ K (Z ri n g rc re) σ H Q->tR (tQI K ri) n (tMG (tQG K n g)) (tMT (tQT K rc)) (tM (tQ K re)) σ H Q)(sc:Scope)(N N':Φ)(x0:Str)(hi:QI X tg iter ri)(hg:∀{C s₀ H₀ ex pn},QG (X.compGC N' scope x0 C s₀ H₀ ex pn) 1 tg g)(ht:∀{C s₀ H₀ ex pn},QTs (X.compGC N' scope x0 C s₀ H₀ ex pn) ay rc)(he:∀{C s₀ H₀ ex pn},QE (X.compGC N' scope x0 C s₀ H₀ ex pn) aS re)
 (b9:X.env.scope=sc:=by rfl)(ck:X.N=N:=by rfl)(hc:X.calm=true:=by rfl)(hk:scope.kind=.function:=by rfl)(gy:∀n acc,cellsFrom n scope.names acc=(x0,n)::acc:=by intro _ _;rfl)(gu:∀h,pushCells h scope.names=h.push { cls:=.type "cell",data:=.cell none }:=by intro _;rfl)(h:(∀y∈scope.names,y.2=.cell->y.1=x0)/\CK0 sc scope N N' [x0]:=by decide +kernel)(hs:qV X iter:=by intro _;rfl):QE X (.ListComp aS [⟨tg,iter,ay,0⟩] scope pos) (Z ri 1 g rc re):=PE.imp (by subst b9 ck;exact U3 (ext1 gy gu h.1) hc h.2.1 hk h.2.2.1 h.2.2.2.1 h.2.2.2.2.1 h.2.2.2.2.2 hi (λ_ _ _ _ _=>hg.mono) (λ_ _ _ _ _=>ht.mono) (λ_ _ _ _ _=>he.mono) hs) λ_ _ _=>hZ
def aew:=@zf X tg iter aS ay ri g rc re scope pos WX Kw
def Z1{x0:Str}(sc:Scope)(N N' xs:Φ)(hi:QI (X.compGC N0 sO x0 C0 s0 H0 dk di) tg iter ri)(hg:∀{C s₀ H₀ ex pn},QG ((X.compGC N0 sO x0 C0 s0 H0 dk di).compG N' scope xs C s₀ H₀ ex pn) xs.length tg g)(ht:∀{C s₀ H₀ ex pn},QTs ((X.compGC N0 sO x0 C0 s0 H0 dk di).compG N' scope xs C s₀ H₀ ex pn) ay rc)(he:∀{C s₀ H₀ ex pn},QE ((X.compGC N0 sO x0 C0 s0 H0 dk di).compG N' scope xs C s₀ H₀ ex pn) aS re)
 (b9:X.env.scope=sc:=by rfl)(ck : [x0]++N0=N:=by rfl)(hc:X.calm=true:=by rfl)(hk:scope.kind=.function:=by rfl)(h:CK (rlb sc sO) scope N N' xs:=by decide +kernel)(hs:∀z,foldedSetIterable iter (X.compGC N0 sO x0 C0 s0 H0 dk di).env z=pure z:=by intro _;rfl):QE (X.compGC N0 sO x0 C0 s0 H0 dk di) (.ListComp aS [⟨tg,iter,ay,0⟩] scope pos) (WX ri xs.length g rc re):=by
 subst b9 ck;exact cD (X:=X.compGC N0 sO x0 C0 s0 H0 dk di) (rlb X.env.scope sO) _ N' xs hi hg ht he rfl rfl hc hk h hs
def zP{X:Cx}{tg iter aS:Expr}{ay:List Expr}{ri:RI}{g:qS}{rc:RT}{re:RE}{scope:Scope}{pos:Pos}{i0:Nat}{y0:Str}{py b7:Pos}(Z:Nat->RI->Nat->qS->RT->RE->RS)(hZ:∀{X i0 ri n g rc re D σ H},tQS X (Z i0 ri n g rc re) D σ H->aen (tR (tQI X.K ri) n (tMG (tQG X.K n g)) (tMT (tQT X.K rc)) (tM (tQ X.K re))) (Bx i0) D σ H)(sc:Scope)(N N' xs:Φ)(hi:QI X tg iter ri)(hg:∀{C s₀ H₀ ex pn},QG (X.compG N' scope xs C s₀ H₀ ex pn) xs.length tg g)(ht:∀{C s₀ H₀ ex pn},QTs (X.compG N' scope xs C s₀ H₀ ex pn) ay rc)(he:∀{C s₀ H₀ ex pn},QE (X.compG N' scope xs C s₀ H₀ ex pn) aS re)(gv:PG X (.Name y0 py) (Bx i0))
 (b9:X.env.scope=sc:=by rfl)(ck:X.N=N:=by rfl)(hc:X.calm=true:=by rfl)(hk:scope.kind=.function:=by rfl)(h:CK sc scope N N' xs:=by decide +kernel)(gp:swapsWith (.ListComp aS [⟨tg,iter,ay,0⟩] scope pos) (some (.Name y0 py)) b7.line X.env=pure true:=by rfl)(hs:qV X iter:=by intro _;rfl):QS X (.Assign [.Name y0 py] (.ListComp aS [⟨tg,iter,ay,0⟩] scope pos) b7) (Z i0 ri xs.length g rc re):=PS.imp (by subst b9 ck;exact abM (am7 hk h.1) hc h.2.1 hk h.2.2.1 h.2.2.2.1 h.2.2.2.2.1 h.2.2.2.2.2 hi (λ_ _ _ _ _=>hg.mono) (λ_ _ _ _ _=>ht.mono) (λ_ _ _ _ _=>he.mono) gv gp hs) λ_ _ _=>hZ
def ajr{py b7:Pos}:=@zP X tg iter aS ay ri g rc re scope pos i0 y0 py b7 (λi r n g c e=>aiu i (WX r n g c e)) λ{_ i0 _ _ _ _ _ _ _ _}⟨own,o,E,h,hr,L⟩=>Kw ⟨own,o,_,h,hr,λH' v y q S n=>by
 obtain⟨ai,h',S'⟩:=h.putA S n i0;exact L.nx ai H' _ _ q S' h'⟩
def c7{N' xs:Φ}{C s₀ H₀ ex pn}(hN:(xs++N').Nodup:=by decide +kernel)(hi:(xs++N')[i]?=some x:=by rfl)(hn:i<n:=by decide)(hx:Loc (X.compG N' scope xs C s₀ H₀ ex pn).env.scope x:=by exact Or.inl rfl)(hf:(X.compG N' scope xs C s₀ H₀ ex pn).fn x=true\/(X.compG N' scope xs C s₀ H₀ ex pn).env.scope.names.lookup x=some .local:=by exact Or.inr rfl):QG (X.compG N' scope xs C s₀ H₀ ex pn) n (.Name x p) (hName i):=bU (i:=i) (hN:=hN) (hx:=hx) (hi:=hi) (hn:=hn) (hf:=hf)
def ag1{N':Φ}{x0:Str}{C s₀ H₀ ex pn}(hN:([x0]++N').Nodup:=by decide +kernel)(hx:Loc (X.compGC N' scope x0 C s₀ H₀ ex pn).env.scope x0:=by exact Or.inr rfl):QG (X.compGC N' scope x0 C s₀ H₀ ex pn) 1 (.Name x0 p) (hName 0)   := bU (i:=0) (hN:=hN) (hx:=hx) (hi:=rfl) (hn:=wx) (hf:=(.inl (beq_self_eq_true _)))
def abe{c:RT}{e:RE}(h:g t o λo'=>c o' λb=>sw b (e o' λy=>ig g c e o ts λus=>q (frz y::us)) (ig g c e o ts q)):ig g c e o (t::ts) q:=⟨λy=>ig g c e o ts λus=>q (y::us),_,λ_ h=>h,id,h⟩
theorem cg.reps{K:Frag}{F:Hp}{xs:Ζ}{ts:zh}(h:cg K F xs ts):∀n:Nat,cg K F (List.replicate n xs).flatten (List.replicate n ts).flatten
 |0=>.nil
 |n+1=>by rw[List.replicate_succ,List.replicate_succ,List.flatten_cons,List.flatten_cons];exact h.app (cg.reps h n)
def cI:GO X (binaryOp .Mult) ap3:=λaa s σ H x y v u Q I rx ry h=>by
 obtain⟨S,t,w,R,_,hx,hy,hg,k⟩:=h;cases w with
 |int j=>?_
 |_=>cases t<;>exact hg.elim
 cases hy;cases t<;>try exact hg.elim
 .cases hx;exact aga aa s σ H _ _ v u Q I rx ry ⟨_,_,rfl,rfl,hg.1,k H _ _ hg.2 (.refl _) (NR.fz (.int _))⟩
 .cases hx;obtain⟨c,rfl,h1,h2,q⟩:=hg;exact afC aa s σ H _ _ v u Q I rx ry ⟨c,j,rfl,rfl,h1,h2,λz hz=>k H _ _ (q z hz) (.refl _) (NR.fz (.str _))⟩
 .obtain⟨p,xs,rfl,e,r⟩:=hx.lstI;obtain⟨⟨h1,h2,h3⟩,q⟩:=hg;exact aje aa s σ H _ _ v u Q I rx ry ⟨p,j,xs,rfl,rfl,(cH e).2,h1,h2,by rw[r.len];exact h3,λa ha=>k _ _ _ (q _ rfl) (Same.upd ha) (Cq (r.reps j.toNat) (Same.upd ha) ha cM)⟩
mutual
def ofD:PyData->T
 |.none=>.non
 |.bool b=>.bl b
 |.int i=>.int i
 |.str s=>.str s
 |.list ds=>.lst (X7 ds)
 |.tuple ds=>.tup (X7 ds)
 |.dict _=>.any
def X7:xy->zh
 |[]=>[]
 |d::ds=>ofD d::X7 ds
end
mutual
theorem Rep.shows{K:Frag}{F:Hp} : ∀{x:V}{t:T},Rep K F x t->∀d,t=ofD d->d.canLay0=true->gP K F x d
 |_,_,.any v,d,e,s=>by cases d<;>cases e;cases s
 |_,_,.non,d,e,_=>by cases d<;>cases e;exact .non
 |_,_,.bl b,d,e,_=>by cases d<;>cases e;exact .bl _
 |_,_,.int i,d,e,_=>by cases d<;>cases e;exact .int _
 |_,_,.str s,d,e,_=>by cases d<;>cases e;exact .str _
 |_,_,.val v,d,e,_=>by cases d<;>cases e
 |_,_,.tup q h,d,e,s=>by
  cases d<;>cases e;exact .tup q (cg.shows h _ rfl s)
 |_,_,.lst q h,d,e,s=>by
  cases d<;>cases e;exact .lst q (cg.shows h _ rfl s)
 |_,_,.scr q h,d,e,_=>by cases d<;>cases e
 |_,_,.dct q l h,d,e,_=>by cases d<;>cases e
 |_,_,.ins q d' l h,d,e,_=>by cases d<;>cases e
 |_,_,.exc q d' l h,d,e,_=>by cases d<;>cases e
theorem cg.shows{K:Frag}{F:Hp} : ∀{xs:Ζ}{ts:zh},cg K F xs ts->∀ds,ts=X7 ds->PyData.canLayAll0 ds=true->eF K F xs ds
 |_,_,.nil,ds,e,_=>by cases ds<;>cases e;exact .nil
 |_,_,.cons a b,ds,e,s=>by
  cases ds<;>cases e;obtain⟨s1,s2⟩:=Bool.and_eq_true_iff.mp s;exact .cons (Rep.shows a _ rfl s1) (cg.shows b _ rfl s2)
end
def xr:Bool->Bool->Bool
 |false,b=>b
 |true,b=>!b
def eqS:T->T->Option Bool
 |.int i,.int j=>some (decide (i=j))
 |.str i,.str j=>some (decide (i=j))
 |.bl i,.bl j=>some (decide (i=j))
 |.non,.non=>some true
 |.non,.int _=>some false
 |.int _,.non=>some false
 |.non,.str _=>some false
 |.str _,.non=>some false
 |.int _,.str _=>some false
 |.str _,.int _=>some false
 |.tup [.int a,.int b],.tup [.int c,.int d]=>some (decide (a=c)&&decide (b=d))
 |_,_=>none
def gEq(neg:Bool)(t u:T)(q:OT->Prop):Prop:=match eqS t u with
 |some b=>q (.fz (.bl (xr neg b)))
 |none=>∃d e,t=ofD d/\u=ofD e/\SeqAt.shaped d=true/\SeqAt.shaped e=true/\q (.fz (.bl (xr neg (PyData.eqv d e))))
def abW(a b c d:Int):PyData.eqv (.tuple [.int a,.int b]) (.tuple [.int c,.int d])=(decide (a=c)&&decide (b=d)):=by
 simp only[PyData.eqv,PyData.eqvAll,Bool.and_true]
 rfl
def ajn{F:Hp}{x y:V}{u:T}{b:Bool}(S:Same F H)(hx:Rep K F x t)(hy:Rep K F y u)(e:eqS t u=some b):(abB x y=true/\decide (x=y)=b)\/∃d e,gP K H x d/\gP K H y e/\SeqAt.shaped d=true/\SeqAt.shaped e=true/\PyData.eqv d e=b:=by
 unfold eqS at e;split at e<;>cases e
 .cases hx;cases hy;exact .inl ⟨rfl,by simp⟩
 .cases hx;cases hy;exact .inl ⟨rfl,by simp⟩
 .cases hx;cases hy;exact .inl ⟨rfl,by simp⟩
 .cases hx;cases hy;exact .inl ⟨rfl,rfl⟩
 .cases hx;cases hy;exact .inl ⟨rfl,rfl⟩
 .cases hx;cases hy;exact .inl ⟨rfl,rfl⟩
 .cases hx;cases hy;exact .inl ⟨rfl,rfl⟩
 .cases hx;cases hy;exact .inl ⟨rfl,rfl⟩
 .cases hx;cases hy;exact .inl ⟨rfl,rfl⟩
 .cases hx;cases hy;exact .inl ⟨rfl,rfl⟩
 .exact .inr ⟨.tuple [.int _,.int _],.tuple [.int _,.int _],(hx.shows _ rfl rfl).same S,(hy.shows _ rfl rfl).same S,rfl,rfl,abW _ _ _ _⟩
def ad2(neg:Bool)(h1:OpR X (compareOp op) λx y H Q=>abB x y=true/\Q (.bl (xr neg (decide (x=y)))) H)(h2:OpR X (compareOp op) (ajs X.K neg)):GO X (compareOp op) (gEq neg):=λaa s σ H x y v u Q I rx ry h=>by
 obtain⟨S,t,w,R,_,hx,hy,hg,k⟩:=h;have xe:∀b:Bool,(if neg then !b else b)=xr neg b:=λb=>by cases neg<;>rfl
 unfold gEq at hg;cases es:eqS t w with
 |some b =>
  rw[es]at hg;rcases ajn dH hx hy es with⟨a,c⟩|⟨d,e,s1,s2,s3,s4,c⟩
  .exact h1 aa s σ H x y v u Q I rx ry ⟨a,by rw[c];exact k H _ _ hg (.refl _) (NR.fz (.bl _))⟩
  .exact h2 aa s σ H x y v u Q I rx ry ⟨d,e,s1,s2,s3,s4,by rw[xe,c];exact k H _ _ hg (.refl _) (NR.fz (.bl _))⟩
 |none =>
  rw[es]at hg;obtain⟨d,e,e1,e2,s1,s2,q⟩:=hg;exact h2 aa s σ H x y v u Q I rx ry ⟨d,e,(hx.shows d e1 (Bool.and_eq_true_iff.mp s1).1).same dH,(hy.shows e e2 (Bool.and_eq_true_iff.mp s2).1).same dH,s1,s2,by rw[xe];exact k H _ _ q (.refl _) (NR.fz (.bl _))⟩
def go_eq(hu:X.A.units+64<cLine):GO X (compareOp .Eq) (gEq false):=ad2 false aod (ahF hu)
def lG(hu:X.A.units+64<cLine):GO X (compareOp .NotEq) (gEq true):=ad2 true aln (ahB hu)
def flat:OT->Prop
 |.fz (.int _)=>True
 |.fz (.bl _)=>True
 |.fz (.str _)=>True
 |.fz .non=>True
 |_=>False
def ao5(i:Nat)(a:RE):RE:=λo q=>match slot o i with|.und=>False|x=>a (o.set i (.fz (frz x))) λy=>flat y/\q y
def anV(i:Nat)(a:RT):RT:=λo q=>match slot o i with|.und=>False|x=>a (o.set i (.fz (frz x))) q
def Zk{P:OT->Prop}(h:match slot o i with|.und=>False|x=>P x):P (slot o i)/\slot o i≠.und:=by
 cases e:slot o i<;>rw[e]at h<;>first|exact h.elim|exact⟨h,λz=>by cases z⟩
def Pj(i:Nat)(h:QE X e re):QE X e (ao5 i re):=PE.imp h λσ H Q hP=>by
 obtain⟨own,o,R,h,hr,k⟩:=hP;obtain⟨hr,ne⟩:=Zk (P:=λx=>re (o.set i (.fz (frz x))) λy=>flat y/\R y) hr;obtain⟨u,e1,s⟩:=h.val rfl ne;obtain⟨ai,h',S⟩:=h.frz (iC rfl ne) e1;refine⟨ai,_,_,h',hr,λH' v x q E n=>k H' v x q.2 E ?_⟩;have fl:=q.1;have rp:=n.rep λb z=>(h'.sole z).ne;cases x with
 |fz t=>cases t<;>first|exact fl.elim|(cases rp;first|exact NR.fz (.int _)|exact NR.fz (.bl _)|exact NR.fz (.str _)|exact NR.fz .non)
 |_=>exact fl.elim
def QH(i:Nat)(h:QT X e rt):QT X e (anV i rt):=PT.imp h λσ H Q hP=>by
 obtain⟨own,o,R,h,hr,k⟩:=hP;obtain⟨hr,ne⟩:=Zk (P:=λx=>rt (o.set i (.fz (frz x))) R) hr;obtain⟨u,e1,s⟩:=h.val rfl ne;obtain⟨ai,h',S⟩:=h.frz (iC rfl ne) e1;exact⟨ai,_,_,h',hr,k⟩
def Z5:T->Option Key
 |.int i=>some (.inl i)
 |.str s=>some (.inr s)
 |_=>none
def oN{α:Type} : xh->List α->Key->Option α
 |k::ks,t::ts,j=>if k=j then some t else oN ks ts j
 |_,_,_=>none
def TQ{F:Hp}{x:V}{k:Key}(h:Rep K F x t)(e:Z5 t=some k):x=kV k:=by
 cases h<;>cases e<;>rfl
theorem Gh{K:Frag}{F:Hp}{k:Key} : ∀{ks:xh}{xs:Ζ}{ts:zh},cg K F xs ts->(∀t,oN ks ts k=some t->∃x,Ke (ks.zip xs) k=some x/\Rep K F x t)/\(oN ks ts k=none->Ke (ks.zip xs) k=none)
 |[],_,_,_=>⟨λ_ z=>(nomatch z),λ_=>rfl⟩
 |_::_,_,_,.nil=>⟨λ_ z=>(nomatch z),λ_=>rfl⟩
 |j::ks,_,_,.cons a b=>by
  by_cases h:j=k
  .refine⟨λt z=>?_,λz=>?_⟩
   .unfold oN at z;rw[ZY h]at z;cases z;exact⟨_,Vv h,a⟩
   .unfold oN at z;rw[ZY h]at z;cases z
  .obtain⟨i1,i2⟩:=Gh (k:=k) (ks:=ks) b;refine⟨λt z=>?_,λz=>?_⟩
   .unfold oN at z;rw[ZZ h]at z;obtain⟨x,e,r⟩:=i1 t z;exact⟨x,(Lq h).trans e,r⟩
   .unfold oN at z;rw[ZZ h]at z;exact(Lq h).trans (i2 z)
def anx:qA
 |.dct ks ts,u,q=>∃k t,Z5 u=some k/\oN ks ts k=some t/\q (.fz t)
 |_,_,_=>False
def Qy(hu:X.A.units+1<cLine)(ha:QE X a ra)(hb:QE X b rb)(hs:aiF b:=by exact λ_ _=>rfl):QE X (.Subscript a b pos) (rOp anx ra rb):=(aem hu ha hb hs).imp λσ H Q ⟨own,o,R,h,hr,k⟩=>tQ.mk h hr λH1 v x q E1 r1=>tQ.mk (h.same E1) q λH2 w y q E2 r2=>by
 have r1:=r1.same (bY E2)
 revert r1 q
 generalize frz x=t;intro q r1;cases t<;>try exact q.elim
 obtain⟨d,xs,rfl,e,l,r⟩:=r1.dctI;obtain⟨j,t,e1,e2,q⟩:=q;obtain⟨z,e3,r3⟩:=(Gh r).1 t e2;cases TQ r2 e1;exact⟨d,z,rfl,.inl ⟨_,_,dH.rd e,rfl,e3.symm⟩,k H2 _ _ q (E1.trans E2) (NR.fz r3)⟩
def ahD(neg:Bool):qA
 |u,.dct ks ts,q=>∃k,Z5 u=some k/\q (.fz (.bl (xr neg (oN ks ts k).isSome)))
 |_,_,_=>False
def ace{neg:Bool}(h:tQ X.K (rOp (ahD neg) ra rb) σ H Q):(tQ X.K ra) σ H λy H1=>(tQ X.K rb) σ H1 λx H2=>∃a o,x=.ref a/\GF H2 a y o/\Q (.bl (xr neg o.isSome)) H2:=by
 obtain⟨own,o,R,h,hr,k⟩:=h;refine tQ.mk h hr λH1 v x q E1 r1=>tQ.mk (h.same E1) q λH2 w y q E2 r2=>?_;have r1:=r1.same (bY E2)
 revert r2 q
 generalize frz y=t;intro q r2;cases t with
 |dct ks ts =>
  obtain⟨d,xs,rfl,e,l,r⟩:=r2.dctI;obtain⟨j,e1,q⟩:=q;cases TQ r1 e1;refine⟨d,_,rfl,.inl ⟨_,_,dH.rd e,rfl,rfl⟩,?_⟩;have:(Ke (ks.zip xs) j).isSome=(oN ks ts j).isSome:=by
   cases z:oN ks ts j with
   |none=>rw[(Gh r).2 z];rfl
   |some t=>obtain⟨x,e,_⟩:=(Gh r).1 t z;rw[e];rfl
  rw[this];exact k H2 _ _ q (E1.trans E2) (NR.fz (.bl _))
 |_=>cases frz x<;>exact q.elim
def ag0{r:RE}{tt:TE}(i:∀σ H Q,tQ X.K r σ H Q->tt σ H Q){Q:Bool->Hp->Prop}(h:tQT X.K (rB r) σ H Q):tB tt σ H Q:=by
 obtain⟨own,o,R,h,hr,k⟩:=h;refine i σ H _ (tQ.mk h hr λH1 v x q E1 r1=>?_)
 revert r1 q
 generalize frz x=t;intro q r1;cases r1<;>try exact q.elim
 exact⟨_,rfl,k _ _ q E1⟩
def abN(hu:X.A.units+1<cLine)(ha:QE X a ra)(hb:QE X b rb)(h1:behindInMarks .In b=false:=by rfl):QT X (.Compare a [.In] [b] pos) (rB (rOp (ahD false) ra rb)):=(ab4 (ahf hu ha hb) h1).imp λ_ _ _=>ag0 λ_ _ _=>ace (neg:=false)
def aak(hu:X.A.units+1<cLine)(ha:QE X a ra)(hb:QE X b rb)(h1:behindInMarks .NotIn b=false:=by rfl):QT X (.Compare a [.NotIn] [b] pos) (rB (rOp (ahD true) ra rb)):=(ab4 (aaS hu ha hb) h1).imp λ_ _ _=>ag0 λ_ _ _=>ace (neg:=true)
def akc:RE:=λ_ q=>q (.d1 [] [])
def Jh:QE X (.Dict [] [] pos) akc:=acM.imp λσ H Q ⟨own,o,R,h,hr,k⟩ p hp=>k _ _ _ hr (Same.upd hp) ⟨[p],λa ha=>(YR.mp ha) ▸ hp,p,[],rfl,rfl,cM,rfl,.nil⟩
def aqs(i:Nat)(a b:RE):RS:=λE o=>match slot o i with|.d1 ks ts=>a o λy=>b o λk=>∃j,Z5 (frz k)=some j/\oN ks ts j=none/\ks.length<sizeLine/\ks.length=ts.length/\E.nx (o.set i (.d1 (ks++[j]) (ts++[frz y])))|_=>False
def lkF{α:Type} : Φ->List α->Str->Option α
 |k::ks,t::ts,f=>if k=f then some t else lkF ks ts f
 |_,_,_=>none
def Lj:Φ->Str->Φ
 |[],f=>[f]
 |k::ks,f=>if k=f then k::ks else k::Lj ks f
def Bo{α:Type} : Φ->List α->Str->α->List α
 |k::ks,t::ts,f,v=>if k=f then v::ts else t::Bo ks ts f v
 |_,ts,_,v=>ts++[v]
theorem acG{K:Frag}{F:Hp}{f:Str} : ∀{ks:Φ}{xs:Ζ}{ts:zh},cg K F xs ts->(∀t,lkF ks ts f=some t->∃x,(ks.zip xs).lookup f=some x/\Rep K F x t)/\(lkF ks ts f=none->(ks.zip xs).lookup f=none)
 |[],_,_,_=>⟨λ_ z=>(nomatch z),λ_=>rfl⟩
 |_::_,_,_,.nil=>⟨λ_ z=>(nomatch z),λ_=>rfl⟩
 |j::ks,_,_,.cons a b=>by
  obtain⟨i1,i2⟩:=acG (f:=f) (ks:=ks) b;by_cases h:j=f
  .refine⟨λt z=>?_,λz=>?_⟩
   .unfold lkF at z;rw[ZY h]at z;cases z;exact⟨_,by rw[List.zip_cons_cons,List.lookup_cons,h,beq_self_eq_true],a⟩
   .unfold lkF at z;rw[ZY h]at z;cases z
  .have e:∀x(r:xn),((j,x)::r).lookup f=r.lookup f:=λx r=>by rw[List.lookup_cons,beq_false_of_ne (Ne.symm h)]
   refine⟨λt z=>?_,λz=>?_⟩
   .unfold lkF at z;rw[ZZ h]at z;obtain⟨x,e1,r⟩:=i1 t z;exact⟨x,(e _ _).trans e1,r⟩
   .unfold lkF at z;rw[ZZ h]at z;exact(e _ _).trans (i2 z)
theorem VL{f:Str}{v:V} : ∀{ks:Φ}{xs:Ζ},ks.length=xs.length->xP f v (ks.zip xs)=(Lj ks f).zip (Bo ks xs f v)/\(Lj ks f).length=(Bo ks xs f v).length
 |[],[],_=>⟨rfl,rfl⟩
 |k::ks,x::xs,l=>by
  obtain⟨i1,i2⟩:=VL (f:=f) (v:=v) (ks:=ks) (xs:=xs) (Nat.succ.inj l);show(if k=f then(k,v)::ks.zip xs else(k,x)::xP f v (ks.zip xs))=_/\_;unfold Lj Bo;by_cases h:k=f
  .rw[ZY h,ZY h,ZY h];exact⟨rfl,l⟩
  .rw[ZZ h,ZZ h,ZZ h,i1];exact⟨rfl,ZH (· + 1) i2⟩
 |[],_::_,l=>by cases l
 |_::_,[],l=>by cases l
theorem cg.put{K:Frag}{F:Hp}{f:Str}{v:V}{t:T}(r:Rep K F v t):∀{ks:Φ}{xs:Ζ}{ts:zh},cg K F xs ts->cg K F (Bo ks xs f v) (Bo ks ts f t)
 |[],_,_,h=>h.app (.cons r .nil)
 |_::_,_,_,.nil=>.cons r .nil
 |k::ks,_,_,.cons a b=>by
  unfold Bo;by_cases h:k=f
  .rw[ZY h,ZY h];exact .cons r b
  .rw[ZZ h,ZZ h];exact .cons a (cg.put r b)
abbrev SI:=Addr->Φ->zh->zh->(Φ->zh->Prop)->Prop
def Slf(a dx b:Addr):Prop:=b=a\/b=dx
def spI(K:Frag)(S:SI):Sp:=λvs H Q _=>∃a dx C ks xs ts us as R,vs=.ref a::us/\H a=some (.ins C dx (ks.zip xs))/\H dx=some (.own a)/\ks.length=xs.length/\cg K (hd (Slf a dx) H) xs ts/\cg K (hd (Slf a dx) H) us as/\S C ks ts as R /\
 ∀H' eR fm fo,R eR fo->Same (hd (Slf a dx) H) (hd (Slf a dx) H')->H' a=some (.ins C dx (eR.zip fm))->H' dx=some (.own a)->eR.length=fm.length->cg K (hd (Slf a dx) H') fm fo->Q .non H'
def startI(n:Nat)(a dx C:Addr)(ks:Φ)(ts as:zh):ze:=.ob a dx C ks ts::start' (n-1) as
def ame(a dx:Addr):Nat->Ψ
 |0=>[a,dx]
 |_+1=>[]
def YM(a dx:Addr):Ow (ame a dx)=Slf a dx:=funext λb=>propext ⟨(λh=>by
  obtain⟨i,z⟩:=h;cases i with
  |zero =>
   rcases YU.mp z with z|z
   .exact .inl z
   .exact .inr (YR.mp z)
  |succ i=>cases z),λz=>⟨0,by show b∈[a,dx];rcases z with rfl|rfl<;>simp⟩⟩
def SR.startI{H:Hp}{a dx C:Addr}{ks:Φ}{xs:Ζ}{ts as:zh}{us:Ζ}(ha:H a=some (.ins C dx (ks.zip xs)))(bt:H dx=some (.own a))(l:ks.length=xs.length)(r:cg K (hd (Slf a dx) H) xs ts)(r2:cg K (hd (Slf a dx) H) us as)(N:Φ)(hN:us.length+1<=N.length) :
  SR K (ame a dx) H (L2.start N (.ref a::us)) (L2.startI N.length a dx C ks ts as):=by
 have eO:=YM a dx;refine⟨?_,λi x e=>?_,λi hi b hb=>?_,λi j b e1 e2=>?_⟩
 .unfold L2.startI start' L2.start;have:=r2.len;simp only[List.length_cons,aA,ak,aN];lia
 .rw[eO];unfold L2.startI at e;cases i with
  |zero =>
   cases e;exact⟨xs,rfl,rfl,ha,bt,l,r⟩
  |succ i =>
   rw[List.getElem?_cons_succ]at e;show Slo K _ _ _ [] x;unfold start' at e;unfold L2.start;rw[List.map_cons,List.cons_append,List.getElem?_cons_succ];by_cases hi:i<as.length
   .rw[aF (by simpa using hi),aq,aj hi]at e;cases e;obtain⟨v,e1,r1⟩:=r2.at_ (aj hi);rw[aF (by rwa[ak,r2.len]),aq,e1];exact⟨rfl,v,rfl,r1⟩
   .rw[aD (by simpa using hi),ak,XG]at e;by_cases hj:i-as.length<N.length-1-as.length
    .rw[ZY hj]at e;cases e;rfl
    .rw[ZZ hj]at e;cases e
 .unfold L2.startI at hi;cases i with
  |zero=>cases hi
  |succ i=>cases hb
 .cases i with
  |zero =>
   cases j with
   |zero=>rfl
   |succ j=>cases e2
  |succ i=>cases e1
def Fun.okI{am:Str}{N:Φ}{S:SI}(F:Fun K x am st f fd)(sc:bL N ps (bH st))(len:∀C ks ts as R,S C ks ts as R->as.length+1=ps.length)(hn:ps.length<=N.length)
 (ci:∀(ag:Value)(A:Around)(outer:xt)(s:Shared)(H:Hp)(E:XK),eY k (A.deeper (envOfC am (bH st) s.heap.objs.size f ag))->N.Nodup ->
   ∃r,QSs (Qn CX0 P w K mg base N am (bH st) f ag A outer s H E).nox (gk st) r/\∀a dx C ks ts as R,S C ks ts as R->r { nx:=λo=>∃eR fo,slot o 0=.ob a dx C eR fo/\R eR fo,rt:=λ_=>False } (startI N.length a dx C ks ts as)):gY P w K mg base CX0 (k+1) f fd ps (spI K S):=by
 refine F.ok sc (λvs H Q E h=>?_) λag A outer s H vs Q E hr h=>?_
 .obtain⟨a,dx,C,ks,xs,ts,us,as,R,rfl,_,_,_,_,r2,hS,_⟩:=h;rw[List.length_cons,r2.len];exact len _ _ _ _ _ hS
 .obtain⟨a,dx,C,ks,xs,ts,us,as,R,rfl,ha,bt,l,r,r2,hS,q⟩:=h;obtain⟨rd,h1,h2⟩:=ci ag A outer s H E hr sc.nd;have s0:=SR.startI ha bt l r r2 N (by rwa[r2.len,len _ _ _ _ _ hS]);have eO:=YM a dx;refine⟨_,h1,_,_,_,s0,h2 a dx C ks ts as R hS,⟨λown H' σ o rx E h=>?_,λ_ _ _ _ _ z=>z.elim,λ_ _ _ _ z=>z.elim,λ_ _ _ _ z=>z.elim,λ_ _ _ _ _ _ z=>z.elim⟩⟩;obtain⟨eR,fo,es,rx⟩:=rx;rw[eO]at E;obtain⟨u,_,fm,e1,e2,e3,e4,e5,e6⟩:=h.val es (by intro z;cases z);have sub:Same (hd (Ow own) H') (hd (Slf a dx) H'):=jd (λb z=>.inl ⟨0,by rw[e2];rcases z with rfl|rfl<;>simp⟩) λ_ _ z=>z;exact q H' eR fm fo rx (E.trans sub) e3 e4 e5 (e6.same sub)
def ag5(Fm:Addr->Prop)(i:Nat)(f:Str):RE:=λo q=>match slot o i with|.ob _ _ C ks ts=>Fm C/\∃t,lkF ks ts f=some t/\q (.fz t)|_=>False
variable{f:Str}{Fm:Addr->Prop}{S:ST}{pl:Sem Bool}{j:Int}
def aer(i:Nat)(c:∀C,Fm C->Cls X.K C/\cu X.K C f)(hN:X.N[i]?=some x:=by rfl)(hv:rD X.env.scope x=true:=by rfl)(bt:qk x:=by decide)(a9:qf x:=by decide)(hb:attributeBase (.Name x p) f X.env (eval (.Name x p) X.env)=eval (.Name x p) X.env:=by rfl):QE X (.Attribute (.Name x p) f pos) (ag5 Fm i f):=(ad6 (pv i hN hv bt a9) hb).imp λσ H Q hP=>by
 obtain⟨own,o,R,h,hr,k⟩:=hP;unfold ag5 at hr;cases es:slot o i with
 |ob a dx C ks ts =>
  rw[es]at hr;obtain⟨u,e1,xs,e2,e3,e4,e5,l,r⟩:=h.val es (by intro z;cases z);cases e2;obtain⟨hf,t,e6,q⟩:=hr;obtain⟨v,e7,r7⟩:=(acG r).1 t e6;exact⟨_,e1,a,C,dx,_,v,rfl,e4,(c C hf).1,(c C hf).2,e7,k H _ _ q (.refl _) (NR.fz r7)⟩
 |_=>rw[es]at hr;exact hr.elim
def ag6(Fm:Addr->Prop)(i:Nat)(f:Str)(a:RE):RS:=λE o=>match slot o i with|.ob b dx C ks ts=>a o λy=>(Fm C/\ks.length<1000)/\E.nx (o.set i (.ob b dx C (Lj ks f) (Bo ks ts f (frz y))))|_=>False
def sX(i:Nat)(c:∀C,Fm C->Cls X.K C/\cu X.K C f)(he:QE X e re)(hN:X.N[i]?=some x:=by rfl)(hv:rD X.env.scope x=true:=by rfl)(bt:qk x:=by decide)(a9:qf x:=by decide)(hs:swapsWith e (some (.Attribute (.Name x p) f aw)) pos.line X.env=pure false:=by rfl):QS X (.Assign [.Attribute (.Name x p) f aw] e pos) (ag6 Fm i f re):=(ai4 (pv i hN hv bt a9) he hs).imp λD σ H hP=>by
 obtain⟨own,o,E,h,hr,L⟩:=hP;unfold ag6 at hr;cases es:slot o i with
 |ob a dx C ks ts =>
  rw[es]at hr;obtain⟨u,e1,xs,e2,e3,e4,e5,l,r⟩:=h.val es (by intro z;cases z);cases e2;refine tQ.mk h hr λH1 v y q E1 r1=>⟨_,e1,a,C,dx,_,rfl,E1 _ _ e4,(c C q.1.1).1,(c C q.1.1).2,by rw[WH,<- l,Up];exact q.1.2,?_⟩;obtain⟨pz,pl⟩:=VL (f:=f) (v:=v) l;rw[pz];have eT:dx≠a:=akA e5 e4 (by intro z;cases z);obtain⟨h',S⟩:=(h.same E1).chg (iC es (by intro z;cases z)) (y:=.ob a dx C (Lj ks f) (Bo ks ts f (frz y))) (H':=upd H1 a (.ins C dx ((Lj ks f).zip (Bo ks xs f v)))) (λb u hb e=>(cB λz=>hb (by rw[e3,z];simp)).trans e) (by
   rw[e1,Gx ⟨i,by rw[e3];simp⟩];exact⟨_,rfl,e3,cM,(cB eT).trans (E1 _ _ e5),pl,cg.put r1 (r.same (bY E1))⟩)
  exact L.nx own _ σ _ q.2 ((bY E1).trans S) h'
 |_=>rw[es]at hr;exact hr.elim
def apW(Fm:Addr->Prop)(f:Str)(a:RE):RE:=λo q=>a o λx=>match frz x with|.ins C ks ts=>Fm C/\∃t,lkF ks ts f=some t/\q (.fz t)|_=>False
def Ck(c:∀C,Fm C->Cls X.K C/\cu X.K C f)(he:QE X e re)(hb:qB X e f:=by rfl):QE X (.Attribute e f pos) (apW Fm f re):=(ad6 he hb).imp λσ H Q ⟨own,o,R,h,hr,k⟩=>tQ.mk h hr λH1 v x q E1 r1=>by
 revert r1 q
 generalize frz x=t;intro q r1;cases t<;>try exact q.elim
 obtain⟨a,dx,xs,rfl,e,d,l,r⟩:=r1.insI;obtain⟨hf,t,e6,q⟩:=q;obtain⟨v,e7,r7⟩:=(acG r).1 t e6;exact⟨a,_,dx,_,v,rfl,(cH e).2,(c _ hf).1,(c _ hf).2,e7,k H1 _ _ q E1 (NR.fz r7)⟩
abbrev OkM(X:Cx)(k:Nat)(fa:Addr)(ps:Φ)(S:ST):Prop:=zw X CX0 k fa ps (spT X.K S)
def OkI.hid{P:Program}{w:World}{K:Frag}{mg:Str->Ω}{base:Heap}{k:Nat}{fa:Addr}{ps:Φ}{sp:Sp}(G:OkI P w K mg base CX0 k fa ps sp):OkI P w K mg base CX0 k fa ps (spH sp):=by obtain⟨fd,F,b⟩:=G;exact⟨fd,F.hid,b⟩
def Ve{vs:Ζ}{E:XK}(h1:SR X.K own H1 σ o)(r1:cg X.K (hd (Ow own) H1) vs ts)(q:S ts R)(k:∀H' v x,R x->Same H1 H'->NR X.K (Ow own) H1 H' v x->Q v H'):spH (spT X.K S) vs H1 Q E:=by
 refine⟨Ow own,h1.hid,ts,R,r1,q,λG v x rx E n a8=>?_⟩;have EH:Same H1 (mrg (Ow own) H1 G):=λb u e=>by
  by_cases z:Ow own b
  .rw[vJ z];exact e
  .rw[jO z];exact E b u ((cX z).trans e)
 have EG:Same G (mrg (Ow own) H1 G):=λb u e=>by rw[jO λz=>by rw[a8 b z]at e;cases e];exact e
 refine k _ v x rx EH ?_;obtain⟨B,nb,s⟩:=n;have out:∀a∈B,¬Ow own a:=λa ha z=>(s.sole ha).ne (a8 a z);refine⟨B,λa ha=>by have:=nb a ha;rwa[cX (out a ha)]at this,s.same (jd (λb z=>?_) EG) EG⟩;rcases z with z|z
 .exact .inr (a8 b z)
 .exact .inl (.inr z)
def agP(C:Addr)(KS:Φ)(S:ST)(a:RE)(r:RA):RE:=λo q=>a o λx=>match frz x with|.ins C' ks ts=>(C'=C/\ks=KS)/\r o λas=>S (.ins C' ks ts::as) q|_=>False
theorem R7{f:Str} : ∀{KS:Φ}{xs:Ζ},f∉KS->(KS.zip xs).lookup f=none
 |[],_,_=>rfl
 |_::_,[],_=>rfl
 |k::KS,x::xs,h=>by
  rw[List.zip_cons_cons,List.lookup_cons,beq_false_of_ne λ(z:f=k)=>h (by rw[z];exact aO ..)];exact R7 λz=>h (aJ _ z)
def wO{o:Expr}{ro:RE}{fa C:Addr}{KS:Φ}(he:QE X o ro)(c:Cls X.K C)(hm:Meth X.K C f fa)(G:OkM X k fa ps S)(ha:QA X (e::es) r)(hr:eY k X.A:=by exact eY.mono (by assumption) wx)(hk:f∉KS:=by decide +kernel)
 (b8:qo X e es:=by rfl)(br:qh X pos es:=by rfl)
 (ht:eval (.Call (.Attribute o f ah) (e::es) [] pos) X.env=(do
   let ov <- eval o X.env
   standAt ah.atName
   let(f,first) <- holding [ov] (getMethod ov f pl)
   callWith pos f first (backTo pos (starEach (e::es) X.env)) (backToKw pos (keywordEach [] X.env))):=by rfl) :
  QE X (.Call (.Attribute o f ah) (e::es) [] pos) (agP C KS S ro r):=(acO (pl:=pl) he c hm (OkI.hid G) hr ha b8 br ht).imp λσ H Q ⟨own,o,R,h,hr,k⟩=>tQ.mk h hr λH1 v x q E1 r1=>by
 revert r1 q
 generalize frz x=t;intro q r1;cases t<;>try exact q.elim
 obtain⟨a,dx,xs,rfl,e,d,l,r⟩:=r1.insI;obtain⟨⟨rfl,rfl⟩,q⟩:=q;refine⟨a,dx,_,rfl,(cH e).2,R7 hk,tQA.mk (h.same E1) q λH2 vs as q _ E2 r2=>?_⟩;exact Ve ((h.same E1).same E2) (.cons (r1.same (bY E2)) r2) q λH' v x rx E n=>k H' v x rx (E1.trans (E2.trans E)) (n.back (E1.trans E2))
def xY{o:Expr}{ro:RE}{fa C:Addr}{KS:Φ}(he:QE X o ro)(c:Cls X.K C)(hm:Meth X.K C f fa)(G:OkM X k fa ps S)(hr:eY k X.A:=by exact eY.mono (by assumption) wx)(hk:f∉KS:=by decide +kernel)
 (ht:eval (.Call (.Attribute o f ah) [] [] pos) X.env=(do
   let ov <- eval o X.env
   standAt ah.atName
   let(f,first) <- holding [ov] (getMethod ov f pl)
   callWith pos f first (backTo pos (starEach [] X.env)) (backToKw pos (keywordEach [] X.env))):=by rfl) :
  QE X (.Call (.Attribute o f ah) [] [] pos) (agP C KS S ro ah9):=(aaK (pl:=pl) he c hm (OkI.hid G) hr ht).imp λσ H Q ⟨own,o,R,h,hr,k⟩=>tQ.mk h hr λH1 v x q E1 r1=>by
 revert r1 q
 generalize frz x=t;intro q r1;cases t<;>try exact q.elim
 obtain⟨a,dx,xs,rfl,e,d,l,r⟩:=r1.insI;obtain⟨⟨rfl,rfl⟩,q⟩:=q;refine⟨a,dx,_,rfl,(cH e).2,R7 hk,?_⟩;exact Ve (E:=E0) (h.same E1) (.cons r1 .nil) q λH' v x rx E n=>k H' v x rx (E1.trans E) (n.back E1)
def amy(C:Addr)(S:SI)(r:RA):RE:=λo q=>r o λas=>S C [] [] as λks ts=>q (.fz (.ins C ks ts))
theorem Ft{fa C:Addr}{S:SI}(M:Mk X.K C fa)(G:zw X CX0 k fa ps (spI X.K S))(hm:X.mg x=some (.ref C))(ha:QA X (e::es) r)(hr:eY (k+1) X.A:=by exact eY.mono (by assumption) wx)(hg:Gl X x:=by rfl)(cf:qk x:=by decide)
 (he:qo X e es:=by rfl)(br:qh X pos es:=by rfl):QE X (.Call (.Name x p) (e::es) [] pos) (amy C S r):=(abD M (OkI.hid G) hr hg hm ha cf he br).imp λσ H Q ⟨own,o,R,h,hr,k⟩=>tQA.mk h hr λH1 vs as q _ E1 r1 a dx na nd ne=>by
 have h1:=h.same E1;have E2:Same H1 (upd (upd H1 dx (.own a)) a (.ins C dx [])):=(Same.upd nd).trans (Same.upd ((cB (Ne.symm ne)).trans na));have h2:=h1.same E2;have oa:¬Ow own a:=λz=>(h1.sole z).ne na;have od:¬Ow own dx:=λz=>(h1.sole z).ne nd;refine⟨Ow own,h2.hid,a,dx,C,[],[],[],vs,as,_,rfl,(cX oa).trans cM,(cX od).trans ((cB ne).trans cM),rfl,.nil,r1.same (λb u e=>?_),q,λG eR fm fo rx E ea ed l r a8=>⟨rfl,?_⟩⟩
 .obtain⟨n,e⟩:=cH e;have n2:¬Slf a dx b:=λz=>by rcases z with rfl|rfl<;>rw[e]at *<;>contradiction
  rw[cX n2,cX n];exact E2 _ _ e
 .have EG:Same G (mrg (Ow own) (upd (upd H1 dx (.own a)) a (.ins C dx [])) G):=λb u e=>by rw[jO λz=>by rw[a8 b z]at e;cases e];exact e
  refine k _ _ _ rx (E1.trans λb u e=>?_) (NR.fz (.ins (dx:=dx) (ks:=eR) (xs:=fm) ?_ ?_ l (r.same λb u e=>?_)))
  .by_cases z:Ow own b
   .rw[vJ z];exact E2 _ _ e
   .have n2:¬Slf a dx b:=λz=>by rcases z with rfl|rfl<;>rw[e]at *<;>contradiction
    exact EG _ _ (cH (E b u ((cX n2).trans ((cX z).trans (E2 _ _ e))))).2
  .rw[cX oa];exact EG _ _ ea
  .rw[cX od];exact EG _ _ ed
  .have e':=(cH e).2;rw[cX λz=>by rw[a8 b z]at e';cases e'];exact EG _ _ e'
def ag8(i:Nat)(S:SI)(r:RA):RS:=λE o=>match slot o i with|.ob a dx C ks ts=>r o λas=>S C ks ts as λeR fo=>E.nx (o.set i (.ob a dx C eR fo))|_=>False
def Jo(i:Nat){y m:Str}{fa B:Addr}{S:SI}(c:HJ X.K B m fa)(G:zw X CX0 k fa ps (spI X.K S))(hm:X.mg x=some (.ref B))(ha:QA X es r)(hr:eY k X.A:=by exact eY.mono (by assumption) wx)(hg:Gl X x:=by rfl)
 (hN:X.N[i]?=some y:=by rfl)(hv:rD X.env.scope y=true:=by rfl)(bt:qk y:=by decide)(a9:qf y:=by decide)(cf:qk x:=by decide)
 (b8:starEach (.Name y p2::es) X.env=(false,eval (.Name y p2) X.env)::starEach es X.env:=by rfl)(br:qh X af es:=by rfl)
 (ht:eval (.Call (.Attribute (.Name x p) m ah) (.Name y p2::es) [] af) X.env=(do
   let ov <- eval (.Name x p) X.env
   standAt ah.atName
   let(f,first) <- holding [ov] (getMethod ov m pl)
   callWith af f first (backTo af (starEach (.Name y p2::es) X.env)) (backToKw af (keywordEach [] X.env))):=by rfl)
 (hs:swapsWith (.Call (.Attribute (.Name x p) m ah) (.Name y p2::es) [] af) none pos.line X.env=pure false:=by rfl) :
  QS X (.Expr (.Call (.Attribute (.Name x p) m ah) (.Name y p2::es) [] af) pos) (ag8 i S r):=(Bb (aed (pl:=pl) c (OkI.hid G) hr hg hm (pL (pv i hN hv bt a9) ha b8) cf b8 br ht) hs).imp λD σ H hP=>by
 obtain⟨own,o,E,h,hr,L⟩:=hP;unfold ag8 at hr;cases es:slot o i with
 |ob a dx C ks ts =>
  rw[es]at hr;obtain⟨u,e1,xs,e2,e3,e4,e5,l,r⟩:=h.val es (by intro z;cases z);cases e2;refine⟨_,e1,tQA.mk h hr λH1 vs as q _ E1 r1=>?_⟩;have h1:=h.same E1;have sub:∀b,Slf a dx b->b∈own i:=λb z=>by rw[e3];rcases z with rfl|rfl<;>simp
  have bus:∀b,b∈own i->Slf a dx b:=λb z=>by
   rw[e3]at z;rcases YU.mp z with z|z
   .exact .inl z
   .exact .inr (YR.mp z)
  have hid:Hid H1 (λb=>Ow own b/\¬Slf a dx b):=⟨λb z=>h1.sole z.1,λb C d f ⟨⟨j,z⟩,n⟩ e=>⟨⟨j,(h1.mate z).1 C d f e⟩,λy=>n (bus b ((h1.dis j i d ((h1.mate z).1 C d f e) (sub d y)) ▸ z))⟩,λb x ⟨⟨j,z⟩,n⟩ e=>⟨⟨j,(h1.mate z).2 x e⟩,λy=>n (bus b ((h1.dis j i x ((h1.mate z).2 x e) (sub x y)) ▸ z))⟩⟩;have eqF:∀H':Hp,hd (Slf a dx) (hd (λb=>Ow own b/\¬Slf a dx b) H')=hd (Ow own) H':=λH'=>funext λb=>by
   by_cases z:Slf a dx b
   .rw[rJ z,rJ ⟨i,sub b z⟩]
   .rw[cX z];by_cases y:Ow own b
    .rw[rJ (⟨y,z⟩ : Ow own b/\¬Slf a dx b),rJ y]
    .rw[cX (λw=>y w.1),cX y]
  have na:¬(Ow own a/\¬Slf a dx a):=λz=>z.2 (.inl rfl);have nd:¬(Ow own dx/\¬Slf a dx dx):=λz=>z.2 (.inr rfl);refine⟨_,hid,a,dx,C,ks,xs,ts,vs,as,_,rfl,(cX na).trans (E1 _ _ e4),(cX nd).trans (E1 _ _ e5),l,by rw[eqF];exact r.same (bY E1),by rw[eqF];exact r1,q,λG eR fm fo rx EE ea ed l' r' a8=>?_⟩;rw[eqF]at EE;have dt:∀{b:Addr}{u:HO},G b=some u->mrg (λb=>Ow own b/\¬Slf a dx b) H1 G b=some u:=λ{b u}e=>(jO λz=>by rw[a8 b z]at e;cases e).trans e;obtain⟨h',S'⟩:=h1.chg (iC es (by intro z;cases z)) (y:=.ob a dx C eR fo) (H':=mrg (λb=>Ow own b/\¬Slf a dx b) H1 G) (λb u hb e=>by
   by_cases z:Ow own b
   .rw[vJ ⟨z,λy=>hb (sub b y)⟩];exact e
   .exact dt (cH (EE b u ((cX z).trans e))).2) (by
   rw[e1];refine⟨fm,rfl,e3,dt ea,dt ed,l',r'.same λb u e=>?_⟩;obtain⟨n1,e⟩:=cH e;rw[cX λz=>by rw[a8 b ⟨z,n1⟩]at e;cases e];exact dt e)
  exact L.nx own _ σ _ rx ((bY E1).trans S') h'
 |_=>rw[es]at hr;exact hr.elim
def lE{A:Addr}{i:Int}(hm:X.mg x=some (.ref A))(kt:∀H,SqT X.K H A [.int i,.int j])(hg:Gl X x:=by rfl)(hd:qk x:=by decide):QE X (.Name x pos) (rC (.tup [.int i,.int j])):=qC (adv hg hm hd) λF=>.tup (kt F) (.cons (.int _) (.cons (.int _) .nil))
def QE.any{r:Addr->RE}(h:∀C,Fm C->QE X e (r C)):QE X e (λo q=>∃C,Fm C/\r C o q):=λaa s σ H Q I ⟨own,o,R,hs,⟨C,hC,hr⟩,k⟩=>h C hC aa s σ H Q I ⟨own,o,R,hs,hr,k⟩
def i_{py b7:Pos}:=@zP X tg iter aS ay ri g rc re scope pos i0 y0 py b7 (λi r n g c e=>ahJ i (WX r n g c e)) λ{_ i0 _ _ _ _ _ _ _ _}⟨own,o,E,h,hr,L⟩=>Kw ⟨own,o,_,h,hr,λH' v y q S n=>by
 obtain⟨ai,h',S'⟩:=h.putA S (n.frz λb z=>(h.sole z).ne) i0;exact L.nx ai H' _ _ q S' h'⟩
def apo(i j:Nat)(r:RA):RS:=λE o=>r o λts=>match ts with|[t,u]=>E.nx ((o.set i (.fz t)).set j (.fz u))|_=>False
def ajy(i j:Nat){y:Str}{px py pt:Pos}{kt k2 pt2}(hc:X.calm=true)(hN:X.N.Nodup)(iP:i≠j)(ha:QA X [a,b] r)(hi:X.N[i]?=some x:=by rfl)(hj:X.N[j]?=some y:=by rfl)
 (hx:X.env.scope.names.lookup x=some .local:=by rfl)(hy:X.env.scope.names.lookup y=some .local:=by rfl)
 (hw:swappedStores [.Tuple [.Name x px,.Name y py] kt pt] (.Tuple [a,b] k2 pt2) X.env=pure (some [x,y]):=by rfl)
 (hs:swapsWithSole [.Tuple [.Name x px,.Name y py] kt pt] (.Tuple [a,b] k2 pt2) pos.line X.env=pure false:=by rfl) :
  QS X (.Assign [.Tuple [.Name x px,.Name y py] kt pt] (.Tuple [a,b] k2 pt2) pos) (apo i j r):=(ai2 hc hN hi hj iP hx hy ha hw hs).imp λD σ H ⟨own,o,E,h,hr,L⟩=>⟨own,o,_,h,hr,λH1 vs ts q _ E1 r1=>by
 match ts,q with
 |[t,u],q =>
  obtain⟨v,w,rfl,rv,k9⟩:=r1.two;refine⟨v,w,rfl,?_⟩;obtain⟨ai,h',go⟩:=(h.same E1).setF rv (X0 i);obtain⟨bS,h2,S2⟩:=h'.putA (.refl _) (NR.fz (k9.same go.same)) j;exact L.nx bS H1 _ _ q ((bY E1).trans (go.same.trans S2)) h2⟩
def ix2{β:Type}{xs:List α}{ys:List β}{y:β}(l:xs.length=ys.length)(e:ixT ys j=some y):∃n x,ixN ys.length j=some n/\ys[n]?=some y/\xs[n]?=some x/\atI xs j=some x:=by
 rw[WT]at e;unfold atI at e ⊢;rw[l];cases z:ixN ys.length j with
 |none=>rw[z]at e;cases e
 |some n =>
  rw[z]at e;have hn:n<xs.length:=l ▸ (ao.mp e).1;exact⟨n,xs[n],rfl,e,aj hn,aj hn⟩
theorem K8{α:Type} : ∀{l:List α},l.Nodup->∀{i j:Nat}{x:α},l[i]?=some x->l[j]?=some x->i=j
 |[],_,_,_,_,e,_=>by cases e
 |y::l,nd,i,j,x,e1,e2=>by
  obtain⟨n1,n2⟩:=List.nodup_cons.mp nd;cases i with
  |zero =>
   cases j with
   |zero=>rfl
   |succ j=>cases e1;exact absurd (aC (by simpa using e2)) n1
  |succ i =>
   cases j with
   |zero=>cases e2;exact absurd (aC (by simpa using e1)) n1
   |succ j=>exact ZH (· + 1) (K8 n2 (by simpa using e1) (by simpa using e2))
def SR.l2{K:Frag}{own:Nat->Ψ}{H:Hp}{σ:L2.St}{o:ze}(h:SR K own H σ o){i:Nat}{ar:wq}(e:slot o i=.l2 ar):∃l bs,σ[i]?=some (some (.ref l))/\own i=l::bs/\(l::bs).Nodup/\H l=some (.lst (bs.map V.ref))/\bs.length=ar.length/\∀(i:Nat)b ts,bs[i]?=some b->ar[i]?=some ts->∃xs,H b=some (.lst xs)/\cg K (hd (Ow own) H) xs ts:=by
 obtain⟨u,e1,l,bs,e2,e3,nd,e4,ln,r⟩:=h.val e (by intro z;cases z);cases e2;exact⟨l,bs,e1,e3,nd,e4,ln,r⟩
def SR.chg2(h:SR K own H σ o){ar:wq}(e:slot o i=.l2 ar){l b:Addr}{bs:Ψ}{us:zh}(eσ:σ[i]?=some (some (.ref l)))(eo:own i=l::bs)(nd:(l::bs).Nodup)(e4:H l=some (.lst (bs.map V.ref)))(ln:bs.length=ar.length)(r:∀(i:Nat)b ts,bs[i]?=some b->ar[i]?=some ts->∃xs,H b=some (.lst xs)/\cg K (hd (Ow own) H) xs ts)(eb:bs[n]?=some b)(ry:cg K (hd (Ow own) H) ys us) :
  SR K own (upd H b (.lst ys)) σ (o.set i (.l2 (ar.set n us)))/\Same (hd (Ow own) H) (hd (Ow own) (upd H b (.lst ys))):=by
 have bm:=aC eb;obtain⟨nl,kL⟩:=List.nodup_cons.mp nd;refine h.chg (iC e (by intro z;cases z)) (λc u hc e=>(cB λz=>hc (by rw[eo,z];exact aJ _ bm)).trans e) ?_;rw[eσ,Gx ⟨i,by rw[eo];exact aJ _ bm⟩];refine⟨l,bs,rfl,eo,nd,(cB λ(z:l=b)=>nl (by rwa[z])).trans e4,by rw[VZ];exact ln,λk c ts e1 e2=>?_⟩;by_cases z:k=n
 .subst z;rw[eb]at e1;cases e1;rw[US (ln ▸ (ao.mp eb).1)]at e2;cases e2;exact⟨ys,cM,ry⟩
 .rw[UY (Ne.symm z)]at e2;obtain⟨xs,q,rx⟩:=r k c ts e1 e2;refine⟨xs,(cB λy=>?_).trans q,rx⟩;have h1:=(ao.mp e1).1;have h2:=(ao.mp eb).1;exact z (K8 kL e1 (by rw[eb,y]))
def Wr{bs:Ψ}{c:Addr}(e:atI bs j=some c):atI (bs.map V.ref) j=some (.ref c):=by
 have:atI (bs.map V.ref) j=(atI bs j).map V.ref:=by unfold atI;rw[ak];cases ixN bs.length j<;>simp
 rw[this,e];rfl
def agK(i:Nat)(a b:RE):RE:=λo q=>match slot o i with
 |.l2 ar=>a o λx=>(match frz x with|.int j=>∃ts,ixT ar j=some ts/\b o λy=>(match frz y with|.int m=>∃t,ixT ts m=some t/\q (.fz t)|_=>False)|_=>False)
 |_=>False
def afb(i:Nat)(ha:QE X a ra)(hb:QE X b rb)(hN:X.N[i]?=some x:=by rfl)(hv:rD X.env.scope x=true:=by rfl)(bt:qk x:=by decide)
 (a9:qf x:=by decide)(ko:tu a:=by exact λ_ _=>rfl)(hs:tu b:=by exact λ_ _=>rfl):QE X (.Subscript (.Subscript (.Name x p) a p2) b pos) (agK i ra rb):=(Oa Ao (Oa Ao (pv i hN hv bt a9) ha ko) hb hs).imp λσ H Q hP=>by
 obtain⟨own,o,R,h,hr,k⟩:=hP;unfold agK at hr;cases es:slot o i with
 |l2 ar =>
  rw[es]at hr;obtain⟨l,bs,e1,e3,nd,e4,ln,r⟩:=h.l2 es;refine⟨_,e1,tQ.mk h hr λH1 v x q E1 r1=>?_⟩
  revert r1 q
  generalize frz x=t;intro q r1;cases t<;>try exact q.elim
  cases r1;obtain⟨ts,ej,q⟩:=q;obtain⟨n,c,_,et,ec,ei⟩:=ix2 (xs:=bs) ln ej;obtain⟨xs,eq,rx⟩:=r n c ts ec et;refine⟨l,bs.map V.ref,_,.ref c,rfl,rfl,.of (E1 _ _ e4),?_,tQ.mk (h.same E1) q λH2 w y q E2 r2=>?_⟩
  .exact Wr ei
  .revert r2 q
   generalize frz y=t;intro q r2;cases t<;>try exact q.elim
   cases r2;obtain⟨t,em,q⟩:=q;obtain⟨z,e7,r7⟩:=rx.ix em;have bP:=E1.trans E2;exact⟨c,xs,_,z,rfl,rfl,.of (bP _ _ eq),e7,k H2 _ _ q bP (NR.fz (r7.same (bY bP)))⟩
 |_=>rw[es]at hr;exact hr.elim
def ag9(i:Nat)(a b:RE):RS:=λE o=>match slot o i with
 |.l2 ar=>a o λx=>(match frz x with|.int j=>∃n ts,ixN ar.length j=some n/\ar[n]?=some ts/\ts.length<sizeLine/\b o λy=>E.nx (o.set i (.l2 (ar.set n (ts++[frz y]))))|_=>False)
 |_=>False
def ix3{β:Type}{xs:List α}{ys:List β}{y:β}(l:xs.length=ys.length)(e:ixN ys.length j=some n)(ey:ys[n]?=some y):∃x,xs[n]?=some x/\atI xs j=some x:=by
 have hn:n<xs.length:=l ▸ (ao.mp ey).1;exact⟨xs[n],aj hn,by unfold atI;rw[l,e];exact aj hn⟩
def ae6(i:Nat)(ha:QE X a ra)(he:QE X e re)(hN:X.N[i]?=some x:=by rfl)(hv:rD X.env.scope x=true:=by rfl)(bt:qk x:=by decide)(a9:qf x:=by decide)(ko:tu a:=by exact λ_ _=>rfl)
 (hb:attributeBase (.Subscript (.Name x p) a p2) "append" X.env (eval (.Subscript (.Name x p) a p2) X.env)=eval (.Subscript (.Name x p) a p2) X.env:=by rfl)
 (hf:qr X af e:=by rfl)
 (hl:zz ah af:=by rfl)(b8:qo X e []:=by rfl)(hp:qh X af []:=by rfl)
 (hs:swapsWith (.Call (.Attribute (.Subscript (.Name x p) a p2) "append" ah) [e] [] af) none pos.line X.env=pure false:=by rfl) :
  QS X (.Expr (.Call (.Attribute (.Subscript (.Name x p) a p2) "append" ah) [e] [] af) pos) (ag9 i ra re):=(Bb (acu (Oa Ao (pv i hN hv bt a9) ha ko) (pL he QD b8) hb hf hl b8 hp) hs).imp λD σ H hP=>by
 obtain⟨own,o,E,h,hr,L⟩:=hP;unfold ag9 at hr;cases es:slot o i with
 |l2 ar =>
  rw[es]at hr;obtain⟨l,bs,e1,e3,nd,e4,ln,r⟩:=h.l2 es;refine⟨_,e1,tQ.mk h hr λH1 v x q E1 r1=>?_⟩
  revert r1 q
  generalize frz x=t;intro q r1;cases t<;>try exact q.elim
  cases r1;obtain⟨n,ts,en,et,sz,q⟩:=q;obtain⟨c,ec,ei⟩:=ix3 (xs:=bs) ln en et;obtain⟨xs,eq,rx⟩:=r n c ts ec et;refine⟨l,bs.map V.ref,_,.ref c,rfl,rfl,.of (E1 _ _ e4),Wr ei,c,xs,rfl,E1 _ _ eq,tQ.mk (h.same E1) q λH2 w y q E2 r2=>?_⟩;have bP:=E1.trans E2;refine⟨w,xs,rfl,bP _ _ eq,by rw[rx.len];exact sz,?_⟩;obtain⟨h',S⟩:=(h.same bP).chg2 es e1 e3 nd (bP _ _ e4) ln (λi b ts a c=>let⟨xs,p,q⟩:=r i b ts a c;⟨xs,bP _ _ p,q.same (bY bP)⟩) ec ((rx.same (bY bP)).app (.cons r2 .nil));exact L.nx own _ σ _ q ((bY bP).trans S) h'
 |_=>rw[es]at hr;exact hr.elim
def agR(i:Nat)(c a b:RE):RS:=λE o=>match slot o i with
 |.l2 ar=>c o λy=>a o λx=>(match frz x with|.int j=>∃n ts,ixN ar.length j=some n/\ar[n]?=some ts/\b o λz=>(match frz z with|.int m=>∃k,ixN ts.length m=some k/\E.nx (o.set i (.l2 (ar.set n (ts.set k (frz y)))))|_=>False)|_=>False)
 |_=>False
def afR(i:Nat)(he:QE X e re)(ha:QE X a ra)(hk:QE X b rb)(hN:X.N[i]?=some x:=by rfl)(hv:rD X.env.scope x=true:=by rfl)(bt:qk x:=by decide)(a9:qf x:=by decide)(ko:tu a:=by exact λ_ _=>rfl)
 (hq:∀v,assign (.Subscript (.Subscript (.Name x p) a p2) b aw) X.env v=(do
   let ov <- holding [v] (eval (.Subscript (.Name x p) a p2) X.env)
   let iv <- holding [v,ov] (eval b X.env)
   standAt aw
   holding [v,ov,iv] (setItem ov iv v)
   release [v,ov,iv] []):=by intro _;rfl)
 (hs:swapsWithSole [.Subscript (.Subscript (.Name x p) a p2) b aw] e pos.line X.env=pure false:=by rfl)(hw:swappedStores [.Subscript (.Subscript (.Name x p) a p2) b aw] e X.env=pure none:=by rfl)
 (h1:(assignEach [.Subscript (.Subscript (.Name x p) a p2) b aw] X.env).map (·.2)=[assign (.Subscript (.Subscript (.Name x p) a p2) b aw) X.env]:=by rfl):QS X (.Assign [.Subscript (.Subscript (.Name x p) a p2) b aw] e pos) (agR i re ra rb):=(Wx he (adl (Oa Ao (pv i hN hv bt a9) ha ko) hk set_list hq) hs hw h1).imp λD σ H hP=>by
 obtain⟨own,o,E,h,hr,L⟩:=hP;unfold agR at hr;cases es:slot o i with
 |l2 ar =>
  rw[es]at hr;obtain⟨l,bs,e1,e3,nd,e4,ln,r⟩:=h.l2 es;refine tQ.mk h hr λH0 v0 y q E0' r0=>⟨_,e1,tQ.mk (h.same E0') q λH1 v x q E1 r1=>?_⟩
  revert r1 q
  generalize frz x=t;intro q r1;cases t<;>try exact q.elim
  cases r1;obtain⟨n,ts,en,et,q⟩:=q;obtain⟨c,ec,ei⟩:=ix3 (xs:=bs) ln en et;obtain⟨xs,eq,rx⟩:=r n c ts ec et;have E01:=E0'.trans E1;refine⟨l,bs.map V.ref,_,.ref c,rfl,rfl,.of (E01 _ _ e4),Wr ei,tQ.mk (h.same E01) q λH2 w z q E2 r2=>?_⟩
  revert r2 q
  generalize frz z=t;intro q r2;cases t<;>try exact q.elim
  cases r2;obtain⟨k,ek,q⟩:=q;have bP:=E01.trans E2;refine⟨c,xs,_,k,rfl,rfl,bP _ _ eq,by rw[rx.len];exact ek,?_⟩;obtain⟨h',S⟩:=(h.same bP).chg2 es e1 e3 nd (bP _ _ e4) ln (λi b ts a c=>let⟨xs,p,q⟩:=r i b ts a c;⟨xs,bP _ _ p,q.same (bY bP)⟩) ec (cg.set (r0.same (bY (E1.trans E2))) k (rx.same (bY bP)));exact L.nx own _ σ _ q ((bY bP).trans S) h'
 |_=>rw[es]at hr;exact hr.elim
def aqg:qA
 |.str i,.str j,q=>q (.fz (.bl (!decide (j.cps.toList<i.cps.toList))))
 |_,_,_=>False
def adJ:GO X (compareOp .LtE) aqg:=ahH.imp λx y H Q hP=>by
 obtain⟨S,t,u,R,_,hx,hy,hg,k⟩:=hP;cases hx<;>try exact hg.elim
 cases hy<;>try exact hg.elim
 exact⟨_,_,rfl,rfl,k H _ _ hg (.refl _) (NR.fz (.bl _))⟩
def aeG:GC X (.builtin "len") (g1 apA):=.one Pg λS t x H Q R rx hg k=>by
 cases t<;>try exact hg.elim
 cases rx;exact⟨_,rfl,hg.1,k H _ _ hg.2 (.refl _) (NR.fz (.int _))⟩
def apK(a:RE):RI:=λo q=>a o λx=>match frz x with|.str s=>q (s.cps.toList.map λc=>.str ⟨#[c]⟩)|_=>False
def aiU(he:QE X e re):QI X tg e (apK re):=(aik he).imp λσ H Q ⟨own,o,R,h,hr,k⟩=>tQ.mk h hr λH1 v x q E1 r1=>by
 revert r1 q
 generalize frz x=t;intro q r1;cases t<;>try exact q.elim
 cases r1;refine⟨_,rfl,k H1 _ _ q E1 λS H2 i _ SF=>⟨λhi=>show i=_ by simpa using hi,λt ht=>?_⟩⟩;rw[aq]at ht;cases z:(‹Str›.cps.toList)[i]? with
 |none=>rw[z]at ht;cases ht
 |some c =>
  rw[z]at ht;cases ht;refine⟨show i<_ by simpa using(ao.mp z).1,?_⟩;rintro x H3 ⟨rfl,c',e',rfl⟩;rw[<- Array.getElem?_toList,z]at e';cases e';exact⟨.refl _,.str _⟩
abbrev HG:=qS
variable{e:RE}{b:RS}{g:HG}{c:RT}{ks:xh}
theorem ZF(h:α->T)(l:List α)(J:List α->ze->Prop)(st:∀as a bs o,l=as++a::bs->J as o->g (h a) o λo'=>b { E with nx:=J (as++[a]),ct:=J (as++[a]),bk:=E.nx } o')(fin:∀o,J l o->E.nx o):∀(bs as:List α)(o:ze),l=as++bs->J as o->xH g b E (bs.map h) o
 |[],as,o,e,j=>fin o (by rw[List.append_nil]at e;rwa[e])
 |a::bs,as,o,e,j=>⟨J (as++[a]),λo k=>ZF h l J st fin bs (as++[a]) o (by rw[e];simp) k,st as a bs o e j⟩
def dW(h:α->T)(l:List α)(J:List α->ze->Prop)(j:J [] o)(st:∀as a bs o,l=as++a::bs->J as o->g (h a) o λo'=>b { E with nx:=J (as++[a]),ct:=J (as++[a]),bk:=E.nx } o')(fin:∀o,J l o->E.nx o):xH g b E (l.map h) o:=ZF h l J st fin l [] o rfl j
theorem Dt(J:Nat->ze->Prop):∀(xs:zh)(k:Nat){o:ze},J k o->(∀i t o,xs[i]?=some t->J (k+i) o->g t o λo'=>b { E with nx:=J (k+i+1),ct:=J (k+i+1),bk:=E.nx } o')->(∀o,J (k+xs.length) o->E.nx o)->xH g b E xs o
 |[],_,o,j,_,fin=>fin o j
 |t::ts,k,o,j,st,fin=>⟨J (k+1),λo z=>Dt J ts (k+1) z (λi t o e z=>by
   have:=st (i+1) t o (by simpa using e) (by rw[show k+(i+1)=k+1+i by lia];exact z);rw[show k+(i+1)+1=k+1+i+1 by lia]at this;exact this) (λo z=>fin o (by rw[List.length_cons,show k+(ts.length+1)=k+1+ts.length by lia];exact z)),st 0 t o rfl j⟩
def lX(J:Nat->ze->Prop)(j:J 0 o)(st:∀k o,k<n->J k o->g (.int (k:Nat)) o λo'=>b { E with nx:=J (k+1),ct:=J (k+1),bk:=E.nx } o')(fin:∀o,J n o->E.nx o):xH g b E (rng 0 n) o:=by
 refine Dt J (rng 0 n) 0 j (λi t o e z=>?_) λo z=>fin o (by rw[rng,ak,WP,U1]at z;exact z);unfold rng at e;rw[aq]at e;by_cases hi:i<n
 .rw[VX hi]at e;cases e;rw[U1]at z ⊢;have:=st i o hi z;show g (.int (0+((i:Nat):Int))) o _;rw[show(0:Int)+((i:Nat):Int)=((i:Nat):Int)by exact Int.zero_add _];exact this
 .rw[aM (by simpa using hi)]at e;cases e
def qm(h:α->T)(l:List α)(J:Nat->ze->Prop)(j:J 0 o)(st:∀k a o,l[k]?=some a->J k o->g (.tup [.int (k:Nat),h a]) o λo'=>b { E with nx:=J (k+1),ct:=J (k+1),bk:=E.nx } o')(fin:∀o,J l.length o->E.nx o):xH g b E (tD (l.map h)) o:=by
 refine Dt J (tD (l.map h)) 0 j (λi t o e z=>?_) λo z=>fin o (by rw[tD,ak,U2,ak,U1]at z;exact z);unfold tD at e;rw[aq]at e;by_cases hi:i<l.length
 .rw[aj (by simpa using hi),Q2,VW]at e;cases e;rw[U1]at z ⊢;have:=st i _ o (aj hi) z;exact this
 .rw[aM (by simpa using hi)]at e;cases e
theorem comp_map(h:α->T)(f:α->T):∀(l:List α){q:zh->Prop},(∀a∈l,∀(N:T->Prop)(M:Prop),N (f a)->g (h a) o λo'=>c o' λb=>sw b (e o' λy=>N (frz y)) M)->q (l.map f)->ig g c e o (l.map h) q
 |[],_,_,k=>k
 |a::l,q,st,k=>⟨λy=>y=f a,False,λy z=>comp_map h f l (λa ha=>st a (aJ _ ha)) (z ▸ k),False.elim,st a (aO ..) (λy=>y=f a) False rfl⟩
theorem jC(h:α->T)(p:α->Bool)(f:α->T):∀(l:List α){q:zh->Prop},(∀a∈l,∀(N:T->Prop)(M:Prop),(p a=true->N (f a))->(p a=false->M)->g (h a) o λo'=>c o' λb=>sw b (e o' λy=>N (frz y)) M)->q ((l.filter p).map f)->ig g c e o (l.map h) q
 |[],_,_,k=>k
 |a::l,q,st,k=>⟨λy=>y=f a/\p a=true,p a=false,λy z=>jC h p f l (λa ha=>st a (aJ _ ha)) (by rw[List.filter_cons_of_pos z.2]at k;exact z.1 ▸ k),λz=>jC h p f l (λa ha=>st a (aJ _ ha)) (by rw[List.filter_cons_of_neg (by rw[z];decide)]at k;exact k),st a (aO ..) (λy=>y=f a/\p a=true) (p a=false) (λz=>⟨rfl,z⟩) id⟩
inductive adF(R:α->T->Prop):List α->zh->Prop
 |nil:adF R [] []
 |cons {a:α}{t:T}{l:List α}{ts:zh} : R a t->adF R l ts->adF R (a::l) (t::ts)
theorem Li(h:α->T)(R:α->T->Prop):∀(l:List α){q:zh->Prop},(∀a∈l,∀(N:T->Prop)(M:Prop),(∀t,R a t->N t)->g (h a) o λo'=>c o' λb=>sw b (e o' λy=>N (frz y)) M)->(∀ts,adF R l ts->q ts)->ig g c e o (l.map h) q
 |[],_,_,k=>k [] .nil
 |a::l,q,st,k=>⟨R a,False,λy z=>Li h R l (λa ha=>st a (aJ _ ha)) λts t=>k _ (.cons z t),False.elim,st a (aO ..) (R a) False λ_ z=>z⟩
def Ju(f:Nat->T)(n:Nat)(st:∀k,k<n->∀(N:T->Prop)(M:Prop),N (f k)->g (.int (k:Nat)) o λo'=>c o' λb=>sw b (e o' λy=>N (frz y)) M)(k:q ((List.range n).map f)):ig g c e o (rng 0 n) q:=by
 refine comp_map (λk:Nat=>.int (0+k)) f (List.range n) (λa ha N M hN=>?_) k;have:=st a (List.mem_range.mp ha) N M hN;show g (.int (0+((a:Nat):Int))) o _;rw[show(0:Int)+((a:Nat):Int)=((a:Nat):Int)by exact Int.zero_add _];exact this
def zip_map{α β:Type}(h:α->T)(k:β->T)(xs:List α)(ys:List β):B_ (xs.map h) (ys.map k)=(xs.zip ys).map λp=>.tup [h p.1,k p.2]:=by
 unfold B_;rw[List.zip_map,WU]
 rfl
def K1(h:α->T)(xs:List α):tD (xs.map h)=xs.zipIdx.map λp=>.tup [.int (p.2:Nat),h p.1]:=by
 unfold tD;rw[List.zipIdx_map,WU]
 rfl
def JH(ks:xh)(j:Key):Bool:=ks.any λk=>decide (k=j)
def kpK(ks:xh)(j:Key):xh:=if JH ks j=true then ks else ks++[j]
def kpT(ks:xh)(ts:List α)(j:Key)(t:α):List α:=if JH ks j=true then ks.zipWith (λk x=>if k=j then t else x) ts else ts++[t]
def abP{j:Key}(l:ks.length=xs.length):putK (ks.zip xs) j v=(kpK ks j).zip (kpT ks xs j v)/\(kpK ks j).length=(kpT ks xs j v).length:=by
 have any:∀{ks:xh}{xs:Ζ},ks.length=xs.length->((ks.zip xs).any λkv=>decide (kv.1=j))=JH ks j:=λ{ks}=>by
  induction ks with
  |nil=>intro xs _;rfl
  |cons k ks ih =>
   intro xs l;cases xs with
   |nil=>cases l
   |cons x xs=>rw[List.zip_cons_cons,List.any_cons,ih (Nat.succ.inj l)];rfl
 unfold putK kpK kpT;rw[any l];by_cases h:JH ks j=true
 .rw[ZY h,ZY h,ZY h];refine⟨?_,by rw[JY,l,Up]⟩
  clear any h
  induction ks generalizing xs with
  |nil=>rfl
  |cons k ks ih =>
   cases xs with
   |nil=>cases l
   |cons x xs =>
    rw[List.zip_cons_cons,List.map_cons,ih (Nat.succ.inj l),List.zipWith_cons_cons,List.zip_cons_cons];by_cases h:k=j
    .rw[ZY h,ZY h]
    .rw[ZZ h,ZZ h]
 .rw[ZZ h,ZZ h,ZZ h];exact⟨by rw[List.zip_append l];rfl,by simp[l]⟩
def cg.kp{F:Hp}{j:Key}(r:Rep K F v t)(h:cg K F xs ts):cg K F (kpT ks xs j v) (kpT ks ts j t):=by
 unfold kpT;by_cases z:JH ks j=true
 .rw[ZY z,ZY z]
  clear z
  induction ks generalizing xs ts with
  |nil=>exact .nil
  |cons k ks ih =>
   cases h with
   |nil=>exact .nil
   |cons a b =>
    rw[List.zipWith_cons_cons,List.zipWith_cons_cons];refine .cons ?_ (ih b);by_cases y:k=j
    .rw[ZY y,ZY y];exact r
    .rw[ZZ y,ZZ y];exact a
 .rw[ZZ z,ZZ z];exact h.app (.cons r .nil)
def agY(i:Nat)(a b:RE):RS:=λE o=>match slot o i with|.d1 ks ts=>a o λy=>b o λk=>∃j,Z5 (frz k)=some j/\ks.length<sizeLine/\E.nx (o.set i (.d1 (kpK ks j) (kpT ks ts j (frz y))))|_=>False
def SR.d1{K:Frag}{own:Nat->Ψ}{H:Hp}{σ:L2.St}{o:ze}(h:SR K own H σ o){i:Nat}{ks:xh}{ts:zh}(e:slot o i=.d1 ks ts):∃l xs,σ[i]?=some (some (.ref l))/\own i=[l]/\H l=some (.dK (ks.zip xs))/\ks.length=xs.length/\cg K (hd (Ow own) H) xs ts:=by
 obtain⟨u,e1,l,xs,e2,e3,e4,r⟩:=h.val e (by intro z;cases z);cases e2;exact⟨l,xs,e1,e3,e4,r⟩
variable{e b:Expr}{g:qS}{as:Ψ}
def Jp(i:Nat)(hu:X.A.units+1<cLine)(he:QE X e re)(hb:QE X b rb)(hN:X.N[i]?=some x:=by rfl)(hv:rD X.env.scope x=true:=by rfl)(bt:qk x:=by decide)(a9:qf x:=by decide)
 (hs:swapsWith e (some (.Subscript (.Name x p) b aw)) pos.line X.env=pure false:=by rfl):QS X (.Assign [.Subscript (.Name x p) b aw] e pos) (agY i re rb):=(agj hu (pv i hN hv bt a9) hb he hs).imp λD σ H hP=>by
 obtain⟨own,o,E,h,hr,L⟩:=hP;unfold agY at hr;cases es:slot o i with
 |d1 ks ts =>
  rw[es]at hr;obtain⟨l,xs,e1,e3,e4,ln,r⟩:=h.d1 es;refine tQ.mk h hr λH1 v y q E1 r1=>⟨_,e1,tQ.mk (h.same E1) q λH2 w z q E2 r2=>?_⟩;obtain⟨j,ek,sz,q⟩:=q;have bP:=E1.trans E2;cases TQ r2 ek;obtain⟨pk,pl⟩:=abP (j:=j) (v:=v) ln;have lz:(ks.zip xs).length<sizeLine:=by rw[WH,<- ln,Up];exact sz
  refine⟨l,_,rfl,.inl ⟨_,j,bP _ _ e4,rfl,lz,rfl⟩,?_⟩;rw[pk];obtain⟨h',S⟩:=(h.same bP).chg (iC es (by intro z;cases z)) (y:=.d1 (kpK ks j) (kpT ks ts j (frz y))) (H':=upd H2 l (.dK ((kpK ks j).zip (kpT ks xs j v)))) (λb u hb e=>(cB λz=>hb (by rw[e3,z];simp)).trans e) (by
   rw[e1,Gx ⟨i,by rw[e3];simp⟩];exact⟨l,_,rfl,e3,cM,pl,cg.kp (r1.same (bY E2)) (r.same (bY bP))⟩)
  exact L.nx own _ σ _ q ((bY bP).trans S) h'
 |_=>rw[es]at hr;exact hr.elim
def agZ(i:Nat)(a b:RE):RE:=λo q=>match slot o i with|.d1 ks ts=>a o λy=>b o λz=>∃j,Z5 (frz y)=some j/\q (.fz ((oN ks ts j).getD (frz z)))|_=>False
def ZM(i:Nat)(hu:X.A.units+1<cLine)(ha:QE X a ra)(hb:QE X b rb)(m:M2 X (.Name x p) "get" ah a b af:=by first|exact⟨rfl,rfl,rfl,rfl⟩|constructor<;>rfl)(hN:X.N[i]?=some x:=by rfl)(hv:rD X.env.scope x=true:=by rfl)(bt:qk x:=by decide)(a9:qf x:=by decide) :
  QE X (.Call (.Attribute (.Name x p) "get" ah) [a,b] [] af) (agZ i ra rb):=(abT hu (pv i hN hv bt a9) ha hb m).imp λσ H Q hP=>by
 obtain⟨own,o,R,h,hr,k⟩:=hP;unfold agZ at hr;cases es:slot o i with
 |d1 ks ts =>
  rw[es]at hr;obtain⟨l,xs,e1,e3,e4,ln,r⟩:=h.d1 es;refine⟨_,e1,l,rfl,.inl ⟨_,.inl e4⟩,tQ.mk h hr λH1 v y q E1 r1=>tQ.mk (h.same E1) q λH2 w z q E2 r2=>?_⟩;obtain⟨j,ek,q⟩:=q;have bP:=E1.trans E2;cases TQ r1 ek;refine⟨_,GF.k (bP _ _ e4),?_⟩;have r:=r.same (bY bP);cases z1:oN ks ts j with
  |none =>
   rw[z1]at q;rw[(Gh r).2 z1];exact k H2 _ _ q bP (NR.fz r2)
  |some t =>
   rw[z1]at q;obtain⟨u,e5,r5⟩:=(Gh r).1 t z1;rw[e5];exact k H2 _ _ q bP (NR.fz r5)
 |_=>rw[es]at hr;exact hr.elim
def kT:Key->T
 |.inl i=>.int i
 |.inr s=>.str s
def ZP(f:xh->zh->zh)(i n:Nat)(g:qS)(c:RT)(e:RE):RS:=λE o=>match slot o i with
 |.d1 ks ts=>ks.length<=sizeLine/\ig g c e (List.replicate n .und++o.set i (.fz (.dct ks ts))) (f ks ts) λus=>E.rt (.l1 us)
 |_=>False
def iW(J:Addr->Obj->xi->It)(te:TE):TI:=λσ H R=>te σ H λx H1=>∃a kvs,x=.ref a/\H1 a=some (.dK kvs)/\∀o,R (J a o kvs) (upd H1 a (.frz o (.dK kvs)))
abbrev al5:=ZP λks _=>ks.map kT
abbrev akU:=ZP λks ts=>(ks.zip ts).map λp=>.tup [kT p.1,p.2]
def afn{a:Addr}{ob:Obj}{F:Hp}(l:ks.length=xs.length)(e:F a=some (.frz ob (.dK (ks.zip xs)))):Wlk K (Itk a ob (ks.zip xs)) F (ks.map kT):=λS H i _ SF=>by
 have eH:=(cH (SF _ _ e)).2;have lz:(ks.zip xs).length=ks.length:=by rw[WH,<- l,Up]
 refine⟨λhi=>⟨eH,by rw[lz];simpa using hi⟩,λt ht=>?_⟩;rw[aq]at ht;cases z:ks[i]? with
 |none=>rw[z]at ht;cases ht
 |some k =>
  rw[z]at ht;cases ht;have hi:=(ao.mp z).1;refine⟨⟨eH,by rwa[lz]⟩,?_⟩;rintro x H' ⟨rfl,k',y,e1,rfl⟩;rw[aj (by rwa[lz]),TW]at e1;rw[aj hi]at z;cases z;cases e1;refine⟨.refl _,?_⟩;cases ks[i]with
  |inl j=>exact .int _
  |inr s=>exact .str _
def aeD{a:Addr}{ob:Obj}{F:Hp}(l:ks.length=xs.length)(e:F a=some (.frz ob (.dK (ks.zip xs))))(r:cg K F xs ts):Wlk K (Itp a ob (ks.zip xs)) F ((ks.zip ts).map λp=>.tup [kT p.1,p.2]):=λS H i hs SF=>by
 have eH:=(cH (SF _ _ e)).2;have lt:=r.len;have lz:(ks.zip xs).length=ks.length:=by rw[WH,<- l,Up]
 have lz':(ks.zip ts).length=ks.length:=by rw[WH,<- lt,<- l,Up]
 refine⟨λhi=>⟨eH,by rw[ak,lz']at hi;rwa[lz]⟩,λt ht=>?_⟩;rw[aq]at ht;cases z:(ks.zip ts)[i]? with
 |none=>rw[z]at ht;cases ht
 |some q =>
  rw[z]at ht;cases ht;obtain⟨hi,z⟩:=ao.mp z;rw[TW]at z;subst z;rw[lz']at hi;obtain⟨y,ey,ry⟩:=r.at_ (aj (show i<ts.length by lia));refine⟨⟨eH,by rwa[lz]⟩,?_⟩;rintro x H' ⟨k',y',t,e1,n,rfl,rfl⟩;rw[aj (by rwa[lz]),TW]at e1;rw[aj (aR hi (WJ l))]at ey;cases ey;cases e1;refine⟨Same.upd n,.tup (.of (RV n hs)) (.cons ?_ (.cons (ry.same (SF.trans (bY (Same.upd n)))) .nil))⟩;cases ks[i]with
  |inl j=>exact .int _
  |inr s=>exact .str _
def Y0{J:Addr->Obj->xi->It}{f:xh->zh->zh}(i:Nat)(pi:PI X tg iter (iW J (ahA i)))(wk:∀{a ob ks xs ts F},ks.length=xs.length->F a=some (.frz ob (.dK (ks.zip xs)))->cg X.K F xs ts->Wlk X.K (J a ob (ks.zip xs)) F (f ks ts)/\(f ks ts).length=ks.length)(sc:Scope)(N N' xs:Φ)(hg:∀{C s₀ H₀ ex pn},QG (X.compG N' scope xs C s₀ H₀ ex pn) xs.length tg g)(ht:∀{C s₀ H₀ ex pn},QTs (X.compG N' scope xs C s₀ H₀ ex pn) ay rc)(he:∀{C s₀ H₀ ex pn},QE (X.compG N' scope xs C s₀ H₀ ex pn) aS re)
 (b9:X.env.scope=sc:=by rfl)(ck:X.N=N:=by rfl)(hc:X.calm=true:=by rfl)(hk:scope.kind=.function:=by rfl)(h:CK sc scope N N' xs:=by decide +kernel)(hs:qV X iter) :
  QS X (.Return (some (.ListComp aS [⟨tg,iter,ay,0⟩] scope af)) pos) (ZP f i xs.length g rc re):=(WM (adx (gt:=tQG X.K xs.length g) (tc:=tQT X.K rc) (te:=tQ X.K re) sc N N' xs pi hg ht he b9 ck hc hk h hs)).imp λD σ H hP=>by
 obtain⟨own,o,E,h,hr,L⟩:=hP;unfold ZP at hr;cases es:slot o i with
 |d1 ks ts =>
  rw[es]at hr;obtain⟨l,ys,e1,e3,e4,ln,r⟩:=h.d1 es;refine⟨_,e1,l,_,rfl,e4,λob DD nD=>?_⟩;have eo:∀b,Ow (own1 own i []) b->Ow own b/\b≠l:=λb hP=>by
   obtain⟨j,z⟩:=hP;by_cases y:j=i
   .rw[y,jV]at z;cases z
   .rw[fX y]at z;exact⟨⟨j,z⟩,λw=>y (h.dis j i b z (by rw[e3,w];simp))⟩
  have nl:¬Ow (own1 own i []) l:=λz=>(eo l z).2 rfl;have ol:Ow own l:=⟨i,by rw[e3];simp⟩;have S1:Same (hd (Ow own) H) (hd (Ow (own1 own i [])) (upd H l (.frz ob (.dK (ks.zip ys))))):=λb u e=>by
   obtain⟨n,e⟩:=cH e;rw[cX λz=>n (eo b z).1,cB λ(z:b=l)=>n (z.symm ▸ ol)];exact e
  have h1:SR X.K (own1 own i []) (upd H l (.frz ob (.dK (ks.zip ys)))) σ (o.set i (.fz (.dct ks ts))):=by
   have hi:i<o.length:=(ao.mp (iC es (by intro z;cases z))).1;refine⟨by rw[VZ,h.len],λj y e'=>?_,λj hj a ha=>?_,λj k a z1 z2=>?_⟩
   .by_cases z:j=i
    .subst z;rw[US hi]at e';cases e';rw[jV,e1];exact⟨rfl,_,rfl,.dct (.inr ⟨ob,by rw[cX nl];exact cM⟩) ln (r.same S1)⟩
    .rw[UY (Ne.symm z)]at e';rw[fX z];exact((h.sl j y e').same S1 (.refl _)).off λb hb u e=>(cB λw=>z (h.dis j i b hb (by rw[e3,w];simp))).trans e
   .rw[VZ]at hj;rw[fX wv]at ha;obtain⟨xs,e⟩:=h.out j hj a ha;exact⟨xs,(cB λw=>by have:=h.dis j i a ha (by rw[e3,w];simp);lia).trans e⟩
   .by_cases z:j=i
    .rw[z,jV]at z1;cases z1
    by_cases y:k=i
    .rw[y,jV]at z2;cases z2
    .rw[fX z]at z1;rw[fX y]at z2;exact h.dis j k a z1 z2
  have L1:=L.step S1;obtain⟨wk,wl⟩:=wk ln (by rw[cX nl];exact cM) (r.same S1);refine VB h1 wk (by rw[wl];exact hr.1) hr.2 nD λH' v y rx E n=>?_;obtain⟨B,nb,s⟩:=n;exact L1.rt _ H' v y B rx (jd (λb z=>z.imp id (nb b)) E) s λa ha=>.inr ha
 |_=>rw[es]at hr;exact hr.elim
def afk(i:Nat)(sc:Scope)(N N' xs:Φ)(hg:∀{C s₀ H₀ ex pn},QG (X.compG N' scope xs C s₀ H₀ ex pn) xs.length tg g)(ht:∀{C s₀ H₀ ex pn},QTs (X.compG N' scope xs C s₀ H₀ ex pn) ay rc)(he:∀{C s₀ H₀ ex pn},QE (X.compG N' scope xs C s₀ H₀ ex pn) aS re)
 (hN:X.N[i]?=some x:=by rfl)(hv:rD X.env.scope x=true:=by rfl)(bt:qk x:=by decide)(a9:qf x:=by decide)
 (b9:X.env.scope=sc:=by rfl)(ck:X.N=N:=by rfl)(hc:X.calm=true:=by rfl)(hk:scope.kind=.function:=by rfl)(h:CK sc scope N N' xs:=by decide +kernel)(hs:∀z,foldedSetIterable (.Name x p) X.env z=pure z:=by intro _;rfl) :
  QS X (.Return (some (.ListComp aS [⟨tg,.Name x p,ay,0⟩] scope af)) pos) (al5 i xs.length g rc re):=Y0 i (ae2 (tg:=tg) (pv i hN hv bt a9)) (λl e _=>⟨afn l e,by rw[ak]⟩) sc N N' xs hg ht he b9 ck hc hk h hs
def aeT{ie:Pos}{x1}(i:Nat)(sc:Scope)(N N' xs:Φ)(hg:∀{C s₀ H₀ ex pn},QG (X.compG N' scope xs C s₀ H₀ ex pn) xs.length (.Tuple aE x1 aw) g)(ht:∀{C s₀ H₀ ex pn},QTs (X.compG N' scope xs C s₀ H₀ ex pn) ay rc)(he:∀{C s₀ H₀ ex pn},QE (X.compG N' scope xs C s₀ H₀ ex pn) aS re)
 (hN:X.N[i]?=some x:=by rfl)(hv:rD X.env.scope x=true:=by rfl)(bt:qk x:=by decide)(a9:qf x:=by decide)(hb:attributeBase (.Name x p) "items" X.env (eval (.Name x p) X.env)=eval (.Name x p) X.env:=by rfl)(hn:zz ah ie:=by rfl)
 (b9:X.env.scope=sc:=by rfl)(ck:X.N=N:=by rfl)(hc:X.calm=true:=by rfl)(hk:scope.kind=.function:=by rfl)(h:CK sc scope N N' xs:=by decide +kernel)(hs:∀z,foldedSetIterable (.Call (.Attribute (.Name x p) "items" ah) [] [] ie) X.env z=pure z:=by intro _;rfl) :
  QS X (.Return (some (.ListComp aS [⟨.Tuple aE x1 aw,.Call (.Attribute (.Name x p) "items" ah) [] [] ie,ay,0⟩] scope af)) pos) (akU i xs.length g rc re):=Y0 i (adn (pv i hN hv bt a9) hb hn) (λl e r=>⟨aeD l e r,by rw[ak,WH,l,r.len,Up]⟩) sc N N' xs hg ht he b9 ck hc hk h hs
def ai3(K:Frag)(as:Ψ)(H:Hp)(ar:wq):Prop:=ar.length=as.length/\∀(j:Nat)a ts,as[j]?=some a->ar[j]?=some ts->∃xs,H a=some (.lst xs)/\cg K (hd (· ∈ as) H) xs ts
abbrev SO:=wq->zh->(wq->Prop)->Prop
def spO(K:Frag)(S:SO):Sp:=λvs H Q _=>∃(as:Ψ)(ar:wq)(us:Ζ)(ts:zh)(R:wq->Prop),vs=as.map V.ref++us/\as.Nodup/\ai3 K as H ar/\cg K (hd (· ∈ as) H) us ts/\S ar ts R /\
 ∀H' bg,R bg->Same (hd (· ∈ as) H) (hd (· ∈ as) H')->ai3 K as H' bg->Q .non H'
def ownL(as:Ψ)(i:Nat):Ψ:=match as[i]? with|some a=>[a]|none=>[]
def Jg{b:Addr}(h:b∈ownL as i):as[i]?=some b:=by
 unfold ownL at h;cases e:as[i]? with
 |none=>rw[e]at h;cases h
 |some a=>rw[e]at h;cases YR.mp h;rfl
def Zr{b:Addr}(h:as[i]?=some b):ownL as i=[b]:=by unfold ownL;rw[h]
def Ow.ownL(as:Ψ):Ow (L2.ownL as)=(· ∈ as):=funext λb=>propext ⟨λ⟨i,z⟩=>aC (Jg z),λz=>by
 obtain⟨i,e⟩:=aV z;exact⟨i,by rw[Zr e];simp⟩⟩
def startO(n:Nat)(as:Ψ)(ar:wq)(ts:zh):ze:=List.zipWith OT.la as ar++start' (n-as.length) ts
def SR.startO{H:Hp}{as:Ψ}{ar:wq}{us:Ζ}{ts:zh}(nd:as.Nodup)(h:ai3 K as H ar)(r:cg K (hd (· ∈ as) H) us ts)(N:Φ)(hN:as.length+us.length<=N.length):SR K (ownL as) H (L2.start N (as.map V.ref++us)) (L2.startO N.length as ar ts):=by
 have zl:(List.zipWith OT.la as ar).length=as.length:=by rw[JY,h.1,Up]
 refine⟨?_,λi x e=>?_,λi hi b hb=>?_,λi j b e1 e2=>K8 nd (Jg e1) (Jg e2)⟩
 .unfold L2.startO start' L2.start;have:=r.len;simp only[aA,ak,aN,zl];lia
 .rw[Ow.ownL];unfold L2.startO at e;unfold L2.start;by_cases hi:i<as.length
  .rw[aF (by rwa[zl]),List.getElem?_zipWith]at e;have ea:=aj hi;have et:=aj (l:=ar) (by rwa[h.1]);rw[ea,et]at e;cases e;rw[Zr ea,aF (by simp;exact WV _ hi),aq,aF (by simpa using hi),aq,ea];obtain⟨xs,q,rx⟩:=h.2 i _ _ ea et;exact⟨xs,rfl,rfl,q,rx⟩
  .have on:ownL as i=[]:=by unfold ownL;rw[aM (Nat.not_lt.mp hi)]
   rw[on];rw[aD (by rw[zl];exact Nat.not_lt.mp hi),zl]at e;unfold start' at e;by_cases hj:i-as.length<ts.length
   .rw[aF (by simpa using hj),aq,aj hj]at e;cases e;obtain⟨v,e1,r1⟩:=r.at_ (aj hj);have:=r.len;rw[aF (by simp;lia),aq,aD (by simpa using Nat.not_lt.mp hi),ak,e1];exact⟨rfl,v,rfl,r1⟩
   .rw[aD (by simpa using hj),ak,XG]at e;split at e
    .cases e;rfl
    .cases e
 .unfold L2.startO at hi;rw[aA,zl]at hi;have:=(ao.mp (Jg hb)).1;lia
theorem slot_of:∀{o:ze}{i:Nat}{x:OT},o[i]?=some x->slot o i=x
 |[],_,_,e=>by cases e
 |_::_,0,_,e=>by cases e;rfl
 |_::l,i+1,x,e=>slot_of (o:=l) (by simpa using e)
variable{S:SO}{p1:Pos}
def Fun.okO{am:Str}{f:Addr}{N:Φ}(F:Fun K x am st f fd)(sc:bL N ps (bH st))(len:∀ar ts R,S ar ts R->ar.length+ts.length=ps.length)(hn:ps.length<=N.length)
 (ci:∀(ag:Value)(A:Around)(outer:xt)(s:Shared)(H:Hp)(E:XK),eY k (A.deeper (envOfC am (bH st) s.heap.objs.size f ag))->N.Nodup ->
   ∃r,QSs (Qn CX0 P w K mg base N am (bH st) f ag A outer s H E).nox (gk st) r/\∀as ar ts R,ar.length=as.length->S ar ts R->r { nx:=λo=>∃bg,(∀j,slot o j=slot (List.zipWith OT.la as bg) j\/as.length<=j)/\bg.length=as.length/\R bg,rt:=λ_=>False } (startO N.length as ar ts)):gY P w K mg base CX0 (k+1) f fd ps (spO K S):=by
 refine F.ok sc (λvs H Q E h=>?_) λag A outer s H vs Q E hr h=>?_
 .obtain⟨as,ar,us,ts,R,rfl,_,l,r,hS,_⟩:=h;rw[aA,ak,<- l.1,r.len];exact len _ _ _ hS
 .obtain⟨as,ar,us,ts,R,rfl,nd,l,r,hS,q⟩:=h;obtain⟨rd,h1,h2⟩:=ci ag A outer s H E hr sc.nd;have s0:=SR.startO nd l r N (by rwa[<- l.1,r.len,len _ _ _ hS]);refine⟨_,h1,_,_,_,s0,h2 as ar ts R l.1 hS,⟨λown H' σ o rx E h=>?_,λ_ _ _ _ _ z=>z.elim,λ_ _ _ _ z=>z.elim,λ_ _ _ _ z=>z.elim,λ_ _ _ _ _ _ z=>z.elim⟩⟩;obtain⟨bg,es,tl,rx⟩:=rx;rw[Ow.ownL]at E;have du:∀(j:Nat)a t,as[j]?=some a->bg[j]?=some t->slot o j=.la a t:=λj a t e1 e2=>by
   rcases es j with z|z
   .rw[z];exact slot_of (by rw[List.getElem?_zipWith,e1,e2])
   .exact absurd (ao.mp e1).1 (Nat.not_lt.mpr z)
  have sub:Same (hd (Ow own) H') (hd (· ∈ as) H'):=jd (λb z=>.inl (by
   obtain⟨j,e⟩:=aV z;have lj:j<bg.length:=tl ▸ (ao.mp e).1;obtain⟨u,_,xs,_,e3,_⟩:=h.val (du j b _ e (aj lj)) (by intro z;cases z);exact⟨j,by rw[e3];simp⟩)) λ_ _ z=>z
  refine q H' bg rx (E.trans sub) ⟨tl,λj a t e1 e2=>?_⟩;obtain⟨u,_,xs,_,_,e4,r4⟩:=h.val (du j a t e1 e2) (by intro z;cases z);exact⟨xs,e4,r4.same sub⟩
def ab1(h:SR K own H σ o)(hs:∀a∈as,∃j,own j=[a]):Hid H (λb=>Ow own b/\b∉as)/\∀H':Hp,hd (· ∈ as) (hd (λb=>Ow own b/\b∉as) H')=hd (Ow own) H':=by
 have in1:∀{b x:Addr}{j:Nat},b∈own j->b∉as->x∈own j->x∉as:=λ{b x j}hb n hx z=>by
  obtain⟨k,ek⟩:=hs x z;have:=h.dis j k x hx (by rw[ek];simp);subst this;rw[ek]at hb hx;cases YR.mp hb;exact n z
 refine⟨⟨λb z=>h.sole z.1,λb C d f ⟨⟨j,z⟩,n⟩ e=>⟨⟨j,(h.mate z).1 C d f e⟩,in1 z n ((h.mate z).1 C d f e)⟩,λb x ⟨⟨j,z⟩,n⟩ e=>⟨⟨j,(h.mate z).2 x e⟩,in1 z n ((h.mate z).2 x e)⟩⟩,λH'=>funext λb=>?_⟩;by_cases z:b∈as
 .obtain⟨k,ek⟩:=hs b z;rw[rJ z,rJ ⟨k,by rw[ek];simp⟩]
 .rw[cX z];by_cases y:Ow own b
  .rw[rJ (⟨y,z⟩ : Ow own b/\b∉as),rJ y]
  .rw[cX (λw=>y w.1),cX y]
def ap4(i:Nat)(S:SO)(r:RA):RS:=λE o=>onL (slot o i) λts c=>r o λas=>S [ts] as λar=>match ar with|[t]=>E.nx (o.set i (c t))|_=>False
def ah5(i:Nat){y:Str}(G:OkF X.prog X.w X.K X.mg X.base k x ps (spO X.K S))(ha:QA X es r)(hr:eY k X.A:=by exact eY.mono (by assumption) wx)(hg:Gl X x:=by rfl)(hN:X.N[i]?=some y:=by rfl)(hv:rD X.env.scope y=true:=by rfl)(bt:qk y:=by decide)(a9:qf y:=by decide)(cf:qk x:=by decide)
 (he:starEach (.Name y p1::es) X.env=(false,eval (.Name y p1) X.env)::starEach es X.env:=by rfl)(br:qh X af es:=by rfl)(hs:swapsWith (.Call (.Name x p) (.Name y p1::es) [] af) none pos.line X.env=pure false:=by rfl):QS X (.Expr (.Call (.Name x p) (.Name y p1::es) [] af) pos) (ap4 i S r):=by
 obtain⟨f,fd,F,b,hm,kp⟩:=G;refine(Bb (Ls (sp:=spH (spO X.K S)) ⟨f,fd,F.hid,b,hm,kp⟩ hr hg (pL (pv i hN hv bt a9) ha he) cf he br) hs).imp λD σ H hP=>?_;obtain⟨own,o,E,h,hr,L⟩:=hP;obtain⟨ts,c,hr,es⟩:=Gp hr;obtain⟨l,xs,e1,e2,e3,r0,sl⟩:=h.l1 es;refine⟨_,e1,tQA.mk h hr λH1 vs as q _ E1 r1=>?_⟩;have h1:=h.same E1;obtain⟨hid,eqF⟩:=ab1 h1 (as:=[l]) λa ha=>⟨i,by rwa[YR.mp ha]⟩;have nl:¬(Ow own l/\l∉[l]):=λz=>z.2 wf;refine⟨_,hid,[l],[ts],vs,as,_,rfl,by simp,⟨rfl,λj a t ea et=>?_⟩,by rw[eqF];exact r1,q,λG bg rx EE ls a8=>?_⟩
 .cases j with
  |zero=>cases ea;cases et;exact⟨xs,(cX nl).trans (E1 _ _ e3),by rw[eqF];exact r0.same (bY E1)⟩
  |succ j=>cases ea
 .match bg,rx,ls with
  |[t],rx,ls =>
   obtain⟨ys,ey,ry⟩:=ls.2 0 l t rfl rfl;rw[eqF]at EE;have dt:∀{b:Addr}{u:HO},G b=some u->mrg (λb=>Ow own b/\b∉[l]) H1 G b=some u:=λ{b u}e=>(jO λz=>by rw[a8 b z]at e;cases e).trans e;obtain⟨x,ex⟩:=Lg es;obtain⟨h',S'⟩:=h1.chg ex (y:=c t) (H':=mrg (λb=>Ow own b/\b∉[l]) H1 G) (λb u hb e=>by
    by_cases z:Ow own b
    .rw[vJ ⟨z,λy=>hb (by rwa[e2])⟩];exact e
    .exact dt (cH (EE b u ((cX z).trans e))).2) (by
    rw[e1,e2];refine sl _ ys t (dt ey) (ry.same λb u e=>?_);obtain⟨n1,e⟩:=cH e;rw[cX λz=>by rw[a8 b ⟨z,n1⟩]at e;cases e];exact dt e)
   exact L.nx own _ σ _ rx ((bY E1).trans S') h'
def aqn(i j:Nat)(S:SO)(r:RA):RS:=λE o=>onL (slot o i) λts c=>onL (slot o j) λus d=>r o λas=>S [ts,us] as λar=>match ar with|[t,u]=>E.nx ((o.set i (c t)).set j (d u))|_=>False
def JQ(i j:Nat){y z:Str}(G:OkF X.prog X.w X.K X.mg X.base k x ps (spO X.K S))(hr:eY k X.A)(hg:Gl X x)(ha:QA X es r)(iP:i≠j:=by decide)(hN:X.N[i]?=some y:=by rfl)(hv:rD X.env.scope y=true:=by rfl)(bt:qk y:=by decide)(a9:qf y:=by decide)(hN2:X.N[j]?=some z:=by rfl)(mm:rD X.env.scope z=true:=by rfl)(nr:qk z:=by decide)(nK:qf z:=by decide)(cf:qk x:=by decide)
 (he:starEach (.Name y p1::.Name z p2::es) X.env=(false,eval (.Name y p1) X.env)::starEach (.Name z p2::es) X.env:=by rfl)(he2:starEach (.Name z p2::es) X.env=(false,eval (.Name z p2) X.env)::starEach es X.env:=by rfl)(br:(backTo af (starEach (.Name z p2::es) X.env)).any (·.1)=false:=by rfl)(hs:swapsWith (.Call (.Name x p) (.Name y p1::.Name z p2::es) [] af) none pos.line X.env=pure false:=by rfl):QS X (.Expr (.Call (.Name x p) (.Name y p1::.Name z p2::es) [] af) pos) (aqn i j S r):=by
 obtain⟨f,fd,F,b,hm,kp⟩:=G;refine(Bb (Ls (sp:=spH (spO X.K S)) ⟨f,fd,F.hid,b,hm,kp⟩ hr hg (pL (pv i hN hv bt a9) (pL (pv j hN2 mm nr nK) ha he2) he) cf he br) hs).imp λD σ H hP=>?_;obtain⟨own,o,E,h,hr,L⟩:=hP;obtain⟨ts,c,hr,es⟩:=Gp hr;obtain⟨us,d,hr,es2⟩:=Gp hr;obtain⟨l,xs,e1,e2,e3,r0,sl⟩:=h.l1 es;obtain⟨m,zs,f1,f2,f3,s0,sl2⟩:=h.l1 es2;have lm:l≠m:=λz=>iP (h.dis i j l (by rw[e2];simp) (by rw[f2,z];simp));refine⟨_,e1,_,f1,tQA.mk h hr λH1 vs as q _ E1 r1=>?_⟩;have h1:=h.same E1;obtain⟨hid,eqF⟩:=ab1 h1 (as:=[l,m]) λa ha=>by
  rcases YU.mp ha with z|z
  .exact⟨i,by rwa[z]⟩
  .exact⟨j,by rwa[YR.mp z]⟩
 have nl:¬(Ow own l/\l∉[l,m]):=λz=>z.2 wf;have nm:¬(Ow own m/\m∉[l,m]):=λz=>z.2 wf;refine⟨_,hid,[l,m],[ts,us],vs,as,_,rfl,by simp[lm],⟨rfl,λj a t ea et=>?_⟩,by rw[eqF];exact r1,q,λG bg rx EE ls a8=>?_⟩
 .match j,ea,et with
  |0,ea,et=>cases ea;cases et;exact⟨xs,(cX nl).trans (E1 _ _ e3),by rw[eqF];exact r0.same (bY E1)⟩
  |1,ea,et=>cases ea;cases et;exact⟨zs,(cX nm).trans (E1 _ _ f3),by rw[eqF];exact s0.same (bY E1)⟩
  |j+2,ea,_=>cases ea
 .match bg,rx,ls with
  |[t,u],rx,ls =>
   obtain⟨ys,ey,ry⟩:=ls.2 0 l t rfl rfl;obtain⟨ws,ew,k9⟩:=ls.2 1 m u rfl rfl;rw[eqF]at EE;have dt:∀{b:Addr}{u:HO},G b=some u->mrg (λb=>Ow own b/\b∉[l,m]) H1 G b=some u:=λ{b u}e=>(jO λz=>by rw[a8 b z]at e;cases e).trans e;generalize hM:mrg (λb=>Ow own b/\b∉[l,m]) H1 G=M at dt;have keep:∀b u,b≠l->b≠m->H1 b=some u->M b=some u:=λb u n1 n2 e=>by
    by_cases z:Ow own b
    .rw[<- hM,vJ ⟨z,by simp[n1,n2]⟩];exact e
    .exact dt (cH (EE b u ((cX z).trans e))).2
   have back:∀(M':Hp),(∀b,b≠m->M' b=M b)->Same (hd (· ∈ [l,m]) G) (hd (Ow own) M'):=λM' hM' b u e=>by
    obtain⟨n1,e⟩:=cH e;rw[cX (λz=>by rw[a8 b ⟨z,n1⟩]at e;cases e),hM' b λz=>n1 (by simp[z])];exact dt e
   obtain⟨x,ex⟩:=Lg es;obtain⟨x2,ex2⟩:=Lg es2;obtain⟨h2,S2⟩:=h1.chg ex (y:=c t) (H':=upd M m (.lst zs)) (λb u hb e=>by
    by_cases z:b=m
    .rw[z,cM];rw[z,E1 _ _ f3]at e;exact e
    .rw[cB z];exact keep b u (λy=>hb (by rw[e2,y];simp)) z e) (by
    rw[e1,e2];exact sl _ ys t ((cB lm).trans (dt ey)) (ry.same (back _ λb n=>cB n)))
   obtain⟨h3,S3⟩:=h2.chg (show(o.set i (c t))[j]?=some x2 by rwa[UY iP]) (y:=d u) (H':=M) (λb w hb e=>by rw[cB λz=>hb (by rw[f2,z];simp)]at e;exact e) (by
    rw[f1,f2];exact sl2 _ ws u (dt ew) (k9.same (back _ λ_ _=>rfl)))
   exact L.nx own _ σ _ rx ((bY E1).trans (S2.trans S3)) h3
def J2(g:qS)(c:RT)(e:RE)(o:ze):zh->(wq->Prop)->Prop
 |[],q=>q []
 |t::ts,q=>∃(N:zh->Prop)(M:Prop),(∀y,N y->J2 g c e o ts λus=>q (y::us))/\(M->J2 g c e o ts q)/\g t o λo'=>c o' λb=>sw b (e o' λy=>match y with|.l1 us=>N us|_=>False) M
def abA(it:RI)(n:Nat)(g:qS)(c:RT)(e:RE):RE:=λo q=>it o λxs=>xs.length<=sizeLine/\J2 g c e (List.replicate n .und++o) xs λus=>q (.l2 us)
def ownL2(n L:Nat)(own:Nat->Ψ)(A:Ψ):Nat->Ψ:=λi=>if i<n then[]else if i<n+L then own (i-n)else if i=n+L then A else own (i-n-1)
def Ow.ownL2{n L:Nat}{own:Nat->Ψ}{A:Ψ}{b:Addr} : Ow (ownL2 n L own A) b↔Ow own b\/b∈A:=by
 constructor
 .rintro⟨i,z⟩;unfold L2.ownL2 at z;by_cases h1:i<n
  .rw[ZY h1]at z;cases z
  rw[ZZ h1]at z;by_cases h2:i<n+L
  .rw[ZY h2]at z;exact .inl ⟨_,z⟩
  rw[ZZ h2]at z;by_cases h3:i=n+L
  .rw[ZY h3]at z;exact .inr z
  .rw[ZZ h3]at z;exact .inl ⟨_,z⟩
 .rintro(⟨i,z⟩|z)
  .by_cases h:i<L
   .exact⟨n+i,by unfold L2.ownL2;rw[ZZ (TZ (X1 _ _)),ZY (Nat.add_lt_add_left h _),show n+i-n=i by exact T1 _ _];exact z⟩
   .exact⟨n+i+1,by unfold L2.ownL2;rw[ZZ wv,ZZ wv,ZZ wv,show n+i+1-n-1=i by lia];exact z⟩
  .exact⟨n+L,by unfold L2.ownL2;rw[ZZ (TZ (X1 _ _)),ZZ (X2 _),ZY rfl];exact z⟩
def SR.blockL(h:SR K own H σ o){A:Ψ}(E:Same H H')(nA:∀a∈A,H a=none)(eA:∀a∈A,∃ys,H' a=some (.lst ys))(pre:L2.St):SR K (ownL2 pre.length o.length own A) H' (pre++σ) (List.replicate pre.length .und++o):=by
 have le:Same (hd (Ow own) H) (hd (Ow (ownL2 pre.length o.length own A)) H'):=jd (λb z=>(Ow.ownL2.mp z).imp id (nA b)) E;have gh:∀j,∀a∈A,a∉own j:=λj a ha z=>(h.sole ⟨j,z⟩).ne (nA a ha);refine⟨by simp[h.len],λi x e=>?_,λi hi a ha=>?_,λi j a e1 e2=>?_⟩
 .by_cases h1:i<pre.length
  .rw[aF (by simpa using h1),XG,ZY h1]at e;cases e;show ownL2 _ _ _ _ i=[];unfold ownL2;rw[ZY h1]
  .rw[aD (by simpa using h1),aN]at e;have h2:i-pre.length<o.length:=(ao.mp e).1;rw[aD (Nat.not_lt.mp h1)];have:ownL2 pre.length o.length own A i=own (i-pre.length):=by unfold ownL2;rw[ZZ h1,ZY (by omega)]
   rw[this];exact(h.sl _ x e).same le E
 .rw[aA,aN]at hi;unfold ownL2 at ha;rw[ZZ wv,ZZ (TZ hi)]at ha;by_cases h3:i=pre.length+o.length
  .rw[ZY h3]at ha;exact eA a ha
  .rw[ZZ h3]at ha;obtain⟨xs,e⟩:=h.out _ wv a ha;exact⟨xs,E _ _ e⟩
 .unfold ownL2 at e1 e2;by_cases a1:i<pre.length
  .rw[ZY a1]at e1;cases e1
  by_cases b1:j<pre.length
  .rw[ZY b1]at e2;cases e2
  rw[ZZ a1]at e1;rw[ZZ b1]at e2;by_cases a2:i<pre.length+o.length<;>by_cases b2:j<pre.length+o.length
  .rw[ZY a2]at e1;rw[ZY b2]at e2;have:=h.dis _ _ a e1 e2;omega
  .rw[ZY a2]at e1;rw[ZZ b2]at e2;by_cases b3:j=pre.length+o.length
   .rw[ZY b3]at e2;exact absurd e1 (gh _ a e2)
   .rw[ZZ b3]at e2;have:=h.dis _ _ a e1 e2;omega
  .rw[ZZ a2]at e1;rw[ZY b2]at e2;by_cases a3:i=pre.length+o.length
   .rw[ZY a3]at e1;exact absurd e2 (gh _ a e1)
   .rw[ZZ a3]at e1;have:=h.dis _ _ a e1 e2;lia
  .rw[ZZ a2]at e1;rw[ZZ b2]at e2;by_cases a3:i=pre.length+o.length<;>by_cases b3:j=pre.length+o.length
   .exact Eq.trans a3 (Eq.symm b3)
   .rw[ZY a3]at e1;rw[ZZ b3]at e2;exact absurd e2 (gh _ a e1)
   .rw[ZZ a3]at e1;rw[ZY b3]at e2;exact absurd e1 (gh _ a e2)
   .rw[ZZ a3]at e1;rw[ZZ b3]at e2;have:=h.dis _ _ a e1 e2;lia
def aa8{J:It}{xs:zh}(h1:SR K own H1 σ o)(wk:Wlk K J (hd (Ow own) H1) xs)(lx:xs.length<=sizeLine)(q:J2 g rc re (List.replicate n .und++o) xs λus=>R (.l2 us))(nD:H1 D=none)(k:∀H' v x,R x->Same H1 H'->NR K (Ow own) H1 H' v x->Q v H') :
  ∃W:Nat->Nat->Ζ->Hp->Prop,(∃m,W 0 m [] (upd H1 D (.lst [])))/\∀i m ys Hc,W i m ys Hc ->
   (J.stop i Hc/\Q (.ref D) Hc)\/(J.go i Hc/\∀x H',J.yld i Hc x H'->∀pre:L2.St,pre.length=n->tMG (tQG K n g) x (pre++σ) H' λσ2 H2=>∃bX:L2.St,bX.length=n/\σ2=bX++σ/\tMT (tQT K rc) σ2 H2 λb H3 =>
    match b with
    |true=>tM (tQ K re) σ2 H3 λy H4=>ys.length<sizeLine/\H4 D=some (.lst ys)/\∃m',m'<m/\W (i+1) m' (ys++[y]) (upd H4 D (.lst (ys++[y])))
    |false=>∃m',m'<m/\W (i+1) m' ys H3):=by
 generalize hO:List.replicate n OT.und++o=ob at q;refine⟨λi m ys Hc=>∃(bs:Ψ)(ar:wq),ys=bs.map V.ref/\Hc D=some (.lst ys)/\Same H1 Hc/\(D::bs).Nodup/\(∀b∈bs,H1 b=none)/\bs.length=ar.length/\(∀(i:Nat)b ts,bs[i]?=some b->ar[i]?=some ts->∃xs,Hc b=some (.lst xs)/\cg K (hd (λb=>Ow own b\/b∈D::bs) Hc) xs ts)/\ys.length<=i/\i<=xs.length/\m=xs.length-i/\J2 g rc re ob (xs.drop i) λus=>R (.l2 (ar++us)),⟨_,[],[],rfl,cM,Same.upd nD,by simp,λ_ z=>(nomatch z),rfl,(λi b ts e=>by cases e),aG _,aZ _,rfl,q⟩,?_⟩;rintro i m ys Hc ⟨bs,ar,rfl,eD,Ec,nd,nb,bl,rs,il,ix,rfl,hl⟩;have nA:∀a∈D::bs,H1 a=none:=λa ha=>by
  rcases YU.mp ha with z|z
  .rw[z];exact nD
  .exact nb a z
 have eA:∀a∈D::bs,∃ys,Hc a=some (.lst ys):=λa ha=>by
  rcases YU.mp ha with z|z
  .exact⟨_,z ▸ eD⟩
  .obtain⟨j,e⟩:=aV z;have lj:=(ao.mp e).1;obtain⟨zs,e2,_⟩:=rs j a _ e (aj (aR lj (WJ bl)));exact⟨zs,e2⟩
 have hn:∀b,Ow own b\/b∈D::bs->Hc b≠none:=λb z=>z.elim (λz=>((h1.same Ec).sole z).ne) λe z=>by obtain⟨ys,ey⟩:=eA b e;rw[ey]at z;cases z
 have SD:Same (hd (Ow own) H1) (hd (λb=>Ow own b\/b∈D::bs) Hc):=jd (λb z=>z.imp id (nA b)) Ec;obtain⟨w1,w2⟩:=wk (λb=>Ow own b\/b∈D::bs) Hc i hn SD;by_cases hi:i<xs.length
 .right;obtain⟨go,yl⟩:=w2 _ (aj hi);rw[QQ hi]at hl;obtain⟨N,M,hN,hM,hl⟩:=hl;refine⟨go,λx H2 y pre hp=>?_⟩;obtain⟨E2,rx⟩:=yl x H2 y;have eO:(λb=>Ow own b\/b∈D::bs)=Ow (ownL2 n o.length own (D::bs)):=funext λb=>propext Ow.ownL2.symm;have hb:SR K (ownL2 n o.length own (D::bs)) H2 (pre++σ) ob:=by
   have:=h1.blockL (Ec.trans E2) nA (λa ha=>let⟨ys,e⟩:=eA a ha;⟨ys,E2 _ _ e⟩) pre;rw[hp,hO]at this;exact this
  rw[eO]at rx rs;refine⟨_,⟨ownL2 n o.length own (D::bs),ob,_,_,hb,rx,hl,λfR σ3 o3 q3 iA h3=>?_⟩,λ_ _ z=>z⟩;obtain⟨bX,b5,rfl⟩:=Wi hp iA;have e3:fR=ownL2 n o.length own (D::bs):=funext λj=>by
   rcases iA.1 j with e|⟨e1,e2⟩
   .exact e
   .rw[e2];unfold ownL2;rw[ZY e1]
  subst e3;refine⟨bX,b5,rfl,_,tQT.mk h3 q3 λH3 b q4 E3=>?_,λ_ _ z=>z⟩;have q4:sw b (re o3 λy=>match y with|.l1 us=>N us|_=>False) M:=q4;cases b with
  |false=>exact⟨xs.length-(i+1),by lia,bs,ar,rfl,E3 _ _ (E2 _ _ eD),Ec.trans (E2.trans E3),nd,nb,bl,λj b ts e1 e2=>by
    obtain⟨zs,ez,rz⟩:=rs j b ts e1 e2;rw[eO];exact⟨zs,E3 _ _ (E2 _ _ ez),rz.same (bY (E2.trans E3))⟩,by exact aL il (X1 _ _),by exact hi,rfl,hM q4⟩
  |true =>
   refine⟨_,⟨_,_,_,h3.same E3,q4,λH4 v y q5 E4 r4=>?_⟩,λ_ _ z=>z⟩
   match y,q5,r4 with
   |.l1 us,q5,r4 =>
    obtain⟨B,nB,p,zs,ev,rfl,ep,rp⟩:=r4;cases ev;have np:H3 p=none:=nB p wf;have pn:∀{a:Addr}{u:HO},H3 a=some u->a≠p:=λe z=>by rw[z,np]at e;cases e
    have E:Same Hc H3:=E2.trans E3;have pD:D≠p:=pn (E _ _ eD);have pb:p∉bs:=λz=>by
     obtain⟨ys,ey⟩:=eA p (aJ _ z);exact pn (E _ _ ey) rfl
    have inD:∀(H:Hp)(u:HO),hd (λb=>Ow own b\/b∈D::(bs++[p])) (upd H D u)=hd (λb=>Ow own b\/b∈D::(bs++[p])) H:=λH u=>Gx (S:=λb=>Ow own b\/b∈D::(bs++[p])) (.inr wf);refine⟨by lia,E4 _ _ (E _ _ eD),xs.length-(i+1),by lia,bs++[p],ar++[us],by rw[bf];rfl,cM,λb u e=>?_,?_,λb hb=>?_,by simp[bl],λj b ts e1 e2=>?_,by rw[aA,List.length_singleton];exact Nat.succ_le_succ il,by exact hi,rfl,?_⟩
    .rw[cB λz=>by rw[z,nD]at e;cases e];exact E4 _ _ (E _ _ (Ec _ _ e))
    .rw[<- List.cons_append];exact List.nodup_append.mpr ⟨nd,by simp,λa ha c hc z=>by
      rw[YR.mp hc]at z;rcases YU.mp ha with y|y
      .exact pD (y.symm.trans z)
      .exact pb (z ▸ y)⟩
    .rcases Y1.mp hb with z|z
     .exact nb b z
     .rw[YR.mp z];exact(Ec.trans E).free np
    .rw[inD];by_cases hj:j<bs.length
     .rw[aF hj]at e1;rw[aF (aR hj (WJ bl))]at e2;obtain⟨zs,ez,rz⟩:=rs j b ts e1 e2;have bD:b≠D:=λz=>(List.nodup_cons.mp nd).1 (z ▸ aC e1);refine⟨zs,by rw[cB bD];exact E4 _ _ (E _ _ ez),rz.same ?_⟩;rw[<- eO];exact jd (λc z=>by
       rcases z with z|z
       .exact .inl (.inl z)
       .rw[<- List.cons_append]at z;rcases Y1.mp z with y|y
        .exact .inl (.inr y)
        .rw[YR.mp y];exact .inr (E.free np)) (E.trans E4)
     .rw[aD (VS hj)]at e1;rw[aD wv]at e2;have j0:j-bs.length=0:=by
       have:=(ao.mp e1).1;simp at this;omega
      rw[j0]at e1;rw[show j-ar.length=0 by lia]at e2;cases e1;cases e2;refine⟨_,by rw[cB (Ne.symm pD)];exact ep,rp.same (jd (λc z=>.inl ?_) λ_ _ z=>z)⟩;rcases z with z|z
      .exact .inl (Ow.ownL2.mpr (.inl z))
      .rw[<- List.cons_append]at z;rcases Y1.mp z with y|y
       .exact .inl (Ow.ownL2.mpr (.inr y))
       .exact .inr y
    .have:=hN _ q5;simp only[Wp,List.singleton_append];exact this
 .left;have:i=xs.length:=by lia
  refine⟨w1 this,?_⟩;rw[T2 (VS hi)]at hl;have hl:R (.l2 (ar++[])):=hl;rw[List.append_nil]at hl;exact k Hc _ _ hl Ec ⟨D::bs,nA,D,bs,rfl,rfl,nd,eD,bl,rs⟩
def Ze(h:tQ K (abA ri n g rc re) σ H Q):tR (tQI K ri) n (tMG (tQG K n g)) (tMT (tQT K rc)) (tM (tQ K re)) σ H Q:=by
 obtain⟨own,o,R,h,hr,k⟩:=h;exact⟨own,o,_,h,hr,λH1 J xs q E1 wk D nD=>aa8 (h.same E1) wk q.1 q.2 nD λH' v x rx E n=>k H' v x rx (E1.trans E) (n.back E1)⟩
def ac2:=@zf X tg iter aS ay ri g rc re scope pos abA Ze
def agb{py b7:Pos}:=@zP X tg iter aS ay ri g rc re scope pos i0 y0 py b7 (λi r n g c e=>aiu i (abA r n g c e)) λ{_ i0 _ _ _ _ _ _ _ _}⟨own,o,E,h,hr,L⟩=>Ze ⟨own,o,_,h,hr,λH' v y q S n=>by
 obtain⟨ai,h',S'⟩:=h.putA S n i0;exact L.nx ai H' _ _ q S' h'⟩
theorem Oe{α:Type}(h:α->T)(f:α->zh){c:RT}{e:RE}{o:ze} : ∀(l:List α){q:wq->Prop},(∀a∈l,∀(N:zh->Prop)(M:Prop),N (f a)->g (h a) o λo'=>c o' λb=>sw b (e o' λy=>match y with|.l1 us=>N us|_=>False) M)->q (l.map f)->J2 g c e o (l.map h) q
 |[],_,_,k=>k
 |a::l,q,st,k=>⟨λy=>y=f a,False,λy z=>Oe h f l (λa ha=>st a (aJ _ ha)) (z ▸ k),False.elim,st a (aO ..) (λy=>y=f a) False rfl⟩
def TV{e:RE}{q:wq->Prop}(f:Nat->zh)(n:Nat)(st:∀k,k<n->∀(N:zh->Prop)(M:Prop),N (f k)->g (.int (k:Nat)) o λo'=>c o' λb=>sw b (e o' λy=>match y with|.l1 us=>N us|_=>False) M)(k:q ((List.range n).map f)):J2 g c e o (rng 0 n) q:=by
 refine Oe (λk:Nat=>.int (0+k)) f (List.range n) (λa ha N M hN=>?_) k;have:=st a (List.mem_range.mp ha) N M hN;show g (.int (0+((a:Nat):Int))) o _;rw[show(0:Int)+((a:Nat):Int)=((a:Nat):Int)by exact Int.zero_add _];exact this
abbrev J9(f:Β):PyData:=.tuple [.int f.1,.int f.2]
abbrev frP(f:Β):T:=.tup [.int f.1,.int f.2]
def afy(K:Frag):V->Ζ->Hp->VK->Prop:=λx vs H Q=>∃(l:Addr)(b:V)(xs:Ζ)(fs:Γ)(f:Β)(j:Nat),x=.ref l/\vs=[b]/\H l=some (.lst xs)/\xs.length=fs.length/\(∀(i:Nat)x g,xs[i]?=some x->fs[i]?=some g->gP K H x (J9 g))/\gP K H b (J9 f)/\xs.length<=sizeLine/\fs[j]?=some f/\(∀i g,i<j->fs[i]?=some g->g≠f)/\Q (.int (j:Nat)) H
open Classical in
def ajb(h:Heap)(f:Β)(v:Value):Bool:=decide (∃as,Reads h v (J9 f) as)
open Classical in
def Px{h:Heap}{v:Value}{g f:Β}(r:Reads h v (J9 g) as):ajb h f v=(decide (g.1=f.1)&&decide (g.2=f.2)):=by
 unfold ajb;by_cases e:g=f
 .subst e;rw[Zs ⟨as,r⟩,Zs rfl,Zs rfl];rfl
 .have nd:¬∃as,Reads h v (J9 f) as:=λ⟨bs,z⟩=>e (by
   have:=SeqAt.Reads.unique _ _ _ _ _ rfl r z;injection this with this;injection this with t1 t2;injection t2 with t2;injection t1 with t1;injection t2 with t2;exact Prod.ext t1 t2)
  rw[Zp nd];by_cases h1:g.1=f.1
  .by_cases h2:g.2=f.2
   .exact absurd (Prod.ext h1 h2) e
   .rw[Zp h2,Bool.and_false]
  .rw[Zp h1,Bool.false_and]
def aa1(hu:X.A.units+64<cLine):MtM X "list.index" (afy X.K):=by
 intro aa s σ H x vs v us Q I rx rv h;obtain⟨l,b,xs,fs,f,j,rfl,rfl,hl,lf,fl,hb,hz,ej,nj,q⟩:=h;cases rx;obtain⟨u,rfl,ru⟩:=rv.one;obtain⟨bs,rb⟩:=I.readsK hb ru;obtain⟨z,its,n,r,iO,e⟩:=I.lstM hl;have lr:=r.length;have kU:∀(i:Nat)(hi:i<its.toArray.size),∃g as,fs[i]?=some g/\Reads s.heap its.toArray[i] (J9 g) as:=λi hi=>by
  rw[aX]at hi;have ex:xs[i]?=some (xs[i]' wv):=aj _;have eg:fs[i]?=some (fs[i]' wv):=aj _;obtain⟨u,eu,ru⟩:=r.get ex;obtain⟨as,ra⟩:=I.readsK (fl i _ _ ex eg) ru;refine⟨_,as,eg,?_⟩;rwa[List.getElem_toArray,(ao.mp eu).2]
 have lj:=(ao.mp ej).1;have hj:j<its.toArray.size:=by rw[aX];lia
 rw[sizeLine_eq]at hz;refine call_meets F.slot_list_index ⟨_,e,rfl⟩ F.entry_list_index (F.args_list_index_2 _ _) (SeqAt.list_indexAt l its.toArray n _ _ _ (ajb s.heap f) j hj wv ?_ λm hm lm=>?_) ⟨e,λy hy=>?_,⟨.int _,H,I.tok _,⟨_,rfl⟩,q⟩⟩
 .obtain⟨g,as,e2,e3⟩:=kU j hj;rw[ej]at e2;cases e2;rw[Px e3,Zs rfl,Zs rfl];rfl
 .obtain⟨g,as,e2,e3⟩:=kU m hm;have ne:=nj m g lm e2;rw[Px e3];by_cases h1:g.1=f.1
  .by_cases h2:g.2=f.2
   .exact absurd (Prod.ext h1 h2) ne
   .rw[Zp h2,Bool.and_false]
  .rw[Zp h1,Bool.false_and]
 .obtain⟨i,hi,ei⟩:=Array.getElem_of_mem hy;obtain⟨g,as,e2,e3⟩:=kU i hi;rw[<- ei,Px e3,<- abW];exact SeqAt.eqAt_reads _ _ _ _ _ _ _ _ e3 rb rfl rfl (by
   have d:(J9 g).depth<=3:=UT rfl;have m:=Nat.min_le_left (J9 g).depth (J9 f).depth;show X.A.units+1+min (J9 g).depth (J9 f).depth<cLine;lia)
def apM(a:RE)(r:RA):RE:=λo q=>a o λx=>match frz x with
 |.lst ts=>r o λus=>∃(fs:Γ)(f:Β)(j:Nat),ts=fs.map frP/\us=[frP f]/\fs.length<=sizeLine/\fs[j]?=some f/\(∀i g,i<j->fs[i]?=some g->g≠f)/\q (.fz (.int (j:Nat)))
 |_=>False
def ahg{o:Expr}(hu:X.A.units+64<cLine)(ho:QE X o ra)(ha:QA X [e] r)(hb:attributeBase o "index" X.env (eval o X.env)=eval o X.env:=by rfl)
 (hf:qr X af e:=by rfl)
 (hl:zz ah af:=by rfl)(hs:qo X e []:=by rfl)(hp:qh X af []:=by rfl) :
  QE X (.Call (.Attribute o "index" ah) [e] [] af) (apM ra r):=by
 refine(Zm PySem.F.plainAttrs_list PySem.F.slot_list_index PySem.F.type_list_index (aa1 hu) ho.mono ha.mono hb hf hl hs hp).imp λσ H Q hP=>?_;obtain⟨own,o,R,h,hr,k⟩:=hP;refine⟨_,tQ.mk h hr λH1 v x q E1 r1=>?_,λ_ _ z=>z⟩;cases ex:frz x with
 |lst ts =>
  rw[ex]at q r1;obtain⟨p,xs,rfl,e,rx⟩:=r1.lstI;refine⟨.inl ⟨rfl,_,SqL.of (dH _ _ e)⟩,_,tQA.mk (h.same E1) q λH2 vs us q2 _ E2 r2=>?_,λ_ _ z=>z⟩;obtain⟨fs,f,j,rfl,rfl,lf,ej,nj,q3⟩:=q2;obtain⟨y,rfl,ry⟩:=r2.one;have S2:Same (hd (Ow own) H1) H2:=(bY E2).trans dH;refine⟨p,y,xs,fs,f,j,rfl,rfl,E2 _ _ (dH _ _ e),by rw[rx.len,ak],λi x g ex eg=>?_,(ry.shows _ rfl rfl).same dH,by rw[rx.len,ak];exact lf,ej,nj,k H2 _ _ q3 (E1.trans E2) (NR.fz (.int _))⟩;obtain⟨v,ev,rv⟩:=rx.at_ (show(fs.map frP)[i]?=some (frP g)by rw[aq,eg];rfl);rw[ex]at ev;cases ev;exact(rv.shows _ rfl rfl).same S2
 |_=>rw[ex]at q;exact q.elim
theorem cg.strs{K:Frag}{F:Hp} : ∀{xs:Ζ}{ys:Φ},cg K F xs (ys.map T.str)->xs=ys.map V.str
 |_,[],h=>by cases h;rfl
 |_,y::ys,h=>by
  cases h with
  |cons a b =>
   cases a;rw[cg.strs b];rfl
def rJn(a:RE)(r:RA):RE:=λo q=>a o λx=>match frz x with
 |.str s=>r o λus=>∃ys:Φ,us=[.lst (ys.map T.str)]/\(ys.map (·.length)).sum+ys.length*s.length<=16777216/\q (.fz (.str (Txt.join s ys)))
 |_=>False
def agr{o:Expr}(ho:QE X o ra)(ha:QA X [e] r)(hb:attributeBase o "join" X.env (eval o X.env)=eval o X.env:=by rfl)
 (hf:qr X af e:=by rfl)
 (hl:zz ah af:=by rfl)(hs:qo X e []:=by rfl)(hp:qh X af []:=by rfl) :
  QE X (.Call (.Attribute o "join" ah) [e] [] af) (rJn ra r):=by
 refine(akr PySem.F.slot_str_join PySem.F.type_str_join afN ho ha hb hf hl hs hp).imp λσ H Q hP=>?_;obtain⟨own,o,R,h,hr,k⟩:=hP;refine tQ.mk h hr λH1 v x q E1 r1=>?_;cases ex:frz x with
 |str s =>
  rw[ex]at q r1;cases r1;refine⟨⟨s,rfl⟩,tQA.mk (h.same E1) q λH2 vs us q2 _ E2 r2=>?_⟩;obtain⟨ys,rfl,lz,q3⟩:=q2;obtain⟨y,rfl,ry⟩:=r2.one;obtain⟨p,xs,rfl,e,rx⟩:=ry.lstI;exact⟨s,p,ys,rfl,rfl,rx.strs ▸ (cH e).2,lz,k H2 _ _ q3 (E1.trans E2) (NR.fz (.str _))⟩
 |_=>rw[ex]at q;exact q.elim
def notStar:Expr->Bool
 |.Starred ..=>false
 |_=>true
def aiQ{env:Env}(h:notStar e=true):starEach (e::es) env=(false,eval e env)::starEach es env:=by
 cases e<;>first|rfl|cases h
structure QEB(X:Cx)(e:Expr)(r:RE):Prop where
 out:QE X e r
structure QAB(X:Cx)(es:zt)(r:RA):Prop where
 out:QA X es r
def CG{r:RE}(h:QE X e r):QEB X e r:=⟨h⟩
def kW{i j pos} : QEB X (.Constant (.int i) j pos) (rC (.int i)):=⟨bF⟩
def ale(i:Nat)(hN:X.N[i]?=some x:=by rfl)(hv:rD X.env.scope x=true:=by rfl)(hd:qk x:=by decide)(a9:qf x:=by decide):QEB X (.Name x pos) (ajf i):=⟨qv i hN hv hd a9⟩
def Xo{op:Operator}{g:qA}(ho:GO X (binaryOp op) g)(ha:QEB X a ra)(hb:QEB X b rb):QEB X (.BinOp a op b pos) (rOp g ra rb):=⟨bO ho ha.out hb.out⟩
def kY:QAB X [] ah9:=⟨bC⟩
def cT{a:RE}(ha:QEB X e a)(hr:QAB X es r)(hn:notStar e=true:=by rfl):QAB X (e::es) (agN a r):=⟨bA ha.out hr.out (aiQ hn)⟩
def pO(h:QAB X es r)(hz:es.length<=sizeLine:=by decide):QEB X (.Tuple es k pos) (amY r):=⟨dY h.out hz⟩
def Qx(h:QAB X es r)(hz:es.length<=sizeLine:=by decide):QEB X (.List es pos) (aoy r):=⟨cR h.out hz⟩
def alw:qA
 |.int i,.int j,q=>aeN i j/\q (.fz (.int (i*j)))
 |_,_,_=>False
def ae8:GO X (binaryOp .Mult) alw:=aiv.imp λx y H Q hP=>by
 obtain⟨S,t,u,R,_,hx,hy,hg,k⟩:=hP;cases hx<;>try exact hg.elim
 cases hy<;>try exact hg.elim
 exact⟨_,_,rfl,rfl,hg.1,k H _ _ hg.2 (.refl _) (NR.fz (.int _))⟩
def apP(n:Nat)(gs:qE):qS
 |.lst ts,o,q=>ts.length=n/\gs ts o q
 |_,_,_=>False
def ahV{m:Nat}(hc:X.calm=true)(h:QGs X m es gs)(hn:(assignEach es X.env).length=n:=by rfl)(b8:zk X es:=by rfl):QG X m (.Tuple es k pos) (apP n gs):=(afV hc h hn b8).imp λv σ H Q hP=>by
 obtain⟨own,o,t,R,h,r,hg,k⟩:=hP;cases t<;>try exact hg.elim
 obtain⟨a,xs,rfl,e,r⟩:=r.lstI;exact⟨a,xs,rfl,SqL.of (dH _ _ e),r.len.trans hg.1,own,o,_,R,h,r,hg.2,k⟩
variable{x y a b c e f d:RS}
def sq1(J:ze->Prop)(k:∀o',J o'->y E o')(h:∀Y:ze->Prop,(∀o',J o'->Y o')->jF x (λ_=>Y) E o):jF x y E o:=h (y E) k
def sq2(J:ze->Prop)(k:∀o',J o'->y E o')(h:∀Y:ze->Prop,(∀o',J o'->Y o')->jF a (jF x (λ_=>Y)) E o):jF a (jF x y) E o:=h (y E) k
def sq4(J:ze->Prop)(k:∀o',J o'->y E o')(h:∀Y:ze->Prop,(∀o',J o'->Y o')->jF a (jF b (jF c (jF x (λ_=>Y)))) E o):jF a (jF b (jF c (jF x y))) E o:=h (y E) k
def sq7(J:ze->Prop)(k:∀o',J o'->y E o')(h:∀Y:ze->Prop,(∀o',J o'->Y o')->jF a (jF b (jF c (jF d (jF e (jF f (jF x (λ_=>Y))))))) E o):jF a (jF b (jF c (jF d (jF e (jF f (jF x y)))))) E o:=h (y E) k
def zA{ds:xy}(h:SeqAt.shaped (.list ds)=true):PyData.canLayAll0 ds=true/\PyData.depthAll ds<=63:=by
 have a:=SeqAt.canLay_of_shaped h;have b:=SeqAt.depth_of_shaped h;unfold PyData.canLay0 at a;unfold PyData.depth at b;exact⟨a,by exact Nat.le_of_succ_le_succ b⟩
def aeU(K:Frag):V->Ζ->Hp->VK->Prop:=λx vs H Q=>∃(l:Addr)(b:V)(xs:Ζ)(ds:xy)(d:PyData)(j:Nat),x=.ref l/\vs=[b]/\H l=some (.lst xs)/\eF K H xs ds/\gP K H b d/\SeqAt.shaped (.list ds)=true/\SeqAt.shaped d=true/\xs.length<=sizeLine/\(∃e,ds[j]?=some e/\PyData.eqv e d=true)/\(∀(i:Nat)e,i<j->ds[i]?=some e->PyData.eqv e d=false)/\Q (.int (j:Nat)) H
theorem Hz{h:Heap} : ∀{ds:xy}{vs:Θ}{as:Ψ}{i:Nat}{v:Value},ReadsAll h vs ds as->vs[i]?=some v->∃d bs,ds[i]?=some d/\Reads h v d bs
 |_,_,_,i,v,.nil,e=>by cases e
 |_,_,_,0,v,.cons r _,e=>by cases e;exact⟨_,_,rfl,r⟩
 |_,_,_,i+1,v,.cons _ r,e=>by
  obtain⟨d,bs,e1,r1⟩:=Hz (i:=i) r (by simpa using e);exact⟨d,bs,by simpa using e1,r1⟩
theorem Od:∀{ds:xy}{i:Nat}{d:PyData},PyData.canLayAll0 ds=true->ds[i]?=some d->d.canLay0=true
 |[],_,_,_,e=>by cases e
 |x::xs,i,d,h,e=>by
  have hc:x.canLay0=true/\PyData.canLayAll0 xs=true:=by simpa[PyData.canLayAll0]using h
  cases i with
  |zero=>cases e;exact hc.1
  |succ i=>exact Od hc.2 (by simpa using e)
def aaL(hu:X.A.units+64<cLine):MtM X "list.index" (aeU X.K):=by
 intro aa s σ H x vs v us Q I rx rv h;obtain⟨l,b,xs,ds,d,j,rfl,rfl,hl,hs,hb,sl,sd,hz,⟨e0,ej,e1⟩,nj,q⟩:=h;cases rx;obtain⟨u,rfl,ru⟩:=rv.one;obtain⟨bs,rb⟩:=I.readsK hb ru;obtain⟨z,its,n,r,iO,e⟩:=I.lstM hl;obtain⟨as,ra⟩:=I.readsAllK hs r;obtain⟨l1,l2⟩:=zA sl;have lr:=r.length;have at_:∀(i:Nat)(hi:i<its.toArray.size),∃g,ds[i]?=some g/\SeqAt.readOf s.heap its.toArray[i]=g:=λi hi=>by
  have ei:its[i]?=some its.toArray[i]:=by rw[aX]at hi;rw[aj hi];simp
  obtain⟨g,cs,eg,rg⟩:=Hz ra ei;exact⟨g,eg,SeqAt.readOf_eq (Od l1 eg) rg⟩
 have lj:=(ao.mp ej).1;have dl:its.length=ds.length:=by
  have:∀{xs:Ζ}{ds:xy},eF X.K H xs ds->xs.length=ds.length:=λ{xs ds}h=>by
   induction xs generalizing ds with
   |nil=>cases h;rfl
   |cons x xs ih=>cases h with|cons a b=>rw[List.length_cons,List.length_cons,ih b]
  rw[<- lr,this hs]
 have hj:j<its.toArray.size:=by rwa[aX,dl]
 rw[sizeLine_eq]at hz;refine call_meets F.slot_list_index ⟨_,e,rfl⟩ F.entry_list_index (F.args_list_index_2 _ _) (SeqAt.list_indexAt l its.toArray n _ _ _ (λy=>PyData.eqv (SeqAt.readOf s.heap y) d) j hj (by rw[aX]at hj;lia) ?_ λm hm lm=>?_) ⟨e,SeqAt.items_eqAt (A:=X.A) (by simpa using ra) rb l1 (SeqAt.canLay_of_shaped sd) ?_,⟨.int _,H,I.tok _,⟨_,rfl⟩,q⟩⟩
 .obtain⟨g,e2,e3⟩:=at_ j hj;rw[ej]at e2;cases e2;show PyData.eqv (SeqAt.readOf s.heap _) d=true;rw[e3];exact e1
 .obtain⟨g,e2,e3⟩:=at_ m hm;show PyData.eqv (SeqAt.readOf s.heap _) d=false;rw[e3];exact nj m g lm e2
 .have:=Nat.min_le_left (PyData.depthAll ds) d.depth;lia
def anO(a:RE)(r:RA):RE:=λo q=>a o λx=>match frz x with
 |.lst ts=>r o λus=>∃(ds:xy)(d:PyData)(j:Nat),ts=X7 ds/\us=[ofD d]/\SeqAt.shaped (.list ds)=true/\SeqAt.shaped d=true/\ts.length<=sizeLine/\(∃e,ds[j]?=some e/\PyData.eqv e d=true)/\(∀(i:Nat)e,i<j->ds[i]?=some e->PyData.eqv e d=false)/\q (.fz (.int (j:Nat)))
 |_=>False
variable{e b a c:Expr}{x:Str}{gS:Φ}{E:Ε}{A:Around}{s:Shared}
def afo{o:Expr}(hu:X.A.units+64<cLine)(ho:QE X o ra)(ha:QA X [e] r)(hb:attributeBase o "index" X.env (eval o X.env)=eval o X.env:=by rfl)
 (hf:qr X af e:=by rfl)
 (hl:zz ah af:=by rfl)(hs:qo X e []:=by rfl)(hp:qh X af []:=by rfl) :
  QE X (.Call (.Attribute o "index" ah) [e] [] af) (anO ra r):=by
 refine(Zm PySem.F.plainAttrs_list PySem.F.slot_list_index PySem.F.type_list_index (aaL hu) ho.mono ha.mono hb hf hl hs hp).imp λσ H Q hP=>?_;obtain⟨own,o,R,h,hr,k⟩:=hP;refine⟨_,tQ.mk h hr λH1 v x q E1 r1=>?_,λ_ _ z=>z⟩;cases ex:frz x with
 |lst ts =>
  rw[ex]at q r1;obtain⟨p,xs,rfl,e,rx⟩:=r1.lstI;refine⟨.inl ⟨rfl,_,SqL.of (dH _ _ e)⟩,_,tQA.mk (h.same E1) q λH2 vs us q2 _ E2 r2=>?_,λ_ _ z=>z⟩;obtain⟨ds,d,j,rfl,rfl,sl,sd,lf,ej,nj,q3⟩:=q2;obtain⟨y,rfl,ry⟩:=r2.one;have S2:Same (hd (Ow own) H1) H2:=(bY E2).trans dH;exact⟨p,y,xs,ds,d,j,rfl,rfl,E2 _ _ (dH _ _ e),(rx.shows ds rfl (zA sl).1).same S2,(ry.shows d rfl (SeqAt.canLay_of_shaped sd)).same dH,sl,sd,by rw[rx.len];exact lf,ej,nj,k H2 _ _ q3 (E1.trans E2) (NR.fz (.int _))⟩
 |_=>rw[ex]at q;exact q.elim
def gIn(neg:Bool)(t u:T)(q:OT->Prop):Prop:=∃d ds,t=ofD d/\u=ofD (.list ds)/\SeqAt.shaped d=true/\SeqAt.shaped (.list ds)=true/\q (.fz (.bl (xr neg (ds.any λy=>PyData.eqv y d))))
def acA{neg:Bool}(h0:∀{A:Around}{E:Ε}{s:Shared}{c x:Value}{xs:xy}{d:PyData}{as bs:Ψ}{Q:Ε},Reads s.heap c (.list xs) as->Reads s.heap x d bs->PyData.canLayAll0 xs=true->d.canLay0=true->A.units+1+min (PyData.depthAll xs) d.depth<cLine->Q (.bool (xr neg (xs.any λy=>PyData.eqv y d))) s->wpAny (model X.prog X.w) A (compareOp op x c) Q E s)(hu:X.A.units+64<cLine):GO X (compareOp op) (gIn neg):=λaa s σ H x y v u Q I rx ry h=>by
 obtain⟨S,t,w,R,_,hx,hy,⟨d,ds,rfl,rfl,sd,sl,q⟩,k⟩:=h;obtain⟨l1,l2⟩:=zA sl;obtain⟨as,ra⟩:=I.readsK ((hx.shows d rfl (SeqAt.canLay_of_shaped sd)).same dH) rx;obtain⟨bs,rb⟩:=I.readsK ((hy.shows (.list ds) rfl (SeqAt.canLay_of_shaped sl)).same dH) ry;have:=Nat.min_le_left (PyData.depthAll ds) d.depth;exact h0 rb ra l1 (SeqAt.canLay_of_shaped sd) wv ⟨.bl _,H,I,rfl,k H _ _ q (.refl _) (NR.fz (.bl _))⟩
def agM(hu:X.A.units+64<cLine):GO X (compareOp .In) (gIn false):=acA (λrc rx a b c q=>SeqAt.in_list_reads rc rx a b c q) hu
def acP(hu:X.A.units+64<cLine):GO X (compareOp .NotIn) (gIn true):=acA (λrc rx a b c q=>SeqAt.notIn_list_reads rc rx a b c q) hu
def acY(mg:Str->Ω)(i:Nat)(nm:Bool->Str)(S:Bool->ST)(r:RA):RE:=λo q=>match slot o i with|.fz (.val (.ref f))=>∃b,mg (nm b)=some (.ref f)/\r o λts=>S b ts q|_=>False
def T5(i:Nat){nm:Bool->Str}{S:Bool->ST}(G:∀b,∃ps,OkT X.prog X.w X.K X.mg X.base k (nm b) ps (S b))(hr:eY k X.A)(ha:QA X (e::es) r)(hN:X.N[i]?=some x:=by rfl)(hv:rD X.env.scope x=true:=by rfl)(hd:qk x:=by decide)(a9:qf x:=by decide)
 (he:qo X e es:=by rfl)(br:qh X pos es:=by rfl)(gc:X.mg=mg:=by rfl):QE X (.Call (.Name x p) (e::es) [] pos) (acY mg i nm S r):=by
 subst gc;intro aa s σ H Q I ⟨own,o,R,h,hq,kk⟩;unfold acY at hq;cases gz:slot o i with
 |fz t =>
  cases t with
  |val v =>
   cases v with
   |ref f =>
    rw[gz]at hq;obtain⟨b,hm,hq⟩:=hq;obtain⟨ps,f',fd,F,bd,hU,kp⟩:=G b;rw[hm]at hU;cases hU;obtain⟨u,eu,ru⟩:=h.get (iC gz (by intro z;cases z));cases ru;refine acR (sp:=spH (spT X.K (S b))) ⟨fd,F.hid,bd,kp⟩ hr (pv i hN hv hd a9) ha he br aa s σ H Q I ⟨_,eu,rfl,tQA.mk h hq λH1 vs ts q _ E1 r1=>?_⟩;have h1:=h.same E1;refine⟨Ow own,h1.hid,ts,R,r1,q,λG v x rx E n a8=>?_⟩;have EH:Same H1 (mrg (Ow own) H1 G):=λb u e=>by
     by_cases z:Ow own b
     .rw[vJ z];exact e
     .rw[jO z];exact E b u ((cX z).trans e)
    have EG:Same G (mrg (Ow own) H1 G):=λb u e=>by rw[jO λz=>by rw[a8 b z]at e;cases e];exact e
    refine kk _ v x rx (E1.trans EH) (NR.back (H:=H1) ?_ E1);obtain⟨B,nb,s⟩:=n;have out:∀a∈B,¬Ow own a:=λa ha z=>(s.sole ha).ne (a8 a z);refine⟨B,λa ha=>by have:=nb a ha;rwa[cX (out a ha)]at this,s.same (jd (λb z=>?_) EG) EG⟩;rcases z with z|z
    .exact .inr (a8 b z)
    .exact .inl (.inr z)
   |_=>rw[gz]at hq;exact hq.elim
  |_=>rw[gz]at hq;exact hq.elim
 |_=>rw[gz]at hq;exact hq.elim
def Rh{f:Addr}(hg:Gl X x)(hm:X.mg x=some (.ref f))(hd:qk x:=by decide):QE X (.Name x pos) (rC (.val (.ref f))):=V3 (v:=.ref f) (hg:=hg) (hm:=⟨_,hm,rfl⟩) (r:=(λ_=>.val _)) (hd:=hd)
def anf:ST:=λts q=>match ts with|[.int a,.int b]=>q (.fz (.int (if b<a then b else a)))|_=>False
def afq(hc:X.calm=true):GC X (.builtin "min") anf:=(aaX hc).imp λxs H Q hP=>by
 obtain⟨S,ts,R,_,rs,hg,k⟩:=hP
 match ts,hg with
 |[.int a,.int b],hg =>
  cases rs with
  |cons r1 rs=>cases rs with
   |cons r2 rs =>
    cases rs;cases r1;cases r2;exact⟨a,b,rfl,k H _ _ hg (.refl _) (NR.fz (.int _))⟩
def Qm(sc:Scope)(N N' xs:Φ)(hi:QI (X.compG N0 sO gS C0 s0 H0 dk di) tg iter ri)(hg:∀{C s₀ H₀ ex pn},QG ((X.compG N0 sO gS C0 s0 H0 dk di).compG N' scope xs C s₀ H₀ ex pn) xs.length tg g)(ht:∀{C s₀ H₀ ex pn},QTs ((X.compG N0 sO gS C0 s0 H0 dk di).compG N' scope xs C s₀ H₀ ex pn) ay rc)(he:∀{C s₀ H₀ ex pn},QE ((X.compG N0 sO gS C0 s0 H0 dk di).compG N' scope xs C s₀ H₀ ex pn) aS re)
 (b9:X.env.scope=sc:=by rfl)(ck:gS++N0=N:=by rfl)(hc:X.calm=true:=by rfl)(hk:scope.kind=.function:=by rfl)(h:CK (rlb sc sO) scope N N' xs:=by decide +kernel)(hs:∀z,foldedSetIterable iter (X.compG N0 sO gS C0 s0 H0 dk di).env z=pure z:=by intro _;rfl):QE (X.compG N0 sO gS C0 s0 H0 dk di) (.ListComp aS [⟨tg,iter,ay,0⟩] scope pos) (WX ri xs.length g rc re):=by
 subst b9;exact cD (X:=X.compG N0 sO gS C0 s0 H0 dk di) (rlb X.env.scope sO) N N' xs hi hg ht he rfl ck hc hk h hs
def Tri(h:Heap)(p:Addr)(a b c:Value):Prop:=h.get? p=some { cls:=.type "tuple",data:=.seq #[a,b,c] }
def Apt(z TI TO j1 j2 j3 l1 l2 l3:Addr):Prop:=[z,TO,j1,j2,j3].Nodup/\∀b∈[TI,l1,l2,l3],b∉[z,TO,j1,j2,j3]
def put3{p:Addr}{a b c x:Value}{Q:Unit->Shared->Prop}(e:Tri s.heap p a b c)
 (q:∀g,g.get? p=some { cls:=.type "tuple",data:=.seq ((#[a,b,c] : xa).setIfInBounds k x) }->Heap.SameBut p s.heap g->Q () { s with heap:=g }):wpAny (model P w) A (updateSeq p (·.setIfInBounds k x)) Q E s:=by
 refine wpAny_updateSeq e rfl (q _ ?_ (Heap.SameBut.update ..));rw[Heap.get?_update_self _ e rfl];simp[Obj.mapSeq]
def Z4{z TI TO j1 j2 j3 l1 l2 l3:Addr}{us vs ws:xa}{a b c:Value}{Q:Ω->Shared->Prop}(D:Apt z TI TO j1 j2 j3 l1 l2 l3)
 (ez:IsZip s.heap z TI TO .none)(eI:Tri s.heap TI (.ref j1) (.ref j2) (.ref j3))(eO:Tri s.heap TO a b c)(i1:s.heap.IsListIter j1 l1 k)(i2:s.heap.IsListIter j2 l2 k)(i3:s.heap.IsListIter j3 l3 k)(m1:s.heap.IsList l1 us)
 (q0:us[k]?=none->A.handled=none/\∀g,(∀d o,d∉[z,j1]->s.heap.get? d=some o->g.get? d=some o)->Q none { s with heap:=g })
 (q1:∀x,us[k]?=some x->∃y t,(s.heap.IsList l2 vs/\s.heap.IsList l3 ws/\vs[k]?=some y/\ws[k]?=some t)/\∀g,IsZip g z TI TO (rawInt s.heap.objs.size)->Tri g TO x y t->g.IsListIter j1 l1 (k+1)->g.IsListIter j2 l2 (k+1)->g.IsListIter j3 l3 (k+1)->Tri g s.heap.objs.size x y t ->
   (∀d o,d∉[z,TO,j1,j2,j3]->s.heap.get? d=some o->g.get? d=some o)->Q (some (.ref s.heap.objs.size)) { s with heap:=g }):wpAny (model P w) A (pyNext (.ref z)) Q E s:=by
 obtain⟨nd,ap⟩:=D;simp only[List.nodup_cons,YU,VY,or_false,not_or,List.nodup_nil,and_true,not_false_eq_true]at nd;obtain⟨⟨z1,z2,z3,z4⟩,⟨o1,o2,o3⟩,⟨n12,n13⟩,n23⟩:=nd;have a1:=ap l1 wf;have a2:=ap l2 wf;have a3:=ap l3 wf;simp only[YU,VY,or_false,not_or]at a1 a2 a3;have ty:s.TypeIs (.ref z) "zip":=⟨_,ez,rfl⟩;unfold pyNext;refine ZU (wpAny_attempt (wpAny_callSpecial?_slot (name:=Str.ofString "__next__") ty F.slot_zip_next (wpAny_call_entry F.slot_zip_next ty F.entry_zip_next ?_ (F.args_zip_next_1 _))));show wpAny _ _ (field (.ref z) 2 >>= _) _ _ _;refine ZU (wpAny_field ez rfl (x:=.bool false) rfl ?_);show wpAny _ _ (field (.ref z) 3 >>= _) _ _ _;refine ZU (wpAny_field ez rfl (x:=.ref TI) rfl (ZU (wpAny_seqItems eI rfl ?_)));show wpAny _ _ (Builtin.SmallTypes.ownedTupleIsFree (.ref z) >>= _) _ _ _;refine ZU ?_;unfold Builtin.SmallTypes.ownedTupleIsFree;refine ZU (wpAny_field ez rfl (x:=.none) rfl (ZT ?_));simp only[if_true];refine ZU (wpAny_rule (ZU (wpAny_field ez rfl (x:=.ref TO) rfl ?_)));refine ZU (wpAny_setField_rec ez wf λg1 e1 s1=>?_)
 replace e1:IsZip g1 z TI TO .ellipsis:=e1
 have J1:=i1.extBut s1.extBut (Ne.symm z2);have M1:=m1.extBut s1.extBut a1.1;refine ZU ?_;simp only[List.zipIdx_cons,List.zipIdx_nil,List.forIn_cons,List.forIn_nil];refine ZU (ZU (wpAny_onRaise ?_));show wpAny _ _ (Builtin.SmallTypes.nextOf (.ref j1) >>= _) _ _ _;cases hx:us[k]? with
 |none =>
  obtain⟨hh,q⟩:=q0 hx;refine ZU (wpAny_nextOf_list_end hh J1 M1 hx λg2 e s2 he=>?_);obtain⟨oe,ho,hc⟩:=he;have e2:IsZip g2 z TI TO .ellipsis:=s2 _ _ z2 e1;have ne:e≠z:=λh=>by subst h;rw[e2]at ho;cases ho;simp at hc
  refine wpAny_setField_rec e2 wf λg3 _ s3=>ZU (wpAny_isInstance (T:="StopIteration") (b:=true) ⟨oe,s3.extBut _ _ ne ho,hc⟩ isSubtype_stop (ZT (q g3 λd o hd h=>?_)));simp only[YU,VY,or_false,not_or]at hd;exact s3.extBut _ _ hd.1 (s2 _ _ hd.2 (s1.extBut _ _ hd.1 h))
 |some x =>
  obtain⟨y,t,⟨m2,m3,hy,ht⟩,q⟩:=q1 x hx;refine ZU (wpAny_nextOf_list_item J1 M1 hx λg2 f1 s2=>ZT ?_);have O2:Tri g2 TO a b c:=s2.extBut _ _ o1 (s1.extBut _ _ (Ne.symm z1) eO);refine ZU (wpAny_seqItems O2 rfl (ZU (put3 O2 λg3 O3 s3=>?_)))
  replace O3:Tri g3 TO x b c:=O3
  refine ZU (wpAny_letGo (ZT (ZU (ZU (wpAny_onRaise ?_)))));show wpAny _ _ (Builtin.SmallTypes.nextOf (.ref j2) >>= _) _ _ _;refine ZU (wpAny_nextOf_list_item (((i2.extBut s1.extBut (Ne.symm z3)).extBut s2.extBut (Ne.symm n12)).extBut s3.extBut (Ne.symm o2)) (((m2.extBut s1.extBut a2.1).extBut s2.extBut a2.2.2.1).extBut s3.extBut a2.2.1) hy λg4 f2 s4=>ZT ?_);have O4:Tri g4 TO x b c:=s4.extBut _ _ o2 O3;refine ZU (wpAny_seqItems O4 rfl (ZU (put3 O4 λg5 O5 s5=>?_)))
  replace O5:Tri g5 TO x y c:=O5
  refine ZU (wpAny_letGo (ZT (ZU (ZU (wpAny_onRaise ?_)))));show wpAny _ _ (Builtin.SmallTypes.nextOf (.ref j3) >>= _) _ _ _;have k5:∀d o,d∉[z,TO,j1,j2]->s.heap.get? d=some o->g5.get? d=some o:=λd o hd e=>by
   simp only[YU,VY,or_false,not_or]at hd;obtain⟨d1,d2,d3,d4⟩:=hd;exact s5.extBut _ _ d2 (s4.extBut _ _ d4 (s3.extBut _ _ d2 (s2.extBut _ _ d3 (s1.extBut _ _ d1 e))))
  refine ZU (wpAny_nextOf_list_item (i3.at λo e=>k5 j3 o (by simp[Ne.symm z4,Ne.symm o3,Ne.symm n13,Ne.symm n23]) e) (m3.at λo e=>k5 l3 o (by simp[a3]) e) ht λg6 f3 s6=>ZT ?_);have O6:Tri g6 TO x y c:=s6.extBut _ _ o3 O5;refine ZU (wpAny_seqItems O6 rfl (ZU (put3 O6 λg7 O7 s7=>?_)))
  replace O7:Tri g7 TO x y t:=O7
  refine ZU (wpAny_letGo (ZT (ZT (ZU (wpAny_seqItems O7 rfl (ZU (wpAny_newTuple ?_)))))));have sz:g7.objs.size=s.heap.objs.size:=by rw[s7.1,s6.1,s5.1,s4.1,s3.1,s2.1,s1.1]
  have e7:IsZip g7 z TI TO .ellipsis:=s7.extBut _ _ z1 (s6.extBut _ _ z4 (s5.extBut _ _ z1 (s4.extBut _ _ z3 (s3.extBut _ _ z1 (s2.extBut _ _ z2 e1)))));have F1:=((((f1.extBut s3.extBut (Ne.symm o1)).extBut s4.extBut n12).extBut s5.extBut (Ne.symm o1)).extBut s6.extBut n13).extBut s7.extBut (Ne.symm o1);have F2:=((f2.extBut s5.extBut (Ne.symm o2)).extBut s6.extBut n23).extBut s7.extBut (Ne.symm o2);have F3:=f3.extBut s7.extBut (Ne.symm o3);have zl:z<g7.objs.size:=aK e7;show wpAny _ _ (Builtin.SmallTypes.ownedTupleHandOut (.ref z) (.ref g7.objs.size) >>= _) _ _ _;refine ZU ?_;unfold Builtin.SmallTypes.ownedTupleHandOut;have e8:IsZip (g7.push { cls:=.type "tuple",data:=.seq #[x,y,t] }) z TI TO .ellipsis:=aH _ e7;refine ZU (wpAny_setField_rec e8 wf λg8 e8 s8=>?_)
  replace e8:IsZip g8 z TI TO (rawInt g7.objs.size):=e8
  refine wpAny_setField_rec e8 wf λg9 e9 s9=>?_
  replace e9:IsZip g9 z TI TO (rawInt g7.objs.size):=e9
  have up:∀d o,d≠z->g7.get? d=some o->g9.get? d=some o:=λd o n e=>s9.extBut _ _ n (s8.extBut _ _ n (aH _ e));have T9:Tri g9 g7.objs.size x y t:=s9.extBut _ _ (VQ zl) (s8.extBut _ _ (VQ zl) (aW _ rfl));rw[sz]at e9 T9;refine ZT ⟨_,rfl,ZT ?_⟩;show Q (some (.ref g7.objs.size)) _;rw[sz];refine q g9 e9 (up _ _ (Ne.symm z1) O7) (F1.at λo e=>up _ o (Ne.symm z2) e) (F2.at λo e=>up _ o (Ne.symm z3) e) (F3.at λo e=>up _ o (Ne.symm z4) e) T9 λd o hd e=>?_;simp only[YU,VY,or_false,not_or]at hd;exact up d o hd.1 (s7.extBut _ _ hd.2.1 (s6.extBut _ _ hd.2.2.2.2 (k5 d o (by simp[hd]) e)))
abbrev it0(l:Addr):Obj:={ cls:=.type "list_iterator",data:=.fields #[.ref l,.int 0 0] }
abbrev zh1(h:Heap)(l1:Addr):Heap:=h.push (it0 l1)
abbrev zh2(h:Heap)(l1 l2:Addr):Heap:=(zh1 h l1).push (it0 l2)
abbrev zh3(h:Heap)(l1 l2 l3:Addr):Heap:=(zh2 h l1 l2).push (it0 l3)
abbrev zh4(h:Heap)(l1 l2 l3:Addr):Heap:=(zh3 h l1 l2 l3).push { cls:=.type "tuple",data:=.seq #[.ref h.objs.size,.ref (zh1 h l1).objs.size,.ref (zh2 h l1 l2).objs.size] }
abbrev zh5(h:Heap)(l1 l2 l3:Addr):Heap:=(zh4 h l1 l2 l3).push { cls:=.type "tuple",data:=.seq #[.none,.none,.none] }
abbrev zh6(h:Heap)(l1 l2 l3:Addr):Heap:=(zh5 h l1 l2 l3).push { cls:=.type "zip",data:=.fields #[.none,.bool false,.bool false,.ref (zh3 h l1 l2 l3).objs.size,.ref (zh4 h l1 l2 l3).objs.size] }
def aiZ(l1 l2 l3:Addr)(us vs ws:xa):Meets (Builtin.«zip.__new__» ⟨[.type "zip",.ref l1,.ref l2,.ref l3],[]⟩) λ_ R s=>s.heap.IsList l1 us/\s.heap.IsList l2 vs/\s.heap.IsList l3 ws/\R (.ok (.ret (.ref (zh5 s.heap l1 l2 l3).objs.size))) { s with heap:=zh6 s.heap l1 l2 l3 } :=
 .of_wp λprog w A R s h=>by
  obtain⟨hp,g,d,tk,os⟩:=s;obtain⟨m1,m2,m3,h⟩:=h;have hsub:=sub_zip;have M1:Heap.IsList (Shared.heap ⟨hp,g,d,tk,os⟩) l1 us:=m1;have M2:Heap.IsList (Shared.heap ⟨hp.push (it0 l1),g,d,tk,os⟩) l2 vs:=Heap.IsList.push m2 _;have M3:Heap.IsList (Shared.heap ⟨(hp.push (it0 l1)).push (it0 l2),g,d,tk,os⟩) l3 ws:=Heap.IsList.push (Heap.IsList.push m3 _) _
  wp_walk using wpAny_pyIter_list M1,wpAny_pyIter_list M2,wpAny_pyIter_list M3
  exact⟨_,rfl,h⟩
def acg(a b c d:Value):argsOk "object.__init__" ⟨[a,b,c,d],[]⟩:=by
 unfold argsOk;rw[signature?_of (id:="object.__init__") (n:=['_','_','t','i','n','i','_','_']) (o:=['t','c','e','j','b','o']) (by kernel_rfl) F.owner_object];kernel_rfl
def WD{l1 l2 l3:Addr}{us vs ws:xa}{Q:Ε}(m1:s.heap.IsList l1 us)(m2:s.heap.IsList l2 vs)(m3:s.heap.IsList l3 ws)
 (q:∀g n,n=s.heap.objs.size->IsZip g (n+5) (n+3) (n+4) .none->Tri g (n+3) (.ref n) (.ref (n+1)) (.ref (n+2))->Tri g (n+4) .none .none .none->g.IsListIter n l1 0->g.IsListIter (n+1) l2 0->g.IsListIter (n+2) l3 0 ->
   (∀d o,s.heap.get? d=some o->g.get? d=some o)->Q (.ref (n+5)) { s with heap:=g }):wpAny (model P w) A (call (.type "zip") [.ref l1,.ref l2,.ref l3]) Q E s:=by
 refine callType_new F.called_zip wx (by kernel_rfl) (by kernel_rfl) (λobj=>acg obj _ _ _) F.entry_zip_new (aiZ l1 l2 l3 us vs ws) ⟨m1,m2,m3,?_⟩;have n1:(zh1 s.heap l1).objs.size=s.heap.objs.size+1:=Heap.size_push ..;have n2:(zh2 s.heap l1 l2).objs.size=s.heap.objs.size+2:=by rw[Heap.size_push,n1]
 have n3:(zh3 s.heap l1 l2 l3).objs.size=s.heap.objs.size+3:=by rw[Heap.size_push,n2]
 have n4:(zh4 s.heap l1 l2 l3).objs.size=s.heap.objs.size+4:=by rw[Heap.size_push,n3]
 have n5:(zh5 s.heap l1 l2 l3).objs.size=s.heap.objs.size+5:=by rw[Heap.size_push,n4]
 have g6:(zh6 s.heap l1 l2 l3).get? (zh5 s.heap l1 l2 l3).objs.size=some _:=aW _ rfl;have g5:(zh6 s.heap l1 l2 l3).get? (zh4 s.heap l1 l2 l3).objs.size=some _:=aH _ (aW _ rfl);have g4:(zh6 s.heap l1 l2 l3).get? (zh3 s.heap l1 l2 l3).objs.size=some _:=aH _ (aH _ (aW _ rfl));have up:∀{d o},(zh3 s.heap l1 l2 l3).get? d=some o->(zh6 s.heap l1 l2 l3).get? d=some o:=λe=>aH _ (aH _ (aH _ e));have g3:(zh6 s.heap l1 l2 l3).get? (zh2 s.heap l1 l2).objs.size=some (it0 l3):=up (aW _ rfl);have g2:(zh6 s.heap l1 l2 l3).get? (zh1 s.heap l1).objs.size=some (it0 l2):=up (aH _ (aW _ rfl));have g1:(zh6 s.heap l1 l2 l3).get? s.heap.objs.size=some (it0 l1):=up (aH _ (aH _ (aW _ rfl)));show _/\_;rw[n3,n4,n5]at g6;rw[n1,n2,n3]at g4;rw[n4]at g5;rw[n2]at g3;rw[n1]at g2;rw[n5];exact⟨⟨_,g6,rfl⟩,q _ _ rfl g6 g4 g5 ⟨_,g1,rfl,rfl⟩ ⟨_,g2,rfl,rfl⟩ ⟨_,g3,rfl,rfl⟩ λd o e=>up (aH _ (aH _ (aH _ e)))⟩
def ain(a b c:Addr):It:=⟨λi H=>∃xs ys zs,H a=some (.lst xs)/\H b=some (.lst ys)/\H c=some (.lst zs)/\i<xs.length/\i<ys.length/\i<zs.length,λi H v H'=>∃xs ys zs x y z t,H a=some (.lst xs)/\H b=some (.lst ys)/\H c=some (.lst zs)/\xs[i]?=some x/\ys[i]?=some y/\zs[i]?=some z/\H t=none/\v=.ref t/\H'=upd H t (.tup [x,y,z]),λi H=>∃xs,H a=some (.lst xs)/\xs.length<=i⟩
def Zst(z TI TO j1 j2 j3 l1 l2 l3:Addr)(i:Nat)(h:Heap):Prop:=IsZip h z TI TO .none/\Tri h TI (.ref j1) (.ref j2) (.ref j3)/\(∃p q r,Tri h TO p q r)/\h.IsListIter j1 l1 i/\h.IsListIter j2 l2 i/\h.IsListIter j3 l3 i
def Zst.obj{z TI TO j1 j2 j3 l1 l2 l3:Addr}{h:Heap}(s:Zst z TI TO j1 j2 j3 l1 l2 l3 i h):∀b∈[z,TI,TO,j1,j2,j3],∃o,h.get? b=some o/\∀v,o.data≠.cell v:=by
 obtain⟨s1,s2,⟨p,q,r,s3⟩,⟨o4,s4,_,d4⟩,⟨o5,s5,_,d5⟩,o6,s6,_,d6⟩:=s;intro b hb;simp only[YU,VY,or_false]at hb;rcases hb with rfl|rfl|rfl|rfl|rfl|rfl
 .exact⟨_,s1,λv e=>by cases e⟩
 .exact⟨_,s2,λv e=>by cases e⟩
 .exact⟨_,s3,λv e=>by cases e⟩
 .exact⟨_,s4,λv e=>by rw[d4]at e;cases e⟩
 .exact⟨_,s5,λv e=>by rw[d5]at e;cases e⟩
 .exact⟨_,s6,λv e=>by rw[d6]at e;cases e⟩
def aau{x1}(z TI TO j1 j2 j3 l1 l2 l3:Addr)(D:Apt z TI TO j1 j2 j3 l1 l2 l3) :
  Turn P w K (.Tuple aE x1 pos) (ain l1 l2 l3) [z,TI,TO,j1,j2,j3] z (Zst z TI TO j1 j2 j3 l1 l2 l3) where
 mem:=by simp
 obj:=λ_ _=>Zst.obj
 keep:=λi h h' ⟨s1,s2,⟨p,q,r,s3⟩,s4,s5,s6⟩ k=>⟨k z wf _ s1,k TI wf _ s2,⟨p,q,r,k TO wf _ s3⟩,fY s4 (k j1 wf),fY s5 (k j2 wf),fY s6 (k j3 wf)⟩
 item:=by
  intro X hP hw hK hc i aa s σ H E I hf st hg;subst hP hw hK;have ob:=st.obj;obtain⟨s1,s2,⟨p,q,r,s3⟩,s4,s5,s6⟩:=st;obtain⟨xs,ys,zs,ha,hb,df,kb,lT,ka⟩:=hg;obtain⟨_,dy,n1,fA,le1,g1⟩:=I.lstM ha;obtain⟨_,gi,n2,iL,kM,g2⟩:=I.lstM hb;obtain⟨_,l7,n3,rv3,le3,g3⟩:=I.lstM df;have ex:xs[i]?=some xs[i]:=aj kb;have ey:ys[i]?=some ys[i]:=aj lT;have et:zs[i]?=some zs[i]:=aj ka;obtain⟨u,hu,ru⟩:=Az fA ex;obtain⟨v,hv,rv⟩:=Az iL ey;obtain⟨t,ht,rt⟩:=Az rv3 et;refine Z4 D s1 s2 s3 s4 s5 s6 (us:=dy.toArray) (vs:=gi.toArray) (ws:=l7.toArray) ⟨_,g1,rfl,n1,rfl⟩ (λz=>by simp[hu]at z) λx hx=>⟨v,t,⟨⟨_,g2,rfl,n2,rfl⟩,⟨_,g3,rfl,n3,rfl⟩,by simpa using hv,by simpa using ht⟩,λh' a1 a2 a3 a4 a5 a6 a7=>⟨_,rfl,?_⟩⟩;obtain rfl:u=x:=by simpa[hu]using hx
  refine wpAny_letOwnedTupleGo_zip a1 λh2 fq sb=>?_;have I1:=I.laid (a:=s.heap.objs.size) (o:=.tup [xs[i],ys[i],zs[i]]) (h':=s.heap.push { cls:=.type "tuple",data:=.seq #[u,v,t] }) (t':=s.toks) (λb q z=>aH _ z) (aG _)
   ⟨(by show 3<=sizeLine;decide),[u,v,t],.cons ru (.cons rv (.cons rt .nil)),_,aW _ rfl,rfl,_,rfl⟩
  have hV:∀b∈[z,TI,TO,j1,j2,j3],upd H s.heap.objs.size (.tup [xs[i],ys[i],zs[i]]) b=none:=λb hb=>by
   obtain⟨o,e,_⟩:=ob b hb;exact(cB (aQ (aK e))).trans (hf b hb).1
  have I2:=I1.turnedL (ch:=[z,TO,j1,j2,j3]) (h':=h2) (t':=s.toks) (λb ob hb e=>by
   refine(sb.2 b λy=>hb (by simp[y])).trans ?_;by_cases hs:b=s.heap.objs.size
   .subst hs;have e2:=aW s.heap (o:={ cls:=.type "tuple",data:=.seq #[u,v,t] }) rfl;have e:(s.heap.push { cls:=.type "tuple",data:=.seq #[u,v,t] }).get? s.heap.objs.size=some ob:=e;rw[e2]at e;cases e;exact a6
   .exact a7 b _ hb (Ba e hs)) λb hb=>by
    have fc:b∈[z,TI,TO,j1,j2,j3]:=by
     simp only[YU]at hb ⊢;exact hb.imp id .inr
    exact⟨hV b fc,(hf b fc).2⟩
  have mv:∀d o,d≠z->h'.get? d=some o->h2.get? d=some o:=λd o n e=>(sb.2 d n).trans e;obtain⟨nd,ap⟩:=D;have ap1:=ap TI wf;simp only[List.nodup_cons,YU,VY,or_false,not_or]at nd;exact⟨.ref _,_,I2,rfl,⟨xs,ys,zs,_,_,_,_,ha,hb,df,ex,ey,et,I.fresh,rfl,rfl⟩,⟨fq,mv _ _ (λy=>ap1 (by simp[y])) (a7 _ _ ap1 s2),⟨_,_,_,mv _ _ (Ne.symm nd.1.1) a2⟩,fY a3 λo e=>mv _ _ (Ne.symm nd.1.2.1) e,fY a4 λo e=>mv _ _ (Ne.symm nd.1.2.2.1) e,fY a5 λo e=>mv _ _ (Ne.symm nd.1.2.2.2) e⟩,hV⟩
 done:=by
  intro X hP hw hK hc i aa s σ H E I hf st hg;subst hP hw hK;obtain⟨s1,s2,⟨p,q,r,s3⟩,s4,s5,s6⟩:=st;obtain⟨xs,ha,lt⟩:=hg;obtain⟨_,dy,n1,fA,le1,g1⟩:=I.lstM ha;refine Z4 D s1 s2 s3 s4 s5 s6 (us:=dy.toArray) (vs:=#[]) (ws:=#[]) ⟨_,g1,rfl,n1,rfl⟩ (λ_=>⟨I.ok.hd hc,λh' k=>⟨rfl,I.turnedL (t':=s.toks) k λb hb=>hf b ?_⟩⟩) λx hx=>?_
  .simp only[YU,VY,or_false]at hb ⊢;rcases hb with h|h<;>simp[h]
  .have:dy.toArray[i]?=none:=by simp;lia
   rw[this]at hx;cases hx
 self:=λ_ _ _ _ _ ⟨s1,_⟩ h=>wpAny_pyIter_zip s1 h
def apt(n l1 l2 l3:Nat)(h1:l1<n)(h2:l2<n)(h3:l3<n):Apt (n+5) (n+3) (n+4) n (n+1) (n+2) l1 l2 l3:=by
 refine⟨?_,λb hb=>?_⟩
 .simp only[List.nodup_cons,YU,VY,or_false,not_or,List.nodup_nil,and_true,not_false_eq_true];refine⟨⟨?_,?_,?_,?_⟩,⟨?_,?_,?_⟩,⟨?_,?_⟩,?_⟩<;>first|exact aQ wv|exact VQ wv
 .simp only[YU,VY,or_false,not_or]at hb ⊢;rcases hb with rfl|rfl|rfl|rfl<;>refine⟨?_,?_,?_,?_,?_⟩<;>first|exact aQ (by omega)|exact VQ wv
def ak9(ta:TA):TI:=λσ H R=>ta σ H λvs H1=>∃a b c xs ys zs,vs=[.ref a,.ref b,.ref c]/\H1 a=some (.lst xs)/\H1 b=some (.lst ys)/\H1 c=some (.lst zs)/\R (ain a b c) H1
def afm{ta:TA}{x1}(hg:Gl X "zip")(hm:X.mg "zip"=none)(ha:PA X [a,b,c] ta)(hs:starEach [a,b,c] X.env=[(false,eval a X.env),(false,eval b X.env),(false,eval c X.env)]:=by rfl)(dQ:starEach [b,c] X.env=[(false,eval b X.env),(false,eval c X.env)]:=by rfl) :
  PI X (.Tuple aE x1 aw) (.Call (.Name "zip" p) [a,b,c] [] pos) (ak9 ta):=by
 intro aa s σ H R I h;refine Call_ (zW I hg hm boot_zip (PyProof.Rows.callWith_type1 (thn (ha pos aa s σ H _ I h) λus s1 hP=>?_) (by rw[hs,dQ]) (by rw[dQ];rfl)));obtain⟨vs,H1,I1,r1,q1⟩:=hP;obtain⟨l1,l2,l3,xs,ys,zs,e,h1,h2,h3,q⟩:=q1;subst e;obtain⟨u,v,t,rfl,ru,rv,rt⟩ : ∃u v t,us=[u,v,t]/\RelV (.ref l1) u/\RelV (.ref l2) v/\RelV (.ref l3) t:=by
  cases r1 with|cons a r=>cases r with|cons b r=>cases r with|cons c r=>cases r;exact⟨_,_,_,rfl,a,b,c⟩
 cases ru;cases rv;cases rt;obtain⟨_,dy,n1,fA,le1,g1⟩:=I1.lstM h1;obtain⟨_,gi,n2,iL,kM,g2⟩:=I1.lstM h2;obtain⟨_,l7,n3,rv3,le3,g3⟩:=I1.lstM h3;have z1:=aK g1;have z2:=aK g2;have z3:=aK g3;refine WD (us:=dy.toArray) (vs:=gi.toArray) (ws:=l7.toArray) ⟨_,g1,rfl,n1,rfl⟩ ⟨_,g2,rfl,n2,rfl⟩ ⟨_,g3,rfl,n3,rfl⟩ λh' n en a1 a2 a3 a4 a5 a6 a7=>?_;refine wpAny_pyIter_zip a1 ?_;refine⟨_,[n+5,n+3,n+4,n,n+1,n+2],_,ain l1 l2 l3,H1,rfl,I1.kept (t':=s1.toks) λb ob e=>a7 b ob e,aau _ _ _ _ _ _ l1 l2 l3 (apt _ _ _ _ (en ▸ z1) (en ▸ z2) (en ▸ z3)),⟨a1,a2,⟨_,_,_,a3⟩,a4,a5,a6⟩,λb hb=>?_,q⟩;have fc:s1.heap.objs.size<=b:=by
  simp only[YU,VY,or_false]at hb;rw[<- en];have go:∀n b:Nat,(b=n+5\/b=n+3\/b=n+4\/b=n\/b=n+1\/b=n+2)->n<=b:=by lia
  exact go n b hb
 exact I1.fpOk fc (I1.hok.fresh fc)
def Wh(ts us vs:zh):zh:=(ts.zip (us.zip vs)).map λp=>.tup [p.1,p.2.1,p.2.2]
def alB(r:RA):RI:=λo q=>r o λts=>match ts with|[.lst ts,.lst us,.lst vs]=>(ts.length=us.length/\us.length=vs.length)/\q (Wh ts us vs)|_=>False
def cg.three{F:Hp}{u v:T}(h:cg K F xs [t,u,v]):∃x y z,xs=[x,y,z]/\Rep K F x t/\Rep K F y u/\Rep K F z v:=by
 cases h with
 |cons a h =>
  obtain⟨y,z,rfl,ry,rz⟩:=h.two;exact⟨_,_,_,rfl,a,ry,rz⟩
def afx{x1}(hg:Gl X "zip")(hm:X.mg "zip"=none)(ha:QA X [a,b,c] r)(hs:starEach [a,b,c] X.env=[(false,eval a X.env),(false,eval b X.env),(false,eval c X.env)]:=by rfl)(dQ:starEach [b,c] X.env=[(false,eval b X.env),(false,eval c X.env)]:=by rfl):QI X (.Tuple aE x1 aw) (.Call (.Name "zip" p) [a,b,c] [] pos) (alB r):=(afm hg hm ha hs dQ).imp λσ H Q ⟨own,o,R,h,hr,k⟩=>⟨own,o,_,h,hr,λH1 vs ts q _ E1 r1=>by
 match ts,q with
 |[.lst ts,.lst us,.lst ws],⟨⟨l1,l2⟩,q⟩ =>
  obtain⟨x,y,z,rfl,rx,ry,rz⟩:=r1.three;obtain⟨a,xs,rfl,e,r⟩:=rx.lstI;obtain⟨b,ys,rfl,e2,r2⟩:=ry.lstI;obtain⟨c,zs,rfl,e3,r3⟩:=rz.lstI;have n1:=r.len;have n2:=r2.len;have n3:=r3.len;have lz:(ts.zip (us.zip ws)).length=ts.length:=by rw[WH,WH];lia
  refine⟨a,b,c,xs,ys,zs,rfl,(cH e).2,(cH e2).2,(cH e3).2,k H1 _ _ q E1 λS H2 i hs SF=>⟨λhi=>⟨xs,(cH (SF _ _ e)).2,?_⟩,λt ht=>?_⟩⟩
  .rw[Wh,ak,lz]at hi;lia
  .unfold Wh at ht;rw[aq]at ht;by_cases hi:i<ts.length
   .rw[aj (by rwa[lz]),TW,TW]at ht;cases ht;obtain⟨x,ex,rx⟩:=r.at_ (aj hi);obtain⟨y,ey,ry⟩:=r2.at_ (aj (show i<us.length by exact aR hi (WJ l1)));obtain⟨z,ez,rz⟩:=r3.at_ (aj (show i<ws.length by lia));refine⟨⟨xs,ys,zs,(cH (SF _ _ e)).2,(cH (SF _ _ e2)).2,(cH (SF _ _ e3)).2,by lia,by lia,by lia⟩,?_⟩;rintro v H3 ⟨fm,i6,zs',x',y',z',t,e',iE,kC,oq,kB,ez',n,rfl,rfl⟩;rw[(cH (SF _ _ e)).2]at e';cases e';rw[(cH (SF _ _ e2)).2]at iE;cases iE;rw[(cH (SF _ _ e3)).2]at kC;cases kC;rw[ex]at oq;cases oq;rw[ey]at kB;cases kB;rw[ez]at ez';cases ez';have S3:=SF.trans (bY (S:=S) (Same.upd (o:=.tup [x,y,z]) n));exact⟨Same.upd n,.tup (.of (RV n hs)) (.cons (rx.same S3) (.cons (ry.same S3) (.cons (rz.same S3) .nil)))⟩
   .rw[aM (by rw[lz];exact VS hi)]at ht;cases ht⟩
end L2
namespace Ac
def lw(t b:Int):Int×Int:=(t/(Int.gcd t b:Nat),b/(Int.gcd t b:Nat))
def aov{t b:Int}(hb:0<b):(0:Int)<(Int.gcd t b:Nat):=by
 have:=Zzw t (show b≠0 by exact WS hb);lia
def ZV{a b c:Int}(h:a ∣ b*c)(g:Int.gcd a b=1):a ∣ c:=by
 refine Int.natAbs_dvd_natAbs.mp ((show Nat.Coprime a.natAbs b.natAbs from g).dvd_of_dvd_mul_left ?_);rw[<- VV];exact Int.natAbs_dvd_natAbs.mpr h
def uniq{x y u v:Int}(hy:0<y)(hv:0<v)(g1:Int.gcd x y=1)(g2:Int.gcd u v=1)(e:x*v=u*y):x=u/\y=v:=by
 have d1:y ∣ v:=by
  have h:y ∣ x*v:=⟨u,by rw[e,Int.mul_comm]⟩;exact ZV h (by rw[Int.gcd_comm];exact g1)
 have d2:v ∣ y:=by
  have h:v ∣ u*y:=⟨x,by rw[<- e,Int.mul_comm]⟩;exact ZV h (by rwa[Int.gcd_comm])
 have e2:y=v:=Int.dvd_antisymm (XY hy) (XY hv) d1 d2;subst e2;exact⟨Int.eq_of_mul_eq_mul_right (WS hy) e,rfl⟩
section
variable{κ:Type}[DecidableEq κ]
def look(acc:List (κ×Int))(r:κ):Int:=((acc.find? λg=>decide (g.1=r)).map (·.2)).getD 0
def put(acc:List (κ×Int))(r:κ)(y:Int):List (κ×Int):=if(acc.any λg=>decide (g.1=r))=true then acc.map (λg=>if g.1=r then(g.1,y)else g)else acc++[(r,y)]
def apw(gs:List (κ×Int)):List (κ×Int):=gs.foldl (λa g=>put a g.1 (look a g.1+g.2)) []
def ways(gs:List (κ×Int))(S:Int):List (κ×Int×Int):=((apw gs).filter λg=>decide (0<g.2)).map λg=>(g.1,lw g.2 S)
end
end Ac
namespace Rw
open Ac
def rep(r:List Int×Int):Γ:=r.1.map λt=>lw t r.2
def gcL(ts:xz)(b:Int):Int:=ts.foldl (λc t=>((Int.gcd t c:Nat):Int)) b
theorem iw:∀{ts:xz}{b:Int},0<b->0<gcL ts b
 |[],_,h=>h
 |t::ts,b,h=>iw (ts:=ts) (aov (t:=t) h)
theorem iy:∀{ts:xz}{b:Int},gcL ts b ∣ b/\∀t∈ts,gcL ts b ∣ t
 |[],b=>⟨Int.dvd_refl b,by simp⟩
 |t::ts,b=>by
  obtain⟨h1,h2⟩:=iy (ts:=ts) (b:=((Int.gcd t b:Nat):Int));refine⟨Int.dvd_trans h1 (JJ t b),λx hx=>?_⟩;rcases YU.mp hx with rfl|hx
  .exact Int.dvd_trans h1 (Int.gcd_dvd_left x b)
  .exact h2 x hx
def uJ{ts:xz}{b:Int}(h:0<b):gcL ts b<=b:=Int.le_of_dvd h iy.1
def jg(r:List Int×Int):List Int×Int:=(r.1.map λt=>t/gcL r.1 r.2,r.2/gcL r.1 r.2)
def kZ(r:List Int×Int):(jg r).1.length=r.1.length:=by unfold jg;rw[ak]
def iY(r:List Int×Int)(c:Β):List Int×Int:=(r.1.map λt=>t*c.1,r.2*c.2)
def oM(r o:List Int×Int)(c:Β):List Int×Int :=
 (List.zipWith (λa b=>a*(o.2*c.2/((Int.gcd r.2 (o.2*c.2):Nat):Int))+b*(r.2/((Int.gcd r.2 (o.2*c.2):Nat):Int)*c.1)) r.1 o.1,r.2*(o.2*c.2/((Int.gcd r.2 (o.2*c.2):Nat):Int)))
structure Big(N:Nat)(r:List Int×Int):Prop where
 pos:0<r.2
 bot:r.2.natAbs<=N
 top:∀t∈r.1,t.natAbs<=N
variable{N:Nat}{R':Nat->Nat->Rat}
def Big.le{M:Nat}{r:List Int×Int}(h:Big N r)(hn:N<=M):Big M r:=⟨h.pos,aL h.bot hn,λt ht=>aL (h.top t ht) hn⟩
def VF{d t g x:Int}(h1:d ∣ t*x)(h2:d ∣ g*x):d ∣ ((Int.gcd t g:Nat):Int)*x:=by
 have h:=Int.dvd_coe_gcd h1 h2;rw[Int.gcd_mul_right]at h;rw[Qr]at h;rcases Int.natAbs_eq x with e|e
 .rw[e];exact h
 .rw[e,Int.mul_neg];exact Int.dvd_neg.mpr h
theorem zQ{d x:Int} : ∀{ts:xz}{b:Int},d ∣ b*x->(∀t∈ts,d ∣ t*x)->d ∣ gcL ts b*x
 |[],_,h,_=>h
 |t::ts,b,h,k=>zQ (ts:=ts) (VF (k t aO) h) λu hu=>k u (aJ _ hu)
def Alk(r s:List Int×Int):Prop:=r.1.length=s.1.length/\∀(k:Nat)(a b:Int),r.1[k]?=some a->s.1[k]?=some b->a*s.2=b*r.2
def mU{r:List Int×Int}(h:0<r.2):gcL (jg r).1 (jg r).2=1:=by
 have g0:=iw (ts:=r.1) h;obtain⟨d1,d2⟩:=iy (ts:=r.1) (b:=r.2);have p:0<(jg r).2:=Zzv h (XY g0) d1;have q0:=iw (ts:=(jg r).1) p;obtain⟨e1,e2⟩:=iy (ts:=(jg r).1) (b:=(jg r).2);have du:gcL (jg r).1 (jg r).2*gcL r.1 r.2 ∣ gcL r.1 r.2*1:=by
  refine zQ ?_ λt ht=>?_
  .obtain⟨u,hu⟩:=e1;have hu:r.2/gcL r.1 r.2=gcL (jg r).1 (jg r).2*u:=hu;refine⟨u,?_⟩;rw[Int.mul_one,Int.mul_right_comm,<- hu,Int.ediv_mul_cancel d1]
  .obtain⟨u,hu⟩:=e2 (t/gcL r.1 r.2) (YV.mpr ⟨t,ht,rfl⟩);refine⟨u,?_⟩;rw[Int.mul_one,Int.mul_right_comm,<- hu,Int.ediv_mul_cancel (d2 t ht)]
 rw[Int.mul_one]at du;have:=Int.le_of_dvd g0 du;have:gcL (jg r).1 (jg r).2<=1:=by
  refine Int.le_of_mul_le_mul_right (a:=gcL r.1 r.2) ?_ g0;lia
 lia
def least{r s:List Int×Int}(hr:0<r.2)(g:gcL r.1 r.2=1)(a:Alk r s)(h:Big N s):Big N r:=by
 have d:r.2 ∣ gcL r.1 r.2*s.2:=zQ ⟨s.2,rfl⟩ λt ht=>by
  obtain⟨k,hk,rfl⟩:=List.mem_iff_getElem.mp ht;have hs:k<s.1.length:=by rwa[<- a.1]
  rw[a.2 k _ _ (aj hk) (aj hs)];exact⟨_,Int.mul_comm _ _⟩
 rw[g,TU]at d;obtain⟨m,hm⟩:=d;have m0:0<m:=Int.pos_of_mul_pos_right (by rw[<- hm];exact h.pos) hr;refine⟨hr,?_,λt ht=>?_⟩
 .have:=Int.le_of_dvd h.pos ⟨m,hm⟩;have:=h.bot;lia
 .obtain⟨k,hk,rfl⟩:=List.mem_iff_getElem.mp ht;have hs:k<s.1.length:=by rwa[<- a.1]
  have e:=a.2 k _ _ (aj hk) (aj hs);rw[hm,Int.mul_comm r.2 m,<- Int.mul_assoc]at e;have e:=Int.eq_of_mul_eq_mul_right (WS hr) e;have b:=h.top _ (aU hs);rw[<- e,VV]at b;exact aL (Nat.le_mul_of_pos_right _ (by omega)) b
def gr(N:Nat):Nat->Nat
 |0=>N
 |m+1=>2*(gr N m*gr N m)
def sg(f:Nat->Rat):Nat->Rat
 |0=>0
 |n+1=>sg f n+f n
def sz(f:Nat->Int):Nat->Int
 |0=>0
 |n+1=>sz f n+f n
theorem jw(f g:Nat->Rat):∀n,sg (λj=>f j+g j) n=sg f n+sg g n
 |0=>by unfold sg;grind
 |n+1=>by unfold sg;rw[jw f g n];grind
theorem iZ(c:Rat)(f:Nat->Rat):∀n,sg (λj=>c*f j) n=c*sg f n
 |0=>by unfold sg;grind
 |n+1=>by unfold sg;rw[iZ c f n];grind
theorem cj{f g:Nat->Rat} : ∀{n},(∀j,j<n->f j=g j)->sg f n=sg g n
 |0,_=>rfl
 |n+1,h=>by unfold sg;rw[cj λj hj=>h j (WV _ hj),h n (X0 _)]
theorem jK:∀n,sg (λ_=>0) n=0
 |0=>rfl
 |n+1=>by unfold sg;rw[jK n];grind
theorem jW{v:Nat->Rat}{k:Nat} : ∀{n},sg (λj=>(if j=k then 1 else 0)*v j) n=if k<n then v k else 0
 |0=>by rw[ZZ (WZ _)];rfl
 |n+1=>by
  unfold sg;rw[jW];by_cases h:k<n
  .rw[ZY h,ZZ (VQ h),ZY (WV _ h)];grind
  .by_cases e:n=k
   .subst e;rw[ZZ h,ZY rfl,ZY (X0 _)];grind
   .rw[ZZ h,ZZ e,ZZ wv];grind
theorem RG(f:Nat->Nat->Rat)(m:Nat):∀n,sg (λk=>sg (λl=>f k l) m) n=sg (λl=>sg (λk=>f k l) n) m
 |0=>by
  show(0:Rat)=sg (λ_=>0) m;rw[jK]
 |n+1=>by
  show sg (λk=>sg (λl=>f k l) m) n+sg (λl=>f n l) m=sg (λl=>sg (λk=>f k l) n+f n l) m;rw[jw,RG f m n]
theorem Q0(f:Nat->Int):∀n,((sz f n:Int):Rat)=sg (λk=>(f k:Rat)) n
 |0=>Q3
 |n+1=>by unfold sz sg;rw[Rat.intCast_add,Q0 f n]
theorem K5{f:Nat->Int}{B:Nat} : ∀{n},(∀k,k<n->(f k).natAbs<=B)->(sz f n).natAbs<=n*B
 |0,_=>by unfold sz;simp
 |n+1,h=>by
  unfold sz;have:=K5 (n:=n) λk hk=>h k (WV _ hk);have:=h n (X0 _);rw[Nat.add_mul,Nat.one_mul];omega
theorem acN(f g:Nat->Int):∀n,sz (λk=>f k-g k) n=sz f n-sz g n
 |0=>rfl
 |n+1=>by unfold sz;rw[acN f g n];lia
theorem U6{f g:Nat->Int} : ∀{n},(∀j,j<n->f j=g j)->sz f n=sz g n
 |0,_=>rfl
 |n+1,h=>by unfold sz;rw[U6 λj hj=>h j (WV _ hj),h n (X0 _)]
theorem Ur{α:Type}(q:α->Bool):∀L:List α,(L.filter q).length+(L.filter λx=>!q x).length=L.length
 |[]=>rfl
 |x::L=>by
  have:=Ur q L;rw[List.filter_cons,List.filter_cons];cases h:q x with
  |true=>rw[ZY rfl,ZZ wf,List.length_cons,List.length_cons];lia
  |false=>rw[ZZ wf,ZY wf,List.length_cons,List.length_cons];lia
theorem abX{α:Type}(f:α->Nat)(n:Nat):∀(W:Nat)(L:List α),(∀x∈L,f x<W)->W*n<L.length->∃v,n<(L.filter λx=>f x==v).length
 |0,L,h,hl=>by
  cases L with
  |nil=>simp at hl
  |cons x L=>exact absurd (h x aO) (WZ _)
 |W+1,L,h,hl=>by
  by_cases e:n<(L.filter λx=>f x==W).length
  .exact⟨W,e⟩
  .have pl:=Ur (λx=>f x==W) L;rw[Nat.add_mul,Nat.one_mul]at hl;obtain⟨v,hv⟩:=abX f n W (L.filter λx=>!(f x==W)) (λx hx=>by
    obtain⟨a,b⟩:=List.mem_filter.mp hx;have:=h x a;have ne:f x≠W:=λz=>by rw[z]at b;simp at b
    lia) (by omega)
   exact⟨v,aR hv (List.Sublist.length_le (List.Sublist.filter _ List.filter_sublist))⟩
theorem digits_inj{W:Nat}(hW:0<W):∀(n c d:Nat),c<W^n->d<W^n->(∀k,k<n->c/W^k%W=d/W^k%W)->c=d
 |0,c,d,hc,hd,_=>by
  rw[Nat.pow_zero]at hc hd;lia
 |n+1,c,d,hc,hd,h=>by
  have h0:=h 0 (TH _);rw[Nat.pow_zero,Nat.div_one,Nat.div_one]at h0;have e:=digits_inj hW n (c/W) (d/W) (Nat.div_lt_of_lt_mul (by rwa[TK,<- Nat.pow_succ])) (Nat.div_lt_of_lt_mul (by rw[TK,<- Nat.pow_succ];exact hd)) λk hk=>by
   have:=h (k+1) (Nat.succ_lt_succ hk);rw[Nat.div_div_eq_div_mul,Nat.div_div_eq_div_mul,<- Nat.pow_succ'];exact this
  rw[<- Nat.div_add_mod c W,<- Nat.div_add_mod d W,e,h0]
theorem aaD{p:Nat}(hN:1<=N):(2*((p+1)*((2*(p+1)*N)^p*N))+1)^p<((2*(p+1)*N)^p+1)^(p+1):=by
 have w:2*((p+1)*((2*(p+1)*N)^p*N))+1<=2*(p+1)*N*((2*(p+1)*N)^p+1):=by
  have e:2*((p+1)*((2*(p+1)*N)^p*N))=2*(p+1)*N*(2*(p+1)*N)^p:=by ac_rfl
  have x1:1<=2*(p+1)*N:=VU (show 1<=2*(p+1)by lia) hN;rw[e];generalize 2*(p+1)*N=X at *;rw[Nat.mul_add,Nat.mul_one];exact Nat.add_le_add_left x1 _
 refine Y3 (Nat.pow_le_pow_left w p) ?_;rw[Nat.mul_pow,Nat.pow_succ,TK];exact Nat.mul_lt_mul_of_pos_left (X0 _) (Nat.pow_pos (TH _))
theorem abC{p:Nat}{C:Nat->Nat->Int}(hN:1<=N)(hC:∀k l,k<=p->l<p->(C k l).natAbs<=N) :
  ∃aI:Nat->Int,(∃k,k<=p/\aI k≠0)/\(∀k,(aI k).natAbs<=(2*(p+1)*N)^p)/\∀l,l<p->sz (λk=>aI k*C k l) (p+1)=0:=by
 have ps:=aaD (p:=p) hN;generalize hB:(2*(p+1)*N)^p=B at *;generalize hO:(p+1)*(B*N)=O at *;have oz:∀c k:Nat,c/(B+1)^k%(B+1)<=B:=λc k=>VT (Nat.mod_lt _ (TH _));have eb:∀l c,l<p->(sz (λk=>((c/(B+1)^k%(B+1):Nat):Int)*C k l) (p+1)).natAbs<=O:=λl c hl=>by
  rw[<- hO];refine K5 λk hk=>?_;rw[VV,XT];exact VU (oz c k) (hC k l (VT hk) hl)
 have all:∀q,q<=p->∃L:zn,L.Nodup/\(∀c∈L,c<(B+1)^(p+1))/\(∀l,l<q->∀c∈L,∀d∈L,sz (λk=>((c/(B+1)^k%(B+1):Nat):Int)*C k l) (p+1)=sz (λk=>((d/(B+1)^k%(B+1):Nat):Int)*C k l) (p+1))/\(2*O+1)^(p-q)<L.length:=by
  intro q
  induction q with
  |zero=>exact λ_=>⟨List.range ((B+1)^(p+1)),List.nodup_range,λc hc=>List.mem_range.mp hc,λl hl=>absurd hl (WZ _),by rwa[WP,Nat.sub_zero]⟩
  |succ q ih =>
   intro hq;obtain⟨L,nd,lt,eq,ln⟩:=ih (aL (Xs _) hq);have e1:(2*O+1)^(p-q)=(2*O+1)*(2*O+1)^(p-(q+1)):=by rw[<- Nat.pow_succ',show(p-(q+1)).succ=p-q by lia]
   rw[e1]at ln;obtain⟨v,hv⟩:=abX (λc=>(sz (λk=>((c/(B+1)^k%(B+1):Nat):Int)*C k q) (p+1)+O).toNat) _ _ L (λc _=>by
    have:=eb q c (aR (X0 _) hq);omega) ln
   refine⟨_,List.Pairwise.sublist List.filter_sublist nd,λc hc=>lt c (List.mem_filter.mp hc).1,λl hl c hc d hd=>?_,hv⟩;obtain⟨c1,c2⟩:=List.mem_filter.mp hc;obtain⟨d1,d2⟩:=List.mem_filter.mp hd;by_cases e:l<q
   .exact eq l e c c1 d d1
   .have e:l=q:=by lia
    subst e;have c2:=beq_iff_eq.mp c2;have d2:=beq_iff_eq.mp d2;have:=eb l c (aR hl hq);have:=eb l d (aR hl hq);omega
 obtain⟨L,nd,lt,eq,ln⟩:=all p (aG p);rw[UH,Nat.pow_zero]at ln
 match L,nd,lt,eq,ln with
 |c::d::L,nd,lt,eq,_ =>
  have ne:c≠d:=λz=>by
   rw[z]at nd;exact(List.nodup_cons.mp nd).1 aO
  refine⟨λk=>((c/(B+1)^k%(B+1):Nat):Int)-((d/(B+1)^k%(B+1):Nat):Int),?_,λk=>?_,λl hl=>?_⟩
  .by_cases h:∀k,k<p+1->c/(B+1)^k%(B+1)=d/(B+1)^k%(B+1)
   .exact absurd (digits_inj (TH B) (p+1) c d (lt c aO) (lt d (aJ _ aO)) h) ne
   .obtain⟨k,hk⟩:=Classical.not_forall.mp h;obtain⟨k1,k2⟩:=Classical.not_imp.mp hk;exact⟨k,by exact VT k1,λz=>k2 (by
     have z:((c/(B+1)^k%(B+1):Nat):Int)-((d/(B+1)^k%(B+1):Nat):Int)=0:=z;generalize c/(B+1)^k%(B+1)=x at *;generalize d/(B+1)^k%(B+1)=y at *;lia)⟩
  .have:=oz c k;have:=oz d k;show(((c/(B+1)^k%(B+1):Nat):Int)-((d/(B+1)^k%(B+1):Nat):Int)).natAbs<=B;omega
  .rw[U6 (g:=λk=>((c/(B+1)^k%(B+1):Nat):Int)*C k l-((d/(B+1)^k%(B+1):Nat):Int)*C k l) λk _=>Int.sub_mul _ _ _,acN,eq l hl c aO d (aJ _ aO)];exact Int.sub_self _
 |[_],_,_,_,ln=>exact absurd ln wf
 |[],_,_,_,ln=>exact absurd ln wf
structure gD(A:Nat->Nat->Int)(b:Nat->Int)(m wd:Nat)(R:Nat->Nat->Rat)(p:Nat)(pv s:Nat->Nat):Prop where
 pm:p<=m
 sm:∀i,i<m->s i<m
 pw:∀l,l<p->pv l<wd
 unit:∀i l,i<m->l<p->R i (pv l)=if i=l then 1 else 0
 dec:∀i j,i<m->j<wd->(A (s i) j:Rat)=(if i<p then 0 else(b (s i):Rat)*R i j)+sg (λl=>(A (s i) (pv l):Rat)*R l j) p
 ind:∀aI:Nat->Rat,(∀j,j<wd->sg (λk=>aI k*(A (s k) j:Rat)) p=0)->∀k,k<p->aI k=0
section
variable{A:Nat->Nat->Int}{b:Nat->Int}{m wd p:Nat}{R:Nat->Nat->Rat}{pv s:Nat->Nat}
def gD.comb(h:gD A b m wd R p pv s)(aI:Nat->Rat){j:Nat}(hj:j<wd):sg (λk=>aI k*(A (s k) j:Rat)) p=sg (λl=>sg (λk=>aI k*(A (s k) (pv l):Rat)) p*R l j) p:=by
 have pm:=h.pm;rw[cj (g:=λk=>sg (λl=>aI k*(A (s k) (pv l):Rat)*R l j) p) λk hk=>?_]
 .rw[RG];refine cj λl hl=>?_;rw[cj (g:=λk=>R l j*(aI k*(A (s k) (pv l):Rat))) λk _=>Rat.mul_comm _ _,iZ,Rat.mul_comm]
 .rw[h.dec k j (aR hk pm) hj,ZY hk,JU,<- iZ];exact cj λl _=>(Rat.mul_assoc _ _ _).symm
def jc{x:Int}(h:x≠0):(x:Rat)≠0:=λz=>h (Rat.intCast_inj.mp (z.trans Rat.intCast_zero.symm))
def ant{m q:Nat}(hN:1<=N)(hq:q+1<=m):(2*(q+1)*N)^(q+1)<=(2*m*N)^m:=by
 have x:2*(q+1)*N<=2*m*N:=VU wv (aG N);have y:1<=2*m*N:=VU (show 1<=2*m by lia) hN;exact aL (Nat.pow_le_pow_left x _) (XU y hq)
def agf{m q:Nat}(hN:1<=N)(hq:q+1<=m):(q+1)*((2*(q+1)*N)^q*N)<=(2*m*N)^m:=by
 refine aL ?_ (ant hN hq);have e:(2*(q+1)*N)^(q+1)=2*((q+1)*((2*(q+1)*N)^q*N)):=by
  rw[Nat.pow_succ];ac_rfl
 lia
def gD.bound(h:gD A b m wd R p pv s)(hN:1<=N)(hA:∀i j,i<m->j<wd->(A i j).natAbs<=N)(hb:∀i,i<m->0<b i/\(b i).natAbs<=N){i:Nat}(hi:i<m) :
    ∃(v:Nat->Int)(u:Int),u≠0/\u.natAbs<=(2*m*N)^m/\(∀j,j<wd->(v j).natAbs<=(2*m*N)^m)/\∀j,j<wd->R i j*(u:Rat)=(v j:Rat):=by
  have pm:=h.pm;by_cases ip:i<p
  . obtain⟨q,rfl⟩ : ∃q,p=q+1:=⟨p-1,by lia⟩
    obtain⟨aI,⟨k0,eW,jI⟩,bl,zr⟩:=abC (p:=q) (C:=λk l=>A (s k) (if l<i then pv l else pv (l+1))) hN λk l hk hl=>by
      refine hA _ _ (h.sm k wv) ?_;by_cases e:l<i
      . rw[ZY e];exact h.pw l (WV _ hl)
      . rw[ZZ e];exact h.pw (l+1) (Nat.succ_lt_succ hl)
    have cast:∀j,((sz (λk=>aI k*A (s k) j) (q+1):Int):Rat)=sg (λk=>(aI k:Rat)*(A (s k) j:Rat)) (q+1):=λj=>by
      rw[Q0];exact cj λk _=>XV _ _
    have zl:∀l,l<q+1->l≠i->sz (λk=>aI k*A (s k) (pv l)) (q+1)=0:=λl hl ne=>by
      by_cases e:l<i
      . have:=zr l (aR e (VT ip))
        rw[ZY e]at this;exact this
      . have:=zr (l-1) (by omega)
        rw[ZZ wv,show l-1+1=l by lia]at this;exact this
    have du:∀j,j<wd->((sz (λk=>aI k*A (s k) j) (q+1):Int):Rat)=((sz (λk=>aI k*A (s k) (pv i)) (q+1):Int):Rat)*R i j:=λj hj=>by
      rw[cast,h.comb (λk=>(aI k:Rat)) hj,cj (g:=λl=>(if l=i then 1 else 0)*(((sz (λk=>aI k*A (s k) (pv i)) (q+1):Int):Rat)*R l j)) λl hl=>?_,jW,ZY ip];rw[<- cast (pv l)];by_cases e:l=i
      . rw[ZY e,e,Rat.one_mul]
      . rw[ZZ e,zl l hl e,Q3];grind
    refine⟨λj=>sz (λk=>aI k*A (s k) j) (q+1),sz (λk=>aI k*A (s k) (pv i)) (q+1),λz=>?_,?_,λj hj=>?_,λj hj=>?_⟩
    . have:=h.ind (λk=>(aI k:Rat)) (λj hj=>by
        rw[<- cast,du j hj,z,Q3];grind) k0 (Y3 eW (X0 _))
      exact jc jI this
    . exact aL (K5 λk hk=>by rw[VV];exact VU (bl k) (hA _ _ (h.sm k (aR hk pm)) (h.pw i ip))) (agf hN (by omega))
    . exact aL (K5 λk hk=>by rw[VV];exact VU (bl k) (hA _ _ (h.sm k (aR hk pm)) hj)) (agf hN (by omega))
    . rw[du j hj,Rat.mul_comm]
  . obtain⟨aI,⟨k0,eW,jI⟩,bl,zr⟩:=abC (p:=p) (C:=λk l=>A (s (if k<p then k else i)) (pv l)) hN λk l hk hl=>by
      refine hA _ _ (h.sm _ ?_) (h.pw l hl);by_cases e:k<p
      . rw[ZY e];exact aR e pm
      . rwa[ZZ e]
    have cast:∀j,((sz (λk=>aI k*A (s (if k<p then k else i)) j) (p+1):Int):Rat)=sg (λk=>(aI k:Rat)*(A (s k) j:Rat)) p+(aI p:Rat)*(A (s i) j:Rat):=λj=>by
      rw[Q0];show sg _ p+((aI p*A (s (if p<p then p else i)) j:Int):Rat)=_;rw[ZZ (X2 _),XV,cj (g:=λk=>(aI k:Rat)*(A (s k) j:Rat)) λk hk=>by rw[ZY hk,XV]]
    have du:∀j,j<wd->((sz (λk=>aI k*A (s (if k<p then k else i)) j) (p+1):Int):Rat)=((aI p*b (s i):Int):Rat)*R i j:=λj hj=>by
      have e0:sg (λl=>sg (λk=>(aI k:Rat)*(A (s k) (pv l):Rat)) p*R l j) p+(aI p:Rat)*sg (λl=>(A (s i) (pv l):Rat)*R l j) p=0:=by
        rw[<- iZ,<- jw,cj (g:=λ_=>0) λl hl=>?_,jK];have:=cast (pv l);rw[zr l hl,Q3]at this
        calc _=(sg (λk=>(aI k:Rat)*(A (s k) (pv l):Rat)) p+(aI p:Rat)*(A (s i) (pv l):Rat))*R l j:=by grind
          _=0:=by rw[<- this];grind
      rw[cast,h.comb (λk=>(aI k:Rat)) hj,h.dec i j hi hj,ZZ ip,XV]
      grind
    have bp:=hb _ (h.sm i hi);have lp:aI p≠0:=λz=>by
      have kp:k0<p:=by
        by_cases e:k0=p
        . rw[e,z]at jI;exact absurd rfl jI
        . exact XX eW e
      have:=h.ind (λk=>(aI k:Rat)) (λj hj=>by
        have c:=cast j;rw[du j hj,z,Int.zero_mul,Q3]at c
        grind) k0 kp
      exact jc jI this
    refine⟨λj=>sz (λk=>aI k*A (s (if k<p then k else i)) j) (p+1),aI p*b (s i),λz=>?_,?_,λj hj=>?_,λj hj=>?_⟩
    . rcases Int.mul_eq_zero.mp z with y|y
      . exact lp y
      . lia
    . rw[VV]
      refine aL (VU (bl p) bp.2) (aL ?_ (agf hN (show p+1<=m by lia)));exact Zzu _ (TH p)
    . exact aL (K5 λk hk=>by
        rw[VV];refine VU (bl k) (hA _ _ (h.sm _ ?_) hj);by_cases e:k<p
        . rw[ZY e];exact aR e pm
        . rwa[ZZ e]) (agf hN (show p+1<=m by lia))
    . rw[du j hj,Rat.mul_comm]
def gD.congr(h:gD A b m wd R p pv s)(e:∀i j,i<m->R i j=R' i j):gD A b m wd R' p pv s:=by
 have pm:=h.pm;refine⟨h.pm,h.sm,h.pw,λi l hi hl=>by rw[<- e i _ hi];exact h.unit i l hi hl,λi j hi hj=>?_,h.ind⟩;rw[h.dec i j hi hj,e i j hi,cj λl hl=>by rw[e l j (aR hl pm)]]
def gD.zero(hb:∀i,i<m->0<b i):gD A b m wd (λi j=>(A i j:Rat)/(b i:Rat)) 0 pv id:=by
 refine⟨aZ _,λi hi=>hi,λl hl=>absurd hl (WZ _),λi l _ hl=>absurd hl (WZ _),λi j hi hj=>?_,λaI _ k hk=>absurd hk (WZ _)⟩;rw[ZZ (WZ _)];have:=jc (WS (hb i hi));show(A i j:Rat)=(b i:Rat)*((A i j:Rat)/(b i:Rat))+0
 grind
def sw(p q x:Nat):Nat:=if x=p then q else if x=q then p else x
def gD.swap(h:gD A b m wd R p pv s){q:Nat}(hp:p<=q)(hq:q<m)(hR:∀i j,i<m->j<wd->R' i j=R (sw p q i) j):gD A b m wd R' p pv (λi=>s (sw p q i)):=by
 have pm:=h.pm;have sl:∀l,l<p->sw p q l=l:=λl hl=>by unfold sw;rw[ZZ (aQ hl),ZZ wv]
 have sm:∀i,i<m->sw p q i<m:=λi hi=>by
  unfold sw;split
  .exact hq
  .split<;>omega
 have sp:∀i,(sw p q i<p)↔i<p:=λi=>by
  unfold sw;split
  .lia
  .split<;>lia
 refine⟨pm,λi hi=>h.sm _ (sm i hi),h.pw,λi l hi hl=>?_,λi j hi hj=>?_,λaI hz=>?_⟩
 .rw[hR i _ hi (h.pw l hl),h.unit _ l (sm i hi) hl];by_cases e:i=l
  .rw[ZY e,e,ZY (sl l hl)]
  .rw[ZZ e,ZZ λz=>e ?_];have:i<p:=(sp i).mp (Y3 (WJ z) hl);rw[<- z,sl i this]
 .rw[h.dec _ j (sm i hi) hj,hR i j hi hj]
  congr 1
  .by_cases e:i<p
   .rw[ZY e,ZY ((sp i).mpr e)]
   .rw[ZZ e,ZZ λz=>e ((sp i).mp z)]
  .exact cj λl hl=>by rw[hR l j (aR hl pm) hj,sl l hl]
 .exact h.ind aI λj hj=>by
   rw[<- hz j hj];exact cj λk hk=>by rw[sl k hk]
def gD.pivot(h:gD A b m wd R p pv s)(hp:p<m)(hb:∀i,i<m->0<b i){c:Nat}(hc:c<wd)(h0:R p c≠0)(my:∀j,j<wd->R' p j*R p c=R p j)(mP:∀i j,i<m->i≠p->j<wd->R' i j=R i j-R i c*R' p j) :
  gD A b m wd R' (p+1) (λl=>if l=p then c else pv l) s:=by
 have pm:=h.pm;have one:R' p c=1:=by
  have:=my c hc
  grind
 have zp:∀l,l<p->R' p (pv l)=0:=λl hl=>by
  have:=my (pv l) (h.pw l hl);rw[h.unit p l hp hl,ZZ (VQ hl)]at this
  grind
 have pvl:∀l,l<p->(if l=p then c else pv l)=pv l:=λl hl=>ZZ (aQ hl);have old:∀i j,i<m->i≠p->j<wd->R i j=R' i j+R i c*R' p j:=λi j hi ne hj=>by rw[mP i j hi ne hj];grind
 have dec:∀i j,i<m->j<wd->(A (s i) j:Rat)=(if i<p+1 then 0 else(b (s i):Rat)*R' i j)+sg (λl=>(A (s i) (if l=p then c else pv l):Rat)*R' l j) (p+1):=λi j hi hj=>by
  have dj:=h.dec i j hi hj;have dc:=h.dec i c hi hc;have ej:sg (λl=>(A (s i) (pv l):Rat)*R l j) p=sg (λl=>(A (s i) (pv l):Rat)*R' l j) p+R' p j*sg (λl=>(A (s i) (pv l):Rat)*R l c) p:=by
   rw[<- iZ,<- jw];exact cj λl hl=>by rw[old l j (Tk hl hp) (aQ hl) hj];grind
  rw[ej]at dj;show _=_+(sg _ p+(A (s i) (if p=p then c else pv p):Rat)*R' p j);rw[ZY rfl,cj (g:=λl=>(A (s i) (pv l):Rat)*R' l j) λl hl=>by rw[pvl l hl]];by_cases e:i<p
  .rw[ZY (WV _ e)];rw[ZY e]at dj dc
   grind
  .rw[ZZ e]at dj dc;by_cases e2:i=p
   .rw[ZY wv];subst e2;have:=my j hj
    grind
   .rw[ZZ wv];have:=old i j hi e2 hj
    grind
 refine⟨hp,h.sm,λl hl=>?_,λi l hi hl=>?_,dec,λaI hz=>?_⟩
 .by_cases e:l=p
  .show(if l=p then c else pv l)<wd;rwa[ZY e]
  .show(if l=p then c else pv l)<wd;rw[ZZ e];exact h.pw l (XX (VT hl) e)
 .show R' i (if l=p then c else pv l)=_;by_cases e:l=p
  .rw[ZY e,e];by_cases ip:i=p
   .rw[ZY ip,ip];exact one
   .rw[ZZ ip,mP i c hi ip hc,one];grind
  .rw[ZZ e];have iO:l<p:=by exact XX (VT hl) e
   by_cases ip:i=p
   .rw[ip,zp l iO,ZZ (Ne.symm e)]
   .rw[mP i _ hi ip (h.pw l iO),zp l iO,h.unit i l hi iO];grind
 .have lp:aI p=0:=by
   by_cases z:aI p=0
   .exact z
   .exfalso

    have hj:∀j,j<wd->sg (λk=>aI k*(A (s k) j:Rat)) p=-(aI p*(A (s p) j:Rat)):=λj hj=>by
     have:sg (λk=>aI k*(A (s k) j:Rat)) p+aI p*(A (s p) j:Rat)=0:=hz j hj
     grind
    have df:=h.comb aI hc;rw[hj c hc,cj (g:=λl=>-(aI p)*((A (s p) (pv l):Rat)*R l c)) λl hl=>by rw[hj _ (h.pw l hl)];grind,iZ]at df;have dc:=h.dec p c hp hc;rw[ZZ (X2 p)]at dc;have b0:=jc (WS (hb _ (h.sm p hp)));have:aI p*((b (s p):Rat)*R p c)=0:=by rw[dc]at df;grind
    grind
  intro k hk;by_cases e:k=p
  .rw[e];exact lp
  .refine h.ind aI (λj hj=>?_) k (XX (VT hk) e);have:sg (λk=>aI k*(A (s k) j:Rat)) p+aI p*(A (s p) j:Rat)=0:=hz j hj;rw[lp]at this
   grind
end
def vr(r:List Int×Int)(j:Nat):Rat:=((r.1.getD j 0:Int):Rat)/(r.2:Rat)
def Ou{f:Int->Int}(h0:f 0=0)(xs:xz)(j:Nat):(xs.map f).getD j 0=f (xs.getD j 0):=by
 rw[au,au,aq];cases xs[j]? with
 |none=>exact h0.symm
 |some t=>rfl
theorem rG{r:List Int×Int}(h:0<r.2)(j:Nat):vr (jg r) j=vr r j:=by
 have g0:=iw (ts:=r.1) h;obtain⟨d1,d2⟩:=iy (ts:=r.1) (b:=r.2);have e1:(jg r).1.getD j 0=r.1.getD j 0/gcL r.1 r.2:=Ou (f:=λt=>t/gcL r.1 r.2) (Int.zero_ediv _) r.1 j;have d3:gcL r.1 r.2 ∣ r.1.getD j 0:=by
  rw[au];cases e:r.1[j]? with
  |none=>exact⟨0,by rw[Int.mul_zero];rfl⟩
  |some t=>exact d2 t (aC e)
 have e2:(jg r).2=r.2/gcL r.1 r.2:=rfl;unfold vr;rw[e1,e2];generalize r.1.getD j 0=t at *;generalize gcL r.1 r.2=g at *;obtain⟨u,hu⟩:=d3;obtain⟨v,hv⟩:=d1;rw[hu,hv,Q4 _ (WS g0),Q4 _ (WS g0),XV,XV];have v0:v≠0:=λz=>by rw[hv,z,Int.mul_zero]at h;lia
 have:=jc v0;have:=jc (WS g0)
 grind
def jZ{r:List Int×Int}{c:Β}(h:0<r.2)(hc:0<c.2)(j:Nat):vr (iY r c) j=vr r j*((c.1:Rat)/(c.2:Rat)):=by
 have e1:(iY r c).1.getD j 0=r.1.getD j 0*c.1:=Ou (f:=λt=>t*c.1) (Int.zero_mul _) r.1 j;have e2:(iY r c).2=r.2*c.2:=rfl;unfold vr;rw[e1,e2,XV,XV];have:=jc (WS h);have:=jc (WS hc)
 grind
theorem n8{r p:List Int×Int}{c:Β}(hr:0<r.2)(hp:0<p.2)(hc:0<c.2)(hl:r.1.length=p.1.length)(j:Nat):vr (oM r p c) j=vr r j+((c.1:Rat)/(c.2:Rat))*vr p j:=by
 have hB:=XZ hp hc;have g0:=aov (t:=r.2) hB;obtain⟨u,hu⟩:=Int.gcd_dvd_left r.2 (p.2*c.2);obtain⟨v,hv⟩:=JJ r.2 (p.2*c.2);have es:oM r p c=(List.zipWith (λx y=>x*v+y*(u*c.1)) r.1 p.1,r.2*v):=by
  unfold oM;generalize((Int.gcd r.2 (p.2*c.2):Nat):Int)=g at g0 hu hv ⊢;have e1:p.2*c.2/g=v:=by rw[hv,Q4 _ (WS g0)]
  have e2:r.2/g=u:=by
   conv=>lhs;rw[hu]
   exact Q4 _ (WS g0)
  rw[e1,e2]
 generalize((Int.gcd r.2 (p.2*c.2):Nat):Int)=g at g0 hu hv;have v0:0<v:=Int.pos_of_mul_pos_right (by rwa[<- hv]) g0;have ez:(List.zipWith (λx y=>x*v+y*(u*c.1)) r.1 p.1).getD j 0=r.1.getD j 0*v+p.1.getD j 0*(u*c.1):=by
  rw[au,au,au,List.getElem?_zipWith];by_cases e:j<r.1.length
  .rw[aj e,aj (aR e (WJ hl))];rfl
  .rw[aM (VS e),aM wv];show(0:Int)=0*v+0*(u*c.1);rw[Int.zero_mul,Int.zero_mul];rfl
 rw[es];unfold vr;show((List.zipWith (λx y=>x*v+y*(u*c.1)) r.1 p.1).getD j 0:Rat)/((r.2*v:Int):Rat)=_;rw[ez];generalize r.1.getD j 0=x;generalize p.1.getD j 0=y;have hu':(r.2:Rat)=(g:Rat)*(u:Rat):=by rw[<- XV,<- hu]
 have mn:(p.2:Rat)*(c.2:Rat)=(g:Rat)*(v:Rat):=by rw[<- XV,<- XV,hv]
 have r0:=jc (WS hr);have p0:=jc (WS hp);have c0:=jc (WS hc);have q0:=jc (WS v0);have k0:=jc (WS g0);rw[Rat.intCast_add,XV,XV,XV,XV];generalize(r.2:Rat)=r2 at *;generalize(p.2:Rat)=p2 at *;generalize(c.2:Rat)=c2 at *;generalize(c.1:Rat)=c1 at *;generalize(g:Rat)=gg at *;generalize(u:Rat)=uu at *;generalize(v:Rat)=vv at *;generalize(x:Rat)=xx at *;generalize(y:Rat)=yy at *;have e1:(xx*vv+yy*(uu*c1))/(r2*vv)=xx/r2+yy*(uu*c1)/(r2*vv):=by grind
 have e2:yy*(uu*c1)/(r2*vv)=c1/c2*(yy/p2):=by
  have:uu*(c2*p2)=r2*vv:=by rw[hu',Rat.mul_comm c2 p2,mn];grind
  grind
 rw[e1,e2]
def nY{M wd:Nat}{r:List Int×Int}(hr:0<r.2)(g:gcL r.1 r.2=1)(hw:r.1.length=wd){v:Nat->Int}{u:Int}(u0:u≠0)(ub:u.natAbs<=M)(vb:∀j,j<wd->(v j).natAbs<=M)(e:∀j,j<wd->vr r j*(u:Rat)=(v j:Rat)):Big M r:=by
 refine least (s:=((List.range wd).map λj=>v j*u.sign,u.natAbs)) hr g ⟨?_,λk a b ha hb=>?_⟩ ⟨?_,?_,λt ht=>?_⟩
 .show r.1.length=((List.range wd).map λj=>v j*u.sign).length;rw[hw,ak,WP]
 .have kw:k<wd:=by rw[<- hw];exact(ao.mp ha).1
  have hb:((List.range wd).map λj=>v j*u.sign)[k]?=some b:=hb;rw[aq,VX kw]at hb;cases hb;show a*((u.natAbs:Nat):Int)=v k*u.sign*r.2;have ek:=e k kw;unfold vr at ek;rw[au,ha]at ek;have ek:(a:Rat)/(r.2:Rat)*(u:Rat)=(v k:Rat):=ek;have r0:=jc (WS hr);have k2:a*u=v k*r.2:=by
   refine Rat.intCast_inj.mp ?_;rw[XV,XV]
   grind
  have k1:((u.natAbs:Nat):Int)=u*u.sign:=(Int.mul_sign_self u).symm;rw[k1,<- Int.mul_assoc,k2];ac_rfl
 .show(0:Int)<(u.natAbs:Nat);lia
 .show(((u.natAbs:Nat):Int)).natAbs<=M;rwa[XT]
 .obtain⟨j,hj,rfl⟩:=YV.mp ht;rw[VV,Int.natAbs_sign_of_ne_zero u0,Nat.mul_one];exact vb j (List.mem_range.mp hj)
end Rw
namespace K39
open PySem PyProof.Rows L2
abbrev Cy:=top 10
abbrev lF:Str:="is_whole"
def Va:bL Xu h_ (bH Cy):=fsc
abbrev GQ:=top 11
abbrev lg:Str:="divisor"
def Xe:bL Ot cN (bH GQ):=fsc
abbrev Tg:=top 15
abbrev qp:Str:="ratio"
def aei:bL R8 mH (bH Tg):=fsc
abbrev CQ:=top 16
abbrev oJ:Str:="is_ratio"
def Wa:bL CJ jm (bH CQ):=fsc
abbrev Yo:=top 17
abbrev Qi:Str:="plus"
def af3:bL ahQ Dj (bH Yo):=fsc
abbrev RM:=top 18
abbrev xT:Str:="minus"
def adN:bL agF qT (bH RM):=fsc
abbrev Qf:=top 19
abbrev LR:Str:="times"
def abn:bL afM z_ (bH Qf):=fsc
abbrev Wv:=top 20
abbrev Rz:Str:="over"
def afU:bL ah8 El (bH Wv):=fsc
abbrev Rn:=top 21
abbrev uQ:Str:="under"
def abZ:bL aez oU (bH Rn):=fsc
abbrev Jd:=top 23
abbrev uR:Str:="level"
def ad5:bL YW oG (bH Jd):=fsc
abbrev Tj:=top 24
abbrev Kp:Str:="total"
def ac8:bL RN yX (bH Tj):=fsc
abbrev CW:=top 25
abbrev oH:Str:="greatest"
def VR:bL rE lD (bH CW):=fsc
abbrev Q8:=top 26
abbrev zT:Str:="least"
def abV:bL afg uO (bH Q8):=fsc
abbrev pK:=top 28
abbrev nW:Str:="first_plan"
def Mf:bL vB iU (bH pK):=fsc
abbrev Xm:=top 29
abbrev Tv:Str:="fits"
def afG:bL Wt Fe (bH Xm):=fsc
abbrev vo:=top 30
abbrev uy:Str:="check_plan"
def NK:bL wu j5 (bH vo):=fsc
abbrev jX:=top 31
abbrev rO:Str:="behind_door"
def Kv:bL j4 jB (bH jX):=fsc
abbrev Fi:=top 33
abbrev Ak:Str:="lowest"
def abl:bL Vq pZ (bH Fi):=fsc
abbrev sJ:=top 34
abbrev vH:Str:="row_times"
def Tp:bL xX mq (bH sJ):=fsc
abbrev u9:=top 35
abbrev zU:Str:="row_plus"
def HN:bL Cj oR (bH u9):=fsc
abbrev Ae:=top 36
abbrev vh:Str:="take_step"
def Sd:bL zK mJ (bH Ae):=fsc
abbrev zB:=top 37
abbrev pX:Str:="number_at"
def Sv:bL yJ jL (bH zB):=fsc
abbrev jy:=top 38
abbrev o9:Str:="fractions_of"
def Il:bL jf iQ (bH jy):=fsc
abbrev wL:=top 39
abbrev uG:Str:="first_from"
def Mj:bL Du jY (bH wL):=fsc
abbrev Tz:=top 40
abbrev Dz:Str:="go_on"
def ad0:bL Q5 uP (bH Tz):=fsc
abbrev yM:=top 41
abbrev vI:Str:="begin_row"
def PN:bL Ho lV (bH yM):=fsc
abbrev qO:=top 42
abbrev o8:Str:="clear_column"
def HW:bL zR iM (bH qO):=fsc
abbrev Ai:=top 43
abbrev Ci:Str:="reduced"
def Ky:bL G4 rY (bH Ai):=fsc
abbrev Ca:=top 45
abbrev zG:Str:="width_of"
def Vu:bL Xv oh (bH Ca):=fsc
abbrev nU:=top 46
abbrev qZ:Str:="with_rights"
def Jy:bL um jz (bH nU):=fsc
abbrev sH:=top 47
abbrev vK:Str:="begins_of"
def DP:bL yx mC (bH sH):=fsc
abbrev Gf:=top 48
abbrev CP:Str:="odd_row"
def Yx:bL Gn qz (bH Gf):=fsc
abbrev yC:=top 49
abbrev vR:Str:="answer_of"
def Rf:bL Hr mW (bH yC):=fsc
abbrev kj:=top 50
abbrev qG:Str:="single_rows"
def JD:bL j7 jD (bH kj):=fsc
abbrev tU:=top 51
abbrev qu:Str:="only_answer"
def LQ:bL Bw ju (bH tU):=fsc
abbrev wH:=top 53
abbrev kh:Str:="goal_marks"
def M9:bL vX eV (bH wH):=fsc
abbrev qR:=top 54
abbrev yO:Str:="leads_of"
def Ut:bL q_ oV (bH qR):=fsc
abbrev Jk:=top 55
abbrev yI:Str:="meets"
def aci:bL Rg qI (bH Jk):=fsc
abbrev Al:=top 56
abbrev rR:Str:="by_some"
def Yr:bL Hl m9 (bH Al):=fsc
abbrev Aw:=top 57
abbrev rW:Str:="by_each"
def Wo:bL Gg nJ (bH Aw):=fsc
abbrev m5:=top 58
abbrev sV:Str:="steps_to"
def yH:bL qD lM (bH m5):=fsc
abbrev lW:=top 60
abbrev pA:Str:="chosen_doors"
def Ir:bL rP iH (bH lW):=fsc
abbrev yV:=top 61
abbrev vW:Str:="left_rows"
def R5:bL Hv lN (bH yV):=fsc
abbrev jM:=top 63
abbrev uq:Str:="on_the_way"
def Bt:bL iz j6 (bH jM):=fsc
abbrev mQ:=top 64
abbrev kI:Str:="plan_chances"
def wZ:bL qP f9 (bH mQ):=fsc
abbrev vO:=top 65
abbrev ur:Str:="chances_of"
def M_:bL vV j9 (bH vO):=fsc
abbrev ug:=top 66
abbrev qK:Str:="picked_door"
def Kf:bL uH jx (bH ug):=fsc
abbrev nP:=top 67
abbrev rZ:Str:="turned_plan"
def Kh:bL tY jt (bH nP):=fsc
abbrev G_:=top 68
abbrev vG:Str:="settled"
def W6:bL Ox nC (bH G_):=fsc
abbrev mF:=top 69
abbrev oY:Str:="keeping_plan"
def Iw:bL qF iJ (bH mF):=fsc
abbrev lB:=top 70
abbrev jU:Str:="greatest_chances"
def Bh:bL Cu fG (bH lB):=fsc
abbrev pF:=top 71
abbrev nH:Str:="least_chances"
def Gu:bL pH gR (bH pF):=fsc
abbrev Bf:=top 74
abbrev qM:Str:="is_word"
def Ye:bL GK k_ (bH Bf):=fsc
abbrev v8:=top 76
abbrev nZ:Str:="check_head"
def M8:bL vL iT (bH v8):=fsc
abbrev lR:=top 77
abbrev iG:Str:="check_room_name"
def C_:bL Dq eG (bH lR):=fsc
abbrev qW:=top 78
abbrev kJ:Str:="check_chance"
def Ip:bL J6 fZ (bH qW):=fsc
abbrev n_:=top 79
abbrev qy:Str:="check_pairs"
def JL:bL tV jr (bH n_):=fsc
abbrev nQ:=top 80
abbrev qL:Str:="joined_ways"
def KZ:bL Bv jh (bH nQ):=fsc
abbrev tX:=top 87
abbrev qX:Str:="check_share"
def Kg:bL Mi jq (bH tX):=fsc
abbrev wQ:=top 88
abbrev uw:Str:="numbers_of"
def Np:bL vp kE (bH wQ):=fsc
abbrev pq:=top 89
abbrev nq:Str:="numbered_ways"
def Gy:bL w6 gU (bH pq):=fsc
abbrev xU:=top 90
abbrev vg:Str:="offers_of"
def Qc:bL Hs mO (bH xU):=fsc
abbrev Xf:=top 93
abbrev Jw:Str:="_law_cell"
def afv:bL X4 Bg (bH Xf):=fsc
abbrev JT:=top 94
abbrev m7:Str:="_law_stream"
def abd:bL Wj jH (bH JT):=fsc
abbrev acC:=top 95
abbrev SN:Str:="_law_gcd"
def adI:bL agJ GP (bH acC):=fsc
abbrev J5:=top 96
abbrev Am:Str:="_law_ratio"
def aaZ:bL Ux qg (bH J5):=fsc
abbrev Bc:=top 97
abbrev Jz:Str:="_law_names"
def abr:bL wj zj (bH Bc):=fsc
abbrev Ce:=top 98
abbrev Sq:Str:="_law_door"
def Tw:bL wI Dp (bH Ce):=fsc
abbrev Jl:=top 99
abbrev KY:Str:="_law_doors"
def Uh:bL QX yG (bH Jl):=fsc
abbrev FQ:=top 100
abbrev LK:Str:="_law_built"
def Ul:bL Dw xZ (bH FQ):=fsc
abbrev PX:=top 101
abbrev RX:Str:="_law_hall"
def afO:bL Yd Dm (bH PX):=fsc
abbrev Yk:=top 102
abbrev QF:Str:="_law_size"
def afj:bL Xi Fx (bH Yk):=fsc
abbrev P_:=top 103
abbrev Tt:Str:="_law_ways"
def ago:bL ac5 Fg (bH P_):=fsc
abbrev Jt:=top 104
abbrev Ko:Str:="_law_goals"
def ada:bL Ti yt (bH Jt):=fsc
abbrev RK:=top 105
abbrev Fw:Str:="_law_whole"
def adg:bL DR uU (bH RK):=fsc
abbrev tL:=top 106
abbrev su:Str:="_law_is_fraction"
def Ks:bL MJ jk (bH tL):=fsc
abbrev sW:=top 107
abbrev wW:Str:="_law_fractions"
def Ri:bL z8 lO (bH sW):=fsc
abbrev sy:=top 108
abbrev yh:Str:="_law_all_ways"
def Um:bL rF oW (bH sy):=fsc
abbrev WW:=top 109
abbrev Td:Str:="_law_mean"
def agE:bL acd DY (bH WW):=fsc
abbrev Qz:=top 110
abbrev Lf:Str:="_law_taken"
def ad4:bL YX Ad (bH Qz):=fsc
abbrev Lr:=top 111
abbrev Rq:Str:="_law_near"
def afl:bL Qa Et (bH Lr):=fsc
abbrev Hi:=top 112
abbrev u5:Str:="_law_chances"
def Yp:bL Og nF (bH Hi):=fsc
abbrev Xw:=top 113
abbrev Ss:Str:="_law_plan"
def aeO:bL adY Fy (bH Xw):=fsc
abbrev Xz:=top 114
abbrev QZ:Str:="_law_pair"
def agl:bL aea DW (bH Xz):=fsc
abbrev v9:=top 115
abbrev Ly:Str:="_law_plans"
def Ln:bL pR xR (bH v9):=fsc
abbrev Hh:=top 116
abbrev Cv:Str:="_law_between"
def W_:bL Oo rK (bH Hh):=fsc
abbrev KD:=top 117
abbrev YB:Str:="law"
def K6:bL VP R_ (bH KD):=fsc
abbrev yN:Stmt:=gJ 81 0
abbrev Eu:Str:="__init__"
abbrev Eb:Str:="Door.__init__"
def QB:bL zF jJ (bH yN):=fsc
abbrev zy:Stmt:=gJ 81 1
abbrev Fb:Str:="ways"
abbrev DG:Str:="Door.ways"
def Qu:bL V_ mK (bH zy):=fsc
abbrev zH:Stmt:=gJ 82 0
abbrev Eo:Str:="__init__"
abbrev FN:Str:="Sure.__init__"
def Qs:bL yS mD (bH zH):=fsc
abbrev vZ:Stmt:=gJ 83 0
abbrev Bu:Str:="__init__"
abbrev Bp:Str:="Mixed.__init__"
def Mx:bL vA gH (bH vZ):=fsc
abbrev zO:Stmt:=gJ 84 0
abbrev Dr:Str:="__init__"
abbrev Dg:Str:="Toss.__init__"
def Qk:bL Hy lY (bH zO):=fsc
abbrev sU:Stmt:=gJ 85 0
abbrev EY:Str:="__init__"
abbrev Fp:Str:="Even.__init__"
def R4:bL zm mV (bH sU):=fsc
abbrev sG:Stmt:=gJ 91 0
abbrev Di:Str:="__init__"
abbrev D_:Str:="Hall.__init__"
def RD:bL yZ mL (bH sG):=fsc
abbrev yK:Stmt:=gJ 91 1
abbrev Ej:Str:="size"
abbrev E_:Str:="Hall.size"
def QL:bL Wf gA (bH yK):=fsc
abbrev mG:Stmt:=gJ 91 4
abbrev qJ:Str:="check_room"
abbrev rT:Str:="Hall.check_room"
def Cw:bL Fj eN (bH mG):=fsc
abbrev nR:Stmt:=gJ 91 6
abbrev yc:Str:="offers"
abbrev zE:Str:="Hall.offers"
def JR:bL uc dZ (bH nR):=fsc
structure Adr where
 Door:Addr
 Sure:Addr
 Mixed:Addr
 Toss:Addr
 Even:Addr
 Hall:Addr
 NOUGHT:Addr
 ONE:Addr
 Door_init:Addr
 Door_ways:Addr
 Sure_init:Addr
 Mixed_init:Addr
 Toss_init:Addr
 Even_init:Addr
 Hall_init:Addr
 Hall_size:Addr
 Hall_check_room:Addr
 Hall_offers:Addr
structure Txt(K:Frag)(mg:Str->Ω)(D:Adr):Prop where
 acJ:mg "Door"=some (.ref D.Door)
 ahd:mg "Even"=some (.ref D.Even)
 ahW:mg "Hall"=some (.ref D.Hall)
 Tn:mg "Mixed"=some (.ref D.Mixed)
 j_:mg "NOUGHT"=some (.ref D.NOUGHT)
 BL:mg "ONE"=some (.ref D.ONE)
 aij:mg "Sure"=some (.ref D.Sure)
 ahu:mg "Toss"=some (.ref D.Toss)
 Kz:∃u,mg "LONGEST_WORD"=some u/\RelV (.int 8) u
 iR:∀H,SqT K H D.NOUGHT [.int 0,.int 1]
 t_:∀H,SqT K H D.ONE [.int 1,.int 1]
 acX:Cls K D.Door
 QK:Meth K D.Door "ways" D.Door_ways
 Ny:cu K D.Door "leads"
 Pr:cu K D.Door "name"
 IK:cu K D.Door "numbers"
 Iu:cu K D.Door "offered"
 Vx:cu K D.Door "pay"
 M4:cu K D.Door "share"
 aeY:Mk K D.Sure D.Sure_init
 ad7:Cls K D.Sure
 Qj:Meth K D.Sure "ways" D.Door_ways
 Nb:cu K D.Sure "leads"
 Ql:cu K D.Sure "name"
 Iz:cu K D.Sure "numbers"
 Ib:cu K D.Sure "offered"
 Uv:cu K D.Sure "pay"
 Nu:cu K D.Sure "share"
 abv:Mk K D.Mixed D.Mixed_init
 aa4:Cls K D.Mixed
 Nk:Meth K D.Mixed "ways" D.Door_ways
 K9:cu K D.Mixed "leads"
 Ni:cu K D.Mixed "name"
 GR:cu K D.Mixed "numbers"
 Gr:cu K D.Mixed "offered"
 O_:cu K D.Mixed "pay"
 JF:cu K D.Mixed "share"
 agu:Mk K D.Toss D.Toss_init
 abm:Cls K D.Toss
 PJ:Meth K D.Toss "ways" D.Door_ways
 Nj:cu K D.Toss "leads"
 SQ:cu K D.Toss "name"
 I8:cu K D.Toss "numbers"
 I9:cu K D.Toss "offered"
 Uz:cu K D.Toss "pay"
 Mu:cu K D.Toss "share"
 agC:Mk K D.Even D.Even_init
 acf:Cls K D.Even
 Rj:Meth K D.Even "ways" D.Door_ways
 Mg:cu K D.Even "leads"
 RP:cu K D.Even "name"
 Ja:cu K D.Even "numbers"
 Ii:cu K D.Even "offered"
 U0:cu K D.Even "pay"
 Ng:cu K D.Even "share"
 aeo:Mk K D.Hall D.Hall_init
 iK:Cls K D.Hall
 qY:Meth K D.Hall "check_room" D.Hall_check_room
 jA:Meth K D.Hall "offers" D.Hall_offers
 pY:Meth K D.Hall "size" D.Hall_size
 Nm:cu K D.Hall "leads"
 Qo:cu K D.Hall "name"
 Ih:cu K D.Hall "numbers"
 I_:cu K D.Hall "offered"
 V5:cu K D.Hall "pay"
 NP:cu K D.Hall "share"
 Eh:HJ K D.Door "__init__" D.Door_init
 Pb:CV K Eu Eb yN jJ D.Door_init
 Rt:CV K Fb DG zy mK D.Door_ways
 Ro:CV K Eo FN zH mD D.Sure_init
 Bl:HJ K D.Mixed "__init__" D.Mixed_init
 Nh:CV K Bu Bp vZ gH D.Mixed_init
 RZ:CV K Dr Dg zO lY D.Toss_init
 Qd:CV K EY Fp sU mV D.Even_init
 RB:CV K Di D_ sG mL D.Hall_init
 Rb:CV K Ej E_ yK gA D.Hall_size
 Cp:CV K qJ rT mG eN D.Hall_check_room
 J0:CV K yc zE nR dZ D.Hall_offers
 Vf:mg "abs"=none
 acW:mg "all"=none
 abI:mg "any"=none
 ac0:mg "bool"=none
 gF:mg "enumerate"=none
 adK:mg "int"=none
 d7:mg "isinstance"=none
 dU:mg "len"=none
 rN:mg "list"=none
 alk:mg "min"=none
 fu:mg "range"=none
 abJ:mg "sorted"=none
 aoH:mg "str"=none
 acQ:mg "sum"=none
 S5:mg "tuple"=none
 HB:mg "zip"=none
 X_:cC K mg lF Cy h_
 abf:cC K mg lg GQ cN
 afH:cC K mg qp Tg mH
 Xk:cC K mg oJ CQ jm
 ahX:cC K mg Qi Yo Dj
 agx:cC K mg xT RM qT
 af2:cC K mg LR Qf z_
 aiM:cC K mg Rz Wv El
 af0:cC K mg uQ Rn oU
 aeF:cC K mg uR Jd oG
 f_total:cC K mg Kp Tj yX
 Wy:cC K mg oH CW lD
 agz:cC K mg zT Q8 uO
 S7:cC K mg nW pK iU
 aif:cC K mg Tv Xm Fe
 Sx:cC K mg uy vo j5
 Nr:cC K mg rO jX jB
 acU:cC K mg Ak Fi pZ
 Uy:cC K mg vH sJ mq
 W4:cC K mg zU u9 oR
 VG:cC K mg vh Ae mJ
 VD:cC K mg pX zB jL
 Lw:cC K mg o9 jy iQ
 QJ:cC K mg uG wL jY
 ae1:cC K mg Dz Tz uP
 V0:cC K mg vI yM lV
 K_:cC K mg o8 qO iM
 aaT:cC K mg Ci Ai rY
 W3:cC K mg zG Ca oh
 Mz:cC K mg qZ nU jz
 U4:cC K mg vK sH mC
 aap:cC K mg CP Gf qz
 T4:cC K mg vR yC mW
 Mq:cC K mg qG kj jD
 M5:cC K mg qu tU ju
 Ph:cC K mg kh wH eV
 WR:cC K mg yO qR oV
 aeA:cC K mg yI Jk qI
 abg:cC K mg rR Al m9
 abk:cC K mg rW Aw nJ
 Yi:cC K mg sV m5 lM
 KR:cC K mg pA lW iH
 U8:cC K mg vW yV lN
 S_:cC K mg uq jM j6
 JZ:cC K mg kI mQ f9
 Rp:cC K mg ur vO j9
 Nx:cC K mg qK ug jx
 Ms:cC K mg rZ nP jt
 aa0:cC K mg vG G_ nC
 K4:cC K mg oY mF iJ
 Dc:cC K mg jU lB fG
 Ik:cC K mg nH pF gR
 aaW:cC K mg qM Bf k_
 O9:cC K mg nZ v8 iT
 Fv:cC K mg iG lR eG
 Lb:cC K mg kJ qW fZ
 Nv:cC K mg qy n_ jr
 Mt:cC K mg qL nQ jh
 MF:cC K mg qX tX jq
 Rm:cC K mg uw wQ kE
 Im:cC K mg nq pq gU
 Uk:cC K mg vg xU mO
 aji:cC K mg Jw Xf Bg
 ab8:cC K mg m7 JT jH
 anK:cC K mg SN acC GP
 ach:cC K mg Am J5 qg
 agh:cC K mg Jz Bc zj
 ajc:cC K mg Sq Ce Dp
 afZ:cC K mg KY Jl yG
 aeu:cC K mg LK FQ xZ
 aiS:cC K mg RX PX Dm
 ahl:cC K mg QF Yk Fx
 aiB:cC K mg Tt P_ Fg
 agc:cC K mg Ko Jt yt
 afA:cC K mg Fw RK uU
 MK:cC K mg su tL jk
 UJ:cC K mg wW sW lO
 Xa:cC K mg yh sy oW
 ahi:cC K mg Td WW DY
 afT:cC K mg Lf Qz Ad
 ahp:cC K mg Rq Lr Et
 aaE:cC K mg u5 Hi nF
 aiW:cC K mg Ss Xw Fy
 ai0:cC K mg QZ Xz DW
 afQ:cC K mg Ly v9 xR
 aaJ:cC K mg Cv Hh rK
def Fam(D:Adr)(C:Addr):Prop:=C=D.Door\/C=D.Sure\/C=D.Mixed\/C=D.Toss\/C=D.Even\/C=D.Hall
variable{D:Adr}{c r s:Rat}{q i j m n k wd N:Nat}{b:Nat->Rat}{a:Int}{x:Str}{ws ps:zg}{α:Type}{o:ze}{ac:xE}{ns nm:Φ}{st pl:zb}{d:xl}{ds:xA}{S:Nat->Bool}{gs cm:zn}{mk:zi}{xs:zS}{X:Cx}
def Txt.cl{K:Frag}{mg:Str->Ω}(T:Txt K mg D):∀C,Fam D C->Cls K C:=by
 rintro C (rfl|rfl|rfl|rfl|rfl|rfl)
 .exact T.acX
 .exact T.ad7
 .exact T.aa4
 .exact T.abm
 .exact T.acf
 .exact T.iK
def Txt.DN{K:Frag}{mg:Str->Ω}(T:Txt K mg D):∀C,Fam D C->cu K C "leads":=by
 rintro C (rfl|rfl|rfl|rfl|rfl|rfl)
 .exact T.Ny
 .exact T.Nb
 .exact T.K9
 .exact T.Nj
 .exact T.Mg
 .exact T.Nm
def Txt.Ji{K:Frag}{mg:Str->Ω}(T:Txt K mg D):∀C,Fam D C->cu K C "name":=by
 rintro C (rfl|rfl|rfl|rfl|rfl|rfl)
 .exact T.Pr
 .exact T.Ql
 .exact T.Ni
 .exact T.SQ
 .exact T.RP
 .exact T.Qo
def Txt.CZ{K:Frag}{mg:Str->Ω}(T:Txt K mg D):∀C,Fam D C->cu K C "numbers":=by
 rintro C (rfl|rfl|rfl|rfl|rfl|rfl)
 .exact T.IK
 .exact T.Iz
 .exact T.GR
 .exact T.I8
 .exact T.Ja
 .exact T.Ih
def Txt.Le{K:Frag}{mg:Str->Ω}(T:Txt K mg D):∀C,Fam D C->cu K C "offered":=by
 rintro C (rfl|rfl|rfl|rfl|rfl|rfl)
 .exact T.Iu
 .exact T.Ib
 .exact T.Gr
 .exact T.I9
 .exact T.Ii
 .exact T.I_
def Txt.adQ{K:Frag}{mg:Str->Ω}(T:Txt K mg D):∀C,Fam D C->cu K C "pay":=by
 rintro C (rfl|rfl|rfl|rfl|rfl|rfl)
 .exact T.Vx
 .exact T.Uv
 .exact T.O_
 .exact T.Uz
 .exact T.U0
 .exact T.V5
def Txt.abG{K:Frag}{mg:Str->Ω}(T:Txt K mg D):∀C,Fam D C->cu K C "share":=by
 rintro C (rfl|rfl|rfl|rfl|rfl|rfl)
 .exact T.M4
 .exact T.Nu
 .exact T.JF
 .exact T.Mu
 .exact T.Ng
 .exact T.NP
def dg(D:Adr)(C:Addr):Prop:=C=D.Door\/C=D.Sure\/C=D.Mixed\/C=D.Toss\/C=D.Even
def dg.fam{C:Addr}(h:dg D C):Fam D C:=by
 unfold dg at h;unfold Fam;rcases h with h|h|h|h|h<;>simp[h]
def Txt.TF{K:Frag}{mg:Str->Ω}(T:Txt K mg D):∀C,dg D C->Meth K C "ways" D.Door_ways:=by
 rintro C (rfl|rfl|rfl|rfl|rfl)
 .exact T.QK
 .exact T.Qj
 .exact T.Nk
 .exact T.PJ
 .exact T.Rj
class Bs where
 P:Program
 w:World
 K:Frag
 mg:Str->Ω
 base:Heap
section
open Bs (P w K mg base)
abbrev gT[Bs](k:Nat)(x:Str)(ps:Φ)(S:ST):Prop:=OkT P w K mg base k x ps S
abbrev gI[Bs](k:Nat)(a:Addr)(ps:Φ)(S:ST):Prop:=OkI P w K mg base CX0 k a ps (spT K S)
abbrev FT[Bs](k:Nat)(f:Addr)(fd:FuncData)(ps:Φ)(S:ST):Prop:=gY P w K mg base CX0 k f fd ps (spT K S)
abbrev Fu[Bs](n:Str)(s:Stmt)(f:Addr)(fd:FuncData):Prop:=Fun K n n s f fd
abbrev Tx[Bs](D:Adr):Prop:=Txt K mg D
variable[Bs]{D:Adr}{f:Addr}{fd:FuncData}
def ya{k:Nat}{n:Str}{st:Stmt}{ps:Φ}{sp:Sp}(h:cC K mg n st ps)(g:∀{f fd},Fun K n n st f fd->gY P w K mg base CX0 k f fd ps sp):OkF P w K mg base k n ps sp:=h.ok λ_ _=>g
def yf{X:CXT}{k:Nat}{n m:Str}{st:Stmt}{ps:Φ}{f:Addr}{sp:Sp}(h:CV K n m st ps f)(g:∀{fd},Fun K n m st f fd->gY P w K mg base X k f fd ps sp):OkI P w K mg base X k f ps sp:=h.ok λ_=>g
abbrev frT(f:Β):T:=.tup [.int f.1,.int f.2]
def isW:T->Option Bool
 |.int _=>some true
 |.bl _=>some false
 |.non=>some false
 |.str _=>some false
 |.tup _=>some false
 |.lst _=>some false
 |_=>none
def oO:ST:=λts q=>∃t b,ts=[t]/\isW t=some b/\q (.fz (.bl b))
def VJ(T:Tx D):gT 1 lF h_ oO:=ya T.X_ λF=>by
 refine F.okT Va (λ_ _=>bI (bR (G6 (rM .int wp T.d7 T.adK boot_int) (G3 (ab0 (rM .bool wp T.d7 T.ac0 boot_bool)))))) ?_;rintro _ R ⟨t,b,rfl,h,q⟩;cases t<;>cases h<;>exact q
def m_:ST:=λts q=>∃a b,ts=[.int a,.int b]/\q (.fz (.int (Int.gcd a b)))
def W9(T:Tx D):gT 1 lg cN m_:=ya T.abf λF=>by
 refine F.okT Xe (λhr _=>bG (bQ 2 (bT JK T.Vf boot_abs (bA wp bC)))
  (bG (bQ 3 (bT JK T.Vf boot_abs (bA wo bC)))
  (bG (Dk (bW (lG hr.units) wn bF)
  (bG (bQ 4 (bO cW wr wn))
  (bG (bQ 2 wn)
  (bI (bQ 3 we)))))
  (bI (bR wr))))) ?_
 rintro _ R ⟨a,b,rfl,q⟩;refine⟨λm o=>∃(l r:Nat)(x:OT),o=[.fz (.int a),.fz (.int b),.fz (.int l),.fz (.int r),x]/\Nat.gcd l r=Int.gcd a b/\m=r,⟨_,_,_,_,rfl,rfl,rfl⟩,?_⟩;rintro m _ ⟨l,r,x,rfl,hg,hm⟩;refine sw2 (λh=>?_) λh=>?_
 .have hr:r≠0:=by intro z;subst z;cases h
  refine⟨λo=>∃x,o=[.fz (.int a),.fz (.int b),.fz (.int r),.fz (.int ((l%r:Nat):Int)),x],?_,?_⟩
  .rintro _ ⟨x,rfl⟩;exact⟨l%r,by have:=Nat.mod_lt l (Nat.pos_of_ne_zero hr);lia,r,l%r,x,rfl,(Nat.gcd_comm r (l%r)).trans ((Nat.gcd_rec r l).symm.trans ((Nat.gcd_comm r l).trans hg)),rfl⟩
  .exact⟨by lia,_,by rw[Int.natCast_emod];rfl⟩
 .have hr:r=0:=by
   by_cases z:r=0
   .exact z
   .have:(decide ((r:Int)=0))=false:=Zp wv;rw[show xr true (decide ((r:Int)=0)) = !decide ((r:Int)=0)from rfl,this]at h;cases h
  subst hr;rw[Nat.gcd_zero_right]at hg;rw[<- hg]at q;exact q
structure Low(t b x y:Int):Prop where
 pos:0<y
 gcd:Int.gcd x y=1
 eq:x*b=t*y
 lx:x.natAbs<=t.natAbs
 ly:y.natAbs<=b.natAbs
def JX{c q:Int}(h:c≠0):Int.fdiv (c*q) c=q:=by
 rw[Int.fdiv_eq_ediv_of_dvd (Int.dvd_mul_right c q),Q4 _ h]
def Lp{c q:Int}(h:c≠0):q.natAbs<=(c*q).natAbs:=by
 rw[VV];exact Zzu _ wv
def xQ{t b c:Int}(hb:b≠0)(hc:c≠0)(hg:c.natAbs=Int.gcd t b)(hs:0<c*b):Low t b (Int.fdiv t c) (Int.fdiv b c):=by
 have d1:c ∣ t:=Int.natAbs_dvd.mp (by rw[hg];exact Int.gcd_dvd_left t b);have d2:c ∣ b:=Int.natAbs_dvd.mp (by rw[hg];exact JJ t b);obtain⟨x,rfl⟩:=d1;obtain⟨y,rfl⟩:=d2;rw[JX hc,JX hc];refine⟨?_,?_,?_,Lp hc,Lp hc⟩
 .rw[<- Int.mul_assoc]at hs;have hp:0<c*c:=by
   rcases Int.lt_or_lt_of_ne hc with z|z
   .exact Int.mul_pos_of_neg_of_neg z z
   .exact XZ z z
  exact Int.pos_of_mul_pos_right hs hp
 .rw[Int.gcd_mul_left]at hg;have hp:0<c.natAbs:=by lia
  exact Nat.eq_of_mul_eq_mul_left hp (by rw[Nat.mul_one];exact hg.symm)
 .rw[Int.mul_left_comm,Int.mul_assoc]
def nT{b:Int}(hb:b≠0):(0:Int)<(Int.gcd a b:Nat):=by
 have:=Zzw a hb;lia
def NZ{i j:Int}(h:i.natAbs<=j.natAbs)(k:Bd j):Bd i:=Y3 h k
theorem acq{i:Int}(h:Bd i):Bd (-i):=by unfold Bd at *;rwa[Int.natAbs_neg]
def Yj{b:Int}(hb:b≠0)(h:Bd b):Bd ((Int.gcd a b:Nat):Int):=NZ (by
 have:=UZ wv (Int.gcd_dvd_natAbs_right a b);omega) h
def uX:ST:=λts q=>∃t b,ts=[.int t,.int b]/\b≠0/\Bd b/\∀x y,Low t b x y->q (.fz (frT (x,y)))
def ac7(T:Tx D):gT 2 qp mH uX:=ya T.afH λF=>by
 refine F.okT aei (λhr _=>bG (cA (QW.qt (fW (dN (cF (bJ (VJ T) (bA wp bC)))) (eX (dN (cF (bJ (VJ T) (bA wo bC)))))))
  (bI gG)
  bV)
  (bG (cA (bW (go_eq hr.units) wo bF)
  (bI gG)
  bV)
  (bG (bQ 2 (bJ (W9 T) (bA wp (bA wo bC))))
  (bG (cA (bW Hx wo bF)
  (bI (bQ 2 (Yn wr)))
  bV)
  (bI (bR (dY (bA (bO oZ wp wr) (bA (bO oZ wo wr) bC))))))))) ?_
 rintro _ R ⟨t,b,rfl,hb,hd,q⟩;refine⟨_,_,rfl,rfl,_,_,rfl,rfl,?_⟩;have g0:=nT (a:=t) hb;have g1:=Yj (a:=t) hb hd;refine swF (Zp hb) ⟨_,_,rfl,swD (λhn=>⟨⟨by omega,acq g1⟩,⟨by omega,acq g1⟩,q _ _ (xQ hb (by omega) wv (Int.mul_pos_of_neg_of_neg wv hn))⟩) λhn=>⟨⟨by exact WS g0,g1⟩,⟨by exact WS g0,g1⟩,q _ _ (xQ hb (WS g0) wv (XZ g0 wv))⟩⟩
abbrev frR(r:Rat):T:=.tup [.int r.num,.int r.den]
def jG{t b x y:Int}(h:Low t b x y)(hb:b≠0):frT (x,y)=frR (Rat.divInt t b):=by
 have hy:=h.pos;have e:Rat.divInt t b=⟨x,y.toNat,by lia,by have:=h.gcd;unfold Int.gcd at this;rw[show y.toNat=y.natAbs by lia];exact this⟩:=by
  rw[Rat.mk_eq_divInt,show((y.toNat:Nat):Int)=y by exact Int.toNat_of_nonneg (XY hy)];exact(QY hb (WS hy)).mpr h.eq.symm
 rw[e];show T.tup [.int x,.int y]=.tup [.int x,.int (y.toNat:Nat)];rw[show((y.toNat:Nat):Int)=y by exact Int.toNat_of_nonneg (XY hy)]
def rd(r:Rat):Rat.divInt r.num r.den=r:=Rat.num_divInt_den r
def ou(r:Rat):((r.den:Nat):Int)≠0:=by have:=r.den_pos;lia
def Bq(r:Rat):Prop:=Bd r.num/\Bd (r.den:Nat)
def Zn:ST:=λts q=>∃a b:Rat,ts=[frR a,frR b]/\Bq a/\Bq b/\Bd ((a.den:Int)*b.den)/\q (.fz (frR (a+b)))
def Em:ST:=λts q=>∃a b:Rat,ts=[frR a,frR b]/\Bq a/\Bq b/\Bd ((a.den:Int)*b.den)/\q (.fz (frR (a-b)))
def Uc:ST:=λts q=>∃a b:Rat,ts=[frR a,frR b]/\Bq a/\Bq b/\Bd ((a.den:Int)*b.den)/\q (.fz (frR (a*b)))
def ZD:ST:=λts q=>∃a b:Rat,ts=[frR a,frR b]/\b≠0/\Bq a/\Bq b/\Bd ((a.den:Int)*b.num)/\q (.fz (frR (a/b)))
def zu:ST:=λts q=>∃a b:Rat,ts=[frR a,frR b]/\Bq a/\Bq b/\q (.fz (.bl (decide (a<b))))
def pB{b:Int}(ha:a≠0)(hb:b≠0):a*b≠0:=λz=>(Int.mul_eq_zero.mp z).elim ha hb
def aeE(T:Tx D):gT 3 Qi Dj Zn:=ya T.ahX λF=>by
 refine F.okT af3 (λ_ _=>bI (bR (bJ (ac7 T) (bA (bO dh (bO cI (bK wp bF) (bK wo bF)) (bO cI (bK wo bF) (bK wp bF))) (bA (bO cI (bK wp bF) (bK wo bF)) bC))))) ?_;rintro _ R ⟨a,b,rfl,ha,hb,hd,q⟩;refine⟨⟨ha.1,hb.2⟩,⟨hb.1,ha.2⟩,⟨ha.2,hb.2⟩,_,_,rfl,pB (ou a) (ou b),hd,λx y l=>?_⟩;rwa[jG l (pB (ou a) (ou b)),<- QU _ _ (ou a) (ou b),rd,rd]
def abx(T:Tx D):gT 3 xT qT Em:=ya T.agx λF=>by
 refine F.okT adN (λ_ _=>bI (bR (bJ (ac7 T) (bA (bO Wq (bO cI (bK wp bF) (bK wo bF)) (bO cI (bK wo bF) (bK wp bF))) (bA (bO cI (bK wp bF) (bK wo bF)) bC))))) ?_;rintro _ R ⟨a,b,rfl,ha,hb,hd,q⟩;refine⟨⟨ha.1,hb.2⟩,⟨hb.1,ha.2⟩,⟨ha.2,hb.2⟩,_,_,rfl,pB (ou a) (ou b),hd,λx y l=>?_⟩;rwa[jG l (pB (ou a) (ou b)),<- Rat.divInt_sub_divInt _ _ (ou a) (ou b),rd,rd]
def aej(T:Tx D):gT 3 LR z_ Uc:=ya T.af2 λF=>by
 refine F.okT abn (λ_ _=>bI (bR (bJ (ac7 T) (bA (bO cI (bK wp bF) (bK wo bF)) (bA (bO cI (bK wp bF) (bK wo bF)) bC))))) ?_;rintro _ R ⟨a,b,rfl,ha,hb,hd,q⟩;refine⟨⟨ha.1,hb.1⟩,⟨ha.2,hb.2⟩,_,_,rfl,pB (ou a) (ou b),hd,λx y l=>?_⟩;rwa[jG l (pB (ou a) (ou b)),<- Rat.divInt_mul_divInt,rd,rd]
def aft(T:Tx D):gT 3 Rz El ZD:=ya T.aiM λF=>by
 refine F.okT afU (λ_ _=>bI (bR (bJ (ac7 T) (bA (bO cI (bK wp bF) (bK wo bF)) (bA (bO cI (bK wp bF) (bK wo bF)) bC))))) ?_;rintro _ R ⟨a,b,rfl,h0,ha,hb,hd,q⟩;have nb:b.num≠0:=λz=>h0 (by rw[<- rd b,z];exact QR _);refine⟨⟨ha.1,hb.2⟩,⟨ha.2,hb.1⟩,_,_,rfl,pB (ou a) nb,hd,λx y l=>?_⟩;rwa[jG l (pB (ou a) nb),<- Rat.divInt_mul_divInt,rd,<- Rat.inv_def,<- Rat.div_def]
def abS(T:Tx D):gT 1 uQ oU zu:=ya T.af0 λF=>by
 refine F.okT abZ (λ_ _=>bI (bR (qw Hx (bO cI (bK wp bF) (bK wo bF)) (bO cI (bK wo bF) (bK wp bF))))) ?_;rintro _ R ⟨a,b,rfl,ha,hb,q⟩;refine⟨⟨ha.1,hb.2⟩,⟨hb.1,ha.2⟩,?_⟩;rw[show decide (a<b)=decide (a.num*(b.den:Int)<b.num*(a.den:Int))from decide_eq_decide.mpr (Rat.lt_iff a b)]at q;exact q
def sI:ST:=λts q=>∃r:Rat,ts=[frR r]/\q (.fz (.bl true))
def Vz(T:Tx D):gT 2 oJ jm sI:=ya T.Xk λF=>by
 refine F.okT Wa (λhr _=>bG (cA (QW.qt (fW (dN (cF (rM .tuple wp T.d7 T.S5 boot_tuple))) (eX (bW (lG hr.units) (bT cQ T.dU WG (bA wp bC)) bF))))
  (bI (bR g_))
  bV)
  (bG (bQ 1 (bK wp bF))
  (bG (bQ 2 (bK wp bF))
  (bG (cA (QW.qt (fW (dN (cF (bJ (VJ T) (bA wo bC)))) (eX (dN (cF (bJ (VJ T) (bA wr bC)))))))
  (bI (bR g_))
  bV)
  (bI (bR (G6 (qw abw wr bF) (G3 (qw (go_eq hr.units) (bJ (W9 T) (bA wo (bA wr bC))) bF))))))))) ?_
 rintro _ R ⟨r,rfl,q⟩;refine⟨_,_,rfl,rfl,_,_,rfl,rfl,?_⟩;have:=r.den_pos;refine swT (Zs wv) ⟨_,_,rfl,?_⟩;rwa[show Int.gcd r.num r.den=1 from r.reduced]
def apz:zS->Nat
 |[]=>1
 |r::rs=>Nat.lcm r.den (apz rs)
def dJ(n:Nat):zS->Nat
 |[]=>n
 |r::rs=>dJ (Nat.lcm n r.den) rs
theorem iI:∀(rs:zS){n:Nat},0<n->0<dJ n rs
 |[],_,h=>h
 |r::rs,_,h=>iI rs (Nat.lcm_pos h r.den_pos)
theorem lU:∀(rs:zS){n:Nat},n ∣ dJ n rs/\∀r∈rs,r.den ∣ dJ n rs
 |[],n=>⟨Nat.dvd_refl n,λ_ z=>(nomatch z)⟩
 |r::rs,n=>by
  obtain⟨a,b⟩:=lU rs (n:=Nat.lcm n r.den);refine⟨Nat.dvd_trans (Nat.dvd_lcm_left ..) a,λx hx=>?_⟩;rcases YU.mp hx with rfl|z
  .exact Nat.dvd_trans (Nat.dvd_lcm_right ..) a
  .exact b x z
theorem vQ:∀(rs:zS){n m:Nat},n ∣ m->(∀r∈rs,r.den ∣ m)->dJ n rs ∣ m
 |[],_,_,h,_=>h
 |r::rs,_,_,h,k=>vQ rs (Nat.lcm_dvd h (k r (aO ..))) λx hx=>k x (aJ _ hx)
theorem J_:∀(as bs:zS)(n:Nat),dJ n (as++bs)=dJ (dJ n as) bs
 |[],_,_=>rfl
 |_::as,bs,_=>J_ as bs _
def tops(B:Nat)(rs:zS):xz:=rs.map λr=>r.num*((B/r.den:Nat):Int)
def Yc(h:Bd (n:Int))(l:m<=n):Bd (m:Int):=NZ (by omega) h
def adB(n d:Nat):(Int.fdiv (n:Int) ((Int.gcd n d:Nat):Int))*d=((Nat.lcm n d:Nat):Int):=by
 rw[show Int.gcd (n:Int) (d:Int)=Nat.gcd n d from rfl,Int.fdiv_eq_ediv_of_dvd (Int.natCast_dvd_natCast.mpr (Nat.gcd_dvd_left n d)),<- Int.natCast_ediv,<- Qr,Nat.lcm,Nat.div_mul_right_comm (Nat.gcd_dvd_left n d)]
def KQ(m n:Nat):Int.fdiv (m:Int) (n:Int)=((m/n:Nat):Int):=by rw[Int.fdiv_eq_ediv_of_nonneg _ (X9 _)];rfl
def z9:ST:=λts q=>∃rs:zS,ts=[.lst (rs.map frR)]/\rs.length<=1000/\(∀r∈rs,Bd r.num)/\Bd (dJ 1 rs:Nat)/\q (.fz (.tup [.lst ((tops (dJ 1 rs) rs).map T.int),.int (dJ 1 rs:Nat)]))
def acw(T:Tx D):gT 2 uR oG z9:=ya T.aeF λF=>by
 refine F.okT ad5 (λ_ _=>bG (bQ 1 bF)
  (bG (cY (bZ wp) (bU (n:=99) 2)
  (bI (bQ 1 (bO cI (bO oZ wo (bJ (W9 T) (bA wo (bA (bK wr bF) bC)))) (bK wr bF)))))
  (bI (bR (dY (bA (cD (bH Jd) YW ["fractions","bottom","?one"] ["one"] (bZ wp) (c7 (i:=0)) b_ (bO cI (bK wp bF) (bO oZ wr (bK wp bF)))) (bA wo bC))))))) ?_
 rintro _ R ⟨rs,rfl,rl,hn,hB,q⟩;refine dW frR rs (λas o=>∃x,o=[.fz (.lst (rs.map frR)),.fz (.int (dJ 1 as:Nat)),x]) ⟨_,rfl⟩ ?_ ?_
 .rintro as a bs _ e ⟨x,rfl⟩;have d1:=(lU (a::bs) (n:=dJ 1 as)).1;have el:dJ 1 rs=dJ (dJ 1 as) (a::bs):=by rw[e];exact J_ as (a::bs) 1
  have hp:=iI as UR;have hB0:=iI rs UR;have b1:Bd (dJ 1 as:Nat):=Yc hB (el ▸ UZ (el ▸ hB0) d1);have b2:Bd (a.den:Nat):=Yc hB (UZ hB0 ((lU rs).2 a (e ▸ by simp)));refine⟨_,_,rfl,⟨by have:=nT (a:=(dJ 1 as:Nat)) (ou a);exact WS this,Yj (ou a) b2⟩,⟨NZ ?_ b1,b2⟩,.fz (frR a),?_⟩
  .rw[show Int.gcd ((dJ 1 as:Nat):Int) (a.den:Int)=Nat.gcd (dJ 1 as) a.den from rfl,KQ];exact Nat.div_le_self ..
  .rw[adB,J_]
   rfl
 .rintro _ ⟨x,rfl⟩;refine⟨aL (by simpa using rl) wx,comp_map frR (λr=>.int (r.num*((dJ 1 rs/r.den:Nat):Int))) rs (λr hr N M hN=>?_) ?_⟩
  .have b2:Bd (r.den:Nat):=Yc hB (UZ (iI rs UR) ((lU rs).2 r hr));refine⟨⟨ou r,b2⟩,⟨hn r hr,NZ ?_ hB⟩,?_⟩
   .rw[KQ];exact Nat.div_le_self ..
   .rw[KQ];exact hN
  .have:(tops (dJ 1 rs) rs).map L2.T.int=rs.map (λr=>.int (r.num*((dJ 1 rs/r.den:Nat):Int))):=by unfold tops;rw[WU];rfl
   rw[this]at q;exact q
def Y6(l:zn):Bool:=decide (1<=l.length)&&decide (l.length<=8)&&l.all λc=>decide (97<=c)&&decide (c<=122)
abbrev Wd(n:Str):Prop:=Y6 n.cps.toList=true
def Wd.len{n:Str}(h:Wd n):1<=n.length/\n.length<=8:=by
 unfold Wd Y6 at h;simp only[QP,decide_eq_true_eq,Array.length_toList]at h;exact h.1
def Zo(c d:Nat):(!decide ((⟨#[d]⟩ : Str).cps.toList<(⟨#[c]⟩ : Str).cps.toList))=decide (c<=d):=by
 have:((⟨#[d]⟩ : Str).cps.toList<(⟨#[c]⟩ : Str).cps.toList)↔d<c:=by
  show[d]<[c]↔d<c;constructor
  .intro h;cases h with
   |rel h=>exact h
   |cons h=>cases h
  .exact λh=>.rel h
 rw[show decide ((⟨#[d]⟩ : Str).cps.toList<(⟨#[c]⟩ : Str).cps.toList)=decide (d<c)from decide_eq_decide.mpr this];by_cases h:c<=d
 .rw[Zs h,Zp (TZ h)];rfl
 .rw[Zp h,Zs (Nat.lt_of_not_le h)];rfl
def vq:ST:=λts q=>∃n:Str,ts=[.str n]/\Wd n/\q (.fz (.bl true))
def Yq(T:Tx D):gT 1 qM k_ vq:=ya T.aaW λF=>by
 refine F.okT Ye (λ_ _=>bG (cA (QW.qt (fW (dN (cF (rM .str wp T.d7 T.aoH boot_str))) (eX (dN (Vp TY TY bF (bT aeG T.dU WG (bA wp bC)) (V3 T.Kz λ_=>.int _))))))
  (bI (bR g_))
  bV)
  (bI (bR (bT (Xb rfl) T.acW boot_all (bA (cD (bH Bf) GK GK ["sign"] (aiU wp) (c7 (i:=0)) b_ (Vh adJ adJ vU wp vU)) bC))))) ?_
 rintro _ R ⟨n,rfl,hw,q⟩;obtain⟨l1,l8⟩:=hw.len;refine⟨aL l8 wx,swT (Zs wv) (swF (by rw[Zs (show((n.length:Nat):Int)<=8 by lia)];rfl) ⟨by rw[ak];exact aL l8 wx,comp_map (λc=>.str ⟨#[c]⟩) (λc=>.bl (decide (97<=c)&&decide (c<=122))) n.cps.toList (λc _ N M hN=>?_) ⟨n.cps.toList.map λc=>decide (97<=c)&&decide (c<=122),by rw[WU];rfl,?_⟩⟩)⟩
 .have e1:(!decide ((⟨#[c]⟩ : Str).cps.toList<("a":Str).cps.toList))=decide (97<=c):=by rw[show("a":Str)=⟨#[97]⟩from by decide +kernel];exact Zo 97 c
  have e2:(!decide (("z":Str).cps.toList<(⟨#[c]⟩ : Str).cps.toList))=decide (c<=122):=by rw[show("z":Str)=⟨#[122]⟩from by decide +kernel];exact Zo c 122
  refine sw2 (λh=>?_) λh=>?_
  .rw[<- e1,h,<- e2]at hN;exact hN
  .rw[<- e1,h]at hN;exact hN
 .have:((n.cps.toList.map λc=>decide (97<=c)&&decide (c<=122)).all λb=>b)=true:=by
   unfold Wd Y6 at hw;rw[QP]at hw;rw[List.all_map];exact hw.2
  rw[<- this]at q;exact q
def uI:ST:=λts q=>∃(n:Str)(r:Rat),ts=[.str n,frR r]/\Wd n/\q (.fz .non)
def Mh(T:Tx D):gT 3 nZ iT uI:=ya T.O9 λF=>by
 refine F.okT M8 (λ_ _=>bG (cA (dN (cF (bJ (Yq T) (bA wp bC))))
  (bI gG)
  bV)
  (bI (cA (dN (cF (bJ (Vz T) (bA wo bC))))
  (bI gG)
  bV))) ?_
 rintro _ R ⟨n,r,rfl,hw,q⟩;exact⟨_,rfl,hw,_,rfl,q⟩
def lA:ST:=λts q=>∃n:Str,ts=[.str n]/\Wd n/\q (.fz .non)
def Cz(T:Tx D):gT 2 iG eG lA:=ya T.Fv λF=>by
 refine F.okT C_ (λ_ _=>bI (cA (dN (cF (bJ (Yq T) (bA wp bC))))
  (bI gG)
  bV)) ?_
 rintro _ R ⟨n,rfl,hw,q⟩;exact⟨_,rfl,hw,q⟩
def Ch(r:Rat):Prop:=0<=r/\r<=1/\Bd (r.den:Nat)
def Ch.bq(h:Ch r):Bq r:=by
 have h0:=Rat.num_nonneg.mpr h.1;have h1:=(Rat.le_iff r 1).mp h.2.1;exact⟨NZ (by have:r.num*((1:Rat).den:Int)<=(1:Rat).num*(r.den:Int):=h1;simp at this;omega) h.2.2,h.2.2⟩
def bq0:Bq 0:=⟨Nat.two_pow_pos 8000,Nat.one_lt_two_pow wx⟩
def bq1:Bq 1:=⟨Nat.one_lt_two_pow wx,Nat.one_lt_two_pow wx⟩
def pG:ST:=λts q=>∃r:Rat,ts=[frR r]/\Ch r/\q (.fz .non)
def Ij(T:Tx D):gT 3 kJ fZ pG:=ya T.Lb λF=>by
 refine F.okT Ip (λ_ _=>bI (cA (QW.qt (fW (dN (cF (bJ (Vz T) (bA wp bC)))) (fW (cF (bJ (abS T) (bA wp (bA (lE T.j_ T.iR) bC)))) (eX (cF (bJ (abS T) (bA (lE T.BL T.t_) (bA wp bC))))))))
  (bI gG)
  bV)) ?_
 rintro _ R ⟨r,rfl,hc,q⟩;refine⟨_,rfl,r,0,rfl,hc.bq,bq0,?_⟩;rw[Zp (Rat.not_lt.mpr hc.1)];refine⟨1,r,rfl,bq1,hc.bq,?_⟩;rwa[Zp (Rat.not_lt.mpr hc.2.1)]
def DX(rs:zS):Rat:=rs.foldr (· + ·) 0
theorem U9{B:Nat}(hB:B≠0):∀{rs:zS},(∀r∈rs,r.den ∣ B)->Rat.divInt (tops B rs).sum B=DX rs
 |[],_=>by show Rat.divInt 0 _=0;exact QR _
 |r::rs,h=>by
  have ih:=U9 hB (rs:=rs) λx hx=>h x (aJ _ hx);have n9:((B:Nat):Int)≠0:=by lia
  obtain⟨m,hm⟩:=h r (aO ..);show Rat.divInt (r.num*((B/r.den:Nat):Int)+(tops B rs).sum) B=r+DX rs;have e1:r+DX rs=Rat.divInt (r.num*B+(tops B rs).sum*r.den) (r.den*B):=by rw[<- QU _ _ (ou r) n9,rd,ih]
  rw[e1];refine(QY n9 (pB (ou r) n9)).mpr ?_;have:B/r.den=m:=by rw[hm];exact Nat.mul_div_cancel_left _ r.den_pos
  rw[this,hm];simp only[Qr]
  grind
def Uo:ST:=λts q=>∃rs:zS,ts=[.lst (rs.map frR)]/\rs.length<=1000/\(∀r∈rs,Bd r.num)/\Bd (dJ 1 rs:Nat)/\q (.fz (frR (DX rs)))
def adp(T:Tx D):gT 3 Kp yX Uo:=ya T.f_total λF=>by
 refine F.okT ac8 (λ_ _=>bG (bQ 1 (bJ (acw T) (bA wp bC)))
  (bI (bR (bJ (ac7 T) (bA (bT (Xq rfl) T.acQ boot_sum (bA (bK wo bF) bC)) (bA (bK wo bF) bC)))))) ?_
 rintro _ R ⟨rs,rfl,rl,hn,hB,q⟩;have hp:=iI rs UR;have hz:((dJ 1 rs:Nat):Int)≠0:=by lia
 refine⟨rs,rfl,rl,hn,hB,_,rfl,_,_,rfl,hz,hB,λx y l=>?_⟩;rwa[jG l hz,U9 (VQ hp) (lU rs).2]
abbrev wyT(p:Str×Rat):T:=.tup [.str p.1,frR p.2]
def zX:ST:=λts q=>∃ps:zD,ts=[.lst (ps.map wyT)]/\ps.length<=1000/\(∀p∈ps,Wd p.1/\Ch p.2)/\Bd (dJ 1 (ps.map (·.2)):Nat)/\DX (ps.map (·.2))=1/\q (.fz .non)
def La(T:Tx D):gT 4 qy jr zX:=ya T.Nv λF=>by
 refine F.okT JL (λhr _=>bG (cY (bZ wp) (dB (n:=2) (bM (bU (n:=99) 1) (bM (bU (n:=99) 2) cL)))
  (bG (mX (bJ (Cz T) (bA wo bC)))
  (bI (mX (bJ (Ij T) (bA wr bC))))))
  (bI (cA (bW (lG hr.units) (bJ (adp T) (bA (cD (bH n_) tV tV ["pair"] (bZ wp) (c7 (i:=0)) b_ (bK wp bF)) bC)) (lE T.BL T.t_))
  (bI gG)
  bV))) ?_
 rintro _ R ⟨ps,rfl,pl,hp,hB,hs,q⟩;refine dW wyT ps (λ_ o=>∃x y,o=[.fz (.lst (ps.map wyT)),x,y]) ⟨_,_,rfl⟩ ?_ ?_
 .rintro as a bs _ e ⟨x,y,rfl⟩;obtain⟨h1,h2⟩:=hp a (e ▸ by simp);exact⟨rfl,_,rfl,h1,_,rfl,h2,_,_,rfl⟩
 .rintro _ ⟨x,y,rfl⟩;refine⟨aL (by simpa using pl) wx,comp_map wyT (λp=>frR p.2) ps (λp _ N M hN=>hN) ⟨ps.map (·.2),by rw[WU];rfl,by simpa using pl,λr hr=>?_,hB,?_⟩⟩
  .obtain⟨p,b5,rfl⟩:=YV.mp hr;exact(hp p b5).2.bq.1
  .rw[hs];exact q
def addW(ws:zD)(p:Str×Rat):zD:=if(ws.any λx=>decide (x.1=p.1))=true then ws.map (λx=>if x.1=p.1 then(x.1,x.2+p.2)else x)else ws++[p]
def j8(ps:zD):zD:=ps.foldl addW []
abbrev wKs(ws:zD):xh:=ws.map λx=>.inr x.1
abbrev wTs(ws:zD):zh:=ws.map λx=>frR x.2
def ahh(ws:zD)(n:Str):JH (wKs ws) (.inr n)=ws.any λx=>decide (x.1=n):=by
 unfold JH;rw[UK]
 congr 1
 funext x
 exact decide_eq_decide.mpr ⟨λz=>Sum.inr.inj z,λz=>ZH Sum.inr z⟩
theorem Xd(n:Str):∀ws:zD,oN (wKs ws) (wTs ws) (.inr n)=(ws.find? λx=>decide (x.1=n)).map λx=>frR x.2
 |[]=>rfl
 |x::ws=>by
  show(if(Sum.inr x.1:Key)=.inr n then some (frR x.2)else oN (wKs ws) (wTs ws) (.inr n))=_;by_cases h:x.1=n
  .rw[ZY (ZH Sum.inr h),Zzt (p:=λx:Str×Rat=>decide (x.1=n)) (Zs h)];rfl
  .rw[ZZ λz=>h (Sum.inr.inj z),Zzs (p:=λx:Str×Rat=>decide (x.1=n)) (by show ¬decide (x.1=n)=true;rw[Zp h];decide),Xd n ws]
def BX(ws:zD)(n:Str):Rat:=((ws.find? λx=>decide (x.1=n)).map (·.2)).getD 0
def afW(ws:zD)(n:Str):((oN (wKs ws) (wTs ws) (.inr n)).getD (frR 0))=frR (BX ws n):=by
 rw[Xd];unfold BX;cases(ws.find? λx=>decide (x.1=n))<;>rfl
def YJ{ws:zD}{n:Str}(nd:(ws.map (·.1)).Nodup){x:Str×Rat}(hx:x∈ws)(e:x.1=n):(ws.find? λy=>decide (y.1=n))=some x:=by
 induction ws with
 |nil=>cases hx
 |cons y ws ih =>
  obtain⟨n1,n2⟩:=List.nodup_cons.mp nd;rcases YU.mp hx with rfl|z
  .exact Zzt (p:=λy:Str×Rat=>decide (y.1=n)) (Zs e)
  .rw[Zzs (p:=λy:Str×Rat=>decide (y.1=n)) (by show ¬decide (y.1=n)=true;rw[Zp λw=>n1 (YV.mpr ⟨x,z,e.trans w.symm⟩)];decide)];exact ih n2 z
def alo(ws:zD)(p:Str×Rat)(nd:(ws.map (·.1)).Nodup):kpK (wKs ws) (.inr p.1)=wKs (addW ws p)/\kpT (wKs ws) (wTs ws) (.inr p.1) (frR (BX ws p.1+p.2))=wTs (addW ws p):=by
 unfold kpK kpT addW;rw[ahh];by_cases h:(ws.any λx=>decide (x.1=p.1))=true
 .rw[ZY h,ZY h,ZY h];refine⟨by simp only[wKs,WU];refine UX λx _=>?_;show(Sum.inr x.1:Key)=.inr (if x.1=p.1 then(x.1,x.2+p.2)else x).1;split<;>rfl,?_⟩
  clear h
  rw[show wTs (ws.map λx=>if x.1=p.1 then(x.1,x.2+p.2)else x)=ws.map ((λx=>frR x.2) ∘ λx=>if x.1=p.1 then(x.1,x.2+p.2)else x)from WU]
  suffices H:∀(us:zD),(∀x∈us,x.1=p.1->x.2=BX ws p.1)->List.zipWith (λ(k:Key)x=>if k=.inr p.1 then frR (BX ws p.1+p.2)else x) (wKs us) (wTs us)=us.map ((λx=>frR x.2) ∘ λx=>if x.1=p.1 then(x.1,x.2+p.2)else x)from H ws λx hx e=>by
   unfold BX;rw[YJ nd hx e];rfl
  intro us
  induction us with
  |nil=>intro _;rfl
  |cons x us ih =>
   intro H;show List.zipWith _ (Sum.inr x.1::wKs us) (frR x.2::wTs us)=_;rw[List.zipWith_cons_cons,ih λy hy=>H y (aJ _ hy),List.map_cons]
   congr 1
   by_cases e:x.1=p.1
   .rw[ZY (ZH Sum.inr e)];show _=frR (if x.1=p.1 then(x.1,x.2+p.2)else x).2;rw[ZY e,H x (aO ..) e]
   .rw[ZZ λz=>e (Sum.inr.inj z)];show _=frR (if x.1=p.1 then(x.1,x.2+p.2)else x).2;rw[ZZ e]
 .rw[ZZ h,ZZ h,ZZ h];have n0:BX ws p.1=0:=by
   unfold BX;rw[List.find?_eq_none.mpr λx hx z=>h (List.any_eq_true.mpr ⟨x,hx,z⟩)];rfl
  rw[n0,JU];simp only[wKs,wTs,bf];exact⟨rfl,rfl⟩
def afD{ws:zD}{p:Str×Rat}(nd:(ws.map (·.1)).Nodup):((addW ws p).map (·.1)).Nodup:=by
 unfold addW;by_cases h:(ws.any λx=>decide (x.1=p.1))=true
 .rw[ZY h,WU];rw[show ws.map ((λx=>x.1) ∘ λx=>if x.1=p.1 then(x.1,x.2+p.2)else x)=ws.map (·.1)from UX λx _=>by show(if x.1=p.1 then(x.1,x.2+p.2)else x).1=x.1;split<;>rfl];exact nd
 .rw[ZZ h,bf];refine List.nodup_append.mpr ⟨nd,by simp,λa ha b hb z=>h ?_⟩;obtain⟨x,hx,rfl⟩:=YV.mp ha;rw[List.map_singleton,YR]at hb;exact List.any_eq_true.mpr ⟨x,hx,Zs (z.trans hb)⟩
def aay(as bs:zD):j8 (as++bs)=bs.foldl addW (j8 as):=List.foldl_append ..
def U7(ps:zD):((j8 ps).map (·.1)).Nodup:=by
 suffices H:∀(ps ws:zD),(ws.map (·.1)).Nodup->((ps.foldl addW ws).map (·.1)).Nodup from H ps [] .nil
 intro ps
 induction ps with
 |nil=>exact λ_ h=>h
 |cons p ps ih=>exact λws h=>ih _ (afD h)
def N8(ps:zD):(j8 ps).length<=ps.length:=by
 suffices H:∀(ps ws:zD),(ps.foldl addW ws).length<=ws.length+ps.length from by simpa[j8]using H ps []
 intro ps
 induction ps with
 |nil=>exact λ_=>aG _
 |cons p ps ih =>
  intro ws;have h1:(addW ws p).length<=ws.length+1:=by
   unfold addW;split
   .rw[ak];exact Xs _
   .rw[aA,List.length_singleton];exact aG _
  have:=ih (addW ws p);rw[List.foldl_cons,List.length_cons];lia
def ag2(ps:zD):Prop:=∀as a bs,ps=as++a::bs->Bq (BX (j8 as) a.1)/\Bq a.2/\Bd (((BX (j8 as) a.1).den:Int)*a.2.den)
def Ez(ps:zD):zD:=(j8 ps).filter λp=>!decide (p.2=0)
def xV:ST:=λts q=>∃ps:zD,ts=[.lst (ps.map wyT)]/\ps.length<=1000/\ag2 ps/\q (.l1 ((Ez ps).map wyT))
def JC(T:Tx D):gT 4 qL jh xV:=ya T.Mt λF=>by
 refine F.okT KZ (λhr _=>bG (gK 1 Jh)
  (bG (cY (bZ wp) (dB (n:=2) (bM (bU (n:=99) 2) (bM (bU (n:=99) 3) cL)))
  (bI (Jp 1 (xJ hr) (bJ (aeE T) (bA (ZM 1 (xJ hr) wr (lE T.j_ T.iR)) (bA wn bC))) wr)))
  (bI (afk 1 (bH nQ) Bv ["pairs","chances","?room","chance"] ["room"] (c7 (i:=0)) (DK (bW (lG hr.units) (Qy (xJ hr) wr wp) (lE T.j_ T.iR))) (dY (bA wp (bA (Qy (xJ hr) wr wp) bC))))))) ?_
 rintro _ R ⟨ps,rfl,pl,hb,q⟩;refine dW wyT ps (λas o=>∃x y,o=[.fz (.lst (ps.map wyT)),.d1 (wKs (j8 as)) (wTs (j8 as)),x,y]) ⟨_,_,rfl⟩ ?_ ?_
 .rintro as a bs _ e ⟨x,y,rfl⟩;obtain⟨h1,h2,h3⟩:=hb as a bs e;refine⟨rfl,_,rfl,BX (j8 as) a.1,a.2,ZH (λt=>[t,frR a.2]) (afW (j8 as) a.1),h1,h2,h3,_,rfl,?_,.fz (.str a.1),.fz (frR a.2),?_⟩
  .have:=N8 as;have:as.length<=ps.length:=by rw[e];simp
   rw[ak];exact Y3 (show _<=1000 by lia) wx
  .obtain⟨k1,k2⟩:=alo (j8 as) a (U7 as);rw[show j8 (as++[a])=addW (j8 as) a from by rw[aay];rfl,<- k1,<- k2]
   rfl
 .rintro _ ⟨x,y,rfl⟩;have jl:=N8 ps;refine⟨by rw[ak];exact aL (show _<=1000 by exact aL jl pl) wx,?_⟩;dsimp only;rw[show(wKs (j8 ps)).map kT=(j8 ps).map λp=>.str p.1 from WU];refine jC (λp=>.str p.1) (λp=>!decide (p.2=0)) wyT (j8 ps) (λp hp N M hN hM=>?_) ?_
  rotate_left
  .exact q
  have ev:oN (wKs (j8 ps)) (wTs (j8 ps)) (.inr p.1)=some (frR p.2):=by rw[Xd,YJ (U7 ps) hp rfl];rfl
  refine⟨_,_,rfl,ev,?_⟩;have ez:(decide (p.2.num=0)&&decide ((p.2.den:Int)=1))=decide (p.2=0):=by
   by_cases z:p.2=0
   .rw[z];decide
   .rw[Zp z,Zp λy=>z (Rat.num_eq_zero.mp y)];rfl
  refine sw2 (λh=>⟨_,_,rfl,ev,hN ?_⟩) λh=>hM ?_
  .rw[<- h];exact ZH (λb=>!b) ez.symm
  .rw[<- h];exact ZH (λb=>!b) ez.symm
abbrev vm:Φ:=["name","pay","leads"]
abbrev drT(C:Addr)(n:Str)(p:Rat)(ws:zD):T:=.ins C vm [.str n,frR p,.lst (ws.map wyT)]
def SX(D:Adr):SI:=λC ks ts as R=>∃(n:Str)(p:Rat),ks=[]/\ts=[]/\Fam D C/\as=[.str n,frR p]/\Wd n/\R vm [.str n,frR p,.lst []]
def Pa(T:Tx D):OkI P w K mg base CX0 4 D.Door_init jJ (spI K (SX D)):=yf T.Pb λF=>by
 refine F.okI QB (λC ks ts as R hP=>by obtain⟨n,p,_,_,_,e,_⟩:=hP;exact e ▸ rfl) wx λag A outer s H E hr nd=>?_;refine⟨_,(bG (mX (bJ (Mh T) (bA wo (bA wr bC))))
  (bG (sX (Fm:=Fam D) 0 (λC h=>⟨T.cl C h,T.Ji C h⟩) wo)
  (bG (sX (Fm:=Fam D) 0 (λC h=>⟨T.cl C h,T.adQ C h⟩) wr)
  (bI (sX (Fm:=Fam D) 0 (λC h=>⟨T.cl C h,T.DN C h⟩) (cR bC)))))),?_⟩
 rintro a dx C _ _ _ R ⟨n,p,rfl,rfl,hC,rfl,hw,q⟩;exact⟨_,_,rfl,hw,⟨hC,by decide⟩,⟨hC,by decide⟩,⟨hC,by decide⟩,_,_,rfl,q⟩
def V6(D:Adr):Fam D D.Sure:=by simp[Fam]
def aat(D:Adr):Fam D D.Mixed:=by simp[Fam]
def adG(D:Adr):Fam D D.Toss:=by simp[Fam]
def abL(D:Adr):Fam D D.Even:=by simp[Fam]
def JG(D:Adr):Fam D D.Hall:=by simp[Fam]
def Y4(D:Adr):SI:=λC ks ts as R=>∃(n m:Str)(p:Rat),ks=[]/\ts=[]/\Fam D C/\as=[.str n,frR p,.str m]/\Wd n/\Wd m/\R vm [.str n,frR p,.lst ([(m,1)].map wyT)]
def Pq(T:Tx D):OkI P w K mg base CX0 5 D.Sure_init mD (spI K (Y4 D)):=yf T.Ro λF=>by
 refine F.okI Qs (λC ks ts as R hP=>by obtain⟨n,p,_,_,_,_,e,_⟩:=hP;exact e ▸ rfl) wx λag A outer s H E hr nd=>?_;refine⟨_,(bG (Jo 0 T.Eh (Pa T) T.acJ (bA wo (bA wr bC)))
  (bG (mX (bJ (Cz T) (bA wn bC)))
  (bI (sX (Fm:=Fam D) 0 (λC h=>⟨T.cl C h,T.DN C h⟩) (cR (bA (dY (bA wn (bA (lE T.BL T.t_) bC))) bC)))))),?_⟩
 rintro a dx C _ _ _ R ⟨n,m,p,rfl,rfl,hC,rfl,hw,hm,q⟩;exact⟨_,_,rfl,rfl,hC,rfl,hw,_,rfl,hm,⟨hC,by decide⟩,_,_,rfl,q⟩
structure Prs(ps:zD):Prop where
 few:ps.length<=1000
 ok:∀p∈ps,Wd p.1/\Ch p.2
 bd:Bd (dJ 1 (ps.map (·.2)):Nat)
 one:DX (ps.map (·.2))=1
 jb:ag2 ps
def Ep(D:Adr):SI:=λC ks ts as R=>∃(n:Str)(p:Rat)(ps:zD),ks=[]/\ts=[]/\Fam D C/\as=[.str n,frR p,.lst (ps.map wyT)]/\Wd n/\Prs ps/\R vm [.str n,frR p,.lst ((Ez ps).map wyT)]
def NQ(T:Tx D):OkI P w K mg base CX0 5 D.Mixed_init gH (spI K (Ep D)):=yf T.Nh λF=>by
 refine F.okI Mx (λC ks ts as R hP=>by obtain⟨n,p,_,_,_,_,e,_⟩:=hP;exact e ▸ rfl) wx λag A outer s H E hr nd=>?_;refine⟨_,(bG (Jo 0 T.Eh (Pa T) T.acJ (bA wo (bA wr bC)))
  (bG (mX (bJ (La T) (bA wn bC)))
  (bI (sX (Fm:=Fam D) 0 (λC h=>⟨T.cl C h,T.DN C h⟩) (bJ (JC T) (bA wn bC)))))),?_⟩
 rintro a dx C _ _ _ R ⟨n,p,ps,rfl,rfl,hC,rfl,hw,h,q⟩;exact⟨_,_,rfl,rfl,hC,rfl,hw,_,rfl,h.few,h.ok,h.bd,h.one,_,rfl,h.few,h.jb,⟨hC,by decide⟩,_,_,rfl,q⟩
def YF(D:Adr):SI:=λC ks ts as R=>∃(n x y:Str)(p c:Rat),ks=[]/\ts=[]/\Fam D C/\as=[.str n,frR p,frR c,.str x,.str y]/\Wd n/\Ch c/\Prs [(x,c),(y,1-c)]/\R vm [.str n,frR p,.lst ((Ez [(x,c),(y,1-c)]).map wyT)]
def Tf(T:Tx D):OkI P w K mg base CX0 6 D.Toss_init lY (spI K (YF D)):=yf T.RZ λF=>by
 refine F.okI Qk (λC ks ts as R hP=>by obtain⟨n,_,_,p,_,_,_,_,e,_⟩:=hP;exact e ▸ rfl) wx λag A outer s H E hr nd=>?_;refine⟨_,(bG (mX (bJ (Mh T) (bA wo (bA wr bC))))
  (bG (mX (bJ (Ij T) (bA wn bC)))
  (bI (Jo 0 T.Bl (NQ T) T.Tn (bA wo (bA wr (bA (cR (bA (dY (bA we (bA wn bC))) (bA (dY (bA wa (bA (bJ (abx T) (bA (lE T.BL T.t_) (bA wn bC))) bC))) bC))) bC))))))),?_⟩
 rintro a dx C _ _ _ R ⟨n,x,y,p,c,rfl,rfl,hC,rfl,hw,hc,h,q⟩;refine⟨_,_,rfl,hw,_,rfl,hc,1,c,rfl,bq1,hc.bq,?_,n,p,_,rfl,rfl,hC,rfl,hw,h,_,_,rfl,q⟩;rw[show(((1:Rat).den:Nat):Int)*(c.den:Int)=(c.den:Int)from TU _];exact hc.2.2
def even(bo:Φ):zD:=bo.map λr=>(r,mkRat 1 bo.length)
def Xj(h:0<n):frR (mkRat 1 n)=.tup [.int 1,.int (n:Nat)]:=by
 have:mkRat 1 n=⟨1,n,by exact VQ h,by show Nat.Coprime 1 n;exact Nat.coprime_one_left n⟩:=by
  rw[Rat.mk_eq_divInt];rfl
 rw[this]
def ZQ(D:Adr):SI:=λC ks ts as R=>∃(n:Str)(p:Rat)(bo:Φ),ks=[]/\ts=[]/\Fam D C/\as=[.str n,frR p,.lst (bo.map T.str)]/\Wd n/\Prs (even bo)/\R vm [.str n,frR p,.lst ((Ez (even bo)).map wyT)]
def QM(T:Tx D):OkI P w K mg base CX0 6 D.Even_init mV (spI K (ZQ D)):=yf T.Qd λ{fd}F=>by
 refine F.okI R4 (λC ks ts as R hP=>by obtain⟨n,p,_,_,_,_,e,_⟩:=hP;exact e ▸ rfl) wx λag A outer s H E hr nd=>?_;refine⟨_,(bI (Jo 0 T.Bl (NQ T) T.Tn (bA wo (bA wr (bA (cD (bH sU) zm zm ["room"] (bZ wn) (c7 (i:=0)) b_ (dY (bA wp (bA (dY (bA bF (bA (bT cQ T.dU WG (bA we bC)) bC))) bC)))) bC))))),?_⟩;rintro a dx C _ _ _ R ⟨n,p,bo,rfl,rfl,hC,rfl,hw,h,q⟩;have hl:bo.length<=1000:=by have:=h.few;rwa[even,ak]at this
 refine⟨by rw[ak];exact aL hl wx,comp_map L2.T.str (λr=>wyT (r,mkRat 1 bo.length)) bo (λr hr N M hN=>?_) ⟨n,p,even bo,rfl,rfl,hC,?_,hw,h,_,_,rfl,q⟩⟩
 .rw[show wyT (r,mkRat 1 bo.length)=.tup [.str r,frR (mkRat 1 bo.length)]from rfl,Xj (List.length_pos_of_mem hr),<- ak (f:=L2.T.str)]at hN;exact hN
 .unfold even;rw[WU]
  rfl
def FP(D:Adr):ST:=λts q=>∃(C:Addr)(n:Str)(p:Rat)(ws:zD),ts=[drT C n p ws]/\Fam D C/\q (.l1 (ws.map wyT))
def Qp(T:Tx D):gI 1 D.Door_ways mK (FP D):=yf T.Rt λF=>by
 refine F.okT Qu (λ_ _=>bI (bR (jQ sY T.rN boot_list (bA (Ck (Fm:=Fam D) (λC h=>⟨T.cl C h,T.DN C h⟩) wp) bC)))) ?_;rintro _ R ⟨C,n,p,ws,rfl,hC,q⟩;exact⟨hC,_,rfl,q⟩
structure bN where
 name:Str
 pay:Rat
 ways:zg
abbrev xD:=List bN
abbrev xo:=Option bN
abbrev xw:=List xo
abbrev zd:=List xD
abbrev nwT(p:Nat×Rat):T:=.tup [.int (p.1:Nat),frR p.2]
abbrev ofT(o:bN):T:=.tup [.str o.name,frR o.pay,.lst (o.ways.map nwT)]
abbrev jN:Φ:=["share","numbers","offered"]
abbrev nmK(ns:Φ):xh:=ns.map Sum.inr
abbrev nmT(ns:Φ):zh:=(List.range ns.length).map λk:Nat=>.int k
abbrev hlT(D:Adr)(s:Rat)(ns:Φ)(off:zd):T:=.ins D.Hall jN [frR s,.dct (nmK ns) (nmT ns),.lst (off.map λds=>.lst (ds.map ofT))]
def yq:ST:=λts q=>∃r:Rat,ts=[frR r]/\0<=r/\r<1/\Bq r/\q (.fz .non)
def Lk(T:Tx D):gT 3 qX jq yq:=ya T.MF λF=>by
 refine F.okT Kg (λ_ _=>bI (cA (QW.qt (fW (dN (cF (bJ (Vz T) (bA wp bC)))) (fW (cF (bJ (abS T) (bA wp (bA (lE T.j_ T.iR) bC)))) (eX (dN (cF (bJ (abS T) (bA wp (bA (lE T.BL T.t_) bC)))))))))
  (bI gG)
  bV)) ?_
 rintro _ R ⟨r,rfl,h0,h1,hb,q⟩;refine⟨_,rfl,r,0,rfl,hb,bq0,?_⟩;rw[Zp (Rat.not_lt.mpr h0)];refine⟨r,1,rfl,hb,bq1,?_⟩;rwa[Zs h1]
def ac6(ns:Φ)(n:Str)(h:n∉ns):JH (nmK ns) (.inr n)=false:=by
 unfold JH;rw[UK];exact List.any_eq_false.mpr λx hx z=>h ((Sum.inr.inj (of_decide_eq_true z)) ▸ hx)
theorem Ws{α:Type}(n:Str):∀(ns:Φ)(ts:List α),n∉ns->oN (nmK ns) ts (.inr n)=none
 |[],_,_=>rfl
 |_::_,[],_=>rfl
 |m::ns,t::ts,h=>by
  show(if(Sum.inr m:Key)=.inr n then some t else oN (nmK ns) ts (.inr n))=none;rw[ZZ λz=>h (by rw[Sum.inr.inj z];exact aO ..)];exact Ws n ns ts λz=>h (aJ _ z)
theorem YG{α:Type}{n:Str} : ∀{ns:Φ}{ts:List α}{k:Nat}{t:α},ns.Nodup->ns[k]?=some n->ts[k]?=some t->oN (nmK ns) ts (.inr n)=some t
 |[],_,_,_,_,e,_=>by cases e
 |m::ns,[],_,_,_,_,e=>by cases e
 |m::ns,u::ts,k,t,nd,e1,e2=>by
  obtain⟨n1,n2⟩:=List.nodup_cons.mp nd;show(if(Sum.inr m:Key)=.inr n then some u else oN (nmK ns) ts (.inr n))=some t;cases k with
  |zero=>cases e1;cases e2;exact ZY rfl
  |succ k =>
   have i4:ns[k]?=some n:=by simpa using e1
   rw[ZZ λ(z:(Sum.inr m:Key)=.inr n)=>n1 (by rw[Sum.inr.inj z];exact aC i4)];exact YG n2 i4 (by simpa using e2)
def ait(ns:Φ)(n:Str)(h:n∉ns):kpK (nmK ns) (.inr n)=nmK (ns++[n])/\kpT (nmK ns) (nmT ns) (.inr n) (.int (ns.length:Nat))=nmT (ns++[n]):=by
 unfold kpK kpT;rw[ac6 ns n h];refine⟨by rw[ZZ wx];simp[nmK],?_⟩;rw[ZZ wx];simp only[nmT,aA,List.length_singleton,List.range_succ,bf,List.map_singleton]
abbrev rmT(p:Str×zh):T:=.tup [.str p.1,.lst p.2]
def BK:ST:=λts q=>∃f8:List (Str×zh),ts=[.lst (f8.map rmT)]/\f8.length<=1000/\(∀p∈f8,Wd p.1)/\(f8.map (·.1)).Nodup/\q (.d1 (nmK (f8.map (·.1))) (nmT (f8.map (·.1))))
def Ma(T:Tx D):gT 2 uw kE BK:=ya T.Rm λF=>by
 refine F.okT Np (λhr _=>bG (gK 1 Jh)
  (bG (cY (bZ wp) (bU (n:=99) 2)
  (bG (bQ 3 (bK wr bF))
  (bG (cA (QW.qt (fW (dN (cF (bJ (Yq T) (bA wn bC)))) (eX (QH 1 (abN (xJ hr) wn wo)))))
  (bI gG)
  bV)
  (bI (Jp 1 (xJ hr) (Pj 1 (bT ZL T.dU WG (bA wo bC))) wn)))))
  (bI (iu 1)))) ?_
 rintro _ R ⟨f8,rfl,rl,hw,nd,q⟩;refine dW rmT f8 (λas o=>∃x y,o=[.fz (.lst (f8.map rmT)),.d1 (nmK (as.map (·.1))) (nmT (as.map (·.1))),x,y]) ⟨_,_,rfl⟩ ?_ ?_
 .rintro as a bs _ e ⟨x,y,rfl⟩;have na:a.1∉as.map (·.1):=by
   rw[e,bf,List.map_cons]at nd;exact λz=>(List.nodup_append.mp nd).2.2 a.1 z a.1 (aO ..) rfl
  have al:as.length<=f8.length:=by rw[e];simp
  refine⟨_,rfl,hw a (e ▸ by simp),_,rfl,?_⟩;rw[Ws a.1 _ _ na];refine⟨trivial,_,rfl,by rw[ak,ak];exact Y3 (show _<=1000 by exact aL al rl) wx,.fz (rmT a),.fz (.str a.1),?_⟩;obtain⟨k1,k2⟩:=ait (as.map (·.1)) a.1 na;rw[bf,List.map_singleton,<- k1,<- k2];simp only[ak]
  rfl
 .rintro _ ⟨x,y,rfl⟩;exact q
structure NWk(ns:Φ)(us:zg):Prop where
 few:us.length<=1000
 lt:∀p∈us,p.1<ns.length
abbrev Uq(ns:Φ)(us:zg):zD:=us.map λp=>(ns.getD p.1 ⟨#[]⟩,p.2)
def uY(D:Adr):ST:=λts q=>∃(C:Addr)(n:Str)(p:Rat)(ns:Φ)(us:zg),ts=[drT C n p (Uq ns us),.dct (nmK ns) (nmT ns)]/\dg D C/\ns.Nodup/\NWk ns us/\q (.l1 (us.map nwT))
def G8(T:Tx D):gT 2 nq gU (uY D):=ya T.Im λF=>by
 refine F.okT Gy (λhr _=>bG (gK 2 (cR bC))
  (bG (cY (bZ (QE.any λC(hC:dg D C)=>xY wp (T.cl C hC.fam) (T.TF C hC) (Qp T) (KS:=vm))) (dB (n:=2) (bM (bU (n:=99) 3) (bM (bU (n:=99) 4) cL)))
  (bG (cA (aak (xJ hr) wn wo)
  (bI gG)
  bV)
  (bI (uh 2 (dY (bA (Qy (xJ hr) wo wn) (bA we bC)))))))
  (bI (iu 2)))) ?_
 rintro _ R ⟨C,n,p,ns,us,rfl,hC,nd,hu,q⟩;refine⟨C,hC,⟨rfl,rfl⟩,C,n,p,_,rfl,hC.fam,?_⟩;show xH _ _ _ (List.map wyT (Uq ns us)) _;rw[show(Uq ns us).map wyT=us.map λp=>wyT (ns.getD p.1 ⟨#[]⟩,p.2)from WU];refine dW (λp=>wyT (ns.getD p.1 ⟨#[]⟩,p.2)) us (λas o=>∃x y,o=[.fz (drT C n p (Uq ns us)),.fz (.dct (nmK ns) (nmT ns)),.l1 (as.map nwT),x,y]) ⟨_,_,rfl⟩ ?_ ?_
 .rintro as a bs _ e ⟨x,y,rfl⟩;have lt:=hu.lt a (e ▸ by simp);have al:as.length<us.length:=by rw[e];simp
  have few:=hu.few;have en:ns[a.1]?=some (ns.getD a.1 ⟨#[]⟩):=by rw[au,aj lt];rfl
  have ev:oN (nmK ns) (nmT ns) (.inr (ns.getD a.1 ⟨#[]⟩))=some (.int (a.1:Nat)):=YG nd en (by rw[aq,VX lt];rfl);refine⟨rfl,_,rfl,?_⟩;rw[ev];refine⟨_,_,rfl,ev,by rw[ak];exact Y3 (show _<=1000 by exact aL (Y2 al) few) wx,.fz (.str (ns.getD a.1 ⟨#[]⟩)),.fz (frR a.2),?_⟩;rw[bf]
  rfl
 .rintro _ ⟨x,y,rfl⟩;exact q
structure Made where
 cls:Addr
 of:bN
abbrev xS:=List (List Made)
abbrev mdT(ns:Φ)(m:Made):T:=drT m.cls m.of.name m.of.pay (Uq ns m.of.ways)
structure Mds(D:Adr)(ns:Φ)(ds:List Made):Prop where
 few:ds.length<=1000
 cls:∀m∈ds,dg D m.cls
 ways:∀m∈ds,NWk ns m.of.ways
 nd:(ds.map λm=>m.of.name).Nodup
def ae7(ns:Φ)(n:Str)(h:n∉ns):kpK (nmK ns) (.inr n)=nmK (ns++[n])/\kpT (nmK ns) (ns.map λ_=>L2.T.bl true) (.inr n) (.bl true)=(ns++[n]).map λ_=>L2.T.bl true:=by
 unfold kpK kpT;rw[ac6 ns n h];refine⟨by rw[ZZ wx];simp[nmK],?_⟩;rw[ZZ wx];simp
def Ek(D:Adr):ST:=λts q=>∃(ns:Φ)(ds:List Made),ts=[.lst (ds.map (mdT ns)),.dct (nmK ns) (nmT ns)]/\ns.Nodup/\Mds D ns ds/\q (.l1 (ds.map λm=>ofT m.of))
def PB(T:Tx D):gT 3 vg mO (Ek D):=ya T.Uk λF=>by
 refine F.okT Qc (λhr _=>bG (gK 2 Jh)
  (bG (gK 3 (cR bC))
  (bG (cY (bZ wp) (bU (n:=99) 4)
  (bG (cA (QH 2 (abN (xJ hr) (Ck (Fm:=Fam D) (λC h=>⟨T.cl C h,T.Ji C h⟩) we) wr))
  (bI gG)
  bV)
  (bG (Jp 2 (xJ hr) g_ (Ck (Fm:=Fam D) (λC h=>⟨T.cl C h,T.Ji C h⟩) we))
  (bI (uh 3 (dY (bA (Ck (Fm:=Fam D) (λC h=>⟨T.cl C h,T.Ji C h⟩) we) (bA (Ck (Fm:=Fam D) (λC h=>⟨T.cl C h,T.adQ C h⟩) we) (bA (bJ (G8 T) (bA we (bA wo bC))) bC)))))))))
  (bI (iu 3))))) ?_
 rintro _ R ⟨ns,ds,rfl,nd,hd,q⟩;refine dW (mdT ns) ds (λas o=>∃x,o=[.fz (.lst (ds.map (mdT ns))),.fz (.dct (nmK ns) (nmT ns)),.d1 (nmK (as.map λm=>m.of.name)) ((as.map λm=>m.of.name).map λ_=>.bl true),.l1 (as.map λm=>ofT m.of),x]) ⟨_,rfl⟩ ?_ ?_
 .rintro as a bs _ e ⟨x,rfl⟩;have na:a.of.name∉as.map λm=>m.of.name:=by
   have nd:=hd.nd;rw[e,bf,List.map_cons]at nd;exact λz=>(List.nodup_append.mp nd).2.2 _ z _ (aO ..) rfl
  have al:as.length<ds.length:=by rw[e];simp
  have few:=hd.few;have ma:a∈ds:=e ▸ by simp
  have hc:=hd.cls a ma;refine⟨hc.fam,_,rfl,_,rfl,?_⟩;rw[Ws _ _ _ na];refine⟨hc.fam,_,rfl,_,rfl,by rw[ak,ak];exact Y3 (show _<=1000 by exact aL (Y2 al) few) wx,hc.fam,_,rfl,hc.fam,_,rfl,_,_,_,ns,a.of.ways,rfl,hc,nd,hd.ways a ma,by rw[ak];exact Y3 (show _<=1000 by exact aL (Y2 al) few) wx,.fz (mdT ns a),?_⟩;obtain⟨k1,k2⟩:=ae7 (as.map λm=>m.of.name) a.of.name na;rw[show(as++[a]).map (λm=>m.of.name)=as.map (λm=>m.of.name)++[a.of.name]from bf,<- k1,<- k2,bf]
  rfl
 .rintro _ ⟨x,rfl⟩;exact q
structure agO(D:Adr)(ns:Φ)(ae:xS):Prop where
 len:ae.length=ns.length
 few:ns.length<=1000
 wd:∀n∈ns,Wd n
 nd:ns.Nodup
 mds:∀ds∈ae,Mds D ns ds
abbrev BW(ns:Φ)(ae:xS):zh:=(ns.zip ae).map λp=>rmT (p.1,p.2.map (mdT ns))
abbrev offs(ae:xS):zd:=ae.map λds=>ds.map λm=>m.of
def YQ(D:Adr):SI:=λC ks ts as R=>∃(s:Rat)(ns:Φ)(ae:xS),C=D.Hall/\ks=[]/\ts=[]/\as=[frR s,.lst (BW ns ae)]/\0<=s/\s<1/\Bq s/\agO D ns ae/\R jN [frR s,.dct (nmK ns) (nmT ns),.lst ((offs ae).map λds=>.lst (ds.map ofT))]
def Q9(T:Tx D):OkI P w K mg base CX0 4 D.Hall_init mL (spI K (YQ D)):=yf T.RB λF=>by
 refine F.okI RD (λC ks ts as R hP=>by obtain⟨n,p,_,_,_,_,e,_⟩:=hP;exact e ▸ rfl) wx λag A outer s H E hr nd=>?_;refine⟨_,(bG (mX (bJ (Lk T) (bA wo bC)))
  (bG (sX (Fm:=Fam D) 0 (λC h=>⟨T.cl C h,T.abG C h⟩) wo)
  (bG (sX (Fm:=Fam D) 0 (λC h=>⟨T.cl C h,T.CZ C h⟩) (bJ (Ma T) (bA wr bC)))
  (bI (sX (Fm:=Fam D) 0 (λC h=>⟨T.cl C h,T.Le C h⟩) (cD (bH sG) yZ yZ ["room"] (bZ wr) (c7 (i:=0)) b_ (bJ (PB T) (bA (bK wp bF) (bA (aer (Fm:=Fam D) 1 (λC h=>⟨T.cl C h,T.CZ C h⟩)) bC))))))))),?_⟩
 rintro a dx C _ _ _ R ⟨s,ns,ae,rfl,rfl,rfl,rfl,s0,s1,sb,h,q⟩;have z1:(ns.zip ae).map (·.1)=ns:=List.map_fst_zip (by have:=h.len;exact WJ (Eq.symm this));have z2:(ns.zip ae).map (·.2)=ae:=List.map_snd_zip (by have:=h.len;exact WJ this);have zl:(ns.zip ae).length=ns.length:=by rw[WH,h.len,Up]
 have hf:=JG D;have few:=h.few;refine⟨_,rfl,s0,s1,sb,⟨hf,by decide⟩,(ns.zip ae).map λp=>(p.1,p.2.map (mdT ns)),by rw[WU];rfl,by rw[ak,zl];exact few,λp hp=>?_,?_,⟨hf,by decide⟩,?_⟩
 .obtain⟨x,hx,rfl⟩:=YV.mp hp;exact h.wd x.1 (z1 ▸ YV.mpr ⟨x,hx,rfl⟩)
 .rw[WU];exact z1.symm ▸ h.nd
 .rw[show((ns.zip ae).map λp=>(p.1,p.2.map (mdT ns))).map (·.1)=ns from List.map_map.trans z1];refine⟨by rw[ak,zl];exact aL few wx,comp_map (λp=>rmT (p.1,p.2.map (mdT ns))) (λp=>.lst (p.2.map λm=>ofT m.of)) (ns.zip ae) (λp hp N M hN=>?_) ⟨⟨hf,by decide⟩,_,_,rfl,?_⟩⟩
  .exact⟨hf,_,rfl,ns,p.2,rfl,h.nd,h.mds p.2 (z2 ▸ YV.mpr ⟨p,hp,rfl⟩),hN⟩
  .have:(ns.zip ae).map (λp=>L2.T.lst (p.2.map λm=>ofT m.of))=(offs ae).map λds=>.lst (ds.map ofT):=by
    rw[show(offs ae).map (λds=>L2.T.lst (ds.map ofT))=ae.map λds=>.lst (ds.map λm=>ofT m.of)from by simp[offs,WU,Function.comp_def]]
    conv=>rhs;rw[<- z2,WU]
    rfl
   rw[<- this]at q;exact q
structure Nf(ns:Φ)(off:zd):Prop where
 len:off.length=ns.length
 few:ns.length<=1000
 fews:∀ds∈off,ds.length<=1000
def lZ(D:Adr):ST:=λts q=>∃(s:Rat)(ns:Φ)(off:zd),ts=[hlT D s ns off]/\q (.fz (.int (ns.length:Nat)))
def Sy(T:Tx D):gI 1 D.Hall_size gA (lZ D):=yf T.Rb λ{fd}F=>by
 refine F.okT QL (λ_ _=>bI (bR (bT ZL T.dU WG (bA (Ck (Fm:=Fam D) (λC h=>⟨T.cl C h,T.CZ C h⟩) wp) bC)))) ?_;rintro _ R ⟨s,ns,off,rfl,q⟩;refine⟨JG D,_,rfl,?_⟩;rw[<- ak (f:=(Sum.inr:Str->Key))]at q;exact q
def uf(D:Adr):ST:=λts q=>∃(s:Rat)(ns:Φ)(off:zd)(k:Nat),ts=[hlT D s ns off,.int k]/\k<ns.length/\q (.fz .non)
def Mr(T:Tx D):gI 2 D.Hall_check_room eN (uf D):=yf T.Cp λF=>by
 refine F.okT Cw (λ_ _=>bI (cA (QW.qt (fW (dN (cF (bJ (VJ T) (bA wo bC)))) (eX (dN (Vp TY Hx bF wo (xY wp T.iK T.pY (Sy T) (KS:=jN)))))))
  (bI gG)
  bV)) ?_
 rintro _ R ⟨s,ns,off,k,rfl,hk,q⟩;refine⟨_,_,rfl,rfl,⟨rfl,rfl⟩,_,_,_,rfl,?_⟩;show sw (!decide ((k:Int)<(ns.length:Nat))) _ _;rwa[Zs (show(k:Int)<(ns.length:Nat)by lia)]
def p8(D:Adr):ST:=λts q=>∃(s:Rat)(ns:Φ)(off:zd)(k:Nat)(ds:xD),ts=[hlT D s ns off,.int k]/\Nf ns off/\off[k]?=some ds/\q (.l1 (ds.map ofT))
def cZ{l:List α}{h:α->T}{a:α}(e:l[k]?=some a):ixT (l.map h) (k:Nat)=some (h a):=by
 show nth (l.map h) k=_;rw[vD,aq,e];rfl
def aao(T:Tx D):gI 3 D.Hall_offers dZ (p8 D):=yf T.J0 λF=>by
 refine F.okT JR (λ_ _=>bG (mX (wO wp T.iK T.qY (Mr T) (bA wo bC) (KS:=jN)))
  (bI (bR (cD (bH nR) uc uc ["name","pay","numbered"] (bZ (bK (Ck (Fm:=Fam D) (λC h=>⟨T.cl C h,T.Le C h⟩) wp) wo)) (dB (n:=3) (bM (c7 (i:=0)) (bM (c7 (i:=1)) (bM (c7 (i:=2)) cL)))) b_ (dY (bA wp (bA wo (bA (jQ sY T.rN boot_list (bA wr bC)) bC)))))))) ?_
 rintro _ R ⟨s,ns,off,k,ds,rfl,h,e,q⟩;have lk:k<ns.length:=by rw[<- h.len];exact(ao.mp e).1
 refine⟨⟨rfl,rfl⟩,s,ns,off,k,rfl,lk,JG D,_,rfl,.lst (ds.map ofT),cZ (h:=λds=>L2.T.lst (ds.map ofT)) e,by rw[ak];exact aL (h.fews ds (aC e)) wx,comp_map ofT ofT ds (λo _ N M hN=>⟨rfl,hN⟩) q⟩
def acZ(m:Nat):wq:=(List.range m).map λi=>(List.range m).map λj=>frR (if j=i then 1 else 0)
def yW:ST:=λts q=>∃m:Nat,ts=[.int m]/\m<=100/\q (.l2 (acZ m))
def Kl(T:Tx D):gT 1 qG jD yW:=ya T.Mq λF=>by
 refine F.okT JD (λhr _=>bI (bR (ac2 (bH kj) j7 j7 "row" (dI T.fu (bA wp bC)) ag1 b_ (Z1 (bH kj) ("row"::j7) ("row"::j7) ["column"] (dI T.fu (bA wo bC)) (c7 (i:=0)) b_ (FJ (bW (go_eq hr.units) wp wo) (lE T.BL T.t_) (lE T.j_ T.iR)))))) ?_;rintro _ R ⟨m,rfl,h,q⟩;have sz:(100:Nat)<=sizeLine:=by decide
 have rl:(rng 0 m).length<=sizeLine:=by rw[rng,ak,WP];exact aL h sz
 refine⟨⟨by lia,by lia⟩,rl,TV (λi=>(List.range m).map λj=>frR (if j=i then 1 else 0)) m (λi hi N M hN=>⟨⟨by lia,by lia⟩,rl,Ju (λj=>frR (if j=i then 1 else 0)) m (λj hj N M hN=>?_) hN⟩) q⟩;by_cases e:j=i
 .rw[ZY e]at hN;exact swT (Zs wv) hN
 .rw[ZZ e]at hN;exact swF (Zp wv) hN
def dT:xl->T
 |none=>.non
 |some d=>.int d
def qQ:xl->Nat->Bool
 |none,n=>decide (n=0)
 |some d,n=>decide (d<n)
structure PlT(off:zd)(pl:zb):Prop where
 len:pl.length=off.length
 ok:∀(k:Nat)(d:xl)(ds:xD),pl[k]?=some d->off[k]?=some ds->qQ d ds.length=true
def Y7:ST:=λts q=>∃(d:xl)(n:Nat),ts=[dT d,.int n]/\q (.fz (.bl (qQ d n)))
def afS(T:Tx D):gT 2 Tv Fe Y7:=ya T.aif λF=>by
 refine F.okT afG (λhr _=>bG (cA (bW (go_eq hr.units) wo bF)
  (bI (bR (qw qU wp eE)))
  bV)
  (bI (bR (G6 (bJ (VJ T) (bA wp bC)) (G3 (Vh TY Hx bF wp wo)))))) ?_
 rintro _ R ⟨d,n,rfl,q⟩;by_cases e:n=0
 .subst e;cases d with
  |none=>exact q
  |some d=>exact q
 .refine swF (Zp wv) ?_;cases d with
  |none =>
   rw[show qQ none n=false from Zp e]at q;exact⟨_,_,rfl,rfl,q⟩
  |some d =>
   rw[show qQ (some d) n=decide ((d:Int)<(n:Int))from decide_eq_decide.mpr (by omega)]at q;exact⟨_,_,rfl,rfl,q⟩
def Bm(D:Adr):ST:=λts q=>∃(s:Rat)(ns:Φ)(off:zd)(pl:zb),ts=[hlT D s ns off,.lst (pl.map dT)]/\Nf ns off/\PlT off pl/\q (.fz (.bl true))
def M7(T:Tx D):gT 4 uy j5 (Bm D):=ya T.Sx λF=>by
 refine F.okT NK (λhr _=>bG (cA (QW.qt (fW (dN (cF (rM .list wo T.d7 T.rN boot_list))) (eX (bW (lG hr.units) (bT cQ T.dU WG (bA wo bC)) (xY wp T.iK T.pY (Sy T) (KS:=jN))))))
  (bI gG)
  bV)
  (bG (cY (pU T.gF (bA wo bC)) (dB (n:=2) (bM (bU (n:=99) 2) (bM (bU (n:=99) 3) cL)))
  (bI (cA (dN (cF (bJ (afS T) (bA wn (bA (bT cQ T.dU WG (bA (wO wp T.iK T.jA (aao T) (bA wr bC) (KS:=jN)) bC)) bC)))))
  (bI gG)
  bV)))
  (bI (bR g_)))) ?_
 rintro _ R ⟨s,ns,off,pl,rfl,h,hp,q⟩;refine⟨⟨rfl,rfl⟩,_,_,_,rfl,swF ?_ ?_⟩
 .show xr true (decide ((((pl.map dT).length:Nat):Int)=(ns.length:Nat)))=false;rw[ak,hp.len,h.len,Zs rfl]
  rfl
 .refine qm dT pl (λk o=>∃x y,o=[.fz (hlT D s ns off),.fz (.lst (pl.map dT)),x,y]) ⟨_,_,rfl⟩ ?_ ?_
  .rintro k d _ e ⟨x,y,rfl⟩;have lk:k<off.length:=by rw[<- hp.len];exact(ao.mp e).1
   have ek:=aj lk;refine⟨rfl,⟨rfl,rfl⟩,_,_,_,k,_,rfl,h,ek,d,(off[k]).length,?_,?_⟩
   .show[dT d,L2.T.int ((((off[k]).map ofT).length:Nat):Int)]=_;rw[ak]
   .rw[hp.ok k d _ e ek];exact⟨_,_,rfl⟩
  .rintro _ ⟨x,y,rfl⟩;exact q
def chO(off:zd)(pl:zb):xw:=pl.zipIdx.map λp=>p.1.bind λd=>(off.getD p.2 [])[d]?
def opT:xo->T
 |none=>.non
 |some o=>ofT o
def xO(D:Adr):ST:=λts q=>∃(s:Rat)(ns:Φ)(off:zd)(pl:zb),ts=[hlT D s ns off,.lst (pl.map dT)]/\Nf ns off/\PlT off pl/\q (.l1 ((chO off pl).map opT))
def Ia(T:Tx D):gT 4 pA iH (xO D):=ya T.KR λF=>by
 refine F.okT Ir (λ_ _=>bI (bR (cD (bH lW) rP rP ["room","door"] (pU T.gF (bA wo bC)) (dB (n:=2) (bM (c7 (i:=0)) (bM (c7 (i:=1)) cL))) b_ (FJ (bW qU wo eE) eE (bK (wO wr T.iK T.jA (aao T) (bA wp bC) (KS:=jN)) wo))))) ?_;rintro _ R ⟨s,ns,off,pl,rfl,h,hp,q⟩;refine⟨by unfold tD;rw[ak,U2,ak,hp.len,h.len];exact aL h.few wx,?_⟩;rw[K1];refine comp_map (λp=>.tup [.int (p.2:Nat),dT p.1]) (λp=>opT (p.1.bind λd=>(off.getD p.2 [])[d]?)) pl.zipIdx (λp hm N M hN=>⟨rfl,?a⟩) ?b
 case b =>
  unfold chO at q;rw[WU]at q;exact q
 case a =>
  obtain⟨d,k⟩:=p;have e:=List.mem_zipIdx_iff_getElem?.mp hm;have lk:k<off.length:=by rw[<- hp.len];exact(ao.mp e).1
  have ek:=aj lk;have eg:off.getD k []=off[k]:=by rw[au,ek];rfl
  have ft:=hp.ok k d _ e ek;cases d with
  |none=>exact hN
  |some d =>
   have ld:d<(off[k]).length:=of_decide_eq_true ft;have hN:N (opT ((off.getD k [])[d]?)):=hN;rw[eg,aj ld]at hN;exact⟨⟨rfl,rfl⟩,_,_,_,k,_,rfl,h,ek,_,cZ (aj ld),hN⟩
open Rw (vr jg iY oM gcL iw iy uJ mU Big rG jZ n8 kZ nY gD)
abbrev Row:=List Int×Int
abbrev xj:=List Row
abbrev rwT(r:Row):T:=.tup [.lst (r.1.map T.int),.int r.2]
def NN:Nat:=10^600
def ai1{i:Int}(h:i.natAbs<=NN*NN*NN):Bd i:=Y3 h (by decide +kernel)
def bdN{i:Int}(h:i.natAbs<=NN):Bd i:=ai1 (aL h (by decide +kernel))
def afa{i:Int}(h:i.natAbs<=NN*NN):Bd i:=ai1 (aL h (by decide +kernel))
def agv{b:Int}(h1:a.natAbs<=m)(h2:b.natAbs<=n):(a*b).natAbs<=m*n:=by rw[VV];exact VU h1 h2
def uM{b:Int}(h:0<b):Int.fdiv a b=a/b:=Int.fdiv_eq_ediv_of_nonneg _ (XY h)
def G9:ST:=λts q=>∃r:Row,ts=[.lst (r.1.map T.int),.int r.2]/\0<r.2/\Bd r.2/\r.1.length<=1000/\q (.fz (rwT (jg r)))
def aan(T:Tx D):gT 2 Ak pZ G9:=ya T.acU λF=>by
 refine F.okT abl (λ_ _=>bG (bQ 2 wo)
  (bG (cY (bZ wp) (bU (n:=99) 3)
  (bI (bQ 2 (bJ (W9 T) (bA wn (bA wr bC))))))
  (bI (bR (dY (bA (cD (bH Fi) Vq ["tops","bottom","common","?top"] ["top"] (bZ wp) (c7 (i:=0)) b_ (bO oZ wp wn)) (bA (bO oZ wo wr) bC))))))) ?_
 rintro _ R ⟨⟨tops,b⟩,rfl,hb,bb,tl,q⟩;have hb:0<b:=hb;have bb:Bd b:=bb;refine dW L2.T.int tops (λas o=>∃x,o=[.fz (.lst (tops.map L2.T.int)),.fz (.int b),.fz (.int (gcL as b)),x]) ⟨_,rfl⟩ ?_ ?_
 .rintro as a bs _ e ⟨x,rfl⟩;refine⟨_,_,rfl,.fz (.int a),?_⟩;rw[show gcL (as++[a]) b=((Int.gcd a (gcL as b):Nat):Int)from by unfold gcL;rw[List.foldl_append];rfl]
  rfl
 .rintro _ ⟨x,rfl⟩;have g0:=iw (ts:=tops) hb;have g1:Bd (gcL tops b):=NZ (by have:=uJ (ts:=tops) hb;omega) bb;refine⟨by rw[ak];exact aL tl wx,comp_map L2.T.int (λt=>.int (t/gcL tops b)) tops (λt ht N M hN=>⟨⟨by exact WS g0,g1⟩,?_⟩) ⟨⟨by exact WS g0,g1⟩,?_⟩⟩
  .rw[uM g0];exact hN
  .rw[uM g0];have:(jg (tops,b)).1.map L2.T.int=tops.map λt=>.int (t/gcL tops b):=WU;rwa[<- this]
structure Fn(c:Rat):Prop where
 n:c.num.natAbs<=NN
 d:c.den<=NN
abbrev pr(c:Rat):Int×Int:=(c.num,c.den)
def Dy:ST:=λts q=>∃(r:Row)(c:Rat),ts=[rwT r,frR c]/\Big NN r/\r.1.length<=1000/\Fn c/\q (.fz (rwT (jg (iY r (pr c)))))
def R0(T:Tx D):gT 3 vH mq Dy:=ya T.Uy λF=>by
 refine F.okT Tp (λ_ _=>bI (bR (bJ (aan T) (bA (cD (bH sJ) xX xX ["top"] (bZ (bK wp bF)) (c7 (i:=0)) b_ (bO cI wp (bK wr bF))) (bA (bO cI (bK wp bF) (bK wo bF)) bC))))) ?_;rintro _ R ⟨r,c,rfl,hr,rl,hc,q⟩;have:=c.den_pos;have cd:((c.den:Nat):Int).natAbs<=NN:=hc.d;refine⟨by rw[ak];exact aL rl wx,comp_map L2.T.int (λt=>.int (t*c.num)) r.1 (λt ht N M hN=>⟨⟨bdN (hr.top t ht),bdN hc.n⟩,hN⟩) ⟨⟨bdN hr.bot,bdN cd⟩,iY r (pr c),?_,XZ hr.pos (show(0:Int)<(c.den:Nat)by lia),afa (agv hr.bot cd),by show(r.1.map _).length<=1000;rw[ak];exact rl,q⟩⟩;show _=[L2.T.lst ((r.1.map λt=>t*c.num).map L2.T.int),.int (r.2*c.den)];rw[WU]
 rfl
def HS:ST:=λts q=>∃(r o:Row)(c:Rat),ts=[rwT r,rwT o,frR c]/\Big NN r/\Big NN o/\r.1.length<=1000/\o.1.length=r.1.length/\Fn c/\q (.fz (rwT (jg (oM r o (pr c)))))
def Vb(T:Tx D):gT 3 zU oR HS:=ya T.W4 λF=>by
 refine F.okT HN (λ_ _=>bG (bQ 3 (bO cI (bK wo bF) (bK wr bF)))
  (bG (bQ 4 (bJ (W9 T) (bA (bK wp bF) (bA wn bC))))
  (bG (bQ 5 (bO oZ wn we))
  (bG (bQ 6 (bO cI (bO oZ (bK wp bF) we) (bK wr bF)))
  (bG (i_ (bH u9) Cj Cj ["one","another"] (BZ T.HB (bA (bK wp bF) (bA (bK wo bF) bC))) (dB (n:=2) (bM (c7 (i:=0)) (bM (c7 (i:=1)) cL))) b_ (bO dh (bO cI wp (qv 7)) (bO cI wo (qv 8))) (gB (i:=7) HN.nd rfl (Or.inl rfl)))
  (bI (bR (bJ (aan T) (bA (qv 7) (bA (bO cI (bK wp bF) wa) bC)))))))))) ?_
 rintro _ R ⟨r,o,c,rfl,hr,ho,rl,ol,hc,q⟩;have:=c.den_pos;have cd:((c.den:Nat):Int).natAbs<=NN:=hc.d;have hB:0<o.2*(c.den:Int):=XZ ho.pos wv;have bB:=agv ho.bot cd;have g0:=nT (a:=r.2) (WS hB);have gr:((Int.gcd r.2 (o.2*(c.den:Int)):Nat):Int)≠0:=by exact WS g0
 have gl:Int.gcd r.2 (o.2*(c.den:Int))<=r.2.natAbs:=UZ (by have:=hr.pos;omega) (Int.gcd_dvd_natAbs_left ..);have gb:Bd ((Int.gcd r.2 (o.2*(c.den:Int)):Nat):Int):=bdN (by have:=hr.bot;lia);have d2:(o.2*(c.den:Int)/((Int.gcd r.2 (o.2*(c.den:Int)):Nat):Int)).natAbs<=NN*NN:=aL (Int.natAbs_ediv_le_natAbs _ _) bB;have d1:(r.2/((Int.gcd r.2 (o.2*(c.den:Int)):Nat):Int)).natAbs<=NN:=aL (Int.natAbs_ediv_le_natAbs _ _) hr.bot;refine⟨⟨bdN ho.bot,bdN cd⟩,_,_,rfl,⟨gr,gb⟩,⟨gr,gb⟩,⟨by rw[uM g0];exact bdN d1,bdN hc.n⟩,?_⟩;rw[uM g0,uM g0];refine⟨by unfold B_;rw[ak,WH,ak,ak,ol,Up];exact aL rl wx,?_⟩;rw[zip_map];refine comp_map (λp=>.tup [.int p.1,.int p.2]) (λp=>.int (p.1*(o.2*(c.den:Int)/((Int.gcd r.2 (o.2*(c.den:Int)):Nat):Int))+p.2*(r.2/((Int.gcd r.2 (o.2*(c.den:Int)):Nat):Int)*c.num))) (r.1.zip o.1) (λp hp N M hN=>⟨rfl,⟨bdN (hr.top _ (UV hp).1),afa d2⟩,⟨bdN (ho.top _ (UV hp).2),afa (agv d1 hc.n)⟩,hN⟩) ⟨⟨bdN hr.bot,afa d2⟩,oM r o (pr c),?_,?_,ai1 ?_,?_,q⟩
 .show _=[L2.T.lst ((List.zipWith _ r.1 o.1).map L2.T.int),_];rw[List.map_zipWith,List.zip,List.map_zipWith]
  rfl
 .exact XZ hr.pos (Zzv hB (XY g0) (JJ ..))
 .rw[Nat.mul_assoc];exact agv hr.bot d2
 .show(List.zipWith _ r.1 o.1).length<=1000;rwa[JY,ol,Up]
open Rw (vr jg iY oM gcL iw iy uJ mU Big rG jZ n8 kZ nY gD)
inductive Stp where
 |swap (i j:Nat)|times (i:Nat) (c:Rat)|add (i j:Nat) (c:Rat)
def stT:Stp->T
 |.swap i j=>.tup [.str "swap",.int i,.int j]
 |.times i c=>.tup [.str "times",.int i,frR c]
 |.add i j c=>.tup [.str "add",.int i,.int j,frR c]
def rAt(rs:xj)(i:Nat):Row:=rs.getD i ([],1)
noncomputable def zM(rs:xj):Stp->xj
 |.swap i j=>(rs.set i (rAt rs j)).set j (rAt rs i)
 |.times i c=>rs.set i (jg (iY (rAt rs i) (pr c)))
 |.add i j c=>rs.set i (jg (oM (rAt rs i) (rAt rs j) (pr c)))
def amr(n:Nat):Stp->Prop
 |.swap i j=>i<n/\j<n
 |.times i c=>i<n/\Fn c
 |.add i j c=>i<n/\j<n/\Fn c
def Aj{rs:xj}(h:i<rs.length):rs[i]?=some (rAt rs i):=by
 unfold rAt;rw[au,aj h];rfl
def fK{rs:xj}(h:i<rs.length):rAt rs i∈rs:=aC (Aj h)
def vY(h:i<n):ixN n ((i:Nat):Int)=some i:=by
 unfold ixN;rw[ZY (X9 _),ZY wv];rfl
def wM{rs:xj}(h:i<rs.length):ixT (rs.map rwT) ((i:Nat):Int)=some (rwT (rAt rs i)):=cZ (Aj h)
structure Rws(rs:xj)(wd:Nat):Prop where
 big:∀r∈rs,Big NN r
 wds:∀r∈rs,r.1.length=wd
 few:rs.length<=100
 wde:wd<=1000
def Ew:SO:=λar ts R=>∃(rs:xj)(st:Stp)(wd:Nat),ar=[rs.map rwT]/\ts=[stT st]/\Rws rs wd/\amr rs.length st/\R [(zM rs st).map rwT]
def R9(T:Tx D):OkF P w K mg base 4 vh mJ (spO K Ew):=ya T.VG λF=>by
 refine F.okO Sd (λar ts R ⟨rs,st,wd,e1,e2,_⟩=>by rw[e1,e2];rfl) wx λag A outer s H E hr nd=>?_;refine⟨_,(bG (bQ 2 (wV 0 (bK wo bF)))
  (bI (cA (bW (go_eq hr.units) (bK wo bF) vU)
  (bG (uo 0 (wV 0 (bK wo bF)) (bK wo bF))
  (bI (uo 0 wr (bK wo bF))))
  (bI (cA (bW (go_eq hr.units) (bK wo bF) vU)
  (bI (uo 0 (bJ (R0 T) (bA wr (bA (bK wo bF) bC))) (bK wo bF)))
  (bI (uo 0 (bJ (Vb T) (bA wr (bA (wV 0 (bK wo bF)) (bA (bK wo bF) bC)))) (bK wo bF)))))))),?_⟩
 rintro as ar ts R tl ⟨rs,st,wd,rfl,rfl,h,hs,q⟩;obtain⟨a,rfl⟩ : ∃a,as=[a]:=by
  match as,tl with
  |[a],_=>exact⟨a,rfl⟩
 have fin:∀(L:List L2.T)(x y:OT),R [L]->∃bg,(∀j,slot [.la a L,x,y] j=slot (List.zipWith OT.la [a] bg) j\/[a].length<=j)/\bg.length=[a].length/\R bg:=λL x y q=>⟨[L],λj=>by
  cases j with
  |zero=>exact .inl rfl
  |succ j=>exact .inr wf,rfl,q⟩
 have lm:(rs.map rwT).length=rs.length:=ak _
 match st,hs,q with
 |.swap i j,hs,q =>
  refine⟨_,wM hs.1,_,wM hs.2,i,vY (lm ▸ hs.1),j,vY (by rw[VZ,lm];exact hs.2),fin _ _ _ ?_⟩;rw[zM,Th,Th]at q;exact q
 |.times i c,hs,q =>
  have m:=fK hs.1;refine⟨_,wM hs.1,rAt rs i,c,rfl,h.big _ m,by rw[h.wds _ m];exact h.wde,hs.2,i,vY (lm ▸ hs.1),fin _ _ _ ?_⟩;rw[zM,Th]at q;exact q
 |.add i j c,hs,q =>
  have m:=fK hs.1;have n:=fK hs.2.1;refine⟨_,wM hs.1,_,wM hs.2.1,rAt rs i,rAt rs j,c,rfl,h.big _ m,h.big _ n,by rw[h.wds _ m];exact h.wde,by rw[h.wds _ m,h.wds _ n],hs.2.2,i,vY (lm ▸ hs.1),fin _ _ _ ?_⟩;rw[zM,Th]at q;exact q
open Rw (vr jg iY oM gcL iw iy uJ mU Big rG jZ n8 kZ nY gD)
def vP:ST:=λts q=>∃(r:Row)(k:Nat),ts=[rwT r,.int k]/\k<r.1.length/\Big NN r/\q (.fz (frR (vr r k)))
def R3(T:Tx D):gT 3 pX jL vP:=ya T.VD λF=>by
 refine F.okT Sv (λ_ _=>bI (bR (bJ (ac7 T) (bA (bK (bK wp bF) wo) (bA (bK wp bF) bC))))) ?_;rintro _ R ⟨r,k,rfl,hk,hr,q⟩;have h0:=hr.pos;refine⟨_,cZ (aj hk),_,_,rfl,by exact WS h0,bdN hr.bot,λx y l=>?_⟩;rw[jG l (WS h0),TR];unfold vr at q;rw[au,aj hk]at q;exact q
def xq:ST:=λts q=>∃(rs:xj)(wd:Nat),ts=[.lst (rs.map rwT)]/\Rws rs wd/\q (.l1 (rs.map λr=>.lst ((List.range wd).map λk=>frR (vr r k))))
def H_(T:Tx D):gT 3 o9 iQ xq:=ya T.Lw λF=>by
 refine F.okT Il (λ_ _=>bI (bR (aew (bH jy) jf jf "row" (bZ wp) ag1 b_ (Z1 (bH jy) ("row"::jf) ("row"::jf) ["top"] (bZ (bK wp bF)) (c7 (i:=0)) b_ (bJ (ac7 T) (bA wp (bA (bK wo bF) bC))))))) ?_;rintro _ R ⟨rs,wd,rfl,h,q⟩;refine⟨by rw[ak];exact aL h.few wx,comp_map rwT (λr=>.lst ((List.range wd).map λk=>frR (vr r k))) rs (λr hr N M hN=>⟨by rw[ak,h.wds r hr];exact aL h.wde wx,?_⟩) q⟩;have hb:=h.big r hr;have h0:=hb.pos;refine comp_map L2.T.int (λt=>frR ((t:Rat)/(r.2:Rat))) r.1 (λt ht N M hN=>⟨_,_,rfl,by exact WS h0,bdN hb.bot,λx y l=>by rwa[jG l (WS h0),TR]⟩) ?_;have e:(r.1.map λt:Int=>frR ((t:Rat)/(r.2:Rat)))=(List.range wd).map λk=>frR (vr r k):=by
  refine UQ (by rw[ak,ak,WP,h.wds r hr]) λn h1 h2=>?_;rw[ak]at h1;rw[VW,VW,Tu];unfold vr;rw[au,aj h1]
  rfl
 rwa[e]
def acn{lo:Nat}{t:T}(e:(rng (lo:Nat) n)[i]?=some t):i<n/\t=.int ((lo+i:Nat):Int):=by
 unfold rng at e;rw[aq]at e;by_cases hi:i<n
 .rw[VX hi]at e;cases e;exact⟨hi,rfl⟩
 .rw[aM (by simpa using hi)]at e;cases e
def aeh{r:Row}(h:0<r.2)(hk:k<r.1.length):vr r k=0↔r.1[k]=0:=by
 have e:vr r k=(r.1[k] : Rat)/(r.2:Rat):=by unfold vr;rw[au,aj hk];rfl
 have n:(r.2:Rat)≠0:=λz=>by have:=Rat.intCast_eq_zero_iff.mp z;lia
 rw[e];constructor
 .intro z;have:(r.1[k] : Rat)=0:=by grind
  exact Rat.intCast_eq_zero_iff.mp this
 .intro z;rw[z];grind
def Br:ST:=λts R=>∃(rs:xj)(wd p k:Nat),ts=[.lst (rs.map rwT),.int p,.int k]/\Rws rs wd/\p<=rs.length/\k<wd/\(∀q,p<=q->q<rs.length->vr (rAt rs q) k≠0->R (.fz (.int q)))/\((∀i,p<=i->i<rs.length->vr (rAt rs i) k=0)->R (.fz .non))
def MP(T:Tx D):gT 1 uG jY Br:=ya T.QJ λF=>by
 refine F.okT Mj (λhr _=>bG (cY (Oz T.fu (bA wo (bA (bT cQ T.dU WG (bA wp bC)) bC))) (bU (n:=99) 3)
  (bI (cA (bW (lG hr.units) (bK (bK (bK wp wn) bF) wr) bF)
  (bI (bR wn))
  bV)))
  (bI (bR eE))) ?_
 rintro _ R ⟨rs,wd,p,k,rfl,h,hp,hk,q,q0⟩;have at_:∀i,i<rs.length->k<(rAt rs i).1.length:=λi hi=>by rwa[h.wds _ (fK hi)]
 have few:=h.few;have lm:(rs.map rwT).length=rs.length:=ak _;refine⟨⟨by lia,by lia,by lia,by lia⟩,Dt (λi o=>∃x,o=[.fz (.lst (rs.map rwT)),.fz (.int p),.fz (.int k),x]/\∀j,p<=j->j<p+i->vr (rAt rs j) k=0) _ 0 ⟨_,rfl,λj _ _=>by lia⟩ (λi t o e z=>?_) λo z=>?_⟩
 .obtain⟨hi,rfl⟩:=acn e;rw[lm]at hi;have fF:p+i<rs.length:=by omega
  obtain⟨x,rfl,hz⟩:=z;have v0:=aeh (h.big _ (fK fF)).pos (at_ _ fF);refine⟨_,wM fF,_,cZ (aj (at_ _ fF)),?_⟩;by_cases c:(rAt rs (p+i)).1[k]'(at_ _ fF)=0
  .refine swF (by show xr true (decide (_=_))=false;rw[Zs c];rfl) ⟨_,rfl,λj hj hl=>?_⟩;by_cases ej:j=p+i
   .rw[ej];exact v0.mpr c
   .exact hz j hj wv
  .exact swT (by show xr true (decide (_=_))=true;rw[Zp c];rfl) (q _ (X1 _ _) fF λz=>c (v0.mp z))
 .obtain⟨x,rfl,hz⟩:=z;refine q0 λj hj hl=>hz j hj ?_;unfold rng;rw[ak,WP,lm];lia
def Jx:SO:=λar ts R=>∃(rs:xj)(ss:zh)(st:Stp)(wd:Nat),ar=[rs.map rwT,ss]/\ts=[stT st]/\Rws rs wd/\amr rs.length st/\ss.length<sizeLine/\R [(zM rs st).map rwT,ss++[stT st]]
def acs(T:Tx D):OkF P w K mg base 5 Dz uP (spO K Jx):=ya T.ae1 λF=>by
 refine F.okO ad0 (λar ts R ⟨rs,ss,st,wd,e1,e2,_⟩=>by rw[e1,e2];rfl) wx λag A outer s H E hr nd=>?_;refine⟨_,(bG (ah5 0 (R9 T) (bA wr bC))
  (bI (uh 1 wr))),?_⟩
 rintro as ar ts R tl ⟨rs,ss,st,wd,rfl,rfl,h,hs,hl,q⟩;obtain⟨a,b,rfl⟩ : ∃a b,as=[a,b]:=by
  match as,tl with
  |[a,b],_=>exact⟨a,b,rfl⟩
 refine⟨rs,st,wd,rfl,rfl,h,hs,hl,[(zM rs st).map rwT,ss++[stT st]],λj=>?_,rfl,q⟩
 match j with
 |0=>exact .inl rfl
 |1=>exact .inl rfl
 |j+2=>exact .inr wf
open Rw (vr jg iY oM gcL iw iy uJ mU Big rG jZ n8 kZ nY gD)
def Je{rs:xj}{r:Row}(h:i<rs.length)(j:Nat):rAt (rs.set i r) j=if j=i then r else rAt rs j:=by
 unfold rAt;rw[au,au,List.getElem?_set];by_cases e:i=j
 .subst e;rw[ZY rfl,ZY rfl,ZY h];rfl
 .rw[ZZ e,ZZ (Ne.symm e)]
def Fn.of{b:Int}(hb:b≠0)(h1:a.natAbs<=NN)(h2:b.natAbs<=NN):Fn (Rat.divInt a b):=by
 have hg:=Zzw a hb;have low:∃x y,Low a b x y:=by
  rcases Int.lt_or_lt_of_ne hb with z|z
  .exact⟨_,_,xQ (c:=-((Int.gcd a b:Nat):Int)) hb wv wv (Int.mul_pos_of_neg_of_neg wv z)⟩
  .exact⟨_,_,xQ (c:=((Int.gcd a b:Nat):Int)) hb wv wv (XZ wv z)⟩
 obtain⟨x,y,l⟩:=low;have e:=jG l hb;injection e with e;injection e with e1 e;injection e with e2 e;injection e1 with e1;injection e2 with e2;exact⟨by rw[<- e1];exact aL l.lx h1,by have:=l.ly;lia⟩
def adH{r:Row}(hk:k<r.1.length):vr r k=Rat.divInt r.1[k] r.2:=by
 unfold vr;rw[au,aj hk,TR];rfl
def Fn.vr{r:Row}{k:Nat}(h:Big NN r)(hk:k<r.1.length):Fn (vr r k):=by
 have:=h.pos;rw[adH hk];exact Fn.of (WS this) (h.top _ (aU _)) h.bot
def Fn.inv(h:Fn c)(h0:c≠0):Fn (1/c):=by
 have nb:c.num≠0:=λz=>h0 (by rw[<- rd c,z];exact QR _);rw[Rat.div_def,Rat.one_mul,Rat.inv_def];exact Fn.of nb h.d h.n
def Fn.neg(h:Fn c):Fn (0-c):=by
 rw[Rat.sub_eq_add_neg,JU];exact⟨by show(-c.num).natAbs<=NN;rw[Int.natAbs_neg];exact h.n,h.d⟩
def Fn.bq(h:Fn c):Bq c:=⟨bdN h.n,bdN h.d⟩
def Rws.fn{rs:xj}(h:Rws rs wd)(hi:i<rs.length)(hk:k<wd):Fn (Rw.vr (rAt rs i) k):=Fn.vr (h.big _ (fK hi)) (by rwa[h.wds _ (fK hi)])
def Rws.of{rs ff:xj}(h:Rws rs wd)(hl:ff.length=rs.length)(hr:∀i,i<rs.length->Big NN (rAt ff i)/\(rAt ff i).1.length=wd):Rws ff wd:=by
 have:∀r∈ff,Big NN r/\r.1.length=wd:=λr hm=>by
  obtain⟨i,hi,e0⟩:=List.getElem_of_mem hm;have e:=Aj hi;rw[aj hi,e0]at e;injection e with e;rw[e];exact hr i (hl ▸ hi)
 exact⟨λr hm=>(this r hm).1,λr hm=>(this r hm).2,hl ▸ h.few,h.wde⟩
def Ka(rs:xj)(st:Stp):(zM rs st).length=rs.length:=by cases st<;>simp[zM]
def bgP(r:Row)(k:Nat):Row:=if vr r k=1 then r else jg (iY r (pr (1/vr r k)))
def bgA(rs:xj)(p q k i:Nat):Row:=if i=p then bgP (rAt rs q) k else rAt rs (Rw.sw p q i)
def swR(rs:xj)(p q:Nat):xj:=if q=p then rs else zM rs (.swap p q)
def af7(rs:xj)(p q:Nat):(swR rs p q).length=rs.length:=by
 unfold swR;split
 .rfl
 .exact Ka _ _
def aiP{rs:xj}{p:Nat}(hp:p<rs.length)(hq:q<rs.length)(i:Nat):rAt (swR rs p q) i=rAt rs (Rw.sw p q i):=by
 unfold swR Rw.sw;by_cases e:q=p
 .subst e;rw[ZY rfl];by_cases c:i=q
  .rw[ZY c,c]
  .rw[ZZ c,ZZ c]
 .rw[ZZ e];show rAt ((rs.set p (rAt rs q)).set q (rAt rs p)) i=_;rw[Je (by rwa[VZ]),Je hp];by_cases c:i=q
  .subst c;rw[ZY rfl,ZZ e,ZY rfl]
  .rw[ZZ c];by_cases d:i=p
   .rw[ZY d,ZY d]
   .rw[ZZ d,ZZ d,ZZ c]
def Fo:SO:=λar ts R=>∃(rs:xj)(ss:zh)(wd p q k:Nat),ar=[rs.map rwT,ss]/\ts=[.int p,.int q,.int k]/\Rws rs wd/\p<rs.length/\q<rs.length/\k<wd/\vr (rAt rs q) k≠0/\ss.length+2<sizeLine /\
 ∀ff i8,ff.length=rs.length->(∀i,i<rs.length->rAt ff i=bgA rs p q k i)->i8.length<=ss.length+2->R [ff.map rwT,i8]
def aiT{x y:RS}{E:DT}(J:ze->Prop)(k:∀o',J o'->y E o')(h:(∀o',J o'->y E o')->jF x y E o):jF x y E o:=h k
def eqR(v u:Rat):(decide (v.num=u.num)&&decide (((v.den:Nat):Int)=u.den))=decide (v=u):=by
 rw[<- Bool.decide_and];refine decide_eq_decide.mpr ⟨λ⟨a,b⟩=>Rat.ext a wv,λz=>by rw[z];exact⟨rfl,rfl⟩⟩
def fin2{R:wq->Prop}{a b:Addr}(L M:zh)(q:R [L,M]):∃bg,(∀j,slot (.la a L::.la b M::o) j=slot (List.zipWith OT.la [a,b] bg) j\/[a,b].length<=j)/\bg.length=[a,b].length/\R bg:=⟨[L,M],λj=>by
 match j with
 |0=>exact .inl rfl
 |1=>exact .inl rfl
 |j+2=>exact .inr wf,rfl,q⟩
def ab7{β:Type}{as:List α}{x y:β}(tl : [x,y].length=as.length):∃a b,as=[a,b]:=by
 match as,tl with
 |[a,b],_=>exact⟨a,b,rfl⟩
def Q7(T:Tx D):OkF P w K mg base 6 vI lV (spO K Fo):=ya T.V0 λF=>by
 refine F.okO PN (λar ts R ⟨rs,ss,wd,p,q,k,e1,e2,_⟩=>by rw[e1,e2];rfl) wx λag A outer s H E hr nd=>?_;refine⟨_,(bG (cA (bW (lG hr.units) wn wr)
  (bI (JQ 0 1 (acs T) hr.md (by rfl) (bA (dY (bA vU (bA wr (bA wn bC)))) bC)))
  bV)
  (bG (bQ 5 (bJ (R3 T) (bA (wV 0 wr) (bA we bC))))
  (bI (cA (bW (lG hr.units) wa (lE T.BL T.t_))
  (bI (JQ 0 1 (acs T) hr.md (by rfl) (bA (dY (bA vU (bA wr (bA (bJ (aft T) (bA (lE T.BL T.t_) (bA wa bC))) bC)))) bC)))
  bV)))),?_⟩
 rintro as ar ts R tl ⟨rs,ss,wd,p,q,k,rfl,rfl,h,hp,hq,hk,h0,hl,ok⟩;obtain⟨a,b,rfl⟩:=ab7 tl;have sl:=af7 rs p q;have sa:=aiP hp hq;have ib:Rw.sw p q p=q:=ZY rfl;have swl:∀i,i<rs.length->Rw.sw p q i<rs.length:=λi hi=>by
  unfold Rw.sw;split
  .exact hq
  .split<;>omega
 have hS:Rws (swR rs p q) wd:=h.of sl λi hi=>by rw[sa];exact⟨h.big _ (fK (swl i hi)),h.wds _ (fK (swl i hi))⟩
 refine aiT (λo=>∃eM,o=[.la a ((swR rs p q).map rwT),.la b eM,.fz (.int p),.fz (.int q),.fz (.int k),.und]/\eM.length<=ss.length+1) ?_ λgo=>?_
 .rintro _ ⟨eM,rfl,l1⟩;have b5:p<(swR rs p q).length:=by lia
  have hk':k<(rAt (swR rs p q) p).1.length:=by rwa[hS.wds _ (fK b5)]
  have fn:=hS.fn b5 hk;refine⟨_,wM b5,_,k,rfl,hk',hS.big _ (fK b5),?_⟩;have v:vr (rAt (swR rs p q) p) k=vr (rAt rs q) k:=by rw[sa,ib]
  rw[v];rw[v]at fn;by_cases e:vr (rAt rs q) k=1
  .refine swF (by show xr true (_&&_)=false;rw[show(decide ((vr (rAt rs q) k).num=1)&&decide (((vr (rAt rs q) k).den:Int)=1))=_ from eqR _ 1,Zs e];rfl) (fin2 _ _ (ok _ _ sl (λi hi=>?_) (aL l1 (Xs _))));rw[sa];unfold bgA bgP;split
   .rename_i c;rw[c,ib]
   .rfl
  .refine swT (by show xr true (_&&_)=true;rw[show(decide ((vr (rAt rs q) k).num=1)&&decide (((vr (rAt rs q) k).den:Int)=1))=_ from eqR _ 1,Zp e];rfl) ⟨1,_,rfl,h0,bq1,fn.bq,by show Bd (1*_);rw[TU];exact bdN fn.n,swR rs p q,eM,.times p (1/vr (rAt rs q) k),wd,rfl,rfl,hS,⟨b5,fn.inv h0⟩,by lia,fin2 _ _ (ok _ _ (by rwa[Ka]) (λi hi=>?_) (by rw[aA];show _+1<=_;exact Nat.succ_le_succ l1))⟩;show rAt ((swR rs p q).set p _) i=_;rw[Je b5,sa,sa,ib];unfold bgA bgP;split
   .rfl
   .rfl
 .by_cases e:q=p
  .refine swF (by show xr true (decide (_=_))=false;rw[Zs wv];rfl) (go [.la a (rs.map rwT),.la b ss,.fz (.int p),.fz (.int q),.fz (.int k),.und] ⟨ss,?_,by exact Xs _⟩);unfold swR;rw[ZY e]
  .refine swT (by show xr true (decide (_=_))=true;rw[Zp wv];rfl) ⟨rs,ss,.swap p q,wd,rfl,rfl,h,⟨hp,hq⟩,by lia,go [.la a ((zM rs (.swap p q)).map rwT),.la b (ss++[stT (.swap p q)]),.fz (.int p),.fz (.int q),.fz (.int k),.und] ⟨ss++[stT (.swap p q)],?_,by simp⟩⟩;unfold swR;rw[ZZ e]
open Rw (vr jg iY oM gcL iw iy uJ mU Big rG jZ n8 kZ nY gD)
def clA(rs:xj)(p k i:Nat):Row:=if i=p\/vr (rAt rs i) k=0 then rAt rs i else jg (oM (rAt rs i) (rAt rs p) (pr (0-vr (rAt rs i) k)))
def xK:SO:=λar ts R=>∃(rs:xj)(ss:zh)(wd p k:Nat),ar=[rs.map rwT,ss]/\ts=[.int p,.int k]/\Rws rs wd/\p<rs.length/\k<wd/\ss.length+rs.length<sizeLine/\(∀i,i<rs.length->Big NN (clA rs p k i)) /\
 ∀ff i8,ff.length=rs.length->(∀i,i<rs.length->rAt ff i=clA rs p k i)->i8.length<=ss.length+rs.length->R [ff.map rwT,i8]
def aeK{rs:xj}{p:Nat}(h:Rws rs wd)(hp:p<rs.length)(hi:i<rs.length):(clA rs p k i).1.length=wd:=by
 unfold clA;split
 .exact h.wds _ (fK hi)
 .rw[kZ];show(List.zipWith _ (rAt rs i).1 (rAt rs p).1).length=wd;rw[JY,h.wds _ (fK hi),h.wds _ (fK hp),Up]
def IW(T:Tx D):OkF P w K mg base 6 o8 iM (spO K xK):=ya T.K_ λF=>by
 refine F.okO HW (λar ts R ⟨rs,ss,wd,p,k,e1,e2,_⟩=>by rw[e1,e2];rfl) wx λag A outer s H E hr nd=>?_;refine⟨_,(bI (cY (dI T.fu (bA (Pj 0 (bT cQ T.dU WG (bA wp bC))) bC)) (bU (n:=99) 4)
  (bI (cA (QW.qt (Gi (bW (lG hr.units) we wr) (Ax (bW (lG hr.units) (bK (bK (wV 0 we) bF) wn) bF))))
  (bG (bQ 5 (bJ (abx T) (bA (lE T.j_ T.iR) (bA (bJ (R3 T) (bA (wV 0 we) (bA wn bC))) bC))))
  (bI (JQ 0 1 (acs T) hr.md (by rfl) (bA (dY (bA vU (bA we (bA wr (bA wa bC))))) bC))))
  bV)))),?_⟩
 rintro as ar ts R tl ⟨rs,ss,wd,p,k,rfl,rfl,h,hp,hk,hl,hb,ok⟩;obtain⟨a,b,rfl⟩:=ab7 tl;have lm:(rs.map rwT).length=rs.length:=ak _;have few:=h.few;refine⟨trivial,⟨by lia,by lia⟩,lX (λn o=>∃dq eM x y,o=[.la a (dq.map rwT),.la b eM,.fz (.int p),.fz (.int k),x,y]/\dq.length=rs.length/\(∀i,i<rs.length->rAt dq i=if i<n then clA rs p k i else rAt rs i)/\eM.length<=ss.length+n) ⟨rs,ss,_,_,rfl,rfl,λi _=>by rw[ZZ (WZ _)],aG _⟩ ?_ ?_⟩
 .rintro n _ hn ⟨dq,eM,x,y,rfl,l1,h7,s1⟩;have hn:n<rs.length:=by rw[lm]at hn;lia
  have rn:rAt dq n=rAt rs n:=by rw[h7 n hn,ZZ (X2 _)]
  have rp:rAt dq p=rAt rs p:=by
   rw[h7 p hp];split
   .unfold clA;rw[ZY (.inl rfl)]
   .rfl
  have h1:Rws dq wd:=h.of l1 λi hi=>by
   rw[h7 i hi];split
   .exact⟨hb i hi,aeK h hp hi⟩
   .exact⟨h.big _ (fK hi),h.wds _ (fK hi)⟩
  have stay:clA rs p k n=rAt rs n->∀i,i<rs.length->rAt dq i=if i<n+1 then clA rs p k i else rAt rs i:=λe i hi=>by
   rw[h7 i hi];by_cases c:i=n
   .subst c;rw[ZZ (X2 _),ZY (X0 _),e]
   .by_cases d:i<n
    .rw[ZY d,ZY (WV _ d)]
    .rw[ZZ d,ZZ wv]
  by_cases e:n=p
  .exact swF (by show xr true (decide (_=_))=false;rw[Zs wv];rfl) ⟨dq,eM,_,_,rfl,l1,stay (ZY (.inl e)),by lia⟩
  .have hJ:n<dq.length:=by lia
   have hk1:k<(rAt dq n).1.length:=by rwa[h1.wds _ (fK hJ)]
   have v0:=aeh (h1.big _ (fK hJ)).pos hk1;refine swT (by show xr true (decide (_=_))=true;rw[Zp wv];rfl) ⟨_,wM hJ,_,cZ (aj hk1),?_⟩;by_cases c:(rAt dq n).1[k]'hk1=0
   .exact swF (by show xr true (decide (_=_))=false;rw[Zs c];rfl) ⟨dq,eM,_,_,rfl,l1,stay (ZY (.inr (by rw[<- rn];exact v0.mpr c))),by lia⟩
   .have fn:=h1.fn hJ hk;refine swT (by show xr true (decide (_=_))=true;rw[Zp c];rfl) ⟨_,wM hJ,_,k,rfl,hk1,h1.big _ (fK hJ),0,_,rfl,bq0,fn.bq,by show Bd (1*_);rw[TU];exact bdN fn.d,dq,eM,.add n p (0-vr (rAt dq n) k),wd,rfl,rfl,h1,⟨hJ,by lia,fn.neg⟩,by lia,zM dq (.add n p (0-vr (rAt dq n) k)),eM++[stT (.add n p (0-vr (rAt dq n) k))],_,_,rfl,by rw[Ka];exact l1,λi hi=>?_,by rw[aA];show _+1<=_;lia⟩;show rAt (dq.set n _) i=_;rw[Je hJ,rn,rp];by_cases d:i=n
    .rw[ZY d,d,ZY (X0 _)];unfold clA;rw[ZZ λz=>z.elim e λz=>c (v0.mp (by rw[rn];exact z))]
    .rw[ZZ d,h7 i hi];by_cases d':i<n
     .rw[ZY d',ZY (WV _ d')]
     .rw[ZZ d',ZZ wv]
 .rintro _ ⟨dq,eM,x,y,rfl,l1,h7,s1⟩;rw[lm]at h7 s1;exact fin2 _ _ (ok dq eM l1 (λi hi=>by rw[h7 i hi,ZY wv]) wv)
open Rw (vr jg iY oM gcL iw iy uJ mU Big rG jZ n8 kZ nY gD sg jw iZ cj jK jW)
def abH(c:Rat):(((pr c).1:Int):Rat)/(((pr c).2:Int):Rat)=c:=by rw[<- TR];exact rd c
def RQ(c:Rat):0<(pr c).2:=by have:=c.den_pos;show(0:Int)<(c.den:Nat);lia
def ZS{r:Row}(h:0<r.2):0<(jg r).2:=Zzv h (XY (iw h)) iy.1
def ah3{r:Row}(h:0<r.2)(h0:vr r k≠0):0<(bgP r k).2/\(bgP r k).1.length=r.1.length/\(gcL (bgP r k).1 (bgP r k).2=1\/bgP r k=r)/\∀j,vr (bgP r k) j*vr r k=vr r j:=by
 unfold bgP;by_cases e:vr r k=1
 .rw[ZY e];exact⟨h,rfl,.inr rfl,λj=>by rw[e,Rat.mul_one]⟩
 .rw[ZZ e];have tp:0<(iY r (pr (1/vr r k))).2:=XZ h (RQ _);refine⟨ZS tp,by rw[kZ];unfold iY;rw[ak],.inl (mU tp),λj=>?_⟩;rw[rG tp,jZ h (RQ _),abH]
  grind
def aja{rs:xj}{p:Nat}(hi:0<(rAt rs i).2)(hp:0<(rAt rs p).2)(hl:(rAt rs i).1.length=(rAt rs p).1.length):0<(clA rs p k i).2/\(gcL (clA rs p k i).1 (clA rs p k i).2=1\/clA rs p k i=rAt rs i)/\∀j,vr (clA rs p k i) j=if i=p then vr (rAt rs p) j else vr (rAt rs i) j-vr (rAt rs i) k*vr (rAt rs p) j:=by
 unfold clA;by_cases e:i=p
 .rw[ZY (.inl e)];exact⟨hi,.inr rfl,λj=>by rw[ZY e,e]⟩
 .by_cases z:vr (rAt rs i) k=0
  .rw[ZY (.inr z)];exact⟨hi,.inr rfl,λj=>by rw[ZZ e,z];grind⟩
  .rw[ZZ λy=>y.elim e z];have tp:0<(oM (rAt rs i) (rAt rs p) (pr (0-vr (rAt rs i) k))).2:=by
    have hB:=XZ hp (RQ (0-vr (rAt rs i) k));exact XZ hi (Zzv hB (XY (nT (WS hB))) (JJ _ _))
   refine⟨ZS tp,.inl (mU tp),λj=>?_⟩;rw[rG tp,n8 hi hp (RQ _) hl,abH,ZZ e]
   grind
structure FnB(M:Nat)(c:Rat):Prop where
 n:c.num.natAbs<=M
 d:c.den<=M
def FnB.vr{M:Nat}{r:Row}{k:Nat}(h:Big M r)(hk:k<r.1.length):FnB M (Rw.vr r k):=by
 have hb:=h.pos;have hg:=Zzw r.1[k] (WS hb);have l:=xQ (t:=r.1[k]) (c:=((Int.gcd r.1[k] r.2:Nat):Int)) (WS hb) wv wv (XZ wv hb);have e:=jG l (WS hb);rw[adH hk];injection e with e;injection e with e1 e;injection e with e2 e;injection e1 with e1;injection e2 with e2;exact⟨by rw[<- e1];exact aL l.lx (h.top _ (aU _)),by have:=l.ly;have:=h.bot;omega⟩
structure B0(rs0:xj)(wd N:Nat):Prop where
 big:∀i,i<rs0.length->Big N (rAt rs0 i)/\(rAt rs0 i).1.length=wd
 one:1<=N
 mb:(2*rs0.length*N)^rs0.length<=NN
 nn:N<=NN
abbrev aT(rs0:xj)(i j:Nat):Int:=(rAt rs0 i).1.getD j 0
abbrev aB(rs0:xj)(i:Nat):Int:=(rAt rs0 i).2
structure Gs(rs0:xj)(wd N c:Nat)(rs:xj):Prop where
 len:rs.length=rs0.length
 row:∀i,i<rs0.length->0<(rAt rs i).2/\(rAt rs i).1.length=wd/\(gcL (rAt rs i).1 (rAt rs i).2=1\/Big N (rAt rs i))
 st:∃pv s,gD (aT rs0) (aB rs0) rs0.length wd (λi j=>vr (rAt rs i) j) c pv s
 unit:∀i l,i<rs0.length->l<c->vr (rAt rs i) l=if i=l then 1 else 0
 ker:∀x:Nat->Rat,(∀i,i<rs0.length->sg (λj=>vr (rAt rs i) j*x j) wd=0)->∀i,i<rs0.length->sg (λj=>vr (rAt rs0 i) j*x j) wd=0
section
variable{rs0 rs:xj}{wd N c q:Nat}
def B0.zero(h:B0 rs0 wd N):Gs rs0 wd N 0 rs0:=⟨rfl,λi hi=>⟨(h.big i hi).1.pos,(h.big i hi).2,.inr (h.big i hi).1⟩,⟨λ_=>0,id,gD.zero λi hi=>(h.big i hi).1.pos⟩,λ_ _ _ z=>absurd z (WZ _),λ_ z=>z⟩
def apE{N:Nat}(hm:1<=m)(h1:1<=N):N<=(2*m*N)^m:=by
  have x:N<=2*m*N:=Zzu _ wv;have y:1<=2*m*N:=VU (show 1<=2*m by lia) h1
  calc N<=(2*m*N)^1:=by rwa[Nat.pow_one]
    _<=_:=XU y hm
def B0.sbigM(h:B0 rs0 wd N){R:Nat->Nat->Rat}{p:Nat}(st:∃pv s,gD (aT rs0) (aB rs0) rs0.length wd R p pv s)(hi:i<rs0.length){r:Row}(hr:0<r.2)(hw:r.1.length=wd)(g:gcL r.1 r.2=1\/Big N r)(e:∀j,j<wd->vr r j=R i j):Big ((2*rs0.length*N)^rs0.length) r:=by
 rcases g with g|g
 .obtain⟨pv,s,st⟩:=st;obtain⟨v,u,u0,ub,vb,ee⟩:=st.bound h.one (λi j hi hj=>by
   have b:=h.big i hi;show((rAt rs0 i).1.getD j 0).natAbs<=N;rw[au,aj (by rwa[b.2])];exact b.1.top _ (aU _)) (λi hi=>⟨(h.big i hi).1.pos,(h.big i hi).1.bot⟩) hi
  exact nY hr g hw u0 ub vb λj hj=>by rw[e j hj];exact ee j hj
 .exact g.le (apE wv h.one)
def B0.sbig(h:B0 rs0 wd N){R:Nat->Nat->Rat}{p:Nat}(st:∃pv s,gD (aT rs0) (aB rs0) rs0.length wd R p pv s)(hi:i<rs0.length){r:Row}(hr:0<r.2)(hw:r.1.length=wd)(g:gcL r.1 r.2=1\/Big N r)(e:∀j,j<wd->vr r j=R i j):Big NN r:=(h.sbigM st hi hr hw g e).le h.mb
def Gs.bigM(g:Gs rs0 wd N c rs)(h:B0 rs0 wd N)(hi:i<rs0.length):Big ((2*rs0.length*N)^rs0.length) (rAt rs i):=h.sbigM g.st hi (g.row i hi).1 (g.row i hi).2.1 (g.row i hi).2.2 λ_ _=>rfl
def Gs.big(g:Gs rs0 wd N c rs)(h:B0 rs0 wd N)(hi:i<rs0.length):Big NN (rAt rs i):=h.sbig g.st hi (g.row i hi).1 (g.row i hi).2.1 (g.row i hi).2.2 λ_ _=>rfl
def Zt{p q:Nat}(hp:p<m)(hq:q<m)(hi:i<m):Rw.sw p q i<m:=by
 unfold Rw.sw;split
 .exact hq
 .split<;>omega
def ahb(p q i:Nat):Rw.sw p q (Rw.sw p q i)=i:=by
 unfold Rw.sw;by_cases a:i=p
 .subst a;rw[ZY rfl];by_cases b:q=i
  .rw[ZY b,b]
  .rw[ZZ b,ZY rfl]
 .by_cases b:i=q
  .subst b;rw[ZZ a,ZY rfl,ZY rfl]
  .rw[ZZ a,ZZ b,ZZ a,ZZ b]
def Gs.next(g:Gs rs0 wd N c rs)(h:B0 rs0 wd N)(hc:c<rs0.length)(cw:c<wd)(hq:c<=q)(eJ:q<rs0.length)(h0:vr (rAt rs q) c≠0){rs2:xj}(e2:∀i,i<rs0.length->rAt rs2 i=bgA rs c q c i) :
  (∀i,i<rs0.length->Big NN (rAt rs2 i)/\(rAt rs2 i).1.length=wd)/\(∀i,i<rs0.length->Big NN (clA rs2 c c i))/\∀ic:xj,ic.length=rs0.length->(∀i,i<rs0.length->rAt ic i=clA rs2 c c i)->Gs rs0 wd N (c+1) ic:=by
 have ib:Rw.sw c q c=q:=ZY rfl;obtain⟨b1,b2,b3,b4⟩:=ah3 (g.row q eJ).1 h0;have ec:rAt rs2 c=bgP (rAt rs q) c:=by rw[e2 c hc];exact ZY rfl
 have ei:∀i,i<rs0.length->i≠c->rAt rs2 i=rAt rs (Rw.sw c q i):=λi hi ne=>by rw[e2 i hi];exact ZZ ne
 have cS:∀i,i<rs0.length->0<(rAt rs2 i).2/\(rAt rs2 i).1.length=wd/\(gcL (rAt rs2 i).1 (rAt rs2 i).2=1\/Big N (rAt rs2 i)):=λi hi=>by
  by_cases e:i=c
  .rw[e,ec];refine⟨b1,by rw[b2];exact(g.row q eJ).2.1,b3.elim .inl λz=>?_⟩;rw[z];exact(g.row q eJ).2.2
  .rw[ei i hi e];exact g.row _ (Zt hc eJ hi)
 have cl:=λi(hi:i<rs0.length)=>aja (rs:=rs2) (p:=c) (k:=c) (i:=i) (cS i hi).1 (cS c hc).1 (by rw[(cS i hi).2.1,(cS c hc).2.1]);have clw:∀i,i<rs0.length->(clA rs2 c c i).1.length=wd:=λi hi=>by
  unfold clA;split
  .exact(cS i hi).2.1
  .rw[kZ];show(List.zipWith _ (rAt rs2 i).1 (rAt rs2 c).1).length=wd;rw[JY,(cS i hi).2.1,(cS c hc).2.1,Up]
 have clg:∀i,i<rs0.length->gcL (clA rs2 c c i).1 (clA rs2 c c i).2=1\/Big N (clA rs2 c c i):=λi hi=>(cl i hi).2.1.elim .inl λz=>by rw[z];exact(cS i hi).2.2
 have Vc:∀j,vr (clA rs2 c c c) j*vr (rAt rs q) c=vr (rAt rs q) j:=λj=>by
  rw[(cl c hc).2.2 j,ZY rfl,ec];exact b4 j
 have Vi:∀i,i<rs0.length->i≠c->∀j,vr (clA rs2 c c i) j=vr (rAt rs (Rw.sw c q i)) j-vr (rAt rs (Rw.sw c q i)) c*vr (clA rs2 c c c) j:=λi hi ne j=>by
  rw[(cl i hi).2.2 j,(cl c hc).2.2 j,ZZ ne,ZY rfl,ei i hi ne]
 have eB:∃pv s,gD (aT rs0) (aB rs0) rs0.length wd (λi j=>vr (clA rs2 c c i) j) (c+1) pv s:=by
  obtain⟨pv,s,st⟩:=g.st;have s1:=st.swap hq eJ (R':=λi j=>vr (rAt rs (Rw.sw c q i)) j) λi j _ _=>rfl;exact⟨_,_,s1.pivot hc (λi hi=>(h.big i hi).1.pos) cw (by show vr (rAt rs (Rw.sw c q c)) c≠0;rwa[ib]) (R':=λi j=>vr (clA rs2 c c i) j) (λj _=>by show vr (clA rs2 c c c) j*vr (rAt rs (Rw.sw c q c)) c=vr (rAt rs (Rw.sw c q c)) j;rw[ib];exact Vc j) λi j hi ne _=>Vi i hi ne j⟩
 have oC:∀i,i<rs0.length->Big NN (clA rs2 c c i):=λi hi=>h.sbig eB hi (cl i hi).1 (clw i hi) (clg i hi) λ_ _=>rfl;refine⟨λi hi=>⟨?_,(cS i hi).2.1⟩,oC,λic l3 e3=>⟨l3,λi hi=>by rw[e3 i hi];exact⟨(cl i hi).1,clw i hi,clg i hi⟩,?_,λi l hi hl=>?_,λx hx=>g.ker x λi hi=>?_⟩⟩
 .by_cases e:i=c
  .rw[e];refine h.sbig eB hc (cS c hc).1 (cS c hc).2.1 (cS c hc).2.2 λj _=>?_;show _=vr (clA rs2 c c c) j;rw[(cl c hc).2.2 j,ZY rfl]
  .rw[ei i hi e];exact g.big h (Zt hc eJ hi)
 .obtain⟨pv,s,st⟩:=eB;exact⟨pv,s,st.congr λi j hi=>by rw[e3 i hi]⟩
 .rw[e3 i hi];have v0:l<c->vr (clA rs2 c c c) l=0:=λhl=>by
   have:=Vc l;rw[g.unit q l eJ hl,ZZ wv]at this
   grind
  have v1:vr (clA rs2 c c c) c=1:=by
   have:=Vc c
   grind
  by_cases e:i=c
  .subst e;by_cases z:l<i
   .rw[v0 z,ZZ (VQ z)]
   .rw[show l=i by lia,v1,ZY rfl]
  .rw[Vi i hi e l];by_cases z:l<c
   .rw[v0 z,g.unit _ l (Zt hc eJ hi) z];have:(Rw.sw c q i=l)=(i=l):=by
     unfold Rw.sw;rw[ZZ e];split
     .exact propext ⟨λ_=>by lia,λ_=>by lia⟩
     .rfl
    simp only[this]
    grind
   .rw[show l=c by lia,v1,ZZ e]
    grind
 .have nN:=hx c hc;rw[e3 c hc]at nN;by_cases e:i=q
  .rw[e,cj (g:=λj=>vr (rAt rs q) c*(vr (clA rs2 c c c) j*x j)) λj _=>by rw[<- Vc j];grind,iZ,nN]
   grind
  .have hs:=Zt hc eJ hi;have ne:Rw.sw c q i≠c:=λz=>by
    have:=ahb c q i;rw[z,ib]at this;exact e this.symm
   have hi0:=hx _ hs;rw[e3 _ hs]at hi0;rw[cj (g:=λj=>vr (clA rs2 c c (Rw.sw c q i)) j*x j+vr (rAt rs i) c*(vr (clA rs2 c c c) j*x j)) λj _=>by rw[Vi _ hs ne,ahb];grind,jw,iZ,nN,hi0]
   grind
def Gs.found(g:Gs rs0 wd N c rs)(hc:c<rs0.length)(cw:c<wd)(inj:∀x:Nat->Rat,(∀j,rs0.length<=j->x j=0)->(∀i,i<rs0.length->sg (λj=>vr (rAt rs0 i) j*x j) wd=0)->∀j,j<rs0.length->x j=0):¬∀i,c<=i->i<rs0.length->vr (rAt rs i) c=0:=λhz=>by
 have:=inj (λj=>if j<c then -(vr (rAt rs j) c)else if j=c then 1 else 0) (λj hj=>by rw[ZZ wv,ZZ wv]) (g.ker _ λi hi=>?_) c hc
 .rw[ZZ (X2 _),ZY rfl]at this;exact absurd this wx
 .rw[cj (g:=λj=>(if j=i then 1 else 0)*(if j<c then -(vr (rAt rs j) c)else 0)+(if j=c then 1 else 0)*vr (rAt rs i) c) λj hj=>?_,jw,jW (v:=λj=>if j<c then -(vr (rAt rs j) c)else 0),jW (v:=λ_=>vr (rAt rs i) c),ZY cw]
  .by_cases e:i<c
   .rw[ZY (Tk e cw),ZY e]
    grind
   .rw[hz i (VS e) hi];rw[ZZ e]
    grind
  .by_cases a:j<c
   .rw[ZY a,ZY a,g.unit i j hi a,ZZ (show j≠c by exact aQ a)];by_cases b:i=j
    .rw[ZY b,ZY b.symm];grind
    .rw[ZZ b,ZZ (Ne.symm b)];grind
   .rw[ZZ a,ZZ a];by_cases b:j=c
    .rw[ZY b,b];grind
    .rw[ZZ b];grind
def Gs.answer(g:Gs rs0 (rs0.length+1) N rs0.length rs)(hi:i<rs0.length):sg (λj=>vr (rAt rs0 i) j*vr (rAt rs j) rs0.length) rs0.length=vr (rAt rs0 i) rs0.length:=by
 have:=g.ker (λj=>if j<rs0.length then vr (rAt rs j) rs0.length else -1) (λi hi=>?_) i hi
 .show _=_;rw[show sg (λj=>vr (rAt rs0 i) j*(if j<rs0.length then vr (rAt rs j) rs0.length else -1)) (rs0.length+1)=sg (λj=>vr (rAt rs0 i) j*(if j<rs0.length then vr (rAt rs j) rs0.length else -1)) rs0.length+vr (rAt rs0 i) rs0.length*(if rs0.length<rs0.length then vr (rAt rs rs0.length) rs0.length else -1)from rfl,ZZ (X2 _),cj (g:=λj=>vr (rAt rs0 i) j*vr (rAt rs j) rs0.length) λj hj=>by rw[ZY hj]]at this
  grind
 .rw[show sg (λj=>vr (rAt rs i) j*(if j<rs0.length then vr (rAt rs j) rs0.length else -1)) (rs0.length+1)=sg (λj=>vr (rAt rs i) j*(if j<rs0.length then vr (rAt rs j) rs0.length else -1)) rs0.length+vr (rAt rs i) rs0.length*(if rs0.length<rs0.length then vr (rAt rs rs0.length) rs0.length else -1)from rfl,ZZ (X2 _),cj (g:=λj=>(if j=i then 1 else 0)*vr (rAt rs j) rs0.length) λj hj=>by rw[ZY hj,g.unit i j hi hj];simp only[eq_comm],jW (v:=λj=>vr (rAt rs j) rs0.length),ZY hi]
  grind
end
open Rw (vr jg iY oM gcL iw iy uJ mU Big rG jZ n8 kZ nY gD sg jw iZ cj jK jW)
abbrev mZ(r:zS):Row:=(tops (dJ 1 r) r,((dJ 1 r:Nat):Int))
abbrev KC(r:zS):T:=.lst (r.map frR)
def aes(r:zS):(mZ r).1.length=r.length:=ak _
def SM(r:zS)(j:Nat):vr (mZ r) j=r.getD j 0:=by
 unfold vr;have hB:=iI r UR;show(((tops (dJ 1 r) r).getD j 0:Int):Rat)/(((dJ 1 r:Nat):Int):Rat)=_;unfold tops;rw[au,au,aq];by_cases h:j<r.length
 .rw[aj h];show((r[j].num*((dJ 1 r/r[j].den:Nat):Int):Int):Rat)/_=r[j];obtain⟨k,hk⟩:=(lU r (n:=1)).2 r[j] (aU h);have hd:=r[j].den_pos;rw[show dJ 1 r/r[j].den=k by rw[hk];exact Nat.mul_div_cancel_left _ hd];have eW:k≠0:=λz=>by rw[z]at hk;lia
  rw[<- TR,hk,Qr,Rat.divInt_mul_right wv];exact rd _
 .rw[aM (Nat.not_lt.mp h)];show((0:Int):Rat)/_=0
  grind
structure Sys(ac:xE)(N:Nat):Prop where
 wid:∀r∈ac,r.length=ac.length+1
 few:ac.length<=100
 lev:∀r∈ac,Big N (mZ r)
 num:∀r∈ac,∀c∈r,Bd c.num
 one:1<=N
 mb:(2*ac.length*N)^ac.length<=NN
 nn:N<=NN
 inj:∀x:Nat->Rat,(∀j,ac.length<=j->x j=0)->(∀r∈ac,sg (λj=>r.getD j 0*x j) (ac.length+1)=0)->∀j,j<ac.length->x j=0
def Qq(h:i<ac.length):rAt (ac.map mZ) i=mZ ac[i]:=by
 have:=Aj (rs:=ac.map mZ) (i:=i) (by rwa[ak]);rw[aq,aj h]at this;injection this with this;exact this.symm
def Sys.b0(h:Sys ac N):B0 (ac.map mZ) (ac.length+1) N:=⟨λi hi=>by
 rw[ak]at hi;rw[Qq hi];exact⟨h.lev _ (aU hi),by rw[aes];exact h.wid _ (aU hi)⟩,h.one,by rw[ak];exact h.mb,h.nn⟩
def Rws.mk'{rs:xj}(hr:∀i,i<rs.length->Big NN (rAt rs i)/\(rAt rs i).1.length=wd)(h1:rs.length<=100)(h2:wd<=1000):Rws rs wd:=by
 have:∀r∈rs,Big NN r/\r.1.length=wd:=λr hm=>by
  obtain⟨i,hi,e0⟩:=List.getElem_of_mem hm;have e:=Aj hi;rw[aj hi,e0]at e;injection e with e;rw[e];exact hr i hi
 exact⟨λr hm=>(this r hm).1,λr hm=>(this r hm).2,h1,h2⟩
def Sys.rws{c:Nat}{rs:xj}(h:Sys ac N)(g:Gs (ac.map mZ) (ac.length+1) N c rs):Rws rs (ac.length+1):=by
 have l:=g.len;have few:=h.few;rw[ak]at l;refine Rws.mk' (λi hi=>?_) (aL (WJ l) few) wv;have fF:i<(ac.map mZ).length:=by rw[g.len]at hi;exact hi
 exact⟨g.big h.b0 fF,(g.row i fF).2.1⟩
def aiR(hi:i<ac.length)(x:Nat->Rat):sg (λj=>vr (rAt (ac.map mZ) i) j*x j) n=sg (λj=>ac[i].getD j 0*x j) n:=cj λj _=>by rw[Qq hi,SM]
def Sys.inj'(h:Sys ac N):∀x:Nat->Rat,(∀j,(ac.map mZ).length<=j->x j=0)->(∀i,i<(ac.map mZ).length->sg (λj=>vr (rAt (ac.map mZ) i) j*x j) (ac.length+1)=0)->∀j,j<(ac.map mZ).length->x j=0:=by
 rw[ak];intro x h1 h2;refine h.inj x h1 λr hr=>?_;obtain⟨i,hi,rfl⟩:=List.getElem_of_mem hr;rw[<- aiR hi];exact h2 i hi
def M6(m:Nat)(y:Nat->Rat):zh:=(List.range m).map λi=>.lst ((List.range (m+1)).map λj=>frR (if j<m then if i=j then 1 else 0 else y i))
def ahs{rs:xj}(h:Sys ac N)(g:Gs (ac.map mZ) (ac.length+1) N ac.length rs):(rs.map λr=>T.lst ((List.range (ac.length+1)).map λk=>frR (vr r k)))=M6 ac.length λi=>vr (rAt rs i) ac.length:=by
 have l:=g.len;rw[ak]at l;unfold M6;refine UQ (by rw[ak,ak,WP,l]) λi h1 h2=>?_;rw[ak]at h1;rw[VW,VW,Tu];have e:=Aj h1;rw[aj h1]at e;injection e with e;rw[e]
 congr 1
 refine UX λj hj=>?_;have hj:=List.mem_range.mp hj;by_cases c:j<ac.length
 .rw[ZY c,g.unit i j (by rw[ak];exact aR h1 (WJ l)) c]
 .rw[ZZ c,show j=ac.length by lia]
def ahI{rs:xj}(g:Gs (ac.map mZ) (ac.length+1) N ac.length rs):∀r∈ac,sg (λj=>r.getD j 0*vr (rAt rs j) ac.length) ac.length=r.getD ac.length 0:=λr hr=>by
 obtain⟨i,hi,rfl⟩:=List.getElem_of_mem hr;have l:(ac.map mZ).length=ac.length:=ak _;have:=Gs.answer (rs0:=ac.map mZ) (N:=N) (rs:=rs) (by rwa[l]) (i:=i) (by rwa[l]);rw[l,Qq hi,SM]at this;rw[<- this];exact cj λj _=>by rw[SM]
def Ku:ST:=λts R=>∃(ac:xE)(N:Nat),ts=[.lst (ac.map KC),.int ac.length]/\Sys ac N/\∀(ss:zh)(y:Nat->Rat),(∀r∈ac,sg (λj=>r.getD j 0*y j) ac.length=r.getD ac.length 0)->(∀i,i<ac.length->FnB ((2*ac.length*N)^ac.length) (y i))->R (.fz (.tup [.lst ss,.lst (M6 ac.length y)]))
def W7(T:Tx D):gT 7 Ci rY Ku:=ya T.aaT λF=>by
 refine F.okT Ky (λhr _=>bG (ajr (bH Ai) G4 G4 ["row"] (bZ wp) (c7 (i:=0)) b_ (bJ (acw T) (bA wp bC)) (gB (i:=2) Ky.nd rfl (Or.inl rfl)))
  (bG (gK 3 (cR bC))
  (bG (bQ 4 bF)
  (bG (cY (dI T.fu (bA wo bC)) (bU (n:=99) 5)
  (bG (bQ 6 (Pj 2 (bJ (MP T) (bA wr (bA we (bA wa bC))))))
  (bI (cA (bW Ds (qv 6) eE)
  (bG (JQ 2 3 (Q7 T) hr.md (by rfl) (bA we (bA (qv 6) (bA wa bC))))
  (bG (JQ 2 3 (IW T) hr.md (by rfl) (bA we (bA wa bC)))
  (bI (aeg 4 adb bF))))
  bV))))
  (bI (Tr 3 (Tr 2 (bR (dY (bA wn (bA (bJ (H_ T) (bA wr bC)) bC))))))))))) ?_
 rintro _ R ⟨ac,N,rfl,h,ok⟩;have lm:(ac.map KC).length=ac.length:=ak _;have ll:(ac.map mZ).length=ac.length:=ak _;have few:=h.few;have b0:=h.b0;have e0:(ac.map λr=>rwT (mZ r))=(ac.map mZ).map rwT:=by rw[WU];rfl
 refine⟨by rw[lm];exact aL few wx,comp_map KC (λr=>rwT (mZ r)) ac (λr hr N' M hN=>⟨r,rfl,by rw[h.wid r hr];lia,h.num r hr,bdN (aL (h.lev r hr).bot h.nn),hN⟩) ?_⟩;rw[e0];refine⟨⟨by lia,by lia⟩,lX (λc o=>∃rs ss x y,o=[.fz (.lst (ac.map KC)),.fz (.int ac.length),.l1 (rs.map rwT),.l1 ss,.fz (.int (c:Nat)),x,y]/\Gs (ac.map mZ) (ac.length+1) N c rs/\ss.length<=102*c) ⟨_,[],_,_,rfl,b0.zero,aG _⟩ ?_ ?_⟩
 .rintro c _ hc ⟨rs,ss,x,y,rfl,g,sl⟩;have hc:c<ac.length:=by lia
  have df:c<(ac.map mZ).length:=by lia
  have l:=g.len;have hR:=h.rws g;have big:(20000:Nat)<sizeLine:=by decide
  refine⟨rs,_,c,c,rfl,hR,by lia,by exact WV _ hc,λq h1 h2 h3=>⟨trivial,rs,ss,_,c,q,c,rfl,rfl,hR,by exact Y3 h1 h2,h2,by exact WV _ hc,h3,by lia,λrs2 ss2 l2 e2 s2=>?_⟩,λz=>(g.found df (WV _ hc) h.inj' λi a b=>z i a wv).elim⟩;obtain⟨n1,n2,n3⟩:=g.next b0 df (WV _ hc) h1 (aR h2 (WJ l)) h3 (rs2:=rs2) λi hi=>e2 i wv;exact⟨rs2,ss2,_,c,c,rfl,rfl,Rws.mk' (λi hi=>n1 i wv) wv wv,by lia,by exact WV _ hc,by lia,λi hi=>n2 i wv,λic ss3 l3 e3 s3=>⟨ic,ss3,.fz (.int c),.fz (.int q),rfl,n3 ic wv λi hi=>e3 i wv,by lia⟩⟩
 .rintro _ ⟨rs,ss,x,y,rfl,g,sl⟩;have g:Gs (ac.map mZ) (ac.length+1) N ac.length rs:=g;have hR:=h.rws g;have l:=g.len;refine⟨rs,_,rfl,hR,?_⟩;have:=ok ss _ (ahI g) λi hi=>by
   have fF:i<(ac.map mZ).length:=by lia
   have b:=g.bigM b0 fF;rw[ll]at b;exact FnB.vr b (by rw[(g.row i fF).2.1];exact X0 _)
  rw[<- ahs h g]at this;exact this
open Rw (vr jg iY oM gcL iw iy uJ mU Big rG jZ n8 kZ nY gD sg jw iZ cj jK jW)
def HF:ST:=λts q=>∃(ac:xE)(n:Nat),ts=[.lst (ac.map KC)]/\(∀r∈ac,r.length=n)/\(ac=[]->n=0)/\q (.fz (.int n))
def UG(T:Tx D):gT 1 zG oh HF:=ya T.W3 λF=>by
 refine F.okT Vu (λhr _=>bG (cA (bW (go_eq hr.units) (bT cQ T.dU WG (bA wp bC)) bF)
  (bI (bR bF))
  bV)
  (bI (bR (bT cQ T.dU WG (bA (bK wp bF) bC))))) ?_
 rintro _ R ⟨ac,n,rfl,h,h0,q⟩
 match ac,h,h0 with
 |[],h,h0=>rw[h0 rfl]at q;exact q
 |r::ac,h,h0 =>
  have e:(r.map frR).length=n:=by rw[ak];exact h r (aO ..)
  rw[<- e]at q;exact⟨_,rfl,q⟩
theorem V7(i:Nat):∀m,(List.range m).filter (λj=>decide (j=i))=if i<m then[i]else[]
 |0=>by rw[ZZ (WZ _)];rfl
 |m+1=>by
  rw[List.range_succ,List.filter_append,V7 i m];by_cases e:m=i
  .subst e;rw[ZZ (X2 _),ZY (X0 _)];simp
  .rw[List.filter_cons_of_neg (by simpa using e)];by_cases c:i<m
   .rw[ZY c,ZY (WV _ c)];rfl
   .rw[ZZ c,ZZ wv];rfl
def Ab:ST:=λts q=>∃(ac:xE)(ax:zS),ts=[.lst (ac.map KC),.lst (ax.map frR)]/\ac.length<=100/\(∀r∈ac,r.length<=100)/\q (.l1 ((List.zipWith (λr c=>r++[c]) ac ax).map KC))
def J3(T:Tx D):gT 1 qZ jz Ab:=ya T.Mz λF=>by
 refine F.okT Jy (λ_ _=>bI (bR (cD (bH nU) um um ["row","right"] (BZ T.HB (bA wp (bA wo bC))) (dB (n:=2) (bM (c7 (i:=0)) (bM (c7 (i:=1)) cL))) b_ (bO dh wp (cR (bA wo bC)))))) ?_;rintro _ R ⟨ac,ax,rfl,h1,h2,q⟩;have zl:(ac.zip ax).length<=ac.length:=by rw[WH];exact Nat.min_le_left ..
 refine⟨by unfold B_;rw[ak,WH,ak,ak];exact aL (aL (Nat.min_le_left ..) h1) wx,?_⟩;rw[zip_map];refine comp_map (λp=>.tup [KC p.1,frR p.2]) (λp=>KC (p.1++[p.2])) (ac.zip ax) (λp hp N M hN=>⟨rfl,?a,?b⟩) ?c
 case a =>
  have:=h2 _ (UV hp).1;show(p.1.map frR).length+1<=sizeLine;rw[ak];exact aL (show _<=101 by exact Nat.succ_le_succ this) wx
 case b =>
  show N (.lst (p.1.map frR++[frR p.2]));rw[show(p.1.map frR++[frR p.2])=(p.1++[p.2]).map frR by rw[bf];rfl];exact hN
 case c =>
  rw[List.map_zipWith]at q;rwa[List.zip,List.map_zipWith]
def FW:ST:=λts q=>∃(m:Nat)(y:Nat->Rat),ts=[.lst (M6 m y),.int m]/\m<=100/\q (.l1 ((List.range m).map λi:Nat=>.int i))
def S8(T:Tx D):gT 1 vK mC FW:=ya T.U4 λF=>by
 refine F.okT DP (λhr _=>bG (gK 2 (cR bC))
  (bG (cY (bZ wp) (bU (n:=99) 3)
  (bG (i_ (bH sH) yx yx ["column"] (dI T.fu (bA wo bC)) (c7 (i:=0)) (DK (bW (lG hr.units) (bK we wp) (lE T.j_ T.iR))) wp (gB (i:=4) DP.nd rfl (Or.inl rfl)))
  (bI (cA (bW yF (bT cQ T.dU WG (bA we bC)) bF)
  (bI (uh 2 (bK we bF)))
  bV))))
  (bI (iu 2)))) ?_
 rintro _ R ⟨m,y,rfl,h,q⟩;have sz:(1000:Nat)<=sizeLine:=by decide
 refine dW _ (List.range m) (λas o=>∃x z,o=[.fz (.lst (M6 m y)),.fz (.int m),.l1 (as.map λi:Nat=>.int i),x,z]) ⟨_,_,rfl⟩ ?_ ?_
 .rintro as i bs _ e ⟨x,z,rfl⟩;have hi:i<m:=List.mem_range.mp (e ▸ by simp);have la:as.length<m:=by have:=ZH List.length e;rw[WP,aA,List.length_cons]at this;lia
  refine⟨⟨by lia,by lia⟩,by rw[rng,ak,WP];exact aL (show _<=1000 by lia) sz,jC (λk:Nat=>.int (0+k)) (λj=>decide (j=i)) (λj=>.int (0+(j:Nat))) (List.range m) (λj hj N M h1 h2=>?_) ?_⟩
  .have hj:=List.mem_range.mp hj;show hName 0 (L2.T.int (0+((j:Nat):Int))) _ _;rw[show(0:Int)+((j:Nat):Int)=((j:Nat):Int)by lia]at h1 ⊢;refine⟨_,cZ (VX (WV _ hj)),?_⟩;by_cases c:j=i
   .refine swT ?_ (h1 (Zs c));show xr true (_&&_)=true;rw[ZY hj,ZY c.symm]
    rfl
   .refine swF ?_ (h2 (Zp c));show xr true (_&&_)=false;rw[ZY hj,ZZ (Ne.symm c)]
    rfl
  .rw[V7,ZY hi];refine⟨_,rfl,by rw[ak];lia,.fz (.lst ((List.range (m+1)).map λj=>frR (if j<m then if i=j then 1 else 0 else y i))),.fz (.lst [.int (0+(i:Nat))]),?_⟩;rw[bf];show[_,_,OT.l1 (as.map _++[L2.T.int (0+(i:Nat))]),_,OT.fz (.lst [L2.T.int (0+(i:Nat))])]=[_,_,OT.l1 (as.map _++[L2.T.int (i:Nat)]),_,_];rw[show(0:Int)+((i:Nat):Int)=((i:Nat):Int)by exact Int.zero_add _]
 .rintro _ ⟨x,z,rfl⟩;exact q
def JB:ST:=λts q=>∃(m:Nat)(y:Nat->Rat),ts=[.lst (M6 m y),.lst ((List.range m).map λi:Nat=>.int i),.int m]/\m<=100/\q (.fz .non)
def WQ(T:Tx D):gT 1 CP qz JB:=ya T.aap λF=>by
 refine F.okT Yx (λhr _=>bG (cY (Oz T.fu (bA (bT cQ T.dU WG (bA wo bC)) (bA (bT cQ T.dU WG (bA wp bC)) bC))) (bU (n:=99) 3)
  (bI (cA (bW (lG hr.units) (bK (bK wp wn) wr) (lE T.j_ T.iR))
  (bI (bR wn))
  bV)))
  (bI (bR eE))) ?_
 rintro _ R ⟨m,y,rfl,h,q⟩;have l1:((List.range m).map λi:Nat=>L2.T.int i).length=m:=by rw[ak,WP]
 have l2:(M6 m y).length=m:=by unfold M6;rw[ak,WP]
 refine⟨⟨by lia,by lia,by lia,by lia⟩,Dt (λ_ _=>True) _ 0 trivial (λi t o e z=>?_) λo _=>q⟩;have:=(acn e).1;lia
def Dh:ST:=λts q=>∃(m:Nat)(y:Nat->Rat),ts=[.lst (M6 m y),.lst ((List.range m).map λi:Nat=>.int i),.int m]/\m<=100/\q (.l1 ((List.range m).map λi=>frR (y i)))
def Te(T:Tx D):gT 1 vR mW Dh:=ya T.T4 λF=>by
 refine F.okT Rf (λ_ _=>bG (gK 3 (bO cI (cR (bA (lE T.j_ T.iR) bC)) wr))
  (bG (cY (pU T.gF (bA wo bC)) (dB (n:=2) (bM (bU (n:=99) 4) (bM (bU (n:=99) 5) cL)))
  (bI (uo 3 (bK (bK wp we) wr) wa)))
  (bI (iu 3)))) ?_
 rintro _ R ⟨m,y,rfl,h,q⟩;refine⟨⟨by lia,by lia,by show 1*_<=_;exact aL (show _<=100 by lia) wx⟩,λz ez=>?_⟩;have ez:z=(List.range m).map λi=>if i<0 then frR (y i)else frR 0:=by
  rw[ez,List.flatten_replicate_singleton];refine UQ (by rw[aN,ak,WP];rfl) λn h1 h2=>?_;rw[List.getElem_replicate,VW,ZZ (WZ _)]
  rfl
 subst ez;refine qm (λi:Nat=>.int i) (List.range m) (λk o=>∃x z,o=[.fz (.lst (M6 m y)),.fz (.lst ((List.range m).map λi:Nat=>.int i)),.fz (.int m),.l1 ((List.range m).map λi=>if i<k then frR (y i)else frR 0),x,z]) ⟨_,_,rfl⟩ ?_ ?_
 .rintro k i _ e ⟨x,z,rfl⟩;have hk:k<m:=by have:=(ao.mp e).1;rwa[WP]at this
  rw[VX hk]at e;cases e;refine⟨rfl,_,cZ (VX hk),_,cZ (VX (X0 m)),k,vY (by rwa[ak,WP]),.fz (.int k),.fz (.int k),?_⟩;have:((List.range m).map λi=>if i<k then frR (y i)else frR 0).set k (frR (if m<m then if k=m then 1 else 0 else y k))=(List.range m).map λi=>if i<k+1 then frR (y i)else frR 0:=by
   rw[ZZ (X2 _)];refine UQ (by rw[VZ,ak,ak]) λn h1 h2=>?_;rw[List.getElem_set,VW,VW,Tu];by_cases c:k=n
   .rw[ZY c,ZY wv,c]
   .rw[ZZ c];by_cases d:n<k
    .rw[ZY d,ZY (WV _ d)]
    .rw[ZZ d,ZZ wv]
  rw[<- this]
  rfl
 .rintro _ ⟨x,z,rfl⟩;have:((List.range m).map λi=>if i<(List.range m).length then frR (y i)else frR 0)=(List.range m).map λi=>frR (y i):=UX λi hi=>by rw[WP,ZY (List.mem_range.mp hi)]
  rw[<- this]at q;exact q
open Rw (vr jg iY oM gcL iw iy uJ mU Big rG jZ n8 kZ nY gD sg jw iZ cj jK jW)
abbrev aai(ac:xE)(ax:zS):xE:=List.zipWith (λr c=>r++[c]) ac ax
def yL:ST:=λts R=>∃(ac:xE)(ax:zS)(N:Nat),ts=[.lst (ac.map KC),.lst (ax.map frR)]/\ax.length=ac.length/\(∀r∈ac,r.length=ac.length)/\Sys (aai ac ax) N/\∀y:Nat->Rat,(∀r∈aai ac ax,sg (λj=>r.getD j 0*y j) ac.length=r.getD ac.length 0)->(∀i,i<ac.length->FnB ((2*ac.length*N)^ac.length) (y i))->R (.l1 ((List.range ac.length).map λi=>frR (y i)))
def Lx(T:Tx D):gT 8 qu ju yL:=ya T.M5 λF=>by
 refine F.okT LQ (λ_ _=>bG (bQ 2 (bJ (UG T) (bA wp bC)))
  (bG (bQ 3 (bK (bJ (W7 T) (bA (bJ (J3 T) (bA wp (bA wo bC))) (bA wr bC))) bF))
  (bG (bQ 4 (bJ (S8 T) (bA wn (bA wr bC))))
  (bG (cA (QW.qt (fW (bW Hx (bT cQ T.dU WG (bA we bC)) wr) (eX (bW Ds (bJ (WQ T) (bA wn (bA we (bA wr bC)))) eE))))
  (bI (bR eE))
  bV)
  (bI (bR (bJ (Te T) (bA wn (bA we (bA wr bC)))))))))) ?_
 rintro _ R ⟨ac,ax,N,rfl,hl,hw,h,ok⟩;have la:(aai ac ax).length=ac.length:=by rw[JY,hl,Up]
 have few:=h.few;rw[la]at few;refine⟨ac,ac.length,rfl,hw,λz=>by rw[z];rfl,ac,ax,rfl,few,λr hr=>by rw[hw r hr];exact few,aai ac ax,N,?_,h,λss y h1 h2=>?_⟩
 .rw[la];rfl
 .rw[la]at h1 h2 ⊢;have lr:((List.range ac.length).map λi:Nat=>L2.T.int i).length=ac.length:=by rw[ak,WP]
  exact⟨ac.length,y,rfl,few,swF (Zp (by show ¬((((List.range ac.length).map λi:Nat=>L2.T.int i).length:Nat):Int)<_;lia)) ⟨ac.length,y,rfl,few,ac.length,y,rfl,few,ok y h1 h2⟩⟩
open Rw (sg)
def rowsOf(f:Nat->Nat->Rat)(m:Nat):wq:=(List.range m).map λi=>(List.range m).map λj=>frR (f i j)
def uN:zg->Nat->Rat
 |[],_=>0
 |w::ws,j=>(if w.1=j then w.2 else 0)+uN ws j
def uV:xo->zg
 |none=>[]
 |some o=>o.ways
structure WyB(s:Rat)(m:Nat)(ws:zg):Prop where
 nd:(ws.map (·.1)).Nodup
 few:ws.length<=1000
 lt:∀w∈ws,w.1<m
 bq:∀w∈ws,Bq w.2/\Bd ((s.den:Int)*w.2.den)/\Bq (s*w.2)
def gW(s:Rat)(cs:xw)(i j:Nat):Rat:=(if j=i then 1 else 0)-s*uN (uV (cs.getD i none)) j
def Fl:ST:=λts q=>∃(s:Rat)(cs:xw),ts=[frR s,.lst (cs.map opT)]/\cs.length<=100/\Bq s/\(∀o∈cs,WyB s cs.length (uV o))/\q (.l2 (rowsOf (gW s cs) cs.length))
def adC(f:Nat->Nat->Rat)(m:Nat):(rowsOf f m).length=m:=by unfold rowsOf;rw[ak,WP]
def Y9{f:Nat->Nat->Rat}(h:i<m):(rowsOf f m)[i]?=some ((List.range m).map λj=>frR (f i j)):=by
 unfold rowsOf;rw[aq,VX h];rfl
def wJ{f g:Nat->Nat->Rat}(h:∀i j,i<m->j<m->f i j=g i j):rowsOf f m=rowsOf g m:=UX λi hi=>UX λj hj=>by rw[h i j (List.mem_range.mp hi) (List.mem_range.mp hj)]
def acF{f g:Nat->Nat->Rat}{v:Rat}(h:∀a b,a<m->b<m->g a b=if a=i/\b=k then v else f a b):(rowsOf f m).set i (((List.range m).map λj=>frR (f i j)).set k (frR v))=rowsOf g m:=by
 unfold rowsOf;refine UQ (by rw[VZ,ak,ak]) λa h1 h2=>?_;have ha:a<m:=by rw[ak,WP]at h2;exact h2
 rw[List.getElem_set];by_cases e:i=a
 .rw[ZY e,VW,Tu];refine UQ (by rw[VZ,ak,ak]) λb h3 h4=>?_;have hb:b<m:=by rw[ak,WP]at h4;exact h4
  rw[List.getElem_set,VW,VW,Tu,h a b ha hb];by_cases c:k=b
  .rw[ZY c,ZY ⟨e.symm,c.symm⟩]
  .rw[ZZ c,ZZ λz=>c z.2.symm,e]
 .rw[ZZ e,VW,VW,Tu];refine UX λb hb=>?_;rw[h a b ha (List.mem_range.mp hb),ZZ λz=>e z.1.symm]
def afh{f:Nat->Nat->Rat}(h:i<m):ixT (rowsOf f m) ((i:Nat):Int)=some ((List.range m).map λj=>frR (f i j)):=by
 show nth (rowsOf f m) i=_;rw[vD,Y9 h]
def adZ(as:zg)(w:Nat×Rat)(j:Nat):uN (as++[w]) j=uN as j+if w.1=j then w.2 else 0:=by
 induction as with
 |nil=>show(_+(0:Rat))=0+_;grind
 |cons a as ih=>show _+uN (as++[w]) j=(_+uN as j)+_;rw[ih];grind
def Z_(h:j∉ws.map (·.1)):uN ws j=0:=by
 induction ws with
 |nil=>rfl
 |cons a as ih =>
  show(if a.1=j then a.2 else 0)+uN as j=0;rw[ih λz=>h (aJ _ z),ZZ λz=>h (by rw[<- z];exact aO ..)]
  grind
def u_(s:Rat)(cs:xw)(n:Nat)(as:zg)(i j:Nat):Rat:=if i<n then gW s cs i j else if i=n then(if j=i then 1 else 0)-s*uN as j else if j=i then 1 else 0
def agy(s:Rat)(cs:xw)(n i j:Nat):u_ s cs n [] i j=if i<n then gW s cs i j else if j=i then 1 else 0:=by
 unfold u_;split
 .rfl
 .split
  .show _-s*0=_;grind
  .rfl
def agG{cs:xw}(i j:Nat):u_ s cs n (uV (cs.getD n none)) i j=if i<n+1 then gW s cs i j else if j=i then 1 else 0:=by
 unfold u_;by_cases a:i<n
 .rw[ZY a,ZY (show i<n+1 by exact WV _ a)]
 .by_cases b:i=n
  .subst b;rw[ZZ a,ZY rfl,ZY (show i<i+1 by exact X0 _)]
   rfl
  .rw[ZZ a,ZZ b,ZZ (show ¬i<n+1 by lia)]
def W5(s:Rat)(cs:xw)(n:Nat)(as:zg)(j:Nat):u_ s cs n as n j=(if j=n then 1 else 0)-s*uN as j:=by unfold u_;rw[ZZ (X2 _),ZY rfl]
def ajk{cs:xw}(as bs:zg)(j:Nat)(h:i≠n):u_ s cs n as i j=u_ s cs n bs i j:=by unfold u_;rw[ZZ h,ZZ h]
def PK(T:Tx D):gT 4 vW lN Fl:=ya T.U8 λ{f fd}F=>by
 refine F.okT R5 (λ_ _=>bG (gK 2 (bJ (Kl T) (bA (bT cQ T.dU WG (bA wo bC)) bC)))
  (bG (cY (pU T.gF (bA wo bC)) (dB (n:=2) (bM (bU (n:=99) 3) (bM (bU (n:=99) 4) cL)))
  (bI (cA (bW Ds we eE)
  (bI (cY (bZ (bK we bF)) (dB (n:=2) (bM (bU (n:=99) 5) (bM (bU (n:=99) 6) cL)))
  (bI (afR 2 (bJ (abx T) (bA (afb 2 wn wa) (bA (bJ (aej T) (bA wp (bA (qv 6) bC))) bC))) wn wa))))
  bV)))
  (bI (iu 2)))) ?_
 rintro _ R ⟨s,cs,rfl,hm,hs,hw,q⟩;refine⟨cs.length,?_,hm,?_⟩
 .show[L2.T.int (((cs.map opT).length:Nat):Int)]=_;rw[ak]
 .have lc:∀x:Nat,((cs.map opT).length:Nat)=cs.length:=λ_=>ak _;refine qm opT cs (λn o=>∃x y z u,o=[.fz (frR s),.fz (.lst (cs.map opT)),.l2 (rowsOf (λi j=>if i<n then gW s cs i j else if j=i then 1 else 0) cs.length),x,y,z,u]) ⟨.und,.und,.und,.und,?_⟩ ?_ ?_
  .show[_,_,OT.l2 (rowsOf (λi j=>if j=i then 1 else 0) cs.length),_,_,_,_]=_;rw[wJ (f:=λi j=>if j=i then 1 else 0) (g:=λi j=>if i<0 then gW s cs i j else if j=i then 1 else 0) λi j _ _=>by rw[ZZ (WZ _)]]
  .rintro n oo _ e ⟨x,y,z,u,rfl⟩;have hn:n<cs.length:=(ao.mp e).1;have eg:cs.getD n none=oo:=by rw[au,e];rfl
   have hb:=hw oo (aC e);rw[show rowsOf (λi j=>if i<n then gW s cs i j else if j=i then 1 else 0) cs.length=rowsOf (u_ s cs n []) cs.length from wJ λi j _ _=>(agy s cs n i j).symm];rw[show rowsOf (λi j=>if i<n+1 then gW s cs i j else if j=i then 1 else 0) cs.length=rowsOf (u_ s cs n (uV oo)) cs.length from wJ λi j _ _=>by rw[<- eg];exact(agG i j).symm];refine⟨rfl,?_⟩
   match oo,hb with
   |none,hb=>exact⟨_,_,_,_,rfl⟩
   |some o,hb =>
    refine dW nwT o.ways (λas ot=>∃z u,ot=[.fz (frR s),.fz (.lst (cs.map opT)),.l2 (rowsOf (u_ s cs n as) cs.length),.fz (.int n),.fz (ofT o),z,u]) ⟨_,_,rfl⟩ ?_ ?_
    .rintro as ⟨k,c⟩ bs _ e2 ⟨z,u,rfl⟩;have kN:(k,c)∈o.ways:=e2 ▸ by simp
     have hk:=hb.lt _ kN;obtain⟨c1,c2,c3⟩:=hb.bq _ kN;have nk:k∉as.map (·.1):=λz=>by
      have nd:=hb.nd;rw[show uV (some o)=o.ways from rfl,e2,bf]at nd;exact(List.nodup_append.mp nd).2.2 k z k wf rfl
     have cell:u_ s cs n as n k=if k=n then 1 else 0:=by
      unfold u_;rw[ZZ (X2 _),ZY rfl,Z_ nk]
      grind
     have q1:Bq (u_ s cs n as n k)/\Bd (((u_ s cs n as n k).den:Int)*(s*c).den):=by
      rw[cell];split
      .exact⟨bq1,by show Bd (1*_);rw[TU];exact c3.2⟩
      .exact⟨bq0,by show Bd (1*_);rw[TU];exact c3.2⟩
     refine⟨rfl,_,(afh hn),_,cZ (VX hk),s,c,rfl,hs,c1,c2,_,_,rfl,q1.1,c3,q1.2,n,_,vY (by rwa[adC]),Y9 hn,k,vY (by rwa[ak,WP]),.fz (.int k),.fz (frR c),?_⟩;rw[<- acF (f:=u_ s cs n as) (g:=u_ s cs n (as++[(k,c)])) (i:=n) (k:=k) (v:=u_ s cs n as n k-s*c) λa b _ _=>?_]
     .rfl
     .by_cases a1:a=n
      .subst a1;rw[W5,adZ];by_cases b1:b=k
       .subst b1;rw[ZY (show a=a/\b=b from⟨rfl,rfl⟩),W5,ZY (show(b,c).1=b from rfl)]
        grind
       .rw[ZZ (show ¬(a=a/\b=k)from λz=>b1 z.2),W5,ZZ (show ¬(k,c).1=b from λz=>b1 z.symm)]
        grind
      .rw[ZZ (show ¬(a=n/\b=k)from λz=>a1 z.1)];exact ajk _ _ _ a1
    .rintro _ ⟨z,u,rfl⟩;exact⟨_,_,_,_,rfl⟩
  .rintro _ ⟨x,y,z,u,rfl⟩;rw[show rowsOf (gW s cs) cs.length=rowsOf (λi j=>if i<cs.length then gW s cs i j else if j=i then 1 else 0) cs.length from wJ λi j hi _=>by rw[ZY hi]]at q;exact q
def eZ{i:Int}(h:i.natAbs<18446744073709551616):Bd i:=aR h (aL (by decide:18446744073709551616<=2^64) (XU wx wx))
abbrev scT(ns:xz):T:=.scr (ns.map T.int)
def Q_:ST:=λts q=>∃(ns:xz)(k:Nat),ts=[scT ns,.int (k:Nat)]/\ns.length<=100/\q (.fz (.int (ns.getD k 0)))
def Ar{β:Type}(h:α->β)(l:List α)(lo hi:zI):gZ (l.map h) lo hi=(gZ l lo hi).map h:=by unfold gZ;rw[ak,List.map_take,List.map_drop]
def aey(l:List α)(k:Nat):gZ l (some (k:Int)) (some ((k:Int)+1))=(l.drop k).take 1:=by
 unfold gZ HT.sIx;show List.take ((if(k:Int)+1<0 then _ else min ((k:Int)+1).toNat l.length)-(if(k:Int)<0 then _ else min (k:Int).toNat l.length)) (List.drop (if(k:Int)<0 then _ else min (k:Int).toNat l.length) l)=_;rw[ZZ wv,ZZ (Int.not_lt_of_ge (X9 _))];by_cases h:k<l.length
 .rw[show min ((k:Int)+1).toNat l.length=k+1 by lia,show min (k:Int).toNat l.length=k by lia,show k+1-k=1 by exact T1 _ _]
 .rw[show min (k:Int).toNat l.length=l.length by lia,List.drop_length,T2 (VS h),List.take_nil,List.take_nil]
def afz(T:Tx D):gT 1 Jw Bg Q_:=ya T.aji λF=>by
 refine F.okT afv (λ_ _=>bI (bR (bK (bO dh (mR wp (iD wo) (iD (bO dh wo bF))) (cR (bA bF bC))) bF))) ?_;rintro _ R ⟨ns,k,rfl,hl,q⟩;have e:gZ (ns.map L2.T.int) (some (k:Int)) (some ((k:Int)+1))=((ns.drop k).take 1).map L2.T.int:=by rw[Ar,aey]
 refine⟨?_,.int (ns.getD k 0),?_,q⟩
 .show(gZ (ns.map L2.T.int) (some (k:Int)) (some ((k:Int)+1))).length+1<=sizeLine;rw[e,ak,aY];exact aL (show _<=2 by lia) wx
 .show ixT (gZ (ns.map L2.T.int) (some (k:Int)) (some ((k:Int)+1))++[L2.T.int 0]) 0=_;rw[e];by_cases h:k<ns.length
  .rw[QQ h,List.take_succ_cons,au,aj h]
   rfl
  .rw[T2 (VS h),au,aM (VS h)]
   rfl
def strN(c:Int):Nat->Int×Int
 |0=>((c%1999999973+31)*765432101%1999999973,if c<0\/10^18<=c then(c.natAbs:Int)else 0)
 |k+1=>(((strN c k).1*((strN c k).1%65521+40487)+7*(k:Int)+5)%1999999973,(strN c k).2.fdiv 1000000)
def strm(c:Int)(k:Nat):Int:=if 0<(strN c k).2 then(strN c k).2%1000000 else(strN c (k+1)).1
def YZ(c:Int):∀k,0<=(strN c k).1/\(strN c k).1<1999999973
 |0=>⟨Z3 _ wx,YY _ wx⟩
 |_+1=>⟨Z3 _ wx,YY _ wx⟩
def wg(c:Int)(k:Nat):0<=strm c k/\strm c k<2000000000:=by
 unfold strm;have:=YZ c (k+1);split<;>lia
abbrev iV(c:Int)(n:Nat):xz:=(List.range n).map (strm c)
def qe:ST:=λts q=>∃(c:Int)(n:Nat),ts=[.int c,.int (n:Nat)]/\n<=1000/\q (.l1 ((iV c n).map T.int))
def aaU(T:Tx D):gT 1 m7 jH qe:=ya T.ab8 λF=>by
 refine F.okT abd (λ_ _=>bG (gK 2 (cR bC))
  (bG (bQ 3 (bO cW (bO cI (bO dh (bO cW wp bF) bF) bF) bF))
  (bG (bQ 4 bF)
  (bG (cA (QW.qt (fW (bW Hx wp bF) (eX (bW abw wp (bO ahe bF bF)))))
  (bI (bQ 4 (bT JK T.Vf boot_abs (bA wp bC))))
  bV)
  (bG (cY (dI T.fu (bA wo bC)) (bU (n:=99) 5)
  (bG (bQ 3 (bO cW (bO dh (bO dh (bO cI wn (bO dh (bO cW wn bF) bF)) (bO cI bF wa)) bF) bF))
  (bG (uh 2 (bK (cR (bA wn (bA (bO cW we bF) bC))) (jQ aiy T.adK boot_int (bA (qw yF we bF) bC))))
  (bI (bQ 4 (bO oZ we bF))))))
  (bI (iu 2))))))) ?_
 rintro _ R ⟨c,n,rfl,hn,q⟩;refine sq4 (λo=>o=[.fz (.int c),.fz (.int (n:Nat)),.l1 [],.fz (.int (strN c 0).1),.fz (.int (strN c 0).2),.und]) ?_ λY go=>?_
 .rintro _ rfl;refine⟨⟨by lia,by lia⟩,?_⟩;refine lX (λk o=>∃x,o=[.fz (.int c),.fz (.int (n:Nat)),.l1 ((iV c k).map L2.T.int),.fz (.int (strN c k).1),.fz (.int (strN c k).2),x]) ⟨_,rfl⟩ ?_ ?_
  .rintro k _ hk ⟨x,rfl⟩;have b:=YZ c k;refine⟨by decide,⟨eZ wv,eZ wv⟩,⟨eZ wx,eZ wv⟩,by decide,by decide,.int (strm c k),?_,?_,⟨by decide,eZ wx⟩,.fz (.int k),?_⟩
   .by_cases h:0<(strN c k).2
    .rw[Zs h];unfold strm;rw[ZY h]
     rfl
    .rw[Zp h];unfold strm;rw[ZZ h]
     rfl
   .rw[ak,ak,WP];exact aR (show k<1001 by lia) wx
   .rw[show iV c (k+1)=iV c k++[strm c k]by simp[iV,List.range_succ],bf]
    rfl
  .rintro _ ⟨x,rfl⟩;exact q
 .refine⟨by decide,⟨eZ wv,eZ wx⟩,by decide,?_⟩;refine swD (λh=>go _ ?_) λh=>⟨⟨by decide,by decide,by decide⟩,swD (λh'=>go _ ?_) λh'=>go _ ?_⟩
  .show _=[_,_,_,_,OT.fz (L2.T.int (if c<0\/10^18<=c then(c.natAbs:Int)else 0)),_];rw[ZY (.inl h)]
   rfl
  .show _=[_,_,_,_,OT.fz (L2.T.int (if c<0\/10^18<=c then(c.natAbs:Int)else 0)),_];rw[ZY (.inr h')]
   rfl
  .show _=[_,_,_,_,OT.fz (L2.T.int (if c<0\/10^18<=c then(c.natAbs:Int)else 0)),_];rw[ZZ (λz=>z.elim h h')]
   rfl
def Yy:ST:=λts q=>∃a b:Int,ts=[.int a,.int b]/\q (.fz (.int (Int.gcd a b)))
def aiY(T:Tx D):gT 1 SN GP Yy:=ya T.anK λF=>by
 refine F.okT adI (λ_ _=>bG (Ym (bT abb T.abJ boot_sorted (bA (cR (bA (bT JK T.Vf boot_abs (bA wp bC)) (bA (bT JK T.Vf boot_abs (bA wo bC)) bC))) bC)) (ahV (n:=2) rfl (bM (bU (n:=99) 2) (bM (bU (n:=99) 3) cL))))
  (bG (Dk (bW yF wr bF)
  (bI (ajy 2 3 rfl adI.nd wx (bA (bO cW wn wr) (bA wr bC)))))
  (bI (bR wn)))) ?_
 rintro _ R ⟨a,b,rfl,q⟩;refine⟨[(a.natAbs:Int),(b.natAbs:Int)],rfl,by simp,λms pm so=>?_⟩;obtain⟨l,h,rfl,hg⟩ : ∃l h:Nat,ms=[(l:Int),(h:Int)]/\Nat.gcd l h=Int.gcd a b:=by
  have ln:=pm.length_eq
  match ms,ln with
  |[x,y],_ =>
   have hx:x=(a.natAbs:Int)\/x=(b.natAbs:Int):=by simpa using pm.subset (aO ..)
   rcases hx with rfl|rfl
   .have:=(List.perm_cons _).mp pm;have:=List.perm_singleton.mp this;cases this;exact⟨_,_,rfl,rfl⟩
   .have:=(List.perm_cons _).mp (pm.trans (List.Perm.swap _ _ _));have:=List.perm_singleton.mp this;cases this;exact⟨_,_,rfl,Nat.gcd_comm _ _⟩
 refine⟨rfl,λm o=>∃(l h:Nat),o=[.fz (.int a),.fz (.int b),.fz (.int l),.fz (.int h)]/\Nat.gcd l h=Int.gcd a b/\m=l,⟨_,_,_,rfl,hg,rfl⟩,?_⟩;rintro m _ ⟨l,h,rfl,hg,rfl⟩;refine swD (λhl=>?_) λhl=>?_
 .refine⟨λo=>o=[.fz (.int a),.fz (.int b),.fz (.int ((h%m:Nat):Int)),.fz (.int m)],?_,?_⟩
  .rintro _ rfl;exact⟨h%m,Nat.mod_lt _ wv,h%m,m,rfl,(Nat.gcd_rec m h).symm.trans hg,rfl⟩
  .exact⟨hl,by rw[Int.natCast_emod];rfl⟩
 .have:m=0:=by lia
  subst this;rw[Nat.gcd_zero_left]at hg;rw[<- hg]at q;exact q
def Gm:ST:=λts q=>∃a b:Int,ts=[.int a,.int b]/\0<b/\Bd b/\q (.fz (frR (Rat.divInt a b)))
def aaA(T:Tx D):gT 2 Am qg Gm:=ya T.ach λF=>by
 refine F.okT aaZ (λ_ _=>bG (bQ 2 (bJ (aiY T) (bA wp (bA wo bC))))
  (bI (bR (dY (bA (bO oZ wp wr) (bA (bO oZ wo wr) bC)))))) ?_
 rintro _ R ⟨a,b,rfl,hb,hd,q⟩;have nb:b≠0:=by exact WS hb
 have g0:=nT (a:=a) nb;have g1:=Yj (a:=a) nb hd;refine⟨_,_,rfl,⟨by exact WS g0,g1⟩,⟨by exact WS g0,g1⟩,?_⟩;have l:=xQ (t:=a) nb (c:=(Int.gcd a b:Nat)) (WS g0) wv (XZ g0 hb);rw[<- jG l nb]at q;exact q
def aaw(c:Nat):Bool:=decide (97<=c)&&decide (c<=122)
def ltL:zn:=(Str.ofString "abcdefghijklmnopqrstuvwxyz").cps.toList
def ahK:∀i:Fin 26,nth ltL i.val=some (97+i.val):=by decide +kernel
def adV{i:Int}(h0:0<=i)(h1:i<26):ixT ltL i=some (97+i.toNat):=by
 obtain⟨k,rfl⟩:=Int.eq_ofNat_of_zero_le h0;exact ahK ⟨k,by lia⟩
def Yh(h:n<26):aaw (97+n)=true:=by
 unfold aaw;rw[Zs (show 97<=97+n by exact X1 _ _),Zs (show 97+n<=122 by lia)];rfl
def pN(x:Str):x.cps.toList.length=x.length:=Array.length_toList
def Z2(x y:Str):(x++y).cps.toList=x.cps.toList++y.cps.toList:=by
 show(x.cps++y.cps).toList=_;rw[Array.toList_append]
def af8(x y:Str):(x++y).length=x.length+y.length:=by
 show(x.cps++y.cps).size=_;rw[Array.size_append];rfl
def acz : (HY x none (some (n:Int))).cps.toList=x.cps.toList.take n:=by
 unfold HY;have hl:x.cps.toList.length=x.length:=Array.length_toList;show((x.cps.toList.drop 0).take (HT.sIx x.length x.length (some (n:Int))-0))=_;rw[HT.Dv,List.drop_zero,Nat.sub_zero,<- hl];rw[List.take_eq_take_iff];lia
def Ua : (HY x (some (n:Int)) none).cps.toList=x.cps.toList.drop n:=by
 unfold HY;have hl:x.cps.toList.length=x.length:=Array.length_toList;show((x.cps.toList.drop (HT.sIx x.length 0 (some (n:Int)))).take (x.length-HT.sIx x.length 0 (some (n:Int))))=_;rw[HT.Dv,<- hl];by_cases h:n<=x.cps.toList.length
 .rw[Nat.min_eq_left h];exact Zzy (by rw[Ts];exact aG _)
 .rw[T2 (by lia:x.cps.toList.length<=n),T2 wv,List.take_nil]
def YL{ys:List α}{a b:Nat}(ab:a<=b)(h:b<=ys.length):gZ ys (some (a:Int)) (some (b:Int))=(ys.drop a).take (b-a):=by
 unfold gZ;rw[HT.Dv,HT.Dv,Nat.min_eq_left h,Nat.min_eq_left (aL ab h)]
def aha(h:x.cps.toList.all aaw=true)(lo:1<=x.length)(hi:x.length<=8):Wd x:=by
 unfold Wd Y6;rwa[pN,Zs lo,Zs hi]
structure Nms(ns:Φ)(n:Nat):Prop where
 len:ns.length=n
 nd:ns.Nodup
 wd:∀x∈ns,Wd x
def Zj{R:Nat->Str->Prop}(h:∀(i:Nat)x,ns[i]?=some x->R i x)(l:ns.length=n)(u:∀i j x,i<j->j<n->R i x->R j x->False):ns.Nodup:=by
 unfold List.Nodup;rw[List.pairwise_iff_getElem];intro i j hi hj ij e;exact u i j ns[i] ij (l ▸ hj) (h i _ (aj hi)) (by rw[e];exact h j _ (aj hj))
def Oj{g:HG}{c:RT}{e:RE}{q:zh->Prop}(R:Nat->Str->Prop)(n:Nat)(st:∀k,k<n->∀(N:T->Prop)(M:Prop),(∀x,R k x->N (.str x))->g (.int (k:Nat)) o λo'=>c o' λb=>sw b (e o' λy=>N (frz y)) M)(k:∀ns:Φ,ns.length=n->(∀(i:Nat)x,ns[i]?=some x->R i x)->q (ns.map T.str)):ig g c e o (rng 0 n) q:=by
 have go:∀(m j:Nat),j+m=n->∀(us:Φ),us.length=j->(∀(i:Nat)x,us[i]?=some x->R i x)->∀{q:zh->Prop},(∀ns:Φ,ns.length=n->(∀(i:Nat)x,ns[i]?=some x->R i x)->(∃vs,ns=us++vs/\q (vs.map T.str))\/¬∃vs,ns=us++vs)->ig g c e o ((List.range' j m).map λk:Nat=>.int ((0:Int)+k)) q:=by
  intro m
  induction m with
  |zero =>
   intro j ej us lu hu q hq;rcases hq us wv hu with⟨vs,e,z⟩|z
   .have:vs=[]:=by simpa using e
    rw[this]at z;exact z
   .exact absurd ⟨[],(List.append_nil us).symm⟩ z
  |succ m ih =>
   intro j ej us lu hu q hq;rw[List.range'_succ,List.map_cons];refine abe ?_;rw[Int.zero_add];refine st j wv (λt=>ig g c e o ((List.range' (j+1) m).map λk:Nat=>.int ((0:Int)+k)) λus=>q (t::us)) (ig g c e o ((List.range' (j+1) m).map λk:Nat=>.int ((0:Int)+k)) q) λx hx=>?_;refine ih (j+1) wv (us++[x]) (by simp[lu]) (λi y ey=>?_) λns ln hn=>?_
   .by_cases hi:i<us.length
    .rw[aF hi]at ey;exact hu i y ey
    .have hl:=(ao.mp ey).1;rw[aA,List.length_singleton]at hl;have:i=us.length:=by lia
     subst this;rw[aD (aG _),UH]at ey;cases ey;exact lu ▸ hx
   .by_cases z:∃vs,ns=us++[x]++vs
    .obtain⟨vs,e⟩:=z;refine .inl ⟨vs,e,?_⟩;rcases hq ns ln hn with⟨ws,e',q'⟩|z
     .rw[e,Wp]at e';have:=List.append_cancel_left e';rw[<- this]at q';exact q'
     .exact absurd ⟨x::vs,by rw[e,Wp];rfl⟩ z
    .exact .inr z
 have:=go n 0 (U1 _) [] rfl (λi x z=>by cases z) (q:=q) λns ln hn=>.inl ⟨ns,rfl,k ns ln hn⟩;rw[<- List.range_eq_range']at this;exact this
def nm1(c:Nat)(i:Nat)(x:Str):Prop:=x.cps.toList=List.replicate (i+1) c
def nm2(b:zn)(at_:Nat)(x0 st:Int)(i:Nat)(x:Str):Prop:=x.cps.toList=b.take at_++(97+((x0+st*i)%26).toNat)::b.drop at_
def aev{b:zn}{at_:Nat}{x0 st:Int}(hs:st=1\/st=3\/st=5\/st=7\/st=9\/st=11)(ij:i<j)(hj:j<26)(h1:nm2 b at_ x0 st i x)(h2:nm2 b at_ x0 st j x):False:=by
 have e:=h1.symm.trans h2;have e:=List.append_cancel_left e;injection e with e _;rcases hs with rfl|rfl|rfl|rfl|rfl|rfl<;>omega
def ajx{c:Nat}(hc:aaw c=true)(hi:i<8)(h:nm1 c i x):Wd x:=by
 have l:=pN x;rw[h,aN]at l;refine aha ?_ wv wv;rw[h,List.all_eq_true];intro d hd;rwa[(List.mem_replicate.mp hd).2]
def ai8{b:zn}{at_:Nat}{x0 st:Int}(hb:b.all aaw=true)(hl:b.length<=7)(h:nm2 b at_ x0 st i x):Wd x:=by
 have l:=pN x;rw[h,aA,List.length_cons,aY,Ts]at l;refine aha ?_ wv (by omega);rw[h,List.all_eq_true];rw[List.all_eq_true]at hb;intro d hd;rcases Y1.mp hd with hd|hd
 .exact hb d (List.mem_of_mem_take hd)
 .rcases YU.mp hd with rfl|hd
  .exact Yh wv
  .exact hb d (List.mem_of_mem_drop hd)
theorem O1:∀(ys:Φ)(acc:Array Nat),(ys.foldl (λacc p=>acc++(Str.ofString "").cps++p.cps) acc).toList=acc.toList++(ys.map λy=>y.cps.toList).flatten
 |[],acc=>by simp
 |y::ys,acc=>by
  have e0:(Str.ofString "").cps = #[]:=by decide +kernel
  rw[List.foldl_cons,O1 ys,e0,Array.append_empty,Array.toList_append,List.map_cons,List.flatten_cons,Wp]
def glue(ys:Φ):(Txt.join (Str.ofString "") ys).cps.toList=(ys.map λy=>y.cps.toList).flatten:=by
 show((ys.drop 1).foldl (λacc p=>acc++(Str.ofString "").cps++p.cps) (ys.headD Str.empty).cps).toList=_;rw[O1];cases ys with
 |nil=>rfl
 |cons y ys=>rfl
def ahj{c d:RT}{x y z:RS}{E:DT}(b:Bool)(h:∀q:Bool->Prop,q b->ajA c d o q)(hq:sw b (x { E with nx:=z E } o) (y { E with nx:=z E } o)):jF (al8 (ajA c d) x y) z E o:=h (λk=>sw k (x { E with nx:=z E } o) (y { E with nx:=z E } o)) hq
def VH:ST:=λts q=>∃(c:Int)(n:Nat),ts=[.int c,.int (n:Nat)]/\n<=26/\∀ns:Φ,Nms ns n->q (.l1 (ns.map T.str))
def ji{c:Int}(h:k<n:=by decide):ixT ((iV c n).map T.int) (k:Nat)=some (.int (strm c k)):=by
 show nth ((iV c n).map T.int) k=_;rw[vD,aq,aq,VX h];rfl
def adh(T:Tx D):gT 2 Jz zj VH:=ya T.agh λF=>by
 refine F.okT abr (λhr _=>bG (bQ 2 vU)
  (bG (bQ 3 (bJ (aaU T) (bA wp (bA bF bC))))
  (bG (cA (QW.qt (Gi (bW (go_eq hr.units) (bO cW (bK wn bF) bF) bF) (Ax (bW TY wo bF))))
  (bI (bR (cD (bH Bc) wj wj ["_law_k"] (dI T.fu (bA wo bC)) (c7 (i:=0)) b_ (bO cI (bK wn (bO cW (bK we bF) bF)) (bO dh wp bF)))))
  bV)
  (bG (bQ 4 (agr vU (bA (cD (bH Bc) wj wj ["_law_x"] (bZ (mR wn (iD bF) (iD (bO dh bF (bO cW (bK wn bF) bF))))) (c7 (i:=0)) b_ (bK wn (bO cW wp bF))) bC)))
  (bG (bQ 5 (bO cW (bK wn bF) bF))
  (bG (bQ 6 (bK (cR (bA bF (bA bF (bA bF (bA bF (bA bF (bA bF bC))))))) (bO cW (bK wn bF) bF)))
  (bI (bR (cD (bH Bc) wj wj ["_law_k"] (dI T.fu (bA wo bC)) (c7 (i:=0)) b_ (bO dh (bO dh (mR wa Ra (iD (qv 6))) (bK wn (bO cW (bO dh (bK we bF) (bO cI (qv 7) wp)) bF))) (mR wa (iD (qv 6)) Ra))))))))))) ?_
 rintro _ R ⟨c,n,rfl,hn,q⟩;refine⟨c,11,rfl,by decide,?_⟩;have s0:=wg c 0;have s1:=wg c 1;have lL:(Str.ofString "abcdefghijklmnopqrstuvwxyz").length<=sizeLine:=aL (show _<=1000 by decide +kernel) wx;have rl:(rng 0 n).length<=sizeLine:=by rw[rng,ak,WP];exact aL hn wx
 dsimp only;refine ahj (decide (strm c 0%3=1)&&decide ((n:Int)<=8)) (λq hq=>?_) ?_
 .refine⟨_,ji (k:=0),by decide,?_⟩;refine swD (λh=>?_) λh=>?_
  .rw[Zs h,Bool.true_and]at hq;exact hq
  .rw[Zp h,Bool.false_and]at hq;exact hq
 .refine sw2 (λhb=>?_) λhb=>?_
  .simp only[QP,decide_eq_true_eq]at hb;refine⟨⟨by lia,by lia⟩,rl,Oj (nm1 (97+(strm c 1%26).toNat)) n (λk hk N M hN=>?_) λns ln eS=>q ns ⟨ln,Zj eS ln λi j x ij hj h1 h2=>?_,λx hx=>?_⟩⟩
   .refine⟨_,ji (k:=1),by decide,lL,_,adV (Z3 _ wx) (YY _ wx),_,rfl,by lia,by lia,λz hz=>hN z ?_⟩;rw[show((k:Int)+1).toNat=k+1 by lia]at hz;exact hz
   .have:=ZH List.length (h1.symm.trans h2);rw[aN,aN]at this;lia
   .obtain⟨i,hi⟩:=aV hx;have li:=(ao.mp hi).1;exact ajx (Yh wv) wv (eS i x hi)
  .obtain⟨m,em,hm⟩ : ∃m:Nat,strm c 1%8=m/\m<=7:=⟨(strm c 1%8).toNat,by lia,by lia⟩;have ec:gZ ((iV c 11).map L2.T.int) (some 2) (some (2+strm c 1%8))=(((iV c 11).drop 2).take m).map L2.T.int:=by
    rw[em,Ar];have:=YL (ys:=iV c 11) (a:=2) (b:=2+m) (X1 _ _) (by rw[ak,WP];lia);rw[show 2+m-2=m by exact T1 _ _]at this;exact ZH (List.map L2.T.int) this
   have ml:(((iV c 11).drop 2).take m).length=m:=by rw[aY,Ts,ak,WP];lia
   refine⟨_,ji (k:=1),by decide,?_⟩;dsimp only[frz];show(gZ ((iV c 11).map L2.T.int) (some 2) (some (2+strm c 1%8))).length<=sizeLine/\_;rw[ec];have c26:∀x∈((iV c 11).drop 2).take m,0<=x:=λx hx=>by
    obtain⟨k,_,rfl⟩:=YV.mp (List.mem_of_mem_drop (List.mem_of_mem_take hx));exact(wg c k).1
   generalize((iV c 11).drop 2).take m=us at ml c26 ⊢;have e0:(Str.ofString "").length=0:=by decide +kernel
   refine⟨by rw[ak,ml];exact aL hm wx,comp_map L2.T.int (λx=>.str ⟨#[97+(x%26).toNat]⟩) us (λx hx N M hN=>⟨by decide,lL,_,adV (Z3 _ wx) (YY _ wx),hN⟩) ⟨us.map λx=>⟨#[97+(x%26).toNat]⟩,by rw[WU];rfl,?_,?_⟩⟩
   .rw[e0,Nat.mul_zero,Nat.add_zero,WU,show((λx:Str=>x.length) ∘ λx:Int=>(⟨#[97+(x%26).toNat]⟩ : Str))=λ_=>1 from rfl,List.map_const',List.sum_replicate_nat];lia
   have bc:(Txt.join (Str.ofString "") (us.map λx=>(⟨#[97+(x%26).toNat]⟩ : Str))).cps.toList=us.map λx=>97+(x%26).toNat:=by
    rw[glue,WU]
    clear ml c26 ec
    induction us with
    |nil=>rfl
    |cons x us ih=>rw[List.map_cons,List.flatten_cons,ih];rfl
   have bl:(Txt.join (Str.ofString "") (us.map λx=>(⟨#[97+(x%26).toNat]⟩ : Str))).length<=7:=by rw[<- pN,bc,ak];exact aL (WJ ml) hm
   have ba:(us.map λx=>97+(x%26).toNat).all aaw=true:=by
    rw[List.all_eq_true];intro d hd;obtain⟨x,hx,rfl⟩:=YV.mp hd;exact Yh wv
   rw[<- bc]at ba;generalize Txt.join (Str.ofString "") (us.map λx=>(⟨#[97+(x%26).toNat]⟩ : Str))=st at bl ba ⊢
   clear bc
   have s9:=wg c 9;have s10:=wg c 10;obtain⟨ap,eap,nS⟩ : ∃ap:Nat,strm c 9%8=ap/\ap<=7:=⟨(strm c 9%8).toNat,by lia,by lia⟩;obtain⟨sv,es,hs⟩ : ∃sv:Int,ixT [L2.T.int 1,L2.T.int 3,L2.T.int 5,L2.T.int 7,L2.T.int 9,L2.T.int 11] (strm c 10%6)=some (.int sv)/\(sv=1\/sv=3\/sv=5\/sv=7\/sv=9\/sv=11):=by
    obtain e|e|e|e|e|e:strm c 10%6=0\/strm c 10%6=1\/strm c 10%6=2\/strm c 10%6=3\/strm c 10%6=4\/strm c 10%6=5:=by lia
    .exact⟨1,by rw[e];rfl,by decide⟩
    .exact⟨3,by rw[e];rfl,by decide⟩
    .exact⟨5,by rw[e];rfl,by decide⟩
    .exact⟨7,by rw[e];rfl,by decide⟩
    .exact⟨9,by rw[e];rfl,by decide⟩
    .exact⟨11,by rw[e];rfl,by decide⟩
   have z7:(16:Nat)<=sizeLine:=by decide
   refine⟨_,ji (k:=9),by decide,?_⟩;dsimp only[frz];rw[eap];refine⟨_,ji (k:=10),by decide,_,es,⟨by lia,by lia⟩,rl,Oj (nm2 st.cps.toList ap (strm c 0) sv) n (λk hk N M hN=>?_) λns ln eS=>q ns ⟨ln,Zj eS ln λi j x ij hj h1 h2=>aev hs ij (aR hj hn) h1 h2,λx hx=>?_⟩⟩
   .have t1:(HY st none (some (ap:Int))).length<=7:=by rw[<- pN,acz,aY,pN];lia
    have t2:(HY st (some (ap:Int)) none).length<=7:=by rw[<- pN,Ua,Ts,pN];exact aL (Nat.sub_le _ _) bl
    have t3:∀d:Nat,({ cps:=#[d] } : Str).length=1:=λ_=>rfl;refine⟨by exact aL bl wx,_,ji (k:=0),⟨eZ wv,eZ wv⟩,by decide,lL,_,adV (Z3 _ wx) (YY _ wx),by rw[t3];lia,by exact aL bl wx,by rw[af8,t3];lia,hN _ ?_⟩;unfold nm2;rw[Z2,Z2,acz,Ua,Wp];rfl
   .obtain⟨i,hi⟩:=aV hx;exact ai8 ba (by rwa[pN]) (eS i x hi)
def CN(ws:zg)(tp:xz):Rat:=(ws.map λw=>w.2*((tp.getD w.1 0:Int):Rat)).sum
structure BhB(ws:zg)(tp:xz):Prop where
 few:ws.length<=1000
 lt:∀w∈ws,w.1<tp.length
 num:∀w∈ws,Bd w.2.num
 lcm:Bd (dJ 1 (ws.map (·.2)):Nat)
 part:∀t∈tops (dJ 1 (ws.map (·.2))) (ws.map (·.2)),Bd t
 top:∀t∈tp,Bd t
def yE:ST:=λts q=>∃(o:bN)(tp:xz),ts=[ofT o,.lst (tp.map T.int)]/\BhB o.ways tp/\q (.fz (frR (CN o.ways tp)))
theorem RL{B:Nat}(hB:0<B)(tp:xz):∀ws:zg,(∀w∈ws,w.2.den ∣ B)->Rat.divInt ((ws.map λw=>w.2.num*((B/w.2.den:Nat):Int)*tp.getD w.1 0).sum) B=CN ws tp
 |[],_=>by
  show Rat.divInt 0 B=0;exact QR _
 |w::ws,h=>by
  have ih:=RL hB tp ws λx hx=>h x (aJ _ hx);show Rat.divInt (w.2.num*((B/w.2.den:Nat):Int)*tp.getD w.1 0+(ws.map λw=>w.2.num*((B/w.2.den:Nat):Int)*tp.getD w.1 0).sum) B=w.2*((tp.getD w.1 0:Int):Rat)+CN ws tp;rw[<- ih,TR,TR,Rat.intCast_add,XV];have e:((w.2.num*((B/w.2.den:Nat):Int):Int):Rat)/((B:Int):Rat)=w.2:=by
   obtain⟨k,hk⟩:=h w (aO ..);have hd:=w.2.den_pos;rw[show B/w.2.den=k by rw[hk];exact Nat.mul_div_cancel_left _ hd];have eW:k≠0:=λz=>by rw[z]at hk;lia
   rw[<- TR,hk,Qr,Rat.divInt_mul_right wv];exact rd _
  have hb:((B:Int):Rat)≠0:=λz=>by have:=Rat.intCast_eq_zero_iff.mp z;lia
  grind
def aef(ws:List α)(g h:α->Int):((ws.map g).zip ws).map (λp=>p.1*h p.2)=ws.map λw=>g w*h w:=by
 induction ws with
 |nil=>rfl
 |cons w ws ih=>exact ZH (List.cons _) ih
def Kr(T:Tx D):gT 3 rO jB yE:=ya T.Nr λF=>by
 refine F.okT Kv (λ_ _=>bG (bQ 2 (bJ (acw T) (bA (cD (bH jX) j4 j4 ["room","chance"] (bZ (bK wp bF)) (dB (n:=2) (bM (c7 (i:=0)) (bM (c7 (i:=1)) cL))) b_ wo) bC)))
  (bI (bR (bJ (ac7 T) (bA (bT (Xq rfl) T.acQ boot_sum (bA (cD (bH jX) j4 j4 ["part","way"] (BZ T.HB (bA (bK wr bF) (bA (bK wp bF) bC))) (dB (n:=2) (bM (c7 (i:=0)) (bM (c7 (i:=1)) cL))) b_ (bO cI wp (bK wn (bK wo bF)))) bC)) (bA (bK wr bF) bC)))))) ?_
 rintro _ R ⟨o,tp,rfl,h,q⟩;refine⟨by rw[ak];exact aL h.few wx,comp_map nwT (λw=>frR w.2) o.ways (λw hw N M hN=>⟨rfl,hN⟩) ?_⟩;have hB:=iI (o.ways.map (·.2)) UR;refine⟨o.ways.map (·.2),by rw[WU];rfl,by rw[ak];exact h.few,λr hr=>?_,h.lcm,?_⟩
 .obtain⟨w,hw,rfl⟩:=YV.mp hr;exact h.num w hw
 .refine⟨by unfold B_;rw[ak,WH,ak,ak];exact aL (aL (Nat.min_le_right ..) h.few) wx,?_⟩;rw[zip_map];refine comp_map (λp:Int×(Nat×Rat)=>.tup [.int p.1,nwT p.2]) (λp=>.int (p.1*tp.getD p.2.1 0)) _ (λp hp N M hN=>?a) ?b
  case a =>
   have m2:=(UV hp).2;have lt:=h.lt _ m2;have hN:N (.int (p.1*tp.getD p.2.1 0)):=hN;rw[au,aj lt]at hN;exact⟨rfl,_,cZ (aj lt),⟨h.part _ (UV hp).1,h.top _ (aU lt)⟩,hN⟩
  case b =>
   refine⟨((tops (dJ 1 (o.ways.map (·.2))) (o.ways.map (·.2))).zip o.ways).map λp=>p.1*tp.getD p.2.1 0,by rw[WU];rfl,_,_,rfl,by lia,h.lcm,λx y l=>?_⟩;rw[jG l wv];unfold tops;rw[WU,aef o.ways _ λw=>tp.getD w.1 0];have:=RL hB tp o.ways λw hw=>(lU (o.ways.map (·.2))).2 w.2 (YV.mpr ⟨w,hw,rfl⟩);rw[<- this]at q;exact q
open Rw (sg jw iZ cj jK jW Big)
def dw(ws:zg)(x:Nat->Rat):Rat:=(ws.map λw=>w.2*x w.1).sum
def Pu(ws:zg):Rat:=(ws.map (·.2)).sum
theorem dz(w:Nat×Rat)(ws:zg)(x:Nat->Rat):dw (w::ws) x=w.2*x w.1+dw ws x:=rfl
theorem Aq(w:Nat×Rat)(ws:zg):Pu (w::ws)=w.2+Pu ws:=rfl
theorem abQ{M:Rat}{x:Nat->Rat} : ∀{ws:zg},(∀w∈ws,0<=w.2/\x w.1<=M)->dw ws x<=Pu ws*M
 |[],_=>by show(0:Rat)<=0*M;rw[Rat.zero_mul];exact W1
 |w::ws,h=>by
  rw[dz,Aq];have:=abQ (ws:=ws) λv hv=>h v (aJ _ hv);obtain⟨a,b⟩:=h w (aO ..);have:=Rat.mul_le_mul_of_nonneg_left b a
  grind
theorem agQ{m:Nat}{x:Nat->Rat} : ∀{ws:zg},(∀w∈ws,w.1<m)->sg (λj=>uN ws j*x j) m=dw ws x
 |[],_=>by
  show sg (λj=>0*x j) m=0;rw[cj (g:=λ_=>0) λj _=>Rat.zero_mul _,jK]
 |w::ws,h=>by
  rw[dz,<- agQ (m:=m) (ws:=ws) λv hv=>h v (aJ _ hv)];rw[cj (g:=λj=>(if j=w.1 then 1 else 0)*(w.2*x j)+uN ws j*x j) λj _=>?_,jw,jW (v:=λj=>w.2*x j),ZY (h w (aO ..))];show((if w.1=j then w.2 else 0)+uN ws j)*x j=_;by_cases e:w.1=j
  .rw[ZY e,ZY e.symm];grind
  .rw[ZZ e,ZZ (Ne.symm e)];grind
theorem Ry(x:Nat->Rat):∀{m:Nat},0<m->∃i,i<m/\∀j,j<m->x j<=x i
 |0,h=>absurd h (WZ _)
 |1,_=>⟨0,UR,λj hj=>by rw[show j=0 by exact Nat.eq_zero_of_le_zero (VT hj)];exact W1⟩
 |m+2,_=>by
  obtain⟨i,hi,h⟩:=Ry x (m:=m+1) (TH _);by_cases c:x i<=x (m+1)
  .refine⟨m+1,by exact X0 _,λj hj=>?_⟩;by_cases e:j=m+1
   .rw[e];exact W1
   .exact Rat.le_trans (h j (XX (VT hj) e)) c
  .refine⟨i,by exact Tk hi (X0 _),λj hj=>?_⟩;by_cases e:j=m+1
   .rw[e];exact UP (Rat.not_le.mp c)
   .exact h j (XX (VT hj) e)
def ac1{cs:xw}{x:Nat->Rat}(hi:i<cs.length)(h:∀w∈uV (cs.getD i none),w.1<cs.length):sg (λj=>gW s cs i j*x j) cs.length=x i-s*dw (uV (cs.getD i none)) x:=by
 rw[<- agQ h,cj (g:=λj=>(if j=i then 1 else 0)*x j+(-s)*(uN (uV (cs.getD i none)) j*x j)) λj _=>by unfold gW;grind,jw,iZ,jW (v:=x),ZY hi]
 grind
theorem KN(x:Nat->Rat):∀ws:zg,dw ws (λj=>-(x j))=-(dw ws x)
 |[]=>by show(0:Rat)=-0;grind
 |w::ws=>by rw[dz,dz,KN x ws];grind
def aa6(ys:zS)(k:Nat):(((tops (dJ 1 ys) ys).getD k 0:Int):Rat)=ys.getD k 0*((dJ 1 ys:Nat):Rat):=by
 have h:=SM ys k;unfold Rw.vr at h;have hB:=iI ys UR;have n:((((dJ 1 ys:Nat):Int)):Rat)≠0:=λz=>by have:=Rat.intCast_eq_zero_iff.mp z;lia
 have e:((((dJ 1 ys:Nat):Int)):Rat)=((dJ 1 ys:Nat):Rat):=rfl;rw[<- e,<- h];show _=(((tops (dJ 1 ys) ys).getD k 0:Int):Rat)/_*_
 grind
theorem Av(ys:zS):∀ws:zg,CN ws (tops (dJ 1 ys) ys)=dw ws (λk=>ys.getD k 0)*((dJ 1 ys:Nat):Rat)
 |[]=>by show(0:Rat)=0*_;rw[Rat.zero_mul]
 |w::ws=>by
  show w.2*(((tops (dJ 1 ys) ys).getD w.1 0:Int):Rat)+CN ws _=_;rw[Av ys ws,dz,aa6]
  grind
theorem Vs{x z:Nat->Rat} : ∀{ws:zg},(∀w∈ws,x w.1=z w.1)->dw ws x=dw ws z
 |[],_=>rfl
 |w::ws,h=>by rw[dz,dz,h w (aO ..),Vs λv hv=>h v (aJ _ hv)]
theorem S9{x z:Nat->Rat} : ∀{ws:zg},(∀w∈ws,0<=w.2/\x w.1<=z w.1)->dw ws x<=dw ws z
 |[],_=>W1
 |w::ws,h=>by
  rw[dz,dz];have:=S9 (ws:=ws) λv hv=>h v (aJ _ hv);obtain⟨a,b⟩:=h w (aO ..);have:=Rat.mul_le_mul_of_nonneg_left b a
  grind
theorem Cg(x z:Nat->Rat):∀ws:zg,dw ws (λj=>x j-z j)=dw ws x-dw ws z
 |[]=>by show(0:Rat)=0-0;grind
 |w::ws=>by rw[dz,dz,dz,Cg x z ws];grind
def agI{off:zd}(e:pl[i]?=some d):(chO off pl).getD i none=d.bind λd=>(off.getD i [])[d]?:=by
 unfold chO;rw[au,aq,List.getElem?_zipIdx,e];simp
def afE(s:Rat)(cs:xw):xE:=(List.range cs.length).map λi=>(List.range cs.length).map λj=>gW s cs i j
def ao8(s:Rat)(cs:xw):(rowsOf (gW s cs) cs.length).map T.lst=(afE s cs).map KC:=by
 unfold rowsOf afE;rw[WU,WU];refine UX λi _=>?_;show T.lst _=T.lst (List.map frR _);rw[WU]
 rfl
def ah6{off:zd}(h:PlT off pl):(chO off pl).length=off.length:=by unfold chO;rw[ak,U2,h.len]
def aeW{A Q:Nat}{r:zS}(hA:1<=A)(hQ:0<Q)(h:∀c∈r,c.den ∣ Q/\c.num.natAbs<=A*c.den):Big (A*Q) (mZ r):=by
 have hB:=iI r UR;have hd:dJ 1 r ∣ Q:=vQ r (JS _) λc hc=>(h c hc).1;have le:=UZ hQ hd;refine⟨by show(0:Int)<(dJ 1 r:Nat);lia,?_,λt ht=>?_⟩
 .show((dJ 1 r:Nat):Int).natAbs<=A*Q;rw[XT];exact aL le (Zzu _ hA)
 .obtain⟨c,hc,rfl⟩:=YV.mp ht;rw[VV,XT];refine aL (Nat.mul_le_mul_right _ (h c hc).2) ?_;rw[Nat.mul_assoc,Nat.mul_div_cancel' ((lU r).2 c hc)];exact Zzz _ le
def mtS(S:Nat->Bool)(d:zn):Bool:=d.any S
def jn:Bool->xA->(Nat->Bool)->Bool
 |false,ds,S=>ds.any (mtS S)
 |true,ds,S=>decide (0<ds.length)&&ds.all (mtS S)
def Ed : jn false ds S=true↔∃d∈ds,∃r∈d,S r=true:=by simp[jn,mtS,List.any_eq_true]
def Jv : jn true ds S=true↔0<ds.length/\∀d∈ds,∃r∈d,S r=true:=by simp[jn,mtS]
structure Lfp(e:Bool)(m:Nat)(mk:Nat->Bool)(ld:Nat->xA)(S:Nat->Bool):Prop where
 base:∀k,k<m->mk k=true->S k=true
 step:∀k,k<m->jn e (ld k) S=true->S k=true
 least:∀A:Nat->Bool,(∀k,k<m->mk k=true->A k=true)->(∀k,k<m->jn e (ld k) A=true->A k=true)->∀k,k<m->S k=true->A k=true
structure WyO(m:Nat)(o:bN):Prop where
 lt:∀w∈o.ways,w.1<m
 pos:∀w∈o.ways,0<w.2
 one:Pu o.ways=1
theorem agW{M:Rat}{x:Nat->Rat} : ∀{ws:zg},(∀w∈ws,0<w.2/\x w.1<=M)->(∃w∈ws,x w.1<M)->dw ws x<Pu ws*M
 |[],_,e=>by obtain⟨_,z,_⟩:=e;cases z
 |w::ws,h,e=>by
  rw[dz,Aq];obtain⟨p,l⟩:=h w (aO ..);have hs:∀v∈ws,0<v.2/\x v.1<=M:=λv hv=>h v (aJ _ hv);have a:=abQ (ws:=ws) (M:=M) (x:=x) λv hv=>⟨UP (hs v hv).1,(hs v hv).2⟩;by_cases c:x w.1<M
  .have:=Rat.mul_lt_mul_of_pos_left c p
   grind
  .obtain⟨v,hv,lv⟩:=e;rcases YU.mp hv with rfl|hv
   .exact absurd lv c
   .have:=agW hs ⟨v,hv,lv⟩;have:=Rat.mul_le_mul_of_nonneg_left l (UP p)
    grind
section
variable{m:Nat}{o:bN}{x:Nat->Rat}{M:Rat}
def WyO.le(h:WyO m o)(hx:∀w∈o.ways,x w.1<=M):dw o.ways x<=M:=by
 have:=abQ (ws:=o.ways) (M:=M) (x:=x) λv hv=>⟨UP (h.pos v hv),hx v hv⟩;rw[h.one]at this
 grind
def WyO.lt_(h:WyO m o)(hx:∀w∈o.ways,x w.1<=M)(e:∃w∈o.ways,x w.1<M):dw o.ways x<M:=by
 have:=agW (ws:=o.ways) (M:=M) (x:=x) (λv hv=>⟨h.pos v hv,hx v hv⟩) e;rw[h.one]at this
 grind
def WyO.ge(h:WyO m o)(hx:∀w∈o.ways,M<=x w.1):M<=dw o.ways x:=by
 have:=h.le (x:=λk=>-(x k)) (M:=-M) λw hw=>by have:=hx w hw;grind
 rw[KN]at this
 grind
def WyO.gt(h:WyO m o)(hx:∀w∈o.ways,M<=x w.1)(e:∃w∈o.ways,M<x w.1):M<dw o.ways x:=by
 obtain⟨w,hw,l⟩:=e;have:=h.lt_ (x:=λk=>-(x k)) (M:=-M) (λw hw=>by have:=hx w hw;grind) ⟨w,hw,by grind⟩;rw[KN]at this
 grind
end
def ahz(x:Nat->Rat)(h:0<m):∃i,i<m/\∀j,j<m->x i<=x j:=by
 obtain⟨i,hi,k⟩:=Ry (λj=>-(x j)) h;exact⟨i,hi,λj hj=>by have:=k j hj;grind⟩
def aiN(x:Nat->Rat)(L:Nat->Bool)(hk:k<m)(hl:L k=true):∃i,i<m/\L i=true/\∀j,j<m->L j=true->x i<=x j:=by
 obtain⟨b,hb,mx⟩:=Ry x (m:=m) wv;obtain⟨i,hi,h⟩:=ahz (λj=>if L j then x j else x b+1) (m:=m) wv;have hL:L i=true:=by
  cases e:L i with
  |true=>rfl
  |false =>
   have:=h k hk;rw[e,hl]at this;have:=mx k hk
   grind
 refine⟨i,hi,hL,λj hj hj'=>?_⟩;have:=h j hj;rw[hL,hj']at this;exact this
def ldC:xo->xA
 |none=>[]
 |some o=>[o.ways.map (·.1)]
def RW{c:xo}(h:jn false (ldC c) S=true):∃o,c=some o/\∃w∈o.ways,S w.1=true:=by
 obtain⟨d,hd,r,hr,hs⟩:=Ed.mp h;cases c with
 |none=>cases hd
 |some o =>
  cases YR.mp hd;obtain⟨w,hw,rfl⟩:=YV.mp hr;exact⟨o,rfl,w,hw,hs⟩
def Jb{o:bN}{w:Nat×Rat}(hw:w∈o.ways)(h:S w.1=true):jn false (ldC (some o)) S=true:=Ed.mpr ⟨_,YR.mpr rfl,w.1,YV.mpr ⟨w,hw,rfl⟩,h⟩
section
variable{m:Nat}{mk S:Nat->Bool}{c:Nat->xo}
def mp(lf:Lfp false m mk (λk=>ldC (c k)) S)(hw:∀k,k<m->∀o,c k=some o->WyO m o){d:Nat->Rat}(hs:∀k,k<m->mk k=false->S k=true->d k<=dw (uV (c k)) d)(hg:∀k,k<m->mk k=true->d k<=0)(hn:∀k,k<m->S k=false->d k<=0):∀k,k<m->d k<=0:=by
 intro k0 eW;obtain⟨i,hi,io⟩:=Ry d (m:=m) wv;refine Rat.le_trans (io k0 eW) (Rat.not_lt.mp λpos=>?_);have cl:=lf.least (λk=>decide (d k≠d i)) (λk hk e=>Zs (λz=>by have:=hg k hk e;grind)) (λk hk e=>Zs λz=>?_)
 .cases s:S i with
  |true=>exact of_decide_eq_true (cl i hi s) rfl
  |false=>have:=hn i hi s;grind
 .obtain⟨o,ec,w,bv,eT⟩:=RW e;have eT:d w.1≠d i:=of_decide_eq_true eT;have W:=hw k hk o ec;cases g:mk k with
  |true=>have:=hg k hk g;grind
  |false =>
   cases s:S k with
   |true =>
    have le:=hs k hk g s;rw[ec]at le;have le:d k<=dw o.ways d:=le;have lt:=W.lt_ (M:=d i) (x:=d) (λv hv=>io _ (W.lt v hv)) ⟨w,bv,by have:=io _ (W.lt w bv);grind⟩
    grind
   |false=>have:=hn k hk s;grind
structure fJ(m:Nat)(mk:Nat->Bool)(c:Nat->xo)(S:Nat->Bool)(x:Nat->Rat):Prop where
 lf:Lfp false m mk (λk=>ldC (c k)) S
 goal:∀k,k<m->mk k=true->x k=1
 mean:∀k,k<m->mk k=false->S k=true->x k=dw (uV (c k)) x
 no:∀k,k<m->S k=false->x k=0
variable{x:Nat->Rat}
def fJ.nn(h:fJ m mk c S x)(hw:∀k,k<m->∀o,c k=some o->WyO m o):∀k,k<m->0<=x k:=λk hk=>by
 have:=mp h.lf hw (d:=λk=>-(x k)) (λk hk g s=>by rw[KN,<- h.mean k hk g s];exact W1) (λk hk g=>by rw[h.goal k hk g];decide) (λk hk s=>by rw[h.no k hk s];exact W1) k hk
 grind
theorem Ef:∀ws:zg,Pu ws=dw ws λ_=>1
 |[]=>rfl
 |w::ws=>by rw[Aq,dz,Ef ws,Rat.mul_one]
def fJ.le1(h:fJ m mk c S x)(hw:∀k,k<m->∀o,c k=some o->WyO m o):∀k,k<m->x k<=1:=λk hk=>by
 have:=mp h.lf hw (d:=λk=>x k-1) (λk hk g s=>by
  rw[Cg,<- Ef];have e:=h.mean k hk g s;cases ec:c k with
  |none =>
   rw[ec]at e;have e:x k=0:=e;show x k-1<=0-0;rw[e];grind
  |some o =>
   have W:=hw k hk o ec;rw[ec]at e;show x k-1<=dw o.ways x-Pu o.ways;rw[W.one,e];exact W1) (λk hk g=>by rw[h.goal k hk g];grind) (λk hk s=>by rw[h.no k hk s];grind) k hk
 grind
def fJ.pos(h:fJ m mk c S x)(hw:∀k,k<m->∀o,c k=some o->WyO m o):∀k,k<m->S k=true->0<x k:=λk hk s=>by
 have nn:=h.nn hw;refine of_decide_eq_true (h.lf.least (λk=>decide (0<x k)) (λk hk g=>Zs (by rw[h.goal k hk g];decide)) (λk hk e=>Zs ?_) k hk s);obtain⟨o,ec,w,bv,hp⟩:=RW e;have hp:0<x w.1:=of_decide_eq_true hp;have W:=hw k hk o ec;have ws:S w.1=true:=by
  cases z:S w.1 with
  |true=>rfl
  |false=>have:=h.no _ (W.lt w bv) z;grind
 cases g:mk k with
 |true=>rw[h.goal k hk g];decide
 |false =>
  rw[h.mean k hk g (h.lf.step k hk (by rw[ec];exact Jb bv ws)),ec];exact W.gt (M:=0) (x:=x) (λv hv=>nn _ (W.lt v hv)) ⟨w,bv,hp⟩
def fJ.val(h:fJ m mk c S x)(hw:∀k,k<m->∀o,c k=some o->WyO m o)(hk:k<m)(g:mk k=false){o:bN}(ec:c k=some o):x k=dw o.ways x:=by
 cases s:S k with
 |true=>rw[h.mean k hk g s,ec];rfl
 |false =>
  have W:=hw k hk o ec;have z:∀w∈o.ways,x w.1=0:=λw bv=>h.no _ (W.lt w bv) (by
   cases t:S w.1 with
   |false=>rfl
   |true =>
    have:=h.lf.step k hk (by rw[ec];exact Jb bv t);rw[s]at this;cases this)
  rw[h.no k hk s];have a:=W.le (M:=0) (x:=x) λw bv=>by rw[z w bv];exact W1
  have b:=W.ge (M:=0) (x:=x) λw bv=>by rw[z w bv];exact W1
  grind
def aiq(lf:Lfp false m mk (λk=>ldC (c k)) S)(hw:∀k,k<m->∀o,c k=some o->WyO m o)(hx:∀k,k<m->x k=if mk k=false/\S k=true then dw (uV (c k)) x else 0):∀k,k<m->x k=0:=λk hk=>by
 have a:=mp lf hw (d:=x) (λk hk g s=>by rw[hx k hk,ZY ⟨g,s⟩];exact W1) (λk hk g=>by rw[hx k hk,ZZ (by rw[g];exact λz=>Bool.noConfusion z.1)];exact W1) (λk hk s=>by rw[hx k hk,ZZ (by rw[s];exact λz=>Bool.noConfusion z.2)];exact W1) k hk;have b:=mp lf hw (d:=λk=>-(x k)) (λk hk g s=>by rw[KN,hx k hk,ZY ⟨g,s⟩];exact W1) (λk hk g=>by rw[hx k hk,ZZ (by rw[g];exact λz=>Bool.noConfusion z.1)];exact W1) (λk hk s=>by rw[hx k hk,ZZ (by rw[s];exact λz=>Bool.noConfusion z.2)];exact W1) k hk
 grind
end
def bet:Bool->Rat->Rat->Prop
 |false,a,b=>a<b
 |true,a,b=>b<a
structure Turn(e:Bool)(m:Nat)(mk:Nat->Bool)(x:Nat->Rat)(c c':Nat->xo):Prop where
 goal:∀k,k<m->mk k=true->c' k=c k
 none:∀k,k<m->c k=none->c' k=none
 turn:∀k,k<m->mk k=false->∀o,c k=some o->∃p,c' k=some p/\(c' k=c k\/bet e (dw o.ways x) (dw p.ways x))
section
variable{m:Nat}{mk S S':Nat->Bool}{c c':Nat->xo}{off:Nat->xD}{x x':Nat->Rat}
def Turn.le(t:Turn false m mk x c c')(h:fJ m mk c S x)(hw:∀k,k<m->∀o,c k=some o->WyO m o)(hk:k<m)(g:mk k=false){p:bN}(ep:c' k=some p):x k<=dw p.ways x:=by
 cases ec:c k with
 |none=>rw[t.none k hk ec]at ep;cases ep
 |some o =>
  obtain⟨q,eq,z⟩:=t.turn k hk g o ec;rw[ep]at eq;cases eq;rw[h.val hw hk g ec];rcases z with z|z
  .rw[ep,ec]at z;cases z;exact W1
  .exact UP z
def Turn.nought(t:Turn false m mk x c c')(h:fJ m mk c S x)(hw:∀k,k<m->∀o,c k=some o->WyO m o)(dr:∀k,k<m->∀o,c' k=some o->WyO m o)(lf:Lfp false m mk (λk=>ldC (c' k)) S'):∀k,k<m->S' k=false->x k=0:=λk0 eW s0=>by
 obtain⟨i,hi,li,mx⟩:=aiN (λj=>-(x j)) (λj=>!(S' j)) eW (by rw[s0];rfl);have li:S' i=false:=by simpa using li
 have mx:∀j,j<m->S' j=false->x j<=x i:=λj hj sj=>by have:=mx j hj (by rw[sj];rfl);grind
 have nn:=h.nn hw;have a:=mx k0 eW s0;have b:=nn k0 eW;refine Classical.byContradiction λne=>?_;have pos:0<x i:=by grind
 have si:S i=true:=by
  cases z:S i with
  |true=>rfl
  |false=>have:=h.no i hi z;grind
 have cl:=h.lf.least (λk=>S' k || decide (x k≠x i)) (λk hk g=>by rw[lf.base k hk g];rfl) (λk hk e=>?_) i hi si
 .rw[li]at cl;exact of_decide_eq_true (show decide (x i≠x i)=true from cl) rfl
 .obtain⟨o,ec,w,bv,eT⟩:=RW e;cases s:S' k with
  |true=>rfl
  |false =>
   refine Zs λz=>?_;have g:mk k=false:=by
    cases g:mk k with
    |false=>rfl
    |true=>rw[lf.base k hk g]at s;cases s
   obtain⟨p,ep,tp⟩:=t.turn k hk g o ec;have W:=dr k hk p ep;have out:∀w∈p.ways,S' w.1=false:=λw bv=>by
    cases r:S' w.1 with
    |false=>rfl
    |true =>
     have:=lf.step k hk (by rw[ep];exact Jb bv r);rw[s]at this;cases this
   have le:=t.le h hw hk g ep;have up:=W.le (M:=x i) (x:=x) λw bv=>mx _ (W.lt w bv) (out w bv);have v:=h.val hw hk g ec;rcases tp with tp|tp
   .rw[ep,ec]at tp;cases tp;have so:=out w bv;rw[so]at eT;have eT:x w.1≠x i:=of_decide_eq_true (by simpa using eT);have lt:=W.lt_ (M:=x i) (x:=x) (λw bv=>mx _ (W.lt w bv) (out w bv)) ⟨w,bv,by have:=mx _ (W.lt w bv) so;grind⟩
    grind
   .have tp:dw o.ways x<dw p.ways x:=tp
    grind
def Turn.up(t:Turn false m mk x c c')(h:fJ m mk c S x)(h':fJ m mk c' S' x')(hw:∀k,k<m->∀o,c k=some o->WyO m o)(dr:∀k,k<m->∀o,c' k=some o->WyO m o):(∀k,k<m->x k<=x' k)/\∀k,k<m->c' k≠c k->x k<x' k:=by
 have z:=t.nought h hw dr h'.lf;have le:∀k,k<m->x k<=x' k:=λk hk=>by
  have:=mp h'.lf dr (d:=λk=>x k-x' k) (λk hk g s=>by
   rw[Cg,<- h'.mean k hk g s];cases ep:c' k with
   |none =>
    have e:=h'.mean k hk g s;have p:=h'.pos dr k hk s;rw[ep]at e;have e:x' k=0:=e
    grind
   |some p =>
    have:=t.le h hw hk g ep;show x k-x' k<=dw p.ways x-x' k
    grind) (λk hk g=>by rw[h.goal k hk g,h'.goal k hk g];grind) (λk hk s=>by rw[z k hk s,h'.no k hk s];grind) k hk
  grind
 refine⟨le,λk hk ne=>?_⟩;have g:mk k=false:=by
  cases g:mk k with
  |false=>rfl
  |true=>exact absurd (t.goal k hk g) ne
 cases ec:c k with
 |none=>exact absurd ((t.none k hk ec).trans ec.symm) ne
 |some o =>
  obtain⟨p,ep,tp⟩:=t.turn k hk g o ec;have tp:dw o.ways x<dw p.ways x:=tp.resolve_left ne;have W:=dr k hk p ep;rw[h.val hw hk g ec,h'.val dr hk g ep];have:=S9 (ws:=p.ways) (x:=x) (z:=x') λw bv=>⟨UP (W.pos w bv),le _ (W.lt w bv)⟩
  grind
def Turn.down(t:Turn true m mk x c c')(h:fJ m mk c S x)(h':fJ m mk c' S' x')(hw:∀k,k<m->∀o,c k=some o->WyO m o)(dr:∀k,k<m->∀o,c' k=some o->WyO m o):(∀k,k<m->x' k<=x k)/\∀k,k<m->c' k≠c k->x' k<x k:=by
 have nn:=h.nn hw;have go:∀k,k<m->mk k=false->∀p,c' k=some p->dw p.ways x<=x k:=λk hk g p ep=>by
  cases ec:c k with
  |none=>rw[t.none k hk ec]at ep;cases ep
  |some o =>
   obtain⟨q,eq,z⟩:=t.turn k hk g o ec;rw[ep]at eq;cases eq;rw[h.val hw hk g ec];rcases z with z|z
   .rw[ep,ec]at z;cases z;exact W1
   .exact UP z
 have le:∀k,k<m->x' k<=x k:=λk hk=>by
  have:=mp h'.lf dr (d:=λk=>x' k-x k) (λk hk g s=>by
   rw[Cg,<- h'.mean k hk g s];cases ep:c' k with
   |none =>
    have e:=h'.mean k hk g s;have p:=h'.pos dr k hk s;rw[ep]at e;have e:x' k=0:=e
    grind
   |some p =>
    have:=go k hk g p ep;show x' k-x k<=x' k-dw p.ways x
    grind) (λk hk g=>by rw[h.goal k hk g,h'.goal k hk g];grind) (λk hk s=>by rw[h'.no k hk s];have:=nn k hk;grind) k hk
  grind
 refine⟨le,λk hk ne=>?_⟩;have g:mk k=false:=by
  cases g:mk k with
  |false=>rfl
  |true=>exact absurd (t.goal k hk g) ne
 cases ec:c k with
 |none=>exact absurd ((t.none k hk ec).trans ec.symm) ne
 |some o =>
  obtain⟨p,ep,tp⟩:=t.turn k hk g o ec;have tp:dw p.ways x<dw o.ways x:=tp.resolve_left ne;have W:=dr k hk p ep;rw[h.val hw hk g ec,h'.val dr hk g ep];have:=S9 (ws:=p.ways) (x:=x') (z:=x) λw bv=>⟨UP (W.pos w bv),le _ (W.lt w bv)⟩
  grind
structure Best(e:Bool)(m:Nat)(mk:Nat->Bool)(off:Nat->xD)(x:Nat->Rat):Prop where
 ok:∀k,k<m->mk k=false->∀o∈off k,¬bet e (x k) (dw o.ways x)
def ldO(mk:Nat->Bool)(off:Nat->xD)(k:Nat):xA:=if mk k then[]else(off k).map λo=>o.ways.map (·.1)
def adi{S:Nat->Bool}(h:jn true (ldO mk off k) S=true):mk k=false/\off k≠[]/\∀o∈off k,∃w∈o.ways,S w.1=true:=by
 obtain⟨h0,h⟩:=Jv.mp h;unfold ldO at h0 h;cases g:mk k with
 |true=>rw[g,ZY rfl]at h0;cases h0
 |false =>
  rw[g,ZZ wx]at h0 h;refine⟨rfl,(λz=>by rw[z]at h0;cases h0),λo ho=>?_⟩;obtain⟨r,hr,hs⟩:=h _ (YV.mpr ⟨o,ho,rfl⟩);obtain⟨w,bv,rfl⟩:=YV.mp hr;exact⟨w,bv,hs⟩
end
section
variable{m:Nat}{mk S S' F L R:Nat->Bool}{c c':Nat->xo}{off:Nat->xD}{x y:Nat->Rat}
structure PlC(m:Nat)(off:Nat->xD)(c:Nat->xo):Prop where
 mem:∀k,k<m->∀o,c k=some o->o∈off k
 non:∀k,k<m->off k≠[]->∃o,c k=some o
def beats(B:Best false m mk off y)(pc:PlC m off c)(ho:∀k,k<m->∀o∈off k,WyO m o)(h:fJ m mk c S x)(yn:∀k,k<m->0<=y k)(yg:∀k,k<m->mk k=true->y k=1):∀k,k<m->x k<=y k:=λk hk=>by
 have hw:∀k,k<m->∀o,c k=some o->WyO m o:=λk hk o e=>ho k hk o (pc.mem k hk o e);have:=mp h.lf hw (d:=λk=>x k-y k) (λk hk g s=>by
  rw[Cg,<- h.mean k hk g s];cases ep:c k with
  |none =>
   have e:=h.mean k hk g s;have p:=h.pos hw k hk s;rw[ep]at e;have e:x k=0:=e
   grind
  |some p =>
   have:¬y k<dw p.ways y:=B.ok k hk g p (pc.mem k hk p ep);show x k-y k<=x k-dw p.ways y
   grind) (λk hk g=>by rw[h.goal k hk g,yg k hk g];grind) (λk hk s=>by rw[h.no k hk s];have:=yn k hk;grind) k hk
 grind
def stay(ld:Nat->xA)(L:Nat->Bool)(k:Nat):xA:=(ld k).filter λd=>d.all L
end
abbrev blT(l:zi):L2.T:=.lst (l.map L2.T.bl)
abbrev inT(k:Nat):L2.T:=.int (k:Nat)
abbrev ntT(l:zn):L2.T:=.lst (l.map inT)
abbrev uZ(ds:xA):L2.T:=.lst (ds.map ntT)
def mkF(gs:zn)(k:Nat):Bool:=decide (k∈gs)
def mkL(m:Nat)(gs:zn):zi:=(List.range m).map (mkF gs)
def tO(m:Nat)(gs:zn):(mkL m gs).length=m:=by unfold mkL;rw[ak,WP]
def agt{g:Nat} : (mkL m gs).set g true=mkL m (gs++[g]):=by
 unfold mkL mkF;refine UQ (by rw[VZ,ak,ak]) λk h1 h2=>?_;rw[List.getElem_set,VW,Tu,VW,Tu];by_cases e:g=k
 .rw[ZY e,e];exact(Zs wf).symm
 .rw[ZZ e];exact decide_eq_decide.mpr (by simp;intro z;exact absurd z.symm e)
def nM(D:Adr):ST:=λts q=>∃(s:Rat)(ns:Φ)(off:zd)(gs:zn),ts=[hlT D s ns off,ntT gs]/\Nf ns off/\(∀g∈gs,g<ns.length)/\q (.l1 ((mkL ns.length gs).map L2.T.bl))
def Mw(T:Tx D):gT 3 kh eV (nM D):=ya T.Ph λF=>by
 refine F.okT M9 (λ_ _=>bG (gK 2 (bO cI (cR (bA g_ bC)) (xY wp T.iK T.pY (Sy T) (KS:=jN))))
  (bG (cY (bZ wo) (bU (n:=99) 3)
  (bG (mX (wO wp T.iK T.qY (Mr T) (bA wn bC) (KS:=jN)))
  (bI (uo 2 g_ wn))))
  (bI (iu 2)))) ?_
 rintro _ R ⟨s,ns,off,gs,rfl,h,hg,q⟩;have few:=h.few;refine⟨⟨rfl,rfl⟩,s,ns,off,rfl,⟨by lia,by lia,by show 1*_<=_;exact aL (show _<=1000 by lia) wx⟩,λz hz=>?_⟩;have hz:z=(mkL ns.length []).map L2.T.bl:=by
  rw[hz,show((List.replicate (((ns.length:Nat):Int)).toNat [frz (OT.fz (L2.T.bl false))]).flatten)=List.replicate ns.length (L2.T.bl false)from List.flatten_replicate_singleton];unfold mkL;rw[WU];refine UQ (by rw[aN,ak,WP]) λk h1 h2=>?_;rw[List.getElem_replicate,VW]
  rfl
 rw[hz];refine dW inT gs (λas o=>∃x,o=[.fz (hlT D s ns off),.fz (ntT gs),.l1 ((mkL ns.length as).map L2.T.bl),x]) ⟨_,rfl⟩ ?_ ?_
 .rintro as g bs _ e ⟨x,rfl⟩;have lt:g<ns.length:=hg g (by rw[e];simp);refine⟨⟨rfl,rfl⟩,s,ns,off,g,rfl,lt,g,?_,.fz (inT g),?_⟩
  .unfold ixN;rw[ak,tO,ZY (X9 _),ZY wv]
   rfl
  .rw[<- agt,Th]
   rfl
 .rintro _ ⟨x,rfl⟩;exact q
abbrev mkG(mk:zi)(k:Nat):Bool:=mk.getD k false
abbrev Ah(off:zd)(k:Nat):xD:=off.getD k []
def ldL(mk:zi)(off:zd):xI:=(List.range mk.length).map (ldO (mkG mk) (Ah off))
def Hw(D:Adr):ST:=λts q=>∃(s:Rat)(ns:Φ)(off:zd)(mk:zi),ts=[hlT D s ns off,blT mk]/\Nf ns off/\mk.length=ns.length/\(∀ds∈off,∀o∈ds,o.ways.length<=1000)/\q (.l1 ((ldL mk off).map uZ))
def UW(T:Tx D):gT 4 yO oV (Hw D):=ya T.WR λ{f fd}F=>by
 refine F.okT Ut (λ_ _=>bG (gK 2 (cR bC))
  (bG (cY (pU T.gF (bA wo bC)) (dB (n:=2) (bM (bU (n:=99) 3) (bM (bU (n:=99) 4) cL)))
  (bG (bQ 5 (FJ (cF we) (cR bC) (wO wp T.iK T.jA (aao T) (bA wn bC) (KS:=jN))))
  (bI (uh 2 (cD (bH qR) q_ q_ ["offer"] (bZ wa) (c7 (i:=0)) b_ (Qm (bH qR) ("offer"::q_) ("offer"::q_) ["behind","chance"] (bZ (bK wp bF)) (dB (n:=2) (bM (c7 (i:=0)) (bM (c7 (i:=1)) cL))) b_ wp))))))
  (bI (iu 2)))) ?_
 rintro _ R ⟨s,ns,off,mk,rfl,h,ml,fw,q⟩;have few:=h.few;refine qm L2.T.bl mk (λk o=>∃x y z,o=[.fz (hlT D s ns off),.fz (blT mk),.l1 ((List.range k).map λj=>uZ (ldO (mkG mk) (Ah off) j)),x,y,z]) ⟨.und,.und,.und,rfl⟩ ?_ ?_
 .rintro k b _ e ⟨x,y,z,rfl⟩;have km:k<mk.length:=(ao.mp e).1;have lk:k<off.length:=by have:=h.len;lia
  have ek:=aj lk;have eg:mkG mk k=b:=by show mk.getD k false=b;rw[au,e];rfl
  have eo:Ah off k=off[k]:=by show off.getD k []=_;rw[au,ek];rfl
  have fd:=h.fews _ (aU lk);have lm:((List.range k).map λj=>uZ (ldO (mkG mk) (Ah off) j)).length<sizeLine:=by rw[ak,WP];exact aR (show _<1001 by lia) wx
  refine⟨rfl,?_⟩;dsimp only[ag7,hName,amH];refine sq1 (λo=>o=[.fz (hlT D s ns off),.fz (blT mk),.l1 ((List.range k).map λj=>uZ (ldO (mkG mk) (Ah off) j)),.fz (inT k),.fz (.bl b),.fz (.lst ((if b then[]else off[k]).map ofT))]) ?_ λY hY=>?_
  .rintro _ rfl;have om:∀o∈(if b then[]else off[k]),o∈off[k]:=λo ho=>by
    cases b with
    |true=>cases ho
    |false=>exact ho
   refine⟨by rw[ak];refine aL (show _<=1000 from ?_) wx;cases b;exact fd;exact aZ _,comp_map ofT (λo=>ntT (o.ways.map (·.1))) _ (λo ho N M hN=>?_) ⟨lm,.fz (inT k),.fz (.bl b),.fz (.lst ((if b then[]else off[k]).map ofT)),?_⟩⟩
   .refine⟨by rw[ak];exact aL (fw _ (aU lk) o (om o ho)) wx,comp_map nwT (λw=>inT w.1) o.ways (λw hw N M hN=>⟨rfl,hN⟩) ?_⟩;rw[show ntT (o.ways.map (·.1))=.lst (o.ways.map λw=>inT w.1)by unfold ntT;rw[WU];rfl]at hN;exact hN
   .rw[List.range_succ,bf];show _=[_,_,OT.l1 (_++[uZ (ldO (mkG mk) (Ah off) k)]),_,_,_];unfold ldO;rw[eg,eo];cases b with
    |true=>rfl
    |false =>
     show _=[_,_,OT.l1 (_++[L2.T.lst ((off[k].map λo=>o.ways.map (·.1)).map ntT)]),_,_,_];rw[WU]
     rfl
  .cases b with
   |true=>exact hY _ rfl
   |false=>exact⟨⟨rfl,rfl⟩,s,ns,off,k,_,rfl,h,ek,hY _ rfl⟩
 .rintro _ ⟨x,y,z,rfl⟩;unfold ldL at q;rw[WU]at q;exact q
def dO(st:zb)(k:Nat):Bool:=(st.getD k none).isSome
def Ei:ST:=λts q=>∃(d:zn)(st:zb),ts=[ntT d,.lst (st.map dT)]/\d.length<=1000/\(∀r∈d,r<st.length)/\q (.fz (.bl (mtS (dO st) d)))
def acv(T:Tx D):gT 1 yI qI Ei:=ya T.aeA λF=>by
 refine F.okT aci (λ_ _=>bI (bR (bT (Xl rfl) T.abI boot_any (bA (cD (bH Jk) Rg Rg ["room"] (bZ wp) (c7 (i:=0)) b_ (qw Ds (bK wr wp) eE)) bC)))) ?_;rintro _ R ⟨d,st,rfl,few,hd,q⟩;refine⟨by rw[ak];exact aL few wx,comp_map inT (λr=>.bl (dO st r)) d (λr hr N M hN=>?_) ⟨d.map (dO st),by rw[WU];rfl,?_⟩⟩
 .have lr:=hd r hr;have er:=aj lr;refine⟨_,cZ er,?_⟩;have hN:N (.bl ((st.getD r none).isSome)):=hN;rw[au,er]at hN;cases e:st[r]with
  |none=>rw[e]at hN;exact hN
  |some n=>rw[e]at hN;exact hN
 .show R (.fz (.bl ((d.map (dO st)).any λb=>b)));rwa[UK]
def nmJ:Bool->Str
 |false=>rR
 |true=>rW
def oA(e:Bool):ST:=λts q=>∃(ds:xA)(st:zb),ts=[uZ ds,.lst (st.map dT)]/\ds.length<=1000/\(∀d∈ds,d.length<=1000/\∀r∈d,r<st.length)/\q (.fz (.bl (jn e ds (dO st))))
def XD(T:Tx D):gT 2 rR m9 (oA false):=ya T.abg λF=>by
 refine F.okT Yr (λ_ _=>bI (bR (bT (Xl rfl) T.abI boot_any (bA (cD (bH Al) Hl Hl ["door"] (bZ wp) (c7 (i:=0)) b_ (bJ (acv T) (bA wp (bA wr bC)))) bC)))) ?_;rintro _ R ⟨ds,st,rfl,few,hd,q⟩;refine⟨by rw[ak];exact aL few wx,comp_map ntT (λd=>.bl (mtS (dO st) d)) ds (λd hm N M hN=>⟨d,st,rfl,(hd d hm).1,(hd d hm).2,hN⟩) ⟨ds.map (mtS (dO st)),by rw[WU];rfl,?_⟩⟩;show R (.fz (.bl ((ds.map (mtS (dO st))).any λb=>b)));rwa[UK]
def XH(T:Tx D):gT 2 rW nJ (oA true):=ya T.abk λF=>by
 refine F.okT Wo (λ_ _=>bI (bR (G6 (qw yF (bT cQ T.dU WG (bA wp bC)) bF) (G3 (bT (Xb rfl) T.acW boot_all (bA (cD (bH Aw) Gg Gg ["door"] (bZ wp) (c7 (i:=0)) b_ (bJ (acv T) (bA wp (bA wr bC)))) bC)))))) ?_;rintro _ R ⟨ds,st,rfl,few,hd,q⟩;have q:R (.fz (.bl (decide (0<ds.length)&&ds.all (mtS (dO st))))):=q;by_cases c:0<ds.length
 .rw[Zs c]at q;refine swT (Zs (by rw[ak];lia)) ⟨by rw[ak];exact aL few wx,comp_map ntT (λd=>.bl (mtS (dO st) d)) ds (λd hm N M hN=>⟨d,st,rfl,(hd d hm).1,(hd d hm).2,hN⟩) ⟨ds.map (mtS (dO st)),by rw[WU];rfl,?_⟩⟩;show R (.fz (.bl ((ds.map (mtS (dO st))).all λb=>b)));rwa[List.all_map]
 .rw[Zp c]at q;exact swF (Zp (by rw[ak];lia)) q
abbrev ldG(ld:xI)(k:Nat):xA:=ld.getD k []
structure Steps(e:Bool)(mk:zi)(ld:xI)(st:zb):Prop where
 len:st.length=mk.length
 zero:∀k,k<mk.length->(st.getD k none=some 0↔mkG mk k=true)
 lf:Lfp e mk.length (mkG mk) (ldG ld) (dO st)
structure LdB(m:Nat)(ld:xI):Prop where
 len:ld.length=m
 few:∀ds∈ld,ds.length<=1000
 ok:∀ds∈ld,∀d∈ds,d.length<=1000/\∀r∈d,r<m
def yu(mg:Str->Ω):ST:=λts q=>∃(e:Bool)(v:Addr)(mk:zi)(ld:xI),ts=[blT mk,.lst (ld.map uZ),.val (.ref v)]/\mg (nmJ e)=some (.ref v)/\mk.length<=100/\LdB mk.length ld/\∀st:zb,Steps e mk ld st->q (.l1 (st.map dT))
def cnt(S:Nat->Bool):Nat->Nat
 |0=>0
 |n+1=>cnt S n+if S n then 0 else 1
theorem XR{S S':Nat->Bool} : ∀{n:Nat},(∀k,k<n->S k=true->S' k=true)->cnt S' n<=cnt S n
 |0,_=>aG _
 |n+1,h=>by
  have a:=XR (n:=n) λk hk=>h k (WV _ hk);have b:=h n (X0 _);show cnt S' n+(if S' n then 0 else 1)<=cnt S n+if S n then 0 else 1;cases e:S n with
  |true=>rwa[b e]
  |false=>refine Nat.add_le_add a ?_;split<;>simp
theorem Xr{S S':Nat->Bool}{k:Nat}(s:S k=false)(s':S' k=true):∀{n:Nat},k<n->(∀k,k<n->S k=true->S' k=true)->cnt S' n<cnt S n
 |0,hk,_=>absurd hk (WZ _)
 |n+1,hk,h=>by
  show cnt S' n+(if S' n then 0 else 1)<cnt S n+if S n then 0 else 1;by_cases c:k=n
  .subst c;have a:=XR (n:=k) λj hj=>h j (Tk hj hk);rw[s,s'];show cnt S' k+0<cnt S k+1;lia
  .have a:=Xr s s' (n:=n) (XX (VT hk) c) λj hj=>h j (WV _ hj);have b:=h n (X0 _);cases e:S n with
   |true=>rwa[b e]
   |false=>exact aR (Nat.add_lt_add_right a _) (Nat.add_le_add_left (by split<;>simp) _)
def stU(st:zb)(cm:zn)(n:Nat):zb:=st.zipIdx.map λp=>if p.2∈cm then some n else p.1
def pQ : (stU st cm n).length=st.length:=by unfold stU;rw[ak,U2]
def Q6(hk:k<st.length):(stU st cm n).getD k none=if k∈cm then some n else st.getD k none:=by
 unfold stU;rw[au,aq,aj (show k<st.zipIdx.length by rwa[U2]),Q2,au,aj hk];show(if 0+k∈cm then some n else st[k])=_;rw[U1]
 rfl
def YS : stU st [] n=st:=by
 refine UQ (by rw[pQ]) λk h1 h2=>?_;have:=Q6 (cm:=[]) (n:=n) h2;rw[au,aj h1,au,aj h2,ZZ wf]at this;exact this
def abp{r:Nat} : (stU st cm n).set r (some n)=stU st (cm++[r]) n:=by
 refine UQ (by rw[VZ,pQ,pQ]) λk h1 h2=>?_;have hk:k<st.length:=by rw[pQ]at h2;exact h2
 have a:=Q6 (cm:=cm) (n:=n) hk;have b:=Q6 (cm:=cm++[r]) (n:=n) hk;rw[au,aj (by rwa[pQ])]at a b;rw[List.getElem_set];have a:(stU st cm n)[k]'(by rwa[pQ])=_:=a;have b:(stU st (cm++[r]) n)[k]'(by rwa[pQ])=_:=b;rw[a,b];by_cases e:r=k
 .rw[ZY e,ZY (by simp[e])]
 .rw[ZZ e];by_cases c:k∈cm
  .rw[ZY c,ZY (UU _ c)]
  .rw[ZZ c,ZZ (by simp[c];exact λz=>e z.symm)]
structure SI(e:Bool)(mk:zi)(ld:xI)(st:zb)(cm:zn):Prop where
 len:st.length=mk.length
 zero:∀k,k<mk.length->(st.getD k none=some 0↔mkG mk k=true)
 low:∀A:Nat->Bool,(∀k,k<mk.length->mkG mk k=true->A k=true)->(∀k,k<mk.length->jn e (ldG ld k) A=true->A k=true)->∀k,k<mk.length->dO st k=true->A k=true
 fin:cm=[]->∀k,k<mk.length->jn e (ldG ld k) (dO st)=true->dO st k=true
def Jq{e:Bool}{A:Nat->Bool}(h:∀d∈ds,∀r∈d,S r=true->A r=true)(hj:jn e ds S=true):jn e ds A=true:=by
 cases e with
 |false =>
  obtain⟨d,hd,r,hr,hs⟩:=Ed.mp hj;exact Ed.mpr ⟨d,hd,r,hr,h d hd r hr hs⟩
 |true =>
  obtain⟨a,b⟩:=Jv.mp hj;exact Jv.mpr ⟨a,λd hd=>let⟨r,hr,hs⟩:=b d hd;⟨r,hr,h d hd r hr hs⟩⟩
def aoG{e:Bool} : jn e ds (λ_=>false)=false:=by
 cases h:jn e ds (λ_=>false)with
 |false=>rfl
 |true =>
  cases e with
  |false=>obtain⟨d,hd,r,hr,hs⟩:=Ed.mp h;cases hs
  |true =>
   obtain⟨a,b⟩:=Jv.mp h;cases ds with
   |nil=>cases a
   |cons d ds=>obtain⟨r,hr,hs⟩:=b d (aO ..);cases hs
def adW{ld:xI}(h:LdB m ld){d:zn}(hd:d∈ldG ld k):d.length<=1000/\∀r∈d,r<m:=by
 have hd:d∈ld.getD k []:=hd;rw[au]at hd;cases e:ld[k]? with
 |none=>rw[e]at hd;cases hd
 |some ds=>rw[e]at hd;exact h.ok ds (aC e) d hd
def cmP(e:Bool)(ld:xI)(st:zb):zn:=(ld.zipIdx.filter λp=>(st.getD p.2 none).isNone&&jn e p.1 (dO st)).map (·.2)
def Fd{e:Bool}{ld:xI}(hl:LdB m ld) : k∈cmP e ld st↔k<m/\dO st k=false/\jn e (ldG ld k) (dO st)=true:=by
 unfold cmP;constructor
 .intro h;obtain⟨p,hp,rfl⟩:=YV.mp h;obtain⟨hp,hb⟩:=List.mem_filter.mp hp;obtain⟨h1,h2,h3⟩:=List.mem_zipIdx hp;rw[U1]at h2;have h3':p.1=ld[p.2]'h2:=by rw[h3];congr 1
  obtain⟨a,b⟩:=Bool.and_eq_true_iff.mp hb;refine⟨by rw[<- hl.len];exact h2,?_,?_⟩
  .unfold dO;cases z:st.getD p.2 none with
   |none=>rfl
   |some n=>rw[z]at a;cases a
  .show jn e (ld.getD p.2 []) _=_;rwa[au,aj h2,<- h3']
 .rintro⟨hk,a,b⟩;have hk:k<ld.length:=by rwa[hl.len]
  refine YV.mpr ⟨(ld[k],k),List.mem_filter.mpr ⟨?_,?_⟩,rfl⟩
  .have:=aU (l:=ld.zipIdx) (n:=k) (by rwa[U2]);rw[Q2,U1]at this;exact this
  .have b:jn e (ld.getD k []) (dO st)=true:=b;rw[au,aj hk]at b;unfold dO at a;refine Bool.and_eq_true_iff.mpr ⟨?_,b⟩;cases z:st.getD k none with
   |none=>rfl
   |some n=>rw[z]at a;cases a
def SI.next{e:Bool}{ld:xI}(h:SI e mk ld st cm)(hl:LdB mk.length ld):SI e mk ld (stU st (cmP e ld st) (n+1)) (cmP e ld st)/\(cmP e ld st≠[]->cnt (dO (stU st (cmP e ld st) (n+1))) mk.length<cnt (dO st) mk.length)/\cnt (dO (stU st (cmP e ld st) (n+1))) mk.length<=cnt (dO st) mk.length:=by
 have at_:∀k,k<mk.length->(stU st (cmP e ld st) (n+1)).getD k none=if k∈cmP e ld st then some (n+1)else st.getD k none:=λk hk=>Q6 (by rwa[h.len]);have k4:∀k,k<mk.length->dO (stU st (cmP e ld st) (n+1)) k=(decide (k∈cmP e ld st) || dO st k):=λk hk=>by
  unfold dO;rw[at_ k hk];by_cases c:k∈cmP e ld st
  .rw[ZY c,Zs c];rfl
  .rw[ZZ c,Zp c];rfl
 have up:∀k,k<mk.length->dO st k=true->dO (stU st (cmP e ld st) (n+1)) k=true:=λk hk s=>by rw[k4 k hk,s,Bool.or_true]
 refine⟨⟨by rw[pQ,h.len],λk hk=>?_,λA a b k hk s=>?_,λz k hk hj=>?_⟩,λne=>?_,XR up⟩
 .rw[at_ k hk];by_cases c:k∈cmP e ld st
  .rw[ZY c];obtain⟨_,s,_⟩:=(Fd hl).mp c;refine⟨λz=>(nomatch z),λg=>?_⟩;have:=(h.zero k hk).mpr g;unfold dO at s;rw[this]at s;cases s
  .rw[ZZ c];exact h.zero k hk
 .rw[k4 k hk]at s;rcases Bool.or_eq_true_iff.mp s with s|s
  .obtain⟨_,_,j⟩:=(Fd hl).mp (of_decide_eq_true s);exact b k hk (Jq (λd hd r hr sr=>h.low A a b r ((adW hl hd).2 r hr) sr) j)
  .exact h.low A a b k hk s
 .rw[z,YS]at hj ⊢;cases s:dO st k with
  |true=>rfl
  |false =>
   have:=(Fd (e:=e) (st:=st) hl).mpr ⟨hk,s,hj⟩;rw[z]at this;cases this
 .obtain⟨k,hk⟩ : ∃k,k∈cmP e ld st:=by
   cases c:cmP e ld st with
   |nil=>exact absurd c ne
   |cons k l=>exact⟨k,aO ..⟩
  obtain⟨km,s,_⟩:=(Fd hl).mp hk;exact Xr s (by rw[k4 k km,Zs hk];rfl) km up
def Ub(T:Tx D):gT 3 sV lM (yu mg):=ya T.Yi λF=>by
 refine F.okU yH λag A outer s H E hr nd=>?_;have GV:∀b,∃ps,gT 2 (nmJ b) ps (oA b):=λb=>by
  cases b
  .exact⟨_,(XD T)⟩
  .exact⟨_,(XH T)⟩
 refine⟨_,(bG (gK 3 (cD (bH m5) qD qD ["mark"] (bZ wp) (c7 (i:=0)) b_ (FJ (cF wp) bF eE)))
  (bG (i_ (bH m5) qD ["marks","leads","joins","steps","coming","many","?room"] ["room","mark"] (pU T.gF (bA wp bC)) (dB (n:=2) (bM (c7 (i:=0)) (bM (c7 (i:=1)) cL))) (DK (cF wo)) wp (gB (i:=4) yH.nd rfl (Or.inl rfl)))
  (bG (bQ 5 bF)
  (bG (Dk (bW yF (bT cQ T.dU WG (bA we bC)) bF)
  (bG (aeg 5 adb bF)
  (bG (i_ (bH m5) qD ["marks","leads","joins","steps","coming","many","?room"] ["room","doors"] (pU T.gF (bA wo bC)) (dB (n:=2) (bM (c7 (i:=0)) (bM (c7 (i:=1)) cL))) (DK (QW.qt (Gi (bW qU (wV 5 wp) eE) (Ax (QH 5 (cF (Pj 5 (T5 (mg:=mg) (k:=2) (nm:=nmJ) (S:=oA) 4 GV hr.md (bA wo (bA wa bC)))))))))) wp (gB (i:=4) yH.nd rfl (Or.inl rfl)))
  (bI (cY (bZ we) (bU (n:=99) 6)
  (bI (uo 3 wa (qv 6))))))))
  (bI (iu 3)))))),?_⟩
 rintro _ R ⟨e,v,mk,ld,rfl,hv,m1,hl,q⟩;have few:∀{α:Type}{l:List α},l.length<=mk.length->l.length<=sizeLine:=λ{α l}h=>aL h (aL m1 wx);have c0:∀k,k<mk.length->(mk.map λb=>if b then some 0 else none).getD k none=if mkG mk k then some 0 else none:=λk hk=>by
  show _=if mk.getD k false then some 0 else none;rw[au,aq,au,aj hk]
  rfl
 have s0:∀k,k<mk.length->dO (mk.map λb=>if b then some 0 else none) k=mkG mk k:=λk hk=>by
  unfold dO;rw[c0 k hk];cases mkG mk k<;>rfl
 have i0:SI e mk ld (mk.map λb=>if b then some 0 else none) ((mk.zipIdx.filter (·.1)).map (·.2)):=by
  refine⟨ak ..,λk hk=>?_,λA a b k hk s=>a k hk (by rw[<- s0 k hk];exact s),λz k hk hj=>?_⟩
  .rw[c0 k hk];cases mkG mk k with
   |true=>exact⟨λ_=>rfl,λ_=>rfl⟩
   |false=>exact⟨λz=>(nomatch z),λz=>(nomatch z)⟩
  .have no:∀r,r<mk.length->mkG mk r=false:=λr hr=>by
    cases g:mkG mk r with
    |false=>rfl
    |true =>
     have g:mk.getD r false=true:=g;rw[au,aj hr]at g;have:r∈(mk.zipIdx.filter (·.1)).map (·.2):=YV.mpr ⟨(mk[r],r),List.mem_filter.mpr ⟨by
      have:=aU (l:=mk.zipIdx) (n:=r) (by rwa[U2]);rw[Q2,U1]at this;exact this,g⟩,rfl⟩
     rw[z]at this;cases this
   have:=Jq (A:=λ_=>false) (λd hd r hr sr=>by
    have lr:=(adW hl hd).2 r hr;rw[s0 r lr,no r lr]at sr;cases sr) hj
   rw[aoG]at this;cases this
 refine⟨few (by rw[ak];exact aG _),comp_map L2.T.bl (λb=>dT (if b then some 0 else none)) mk (λb _ N M hN=>by cases b<;>exact hN) ?_⟩;rw[show(mk.map λb=>dT (if b then some 0 else none))=(mk.map λb=>if b then some 0 else none).map dT by rw[WU];rfl];show(tD (mk.map L2.T.bl)).length<=sizeLine/\ig _ _ _ _ (tD (mk.map L2.T.bl)) _;rw[K1];refine⟨few (by rw[ak,U2];exact aG _),jC (λp:Bool×Nat=>.tup [.int (p.2:Nat),.bl p.1]) (·.1) (λp=>inT p.2) mk.zipIdx (λp _ N M h1 h2=>⟨rfl,sw2 h1 h2⟩) ?_⟩;generalize mk.map (λb=>if b then some 0 else none)=st0 at i0 ⊢;rw[show((mk.zipIdx.filter (·.1)).map λp=>inT p.2)=((mk.zipIdx.filter (·.1)).map (·.2)).map inT by rw[WU];rfl];generalize(mk.zipIdx.filter (·.1)).map (·.2)=cm0 at i0 ⊢;refine⟨λn o=>∃(st:zb)(cm:zn)(eC:Nat)(x:OT),o=[.fz (blT mk),.fz (.lst (ld.map uZ)),.fz (.val (.ref v)),.l1 (st.map dT),.fz (ntT cm),.fz (inT eC),x]/\SI e mk ld st cm/\n=cnt (dO st) mk.length+if cm=[]then 0 else 1,⟨_,st0,cm0,0,.und,rfl,i0,rfl⟩,?_⟩;rintro n _ ⟨st,cm,eC,x,rfl,hi,rfl⟩;refine swD (λhc=>?_) λhc=>?_
 .have ne:cm≠[]:=λz=>by rw[z]at hc;exact absurd hc wx
  obtain⟨i1,i2,i3⟩:=hi.next (n:=eC) hl;refine⟨λo=>∃x,o=[.fz (blT mk),.fz (.lst (ld.map uZ)),.fz (.val (.ref v)),.l1 ((stU st (cmP e ld st) (eC+1)).map dT),.fz (ntT (cmP e ld st)),.fz (inT (eC+1)),x],?_,?_⟩
  .rintro _ ⟨x,rfl⟩;refine⟨_,?_,_,_,_,x,rfl,i1,rfl⟩;rw[ZZ ne];by_cases c:cmP e ld st=[]
   .rw[ZY c];lia
   .rw[ZZ c];have:=i2 c;exact Nat.succ_lt_succ this
  .show(tD (ld.map uZ)).length<=sizeLine/\ig _ _ _ _ (tD (ld.map uZ)) _;rw[K1];refine⟨few (by rw[ak,U2,hl.len];exact aG _),jC (λp:List zn×Nat=>.tup [.int (p.2:Nat),uZ p.1]) (λp=>(st.getD p.2 none).isNone&&jn e p.1 (dO st)) (λp=>inT p.2) ld.zipIdx (λp hp N M h1 h2=>⟨rfl,?_⟩) ?_⟩
   .obtain⟨_,lp,ep⟩:=List.mem_zipIdx hp;rw[U1]at lp;have ls:p.2<st.length:=by rwa[hi.len,<- hl.len]
    have es:=aj ls;have pm:p.1∈ld:=by rw[ep];exact aU _
    refine⟨_,cZ es,?_⟩;rw[au,es]at h1 h2;cases z:st[p.2]with
    |some k=>rw[z]at h2;exact h2 rfl
    |none =>
     rw[z]at h1 h2;refine⟨e,hv,p.1,st,rfl,hl.few _ pm,λd hd=>⟨(hl.ok _ pm d hd).1,λr hr=>by rw[hi.len];exact(hl.ok _ pm d hd).2 r hr⟩,?_⟩;exact⟨trivial,sw2 (λz=>h1 (by rw[z];rfl)) λz=>h2 (by rw[z];rfl)⟩
   .rw[show((ld.zipIdx.filter λp=>(st.getD p.2 none).isNone&&jn e p.1 (dO st)).map λp=>inT p.2)=(cmP e ld st).map inT by unfold cmP;rw[WU];rfl];refine dW inT (cmP e ld st) (λas o=>∃x,o=[.fz (blT mk),.fz (.lst (ld.map uZ)),.fz (.val (.ref v)),.l1 ((stU st as (eC+1)).map dT),.fz (ntT (cmP e ld st)),.fz (inT (eC+1)),x]) ⟨x,by rw[YS];rfl⟩ ?_ ?_
    .rintro as r bs _ ea ⟨x,rfl⟩;obtain⟨rm,_,_⟩:=(Fd hl).mp (show r∈cmP e ld st by rw[ea];simp);refine⟨r,?_,.fz (inT r),?_⟩
     .unfold ixN;rw[ak,pQ,hi.len,ZY (X9 _),ZY wv]
      rfl
     .rw[<- abp,Th]
      rfl
    .rintro _ ⟨x,rfl⟩;exact⟨x,rfl⟩
 .have ce:cm=[]:=by
   cases cm with
   |nil=>rfl
   |cons a l=>exact absurd (show(0:Int)<((((a::l).map inT).length:Nat):Int)by rw[ak,List.length_cons];lia) hc
  refine q st ⟨hi.len,hi.zero,⟨λk hk g=>?_,hi.fin ce,hi.low⟩⟩;have:=(hi.zero k hk).mpr g;unfold dO;rw[this]
  rfl
theorem tG{α:Type}{g:α->PyData}(h:∀x,PyData.canLay0 (g x)=true):∀xs:List α,PyData.canLayAll0 (xs.map g)=true
 |[]=>rfl
 |x::xs=>by rw[List.map_cons];unfold PyData.canLayAll0;rw[tG h xs,h x];rfl
theorem wN{α:Type}{g:α->PyData}{n:Nat}(h:∀x,PyData.depth (g x)<=n):∀xs:List α,PyData.depthAll (xs.map g)<=n
 |[]=>aZ _
 |x::xs=>by
  rw[List.map_cons];unfold PyData.depthAll;have:=wN h xs;have:=h x;lia
theorem oE{α:Type}{g:α->PyData}{h:α->T}(e:∀x,h x=ofD (g x)):∀xs:List α,xs.map h=X7 (xs.map g)
 |[]=>rfl
 |x::xs=>by rw[List.map_cons,List.map_cons,oE e xs,e x];rfl
theorem Vr{α:Type}[DecidableEq α]{g:α->PyData}(h:∀x y,PyData.eqv (g x) (g y)=decide (x=y)):∀xs ys:List α,PyData.eqvAll (xs.map g) (ys.map g)=decide (xs=ys)
 |[],[]=>rfl
 |[],_::_=>rfl
 |_::_,[]=>rfl
 |x::xs,y::ys=>by
  rw[List.map_cons,List.map_cons];unfold PyData.eqvAll;rw[h,Vr h xs ys,<- Bool.decide_and];exact decide_eq_decide.mpr ⟨λz=>by rw[z.1,z.2],λz=>List.cons.inj z⟩
structure EqD{α:Type}[DecidableEq α](h:α->T)(g:α->PyData):Prop where
 of:∀x,h x=ofD (g x)
 lay:∀x,PyData.canLay0 (g x)=true
 dep:∀x,PyData.depth (g x)<=60
 eqv:∀x y,PyData.eqv (g x) (g y)=decide (x=y)
def EqD.lst{α:Type}[DecidableEq α]{h:α->T}{g:α->PyData}(E:EqD h g)(xs:List α):SeqAt.shaped (.list (xs.map g))=true:=by
 have h1:PyData.canLay0 (.list (xs.map g))=true:=by unfold PyData.canLay0;exact tG E.lay xs
 have h2:PyData.depth (.list (xs.map g))<=64:=by unfold PyData.depth;have:=wN E.dep xs;lia
 unfold SeqAt.shaped;rw[h1,Zs h2];rfl
def EqD.gEq{α:Type}[DecidableEq α]{h:α->T}{g:α->PyData}(E:EqD h g){neg:Bool}{a c:List α}{q:OT->Prop}(hq:q (.fz (.bl (xr neg (decide (a=c)))))):gEq neg (.lst (a.map h)) (.lst (c.map h)) q:=by
 refine⟨.list (a.map g),.list (c.map g),ZH L2.T.lst (oE E.of a),ZH L2.T.lst (oE E.of c),E.lst a,E.lst c,?_⟩;unfold PyData.eqv;rwa[Vr E.eqv]
def dD:xl->PyData
 |none=>.none
 |some d=>.int (d:Nat)
def adL:EqD dT dD:=⟨λx=>by cases x<;>rfl,λx=>by cases x<;>rfl,λx=>by cases x<;>exact aZ _,λx y=>by
 cases x<;>cases y
 .rfl
 .rfl
 .rfl
 .rename_i a b
  show decide ((a:Int)=(b:Int))=_;exact decide_eq_decide.mpr ⟨λz=>by rw[Int.ofNat.inj z],λz=>by rw[Option.some.inj z]⟩⟩
def aiH{off:zd}(hm:mk.length=m)(hl:off.length=m)(fd:∀ds∈off,ds.length<=1000)(fw:∀ds∈off,∀o∈ds,o.ways.length<=1000)(hw:∀ds∈off,∀o∈ds,WyO m o):LdB mk.length (ldL mk off):=by
 have go:∀k,k<mk.length->(ldO (mkG mk) (Ah off) k).length<=1000/\∀d∈ldO (mkG mk) (Ah off) k,d.length<=1000/\∀r∈d,r<m:=λk hk=>by
  have lk:k<off.length:=by lia
  have eo:Ah off k=off[k]:=by show off.getD k []=_;rw[au,aj lk];rfl
  unfold ldO;rw[eo];cases mkG mk k with
  |true=>exact⟨aZ _,λ_ z=>(nomatch z)⟩
  |false =>
   refine⟨by rw[ZZ wx,ak];exact fd _ (aU lk),λd hd=>?_⟩;obtain⟨o,om,rfl⟩:=YV.mp hd;refine⟨by rw[ak];exact fw _ (aU lk) o om,λr hr=>?_⟩;obtain⟨w,bv,rfl⟩:=YV.mp hr;exact(hw _ (aU lk) o om).lt w bv
 refine⟨by unfold ldL;rw[ak,WP],λds dS=>?_,λds dS=>?_⟩
 .obtain⟨k,hk,rfl⟩:=YV.mp dS;exact(go k (List.mem_range.mp hk)).1
 .obtain⟨k,hk,rfl⟩:=YV.mp dS;rw[hm];exact(go k (List.mem_range.mp hk)).2
def Yu{off:zd}(hk:k<mk.length):ldG (ldL mk off) k=ldO (mkG mk) (Ah off) k:=by
 show(ldL mk off).getD k []=_;unfold ldL;rw[au,aq,VX hk]
 rfl
def Lfp.ld{e:Bool}{m:Nat}{mk:Nat->Bool}{ld kc:Nat->xA}{S:Nat->Bool}(h:Lfp e m mk ld S)(el:∀k,k<m->ld k=kc k):Lfp e m mk kc S:=⟨h.base,λk hk j=>h.step k hk (by rwa[el k hk]),λA a b=>h.least A a λk hk j=>b k hk (by rwa[<- el k hk])⟩
def Lfp.marks{e:Bool}{mk mk':Nat->Bool}{ld:Nat->xA}(h:Lfp e m mk ld S)(el:∀k,k<m->mk k=mk' k):Lfp e m mk' ld S:=⟨λk hk g=>h.base k hk (by rwa[el k hk]),h.step,λA a b=>h.least A (λk hk g=>a k hk (by rwa[<- el k hk])) b⟩
structure HlW(ns:Φ)(off:zd):Prop where
 h:Nf ns off
 few:ns.length<=100
 fw:∀ds∈off,∀o∈ds,o.ways.length<=1000
 wy:∀ds∈off,∀o∈ds,WyO ns.length o
abbrev ahr(ns:Φ)(gs:zn):Prop:=∀g∈gs,g<ns.length
def Gz(hk:k<m):mkG (mkL m gs) k=mkF gs k:=by
 show(mkL m gs).getD k false=_;unfold mkL;rw[au,aq,VX hk]
 rfl
def HlW.ld{off:zd}(h:HlW ns off)(gs:zn):LdB (mkL ns.length gs).length (ldL (mkL ns.length gs) off):=aiH (tO _ _) h.h.len h.h.fews h.fw h.wy
def aaf{mk mk':Nat->Bool}{off:Nat->xD}(h:mk k=mk' k):ldO mk off k=ldO mk' off k:=by unfold ldO;rw[h]
def Steps.hall{e:Bool}{off:zd}(h:Steps e (mkL m gs) (ldL (mkL m gs) off) st):Lfp e m (mkF gs) (ldO (mkF gs) (Ah off)) (dO st):=by
 have:=h.lf;rw[tO]at this;exact(this.ld λk hk=>(Yu (by rwa[tO])).trans (aaf (Gz hk))).marks λk hk=>Gz hk
def nmQ:Bool->Str
 |false=>oH
 |true=>zT
def isX(e:Bool)(rs:zS)(m:Rat):Prop:=m∈rs/\∀x∈rs,¬bet e m x
def sS(e:Bool):ST:=λts q=>∃rs:zS,ts=[.lst (rs.map frR)]/\(∀x∈rs,Bq x)/\(rs=[]->q (.fz .non))/\∀m,isX e rs m->q (.fz (frR m))
theorem Wg{e:Bool}{as:zS}{m a:Rat}(h:isX e as m):(bet e m a->isX e (as++[a]) a)/\(¬bet e m a->isX e (as++[a]) m):=by
 obtain⟨h1,h2⟩:=h;refine⟨λb=>⟨by simp,λx hx=>?_⟩,λb=>⟨UU _ h1,λx hx=>?_⟩⟩
 .rcases Y1.mp hx with z|z
  .have:=h2 x z;cases e<;>simp only[bet]at *<;>grind
  .rw[YR.mp z];cases e<;>simp only[bet]<;>grind
 .rcases Y1.mp hx with z|z
  .exact h2 x z
  .rw[YR.mp z];exact b
def Qe(T:Tx D):gT 2 oH lD (sS false):=ya T.Wy λF=>by
 refine F.okT VR (λ_ _=>bG (bQ 1 eE)
  (bG (cY (bZ wp) (bU (n:=99) 2)
  (bI (cA (QW.qt (fW (bW qU wo eE) (eX (cF (bJ (abS T) (bA wo (bA wr bC)))))))
  (bI (bQ 1 wr))
  bV)))
  (bI (bR wo)))) ?_
 rintro _ R ⟨rs,rfl,h,q0,q⟩;refine dW frR rs (λas o=>(as=[]/\∃x,o=[.fz (.lst (rs.map frR)),.fz .non,x])\/∃m x,o=[.fz (.lst (rs.map frR)),.fz (frR m),x]/\isX false as m) (.inl ⟨rfl,_,rfl⟩) ?_ ?_
 .rintro as a bs _ e (⟨rfl,x,rfl⟩|⟨m,x,rfl,hm⟩)
  .exact .inr ⟨a,_,rfl,by simp,λx hx=>by rw[show x=a by simpa using hx];simp only[bet];grind⟩
  .have ba:Bq a:=h a (e ▸ by simp);have bm:Bq m:=h m (e ▸ UU _ hm.1);obtain⟨s1,s2⟩:=Wg (a:=a) hm;exact⟨m,a,rfl,bm,ba,swD (λlt=>.inr ⟨a,_,rfl,s1 lt⟩) λlP=>.inr ⟨m,_,rfl,s2 lP⟩⟩
 .rintro _ (⟨z,x,rfl⟩|⟨m,x,rfl,hm⟩)
  .exact q0 z
  .exact q m hm
def adD(T:Tx D):gT 2 zT uO (sS true):=ya T.agz λF=>by
 refine F.okT abV (λ_ _=>bG (bQ 1 eE)
  (bG (cY (bZ wp) (bU (n:=99) 2)
  (bI (cA (QW.qt (fW (bW qU wo eE) (eX (cF (bJ (abS T) (bA wr (bA wo bC)))))))
  (bI (bQ 1 wr))
  bV)))
  (bI (bR wo)))) ?_
 rintro _ R ⟨rs,rfl,h,q0,q⟩;refine dW frR rs (λas o=>(as=[]/\∃x,o=[.fz (.lst (rs.map frR)),.fz .non,x])\/∃m x,o=[.fz (.lst (rs.map frR)),.fz (frR m),x]/\isX true as m) (.inl ⟨rfl,_,rfl⟩) ?_ ?_
 .rintro as a bs _ e (⟨rfl,x,rfl⟩|⟨m,x,rfl,hm⟩)
  .exact .inr ⟨a,_,rfl,by simp,λx hx=>by rw[show x=a by simpa using hx];simp only[bet];grind⟩
  .have ba:Bq a:=h a (e ▸ by simp);have bm:Bq m:=h m (e ▸ UU _ hm.1);obtain⟨s1,s2⟩:=Wg (a:=a) hm;exact⟨a,m,rfl,ba,bm,swD (λlt=>.inr ⟨a,_,rfl,s1 lt⟩) λlP=>.inr ⟨m,_,rfl,s2 lP⟩⟩
 .rintro _ (⟨z,x,rfl⟩|⟨m,x,rfl,hm⟩)
  .exact q0 z
  .exact q m hm
def Pn(e:Bool)(rs:zS)(j b:Nat):Prop:=(b=j/\∀x∈rs,¬bet e (rs.getD j 0) x)\/(b<rs.length/\bet e (rs.getD j 0) (rs.getD b 0)/\∀x∈rs,¬bet e (rs.getD b 0) x)
theorem ajz{e:Bool}{a b:Rat}(h:¬bet e b a)(n:a≠b):bet e a b:=by
 cases e<;>simp only[bet]at *<;>grind
def ahv{a b:Rat}(h:(a.num,((a.den:Nat):Int))=(b.num,((b.den:Nat):Int))):a=b:=by
 injection h with h1 h2;exact Rat.ext h1 wv
def abz{rs:zS}{m:Rat}(h:m∈rs):∃j:Nat,rs[j]?=some m/\∀(i:Nat)g,i<j->rs[i]?=some g->g≠m:=by
 induction rs with
 |nil=>cases h
 |cons r rs ih =>
  by_cases e:r=m
  .exact⟨0,by rw[e];rfl,λi _ z=>absurd z (WZ _)⟩
  .obtain⟨j,e1,e2⟩:=ih ((YU.mp h).resolve_left λz=>e z.symm);refine⟨j+1,e1,λi g hi eg=>?_⟩;cases i with
   |zero=>cases eg;exact e
   |succ i=>exact e2 i g (Nat.lt_of_succ_lt_succ hi) eg
def zV(mg:Str->Ω):ST:=λts q=>∃(e:Bool)(v:Addr)(rs:zS)(d:xl),ts=[.lst (rs.map frR),dT d,.val (.ref v)]/\mg (nmQ e)=some (.ref v)/\rs.length<=1000/\(∀x∈rs,Bq x)/\(rs=[]->q (.fz (dT d)))/\(rs≠[]->∃j:Nat,d=some j/\j<rs.length/\∀b:Nat,Pn e rs j b->q (.fz (.int (b:Nat))))
def Ld(T:Tx D):gT 3 qK jx (zV mg):=ya T.Nx λF=>by
 refine F.okU Kf λag A outer s H E hr nd=>?_;have GV:∀b,∃ps,gT 2 (nmQ b) ps (sS b):=λb=>by
  cases b
  .exact⟨_,(Qe T)⟩
  .exact⟨_,(adD T)⟩
 refine⟨_,(bG (bQ 3 (T5 (mg:=mg) (k:=2) (nm:=nmQ) (S:=sS) 2 GV hr.md (bA wp bC)))
  (bG (cA (QW.qt (fW (bW qU wn eE) (eX (bW (go_eq hr.units) (bK wp wo) wn))))
  (bI (bR wo))
  bV)
  (bI (bR (ahg hr.units wp (bA wn bC)))))),?_⟩
 rintro _ R ⟨e,v,rs,d,rfl,hv,few,hb,q0,q⟩;refine⟨e,hv,rs,rfl,hb,λz=>?_,λm hm=>?_⟩
 .exact q0 z
 .obtain⟨j,rfl,lj,q⟩:=q λz=>by rw[z]at hm;cases hm.1
  have ej:=aj lj;have gj:rs.getD j 0=rs[j]:=by rw[au,ej];rfl
  refine⟨_,cZ ej,sw2 (λh=>q j (.inl ⟨rfl,?_⟩)) λh=>?_⟩
  .obtain⟨a,b⟩:=Bool.and_eq_true_iff.mp h;rw[gj,show rs[j]=m from Rat.ext (of_decide_eq_true a) (by have:=of_decide_eq_true b;lia)];exact hm.2
  .have ne:rs[j]≠m:=λz=>by
    rw[z,Zs rfl,Zs rfl]at h;cases h
   obtain⟨b,eb,nb⟩:=abz hm.1;have lb:=(ao.mp eb).1;have gb:rs.getD b 0=m:=by rw[au,eb];rfl
   refine⟨rs.map λr=>(r.num,((r.den:Nat):Int)),(m.num,((m.den:Nat):Int)),b,by rw[WU];rfl,rfl,by rw[ak];exact aL few wx,by rw[aq,eb];rfl,λi g hi eg=>?_,q b (.inr ⟨lb,by rw[gj,gb];exact ajz (hm.2 _ (aU lj)) ne,by rw[gb];exact hm.2⟩)⟩;rw[aq,aj (show i<rs.length by exact Tk hi lb)]at eg;cases eg;exact λz=>nb i _ hi (aj _) (ahv z)
theorem Aa{α β:Type}(f:α->T)(g:β->T):∀(xs:List α)(ys:List β),B_ (xs.map f) (ys.map g)=(xs.zip ys).map λp=>.tup [f p.1,g p.2]
 |[],ys=>by cases ys<;>rfl
 |_::_,[]=>rfl
 |x::xs,y::ys=>by
  rw[List.zip_cons_cons,List.map_cons,List.map_cons,List.map_cons,<- Aa f g xs ys]
  rfl
open Rw (sg jw iZ cj jK jW Big)
def otw(mk:zi)(cs:xw)(S:Nat->Bool):xw:=(List.range mk.length).map λk=>if mkG mk k=false/\S k=true then cs.getD k none else none
def BP(mg:Str->Ω):ST:=λts q=>∃(mk:zi)(cs:xw),ts=[blT mk,.lst (cs.map opT)]/\mk.length<=100/\cs.length=mk.length/\(∀o,some o∈cs->o.ways.length<=1000/\∀w∈o.ways,w.1<mk.length)/\∀S:Nat->Bool,Lfp false mk.length (mkG mk) (λk=>ldC (cs.getD k none)) S->q (.l1 ((otw mk cs S).map opT))
def Nz(T:Tx D):gT 4 uq j6 (BP mg):=ya T.S_ λF=>by
 refine F.okU Bt λag A outer s H E hr nd=>?_;obtain⟨vs,c9,_⟩:=OkF.val (XD T);refine⟨_,(bG (i_ (bH jM) iz iz ["offer"] (bZ wo) (c7 (i:=0)) b_ (FJ (bW qU wp eE) (cR bC) (cR (bA (Qm (bH jM) ("offer"::iz) ("offer"::iz) ["room","chance"] (bZ (bK wp bF)) (dB (n:=2) (bM (c7 (i:=0)) (bM (c7 (i:=1)) cL))) b_ wp) bC))) (gB (i:=2) Bt.nd rfl (Or.inl rfl)))
  (bG (bQ 3 (bJ (Ub T) (bA wp (bA wr (bA (Rh (by rfl) c9) bC)))))
  (bI (bR (cD (bH jM) iz iz ["step","offer"] (BZ T.HB (bA wn (bA wo bC))) (dB (n:=2) (bM (c7 (i:=0)) (bM (c7 (i:=1)) cL))) b_ (FJ (QW.qt (fW (bW qU wp eE) (eX (bW (go_eq hr.units) wp bF)))) eE wo)))))),?_⟩
 rintro _ R ⟨mk,cs,rfl,m1,cl,hc,q⟩;have few:∀{α:Type}{l:List α},l.length<=mk.length->l.length<=sizeLine:=λ{α l}h=>aL h (aL m1 wx);refine⟨few (by rw[ak,cl];exact aG _),comp_map opT (λc=>uZ (ldC c)) cs (λc hm N M hN=>?_) ?_⟩
 .cases c with
  |none=>exact hN
  |some o =>
   refine⟨by rw[ak];exact aL (hc o hm).1 wx,comp_map nwT (λw=>inT w.1) o.ways (λw hw N M hN=>⟨rfl,hN⟩) ?_⟩;rw[show uZ (ldC (some o))=.lst [.lst (o.ways.map λw=>inT w.1)]by show L2.T.lst [L2.T.lst ((o.ways.map (·.1)).map inT)]=_;rw[WU];rfl]at hN;exact hN
 .rw[show(cs.map λc=>uZ (ldC c))=(cs.map ldC).map uZ by rw[WU];rfl];have gl:∀k,ldG (cs.map ldC) k=ldC (cs.getD k none):=λk=>by
   show(cs.map ldC).getD k []=_;rw[au,aq,au];cases cs[k]?<;>rfl
  refine⟨false,vs,mk,cs.map ldC,rfl,c9,m1,⟨by rw[ak,cl],λds dS=>?_,λds dS d hd=>?_⟩,λst hs=>?_⟩
  .obtain⟨c,_,rfl⟩:=YV.mp dS;cases c with
   |none=>exact aZ _
   |some o=>exact UT rfl
  .obtain⟨c,hm,rfl⟩:=YV.mp dS;cases c with
   |none=>cases hd
   |some o =>
    cases YR.mp hd;refine⟨by rw[ak];exact(hc o hm).1,λr hr=>?_⟩;obtain⟨w,hw,rfl⟩:=YV.mp hr;exact(hc o hm).2 w hw
  .have q:=q (dO st) (hs.lf.ld λk _=>gl k);have sl:=hs.len;show(B_ (st.map dT) (cs.map opT)).length<=sizeLine/\ig _ _ _ _ (B_ (st.map dT) (cs.map opT)) _;rw[Aa];refine⟨few (by rw[ak,WH];lia),comp_map (λp:Option Nat×xo=>.tup [dT p.1,opT p.2]) (λp=>opT (if p.1=none\/p.1=some 0 then none else p.2)) (st.zip cs) (λp hp N M hN=>?_) ?_⟩
   .refine⟨rfl,?_⟩;obtain⟨a,c⟩:=p;cases a with
    |none=>rw[ZY (.inl rfl)]at hN;exact hN
    |some n =>
     by_cases e:n=0
     .rw[ZY (.inr (by rw[e]))]at hN;exact swT (Zs wv) hN
     .rw[ZZ (by simp[e])]at hN;exact swF (Zp wv) hN
   .have:((st.zip cs).map λp=>opT (if p.1=none\/p.1=some 0 then none else p.2))=(otw mk cs (dO st)).map opT:=by
     unfold otw;rw[WU];refine UQ (by rw[ak,ak,WH,WP];lia) λk h1 h2=>?_;rw[ak,WP]at h2;rw[VW,VW,Tu,TW];dsimp only[Function.comp];have z:=hs.zero k h2;rw[au,aj (show k<st.length by lia)]at z;have z:st[k]=some 0↔mkG mk k=true:=z;have g:dO st k=st[k].isSome:=by unfold dO;rw[au,aj (show k<st.length by lia)];rfl
     rw[au,aj (show k<cs.length by lia),g]
     congr 1
     cases e:st[k]with
     |none=>rw[ZY (.inl rfl),ZZ (λz=>by cases z.2)]
     |some n =>
      rw[e]at z;by_cases c:n=0
      .rw[ZY (.inr (by rw[c])),ZZ (λy=>by rw[z.mp (by rw[c])]at y;cases y.1)]
      .rw[ZZ (by simp[c]),ZY ⟨by
        cases g:mkG mk k with
        |false=>rfl
        |true=>exact absurd (Option.some.inj (z.mpr g)) c,rfl⟩]
       rfl
    rwa[this]
def ah0(l:List α)(h:α->T){i:Int}(h0:0<=i)(h1:i<l.length):∃a∈l,ixT (l.map h) i=some (h a):=by
 obtain⟨k,rfl⟩:=Int.eq_ofNat_of_zero_le h0;have hk:k<l.length:=by lia
 refine⟨l[k],aU hk,?_⟩;show nth (l.map h) k=_;rw[vD,aq,aj hk];rfl
def div_pos{b:Int}(hb:0<b):(Rat.divInt a b).den<=b.toNat/\(Rat.divInt a b).num.natAbs<=a.natAbs:=by
 have l:=xQ (t:=a) (b:=b) (c:=(Int.gcd a b:Nat)) (WS hb) (by have:=nT (a:=a) (b:=b) (WS hb);exact WS this) wv (XZ (nT (WS hb)) hb);have e:=jG l (WS hb);injection e with e;injection e with e1 e2;injection e2 with e2 _;injection e1 with e1;injection e2 with e2;have h1:=l.lx;have h2:=l.ly;have h3:=l.pos;have e1:a.fdiv ((Int.gcd a b:Nat):Int)=(Rat.divInt a b).num:=e1;have e2:b.fdiv ((Int.gcd a b:Nat):Int)=((Rat.divInt a b).den:Nat):=e2;rw[e1]at h1;rw[e2]at h2 h3;omega
structure Shr(s:Rat):Prop where
 lo:0<=s
 hi:s<1
 den:s.den<=100
structure Pay(p:Rat):Prop where
 num:p.num.natAbs<=10^30
 den:p.den<=1000
def st_size:ST:=λts q=>∃c:Int,ts=[.int c]/\∀n:Nat,n<=4->q (.fz (.int (n:Nat)))
def af4(T:Tx D):gT 2 QF Fx st_size:=ya T.ahl λF=>by
 refine F.okT afj (λhr _=>bG (bQ 1 (bJ (aaU T) (bA wp (bA bF bC))))
  (bG (cA (bW (go_eq hr.units) (bO cW (bK wo bF) bF) bF)
  (bI (bR bF))
  bV)
  (bI (bR (bO dh bF (bO cW (bK wo bF) bF)))))) ?_
 rintro _ R ⟨c,rfl,q⟩;have s1:=wg c 1;have s1':0<=strm c 1:=s1.1;refine⟨c,2,rfl,by decide,_,ji (k:=0),by decide,swD (λh=>q 0 wx) λh=>⟨_,ji (k:=1),by decide,?_⟩⟩;have:=q (1+strm c 1%4).toNat wv;rw[show(((1+strm c 1%4).toNat:Nat):Int)=1+strm c 1%4 by lia]at this;exact this
structure LD where
 sort:Nat
 pay:Rat
 prs:zg
abbrev zC:=List (List LD)
abbrev ldT(d:LD):T:=.tup [.int (d.sort:Nat),frR d.pay,.lst (d.prs.map nwT)]
structure LDk(m:Nat)(d:LD):Prop where
 sort:d.sort<5
 pay:Pay d.pay
 few:d.prs.length<=4
 lt:∀p∈d.prs,p.1<m
 nn:∀p∈d.prs,0<=p.2
 one:DX (d.prs.map (·.2))=1
 dn:∃q:Nat,0<q/\q<=4000/\∀p∈d.prs,p.2.den ∣ q
 s0:d.sort=0\/d.sort=4->∃a,d.prs=[(a,1)]
 s1:d.sort=1->∃a b x,d.prs=[(a,x),(b,1-x)]
 s2:d.sort=2->∃rs:zn,d.prs=rs.map λr=>(r,mkRat 1 rs.length)
def aep(l:List α) : gZ l none (some (n:Int))=l.take n:=by
 unfold gZ;show(l.drop 0).take (HT.sIx l.length l.length (some (n:Int))-0)=_;rw[HT.Dv,List.drop_zero,Nat.sub_zero];rw[List.take_eq_take_iff];lia
def PL{b:Int}(hb:0<b):(Rat.divInt a b).den ∣ b.toNat:=by
 have l:=xQ (t:=a) (b:=b) (c:=(Int.gcd a b:Nat)) (WS hb) (by have:=nT (a:=a) (b:=b) (WS hb);exact WS this) wv (XZ (nT (WS hb)) hb);have e:=jG l (WS hb);injection e with e;injection e with _ e2;injection e2 with e2 _;injection e2 with e2;have e2:b.fdiv ((Int.gcd a b:Nat):Int)=((Rat.divInt a b).den:Nat):=e2;have d:((Int.gcd a b:Nat):Int) ∣ b:=JJ a b;rw[Int.fdiv_eq_ediv_of_dvd d]at e2;obtain⟨x,hx⟩:=d;have g0:=nT (a:=a) (b:=b) (WS hb);rw[Int.ediv_eq_of_eq_mul_right (WS g0) hx]at e2;exact Int.natCast_dvd_natCast.mp ⟨(Int.gcd a b:Nat),by rwa[<- e2,Int.toNat_of_nonneg (XY hb),Int.mul_comm]⟩
theorem Zi{S:Int}(hS:S≠0):∀ws:xz,DX (ws.map λw=>Rat.divInt w S)=Rat.divInt ws.sum S
 |[]=>by show(0:Rat)=Rat.divInt 0 S;rw[QR]
 |w::ws=>by
  show Rat.divInt w S+DX (ws.map λw=>Rat.divInt w S)=Rat.divInt (w+ws.sum) S;rw[Zi hS ws,QU _ _ hS hS];refine(QY (pB hS hS) hS).mpr ?_
  grind
theorem Vg{n:Nat}(h:0<n):∀k:Nat,DX (List.replicate k (mkRat 1 n))=mkRat k n
 |0=>by show(0:Rat)=mkRat 0 n;rw[Rat.zero_mkRat]
 |k+1=>by
  rw[List.replicate_succ];show mkRat 1 n+DX (List.replicate k (mkRat 1 n))=_;rw[Vg h k,Rat.mkRat_add_mkRat _ _ (VQ h) (VQ h),Rat.mkRat_eq_iff (Nat.mul_ne_zero (VQ h) (VQ h)) (VQ h)]
  push_cast
  grind
def aeH(h:0<n):mkRat n n=1:=by
 rw[show(1:Rat)=mkRat 1 1 from rfl,Rat.mkRat_eq_iff (VQ h) (Nat.succ_ne_zero _)];lia
def one_sub{b:Int}(hb:b≠0):1-Rat.divInt a b=Rat.divInt (b-a) b:=by
 rw[show(1:Rat)=Rat.divInt 1 1 from rfl,Rat.divInt_sub_divInt _ _ wx hb,TU,Int.mul_one]
def T_(x:Rat):1-x=⟨(x.den:Int)-x.num,x.den,x.den_nz,by
  have:=x.reduced;show Nat.Coprime ((x.den:Int)-x.num).natAbs x.den;have h:Int.gcd ((x.den:Int)-x.num) (x.den:Int)=1:=by
   rw[Int.gcd_self_sub_left];exact this
  exact h⟩:=by
 rw[Rat.mk_eq_divInt,<- one_sub (ou x),rd]
def adU(x:Rat):frR (1-x)=.tup [.int ((x.den:Int)-x.num),.int x.den]:=by rw[T_]
def aaj(x:Rat):(1-x).den=x.den:=by rw[T_]
def LDk.sure{a so:Nat}{p:Rat}(hso:so=0\/so=4)(ha:a<m)(hp:Pay p):LDk m ⟨so,p,[(a,1)]⟩ :=
 ⟨by show so<5;lia,hp,UT rfl,by simp[ha],by simp;decide,by simp[DX];exact Rat.add_zero 1,⟨1,by decide,by decide,by simp⟩,λ_=>⟨_,rfl⟩,(λz=>by have z:so=1:=z;lia),(λz=>by have z:so=2:=z;lia)⟩
def LDk.toss{a b:Nat}{p x:Rat}(ha:a<m)(hb:b<m)(hp:Pay p)(x0:0<=x)(x1:0<=1-x)(q0:0<q)(q1:q<=4000)(hd:x.den ∣ q):LDk m ⟨1,p,[(a,x),(b,1-x)]⟩ :=
 ⟨UT rfl,hp,UT rfl,by simp[ha,hb],by simp[x0,x1],by simp[DX];grind,⟨q,q0,q1,by simp[hd,aaj]⟩,(λz=>by rcases z with z|z<;>cases z),λ_=>⟨_,_,_,rfl⟩,(λz=>by cases z)⟩
def ah7(h:0<n):(mkRat 1 n).den=n:=by
 have e:=Xj h;injection e with e;injection e with _ e;injection e with e _;injection e with e;lia
def LDk.even{p:Rat}{rs:zn}(h0:0<rs.length)(h4:rs.length<=4)(hr:∀r∈rs,r<m)(hp:Pay p):LDk m ⟨2,p,rs.map λr=>(r,mkRat 1 rs.length)⟩:=by
 have nn:(0:Rat)<=mkRat 1 rs.length:=by rw[<- Rat.divInt_ofNat];exact Rat.divInt_nonneg wx (X9 _)
 refine⟨UT rfl,hp,by rw[ak];exact h4,λx hx=>?_,λx hx=>?_,?_,⟨rs.length,h0,by exact aL h4 wx,λx hx=>?_⟩,(λz=>by rcases z with z|z<;>cases z),(λz=>by cases z),λ_=>⟨rs,rfl⟩⟩
 .obtain⟨r,h,rfl⟩:=YV.mp hx;exact hr r h
 .obtain⟨r,h,rfl⟩:=YV.mp hx;exact nn
 .rw[WU,show((λx:Nat×Rat=>x.2) ∘ λr=>(r,mkRat 1 rs.length))=λ_=>mkRat 1 rs.length from rfl,List.map_const',Vg h0,aeH h0]
 .obtain⟨r,h,rfl⟩:=YV.mp hx;rw[ah7 h0];exact Nat.dvd_refl _
def LDk.mix{p:Rat}{rs:zn}{ws:xz}(hl:ws.length<=4)(hr:∀r∈rs,r<m)(hw:∀w∈ws,0<=w)(le:ws.length<=rs.length)(s0:0<ws.sum)(s1:ws.sum<=4000)(hp:Pay p):LDk m ⟨3,p,(rs.zip ws).map λx=>(x.1,Rat.divInt x.2 ws.sum)⟩:=by
 have m2:(rs.zip ws).map (λx=>x.2)=ws:=List.map_snd_zip le;refine⟨UT rfl,hp,by rw[ak,WH];lia,λx hx=>?_,λx hx=>?_,?_,⟨ws.sum.toNat,by lia,by lia,λx hx=>?_⟩,(λz=>by rcases z with z|z<;>cases z),(λz=>by cases z),(λz=>by cases z)⟩
 .obtain⟨r,h,rfl⟩:=YV.mp hx;exact hr _ (UV h).1
 .obtain⟨r,h,rfl⟩:=YV.mp hx;exact Rat.divInt_nonneg (hw _ (UV h).2) (XY s0)
 .rw[WU,show((λx:Nat×Rat=>x.2) ∘ λx:Nat×Int=>(x.1,Rat.divInt x.2 ws.sum))=(λw=>Rat.divInt w ws.sum) ∘ λx:Nat×Int=>x.2 from rfl,<- WU,m2,Zi (WS s0)];have e:=one_sub (a:=ws.sum) (b:=ws.sum) (WS s0);rw[Int.sub_self,QR]at e
  grind
 .obtain⟨r,h,rfl⟩:=YV.mp hx;exact PL s0
theorem acT:∀{ws:xz},(∀w∈ws,0<=w)->0<=ws.sum
 |[],_=>by decide
 |w::ws,h=>by
  have:=h w (aO ..);have:=acT (ws:=ws) λx hx=>h x (aJ _ hx);rw[List.sum_cons];lia
theorem adq{b:Int} : ∀{ws:xz},(∀w∈ws,w<=b)->ws.sum<=b*ws.length
 |[],_=>by simp
 |w::ws,h=>by
  have:=h w (aO ..);have:=adq (ws:=ws) λx hx=>h x (aJ _ hx);rw[List.sum_cons,List.length_cons];have:b*((ws.length+1:Nat):Int)=b*ws.length+b:=by grind
  lia
def Zy:ST:=λts q=>∃(c:Int)(m:Nat),ts=[.int c,.int (m:Nat)]/\0<m/\m<=1000/\∀d:LD,LDk m d->q (.fz (ldT d))
def afu(T:Tx D):gT 4 Sq Dp Zy:=ya T.ajc λ{f fd}F=>by
 refine F.okT Tw (λhr _=>bG (bQ 2 (bJ (aaU T) (bA wp (bA bF bC))))
  (bG (bQ 3 (cD (bH Ce) wI wI ["_law_x"] (bZ (mR wr (iD bF) (iD bF))) (c7 (i:=0)) b_ (bO cW wp wr)))
  (bG (bQ 4 (bJ (aaA T) (bA (bO Wq (bO cW (bK wr bF) bF) bF) (bA (bO dh bF (bO cW (bK wr bF) bF)) bC))))
  (bG (bQ 5 (QEB.out (Qx (cT (pO (cT (CG (bK wn bF)) (cT (pO (cT kW (cT kW kY))) kY))) kY))))
  (bG (cA (bW (go_eq hr.units) (bO cW (bK wr bF) bF) bF)
  (bG (bQ 6 (bO dh bF (bO cW (bK wr bF) bF)))
  (bG (bQ 7 (bJ (aaA T) (bA (bO cW (bK wr bF) (bO dh (qv 6) bF)) (bA (qv 6) bC))))
  (bI (bQ 5 (QEB.out (Qx (cT (pO (cT (CG (bK wn bF)) (cT (ale 7) kY))) (cT (pO (cT (CG (bK wn bF)) (cT (pO (cT (Xo Wq (CG (bK (qv 7) bF)) (CG (bK (qv 7) bF))) (cT (CG (bK (qv 7) bF)) kY))) kY))) kY))))))))
  bV)
  (bG (cA (bW (go_eq hr.units) (bO cW (bK wr bF) bF) bF)
  (bG (bQ 3 (mR wn Ra (iD (bO dh bF (bO cW (bK wr bF) bF)))))
  (bI (i_ (bH Ce) wI wI ["_law_room"] (bZ wn) (c7 (i:=0)) b_ (dY (bA wp (bA (dY (bA bF (bA (bT cQ T.dU WG (bA we bC)) bC))) bC))) (gB (i:=5) Tw.nd rfl (Or.inl rfl)))))
  bV)
  (bG (cA (bW (go_eq hr.units) (bO cW (bK wr bF) bF) bF)
  (bG (gK 8 (cD (bH Ce) wI wI ["_law_x"] (bZ (mR wr (iD bF) (iD (bO dh bF (bO cW (bK wr bF) bF))))) (c7 (i:=0)) b_ (bO cW wp (bK (cR (bA bF (bA bF (bA bF (bA bF bC))))) (bO cW (bK wn bF) bF)))))
  (bG (uo 8 (bO dh (wV 8 (Yn bF)) bF) (Yn bF))
  (bI (Tr 8 (i_ (bH Ce) wI wI ["_law_k"] (dI T.fu (bA (bT cQ T.dU WG (bA (qv 8) bC)) bC)) (c7 (i:=0)) b_ (dY (bA (bK we wp) (bA (bJ (aaA T) (bA (bK (qv 9) wp) (bA (bT (Xq rfl) T.acQ boot_sum (bA (qv 9) bC)) bC))) bC))) (gB (i:=5) Tw.nd rfl (Or.inl rfl)))))))
  bV)
  (bI (bR (dY (bA (bT (afq rfl) T.alk boot_min (bA (bO cW (bK wr bF) bF) (bA bF bC))) (bA we (bA wa bC))))))))))))) ?_
 rintro _ R ⟨c,m,rfl,m0,m1,q⟩;have mz:(0:Int)<(m:Nat):=by lia
 have sl:∀k,0<=strm c k/\strm c k<2000000000:=wg c;obtain⟨rm,i9,rme⟩ : ∃rm:Nat->Nat,(∀k,rm k<m)/\∀k,strm c k%(m:Nat)=(rm k:Nat):=⟨λk=>(strm c k%(m:Nat)).toNat,λk=>by
  have:=YY (strm c k) mz;have:=Z3 (strm c k) (show((m:Nat):Int)≠0 by exact WS mz);show(strm c k%(m:Nat)).toNat<m;lia,λk=>by
  have:=Z3 (strm c k) (show((m:Nat):Int)≠0 by exact WS mz);show _=((strm c k%(m:Nat)).toNat:Int);lia⟩
 obtain⟨n6,e6,h6⟩ : ∃n6:Nat,strm c 6%6=(n6:Nat)/\n6<6:=⟨(strm c 6%6).toNat,by have:=sl 6;lia,by have:=sl 6;lia⟩;have x6:=ji (c:=c) (n:=13) (k:=6);refine sq7 (λo=>∃(x3 x6 x7 x8:OT)(p:Rat)(prs:zg),o=[.fz (.int c),.fz (.int (m:Nat)),.fz (.lst ((iV c 13).map L2.T.int)),x3,.fz (frR p),.fz (.lst (prs.map nwT)),x6,x7,x8]/\LDk m ⟨min n6 4,p,prs⟩) ?_ λY go=>?_
 .rintro _ ⟨x3,x6',x7,x8,p,prs,rfl,hk⟩;refine⟨_,x6,by decide,?_⟩;have:=q ⟨min n6 4,p,prs⟩ hk;rw[show ldT ⟨min n6 4,p,prs⟩=.tup [.int (if(4:Int)<strm c 6%6 then 4 else strm c 6%6),frR p,.lst (prs.map nwT)]by
   show L2.T.tup [.int ((min n6 4:Nat):Int),_,_]=_;rw[e6,show((min n6 4:Nat):Int)=(if(4:Int)<((n6:Nat):Int)then(4:Int)else((n6:Nat):Int))by split<;>lia]]at this
  exact this
 .refine⟨c,13,rfl,by decide,?_⟩;have ec:gZ ((iV c 13).map L2.T.int) (some 2) (some 6)=[2,3,4,5].map (λk=>L2.T.int (strm c k)):=rfl;show(gZ ((iV c 13).map L2.T.int) (some 2) (some 6)).length<=sizeLine/\ig _ _ _ _ (gZ ((iV c 13).map L2.T.int) (some 2) (some 6)) _;rw[ec];refine⟨show 4<=sizeLine by decide,comp_map (λk=>L2.T.int (strm c k)) (λk=>.int (rm k:Nat)) [2,3,4,5] (λk _ N M hN=>⟨mz,by rwa[rme]⟩) ?_⟩;have y0:=sl 0;have y1:=sl 1;refine⟨_,ji (k:=0),by decide,_,ji (k:=1),by decide,_,_,rfl,by lia,eZ wv,?_⟩;have hp:Pay (Rat.divInt (strm c 0%61-30) (1+strm c 1%12)):=by
   obtain⟨x,y⟩:=div_pos (a:=strm c 0%61-30) (b:=1+strm c 1%12) wv;exact⟨aL y wv,by lia⟩
  generalize Rat.divInt (strm c 0%61-30) (1+strm c 1%12)=p at hp ⊢;refine⟨_,rfl,_,x6,by decide,?_⟩;have no:∀{n:Nat}{d:Int},((n6:Nat):Int)≠d->decide (strm c 6%6=d)=false:=λh=>Zp (by rwa[e6]);have ye:∀{d:Int},((n6:Nat):Int)=d->decide (strm c 6%6=d)=true:=λh=>Zs (by rwa[e6]);obtain h0|rfl|rfl|rfl:(n6=0\/n6=4\/n6=5)\/n6=1\/n6=2\/n6=3:=by lia
  .refine swF (no (n:=0) wv) ⟨_,x6,by decide,swF (no (n:=0) wv) ⟨_,x6,by decide,swF (no (n:=0) wv) (go _ ⟨_,_,_,_,p,[(rm 2,1)],rfl,.sure wv (i9 2) hp⟩)⟩⟩
  .have x8:=sl 8;have x9:=sl 9;refine swT (ye rfl) ?_;refine⟨_,ji (k:=8),by decide,_,ji (k:=9),by lia,_,_,rfl,by lia,eZ wv,_,rfl,_,rfl,?_⟩;obtain⟨b,eb,b0,b1⟩ : ∃b:Int,1+strm c 8%6=b/\0<b/\b<=6:=⟨_,rfl,by lia,by lia⟩;rw[eb];have a0:=Z3 (strm c 9) (show b+1≠0 by lia);have a1:=YY (strm c 9) (show 0<b+1 by exact Int.lt_trans b0 (Int.lt_succ _));generalize strm c 9%(b+1)=a at a0 a1 ⊢;have nn:0<=Rat.divInt a b:=Rat.divInt_nonneg a0 (XY b0);have l1:0<=1-Rat.divInt a b:=by rw[one_sub (WS b0)];exact Rat.divInt_nonneg wv (XY b0)
   have dd:=PL (a:=a) b0;generalize Rat.divInt a b=x at nn l1 dd ⊢;refine⟨_,x6,by decide,swF (no (n:=0) wx) ⟨_,x6,by decide,swF (no (n:=0) wx) (go _ ⟨.fz (.lst ([2,3,4,5].map λk=>L2.T.int (rm k:Nat))),.fz (.int b),.fz (frR x),.und,p,[(rm 2,x),(rm 3,1-x)],?_,LDk.toss (i9 2) (i9 3) hp nn l1 (show 0<b.toNat by lia) wv dd⟩)⟩⟩;rw[show[(rm 2,x),(rm 3,1-x)].map nwT=[.tup [.int (rm 2:Nat),frR x],.tup [.int (rm 3:Nat),frR (1-x)]]from rfl,adU]
   rfl
  .have x7:=sl 7;obtain⟨n,en,n0,n4⟩ : ∃n:Nat,1+strm c 7%4=(n:Nat)/\0<n/\n<=4:=⟨(1+strm c 7%4).toNat,by lia,by lia,by lia⟩;refine swF (no (n:=0) wx) ⟨_,x6,by decide,swT (ye rfl) ?_⟩;refine⟨_,ji (k:=7),by decide,?_⟩;show(gZ ([2,3,4,5].map λk=>L2.T.int (rm k:Nat)) none (some (1+strm c 7%4))).length<=sizeLine/\ig _ _ _ _ (gZ ([2,3,4,5].map λk=>L2.T.int (rm k:Nat)) none (some (1+strm c 7%4))) _;have ec2:gZ ([2,3,4,5].map λk=>L2.T.int (rm k:Nat)) none (some (1+strm c 7%4))=(([2,3,4,5].map rm).take n).map λr:Nat=>L2.T.int (r:Nat):=by
    rw[en,aep,List.map_take,WU]
    rfl
   have rl:(([2,3,4,5].map rm).take n).length=n:=by rw[aY];show min n 4=n;lia
   have rlt:∀r∈([2,3,4,5].map rm).take n,r<m:=λr hr=>by
    obtain⟨k,_,rfl⟩:=YV.mp (List.mem_of_mem_take hr);exact i9 k
   rw[ec2];generalize([2,3,4,5].map rm).take n=rs at rl rlt ⊢;have r0:0<rs.length:=by lia
   have e2:(rs.map λr=>(r,mkRat 1 rs.length)).map nwT=rs.map λr=>nwT (r,mkRat 1 rs.length):=by rw[WU];rfl
   refine⟨by rw[ak];exact aL (show _<=4 by exact aL (WJ rl) n4) wx,comp_map (λr:Nat=>L2.T.int (r:Nat)) (λr=>nwT (r,mkRat 1 rs.length)) rs (λr hr N M hN=>?_) ⟨_,x6,by decide,swF (no (n:=0) wx) (go _ ⟨.fz (.lst (rs.map λr:Nat=>L2.T.int (r:Nat))),.und,.und,.und,p,rs.map λr=>(r,mkRat 1 rs.length),by rw[e2];rfl,LDk.even r0 (aL (WJ rl) n4) rlt hp⟩)⟩⟩;rw[show nwT (r,mkRat 1 rs.length)=.tup [.int (r:Nat),frR (mkRat 1 rs.length)]from rfl,Xj r0,<- ak (f:=λr:Nat=>L2.T.int (r:Nat))]at hN;exact hN
  .have x7:=sl 7;have x12:=sl 12;obtain⟨n,en,n0,n4⟩ : ∃n:Nat,9+strm c 7%4=((8+n:Nat):Int)/\0<n/\n<=4:=⟨(1+strm c 7%4).toNat,by lia,by lia,by lia⟩;refine swF (no (n:=0) wx) ⟨_,x6,by decide,swF (no (n:=0) wx) ⟨_,x6,by decide,swT (ye rfl) ?_⟩⟩;refine⟨_,ji (k:=7),by decide,?_⟩;show(gZ ((iV c 13).map L2.T.int) (some 8) (some (9+strm c 7%4))).length<=sizeLine/\ig _ _ _ _ (gZ ((iV c 13).map L2.T.int) (some 8) (some (9+strm c 7%4))) _;have ec3:gZ ((iV c 13).map L2.T.int) (some 8) (some (9+strm c 7%4))=(((iV c 13).drop 8).take n).map L2.T.int:=by
    rw[en,Ar];have:=YL (ys:=iV c 13) (a:=8) (b:=8+n) (X1 _ _) (by rw[ak,WP];lia);rw[show 8+n-8=n by exact T1 _ _]at this;exact ZH (List.map L2.T.int) this
   have ul:(((iV c 13).drop 8).take n).length=n:=by rw[aY,Ts,ak,WP];lia
   rw[ec3];generalize((iV c 13).drop 8).take n=us at ul ⊢;obtain⟨d,hd,ed⟩:=ah0 [3,3,3,1000] L2.T.int (i:=strm c 12%4) (Z3 _ wx) (by show strm c 12%4<4;exact YY _ wx);have d0:0<d/\d<=1000:=by simp at hd;lia
   refine⟨by rw[ak];exact aL (show _<=4 by exact aL (WJ ul) n4) wx,comp_map L2.T.int (λx=>L2.T.int (x%d)) us (λx hx N M hN=>⟨_,ji (k:=12),by decide,_,ed,d0.1,hN⟩) ?_⟩;have em:us.map (λx=>L2.T.int (x%d))=(us.map (· % d)).map L2.T.int:=by rw[WU];rfl
   rw[em];have wl:(us.map (· % d)).length=n:=by rwa[ak]
   have ww:∀w∈us.map (· % d),0<=w/\w<1000:=λw hw=>by
    obtain⟨x,_,rfl⟩:=YV.mp hw;have:=Z3 x (show d≠0 by lia);have:=YY x d0.1;lia
   generalize us.map (· % d)=ws at wl ww ⊢;obtain⟨vs,v,rfl⟩ : ∃vs v,ws=vs++[v]:=by
    rcases List.eq_nil_or_concat ws with rfl|⟨vs,v,e⟩
    .cases wl;cases n0
    .exact⟨vs,v,by rw[e,List.concat_eq_append]⟩
   rw[aA,List.length_singleton]at wl;have ixl:ixT ((vs++[v]).map L2.T.int) (-1)=some (.int v):=by
    show nth ((vs++[v]).map L2.T.int).reverse 0=_;rw[bf,List.reverse_append]
    rfl
   have ixn:ixN ((vs++[v]).map L2.T.int).length (-1)=some vs.length:=by
    unfold ixN;rw[ak,aA,List.length_singleton];rw[ZZ wx,ZY wv]
    congr 1
    lia
   refine⟨_,ixl,_,ixn,?_⟩;have es:((vs++[v]).map L2.T.int).set vs.length (.int (v+1))=(vs++[v+1]).map L2.T.int:=by
    rw[bf,bf,List.set_append_right _ _ (by rw[ak];exact aG _),ak,UH]
    rfl
   dsimp only[frz];rw[es];have kS:(vs++[v+1]).length=n:=by rwa[aA,List.length_singleton]
   have kR:∀w∈vs++[v+1],0<=w/\w<=1000:=λw hw=>by
    rcases Y1.mp hw with z|z
    .have:=ww w (UU _ z);lia
    .have:=ww v (aP _ (YR.mpr rfl));rw[YR.mp z];lia
   have s0:0<(vs++[v+1]).sum:=by
    have:0<=vs.sum:=acT λw hw=>(ww w (UU _ hw)).1;have:=(ww v (aP _ (YR.mpr rfl))).1;rw[List.sum_append];show 0<vs.sum+(v+1+0);lia
   have s1:(vs++[v+1]).sum<=1000*(vs++[v+1]).length:=adq λw hw=>(kR w hw).2;generalize vs++[v+1]=us at kS kR s0 s1 ⊢;have ul':(us.map L2.T.int).length=us.length:=ak ..;have r4:∀k,k<4->([2,3,4,5].map rm)[k]?=some (rm (k+2)):=λk hk=>by
    obtain rfl|rfl|rfl|rfl:k=0\/k=1\/k=2\/k=3:=by lia
    all_goals rfl
   have z:∀k(hk:k<us.length),((([2,3,4,5].map rm).zip us).map λx=>(x.1,Rat.divInt x.2 us.sum))[k]?=some (rm (k+2),Rat.divInt (us.getD k 0) us.sum):=λk hk=>by
    rw[aq,List.getElem?_zip_eq_some (z:=(rm (k+2),us.getD k 0)) |>.mpr ⟨r4 k wv,by rw[au,aj hk];rfl⟩]
    rfl
   have ep:(List.range (us.map L2.T.int).length).map (λk=>nwT (rm (k+2),Rat.divInt (us.getD k 0) us.sum))=((([2,3,4,5].map rm).zip us).map λx=>(x.1,Rat.divInt x.2 us.sum)).map nwT:=by
    refine List.ext_getElem? λk=>?_;rw[ul'];by_cases hk:k<us.length
    .rw[aq,VX hk,aq,z k hk]
     rfl
    .rw[aM (by rw[ak,WP];exact VS hk),aM (by rw[ak,ak,WH];omega)]
   refine⟨⟨by lia,by lia⟩,by rw[rng,ak,WP];exact aL (show _<=4 by lia) wx,Ju (λk=>nwT (rm (k+2),Rat.divInt (us.getD k 0) us.sum)) (us.map L2.T.int).length (λk hk N M hN=>?_) (go _ ⟨.fz (.lst ([2,3,4,5].map λk=>L2.T.int (rm k:Nat))),.und,.und,.fz (.lst (us.map L2.T.int)),p,(([2,3,4,5].map rm).zip us).map λx=>(x.1,Rat.divInt x.2 us.sum),by rw[ep];rfl,LDk.mix (rs:=[2,3,4,5].map rm) (aL (WJ kS) n4) (λr hr=>?_) (λw hw=>(kR w hw).1) (show us.length<=4 by exact aL (WJ kS) n4) s0 wv hp⟩)⟩
   .rw[ul']at hk;have ek:us[k]?=some (us.getD k 0):=by rw[au,aj hk];rfl
    have e4:=r4 k wv;rw[aq]at e4;refine⟨.int (rm (k+2):Nat),?_,_,cZ ek,us,rfl,_,_,rfl,s0,eZ wv,hN⟩;show nth _ k=_;rw[vD,aq];cases z2:([2,3,4,5] : zn)[k]? with
    |none=>rw[z2]at e4;cases e4
    |some j=>rw[z2]at e4;injection e4 with e4;show some (L2.T.int (rm j:Nat))=_;rw[show rm j=rm (k+2)from e4]
   .obtain⟨k,_,rfl⟩:=YV.mp hr;exact i9 k
structure DSk(m mo:Nat)(ae:zC):Prop where
 len:ae.length=m
 few:∀ds∈ae,ds.length<=mo
 ok:∀ds∈ae,∀d∈ds,LDk m d
abbrev dsT(ae:zC):wq:=ae.map λds=>ds.map ldT
abbrev Nq(ae:zC):T:=.lst (ae.map λds=>.lst (ds.map ldT))
def agp(ae:zC):frz (.l2 (dsT ae))=Nq ae:=by
 show L2.T.lst ((ae.map λds=>ds.map ldT).map L2.T.lst)=_;rw[WU]
 rfl
def DSk.add{mo:Nat}{ae:zC}(h:DSk m mo ae){ds:List LD}{d:LD}(e:ae[k]?=some ds)(lt:ds.length<mo)(hd:LDk m d):DSk m mo (ae.set k (ds++[d])):=by
 refine⟨by rw[VZ,h.len],λx hx=>?_,λx hx y hy=>?_⟩
 .rcases List.mem_or_eq_of_mem_set hx with z|rfl
  .exact h.few x z
  .rw[aA,List.length_singleton];exact lt
 .rcases List.mem_or_eq_of_mem_set hx with z|rfl
  .exact h.ok x z y hy
  .rcases Y1.mp hy with z|z
   .exact h.ok ds (aC e) y z
   .rw[YR.mp z];exact hd
def aiz{ae:zC}{r:Nat}{ds:List LD}(e:ae[r]?=some ds):ixT ((dsT ae).map L2.T.lst) (r:Nat)=some (.lst (ds.map ldT)):=by
 show nth ((dsT ae).map L2.T.lst) r=_;rw[vD,aq,aq,e];rfl
def Ud:ST:=λts q=>∃(ns:xz)(a m mo:Nat),ts=[scT ns,.int (a:Nat),.int (m:Nat),.int (mo:Nat)]/\ns.length<=100/\m<=300/\mo<=1000/\∀ae:zC,DSk m mo ae->q (.l2 (dsT ae))
def aee(T:Tx D):gT 5 KY yG Ud:=ya T.afZ λF=>by
 refine F.okT Uh (λ_ _=>bG (agb (bH Jl) QX QX ["_law_k"] (dI T.fu (bA wr bC)) (c7 (i:=0)) b_ (cR bC) (gB (i:=4) Uh.nd rfl (Or.inl rfl)))
  (bG (cA (bW yF wr bF)
  (bG (bQ 5 (bO cW (bJ (afz T) (bA wp (bA wo bC))) bF))
  (bG (bQ 6 (bJ (aaU T) (bA wa (bA (bO cW (bO cW (bO ae8 wa bF) bF) (bO dh (bO cI bF wr) bF)) bC))))
  (bI (cY (bZ (bO dh (qv 6) (mR wp (iD (bO dh wo bF)) (iD (bO dh wo bF))))) (bU (n:=99) 7)
  (bG (bQ 8 (bO cW (bK (bJ (aaU T) (bA (qv 7) (bA bF bC))) bF) wr))
  (bI (cA (QH 4 (bW Hx (bT cQ T.dU WG (bA (bK we (qv 8)) bC)) wn))
  (bI (ae6 4 (qv 8) (bJ (afu T) (bA (qv 7) (bA wr bC)))))
  bV)))))))
  bV)
  (bI (iu 4)))) ?_
 rintro _ R ⟨ns,a,m,mo,rfl,nl,m1,mo1,q⟩;have e0:(List.range m).map (λ_=>([] : List L2.T))=dsT (List.replicate m []):=by
  unfold dsT;rw[List.map_replicate,List.map_const',WP]
  rfl
 have h0:DSk m mo (List.replicate m []):=⟨aN,λx hx=>by rw[(List.mem_replicate.mp hx).2];exact aZ _,λx hx y hy=>by rw[(List.mem_replicate.mp hx).2]at hy;cases hy⟩;refine⟨⟨by lia,by lia⟩,by rw[rng,ak,WP];exact aL m1 wx,TV (λ_=>[]) m (λk hk N M hN=>hN) ?_⟩;rw[e0];refine swD (λhm=>?_) λhm=>q _ h0;refine⟨ns,a,rfl,nl,by decide,?_⟩;dsimp only[frz];generalize ns.getD a 0%2147483647=fi;have mz:(0:Int)<2*(m:Nat)+1:=by lia
 obtain⟨n,en,n1⟩ : ∃n:Nat,fi*48271%104729%(2*(m:Nat)+1)=(n:Nat)/\n<=2*m:=⟨(fi*48271%104729%(2*(m:Nat)+1)).toNat,by
  have:=Z3 (fi*48271%104729) (show(2*(m:Nat)+1:Int)≠0 by exact WS mz);lia,by
  have:=YY (fi*48271%104729) mz;have:=Z3 (fi*48271%104729) (show(2*(m:Nat)+1:Int)≠0 by exact WS mz);lia⟩
 refine⟨.inr (by constructor<;>decide),by decide,⟨eZ wx,eZ wv⟩,mz,fi,n,by rw[en];rfl,by lia,?_⟩;have ec:(iV fi n).map L2.T.int++gZ (ns.map L2.T.int) (some ((a:Nat)+1)) (some ((a:Nat)+13))=(iV fi n++gZ ns (some ((a:Nat)+1)) (some ((a:Nat)+13))).map L2.T.int:=by rw[Ar,bf]
 have cl:(gZ ns (some ((a:Nat)+1)) (some ((a:Nat)+13))).length<=100:=by
  unfold gZ;rw[aY,Ts];lia
 show((iV fi n).map L2.T.int).length+(gZ (ns.map L2.T.int) (some ((a:Nat)+1)) (some ((a:Nat)+13))).length<=sizeLine/\_;refine⟨?_,?_⟩
 .rw[Ar,ak,ak,ak,WP];exact aL (show _<=1100 by lia) wx
 dsimp only[frz];rw[ec];have sl:(iV fi n++gZ ns (some ((a:Nat)+1)) (some ((a:Nat)+13))).length<=1100:=by rw[aA,ak,WP];lia
 generalize iV fi n++gZ ns (some ((a:Nat)+1)) (some ((a:Nat)+13))=cs at sl ⊢;generalize iV fi n=ss at ec ⊢;refine dW L2.T.int cs (λ_ o=>∃(ae:zC)(x7 x8:OT),o=[.fz (scT ns),.fz (.int (a:Nat)),.fz (.int (m:Nat)),.fz (.int (mo:Nat)),.l2 (dsT ae),.fz (.int fi),.fz (.lst (ss.map L2.T.int)),x7,x8]/\DSk m mo ae) ⟨_,_,_,rfl,h0⟩ ?_ ?_
 .rintro done c rest _ _ ⟨ae,x7,x8,rfl,h⟩;dsimp only[hName];have mp:(0:Int)<(m:Nat):=by omega
  obtain⟨r,er0,lr0⟩ : ∃r:Nat,strm c 13%(m:Nat)=(r:Nat)/\r<m:=by
   have h1:=Z3 (strm c 13) (show((m:Nat):Int)≠0 by exact WS hm);have h2:=YY (strm c 13) mp;exact⟨(strm c 13%(m:Nat)).toNat,by lia,by lia⟩
  refine⟨c,14,rfl,by decide,_,ji (k:=13),mp,?_⟩;dsimp only[frz];rw[er0];have lr:r<ae.length:=by rwa[h.len]
  have er:=aj lr;refine⟨_,aiz er,swD (λlt=>?_) λ_=>⟨ae,.fz (.int c),.fz (.int (r:Nat)),rfl,h⟩⟩;have lt:((ae[r].map ldT).length:Int)<(mo:Nat):=lt;rw[ak]at lt;refine⟨r,ae[r].map ldT,?_,by rw[aq,er];rfl,by rw[ak];exact aR (show _<1001 by lia) wx,c,m,rfl,by lia,by exact aL m1 wx,λd hd=>⟨ae.set r (ae[r]++[d]),.fz (.int c),.fz (.int (r:Nat)),?_,h.add er wv hd⟩⟩
  .unfold ixN;rw[ak,ZY (X9 _),ZY wv]
   rfl
  .rw[show dsT (ae.set r (ae[r]++[d]))=(dsT ae).set r (ae[r].map ldT++[ldT d])by
    unfold dsT;rw[Th,bf]
    rfl]
   rfl
 .rintro _ ⟨ae,x7,x8,rfl,h⟩;exact q ae h
def oK(ws:zg)(p:Nat×Rat):zg:=if(ws.any λx=>decide (x.1=p.1))=true then ws.map (λx=>if x.1=p.1 then(x.1,x.2+p.2)else x)else ws++[p]
def fP(ps:zg):zg:=ps.foldl oK []
def mY(ps:zg):zg:=(fP ps).filter λp=>!decide (p.2=0)
abbrev nmP(ns:Φ)(p:Nat×Rat):Str×Rat:=(ns.getD p.1 ⟨#[]⟩,p.2)
def P0(nd:ns.Nodup)(hi:i<ns.length)(hj:j<ns.length):(ns.getD i ⟨#[]⟩=ns.getD j ⟨#[]⟩)↔i=j:=by
 constructor
 .intro h;rw[au,au,aj hi,aj hj]at h;rcases Nat.lt_trichotomy i j with l|l|l
  .exact absurd h ((List.pairwise_iff_getElem.mp nd) i j hi hj l)
  .exact l
  .exact absurd h.symm ((List.pairwise_iff_getElem.mp nd) j i hj hi l)
 .intro h;rw[h]
def ajE(nd:ns.Nodup){p:Nat×Rat}(hw:∀w∈ws,w.1<ns.length)(hp:p.1<ns.length):addW (ws.map (nmP ns)) (nmP ns p)=(oK ws p).map (nmP ns):=by
 have an:((ws.map (nmP ns)).any λx=>decide (x.1=(nmP ns p).1))=ws.any λx=>decide (x.1=p.1):=by
  rw[UK];refine Bool.eq_iff_iff.mpr ⟨λh=>?_,λh=>?_⟩
  .obtain⟨x,hx,e⟩:=List.any_eq_true.mp h;exact List.any_eq_true.mpr ⟨x,hx,Zs ((P0 nd (hw x hx) hp).mp (of_decide_eq_true e))⟩
  .obtain⟨x,hx,e⟩:=List.any_eq_true.mp h;exact List.any_eq_true.mpr ⟨x,hx,Zs ((P0 nd (hw x hx) hp).mpr (of_decide_eq_true e))⟩
 unfold addW oK;rw[an];split
 .rw[WU,WU];refine UX λx hx=>?_;show(if(nmP ns x).1=(nmP ns p).1 then _ else _)=nmP ns (if x.1=p.1 then _ else _);by_cases e:x.1=p.1
  .rw[ZY e,ZY ((P0 nd (hw x hx) hp).mpr e)]
  .rw[ZZ e,ZZ λz=>e ((P0 nd (hw x hx) hp).mp z)]
 .rw[bf];rfl
def Jj{p w:Nat×Rat}(h:w∈oK ws p):(w∈ws/\w.1≠p.1)\/w=p\/∃x∈ws,x.1=p.1/\w=(x.1,x.2+p.2):=by
 unfold oK at h;split at h
 .obtain⟨x,hx,rfl⟩:=YV.mp h;by_cases e:x.1=p.1
  .rw[ZY e];exact .inr (.inr ⟨x,hx,e,rfl⟩)
  .rw[ZZ e];exact .inl ⟨hx,e⟩
 .rename_i n
  rcases Y1.mp h with z|z
  .exact .inl ⟨z,λe=>n (List.any_eq_true.mpr ⟨w,z,Zs e⟩)⟩
  .exact .inr (.inl (YR.mp z))
def Zg(nd:ns.Nodup)(h:∀p∈ps,p.1<ns.length):j8 (ps.map (nmP ns))=(fP ps).map (nmP ns):=by
 suffices H:∀(ps ws:zg),(∀p∈ps,p.1<ns.length)->(∀w∈ws,w.1<ns.length)->(ps.map (nmP ns)).foldl addW (ws.map (nmP ns))=(ps.foldl oK ws).map (nmP ns)from H ps [] h λ_ z=>(nomatch z)
 intro ps
 induction ps with
 |nil=>exact λ_ _ _=>rfl
 |cons p ps ih =>
  intro ws hp hw;rw[List.map_cons,List.foldl_cons,List.foldl_cons,ajE nd hw (hp p (aO ..))];refine ih _ (λq hq=>hp q (aJ _ hq)) λw hm=>?_;rcases Jj hm with⟨z,_⟩|rfl|⟨x,hx,_,rfl⟩
  .exact hw w z
  .exact hp w (aO ..)
  .exact hw x hx
def afB(nd:ns.Nodup)(h:∀p∈ps,p.1<ns.length):Ez (ps.map (nmP ns))=(mY ps).map (nmP ns):=by
 unfold Ez mY;rw[Zg nd h,List.filter_map]
 rfl
def R6(hq:0<q):r.den ∣ q↔∃x:Int,r=Rat.divInt x q:=by
 constructor
 .rintro⟨k,rfl⟩;refine⟨r.num*k,?_⟩;have hk:((k:Nat):Int)≠0:=λz=>by rw[show k=0 by lia]at hq;lia
  conv=>lhs;rw[<- rd r]
  refine(QY (ou r) (by push_cast;exact pB (ou r) hk)).mpr ?_
  push_cast
  grind
 .rintro⟨x,rfl⟩;have:=PL (a:=x) (b:=(q:Nat)) wv;exact this
def Lh{a b:Rat}(hq:0<q)(ha:a.den ∣ q)(hb:b.den ∣ q):(a+b).den ∣ q:=by
 obtain⟨x,rfl⟩:=(R6 hq).mp ha;obtain⟨y,rfl⟩:=(R6 hq).mp hb;have h0:((q:Nat):Int)≠0:=by lia
 refine(R6 hq).mpr ⟨x+y,?_⟩;rw[QU _ _ h0 h0];refine(QY (pB h0 h0) h0).mpr ?_
 grind
structure JnI(m q:Nat)(as ws:zg):Prop where
 nd:(ws.map (·.1)).Nodup
 lt:∀w∈ws,w.1<m
 nn:∀w∈ws,0<=w.2
 dn:∀w∈ws,w.2.den ∣ q
 sum:∀y:Nat->Rat,dw ws y=dw as y
 few:ws.length<=as.length
def JM(as bs:zg)(y:Nat->Rat):dw (as++bs) y=dw as y+dw bs y:=by
 induction as with
 |nil=>show dw bs y=0+_;rw[JU]
 |cons a as ih=>rw[List.cons_append,dz,dz,ih,Rat.add_assoc]
def Wz(p:Nat×Rat)(y:Nat->Rat):dw [p] y=p.2*y p.1:=by rw[dz];show _+0=_;rw[Rat.add_zero]
def ai5{p:Nat×Rat}(nd:(ws.map (·.1)).Nodup)(y:Nat->Rat):dw (oK ws p) y=dw ws y+p.2*y p.1:=by
 unfold oK;split
 .rename_i h
  induction ws with
  |nil=>cases h
  |cons x ws ih =>
   obtain⟨n1,n2⟩:=List.nodup_cons.mp nd;rw[List.map_cons,dz,dz];by_cases e:x.1=p.1
   .rw[ZY e];have rest:ws.map (λx=>if x.1=p.1 then(x.1,x.2+p.2)else x)=ws:=by
     conv=>rhs;rw[<- List.map_id ws]
     refine UX λz hz=>?_;rw[ZZ λw=>n1 (YV.mpr ⟨z,hz,w.trans e.symm⟩)]
     rfl
    rw[rest,<- e];show(x.2+p.2)*y x.1+dw ws y=_
    grind
   .rw[ZZ e,ih n2 (by
     rw[List.any_cons,Zp e,Bool.false_or]at h;exact h)]
    grind
 .rw[JM,Wz]
def adT{p:Nat×Rat}(nd:(ws.map (·.1)).Nodup):((oK ws p).map (·.1)).Nodup:=by
 unfold oK;by_cases h:(ws.any λx=>decide (x.1=p.1))=true
 .rw[ZY h,WU];rw[show ws.map ((λx=>x.1) ∘ λx=>if x.1=p.1 then(x.1,x.2+p.2)else x)=ws.map (·.1)from UX λx _=>by show(if x.1=p.1 then(x.1,x.2+p.2)else x).1=x.1;split<;>rfl];exact nd
 .rw[ZZ h,bf];refine List.nodup_append.mpr ⟨nd,by simp,λa ha b hb z=>h ?_⟩;obtain⟨x,hx,rfl⟩:=YV.mp ha;rw[List.map_singleton,YR]at hb;exact List.any_eq_true.mpr ⟨x,hx,Zs (z.trans hb)⟩
def ae3(hq:0<q){as:zg}{p:Nat×Rat}(hp:p.1<m/\0<=p.2/\p.2.den ∣ q)(h:JnI m q as ws):JnI m q (as++[p]) (oK ws p):=by
 refine⟨adT h.nd,λw hw=>?_,λw hw=>?_,λw hw=>?_,λy=>by rw[ai5 h.nd,h.sum,JM,Wz],?_⟩
 .rcases Jj hw with⟨z,_⟩|rfl|⟨x,hx,_,rfl⟩
  .exact h.lt w z
  .exact hp.1
  .exact h.lt x hx
 .rcases Jj hw with⟨z,_⟩|rfl|⟨x,hx,_,rfl⟩
  .exact h.nn w z
  .exact hp.2.1
  .have:=h.nn x hx;have:=hp.2.1;show 0<=x.2+p.2
   grind
 .rcases Jj hw with⟨z,_⟩|rfl|⟨x,hx,_,rfl⟩
  .exact h.dn w z
  .exact hp.2.2
  .exact Lh hq (h.dn x hx) hp.2.2
 .have:=h.few;unfold oK;split
  .rw[ak,aA];exact aL this (X1 _ _)
  .rw[aA,aA];simp;omega
def Gq(hq:0<q):∀{ps:zg},(∀p∈ps,p.1<m/\0<=p.2/\p.2.den ∣ q)->JnI m q ps (fP ps):=by
 intro ps h
 suffices H:∀(ps as ws:zg),(∀p∈ps,p.1<m/\0<=p.2/\p.2.den ∣ q)->JnI m q as ws->JnI m q (as++ps) (ps.foldl oK ws)from H ps [] [] h ⟨.nil,λ_ z=>(nomatch z),λ_ z=>(nomatch z),λ_ z=>(nomatch z),λ_=>rfl,aG _⟩
 intro ps
 induction ps with
 |nil=>intro as ws _ h;rwa[List.append_nil]
 |cons p ps ih =>
  intro as ws hp h;have:=ih (as++[p]) (oK ws p) (λx hx=>hp x (aJ _ hx)) (ae3 hq (hp p (aO ..)) h);rw[Wp]at this;exact this
theorem Ge(y:Nat->Rat):∀ws:zg,dw (ws.filter λp=>!decide (p.2=0)) y=dw ws y
 |[]=>rfl
 |w::ws=>by
  by_cases e:w.2=0
  .rw[List.filter_cons_of_neg (by rw[Zs e];decide),Ge y ws,dz,e,Rat.zero_mul,JU]
  .rw[List.filter_cons_of_pos (by rw[Zp e];rfl),dz,dz,Ge y ws]
def Rr(hq:0<q)(h:∀p∈ps,p.1<m/\0<=p.2/\p.2.den ∣ q):JnI m q ps (mY ps):=by
 have j:=Gq hq h;have sub:∀w∈mY ps,w∈fP ps:=λw hw=>(List.mem_filter.mp hw).1;refine⟨(List.filter_sublist.map _).nodup j.nd,λw hw=>j.lt w (sub w hw),λw hw=>j.nn w (sub w hw),λw hw=>j.dn w (sub w hw),λy=>?_,aL (List.length_filter_le ..) j.few⟩;unfold mY;rw[Ge,j.sum]
theorem lJ{w:Nat×Rat} : ∀{ws:zg},(∀w∈ws,0<=w.2)->w∈ws->w.2<=dw ws λ_=>1
 |[],_,h=>by cases h
 |x::ws,nn,h=>by
  rw[dz];have n0:∀ws:zg,(∀w∈ws,0<=w.2)->0<=dw ws λ_=>1:=λws=>by
   induction ws with
   |nil=>intro _;exact W1
   |cons y ws ih =>
    intro h;rw[dz];have:=h y (aO ..);have:=ih λw hw=>h w (aJ _ hw)
    grind
  rcases YU.mp h with rfl|z
  .have:=n0 ws λw hw=>nn w (aJ _ hw)
   grind
  .have:=lJ (ws:=ws) (λw hw=>nn w (aJ _ hw)) z;have:=nn x (aO ..)
   grind
theorem Ay:∀ps:zg,(dw ps λ_=>1)=DX (ps.map (·.2))
 |[]=>rfl
 |p::ps=>by
  rw[dz,Ay ps,Rat.mul_one]
  rfl
def LDk.all{d:LD}(h:LDk m d):∃q:Nat,0<q/\q<=4000/\∀p∈d.prs,p.1<m/\0<=p.2/\p.2.den ∣ q:=by
 obtain⟨q,q0,q1,hq⟩:=h.dn;exact⟨q,q0,q1,λp hp=>⟨h.lt p hp,h.nn p hp,hq p hp⟩⟩
def ab2(q0:0<q)(q1:q<=4000)(h0:0<=r)(h1:r<=1)(hd:r.den ∣ q):Ch r:=⟨h0,h1,eZ (by have:=UZ q0 hd;lia)⟩
def LDk.prsOk{d:LD}(h:LDk m d)(hn:Nms ns m):Prs (d.prs.map (nmP ns)):=by
 obtain⟨q,q0,q1,hq⟩:=h.all;have le1:∀p∈d.prs,p.2<=1:=λp hp=>by
  rw[<- h.one,<- Ay];exact lJ h.nn hp
 have few:=h.few;have m2:(d.prs.map (nmP ns)).map (·.2)=d.prs.map (·.2):=by rw[WU];rfl
 refine⟨by rw[ak];exact aL few wx,λp hp=>?_,?_,by rw[m2];exact h.one,λas a bs e=>?_⟩
 .obtain⟨x,hx,rfl⟩:=YV.mp hp;obtain⟨x1,x2,x3⟩:=hq x hx;have lx:x.1<ns.length:=by rwa[hn.len]
  refine⟨hn.wd _ ?_,ab2 q0 q1 x2 (le1 x hx) x3⟩;show ns.getD x.1 ⟨#[]⟩∈ns;rw[au,aj lx];exact aU lx
 .rw[m2];have:=vQ (d.prs.map (·.2)) (n:=1) (m:=q) (JS _) λr hr=>by
   obtain⟨x,hx,rfl⟩:=YV.mp hr;exact(hq x hx).2.2
  have:=UZ q0 this;exact eZ wv
 .obtain⟨i5,bs',e0,rfl,e2⟩:=List.map_eq_append_iff.mp e;obtain⟨a',cs',rfl,rfl,rfl⟩:=List.map_eq_cons_iff.mp e2;have sub:∀p∈i5,p∈d.prs:=λp hp=>e0 ▸ UU _ hp;have ha:=hq a' (e0 ▸ aP _ (aO ..));have ca:Ch a'.2:=ab2 q0 q1 ha.2.1 (le1 a' (e0 ▸ aP _ (aO ..))) ha.2.2;have j:=Gq q0 (ps:=i5) (m:=m) λp hp=>hq p (sub p hp);rw[Zg hn.nd λp hp=>by rw[hn.len];exact(hq p (sub p hp)).1];have cn:Ch (BX ((fP i5).map (nmP ns)) (nmP ns a').1):=by
   unfold BX;cases ef:((fP i5).map (nmP ns)).find? λx=>decide (x.1=(nmP ns a').1)with
   |none=>exact⟨W1,by show(0:Rat)<=1;decide,eZ wx⟩
   |some x =>
    obtain⟨y,hy,rfl⟩:=YV.mp (List.mem_of_find?_eq_some ef);refine ab2 q0 q1 (j.nn y hy) ?_ (j.dn y hy);have l1:=lJ j.nn hy;rw[j.sum]at l1;have l2:=h.one;rw[<- Ay,e0,JM]at l2;have l3:0<=dw (a'::cs') λ_=>1:=by
     have:∀ws:zg,(∀w∈ws,0<=w.2)->0<=dw ws λ_=>1:=λws=>by
      induction ws with
      |nil=>intro _;exact W1
      |cons y ws ih =>
       intro h;rw[dz];have:=h y (aO ..);have:=ih λw hw=>h w (aJ _ hw)
       grind
     exact this _ λw hw=>h.nn w (e0 ▸ aP _ hw)
    show y.2<=1
    grind
  refine⟨cn.bq,ca.bq,?_⟩;have:=cn.2.2;have:=UZ q0 ha.2.2;have oB:(BX ((fP i5).map (nmP ns)) (nmP ns a').1).den<=4000:=by
   unfold BX;cases ef:((fP i5).map (nmP ns)).find? λx=>decide (x.1=(nmP ns a').1)with
   |none=>exact UT rfl
   |some x =>
    obtain⟨y,hy,rfl⟩:=YV.mp (List.mem_of_find?_eq_some ef);have:=UZ q0 (j.dn y hy);exact aL this q1
  refine eZ ?_;rw[VV,XT,XT];exact Y3 (VU oB (show a'.2.den<=4000 by exact aL this q1)) wx
def clsOf(D:Adr):Nat->Addr
 |1=>D.Toss
 |2=>D.Even
 |3=>D.Mixed
 |_=>D.Sure
abbrev afs(t:Str)(d:LD):bN:=⟨t,d.pay,mY d.prs⟩
abbrev yQ(D:Adr)(t:Str)(d:LD):Made:=⟨clsOf D d.sort,afs t d⟩
def adw(D:Adr):∀k,dg D (clsOf D k)
 |0=>by unfold dg clsOf;simp
 |1=>by unfold dg clsOf;simp
 |2=>by unfold dg clsOf;simp
 |3=>by unfold dg clsOf;simp
 |_+4=>by unfold dg clsOf;simp
def Vl(D:Adr):ST:=λts q=>∃(t:Str)(d:LD)(ns:Φ)(m:Nat),ts=[.str t,ldT d,.lst (ns.map T.str)]/\Wd t/\Nms ns m/\LDk m d/\q (.fz (mdT ns (yQ D t d)))
theorem abO(T:Tx D):gT 8 LK xZ (Vl D):=ya T.aeu λF=>by
 refine F.okT Ul (λhr _=>bG (Ym wo (dB (n:=3) (bM (bU (n:=99) 4) (bM (bU (n:=99) 5) (bM (bU (n:=99) 6) cL)))))
  (bG (i_ (bH FQ) Dw Dw ["_law_room","_law_chance"] (bZ (qv 6)) (dB (n:=2) (bM (c7 (i:=0)) (bM (c7 (i:=1)) cL))) b_ (dY (bA (bK we wp) (bA wo bC))) (gB (i:=3) Ul.nd rfl (Or.inl rfl)))
  (bG (cA (bW (go_eq hr.units) we bF)
  (bI (bR (Ft T.agu (Tf T) T.ahu (bA wp (bA wa (bA (bK (bK wn bF) bF) (bA (bK (bK wn bF) bF) (bA (bK (bK wn bF) bF) bC))))))))
  bV)
  (bG (cA (bW (go_eq hr.units) we bF)
  (bI (bR (Ft T.agC (QM T) T.ahd (bA wp (bA wa (bA (cD (bH FQ) Dw Dw ["_law_room","_law_chance"] (bZ wn) (dB (n:=2) (bM (c7 (i:=0)) (bM (c7 (i:=1)) cL))) b_ wp) bC))))))
  bV)
  (bG (cA (bW (go_eq hr.units) we bF)
  (bI (bR (Ft T.abv (NQ T) T.Tn (bA wp (bA wa (bA wn bC))))))
  bV)
  (bI (bR (Ft T.aeY (Pq T) T.aij (bA wp (bA wa (bA (bK (bK wn bF) bF) bC))))))))))) ?_
 rintro _ R ⟨t,d,ns,m,rfl,wt,hn,hd,q⟩;have few:=hd.few;have en:∀p∈d.prs,ixT (ns.map L2.T.str) (p.1:Nat)=some (.str (nmP ns p).1):=λp hp=>by
  have lp:p.1<ns.length:=by rw[hn.len];exact hd.lt p hp
  exact cZ (by rw[aj lp];show _=some (ns.getD p.1 ⟨#[]⟩);rw[au,aj lp];rfl)
 have em:(d.prs.map (nmP ns)).map wyT=d.prs.map λp=>wyT (nmP ns p):=by rw[WU];rfl
 have pk:=hd.prsOk hn;have wk:=afB hn.nd (ps:=d.prs) λp hp=>by rw[hn.len];exact hd.lt p hp
 refine⟨rfl,by rw[ak];exact aL few wx,comp_map nwT (λp=>wyT (nmP ns p)) d.prs (λp hp N M hN=>⟨rfl,_,en p hp,hN⟩) ?_⟩;rw[<- em];obtain⟨so,pay,prs⟩:=d;have s4:so<5:=hd.sort;have s0:=hd.s0;have s1:=hd.s1;have s2:=hd.s2;dsimp only at *;obtain rfl|rfl|rfl|rfl|rfl:so=0\/so=4\/so=1\/so=2\/so=3:=by lia
 .obtain⟨a,rfl⟩:=s0 (.inl rfl);have e1:mY [(a,1)]=[(a,1)]:=by simp[mY,fP,oK]
  have q':R (.fz (drT D.Sure t pay ([(a,1)].map (nmP ns)))):=by rwa[<- e1]
  exact⟨_,rfl,t,_,pay,rfl,rfl,V6 D,rfl,wt,(pk.ok (nmP ns (a,1)) (YR.mpr rfl)).1,q'⟩
 .obtain⟨a,rfl⟩:=s0 (.inr rfl);have e1:mY [(a,1)]=[(a,1)]:=by simp[mY,fP,oK]
  have q':R (.fz (drT D.Sure t pay ([(a,1)].map (nmP ns)))):=by rwa[<- e1]
  exact⟨_,rfl,t,_,pay,rfl,rfl,V6 D,rfl,wt,(pk.ok (nmP ns (a,1)) (YR.mpr rfl)).1,q'⟩
 .obtain⟨a,b,x,rfl⟩:=s1 rfl;have q':R (.fz (drT D.Toss t pay (Ez ([(a,x),(b,1-x)].map (nmP ns))))):=by rwa[wk]
  exact⟨_,rfl,_,rfl,_,rfl,t,_,_,pay,x,rfl,rfl,adG D,rfl,wt,(pk.ok (nmP ns (a,x)) (aO ..)).2,pk,q'⟩
 .obtain⟨rs,rfl⟩:=s2 rfl;have q':R (.fz (drT D.Even t pay (Ez ((rs.map λr=>(r,mkRat 1 rs.length)).map (nmP ns))))):=by rwa[wk]
  have ev:even (((rs.map λr=>(r,mkRat 1 rs.length)).map (nmP ns)).map (·.1))=(rs.map λr=>(r,mkRat 1 rs.length)).map (nmP ns):=by
   have el:(((rs.map λr=>(r,mkRat 1 rs.length)).map (nmP ns)).map (·.1)).length=rs.length:=by simp
   unfold even;rw[el];simp[Function.comp_def]
  refine⟨by rw[ak,ak];exact aL few wx,comp_map wyT (λp=>.str p.1) ((rs.map λr=>(r,mkRat 1 rs.length)).map (nmP ns)) (λp hp N M hN=>⟨rfl,hN⟩) ⟨t,pay,((rs.map λr=>(r,mkRat 1 rs.length)).map (nmP ns)).map (·.1),rfl,rfl,abL D,?_,wt,by rw[ev];exact pk,?_⟩⟩
  .rw[show(((rs.map λr=>(r,mkRat 1 rs.length)).map (nmP ns)).map (·.1)).map L2.T.str=((rs.map λr=>(r,mkRat 1 rs.length)).map (nmP ns)).map λp=>L2.T.str p.1 from WU]
   rfl
  .rw[ev];exact q'
 .have q':R (.fz (drT D.Mixed t pay (Ez (prs.map (nmP ns))))):=by rwa[wk]
  exact⟨t,pay,prs.map (nmP ns),rfl,rfl,aat D,rfl,wt,pk,q'⟩
structure Hq(ae:zC)(off:zd):Prop where
 len:off.length=ae.length
 at_:∀(k:Nat)ds os,ae[k]?=some ds->off[k]?=some os->∃tl:Φ,tl.length=ds.length/\os=(tl.zip ds).map λp=>afs p.1 p.2
theorem T3{α β:Type} : ∀{xs:List α}{ys:List β}{x:α}(y:β),xs[ys.length]?=some x->xs.zip (ys++[y])=xs.zip ys++[(x,y)]
 |[],ys,_,_,e=>by cases e
 |a::xs,[],x,y,e=>by cases e;simp
 |a::xs,b::ys,x,y,e=>by
  rw[List.cons_append,List.zip_cons_cons,List.zip_cons_cons,T3 (xs:=xs) (ys:=ys) y (by simpa using e)]
  rfl
def Z0(D:Adr):ST:=λts q=>∃(c:Int)(s:Rat)(m mo:Nat)(ae:zC),ts=[.int c,frR s,Nq ae]/\Shr s/\DSk m mo ae/\m<=26/\mo<=26/\∀ns off,Nms ns m->Nf ns off->Hq ae off->q (.fz (hlT D s ns off))
def afw(T:Tx D):gT 9 RX Dm (Z0 D):=ya T.aiS λ{f fd}F=>by
 refine F.okT afO (λ_ _=>bG (bQ 3 (bJ (adh T) (bA wp (bA (bT cQ T.dU WG (bA wr bC)) bC))))
  (bG (gK 4 (cR bC))
  (bG (cY (dI T.fu (bA (bT cQ T.dU WG (bA wr bC)) bC)) (bU (n:=99) 5)
  (bG (bQ 6 (bJ (adh T) (bA (bO dh wp wa) (bA (bT cQ T.dU WG (bA (bK wr wa) bC)) bC))))
  (bI (uh 4 (dY (bA (bK wn wa) (bA (cD (bH PX) Yd Yd ["_law_title","_law_door_here"] (BZ T.HB (bA (qv 6) (bA (bK wr wa) bC))) (dB (n:=2) (bM (c7 (i:=0)) (bM (c7 (i:=1)) cL))) b_ (bJ (abO T) (bA wp (bA wo (bA wa bC))))) bC)))))))
  (bI (Tr 4 (bR (Ft T.aeo (Q9 T) T.ahW (bA wo (bA we bC))))))))) ?_
 rintro _ R ⟨c,s,m,mo,ae,rfl,hs,hd,m1,mo1,q⟩;have dl:(ae.map λds=>L2.T.lst (ds.map ldT)).length=m:=by rw[ak,hd.len]
 refine⟨c,m,by rw[<- dl];rfl,m1,λns hn=>?_⟩;have nl:=hn.len;have e0:BW ns []=[]:=by simp[BW]
 refine⟨⟨by rw[dl];lia,by rw[dl];lia⟩,lX (λk o=>∃(ms:xS)(x5 x6:OT),o=[.fz (.int c),.fz (frR s),.fz (Nq ae),.fz (.lst (ns.map L2.T.str)),.l1 (BW ns ms),x5,x6]/\ms.length=k/\∀(i:Nat)ds x,ae[i]?=some ds->ms[i]?=some x->∃tl,Nms tl ds.length/\x=(tl.zip ds).map λp=>yQ D p.1 p.2) ⟨[],.und,.und,by rw[e0];rfl,rfl,λi ds x _ z=>by cases z⟩ ?_ ?_⟩
 .rintro k _ hk ⟨ms,x5,x6,rfl,lm,hm⟩;have hk:k<m:=by rw[dl]at hk;lia
  have lk:k<ae.length:=by rwa[hd.len]
  have ek:=aj lk;have mem:=aU lk;have fk:=hd.few _ mem;have exk:ixT (ae.map λds=>L2.T.lst (ds.map ldT)) (k:Nat)=some (.lst (ae[k].map ldT)):=cZ ek;have nk:ns[k]?=some (ns.getD k ⟨#[]⟩):=by rw[au,aj wv];rfl
  refine⟨_,exk,c+k,ae[k].length,by rw[<- ak (as:=ae[k]) (f:=ldT)];rfl,by exact aL fk mo1,λtl ht=>?_⟩;refine⟨_,cZ nk,_,exk,?_⟩;have zl:(tl.zip ae[k]).length<=26:=by rw[WH];lia
  show(B_ (tl.map L2.T.str) (ae[k].map ldT)).length<=sizeLine/\ig _ _ _ _ (B_ (tl.map L2.T.str) (ae[k].map ldT)) _;rw[Aa];refine⟨by rw[ak];exact aL zl wx,comp_map (λp=>.tup [.str p.1,ldT p.2]) (λp=>mdT ns (yQ D p.1 p.2)) (tl.zip ae[k]) (λp hp N M hN=>⟨rfl,p.1,p.2,ns,m,rfl,ht.wd _ (UV hp).1,hn,hd.ok _ mem _ (UV hp).2,hN⟩) ⟨?_,ms++[(tl.zip ae[k]).map λp=>yQ D p.1 p.2],.fz (.int (k:Nat)),.fz (.lst (tl.map L2.T.str)),?_,by rw[aA,lm];rfl,λi ds x e1 e2=>?_⟩⟩
  .rw[ak,WH];exact aR (show _<1000 by lia) wx
  .rw[show BW ns (ms++[(tl.zip ae[k]).map λp=>yQ D p.1 p.2])=BW ns ms++[.tup [.str (ns.getD k ⟨#[]⟩),.lst ((tl.zip ae[k]).map λp=>mdT ns (yQ D p.1 p.2))]]by
    unfold BW;rw[T3 (x:=ns.getD k ⟨#[]⟩) _ (by rwa[lm]),bf,List.map_singleton]
    congr 2
    show rmT (_,((tl.zip ae[k]).map λp=>yQ D p.1 p.2).map (mdT ns))=_;rw[WU]
    rfl]
   rfl
  .by_cases hi:i<ms.length
   .rw[aF hi]at e2;exact hm i ds x e1 e2
   .have li:=(ao.mp e2).1;rw[aA,List.length_singleton]at li;have:i=k:=by lia
    subst this;rw[aD (WJ lm),show i-ms.length=0 by lia]at e2;cases e2;rw[ek]at e1;cases e1;exact⟨tl,ht,rfl⟩
 .rintro _ ⟨ms,x5,x6,rfl,lm,hm⟩;have lm:ms.length=m:=by rwa[lm]
  have all:∀x∈ms,∃ds∈ae,∃tl,Nms tl ds.length/\x=(tl.zip ds).map λp=>yQ D p.1 p.2:=λx hx=>by
   obtain⟨i,hi⟩:=aV hx;have li:=(ao.mp hi).1;have ld:i<ae.length:=by rw[hd.len];exact aR li (WJ lm)
   exact⟨_,aU ld,hm i _ x (aj ld) hi⟩
  have rk:agO D ns ms:=by
   refine⟨by rw[lm,nl],by lia,hn.wd,hn.nd,λx hx=>?_⟩;obtain⟨ds,dS,tl,ht,rfl⟩:=all x hx;have fd:=hd.few ds dS;have tll:=ht.len;refine⟨by rw[ak,WH];lia,λy hy=>?_,λy hy=>?_,?_⟩
   .obtain⟨p,_,rfl⟩:=YV.mp hy;exact adw D _
   .obtain⟨p,hp,rfl⟩:=YV.mp hy;have lk:=hd.ok ds dS p.2 (UV hp).2;obtain⟨qq,q0,q1,hq⟩:=lk.all;have j:=Rr q0 hq;have:=j.few;have:=lk.few;exact⟨by show(mY p.2.prs).length<=1000;lia,λw hw=>by rw[nl];exact j.lt w hw⟩
   .rw[WU];show((tl.zip ds).map λp=>p.1).Nodup;rw[List.map_fst_zip (WJ tll)];exact ht.nd
  have bs:Bq s:=⟨eZ (by
   have h0:=Rat.num_nonneg.mpr hs.lo;have h1:=(Rat.lt_iff s 1).mp hs.hi;have h1:s.num*((1:Rat).den:Int)<(1:Rat).num*(s.den:Int):=h1;have:=hs.den;simp at h1;lia),eZ (by have:=hs.den;lia)⟩
  refine⟨s,ns,ms,rfl,rfl,rfl,rfl,hs.lo,hs.hi,bs,rk,q ns (offs ms) hn ⟨?_,by lia,λos mB=>?_⟩ ⟨?_,λk ds os e1 e2=>?_⟩⟩
  .rw[ak,lm,nl]
  .obtain⟨x,hx,rfl⟩:=YV.mp mB;rw[ak];exact(rk.mds x hx).few
  .rw[ak,lm,hd.len]
  .rw[aq]at e2;cases e3:ms[k]? with
   |none=>rw[e3]at e2;cases e2
   |some x =>
    rw[e3]at e2;cases e2;obtain⟨tl,ht,rfl⟩:=hm k ds x e1 e3;exact⟨tl,ht.len,WU⟩
open Rw (sg jw iZ cj jK jW Big)
def yD{i:Int}(h:i.natAbs<=10^n)(hn:n<=2400):Bd i:=Y3 (aL h (XU wx hn)) (by decide +kernel)
def GX{A:Nat}(h1:r<=(A:Rat))(h2 : -(A:Rat)<=r):r.num.natAbs<=A*r.den:=by
 have a:=(Rat.le_iff r (A:Rat)).mp h1;have b:=(Rat.le_iff (-(A:Rat)) r).mp h2;have a:r.num*((1:Nat):Int)<=(A:Int)*(r.den:Int):=a;have b : -(A:Int)*(r.den:Int)<=r.num*((1:Nat):Int):=b;have c:((A*r.den:Nat):Int)=(A:Int)*r.den:=Qr ..;rw[Int.neg_mul]at b;omega
open Rw (sg jw iZ cj jK jW RG Big)
def T7(f:Nat->Nat->Rat)(m:Nat):xE:=(List.range m).map λi=>(List.range m).map λj=>f i j
def Dl(f:Nat->Nat->Rat)(m:Nat):(T7 f m).length=m:=by unfold T7;rw[ak,WP]
def acp{f:Nat->Nat->Rat} : ∀r∈T7 f m,r.length=m:=λr hr=>by
 obtain⟨i,_,rfl⟩:=YV.mp hr;rw[ak,WP]
abbrev Yg(f:Nat->Nat->Rat)(b:Nat->Rat)(m:Nat):xE:=aai (T7 f m) ((List.range m).map b)
def yj(f:Nat->Nat->Rat)(b:Nat->Rat)(m:Nat):(Yg f b m).length=m:=by rw[JY,Dl,ak,WP,Up]
def Qh{f:Nat->Nat->Rat}(h:i<m):(Yg f b m)[i]?=some (((List.range m).map λj=>f i j)++[b i]):=by
 unfold Yg T7;rw[List.getElem?_zipWith,aq,VX h,aq,VX h]
 rfl
def JV{f:Nat->Nat->Rat}{r:zS}(hr:r∈Yg f b m):∃i,i<m/\r=((List.range m).map λj=>f i j)++[b i]:=by
 obtain⟨i,e⟩:=aV hr;have hi:i<m:=by have:=(ao.mp e).1;rw[yj]at this;exact this
 rw[Qh hi]at e;exact⟨i,hi,(Option.some.inj e).symm⟩
def TJ{f:Nat->Nat->Rat}(y:Nat->Rat):sg (λj=>(((List.range m).map λj=>f i j)++[b i]).getD j 0*y j) m=sg (λj=>f i j*y j) m/\(((List.range m).map λj=>f i j)++[b i]).getD m 0=b i:=by
 have l:((List.range m).map λj=>f i j).length=m:=by rw[ak,WP]
 refine⟨cj λj hj=>?_,?_⟩
 .rw[au,aF (by rwa[l]),aq,VX hj];rfl
 .rw[au,aD (by rw[l];exact aG _),l,UH];rfl
def aoe{f:Nat->Nat->Rat}{y:Nat->Rat}(h:∀r∈Yg f b m,sg (λj=>r.getD j 0*y j) m=r.getD m 0):∀i,i<m->sg (λj=>f i j*y j) m=b i:=λi hi=>by
 have:=h _ (aC (Qh hi));rw[(TJ y).1,(TJ y).2]at this;exact this
def akW{f:Nat->Nat->Rat}{A Q:Nat}{q:Nat->Nat}(few:m<=100)(hA:1<=A)(q0:∀i,i<m->0<q i/\q i<=Q)(hc:∀i j,i<m->j<m->(f i j).den ∣ q i/\(f i j).num.natAbs<=A*(f i j).den)(hb:∀i,i<m->(b i).den ∣ q i/\(b i).num.natAbs<=A*(b i).den)(hQ:1<=Q)(mb:(2*m*(A*Q))^m<=NN)(nn:A*Q<=NN)(inj:∀x:Nat->Rat,(∀i,i<m->sg (λj=>f i j*x j) m=0)->∀j,j<m->x j=0):Sys (Yg f b m) (A*Q):=by
 have all:∀i,i<m->∀c∈((List.range m).map λj=>f i j)++[b i],c.den ∣ q i/\c.num.natAbs<=A*c.den:=λi hi c df=>by
  rcases Y1.mp df with z|z
  .obtain⟨j,hj,rfl⟩:=YV.mp z;exact hc i j hi (List.mem_range.mp hj)
  .rw[YR.mp z];exact hb i hi
 refine⟨λr hr=>?_,by rw[yj];exact few,λr hr=>?_,λr hr c hm=>?_,Nat.mul_pos hA hQ,by rw[yj];exact mb,nn,?_⟩
 .obtain⟨i,hi,rfl⟩:=JV hr;rw[yj,aA,ak,WP];rfl
 .obtain⟨i,hi,rfl⟩:=JV hr;exact(aeW hA (q0 i hi).1 (all i hi)).le (Zzz _ (q0 i hi).2)
 .obtain⟨i,hi,rfl⟩:=JV hr;obtain⟨a,c⟩:=all i hi c hm;exact bdN (aL c (aL (Zzz _ (aL (UZ (q0 i hi).1 a) (q0 i hi).2)) nn))
 .rw[yj];intro x h0 hx;refine inj x λi hi=>?_;have:=hx _ (aC (Qh hi));have e:sg (λj=>(((List.range m).map λj=>f i j)++[b i]).getD j 0*x j) (m+1)=sg (λj=>(((List.range m).map λj=>f i j)++[b i]).getD j 0*x j) m+_*x m:=rfl;rw[e,h0 _ (aG _),Rat.mul_zero,Rat.add_zero,(TJ x).1]at this;exact this
open Rw (sg jw iZ cj jK jW Big)
structure WyZ(m:Nat)(o:bN):Prop where
 wy:WyO m o
 nd:(o.ways.map (·.1)).Nodup
 few:o.ways.length<=1000
 cq:∃q:Nat,0<q/\q<=4000/\∀w∈o.ways,w.2.den ∣ q
structure HlZ(ns:Φ)(off:zd):Prop where
 h:Nf ns off
 few:ns.length<=8
 z:∀ds∈off,∀o∈ds,WyZ ns.length o
def HlZ.toW{off:zd}(h:HlZ ns off):HlW ns off:=⟨h.h,by have:=h.few;exact aL this wx,λds hd o ho=>(h.z ds hd o ho).few,λds hd o ho=>(h.z ds hd o ho).wy⟩
abbrev cG(off:zd)(pl:zb)(k:Nat):xo:=(chO off pl).getD k none
def G7{off:zd}{o:bN}(h:cG off pl k=some o):∃ds,off[k]?=some ds/\o∈ds:=by
 have h:(chO off pl).getD k none=some o:=h;cases e:pl[k]? with
 |none =>
  have:(chO off pl)[k]?=none:=aM (by unfold chO;rw[ak,U2];exact List.getElem?_eq_none_iff.mp e);rw[au,this]at h;cases h
 |some d =>
  rw[agI e]at h;cases d with
  |none=>cases h
  |some d =>
   have h:(off.getD k [])[d]?=some o:=h;rw[au]at h;cases eo:off[k]? with
   |none=>rw[eo]at h;cases h
   |some ds=>rw[eo]at h;exact⟨ds,rfl,aC h⟩
def HlZ.cw{off:zd}(h:HlZ ns off)(pl:zb):∀k,k<ns.length->∀o,cG off pl k=some o->WyO ns.length o:=λk _ o e=>by
 obtain⟨ds,ed,ho⟩:=G7 e;exact(h.z ds (aC ed) o ho).wy
theorem abU{m q:Nat}(q0:0<q)(j:Nat):∀{ws:zg},(∀w∈ws,0<w.2/\w.2.den ∣ q)->(uN ws j).den ∣ q/\0<=uN ws j/\uN ws j<=Pu ws
 |[],_=>⟨JS _,W1,W1⟩
 |w::ws,h=>by
  obtain⟨a,b,c⟩:=abU (m:=m) q0 j (ws:=ws) λx hx=>h x (aJ _ hx);obtain⟨p,d⟩:=h w (aO ..);have e:uN (w::ws) j=(if w.1=j then w.2 else 0)+uN ws j:=rfl;rw[e,Aq];split
  .refine⟨Lh q0 d a,by grind,by grind⟩
  .rw[JU];exact⟨a,b,by grind⟩
abbrev N40:Nat:=1*4000
def adP(h:m<=8):(2*m*N40)^m<=10^39:=by
 obtain rfl|rfl|rfl|rfl|rfl|rfl|rfl|rfl|rfl:m=0\/m=1\/m=2\/m=3\/m=4\/m=5\/m=6\/m=7\/m=8:=by lia
 all_goals decide +kernel
def rgt(mk:zi)(k:Nat):Rat:=if mkG mk k then 1 else 0
def adS{cs:xw}(hk:k<mk.length):(otw mk cs S).getD k none=if mkG mk k=false/\S k=true then cs.getD k none else none:=by
 unfold otw;rw[au,aq,VX hk]
 rfl
def YK{cs:xw} : (otw mk cs S).length=mk.length:=by unfold otw;rw[ak,WP]
def Zu{cs:xw}{o:bN}(h:some o∈otw mk cs S):∃k,k<mk.length/\cs.getD k none=some o:=by
 obtain⟨k,hk,e⟩:=YV.mp h;split at e
 .exact⟨k,List.mem_range.mp hk,e⟩
 .cases e
def aj1{off:zd}(h:HlZ ns off)(ml:mk.length=ns.length)(lf:Lfp false ns.length (mkG mk) (λk=>ldC (cG off pl k)) S):Sys (Yg (gW 1 (otw mk (chO off pl) S)) (rgt mk) ns.length) N40:=by
 have m8:=h.few;have cz:∀o,some o∈otw mk (chO off pl) S->WyZ ns.length o:=λo ho=>by
  obtain⟨k,_,e⟩:=Zu ho;obtain⟨ds,ed,om⟩:=G7 e;exact h.z ds (aC ed) o om
 have zo:∀i,∀o,(otw mk (chO off pl) S).getD i none=some o->WyZ ns.length o:=λi o e=>cz o (by
  rw[au]at e;cases e2:(otw mk (chO off pl) S)[i]? with
  |none=>rw[e2]at e;cases e
  |some c =>
   rw[e2]at e;have e:c=some o:=e;rw[<- e];exact aC e2)
 have cell:∀i:Nat,∃q,0<q/\q<=4000/\(∀j,(gW 1 (otw mk (chO off pl) S) i j).den ∣ q/\(gW 1 (otw mk (chO off pl) S) i j).num.natAbs<=1*(gW 1 (otw mk (chO off pl) S) i j).den):=λi=>by
  have fin:∀{q:Nat}(r:Rat),0<q->r.den ∣ q->0<=r->r<=1->∀b:Bool,((if b=true then(1:Rat)else 0)-1*r).den ∣ q/\((if b=true then(1:Rat)else 0)-1*r).num.natAbs<=1*((if b=true then(1:Rat)else 0)-1*r).den:=λ{q}r q0 d r0 r1 b=>by
   have e:(if b=true then(1:Rat)else 0)-1*r=(if b=true then 1 else 0) + -r:=by grind
   rw[e];refine⟨Lh q0 (by cases b<;>exact JS _) d,GX (A:=1) ?_ ?_⟩
   .show _<=((1:Nat):Rat);rw[show((1:Nat):Rat)=1 from rfl];cases b<;>simp<;>grind
   .show -((1:Nat):Rat)<=_;rw[show((1:Nat):Rat)=1 from rfl];cases b<;>simp<;>grind
  have del:∀j,gW 1 (otw mk (chO off pl) S) i j=(if(decide (j=i))=true then(1:Rat)else 0)-1*uN (uV ((otw mk (chO off pl) S).getD i none)) j:=λj=>by
   unfold gW;by_cases c:j=i
   .rw[ZY c,ZY (Zs c)]
   .rw[ZZ c,ZZ (by rw[Zp c];decide)]
  cases e:(otw mk (chO off pl) S).getD i none with
  |none=>exact⟨1,by decide,by decide,λj=>by rw[del,e];exact fin 0 wx (Nat.dvd_refl 1) W1 wx _⟩
  |some o =>
   obtain⟨wy,_,_,q,q0,q1,hq⟩:=zo i o e;refine⟨q,q0,q1,λj=>?_⟩;obtain⟨a,b,c⟩:=abU (m:=0) q0 j (ws:=o.ways) λw hw=>⟨wy.pos w hw,hq w hw⟩;rw[wy.one]at c;rw[del,e];exact fin _ q0 a b c _
 have hq:∃q:Nat->Nat,∀i,0<q i/\q i<=4000/\(∀j,(gW 1 (otw mk (chO off pl) S) i j).den ∣ q i/\(gW 1 (otw mk (chO off pl) S) i j).num.natAbs<=1*(gW 1 (otw mk (chO off pl) S) i j).den):=⟨λi=>Classical.choose (cell i),λi=>Classical.choose_spec (cell i)⟩;obtain⟨q,hq⟩:=hq;have NL:10^39<=NN:=XU wx wx;refine akW (q:=q) (A:=1) (Q:=4000) (aL m8 wx) wx (λi _=>⟨(hq i).1,(hq i).2.1⟩) (λi j _ _=>(hq i).2.2 j) (λi _=>?_) wx (aL (adP m8) NL) (aL wx NL) λx hx=>?_
 .unfold rgt;split
  .exact⟨JS _,aG _⟩
  .exact⟨JS _,aZ _⟩
 .refine aiq lf (h.cw pl) λk hk=>?_;have ol:(otw mk (chO off pl) S).length=ns.length:=by rw[YK,ml]
  have:=hx k hk;rw[<- ol,ac1 (by rwa[ol]) λw hw=>by
   rw[ol];cases e:(otw mk (chO off pl) S).getD k none with
   |none=>rw[e]at hw;cases hw
   |some o=>rw[e]at hw;exact(zo k o e).wy.lt w hw,adS (by rwa[ml])]at this
  by_cases c:mkG mk k=false/\S k=true
  .rw[ZY c]at this ⊢;have this:x k-1*dw (uV (cG off pl k)) x=0:=this
   grind
  .rw[ZZ c]at this ⊢;have this:x k-1*(0:Rat)=0:=this
   grind
def ahm(mk:zi):(mk.map λb=>frR (if b then 1 else 0))=((List.range mk.length).map (rgt mk)).map frR:=by
 rw[WU];refine UQ (by rw[ak,ak,WP]) λk h1 h2=>?_;rw[ak]at h1;rw[VW,VW,Tu];show frR _=frR (if mk.getD k false then 1 else 0);rw[au,aj h1]
 rfl
def o_(D:Adr):ST:=λts q=>∃(s:Rat)(ns:Φ)(off:zd)(mk:zi)(pl:zb),ts=[hlT D s ns off,blT mk,.lst (pl.map dT)]/\HlZ ns off/\mk.length=ns.length/\PlT off pl/\∀(S:Nat->Bool)(x:Nat->Rat),fJ ns.length (mkG mk) (cG off pl) S x->(∀i,i<ns.length->FnB (10^39) (x i))->q (.l1 ((List.range ns.length).map λi=>frR (x i)))
def Io(T:Tx D):gT 9 kI f9 (o_ D):=ya T.JZ λ{f fd}F=>by
 refine F.okT wZ (λ_ _=>bG (i_ (bH mQ) qP qP ["mark"] (bZ wo) (c7 (i:=0)) b_ (FJ (cF wp) (lE T.BL T.t_) (lE T.j_ T.iR)) (gB (i:=3) wZ.nd rfl (Or.inl rfl)))
  (bI (bR (bJ (Lx T) (bA (bJ (PK T) (bA (lE T.BL T.t_) (bA (bJ (Nz T) (bA wo (bA (bJ (Ia T) (bA wp (bA wr bC))) bC))) bC))) (bA wn bC)))))) ?_
 rintro _ R ⟨s,ns,off,mk,pl,rfl,h,ml,hp,q⟩;have m8:=h.few;have cl:(chO off pl).length=ns.length:=by rw[ah6 hp,h.h.len]
 refine⟨by rw[ak,ml];exact aL m8 wx,comp_map L2.T.bl (λb=>frR (if b then 1 else 0)) mk (λb _ N M hN=>by cases b<;>exact hN) ?_⟩;refine⟨s,ns,off,pl,rfl,h.h,hp,mk,chO off pl,rfl,by lia,by rw[cl,ml],λo ho=>?_,λS lf=>?_⟩
 .obtain⟨k,ek⟩:=aV ho;obtain⟨ds,ed,om⟩:=G7 (k:=k) (show(chO off pl).getD k none=some o by rw[au,ek];rfl);have z:=h.z ds (aC ed) o om;exact⟨z.few,by rw[ml];exact z.wy.lt⟩
 have lf:Lfp false ns.length (mkG mk) (λk=>ldC (cG off pl k)) S:=by rw[ml]at lf;exact lf
 have ol:(otw mk (chO off pl) S).length=ns.length:=by rw[YK,ml]
 have cz:∀c∈otw mk (chO off pl) S,∀o,c=some o->WyZ ns.length o:=λc hc o e=>by
  subst e;obtain⟨k,_,e⟩:=Zu hc;obtain⟨ds,ed,om⟩:=G7 e;exact h.z ds (aC ed) o om
 have b1:Bq (1:Rat):=bq1;have sys:=aj1 h ml lf;refine⟨1,otw mk (chO off pl) S,rfl,by lia,b1,λc hc=>?_,T7 (gW 1 (otw mk (chO off pl) S)) ns.length,(List.range mk.length).map (rgt mk),N40,?_,by rw[ak,WP,Dl,ml],by rw[Dl];exact acp,?_,?_⟩
 .rw[ol];cases c with
  |none=>exact⟨.nil,aZ _,λ_ z=>(nomatch z),λ_ z=>(nomatch z)⟩
  |some o =>
   have z:=cz _ hc o rfl;obtain⟨q,q0,q1,hq⟩:=z.cq;refine⟨z.nd,z.few,z.wy.lt,λw hw=>?_⟩;have d:=UZ q0 (hq w hw);have w1:w.2<=1:=by
    have:=lJ (λw hw=>UP (z.wy.pos w hw)) hw;rw[<- Ef,z.wy.one]at this;exact this
   have n:=GX (r:=w.2) (A:=1) w1 (by have:=z.wy.pos w hw;rw[show((1:Nat):Rat)=1 from rfl];grind);have bw:Bq w.2:=⟨eZ wv,eZ wv⟩;refine⟨bw,?_,by rwa[Rat.one_mul]⟩;show Bd (((1:Nat):Int)*_);rw[show((1:Nat):Int)=1 from rfl,TU];exact bw.2
 .show[L2.T.lst ((rowsOf (gW 1 (otw mk (chO off pl) S)) (otw mk (chO off pl) S).length).map L2.T.lst),L2.T.lst (mk.map λb=>frR (if b then 1 else 0))]=_;rw[ao8,ahm,show afE 1 (otw mk (chO off pl) S)=T7 (gW 1 (otw mk (chO off pl) S)) ns.length by unfold afE T7;rw[ol]]
 .rw[ml];exact sys
 .rw[Dl,ml];intro y h1 h2;have eq:=aoe (f:=gW 1 (otw mk (chO off pl) S)) (b:=rgt mk) (m:=ns.length) h1;have val:∀k,k<ns.length->y k=rgt mk k+if mkG mk k=false/\S k=true then dw (uV (cG off pl k)) y else 0:=λk hk=>by
   have:=eq k hk;rw[<- ol,ac1 (by rwa[ol]) λw hw=>by
    rw[ol];cases e:(otw mk (chO off pl) S).getD k none with
    |none=>rw[e]at hw;cases hw
    |some o =>
     rw[e]at hw;rw[au,aj (by rwa[ol])]at e;exact(cz _ (aU _) o e).wy.lt w hw,adS (by rwa[ml])]at this
   by_cases c:mkG mk k=false/\S k=true
   .rw[ZY c]at this ⊢;have this:y k-1*dw (uV (cG off pl k)) y=rgt mk k:=this
    grind
   .rw[ZZ c]at this ⊢;have this:y k-1*(0:Rat)=rgt mk k:=this
    grind
  refine q S y ⟨lf,λk hk g=>?_,λk hk g s=>?_,λk hk s=>?_⟩ λi hi=>⟨aL (h2 i hi).n (adP m8),aL (h2 i hi).d (adP m8)⟩
  .rw[val k hk,ZZ (by rw[g];exact λz=>Bool.noConfusion z.1)];unfold rgt;rw[g];show(1:Rat)+0=1
   grind
  .have v:=val k hk;rw[ZY ⟨g,s⟩]at v;unfold rgt at v;rw[g]at v;have v:y k=0+_:=v
   grind
  .have g:mkG mk k=false:=by
    cases g:mkG mk k with
    |false=>rfl
    |true=>rw[lf.base k hk g]at s;cases s
   have v:=val k hk;rw[ZZ (by rw[s];exact λz=>Bool.noConfusion z.2)]at v;unfold rgt at v;rw[g]at v;have v:y k=0+0:=v
   grind
def K3:zd->List zb
 |[]=>[[]]
 |ds::off=>((if ds=[]then[none]else(List.range ds.length).map some).map λd=>(K3 off).map λpl=>d::pl).flatten
theorem ZX:∀{off:zd}{pl:zb},PlT off pl->pl∈K3 off
 |[],pl,h=>by
  have:=h.len;rw[List.length_eq_zero_iff.mp this];exact YR.mpr rfl
 |ds::off,[],h=>by have:=h.len;cases this
 |ds::off,d::pl,h=>by
  have ih:=ZX (off:=off) (pl:=pl) ⟨Nat.succ.inj h.len,λk d ds e1 e2=>h.ok (k+1) d ds e1 e2⟩;have ft:=h.ok 0 d ds rfl rfl;refine List.mem_flatten.mpr ⟨_,YV.mpr ⟨d,?_,rfl⟩,YV.mpr ⟨pl,ih,rfl⟩⟩;cases d with
  |none =>
   have:ds.length=0:=of_decide_eq_true ft;rw[ZY (List.length_eq_zero_iff.mp this)];exact YR.mpr rfl
  |some d =>
   have:d<ds.length:=of_decide_eq_true ft;rw[ZZ λz=>by rw[z]at this;cases this];exact YV.mpr ⟨d,List.mem_range.mpr this,rfl⟩
theorem Om{α:Type} : ∀{l l':List α},l.Nodup->(∀a∈l,a∈l')->l.length<=l'.length
 |[],_,_,_=>aZ _
 |a::l,l',nd,h=>by
  obtain⟨s,t,rfl⟩:=List.append_of_mem (h a (aO ..));have kL:=List.nodup_cons.mp nd;have:=Om (l:=l) (l':=s++t) kL.2 λb hb=>by
   have m:=h b (aJ _ hb);rcases Y1.mp m with z|z
   .exact UU _ z
   .rcases YU.mp z with y|y
    .exact absurd (y ▸ hb) kL.1
    .exact aP _ y
  rw[List.length_cons,aA,List.length_cons];rw[aA]at this;lia
abbrev PWs:=List xl×zS
abbrev pwT(p:PWs):T:=.tup [.lst (p.1.map dT),.lst (p.2.map frR)]
abbrev xG(xs:zS)(k:Nat):Rat:=xs.getD k 0
def Ys(rs:zS)(n M:Nat)(hM:0<M):(∀r∈rs,r.den<=M)->dJ n rs<=n*M^rs.length:=by
 induction rs generalizing n with
 |nil=>intro _;show n<=n*1;lia
 |cons r rs ih =>
  intro h;have l1:Nat.lcm n r.den<=n*M:=aL (by unfold Nat.lcm;exact Nat.div_le_self _ _) (Zzz _ (h r (aO ..)));refine aL (ih (Nat.lcm n r.den) λx hx=>h x (aJ _ hx)) ?_;rw[List.length_cons,Nat.pow_succ,TK (M^rs.length),<- Nat.mul_assoc];exact Nat.mul_le_mul_right _ l1
structure o7(e:Bool)(off:zd)(mk:zi)(xs:zS)(pl bu:zb):Prop where
 len:bu.length=pl.length
 keep:∀(k:Nat)ds,off[k]?=some ds->mkG mk k=true\/ds=[]->bu[k]?=pl[k]?
 turn:∀(k d:Nat)ds,mkG mk k=false->pl[k]?=some (some d)->off[k]?=some ds->∃b,bu[k]?=some (some b)/\Pn e (ds.map λo=>CN o.ways (tops (dJ 1 xs) xs)) d b
structure XsB(m:Nat)(xs:zS):Prop where
 len:xs.length=m
 fn:∀x∈xs,FnB (10^39) x
 nn:∀x∈xs,0<=x
 le:∀x∈xs,x<=1
def XsB.get{m:Nat}{xs:zS}(h:XsB m xs)(k:Nat):0<=xG xs k/\xG xs k<=1:=by
 show 0<=xs.getD k 0/\xs.getD k 0<=1;rw[au];cases e:xs[k]? with
 |none=>exact⟨W1,by show(0:Rat)<=1;decide⟩
 |some x=>exact⟨h.nn x (aC e),h.le x (aC e)⟩
def XsB.lcm(h:XsB m xs)(m8:m<=8):dJ 1 xs<=10^312:=by
 have:=Ys xs 1 (10^39) (Nat.pow_pos wx) λr hr=>(h.fn r hr).d;rw[Nat.one_mul,h.len,<- Nat.pow_mul]at this;exact aL this (XU wx wv)
def apU{o:bN}(z:WyZ ns.length o)(m8:ns.length<=8)(h:XsB ns.length xs):BhB o.ways (tops (dJ 1 xs) xs)/\Bq (CN o.ways (tops (dJ 1 xs) xs)):=by
 obtain⟨q,q0,q1,hq⟩:=z.cq;have B1:=h.lcm m8;have lq:dJ 1 (o.ways.map (·.2))<=4000:=aL (UZ q0 (vQ _ (JS _) λr hr=>by
  obtain⟨w,hw,rfl⟩:=YV.mp hr;exact hq w hw)) q1
 have lp:=iI (o.ways.map (·.2)) UR;have wz:∀w∈o.ways,w.2.num.natAbs<=4000:=λw hw=>by
  have w1:w.2<=1:=by
   have:=lJ (λw hw=>UP (z.wy.pos w hw)) hw;rw[<- Ef,z.wy.one]at this;exact this
  have n:=GX (r:=w.2) (A:=1) w1 (by have:=z.wy.pos w hw;rw[show((1:Nat):Rat)=1 from rfl];grind);have:=UZ q0 (hq w hw);lia
 refine⟨⟨z.few,λw hw=>by unfold tops;rw[ak,h.len];exact z.wy.lt w hw,λw hw=>eZ (by have:=wz w hw;exact Y3 this wx),eZ (by omega),λt ht=>?_,λt ht=>?_⟩,?_⟩
 .unfold tops at ht;rw[WU]at ht;obtain⟨w,hw,rfl⟩:=YV.mp ht;refine yD (n:=8) ?_ wx;show(w.2.num*((dJ 1 (o.ways.map (·.2))/w.2.den:Nat):Int)).natAbs<=_;rw[VV,XT];exact aL (VU (wz w hw) (aL (Nat.div_le_self _ _) lq)) wx
 .obtain⟨r,hr,rfl⟩:=YV.mp ht;refine yD (n:=39+312) ?_ wx;rw[VV,XT,Nat.pow_add];exact VU (h.fn r hr).n (aL (Nat.div_le_self _ _) B1)
 .have d1:(CN o.ways (tops (dJ 1 xs) xs)).den<=4000:=by
   rw[<- RL lp _ o.ways λw hw=>(lU _).2 _ (YV.mpr ⟨w,hw,rfl⟩)];have:=(div_pos (a:=(o.ways.map λw=>w.2.num*((dJ 1 (o.ways.map (·.2))/w.2.den:Nat):Int)*(tops (dJ 1 xs) xs).getD w.1 0).sum) (b:=((dJ 1 (o.ways.map (·.2)):Nat):Int)) wv).1;lia
  have e:=Av xs o.ways;have a:=z.wy.le (M:=1) (x:=λk=>xs.getD k 0) λw _=>(h.get w.1).2;have b:=z.wy.ge (M:=0) (x:=λk=>xs.getD k 0) λw _=>(h.get w.1).1;have b0:(0:Rat)<=((dJ 1 xs:Nat):Rat):=by exact_mod_cast aZ _
  have n:=GX (r:=CN o.ways (tops (dJ 1 xs) xs)) (A:=dJ 1 xs) (by rw[e];have:=Rat.mul_le_mul_of_nonneg_right a b0;grind) (by rw[e];have:=Rat.mul_nonneg b b0;grind);refine⟨yD (n:=312+4) ?_ wx,eZ (by omega)⟩;rw[Nat.pow_add];exact aL n (VU B1 (aL d1 wx))
structure Oq(e:Bool)(off:zd)(mk:zi)(tp:xz)(pl:zb)(k:Nat)(bu:zb):Prop where
 len:bu.length=k
 keep:∀(i:Nat)ds,i<k->off[i]?=some ds->mkG mk i=true\/ds=[]->bu[i]?=pl[i]?
 turn:∀(i d:Nat)ds,i<k->mkG mk i=false->pl[i]?=some (some d)->off[i]?=some ds->∃b,bu[i]?=some (some b)/\Pn e (ds.map λo=>CN o.ways tp) d b
def Oq.next{e:Bool}{off:zd}{tp:xz}{bu:zb}(j:Oq e off mk tp pl k bu){v:xl}{ds:xD}(ek:pl[k]?=some d)(eo:off[k]?=some ds)(h1:mkG mk k=true\/ds=[]->v=d)(h2:∀d',mkG mk k=false->d=some d'->∃b,v=some b/\Pn e (ds.map λo=>CN o.ways tp) d' b):Oq e off mk tp pl (k+1) (bu++[v]):=by
 have lft:∀{i:Nat},i<k->(bu++[v])[i]?=bu[i]?:=λhi=>aF (by have:=j.len;lia);have rg:(bu++[v])[k]?=some v:=by rw[aD (by have:=j.len;exact WJ this),j.len,UH];rfl
 refine⟨by rw[aA,j.len];rfl,λi gE hi ei c=>?_,λi d' gE hi m ei es=>?_⟩
 .by_cases z:i=k
  .subst z;rw[eo]at ei;cases ei;rw[rg,ek,h1 c]
  .rw[lft (XX (VT hi) z)];exact j.keep i gE (XX (VT hi) z) ei c
 .by_cases z:i=k
  .subst z;rw[eo]at es;cases es;rw[ek]at ei;cases ei;obtain⟨b,rfl,hb⟩:=h2 d' m rfl;exact⟨b,rg,hb⟩
  .rw[lft (XX (VT hi) z)];exact j.turn i d' gE (XX (VT hi) z) m ei es
def zJ(D:Adr)(mg:Str->Ω):ST:=λts q=>∃(e:Bool)(v:Addr)(s:Rat)(ns:Φ)(off:zd)(mk:zi)(p:PWs),ts=[hlT D s ns off,blT mk,pwT p,.val (.ref v)]/\mg (nmQ e)=some (.ref v)/\HlZ ns off/\mk.length=ns.length/\PlT off p.1/\XsB ns.length p.2/\∀bu:zb,o7 e off mk p.2 p.1 bu->q (.l1 (bu.map dT))
def LC(T:Tx D):gT 4 rZ jt (zJ D mg):=ya T.Ms λ{f fd}F=>by
 refine F.okT Kh (λ_ _=>bG (bQ 4 (bK (bJ (acw T) (bA (bK wr bF) bC)) bF))
  (bG (gK 5 (cR bC))
  (bG (cY (pU T.gF (bA (bK wr bF) bC)) (dB (n:=2) (bM (bU (n:=99) 6) (bM (bU (n:=99) 7) cL)))
  (bG (bQ 8 (FJ (cF (bK wo (qv 6))) (cR bC) (wO wp T.iK T.jA (aao T) (bA (qv 6) bC) (KS:=jN))))
  (bI (uh 5 (bJ (Ld T) (bA (cD (bH nP) tY tY ["offer"] (bZ (qv 8)) (c7 (i:=0)) b_ (bJ (Kr T) (bA wp (bA wa bC)))) (bA (qv 7) (bA wn bC))))))))
  (bI (iu 5))))) ?_
 rintro _ R ⟨e,v,s,ns,off,mk,p,rfl,hv,h,ml,hp,hx,q⟩;have m8:=h.few;obtain⟨pl,xs⟩:=p;dsimp only at hp hx q;have B1:=hx.lcm m8;refine⟨xs,rfl,by rw[hx.len];exact aL m8 wx,λr hr=>yD (n:=39) (hx.fn r hr).n wx,yD (n:=312) (by rwa[XT]) wx,?_⟩;have bh:∀ds∈off,∀o∈ds,_:=λds dS o ho=>apU (h.z ds dS o ho) m8 hx;generalize et:tops (dJ 1 xs) xs=tp at bh ⊢;refine qm dT pl (λk o=>∃bu x y z,o=[.fz (hlT D s ns off),.fz (blT mk),.fz (pwT (pl,xs)),.fz (.val (.ref v)),.fz (.lst (tp.map L2.T.int)),.l1 (bu.map dT),x,y,z]/\Oq e off mk tp pl k bu) ⟨[],.und,.und,.und,rfl,rfl,λi _ z=>absurd z (WZ _),λi _ _ z=>absurd z (WZ _)⟩ ?_ ?_
 .rintro k d _ ek ⟨bu,x,y,z,rfl,j⟩;have lk:=(ao.mp ek).1;have ho:k<off.length:=by rwa[<- hp.len]
  have eo:=aj ho;have hl:=h.h.len;have lm:k<mk.length:=by lia
  have em:=aj lm;have gm:mkG mk k=mk[k]:=by unfold mkG;rw[au,em];rfl
  have ls:(bu.map dT).length<sizeLine:=by rw[ak,j.len];exact aR (show _<1001 by lia) wx
  have ma:∀v:xl,bu.map dT++[dT v]=(bu++[v]).map dT:=λv=>by rw[bf];rfl
  have fin:∀(v':xl)(z':OT),Oq e off mk tp pl (k+1) (bu++[v'])->∃ja x y z,[OT.fz (hlT D s ns off),.fz (blT mk),.fz (pwT (pl,xs)),.fz (.val (.ref v)),.fz (.lst (tp.map L2.T.int)),.l1 (bu.map dT++[dT v']),.fz (.int k),.fz (dT d),z']=[.fz (hlT D s ns off),.fz (blT mk),.fz (pwT (pl,xs)),.fz (.val (.ref v)),.fz (.lst (tp.map L2.T.int)),.l1 (ja.map dT),x,y,z]/\Oq e off mk tp pl (k+1) ja:=λv' z' h=>⟨bu++[v'],_,_,z',by rw[<- ma],h⟩;refine⟨rfl,_,cZ em,?_⟩;cases cm:mk[k]with
  |true =>
   have mt:mkG mk k=true:=by rw[gm,cm]
   refine⟨by decide,e,v,[],d,rfl,hv,by decide,λx hx=>(nomatch hx),λ_=>⟨ls,fin d _ (j.next ek eo (λ_=>rfl) λd' z=>by rw[mt]at z;cases z)⟩,λz=>absurd rfl z⟩
  |false =>
   have mf:mkG mk k=false:=by rw[gm,cm]
   have mem:=aU ho;have fd:=h.h.fews _ mem;refine⟨⟨rfl,rfl⟩,_,_,_,k,_,rfl,h.h,eo,by rw[ak];exact aL fd wx,comp_map ofT (λo=>frR (CN o.ways tp)) off[k] (λo ho N M hN=>⟨o,tp,rfl,(bh _ mem o ho).1,hN⟩) ⟨e,v,off[k].map λo=>CN o.ways tp,d,by rw[WU];rfl,hv,by rw[ak];exact fd,λx hx=>?_,λz=>⟨ls,fin d _ (j.next ek eo (λ_=>rfl) λd' _ z'=>?_)⟩,λz=>?_⟩⟩
   .obtain⟨o,ho,rfl⟩:=YV.mp hx;exact(bh _ mem o ho).2
   .have ft:=hp.ok k d _ ek eo;rw[z',List.map_eq_nil_iff.mp z]at ft;exact absurd (of_decide_eq_true (show decide (d'<0)=true from ft)) (WZ _)
   .have ft:=hp.ok k d _ ek eo;cases d with
    |none =>
     have:off[k].length=0:=of_decide_eq_true ft;exact absurd (by rw[List.length_eq_zero_iff.mp this];rfl) z
    |some d =>
     refine⟨d,rfl,by rw[ak];exact of_decide_eq_true ft,λb hb=>⟨ls,fin (some b) _ (j.next ek eo (λc=>?_) λd' _ z'=>?_)⟩⟩
     .rcases c with c|c
      .rw[mf]at c;cases c
      .exact absurd (by rw[c];rfl) z
     .cases z';exact⟨b,rfl,hb⟩
 .rintro _ ⟨bu,x,y,z,rfl,j⟩;refine q bu ⟨j.len,λk ds ek c=>j.keep k ds (by rw[hp.len];exact(ao.mp ek).1) ek c,λk d ds m ek eo=>?_⟩;rw[et];exact j.turn k d ds (ao.mp ek).1 m ek eo
def Rx{b:Bool}{mk:Nat->Bool}{ld:Nat->xA}{S':Nat->Bool}(h:Lfp b m mk ld S)(h':Lfp b m mk ld S')(hk:k<m):S k=S' k:=by
 have a:=h.least S' h'.base h'.step k hk;have b:=h'.least S h.base h.step k hk;cases e:S k with
 |true=>rw[a e]
 |false =>
  cases e':S' k with
  |true=>rw[b e']at e;exact e.symm
  |false=>rfl
section
variable{m:Nat}{mk S S':Nat->Bool}{c:Nat->xo}{x x' x'':Nat->Rat}{e:Bool}
def fJ.le_of(h:fJ m mk c S x)(h':fJ m mk c S' x')(hw:∀k,k<m->∀o,c k=some o->WyO m o)(hk:k<m):x k<=x' k:=by
 have:=mp h.lf hw (d:=λk=>x k-x' k) (λk hk g s=>by rw[Cg,<- h.mean k hk g s,<- h'.mean k hk g (by rw[<- Rx h.lf h'.lf hk];exact s)];exact W1) (λk hk g=>by rw[h.goal k hk g,h'.goal k hk g];grind) (λk hk s=>by rw[h.no k hk s,h'.no k hk (by rw[<- Rx h.lf h'.lf hk];exact s)];grind) k hk
 grind
def fJ.uniq(h:fJ m mk c S x)(h':fJ m mk c S' x')(hw:∀k,k<m->∀o,c k=some o->WyO m o)(hk:k<m):x k=x' k:=Rat.le_antisymm (h.le_of h' hw hk) (h'.le_of h hw hk)
def UpX(e:Bool)(m:Nat)(x x':Nat->Rat):Prop:=(∀k,k<m->¬bet e (x' k) (x k))/\∃k,k<m/\bet e (x k) (x' k)
theorem adE{a b c:Rat}(h:¬bet e b a)(k:¬bet e c b):¬bet e c a:=by
 cases e<;>simp only[bet]at *<;>grind
theorem ajl{a b c:Rat}(h:bet e a b)(k:¬bet e c b):bet e a c:=by
 cases e<;>simp only[bet]at *<;>grind
def Jc{a:Rat} : ¬bet e a a:=by
 cases e<;>simp only[bet]<;>grind
def Zb{a b B:Rat}(h:0<B):bet e (a*B) (b*B)↔bet e a b:=by
 cases e<;>simp only[bet]
 .exact⟨λl=>Rat.not_le.mp λz=>Rat.not_le.mpr l (Rat.mul_le_mul_of_nonneg_right z (UP h)),λl=>Rat.mul_lt_mul_of_pos_right l h⟩
 .exact⟨λl=>Rat.not_le.mp λz=>Rat.not_le.mpr l (Rat.mul_le_mul_of_nonneg_right z (UP h)),λl=>Rat.mul_lt_mul_of_pos_right l h⟩
def UpX.trans(h:UpX e m x x')(k:UpX e m x' x''):UpX e m x x'' :=
 ⟨λi hi=>adE (h.1 i hi) (k.1 i hi),by obtain⟨i,hi,z⟩:=h.2;exact⟨i,hi,ajl z (k.1 i hi)⟩⟩
def amT{c':Nat->xo}(t:Turn e m mk x c c')(h:fJ m mk c S x)(h':fJ m mk c' S' x')(hw:∀k,k<m->∀o,c k=some o->WyO m o)(dr:∀k,k<m->∀o,c' k=some o->WyO m o):(∀k,k<m->¬bet e (x' k) (x k))/\((∃k,k<m/\c' k≠c k)->UpX e m x x'):=by
 cases e with
 |false =>
  obtain⟨a,b⟩:=t.up h h' hw dr;have n:∀k,k<m->¬bet false (x' k) (x k):=λk hk z=>Rat.not_lt.mpr (a k hk) z;exact⟨n,λhP=>by obtain⟨k,hk,ne⟩:=hP;exact⟨n,k,hk,b k hk ne⟩⟩
 |true =>
  obtain⟨a,b⟩:=t.down h h' hw dr;have n:∀k,k<m->¬bet true (x' k) (x k):=λk hk z=>Rat.not_lt.mpr (a k hk) z;exact⟨n,λhP=>by obtain⟨k,hk,ne⟩:=hP;exact⟨n,k,hk,b k hk ne⟩⟩
end
section
variable{e:Bool}{ns:Φ}{off:zd}{mk:zi}{xs:zS}{pl bu:zb}
def sZ{ds:xD}(e:pl[k]?=some d)(eo:off[k]?=some ds):cG off pl k=d.bind λd=>ds[d]?:=by
 show(chO off pl).getD k none=_;rw[agI e,au,eo]
 rfl
def zq(h:qQ d n=true)(n0:n≠0):∃j,d=some j/\j<n:=by
 cases d with
 |none=>exact absurd (of_decide_eq_true (show decide (n=0)=true from h)) n0
 |some j=>exact⟨j,rfl,of_decide_eq_true h⟩
def Df{ds:xD}{tp:xz}{o:bN}(e:ds[j]?=some o):(ds.map λo=>CN o.ways tp).getD j 0=CN o.ways tp:=by
 rw[au,aq,e]
 rfl
def PlT.room(hp:PlT off pl){ds:xD}(eo:off[k]?=some ds):∃d,pl[k]?=some d/\qQ d ds.length=true:=by
 have l:k<pl.length:=by rw[hp.len];exact(ao.mp eo).1
 exact⟨_,aj l,hp.ok k _ ds (aj l) eo⟩
def o7.plan(t:o7 e off mk xs pl bu)(hp:PlT off pl):PlT off bu:=by
 refine⟨t.len.trans hp.len,λk d ds ek eo=>?_⟩;obtain⟨d0,e0,f0⟩:=hp.room eo;by_cases c:mkG mk k=true\/ds=[]
 .rw[t.keep k ds eo c,e0]at ek;cases ek;exact f0
 .have c1:mkG mk k=false:=by
   cases z:mkG mk k with
   |true=>exact absurd (.inl z) c
   |false=>rfl
  have c2:ds.length≠0:=λz=>c (.inr (List.length_eq_zero_iff.mp z));obtain⟨j,rfl,lj⟩:=zq f0 c2;obtain⟨b,eb,pk⟩:=t.turn k j ds c1 e0 eo;rw[eb]at ek;cases ek;refine Zs (?_:b<ds.length);rcases pk with⟨z,_⟩|⟨z,_⟩
  .rw[z];exact lj
  .rw[ak]at z;exact z
def o7.turned(t:o7 e off mk xs pl bu)(hp:PlT off pl)(hl:ns.length=off.length):Turn e ns.length (mkG mk) (xG xs) (cG off pl) (cG off bu):=by
 have B0:(0:Rat)<((dJ 1 xs:Nat):Rat):=by exact_mod_cast iI xs UR
 have kp:∀k,k<ns.length->∀ds,off[k]?=some ds->mkG mk k=true\/ds=[]->cG off bu k=cG off pl k:=λk hk ds eo c=>by
  obtain⟨d,ed,_⟩:=hp.room eo;rw[sZ ed eo,sZ (by rwa[t.keep k ds eo c]) eo]
 refine⟨λk hk g=>?_,λk hk g=>?_,λk hk g o ec=>?_⟩
 .exact kp k hk _ (aj (aR hk (WJ hl))) (.inl g)
 .have eo:=aj (show k<off.length by exact aR hk (WJ hl));obtain⟨d,ed,fd⟩:=hp.room eo;rw[kp k hk _ eo (.inr ?_),g];by_cases c:off[k].length=0
  .exact List.length_eq_zero_iff.mp c
  .obtain⟨j,rfl,lj⟩:=zq fd c;rw[sZ ed eo]at g;have g:off[k][j]?=none:=g;rw[aj lj]at g;cases g
 .have eo:=aj (show k<off.length by exact aR hk (WJ hl));obtain⟨d,ed,fd⟩:=hp.room eo;rw[sZ ed eo]at ec;cases d with
  |none=>cases ec
  |some j =>
   have ec:off[k][j]?=some o:=ec;obtain⟨b,eb,pk⟩:=t.turn k j _ g ed eo;rcases pk with⟨z,_⟩|⟨z,y,_⟩
   .subst z;refine⟨o,?_,.inl ?_⟩
    .rw[sZ eb eo];exact ec
    .rw[sZ eb eo,sZ ed eo]
   .rw[ak]at z;have eb':=aj z;refine⟨off[k][b],by rw[sZ eb eo];exact eb',.inr ?_⟩;rw[Df ec,Df eb',Av,Av]at y;exact(Zb B0).mp y
def o7.moved(t:o7 e off mk xs pl bu)(hp:PlT off pl)(hl:ns.length=off.length)(n:bu≠pl):∃k,k<ns.length/\cG off bu k≠cG off pl k:=by
 refine Classical.byContradiction λno=>n (List.ext_getElem? λk=>?_);by_cases hk:k<off.length
 .have eo:=aj hk;obtain⟨d,ed,fd⟩:=hp.room eo;by_cases c:mkG mk k=true\/off[k]=[]
  .exact t.keep k _ eo c
  .have c1:mkG mk k=false:=by
    cases z:mkG mk k with
    |true=>exact absurd (.inl z) c
    |false=>rfl
   obtain⟨j,rfl,lj⟩:=zq fd λz=>c (.inr (List.length_eq_zero_iff.mp z));obtain⟨b,eb,pk⟩:=t.turn k j _ c1 ed eo;rcases pk with⟨z,_⟩|⟨z,y,_⟩
   .rw[eb,ed,z]
   .rw[ak]at z;refine absurd (Classical.byContradiction λne=>no ⟨k,by lia,ne⟩ : cG off bu k=cG off pl k) λw=>?_;rw[sZ eb eo,sZ ed eo]at w;have w:off[k][b]?=off[k][j]?:=w;rw[aj lj]at w;rw[Df w,Df (aj lj)]at y;exact Jc y
 .rw[aM (by rw[t.len,hp.len];exact VS hk),aM (by rw[hp.len];exact VS hk)]
def o7.best(t:o7 e off mk xs pl pl)(hp:PlT off pl)(h:HlZ ns off)(ch:fJ ns.length (mkG mk) (cG off pl) S (xG xs)):Best e ns.length (mkG mk) (λk=>off.getD k []) (xG xs):=by
 have hl:=h.h.len;have B0:(0:Rat)<((dJ 1 xs:Nat):Rat):=by exact_mod_cast iI xs UR
 refine⟨λk hk g o ho=>?_⟩;have eo:=aj (show k<off.length by lia);have ho:o∈off[k]:=by
  have ho:o∈off.getD k []:=ho;rw[au,eo]at ho;exact ho
 obtain⟨d,ed,fd⟩:=hp.room eo;obtain⟨j,rfl,lj⟩:=zq fd λz=>by rw[List.length_eq_zero_iff.mp z]at ho;cases ho
 have ej:=aj lj;obtain⟨b,eb,pk⟩:=t.turn k j _ g ed eo;rw[ed]at eb;cases eb;rw[ch.val (h.cw pl) hk g (by rwa[sZ ed eo])];rcases pk with⟨_,z⟩|⟨_,z,_⟩
 .have:=z _ (YV.mpr ⟨o,ho,rfl⟩);rw[Df ej,Av,Av,Zb B0]at this;exact this
 .exact absurd z Jc
end
def ahS{c d:RT}{q:Bool->Prop}(b:Bool)(h:∀q:Bool->Prop,q b->rOr c d o q)(hq:q b):rOr c d o q:=h q hq
def fJ.congr{mk:Nat->Bool}{c:Nat->xo}{x x':Nat->Rat}(h:fJ m mk c S x)(hw:∀k,k<m->∀o,c k=some o->WyO m o)(e:∀k,k<m->x k=x' k):fJ m mk c S x':=by
 refine⟨h.lf,λk hk g=>by rw[<- e k hk];exact h.goal k hk g,λk hk g s=>?_,λk hk s=>by rw[<- e k hk];exact h.no k hk s⟩;rw[<- e k hk,h.mean k hk g s];refine Vs λw hm=>?_;cases ec:c k with
 |none=>rw[ec]at hm;cases hm
 |some o =>
  rw[ec]at hm;exact e w.1 ((hw k hk o ec).lt w hm)
structure Wc(e:Bool)(m:Nat)(off:zd)(mk:zi)(hs:xf):Prop where
 ok:∀p∈hs,PlT off p.1/\∃S,fJ m (mkG mk) (cG off p.1) S p.2
 up:hs.Pairwise λa b=>UpX e m b.2 a.2
section
variable{e:Bool}{ns:Φ}{off:zd}{mk:zi}{hs:xf}
def Wc.len(h:Wc e ns.length off mk hs)(z:HlZ ns off):hs.length<=(K3 off).length:=by
 have nd:(hs.map (·.1)).Nodup:=by
  unfold List.Nodup;rw[List.pairwise_map];refine h.up.imp_of_mem λ{a b}ha hb u eq=>?_;obtain⟨_,S,ca⟩:=h.ok a ha;obtain⟨_,S',cb⟩:=h.ok b hb;obtain⟨k,hk,w⟩:=u.2;rw[eq]at ca;rw[ca.uniq cb (z.cw _) hk]at w;exact Jc w
 have:=Om nd (l':=K3 off) λa ha=>by
  obtain⟨p,hp,rfl⟩:=YV.mp ha;exact ZX (h.ok p hp).1
 rw[ak]at this;exact this
def Wc.cons{p:List xl×(Nat->Rat)}(h:Wc e ns.length off mk hs)(hp:PlT off p.1){S:Nat->Bool}(hc:fJ ns.length (mkG mk) (cG off p.1) S p.2)(hu:∀l,hs.head?=some l->UpX e ns.length l.2 p.2):Wc e ns.length off mk (p::hs):=by
 refine⟨λq hq=>?_,List.pairwise_cons.mpr ⟨λb hb=>?_,h.up⟩⟩
 .rcases YU.mp hq with rfl|hq
  .exact⟨hp,S,hc⟩
  .exact h.ok q hq
 .cases hs with
  |nil=>cases hb
  |cons l tl =>
   have u:=hu l rfl;rcases YU.mp hb with rfl|hb
   .exact u
   .exact((List.pairwise_cons.mp h.up).1 b hb).trans u
end
structure Fin(e:Bool)(ns:Φ)(off:zd)(mk:zi)(c5:zb)(p:PWs):Prop where
 pl:PlT off p.1
 xs:XsB ns.length p.2
 ch:∃S,fJ ns.length (mkG mk) (cG off p.1) S (xG p.2)
 best:Best e ns.length (mkG mk) (λk=>off.getD k []) (xG p.2)
 lo:∃S x0,fJ ns.length (mkG mk) (cG off c5) S x0/\∀k,k<ns.length->¬bet e (xG p.2 k) (x0 k)
structure Stl(e:Bool)(ns:Φ)(off:zd)(mk:zi)(c5:zb)(p:PWs)(cl:zb):Prop where
 pl:PlT off p.1
 xs:XsB ns.length p.2
 ch:∃S,fJ ns.length (mkG mk) (cG off p.1) S (xG p.2)
 turn:o7 e off mk p.2 p.1 cl
 lo:∃S x0,fJ ns.length (mkG mk) (cG off c5) S x0/\∀k,k<ns.length->¬bet e (xG p.2 k) (x0 k)
def toT:Option PWs->T
 |none=>.non
 |some p=>pwT p
def aaM(e:Bool)(ns:Φ)(off:zd)(mk:zi)(c5:zb)(hs:xf)(cl:zb):Option PWs->Prop
 |none=>hs=[]/\cl=c5
 |some p=>hs.head?=some (p.1,xG p.2)/\Stl e ns off mk c5 p cl
def aaM.plan{e:Bool}{ns:Φ}{off:zd}{mk:zi}{c5 cl:zb}{hs:xf}{to:Option PWs}(h0:PlT off c5)(h:aaM e ns off mk c5 hs cl to):PlT off cl:=by
 cases to with
 |none=>rwa[h.2]
 |some p=>exact h.2.turn.plan h.2.pl
def aaM.next{e:Bool}{off:zd}{c5 cl gN:zb}{hs:xf}{to:Option PWs}(z:HlZ ns off)(h0:PlT off c5)(hh:Wc e ns.length off mk hs)(h:aaM e ns off mk c5 hs cl to)(ne:to.map (·.1)≠some cl)(hx:XsB ns.length xs)(hc:fJ ns.length (mkG mk) (cG off cl) S (xG xs))(ht:o7 e off mk xs cl gN):Wc e ns.length off mk ((cl,xG xs)::hs)/\aaM e ns off mk c5 ((cl,xG xs)::hs) gN (some (cl,xs)):=by
 have hp:=h.plan h0;have hl:=z.h.len;cases to with
 |none =>
  obtain⟨rfl,rfl⟩:=h;exact⟨hh.cons hp hc λl e=>(nomatch e),rfl,hp,hx,⟨S,hc⟩,ht,S,xG xs,hc,λ_ _=>Jc⟩
 |some p =>
  obtain⟨eh,st⟩:=h;obtain⟨S',cp⟩:=st.ch;have n:cl≠p.1:=λw=>ne (by rw[w];rfl);have u:=amT (st.turn.turned st.pl (ns:=ns) hl.symm) cp hc (z.cw _) (z.cw _);refine⟨hh.cons hp hc λl e=>?_,rfl,hp,hx,⟨S,hc⟩,ht,by obtain⟨S',x0,c0,l0⟩:=st.lo;exact⟨S',x0,c0,λk hk=>adE (l0 k hk) (u.1 k hk)⟩⟩;rw[eh]at e;cases e;exact u.2 (st.turn.moved st.pl (ns:=ns) hl.symm n)
def Cd(D:Adr)(mg:Str->Ω):ST:=λts q=>∃(e:Bool)(v:Addr)(s:Rat)(ns:Φ)(off:zd)(mk:zi)(c5:zb),ts=[hlT D s ns off,blT mk,.lst (c5.map dT),.val (.ref v)]/\mg (nmQ e)=some (.ref v)/\HlZ ns off/\mk.length=ns.length/\PlT off c5/\∀p:PWs,Fin e ns off mk c5 p->q (.fz (pwT p))
def XF(T:Tx D):gT 10 vG nC (Cd D mg):=ya T.aa0 λF=>by
 refine F.okT W6 (λhr _=>bG (bQ 4 eE)
  (bG (bQ 5 wr)
  (bG (Dk (QW.qt (fW (bW qU we eE) (eX (bW (lG hr.units) wa (bK we bF)))))
  (bG (bQ 4 (dY (bA wa (bA (bJ (Io T) (bA wp (bA wo (bA wa bC)))) bC))))
  (bI (bQ 5 (bJ (LC T) (bA wp (bA wo (bA we (bA wn bC)))))))))
  (bI (bR we))))) ?_
 rintro _ R ⟨e,v,s,ns,off,mk,c5,rfl,hv,h,ml,hp,ok⟩;have hl:=h.h.len;refine⟨λm o=>∃(to:Option PWs)(cl:zb)(hs:xf),o=[.fz (hlT D s ns off),.fz (blT mk),.fz (.lst (c5.map dT)),.fz (.val (.ref v)),.fz (toT to),.fz (.lst (cl.map dT))]/\Wc e ns.length off mk hs/\aaM e ns off mk c5 hs cl to/\m+hs.length=(K3 off).length,⟨(K3 off).length,none,c5,[],rfl,⟨λ_ z=>(nomatch z),List.Pairwise.nil⟩,⟨rfl,rfl⟩,rfl⟩,?_⟩;rintro m _ ⟨to,cl,hs,rfl,hh,si,em⟩;have hc:=si.plan hp;refine ahS (decide (to.map (·.1)≠some cl)) (λq hq=>?_) (swD (λhn=>?_) λhn=>?_)
 .cases to with
  |none=>exact hq
  |some p =>
   show gEq true (.lst (cl.map dT)) (.lst (p.1.map dT)) λx=>match frz x with|.bl b=>q b|_=>False
   refine adL.gEq ?_;have e2:xr true (decide (cl=p.1))=decide ((some p).map (·.1)≠some cl):=by
    by_cases c:cl=p.1
    .rw[Zs c,c];simp
     rfl
    .rw[Zp c];have:¬(p.1=cl):=λz=>c z.symm;simp[this]
     rfl
   rwa[e2]
 .refine⟨λo'=>∃(xs:zS)(gN:zb)(S:Nat->Bool),o'=[.fz (hlT D s ns off),.fz (blT mk),.fz (.lst (c5.map dT)),.fz (.val (.ref v)),.fz (pwT (cl,xs)),.fz (.lst (gN.map dT))]/\XsB ns.length xs/\fJ ns.length (mkG mk) (cG off cl) S (xG xs)/\o7 e off mk xs cl gN,?_,?_⟩
  .rintro _ ⟨xs,gN,S,rfl,h1,h2,h3⟩;obtain⟨n1,n2⟩:=si.next h hp hh hn h1 h2 h3;have l:=n1.len h;rw[List.length_cons]at l;exact⟨(K3 off).length-(hs.length+1),by omega,some (cl,xs),gN,(cl,xG xs)::hs,rfl,n1,n2,by rw[List.length_cons];exact Nat.sub_add_cancel l⟩
  .refine⟨s,ns,off,mk,cl,rfl,h,ml,hc,λS x ch fb=>?_⟩;have xm:((List.range ns.length).map x).map frR=(List.range ns.length).map λi=>frR (x i):=by rw[WU];rfl
   have xg:∀k,k<ns.length->((List.range ns.length).map x).getD k 0=x k:=λk hk=>by rw[au,aq,VX hk];rfl
   have xb:XsB ns.length ((List.range ns.length).map x):=⟨by rw[ak,WP],λr hr=>by
    obtain⟨i,hi,rfl⟩:=YV.mp hr;exact fb i (List.mem_range.mp hi),λr hr=>by
    obtain⟨i,hi,rfl⟩:=YV.mp hr;exact ch.nn (h.cw _) i (List.mem_range.mp hi),λr hr=>by
    obtain⟨i,hi,rfl⟩:=YV.mp hr;exact ch.le1 (h.cw _) i (List.mem_range.mp hi)⟩
   have cx:fJ ns.length (mkG mk) (cG off cl) S (xG ((List.range ns.length).map x)):=ch.congr (h.cw _) λk hk=>(xg k hk).symm;rw[<- xm];exact⟨e,v,s,ns,off,mk,(cl,(List.range ns.length).map x),rfl,hv,h,ml,hc,xb,λgN ht=>⟨_,gN,S,rfl,xb,cx,ht⟩⟩
 .have hn:to.map (·.1)=some cl:=Decidable.not_not.mp hn;cases to with
  |none=>cases hn
  |some p =>
   cases hn;obtain⟨S,c⟩:=si.2.ch;exact ok p ⟨si.2.pl,si.2.xs,⟨S,c⟩,si.2.turn.best si.2.pl h c,si.2.lo⟩
def L_(off:zd):zb:=off.map λds=>if 0<ds.length then some 0 else none
def U_(off:zd):PlT off (L_ off):=by
 refine⟨ak ..,λk d ds e1 e2=>?_⟩;unfold L_ at e1;rw[aq,e2]at e1;cases e1;show qQ (if 0<ds.length then some 0 else none) ds.length=true;split
 .rename_i h;exact Zs h
 .rename_i h;exact Zs wv
def uE(D:Adr):ST:=λts q=>∃(s:Rat)(ns:Φ)(off:zd),ts=[hlT D s ns off]/\Nf ns off/\q (.l1 ((L_ off).map dT))
def MN(T:Tx D):gT 4 nW iU (uE D):=ya T.S7 λF=>by
 refine F.okT Mf (λ_ _=>bI (bR (cD (bH pK) vB vB ["room"] (dI T.fu (bA (xY wp T.iK T.pY (Sy T) (KS:=jN)) bC)) (c7 (i:=0)) b_ (FJ (bW yF (bT cQ T.dU WG (bA (wO wo T.iK T.jA (aao T) (bA wp bC) (KS:=jN)) bC)) bF) bF eE)))) ?_;rintro _ R ⟨s,ns,off,rfl,h,q⟩;have few:=h.few;have hl:=h.len;have em:(List.range ns.length).map (λk=>dT (if 0<(off.getD k []).length then some 0 else none))=(L_ off).map dT:=by
  refine List.ext_getElem? λk=>?_;unfold L_;rw[aq,aq,aq];by_cases hk:k<ns.length
  .rw[VX hk,aj (show k<off.length by lia)];show some (dT (if 0<(off.getD k []).length then some 0 else none))=some (dT (if 0<off[k].length then some 0 else none));rw[show off.getD k []=off[k]by rw[au,aj (show k<off.length by lia)];rfl]
  .rw[aM (by rw[WP];exact VS hk),aM (show off.length<=k by lia)]
   rfl
 refine⟨⟨rfl,rfl⟩,s,ns,off,rfl,⟨by lia,by lia⟩,by rw[rng,ak,WP];exact aL (show _<=1000 by lia) wx,Ju (λk=>dT (if 0<(off.getD k []).length then some 0 else none)) ns.length (λk hk N M hN=>?_) ?_⟩
 .have ek:=aj (show k<off.length by lia);rw[au,ek]at hN;have hN:N (dT (if 0<off[k].length then some 0 else none)):=hN;refine⟨⟨rfl,rfl⟩,s,ns,off,k,_,rfl,h,ek,?_⟩;by_cases c:0<off[k].length
  .rw[ZY c]at hN;exact swT (Zs (by rw[ak];lia)) hN
  .rw[ZZ c]at hN;exact swF (Zp (by rw[ak];lia)) hN
 .rw[em];exact q
def VN:EqD L2.T.bl PyData.bool:=⟨λ_=>rfl,λ_=>rfl,λ_=>aZ _,λx y=>by cases x<;>cases y<;>rfl⟩
structure Ga(off:zd)(mk:zi)(st:zb)(k:Nat)(pl:zb):Prop where
 fit:PlT off pl
 ok:∀(i:Nat)ds,i<k->off[i]?=some ds->dO st i=false->ds≠[]->∃j o,pl[i]?=some (some j)/\ds[j]?=some o/\mtS (dO st) (o.ways.map (·.1))=false
def aam{off:zd}(h:HlZ ns off)(ml:mk.length=ns.length)(hs:Steps true mk (ldL mk off) st)(hk:Ga off mk st ns.length pl){x:Nat->Rat}(hc:fJ ns.length (mkG mk) (cG off pl) S x):∀k,k<ns.length->dO st k=false->x k=0:=λk0 eW s0=>by
 have hl:=h.h.len;have up:∀k,k<ns.length->S k=true->dO st k=true:=hc.lf.least (dO st) (λk hk g=>hs.lf.base k wv g) λk lk j=>by
  obtain⟨o,eo,w,hw,sw⟩:=RW j;refine Classical.byContradiction λno=>?_;have no:dO st k=false:=by cases z:dO st k with|true=>exact absurd z no|false=>rfl
  have ek:=aj (show k<off.length by lia);obtain⟨ds,e1,e2⟩:=G7 eo;rw[ek]at e1;cases e1;obtain⟨i,p,ei,ep,mt⟩:=hk.ok k _ lk ek no λz=>by rw[z]at e2;cases e2
  rw[sZ ei ek]at eo;have eo:off[k][i]?=some o:=eo;rw[ep]at eo;cases eo;have:mtS (dO st) (o.ways.map (·.1))=true:=List.any_eq_true.mpr ⟨w.1,YV.mpr ⟨w,hw,rfl⟩,sw⟩;rw[mt]at this;cases this
 refine hc.no k0 eW ?_;cases z:S k0 with
 |true=>rw[up k0 eW z]at s0;cases s0
 |false=>rfl
theorem V9:∀{bs:zi},bs.all (λb=>b)=false->∃j:Nat,bs[j]?=some false/\∀i:Nat,i<j->bs[i]?=some true
 |[],h=>by cases h
 |false::bs,_=>⟨0,rfl,λi z=>absurd z (WZ _)⟩
 |true::bs,h=>by
  obtain⟨j,e,n⟩:=V9 (bs:=bs) h;refine⟨j+1,e,λi hi=>?_⟩;cases i with
  |zero=>rfl
  |succ i=>exact n i (Nat.lt_of_succ_lt_succ hi)
def Ga.skip{off:zd}(h:Ga off mk st k pl)(n:∀ds,off[k]?=some ds->dO st k=true\/ds=[]):Ga off mk st (k+1) pl:=⟨h.fit,λi ds hi eo s ne=>by
 by_cases c:i=k
 .subst c;rcases n ds eo with z|z
  .rw[z]at s;cases s
  .exact absurd z ne
 .exact h.ok i ds (XX (VT hi) c) eo s ne⟩
def Ga.put{off:zd}{ds:xD}{o:bN}(h:Ga off mk st k pl)(eo:off[k]?=some ds)(ej:ds[j]?=some o)(m:mtS (dO st) (o.ways.map (·.1))=false):Ga off mk st (k+1) (pl.set k (some j)):=by
 have lk:k<pl.length:=by rw[h.fit.len];exact(ao.mp eo).1
 have at_:(pl.set k (some j))[k]?=some (some j):=by rw[US lk]
 refine⟨⟨by rw[VZ];exact h.fit.len,λi d gE ei es=>?_⟩,λi gE hi es s ne=>?_⟩
 .by_cases c:i=k
  .subst c;rw[at_]at ei;rw[eo]at es;cases ei;cases es;exact Zs (ao.mp ej).1
  .rw[UY (λz=>c z.symm)]at ei;exact h.fit.ok i d gE ei es
 .by_cases c:i=k
  .subst c;rw[eo]at es;cases es;exact⟨j,o,at_,ej,m⟩
  .rw[UY (λz=>c z.symm)];exact h.ok i gE (XX (VT hi) c) es s ne
def xu(D:Adr):ST:=λts q=>∃(s:Rat)(ns:Φ)(off:zd)(gs:zn),ts=[hlT D s ns off,blT (mkL ns.length gs)]/\HlZ ns off/\∀st pl:zb,Steps true (mkL ns.length gs) (ldL (mkL ns.length gs) off) st->Ga off (mkL ns.length gs) st ns.length pl->q (.l1 (pl.map dT))
theorem Ie(T:Tx D):gT 5 oY iJ (xu D):=ya T.K4 λF=>by
 refine F.okU Iw λag A outer s H E hr nd=>?_;obtain⟨vs,da,_⟩:=OkF.val (XH T);refine⟨_,(bG (bQ 2 (bJ (UW T) (bA wp (bA wo bC))))
  (bG (bQ 3 (bJ (Ub T) (bA wo (bA wr (bA (Rh (by rfl) da) bC)))))
  (bG (gK 4 (bJ (MN T) (bA wp bC)))
  (bG (cY (pU T.gF (bA wr bC)) (dB (n:=2) (bM (bU (n:=99) 5) (bM (bU (n:=99) 6) cL)))
  (bI (cA (QW.qt (Gi (bW qU (bK wn wa) eE) (Ax (bW yF (bT cQ T.dU WG (bA (qv 6) bC)) bF))))
  (bI (uo 4 (afo hr.units (cD (bH mF) qF qF ["door"] (bZ (qv 6)) (c7 (i:=0)) b_ (bJ (acv T) (bA wp (bA we bC)))) (bA g_ bC)) wa))
  bV)))
  (bI (iu 4)))))),?_⟩
 rintro _ R ⟨s,ns,off,gs,rfl,h,q⟩;have hw:=h.toW;have ml:=tO ns.length gs;generalize emk:mkL ns.length gs=mk at *;refine⟨s,ns,off,mk,rfl,h.h,ml,hw.fw,true,vs,mk,ldL mk off,rfl,da,by rw[ml];exact hw.few,emk ▸ hw.ld gs,λst hs=>⟨s,ns,off,rfl,h.h,?_⟩⟩;have hl:=h.h.len;have lb:LdB mk.length (ldL mk off):=emk ▸ hw.ld gs;refine qm uZ (ldL mk off) (λk o=>∃pl x y,o=[.fz (hlT D s ns off),.fz (blT mk),.fz (.lst ((ldL mk off).map uZ)),.fz (.lst (st.map dT)),.l1 (pl.map dT),x,y]/\Ga off mk st k pl) ⟨L_ off,.und,.und,rfl,U_ off,λi _ z=>absurd z (WZ _)⟩ ?_ ?_
 .rintro k dd _ e ⟨pl,x,y,rfl,kp⟩;have lk:=(ao.mp e).1;rw[lb.len]at lk;have ed:ldO (mkG mk) (Ah off) k=dd:=by
   rw[<- Yu lk];show(ldL mk off).getD k []=dd;rw[au,e]
   rfl
  have es:=aj (show k<st.length by rwa[hs.len]);have ek:=aj (show k<off.length by lia);have sk:dO st k=(st[k]'(by rwa[hs.len])).isSome:=by unfold dO;rw[au,es];rfl
  refine⟨rfl,_,cZ es,?_⟩;cases c:st[k]'(by rwa[hs.len])with
  |some n =>
   rw[c]at sk;exact⟨pl,_,_,rfl,kp.skip λ_ _=>.inl sk⟩
  |none =>
   rw[c]at sk;have m0:mkG mk k=false:=by
    cases z:mkG mk k with
    |false=>rfl
    |true=>rw[hs.lf.base k lk z]at sk;cases sk
   have e2:dd=off[k].map λo=>o.ways.map (·.1):=by
    rw[<- ed];unfold ldO;rw[m0];show(off.getD k []).map _=_;rw[au,ek]
    rfl
   refine swD (λz=>?_) λz=>⟨pl,_,_,rfl,kp.skip λds eo=>.inr ?_⟩
   .have z:0<dd.length:=by rw[ak]at z;lia
    have nm:(dd.map (mtS (dO st))).all (λb=>b)=false:=by
     cases w:(dd.map (mtS (dO st))).all (λb=>b)with
     |false=>rfl
     |true =>
      have:=hs.lf.step k lk (by
       show jn true (ldG (ldL mk off) k) (dO st)=true;rw[Yu lk,ed];show(decide (0<dd.length)&&dd.all (mtS (dO st)))=true;rw[List.all_map]at w;rwa[Zs z])
      rw[sk]at this;cases this
    obtain⟨j,ej,nj⟩:=V9 nm;have lj:j<off[k].length:=by have:=(ao.mp ej).1;rw[ak,e2,ak]at this;exact this
    have mj:mtS (dO st) (off[k][j].ways.map (·.1))=false:=by
     rw[e2,WU,aq,aj lj]at ej;exact Option.some.inj ej
    have md:=aC e;have fw:=lb.few _ md;refine⟨by rw[ak];exact aL fw wx,comp_map ntT (λd=>.bl (mtS (dO st) d)) dd (λd hd N M hN=>⟨d,st,rfl,(lb.ok _ md d hd).1,by rw[hs.len];exact(lb.ok _ md d hd).2,hN⟩) ⟨(dd.map (mtS (dO st))).map PyData.bool,.bool false,j,?_,rfl,VN.lst _,rfl,by rw[ak];exact aL fw wx,⟨_,by rw[aq,ej];rfl,rfl⟩,λi g hi eg=>?_,k,vY (by rw[ak,kp.fit.len];lia),pl.set k (some j),.fz (.int (k:Nat)),.fz (uZ dd),?_,kp.put ek (aj lj) mj⟩⟩
    .rw[<- oE VN.of,WU]
     rfl
    .rw[aq,nj i hi]at eg;cases eg
     rfl
    .rw[Th]
     rfl
   .rw[ek]at eo;cases eo;rw[e2,ak,ak]at z;exact List.length_eq_zero_iff.mp wv
 .rintro _ ⟨pl,x,y,rfl,kp⟩;rw[lb.len,ml]at kp;exact q st pl hs kp
structure ChP(e:Bool)(ns:Φ)(off:zd)(gs:zn)(p:PWs):Prop where
 pl:PlT off p.1
 xs:XsB ns.length p.2
 ch:∃S,fJ ns.length (mkF gs) (cG off p.1) S (xG p.2)
 best:Best e ns.length (mkF gs) (Ah off) (xG p.2)
 no:e=true->∀S,Lfp true ns.length (mkF gs) (ldO (mkF gs) (Ah off)) S->∀k,k<ns.length->S k=false->xG p.2 k=0
def fJ.marks{m:Nat}{mk mk' S:Nat->Bool}{c:Nat->xo}{x:Nat->Rat}(h:fJ m mk c S x)(e:∀k,k<m->mk k=mk' k):fJ m mk' c S x:=⟨h.lf.marks e,λk hk g=>h.goal k hk (by rwa[e k hk]),λk hk g=>h.mean k hk (by rwa[e k hk]),h.no⟩
def Fin.chp{e:Bool}{off:zd}{c5:zb}{p:PWs}(h:Fin e ns off (mkL ns.length gs) c5 p)(z:e=true->∀S,Lfp true ns.length (mkF gs) (ldO (mkF gs) (Ah off)) S->∀k,k<ns.length->S k=false->xG p.2 k=0):ChP e ns off gs p:=by
 have me:∀k,k<ns.length->mkG (mkL ns.length gs) k=mkF gs k:=λk hk=>Gz hk;obtain⟨S,c⟩:=h.ch;exact⟨h.pl,h.xs,⟨S,c.marks me⟩,⟨λk hk g=>h.best.ok k hk (by rwa[me k hk])⟩,z⟩
def vN(D:Adr)(e:Bool):ST:=λts q=>∃(s:Rat)(ns:Φ)(off:zd)(gs:zn),ts=[hlT D s ns off,ntT gs]/\HlZ ns off/\ahr ns gs/\∀p:PWs,ChP e ns off gs p->q (.fz (pwT p))
def Bj(T:Tx D):gT 11 jU fG (vN D false):=ya T.Dc λ{f fd}F=>by
 refine F.okU Bh λag A outer s H E hr nd=>?_;obtain⟨vs,cy,_⟩:=OkF.val (Qe T);refine⟨_,(bI (bR (bJ (XF T) (bA wp (bA (bJ (Mw T) (bA wp (bA wo bC))) (bA (bJ (MN T) (bA wp bC)) (bA (Rh (by rfl) cy) bC))))))),?_⟩;rintro _ R ⟨s,ns,off,gs,rfl,h,hg,q⟩;exact⟨s,ns,off,gs,rfl,h.h,hg,s,ns,off,rfl,h.h,false,vs,s,ns,off,mkL ns.length gs,L_ off,rfl,cy,h,tO _ _,U_ off,λp f=>q p (f.chp λz=>(nomatch z))⟩
def Gb(T:Tx D):gT 11 nH gR (vN D true):=ya T.Ik λ{f fd}F=>by
 refine F.okU Gu λag A outer s H E hr nd=>?_;obtain⟨vs,dP,_⟩:=OkF.val (adD T);refine⟨_,(bG (bQ 2 (bJ (Mw T) (bA wp (bA wo bC))))
  (bI (bR (bJ (XF T) (bA wp (bA wr (bA (bJ (Ie T) (bA wp (bA wr bC))) (bA (Rh (by rfl) dP) bC)))))))),?_⟩
 rintro _ R ⟨s,ns,off,gs,rfl,h,hg,q⟩;refine⟨s,ns,off,gs,rfl,h.h,hg,s,ns,off,gs,rfl,h,λst pl hs kp=>⟨true,vs,s,ns,off,mkL ns.length gs,pl,rfl,dP,h,tO _ _,kp.fit,λp f=>q p (f.chp λ_ S lf k hk sk=>?_)⟩⟩;obtain⟨S0,x0,c0,l0⟩:=f.lo;have z0:=aam h (tO _ _) hs kp c0 k hk (by rwa[Rx hs.hall lf hk]);have a:¬x0 k<xG p.2 k:=l0 k hk;have b:=(f.xs.get k).1;rw[z0]at a;exact Rat.le_antisymm (Rat.not_lt.mp a) b
def JN:ST:=λts q=>∃i:Int,ts=[.int i]/\q (.fz (.bl true))
def abK(T:Tx D):gT 1 Fw uU JN:=ya T.afA λF=>by
 refine F.okT adg (λ_ _=>bI (bR (G6 (rM .int wp T.d7 T.adK boot_int) (G3 (ab0 (rM .bool wp T.d7 T.ac0 boot_bool)))))) ?_;rintro _ R ⟨i,rfl,q⟩;exact q
def za:ST:=λts q=>∃r:Rat,ts=[frR r]/\q (.fz (.bl true))
def Lz(T:Tx D):gT 2 su jk za:=ya T.MK λF=>by
 refine F.okT Ks (λhr _=>bG (cA (QW.qt (fW (dN (cF (rM .tuple wp T.d7 T.S5 boot_tuple))) (eX (bW (lG hr.units) (bT cQ T.dU WG (bA wp bC)) bF))))
  (bI (bR g_))
  bV)
  (bG (cA (QW.qt (fW (dN (cF (bJ (abK T) (bA (bK wp bF) bC)))) (eX (dN (cF (bJ (abK T) (bA (bK wp bF) bC)))))))
  (bI (bR g_))
  bV)
  (bI (bR (G6 (qw yF (bK wp bF) bF) (G3 (qw (go_eq hr.units) (bJ (aiY T) (bA (bK wp bF) (bA (bK wp bF) bC))) bF))))))) ?_
 rintro _ R ⟨r,rfl,q⟩;have:=r.den_pos;refine⟨_,rfl,_,rfl,swT (Zs wv) ⟨_,_,rfl,?_⟩⟩;rwa[show Int.gcd r.num r.den=1 from r.reduced]
def Fq:ST:=λts q=>∃(rs:zS)(m:Nat),ts=[.lst (rs.map frR),.int (m:Nat)]/\rs.length=m/\m<=1000/\q (.fz (.bl true))
def RJ(T:Tx D):gT 3 wW lO Fq:=ya T.UJ λF=>by
 refine F.okT Ri (λhr _=>bG (cA (QW.qt (fW (dN (cF (rM .list wp T.d7 T.rN boot_list))) (eX (bW (lG hr.units) (bT cQ T.dU WG (bA wp bC)) wo))))
  (bI (bR g_))
  bV)
  (bI (bR (bT (Xb rfl) T.acW boot_all (bA (cD (bH sW) z8 z8 ["_law_one"] (bZ wp) (c7 (i:=0)) b_ (bJ (Lz T) (bA wp bC))) bC))))) ?_
 rintro _ R ⟨rs,m,rfl,hl,hm,q⟩;refine swF (by rw[ak,hl,Zs rfl];rfl) ⟨by rw[ak,hl];exact aL hm wx,comp_map frR (λ_=>.bl true) rs (λr _ N M hN=>⟨r,rfl,hN⟩) ⟨rs.map λ_=>true,by rw[WU];rfl,?_⟩⟩;have e:((rs.map λ_=>true).all λb=>b)=true:=by simp
 rw[<- e]at q;exact q
def Ue:ST:=λts q=>∃(c:Int)(m:Nat),ts=[.int c,.int (m:Nat)]/\m<=8/\∀gs:zn,gs.length<=9->(∀g∈gs,g<m)->q (.l1 (gs.map inT))
def ad1(T:Tx D):gT 2 Ko yt Ue:=ya T.agc λF=>by
 refine F.okT ada (λhr _=>bG (cA (bW (go_eq hr.units) wo bF)
  (bI (bR (cR bC)))
  bV)
  (bG (bQ 2 (bJ (aaU T) (bA wp (bA bF bC))))
  (bI (bR (cD (bH Jt) Ti Ti ["_law_x"] (bZ (mR wr (iD bF) (iD (bO dh bF (bO cW (bK wr bF) (bK (cR (bA bF (bA bF (bA bF (bA bF bC))))) (bO cW (bK wr bF) bF))))))) (c7 (i:=0)) b_ (bO cW wp wr)))))) ?_
 rintro _ R ⟨c,m,rfl,hm,q⟩;refine swD (λz=>q [] wx λg hg=>(nomatch hg)) λz=>?_;refine⟨c,9,rfl,by decide,?_⟩;obtain⟨d,ed,hd⟩ : ∃d:Int,ixT [L2.T.int 4,L2.T.int 4,L2.T.int 4,L2.T.int 8] (strm c 8%4)=some (.int d)/\0<d:=by
  rcases(show strm c 8%4=0\/strm c 8%4=1\/strm c 8%4=2\/strm c 8%4=3 by lia)with z|z|z|z<;>rw[z]
  .exact⟨4,rfl,by decide⟩
  .exact⟨4,rfl,by decide⟩
  .exact⟨4,rfl,by decide⟩
  .exact⟨8,rfl,by decide⟩
 refine⟨_,rfl,_,rfl,by decide,_,ed,hd,?_⟩;show(gZ ((iV c 9).map L2.T.int) (some 1) (some (1+strm c 0%d))).length<=sizeLine/\ig _ _ _ _ (gZ ((iV c 9).map L2.T.int) (some 1) (some (1+strm c 0%d))) _;generalize 1+strm c 0%d=u;rw[Ar];have l9:(gZ (iV c 9) (some 1) (some u)).length<=9:=by
  unfold gZ;rw[aY,Ts];have:(iV c 9).length=9:=rfl;lia
 refine⟨by rw[ak];exact aL l9 wx,comp_map L2.T.int (λx:Int=>.int (x%((m:Nat):Int))) _ (λx _ N M hN=>⟨by lia,hN⟩) ?_⟩;have e:(gZ (iV c 9) (some 1) (some u)).map (λx:Int=>L2.T.int (x%((m:Nat):Int)))=((gZ (iV c 9) (some 1) (some u)).map λx:Int=>(x%((m:Nat):Int)).toNat).map inT:=by
  rw[WU];refine UX λx _=>?_;show L2.T.int _=L2.T.int _;rw[Int.toNat_of_nonneg (Z3 _ (by omega))]
 rw[e];refine q _ (by rwa[ak]) λg hg=>?_;obtain⟨x,_,rfl⟩:=YV.mp hg;have:=YY x (show(0:Int)<(m:Nat)by lia);have:=Z3 x (show((m:Nat):Int)≠0 by omega);lia
def ahZ{mo:Nat}{ae:zC}{off:zd}(hn:ns.length=m)(m8:m<=8)(h:Nf ns off)(hd:DSk m mo ae)(ho:Hq ae off):HlZ ns off:=by
 refine⟨h,by exact aL (WJ hn) m8,λos mB o hmo=>?_⟩;obtain⟨k,ek⟩:=aV mB;have lk:k<ae.length:=by rw[<- ho.len];exact(ao.mp ek).1
 obtain⟨tl,_,rfl⟩:=ho.at_ k _ os (aj lk) ek;obtain⟨p,hp,rfl⟩:=YV.mp hmo;have lk:=hd.ok _ (aU lk) p.2 (UV hp).2;obtain⟨q,q0,q1,hq⟩:=lk.all;have j:=Rr q0 hq;have f1:=j.few;have f2:=lk.few;refine⟨⟨λw hw=>by rw[hn];exact j.lt w hw,λw hw=>?_,?_⟩,j.nd,by show(mY p.2.prs).length<=1000;lia,q,q0,q1,j.dn⟩
 .have nn:=j.nn w hw;have ne:w.2≠0:=λz=>by
   have:=(List.mem_filter.mp (show w∈(fP p.2.prs).filter λp=>!decide (p.2=0)from hw)).2;rw[Zs z]at this;cases this
  exact Rat.not_le.mp λz=>ne (Rat.le_antisymm z nn)
 .show Pu (mY p.2.prs)=1;rw[Ef,j.sum,Ay,lk.one]
def aiV{L:zi}(hk:k<L.length)(i:Nat):mkG (L.set k true) i=(decide (i=k) || mkG L i):=by
 show(L.set k true).getD i false=(_ || L.getD i false);rw[au,au];by_cases e:i=k
 .rw[e,US hk,Zs rfl];rfl
 .rw[UY (λz=>e z.symm),Zp e];rfl
def alj{S':Nat->Bool}{d:zn}(h:∀i,S i=true->S' i=true)(e:mtS S d=true):mtS S' d=true:=by
 obtain⟨r,hr,s⟩:=List.any_eq_true.mp e;exact List.any_eq_true.mpr ⟨r,hr,h r s⟩
structure NrI(m:Nat)(gs:zn)(W:Nat->zn)(L:zi):Prop where
 len:L.length=m
 base:∀k,k<m->mkF gs k=true->mkG L k=true
 least:∀A:Nat->Bool,(∀k,k<m->mkF gs k=true->A k=true)->(∀k,k<m->mtS A (W k)=true->A k=true)->∀k,k<m->mkG L k=true->A k=true
def Clo(m:Nat)(W:Nat->zn)(L:zi):Prop:=∀k,k<m->mtS (mkG L) (W k)=true->mkG L k=true
def NrT(m:Nat)(gs:zn)(W:Nat->zn)(t:Nat)(L:zi):Prop:=NrI m gs W L/\(Clo m W L\/cnt (mkG L) m+t<=m)
structure NrJ(m:Nat)(gs:zn)(W:Nat->zn)(L0:zi)(k:Nat)(L:zi):Prop where
 i:NrI m gs W L
 up:∀i,mkG L0 i=true->mkG L i=true
 done:∀i,i<k->mtS (mkG L0) (W i)=true->mkG L i=true
section
variable{m k t:Nat}{gs:zn}{W:Nat->zn}{L L0:zi}
def NrJ.no(h:NrJ m gs W L0 k L)(n:mtS (mkG L) (W k)=false):NrJ m gs W L0 (k+1) L:=⟨h.i,h.up,λi hi e=>by
 by_cases c:i=k
 .subst c;rw[alj h.up e]at n;cases n
 .exact h.done i (XX (VT hi) c) e⟩
def NrJ.yes(h:NrJ m gs W L0 k L)(hk:k<m)(hW:∀r∈W k,r<m)(y:mtS (mkG L) (W k)=true):NrJ m gs W L0 (k+1) (L.set k true):=by
 have sa:=aiV (L:=L) (k:=k) (by rwa[h.i.len]);have u:∀i,mkG L i=true->mkG (L.set k true) i=true:=λi e=>by rw[sa,e,Bool.or_true]
 refine⟨⟨by rw[VZ,h.i.len],λi hi g=>u i (h.i.base i hi g),λA a b i hi e=>?_⟩,λi e=>u i (h.up i e),λi hi e=>?_⟩
 .rw[sa]at e;by_cases c:i=k
  .subst c;obtain⟨r,hr,s⟩:=List.any_eq_true.mp y;exact b i hi (List.any_eq_true.mpr ⟨r,hr,h.i.least A a b r (hW r hr) s⟩)
  .rw[Zp c,Bool.false_or]at e;exact h.i.least A a b i hi e
 .by_cases c:i=k
  .rw[sa,Zs c];rfl
  .exact u i (h.done i (XX (VT hi) c) e)
def NrJ.turn(hW:∀k,k<m->∀r∈W k,r<m)(j:NrJ m gs W L0 m L)(h:NrT m gs W t L0):NrT m gs W (t+1) L:=by
 refine⟨j.i,?_⟩;by_cases c:Clo m W L0
 .refine .inl λk hk s=>?_;obtain⟨r,hr,s⟩:=List.any_eq_true.mp s;exact j.up k (c k hk (List.any_eq_true.mpr ⟨r,hr,j.i.least (mkG L0) h.1.base c r (hW k hk r hr) s⟩))
 .right;have d:cnt (mkG L0) m+t<=m:=h.2.resolve_left c;obtain⟨k,hk,s,n⟩ : ∃k,k<m/\mtS (mkG L0) (W k)=true/\mkG L0 k=false:=by
   refine Classical.byContradiction λz=>c λk hk s=>?_;cases e:mkG L0 k with
   |true=>rfl
   |false=>exact absurd ⟨k,hk,s,e⟩ z
  have:=Xr n (j.done k hk s) hk λi _ e=>j.up i e;lia
theorem Zc(S:Nat->Bool):∀n,cnt S n<=n
 |0=>aG _
 |n+1=>by
  have:=Zc S n;show cnt S n+(if S n then 0 else 1)<=n+1;split<;>lia
theorem aby{S:Nat->Bool} : ∀{n:Nat},cnt S n=0->∀k,k<n->S k=true
 |n+1,h,k,hk=>by
  have h:cnt S n+(if S n then 0 else 1)=0:=h;cases e:S n with
  |true =>
   rw[e]at h;by_cases c:k=n
   .rw[c,e]
   .exact aby (n:=n) h k (XX (VT hk) c)
  |false=>rw[e]at h;simp at h
def NrT.fin(h:NrT m gs W m L):Lfp false m (mkF gs) (λk=>[W k]) (mkG L):=by
 have c:Clo m W L:=h.2.elim id λz k hk _=>aby (show cnt (mkG L) m=0 by lia) k hk;have j:∀{k:Nat}{A:Nat->Bool},jn false [W k] A=true↔mtS A (W k)=true:=λ{k A}=>by
  show(([W k] : xA).any (mtS A))=true↔_;simp
 exact⟨h.1.base,λk hk e=>c k hk (j.mp e),λA a b=>h.1.least A a λk hk e=>b k hk (j.mpr e)⟩
def NrT.start:NrT m gs W 0 (mkL m gs):=⟨⟨tO _ _,λk hk g=>by rw[Gz hk];exact g,λA a _ k hk e=>a k hk (by rw[<- Gz hk];exact e)⟩,.inr (Zc _ _)⟩
end
abbrev wsT(ws:zg):L2.T:=.lst (ws.map nwT)
abbrev rmG(tk:List zg)(k:Nat):zn:=(tk.getD k []).map (·.1)
def inD(k:Nat):PyData:=.int (k:Nat)
def Es:EqD inT inD:=⟨λ_=>rfl,λ_=>rfl,λ_=>aZ _,λx y=>by
 show decide ((x:Int)=(y:Int))=_;exact decide_eq_decide.mpr ⟨λz=>Int.ofNat.inj z,λz=>by rw[z]⟩⟩
def acV : ((gs.map inD).any λy=>PyData.eqv y (inD k))=mkF gs k:=by
 rw[UK];unfold mkF;refine Bool.eq_iff_iff.mpr ⟨λz=>?_,λz=>?_⟩
 .obtain⟨y,hy,e⟩:=List.any_eq_true.mp z;have e:PyData.eqv (inD y) (inD k)=true:=e;rw[Es.eqv]at e;exact Zs (of_decide_eq_true e ▸ hy)
 .exact List.any_eq_true.mpr ⟨k,of_decide_eq_true z,by show PyData.eqv (inD k) (inD k)=true;rw[Es.eqv];exact Zs rfl⟩
def akm(gs:zn):ntT gs=ofD (.list (gs.map inD)):=ZH L2.T.lst (oE Es.of gs)
def aeV{neg:Bool}{q:OT->Prop}(h:q (.fz (.bl (xr neg (mkF gs k))))):gIn neg (inT k) (ntT gs) q:=⟨inD k,gs.map inD,rfl,akm gs,rfl,Es.lst gs,by rwa[acV]⟩
def Zx:ST:=λts q=>∃(tk:List zg)(gs:zn),ts=[.lst (tk.map wsT),ntT gs]/\tk.length<=100/\(∀ws∈tk,ws.length<=1000/\∀w∈ws,w.1<tk.length)/\∀L:zi,L.length=tk.length->Lfp false tk.length (mkF gs) (λk=>[rmG tk k]) (mkG L)->q (.l1 (L.map L2.T.bl))
def agm(T:Tx D):gT 1 Rq Et Zx:=ya T.ahp λ{f fd}F=>by
 refine F.okT afl (λhr _=>bG (gK 2 (cD (bH Lr) Qa ["_law_taken_here","_law_goals_here","_law_found","_law_turn","?_law_k"] ["_law_k"] (dI T.fu (bA (bT cQ T.dU WG (bA wp bC)) bC)) (c7 (i:=0)) b_ (qw (agM hr.units) wp wr (hm:=by rfl))))
  (bG (cY (dI T.fu (bA (bT cQ T.dU WG (bA wp bC)) bC)) (bU (n:=99) 3)
  (bI (cY (dI T.fu (bA (bT cQ T.dU WG (bA wp bC)) bC)) (bU (n:=99) 4)
  (bI (cA (cF (bT (Xl rfl) T.abI boot_any (bA (cD (bH Lr) Qa Qa ["_law_room","_law_chance"] (bZ (bK wp we)) (dB (n:=2) (bM (c7 (i:=0)) (bM (c7 (i:=1)) cL))) b_ (wV 4 wp)) bC)))
  (bI (uo 2 g_ we))
  bV)))))
  (bI (iu 2)))) ?_
 rintro _ R ⟨tk,gs,rfl,few,ok,q⟩;have lm:(tk.map wsT).length=tk.length:=ak ..;have hW:∀k,k<(tk.map wsT).length->∀r∈rmG tk k,r<(tk.map wsT).length:=λk hk r hr=>by
  rw[lm]at hk ⊢;obtain⟨w,hw,rfl⟩:=YV.mp hr;rw[au,aj hk]at hw;exact(ok _ (aU hk)).2 w hw
 refine⟨⟨by lia,by lia⟩,by rw[rng,ak,WP];exact aL (show _<=100 by lia) wx,Ju (λk=>.bl (mkF gs k)) (tk.map wsT).length (λk hk N M hN=>show gIn false (inT k) (ntT gs) λy=>N (frz y)from aeV hN) ?_⟩;have e0:(List.range (tk.map wsT).length).map (λk=>L2.T.bl (mkF gs k))=(mkL (tk.map wsT).length gs).map L2.T.bl:=by unfold mkL;rw[WU];rfl
 rw[e0];refine⟨⟨by lia,by lia⟩,lX (n:=(tk.map wsT).length) (λt o=>∃L x y,o=[.fz (.lst (tk.map wsT)),.fz (ntT gs),.l1 (L.map L2.T.bl),x,y]/\NrT (tk.map wsT).length gs (rmG tk) t L) ⟨_,_,_,rfl,NrT.start⟩ ?_ ?_⟩
 .rintro t _ ht ⟨L0,x,y,rfl,h⟩;refine⟨⟨by lia,by lia⟩,lX (n:=(tk.map wsT).length) (λk o=>∃L x y,o=[.fz (.lst (tk.map wsT)),.fz (ntT gs),.l1 (L.map L2.T.bl),x,y]/\NrJ (tk.map wsT).length gs (rmG tk) L0 k L) ⟨_,_,_,rfl,h.1,λ_ z=>z,λi hi=>absurd hi (WZ _)⟩ ?_ ?_⟩
  .rintro k _ hk ⟨L,x,y,rfl,j⟩;have lk:k<tk.length:=by exact aR hk (WJ lm)
   have ek:tk[k]?=some tk[k]:=aj lk;obtain⟨f1,f2⟩:=ok _ (aU lk);have ll:=j.i.len;refine⟨_,cZ ek,by rw[ak];exact aL f1 wx,comp_map nwT (λw=>.bl (mkG L w.1)) tk[k] (λw hw N M hN=>⟨rfl,?_⟩) ⟨tk[k].map λw=>mkG L w.1,by rw[WU];rfl,?_⟩⟩
   .have er:=aj (show w.1<L.length by have:=f2 w hw;lia);refine⟨_,cZ er,?_⟩;have hN:N (.bl (L.getD w.1 false)):=hN;rw[au,er]at hN;exact hN
   .have e:((tk[k].map λw=>mkG L w.1).any λb=>b)=mtS (mkG L) (rmG tk k):=by
     show _=(((tk.getD k []).map (·.1)).any (mkG L));rw[au,ek,UK,UK]
     rfl
    show sw ((tk[k].map λw=>mkG L w.1).any λb=>b) _ _;rw[e];refine sw2 (λy=>⟨k,?_,L.set k true,x,.fz (.int (k:Nat)),?_,j.yes hk (hW k hk) y⟩) λn=>⟨_,_,_,rfl,j.no n⟩
    .rw[ak];exact vY wv
    .rw[Th];rfl
  .rintro _ ⟨L,x,y,rfl,j⟩;exact⟨_,_,_,rfl,j.turn hW h⟩
 .rintro _ ⟨L,x,y,rfl,h⟩;have f:=h.fin;rw[lm]at f;exact q L (h.1.len.trans lm) f
abbrev nKs(ws:zg):xh:=ws.map λx=>.inl (x.1:Nat)
abbrev nTs(ws:zg):zh:=ws.map λx=>frR x.2
def Kc{a b:Nat} : (Sum.inl (a:Int):Key)=.inl (b:Int)↔a=b:=⟨λz=>Int.ofNat.inj (Sum.inl.inj z),λz=>by rw[z]⟩
def ajg(ws:zg)(n:Nat):JH (nKs ws) (.inl (n:Nat))=ws.any λx=>decide (x.1=n):=by
 unfold JH;rw[UK]
 congr 1
 funext x
 exact decide_eq_decide.mpr Kc
theorem adk(n:Nat):∀ws:zg,oN (nKs ws) (nTs ws) (.inl (n:Nat))=(ws.find? λx=>decide (x.1=n)).map λx=>frR x.2
 |[]=>rfl
 |x::ws=>by
  show(if(Sum.inl (x.1:Nat):Key)=.inl (n:Nat)then some (frR x.2)else oN (nKs ws) (nTs ws) (.inl (n:Nat)))=_;by_cases h:x.1=n
  .rw[ZY (Kc.mpr h),Zzt (p:=λx:Nat×Rat=>decide (x.1=n)) (Zs h)];rfl
  .rw[ZZ λz=>h (Kc.mp z),Zzs (p:=λx:Nat×Rat=>decide (x.1=n)) (by show ¬decide (x.1=n)=true;rw[Zp h];decide),adk n ws]
def Fz(ws:zg)(n:Nat):Rat:=((ws.find? λx=>decide (x.1=n)).map (·.2)).getD 0
def adA(ws:zg)(n:Nat):((oN (nKs ws) (nTs ws) (.inl (n:Nat))).getD (frR 0))=frR (Fz ws n):=by
 rw[adk];unfold Fz;cases(ws.find? λx=>decide (x.1=n))<;>rfl
def ac4(nd:(ws.map (·.1)).Nodup){x:Nat×Rat}(hx:x∈ws)(e:x.1=n):(ws.find? λy=>decide (y.1=n))=some x:=by
 induction ws with
 |nil=>cases hx
 |cons y ws ih =>
  obtain⟨n1,n2⟩:=List.nodup_cons.mp nd;rcases YU.mp hx with rfl|z
  .exact Zzt (p:=λy:Nat×Rat=>decide (y.1=n)) (Zs e)
  .rw[Zzs (p:=λy:Nat×Rat=>decide (y.1=n)) (by show ¬decide (y.1=n)=true;rw[Zp λw=>n1 (YV.mpr ⟨x,z,e.trans w.symm⟩)];decide)];exact ih n2 z
def ahM(ws:zg)(p:Nat×Rat)(nd:(ws.map (·.1)).Nodup):kpK (nKs ws) (.inl (p.1:Nat))=nKs (oK ws p)/\kpT (nKs ws) (nTs ws) (.inl (p.1:Nat)) (frR (Fz ws p.1+p.2))=nTs (oK ws p):=by
 unfold kpK kpT oK;rw[ajg];by_cases h:(ws.any λx=>decide (x.1=p.1))=true
 .rw[ZY h,ZY h,ZY h];refine⟨by simp only[nKs,WU];refine UX λx _=>?_;show(Sum.inl (x.1:Nat):Key)=.inl ((if x.1=p.1 then(x.1,x.2+p.2)else x).1:Nat);split<;>rfl,?_⟩
  clear h
  rw[show nTs (ws.map λx=>if x.1=p.1 then(x.1,x.2+p.2)else x)=ws.map ((λx=>frR x.2) ∘ λx=>if x.1=p.1 then(x.1,x.2+p.2)else x)from WU]
  suffices H:∀(us:zg),(∀x∈us,x.1=p.1->x.2=Fz ws p.1)->List.zipWith (λ(k:Key)x=>if k=.inl (p.1:Nat)then frR (Fz ws p.1+p.2)else x) (nKs us) (nTs us)=us.map ((λx=>frR x.2) ∘ λx=>if x.1=p.1 then(x.1,x.2+p.2)else x)from H ws λx hx e=>by
   unfold Fz;rw[ac4 nd hx e];rfl
  intro us
  induction us with
  |nil=>intro _;rfl
  |cons x us ih =>
   intro H;show List.zipWith _ ((Sum.inl ((x.1:Nat):Int):Key)::nKs us) (frR x.2::nTs us)=_;rw[List.zipWith_cons_cons,ih λy hy=>H y (aJ _ hy),List.map_cons]
   congr 1
   by_cases e:x.1=p.1
   .rw[ZY (Kc.mpr e)];show _=frR (if x.1=p.1 then(x.1,x.2+p.2)else x).2;rw[ZY e,H x (aO ..) e]
   .rw[ZZ λz=>e (Kc.mp z)];show _=frR (if x.1=p.1 then(x.1,x.2+p.2)else x).2;rw[ZZ e]
 .rw[ZZ h,ZZ h,ZZ h];have n0:Fz ws p.1=0:=by
   unfold Fz;rw[List.find?_eq_none.mpr λx hx z=>h (List.any_eq_true.mpr ⟨x,hx,z⟩)];rfl
  rw[n0,JU];simp only[nKs,nTs,bf];exact⟨rfl,rfl⟩
def aav(as bs:zg):fP (as++bs)=bs.foldl oK (fP as):=List.foldl_append ..
def abu(ps:zg):((fP ps).map (·.1)).Nodup:=by
 suffices H:∀(ps ws:zg),(ws.map (·.1)).Nodup->((ps.foldl oK ws).map (·.1)).Nodup from H ps [] .nil
 intro ps
 induction ps with
 |nil=>exact λ_ h=>h
 |cons p ps ih=>exact λws h=>ih _ (adT h)
def N6(ps:zg):(fP ps).length<=ps.length:=by
 suffices H:∀(ps ws:zg),(ps.foldl oK ws).length<=ws.length+ps.length from by simpa[fP]using H ps []
 intro ps
 induction ps with
 |nil=>exact λ_=>aG _
 |cons p ps ih =>
  intro ws;have h1:(oK ws p).length<=ws.length+1:=by
   unfold oK;split
   .rw[ak];exact Xs _
   .rw[aA,List.length_singleton];exact aG _
  have:=ih (oK ws p);rw[List.foldl_cons,List.length_cons];lia
def anT{d:LD}(h:LDk m d){as bs:zg}{a:Nat×Rat}(e:d.prs=as++a::bs):((Fz (fP as) a.1).den<=4000/\(Fz (fP as) a.1).num.natAbs<=4000)/\a.2.den<=4000/\a.2.num.natAbs<=4000:=by
 obtain⟨q,q0,q1,hq⟩:=h.all;have sm:∀{r:Rat},0<=r->r<=1->r.den ∣ q->r.den<=4000/\r.num.natAbs<=4000:=λ{r}r0 r1 dv=>by
  have:=UZ q0 dv;have:r.num.natAbs<=1*r.den:=GX (A:=1) (by show r<=((1:Nat):Rat);rwa[show((1:Nat):Rat)=1 from rfl]) (by show -((1:Nat):Rat)<=r;rw[show((1:Nat):Rat)=1 from rfl];grind);lia
 have l2:=h.one;rw[<- Ay,e,JM]at l2;have pos:∀ws:zg,(∀w∈ws,0<=w.2)->0<=dw ws λ_=>1:=λws=>by
  induction ws with
  |nil=>intro _;exact W1
  |cons y ws ih =>
   intro h;rw[dz];have:=h y (aO ..);have:=ih λw hw=>h w (aJ _ hw)
   grind
 have nn:=h.nn;rw[e]at nn hq;have p1:=pos as λw hw=>nn w (UU _ hw);have p2:=pos (a::bs) λw hw=>nn w (aP _ hw);have ha:a∈as++a::bs:=aP _ (aO ..);have a1:=lJ (ws:=a::bs) (λw hw=>nn w (aP _ hw)) (aO ..);refine⟨?_,sm (nn a ha) (by grind) (hq a ha).2.2⟩;have j:=Gq q0 (ps:=as) λp hp=>hq p (UU _ hp);unfold Fz;cases ef:(fP as).find? λx=>decide (x.1=a.1)with
 |none=>exact⟨UT rfl,aZ _⟩
 |some y =>
  have hy:=List.mem_of_find?_eq_some ef;have l1:=lJ j.nn hy;rw[j.sum]at l1;exact sm (j.nn y hy) (by show y.2<=1;grind) (j.dn y hy)
def ZK:ST:=λts q=>∃(d:LD)(m:Nat),ts=[ldT d]/\LDk m d/\q (.l1 ((mY d.prs).map nwT))
def aeS(T:Tx D):gT 3 Tt Fg ZK:=ya T.aiB λF=>by
 refine F.okT ago (λhr _=>bG (gK 1 Jh)
  (bG (cY (bZ (bK wp bF)) (dB (n:=2) (bM (bU (n:=99) 2) (bM (bU (n:=99) 3) cL)))
  (bG (Ym (ZM 1 (xJ hr) wr (dY (bA bF (bA bF bC)))) (dB (n:=2) (bM (bU (n:=99) 4) (bM (bU (n:=99) 5) cL))))
  (bI (Jp 1 (xJ hr) (bJ (aaA T) (bA (bO dh (bO cI we (bK wn bF)) (bO cI (bK wn bF) wa)) (bA (bO cI wa (bK wn bF)) bC))) wr))))
  (bI (aeT 1 (bH P_) ac5 ["_law_door_here","_law_found","?_law_room","?_law_chance","_law_top","_law_bottom"] ["_law_room","_law_chance"] (dB (n:=2) (bM (c7 (i:=0)) (bM (c7 (i:=1)) cL))) (DK (bW (lG hr.units) (bK wo bF) bF)) (dY (bA wp (bA wo bC))))))) ?_
 rintro _ R ⟨d,m,rfl,h,q⟩;have lp:=h.few;refine dW nwT d.prs (λas o=>∃x y u v,o=[.fz (ldT d),.d1 (nKs (fP as)) (nTs (fP as)),x,y,u,v]) ⟨_,_,_,_,rfl⟩ ?_ ?_
 .rintro as a bs _ e ⟨x,y,u,v,rfl⟩;obtain⟨⟨n1,n2⟩,n3,n4⟩:=anT h e;have nd:=(Fz (fP as) a.1).den_pos;have ad:=a.2.den_pos;refine⟨rfl,_,rfl,?_⟩;dsimp only[frz];have ev:=adA (fP as) a.1;rw[show L2.T.tup [L2.T.int 0,L2.T.int 1]=frR 0 from rfl,ev];generalize er:Fz (fP as) a.1=r at n1 n2 nd;have pp:(0:Int)<((r.den:Nat):Int)*((a.2.den:Nat):Int):=XZ wv wv;refine⟨rfl,⟨eZ (Y3 n2 wx),eZ (by omega)⟩,⟨eZ (Y3 n4 wx),eZ (by omega)⟩,⟨eZ (by omega),eZ (by omega)⟩,_,_,rfl,pp,eZ ?_,_,rfl,?_,.fz (.int (a.1:Nat)),.fz (frR a.2),.fz (.int r.num),.fz (.int (r.den:Nat)),?_⟩
  .rw[VV,XT,XT];exact Y3 (VU n1 n3) wx
  .have:=N6 as;have:as.length<=d.prs.length:=by rw[e];simp
   rw[ak];exact Y3 (show _<=4 by lia) wx
  .obtain⟨k1,k2⟩:=ahM (fP as) a (abu as);have ex:Rat.divInt (r.num*((a.2.den:Nat):Int)+a.2.num*((r.den:Nat):Int)) (((r.den:Nat):Int)*((a.2.den:Nat):Int))=Fz (fP as) a.1+a.2:=by
    rw[er]
    conv=>rhs;rw[<- rd r,<- rd a.2]
    rw[QU _ _ wv wv]
   rw[show fP (as++[a])=oK (fP as) a from by rw[aav];rfl,<- k1,<- k2,<- ex]
   rfl
 .rintro _ ⟨x,y,u,v,rfl⟩;have jl:=N6 d.prs;refine⟨by rw[ak];exact aL (show _<=4 by exact aL jl lp) wx,?_⟩;have e:((nKs (fP d.prs)).zip (nTs (fP d.prs))).map (λp=>L2.T.tup [kT p.1,p.2])=(fP d.prs).map nwT:=by
   rw[List.zip_map',WU];rfl
  dsimp only;rw[e];refine jC nwT (λp=>!decide (p.2=0)) nwT (fP d.prs) (λp hp N M hN hM=>⟨rfl,?_⟩) q;have ez:decide (p.2.num=0)=decide (p.2=0):=decide_eq_decide.mpr ⟨λz=>Rat.num_eq_zero.mp z,λz=>by rw[z];rfl⟩;refine sw2 (λh=>hN ?_) λh=>hM ?_
  .rw[<- h];exact ZH (λb=>!b) ez.symm
  .rw[<- h];exact ZH (λb=>!b) ez.symm
def wsL(ae:zC):xN:=ae.map λds=>ds.map λd=>mY d.prs
abbrev waT(W:xN):L2.T:=.lst (W.map λds=>.lst (ds.map wsT))
def HD:ST:=λts q=>∃(m mo:Nat)(ae:zC),ts=[Nq ae]/\DSk m mo ae/\m<=100/\mo<=100/\q (.l1 ((wsL ae).map λds=>.lst (ds.map wsT)))
def Vo(T:Tx D):gT 4 yh oW HD:=ya T.Xa λF=>by
 refine F.okT Um (λ_ _=>bI (bR (cD (bH sy) rF rF ["_law_doors_here"] (bZ wp) (c7 (i:=0)) b_ (Qm (bH sy) ("_law_doors_here"::rF) ("_law_doors_here"::rF) ["_law_door_here"] (bZ wp) (c7 (i:=0)) b_ (bJ (aeS T) (bA wp bC)))))) ?_;rintro _ R ⟨m,mo,ae,rfl,h,m1,m2,q⟩;have dl:=h.len;refine⟨by rw[ak];exact aL (show _<=100 by exact aL (WJ dl) m1) wx,comp_map (λds=>.lst (ds.map ldT)) (λds=>.lst ((ds.map λd=>mY d.prs).map wsT)) ae (λds dS N M hN=>⟨by rw[ak];exact aL (show _<=100 by have:=h.few ds dS;exact aL this m2) wx,comp_map ldT (λd=>wsT (mY d.prs)) ds (λd hd N' M' hN'=>⟨d,m,rfl,h.ok ds dS d hd,hN'⟩) (by rw[WU]at hN;exact hN)⟩) ?_⟩;unfold wsL at q;rw[WU]at q;exact q
structure W2(m:Nat)(ws:zg):Prop where
 few:ws.length<=4
 lt:∀w∈ws,w.1<m
 b:∀w∈ws,w.2.den<=4000/\w.2.num.natAbs<=4000
def aix{b n d x y:Int}(ha:a.natAbs<=10^(44*k))(hb:b.natAbs<=10^(44*k))(hn:n.natAbs<=4000)(hd:d.natAbs<=4000)(hx:x.natAbs<=10^39)(hy:y.natAbs<=10^39):(d*y).natAbs<=10^43/\(n*x).natAbs<=10^43/\(a*(d*y)+n*x*b).natAbs<=10^(44*(k+1))/\(b*(d*y)).natAbs<=10^(44*(k+1)):=by
 have p1:(d*y).natAbs<=4000*10^39:=by rw[VV];exact VU hd hy
 have p2:(n*x).natAbs<=4000*10^39:=by rw[VV];exact VU hn hx
 have e:10^(44*(k+1))=10^(44*k)*10^44:=by rw[Nat.mul_add,Nat.pow_add]
 refine⟨aL p1 wx,aL p2 wx,?_,?_⟩<;>rw[e]
 .refine aL (Int.natAbs_add_le ..) ?_;rw[VV a,VV (n*x)];have h1:=VU ha p1;have h2:=VU p2 hb;rw[TK (4000*10^39)]at h2;have h3:10^(44*k)*(4000*10^39+4000*10^39)<=10^(44*k)*10^44:=Zzz _ wx;rw[Nat.mul_add]at h3;lia
 .rw[VV b];exact VU hb (aL p1 wx)
def ZR:ST:=λts q=>∃(ws:zg)(xs:zS),ts=[wsT ws,.lst (xs.map frR)]/\W2 xs.length ws/\(∀x∈xs,FnB (10^39) x)/\∀a b:Int,0<b->a.natAbs<=10^176->b.natAbs<=10^176->Rat.divInt a b=dw ws (xG xs)->q (.fz (.tup [.int a,.int b]))
def ae5(T:Tx D):gT 1 Td DY ZR:=ya T.ahi λF=>by
 refine F.okT agE (λ_ _=>bG (bQ 2 bF)
  (bG (bQ 3 bF)
  (bG (cY (bZ wp) (dB (n:=2) (bM (bU (n:=99) 4) (bM (bU (n:=99) 5) cL)))
  (bG (bQ 6 (bO cI (bK wa bF) (bK (bK wo we) bF)))
  (bG (bQ 2 (bO dh (bO cI wr (qv 6)) (bO cI (bO cI (bK wa bF) (bK (bK wo we) bF)) wn)))
  (bI (bQ 3 (bO cI wn (qv 6)))))))
  (bI (bR (dY (bA wr (bA wn bC)))))))) ?_
 rintro _ R ⟨ws,xs,rfl,h,hx,q⟩;refine dW nwT ws (λas o=>∃(a b:Int)(x y z:OT),o=[.fz (wsT ws),.fz (.lst (xs.map frR)),.fz (.int a),.fz (.int b),x,y,z]/\0<b/\a.natAbs<=10^(44*as.length)/\b.natAbs<=10^(44*as.length)/\Rat.divInt a b=dw as (xG xs)) ⟨0,1,_,_,_,rfl,by decide,by decide,by decide,rfl⟩ ?_ ?_
 .rintro as v bs _ e ⟨a,b,x,y,z,rfl,b0,ha,hb,ev⟩;have hv:v∈ws:=by rw[e];exact aP _ (aO ..)
  have l4:as.length+1<=4:=by have:=h.few;rw[e,aA,List.length_cons]at this;lia
  have er:=aj (h.lt v hv);have gr:xG xs v.1=xs[v.1]'(h.lt v hv):=by show xs.getD v.1 0=_;rw[au,er];rfl
  generalize xs[v.1]'(h.lt v hv)=r at er gr;have fr:=hx r (aC er);obtain⟨w1,w2⟩:=h.b v hv;obtain⟨c1,c2,c3,c4⟩:=aix (n:=v.2.num) (d:=((v.2.den:Nat):Int)) (x:=r.num) (y:=((r.den:Nat):Int)) ha hb w2 (by rwa[XT]) fr.n (by rw[XT];exact fr.d);have vd:=v.2.den_pos;have rp:=r.den_pos;have up:∀{i:Int},i.natAbs<=10^(44*as.length)->Bd i:=λhi=>yD (n:=132) (aL hi (XU wx wv)) wx;have dp:(0:Int)<((v.2.den:Nat):Int)*((r.den:Nat):Int):=XZ wv wv;refine⟨rfl,_,cZ er,⟨eZ wv,yD (n:=39) (by rw[XT];exact fr.d) wx⟩,⟨up ha,yD (n:=43) c1 wx⟩,_,cZ er,⟨eZ (Y3 w2 wx),yD (n:=39) fr.n wx⟩,⟨yD (n:=43) c2 wx,up hb⟩,⟨up hb,yD (n:=43) c1 wx⟩,_,_,_,_,_,rfl,XZ b0 dp,?_,?_,?_⟩
  .rw[aA];exact c3
  .rw[aA];exact c4
  .rw[JM,Wz,<- ev,gr]
   conv=>rhs;rw[<- rd v.2,<- rd r]
   rw[Rat.divInt_mul_divInt,QU _ _ (WS b0) (WS dp)]
 .rintro _ ⟨a,b,x,y,z,rfl,b0,ha,hb,ev⟩;have up:∀{i:Int},i.natAbs<=10^(44*ws.length)->i.natAbs<=10^176:=λhi=>aL hi (XU wx (by have:=h.few;lia));exact q a b b0 (up ha) (up hb) ev
def FZ(W:xN)(pl:zb)(k:Nat):zg:=match pl.getD k none with
 |none=>[]
 |some d=>(W.getD k []).getD d []
def tkL(W:xN)(pl:zb)(n:Nat):List zg:=(List.range n).map (FZ W pl)
structure FtW(W:xN)(pl:zb):Prop where
 few:W.length<=100
 len:pl.length=W.length
 at_:∀k d,pl[k]?=some (some d)->d<(W.getD k []).length
def Vt:ST:=λts q=>∃(W:xN)(pl:zb),ts=[waT W,.lst (pl.map dT)]/\FtW W pl/\q (.l1 ((tkL W pl W.length).map wsT))
def ad8(T:Tx D):gT 1 Lf Ad Vt:=ya T.afT λF=>by
 refine F.okT ad4 (λ_ _=>bG (gK 2 (cR bC))
  (bG (cY (dI T.fu (bA (bT cQ T.dU WG (bA wp bC)) bC)) (bU (n:=99) 3)
  (bI (cA (bW qU (bK wo wn) eE)
  (bI (uh 2 (cR bC)))
  (bI (uh 2 (bK (bK wp wn) (bK wo wn)))))))
  (bI (iu 2)))) ?_
 rintro _ R ⟨W,pl,rfl,h,q⟩;have few:=h.few;have len:=h.len;have lm:(W.map λds=>L2.T.lst (ds.map wsT)).length=W.length:=ak ..;refine⟨⟨by lia,by lia⟩,lX (n:=(W.map λds=>L2.T.lst (ds.map wsT)).length) (λk o=>∃x,o=[.fz (waT W),.fz (.lst (pl.map dT)),.l1 ((tkL W pl k).map wsT),x]) ⟨_,rfl⟩ ?_ ?_⟩
 .rintro k _ hk ⟨x,rfl⟩;have ep:=aj (show k<pl.length by lia);have ew:=aj (show k<W.length by exact aR hk (WJ lm));have sn:∀ws,FZ W pl k=ws->(tkL W pl (k+1)).map wsT=(tkL W pl k).map wsT++[wsT ws]:=λws e=>by
   unfold tkL;rw[List.range_succ,bf,bf,<- e];rfl
  have ll:((tkL W pl k).map wsT).length<sizeLine:=by
   unfold tkL;rw[ak,ak,WP];exact Y3 (show _<=100 by lia) wx
  generalize hd:pl[k]' wv=d at ep;have gd:pl.getD k none=d:=by rw[au,ep];rfl
  cases d with
  |none =>
   refine⟨_,cZ ep,ll,.fz (.int (k:Nat)),?_⟩;rw[sn [] (by unfold FZ;rw[gd])]
   rfl
  |some d =>
   have ld:=h.at_ k d ep;have gw:W.getD k []=W[k]'(aR hk (WJ lm)):=by rw[au,ew];rfl
   rw[gw]at ld;have ed:=aj ld;refine⟨_,cZ ep,_,cZ ew,_,cZ ep,_,cZ ed,ll,.fz (.int (k:Nat)),?_⟩;rw[sn ((W[k]'(aR hk (WJ lm)))[d]) (by unfold FZ;rw[gd,gw];show(W[k]'_).getD d []=_;rw[au,ed];rfl)]
   rfl
 .rintro _ ⟨x,rfl⟩;rwa[lm]
structure ChW(m:Nat)(gs:zn)(tk:Nat->zg)(x:Nat->Rat):Prop where
 goal:∀k,k<m->mkF gs k=true->x k=1
 rest:∀S,Lfp false m (mkF gs) (λk=>[(tk k).map (·.1)]) S->∀k,k<m->mkF gs k=false->x k=if S k=true then dw (tk k) x else 0
def ahk{b:Int}{x:Rat}(b0:0<b)(e:Rat.divInt a b=x):x.num*b=a*((x.den:Nat):Int):=by
 have d:=x.den_pos;have e:Rat.divInt a b=Rat.divInt x.num ((x.den:Nat):Int):=by rw[e,rd]
 have:=(QY (WS b0) wv).mp e
 grind
def ae4(W:xN)(pl:zb)(n:Nat):(tkL W pl n).length=n:=by unfold tkL;rw[ak,WP]
def acj{W:xN}(h:k<n):(tkL W pl n)[k]?=some (FZ W pl k):=by unfold tkL;rw[aq,VX h];rfl
def acy{W:xN}(wb:∀ds∈W,∀w∈ds,W2 m w)(k:Nat):W2 m (FZ W pl k):=by
 have nil:W2 m []:=⟨aZ _,λ_ z=>(nomatch z),λ_ z=>(nomatch z)⟩;unfold FZ;split
 .exact nil
 .rename_i d _
  rw[au (l:=W.getD k [])];cases e:(W.getD k [])[d]? with
  |none=>exact nil
  |some w =>
   rw[au]at e;cases e':W[k]? with
   |none=>rw[e']at e;cases e
   |some ds=>rw[e']at e;exact wb ds (aC e') w (aC e)
def zL:ST:=λts q=>∃(xs:zS)(W:xN)(gs:zn)(pl:zb),ts=[.lst (xs.map frR),waT W,ntT gs,.lst (pl.map dT)]/\xs.length=W.length/\(∀x∈xs,FnB (10^39) x)/\FtW W pl/\(∀ds∈W,∀w∈ds,W2 W.length w)/\ChW W.length gs (FZ W pl) (xG xs)/\q (.fz (.bl true))
def X8(T:Tx D):gT 4 u5 nF zL:=ya T.aaE λF=>by
 refine F.okT Yp (λhr _=>bG (cA (dN (cF (bJ (RJ T) (bA wp (bA (bT cQ T.dU WG (bA wo bC)) bC)))))
  (bI (bR g_))
  bV)
  (bG (bQ 4 (bJ (ad8 T) (bA wo (bA wn bC))))
  (bG (bQ 5 (bJ (agm T) (bA we (bA wr bC))))
  (bG (cY (dI T.fu (bA (bT cQ T.dU WG (bA wo bC)) bC)) (bU (n:=99) 6)
  (bG (bQ 7 (dY (bA bF (bA bF bC))))
  (bG (cA (bW (agM hr.units) (qv 6) wr (hm:=by rfl))
  (bI (bQ 7 (dY (bA bF (bA bF bC)))))
  (bI (cA (cF (bK wa (qv 6)))
  (bI (bQ 7 (bJ (ae5 T) (bA (bK we (qv 6)) (bA wp bC)))))
  bV)))
  (bI (cA (bW (lG hr.units) (bO cI (bK (bK wp (qv 6)) bF) (bK (qv 7) bF)) (bO cI (bK (qv 7) bF) (bK (bK wp (qv 6)) bF)))
  (bI (bR g_))
  bV)))))
  (bI (bR g_)))))) ?_
 rintro _ R ⟨xs,W,gs,pl,rfl,lx,hx,ft,wb,ch,q⟩;have few:=ft.few;have lm:((W.map λds=>L2.T.lst (ds.map wsT)).length:Int)=(W.length:Nat):=by rw[ak]
 have tl:=ae4 W pl W.length;have tw:=λk=>acy (pl:=pl) wb k;refine⟨xs,W.length,ZH (λz=>[L2.T.lst (xs.map frR),L2.T.int z]) lm,lx,by exact aL few wx,W,pl,rfl,ft,tkL W pl W.length,gs,rfl,by exact aL (WJ tl) few,λws hm=>?_,λL ll lf=>?_⟩
 .obtain⟨k,ek,rfl⟩:=YV.mp hm;rw[tl];exact⟨aL (tw k).few wx,(tw k).lt⟩
 rw[tl]at ll lf;have lf:Lfp false W.length (mkF gs) (λk=>[(FZ W pl k).map (·.1)]) (mkG L):=lf.ld λk hk=>by
  show[((tkL W pl W.length).getD k []).map (·.1)]=_;rw[au,acj hk];rfl
 refine⟨⟨by lia,by lia⟩,lX (n:=(W.map λds=>L2.T.lst (ds.map wsT)).length) (λ_ o=>∃x y,o=[.fz (.lst (xs.map frR)),.fz (waT W),.fz (ntT gs),.fz (.lst (pl.map dT)),.fz (.lst ((tkL W pl W.length).map wsT)),.fz (blT L),x,y]) ⟨_,_,rfl⟩ ?_ ?_⟩
 .rintro k _ hk ⟨x,y,rfl⟩;have hk:k<W.length:=by lia
  have er:=aj (show k<xs.length by lia);have gr:xG xs k=xs[k]' wv:=by show xs.getD k 0=_;rw[au,er];rfl
  generalize xs[k]' wv=r at er gr;have fr:=hx r (aC er);refine sq2 (λo=>∃a b:Int,0<b/\a.natAbs<=10^176/\b.natAbs<=10^176/\Rat.divInt a b=r/\o=[.fz (.lst (xs.map frR)),.fz (waT W),.fz (ntT gs),.fz (.lst (pl.map dT)),.fz (.lst ((tkL W pl W.length).map wsT)),.fz (blT L),.fz (.int (k:Nat)),.fz (.tup [.int a,.int b])]) ?_ λY hY=>?_
  .rintro _ ⟨a,b,b0,ha,hb,e,rfl⟩;refine⟨_,cZ er,⟨yD (n:=39) fr.n wx,yD (n:=176) hb wx⟩,_,cZ er,⟨yD (n:=176) ha wx,yD (n:=39) (by rw[XT];exact fr.d) wx⟩,swF ?_ ⟨_,_,rfl⟩⟩;rw[ahk b0 e,Zs rfl];rfl
  .have go:∀a b:Int,0<b->a.natAbs<=10^176->b.natAbs<=10^176->Rat.divInt a b=r->Y [.fz (.lst (xs.map frR)),.fz (waT W),.fz (ntT gs),.fz (.lst (pl.map dT)),.fz (.lst ((tkL W pl W.length).map wsT)),.fz (blT L),.fz (.int (k:Nat)),.fz (.tup [.int a,.int b])]:=λa b b0 ha hb e=>hY _ ⟨a,b,b0,ha,hb,e,rfl⟩;refine⟨inD k,gs.map inD,rfl,akm gs,rfl,Es.lst gs,?_⟩;rw[acV];have cr:=ch.rest _ lf k hk;rw[gr]at cr;have eL:=aj (show k<L.length by lia);have gL:mkG L k=L[k]' wv:=by show L.getD k false=_;rw[au,eL];rfl
   generalize L[k]' wv=bb at eL gL;rw[gL]at cr;cases em:mkF gs k with
   |true=>exact go 1 1 wx wx wx (by have:=ch.goal k hk em;rw[gr]at this;rw[this];rfl)
   |false =>
    have cr:=cr em;cases bb with
    |true=>exact⟨_,cZ eL,_,cZ (acj hk),FZ W pl k,xs,rfl,by rw[lx];exact tw k,hx,λa b b0 ha hb e=>go a b b0 ha hb (by rw[e,cr];rfl)⟩
    |false=>exact⟨_,cZ eL,go 0 1 wx wx wx (by rw[cr];rfl)⟩
 .rintro _ ⟨x,y,rfl⟩;exact q
structure PlW(ae:zC)(pl:zb):Prop where
 len:pl.length=ae.length
 ok:∀(k:Nat)d ds,pl[k]?=some d->ae[k]?=some ds->qQ d ds.length=true
def frD(r:Rat):PyData:=.tuple [.int r.num,.int (r.den:Nat)]
def nwD(p:Nat×Rat):PyData:=.tuple [.int (p.1:Nat),frD p.2]
def ldD(d:LD):PyData:=.tuple [.int (d.sort:Nat),frD d.pay,.list (d.prs.map nwD)]
def al9(d:LD):ldT d=ofD (ldD d):=by
 show L2.T.tup [_,_,.lst (d.prs.map nwT)]=L2.T.tup [_,_,.lst (X7 (d.prs.map nwD))];rw[<- oE (h:=nwT) (g:=nwD) (λ_=>rfl)]
 rfl
def aiX(d:LD):PyData.canLay0 (ldD d)=true:=by
 have:=tG (g:=nwD) (λ_=>rfl) d.prs;show(true&&(true&&(PyData.canLayAll0 (d.prs.map nwD)&&true)))=true;rw[this];rfl
def ahO(d:LD):PyData.depth (ldD d)<=60:=by
 have:=wN (g:=nwD) (n:=5) (λ_=>UT rfl) d.prs;simp only[ldD,frD,PyData.depth,PyData.depthAll];lia
def Zd(ds:List LD):L2.T.lst (ds.map ldT)=ofD (.list (ds.map ldD)):=ZH L2.T.lst (oE al9 ds)
def Ru(ds:List LD):SeqAt.shaped (.list (ds.map ldD))=true:=by
 have h1:PyData.canLay0 (.list (ds.map ldD))=true:=by unfold PyData.canLay0;exact tG aiX ds
 have h2:PyData.depth (.list (ds.map ldD))<=64:=by unfold PyData.depth;have:=wN ahO ds;lia
 unfold SeqAt.shaped;rw[h1,Zs h2];rfl
def Js(ds:List LD):PyData.eqv (.list (ds.map ldD)) (.list [])=decide (ds.length=0):=by cases ds<;>rfl
def Vk:ST:=λts q=>∃(pl:zb)(ae:zC),ts=[.lst (pl.map dT),Nq ae]/\PlW ae pl/\q (.fz (.bl true))
def agH(T:Tx D):gT 2 Ss Fy Vk:=ya T.aiW λF=>by
 refine F.okT aeO (λhr _=>bG (cA (QW.qt (fW (dN (cF (rM .list wp T.d7 T.rN boot_list))) (eX (bW (lG hr.units) (bT cQ T.dU WG (bA wp bC)) (bT cQ T.dU WG (bA wo bC))))))
  (bI (bR g_))
  bV)
  (bG (cY (BZ T.HB (bA wp (bA wo bC))) (dB (n:=2) (bM (bU (n:=99) 2) (bM (bU (n:=99) 3) cL)))
  (bG (cA (QW.qt (Gi (bW (go_eq hr.units) wn (cR bC)) (Ax (bW Ds wr eE))))
  (bI (bR g_))
  bV)
  (bI (cA (QW.qt (Gi (bW (lG hr.units) wn (cR bC)) (Ax (QW.qt (fW (dN (cF (bJ (abK T) (bA wr bC)))) (fW (bW Hx wr bF) (eX (bW abw wr (bT cQ T.dU WG (bA wn bC))))))))))
  (bI (bR g_))
  bV))))
  (bI (bR g_)))) ?_
 rintro _ R ⟨pl,ae,rfl,h,q⟩;have lz:((pl.map dT).length:Int)=((ae.map λds=>L2.T.lst (ds.map ldT)).length:Nat):=by rw[ak,ak,h.len]
 refine swF (by rw[lz,Zs rfl];rfl) ?_;show xH _ _ _ (B_ (pl.map dT) (ae.map λds=>L2.T.lst (ds.map ldT))) _;rw[Aa];refine dW (λp:Option Nat×List LD=>L2.T.tup [dT p.1,.lst (p.2.map ldT)]) (pl.zip ae) (λ_ o=>∃x y,o=[.fz (.lst (pl.map dT)),.fz (Nq ae),x,y]) ⟨_,_,rfl⟩ ?_ ?_
 .rintro as ⟨d,ds⟩ bs _ e ⟨x,y,rfl⟩;have hf:qQ d ds.length=true:=by
   have ez:(pl.zip ae)[as.length]?=some (d,ds):=by rw[e,aD (aG _),UH];rfl
   rw[List.getElem?_zip_eq_some]at ez;exact h.ok _ d ds ez.1 ez.2
  refine⟨rfl,.list (ds.map ldD),.list [],Zd ds,rfl,Ru ds,rfl,?_⟩;rw[Js];cases d with
  |none =>
   have h0:ds.length=0:=of_decide_eq_true hf;rw[Zs h0];refine⟨.list (ds.map ldD),.list [],Zd ds,rfl,Ru ds,rfl,?_⟩;rw[Js,Zs h0];exact⟨_,_,rfl⟩
  |some j =>
   have h0:j<ds.length:=of_decide_eq_true hf;rw[Zp (show ¬ds.length=0 by lia)];refine⟨.list (ds.map ldD),.list [],Zd ds,rfl,Ru ds,rfl,?_⟩;rw[Js,Zp (show ¬ds.length=0 by lia)];exact⟨_,rfl,swF (Zp (show ¬(((ds.map ldT).length:Int)<=(j:Int))by rw[ak];lia)) ⟨_,_,rfl⟩⟩
 .rintro _ ⟨x,y,rfl⟩;exact q
def Zw:ST:=λts q=>∃(p:PWs)(ae:zC)(W:xN)(gs:zn),ts=[pwT p,Nq ae,waT W,ntT gs]/\PlW ae p.1/\p.2.length=W.length/\(∀x∈p.2,FnB (10^39) x)/\FtW W p.1/\(∀ds∈W,∀w∈ds,W2 W.length w)/\ChW W.length gs (FZ W p.1) (xG p.2)/\q (.fz (.bl true))
def agk(T:Tx D):gT 5 QZ DW Zw:=ya T.ai0 λF=>by
 refine F.okT agl (λhr _=>bG (cA (QW.qt (fW (dN (cF (rM .tuple wp T.d7 T.S5 boot_tuple))) (fW (bW (lG hr.units) (bT cQ T.dU WG (bA wp bC)) bF) (eX (dN (cF (bJ (agH T) (bA (bK wp bF) (bA wo bC)))))))))
  (bI (bR g_))
  bV)
  (bI (bR (bJ (X8 T) (bA (bK wp bF) (bA wr (bA wn (bA (bK wp bF) bC)))))))) ?_
 rintro _ R ⟨p,ae,W,gs,rfl,h1,h2,h3,h4,h5,h6,q⟩;exact⟨p.1,ae,rfl,h1,p.2,W,gs,p.1,rfl,h2,h3,h4,h5,h6,q⟩
def opts(n:Nat):zb:=if n=0 then[none]else if n=1 then[some 0]else[some 0,some 1]
def HX(ps:List zb)(n:Nat):List zb:=((opts n).map λd=>ps.map λp=>p++[d]).flatten
def gO(ns:zn):List zb:=ns.foldl HX [[]]
abbrev plT(p:zb):L2.T:=.lst (p.map dT)
def XS(ns:zn)(n:Nat):gO (ns++[n])=HX (gO ns) n:=by unfold gO;rw[List.foldl_append];rfl
def Vn(h:n<=2)(d:xl):d∈opts n↔qQ d n=true:=by
 obtain rfl|rfl|rfl:n=0\/n=1\/n=2:=by lia
 .cases d<;>simp[opts,qQ]
 .cases d<;>simp[opts,qQ]
 .cases d with
  |none=>simp[opts,qQ]
  |some j=>simp[opts,qQ];lia
def aaN(ns:zn)(p:zb):Prop:=p.length=ns.length/\∀(k:Nat)d n,p[k]?=some d->ns[k]?=some n->qQ d n=true
def aeC{as:zn}(hn:n<=2){ps:List zb}(h:∀p,p∈ps↔aaN as p)(p:zb):p∈HX ps n↔aaN (as++[n]) p:=by
 unfold HX;rw[List.mem_flatten];constructor
 .rintro⟨l,hl,hp⟩;obtain⟨d,hd,rfl⟩:=YV.mp hl;obtain⟨p',b5,rfl⟩:=YV.mp hp;obtain⟨e,f⟩:=(h p').mp b5;refine⟨by rw[aA,aA,e];rfl,λk c m ek em=>?_⟩;by_cases c1:k<as.length
  .rw[aF (by omega)]at ek em;exact f k c m ek em
  .by_cases c2:k=as.length
   .subst c2;rw[aD (WJ e),e,UH]at ek;rw[aD (aG _),UH]at em;cases ek;cases em;exact(Vn hn _).mp hd
   .rw[aM (by rw[aA,List.length_singleton];lia)]at em;cases em
 .rintro⟨e,f⟩;rw[aA,List.length_singleton]at e;have ne:p≠[]:=λz=>by rw[z]at e;simp at e
  obtain⟨p',d,rfl⟩ : ∃p' d,p=p'++[d]:=⟨_,_,(List.dropLast_concat_getLast ne).symm⟩;rw[aA,List.length_singleton]at e;refine⟨_,YV.mpr ⟨d,(Vn hn d).mpr (f as.length d n (by rw[aD (Nat.le_of_succ_le_succ (WJ e)),show as.length-p'.length=0 by lia];rfl) (by rw[aD (aG _),UH];rfl)),rfl⟩,YV.mpr ⟨p',(h p').mpr ⟨by lia,λk c m ek em=>f k c m ?_ ?_⟩,rfl⟩⟩
  .rw[aF (ao.mp ek).1];exact ek
  .rw[aF (ao.mp em).1];exact em
def N7{ns:zn}(h2:∀n∈ns,n<=2)(p:zb):p∈gO ns↔aaN ns p:=by
 suffices H:∀(ns as:zn)(ps:List zb),(∀n∈ns,n<=2)->(∀p,p∈ps↔aaN as p)->∀p,p∈ns.foldl HX ps↔aaN (as++ns) p from H ns [] [[]] h2 (λp=>by
  rw[YR];exact⟨λz=>by rw[z];exact⟨rfl,λk d n e=>by cases e⟩,λz=>List.length_eq_zero_iff.mp z.1⟩) p
 intro ns
 induction ns with
 |nil=>intro as ps _ h p;rw[List.append_nil];exact h p
 |cons n ns ih =>
  intro as ps hn h p;have:=ih (as++[n]) (HX ps n) (λx hx=>hn x (aJ _ hx)) (aeC (hn n (aO ..)) h) p;rw[Wp]at this;exact this
def Ol(ns:zn):(gO ns).length<=2^ns.length:=by
 suffices H:∀(ns:zn)(ps:List zb),(ns.foldl HX ps).length<=ps.length*2^ns.length from by have:=H ns [[]];rwa[List.length_singleton,Nat.one_mul]at this
 intro ns
 induction ns with
 |nil=>intro ps;show ps.length<=ps.length*1;lia
 |cons n ns ih =>
  intro ps;have h:(HX ps n).length<=ps.length*2:=by
   unfold HX opts;split
   .simp;lia
   .split
    .simp;lia
    .simp;lia
  refine aL (ih (HX ps n)) ?_;rw[List.length_cons,Nat.pow_succ,TK (2^ns.length),<- Nat.mul_assoc];exact Nat.mul_le_mul_right _ h
def Us:ST:=λts q=>∃(m:Nat)(ae:zC),ts=[Nq ae]/\DSk m 2 ae/\m<=8/\q (.fz (.lst ((gO (ae.map List.length)).map plT)))
def acI(T:Tx D):gT 1 Ly xR Us:=ya T.afQ λF=>by
 refine F.okT Ln (λhr _=>bG (bQ 1 (cR (bA (cR bC) bC)))
  (bG (cY (bZ wp) (bU (n:=99) 2)
  (bI (cA (bW (go_eq hr.units) wr (cR bC))
  (bI (i_ (bH v9) pR pR ["_law_plan_here"] (bZ wo) (c7 (i:=0)) b_ (bO dh wp (cR (bA eE bC))) (gB (i:=1) Ln.nd rfl (Or.inl rfl))))
  (bI (cA (bW (go_eq hr.units) (bT cQ T.dU WG (bA wr bC)) bF)
  (bI (i_ (bH v9) pR pR ["_law_plan_here"] (bZ wo) (c7 (i:=0)) b_ (bO dh wp (cR (bA bF bC))) (gB (i:=1) Ln.nd rfl (Or.inl rfl))))
  (bI (bQ 1 (bO dh (cD (bH v9) pR pR ["_law_plan_here"] (bZ wo) (c7 (i:=0)) b_ (bO dh wp (cR (bA bF bC)))) (cD (bH v9) pR pR ["_law_plan_here"] (bZ wo) (c7 (i:=0)) b_ (bO dh wp (cR (bA bF bC))))))))))))
  (bI (bR wo)))) ?_
 rintro _ R ⟨m,ae,rfl,h,m8,q⟩;refine dW (λds=>L2.T.lst (ds.map ldT)) ae (λas o=>∃x,o=[.fz (Nq ae),.fz (.lst ((gO (as.map List.length)).map plT)),x]) ⟨_,rfl⟩ ?_ ?_
 .rintro as ds bs _ e ⟨x,rfl⟩;have hf:=h.few ds (by rw[e];exact aP _ (aO ..));have al:as.length<=8:=by have:=h.len;rw[e,aA]at this;lia
  have pl:(gO (as.map List.length)).length<=256:=aL (Ol _) (by rw[ak];exact XU wx al);have pm:=λp=>(N7 (ns:=as.map List.length) (λn hn=>by
   obtain⟨gE,bt,rfl⟩:=YV.mp hn;exact h.few gE (by rw[e];exact UU _ bt)) p).mp
  rw[bf,List.map_singleton,XS];generalize gO (as.map List.length)=ps at pl pm;have lc:(ps.map plT).length<=sizeLine:=by rw[ak];exact aL pl wx
  have pb:∀p∈ps,(p.map dT).length+1<=sizeLine:=λp hp=>by
   have:=(pm p hp).1;rw[ak]at this;rw[ak];exact aL (show _<=9 by lia) wx
  have ad:∀os,opts ds.length=os->(HX ps ds.length).map plT=(os.map λd=>ps.map λp=>L2.T.lst (p.map dT++[dT d])).flatten:=λos e=>by
   unfold HX;rw[e,List.map_flatten,WU]
   congr 1
   refine UX λd _=>?_;show(ps.map _).map plT=_;rw[WU];refine UX λp _=>?_;show L2.T.lst _=_;rw[bf];rfl
  refine⟨.list (ds.map ldD),.list [],Zd ds,rfl,Ru ds,rfl,?_⟩;rw[Js];obtain h0|h0|h0:ds.length=0\/ds.length=1\/ds.length=2:=by lia
  .rw[Zs h0,ad [none] (by rw[h0];rfl),List.map_singleton,List.flatten_singleton];exact⟨lc,comp_map plT (λp=>.lst (p.map dT++[dT none])) ps (λp hp N M hN=>⟨pb p hp,hN⟩) ⟨.fz (.lst (ds.map ldT)),rfl⟩⟩
  .rw[Zp (show ¬ds.length=0 by lia),ad [some 0] (by rw[h0];rfl),List.map_singleton,List.flatten_singleton];exact swF rfl (swT (Zs (by rw[ak,h0];rfl)) ⟨lc,comp_map plT (λp=>.lst (p.map dT++[dT (some 0)])) ps (λp hp N M hN=>⟨pb p hp,hN⟩) ⟨.fz (.lst (ds.map ldT)),rfl⟩⟩)
  .rw[Zp (show ¬ds.length=0 by lia),ad [some 0,some 1] (by rw[h0];rfl),List.map_cons,List.map_singleton,List.flatten_cons,List.flatten_singleton];exact swF rfl (swF (Zp (by rw[ak,h0];decide)) ⟨lc,comp_map plT (λp=>.lst (p.map dT++[dT (some 0)])) ps (λp hp N M hN=>⟨pb p hp,hN⟩) ⟨lc,comp_map plT (λp=>.lst (p.map dT++[dT (some 1)])) ps (λp hp N M hN=>⟨pb p hp,hN⟩) ⟨by rw[ak,ak];exact aL (show _<=512 by lia) wx,.fz (.lst (ds.map ldT)),rfl⟩⟩⟩)
 .rintro _ ⟨x,rfl⟩;exact q
def BR(D:Adr):ST:=λts q=>∃(s:Rat)(ns:Φ)(off:zd)(gs:zn)(pl:zb),ts=[hlT D s ns off,ntT gs,.lst (pl.map dT)]/\HlZ ns off/\ahr ns gs/\PlT off pl/\∀xs:zS,XsB ns.length xs->(∃S,fJ ns.length (mkF gs) (cG off pl) S (xG xs))->q (.l1 (xs.map frR))
def Mp(T:Tx D):gT 10 ur j9 (BR D):=ya T.Rp λF=>by
 refine F.okT M_ (λ_ _=>bG (bQ 3 (bJ (Mw T) (bA wp (bA wo bC))))
  (bG (mX (bJ (M7 T) (bA wp (bA wr bC))))
  (bI (bR (bJ (Io T) (bA wp (bA wn (bA wr bC)))))))) ?_
 rintro _ R ⟨s,ns,off,gs,pl,rfl,h,hg,hp,q⟩;refine⟨s,ns,off,gs,rfl,h.h,hg,s,ns,off,pl,rfl,h.h,hp,s,ns,off,mkL ns.length gs,pl,rfl,h,tO _ _,hp,λS x ch fb=>?_⟩;have xm:((List.range ns.length).map x).map frR=(List.range ns.length).map λi=>frR (x i):=by rw[WU];rfl
 have xg:∀k,k<ns.length->((List.range ns.length).map x).getD k 0=x k:=λk hk=>by rw[au,aq,VX hk];rfl
 rw[<- xm];refine q _ ⟨by rw[ak,WP],λr hr=>?_,λr hr=>?_,λr hr=>?_⟩ ⟨S,(ch.congr (h.cw _) λk hk=>(xg k hk).symm).marks λk hk=>Gz hk⟩<;>obtain⟨i,hi,rfl⟩:=YV.mp hr
 .exact fb i (List.mem_range.mp hi)
 .exact ch.nn (h.cw _) i (List.mem_range.mp hi)
 .exact ch.le1 (h.cw _) i (List.mem_range.mp hi)
def aar{β γ:Type}(f:α->T)(g:β->T)(h:γ->T)(xs:List α)(ys:List β)(zs:List γ):Wh (xs.map f) (ys.map g) (zs.map h)=(xs.zip (ys.zip zs)).map λp=>.tup [f p.1,g p.2.1,h p.2.2]:=by
 unfold Wh;rw[List.zip_map,List.zip_map,WU]
 rfl
def K7:ST:=λts q=>∃xs ys zs:zS,ts=[.lst (xs.map frR),.lst (ys.map frR),.lst (zs.map frR)]/\xs.length=ys.length/\ys.length=zs.length/\(∀x∈xs,FnB (10^39) x)/\(∀x∈ys,FnB (10^39) x)/\(∀x∈zs,FnB (10^39) x)/\(∀k,k<ys.length->xG xs k<=xG ys k/\xG ys k<=xG zs k)/\q (.fz (.bl true))
def XJ(T:Tx D):gT 1 Cv rK K7:=ya T.aaJ λ{f fd}F=>by
 refine F.okT W_ (λ_ _=>bG (cY (afx (by rfl) T.HB (bA wp (bA wo (bA wr bC)))) (dB (n:=3) (bM (bU (n:=99) 3) (bM (bU (n:=99) 4) (bM (bU (n:=99) 5) cL))))
  (bI (cA (QW.qt (fW (bW yF (bO cI (bK wn bF) (bK we bF)) (bO cI (bK we bF) (bK wn bF))) (eX (bW yF (bO cI (bK we bF) (bK wa bF)) (bO cI (bK wa bF) (bK we bF))))))
  (bI (bR g_))
  bV)))
  (bI (bR g_))) ?_
 rintro _ R ⟨xs,ys,zs,rfl,l1,l2,hx,hy,hz,h,q⟩;refine⟨⟨by rw[ak,ak,l1],by rw[ak,ak,l2]⟩,?_⟩;rw[aar];refine dW (λp:Rat×Rat×Rat=>L2.T.tup [frR p.1,frR p.2.1,frR p.2.2]) (xs.zip (ys.zip zs)) (λ_ o=>∃x y z,o=[.fz (.lst (xs.map frR)),.fz (.lst (ys.map frR)),.fz (.lst (zs.map frR)),x,y,z]) ⟨_,_,_,rfl⟩ ?_ ?_
 .rintro as ⟨x,y,z⟩ bs _ e ⟨x',y',z',rfl⟩;have ez:(xs.zip (ys.zip zs))[as.length]?=some (x,y,z):=by rw[e,aD (aG _),UH];rfl
  obtain⟨ex,ez⟩:=List.getElem?_zip_eq_some.mp ez;obtain⟨ey,ez⟩:=List.getElem?_zip_eq_some.mp ez;have fx:=hx x (aC ex);have fy:=hy y (aC ey);have fz:=hz z (aC ez);have hk:=h as.length (ao.mp ey).1;simp only[xG,au,ex,ey,ez,Q1]at hk;have bn:=λ(z:Rat)(f:FnB (10^39) z)=>(yD (n:=39) f.n wx:Bd z.num);have bd:=λ(z:Rat)(f:FnB (10^39) z)=>(yD (n:=39) (by rw[XT];exact f.d) wx:Bd ((z.den:Nat):Int));have D1:∀{a b:Rat},a<=b->decide (b.num*((a.den:Nat):Int)<a.num*((b.den:Nat):Int))=false:=λ{a b}c=>Zp λz=>Rat.not_lt.mpr c ((Rat.lt_iff _ _).mpr z);exact⟨rfl,⟨bn x fx,bd y fy⟩,⟨bn y fy,bd x fx⟩,swF (D1 hk.1) ⟨⟨bn y fy,bd z fz⟩,⟨bn z fz,bd y fy⟩,swF (D1 hk.2) ⟨_,_,_,rfl⟩⟩⟩
 .rintro _ ⟨x,y,z,rfl⟩;exact q
def agB{ae:zC}{off:zd}(ho:Hq ae off)(k d:Nat):∃t:Str,(off.getD k [])[d]?=((ae.getD k [])[d]?).map (afs t):=by
 by_cases hk:k<ae.length
 .have e1:=aj hk;have e2:=aj (show k<off.length by rwa[ho.len]);obtain⟨tl,l,eo⟩:=ho.at_ k _ _ e1 e2;rw[au,au,e1,e2];show ∃t,(off[k]'(by rwa[ho.len]))[d]?=(ae[k][d]?).map (afs t);rw[eo,aq];by_cases hd:d<ae[k].length
  .refine⟨tl[d]' wv,?_⟩;rw[aj (show d<(tl.zip ae[k]).length by rw[WH];lia),aj hd,TW]
   rfl
  .exact⟨⟨#[]⟩,by rw[aM (show(tl.zip ae[k]).length<=d by rw[WH];lia),aM (show ae[k].length<=d by exact VS hd)];rfl⟩
 .have e1:ae[k]?=none:=aM (VS hk);have e2:off[k]?=none:=aM (by rw[ho.len];exact VS hk);exact⟨⟨#[]⟩,by rw[au,au,e1,e2];rfl⟩
def ajG(e:Bool)(m:Nat)(mk:Nat->Bool)(ld:Nat->xA):∃S,Lfp e m mk ld S:=by
 obtain⟨F,hF⟩ : ∃F:Nat->Bool,∀k,F k=true↔∀A:Nat->Bool,(∀k,k<m->mk k=true->A k=true)->(∀k,k<m->jn e (ld k) A=true->A k=true)->A k=true:=⟨λk=>@decide (∀A:Nat->Bool,(∀k,k<m->mk k=true->A k=true)->(∀k,k<m->jn e (ld k) A=true->A k=true)->A k=true) (Classical.propDecidable _),λk=>by simp only[decide_eq_true_eq]⟩;exact⟨F,λk hk g=>(hF k).mpr λA a _=>a k hk g,λk hk j=>(hF k).mpr λA a b=>b k hk (Jq (λ_ _ r _ s=>(hF r).mp s A a b) j),λA a b k _ s=>(hF k).mp s A a b⟩
def Lfp.jn_{e:Bool}{mk:Nat->Bool}{ld kc:Nat->xA}(h:Lfp e m mk ld S)(el:∀k,k<m->∀A,jn e (ld k) A=jn e (kc k) A):Lfp e m mk kc S:=⟨h.base,λk hk j=>h.step k hk (by rwa[el k hk]),λA a b=>h.least A a λk hk j=>b k hk (by rwa[<- el k hk])⟩
def amI(c:xo)(A:Nat->Bool):jn false (ldC c) A=jn false [(uV c).map (·.1)] A:=by cases c<;>rfl
def aiD{c:Nat->xo}{x:Nat->Rat}(h:fJ m (mkF gs) c S x){tk:Nat->zg}(e:∀k,k<m->tk k=uV (c k)):ChW m gs tk x:=⟨h.goal,λS' l k hk g=>by
 have l:Lfp false m (mkF gs) (λk=>[(uV (c k)).map (·.1)]) S':=l.ld λk hk=>by rw[e k hk]
 have es:=Rx (h.lf.jn_ λk hk A=>amI (c k) A) l hk;rw[<- es,e k hk];cases s:S k with
 |true=>rw[ZY rfl];exact h.mean k hk g s
 |false=>rw[ZZ wx];exact h.no k hk s⟩
def aaB{mk:Nat->Bool}{off:Nat->xD}{c:Nat->xo}{x y:Nat->Rat}(B:Best true m mk off y)(pc:PlC m off c)(ho:∀k,k<m->∀o∈off k,WyO m o)(h:fJ m mk c S x)(z:∀F,Lfp true m mk (ldO mk off) F->∀k,k<m->F k=false->y k=0)(yg:∀k,k<m->mk k=true->y k=1):∀k,k<m->y k<=x k:=λk hk=>by
 have hw:∀k,k<m->∀o,c k=some o->WyO m o:=λk hk o e=>ho k hk o (pc.mem k hk o e);obtain⟨F,f⟩:=ajG true m mk (ldO mk off);have sub:∀k,k<m->F k=true->S k=true:=f.least S h.lf.base λk hk j=>by
  obtain⟨_,ne,al⟩:=adi j;obtain⟨o,eo⟩:=pc.non k hk ne;obtain⟨v,hv,s⟩:=al o (pc.mem k hk o eo);exact h.lf.step k hk (by rw[eo];exact Jb hv s)
 have:=mp h.lf hw (d:=λk=>y k-x k) (λk hk g s=>by
  rw[Cg,<- h.mean k hk g s];cases ec:c k with
  |none =>
   have:=h.mean k hk g s;obtain⟨o,eo,_⟩ : ∃o,c k=some o/\True:=by
    refine Classical.byContradiction λn=>?_;have lt:=h.lf.least (λj=>if j=k then false else S j) (λj hj gj=>by
     by_cases e:j=k
     .rw[e,g]at gj;cases gj
     .rw[ZZ e];exact h.lf.base j hj gj) (λj hj jj=>by
     by_cases e:j=k
     .rw[e]at jj;rw[ec]at jj;cases jj
     .rw[ZZ e];exact h.lf.step j hj (Jq (λ_ _ r _ s=>by
       by_cases e:r=k
       .rw[ZY e]at s;cases s
       .rw[ZZ e]at s;exact s) jj)) k hk s
    rw[ZY rfl]at lt;cases lt
   rw[eo]at ec;cases ec
  |some o =>
   have b:=B.ok k hk g o (pc.mem k hk o ec);have b:y k<=dw o.ways y:=Rat.not_lt.mp b;show y k-x k<=dw o.ways y-x k
   grind) (λk hk g=>by rw[h.goal k hk g,yg k hk g];grind) (λk hk s=>by
  rw[h.no k hk s,z F f k hk (by
   cases e:F k with
   |false=>rfl
   |true=>rw[sub k hk e]at s;cases s)]
  grind) k hk
 grind
def agS(ae:zC)(k:Nat):(wsL ae).getD k []=(ae.getD k []).map λd=>mY d.prs:=by
 unfold wsL;rw[au,au,aq];cases ae[k]?<;>rfl
def adM{ae:zC}{off:zd}(ho:Hq ae off)(hp:PlT off pl)(hk:k<off.length):FZ (wsL ae) pl k=uV (cG off pl k):=by
 have eo:=aj hk;obtain⟨d,ed,fd⟩:=hp.room eo;rw[sZ ed eo];unfold FZ;rw[show pl.getD k none=d by rw[au,ed];rfl];cases d with
 |none=>rfl
 |some j =>
  obtain⟨t,et⟩:=agB ho k j;show((wsL ae).getD k []).getD j []=uV (off[k][j]?);rw[show off.getD k []=off[k]by rw[au,eo];rfl]at et;rw[et,agS,au,aq];cases(ae.getD k [])[j]?<;>rfl
def YT{ae:zC}{off:zd}(ho:Hq ae off){ds:List LD}{os:xD}(e1:ae[k]?=some ds)(e2:off[k]?=some os):os.length=ds.length:=by
 obtain⟨tl,l,rfl⟩:=ho.at_ k ds os e1 e2;rw[ak,WH,l,Up]
def W8{ae:zC}{off:zd}(ho:Hq ae off)(hp:PlT off pl):PlW ae pl:=⟨hp.len.trans ho.len,λk d ds ep ed=>by
 have eo:=aj (show k<off.length by rw[ho.len];exact(ao.mp ed).1);have:=hp.ok k d _ ep eo;rwa[YT ho ed eo]at this⟩
def acD{ae:zC}{off:zd}(ho:Hq ae off)(hp:PlW ae pl):PlT off pl:=⟨hp.len.trans ho.len.symm,λk d os ep eo=>by
 have ed:=aj (show k<ae.length by rw[<- ho.len];exact(ao.mp eo).1);rw[YT ho ed eo];exact hp.ok k d _ ep ed⟩
def WK{mo:Nat}{ae:zC}(hd:DSk m mo ae)(m1:m<=100)(hp:PlW ae pl):FtW (wsL ae) pl:=by
 have lw:(wsL ae).length=ae.length:=by unfold wsL;rw[ak]
 refine⟨by rw[lw,hd.len];exact m1,hp.len.trans lw.symm,λk d ep=>?_⟩;have lk:k<ae.length:=by rw[<- hp.len];exact(ao.mp ep).1
 have ed:=aj lk;have:=hp.ok k _ _ ep ed;rw[agS,ak,au,ed];exact of_decide_eq_true this
def acS{mo:Nat}{ae:zC}(hd:DSk m mo ae):∀ds∈wsL ae,∀w∈ds,W2 (wsL ae).length w:=λds dS w hw=>by
 obtain⟨es,he,rfl⟩:=YV.mp dS;obtain⟨d,hm,rfl⟩:=YV.mp hw;have lw:(wsL ae).length=m:=by unfold wsL;rw[ak,hd.len]
 have lk:=hd.ok es he d hm;obtain⟨q,q0,q1,hq⟩:=lk.all;have j:=Rr q0 hq;have f1:=j.few;have f2:=lk.few;refine⟨by exact aL f1 f2,λp hp=>by rw[lw];exact j.lt p hp,λp hp=>?_⟩;have dl:=UZ q0 (j.dn p hp);have l1:=lJ j.nn hp;rw[j.sum,Ay,lk.one]at l1;have n0:=j.nn p hp;have:p.2.num.natAbs<=1*p.2.den:=GX (A:=1) (by show p.2<=((1:Nat):Rat);rw[show((1:Nat):Rat)=1 from rfl];exact l1) (by show -((1:Nat):Rat)<=p.2;rw[show((1:Nat):Rat)=1 from rfl];grind);lia
def agA{ae:zC} : aaN (ae.map List.length) pl↔PlW ae pl:=by
 refine⟨λh=>⟨by rw[h.1,ak],λk d ds ep ed=>h.2 k d _ ep (by rw[aq,ed];rfl)⟩,λh=>⟨by rw[h.len,ak],λk d n ep en=>?_⟩⟩;rw[aq]at en;cases ed:ae[k]? with
 |none=>rw[ed]at en;cases en
 |some ds=>rw[ed]at en;cases en;exact h.ok k d ds ep ed
def Sw:EqD frR frD:=⟨λ_=>rfl,λ_=>rfl,λ_=>UT rfl,λx y=>by
 unfold frD;rw[abW,<- Bool.decide_and];exact decide_eq_decide.mpr ⟨λz=>Rat.ext z.1 (by have:=z.2;lia),λz=>by rw[z];exact⟨rfl,rfl⟩⟩⟩
def agL{rs:zS}(h:r∈rs):((rs.map frD).any λy=>PyData.eqv y (frD r))=true:=by
 rw[UK];exact List.any_eq_true.mpr ⟨r,h,by show PyData.eqv (frD r) (frD r)=true;rw[Sw.eqv];exact Zs rfl⟩
def ZW{β:Type}{R:α->L2.T->Prop}{g:β->L2.T}{Q:α->β->Prop}(hR:∀a t,R a t->∃b,t=g b/\Q a b){l:List α}{ts:List L2.T}(h:adF R l ts):∃bs:List β,ts=bs.map g/\bs.length=l.length/\∀(j:Nat)a b,l[j]?=some a->bs[j]?=some b->Q a b:=by
 induction h with
 |nil=>exact⟨[],rfl,rfl,λj a b e=>by cases e⟩
 |cons r _ ih =>
  obtain⟨bs,e,l,q⟩:=ih;obtain⟨b,rfl,qb⟩:=hR _ _ r;refine⟨b::bs,by rw[e];rfl,by rw[List.length_cons,List.length_cons,l],λj a b' ea eb=>?_⟩;cases j with
  |zero=>cases ea;cases eb;exact qb
  |succ j=>exact q j a b' (by simpa using ea) (by simpa using eb)
structure QSB(X:Cx)(st:Stmt)(r:RS):Prop where
 out:QS X st r
structure ae0(X:Cx)(ss:xB)(r:RS):Prop where
 out:QSs X ss r
def lQ{st:Stmt}{r:RS}(h:QS X st r):QSB X st r:=⟨h⟩
def ac3{st:Stmt}{a:RS}(h:QSB X st a):ae0 X [st] a:=⟨bI h.out⟩
def fD{st:Stmt}{i7:xB}{a b:RS}(h1:QSB X st a)(h2:ae0 X i7 b):ae0 X (st::i7) (jF a b):=⟨bG h1.out h2.out⟩
def aeJ{e:Expr}{re:RE}{pos:Pos}(i:Nat){bi:Pos}(hN:X.N.Nodup)(hx:Loc X.env.scope x)(he:QEB X e re)(hi:X.N[i]?=some x:=by rfl)(hs:swapsWith e (some (.Name x bi)) pos.line X.env=pure false:=by rfl)(hf:qi X x:=by first|exact .inl rfl|exact .inr rfl|assumption):QSB X (.Assign [.Name x bi] e pos) (ahJ i re):=⟨bQ (i:=i) (hN:=hN) (hx:=hx) (he:=he.out) (hi:=hi) (hs:=hs) (hf:=hf)⟩
def aiJ{a b:Expr}{ra rb:RE}{pos:Pos}(ha:QEB X a ra)(hb:QEB X b rb)(hs:tu b:=by exact λ_ _=>rfl):QEB X (.Subscript a b pos) (rOp gIx ra rb):=⟨bK ha.out hb.out hs⟩
def abY{off:zd}(h:HlZ ns off)(hp:PlT off pl):PlC ns.length (Ah off) (cG off pl):=by
 have hl:=h.h.len;refine⟨λk hk o e=>?_,λk hk ne=>?_⟩
 .obtain⟨ds,eo,ho⟩:=G7 e;show o∈off.getD k [];rwa[au,eo]
 .have eo:=aj (show k<off.length by lia);obtain⟨d,ed,fd⟩:=hp.room eo;have ne:off[k]≠[]:=by
   have ne:off.getD k []≠[]:=ne;rw[au,eo]at ne;exact ne
  obtain⟨j,rfl,lj⟩:=zq fd λz=>ne (List.length_eq_zero_iff.mp z);exact⟨off[k][j],by rw[sZ ed eo];exact aj lj⟩
def ajj(c:Int):∃s:Rat,Shr s/\ixT [L2.T.tup [.int 1,.int 2],.tup [.int 0,.int 1],.tup [.int 2,.int 3],.tup [.int 99,.int 100]] (c%4)=some (frR s):=by
 rcases(show c%4=0\/c%4=1\/c%4=2\/c%4=3 by lia)with z|z|z|z<;>rw[z]
 .exact⟨mkRat 1 2,⟨by decide,by decide,by decide⟩,rfl⟩
 .exact⟨0,⟨by decide,by decide,by decide⟩,rfl⟩
 .exact⟨mkRat 2 3,⟨by decide,by decide,by decide⟩,rfl⟩
 .exact⟨mkRat 99 100,⟨by decide,by decide,by decide⟩,rfl⟩
abbrev xsT(xs:zS):L2.T:=.lst (xs.map frR)
def o39(D:Adr)(ns:xz)(s:Rat)(ae:zC)(nm:Φ)(off:zd)(gs:zn)(lt:Bool)(hi lo k he pl mi:OT):ze:=[.fz (scT ns),.fz (Nq ae),.fz (waT (wsL ae)),.fz (frR s),.fz (hlT D s nm off),.fz (ntT gs),.fz (.lst ((gO (ae.map List.length)).map plT)),.fz (.bl lt),hi,lo,k,he,pl,mi]
structure ae9(m:Nat)(ae:zC)(nm:Φ)(off:zd)(gs:zn):Prop where
 m4:m<=4
 hd:DSk m 2 ae
 ho:Hq ae off
 ln:nm.length=m
 z:HlZ nm off
 hg:ahr nm gs
structure an3(nm:Φ)(off:zd)(gs:zn)(ps:List zb)(hs:xE):Prop where
 len:hs.length=ps.length
 ok:∀(j:Nat)p xs,ps[j]?=some p->hs[j]?=some xs->XsB nm.length xs/\∃S,fJ nm.length (mkF gs) (cG off p) S (xG xs)
def ah1{ae:zC}(hd:DSk m 2 ae)(p:zb):p∈gO (ae.map List.length)↔PlW ae p:=by
 rw[N7 (λn hn=>by
  obtain⟨ds,h,rfl⟩:=YV.mp hn;exact hd.few ds h),agA]
def ag4{ae:zC}{off:zd}{hs:xE}(d:ae9 m ae nm off gs)(he:an3 nm off gs (gO (ae.map List.length)) hs){e:Bool}{p:PWs}(hp:ChP e nm off gs p)(hk:k<nm.length):xG p.2 k∈hs.map λxs=>xG xs k:=by
 obtain⟨j,ej⟩:=aV ((ah1 d.hd p.1).mpr (W8 d.ho hp.pl));have lj:=(ao.mp ej).1;have eh:=aj (show j<hs.length by rwa[he.len]);obtain⟨_,S,c⟩:=he.ok j _ _ ej eh;obtain⟨S',c'⟩:=hp.ch;exact YV.mpr ⟨_,aC eh,c.uniq c' (d.z.cw p.1) hk⟩
def ac9{ae:zC}{off:zd}(d:ae9 m ae nm off gs)(hp:PlT off pl)(xb:XsB nm.length xs)(ch:∃S,fJ nm.length (mkF gs) (cG off pl) S (xG xs)):xs.length=(wsL ae).length/\ChW (wsL ae).length gs (FZ (wsL ae) pl) (xG xs):=by
 have lw:(wsL ae).length=nm.length:=by unfold wsL;rw[ak,d.hd.len,d.ln]
 obtain⟨S,c⟩:=ch;rw[lw];exact⟨xb.len,aiD c λk hk=>adM d.ho hp (by have:=d.z.h.len;lia)⟩
def amh{ae:zC}{off:zd}(d:ae9 m ae nm off gs){p p':PWs}(h:ChP false nm off gs p)(h':ChP true nm off gs p')(hp:PlT off pl)(ch:∃S,fJ nm.length (mkF gs) (cG off pl) S (xG xs))(hk:k<nm.length):xG p'.2 k<=xG xs k/\xG xs k<=xG p.2 k:=by
 have hl:=d.z.h.len;have ho:∀k,k<nm.length->∀o∈Ah off k,WyO nm.length o:=λk hk o hm=>by
  have eo:=aj (show k<off.length by lia);have hm:o∈off.getD k []:=hm;rw[au,eo]at hm;exact(d.z.z _ (aU _) o hm).wy
 obtain⟨S,c⟩:=ch;obtain⟨_,c1⟩:=h.ch;obtain⟨_,c2⟩:=h'.ch;exact⟨aaB h'.best (abY d.z hp) ho c (h'.no rfl) c2.goal k hk,beats h.best (abY d.z hp) ho c (λk _=>(h.xs.get k).1) c1.goal k hk⟩
def ado:ST:=λts q=>∃ns:xz,ts=[scT ns]/\ns.length<=63/\q (.fz (.bl true))
def ajD(T:Tx D)(F:Fu YB KD f fd):FT 12 f fd R_ ado:=by
 refine F.okT K6 (λhr _=>ae0.out (fD (lQ (bQ 1 (bJ (aee T) (bA wp (bA bF (bA (bJ (af4 T) (bA (bJ (afz T) (bA wp (bA bF bC))) bC)) (bA bF bC)))))))
  (fD (lQ (bQ 2 (bJ (Vo T) (bA wo bC))))
  (fD (aeJ 3 K6.nd (Or.inl rfl) (aiJ (Qx (cT (pO (cT kW (cT kW kY))) (cT (pO (cT kW (cT kW kY))) (cT (pO (cT kW (cT kW kY))) (cT (pO (cT kW (cT kW kY))) kY))))) (Xo cW (Xo oZ (CG (bJ (afz T) (bA wp (bA bF bC)))) kW) kW)))
  (fD (lQ (bQ 4 (bJ (afw T) (bA (bJ (afz T) (bA wp (bA bF bC))) (bA wn (bA wo bC))))))
  (fD (lQ (bQ 5 (bJ (ad1 T) (bA (bJ (afz T) (bA wp (bA bF bC))) (bA (bT cQ T.dU WG (bA wo bC)) bC)))))
  (fD (lQ (bQ 6 (bJ (acI T) (bA wo bC))))
  (fD (lQ (bQ 7 (qw (go_eq hr.units) (bO cW (bJ (afz T) (bA wp (bA bF bC))) bF) bF)))
  (fD (lQ (cA (cF (qv 7))
  (bI (i_ (bH KD) VP ["_law_script","_law_rooms","_law_ways_here","_law_share","_law_hall_here","_law_goals_here","_law_plans_here","_law_late","_law_high","_law_low","_law_k","_law_held","?_law_plan_here","_law_mine"] ["_law_plan_here"] (bZ (qv 6)) (c7 (i:=0)) b_ (bJ (Mp T) (bA wa (bA (jQ sY T.rN boot_list (bA (qv 6) bC)) (bA (jQ sY T.rN boot_list (bA wp bC)) bC)))) (gB (i:=11) K6.nd rfl (Or.inl rfl))))
  bV))
  (fD (lQ (bQ 8 (bJ (Bj T) (bA we (bA (jQ sY T.rN boot_list (bA wa bC)) bC)))))
  (fD (lQ (bQ 9 (bJ (Gb T) (bA we (bA (jQ sY T.rN boot_list (bA wa bC)) bC)))))
  (fD (lQ (cA (dN (cF (qv 7)))
  (bI (i_ (bH KD) VP ["_law_script","_law_rooms","_law_ways_here","_law_share","_law_hall_here","_law_goals_here","_law_plans_here","_law_late","_law_high","_law_low","_law_k","_law_held","?_law_plan_here","_law_mine"] ["_law_plan_here"] (bZ (qv 6)) (c7 (i:=0)) b_ (bJ (Mp T) (bA wa (bA (jQ sY T.rN boot_list (bA (qv 6) bC)) (bA (jQ sY T.rN boot_list (bA wp bC)) bC)))) (gB (i:=11) K6.nd rfl (Or.inl rfl))))
  bV))
  (fD (lQ (cA (QW.qt (fW (dN (cF (bJ (agk T) (bA (qv 8) (bA wo (bA wr (bA wa bC))))))) (eX (dN (cF (bJ (agk T) (bA (qv 9) (bA wo (bA wr (bA wa bC))))))))))
  (bI (bR g_))
  bV))
  (fD (lQ (cY (BZ T.HB (bA (qv 6) (bA (qv 11) bC))) (dB (n:=2) (bM (bU (n:=99) 12) (bM (bU (n:=99) 13) cL)))
  (bI (cA (QW.qt (fW (dN (cF (bJ (X8 T) (bA (qv 13) (bA wr (bA wa (bA (qv 12) bC))))))) (eX (dN (cF (bJ (XJ T) (bA (bK (qv 9) bF) (bA (qv 13) (bA (bK (qv 8) bF) bC)))))))))
  (bI (bR g_))
  bV))))
  (fD (lQ (cY (dI T.fu (bA (bT cQ T.dU WG (bA wo bC)) bC)) (bU (n:=99) 10)
  (bG (i_ (bH KD) VP VP ["_law_some"] (bZ (qv 11)) (c7 (i:=0)) b_ (bK wp (qv 11)) (gB (i:=13) K6.nd rfl (Or.inl rfl)))
  (bI (cA (QW.qt (fW (bW (acP hr.units) (bK (bK (qv 9) bF) (qv 10)) (qv 13) (hm:=by rfl)) (eX (bW (acP hr.units) (bK (bK (qv 8) bF) (qv 10)) (qv 13) (hm:=by rfl)))))
  (bI (bR g_))
  bV)))))
  (ac3 (lQ (bR g_)))))))))))))))))) ?_
 rintro _ R ⟨ns,rfl,nl,q⟩;refine sq7 (λo=>∃s m ae nm off gs lt,ae9 m ae nm off gs/\o=o39 D ns s ae nm off gs lt .und .und .und .und .und .und) ?_ λY hY=>?_
 rotate_left
 .refine⟨ns,0,rfl,by exact aL nl wx,_,rfl,λm m4=>⟨ns,3,m,2,rfl,by exact aL nl wx,by exact aL m4 wx,by decide,λae hd=>?_⟩⟩;dsimp only;rw[agp];obtain⟨s,hs,es⟩:=ajj (Int.fdiv (ns.getD 1 0) 7);have ml:((ae.map λds=>L2.T.lst (ds.map ldT)).length:Int)=(m:Nat):=by rw[ak,hd.len]
  refine⟨m,2,ae,rfl,hd,by exact aL m4 wx,by decide,ns,1,rfl,by exact aL nl wx,⟨by decide,eZ wx⟩,by decide,_,es,ns,1,rfl,by exact aL nl wx,_,s,m,2,ae,rfl,hs,hd,by exact aL m4 wx,by decide,λnm off hn hok ho=>⟨ns,2,rfl,by exact aL nl wx,_,m,ZH (λz=>[L2.T.int (ns.getD 2 0),L2.T.int z]) ml,by exact aL m4 wx,λgs gl gm=>⟨m,ae,rfl,hd,by exact aL m4 wx,ns,1,rfl,by exact aL nl wx,by decide,?_⟩⟩⟩;exact hY _ ⟨s,m,ae,nm,off,gs,_,⟨m4,hd,ho,hn.len,ahZ hn.len (aL m4 wx) hok hd ho,λg hg=>by rw[hn.len];exact gm g hg⟩,rfl⟩
 rintro _ ⟨s,m,ae,nm,off,gs,lt,d,rfl⟩;have ln:=d.ln;have m4:=d.m4;have hl:=d.z.h.len;have i':(gO (ae.map List.length)).length<=16:=aL (Ol _) (by rw[ak,d.hd.len];exact XU wx m4);refine sq4 (λo=>∃(p p':PWs)(hs:xE),ChP false nm off gs p/\ChP true nm off gs p'/\an3 nm off gs (gO (ae.map List.length)) hs/\o=o39 D ns s ae nm off gs lt (.fz (pwT p)) (.fz (pwT p')) .und (.fz (.lst (hs.map xsT))) .und .und) ?_ λY hY=>?_
 rotate_left
 .have lz:((gO (ae.map List.length)).map plT).length<=sizeLine:=by rw[ak];exact aL i' wx
  have pt:∀p,p∈gO (ae.map List.length)->PlT off p:=λp hp=>acD d.ho ((ah1 d.hd p).mp hp)
  let RR:zb->L2.T->Prop:=λp t=>∃xs,t=xsT xs/\(XsB nm.length xs/\∃S,fJ nm.length (mkF gs) (cG off p) S (xG xs))
  cases lt with
  |true =>
   refine⟨lz,Li plT RR _ (λp hp N M hN=>⟨s,nm,off,gs,p,rfl,d.z,d.hg,pt p hp,λxs xb xc=>hN _ ⟨xs,rfl,xb,xc⟩⟩) λts al=>?_⟩;obtain⟨hs,rfl,h1,h2⟩:=ZW (λ_ _ h=>h) al;exact⟨s,nm,off,gs,rfl,d.z,d.hg,λp hp=>⟨s,nm,off,gs,rfl,d.z,d.hg,λp' b5=>hY _ ⟨p,p',hs,hp,b5,⟨h1,h2⟩,rfl⟩⟩⟩
  |false =>
   refine⟨s,nm,off,gs,rfl,d.z,d.hg,λp hp=>⟨s,nm,off,gs,rfl,d.z,d.hg,λp' b5=>⟨lz,Li plT RR _ (λp hp N M hN=>⟨s,nm,off,gs,p,rfl,d.z,d.hg,pt p hp,λxs xb xc=>hN _ ⟨xs,rfl,xb,xc⟩⟩) λts al=>?_⟩⟩⟩;obtain⟨hs,rfl,h1,h2⟩:=ZW (λ_ _ h=>h) al;exact hY _ ⟨p,p',hs,hp,b5,⟨h1,h2⟩,rfl⟩
 rintro _ ⟨p,p',hs,hp,b5,he,rfl⟩;have pw:=W8 d.ho hp.pl;have pw':=W8 d.ho b5.pl;obtain⟨a1,a2⟩:=ac9 d hp.pl hp.xs hp.ch;obtain⟨b1,b2⟩:=ac9 d b5.pl b5.xs b5.ch;refine⟨p,ae,wsL ae,gs,rfl,pw,a1,hp.xs.fn,WK d.hd (aL m4 wx) pw,acS d.hd,a2,p',ae,wsL ae,gs,rfl,pw',b1,b5.xs.fn,WK d.hd (aL m4 wx) pw',acS d.hd,b2,?_⟩;show xH _ _ _ (B_ ((gO (ae.map List.length)).map plT) (hs.map xsT)) _;rw[Aa];refine dW (λq:List xl×zS=>L2.T.tup [plT q.1,xsT q.2]) ((gO (ae.map List.length)).zip hs) (λ_ o=>∃x y,o=o39 D ns s ae nm off gs lt (.fz (pwT p)) (.fz (pwT p')) .und (.fz (.lst (hs.map xsT))) x y) ⟨_,_,rfl⟩ ?_ ?_
 .rintro as ⟨pl,xs⟩ bs _ e ⟨x,y,rfl⟩;have ez:((gO (ae.map List.length)).zip hs)[as.length]?=some (pl,xs):=by rw[e,aD (aG _),UH];rfl
  obtain⟨e1,e2⟩:=List.getElem?_zip_eq_some.mp ez;obtain⟨xb,ch⟩:=he.ok _ _ _ e1 e2;have lw:=(ah1 d.hd pl).mp (aC e1);have lt:=acD d.ho lw;obtain⟨c1,c2⟩:=ac9 d lt xb ch;exact⟨rfl,xs,wsL ae,gs,pl,rfl,c1,xb.fn,WK d.hd (aL m4 wx) lw,acS d.hd,c2,p'.2,xs,p.2,rfl,by rw[b5.xs.len,xb.len],by rw[hp.xs.len,xb.len],b5.xs.fn,xb.fn,hp.xs.fn,λk hk=>amh d hp b5 lt ch (by rw[xb.len]at hk;exact hk),_,_,rfl⟩
 rintro _ ⟨x,y,rfl⟩;have ml:(ae.map λds=>L2.T.lst (ds.map ldT)).length=m:=by rw[ak,d.hd.len]
 refine⟨⟨by lia,by lia⟩,lX (n:=(ae.map λds=>L2.T.lst (ds.map ldT)).length) (λ_ o=>∃x y z,o=o39 D ns s ae nm off gs lt (.fz (pwT p)) (.fz (pwT p')) x (.fz (.lst (hs.map xsT))) y z) ⟨_,_,_,rfl⟩ ?_ ?_⟩
 .rintro k _ hk ⟨x,y,z,rfl⟩;have hk:k<nm.length:=by lia
  have gx:∀{xs:zS},xs.length=nm.length->xs[k]?=some (xG xs k):=λ{xs}e=>by
   show _=some (xs.getD k 0);rw[au,aj wv];rfl
  have uT:L2.T.lst (hs.map λxs=>frR (xG xs k))=ofD (.list ((hs.map λxs=>xG xs k).map frD)):=ZH L2.T.lst (by rw[<- oE Sw.of,WU];rfl);refine⟨by rw[ak,he.len];exact aL i' wx,comp_map xsT (λxs=>frR (xG xs k)) hs (λxs hx N M hN=>?_) ⟨_,cZ (gx b5.xs.len),frD _,(hs.map λxs=>xG xs k).map frD,rfl,uT,rfl,Sw.lst _,?_⟩⟩
  .obtain⟨j,ej⟩:=aV hx;have lj:=(ao.mp ej).1;have xb:=(he.ok j _ _ (aj (show j<(gO (ae.map List.length)).length by rwa[<- he.len])) ej).1;exact⟨_,cZ (gx xb.len),hN⟩
  rw[agL (ag4 d he b5 hk)];refine⟨_,cZ (gx hp.xs.len),frD _,(hs.map λxs=>xG xs k).map frD,rfl,uT,rfl,Sw.lst _,?_⟩;rw[agL (ag4 d he hp hk)];exact⟨_,_,_,rfl⟩
 .rintro _ ⟨x,y,z,rfl⟩;exact q
end
def ajw{K:Frag}{vs:Ζ}{H:Hp}{Q:VK}{E:XK}(h:Zh K vs H Q E):spT K ado vs H Q E:=by
 obtain⟨a,ns,rfl,hs,hl,_,hQ⟩:=h;refine⟨[scT ns],λx=>x=.fz (.bl true),.cons (.scr hs (GZ ns)) .nil,⟨ns,rfl,hl,rfl⟩,?_⟩;rintro H' v _ rfl _ ⟨B,_,_,u,e,r⟩;cases e;cases r;exact hQ H'
def law_fn{l:PySem.W.OpenLaw}{w:World}{K:Frag}{mg:Str->Ω}(T0:∃D,Txt K mg D)(base:Heap)(f:Addr)(fd:FuncData)(F:Fun K YB YB KD f fd) :
  gY l.prog w K mg base CX0 12 f fd R_ (Zh K):=by
 obtain⟨D,T⟩:=T0
 letI:Bs:=⟨l.prog,w,K,mg,base⟩
 exact(ajD T F).imp λ_ _ _ _ h=>ajw h
end K39
end
open PySem PySem.W PyProof.Rows L2
set_option maxRecDepth 100000 in
set_option maxHeartbeats 0 in
theorem PySem.Challenge.cw_chancehall_k39_whole_no_plan_beyond_holds : PySem.Challenge.rw_chancehall_k39_whole_no_plan_beyond.Holds := by
 w_on
 refine holds_law H39.wsd λk6=>?_;refine holds_open (q:=H39.qv) (loose:=[]) (XP:=XL H39.qv []) (YP:=InK H39.KH) H39.left (InK.of H39.asK) InK.keeps H39.hX XL.keeps (by rfl) (by rfl) (by rfl) H39.hR (by rfl) k6 (by decide +kernel) ⟨rfl,rfl,rfl,rfl,rfl,by decide +kernel⟩ ?hw ?hc
 (case hw=>w_witness2)
 k_fill
 refine L2.anp (l:=PySem.Challenge.rw_chancehall_k39_whole_no_plan_beyond) (k:=12) (x := "_law_script") rfl rfl ⟨rfl,by decide,by decide⟩ (λw h Y=>(show(H39.KH w.params).In h from Y)) ?F
 case F =>
  intro w mg fa h KX G gc;refine⟨K39.KD,?_,λbase f fd F=>K39.law_fn ?T base f fd F⟩
  .exact q_f
  case T =>
   refine⟨⟨511,532,551,570,587,672,135,136,494,501,529,548,567,584,629,636,657,669⟩,⟨q_c,q_c,q_c,q_c,q_c,q_c,q_c,q_c,q_g,q_t,q_t,q_4,q_m,q_n,q_n,q_n,q_n,q_n,q_n,q_M,q_4,q_m,q_n,q_n,q_n,q_n,q_n,q_n,q_M,q_4,q_m,q_n,q_n,q_n,q_n,q_n,q_n,q_M,q_4,q_m,q_n,q_n,q_n,q_n,q_n,q_n,q_M,q_4,q_m,q_n,q_n,q_n,q_n,q_n,q_n,q_M,q_4,q_m,q_m,q_m,q_n,q_n,q_n,q_n,q_n,q_n,q_B,q_h,q_h,q_h,q_B,q_h,q_h,q_h,q_h,q_h,q_h,q_h,q_z,q_z,q_z,q_z,q_z,q_z,q_z,q_z,q_z,q_z,q_z,q_z,q_z,q_z,q_z,q_z,q_f,q_f,q_f,q_f,q_f,q_f,q_f,q_f,q_f,q_f,q_f,q_f,q_f,q_f,q_f,q_f,q_f,q_f,q_f,q_f,q_f,q_f,q_f,q_f,q_f,q_f,q_f,q_f,q_f,q_f,q_f,q_f,q_f,q_f,q_f,q_f,q_f,q_f,q_f,q_f,q_f,q_f,q_f,q_f,q_f,q_f,q_f,q_f,q_f,q_f,q_f,q_f,q_f,q_f,q_f,q_f,q_f,q_f,q_f,q_f,q_f,q_f,q_f,q_f,q_f,q_f,q_f,q_f,q_f,q_f,q_f,q_f,q_f,q_f,q_f,q_f,q_f,q_f,q_f,q_f,q_f,q_f,q_f,q_f,q_f,q_f⟩⟩
#print axioms PySem.Challenge.cw_chancehall_k39_whole_no_plan_beyond_holds
