import PyProof.Rows.All
import Wide.All
import OpenK.AllK
import Wide.FinOn
import Lean
import PyProof.EqAt
import PyProof.EqKinds
import PyProof.TupleCall
import PyProof.EqLayable
import KE.KIntText
import PyProof.EnumMake
import PyProof.EnumStmt
import PyProof.EnumFor
import PyProof.Rows.EnumRows
import PyProof.ExcInit
import PyProof.ExcClass2
import PyProof.InstStoreFacts
import KE.KRevIter
import PySem.Challenge.RW_chancehall_k40_whole_nought_and_one
def aj := @List.getElem?_eq_getElem
def ak := @List.length_map
def ao := @List.getElem?_eq_some_iff
def aq := @List.getElem?_map
def au := @List.getD_eq_getElem?_getD
def aA := @List.length_append
def aC := @List.mem_of_getElem?
def aD := @List.getElem?_append_right
def aF := @List.getElem?_append_left
def aG := @Nat.le_refl
def aH := @PySem.Heap.get?_push_of_some
def aJ := @List.mem_cons_of_mem
def aK := @PySem.Heap.lt_size
def aL := @Nat.le_trans
def aM := @List.getElem?_eq_none
def aN := @List.length_replicate
def aO := @List.mem_cons_self
def aP := @List.mem_append_right
def aQ := @Nat.ne_of_lt
def aR := @Nat.lt_of_lt_of_le
def aU := @List.getElem_mem
def aV := @List.getElem?_of_mem
def aW := @PySem.Heap.get?_push_size
def aX := @List.size_toArray
def aY := @List.length_take
def aZ := @Nat.zero_le
def bf := @List.map_append
def bA := @Bool.false_ne_true
open PySem.W (Frag instObj methodObj lookIn plainGet hasDictIn findIn handedIn plainGet_of isFn plainOver takerIn makesIn emptyDict keepIn specialIn mroIn kitOne kia_one kitx_list kitx_tuple callWith_K methodCall_KW codeIn nsIn mg_of excIn readsIn findCls)
section
open PySem PySem.Spec PyProof.Rows
abbrev Γ:=List (Int×Int)
abbrev Δ:=List (Addr×Obj)
abbrev Θ:=List Value
abbrev Φ:=List Str
abbrev Ψ:=List Addr
abbrev Ω:=Option Value
abbrev Ξ:=Option Addr
abbrev Β:=Int×Int
abbrev Ε:=Value->Shared->Prop
def Zs:=@decide_eq_true
def Zp:=@decide_eq_false
def ZZ:=@if_neg
def ZY:=@if_pos
def ZU:=@wpAny_bind
def ZT:=@wpAny_pure
def ZH:=@congrArg
def Z3:=@Int.emod_nonneg
def YY:=@Int.emod_lt_of_pos
def YV:=@List.mem_map
def YU:=@List.mem_cons
def YR:=@List.mem_singleton
def Y1:=@List.mem_append
def Y2:=@Nat.le_of_lt
def Y3:=@Nat.lt_of_le_of_lt
def Xs:=@Nat.le_succ
def XZ:=@Int.mul_pos
def XY:=@Int.le_of_lt
def XX:=@Nat.lt_of_le_of_ne
def XW:=@Bool.false_eq_true
def XV:=@Rat.intCast_mul
def XU:=@Nat.pow_le_pow_right
def XT:=@Int.natAbs_natCast
def XG:=@List.getElem?_replicate
def X0:=@Nat.lt_succ_self
def X1:=@Nat.le_add_right
def X2:=@Nat.lt_irrefl
def X9:=@Int.natCast_nonneg
def Wp:=@List.append_assoc
def WZ:=@Nat.not_lt_zero
def WV:=@Nat.lt_add_right
def WU:=@List.map_map
def WS:=@Int.ne_of_gt
def WP:=@List.length_range
def WJ:=@Nat.le_of_eq
def WG:=@PySem.boot_len
def WH:=@List.length_set
def W1:=@Rat.le_refl
def VZ:=@List.getElem?_range
def VY:=@List.getElem_map
def VX:=@List.length_zip
def VW:=@Nat.le_of_lt_succ
def VV:=@List.getElem?_set_ne
def VU:=@Nat.le_of_not_lt
def VT:=@Nat.ne_of_gt
def VS:=@List.of_mem_zip
def VQ:=@List.not_mem_nil
def Up:=@Int.natAbs_mul
def UZ:=@Nat.mul_le_mul
def UY:=@Nat.le_of_dvd
def UX:=@Nat.min_self
def UV:=@List.ext_getElem
def UU:=@List.getElem?_set_self
def UT:=@Nat.one_pos
def US:=@List.map_congr_left
def UR:=@Rat.le_of_lt
def UQ:=@List.mem_append_left
def UP:=@Nat.zero_add
def UK:=@List.length_zipIdx
def UH:=@List.getElem_range
def U1:=@Nat.le_of_ble_eq_true
def U2:=@List.length_drop
def Tu:=@Nat.lt_trans
def Ts:=@Nat.not_lt_of_le
def Tk:=@Int.one_mul
def Th:=@List.map_set
def TZ:=@Rat.divInt_eq_div
def TW:=@Int.lt_of_not_ge
def TU:=@Nat.succ_pos
def TR:=@Nat.add_sub_cancel_left
def TK:=@List.drop_eq_nil_of_le
def TH:=@List.length_zipWith
def T1:=@Nat.one_dvd
def T2:=@Int.gcd_dvd_right
def JY:=@Int.natCast_mul
def JU:=@Rat.zero_divInt
def JS:=@List.drop_eq_getElem_cons
def JP:=@Bool.and_eq_true
def JJ:=@List.getElem_zipIdx
def Qr:=@Rat.intCast_zero
def QY:=@Int.mul_ediv_cancel_left
def QU:=@Rat.divInt_eq_divInt_iff
def QR:=@List.getElem_set
def QQ:=@List.take_of_length_le
def QP:=@List.set_eq_of_length_le
def Q1:=@List.getElem?_zipWith
def Q2:=@Int.gcd_pos_of_ne_zero_right
def Q3:=@Int.ediv_pos_of_pos_of_dvd
def Q4:=@Nat.le_mul_of_pos_left
def Zzz:=@List.flatten_replicate_singleton
end
set_option Elab.async false
set_option linter.all false
set_option maxRecDepth 100000
set_option maxHeartbeats 4000000
namespace L2.Once
noncomputable section
open PySem PySem.W
def z:Pos:=⟨0,0,0,0⟩
def tE:Obj:=⟨.type "tuple",none,.seq ⟨[]⟩ 0,⟨[]⟩⟩
def fE:Obj:=⟨.none,none,.fields ⟨[]⟩,⟨[]⟩⟩
def tN(t:Nat)(l:Φ):Obj:=⟨.type "tuple",none,.seq ⟨(l.zipIdx t).map λx=>.str x.1 x.2⟩ 0,⟨[]⟩⟩
def cO(n q:Str)(t:Nat)(l a f:Int)(r u:Nat):Obj:=⟨.type "code",none,.fields ⟨[.str n t,.str q (t+1),.str "/claim/cut.py" (t+2),.int l 0,.int a 0,.int 0 0,.int 0 0,.int f 0,.ref r,.bool true,.int 181 0,.ref (r+1),.none,.ref (r+2),.ref (r+3),.ref (r+4),.int u 0,.int l 0,.str "/claim/cut.py" (u+1)]⟩,⟨[]⟩⟩
def o11:Obj:={ cls:=.type "tuple",data:=.seq #[] }
def o12:Obj:={ cls:=.none,data:=.fields #[] }
def o13:Obj:={ cls:=.type "code",data:=.fields #[.str "<module>" 182,.str "<module>" 183,.str "/claim/cut.py" 184,.int 1 0,.int 0 0,.int 0 0,.int 0 0,.int 0 0,.ref 11,.bool false,.int 181 0,.ref 12,.none,.none,.none,.none,.int 185 0,.int 1 0,.str "/claim/cut.py" 186] }
def o14:Obj:={ cls:=.type "frame",slots:=#[some (.ref 13),some (.ref 3),some (.ref 3),none,some (.str "__main__" 164),none,some (.ref 0)] }
def cP(n q:Str)(t:Nat)(l a f:Int)(r u:Nat):Obj:=⟨.type "code",none,.fields ⟨[.str n t,.str q (t+1),.str "/claim/cut.py" (t+2),.int l 0,.int a 0,.int 0 0,.int 0 0,.int f 0,.ref r,.bool true,.int 181 0,.ref (r+1),.none,.none,.none,.ref (r+2),.int u 0,.int l 0,.str "/claim/cut.py" (u+1)]⟩,⟨[]⟩⟩
def dE(P:Params)(x:Str)(t:Nat)(v:Value):DictEntry:=⟨PyData.keyHash P x,.str x t,v⟩
abbrev lf(o:Obj):BT:=.node o .nil .nil
def tr(P:Params):BT:=.node (boot_o_0 P)
 (.node (boot_o_1 P) (.node (boot_o_3 P) (lf (boot_o_7 P)) (lf o11)) (.node (boot_o_5 P) (lf (boot_o_9 P)) (lf o13)))
 (.node (boot_o_2 P) (.node (boot_o_4 P) (lf (boot_o_8 P)) (lf o12)) (.node (boot_o_6 P) (lf (boot_o_10 P)) (lf o14)))
def S0(w:World)(os:OsState):Shared:=⟨boot_heap w.params,Array.mk [],boot_drawn,boot_toks,os⟩
def Sa(w:World)(os:OsState):Shared:=⟨⟨Array.mk [boot_o_0 w.params,boot_o_1 w.params,boot_o_2 w.params,boot_o_3 w.params,boot_o_4 w.params,boot_o_5 w.params,boot_o_6 w.params,boot_o_7 w.params,boot_o_8 w.params,boot_o_9 w.params,boot_o_10 w.params,o11,o12,o13,o14],{}⟩,Array.mk [],{},187,os⟩
def Sb(w:World)(os:OsState):SharedT:=⟨tr w.params,15,{},⟨[]⟩,{},187,os⟩
def env(p:Program):Env:={ scope:=p.main.scope,locals:=mainNs,globals:=mainNs,cells:=[],code:=.ref 13,frame:=some 14 }
def cE(p:Program):Code:=.body (behindTheImports p) (env p)
abbrev ann:Ω:=some (.ref 6)
abbrev B:List Frame:=[topFrame z]
theorem size(w:World):((boot_heap w.params).isNs mainGlobals&&(Array.mk [] : Array GenState).size==0,(boot_heap w.params).objs.size,(boot_heap w.params).nsMap mainGlobals "__annotations__")=(true,11,ann):=by
 rw[Fast.te8920871248978507458];kernel_rfl
def pL(p:Program)(w:World)(M:Nat)(S:SharedT)(l:List Stmt)(q:Pos)(G:Shared->Prop):Prop:=∃s,topRun treeTable p w 11 ann M S.abs (restOf l (env p) (cE p) q B)=some s/\G s
theorem pL.cut{p:Program}{w:World}{n M:Nat}{S S':SharedT}{l1 l2:List Stmt}{q q':Pos}{G:Shared->Prop}(h:segRunT treeTable p w 11 ann 1 n S (piecesOf l1 (env p) (cE p) q B)=some (.next,S',cE p,q'))(k:pL p w M S' l2 q' G):pL p w (n+M) S (l1++l2) q G :=
 let⟨s,a,b⟩:=k
 ⟨s,piece_app (segRun_of h) a,b⟩
theorem pL.cutAt{p:Program}{w:World}{n m M:Nat}{S S':SharedT}{l:List Stmt}{q q':Pos}{G:Shared->Prop}(h:segRunT treeTable p w 11 ann 1 n S (piecesOf (l.take m) (env p) (cE p) q B)=some (.next,S',cE p,q'))(k:pL p w M S' (l.drop m) q' G):pL p w (n+M) S l q G:=by
 have:=pL.cut h k;rwa[List.take_append_drop]at this
def Good{α:Type}(p q:Program)(loose:Φ)(Xt:Shared->Bool)(Yf:Shared->α)(Ya:World->α)(g0:Bool)(w:World)(s:Shared):Prop :=
 (staticsOk (importedModules p.main.body) (boot_heap w.params) s.heap&&namesBound p s.heap&&gensDone s&&laidKept (boot_heap w.params) s.heap,openSeen q loose (importedModules p.main.body) Xt g0 s,Yf s)=(true,openGood q loose,Ya w)
theorem pL.last{p q:Program}{loose:Φ}{Xt:Shared->Bool}{α:Type}{Yf:Shared->α}{Ya:World->α}{g0:Bool}{w:World}{n k:Nat}{S:SharedT}{l:List Stmt}{q0 e:Pos}
 (big:(segRunT treeTable p w 11 ann 1 n S (piecesOf l (env p) (cE p) q0 B)).map (λr =>
    (r.1,r.2.2.1,r.2.2.2,(topRun treeTable p w 11 ann k r.2.1.abs ⟨doneF .next,cE p,e,B⟩).map λs =>
     (staticsOk (importedModules p.main.body) (boot_heap w.params) s.heap&&namesBound p s.heap&&gensDone s&&laidKept (boot_heap w.params) s.heap,openSeen q loose (importedModules p.main.body) Xt g0 s,Yf s))) =
   some (.next,cE p,e,some (true,openGood q loose,Ya w))):pL p w (n+k) S l q0 (Good p q loose Xt Yf Ya g0 w):=by
 obtain⟨⟨f,sT,c,ps⟩,r1,r2⟩:=Option.map_eq_some_iff.mp big;obtain⟨rfl,rfl,rfl,r3⟩ : f=.next/\c=cE p/\ps=e/\_:=by simpa only[Prod.mk.injEq]using r2
 obtain⟨s,t1,t2⟩:=Option.map_eq_some_iff.mp r3;have q1:=piece_app (rest:=[]) (segRun_of r1) (piece_nil t1);rw[List.append_nil]at q1;exact⟨s,q1,t2⟩
theorem Za{p q:Program}{loose:Φ}{Xt:Shared->Bool}{α:Type}{Yf:Shared->α}{Ya:World->α}{N:Nat}{g0:Bool}{a b M:Nat}
 (ir:∀w:World,(fencedOpening treeTable p w N).map (λs=>(s.heap,s.gens,s.drawn,s.toks))=some (boot_heap w.params,Array.mk [],boot_drawn,boot_toks))
 (pre:∀w:World,(λos=>topGo treeTable p w 11 ann a (S0 w os) (topStub p))=λos=>some (Sa w os,⟨denote treeTable (cE p),cE p,z,B⟩))
 (block:∀w:World,(λos=>segRun treeTable p w 11 ann 1 b (Sa w os) (blockOf (behindTheImports p) (env p) (cE p) z B))=λos=>some (.next,(Sb w os).abs,cE p,z))
 (m4:∀(w:World)(os:OsState),pL p w M (Sb w os) (behindTheImports p) z (Good p q loose Xt Yf Ya g0 w))
 (le:Nat.ble (a+(b+M)) N=true):LeftO p q loose Xt Yf Ya N g0:=λw=>by
 obtain⟨⟨h,gs,d,ks,os⟩,e1,e2⟩:=Option.map_eq_some_iff.mp (ir w);obtain⟨rfl,rfl,rfl,rfl⟩ : h=boot_heap w.params/\gs=Array.mk []/\d=boot_drawn/\ks=boot_toks:=by simpa using e2
 obtain⟨z1,z2,z3⟩ : _/\_/\_:=by simpa only[Prod.mk.injEq]using size w
 obtain⟨s,q1,t2⟩:=m4 w os;obtain⟨l1,l2,l3⟩ : _/\_/\_:=by simpa only[Good,Prod.mk.injEq]using t2
 have q2:=go_top (congrFun (pre w) os) (piece_block (congrFun (block w) os) q1);have q3:=topRun_mono (N-(a+(b+M))) _ _ _ _ q2;rw[show a+(b+M)+(N-(a+(b+M)))=N by have:=U1 le;omega]at q3;have t:topFrom treeTable p w N ⟨boot_heap w.params,Array.mk [],boot_drawn,boot_toks,os⟩=some s:=by
  unfold topFrom;dsimp only;rw[z1,z2,z3,show topRun treeTable p w 11 ann N ⟨boot_heap w.params,Array.mk [],boot_drawn,boot_toks,os⟩ (topStub p)=some s from q3];show(match staticsOk (importedModules p.main.body) (boot_heap w.params) s.heap&&namesBound p s.heap&&gensDone s&&laidKept (boot_heap w.params) s.heap with|true=>_|false=>_)=_;rw[l1]
 unfold openEnds;rw[e1];show(topFrom treeTable p w N _).map _=_;rw[t];exact ZH some (Prod.ext l2 l3)
end
end L2.Once
namespace L2
open PySem
def j4(s:Stmt):Arguments:=match s with
 |.FunctionDef _ a _ _ _ _ _ _ _ _=>a
 |_=>{ posonlyargs:=[],args:=[],vararg:=none,kwonlyargs:=[],kw_defaults:=[],kwarg:=none,defaults:=[] }
def gk(s:Stmt):List Stmt:=match s with
 |.FunctionDef _ _ b _ _ _ _ _ _ _=>b
 |_=>[]
def bI(s:Stmt):Scope:=match s with
 |.FunctionDef _ _ _ _ _ _ sc _ _ _=>sc
 |_=>{ kind:=.function,names:=[],isGenerator:=false,isCoroutine:=false }
end L2
namespace K40
open PySem L2
def top(i:Nat):Stmt:=PySem.Challenge.pw_chancehall_k40_whole_nought_and_one.main.body.getD i (.Pass ⟨0,0,0,0⟩)
def gY(i j:Nat):Stmt:=match top i with|.ClassDef _ _ _ b _ _ _ _ _ _ _=>b.getD j (.Pass ⟨0,0,0,0⟩)|_=>.Pass ⟨0,0,0,0⟩
abbrev jq:Φ:=["thing"]
abbrev Vt:Φ:=jq
abbrev cM:Φ:=["one","other"]
abbrev M5:Φ:=cM.append ["left","right","rest"]
abbrev m_:Φ:=["top","bottom"]
abbrev RZ:Φ:=m_.append ["common"]
abbrev jM:Φ:=["thing"]
abbrev Bt:Φ:=jM.append ["top","bottom"]
abbrev C_:Φ:=["one","other"]
abbrev ag5:Φ:=C_
abbrev qz:Φ:=["one","other"]
abbrev adY:Φ:=qz
abbrev yO:Φ:=["one","other"]
abbrev ad4:Φ:=yO
abbrev CP:Φ:=["one","other"]
abbrev af9:Φ:=CP
abbrev oV:Φ:=["one","other"]
abbrev aek:Φ:=oV
abbrev oY:Φ:=["fractions"]
abbrev XQ:Φ:=oY.append ["bottom","one"]
abbrev yh:Φ:=["fractions"]
abbrev RN:Φ:=yh.append ["leveled"]
abbrev lV:Φ:=["fractions"]
abbrev ql:Φ:=lV.append ["found","one"]
abbrev uK:Φ:=["fractions"]
abbrev acO:Φ:=uK.append ["found","one"]
abbrev i_:Φ:=["hall"]
abbrev vd:Φ:=i_
abbrev jQ:Φ:=["offer","tops"]
abbrev kO:Φ:=jQ.append ["leveled"]
abbrev qe:Φ:=["tops","bottom"]
abbrev Vg:Φ:=qe.append ["common","top"]
abbrev mY:Φ:=["row","often"]
abbrev zj:Φ:=mY
abbrev oO:Φ:=["row","other","often"]
abbrev Ca:Φ:=oO.append ["bottom","common","own","added","tops"]
abbrev ni:Φ:=["leveled","step"]
abbrev zU:Φ:=ni.append ["row"]
abbrev jV:Φ:=["row","column"]
abbrev yH:Φ:=jV
abbrev iK:Φ:=["leveled"]
abbrev jP:Φ:=iK
abbrev kE:Φ:=["leveled","place","column"]
abbrev Dg:Φ:=kE.append ["row"]
abbrev uQ:Φ:=["leveled","steps","step"]
abbrev Qq:Φ:=uQ
abbrev mD:Φ:=["leveled","steps","place","found","column"]
abbrev GR:Φ:=mD.append ["first"]
abbrev iH:Φ:=["leveled","steps","place","column"]
abbrev yr:Φ:=iH.append ["row","often"]
abbrev rF:Φ:=["rows","wide"]
abbrev Ft:Φ:=rF.append ["leveled","steps","place","column","found"]
abbrev oN:Φ:=["rows"]
abbrev VF:Φ:=oN
abbrev jx:Φ:=["rows","rights"]
abbrev um:Φ:=jx
abbrev mQ:Φ:=["end","wide"]
abbrev xT:Φ:=mQ.append ["begins","row","columns"]
abbrev qL:Φ:=["end","begins","wide"]
abbrev Ge:Φ:=qL.append ["row"]
abbrev m7:Φ:=["end","begins","wide"]
abbrev GQ:Φ:=m7.append ["answer","row","column"]
abbrev jo:Φ:=["many"]
abbrev kj:Φ:=jo
abbrev jr:Φ:=["rows","rights"]
abbrev Bf:Φ:=jr.append ["wide","end","begins"]
abbrev cZ:Φ:=["hall","goals"]
abbrev vD:Φ:=cZ.append ["marks","goal"]
abbrev gw:Φ:=["hall","marks"]
abbrev qT:Φ:=gw.append ["told","room","goal","offered"]
abbrev qH:Φ:=["door","steps"]
abbrev Qj:Φ:=qH
abbrev iy:Φ:=["doors","steps"]
abbrev Ga:Φ:=iy
abbrev jw:Φ:=["doors","steps"]
abbrev Fw:Φ:=jw
abbrev fH:Φ:=["marks","leads","joins"]
abbrev qI:Φ:=fH.append ["steps","coming","many","room"]
abbrev iM:Φ:=["hall","goals"]
abbrev fK:Φ:=iM.append ["marks"]
abbrev iW:Φ:=["hall","goals"]
abbrev KC:Φ:=iW.append ["marks"]
abbrev rN:Φ:=["leads","lot"]
abbrev nZ:Φ:=rN
abbrev kJ:Φ:=["hall","goals"]
abbrev vN:Φ:=kJ.append ["marks","leads","lot","kept"]
abbrev jD:Φ:=["hall","goals"]
abbrev lB:Φ:=jD.append ["marks","leads","free"]
abbrev iI:Φ:=["hall","plan"]
abbrev qK:Φ:=iI
abbrev nF:Φ:=["share","chosen"]
abbrev GF:Φ:=nF.append ["rows","room","offer","behind","chance"]
abbrev lg:Φ:=["marks","chosen"]
abbrev iC:Φ:=lg.append ["leads","steps"]
abbrev iT:Φ:=["hall","marks","plan"]
abbrev qX:Φ:=iT.append ["rights"]
abbrev jL:Φ:=["seen","door","pick"]
abbrev uc:Φ:=jL.append ["best"]
abbrev jB:Φ:=["hall","marks","told","pick"]
abbrev uD:Φ:=jB.append ["tops","turned","room","door","offered"]
abbrev nR:Φ:=["hall","marks","plan","pick"]
abbrev Nx:Φ:=nR.append ["told","coming"]
abbrev iU:Φ:=["hall","marks"]
abbrev rH:Φ:=iU.append ["leads","steps","plan","room","doors"]
abbrev fj:Φ:=["hall","goals"]
abbrev Cg:Φ:=fj
abbrev gR:Φ:=["hall","goals"]
abbrev G3:Φ:=gR.append ["marks"]
abbrev lR:Φ:=["thing"]
abbrev Gh:Φ:=lR
abbrev iZ:Φ:=["name","pay"]
abbrev vX:Φ:=iZ
abbrev eE:Φ:=["room"]
abbrev CN:Φ:=eE
abbrev f9:Φ:=["chance"]
abbrev KQ:Φ:=f9
abbrev jz:Φ:=["pairs"]
abbrev tW:Φ:=jz.append ["room","chance"]
abbrev jy:Φ:=["pairs"]
abbrev Ay:Φ:=jy.append ["chances","room","chance"]
abbrev jF:Φ:=["share"]
abbrev Mj:Φ:=jF
abbrev lC:Φ:=["rooms"]
abbrev vU:Φ:=lC.append ["numbers","room","name"]
abbrev gK:Φ:=["door","numbers"]
abbrev wW:Φ:=gK.append ["numbered","name","chance"]
abbrev nu:Φ:=["doors","numbers"]
abbrev GD:Φ:=nu.append ["taken","told","door"]
abbrev Ai:Φ:=["_law_script","_law_k"]
abbrev Wt:Φ:=Ai
abbrev j6:Φ:=["_law_cell_here","_law_many"]
abbrev U8:Φ:=j6.append ["_law_found","_law_number","_law_digits","_law_k"]
abbrev Gd:Φ:=["_law_one","_law_other"]
abbrev afa:Φ:=Gd.append ["_law_low","_law_high"]
abbrev uM:Φ:=["_law_top","_law_bottom"]
abbrev UL:Φ:=uM.append ["_law_common"]
abbrev wZ:Φ:=["_law_cell_here","_law_many"]
abbrev v7:Φ:=wZ.append ["_law_letters","_law_xs","_law_base","_law_at","_law_step"]
abbrev Eo:Φ:=["_law_cell_here","_law_many"]
abbrev v8:Φ:=Eo.append ["_law_xs","_law_rooms","_law_pay","_law_pairs","_law_bottom","_law_part","_law_weights"]
abbrev xY:Φ:=["_law_script","_law_at","_law_many","_law_most"]
abbrev Rr:Φ:=xY.append ["_law_rooms","_law_first","_law_cells","_law_cell_here","_law_room"]
abbrev xM:Φ:=["_law_title","_law_door_here","_law_names_here"]
abbrev DQ:Φ:=xM.append ["_law_told","_law_sort","_law_pay","_law_pairs"]
abbrev Cz:Φ:=["_law_cell_here","_law_share","_law_rooms"]
abbrev W8:Φ:=Cz.append ["_law_names_here","_law_found","_law_k","_law_titles"]
abbrev Dr:Φ:=["_law_cell_here"]
abbrev Wy:Φ:=Dr.append ["_law_xs"]
abbrev zZ:Φ:=["_law_cell_here","_law_many"]
abbrev N5:Φ:=zZ.append ["_law_xs"]
abbrev xU:Φ:=["_law_found"]
abbrev Ej:Φ:=xU
abbrev jK:Φ:=["_law_found"]
abbrev Lz:Φ:=jK
abbrev mO:Φ:=["_law_found","_law_many"]
abbrev yQ:Φ:=mO
abbrev yX:Φ:=["_law_hall_here","_law_goals_here","_law_turn"]
abbrev Yk:Φ:=yX.append ["_law_found","_law_k","_law_which"]
abbrev zH:Φ:=["_law_found","_law_many"]
abbrev RV:Φ:=zH.append ["_law_k","_law_high","_law_fewest","_law_sure","_law_low","_law_forced","_law_fated"]
abbrev Ob:Φ:=["_law_script"]
abbrev ae6:Φ:=Ob.append ["_law_rooms","_law_share","_law_hall_here","_law_turn","_law_cell_here","_law_goals_here"]
abbrev jT:Φ:=["self","name","pay"]
abbrev zT:Φ:=jT
abbrev mX:Φ:=["self"]
abbrev Vd:Φ:=mX
abbrev CW:Φ:=["self","room"]
abbrev fJ:Φ:=CW
abbrev mK:Φ:=["self","name","pay","room"]
abbrev yR:Φ:=mK
abbrev gF:Φ:=["self","name","pay","pairs"]
abbrev vq:Φ:=gF
abbrev m5:Φ:=["self","name","pay","chance","room","other"]
abbrev Gy:Φ:=m5
abbrev m9:Φ:=["self","name","pay","rooms"]
abbrev yE:Φ:=m9
abbrev mW:Φ:=["self","share","rooms"]
abbrev w5:Φ:=mW
abbrev gB:Φ:=["self"]
abbrev U6:Φ:=gB
abbrev Mv:Φ:=["self","name"]
abbrev DR:Φ:=Mv
abbrev d8:Φ:=["self","room"]
abbrev Ey:Φ:=d8
abbrev Ht:Φ:=["self","room","name"]
abbrev zy:Φ:=Ht
abbrev eU:Φ:=["self","room"]
abbrev tL:Φ:=eU
end K40
namespace H40
open PySem PySem.W L2 L2.Once K40
abbrev p:Program:=PySem.Challenge.pw_chancehall_k40_whole_nought_and_one
noncomputable section
def dR(P:Params)(x:Str)(t m:Nat):DictEntry:=dE P x t (.ref m)
def wD(l:List DictEntry)(n:Nat):Obj:=⟨.type "dict",none,.dict ⟨l⟩ n,⟨[]⟩⟩
def i3(a b:Nat)(c:Nat)(l:Θ):Θ:=.int a 0::.int b 0::.ref c::l
def nd(o:Obj)(l r:BT):BT:=.node o l r
def n1(o x:Obj):BT:=.node o (lf x) .nil
def wA:Obj:=⟨.type "builtin_function_or_method",none,.fields ⟨[.builtin "type.__prepare__",.type "type"]⟩,⟨[]⟩⟩
def wB(n:Nat):Obj:=⟨.type "builtin_function_or_method",none,.fields ⟨[.builtin "object.__init_subclass__",.ref n]⟩,⟨[]⟩⟩
def wC(n:Str)(t l r u:Nat):Obj:=⟨.type "code",none,.fields ⟨[.str n t,.str n (t+1),.str "/claim/cut.py" (t+2),.int l 0,.int 0 0,.int 0 0,.int 0 0,.int 0 0,.ref r,.bool false,.int 181 0,.ref (r+1),.none,.none,.none,.none,.int u 0,.int l 0,.str "/claim/cut.py" (u+1)]⟩,⟨[]⟩⟩
def wF(c d:Nat)(n:Str)(t:Nat):Obj:=⟨.type "frame",none,.plain,⟨[some (.ref c),some (.ref 3),some (.ref d),none,some (.str n t),none,some (.ref 0)]⟩⟩
def wG(t n:Nat):Obj:=⟨.type "getset_descriptor",none,.fields ⟨[.str "__weakref__" t,.ref n,.builtin "ExceptionGroup.__weakref__",.none]⟩,⟨[]⟩⟩
def wK(n:Str)(b m:Θ)(d:Nat)(s:Θ)(o:Ω)(t u:Nat)(x:String):Obj:=⟨.type "type",none,.cls ⟨n,b,m,d,n,true,[],s,false,none,false⟩,⟨[o,none,some (.str n t),some (.str n u),some (.builtin x),some (.bool true)]⟩⟩
def wS(n:Nat):Obj:=⟨.type "super",none,.fields ⟨[.ref n,.ref n,.ref n]⟩,⟨[]⟩⟩
def wT(n:Nat):Obj:=⟨.type "tuple",none,.seq ⟨[.ref n]⟩ 0,⟨[]⟩⟩
def fO(n q:Str)(s:Stmt)(m:Value)(c:Nat):Obj:=⟨.type "function",none,.func (fnOf n q (j4 s) (gk s) (bI s) .none .none .none m none (.ref c) .none),⟨[]⟩⟩
def fT(n q:Str)(s:Stmt):Obj:=⟨.none,none,.func { fnOf n q (j4 s) (gk s) (bI s) .none .none .none .none none .none .none with globals:=0,builtins:=0 },⟨[]⟩⟩
def fV(n:Str)(k:Nat)(m:Value)(c:Nat):Obj:=fO n n (top k) m c
def fU(n:Str)(k:Nat):Obj:=fT n n (top k)
def cU(n:Str)(t:Nat)(l a f:Int)(r u:Nat):Obj:=cO n n t l a f r u
def cV(n:Str)(t:Nat)(l a f:Int)(r u:Nat):Obj:=cP n n t l a f r u
def dM(P:Params)(l:List (String×Nat×Nat)):List DictEntry:=l.map λx=>dR P (Str.ofString x.1) x.2.1 x.2.2
def dC(P:Params)(a:Nat)(m:Value)(n:Str)(l:Int)(r:List DictEntry):List DictEntry:=dE P "__module__" a m::dE P "__qualname__" (a+2) (.str n (a+1))::dE P "__firstlineno__" (a+4) (.int l (a+3))::r
def dF(P:Params)(a:Nat)(m:Value)(l:Int)(r:List DictEntry):List DictEntry:=dE P "__module__" a m::dE P "__firstlineno__" (a+4) (.int l (a+3))::r
def wX(n:Str)(c d o t u:Nat):Obj:=wK n [.ref 31] [.ref c,.ref 31,.type "ValueError",.type "Exception",.type "BaseException",.type "object"] d [] (some (.ref o)) t u "ValueError.__new__"
def mo0:Value:=.str "__main__" 164
def mo1:Value:=.str "chancehall.errors" 194
def mo2:Value:=.str "chancehall.wholes" 303
def mo3:Value:=.str "chancehall.ratios" 323
def mo4:Value:=.str "chancehall.levels" 389
def mo5:Value:=.str "chancehall.plans" 423
def mo6:Value:=.str "chancehall.papers" 437
def mo7:Value:=.str "chancehall.solving" 529
def mo8:Value:=.str "chancehall.ways" 589
def mo9:Value:=.str "chancehall.worths" 667
def Tw:Value:=.str "chancehall.goals" 688
def anc:Value:=.str "chancehall.words" 753
def rY:Value:=.str "chancehall.doors" 763
def Fb:Value:=.str "chancehall.halls" 950
def vp:Value:=.str "law_chancehall_k40_whole_nought_and_one" 1065
def ani(P:Params):Obj:=wD (dE P "__name__" 165 vp::dE P "__doc__" 166 .none::dE P "__package__" 167 .none::dE P "__loader__" 168 (.builtin "__main__.__loader__#opaque")::dE P "__spec__" 169 .none::dR P "__annotations__" 170 6::dR P "__builtins__" 171 4::dE P "__file__" 173 (.str "/claim/cut.py" 172)::dE P "__cached__" 174 .none::dM P [("_wall",193,21),("HallError",213,31),("NoNumber",229,44),("NoName",245,56),("NoChance",261,68),("NoShare",277,80),("NoRoom",302,99),("is_whole",311,108),("divisor",322,115),("NOUGHT",327,116),("ONE",330,117),("ratio",339,124),("is_ratio",348,131),("plus",356,138),("minus",364,145),("times",372,152),("over",380,159),("under",388,166),("level",396,171),("total",404,178),("greatest",413,185),("least",422,192),("first_plan",430,197),("behind_door",436,202),("lowest",444,207),("row_times",450,212),("row_plus",456,217),("take_step",465,224),("number_at",473,231),("fractions_of",479,236),("first_from",489,243),("go_on",498,250),("begin_row",510,257),("clear_column",522,264),("reduced",528,269),("width_of",537,276),("with_rights",543,281),("begins_of",549,286),("odd_row",559,293),("answer_of",571,300),("single_rows",577,305),("only_answer",588,312),("goal_marks",600,319),("leads_of",606,324),("meets",612,329),("by_some",618,334),("by_each",624,339),("steps_to",630,344),("fewest_steps",639,351),("forced_steps",648,358),("staying",654,363),("sure_rooms",660,368),("fated_rooms",666,373),("chosen_doors",674,378),("left_rows",687,385),("on_the_way",695,390),("plan_chances",701,395),("picked_door",711,402),("turned_plan",717,407),("settled",729,414),("keeping_plan",735,419),("greatest_chances",743,426),("least_chances",752,433)]++dE P "LONGEST_WORD" 756 (.int 8 755)::dM P [("is_word",762,438),("check_head",772,445),("check_room_name",779,452),("check_chance",786,459),("check_pairs",792,464),("joined_ways",798,469),("Door",845,500),("Sure",872,521),("Mixed",899,540),("Toss",927,559),("Even",949,576),("check_share",958,585),("numbers_of",968,592),("numbered_ways",979,599),("offers_of",990,606),("Hall",1064,661),("_law_cell",1074,672),("_law_stream",1086,679),("_law_gcd",1096,686),("_law_ratio",1105,693),("_law_names",1111,698),("_law_door",1117,703),("_law_doors",1123,708),("_law_built",1129,713),("_law_hall",1135,718),("_law_size",1143,725),("_law_goals",1149,730),("_law_whole",1156,737),("_law_is_fraction",1163,744),("_law_fractions",1169,749),("_law_asked",1181,756)]++[]) 104
def q21:Obj:=fV "_wall" 0 mo0 20
def q22:Obj:=⟨.type "tuple",none,.seq ⟨.type "ValueError"::[]⟩ 0,⟨[]⟩⟩
def q24(P:Params):Obj:=wD (dC P 203 mo1 "HallError" 5 <|dR P "__static_attributes__" 208 29::[]) 4
def q30(P:Params):Obj:=wD (dF P 203 mo1 5 <|dR P "__static_attributes__" 208 29::dR P "__weakref__" 210 32::dE P "__doc__" 211 .none::[]) 3
def q31:Obj:=wK "HallError" [.type "ValueError"] [.ref 31,.type "ValueError",.type "Exception",.type "BaseException",.type "object"] 30 [.ref 44,.ref 56,.ref 68,.ref 80,.ref 99] (some (.ref 22)) 196 204 "ValueError.__new__"
def q37(P:Params):Obj:=wD (dC P 221 mo1 "NoNumber" 7 <|dR P "__static_attributes__" 226 42::[]) 4
def q43(P:Params):Obj:=wD (dF P 221 mo1 7 <|dR P "__static_attributes__" 226 42::dE P "__doc__" 227 .none::[]) 2
def q44:Obj:=wX "NoNumber" 44 43 35 214 222
def q49(P:Params):Obj:=wD (dC P 237 mo1 "NoName" 9 <|dR P "__static_attributes__" 242 54::[]) 4
def q55(P:Params):Obj:=wD (dF P 237 mo1 9 <|dR P "__static_attributes__" 242 54::dE P "__doc__" 243 .none::[]) 2
def q56:Obj:=wX "NoName" 56 55 47 230 238
def q61(P:Params):Obj:=wD (dC P 253 mo1 "NoChance" 11 <|dR P "__static_attributes__" 258 66::[]) 4
def q67(P:Params):Obj:=wD (dF P 253 mo1 11 <|dR P "__static_attributes__" 258 66::dE P "__doc__" 259 .none::[]) 2
def q68:Obj:=wX "NoChance" 68 67 59 246 254
def q73(P:Params):Obj:=wD (dC P 269 mo1 "NoShare" 13 <|dR P "__static_attributes__" 274 78::[]) 4
def q79(P:Params):Obj:=wD (dF P 269 mo1 13 <|dR P "__static_attributes__" 274 78::dE P "__doc__" 275 .none::[]) 2
def q80:Obj:=wX "NoShare" 80 79 71 262 270
def q85(P:Params):Obj:=wD (dC P 285 mo1 "NoRoom" 15 <|dR P "__init__" 297 96::dR P "__static_attributes__" 299 97::[]) 5
def q95:Obj:=cO "__init__" "NoRoom.__init__" 290 17 2 3 90 295
def q96:Obj:=fO "__init__" "NoRoom.__init__" (gY 7 0) mo1 95
def q98(P:Params):Obj:=wD (dF P 285 mo1 15 <|dR P "__init__" 297 96::dR P "__static_attributes__" 299 97::dE P "__doc__" 300 .none::[]) 2
def q99:Obj:=wX "NoRoom" 99 98 83 278 286
def ahT:Obj:=fV "is_whole" 9 mo2 107
def ahN:Obj:=tN 315 M5
def aiP:Obj:=fV "divisor" 10 mo2 114
def ah5:Obj:=⟨.type "tuple",none,.seq ⟨.int 0 325::.int 1 326::[]⟩ 0,⟨[]⟩⟩
def aiF:Obj:=⟨.type "tuple",none,.seq ⟨.int 1 328::.int 1 329::[]⟩ 0,⟨[]⟩⟩
def akq:Obj:=fV "ratio" 14 mo3 123
def aic:Obj:=fV "is_ratio" 15 mo3 130
def ala:Obj:=fV "plus" 16 mo3 137
def ahC:Obj:=fV "minus" 17 mo3 144
def ajb:Obj:=fV "times" 18 mo3 151
def alF:Obj:=fV "over" 19 mo3 158
def alp:Obj:=fV "under" 20 mo3 165
def akU:Obj:=fV "level" 22 mo4 170
def aky:Obj:=fV "total" 23 mo4 177
def aiA:Obj:=fV "greatest" 24 mo4 184
def akf:Obj:=fV "least" 25 mo4 191
def alC:Obj:=cV "first_plan" 425 83 1 3 193 428
def ajX:Obj:=fV "first_plan" 27 mo5 196
def ajH:Obj:=cV "behind_door" 431 85 2 3 198 434
def aiY:Obj:=fV "behind_door" 28 mo5 201
def aj0:Obj:=fV "lowest" 30 mo6 206
def ahM:Obj:=cV "row_times" 445 94 2 3 208 448
def ajP:Obj:=fV "row_times" 31 mo6 211
def ak6:Obj:=fV "row_plus" 32 mo6 216
def ajU:Obj:=cU "take_step" 457 103 2 3 218 463
def ajA:Obj:=fV "take_step" 33 mo6 223
def aiN:Obj:=cU "number_at" 466 112 2 3 225 471
def ak2:Obj:=fV "number_at" 34 mo6 230
def ajL:Obj:=cV "fractions_of" 474 114 1 3 232 477
def aik:Obj:=fV "fractions_of" 35 mo6 235
def ajI:Obj:=tN 483 Dg
def alE:Obj:=cU "first_from" 480 116 3 3 237 487
def aly:Obj:=fV "first_from" 36 mo6 242
def aiI:Obj:=fV "go_on" 37 mo6 249
def alK:Obj:=tN 502 GR
def ahD:Obj:=cU "begin_row" 499 124 5 3 251 508
def ahV:Obj:=fV "begin_row" 38 mo6 256
def ail:Obj:=tN 514 yr
def ahK:Obj:=cU "clear_column" 511 130 4 3 258 520
def ah4:Obj:=fV "clear_column" 39 mo6 263
def ah0:Obj:=fV "reduced" 40 mo6 268
def alz:Obj:=cU "width_of" 531 147 1 3 270 535
def ajY:Obj:=fV "width_of" 42 mo7 275
def al8:Obj:=cV "with_rights" 538 151 2 3 277 541
def ahQ:Obj:=fV "with_rights" 43 mo7 280
def ah1:Obj:=cV "begins_of" 544 153 2 3 282 547
def aia:Obj:=fV "begins_of" 44 mo7 285
def akd:Obj:=fV "odd_row" 45 mo7 292
def ali:Obj:=tN 563 GQ
def ak0:Obj:=cU "answer_of" 560 165 3 3 294 569
def ako:Obj:=fV "answer_of" 46 mo7 299
def ajV:Obj:=cV "single_rows" 572 170 1 3 301 575
def ama:Obj:=fV "single_rows" 47 mo7 304
def aiy:Obj:=tN 581 Bf
def ai6:Obj:=cU "only_answer" 578 172 2 3 306 586
def ajR:Obj:=fV "only_answer" 48 mo7 311
def ak8:Obj:=cU "goal_marks" 591 180 2 3 313 598
def aji:Obj:=fV "goal_marks" 50 mo8 318
def alR:Obj:=cV "leads_of" 601 186 2 3 320 604
def alQ:Obj:=fV "leads_of" 51 mo8 323
def ajk:Obj:=fV "meets" 52 mo8 328
def akX:Obj:=fV "by_some" 53 mo8 333
def aiJ:Obj:=fV "by_each" 54 mo8 338
def ahY:Obj:=cV "steps_to" 625 198 3 3 340 628
def al0:Obj:=fV "steps_to" 55 mo8 343
def aiW:Obj:=cU "fewest_steps" 631 208 2 3 345 637
def alh:Obj:=fV "fewest_steps" 56 mo8 350
def ale:Obj:=cU "forced_steps" 640 211 2 3 352 646
def akg:Obj:=fV "forced_steps" 57 mo8 357
def aiL:Obj:=fV "staying" 58 mo8 362
def aiv:Obj:=cV "sure_rooms" 655 216 2 3 364 658
def aiC:Obj:=fV "sure_rooms" 59 mo8 367
def alU:Obj:=cV "fated_rooms" 661 225 2 3 369 664
def akH:Obj:=fV "fated_rooms" 60 mo8 372
def aiB:Obj:=cV "chosen_doors" 669 231 2 3 374 672
def ai0:Obj:=fV "chosen_doors" 62 mo9 377
def aij:Obj:=tN 678 GF
def akM:Obj:=cU "left_rows" 675 233 2 3 379 685
def akW:Obj:=fV "left_rows" 63 mo9 384
def aj4:Obj:=cV "on_the_way" 690 241 2 3 386 693
def alj:Obj:=fV "on_the_way" 65 Tw 389
def alv:Obj:=cV "plan_chances" 696 245 3 3 391 699
def ah2:Obj:=fV "plan_chances" 66 Tw 394
def aku:Obj:=cU "picked_door" 702 248 3 3 396 709
def akc:Obj:=fV "picked_door" 67 Tw 401
def ajm:Obj:=cV "turned_plan" 712 253 4 3 403 715
def alH:Obj:=fV "turned_plan" 68 Tw 406
def ai5:Obj:=tN 721 Nx
def alx:Obj:=fV "settled" 69 Tw 413
def aln:Obj:=cV "keeping_plan" 730 267 2 3 415 733
def ahE:Obj:=fV "keeping_plan" 70 Tw 418
def ahR:Obj:=cU "greatest_chances" 736 275 2 3 420 741
def ak9:Obj:=fV "greatest_chances" 71 Tw 425
def aiM:Obj:=cU "least_chances" 744 277 2 3 427 750
def ajz:Obj:=fV "least_chances" 72 Tw 432
def akx:Obj:=fV "is_word" 75 anc 437
def ajf:Obj:=cU "check_head" 765 287 2 3 439 770
def alD:Obj:=fV "check_head" 77 rY 444
def ajq:Obj:=cU "check_room_name" 773 292 1 3 446 777
def akr:Obj:=fV "check_room_name" 78 rY 451
def ahU:Obj:=cU "check_chance" 780 295 1 3 453 784
def akp:Obj:=fV "check_chance" 79 rY 458
def alI:Obj:=cV "check_pairs" 787 298 1 3 460 790
def ajJ:Obj:=fV "check_pairs" 80 rY 463
def ak3:Obj:=cV "joined_ways" 793 304 1 3 465 796
def ai7:Obj:=fV "joined_ways" 81 rY 468
def amF(P:Params):Obj:=wD (dC P 806 rY "Door" 309 <|dM P [("__init__",819,483),("ways",826,490),("chance_to",834,497),("__static_attributes__",838,498)]++[]) 7
def ajg:Obj:=cO "__init__" "Door.__init__" 811 311 3 3 477 817
def ahH:Obj:=fO "__init__" "Door.__init__" (gY 82 0) rY 482
def ajZ:Obj:=fO "ways" "Door.ways" (gY 82 1) rY 489
def ain:Obj:=cO "chance_to" "Door.chance_to" 827 320 2 3 491 832
def ajc:Obj:=fO "chance_to" "Door.chance_to" (gY 82 2) rY 496
def ajy(P:Params):Obj:=wD (dF P 806 rY 309 <|dM P [("__init__",819,483),("ways",826,490),("chance_to",834,497),("__static_attributes__",838,498),("__dict__",840,501),("__weakref__",842,502)]++dE P "__doc__" 843 .none::[]) 4
def ais:Obj:=wK "Door" [.type "object"] [.ref 500,.type "object"] 499 [.ref 521,.ref 540] none 799 807 "object.__new__"
def ajd:Obj:=⟨.type "getset_descriptor",none,.fields ⟨.str "__dict__" 839::.ref 500::.builtin "function.__dict__"::.builtin "function.__dict__#set"::[]⟩,⟨[]⟩⟩
def amm(P:Params):Obj:=wD (dC P 853 rY "Sure" 322 <|dR P "__init__" 867 518::dR P "__static_attributes__" 869 519::[]) 5
def akV:Obj:=cO "__init__" "Sure.__init__" 858 324 4 3 512 865
def aj1:Obj:=fO "__init__" "Sure.__init__" (gY 83 0) rY 517
def aiQ(P:Params):Obj:=wD (dF P 853 rY 322 <|dR P "__init__" 867 518::dR P "__static_attributes__" 869 519::dE P "__doc__" 870 .none::[]) 2
def alf:Obj:=wK "Sure" [.ref 500] [.ref 521,.ref 500,.type "object"] 520 [] (some (.ref 505)) 846 854 "object.__new__"
def anA(P:Params):Obj:=wD (dC P 880 rY "Mixed" 328 <|dR P "__init__" 894 537::dR P "__static_attributes__" 896 538::[]) 5
def akY:Obj:=cO "__init__" "Mixed.__init__" 885 330 4 3 531 892
def ajv:Obj:=fO "__init__" "Mixed.__init__" (gY 84 0) rY 536
def ajn(P:Params):Obj:=wD (dF P 880 rY 328 <|dR P "__init__" 894 537::dR P "__static_attributes__" 896 538::dE P "__doc__" 897 .none::[]) 2
def ahI:Obj:=wK "Mixed" [.ref 500] [.ref 540,.ref 500,.type "object"] 539 [.ref 559,.ref 576] (some (.ref 524)) 873 881 "object.__new__"
def amJ(P:Params):Obj:=wD (dC P 907 rY "Toss" 334 <|dR P "__init__" 923 556::dR P "__static_attributes__" 924 557::[]) 5
def ahB:Obj:=tN 915 Gy
def akF:Obj:=cO "__init__" "Toss.__init__" 912 336 6 3 550 921
def ajN:Obj:=fO "__init__" "Toss.__init__" (gY 85 0) rY 555
def aiT(P:Params):Obj:=wD (dF P 907 rY 334 <|dR P "__init__" 923 556::dR P "__static_attributes__" 924 557::dE P "__doc__" 925 .none::[]) 2
def akj:Obj:=wK "Toss" [.ref 540] [.ref 559,.ref 540,.ref 500,.type "object"] 558 [] (some (.ref 543)) 900 908 "object.__new__"
def amy(P:Params):Obj:=wD (dC P 935 rY "Even" 340 <|dR P "__init__" 945 573::dR P "__static_attributes__" 946 574::[]) 5
def alG:Obj:=cP "__init__" "Even.__init__" 940 342 4 3 569 943
def ah3:Obj:=fO "__init__" "Even.__init__" (gY 86 0) rY 572
def ahS(P:Params):Obj:=wD (dF P 935 rY 340 <|dR P "__init__" 945 573::dR P "__static_attributes__" 946 574::dE P "__doc__" 947 .none::[]) 2
def alM:Obj:=wK "Even" [.ref 540] [.ref 576,.ref 540,.ref 500,.type "object"] 575 [] (some (.ref 562)) 928 936 "object.__new__"
def ahF:Obj:=cU "check_share" 952 345 1 3 579 956
def alZ:Obj:=fV "check_share" 88 Fb 584
def ah8:Obj:=cU "numbers_of" 959 348 1 3 586 966
def aio:Obj:=fV "numbers_of" 89 Fb 591
def akC:Obj:=tN 972 wW
def aip:Obj:=cU "numbered_ways" 969 356 2 3 593 977
def al9:Obj:=fV "numbered_ways" 90 Fb 598
def aj6:Obj:=tN 983 GD
def akA:Obj:=cU "offers_of" 980 363 2 3 600 988
def ajQ:Obj:=fV "offers_of" 91 Fb 605
def anf(P:Params):Obj:=wD (dC P 998 Fb "Hall" 372 <|dM P [("__init__",1008,618),("size",1015,625),("names",1022,632),("place",1030,639),("check_room",1038,646),("door_at",1047,653),("offers",1053,658),("__static_attributes__",1057,659)]++[]) 11
def alg:Obj:=cP "__init__" "Hall.__init__" 1003 374 3 3 614 1006
def ah7:Obj:=fO "__init__" "Hall.__init__" (gY 92 0) Fb 617
def ajw:Obj:=fO "size" "Hall.size" (gY 92 1) Fb 624
def alA:Obj:=cO "names" "Hall.names" 1016 383 1 3 626 1020
def akt:Obj:=fO "names" "Hall.names" (gY 92 2) Fb 631
def alV:Obj:=cO "place" "Hall.place" 1023 386 2 3 633 1028
def akm:Obj:=fO "place" "Hall.place" (gY 92 3) Fb 638
def aiR:Obj:=cO "check_room" "Hall.check_room" 1031 391 2 3 640 1036
def ajx:Obj:=fO "check_room" "Hall.check_room" (gY 92 4) Fb 645
def akG:Obj:=cO "door_at" "Hall.door_at" 1039 395 3 3 647 1045
def aiV:Obj:=fO "door_at" "Hall.door_at" (gY 92 5) Fb 652
def aj3:Obj:=cP "offers" "Hall.offers" 1048 398 2 3 654 1051
def aiq:Obj:=fO "offers" "Hall.offers" (gY 92 6) Fb 657
def akE(P:Params):Obj:=wD (dF P 998 Fb 372 <|dM P [("__init__",1008,618),("size",1015,625),("names",1022,632),("place",1030,639),("check_room",1038,646),("door_at",1047,653),("offers",1053,658),("__static_attributes__",1057,659),("__dict__",1059,662),("__weakref__",1061,663)]++dE P "__doc__" 1062 .none::[]) 4
def aif:Obj:=wK "Hall" [.type "object"] [.ref 661,.type "object"] 660 [] none 991 999 "object.__new__"
def alJ:Obj:=⟨.type "getset_descriptor",none,.fields ⟨.str "__dict__" 1058::.ref 661::.builtin "function.__dict__"::.builtin "function.__dict__#set"::[]⟩,⟨[]⟩⟩
def akP:Obj:=cU "_law_cell" 1067 402 2 3 666 1072
def ahX:Obj:=fV "_law_cell" 94 vp 671
def ajh:Obj:=tN 1078 U8
def alY:Obj:=cU "_law_stream" 1075 404 2 3 673 1084
def aiZ:Obj:=fV "_law_stream" 95 vp 678
def aiK:Obj:=tN 1090 afa
def akb:Obj:=cU "_law_gcd" 1087 415 2 3 680 1094
def akZ:Obj:=fV "_law_gcd" 96 vp 685
def aiz:Obj:=tN 1100 UL
def ajj:Obj:=cU "_law_ratio" 1097 420 2 3 687 1103
def ajp:Obj:=fV "_law_ratio" 97 vp 692
def aiH:Obj:=cV "_law_names" 1106 423 2 3 694 1109
def aiE:Obj:=fV "_law_names" 98 vp 697
def ajC:Obj:=cV "_law_door" 1112 432 2 3 699 1115
def alL:Obj:=fV "_law_door" 99 vp 702
def al6:Obj:=cV "_law_doors" 1118 449 4 3 704 1121
def al2:Obj:=fV "_law_doors" 100 vp 707
def ahO:Obj:=cV "_law_built" 1124 459 3 3 709 1127
def aii:Obj:=fV "_law_built" 101 vp 712
def aib:Obj:=cV "_law_hall" 1130 469 3 3 714 1133
def alb:Obj:=fV "_law_hall" 102 vp 717
def aix:Obj:=cU "_law_size" 1136 476 1 3 719 1141
def ajE:Obj:=fV "_law_size" 103 vp 724
def ak7:Obj:=cV "_law_goals" 1144 483 2 3 726 1147
def alS:Obj:=fV "_law_goals" 104 vp 729
def ai2:Obj:=cU "_law_whole" 1150 488 1 3 731 1154
def air:Obj:=fV "_law_whole" 105 vp 736
def akk:Obj:=cU "_law_is_fraction" 1157 490 1 3 738 1161
def alN:Obj:=fV "_law_is_fraction" 106 vp 743
def akD:Obj:=cV "_law_fractions" 1164 496 2 3 745 1167
def aj2:Obj:=fV "_law_fractions" 107 vp 748
def ahZ:Obj:=tN 1173 Yk
def akJ:Obj:=cU "_law_asked" 1170 500 3 3 750 1179
def alu:Obj:=fV "_law_asked" 108 vp 755
def tr1(P:Params):BT:=nd (boot_o_0 P) (nd (boot_o_1 P) (nd (ani P) (nd (boot_o_7 P) (nd tE (nd q31 (nd fE (nd (tN 343 Bt) (n1 (fU "begin_row" 38) (wF 510 507 "chancehall.doors" 763)) (n1 (fU "left_rows" 63) akm)) (nd (cU "least" 414 76 1 3 186 420) (n1 aji (ahS P)) (n1 fE alL))) (nd q95 (nd alF (n1 tE (wT 540)) (n1 tE akP)) (nd ajU (n1 alh tE) (n1 (tN 814 zT) (fU "_law_whole" 105))))) (nd (wT 31) (nd (q79 P) (nd (fU "minus" 17) (n1 fE tE) (n1 tE fE)) (nd aj0 (n1 tE ah8) (n1 alI tE))) (nd ahN (nd tE (n1 (fU "single_rows" 47) akj) (n1 (fU "least_chances" 72) tE)) (nd ajI (n1 aiv (fT "size" "Hall.size" (gY 92 1))) (n1 (fT "chance_to" "Door.chance_to" (gY 82 2)) fE))))) (nd wA (nd fE (nd (wT 31) (nd tE (n1 ahK (tN 868 ["leads"])) (n1 tE tE)) (nd fE (n1 (fU "meets" 52) (fU "check_share" 88)) (n1 (tN 783 ["chance"]) (fU "_law_built" 101)))) (nd fE (nd tE (n1 fE fE) (n1 tE aiZ)) (nd ak2 (n1 tE fE) (n1 tE akk)))) (nd (q55 P) (nd (⟨.none,none,.fields ⟨i3 17 4 95 <|[]⟩,⟨[]⟩⟩) (nd (cU "times" 365 55 2 3 146 370) (n1 (fU "with_rights" 43) (fT "__init__" "Mixed.__init__" (gY 84 0))) (n1 alH (wG 1060 661))) (nd (fU "row_plus" 32) (n1 ahY al9) (n1 wA fE))) (nd fE (nd (fU "greatest" 24) (n1 ai6 (wC "Even" 930 340 565 933)) (n1 tE fE)) (nd tE (n1 fE alA) (lf (wS 500))))))) (nd o11 (nd (fU "_wall" 0) (nd (wT 31) (nd (q67 P) (nd aic (n1 fE tE) (n1 fE tE)) (nd (fU "first_plan" 27) (n1 alR tE) (n1 ajq al6))) (nd q99 (nd tE (n1 (fU "odd_row" 45) (⟨.none,none,.fields ⟨i3 336 4 555 <|[]⟩,⟨[]⟩⟩)) (n1 ahE ajh)) (nd (tN 469 yH) (n1 tE (⟨.none,none,.fields ⟨i3 374 4 617 <|i3 380 4 624 <|i3 383 4 631 <|i3 386 4 638 <|i3 391 4 645 <|i3 395 4 652 <|i3 398 4 657 <|[]⟩,⟨[]⟩⟩)) (n1 ahH fE)))) (nd fE (nd (wT 31) (nd fE (n1 alz tE) (n1 tE (tN 1054 ["numbers","offered","share"]))) (nd ahM (n1 aiJ akC) (n1 (fU "joined_ways" 81) (fU "_law_size" 103)))) (nd aiP (nd tE (n1 fE wA) (n1 fE (fU "_law_ratio" 97))) (nd aly (n1 (fU "fated_rooms" 60) fE) (n1 (ajy P) akJ))))) (nd (wC "HallError" 198 5 25 201) (nd (q43 P) (nd fE (nd tE (n1 (fU "reduced" 40) (wB 521)) (n1 ah2 (fT "door_at" "Hall.door_at" (gY 92 5)))) (nd tE (n1 fE fE) (n1 akp fE))) (nd (cU "is_whole" 305 21 1 3 102 309) (nd akU (n1 ak0 akF) (n1 tE tE)) (nd ajL (n1 aiL tE) (n1 tE (fU "_law_fractions" 107))))) (nd (wT 31) (nd fE (nd (tN 376 cM) (n1 fE (ajn P)) (n1 tE fE)) (nd fE (n1 (tN 634 fK) tE) (n1 (wC "Door" 801 309 473 804) tE))) (nd (cU "ratio" 331 34 2 3 118 337) (nd fE (n1 (tN 594 vD) (fT "__init__" "Even.__init__" (gY 86 0))) (n1 (fU "check_head" 77) tE)) (nd tE (n1 tE (tN 1026 DR)) (lf (amm P)))))))) (nd (boot_o_5 P) (nd (boot_o_9 P) (nd (tN 190 ["k"]) (nd (wS 31) (nd (wF 64 61 "chancehall.errors" 194) (nd (fU "is_ratio" 15) (n1 ahV fE) (n1 akW fE)) (nd tE (n1 fE (wS 576)) (n1 tE fE))) (nd (tN 298 ["room"]) (nd fE (n1 (tN 553 Ge) (amJ P)) (n1 (fU "keeping_plan" 70) tE)) (nd tE (n1 fE (anf P)) (n1 (fT "__init__" "Door.__init__" (gY 82 0)) air)))) (nd (q49 P) (nd (wS 80) (nd ahC (n1 tE (wC "Mixed" 875 328 527 878)) (n1 aku aj3)) (nd fE (n1 (fU "by_each" 54) tE) (n1 tE (tN 1139 Wy)))) (nd (fU "divisor" 10) (nd (cU "total" 397 67 1 3 172 402) (n1 ama (wB 559)) (n1 ajz aiz)) (nd (fU "first_from" 36) (n1 tE ajw) (n1 ajc tE))))) (nd tE (nd (wF 40 37 "chancehall.errors" 194) (nd (q73 P) (nd (cU "plus" 349 51 2 3 132 354) (n1 tE alf) (n1 (fU "plan_chances" 66) (tN 1042 zy))) (nd ajH (n1 ajk alZ) (n1 (fU "check_chance" 79) aii))) (nd tE (nd (fU "level" 22) (n1 tE tE) (n1 ahR fE)) (nd fE (n1 (fU "staying" 58) alg) (n1 (cO "ways" "Door.ways" 820 317 1 3 484 824) tE)))) (nd (wS 56) (nd (wF 88 85 "chancehall.errors" 194) (nd tE (n1 ahQ ajv) (n1 fE (wB 661))) (nd ak6 (n1 tE fE) (n1 tE ak7))) (nd tE (nd aiA (n1 tE tE) (n1 (tN 768 vX) aiH)) (nd (cU "go_on" 490 121 3 3 244 496) (n1 aiB tE) (lf (wT 500))))))) (nd o13 (nd q21 (nd (q37 P) (nd (wS 68) (nd fE (n1 tE akV) (n1 aj4 aiR)) (nd ajX (n1 tE (tN 955 ["share"])) (n1 tE tE))) (nd (wB 99) (nd (cU "under" 381 59 2 3 160 386) (n1 akd (wF 548 545 "chancehall.doors" 763)) (n1 fE (fU "_law_stream" 95))) (nd (fU "number_at" 34) (n1 ale (wF 612 609 "chancehall.halls" 950)) (n1 fE tE)))) (nd (wF 52 49 "chancehall.errors" 194) (nd (q85 P) (nd tE (n1 tE (tN 888 vq)) (n1 (fU "turned_plan" 68) aif)) (nd tE (n1 fE (fU "numbered_ways" 90)) (n1 ai7 ajE))) (nd aiF (nd (tN 408 ql) (n1 tE tE) (n1 (cV "is_word" 757 282 1 3 434 760) ajp)) (nd fE (n1 akH tE) (lf ajd))))) (nd tE (nd (wS 44) (nd (wF 76 73 "chancehall.errors" 194) (nd (tN 360 cM) (n1 ah0 wA) (n1 fE aiV)) (nd (fU "lowest" 30) (n1 (cV "by_some" 613 194 2 3 330 616) tE) (n1 fE aib))) (nd tE (nd fE (n1 tE tE) (n1 (tN 747 fK) akb)) (nd tE (n1 fE (tN 1012 ["self"])) (n1 (tN 830 fJ) aj2)))) (nd (q61 P) (nd tE (nd (fU "over" 19) (n1 ah1 (wS 540)) (n1 (cU "settled" 718 260 4 3 408 727) tE)) (nd tE (n1 (fU "fewest_steps" 56) akA) (n1 tE (tN 1153 Ej)))) (nd tE (nd tE (n1 (fU "goal_marks" 50) ah3) (n1 alD (fU "_law_door" 99))) (nd alK (n1 aij (fT "place" "Hall.place" (gY 92 3))) (lf (⟨.none,none,.fields ⟨i3 324 4 517 <|[]⟩,⟨[]⟩⟩))))))))) (nd (boot_o_2 P) (nd (boot_o_4 P) (nd (boot_o_8 P) (nd fE (nd (wG 209 31) (nd (wC "NoChance" 248 11 62 251) (nd tE (n1 ahD tE) (n1 akM tE)) (nd akf (n1 tE alM) (n1 (tN 776 ["room"]) tE))) (nd q96 (nd tE (n1 fE wA) (n1 fE ahX)) (nd ajA (n1 tE wA) (n1 tE ai2)))) (nd wA (nd q80 (nd (cU "minus" 357 53 2 3 139 362) (n1 (tN 534 ["rows"]) (⟨.none,none,.fields ⟨i3 330 4 536 <|[]⟩,⟨[]⟩⟩)) (n1 (fU "picked_door" 67) (fT "offers" "Hall.offers" (gY 92 6)))) (nd tE (n1 fE aio) (n1 ajJ fE))) (nd tE (nd (fU "total" 23) (n1 ajV (wS 559)) (n1 aiM fE)) (nd tE (n1 aiC (cO "size" "Hall.size" 1009 380 1 3 619 1013)) (n1 ain ahZ))))) (nd (q24 P) (nd (wC "NoNumber" 216 7 38 219) (nd wA (nd (fU "plus" 16) (n1 ah4 (aiQ P)) (n1 fE fE)) (nd (fU "behind_door" 28) (n1 (cV "meets" 607 192 2 3 325 610) ahF) (n1 tE ahO))) (nd (tN 308 ["thing"]) (nd fE (n1 ali ahB) (n1 (fU "greatest_chances" 71) tE)) (nd tE (n1 fE (fT "__init__" "Hall.__init__" (gY 92 0))) (n1 (fT "ways" "Door.ways" (gY 82 1)) alN)))) (nd q56 (nd (wC "NoRoom" 280 15 86 283) (nd ajb (n1 al8 akY) (n1 tE (wS 661))) (nd (cV "row_plus" 451 96 3 3 213 454) (n1 al0 tE) (n1 (amF P) (fU "_law_goals" 104)))) (nd (tN 334 RZ) (nd (cU "greatest" 405 70 1 3 179 411) (n1 ajR (wF 567 564 "chancehall.doors" 763)) (n1 fE (fU "_law_names" 98))) (nd (fU "go_on" 37) (n1 (fU "chosen_doors" 62) akt) (lf (wB 500))))))) (nd (⟨.none,none,.fields ⟨i3 1 0 20 <|i3 5 0 27 <|i3 7 0 40 <|i3 9 0 52 <|i3 11 0 64 <|i3 13 0 76 <|i3 15 0 88 <|i3 21 0 107 <|i3 23 0 114 <|i3 34 0 123 <|i3 43 0 130 <|i3 51 0 137 <|i3 53 0 144 <|i3 55 0 151 <|i3 57 0 158 <|i3 59 0 165 <|i3 62 0 170 <|i3 67 0 177 <|i3 70 0 184 <|i3 76 0 191 <|i3 83 0 196 <|i3 85 0 201 <|i3 89 0 206 <|i3 94 0 211 <|i3 96 0 216 <|i3 103 0 223 <|i3 112 0 230 <|i3 114 0 235 <|i3 116 0 242 <|i3 121 0 249 <|i3 124 0 256 <|i3 130 0 263 <|i3 135 0 268 <|i3 147 0 275 <|i3 151 0 280 <|i3 153 0 285 <|i3 160 0 292 <|i3 165 0 299 <|i3 170 0 304 <|i3 172 0 311 <|i3 180 0 318 <|i3 186 0 323 <|i3 192 0 328 <|i3 194 0 333 <|i3 196 0 338 <|i3 198 0 343 <|i3 208 0 350 <|i3 211 0 357 <|i3 214 0 362 <|i3 216 0 367 <|i3 225 0 372 <|i3 231 0 377 <|i3 233 0 384 <|i3 241 0 389 <|i3 245 0 394 <|i3 248 0 401 <|i3 253 0 406 <|i3 260 0 413 <|i3 267 0 418 <|i3 275 0 425 <|i3 277 0 432 <|i3 282 0 437 <|i3 287 0 444 <|i3 292 0 451 <|i3 295 0 458 <|i3 298 0 463 <|i3 304 0 468 <|i3 309 0 475 <|i3 322 0 510 <|i3 328 0 529 <|i3 334 0 548 <|i3 340 0 567 <|i3 345 0 584 <|i3 348 0 591 <|i3 356 0 598 <|i3 363 0 605 <|i3 372 0 612 <|i3 402 0 671 <|i3 404 0 678 <|i3 415 0 685 <|i3 420 0 692 <|i3 423 0 697 <|i3 432 0 702 <|i3 449 0 707 <|i3 459 0 712 <|i3 469 0 717 <|i3 476 0 724 <|i3 483 0 729 <|i3 488 0 736 <|i3 490 0 743 <|i3 496 0 748 <|i3 500 0 755 <|[]⟩,⟨[]⟩⟩) (nd (cU "_wall" 187 1 1 3 15 191) (nd wA (nd q68 (nd tE (n1 ail (fT "__init__" "Sure.__init__" (gY 83 0))) (n1 (fU "on_the_way" 65) (fT "check_room" "Hall.check_room" (gY 92 4)))) (nd alC (n1 alQ fE) (n1 akr al2))) (nd (wS 99) (nd (fU "under" 20) (n1 (cU "odd_row" 550 160 3 3 287 557) (wC "Toss" 902 334 546 905)) (n1 tE tE)) (nd tE (n1 (fU "forced_steps" 57) (wC "Hall" 993 372 610 996)) (n1 tE (tN 1160 Ej))))) (nd (wC "NoName" 232 9 50 235) (nd wA (nd (tN 368 cM) (n1 ajY fE) (n1 fE (akE P))) (nd ajP (n1 tE tE) (n1 ak3 aix))) (nd ah5 (nd fE (n1 aiy (amy P)) (n1 (fU "is_word" 75) ajj)) (nd tE (n1 alU (tN 1019 ["self"])) (n1 ais alu))))) (nd (wF 27 24 "chancehall.errors" 194) (nd q44 (nd (wC "NoShare" 264 13 74 267) (nd fE (n1 (cV "reduced" 523 135 2 3 265 526) (wT 500)) (n1 tE akG)) (nd fE (n1 (fU "by_some" 53) (tN 962 vU)) (n1 tE (fU "_law_hall" 102)))) (nd ahT (nd tE (n1 ako ajN) (n1 fE (fU "_law_gcd" 96))) (nd aik (n1 tE fE) (n1 fE akD)))) (nd wA (nd (tN 293 fJ) (nd tE (n1 (fU "begins_of" 44) ahI) (n1 (fU "settled" 69) (tN 1070 Wt))) (nd (tN 460 zU) (n1 tE (fU "offers_of" 91)) (n1 (wF 475 472 "chancehall.doors" 763) fE))) (nd akq (nd (tN 417 ql) (n1 tE alG) (n1 ajf fE)) (nd fE (n1 fE tE) (lf tE))))))) (nd (boot_o_6 P) (nd (boot_o_10 P) (nd tE (nd (wB 31) (nd tE (nd (cU "is_ratio" 340 43 1 3 125 346) (n1 tE (tN 861 yR)) (n1 tE (tN 1034 fJ))) (nd fE (n1 (fU "leads_of" 51) (wB 576)) (n1 (fU "check_room_name" 78) (fU "_law_doors" 100)))) (nd (q98 P) (nd (tN 384 cM) (n1 tE tE) (n1 aln fE)) (nd fE (n1 (tN 643 fK) tE) (n1 ajg tE)))) (nd tE (nd (wB 80) (nd tE (n1 (fU "width_of" 42) (wF 529 526 "chancehall.doors" 763)) (n1 akc aiq)) (nd (fU "row_times" 31) (n1 (cV "by_each" 619 196 2 3 335 622) fE) (n1 fE tE))) (nd (cU "divisor" 312 23 2 3 109 320) (nd aky (n1 tE (wT 540)) (n1 tE tE)) (nd alE (n1 fE tE) (n1 (tN 835 ["leads","name","pay"]) (fU "_law_asked" 108)))))) (nd fE (nd tE (nd tE (nd ala (n1 fE (wS 521)) (n1 alv tE)) (nd aiY (n1 tE tE) (n1 ahU tE))) (nd (fU "is_whole" 9) (nd (cV "level" 391 62 1 3 167 394) (n1 (fU "answer_of" 46) (fT "__init__" "Toss.__init__" (gY 85 0))) (n1 ak9 aiK)) (nd (fU "fractions_of" 35) (n1 (cV "staying" 649 214 2 3 359 652) ah7) (n1 ajZ fE)))) (nd (wB 56) (nd tE (nd fE (n1 tE (tN 895 ["leads"])) (n1 ai5 tE)) (nd tE (n1 fE aj6) (n1 (⟨.none,none,.fields ⟨i3 311 4 482 <|i3 317 4 489 <|i3 320 4 496 <|[]⟩,⟨[]⟩⟩) alS))) (nd (fU "ratio" 14) (nd tE (n1 fE fE) (n1 tE aiE)) (nd aiI (n1 ai0 fE) (lf wA)))))) (nd o14 (nd q22 (nd tE (nd (wB 68) (nd (tN 352 cM) (n1 (fU "clear_column" 39) aj1) (n1 alj ajx)) (nd tE (n1 fE tE) (n1 fE fE))) (nd tE (nd alp (n1 tE tE) (n1 (tN 739 cZ) alY)) (nd aiN (n1 akg tE) (n1 (tN 823 ["self"]) (fU "_law_is_fraction" 106))))) (nd tE (nd tE (nd (fU "times" 18) (n1 fE tE) (n1 ajm alJ)) (nd fE (n1 (fU "steps_to" 55) aip) (n1 tE tE))) (nd tE (nd tE (n1 (fU "only_answer" 48) (⟨.none,none,.fields ⟨i3 342 4 572 <|[]⟩,⟨[]⟩⟩)) (n1 akx tE)) (nd (tN 493 Qq) (n1 tE (fT "names" "Hall.names" (gY 92 2))) (lf (wG 841 500)))))) (nd (q30 P) (nd (wB 44) (nd tE (nd tE (n1 tE (anA P)) (n1 (tN 705 uc) tE)) (nd (cV "lowest" 439 89 2 3 203 442) (n1 akX (fU "numbers_of" 89)) (n1 (fU "check_pairs" 80) alb))) (nd fE (nd (tN 400 RN) (n1 fE (aiT P)) (n1 tE akZ)) (nd fE (n1 (fU "sure_rooms" 59) tE) (n1 tE tE)))) (nd tE (nd (fT "__init__" "NoRoom.__init__" (gY 7 0)) (nd (cU "over" 373 57 2 3 153 378) (n1 aia (wB 540)) (n1 alx (fU "_law_cell" 94))) (nd (fU "take_step" 33) (n1 aiW ajQ) (n1 fE tE))) (nd fE (nd (fU "least" 25) (n1 ak8 tE) (n1 tE ajC)) (nd tE (n1 tE alV) (lf (wC "Sure" 848 322 508 851)))))))))
def S1(w:World)(os:OsState):SharedT:=⟨tr1 w.params,757,{},⟨[]⟩,{},1182,os⟩
def e1:Pos:=⟨500,0,516,21⟩
def KH:Params->Frag:=λP=>(
 (nat_lit 2,boot_o_2 P)::(nat_lit 3,wD (dE P "__name__" 165 vp::dE P "__doc__" 166 .none::dE P "__package__" 167 .none::dE P "__loader__" 168 (.builtin "__main__.__loader__#opaque")::dE P "__spec__" 169 .none::dR P "__annotations__" 170 6::dR P "__builtins__" 171 4::dE P "__file__" 173 (.str "/claim/cut.py" 172)::dE P "__cached__" 174 .none::dM P [("_wall",193,21),("HallError",213,31),("NoNumber",229,44),("NoName",245,56),("NoChance",261,68),("NoShare",277,80),("NoRoom",302,99),("is_whole",311,108),("divisor",322,115),("NOUGHT",327,116),("ONE",330,117),("ratio",339,124),("is_ratio",348,131),("plus",356,138),("minus",364,145),("times",372,152),("over",380,159),("under",388,166),("level",396,171),("total",404,178),("greatest",413,185),("least",422,192),("first_plan",430,197),("behind_door",436,202),("lowest",444,207),("row_times",450,212),("row_plus",456,217),("take_step",465,224),("number_at",473,231),("fractions_of",479,236),("first_from",489,243),("go_on",498,250),("begin_row",510,257),("clear_column",522,264),("reduced",528,269),("width_of",537,276),("with_rights",543,281),("begins_of",549,286),("odd_row",559,293),("answer_of",571,300),("single_rows",577,305),("only_answer",588,312),("goal_marks",600,319),("leads_of",606,324),("meets",612,329),("by_some",618,334),("by_each",624,339),("steps_to",630,344),("fewest_steps",639,351),("forced_steps",648,358),("staying",654,363),("sure_rooms",660,368),("fated_rooms",666,373),("chosen_doors",674,378),("left_rows",687,385),("on_the_way",695,390),("plan_chances",701,395),("picked_door",711,402),("turned_plan",717,407),("settled",729,414),("keeping_plan",735,419),("greatest_chances",743,426),("least_chances",752,433)]++dE P "LONGEST_WORD" 756 (.int 8 755)::dM P [("is_word",762,438),("check_head",772,445),("check_room_name",779,452),("check_chance",786,459),("check_pairs",792,464),("joined_ways",798,469),("Door",845,500),("Sure",872,521),("Mixed",899,540),("Toss",927,559),("Even",949,576),("check_share",958,585),("numbers_of",968,592),("numbered_ways",979,599),("offers_of",990,606),("Hall",1064,661),("_law_cell",1074,672),("_law_stream",1086,679),("_law_gcd",1096,686),("_law_ratio",1105,693),("_law_names",1111,698),("_law_door",1117,703),("_law_doors",1123,708),("_law_built",1129,713),("_law_hall",1135,718),("_law_size",1143,725),("_law_goals",1149,730),("_law_whole",1156,737),("_law_is_fraction",1163,744),("_law_fractions",1169,749),("_law_asked",1181,756),("_law_right",1187,761),("law",1200,768)]++[]) 106)::(nat_lit 15,tE)::(nat_lit 17,tN 190 ["k"])::(nat_lit 18,tE)::(nat_lit 20,cU "_wall" 187 1 1 3 15 191)::(nat_lit 21,q21)::(nat_lit 22,q22)::(nat_lit 29,tE)::(nat_lit 30,q30 P)::(nat_lit 31,q31)::(nat_lit 32,(wG 209 31))::(nat_lit 35,(wT 31))::(nat_lit 42,tE)::(nat_lit 43,q43 P)::(nat_lit 44,q44)::(nat_lit 47,(wT 31))::(nat_lit 54,tE)::(nat_lit 55,q55 P)::(nat_lit 56,q56)::(nat_lit 59,(wT 31))::(nat_lit 66,tE)::(nat_lit 67,q67 P)::(nat_lit 68,q68)::(nat_lit 71,(wT 31))::(nat_lit 78,tE)::(nat_lit 79,q79 P)::(nat_lit 80,q80)::(nat_lit 83,(wT 31))::(nat_lit 90,tE)::(nat_lit 92,tN 293 fJ)::(nat_lit 93,tE)::(nat_lit 95,q95)::(nat_lit 96,q96)::(nat_lit 97,tN 298 ["room"])::(nat_lit 98,q98 P)::(nat_lit 99,q99)::(nat_lit 102,tE)::(nat_lit 104,tN 308 ["thing"])::(nat_lit 105,tE)::(nat_lit 107,cU "is_whole" 305 21 1 3 102 309)::(nat_lit 108,ahT)::(nat_lit 109,tE)::(nat_lit 111,ahN)::(nat_lit 112,tE)::(nat_lit 114,cU "divisor" 312 23 2 3 109 320)::(nat_lit 115,aiP)::(nat_lit 116,ah5)::(nat_lit 117,aiF)::(nat_lit 118,tE)::(nat_lit 120,tN 334 RZ)::(nat_lit 121,tE)::(nat_lit 123,cU "ratio" 331 34 2 3 118 337)::(nat_lit 124,akq)::(nat_lit 125,tE)::(nat_lit 127,tN 343 Bt)::(nat_lit 128,tE)::(nat_lit 130,cU "is_ratio" 340 43 1 3 125 346)::(nat_lit 131,aic)::(nat_lit 132,tE)::(nat_lit 134,tN 352 cM)::(nat_lit 135,tE)::(nat_lit 137,cU "plus" 349 51 2 3 132 354)::(nat_lit 138,ala)::(nat_lit 139,tE)::(nat_lit 141,tN 360 cM)::(nat_lit 142,tE)::(nat_lit 144,cU "minus" 357 53 2 3 139 362)::(nat_lit 145,ahC)::(nat_lit 146,tE)::(nat_lit 148,tN 368 cM)::(nat_lit 149,tE)::(nat_lit 151,cU "times" 365 55 2 3 146 370)::(nat_lit 152,ajb)::(nat_lit 153,tE)::(nat_lit 155,tN 376 cM)::(nat_lit 156,tE)::(nat_lit 158,cU "over" 373 57 2 3 153 378)::(nat_lit 159,alF)::(nat_lit 160,tE)::(nat_lit 162,tN 384 cM)::(nat_lit 163,tE)::(nat_lit 165,cU "under" 381 59 2 3 160 386)::(nat_lit 166,alp)::(nat_lit 167,tE)::(nat_lit 170,cV "level" 391 62 1 3 167 394)::(nat_lit 171,akU)::(nat_lit 172,tE)::(nat_lit 174,tN 400 RN)::(nat_lit 175,tE)::(nat_lit 177,cU "total" 397 67 1 3 172 402)::(nat_lit 178,aky)::(nat_lit 179,tE)::(nat_lit 181,tN 408 ql)::(nat_lit 182,tE)::(nat_lit 184,cU "greatest" 405 70 1 3 179 411)::(nat_lit 185,aiA)::(nat_lit 186,tE)::(nat_lit 188,tN 417 ql)::(nat_lit 189,tE)::(nat_lit 191,cU "least" 414 76 1 3 186 420)::(nat_lit 192,akf)::(nat_lit 193,tE)::(nat_lit 196,alC)::(nat_lit 197,ajX)::(nat_lit 198,tE)::(nat_lit 201,ajH)::(nat_lit 202,aiY)::(nat_lit 203,tE)::(nat_lit 206,cV "lowest" 439 89 2 3 203 442)::(nat_lit 207,aj0)::(nat_lit 208,tE)::(nat_lit 211,ahM)::(nat_lit 212,ajP)::(nat_lit 213,tE)::(nat_lit 216,cV "row_plus" 451 96 3 3 213 454)::(nat_lit 217,ak6)::(nat_lit 218,tE)::(nat_lit 220,tN 460 zU)::(nat_lit 221,tE)::(nat_lit 223,ajU)::(nat_lit 224,ajA)::(nat_lit 225,tE)::(nat_lit 227,tN 469 yH)::(nat_lit 228,tE)::(nat_lit 230,aiN)::(nat_lit 231,ak2)::(nat_lit 232,tE)::(nat_lit 235,ajL)::(nat_lit 236,aik)::(nat_lit 237,tE)::(nat_lit 239,ajI)::(nat_lit 240,tE)::(nat_lit 242,alE)::(nat_lit 243,aly)::(nat_lit 244,tE)::(nat_lit 246,tN 493 Qq)::(nat_lit 247,tE)::(nat_lit 249,cU "go_on" 490 121 3 3 244 496)::(nat_lit 250,aiI)::(nat_lit 251,tE)::(nat_lit 253,alK)::(nat_lit 254,tE)::(nat_lit 256,ahD)::(nat_lit 257,ahV)::(nat_lit 258,tE)::(nat_lit 260,ail)::(nat_lit 261,tE)::(nat_lit 263,ahK)::(nat_lit 264,ah4)::(nat_lit 265,tE)::(nat_lit 268,cV "reduced" 523 135 2 3 265 526)::(nat_lit 269,ah0)::(nat_lit 270,tE)::(nat_lit 272,tN 534 ["rows"])::(nat_lit 273,tE)::(nat_lit 275,alz)::(nat_lit 276,ajY)::(nat_lit 277,tE)::(nat_lit 280,al8)::(nat_lit 281,ahQ)::(nat_lit 282,tE)::(nat_lit 285,ah1)::(nat_lit 286,aia)::(nat_lit 287,tE)::(nat_lit 289,tN 553 Ge)::(nat_lit 290,tE)::(nat_lit 292,cU "odd_row" 550 160 3 3 287 557)::(nat_lit 293,akd)::(nat_lit 294,tE)::(nat_lit 296,ali)::(nat_lit 297,tE)::(nat_lit 299,ak0)::(nat_lit 300,ako)::(nat_lit 301,tE)::(nat_lit 304,ajV)::(nat_lit 305,ama)::(nat_lit 306,tE)::(nat_lit 308,aiy)::(nat_lit 309,tE)::(nat_lit 311,ai6)::(nat_lit 312,ajR)::(nat_lit 313,tE)::(nat_lit 315,tN 594 vD)::(nat_lit 316,tE)::(nat_lit 318,ak8)::(nat_lit 319,aji)::(nat_lit 320,tE)::(nat_lit 323,alR)::(nat_lit 324,alQ)::(nat_lit 325,tE)::(nat_lit 328,cV "meets" 607 192 2 3 325 610)::(nat_lit 329,ajk)::(nat_lit 330,tE)::(nat_lit 333,cV "by_some" 613 194 2 3 330 616)::(nat_lit 334,akX)::(nat_lit 335,tE)::(nat_lit 338,cV "by_each" 619 196 2 3 335 622)::(nat_lit 339,aiJ)::(nat_lit 340,tE)::(nat_lit 343,ahY)::(nat_lit 344,al0)::(nat_lit 345,tE)::(nat_lit 347,tN 634 fK)::(nat_lit 348,tE)::(nat_lit 350,aiW)::(nat_lit 351,alh)::(nat_lit 352,tE)::(nat_lit 354,tN 643 fK)::(nat_lit 355,tE)::(nat_lit 357,ale)::(nat_lit 358,akg)::(nat_lit 359,tE)::(nat_lit 362,cV "staying" 649 214 2 3 359 652)::(nat_lit 363,aiL)::(nat_lit 364,tE)::(nat_lit 367,aiv)::(nat_lit 368,aiC)::(nat_lit 369,tE)::(nat_lit 372,alU)::(nat_lit 373,akH)::(nat_lit 374,tE)::(nat_lit 377,aiB)::(nat_lit 378,ai0)::(nat_lit 379,tE)::(nat_lit 381,aij)::(nat_lit 382,tE)::(nat_lit 384,akM)::(nat_lit 385,akW)::(nat_lit 386,tE)::(nat_lit 389,aj4)::(nat_lit 390,alj)::(nat_lit 391,tE)::(nat_lit 394,alv)::(nat_lit 395,ah2)::(nat_lit 396,tE)::(nat_lit 398,tN 705 uc)::(nat_lit 399,tE)::(nat_lit 401,aku)::(nat_lit 402,akc)::(nat_lit 403,tE)::(nat_lit 406,ajm)::(nat_lit 407,alH)::(nat_lit 408,tE)::(nat_lit 410,ai5)::(nat_lit 411,tE)::(nat_lit 413,cU "settled" 718 260 4 3 408 727)::(nat_lit 414,alx)::(nat_lit 415,tE)::(nat_lit 418,aln)::(nat_lit 419,ahE)::(nat_lit 420,tE)::(nat_lit 422,tN 739 cZ)::(nat_lit 423,tE)::(nat_lit 425,ahR)::(nat_lit 426,ak9)::(nat_lit 427,tE)::(nat_lit 429,tN 747 fK)::(nat_lit 430,tE)::(nat_lit 432,aiM)::(nat_lit 433,ajz)::(nat_lit 434,tE)::(nat_lit 437,cV "is_word" 757 282 1 3 434 760)::(nat_lit 438,akx)::(nat_lit 439,tE)::(nat_lit 441,tN 768 vX)::(nat_lit 442,tE)::(nat_lit 444,ajf)::(nat_lit 445,alD)::(nat_lit 446,tE)::(nat_lit 448,tN 776 ["room"])::(nat_lit 449,tE)::(nat_lit 451,ajq)::(nat_lit 452,akr)::(nat_lit 453,tE)::(nat_lit 455,tN 783 ["chance"])::(nat_lit 456,tE)::(nat_lit 458,ahU)::(nat_lit 459,akp)::(nat_lit 460,tE)::(nat_lit 463,alI)::(nat_lit 464,ajJ)::(nat_lit 465,tE)::(nat_lit 468,ak3)::(nat_lit 469,ai7)::(nat_lit 477,tE)::(nat_lit 479,tN 814 zT)::(nat_lit 480,tE)::(nat_lit 482,ajg)::(nat_lit 483,ahH)::(nat_lit 484,tE)::(nat_lit 486,tN 823 ["self"])::(nat_lit 487,tE)::(nat_lit 489,cO "ways" "Door.ways" 820 317 1 3 484 824)::(nat_lit 490,ajZ)::(nat_lit 491,tE)::(nat_lit 493,tN 830 fJ)::(nat_lit 494,tE)::(nat_lit 496,ain)::(nat_lit 497,ajc)::(nat_lit 498,tN 835 ["leads","name","pay"])::(nat_lit 499,ajy P)::(nat_lit 500,ais)::(nat_lit 501,ajd)::(nat_lit 502,(wG 841 500))::(nat_lit 505,(wT 500))::(nat_lit 512,tE)::(nat_lit 514,tN 861 yR)::(nat_lit 515,tE)::(nat_lit 517,akV)::(nat_lit 518,aj1)::(nat_lit 519,tN 868 ["leads"])::(nat_lit 520,aiQ P)::(nat_lit 521,alf)::(nat_lit 524,(wT 500))::(nat_lit 531,tE)::(nat_lit 533,tN 888 vq)::(nat_lit 534,tE)::(nat_lit 536,akY)::(nat_lit 537,ajv)::(nat_lit 538,tN 895 ["leads"])::(nat_lit 539,ajn P)::(nat_lit 540,ahI)::(nat_lit 543,(wT 540))::(nat_lit 550,tE)::(nat_lit 552,ahB)::(nat_lit 553,tE)::(nat_lit 555,akF)::(nat_lit 556,ajN)::(nat_lit 557,tE)::(nat_lit 558,aiT P)::(nat_lit 559,akj)::(nat_lit 562,(wT 540))::(nat_lit 569,tE)::(nat_lit 572,alG)::(nat_lit 573,ah3)::(nat_lit 574,tE)::(nat_lit 575,ahS P)::(nat_lit 576,alM)::(nat_lit 579,tE)::(nat_lit 581,tN 955 ["share"])::(nat_lit 582,tE)::(nat_lit 584,ahF)::(nat_lit 585,alZ)::(nat_lit 586,tE)::(nat_lit 588,tN 962 vU)::(nat_lit 589,tE)::(nat_lit 591,ah8)::(nat_lit 592,aio)::(nat_lit 593,tE)::(nat_lit 595,akC)::(nat_lit 596,tE)::(nat_lit 598,aip)::(nat_lit 599,al9)::(nat_lit 600,tE)::(nat_lit 602,aj6)::(nat_lit 603,tE)::(nat_lit 605,akA)::(nat_lit 606,ajQ)::(nat_lit 614,tE)::(nat_lit 617,alg)::(nat_lit 618,ah7)::(nat_lit 619,tE)::(nat_lit 621,tN 1012 ["self"])::(nat_lit 622,tE)::(nat_lit 624,cO "size" "Hall.size" 1009 380 1 3 619 1013)::(nat_lit 625,ajw)::(nat_lit 626,tE)::(nat_lit 628,tN 1019 ["self"])::(nat_lit 629,tE)::(nat_lit 631,alA)::(nat_lit 632,akt)::(nat_lit 633,tE)::(nat_lit 635,tN 1026 DR)::(nat_lit 636,tE)::(nat_lit 638,alV)::(nat_lit 639,akm)::(nat_lit 640,tE)::(nat_lit 642,tN 1034 fJ)::(nat_lit 643,tE)::(nat_lit 645,aiR)::(nat_lit 646,ajx)::(nat_lit 647,tE)::(nat_lit 649,tN 1042 zy)::(nat_lit 650,tE)::(nat_lit 652,akG)::(nat_lit 653,aiV)::(nat_lit 654,tE)::(nat_lit 657,aj3)::(nat_lit 658,aiq)::(nat_lit 659,tN 1054 ["numbers","offered","share"])::(nat_lit 660,akE P)::(nat_lit 661,aif)::(nat_lit 662,alJ)::(nat_lit 663,(wG 1060 661))::(nat_lit 666,tE)::(nat_lit 668,tN 1070 Wt)::(nat_lit 669,tE)::(nat_lit 671,akP)::(nat_lit 672,ahX)::(nat_lit 673,tE)::(nat_lit 675,ajh)::(nat_lit 676,tE)::(nat_lit 678,alY)::(nat_lit 679,aiZ)::(nat_lit 680,tE)::(nat_lit 682,aiK)::(nat_lit 683,tE)::(nat_lit 685,akb)::(nat_lit 686,akZ)::(nat_lit 687,tE)::(nat_lit 689,aiz)::(nat_lit 690,tE)::(nat_lit 692,ajj)::(nat_lit 693,ajp)::(nat_lit 694,tE)::(nat_lit 697,aiH)::(nat_lit 698,aiE)::(nat_lit 699,tE)::(nat_lit 702,ajC)::(nat_lit 703,alL)::(nat_lit 704,tE)::(nat_lit 707,al6)::(nat_lit 708,al2)::(nat_lit 709,tE)::(nat_lit 712,ahO)::(nat_lit 713,aii)::(nat_lit 714,tE)::(nat_lit 717,aib)::(nat_lit 718,alb)::(nat_lit 719,tE)::(nat_lit 721,tN 1139 Wy)::(nat_lit 722,tE)::(nat_lit 724,aix)::(nat_lit 725,ajE)::(nat_lit 726,tE)::(nat_lit 729,ak7)::(nat_lit 730,alS)::(nat_lit 731,tE)::(nat_lit 733,tN 1153 Ej)::(nat_lit 734,tE)::(nat_lit 736,ai2)::(nat_lit 737,air)::(nat_lit 738,tE)::(nat_lit 740,tN 1160 Ej)::(nat_lit 741,tE)::(nat_lit 743,akk)::(nat_lit 744,alN)::(nat_lit 745,tE)::(nat_lit 748,akD)::(nat_lit 749,aj2)::(nat_lit 750,tE)::(nat_lit 752,ahZ)::(nat_lit 753,tE)::(nat_lit 755,akJ)::(nat_lit 756,alu)::(nat_lit 757,tE)::(nat_lit 760,cV "_law_right" 1182 517 2 3 757 1185)::(nat_lit 761,fV "_law_right" 109 vp 760)::(nat_lit 762,tE)::(nat_lit 764,tN 1191 ae6)::(nat_lit 765,tE)::(nat_lit 767,cU "law" 1188 531 1 3 762 1198)::(nat_lit 768,fV "law" 110 vp 767)::([] : List (Nat×Obj)))
abbrev asH:List Nat:=[2,3,15,17,18,20,21,22,29,30,31,32,35,42,43,44,47,54,55,56,59,66,67,68,71,78,79,80,83,90,92,93,95,96,97,98,99,102,104,105,107,108,109,111,112,114,115,116,117,118,120,121,123,124,125,127,128,130,131,132,134,135,137,138,139,141,142,144,145,146,148,149,151,152,153,155,156,158,159,160,162,163,165,166,167,170,171,172,174,175,177,178,179,181,182,184,185,186,188,189,191,192,193,196,197,198,201,202,203,206,207,208,211,212,213,216,217,218,220,221,223,224,225,227,228,230,231,232,235,236,237,239,240,242,243,244,246,247,249,250,251,253,254,256,257,258,260,261,263,264,265,268,269,270,272,273,275,276,277,280,281,282,285,286,287,289,290,292,293,294,296,297,299,300,301,304,305,306,308,309,311,312,313,315,316,318,319,320,323,324,325,328,329,330,333,334,335,338,339,340,343,344,345,347,348,350,351,352,354,355,357,358,359,362,363,364,367,368,369,372,373,374,377,378,379,381,382,384,385,386,389,390,391,394,395,396,398,399,401,402,403,406,407,408,410,411,413,414,415,418,419,420,422,423,425,426,427,429,430,432,433,434,437,438,439,441,442,444,445,446,448,449,451,452,453,455,456,458,459,460,463,464,465,468,469,477,479,480,482,483,484,486,487,489,490,491,493,494,496,497,498,499,500,501,502,505,512,514,515,517,518,519,520,521,524,531,533,534,536,537,538,539,540,543,550,552,553,555,556,557,558,559,562,569,572,573,574,575,576,579,581,582,584,585,586,588,589,591,592,593,595,596,598,599,600,602,603,605,606,614,617,618,619,621,622,624,625,626,628,629,631,632,633,635,636,638,639,640,642,643,645,646,647,649,650,652,653,654,657,658,659,660,661,662,663,666,668,669,671,672,673,675,676,678,679,680,682,683,685,686,687,689,690,692,693,694,697,698,699,702,703,704,707,708,709,712,713,714,717,718,719,721,722,724,725,726,729,730,731,733,734,736,737,738,740,741,743,744,745,748,749,750,752,753,755,756,757,760,761,762,764,765,767,768]
end
def qv:Program:=view p [0,2,3,4,5,6,7,9,10,12,13,14,15,16,17,18,19,20,22,23,24,25,27,28,30,31,32,33,34,35,36,37,38,39,40,42,43,44,45,46,47,48,50,51,52,53,54,55,56,57,58,59,60,62,63,65,66,67,68,69,70,71,72,74,75,77,78,79,80,81,82,83,84,85,86,88,89,90,91,92,94,95,96,97,98,99,100,101,102,103,104,105,106,107,108,109,110]
abbrev R:RowW:=PySem.Challenge.rw_chancehall_k40_whole_nought_and_one.row.toRowW
def Xt(s:Shared):Bool:=xlAt qv [] s&&recOk R.records s
def e:Pos:=⟨531,0,541,15⟩
set_option maxHeartbeats 0
theorem lko:looksOpen PySem.Challenge.rw_chancehall_k40_whole_nought_and_one.row.prog=true:=by kernel_rfl
theorem wsd:PySem.Challenge.rw_chancehall_k40_whole_nought_and_one.wellSaid=true:=by
 unfold OpenLaw.wellSaid OpenRow.wellSaid OpenRow.partSaid;rw[lko]
 kernel_rfl
theorem asK:∀P,asH=(KH P).map (·.1):=λ_=>by kernel_rfl
theorem pre(w:World):(λos=>topGo treeTable p w 11 ann 12 (S0 w os) (topStub p))=λos=>some (Sa w os,⟨denote treeTable (cE p),cE p,z,B⟩):=by
 rw[Fast.te15667345088766844465,Fast.te14364793385576792824,Fast.te11892475500146522536];kernel_rfl
theorem block(w:World):(λos=>segRun treeTable p w 11 ann 1 1 (Sa w os) (blockOf (behindTheImports p) (env p) (cE p) z B))=λos=>some (.next,(Sb w os).abs,cE p,z):=by
 rw[Fast.te14374325043358763698,Fast.te14364793385576792824];kernel_rfl
theorem ajs(w:World):(λos=>segRunT treeTable p w 11 ann 1 30000 (Sb w os) (piecesOf ((behindTheImports p).take 109) (env p) (cE p) z B))=λos=>some (.next,S1 w os,cE p,e1):=by
 rw[Fast.te10110043849684766642,Fast.te14364793385576792824];kernel_rfl
theorem comb{R S A B C X Y Z:Type _}{o:Option R}{f:R->A}{g:R->B}{k:R->C}{h:R->Option S}{f1:S->X}{f2:S->Y}{f3:S->Z}{a:A}{b:B}{c:C}{x:X}{y:Y}{z:Z}(h1:(o.map λr=>(f r,g r,k r,(h r).map f1))=some (a,b,c,some x))(h2:(o.map λr=>(f r,g r,k r,(h r).map f2))=some (a,b,c,some y))(h3:(o.map λr=>(f r,g r,k r,(h r).map f3))=some (a,b,c,some z)):(o.map λr=>(f r,g r,k r,(h r).map λs=>(f1 s,f2 s,f3 s)))=some (a,b,c,some (x,y,z)):=by
 cases o with
 |none=>cases h1
 |some r =>
  simp only[Option.map_some,Option.some.injEq,Prod.mk.injEq]at h1 h2 h3 ⊢;obtain⟨a1,a2,a3,a4⟩:=h1;obtain⟨_,_,_,b4⟩:=h2;obtain⟨_,_,_,c4⟩:=h3;cases hr:h r with
  |none=>rw[hr]at a4;cases a4
  |some s =>
   rw[hr]at a4 b4 c4;refine⟨a1,a2,a3,?_⟩;simp only[Option.map_some,Option.some.injEq]at a4 b4 c4 ⊢;rw[a4,b4,c4]
theorem amv{R S A B C X Y:Type _}{o:Option R}{f:R->A}{g:R->B}{k:R->C}{h:R->Option S}{f1:S->X}{f2:S->Y}{a:A}{b:B}{c:C}{x:X}{y:Y}(h1:(o.map λr=>(f r,g r,k r,(h r).map f1))=some (a,b,c,some x))(h2:(o.map λr=>(f r,g r,k r,(h r).map f2))=some (a,b,c,some y)):(o.map λr=>(f r,g r,k r,(h r).map λs=>(f1 s,f2 s)))=some (a,b,c,some (x,y)):=by
 cases o with
 |none=>cases h1
 |some r =>
  simp only[Option.map_some,Option.some.injEq,Prod.mk.injEq]at h1 h2 ⊢;obtain⟨a1,a2,a3,a4⟩:=h1;obtain⟨_,_,_,b4⟩:=h2;cases hr:h r with
  |none=>rw[hr]at a4;cases a4
  |some s =>
   rw[hr]at a4 b4;refine⟨a1,a2,a3,?_⟩;simp only[Option.map_some,Option.some.injEq]at a4 b4 ⊢;rw[a4,b4]
theorem sn0(w:World):(λos=>(segRunT treeTable p w 11 ann 1 50000 (S1 w os) (piecesOf ((behindTheImports p).drop 109) (env p) (cE p) e1 B)).map λr=>(r.1,r.2.2.1,r.2.2.2,(topRun treeTable p w 11 ann 2 r.2.1.abs ⟨doneF .next,cE p,e,B⟩).map λs=>(openSeen qv [] (importedModules p.main.body) Xt true s).1))=λ_=>some (.next,cE p,e,some ((openGood qv []).1)):=by
 rw[Fast.te10110043849684766642,Fast.te14364793385576792824,Fast.te14082659384304107361,Fast.te4187177175401517315,Fast.te5923862056798008813];kernel_rfl
theorem sn1(w:World):(λos=>(segRunT treeTable p w 11 ann 1 50000 (S1 w os) (piecesOf ((behindTheImports p).drop 109) (env p) (cE p) e1 B)).map λr=>(r.1,r.2.2.1,r.2.2.2,(topRun treeTable p w 11 ann 2 r.2.1.abs ⟨doneF .next,cE p,e,B⟩).map λs=>(openSeen qv [] (importedModules p.main.body) Xt true s).2))=λ_=>some (.next,cE p,e,some ((openGood qv []).2)):=by
 rw[Fast.te10110043849684766642,Fast.te14364793385576792824,Fast.te14082659384304107361];kernel_rfl
theorem anF(w:World):(λos=>(segRunT treeTable p w 11 ann 1 50000 (S1 w os) (piecesOf ((behindTheImports p).drop 109) (env p) (cE p) e1 B)).map λr=>(r.1,r.2.2.1,r.2.2.2,(topRun treeTable p w 11 ann 2 r.2.1.abs ⟨doneF .next,cE p,e,B⟩).map λs=>openSeen qv [] (importedModules p.main.body) Xt true s))=λ_=>some (.next,cE p,e,some (openGood qv [])):=funext λos=>amv (congrFun (sn0 w) os) (congrFun (sn1 w) os)
theorem ang(w:World):(λos=>(segRunT treeTable p w 11 ann 1 50000 (S1 w os) (piecesOf ((behindTheImports p).drop 109) (env p) (cE p) e1 B)).map λr=>(r.1,r.2.2.1,r.2.2.2,(topRun treeTable p w 11 ann 2 r.2.1.abs ⟨doneF .next,cE p,e,B⟩).map λs=>staticsOk (importedModules p.main.body) (boot_heap w.params) s.heap&&namesBound p s.heap&&gensDone s&&laidKept (boot_heap w.params) s.heap))=λ_=>some (.next,cE p,e,some (true)):=by
 rw[Fast.te10110043849684766642,Fast.te14364793385576792824,Fast.te14082659384304107361];kernel_rfl
theorem amR(w:World):(λos=>(segRunT treeTable p w 11 ann 1 50000 (S1 w os) (piecesOf ((behindTheImports p).drop 109) (env p) (cE p) e1 B)).map λr=>(r.1,r.2.2.1,r.2.2.2,(topRun treeTable p w 11 ann 2 r.2.1.abs ⟨doneF .next,cE p,e,B⟩).map λs=>asH.map s.heap.get?))=λ_=>some (.next,cE p,e,some ((KH w.params).map λp=>some p.2)):=by
 rw[Fast.te10110043849684766642,Fast.te14364793385576792824,Fast.te14082659384304107361];kernel_rfl
theorem big(w:World):(λos=>(segRunT treeTable p w 11 ann 1 50000 (S1 w os) (piecesOf ((behindTheImports p).drop 109) (env p) (cE p) e1 B)).map λr=>(r.1,r.2.2.1,r.2.2.2,(topRun treeTable p w 11 ann 2 r.2.1.abs ⟨doneF .next,cE p,e,B⟩).map λs=>(staticsOk (importedModules p.main.body) (boot_heap w.params) s.heap&&namesBound p s.heap&&gensDone s&&laidKept (boot_heap w.params) s.heap,openSeen qv [] (importedModules p.main.body) Xt true s,asH.map s.heap.get?)))=λ_=>some (.next,cE p,e,some (true,openGood qv [],(KH w.params).map λp=>some p.2)):=funext λos=>comb (congrFun (ang w) os) (congrFun (anF w) os) (congrFun (amR w) os)
theorem left:LeftO p qv [] Xt (λs=>asH.map s.heap.get?) (λw=>(KH w.params).map λp=>some p.2) 200000 :=
 Za (boot_open rfl rfl λ_=>rfl) pre block (λw os=>pL.cutAt (congrFun (ajs w) os) (pL.last (congrFun (big w) os))) rfl
theorem hX(s:Shared)(h:Xt s=true):XL qv [] (s.heap.nsMap mainGlobals) s.heap:=xl_of s (Bool.and_eq_true_iff.mp h).1
theorem hR(s:Shared)(h:Xt s=true):RecFacts R.records s.heap:=recFacts_of (Bool.and_eq_true_iff.mp h).2
end H40
noncomputable section
namespace L2
open PySem PySem.Spec PyProof.Rows
abbrev Key:=Sum Int Str
def DX:Key->Value->Bool
 |.inl k,v=>Value.isInt k v
 |.inr x,v=>Value.isStrOf x v
def am0(w:World):Key->Int
 |.inl k=>hashInt k
 |.inr x=>hashStr w x
theorem gC:∀{k:Key}{v:Value},DX k v=true->(∃i t,k=Sum.inl i/\v=Value.int i t)\/(∃x t,k=Sum.inr x/\v=Value.str x t)
 |.inl i,v,h=>by
  obtain⟨t,e⟩:=Value.isInt_shape (k:=i) (v:=v) h;exact .inl ⟨i,t,rfl,e⟩
 |.inr x,v,h=>by
  obtain⟨t,e⟩:=Value.isStrOf_shape (x:=x) (v:=v) h;exact .inr ⟨x,t,rfl,e⟩
theorem YQ(i:Int)(t:Tok):DX (.inl i) (.int i t)=true:=by simp[DX,Value.isInt]
theorem YS(x:Str)(t:Tok):DX (.inr x) (.str x t)=true:=by simp[DX,Value.isStrOf]
theorem agH(a b:Int):decide ((Sum.inl a:Key)=Sum.inl b)=(a==b):=by
 by_cases e:a=b
 .subst e;simp
 .have h:¬(Sum.inl a:Key)=Sum.inl b:=λq=>e (Sum.inl.inj q);rw[Zp h];exact(beq_eq_false_iff_ne.mpr e).symm
theorem afI(a b:Str):decide ((Sum.inr a:Key)=Sum.inr b)=decide (a=b):=by
 by_cases e:a=b
 .subst e;simp
 .have h:¬(Sum.inr a:Key)=Sum.inr b:=λq=>e (Sum.inr.inj q);rw[Zp h,Zp e]
theorem ag1(a:Int)(b:Str):decide ((Sum.inl a:Key)=Sum.inr b)=false:=Zp (λq=>nomatch q)
theorem aha(a:Str)(b:Int):decide ((Sum.inr a:Key)=Sum.inl b)=false:=Zp (λq=>nomatch q)
def jW(prog:Program)(w:World):PySem.KeyKind prog w Key where
 is:=DX
 hash:=am0 w
 inj:=λv a b ha hb=>by
  rcases gC ha with⟨i,t,rfl,rfl⟩|⟨x,t,rfl,rfl⟩
  .rcases gC hb with⟨j,u,rfl,e⟩|⟨y,u,rfl,e⟩
   .injection e with e1 _;rw[e1]
   .exact nomatch e
  .rcases gC hb with⟨j,u,rfl,e⟩|⟨y,u,rfl,e⟩
   .exact nomatch e
   .injection e with e1 _;rw[e1]
 byValue:=λk v h=>by
  rcases gC h with⟨i,t,rfl,rfl⟩|⟨x,t,rfl,rfl⟩<;>rfl
 pyHash:=λhv h=>by
  rcases gC hv with⟨i,t,rfl,rfl⟩|⟨x,t,rfl,rfl⟩
  .exact wpAny_pyHash_int h
  .exact wpAny_pyHash_str h
 eqBool:=λhu hv h=>by
  rcases gC hu with⟨i,t,rfl,rfl⟩|⟨x,t,rfl,rfl⟩
  .rcases gC hv with⟨j,u,rfl,rfl⟩|⟨y,u,rfl,rfl⟩
   .rw[agH]at h;exact wpAny_eqBool_int h
   .rw[ag1]at h;exact SeqAt.EqAt.int_str i t y u _ _ _ _ h
  .rcases gC hv with⟨j,u,rfl,rfl⟩|⟨y,u,rfl,rfl⟩
   .rw[aha]at h;exact SeqAt.EqAt.str_int x t j u _ _ _ _ h
   .rw[afI]at h;exact wpAny_eqBool_str h
 «strs»:=λk x t v h=>by
  rcases gC h with⟨i,u,rfl,e⟩|⟨y,u,rfl,e⟩
  .exact nomatch e
  .injection e with e1 _;subst e1;cases v<;>rfl
theorem Ud(prog:Program)(w:World)(i:Int)(t:Tok):(jW prog w).is (.inl i) (.int i t)=true:=YQ i t
theorem Tz(prog:Program)(w:World)(x:Str)(t:Tok):(jW prog w).is (.inr x) (.str x t)=true:=YS x t
inductive V where
 |non|bl (b:Bool)|int (i:Int)|str (x:Str)|byt (b:Array UInt8)|flt (b:UInt64)|ref (a:Addr)|ty (n:String)
 deriving DecidableEq
abbrev Ζ:=List V
def RelV:V->Value->Prop
 |.non,u=>u=Value.none
 |.bl b,u=>u=Value.bool b
 |.int i,u=>∃t,u=Value.int i t
 |.str x,u=>∃t,u=Value.str x t
 |.byt b,u=>∃t,u=Value.bytes b t
 |.flt b,u=>∃t,u=Value.float b t
 |.ref a,u=>u=Value.ref a
 |.ty n,u=>u=Value.type n
abbrev Vals:Ζ->Θ->Prop:=Paired RelV
theorem Vals.length{xs:Ζ}{us:Θ}(r:Vals xs us):xs.length=us.length:=Paired.length r
theorem Vals.get:∀{xs:Ζ}{us:Θ}{i:Nat}{x:V},Vals xs us->xs[i]?=some x->∃u,us[i]?=some u/\RelV x u
 |_,_,_,_,.nil,e=>by simp at e
 |_,_,0,_,.cons r _,e=>by simp at e;subst e;exact⟨_,rfl,r⟩
 |_,_,i+1,x,.cons _ t,e=>by
  obtain⟨u,h1,h2⟩:=Vals.get (i:=i) (x:=x) t (by simpa using e);exact⟨u,by simpa using h1,h2⟩
theorem Vals.set{x:V}{u:Value}(r:RelV x u):∀{xs:Ζ}{us:Θ}(i:Nat),Vals xs us->Vals (xs.set i x) (us.set i u)
 |_,_,_,.nil=>.nil
 |_,_,0,.cons _ t=>.cons r t
 |_,_,i+1,.cons q t=>.cons q (Vals.set r i t)
theorem Vals.append:∀{xs ys:Ζ}{us ws:Θ},Vals xs us->Vals ys ws->Vals (xs++ys) (us++ws)
 |_,_,_,_,.nil,s=>s
 |_,_,_,_,.cons r t,s=>.cons r (Vals.append t s)
theorem Vals.take:∀{xs:Ζ}{us:Θ}(n:Nat),Vals xs us->Vals (xs.take n) (us.take n)
 |_,_,0,_=>.nil
 |_,_,_+1,.nil=>.nil
 |_,_,n+1,.cons r t=>.cons r (Vals.take n t)
theorem Vals.drop:∀{xs:Ζ}{us:Θ}(n:Nat),Vals xs us->Vals (xs.drop n) (us.drop n)
 |_,_,0,r=>r
 |_,_,_+1,.nil=>.nil
 |_,_,n+1,.cons _ t=>Vals.drop n t
def Ar:Option V->Ω->Prop
 |some v,some u=>RelV v u
 |none,none=>True
 |_,_=>False
def KV{κ:Type} : List (κ×V)->List (κ×Value)->Prop:=Paired λ(p:κ×V)(q:κ×Value)=>p.1=q.1/\RelV p.2 q.2
def kV:Key->V
 |.inl i=>.int i
 |.inr x=>.str x
inductive HO where
  |lst (xs:Ζ)
  |tup (xs:Ζ)
  |dK (kvs:List (Key×V))
  |set (S:Int->Bool) (n:Nat)
  |ins (C dx:Addr) (fs:List (Str×V))
  |own (x:Addr)
  |xd (fs:List (Str×V))
  |met (f x:Addr)
  |rng (lo hi:Int)
  |frz (o:Obj) (u:HO)
  |tbl (ps:Array Value)
  |ext (φ:Heap->Prop)
abbrev Hp:=Addr->Option HO
def upd(H:Hp)(a:Addr)(o:HO):Hp:=λb=>if b=a then some o else H b
theorem cL{H:Hp}{a:Addr}{o:HO} : upd H a o a=some o:=by unfold upd;rw[ZY rfl]
theorem cD{H:Hp}{a b:Addr}{o:HO}(h:b≠a):upd H a o b=H b:=by unfold upd;rw[ZZ h]
theorem ai4{H:Hp}{a b:Addr}{o u:HO}(h:H a=some o)(h':H b=some u)(d:o≠u):a≠b:=by
 intro e;subst e;rw[h]at h';exact d (Option.some.inj h')
theorem n8{H:Hp}{a b:Addr}{o:HO}(h:H a=some o)(h':H b=none):a≠b:=by
 intro e;subst e;rw[h]at h';cases h'
section
variable(P:Program)(w:World)
def h_(H:Hp)(h:Heap)(a:Addr):HO->Prop
 |.lst xs=>xs.length<=sizeLine/\∃(its:Θ)(n:Nat),Vals xs its/\h.get? a=some { cls:=.type "list",data:=.seq its.toArray n }
 |.tup xs=>xs.length<=sizeLine/\∃its:Θ,Vals xs its/\IsTup h a its.toArray
 |.dK kvs=>kvs.length<=sizeLine/\(a==sysModules)=false/\∃vs,KV kvs vs/\h.DictOf (jW P w) a vs
 |.set S n=>h.SetOf (intKind P w) a S n
 |.ins C dx fs=>H dx=some (.own a)/\fs.length<=1000/\dx≠a/\h.get? a=some (instObj C dx) /\
   ∃mA,h.Ns1 dx mA/\(∀f,Ar (fs.lookup f) (mA f))/\PySem.Within mA (fs.map (·.1))
 |.own _=>∃o,h.get? a=some o
 |.xd fs=>∃mA,h.Ns1 a mA/\∀f,Ar (fs.lookup f) (mA f)
 |.rng lo hi=>∃t u v,h.get? a=some { cls:=.type "range",data:=.fields #[.int lo t,.int hi u,.int 1 v] }
 |.frz o u=>h.get? a=some o/\h_ H h a u
 |.tbl ps=>h.get? a=some { cls:=.none,data:=.fields ps }
 |.met f x=>h.get? a=some (methodObj (.ref f) (.ref x))
 |.ext φ=>φ h/\(∃o,h.get? a=some o)/\∀h1 h2:Heap,φ h1->(∀o,h1.get? a=some o->h2.get? a=some o)->φ h2
def HOk(H:Hp)(h:Heap):Prop:=∀a o,H a=some o->h_ P w H h a o
end
section
variable{P:Program}{w:World}{H H':Hp}{h h':Heap}{a:Addr}{o:HO}
theorem h_.lt(x:h_ P w H h a o):a<h.objs.size:=by
 cases o with
 |lst xs=>obtain⟨_,_,_,_,e⟩:=x;exact aK e
 |tup xs=>obtain⟨_,_,_,p⟩:=x;exact p.lt
 |dK kvs=>obtain⟨_,_,_,_,o,_,_,e,_⟩:=x;exact aK e
 |set S n=>obtain⟨o,_,_,_,e,_⟩:=x;exact aK e
 |ins C dx fs=>obtain⟨_,_,_,e,_⟩:=x;exact aK e
 |own y=>obtain⟨_,e⟩:=x;exact aK e
 |xd fs=>obtain⟨_,⟨_,_,_,e,_⟩,_⟩:=x;exact aK e
 |rng lo hi=>obtain⟨_,_,_,e⟩:=x;exact aK e
 |frz ob u=>obtain⟨e,_⟩:=x;exact aK e
 |tbl ps=>exact aK (show h.get? a=some _ from x)
 |met f y=>exact aK (show h.get? a=some _ from x)
 |ext φ=>obtain⟨_,⟨_,e⟩,_⟩:=x;exact aK e
theorem h_.stay(x:h_ P w H h a o)(k:∀b u,(b=a\/H b=some (.own a))->h.get? b=some u->h'.get? b=some u)
 (ho:∀b,H b=some (.own a)->H' b=some (.own a))(ht:∀b xs,H b=some (.tup xs)->H' b=some (.tup xs)):h_ P w H' h' a o:=by
 induction o with
 |lst xs=>obtain⟨z,its,n,r,e⟩:=x;exact⟨z,its,n,r,k _ _ (.inl rfl) e⟩
 |tup xs=>obtain⟨z,its,r,ob,e,c⟩:=x;exact⟨z,its,r,ob,k _ _ (.inl rfl) e,c⟩
 |dK kvs=>obtain⟨z,y,vs,r,ob,es,ep,e,c⟩:=x;exact⟨z,y,vs,r,ob,es,ep,k _ _ (.inl rfl) e,c⟩
 |set S n=>obtain⟨ob,es,ep,t,e,c⟩:=x;exact⟨ob,es,ep,t,k _ _ (.inl rfl) e,c⟩
 |ins C dx fs =>
  obtain⟨d,z,ne,e,mA,⟨od,es,ep,e2,c⟩,r⟩:=x;exact⟨ho _ d,z,ne,k _ _ (.inl rfl) e,mA,⟨od,es,ep,k _ _ (.inr d) e2,c⟩,r⟩
 |own y=>obtain⟨ob,e⟩:=x;exact⟨ob,k _ _ (.inl rfl) e⟩
 |xd fs=>obtain⟨mA,⟨od,es,ep,e,c⟩,r⟩:=x;exact⟨mA,⟨od,es,ep,k _ _ (.inl rfl) e,c⟩,r⟩
 |rng lo hi=>obtain⟨t,u,v,e⟩:=x;exact⟨t,u,v,k _ _ (.inl rfl) e⟩
 |frz ob u ih=>obtain⟨e,q⟩:=x;exact⟨k _ _ (.inl rfl) e,ih q⟩
 |tbl ps =>
  have e:h.get? a=some { cls:=.none,data:=.fields ps }:=x;show h'.get? a=some { cls:=.none,data:=.fields ps };exact k a _ (.inl rfl) e
 |met f y =>
  have e:h.get? a=some (methodObj (.ref f) (.ref y)):=x;show h'.get? a=some (methodObj (.ref f) (.ref y));exact k a _ (.inl rfl) e
 |ext φ=>obtain⟨p,⟨o,e⟩,st⟩:=x;exact⟨st _ _ p λo q=>k _ _ (.inl rfl) q,⟨o,k _ _ (.inl rfl) e⟩,st⟩
theorem HOk.lt(x:HOk P w H h)(e:H a=some o):a<h.objs.size:=(x a o e).lt
theorem HOk.fresh(x:HOk P w H h)(e:h.objs.size<=a):H a=none:=by
 cases q:H a with
 |none=>rfl
 |some u=>exact absurd (aR (x.lt q) e) (X2 _)
theorem HOk.kept(x:HOk P w H h)(k:∀b u,h.get? b=some u->h'.get? b=some u):HOk P w H h':=λa o e =>
 (x a o e).stay (λb u _ q=>k b u q) (λ_ q=>q) λ_ _ q=>q
theorem HOk.laid(x:HOk P w H h)(k:∀b u,h.get? b=some u->h'.get? b=some u)(hp:h.objs.size<=a)(new:h_ P w (upd H a o) h' a o):HOk P w (upd H a o) h':=λb u e=>by
 have hn:=x.fresh hp;by_cases hb:b=a
 .subst hb;rw[cL]at e;cases e;exact new
 .rw[cD hb]at e;exact(x b u e).stay (λc v _ q=>k c v q) (λc q=>by rw[cD (n8 q hn)];exact q) λc xs q=>by rw[cD (n8 q hn)];exact q
end
def Rd(H:Hp)(a:Addr)(u:HO):Prop:=H a=some u\/∃o,H a=some (.frz o u)
theorem Rd.ok{P:Program}{w:World}{H:Hp}{h:Heap}{a:Addr}{u:HO}(r:Rd H a u)(x:HOk P w H h):h_ P w H h a u:=by
 rcases r with r|⟨o,r⟩
 .exact x a u r
 .obtain⟨_,q⟩:=x a _ r;exact q
def Mut:Option HO->Prop
 |some (.lst _)=>True
 |some (.dK _)=>True
 |some (.set _ _)=>True
 |some (.ins _ _ _)=>True
 |some (.ext _)=>True
 |_=>False
section
variable{P:Program}{w:World}{H:Hp}{h h':Heap}{x e:Addr}{o':HO}
theorem HOk.write(ok:HOk P w H h)(mu:Mut (H x))(he:e=x\/H e=some (.own x))(k:∀b u,b≠e->h.get? b=some u->h'.get? b=some u)(ie:∃u,h'.get? e=some u)
 (new:h_ P w (upd H x o') h' x o'):HOk P w (upd H x o') h':=λb u q=>by
 have iA:∀c y,H c=some (.own y)->c≠x:=λc y r z=>by subst z;rw[r]at mu;exact mu
 have kM:∀c xs,H c=some (.tup xs)->c≠x:=λc xs r z=>by subst z;rw[r]at mu;exact mu
 by_cases hb:b=x
 .subst hb;rw[cL]at q;cases q;exact new
 .rw[cD hb]at q;by_cases hbe:b=e
  .have q':H b=some (.own x):=by
    rcases he with z|z
    .exact absurd (hbe.trans z) hb
    .rw[hbe];exact z
   rw[q]at q';cases q';obtain⟨v,hv⟩:=ie;exact⟨v,by rw[hbe];exact hv⟩
  .refine(ok b u q).stay (λc v hc r=>k c v ?_ r) (λc r=>by rw[cD (iA c b r)];exact r) λc xs r=>by rw[cD (kM c xs r)];exact r
   rcases hc with rfl|hc
   .exact hbe
   .rintro rfl;rcases he with z|z
    .exact iA c b hc z
    .rw[hc]at z;cases z;exact hb rfl
end
structure Un(fs ex:Ψ)(H H':Hp)(h h':Heap):Prop where
 keep:∀b o,h.get? b=some o->H b=none->b∉fs->b∉ex->h'.get? b=some o
 slot:∀b o,h.get? b=some o->H b=none->b∈fs->b∉ex->∃sl,h'.get? b=some { o with slots:=sl }
 free:∀b o,h.get? b=some o->H b=none->b∉ex->H' b=none
 there:∀b o,h.get? b=some o->b∉ex->∃o',h'.get? b=some o'
 tups:∀b xs,H b=some (.tup xs)->H' b=some (.tup xs)
 frzs:∀b o u,H b=some (.frz o u)->H' b=some (.frz o u)
 tbls:∀b ps,H b=some (.tbl ps)->∃more,H' b=some (.tbl (ps++more))
section
variable{fs fs' ex ex':Ψ}{H H1 H2:Hp}{h h1 h2 h':Heap}{a x e:Addr}{o:HO}
theorem Un.any(u:Un fs ex H H1 h h1){b:Addr}{ob:Obj}(q:h.get? b=some ob)(n:H b=none)(hx:b∉ex):∃sl,h1.get? b=some { ob with slots:=sl }:=by
 by_cases hb:b∈fs
 .exact u.slot b ob q n hb hx
 .exact⟨ob.slots,u.keep b ob q n hb hx⟩
theorem Un.kept(k:∀b u,h.get? b=some u->h'.get? b=some u):Un fs ex H H h h' :=
 ⟨λb ob q _ _ _=>k b ob q,λb ob q _ _ _=>⟨ob.slots,k b ob q⟩,λ_ _ _ n _=>n,λb ob q _=>⟨ob,k b ob q⟩,λ_ _ q=>q,λ_ _ _ q=>q,λ_ ps q=>⟨#[],by rw[q];simp⟩⟩
theorem Un.refl:Un fs ex H H h h:=Un.kept λ_ _ q=>q
theorem Un.laid(k:∀b u,h.get? b=some u->h'.get? b=some u)(hp:h.objs.size<=a)(hn:H a=none):Un fs ex H (upd H a o) h h' where
 keep:=λb u q _ _ _=>k b u q
 slot:=λb u q _ _ _=>⟨u.slots,k b u q⟩
 free:=λb u q n _=>by rw[cD (aQ (aR (aK q) hp))];exact n
 there:=λb u q _=>⟨u,k b u q⟩
 tups:=λb xs q=>by rw[cD (n8 q hn)];exact q
 frzs:=λb u xs q=>by rw[cD (n8 q hn)];exact q
 tbls:=λb ps q=>⟨#[],by rw[cD (n8 q hn),q];simp⟩
theorem Un.write(mu:Mut (H x))(he:e=x\/H e=some (.own x))(k:∀b u,b≠e->h.get? b=some u->h'.get? b=some u)(ie:∃u,h'.get? e=some u):Un fs ex H (upd H x o) h h':=by
 have hx:∀b,H b=none->b≠x:=λb n z=>by subst z;rw[n]at mu;exact mu
 have hb:∀b,H b=none->b≠e:=λb n z=>by
  subst z;rcases he with r|r
  .exact hx b n r
  .rw[n]at r;cases r
 have hm:∀b u,H b=some u->¬Mut (some u)->b≠x:=λb u q nm z=>by subst z;rw[q]at mu;exact nm mu
 refine⟨λb u q n _ _=>k b u (hb b n) q,λb u q n _ _=>⟨u.slots,k b u (hb b n) q⟩,λb u q n _=>by rw[cD (hx b n)];exact n,λb u q _=>?_,
  λb xs q=>by rw[cD (hm b _ q λz=>z)];exact q,λb u xs q=>by rw[cD (hm b _ q λz=>z)];exact q,λb ps q=>⟨#[],by rw[cD (hm b _ q λz=>z),q];simp⟩⟩
 by_cases hbe:b=e
 .subst hbe;exact ie
 .exact⟨u,k b u hbe q⟩
end
def trk(h:Heap)(H:Hp):Ψ:=(List.range h.objs.size).filter λa=>(H a).isSome
def Ot(h:Heap)(H:Hp):Heap:=PySem.W.hideAll h (trk h H)
theorem Zw(h:Heap)(H:Hp):(Ot h H).objs.size=h.objs.size:=PySem.W.hideAll_size _ _
theorem aaY{h:Heap}{H:Hp}{b:Addr}{o:Obj}(e:h.get? b=some o)(n:H b=none):(Ot h H).get? b=some o :=
 PySem.W.hideAll_get _ e λhm=>by
  have q:(H b).isSome=true:=(List.mem_filter.mp hm).2;rw[n]at q;simp at q
theorem adl{h:Heap}{H:Hp}{b:Addr}{o:Obj}(e:(Ot h H).get? b=some o):h.get? b=some o/\H b=none:=by
 have e':h.get? b=some o:=PySem.W.of_hideAll (trk h H) e;refine⟨e',?_⟩;cases q:H b with
 |none=>rfl
 |some x =>
  have hm:b∈trk h H:=List.mem_filter.mpr ⟨List.mem_range.mpr (aK e'),by simp[q]⟩;have z:(Ot h H).get? b=none:=PySem.W.hideAll_none (trk h H) hm;rw[z]at e;cases e
def ac2(g h:Heap)(L:Addr):Δ:=(List.range h.objs.size).filterMap λa=>if a=L\/(g.get? a).isSome=true then none else(h.get? a).map λo=>(a,o)
def rest(g h:Heap)(L d:Addr):Δ:=(ac2 g h L).filter λp=>decide (p.1≠d)
structure Mod(K:Frag)(mg:Str->Ω)(base:Heap):Prop where
 kin:K.In base
 glob:base.Ns mainGlobals mg
 blt:∃mb,base.Ns builtinsNs mb/\∀x:Str,x≠"__name__"->mb x=bootBuiltins x
 nolimit:base.NoLimit
structure Cx where
 prog:Program
 w:World
 K:Frag
 mg:Str->Ω
 base:Heap
 A:Around
 N:Φ
 s₀:Shared
 H₀:Hp
 env:Env
 outer:List Env
 stack:List Env
 ex:Ψ
 fn:Str->Bool
 calm:Bool
 pn:Δ
 xe:Ε
def frs(l:List Env):Ψ:=l.filterMap (·.frame)
abbrev Cx.fs(X:Cx):Ψ:=frs X.outer
def Vis(sc:Scope)(x:Str):Prop:=sc.names.lookup x=some .local\/sc.names.lookup x=some .cell\/sc.names.lookup x=some .free
def Loc(sc:Scope)(x:Str):Prop:=sc.names.lookup x=some .local\/sc.names.lookup x=some .cell
def Look(env:Env)(h:Heap)(m:Str->Ω)(x:Str)(u:Value):Prop :=
 (env.kindOf x=some .local/\m x=some u)\/((env.kindOf x=some .cell\/env.kindOf x=some .free)/\∃c,env.cells.lookup x=some c/\h.IsCell c (some u))
structure Cx.Ok(X:Cx):Prop where
 mod:Mod X.K X.mg X.base
 kind:X.env.scope.kind=.function
 glob:X.env.globals=mainGlobals
 blt:X.env.builtins=builtinsNs
 above:X.s₀.heap.objs.size<=X.env.locals
 inj:∀x y c,X.env.cells.lookup x=some c->X.env.cells.lookup y=some c->x=y
 has:∀x,(X.env.kindOf x=some .cell\/X.env.kindOf x=some .free)->∃c,X.env.cells.lookup x=some c
 cab:∀x c,X.fn x=true->X.env.cells.lookup x=some c->X.s₀.heap.objs.size<=c
 hd:X.calm=true->X.A.handled=none
 frames:X.A.frames=some X.stack
 stk:X.stack=X.outer\/(X.stack=X.env::X.outer/\X.env.frame=some X.env.locals)
 exf:∀b∈X.ex,b≠X.env.locals/\∀x c,X.env.cells.lookup x=some c->c≠b
 bs:∀b o,X.base.get? b=some o->X.s₀.heap.get? b=some o/\X.H₀ b=none
 bsz:X.base.objs.size<=X.s₀.heap.objs.size
 noex:∀b o,X.base.get? b=some o->b∉X.ex
 exfs:∀b∈X.ex,b∉X.fs
 funs:X.s₀.heap.FunFrames X.base X.outer
 frf:∀b∈X.fs,X.H₀ b=none
structure Inv(X:Cx)(aa:Δ)(σ:List (Option V))(H:Hp)(s:Shared):Prop where
 ok:X.Ok
 os:s.os=X.s₀.os
 bare:AllBare s.gens
 base:Un X.fs X.ex X.H₀ H X.s₀.heap s.heap
 loc:∃m,s.heap.Ns X.env.locals m/\∀(i:Nat)(x:Str)(v:V),X.N[i]?=some x->σ[i]?=some (some v)->Vis X.env.scope x->∃u,RelV v u/\Look X.env s.heap m x u
 cell:∀x c,X.env.cells.lookup x=some c->∃v,s.heap.IsCell c v
 free:H X.env.locals=none
 freeC:∀x c,X.env.cells.lookup x=some c->H c=none
 pin:∀p∈X.pn++aa,s.heap.get? p.1=some p.2/\H p.1=none/\p.1≠X.env.locals/\p.1∉X.fs/\∀v,p.2.data≠.cell v
 hok:HOk X.prog X.w H s.heap
 len:σ.length=X.N.length
section
variable{X:Cx}{aa:Δ}{σ:List (Option V)}{H H':Hp}{s:Shared}{h':Heap}
theorem Cx.Ok.nofr(ok:X.Ok){b:Addr}{o:Obj}(e:X.base.get? b=some o):b∉X.fs:=λhb=>by
 have:=(ok.funs.mem hb).1;rw[e]at this;cases this
theorem Inv.bs(I:Inv X aa σ H s):∀b o,X.base.get? b=some o->s.heap.get? b=some o/\H b=none:=λb o e =>
 ⟨I.base.keep b o (I.ok.bs b o e).1 (I.ok.bs b o e).2 (I.ok.nofr e) (I.ok.noex b o e),I.base.free b o (I.ok.bs b o e).1 (I.ok.bs b o e).2 (I.ok.noex b o e)⟩
theorem Inv.bk(I:Inv X aa σ H s):∀b o,X.base.get? b=some o->s.heap.get? b=some o:=λb o e=>(I.bs b o e).1
theorem Inv.mod(I:Inv X aa σ H s):Mod X.K X.mg X.base:=I.ok.mod
theorem Inv.kIn(I:Inv X aa σ H s):X.K.In s.heap:=I.ok.mod.kin.keeps I.bk
theorem Inv.lt(I:Inv X aa σ H s):X.env.locals<s.heap.objs.size:=by obtain⟨_,hn,_⟩:=I.loc;exact hn.lt
theorem Inv.sz(I:Inv X aa σ H s):X.s₀.heap.objs.size<=s.heap.objs.size:=aL I.ok.above (Y2 I.lt)
theorem Inv.nofs(I:Inv X aa σ H s){a:Addr}(h:s.heap.objs.size<=a):a∉X.fs:=λhb=>by
 obtain⟨_,o,ho,_⟩:=I.ok.funs.mem hb;exact absurd (aR (aK ho) (aL I.sz h)) (X2 _)
theorem Inv.cne(I:Inv X aa σ H s):∀x c,X.env.cells.lookup x=some c->c≠X.env.locals:=λx c e z=>by
 obtain⟨v,o,ho,hd⟩:=I.cell x c e;obtain⟨m,⟨o',es,ep,du,bz,_⟩,_⟩:=I.loc;rw[z,du]at ho;cases ho;rw[bz]at hd;cases hd
theorem Inv.funs(I:Inv X aa σ H s):s.heap.FunFrames X.base X.outer:=by
 have all:∀(l:List Env),(∀b∈frs l,b∈X.fs)->X.s₀.heap.FunFrames X.base l->s.heap.FunFrames X.base l:=by
  intro l
  induction l with
  |nil=>intro _ _;trivial
  |cons env r ih =>
   intro hs hl;obtain⟨hk,⟨L,o,hf,hn,ho,hd⟩,hr⟩:=hl;have hL:L∈X.fs:=hs L (by unfold frs;rw[List.filterMap_cons,hf];exact aO);obtain⟨sl,e⟩:=I.base.slot L o ho (I.ok.frf L hL) hL λz=>I.ok.exfs L z hL;exact⟨hk,⟨L,_,hf,hn,e,hd⟩,ih (λb hb=>hs b (by unfold frs;rw[List.filterMap_cons,hf];exact aJ _ hb)) hr⟩
 exact all X.outer (λ_ hb=>hb) I.ok.funs
theorem Inv.stack(I:Inv X aa σ H s):s.heap.FunFrames X.base X.stack:=by
 rcases I.ok.stk with e|⟨e,hf⟩
 .rw[e];exact I.funs
 .rw[e];obtain⟨m,hn,_⟩:=I.loc;refine .cons (by rw[I.ok.kind];decide) hf hn ?_ I.funs;exact Heap.get?_none_of_le (aL I.ok.bsz I.ok.above)
theorem Inv.stkSub(I:Inv X aa σ H s):∀b∈frs X.stack,b∈X.env.locals::X.fs:=λb hb=>by
 rcases I.ok.stk with e|⟨e,hf⟩
 .rw[e]at hb;exact aJ _ hb
 .rw[e]at hb;unfold frs at hb;rw[List.filterMap_cons,hf]at hb;exact hb
theorem Inv.stkFree(I:Inv X aa σ H s):∀b∈frs X.stack,H b=none:=λb hb=>by
 rcases YU.mp (I.stkSub b hb)with e|hb
 .rw[e];exact I.free
 .obtain⟨_,o,ho,_⟩:=I.ok.funs.mem hb;exact I.base.free b o ho (I.ok.frf b hb) λz=>I.ok.exfs b z hb
theorem Inv.step{g':Array GenState}{t':Nat}{d':Drawn}{ch:Ψ}(I:Inv X aa σ H s)
 (fy:∀b∈ch,(b∈X.ex\/X.s₀.heap.objs.size<=b)/\b≠X.env.locals/\(∀x c,X.env.cells.lookup x=some c->c≠b)/\∀p∈X.pn++aa,p.1≠b)
 (keep:∀b o,b≠X.env.locals->b∉X.fs->b∉ch->s.heap.get? b=some o->H b=none->h'.get? b=some o)
 (slot:∀b o,b≠X.env.locals->b∈X.fs->b∉ch->s.heap.get? b=some o->H b=none->∃sl,h'.get? b=some { o with slots:=sl })(free:∀b o,b∉ch->s.heap.get? b=some o->H b=none->H' b=none)
 (there:∀b o,b∉ch->s.heap.get? b=some o->∃o',h'.get? b=some o')
 (tups:∀b xs,H b=some (.tup xs)->H' b=some (.tup xs))(frzs:∀b o u,H b=some (.frz o u)->H' b=some (.frz o u))(tbls:∀b ps,H b=some (.tbl ps)->∃more,H' b=some (.tbl (ps++more)))
 (ns:∀m,s.heap.Ns X.env.locals m->h'.Ns X.env.locals m)(hok:HOk X.prog X.w H' h')(hg:AllBare g') :
  Inv X aa σ H' { s with heap:=h',gens:=g',drawn:=d',toks:=t' }:=by
 have neL:∀b o,X.s₀.heap.get? b=some o->b≠X.env.locals:=λb o e=>aQ (aR (aK e) I.ok.above);have kc:∀b o,X.s₀.heap.get? b=some o->b∉X.ex->b∉ch:=λb o e hx hb=>by
  rcases(fy b hb).1 with z|z
  .exact hx z
  .exact absurd (aR (aK e) z) (X2 _)
 have gE:∀x c,X.env.cells.lookup x=some c->∀v,s.heap.IsCell c v->h'.IsCell c v:=λx c e v hP=>by
  obtain⟨o,ho,hd⟩:=hP;have iN:c∉ch:=λz=>(fy c z).2.2.1 x c e rfl;by_cases hc:c∈X.fs
  .obtain⟨sl,q⟩:=slot c o (I.cne x c e) hc iN ho (I.freeC x c e);exact⟨_,q,hd⟩
  .exact⟨o,keep c o (I.cne x c e) hc iN ho (I.freeC x c e),hd⟩
 refine⟨I.ok,I.os,hg,⟨λb o e n hb hx=>?_,λb o e n hb hx=>?_,λb o e n hx=>?_,λb o e hx=>?_,λb xs e=>tups b xs (I.base.tups b xs e),λb o xs e=>frzs b o xs (I.base.frzs b o xs e),λb ps e=>?_⟩,?_,λx c e=>?_,?_,λx c e=>?_,λp hp=>?_,hok,I.len⟩
 .exact keep b o (neL b o e) hb (kc b o e hx) (I.base.keep b o e n hb hx) (I.base.free b o e n hx)
 .obtain⟨sl,e1⟩:=I.base.slot b o e n hb hx;obtain⟨j3,e2⟩:=slot b _ (neL b o e) hb (kc b o e hx) e1 (I.base.free b o e n hx);exact⟨j3,e2⟩
 .obtain⟨o',e1⟩:=I.base.there b o e hx;exact free b o' (kc b o e hx) e1 (I.base.free b o e n hx)
 .obtain⟨o',e1⟩:=I.base.there b o e hx;exact there b o' (kc b o e hx) e1
 .obtain⟨m1,e1⟩:=I.base.tbls b ps e;obtain⟨m2,e2⟩:=tbls b _ e1;exact⟨m1++m2,by rw[e2,Array.append_assoc]⟩
 .obtain⟨m,hn,hl⟩:=I.loc;refine⟨m,ns m hn,λi x v e1 e2 e3=>?_⟩;obtain⟨u,r,l⟩:=hl i x v e1 e2 e3;refine⟨u,r,?_⟩;rcases l with l|⟨k,c,e,z⟩
  .exact .inl l
  .exact .inr ⟨k,c,e,gE x c e _ z⟩
 .obtain⟨v,z⟩:=I.cell x c e;exact⟨v,gE x c e v z⟩
 .obtain⟨m,⟨o,_,_,ho,_⟩,_⟩:=I.loc;exact free _ o (λz=>(fy _ z).2.1 rfl) ho I.free
 .obtain⟨v,o,ho,hd⟩:=I.cell x c e;exact free c o (λz=>(fy c z).2.2.1 x c e rfl) ho (I.freeC x c e)
 .obtain⟨e,n,ne,nf,d⟩:=I.pin p hp;have iN:p.1∉ch:=λz=>(fy p.1 z).2.2.2 p hp rfl;exact⟨keep p.1 p.2 ne nf iN e n,free p.1 p.2 iN e n,ne,nf,d⟩
theorem Inv.un{t':Nat}(I:Inv X aa σ H s)(u:Un X.fs [] H H' s.heap h')(hok:HOk X.prog X.w H' h'):Inv X aa σ H' { s with heap:=h',toks:=t' }:=by
 obtain⟨m,⟨o,es,ep,ho,r⟩,_⟩:=id I.loc;obtain⟨sl,hL⟩:=u.any ho I.free (by simp);exact I.step (g':=s.gens) (d':=s.drawn) (ch:=[]) (λ_ z=>nomatch z) (λb o _ hb _ e n=>u.keep b o e n hb (by simp)) (λb o _ hb _ e n=>u.slot b o e n hb (by simp)) (λb o _ e n=>u.free b o e n (by simp)) (λb o _ e=>u.there b o e (by simp)) u.tups u.frzs u.tbls (λm' hm=>by
  obtain⟨o',fq,m3,du,r'⟩:=hm;rw[ho]at du;cases du;exact⟨_,fq,m3,hL,r'⟩) hok I.bare
theorem Inv.call{g':Array GenState}{t':Nat}{d':Drawn}{ch:Ψ}(I:Inv X aa σ H s)(u:Un (frs X.stack) ch H H' s.heap h')(hok:HOk X.prog X.w H' h')(hg:AllBare g')
 (fy:∀b∈ch,(b∈X.ex\/X.s₀.heap.objs.size<=b)/\b≠X.env.locals/\(∀x c,X.env.cells.lookup x=some c->c≠b)/\∀p∈X.pn++aa,p.1≠b) :
  Inv X aa σ H' { s with heap:=h',gens:=g',drawn:=d',toks:=t' }:=by
 obtain⟨m,⟨o,es,ep,ho,r⟩,_⟩:=id I.loc;obtain⟨sl,hL⟩:=u.any ho I.free λz=>(fy _ z).2.1 rfl;exact I.step (ch:=ch) fy (λb o hL hb hc e n=>u.keep b o e n (λz=>(YU.mp (I.stkSub b z)).elim hL hb) hc) (λb o _ _ hc e n=>u.any e n hc) (λb o hc e n=>u.free b o e n hc) (λb o hc e=>u.there b o e hc) u.tups u.frzs u.tbls (λm' hm=>by
  obtain⟨o',fq,m3,du,r'⟩:=hm;rw[ho]at du;cases du;exact⟨_,fq,m3,hL,r'⟩) hok hg
theorem Inv.turned{t':Nat}{it:Addr}(I:Inv X aa σ H s)(k:∀b o,b≠it->s.heap.get? b=some o->h'.get? b=some o)(hn:H it=none)(hL:it≠X.env.locals)
 (h1:it∈X.ex\/X.s₀.heap.objs.size<=it)(h2:∀x c,X.env.cells.lookup x=some c->c≠it)(h3:∀p∈X.pn++aa,p.1≠it):Inv X aa σ H { s with heap:=h',toks:=t' }:=by
 have iL:∀b u,H b=some u->b≠it:=λb u e z=>by rw[z,hn]at e;cases e
 refine I.step (g':=s.gens) (d':=s.drawn) (ch:=[it]) (λb hb=>?_) (λb o _ _ hc e _=>k b o (λz=>hc (by simp[z])) e) (λb o _ _ hc e _=>⟨o.slots,k b o (λz=>hc (by simp[z])) e⟩) (λ_ _ _ _ n=>n)
  (λb o hc e=>⟨o,k b o (λz=>hc (by simp[z])) e⟩) (λ_ _ e=>e) (λ_ _ _ e=>e) (λb ps e=>⟨#[],by rw[e];simp⟩) (λm hm=>?_) (λb u e=>?_) I.bare
 .have e:b=it:=by simpa using hb
  subst e;exact⟨h1,hL,h2,h3⟩
 .obtain⟨o,es,ep,ho,r⟩:=hm;exact⟨o,es,ep,k _ o (Ne.symm hL) ho,r⟩
 .refine(I.hok b u e).stay (λc v hc q=>k c v ?_ q) (λ_ q=>q) λ_ _ q=>q;rcases hc with z|z
  .rw[z];exact iL b u e
  .exact iL c _ z
theorem Inv.tok(I:Inv X aa σ H s)(t:Nat):Inv X aa σ H { s with toks:=t }:=I.un (h':=s.heap) (t':=t) Un.refl I.hok
theorem Inv.kept{t':Nat}(I:Inv X aa σ H s)(k:∀b u,s.heap.get? b=some u->h'.get? b=some u):Inv X aa σ H { s with heap:=h',toks:=t' }:=I.un (Un.kept k) (I.hok.kept k)
theorem Inv.laid{a:Addr}{o:HO}{t':Nat}(I:Inv X aa σ H s)(k:∀b u,s.heap.get? b=some u->h'.get? b=some u)(hp:s.heap.objs.size<=a)(new:h_ X.prog X.w (upd H a o) h' a o) :
  Inv X aa σ (upd H a o) { s with heap:=h',toks:=t' }:=I.un (Un.laid k hp (I.hok.fresh hp)) (I.hok.laid k hp new)
theorem Inv.write{x e:Addr}{o:HO}{t':Nat}(I:Inv X aa σ H s)(mu:Mut (H x))(he:e=x\/H e=some (.own x))(k:∀b u,b≠e->s.heap.get? b=some u->h'.get? b=some u)(ie:∃u,h'.get? e=some u)
 (new:h_ X.prog X.w (upd H x o) h' x o):Inv X aa σ (upd H x o) { s with heap:=h',toks:=t' }:=I.un (Un.write mu he k ie) (I.hok.write mu he k ie new)
theorem Inv.pins_of{gf:Δ}(I:Inv X aa σ H s)(h:∀p∈gf,s.heap.get? p.1=some p.2/\H p.1=none/\p.1≠X.env.locals/\p.1∉X.fs/\∀v,p.2.data≠.cell v):Inv X gf σ H s :=
 ⟨I.ok,I.os,I.bare,I.base,I.loc,I.cell,I.free,I.freeC,λp hp=>(Y1.mp hp).elim (λz=>I.pin p (UQ _ z)) (h p),I.hok,I.len⟩
theorem Tp{N:Φ}(hN:N.Nodup){i j:Nat}{x:Str}(a:N[i]?=some x)(b:N[j]?=some x):i=j:=by
 obtain⟨h1,e1⟩:=ao.mp a;obtain⟨h2,e2⟩:=ao.mp b;exact(List.getElem_inj hN).mp (e1.trans e2.symm)
abbrev qi(X:Cx)(a:Str):Prop:=X.fn a=true\/X.env.scope.names.lookup a=some .local
theorem ZS{M:Model}{A:Around}{E:Ε}{i:Nat}{x:Str}{v:V}{u:Value}{Q:Unit->Shared->Prop}(I:Inv X aa σ H s)(hN:X.N.Nodup)(hi:X.N[i]?=some x)(hx:Loc X.env.scope x)(r:RelV v u)
 (h:∀s',Inv X aa (σ.set i (some v)) H s'->(∃a,Heap.SameBut a s.heap s'.heap/\(a=X.env.locals\/X.env.cells.lookup x=some a))->Q () s')(hf:qi X x):wpAny M A (storeName X.env x u) Q E s:=by
 obtain⟨m,hn,hl⟩:=id I.loc;have mm:(X.env.scope.kind == .class || (X.env.scope.kind == .module&&X.env.locals != X.env.globals))=false:=by rw[I.ok.kind];rfl
 have hiσ:i<σ.length:=by rw[I.len];exact(ao.mp hi).1
 have cne:=I.cne;have dQ:∀{a:Addr}{h':Heap},(∃o,s.heap.get? a=some o/\H a=none)->Heap.SameBut a s.heap h'->HOk X.prog X.w H h':=λ{a h'}ha hs b ob e=>by
  obtain⟨_,_,cf⟩:=ha;refine(I.hok b ob e).stay (λc w' hc q=>(hs.2 c ?_).trans q) (λ_ q=>q) λ_ _ q=>q;rintro rfl;rcases hc with rfl|hc
  .rw[cf]at e;cases e
  .rw[cf]at hc;cases hc
 rcases hx with hk|hk
 .refine wpAny_storeName_local hk hn (λh' hn' hs=>?_) mm;obtain⟨oL,_,_,hoL,_⟩:=id hn;refine h _ ⟨I.ok,I.os,I.bare,⟨λb o e n hb hx=>?_,λb o e n hb hx=>?_,I.base.free,λb o e hx=>?_,I.base.tups,I.base.frzs,I.base.tbls⟩,⟨_,hn',λj y v' e1 e2 e3=>?_⟩,λy c e=>?_,I.free,I.freeC,λp hp=>?_,dQ ⟨oL,hoL,I.free⟩ hs,by simpa using I.len⟩ ⟨_,hs,.inl rfl⟩
  .exact(hs.2 b (aQ (aR (aK e) I.ok.above))).trans (I.base.keep b o e n hb hx)
  .obtain⟨sl,e1⟩:=I.base.slot b o e n hb hx;exact⟨sl,(hs.2 b (aQ (aR (aK e) I.ok.above))).trans e1⟩
  .obtain⟨o',e1⟩:=I.base.there b o e hx;exact⟨o',(hs.2 b (aQ (aR (aK e) I.ok.above))).trans e1⟩
  .by_cases hj:j=i
   .subst hj;rw[hi]at e1;cases e1;rw[UU hiσ]at e2;cases e2;exact⟨u,r,.inl ⟨hk,by simp⟩⟩
   .rw[VV (Ne.symm hj)]at e2;obtain⟨u',r',q⟩:=hl j y v' e1 e2 e3;refine⟨u',r',?_⟩;rcases q with⟨k,e⟩|⟨k,c,e,z⟩
    .refine .inl ⟨k,?_⟩;have:y≠x:=λe=>hj (Tp hN e1 (e ▸ hi));simp[this,e]
    .exact .inr ⟨k,c,e,z.sameBut hs (cne y c e)⟩
  .obtain⟨w',z⟩:=I.cell y c e;exact⟨w',z.sameBut hs (cne y c e)⟩
  .obtain⟨e,n,ne,nf,d⟩:=I.pin p hp;exact⟨(hs.2 p.1 ne).trans e,n,ne,nf,d⟩
 .have i':X.fn x=true:=by
   rcases hf with z|z
   .exact z
   .rw[z]at hk;cases hk
  obtain⟨c,hc⟩:=I.ok.has x (.inl hk);obtain⟨w',z⟩:=I.cell x c hc;refine wpAny_storeName_cell I.ok.kind hk hc z (λh' dq hs=>?_);obtain⟨oc,hoc,k8⟩:=id z;refine h { s with heap:=h' } ⟨I.ok,I.os,I.bare,⟨λb o e n hb hx=>?_,λb o e n hb hx=>?_,I.base.free,λb o e hx=>?_,I.base.tups,I.base.frzs,I.base.tbls⟩,⟨m,hn.sameBut hs (Ne.symm (cne x c hc)),λj y v' e1 e2 e3=>?_⟩,λy c' e=>?_,I.free,I.freeC,λp hp=>?_,dQ ⟨oc,hoc,I.freeC x c hc⟩ hs,by simpa using I.len⟩ ⟨c,hs,.inr hc⟩
  .exact(hs.2 b (aQ (aR (aK e) (I.ok.cab x c i' hc)))).trans (I.base.keep b o e n hb hx)
  .obtain⟨sl,e1⟩:=I.base.slot b o e n hb hx;exact⟨sl,(hs.2 b (aQ (aR (aK e) (I.ok.cab x c i' hc)))).trans e1⟩
  .obtain⟨o',e1⟩:=I.base.there b o e hx;exact⟨o',(hs.2 b (aQ (aR (aK e) (I.ok.cab x c i' hc)))).trans e1⟩
  .by_cases hj:j=i
   .subst hj;rw[hi]at e1;cases e1;rw[UU hiσ]at e2;cases e2;exact⟨u,r,.inr ⟨.inl hk,c,hc,dq⟩⟩
   .rw[VV (Ne.symm hj)]at e2;obtain⟨u',r',q⟩:=hl j y v' e1 e2 e3;refine⟨u',r',?_⟩;rcases q with q|⟨k,c',e,z'⟩
    .exact .inl q
    .refine .inr ⟨k,c',e,z'.sameBut hs ?_⟩;rintro rfl;exact hj (Tp hN e1 (I.ok.inj _ _ _ e hc ▸ hi))
  .by_cases kn:c'=c
   .subst kn;exact⟨_,dq⟩
   .obtain⟨w2,z2⟩:=I.cell y c' e;exact⟨w2,z2.sameBut hs kn⟩
  .obtain⟨e,n,ne,nf,d⟩:=I.pin p hp;refine⟨(hs.2 p.1 ?_).trans e,n,ne,nf,d⟩;intro q;rw[q,hoc]at e;have q':oc=p.2:=Option.some.inj e;exact d w' (by rw[<- q'];exact k8)
theorem xK{M:Model}{A:Around}{E:Ε}{i:Nat}{x:Str}{v:V}{u:Value}{Q:Unit->Shared->Prop}(I:Inv X aa σ H s)(hN:X.N.Nodup)(hi:X.N[i]?=some x)(hx:Loc X.env.scope x)(r:RelV v u)
 (h:∀s',Inv X aa (σ.set i (some v)) H s'->Q () s')(hf:qi X x:=by first|exact .inl rfl|exact .inr rfl|assumption):wpAny M A (storeName X.env x u) Q E s :=
 ZS I hN hi hx r (λs' I' _=>h s' I') hf
theorem Inv.call'{s':Shared}{ch:Ψ}(I:Inv X aa σ H s)(ho:s'.os=s.os)(u:Un (frs X.stack) ch H H' s.heap s'.heap)(hok:HOk X.prog X.w H' s'.heap)(hg:AllBare s'.gens)
 (fy:∀b∈ch,(b∈X.ex\/X.s₀.heap.objs.size<=b)/\b≠X.env.locals/\(∀x c,X.env.cells.lookup x=some c->c≠b)/\∀p∈X.pn++aa,p.1≠b):Inv X aa σ H' s':=by
 obtain⟨h',g',d',t',o'⟩:=s';have e:o'=s.os:=ho;subst e;exact I.call (g':=g') (t':=t') (d':=d') u hok hg fy
end
abbrev XK:=Value->Ξ->Hp->Prop
abbrev St:=List (Option V)
abbrev VK:=V->Hp->Prop
abbrev TE:=St->Hp->VK->Prop
abbrev TT:=St->Hp->(Bool->Hp->Prop)->Prop
abbrev TA:=St->Hp->(Ζ->Hp->Prop)->Prop
structure Ends where
 nx:St->Hp->Prop
 rt:VK
 bk:St->Hp->Prop:=λ_ _=>False
 ct:St->Hp->Prop:=λ_ _=>False
abbrev TS:=Ends->St->Hp->Prop
def EP(X:Cx)(aa:Δ)(σ:St)(Q:VK)(u:Value)(s':Shared):Prop:=∃v H',Inv X aa σ H' s'/\RelV v u/\Q v H'
def TP(X:Cx)(aa:Δ)(σ:St)(Q:Bool->Hp->Prop)(b:Bool)(s':Shared):Prop:=∃H',Inv X aa σ H' s'/\Q b H'
def AP(X:Cx)(aa:Δ)(σ:St)(Q:Ζ->Hp->Prop)(us:Θ)(s':Shared):Prop:=∃vs H',Inv X aa σ H' s'/\Vals vs us/\Q vs H'
def SP(X:Cx)(aa:Δ)(D:Ends)(f:Flow)(s':Shared):Prop :=
 match f with
 |.next=>∃σ' H',Inv X aa σ' H' s'/\D.nx σ' H'
 |.brk=>∃σ' H',Inv X aa σ' H' s'/\D.bk σ' H'
 |.cont=>∃σ' H',Inv X aa σ' H' s'/\D.ct σ' H'
 |.ret u=>∃v σ' H',Inv X aa σ' H' s'/\RelV v u/\D.rt v H'
def PE(X:Cx)(e:Expr)(t:TE):Prop :=
 ∀(aa:Δ)(s:Shared)(σ:St)(H:Hp)(Q:VK),Inv X aa σ H s->t σ H Q->wpAny (model X.prog X.w) X.A (eval e X.env) (EP X aa σ Q) X.xe s
def PT(X:Cx)(e:Expr)(t:TT):Prop :=
 ∀(aa:Δ)(s:Shared)(σ:St)(H:Hp)(Q:Bool->Hp->Prop),Inv X aa σ H s->t σ H Q->wpAny (model X.prog X.w) X.A (isTrue e X.env (eval e X.env)) (TP X aa σ Q) X.xe s
def PW(X:Cx)(e:Expr)(t:TT):Prop :=
 ∀(c9:Sem Value)(aa:Δ)(s:Shared)(σ:St)(H:Hp)(Q:Bool->Hp->Prop),Inv X aa σ H s->t σ H Q->wpAny (model X.prog X.w) X.A (isTrue e X.env c9) (TP X aa σ Q) X.xe s
theorem PW.pt{X:Cx}{e:Expr}{t:TT}(h:PW X e t):PT X e t:=h _
def PA(X:Cx)(es:List Expr)(t:TA):Prop :=
 ∀(pos:Pos)(aa:Δ)(s:Shared)(σ:St)(H:Hp)(Q:Ζ->Hp->Prop),Inv X aa σ H s->t σ H Q->wpAny (model X.prog X.w) X.A (spliced (backTo pos (starEach es X.env))) (AP X aa σ Q) X.xe s
def PS(X:Cx)(st:Stmt)(t:TS):Prop :=
 ∀(aa:Δ)(s:Shared)(σ:St)(H:Hp)(D:Ends),Inv X aa σ H s->t D σ H->wpAny (model X.prog X.w) X.A (exec st X.env) (SP X aa D) X.xe s
def PSs(X:Cx)(st:List Stmt)(t:TS):Prop :=
 ∀(aa:Δ)(s:Shared)(σ:St)(H:Hp)(D:Ends),Inv X aa σ H s->t D σ H->wpAny (model X.prog X.w) X.A (execs st X.env) (SP X aa D) X.xe s
theorem thn{α:Type}{t:Sem α}{Q Q':α->Shared->Prop}{M:Model}{A:Around}{E:Ε}{s:Shared}(h:wpAny M A t Q E s)(hQ:∀a s,Q a s->Q' a s):wpAny M A t Q' E s:=wpAny_mono h hQ λ_ _ x=>x
section
variable{X:Cx}
def ajO(i:Nat):TE:=λσ H Q=>∃v,σ[i]?=some (some v)/\Q v H
def tC(v:V):TE:=λ_ H Q=>Q v H
abbrev qk(a:Str):Prop:=(a==("__debug__":Str))=false
abbrev qf(a:Str):Prop:=(a==("__classdict__":Str))=false
theorem agS{i:Nat}{x:Str}{pos:Pos}(hN:X.N[i]?=some x)(hv:Vis X.env.scope x)(hd:qk x:=by decide)(bi:qf x:=by decide):PE X (.Name x pos) (ajO i):=by
 intro aa s σ H Q I h;obtain⟨v,e,h⟩:=h;obtain⟨m,hn,hl⟩:=I.loc;obtain⟨u,r,l⟩:=hl i x v hN e hv;have fin:EP X aa σ Q u s:=⟨v,H,I,r,h⟩;rcases l with⟨hk,hm⟩|⟨hk,c,hc,de⟩
 .exact wpAny_Name (wpAny_loadName_local I.ok.kind hk hn hm fin) hd
 .rcases hk with hk|hk
  .exact wpAny_Name (wpAny_loadName_cell I.ok.kind hk hc de fin) hd
  .exact wpAny_Name (wpAny_loadName_free I.ok.kind hk hc de fin bi) hd
theorem agN{i j pos} : PE X (.Constant (.int i) j pos) (tC (.int i)):=λ_ _ _ H _ I h=>wpAny_Constant_int ⟨.int i,H,I.tok _,⟨_,rfl⟩,h⟩
theorem ake{b j pos} : PE X (.Constant (.bool b) j pos) (tC (.bl b)):=λ_ _ _ H _ I h=>Constant_bool ⟨.bl b,H,I,rfl,h⟩
theorem ahr{j pos} : PE X (.Constant .none j pos) (tC .non):=λ_ _ _ H _ I h=>Constant_none ⟨.non,H,I,rfl,h⟩
theorem agM{x j pos} : PE X (.Constant (.str x) j pos) (tC (.str x)):=λ_ _ _ H _ I h=>Calls.Constant_str ⟨.str x,H,I.tok _,⟨_,rfl⟩,h⟩
def Gl(X:Cx)(x:Str):Prop:=X.env.kindOf x=some .globalImplicit
theorem Ip{E:Ε}{aa:Δ}{s:Shared}{σ:St}{H:Hp}{x:Str}{u:Value}{pos:Pos}{Q:Ε}(I:Inv X aa σ H s)(hg:Gl X x)(hm:X.mg x=some u)(h:Q u s)
 (hd:qk x:=by decide):wpAny (model X.prog X.w) X.A (eval (.Name x pos) X.env) Q E s :=
 Calls.Name_function_global I.ok.kind hg (Calls.loadGlobal_global (by rw[I.ok.glob];exact I.mod.glob.keeps I.bk) hm h) hd
theorem Cm{E:Ε}{aa:Δ}{s:Shared}{σ:St}{H:Hp}{x:Str}{u:Value}{pos:Pos}{Q:Ε}(I:Inv X aa σ H s)(hg:Gl X x)(hm:X.mg x=none)(hv:bootBuiltins x=some u)(h:Q u s)
 (hn:x≠"__name__":=by decide)(hd:qk x:=by decide):wpAny (model X.prog X.w) X.A (eval (.Name x pos) X.env) Q E s:=by
 obtain⟨mb,h1,h2⟩:=I.mod.blt;exact Calls.Name_function_global I.ok.kind hg (Calls.loadGlobal_builtin (by rw[I.ok.glob];exact I.mod.glob.keeps I.bk) hm (by rw[I.ok.blt];exact h1.keeps I.bk) ((h2 x hn).trans hv) h) hd
theorem Xl{x:Str}{v:V}{u:Value}{pos:Pos}(hg:Gl X x)(hm:X.mg x=some u)(r:RelV v u)(hd:qk x:=by decide):PE X (.Name x pos) (tC v) :=
 λ_ _ _ H _ I h=>Ip I hg hm ⟨v,H,I,r,h⟩ hd
theorem ac6{x:Str}{v:V}{u:Value}{pos:Pos}(hg:Gl X x)(hm:X.mg x=none)(hv:bootBuiltins x=some u)(r:RelV v u)(hn:x≠"__name__":=by decide)(hd:qk x:=by decide):PE X (.Name x pos) (tC v) :=
 λ_ _ _ H _ I h=>Cm I hg hm hv ⟨v,H,I,r,h⟩ hn hd
variable{a b:Expr}{ta tb:TE}{pos:Pos}
def PC(X:Cx)(op:CmpOp)(a b:Expr)(t:TE):Prop :=
 ∀(aa:Δ)(s:Shared)(σ:St)(H:Hp)(Q:VK),Inv X aa σ H s->t σ H Q ->
  wpAny (model X.prog X.w) X.A (eval a X.env) (λv s₁=>wpAny (model X.prog X.w) X.A (eval b X.env) (λu s₂=>wpAny (model X.prog X.w) X.A (compareOp op v u) (EP X aa σ Q) X.xe s₂) X.xe s₁) X.xe s
def tB(t:TE):TT:=λσ H Q=>t σ H λx H1=>∃c,x=.bl c/\Q c H1
theorem aa6{op:CmpOp}{t:TE}(h:PC X op a b t)(h1:behindInMarks op b=false:=by rfl):PT X (.Compare a [op] [b] pos) (tB t):=by
 intro aa s σ H Q I hw;refine wpAny_isTrue_Compare1 (thn (h aa s σ H _ I hw) λv s1 h1=>thn h1 λu s2 h2=>thn h2 λc s3 hP=>?_) h1;obtain⟨x,H1,I1,r1,q1⟩:=hP;obtain⟨d,rfl,q⟩:=q1;cases r1;exact wpAny_truthy_bool ⟨H1,I1,q⟩
variable{tA j2:TT}{rest:List Expr}
def amt(t u:TT):TT:=λσ H Q=>t σ H λc H1=>if c=true then u σ H1 Q else Q false H1
def tOr(t u:TT):TT:=λσ H Q=>t σ H λc H1=>if c=true then Q true H1 else u σ H1 Q
def amL(t:TT):TT:=λσ H Q=>t σ H λc H1=>Q (!c) H1
theorem pw_and1(ha:PT X a tA):PW X (.BoolOp .And [a] pos) tA:=by
 intro wh aa s σ H Q I h;refine isTrue_and (thn (ha aa s σ H Q I h) λc s1 e=>?_);cases c with
 |true=>exact isTrue_and_nil e
 |false=>exact e
theorem pw_or1(ha:PT X a tA):PW X (.BoolOp .Or [a] pos) tA:=by
 intro wh aa s σ H Q I h;refine isTrue_or (thn (ha aa s σ H Q I h) λc s1 e=>?_);cases c with
 |false=>exact isTrue_or_nil e
 |true=>exact e
theorem pw_and(ha:PT X a tA)(hb:PW X (.BoolOp .And (b::rest) pos) j2):PW X (.BoolOp .And (a::b::rest) pos) (amt tA j2):=by
 intro wh aa s σ H Q I h;refine isTrue_and (thn (ha aa s σ H _ I h) λc s1 hP=>?_);obtain⟨H1,I1,q1⟩:=hP;cases c with
 |true=>exact hb wh aa s1 σ H1 Q I1 q1
 |false=>exact⟨H1,I1,q1⟩
theorem pw_or(ha:PT X a tA)(hb:PW X (.BoolOp .Or (b::rest) pos) j2):PW X (.BoolOp .Or (a::b::rest) pos) (tOr tA j2):=by
 intro wh aa s σ H Q I h;refine isTrue_or (thn (ha aa s σ H _ I h) λc s1 hP=>?_);obtain⟨H1,I1,q1⟩:=hP;cases c with
 |true=>exact⟨H1,I1,q1⟩
 |false=>exact hb wh aa s1 σ H1 Q I1 q1
theorem agu(ha:PT X a tA):PT X (.UnaryOp .Not a pos) (amL tA):=by
 intro aa s σ H Q I h;exact isTrue_not (ha aa s σ H (λc H1=>Q (!c) H1) I h)
def akT(ta tb:TE):TE:=λσ H Q=>ta σ H λx H1=>∃c,x=.bl c/\if c=true then tb σ H1 Q else Q (.bl false) H1
def ak5(ta:TE):TE:=λσ H Q=>ta σ H λx H1=>∃c,x=.bl c/\Q (.bl (!c)) H1
theorem afD{op}{t:TE}(h:PE X a t):PE X (.BoolOp op [a] pos) t:=λaa s σ H Q I hw=>BoolOp_one (h aa s σ H Q I hw)
theorem ahn(ha:PE X a ta)(hb:PE X (.BoolOp .And (b::rest) pos) tb):PE X (.BoolOp .And (a::b::rest) pos) (akT ta tb):=by
 intro aa s σ H Q I h;refine BoolOp_and (thn (ha aa s σ H _ I h) λv s1 hP=>?_);obtain⟨x,H1,I1,r1,q1⟩:=hP;obtain⟨c,rfl,q1⟩:=q1;cases r1;refine wpAny_truthy_bool ?_;cases c with
 |true=>exact hb aa s1 σ H1 Q I1 q1
 |false=>exact⟨.bl false,H1,I1,rfl,q1⟩
theorem agg(ha:PE X a ta):PE X (.UnaryOp .Not a pos) (ak5 ta):=by
 intro aa s σ H Q I h;refine UnaryOp_ (thn (ha aa s σ H _ I h) λv s1 hP=>?_);obtain⟨x,H1,I1,r1,q1⟩:=hP;obtain⟨c,rfl,q1⟩:=q1;cases r1;exact not_of (wpAny_truthy_bool ⟨.bl (!c),H1,I1,rfl,q1⟩)
def tIf(t:TT)(ta tb:TE):TE:=λσ H Q=>t σ H λc H1=>if c=true then ta σ H1 Q else tb σ H1 Q
theorem acE{c:Expr}(hc:PT X c tA)(ha:PE X a ta)(hb:PE X b tb):PE X (.IfExp c a b pos) (tIf tA ta tb):=by
 intro aa s σ H Q I h;refine wpAny_IfExp (thn (hc aa s σ H _ I h) λd s1 hP=>?_);obtain⟨H1,I1,q1⟩:=hP;cases d with
 |true=>exact ha aa s1 σ H1 Q I1 q1
 |false=>exact hb aa s1 σ H1 Q I1 q1
end
def SqL(K:Frag)(H:Hp)(a:Addr)(xs:Ζ):Prop :=
 Rd H a (.lst xs) \/
  ∃(o:Obj)(its:Array Value)(n:Nat),K.lookup a=some o/\o.cls=.type "list"/\o.dict=none/\o.data=.seq its n/\its.size<=sizeLine/\Vals xs its.toList
def SqT(K:Frag)(H:Hp)(a:Addr)(xs:Ζ):Prop :=
 Rd H a (.tup xs) \/
  ∃(o:Obj)(its:Array Value)(n:Nat),K.lookup a=some o/\o.cls=.type "tuple"/\o.data=.seq its n/\its.size<=sizeLine/\Vals xs its.toList
def amE:Value->Option V
 |.none=>some .non
 |.bool b=>some (.bl b)
 |.int i _=>some (.int i)
 |.str x _=>some (.str x)
 |.bytes b _=>some (.byt b)
 |.float b _=>some (.flt b)
 |.ref a=>some (.ref a)
 |.type n=>some (.ty n)
 |_=>none
theorem RelV.abs{x:V}{u:Value}(r:RelV x u):amE u=some x:=by
 cases x with
 |non=>cases r;rfl
 |bl _=>cases r;rfl
 |int _=>obtain⟨t,rfl⟩:=r;rfl
 |str _=>obtain⟨t,rfl⟩:=r;rfl
 |byt _=>obtain⟨t,rfl⟩:=r;rfl
 |flt _=>obtain⟨t,rfl⟩:=r;rfl
 |ref _=>cases r;rfl
 |ty _=>cases r;rfl
theorem RelV.inj{x y:V}{u:Value}(r:RelV x u)(q:RelV y u):x=y:=Option.some.inj (r.abs.symm.trans q.abs)
theorem Vals.inj:∀{xs ys:Ζ}{us:Θ},Vals xs us->Vals ys us->xs=ys
 |_,_,_,.nil,.nil=>rfl
 |_,_,_,.cons r t,.cons r' t'=>by rw[r.inj r',Vals.inj t t']
section
variable{X:Cx}{aa:Δ}{σ:St}{H:Hp}{s:Shared}{a:Addr}{xs ys:Ζ}
theorem SqL.of{K:Frag}(h:H a=some (.lst xs)):SqL K H a xs:=.inl (.inl h)
theorem SqT.of{K:Frag}(h:H a=some (.tup xs)):SqT K H a xs:=.inl (.inl h)
theorem Inv.list(I:Inv X aa σ H s)(h:SqL X.K H a xs):∃its:Θ,Vals xs its/\PlainL s.heap a its.toArray/\xs.length<=sizeLine:=by
 rcases h with h|⟨o,its,n,hk,hc,hd,hs,hz,r⟩
 .obtain⟨z,its,n,r,e⟩:=h.ok I.hok;exact⟨its,r,⟨_,n,e,rfl,rfl,rfl⟩,z⟩
 .refine⟨its.toList,r,⟨o,n,I.kIn a o hk,hc,hd,by simpa using hs⟩,?_⟩;have e:=r.length;simp only[Array.length_toList]at e;exact aL (WJ e) hz
theorem Inv.tuple(I:Inv X aa σ H s)(h:SqT X.K H a xs):∃its:Θ,Vals xs its/\IsTup s.heap a its.toArray/\xs.length<=sizeLine:=by
 rcases h with h|⟨o,its,n,hk,hc,hs,hz,r⟩
 .obtain⟨z,its,r,p⟩:=h.ok I.hok;exact⟨its,r,p,z⟩
 .refine⟨its.toList,r,⟨o,I.kIn a o hk,hc,n,by simpa using hs⟩,?_⟩;have e:=r.length;simp only[Array.length_toList]at e;exact aL (WJ e) hz
theorem Inv.list_inj(I:Inv X aa σ H s)(h:SqL X.K H a xs)(h':SqL X.K H a ys):xs=ys:=by
 obtain⟨its,r,⟨o,n,e,_,_,d⟩,_⟩:=I.list h;obtain⟨its',r',⟨o',n',e',_,_,d'⟩,_⟩:=I.list h';rw[e]at e';cases e';rw[d]at d';injection d' with d1 _;have:its=its':=by simpa using ZH Array.toList d1
 subst this;exact r.inj r'
end
abbrev Cx.wish(X:Cx)(E:Ε):Cx:={ X with xe:=E }
abbrev Cx.nox(X:Cx):Cx:=X.wish λ_ _=>False
theorem Cx.Ok.wish{X:Cx}(ok:X.Ok)(E:Ε):(X.wish E).Ok :=
 ⟨ok.mod,ok.kind,ok.glob,ok.blt,ok.above,ok.inj,ok.has,ok.cab,ok.hd,ok.frames,ok.stk,ok.exf,ok.bs,ok.bsz,ok.noex,ok.exfs,ok.funs,ok.frf⟩
theorem Cx.Ok.unwish{X:Cx}{E:Ε}(ok:(X.wish E).Ok):X.Ok :=
 ⟨ok.mod,ok.kind,ok.glob,ok.blt,ok.above,ok.inj,ok.has,ok.cab,ok.hd,ok.frames,ok.stk,ok.exf,ok.bs,ok.bsz,ok.noex,ok.exfs,ok.funs,ok.frf⟩
section
variable{X:Cx}{aa:Δ}{σ:St}{H:Hp}{s:Shared}{E:Ε}
theorem Inv.wish(I:Inv X aa σ H s)(E:Ε):Inv (X.wish E) aa σ H s:=⟨I.ok.wish E,I.os,I.bare,I.base,I.loc,I.cell,I.free,I.freeC,I.pin,I.hok,I.len⟩
theorem Inv.unwish(I:Inv (X.wish E) aa σ H s):Inv X aa σ H s:=⟨I.ok.unwish,I.os,I.bare,I.base,I.loc,I.cell,I.free,I.freeC,I.pin,I.hok,I.len⟩
theorem SP.unwish{D:Ends}{f:Flow}{s':Shared}(h:SP (X.wish E) aa D f s'):SP X aa D f s':=by
 cases f with
 |next=>obtain⟨σ',H',I,q⟩:=h;exact⟨σ',H',I.unwish,q⟩
 |brk=>obtain⟨σ',H',I,q⟩:=h;exact⟨σ',H',I.unwish,q⟩
 |cont=>obtain⟨σ',H',I,q⟩:=h;exact⟨σ',H',I.unwish,q⟩
 |ret u=>obtain⟨v,σ',H',I,r,q⟩:=h;exact⟨v,σ',H',I.unwish,r,q⟩
theorem PSs.nox{st:List Stmt}{t:TS}(h:PSs X.nox st t):PSs X st t:=λaa s σ H D I hw =>
 wpAny_mono (h aa s σ H D (I.wish _) hw) (λ_ _ q=>q.unwish) λ_ _ z=>False.elim z
end
section
variable{X:Cx}{st:Stmt}{rest:List Stmt}{t u:TS}{e:Expr}{te:TE}{pos:Pos}
def aiO:TS:=λD σ H=>D.nx σ H
def akL(t u:TS):TS:=λD σ H=>t { D with nx:=u D } σ H
theorem acT:PSs X [] aiO:=λ_ _ σ H _ I h=>wpAny_execs_nil ⟨σ,H,I,h⟩
theorem acI(h1:PS X st t)(h2:PSs X rest u):PSs X (st::rest) (akL t u):=by
 intro aa s σ H D I h;refine wpAny_execs_cons (thn (h1 aa s σ H { D with nx:=u D } I h) λf s1 q=>?_);cases f with
 |next =>
  obtain⟨σ',H',I',q⟩:=q;exact h2 aa s1 σ' H' D I' q
 |ret v=>exact q
 |brk=>exact q
 |cont=>exact q
theorem aeM(h1:PS X st t):PSs X [st] t:=by
 intro aa s σ H D I h;refine wpAny_execs_cons (thn (h1 aa s σ H D I h) λf s1 q=>?_);cases f with
 |next=>exact wpAny_execs_nil q
 |ret v=>exact q
 |brk=>exact q
 |cont=>exact q
theorem Inv.quiet{aa:Δ}{σ:St}{H:Hp}{s:Shared}(I:Inv X aa σ H s):interactive X.env=false:=by simp[interactive,I.ok.kind]
def al4(te:TE):TS:=λD σ H=>te σ H λ_ H1=>D.nx σ H1
theorem z9(he:PE X e te)(hs:swapsWith e none pos.line X.env=pure false:=by rfl):PS X (.Expr e pos) (al4 te):=by
 intro aa s σ H D I h;exact wpAny_Expr_any (thn (he aa s σ H _ I h) λv s1 hP=>by obtain⟨x,H1,I1,r1,q1⟩:=hP;exact⟨σ,H1,I1,q1⟩) I.quiet hs
def anE(te:TE):TS:=λD σ H=>te σ H D.rt
theorem W_(he:PE X e te):PS X (.Return (some e) pos) (anE te):=by
 intro aa s σ H D I h;exact wpAny_Return_some (thn (he aa s σ H _ I h) λv s1 hP=>by obtain⟨x,H1,I1,r1,q1⟩:=hP;exact⟨x,σ,H1,I1,r1,q1⟩)
def ami(c:TT)(t u:TS):TS:=λD σ H=>c σ H λb H1=>if b=true then t D σ H1 else u D σ H1
theorem akv{c:Expr}{a b:List Stmt}{tc:TT}(hc:PT X c tc)(ha:PSs X a t)(hb:PSs X b u):PS X (.If c a b pos) (ami tc t u):=by
 intro aa s σ H D I h;refine wpAny_If (thn (hc aa s σ H _ I h) λd s1 hP=>?_);obtain⟨H1,I1,q1⟩:=hP;cases d with
 |true=>exact ha aa s1 σ H1 D I1 q1
 |false=>exact hb aa s1 σ H1 D I1 q1
def ag4:TS:=λ_ _ _=>False
theorem aaP:PS X st ag4:=λ_ _ _ _ _ _ h=>h.elim
end
abbrev TG:=V->St->Hp->(St->Hp->Prop)->Prop
abbrev TGs:=Ζ->St->Hp->(St->Hp->Prop)->Prop
def PG(X:Cx)(gS:Expr)(t:TG):Prop :=
 ∀(aa:Δ)(s:Shared)(σ:St)(H:Hp)(v:V)(u:Value)(Q:St->Hp->Prop),Inv X aa σ H s->RelV v u->t v σ H Q ->
  wpAny (model X.prog X.w) X.A (assign gS X.env u) (λ_ s'=>∃σ' H',Inv X aa σ' H' s'/\Q σ' H') X.xe s
def PGs(X:Cx)(ts:List Expr)(t:TGs):Prop :=
 ∀(aa:Δ)(s:Shared)(σ:St)(H:Hp)(vs:Ζ)(us:Θ)(Q:St->Hp->Prop),Inv X aa σ H s->Vals vs us->t vs σ H Q ->
  wpAny (model X.prog X.w) X.A (assignInOrder ((assignEach ts X.env).map (·.2)) us) (λ_ s'=>∃σ' H',Inv X aa σ' H' s'/\Q σ' H') X.xe s
abbrev aga:=V->V->V->Hp->(Hp->Prop)->Prop
def ajr(X:Cx)(t:aga):Prop :=
 ∀(aa:Δ)(s:Shared)(σ:St)(H:Hp)(o i v:V)(ov iv u:Value)(Q:Hp->Prop),Inv X aa σ H s->RelV o ov->RelV i iv->RelV v u->t o i v H Q ->
  wpAny (model X.prog X.w) X.A (setItem ov iv u) (λ_ s'=>∃H',Inv X aa σ H' s'/\Q H') X.xe s
abbrev TIp:=V->V->Hp->VK->Prop
def PIp(X:Cx)(op:Operator)(t:TIp):Prop :=
 ∀(aa:Δ)(s:Shared)(σ:St)(H:Hp)(x y:V)(v u:Value)(Q:VK),Inv X aa σ H s->RelV x v->RelV y u->t x y H Q ->
  wpAny (model X.prog X.w) X.A (inplaceOp op v u) (EP X aa σ Q) X.xe s
section
variable{X:Cx}{pos:Pos}
def Bl(i:Nat):TG:=λv σ H Q=>Q (σ.set i (some v)) H
theorem jh{i:Nat}{x:Str}(hN:X.N.Nodup)(hi:X.N[i]?=some x)(hx:Loc X.env.scope x)(hf:qi X x:=by first|exact .inl rfl|exact .inr rfl|assumption):PG X (.Name x pos) (Bl i):=by
 intro aa s σ H v u Q I r h;exact wpAny_assign_Name (xK I hN hi hx r (λs' I'=>⟨_,H,I',h⟩) hf)
def aml:TGs:=λvs σ H Q=>vs=[]/\Q σ H
def ai9(t:TG)(u:TGs):TGs:=λvs σ H Q=>∃v r,vs=v::r/\t v σ H λσ' H'=>u r σ' H' Q
theorem aed:PGs X [] aml:=by
 intro aa s σ H vs us Q I r h;obtain⟨e,h⟩:=h;subst e;cases r;exact assignInOrder_nil ⟨σ,H,I,h⟩
theorem ab7{e:Expr}{es:List Expr}{t:TG}{u:TGs}(h1:PG X e t)(h2:PGs X es u)
 (hs:(assignEach (e::es) X.env).map (·.2)=assign e X.env::(assignEach es X.env).map (·.2):=by rfl):PGs X (e::es) (ai9 t u):=by
 intro aa s σ H vs us Q I r h;obtain⟨v,vr,e1,h⟩:=h;subst e1;cases r with
 |cons r rr =>
  rw[hs];refine assignInOrder_cons (thn (h1 aa s σ H _ _ _ I r h) λ_ s1 hP=>?_);obtain⟨σ1,H1,I1,q1⟩:=hP;exact h2 aa s1 σ1 H1 _ _ Q I1 rr q1
def anw(K:Frag)(n:Nat)(t:TGs):TG:=λv σ H Q=>∃a xs,v=.ref a/\SqT K H a xs/\xs.length=n/\t xs σ H Q
abbrev zk(X:Cx)(a:List Expr):Prop:=(assignEach a X.env).findIdx? (·.1)=none
theorem ahq{es:List Expr}{k:Nat}{t:TGs}{n:Nat}(hc:X.calm=true)(h:PGs X es t)
 (hn:(assignEach es X.env).length=n:=by rfl)(cc:zk X es:=by rfl):PG X (.Tuple es k pos) (anw X.K n t):=by
 intro aa s σ H v u Q I r hw;obtain⟨a,xs,e1,hq,hl,hw⟩:=hw;subst e1;cases r;obtain⟨its,rv,ht,hz⟩:=I.tuple hq;refine assign_Tuple_tuple (I.ok.hd hc) ht (by simp[hn,<- hl,rv.length]) cc λh' hx=>?_;have I1:Inv X aa σ H { s with heap:=h' }:=I.kept (t':=s.toks) λb o e=>hx b o (aQ (aK e)) e;exact h aa _ σ H xs _ Q I1 (by simpa using rv) hw
def amU(to ti:TE)(t:aga):TG:=λv σ H Q=>to σ H λo H1=>ti σ H1 λi H2=>t o i v H2 λH3=>Q σ H3
theorem abg{o i:Expr}{to ti:TE}{t:aga}(ho:PE X o to)(hi:PE X i ti)(hs:ajr X t)
 (ha:∀v,assign (.Subscript o i pos) X.env v=(do
   let ov <- holding [v] (eval o X.env)
   let iv <- holding [v,ov] (eval i X.env)
   standAt pos
   holding [v,ov,iv] (setItem ov iv v)
   release [v,ov,iv] []):=by intro _;rfl):PG X (.Subscript o i pos) (amU to ti t):=by
 intro aa s σ H v u Q I r h;rw[ha];refine ZU (wpAny_holding (thn (ho aa s σ H _ I h) λov s1 hP=>?_));obtain⟨x,H1,I1,r1,q1⟩:=hP;refine ZU (wpAny_holding (thn (hi aa s1 σ H1 _ I1 q1) λiv s2 hP=>?_));obtain⟨y,H2,I2,r2,q2⟩:=hP;refine ZU (wpAny_standAt (ZU (wpAny_holding (thn (hs aa s2 σ H2 x y v ov iv u _ I2 r1 r2 r q2) λ_ s3 hP=>?_))));obtain⟨H3,I3,q3⟩:=hP;exact wpAny_release ⟨σ,H3,I3,q3⟩
def adX(te:TE)(g:TG):TS:=λD σ H=>te σ H λx H1=>g x σ H1 D.nx
theorem W5{tg e:Expr}{te:TE}{g:TG}(he:PE X e te)(hg:PG X tg g)(hs:swapsWithSole [tg] e pos.line X.env=pure false:=by rfl)(hw:swappedStores [tg] e X.env=pure none:=by rfl)
 (h1:(assignEach [tg] X.env).map (·.2)=[assign tg X.env]:=by rfl):PS X (.Assign [tg] e pos) (adX te g):=by
 intro aa s σ H D I h;refine wpAny_Assign_stores (thn (he aa s σ H _ I h) λv s1 hP=>?_) hs hw;obtain⟨x,H1,I1,r1,q1⟩:=hP;rw[h1];exact thn (hg aa s1 σ H1 x v _ I1 r1 q1) λ_ s2 q=>q
theorem aa4{i:Nat}{x:Str}{e:Expr}{te:TE}{bo:Pos}(hN:X.N.Nodup)(hi:X.N[i]?=some x)(hx:Loc X.env.scope x)(he:PE X e te)(hs:swapsWith e (some (.Name x bo)) pos.line X.env=pure false:=by rfl)(hf:qi X x:=by first|exact .inl rfl|exact .inr rfl|assumption) :
  PS X (.Assign [.Name x bo] e pos) (adX te (Bl i)):=by
 intro aa s σ H D I h;refine wpAny_Assign_Name (thn (he aa s σ H _ I h) λv s1 hP=>?_) hs;obtain⟨y,H1,I1,r1,q1⟩:=hP;exact xK I1 hN hi hx r1 (λs2 I2=>⟨_,H1,I2,q1⟩) hf
def amI(i j:Nat)(ta:TA):TS:=λD σ H=>ta σ H λvs H1=>∃v w,vs=[v,w]/\D.nx ((σ.set i (some v)).set j (some w)) H1
theorem ag7{i j:Nat}{x y:Str}{a b:Expr}{ta:TA}{px py pt:Pos}{kt k2 pt2}(hc:X.calm=true)(hN:X.N.Nodup)(hi:X.N[i]?=some x)(hj:X.N[j]?=some y)(ic:i≠j)
 (hx:X.env.scope.names.lookup x=some .local)(hy:X.env.scope.names.lookup y=some .local)(ha:PA X [a,b] ta)
 (hw:swappedStores [.Tuple [.Name x px,.Name y py] kt pt] (.Tuple [a,b] k2 pt2) X.env=pure (some [x,y]))
 (hs:swapsWithSole [.Tuple [.Name x px,.Name y py] kt pt] (.Tuple [a,b] k2 pt2) pos.line X.env=pure false:=by rfl) :
  PS X (.Assign [.Tuple [.Name x px,.Name y py] kt pt] (.Tuple [a,b] k2 pt2) pos) (amI i j ta):=by
 intro aa s σ H D I h;rw[exec_Assign_arm];refine ZU (wpAny_standAt ?_);rw[hs];refine ZU (ZT ?_);rw[ZZ (by decide)];refine ZU (Tuple_ (thn (ha _ aa s σ H _ I h) λus s1 hP=>?_));obtain⟨vs,H1,I1,r1,q1⟩:=hP;obtain⟨v,w,e1,q1⟩:=q1;subst e1;obtain⟨u1,u2,rfl,rv,fc⟩ : ∃u1 u2,us=[u1,u2]/\RelV v u1/\RelV w u2:=by
  cases r1 with
  |cons p q =>
   cases q with
   |cons p' q' =>
    cases q';exact⟨_,_,rfl,p,p'⟩
 refine wpAny_newObj_type ?_ (by show 2<=sizeLine;decide);have I2:Inv X aa σ H1 { s1 with heap:=s1.heap.push { cls:=.type "tuple",data:=.seq [u1,u2].toArray } }:=I1.kept (t':=s1.toks) λb o e=>aH _ e;rw[hw];refine ZU (ZT ?_);show wpAny (model X.prog X.w) X.A (do rule "assign.swapped-stores"; let items <- unpackItems (.ref s1.heap.objs.size) 2 none;assignInOrder [λv=>bindName X.env y v,λv=>bindName X.env x v] items.reverse;pure Flow.next) _ _ _;refine ZU (wpAny_rule (ZU (unpackItems_tuple (items:=#[u1,u2]) (I.ok.hd hc) (IsTup.new s1.heap _) λh' hx'=>?_)));have I3:=I2.kept (h':=h') (t':=s1.toks) λb o e=>hx' b o (aQ (aK e)) e;show wpAny _ _ (assignInOrder [λv=>bindName X.env y v,λv=>bindName X.env x v] [u2,u1] >>= λ_=>pure Flow.next) _ _ _;refine ZU (assignInOrder_cons (wpAny_bindName (xK I3 hN hj (.inl hy) fc (λs2 I4=>?_) (.inr hy))));refine assignInOrder_cons (wpAny_bindName (xK I4 hN hi (.inl hx) rv (λs3 I5=>assignInOrder_nil (ZT ?_)) (.inr hx)));rw[List.set_comm _ _ (Ne.symm ic)]at I5;exact⟨_,H1,I5,q1⟩
def amN(i:Nat)(te:TE)(ti:TIp):TS:=λD σ H=>∃x,σ[i]?=some (some x)/\te σ H λy H1=>ti x y H1 λz H2=>D.nx (σ.set i (some z)) H2
theorem ahg{i:Nat}{x:Str}{e:Expr}{te:TE}{op:Operator}{ti:TIp}{bo:Pos}(hN:X.N.Nodup)(hi:X.N[i]?=some x)(hx:Loc X.env.scope x)(he:PE X e te)(ho:PIp X op ti)(hf:qi X x:=by first|exact .inl rfl|exact .inr rfl|assumption) :
  PS X (.AugAssign (.Name x bo) op e pos) (amN i te ti):=by
 intro aa s σ H D I h;obtain⟨v,e1,h⟩:=h;obtain⟨m,hn,hl⟩:=I.loc;have vis:Vis X.env.scope x:=by rcases hx with k|k;exact .inl k;exact .inr (.inl k)
 obtain⟨u,r,l⟩:=hl i x v hi e1 vis;refine wpAny_AugAssign_Name ?_;have go:wpAny (model X.prog X.w) X.A (eval e X.env) (λw s₂=>wpAny (model X.prog X.w) X.A (inplaceOp op u w) (λr s₃=>wpAny (model X.prog X.w) X.A (storeName X.env x r) (λ_=>SP X aa D .next) X.xe s₃) X.xe s₂) X.xe s:=by
  refine thn (he aa s σ H _ I h) λw s1 hP=>?_;obtain⟨y,H1,I1,r1,q1⟩:=hP;refine thn (ho aa s1 σ H1 v y u w _ I1 r r1 q1) λz s2 hP=>?_;obtain⟨zv,H2,I2,r2,q2⟩:=hP;exact xK I2 hN hi hx r2 (λs3 I3=>⟨_,H2,I3,q2⟩) hf
 rcases l with⟨hk,hm⟩|⟨hk,c,hc,de⟩
 .exact wpAny_loadName_local I.ok.kind hk hn hm go
 .rcases hk with hk|hk
  .exact wpAny_loadName_cell I.ok.kind hk hc de go
  .rcases hx with k|k
   .have:X.env.scope.names.lookup x=some .free:=hk;rw[k]at this;cases this
   .have:X.env.scope.names.lookup x=some .free:=hk;rw[k]at this;cases this
def ipI(f:Int->Int->Int):TIp:=λx y H Q=>∃i j,x=.int i/\y=.int j/\Q (.int (f i j)) H
theorem aaR:PIp X .Add (ipI λi j=>i+j):=by
 intro aa s σ H x y v u Q I r1 r2 h;obtain⟨i,j,e1,e2,q⟩:=h;subst e1;subst e2;obtain⟨t,rfl⟩:=r1;obtain⟨t',rfl⟩:=r2;exact iadd_int ⟨.int _,H,I.tok _,⟨_,rfl⟩,q⟩
end
section
variable{X:Cx}{pos:Pos}
def afw(c:TT)(tb:TS):TS:=λD σ H=>∃W:Nat->St->Hp->Prop,(∃m,W m σ H)/\∀m σ H,W m σ H ->
 c σ H λb H1=>if b=true then ∃N:St->Hp->Prop,(∀σ' H',N σ' H'->∃m',m'<m/\W m' σ' H')/\tb { D with nx:=N,ct:=N,bk:=D.nx } σ H1 else D.nx σ H1
theorem aak{c:Expr}{b7:List Stmt}{tc:TT}{tb:TS}(hp:PassesOwn (model X.prog X.w) X.A X.env X.xe)(hc:PT X c tc)(hb:PSs X b7 tb):PS X (.While c b7 [] pos) (afw tc tb):=by
 intro aa s σ H D I h;obtain⟨W,⟨m0,w0⟩,turn⟩:=h;refine wpAny_While (codeAny_whileLoop (λn s'=>∃σ' H',Inv X aa σ' H' s'/\W n σ' H') ?_ m0 ⟨σ,H,I,w0⟩);rintro n s1 ⟨σ1,H1,I1,w1⟩;refine wpAny_passesOwn hp (thn (hc aa s1 σ1 H1 _ I1 (turn n σ1 H1 w1)) λb s2 hP=>?_);obtain⟨H2,I2,q2⟩:=hP;cases b with
 |true =>
  obtain⟨N,hN,q2⟩:=q2;rw[ZY rfl];refine wpAny_passesOwn hp (thn (hb aa s2 σ1 H2 _ I2 q2) λf s3 q3=>?_);cases f with
  |next =>
   obtain⟨σ3,H3,I3,n3⟩:=q3;obtain⟨m',hm,w3⟩:=hN σ3 H3 n3;exact⟨m',hm,σ3,H3,I3,w3⟩
  |cont =>
   obtain⟨σ3,H3,I3,n3⟩:=q3;obtain⟨m',hm,w3⟩:=hN σ3 H3 n3;exact⟨m',hm,σ3,H3,I3,w3⟩
  |brk=>exact q3
  |ret v=>exact q3
 |false =>
  rw[ZZ bA];exact wpAny_execs_nil ⟨σ1,H2,I2,q2⟩
end
structure It where
 go:Nat->Hp->Prop
 yld:Nat->Hp->V->Hp->Prop
 stop:Nat->Hp->Prop
def G4(X:Cx)(aa:Δ)(H:Hp)(b:Addr):Prop :=
 H b=none/\b≠X.env.locals/\b∉X.fs/\(b∈X.ex\/X.s₀.heap.objs.size<=b)/\(∀x c,X.env.cells.lookup x=some c->c≠b)/\∀p∈X.pn++aa,p.1≠b
theorem Inv.fpOk{X:Cx}{aa:Δ}{σ:St}{H H':Hp}{s:Shared}{b:Addr}(I:Inv X aa σ H s)(hb:s.heap.objs.size<=b)(hn:H' b=none):G4 X aa H' b:=by
 refine⟨hn,VT (aR I.lt hb),I.nofs hb,.inr (aL I.sz hb),λx c e z=>?_,λp hp z=>?_⟩
 .obtain⟨v,q⟩:=I.cell x c e;exact absurd (aR q.lt (by rw[z];exact hb)) (X2 _)
 .exact absurd (aR (aK (I.pin p hp).1) (by rw[z];exact hb)) (X2 _)
structure Turn(P:Program)(w:World)(K:Frag)(tg:Expr)(J:It)(fp:Ψ)(it:Addr)(tn:Nat->Heap->Prop):Prop where
 mem:it∈fp
 obj:∀i h,tn i h->∀b∈fp,∃o,h.get? b=some o/\∀v,o.data≠.cell v
 keep:∀i h h',tn i h->(∀b∈fp,∀o,h.get? b=some o->h'.get? b=some o)->tn i h'
 item:∀(X:Cx),X.prog=P->X.w=w->X.K=K->X.calm=true->∀(i:Nat)(aa:Δ)(s:Shared)(σ:St)(H:Hp)(E:Ε),Inv X aa σ H s->(∀b∈fp,G4 X aa H b)->tn i s.heap->J.go i H ->
  wpAny (model P w) X.A (pyNext (.ref it)) (λr s1=>∃u,r=some u /\
   wpAny (model P w) X.A (letOwnedTupleGo tg (.ref it) u) (λ_ s2=>∃x H',Inv X aa σ H' s2/\RelV x u/\J.yld i H x H'/\tn (i+1) s2.heap/\∀b∈fp,H' b=none) E s1) E s
 done:∀(X:Cx),X.prog=P->X.w=w->X.K=K->X.calm=true->∀(i:Nat)(aa:Δ)(s:Shared)(σ:St)(H:Hp)(E:Ε),Inv X aa σ H s->(∀b∈fp,G4 X aa H b)->tn i s.heap->J.stop i H ->
  wpAny (model P w) X.A (pyNext (.ref it)) (λr s1=>r=none/\Inv X aa σ H s1) E s
 self:∀(A:Around)(i:Nat)(s:Shared)(Q:Ε)(E:Ε),tn i s.heap->Q (.ref it) s->wpAny (model P w) A (pyIter (.ref it)) Q E s
abbrev TI:=St->Hp->(It->Hp->Prop)->Prop
def PIE(X:Cx)(aa:Δ)(σ:St)(tg:Expr)(R:It->Hp->Prop)(kU:Value)(s2:Shared):Prop :=
 ∃(it:Addr)(fp:Ψ)(tn:Nat->Heap->Prop)(J:It)(H':Hp),kU=.ref it/\Inv X aa σ H' s2/\Turn X.prog X.w X.K tg J fp it tn/\tn 0 s2.heap/\(∀b∈fp,G4 X aa H' b)/\R J H'
def PI(X:Cx)(tg iter:Expr)(wi:TI):Prop :=
 ∀(aa:Δ)(s:Shared)(σ:St)(H:Hp)(R:It->Hp->Prop),Inv X aa σ H s->wi σ H R ->
  wpAny (model X.prog X.w) X.A (eval iter X.env) (λv s1=>wpAny (model X.prog X.w) X.A (pyIter v) (PIE X aa σ tg R) X.xe s1) X.xe s
theorem Yt{M:Model}{A:Around}{E:Ε}{s:Shared}{tg:Expr}{it:Addr}{u:Value}{o:Obj}{n:String}{vs:Array Value}{Q:Unit->Shared->Prop}(ho:s.heap.get? it=some o)(hc:o.cls=.type n)(hd:o.data=.fields vs)
   (hn : ["enumerate","zip","dict_itemiterator","dict_reverseitemiterator","odict_iterator","itertools.zip_longest","itertools.pairwise"].contains n=false)(hQ:Q () s):wpAny M A (letOwnedTupleGo tg (.ref it) u) Q E s:=by
  unfold letOwnedTupleGo;cases tg<;>first
    |exact ZT hQ
    |(cases u<;>first
        |exact ZT hQ
        | (refine ZU (wpAny_load ho ?_)
           rw[hc,hd];show wpAny M A (if(["enumerate","zip","dict_itemiterator","dict_reverseitemiterator","odict_iterator","itertools.zip_longest","itertools.pairwise"].contains n&&vs[0]?==some (rawInt _))=true then _ else _) Q E s;rw[ZZ (by intro h;rw[hn,Bool.false_and]at h;cases h)];exact ZT hQ))
def Itl(K:Frag)(a:Addr):It :=
 ⟨λi H=>∃xs x,SqL K H a xs/\xs[i]?=some x,λi H x H'=>H'=H/\∀xs,SqL K H a xs->xs[i]?=some x,λi H=>∃xs,SqL K H a xs/\xs.length<=i⟩
def Itr(lo:Int)(n:Nat):It:=⟨λi _=>i<n,λi H x H'=>H'=H/\x=.int (lo+i),λi _=>n<=i⟩
theorem YH{P:Program}{w:World}{K:Frag}{tg:Expr}(a it:Addr):Turn P w K tg (Itl K a) [it] it (λi h=>h.IsListIter it a i) where
 mem:=by simp
 obj:=λi h st b hb=>by
  have e:b=it:=by simpa using hb
  subst e;obtain⟨o,e,c,d⟩:=st;exact⟨o,e,λv z=>by rw[d]at z;cases z⟩
 keep:=λi h h' st k=>st.at λo e=>k it (by simp) o e
 item:=by
  intro X hP hw hK hc i aa s σ H E I hf st hg;subst hP hw hK;obtain⟨xs,x,hq,hx⟩:=hg;obtain⟨its,rv,p,hz⟩:=I.list hq;obtain⟨u,hu,ru⟩:=rv.get hx;obtain⟨f0,f1,f2,f3,f4,f5⟩:=hf it (by simp);refine wpAny_pyNext_list_item st p.isList (x:=u) (by simpa using hu) λh' bu sb=>?_;have I1:Inv X aa σ H { s with heap:=h' }:=I.turned (t':=s.toks) (λb o hb e=>(sb.2 b hb).trans e) f0 f1 f3 f4 f5;obtain⟨o,e,c,d⟩:=id bu;exact⟨u,rfl,Yt (s:={ s with heap:=h' }) e c d (by decide) ⟨x,H,I1,ru,⟨rfl,λys hy=>by rw[I.list_inj hy hq];exact hx⟩,bu,λb hb=>(hf b hb).1⟩⟩
 done:=by
  intro X hP hw hK hc i aa s σ H E I hf st hg;subst hP hw hK;obtain⟨xs,hq,hx⟩:=hg;obtain⟨its,rv,p,hz⟩:=I.list hq;obtain⟨f0,f1,f2,f3,f4,f5⟩:=hf it (by simp);have hl:=rv.length;exact wpAny_pyNext_list_end (I.ok.hd hc) st p.isList (by simp;lia) λh' eb=>⟨rfl,I.turned (t':=s.toks) (λb o hb e=>eb b o hb e) f0 f1 f3 f4 f5⟩
 self:=λ_ _ _ _ _ st h=>wpAny_pyIter_listiter st h
theorem W4{P:Program}{w:World}{K:Frag}{tg:Expr}(it:Addr)(lo:Int)(n:Nat):Turn P w K tg (Itr lo n) [it] it (λi h=>IsRangeIter h it (lo+(i:Nat)*1) ((n:Int)-(i:Nat)) 1) where
 mem:=by simp
 obj:=λi h st b hb=>by
  have e:b=it:=by simpa using hb
  subst e;exact⟨_,st,λv z=>by
   have z':Data.fields _=Data.cell v:=z;cases z'⟩
 keep:=λi h h' st k=>k it (by simp) _ st
 item:=by
  intro X hP hw hK hc i aa s σ H E I hf st hg;subst hP hw hK;obtain⟨f0,f1,f2,f3,f4,f5⟩:=hf it (by simp);have W:=Walks.range (prog:=X.prog) (w:=X.w) (I.ok.hd hc) it lo 1 n;refine W.item i s _ _ hg st λv h' tk hv bu kk=>?_;obtain⟨t,rfl⟩:=hv;have I1:Inv X aa σ H { s with heap:=h',toks:=tk }:=I.turned (λb o hb e=>kk b o (by simpa using hb) e) f0 f1 f3 f4 f5;refine⟨_,rfl,Yt (s:={ s with heap:=h',toks:=tk }) (n:="range_iterator") bu rfl rfl (by decide) ⟨.int (lo+i),H,I1,⟨t,?_⟩,⟨rfl,rfl⟩,bu,λb hb=>(hf b hb).1⟩⟩;rw[Int.mul_one]
 done:=by
  intro X hP hw hK hc i aa s σ H E I hf st hg;subst hP hw hK;obtain⟨f0,f1,f2,f3,f4,f5⟩:=hf it (by simp);exact wpAny_pyNext_range_end (I.ok.hd hc) st (by have:n<=i:=hg;lia) λh' eb=>⟨rfl,I.turned (t':=s.toks) (λb o hb e=>eb b o hb e) f0 f1 f3 f4 f5⟩
 self:=λ_ _ _ _ _ st h=>wpAny_pyIter_rangeiter st h
section
variable{X:Cx}{tg:Expr}
def ahA(K:Frag)(tl:TE):TI:=λσ H R=>tl σ H λx H1=>∃a,x=.ref a/\(∃xs,SqL K H1 a xs)/\R (Itl K a) H1
theorem adN{l:Expr}{tl:TE}(hl:PE X l tl):PI X tg l (ahA X.K tl):=by
 intro aa s σ H R I h;refine thn (hl aa s σ H _ I h) λv s1 hP=>?_;obtain⟨x,H1,I1,r1,q1⟩:=hP;obtain⟨a,e,⟨xs,hq⟩,q⟩:=q1;subst e;cases r1;obtain⟨its,rv,p,hz⟩:=I1.list hq;refine wpAny_pyIter_list p.isList ?_;refine⟨s1.heap.objs.size,[s1.heap.objs.size],_,_,H1,rfl,I1.kept (t':=s1.toks) λb o e=>aH _ e,YH a _,⟨_,aW _ rfl,rfl,rfl⟩,λb hb=>?_,q⟩;have e:b=s1.heap.objs.size:=by simpa using hb
 subst e;exact I1.fpOk (aG _) (I1.hok.fresh (aG _))
theorem Us{aa:Δ}{σ:St}{H:Hp}{s:Shared}{R:It->Hp->Prop}{E:Ε}{lo hi:Int}{t u v:Tok}{tk:Nat}(I:Inv X aa σ H s)(h1 : -(2^62)<=lo)(h2:lo<2^62)(h3 : -(2^62)<=hi)(h4:hi<2^62)
 (q:R (Itr lo (hi-lo).toNat) H):wpAny (model X.prog X.w) X.A (pyIter (.ref s.heap.objs.size)) (PIE X aa σ tg R) E { s with heap:=s.heap.push { cls:=.type "range",data:=.fields #[.int lo t,.int hi u,.int 1 v] },toks:=tk }:=by
 refine wpAny_pyIter_range (IsRange.new ..) (small_one h1 h2 h3 h4) ?_;have I1:Inv X aa σ H { s with heap:=s.heap.push { cls:=.type "range",data:=.fields #[.int lo t,.int hi u,.int 1 v] },toks:=tk }:=I.kept λb o e=>aH _ e;refine⟨(s.heap.push { cls:=.type "range",data:=.fields #[.int lo t,.int hi u,.int 1 v] }).objs.size,[(s.heap.push { cls:=.type "range",data:=.fields #[.int lo t,.int hi u,.int 1 v] }).objs.size],_,_,H,rfl,
  I1.kept (t':=tk) λb o e=>aH _ e,W4 _ lo (hi-lo).toNat,?_,λb hb=>?_,q⟩
 .have e1:lo+((0:Nat):Int)*1=lo:=by simp
  have e2:(((hi-lo).toNat:Nat):Int)-((0:Nat):Int)=Builtin.Range.rangeSize lo hi 1:=by rw[rangeSize_one];split<;>lia
  show IsRangeIter _ _ (lo+((0:Nat):Int)*1) ((((hi-lo).toNat:Nat):Int)-((0:Nat):Int)) 1;rw[e1,e2];exact aW _ rfl
 .have e:b=(s.heap.push { cls:=.type "range",data:=.fields #[.int lo t,.int hi u,.int 1 v] }).objs.size:=by simpa using hb
  subst e;exact I1.fpOk (aG _) (I1.hok.fresh (aG _))
def akl(ta:TA):TI:=λσ H R=>ta σ H λvs H1=>∃j:Int,vs=[.int j]/\-(2^62)<=j/\j<2^62/\R (Itr 0 j.toNat) H1
def alP(ta:TA):TI:=λσ H R=>ta σ H λvs H1=>∃i j:Int,vs=[.int i,.int j]/\(-(2^62)<=i/\i<2^62/\-(2^62)<=j/\j<2^62)/\R (Itr i (j-i).toNat) H1
theorem ZC{a:Expr}{ta:TA}{p pos:Pos}(hg:Gl X "range")(hm:X.mg "range"=none)(ha:PA X [a] ta)(hs:starEach [a] X.env=[(false,eval a X.env)]:=by rfl):PI X tg (.Call (.Name "range" p) [a] [] pos) (akl ta):=by
 intro aa s σ H R I h;refine Call_ (Cm I hg hm boot_range (PyProof.Rows.callWith_type1 (thn (ha pos aa s σ H _ I h) λus s1 hP=>?_) hs rfl));obtain⟨vs,H1,I1,r1,q1⟩:=hP;obtain⟨j,e,q1,q2,q⟩:=q1;subst e;cases r1 with
 |cons r rr =>
  cases rr;obtain⟨t,rfl⟩:=r;exact call_range_1 (Us I1 (XY (by decide)) (TW (by decide)) q1 q2 (by simpa using q))
theorem ZK{a b:Expr}{ta:TA}{p pos:Pos}(hg:Gl X "range")(hm:X.mg "range"=none)(ha:PA X [a,b] ta)(hs:starEach [a,b] X.env=[(false,eval a X.env),(false,eval b X.env)]:=by rfl)(eT:starEach [b] X.env=[(false,eval b X.env)]:=by rfl) :
  PI X tg (.Call (.Name "range" p) [a,b] [] pos) (alP ta):=by
 intro aa s σ H R I h;refine Call_ (Cm I hg hm boot_range (PyProof.Rows.callWith_type1 (thn (ha pos aa s σ H _ I h) λus s1 hP=>?_) (by rw[hs,eT]) (by rw[eT];rfl)));obtain⟨vs,H1,I1,r1,q1⟩:=hP;obtain⟨i,j,e,⟨q1,q2,q3,q4⟩,q⟩:=q1;subst e;cases r1 with
 |cons r rr =>
  cases rr with
  |cons r' rr =>
   cases rr;obtain⟨t,rfl⟩:=r;obtain⟨t',rfl⟩:=r';exact call_range_2 (Us I1 q1 q2 q3 q4 q)
def amX(wi:TI)(g:TG)(tb:TS):TS:=λD σ H=>wi σ H λJ H1=>∃W:Nat->Nat->St->Hp->Prop,(∃m,W 0 m σ H1)/\∀i m σ H,W i m σ H ->
 (J.stop i H/\D.nx σ H)\/(J.go i H/\∃N:St->Hp->Prop,(∀σ' H',N σ' H'->∃m',m'<m/\W (i+1) m' σ' H')/\∀x H',J.yld i H x H'->g x σ H' λσ2 H2=>tb { D with nx:=N,ct:=N,bk:=D.nx } σ2 H2)
def Kp(fp:Ψ)(h:Heap):Δ:=fp.filterMap λb=>(h.get? b).map λo=>(b,o)
theorem rM{fp:Ψ}{h:Heap}{b:Addr}{o:Obj}(hb:b∈fp)(e:h.get? b=some o):(b,o)∈Kp fp h:=List.mem_filterMap.mpr ⟨b,hb,by rw[e];rfl⟩
theorem ZG{fp:Ψ}{h:Heap}{p:Addr×Obj}(hp:p∈Kp fp h):p.1∈fp/\h.get? p.1=some p.2:=by
 obtain⟨b,hb,e⟩:=List.mem_filterMap.mp hp;cases q:h.get? b with
 |none=>rw[q]at e;cases e
 |some o =>
  rw[q]at e;have e':(b,o)=p:=Option.some.inj e;subst e';exact⟨hb,q⟩
theorem Inv.pinned{aa:Δ}{σ:St}{H:Hp}{s:Shared}{fp:Ψ}(I:Inv X aa σ H s)(hf:∀b∈fp,G4 X aa H b)(ho:∀b∈fp,∃o,s.heap.get? b=some o/\∀v,o.data≠.cell v):Inv X (aa++Kp fp s.heap) σ H s :=
 I.pins_of λp hp=>(Y1.mp hp).elim (λz=>I.pin p (aP _ z)) λz=>by
  obtain⟨hb,e⟩:=ZG z;obtain⟨f0,f1,f2,_⟩:=hf p.1 hb;obtain⟨o,e',d⟩:=ho p.1 hb;rw[e]at e';cases e';exact⟨e,f0,f1,f2,d⟩
theorem Inv.unpinned{aa pl:Δ}{σ:St}{H:Hp}{s:Shared}(I:Inv X (aa++pl) σ H s):Inv X aa σ H s:=I.pins_of λp hp=>I.pin p (aP _ (UQ _ hp))
abbrev qV(X:Cx)(a:Expr):Prop:=∀z,foldedSetIterable a X.env z=pure z
theorem ahd{iter:Expr}{b7:List Stmt}{wi:TI}{g:TG}{tb:TS}{pos:Pos}(hp:PassesOwn (model X.prog X.w) X.A X.env X.xe)(hc:X.calm=true)(hi:PI X tg iter wi)(hg:PG X tg g)(hb:PSs X b7 tb)
 (hs:qV X iter:=by intro _;rfl):PS X (.For tg iter b7 [] pos) (amX wi g tb):=by
 intro aa s σ H D I h;refine wpAny_For (thn (hi aa s σ H _ I h) λv s1 h1=>thn h1 λkU s2 h2=>?_) hs;obtain⟨it,fp,tn,J,H2,e,I2,T,f8,f2,W,⟨m0,w0⟩,turn⟩:=h2;subst e

 have gV:∀{H':Hp},(∀b∈fp,H' b=none)->∀b∈fp,G4 X aa H' b:=λhn b hb=>⟨hn b hb,(f2 b hb).2⟩;refine codeAny_forLoop_any (λn s'=>∃i σ' H',Inv X aa σ' H' s'/\tn i s'.heap/\(∀b∈fp,H' b=none)/\W i n σ' H') ?_ m0 ⟨0,σ,H2,I2,f8,λb hb=>(f2 b hb).1,w0⟩;rintro n s3 ⟨i,σ3,H3,I3,h8,fr3,w3⟩;rcases turn i n σ3 H3 w3 with⟨stop,qn⟩|⟨go,N,hN,step⟩
 .refine wpAny_passesOwn hp (thn (T.done X rfl rfl rfl hc i aa s3 σ3 H3 X.xe I3 (gV fr3) h8 stop) λr s4 hP=>?_);obtain⟨hr,I4⟩:=hP;subst hr;exact wpAny_execs_nil ⟨σ3,H3,I4,qn⟩
 .refine wpAny_passesOwn hp (thn (T.item X rfl rfl rfl hc i aa s3 σ3 H3 X.xe I3 (gV fr3) h8 go) λr s4 hP=>?_);obtain⟨u,hr,h4⟩:=hP;subst hr;refine wpAny_passesOwn hp (thn h4 λ_ s5 hP=>?_);obtain⟨x,H5,I5,r5,y5,kA,fr5⟩:=hP;have I5':=I5.pinned (gV fr5) (T.obj _ _ kA);refine wpAny_passesOwn hp (thn (hg _ s5 σ3 H5 x u _ I5' r5 (step x H5 y5)) λ_ s6 hP=>?_);obtain⟨σ6,H6,I6,q6⟩:=hP;refine wpAny_passesOwn hp (thn (hb _ s6 σ6 H6 _ I6 q6) λf s7 q7=>?_);have again:∀{σ7:St}{H7:Hp},Inv X (aa++Kp fp s5.heap) σ7 H7 s7->N σ7 H7->∃m,m<n/\∃i σ' H',Inv X aa σ' H' s7/\tn i s7.heap/\(∀b∈fp,H' b=none)/\W i m σ' H':=λ{σ7 H7}I7 n7=>by
   obtain⟨m',hm,w7⟩:=hN σ7 H7 n7;refine⟨m',hm,i+1,σ7,H7,I7.unpinned,T.keep _ _ _ kA λb hb o e=>(I7.pin (b,o) (aP _ (aP _ (rM hb e)))).1,λb hb=>?_,w7⟩;obtain⟨o,e,d⟩:=T.obj _ _ kA b hb;exact(I7.pin (b,o) (aP _ (aP _ (rM hb e)))).2.1
  cases f with
  |next=>obtain⟨σ7,H7,I7,n7⟩:=q7;exact again I7 n7
  |cont=>obtain⟨σ7,H7,I7,n7⟩:=q7;exact again I7 n7
  |brk=>obtain⟨σ7,H7,I7,q7⟩:=q7;exact⟨σ7,H7,I7.unpinned,q7⟩
  |ret v=>obtain⟨x7,σ7,H7,I7,r7,q7⟩:=q7;exact⟨x7,σ7,H7,I7.unpinned,r7,q7⟩
end
abbrev R2:=V->V->Hp->VK->Prop
def OpR(X:Cx)(f:Value->Value->Sem Value)(r:R2):Prop :=
 ∀(aa:Δ)(s:Shared)(σ:St)(H:Hp)(x y:V)(v u:Value)(Q:VK),Inv X aa σ H s->RelV x v->RelV y u->r x y H Q ->
  wpAny (model X.prog X.w) X.A (f v u) (EP X aa σ Q) X.xe s
def UnR(X:Cx)(f:Value->Sem Value)(r:V->Hp->VK->Prop):Prop :=
 ∀(aa:Δ)(s:Shared)(σ:St)(H:Hp)(x:V)(v:Value)(Q:VK),Inv X aa σ H s->RelV x v->r x H Q ->
  wpAny (model X.prog X.w) X.A (f v) (EP X aa σ Q) X.xe s
def jO(X:Cx)(f:Value)(r:Ζ->Hp->VK->Prop):Prop :=
 ∀(aa:Δ)(s:Shared)(σ:St)(H:Hp)(xs:Ζ)(us:Θ)(Q:VK),Inv X aa σ H s->Vals xs us->r xs H Q ->
  wpAny (model X.prog X.w) X.A (call f us) (EP X aa σ Q) X.xe s
def am8(X:Cx)(r:V->Hp->(Bool->Hp->Prop)->Prop):Prop :=
 ∀(aa:Δ)(s:Shared)(σ:St)(H:Hp)(x:V)(v:Value)(Q:Bool->Hp->Prop),Inv X aa σ H s->RelV x v->r x H Q ->
  wpAny (model X.prog X.w) X.A (truthy v) (TP X aa σ Q) X.xe s
def tOp(r:R2)(ta tb:TE):TE:=λσ H Q=>ta σ H λx H1=>tb σ H1 λy H2=>r x y H2 Q
def tUn(r:V->Hp->VK->Prop)(ta:TE):TE:=λσ H Q=>ta σ H λx H1=>r x H1 Q
def rI(C:Int->Int->Prop)(g:Int->Int->V):R2:=λx y H Q=>∃i j,x=.int i/\y=.int j/\C i j/\Q (g i j) H
def rI0(g:Int->Int->V):R2:=λx y H Q=>∃i j,x=.int i/\y=.int j/\Q (g i j) H
def rU(g:Int->V):V->Hp->VK->Prop:=λx H Q=>∃i,x=.int i/\Q (g i) H
section
variable{X:Cx}{a b c:Expr}{ta tb tc:TE}{pos:Pos}
theorem agG(ha:PE X a ta)(hb:PE X b tb){aa:Δ}{s:Shared}{σ:St}{H:Hp}{R:V->V->Hp->Prop}(I:Inv X aa σ H s)
 (h:ta σ H λx H1=>tb σ H1 λy H2=>R x y H2){Q:Ε}{f:Value->Value->Sem Value}
 (hf:∀v u s2 x y H2,Inv X aa σ H2 s2->RelV x v->RelV y u->R x y H2->wpAny (model X.prog X.w) X.A (f v u) Q X.xe s2) :
  wpAny (model X.prog X.w) X.A (eval a X.env) (λv s₁=>wpAny (model X.prog X.w) X.A (eval b X.env) (λu s₂=>wpAny (model X.prog X.w) X.A (f v u) Q X.xe s₂) X.xe s₁) X.xe s:=by
 refine thn (ha aa s σ H _ I h) λv s1 hP=>?_;obtain⟨x,H1,I1,r1,q1⟩:=hP;refine thn (hb aa s1 σ H1 _ I1 q1) λu s2 hP=>?_;obtain⟨y,H2,I2,r2,q2⟩:=hP;exact hf v u s2 x y H2 I2 r1 r2 q2
theorem aje{op:Operator}{r:R2}(ho:OpR X (binaryOp op) r)(ha:PE X a ta)(hb:PE X b tb):PE X (.BinOp a op b pos) (tOp r ta tb):=by
 intro aa s σ H Q I h;exact wpAny_BinOp (agG ha hb I h λv u s2 x y H2 I2 rx ry q=>ho aa s2 σ H2 x y v u Q I2 rx ry q)
theorem ajt{op:UnaryOp}{r:V->Hp->VK->Prop}(ho:UnR X (unaryOp op) r)(ha:PE X a ta):PE X (.UnaryOp op a pos) (tUn r ta):=by
 intro aa s σ H Q I h;exact UnaryOp_ (thn (ha aa s σ H _ I h) λv s1 hP=>by obtain⟨x,H1,I1,r1,q1⟩:=hP;exact ho aa s1 σ H1 x v Q I1 r1 q1)
theorem Y7{op:Operator}{r:R2}(ho:OpR X (inplaceOp op) r){aa:Δ}{s:Shared}{σ:St}{H:Hp}{x y:V}{v u:Value}{Q:VK}(I:Inv X aa σ H s)
 (rx:RelV x v)(ry:RelV y u)(q:r x y H Q):wpAny (model X.prog X.w) X.A (inplaceOp op v u) (EP X aa σ Q) X.xe s:=ho aa s σ H x y v u Q I rx ry q
theorem opI{f:Value->Value->Sem Value}{C:Int->Int->Prop}{g:Int->Int->Int}
 (rule:∀(i j:Int)(t u:Tok)(s:Shared)(Q:Ε)(E:Ε),C i j->Q (.int (g i j) s.toks) { s with toks:=s.toks+1 }->wpAny (model X.prog X.w) X.A (f (.int i t) (.int j u)) Q E s) :
  OpR X f (rI C λi j=>.int (g i j)):=by
 intro aa s σ H x y v u Q I rx ry h;obtain⟨i,j,rfl,rfl,hc,q⟩:=h;obtain⟨t,rfl⟩:=rx;obtain⟨t',rfl⟩:=ry;exact rule i j t t' s _ _ hc ⟨.int (g i j),H,I.tok _,⟨_,rfl⟩,q⟩
theorem ajK{f:Value->Value->Sem Value}{g:Int->Int->Int}
 (rule:∀(i j:Int)(t u:Tok)(s:Shared)(Q:Ε)(E:Ε),Q (.int (g i j) s.toks) { s with toks:=s.toks+1 }->wpAny (model X.prog X.w) X.A (f (.int i t) (.int j u)) Q E s) :
  OpR X f (rI0 λi j=>.int (g i j)):=by
 intro aa s σ H x y v u Q I rx ry h;obtain⟨i,j,rfl,rfl,q⟩:=h;obtain⟨t,rfl⟩:=rx;obtain⟨t',rfl⟩:=ry;exact rule i j t t' s _ _ ⟨.int (g i j),H,I.tok _,⟨_,rfl⟩,q⟩
theorem aeg{f:Value->Value->Sem Value}{g:Int->Int->Bool}
 (rule:∀(i j:Int)(t u:Tok)(s:Shared)(Q:Ε)(E:Ε),Q (.bool (g i j)) s->wpAny (model X.prog X.w) X.A (f (.int i t) (.int j u)) Q E s) :
  OpR X f (rI0 λi j=>.bl (g i j)):=by
 intro aa s σ H x y v u Q I rx ry h;obtain⟨i,j,rfl,rfl,q⟩:=h;obtain⟨t,rfl⟩:=rx;obtain⟨t',rfl⟩:=ry;exact rule i j t t' s _ _ ⟨.bl (g i j),H,I,rfl,q⟩
def ajW(i j:Int):Prop:=0<=j/\j<=1000000/\i.natAbs<2^64
def aeA(i j:Int):Prop:=(-(2^64)<i/\i<2^64)\/(-(2^64)<j/\j<2^64)
theorem aeA.ok{i j:Int}(h:aeA i j):IntMulOk i j:=by
 rcases h with⟨h1,h2⟩|⟨h1,h2⟩
 .exact .of_left (intBits_le_64 h1 h2)
 .exact .of_right (intBits_le_64 h1 h2)
theorem afH:OpR X (binaryOp .Add) (rI0 λi j=>.int (i+j)):=ajK λ_ _ _ _ _ _ _ q=>add_int q
theorem agL:OpR X (binaryOp .Sub) (rI0 λi j=>.int (i-j)):=ajK λ_ _ _ _ _ _ _ q=>sub_int q
theorem ahw:OpR X (binaryOp .Mult) (rI aeA λi j=>.int (i*j)):=opI λ_ _ _ _ _ _ _ hc q=>mul_int q hc.ok
theorem agd:OpR X (binaryOp .Mod) (rI (λ_ j=>0<j) λi j=>.int (i%j)):=opI λi j _ _ _ _ _ hc q=>by
 have h1:(0:Int)<j:=hc;exact mod_int' (WS hc) (by rw[Int.fmod_eq_emod_of_nonneg i (XY hc)];exact q)
theorem agt:OpR X (binaryOp .Pow) (rI ajW λi j=>.int (i^j.toNat)):=opI λ_ _ _ _ _ _ _ hc q=>pow_int_small hc.1 hc.2.1 hc.2.2 q
theorem unI{f:Value->Sem Value}{g:Int->Int}
 (rule:∀(i:Int)(t:Tok)(s:Shared)(Q:Ε)(E:Ε),Q (.int (g i) s.toks) { s with toks:=s.toks+1 }->wpAny (model X.prog X.w) X.A (f (.int i t)) Q E s) :
  UnR X f (rU λi=>.int (g i)):=by
 intro aa s σ H x v Q I rx h;obtain⟨i,rfl,q⟩:=h;obtain⟨t,rfl⟩:=rx;exact rule i t s _ _ ⟨.int (g i),H,I.tok _,⟨_,rfl⟩,q⟩
theorem afV:UnR X (unaryOp .USub) (rU λi=>.int (-i)):=unI λ_ _ _ _ _ q=>neg_int q
end
def abB:V->V->Bool
 |.non,.non=>true|.non,.int _=>true|.int _,.non=>true|.non,.bl _=>true|.bl _,.non=>true|.non,.str _=>true|.str _,.non=>true
 |.int _,.int _=>true|.bl _,.bl _=>true|.str _,.str _=>true|.byt _,.byt _=>true
 |.int _,.str _=>true|.str _,.int _=>true|.bl _,.str _=>true|.str _,.bl _=>true
 |_,_=>false
def rEq:R2:=λx y H Q=>abB x y=true/\Q (.bl (decide (x=y))) H
def rNe:R2:=λx y H Q=>abB x y=true/\Q (.bl (!decide (x=y))) H
theorem Yh{i j:Int} : decide (V.int i=V.int j)=(i==j):=by
 rw[Bool.eq_iff_iff];simp
theorem acG{i j:Bool} : decide (V.bl i=V.bl j)=(i==j):=by
 rw[Bool.eq_iff_iff];simp
theorem XJ{i j:Str} : decide (V.str i=V.str j)=(i==j):=by
 rw[Bool.eq_iff_iff];simp
theorem XM{i j:Array UInt8} : decide (V.byt i=V.byt j)=(i.toList==j.toList):=by
 rw[Bool.eq_iff_iff];cases i;cases j;simp
section
variable{X:Cx}{a b c:Expr}{ta tb tc:TE}{pos:Pos}
theorem dB{aa:Δ}{σ:St}{H:Hp}{s:Shared}{Q:VK}{k k':Bool}(I:Inv X aa σ H s)(q:Q (.bl k) H)(e:k=k'):EP X aa σ Q (.bool k') s:=by
 subst e;exact⟨.bl k,H,I,rfl,q⟩
theorem aj7:OpR X (compareOp .Eq) rEq:=by
 intro aa s σ H x y v u Q I rx ry h;obtain⟨hs,q⟩:=h;cases x with
 |non =>
  cases rx;cases y with
  |non=>cases ry;exact PySem.EqNone.eq_none_none (dB I q (by simp))
  |bl j=>cases ry;exact PySem.EqNone.eq_none_bool (dB I q (by simp))
  |int j=>obtain⟨t',rfl⟩:=ry;exact PySem.EqNone.eq_none_int (dB I q (by simp))
  |str j=>obtain⟨t',rfl⟩:=ry;exact PySem.EqNone.eq_none_str (dB I q (by simp))
  |_=>exact absurd (show false=true from hs) bA
 |bl i =>
  cases rx;cases y with
  |non=>cases ry;exact PySem.EqNone.eq_bool_none (dB I q (by simp))
  |bl j=>cases ry;exact eq_bool (dB I q acG)
  |str j=>obtain⟨t',rfl⟩:=ry;exact PySem.EqMixed.eq_bool_str (dB I q (by simp))
  |_=>exact absurd (show false=true from hs) bA
 |int i =>
  obtain⟨t,rfl⟩:=rx;cases y with
  |non=>cases ry;exact PySem.EqNone.eq_int_none (dB I q (by simp))
  |int j=>obtain⟨t',rfl⟩:=ry;exact eq_int (dB I q Yh)
  |str j=>obtain⟨t',rfl⟩:=ry;exact PySem.EqMixed.eq_int_str (dB I q (by simp))
  |_=>exact absurd (show false=true from hs) bA
 |str i =>
  obtain⟨t,rfl⟩:=rx;cases y with
  |non=>cases ry;exact PySem.EqNone.eq_str_none (dB I q (by simp))
  |bl j=>cases ry;exact PySem.EqMixed.eq_str_bool (dB I q (by simp))
  |int j=>obtain⟨t',rfl⟩:=ry;exact PySem.EqMixed.eq_str_int (dB I q (by simp))
  |str j=>obtain⟨t',rfl⟩:=ry;exact eq_str (dB I q XJ)
  |_=>exact absurd (show false=true from hs) bA
 |byt i =>
  obtain⟨t,rfl⟩:=rx;cases y with
  |byt j=>obtain⟨t',rfl⟩:=ry;exact PySem.W.eq_bytes (dB I q XM)
  |_=>exact absurd (show false=true from hs) bA
 |_=>cases y<;>exact absurd (show false=true from hs) bA
theorem alo:OpR X (compareOp .NotEq) rNe:=by
 intro aa s σ H x y v u Q I rx ry h;obtain⟨hs,q⟩:=h;cases x with
 |non =>
  cases rx;cases y with
  |non=>cases ry;exact PySem.EqNone.ne_none_none (dB I q (by simp))
  |bl j=>cases ry;exact PySem.EqNone.ne_none_bool (dB I q (by simp))
  |int j=>obtain⟨t',rfl⟩:=ry;exact PySem.EqNone.ne_none_int (dB I q (by simp))
  |str j=>obtain⟨t',rfl⟩:=ry;exact PySem.EqNone.ne_none_str (dB I q (by simp))
  |_=>exact absurd (show false=true from hs) bA
 |bl i =>
  cases rx;cases y with
  |non=>cases ry;exact PySem.EqNone.ne_bool_none (dB I q (by simp))
  |bl j=>cases ry;exact ne_bool (dB I q (ZH not acG))
  |str j=>obtain⟨t',rfl⟩:=ry;exact PySem.EqMixed.ne_bool_str (dB I q (by simp))
  |_=>exact absurd (show false=true from hs) bA
 |int i =>
  obtain⟨t,rfl⟩:=rx;cases y with
  |non=>cases ry;exact PySem.EqNone.ne_int_none (dB I q (by simp))
  |int j=>obtain⟨t',rfl⟩:=ry;exact ne_int (dB I q (ZH not Yh))
  |str j=>obtain⟨t',rfl⟩:=ry;exact PySem.EqMixed.ne_int_str (dB I q (by simp))
  |_=>exact absurd (show false=true from hs) bA
 |str i =>
  obtain⟨t,rfl⟩:=rx;cases y with
  |non=>cases ry;exact PySem.EqNone.ne_str_none (dB I q (by simp))
  |bl j=>cases ry;exact PySem.EqMixed.ne_str_bool (dB I q (by simp))
  |int j=>obtain⟨t',rfl⟩:=ry;exact PySem.EqMixed.ne_str_int (dB I q (by simp))
  |str j=>obtain⟨t',rfl⟩:=ry;exact ne_str (dB I q (ZH not XJ))
  |_=>exact absurd (show false=true from hs) bA
 |byt i =>
  obtain⟨t,rfl⟩:=rx;cases y with
  |byt j=>obtain⟨t',rfl⟩:=ry;exact PySem.W.ne_bytes (dB I q (ZH not XM))
  |_=>exact absurd (show false=true from hs) bA
 |_=>cases y<;>exact absurd (show false=true from hs) bA
theorem ahL:OpR X (compareOp .Lt) (rI0 λi j=>.bl (decide (i<j))):=aeg λ_ _ _ _ _ _ _ q=>lt_int q
theorem aiU:OpR X (compareOp .LtE) (rI0 λi j=>.bl (decide (i<=j))):=aeg λ_ _ _ _ _ _ _ q=>le_int q
theorem alk:OpR X (compareOp .Gt) (rI0 λi j=>.bl (decide (j<i))):=aeg λ_ _ _ _ _ _ _ q=>gt_int q
theorem ai3:OpR X (compareOp .GtE) (rI0 λi j=>.bl (decide (j<=i))):=aeg λ_ _ _ _ _ _ _ q=>ge_int q
theorem ahv:OpR X (compareOp .Is) (λx y H Q=>y=.non/\Q (.bl (decide (x=.non))) H):=by
 intro aa s σ H x y v u Q I rx ry h;obtain⟨rfl,q⟩:=h;cases ry;refine is_none_gen (dB I q ?_);cases x<;>first
  |(cases rx;rfl)
  |(obtain⟨t,rfl⟩:=rx;rfl)
theorem adR:OpR X (compareOp .IsNot) (λx y H Q=>y=.non/\Q (.bl (!decide (x=.non))) H):=by
 intro aa s σ H x y v u Q I rx ry h;obtain⟨rfl,q⟩:=h;cases ry;refine isnot_none_gen (dB I q ?_);cases x<;>first
  |(cases rx;rfl)
  |(obtain⟨t,rfl⟩:=rx;rfl)
theorem abf(b:Expr){op:CmpOp}(h:op≠.In:=by decide)(h2:op≠.NotIn:=by decide):behindInMarks op b=false:=by
 have e1:(op==CmpOp.In)=false:=by cases op<;>first|rfl|exact absurd rfl h
 have e2:(op==CmpOp.NotIn)=false:=by cases op<;>first|rfl|exact absurd rfl h2
 cases b<;>simp[behindInMarks,e1,e2]
theorem adV{op:CmpOp}{r:R2}(ho:OpR X (compareOp op) r)(ha:PE X a ta)(hb:PE X b tb)(hm:behindInMarks op b=false):PE X (.Compare a [op] [b] pos) (tOp r ta tb):=by
 intro aa s σ H Q I h;exact wpAny_Compare1 (agG ha hb I h λv u s2 x y H2 I2 rx ry q=>ho aa s2 σ H2 x y v u Q I2 rx ry q) hm
def afi(t:TE):TT:=λσ H Q=>t σ H λx H'=>∃k,x=.bl k/\Q k H'
theorem adC{op:CmpOp}{r:R2}(ho:OpR X (compareOp op) r)(ha:PE X a ta)(hb:PE X b tb)(hm:behindInMarks op b=false):PT X (.Compare a [op] [b] pos) (afi (tOp r ta tb)):=by
 intro aa s σ H Q I h;refine wpAny_isTrue_Compare1 (thn (ha aa s σ H _ I h) λv s1 ⟨x,H1,I1,r1,q1⟩=>thn (hb aa s1 σ H1 _ I1 q1) λu s2 ⟨y,H2,I2,r2,q2⟩ =>
  thn (ho aa s2 σ H2 x y v u _ I2 r1 r2 q2) λc s3 ⟨z,H3,I3,r3,k,e,q3⟩=>?_) hm
 subst e;cases r3;exact wpAny_truthy_bool ⟨H3,I3,q3⟩
def VJ(r r':R2)(ta tb tc:TE):TE:=λσ H Q=>ta σ H λx H1=>tb σ H1 λy H2=>r x y H2 λz H3=>∃k,z=.bl k /\
 (if k=true then tc σ H3 λw' H4=>r' y w' H4 Q else Q (.bl false) H3)
theorem ab6{op dv:CmpOp}{r r':R2}(ho:OpR X (compareOp op) r)(du:OpR X (compareOp dv) r')(ha:PE X a ta)(hb:PE X b tb)(hc:PE X c tc)
 (hm:lastMarks [op,dv] [b,c]=false:=by with_unfolding_all rfl):PE X (.Compare a [op,dv] [b,c] pos) (VJ r r' ta tb tc):=by
 intro aa s σ H Q I h;refine Compare_chain (thn (ha aa s σ H _ I h) λv s1 ⟨x,H1,I1,r1,q1⟩=>chain_link (thn (hb aa s1 σ H1 _ I1 q1) λu s2 ⟨y,H2,I2,r2,q2⟩ =>
  thn (ho aa s2 σ H2 x y v u _ I2 r1 r2 q2) λd s3 ⟨z,H3,I3,r3,k,e,q3⟩=>?_)) hm
 subst e;cases r3;refine wpAny_truthy_bool ?_;cases k with
 |false=>exact ite_ff ⟨.bl false,H3,I3,rfl,q3⟩
 |true=>exact ite_tt (chain_last (thn (hc aa s3 σ H3 _ I3 q3) λw' s4 hP=>by obtain⟨z',H4,I4,r4,q4⟩:=hP;exact du aa s4 σ H4 y z' u w' Q I4 r2 r4 q4))
theorem abI{op dv:CmpOp}{r r':R2}(ho:OpR X (compareOp op) r)(du:OpR X (compareOp dv) r')(ha:PE X a ta)(hb:PE X b tb)(hc:PE X c tc)
 (hm:lastMarks [op,dv] [b,c]=false:=by with_unfolding_all rfl):PT X (.Compare a [op,dv] [b,c] pos) (afi (VJ r r' ta tb tc)):=by
 intro aa s σ H Q I h;refine isTrue_chain (thn (ha aa s σ H _ I h) λv s1 ⟨x,H1,I1,r1,q1⟩=>test_link (thn (hb aa s1 σ H1 _ I1 q1) λu s2 ⟨y,H2,I2,r2,q2⟩ =>
  thn (ho aa s2 σ H2 x y v u _ I2 r1 r2 q2) λd s3 ⟨z,H3,I3,r3,k,e,q3⟩=>?_)) hm
 subst e;cases r3;refine wpAny_truthy_bool ?_;cases k with
 |false =>
  obtain⟨k',e',q'⟩:=q3;cases e';exact ite_ff ⟨H3,I3,q'⟩
 |true =>
  refine ite_tt (test_last (thn (hc aa s3 σ H3 _ I3 q3) λw' s4 ⟨z',H4,I4,r4,q4⟩=>thn (du aa s4 σ H4 y z' u w' _ I4 r2 r4 q4) λd' s5 hP=>?_));obtain⟨z2,H5,I5,r5,k2,e2,q5⟩:=hP;subst e2;cases r5;exact wpAny_truthy_bool ⟨H5,I5,q5⟩
def ajS(K:Frag)(x:V)(H:Hp)(k:Bool):Prop :=
 match x with
 |.non=>k=false
 |.bl b=>k=b
 |.int i=>k=(i != 0)
 |.str y=>y.length<=sizeLine/\k=((y.length:Int) != 0)
 |.byt y=>y.size<=sizeLine/\k=((y.size:Int) != 0)
 |.ref p=>(∃xs,SqL K H p xs/\k = !xs.isEmpty)\/(∃xs,SqT K H p xs/\k = !xs.isEmpty)\/∃kvs,H p=some (.dK kvs)/\k = !kvs.isEmpty
 |_=>False
theorem Vr{κ:Type}{kvs:List (κ×V)}{vs:List (κ×Value)}(r:KV kvs vs):(!vs.isEmpty) = !kvs.isEmpty:=by
 cases r<;>rfl
theorem Jc{xs:Ζ}{its:Θ}(r:Vals xs its):(!its.toArray.isEmpty) = !xs.isEmpty:=by
 cases r<;>simp
theorem zq:(sizeLine:Nat)<2^63:=by rw[sizeLine_eq];decide
theorem ahx:am8 X (λx H Q=>∃k,ajS X.K x H k/\Q k H):=by
 intro aa s σ H x v Q I rx h;obtain⟨k,e,q⟩:=h;have hl:=zq;have hs:sizeLine=16777216:=sizeLine_eq;cases x with
 |non =>
  cases rx;have e':k=false:=e;subst e';exact truthy_none ⟨H,I,q⟩
 |bl b =>
  cases rx;have e':k=b:=e;subst e';exact wpAny_truthy_bool ⟨H,I,q⟩
 |int i =>
  obtain⟨t,rfl⟩:=rx;have e':k=(i != 0):=e;subst e';exact PySem.P.truthy_int ⟨H,I,q⟩
 |str y =>
  obtain⟨t,rfl⟩:=rx;obtain⟨hy,e'⟩ : y.length<=sizeLine/\k=((y.length:Int) != 0):=e;subst e';exact PySem.P.truthy_str (by lia) ⟨H,I.tok _,q⟩
 |byt y =>
  obtain⟨t,rfl⟩:=rx;obtain⟨hy,e'⟩ : y.size<=sizeLine/\k=((y.size:Int) != 0):=e;subst e';exact PySem.W.truthy_bytes (aL hy (by decide)) ⟨H,I.tok _,q⟩
 |ref p =>
  cases rx;have e':(∃xs,SqL X.K H p xs/\k = !xs.isEmpty)\/(∃xs,SqT X.K H p xs/\k = !xs.isEmpty)\/∃kvs,H p=some (.dK kvs)/\k = !kvs.isEmpty:=e;rcases e' with⟨xs,hx,e'⟩|⟨xs,hx,e'⟩|⟨kvs,hx,e'⟩
  .subst e';obtain⟨its,r,pl,hz⟩:=I.list hx;have bg:=r.length;exact wpAny_truthy_list pl.isList (by simp only[aX];lia) ⟨H,I.tok _,by rw[Jc r];exact q⟩
  .subst e';obtain⟨its,r,pl,hz⟩:=I.tuple hx;have bg:=r.length;exact truthy_tuple pl (by simp only[aX];lia) ⟨H,I.tok _,by rw[Jc r];exact q⟩
  .subst e';obtain⟨hz,hS,vs,r,m⟩ : kvs.length<=sizeLine/\(p==sysModules)=false/\∃vs,KV kvs vs/\s.heap.DictOf (jW X.prog X.w) p vs:=I.hok p _ hx;have bg:kvs.length=vs.length:=Paired.length r;exact wpAny_truthy_dict hS m (by lia) ⟨H,I.tok _,by rw[Vr r];exact q⟩
 |_=>exact(show False from e).elim
theorem abD(ha:PE X a ta)(he:∀c9,isTrue a X.env c9=(do let v <- c9;standAt a.pos;holding [v] (truthy v))) :
  PT X a (λσ H Q=>ta σ H λx H'=>∃k,ajS X.K x H' k/\Q k H'):=by
 intro aa s σ H Q I h;exact isTrue_plain (thn (ha aa s σ H _ I h) λv s1 hP=>by obtain⟨x,H1,I1,r1,q1⟩:=hP;exact ahx aa s1 σ H1 x v Q I1 r1 q1) (he _)
theorem Wc:OpR X (binaryOp .Add) (λx y H Q=>∃i j,x=.str i/\y=.str j/\i.length+j.length<=sizeLine/\Q (.str (i++j)) H):=by
 intro aa s σ H x y v u Q I rx ry h;obtain⟨i,j,rfl,rfl,hz,q⟩:=h;obtain⟨t,rfl⟩:=rx;obtain⟨t',rfl⟩:=ry;exact add_str (λt' tk=>⟨.str (i++j),H,I.tok _,⟨_,rfl⟩,q⟩) hz
theorem vals1{x:V}{us:Θ}(r:Vals [x] us):∃u,us=[u]/\RelV x u:=by
 cases r with
 |cons r1 r2=>cases r2;exact⟨_,rfl,r1⟩
theorem vals2{x y:V}{us:Θ}(r:Vals [x,y] us):∃u w',us=[u,w']/\RelV x u/\RelV y w':=by
 cases r with
 |cons r1 r2 =>
  cases r2 with
  |cons r3 r4=>cases r4;exact⟨_,_,rfl,r1,r3⟩
theorem Z1:jO X (.builtin "abs") (λxs H Q=>∃i,xs=[.int i]/\Q (.int (if i<0 then -i else i)) H):=by
 intro aa s σ H xs us Q I r h;obtain⟨i,rfl,q⟩:=h;obtain⟨u,rfl,t,rfl⟩:=vals1 r;exact call_abs_int λu tk=>⟨.int (if i<0 then -i else i),H,I.tok _,⟨_,rfl⟩,q⟩
theorem Y0(hc:X.calm=true):jO X (.builtin "min") (λxs H Q=>∃i j,xs=[.int i,.int j]/\Q (.int (if j<i then j else i)) H):=by
 intro aa s σ H xs us Q I r h;obtain⟨i,j,rfl,q⟩:=h;obtain⟨u,w',rfl,⟨t,rfl⟩,⟨t',rfl⟩⟩:=vals2 r;refine min_two_ints (I.ok.hd hc) λh' tk k=>⟨_,H,I.kept k,?_,q⟩;by_cases hj:j<i
 .rw[ZY hj,ZY hj];exact⟨_,rfl⟩
 .rw[ZZ hj,ZZ hj];exact⟨_,rfl⟩
theorem ZF:jO X (.type "int") (λxs H Q=>(∃i,xs=[.int i]/\Q (.int i) H)\/∃k,xs=[.bl k]/\Q (.int (if k then 1 else 0)) H):=by
 intro aa s σ H xs us Q I r h;rcases h with⟨i,rfl,q⟩|⟨k,rfl,q⟩
 .obtain⟨u,rfl,t,rfl⟩:=vals1 r;exact call_int_int ⟨.int i,H,I,⟨_,rfl⟩,q⟩
 .obtain⟨u,rfl,r1⟩:=vals1 r;cases r1;exact call_int_bool ⟨.int (if k then 1 else 0),H,I.tok _,⟨_,rfl⟩,q⟩
end
structure Vw(h:Heap)(x dx C:Addr)(mA:Str->Ω):Prop where
 obj:h.get? x=some (instObj C dx)
 ns:h.Ns1 dx mA
 ne:dx≠x
theorem Zh{h:Heap}{dx:Addr}{mA:Str->Ω}(n:h.Ns1 dx mA):∃od,h.get? dx=some od/\∀name,lookIn name od=some (mA name):=by
 obtain⟨o,es,ep,ho,hd,hk,_,hm⟩:=n;refine⟨o,ho,λname=>?_⟩;have e:=hm name;unfold nsFind findBy at e;rw[<- Array.find?_toList]at e;unfold lookIn;rw[hd];dsimp only;split
 .rename_i y q
  rw[q]at e;exact ZH some e
 .rename_i q
  rw[q]at e;have a:es.toList.any (·.refKey)=false:=by
   rw[List.any_eq_false];intro y hy;obtain⟨z,t,hE⟩:=hk y (Array.mem_toList_iff.mp hy);simp[DictEntry.refKey,hE]
  have a':¬es.toList.any (·.refKey)=true:=by rw[a];exact bA
  rw[ZZ a'];exact ZH some e
theorem Vw.look{h:Heap}{x dx C:Addr}{mA:Str->Ω}(I:Vw h x dx C mA):∃od,PySem.W.InstAt h x (instObj C dx) C (some od)/\∀name,lookIn name od=some (mA name) :=
 let⟨od,ho,hl⟩:=Zh I.ns
 ⟨od,⟨I.obj,rfl,rfl,ho⟩,hl⟩
section
variable{prog:Program}{w:World}{A:Around}{E:Ε}{s:Shared}{K:Frag}{x dx C f:Addr}{mA:Str->Ω}{name:Str}{v:Value}
theorem get_map{mT:Bool}{Q:Ε}(X:K.In s.heap)(I:Vw s.heap x dx C mA)(hg:plainGet K C name=true)(hh:hasDictIn K C=true)
 (ha:findIn K (.ref C) name=some none)(hv:mA name=some v)(k4:handedIn v=true)(h:Q v { s with toks:=s.toks+1 }) :
  wpAny (model prog w) A (getAttr (.ref x) name mT) Q E s:=by
 obtain⟨od,J,hl⟩:=I.look;exact PySem.W.get_value X J (plainGet_of hg).1 (PySem.W.findObj_own hh ha rfl (by rw[hl,hv])) k4 h
theorem abV{pl:Sem Bool}{Q:Value×Θ->Shared->Prop}(X:K.In s.heap)(I:Vw s.heap x dx C mA)(hg:plainGet K C name=true)
 (hf:findIn K (.ref C) name=some (some (.ref f)))(ht:isFn K (.ref f)=true)(hv:mA name=none)(h:Q (.ref f,[.ref x]) s) :
  wpAny (model prog w) A (getMethod (.ref x) name pl) Q E s:=by
 obtain⟨od,J,hl⟩:=I.look;exact PySem.W.method_fn X J (plainGet_of hg).1 (plainGet_of hg).2 hf (beq_iff_eq.mp ht) (by show(lookIn name od).map (·.isSome)=some false;rw[hl,hv];rfl) h
theorem adb{ns:Φ}{Q:Unit->Shared->Prop}(X:K.In s.heap)(I:Vw s.heap x dx C mA)
 (hs:findIn K (.ref C) "__setattr__"=some (some (.builtin "object.__setattr__")))(hp:plainOver K C=true)(ht:takerIn K C name=some none)(hh:hasDictIn K C=true)
 (hw:PySem.Within mA ns)(hsz:ns.length<=sizeLine)
 (h:∀h',Vw h' x dx C (λy=>if y=name then some v else mA y)->Heap.SameBut dx s.heap h'->Q () { s with heap:=h',toks:=s.toks+2 }) :
  wpAny (model prog w) A (setAttr (.ref x) name v) Q E s:=by
 obtain⟨od,J,hl⟩:=I.look;refine PySem.W.set_plain X J hs (PySem.W.osa_open (s:={ s with toks:=s.toks+1 }) (r:=none) X J hp ht λb=>?_);obtain⟨cd,hc,bz⟩:=PySem.W.any_some hh;have hx:s.heap.get? x=some ⟨.ref C,some dx,.plain,#[]⟩:=I.obj;refine ZU (ZT (ZU (ZU (wpAny_loadPart hx (ZU (PySem.W.Looks.here (s:={ s with toks:=s.toks+1 }) (PySem.W.looks_clsIn X hc) ?_))))));rw[bz];refine ZT (a:=some dx) (ZU (ZT (ZU ?_)));refine wpAny_nsSet1 (s:={ s with toks:=s.toks+1 }) I.ns λh' ia eT=>?_;obtain⟨oD,esD,epD,hoD,hdD,hcD⟩:=ia.count (PySem.Within.cons name v hw);refine ZU (wpAny_lookBehind hoD (by rw[hdD];exact pastItsLine_dict (aL hcD (by rw[List.length_cons];exact Nat.succ_le_succ hsz))) ?_);exact ZT (h _ ⟨(eT.2 _ (Ne.symm I.ne)).trans I.obj,ia,I.ne⟩ eT)
theorem abk{R:Result->Shared->Prop}{vs:Θ}{kw:List (Str×Value)}(X:K.In s.heap)(hm:makesIn K C=true)
 (hi:findIn K (.ref C) "__init__"=some (some (.ref f)))(hf:PySem.W.typeIn K (.ref f)=some (.type "function"))
 (h:codeAny (model prog w) (A.under (.builtin "type.__call__" ⟨.ref C::vs,kw⟩)) (.call (.ref f) ⟨.ref (s.heap.objs.size+1)::vs,kw⟩) (PySem.W.InitBack (s.heap.objs.size+1) R)
   { s with heap:=(s.heap.push emptyDict).push (instObj C s.heap.objs.size) }) :
  codeAny (model prog w) A (.call (.ref C) ⟨vs,kw⟩) R s:=by
 obtain⟨hh,g,d,t,os⟩:=s;exact PySem.W.make_core (PySem.W.makes_of X hm) (PySem.W.looks_findIn X hi) (λself=>PySem.W.bind_fn X self hf) (.inl rfl) h
end
def wY(f:Str)(v:V):List (Str×V)->List (Str×V)
 |[]=>[(f,v)]
 |(g,x)::r=>if g=f then(g,v)::r else(g,x)::wY f v r
theorem Gz(f g:Str)(v:V):∀fs:List (Str×V),(wY f v fs).lookup g=if g=f then some v else fs.lookup g
 |[]=>by
  show List.lookup g [(f,v)]=_;by_cases h:g=f
  .have hb:(g==f)=true:=beq_iff_eq.mpr h;simp only[List.lookup,hb,ZY h]
  .have hb:(g==f)=false:=beq_eq_false_iff_ne.mpr h;simp only[List.lookup,hb,ZZ h]
 |(k,x)::r=>by
  have ih:=Gz f g v r;rw[show wY f v ((k,x)::r)=(if k=f then(k,v)::r else(k,x)::wY f v r)from rfl];by_cases hk:k=f
  .rw[ZY hk];by_cases h:g=k
   .have hb:(g==k)=true:=beq_iff_eq.mpr h;simp only[List.lookup,hb,ZY (h.trans hk)]
   .have hb:(g==k)=false:=beq_eq_false_iff_ne.mpr h;simp only[List.lookup,hb,ZZ (λe:g=f=>h (e.trans hk.symm))]
  .rw[ZZ hk];by_cases h:g=k
   .have hb:(g==k)=true:=beq_iff_eq.mpr h;simp only[List.lookup,hb,ZZ (λe:g=f=>hk (h.symm.trans e))]
   .have hb:(g==k)=false:=beq_eq_false_iff_ne.mpr h;simp only[List.lookup,hb];exact ih
theorem Gk(f:Str)(v:V):∀fs:List (Str×V),f∈(wY f v fs).map (·.1)/\∀g,g∈fs.map (·.1)->g∈(wY f v fs).map (·.1)
 |[]=>⟨by simp[wY],λg h=>by simp at h⟩
 |(k,x)::r=>by
  obtain⟨i1,i2⟩:=Gk f v r;rw[show wY f v ((k,x)::r)=(if k=f then(k,v)::r else(k,x)::wY f v r)from rfl];by_cases hk:k=f
  .rw[ZY hk];subst hk;exact⟨by simp,λg h=>by simpa using h⟩
  .rw[ZZ hk];refine⟨?_,λg h=>?_⟩
   .rw[List.map_cons];exact aJ _ i1
   .rw[List.map_cons]at h ⊢;rcases YU.mp h with e|e
    .exact YU.mpr (.inl e)
    .exact aJ _ (i2 g e)
theorem Gw(f:Str)(v:V):∀fs:List (Str×V),(wY f v fs).length<=fs.length+1
 |[]=>by simp[wY]
 |(k,x)::r=>by
  have ih:=Gw f v r;rw[show wY f v ((k,x)::r)=(if k=f then(k,v)::r else(k,x)::wY f v r)from rfl];by_cases hk:k=f
  .rw[ZY hk,List.length_cons,List.length_cons];exact Xs _
  .rw[ZZ hk,List.length_cons,List.length_cons];exact Nat.succ_le_succ ih
theorem Ar.some_of{v:V}{o:Ω}(r:Ar (some v) o):∃u,o=some u/\RelV v u:=by
 cases o with
 |none=>exact(show False from r).elim
 |some u=>exact⟨u,rfl,r⟩
theorem Ar.none_of{o:Ω}(r:Ar none o):o=none:=by
 cases o with
 |none=>rfl
 |some u=>exact(show False from r).elim
theorem Yy{v:V}{u:Value}(r:RelV v u):handedIn u=true:=by
 cases v with
 |non=>cases(show u=Value.none from r);rfl
 |bl b=>cases(show u=Value.bool b from r);rfl
 |int i=>obtain⟨t,e⟩:=(show ∃t,u=Value.int i t from r);cases e;rfl
 |str x=>obtain⟨t,e⟩:=(show ∃t,u=Value.str x t from r);cases e;rfl
 |byt b=>obtain⟨t,e⟩:=(show ∃t,u=Value.bytes b t from r);cases e;rfl
 |flt b=>obtain⟨t,e⟩:=(show ∃t,u=Value.float b t from r);cases e;rfl
 |ref a=>cases(show u=Value.ref a from r);rfl
 |ty n=>cases(show u=Value.type n from r);rfl
section
variable{P:Program}{w:World}{H H':Hp}{h h':Heap}{a C dx:Addr}{fs fs':List (Str×V)}
theorem Ie(hok:HOk P w H h)(e:H a=some (.ins C dx fs)):∃mA,Vw h a dx C mA/\(∀f,Ar (fs.lookup f) (mA f))/\PySem.Within mA (fs.map (·.1))/\fs.length<=1000/\H dx=some (.own a):=by
 obtain⟨d,z,ne,ob,mA,n,r,q⟩:=(show h_ P w H h a (.ins C dx fs)from hok a _ e);exact⟨mA,⟨ob,n,ne⟩,r,q,z,d⟩
end
structure Cls(K:Frag)(C:Addr):Prop where
 pg:plainGet K C Str.empty=true
 hd:hasDictIn K C=true
 po:plainOver K C=true
 sa:findIn K (.ref C) "__setattr__"=some (some (.builtin "object.__setattr__"))
theorem Cls.get{K:Frag}{C:Addr}(c:Cls K C)(f:Str):plainGet K C f=true:=c.pg
def cB(K:Frag)(C:Addr)(f:Str):Prop:=findIn K (.ref C) f=some none
theorem cB.taker{K:Frag}{C:Addr}{f:Str}(n:cB K C f):takerIn K C f=some none:=by
 unfold takerIn;rw[show findIn K (.ref C) f=some none from n]
 rfl
structure Meth(K:Frag)(C:Addr)(m:Str)(f:Addr):Prop where
 at_:findIn K (.ref C) m=some (some (.ref f))
 fn:isFn K (.ref f)=true
 kp:keepIn K (.ref f)=true
section
variable{X:Cx}{aa:Δ}{σ:St}{H:Hp}{s:Shared}{a C dx:Addr}{fs:List (Str×V)}{f:Str}{v:V}{A:Around}{E:Ε}
theorem Vu{b:Bool}{Q:Ε}(I:Inv X aa σ H s)(e:H a=some (.ins C dx fs))(c:Cls X.K C)(n:cB X.K C f)(l:fs.lookup f=some v)
 (h:∀u s',Inv X aa σ H s'->RelV v u->Q u s'):wpAny (model X.prog X.w) A (getAttr (.ref a) f b) Q E s:=by
 obtain⟨mA,O,r,_,_,_⟩:=Ie I.hok e;obtain⟨u,hu,ru⟩:=Ar.some_of (v:=v) (o:=mA f) (by rw[<- l];exact r f);exact get_map I.kIn O (c.get f) c.hd n hu (Yy ru) (h u _ (I.tok _) ru)
theorem Jf{m:Str}{g:Addr}{pl:Sem Bool}{Q:Value×Θ->Shared->Prop}(I:Inv X aa σ H s)(e:H a=some (.ins C dx fs))(c:Cls X.K C)(k:Meth X.K C m g)(l:fs.lookup m=none)
 (h:Q (.ref g,[.ref a]) s):wpAny (model X.prog X.w) A (getMethod (.ref a) m pl) Q E s:=by
 obtain⟨mA,O,r,_,_,_⟩:=Ie I.hok e;have hn:mA m=none:=Ar.none_of (by rw[<- l];exact r m);exact abV I.kIn O (c.get m) k.at_ k.fn hn h
theorem Vp{y:V}{u:Value}{Q:Unit->Shared->Prop}(I:Inv X aa σ H s)(e:H a=some (.ins C dx fs))(c:Cls X.K C)(n:cB X.K C f)(hl:fs.length<1000)(ry:RelV y u)
 (h:∀s',Inv X aa σ (upd H a (.ins C dx (wY f y fs))) s'->Q () s'):wpAny (model X.prog X.w) A (setAttr (.ref a) f u) Q E s:=by
 obtain⟨mA,O,r,wi,_,ho⟩:=Ie I.hok e;have hz:(fs.map (·.1)).length<=sizeLine:=by rw[ak,sizeLine_eq];exact aL (Y2 hl) (by decide)
 refine adb I.kIn O c.sa c.po n.taker c.hd wi hz λh' O' sb=>h _ ?_;have hd:∃o,h'.get? dx=some o:=by obtain⟨o,_,_,e',_⟩:=O'.ns;exact⟨o,e'⟩
 refine I.write (x:=a) (e:=dx) (by rw[e];exact True.intro) (.inr ho) (λb q hb z=>(sb.2 b hb).trans z) hd ?_;refine⟨by rw[cD O.ne];exact ho,?_,O.ne,O'.obj,_,O'.ns,λg=>?_,λg hg=>?_⟩
 .have:=Gw f y fs;lia
 .show Ar ((wY f y fs).lookup g) (if g=f then some u else mA g);rw[Gz];by_cases q:g=f
  .rw[ZY q,ZY q];exact ry
  .rw[ZZ q,ZZ q];exact r g
 .by_cases q:g=f
  .rw[q];exact(Gk f y fs).1
  .refine(Gk f y fs).2 g (wi g λz=>hg ?_);show(if g=f then some u else mA g)=none;rw[ZZ q];exact z
theorem Inv.made(I:Inv X aa σ H s):Inv X aa σ (upd (upd H s.heap.objs.size (.own (s.heap.objs.size+1))) (s.heap.objs.size+1) (.ins C s.heap.objs.size []))
  { s with heap:=(s.heap.push emptyDict).push (instObj C s.heap.objs.size) }:=by
 have e1:(s.heap.push emptyDict).get? s.heap.objs.size=some emptyDict:=aW s.heap rfl;have e2:((s.heap.push emptyDict).push (instObj C s.heap.objs.size)).get? (s.heap.objs.size+1)=some (instObj C s.heap.objs.size):=by
  have:=aW (s.heap.push emptyDict) (o:=instObj C s.heap.objs.size) rfl;rwa[Heap.size_push]at this
 have e3:(s.heap.push emptyDict).Ns s.heap.objs.size (λ_=>none):=⟨emptyDict,#[],_,e1,rfl,(λe he=>absurd he (by simp)),λ_=>rfl⟩;have I1:=I.laid (a:=s.heap.objs.size) (o:=.own (s.heap.objs.size+1)) (h':=s.heap.push emptyDict) (t':=s.toks) (λb u q=>aH _ q) (aG _) ⟨_,e1⟩;refine I1.laid (a:=s.heap.objs.size+1) (o:=.ins C s.heap.objs.size []) (t':=s.toks) (λb u q=>aH _ q) (WJ (Heap.size_push _ _)) ?_;have ne:s.heap.objs.size≠s.heap.objs.size+1:=aQ (X0 _);refine⟨by rw[cD ne,cL],aZ _,ne,e2,λ_=>none,(Heap.Ns1.of_empty e3).at λo q=>aH _ q,λ_=>True.intro,λy hy=>absurd rfl hy⟩
theorem adi{prog:Program}{w:World}{env:Env}{e:Expr}{f:Str}{pos:Pos}{s:Shared}{Q:Ε}(hb:attributeBase e f env (eval e env)=eval e env)
 (h:wpAny (model prog w) A (eval e env) (λo s₁=>wpAny (model prog w) A (getAttr o f true) Q E s₁) E s):wpAny (model prog w) A (eval (.Attribute e f pos) env) Q E s :=
 Attribute_any_ h (by rw[arm_eval_Attribute,hb])
end
def anB(K:Frag)(ta:TE)(f:Str):TE:=λσ H Q=>ta σ H λx H1=>∃a C dx fs v,x=.ref a/\H1 a=some (.ins C dx fs)/\Cls K C/\cB K C f/\fs.lookup f=some v/\Q v H1
def ank(K:Frag)(ta tv:TE)(f:Str):TS:=λD σ H=>tv σ H λy H1=>ta σ H1 λx H2=>∃a C dx fs,x=.ref a/\H2 a=some (.ins C dx fs)/\Cls K C/\cB K C f/\fs.length<1000 /\
 D.nx σ (upd H2 a (.ins C dx (wY f y fs)))
section
variable{X:Cx}{o e aI:Expr}{f:Str}{pos bo aE:Pos}{ta tv:TE}
abbrev qB(X:Cx)(a:Expr)(b:Str):Prop:=attributeBase a b X.env (eval a X.env)=eval a X.env
theorem aaB(he:PE X e ta)(hb:qB X e f):PE X (.Attribute e f pos) (anB X.K ta f):=by
 intro aa s σ H Q I h;refine adi hb (thn (he aa s σ H _ I h) λu s1 h=>?_);obtain⟨x,H1,I1,rx,a,C,dx,fs,v,rfl,ea,c,n,l,q⟩:=h;obtain rfl:u=Value.ref a:=rx;exact Vu I1 ea c n l λu' s2 I2 ru=>⟨v,H1,I2,ru,q⟩
theorem afT(ha:PE X o ta)(hv:PE X aI tv)(hs:swapsWith aI (some (.Attribute o f bo)) pos.line X.env=pure false):PS X (.Assign [.Attribute o f bo] aI pos) (ank X.K ta tv f):=by
 intro aa s σ H D I h;refine plainObj_wpAny_Assign_Attribute (thn (hv aa s σ H _ I h) λu s1 ⟨y,H1,I1,ry,q⟩=>thn (ha aa s1 σ H1 _ I1 q) λov s2 h=>?_) hs;obtain⟨x,H2,I2,rx,a,C,dx,fs,rfl,ea,c,n,l,q2⟩:=h;obtain rfl:ov=Value.ref a:=rx;exact Vp I2 ea c n l ry λs3 I3=>⟨σ,_,I3,q2⟩
end
section
variable{X:Cx}{aa:Δ}{σ:St}{H:Hp}{s:Shared}{A:Around}{E:Ε}{Q:Ε}{c:Value}{b:Bool}
inductive EY(K:Frag)(H:Hp):V->Value->Prop where
 |non:EY K H .non (.type "NoneType")
 |bl (x:Bool):EY K H (.bl x) (.type "bool")
 |int (i:Int):EY K H (.int i) (.type "int")
 |str (x:Str):EY K H (.str x) (.type "str")
 |flt (x:UInt64):EY K H (.flt x) (.type "float")
 |lst {a:Addr}{xs:Ζ} (e:H a=some (.lst xs)):EY K H (.ref a) (.type "list")
 |frz {a:Addr}{o:Obj}{xs:Ζ} (e:H a=some (.frz o (.lst xs))):EY K H (.ref a) (.type "list")
 |tup {a:Addr}{xs:Ζ} (e:H a=some (.tup xs)):EY K H (.ref a) (.type "tuple")
 |dK {a:Addr}{kvs:List (Key×V)} (e:H a=some (.dK kvs)):EY K H (.ref a) (.type "dict")
 |ins {a C dx:Addr}{fs:List (Str×V)} (e:H a=some (.ins C dx fs)) (cl:Cls K C) (ha:findIn K (.ref C) "__class__"=some (some (.builtin "object.__class__")))
   (hn:specialIn K (.builtin "object.__class__") "__get__"=some (some (.builtin "getset_descriptor.__get__"))) (htk:PySem.W.takesIn K (.builtin "object.__class__")=some true)
   (hm:mroIn K C (.type "object")=some true):EY K H (.ref a) (.ref C)
theorem YB{x:V}{u t:Value}(I:Inv X aa σ H s)(rx:RelV x u)(ty:EY X.K H x t)(e:kitOne X.K t c=some b)(h:∀tk,Q (.bool b) { s with toks:=tk }) :
  wpAny (model X.prog X.w) A (call (.builtin "isinstance") [u,c]) Q E s:=by
 cases ty with
 |non=>cases(show u=Value.none from rx);exact kia_one PySem.W.kitx_none I.kIn True.intro e (λz=>nomatch z) h
 |bl y=>cases(show u=Value.bool y from rx);exact kia_one PySem.W.kitx_bool I.kIn True.intro e (λz=>nomatch z) h
 |int i=>obtain⟨t,q⟩:=(show ∃t,u=Value.int i t from rx);cases q;exact kia_one PySem.W.kitx_int I.kIn True.intro e (λz=>nomatch z) h
 |str y=>obtain⟨t,q⟩:=(show ∃t,u=Value.str y t from rx);cases q;exact kia_one PySem.W.kitx_str I.kIn True.intro e (λz=>nomatch z) h
 |flt y=>obtain⟨t,q⟩:=(show ∃t,u=Value.float y t from rx);cases q;exact kia_one PySem.W.kitx_float I.kIn True.intro e (λz=>nomatch z) h
 |@lst a xs ea =>
  cases(show u=Value.ref a from rx);obtain⟨_,_,n,_,h1⟩:=(show h_ X.prog X.w H s.heap a (.lst xs)from I.hok a _ ea);exact kia_one kitx_list I.kIn ⟨_,h1,rfl⟩ e (λz=>nomatch z) h
 |@frz a ob xs ea =>
  cases(show u=Value.ref a from rx);obtain⟨_,_,_,n,_,h1⟩:=(show h_ X.prog X.w H s.heap a (.frz ob (.lst xs))from I.hok a _ ea);exact kia_one kitx_list I.kIn ⟨_,h1,rfl⟩ e (λz=>nomatch z) h
 |@tup a xs ea =>
  cases(show u=Value.ref a from rx);obtain⟨_,_,_,p⟩:=(show h_ X.prog X.w H s.heap a (.tup xs)from I.hok a _ ea);obtain⟨o,h1,h2,_⟩:=p;exact kia_one kitx_tuple I.kIn ⟨o,h1,h2⟩ e (λz=>nomatch z) h
 |@dK a kvs ea =>
  cases(show u=Value.ref a from rx);obtain⟨_,_,vs,_,p⟩:=(show h_ X.prog X.w H s.heap a (.dK kvs)from I.hok a _ ea);obtain⟨o,es,ep,h1,h2,_⟩:=p;exact kia_one PySem.W.kitx_dict I.kIn ⟨o,h1,h2.1⟩ e (λz=>nomatch z) h
 |@ins a C dx fs ea cl ha hn htk hm =>
  cases(show u=Value.ref a from rx);obtain⟨mA,O,_⟩:=Ie I.hok ea;obtain⟨od,J,_⟩:=O.look;exact kia_one (PySem.W.kitx_own (cl.get _) cl.hd ha hn htk hm) I.kIn J e (λz=>nomatch z) h
end
structure eG(k:Nat)(A:Around):Prop where
 hd:A.handled=none
 dp:A.depth+3*k+5<recursionLimit
 un:A.units+16*k+200<cLine
theorem eG.mono{j k:Nat}{A:Around}(r:eG k A)(h:j<=k):eG j A:=⟨r.hd,by have:=r.dp;lia,by have:=r.un;lia⟩
theorem eG.md{k n:Nat}{A:Around}(h:eG n A)(e:k<=n:=by decide):eG k A:=h.mono e
theorem eG.deeper{k:Nat}{A:Around}(r:eG (k+1) A)(env:Env):eG k (A.deeper env) :=
 ⟨r.hd,by have:=r.dp;show A.depth+1+3*k+5<_;lia,by have:=r.un;show A.units+3+16*k+200<_;lia⟩
theorem V3{A:Around}{C:Addr}{us:Θ}{kw:List (Str×Value)} : (A.under (.builtin "type.__call__" ⟨.ref C::us,kw⟩)).depth=A.depth+1:=by
 first|rfl|simp[Around.under,Code.weight,Code.isCreation,Code.isGuard,Code.isCaller,Code.frames,Code.isFrame,guardIds]
theorem Wm{A:Around}{C:Addr}{us:Θ}{kw:List (Str×Value)} : (A.under (.builtin "type.__call__" ⟨.ref C::us,kw⟩)).units=A.units+1:=by
 first|rfl|simp[Around.under,Code.cUnits,Code.frames,Code.isFrame]
theorem eG.make{k:Nat}{A:Around}(r:eG (k+1) A)(C:Addr)(us:Θ)(kw:List (Str×Value)):eG k (A.under (.builtin "type.__call__" ⟨.ref C::us,kw⟩)) :=
 ⟨r.hd,by have:=r.dp;rw[V3];lia,by have:=r.un;rw[Wm];lia⟩
theorem eG.depth{k:Nat}{A:Around}(r:eG k A):A.depth<recursionLimit:=by have:=r.dp;lia
theorem eG.units{k:Nat}{A:Around}(r:eG k A):A.units+64<cLine:=by have:=r.un;lia
def ahi:TA:=λ_ H Q=>Q [] H
def ajG(ta:TE)(tr:TA):TA:=λσ H Q=>ta σ H λx H1=>tr σ H1 λxs H2=>Q (x::xs) H2
section
variable{X:Cx}{e:Expr}{es:List Expr}{te:TE}{t:TA}{pos:Pos}
theorem PK:PA X [] ahi:=λ_ _ _ _ H Q I h=>Calls.spliced_nil ⟨[],H,I,.nil,h⟩
abbrev qo(X:Cx)(a:Expr)(b:List Expr):Prop:=starEach (a::b) X.env=(false,eval a X.env)::starEach b X.env
theorem p7(ha:PE X e te)(hr:PA X es t)(hs:qo X e es:=by rfl):PA X (e::es) (ajG te t):=by
 intro pos aa s σ H Q I h;rw[hs];show wpAny _ _ (spliced ((false,eval e X.env)::backTo pos (starEach es X.env))) _ _ s;refine Calls.spliced_cons (thn (ha aa s σ H _ I h) λu s1 hP=>?_);obtain⟨x,H1,I1,r1,q1⟩:=hP;exact thn (hr pos aa s1 σ H1 _ I1 q1) λus s2 hP=>by obtain⟨xs,H2,I2,r2,q2⟩:=hP;exact⟨x::xs,H2,I2,.cons r1 r2,q2⟩
def amH(t:TA):TE:=λσ H Q=>t σ H λxs H1=>xs.length<=sizeLine/\∀p,H1 p=none->Q (.ref p) (upd H1 p (.tup xs))
def amQ(t:TA):TE:=λσ H Q=>t σ H λxs H1=>xs.length<=sizeLine/\∀p,H1 p=none->Q (.ref p) (upd H1 p (.lst xs))
theorem agV{x1}(h:PA X es t):PE X (.Tuple es x1 pos) (amH t):=by
 intro aa s σ H Q I hq;refine wpAny_Tuple_spliced (thn (h pos aa s σ H _ I hq) λus s1 ⟨xs,H1,I1,r,z,q⟩=>⟨by rw[<- r.length];exact z,?_⟩);have hf:H1 s1.heap.objs.size=none:=I1.hok.fresh (aG _);refine⟨.ref s1.heap.objs.size,upd H1 s1.heap.objs.size (.tup xs),I1.laid (t':=s1.toks) (λb u e=>aH _ e) (aG _) ?_,rfl,q _ hf⟩;exact⟨z,us,r,⟨_,aW _ rfl,rfl,_,rfl⟩⟩
theorem af8(h:PA X es t):PE X (.List es pos) (amQ t):=by
 intro aa s σ H Q I hq;refine wpAny_List_spliced (thn (h pos aa s σ H _ I hq) λus s1 ⟨xs,H1,I1,r,z,q⟩=>⟨by rw[<- r.length];exact z,?_⟩);have hf:H1 s1.heap.objs.size=none:=I1.hok.fresh (aG _);refine⟨.ref s1.heap.objs.size,upd H1 s1.heap.objs.size (.lst xs),I1.laid (t':=s1.toks) (λb u e=>aH _ e) (aG _) ?_,rfl,q _ hf⟩;exact⟨z,us,0,r,aW _ rfl⟩
end
abbrev Sp:=Ζ->Hp->VK->XK->Prop
abbrev CXT:=List Env->Hp->Shared->XK->Value->Shared->Prop
structure Uh(P:Program)(w:World)(K:Frag)(mg:Str->Ω)(base:Heap)(A:Around)(outer:List Env)(s:Shared)(H:Hp):Prop where
 frames:A.frames=some outer
 mod:Mod K mg base
 bs:∀b o,base.get? b=some o->s.heap.get? b=some o/\H b=none
 bsz:base.objs.size<=s.heap.objs.size
 funs:s.heap.FunFrames base outer
 frf:∀b∈frs outer,H b=none
 hok:HOk P w H s.heap
 bare:AllBare s.gens
def CE(outer:List Env)(P:Program)(w:World)(H:Hp)(s:Shared)(Q:VK)(u:Value)(s':Shared):Prop :=
 ∃v H',s'.os=s.os/\AllBare s'.gens/\Un (frs outer) [] H H' s.heap s'.heap/\HOk P w H' s'.heap/\RelV v u/\Q v H'
def CR(CX:CXT)(outer:List Env)(P:Program)(w:World)(H:Hp)(s:Shared)(Q:VK)(E:XK)(r:Result)(s':Shared):Prop :=
 match r with
 |.ok (.ret u)=>CE outer P w H s Q u s'
 |.ok _=>False
 |.error e=>CX outer H s E e s'
structure gW(P:Program)(w:World)(K:Frag)(mg:Str->Ω)(base:Heap)(CX:CXT)(k:Nat)(f:Addr)(fd:FuncData)(ps:Φ)(sp:Sp):Prop where
 len:∀vs H Q E,sp vs H Q E->vs.length=ps.length
 run:∀(A:Around)(outer:List Env)(s:Shared)(H:Hp)(args:Args)(us:Θ)(vs:Ζ)(Q:VK)(E:XK),eG k A->Uh P w K mg base A outer s H->BindsTo s fd args (ps.zip us)->Vals vs us->sp vs H Q E ->
  codeAny (model P w) A (.call (.ref f) args) (CR CX outer P w H s Q E) s
theorem gW.imp{P:Program}{w:World}{K:Frag}{mg:Str->Ω}{base:Heap}{CX:CXT}{k:Nat}{f:Addr}{fd:FuncData}{ps:Φ}{sp sp':Sp}(F:gW P w K mg base CX k f fd ps sp)
 (h:∀vs H Q E,sp' vs H Q E->sp vs H Q E):gW P w K mg base CX k f fd ps sp' :=
 ⟨λvs H Q E q=>F.len vs H Q E (h _ _ _ _ q),λA outer s H args us vs Q E hr he hb hv hs=>F.run A outer s H args us vs Q E hr he hb hv (h _ _ _ _ hs)⟩
theorem Uh.make{P:Program}{w:World}{K:Frag}{mg:Str->Ω}{base:Heap}{A:Around}{outer:List Env}{s:Shared}{H:Hp}(e:Uh P w K mg base A outer s H)(C:Addr)(us:Θ)(kw:List (Str×Value)) :
  Uh P w K mg base (A.under (.builtin "type.__call__" ⟨.ref C::us,kw⟩)) outer s H:=⟨by first|exact e.frames|(simpa[Around.under,Code.envs,Code.isFrame,pushEnvs]using e.frames),e.mod,e.bs,e.bsz,e.funs,e.frf,e.hok,e.bare⟩
section
variable{X:Cx}{aa:Δ}{σ:St}{H:Hp}{s s':Shared}
theorem Inv.env0(I:Inv X aa σ H s):Uh X.prog X.w X.K X.mg X.base X.A X.stack s H :=
 ⟨I.ok.frames,I.ok.mod,I.bs,aL I.ok.bsz I.sz,I.stack,I.stkFree,I.hok,I.bare⟩
theorem Inv.after{Q:VK}{u:Value}(I:Inv X aa σ H s)(h:CE X.stack X.prog X.w H s Q u s'):EP X aa σ Q u s':=by
 obtain⟨v,H',os,bare,un,hok,r,q⟩:=h;obtain⟨hh,g,d,t,os'⟩:=s';obtain rfl:os'=s.os:=os;exact⟨v,H',I.call (h':=hh) (g':=g) (d':=d) (t':=t) (ch:=[]) un hok bare (λb z=>absurd z (by simp)),r,q⟩
end
def aiD(sp:Sp)(di:Ζ)(E:XK)(t:TA):TE:=λσ H Q=>t σ H λvs H1=>sp (vs++di) H1 Q E
def aeR(C:Addr)(m:Str)(sp:Sp)(di:Ζ)(E:XK)(ta:TE)(t:TA):TE:=λσ H Q=>ta σ H λx H1=>∃a dx fs,x=.ref a/\H1 a=some (.ins C dx fs)/\fs.lookup m=none /\
 t σ H1 λvs H2=>sp (x::(vs++di)) H2 Q E
def akz(C:Addr)(sp:Sp)(di:Ζ)(E:XK)(t:TA):TE:=λσ H Q=>t σ H λvs H1=>∀x dx,H1 x=none->H1 dx=none->dx≠x ->
 sp (.ref x::(vs++di)) (upd (upd H1 dx (.own x)) x (.ins C dx [])) (λv H2=>v=.non/\Q (.ref x) H2) E
def Binds(K:Frag)(fd:FuncData)(ps:Φ)(ds:Θ):Prop :=
 ∀(s:Shared)(us:Θ),K.In s.heap->(us++ds).length=ps.length->BindsTo s fd ⟨us,[]⟩ (ps.zip (us++ds))
theorem Binds.all{K:Frag}{fd:FuncData}{ps:Φ}(h:∀us:Θ,us.length=ps.length->bindArgs fd ⟨us,[]⟩=pure (ps.zip us)):Binds K fd ps []:=λs us _ hl=>by
 rw[List.append_nil]at hl ⊢;exact .of_eq (h us hl)
def Passes(CX:CXT)(X:Cx)(E:XK):Prop:=∀(aa:Δ)(σ:St)(H:Hp)(s:Shared)(e:Value)(s':Shared),Inv X aa σ H s->CX X.stack H s E e s'->X.xe e s'
section
variable{X:Cx}{CX:CXT}{k:Nat}{f C:Addr}{fd:FuncData}{ps:Φ}{sp:Sp}{di:Ζ}{ds:Θ}{E:XK}{x m:Str}{p pos ah:Pos}{e o:Expr}{es:List Expr}{ta:TE}{t:TA}
theorem JZ{aa:Δ}{σ:St}{H:Hp}{s:Shared}{Q:VK}{us:Θ}{vs:Ζ}(F:gW X.prog X.w X.K X.mg X.base CX k f fd ps sp)(hr:eG k X.A)(hb:Binds X.K fd ps ds)(hd:Vals di ds)(hx:Passes CX X E)
 (I:Inv X aa σ H s)(r:Vals vs us)(h:sp (vs++di) H Q E):wpAny (model X.prog X.w) X.A (call (.ref f) us) (EP X aa σ Q) X.xe s:=by
 have r2:Vals (vs++di) (us++ds):=r.append hd;have hl:(us++ds).length=ps.length:=by rw[<- r2.length];exact F.len _ _ _ _ h
 refine wpAny_call (codeAny_mono (F.run X.A X.stack s H ⟨us,[]⟩ (us++ds) (vs++di) Q E hr I.env0 (hb s us I.kIn hl) r2 h) λr s' hq=>?_);cases r with
 |error e=>exact hx aa σ H s e s' I hq
 |ok fl =>
  cases fl with
  |ret u=>exact I.after hq
  |next=>exact False.elim hq
  |brk=>exact False.elim hq
  |cont=>exact False.elim hq
abbrev qh(X:Cx)(a:Pos)(b:List Expr):Prop:=(backTo a (starEach b X.env)).any (·.1)=false
theorem aen(F:gW X.prog X.w X.K X.mg X.base CX k f fd ps sp)(hr:eG k X.A)(hg:Gl X x)(hm:X.mg x=some (.ref f))(hk:keepIn X.K (.ref f)=true)(hb:Binds X.K fd ps ds)(hd:Vals di ds)(hx:Passes CX X E)
 (ha:PA X (e::es) t)(ci:qk x:=by decide)(he:qo X e es:=by rfl)(bt:qh X pos es:=by rfl) :
  PE X (.Call (.Name x p) (e::es) [] pos) (aiD sp di E t):=by
 intro aa s σ H Q I h;refine wpAny_Call_Name_kw (Ip I hg hm ?_ ci);refine callWith_K (h₀:=X.base) I.ok.mod.kin hk (thn (ha pos aa s σ H _ I h) λus s1 ⟨vs,H1,I1,r,q⟩=>⟨I1.kIn,?_⟩) he bt;exact JZ F hr hb hd hx I1 r q
theorem aeG{pl:Sem Bool}(he:PE X o ta)(c:Cls X.K C)(hm:Meth X.K C m f)(F:gW X.prog X.w X.K X.mg X.base CX k f fd ps sp)(hr:eG k X.A)(hb:Binds X.K fd ps ds)(hd:Vals di ds)(hx:Passes CX X E)(ha:PA X (e::es) t)
 (cc:qo X e es:=by rfl)(bt:qh X pos es:=by rfl)
 (ht:eval (.Call (.Attribute o m ah) (e::es) [] pos) X.env=(do
   let ov <- eval o X.env
   standAt ah.atName
   let(f,first) <- holding [ov] (getMethod ov m pl)
   callWith pos f first (backTo pos (starEach (e::es) X.env)) (backToKw pos (keywordEach [] X.env))):=by rfl) :
  PE X (.Call (.Attribute o m ah) (e::es) [] pos) (aeR C m sp di E ta t):=by
 intro aa s σ H Q I h;refine methodCall_KW (pl:=pl) (thn (he aa s σ H _ I h) λu s1 hP=>?_) ht;obtain⟨x,H1,I1,rx,a,dx,fs,ex,ea,l,q⟩:=hP;subst ex;obtain rfl:u=Value.ref a:=rx;refine Jf I1 ea c hm l ?_;refine callWith_K (first:=[.ref a]) (h₀:=X.base) I.ok.mod.kin hm.kp (thn (ha pos aa s1 σ H1 _ I1 q) λus s2 ⟨vs,H2,I2,r,q2⟩=>⟨I2.kIn,?_⟩) cc bt;exact JZ (us:=.ref a::us) (vs:=.ref a::vs) F hr hb hd hx I2 (.cons rfl r) q2
theorem aaE{pl:Sem Bool}(he:PE X o ta)(c:Cls X.K C)(hm:Meth X.K C m f)(F:gW X.prog X.w X.K X.mg X.base CX k f fd ps sp)(hr:eG k X.A)(hb:Binds X.K fd ps ds)(hd:Vals di ds)(hx:Passes CX X E)
 (ht:eval (.Call (.Attribute o m ah) [] [] pos) X.env=(do
   let ov <- eval o X.env
   standAt ah.atName
   let(f,first) <- holding [ov] (getMethod ov m pl)
   callWith pos f first (backTo pos (starEach [] X.env)) (backToKw pos (keywordEach [] X.env))):=by rfl) :
  PE X (.Call (.Attribute o m ah) [] [] pos) (aeR C m sp di E ta ahi):=by
 intro aa s σ H Q I h;refine methodCall_KW (pl:=pl) (thn (he aa s σ H _ I h) λu s1 hP=>?_) ht;obtain⟨x,H1,I1,rx,a,dx,fs,ex,ea,l,q⟩:=hP;subst ex;obtain rfl:u=Value.ref a:=rx;refine Jf I1 ea c hm l ?_;exact PySem.W.callWith_K0 (first:=[.ref a]) I1.kIn hm.kp (JZ (us:=[.ref a]) (vs:=[.ref a]) F hr hb hd hx I1 (.cons rfl .nil) q)
structure Mk(K:Frag)(C f:Addr):Prop where
 makes:makesIn K C=true
 init:findIn K (.ref C) "__init__"=some (some (.ref f))
 fn:isFn K (.ref f)=true
 kp:keepIn K (.ref C)=true
theorem aci{aa:Δ}{σ:St}{H:Hp}{s:Shared}{Q:VK}{us:Θ}{vs:Ζ}(M:Mk X.K C f)(F:gW X.prog X.w X.K X.mg X.base CX k f fd ps sp)(hr:eG (k+1) X.A)(hb:Binds X.K fd ps ds)(hd:Vals di ds)
 (hx:Passes CX X E)(I:Inv X aa σ H s)(r:Vals vs us)
 (h:∀x dx,H x=none->H dx=none->dx≠x->sp (.ref x::(vs++di)) (upd (upd H dx (.own x)) x (.ins C dx [])) (λv H2=>v=.non/\Q (.ref x) H2) E) :
  wpAny (model X.prog X.w) X.A (call (.ref C) us) (EP X aa σ Q) X.xe s:=by
 have hq:=h (s.heap.objs.size+1) s.heap.objs.size (I.hok.fresh (Xs _)) (I.hok.fresh (aG _)) (aQ (X0 _));have I2:=Inv.made (C:=C) I;have r2:Vals (V.ref (s.heap.objs.size+1)::(vs++di)) (Value.ref (s.heap.objs.size+1)::(us++ds)):=.cons rfl (r.append hd);have hl:(Value.ref (s.heap.objs.size+1)::us++ds).length=ps.length:=by
  have e:=r2.length;rw[F.len _ _ _ _ hq]at e;exact e.symm
 refine wpAny_call (abk (f:=f) I.kIn M.makes M.init (beq_iff_eq.mp M.fn) (codeAny_mono (F.run _ X.stack _ _ ⟨Value.ref (s.heap.objs.size+1)::us,[]⟩ (Value.ref (s.heap.objs.size+1)::(us++ds)) _ _ E (hr.make C us [])
  (I2.env0.make C us []) (hb _ (Value.ref (s.heap.objs.size+1)::us) I2.kIn hl) r2 hq) λr s' dP=>?_))
 cases r with
 |error e=>exact hx aa σ _ _ e s' I2 dP
 |ok fl =>
  cases fl with
  |ret u =>
   obtain⟨v,H',I3,rv,ev,q3⟩:=I2.after dP;subst ev;exact⟨rv,⟨V.ref (s.heap.objs.size+1),H',I3,rfl,q3⟩⟩
  |next=>exact False.elim dP
  |brk=>exact False.elim dP
  |cont=>exact False.elim dP
theorem aeI(M:Mk X.K C f)(F:gW X.prog X.w X.K X.mg X.base CX k f fd ps sp)(hr:eG (k+1) X.A)(hg:Gl X x)(hm:X.mg x=some (.ref C))(hb:Binds X.K fd ps ds)(hd:Vals di ds)(hx:Passes CX X E)
 (ha:PA X (e::es) t)(ci:qk x:=by decide)(he:qo X e es:=by rfl)(bt:qh X pos es:=by rfl) :
  PE X (.Call (.Name x p) (e::es) [] pos) (akz C sp di E t):=by
 intro aa s σ H Q I h;refine wpAny_Call_Name_kw (Ip I hg hm ?_ ci);refine callWith_K (h₀:=X.base) I.ok.mod.kin M.kp (thn (ha pos aa s σ H _ I h) λus s1 ⟨vs,H1,I1,r,q⟩=>⟨I1.kIn,?_⟩) he bt;exact aci M F hr hb hd hx I1 r q
end
structure bM(N P:Φ)(sc:Scope):Prop where
 kind:sc.kind=.function
 co:sc.isCoroutine=false
 gen:sc.isGenerator=false
 nd:N.Nodup
 pre:N.take P.length=P
 par:∀x∈P,sc.names.lookup x=some .local\/sc.names.lookup x=some .cell
 nofree:∀y∈sc.names,y.2≠.free
theorem M9{kindOf:Str->Option NameKind}{x:Str} : ∀{binds:List (Str×Value)}{m:Str->Ω},(∀v,(x,v)∉binds)->bindL kindOf binds m x=m x
 |[],_,_=>rfl
 |(n,v)::r,m,h=>by
  unfold bindL;rw[M9 λw hw=>h w (aJ _ hw)];split
  .have:x≠n:=by rintro rfl;exact h v aO
   simp[this]
  .rfl
theorem Np{kindOf:Str->Option NameKind}{x:Str} : ∀{binds:List (Str×Value)}{m:Str->Ω},(∀v,(x,v)∉binds)->bindC kindOf binds m x=m x
 |[],_,_=>rfl
 |(n,v)::r,m,h=>by
  unfold bindC;rw[Np λw hw=>h w (aJ _ hw)];split
  .rfl
  .have:x≠n:=by rintro rfl;exact h v aO
   simp[this]
theorem Ni{kindOf:Str->Option NameKind}{x:Str}{v:Value} : ∀{P:Φ}{vs:Θ}{i:Nat}{m:Str->Ω},P.Nodup->P[i]?=some x->vs[i]?=some v->kindOf x=some .local ->
  bindL kindOf (P.zip vs) m x=some v
 |[],_,_,_,_,h,_,_=>by simp at h
 |_::_,[],_,_,_,_,h,_=>by simp at h
 |p::P,w::vs,0,m,nd,h1,h2,hk=>by
  simp at h1 h2;subst h1;subst h2;show bindL kindOf ((p,w)::P.zip vs) m p=_;unfold bindL;rw[M9 λv hv=>(List.nodup_cons.mp nd).1 (VS hv).1,ZY hk];simp
 |p::P,w::vs,i+1,m,nd,h1,h2,hk=>by
  show bindL kindOf ((p,w)::P.zip vs) m x=_;unfold bindL;exact Ni (i:=i) (List.nodup_cons.mp nd).2 (by simpa using h1) (by simpa using h2) hk
theorem MK{kindOf:Str->Option NameKind}{x:Str}{v:Value} : ∀{P:Φ}{vs:Θ}{i:Nat}{m:Str->Ω},P.Nodup->P[i]?=some x->vs[i]?=some v->kindOf x≠some .local ->
  bindC kindOf (P.zip vs) m x=some v
 |[],_,_,_,_,h,_,_=>by simp at h
 |_::_,[],_,_,_,_,h,_=>by simp at h
 |p::P,w::vs,0,m,nd,h1,h2,hk=>by
  simp at h1 h2;subst h1;subst h2;show bindC kindOf ((p,w)::P.zip vs) m p=_;unfold bindC;rw[Np λv hv=>(List.nodup_cons.mp nd).1 (VS hv).1,ZZ hk];simp
 |p::P,w::vs,i+1,m,nd,h1,h2,hk=>by
  show bindC kindOf ((p,w)::P.zip vs) m x=_;unfold bindC;exact MK (i:=i) (List.nodup_cons.mp nd).2 (by simpa using h1) (by simpa using h2) hk
def start(N:Φ)(vs:Ζ):St:=vs.map some++List.replicate (N.length-vs.length) none
def O8(CX:CXT)(P:Program)(w:World)(K:Frag)(mg:Str->Ω)(base:Heap)(N:Φ)(ai:Str)(scope:Scope)(f:Addr)(cd:Value)(A:Around)(outer:List Env)(s:Shared)(H:Hp)(E:XK):Cx where
 prog:=P
 w:=w
 K:=K
 mg:=mg
 base:=base
 A:=A.deeper (envOfC ai scope s.heap.objs.size f cd)
 N:=N
 s₀:=s
 H₀:=H
 env:=envOfC ai scope s.heap.objs.size f cd
 outer:=outer
 stack:=envOfC ai scope s.heap.objs.size f cd::outer
 ex:=[]
 calm:=true
 fn:=λ_=>true
 pn:=[]
 xe:=λe s'=>wpAny (model P w) (A.deeper (envOfC ai scope s.heap.objs.size f cd)) (leaving (envOfC ai scope s.heap.objs.size f cd) e) (λ_ kD=>CX outer H s E e kD) (λe' kD=>CX outer H s E e' kD) s'
theorem Sy{sc:Scope}{n:Nat}{x:Str}(h:sc.names.lookup x=some .cell):∃c,(cellsFrom n sc.names []).lookup x=some c:=by
 have q:=PySem.W.cellsFrom_some sc.names n [] (.inl h);exact Option.isSome_iff_exists.mp q
theorem YZ{CX:CXT}{P:Program}{w:World}{K:Frag}{mg:Str->Ω}{base:Heap}{N ps:Φ}{ai:Str}{scope:Scope}{f:Addr}{cd:Value}{A:Around}{outer:List Env}{s s1:Shared}{H:Hp}{E:XK}{us:Θ}{vs:Ζ}
 (S:bM N ps scope)(hd:A.handled=none)(e0:Uh P w K mg base A outer s H)(hl:vs.length=ps.length)(r:Vals vs us)
 (x:InCallC s s.heap.objs.size (bindL (envOfC ai scope s.heap.objs.size f cd).kindOf (ps.zip us) λ_=>none) (cellsFrom (s.heap.objs.size+1) scope.names []) (bindC (envOfC ai scope s.heap.objs.size f cd).kindOf (ps.zip us) λ_=>none) s1) :
  Inv (O8 CX P w K mg base N ai scope f cd A outer s H E) [] (start N vs) H s1:=by
 have bt:ps.length<=N.length:=by have:=ZH List.length S.pre;rw[aY]at this;lia
 obtain⟨h1,tk,rfl,hk⟩:=x.done;have iE:∀b:Addr,b∉(O8 CX P w K mg base N ai scope f cd A outer s H E).ex:=λb z=>absurd (show b∈([] : Ψ)from z) (by simp);refine⟨⟨e0.mod,S.kind,rfl,rfl,aG _,λy z c h1 h2=>?_,λy hy=>?_,λy c _ h=>?_,λ_=>hd,Around.frames_deeper e0.frames,.inr ⟨rfl,rfl⟩,λb z=>absurd z (iE b),e0.bs,e0.bsz,λb _ _=>iE b,λb z=>absurd z (iE b),e0.funs,e0.frf⟩,
  rfl,e0.bare,Un.kept hk,⟨_,x.toInCall.ns,λi y v h1 h2 h3=>?_⟩,λy c h=>⟨_,x.cell y c h⟩,e0.hok.fresh (aG _),λy c h=>?_,λp hp=>absurd (show p∈([] : Δ)from hp) (by simp),e0.hok.kept hk,?_⟩
 .exact name_of_addr x.apart (PySem.mem_of_lookup h1) (PySem.mem_of_lookup h2)
 .have hy:scope.names.lookup y=some .cell\/scope.names.lookup y=some .free:=hy;rcases hy with hy|hy
  .exact Sy hy
  .exact absurd rfl (S.nofree _ (PySem.mem_of_lookup hy))
 .exact Y2 (x.above y c (PySem.mem_of_lookup h))
 .have hi:i<vs.length:=by
   unfold start at h2;by_cases hi:i<vs.length
   .exact hi
   .rw[aD (by simpa using hi)]at h2;rw[XG]at h2;split at h2<;>cases h2
  have ha:vs[i]?=some v:=by
   unfold start at h2;rw[aF (by simpa using hi),aq]at h2;cases e:vs[i]? with
   |none=>rw[e]at h2;cases h2
   |some a=>rw[e]at h2;cases h2;rfl
  obtain⟨u,hu,rv⟩:=r.get ha;have hp:ps[i]?=some y:=by
   rw[<- S.pre,List.getElem?_take_of_lt (aR hi (WJ hl))];exact h1
  have ndP:ps.Nodup:=by rw[<- S.pre];exact S.nd.sublist (List.take_sublist _ _)
  refine⟨u,rv,?_⟩;rcases S.par y (aC hp)with k|k
  .exact .inl ⟨k,Ni ndP hp hu k⟩
  .obtain⟨c,e⟩:=Sy (n:=s.heap.objs.size+1) k;refine .inr ⟨.inl k,c,e,?_⟩;have q:=x.cell y c e;rw[MK ndP hp hu (by show scope.names.lookup y≠_;rw[k];decide)]at q;exact q
 .exact e0.hok.fresh (Y2 (x.above y c (PySem.mem_of_lookup h)))
 .unfold start;show _=N.length;rw[aA,ak,aN];lia
theorem ajl{CX:CXT}{P:Program}{w:World}{K:Frag}{mg:Str->Ω}{base:Heap}{k:Nat}{f:Addr}{name ai:Str}{fe:Arguments}{b7:List Stmt}{scope:Scope}{dV kV bE pm af ct oc:Value}{an od:Ξ}
 {d6:Array (Ω)}{N ps:Φ}{sp:Sp}(lk:K.lookup f=some ⟨oc,od,.func (PySem.W.fnOf name ai fe b7 scope dV kV bE pm an af ct),d6⟩)(bi:codeIn K af ai=true)(S:bM N ps scope)
 (len:∀vs H Q E,sp vs H Q E->vs.length=ps.length)
 (ck:∀(A:Around)(outer:List Env)(s:Shared)(H:Hp)(vs:Ζ)(Q:VK)(E:XK),eG k (A.deeper (envOfC ai scope s.heap.objs.size f af))->sp vs H Q E ->
   ∃t,PSs (O8 CX P w K mg base N ai scope f af A outer s H E) b7 t/\t { nx:=λ_ H'=>Q .non H',rt:=Q } (start N vs) H) :
  gW P w K mg base CX (k+1) f (PySem.W.fnOf name ai fe b7 scope dV kV bE pm an af ct) ps sp:=by
 refine⟨len,λA outer s H args us vs Q E hr e0 hb r gi=>?_⟩;have hl:=len _ _ _ _ gi;have KX:K.In s.heap:=e0.mod.kin.keeps λb o e=>(e0.bs b o e).1;have lim:s.heap.NoLimit:=e0.mod.nolimit.keeps λb o e=>(e0.bs b o e).1;have c5:∀y∈ps.zip us,scope.names.lookup y.1=some .local\/(scope.names.lookup y.1=some .cell/\((cellsFrom (s.heap.objs.size+1) scope.names []).lookup y.1).isSome=true):=λ⟨n,v⟩ hy=>by
  rcases S.par n (VS hy).1 with q|q
  .exact .inl q
  .exact .inr ⟨q,PySem.W.cellsFrom_some _ _ _ (.inl q)⟩
 refine codeAny_call_function hr.depth (KX _ _ lk) rfl S.co S.gen rfl (PySem.W.codeRec_of KX bi) (hb _ _ _ _ ?_);refine wpAny_newFunctionEnv_cells S.kind c5 λenv he s1 x=>?_;subst he;refine⟨lim.keeps x.toInCall.keep,codeAny_func ?_⟩;obtain⟨t,ht,hq⟩:=ck A outer s H vs Q E (hr.deeper _) gi;have I:Inv (O8 CX P w K mg base N ai scope f af A outer s H E) [] (start N vs) H s1:=YZ S hr.hd e0 hl r x;refine wpAny_mono (ht [] s1 (start N vs) H _ I hq) (λfl s' hs=>?_) λe s' hs=>hs;have fin:∀{σ':St}{H':Hp}{v:V}{u:Value},Inv (O8 CX P w K mg base N ai scope f af A outer s H E) [] σ' H' s'->RelV v u->Q v H'->CE outer P w H s Q u s' :=
  λ{σ' H' v u}J rv q=>⟨v,H',J.os,J.bare,J.base,J.hok,rv,q⟩
 cases fl with
 |ret u =>
  obtain⟨v,σ',H',J,rv,q⟩:=hs;exact fin J rv q
 |next =>
  obtain⟨σ',H',J,q⟩:=hs;exact fin (v:=V.non) (u:=Value.none) J rfl q
 |brk =>
  obtain⟨_,_,_,q⟩:=hs;exact False.elim q
 |cont =>
  obtain⟨_,_,_,q⟩:=hs;exact False.elim q
section
variable{X:Cx}{x:Str}{p pos:Pos}{e:Expr}{es:List Expr}{t:TA}{id T:String}{r:Ζ->Hp->VK->Prop}
def tCB(r:Ζ->Hp->VK->Prop)(t:TA):TE:=λσ H Q=>t σ H λvs H1=>r vs H1 Q
theorem Te(hc:jO X (.builtin id) r)(hg:Gl X x)(hm:X.mg x=none)(hv:bootBuiltins x=some (.builtin id))(ha:PA X (e::es) t)(hn:x≠"__name__":=by decide)(ci:qk x:=by decide)
 (he:qo X e es:=by rfl)(bt:qh X pos es:=by rfl):PE X (.Call (.Name x p) (e::es) [] pos) (tCB r t):=by
 intro aa s σ H Q I h;refine wpAny_Call_Name_kw (Cm I hg hm hv ?_ hn ci);exact PyProof.Rows.callWith_builtin1 (thn (ha pos aa s σ H _ I h) λus s1 hP=>by obtain⟨vs,H1,I1,r1,q1⟩:=hP;exact hc aa s1 σ H1 vs us Q I1 r1 q1) he bt
theorem Zf(hc:jO X (.type T) r)(hg:Gl X x)(hm:X.mg x=none)(hv:bootBuiltins x=some (.type T))(ha:PA X (e::es) t)(hn:x≠"__name__":=by decide)(ci:qk x:=by decide)
 (he:qo X e es:=by rfl)(bt:qh X pos es:=by rfl):PE X (.Call (.Name x p) (e::es) [] pos) (tCB r t):=by
 intro aa s σ H Q I h;refine wpAny_Call_Name_kw (Cm I hg hm hv ?_ hn ci);exact PyProof.Rows.callWith_type1 (thn (ha pos aa s σ H _ I h) λus s1 hP=>by obtain⟨vs,H1,I1,r1,q1⟩:=hP;exact hc aa s1 σ H1 vs us Q I1 r1 q1) he bt
end
end L2
namespace HT
open PySem PyProof.Rows
section
variable{prog:Program}{w:World}{A:Around}{E:Ε}{s:Shared}
def sIx(n d:Nat):Option Int->Nat
 |none=>d
 |some v=>if v<0 then(v+(n:Int)).toNat else min v.toNat n
theorem Dp(n d k:Nat):sIx n d (some (k:Int))=min k n:=by
 show(if(k:Int)<0 then((k:Int)+(n:Int)).toNat else min (k:Int).toNat n)=min k n;rw[ZZ (Int.not_lt_of_ge (X9 _)),Int.toNat_natCast]
theorem afQ(n d:Nat)(hd:d<=n)(o:Option Int):sIx n d o<=n:=by
 cases o with
 |none=>exact hd
 |some v =>
  show(if v<0 then(v+(n:Int)).toNat else min v.toNat n)<=n;by_cases hv:v<0
  .rw[ZY hv];lia
  .rw[ZZ hv];exact Nat.min_le_right _ _
end
end HT
namespace L2
open PySem PySem.Spec PyProof.Rows
abbrev TO:=St->Hp->(Option Int->Hp->Prop)->Prop
def PO(X:Cx)(e:Option Expr)(t:TO):Prop :=
 ∀(aa:Δ)(s:Shared)(σ:St)(H:Hp)(Q:Option Int->Hp->Prop),Inv X aa σ H s->t σ H Q ->
  wpAny (model X.prog X.w) X.A (evalPart e X.env) (λu s'=>∃o H',Inv X aa σ H' s'/\IsPart u o/\Q o H') X.xe s
def adD:TO:=λ_ H Q=>Q none H
def aks(t:TE):TO:=λσ H Q=>t σ H λx H1=>∃i,x=.int i/\Q (some i) H1
theorem intsAre_of{ns:List Int} : ∀{us:Θ},Vals (ns.map V.int) us->IntsAre us ns:=by
 induction ns with
 |nil=>intro us r;rw[List.map_nil]at r;cases r;exact .nil
 |cons n ns ih =>
  intro us r;rw[List.map_cons]at r;cases r with
  |cons r1 r2 =>
   obtain⟨t,e⟩:=r1;subst e;exact .cons n t (ih r2)
section
variable{X:Cx}{e:Expr}{te:TE}{lo hi:Option Expr}{tl th:TO}{pos p2:Pos}
theorem aeP:PO X none adD:=by
 intro aa s σ H Q I h;rw[evalPart_none];exact ZT ⟨none,H,I,.none,h⟩
theorem acU(h:PE X e te):PO X (some e) (aks te):=by
 intro aa s σ H Q I hw;rw[evalPart_some];refine thn (h aa s σ H _ I hw) λu s1 hP=>?_;obtain⟨x,H1,I1,r1,q1⟩:=hP;obtain⟨i,rfl,q⟩:=q1;obtain⟨t,rfl⟩:=r1;exact⟨some i,H1,I1,.int i t,q⟩
def SlR(X:Cx)(r:V->Option Int->Option Int->Hp->VK->Prop):Prop :=
 ∀(aa:Δ)(s:Shared)(σ:St)(H:Hp)(x:V)(v vl vu:Value)(lo hi:Option Int)(sl:Addr)(Q:VK),Inv X aa σ H s->RelV x v->s.heap.IsSliceOf sl vl vu .none->IsPart vl lo->IsPart vu hi->r x lo hi H Q ->
  ∃T id,typeLookup (.type T) "__getitem__"=pure (some (.builtin id))/\s.TypeIs v T/\wpAny (model X.prog X.w) X.A (getItem v (.ref sl)) (EP X aa σ Q) X.xe s
theorem SlR.or{r r':V->Option Int->Option Int->Hp->VK->Prop}(h:SlR X r)(h':SlR X r'):SlR X (λx lo hi H Q=>r x lo hi H Q\/r' x lo hi H Q):=by
 intro aa s σ H x v vl vu lo hi sl Q I rx hs pl pu q;rcases q with q|q
 .exact h aa s σ H x v vl vu lo hi sl Q I rx hs pl pu q
 .exact h' aa s σ H x v vl vu lo hi sl Q I rx hs pl pu q
def tSl(r:V->Option Int->Option Int->Hp->VK->Prop)(te:TE)(tl th:TO):TE:=λσ H Q=>te σ H λx H1=>tl σ H1 λl H2=>th σ H2 λu H3=>r x l u H3 Q
theorem abC{r:V->Option Int->Option Int->Hp->VK->Prop}(hr:SlR X r)(he:PE X e te)(hl:PO X lo tl)(hu:PO X hi th):PE X (.Subscript e (.Slice lo hi none p2) pos) (tSl r te tl th):=by
 intro aa s σ H Q I h;refine Subscript_ (thn (he aa s σ H _ I h) λv s1 hP=>?_);obtain⟨x,H1,I1,r1,q1⟩:=hP;refine wpAny_Slice (thn (hl aa s1 σ H1 _ I1 q1) λvl s2 ⟨l,H2,I2,pl,q2⟩=>thn (hu aa s2 σ H2 _ I2 q2) λvu s3 hP=>?_);obtain⟨u,H3,I3,pu,q3⟩:=hP;rw[evalPart_none];refine ZT ?_;have I4:Inv X aa σ H3 { s3 with heap:=s3.heap.push { cls:=.type "slice",data:=.fields #[vl,vu,.none] } }:=I3.kept (t':=s3.toks) λb ob q=>aH _ q;obtain⟨T,id,hT,ht,hg⟩:=hr aa { s3 with heap:=s3.heap.push { cls:=.type "slice",data:=.fields #[vl,vu,.none] } } σ H3 x v vl vu l u s3.heap.objs.size Q I4 r1 (Heap.IsSliceOf.new ..) pl pu q3;show wpAny (model X.prog X.w) X.A (subscriptTail e (.Slice lo hi none p2) v (.ref s3.heap.objs.size)) (EP X aa σ Q) X.xe { s3 with heap:=s3.heap.push { cls:=.type "slice",data:=.fields #[vl,vu,.none] } };exact tail_any (ops:=[.ref s3.heap.objs.size,v]) ht hT hg (by with_unfolding_all rfl)
def Zg(xs:Ζ)(lo hi:Option Int):Ζ:=(xs.drop (HT.sIx xs.length 0 lo)).take (HT.sIx xs.length xs.length hi-HT.sIx xs.length 0 lo)
theorem T9(xs:Ζ)(lo hi:Option Int):(Zg xs lo hi).length<=xs.length:=by
 unfold Zg;rw[aY,U2];lia
end
def ixN(n:Nat)(i:Int):Option Nat:=if 0<=i then(if i<n then some i.toNat else none)else if -(n:Int)<=i then some (i+n).toNat else none
def atI{α:Type}(xs:List α)(i:Int):Option α:=(ixN xs.length i).bind λj=>xs[j]?
theorem Xf{n:Nat}{i:Int}{j:Nat}(h:ixN n i=some j):seqIndex? i n=some j/\j<n/\-(n:Int)<=i/\i<n:=by
 unfold ixN at h;by_cases h0:0<=i
 .rw[ZY h0]at h;by_cases h1:i<n
  .rw[ZY h1]at h;have e:i.toNat=j:=Option.some.inj h;exact⟨by rw[seqIndex_of h0 h1,e],by lia,by lia,h1⟩
  .rw[ZZ h1]at h;cases h
 .rw[ZZ h0]at h;by_cases h1 : -(n:Int)<=i
  .rw[ZY h1]at h;have e:(i+n).toNat=j:=Option.some.inj h;exact⟨by rw[seqIndex_neg (TW h0) h1,e],by lia,h1,by lia⟩
  .rw[ZZ h1]at h;cases h
theorem PX{α:Type}{xs:List α}{i:Int}{v:α}(h:atI xs i=some v):∃j,seqIndex? i xs.length=some j/\xs[j]?=some v/\j<xs.length/\-(xs.length:Int)<=i/\i<xs.length:=by
 unfold atI at h;cases e:ixN xs.length i with
 |none=>rw[e]at h;cases h
 |some j =>
  rw[e]at h;obtain⟨h1,h2,h3,h4⟩:=Xf e;exact⟨j,h1,h,h2,h3,h4⟩
def sG(b:Expr):Prop:=∀o i,subscripted b false o i=operate [o,i] (getItem o i)
def IxR(X:Cx)(r:R2):Prop :=
 ∀(aI br:Expr)(aa:Δ)(s:Shared)(σ:St)(H:Hp)(x y:V)(v u:Value)(Q:VK),Inv X aa σ H s->RelV x v->RelV y u->r x y H Q ->
  subscripted br false v u=operate [v,u] (getItem v u)->wpAny (model X.prog X.w) X.A (subscriptTail aI br v u) (EP X aa σ Q) X.xe s
def MtR(X:Cx)(id:String)(r:V->Ζ->Hp->VK->Prop):Prop :=
 ∀(aa:Δ)(s:Shared)(σ:St)(H:Hp)(x:V)(xs:Ζ)(v:Value)(us:Θ)(Q:VK),Inv X aa σ H s->RelV x v->Vals xs us->r x xs H Q ->
  wpAny (model X.prog X.w) X.A (call (.builtin id) (v::us)) (EP X aa σ Q) X.xe s
section
variable{X:Cx}{a b:Expr}{ta tb:TE}{pos:Pos}
theorem IxR.or{r r':R2}(h:IxR X r)(h':IxR X r'):IxR X (λx y H Q=>r x y H Q\/r' x y H Q):=by
 intro aI br aa s σ H x y v u Q I rx ry q hs;rcases q with q|q
 .exact h aI br aa s σ H x y v u Q I rx ry q hs
 .exact h' aI br aa s σ H x y v u Q I rx ry q hs
theorem Nb{r:R2}(hr:IxR X r)(ha:PE X a ta)(hb:PE X b tb)(hs:sG b):PE X (.Subscript a b pos) (tOp r ta tb):=by
 intro aa s σ H Q I h;exact Subscript_ (agG ha hb I h λv u s2 x y H2 I2 rx ry q=>hr a b aa s2 σ H2 x y v u Q I2 rx ry q (hs _ _))
def ane(K:Frag):R2:=λx y H Q=>∃p xs i v,x=.ref p/\y=.int i/\SqL K H p xs/\atI xs i=some v/\Q v H
def amw(K:Frag):R2:=λx y H Q=>∃p xs i v,x=.ref p/\y=.int i/\SqT K H p xs/\atI xs i=some v/\Q v H
def anI:R2:=λx y H Q=>∃z i c,x=.str z/\y=.int i/\z.length<=sizeLine/\atI z.cps.toList i=some c/\Q (.str ⟨#[c]⟩) H
theorem Ae:IxR X (ane X.K):=by
 intro aI br aa s σ H x y v u Q I rx ry h hs;obtain⟨p,xs,i,z,rfl,rfl,hq,he,q⟩:=h;cases rx;obtain⟨t,rfl⟩:=ry;obtain⟨its,r,pl,hz⟩:=I.list hq;obtain⟨j,h1,h2,h3,h4,h5⟩:=PX he;obtain⟨w,ew,fc⟩:=r.get h2;have hl:=r.length;have hn:=zq;have fin:EP X aa σ Q w s:=⟨z,H,I,fc,q⟩;by_cases h0:0<=i
 .have hj:i.toNat=j:=by
   rw[seqIndex_of h0 h5]at h1;exact Option.some.inj h1
  exact item_listR pl.isList h0 (by lia) (by rw[hj];simpa using ew) fin hs
 .have hj:(i+(its.toArray.size:Int)).toNat=j:=by
   rw[seqIndex_neg (TW h0) h4]at h1;rw[aX,<- hl];exact Option.some.inj h1
  exact subscriptTail_builtinR (x:=w) pl.isList.typeIs slot_list_getitem.lookup
   (wpAny_getItem_list_neg (Q:=λr s'=>r=w/\EP X aa σ Q r s') pl.isList (TW h0) (by rw[aX]<;>lia) (by lia) (by rw[hj];simpa using ew) ⟨rfl,fin⟩) hs
theorem af6:IxR X (amw X.K):=by
 intro aI br aa s σ H x y v u Q I rx ry h hs;obtain⟨p,xs,i,z,rfl,rfl,hq,he,q⟩:=h;cases rx;obtain⟨t,rfl⟩:=ry;obtain⟨its,r,pl,hz⟩:=I.tuple hq;obtain⟨j,h1,h2,h3,h4,h5⟩:=PX he;obtain⟨w,ew,fc⟩:=r.get h2;have hl:=r.length;have hn:=zq;have fin:EP X aa σ Q w s:=⟨z,H,I,fc,q⟩;exact subscriptTail_builtinR (x:=w) pl.typeIs slot_tuple_getitem.lookup
  (getItem_tuple (j:=j) (Q:=λr s'=>r=w/\EP X aa σ Q r s') pl (by lia) (by lia) (by rw[aX,<- hl];exact h1) (by simpa using ew) ⟨rfl,fin⟩) hs
theorem ag3:IxR X anI:=by
 intro aI br aa s σ H x y v u Q I rx ry h hs;obtain⟨z,i,c,rfl,rfl,hz,he,q⟩:=h;obtain⟨t,rfl⟩:=rx;obtain⟨t',rfl⟩:=ry;obtain⟨j,h1,h2,h3,h4,h5⟩:=PX he;have hl:z.cps.toList.length=z.length:=by simp[Str.length]
 rw[hl]at h1 h4 h5;have hn:=zq;exact tail_any (typeIs_str s z t) slot_str_getitem.lookup (getItem_str (c:=c) (by
  have e1:decide (i < -(2^63:Int))=false:=Zp (by lia);have e2:decide (i>=2^63)=false:=Zp (by lia);rw[e1,e2,Bool.or_false]) (by rw[h1];simpa using h2) ⟨.str ⟨#[c]⟩,H,I.tok _,⟨_,rfl⟩,q⟩) hs
theorem V6(its:Θ)(n j:Nat)(u:Value):Obj.mapSeq (·.setIfInBounds j u) { cls:=.type "list",data:=.seq its.toArray n }={ cls:=.type "list",data:=.seq (its.set j u).toArray n }:=by
 simp[Obj.mapSeq]
theorem Inv.lst{aa:Δ}{σ:St}{H:Hp}{s:Shared}{p:Addr}{xs:Ζ}(I:Inv X aa σ H s)(h:H p=some (.lst xs)) :
  ∃(its:Θ)(n:Nat),Vals xs its/\s.heap.get? p=some { cls:=.type "list",data:=.seq its.toArray n }/\xs.length<=sizeLine:=by
 obtain⟨z,its,n,r,e⟩:=I.hok p _ h;exact⟨its,n,r,e,z⟩
theorem Inv.lstUpd{aa:Δ}{σ:St}{H:Hp}{s:Shared}{p:Addr}{xs ys:Ζ}{its its':Θ}{n n':Nat}{f:Obj->Obj}(I:Inv X aa σ H s)(h:H p=some (.lst xs))
 (ho:s.heap.get? p=some { cls:=.type "list",data:=.seq its.toArray n })(hf:f { cls:=.type "list",data:=.seq its.toArray n }={ cls:=.type "list",data:=.seq its'.toArray n' })(r:Vals ys its')(hz:ys.length<=sizeLine)(t:Nat) :
  Inv X aa σ (upd H p (.lst ys)) { s with heap:=s.heap.update p f,toks:=t }:=by
 have e:(s.heap.update p f).get? p=some { cls:=.type "list",data:=.seq its'.toArray n' }:=by
  rw[Heap.get?_update_self f ho (by rw[hf]<;>rfl),hf]
 refine I.write (x:=p) (e:=p) (by rw[h];trivial) (.inl rfl) (λb u hb q=>(Heap.get?_update_other _ _ (Ne.symm hb)).trans q) ⟨_,e⟩ ?_;exact⟨hz,its',n',r,e⟩
def alm:V->V->V->Hp->(Hp->Prop)->Prop:=λo i v H Q=>∃p xs k j,o=.ref p/\i=.int k/\H p=some (.lst xs)/\ixN xs.length k=some j/\Q (upd H p (.lst (xs.set j v)))
theorem set_list:ajr X alm:=by
 intro aa s σ H o i v ov iv u Q I ro ri rv h;obtain⟨p,xs,k,j,rfl,rfl,hp,hj,q⟩:=h;cases ro;obtain⟨t,rfl⟩:=ri;obtain⟨its,n,r,ho,hz⟩:=I.lst hp;obtain⟨h1,h2,h3,h4⟩:=Xf hj;have hl:=r.length;have hn:=zq;have I':Inv X aa σ (upd H p (.lst (xs.set j v))) { s with heap:=s.heap.update p (Obj.mapSeq (·.setIfInBounds j u)) } :=
  I.lstUpd hp ho (V6 its n j u) (r.set rv j) (by rw[WH];exact hz) s.toks
 by_cases h0:0<=k
 .have hk:k.toNat=j:=by
   rw[seqIndex_of h0 h4]at h1;exact Option.some.inj h1
  exact PySem.W.ki_setAt ho h0 (by lia) (by rw[aX,<- hl];exact h4) (by rw[hk];exact⟨_,I',q⟩)
 .have hk:(k+(its.toArray.size:Int)).toNat=j:=by
   rw[seqIndex_neg (TW h0) h3]at h1;rw[aX,<- hl];exact Option.some.inj h1
  exact PySem.W.ki_setBack ho (TW h0) (by rw[aX,<- hl];exact h3) (by lia) (by rw[hk];exact⟨_,I',q⟩)
theorem O6(lo hi:Option Int)(n:Nat):(sliceBounds lo hi none n).1=((HT.sIx n 0 lo:Nat):Int)/\(sliceBounds lo hi none n).2.1=((HT.sIx n n hi:Nat):Int)/\(sliceBounds lo hi none n).2.2=1:=by
 refine⟨?_,?_,rfl⟩
 .cases lo with
  |none=>simp[sliceBounds,HT.sIx]
  |some i =>
   simp only[sliceBounds,HT.sIx,Option.getD_none,show(1:Int)>0 by decide,if_true];by_cases h:i<0
   .simp only[h,if_true]<;>lia
   .simp only[h,if_false]<;>lia
 .cases hi with
  |none=>simp[sliceBounds,HT.sIx]
  |some i =>
   simp only[sliceBounds,HT.sIx,Option.getD_none,show(1:Int)>0 by decide,if_true];by_cases h:i<0
   .simp only[h,if_true]<;>lia
   .simp only[h,if_false]<;>lia
theorem Mz(its:Θ)(lo hi:Option Int):slicePick its.toArray lo hi none=((its.drop (HT.sIx its.length 0 lo)).take (HT.sIx its.length its.length hi-HT.sIx its.length 0 lo)).toArray:=by
 obtain⟨h1,h2,h3⟩:=O6 lo hi its.toArray.size;unfold slicePick;rw[h1,h2,h3];simp only[sliceRange_one,pick_run,aX]<;>rfl
def anO(K:Frag):V->Option Int->Option Int->Hp->VK->Prop:=λx lo hi H Q=>∃a xs,x=.ref a/\SqL K H a xs/\∀p,H p=none->Q (.ref p) (upd H p (.lst (Zg xs lo hi)))
theorem acJ:SlR X (anO X.K):=by
 intro aa s σ H x v vl vu lo hi sl Q I rx hs pl pu h;obtain⟨a,xs,rfl,hx,q⟩:=h;cases rx;obtain⟨its,r,ht,hz⟩:=I.list hx;have bg:=r.length;refine⟨"list",_,slot_list_getitem.lookup,ht.isList.typeIs,?_⟩;refine wpAny_getItem_list_slice ht.isList hs pl pu .none (by simp) ?_ (by rw[aX]<;>lia);rw[Mz,<- bg];refine⟨.ref s.heap.objs.size,_,I.laid (t':=s.toks) (o:=.lst (Zg xs lo hi)) (λb ob q=>aH _ q) (aG _) ?_,rfl,q _ (I.hok.fresh (aG _))⟩;exact⟨aL (T9 xs lo hi) hz,_,0,(r.drop (HT.sIx xs.length 0 lo)).take (HT.sIx xs.length xs.length hi-HT.sIx xs.length 0 lo),aW _ rfl⟩
def Nk:V->Bool
 |.non=>true
 |.bl _=>true
 |.int _=>true
 |.str _=>true
 |_=>false
def eqV:V->V->Bool
 |.non,.non=>true
 |.bl a,.bl b=>a==b
 |.bl a,.int b=>(if a then 1 else 0)==b
 |.int a,.bl b=>a==(if b then 1 else 0)
 |.int a,.int b=>a==b
 |.str a,.str b=>a==b
 |_,_=>false
theorem Rv:jO X (.builtin "len") (λxs H Q=>∃p ys,xs=[.ref p]/\(SqL X.K H p ys\/SqT X.K H p ys)/\Q (.int ys.length) H):=by
 intro aa s σ H xs us Q I r h;obtain⟨p,ys,rfl,hq,q⟩:=h;obtain⟨u,rfl,rx⟩:=vals1 r;cases rx;have hn:=zq;rcases hq with hq|hq
 .obtain⟨its,r',pl,hz⟩:=I.list hq;have bg:=r'.length;exact Calls.call_len_list pl.isList (by simp only[aX]<;>lia) ⟨.int ys.length,H,I.tok _,⟨s.toks+1,by rw[aX,bg]⟩,q⟩
 .obtain⟨its,r',pl,hz⟩:=I.tuple hq;have bg:=r'.length;exact len_tuple pl (by simp only[aX]<;>lia) ⟨.int ys.length,H,I.tok _,⟨s.toks+1,by rw[aX,bg]⟩,q⟩
theorem Pg:jO X (.builtin "len") (λxs H Q=>∃z,xs=[.str z]/\z.length<=sizeLine/\Q (.int z.length) H):=by
 intro aa s σ H xs us Q I r h;obtain⟨z,rfl,hz,q⟩:=h;obtain⟨u,rfl,t,rfl⟩:=vals1 r;have hn:=zq;exact len_str (by lia) ⟨.int z.length,H,I.tok _,⟨_,rfl⟩,q⟩
theorem QZ:jO X (.type "list") (λxs H Q=>∃p ys,xs=[.ref p]/\(SqL X.K H p ys\/SqT X.K H p ys)/\∀l,H l=none->Q (.ref l) (upd H l (.lst ys))):=by
 intro aa s σ H xs us Q I r h;obtain⟨p,ys,rfl,hq,q⟩:=h;obtain⟨u,rfl,rx⟩:=vals1 r;cases rx;have fin:∀(its:Θ),Vals ys its->ys.length<=sizeLine->∀(h':Heap)(c':Nat),(∀b o',s.heap.get? b=some o'->h'.get? b=some o') ->
   h'.get? s.heap.objs.size=some { cls:=.type "list",dict:=none,data:=.seq its.toArray c',slots:=#[] }->EP X aa σ Q (.ref s.heap.objs.size) { s with heap:=h' }:=λits r' hz h' c' kp e =>
  ⟨.ref s.heap.objs.size,_,I.laid (t':=s.toks) kp (aG _) (show h_ X.prog X.w _ h' _ (.lst ys)from⟨hz,its,c',r',e⟩),rfl,q _ (I.hok.fresh (aG _))⟩
 rcases hq with hq|hq
 .obtain⟨its,r',pl,hz⟩:=I.list hq;have bg:=r'.length;obtain⟨o,ho,hc,n,hd⟩:=pl.isList;exact call_list_seq p (.inl rfl) ho hc hd (λh' c' kp e=>fin its r' hz h' c' kp e) (by simp only[aX]<;>lia)
 .obtain⟨its,r',pl,hz⟩:=I.tuple hq;have bg:=r'.length;obtain⟨o,ho,hc,n,hd⟩:=pl;exact call_list_seq p (.inr rfl) ho hc hd (λh' c' kp e=>fin its r' hz h' c' kp e) (by simp only[aX]<;>lia)
def tyV(K:Frag)(T:String)(x:V)(H:Hp):Prop:=match x with
 |.str _=>T="str"
 |.int _=>T="int"
 |.ref p=>(T="list"/\∃xs,SqL K H p xs)\/(T="tuple"/\∃o,K.lookup p=some o/\o.cls=.type "tuple"/\o.dict=none) \/
   (T="dict"/\(∃kvs,H p=some (.dK kvs)))\/(T="set"/\∃S n,H p=some (.set S n))
 |_=>False
theorem afP{aa:Δ}{σ:St}{H:Hp}{s:Shared}{T:String}{x:V}{v:Value}(I:Inv X aa σ H s)(r:RelV x v)(ty:tyV X.K T x H) :
  s.TypeIs v T/\∀a,v=.ref a->∃ob,s.heap.get? a=some ob/\ob.dict=none:=by
 cases x with
 |str z =>
  obtain⟨t,rfl⟩:=r;cases(show T="str" from ty);exact⟨typeIs_str s z t,λ_ e=>nomatch e⟩
 |int i =>
  obtain⟨t,rfl⟩:=r;cases(show T="int" from ty);exact⟨typeIs_int s i t,λ_ e=>nomatch e⟩
 |ref p =>
  cases r;rcases ty with⟨rfl,xs,hq⟩|⟨rfl,o,hk,hc,hd⟩|⟨rfl,hk⟩|⟨rfl,S,n,hk⟩
  .obtain⟨its,_,pl,_⟩:=I.list hq;refine⟨pl.isList.typeIs,λa e=>?_⟩;cases e;obtain⟨o,n,e,c,hd,_⟩:=pl;exact⟨o,e,hd⟩
  .refine⟨⟨o,I.kIn p o hk,hc⟩,λa e=>?_⟩;cases e;exact⟨o,I.kIn _ o hk,hd⟩
  .have z:∃o,s.heap.get? p=some o/\o.ExactDict:=by
    obtain⟨kvs,hk⟩:=hk;obtain⟨_,_,_,_,o,_,_,e,ex,_⟩:=I.hok p _ hk;exact⟨o,e,ex⟩
   obtain⟨o,e,ex⟩:=z;refine⟨⟨o,e,ex.1⟩,λa e2=>?_⟩;cases e2;exact⟨o,e,ex.2.1⟩
  .obtain⟨o,_,_,_,e,ex,_⟩:=I.hok p _ hk;refine⟨⟨o,e,ex.1⟩,λa e2=>?_⟩;cases e2;exact⟨o,e,ex.2.1⟩
 |_=>exact False.elim ty
def tBM(K:Frag)(T:String)(r:V->Ζ->Hp->VK->Prop)(to:TE)(t:TA):TE:=λσ H Q=>to σ H λx H1=>tyV K T x H1/\t σ H1 λxs H2=>r x xs H2 Q
variable{o e:Expr}{es:List Expr}{to:TE}{t:TA}{name:Str}{ah ae:Pos}{T id:String}{r:V->Ζ->Hp->VK->Prop}
abbrev zz(a b:Pos):Prop:=(a.endLine==b.line)=true
theorem Yb(pa:PlainAttrs T)(slot:Slot T name id)(iS:typeOf (.builtin id)=pure (.type "method_descriptor"))(hm:MtR X id r)(ho:PE X o to)(ha:PA X (e::es) t)
 (js:qB X o name:=by rfl)
 (l6:((backTo ae (starEach (e::es) X.env)).all (λx=>!x.1)&&(backToKw ae (keywordEach [] X.env)).all (λx=>x.1.isSome)
   && decide ((e::es).length+([] : List Keyword).length+(if([] : List Keyword).isEmpty then 0 else 1)<30))=true:=by rfl)
 (i9:zz ah ae:=by rfl)(hs:qo X e es:=by rfl)(g6:qh X ae es:=by rfl) :
  PE X (.Call (.Attribute o name ah) (e::es) [] ae) (tBM X.K T r to t):=by
 intro aa s σ H Q I h;refine wpAny_Call_method_late js l6 i9 rfl (thn (ho aa s σ H _ I h) λv s1 hP=>?_);obtain⟨x,H1,I1,r1,ty,q1⟩:=hP;obtain⟨h1,h2⟩:=afP I1 r1 ty;refine⟨T,id,pa,slot,iS,h1,h2,?_⟩;have hA:=ha ae aa s1 σ H1 _ I1 q1;rw[hs]at hA ⊢;refine Calls.callWith_builtin (by show(false || (backTo ae (starEach es X.env)).any (·.1))=false;rw[g6]<;>rfl) (Calls.evalArgs_plain ?_);exact thn hA λus s2 hP=>by obtain⟨vs,H2,I2,r2,q2⟩:=hP;exact hm aa s2 σ H2 x vs v us Q I2 r1 r2 q2

end
def MtM(X:Cx)(id:String)(r:V->Ζ->Hp->VK->Prop):Prop :=
 ∀(aa:Δ)(s:Shared)(σ:St)(H:Hp)(x:V)(xs:Ζ)(v:Value)(us:Θ)(Q:VK),Inv X aa σ H s->RelV x v->Vals xs us->r x xs H Q ->
  wpAny (model X.prog X.w) X.A (call (.builtin id) (v::us)) (EP X aa σ Q) X.xe s
theorem Vals.one:∀{x:V}{us:Θ},Vals [x] us->∃u,us=[u]/\RelV x u
 |_,_,.cons r .nil=>⟨_,rfl,r⟩
theorem Vals.two{x y:V}{us:Θ}(h:Vals [x,y] us):∃u v,us=[u,v]/\RelV x u/\RelV y v:=by
 cases h with|cons r t=>cases t with|cons q t=>cases t;exact⟨_,_,rfl,r,q⟩
theorem Vals.rep{xs:Ζ}{us:Θ}(h:Vals xs us):∀k:Nat,Vals (List.replicate k xs).flatten (List.replicate k us).flatten
 |0=>.nil
 |k+1=>by
  rw[List.replicate_succ,List.replicate_succ,List.flatten_cons,List.flatten_cons];exact Vals.append h (Vals.rep h k)
theorem foldl_rep(its:Θ):∀(k:Nat)(acc:Θ),
  List.foldl (λx1 x2=>x1++x2) acc.toArray (List.replicate k its.toArray)=(acc++(List.replicate k its).flatten).toArray
 |0,acc=>by simp
 |k+1,acc=>by
  have e:acc.toArray++its.toArray=(acc++its).toArray:=by simp
  have e2:(acc++its)++(List.replicate k its).flatten=acc++(List.replicate (k+1) its).flatten:=by
   rw[List.replicate_succ,List.flatten_cons,Wp]
  rw[<- e2,<- foldl_rep its k (acc++its),<- e,List.replicate_succ,List.foldl_cons]
section
variable{X:Cx}{aa:Δ}{σ:St}{H:Hp}{s:Shared}{l b:Addr}{xs ys zs:Ζ}
theorem Inv.lset{its its':Θ}{n:Nat}{f:Array Value->Array Value}{t':Nat}(I:Inv X aa σ H s)(hH:H l=some (.lst xs))
 (e:s.heap.get? l=some { cls:=.type "list",data:=.seq its.toArray n })(hf:f its.toArray=its'.toArray)(hv:Vals ys its')(hz:ys.length<=sizeLine) :
  Inv X aa σ (upd H l (.lst ys)) { s with heap:=s.heap.update l (Obj.mapSeq f),toks:=t' }:=by
 have q:=PySem.IsL.update e f;rw[hf]at q;refine I.write (x:=l) (e:=l) (by rw[hH];exact trivial) (.inl rfl) (λb' u hb hu=>(Heap.get?_update_other s.heap (Obj.mapSeq f) (Ne.symm hb)).trans hu) ⟨_,q⟩ ?_;exact⟨hz,its',_,hv,q⟩
theorem Inv.lnew{its:Θ}{t':Nat}(I:Inv X aa σ H s)(hv:Vals ys its)(hz:ys.length<=sizeLine) :
  Inv X aa σ (upd H s.heap.objs.size (.lst ys)) { s with heap:=s.heap.push { cls:=.type "list",data:=.seq its.toArray },toks:=t' } :=
 I.laid (λ_ _ q=>aH _ q) (aG _) ⟨hz,its,0,hv,aW _ rfl⟩
theorem Inv.fresh(I:Inv X aa σ H s):H s.heap.objs.size=none:=I.hok.fresh (aG _)
theorem Inv.lstM(I:Inv X aa σ H s)(hH:H l=some (.lst xs)):xs.length<=sizeLine/\∃(its:Θ)(n:Nat),Vals xs its/\xs.length=its.length/\s.heap.get? l=some { cls:=.type "list",data:=.seq its.toArray n }:=by
 obtain⟨z,its,n,r,e⟩:=I.hok l _ hH;exact⟨z,its,n,r,r.length,e⟩
theorem ace{n:Nat}(h:n<=sizeLine):Builtin.List.listTooLong n=false:=by
 unfold Builtin.List.listTooLong;exact Zp (Ts h)
end
section
variable{X:Cx}
def adM:V->Ζ->Hp->VK->Prop:=λx vs H Q=>∃l xs y,x=.ref l/\vs=[y]/\H l=some (.lst xs)/\xs.length<sizeLine/\Q .non (upd H l (.lst (xs++[y])))
theorem Nj:MtM X "list.append" adM:=by
 intro aa s σ H x vs v us Q I rx rv h;obtain⟨l,xs,y,rfl,rfl,hH,hz,q⟩:=h;cases rx;obtain⟨u,rfl,ru⟩:=rv.one;obtain⟨z,its,n,r,hl,e⟩:=I.lstM hH;refine call_meets F.slot_list_append ⟨_,e,rfl⟩ F.entry_list_append (F.args_list_append_2 _ _) (PySem.list_append l its.toArray n u (by rw[aX];lia)) ⟨e,?_⟩;refine⟨.non,_,I.lset (its':=its++[u]) hH e (by simp) (r.append (.cons ru .nil)) ?_,rfl,q⟩;rw[aA,List.length_singleton];exact hz
def amc:R2:=λx y H Q=>∃l b xs zs,x=.ref l/\y=.ref b/\H l=some (.lst xs)/\H b=some (.lst zs)/\xs.length+zs.length<=sizeLine/\∀p,H p=none->Q (.ref p) (upd H p (.lst (xs++zs)))
theorem agP:OpR X (binaryOp .Add) amc:=by
 intro aa s σ H x y v u Q I rx ry h;obtain⟨l,b,xs,zs,rfl,rfl,hH,hB,hz,q⟩:=h;cases rx;cases ry;obtain⟨z,its,n,r,hl,e⟩:=I.lstM hH;obtain⟨z2,iO,n2,r2,hl2,e2⟩:=I.lstM hB;refine PySem.P.add_list e e2 ?_ (by rw[aX,aX];lia);have ea:its.toArray++iO.toArray=(its++iO).toArray:=by simp
 rw[ea];exact⟨.ref _,_,I.lnew (t':=s.toks) (r.append r2) (by rw[aA];omega),rfl,q _ I.fresh⟩
def ams:R2:=λx y H Q=>∃l k xs,x=.ref l/\y=.int k/\H l=some (.lst xs)/\-(2^63)<=k/\k<2^63/\xs.length*k.toNat<=sizeLine /\
 ∀p,H p=none->Q (.ref p) (upd H p (.lst (List.replicate k.toNat xs).flatten))
theorem len_rep{α:Type}(xs:List α)(k:Nat):(List.replicate k xs).flatten.length=k*xs.length:=by
 induction k with
 |zero=>simp
 |succ k ih=>rw[List.replicate_succ,List.flatten_cons,aA,ih,Nat.succ_mul,Nat.add_comm]
theorem agx:OpR X (binaryOp .Mult) ams:=by
 intro aa s σ H x y v u Q I rx ry h;obtain⟨l,k,xs,rfl,rfl,hH,h1,h2,hz,q⟩:=h;cases rx;obtain⟨t,rfl⟩:=ry;obtain⟨z,its,n,r,hl,e⟩:=I.lstM hH;have bg:its.toArray.size*k.toNat<=sizeLine:=by rw[aX,<- hl];exact hz
 have mB:¬its.toArray.size*k.toNat>(2^63-1)/8:=by
  have:(sizeLine:Nat)<=(2^63-1)/8:=by decide
  lia
 have lT:¬(!Builtin.List.listFitsIndex k)=true:=by
  rw[fitsIndex_both h1 h2];exact bA
 have i8:¬Builtin.List.listTooLong (its.toArray.size*k.toNat)=true:=by
  rw[ace bg];exact bA
 have k9:List.foldl (λx1 x2=>x1++x2) #[] (List.replicate (if its.toArray.isEmpty=true then 0 else k.toNat) its.toArray)=(List.replicate k.toNat its).flatten.toArray:=by
  have f0:∀m:Nat,List.foldl (λx1 x2=>x1++x2) #[] (List.replicate m its.toArray)=(List.replicate m its).flatten.toArray:=λm=>by
   have:=foldl_rep its m [];rw[List.nil_append]at this;exact this
  rw[f0];cases its with
  |nil=>simp
  |cons a r'=>rw[ZZ (by simp)]
 refine wpAny_binaryOp_repeat_ref (T:="list") (U:="int") (by decide) ⟨_,e,rfl⟩ (λs'=>typeIs_int s' k t) noFill_list_mul F.fills_int_mul F.slot_int_rmul repeat_list F.slot_int_index.lookup
  (call_meets F.slot_int_rmul (typeIs_int s k t) F.entry_int_rmul (F.args_int_rmul_2 _ _) (int___rmul___int_list k t l its.toArray n)
   ⟨e,rfl,⟨_,e,rfl⟩,call_meets F.slot_list_mul ⟨_,e,rfl⟩ F.entry_list_mul (F.args_list_mul_2 _ _) (AutoListH.list___mul___list_int_3 l its.toArray n k t lT mB i8) ⟨e,?_⟩⟩)
 rw[k9];exact⟨.ref _,_,I.lnew (t':=s.toks) (r.rep k.toNat) (by rw[len_rep,Nat.mul_comm];exact hz),rfl,q _ I.fresh⟩
end
end L2
namespace Att
open PySem PySem.W PySem.Calls PyProof.Rows
theorem Hs{P:Params}{h:Heap} : ∀(ns:List Int)(vs:Θ),WellAll P h vs (ns.map WData.int)->IntsAre vs ns:=by
 intro ns
 induction ns with
 |nil =>
  intro vs w;rw[List.map_nil]at w;cases w;exact .nil
 |cons n ns ih =>
  intro vs w;rw[List.map_cons]at w;cases w with
  |cons a b =>
   cases a;exact .cons _ _ (ih _ b)
theorem YC{l:OpenLaw}{n:Nat}(hn:l.most=some n){P:Params}{h:Heap}{args:List WData}{gN:Θ}
 (eR:l.row.toRowW.claim.pre args=true)(kX:WellAll P h gN args) :
  ∃a vs ns,gN=[Value.ref a]/\args=[WData.list (ns.map WData.int)]/\h.get? a=some { cls:=.type "list",data:=.seq vs.toArray }/\IntsAre vs ns/\ns.length<=n:=by
 have gp:WShape.hasAll [] args [.list .int]=true:=(pre_splitW eR).1;have hc:l.pre.holds [] { args:=args }=true:=(pre_splitW eR).2;obtain⟨d,r,rfl,h1,h2⟩:=hasAllW_cons gp;obtain rfl:=hasAllW_nil h2;obtain⟨xs,rfl,h3⟩:=hasW_list h1;obtain⟨ns,rfl⟩:=items_int h3;have bg:ns.length<=n:=by
  unfold OpenLaw.pre at hc;have h4:(WTm.not (.lt (.lit (.int (n:Int))) (.len (.arg 0)))).holds [] { args:=[.list (ns.map .int)] }=true:=by
   have h4:=(holds_andW hc).1;rw[hn]at h4;exact h4
  have h5:=condW_of h4 (w_not (w_lt w_lit (w_len_list (w_arg rfl))));rw[ak]at h5;refine VU λq=>?_;have q':(n:Int)<((ns.length:Nat):Int):=by omega
  first
   |(rw[Zs q']at h5;exact absurd h5 (by decide))
   |(simp at h5;omega)
 cases kX with
 |cons w1 w2 =>
  cases w2;cases w1 with
  |list ho hall=>exact⟨_,_,ns,rfl,rfl,ho,Hs ns _ hall,bg⟩
theorem YJ(l:OpenLaw)(args:List WData):l.row.toRowW.claim.post args (.bool true) args=true :=
 postW_of (r:=l.row.toRowW) (X:=(true==true))
  (show WShape.has [] (.bool true) .bool=true by first|rfl|decide|simp[WShape.has,WShape.arms,WShape.armsAll])
  (show(WTm.eq .res (.lit (.bool true))).value [] { args:=args,res:=some (.bool true),after:=args }=some (.bool (true==true))from w_eq_bool (w_res rfl) w_lit) rfl
theorem Vl{l:OpenLaw}{n:Nat}{q:Program}{loose:Φ}{XP:(Str->Ω)->Heap->Prop}{YP:World->Heap->Prop}{d:DefRec}
 (hn:l.most=some n)(ja:d.params.defaults=[])
 (call:∀(w:World)(s₀ s₁:Shared)(mg mb:Str->Ω)(fa:Addr)(o:Obj)(pm cd bE:Value)(a:Addr)(vs:Θ)(ns:List Int),
   Ground q loose [] XP w s₀ mg mb s₁.heap->YP w s₁.heap ->
   s₁.heap.get? fa=some o->o.data=.func (docDef d.name d.params d.body d.scope pm cd bE)->s₁.heap.CodeRec cd d.name->mg d.name=some (.ref fa) ->
   s₁.heap.get? a=some { cls:=.type "list",data:=.seq vs.toArray }->IntsAre vs ns->ns.length<=n->s₁.gens = #[] ->
   codeAny (model l.prog w) callerA (.call (.ref fa) ⟨[.ref a],[]⟩) (λr s'=>r=.ok (.ret (.bool true))/\OldK s₁.heap s'.heap/\s'.os=s₁.os/\AllBare s'.gens) s₁) :
  WalkO q loose XP YP l.row.toRowW d [] (λf vs=>PySem.call f vs):=by
 intro w s₀ s₁ mg mb G Y fa o pm cd bE dV kV ho hd bi hD fx hg args gN as eR hlay kf kX hlo;obtain rfl:dV=.none:=Dflts.none hD ja;obtain rfl:kV=.none:=Dflts.noKw hD;obtain⟨a,vs,ns,rfl,rfl,g7,fo,bg⟩:=YC hn eR kX;refine enter_call (codeAny_mono (call w s₀ s₁ mg mb fa o pm cd bE a vs ns G Y ho (fd_plain hd) bi fx g7 fo bg hg) λr s' hq=>?_);obtain⟨rfl,h2,h3,h4⟩:=hq;exact⟨.inl ⟨.bool true,.bool true,[],rfl,λ_=>rfl,.bool true,YJ l _,λ_=>⟨List.Pairwise.nil,λ_ hm=>(nomatch hm)⟩⟩,h2,h3,h4⟩
end Att
namespace L2
open PySem PySem.Spec PyProof.Rows
theorem Fg:∀{vs:Θ}{ns:List Int},IntsAre vs ns->Vals (ns.map V.int) vs
 |_,_,.nil=>.nil
 |_,_,.cons n t h=>.cons ⟨t,rfl⟩ (Fg h)
def Only(H:Hp):Prop:=∀b,H b=none\/∃o xs,H b=some (.frz o (.lst xs))
theorem aaq{P:Program}{w:World}{K:Frag}{mg mb:Str->Ω}{CX:CXT}{k:Nat}{fa a:Addr}{fd:FuncData}{x:Str}{sp:Sp}{s₁:Shared}{vs:Θ}{ns:List Int}
 (KX:K.In s₁.heap)(eJ:s₁.heap.Ns mainGlobals mg)(hb:s₁.heap.Ns builtinsNs mb)(hbb:∀x:Str,x≠"__name__"->mb x=bootBuiltins x)(lh:s₁.heap.NoLimit)(hg:s₁.gens = #[])
 (ha:s₁.heap.get? a=some { cls:=.type "list",data:=.seq vs.toArray })(hi:IntsAre vs ns)(hl:ns.length<=sizeLine)(hr:eG k callerA)
 (F:∀base:Heap,K.In base->base.Ns mainGlobals mg->gW P w K mg base CX k fa fd [x] sp)(jp:∀(s:Shared)(u:Value),BindsTo s fd ⟨[u],[]⟩ [(x,u)])
 (gi:∀H:Hp,Only H->SqL K H a (ns.map V.int)->sp [.ref a] H (λv _=>v=.bl true) λ_ _ _=>False)
 (mN:∀H e s',CX [] H s₁ (λ_ _ _=>False) e s'->False) :
  codeAny (model P w) callerA (.call (.ref fa) ⟨[.ref a],[]⟩) (λr s'=>r=.ok (.ret (.bool true))/\OldK s₁.heap s'.heap/\s'.os=s₁.os/\AllBare s'.gens) s₁:=by
 have rv:=Fg hi;have kS:=hi.length

 have core:∀H:Hp,Only H->SqL K H a (ns.map V.int)->HOk P w H s₁.heap->(∀b,H b≠none->b=a)->(H a≠none->K.lookup a=none) ->
   codeAny (model P w) callerA (.call (.ref fa) ⟨[.ref a],[]⟩) (λr s'=>r=.ok (.ret (.bool true))/\OldK s₁.heap s'.heap/\s'.os=s₁.os/\AllBare s'.gens) s₁:=by
  intro H hO hS hok hA hK;have eM:∀{b:Addr}{o:Obj},s₁.heap.get? b=some o->H b=none->(Ot s₁.heap H).get? b=some o:=λe n=>aaY e n;have iE:∀{b:Addr}{o:Obj}{es:Array DictEntry}{ep:Nat},s₁.heap.get? b=some o->o.data=.dict es ep->H b=none:=λ{b o es ep}e d=>by
   cases q:H b with
   |none=>rfl
   |some u =>
    have e':b=a:=hA b (by rw[q];simp);subst e';rw[ha]at e;cases e;have d':Data.seq vs.toArray _=Data.dict es ep:=d;cases d'
  have j':∀{b:Addr}{m:Str->Ω},s₁.heap.Ns b m->(Ot s₁.heap H).Ns b m:=λ{b m}⟨o,es,ep,e,d,r⟩=>⟨o,es,ep,eM e (iE e d),d,r⟩;have hKb:K.In (Ot s₁.heap H):=λb o e=>eM (KX b o e) (by
   cases q:H b with
   |none=>rfl
   |some u =>
    have e':b=a:=hA b (by rw[q];simp);subst e';rw[hK (by rw[q];simp)]at e;cases e)
  have hM:Mod K mg (Ot s₁.heap H):=⟨hKb,j' eJ,⟨mb,j' hb,hbb⟩,let⟨mc,h1,h2⟩:=lh;⟨mc,j' h1,h2⟩⟩;have e0:Uh P w K mg (Ot s₁.heap H) callerA [] s₁ H:=⟨rfl,hM,λb o e=>adl e,WJ (Zw _ _),trivial,λb hb=>absurd (show b∈([] : Ψ)from hb) (by simp),hok,.of_eq hg⟩;refine codeAny_mono ((F _ hKb (j' eJ)).run callerA [] s₁ H ⟨[.ref a],[]⟩ [.ref a] [.ref a] _ _ hr e0 (jp s₁ (.ref a)) (.cons rfl .nil) (gi H hO hS)) λr s' h=>?_;cases r with
  |error e=>exact(mN H e s' h).elim
  |ok fl =>
   cases fl with
   |next=>exact False.elim h
   |brk=>exact False.elim h
   |cont=>exact False.elim h
   |ret u =>
    obtain⟨v,H',os,bare,un,hok',r',q⟩:=h;have q':v=.bl true:=q;subst q';obtain rfl:u=Value.bool true:=r';refine⟨rfl,OldK.of_keep λb o e=>?_,os,bare⟩;cases q:H b with
    |none=>exact un.keep b o e q (by intro z;exact absurd (show b∈([] : Ψ)from z) (by simp)) (by simp)
    |some u =>
     rcases hO b with z|⟨ob,xs,z⟩
     .rw[q]at z;cases z
     .have z2:=un.frzs b ob _ z;obtain⟨e1,_⟩:=hok b _ z;obtain⟨e2,_⟩:=hok' b _ z2;rw[e]at e1;cases e1;exact e2
 cases hk:K.lookup a with
 |some o =>

  have e:=KX a o hk;rw[ha]at e;cases e;refine core (λ_=>none) (λ_=>.inl rfl) (.inr ⟨_,vs.toArray,_,hk,rfl,rfl,rfl,by rw[aX,kS];exact hl,by simpa using rv⟩) (λb u z=>by have z':(none:Option HO)=some u:=z;cases z') (λb z=>absurd rfl z) λz=>absurd rfl z
 |none =>
  refine core (λb=>if b=a then some (.frz { cls:=.type "list",data:=.seq vs.toArray } (.lst (ns.map V.int)))else none) (λb=>?_) (.inl (.inr ⟨{ cls:=.type "list",data:=.seq vs.toArray },ZY rfl⟩)) (λb u z=>?_) (λb z=>?_) λ_=>hk
  .by_cases hb:b=a
   .exact .inr ⟨_,_,ZY hb⟩
   .exact .inl (ZZ hb)
  .by_cases hb:b=a
   .have z':=(ZY hb).symm.trans z;cases z';subst hb;exact⟨ha,by rw[ak];exact hl,vs,_,rv,ha⟩
   .have z':=(ZZ hb).symm.trans z;cases z'
  .by_cases hb:b=a
   .exact hb
   .exact absurd (ZZ hb) z
abbrev KOf{K:Frag}{h:Heap}(_:K.In h):Frag:=K
theorem Yd{l:PySem.W.OpenLaw}{n k:Nat}{q:Program}{loose:Φ}{XP:(Str->Ω)->Heap->Prop}{YP:World->Heap->Prop}{d:DefRec}{K:Params->Frag}{CX:World->CXT}{sp:World->Sp}{x:Str}
 (hn:l.most=some n)(ia:n<=sizeLine)(ja:d.params.defaults=[])(hr:eG k callerA)
 (hY:∀(w:World)(h:Heap),YP w h->(K w.params).In h)
 (F:∀(w:World)(mg:Str->Ω)(fa:Addr)(h:Heap),(K w.params).In h->h.Ns mainGlobals mg->mg d.name=some (.ref fa) ->
   ∃fd:FuncData,(∀(s:Shared)(u:Value),BindsTo s fd ⟨[u],[]⟩ [(x,u)]) /\
    ∀base:Heap,(K w.params).In base->base.Ns mainGlobals mg->gW l.prog w (K w.params) mg base (CX w) k fa fd [x] (sp w))
 (gi:∀(w:World)(H:Hp)(a:Addr)(ns:List Int),ns.length<=n->Only H->SqL (K w.params) H a (ns.map V.int)->sp w [.ref a] H (λv _=>v=.bl true) λ_ _ _=>False)
 (mN:∀(w:World)(H:Hp)(s:Shared)(e:Value)(s':Shared),CX w [] H s (λ_ _ _=>False) e s'->False) :
  PySem.W.WalkO q loose XP YP l.row.toRowW d [] (λf vs=>PySem.call f vs):=by
 refine Att.Vl hn ja λw s₀ s₁ mg mb fa o pm cd bE a vs ns G Y ho hd bi fx g7 fo bg hg=>?_;have KX:=hY w _ Y;obtain⟨fd,hb,hF⟩:=F w mg fa _ KX G.T.g fx;exact aaq KX G.T.g G.T.b G.T.builtins G.T.nolimit hg g7 fo (aL bg ia) hr hF hb (λH hO hS=>gi w H a ns bg hO hS) λH e s'=>mN w H s₁ e s'
end L2

namespace L2
open PySem PySem.Spec PyProof.Rows
abbrev CX0:CXT:=λ_ _ _ _ _ _=>False
abbrev E0:XK:=λ_ _ _=>False
theorem Nz{X:Cx} : Passes CX0 X E0:=λ_ _ _ _ _ _ _ h=>h.elim
structure Fun(K:Frag)(x ai:Str)(st:Stmt)(f:Addr)(fd:FuncData):Prop where
 ex:∃(oc:Value)(od:Ξ)(kV bE pm:Value)(an:Ξ)(af ct:Value)(d6:Array (Ω)),
  fd=PySem.W.fnOf x ai (j4 st) (gk st) (bI st) .none kV bE pm an af ct/\K.lookup f=some ⟨oc,od,.func fd,d6⟩/\codeIn K af ai=true
 kp:keepIn K (.ref f)=true
section
variable{P:Program}{w:World}{K:Frag}{mg:Str->Ω}{base:Heap}
theorem Fun.ok{x ai:Str}{st:Stmt}{f:Addr}{fd:FuncData}{N ps:Φ}{k:Nat}{sp:Sp}(F:Fun K x ai st f fd)(S:bM N ps (bI st))(len:∀vs H Q E,sp vs H Q E->vs.length=ps.length)
 (ck:∀(af:Value)(A:Around)(outer:List Env)(s:Shared)(H:Hp)(vs:Ζ)(Q:VK)(E:XK),eG k (A.deeper (envOfC ai (bI st) s.heap.objs.size f af))->sp vs H Q E ->
   ∃t,PSs (O8 CX0 P w K mg base N ai (bI st) f af A outer s H E).nox (gk st) t/\t { nx:=λ_ H'=>Q .non H',rt:=Q } (start N vs) H):gW P w K mg base CX0 (k+1) f fd ps sp:=by
 obtain⟨oc,od,kV,bE,pm,an,af,ct,d6,rfl,lk,bi⟩:=F.ex;refine ajl lk bi S len λA outer s H vs Q E hr gi=>?_;obtain⟨t,h,q⟩:=ck af A outer s H vs Q E hr gi;exact⟨t,h.nox,q⟩
theorem acs{x ai:Str}{st:Stmt}{f:Addr}{oc:Value}{od an:Ξ}{d6:Array (Ω)}{kV bE pm af ct:Value}(l:K.lookup f=some ⟨oc,od,.func (PySem.W.fnOf x ai (j4 st) (gk st) (bI st) .none kV bE pm an af ct),d6⟩)
 (c:codeIn K af ai=true)(k:keepIn K (.ref f)=true):Fun K x ai st f (PySem.W.fnOf x ai (j4 st) (gk st) (bI st) .none kV bE pm an af ct):=⟨⟨oc,od,kV,bE,pm,an,af,ct,d6,rfl,l,c⟩,k⟩
end
theorem Bj{A:Around}{k:Nat}(hr:eG k A):A.units+1<cLine:=Y3 (Nat.add_le_add_left (by decide:1<=64) _) hr.units
section
variable{X:Cx}
def rZ(sc:Scope)(x:Str):Bool:=(sc.names.lookup x).any λk=>k == .local || k == .cell || k == .free
theorem afp{sc:Scope}{x:Str}(h:rZ sc x=true):Vis sc x:=by
 unfold rZ at h;unfold Vis;cases e:sc.names.lookup x with
 |none=>rw[e]at h;cases h
 |some k=>rw[e]at h;cases k<;>first|exact .inl rfl|exact .inr (.inl rfl)|exact .inr (.inr rfl)|cases h
theorem pv(i:Nat){x:Str}{pos:Pos}(hN:X.N[i]?=some x:=by rfl)(hv:rZ X.env.scope x=true:=by rfl)(hd:qk x:=by decide)
 (bi:qf x:=by decide):PE X (.Name x pos) (ajO i):=agS hN (afp hv) hd bi
end
theorem ana{A B:Prop}(h:B):if false=true then A else B:=by
 rw[ZZ bA];exact h
theorem amg{A B:Prop}(h:A):if true=true then A else B:=by
 rw[ZY rfl];exact h
def Same(H H':Hp):Prop:=∀b o,H b=some o->H' b=some o
theorem Same.refl(H:Hp):Same H H:=λ_ _ h=>h
theorem Same.trans{H H1 H2:Hp}(a:Same H H1)(b:Same H1 H2):Same H H2:=λc o h=>b c o (a c o h)
theorem Same.free{H H':Hp}(e:Same H H'){l:Addr}(h:H' l=Option.none):H l=Option.none:=by
 cases q:H l with
 |none=>rfl
 |some o =>
  rw[e l o q]at h;cases h
theorem Same.seq{K:Frag}{H H':Hp}{a:Addr}{xs:Ζ}(e:Same H H')(h:SqL K H a xs):SqL K H' a xs:=by
 rcases h with(h|⟨o,h⟩)|h
 .exact .inl (.inl (e _ _ h))
 .exact .inl (.inr ⟨o,e _ _ h⟩)
 .exact .inr h
def Bd(i:Int):Prop:=i.natAbs<2^8000
theorem Bd.log2{i:Int}(h:Bd i):i.natAbs.log2<8000:=by
 by_cases h0:i.natAbs=0
 .rw[h0,Nat.log2_zero];exact TU _
 .exact(Nat.log2_lt h0).mpr h
theorem Bd.bits{i:Int}(h:Bd i):Builtin.Int.intBits i<=2^20:=by
 have e:(2:Nat)^20=1048576:=by decide
 have:=h.log2;unfold Builtin.Int.intBits;split
 .exact aZ _
 .lia
section
variable{X:Cx}
theorem ad1:OpR X (binaryOp .Mult) (rI (λi j=>Bd i/\Bd j) λi j=>.int (i*j)):=opI λ_ _ _ _ _ _ _ hc q=>mul_int q (.of_bits hc.1.bits hc.2.bits)
theorem aaN:OpR X (binaryOp .FloorDiv) (rI (λ_ j=>j≠0/\Bd j) λi j=>.int (i.fdiv j)):=opI λ_ _ _ _ _ _ _ hc q=>floordiv_int hc.1 q (.inl (PyProof.noPylong_of_log2 (by have:=hc.2.log2;exact Tu this (by decide))))
theorem U9:jO X (.builtin "isinstance") (λxs H Q=>∃x c cv t b,xs=[x,c]/\((∃T,c=.ty T/\cv=Value.type T)\/∃C,c=.ref C/\cv=Value.ref C)/\EY X.K H x t/\kitOne X.K t cv=some b/\Q (.bl b) H):=by
 intro aa s σ H xs us Q I r h;obtain⟨x,c,cv,t,b,rfl,rc,ty,e,q⟩:=h;obtain⟨u,v,rfl,ru,rv⟩:=r.two;have e2:v=cv:=by
  rcases rc with⟨T,rfl,rfl⟩|⟨T,rfl,rfl⟩
  .exact rv
  .exact rv
 subst e2;exact YB I ru ty e λtk=>⟨.bl b,H,I.tok _,rfl,q⟩
theorem Ve:jO X (.builtin "sorted") (λxs H Q=>∃l ns,xs=[.ref l]/\SqL X.K H l (ns.map V.int)/\ns.length<64/\∀(ms:List Int)p,H p=none->ms.Perm ns->ms.Pairwise (· <= ·)->Q (.ref p) (upd H p (.lst (ms.map V.int)))):=by
 intro aa s σ H xs us Q I r h;obtain⟨l,ns,rfl,hl,h64,q⟩:=h;obtain⟨u,rfl,ru⟩:=r.one;cases ru;obtain⟨its,rv,p,hz⟩:=I.list hl;have hI:=intsAre_of rv;have bg:its.length=ns.length:=by have:=rv.length;simpa using this.symm
 refine sorted_ints (vs:=its) p.isList hI (Y3 (WJ bg) h64) λout ns' a1 a2 a3=>?_;obtain⟨e,he⟩:=sortedAll_at s.heap its out;have kl:H (s.heap.objs.size+1)=none:=I.hok.fresh (Xs _);refine⟨.ref _,_,I.laid (a:=s.heap.objs.size+1) (o:=.lst (ns'.map V.int)) (t':=s.toks) (λb u e=>sortedAll_old e) (Xs _) ?_,rfl,q ns' _ kl a2 a3⟩;refine⟨?_,out.toList,e,Fg a1,he⟩;rw[ak,a2.length_eq];rw[ak]at hz;exact hz
end
section
variable{prog:Program}{w:World}{A:Around}{E:Ε}{s:Shared}
theorem M4{it t:Addr}{items:Array Value}(eK:t≠it):∀(n i:Nat)(s:Shared)(Q:Θ->Shared->Prop),s.heap.IsListIter it t i->PlainL s.heap t items->i+n<=items.size ->
  (∀h',h'.IsListIter it t (i+n)->Heap.SameBut it s.heap h'->Q ((items.toList.drop i).take n) { s with heap:=h' })->wpAny (model prog w) A (draw (.ref it) n) Q E s
 |0,i,s,Q,hit,_,_,hQ=>by
  show wpAny _ _ (pure []) Q E s;exact ZT (by simpa using hQ s.heap hit (Heap.SameBut.refl ..))
 |n+1,i,s,Q,hit,ht,hle,hQ=>by
  have fh:i<items.size:=by lia
  show wpAny _ _ (pyNext (.ref it) >>= _) Q E s;refine ZU (wpAny_pyNext_list_item hit ht.isList (x:=items[i]) (by simp[fh]) λh₁ hG iX=>?_);have k5:PlainL h₁ t items:=by
   obtain⟨o,k,e,r⟩:=ht;exact⟨o,k,(iX.2 t eK).trans e,r⟩
  refine ZU (wpAny_holding (M4 eK n (i+1) _ _ hG k5 (by lia) λh₂ lI hs₂=>ZT ?_));have hd:items.toList.drop i=items[i]::items.toList.drop (i+1):=by simp[JS,fh]
  have:=hQ h₂ (by rw[show i+(n+1)=i+1+n by lia];exact lI) (iX.trans hs₂);rw[hd,List.take_succ_cons]at this;exact this
theorem Fv{t:Addr}{items:Array Value}{Q:Θ->Shared->Prop}(hh:A.handled=none)(ht:PlainL s.heap t items)
 (hQ:∀h',Heap.ExtBut s.heap.objs.size s.heap h'->Q items.toList { s with heap:=h' }):wpAny (model prog w) A (unpackItems (.ref t) items.size none) Q E s:=by
 have fh:t≠s.heap.objs.size:=by obtain⟨o,_,ho,_⟩:=ht;exact aQ (aK ho)
 unfold unpackItems;refine ZU ?_
 .unfold notIterableAtAll;refine ZU (wpAny_specialOf ht.isList.typeIs slot_list_iter.lookup ?_);refine ZT ?_;simp only[XW,if_false];refine ZU (wpAny_holding (wpAny_pyIter_list ht.isList ?_));have ht0:PlainL (s.heap.push { cls:=.type "list_iterator",data:=.fields #[.ref t,.int 0 0] }) t items:=by
   obtain⟨o,k,e,r⟩:=ht;exact⟨o,k,aH _ e,r⟩
  refine ZU (wpAny_holding (M4 fh items.size 0 _ _ ⟨_,aW _ rfl,rfl,rfl⟩ ht0 (by lia) λh₁ hG iX=>?_));have hall:List.take items.size (List.drop 0 items.toList)=items.toList:=by
   rw[List.drop_zero];exact QQ (by simp)
  rw[hall];rw[ZZ (by simp)];have k5:PlainL h₁ t items:=by
   obtain⟨o,k,e,r⟩:=ht0;exact⟨o,k,(iX.2 t fh).trans e,r⟩
  refine ZU (wpAny_holding (wpAny_pyNext_list_end hh hG k5.isList (by simp) λh₂ he₂=>?_));simp only[Option.isSome_none,XW,if_false];refine ZT (hQ h₂ λb o hb e=>he₂ b o hb (iX.extBut b o hb (aH _ e)))
theorem CZ{env:Env}{b5:List Expr}{x1}{pos:Pos}{t:Addr}{items:Array Value}{Q:Unit->Shared->Prop}(hh:A.handled=none)(ht:PlainL s.heap t items)
 (hn:(assignEach b5 env).length=items.size)(i4:(assignEach b5 env).findIdx? (·.1)=none)
 (h:∀h',Heap.ExtBut s.heap.objs.size s.heap h'->wpAny (model prog w) A (assignInOrder ((assignEach b5 env).map (·.2)) items.toList) Q E { s with heap:=h' }) :
  wpAny (model prog w) A (assign (.Tuple b5 x1 pos) env (.ref t)) Q E s:=by
 rw[assign_Tuple];refine ZU (wpAny_standAt ?_);unfold unpack;rw[hn,i4];exact ZU (wpAny_holding (Fv hh ht h))
end
section
variable{X:Cx}{pos:Pos}
def ait(K:Frag)(n:Nat)(t:TGs):TG:=λv σ H Q=>∃a xs,v=.ref a/\SqL K H a xs/\xs.length=n/\t xs σ H Q
theorem aeh{es:List Expr}{k:Nat}{t:TGs}{n:Nat}(hc:X.calm=true)(h:PGs X es t)
 (hn:(assignEach es X.env).length=n:=by rfl)(cc:zk X es:=by rfl):PG X (.Tuple es k pos) (ait X.K n t):=by
 intro aa s σ H v u Q I r hw;obtain⟨a,xs,e1,hq,hl,hw⟩:=hw;subst e1;cases r;obtain⟨its,rv,ht,hz⟩:=I.list hq;refine CZ (I.ok.hd hc) ht (by simp[hn,<- hl,rv.length]) cc λh' hx=>?_;have I1:Inv X aa σ H { s with heap:=h' }:=I.kept (t':=s.toks) λb o e=>hx b o (aQ (aK e)) e;exact h aa _ σ H xs _ Q I1 (by simpa using rv) hw
end
theorem Same.upd{H:Hp}{p:Addr}{o:HO}(hp:H p=none):Same H (upd H p o):=λb u e=>by
 rw[cD (n8 e hp)];exact e
section
variable{X:Cx}
theorem IxR.imp{r r':R2}(h:IxR X r)(i:∀x y H Q,r' x y H Q->r x y H Q):IxR X r':=by
 intro b pos aa s σ H x y v u Q I rx ry q hs;exact h _ _ _ _ _ _ _ _ _ _ _ I rx ry (i _ _ _ _ q) hs
theorem jO.imp{f:Value}{r r':Ζ->Hp->VK->Prop}(h:jO X f r)(i:∀xs H Q,r' xs H Q->r xs H Q):jO X f r':=λaa s σ H xs us Q I rx q=>h aa s σ H xs us Q I rx (i _ _ _ q)
def tyS(H:Hp):V->Option String
 |.non=>some "NoneType"
 |.bl _=>some "bool"
 |.int _=>some "int"
 |.str _=>some "str"
 |.ref a=>match H a with
  |some (.lst _)=>some "list"
  |some (.tup _)=>some "tuple"
  |some (.dK _)=>some "dict"
  |_=>none
 |_=>none
theorem ag6{K:Frag}{H:Hp}{x:V}{t:String}(h:tyS H x=some t):EY K H x (.type t):=by
 cases x with
 |non=>cases h;exact .non
 |bl=>cases h;exact .bl _
 |int=>cases h;exact .int _
 |str=>cases h;exact .str _
 |byt=>cases h
 |flt=>cases h
 |ty=>cases h
 |ref a =>
  have h:(match H a with
   |some (.lst _)=>some "list"
   |some (.tup _)=>some "tuple"
   |some (.dK _)=>some "dict"
   |_=>none)=some t:=h
  split at h
  .cases h;exact .lst (by assumption)
  .cases h;exact .tup (by assumption)
  .cases h;exact .dK (by assumption)
  .cases h
def Rt(t T:String):Bool:=(t==T) || (t=="bool" && T=="int")
theorem Yr{K:Frag}{t T:String}(ht:t∈["NoneType","bool","int","str","list","tuple","dict"])(hT:T∈["bool","int","str","list","tuple","dict"]):kitOne K (.type t) (.type T)=some (Rt t T):=by
 simp only[YU,VQ,or_false]at ht hT;rcases ht with rfl|rfl|rfl|rfl|rfl|rfl|rfl<;>rcases hT with rfl|rfl|rfl|rfl|rfl|rfl<;>with_unfolding_all rfl
theorem afA{H:Hp}{x:V}{t:String}(h:tyS H x=some t):t∈["NoneType","bool","int","str","list","tuple","dict"]:=by
 cases x with
 |non=>cases h;decide
 |bl=>cases h;decide
 |int=>cases h;decide
 |str=>cases h;decide
 |byt=>cases h
 |flt=>cases h
 |ty=>cases h
 |ref a =>
  have h:(match H a with
   |some (.lst _)=>some "list"
   |some (.tup _)=>some "tuple"
   |some (.dK _)=>some "dict"
   |_=>none)=some t:=h
  split at h<;>cases h<;>decide
def am3:Ζ->Hp->VK->Prop:=λxs H Q=>∃x T t,xs=[x,.ty T]/\T∈["bool","int","str","list","tuple","dict"]/\tyS H x=some t/\Q (.bl (Rt t T)) H
theorem xq:jO X (.builtin "isinstance") am3:=U9.imp λxs H Q hP=>by obtain⟨x,T,t,a,b,c,d⟩:=hP;exact⟨x,.ty T,.type T,.type t,_,a,.inl ⟨T,rfl,rfl⟩,ag6 c,Yr (afA c) b,d⟩
theorem PG.imp{e:Expr}{t t':TG}(h:PG X e t)(i:∀v σ H Q,t' v σ H Q->t v σ H Q):PG X e t':=λaa s σ H v u Q I r q=>h aa s σ H v u Q I r (i _ _ _ _ q)
def akK:Ζ->Hp->VK->Prop:=λxs H Q=>∃l ns,xs=[.ref l]/\H l=some (.lst (ns.map V.int))/\ns.length<64/\∀(ms:List Int)p,H p=none->ms.Perm ns->ms.Pairwise (· <= ·)->Q (.ref p) (upd H p (.lst (ms.map V.int)))
theorem Y_:jO X (.builtin "sorted") akK:=Ve.imp λxs H Q hP=>by obtain⟨l,ns,a,b,c⟩:=hP;exact⟨l,ns,a,.of b,c⟩
end
def OkF(P:Program)(w:World)(K:Frag)(mg:Str->Ω)(base:Heap)(k:Nat)(x:Str)(ps:Φ)(sp:Sp):Prop :=
 ∃f fd,gW P w K mg base CX0 k f fd ps sp/\Binds K fd ps []/\mg x=some (.ref f)/\keepIn K (.ref f)=true
def cI(K:Frag)(mg:Str->Ω)(x:Str)(st:Stmt)(ps:Φ):Prop :=
 ∃f fd,Fun K x x st f fd/\(∀us:Θ,us.length=ps.length->bindArgs fd ⟨us,[]⟩=pure (ps.zip us))/\mg x=some (.ref f)
theorem cI.ok{P:Program}{w:World}{K:Frag}{mg:Str->Ω}{base:Heap}{k:Nat}{x:Str}{st:Stmt}{ps:Φ}{sp:Sp}(h:cI K mg x st ps)
 (hf:∀f fd,Fun K x x st f fd->gW P w K mg base CX0 k f fd ps sp):OkF P w K mg base k x ps sp:=by
 obtain⟨f,fd,a,b,c⟩:=h;exact⟨f,fd,hf f fd a,.all b,c,a.kp⟩
theorem acQ{K:Frag}{h:Heap}{mg:Str->Ω}{x:Str}{st:Stmt}{ps:Φ}{f:Addr}{oc:Value}{od an:Ξ}{d6:Array (Ω)}{kV bE pm af ct:Value}(X:K.In h)(G:h.Ns mainGlobals mg)
 (a:nsIn K mainGlobals x=some (some (.ref f)))(l:K.lookup f=some ⟨oc,od,.func (PySem.W.fnOf x x (j4 st) (gk st) (bI st) .none kV bE pm an af ct),d6⟩)
 (c:codeIn K af x=true)(k:keepIn K (.ref f)=true)
 (hb:∀(kV bE pm:Value)(an:Ξ)(af ct:Value)(us:Θ),us.length=ps.length->bindArgs (PySem.W.fnOf x x (j4 st) (gk st) (bI st) .none kV bE pm an af ct) ⟨us,[]⟩=pure (ps.zip us)):cI K mg x st ps :=
 ⟨f,_,acs l c k,hb kV bE pm an af ct,mg_of X G a⟩
def Xw(K:Frag):Sp:=λvs H Q _=>∃(a:Addr)(ns:List Int),vs=[.ref a]/\SqL K H a (ns.map V.int)/\ns.length<=63/\Only H/\∀H',Q (.bl true) H'
theorem ahJ{l:PySem.W.OpenLaw}{k:Nat}{x:Str}{q:Program}{loose:Φ}{XP:(Str->Ω)->Heap->Prop}{YP:World->Heap->Prop}{d:DefRec}{K:Params->Frag}(hn:l.most=some 63)(ja:d.params.defaults=[])
 (hr:eG k callerA)(hY:∀(w:World)(h:Heap),YP w h->(K w.params).In h)
 (F:∀(w:World)(mg:Str->Ω)(fa:Addr)(h:Heap),(K w.params).In h->h.Ns mainGlobals mg->mg d.name=some (.ref fa) ->
   ∃st,cI (K w.params) mg d.name st [x]/\∀(base:Heap)(f:Addr)(fd:FuncData),Fun (K w.params) d.name d.name st f fd->gW l.prog w (K w.params) mg base CX0 k f fd [x] (Xw (K w.params))) :
  PySem.W.WalkO q loose XP YP l.row.toRowW d [] (λf vs=>PySem.call f vs):=by
 refine L2.Yd (n:=63) (k:=k) (x:=x) (CX:=λ_=>CX0) (sp:=λw=>Xw (K w.params)) hn (by decide) ja hr hY (λw mg fa h KX G fx=>?_) (λ_ _ a ns hl hO hS=>⟨a,ns,rfl,hS,hl,hO,λ_=>rfl⟩) λ_ _ _ _ _ z=>z;obtain⟨st,⟨f,fd,hf,hb,hm⟩,ok⟩:=F w mg fa h KX G fx;rw[hm]at fx;have e:f=fa:=by injection fx with z;injection z
 subst e;exact⟨fd,λs u=>.of_eq (hb [u] rfl),λbase _ _=>ok base f fd hf⟩
section
variable{X:Cx}{p pos:Pos}{e:Expr}{es:List Expr}{t:TA}{x:Str}{k:Nat}{ps:Φ}{sp:Sp}
def Vn(sp:Sp)(t:TA):TE:=λσ H Q=>t σ H λvs H1=>sp vs H1 Q E0
theorem JF(G:OkF X.prog X.w X.K X.mg X.base k x ps sp)(hr:eG k X.A)(hg:Gl X x)(ha:PA X (e::es) t)(ci:qk x:=by decide)
 (he:qo X e es:=by rfl)(bt:qh X pos es:=by rfl):PE X (.Call (.Name x p) (e::es) [] pos) (Vn sp t):=by
 obtain⟨f,fd,F,b,hm,kp⟩:=G;intro aa s σ H Q I h;refine aen F hr hg hm kp b .nil Nz ha ci he bt aa s σ H Q I ?_;show t σ H λvs H1=>sp (vs++[]) H1 Q E0;simp only[List.append_nil];exact h
end
theorem afv(a:Int):(if a<0 then -a else a)=((a.natAbs:Nat):Int):=by split<;>omega
theorem uO(a:Int){b:Int}(h:0<b):Int.fdiv a b=a/b:=Int.fdiv_eq_ediv_of_nonneg a (XY h)
def TrD(h base:Heap)(e:Addr)(cls:Value)(d:Ξ)(fl:Value):Prop :=
 ∃oe vs T oT ts,h.get? e=some oe/\(oe.cls=cls/\oe.dict=d)/\oe.data=.fields vs/\vs[1]?=some (.ref T)/\base.get? T=none/\T≠e/\h.get? T=some oT/\oT.data=.fields ts/\ts[3]?=some fl
def amD(base:Heap)(l:List Env)(e:Addr)(cls:Value)(d:Ξ)(fl:Value)(h:Heap):Prop :=
 base.StaysIn h/\base.get? e=none/\h.FunFrames base l/\TrD h base e cls d fl
structure Fly(P:Program)(w:World)(l:List Env)(H:Hp)(s:Shared)(a:Addr)(C:Value)(H':Hp)(s':Shared)(B:Heap)(d:Ξ):Prop where
 os:s'.os=s.os
 bare:AllBare s'.gens
 new:s.heap.get? a=none
 un:Un (frs l) [] H H' s.heap s'.heap
 hok:HOk P w H' s'.heap
 frf:∀b∈frs l,H' b=none
 fl:amD B l a C d .none s'.heap
 cov:∀b o,s'.heap.get? b=some o->b∉frs l->((∃u,s.heap.get? b=some u)\/∃u,H' b=some u)->B.get? b=some o
abbrev bmV:Θ:=[.type "ValueError",.type "Exception",.type "BaseException",.type "object"]
def anR(K:Frag)(C:Addr):Prop:=excIn K C bmV "ValueError.__new__"=true
def XO(a C:Addr)(d:Ξ):HO:=.ext λh=>∃o,h.get? a=some o/\o.cls=.ref C/\o.dict=d/\∃vs,o.data=.fields vs
def v9(cells:List (Str×Addr)):List (Str×NameKind)->List (Str×Addr)->List (Str×Addr)
 |[],acc=>acc
 |(n,k)::r,acc=>v9 cells r (if k == .free then(n,(cells.lookup n).getD 0)::acc else acc)
theorem Wq{scope:Scope}{env:Env}(h:∀y∈scope.names,y.2=.free->∃c,env.cells.lookup y.1=some c):closureFor scope env=pure (v9 env.cells scope.names []):=by
 unfold closureFor;have go:∀(l:List (Str×NameKind))(acc:List (Str×Addr)),(∀y∈l,y.2=.free->∃c,env.cells.lookup y.1=some c) ->
   (forIn l acc (λ(x:Str×NameKind)(r:List (Str×Addr))=>if(x.2==NameKind.free)=true then(do let a <- cellOf env x.1;pure (ForInStep.yield ((x.1,a)::r)))else pure (ForInStep.yield r)):Sem (List (Str×Addr)))=pure (v9 env.cells l acc):=by
  intro l
  induction l with
  |nil=>intro acc _;rfl
  |cons y r ih =>
   intro acc hy;obtain⟨n,k⟩:=y;rw[List.forIn_cons];by_cases hk:k=.free
   .subst hk;obtain⟨c,hc⟩:=hy (n,.free) aO rfl;have e1:cellOf env n=pure c:=by unfold cellOf;rw[show env.cells.lookup n=some c from hc]
    simp only[beq_self_eq_true,if_true,e1,pure_bind];rw[ih _ λz hz=>hy z (aJ _ hz)];show pure _=pure (v9 env.cells r (if(NameKind.free==NameKind.free)=true then(n,(env.cells.lookup n).getD 0)::acc else acc));rw[show env.cells.lookup n=some c from hc]
    rfl
   .have hb:(k==NameKind.free)=false:=by simpa using hk
    simp only[hb,XW,if_false,pure_bind];rw[ih _ λz hz=>hy z (aJ _ hz)];show pure _=pure (v9 env.cells r (if(k==NameKind.free)=true then(n,(env.cells.lookup n).getD 0)::acc else acc));rw[hb]
    rfl
 have e:=go scope.names [] h;show(forIn scope.names [] (λ(x:Str×NameKind)(r:List (Str×Addr))=>if(x.2==NameKind.free)=true then(do let a <- cellOf env x.1;pure (ForInStep.yield ((x.1,a)::r)))else pure (ForInStep.yield r)):Sem (List (Str×Addr))) >>= (λcs=>pure cs)=_;rw[e]
 rfl
theorem T4{cells:List (Str×Addr)} : ∀{names:List (Str×NameKind)}{acc:List (Str×Addr)}{x:Str}{c:Addr},(∀y∈names,y.2=.free->∃c,cells.lookup y.1=some c)->(x,c)∈v9 cells names acc->(x,c)∈acc\/cells.lookup x=some c
 |[],_,_,_,_,h=>.inl h
 |(n,k)::r,acc,x,c,hf,h=>by
  unfold v9 at h;rcases T4 (λy hy=>hf y (aJ _ hy)) h with z|z
  .by_cases hk:k=.free
   .subst hk;simp only[beq_self_eq_true,if_true]at z;rcases YU.mp z with e|e
    .obtain⟨c',dq⟩:=hf (n,.free) aO rfl;cases e;rw[show cells.lookup n=some c' from dq];exact .inr rfl
    .exact .inl e
   .have hb:(k==NameKind.free)=false:=by simpa using hk
    simp only[hb,XW,if_false]at z;exact .inl z
  .exact .inr z
theorem S5{cells:List (Str×Addr)} : ∀{names:List (Str×NameKind)}{acc:List (Str×Addr)}{x:Str},((x,NameKind.free)∈names\/∃c,(x,c)∈acc)->∃c,(x,c)∈v9 cells names acc
 |[],_,_,h=>by
  rcases h with h|h
  .cases h
  .exact h
 |(n,k)::r,acc,x,h=>by
  unfold v9;refine S5 ?_;rcases h with h|⟨c,h⟩
  .rcases YU.mp h with e|e
   .cases e;exact .inr ⟨_,by simp only[beq_self_eq_true,if_true];exact aO⟩
   .exact .inl e
  .refine .inr ⟨c,?_⟩;split
   .exact aJ _ h
   .exact h
theorem qu{α:Type}{x:Str}{c:α} : ∀{l:List (Str×α)},(x,c)∈l->∃c',l.lookup x=some c'
 |(y,d)::r,h=>by
  rw[List.lookup_cons];cases hb:x==y with
  |true=>exact⟨d,rfl⟩
  |false =>
   rcases YU.mp h with e|e
   .cases e;simp at hb
   .exact qu e
def Cx.comp(X:Cx)(N':Φ)(scope:Scope)(x:Str)(C:Addr)(s₀:Shared)(H₀:Hp)(ex:Ψ)(pn:Δ):Cx :=
 { X with env:=compEnvC scope (v9 X.env.cells scope.names []) C X.env,N:=x::N',s₀:=s₀,H₀:=H₀,outer:=X.stack,ex:=ex,fn:=λ_=>false,pn:=pn,xe:=λ_ _=>False }
section
variable{X:Cx}{be iter:Expr}{x:Str}{px pos:Pos}{scope:Scope}{wi:TI}{te:TE}
theorem Inv.nostk'{aa:Δ}{σ:L2.St}{H:Hp}{s:Shared}(I:Inv X aa σ H s){b:Addr}(h1:b≠X.env.locals)(h2:b∉X.fs):b∉frs X.stack:=λz=>by
 rcases YU.mp (I.stkSub b z)with e|e
 .exact h1 e
 .exact h2 e
theorem Ef{env:Env} : ∀{names:List (Str×NameKind)}{y:Str},(names.map λ(n,k)=>if(k==NameKind.free&&env.scope.kind == .function&&env.kindOf n==some .cell)then(n,NameKind.cell)else(n,k)).lookup y=some .cell \/
  (names.map λ(n,k)=>if(k==NameKind.free&&env.scope.kind == .function&&env.kindOf n==some .cell)then(n,NameKind.cell)else(n,k)).lookup y=some .free->(∀z∈names,z.2≠.cell)->(y,NameKind.free)∈names
 |[],y,h,_=>by rcases h with h|h<;>cases h
 |(n,k)::r,y,h,hc=>by
  have ih:=@Ef env r y;simp only[List.map_cons]at h;by_cases hcond:(k==NameKind.free&&env.scope.kind == .function&&env.kindOf n==some .cell)=true
  .rw[ZY hcond]at h;simp only[List.lookup_cons]at h;cases hb:y==n with
   |true =>
    have hk:k=.free:=by
     simp only[JP,beq_iff_eq]at hcond;exact hcond.1.1
    have:y=n:=by simpa using hb
    subst this hk;exact aO
   |false =>
    rw[hb]at h;exact aJ _ (ih h λz hz=>hc z (aJ _ hz))
  .rw[ZZ hcond]at h;simp only[List.lookup_cons]at h;cases hb:y==n with
   |true =>
    rw[hb]at h;have:y=n:=by simpa using hb
    subst this;rcases h with h|h
    .exact absurd (Option.some.inj h) (hc (y,k) aO)
    .have:k=.free:=Option.some.inj h;subst this;exact aO
   |false =>
    rw[hb]at h;exact aJ _ (ih h λz hz=>hc z (aJ _ hz))
end
section
variable{X:Cx}
def eqF:Ζ->Ζ->Bool
 |[],[]=>true
 |x::xs,y::ys=>eqV x y&&eqF xs ys
 |_,_=>false
def eqH(H:Hp)(x y:V):Option Bool :=
 match x,y with
 |.ref a,.ref b=>match H a,H b with
  |some (.tup xs),some (.tup ys)=>if xs.all Nk&&ys.all Nk then some (eqF xs ys)else none
  |some (.lst xs),some (.lst ys)=>if xs.all Nk&&ys.all Nk then some (eqF xs ys)else none
  |some (.lst _),some (.tup _)=>some false
  |some (.tup _),some (.lst _)=>some false
  |_,_=>none
 |.ref a,y=>if Nk y then(match H a with
  |some (.tup _)=>some false
  |some (.lst _)=>some false
  |_=>none)else none
 |x,.ref b=>if Nk x then(match H b with
  |some (.tup _)=>some false
  |some (.lst _)=>some false
  |_=>none)else none
 |x,y=>if abB x y then some (decide (x=y))else none
theorem Inv.tupIs{aa:Δ}{σ:L2.St}{H:Hp}{s:Shared}{a:Addr}{xs:Ζ}(I:Inv X aa σ H s)(h:H a=some (.tup xs)):∃its,Vals xs its/\IsTup s.heap a its.toArray/\s.heap.IsTuple a its.toArray:=by
 obtain⟨its,rv,ht,_⟩:=I.tuple (SqT.of h);exact⟨its,rv,ht,ht⟩
theorem Inv.lstIs{aa:Δ}{σ:L2.St}{H:Hp}{s:Shared}{a:Addr}{xs:Ζ}(I:Inv X aa σ H s)(h:H a=some (.lst xs)):∃its,Vals xs its/\s.heap.IsList a its.toArray:=by
 obtain⟨its,rv,ht,_⟩:=I.list (SqL.of h);exact⟨its,rv,ht.isList⟩
end
open PySem.SeqAt in
mutual
inductive Shows(H:Hp):V->PyData->Prop
 |non:Shows H .non .none
 |bl (b:Bool):Shows H (.bl b) (.bool b)
 |int (i:Int):Shows H (.int i) (.int i)
 |str (x:Str):Shows H (.str x) (.str x)
 |lst {a:Addr}{xs:Ζ}{ds:List PyData} : H a=some (.lst xs)->fQ H xs ds->Shows H (.ref a) (.list ds)
 |tup {a:Addr}{xs:Ζ}{ds:List PyData} : H a=some (.tup xs)->fQ H xs ds->Shows H (.ref a) (.tuple ds)
inductive fQ(H:Hp):Ζ->List PyData->Prop
 |nil:fQ H [] []
 |cons {x:V}{xs:Ζ}{d:PyData}{ds:List PyData} : Shows H x d->fQ H xs ds->fQ H (x::xs) (d::ds)
end
mutual
theorem Shows.same{H H':Hp}(S:Same H H'):∀{x:V}{d:PyData},Shows H x d->Shows H' x d
 |_,_,.non=>.non
 |_,_,.bl b=>.bl b
 |_,_,.int i=>.int i
 |_,_,.str x=>.str x
 |_,_,.lst e h=>.lst (S _ _ e) (fQ.same S h)
 |_,_,.tup e h=>.tup (S _ _ e) (fQ.same S h)
theorem fQ.same{H H':Hp}(S:Same H H'):∀{xs:Ζ}{ds:List PyData},fQ H xs ds->fQ H' xs ds
 |_,_,.nil=>.nil
 |_,_,.cons h t=>.cons (Shows.same S h) (fQ.same S t)
end
theorem fQ.ints(H:Hp):∀ns:List Int,fQ H (ns.map V.int) (ns.map PyData.int)
 |[]=>.nil
 |n::ns=>.cons (.int n) (fQ.ints H ns)
section
variable{X:Cx}{aa:Δ}{σ:L2.St}{H:Hp}{s:Shared}
mutual
theorem Inv.reads(I:Inv X aa σ H s):∀{x:V}{d:PyData}{v:Value},Shows H x d->RelV x v->∃as,Reads s.heap v d as
 |_,_,_,.non,r=>by cases r;exact⟨_,.none⟩
 |_,_,_,.bl b,r=>by cases r;exact⟨_,.bool b⟩
 |_,_,_,.int i,r=>by obtain⟨t,rfl⟩:=r;exact⟨_,.int i t⟩
 |_,_,_,.str x,r=>by obtain⟨t,rfl⟩:=r;exact⟨_,.str x t⟩
 |_,_,_,.lst e h,r=>by
  cases r;obtain⟨its,rv,⟨o,ho,hc,n,hd⟩⟩:=I.lstIs e;obtain⟨as,q⟩:=Inv.readsAll I h rv;exact⟨_,.list ho hc hd q⟩
 |_,_,_,.tup e h,r=>by
  cases r;obtain⟨its,rv,_,⟨o,ho,hc,n,hd⟩⟩:=I.tupIs e;obtain⟨as,q⟩:=Inv.readsAll I h rv;exact⟨_,.tuple ho hc hd q⟩
theorem Inv.readsAll(I:Inv X aa σ H s):∀{xs:Ζ}{ds:List PyData}{vs:Θ},fQ H xs ds->Vals xs vs->∃as,ReadsAll s.heap vs ds as
 |_,_,_,.nil,r=>by cases r;exact⟨_,.nil⟩
 |_,_,_,.cons h t,r=>by
  cases r with
  |cons r1 r2 =>
   obtain⟨a,q1⟩:=Inv.reads I h r1;obtain⟨b,q2⟩:=Inv.readsAll I t r2;exact⟨_,.cons q1 q2⟩
end
def al3:Ζ->Hp->VK->Prop:=λxs H Q=>∃(l:Addr)(ns:List Int),xs=[.ref l]/\H l=some (.lst (ns.map V.int))/\Q (.int ns.sum) H
theorem Zr(hc:X.calm=true):jO X (.builtin "sum") al3:=by
 intro aa s σ H xs us Q I r h;obtain⟨l,ns,rfl,hl,q⟩:=h;obtain⟨u,rfl,ru⟩:=r.one;cases ru;obtain⟨its,rv,p⟩:=I.lstIs hl;have hI:=intsAre_of rv;obtain⟨xs,e⟩:=hI.allInts.items;have hn:=hI.numsOf;rw[show its=its.toArray.toList from rfl,e,nums_intItems]at hn;rw[e]at p;refine sum_intListG (I.ok.hd hc) p λh' tk t' k=>⟨.int ns.sum,H,I.kept k,?_,q⟩;rw[preSum_eq,QQ (by simp),hn];exact⟨_,rfl⟩
end
section
variable{X:Cx}
def tM(t:TE):TE:=λσ H Q=>∃R:VK,t σ H R/\∀x H',R x H'->Q x H'
def tMA(t:TA):TA:=λσ H Q=>∃R:Ζ->Hp->Prop,t σ H R/\∀x H',R x H'->Q x H'
theorem PE.mono{a:Expr}{t:TE}(h:PE X a t):PE X a (tM t):=λaa s σ H Q I ⟨R,h1,h2⟩ =>
 thn (h aa s σ H R I h1) λv s' hP=>by obtain⟨x,H',I',r,q⟩:=hP;exact⟨x,H',I',r,h2 x H' q⟩
theorem PA.mono{es:List Expr}{t:TA}(h:PA X es t):PA X es (tMA t):=λpos aa s σ H Q I ⟨R,h1,h2⟩ =>
 thn (h pos aa s σ H R I h1) λv s' hP=>by obtain⟨x,H',I',r,q⟩:=hP;exact⟨x,H',I',r,h2 x H' q⟩
theorem PE.imp{a:Expr}{t t':TE}(h:PE X a t)(i:∀σ H Q,t' σ H Q->t σ H Q):PE X a t':=λaa s σ H Q I q=>h aa s σ H Q I (i σ H Q q)
def amu(to:TE)(t:TA):TE:=λσ H Q=>to σ H λx H1=>∃l xs,x=.ref l/\H1 l=some (.lst xs)/\t σ H1 λvs H2=>∃y ys,vs=[y]/\H2 l=some (.lst ys)/\ys.length<sizeLine/\Q .non (upd H2 l (.lst (ys++[y])))
abbrev qr(X:Cx)(a:Pos)(e:Expr):Prop:=((backTo a (starEach [e] X.env)).all (λx=>!x.1)&&(backToKw a (keywordEach [] X.env)).all (λx=>x.1.isSome)&&decide ([e].length+([] : List Keyword).length+(if([] : List Keyword).isEmpty then 0 else 1)<30))=true
theorem acp{o e:Expr}{to:TE}{t:TA}{ah ae:Pos}(ho:PE X o to)(ha:PA X [e] t)(hb:attributeBase o "append" X.env (eval o X.env)=eval o X.env:=by rfl)
 (hf:qr X ae e:=by rfl)
 (hl:zz ah ae:=by rfl)(hs:qo X e []:=by rfl)(hp:qh X ae []:=by rfl) :
  PE X (.Call (.Attribute o "append" ah) [e] [] ae) (amu to t):=by
 refine(Yb PySem.F.plainAttrs_list PySem.F.slot_list_append PySem.F.type_list_append Nj ho.mono ha.mono hb hf hl hs hp).imp λσ H Q h=>?_;refine⟨_,h,?_⟩;rintro x H1 ⟨l,xs,rfl,hx,h2⟩;refine⟨.inl ⟨rfl,_,SqL.of hx⟩,_,h2,?_⟩;rintro vs H2 ⟨y,ys,rfl,hy,hz,q⟩;exact⟨l,ys,y,rfl,rfl,hy,hz,q⟩
def afU:Ζ->Hp->VK->Prop:=λxs H Q=>∃p ys,xs=[.ref p]/\H p=some (.lst ys)/\∀l,H l=none->Q (.ref l) (upd H l (.lst ys))
theorem V8:jO X (.type "list") afU:=QZ.imp λxs H Q hP=>by obtain⟨p,ys,a,b,c⟩:=hP;exact⟨p,ys,a,.inl (.of b),c⟩
end
mutual
theorem Vy:∀ns:List Int,PyData.canLayAll0 (ns.map PyData.int)=true
 |[]=>rfl
 |n::ns=>by
  rw[List.map_cons];unfold PyData.canLayAll0;rw[Vy ns];rfl
end
inductive FL(H:Hp):Ζ->Γ->Prop
 |nil:FL H [] []
 |cons {p:Addr}{f:Β}{xs:Ζ}{fs:Γ} : H p=some (.tup [.int f.1,.int f.2])->FL H xs fs->FL H (.ref p::xs) (f::fs)
def Its(x:Str):It:=⟨λi _=>i<x.cps.size,λi H v H'=>H'=H/\∃c,x.cps[i]?=some c/\v=.str ⟨#[c]⟩,λi _=>i=x.cps.size⟩
theorem T_{P:Program}{w:World}{K:Frag}{tg:Expr}(it:Addr)(x:Str)(t:Tok)(ty:String)(iS : ["enumerate","zip","dict_itemiterator","dict_reverseitemiterator","odict_iterator","itertools.zip_longest","itertools.pairwise"].contains ty=false)
 (W:∀A:Around,A.handled=none->Walks P w A it [it] [it] x.cps.size (SignAt x) (λi h=>h.IsStrIter it ty x t i))
 (i5:∀(A:Around)(i:Nat)(s:Shared)(Q:Ε)(E:Ε),s.heap.IsStrIter it ty x t i->Q (.ref it) s->wpAny (model P w) A (pyIter (.ref it)) Q E s):Turn P w K tg (Its x) [it] it (λi h=>h.IsStrIter it ty x t i) where
 mem:=by simp
 obj:=λi h st b hb=>by
  have e:b=it:=by simpa using hb
  subst e;obtain⟨o,ho,_,hd⟩:=st;exact⟨o,ho,λv z=>by rw[hd]at z;cases z⟩
 keep:=λi h h' st k=>let⟨o,ho,r⟩:=st;⟨o,k it (by simp) o ho,r⟩
 item:=by
  intro X hP hw hK hc i aa s σ H E I hf st hg;subst hP hw hK;obtain⟨f0,f1,f2,f3,f4,f5⟩:=hf it (by simp);refine(W X.A (I.ok.hd hc)).item i s _ _ hg st λv h' tk hv bu kk=>?_;obtain⟨c,u,hx,rfl⟩:=hv;have I1:Inv X aa σ H { s with heap:=h',toks:=tk }:=I.turned (λb o hb e=>kk b o (by simpa using hb) e) f0 f1 f3 f4 f5;obtain⟨o,ho,hJ,hd⟩:=id bu;exact⟨_,rfl,Yt (s:={ s with heap:=h',toks:=tk }) ho hJ hd iS ⟨.str ⟨#[c]⟩,H,I1,⟨u,rfl⟩,⟨rfl,c,hx,rfl⟩,bu,λb hb=>(hf b hb).1⟩⟩
 done:=by
  intro X hP hw hK hc i aa s σ H E I hf st hg;subst hP hw hK;obtain⟨f0,f1,f2,f3,f4,f5⟩:=hf it (by simp);have lS:i=x.cps.size:=hg;subst lS;exact(W X.A (I.ok.hd hc)).done s _ _ st λh' tk kk=>⟨rfl,I.turned (λb o hb e=>kk b o (by simpa using hb) e) f0 f1 f3 f4 f5⟩
 self:=i5
section
variable{X:Cx}{tg:Expr}
def amB(te:TE):TI:=λσ H R=>te σ H λv H1=>∃x,v=.str x/\R (Its x) H1
theorem agU{l:Expr}{tl:TE}(hl:PE X l tl):PI X tg l (amB tl):=by
 intro aa s σ H R I h;refine thn (hl aa s σ H _ I h) λv s1 hP=>?_;obtain⟨x,H1,I1,r1,y,ey,q⟩:=hP;subst ey;obtain⟨t,rfl⟩:=r1;have fp:∀b∈[s1.heap.objs.size],G4 X aa H1 b:=λb hb=>by
  have e:b=s1.heap.objs.size:=by simpa using hb
  subst e;exact I1.fpOk (aG _) (I1.hok.fresh (aG _))
 have k:∀o:Obj,Inv X aa σ H1 { s1 with heap:=s1.heap.push o }:=λo=>I1.kept (t':=s1.toks) λb ob z=>aH _ z;cases ha:y.cps.all (· < 128)
 .exact wpAny_pyIter_wide ha ⟨s1.heap.objs.size,[s1.heap.objs.size],_,Its y,H1,rfl,k _,T_ _ y t "str_iterator" (by decide) (λA hA=>Walks.strWide hA _ y t) (λA i s Q E st h=>wpAny_pyIter_striter_wide st h),⟨_,aW _ rfl,rfl,rfl⟩,fp,q⟩
 .exact wpAny_pyIter_ascii ha ⟨s1.heap.objs.size,[s1.heap.objs.size],_,Its y,H1,rfl,k _,T_ _ y t "str_ascii_iterator" (by decide) (λA hA=>Walks.strAscii hA _ y t) (λA i s Q E st h=>wpAny_pyIter_striter_ascii st h),⟨_,aW _ rfl,rfl,rfl⟩,fp,q⟩
end
def Hr(x:Str)(lo hi:Option Int):Str:=⟨((x.cps.toList.drop (HT.sIx x.length 0 lo)).take (HT.sIx x.length x.length hi-HT.sIx x.length 0 lo)).toArray⟩
theorem strIdx(lo hi:Option Int)(n:Nat):Builtin.Str.strSliceIndices lo hi 1 n=(List.range (HT.sIx n n hi-HT.sIx n 0 lo)).map (HT.sIx n 0 lo + ·):=by
 rw[<- sliceRange_one];unfold Builtin.Str.strSliceIndices;have h1:∀(o:Option Int)(d:Nat),d<=n->(match o with
   |none=>(d:Int)
   |some i=>(let i:=if i<0 then i+(n:Int)else i;if(1:Int)>0 then max 0 (min i n)else max (-1) (min i (n-1))))=((HT.sIx n d o:Nat):Int):=by
  intro o d hd;cases o with
  |none=>rfl
  |some i =>
   simp only[HT.sIx,show(1:Int)>0 by decide,if_true];by_cases h:i<0
   .simp only[h,if_true]<;>lia
   .simp only[h,if_false]<;>lia
 have e1:=h1 lo 0 (aZ _);have e2:=h1 hi n (aG _);simp only[show(1:Int)>0 by decide,if_true]at e1 e2 ⊢;rw[<- e1,<- e2]
 rfl
theorem aex(x:Str)(lo hi:Option Int):(⟨((Builtin.Str.strSliceIndices lo hi 1 x.length).filterMap (x.cps[·]?)).toArray⟩ : Str)=Hr x lo hi:=by
 rw[strIdx,pick_run];rfl
theorem Xb(x:Str)(lo hi:Option Int)(h:(Builtin.Str.strSliceIndices lo hi 1 x.length).length=x.length):Hr x lo hi=x:=by
 rw[strIdx,ak,WP]at h;have h2:=HT.afQ x.length x.length (aG _) hi;unfold Hr;have hx:x.length=x.cps.size:=rfl;have e:x.cps.toList.length=x.length:=by simp[hx]
 by_cases z:x.length=0
 .have:x.cps.toList=[]:=List.length_eq_zero_iff.mp (Eq.trans e z);rw[this];obtain⟨⟨l⟩⟩:=x;simp at this;subst this;simp
 .have e0:HT.sIx x.length 0 lo=0:=by lia
  rw[e0,List.drop_zero,QQ (by lia)]
def anJ:V->Option Int->Option Int->Hp->VK->Prop:=λx lo hi H Q=>∃y,x=.str y/\y.length<=sizeLine/\Q (.str (Hr y lo hi)) H
theorem part_of{v:Value}{o:Option Int}(h:IsPart v o):∃l:Option (Int×Tok),v=partValue l/\l.map (·.1)=o:=by
 cases h with
 |none=>exact⟨none,rfl,rfl⟩
 |int i t=>exact⟨some (i,t),rfl,rfl⟩
theorem agA{X:Cx} : SlR X anJ:=by
 intro aa s σ H x v vl vu lo hi sl Q I rx hs pl pu h;obtain⟨y,rfl,hz,q⟩:=h;obtain⟨t,rfl⟩:=rx;obtain⟨l,rfl,el⟩:=part_of pl;obtain⟨u,rfl,eu⟩:=part_of pu;refine⟨"str",_,F.slot_str_getitem.lookup,typeIs_str s y t,wpAny_getItem_str_slice (l:=l) (u:=u) (st:=none) hs rfl ?_⟩;unfold sliceMade slicePicked;rw[el,eu];split
 .rename_i hw
  have dm:=(Bool.and_eq_true_iff.mp hw).2;rw[beq_iff_eq]at dm;have e:=Xb y lo hi dm;rw[e]at q;exact⟨.str y,H,I,⟨t,rfl⟩,q⟩
 .have e:=aex y lo hi;refine⟨?_,.str (Hr y lo hi),H,I.tok _,⟨s.toks,?_⟩,q⟩
  .refine aL ?_ hz;refine aL (WJ (ZH Str.length e)) ?_;show((y.cps.toList.drop _).take _).toArray.size<=y.cps.size;rw[aX,aY,U2,Array.length_toList];lia
  .rw[<- e];rfl
section
variable{X:Cx}
def alB:R2:=λx y H Q=>∃i j,x=.str i/\y=.str j/\i.length+j.length<=sizeLine/\Q (.str (i++j)) H
theorem adH:OpR X (binaryOp .Add) alB:=Wc
def amG:R2:=λx y H Q=>∃i j,x=.str i/\y=.str j/\Q (.bl (!decide (j.cps.toList<i.cps.toList))) H
theorem afL:OpR X (compareOp .LtE) amG:=by
 intro aa s σ H x y v u Q I rx ry h;obtain⟨i,j,rfl,rfl,q⟩:=h;obtain⟨t,rfl⟩:=rx;obtain⟨t',rfl⟩:=ry;exact PySem.P.le_str (dB I q rfl)
theorem OpR.imp{f:Value->Value->Sem Value}{r r':R2}(h:OpR X f r)(i:∀x y H Q,r' x y H Q->r x y H Q):OpR X f r':=λaa s σ H x y v u Q I rx ry q=>h aa s σ H x y v u Q I rx ry (i _ _ _ _ q)
theorem FQ:∀{bs:List Bool}{us:Θ},Vals (bs.map V.bl) us->∀(i:Nat)(v:Value),us[i]?=some v->∃b,bs[i]?=some b/\v=.bool b
 |[],_,.nil,i,v,h=>by cases i<;>cases h
 |b::bs,_,.cons r t,0,v,h=>by
  rw[List.getElem?_cons_zero]at h;cases h;exact⟨b,rfl,r⟩
 |b::bs,_,.cons r t,i+1,v,h=>by
  rw[List.getElem?_cons_succ]at h;exact FQ t i v h
def ai1:Ζ->Hp->VK->Prop:=λxs H Q=>∃(l:Addr)(bs:List Bool),xs=[.ref l]/\H l=some (.lst (bs.map V.bl))/\Q (.bl (bs.all id)) H
theorem wL:∀bs:List Bool,((List.range bs.length).all λi=>(bs[i]?).getD true)=bs.all id
 |[]=>rfl
 |b::bs=>by
  rw[List.length_cons,List.range_succ_eq_map,List.all_cons,List.all_map,List.all_cons];have:=wL bs;simp only[Function.comp_def,List.getElem?_cons_succ,List.getElem?_cons_zero,Option.getD_some,id]at this ⊢;rw[this]
theorem Ze(hc:X.calm=true):jO X (.builtin "all") ai1:=by
 intro aa s σ H xs us Q I r h;obtain⟨l,bs,rfl,hl,q⟩:=h;obtain⟨u,rfl,ru⟩:=r.one;cases ru;obtain⟨its,rv,p⟩:=I.lstIs hl;have fh:l<s.heap.objs.size:=by obtain⟨_,e,_⟩:=p;exact aK e
 refine call_all_walk (wpAny_pyIter_list p ?_);refine⟨s.heap.objs.size,[s.heap.objs.size,l],[s.heap.objs.size],its.toArray.size,_,_,λi=>(bs[i]?).getD true,rfl,Walks.list (A:=X.A.in1) (I.ok.hd hc) _ l (aQ fh) its.toArray,
  ⟨⟨_,aW _ rfl,rfl,rfl⟩,p.push _⟩,λi v s' Q' E' hP hQ=>?_,λh' tk hk=>?_⟩
 .obtain⟨b,e,rfl⟩:=FQ rv i v (by simpa using hP);simp only[e,Option.getD_some]at hQ;exact wpAny_truthy_bool hQ
 .have e:((List.range its.toArray.size).all λi=>(bs[i]?).getD true)=bs.all id:=by
   rw[aX,<- rv.length,ak];exact wL bs
  refine⟨.bl (bs.all id),H,I.kept (t':=tk) λb o q=>hk b o (λhm=>?_) (aH _ q),?_,q⟩
  .rw[YR.mp hm]at q;exact X2 _ (aK q)
  .rw[e];rfl
def tSM(r:V->Ζ->Hp->VK->Prop)(to:TE)(t:TA):TE:=λσ H Q=>to σ H λx H1=>(∃y,x=.str y)/\t σ H1 λvs H2=>r x vs H2 Q
theorem aiS{o e:Expr}{to:TE}{t:TA}{name:Str}{id:String}{r:V->Ζ->Hp->VK->Prop}{ah ae:Pos}(slot:Slot "str" name id)(iS:typeOf (.builtin id)=pure (.type "method_descriptor"))(hm:MtM X id r)(ho:PE X o to)(ha:PA X [e] t)
 (hb:qB X o name:=by rfl)
 (hf:qr X ae e:=by rfl)
 (hl:zz ah ae:=by rfl)(hs:qo X e []:=by rfl)(hp:qh X ae []:=by rfl) :
  PE X (.Call (.Attribute o name ah) [e] [] ae) (tSM r to t):=by
 refine(Yb PySem.F.plainAttrs_str slot iS hm ho.mono ha hb hf hl hs hp).imp λσ H Q h=>?_;refine⟨_,h,?_⟩;rintro x H1 ⟨⟨y,rfl⟩,h2⟩;exact⟨rfl,h2⟩
theorem aax{x:Str}{v:V}{pos:Pos}(hg:Gl X x)(hm:∃u,X.mg x=some u/\RelV v u)(hd:qk x:=by decide):PE X (.Name x pos) (tC v):=by
 obtain⟨u,h1,h2⟩:=hm;exact Xl hg h1 h2 hd
end
def hid(y:Str):Str:=Str.ofString "?"++y
def MN(xs:Φ)(N:Φ):Φ:=N.map λy=>if y∈xs then hid y else y
def Cx.compG(X:Cx)(N':Φ)(scope:Scope)(xs:Φ)(C:Addr)(s₀:Shared)(H₀:Hp)(ex:Ψ)(pn:Δ):Cx :=
 { X with env:=compEnvC scope (v9 X.env.cells scope.names []) C X.env,N:=xs++N',s₀:=s₀,H₀:=H₀,outer:=X.stack,ex:=ex,fn:=λ_=>false,pn:=pn,xe:=λ_ _=>False }
def PTs(X:Cx)(aS:List Expr)(tc:TT):Prop:=∀(aa:Δ)(s:Shared)(σ:L2.St)(H:Hp)(Q:Bool->Hp->Prop),Inv X aa σ H s->tc σ H Q ->
 wpAny (model X.prog X.w) X.A (forIn aS true λc r=>if r=true then do let ok <- isTrue c X.env (eval c X.env);pure (ForInStep.yield ok)else pure (ForInStep.yield r)) (λb s'=>∃H',Inv X aa σ H' s'/\Q b H') X.xe s
def amx:TT:=λ_ H Q=>Q true H
theorem adv{X:Cx} : PTs X [] amx:=λ_ _ _ H _ I q=>wpAny_tests_nil ⟨H,I,q⟩
theorem adw{X:Cx}{c:Expr}{tc:TT}(h:PT X c tc):PTs X [c] tc:=λaa s σ H Q I q=>wpAny_tests_one (h aa s σ H Q I q)
def uq(wi:TI)(n:Nat)(gt:TG)(tc:TT)(te:TE):TE:=λσ H Q=>wi σ H λJ H1=>∀D,H1 D=none->∃W:Nat->Nat->Ζ->Hp->Prop,(∃m,W 0 m [] (upd H1 D (.lst [])))/\∀i m ys Hc,W i m ys Hc ->
 (J.stop i Hc/\Q (.ref D) Hc)\/(J.go i Hc/\∀x H',J.yld i Hc x H'->∀pre:L2.St,pre.length=n->gt x (pre++σ) H' λσ2 H2=>∃b6:L2.St,b6.length=n/\σ2=b6++σ/\tc σ2 H2 λb H3 =>
  match b with
  |true=>te σ2 H3 λy H4=>ys.length<sizeLine/\H4 D=some (.lst ys)/\∃m',m'<m/\W (i+1) m' (ys++[y]) (upd H4 D (.lst (ys++[y])))
  |false=>∃m',m'<m/\W (i+1) m' ys H3)
def Cx.compE(X:Cx)(ext:Addr->List (Str×Addr))(fn:Str->Bool)(N':Φ)(scope:Scope)(xs:Φ)(C:Addr)(s₀:Shared)(H₀:Hp)(ex:Ψ)(pn:Δ):Cx :=
 { X with env:=compEnvC scope (ext C++v9 X.env.cells scope.names []) C X.env,N:=xs++N',s₀:=s₀,H₀:=H₀,outer:=X.stack,ex:=ex,fn:=fn,pn:=pn,xe:=λ_ _=>False }
structure Tv(X:Cx)(scope:Scope)(xs:Φ)(ext:Addr->List (Str×Addr))(fn:Str->Bool):Prop where
 new:∀{M:Model}{A:Around}{E:Ε}{s:Shared}{globals:Addr}{bP:List (Str×Addr)}{ai:Str}{outer:Env}{Q:Env->Shared->Prop},(∀g,g.Ns s.heap.objs.size (λx=>([] : List (Str×Value)).reverse.lookup x)->(∀y c,(ext s.heap.objs.size).lookup y=some c->g.IsCell c none)->(∀b o,s.heap.get? b=some o->g.get? b=some o)->Q (newEnv scope s.heap.objs.size globals (ext s.heap.objs.size++bP) ai none .none (some outer) builtinsNs) { s with heap:=g,toks:=s.toks+([] : List (Str×Value)).length }) ->
  wpAny M A (newFunctionEnv scope globals bP [] ai none .none (some outer)) Q E s
 up:∀C y c,(ext C).lookup y=some c->C<c
 one:∀C y z c,(ext C).lookup y=some c->(ext C).lookup z=some c->y=z
 nw:∀C y,fn y=true->∃c,(ext C).lookup y=some c
 off:∀C y,y∉xs->(ext C).lookup y=none
 kd:∀C y,((relabel scope X.env).names.lookup y=some .cell\/(relabel scope X.env).names.lookup y=some .free)->(∃c,(ext C).lookup y=some c)\/(y,NameKind.free)∈scope.names
theorem alW{X:Cx}{scope:Scope}{xs:Φ}(hk:scope.kind=.function)(de:∀y∈scope.names,y.2≠.cell):Tv X scope xs (λ_=>[]) (λ_=>false) :=
 ⟨λhQ=>wpAny_newFunctionEnv de (by intro y hy;simp at hy) (λg eJ hsb=>hQ g eJ (λ_ _ z=>(nomatch z)) λb o e=>(hsb.2 b (aQ (aK e))).trans (aH _ e)) hk,λ_ _ _ z=>(nomatch z),λ_ _ _ _ z=>(nomatch z),λ_ _ z=>(nomatch z),λ_ _ _=>rfl,λ_ _ e=>.inr (Ef e de)⟩
section
variable{X:Cx}{be iter:Expr}{pos:Pos}{scope:Scope}{wi:TI}{te:TE}
theorem Ny{ext:Addr->List (Str×Addr)}{fn:Str->Bool}{use:Option (Value->Sem Unit)}{post:Ε}{Qv:VK}{aa:Δ}{s:Shared}{σ:L2.St}{H:Hp}{pp:Pos}{xs N':Φ}{tg:Expr}{aS:List Expr}{gt:TG}{tc:TT}(E:Tv X scope xs ext fn)(hc:X.calm=true)(gp:MN xs X.N=N')(c5:scope.kind=.function)(db:∀y∈scope.names,y.2=.local->scope.names.lookup y.1=some .local)
 (cf:∀y∈scope.names,y.2=.free->X.env.kindOf y.1=some .cell\/X.env.kindOf y.1=some .free)(fm:∀y∈X.N,y∉xs->(relabel scope X.env).names.lookup y≠some .local)(hq:∀y∈X.N,y∈xs->(relabel scope X.env).names.lookup (hid y)=none)(hi:PI X tg iter wi)
 (hg:∀C s₀ H₀ ex pn,PG (X.compE ext fn N' scope xs C s₀ H₀ ex pn) tg gt)(ht:∀C s₀ H₀ ex pn,PTs (X.compE ext fn N' scope xs C s₀ H₀ ex pn) aS tc)(he:∀C s₀ H₀ ex pn,PE (X.compE ext fn N' scope xs C s₀ H₀ ex pn) be te)(hs:qV X iter)(I:Inv X aa σ H s)(h:uq wi xs.length gt tc te σ H Qv)
 (nc:∀(C D:Addr)(Hc:Hp)(s6:Shared)(m:Str->Ω)(fl:Flow),s6.heap.Ns C m->Inv X aa σ Hc s6->G4 X aa Hc C->Qv (.ref D) Hc->compPost (model X.prog X.w) X.A X.xe use post (.ref D) C (.ok fl) s6) :
  wpAny (model X.prog X.w) X.A (comprehension (.ListComp be [⟨tg,iter,aS,0⟩] scope pos) scope X.env pp (newList []) false (eval iter X.env) use) post X.xe s:=by
 have kl:∀y∈scope.names,y.2=.free->∃c,X.env.cells.lookup y.1=some c:=λy hy e=>I.ok.has y.1 (cf y hy e);refine wpAny_comprehension_free (use:=use) (Q:=post) rfl hs (Wq kl) c5 db (thn (hi aa s σ H _ I h) λv s1 h1=>thn h1 λkU s2 h2=>?_);obtain⟨it,fp,tn,J,H2,e,I2,T,f8,f2,R⟩:=h2;subst e;have nD:H2 s2.heap.objs.size=none:=I2.hok.fresh (aG _);obtain⟨W,⟨m0,w0⟩,turn⟩:=R s2.heap.objs.size nD;refine wpAny_newObj_type ?_ (by show 0<=sizeLine;exact aZ _);have I3:Inv X aa σ (upd H2 s2.heap.objs.size (.lst [])) { s2 with heap:=s2.heap.push { cls:=.type "list",dict:=none,data:=.seq ([] : Θ).toArray } }:=I2.lnew (t':=s2.toks) (ys:=[]) (its:=[]) .nil (aZ _);have kL:∀b o,s2.heap.get? b=some o->(s2.heap.push { cls:=.type "list",dict:=none,data:=.seq ([] : Θ).toArray }).get? b=some o:=λb o e=>aH _ e;generalize hs3:({ s2 with heap:=s2.heap.push { cls:=.type "list",dict:=none,data:=.seq ([] : Θ).toArray } } : Shared)=s3 at I3 ⊢;have h8:tn 0 s3.heap:=T.keep _ _ _ f8 λb _ o e=>by rw[<- hs3];exact kL b o e
 generalize hH3:upd H2 s2.heap.objs.size (.lst [])=H3 at I3 w0;have f3:∀b∈fp,G4 X aa H3 b:=λb hb=>by
  obtain⟨a1,a2⟩:=f2 b hb;refine⟨?_,a2⟩;obtain⟨o,e,_⟩:=T.obj _ _ f8 b hb;rw[<- hH3,cD (aQ (aK e))];exact a1
 refine E.new λg eJ hJ kg=>?_;have clm:∀{y:Str}{c:Addr},(v9 X.env.cells scope.names []).lookup y=some c->X.env.cells.lookup y=some c:=λ{y c}e=>by
  rcases T4 kl (PySem.mem_of_lookup e)with z|z
  .cases z
  .exact z
 have gh:∀{y:Str},(ext s3.heap.objs.size).lookup y=none->((relabel scope X.env).names.lookup y=some .cell\/(relabel scope X.env).names.lookup y=some .free)->(X.env.kindOf y=some .cell\/X.env.kindOf y=some .free)/\∃c,(ext s3.heap.objs.size++v9 X.env.cells scope.names []).lookup y=some c/\X.env.cells.lookup y=some c:=λ{y}ny e=>by
  rcases E.kd s3.heap.objs.size y e with⟨c,z⟩|z
  .rw[ny]at z;cases z
  .obtain⟨c,dq⟩:=S5 (cells:=X.env.cells) (acc:=[]) (.inl z);obtain⟨c,dq⟩:=qu dq;exact⟨cf _ z rfl,c,by rw[List.lookup_append,ny];exact dq,clm dq⟩
 have jI:∀{y:Str}{c:Addr},(ext s3.heap.objs.size++v9 X.env.cells scope.names []).lookup y=some c->(ext s3.heap.objs.size).lookup y=some c\/X.env.cells.lookup y=some c:=λ{y c}e=>by
  rw[List.lookup_append]at e;cases hy:(ext s3.heap.objs.size).lookup y with
  |some d=>rw[hy]at e;exact .inl e
  |none=>rw[hy]at e;exact .inr (clm e)
 have cll:∀{y z c},(ext s3.heap.objs.size).lookup z=some c->¬X.env.cells.lookup y=some c:=λ{y z c}e1 e=>by
  obtain⟨v,o,h1,_⟩:=I3.cell y c e;exact X2 _ (Tu (aK h1) (E.up _ _ _ e1))
 have kQ:∀b∈fp,b<s3.heap.objs.size:=λb hb=>by
  obtain⟨o,e,_⟩:=T.obj _ _ h8 b hb;exact aK e
 have nst:∀b∈fp,b∉frs X.stack:=λb hb=>I3.nostk' (f3 b hb).2.1 (f3 b hb).2.2.1;have cfp:∀b∈fp,∀y c,(ext s3.heap.objs.size++v9 X.env.cells scope.names []).lookup y=some c->c≠b:=λb hb y c e=>by
  rcases jI e with z|z
  .exact VT (Tu (kQ b hb) (E.up _ _ _ z))
  .exact(f3 b hb).2.2.2.2.1 y c z
 generalize hX:X.compE ext fn N' scope xs s3.heap.objs.size s3 H3 fp (X.pn++aa)=Y;have ok':Y.Ok:=by
  subst hX;exact⟨I3.ok.mod,c5,I3.ok.glob,I3.ok.blt,aG _,λy z c h1 h2=>by
    rcases jI h1 with e1|e1<;>rcases jI h2 with e2|e2
    .exact E.one _ _ _ _ e1 e2
    .exact absurd e2 (cll e1)
    .exact absurd e1 (cll e2)
    .exact I3.ok.inj y z c e1 e2,λy hy=>by
    cases hz:(ext s3.heap.objs.size).lookup y with
    |some c=>exact⟨c,List.lookup_append.trans (by rw[hz];rfl)⟩
    |none=>exact let⟨_,c,q,_⟩:=gh hz hy;⟨c,q⟩,λy c i' e=>by
    obtain⟨d,z⟩:=E.nw s3.heap.objs.size y i';have e:(ext s3.heap.objs.size++v9 X.env.cells scope.names []).lookup y=some c:=e;rw[List.lookup_append,z]at e;cases e;exact Y2 (E.up _ _ _ z),I3.ok.hd,I3.ok.frames,.inl rfl,
   λb hb=>⟨aQ (kQ b hb),cfp b hb⟩,I3.bs,aL I3.ok.bsz I3.sz,λb o e hb=>by
    rcases(f3 b hb).2.2.2.1 with z|z
    .exact I3.ok.noex b o e z
    .exact absurd (aR (aR (aK e) I3.ok.bsz) z) (X2 _),nst,I3.stack,I3.stkFree⟩
 have J4:∀tk,Inv Y [] (List.replicate xs.length none++σ) H3 { s3 with heap:=g,toks:=tk }:=λtk=>by
  subst hX;refine⟨ok',rfl,I3.bare,Un.kept kg,⟨_,eJ,λi y v e1 e2 e3=>?_⟩,λy c e=>?_,I3.hok.fresh (aG _),λy c e=>(jI e).elim (λz=>I3.hok.fresh (Y2 (E.up _ _ _ z))) (I3.freeC y c),λp hp=>?_,I3.hok.kept kg,?_⟩
  .by_cases hin:i<xs.length
   .rw[aF (by rw[aN];exact hin),XG,ZY hin]at e2;cases e2
   .obtain⟨j,rfl⟩ : ∃j,i=xs.length+j:=⟨i-xs.length,by lia⟩;have e0:N'[j]?=some y:=by
     have e1:(xs++N')[xs.length+j]?=some y:=e1;rw[aD (X1 _ _)]at e1;rw[show xs.length+j-xs.length=j by exact TR _ _]at e1;exact e1
    have kq:σ[j]?=some (some v):=by
     rw[aD (by rw[aN];exact X1 _ _),aN]at e2;rw[show xs.length+j-xs.length=j by exact TR _ _]at e2;exact e2
    rw[<- gp]at e0;obtain⟨y0,ii,ey⟩ : ∃y0,X.N[j]?=some y0/\(if y0∈xs then hid y0 else y0)=y:=by
     unfold MN at e0;rw[aq]at e0;cases hz:X.N[j]? with
     |none=>rw[hz]at e0;cases e0
     |some y0=>rw[hz]at e0;exact⟨y0,rfl,Option.some.inj e0⟩
    have e3:(relabel scope X.env).names.lookup y=some .local\/(relabel scope X.env).names.lookup y=some .cell\/(relabel scope X.env).names.lookup y=some .free:=e3;have ne:¬y0∈xs:=λz=>by
     rw[ZY z]at ey;subst ey;rw[hq y0 (aC ii) z]at e3;rcases e3 with z|z|z<;>cases z
    rw[ZZ ne]at ey;subst ey;have e3':(relabel scope X.env).names.lookup y0=some .cell\/(relabel scope X.env).names.lookup y0=some .free:=by
     rcases e3 with z|z
     .exact absurd z (fm y0 (aC ii) ne)
     .exact z
    obtain⟨kd,c,hJ,kn⟩:=gh (E.off _ _ ne) e3';obtain⟨m,_,hl⟩:=I3.loc;obtain⟨u,r,lk⟩:=hl j y0 v ii kq (.inr kd);refine⟨u,r,.inr ⟨e3',c,hJ,?_⟩⟩;rcases lk with⟨k1,_⟩|⟨_,c',q1,o,q2,q3⟩
    .exfalso;have k1':X.env.kindOf y0=some .local:=k1;rcases kd with k2|k2<;>rw[k1']at k2<;>cases k2
    .rw[kn]at q1;cases q1;exact⟨o,kg _ _ q2,q3⟩
  .rcases jI e with z|z
   .exact⟨none,hJ y c z⟩
   .obtain⟨v,o,q2,q3⟩:=I3.cell y c z;exact⟨v,o,kg _ _ q2,q3⟩
  .have eI:p∈X.pn++aa:=by simpa[Cx.compE]using hp
   obtain⟨a1,a2,a3,a4,a5⟩:=I3.pin p eI;exact⟨kg _ _ a1,a2,aQ (aK a1),I3.nostk' a3 a4,a5⟩
  .show(List.replicate xs.length none++σ).length=(xs++N').length;have hln:N'.length=X.N.length:=by rw[<- gp];unfold MN;rw[ak]
   rw[aA,aN,aA,I3.len,hln]
 have mS:∀{Hc:Hp},(∀b∈fp,Hc b=none)->∀b∈fp,G4 Y [] Hc b:=λ{Hc}hn b hb=>by
  subst hX;exact⟨hn b hb,aQ (kQ b hb),nst b hb,.inl hb,cfp b hb,λp hp=>(f3 b hb).2.2.2.2.2 p (by simpa[Cx.compE]using hp)⟩
 have g5:∀s4:Shared,s4={ s3 with heap:=g,toks:=s3.toks+([] : List (Str×Value)).length } ->
   codeAny (model X.prog X.w) X.A (.compLoop (.ListComp be [⟨tg,iter,aS,0⟩] scope pos) 0 (.ref it) (.ref s2.heap.objs.size) Y.env) (compPost (model X.prog X.w) X.A X.xe use post (.ref s2.heap.objs.size) s3.heap.objs.size) s4:=by
  rintro s4 rfl;have YP:Y.prog=X.prog/\Y.w=X.w/\Y.K=X.K/\Y.calm=X.calm/\Y.A=X.A/\Y.env.locals=s3.heap.objs.size:=by subst hX;exact⟨rfl,rfl,rfl,rfl,rfl,rfl⟩
  obtain⟨y1,y2,y3,y4,y5,y6⟩:=YP;have he':PE Y be te:=by subst hX;exact he _ _ _ _ _
  have lS:PG Y tg gt:=by subst hX;exact hg _ _ _ _ _
  have ht':PTs Y aS tc:=by subst hX;exact ht _ _ _ _ _
  have j1:Y.xe=λ_ _=>False:=by subst hX;rfl
  have yb:∀{Hc:Hp}{w':L2.St}{pn:Δ}{s':Shared},Inv Y pn w' Hc s'->Un (frs X.stack) fp H3 Hc s3.heap s'.heap:=λ{Hc w' pn s'}Z=>by
   have:=Z.base;subst hX;exact this
  have yos:∀{Hc:Hp}{w':L2.St}{pn:Δ}{s':Shared},Inv Y pn w' Hc s'->s'.os=s3.os:=λ{Hc w' pn s'}Z=>by
   have:=Z.os;subst hX;exact this
  refine codeAny_loop rfl (λn s'=>∃i ys Hc,∃w':L2.St,w'.length=xs.length/\Inv Y [] (w'++σ) Hc s'/\tn i s'.heap/\(∀b∈fp,Hc b=none)/\W i n ys Hc) (λn s5 hI=>?_) m0 ⟨0,[],H3,List.replicate xs.length none,aN,J4 _,T.keep _ _ _ h8 λb _ o e=>kg b o e,λb hb=>(f3 b hb).1,w0⟩;obtain⟨i,ys,Hc,w',dm,Z,stc,frc,wc⟩:=hI;show wpAny _ _ ((compTurn (.ListComp be [⟨tg,iter,aS,0⟩] scope pos) 0 (.ref it) (.ref s2.heap.objs.size) Y.env).onRaise (λz=>do noteFrame z Y.env;theTreesLotGoes z)) _ _ s5;refine wpAny_noted (wpAny_noRaise ?_);rw[compTurn_list];show wpAny (model X.prog X.w) X.A _ _ _ _;rcases turn i n ys Hc wc with⟨stop,qn⟩|⟨go,step⟩
  .have hd:=T.done Y y1 y2 y3 (y4.trans hc) i [] s5 (w'++σ) Hc (λ_ _=>False) Z (mS frc) stc stop;rw[y5]at hd;refine ZU (wpAny_standAt (ZU (thn hd λr s6 hP=>?_)));obtain⟨hr,Z6⟩:=hP;subst hr;refine ZT ?_;obtain⟨m,i7,_⟩:=Z6.loc;rw[y6]at i7;have u6:=yb Z6;have hok:HOk X.prog X.w Hc s6.heap:=by
    have z:=Z6.hok;rw[y1,y2]at z;exact z
   have cn:Hc s3.heap.objs.size=none:=by
    have z:=Z6.free;rw[y6]at z;exact z
   have I6:Inv X aa σ Hc s6:=I3.call' (s':=s6) (ch:=fp) (yos Z6) u6 hok Z6.bare λb hb=>⟨(f3 b hb).2.2.2.1,(f3 b hb).2.1,(f3 b hb).2.2.2.2.1,(f3 b hb).2.2.2.2.2⟩;have fC:G4 X aa Hc s3.heap.objs.size:=I3.fpOk (aG _) cn;exact nc _ _ Hc s6 m _ i7 I6 fC qn
  .have hd:=T.item Y y1 y2 y3 (y4.trans hc) i [] s5 (w'++σ) Hc (λ_ _=>False) Z (mS frc) stc go;rw[y5]at hd;refine ZU (wpAny_standAt (ZU (thn hd λr s6 hP=>?_)));obtain⟨u,hr,h6⟩:=hP;subst hr;refine ZU (thn h6 λ_ s7 hP=>?_);obtain⟨xv,H7,Z7,r7,yl,kz,fr7⟩:=hP;have Z7':=Z7.pinned (mS fr7) (T.obj _ _ kz);have cc:=lS _ s7 _ H7 xv u _ Z7' r7 (step xv H7 yl w' dm);rw[y1,y2,y5,j1]at cc;refine ZU (thn cc λ_ s8 hP=>?_);obtain⟨σ8,H8,Z8,pre,eR,e8,q8⟩:=hP;subst e8;have hte:=ht' _ s8 _ H8 _ Z8 q8;rw[y1,y2,y5,j1]at hte;have fin:∀{m':Nat}{jS:Ζ}{H9:Hp}{s9:Shared},Inv Y ([]++Kp fp s7.heap) (pre++σ) H9 s9->m'<n->W (i+1) m' jS H9->∃m,m<n/\∃i ys Hc,∃w':L2.St,w'.length=xs.length/\Inv Y [] (w'++σ) Hc s9/\tn i s9.heap/\(∀b∈fp,Hc b=none)/\W i m ys Hc:=λ{m' jS H9 s9}Z9 gv w9 =>
    ⟨m',gv,i+1,jS,H9,pre,eR,Z9.unpinned,T.keep _ _ _ kz λb hb o e=>(Z9.pin (b,o) (aP _ (aP _ (rM hb e)))).1,λb hb=>by
     obtain⟨o,e,_⟩:=T.obj _ _ kz b hb;exact(Z9.pin (b,o) (aP _ (aP _ (rM hb e)))).2.1,w9⟩
   refine ZU (thn hte λok s9 hP=>?_);obtain⟨H9,Z9,q9⟩:=hP;cases ok with
   |false =>
    obtain⟨m',gv,w9⟩:=q9;exact ZT ⟨rfl,fin Z9 gv w9⟩
   |true =>
    have hel:=he' _ s9 _ H9 _ Z9 q9;rw[y1,y2,y5,j1]at hel;refine ZU (ZU (thn hel λev s10 hP=>?_));obtain⟨yv,H10,Z10,r10,hz,mM,m',gv,w10⟩:=hP;have mI:=Nj (X:=Y) _ s10 _ H10 (.ref s2.heap.objs.size) [yv] (.ref s2.heap.objs.size) [ev] (λ_ Hf=>Hf=upd H10 s2.heap.objs.size (.lst (ys++[yv]))) Z10 rfl (.cons r10 .nil) ⟨_,ys,yv,rfl,rfl,mM,hz,rfl⟩;rw[y1,y2,y5,j1]at mI;refine ZU (thn mI λav s11 hP=>?_);obtain⟨_,H11,Z11,_,e11⟩:=hP;subst e11;exact ZT (ZT ⟨rfl,fin Z11 gv w10⟩)
 have l7:Y.env=compEnvC scope (ext s3.heap.objs.size++v9 X.env.cells scope.names []) s3.heap.objs.size X.env:=by subst hX;rfl
 rw[l7]at g5;exact codeAny_compStart_list (g5 _ rfl) (T.self _ 0 _ _ _ (T.keep _ _ _ h8 λb _ o e=>kg b o e) (g5 _ rfl))
theorem S9{ext:Addr->List (Str×Addr)}{fn:Str->Bool}{xs N':Φ}{tg:Expr}{aS:List Expr}{gt:TG}{tc:TT}(E:Tv X scope xs ext fn)(hc:X.calm=true)(gp:MN xs X.N=N')(c5:scope.kind=.function)(db:∀y∈scope.names,y.2=.local->scope.names.lookup y.1=some .local)
 (cf:∀y∈scope.names,y.2=.free->X.env.kindOf y.1=some .cell\/X.env.kindOf y.1=some .free)(fm:∀y∈X.N,y∉xs->(relabel scope X.env).names.lookup y≠some .local)(hq:∀y∈X.N,y∈xs->(relabel scope X.env).names.lookup (hid y)=none)(hi:PI X tg iter wi)
 (hg:∀C s₀ H₀ ex pn,PG (X.compE ext fn N' scope xs C s₀ H₀ ex pn) tg gt)(ht:∀C s₀ H₀ ex pn,PTs (X.compE ext fn N' scope xs C s₀ H₀ ex pn) aS tc)(he:∀C s₀ H₀ ex pn,PE (X.compE ext fn N' scope xs C s₀ H₀ ex pn) be te)(hs:qV X iter) :
  PE X (.ListComp be [⟨tg,iter,aS,0⟩] scope pos) (uq wi xs.length gt tc te):=by
 intro aa s σ H Q I h;rw[eval_ListComp];exact Ny E hc gp c5 db cf fm hq hi hg ht he hs I h λC D Hc s6 m fl hn I6 fC q=>⟨m,hn,λh' h9=>⟨.ref D,Hc,I6.turned (it:=C) (h':=h') (t':=s6.toks) (λb o hb e=>(h9.2 b hb).trans e) fC.1 fC.2.1 fC.2.2.2.1 fC.2.2.2.2.1 fC.2.2.2.2.2,rfl,q⟩⟩
end
section
variable{κ:Type}[DecidableEq κ]
def Kc(kvs:List (κ×V))(k:κ):Option V:=(kvs.find? λkv=>decide (kv.1=k)).map (·.2)
def putK(kvs:List (κ×V))(k:κ)(v:V):List (κ×V) :=
 if(kvs.any λkv=>decide (kv.1=k))=true then kvs.map (λkv=>if kv.1=k then(kv.1,v)else kv)else kvs++[(k,v)]
theorem Ui{p:κ×V}{r:List (κ×V)}{k:κ}(e:p.1=k):Kc (p::r) k=some p.2:=by simp[Kc,List.find?_cons,e]
theorem Ko{p:κ×V}{r:List (κ×V)}{k:κ}(e:¬p.1=k):Kc (p::r) k=Kc r k:=by simp[Kc,List.find?_cons,e]
theorem Sw(kvs:List (κ×V))(k:κ)(v:V):(putK kvs k v).length<=kvs.length+1:=by
 unfold putK;split
 .rw[ak];exact Xs _
 .rw[aA,List.length_cons,List.length_nil];exact aG _
theorem Ar.isSome_eq{o:Option V}{u:Ω}(r:Ar o u):o.isSome=u.isSome:=by
 cases o with
 |none=>cases u with
  |none=>rfl
  |some _=>exact(show False from r).elim
 |some _=>cases u with
  |none=>exact(show False from r).elim
  |some _=>rfl
theorem Ar.getD{o:Option V}{u:Ω}{d:V}{d':Value}(r:Ar o u)(rd:RelV d d'):RelV (o.getD d) (u.getD d'):=by
 cases o with
 |none=>cases u with
  |none=>exact rd
  |some _=>exact(show False from r).elim
 |some _=>cases u with
  |none=>exact(show False from r).elim
  |some _=>exact r
theorem KV.val{kvs:List (κ×V)}{vs:List (κ×Value)}(r:KV kvs vs)(k:κ):Ar (Kc kvs k) (valueAt vs k):=by
 unfold KV at r
 induction r with
 |nil=>exact True.intro
 |@cons p q ps qs h t ih =>
  obtain⟨h1,h2⟩:=h;by_cases e:p.1=k
  .have e':q.1=k:=h1.symm.trans e;have b:valueAt (q::qs) k=some q.2:=by simp[valueAt,List.find?_cons,e']
   rw[Ui e,b];exact h2
  .have e':¬q.1=k:=λz=>e (h1.trans z);have b:valueAt (q::qs) k=valueAt qs k:=by simp[valueAt,List.find?_cons,e']
   rw[Ko e,b];exact ih
theorem KV.any{kvs:List (κ×V)}{vs:List (κ×Value)}(r:KV kvs vs)(k:κ):(kvs.any λkv=>decide (kv.1=k))=vs.any λkv=>decide (kv.1=k):=by
 unfold KV at r
 induction r with
 |nil=>rfl
 |cons h t ih=>rw[List.any_cons,List.any_cons,ih,h.1]
theorem KV.repl{kvs:List (κ×V)}{vs:List (κ×Value)}(r:KV kvs vs)(k:κ){y:V}{u:Value}(ry:RelV y u) :
  KV (kvs.map λkv=>if kv.1=k then(kv.1,y)else kv) (vs.map λkv=>if kv.1=k then(kv.1,u)else kv):=by
 unfold KV at r ⊢
 induction r with
 |nil=>exact .nil
 |@cons p q ps qs h t ih =>
  rw[List.map_cons,List.map_cons];refine .cons ?_ ih;obtain⟨h1,h2⟩:=h;by_cases e:p.1=k
  .rw[ZY e,ZY (h1.symm.trans e)];exact⟨h1,ry⟩
  .rw[ZZ e,ZZ (λz=>e (h1.trans z))];exact⟨h1,h2⟩
theorem KV.put{kvs:List (κ×V)}{vs:List (κ×Value)}(r:KV kvs vs)(k:κ){y:V}{u:Value}(ry:RelV y u):KV (putK kvs k y) (stored vs k u):=by
 unfold putK stored;rw[r.any k];by_cases e:(vs.any λkv=>decide (kv.1=k))=true
 .rw[ZY e,ZY e];exact r.repl k ry
 .rw[ZZ e,ZZ e];exact Paired.snoc r ⟨rfl,ry⟩
theorem KV.length{kvs:List (κ×V)}{vs:List (κ×Value)}(r:KV kvs vs):kvs.length=vs.length:=Paired.length r
end
theorem Uz{P:Program}{w:World}{k:Key}{u:Value}(r:RelV (kV k) u):(jW P w).is k u=true:=by
 cases k with
 |inl i=>obtain⟨t,e⟩:=(show ∃t,u=Value.int i t from r);subst e;exact Ud P w i t
 |inr x=>obtain⟨t,e⟩:=(show ∃t,u=Value.str x t from r);subst e;exact Tz P w x t
section
variable{P:Program}{w:World}{H:Hp}{h:Heap}{a:Addr}
theorem ajF{u:HO}(ok:HOk P w H h)(e:Rd H a u):h_ P w H h a u:=e.ok ok
theorem JK{kvs:List (Key×V)}(ok:HOk P w H h)(e:Rd H a (.dK kvs)):kvs.length<=sizeLine/\(a==sysModules)=false/\∃vs,KV kvs vs/\h.DictOf (jW P w) a vs :=
 show h_ P w H h a (.dK kvs)from ajF ok e
theorem ah6{kvs:List (Key×V)}(ok:HOk P w H h)(e:H a=some (.dK kvs)):kvs.length<=sizeLine/\(a==sysModules)=false/\∃vs,KV kvs vs/\h.DictOf (jW P w) a vs:=JK ok (.inl e)
end
def FW(H:Hp)(a:Addr)(y:V)(r:Option V):Prop :=
 (∃kvs k,Rd H a (.dK kvs)/\y=kV k/\r=Kc kvs k)\/False
def aiX(H:Hp)(a:Addr)(y v:V)(H':Hp):Prop :=
 (∃kvs k,H a=some (.dK kvs)/\y=kV k/\kvs.length<sizeLine/\H'=upd H a (.dK (putK kvs k v)))\/False
theorem FW.k{H:Hp}{a:Addr}{kvs:List (Key×V)}{k:Key}(e:H a=some (.dK kvs)):FW H a (kV k) (Kc kvs k):=.inl ⟨kvs,k,.inl e,rfl,rfl⟩
section
variable{X:Cx}{aa:Δ}{σ:St}{H:Hp}{s:Shared}{a:Addr}{y v:V}{u r:Value}{o:Option V}{A:Around}{E:Ε}
theorem Inv.big(I:Inv X aa σ H s):sysModules<s.heap.objs.size:=by
 have h:mainGlobals<s.heap.objs.size:=(I.mod.glob.keeps I.bk).lt;exact Tu (by decide) h
theorem Zq{Q:Ε}(hu:A.units+1<cLine)(I:Inv X aa σ H s)(g:FW H a y (some v))(ry:RelV y u)(h:∀w' s',Inv X aa σ H s'->RelV v w'->Q w' s') :
  wpAny (model X.prog X.w) A (getItem (.ref a) u) Q E s:=by
 rcases g with⟨kvs,k,e,ey,l⟩|hF
 .subst ey;obtain⟨z,hd,vs,rel,dd⟩:=JK I.hok e;obtain⟨w',hw,fc⟩:=Ar.some_of (v:=v) (o:=valueAt vs k) (by rw[l];exact rel.val k);exact wpAny_getItem_of (Uz ry) dd.mapOf hw (h w' _ (I.tok _) fc)
 .exact hF.elim
theorem amO{Q:Ε}(hu:A.units+1<cLine)(I:Inv X aa σ H s)(g:FW H a y o)(ry:RelV y u)(h:∀s',Inv X aa σ H s'->Q (.bool o.isSome) s') :
  wpAny (model X.prog X.w) A (compareOp .In u (.ref a)) Q E s:=by
 rcases g with⟨kvs,k,e,ey,l⟩|hF
 .subst ey;obtain⟨z,hd,vs,rel,dd⟩:=JK I.hok e;refine wpAny_in_of (Uz ry) hd dd.mapOf ?_;rw[<- (rel.val k).isSome_eq,<- l];exact h _ (I.tok _)
 .exact hF.elim
theorem adk{Q:Ε}(hu:A.units+1<cLine)(I:Inv X aa σ H s)(g:FW H a y o)(ry:RelV y u)(h:∀s',Inv X aa σ H s'->Q (.bool (!o.isSome)) s') :
  wpAny (model X.prog X.w) A (compareOp .NotIn u (.ref a)) Q E s:=by
 rcases g with⟨kvs,k,e,ey,l⟩|hF
 .subst ey;obtain⟨z,hd,vs,rel,dd⟩:=JK I.hok e;refine wpAny_notIn_of (Uz ry) hd dd.mapOf ?_;rw[<- (rel.val k).isSome_eq,<- l];exact h _ (I.tok _)
 .exact hF.elim
theorem adT{h':Heap}{t':Nat}{ob:HO}(I:Inv X aa σ H s)(mu:Mut (H a))(hs:Heap.SameBut a s.heap h')(he:∃q,h'.get? a=some q)(new:h_ X.prog X.w (upd H a ob) h' a ob) :
  Inv X aa σ (upd H a ob) { s with heap:=h',toks:=t' } :=
 I.write (x:=a) (e:=a) mu (.inl rfl) (λb q hb z=>(hs.2 b hb).trans z) he new
theorem agm{P:Program}{w:World}{H':Hp}{h':Heap}{kvs:List (Key×V)}{vs:List (Key×Value)}(z:kvs.length<=sizeLine)(hd:(a==sysModules)=false)(rel:KV kvs vs)(dd:h'.DictOf (jW P w) a vs) :
  h_ P w H' h' a (.dK kvs):=⟨z,hd,vs,rel,dd⟩
theorem Yz{H':Hp}{Q:Unit->Shared->Prop}(hu:A.units+1<cLine)(I:Inv X aa σ H s)(g:aiX H a y v H')(ry:RelV y u)(rv:RelV v r)(h:∀s',Inv X aa σ H' s'->Q () s') :
  wpAny (model X.prog X.w) A (setItem (.ref a) u r) Q E s:=by
 rcases g with⟨kvs,k,e,ey,l,eH⟩|hF
 .subst ey eH;obtain⟨z,hd,vs,rel,dd⟩:=ah6 I.hok e;have hz:vs.length<=sizeLine:=by rw[<- rel.length];exact z
  have hl:(putK kvs k v).length<=sizeLine:=by have:=Sw kvs k v;lia
  refine wpAny_setItem_pairs (hsz:=hz) (Uz ry) dd λh' dd' hs=>h _ ?_;have he:∃q,h'.get? a=some q:=by obtain⟨q,_,_,hq,_⟩:=dd';exact⟨q,hq⟩
  exact adT I (by rw[e];exact True.intro) hs he (agm hl hd (rel.put k rv) dd')
 .exact hF.elim
end
def afY(i:Expr):Prop:=∀ov iv,subscripted i false ov iv=operate [ov,iv] (getItem ov iv)
theorem acP{prog:Program}{w:World}{A:Around}{E:Ε}{s:Shared}{env:Env}{aI br:Expr}{pos:Pos}{T id:String}{Q:Ε}
 (hl:typeLookup (.type T) "__getitem__"=pure (some (.builtin id)))(hs:afY br)
 (h:wpAny (model prog w) A (eval aI env) (λo s₁=>wpAny (model prog w) A (eval br env) (λi s₂=>s₂.TypeIs o T/\wpAny (model prog w) A (getItem o i) Q E s₂) E s₁) E s) :
  wpAny (model prog w) A (eval (.Subscript aI br pos) env) Q E s:=by
 refine Subscript_ (wpAny_mono h (λo s₁ h₁=>wpAny_mono h₁ (λi s₂ h₂=>?_) λ_ _ x=>x) λ_ _ x=>x);obtain⟨hT,h₂⟩:=h₂;unfold subscriptTail;refine ZU ?_;rw[getitemInPython_of_ne hT.not_modules];refine ZU (wpAny_specialOf hT hl ?_);have fin:wpAny (model prog w) A (subscripted br false o i) (λr s₃=>wpAny (model prog w) A (letTemporaryGo aI o r >>= λ_=>pure r) Q E s₃) E s₂:=by
  rw[hs o i];exact wpAny_operating (wpAny_mono h₂ (λr s₃ h₃=>ZU (wpAny_letTemporaryGo (ZT h₃))) λ_ _ x=>x)
 first
  |exact ZT (ZU fin)
  |exact ZU (ZT (ZU fin))
  |exact ZU fin
theorem S6{X:Cx}{aa:Δ}{σ:St}{H:Hp}{s:Shared}{a:Addr}{y:V}{o:Option V}(I:Inv X aa σ H s)(g:FW H a y o):s.TypeIs (.ref a) "dict":=by
 rcases g with⟨kvs,k,e,_,_⟩|hF
 .obtain⟨_,_,vs,_,dd⟩:=JK I.hok e;exact dd.typeIs
 .exact hF.elim
def ahz(td ty:TE):TE:=λσ H Q=>td σ H λx H1=>ty σ H1 λy H2=>∃a v,x=.ref a/\FW H2 a y (some v)/\Q v H2
def amM(ty td:TE):TE:=λσ H Q=>ty σ H λy H1=>td σ H1 λx H2=>∃a o,x=.ref a/\FW H2 a y o/\Q (.bl o.isSome) H2
def aeK(ty td:TE):TE:=λσ H Q=>ty σ H λy H1=>td σ H1 λx H2=>∃a o,x=.ref a/\FW H2 a y o/\Q (.bl (!o.isSome)) H2
def ak4(td ty tv:TE):TS:=λD σ H=>tv σ H λv H1=>td σ H1 λx H2=>ty σ H2 λy H3=>∃a H4,x=.ref a/\aiX H3 a y v H4/\D.nx σ H4
section
variable{X:Cx}{o i e aI:Expr}{pos bo aE:Pos}{td ty tv:TE}
theorem ad2(hu:X.A.units+1<cLine)(ho:PE X o td)(hi:PE X i ty)(hs:afY i):PE X (.Subscript o i pos) (ahz td ty):=by
 intro aa s σ H Q I h;refine acP PySem.F.slot_dict_getitem.lookup hs (thn (ho aa s σ H _ I h) λu s1 ⟨x,H1,I1,rx,q1⟩=>thn (hi aa s1 σ H1 _ I1 q1) λiv s2 hP=>?_);obtain⟨y,H2,I2,ry,a,v,ex,g,q2⟩:=hP;subst ex;obtain rfl:u=Value.ref a:=rx;exact⟨S6 I2 g,Zq hu I2 g ry λw' s3 I3 fc=>⟨v,H2,I3,fc,q2⟩⟩
theorem agb(hu:X.A.units+1<cLine)(hi:PE X i ty)(ho:PE X o td):PC X .In i o (amM ty td):=by
 intro aa s σ H Q I h;refine thn (hi aa s σ H _ I h) λiv s1 ⟨y,H1,I1,ry,q1⟩=>thn (ho aa s1 σ H1 _ I1 q1) λu s2 hP=>?_;obtain⟨x,H2,I2,rx,a,ov,ex,g,q2⟩:=hP;subst ex;obtain rfl:u=Value.ref a:=rx;exact amO hu I2 g ry λs3 I3=>⟨.bl ov.isSome,H2,I3,rfl,q2⟩
theorem Y5(hu:X.A.units+1<cLine)(hi:PE X i ty)(ho:PE X o td):PC X .NotIn i o (aeK ty td):=by
 intro aa s σ H Q I h;refine thn (hi aa s σ H _ I h) λiv s1 ⟨y,H1,I1,ry,q1⟩=>thn (ho aa s1 σ H1 _ I1 q1) λu s2 hP=>?_;obtain⟨x,H2,I2,rx,a,ov,ex,g,q2⟩:=hP;subst ex;obtain rfl:u=Value.ref a:=rx;exact adk hu I2 g ry λs3 I3=>⟨.bl (!ov.isSome),H2,I3,rfl,q2⟩
theorem aew(hu:X.A.units+1<cLine)(ho:PE X o td)(hi:PE X i ty)(hv:PE X aI tv)(hs:swapsWith aI (some (.Subscript o i bo)) pos.line X.env=pure false) :
  PS X (.Assign [.Subscript o i bo] aI pos) (ak4 td ty tv):=by
 intro aa s σ H D I h;refine wpAny_Assign_Subscript (thn (hv aa s σ H _ I h) λr s1 ⟨v,H1,I1,rv,q1⟩=>thn (ho aa s1 σ H1 _ I1 q1) λu s2 ⟨x,H2,I2,rx,q2⟩=>thn (hi aa s2 σ H2 _ I2 q2) λiv s3 hP=>?_) hs;obtain⟨y,H3,I3,ry,a,H4,ex,g,q3⟩:=hP;subst ex;obtain rfl:u=Value.ref a:=rx;exact Yz hu I3 g ry rv λs4 I4=>⟨σ,H4,I4,q3⟩
end
theorem acH{P:Program}{w:World}{H:Hp}(h:Heap)(hb:sysModules<h.objs.size):h_ P w H (h.push { cls:=.type "dict",data:=.dict #[] }) h.objs.size (.dK []) :=
 ⟨aZ _,beq_eq_false_iff_ne.mpr (Ne.symm (aQ hb)),[],.nil,Heap.DictOf.new h⟩
def ag8:TE:=λ_ H Q=>∀p,H p=none->Q (.ref p) (upd H p (.dK []))
section
variable{X:Cx}{pos:Pos}
theorem ab5:PE X (.Dict [] [] pos) ag8:=λaa s σ H Q I h =>
 wpAny_Dict_empty ⟨.ref s.heap.objs.size,_,I.laid (a:=s.heap.objs.size) (o:=.dK []) (t':=s.toks) (λ_ _ q=>aH _ q) (aG _) (acH s.heap I.big),rfl,h _ (I.hok.fresh (aG _))⟩
end
structure M2(X:Cx)(o:Expr)(m:Str)(ah:Pos)(e f:Expr)(ae:Pos):Prop where
 base:qB X o m
 few:((backTo ae (starEach [e,f] X.env)).all (λx=>!x.1)&&(backToKw ae (keywordEach [] X.env)).all (λx=>x.1.isSome)
  && decide (([e,f] : List Expr).length+([] : List Keyword).length+(if([] : List Keyword).isEmpty then 0 else 1)<30))=true
 line:zz ah ae
 trees:backTo ae (starEach [e,f] X.env)=[(false,eval e X.env),(false,eval f X.env)]
def IsD(H:Hp)(a:Addr):Prop:=(∃kvs,Rd H a (.dK kvs))\/False
theorem agY{X:Cx}{aa:Δ}{σ:St}{H:Hp}{s:Shared}{a:Addr}(I:Inv X aa σ H s)(d:IsD H a) :
  s.TypeIs (.ref a) "dict"/\(∀b,Value.ref a=.ref b->∃ob,s.heap.get? b=some ob/\ob.dict=none)/\(a==sysModules)=false:=by
 rcases d with⟨kvs,e⟩|hF
 .obtain⟨_,hd,vs,_,dd⟩:=JK I.hok e;refine⟨dd.typeIs,λb q=>?_,hd⟩;cases q;obtain⟨ob,_,_,h1,h2,_⟩:=dd;exact⟨ob,h1,h2.2.1⟩
 .exact hF.elim
section
variable{X:Cx}{aa:Δ}{σ:St}{H:Hp}{s:Shared}{a:Addr}{y d:V}{u r:Value}{o:Option V}{A:Around}{E:Ε}
theorem ag9{Q:Ε}(hu:A.units+1<cLine)(I:Inv X aa σ H s)(g:FW H a y o)(ry:RelV y u)(rd:RelV d r)(h:∀w' s',Inv X aa σ H s'->RelV (o.getD d) w'->Q w' s') :
  wpAny (model X.prog X.w) A (call (.builtin "dict.get") [.ref a,u,r]) Q E s:=by
 rcases g with⟨kvs,k,e,ey,l⟩|hF
 .subst ey;obtain⟨z,hd,vs,rel,dd⟩:=JK I.hok e;refine call_meetsIn PySem.F.slot_dict_get dd.typeIs PySem.F.entry_dict_get (PySem.F.args_dict_get_3 _ _ _) (meets_dict_get_default (jW X.prog X.w) a (Uz ry) hd r) ⟨_,dd.mapOf,h _ _ (I.tok _) ?_⟩;rw[l];exact(rel.val k).getD rd
 .exact hF.elim
end
def ag2(td ty tx:TE):TE:=λσ H Q=>td σ H λx H1=>∃a,x=.ref a/\IsD H1 a/\ty σ H1 λy H2=>tx σ H2 λz H3=>∃o,FW H3 a y o/\Q (o.getD z) H3
section
variable{X:Cx}{o e f:Expr}{ah ae:Pos}{td ty tx:TE}
theorem aaH(hu:X.A.units+1<cLine)(ho:PE X o td)(he:PE X e ty)(hf:PE X f tx)(m:M2 X o "get" ah e f ae):PE X (.Call (.Attribute o "get" ah) [e,f] [] ae) (ag2 td ty tx):=by
 intro aa s σ H Q I h;refine wpAny_Call_method m.base m.few m.line PySem.F.plainAttrs_dict PySem.F.slot_dict_get PySem.F.type_dict_get (thn (ho aa s σ H _ I h) λu s1 hP=>?_);obtain⟨x,H1,I1,rx,a,ex,d,q1⟩:=hP;subst ex;obtain rfl:u=Value.ref a:=rx;obtain⟨t1,t2,_⟩:=agY I1 d;refine⟨t1,t2,?_⟩;rw[m.trees];refine Calls.callWith_builtin rfl (Calls.evalArgs_plain (Calls.spliced_cons (thn (he aa s1 σ H1 _ I1 q1) λiv s2 ⟨y,H2,I2,ry,q2⟩ =>
  Calls.spliced_cons (thn (hf aa s2 σ H2 _ I2 q2) λfv s3 ⟨z,H3,I3,rz,ov,g,q3⟩=>Calls.spliced_nil ?_))))
 exact ag9 hu I3 g ry rz λw' s4 I4 fc=>⟨_,H3,I4,fc,q3⟩
end
def Itk(a:Addr)(o:Obj)(kvs:List (Key×V)):It:=⟨λi H=>H a=some (.frz o (.dK kvs))/\i<kvs.length,λi H v H'=>H'=H/\∃k y,kvs[i]?=some (k,y)/\v=kV k,λi H=>H a=some (.frz o (.dK kvs))/\i=kvs.length⟩
theorem aj5{P:Program}{w:World}{k:Key}{u:Value}(h:(jW P w).is k u=true):RelV (kV k) u:=by
 have h:DX k u=true:=h;cases k with
 |inl i =>
  cases u<;>simp[DX,Value.isInt]at h
  .subst h;exact⟨_,rfl⟩
 |inr x =>
  cases u<;>simp[DX,Value.isStrOf]at h
  .subst h;exact⟨_,rfl⟩
theorem KV.at{κ:Type}{kvs:List (κ×V)}{vs:List (κ×Value)}(r:KV kvs vs):∀{i:Nat}{k:κ}{y:V},kvs[i]?=some (k,y)->∃u,vs[i]?=some (k,u)/\RelV y u:=by
 unfold KV at r
 induction r with
 |nil=>intro i k y h;cases h
 |@cons p q ps qs h t ih =>
  intro i k y e;cases i with
  |zero =>
   rw[List.getElem?_cons_zero]at e;cases e;obtain⟨q1,q2⟩:=q;obtain⟨h1,h2⟩:=h;cases h1;exact⟨q2,rfl,h2⟩
  |succ i =>
   rw[List.getElem?_cons_succ]at e ⊢;exact ih e
theorem Zk{P:Program}{w:World}{K:Frag}{tg:Expr}(it a:Addr)(o:Obj)(kvs:List (Key×V))(vs:List (Key×Value))(ep:Nat)(rel:KV kvs vs)(hD:∀h:Heap,h.get? a=some o->h.DictAt (jW P w) a vs ep) :
  Turn P w K tg (Itk a o kvs) [it] it (λi h=>h.IsKeyIter it a i vs.length ep) where
 mem:=by simp
 obj:=λi h st b hb=>by
  have e:b=it:=by simpa using hb
  subst e;obtain⟨o,ho,_,hd⟩:=st;exact⟨o,ho,λv z=>by rw[hd]at z;cases z⟩
 keep:=λi h h' st k=>let⟨o,ho,r⟩:=st;⟨o,k it (by simp) o ho,r⟩
 item:=by
  intro X hP hw hK hc i aa s σ H E I hf st hg;subst hP hw hK;obtain⟨hg,fh⟩:=hg;obtain⟨ho,_⟩:=(show h_ X.prog X.w H s.heap a (.frz o (.dK kvs))from I.hok a _ hg);obtain⟨f0,f1,f2,f3,f4,f5⟩:=hf it (by simp);obtain⟨⟨k,y⟩,hx⟩ : ∃p,kvs[i]?=some p:=⟨kvs[i],by simp[fh]⟩;obtain⟨u,hu,ru⟩:=rel.at hx;refine wpAny_pyNext_dict_item st (hD _ ho) hu λeQ h' hE bu sb=>?_;have I1:Inv X aa σ H { s with heap:=h' }:=I.turned (t':=s.toks) (λb ob hb e=>(sb.2 b hb).trans e) f0 f1 f3 f4 f5;obtain⟨oi,e,c,d⟩:=id bu;exact⟨eQ,rfl,Yt (s:={ s with heap:=h' }) e c d (by decide) ⟨kV k,H,I1,aj5 hE,⟨rfl,k,y,hx,rfl⟩,bu,λb hb=>(hf b hb).1⟩⟩
 done:=by
  intro X hP hw hK hc i aa s σ H E I hf st hg;subst hP hw hK;obtain⟨hg,rfl⟩:=hg;obtain⟨ho,_⟩:=(show h_ X.prog X.w H s.heap a (.frz o (.dK kvs))from I.hok a _ hg);obtain⟨f0,f1,f2,f3,f4,f5⟩:=hf it (by simp);have hl:=rel.length;exact wpAny_pyNext_dict_end (I.ok.hd hc) st (hD _ ho) (by simp;exact WJ (Eq.symm hl)) λh' eb=>⟨rfl,I.turned (t':=s.toks) (λb ob hb e=>eb b ob hb e) f0 f1 f3 f4 f5⟩
 self:=λ_ _ _ _ _ st h=>wpAny_pyIter_keyiter st h
section
variable{X:Cx}{tg:Expr}
def ahP(te:TE):TI:=λσ H R=>te σ H λx H1=>∃a kvs,x=.ref a/\H1 a=some (.dK kvs)/\∀o,R (Itk a o kvs) (upd H1 a (.frz o (.dK kvs)))
theorem aeH{l:Expr}{tl:TE}(hl:PE X l tl):PI X tg l (ahP tl):=by
 intro aa s σ H R I h;refine thn (hl aa s σ H _ I h) λv s1 hP=>?_;obtain⟨x,H1,I1,r1,a,kvs,ex,ha,q⟩:=hP;subst ex;cases r1;have ok:=(show h_ X.prog X.w H1 s1.heap a (.dK kvs)from I1.hok a _ ha);obtain⟨z,hd,vs,rel,o,es,ep,e,ex,ed,ek,epr,en⟩:=ok;have hD:∀h:Heap,h.get? a=some o->h.DictAt (jW X.prog X.w) a vs ep:=λh e=>⟨o,es,e,ex,ed,ek,epr,en⟩;have I2:Inv X aa σ (upd H1 a (.frz o (.dK kvs))) s1:=by
  have:=I1.write (x:=a) (e:=a) (o:=.frz o (.dK kvs)) (h':=s1.heap) (t':=s1.toks) (by rw[ha];exact True.intro) (.inl rfl) (λb u hb z=>z) ⟨o,e⟩ ⟨e,z,hd,vs,rel,o,es,ep,e,ex,ed,ek,epr,en⟩;exact this
 refine wpAny_pyIter_dict hd (hD _ e) ?_;refine⟨s1.heap.objs.size,[s1.heap.objs.size],_,Itk a o kvs,_,rfl,I2.kept (t':=s1.toks) λb ob z=>aH _ z,Zk _ a o kvs vs ep rel hD,⟨_,aW _ rfl,rfl,rfl⟩,λb hb=>?_,q o⟩;have e:b=s1.heap.objs.size:=by simpa using hb
 subst e;exact I2.fpOk (aG _) (I2.hok.fresh (aG _))
def tMG(g:TG):TG:=λv σ H Q=>∃R:L2.St->Hp->Prop,g v σ H R/\∀σ' H',R σ' H'->Q σ' H'
def tMT(t:TT):TT:=λσ H Q=>∃R:Bool->Hp->Prop,t σ H R/\∀b H',R b H'->Q b H'
theorem PG.mono{e:Expr}{g:TG}(h:PG X e g):PG X e (tMG g):=λaa s σ H v u Q I r hP=>by obtain⟨R,h1,h2⟩:=hP;exact thn (h aa s σ H v u R I r h1) λ_ s' hP=>by obtain⟨σ',H',I',q⟩:=hP;exact⟨σ',H',I',h2 σ' H' q⟩
theorem PTs.mono{aS:List Expr}{t:TT}(h:PTs X aS t):PTs X aS (tMT t):=λaa s σ H Q I hP=>by obtain⟨R,h1,h2⟩:=hP;exact thn (h aa s σ H R I h1) λb s' hP=>by obtain⟨H',I',q⟩:=hP;exact⟨H',I',h2 b H' q⟩
end
structure GZ(K:Frag)(B:Addr)(m:Str)(f:Addr):Prop where
 ga:specialIn K (.ref B) "__getattribute__"=some (some (.builtin "type.__getattribute__"))
 rd:readsIn K B (.type "type")=true
 at_:findCls K (.ref B) (.type "type") m=some (.val (.ref f))
 hd:handedIn (.ref f)=true
 kp:keepIn K (.ref f)=true
section
variable{X:Cx}{k:Nat}{f B:Addr}{fd:FuncData}{ps:Φ}{sp:Sp}{di:Ζ}{ds:Θ}{x m:Str}{p pos ah:Pos}{e:Expr}{es:List Expr}{t:TA}{Ex:Value->Ξ->L2.St->Hp->Prop}
theorem GZ.get{aa:Δ}{σ:L2.St}{H:Hp}{s:Shared}{pl:Sem Bool}{A:Around}{E:Ε}{Q:Value×Θ->Shared->Prop}(c:GZ X.K B m f)(I:Inv X aa σ H s)(h:∀t,Q (.ref f,[]) { s with toks:=t }) :
  wpAny (model X.prog X.w) A (getMethod (.ref B) m pl) Q E s :=
 PySem.W.method_cls I.kIn c.ga (PySem.W.cls_value I.kIn c.rd c.at_ c.hd (h _))
theorem aeF{pl:Sem Bool}(c:GZ X.K B m f)(F:gW X.prog X.w X.K X.mg X.base CX0 k f fd ps sp)(hr:eG k X.A)(hg:Gl X x)(hm:X.mg x=some (.ref B))(hb:Binds X.K fd ps [])(ha:PA X (e::es) t)(ci:qk x:=by decide)
 (cc:qo X e es:=by rfl)(bt:qh X pos es:=by rfl)
 (ht:eval (.Call (.Attribute (.Name x p) m ah) (e::es) [] pos) X.env=(do
   let ov <- eval (.Name x p) X.env
   standAt ah.atName
   let(f,first) <- holding [ov] (getMethod ov m pl)
   callWith pos f first (backTo pos (starEach (e::es) X.env)) (backToKw pos (keywordEach [] X.env))):=by rfl) :
  PE X (.Call (.Attribute (.Name x p) m ah) (e::es) [] pos) (Vn sp t):=by
 intro aa s σ H Q I h;refine methodCall_KW (pl:=pl) (Ip I hg hm (c.get I λtk=>?_) ci) ht;refine callWith_K (first:=[]) (h₀:=X.base) I.ok.mod.kin c.kp (thn (ha pos aa _ σ H _ (I.tok tk) h) λus s2 ⟨vs,H2,I2,r,q2⟩=>⟨I2.kIn,?_⟩) cc bt;exact JZ (us:=us) (vs:=vs) F hr hb .nil Nz I2 r (by rw[List.append_nil];exact q2)
end
theorem Same.tup{K:Frag}{H H':Hp}{a:Addr}{xs:Ζ}(e:Same H H')(h:SqT K H a xs):SqT K H' a xs:=by
 rcases h with(h|⟨o,h⟩)|h
 .exact .inl (.inl (e _ _ h))
 .exact .inl (.inr ⟨o,e _ _ h⟩)
 .exact .inr h
mutual
inductive gO(K:Frag)(H:Hp):V->PyData->Prop
 |non:gO K H .non .none
 |bl (b:Bool):gO K H (.bl b) (.bool b)
 |int (i:Int):gO K H (.int i) (.int i)
 |str (x:Str):gO K H (.str x) (.str x)
 |lst {a:Addr}{xs:Ζ}{ds:List PyData} : H a=some (.lst xs)->d7 K H xs ds->gO K H (.ref a) (.list ds)
 |tup {a:Addr}{xs:Ζ}{ds:List PyData} : SqT K H a xs->d7 K H xs ds->gO K H (.ref a) (.tuple ds)
inductive d7(K:Frag)(H:Hp):Ζ->List PyData->Prop
 |nil:d7 K H [] []
 |cons {x:V}{xs:Ζ}{d:PyData}{ds:List PyData} : gO K H x d->d7 K H xs ds->d7 K H (x::xs) (d::ds)
end
mutual
theorem gO.same{K:Frag}{H H':Hp}(S:Same H H'):∀{x:V}{d:PyData},gO K H x d->gO K H' x d
 |_,_,.non=>.non
 |_,_,.bl b=>.bl b
 |_,_,.int i=>.int i
 |_,_,.str x=>.str x
 |_,_,.lst e h=>.lst (S _ _ e) (d7.same S h)
 |_,_,.tup e h=>.tup (S.tup e) (d7.same S h)
theorem d7.same{K:Frag}{H H':Hp}(S:Same H H'):∀{xs:Ζ}{ds:List PyData},d7 K H xs ds->d7 K H' xs ds
 |_,_,.nil=>.nil
 |_,_,.cons h t=>.cons (gO.same S h) (d7.same S t)
end
section
variable{X:Cx}{aa:Δ}{σ:L2.St}{H:Hp}{s:Shared}
mutual
theorem Inv.readsK(I:Inv X aa σ H s):∀{x:V}{d:PyData}{v:Value},gO X.K H x d->RelV x v->∃as,Reads s.heap v d as
 |_,_,_,.non,r=>by cases r;exact⟨_,.none⟩
 |_,_,_,.bl b,r=>by cases r;exact⟨_,.bool b⟩
 |_,_,_,.int i,r=>by obtain⟨t,rfl⟩:=r;exact⟨_,.int i t⟩
 |_,_,_,.str x,r=>by obtain⟨t,rfl⟩:=r;exact⟨_,.str x t⟩
 |_,_,_,.lst e h,r=>by
  cases r;obtain⟨its,rv,⟨o,ho,hc,n,hd⟩⟩:=I.lstIs e;obtain⟨as,q⟩:=Inv.readsAllK I h rv;exact⟨_,.list ho hc hd q⟩
 |_,_,_,.tup e h,r=>by
  cases r;obtain⟨its,rv,⟨o,ho,hc,n,hd⟩,_⟩:=I.tuple e;obtain⟨as,q⟩:=Inv.readsAllK I h rv;exact⟨_,.tuple ho hc hd q⟩
theorem Inv.readsAllK(I:Inv X aa σ H s):∀{xs:Ζ}{ds:List PyData}{vs:Θ},d7 X.K H xs ds->Vals xs vs->∃as,ReadsAll s.heap vs ds as
 |_,_,_,.nil,r=>by cases r;exact⟨_,.nil⟩
 |_,_,_,.cons h t,r=>by
  cases r with
  |cons r1 r2 =>
   obtain⟨a,q1⟩:=Inv.readsK I h r1;obtain⟨b,q2⟩:=Inv.readsAllK I t r2;exact⟨_,.cons q1 q2⟩
end
def afF(K:Frag)(neg:Bool):R2:=λx y H Q=>∃d e,gO K H x d/\gO K H y e/\SeqAt.shaped d=true/\SeqAt.shaped e=true/\Q (.bl (if neg then !PyData.eqv d e else PyData.eqv d e)) H
theorem afJ(hu:X.A.units+64<cLine):OpR X (compareOp .Eq) (afF X.K false):=by
 intro aa s σ H x y v u Q I rx ry h;obtain⟨d,e,hd,he,sd,se,q⟩:=h;obtain⟨as,ra⟩:=I.readsK hd rx;obtain⟨bs,rb⟩:=I.readsK he ry;exact SeqAt.compareEq_shaped ra rb sd se hu ⟨.bl _,H,I,rfl,q⟩
theorem agq(hu:X.A.units+64<cLine):OpR X (compareOp .NotEq) (afF X.K true):=by
 intro aa s σ H x y v u Q I rx ry h;obtain⟨d,e,hd,he,sd,se,q⟩:=h;obtain⟨as,ra⟩:=I.readsK hd rx;obtain⟨bs,rb⟩:=I.readsK he ry;exact SeqAt.compareNe_shaped ra rb sd se hu ⟨.bl _,H,I,rfl,q⟩
end
section
variable{X:Cx}
def aee(K:Frag):Ζ->Hp->VK->Prop:=λxs H Q=>∃p T ys,xs=[.ref p,.ty T]/\T∈["bool","int","str","list","tuple","dict"]/\SqT K H p ys/\Q (.bl (Rt "tuple" T)) H
theorem Tr:jO X (.builtin "isinstance") (aee X.K):=by
 intro aa s σ H xs us Q I r h;obtain⟨p,T,ys,rfl,hT,hp,q⟩:=h;obtain⟨u,v,rfl,ru,rv⟩:=r.two;cases ru;cases rv;obtain⟨its,rvs,⟨o,ho,hc,n,hd⟩,_⟩:=I.tuple hp;refine kia_one (kitx_tuple (a:=p)) I.kIn ⟨o,ho,hc⟩ (Yr (K:=X.K) (t:="tuple") (by decide) hT) (λz=>nomatch z) λtk=>⟨.bl _,H,I.tok _,rfl,q⟩
end
def OkI(P:Program)(w:World)(K:Frag)(mg:Str->Ω)(base:Heap)(CX:CXT)(k:Nat)(f:Addr)(ps:Φ)(sp:Sp):Prop:=∃fd,gW P w K mg base CX k f fd ps sp/\Binds K fd ps []
def Bw(K:Frag)(x ai:Str)(st:Stmt)(ps:Φ)(f:Addr):Prop:=∃fd,Fun K x ai st f fd/\∀us:Θ,us.length=ps.length->bindArgs fd ⟨us,[]⟩=pure (ps.zip us)
theorem Bw.ok{P:Program}{w:World}{K:Frag}{mg:Str->Ω}{base:Heap}{CX:CXT}{k:Nat}{x ai:Str}{st:Stmt}{ps:Φ}{f:Addr}{sp:Sp}(h:Bw K x ai st ps f)(hf:∀fd,Fun K x ai st f fd->gW P w K mg base CX k f fd ps sp):OkI P w K mg base CX k f ps sp :=
 by obtain⟨fd,a,b⟩:=h;exact⟨fd,hf fd a,.all b⟩
theorem ael{K:Frag}{x ai:Str}{st:Stmt}{ps:Φ}{f:Addr}{oc:Value}{od an:Ξ}{d6:Array (Ω)}{kV bE pm af ct:Value}
 (l:K.lookup f=some ⟨oc,od,.func (PySem.W.fnOf x ai (j4 st) (gk st) (bI st) .none kV bE pm an af ct),d6⟩)(c:codeIn K af ai=true)(k:keepIn K (.ref f)=true)
 (hb:∀(kV bE pm:Value)(an:Ξ)(af ct:Value)(us:Θ),us.length=ps.length->bindArgs (PySem.W.fnOf x ai (j4 st) (gk st) (bI st) .none kV bE pm an af ct) ⟨us,[]⟩=pure (ps.zip us)):Bw K x ai st ps f :=
 ⟨_,acs l c k,hb kV bE pm an af ct⟩
section
variable{X:Cx}{k:Nat}{f C B:Addr}{ps:Φ}{sp:Sp}{x m:Str}{p pos ah:Pos}{e o:Expr}{es:List Expr}{ta:TE}{t:TA}{Ex:Value->Ξ->L2.St->Hp->Prop}
def aaJ(C:Addr)(m:Str)(sp:Sp)(ta:TE)(t:TA):TE:=λσ H Q=>ta σ H λx H1=>∃a dx fs,x=.ref a/\H1 a=some (.ins C dx fs)/\fs.lookup m=none/\t σ H1 λvs H2=>sp (x::vs) H2 Q E0
abbrev zw(X:Cx):=OkI X.prog X.w X.K X.mg X.base
theorem acu{pl:Sem Bool}(he:PE X o ta)(c:Cls X.K C)(hm:Meth X.K C m f)(G:zw X CX0 k f ps sp)(hr:eG k X.A)(ha:PA X (e::es) t)
 (cc:qo X e es:=by rfl)(bt:qh X pos es:=by rfl)
 (ht:eval (.Call (.Attribute o m ah) (e::es) [] pos) X.env=(do
   let ov <- eval o X.env
   standAt ah.atName
   let(f,first) <- holding [ov] (getMethod ov m pl)
   callWith pos f first (backTo pos (starEach (e::es) X.env)) (backToKw pos (keywordEach [] X.env))):=by rfl) :
  PE X (.Call (.Attribute o m ah) (e::es) [] pos) (aaJ C m sp ta t):=by
 obtain⟨fd,F,hb⟩:=G;refine(aeG (pl:=pl) he.mono c hm F hr hb .nil Nz ha.mono cc bt ht).imp λσ H Q h=>⟨_,h,?_⟩;rintro x H1 ⟨a,dx,fs,h1,h2,h3,h4⟩;refine⟨a,dx,fs,h1,h2,h3,_,h4,λvs H2 q=>?_⟩;show sp (x::(vs++[])) H2 Q E0;rw[List.append_nil];exact q
theorem ZQ{pl:Sem Bool}(he:PE X o ta)(c:Cls X.K C)(hm:Meth X.K C m f)(G:zw X CX0 k f ps sp)(hr:eG k X.A)
 (ht:eval (.Call (.Attribute o m ah) [] [] pos) X.env=(do
   let ov <- eval o X.env
   standAt ah.atName
   let(f,first) <- holding [ov] (getMethod ov m pl)
   callWith pos f first (backTo pos (starEach [] X.env)) (backToKw pos (keywordEach [] X.env))):=by rfl) :
  PE X (.Call (.Attribute o m ah) [] [] pos) (aaJ C m sp ta ahi):=by
 obtain⟨fd,F,hb⟩:=G;refine(aaE (pl:=pl) he.mono c hm F hr hb .nil Nz ht).imp λσ H Q h=>⟨_,h,?_⟩;rintro x H1 ⟨a,dx,fs,h1,h2,h3,h4⟩;exact⟨a,dx,fs,h1,h2,h3,h4⟩
theorem aar{D:Addr}{pos:Pos}(hg:Gl X x)(hm:X.mg x=some (.ref D))(hd:qk x:=by decide):PE X (.Name x pos) (tC (.ref D)):=Xl hg hm rfl hd
end
theorem Nu{h:Heap}{o ob:Obj}{b:Addr}(e:(h.push o).get? b=some ob)(hs:b≠h.objs.size):h.get? b=some ob:=by
 obtain⟨e1,e2⟩:=Heap.get?_some_iff.mp e;refine Heap.get?_some_iff.mpr ⟨?_,e2⟩;cases h;simpa[Heap.push,Array.getElem?_push,hs]using e1
section
variable{X:Cx}
theorem Uo:∀{ys:Φ}{vs:Θ},Vals (ys.map V.str) vs->StrsAre vs ys
 |[],_,h=>by cases h;exact .nil
 |y::ys,_,h=>by
  rw[List.map_cons]at h;cases h with
  |cons a b =>
   obtain⟨t,rfl⟩:=a;exact .cons y t (Uo b)
def rJoin:V->Ζ->Hp->VK->Prop:=λx vs H Q=>∃a l ys,x=.str a/\vs=[.ref l]/\H l=some (.lst (ys.map V.str))/\(ys.map (·.length)).sum+ys.length*a.length<=16777216/\Q (.str (Txt.join a ys)) H
theorem acW:MtM X "str.join" rJoin:=by
 intro aa s σ H x vs v us Q I rx rv h;obtain⟨a,l,ys,rfl,rfl,hl,hz,q⟩:=h;obtain⟨t,rfl⟩:=rx;obtain⟨u,rfl,ru⟩:=rv.one;cases ru;obtain⟨_,its,n,r,_,e⟩:=I.lstM hl;exact join_list ⟨_,e,rfl,n,rfl⟩ (by simpa using Uo r) hz λt' k=>⟨.str _,H,I.tok _,⟨_,rfl⟩,q⟩
end
section
variable{X:Cx}{be iter:Expr}{pos:Pos}{scope:Scope}{wi:TI}{te:TE}
theorem aaC{ext:Addr->List (Str×Addr)}{fn:Str->Bool}{i0:Nat}{y0:Str}{py b8:Pos}{xs N':Φ}{tg:Expr}{aS:List Expr}{gt:TG}{tc:TT}(E:Tv X scope xs ext fn)(hc:X.calm=true)(gp:MN xs X.N=N')(c5:scope.kind=.function)(db:∀y∈scope.names,y.2=.local->scope.names.lookup y.1=some .local)
 (cf:∀y∈scope.names,y.2=.free->X.env.kindOf y.1=some .cell\/X.env.kindOf y.1=some .free)(fm:∀y∈X.N,y∉xs->(relabel scope X.env).names.lookup y≠some .local)(hq:∀y∈X.N,y∈xs->(relabel scope X.env).names.lookup (hid y)=none)(hi:PI X tg iter wi)
 (hg:∀C s₀ H₀ ex pn,PG (X.compE ext fn N' scope xs C s₀ H₀ ex pn) tg gt)(ht:∀C s₀ H₀ ex pn,PTs (X.compE ext fn N' scope xs C s₀ H₀ ex pn) aS tc)(he:∀C s₀ H₀ ex pn,PE (X.compE ext fn N' scope xs C s₀ H₀ ex pn) be te)(fR:PG X (.Name y0 py) (Bl i0))(fI:swapsWith (.ListComp be [⟨tg,iter,aS,0⟩] scope pos) (some (.Name y0 py)) b8.line X.env=pure true)(hs:qV X iter) :
  PS X (.Assign [.Name y0 py] (.ListComp be [⟨tg,iter,aS,0⟩] scope pos) b8) (adX (uq wi xs.length gt tc te) (Bl i0)):=by
 intro aa s σ H D0 I h;have h:uq wi xs.length gt tc te σ H (λx H1=>Bl i0 x σ H1 D0.nx):=h;rw[exec_Assign_Name_used _ _ _ _ fI];refine ZU (wpAny_standAt (ZU ?_));show wpAny _ X.A (comprehension (.ListComp be [⟨tg,iter,aS,0⟩] scope pos) scope X.env _ (newList []) false (eval iter X.env) (some (assign (.Name y0 py) X.env)) >>= λ_=>_) _ _ s;refine ZU (wpAny_mono (Ny (use:=some (assign (.Name y0 py) X.env)) (post:=λ_ s'=>SP X aa D0 .next s') E hc gp c5 db cf fm hq hi hg ht he hs I h λC D Hc s6 m fl i7 I6 fC qn=>?_) (λ_ s' hq=>ZT (ZT hq)) λ_ _ e=>e);obtain⟨oc,es,ep,ho,mh,_⟩:=id i7;have I7:=I6.pinned (fp:=[C]) (λb hb=>by rw[YR.mp hb];exact fC) λb hb=>by
  rw[YR.mp hb];exact⟨oc,ho,λv z=>by rw[mh]at z;cases z⟩
 show wpAny _ X.A (assign (.Name y0 py) X.env _) _ _ s6;refine thn (fR _ s6 σ Hc (.ref D) _ D0.nx I7 rfl qn) λ_ s7 hP=>?_;obtain⟨σ7,H7,Z7,q7⟩:=hP;have pn7:=Z7.pin (C,oc) (aP _ (aP _ (rM (by simp) ho)));refine⟨m,i7.at' λo e=>?_,λh' h9=>⟨σ7,H7,Z7.unpinned.turned (it:=C) (h':=h') (t':=s7.toks) (λb o hb e=>(h9.2 b hb).trans e) pn7.2.1 fC.2.1 fC.2.2.2.1 fC.2.2.2.2.1 fC.2.2.2.2.2,q7⟩⟩;rw[ho]at e;cases e;exact pn7.1
end
section
variable{X:Cx}{aa:Δ}{σ:L2.St}{H:Hp}{s:Shared}{h':Heap}
theorem Inv.turnedL{t':Nat}{ch:Ψ}(I:Inv X aa σ H s)(k:∀b o,b∉ch->s.heap.get? b=some o->h'.get? b=some o)(hf:∀b∈ch,G4 X aa H b):Inv X aa σ H { s with heap:=h',toks:=t' }:=by
 have iL:∀b u,H b=some u->b∉ch:=λb u e z=>by rw[(hf b z).1]at e;cases e
 refine I.step (g':=s.gens) (d':=s.drawn) (ch:=ch) (λb hb=>⟨(hf b hb).2.2.2.1,(hf b hb).2.1,(hf b hb).2.2.2.2.1,(hf b hb).2.2.2.2.2⟩) (λb o _ _ hc e _=>k b o hc e) (λb o _ _ hc e _=>⟨o.slots,k b o hc e⟩) (λ_ _ _ _ n=>n) (λb o hc e=>⟨o,k b o hc e⟩) (λ_ _ e=>e) (λ_ _ _ e=>e) (λb ps e=>⟨#[],by rw[e];simp⟩) (λm hm=>?_) (λb u e=>?_) I.bare
 .obtain⟨o,es,ep,ho,r⟩:=hm;exact⟨o,es,ep,k _ o (λz=>(hf _ z).2.1 rfl) ho,r⟩
 .refine(I.hok b u e).stay (λc v hc q=>k c v ?_ q) (λ_ q=>q) λ_ _ q=>q;rcases hc with z|z
  .rw[z];exact iL b u e
  .exact iL c _ z
end
def Itz(a b:Addr):It:=⟨λi H=>∃xs ys,H a=some (.lst xs)/\H b=some (.lst ys)/\i<xs.length/\i<ys.length,λi H v H'=>∃xs ys x y t,H a=some (.lst xs)/\H b=some (.lst ys)/\xs[i]?=some x/\ys[i]?=some y/\H t=none/\v=.ref t/\H'=upd H t (.tup [x,y]),λi H=>∃xs ys,H a=some (.lst xs)/\H b=some (.lst ys)/\(xs.length<=i\/ys.length<=i)⟩
theorem p8{h g:Heap}{a l:Addr}{i:Nat}(x:h.IsListIter a l i)(k:∀o,h.get? a=some o->g.get? a=some o):g.IsListIter a l i:=by obtain⟨o,e,r⟩:=x;exact⟨o,k o e,r⟩
theorem Qc{xs:Ζ}{vs:Θ} : Vals xs vs->∀{i:Nat}{x:V},xs[i]?=some x->∃u,vs[i]?=some u/\RelV x u:=by
 intro h
 induction h with
 |nil=>intro i x e;cases e
 |cons a b ih =>
  intro i x e;cases i with
  |zero=>rw[List.getElem?_cons_zero]at e;cases e;exact⟨_,rfl,a⟩
  |succ i=>rw[List.getElem?_cons_succ]at e ⊢;exact ih e
theorem aat{P:Program}{w:World}{K:Frag}{b5:List Expr}{x1}{pos:Pos}(z TI TO i1 i2 l1 l2:Addr)(D:ZipApart z TI TO i1 i2 l1 l2) :
  Turn P w K (.Tuple b5 x1 pos) (Itz l1 l2) [z,TI,TO,i1,i2] z (λi h=>IsZip h z TI TO .none/\IsPair h TI (.ref i1) (.ref i2)/\(∃p q,IsPair h TO p q)/\h.IsListIter i1 l1 i/\h.IsListIter i2 l2 i) where
 mem:=by simp
 obj:=by
  rintro i h ⟨s1,s2,⟨p,q,s3⟩,⟨o4,s4,_,d4⟩,⟨o5,s5,_,d5⟩⟩ b hb;simp only[YU,VQ,or_false]at hb;rcases hb with rfl|rfl|rfl|rfl|rfl
  .exact⟨_,s1,λv e=>by cases e⟩
  .exact⟨_,s2,λv e=>by cases e⟩
  .exact⟨_,s3,λv e=>by cases e⟩
  .exact⟨_,s4,λv e=>by rw[d4]at e;cases e⟩
  .exact⟨_,s5,λv e=>by rw[d5]at e;cases e⟩
 keep:=λi h h' ⟨s1,s2,⟨p,q,s3⟩,s4,s5⟩ k=>⟨k z (by simp) _ s1,k TI (by simp) _ s2,⟨p,q,k TO (by simp) _ s3⟩,p8 s4 (k i1 (by simp)),p8 s5 (k i2 (by simp))⟩
 item:=by
  intro X hP hw hK hc i aa s σ H E I hf st hg;subst hP hw hK;obtain⟨s1,s2,⟨p,q,s3⟩,s4,s5⟩:=st;obtain⟨xs,ys,ha,hb,kR,lt2⟩:=hg;obtain⟨_,fg,n1,gd,le1,g1⟩:=I.lstM ha;obtain⟨_,iP,n2,kH,le2,g2⟩:=I.lstM hb;have ex:xs[i]?=some xs[i]:=aj kR;have ey:ys[i]?=some ys[i]:=aj lt2;obtain⟨u,hu,ru⟩:=Qc gd ex;obtain⟨v,hv,rv⟩:=Qc kH ey;refine wpAny_pyNext_zip_item D s1 s2 s3 s4 s5 (xs:=fg.toArray) (ys:=iP.toArray) ⟨_,g1,rfl,n1,rfl⟩ ⟨_,g2,rfl,n2,rfl⟩ (x:=u) (y:=v) (by simpa using hu) (by simpa using hv) λh' a1 a2 a3 a4 a5 a6 a7=>⟨_,rfl,?_⟩;refine wpAny_letOwnedTupleGo_zip a1 λh2 f8 sb=>?_;have nt:H s.heap.objs.size=none:=I.fresh;have I1:=I.laid (a:=s.heap.objs.size) (o:=.tup [xs[i],ys[i]]) (h':=s.heap.push { cls:=.type "tuple",data:=.seq #[u,v] }) (t':=s.toks) (λb q z=>aH _ z) (aG _)
   ⟨(by show 2<=sizeLine;decide),[u,v],.cons ru (.cons rv .nil),_,aW _ rfl,rfl,_,rfl⟩
  have nz:z≠s.heap.objs.size:=aQ (aK s1);have nO:TO≠s.heap.objs.size:=aQ (aK s3);have nI:TI≠s.heap.objs.size:=aQ (aK s2);have kP:i1≠s.heap.objs.size:=by obtain⟨o,e,_⟩:=s4;exact aQ (aK e)
  have n2':i2≠s.heap.objs.size:=by obtain⟨o,e,_⟩:=s5;exact aQ (aK e)
  have jv:∀b∈[z,TI,TO,i1,i2],upd H s.heap.objs.size (.tup [xs[i],ys[i]]) b=none:=by
   intro b hb;have f0:=(hf b hb).1;simp only[YU,VQ,or_false]at hb;rcases hb with rfl|rfl|rfl|rfl|rfl
   .exact(cD nz).trans f0
   .exact(cD nI).trans f0
   .exact(cD nO).trans f0
   .exact(cD kP).trans f0
   .exact(cD n2').trans f0
  have I2:=I1.turnedL (ch:=[z,TO,i1,i2]) (h':=h2) (t':=s.toks) (λb ob hb e=>by
   simp only[YU,VQ,or_false,not_or]at hb;obtain⟨b1,b2,b3,b4⟩:=hb;refine(sb.2 b b1).trans ?_;by_cases hs:b=s.heap.objs.size
   .subst hs;have e2:=aW s.heap (o:={ cls:=.type "tuple",data:=.seq #[u,v] }) rfl;have e:(s.heap.push { cls:=.type "tuple",data:=.seq #[u,v] }).get? s.heap.objs.size=some ob:=e;rw[e2]at e;cases e;exact a5
   .exact a7 b _ b1 b2 b3 b4 (Nu e hs)) λb hb=>by
    have gz:b∈[z,TI,TO,i1,i2]:=by
     simp only[YU,VQ,or_false]at hb ⊢;rcases hb with h|h|h|h<;>simp[h]
    exact⟨jv b gz,(hf b gz).2⟩
  have mv:∀c o,c≠z->h'.get? c=some o->h2.get? c=some o:=λc o n e=>(sb.2 c n).trans e;exact⟨.ref _,_,I2,rfl,⟨xs,ys,_,_,_,ha,hb,ex,ey,nt,rfl,rfl⟩,⟨f8,mv _ _ D.TIz (a7 _ _ D.TIz D.TITO D.TIi1 D.TIi2 s2),⟨_,_,mv _ _ D.TOz a2⟩,p8 a3 λo e=>mv _ _ D.i1z e,p8 a4 λo e=>mv _ _ D.i2z e⟩,jv⟩
 done:=by
  intro X hP hw hK hc i aa s σ H E I hf st hg;subst hP hw hK;obtain⟨s1,s2,⟨p,q,s3⟩,s4,s5⟩:=st;obtain⟨xs,ys,ha,hb,lt⟩:=hg;obtain⟨_,fg,n1,gd,le1,g1⟩:=I.lstM ha;obtain⟨_,iP,n2,kH,le2,g2⟩:=I.lstM hb;refine wpAny_pyNext_zip_end (I.ok.hd hc) D s1 s2 s3 s4 s5 (xs:=fg.toArray) (ys:=iP.toArray) ⟨_,g1,rfl,n1,rfl⟩ ⟨_,g2,rfl,n2,rfl⟩ (by simp;lia) λh' k=>⟨rfl,I.turnedL (ch:=[z,TO,i1,i2]) (t':=s.toks) (λb ob hb e=>?_) λb hb=>?_⟩
  .simp only[YU,VQ,or_false,not_or]at hb;exact k b ob hb.1 hb.2.1 hb.2.2.1 hb.2.2.2 e
  .exact hf b (by
    simp only[YU,VQ,or_false]at hb ⊢;rcases hb with h|h|h|h<;>simp[h])
 self:=λ_ _ _ _ _ ⟨s1,_⟩ h=>wpAny_pyIter_zip s1 h
section
variable{X:Cx}
theorem ZM(n l1 l2:Nat)(h1:l1<n)(h2:l2<n):ZipApart (n+4) (n+2) (n+3) n (n+1) l1 l2:=by
 constructor<;>first|exact aQ (by omega)|exact VT (by lia)
theorem acV(n b:Nat)(h:b=n+4\/b=n+2\/b=n+3\/b=n\/b=n+1):n<=b:=by lia
theorem boot_zip:bootBuiltins "zip"=some (.type "zip"):=by decide +kernel
def anD(ta:TA):TI:=λσ H R=>ta σ H λvs H1=>∃a b xs ys,vs=[.ref a,.ref b]/\H1 a=some (.lst xs)/\H1 b=some (.lst ys)/\R (Itz a b) H1
theorem afC{a b:Expr}{ta:TA}{b5:List Expr}{x1}{p pos aE:Pos}(hg:Gl X "zip")(hm:X.mg "zip"=none)(ha:PA X [a,b] ta)(hs:starEach [a,b] X.env=[(false,eval a X.env),(false,eval b X.env)]:=by rfl)(eT:starEach [b] X.env=[(false,eval b X.env)]:=by rfl) :
  PI X (.Tuple b5 x1 aE) (.Call (.Name "zip" p) [a,b] [] pos) (anD ta):=by
 intro aa s σ H R I h;refine Call_ (Cm I hg hm boot_zip (PyProof.Rows.callWith_type1 (thn (ha pos aa s σ H _ I h) λus s1 hP=>?_) (by rw[hs,eT]) (by rw[eT];rfl)));obtain⟨vs,H1,I1,r1,q1⟩:=hP;obtain⟨l1,l2,xs,ys,e,h1,h2,q⟩:=q1;subst e;obtain⟨u,v,rfl,ru,rv⟩:=r1.two;cases ru;cases rv;obtain⟨_,fg,n1,gd,le1,g1⟩:=I1.lstM h1;obtain⟨_,iP,n2,kH,le2,g2⟩:=I1.lstM h2;have z1:=aK g1;have z2:=aK g2;refine call_zip_2 (xs:=fg.toArray) (ys:=iP.toArray) ⟨_,g1,rfl,n1,rfl⟩ ⟨_,g2,rfl,n2,rfl⟩ λh' a1 a2 a3 a4 a5 a6 a7=>?_;refine wpAny_pyIter_zip a1 ?_;refine⟨_,[s1.heap.objs.size+4,s1.heap.objs.size+2,s1.heap.objs.size+3,s1.heap.objs.size,s1.heap.objs.size+1],_,Itz l1 l2,H1,rfl,I1.kept (t':=s1.toks) λb ob e=>a7 b ob e,aat _ _ _ _ _ l1 l2 (ZM _ _ _ z1 z2),⟨a1,a2,⟨_,_,a3⟩,a4,a5⟩,λb hb=>?_,q⟩;have gz:s1.heap.objs.size<=b:=by
  simp only[YU,VQ,or_false]at hb;exact acV _ _ hb
 exact I1.fpOk gz (I1.hok.fresh gz)
end
def rlb(sc scope:Scope):Scope:={ scope with names:=scope.names.map λ(n,k)=>if(k==NameKind.free&&sc.kind == .function&&sc.names.lookup n==some .cell)then(n,NameKind.cell)else(n,k) }
section
variable{X:Cx}
theorem Xg(c:Nat):∀(n:Nat)(acc:Array Nat),((List.replicate n #[c]).foldl (· ++ ·) acc).toList=acc.toList++List.replicate n c
 |0,acc=>by simp
 |n+1,acc=>by
  rw[List.replicate_succ,List.foldl_cons,Xg c n,Array.toList_append,Wp]
  rfl
def akS:R2:=λx y H Q=>∃c n,x=.str ⟨#[c]⟩/\y=.int n/\1<=n/\n<=1000/\∀z:Str,z.cps.toList=List.replicate n.toNat c->Q (.str z) H
theorem aey:OpR X (binaryOp .Mult) akS:=by
 intro aa s σ H x y v u Q I rx ry h;obtain⟨c,n,rfl,rfl,h0,h1,q⟩:=h;obtain⟨t,rfl⟩:=rx;obtain⟨t',rfl⟩:=ry;have hi:(⟨#[c]⟩ : Str).length=1:=rfl;have made:∀z:Str,z.cps.toList=List.replicate n.toNat c->(Made.str z).post (EP X aa σ Q) s:=λz hz=>⟨by
  have:z.length=n.toNat:=by
   show z.cps.size=_;rw[<- Array.length_toList,hz,aN]
  exact aL (show z.length<=1001 by lia) (by decide),.str z,H,I.tok _,⟨_,rfl⟩,q z hz⟩
 refine PySem.P.mul_str ?_ (λ_ _=>?_) (λ_ _=>?_) ?_
 .rw[Zp (by lia),Zp (by lia)];rfl
 .rw[hi];have:1<=(2^63-1:Int)/n:=Int.le_ediv_of_mul_le (by omega) (by lia);lia
 .rw[hi];unfold Builtin.Str.tooLong;exact Zp (by
   have:n.toNat<=1000:=by lia
   have e:1000<=sizeLine:=by decide
   lia)
 .split
  .lia
  .split
   .rename_i hc
    rw[hi]at hc;have e:n.toNat=1:=by
     simp at hc;lia
    refine⟨.str ⟨#[c]⟩,H,I,⟨t,rfl⟩,q _ ?_⟩;rw[e];rfl
   .refine made _ ?_;show((List.replicate n.toNat #[c]).foldl (· ++ ·) #[]).toList=_;rw[Xg];rfl
end
def Cx.compGC(X:Cx)(N':Φ)(scope:Scope)(x0:Str)(C:Addr)(s₀:Shared)(H₀:Hp)(ex:Ψ)(pn:Δ):Cx :=
 { X with env:=compEnvC scope ((x0,C+1)::v9 X.env.cells scope.names []) C X.env,N:=[x0]++N',s₀:=s₀,H₀:=H₀,outer:=X.stack,ex:=ex,fn:=λz=>z==x0,pn:=pn,xe:=λ_ _=>False }
theorem Ax{env:Env}{x0:Str} : ∀{names:List (Str×NameKind)}{y:Str},y≠x0->((names.map λ(n,k)=>if(k==NameKind.free&&env.scope.kind == .function&&env.kindOf n==some .cell)then(n,NameKind.cell)else(n,k)).lookup y=some .cell \/
  (names.map λ(n,k)=>if(k==NameKind.free&&env.scope.kind == .function&&env.kindOf n==some .cell)then(n,NameKind.cell)else(n,k)).lookup y=some .free)->(∀z∈names,z.2=.cell->z.1=x0)->(y,NameKind.free)∈names
 |[],y,_,h,_=>by rcases h with h|h<;>cases h
 |(n,k)::r,y,ny,h,hc=>by
  have ih:=@Ax env x0 r y ny;have dq:∀z∈r,z.2=.cell->z.1=x0:=λz hz=>hc z (aJ _ hz);simp only[List.map_cons]at h;by_cases hcond:(k==NameKind.free&&env.scope.kind == .function&&env.kindOf n==some .cell)=true
  .rw[ZY hcond]at h;have hk:k=.free:=by
    simp only[JP,beq_iff_eq]at hcond;exact hcond.1.1
   subst hk;simp only[List.lookup_cons]at h;cases hb:y==n with
   |true=>rw[show y=n by simpa using hb];exact aO
   |false=>rw[hb]at h;exact aJ _ (ih h dq)
  .rw[ZZ hcond]at h;simp only[List.lookup_cons]at h;cases hb:y==n with
   |true =>
    have e:y=n:=by simpa using hb
    rw[hb]at h;rcases h with h|h
    .cases h;exact absurd (e.trans (hc (n,.cell) aO rfl)) ny
    .cases h;rw[e];exact aO
   |false=>rw[hb]at h;exact aJ _ (ih h dq)
theorem Mg{M:Model}{A:Around}{E:Ε}{s:Shared}{scope:Scope}{globals:Addr}{bP:List (Str×Addr)}{ai:Str}{outer:Env}{x0:Str}{Q:Env->Shared->Prop}(fS:∀n acc,cellsFrom n scope.names acc=(x0,n)::acc)(fN:∀h,pushCells h scope.names=h.push { cls:=.type "cell",data:=.cell none })
 (hQ:∀g,g.Ns s.heap.objs.size (λx=>([] : List (Str×Value)).reverse.lookup x)->g.IsCell (s.heap.objs.size+1) none->(∀b o,s.heap.get? b=some o->g.get? b=some o)->Q (newEnv scope s.heap.objs.size globals ((x0,s.heap.objs.size+1)::bP) ai none .none (some outer) builtinsNs) { s with heap:=g,toks:=s.toks+([] : List (Str×Value)).length }) :
  wpAny M A (newFunctionEnv scope globals bP [] ai none .none (some outer)) Q E s:=by
 simp only[newFunctionEnv,Option.isSome_some,if_true];refine ZU (wpAny_alloc ?_);refine ZU (wpAny_layCells _ (λname kind cells=>by cases hkc:kind==NameKind.cell<;>simp[hkc]) _ _ _ _ ?_);rw[fS,fN];have z1:(s.heap.push { cls:=.type "dict",data:=.dict #[] }).objs.size=s.heap.objs.size+1:=Heap.size_push ..;show wpAny _ _ (forIn ([] : List (Str×Value)) _ _ >>= _) _ _ _;rw[List.forIn_nil];refine ZU (ZT (ZT ?_));have c1:=aW (s.heap.push { cls:=.type "dict",data:=.dict #[] }) (o:={ cls:=.type "cell",data:=.cell none }) rfl;rw[z1]at c1;show Q (newEnv scope s.heap.objs.size globals ((x0,(s.heap.push { cls:=.type "dict",data:=.dict #[] }).objs.size)::bP) ai none .none (some outer) builtinsNs) _;rw[z1];exact hQ _ ((Heap.Ns.new s.heap (.type "dict")).at' λo e=>aH _ e) ⟨_,c1,rfl⟩ λb o e=>aH _ (aH _ e)
theorem Xz{x0 y:Str}{d c:Addr}(e : [(x0,d)].lookup y=some c):y=x0/\c=d:=by
 rw[List.lookup_cons]at e;cases hy:y==x0 with
 |true=>rw[hy]at e;cases e;exact⟨by simpa using hy,rfl⟩
 |false=>rw[hy]at e;cases e
theorem ext1{X:Cx}{scope:Scope}{x0:Str}(fS:∀n acc,cellsFrom n scope.names acc=(x0,n)::acc)(fN:∀h,pushCells h scope.names=h.push { cls:=.type "cell",data:=.cell none })(mr:∀y∈scope.names,y.2=.cell->y.1=x0):Tv X scope [x0] (λC=>[(x0,C+1)]) (λz=>z==x0) :=
 ⟨λhQ=>Mg fS fN λg eJ hJ kg=>hQ g eJ (λy c e=>by rw[(Xz e).2];exact hJ) kg,λC y c e=>by rw[(Xz e).2];exact X0 _,λC y z c e1 e2=>(Xz e1).1.trans (Xz e2).1.symm,λC y e=>⟨C+1,by rw[beq_iff_eq.mp e];exact List.lookup_cons_self⟩,λC y e=>by
  rw[List.lookup_cons,beq_eq_false_iff_ne.mpr λz=>e (by rw[z];simp)]
  rfl,λC y e=>by
  by_cases ny:y=x0
  .exact .inl ⟨C+1,by rw[ny];exact List.lookup_cons_self⟩
  .exact .inr (Ax ny e mr)⟩
section
variable{X:Cx}
def akO:Ζ->Hp->VK->Prop:=λxs H Q=>∃(l:Addr)(bs:List Bool),xs=[.ref l]/\H l=some (.lst (bs.map V.bl))/\Q (.bl (bs.any id)) H
theorem wM:∀bs:List Bool,((List.range bs.length).any λi=>(bs[i]?).getD true)=bs.any id
 |[]=>rfl
 |b::bs=>by
  rw[List.length_cons,List.range_succ_eq_map,List.any_cons,List.any_map,List.any_cons];have:=wM bs;simp only[Function.comp_def,List.getElem?_cons_succ,List.getElem?_cons_zero,Option.getD_some,id]at this ⊢;rw[this]
theorem YK(hc:X.calm=true):jO X (.builtin "any") akO:=by
 intro aa s σ H xs us Q I r h;obtain⟨l,bs,rfl,hl,q⟩:=h;obtain⟨u,rfl,ru⟩:=r.one;cases ru;obtain⟨its,rv,p⟩:=I.lstIs hl;have fh:l<s.heap.objs.size:=by obtain⟨_,e,_⟩:=p;exact aK e
 refine call_any_walk (wpAny_pyIter_list p ?_);refine⟨s.heap.objs.size,[s.heap.objs.size,l],[s.heap.objs.size],its.toArray.size,_,_,λi=>(bs[i]?).getD true,rfl,Walks.list (A:=X.A.in1) (I.ok.hd hc) _ l (aQ fh) its.toArray,
  ⟨⟨_,aW _ rfl,rfl,rfl⟩,p.push _⟩,λi v s' Q' E' hP hQ=>?_,λh' tk hk=>?_⟩
 .obtain⟨b,e,rfl⟩:=FQ rv i v (by simpa using hP);simp only[e,Option.getD_some]at hQ;exact wpAny_truthy_bool hQ
 .have e:((List.range its.toArray.size).any λi=>(bs[i]?).getD true)=bs.any id:=by
   rw[aX,<- rv.length,ak];exact wM bs
  refine⟨.bl (bs.any id),H,I.kept (t':=tk) λb o q=>hk b o (λhm=>?_) (aH _ q),?_,q⟩
  .rw[YR.mp hm]at q;exact X2 _ (aK q)
  .rw[e];rfl
end
def Ite(l:Addr):It:=⟨λi H=>∃xs,H l=some (.lst xs)/\i<xs.length,λi H v H'=>∃xs x t,H l=some (.lst xs)/\xs[i]?=some x/\H t=none/\v=.ref t/\H'=upd H t (.tup [.int i,x]),λi H=>∃xs,H l=some (.lst xs)/\xs.length<=i⟩
theorem Yw{P:Program}{w:World}{K:Frag}{b5:List Expr}{x1}{pos:Pos}(e it l:Addr)(eK:e≠it) :
  Turn P w K (.Tuple b5 x1 pos) (Ite l) [e,it] e (λi h=>(∃old,IsEnum h e it ((i:Nat):Int) old)/\h.IsListIter it l i) where
 mem:=by simp
 obj:=by
  rintro i h ⟨⟨old,s1⟩,⟨o4,s4,_,d4⟩⟩ b hb;simp only[YU,VQ,or_false]at hb;rcases hb with rfl|rfl
  .exact⟨_,s1,λv e=>by cases e⟩
  .exact⟨_,s4,λv e=>by rw[d4]at e;cases e⟩
 keep:=λi h h' ⟨⟨old,s1⟩,s4⟩ k=>⟨⟨old,k e (by simp) _ s1⟩,p8 s4 (k it (by simp))⟩
 item:=by
  intro X hP hw hK hc i aa s σ H E I hf st hg;subst hP hw hK;obtain⟨⟨old,s1⟩,s4⟩:=st;obtain⟨xs,ha,kR⟩:=hg;obtain⟨_,fg,n1,gd,le1,g1⟩:=I.lstM ha;have ex:xs[i]?=some xs[i]:=aj kR;obtain⟨u,hu,ru⟩:=Qc gd ex;refine wpAny_pyNext_enum_item s1 s4 (items:=fg.toArray) ⟨_,g1,rfl,n1,rfl⟩ (x:=u) (by simpa using hu) eK λh' a1 a3 a5 a6 a7=>⟨_,rfl,?_⟩;refine wpAny_letOwnedTupleGo_enum a1 λh2 f8 sb=>?_;have nt:H s.heap.objs.size=none:=I.fresh;have I1:=I.laid (a:=s.heap.objs.size) (o:=.tup [.int i,xs[i]]) (h':=s.heap.push { cls:=.type "tuple",data:=.seq #[.int i s.toks,u] }) (t':=s.toks+1) (λb q z=>aH _ z) (aG _)
   ⟨(by show 2<=sizeLine;decide),[.int i s.toks,u],.cons ⟨_,rfl⟩ (.cons ru .nil),_,aW _ rfl,rfl,_,rfl⟩
  have nz:e≠s.heap.objs.size:=aQ (aK s1);have kP:it≠s.heap.objs.size:=by obtain⟨o,e,_⟩:=s4;exact aQ (aK e)
  have jv:∀b∈[e,it],upd H s.heap.objs.size (.tup [.int i,xs[i]]) b=none:=by
   intro b hb;have f0:=(hf b hb).1;simp only[YU,VQ,or_false]at hb;rcases hb with rfl|rfl
   .exact(cD nz).trans f0
   .exact(cD kP).trans f0
  have I2:=I1.turnedL (ch:=[e,it]) (h':=h2) (t':=s.toks+1) (λb ob hb z=>by
   simp only[YU,VQ,or_false,not_or]at hb;obtain⟨b1,b3⟩:=hb;refine(sb.2 b b1).trans ?_;by_cases hs:b=s.heap.objs.size
   .subst hs;have e2:=aW s.heap (o:={ cls:=.type "tuple",data:=.seq #[.int i s.toks,u] }) rfl;have z:(s.heap.push { cls:=.type "tuple",data:=.seq #[.int i s.toks,u] }).get? s.heap.objs.size=some ob:=z;rw[e2]at z;cases z;exact a5
   .exact a7 b _ b1 b3 (Nu z hs)) λb hb=>⟨jv b hb,(hf b hb).2⟩
  have mv:∀c o,c≠e->h'.get? c=some o->h2.get? c=some o:=λc o n z=>(sb.2 c n).trans z;exact⟨.ref _,_,I2,rfl,⟨xs,_,_,ha,ex,nt,rfl,rfl⟩,⟨⟨_,by rw[Int.natCast_add];exact f8⟩,p8 a3 λo z=>mv _ _ (λy=>eK y.symm) z⟩,jv⟩
 done:=by
  intro X hP hw hK hc i aa s σ H E I hf st hg;subst hP hw hK;obtain⟨⟨old,s1⟩,s4⟩:=st;obtain⟨xs,ha,lt⟩:=hg;obtain⟨_,fg,n1,gd,le1,g1⟩:=I.lstM ha;have hl:=gd.length;refine wpAny_pyNext_enum_end (I.ok.hd hc) s1 s4 (items:=fg.toArray) ⟨_,g1,rfl,n1,rfl⟩ (by simp;lia) λh' k=>⟨rfl,I.turnedL (ch:=[e,it]) (t':=s.toks) (λb ob hb z=>?_) hf⟩;simp only[YU,VQ,or_false,not_or]at hb;exact k b ob hb.2 z
 self:=λ_ _ _ _ _ ⟨⟨_,s1⟩,_⟩ h=>wpAny_pyIter_enum s1 h
section
variable{X:Cx}
def ai8(ta:TA):TI:=λσ H R=>ta σ H λvs H1=>∃a xs,vs=[.ref a]/\H1 a=some (.lst xs)/\R (Ite a) H1
theorem ac8{a:Expr}{ta:TA}{b5:List Expr}{x1}{p pos aE:Pos}(hg:Gl X "enumerate")(hm:X.mg "enumerate"=none)(ha:PA X [a] ta)(hs:starEach [a] X.env=[(false,eval a X.env)]:=by rfl) :
  PI X (.Tuple b5 x1 aE) (.Call (.Name "enumerate" p) [a] [] pos) (ai8 ta):=by
 intro aa s σ H R I h;refine Call_ (Cm I hg hm boot_enumerate (PyProof.Rows.callWith_type1 (thn (ha pos aa s σ H _ I h) λus s1 hP=>?_) (by rw[hs];rfl) (by rfl)));obtain⟨vs,H1,I1,r1,q1⟩:=hP;obtain⟨l1,xs,e,h1,q⟩:=q1;subst e;obtain⟨u,rfl,ru⟩:=r1.one;cases ru;obtain⟨_,fg,n1,gd,le1,g1⟩:=I1.lstM h1;refine call_enumerate_list (items:=fg.toArray) ⟨_,g1,rfl,n1,rfl⟩ λh' a1 a2 a3 a7=>?_;refine wpAny_pyIter_enum a1 ?_;refine⟨_,[s1.heap.objs.size+1,s1.heap.objs.size],_,Ite l1,H1,rfl,I1.kept (t':=s1.toks) λb ob e=>a7 b ob e,Yw _ _ l1 (Nat.succ_ne_self _),⟨⟨_,a1⟩,a2⟩,λb hb=>?_,q⟩;have gz:s1.heap.objs.size<=b:=by
  simp only[YU,VQ,or_false]at hb;rcases hb with z|z
  .rw[z];exact Xs _
  .rw[z];exact aG _
 exact I1.fpOk gz (I1.hok.fresh gz)
end
section
variable{X:Cx}{p pos:Pos}{e:Expr}{es:List Expr}{t:TA}{tv:TE}{x:Str}{k:Nat}{ps:Φ}{sp:Sp}{f:Addr}
def OkV(P:Program)(w:World)(K:Frag)(mg:Str->Ω)(base:Heap)(k:Nat)(f:Addr)(ps:Φ)(sp:Sp):Prop:=∃fd,gW P w K mg base CX0 k f fd ps sp/\Binds K fd ps []/\keepIn K (.ref f)=true
theorem OkF.val{P:Program}{w:World}{K:Frag}{mg:Str->Ω}{base:Heap}(G:OkF P w K mg base k x ps sp):∃f,mg x=some (.ref f)/\OkV P w K mg base k f ps sp :=
 let⟨f,fd,F,b,hm,kp⟩:=G
 ⟨f,hm,fd,F,b,kp⟩
def agJ(f:Addr)(sp:Sp)(tv:TE)(t:TA):TE:=λσ H Q=>tv σ H λv H0=>v=.ref f/\t σ H0 λvs H1=>sp vs H1 Q E0
theorem Z2(G:OkV X.prog X.w X.K X.mg X.base k f ps sp)(hr:eG k X.A)(hv:PE X (.Name x p) tv)(ha:PA X (e::es) t)
 (he:qo X e es:=by rfl)(bt:qh X pos es:=by rfl):PE X (.Call (.Name x p) (e::es) [] pos) (agJ f sp tv t):=by
 obtain⟨fd,F,b,hk⟩:=G;intro aa s σ H Q I h;refine wpAny_Call_Name_kw (thn (hv aa s σ H _ I h) ?_);rintro u s0 ⟨v,H0,I0,r0,rfl,q0⟩;cases r0;refine callWith_K (h₀:=X.base) I0.ok.mod.kin hk (thn (ha pos aa s0 σ H0 _ I0 q0) λus s1 ⟨vs,H1,I1,r,q⟩=>⟨I1.kIn,?_⟩) he bt;refine JZ F hr b .nil Nz I1 r ?_;rw[List.append_nil];exact q
end
abbrev aiw(C t:Addr)(d:Ξ):Obj:={ cls:=.ref C,dict:=d,data:=.fields #[.ref t,.none,.none,.none,.bool false,.none] }
def XN(a C:Addr)(d:Ξ):HO:=.ext λh=>∃t,h.get? a=some (aiw C t d)
def out(H:Hp)(a:Addr):Hp:=λb=>if b=a then none else H b
theorem fsc{N P:Φ}{sc:Scope}(h1:sc.kind=.function:=by rfl)(h2:sc.isCoroutine=false:=by rfl)(h3:sc.isGenerator=false:=by rfl)(h4:N.Nodup/\(∀x∈P,sc.names.lookup x=some .local\/sc.names.lookup x=some .cell)/\∀y∈sc.names,y.2≠.free:=by decide +kernel)(h5:N.take P.length=P:=by rfl):bM N P sc:=⟨h1,h2,h3,h4.1,h5,h4.2.1,h4.2.2⟩
abbrev CK0(sc scope:Scope)(N N' xs:Φ):Prop:=MN xs N=N'/\(∀y∈scope.names,y.2=.local->scope.names.lookup y.1=some .local)/\(∀y∈scope.names,y.2=.free->sc.names.lookup y.1=some .cell\/sc.names.lookup y.1=some .free) /\
 (∀y∈N,y∉xs->(scope.names.map λ(n,k)=>if(k==NameKind.free&&sc.kind == .function&&sc.names.lookup n==some .cell)then(n,NameKind.cell)else(n,k)).lookup y≠some .local)/\∀y∈N,y∈xs->(scope.names.map λ(n,k)=>if(k==NameKind.free&&sc.kind == .function&&sc.names.lookup n==some .cell)then(n,NameKind.cell)else(n,k)).lookup (hid y)=none
abbrev CK(sc scope:Scope)(N N' xs:Φ):Prop:=(∀y∈scope.names,y.2≠.cell)/\CK0 sc scope N N' xs
section
variable{X:Cx}{be iter tg:Expr}{pos:Pos}{scope:Scope}{wi:TI}{te:TE}{aS:List Expr}{gt:TG}{tc:TT}
theorem acv(sc:Scope)(N N' xs:Φ)(hi:PI X tg iter wi)(hg:∀{C s₀ H₀ ex pn},PG (X.compG N' scope xs C s₀ H₀ ex pn) tg gt)(ht:∀{C s₀ H₀ ex pn},PTs (X.compG N' scope xs C s₀ H₀ ex pn) aS tc)(he:∀{C s₀ H₀ ex pn},PE (X.compG N' scope xs C s₀ H₀ ex pn) be te)
 (cy:X.env.scope=sc:=by rfl)(cK:X.N=N:=by rfl)(hc:X.calm=true:=by rfl)(hk:scope.kind=.function:=by rfl)(h:CK sc scope N N' xs:=by decide +kernel)(hs:qV X iter:=by intro _;rfl):PE X (.ListComp be [⟨tg,iter,aS,0⟩] scope pos) (uq wi xs.length (tMG gt) (tMT tc) (tM te)) :=
 by
 subst cy cK;exact S9 (alW hk h.1) hc h.2.1 hk h.2.2.1 h.2.2.2.1 h.2.2.2.2.1 h.2.2.2.2.2 hi (λ_ _ _ _ _=>hg.mono) (λ_ _ _ _ _=>ht.mono) (λ_ _ _ _ _=>he.mono) hs
theorem acA{i0:Nat}{y0:Str}{py b8:Pos}(sc:Scope)(N N' xs:Φ)(hi:PI X tg iter wi)(hg:∀{C s₀ H₀ ex pn},PG (X.compG N' scope xs C s₀ H₀ ex pn) tg gt)(ht:∀{C s₀ H₀ ex pn},PTs (X.compG N' scope xs C s₀ H₀ ex pn) aS tc)(he:∀{C s₀ H₀ ex pn},PE (X.compG N' scope xs C s₀ H₀ ex pn) be te)(fR:PG X (.Name y0 py) (Bl i0))
 (cy:X.env.scope=sc:=by rfl)(cK:X.N=N:=by rfl)(hc:X.calm=true:=by rfl)(hk:scope.kind=.function:=by rfl)(h:CK sc scope N N' xs:=by decide +kernel)(fI:swapsWith (.ListComp be [⟨tg,iter,aS,0⟩] scope pos) (some (.Name y0 py)) b8.line X.env=pure true:=by rfl)(hs:qV X iter:=by intro _;rfl) :
  PS X (.Assign [.Name y0 py] (.ListComp be [⟨tg,iter,aS,0⟩] scope pos) b8) (adX (uq wi xs.length (tMG gt) (tMT tc) (tM te)) (Bl i0)) :=
 by
 subst cy cK;exact aaC (alW hk h.1) hc h.2.1 hk h.2.2.1 h.2.2.2.1 h.2.2.2.2.1 h.2.2.2.2.2 hi (λ_ _ _ _ _=>hg.mono) (λ_ _ _ _ _=>ht.mono) (λ_ _ _ _ _=>he.mono) fR fI hs
theorem abq(sc:Scope)(N N':Φ)(x0:Str)(hi:PI X tg iter wi)(hg:∀{C s₀ H₀ ex pn},PG (X.compGC N' scope x0 C s₀ H₀ ex pn) tg gt)(ht:∀{C s₀ H₀ ex pn},PTs (X.compGC N' scope x0 C s₀ H₀ ex pn) aS tc)(he:∀{C s₀ H₀ ex pn},PE (X.compGC N' scope x0 C s₀ H₀ ex pn) be te)
 (cy:X.env.scope=sc:=by rfl)(cK:X.N=N:=by rfl)(hc:X.calm=true:=by rfl)(hk:scope.kind=.function:=by rfl)(fS:∀n acc,cellsFrom n scope.names acc=(x0,n)::acc:=by intro _ _;rfl)(fN:∀h,pushCells h scope.names=h.push { cls:=.type "cell",data:=.cell none }:=by intro _;rfl)(h:(∀y∈scope.names,y.2=.cell->y.1=x0)/\CK0 sc scope N N' [x0]:=by decide +kernel)(hs:qV X iter:=by intro _;rfl):PE X (.ListComp be [⟨tg,iter,aS,0⟩] scope pos) (uq wi 1 (tMG gt) (tMT tc) (tM te)):=by
 subst cy cK;exact S9 (ext1 fS fN h.1) hc h.2.1 hk h.2.2.1 h.2.2.2.1 h.2.2.2.2.1 h.2.2.2.2.2 hi (λ_ _ _ _ _=>hg.mono) (λ_ _ _ _ _=>ht.mono) (λ_ _ _ _ _=>he.mono) hs
theorem afu{N0:Φ}{x0:Str}{sO:Scope}{C0:Addr}{s0:Shared}{H0:Hp}{cr:Ψ}{b9:Δ}(sc:Scope)(N N' xs:Φ)(hi:PI (X.compGC N0 sO x0 C0 s0 H0 cr b9) tg iter wi)(hg:∀{C s₀ H₀ ex pn},PG ((X.compGC N0 sO x0 C0 s0 H0 cr b9).compG N' scope xs C s₀ H₀ ex pn) tg gt)(ht:∀{C s₀ H₀ ex pn},PTs ((X.compGC N0 sO x0 C0 s0 H0 cr b9).compG N' scope xs C s₀ H₀ ex pn) aS tc)(he:∀{C s₀ H₀ ex pn},PE ((X.compGC N0 sO x0 C0 s0 H0 cr b9).compG N' scope xs C s₀ H₀ ex pn) be te)
 (cy:X.env.scope=sc:=by rfl)(cK : [x0]++N0=N:=by rfl)(hc:X.calm=true:=by rfl)(hk:scope.kind=.function:=by rfl)(h:CK (rlb sc sO) scope N N' xs:=by decide +kernel)(hs:∀z,foldedSetIterable iter (X.compGC N0 sO x0 C0 s0 H0 cr b9).env z=pure z:=by intro _;rfl):PE (X.compGC N0 sO x0 C0 s0 H0 cr b9) (.ListComp be [⟨tg,iter,aS,0⟩] scope pos) (uq wi xs.length (tMG gt) (tMT tc) (tM te)):=by
 subst cy cK;exact acv (X:=X.compGC N0 sO x0 C0 s0 H0 cr b9) (rlb X.env.scope sO) _ N' xs hi hg ht he rfl rfl hc hk h hs
end
theorem alX{K:Frag}{a:Addr}{i j:Int}{d:Ξ}{n:Nat}{sl:Array (Ω)}{t u:Tok}(l:K.lookup a=some ⟨.type "tuple",d,.seq #[.int i t,.int j u] n,sl⟩):∀H,SqT K H a [.int i,.int j]:=λH=>.inr ⟨_,_,_,l,rfl,rfl,(by show 2<=sizeLine;decide),.cons ⟨_,rfl⟩ (.cons ⟨_,rfl⟩ .nil)⟩
theorem amh{K:Frag}{h:Heap}{mg:Str->Ω}{x:Str}{i:Int}{t:Tok}(X:K.In h)(G:h.Ns mainGlobals mg)(l:nsIn K mainGlobals x=some (some (.int i t))):∃u,mg x=some u/\RelV (.int i) u:=⟨_,mg_of X G l,_,rfl⟩
def Lst:Nat->(Θ->Prop)->Prop
 |0,P=>P []
 |n+1,P=>∀a,Lst n λl=>P (a::l)
theorem Rq:∀(n:Nat){P:Θ->Prop},Lst n P->∀us:Θ,us.length=n->P us
 |0,_,h,[],_=>h
 |n+1,_,h,a::l,e=>Rq n (h a) l (Nat.succ.inj e)
section
variable{K:Frag}{h:Heap}{mg:Str->Ω}{x m ai:Str}{v:Value}{C f:Addr}{st:Stmt}{ps:Φ}{oc:Value}{od an:Ξ}{d6:Array (Ω)}{kV bE pm af ct:Value}{i j:Int}{d:Ξ}{n:Nat}{sl:Array (Ω)}{t u:Tok}
theorem q_c(X:K.In h:=by assumption)(G:h.Ns mainGlobals mg:=by assumption)(e:nsIn K mainGlobals x=some (some v):=by k_is):mg x=some v:=mg_of X G e
theorem q_z(X:K.In h:=by assumption)(G:h.Ns mainGlobals mg:=by assumption)(e:nsIn K mainGlobals x=some none:=by k_is):mg x=none:=PySem.W.mg_none_of X G e
theorem q_n(e:findIn K (.ref C) x=some none:=by k_is):cB K C x:=e
theorem q_m(a:findIn K (.ref C) m=some (some (.ref f)):=by k_is)(b:isFn K (.ref f)=true:=by k_is)(c:keepIn K (.ref f)=true:=by k_is):Meth K C m f:=⟨a,b,c⟩
theorem q_M(a:makesIn K C=true:=by k_is)(b:findIn K (.ref C) "__init__"=some (some (.ref f)):=by k_is)(c:isFn K (.ref f)=true:=by k_is)(e:keepIn K (.ref C)=true:=by k_is):Mk K C f:=⟨a,b,c,e⟩
theorem q_4(a:plainGet K C Str.empty=true:=by k_is)(b:hasDictIn K C=true:=by k_is)(c:plainOver K C=true:=by k_is)(e:findIn K (.ref C) "__setattr__"=some (some (.builtin "object.__setattr__")):=by k_is):Cls K C:=⟨a,b,c,e⟩
theorem q_B(a:specialIn K (.ref C) "__getattribute__"=some (some (.builtin "type.__getattribute__")):=by k_is)(b:readsIn K C (.type "type")=true:=by k_is)(c:findCls K (.ref C) (.type "type") m=some (.val (.ref f)):=by k_is)(e:keepIn K (.ref f)=true:=by k_is):GZ K C m f:=⟨a,b,c,rfl,e⟩
theorem q_g(X:K.In h:=by assumption)(G:h.Ns mainGlobals mg:=by assumption)(l:nsIn K mainGlobals x=some (some (.int i t)):=by k_is):∃u,mg x=some u/\RelV (.int i) u:=amh X G l
theorem q_t(l:K.lookup C=some ⟨.type "tuple",d,.seq #[.int i t,.int j u] n,sl⟩:=by k_is):∀H,SqT K H C [.int i,.int j]:=alX l
theorem q_f(hb:∀(kV bE pm:Value)(an:Ξ)(af ct:Value),Lst ps.length λus=>bindArgs (PySem.W.fnOf x x (j4 st) (gk st) (bI st) .none kV bE pm an af ct) ⟨us,[]⟩=pure (ps.zip us):=by repeat (first|rfl|intro _))(X:K.In h:=by assumption)(G:h.Ns mainGlobals mg:=by assumption)
 (a:nsIn K mainGlobals x=some (some (.ref f)):=by k_is)(l:K.lookup f=some ⟨oc,od,.func (PySem.W.fnOf x x (j4 st) (gk st) (bI st) .none kV bE pm an af ct),d6⟩:=by k_is)
 (c:codeIn K af x=true:=by k_is)(k:keepIn K (.ref f)=true:=by k_is):cI K mg x st ps:=acQ X G a l c k λkV bE pm an af ct us e=>Rq _ (hb kV bE pm an af ct) us e
theorem q_h(hb:∀(kV bE pm:Value)(an:Ξ)(af ct:Value),Lst ps.length λus=>bindArgs (PySem.W.fnOf x ai (j4 st) (gk st) (bI st) .none kV bE pm an af ct) ⟨us,[]⟩=pure (ps.zip us):=by repeat (first|rfl|intro _))
 (l:K.lookup f=some ⟨oc,od,.func (PySem.W.fnOf x ai (j4 st) (gk st) (bI st) .none kV bE pm an af ct),d6⟩:=by k_is)(c:codeIn K af ai=true:=by k_is)(k:keepIn K (.ref f)=true:=by k_is):Bw K x ai st ps f:=ael l c k λkV bE pm an af ct us e=>Rq _ (hb kV bE pm an af ct) us e
end
section
variable{X:Cx}{es:List Expr}{t:TA}{pos:Pos}
def al1:R2:=λx y H Q=>∃l b xs zs,x=.ref l/\y=.ref b/\H l=some (.lst xs)/\H b=some (.lst zs)/\xs.length+zs.length<=sizeLine/\∀p H',Same H H'->H p=none->H' p=some (.lst (xs++zs))->Q (.ref p) H'
theorem aeN:OpR X (binaryOp .Add) al1:=agP.imp λx y H Q hP=>by obtain⟨l,b,xs,zs,e1,e2,h1,h2,z,q⟩:=hP;exact⟨l,b,xs,zs,e1,e2,h1,h2,z,λp hp=>q p _ (Same.upd hp) hp cL⟩
end
section
variable{X:Cx}{k:Nat}{f C B:Addr}{ps:Φ}{sp:Sp}{x m:Str}{p pos ah:Pos}{e:Expr}{es:List Expr}{t:TA}
def ags(C:Addr)(sp:Sp)(t:TA):TE:=λσ H Q=>t σ H λvs H1=>∀x dx,H1 x=none->H1 dx=none->dx≠x->sp (.ref x::vs) (upd (upd H1 dx (.own x)) x (.ins C dx [])) (λv H2=>v=.non/\Q (.ref x) H2) E0
theorem Z_(M:Mk X.K C f)(G:zw X CX0 k f ps sp)(hr:eG (k+1) X.A)(hg:Gl X x)(hm:X.mg x=some (.ref C))(ha:PA X (e::es) t)(ci:qk x:=by decide)
 (he:qo X e es:=by rfl)(bt:qh X pos es:=by rfl):PE X (.Call (.Name x p) (e::es) [] pos) (ags C sp t):=by
 obtain⟨fd,F,hb⟩:=G;refine(aeI M F hr hg hm hb .nil Nz ha.mono ci he bt).imp λσ H Q h=>⟨_,h,λvs H1 q x dx h1 h2 h3=>?_⟩;rw[List.append_nil];exact q x dx h1 h2 h3
theorem aaX{pl:Sem Bool}(c:GZ X.K B m f)(G:zw X CX0 k f ps sp)(hr:eG k X.A)(hg:Gl X x)(hm:X.mg x=some (.ref B))(ha:PA X (e::es) t)(ci:qk x:=by decide)
 (cc:qo X e es:=by rfl)(bt:qh X pos es:=by rfl)
 (ht:eval (.Call (.Attribute (.Name x p) m ah) (e::es) [] pos) X.env=(do
   let ov <- eval (.Name x p) X.env
   standAt ah.atName
   let(f,first) <- holding [ov] (getMethod ov m pl)
   callWith pos f first (backTo pos (starEach (e::es) X.env)) (backToKw pos (keywordEach [] X.env))):=by rfl) :
  PE X (.Call (.Attribute (.Name x p) m ah) (e::es) [] pos) (Vn sp t):=by
 obtain⟨fd,F,hb⟩:=G;exact aeF (pl:=pl) c F hr hg hm hb ha ci cc bt ht
end
inductive T where
 |any|non|bl (b:Bool)|int (i:Int)|str (s:Str)|val (v:V)
 |tup (ts:List T)|lst (ts:List T)|scr (ts:List T)
 |dct (ks:List Key) (ts:List T)|ins (C:Addr) (ks:Φ) (ts:List T)|exc (C:Addr) (ks:Φ) (ts:List T)
def aeo(F:Hp):Ξ->List (Str×V)->Prop
 |none,l=>l=[]
 |some d,l=>F d=some (.xd l)
mutual
inductive Rep(K:Frag)(F:Hp):V->T->Prop
 |any (v:V):Rep K F v .any
 |non:Rep K F .non .non
 |bl (b:Bool):Rep K F (.bl b) (.bl b)
 |int (i:Int):Rep K F (.int i) (.int i)
 |str (s:Str):Rep K F (.str s) (.str s)
 |val (v:V):Rep K F v (.val v)
 |tup {a:Addr}{xs:Ζ}{ts:List T} : SqT K F a xs->cu K F xs ts->Rep K F (.ref a) (.tup ts)
 |lst {a:Addr}{xs:Ζ}{ts:List T} : F a=some (.lst xs)->cu K F xs ts->Rep K F (.ref a) (.lst ts)
 |scr {a:Addr}{xs:Ζ}{ts:List T} : SqL K F a xs->cu K F xs ts->Rep K F (.ref a) (.scr ts)
 |dct {a:Addr}{ks:List Key}{xs:Ζ}{ts:List T} : Rd F a (.dK (ks.zip xs))->ks.length=xs.length->cu K F xs ts->Rep K F (.ref a) (.dct ks ts)
 |ins {a C dx:Addr}{ks:Φ}{xs:Ζ}{ts:List T} : F a=some (.ins C dx (ks.zip xs))->F dx=some (.own a)->ks.length=xs.length->cu K F xs ts->Rep K F (.ref a) (.ins C ks ts)
 |exc {a C:Addr}{d:Ξ}{ks:Φ}{xs:Ζ}{ts:List T} : F a=some (XO a C d)->aeo F d (ks.zip xs)->ks.length=xs.length->cu K F xs ts->Rep K F (.ref a) (.exc C ks ts)
inductive cu(K:Frag)(F:Hp):Ζ->List T->Prop
 |nil:cu K F [] []
 |cons {x:V}{xs:Ζ}{t:T}{ts:List T} : Rep K F x t->cu K F xs ts->cu K F (x::xs) (t::ts)
end
section
variable{K:Frag}{F F' H H':Hp}
theorem Same.rd{a:Addr}{u:HO}(S:Same F F')(h:Rd F a u):Rd F' a u:=h.imp (S _ _) λhP=>by obtain⟨o,e⟩:=hP;exact⟨o,S _ _ e⟩
theorem aeo.same{d:Ξ}{l:List (Str×V)}(S:Same F F')(h:aeo F d l):aeo F' d l:=by
 cases d with
 |none=>exact h
 |some d=>exact S _ _ h
mutual
theorem Rep.same(S:Same F F'):∀{x:V}{t:T},Rep K F x t->Rep K F' x t
 |_,_,.any v=>.any v
 |_,_,.non=>.non
 |_,_,.bl b=>.bl b
 |_,_,.int i=>.int i
 |_,_,.str s=>.str s
 |_,_,.val v=>.val v
 |_,_,.tup e h=>.tup (S.tup e) (cu.same S h)
 |_,_,.lst e h=>.lst (S _ _ e) (cu.same S h)
 |_,_,.scr e h=>.scr (S.seq e) (cu.same S h)
 |_,_,.dct e l h=>.dct (S.rd e) l (cu.same S h)
 |_,_,.ins e d l h=>.ins (S _ _ e) (S _ _ d) l (cu.same S h)
 |_,_,.exc e d l h=>.exc (S _ _ e) (d.same S) l (cu.same S h)
theorem cu.same(S:Same F F'):∀{xs:Ζ}{ts:List T},cu K F xs ts->cu K F' xs ts
 |_,_,.nil=>.nil
 |_,_,.cons h t=>.cons (Rep.same S h) (cu.same S t)
end
theorem Rep.lstI{x:V}{ts:List T}(h:Rep K F x (.lst ts)):∃a xs,x=.ref a/\F a=some (.lst xs)/\cu K F xs ts:=by cases h;exact⟨_,_,rfl,by assumption,by assumption⟩
theorem Rep.tupI{x:V}{ts:List T}(h:Rep K F x (.tup ts)):∃a xs,x=.ref a/\SqT K F a xs/\cu K F xs ts:=by cases h;exact⟨_,_,rfl,by assumption,by assumption⟩
theorem Rep.scrI{x:V}{ts:List T}(h:Rep K F x (.scr ts)):∃a xs,x=.ref a/\SqL K F a xs/\cu K F xs ts:=by cases h;exact⟨_,_,rfl,by assumption,by assumption⟩
theorem Rep.dctI{x:V}{ks:List Key}{ts:List T}(h:Rep K F x (.dct ks ts)):∃a xs,x=.ref a/\Rd F a (.dK (ks.zip xs))/\ks.length=xs.length/\cu K F xs ts:=by cases h;exact⟨_,_,rfl,by assumption,by assumption,by assumption⟩
theorem Rep.insI{x:V}{C:Addr}{ks:Φ}{ts:List T}(h:Rep K F x (.ins C ks ts)):∃a dx xs,x=.ref a/\F a=some (.ins C dx (ks.zip xs))/\F dx=some (.own a)/\ks.length=xs.length/\cu K F xs ts:=by cases h;exact⟨_,_,_,rfl,by assumption,by assumption,by assumption,by assumption⟩
theorem cu.len:∀{xs:Ζ}{ts:List T},cu K F xs ts->xs.length=ts.length
 |_,_,.nil=>rfl
 |_,_,.cons _ t=>ZH (· + 1) (cu.len t)
theorem cu.app:∀{xs ys:Ζ}{ts us:List T},cu K F xs ts->cu K F ys us->cu K F (xs++ys) (ts++us)
 |_,_,_,_,.nil,h=>h
 |_,_,_,_,.cons a b,h=>.cons a (cu.app b h)
theorem cu.at_:∀{xs:Ζ}{ts:List T}{i:Nat}{t:T},cu K F xs ts->ts[i]?=some t->∃x,xs[i]?=some x/\Rep K F x t
 |_,_,_,_,.nil,e=>by cases e
 |_,_,0,_,.cons a _,e=>by cases e;exact⟨_,rfl,a⟩
 |_,_,i+1,_,.cons _ b,e=>by
  obtain⟨x,q,r⟩:=cu.at_ (i:=i) b (by simpa using e);exact⟨x,by simpa using q,r⟩
theorem cu.of_at:∀{xs:Ζ}{ts:List T},xs.length=ts.length->(∀(i:Nat)x t,xs[i]?=some x->ts[i]?=some t->Rep K F x t)->cu K F xs ts
 |[],[],_,_=>.nil
 |x::xs,t::ts,l,h=>.cons (h 0 x t rfl rfl) (cu.of_at (Nat.succ.inj l) λi y u e1 e2=>h (i+1) y u e1 e2)
 |[],_::_,l,_=>by cases l
 |_::_,[],l,_=>by cases l
theorem cu.set{x:V}{t:T}(r:Rep K F x t):∀{xs:Ζ}{ts:List T}(i:Nat),cu K F xs ts->cu K F (xs.set i x) (ts.set i t)
 |_,_,_,.nil=>.nil
 |_,_,0,.cons _ h=>.cons r h
 |_,_,i+1,.cons a h=>.cons a (cu.set r i h)
theorem cu.take:∀{xs:Ζ}{ts:List T}(n:Nat),cu K F xs ts->cu K F (xs.take n) (ts.take n)
 |_,_,0,_=>.nil
 |_,_,_+1,.nil=>.nil
 |_,_,n+1,.cons a h=>.cons a (cu.take n h)
theorem cu.drop:∀{xs:Ζ}{ts:List T}(n:Nat),cu K F xs ts->cu K F (xs.drop n) (ts.drop n)
 |_,_,0,h=>h
 |_,_,_+1,.nil=>.nil
 |_,_,n+1,.cons _ h=>cu.drop n h
def hd(S:Addr->Prop)(H:Hp):Hp:=λb=>open Classical in if S b then none else H b
theorem rG{S:Addr->Prop}{b:Addr}(h:S b):hd S H b=none:=by unfold hd;rw[ZY h]
theorem cQ{S:Addr->Prop}{b:Addr}(h:¬S b):hd S H b=H b:=by unfold hd;rw[ZZ h]
theorem cX{S:Addr->Prop}{b:Addr}{o:HO}(e:hd S H b=some o):¬S b/\H b=some o:=by
 by_cases h:S b
 .rw[rG h]at e;cases e
 .rw[cQ h]at e;exact⟨h,e⟩
theorem jk{S S':Addr->Prop}(i:∀b,S' b->S b\/H b=none)(e:Same H H'):Same (hd S H) (hd S' H'):=λb o h=>by
 obtain⟨n,h⟩:=cX h;rw[cQ λz=>?_]
 .exact e _ _ h
 .rcases i b z with y|y
  .exact n y
  .rw[h]at y;cases y
theorem dO{S:Addr->Prop} : Same (hd S H) H:=λ_ _ h=>(cX h).2
theorem bV{S:Addr->Prop}(e:Same H H'):Same (hd S H) (hd S H'):=jk (λ_=>.inl) e
theorem Xj:hd (λ_=>False) H=H:=funext λ_=>cQ id
inductive OT where
 |und|fz (t:T)|l1 (ts:List T)|l2 (aw:List (List T))|d1 (ks:List Key) (ts:List T)|ob (a dx C:Addr) (ks:Φ) (ts:List T)|la (a:Addr) (ts:List T)
def frz:OT->T
 |.und=>.any
 |.fz t=>t
 |.l1 ts=>.lst ts
 |.l2 aw=>.lst (aw.map T.lst)
 |.d1 ks ts=>.dct ks ts
 |.ob _ _ C ks ts=>.ins C ks ts
 |.la _ ts=>.lst ts
def Slo(K:Frag)(F H:Hp)(v:Option V)(A:Ψ):OT->Prop
 |.und=>A=[]
 |.fz t=>A=[]/\∃u,v=some u/\Rep K F u t
 |.l1 ts=>∃a xs,v=some (.ref a)/\A=[a]/\H a=some (.lst xs)/\cu K F xs ts
 |.l2 aw=>∃a bs,v=some (.ref a)/\A=a::bs/\(a::bs).Nodup/\H a=some (.lst (bs.map V.ref))/\bs.length=aw.length/\∀(i:Nat)b ts,bs[i]?=some b->aw[i]?=some ts->∃xs,H b=some (.lst xs)/\cu K F xs ts
 |.d1 ks ts=>∃a xs,v=some (.ref a)/\A=[a]/\H a=some (.dK (ks.zip xs))/\ks.length=xs.length/\cu K F xs ts
 |.ob a dx C ks ts=>∃xs,v=some (.ref a)/\A=[a,dx]/\H a=some (.ins C dx (ks.zip xs))/\H dx=some (.own a)/\ks.length=xs.length/\cu K F xs ts
 |.la a ts=>∃xs,v=some (.ref a)/\A=[a]/\H a=some (.lst xs)/\cu K F xs ts
theorem Slo.same{v:Option V}{A:Ψ}(S:Same F F')(E:Same H H'):∀{x:OT},Slo K F H v A x->Slo K F' H' v A x
 |.und,h=>h
 |.fz _,⟨a,u,e,r⟩=>⟨a,u,e,r.same S⟩
 |.l1 _,⟨a,xs,e,z,h,r⟩=>⟨a,xs,e,z,E _ _ h,r.same S⟩
 |.l2 _,⟨a,bs,e,z,n,h,l,r⟩=>⟨a,bs,e,z,n,E _ _ h,l,λi b ts e1 e2=>let⟨xs,q,r⟩:=r i b ts e1 e2;⟨xs,E _ _ q,r.same S⟩⟩
 |.d1 _ _,⟨a,xs,e,z,h,l,r⟩=>⟨a,xs,e,z,E _ _ h,l,r.same S⟩
 |.ob _ _ _ _ _,⟨xs,e,z,h,d,l,r⟩=>⟨xs,e,z,E _ _ h,E _ _ d,l,r.same S⟩
 |.la _ _,⟨xs,e,z,h,r⟩=>⟨xs,e,z,E _ _ h,r.same S⟩
theorem Slo.off{v:Option V}{A:Ψ} : ∀{x:OT},Slo K F H v A x->(∀b∈A,∀u,H b=some u->H' b=some u)->Slo K F H' v A x
 |.und,s,_=>s
 |.fz _,s,_=>s
 |.l1 _,⟨a,xs,e,z,w,r⟩,off=>⟨a,xs,e,z,off a (by rw[z];simp) _ w,r⟩
 |.l2 _,⟨a,bs,e,z,nd,w,l,r⟩,off=>⟨a,bs,e,z,nd,off a (by rw[z];simp) _ w,l,λi b ts e1 e2=>let⟨xs,q,r⟩:=r i b ts e1 e2;⟨xs,off b (by rw[z];exact aJ _ (aC e1)) _ q,r⟩⟩
 |.d1 _ _,⟨a,xs,e,z,w,r⟩,off=>⟨a,xs,e,z,off a (by rw[z];simp) _ w,r⟩
 |.ob a dx _ _ _,⟨xs,e,z,w,d,r⟩,off=>⟨xs,e,z,off a (by rw[z];simp) _ w,off dx (by rw[z];simp) _ d,r⟩
 |.la a _,⟨xs,e,z,w,r⟩,off=>⟨xs,e,z,off a (by rw[z];simp) _ w,r⟩
def abJ(H:Hp)(a:Addr):Prop:=∃o,H a=some o/\((∃xs,o=.lst xs)\/(∃k,o=.dK k)\/(∃C d f,o=.ins C d f)\/∃x,o=.own x)
theorem Slo.sole{v:Option V}{A:Ψ}{x:OT}(h:Slo K F H v A x){a:Addr}(ha:a∈A):abJ H a:=by
 cases x with
 |und=>rw[show A=[]from h]at ha;cases ha
 |fz t=>rw[h.1]at ha;cases ha
 |l1 ts=>obtain⟨b,xs,_,rfl,e,_⟩:=h;cases YR.mp ha;exact⟨_,e,.inl ⟨_,rfl⟩⟩
 |l2 aw =>
  obtain⟨b,bs,_,rfl,_,e,l,r⟩:=h;rcases YU.mp ha with z|z
  .exact⟨_,z ▸ e,.inl ⟨_,rfl⟩⟩
  .obtain⟨i,hi⟩:=aV z;have li:i<aw.length:=l ▸ (ao.mp hi).1;obtain⟨xs,q,_⟩:=r i a _ hi (aj li);exact⟨_,q,.inl ⟨_,rfl⟩⟩
 |d1 ks ts=>obtain⟨b,xs,_,rfl,e,_⟩:=h;cases YR.mp ha;exact⟨_,e,.inr (.inl ⟨_,rfl⟩)⟩
 |ob b dx C ks ts =>
  obtain⟨xs,_,rfl,e,d,_⟩:=h;rcases YU.mp ha with z|z
  .exact⟨_,z ▸ e,.inr (.inr (.inl ⟨_,_,_,rfl⟩))⟩
  .cases YR.mp z;exact⟨_,d,.inr (.inr (.inr ⟨_,rfl⟩))⟩
 |la b ts=>obtain⟨xs,_,rfl,e,_⟩:=h;cases YR.mp ha;exact⟨_,e,.inl ⟨_,rfl⟩⟩
theorem Slo.frz{u:V}{A:Ψ}{x:OT}(h:Slo K F H (some u) A x)(S:Same F F')(E:∀a∈A,F' a=H a):Rep K F' u (frz x):=by
 cases x with
 |und=>exact .any _
 |fz t=>obtain⟨_,w,e,r⟩:=h;cases e;exact r.same S
 |l1 ts=>obtain⟨b,xs,e,rfl,q,r⟩:=h;cases e;exact .lst ((E _ (by simp)).trans q) (r.same S)
 |l2 aw =>
  obtain⟨b,bs,e,rfl,_,q,l,r⟩:=h;cases e;refine .lst ((E _ (by simp)).trans q) (cu.of_at (by simp[l]) λi x t e1 e2=>?_);rw[aq]at e1 e2;cases e3:bs[i]? with
  |none=>rw[e3]at e1;cases e1
  |some c =>
   cases e4:aw[i]? with
   |none=>rw[e4]at e2;cases e2
   |some ts =>
    rw[e3]at e1;rw[e4]at e2;cases e1;cases e2;obtain⟨xs,q,r⟩:=r i c ts e3 e4;exact .lst ((E _ (aJ _ (aC e3))).trans q) (r.same S)
 |d1 ks ts=>obtain⟨b,xs,e,rfl,q,l,r⟩:=h;cases e;exact .dct (.inl ((E _ (by simp)).trans q)) l (r.same S)
 |ob b dx C ks ts=>obtain⟨xs,e,rfl,q,d,l,r⟩:=h;cases e;exact .ins ((E _ (by simp)).trans q) ((E _ (by simp)).trans d) l (r.same S)
 |la b ts=>obtain⟨xs,e,rfl,q,r⟩:=h;cases e;exact .lst ((E _ (by simp)).trans q) (r.same S)
def Ow(own:Nat->Ψ)(b:Addr):Prop:=∃i,b∈own i
structure SR(K:Frag)(own:Nat->Ψ)(H:Hp)(σ:L2.St)(o:List OT):Prop where
 len:o.length=σ.length
 sl:∀i x,o[i]?=some x->Slo K (hd (Ow own) H) H (σ[i]?.join) (own i) x
 out:∀i,o.length<=i->∀a∈own i,∃xs,H a=some (.lst xs)
 dis:∀i j a,a∈own i->a∈own j->i=j
variable{own:Nat->Ψ}{σ:L2.St}{o:List OT}
theorem SR.same(h:SR K own H σ o)(E:Same H H'):SR K own H' σ o:=⟨h.len,λi x e=>(h.sl i x e).same (bV E) E,λi hi a ha=>let⟨xs,e⟩:=h.out i hi a ha;⟨xs,E _ _ e⟩,h.dis⟩
theorem SR.sole(h:SR K own H σ o){b:Addr}(z:Ow own b):abJ H b:=by
 obtain⟨i,z⟩:=z;by_cases hi:i<o.length
 .exact(h.sl i _ (aj hi)).sole z
 .obtain⟨xs,e⟩:=h.out i (Nat.not_lt.mp hi) b z;exact⟨_,e,.inl ⟨_,rfl⟩⟩
theorem abJ.ne{a:Addr}(h:abJ H a):H a≠none:=by
 obtain⟨o,e,_⟩:=h;rw[e];exact λz=>by cases z
def NR(K:Frag)(S:Addr->Prop)(H H':Hp)(v:V)(x:OT):Prop:=∃B,(∀a∈B,H a=none)/\Slo K (hd (λb=>S b\/b∈B) H') H' (some v) B x
theorem NR.rep{S:Addr->Prop}{v:V}{x:OT}(h:NR K S H H' v x)(hs:∀b,S b->H b≠none):Rep K (hd S H') v (L2.frz x):=by
 obtain⟨B,n,r⟩:=h;exact r.frz (jk (λb z=>.inl (.inl z)) (λ_ _ z=>z)) λa ha=>cQ λz=>hs a z (n a ha)
theorem NR.fz{S:Addr->Prop}{v:V}{t:T}(h:Rep K (hd S H') v t):NR K S H H' v (.fz t):=⟨[],λ_ z=>(nomatch z),rfl,v,rfl,h.same (jk (λb z=>.inl (z.elim id λy=>(nomatch y))) λ_ _ z=>z)⟩
theorem NR.l1{S:Addr->Prop}{a:Addr}{xs:Ζ}{ts:List T}(n:H a=none)(e:H' a=some (.lst xs))(h:cu K (hd (λb=>S b\/b=a) H') xs ts):NR K S H H' (.ref a) (.l1 ts) :=
 ⟨[a],λ_ z=>(YR.mp z) ▸ n,a,xs,rfl,rfl,e,h.same (jk (λb z=>.inl (z.imp id YR.mp)) λ_ _ z=>z)⟩
theorem NR.back{S:Addr->Prop}{H0:Hp}{v:V}{x:OT}(h:NR K S H H' v x)(E:Same H0 H):NR K S H0 H' v x:=by
 obtain⟨B,n,r⟩:=h;exact⟨B,λa ha=>E.free (n a ha),r⟩
def own1(own:Nat->Ψ)(i:Nat)(B:Ψ):Nat->Ψ:=λj=>if j=i then B else own j
theorem j9{i:Nat}{B:Ψ} : own1 own i B i=B:=ZY rfl
theorem fY{i j:Nat}{B:Ψ}(h:j≠i):own1 own i B j=own j:=ZZ h
theorem Ow.of1{i:Nat}{B:Ψ}{b:Addr}(h:Ow (own1 own i B) b):Ow own b\/b∈B:=by
 obtain⟨j,h⟩:=h;by_cases z:j=i
 .rw[z,j9]at h;exact .inr h
 .rw[fY z]at h;exact .inl ⟨j,h⟩
theorem SR.put(h:SR K own H σ o)(E:Same H H'){v:V}{x:OT}(n:NR K (Ow own) H H' v x){i:Nat}(hi:i<o.length):∃ag,SR K ag H' (σ.set i (some v)) (o.set i x)/\Same (hd (Ow own) H) (hd (Ow ag) H'):=by
 obtain⟨B,nb,r⟩:=n;have le:Same (hd (Ow own) H) (hd (Ow (own1 own i B)) H'):=jk (λb z=>z.of1.imp id (nb b)) E;refine⟨own1 own i B,⟨by rw[WH,WH,h.len],λj y e=>?_,λj hj=>?_,λj k a e1 e2=>?_⟩,le⟩
 .by_cases z:j=i
  .subst z;rw[UU hi]at e;cases e;rw[j9,UU (h.len ▸ hi)];exact r.same (jk (λb z=>.inl z.of1) λ_ _ z=>z) λ_ _ z=>z
  .rw[VV (Ne.symm z)]at e;rw[fY z,VV (Ne.symm z)];exact(h.sl j y e).same le E
 .rw[WH]at hj;rw[fY (by lia)];intro a ha;obtain⟨xs,e⟩:=h.out j hj a ha;exact⟨xs,E _ _ e⟩
 .by_cases z:j=i<;>by_cases y:k=i
  .rw[z,y]
  .rw[z,j9]at e1;rw[fY y]at e2;exact absurd (nb a e1) (h.sole ⟨k,e2⟩).ne
  .rw[y,j9]at e2;rw[fY z]at e1;exact absurd (nb a e2) (h.sole ⟨j,e1⟩).ne
  .rw[fY z]at e1;rw[fY y]at e2;exact h.dis j k a e1 e2
theorem SR.frz(h:SR K own H σ o){i:Nat}{x:OT}(e:o[i]?=some x){u:V}(hu:σ[i]?=some (some u)):∃ag,SR K ag H σ (o.set i (.fz (L2.frz x)))/\Same (hd (Ow own) H) (hd (Ow ag) H):=by
 have hi:i<o.length:=(ao.mp e).1;have le:Same (hd (Ow own) H) (hd (Ow (own1 own i [])) H):=jk (λb z=>.inl (z.of1.elim id λy=>(nomatch y))) λ_ _ z=>z;have hs:=h.sl i x e;rw[hu]at hs;refine⟨own1 own i [],⟨by rw[WH,h.len],λj y e'=>?_,λj hj=>?_,λj k a e1 e2=>?_⟩,le⟩
 .by_cases z:j=i
  .subst z;rw[UU hi]at e';cases e';rw[j9,hu];exact⟨rfl,u,rfl,Slo.frz hs le λa ha=>cQ λz=>by
    obtain⟨k,z⟩:=z;by_cases y:k=j
    .rw[y,j9]at z;cases z
    .rw[fY y]at z;exact y (h.dis k j a z ha)⟩
  .rw[VV (Ne.symm z)]at e';rw[fY z];exact(h.sl j y e').same le λ_ _ z=>z
 .rw[WH]at hj;rw[fY (by lia)];exact h.out j hj
 .by_cases z:j=i
  .rw[z,j9]at e1;cases e1
  by_cases y:k=i
  .rw[y,j9]at e2;cases e2
  .rw[fY z]at e1;rw[fY y]at e2;exact h.dis j k a e1 e2
theorem SR.chg(h:SR K own H σ o){i:Nat}{x:OT}(e:o[i]?=some x){y:OT}(E:∀b u,b∉own i->H b=some u->H' b=some u)(r:Slo K (hd (Ow own) H') H' (σ[i]?.join) (own i) y):SR K own H' σ (o.set i y)/\Same (hd (Ow own) H) (hd (Ow own) H'):=by
 have hi:i<o.length:=(ao.mp e).1;have le:Same (hd (Ow own) H) (hd (Ow own) H'):=λb u z=>by
  obtain⟨n,z⟩:=cX z;rw[cQ n];exact E b u (λq=>n ⟨i,q⟩) z
 refine⟨⟨by rw[WH,h.len],λj z e'=>?_,λj hj a ha=>?_,h.dis⟩,le⟩
 rotate_left
 .rw[WH]at hj;obtain⟨xs,e2⟩:=h.out j hj a ha;exact⟨xs,E a _ (λz=>by have:=h.dis j i a ha z;lia) e2⟩
 by_cases q:j=i
 .subst q;rw[UU hi]at e';cases e';exact r
 .rw[VV (Ne.symm q)]at e';exact((h.sl j z e').same le λ_ _ z=>z).off λb hb u=>E b u λz=>q (h.dis j i b hb z)
theorem SR.get(h:SR K own H σ o){i:Nat}{t:T}(e:o[i]?=some (.fz t)):∃u,σ[i]?=some (some u)/\Rep K (hd (Ow own) H) u t:=by
 obtain⟨_,u,q,r⟩:=h.sl i _ e;refine⟨u,?_,r⟩;cases z:σ[i]? with
 |none=>rw[z]at q;cases q
 |some w=>rw[z]at q;exact ZH some q
end
end L2
namespace L2
open PySem PySem.Spec PyProof.Rows
abbrev RE:=List OT->(OT->Prop)->Prop
abbrev RT:=List OT->(Bool->Prop)->Prop
abbrev RA:=List OT->(List T->Prop)->Prop
def tQ(K:Frag)(r:RE):TE:=λσ H Q=>∃own o R,SR K own H σ o/\r o R/\∀H' v x,R x->Same H H'->NR K (Ow own) H H' v x->Q v H'
def tQT(K:Frag)(r:RT):TT:=λσ H Q=>∃own o R,SR K own H σ o/\r o R/\∀H' b,R b->Same H H'->Q b H'
def tQA(K:Frag)(n:Nat)(r:RA):TA:=λσ H Q=>∃own o R,SR K own H σ o/\r o R/\∀H' vs ts,R ts->ts.length=n->Same H H'->cu K (hd (Ow own) H') vs ts->Q vs H'
def QE(X:Cx)(e:Expr)(r:RE):Prop:=PE X e (tQ X.K r)
def QT(X:Cx)(e:Expr)(r:RT):Prop:=PT X e (tQT X.K r)
def QW(X:Cx)(e:Expr)(r:RT):Prop:=PW X e (tQT X.K r)
def QA(X:Cx)(es:List Expr)(r:RA):Prop:=PA X es (tQA X.K es.length r)
theorem PT.imp{X:Cx}{e:Expr}{t t':TT}(h:PT X e t)(i:∀σ H Q,t' σ H Q->t σ H Q):PT X e t':=λaa s σ H Q I q=>h aa s σ H Q I (i σ H Q q)
theorem PW.imp{X:Cx}{e:Expr}{t t':TT}(h:PW X e t)(i:∀σ H Q,t' σ H Q->t σ H Q):PW X e t':=λwh aa s σ H Q I q=>h wh aa s σ H Q I (i σ H Q q)
theorem PA.imp{X:Cx}{es:List Expr}{t t':TA}(h:PA X es t)(i:∀σ H Q,t' σ H Q->t σ H Q):PA X es t':=λp aa s σ H Q I q=>h p aa s σ H Q I (i σ H Q q)
section
variable{K:Frag}{own:Nat->Ψ}{H:Hp}{σ:L2.St}{o:List OT}
theorem tQ.mk{r:RE}{R:OT->Prop}{Q:VK}(h:SR K own H σ o)(hr:r o R)(k:∀H' v x,R x->Same H H'->Rep K (hd (Ow own) H') v (frz x)->Q v H'):tQ K r σ H Q :=
 ⟨own,o,R,h,hr,λH' v x rx E n=>k H' v x rx E (n.rep λb z=>(h.sole z).ne)⟩
def slot:List OT->Nat->OT
 |[],_=>.und
 |x::_,0=>x
 |_::l,n+1=>slot l n
theorem iz:∀{o:List OT}{i:Nat}{x:OT},slot o i=x->x≠.und->o[i]?=some x
 |[],_,_,e,n=>absurd e.symm n
 |_::_,0,_,e,_=>ZH some e
 |_::l,i+1,x,e,n=>by simpa using iz (o:=l) (i:=i) e n
end
def Wx(i:Nat):RE:=λo q=>match slot o i with|.fz t=>q (.fz t)|_=>False
def rC(t:T):RE:=λ_ q=>q (.fz t)
abbrev qA:Type:=T->T->(OT->Prop)->Prop
def rOp(g:qA)(a b:RE):RE:=λo q=>a o λx=>b o λy=>g (frz x) (frz y) q
def rUn(g:T->(OT->Prop)->Prop)(a:RE):RE:=λo q=>a o λx=>g (frz x) q
def sw(b:Bool)(p q:Prop):Prop:=match b with|true=>p|false=>q
theorem sw2{b:Bool}{p q:Prop}(h1:b=true->p)(h2:b=false->q):sw b p q:=by
 cases b
 .exact h2 rfl
 .exact h1 rfl
theorem swD{c:Prop}[Decidable c]{p q:Prop}(h1:c->p)(h2:¬c->q):sw (decide c) p q:=sw2 (λe=>h1 (of_decide_eq_true e)) λe=>h2 (of_decide_eq_false e)
theorem swT{b:Bool}{p q:Prop}(e:b=true)(h:p):sw b p q:=by subst e;exact h
theorem swF{b:Bool}{p q:Prop}(e:b=false)(h:q):sw b p q:=by subst e;exact h
section
variable{X:Cx}{a b c:Expr}{ra rb rc:RE}{pos:Pos}
theorem qv(i:Nat){x:Str}{pos:Pos}(hN:X.N[i]?=some x:=by rfl)(hv:rZ X.env.scope x=true:=by rfl)(hd:qk x:=by decide)
 (bi:qf x:=by decide):QE X (.Name x pos) (Wx i):=(pv i hN hv hd bi).imp λσ H Q hP=>by
 obtain⟨own,o,R,h,hr,k⟩:=hP;unfold Wx at hr;cases e:slot o i with
 |fz t =>
  rw[e]at hr;obtain⟨u,q,r⟩:=h.get (iz e (by intro z;cases z));exact⟨u,q,k H u _ hr (.refl _) (NR.fz r)⟩
 |_=>rw[e]at hr;exact hr.elim
theorem qC{e:Expr}{v:V}{t:T}(h:PE X e (tC v))(r:∀F,Rep X.K F v t):QE X e (rC t):=h.imp λσ H Q hP=>by obtain⟨own,o,R,_,hr,k⟩:=hP;exact k H v _ hr (.refl _) (NR.fz (r _))
theorem bG{i j pos} : QE X (.Constant (.int i) j pos) (rC (.int i)):=qC agN λ_=>.int _
theorem mU{b j pos} : QE X (.Constant (.bool b) j pos) (rC (.bl b)):=qC ake λ_=>.bl _
theorem dU{j pos} : QE X (.Constant .none j pos) (rC .non):=qC ahr λ_=>.non
theorem uY{x j pos} : QE X (.Constant (.str x) j pos) (rC (.str x)):=qC agM λ_=>.str _
theorem Sd{x:Str}{v:V}{t:T}{pos:Pos}(hm:∃u,X.mg x=some u/\RelV v u)(r:∀F,Rep X.K F v t)(hg:Gl X x:=by rfl)(hd:qk x:=by decide):QE X (.Name x pos) (rC t):=qC (aax hg hm hd) r
def GO(X:Cx)(f:Value->Value->Sem Value)(g:qA):Prop:=OpR X f λx y H Q=>∃S t u R,(∀b,S b->H b≠none)/\Rep X.K (hd S H) x t/\Rep X.K (hd S H) y u/\g t u R/\∀H' v z,R z->Same H H'->NR X.K S H H' v z->Q v H'
theorem q2{g:qA}{σ:L2.St}{H:Hp}{Q:VK}(h:tQ X.K (rOp g ra rb) σ H Q):tOp (λx y H Q=>∃S t u R,(∀b,S b->H b≠none)/\Rep X.K (hd S H) x t/\Rep X.K (hd S H) y u/\g t u R/\∀H' v z,R z->Same H H'->NR X.K S H H' v z->Q v H') (tQ X.K ra) (tQ X.K rb) σ H Q:=by
 obtain⟨own,o,R,h,hr,k⟩:=h;exact tQ.mk h hr λH1 v x q E1 r1=>tQ.mk (h.same E1) q λH2 w y q2 E2 r2=>⟨Ow own,_,_,R,λb z=>((h.same (E1.trans E2)).sole z).ne,r1.same (bV E2),r2,q2,λH' u z rz E3 n=>k H' u z rz (E1.trans (E2.trans E3)) (n.back (E1.trans E2))⟩
theorem bO{op:Operator}{g:qA}(ho:GO X (binaryOp op) g)(ha:QE X a ra)(hb:QE X b rb):QE X (.BinOp a op b pos) (rOp g ra rb):=(aje ho ha hb).imp λ_ _ _=>q2
theorem jE{op:CmpOp}{g:qA}(ho:GO X (compareOp op) g)(ha:QE X a ra)(hb:QE X b rb)(hm:behindInMarks op b=false:=by exact abf _):QE X (.Compare a [op] [b] pos) (rOp g ra rb):=(adV ho ha hb hm).imp λ_ _ _=>q2
def gI(g:Int->Int->OT):qA
 |.int i,.int j,q=>q (g i j)
 |_,_,_=>False
theorem GO.ints{f:Value->Value->Sem Value}{g:Int->Int->V}{t:Int->Int->T}(h:OpR X f (rI0 g))(r:∀i j F,Rep X.K F (g i j) (t i j)):GO X f (gI λi j=>.fz (t i j)):=h.imp λx y H Q hP=>by
 obtain⟨S,t,u,R,_,hx,hy,hg,k⟩:=hP;cases hx<;>try exact hg.elim
 cases hy<;>try exact hg.elim
 exact⟨_,_,rfl,rfl,k H _ _ hg (.refl _) (NR.fz (r _ _ _))⟩
theorem Wa:GO X (binaryOp .Sub) (gI λi j=>.fz (.int (i-j))):=.ints agL λ_ _ _=>.int _
theorem Jt:GO X (compareOp .Lt) (gI λi j=>.fz (.bl (decide (i<j)))):=.ints ahL λ_ _ _=>.bl _
theorem XS:GO X (compareOp .LtE) (gI λi j=>.fz (.bl (decide (i<=j)))):=.ints aiU λ_ _ _=>.bl _
theorem xW:GO X (compareOp .Gt) (gI λi j=>.fz (.bl (decide (j<i)))):=.ints alk λ_ _ _=>.bl _
theorem ae0:GO X (compareOp .GtE) (gI λi j=>.fz (.bl (decide (j<=i)))):=.ints ai3 λ_ _ _=>.bl _
def amW:qA
 |.int i,.int j,q=>q (.fz (.int (i+j)))
 |.str a,.str b,q=>a.length+b.length<=sizeLine/\q (.fz (.str (a++b)))
 |.lst a,.lst b,q=>a.length+b.length<=sizeLine/\q (.l1 (a++b))
 |_,_,_=>False
theorem Cr{S:Addr->Prop}{H H':Hp}{p:Addr}{xs:Ζ}{ts:List T}(r:cu X.K (hd S H) xs ts)(E:Same H H')(n:H p=none)(e:H' p=some (.lst xs)):NR X.K S H H' (.ref p) (.l1 ts) :=
 NR.l1 n e (r.same (jk (λb z=>z.imp id λ(y:b=p)=>y ▸ n) E))
theorem dW:GO X (binaryOp .Add) amW:=λaa s σ H x y v u Q I rx ry hP=>by
 obtain⟨S,t,w,R,_,hx,hy,hg,k⟩:=hP;cases t<;>try exact hg.elim
 .cases hx;cases w<;>try exact hg.elim
  cases hy;exact afH aa s σ H _ _ v u Q I rx ry ⟨_,_,rfl,rfl,k H _ _ hg (.refl _) (NR.fz (.int _))⟩
 .cases hx;cases w<;>try exact hg.elim
  cases hy;exact adH aa s σ H _ _ v u Q I rx ry ⟨_,_,rfl,rfl,hg.1,k H _ _ hg.2 (.refl _) (NR.fz (.str _))⟩
 .cases w<;>try exact hg.elim
  obtain⟨a,xs,rfl,e1,r1⟩:=hx.lstI;obtain⟨b,ys,rfl,e2,r2⟩:=hy.lstI;exact aeN aa s σ H _ _ v u Q I rx ry ⟨a,b,xs,ys,rfl,rfl,(cX e1).2,(cX e2).2,by rw[r1.len,r2.len];exact hg.1,λp H' E n e=>k H' _ _ hg.2 E (Cr (r1.app r2) E n e)⟩
def amT:qA
 |.int i,.int j,q=>(Bd i/\Bd j)/\q (.fz (.int (i*j)))
 |.lst a,.int j,q=>(-(2^63)<=j/\j<2^63/\a.length*j.toNat<=sizeLine)/\∀z,z=(List.replicate j.toNat a).flatten->q (.l1 z)
 |.str a,.int j,q=>(∃c,a=⟨#[c]⟩/\1<=j/\j<=1000/\∀z:Str,z.cps.toList=List.replicate j.toNat c->q (.fz (.str z)))
 |_,_,_=>False
def amZ:qA
 |.int i,.int j,q=>(j≠0/\Bd j)/\q (.fz (.int (i.fdiv j)))
 |_,_,_=>False
def amP:qA
 |.int i,.int j,q=>0<j/\q (.fz (.int (i%j)))
 |_,_,_=>False
def am2:qA
 |.int i,.int j,q=>ajW i j/\q (.fz (.int (i^j.toNat)))
 |_,_,_=>False
theorem pJ:GO X (binaryOp .FloorDiv) amZ:=aaN.imp λx y H Q hP=>by
 obtain⟨S,t,u,R,_,hx,hy,hg,k⟩:=hP;cases hx<;>try exact hg.elim
 cases hy<;>try exact hg.elim
 exact⟨_,_,rfl,rfl,hg.1,k H _ _ hg.2 (.refl _) (NR.fz (.int _))⟩
theorem cJ:GO X (binaryOp .Mod) amP:=agd.imp λx y H Q hP=>by
 obtain⟨S,t,u,R,_,hx,hy,hg,k⟩:=hP;cases hx<;>try exact hg.elim
 cases hy<;>try exact hg.elim
 exact⟨_,_,rfl,rfl,hg.1,k H _ _ hg.2 (.refl _) (NR.fz (.int _))⟩
theorem agK:GO X (binaryOp .Pow) am2:=agt.imp λx y H Q hP=>by
 obtain⟨S,t,u,R,_,hx,hy,hg,k⟩:=hP;cases hx<;>try exact hg.elim
 cases hy<;>try exact hg.elim
 exact⟨_,_,rfl,rfl,hg.1,k H _ _ hg.2 (.refl _) (NR.fz (.int _))⟩
def anM:T->(OT->Prop)->Prop
 |.int i,q=>q (.fz (.int (-i)))
 |_,_=>False
theorem WX(ha:QE X a ra):QE X (.UnaryOp .USub a pos) (rUn anM ra):=(ajt afV ha).imp λσ H Q ⟨own,o,R,h,hr,k⟩=>tQ.mk h hr λH1 v x q E1 r1=>by
 revert r1 q
 generalize frz x=t;intro q r1;cases r1<;>try exact q.elim
 exact⟨_,rfl,k _ _ _ q E1 (NR.fz (.int _))⟩
def Xp:T->Option Bool
 |.non=>some true
 |.any=>none
 |.val v=>some (decide (v=.non))
 |_=>some false
def gIs(neg:Bool):qA:=λt u q=>match u,Xp t with
 |.non,some b=>q (.fz (.bl (xor neg b)))
 |_,_=>False
theorem Uw{F:Hp}{K:Frag}{x:V}{t:T}{b:Bool}(h:Rep K F x t)(e:Xp t=some b):decide (x=.non)=b:=by
 cases h<;>cases e<;>first|rfl|(apply Zp;intro z;cases z)
theorem nW:GO X (compareOp .Is) (gIs false):=ahv.imp λx y H Q hP=>by
 obtain⟨S,t,u,R,_,hx,hy,hg,k⟩:=hP;cases hy<;>try exact hg.elim
 unfold gIs at hg;cases e:Xp t with
 |none=>rw[e]at hg;exact hg.elim
 |some b=>rw[e]at hg;exact⟨rfl,k H _ _ hg (.refl _) (NR.fz (by rw[Uw hx e,Bool.false_xor];exact .bl _))⟩
theorem Df:GO X (compareOp .IsNot) (gIs true):=adR.imp λx y H Q hP=>by
 obtain⟨S,t,u,R,_,hx,hy,hg,k⟩:=hP;cases hy<;>try exact hg.elim
 unfold gIs at hg;cases e:Xp t with
 |none=>rw[e]at hg;exact hg.elim
 |some b=>rw[e]at hg;exact⟨rfl,k H _ _ hg (.refl _) (NR.fz (by rw[Uw hx e,Bool.true_xor];exact .bl _))⟩
end
structure Hid(H:Hp)(S:Addr->Prop):Prop where
 sole:∀b,S b->abJ H b
 ins:∀a C dx fs,S a->H a=some (.ins C dx fs)->S dx
 own:∀b x,S b->H b=some (.own x)->S x
theorem SR.mate{K:Frag}{own:Nat->Ψ}{H:Hp}{σ:L2.St}{o:List OT}(h:SR K own H σ o){j:Nat}{b:Addr}(hb:b∈own j):(∀C d f,H b=some (.ins C d f)->d∈own j)/\∀x,H b=some (.own x)->x∈own j:=by
 have nl:∀{xs:Ζ},H b=some (.lst xs)->(∀C d f,H b=some (.ins C d f)->d∈own j)/\∀x,H b=some (.own x)->x∈own j:=λq=>⟨(λ_ _ _ e=>by rw[q]at e;cases e),(λ_ e=>by rw[q]at e;cases e)⟩;by_cases hj:j<o.length
 .have s:=h.sl j _ (aj hj);cases y:o[j]with
  |und=>rw[y]at s;rw[show own j=[]from s]at hb;cases hb
  |fz t=>rw[y]at s;rw[s.1]at hb;cases hb
  |l1 ts=>rw[y]at s;obtain⟨c,xs,_,w,q,_⟩:=s;rw[w]at hb;cases YR.mp hb;exact nl q
  |l2 aw =>
   rw[y]at s;obtain⟨c,bs,_,w1,_,q1,l,r⟩:=s;rw[w1]at hb;rcases YU.mp hb with z|z
   .exact nl (z ▸ q1)
   .obtain⟨i,hi⟩:=aV z;obtain⟨xs,q2,_⟩:=r i b _ hi (aj (l ▸ (ao.mp hi).1));exact nl q2
  |d1 ks ts=>rw[y]at s;obtain⟨c,xs,_,w,q,_⟩:=s;rw[w]at hb;cases YR.mp hb;exact⟨(λ_ _ _ e=>by rw[q]at e;cases e),(λ_ e=>by rw[q]at e;cases e)⟩
  |la c ts=>rw[y]at s;obtain⟨xs,_,w,q,_⟩:=s;rw[w]at hb;cases YR.mp hb;exact nl q
  |ob c d C' ks ts =>
   rw[y]at s;obtain⟨xs,_,w,q,q2,_⟩:=s;rw[w]at hb ⊢;rcases YU.mp hb with z|z
   .refine⟨λ_ _ _ e=>?_,λ_ e=>?_⟩
    .rw[z,q]at e;cases e;simp
    .rw[z,q]at e;cases e
   .cases YR.mp z;refine⟨λ_ _ _ e=>?_,λ_ e=>?_⟩
    .rw[q2]at e;cases e
    .rw[q2]at e;cases e;simp
 .obtain⟨xs,q⟩:=h.out j (Nat.not_lt.mp hj) b hb;exact nl q
theorem SR.hid{K:Frag}{own:Nat->Ψ}{H:Hp}{σ:L2.St}{o:List OT}(h:SR K own H σ o):Hid H (Ow own) :=
 ⟨λb z=>h.sole z,λa C dx fs ⟨j,z⟩ e=>⟨j,(h.mate z).1 C dx fs e⟩,λb x ⟨j,z⟩ e=>⟨j,(h.mate z).2 x e⟩⟩
def mrg(S:Addr->Prop)(H G:Hp):Hp:=λb=>open Classical in if S b then H b else G b
theorem vM{S:Addr->Prop}{H G:Hp}{b:Addr}(h:S b):mrg S H G b=H b:=by unfold mrg;rw[ZY h]
theorem j8{S:Addr->Prop}{H G:Hp}{b:Addr}(h:¬S b):mrg S H G b=G b:=by unfold mrg;rw[ZZ h]
def spH(sp:Sp):Sp:=λvs H Q _=>∃S:Addr->Prop,Hid H S/\sp vs (hd S H) (λv G=>(∀b,S b->G b=none)->Q v (mrg S H G)) λ_ _ _=>False
section
variable{P:Program}{w:World}{K:Frag}{mg:Str->Ω}{base:Heap}
theorem gW.hid{k:Nat}{f:Addr}{fd:FuncData}{ps:Φ}{sp:Sp}(F:gW P w K mg base CX0 k f fd ps sp):gW P w K mg base CX0 k f fd ps (spH sp):=by
 refine⟨λvs H Q E h=>?_,λA outer s H args us vs Q E hr e0 hb r h=>?_⟩
 .obtain⟨S,_,z⟩:=h;exact F.len vs _ _ _ z
 obtain⟨S,hS,z⟩:=h;have non:∀{b:Addr},H b=none->hd S H b=none:=λ{b}e=>by
  by_cases z:S b
  .exact rG z
  .rw[cQ z];exact e
 have eB:∀{b:Addr}{u:HO},S b->H b=some u->(∀xs,u≠.tup xs)/\(∀o v,u≠.frz o v)/\∀ps,u≠.tbl ps:=λ{b u}z e=>by
  obtain⟨o,q,w⟩:=hS.sole b z;rw[e]at q;cases q;rcases w with⟨_,rfl⟩|⟨_,rfl⟩|⟨_,_,_,rfl⟩|⟨_,rfl⟩<;>exact⟨λ_ z=>(nomatch z),λ_ _ z=>(nomatch z),λ_ z=>(nomatch z)⟩
 have e1:Uh P w K mg base A outer s (hd S H):=⟨e0.frames,e0.mod,λb o e=>⟨(e0.bs b o e).1,non (e0.bs b o e).2⟩,e0.bsz,e0.funs,λb hb=>non (e0.frf b hb),λb u e=>by
  obtain⟨nb,e'⟩:=cX e;refine(e0.hok b u e').stay (λ_ _ _ z=>z) (λd z=>?_) λd xs z=>?_
  .rw[cQ λy=>nb (hS.own d b y z)];exact z
  .rw[cQ λy=>(eB y z).1 xs rfl];exact z,e0.bare⟩
 refine codeAny_mono (F.run A outer s (hd S H) args us vs _ _ hr e1 hb r z) λres s' hs=>?_;cases res with
 |error e=>exact hs.elim
 |ok fl =>
  cases fl with
  |next=>exact False.elim hs
  |brk=>exact False.elim hs
  |cont=>exact False.elim hs
  |ret u =>
   obtain⟨v,G,os,bare,un,hok,rv,q⟩:=hs;have there:∀{b:Addr},S b->∃o,s.heap.get? b=some o:=λ{b}y=>by
    obtain⟨u,e,w⟩:=hS.sole b y;have x:=e0.hok b u e;rcases w with⟨xs,rfl⟩|⟨kk,rfl⟩|⟨C,d,f,rfl⟩|⟨y,rfl⟩
    .obtain⟨_,_,_,_,e2⟩:=x;exact⟨_,e2⟩
    .obtain⟨_,_,_,_,_,_,_,e2,_⟩:=x;exact⟨_,e2⟩
    .obtain⟨_,_,_,e2,_⟩:=x;exact⟨_,e2⟩
    .exact x
   have keep:∀{b:Addr}{o:Obj},S b->s.heap.get? b=some o->s'.heap.get? b=some o:=λ{b o}y e=>un.keep b o e (rG y) (λz=>(hS.sole b y).ne (e0.frf b z)) (by simp);have a9:∀b,S b->G b=none:=λb y=>by
    obtain⟨o,ho⟩:=there y;exact un.free b o ho (rG y) (by simp)
   have no':∀{b:Addr}{u:HO},G b=some u->¬S b:=λe z=>by rw[a9 _ z]at e;cases e
   have dr:∀{b:Addr}{u:HO},G b=some u->mrg S H G b=some u:=λe=>(j8 (no' e)).trans e;refine⟨v,mrg S H G,os,bare,⟨λb o e n=>un.keep b o e (non n),λb o e n=>un.slot b o e (non n),λb o e n z=>?_,un.there,λb xs e=>?_,λb o u e=>?_,λb ps e=>?_⟩,λb u e=>?_,rv,q a9⟩
   .rw[j8 λy=>(hS.sole b y).ne n];exact un.free b o e (non n) z
   .have n:¬S b:=λy=>(eB y e).1 xs rfl;exact dr (un.tups b xs ((cQ n).trans e))
   .have n:¬S b:=λy=>(eB y e).2.1 o u rfl;exact dr (un.frzs b o u ((cQ n).trans e))
   .have n:¬S b:=λy=>(eB y e).2.2 ps rfl;obtain⟨more,this⟩:=un.tbls b ps ((cQ n).trans e);exact⟨more,dr this⟩
   .by_cases z:S b
    .rw[vM z]at e;have x:=e0.hok b u e;obtain⟨u',e',w⟩:=hS.sole b z;rw[e]at e';cases e';rcases w with⟨xs,rfl⟩|⟨kk,rfl⟩|⟨C,d,f,rfl⟩|⟨y,rfl⟩
     .obtain⟨z1,its,n,r,e2⟩:=x;exact⟨z1,its,n,r,keep z e2⟩
     .obtain⟨z1,y,vs,r,ob,es,ep,e2,c⟩:=x;exact⟨z1,y,vs,r,ob,es,ep,keep z e2,c⟩
     .obtain⟨d1,z1,ne,e2,mA,⟨od,es,ep,e3,c⟩,r⟩:=x;have sd:=hS.ins b C d f z e;exact⟨(vM sd).trans d1,z1,ne,keep z e2,mA,⟨od,es,ep,keep sd e3,c⟩,r⟩
     .obtain⟨ob,e2⟩:=x;exact⟨ob,keep z e2⟩
    .rw[j8 z]at e;exact(hok b u e).stay (λ_ _ _ z=>z) (λd z=>dr z) λd xs z=>dr z
abbrev ST:=List T->(OT->Prop)->Prop
def spT(K:Frag)(S:ST):Sp:=λvs H Q _=>∃ts R,cu K H vs ts/\S ts R/\∀H' v x,R x->Same H H'->NR K (λ_=>False) H H' v x->Q v H'
abbrev OkT(P:Program)(w:World)(K:Frag)(mg:Str->Ω)(base:Heap)(k:Nat)(x:Str)(ps:Φ)(S:ST):Prop:=OkF P w K mg base k x ps (spT K S)
end
section
variable{X:Cx}
def agC:RA:=λ_ q=>q []
def ae1(a:RE)(r:RA):RA:=λo q=>a o λx=>r o λts=>q (frz x::ts)
theorem bF:QA X [] agC:=PK.imp λσ H Q hP=>by obtain⟨own,o,R,h,hr,k⟩:=hP;exact k H [] [] hr rfl (.refl _) .nil
theorem tQA.mk{K:Frag}{own:Nat->Ψ}{H:Hp}{σ:L2.St}{o:List OT}{r:RA}{R:List T->Prop}{Q:Ζ->Hp->Prop}(h:SR K own H σ o)(hr:r o R){n:Nat}(k:∀H' vs ts,R ts->ts.length=n->Same H H'->cu K (hd (Ow own) H') vs ts->Q vs H'):tQA K n r σ H Q:=⟨own,o,R,h,hr,k⟩
theorem bC{e:Expr}{es:List Expr}{a:RE}{r:RA}(ha:QE X e a)(hr:QA X es r)(hs:qo X e es:=by rfl):QA X (e::es) (ae1 a r):=(p7 ha hr hs).imp λσ H Q ⟨own,o,R,h,hr,k⟩ =>
 tQ.mk h hr λH1 v x q E1 r1=>tQA.mk (h.same E1) q λH2 vs ts q2 ln E2 r2=>k H2 (v::vs) (frz x::ts) q2 (ZH (· + 1) ln) (E1.trans E2) (.cons (r1.same (bV E2)) r2)
def aa9(S:ST)(r:RA):RE:=λo q=>r o λts=>S ts q
theorem bK{p pos:Pos}{e:Expr}{es:List Expr}{r:RA}{x:Str}{k:Nat}{ps:Φ}{S:ST}(G:OkT X.prog X.w X.K X.mg X.base k x ps S)(ha:QA X (e::es) r)(hr:eG k X.A:=by exact eG.mono (by assumption) (by decide))(hg:Gl X x:=by rfl)(ci:qk x:=by decide)
 (he:qo X e es:=by rfl)(bt:qh X pos es:=by rfl):QE X (.Call (.Name x p) (e::es) [] pos) (aa9 S r):=by
 obtain⟨f,fd,F,b,hm,kp⟩:=G;refine(JF (sp:=spH (spT X.K S)) ⟨f,fd,F.hid,b,hm,kp⟩ hr hg ha ci he bt).imp λσ H Q ⟨own,o,R,h,hr,k⟩=>tQA.mk h hr λH1 vs ts q _ E1 r1=>?_;have h1:=h.same E1;refine⟨Ow own,h1.hid,ts,R,r1,q,λG v x rx E n a9=>?_⟩;have EH:Same H1 (mrg (Ow own) H1 G):=λb u e=>by
  by_cases z:Ow own b
  .rw[vM z];exact e
  .rw[j8 z];exact E b u ((cQ z).trans e)
 have EG:Same G (mrg (Ow own) H1 G):=λb u e=>by rw[j8 λz=>by rw[a9 b z]at e;cases e];exact e
 refine k _ v x rx (E1.trans EH) (NR.back (H:=H1) ?_ E1);obtain⟨B,nb,s⟩:=n;have out:∀a∈B,¬Ow own a:=λa ha z=>(s.sole ha).ne (a9 a z);refine⟨B,λa ha=>by have:=nb a ha;rwa[cQ (out a ha)]at this,s.same (jk (λb z=>?_) EG) EG⟩;rcases z with z|z
 .exact .inr (a9 b z)
 .exact .inl (.inr z)
end
def rB(a:RE):RT:=λo q=>a o λx=>match frz x with|.bl b=>q b|_=>False
def tru:T->(Bool->Prop)->Prop
 |.bl b,q=>q b
 |.int i,q=>q (i != 0)
 |.non,q=>q false
 |.lst ts,q=>q (!ts.isEmpty)
 |.tup ts,q=>q (!ts.isEmpty)
 |_,_=>False
def ano(a:RE):RT:=λo q=>a o λx=>tru (frz x) q
def afS(a b:RT):RT:=λo q=>a o λc=>sw c (b o q) (q false)
def rOr(a b:RT):RT:=λo q=>a o λc=>sw c (q true) (b o q)
def amn(a:RT):RT:=λo q=>a o λc=>q (!c)
def alO(a b:RE):RE:=λo q=>a o λx=>match frz x with|.bl c=>sw c (b o q) (q (.fz (.bl false)))|_=>False
def aki(a:RE):RE:=λo q=>a o λx=>match frz x with|.bl c=>q (.fz (.bl (!c)))|_=>False
def rIf(c:RT)(a b:RE):RE:=λo q=>c o λk=>sw k (a o q) (b o q)
theorem tQT.mk{K:Frag}{own:Nat->Ψ}{H:Hp}{σ:L2.St}{o:List OT}{r:RT}{R:Bool->Prop}{Q:Bool->Hp->Prop}(h:SR K own H σ o)(hr:r o R)(k:∀H' b,R b->Same H H'->Q b H'):tQT K r σ H Q:=⟨own,o,R,h,hr,k⟩
theorem Rep.isEmpty{K:Frag}{F:Hp}{xs:Ζ}{ts:List T}(h:cu K F xs ts):xs.isEmpty=ts.isEmpty:=by cases h<;>rfl
theorem Kd{c:Bool}{p q p' q':Prop}(h:sw c p q)(i:p->p')(j:q->q'):if c=true then p' else q':=by
 cases c
 .exact ana (j h)
 .exact amg (i h)
section
variable{X:Cx}{a b c:Expr}{ra rb rc:RE}{qa qb qc:RT}{pos:Pos}{rest:List Expr}
theorem bW{op:CmpOp}{g:qA}(ho:GO X (compareOp op) g)(ha:QE X a ra)(hb:QE X b rb)(hm:behindInMarks op b=false:=by exact abf _):QT X (.Compare a [op] [b] pos) (rB (rOp g ra rb)) :=
 (adC ho ha hb hm).imp λσ H Q ⟨own,o,R,h,hr,k⟩=>q2 (ra:=ra) (rb:=rb) (tQ.mk h hr λH1 v x q E1 r1=>by
  revert r1 q
  generalize frz x=t;intro q r1;cases r1<;>try exact q.elim
  exact⟨_,rfl,k _ _ q E1⟩)
theorem dz(ha:QE X a ra)(he:∀c9,isTrue a X.env c9=(do let v <- c9;standAt a.pos;holding [v] (truthy v)):=by exact λ_=>rfl):QT X a (ano ra):=(abD ha he).imp λσ H Q ⟨own,o,R,h,hr,k⟩=>tQ.mk h hr λH1 v x q E1 r1=>by
 revert r1 q
 generalize frz x=t;intro q r1;cases t<;>try exact q.elim
 .cases r1;exact⟨false,rfl,k _ _ q E1⟩
 .cases r1;exact⟨_,rfl,k _ _ q E1⟩
 .cases r1;exact⟨_,rfl,k _ _ q E1⟩
 .obtain⟨p,xs,rfl,e,r⟩:=r1.tupI;exact⟨_,.inr (.inl ⟨xs,dO.tup e,rfl⟩),by rw[Rep.isEmpty r];exact k _ _ q E1⟩
 .obtain⟨p,xs,rfl,e,r⟩:=r1.lstI;exact⟨_,.inl ⟨xs,.of (cX e).2,rfl⟩,by rw[Rep.isEmpty r];exact k _ _ q E1⟩
theorem fL(ha:QT X a qa):QT X (.UnaryOp .Not a pos) (amn qa):=(agu ha).imp λσ H Q hP=>by obtain⟨own,o,R,h,hr,k⟩:=hP;exact tQT.mk h hr λH1 b q E1=>k H1 _ q E1
theorem Ig(ha:QT X a qa):QW X (.BoolOp .And [a] pos) qa:=pw_and1 ha
theorem fX(ha:QT X a qa):QW X (.BoolOp .Or [a] pos) qa:=pw_or1 ha
theorem Qe(ha:QT X a qa)(hb:QW X (.BoolOp .And (b::rest) pos) qb):QW X (.BoolOp .And (a::b::rest) pos) (afS qa qb):=(pw_and ha hb).imp λσ H Q hP=>by obtain⟨own,o,R,h,hr,k⟩:=hP;exact tQT.mk h hr λH1 c q E1=>Kd q (λq=>tQT.mk (h.same E1) q λH2 d q E2=>k H2 d q (E1.trans E2)) λq=>k H1 _ q E1
theorem iJ(ha:QT X a qa)(hb:QW X (.BoolOp .Or (b::rest) pos) qb):QW X (.BoolOp .Or (a::b::rest) pos) (rOr qa qb):=(pw_or ha hb).imp λσ H Q hP=>by obtain⟨own,o,R,h,hr,k⟩:=hP;exact tQT.mk h hr λH1 c q E1=>Kd q (λq=>k H1 _ q E1) λq=>tQT.mk (h.same E1) q λH2 d q E2=>k H2 d q (E1.trans E2)
theorem QW.qt(h:QW X a qa):QT X a qa:=PW.pt h
theorem KJ{op}(h:QE X a ra):QE X (.BoolOp op [a] pos) ra:=afD h
theorem Ka(ha:QE X a ra)(hb:QE X (.BoolOp .And (b::rest) pos) rb):QE X (.BoolOp .And (a::b::rest) pos) (alO ra rb):=(ahn ha hb).imp λσ H Q ⟨own,o,R,h,hr,k⟩=>tQ.mk h hr λH1 v x q E1 r1=>by
 revert r1 q
 generalize frz x=t;intro q r1;cases r1<;>try exact q.elim
 exact⟨_,rfl,Kd q (λq=>⟨own,o,R,h.same E1,q,λH2 v x q E2 n=>k H2 v x q (E1.trans E2) (n.back E1)⟩) λq=>k H1 _ _ q E1 (NR.fz (.bl _))⟩
theorem abM(ha:QE X a ra):QE X (.UnaryOp .Not a pos) (aki ra):=(agg ha).imp λσ H Q ⟨own,o,R,h,hr,k⟩=>tQ.mk h hr λH1 v x q E1 r1=>by
 revert r1 q
 generalize frz x=t;intro q r1;cases r1<;>try exact q.elim
 exact⟨_,rfl,k H1 _ _ q E1 (NR.fz (.bl _))⟩
theorem Ek{c:Expr}(hc:QT X c qc)(ha:QE X a ra)(hb:QE X b rb):QE X (.IfExp c a b pos) (rIf qc ra rb):=(acE hc ha hb).imp λσ H Q ⟨own,o,R,h,hr,k⟩=>tQT.mk h hr λH1 c q E1 =>
 Kd q (λq=>⟨own,o,R,h.same E1,q,λH2 v x q E2 n=>k H2 v x q (E1.trans E2) (n.back E1)⟩) λq=>⟨own,o,R,h.same E1,q,λH2 v x q E2 n=>k H2 v x q (E1.trans E2) (n.back E1)⟩
def rCh(g g':qA)(a b c:RE):RE:=λo q=>a o λx=>b o λy=>g (frz x) (frz y) λz=>match frz z with|.bl k=>sw k (c o λw=>g' (frz y) (frz w) q) (q (.fz (.bl false)))|_=>False
theorem q3{op dv:CmpOp}{g g':qA}(ho:GO X (compareOp op) g)(du:GO X (compareOp dv) g'){σ:L2.St}{H:Hp}{Q:VK}(h:tQ X.K (rCh g g' ra rb rc) σ H Q):VJ (λx y H Q=>∃S t u R,(∀b,S b->H b≠none)/\Rep X.K (hd S H) x t/\Rep X.K (hd S H) y u/\g t u R/\∀H' v z,R z->Same H H'->NR X.K S H H' v z->Q v H') (λx y H Q=>∃S t u R,(∀b,S b->H b≠none)/\Rep X.K (hd S H) x t/\Rep X.K (hd S H) y u/\g' t u R/\∀H' v z,R z->Same H H'->NR X.K S H H' v z->Q v H') (tQ X.K ra) (tQ X.K rb) (tQ X.K rc) σ H Q:=by
 obtain⟨own,o,R,h,hr,k⟩:=h;refine tQ.mk h hr λH1 v x q E1 r1=>tQ.mk (h.same E1) q λH2 w y q2 E2 r2=>?_;have h2:=h.same (E1.trans E2);refine⟨Ow own,_,_,_,λb z=>(h2.sole z).ne,r1.same (bV E2),r2,q2,λH3 u z rz E3 n=>?_⟩;have kF:=n.rep λb z=>(h2.sole z).ne
 revert kF rz
 generalize frz z=t;intro rz kF;cases kF<;>try exact rz.elim
 have h3:=h2.same E3;refine⟨_,rfl,Kd rz (λq=>tQ.mk h3 q λH4 w' z q4 E4 r4=>⟨Ow own,_,_,R,λb z=>((h3.same E4).sole z).ne,r2.same (bV (E3.trans E4)),r4,q4,λH' u z rz E5 n=>k H' u z rz (E1.trans (E2.trans (E3.trans (E4.trans E5)))) (n.back (E1.trans (E2.trans (E3.trans E4))))⟩) λq=>k H3 _ _ q (E1.trans (E2.trans E3)) (NR.fz (.bl _))⟩
theorem aav{op dv:CmpOp}{g g':qA}(ho:GO X (compareOp op) g)(du:GO X (compareOp dv) g')(ha:QE X a ra)(hb:QE X b rb)(hc:QE X c rc)(hm:lastMarks [op,dv] [b,c]=false:=by with_unfolding_all rfl):QE X (.Compare a [op,dv] [b,c] pos) (rCh g g' ra rb rc):=(ab6 ho du ha hb hc hm).imp λ_ _ _=>q3 ho du
theorem Sh{op dv:CmpOp}{g g':qA}(ho:GO X (compareOp op) g)(du:GO X (compareOp dv) g')(ha:QE X a ra)(hb:QE X b rb)(hc:QE X c rc)(hm:lastMarks [op,dv] [b,c]=false:=by with_unfolding_all rfl):QT X (.Compare a [op,dv] [b,c] pos) (rB (rCh g g' ra rb rc)) :=
 (abI ho du ha hb hc hm).imp λσ H Q ⟨own,o,R,h,hr,k⟩=>q3 (ra:=ra) (rb:=rb) (rc:=rc) ho du (tQ.mk h hr λH1 v x q E1 r1=>by
  revert r1 q
  generalize frz x=t;intro q r1;cases r1<;>try exact q.elim
  exact⟨_,rfl,k _ _ q E1⟩)
end
def nth{α:Type} : List α->Nat->Option α
 |[],_=>none
 |x::_,0=>some x
 |_::l,n+1=>nth l n
theorem vR{α:Type} : ∀(l:List α)(n:Nat),nth l n=l[n]?
 |[],_=>rfl
 |_::_,0=>rfl
 |_::l,n+1=>by simpa[nth]using vR l n
def ixT{α:Type}(ts:List α):Int->Option α
 |.ofNat n=>nth ts n
 |.negSucc n=>nth ts.reverse n
theorem WR{α:Type}(ts:List α)(i:Int):ixT ts i=atI ts i:=by
 unfold ixT atI ixN;cases i with
 |ofNat n =>
  show nth ts n=_;rw[vR,ZY (show 0<=Int.ofNat n from X9 n)];by_cases h:n<ts.length
  .rw[ZY (by show(n:Int)<_;lia)];rfl
  .rw[ZZ (by show ¬(n:Int)<_;lia),aM (Nat.not_lt.mp h)];rfl
 |negSucc n =>
  show nth ts.reverse n=_;rw[vR,ZZ (by lia)];by_cases h:n<ts.length
  .rw[ZY (by lia),List.getElem?_reverse h];show _=ts[_]?;rw[show(Int.negSucc n+(ts.length:Int)).toNat=ts.length-1-n by lia]
  .rw[ZZ (by lia),aM (by rw[List.length_reverse];exact VU h)];rfl
theorem cu.ix{K:Frag}{F:Hp}{xs:Ζ}{ts:List T}{i:Int}{t:T}(h:cu K F xs ts)(e:ixT ts i=some t):∃x,atI xs i=some x/\Rep K F x t:=by
 rw[WR]at e;unfold atI at e ⊢;rw[h.len];cases j:ixN ts.length i with
 |none=>rw[j]at e;cases e
 |some n=>rw[j]at e;exact h.at_ e
def oT{α:Type}(x:Option α)(q:α->Prop):Prop:=match x with|some t=>q t|none=>False
theorem afd{α:Type}{x:Option α}{q:α->Prop}(h:oT x q):∃t,x=some t/\q t:=by
 cases x with
 |none=>exact h.elim
 |some t=>exact⟨t,rfl,h⟩
def gIx:qA
 |.tup ts,.int i,q=>oT (ixT ts i) λt=>q (.fz t)
 |.lst ts,.int i,q=>∃t,ixT ts i=some t/\q (.fz t)
 |.scr ts,.int i,q=>∃t,ixT ts i=some t/\q (.fz t)
 |.str s,.int i,q=>s.length<=sizeLine/\∃c,ixT s.cps.toList i=some c/\q (.fz (.str ⟨#[c]⟩))
 |_,_,_=>False
section
variable{X:Cx}{a b c e:Expr}{ra rb rc re:RE}{qa qb qc:RT}{pos p2:Pos}{lo hi:Option Expr}
theorem gix:IxR X (λx y H Q=>∃S t u R,(∀b,S b->H b≠none)/\Rep X.K (hd S H) x t/\Rep X.K (hd S H) y u/\gIx t u R/\∀H' v z,R z->Same H H'->NR X.K S H H' v z->Q v H'):=by
 refine(Ae.or (af6.or ag3)).imp λx y H Q h=>?_;obtain⟨S,t,u,R,_,hx,hy,hg,k⟩:=h;cases u with
 |int i=>?_
 |_=>cases t<;>exact hg.elim
 cases hy;cases t with
 |any=>exact hg.elim
 |non=>exact hg.elim
 |bl _=>exact hg.elim
 |int _=>exact hg.elim
 |val _=>exact hg.elim
 |dct _ _=>exact hg.elim
 |ins _ _ _=>exact hg.elim
 |exc _ _ _=>exact hg.elim
 |str s=>?_
 |tup ts=>?_
 |lst ts=>?_
 |scr ts=>?_
 .cases hx;obtain⟨z,c,e,q⟩:=hg;rw[WR]at e;exact .inr (.inr ⟨_,_,c,rfl,rfl,z,e,k H _ _ q (.refl _) (NR.fz (.str _))⟩)
 .obtain⟨p,xs,rfl,e,r⟩:=hx.tupI;obtain⟨t,j,q⟩:=afd hg;obtain⟨v,e',r'⟩:=r.ix j;exact .inr (.inl ⟨p,xs,i,v,rfl,rfl,dO.tup e,e',k H _ _ q (.refl _) (NR.fz r')⟩)
 .obtain⟨p,xs,rfl,e,r⟩:=hx.lstI;obtain⟨t,j,q⟩:=hg;obtain⟨v,e',r'⟩:=r.ix j;exact .inl ⟨p,xs,_,v,rfl,rfl,.of (cX e).2,e',k H _ _ q (.refl _) (NR.fz r')⟩
 .obtain⟨p,xs,rfl,e,r⟩:=hx.scrI;obtain⟨t,j,q⟩:=hg;obtain⟨v,e',r'⟩:=r.ix j;exact .inl ⟨p,xs,_,v,rfl,rfl,dO.seq e,e',k H _ _ q (.refl _) (NR.fz r')⟩
theorem bL(ha:QE X a ra)(hb:QE X b rb)(hs:sG b:=by exact λ_ _=>rfl):QE X (.Subscript a b pos) (rOp gIx ra rb):=(Nb gix ha hb hs).imp λ_ _ _=>q2
abbrev RO:=List OT->(Option Int->Prop)->Prop
def tQO(K:Frag)(r:RO):TO:=λσ H Q=>∃own o R,SR K own H σ o/\r o R/\∀H' b,R b->Same H H'->Q b H'
def QO(X:Cx)(e:Option Expr)(r:RO):Prop:=PO X e (tQO X.K r)
def anN:RO:=λ_ q=>q none
def ald(a:RE):RO:=λo q=>a o λx=>match frz x with|.int i=>q (some i)|_=>False
theorem PO.imp{X:Cx}{e:Option Expr}{t t':TO}(h:PO X e t)(i:∀σ H Q,t' σ H Q->t σ H Q):PO X e t':=λaa s σ H Q I q=>h aa s σ H Q I (i σ H Q q)
theorem Ru:QO X none anN:=aeP.imp λσ H Q hP=>by obtain⟨own,o,R,h,hr,k⟩:=hP;exact k H _ hr (.refl _)
theorem iG(h:QE X e re):QO X (some e) (ald re):=(acU h).imp λσ H Q ⟨own,o,R,h,hr,k⟩=>tQ.mk h hr λH1 v x q E1 r1=>by
 revert r1 q
 generalize frz x=t;intro q r1;cases r1<;>try exact q.elim
 exact⟨_,rfl,k _ _ q E1⟩
def gU{α:Type}(xs:List α)(lo hi:Option Int):List α:=(xs.drop (HT.sIx xs.length 0 lo)).take (HT.sIx xs.length xs.length hi-HT.sIx xs.length 0 lo)
theorem cu.cut{K:Frag}{F:Hp}{xs:Ζ}{ts:List T}(h:cu K F xs ts)(lo hi:Option Int):cu K F (Zg xs lo hi) (gU ts lo hi):=by
 unfold Zg gU;rw[h.len];exact(h.drop _).take _
def gSl:T->Option Int->Option Int->(OT->Prop)->Prop
 |.lst ts,lo,hi,q=>q (.l1 (gU ts lo hi))
 |.scr ts,lo,hi,q=>q (.l1 (gU ts lo hi))
 |.str s,lo,hi,q=>s.length<=sizeLine/\q (.fz (.str (Hr s lo hi)))
 |_,_,_,_=>False
def rSl(a:RE)(lo hi:RO):RE:=λo q=>a o λx=>lo o λl=>hi o λu=>gSl (frz x) l u q
theorem mL{rl rh:RO}(he:QE X e re)(hl:QO X lo rl)(hu:QO X hi rh):QE X (.Subscript e (.Slice lo hi none p2) pos) (rSl re rl rh):=(abC (acJ.or agA) he hl hu).imp λσ H Q ⟨own,o,R,h,hr,k⟩ =>
 tQ.mk h hr λH1 v x q E1 r1=>⟨own,o,_,h.same E1,q,λH2 l q E2=>⟨own,o,_,(h.same E1).same E2,q,λH3 u q E3=>by
  have E:=E1.trans (E2.trans E3);have r1:=r1.same (bV (E2.trans E3))
  revert r1 q
  generalize frz x=t;intro q r1;cases t<;>try exact q.elim
  .cases r1;exact .inr ⟨_,rfl,q.1,k _ _ _ q.2 E (NR.fz (.str _))⟩
  .obtain⟨p,xs,rfl,e,r⟩:=r1.lstI;exact .inl ⟨p,xs,rfl,.of (cX e).2,λa ha=>k _ _ _ q (E.trans (Same.upd ha)) ((Cr (r.cut l u) (Same.upd ha) ha cL).back E)⟩
  .obtain⟨p,xs,rfl,e,r⟩:=r1.scrI;exact .inl ⟨p,xs,rfl,dO.seq e,λa ha=>k _ _ _ q (E.trans (Same.upd ha)) ((Cr (r.cut l u) (Same.upd ha) ha cL).back E)⟩⟩⟩
end
section
variable{X:Cx}{e:Expr}{es:List Expr}{r:RA}{pos:Pos}
def aiu(r:RA):RE:=λo q=>r o λts=>q (.fz (.tup ts))
def ajB(r:RA):RE:=λo q=>r o λts=>q (.l1 ts)
theorem d9{k:Nat}(h:QA X es r)(hz:es.length<=sizeLine:=by decide):QE X (.Tuple es k pos) (aiu r):=(agV h).imp λσ H Q ⟨own,o,R,h,hr,k⟩=>tQA.mk h hr λH1 vs ts q ln E1 r1 =>
 ⟨by rw[r1.len,ln];exact hz,λp hp=>k _ _ _ q (E1.trans (Same.upd hp)) (NR.fz (.tup (.of (by rw[cQ λz=>(h.sole z).ne (E1.free hp)];exact cL)) (r1.same (bV (Same.upd hp)))))⟩
theorem dN(h:QA X es r)(hz:es.length<=sizeLine:=by decide):QE X (.List es pos) (ajB r):=(af8 h).imp λσ H Q ⟨own,o,R,h,hr,k⟩=>tQA.mk h hr λH1 vs ts q ln E1 r1 =>
 ⟨by rw[r1.len,ln];exact hz,λp hp=>k _ _ _ q (E1.trans (Same.upd hp)) ((Cr r1 (Same.upd hp) hp cL).back E1)⟩
def GC(X:Cx)(f:Value)(g:ST):Prop:=jO X f λxs H Q=>∃S ts R,(∀b,S b->H b≠none)/\cu X.K (hd S H) xs ts/\g ts R/\∀H' v z,R z->Same H H'->NR X.K S H H' v z->Q v H'
variable{x:Str}{p:Pos}{id Ty:String}{g:ST}
theorem bZ(hc:GC X (.builtin id) g)(hm:X.mg x=none)(hv:bootBuiltins x=some (.builtin id))(ha:QA X (e::es) r)(hg:Gl X x:=by rfl)(hn:x≠"__name__":=by decide)(ci:qk x:=by decide)
 (he:qo X e es:=by rfl)(bt:qh X pos es:=by rfl):QE X (.Call (.Name x p) (e::es) [] pos) (aa9 g r) :=
 (Te hc hg hm hv ha hn ci he bt).imp λσ H Q hP=>by obtain⟨own,o,R,h,hr,k⟩:=hP;exact tQA.mk h hr λH1 vs ts q _ E1 r1=>⟨Ow own,ts,R,λb z=>((h.same E1).sole z).ne,r1,q,λH' v z rz E n=>k H' v z rz (E1.trans E) (n.back E1)⟩
theorem jY(hc:GC X (.type Ty) g)(hm:X.mg x=none)(hv:bootBuiltins x=some (.type Ty))(ha:QA X (e::es) r)(hg:Gl X x:=by rfl)(hn:x≠"__name__":=by decide)(ci:qk x:=by decide)
 (he:qo X e es:=by rfl)(bt:qh X pos es:=by rfl):QE X (.Call (.Name x p) (e::es) [] pos) (aa9 g r) :=
 (Zf hc hg hm hv ha hn ci he bt).imp λσ H Q hP=>by obtain⟨own,o,R,h,hr,k⟩:=hP;exact tQA.mk h hr λH1 vs ts q _ E1 r1=>⟨Ow own,ts,R,λb z=>((h.same E1).sole z).ne,r1,q,λH' v z rz E n=>k H' v z rz (E1.trans E) (n.back E1)⟩
theorem cu.one{K:Frag}{F:Hp}{xs:Ζ}{t:T}(h:cu K F xs [t]):∃x,xs=[x]/\Rep K F x t:=by
 cases h with
 |cons a b=>cases b;exact⟨_,rfl,a⟩
theorem cu.two{K:Frag}{F:Hp}{xs:Ζ}{t u:T}(h:cu K F xs [t,u]):∃x y,xs=[x,y]/\Rep K F x t/\Rep K F y u:=by
 cases h with
 |cons a b =>
  obtain⟨y,rfl,c⟩:=b.one;exact⟨_,y,rfl,a,c⟩
def g1(g:T->(OT->Prop)->Prop):ST:=λts q=>match ts with|[t]=>g t q|_=>False
theorem GC.one{f:Value}{g:T->(OT->Prop)->Prop}{r:Ζ->Hp->VK->Prop}(h:jO X f r)(i:∀S t x H Q R,Rep X.K (hd S H) x t->g t R->(∀H' v z,R z->Same H H'->NR X.K S H H' v z->Q v H')->r [x] H Q):GC X f (g1 g):=h.imp λxs H Q hP=>by
 obtain⟨S,ts,R,_,rs,hg,k⟩:=hP
 match ts,hg with
 |[t],hg =>
  obtain⟨x,rfl,rx⟩:=rs.one;exact i S t x H Q R rx hg k
def am4:T->(OT->Prop)->Prop
 |.lst ts,q=>q (.fz (.int ts.length))
 |.tup ts,q=>q (.fz (.int ts.length))
 |.scr ts,q=>q (.fz (.int ts.length))
 |_,_=>False
theorem eN:GC X (.builtin "len") (g1 am4):=.one Rv λS t x H Q R rx hg k=>by
 cases t<;>try exact hg.elim
 .obtain⟨p,xs,rfl,e,r⟩:=rx.tupI;exact⟨p,xs,rfl,.inr (dO.tup e),k H _ _ hg (.refl _) (NR.fz (by rw[r.len];exact .int _))⟩
 .obtain⟨p,xs,rfl,e,r⟩:=rx.lstI;exact⟨p,xs,rfl,.inl (.of (cX e).2),k H _ _ hg (.refl _) (NR.fz (by rw[r.len];exact .int _))⟩
 .obtain⟨p,xs,rfl,e,r⟩:=rx.scrI;exact⟨p,xs,rfl,.inl (dO.seq e),k H _ _ hg (.refl _) (NR.fz (by rw[r.len];exact .int _))⟩
def amV:T->(OT->Prop)->Prop
 |.str s,q=>s.length<=sizeLine/\q (.fz (.int s.length))
 |_,_=>False
def am7:T->(OT->Prop)->Prop
 |.dct ks _,q=>q (.fz (.int ks.length))
 |_,_=>False
theorem Zt:jO X (.builtin "len") (λxs H Q=>∃p kvs,xs=[.ref p]/\Rd H p (.dK kvs)/\Q (.int kvs.length) H):=by
 intro aa s σ H xs us Q I r h;obtain⟨p,kvs,rfl,hp,q⟩:=h;obtain⟨u,rfl,rx⟩:=vals1 r;cases rx;have hok:kvs.length<=sizeLine/\(p==sysModules)=false/\∃vs,KV kvs vs/\s.heap.DictOf (jW X.prog X.w) p vs:=by
  rcases hp with hp|⟨o,hp⟩
  .exact I.hok p _ hp
  .exact(I.hok p _ hp).2
 obtain⟨hz,hS,vs,rr,m⟩:=hok;have hl:=zq;have bg:kvs.length=vs.length:=rr.length;exact call_len_dict hS m (by lia) ⟨.int kvs.length,H,I.tok _,⟨_,by rw[bg]⟩,q⟩
theorem Yq:GC X (.builtin "len") (g1 am7):=.one Zt λS t x H Q R rx hg k=>by
 cases t<;>try exact hg.elim
 obtain⟨p,xs,rfl,e,l,r⟩:=rx.dctI;exact⟨p,_,rfl,dO.rd e,k H _ _ hg (.refl _) (NR.fz (by rw[VX,l,UX];exact .int _))⟩
def amS:T->(OT->Prop)->Prop
 |.int i,q=>q (.fz (.int i.natAbs))
 |_,_=>False
theorem Jo:GC X (.builtin "abs") (g1 amS):=.one Z1 λS t x H Q R rx hg k=>by
 cases t<;>try exact hg.elim
 cases rx;exact⟨_,rfl,k H _ _ hg (.refl _) (NR.fz (by rw[afv];exact .int _))⟩
theorem cu.ints{K:Frag}{F:Hp} : ∀{xs:Ζ}{ns:List Int},cu K F xs (ns.map T.int)->xs=ns.map V.int
 |_,[],.nil=>rfl
 |_,n::ns,.cons a b=>by cases a;rw[cu.ints b];rfl
theorem cu.bls{K:Frag}{F:Hp} : ∀{xs:Ζ}{ns:List Bool},cu K F xs (ns.map T.bl)->xs=ns.map V.bl
 |_,[],.nil=>rfl
 |_,n::ns,.cons a b=>by cases a;rw[cu.bls b];rfl
theorem Gb{K:Frag}{F:Hp} : ∀(ns:List Int),cu K F (ns.map V.int) (ns.map T.int)
 |[]=>.nil
 |_::ns=>.cons (.int _) (Gb ns)
def anG:T->(OT->Prop)->Prop
 |.lst ts,q=>∃ns:List Int,ts=ns.map T.int/\q (.fz (.int ns.sum))
 |_,_=>False
theorem W3(hc:X.calm=true):GC X (.builtin "sum") (g1 anG):=.one (Zr hc) λS t x H Q R rx hg k=>by
 cases t<;>try exact hg.elim
 obtain⟨p,xs,rfl,e,r⟩:=rx.lstI;obtain⟨ns,rfl,q⟩:=hg;exact⟨p,ns,rfl,(r.ints ▸ (cX e).2),k H _ _ q (.refl _) (NR.fz (.int _))⟩
def akQ(f:List Bool->Bool):T->(OT->Prop)->Prop
 |.lst ts,q=>∃bs:List Bool,ts=bs.map T.bl/\q (.fz (.bl (f bs)))
 |_,_=>False
theorem Qf(hc:X.calm=true):GC X (.builtin "all") (g1 (akQ λbs=>bs.all λb=>b)):=.one (Ze hc) λS t x H Q R rx hg k=>by
 cases t<;>try exact hg.elim
 obtain⟨p,xs,rfl,e,r⟩:=rx.lstI;obtain⟨ns,rfl,q⟩:=hg;exact⟨p,ns,rfl,(r.bls ▸ (cX e).2),k H _ _ q (.refl _) (NR.fz (.bl _))⟩
theorem ab2(hc:X.calm=true):GC X (.builtin "any") (g1 (akQ λbs=>bs.any λb=>b)):=.one (YK hc) λS t x H Q R rx hg k=>by
 cases t<;>try exact hg.elim
 obtain⟨p,xs,rfl,e,r⟩:=rx.lstI;obtain⟨ns,rfl,q⟩:=hg;exact⟨p,ns,rfl,(r.bls ▸ (cX e).2),k H _ _ q (.refl _) (NR.fz (.bl _))⟩
def am1:T->(OT->Prop)->Prop
 |.lst ts,q=>∃ns:List Int,ts=ns.map T.int/\ns.length<64/\∀ms:List Int,ms.Perm ns->ms.Pairwise (· <= ·)->q (.l1 (ms.map T.int))
 |_,_=>False
theorem Zj:GC X (.builtin "sorted") (g1 am1):=.one Y_ λS t x H Q R rx hg k=>by
 cases t<;>try exact hg.elim
 obtain⟨p,xs,rfl,e,r⟩:=rx.lstI;obtain⟨ns,rfl,l,q⟩:=hg;exact⟨p,ns,rfl,(r.ints ▸ (cX e).2),l,λms a ha m1 m2=>k _ _ _ (q ms m1 m2) (Same.upd ha) (Cr (Gb ms) (Same.upd ha) ha cL)⟩
def aju:T->(OT->Prop)->Prop
 |.lst ts,q=>q (.l1 ts)
 |_,_=>False
theorem sV:GC X (.type "list") (g1 aju):=.one V8 λS t x H Q R rx hg k=>by
 cases t<;>try exact hg.elim
 obtain⟨p,xs,rfl,e,r⟩:=rx.lstI;exact⟨p,xs,rfl,(cX e).2,λa ha=>k _ _ _ hg (Same.upd ha) (Cr r (Same.upd ha) ha cL)⟩
def anu:T->(OT->Prop)->Prop
 |.int i,q=>q (.fz (.int i))
 |.bl b,q=>q (.fz (.int (if b then 1 else 0)))
 |_,_=>False
theorem agW:GC X (.type "int") (g1 anu):=.one ZF λS t x H Q R rx hg k=>by
 cases t<;>try exact hg.elim
 .cases rx;exact .inr ⟨_,rfl,k H _ _ hg (.refl _) (NR.fz (.int _))⟩
 .cases rx;exact .inl ⟨_,rfl,k H _ _ hg (.refl _) (NR.fz (.int _))⟩
inductive Knd where
 |int|bool|str|list|tuple
def Knd.s:Knd->String
 |.int=>"int"
 |.bool=>"bool"
 |.str=>"str"
 |.list=>"list"
 |.tuple=>"tuple"
def isK:Knd->T->Option Bool
 |.int,.int _=>some true
 |.int,.bl _=>some true
 |.bool,.bl _=>some true
 |.str,.str _=>some true
 |.list,.lst _=>some true
 |.tuple,.tup _=>some true
 |_,.any=>none
 |_,.val _=>none
 |_,.scr _=>none
 |_,.ins _ _ _=>none
 |_,.exc _ _ _=>none
 |_,.dct _ _=>none
 |_,_=>some false
theorem ahh(kd:Knd):GC X (.builtin "isinstance") (λts q=>match ts with|[t,.val v]=>v=.ty kd.s/\oT (isK kd t) λb=>q (.fz (.bl b))|_=>False):=by
 intro aa s σ H xs us Q I rs h;obtain⟨S,ts,R,_,rp,hg,k⟩:=h
 match ts,hg with
 |[t,.val v],hg =>
  obtain⟨x,y,rfl,rx,ry⟩:=rp.two;cases ry;obtain⟨rfl,hg⟩:=hg;obtain⟨b,j,q⟩:=afd hg;have hk:kd.s∈["bool","int","str","list","tuple","dict"]:=by cases kd<;>decide
  cases t with
  |tup ts =>
   obtain⟨p,ys,rfl,e,r⟩:=rx.tupI;have eb:b=Rt "tuple" kd.s:=by cases kd<;>cases j<;>decide
   exact Tr aa s σ H _ us Q I rs ⟨p,kd.s,ys,rfl,hk,dO.tup e,k H _ _ q (.refl _) (NR.fz (eb ▸ .bl _))⟩
  |lst ts =>
   obtain⟨p,ys,rfl,e,r⟩:=rx.lstI;have eb:b=Rt "list" kd.s:=by cases kd<;>cases j<;>decide
   exact xq aa s σ H _ us Q I rs ⟨_,kd.s,"list",rfl,hk,by show(match H p with|some (.lst _)=>some "list" |some (.tup _)=>some "tuple" |some (.dK _)=>some "dict" |_=>none)=_;rw[(cX e).2],k H _ _ q (.refl _) (NR.fz (eb ▸ .bl _))⟩
  |non =>
   cases rx;have eb:b=Rt "NoneType" kd.s:=by cases kd<;>cases j<;>decide
   exact xq aa s σ H _ us Q I rs ⟨_,kd.s,"NoneType",rfl,hk,rfl,k H _ _ q (.refl _) (NR.fz (eb ▸ .bl _))⟩
  |bl c =>
   cases rx;have eb:b=Rt "bool" kd.s:=by cases kd<;>cases j<;>decide
   exact xq aa s σ H _ us Q I rs ⟨_,kd.s,"bool",rfl,hk,rfl,k H _ _ q (.refl _) (NR.fz (eb ▸ .bl _))⟩
  |int i =>
   cases rx;have eb:b=Rt "int" kd.s:=by cases kd<;>cases j<;>decide
   exact xq aa s σ H _ us Q I rs ⟨_,kd.s,"int",rfl,hk,rfl,k H _ _ q (.refl _) (NR.fz (eb ▸ .bl _))⟩
  |str c =>
   cases rx;have eb:b=Rt "str" kd.s:=by cases kd<;>cases j<;>decide
   exact xq aa s σ H _ us Q I rs ⟨_,kd.s,"str",rfl,hk,rfl,k H _ _ q (.refl _) (NR.fz (eb ▸ .bl _))⟩
  |_=>cases kd<;>cases j
def anP(kd:Knd)(a:RE):RE:=λo q=>a o λx=>oT (isK kd (frz x)) λb=>q (.fz (.bl b))
theorem zV(kd:Knd){a:Expr}{ra:RE}{y:Str}{p2:Pos}(ha:QE X a ra)(hm:X.mg "isinstance"=none)(ki:X.mg y=none)(k3:bootBuiltins y=some (.type kd.s))(hg2:Gl X y:=by rfl)(hg:Gl X "isinstance":=by rfl)(ia:y≠"__name__":=by decide)(mi:qk y:=by decide)
 (he:starEach (a::[.Name y p2]) X.env=(false,eval a X.env)::starEach [.Name y p2] X.env:=by rfl):QE X (.Call (.Name "isinstance" p) [a,.Name y p2] [] pos) (anP kd ra) :=
 (Te (ahh kd) hg hm boot_isinstance (p7 ha (p7 (ac6 (v:=.ty kd.s) hg2 ki k3 rfl ia mi) PK) he) (by decide) (by decide) he).imp λσ H Q ⟨own,o,R,h,hr,k⟩=>tQ.mk h hr λH1 v x q E1 r1 =>
  ⟨Ow own,[frz x,.val (.ty kd.s)],R,λb z=>((h.same E1).sole z).ne,.cons r1 (.cons (.val _) .nil),⟨rfl,q⟩,λH' v z rz E n=>k H' v z rz (E1.trans E) (n.back E1)⟩
end
structure DT where
 nx:List OT->Prop
 rt:OT->Prop
 bk:List OT->Prop:=λ_=>False
 ct:List OT->Prop:=λ_=>False
 xc:Addr->Φ->List T->Prop:=λ_ _ _=>False
abbrev RS:=DT->List OT->Prop
def zx(X:Cx):XK:=λC d H'=>(∀aa σ H s a s' B,Inv X aa σ H s->Fly X.prog X.w X.stack H s a C H' s' B d->X.xe (.ref a) s') /\
 ∀aa σ H s a c,C=.ref c->Inv X aa σ H s->H a=some (XN a c d)->X.s₀.heap.objs.size<=a->out H a=H'->X.xe (.ref a) s
structure Lnk(K:Frag)(Z:XK)(F:Hp)(E:DT)(D:Ends):Prop where
 nx:∀own H σ o,E.nx o->Same F (hd (Ow own) H)->SR K own H σ o->D.nx σ H
 rt:∀S H v x B,E.rt x->Same F (hd S H)->Slo K (hd S H) H (some v) B x->(∀a∈B,S a)->D.rt v H
 bk:∀own H σ o,E.bk o->Same F (hd (Ow own) H)->SR K own H σ o->D.bk σ H
 ct:∀own H σ o,E.ct o->Same F (hd (Ow own) H)->SR K own H σ o->D.ct σ H
 xc:∀H C d ks vs ts,E.xc C ks ts->Same F H->H d=some (.xd (ks.zip vs))->cu K H vs ts->Z (.ref C) (some d) H
theorem Lnk.step{K:Frag}{Z:XK}{F F':Hp}{E:DT}{D:Ends}(h:Lnk K Z F E D)(S:Same F F'):Lnk K Z F' E D :=
 ⟨λown H σ o e s=>h.nx own H σ o e (S.trans s),λT H v x B e s=>h.rt T H v x B e (S.trans s),λown H σ o e s=>h.bk own H σ o e (S.trans s),λown H σ o e s=>h.ct own H σ o e (S.trans s),λH C d ks vs ts e s=>h.xc H C d ks vs ts e (S.trans s)⟩
def tQS(X:Cx)(r:RS):TS:=λD σ H=>∃own o E,SR X.K own H σ o/\r E o/\Lnk X.K (zx X) (hd (Ow own) H) E D
def QS(X:Cx)(st:Stmt)(r:RS):Prop:=PS X st (tQS X r)
def QSs(X:Cx)(st:List Stmt)(r:RS):Prop:=PSs X st (tQS X r)
theorem PS.imp{X:Cx}{st:Stmt}{t t':TS}(h:PS X st t)(i:∀D σ H,t' D σ H->t D σ H):PS X st t':=λaa s σ H D I q=>h aa s σ H D I (i D σ H q)
theorem PSs.imp{X:Cx}{st:List Stmt}{t t':TS}(h:PSs X st t)(i:∀D σ H,t' D σ H->t D σ H):PSs X st t':=λaa s σ H D I q=>h aa s σ H D I (i D σ H q)
def alT:RS:=λE o=>E.nx o
def mC(a b:RS):RS:=λE o=>a { E with nx:=b E } o
def agn(i:Nat)(a:RE):RS:=λE o=>a o λx=>E.nx (o.set i (.fz (frz x)))
def ahy(i:Nat)(a:RE):RS:=λE o=>a o λx=>E.nx (o.set i x)
def als(a:RE):RS:=λE o=>a o λ_=>E.nx o
def anq(a:RE):RS:=λE o=>a o E.rt
def afg(i:Nat):RS:=λE o=>match slot o i with|.und=>False|x=>E.rt x
def aja(c:RT)(a b:RS):RS:=λE o=>c o λk=>sw k (a E o) (b E o)
def afZ:RS:=λ_ _=>False
def akh(i:Nat)(a:RS):RS:=λE o=>match slot o i with|.und=>False|x=>a E (o.set i (.fz (frz x)))
section
variable{K:Frag}{own:Nat->Ψ}{H H':Hp}{σ:L2.St}{o:List OT}
theorem SR.putA(h:SR K own H σ o)(E:Same H H'){v:V}{x:OT}(n:NR K (Ow own) H H' v x)(i:Nat):∃ag,SR K ag H' (σ.set i (some v)) (o.set i x)/\Same (hd (Ow own) H) (hd (Ow ag) H'):=by
 by_cases hi:i<o.length
 .exact h.put E n hi
 .rw[QP (Nat.not_lt.mp hi),QP (h.len ▸ Nat.not_lt.mp hi)];exact⟨own,h.same E,bV E⟩
theorem NR.frz{S:Addr->Prop}{v:V}{x:OT}(n:NR K S H H' v x)(hs:∀b,S b->H b≠none):NR K S H H' v (.fz (L2.frz x)):=NR.fz (n.rep hs)
theorem Slo.val{F:Hp}{v:Option V}{A:Ψ}{x:OT}(h:Slo K F H v A x)(n:x≠.und):∃u,v=some u:=by
 cases x with
 |und=>exact absurd rfl n
 |fz t=>exact⟨_,h.2.choose_spec.1⟩
 |l1 ts=>obtain⟨a,xs,e,_⟩:=h;exact⟨_,e⟩
 |l2 ts=>obtain⟨a,xs,e,_⟩:=h;exact⟨_,e⟩
 |d1 ks ts=>obtain⟨a,xs,e,_⟩:=h;exact⟨_,e⟩
 |ob a d C ks ts=>obtain⟨xs,e,_⟩:=h;exact⟨_,e⟩
 |la a ts=>obtain⟨xs,e,_⟩:=h;exact⟨_,e⟩
theorem SR.val(h:SR K own H σ o){i:Nat}{x:OT}(e:slot o i=x)(n:x≠.und):∃u,σ[i]?=some (some u)/\Slo K (hd (Ow own) H) H (some u) (own i) x:=by
 have s:=h.sl i x (iz e n);obtain⟨u,hu⟩:=s.val n;rw[hu]at s;refine⟨u,?_,s⟩;cases z:σ[i]? with
 |none=>rw[z]at hu;cases hu
 |some w=>rw[z]at hu;exact ZH some hu
end
section
variable{X:Cx}{st:Stmt}{ik:List Stmt}{a b:RS}{e:Expr}{re:RE}{pos:Pos}
theorem bU:QSs X [] alT:=acT.imp λD σ H hP=>by obtain⟨own,o,E,h,hr,L⟩:=hP;exact L.nx own H σ o hr (.refl _) h
theorem anx{D:Ends}{σ:L2.St}{H:Hp}(h:tQS X (mC a b) D σ H):akL (tQS X a) (tQS X b) D σ H:=by
 obtain⟨own,o,E,h,hr,L⟩:=h;exact⟨own,o,_,h,hr,λag H' σ' o' q S h'=>⟨ag,o',E,h',q,L.step S⟩,L.rt,L.bk,L.ct,L.xc⟩
theorem bH(h1:QS X st a)(h2:QSs X ik b):QSs X (st::ik) (mC a b):=(acI h1 h2).imp λ_ _ _=>anx
theorem bJ(h:QS X st a):QSs X [st] a:=aeM h
theorem bR(i:Nat){x:Str}{bo:Pos}(he:QE X e re)(hN:X.N.Nodup:=by assumption)(hx:Loc X.env.scope x:=by first|exact .inl rfl|exact .inr rfl)(hi:X.N[i]?=some x:=by rfl)(hs:swapsWith e (some (.Name x bo)) pos.line X.env=pure false:=by rfl)(hf:qi X x:=by first|exact .inl rfl|exact .inr rfl|assumption) :
  QS X (.Assign [.Name x bo] e pos) (agn i re):=(aa4 hN hi hx he hs hf).imp λD σ H ⟨own,o,E,h,hr,L⟩=>⟨own,o,_,h,hr,λH' v y q S n=>by
 obtain⟨ag,h',S'⟩:=h.putA S (n.frz λb z=>(h.sole z).ne) i;exact L.nx ag H' _ _ q S' h'⟩
theorem jg(i:Nat){x:Str}{bo:Pos}(he:QE X e re)(hN:X.N.Nodup:=by assumption)(hx:Loc X.env.scope x:=by first|exact .inl rfl|exact .inr rfl)(hi:X.N[i]?=some x:=by rfl)(hs:swapsWith e (some (.Name x bo)) pos.line X.env=pure false:=by rfl)(hf:qi X x:=by first|exact .inl rfl|exact .inr rfl|assumption) :
  QS X (.Assign [.Name x bo] e pos) (ahy i re):=(aa4 hN hi hx he hs hf).imp λD σ H ⟨own,o,E,h,hr,L⟩=>⟨own,o,_,h,hr,λH' v y q S n=>by
 obtain⟨ag,h',S'⟩:=h.putA S n i;exact L.nx ag H' _ _ q S' h'⟩
theorem oE(he:QE X e re)(hs:swapsWith e none pos.line X.env=pure false:=by rfl):QS X (.Expr e pos) (als re):=(z9 he hs).imp λD σ H hP=>by obtain⟨own,o,E,h,hr,L⟩:=hP;exact⟨own,o,_,h,hr,λH' v y q S n=>L.nx own H' σ o q (bV S) (h.same S)⟩
theorem bT(he:QE X e re):QS X (.Return (some e) pos) (anq re):=(W_ he).imp λD σ H ⟨own,o,E,h,hr,L⟩=>⟨own,o,_,h,hr,λH' v y q S n=>by
 obtain⟨B,nb,s⟩:=n;exact L.rt _ H' v y B q (jk (λb z=>z.imp id (nb b)) S) s λa ha=>.inr ha⟩
theorem jj(i:Nat){x:Str}{p:Pos}(hN:X.N[i]?=some x:=by rfl)(hv:rZ X.env.scope x=true:=by rfl)(hd:qk x:=by decide)(bi:qf x:=by decide):QS X (.Return (some (.Name x p)) pos) (afg i):=(W_ (pv i hN hv hd bi)).imp λD σ H hP=>by
 obtain⟨own,o,E,h,hr,L⟩:=hP;have hr:E.rt (slot o i)/\slot o i≠.und:=by
  unfold afg at hr;cases e:slot o i<;>rw[e]at hr<;>first|exact hr.elim|exact⟨hr,λz=>by cases z⟩
 obtain⟨u,e,s⟩:=h.val rfl hr.2;exact⟨u,e,L.rt (Ow own) H u _ _ hr.1 (.refl _) s λa ha=>⟨i,ha⟩⟩
theorem cF{c:Expr}{ss ts:List Stmt}{qc:RT}(hc:QT X c qc)(ha:QSs X ss a)(hb:QSs X ts b):QS X (.If c ss ts pos) (aja qc a b):=(akv hc ha hb).imp λD σ H ⟨own,o,E,h,hr,L⟩=>tQT.mk h hr λH1 c q E1 =>
 Kd q (λq=>⟨own,o,E,h.same E1,q,L.step (bV E1)⟩) λq=>⟨own,o,E,h.same E1,q,L.step (bV E1)⟩
theorem iV:QS X st afZ:=aaP.imp λD σ H hP=>by obtain⟨own,o,E,h,hr,L⟩:=hP;exact hr
theorem Pa(i:Nat)(hs:QS X st a):QS X st (akh i a):=PS.imp hs λD σ H hP=>by
 obtain⟨own,o,E,h,hr,L⟩:=hP;have hr:a E (o.set i (.fz (frz (slot o i))))/\slot o i≠.und:=by
  unfold akh at hr;cases e:slot o i<;>rw[e]at hr<;>first|exact hr.elim|exact⟨hr,λz=>by cases z⟩
 obtain⟨u,e1,s⟩:=h.val rfl hr.2;obtain⟨ag,h',S⟩:=h.frz (iz rfl hr.2) e1;exact⟨ag,_,E,h',hr.1,L.step S⟩
theorem Gp{S:Addr->Prop}{H:Hp}{D:Addr}{u:HO}(h:S D):hd S (upd H D u)=hd S H:=funext λb=>by
 by_cases z:S b
 .rw[rG z,rG z]
 .rw[cQ z,cQ z,cD λ(e:b=D)=>z (e.symm ▸ h)]
def asL:OT->Option (List T×(List T->OT))
 |.l1 ts=>some (ts,.l1)
 |.la a ts=>some (ts,.la a)
 |_=>none
def onL(x:OT)(k:List T->(List T->OT)->Prop):Prop:=match asL x with|some (ts,c)=>k ts c|none=>False
theorem Gn{x:OT}{k:List T->(List T->OT)->Prop}(h:onL x k):∃ts c,k ts c/\((x=.l1 ts/\c=.l1)\/∃a,x=.la a ts/\c=.la a):=by
 cases x with
 |l1 ts=>exact⟨ts,_,h,.inl ⟨rfl,rfl⟩⟩
 |la a ts=>exact⟨ts,_,h,.inr ⟨a,rfl,rfl⟩⟩
 |_=>exact h.elim
def ame(i:Nat)(a:RE):RS:=λE o=>onL (slot o i) λts c=>a o λy=>ts.length<sizeLine/\E.nx (o.set i (c (ts++[frz y])))
theorem SR.l1{K:Frag}{own:Nat->Ψ}{H:Hp}{σ:L2.St}{o:List OT}(h:SR K own H σ o){i:Nat}{ts:List T}{c:List T->OT}(e:(slot o i=.l1 ts/\c=.l1)\/∃a,slot o i=.la a ts/\c=.la a):∃l xs,σ[i]?=some (some (.ref l))/\own i=[l]/\H l=some (.lst xs)/\cu K (hd (Ow own) H) xs ts/\∀(H':Hp)(ys:Ζ)us,H' l=some (.lst ys)->cu K (hd (Ow own) H') ys us->Slo K (hd (Ow own) H') H' (some (.ref l)) [l] (c us):=by
 rcases e with⟨e,rfl⟩|⟨a,e,rfl⟩
 .obtain⟨u,e1,l,xs,e2,e3,e4,r⟩:=h.val e (by intro z;cases z);cases e2;exact⟨l,xs,e1,e3,e4,r,λH' ys us a b=>⟨l,ys,rfl,rfl,a,b⟩⟩
 .obtain⟨u,e1,xs,e2,e3,e4,r⟩:=h.val e (by intro z;cases z);cases e2;exact⟨a,xs,e1,e3,e4,r,λH' ys us a b=>⟨ys,rfl,rfl,a,b⟩⟩
theorem Ja{o:List OT}{i:Nat}{ts:List T}{c:List T->OT}(e:(slot o i=.l1 ts/\c=.l1)\/∃a,slot o i=.la a ts/\c=.la a):∃x,o[i]?=some x:=by
 rcases e with⟨e,_⟩|⟨a,e,_⟩
 .exact⟨_,iz e (by intro z;cases z)⟩
 .exact⟨_,iz e (by intro z;cases z)⟩
theorem SR.chg1{K:Frag}{own:Nat->Ψ}{H:Hp}{σ:L2.St}{o:List OT}(h:SR K own H σ o){i:Nat}{us:List T}{c:List T->OT}(e:∃x,o[i]?=some x){l:Addr}{ys:Ζ}(eσ:σ[i]?=some (some (.ref l)))(eo:own i=[l])(sl:∀(H':Hp)(ys:Ζ)us,H' l=some (.lst ys)->cu K (hd (Ow own) H') ys us->Slo K (hd (Ow own) H') H' (some (.ref l)) [l] (c us))(r:cu K (hd (Ow own) H) ys us):SR K own (upd H l (.lst ys)) σ (o.set i (c us))/\Same (hd (Ow own) H) (hd (Ow own) (upd H l (.lst ys))):=by
 obtain⟨x,e⟩:=e;refine h.chg e (λb u hb e=>(cD λz=>hb (by rw[eo,z];simp)).trans e) ?_;rw[eσ,eo];exact sl _ ys us cL (by rw[Gp ⟨i,by rw[eo];simp⟩];exact r)
theorem yD(i:Nat){x:Str}{ah ae p:Pos}(he:QE X e re)(hN:X.N[i]?=some x:=by rfl)(hv:rZ X.env.scope x=true:=by rfl)(bz:qk x:=by decide)(bi:qf x:=by decide)
 (hb:attributeBase (.Name x p) "append" X.env (eval (.Name x p) X.env)=eval (.Name x p) X.env:=by rfl)
 (hf:qr X ae e:=by rfl)
 (hl:zz ah ae:=by rfl)(cc:qo X e []:=by rfl)(hp:qh X ae []:=by rfl)
 (hs:swapsWith (.Call (.Attribute (.Name x p) "append" ah) [e] [] ae) none pos.line X.env=pure false:=by rfl) :
  QS X (.Expr (.Call (.Attribute (.Name x p) "append" ah) [e] [] ae) pos) (ame i re):=(z9 (acp (pv i hN hv bz bi) (p7 he PK cc) hb hf hl cc hp) hs).imp λD σ H hP=>by
 obtain⟨own,o,E,h,hr,L⟩:=hP;obtain⟨ts,c,hr,es⟩:=Gn hr;obtain⟨l,xs,e1,e2,e3,r,sl⟩:=h.l1 es;refine⟨_,e1,l,xs,rfl,e3,tQ.mk h hr λH1 v y q E1 r1=>⟨v,xs,rfl,E1 _ _ e3,by rw[r.len];exact q.1,?_⟩⟩;obtain⟨h',S⟩:=(h.same E1).chg1 (Ja es) e1 e2 sl ((r.same (bV E1)).app (.cons r1 .nil));exact L.nx own _ σ _ q.2 ((bV E1).trans S) h'
def am6(i:Nat)(a b:RE):RS:=λE o=>onL (slot o i) λts c=>a o λy=>b o λk=>(match frz k with|.int j=>∃n,ixN ts.length j=some n/\E.nx (o.set i (c (ts.set n (frz y))))|_=>False)
theorem lM(i:Nat){x:Str}{k:Expr}{rk:RE}{aE p:Pos}(he:QE X e re)(hk:QE X k rk)(hN:X.N[i]?=some x:=by rfl)(hv:rZ X.env.scope x=true:=by rfl)(bz:qk x:=by decide)(bi:qf x:=by decide)
 (ha:∀v,assign (.Subscript (.Name x p) k aE) X.env v=(do
   let ov <- holding [v] (eval (.Name x p) X.env)
   let iv <- holding [v,ov] (eval k X.env)
   standAt aE
   holding [v,ov,iv] (setItem ov iv v)
   release [v,ov,iv] []):=by intro _;rfl)
 (hs:swapsWithSole [.Subscript (.Name x p) k aE] e pos.line X.env=pure false:=by rfl)(hw:swappedStores [.Subscript (.Name x p) k aE] e X.env=pure none:=by rfl)
 (h1:(assignEach [.Subscript (.Name x p) k aE] X.env).map (·.2)=[assign (.Subscript (.Name x p) k aE) X.env]:=by rfl):QS X (.Assign [.Subscript (.Name x p) k aE] e pos) (am6 i re rk):=(W5 he (abg (pv i hN hv bz bi) hk set_list ha) hs hw h1).imp λD σ H hP=>by
 obtain⟨own,o,E,h,hr,L⟩:=hP;obtain⟨ts,c,hr,es⟩:=Gn hr;obtain⟨l,xs,e1,e2,e3,r,sl⟩:=h.l1 es;refine tQ.mk h hr λH1 v y q E1 r1=>⟨_,e1,tQ.mk (h.same E1) q λH2 w z q E2 r2=>?_⟩;have r1:=r1.same (bV E2)
 revert r2 q
 generalize frz z=t;intro q r2;cases t<;>try exact q.elim
 cases r2;obtain⟨n,en,q⟩:=q;have bS:=E1.trans E2;refine⟨l,xs,_,n,rfl,rfl,bS _ _ e3,by rw[r.len];exact en,?_⟩;obtain⟨h',S⟩:=(h.same bS).chg1 (Ja es) e1 e2 sl (cu.set r1 n (r.same (bV bS)));exact L.nx own _ σ _ q ((bV bS).trans S) h'
def am5(i:Nat)(b:RE):RE:=λo q=>onL (slot o i) λts _=>b o λy=>(match frz y with|.int j=>∃t,ixT ts j=some t/\q (.fz t)|_=>False)
theorem zY(i:Nat){x:Str}{p:Pos}{b:Expr}{rb:RE}(hb:QE X b rb)(hN:X.N[i]?=some x:=by rfl)(hv:rZ X.env.scope x=true:=by rfl)(bz:qk x:=by decide)
 (bi:qf x:=by decide)(hs:sG b:=by exact λ_ _=>rfl):QE X (.Subscript (.Name x p) b pos) (am5 i rb):=(Nb Ae (pv i hN hv bz bi) hb hs).imp λσ H Q hP=>by
 obtain⟨own,o,R,h,hr,k⟩:=hP;obtain⟨ts,c,hr,es⟩:=Gn hr;obtain⟨a,xs,e1,e2,e3,r,sl⟩:=h.l1 es;refine⟨_,e1,tQ.mk h hr λH1 v y q E1 r1=>?_⟩
 revert r1 q
 generalize frz y=t;intro q r1;cases t<;>try exact q.elim
 cases r1;obtain⟨t,j,q⟩:=q;obtain⟨v,e',r'⟩:=r.ix j;exact⟨a,xs,_,v,rfl,rfl,.of (E1 _ _ e3),e',k H1 _ _ q E1 (NR.fz (r'.same (bV E1)))⟩
def aeW(i:Nat)(f:Int->Int->Int)(a:RE):RS:=λE o=>match slot o i with|.fz (.int k)=>a o λy=>(match frz y with|.int j=>E.nx (o.set i (.fz (.int (f k j))))|_=>False)|_=>False
theorem aa3(i:Nat){x:Str}{op:Operator}{f:Int->Int->Int}{bo:Pos}(ho:PIp X op (ipI f))(he:QE X e re)(hN:X.N.Nodup:=by assumption)(hx:Loc X.env.scope x:=by first|exact .inl rfl|exact .inr rfl)(hi:X.N[i]?=some x:=by rfl)(hf:qi X x:=by first|exact .inl rfl|exact .inr rfl|assumption):QS X (.AugAssign (.Name x bo) op e pos) (aeW i f re):=(ahg hN hi hx he ho hf).imp λD σ H hP=>by
 obtain⟨own,o,E,h,hr,L⟩:=hP;unfold aeW at hr;cases es:slot o i with
 |fz t =>
  rw[es]at hr;cases t<;>try exact hr.elim
  obtain⟨u,e1,r⟩:=h.get (iz es (by intro z;cases z));cases r;refine⟨_,e1,tQ.mk h hr λH1 v y q E1 r1=>?_⟩
  revert r1 q
  generalize frz y=t;intro q r1;cases t<;>try exact q.elim
  cases r1;refine⟨_,_,rfl,rfl,?_⟩;obtain⟨ag,h',S⟩:=(h.same E1).putA (.refl _) (NR.fz (.int _)) i;exact L.nx ag _ _ _ q ((bV E1).trans S) h'
 |_=>rw[es]at hr;exact hr.elim
def Fy(n:Nat)(own ag:Nat->Ψ)(σ σ':L2.St):Prop:=(∀j,ag j=own j\/(j<n/\ag j=[]))/\σ'.length=σ.length/\∀j,n<=j->σ'[j]?=σ[j]?
theorem Fy.refl{n:Nat}{own:Nat->Ψ}{σ:L2.St} : Fy n own own σ σ:=⟨λ_=>.inl rfl,rfl,λ_ _=>rfl⟩
theorem Fy.trans{n:Nat}{own own1 bX:Nat->Ψ}{σ σ1 σ2:L2.St}(a:Fy n own own1 σ σ1)(b:Fy n own1 bX σ1 σ2):Fy n own bX σ σ2 :=
 ⟨λj=>(b.1 j).elim (λe=>(a.1 j).imp (λz=>e.trans z) λz=>⟨z.1,e.trans z.2⟩) .inr,b.2.1.trans a.2.1,λj hj=>(b.2.2 j hj).trans (a.2.2 j hj)⟩
theorem Fy.same{n:Nat}{own ag:Nat->Ψ}{σ σ':L2.St}(a:Fy n own ag σ σ'){H:Hp} : Same (hd (Ow own) H) (hd (Ow ag) H):=jk (λb hP=>by obtain⟨j,z⟩:=hP;exact .inl ⟨j,(a.1 j).elim (λe=>e ▸ z) λe=>by rw[e.2]at z;cases z⟩) λ_ _ z=>z
abbrev qS:Type:=T->List OT->(List OT->Prop)->Prop
def tQG(K:Frag)(n:Nat)(g:qS):TG:=λv σ H Q=>∃own o t R,SR K own H σ o/\Rep K (hd (Ow own) H) v t/\g t o R/\∀ag σ' o',R o'->Fy n own ag σ σ'->SR K ag H σ' o'->Q σ' H
def QG(X:Cx)(n:Nat)(tg:Expr)(g:qS):Prop:=PG X tg (tQG X.K n g)
abbrev qE:Type:=List T->List OT->(List OT->Prop)->Prop
def QGs(X:Cx)(n:Nat)(tg:List Expr)(g:qE):Prop:=PGs X tg λv σ H Q=>∃own o t R,SR X.K own H σ o/\cu X.K (hd (Ow own) H) v t/\g t o R/\∀ag σ' o',R o'->Fy n own ag σ σ'->SR X.K ag H σ' o'->Q σ' H
theorem PGs.imp{tg:List Expr}{t t':TGs}(h:PGs X tg t)(i:∀v σ H Q,t' v σ H Q->t v σ H Q):PGs X tg t':=λaa s σ H v u Q I r q=>h aa s σ H v u Q I r (i _ _ _ _ q)
def hName(i:Nat):qS:=λt o q=>q (o.set i (.fz t))
def ahW:qE:=λts o q=>match ts with|[]=>q o|_=>False
def aeX(g:qS)(gs:qE):qE:=λts o q=>match ts with|t::ts=>g t o λo'=>gs ts o' q|_=>False
def anl(n:Nat)(gs:qE):qS:=λt o q=>match t with|.tup ts=>ts.length=n/\gs ts o q|_=>False
theorem SR.setF{K:Frag}{own:Nat->Ψ}{H:Hp}{σ:L2.St}{o:List OT}(h:SR K own H σ o){v:V}{t:T}(r:Rep K (hd (Ow own) H) v t){n i:Nat}(hi:i<n):∃ag,SR K ag H (σ.set i (some v)) (o.set i (.fz t))/\Fy n own ag σ (σ.set i (some v)):=by
 have le:Same (hd (Ow own) H) (hd (Ow (own1 own i [])) H):=jk (λb z=>.inl (z.of1.elim id λy=>(nomatch y))) λ_ _ z=>z;have go:Fy n own (own1 own i []) σ (σ.set i (some v)):=⟨λj=>by
  by_cases z:j=i
  .exact .inr ⟨z ▸ hi,by rw[z,j9]⟩
  .exact .inl (fY z),WH,λj hj=>VV (by lia)⟩
 by_cases hl:i<o.length
 .refine⟨own1 own i [],⟨by rw[WH,WH,h.len],λj y e=>?_,λj hj a ha=>?_,λj k a e1 e2=>?_⟩,go⟩
  .by_cases z:j=i
   .subst z;rw[UU hl]at e;cases e;rw[j9,UU (h.len ▸ hl)];exact⟨rfl,v,rfl,r.same le⟩
   .rw[VV (Ne.symm z)]at e;rw[fY z,VV (Ne.symm z)];exact(h.sl j y e).same le λ_ _ z=>z
  .rw[WH]at hj;rw[fY (by lia)]at ha;exact h.out j hj a ha
  .by_cases z:j=i
   .rw[z,j9]at e1;cases e1
   by_cases y:k=i
   .rw[y,j9]at e2;cases e2
   .rw[fY z]at e1;rw[fY y]at e2;exact h.dis j k a e1 e2
 .refine⟨own,?_,⟨λ_=>.inl rfl,go.2⟩⟩;rw[QP (Nat.not_lt.mp hl),QP (h.len ▸ Nat.not_lt.mp hl)];exact h
theorem cj{n:Nat}(i:Nat){x:Str}(hN:X.N.Nodup:=by assumption)(hx:Loc X.env.scope x:=by first|exact .inl rfl|exact .inr rfl)(hi:X.N[i]?=some x:=by rfl)(hn:i<n:=by decide)(hf:qi X x:=by first|exact .inl rfl|exact .inr rfl|assumption):QG X n (.Name x pos) (hName i):=(jh hN hi hx hf).imp λv σ H Q hP=>by
 obtain⟨own,o,t,R,h,r,hg,k⟩:=hP;obtain⟨ag,h',S⟩:=h.setF r hn;exact k ag _ _ hg S h'
theorem dG{n:Nat} : QGs X n [] ahW:=aed.imp λv σ H Q hP=>by
 obtain⟨own,o,t,R,h,r,hg,k⟩:=hP;cases r with
 |nil=>exact⟨rfl,k own σ o hg .refl h⟩
 |cons _ _=>exact hg.elim
theorem bQ{n:Nat}{e:Expr}{es:List Expr}{g:qS}{gs:qE}(h1:QG X n e g)(h2:QGs X n es gs)(hs:(assignEach (e::es) X.env).map (·.2)=assign e X.env::(assignEach es X.env).map (·.2):=by rfl):QGs X n (e::es) (aeX g gs):=(ab7 h1 h2 hs).imp λv σ H Q hP=>by
 obtain⟨own,o,t,R,h,r,hg,k⟩:=hP;cases r with
 |nil=>exact hg.elim
 |cons a b=>exact⟨_,_,rfl,own,o,_,_,h,a,hg,λag σ' o' q S h'=>⟨ag,o',_,R,h',b.same S.same,q,λbX σ2 o2 q S2 h2=>k bX σ2 o2 q (S.trans S2) h2⟩⟩
theorem fB{m:Nat}{es:List Expr}{k:Nat}{gs:qE}{n:Nat}(h:QGs X m es gs)(hc:X.calm=true:=by rfl)(hn:(assignEach es X.env).length=n:=by rfl)(cc:zk X es:=by rfl):QG X m (.Tuple es k pos) (anl n gs):=(ahq hc h hn cc).imp λv σ H Q hP=>by
 obtain⟨own,o,t,R,h,r,hg,k⟩:=hP;cases t<;>try exact hg.elim
 obtain⟨a,xs,rfl,e,r⟩:=r.tupI;exact⟨a,xs,rfl,dO.tup e,r.len.trans hg.1,own,o,_,R,h,r,hg.2,k⟩
def anH(a:RE)(g:qS):RS:=λE o=>a o λx=>g (frz x) o E.nx
theorem W2{n:Nat}{tg:Expr}{g:qS}(he:QE X e re)(hg:QG X n tg g)(hs:swapsWithSole [tg] e pos.line X.env=pure false:=by rfl)(hw:swappedStores [tg] e X.env=pure none:=by rfl)(h1:(assignEach [tg] X.env).map (·.2)=[assign tg X.env]:=by rfl):QS X (.Assign [tg] e pos) (anH re g) :=
 (W5 he hg hs hw h1).imp λD σ H hP=>by obtain⟨own,o,E,h,hr,L⟩:=hP;exact tQ.mk h hr λH1 v y q E1 r1=>⟨own,o,_,_,h.same E1,r1,q,λag σ' o' q S h'=>L.nx ag H1 σ' o' q ((bV E1).trans S.same) h'⟩
end
section
variable{P:Program}{w:World}{K:Frag}{mg:Str->Ω}{base:Heap}
def start'(n:Nat)(ts:List T):List OT:=ts.map OT.fz++List.replicate (n-ts.length) .und
theorem SR.start{H:Hp}{vs:Ζ}{ts:List T}(r:cu K H vs ts)(N:Φ):SR K (λ_=>[]) H (start N vs) (start' N.length ts):=by
 have e0:Ow (λ_=>[])=λ_=>False:=funext λb=>propext ⟨λhP=>by obtain⟨_,z⟩:=hP;exact(nomatch z),False.elim⟩;refine⟨by unfold start' L2.start;simp[r.len],λi x e=>?_,λ_ _ _ z=>(nomatch z),λi j a z=>(nomatch z)⟩;rw[e0,Xj];unfold start' at e;unfold L2.start;by_cases hi:i<ts.length
 .rw[aF (by simpa using hi),aq,aj hi]at e;cases e;obtain⟨v,e1,r1⟩:=r.at_ (aj hi);rw[aF (by rw[ak,r.len];exact hi),aq,e1];exact⟨rfl,v,rfl,r1⟩
 .rw[aD (by simpa using hi),ak,XG]at e;by_cases hj:i-ts.length<N.length-ts.length
  .rw[ZY hj]at e;cases e;rfl
  .rw[ZZ hj]at e;cases e
theorem Fun.okT{x ai:Str}{st:Stmt}{f:Addr}{fd:FuncData}{N ps:Φ}{k:Nat}{S:ST}(F:Fun K x ai st f fd)(sc:bM N ps (bI st))
 (ck:∀(af:Value)(A:Around)(outer:List Env)(s:Shared)(H:Hp)(E:XK),eG k (A.deeper (envOfC ai (bI st) s.heap.objs.size f af))->N.Nodup ->
   ∃r,QSs (O8 CX0 P w K mg base N ai (bI st) f af A outer s H E).nox (gk st) r/\∀ts R,S ts R->r { nx:=λ_=>R (.fz .non),rt:=R } (start' N.length ts))(len:∀ts R,S ts R->ts.length=ps.length:=by intro _ _ h;repeat (first|exact(ZH List.length h.1).trans rfl|obtain⟨_,h⟩:=h)):gW P w K mg base CX0 (k+1) f fd ps (spT K S):=by
 refine F.ok sc (λvs H Q E h=>?_) λaf A outer s H vs Q E hr h=>?_
 .obtain⟨ts,R,r,hS,_⟩:=h;exact r.len.trans (len ts R hS)
 .obtain⟨ts,R,r,hS,q⟩:=h;obtain⟨rd,h1,h2⟩:=ck af A outer s H E hr sc.nd;have e0:hd (Ow λ_=>[]) H=H:=by rw[show Ow (λ_=>[])=λ_=>False from funext λb=>propext ⟨λhP=>by obtain⟨_,z⟩:=hP;exact(nomatch z),False.elim⟩,Xj]
  have fin:∀(S:Addr->Prop)H' v x B,R x->Same H (hd S H')->Slo K (hd S H') H' (some v) B x->(∀a∈B,S a)->Q v H':=λS' H' v x B rx E s hB =>
   q H' v x rx (E.trans dO) ⟨B,λa ha=>E.free (rG (hB a ha)),s.same (jk (λb z=>.inl (z.elim False.elim (hB b))) λ_ _ z=>z) λ_ _ z=>z⟩
  refine⟨_,h1,λ_=>[],_,_,SR.start r N,h2 ts R hS,⟨λown H' σ o rx E h=>?_,λS' H' v x B rx E s hB=>fin S' H' v x B rx (e0 ▸ E) s hB,λ_ _ _ _ z=>z.elim,λ_ _ _ _ z=>z.elim,λ_ _ _ _ _ _ z=>z.elim⟩⟩;exact fin (Ow own) H' .non _ [] rx (e0 ▸ E) ⟨rfl,_,rfl,.non⟩ λ_ z=>(nomatch z)
end
abbrev RI:=List OT->(List T->Prop)->Prop
def Wlk(K:Frag)(J:It)(F:Hp)(xs:List T):Prop:=∀(S:Addr->Prop)(H:Hp)(i:Nat),(∀b,S b->H b≠none)->Same F (hd S H) ->
 (i=xs.length->J.stop i H)/\∀t,xs[i]?=some t->J.go i H/\∀x H',J.yld i H x H'->Same H H'/\Rep K (hd S H') x t
def tQI(K:Frag)(r:RI):TI:=λσ H Q=>∃own o R,SR K own H σ o/\r o R/\∀H' J xs,R xs->Same H H'->Wlk K J (hd (Ow own) H') xs->Q J H'
def QI(X:Cx)(tg it:Expr)(r:RI):Prop:=PI X tg it (tQI X.K r)
theorem PI.imp{X:Cx}{tg it:Expr}{t t':TI}(h:PI X tg it t)(i:∀σ H Q,t' σ H Q->t σ H Q):PI X tg it t':=λaa s σ H Q I q=>h aa s σ H Q I (i σ H Q q)
def anh(a:RE):RI:=λo q=>a o λx=>match frz x with|.lst ts=>q ts|_=>False
theorem acq{S:Addr->Prop}{H:Hp}{t:Addr}{u:HO}(n:H t=none)(hs:∀b,S b->H b≠none):hd S (upd H t u) t=some u:=by rw[cQ λz=>hs t z n];exact cL
section
variable{X:Cx}{tg:Expr}{e a b:Expr}{re ra rb:RE}{p pos aE:Pos}
theorem b_(he:QE X e re):QI X tg e (anh re):=(adN he).imp λσ H Q ⟨own,o,R,h,hr,k⟩=>tQ.mk h hr λH1 v x q E1 r1=>by
 revert r1 q
 generalize frz x=t;intro q r1;cases t<;>try exact q.elim
 obtain⟨a,xs,rfl,e,r⟩:=r1.lstI;refine⟨a,rfl,⟨xs,.of (cX e).2⟩,k H1 _ _ q E1 λS H2 i _ SF=>⟨λhi=>⟨xs,.of (cX (SF _ _ e)).2,by rw[r.len];exact WJ hi.symm⟩,λt ht=>?_⟩⟩;obtain⟨y,ey,ry⟩:=r.at_ ht;refine⟨⟨xs,y,.of (cX (SF _ _ e)).2,ey⟩,?_⟩;rintro x H3 ⟨rfl,hx⟩;have:=hx xs (.of (cX (SF _ _ e)).2);rw[ey]at this;cases this;exact⟨.refl _,ry.same SF⟩
def rng(lo:Int)(n:Nat):List T:=(List.range n).map λk:Nat=>.int (lo+k)
theorem X7{K:Frag}{lo:Int}{n:Nat}{F:Hp} : Wlk K (Itr lo n) F (rng lo n):=λS H i _ _=>⟨λhi=>by rw[rng,ak,WP]at hi;exact WJ hi.symm,λt ht=>by
 unfold rng at ht;rw[aq]at ht;by_cases hi:i<n
 .rw[VZ hi]at ht;cases ht;refine⟨hi,?_⟩;rintro x H' ⟨rfl,rfl⟩;exact⟨.refl _,.int _⟩
 .rw[aM (by simpa using hi)]at ht;cases ht⟩
def amj(r:RA):RI:=λo q=>r o λts=>match ts with|[.int j]=>(-(2^62)<=j/\j<2^62)/\q (rng 0 j.toNat)|_=>False
def anj(r:RA):RI:=λo q=>r o λts=>match ts with|[.int i,.int j]=>(-(2^62)<=i/\i<2^62/\-(2^62)<=j/\j<2^62)/\q (rng i (j-i).toNat)|_=>False
theorem eY{r:RA}(hm:X.mg "range"=none)(ha:QA X [a] r)(hg:Gl X "range":=by rfl)(hs:starEach [a] X.env=[(false,eval a X.env)]:=by rfl):QI X tg (.Call (.Name "range" p) [a] [] pos) (amj r):=(ZC hg hm ha hs).imp λσ H Q ⟨own,o,R,h,hr,k⟩=>⟨own,o,_,h,hr,λH1 vs ts q _ E1 r1=>by
 match ts,q with
 |[.int j],q =>
  obtain⟨x,rfl,rx⟩:=r1.one;cases rx;exact⟨j,rfl,q.1.1,q.1.2,k H1 _ _ q.2 E1 X7⟩⟩
theorem Ng{r:RA}(hm:X.mg "range"=none)(ha:QA X [a,b] r)(hg:Gl X "range":=by rfl)(hs:starEach [a,b] X.env=[(false,eval a X.env),(false,eval b X.env)]:=by rfl)(eT:starEach [b] X.env=[(false,eval b X.env)]:=by rfl):QI X tg (.Call (.Name "range" p) [a,b] [] pos) (anj r):=(ZK hg hm ha hs eT).imp λσ H Q ⟨own,o,R,h,hr,k⟩=>⟨own,o,_,h,hr,λH1 vs ts q _ E1 r1=>by
 match ts,q with
 |[.int i,.int j],q =>
  obtain⟨x,y,rfl,rx,ry⟩:=r1.two;cases rx;cases ry;exact⟨i,j,rfl,q.1,k H1 _ _ q.2 E1 X7⟩⟩
def sI(ts:List T):List T:=ts.zipIdx.map λp=>.tup [.int (p.2:Nat),p.1]
def anK(r:RA):RI:=λo q=>r o λts=>match ts with|[.lst ts]=>q (sI ts)|_=>False
theorem sy{r:RA}{b5:List Expr}{x1}(hm:X.mg "enumerate"=none)(ha:QA X [a] r)(hg:Gl X "enumerate":=by rfl)(hs:starEach [a] X.env=[(false,eval a X.env)]:=by rfl):QI X (.Tuple b5 x1 aE) (.Call (.Name "enumerate" p) [a] [] pos) (anK r):=(ac8 hg hm ha hs).imp λσ H Q ⟨own,o,R,h,hr,k⟩=>⟨own,o,_,h,hr,λH1 vs ts q _ E1 r1=>by
 match ts,q with
 |[.lst ts],q =>
  obtain⟨x,rfl,rx⟩:=r1.one;obtain⟨a,xs,rfl,e,r⟩:=rx.lstI;refine⟨a,xs,rfl,(cX e).2,k H1 _ _ q E1 λS H2 i hs SF=>⟨λhi=>⟨xs,(cX (SF _ _ e)).2,by rw[r.len,hi];simp[sI]⟩,λt ht=>?_⟩⟩;unfold sI at ht;rw[aq]at ht;by_cases hi:i<ts.length
  .rw[aj (by simpa using hi),JJ]at ht;cases ht;obtain⟨y,ey,ry⟩:=r.at_ (aj hi);refine⟨⟨xs,(cX (SF _ _ e)).2,by rw[r.len];exact hi⟩,?_⟩;rintro x H3 ⟨e9,x',t,e',ex,n,rfl,rfl⟩;rw[(cX (SF _ _ e)).2]at e';cases e';rw[ey]at ex;cases ex;refine⟨Same.upd n,.tup (.of (acq n hs)) (.cons ?_ (.cons (ry.same (SF.trans (bV (Same.upd n)))) .nil))⟩;rw[show((0+i:Nat):Int)=(i:Int)by lia];exact .int _
  .rw[aM (by simpa using hi)]at ht;cases ht⟩
def Gj(ts us:List T):List T:=(ts.zip us).map λp=>.tup [p.1,p.2]
def anm(r:RA):RI:=λo q=>r o λts=>match ts with|[.lst ts,.lst us]=>q (Gj ts us)|_=>False
theorem Ke{r:RA}{b5:List Expr}{x1}(hm:X.mg "zip"=none)(ha:QA X [a,b] r)(hg:Gl X "zip":=by rfl)(hs:starEach [a,b] X.env=[(false,eval a X.env),(false,eval b X.env)]:=by rfl)(eT:starEach [b] X.env=[(false,eval b X.env)]:=by rfl):QI X (.Tuple b5 x1 aE) (.Call (.Name "zip" p) [a,b] [] pos) (anm r):=(afC hg hm ha hs eT).imp λσ H Q ⟨own,o,R,h,hr,k⟩=>⟨own,o,_,h,hr,λH1 vs ts q _ E1 r1=>by
 match ts,q with
 |[.lst ts,.lst us],q =>
  obtain⟨x,y,rfl,rx,ry⟩:=r1.two;obtain⟨a,xs,rfl,e,r⟩:=rx.lstI;obtain⟨b,ys,rfl,e2,r2⟩:=ry.lstI;refine⟨a,b,xs,ys,rfl,(cX e).2,(cX e2).2,k H1 _ _ q E1 λS H2 i hs SF=>⟨λhi=>⟨xs,ys,(cX (SF _ _ e)).2,(cX (SF _ _ e2)).2,?_⟩,λt ht=>?_⟩⟩
  .rw[r.len,r2.len];rw[Gj,ak,VX]at hi;lia
  .unfold Gj at ht;rw[aq]at ht;by_cases hi:i<ts.length/\i<us.length
   .rw[aj (by rw[VX];omega),List.getElem_zip]at ht;cases ht;obtain⟨y,ey,ry⟩:=r.at_ (aj hi.1);obtain⟨z,ez,rz⟩:=r2.at_ (aj hi.2);refine⟨⟨xs,ys,(cX (SF _ _ e)).2,(cX (SF _ _ e2)).2,by rw[r.len];exact hi.1,by rw[r2.len];exact hi.2⟩,?_⟩;rintro x H3 ⟨e9,jS,x',y',t,e',kq,ex,ey',n,rfl,rfl⟩;rw[(cX (SF _ _ e)).2]at e';cases e';rw[(cX (SF _ _ e2)).2]at kq;cases kq;rw[ey]at ex;cases ex;rw[ez]at ey';cases ey';have S3:=SF.trans (bV (S:=S) (Same.upd (o:=.tup [y,z]) n));exact⟨Same.upd n,.tup (.of (acq n hs)) (.cons (ry.same S3) (.cons (rz.same S3) .nil))⟩
   .rw[aM (by rw[VX];omega)]at ht;cases ht⟩
def Bk(g:qS)(b:RS)(E:DT):List T->List OT->Prop
 |[],o=>E.nx o
 |t::ts,o=>∃N:List OT->Prop,(∀o,N o->Bk g b E ts o)/\g t o λo'=>b { E with nx:=N,ct:=N,bk:=E.nx } o'
def amf(it:RI)(g:qS)(b:RS):RS:=λE o=>it o λxs=>Bk g b E xs o
theorem dY{n:Nat}{iter:Expr}{b7:List Stmt}{ri:RI}{g:qS}{rb:RS}(hi:QI X tg iter ri)(hg:QG X n tg g)(hb:QSs X b7 rb)(hc:X.calm=true:=by rfl)(hp:PassesOwn (model X.prog X.w) X.A X.env X.xe:=by first|exact PassesOwn.never|exact PassesOwn.leaving)
 (hs:qV X iter:=by intro _;rfl):QS X (.For tg iter b7 [] pos) (amf ri g rb):=(ahd hp hc hi hg hb hs).imp λD σ H ⟨own,o,E,h,hr,L⟩=>⟨own,o,_,h,hr,λH1 J xs q E1 wk=>by
 refine⟨λi m σ' H'=>∃ag o',SR X.K ag H' σ' o'/\Same (hd (Ow own) H1) (hd (Ow ag) H')/\Bk g rb E (xs.drop i) o'/\i<=xs.length/\m=xs.length-i,⟨_,own,o,h.same E1,.refl _,q,aZ _,rfl⟩,?_⟩;rintro i m σ' H' ⟨ag,o',h',S',hl,il,rfl⟩;obtain⟨w1,w2⟩:=wk (Ow ag) H' i (λb z=>(h'.sole z).ne) S';have S0:=(bV E1).trans S';by_cases hi:i<xs.length
 .right;obtain⟨go,yl⟩:=w2 _ (aj hi);rw[JS hi]at hl;obtain⟨N,hN,hl⟩:=hl;refine⟨go,λσ2 H2=>∃bX o2,SR X.K bX H2 σ2 o2/\Same (hd (Ow own) H1) (hd (Ow bX) H2)/\Bk g rb E (xs.drop (i+1)) o2,λσ2 H2 ⟨bX,o2,a,b,c⟩=>⟨xs.length-(i+1),by omega,bX,o2,a,b,c,hi,rfl⟩,λx H2 y=>?_⟩;obtain⟨E2,rx⟩:=yl x H2 y;refine⟨ag,o',_,_,h'.same E2,rx,hl,λff σ3 o3 q3 hU h3=>⟨ff,o3,_,h3,q3,?_⟩⟩;have S3:=S'.trans ((bV (S:=Ow ag) E2).trans hU.same);have L3:=L.step ((bV E1).trans S3);exact⟨λda H4 σ4 o4 q S h=>⟨da,o4,h,S3.trans S,hN _ q⟩,L3.rt,λda H4 σ4 o4 q S h=>L3.nx da H4 σ4 o4 q S h,λda H4 σ4 o4 q S h=>⟨da,o4,h,S3.trans S,hN _ q⟩,L3.xc⟩
 .left;refine⟨w1 (by lia),?_⟩;rw[TK (Nat.not_lt.mp hi)]at hl;exact L.nx ag H' σ' o' hl S0 h'⟩
def afM(c:RT)(b:RS):RS:=λE o=>∃W:Nat->List OT->Prop,(∃m,W m o)/\∀m o,W m o->c o λk=>sw k (∃N:List OT->Prop,(∀o',N o'->∃m',m'<m/\W m' o')/\b { E with nx:=N,ct:=N,bk:=E.nx } o) (E.nx o)
theorem zL{c:Expr}{b7:List Stmt}{rc:RT}{rb:RS}(hc:QT X c rc)(hb:QSs X b7 rb)(hp:PassesOwn (model X.prog X.w) X.A X.env X.xe:=by first|exact PassesOwn.never|exact PassesOwn.leaving):QS X (.While c b7 [] pos) (afM rc rb):=(aak hp hc hb).imp λD σ H hP=>by
 obtain⟨own,o,E,h,hr,L⟩:=hP;obtain⟨W,⟨m0,w0⟩,st⟩:=hr;refine⟨λm σ' H'=>∃ag o',SR X.K ag H' σ' o'/\Same (hd (Ow own) H) (hd (Ow ag) H')/\W m o',⟨m0,own,o,h,.refl _,w0⟩,?_⟩;rintro m σ' H' ⟨ag,o',h',S',wm⟩;refine tQT.mk h' (st m o' wm) λH1 k q E1=>Kd q (λhP=>?_) λq=>L.nx ag H1 σ' o' q (S'.trans (bV E1)) (h'.same E1);obtain⟨N,hN,q⟩:=hP;have S1:=S'.trans (bV E1);have L1:=L.step S1;refine⟨λσ2 H2=>∃bX o2,SR X.K bX H2 σ2 o2/\Same (hd (Ow own) H) (hd (Ow bX) H2)/\N o2,λσ2 H2 hP=>?_,ag,o',_,h'.same E1,q,⟨λda H4 σ4 o4 q S h=>⟨da,o4,h,S1.trans S,q⟩,L1.rt,λda H4 σ4 o4 q S h=>L1.nx da H4 σ4 o4 q S h,λda H4 σ4 o4 q S h=>⟨da,o4,h,S1.trans S,q⟩,L1.xc⟩⟩;obtain⟨bX,o2,a,b,c⟩:=hP;obtain⟨m',lt,w⟩:=hN o2 c;exact⟨m',lt,bX,o2,a,b,w⟩
end
def iR(g:qS)(c:RT)(e:RE)(o:List OT):List T->(List T->Prop)->Prop
 |[],q=>q []
 |t::ts,q=>∃(N:T->Prop)(M:Prop),(∀y,N y->iR g c e o ts λus=>q (y::us))/\(M->iR g c e o ts q)/\g t o λo'=>c o' λb=>sw b (e o' λy=>N (frz y)) M
def amC:RT:=λ_ q=>q true
def Ul(it:RI)(n:Nat)(g:qS)(c:RT)(e:RE):RE:=λo q=>it o λxs=>xs.length<=sizeLine/\iR g c e (List.replicate n .und++o) xs λus=>q (.l1 us)
def ownS(n L:Nat)(own:Nat->Ψ)(D:Addr):Nat->Ψ:=λi=>if i<n then[]else if i<n+L then own (i-n)else if i=n+L then[D]else own (i-n-1)
theorem Ow.ownS{n L:Nat}{own:Nat->Ψ}{D b:Addr} : Ow (ownS n L own D) b↔Ow own b\/b=D:=by
 constructor
 .rintro⟨i,z⟩;unfold L2.ownS at z;by_cases h1:i<n
  .rw[ZY h1]at z;cases z
  rw[ZZ h1]at z;by_cases h2:i<n+L
  .rw[ZY h2]at z;exact .inl ⟨_,z⟩
  rw[ZZ h2]at z;by_cases h3:i=n+L
  .rw[ZY h3]at z;exact .inr (YR.mp z)
  .rw[ZZ h3]at z;exact .inl ⟨_,z⟩
 .rintro(⟨i,z⟩|rfl)
  .by_cases h:i<L
   .exact⟨n+i,by unfold L2.ownS;rw[ZZ (Ts (X1 _ _)),ZY (Nat.add_lt_add_left h _),show n+i-n=i by exact TR _ _];exact z⟩
   .exact⟨n+i+1,by unfold L2.ownS;rw[ZZ (by lia),ZZ (by lia),ZZ (by lia),show n+i+1-n-1=i by lia];exact z⟩
  .exact⟨n+L,by unfold L2.ownS;rw[ZZ (Ts (X1 _ _)),ZZ (X2 _),ZY rfl];simp⟩
theorem SR.block{K:Frag}{own:Nat->Ψ}{H:Hp}{σ:L2.St}{o:List OT}(h:SR K own H σ o){D:Addr}{ys:Ζ}{H':Hp}(E:Same H H')(nD:H D=none)(eD:H' D=some (.lst ys))(pre:L2.St):SR K (ownS pre.length o.length own D) H' (pre++σ) (List.replicate pre.length .und++o):=by
 have le:Same (hd (Ow own) H) (hd (Ow (ownS pre.length o.length own D)) H'):=jk (λb z=>(Ow.ownS.mp z).imp id λ(e:b=D)=>e ▸ nD) E;have fF:∀j,D∉own j:=λj z=>(h.sole ⟨j,z⟩).ne nD;refine⟨by simp[h.len],λi x e=>?_,λi hi a ha=>?_,λi j a e1 e2=>?_⟩
 .by_cases h1:i<pre.length
  .rw[aF (by simpa using h1),XG,ZY h1]at e;cases e;show ownS _ _ _ _ i=[];unfold ownS;rw[ZY h1]
  .rw[aD (by simpa using h1),aN]at e;have h2:i-pre.length<o.length:=(ao.mp e).1;rw[aD (Nat.not_lt.mp h1)];have:ownS pre.length o.length own D i=own (i-pre.length):=by unfold ownS;rw[ZZ h1,ZY (by omega)]
   rw[this];exact(h.sl _ x e).same le E
 .rw[aA,aN]at hi;unfold ownS at ha;rw[ZZ (by lia),ZZ (Ts hi)]at ha;by_cases h3:i=pre.length+o.length
  .rw[ZY h3]at ha;cases YR.mp ha;exact⟨_,eD⟩
  .rw[ZZ h3]at ha;obtain⟨xs,e⟩:=h.out _ (by lia) a ha;exact⟨xs,E _ _ e⟩
 .unfold ownS at e1 e2;by_cases a1:i<pre.length
  .rw[ZY a1]at e1;cases e1
  by_cases b1:j<pre.length
  .rw[ZY b1]at e2;cases e2
  rw[ZZ a1]at e1;rw[ZZ b1]at e2;by_cases a2:i<pre.length+o.length<;>by_cases b2:j<pre.length+o.length
  .rw[ZY a2]at e1;rw[ZY b2]at e2;have:=h.dis _ _ a e1 e2;omega
  .rw[ZY a2]at e1;rw[ZZ b2]at e2;by_cases b3:j=pre.length+o.length
   .rw[ZY b3]at e2;cases YR.mp e2;exact absurd e1 (fF _)
   .rw[ZZ b3]at e2;have:=h.dis _ _ a e1 e2;omega
  .rw[ZZ a2]at e1;rw[ZY b2]at e2;by_cases a3:i=pre.length+o.length
   .rw[ZY a3]at e1;cases YR.mp e1;exact absurd e2 (fF _)
   .rw[ZZ a3]at e1;have:=h.dis _ _ a e1 e2;lia
  .rw[ZZ a2]at e1;rw[ZZ b2]at e2;by_cases a3:i=pre.length+o.length<;>by_cases b3:j=pre.length+o.length
   .exact Eq.trans a3 (Eq.symm b3)
   .rw[ZY a3]at e1;rw[ZZ b3]at e2;cases YR.mp e1;exact absurd e2 (fF _)
   .rw[ZZ a3]at e1;rw[ZY b3]at e2;cases YR.mp e2;exact absurd e1 (fF _)
   .rw[ZZ a3]at e1;rw[ZZ b3]at e2;have:=h.dis _ _ a e1 e2;lia
theorem Ti{n:Nat}{own ag:Nat->Ψ}{pre σ σ':L2.St}(hp:pre.length=n)(g:Fy n own ag (pre++σ) σ'):∃b6:L2.St,b6.length=n/\σ'=b6++σ:=by
 obtain⟨_,l,k⟩:=g;refine⟨σ'.take n,by rw[aY,l,aA];lia,?_⟩;refine List.ext_getElem? λi=>?_;by_cases hi:i<n
 .rw[aF (by rw[aY,l,aA];lia),List.getElem?_take_of_lt hi]
 .rw[aD (by rw[aY,l,aA];lia),k i (VU hi),aD (by lia),aY,l,aA]
  congr 1
  lia
theorem Uk{K:Frag}{σ:L2.St}{Q:VK}{n:Nat}{g:qS}{rc:RT}{re:RE}{own:Nat->Ψ}{o:List OT}{H1:Hp}{J:It}{xs:List T}{R:OT->Prop}{D:Addr}(h1:SR K own H1 σ o)(wk:Wlk K J (hd (Ow own) H1) xs)(lx:xs.length<=sizeLine)(q:iR g rc re (List.replicate n .und++o) xs λus=>R (.l1 us))(nD:H1 D=none)(k:∀H' v x,R x->Same H1 H'->NR K (Ow own) H1 H' v x->Q v H') :
  ∃W:Nat->Nat->Ζ->Hp->Prop,(∃m,W 0 m [] (upd H1 D (.lst [])))/\∀i m ys Hc,W i m ys Hc ->
   (J.stop i Hc/\Q (.ref D) Hc)\/(J.go i Hc/\∀x H',J.yld i Hc x H'->∀pre:L2.St,pre.length=n->tMG (tQG K n g) x (pre++σ) H' λσ2 H2=>∃b6:L2.St,b6.length=n/\σ2=b6++σ/\tMT (tQT K rc) σ2 H2 λb H3 =>
    match b with
    |true=>tM (tQ K re) σ2 H3 λy H4=>ys.length<sizeLine/\H4 D=some (.lst ys)/\∃m',m'<m/\W (i+1) m' (ys++[y]) (upd H4 D (.lst (ys++[y])))
    |false=>∃m',m'<m/\W (i+1) m' ys H3):=by
 generalize hO:List.replicate n OT.und++o=ob at q;refine⟨λi m ys Hc=>∃ts,Hc D=some (.lst ys)/\Same H1 Hc/\cu K (hd (λb=>Ow own b\/b=D) Hc) ys ts/\ys.length<=i/\i<=xs.length/\m=xs.length-i/\iR g rc re ob (xs.drop i) λus=>R (.l1 (ts++us)),⟨_,[],cL,Same.upd nD,.nil,aG _,aZ _,rfl,q⟩,?_⟩;rintro i m ys Hc ⟨ts,eD,Ec,rs,il,ix,rfl,hl⟩;have hn:∀b,Ow own b\/b=D->Hc b≠none:=λb z=>z.elim (λz=>((h1.same Ec).sole z).ne) λe z=>by rw[e,eD]at z;cases z
 have SD:Same (hd (Ow own) H1) (hd (λb=>Ow own b\/b=D) Hc):=jk (λb z=>z.imp id λ(e:b=D)=>e ▸ nD) Ec;obtain⟨w1,w2⟩:=wk (λb=>Ow own b\/b=D) Hc i hn SD;by_cases hi:i<xs.length
 .right;obtain⟨go,yl⟩:=w2 _ (aj hi);rw[JS hi]at hl;obtain⟨N,M,hN,hM,hl⟩:=hl;refine⟨go,λx H2 y pre hp=>?_⟩;obtain⟨E2,rx⟩:=yl x H2 y;have eO:(λb=>Ow own b\/b=D)=Ow (ownS n o.length own D):=funext λb=>propext Ow.ownS.symm;have hb:SR K (ownS n o.length own D) H2 (pre++σ) ob:=by
   have:=h1.block (Ec.trans E2) nD (E2 _ _ eD) pre;rw[hp,hO]at this;exact this
  rw[eO]at rx rs;refine⟨_,⟨ownS n o.length own D,ob,_,_,hb,rx,hl,λff σ3 o3 q3 hU h3=>?_⟩,λ_ _ z=>z⟩;obtain⟨b6,eI,rfl⟩:=Ti hp hU;have e3:ff=ownS n o.length own D:=funext λj=>by
   rcases hU.1 j with e|⟨e1,e2⟩
   .exact e
   .rw[e2];unfold ownS;rw[ZY e1]
  subst e3;refine⟨b6,eI,rfl,_,tQT.mk h3 q3 λH3 b q4 E3=>?_,λ_ _ z=>z⟩;have q4:sw b (re o3 λy=>N (frz y)) M:=q4;cases b with
  |false=>exact⟨xs.length-(i+1),by lia,ts,E3 _ _ (E2 _ _ eD),Ec.trans (E2.trans E3),by rw[eO];exact rs.same (bV (E2.trans E3)),by exact aL il (X1 _ _),by exact hi,rfl,hM q4⟩
  |true =>
   refine⟨_,tQ.mk (h3.same E3) q4 λH4 v y q5 E4 r4=>⟨by lia,E4 _ _ (E3 _ _ (E2 _ _ eD)),xs.length-(i+1),by lia,ts++[frz y],cL,λb u e=>?_,?_,by rw[aA,List.length_singleton];exact Nat.succ_le_succ il,by exact hi,rfl,?_⟩,λ_ _ z=>z⟩
   .rw[cD λz=>by rw[z,nD]at e;cases e];exact E4 _ _ (E3 _ _ (E2 _ _ (Ec _ _ e)))
   .rw[Gp (S:=λb=>Ow own b\/b=D) (.inr rfl),eO];exact(rs.same (bV (E2.trans (E3.trans E4)))).app (.cons r4 .nil)
   .have:=hN _ q5;simp only[Wp,List.singleton_append];exact this
 .left;have:i=xs.length:=by lia
  refine⟨w1 this,?_⟩;rw[TK (VU hi)]at hl;have hl:R (.l1 (ts++[])):=hl;rw[List.append_nil]at hl;exact k Hc _ _ hl Ec (NR.l1 nD eD rs)
theorem J3{K:Frag}{σ:L2.St}{H:Hp}{Q:VK}{ri:RI}{n:Nat}{g:qS}{rc:RT}{re:RE}(h:tQ K (Ul ri n g rc re) σ H Q):uq (tQI K ri) n (tMG (tQG K n g)) (tMT (tQT K rc)) (tM (tQ K re)) σ H Q:=by
 obtain⟨own,o,R,h,hr,k⟩:=h;exact⟨own,o,_,h,hr,λH1 J xs q E1 wk D nD=>Uk (h.same E1) wk q.1 q.2 nD λH' v x rx E n=>k H' v x rx (E1.trans E) (n.back E1)⟩
section
variable{X:Cx}{tg iter be:Expr}{aS:List Expr}{ri:RI}{g:qS}{rc:RT}{re:RE}{scope:Scope}{pos:Pos}
def QTs(X:Cx)(aS:List Expr)(r:RT):Prop:=PTs X aS (tQT X.K r)
theorem cg:QTs X [] amC:=λaa s σ H Q I hP=>by obtain⟨own,o,R,h,hr,k⟩:=hP;exact adv aa s σ H Q I (k H true hr (.refl _))
theorem Ed{c:Expr}{rc:RT}(h:QT X c rc):QTs X [c] rc:=adw h
theorem cH(sc:Scope)(N N' xs:Φ)(hi:QI X tg iter ri)(hg:∀{C s₀ H₀ ex pn},QG (X.compG N' scope xs C s₀ H₀ ex pn) xs.length tg g)(ht:∀{C s₀ H₀ ex pn},QTs (X.compG N' scope xs C s₀ H₀ ex pn) aS rc)(he:∀{C s₀ H₀ ex pn},QE (X.compG N' scope xs C s₀ H₀ ex pn) be re)
 (cy:X.env.scope=sc:=by rfl)(cK:X.N=N:=by rfl)(hc:X.calm=true:=by rfl)(hk:scope.kind=.function:=by rfl)(h:CK sc scope N N' xs:=by decide +kernel)(hs:qV X iter:=by intro _;rfl):QE X (.ListComp be [⟨tg,iter,aS,0⟩] scope pos) (Ul ri xs.length g rc re) :=
 (acv (gt:=tQG X.K xs.length g) (tc:=tQT X.K rc) (te:=tQ X.K re) sc N N' xs hi hg ht he cy cK hc hk h hs).imp λ_ _ _=>J3
theorem adE(sc:Scope)(N N':Φ)(x0:Str)(hi:QI X tg iter ri)(hg:∀{C s₀ H₀ ex pn},QG (X.compGC N' scope x0 C s₀ H₀ ex pn) 1 tg g)(ht:∀{C s₀ H₀ ex pn},QTs (X.compGC N' scope x0 C s₀ H₀ ex pn) aS rc)(he:∀{C s₀ H₀ ex pn},QE (X.compGC N' scope x0 C s₀ H₀ ex pn) be re)
 (cy:X.env.scope=sc:=by rfl)(cK:X.N=N:=by rfl)(hc:X.calm=true:=by rfl)(hk:scope.kind=.function:=by rfl)(fS:∀n acc,cellsFrom n scope.names acc=(x0,n)::acc:=by intro _ _;rfl)(fN:∀h,pushCells h scope.names=h.push { cls:=.type "cell",data:=.cell none }:=by intro _;rfl)(h:(∀y∈scope.names,y.2=.cell->y.1=x0)/\CK0 sc scope N N' [x0]:=by decide +kernel)(hs:qV X iter:=by intro _;rfl):QE X (.ListComp be [⟨tg,iter,aS,0⟩] scope pos) (Ul ri 1 g rc re) :=
 (abq (gt:=tQG X.K 1 g) (tc:=tQT X.K rc) (te:=tQ X.K re) sc N N' x0 hi hg ht he cy cK hc hk fS fN h hs).imp λ_ _ _=>J3
theorem Yl{N0:Φ}{x0:Str}{sO:Scope}{C0:Addr}{s0:Shared}{H0:Hp}{cr:Ψ}{b9:Δ}(sc:Scope)(N N' xs:Φ)(hi:QI (X.compGC N0 sO x0 C0 s0 H0 cr b9) tg iter ri)(hg:∀{C s₀ H₀ ex pn},QG ((X.compGC N0 sO x0 C0 s0 H0 cr b9).compG N' scope xs C s₀ H₀ ex pn) xs.length tg g)(ht:∀{C s₀ H₀ ex pn},QTs ((X.compGC N0 sO x0 C0 s0 H0 cr b9).compG N' scope xs C s₀ H₀ ex pn) aS rc)(he:∀{C s₀ H₀ ex pn},QE ((X.compGC N0 sO x0 C0 s0 H0 cr b9).compG N' scope xs C s₀ H₀ ex pn) be re)
 (cy:X.env.scope=sc:=by rfl)(cK : [x0]++N0=N:=by rfl)(hc:X.calm=true:=by rfl)(hk:scope.kind=.function:=by rfl)(h:CK (rlb sc sO) scope N N' xs:=by decide +kernel)(hs:∀z,foldedSetIterable iter (X.compGC N0 sO x0 C0 s0 H0 cr b9).env z=pure z:=by intro _;rfl):QE (X.compGC N0 sO x0 C0 s0 H0 cr b9) (.ListComp be [⟨tg,iter,aS,0⟩] scope pos) (Ul ri xs.length g rc re) :=
 PE.imp (afu (gt:=tQG X.K xs.length g) (tc:=tQT X.K rc) (te:=tQ X.K re) sc N N' xs hi hg ht he cy cK hc hk h hs) λ_ _ _=>J3
theorem agT{i0:Nat}{y0:Str}{py b8:Pos}(sc:Scope)(N N' xs:Φ)(hi:QI X tg iter ri)(hg:∀{C s₀ H₀ ex pn},QG (X.compG N' scope xs C s₀ H₀ ex pn) xs.length tg g)(ht:∀{C s₀ H₀ ex pn},QTs (X.compG N' scope xs C s₀ H₀ ex pn) aS rc)(he:∀{C s₀ H₀ ex pn},QE (X.compG N' scope xs C s₀ H₀ ex pn) be re)(fR:PG X (.Name y0 py) (Bl i0))
 (cy:X.env.scope=sc:=by rfl)(cK:X.N=N:=by rfl)(hc:X.calm=true:=by rfl)(hk:scope.kind=.function:=by rfl)(h:CK sc scope N N' xs:=by decide +kernel)(fI:swapsWith (.ListComp be [⟨tg,iter,aS,0⟩] scope pos) (some (.Name y0 py)) b8.line X.env=pure true:=by rfl)(hs:qV X iter:=by intro _;rfl) :
  QS X (.Assign [.Name y0 py] (.ListComp be [⟨tg,iter,aS,0⟩] scope pos) b8) (ahy i0 (Ul ri xs.length g rc re)):=(acA (gt:=tQG X.K xs.length g) (tc:=tQT X.K rc) (te:=tQ X.K re) sc N N' xs hi hg ht he fR cy cK hc hk h fI hs).imp λD σ H ⟨own,o,E,h,hr,L⟩=>J3 ⟨own,o,_,h,hr,λH' v y q S n=>by
 obtain⟨ag,h',S'⟩:=h.putA S n i0;exact L.nx ag H' _ _ q S' h'⟩
theorem dh{N' xs:Φ}{C s₀ H₀ ex pn}{n i:Nat}{x:Str}{p:Pos}(hN:(xs++N').Nodup:=by decide +kernel)(hi:(xs++N')[i]?=some x:=by rfl)(hn:i<n:=by decide)(hx:Loc (X.compG N' scope xs C s₀ H₀ ex pn).env.scope x:=by exact Or.inl rfl)(hf:(X.compG N' scope xs C s₀ H₀ ex pn).fn x=true\/(X.compG N' scope xs C s₀ H₀ ex pn).env.scope.names.lookup x=some .local:=by exact Or.inr rfl):QG (X.compG N' scope xs C s₀ H₀ ex pn) n (.Name x p) (hName i):=cj (i:=i) (hN:=hN) (hx:=hx) (hi:=hi) (hn:=hn) (hf:=hf)
theorem afe{N':Φ}{x0:Str}{C s₀ H₀ ex pn}{p:Pos}(hN:([x0]++N').Nodup:=by decide +kernel)(hx:Loc (X.compGC N' scope x0 C s₀ H₀ ex pn).env.scope x0:=by exact Or.inr rfl):QG (X.compGC N' scope x0 C s₀ H₀ ex pn) 1 (.Name x0 p) (hName 0)   := cj (i:=0) (hN:=hN) (hx:=hx) (hi:=rfl) (hn:=(by decide)) (hf:=(.inl (beq_self_eq_true _)))
end
theorem Y6{g:qS}{c:RT}{e:RE}{o:List OT}{t:T}{ts:List T}{q:List T->Prop}(h:g t o λo'=>c o' λb=>sw b (e o' λy=>iR g c e o ts λus=>q (frz y::us)) (iR g c e o ts q)):iR g c e o (t::ts) q:=⟨λy=>iR g c e o ts λus=>q (y::us),_,λ_ h=>h,id,h⟩
section
variable{X:Cx}{a b e:Expr}{ra rb re:RE}{rt:RT}{pos:Pos}
theorem cu.reps{K:Frag}{F:Hp}{xs:Ζ}{ts:List T}(h:cu K F xs ts):∀n:Nat,cu K F (List.replicate n xs).flatten (List.replicate n ts).flatten
 |0=>.nil
 |n+1=>by rw[List.replicate_succ,List.replicate_succ,List.flatten_cons,List.flatten_cons];exact h.app (cu.reps h n)
theorem cY:GO X (binaryOp .Mult) amT:=λaa s σ H x y v u Q I rx ry h=>by
 obtain⟨S,t,w,R,_,hx,hy,hg,k⟩:=h;cases w with
 |int j=>?_
 |_=>cases t<;>exact hg.elim
 cases hy;cases t<;>try exact hg.elim
 .cases hx;exact ad1 aa s σ H _ _ v u Q I rx ry ⟨_,_,rfl,rfl,hg.1,k H _ _ hg.2 (.refl _) (NR.fz (.int _))⟩
 .cases hx;obtain⟨c,rfl,h1,h2,q⟩:=hg;exact aey aa s σ H _ _ v u Q I rx ry ⟨c,j,rfl,rfl,h1,h2,λz hz=>k H _ _ (q z hz) (.refl _) (NR.fz (.str _))⟩
 .obtain⟨p,xs,rfl,e,r⟩:=hx.lstI;obtain⟨⟨h1,h2,h3⟩,q⟩:=hg;exact agx aa s σ H _ _ v u Q I rx ry ⟨p,j,xs,rfl,rfl,(cX e).2,h1,h2,by rw[r.len];exact h3,λa ha=>k _ _ _ (q _ rfl) (Same.upd ha) (Cr (r.reps j.toNat) (Same.upd ha) ha cL)⟩
mutual
def ofD:PyData->T
 |.none=>.non
 |.bool b=>.bl b
 |.int i=>.int i
 |.str s=>.str s
 |.list ds=>.lst (YD ds)
 |.tuple ds=>.tup (YD ds)
 |.dict _=>.any
def YD:List PyData->List T
 |[]=>[]
 |d::ds=>ofD d::YD ds
end
mutual
theorem Rep.shows{K:Frag}{F:Hp} : ∀{x:V}{t:T},Rep K F x t->∀d,t=ofD d->d.canLay0=true->gO K F x d
 |_,_,.any v,d,e,s=>by cases d<;>cases e;cases s
 |_,_,.non,d,e,_=>by cases d<;>cases e;exact .non
 |_,_,.bl b,d,e,_=>by cases d<;>cases e;exact .bl _
 |_,_,.int i,d,e,_=>by cases d<;>cases e;exact .int _
 |_,_,.str s,d,e,_=>by cases d<;>cases e;exact .str _
 |_,_,.val v,d,e,_=>by cases d<;>cases e
 |_,_,.tup q h,d,e,s=>by
  cases d<;>cases e;exact .tup q (cu.shows h _ rfl s)
 |_,_,.lst q h,d,e,s=>by
  cases d<;>cases e;exact .lst q (cu.shows h _ rfl s)
 |_,_,.scr q h,d,e,_=>by cases d<;>cases e
 |_,_,.dct q l h,d,e,_=>by cases d<;>cases e
 |_,_,.ins q d' l h,d,e,_=>by cases d<;>cases e
 |_,_,.exc q d' l h,d,e,_=>by cases d<;>cases e
theorem cu.shows{K:Frag}{F:Hp} : ∀{xs:Ζ}{ts:List T},cu K F xs ts->∀ds,ts=YD ds->PyData.canLayAll0 ds=true->d7 K F xs ds
 |_,_,.nil,ds,e,_=>by cases ds<;>cases e;exact .nil
 |_,_,.cons a b,ds,e,s=>by
  cases ds<;>cases e;obtain⟨s1,s2⟩:=Bool.and_eq_true_iff.mp s;exact .cons (Rep.shows a _ rfl s1) (cu.shows b _ rfl s2)
end
def xr:Bool->Bool->Bool
 |false,b=>b
 |true,b=>!b
def eqS:T->T->Option Bool
 |.int i,.int j=>some (decide (i=j))
 |.str i,.str j=>some (decide (i=j))
 |.bl i,.bl j=>some (decide (i=j))
 |.non,.non=>some true
 |.non,.int _=>some false
 |.int _,.non=>some false
 |.non,.str _=>some false
 |.str _,.non=>some false
 |.int _,.str _=>some false
 |.str _,.int _=>some false
 |.tup [.int a,.int b],.tup [.int c,.int d]=>some (decide (a=c)&&decide (b=d))
 |_,_=>none
def gEq(neg:Bool)(t u:T)(q:OT->Prop):Prop:=match eqS t u with
 |some b=>q (.fz (.bl (xr neg b)))
 |none=>∃d e,t=ofD d/\u=ofD e/\SeqAt.shaped d=true/\SeqAt.shaped e=true/\q (.fz (.bl (xr neg (PyData.eqv d e))))
theorem ae8(a b c d:Int):PyData.eqv (.tuple [.int a,.int b]) (.tuple [.int c,.int d])=(decide (a=c)&&decide (b=d)):=by
 simp only[PyData.eqv,PyData.eqvAll,Bool.and_true]
 rfl
theorem agk{K:Frag}{F H:Hp}{x y:V}{t u:T}{b:Bool}(S:Same F H)(hx:Rep K F x t)(hy:Rep K F y u)(e:eqS t u=some b):(abB x y=true/\decide (x=y)=b)\/∃d e,gO K H x d/\gO K H y e/\SeqAt.shaped d=true/\SeqAt.shaped e=true/\PyData.eqv d e=b:=by
 unfold eqS at e;split at e<;>cases e
 .cases hx;cases hy;exact .inl ⟨rfl,by simp⟩
 .cases hx;cases hy;exact .inl ⟨rfl,by simp⟩
 .cases hx;cases hy;exact .inl ⟨rfl,by simp⟩
 .cases hx;cases hy;exact .inl ⟨rfl,rfl⟩
 .cases hx;cases hy;exact .inl ⟨rfl,rfl⟩
 .cases hx;cases hy;exact .inl ⟨rfl,rfl⟩
 .cases hx;cases hy;exact .inl ⟨rfl,rfl⟩
 .cases hx;cases hy;exact .inl ⟨rfl,rfl⟩
 .cases hx;cases hy;exact .inl ⟨rfl,rfl⟩
 .cases hx;cases hy;exact .inl ⟨rfl,rfl⟩
 .exact .inr ⟨.tuple [.int _,.int _],.tuple [.int _,.int _],(hx.shows _ rfl rfl).same S,(hy.shows _ rfl rfl).same S,rfl,rfl,ae8 _ _ _ _⟩
theorem aaK(neg:Bool){op:CmpOp}(h1:OpR X (compareOp op) λx y H Q=>abB x y=true/\Q (.bl (xr neg (decide (x=y)))) H)(h2:OpR X (compareOp op) (afF X.K neg)):GO X (compareOp op) (gEq neg):=λaa s σ H x y v u Q I rx ry h=>by
 obtain⟨S,t,w,R,_,hx,hy,hg,k⟩:=h;have xe:∀b:Bool,(if neg then !b else b)=xr neg b:=λb=>by cases neg<;>rfl
 unfold gEq at hg;cases es:eqS t w with
 |some b =>
  rw[es]at hg;rcases agk dO hx hy es with⟨a,c⟩|⟨d,e,s1,s2,s3,s4,c⟩
  .exact h1 aa s σ H x y v u Q I rx ry ⟨a,by rw[c];exact k H _ _ hg (.refl _) (NR.fz (.bl _))⟩
  .exact h2 aa s σ H x y v u Q I rx ry ⟨d,e,s1,s2,s3,s4,by rw[xe,c];exact k H _ _ hg (.refl _) (NR.fz (.bl _))⟩
 |none =>
  rw[es]at hg;obtain⟨d,e,e1,e2,s1,s2,q⟩:=hg;exact h2 aa s σ H x y v u Q I rx ry ⟨d,e,(hx.shows d e1 (Bool.and_eq_true_iff.mp s1).1).same dO,(hy.shows e e2 (Bool.and_eq_true_iff.mp s2).1).same dO,s1,s2,by rw[xe];exact k H _ _ q (.refl _) (NR.fz (.bl _))⟩
theorem go_eq(hu:X.A.units+64<cLine):GO X (compareOp .Eq) (gEq false):=aaK false aj7 (afJ hu)
theorem lZ(hu:X.A.units+64<cLine):GO X (compareOp .NotEq) (gEq true):=aaK true alo (agq hu)
def flat:OT->Prop
 |.fz (.int _)=>True
 |.fz (.bl _)=>True
 |.fz (.str _)=>True
 |.fz .non=>True
 |_=>False
def amr(i:Nat)(a:RE):RE:=λo q=>match slot o i with|.und=>False|x=>a (o.set i (.fz (frz x))) λy=>flat y/\q y
def ajT(i:Nat)(a:RT):RT:=λo q=>match slot o i with|.und=>False|x=>a (o.set i (.fz (frz x))) q
theorem Ys{i:Nat}{o:List OT}{P:OT->Prop}(h:match slot o i with|.und=>False|x=>P x):P (slot o i)/\slot o i≠.und:=by
 cases e:slot o i<;>rw[e]at h<;>first|exact h.elim|exact⟨h,λz=>by cases z⟩
theorem Ri(i:Nat)(h:QE X e re):QE X e (amr i re):=PE.imp h λσ H Q hP=>by
 obtain⟨own,o,R,h,hr,k⟩:=hP;obtain⟨hr,ne⟩:=Ys (P:=λx=>re (o.set i (.fz (frz x))) λy=>flat y/\R y) hr;obtain⟨u,e1,s⟩:=h.val rfl ne;obtain⟨ag,h',S⟩:=h.frz (iz rfl ne) e1;refine⟨ag,_,_,h',hr,λH' v x q E n=>k H' v x q.2 E ?_⟩;have fl:=q.1;have rp:=n.rep λb z=>(h'.sole z).ne;cases x with
 |fz t=>cases t<;>first|exact fl.elim|(cases rp;first|exact NR.fz (.int _)|exact NR.fz (.bl _)|exact NR.fz (.str _)|exact NR.fz .non)
 |_=>exact fl.elim
theorem Pz(i:Nat)(h:QT X e rt):QT X e (ajT i rt):=PT.imp h λσ H Q hP=>by
 obtain⟨own,o,R,h,hr,k⟩:=hP;obtain⟨hr,ne⟩:=Ys (P:=λx=>rt (o.set i (.fz (frz x))) R) hr;obtain⟨u,e1,s⟩:=h.val rfl ne;obtain⟨ag,h',S⟩:=h.frz (iz rfl ne) e1;exact⟨ag,_,_,h',hr,k⟩
def ZJ:T->Option Key
 |.int i=>some (.inl i)
 |.str s=>some (.inr s)
 |_=>none
def rT{α:Type} : List Key->List α->Key->Option α
 |k::ks,t::ts,j=>if k=j then some t else rT ks ts j
 |_,_,_=>none
theorem PL{K:Frag}{F:Hp}{x:V}{t:T}{k:Key}(h:Rep K F x t)(e:ZJ t=some k):x=kV k:=by
 cases h<;>cases e<;>rfl
theorem Fz{K:Frag}{F:Hp}{k:Key} : ∀{ks:List Key}{xs:Ζ}{ts:List T},cu K F xs ts->(∀t,rT ks ts k=some t->∃x,Kc (ks.zip xs) k=some x/\Rep K F x t)/\(rT ks ts k=none->Kc (ks.zip xs) k=none)
 |[],_,_,_=>⟨λ_ z=>(nomatch z),λ_=>rfl⟩
 |_::_,_,_,.nil=>⟨λ_ z=>(nomatch z),λ_=>rfl⟩
 |j::ks,_,_,.cons a b=>by
  by_cases h:j=k
  .refine⟨λt z=>?_,λz=>?_⟩
   .unfold rT at z;rw[ZY h]at z;cases z;exact⟨_,Ui h,a⟩
   .unfold rT at z;rw[ZY h]at z;cases z
  .obtain⟨i1,i2⟩:=Fz (k:=k) (ks:=ks) b;refine⟨λt z=>?_,λz=>?_⟩
   .unfold rT at z;rw[ZZ h]at z;obtain⟨x,e,r⟩:=i1 t z;exact⟨x,(Ko h).trans e,r⟩
   .unfold rT at z;rw[ZZ h]at z;exact(Ko h).trans (i2 z)
def al5:qA
 |.dct ks ts,u,q=>∃k t,ZJ u=some k/\rT ks ts k=some t/\q (.fz t)
 |_,_,_=>False
theorem Pb(hu:X.A.units+1<cLine)(ha:QE X a ra)(hb:QE X b rb)(hs:afY b:=by exact λ_ _=>rfl):QE X (.Subscript a b pos) (rOp al5 ra rb):=(ad2 hu ha hb hs).imp λσ H Q ⟨own,o,R,h,hr,k⟩=>tQ.mk h hr λH1 v x q E1 r1=>tQ.mk (h.same E1) q λH2 w y q E2 r2=>by
 have r1:=r1.same (bV E2)
 revert r1 q
 generalize frz x=t;intro q r1;cases t<;>try exact q.elim
 obtain⟨d,xs,rfl,e,l,r⟩:=r1.dctI;obtain⟨j,t,e1,e2,q⟩:=q;obtain⟨z,e3,r3⟩:=(Fz r).1 t e2;cases PL r2 e1;exact⟨d,z,rfl,.inl ⟨_,_,dO.rd e,rfl,e3.symm⟩,k H2 _ _ q (E1.trans E2) (NR.fz r3)⟩
def afz(neg:Bool):qA
 |u,.dct ks ts,q=>∃k,ZJ u=some k/\q (.fz (.bl (xr neg (rT ks ts k).isSome)))
 |_,_,_=>False
theorem abK{neg:Bool}{σ:L2.St}{H:Hp}{Q:VK}(h:tQ X.K (rOp (afz neg) ra rb) σ H Q):(tQ X.K ra) σ H λy H1=>(tQ X.K rb) σ H1 λx H2=>∃a o,x=.ref a/\FW H2 a y o/\Q (.bl (xr neg o.isSome)) H2:=by
 obtain⟨own,o,R,h,hr,k⟩:=h;refine tQ.mk h hr λH1 v x q E1 r1=>tQ.mk (h.same E1) q λH2 w y q E2 r2=>?_;have r1:=r1.same (bV E2)
 revert r2 q
 generalize frz y=t;intro q r2;cases t with
 |dct ks ts =>
  obtain⟨d,xs,rfl,e,l,r⟩:=r2.dctI;obtain⟨j,e1,q⟩:=q;cases PL r1 e1;refine⟨d,_,rfl,.inl ⟨_,_,dO.rd e,rfl,rfl⟩,?_⟩;have:(Kc (ks.zip xs) j).isSome=(rT ks ts j).isSome:=by
   cases z:rT ks ts j with
   |none=>rw[(Fz r).2 z];rfl
   |some t=>obtain⟨x,e,_⟩:=(Fz r).1 t z;rw[e];rfl
  rw[this];exact k H2 _ _ q (E1.trans E2) (NR.fz (.bl _))
 |_=>cases frz x<;>exact q.elim
theorem afl{r:RE}{tt:TE}(i:∀σ H Q,tQ X.K r σ H Q->tt σ H Q){σ:L2.St}{H:Hp}{Q:Bool->Hp->Prop}(h:tQT X.K (rB r) σ H Q):tB tt σ H Q:=by
 obtain⟨own,o,R,h,hr,k⟩:=h;refine i σ H _ (tQ.mk h hr λH1 v x q E1 r1=>?_)
 revert r1 q
 generalize frz x=t;intro q r1;cases r1<;>try exact q.elim
 exact⟨_,rfl,k _ _ q E1⟩
theorem acC(hu:X.A.units+1<cLine)(ha:QE X a ra)(hb:QE X b rb)(h1:behindInMarks .In b=false:=by rfl):QT X (.Compare a [.In] [b] pos) (rB (rOp (afz false) ra rb)):=(aa6 (agb hu ha hb) h1).imp λ_ _ _=>afl λ_ _ _=>abK (neg:=false)
theorem ZD(hu:X.A.units+1<cLine)(ha:QE X a ra)(hb:QE X b rb)(h1:behindInMarks .NotIn b=false:=by rfl):QT X (.Compare a [.NotIn] [b] pos) (rB (rOp (afz true) ra rb)):=(aa6 (Y5 hu ha hb) h1).imp λ_ _ _=>afl λ_ _ _=>abK (neg:=true)
def ajo:RE:=λ_ q=>q (.d1 [] [])
theorem NZ:QE X (.Dict [] [] pos) ajo:=ab5.imp λσ H Q ⟨own,o,R,h,hr,k⟩ p hp=>k _ _ _ hr (Same.upd hp) ⟨[p],λa ha=>(YR.mp ha) ▸ hp,p,[],rfl,rfl,cL,rfl,.nil⟩
def anQ(i:Nat)(a b:RE):RS:=λE o=>match slot o i with|.d1 ks ts=>a o λy=>b o λk=>∃j,ZJ (frz k)=some j/\rT ks ts j=none/\ks.length<sizeLine/\ks.length=ts.length/\E.nx (o.set i (.d1 (ks++[j]) (ts++[frz y])))|_=>False
end
def lkF{α:Type} : Φ->List α->Str->Option α
 |k::ks,t::ts,f=>if k=f then some t else lkF ks ts f
 |_,_,_=>none
def IV:Φ->Str->Φ
 |[],f=>[f]
 |k::ks,f=>if k=f then k::ks else k::IV ks f
def Bc{α:Type} : Φ->List α->Str->α->List α
 |k::ks,t::ts,f,v=>if k=f then v::ts else t::Bc ks ts f v
 |_,ts,_,v=>ts++[v]
theorem ab8{K:Frag}{F:Hp}{f:Str} : ∀{ks:Φ}{xs:Ζ}{ts:List T},cu K F xs ts->(∀t,lkF ks ts f=some t->∃x,(ks.zip xs).lookup f=some x/\Rep K F x t)/\(lkF ks ts f=none->(ks.zip xs).lookup f=none)
 |[],_,_,_=>⟨λ_ z=>(nomatch z),λ_=>rfl⟩
 |_::_,_,_,.nil=>⟨λ_ z=>(nomatch z),λ_=>rfl⟩
 |j::ks,_,_,.cons a b=>by
  obtain⟨i1,i2⟩:=ab8 (f:=f) (ks:=ks) b;by_cases h:j=f
  .refine⟨λt z=>?_,λz=>?_⟩
   .unfold lkF at z;rw[ZY h]at z;cases z;exact⟨_,by rw[List.zip_cons_cons,List.lookup_cons,h,beq_self_eq_true],a⟩
   .unfold lkF at z;rw[ZY h]at z;cases z
  .have e:∀x(r:List (Str×V)),((j,x)::r).lookup f=r.lookup f:=λx r=>by rw[List.lookup_cons,beq_false_of_ne (Ne.symm h)]
   refine⟨λt z=>?_,λz=>?_⟩
   .unfold lkF at z;rw[ZZ h]at z;obtain⟨x,e1,r⟩:=i1 t z;exact⟨x,(e _ _).trans e1,r⟩
   .unfold lkF at z;rw[ZZ h]at z;exact(e _ _).trans (i2 z)
theorem TJ{f:Str}{v:V} : ∀{ks:Φ}{xs:Ζ},ks.length=xs.length->wY f v (ks.zip xs)=(IV ks f).zip (Bc ks xs f v)/\(IV ks f).length=(Bc ks xs f v).length
 |[],[],_=>⟨rfl,rfl⟩
 |k::ks,x::xs,l=>by
  obtain⟨i1,i2⟩:=TJ (f:=f) (v:=v) (ks:=ks) (xs:=xs) (Nat.succ.inj l);show(if k=f then(k,v)::ks.zip xs else(k,x)::wY f v (ks.zip xs))=_/\_;unfold IV Bc;by_cases h:k=f
  .rw[ZY h,ZY h,ZY h];exact⟨rfl,l⟩
  .rw[ZZ h,ZZ h,ZZ h,i1];exact⟨rfl,ZH (· + 1) i2⟩
 |[],_::_,l=>by cases l
 |_::_,[],l=>by cases l
theorem cu.put{K:Frag}{F:Hp}{f:Str}{v:V}{t:T}(r:Rep K F v t):∀{ks:Φ}{xs:Ζ}{ts:List T},cu K F xs ts->cu K F (Bc ks xs f v) (Bc ks ts f t)
 |[],_,_,h=>h.app (.cons r .nil)
 |_::_,_,_,.nil=>.cons r .nil
 |k::ks,_,_,.cons a b=>by
  unfold Bc;by_cases h:k=f
  .rw[ZY h,ZY h];exact .cons r b
  .rw[ZZ h,ZZ h];exact .cons a (cu.put r b)
abbrev SI:=Addr->Φ->List T->List T->(Φ->List T->Prop)->Prop
def Slf(a dx b:Addr):Prop:=b=a\/b=dx
def spI(K:Frag)(S:SI):Sp:=λvs H Q _=>∃a dx C ks xs ts us as R,vs=.ref a::us/\H a=some (.ins C dx (ks.zip xs))/\H dx=some (.own a)/\ks.length=xs.length/\cu K (hd (Slf a dx) H) xs ts/\cu K (hd (Slf a dx) H) us as/\S C ks ts as R /\
 ∀H' eC e9 eS,R eC eS->Same (hd (Slf a dx) H) (hd (Slf a dx) H')->H' a=some (.ins C dx (eC.zip e9))->H' dx=some (.own a)->eC.length=e9.length->cu K (hd (Slf a dx) H') e9 eS->Q .non H'
section
variable{P:Program}{w:World}{K:Frag}{mg:Str->Ω}{base:Heap}
def startI(n:Nat)(a dx C:Addr)(ks:Φ)(ts as:List T):List OT:=.ob a dx C ks ts::start' (n-1) as
def akB(a dx:Addr):Nat->Ψ
 |0=>[a,dx]
 |_+1=>[]
theorem XR(a dx:Addr):Ow (akB a dx)=Slf a dx:=funext λb=>propext ⟨(λh=>by
  obtain⟨i,z⟩:=h;cases i with
  |zero =>
   rcases YU.mp z with z|z
   .exact .inl z
   .exact .inr (YR.mp z)
  |succ i=>cases z),λz=>⟨0,by show b∈[a,dx];rcases z with rfl|rfl<;>simp⟩⟩
theorem SR.startI{H:Hp}{a dx C:Addr}{ks:Φ}{xs:Ζ}{ts as:List T}{us:Ζ}(ha:H a=some (.ins C dx (ks.zip xs)))(bz:H dx=some (.own a))(l:ks.length=xs.length)(r:cu K (hd (Slf a dx) H) xs ts)(r2:cu K (hd (Slf a dx) H) us as)(N:Φ)(hN:us.length+1<=N.length) :
  SR K (akB a dx) H (L2.start N (.ref a::us)) (L2.startI N.length a dx C ks ts as):=by
 have eO:=XR a dx;refine⟨?_,λi x e=>?_,λi hi b hb=>?_,λi j b e1 e2=>?_⟩
 .unfold L2.startI start' L2.start;have:=r2.len;simp only[List.length_cons,aA,ak,aN];lia
 .rw[eO];unfold L2.startI at e;cases i with
  |zero =>
   cases e;exact⟨xs,rfl,rfl,ha,bz,l,r⟩
  |succ i =>
   rw[List.getElem?_cons_succ]at e;show Slo K _ _ _ [] x;unfold start' at e;unfold L2.start;rw[List.map_cons,List.cons_append,List.getElem?_cons_succ];by_cases hi:i<as.length
   .rw[aF (by simpa using hi),aq,aj hi]at e;cases e;obtain⟨v,e1,r1⟩:=r2.at_ (aj hi);rw[aF (by rw[ak,r2.len];exact hi),aq,e1];exact⟨rfl,v,rfl,r1⟩
   .rw[aD (by simpa using hi),ak,XG]at e;by_cases hj:i-as.length<N.length-1-as.length
    .rw[ZY hj]at e;cases e;rfl
    .rw[ZZ hj]at e;cases e
 .unfold L2.startI at hi;cases i with
  |zero=>cases hi
  |succ i=>cases hb
 .cases i with
  |zero =>
   cases j with
   |zero=>rfl
   |succ j=>cases e2
  |succ i=>cases e1
theorem Fun.okI{x ai:Str}{st:Stmt}{f:Addr}{fd:FuncData}{N ps:Φ}{k:Nat}{S:SI}(F:Fun K x ai st f fd)(sc:bM N ps (bI st))(len:∀C ks ts as R,S C ks ts as R->as.length+1=ps.length)(hn:ps.length<=N.length)
 (ck:∀(af:Value)(A:Around)(outer:List Env)(s:Shared)(H:Hp)(E:XK),eG k (A.deeper (envOfC ai (bI st) s.heap.objs.size f af))->N.Nodup ->
   ∃r,QSs (O8 CX0 P w K mg base N ai (bI st) f af A outer s H E).nox (gk st) r/\∀a dx C ks ts as R,S C ks ts as R->r { nx:=λo=>∃eC eS,slot o 0=.ob a dx C eC eS/\R eC eS,rt:=λ_=>False } (startI N.length a dx C ks ts as)):gW P w K mg base CX0 (k+1) f fd ps (spI K S):=by
 refine F.ok sc (λvs H Q E h=>?_) λaf A outer s H vs Q E hr h=>?_
 .obtain⟨a,dx,C,ks,xs,ts,us,as,R,rfl,_,_,_,_,r2,hS,_⟩:=h;rw[List.length_cons,r2.len];exact len _ _ _ _ _ hS
 .obtain⟨a,dx,C,ks,xs,ts,us,as,R,rfl,ha,bz,l,r,r2,hS,q⟩:=h;obtain⟨rd,h1,h2⟩:=ck af A outer s H E hr sc.nd;have s0:=SR.startI ha bz l r r2 N (by rw[r2.len,len _ _ _ _ _ hS];exact hn);have eO:=XR a dx;refine⟨_,h1,_,_,_,s0,h2 a dx C ks ts as R hS,⟨λown H' σ o rx E h=>?_,λ_ _ _ _ _ z=>z.elim,λ_ _ _ _ z=>z.elim,λ_ _ _ _ z=>z.elim,λ_ _ _ _ _ _ z=>z.elim⟩⟩;obtain⟨eC,eS,es,rx⟩:=rx;rw[eO]at E;obtain⟨u,_,e9,e1,e2,e3,e4,e5,e6⟩:=h.val es (by intro z;cases z);have sub:Same (hd (Ow own) H') (hd (Slf a dx) H'):=jk (λb z=>.inl ⟨0,by rw[e2];rcases z with rfl|rfl<;>simp⟩) λ_ _ z=>z;exact q H' eC e9 eS rx (E.trans sub) e3 e4 e5 (e6.same sub)
end
section
variable{X:Cx}{e:Expr}{es:List Expr}{re:RE}{r:RA}{f:Str}{pos ah p:Pos}{Fm:Addr->Prop}
def aeV(Fm:Addr->Prop)(i:Nat)(f:Str):RE:=λo q=>match slot o i with|.ob _ _ C ks ts=>Fm C/\∃t,lkF ks ts f=some t/\q (.fz t)|_=>False
theorem acR(i:Nat){x:Str}(c:∀C,Fm C->Cls X.K C/\cB X.K C f)(hN:X.N[i]?=some x:=by rfl)(hv:rZ X.env.scope x=true:=by rfl)(bz:qk x:=by decide)(bi:qf x:=by decide)(hb:attributeBase (.Name x p) f X.env (eval (.Name x p) X.env)=eval (.Name x p) X.env:=by rfl):QE X (.Attribute (.Name x p) f pos) (aeV Fm i f):=(aaB (pv i hN hv bz bi) hb).imp λσ H Q hP=>by
 obtain⟨own,o,R,h,hr,k⟩:=hP;unfold aeV at hr;cases es:slot o i with
 |ob a dx C ks ts =>
  rw[es]at hr;obtain⟨u,e1,xs,e2,e3,e4,e5,l,r⟩:=h.val es (by intro z;cases z);cases e2;obtain⟨hf,t,e6,q⟩:=hr;obtain⟨v,e7,r7⟩:=(ab8 r).1 t e6;exact⟨_,e1,a,C,dx,_,v,rfl,e4,(c C hf).1,(c C hf).2,e7,k H _ _ q (.refl _) (NR.fz r7)⟩
 |_=>rw[es]at hr;exact hr.elim
def aeU(Fm:Addr->Prop)(i:Nat)(f:Str)(a:RE):RS:=λE o=>match slot o i with|.ob b dx C ks ts=>a o λy=>(Fm C/\ks.length<1000)/\E.nx (o.set i (.ob b dx C (IV ks f) (Bc ks ts f (frz y))))|_=>False
theorem sZ(i:Nat){x:Str}{aE:Pos}(c:∀C,Fm C->Cls X.K C/\cB X.K C f)(he:QE X e re)(hN:X.N[i]?=some x:=by rfl)(hv:rZ X.env.scope x=true:=by rfl)(bz:qk x:=by decide)(bi:qf x:=by decide)(hs:swapsWith e (some (.Attribute (.Name x p) f aE)) pos.line X.env=pure false:=by rfl):QS X (.Assign [.Attribute (.Name x p) f aE] e pos) (aeU Fm i f re):=(afT (pv i hN hv bz bi) he hs).imp λD σ H hP=>by
 obtain⟨own,o,E,h,hr,L⟩:=hP;unfold aeU at hr;cases es:slot o i with
 |ob a dx C ks ts =>
  rw[es]at hr;obtain⟨u,e1,xs,e2,e3,e4,e5,l,r⟩:=h.val es (by intro z;cases z);cases e2;refine tQ.mk h hr λH1 v y q E1 r1=>⟨_,e1,a,C,dx,_,rfl,E1 _ _ e4,(c C q.1.1).1,(c C q.1.1).2,by rw[VX,<- l,UX];exact q.1.2,?_⟩;obtain⟨pz,pl⟩:=TJ (f:=f) (v:=v) l;rw[pz];have eK:dx≠a:=ai4 e5 e4 (by intro z;cases z);obtain⟨h',S⟩:=(h.same E1).chg (iz es (by intro z;cases z)) (y:=.ob a dx C (IV ks f) (Bc ks ts f (frz y))) (H':=upd H1 a (.ins C dx ((IV ks f).zip (Bc ks xs f v)))) (λb u hb e=>(cD λz=>hb (by rw[e3,z];simp)).trans e) (by
   rw[e1,Gp ⟨i,by rw[e3];simp⟩];exact⟨_,rfl,e3,cL,(cD eK).trans (E1 _ _ e5),pl,cu.put r1 (r.same (bV E1))⟩)
  exact L.nx own _ σ _ q.2 ((bV E1).trans S) h'
 |_=>rw[es]at hr;exact hr.elim
def amk(Fm:Addr->Prop)(f:Str)(a:RE):RE:=λo q=>a o λx=>match frz x with|.ins C ks ts=>Fm C/\∃t,lkF ks ts f=some t/\q (.fz t)|_=>False
theorem Cp(c:∀C,Fm C->Cls X.K C/\cB X.K C f)(he:QE X e re)(hb:qB X e f:=by rfl):QE X (.Attribute e f pos) (amk Fm f re):=(aaB he hb).imp λσ H Q ⟨own,o,R,h,hr,k⟩=>tQ.mk h hr λH1 v x q E1 r1=>by
 revert r1 q
 generalize frz x=t;intro q r1;cases t<;>try exact q.elim
 obtain⟨a,dx,xs,rfl,e,d,l,r⟩:=r1.insI;obtain⟨hf,t,e6,q⟩:=q;obtain⟨v,e7,r7⟩:=(ab8 r).1 t e6;exact⟨a,_,dx,_,v,rfl,(cX e).2,(c _ hf).1,(c _ hf).2,e7,k H1 _ _ q E1 (NR.fz r7)⟩
abbrev OkM(X:Cx)(k:Nat)(fa:Addr)(ps:Φ)(S:ST):Prop:=zw X CX0 k fa ps (spT X.K S)
theorem OkI.hid{P:Program}{w:World}{K:Frag}{mg:Str->Ω}{base:Heap}{k:Nat}{fa:Addr}{ps:Φ}{sp:Sp}(G:OkI P w K mg base CX0 k fa ps sp):OkI P w K mg base CX0 k fa ps (spH sp):=by obtain⟨fd,F,b⟩:=G;exact⟨fd,F.hid,b⟩
theorem Ss{S:ST}{H1:Hp}{σ:L2.St}{own:Nat->Ψ}{o:List OT}{R:OT->Prop}{Q:VK}{vs:Ζ}{ts:List T}{E:XK}(h1:SR X.K own H1 σ o)(r1:cu X.K (hd (Ow own) H1) vs ts)(q:S ts R)(k:∀H' v x,R x->Same H1 H'->NR X.K (Ow own) H1 H' v x->Q v H'):spH (spT X.K S) vs H1 Q E:=by
 refine⟨Ow own,h1.hid,ts,R,r1,q,λG v x rx E n a9=>?_⟩;have EH:Same H1 (mrg (Ow own) H1 G):=λb u e=>by
  by_cases z:Ow own b
  .rw[vM z];exact e
  .rw[j8 z];exact E b u ((cQ z).trans e)
 have EG:Same G (mrg (Ow own) H1 G):=λb u e=>by rw[j8 λz=>by rw[a9 b z]at e;cases e];exact e
 refine k _ v x rx EH ?_;obtain⟨B,nb,s⟩:=n;have out:∀a∈B,¬Ow own a:=λa ha z=>(s.sole ha).ne (a9 a z);refine⟨B,λa ha=>by have:=nb a ha;rwa[cQ (out a ha)]at this,s.same (jk (λb z=>?_) EG) EG⟩;rcases z with z|z
 .exact .inr (a9 b z)
 .exact .inl (.inr z)
def afb(C:Addr)(KS:Φ)(S:ST)(a:RE)(r:RA):RE:=λo q=>a o λx=>match frz x with|.ins C' ks ts=>(C'=C/\ks=KS)/\r o λas=>S (.ins C' ks ts::as) q|_=>False
theorem Qd{f:Str} : ∀{KS:Φ}{xs:Ζ},f∉KS->(KS.zip xs).lookup f=none
 |[],_,_=>rfl
 |_::_,[],_=>rfl
 |k::KS,x::xs,h=>by
  rw[List.zip_cons_cons,List.lookup_cons,beq_false_of_ne λ(z:f=k)=>h (by rw[z];exact aO ..)];exact Qd λz=>h (aJ _ z)
theorem Ak{o:Expr}{ro:RE}{k:Nat}{fa C:Addr}{ps KS:Φ}{S:ST}{pl:Sem Bool}(he:QE X o ro)(c:Cls X.K C)(hm:Meth X.K C f fa)(G:OkM X k fa ps S)(ha:QA X (e::es) r)(hr:eG k X.A:=by exact eG.mono (by assumption) (by decide))(hk:f∉KS:=by decide +kernel)
 (cc:qo X e es:=by rfl)(bt:qh X pos es:=by rfl)
 (ht:eval (.Call (.Attribute o f ah) (e::es) [] pos) X.env=(do
   let ov <- eval o X.env
   standAt ah.atName
   let(f,first) <- holding [ov] (getMethod ov f pl)
   callWith pos f first (backTo pos (starEach (e::es) X.env)) (backToKw pos (keywordEach [] X.env))):=by rfl) :
  QE X (.Call (.Attribute o f ah) (e::es) [] pos) (afb C KS S ro r):=(acu (pl:=pl) he c hm (OkI.hid G) hr ha cc bt ht).imp λσ H Q ⟨own,o,R,h,hr,k⟩=>tQ.mk h hr λH1 v x q E1 r1=>by
 revert r1 q
 generalize frz x=t;intro q r1;cases t<;>try exact q.elim
 obtain⟨a,dx,xs,rfl,e,d,l,r⟩:=r1.insI;obtain⟨⟨rfl,rfl⟩,q⟩:=q;refine⟨a,dx,_,rfl,(cX e).2,Qd hk,tQA.mk (h.same E1) q λH2 vs as q _ E2 r2=>?_⟩;exact Ss ((h.same E1).same E2) (.cons (r1.same (bV E2)) r2) q λH' v x rx E n=>k H' v x rx (E1.trans (E2.trans E)) (n.back (E1.trans E2))
theorem yp{o:Expr}{ro:RE}{k:Nat}{fa C:Addr}{ps KS:Φ}{S:ST}{pl:Sem Bool}(he:QE X o ro)(c:Cls X.K C)(hm:Meth X.K C f fa)(G:OkM X k fa ps S)(hr:eG k X.A:=by exact eG.mono (by assumption) (by decide))(hk:f∉KS:=by decide +kernel)
 (ht:eval (.Call (.Attribute o f ah) [] [] pos) X.env=(do
   let ov <- eval o X.env
   standAt ah.atName
   let(f,first) <- holding [ov] (getMethod ov f pl)
   callWith pos f first (backTo pos (starEach [] X.env)) (backToKw pos (keywordEach [] X.env))):=by rfl) :
  QE X (.Call (.Attribute o f ah) [] [] pos) (afb C KS S ro agC):=(ZQ (pl:=pl) he c hm (OkI.hid G) hr ht).imp λσ H Q ⟨own,o,R,h,hr,k⟩=>tQ.mk h hr λH1 v x q E1 r1=>by
 revert r1 q
 generalize frz x=t;intro q r1;cases t<;>try exact q.elim
 obtain⟨a,dx,xs,rfl,e,d,l,r⟩:=r1.insI;obtain⟨⟨rfl,rfl⟩,q⟩:=q;refine⟨a,dx,_,rfl,(cX e).2,Qd hk,?_⟩;exact Ss (E:=E0) (h.same E1) (.cons r1 .nil) q λH' v x rx E n=>k H' v x rx (E1.trans E) (n.back E1)
def akn(C:Addr)(S:SI)(r:RA):RE:=λo q=>r o λas=>S C [] [] as λks ts=>q (.fz (.ins C ks ts))
theorem Eh{x:Str}{k:Nat}{fa C:Addr}{ps:Φ}{S:SI}(M:Mk X.K C fa)(G:zw X CX0 k fa ps (spI X.K S))(hm:X.mg x=some (.ref C))(ha:QA X (e::es) r)(hr:eG (k+1) X.A:=by exact eG.mono (by assumption) (by decide))(hg:Gl X x:=by rfl)(ci:qk x:=by decide)
 (he:qo X e es:=by rfl)(bt:qh X pos es:=by rfl):QE X (.Call (.Name x p) (e::es) [] pos) (akn C S r):=(Z_ M (OkI.hid G) hr hg hm ha ci he bt).imp λσ H Q ⟨own,o,R,h,hr,k⟩=>tQA.mk h hr λH1 vs as q _ E1 r1 a dx na nd ne=>by
 have h1:=h.same E1;have E2:Same H1 (upd (upd H1 dx (.own a)) a (.ins C dx [])):=(Same.upd nd).trans (Same.upd ((cD (Ne.symm ne)).trans na));have h2:=h1.same E2;have oa:¬Ow own a:=λz=>(h1.sole z).ne na;have od:¬Ow own dx:=λz=>(h1.sole z).ne nd;refine⟨Ow own,h2.hid,a,dx,C,[],[],[],vs,as,_,rfl,(cQ oa).trans cL,(cQ od).trans ((cD ne).trans cL),rfl,.nil,r1.same (λb u e=>?_),q,λG eC e9 eS rx E ea ed l r a9=>⟨rfl,?_⟩⟩
 .obtain⟨n,e⟩:=cX e;have n2:¬Slf a dx b:=λz=>by rcases z with rfl|rfl<;>rw[e]at *<;>contradiction
  rw[cQ n2,cQ n];exact E2 _ _ e
 .have EG:Same G (mrg (Ow own) (upd (upd H1 dx (.own a)) a (.ins C dx [])) G):=λb u e=>by rw[j8 λz=>by rw[a9 b z]at e;cases e];exact e
  refine k _ _ _ rx (E1.trans λb u e=>?_) (NR.fz (.ins (dx:=dx) (ks:=eC) (xs:=e9) ?_ ?_ l (r.same λb u e=>?_)))
  .by_cases z:Ow own b
   .rw[vM z];exact E2 _ _ e
   .have n2:¬Slf a dx b:=λz=>by rcases z with rfl|rfl<;>rw[e]at *<;>contradiction
    exact EG _ _ (cX (E b u ((cQ n2).trans ((cQ z).trans (E2 _ _ e))))).2
  .rw[cQ oa];exact EG _ _ ea
  .rw[cQ od];exact EG _ _ ed
  .have e':=(cX e).2;rw[cQ λz=>by rw[a9 b z]at e';cases e'];exact EG _ _ e'
def aeS(i:Nat)(S:SI)(r:RA):RS:=λE o=>match slot o i with|.ob a dx C ks ts=>r o λas=>S C ks ts as λeC eS=>E.nx (o.set i (.ob a dx C eC eS))|_=>False
theorem HY(i:Nat){x y m:Str}{p2 ae:Pos}{k:Nat}{fa B:Addr}{ps:Φ}{S:SI}{pl:Sem Bool}(c:GZ X.K B m fa)(G:zw X CX0 k fa ps (spI X.K S))(hm:X.mg x=some (.ref B))(ha:QA X es r)(hr:eG k X.A:=by exact eG.mono (by assumption) (by decide))(hg:Gl X x:=by rfl)
 (hN:X.N[i]?=some y:=by rfl)(hv:rZ X.env.scope y=true:=by rfl)(bz:qk y:=by decide)(bi:qf y:=by decide)(ci:qk x:=by decide)
 (cc:starEach (.Name y p2::es) X.env=(false,eval (.Name y p2) X.env)::starEach es X.env:=by rfl)(bt:qh X ae es:=by rfl)
 (ht:eval (.Call (.Attribute (.Name x p) m ah) (.Name y p2::es) [] ae) X.env=(do
   let ov <- eval (.Name x p) X.env
   standAt ah.atName
   let(f,first) <- holding [ov] (getMethod ov m pl)
   callWith ae f first (backTo ae (starEach (.Name y p2::es) X.env)) (backToKw ae (keywordEach [] X.env))):=by rfl)
 (hs:swapsWith (.Call (.Attribute (.Name x p) m ah) (.Name y p2::es) [] ae) none pos.line X.env=pure false:=by rfl) :
  QS X (.Expr (.Call (.Attribute (.Name x p) m ah) (.Name y p2::es) [] ae) pos) (aeS i S r):=(z9 (aaX (pl:=pl) c (OkI.hid G) hr hg hm (p7 (pv i hN hv bz bi) ha cc) ci cc bt ht) hs).imp λD σ H hP=>by
 obtain⟨own,o,E,h,hr,L⟩:=hP;unfold aeS at hr;cases es:slot o i with
 |ob a dx C ks ts =>
  rw[es]at hr;obtain⟨u,e1,xs,e2,e3,e4,e5,l,r⟩:=h.val es (by intro z;cases z);cases e2;refine⟨_,e1,tQA.mk h hr λH1 vs as q _ E1 r1=>?_⟩;have h1:=h.same E1;have sub:∀b,Slf a dx b->b∈own i:=λb z=>by rw[e3];rcases z with rfl|rfl<;>simp
  have bus:∀b,b∈own i->Slf a dx b:=λb z=>by
   rw[e3]at z;rcases YU.mp z with z|z
   .exact .inl z
   .exact .inr (YR.mp z)
  have hid:Hid H1 (λb=>Ow own b/\¬Slf a dx b):=⟨λb z=>h1.sole z.1,λb C d f ⟨⟨j,z⟩,n⟩ e=>⟨⟨j,(h1.mate z).1 C d f e⟩,λy=>n (bus b ((h1.dis j i d ((h1.mate z).1 C d f e) (sub d y)) ▸ z))⟩,λb x ⟨⟨j,z⟩,n⟩ e=>⟨⟨j,(h1.mate z).2 x e⟩,λy=>n (bus b ((h1.dis j i x ((h1.mate z).2 x e) (sub x y)) ▸ z))⟩⟩;have eqF:∀H':Hp,hd (Slf a dx) (hd (λb=>Ow own b/\¬Slf a dx b) H')=hd (Ow own) H':=λH'=>funext λb=>by
   by_cases z:Slf a dx b
   .rw[rG z,rG ⟨i,sub b z⟩]
   .rw[cQ z];by_cases y:Ow own b
    .rw[rG (⟨y,z⟩ : Ow own b/\¬Slf a dx b),rG y]
    .rw[cQ (λw=>y w.1),cQ y]
  have na:¬(Ow own a/\¬Slf a dx a):=λz=>z.2 (.inl rfl);have nd:¬(Ow own dx/\¬Slf a dx dx):=λz=>z.2 (.inr rfl);refine⟨_,hid,a,dx,C,ks,xs,ts,vs,as,_,rfl,(cQ na).trans (E1 _ _ e4),(cQ nd).trans (E1 _ _ e5),l,by rw[eqF];exact r.same (bV E1),by rw[eqF];exact r1,q,λG eC e9 eS rx EE ea ed l' r' a9=>?_⟩;rw[eqF]at EE;have dr:∀{b:Addr}{u:HO},G b=some u->mrg (λb=>Ow own b/\¬Slf a dx b) H1 G b=some u:=λ{b u}e=>(j8 λz=>by rw[a9 b z]at e;cases e).trans e;obtain⟨h',S'⟩:=h1.chg (iz es (by intro z;cases z)) (y:=.ob a dx C eC eS) (H':=mrg (λb=>Ow own b/\¬Slf a dx b) H1 G) (λb u hb e=>by
   by_cases z:Ow own b
   .rw[vM ⟨z,λy=>hb (sub b y)⟩];exact e
   .exact dr (cX (EE b u ((cQ z).trans e))).2) (by
   rw[e1];refine⟨e9,rfl,e3,dr ea,dr ed,l',r'.same λb u e=>?_⟩;obtain⟨n1,e⟩:=cX e;rw[cQ λz=>by rw[a9 b ⟨z,n1⟩]at e;cases e];exact dr e)
  exact L.nx own _ σ _ rx ((bV E1).trans S') h'
 |_=>rw[es]at hr;exact hr.elim
end
section
variable{X:Cx}{a b c e:Expr}{ra rb rc re:RE}{pos p:Pos}
theorem mq{x:Str}{A:Addr}{i j:Int}{pos:Pos}(hm:X.mg x=some (.ref A))(kt:∀H,SqT X.K H A [.int i,.int j])(hg:Gl X x:=by rfl)(hd:qk x:=by decide):QE X (.Name x pos) (rC (.tup [.int i,.int j])):=qC (aar hg hm hd) λF=>.tup (kt F) (.cons (.int _) (.cons (.int _) .nil))
theorem QE.any{Fm:Addr->Prop}{r:Addr->RE}(h:∀C,Fm C->QE X e (r C)):QE X e (λo q=>∃C,Fm C/\r C o q):=λaa s σ H Q I ⟨own,o,R,hs,⟨C,hC,hr⟩,k⟩=>h C hC aa s σ H Q I ⟨own,o,R,hs,hr,k⟩
theorem mZ{tg iter be:Expr}{aS:List Expr}{ri:RI}{g:qS}{rc:RT}{scope:Scope}{i0:Nat}{y0:Str}{py b8:Pos}(sc:Scope)(N N' xs:Φ)(hi:QI X tg iter ri)(hg:∀{C s₀ H₀ ex pn},QG (X.compG N' scope xs C s₀ H₀ ex pn) xs.length tg g)(ht:∀{C s₀ H₀ ex pn},QTs (X.compG N' scope xs C s₀ H₀ ex pn) aS rc)(he:∀{C s₀ H₀ ex pn},QE (X.compG N' scope xs C s₀ H₀ ex pn) be re)(fR:PG X (.Name y0 py) (Bl i0))
 (cy:X.env.scope=sc:=by rfl)(cK:X.N=N:=by rfl)(hc:X.calm=true:=by rfl)(hk:scope.kind=.function:=by rfl)(h:CK sc scope N N' xs:=by decide +kernel)(fI:swapsWith (.ListComp be [⟨tg,iter,aS,0⟩] scope pos) (some (.Name y0 py)) b8.line X.env=pure true:=by rfl)(hs:qV X iter:=by intro _;rfl) :
  QS X (.Assign [.Name y0 py] (.ListComp be [⟨tg,iter,aS,0⟩] scope pos) b8) (agn i0 (Ul ri xs.length g rc re)):=(acA (gt:=tQG X.K xs.length g) (tc:=tQT X.K rc) (te:=tQ X.K re) sc N N' xs hi hg ht he fR cy cK hc hk h fI hs).imp λD σ H ⟨own,o,E,h,hr,L⟩=>J3 ⟨own,o,_,h,hr,λH' v y q S n=>by
 obtain⟨ag,h',S'⟩:=h.putA S (n.frz λb z=>(h.sole z).ne) i0;exact L.nx ag H' _ _ q S' h'⟩
def anC(i j:Nat)(r:RA):RS:=λE o=>r o λts=>match ts with|[t,u]=>E.nx ((o.set i (.fz t)).set j (.fz u))|_=>False
theorem afy(i j:Nat){x y:Str}{r:RA}{px py pt:Pos}{kt k2 pt2}(hc:X.calm=true)(hN:X.N.Nodup)(ic:i≠j)(ha:QA X [a,b] r)(hi:X.N[i]?=some x:=by rfl)(hj:X.N[j]?=some y:=by rfl)
 (hx:X.env.scope.names.lookup x=some .local:=by rfl)(hy:X.env.scope.names.lookup y=some .local:=by rfl)
 (hw:swappedStores [.Tuple [.Name x px,.Name y py] kt pt] (.Tuple [a,b] k2 pt2) X.env=pure (some [x,y]):=by rfl)
 (hs:swapsWithSole [.Tuple [.Name x px,.Name y py] kt pt] (.Tuple [a,b] k2 pt2) pos.line X.env=pure false:=by rfl) :
  QS X (.Assign [.Tuple [.Name x px,.Name y py] kt pt] (.Tuple [a,b] k2 pt2) pos) (anC i j r):=(ag7 hc hN hi hj ic hx hy ha hw hs).imp λD σ H ⟨own,o,E,h,hr,L⟩=>⟨own,o,_,h,hr,λH1 vs ts q _ E1 r1=>by
 match ts,q with
 |[t,u],q =>
  obtain⟨v,w,rfl,rv,kG⟩:=r1.two;refine⟨v,w,rfl,?_⟩;obtain⟨ag,h',go⟩:=(h.same E1).setF rv (X0 i);obtain⟨bX,h2,S2⟩:=h'.putA (.refl _) (NR.fz (kG.same go.same)) j;exact L.nx bX H1 _ _ q ((bV E1).trans (go.same.trans S2)) h2⟩
theorem ix2{α β:Type}{xs:List α}{ys:List β}{j:Int}{y:β}(l:xs.length=ys.length)(e:ixT ys j=some y):∃n x,ixN ys.length j=some n/\ys[n]?=some y/\xs[n]?=some x/\atI xs j=some x:=by
 rw[WR]at e;unfold atI at e ⊢;rw[l];cases z:ixN ys.length j with
 |none=>rw[z]at e;cases e
 |some n =>
  rw[z]at e;have hn:n<xs.length:=l ▸ (ao.mp e).1;exact⟨n,xs[n],rfl,e,aj hn,aj hn⟩
theorem JT{α:Type} : ∀{l:List α},l.Nodup->∀{i j:Nat}{x:α},l[i]?=some x->l[j]?=some x->i=j
 |[],_,_,_,_,e,_=>by cases e
 |y::l,nd,i,j,x,e1,e2=>by
  obtain⟨n1,n2⟩:=List.nodup_cons.mp nd;cases i with
  |zero =>
   cases j with
   |zero=>rfl
   |succ j=>cases e1;exact absurd (aC (by simpa using e2)) n1
  |succ i =>
   cases j with
   |zero=>cases e2;exact absurd (aC (by simpa using e1)) n1
   |succ j=>exact ZH (· + 1) (JT n2 (by simpa using e1) (by simpa using e2))
theorem SR.l2{K:Frag}{own:Nat->Ψ}{H:Hp}{σ:L2.St}{o:List OT}(h:SR K own H σ o){i:Nat}{aw:List (List T)}(e:slot o i=.l2 aw):∃l bs,σ[i]?=some (some (.ref l))/\own i=l::bs/\(l::bs).Nodup/\H l=some (.lst (bs.map V.ref))/\bs.length=aw.length/\∀(i:Nat)b ts,bs[i]?=some b->aw[i]?=some ts->∃xs,H b=some (.lst xs)/\cu K (hd (Ow own) H) xs ts:=by
 obtain⟨u,e1,l,bs,e2,e3,nd,e4,ln,r⟩:=h.val e (by intro z;cases z);cases e2;exact⟨l,bs,e1,e3,nd,e4,ln,r⟩
theorem SR.chg2{K:Frag}{own:Nat->Ψ}{H:Hp}{σ:L2.St}{o:List OT}(h:SR K own H σ o){i n:Nat}{aw:List (List T)}(e:slot o i=.l2 aw){l b:Addr}{bs:Ψ}{ys:Ζ}{us:List T}(eσ:σ[i]?=some (some (.ref l)))(eo:own i=l::bs)(nd:(l::bs).Nodup)(e4:H l=some (.lst (bs.map V.ref)))(ln:bs.length=aw.length)(r:∀(i:Nat)b ts,bs[i]?=some b->aw[i]?=some ts->∃xs,H b=some (.lst xs)/\cu K (hd (Ow own) H) xs ts)(eb:bs[n]?=some b)(ry:cu K (hd (Ow own) H) ys us) :
  SR K own (upd H b (.lst ys)) σ (o.set i (.l2 (aw.set n us)))/\Same (hd (Ow own) H) (hd (Ow own) (upd H b (.lst ys))):=by
 have bm:=aC eb;obtain⟨nl,ke⟩:=List.nodup_cons.mp nd;refine h.chg (iz e (by intro z;cases z)) (λc u hc e=>(cD λz=>hc (by rw[eo,z];exact aJ _ bm)).trans e) ?_;rw[eσ,Gp ⟨i,by rw[eo];exact aJ _ bm⟩];refine⟨l,bs,rfl,eo,nd,(cD λ(z:l=b)=>nl (by rw[z];exact bm)).trans e4,by rw[WH];exact ln,λk c ts e1 e2=>?_⟩;by_cases z:k=n
 .subst z;rw[eb]at e1;cases e1;rw[UU (ln ▸ (ao.mp eb).1)]at e2;cases e2;exact⟨ys,cL,ry⟩
 .rw[VV (Ne.symm z)]at e2;obtain⟨xs,q,rx⟩:=r k c ts e1 e2;refine⟨xs,(cD λy=>?_).trans q,rx⟩;have h1:=(ao.mp e1).1;have h2:=(ao.mp eb).1;exact z (JT ke e1 (by rw[eb,y]))
theorem Vx{bs:Ψ}{j:Int}{c:Addr}(e:atI bs j=some c):atI (bs.map V.ref) j=some (.ref c):=by
 have:atI (bs.map V.ref) j=(atI bs j).map V.ref:=by unfold atI;rw[ak];cases ixN bs.length j<;>simp
 rw[this,e];rfl
def afk(i:Nat)(a b:RE):RE:=λo q=>match slot o i with
 |.l2 aw=>a o λx=>(match frz x with|.int j=>∃ts,ixT aw j=some ts/\b o λy=>(match frz y with|.int m=>∃t,ixT ts m=some t/\q (.fz t)|_=>False)|_=>False)
 |_=>False
theorem adZ(i:Nat){x:Str}{p2:Pos}(ha:QE X a ra)(hb:QE X b rb)(hN:X.N[i]?=some x:=by rfl)(hv:rZ X.env.scope x=true:=by rfl)(bz:qk x:=by decide)
 (bi:qf x:=by decide)(i6:sG a:=by exact λ_ _=>rfl)(hs:sG b:=by exact λ_ _=>rfl):QE X (.Subscript (.Subscript (.Name x p) a p2) b pos) (afk i ra rb):=(Nb Ae (Nb Ae (pv i hN hv bz bi) ha i6) hb hs).imp λσ H Q hP=>by
 obtain⟨own,o,R,h,hr,k⟩:=hP;unfold afk at hr;cases es:slot o i with
 |l2 aw =>
  rw[es]at hr;obtain⟨l,bs,e1,e3,nd,e4,ln,r⟩:=h.l2 es;refine⟨_,e1,tQ.mk h hr λH1 v x q E1 r1=>?_⟩
  revert r1 q
  generalize frz x=t;intro q r1;cases t<;>try exact q.elim
  cases r1;obtain⟨ts,ej,q⟩:=q;obtain⟨n,c,_,et,ec,ei⟩:=ix2 (xs:=bs) ln ej;obtain⟨xs,eq,rx⟩:=r n c ts ec et;refine⟨l,bs.map V.ref,_,.ref c,rfl,rfl,.of (E1 _ _ e4),?_,tQ.mk (h.same E1) q λH2 w y q E2 r2=>?_⟩
  .exact Vx ei
  .revert r2 q
   generalize frz y=t;intro q r2;cases t<;>try exact q.elim
   cases r2;obtain⟨t,em,q⟩:=q;obtain⟨z,e7,r7⟩:=rx.ix em;have bS:=E1.trans E2;exact⟨c,xs,_,z,rfl,rfl,.of (bS _ _ eq),e7,k H2 _ _ q bS (NR.fz (r7.same (bV bS)))⟩
 |_=>rw[es]at hr;exact hr.elim
def ae9(i:Nat)(a b:RE):RS:=λE o=>match slot o i with
 |.l2 aw=>a o λx=>(match frz x with|.int j=>∃n ts,ixN aw.length j=some n/\aw[n]?=some ts/\ts.length<sizeLine/\b o λy=>E.nx (o.set i (.l2 (aw.set n (ts++[frz y]))))|_=>False)
 |_=>False
theorem ix3{α β:Type}{xs:List α}{ys:List β}{j:Int}{n:Nat}{y:β}(l:xs.length=ys.length)(e:ixN ys.length j=some n)(ey:ys[n]?=some y):∃x,xs[n]?=some x/\atI xs j=some x:=by
 have hn:n<xs.length:=l ▸ (ao.mp ey).1;exact⟨xs[n],aj hn,by unfold atI;rw[l,e];exact aj hn⟩
theorem adq(i:Nat){x:Str}{ah ae p2:Pos}(ha:QE X a ra)(he:QE X e re)(hN:X.N[i]?=some x:=by rfl)(hv:rZ X.env.scope x=true:=by rfl)(bz:qk x:=by decide)(bi:qf x:=by decide)(i6:sG a:=by exact λ_ _=>rfl)
 (hb:attributeBase (.Subscript (.Name x p) a p2) "append" X.env (eval (.Subscript (.Name x p) a p2) X.env)=eval (.Subscript (.Name x p) a p2) X.env:=by rfl)
 (hf:qr X ae e:=by rfl)
 (hl:zz ah ae:=by rfl)(cc:qo X e []:=by rfl)(hp:qh X ae []:=by rfl)
 (hs:swapsWith (.Call (.Attribute (.Subscript (.Name x p) a p2) "append" ah) [e] [] ae) none pos.line X.env=pure false:=by rfl) :
  QS X (.Expr (.Call (.Attribute (.Subscript (.Name x p) a p2) "append" ah) [e] [] ae) pos) (ae9 i ra re):=(z9 (acp (Nb Ae (pv i hN hv bz bi) ha i6) (p7 he PK cc) hb hf hl cc hp) hs).imp λD σ H hP=>by
 obtain⟨own,o,E,h,hr,L⟩:=hP;unfold ae9 at hr;cases es:slot o i with
 |l2 aw =>
  rw[es]at hr;obtain⟨l,bs,e1,e3,nd,e4,ln,r⟩:=h.l2 es;refine⟨_,e1,tQ.mk h hr λH1 v x q E1 r1=>?_⟩
  revert r1 q
  generalize frz x=t;intro q r1;cases t<;>try exact q.elim
  cases r1;obtain⟨n,ts,en,et,sz,q⟩:=q;obtain⟨c,ec,ei⟩:=ix3 (xs:=bs) ln en et;obtain⟨xs,eq,rx⟩:=r n c ts ec et;refine⟨l,bs.map V.ref,_,.ref c,rfl,rfl,.of (E1 _ _ e4),Vx ei,c,xs,rfl,E1 _ _ eq,tQ.mk (h.same E1) q λH2 w y q E2 r2=>?_⟩;have bS:=E1.trans E2;refine⟨w,xs,rfl,bS _ _ eq,by rw[rx.len];exact sz,?_⟩;obtain⟨h',S⟩:=(h.same bS).chg2 es e1 e3 nd (bS _ _ e4) ln (λi b ts a c=>let⟨xs,p,q⟩:=r i b ts a c;⟨xs,bS _ _ p,q.same (bV bS)⟩) ec ((rx.same (bV bS)).app (.cons r2 .nil));exact L.nx own _ σ _ q ((bV bS).trans S) h'
 |_=>rw[es]at hr;exact hr.elim
def aeT(i:Nat)(c a b:RE):RS:=λE o=>match slot o i with
 |.l2 aw=>c o λy=>a o λx=>(match frz x with|.int j=>∃n ts,ixN aw.length j=some n/\aw[n]?=some ts/\b o λz=>(match frz z with|.int m=>∃k,ixN ts.length m=some k/\E.nx (o.set i (.l2 (aw.set n (ts.set k (frz y)))))|_=>False)|_=>False)
 |_=>False
theorem ac1(i:Nat){x:Str}{aE p2:Pos}(he:QE X e re)(ha:QE X a ra)(hk:QE X b rb)(hN:X.N[i]?=some x:=by rfl)(hv:rZ X.env.scope x=true:=by rfl)(bz:qk x:=by decide)(bi:qf x:=by decide)(i6:sG a:=by exact λ_ _=>rfl)
 (hq:∀v,assign (.Subscript (.Subscript (.Name x p) a p2) b aE) X.env v=(do
   let ov <- holding [v] (eval (.Subscript (.Name x p) a p2) X.env)
   let iv <- holding [v,ov] (eval b X.env)
   standAt aE
   holding [v,ov,iv] (setItem ov iv v)
   release [v,ov,iv] []):=by intro _;rfl)
 (hs:swapsWithSole [.Subscript (.Subscript (.Name x p) a p2) b aE] e pos.line X.env=pure false:=by rfl)(hw:swappedStores [.Subscript (.Subscript (.Name x p) a p2) b aE] e X.env=pure none:=by rfl)
 (h1:(assignEach [.Subscript (.Subscript (.Name x p) a p2) b aE] X.env).map (·.2)=[assign (.Subscript (.Subscript (.Name x p) a p2) b aE) X.env]:=by rfl):QS X (.Assign [.Subscript (.Subscript (.Name x p) a p2) b aE] e pos) (aeT i re ra rb):=(W5 he (abg (Nb Ae (pv i hN hv bz bi) ha i6) hk set_list hq) hs hw h1).imp λD σ H hP=>by
 obtain⟨own,o,E,h,hr,L⟩:=hP;unfold aeT at hr;cases es:slot o i with
 |l2 aw =>
  rw[es]at hr;obtain⟨l,bs,e1,e3,nd,e4,ln,r⟩:=h.l2 es;refine tQ.mk h hr λH0 v0 y q E0' r0=>⟨_,e1,tQ.mk (h.same E0') q λH1 v x q E1 r1=>?_⟩
  revert r1 q
  generalize frz x=t;intro q r1;cases t<;>try exact q.elim
  cases r1;obtain⟨n,ts,en,et,q⟩:=q;obtain⟨c,ec,ei⟩:=ix3 (xs:=bs) ln en et;obtain⟨xs,eq,rx⟩:=r n c ts ec et;have E01:=E0'.trans E1;refine⟨l,bs.map V.ref,_,.ref c,rfl,rfl,.of (E01 _ _ e4),Vx ei,tQ.mk (h.same E01) q λH2 w z q E2 r2=>?_⟩
  revert r2 q
  generalize frz z=t;intro q r2;cases t<;>try exact q.elim
  cases r2;obtain⟨k,ek,q⟩:=q;have bS:=E01.trans E2;refine⟨c,xs,_,k,rfl,rfl,bS _ _ eq,by rw[rx.len];exact ek,?_⟩;obtain⟨h',S⟩:=(h.same bS).chg2 es e1 e3 nd (bS _ _ e4) ln (λi b ts a c=>let⟨xs,p,q⟩:=r i b ts a c;⟨xs,bS _ _ p,q.same (bV bS)⟩) ec (cu.set (r0.same (bV (E1.trans E2))) k (rx.same (bV bS)));exact L.nx own _ σ _ q ((bV bS).trans S) h'
 |_=>rw[es]at hr;exact hr.elim
def ant:qA
 |.str i,.str j,q=>q (.fz (.bl (!decide (j.cps.toList<i.cps.toList))))
 |_,_,_=>False
theorem abo:GO X (compareOp .LtE) ant:=afL.imp λx y H Q hP=>by
 obtain⟨S,t,u,R,_,hx,hy,hg,k⟩:=hP;cases hx<;>try exact hg.elim
 cases hy<;>try exact hg.elim
 exact⟨_,_,rfl,rfl,k H _ _ hg (.refl _) (NR.fz (.bl _))⟩
theorem aej:GC X (.builtin "len") (g1 amV):=.one Pg λS t x H Q R rx hg k=>by
 cases t<;>try exact hg.elim
 cases rx;exact⟨_,rfl,hg.1,k H _ _ hg.2 (.refl _) (NR.fz (.int _))⟩
def amK(a:RE):RI:=λo q=>a o λx=>match frz x with|.str s=>q (s.cps.toList.map λc=>.str ⟨#[c]⟩)|_=>False
theorem agQ{tg:Expr}(he:QE X e re):QI X tg e (amK re):=(agU he).imp λσ H Q ⟨own,o,R,h,hr,k⟩=>tQ.mk h hr λH1 v x q E1 r1=>by
 revert r1 q
 generalize frz x=t;intro q r1;cases t<;>try exact q.elim
 cases r1;refine⟨_,rfl,k H1 _ _ q E1 λS H2 i _ SF=>⟨λhi=>show i=_ by simpa using hi,λt ht=>?_⟩⟩;rw[aq]at ht;cases z:(‹Str›.cps.toList)[i]? with
 |none=>rw[z]at ht;cases ht
 |some c =>
  rw[z]at ht;cases ht;refine⟨show i<_ by simpa using(ao.mp z).1,?_⟩;rintro x H3 ⟨rfl,c',e',rfl⟩;rw[<- Array.getElem?_toList,z]at e';cases e';exact⟨.refl _,.str _⟩
end
abbrev HG:=qS
section
variable{α β:Type}{g:HG}{b:RS}{E:DT}{o:List OT}
theorem Xn(h:α->T)(l:List α)(J:List α->List OT->Prop)(st:∀as a bs o,l=as++a::bs->J as o->g (h a) o λo'=>b { E with nx:=J (as++[a]),ct:=J (as++[a]),bk:=E.nx } o')(fin:∀o,J l o->E.nx o):∀(bs as:List α)(o:List OT),l=as++bs->J as o->Bk g b E (bs.map h) o
 |[],as,o,e,j=>fin o (by rw[List.append_nil]at e;rw[e];exact j)
 |a::bs,as,o,e,j=>⟨J (as++[a]),λo k=>Xn h l J st fin bs (as++[a]) o (by rw[e];simp) k,st as a bs o e j⟩
theorem fM(h:α->T)(l:List α)(J:List α->List OT->Prop)(j:J [] o)(st:∀as a bs o,l=as++a::bs->J as o->g (h a) o λo'=>b { E with nx:=J (as++[a]),ct:=J (as++[a]),bk:=E.nx } o')(fin:∀o,J l o->E.nx o):Bk g b E (l.map h) o:=Xn h l J st fin l [] o rfl j
theorem DN(J:Nat->List OT->Prop):∀(xs:List T)(k:Nat){o:List OT},J k o->(∀i t o,xs[i]?=some t->J (k+i) o->g t o λo'=>b { E with nx:=J (k+i+1),ct:=J (k+i+1),bk:=E.nx } o')->(∀o,J (k+xs.length) o->E.nx o)->Bk g b E xs o
 |[],_,o,j,_,fin=>fin o j
 |t::ts,k,o,j,st,fin=>⟨J (k+1),λo z=>DN J ts (k+1) z (λi t o e z=>by
   have:=st (i+1) t o (by simpa using e) (by rw[show k+(i+1)=k+1+i by lia];exact z);rw[show k+(i+1)+1=k+1+i+1 by lia]at this;exact this) (λo z=>fin o (by rw[List.length_cons,show k+(ts.length+1)=k+1+ts.length by lia];exact z)),st 0 t o rfl j⟩
theorem uU{n:Nat}(J:Nat->List OT->Prop)(j:J 0 o)(st:∀k o,k<n->J k o->g (.int (k:Nat)) o λo'=>b { E with nx:=J (k+1),ct:=J (k+1),bk:=E.nx } o')(fin:∀o,J n o->E.nx o):Bk g b E (rng 0 n) o:=by
 refine DN J (rng 0 n) 0 j (λi t o e z=>?_) λo z=>fin o (by rw[rng,ak,WP,UP]at z;exact z);unfold rng at e;rw[aq]at e;by_cases hi:i<n
 .rw[VZ hi]at e;cases e;rw[UP]at z ⊢;have:=st i o hi z;show g (.int (0+((i:Nat):Int))) o _;rw[show(0:Int)+((i:Nat):Int)=((i:Nat):Int)by exact Int.zero_add _];exact this
 .rw[aM (by simpa using hi)]at e;cases e
theorem uN(h:α->T)(l:List α)(J:Nat->List OT->Prop)(j:J 0 o)(st:∀k a o,l[k]?=some a->J k o->g (.tup [.int (k:Nat),h a]) o λo'=>b { E with nx:=J (k+1),ct:=J (k+1),bk:=E.nx } o')(fin:∀o,J l.length o->E.nx o):Bk g b E (sI (l.map h)) o:=by
 refine DN J (sI (l.map h)) 0 j (λi t o e z=>?_) λo z=>fin o (by rw[sI,ak,UK,ak,UP]at z;exact z);unfold sI at e;rw[aq]at e;by_cases hi:i<l.length
 .rw[aj (by simpa using hi),JJ,VY]at e;cases e;rw[UP]at z ⊢;have:=st i _ o (aj hi) z;exact this
 .rw[aM (by simpa using hi)]at e;cases e
variable{c:RT}{e:RE}{q:List T->Prop}
theorem comp_map(h:α->T)(f:α->T):∀(l:List α){q:List T->Prop},(∀a∈l,∀(N:T->Prop)(M:Prop),N (f a)->g (h a) o λo'=>c o' λb=>sw b (e o' λy=>N (frz y)) M)->q (l.map f)->iR g c e o (l.map h) q
 |[],_,_,k=>k
 |a::l,q,st,k=>⟨λy=>y=f a,False,λy z=>comp_map h f l (λa ha=>st a (aJ _ ha)) (z ▸ k),False.elim,st a (aO ..) (λy=>y=f a) False rfl⟩
theorem jt(h:α->T)(p:α->Bool)(f:α->T):∀(l:List α){q:List T->Prop},(∀a∈l,∀(N:T->Prop)(M:Prop),(p a=true->N (f a))->(p a=false->M)->g (h a) o λo'=>c o' λb=>sw b (e o' λy=>N (frz y)) M)->q ((l.filter p).map f)->iR g c e o (l.map h) q
 |[],_,_,k=>k
 |a::l,q,st,k=>⟨λy=>y=f a/\p a=true,p a=false,λy z=>jt h p f l (λa ha=>st a (aJ _ ha)) (by rw[List.filter_cons_of_pos z.2]at k;exact z.1 ▸ k),λz=>jt h p f l (λa ha=>st a (aJ _ ha)) (by rw[List.filter_cons_of_neg (by rw[z];decide)]at k;exact k),st a (aO ..) (λy=>y=f a/\p a=true) (p a=false) (λz=>⟨rfl,z⟩) id⟩
inductive ahc(R:α->T->Prop):List α->List T->Prop
 |nil:ahc R [] []
 |cons {a:α}{t:T}{l:List α}{ts:List T} : R a t->ahc R l ts->ahc R (a::l) (t::ts)
theorem N_(f:Nat->T)(n:Nat)(st:∀k,k<n->∀(N:T->Prop)(M:Prop),N (f k)->g (.int (k:Nat)) o λo'=>c o' λb=>sw b (e o' λy=>N (frz y)) M)(k:q ((List.range n).map f)):iR g c e o (rng 0 n) q:=by
 refine comp_map (λk:Nat=>.int (0+k)) f (List.range n) (λa ha N M hN=>?_) k;have:=st a (List.mem_range.mp ha) N M hN;show g (.int (0+((a:Nat):Int))) o _;rw[show(0:Int)+((a:Nat):Int)=((a:Nat):Int)by exact Int.zero_add _];exact this
theorem zip_map{α β:Type}(h:α->T)(k:β->T)(xs:List α)(ys:List β):Gj (xs.map h) (ys.map k)=(xs.zip ys).map λp=>.tup [h p.1,k p.2]:=by
 unfold Gj;rw[List.zip_map,WU]
 rfl
theorem Kl{α:Type}(h:α->T)(xs:List α):sI (xs.map h)=xs.zipIdx.map λp=>.tup [.int (p.2:Nat),h p.1]:=by
 unfold sI;rw[List.zipIdx_map,WU]
 rfl
end
def Ry(ks:List Key)(j:Key):Bool:=ks.any λk=>decide (k=j)
def kpK(ks:List Key)(j:Key):List Key:=if Ry ks j=true then ks else ks++[j]
def kpT{α:Type}(ks:List Key)(ts:List α)(j:Key)(t:α):List α:=if Ry ks j=true then ks.zipWith (λk x=>if k=j then t else x) ts else ts++[t]
theorem aaI{j:Key}{v:V}{ks:List Key}{xs:Ζ}(l:ks.length=xs.length):putK (ks.zip xs) j v=(kpK ks j).zip (kpT ks xs j v)/\(kpK ks j).length=(kpT ks xs j v).length:=by
 have any:∀{ks:List Key}{xs:Ζ},ks.length=xs.length->((ks.zip xs).any λkv=>decide (kv.1=j))=Ry ks j:=λ{ks}=>by
  induction ks with
  |nil=>intro xs _;rfl
  |cons k ks ih =>
   intro xs l;cases xs with
   |nil=>cases l
   |cons x xs=>rw[List.zip_cons_cons,List.any_cons,ih (Nat.succ.inj l)];rfl
 unfold putK kpK kpT;rw[any l];by_cases h:Ry ks j=true
 .rw[ZY h,ZY h,ZY h];refine⟨?_,by rw[TH,l,UX]⟩
  clear any h
  induction ks generalizing xs with
  |nil=>rfl
  |cons k ks ih =>
   cases xs with
   |nil=>cases l
   |cons x xs =>
    rw[List.zip_cons_cons,List.map_cons,ih (Nat.succ.inj l),List.zipWith_cons_cons,List.zip_cons_cons];by_cases h:k=j
    .rw[ZY h,ZY h]
    .rw[ZZ h,ZZ h]
 .rw[ZZ h,ZZ h,ZZ h];exact⟨by rw[List.zip_append l];rfl,by simp[l]⟩
theorem cu.kp{K:Frag}{F:Hp}{j:Key}{v:V}{t:T}(r:Rep K F v t){ks:List Key}{xs:Ζ}{ts:List T}(h:cu K F xs ts):cu K F (kpT ks xs j v) (kpT ks ts j t):=by
 unfold kpT;by_cases z:Ry ks j=true
 .rw[ZY z,ZY z]
  clear z
  induction ks generalizing xs ts with
  |nil=>exact .nil
  |cons k ks ih =>
   cases h with
   |nil=>exact .nil
   |cons a b =>
    rw[List.zipWith_cons_cons,List.zipWith_cons_cons];refine .cons ?_ (ih b);by_cases y:k=j
    .rw[ZY y,ZY y];exact r
    .rw[ZZ y,ZZ y];exact a
 .rw[ZZ z,ZZ z];exact h.app (.cons r .nil)
section
variable{X:Cx}{a b c e:Expr}{ra rb rc re:RE}{pos p:Pos}
def afn(i:Nat)(a b:RE):RS:=λE o=>match slot o i with|.d1 ks ts=>a o λy=>b o λk=>∃j,ZJ (frz k)=some j/\ks.length<sizeLine/\E.nx (o.set i (.d1 (kpK ks j) (kpT ks ts j (frz y))))|_=>False
theorem SR.d1{K:Frag}{own:Nat->Ψ}{H:Hp}{σ:L2.St}{o:List OT}(h:SR K own H σ o){i:Nat}{ks:List Key}{ts:List T}(e:slot o i=.d1 ks ts):∃l xs,σ[i]?=some (some (.ref l))/\own i=[l]/\H l=some (.dK (ks.zip xs))/\ks.length=xs.length/\cu K (hd (Ow own) H) xs ts:=by
 obtain⟨u,e1,l,xs,e2,e3,e4,r⟩:=h.val e (by intro z;cases z);cases e2;exact⟨l,xs,e1,e3,e4,r⟩
theorem O2(i:Nat){x:Str}{aE:Pos}(hu:X.A.units+1<cLine)(he:QE X e re)(hb:QE X b rb)(hN:X.N[i]?=some x:=by rfl)(hv:rZ X.env.scope x=true:=by rfl)(bz:qk x:=by decide)(bi:qf x:=by decide)
 (hs:swapsWith e (some (.Subscript (.Name x p) b aE)) pos.line X.env=pure false:=by rfl):QS X (.Assign [.Subscript (.Name x p) b aE] e pos) (afn i re rb):=(aew hu (pv i hN hv bz bi) hb he hs).imp λD σ H hP=>by
 obtain⟨own,o,E,h,hr,L⟩:=hP;unfold afn at hr;cases es:slot o i with
 |d1 ks ts =>
  rw[es]at hr;obtain⟨l,xs,e1,e3,e4,ln,r⟩:=h.d1 es;refine tQ.mk h hr λH1 v y q E1 r1=>⟨_,e1,tQ.mk (h.same E1) q λH2 w z q E2 r2=>?_⟩;obtain⟨j,ek,sz,q⟩:=q;have bS:=E1.trans E2;cases PL r2 ek;obtain⟨pk,pl⟩:=aaI (j:=j) (v:=v) ln;have lz:(ks.zip xs).length<sizeLine:=by rw[VX,<- ln,UX];exact sz
  refine⟨l,_,rfl,.inl ⟨_,j,bS _ _ e4,rfl,lz,rfl⟩,?_⟩;rw[pk];obtain⟨h',S⟩:=(h.same bS).chg (iz es (by intro z;cases z)) (y:=.d1 (kpK ks j) (kpT ks ts j (frz y))) (H':=upd H2 l (.dK ((kpK ks j).zip (kpT ks xs j v)))) (λb u hb e=>(cD λz=>hb (by rw[e3,z];simp)).trans e) (by
   rw[e1,Gp ⟨i,by rw[e3];simp⟩];exact⟨l,_,rfl,e3,cL,pl,cu.kp (r1.same (bV E2)) (r.same (bV bS))⟩)
  exact L.nx own _ σ _ q ((bV bS).trans S) h'
 |_=>rw[es]at hr;exact hr.elim
def ae3(i:Nat)(a b:RE):RE:=λo q=>match slot o i with|.d1 ks ts=>a o λy=>b o λz=>∃j,ZJ (frz y)=some j/\q (.fz ((rT ks ts j).getD (frz z)))|_=>False
theorem aeQ(i:Nat){x:Str}{ah ae:Pos}(hu:X.A.units+1<cLine)(ha:QE X a ra)(hb:QE X b rb)(m:M2 X (.Name x p) "get" ah a b ae:=by first|exact⟨rfl,rfl,rfl,rfl⟩|constructor<;>rfl)(hN:X.N[i]?=some x:=by rfl)(hv:rZ X.env.scope x=true:=by rfl)(bz:qk x:=by decide)(bi:qf x:=by decide) :
  QE X (.Call (.Attribute (.Name x p) "get" ah) [a,b] [] ae) (ae3 i ra rb):=(aaH hu (pv i hN hv bz bi) ha hb m).imp λσ H Q hP=>by
 obtain⟨own,o,R,h,hr,k⟩:=hP;unfold ae3 at hr;cases es:slot o i with
 |d1 ks ts =>
  rw[es]at hr;obtain⟨l,xs,e1,e3,e4,ln,r⟩:=h.d1 es;refine⟨_,e1,l,rfl,.inl ⟨_,.inl e4⟩,tQ.mk h hr λH1 v y q E1 r1=>tQ.mk (h.same E1) q λH2 w z q E2 r2=>?_⟩;obtain⟨j,ek,q⟩:=q;have bS:=E1.trans E2;cases PL r1 ek;refine⟨_,FW.k (bS _ _ e4),?_⟩;have r:=r.same (bV bS);cases z1:rT ks ts j with
  |none =>
   rw[z1]at q;rw[(Fz r).2 z1];exact k H2 _ _ q bS (NR.fz r2)
  |some t =>
   rw[z1]at q;obtain⟨u,e5,r5⟩:=(Fz r).1 t z1;rw[e5];exact k H2 _ _ q bS (NR.fz r5)
 |_=>rw[es]at hr;exact hr.elim
def kT:Key->T
 |.inl i=>.int i
 |.inr s=>.str s
def ae7(i n:Nat)(g:qS)(c:RT)(e:RE):RS:=λE o=>match slot o i with
 |.d1 ks ts=>ks.length<=sizeLine/\iR g c e (List.replicate n .und++o.set i (.fz (.dct ks ts))) (ks.map kT) λus=>E.rt (.l1 us)
 |_=>False
theorem aei{K:Frag}{a:Addr}{ob:Obj}{ks:List Key}{xs:Ζ}{F:Hp}(l:ks.length=xs.length)(e:F a=some (.frz ob (.dK (ks.zip xs)))):Wlk K (Itk a ob (ks.zip xs)) F (ks.map kT):=λS H i _ SF=>by
 have eH:=(cX (SF _ _ e)).2;have lz:(ks.zip xs).length=ks.length:=by rw[VX,<- l,UX]
 refine⟨λhi=>⟨eH,by rw[lz];simpa using hi⟩,λt ht=>?_⟩;rw[aq]at ht;cases z:ks[i]? with
 |none=>rw[z]at ht;cases ht
 |some k =>
  rw[z]at ht;cases ht;have hi:=(ao.mp z).1;refine⟨⟨eH,by rw[lz];exact hi⟩,?_⟩;rintro x H' ⟨rfl,k',y,e1,rfl⟩;rw[aj (by rw[lz];exact hi),List.getElem_zip]at e1;rw[aj hi]at z;cases z;cases e1;refine⟨.refl _,?_⟩;cases ks[i]with
  |inl j=>exact .int _
  |inr s=>exact .str _
theorem adn{tg be:Expr}{aS:List Expr}{g:qS}{rc:RT}{scope:Scope}{x:Str}{ae:Pos}(i:Nat)(sc:Scope)(N N' xs:Φ)(hg:∀{C s₀ H₀ ex pn},QG (X.compG N' scope xs C s₀ H₀ ex pn) xs.length tg g)(ht:∀{C s₀ H₀ ex pn},QTs (X.compG N' scope xs C s₀ H₀ ex pn) aS rc)(he:∀{C s₀ H₀ ex pn},QE (X.compG N' scope xs C s₀ H₀ ex pn) be re)
 (hN:X.N[i]?=some x:=by rfl)(hv:rZ X.env.scope x=true:=by rfl)(bz:qk x:=by decide)(bi:qf x:=by decide)
 (cy:X.env.scope=sc:=by rfl)(cK:X.N=N:=by rfl)(hc:X.calm=true:=by rfl)(hk:scope.kind=.function:=by rfl)(h:CK sc scope N N' xs:=by decide +kernel)(hs:∀z,foldedSetIterable (.Name x p) X.env z=pure z:=by intro _;rfl) :
  QS X (.Return (some (.ListComp be [⟨tg,.Name x p,aS,0⟩] scope ae)) pos) (ae7 i xs.length g rc re):=(W_ (acv (gt:=tQG X.K xs.length g) (tc:=tQT X.K rc) (te:=tQ X.K re) sc N N' xs (aeH (tg:=tg) (pv i hN hv bz bi)) hg ht he cy cK hc hk h hs)).imp λD σ H hP=>by
 obtain⟨own,o,E,h,hr,L⟩:=hP;unfold ae7 at hr;cases es:slot o i with
 |d1 ks ts =>
  rw[es]at hr;obtain⟨l,ys,e1,e3,e4,ln,r⟩:=h.d1 es;refine⟨_,e1,l,_,rfl,e4,λob DD nD=>?_⟩;have eo:∀b,Ow (own1 own i []) b->Ow own b/\b≠l:=λb hP=>by
   obtain⟨j,z⟩:=hP;by_cases y:j=i
   .rw[y,j9]at z;cases z
   .rw[fY y]at z;exact⟨⟨j,z⟩,λw=>y (h.dis j i b z (by rw[e3,w];simp))⟩
  have nl:¬Ow (own1 own i []) l:=λz=>(eo l z).2 rfl;have ol:Ow own l:=⟨i,by rw[e3];simp⟩;have S1:Same (hd (Ow own) H) (hd (Ow (own1 own i [])) (upd H l (.frz ob (.dK (ks.zip ys))))):=λb u e=>by
   obtain⟨n,e⟩:=cX e;rw[cQ λz=>n (eo b z).1,cD λ(z:b=l)=>n (z.symm ▸ ol)];exact e
  have h1:SR X.K (own1 own i []) (upd H l (.frz ob (.dK (ks.zip ys)))) σ (o.set i (.fz (.dct ks ts))):=by
   have hi:i<o.length:=(ao.mp (iz es (by intro z;cases z))).1;refine⟨by rw[WH,h.len],λj y e'=>?_,λj hj a ha=>?_,λj k a z1 z2=>?_⟩
   .by_cases z:j=i
    .subst z;rw[UU hi]at e';cases e';rw[j9,e1];exact⟨rfl,_,rfl,.dct (.inr ⟨ob,by rw[cQ nl];exact cL⟩) ln (r.same S1)⟩
    .rw[VV (Ne.symm z)]at e';rw[fY z];exact((h.sl j y e').same S1 (.refl _)).off λb hb u e=>(cD λw=>z (h.dis j i b hb (by rw[e3,w];simp))).trans e
   .rw[WH]at hj;rw[fY (by lia)]at ha;obtain⟨xs,e⟩:=h.out j hj a ha;exact⟨xs,(cD λw=>by have:=h.dis j i a ha (by rw[e3,w];simp);lia).trans e⟩
   .by_cases z:j=i
    .rw[z,j9]at z1;cases z1
    by_cases y:k=i
    .rw[y,j9]at z2;cases z2
    .rw[fY z]at z1;rw[fY y]at z2;exact h.dis j k a z1 z2
  have L1:=L.step S1;refine Uk h1 (aei ln (by rw[cQ nl];exact cL)) (by simpa using hr.1) hr.2 nD λH' v y rx E n=>?_;obtain⟨B,nb,s⟩:=n;exact L1.rt _ H' v y B rx (jk (λb z=>z.imp id (nb b)) E) s λa ha=>.inr ha
 |_=>rw[es]at hr;exact hr.elim
end
def agZ(K:Frag)(as:Ψ)(H:Hp)(aw:List (List T)):Prop:=aw.length=as.length/\∀(j:Nat)a ts,as[j]?=some a->aw[j]?=some ts->∃xs,H a=some (.lst xs)/\cu K (hd (· ∈ as) H) xs ts
abbrev SO:=List (List T)->List T->(List (List T)->Prop)->Prop
def spO(K:Frag)(S:SO):Sp:=λvs H Q _=>∃(as:Ψ)(aw:List (List T))(us:Ζ)(ts:List T)(R:List (List T)->Prop),vs=as.map V.ref++us/\as.Nodup/\agZ K as H aw/\cu K (hd (· ∈ as) H) us ts/\S aw ts R /\
 ∀H' bj,R bj->Same (hd (· ∈ as) H) (hd (· ∈ as) H')->agZ K as H' bj->Q .non H'
def ownL(as:Ψ)(i:Nat):Ψ:=match as[i]? with|some a=>[a]|none=>[]
theorem Io{as:Ψ}{i:Nat}{b:Addr}(h:b∈ownL as i):as[i]?=some b:=by
 unfold ownL at h;cases e:as[i]? with
 |none=>rw[e]at h;cases h
 |some a=>rw[e]at h;cases YR.mp h;rfl
theorem Yu{as:Ψ}{i:Nat}{b:Addr}(h:as[i]?=some b):ownL as i=[b]:=by unfold ownL;rw[h]
theorem Ow.ownL(as:Ψ):Ow (L2.ownL as)=(· ∈ as):=funext λb=>propext ⟨λ⟨i,z⟩=>aC (Io z),λz=>by
 obtain⟨i,e⟩:=aV z;exact⟨i,by rw[Yu e];simp⟩⟩
def startO(n:Nat)(as:Ψ)(aw:List (List T))(ts:List T):List OT:=List.zipWith OT.la as aw++start' (n-as.length) ts
section
variable{P:Program}{w:World}{K:Frag}{mg:Str->Ω}{base:Heap}
theorem SR.startO{H:Hp}{as:Ψ}{aw:List (List T)}{us:Ζ}{ts:List T}(nd:as.Nodup)(h:agZ K as H aw)(r:cu K (hd (· ∈ as) H) us ts)(N:Φ)(hN:as.length+us.length<=N.length):SR K (ownL as) H (L2.start N (as.map V.ref++us)) (L2.startO N.length as aw ts):=by
 have zl:(List.zipWith OT.la as aw).length=as.length:=by rw[TH,h.1,UX]
 refine⟨?_,λi x e=>?_,λi hi b hb=>?_,λi j b e1 e2=>JT nd (Io e1) (Io e2)⟩
 .unfold L2.startO start' L2.start;have:=r.len;simp only[aA,ak,aN,zl];lia
 .rw[Ow.ownL];unfold L2.startO at e;unfold L2.start;by_cases hi:i<as.length
  .rw[aF (by rw[zl];exact hi),Q1]at e;have ea:=aj hi;have et:=aj (l:=aw) (by rw[h.1];exact hi);rw[ea,et]at e;cases e;rw[Yu ea,aF (by simp;exact WV _ hi),aq,aF (by simpa using hi),aq,ea];obtain⟨xs,q,rx⟩:=h.2 i _ _ ea et;exact⟨xs,rfl,rfl,q,rx⟩
  .have on:ownL as i=[]:=by unfold ownL;rw[aM (Nat.not_lt.mp hi)]
   rw[on];rw[aD (by rw[zl];exact Nat.not_lt.mp hi),zl]at e;unfold start' at e;by_cases hj:i-as.length<ts.length
   .rw[aF (by simpa using hj),aq,aj hj]at e;cases e;obtain⟨v,e1,r1⟩:=r.at_ (aj hj);have:=r.len;rw[aF (by simp;lia),aq,aD (by simpa using Nat.not_lt.mp hi),ak,e1];exact⟨rfl,v,rfl,r1⟩
   .rw[aD (by simpa using hj),ak,XG]at e;split at e
    .cases e;rfl
    .cases e
 .unfold L2.startO at hi;rw[aA,zl]at hi;have:=(ao.mp (Io hb)).1;lia
theorem slot_of:∀{o:List OT}{i:Nat}{x:OT},o[i]?=some x->slot o i=x
 |[],_,_,e=>by cases e
 |_::_,0,_,e=>by cases e;rfl
 |_::l,i+1,x,e=>slot_of (o:=l) (by simpa using e)
theorem Fun.okO{x ai:Str}{st:Stmt}{f:Addr}{fd:FuncData}{N ps:Φ}{k:Nat}{S:SO}(F:Fun K x ai st f fd)(sc:bM N ps (bI st))(len:∀aw ts R,S aw ts R->aw.length+ts.length=ps.length)(hn:ps.length<=N.length)
 (ck:∀(af:Value)(A:Around)(outer:List Env)(s:Shared)(H:Hp)(E:XK),eG k (A.deeper (envOfC ai (bI st) s.heap.objs.size f af))->N.Nodup ->
   ∃r,QSs (O8 CX0 P w K mg base N ai (bI st) f af A outer s H E).nox (gk st) r/\∀as aw ts R,aw.length=as.length->S aw ts R->r { nx:=λo=>∃bj,(∀j,slot o j=slot (List.zipWith OT.la as bj) j\/as.length<=j)/\bj.length=as.length/\R bj,rt:=λ_=>False } (startO N.length as aw ts)):gW P w K mg base CX0 (k+1) f fd ps (spO K S):=by
 refine F.ok sc (λvs H Q E h=>?_) λaf A outer s H vs Q E hr h=>?_
 .obtain⟨as,aw,us,ts,R,rfl,_,l,r,hS,_⟩:=h;rw[aA,ak,<- l.1,r.len];exact len _ _ _ hS
 .obtain⟨as,aw,us,ts,R,rfl,nd,l,r,hS,q⟩:=h;obtain⟨rd,h1,h2⟩:=ck af A outer s H E hr sc.nd;have s0:=SR.startO nd l r N (by rw[<- l.1,r.len,len _ _ _ hS];exact hn);refine⟨_,h1,_,_,_,s0,h2 as aw ts R l.1 hS,⟨λown H' σ o rx E h=>?_,λ_ _ _ _ _ z=>z.elim,λ_ _ _ _ z=>z.elim,λ_ _ _ _ z=>z.elim,λ_ _ _ _ _ _ z=>z.elim⟩⟩;obtain⟨bj,es,tl,rx⟩:=rx;rw[Ow.ownL]at E;have eQ:∀(j:Nat)a t,as[j]?=some a->bj[j]?=some t->slot o j=.la a t:=λj a t e1 e2=>by
   rcases es j with z|z
   .rw[z];exact slot_of (by rw[Q1,e1,e2])
   .exact absurd (ao.mp e1).1 (Nat.not_lt.mpr z)
  have sub:Same (hd (Ow own) H') (hd (· ∈ as) H'):=jk (λb z=>.inl (by
   obtain⟨j,e⟩:=aV z;have lj:j<bj.length:=tl ▸ (ao.mp e).1;obtain⟨u,_,xs,_,e3,_⟩:=h.val (eQ j b _ e (aj lj)) (by intro z;cases z);exact⟨j,by rw[e3];simp⟩)) λ_ _ z=>z
  refine q H' bj rx (E.trans sub) ⟨tl,λj a t e1 e2=>?_⟩;obtain⟨u,_,xs,_,_,e4,r4⟩:=h.val (eQ j a t e1 e2) (by intro z;cases z);exact⟨xs,e4,r4.same sub⟩
end
section
variable{X:Cx}{es:List Expr}{r:RA}{pos p p1 p2 ae:Pos}
theorem aas{K:Frag}{own:Nat->Ψ}{H:Hp}{σ:L2.St}{o:List OT}(h:SR K own H σ o){as:Ψ}(hs:∀a∈as,∃j,own j=[a]):Hid H (λb=>Ow own b/\b∉as)/\∀H':Hp,hd (· ∈ as) (hd (λb=>Ow own b/\b∉as) H')=hd (Ow own) H':=by
 have in1:∀{b x:Addr}{j:Nat},b∈own j->b∉as->x∈own j->x∉as:=λ{b x j}hb n hx z=>by
  obtain⟨k,ek⟩:=hs x z;have:=h.dis j k x hx (by rw[ek];simp);subst this;rw[ek]at hb hx;cases YR.mp hb;exact n z
 refine⟨⟨λb z=>h.sole z.1,λb C d f ⟨⟨j,z⟩,n⟩ e=>⟨⟨j,(h.mate z).1 C d f e⟩,in1 z n ((h.mate z).1 C d f e)⟩,λb x ⟨⟨j,z⟩,n⟩ e=>⟨⟨j,(h.mate z).2 x e⟩,in1 z n ((h.mate z).2 x e)⟩⟩,λH'=>funext λb=>?_⟩;by_cases z:b∈as
 .obtain⟨k,ek⟩:=hs b z;rw[rG z,rG ⟨k,by rw[ek];simp⟩]
 .rw[cQ z];by_cases y:Ow own b
  .rw[rG (⟨y,z⟩ : Ow own b/\b∉as),rG y]
  .rw[cQ (λw=>y w.1),cQ y]
def anb(i:Nat)(S:SO)(r:RA):RS:=λE o=>onL (slot o i) λts c=>r o λas=>S [ts] as λaw=>match aw with|[t]=>E.nx (o.set i (c t))|_=>False
theorem afx(i:Nat){x y:Str}{k:Nat}{ps:Φ}{S:SO}(G:OkF X.prog X.w X.K X.mg X.base k x ps (spO X.K S))(ha:QA X es r)(hr:eG k X.A:=by exact eG.mono (by assumption) (by decide))(hg:Gl X x:=by rfl)(hN:X.N[i]?=some y:=by rfl)(hv:rZ X.env.scope y=true:=by rfl)(bz:qk y:=by decide)(bi:qf y:=by decide)(ci:qk x:=by decide)
 (he:starEach (.Name y p1::es) X.env=(false,eval (.Name y p1) X.env)::starEach es X.env:=by rfl)(bt:qh X ae es:=by rfl)(hs:swapsWith (.Call (.Name x p) (.Name y p1::es) [] ae) none pos.line X.env=pure false:=by rfl):QS X (.Expr (.Call (.Name x p) (.Name y p1::es) [] ae) pos) (anb i S r):=by
 obtain⟨f,fd,F,b,hm,kp⟩:=G;refine(z9 (JF (sp:=spH (spO X.K S)) ⟨f,fd,F.hid,b,hm,kp⟩ hr hg (p7 (pv i hN hv bz bi) ha he) ci he bt) hs).imp λD σ H hP=>?_;obtain⟨own,o,E,h,hr,L⟩:=hP;obtain⟨ts,c,hr,es⟩:=Gn hr;obtain⟨l,xs,e1,e2,e3,r0,sl⟩:=h.l1 es;refine⟨_,e1,tQA.mk h hr λH1 vs as q _ E1 r1=>?_⟩;have h1:=h.same E1;obtain⟨hid,eqF⟩:=aas h1 (as:=[l]) λa ha=>⟨i,by rw[YR.mp ha];exact e2⟩;have nl:¬(Ow own l/\l∉[l]):=λz=>z.2 (by simp);refine⟨_,hid,[l],[ts],vs,as,_,rfl,by simp,⟨rfl,λj a t ea et=>?_⟩,by rw[eqF];exact r1,q,λG bj rx EE ls a9=>?_⟩
 .cases j with
  |zero=>cases ea;cases et;exact⟨xs,(cQ nl).trans (E1 _ _ e3),by rw[eqF];exact r0.same (bV E1)⟩
  |succ j=>cases ea
 .match bj,rx,ls with
  |[t],rx,ls =>
   obtain⟨ys,ey,ry⟩:=ls.2 0 l t rfl rfl;rw[eqF]at EE;have dr:∀{b:Addr}{u:HO},G b=some u->mrg (λb=>Ow own b/\b∉[l]) H1 G b=some u:=λ{b u}e=>(j8 λz=>by rw[a9 b z]at e;cases e).trans e;obtain⟨x,ex⟩:=Ja es;obtain⟨h',S'⟩:=h1.chg ex (y:=c t) (H':=mrg (λb=>Ow own b/\b∉[l]) H1 G) (λb u hb e=>by
    by_cases z:Ow own b
    .rw[vM ⟨z,λy=>hb (by rw[e2];exact y)⟩];exact e
    .exact dr (cX (EE b u ((cQ z).trans e))).2) (by
    rw[e1,e2];refine sl _ ys t (dr ey) (ry.same λb u e=>?_);obtain⟨n1,e⟩:=cX e;rw[cQ λz=>by rw[a9 b ⟨z,n1⟩]at e;cases e];exact dr e)
   exact L.nx own _ σ _ rx ((bV E1).trans S') h'
def amq(i j:Nat)(S:SO)(r:RA):RS:=λE o=>onL (slot o i) λts c=>onL (slot o j) λus d=>r o λas=>S [ts,us] as λaw=>match aw with|[t,u]=>E.nx ((o.set i (c t)).set j (d u))|_=>False
theorem Ju(i j:Nat){x y z:Str}{k:Nat}{ps:Φ}{S:SO}(G:OkF X.prog X.w X.K X.mg X.base k x ps (spO X.K S))(hr:eG k X.A)(hg:Gl X x)(ha:QA X es r)(ic:i≠j:=by decide)(hN:X.N[i]?=some y:=by rfl)(hv:rZ X.env.scope y=true:=by rfl)(bz:qk y:=by decide)(bi:qf y:=by decide)(hN2:X.N[j]?=some z:=by rfl)(k3:rZ X.env.scope z=true:=by rfl)(mi:qk z:=by decide)(mw:qf z:=by decide)(ci:qk x:=by decide)
 (he:starEach (.Name y p1::.Name z p2::es) X.env=(false,eval (.Name y p1) X.env)::starEach (.Name z p2::es) X.env:=by rfl)(he2:starEach (.Name z p2::es) X.env=(false,eval (.Name z p2) X.env)::starEach es X.env:=by rfl)(bt:(backTo ae (starEach (.Name z p2::es) X.env)).any (·.1)=false:=by rfl)(hs:swapsWith (.Call (.Name x p) (.Name y p1::.Name z p2::es) [] ae) none pos.line X.env=pure false:=by rfl):QS X (.Expr (.Call (.Name x p) (.Name y p1::.Name z p2::es) [] ae) pos) (amq i j S r):=by
 obtain⟨f,fd,F,b,hm,kp⟩:=G;refine(z9 (JF (sp:=spH (spO X.K S)) ⟨f,fd,F.hid,b,hm,kp⟩ hr hg (p7 (pv i hN hv bz bi) (p7 (pv j hN2 k3 mi mw) ha he2) he) ci he bt) hs).imp λD σ H hP=>?_;obtain⟨own,o,E,h,hr,L⟩:=hP;obtain⟨ts,c,hr,es⟩:=Gn hr;obtain⟨us,d,hr,es2⟩:=Gn hr;obtain⟨l,xs,e1,e2,e3,r0,sl⟩:=h.l1 es;obtain⟨m,zs,f1,f2,f3,s0,sl2⟩:=h.l1 es2;have lm:l≠m:=λz=>ic (h.dis i j l (by rw[e2];simp) (by rw[f2,z];simp));refine⟨_,e1,_,f1,tQA.mk h hr λH1 vs as q _ E1 r1=>?_⟩;have h1:=h.same E1;obtain⟨hid,eqF⟩:=aas h1 (as:=[l,m]) λa ha=>by
  rcases YU.mp ha with z|z
  .exact⟨i,by rw[z];exact e2⟩
  .exact⟨j,by rw[YR.mp z];exact f2⟩
 have nl:¬(Ow own l/\l∉[l,m]):=λz=>z.2 (by simp);have nm:¬(Ow own m/\m∉[l,m]):=λz=>z.2 (by simp);refine⟨_,hid,[l,m],[ts,us],vs,as,_,rfl,by simp[lm],⟨rfl,λj a t ea et=>?_⟩,by rw[eqF];exact r1,q,λG bj rx EE ls a9=>?_⟩
 .match j,ea,et with
  |0,ea,et=>cases ea;cases et;exact⟨xs,(cQ nl).trans (E1 _ _ e3),by rw[eqF];exact r0.same (bV E1)⟩
  |1,ea,et=>cases ea;cases et;exact⟨zs,(cQ nm).trans (E1 _ _ f3),by rw[eqF];exact s0.same (bV E1)⟩
  |j+2,ea,_=>cases ea
 .match bj,rx,ls with
  |[t,u],rx,ls =>
   obtain⟨ys,ey,ry⟩:=ls.2 0 l t rfl rfl;obtain⟨ws,ew,kG⟩:=ls.2 1 m u rfl rfl;rw[eqF]at EE;have dr:∀{b:Addr}{u:HO},G b=some u->mrg (λb=>Ow own b/\b∉[l,m]) H1 G b=some u:=λ{b u}e=>(j8 λz=>by rw[a9 b z]at e;cases e).trans e;generalize hM:mrg (λb=>Ow own b/\b∉[l,m]) H1 G=M at dr;have keep:∀b u,b≠l->b≠m->H1 b=some u->M b=some u:=λb u n1 n2 e=>by
    by_cases z:Ow own b
    .rw[<- hM,vM ⟨z,by simp[n1,n2]⟩];exact e
    .exact dr (cX (EE b u ((cQ z).trans e))).2
   have back:∀(M':Hp),(∀b,b≠m->M' b=M b)->Same (hd (· ∈ [l,m]) G) (hd (Ow own) M'):=λM' hM' b u e=>by
    obtain⟨n1,e⟩:=cX e;rw[cQ (λz=>by rw[a9 b ⟨z,n1⟩]at e;cases e),hM' b λz=>n1 (by simp[z])];exact dr e
   obtain⟨x,ex⟩:=Ja es;obtain⟨x2,ex2⟩:=Ja es2;obtain⟨h2,S2⟩:=h1.chg ex (y:=c t) (H':=upd M m (.lst zs)) (λb u hb e=>by
    by_cases z:b=m
    .rw[z,cL];rw[z,E1 _ _ f3]at e;exact e
    .rw[cD z];exact keep b u (λy=>hb (by rw[e2,y];simp)) z e) (by
    rw[e1,e2];exact sl _ ys t ((cD lm).trans (dr ey)) (ry.same (back _ λb n=>cD n)))
   obtain⟨h3,S3⟩:=h2.chg (show(o.set i (c t))[j]?=some x2 by rw[VV ic];exact ex2) (y:=d u) (H':=M) (λb w hb e=>by rw[cD λz=>hb (by rw[f2,z];simp)]at e;exact e) (by
    rw[f1,f2];exact sl2 _ ws u (dr ew) (kG.same (back _ λ_ _=>rfl)))
   exact L.nx own _ σ _ rx ((bV E1).trans (S2.trans S3)) h3
end
def J6(g:qS)(c:RT)(e:RE)(o:List OT):List T->(List (List T)->Prop)->Prop
 |[],q=>q []
 |t::ts,q=>∃(N:List T->Prop)(M:Prop),(∀y,N y->J6 g c e o ts λus=>q (y::us))/\(M->J6 g c e o ts q)/\g t o λo'=>c o' λb=>sw b (e o' λy=>match y with|.l1 us=>N us|_=>False) M
def aap(it:RI)(n:Nat)(g:qS)(c:RT)(e:RE):RE:=λo q=>it o λxs=>xs.length<=sizeLine/\J6 g c e (List.replicate n .und++o) xs λus=>q (.l2 us)
def ownL2(n L:Nat)(own:Nat->Ψ)(A:Ψ):Nat->Ψ:=λi=>if i<n then[]else if i<n+L then own (i-n)else if i=n+L then A else own (i-n-1)
theorem Ow.ownL2{n L:Nat}{own:Nat->Ψ}{A:Ψ}{b:Addr} : Ow (ownL2 n L own A) b↔Ow own b\/b∈A:=by
 constructor
 .rintro⟨i,z⟩;unfold L2.ownL2 at z;by_cases h1:i<n
  .rw[ZY h1]at z;cases z
  rw[ZZ h1]at z;by_cases h2:i<n+L
  .rw[ZY h2]at z;exact .inl ⟨_,z⟩
  rw[ZZ h2]at z;by_cases h3:i=n+L
  .rw[ZY h3]at z;exact .inr z
  .rw[ZZ h3]at z;exact .inl ⟨_,z⟩
 .rintro(⟨i,z⟩|z)
  .by_cases h:i<L
   .exact⟨n+i,by unfold L2.ownL2;rw[ZZ (Ts (X1 _ _)),ZY (Nat.add_lt_add_left h _),show n+i-n=i by exact TR _ _];exact z⟩
   .exact⟨n+i+1,by unfold L2.ownL2;rw[ZZ (by lia),ZZ (by lia),ZZ (by lia),show n+i+1-n-1=i by lia];exact z⟩
  .exact⟨n+L,by unfold L2.ownL2;rw[ZZ (Ts (X1 _ _)),ZZ (X2 _),ZY rfl];exact z⟩
theorem SR.blockL{K:Frag}{own:Nat->Ψ}{H:Hp}{σ:L2.St}{o:List OT}(h:SR K own H σ o){A:Ψ}{H':Hp}(E:Same H H')(nA:∀a∈A,H a=none)(eA:∀a∈A,∃ys,H' a=some (.lst ys))(pre:L2.St):SR K (ownL2 pre.length o.length own A) H' (pre++σ) (List.replicate pre.length .und++o):=by
 have le:Same (hd (Ow own) H) (hd (Ow (ownL2 pre.length o.length own A)) H'):=jk (λb z=>(Ow.ownL2.mp z).imp id (nA b)) E;have fF:∀j,∀a∈A,a∉own j:=λj a ha z=>(h.sole ⟨j,z⟩).ne (nA a ha);refine⟨by simp[h.len],λi x e=>?_,λi hi a ha=>?_,λi j a e1 e2=>?_⟩
 .by_cases h1:i<pre.length
  .rw[aF (by simpa using h1),XG,ZY h1]at e;cases e;show ownL2 _ _ _ _ i=[];unfold ownL2;rw[ZY h1]
  .rw[aD (by simpa using h1),aN]at e;have h2:i-pre.length<o.length:=(ao.mp e).1;rw[aD (Nat.not_lt.mp h1)];have:ownL2 pre.length o.length own A i=own (i-pre.length):=by unfold ownL2;rw[ZZ h1,ZY (by omega)]
   rw[this];exact(h.sl _ x e).same le E
 .rw[aA,aN]at hi;unfold ownL2 at ha;rw[ZZ (by lia),ZZ (Ts hi)]at ha;by_cases h3:i=pre.length+o.length
  .rw[ZY h3]at ha;exact eA a ha
  .rw[ZZ h3]at ha;obtain⟨xs,e⟩:=h.out _ (by lia) a ha;exact⟨xs,E _ _ e⟩
 .unfold ownL2 at e1 e2;by_cases a1:i<pre.length
  .rw[ZY a1]at e1;cases e1
  by_cases b1:j<pre.length
  .rw[ZY b1]at e2;cases e2
  rw[ZZ a1]at e1;rw[ZZ b1]at e2;by_cases a2:i<pre.length+o.length<;>by_cases b2:j<pre.length+o.length
  .rw[ZY a2]at e1;rw[ZY b2]at e2;have:=h.dis _ _ a e1 e2;omega
  .rw[ZY a2]at e1;rw[ZZ b2]at e2;by_cases b3:j=pre.length+o.length
   .rw[ZY b3]at e2;exact absurd e1 (fF _ a e2)
   .rw[ZZ b3]at e2;have:=h.dis _ _ a e1 e2;omega
  .rw[ZZ a2]at e1;rw[ZY b2]at e2;by_cases a3:i=pre.length+o.length
   .rw[ZY a3]at e1;exact absurd e2 (fF _ a e1)
   .rw[ZZ a3]at e1;have:=h.dis _ _ a e1 e2;lia
  .rw[ZZ a2]at e1;rw[ZZ b2]at e2;by_cases a3:i=pre.length+o.length<;>by_cases b3:j=pre.length+o.length
   .exact Eq.trans a3 (Eq.symm b3)
   .rw[ZY a3]at e1;rw[ZZ b3]at e2;exact absurd e2 (fF _ a e1)
   .rw[ZZ a3]at e1;rw[ZY b3]at e2;exact absurd e1 (fF _ a e2)
   .rw[ZZ a3]at e1;rw[ZZ b3]at e2;have:=h.dis _ _ a e1 e2;lia
theorem Zn{K:Frag}{σ:L2.St}{Q:VK}{n:Nat}{g:qS}{rc:RT}{re:RE}{own:Nat->Ψ}{o:List OT}{H1:Hp}{J:It}{xs:List T}{R:OT->Prop}{D:Addr}(h1:SR K own H1 σ o)(wk:Wlk K J (hd (Ow own) H1) xs)(lx:xs.length<=sizeLine)(q:J6 g rc re (List.replicate n .und++o) xs λus=>R (.l2 us))(nD:H1 D=none)(k:∀H' v x,R x->Same H1 H'->NR K (Ow own) H1 H' v x->Q v H') :
  ∃W:Nat->Nat->Ζ->Hp->Prop,(∃m,W 0 m [] (upd H1 D (.lst [])))/\∀i m ys Hc,W i m ys Hc ->
   (J.stop i Hc/\Q (.ref D) Hc)\/(J.go i Hc/\∀x H',J.yld i Hc x H'->∀pre:L2.St,pre.length=n->tMG (tQG K n g) x (pre++σ) H' λσ2 H2=>∃b6:L2.St,b6.length=n/\σ2=b6++σ/\tMT (tQT K rc) σ2 H2 λb H3 =>
    match b with
    |true=>tM (tQ K re) σ2 H3 λy H4=>ys.length<sizeLine/\H4 D=some (.lst ys)/\∃m',m'<m/\W (i+1) m' (ys++[y]) (upd H4 D (.lst (ys++[y])))
    |false=>∃m',m'<m/\W (i+1) m' ys H3):=by
 generalize hO:List.replicate n OT.und++o=ob at q;refine⟨λi m ys Hc=>∃(bs:Ψ)(aw:List (List T)),ys=bs.map V.ref/\Hc D=some (.lst ys)/\Same H1 Hc/\(D::bs).Nodup/\(∀b∈bs,H1 b=none)/\bs.length=aw.length/\(∀(i:Nat)b ts,bs[i]?=some b->aw[i]?=some ts->∃xs,Hc b=some (.lst xs)/\cu K (hd (λb=>Ow own b\/b∈D::bs) Hc) xs ts)/\ys.length<=i/\i<=xs.length/\m=xs.length-i/\J6 g rc re ob (xs.drop i) λus=>R (.l2 (aw++us)),⟨_,[],[],rfl,cL,Same.upd nD,by simp,λ_ z=>(nomatch z),rfl,(λi b ts e=>by cases e),aG _,aZ _,rfl,q⟩,?_⟩;rintro i m ys Hc ⟨bs,aw,rfl,eD,Ec,nd,nb,bl,rs,il,ix,rfl,hl⟩;have nA:∀a∈D::bs,H1 a=none:=λa ha=>by
  rcases YU.mp ha with z|z
  .rw[z];exact nD
  .exact nb a z
 have eA:∀a∈D::bs,∃ys,Hc a=some (.lst ys):=λa ha=>by
  rcases YU.mp ha with z|z
  .exact⟨_,z ▸ eD⟩
  .obtain⟨j,e⟩:=aV z;have lj:=(ao.mp e).1;obtain⟨zs,e2,_⟩:=rs j a _ e (aj (aR lj (WJ bl)));exact⟨zs,e2⟩
 have hn:∀b,Ow own b\/b∈D::bs->Hc b≠none:=λb z=>z.elim (λz=>((h1.same Ec).sole z).ne) λe z=>by obtain⟨ys,ey⟩:=eA b e;rw[ey]at z;cases z
 have SD:Same (hd (Ow own) H1) (hd (λb=>Ow own b\/b∈D::bs) Hc):=jk (λb z=>z.imp id (nA b)) Ec;obtain⟨w1,w2⟩:=wk (λb=>Ow own b\/b∈D::bs) Hc i hn SD;by_cases hi:i<xs.length
 .right;obtain⟨go,yl⟩:=w2 _ (aj hi);rw[JS hi]at hl;obtain⟨N,M,hN,hM,hl⟩:=hl;refine⟨go,λx H2 y pre hp=>?_⟩;obtain⟨E2,rx⟩:=yl x H2 y;have eO:(λb=>Ow own b\/b∈D::bs)=Ow (ownL2 n o.length own (D::bs)):=funext λb=>propext Ow.ownL2.symm;have hb:SR K (ownL2 n o.length own (D::bs)) H2 (pre++σ) ob:=by
   have:=h1.blockL (Ec.trans E2) nA (λa ha=>let⟨ys,e⟩:=eA a ha;⟨ys,E2 _ _ e⟩) pre;rw[hp,hO]at this;exact this
  rw[eO]at rx rs;refine⟨_,⟨ownL2 n o.length own (D::bs),ob,_,_,hb,rx,hl,λff σ3 o3 q3 hU h3=>?_⟩,λ_ _ z=>z⟩;obtain⟨b6,eI,rfl⟩:=Ti hp hU;have e3:ff=ownL2 n o.length own (D::bs):=funext λj=>by
   rcases hU.1 j with e|⟨e1,e2⟩
   .exact e
   .rw[e2];unfold ownL2;rw[ZY e1]
  subst e3;refine⟨b6,eI,rfl,_,tQT.mk h3 q3 λH3 b q4 E3=>?_,λ_ _ z=>z⟩;have q4:sw b (re o3 λy=>match y with|.l1 us=>N us|_=>False) M:=q4;cases b with
  |false=>exact⟨xs.length-(i+1),by lia,bs,aw,rfl,E3 _ _ (E2 _ _ eD),Ec.trans (E2.trans E3),nd,nb,bl,λj b ts e1 e2=>by
    obtain⟨zs,ez,rz⟩:=rs j b ts e1 e2;rw[eO];exact⟨zs,E3 _ _ (E2 _ _ ez),rz.same (bV (E2.trans E3))⟩,by exact aL il (X1 _ _),by exact hi,rfl,hM q4⟩
  |true =>
   refine⟨_,⟨_,_,_,h3.same E3,q4,λH4 v y q5 E4 r4=>?_⟩,λ_ _ z=>z⟩
   match y,q5,r4 with
   |.l1 us,q5,r4 =>
    obtain⟨B,nB,p,zs,ev,rfl,ep,rp⟩:=r4;cases ev;have np:H3 p=none:=nB p (by simp);have pn:∀{a:Addr}{u:HO},H3 a=some u->a≠p:=λe z=>by rw[z,np]at e;cases e
    have E:Same Hc H3:=E2.trans E3;have pD:D≠p:=pn (E _ _ eD);have pb:p∉bs:=λz=>by
     obtain⟨ys,ey⟩:=eA p (aJ _ z);exact pn (E _ _ ey) rfl
    have inD:∀(H:Hp)(u:HO),hd (λb=>Ow own b\/b∈D::(bs++[p])) (upd H D u)=hd (λb=>Ow own b\/b∈D::(bs++[p])) H:=λH u=>Gp (S:=λb=>Ow own b\/b∈D::(bs++[p])) (.inr (by simp));refine⟨by lia,E4 _ _ (E _ _ eD),xs.length-(i+1),by lia,bs++[p],aw++[us],by rw[bf];rfl,cL,λb u e=>?_,?_,λb hb=>?_,by simp[bl],λj b ts e1 e2=>?_,by rw[aA,List.length_singleton];exact Nat.succ_le_succ il,by exact hi,rfl,?_⟩
    .rw[cD λz=>by rw[z,nD]at e;cases e];exact E4 _ _ (E _ _ (Ec _ _ e))
    .rw[<- List.cons_append];exact List.nodup_append.mpr ⟨nd,by simp,λa ha c hc z=>by
      rw[YR.mp hc]at z;rcases YU.mp ha with y|y
      .exact pD (y.symm.trans z)
      .exact pb (z ▸ y)⟩
    .rcases Y1.mp hb with z|z
     .exact nb b z
     .rw[YR.mp z];exact(Ec.trans E).free np
    .rw[inD];by_cases hj:j<bs.length
     .rw[aF hj]at e1;rw[aF (aR hj (WJ bl))]at e2;obtain⟨zs,ez,rz⟩:=rs j b ts e1 e2;have bD:b≠D:=λz=>(List.nodup_cons.mp nd).1 (z ▸ aC e1);refine⟨zs,by rw[cD bD];exact E4 _ _ (E _ _ ez),rz.same ?_⟩;rw[<- eO];exact jk (λc z=>by
       rcases z with z|z
       .exact .inl (.inl z)
       .rw[<- List.cons_append]at z;rcases Y1.mp z with y|y
        .exact .inl (.inr y)
        .rw[YR.mp y];exact .inr (E.free np)) (E.trans E4)
     .rw[aD (VU hj)]at e1;rw[aD (by lia)]at e2;have j0:j-bs.length=0:=by
       have:=(ao.mp e1).1;simp at this;omega
      rw[j0]at e1;rw[show j-aw.length=0 by lia]at e2;cases e1;cases e2;refine⟨_,by rw[cD (Ne.symm pD)];exact ep,rp.same (jk (λc z=>.inl ?_) λ_ _ z=>z)⟩;rcases z with z|z
      .exact .inl (Ow.ownL2.mpr (.inl z))
      .rw[<- List.cons_append]at z;rcases Y1.mp z with y|y
       .exact .inl (Ow.ownL2.mpr (.inr y))
       .exact .inr y
    .have:=hN _ q5;simp only[Wp,List.singleton_append];exact this
 .left;have:i=xs.length:=by lia
  refine⟨w1 this,?_⟩;rw[TK (VU hi)]at hl;have hl:R (.l2 (aw++[])):=hl;rw[List.append_nil]at hl;exact k Hc _ _ hl Ec ⟨D::bs,nA,D,bs,rfl,rfl,nd,eD,bl,rs⟩
theorem Yj{K:Frag}{σ:L2.St}{H:Hp}{Q:VK}{ri:RI}{n:Nat}{g:qS}{rc:RT}{re:RE}(h:tQ K (aap ri n g rc re) σ H Q):uq (tQI K ri) n (tMG (tQG K n g)) (tMT (tQT K rc)) (tM (tQ K re)) σ H Q:=by
 obtain⟨own,o,R,h,hr,k⟩:=h;exact⟨own,o,_,h,hr,λH1 J xs q E1 wk D nD=>Zn (h.same E1) wk q.1 q.2 nD λH' v x rx E n=>k H' v x rx (E1.trans E) (n.back E1)⟩
section
variable{X:Cx}{tg iter be:Expr}{aS:List Expr}{ri:RI}{g:qS}{rc:RT}{re:RE}{scope:Scope}{pos:Pos}
theorem aaf(sc:Scope)(N N':Φ)(x0:Str)(hi:QI X tg iter ri)(hg:∀{C s₀ H₀ ex pn},QG (X.compGC N' scope x0 C s₀ H₀ ex pn) 1 tg g)(ht:∀{C s₀ H₀ ex pn},QTs (X.compGC N' scope x0 C s₀ H₀ ex pn) aS rc)(he:∀{C s₀ H₀ ex pn},QE (X.compGC N' scope x0 C s₀ H₀ ex pn) be re)
 (cy:X.env.scope=sc:=by rfl)(cK:X.N=N:=by rfl)(hc:X.calm=true:=by rfl)(hk:scope.kind=.function:=by rfl)(fS:∀n acc,cellsFrom n scope.names acc=(x0,n)::acc:=by intro _ _;rfl)(fN:∀h,pushCells h scope.names=h.push { cls:=.type "cell",data:=.cell none }:=by intro _;rfl)(h:(∀y∈scope.names,y.2=.cell->y.1=x0)/\CK0 sc scope N N' [x0]:=by decide +kernel)(hs:qV X iter:=by intro _;rfl):QE X (.ListComp be [⟨tg,iter,aS,0⟩] scope pos) (aap ri 1 g rc re) :=
 (abq (gt:=tQG X.K 1 g) (tc:=tQT X.K rc) (te:=tQ X.K re) sc N N' x0 hi hg ht he cy cK hc hk fS fN h hs).imp λ_ _ _=>Yj
theorem aeD{i0:Nat}{y0:Str}{py b8:Pos}(sc:Scope)(N N' xs:Φ)(hi:QI X tg iter ri)(hg:∀{C s₀ H₀ ex pn},QG (X.compG N' scope xs C s₀ H₀ ex pn) xs.length tg g)(ht:∀{C s₀ H₀ ex pn},QTs (X.compG N' scope xs C s₀ H₀ ex pn) aS rc)(he:∀{C s₀ H₀ ex pn},QE (X.compG N' scope xs C s₀ H₀ ex pn) be re)(fR:PG X (.Name y0 py) (Bl i0))
 (cy:X.env.scope=sc:=by rfl)(cK:X.N=N:=by rfl)(hc:X.calm=true:=by rfl)(hk:scope.kind=.function:=by rfl)(h:CK sc scope N N' xs:=by decide +kernel)(fI:swapsWith (.ListComp be [⟨tg,iter,aS,0⟩] scope pos) (some (.Name y0 py)) b8.line X.env=pure true:=by rfl)(hs:qV X iter:=by intro _;rfl) :
  QS X (.Assign [.Name y0 py] (.ListComp be [⟨tg,iter,aS,0⟩] scope pos) b8) (ahy i0 (aap ri xs.length g rc re)):=(acA (gt:=tQG X.K xs.length g) (tc:=tQT X.K rc) (te:=tQ X.K re) sc N N' xs hi hg ht he fR cy cK hc hk h fI hs).imp λD σ H ⟨own,o,E,h,hr,L⟩=>Yj ⟨own,o,_,h,hr,λH' v y q S n=>by
 obtain⟨ag,h',S'⟩:=h.putA S n i0;exact L.nx ag H' _ _ q S' h'⟩
theorem M8{α:Type}(h:α->T)(f:α->List T){c:RT}{e:RE}{o:List OT} : ∀(l:List α){q:List (List T)->Prop},(∀a∈l,∀(N:List T->Prop)(M:Prop),N (f a)->g (h a) o λo'=>c o' λb=>sw b (e o' λy=>match y with|.l1 us=>N us|_=>False) M)->q (l.map f)->J6 g c e o (l.map h) q
 |[],_,_,k=>k
 |a::l,q,st,k=>⟨λy=>y=f a,False,λy z=>M8 h f l (λa ha=>st a (aJ _ ha)) (z ▸ k),False.elim,st a (aO ..) (λy=>y=f a) False rfl⟩
theorem Ua{c:RT}{e:RE}{o:List OT}{q:List (List T)->Prop}(f:Nat->List T)(n:Nat)(st:∀k,k<n->∀(N:List T->Prop)(M:Prop),N (f k)->g (.int (k:Nat)) o λo'=>c o' λb=>sw b (e o' λy=>match y with|.l1 us=>N us|_=>False) M)(k:q ((List.range n).map f)):J6 g c e o (rng 0 n) q:=by
 refine M8 (λk:Nat=>.int (0+k)) f (List.range n) (λa ha N M hN=>?_) k;have:=st a (List.mem_range.mp ha) N M hN;show g (.int (0+((a:Nat):Int))) o _;rw[show(0:Int)+((a:Nat):Int)=((a:Nat):Int)by exact Int.zero_add _];exact this
end
section
variable{X:Cx}
abbrev Kh(f:Β):PyData:=.tuple [.int f.1,.int f.2]
abbrev frP(f:Β):T:=.tup [.int f.1,.int f.2]
def adK(K:Frag):V->Ζ->Hp->VK->Prop:=λx vs H Q=>∃(l:Addr)(b:V)(xs:Ζ)(fs:Γ)(f:Β)(j:Nat),x=.ref l/\vs=[b]/\H l=some (.lst xs)/\xs.length=fs.length/\(∀(i:Nat)x g,xs[i]?=some x->fs[i]?=some g->gO K H x (Kh g))/\gO K H b (Kh f)/\xs.length<=sizeLine/\fs[j]?=some f/\(∀i g,i<j->fs[i]?=some g->g≠f)/\Q (.int (j:Nat)) H
open Classical in
def ahm(h:Heap)(f:Β)(v:Value):Bool:=decide (∃as,Reads h v (Kh f) as)
open Classical in
theorem Q5{h:Heap}{v:Value}{g f:Β}{as:Ψ}(r:Reads h v (Kh g) as):ahm h f v=(decide (g.1=f.1)&&decide (g.2=f.2)):=by
 unfold ahm;by_cases e:g=f
 .subst e;rw[Zs ⟨as,r⟩,Zs rfl,Zs rfl];rfl
 .have nd:¬∃as,Reads h v (Kh f) as:=λ⟨bs,z⟩=>e (by
   have:=SeqAt.Reads.unique _ _ _ _ _ rfl r z;injection this with this;injection this with t1 t2;injection t2 with t2;injection t1 with t1;injection t2 with t2;exact Prod.ext t1 t2)
  rw[Zp nd];by_cases h1:g.1=f.1
  .by_cases h2:g.2=f.2
   .exact absurd (Prod.ext h1 h2) e
   .rw[Zp h2,Bool.and_false]
  .rw[Zp h1,Bool.false_and]
theorem Zz(hu:X.A.units+64<cLine):MtM X "list.index" (adK X.K):=by
 intro aa s σ H x vs v us Q I rx rv h;obtain⟨l,b,xs,fs,f,j,rfl,rfl,hl,lf,fl,hb,hz,ej,nj,q⟩:=h;cases rx;obtain⟨u,rfl,ru⟩:=rv.one;obtain⟨bs,rb⟩:=I.readsK hb ru;obtain⟨z,its,n,r,ib,e⟩:=I.lstM hl;have lr:=r.length;have kx:∀(i:Nat)(hi:i<its.toArray.size),∃g as,fs[i]?=some g/\Reads s.heap its.toArray[i] (Kh g) as:=λi hi=>by
  rw[aX]at hi;have ex:xs[i]?=some (xs[i]'(by lia)):=aj _;have eg:fs[i]?=some (fs[i]'(by lia)):=aj _;obtain⟨u,eu,ru⟩:=r.get ex;obtain⟨as,ra⟩:=I.readsK (fl i _ _ ex eg) ru;refine⟨_,as,eg,?_⟩;rw[List.getElem_toArray,(ao.mp eu).2];exact ra
 have lj:=(ao.mp ej).1;have hj:j<its.toArray.size:=by rw[aX];lia
 rw[sizeLine_eq]at hz;refine call_meets F.slot_list_index ⟨_,e,rfl⟩ F.entry_list_index (F.args_list_index_2 _ _) (SeqAt.list_indexAt l its.toArray n _ _ _ (ahm s.heap f) j hj (by lia) ?_ λm hm lm=>?_) ⟨e,λy hy=>?_,⟨.int _,H,I.tok _,⟨_,rfl⟩,q⟩⟩
 .obtain⟨g,as,e2,e3⟩:=kx j hj;rw[ej]at e2;cases e2;rw[Q5 e3,Zs rfl,Zs rfl];rfl
 .obtain⟨g,as,e2,e3⟩:=kx m hm;have ne:=nj m g lm e2;rw[Q5 e3];by_cases h1:g.1=f.1
  .by_cases h2:g.2=f.2
   .exact absurd (Prod.ext h1 h2) ne
   .rw[Zp h2,Bool.and_false]
  .rw[Zp h1,Bool.false_and]
 .obtain⟨i,hi,ei⟩:=Array.getElem_of_mem hy;obtain⟨g,as,e2,e3⟩:=kx i hi;rw[<- ei,Q5 e3,<- ae8];exact SeqAt.eqAt_reads _ _ _ _ _ _ _ _ e3 rb rfl rfl (by
   have d:(Kh g).depth<=3:=U1 rfl;have m:=Nat.min_le_left (Kh g).depth (Kh f).depth;show X.A.units+1+min (Kh g).depth (Kh f).depth<cLine;lia)
def anv(a:RE)(r:RA):RE:=λo q=>a o λx=>match frz x with
 |.lst ts=>r o λus=>∃(fs:Γ)(f:Β)(j:Nat),ts=fs.map frP/\us=[frP f]/\fs.length<=sizeLine/\fs[j]?=some f/\(∀i g,i<j->fs[i]?=some g->g≠f)/\q (.fz (.int (j:Nat)))
 |_=>False
theorem afr{o e:Expr}{ra:RE}{r:RA}{ah ae:Pos}(hu:X.A.units+64<cLine)(ho:QE X o ra)(ha:QA X [e] r)(hb:attributeBase o "index" X.env (eval o X.env)=eval o X.env:=by rfl)
 (hf:qr X ae e:=by rfl)
 (hl:zz ah ae:=by rfl)(hs:qo X e []:=by rfl)(hp:qh X ae []:=by rfl) :
  QE X (.Call (.Attribute o "index" ah) [e] [] ae) (anv ra r):=by
 refine(Yb PySem.F.plainAttrs_list PySem.F.slot_list_index PySem.F.type_list_index (Zz hu) ho.mono ha.mono hb hf hl hs hp).imp λσ H Q hP=>?_;obtain⟨own,o,R,h,hr,k⟩:=hP;refine⟨_,tQ.mk h hr λH1 v x q E1 r1=>?_,λ_ _ z=>z⟩;cases ex:frz x with
 |lst ts =>
  rw[ex]at q r1;obtain⟨p,xs,rfl,e,rx⟩:=r1.lstI;refine⟨.inl ⟨rfl,_,SqL.of (dO _ _ e)⟩,_,tQA.mk (h.same E1) q λH2 vs us q2 _ E2 r2=>?_,λ_ _ z=>z⟩;obtain⟨fs,f,j,rfl,rfl,lf,ej,nj,q3⟩:=q2;obtain⟨y,rfl,ry⟩:=r2.one;have S2:Same (hd (Ow own) H1) H2:=(bV E2).trans dO;refine⟨p,y,xs,fs,f,j,rfl,rfl,E2 _ _ (dO _ _ e),by rw[rx.len,ak],λi x g ex eg=>?_,(ry.shows _ rfl rfl).same dO,by rw[rx.len,ak];exact lf,ej,nj,k H2 _ _ q3 (E1.trans E2) (NR.fz (.int _))⟩;obtain⟨v,ev,rv⟩:=rx.at_ (show(fs.map frP)[i]?=some (frP g)by rw[aq,eg];rfl);rw[ex]at ev;cases ev;exact(rv.shows _ rfl rfl).same S2
 |_=>rw[ex]at q;exact q.elim
end
section
variable{X:Cx}
theorem cu.strs{K:Frag}{F:Hp} : ∀{xs:Ζ}{ys:Φ},cu K F xs (ys.map T.str)->xs=ys.map V.str
 |_,[],h=>by cases h;rfl
 |_,y::ys,h=>by
  cases h with
  |cons a b =>
   cases a;rw[cu.strs b];rfl
def rJn(a:RE)(r:RA):RE:=λo q=>a o λx=>match frz x with
 |.str s=>r o λus=>∃ys:Φ,us=[.lst (ys.map T.str)]/\(ys.map (·.length)).sum+ys.length*s.length<=16777216/\q (.fz (.str (Txt.join s ys)))
 |_=>False
theorem ac7{o e:Expr}{ra:RE}{r:RA}{ah ae:Pos}(ho:QE X o ra)(ha:QA X [e] r)(hb:attributeBase o "join" X.env (eval o X.env)=eval o X.env:=by rfl)
 (hf:qr X ae e:=by rfl)
 (hl:zz ah ae:=by rfl)(hs:qo X e []:=by rfl)(hp:qh X ae []:=by rfl) :
  QE X (.Call (.Attribute o "join" ah) [e] [] ae) (rJn ra r):=by
 refine(aiS PySem.F.slot_str_join PySem.F.type_str_join acW ho ha hb hf hl hs hp).imp λσ H Q hP=>?_;obtain⟨own,o,R,h,hr,k⟩:=hP;refine tQ.mk h hr λH1 v x q E1 r1=>?_;cases ex:frz x with
 |str s =>
  rw[ex]at q r1;cases r1;refine⟨⟨s,rfl⟩,tQA.mk (h.same E1) q λH2 vs us q2 _ E2 r2=>?_⟩;obtain⟨ys,rfl,lz,q3⟩:=q2;obtain⟨y,rfl,ry⟩:=r2.one;obtain⟨p,xs,rfl,e,rx⟩:=ry.lstI;exact⟨s,p,ys,rfl,rfl,rx.strs ▸ (cX e).2,lz,k H2 _ _ q3 (E1.trans E2) (NR.fz (.str _))⟩
 |_=>rw[ex]at q;exact q.elim
def notStar:Expr->Bool
 |.Starred ..=>false
 |_=>true
theorem af4{e:Expr}{es:List Expr}{env:Env}(h:notStar e=true):starEach (e::es) env=(false,eval e env)::starEach es env:=by
 cases e<;>first|rfl|cases h
structure QEB(X:Cx)(e:Expr)(r:RE):Prop where
 out:QE X e r
structure QAB(X:Cx)(es:List Expr)(r:RA):Prop where
 out:QA X es r
theorem BJ{e:Expr}{r:RE}(h:QE X e r):QEB X e r:=⟨h⟩
theorem lD{i j pos} : QEB X (.Constant (.int i) j pos) (rC (.int i)):=⟨bG⟩
theorem aie(i:Nat){x:Str}{pos:Pos}(hN:X.N[i]?=some x:=by rfl)(hv:rZ X.env.scope x=true:=by rfl)(hd:qk x:=by decide)(bi:qf x:=by decide):QEB X (.Name x pos) (Wx i):=⟨qv i hN hv hd bi⟩
theorem V4{op:Operator}{g:qA}{a b:Expr}{ra rb:RE}{pos:Pos}(ho:GO X (binaryOp op) g)(ha:QEB X a ra)(hb:QEB X b rb):QEB X (.BinOp a op b pos) (rOp g ra rb):=⟨bO ho ha.out hb.out⟩
theorem lG:QAB X [] agC:=⟨bF⟩
theorem cR{e:Expr}{es:List Expr}{a:RE}{r:RA}(ha:QEB X e a)(hr:QAB X es r)(hn:notStar e=true:=by rfl):QAB X (e::es) (ae1 a r):=⟨bC ha.out hr.out (af4 hn)⟩
theorem pR{es:List Expr}{r:RA}{pos:Pos}{k:Nat}(h:QAB X es r)(hz:es.length<=sizeLine:=by decide):QEB X (.Tuple es k pos) (aiu r):=⟨d9 h.out hz⟩
theorem Qn{es:List Expr}{r:RA}{pos:Pos}(h:QAB X es r)(hz:es.length<=sizeLine:=by decide):QEB X (.List es pos) (ajB r):=⟨dN h.out hz⟩
def alw:qA
 |.int i,.int j,q=>aeA i j/\q (.fz (.int (i*j)))
 |_,_,_=>False
theorem adO:GO X (binaryOp .Mult) alw:=ahw.imp λx y H Q hP=>by
 obtain⟨S,t,u,R,_,hx,hy,hg,k⟩:=hP;cases hx<;>try exact hg.elim
 cases hy<;>try exact hg.elim
 exact⟨_,_,rfl,rfl,hg.1,k H _ _ hg.2 (.refl _) (NR.fz (.int _))⟩
def am9(n:Nat)(gs:qE):qS
 |.lst ts,o,q=>ts.length=n/\gs ts o q
 |_,_,_=>False
theorem aau{pos:Pos}{m:Nat}{es:List Expr}{k:Nat}{gs:qE}{n:Nat}(hc:X.calm=true)(h:QGs X m es gs)(hn:(assignEach es X.env).length=n:=by rfl)(cc:zk X es:=by rfl):QG X m (.Tuple es k pos) (am9 n gs):=(aeh hc h hn cc).imp λv σ H Q hP=>by
 obtain⟨own,o,t,R,h,r,hg,k⟩:=hP;cases t<;>try exact hg.elim
 obtain⟨a,xs,rfl,e,r⟩:=r.lstI;exact⟨a,xs,rfl,SqL.of (dO _ _ e),r.len.trans hg.1,own,o,_,R,h,r,hg.2,k⟩
end
section
variable{a b c d e f x y:RS}{E:DT}{o:List OT}
theorem sq1(J:List OT->Prop)(k:∀o',J o'->y E o')(h:∀Y:List OT->Prop,(∀o',J o'->Y o')->mC x (λ_=>Y) E o):mC x y E o:=h (y E) k
theorem sq4(J:List OT->Prop)(k:∀o',J o'->y E o')(h:∀Y:List OT->Prop,(∀o',J o'->Y o')->mC a (mC b (mC c (mC x (λ_=>Y)))) E o):mC a (mC b (mC c (mC x y))) E o:=h (y E) k
theorem sq7(J:List OT->Prop)(k:∀o',J o'->y E o')(h:∀Y:List OT->Prop,(∀o',J o'->Y o')->mC a (mC b (mC c (mC d (mC e (mC f (mC x (λ_=>Y))))))) E o):mC a (mC b (mC c (mC d (mC e (mC f (mC x y)))))) E o:=h (y E) k
end
section
variable{X:Cx}
theorem Gv{ds:List PyData}(h:SeqAt.shaped (.list ds)=true):PyData.canLayAll0 ds=true/\PyData.depthAll ds<=63:=by
 have a:=SeqAt.canLay_of_shaped h;have b:=SeqAt.depth_of_shaped h;unfold PyData.canLay0 at a;unfold PyData.depth at b;exact⟨a,by exact Nat.le_of_succ_le_succ b⟩
def acS(K:Frag):V->Ζ->Hp->VK->Prop:=λx vs H Q=>∃(l:Addr)(b:V)(xs:Ζ)(ds:List PyData)(d:PyData)(j:Nat),x=.ref l/\vs=[b]/\H l=some (.lst xs)/\d7 K H xs ds/\gO K H b d/\SeqAt.shaped (.list ds)=true/\SeqAt.shaped d=true/\xs.length<=sizeLine/\(∃e,ds[j]?=some e/\PyData.eqv e d=true)/\(∀(i:Nat)e,i<j->ds[i]?=some e->PyData.eqv e d=false)/\Q (.int (j:Nat)) H
theorem GK{h:Heap} : ∀{ds:List PyData}{vs:Θ}{as:Ψ}{i:Nat}{v:Value},ReadsAll h vs ds as->vs[i]?=some v->∃d bs,ds[i]?=some d/\Reads h v d bs
 |_,_,_,i,v,.nil,e=>by cases e
 |_,_,_,0,v,.cons r _,e=>by cases e;exact⟨_,_,rfl,r⟩
 |_,_,_,i+1,v,.cons _ r,e=>by
  obtain⟨d,bs,e1,r1⟩:=GK (i:=i) r (by simpa using e);exact⟨d,bs,by simpa using e1,r1⟩
theorem Nr:∀{ds:List PyData}{i:Nat}{d:PyData},PyData.canLayAll0 ds=true->ds[i]?=some d->d.canLay0=true
 |[],_,_,_,e=>by cases e
 |x::xs,i,d,h,e=>by
  have hc:x.canLay0=true/\PyData.canLayAll0 xs=true:=by simpa[PyData.canLayAll0]using h
  cases i with
  |zero=>cases e;exact hc.1
  |succ i=>exact Nr hc.2 (by simpa using e)
theorem Zb(hu:X.A.units+64<cLine):MtM X "list.index" (acS X.K):=by
 intro aa s σ H x vs v us Q I rx rv h;obtain⟨l,b,xs,ds,d,j,rfl,rfl,hl,hs,hb,sl,sd,hz,⟨e0,ej,e1⟩,nj,q⟩:=h;cases rx;obtain⟨u,rfl,ru⟩:=rv.one;obtain⟨bs,rb⟩:=I.readsK hb ru;obtain⟨z,its,n,r,ib,e⟩:=I.lstM hl;obtain⟨as,ra⟩:=I.readsAllK hs r;obtain⟨l1,l2⟩:=Gv sl;have lr:=r.length;have at_:∀(i:Nat)(hi:i<its.toArray.size),∃g,ds[i]?=some g/\SeqAt.readOf s.heap its.toArray[i]=g:=λi hi=>by
  have ei:its[i]?=some its.toArray[i]:=by rw[aX]at hi;rw[aj hi];simp
  obtain⟨g,cs,eg,rg⟩:=GK ra ei;exact⟨g,eg,SeqAt.readOf_eq (Nr l1 eg) rg⟩
 have lj:=(ao.mp ej).1;have dl:its.length=ds.length:=by
  have:∀{xs:Ζ}{ds:List PyData},d7 X.K H xs ds->xs.length=ds.length:=λ{xs ds}h=>by
   induction xs generalizing ds with
   |nil=>cases h;rfl
   |cons x xs ih=>cases h with|cons a b=>rw[List.length_cons,List.length_cons,ih b]
  rw[<- lr,this hs]
 have hj:j<its.toArray.size:=by rw[aX,dl];exact lj
 rw[sizeLine_eq]at hz;refine call_meets F.slot_list_index ⟨_,e,rfl⟩ F.entry_list_index (F.args_list_index_2 _ _) (SeqAt.list_indexAt l its.toArray n _ _ _ (λy=>PyData.eqv (SeqAt.readOf s.heap y) d) j hj (by rw[aX]at hj;lia) ?_ λm hm lm=>?_) ⟨e,SeqAt.items_eqAt (A:=X.A) (by simpa using ra) rb l1 (SeqAt.canLay_of_shaped sd) ?_,⟨.int _,H,I.tok _,⟨_,rfl⟩,q⟩⟩
 .obtain⟨g,e2,e3⟩:=at_ j hj;rw[ej]at e2;cases e2;show PyData.eqv (SeqAt.readOf s.heap _) d=true;rw[e3];exact e1
 .obtain⟨g,e2,e3⟩:=at_ m hm;show PyData.eqv (SeqAt.readOf s.heap _) d=false;rw[e3];exact nj m g lm e2
 .have:=Nat.min_le_left (PyData.depthAll ds) d.depth;lia
def aj8(a:RE)(r:RA):RE:=λo q=>a o λx=>match frz x with
 |.lst ts=>r o λus=>∃(ds:List PyData)(d:PyData)(j:Nat),ts=YD ds/\us=[ofD d]/\SeqAt.shaped (.list ds)=true/\SeqAt.shaped d=true/\ts.length<=sizeLine/\(∃e,ds[j]?=some e/\PyData.eqv e d=true)/\(∀(i:Nat)e,i<j->ds[i]?=some e->PyData.eqv e d=false)/\q (.fz (.int (j:Nat)))
 |_=>False
theorem acL{o e:Expr}{ra:RE}{r:RA}{ah ae:Pos}(hu:X.A.units+64<cLine)(ho:QE X o ra)(ha:QA X [e] r)(hb:attributeBase o "index" X.env (eval o X.env)=eval o X.env:=by rfl)
 (hf:qr X ae e:=by rfl)
 (hl:zz ah ae:=by rfl)(hs:qo X e []:=by rfl)(hp:qh X ae []:=by rfl) :
  QE X (.Call (.Attribute o "index" ah) [e] [] ae) (aj8 ra r):=by
 refine(Yb PySem.F.plainAttrs_list PySem.F.slot_list_index PySem.F.type_list_index (Zb hu) ho.mono ha.mono hb hf hl hs hp).imp λσ H Q hP=>?_;obtain⟨own,o,R,h,hr,k⟩:=hP;refine⟨_,tQ.mk h hr λH1 v x q E1 r1=>?_,λ_ _ z=>z⟩;cases ex:frz x with
 |lst ts =>
  rw[ex]at q r1;obtain⟨p,xs,rfl,e,rx⟩:=r1.lstI;refine⟨.inl ⟨rfl,_,SqL.of (dO _ _ e)⟩,_,tQA.mk (h.same E1) q λH2 vs us q2 _ E2 r2=>?_,λ_ _ z=>z⟩;obtain⟨ds,d,j,rfl,rfl,sl,sd,lf,ej,nj,q3⟩:=q2;obtain⟨y,rfl,ry⟩:=r2.one;have S2:Same (hd (Ow own) H1) H2:=(bV E2).trans dO;exact⟨p,y,xs,ds,d,j,rfl,rfl,E2 _ _ (dO _ _ e),(rx.shows ds rfl (Gv sl).1).same S2,(ry.shows d rfl (SeqAt.canLay_of_shaped sd)).same dO,sl,sd,by rw[rx.len];exact lf,ej,nj,k H2 _ _ q3 (E1.trans E2) (NR.fz (.int _))⟩
 |_=>rw[ex]at q;exact q.elim
end
section
variable{X:Cx}{p pos:Pos}{e:Expr}{es:List Expr}{r:RA}{x:Str}{k:Nat}
def abN(mg:Str->Ω)(i:Nat)(nm:Bool->Str)(S:Bool->ST)(r:RA):RE:=λo q=>match slot o i with|.fz (.val (.ref f))=>∃b,mg (nm b)=some (.ref f)/\r o λts=>S b ts q|_=>False
theorem Ue{mg:Str->Ω}(i:Nat){nm:Bool->Str}{S:Bool->ST}(G:∀b,∃ps,OkT X.prog X.w X.K X.mg X.base k (nm b) ps (S b))(hr:eG k X.A)(ha:QA X (e::es) r)(hN:X.N[i]?=some x:=by rfl)(hv:rZ X.env.scope x=true:=by rfl)(hd:qk x:=by decide)(bi:qf x:=by decide)
 (he:qo X e es:=by rfl)(bt:qh X pos es:=by rfl)(fx:X.mg=mg:=by rfl):QE X (.Call (.Name x p) (e::es) [] pos) (abN mg i nm S r):=by
 subst fx;intro aa s σ H Q I ⟨own,o,R,h,hq,kk⟩;unfold abN at hq;cases fq:slot o i with
 |fz t =>
  cases t with
  |val v =>
   cases v with
   |ref f =>
    rw[fq]at hq;obtain⟨b,hm,hq⟩:=hq;obtain⟨ps,f',fd,F,bd,gv,kp⟩:=G b;rw[hm]at gv;cases gv;obtain⟨u,eu,ru⟩:=h.get (iz fq (by intro z;cases z));cases ru;refine Z2 (sp:=spH (spT X.K (S b))) ⟨fd,F.hid,bd,kp⟩ hr (pv i hN hv hd bi) ha he bt aa s σ H Q I ⟨_,eu,rfl,tQA.mk h hq λH1 vs ts q _ E1 r1=>?_⟩;have h1:=h.same E1;refine⟨Ow own,h1.hid,ts,R,r1,q,λG v x rx E n a9=>?_⟩;have EH:Same H1 (mrg (Ow own) H1 G):=λb u e=>by
     by_cases z:Ow own b
     .rw[vM z];exact e
     .rw[j8 z];exact E b u ((cQ z).trans e)
    have EG:Same G (mrg (Ow own) H1 G):=λb u e=>by rw[j8 λz=>by rw[a9 b z]at e;cases e];exact e
    refine kk _ v x rx (E1.trans EH) (NR.back (H:=H1) ?_ E1);obtain⟨B,nb,s⟩:=n;have out:∀a∈B,¬Ow own a:=λa ha z=>(s.sole ha).ne (a9 a z);refine⟨B,λa ha=>by have:=nb a ha;rwa[cQ (out a ha)]at this,s.same (jk (λb z=>?_) EG) EG⟩;rcases z with z|z
    .exact .inr (a9 b z)
    .exact .inl (.inr z)
   |_=>rw[fq]at hq;exact hq.elim
  |_=>rw[fq]at hq;exact hq.elim
 |_=>rw[fq]at hq;exact hq.elim
theorem vY{f:Addr}(hg:Gl X x)(hm:X.mg x=some (.ref f))(hd:qk x:=by decide):QE X (.Name x pos) (rC (.val (.ref f))):=Sd (v:=.ref f) (hg:=hg) (hm:=⟨_,hm,rfl⟩) (r:=(λ_=>.val _)) (hd:=hd)
end
section
variable{X:Cx}
def amb:ST:=λts q=>match ts with|[.int a,.int b]=>q (.fz (.int (if b<a then b else a)))|_=>False
theorem ad6(hc:X.calm=true):GC X (.builtin "min") amb:=(Y0 hc).imp λxs H Q hP=>by
 obtain⟨S,ts,R,_,rs,hg,k⟩:=hP
 match ts,hg with
 |[.int a,.int b],hg =>
  cases rs with
  |cons r1 rs=>cases rs with
   |cons r2 rs =>
    cases rs;cases r1;cases r2;exact⟨a,b,rfl,k H _ _ hg (.refl _) (NR.fz (.int _))⟩
end
section
variable{X:Cx}{tg iter be:Expr}{aS:List Expr}{scope:Scope}{pos:Pos}{ri:RI}{g:qS}{rc:RT}{re:RE}{N0 dA N1 f7:Φ}{sO s1:Scope}{C0 C1:Addr}{s0 gc:Shared}{H0 H1:Hp}{cr hV:Ψ}{b9 g4:Δ}
theorem Pk(sc:Scope)(N N' xs:Φ)(hi:QI (X.compG N0 sO dA C0 s0 H0 cr b9) tg iter ri)(hg:∀{C s₀ H₀ ex pn},QG ((X.compG N0 sO dA C0 s0 H0 cr b9).compG N' scope xs C s₀ H₀ ex pn) xs.length tg g)(ht:∀{C s₀ H₀ ex pn},QTs ((X.compG N0 sO dA C0 s0 H0 cr b9).compG N' scope xs C s₀ H₀ ex pn) aS rc)(he:∀{C s₀ H₀ ex pn},QE ((X.compG N0 sO dA C0 s0 H0 cr b9).compG N' scope xs C s₀ H₀ ex pn) be re)
 (cy:X.env.scope=sc:=by rfl)(cK:dA++N0=N:=by rfl)(hc:X.calm=true:=by rfl)(hk:scope.kind=.function:=by rfl)(h:CK (rlb sc sO) scope N N' xs:=by decide +kernel)(hs:∀z,foldedSetIterable iter (X.compG N0 sO dA C0 s0 H0 cr b9).env z=pure z:=by intro _;rfl):QE (X.compG N0 sO dA C0 s0 H0 cr b9) (.ListComp be [⟨tg,iter,aS,0⟩] scope pos) (Ul ri xs.length g rc re):=by
 subst cy;exact cH (X:=X.compG N0 sO dA C0 s0 H0 cr b9) (rlb X.env.scope sO) N N' xs hi hg ht he rfl cK hc hk h hs
theorem abj(sc:Scope)(N N' xs:Φ)(hi:QI ((X.compG N0 sO dA C0 s0 H0 cr b9).compG N1 s1 f7 C1 gc H1 hV g4) tg iter ri)(hg:∀{C s₀ H₀ ex pn},QG (((X.compG N0 sO dA C0 s0 H0 cr b9).compG N1 s1 f7 C1 gc H1 hV g4).compG N' scope xs C s₀ H₀ ex pn) xs.length tg g)(ht:∀{C s₀ H₀ ex pn},QTs (((X.compG N0 sO dA C0 s0 H0 cr b9).compG N1 s1 f7 C1 gc H1 hV g4).compG N' scope xs C s₀ H₀ ex pn) aS rc)(he:∀{C s₀ H₀ ex pn},QE (((X.compG N0 sO dA C0 s0 H0 cr b9).compG N1 s1 f7 C1 gc H1 hV g4).compG N' scope xs C s₀ H₀ ex pn) be re)
 (cy:X.env.scope=sc:=by rfl)(cK:f7++N1=N:=by rfl)(hc:X.calm=true:=by rfl)(hk:scope.kind=.function:=by rfl)(h:CK (rlb (rlb sc sO) s1) scope N N' xs:=by decide +kernel)(hs:∀z,foldedSetIterable iter ((X.compG N0 sO dA C0 s0 H0 cr b9).compG N1 s1 f7 C1 gc H1 hV g4).env z=pure z:=by intro _;rfl):QE ((X.compG N0 sO dA C0 s0 H0 cr b9).compG N1 s1 f7 C1 gc H1 hV g4) (.ListComp be [⟨tg,iter,aS,0⟩] scope pos) (Ul ri xs.length g rc re):=by
 subst cy;exact cH (X:=(X.compG N0 sO dA C0 s0 H0 cr b9).compG N1 s1 f7 C1 gc H1 hV g4) (rlb (rlb X.env.scope sO) s1) N N' xs hi hg ht he rfl cK hc hk h hs
end
end L2
namespace Ac
def lw(t b:Int):Int×Int:=(t/(Int.gcd t b:Nat),b/(Int.gcd t b:Nat))
theorem ajM{t b:Int}(hb:0<b):(0:Int)<(Int.gcd t b:Nat):=by
 have:=Q2 t (show b≠0 by exact WS hb);lia
theorem Xk{a b c:Int}(h:a ∣ b*c)(g:Int.gcd a b=1):a ∣ c:=by
 refine Int.natAbs_dvd_natAbs.mp ((show Nat.Coprime a.natAbs b.natAbs from g).dvd_of_dvd_mul_left ?_);rw[<- Up];exact Int.natAbs_dvd_natAbs.mpr h
theorem uniq{x y u v:Int}(hy:0<y)(hv:0<v)(g1:Int.gcd x y=1)(g2:Int.gcd u v=1)(e:x*v=u*y):x=u/\y=v:=by
 have d1:y ∣ v:=by
  have h:y ∣ x*v:=⟨u,by rw[e,Int.mul_comm]⟩;exact Xk h (by rw[Int.gcd_comm];exact g1)
 have d2:v ∣ y:=by
  have h:v ∣ u*y:=⟨x,by rw[<- e,Int.mul_comm]⟩;exact Xk h (by rw[Int.gcd_comm];exact g2)
 have e2:y=v:=Int.dvd_antisymm (XY hy) (XY hv) d1 d2;subst e2;exact⟨Int.eq_of_mul_eq_mul_right (WS hy) e,rfl⟩
section
variable{κ:Type}[DecidableEq κ]
def look(acc:List (κ×Int))(r:κ):Int:=((acc.find? λg=>decide (g.1=r)).map (·.2)).getD 0
def put(acc:List (κ×Int))(r:κ)(y:Int):List (κ×Int):=if(acc.any λg=>decide (g.1=r))=true then acc.map (λg=>if g.1=r then(g.1,y)else g)else acc++[(r,y)]
def anz(gs:List (κ×Int)):List (κ×Int):=gs.foldl (λa g=>put a g.1 (look a g.1+g.2)) []
def ways(gs:List (κ×Int))(S:Int):List (κ×Int×Int):=((anz gs).filter λg=>decide (0<g.2)).map λg=>(g.1,lw g.2 S)
end
end Ac
namespace Rw
open Ac
def rep(r:List Int×Int):Γ:=r.1.map λt=>lw t r.2
def gcL(ts:List Int)(b:Int):Int:=ts.foldl (λc t=>((Int.gcd t c:Nat):Int)) b
theorem iD:∀{ts:List Int}{b:Int},0<b->0<gcL ts b
 |[],_,h=>h
 |t::ts,b,h=>iD (ts:=ts) (ajM (t:=t) h)
theorem iw:∀{ts:List Int}{b:Int},gcL ts b ∣ b/\∀t∈ts,gcL ts b ∣ t
 |[],b=>⟨Int.dvd_refl b,by simp⟩
 |t::ts,b=>by
  obtain⟨h1,h2⟩:=iw (ts:=ts) (b:=((Int.gcd t b:Nat):Int));refine⟨Int.dvd_trans h1 (T2 t b),λx hx=>?_⟩;rcases YU.mp hx with rfl|hx
  .exact Int.dvd_trans h1 (Int.gcd_dvd_left x b)
  .exact h2 x hx
theorem tU{ts:List Int}{b:Int}(h:0<b):gcL ts b<=b:=Int.le_of_dvd h iw.1
def jC(r:List Int×Int):List Int×Int:=(r.1.map λt=>t/gcL r.1 r.2,r.2/gcL r.1 r.2)
theorem lJ(r:List Int×Int):(jC r).1.length=r.1.length:=by unfold jC;rw[ak]
def je(r:List Int×Int)(c:Β):List Int×Int:=(r.1.map λt=>t*c.1,r.2*c.2)
def oR(r o:List Int×Int)(c:Β):List Int×Int :=
 (List.zipWith (λa b=>a*(o.2*c.2/((Int.gcd r.2 (o.2*c.2):Nat):Int))+b*(r.2/((Int.gcd r.2 (o.2*c.2):Nat):Int)*c.1)) r.1 o.1,r.2*(o.2*c.2/((Int.gcd r.2 (o.2*c.2):Nat):Int)))
structure Big(N:Nat)(r:List Int×Int):Prop where
 pos:0<r.2
 bot:r.2.natAbs<=N
 top:∀t∈r.1,t.natAbs<=N
theorem Big.le{N M:Nat}{r:List Int×Int}(h:Big N r)(hn:N<=M):Big M r:=⟨h.pos,aL h.bot hn,λt ht=>aL (h.top t ht) hn⟩
theorem SN{d t g x:Int}(h1:d ∣ t*x)(h2:d ∣ g*x):d ∣ ((Int.gcd t g:Nat):Int)*x:=by
 have h:=Int.dvd_coe_gcd h1 h2;rw[Int.gcd_mul_right]at h;rw[JY]at h;rcases Int.natAbs_eq x with e|e
 .rw[e];exact h
 .rw[e,Int.mul_neg];exact Int.dvd_neg.mpr h
theorem zu{d x:Int} : ∀{ts:List Int}{b:Int},d ∣ b*x->(∀t∈ts,d ∣ t*x)->d ∣ gcL ts b*x
 |[],_,h,_=>h
 |t::ts,b,h,k=>zu (ts:=ts) (SN (k t aO) h) λu hu=>k u (aJ _ hu)
def Alk(r s:List Int×Int):Prop:=r.1.length=s.1.length/\∀(k:Nat)(a b:Int),r.1[k]?=some a->s.1[k]?=some b->a*s.2=b*r.2
theorem mF{r:List Int×Int}(h:0<r.2):gcL (jC r).1 (jC r).2=1:=by
 have g0:=iD (ts:=r.1) h;obtain⟨d1,d2⟩:=iw (ts:=r.1) (b:=r.2);have p:0<(jC r).2:=Q3 h (XY g0) d1;have q0:=iD (ts:=(jC r).1) p;obtain⟨e1,e2⟩:=iw (ts:=(jC r).1) (b:=(jC r).2);have eQ:gcL (jC r).1 (jC r).2*gcL r.1 r.2 ∣ gcL r.1 r.2*1:=by
  refine zu ?_ λt ht=>?_
  .obtain⟨u,hu⟩:=e1;have hu:r.2/gcL r.1 r.2=gcL (jC r).1 (jC r).2*u:=hu;refine⟨u,?_⟩;rw[Int.mul_one,Int.mul_right_comm,<- hu,Int.ediv_mul_cancel d1]
  .obtain⟨u,hu⟩:=e2 (t/gcL r.1 r.2) (YV.mpr ⟨t,ht,rfl⟩);refine⟨u,?_⟩;rw[Int.mul_one,Int.mul_right_comm,<- hu,Int.ediv_mul_cancel (d2 t ht)]
 rw[Int.mul_one]at eQ;have:=Int.le_of_dvd g0 eQ;have:gcL (jC r).1 (jC r).2<=1:=by
  refine Int.le_of_mul_le_mul_right (a:=gcL r.1 r.2) ?_ g0;lia
 lia
theorem least{N:Nat}{r s:List Int×Int}(hr:0<r.2)(g:gcL r.1 r.2=1)(a:Alk r s)(h:Big N s):Big N r:=by
 have d:r.2 ∣ gcL r.1 r.2*s.2:=zu ⟨s.2,rfl⟩ λt ht=>by
  obtain⟨k,hk,rfl⟩:=List.mem_iff_getElem.mp ht;have hs:k<s.1.length:=by rw[<- a.1];exact hk
  rw[a.2 k _ _ (aj hk) (aj hs)];exact⟨_,Int.mul_comm _ _⟩
 rw[g,Tk]at d;obtain⟨m,hm⟩:=d;have m0:0<m:=Int.pos_of_mul_pos_right (by rw[<- hm];exact h.pos) hr;refine⟨hr,?_,λt ht=>?_⟩
 .have:=Int.le_of_dvd h.pos ⟨m,hm⟩;have:=h.bot;lia
 .obtain⟨k,hk,rfl⟩:=List.mem_iff_getElem.mp ht;have hs:k<s.1.length:=by rw[<- a.1];exact hk
  have e:=a.2 k _ _ (aj hk) (aj hs);rw[hm,Int.mul_comm r.2 m,<- Int.mul_assoc]at e;have e:=Int.eq_of_mul_eq_mul_right (WS hr) e;have b:=h.top _ (aU hs);rw[<- e,Up]at b;exact aL (Nat.le_mul_of_pos_right _ (by omega)) b
def gr(N:Nat):Nat->Nat
 |0=>N
 |m+1=>2*(gr N m*gr N m)
def sg(f:Nat->Rat):Nat->Rat
 |0=>0
 |n+1=>sg f n+f n
def sz(f:Nat->Int):Nat->Int
 |0=>0
 |n+1=>sz f n+f n
theorem jA(f g:Nat->Rat):∀n,sg (λj=>f j+g j) n=sg f n+sg g n
 |0=>by unfold sg;grind
 |n+1=>by unfold sg;rw[jA f g n];grind
theorem jd(c:Rat)(f:Nat->Rat):∀n,sg (λj=>c*f j) n=c*sg f n
 |0=>by unfold sg;grind
 |n+1=>by unfold sg;rw[jd c f n];grind
theorem cA{f g:Nat->Rat} : ∀{n},(∀j,j<n->f j=g j)->sg f n=sg g n
 |0,_=>rfl
 |n+1,h=>by unfold sg;rw[cA λj hj=>h j (WV _ hj),h n (X0 _)]
theorem j7:∀n,sg (λ_=>0) n=0
 |0=>rfl
 |n+1=>by unfold sg;rw[j7 n];grind
theorem j_{v:Nat->Rat}{k:Nat} : ∀{n},sg (λj=>(if j=k then 1 else 0)*v j) n=if k<n then v k else 0
 |0=>by rw[ZZ (WZ _)];rfl
 |n+1=>by
  unfold sg;rw[j_];by_cases h:k<n
  .rw[ZY h,ZZ (VT h),ZY (WV _ h)];grind
  .by_cases e:n=k
   .subst e;rw[ZZ h,ZY rfl,ZY (X0 _)];grind
   .rw[ZZ h,ZZ e,ZZ (by lia)];grind
theorem Qi(f:Nat->Nat->Rat)(m:Nat):∀n,sg (λk=>sg (λl=>f k l) m) n=sg (λl=>sg (λk=>f k l) n) m
 |0=>by
  show(0:Rat)=sg (λ_=>0) m;rw[j7]
 |n+1=>by
  show sg (λk=>sg (λl=>f k l) m) n+sg (λl=>f n l) m=sg (λl=>sg (λk=>f k l) n+f n l) m;rw[jA,Qi f m n]
theorem Oe(f:Nat->Int):∀n,((sz f n:Int):Rat)=sg (λk=>(f k:Rat)) n
 |0=>Qr
 |n+1=>by unfold sz sg;rw[Rat.intCast_add,Oe f n]
theorem Ku{f:Nat->Int}{B:Nat} : ∀{n},(∀k,k<n->(f k).natAbs<=B)->(sz f n).natAbs<=n*B
 |0,_=>by unfold sz;simp
 |n+1,h=>by
  unfold sz;have:=Ku (n:=n) λk hk=>h k (WV _ hk);have:=h n (X0 _);rw[Nat.add_mul,Nat.one_mul];omega
theorem acz(f g:Nat->Int):∀n,sz (λk=>f k-g k) n=sz f n-sz g n
 |0=>rfl
 |n+1=>by unfold sz;rw[acz f g n];lia
theorem Tt{f g:Nat->Int} : ∀{n},(∀j,j<n->f j=g j)->sz f n=sz g n
 |0,_=>rfl
 |n+1,h=>by unfold sz;rw[Tt λj hj=>h j (WV _ hj),h n (X0 _)]
theorem TQ{α:Type}(q:α->Bool):∀L:List α,(L.filter q).length+(L.filter λx=>!q x).length=L.length
 |[]=>rfl
 |x::L=>by
  have:=TQ q L;rw[List.filter_cons,List.filter_cons];cases h:q x with
  |true=>rw[ZY rfl,ZZ (by simp),List.length_cons,List.length_cons];lia
  |false=>rw[ZZ (by simp),ZY (by simp),List.length_cons,List.length_cons];lia
theorem Z5{α:Type}(f:α->Nat)(n:Nat):∀(W:Nat)(L:List α),(∀x∈L,f x<W)->W*n<L.length->∃v,n<(L.filter λx=>f x==v).length
 |0,L,h,hl=>by
  cases L with
  |nil=>simp at hl
  |cons x L=>exact absurd (h x aO) (WZ _)
 |W+1,L,h,hl=>by
  by_cases e:n<(L.filter λx=>f x==W).length
  .exact⟨W,e⟩
  .have pl:=TQ (λx=>f x==W) L;rw[Nat.add_mul,Nat.one_mul]at hl;obtain⟨v,hv⟩:=Z5 f n W (L.filter λx=>!(f x==W)) (λx hx=>by
    obtain⟨a,b⟩:=List.mem_filter.mp hx;have:=h x a;have ne:f x≠W:=λz=>by rw[z]at b;simp at b
    lia) (by omega)
   exact⟨v,aR hv (List.Sublist.length_le (List.Sublist.filter _ List.filter_sublist))⟩
theorem digits_inj{W:Nat}(hW:0<W):∀(n c d:Nat),c<W^n->d<W^n->(∀k,k<n->c/W^k%W=d/W^k%W)->c=d
 |0,c,d,hc,hd,_=>by
  rw[Nat.pow_zero]at hc hd;lia
 |n+1,c,d,hc,hd,h=>by
  have h0:=h 0 (TU _);rw[Nat.pow_zero,Nat.div_one,Nat.div_one]at h0;have e:=digits_inj hW n (c/W) (d/W) (Nat.div_lt_of_lt_mul (by rw[Nat.mul_comm,<- Nat.pow_succ];exact hc)) (Nat.div_lt_of_lt_mul (by rw[Nat.mul_comm,<- Nat.pow_succ];exact hd)) λk hk=>by
   have:=h (k+1) (Nat.succ_lt_succ hk);rw[Nat.div_div_eq_div_mul,Nat.div_div_eq_div_mul,<- Nat.pow_succ'];exact this
  rw[<- Nat.div_add_mod c W,<- Nat.div_add_mod d W,e,h0]
theorem Zm{p N:Nat}(hN:1<=N):(2*((p+1)*((2*(p+1)*N)^p*N))+1)^p<((2*(p+1)*N)^p+1)^(p+1):=by
 have w:2*((p+1)*((2*(p+1)*N)^p*N))+1<=2*(p+1)*N*((2*(p+1)*N)^p+1):=by
  have e:2*((p+1)*((2*(p+1)*N)^p*N))=2*(p+1)*N*(2*(p+1)*N)^p:=by ac_rfl
  have x1:1<=2*(p+1)*N:=UZ (show 1<=2*(p+1)by lia) hN;rw[e];generalize 2*(p+1)*N=X at *;rw[Nat.mul_add,Nat.mul_one];exact Nat.add_le_add_left x1 _
 refine Y3 (Nat.pow_le_pow_left w p) ?_;rw[Nat.mul_pow,Nat.pow_succ,Nat.mul_comm];exact Nat.mul_lt_mul_of_pos_left (X0 _) (Nat.pow_pos (TU _))
theorem aah{p N:Nat}{C:Nat->Nat->Int}(hN:1<=N)(hC:∀k l,k<=p->l<p->(C k l).natAbs<=N) :
  ∃a8:Nat->Int,(∃k,k<=p/\a8 k≠0)/\(∀k,(a8 k).natAbs<=(2*(p+1)*N)^p)/\∀l,l<p->sz (λk=>a8 k*C k l) (p+1)=0:=by
 have ps:=Zm (p:=p) hN;generalize hB:(2*(p+1)*N)^p=B at *;generalize hO:(p+1)*(B*N)=O at *;have ng:∀c k:Nat,c/(B+1)^k%(B+1)<=B:=λc k=>VW (Nat.mod_lt _ (TU _));have eb:∀l c,l<p->(sz (λk=>((c/(B+1)^k%(B+1):Nat):Int)*C k l) (p+1)).natAbs<=O:=λl c hl=>by
  rw[<- hO];refine Ku λk hk=>?_;rw[Up,XT];exact UZ (ng c k) (hC k l (VW hk) hl)
 have all:∀q,q<=p->∃L:List Nat,L.Nodup/\(∀c∈L,c<(B+1)^(p+1))/\(∀l,l<q->∀c∈L,∀d∈L,sz (λk=>((c/(B+1)^k%(B+1):Nat):Int)*C k l) (p+1)=sz (λk=>((d/(B+1)^k%(B+1):Nat):Int)*C k l) (p+1))/\(2*O+1)^(p-q)<L.length:=by
  intro q
  induction q with
  |zero=>exact λ_=>⟨List.range ((B+1)^(p+1)),List.nodup_range,λc hc=>List.mem_range.mp hc,λl hl=>absurd hl (WZ _),by rw[WP,Nat.sub_zero];exact ps⟩
  |succ q ih =>
   intro hq;obtain⟨L,nd,lt,eq,ln⟩:=ih (aL (Xs _) hq);have e1:(2*O+1)^(p-q)=(2*O+1)*(2*O+1)^(p-(q+1)):=by rw[<- Nat.pow_succ',show(p-(q+1)).succ=p-q by lia]
   rw[e1]at ln;obtain⟨v,hv⟩:=Z5 (λc=>(sz (λk=>((c/(B+1)^k%(B+1):Nat):Int)*C k q) (p+1)+O).toNat) _ _ L (λc _=>by
    have:=eb q c (aR (X0 _) hq);omega) ln
   refine⟨_,List.Pairwise.sublist List.filter_sublist nd,λc hc=>lt c (List.mem_filter.mp hc).1,λl hl c hc d hd=>?_,hv⟩;obtain⟨c1,c2⟩:=List.mem_filter.mp hc;obtain⟨d1,d2⟩:=List.mem_filter.mp hd;by_cases e:l<q
   .exact eq l e c c1 d d1
   .have e:l=q:=by lia
    subst e;have c2:=beq_iff_eq.mp c2;have d2:=beq_iff_eq.mp d2;have:=eb l c (aR hl hq);have:=eb l d (aR hl hq);omega
 obtain⟨L,nd,lt,eq,ln⟩:=all p (aG p);rw[Nat.sub_self,Nat.pow_zero]at ln
 match L,nd,lt,eq,ln with
 |c::d::L,nd,lt,eq,_ =>
  have ne:c≠d:=λz=>by
   rw[z]at nd;exact(List.nodup_cons.mp nd).1 aO
  refine⟨λk=>((c/(B+1)^k%(B+1):Nat):Int)-((d/(B+1)^k%(B+1):Nat):Int),?_,λk=>?_,λl hl=>?_⟩
  .by_cases h:∀k,k<p+1->c/(B+1)^k%(B+1)=d/(B+1)^k%(B+1)
   .exact absurd (digits_inj (TU B) (p+1) c d (lt c aO) (lt d (aJ _ aO)) h) ne
   .obtain⟨k,hk⟩:=Classical.not_forall.mp h;obtain⟨k1,k2⟩:=Classical.not_imp.mp hk;exact⟨k,by exact VW k1,λz=>k2 (by
     have z:((c/(B+1)^k%(B+1):Nat):Int)-((d/(B+1)^k%(B+1):Nat):Int)=0:=z;generalize c/(B+1)^k%(B+1)=x at *;generalize d/(B+1)^k%(B+1)=y at *;lia)⟩
  .have:=ng c k;have:=ng d k;show(((c/(B+1)^k%(B+1):Nat):Int)-((d/(B+1)^k%(B+1):Nat):Int)).natAbs<=B;omega
  .rw[Tt (g:=λk=>((c/(B+1)^k%(B+1):Nat):Int)*C k l-((d/(B+1)^k%(B+1):Nat):Int)*C k l) λk _=>Int.sub_mul _ _ _,acz,eq l hl c aO d (aJ _ aO)];exact Int.sub_self _
 |[_],_,_,_,ln=>exact absurd ln (by simp)
 |[],_,_,_,ln=>exact absurd ln (by simp)
structure gq(A:Nat->Nat->Int)(b:Nat->Int)(m wd:Nat)(R:Nat->Nat->Rat)(p:Nat)(pv s:Nat->Nat):Prop where
 pm:p<=m
 sm:∀i,i<m->s i<m
 pw:∀l,l<p->pv l<wd
 unit:∀i l,i<m->l<p->R i (pv l)=if i=l then 1 else 0
 dec:∀i j,i<m->j<wd->(A (s i) j:Rat)=(if i<p then 0 else(b (s i):Rat)*R i j)+sg (λl=>(A (s i) (pv l):Rat)*R l j) p
 ind:∀a8:Nat->Rat,(∀j,j<wd->sg (λk=>a8 k*(A (s k) j:Rat)) p=0)->∀k,k<p->a8 k=0
section
variable{A:Nat->Nat->Int}{b:Nat->Int}{m wd p:Nat}{R:Nat->Nat->Rat}{pv s:Nat->Nat}
theorem gq.comb(h:gq A b m wd R p pv s)(a8:Nat->Rat){j:Nat}(hj:j<wd):sg (λk=>a8 k*(A (s k) j:Rat)) p=sg (λl=>sg (λk=>a8 k*(A (s k) (pv l):Rat)) p*R l j) p:=by
 have pm:=h.pm;rw[cA (g:=λk=>sg (λl=>a8 k*(A (s k) (pv l):Rat)*R l j) p) λk hk=>?_]
 .rw[Qi];refine cA λl hl=>?_;rw[cA (g:=λk=>R l j*(a8 k*(A (s k) (pv l):Rat))) λk _=>Rat.mul_comm _ _,jd,Rat.mul_comm]
 .rw[h.dec k j (aR hk pm) hj,ZY hk,Rat.zero_add,<- jd];exact cA λl _=>(Rat.mul_assoc _ _ _).symm
theorem jm{x:Int}(h:x≠0):(x:Rat)≠0:=λz=>h (Rat.intCast_inj.mp (z.trans Rat.intCast_zero.symm))
theorem ajD{m N q:Nat}(hN:1<=N)(hq:q+1<=m):(2*(q+1)*N)^(q+1)<=(2*m*N)^m:=by
 have x:2*(q+1)*N<=2*m*N:=UZ (by lia) (aG N);have y:1<=2*m*N:=UZ (show 1<=2*m by lia) hN;exact aL (Nat.pow_le_pow_left x _) (XU y hq)
theorem adS{m N q:Nat}(hN:1<=N)(hq:q+1<=m):(q+1)*((2*(q+1)*N)^q*N)<=(2*m*N)^m:=by
 refine aL ?_ (ajD hN hq);have e:(2*(q+1)*N)^(q+1)=2*((q+1)*((2*(q+1)*N)^q*N)):=by
  rw[Nat.pow_succ];ac_rfl
 lia
theorem gq.bound{N:Nat}(h:gq A b m wd R p pv s)(hN:1<=N)(hA:∀i j,i<m->j<wd->(A i j).natAbs<=N)(hb:∀i,i<m->0<b i/\(b i).natAbs<=N){i:Nat}(hi:i<m) :
    ∃(v:Nat->Int)(u:Int),u≠0/\u.natAbs<=(2*m*N)^m/\(∀j,j<wd->(v j).natAbs<=(2*m*N)^m)/\∀j,j<wd->R i j*(u:Rat)=(v j:Rat):=by
  have pm:=h.pm;by_cases ip:i<p
  . obtain⟨q,rfl⟩ : ∃q,p=q+1:=⟨p-1,by lia⟩
    obtain⟨a8,⟨k0,eL,iF⟩,bl,zr⟩:=aah (p:=q) (C:=λk l=>A (s k) (if l<i then pv l else pv (l+1))) hN λk l hk hl=>by
      refine hA _ _ (h.sm k (by lia)) ?_;by_cases e:l<i
      . rw[ZY e];exact h.pw l (WV _ hl)
      . rw[ZZ e];exact h.pw (l+1) (Nat.succ_lt_succ hl)
    have cast:∀j,((sz (λk=>a8 k*A (s k) j) (q+1):Int):Rat)=sg (λk=>(a8 k:Rat)*(A (s k) j:Rat)) (q+1):=λj=>by
      rw[Oe];exact cA λk _=>XV _ _
    have zl:∀l,l<q+1->l≠i->sz (λk=>a8 k*A (s k) (pv l)) (q+1)=0:=λl hl ne=>by
      by_cases e:l<i
      . have:=zr l (aR e (VW ip))
        rw[ZY e]at this;exact this
      . have:=zr (l-1) (by omega)
        rw[ZZ (by lia),show l-1+1=l by lia]at this;exact this
    have eQ:∀j,j<wd->((sz (λk=>a8 k*A (s k) j) (q+1):Int):Rat)=((sz (λk=>a8 k*A (s k) (pv i)) (q+1):Int):Rat)*R i j:=λj hj=>by
      rw[cast,h.comb (λk=>(a8 k:Rat)) hj,cA (g:=λl=>(if l=i then 1 else 0)*(((sz (λk=>a8 k*A (s k) (pv i)) (q+1):Int):Rat)*R l j)) λl hl=>?_,j_,ZY ip];rw[<- cast (pv l)];by_cases e:l=i
      . rw[ZY e,e,Rat.one_mul]
      . rw[ZZ e,zl l hl e,Qr];grind
    refine⟨λj=>sz (λk=>a8 k*A (s k) j) (q+1),sz (λk=>a8 k*A (s k) (pv i)) (q+1),λz=>?_,?_,λj hj=>?_,λj hj=>?_⟩
    . have:=h.ind (λk=>(a8 k:Rat)) (λj hj=>by
        rw[<- cast,eQ j hj,z,Qr];grind) k0 (Y3 eL (X0 _))
      exact jm iF this
    . exact aL (Ku λk hk=>by rw[Up];exact UZ (bl k) (hA _ _ (h.sm k (aR hk pm)) (h.pw i ip))) (adS hN (by omega))
    . exact aL (Ku λk hk=>by rw[Up];exact UZ (bl k) (hA _ _ (h.sm k (aR hk pm)) hj)) (adS hN (by omega))
    . rw[eQ j hj,Rat.mul_comm]
  . obtain⟨a8,⟨k0,eL,iF⟩,bl,zr⟩:=aah (p:=p) (C:=λk l=>A (s (if k<p then k else i)) (pv l)) hN λk l hk hl=>by
      refine hA _ _ (h.sm _ ?_) (h.pw l hl);by_cases e:k<p
      . rw[ZY e];exact aR e pm
      . rw[ZZ e];exact hi
    have cast:∀j,((sz (λk=>a8 k*A (s (if k<p then k else i)) j) (p+1):Int):Rat)=sg (λk=>(a8 k:Rat)*(A (s k) j:Rat)) p+(a8 p:Rat)*(A (s i) j:Rat):=λj=>by
      rw[Oe];show sg _ p+((a8 p*A (s (if p<p then p else i)) j:Int):Rat)=_;rw[ZZ (X2 _),XV,cA (g:=λk=>(a8 k:Rat)*(A (s k) j:Rat)) λk hk=>by rw[ZY hk,XV]]
    have eQ:∀j,j<wd->((sz (λk=>a8 k*A (s (if k<p then k else i)) j) (p+1):Int):Rat)=((a8 p*b (s i):Int):Rat)*R i j:=λj hj=>by
      have e0:sg (λl=>sg (λk=>(a8 k:Rat)*(A (s k) (pv l):Rat)) p*R l j) p+(a8 p:Rat)*sg (λl=>(A (s i) (pv l):Rat)*R l j) p=0:=by
        rw[<- jd,<- jA,cA (g:=λ_=>0) λl hl=>?_,j7];have:=cast (pv l);rw[zr l hl,Qr]at this
        calc _=(sg (λk=>(a8 k:Rat)*(A (s k) (pv l):Rat)) p+(a8 p:Rat)*(A (s i) (pv l):Rat))*R l j:=by grind
          _=0:=by rw[<- this];grind
      rw[cast,h.comb (λk=>(a8 k:Rat)) hj,h.dec i j hi hj,ZZ ip,XV]
      grind
    have bp:=hb _ (h.sm i hi);have lp:a8 p≠0:=λz=>by
      have kp:k0<p:=by
        by_cases e:k0=p
        . rw[e,z]at iF;exact absurd rfl iF
        . exact XX eL e
      have:=h.ind (λk=>(a8 k:Rat)) (λj hj=>by
        have c:=cast j;rw[eQ j hj,z,Int.zero_mul,Qr]at c
        grind) k0 kp
      exact jm iF this
    refine⟨λj=>sz (λk=>a8 k*A (s (if k<p then k else i)) j) (p+1),a8 p*b (s i),λz=>?_,?_,λj hj=>?_,λj hj=>?_⟩
    . rcases Int.mul_eq_zero.mp z with y|y
      . exact lp y
      . lia
    . rw[Up]
      refine aL (UZ (bl p) bp.2) (aL ?_ (adS hN (show p+1<=m by lia)));exact Q4 _ (TU p)
    . exact aL (Ku λk hk=>by
        rw[Up];refine UZ (bl k) (hA _ _ (h.sm _ ?_) hj);by_cases e:k<p
        . rw[ZY e];exact aR e pm
        . rw[ZZ e];exact hi) (adS hN (show p+1<=m by lia))
    . rw[eQ j hj,Rat.mul_comm]
theorem gq.congr(h:gq A b m wd R p pv s){R':Nat->Nat->Rat}(e:∀i j,i<m->R i j=R' i j):gq A b m wd R' p pv s:=by
 have pm:=h.pm;refine⟨h.pm,h.sm,h.pw,λi l hi hl=>by rw[<- e i _ hi];exact h.unit i l hi hl,λi j hi hj=>?_,h.ind⟩;rw[h.dec i j hi hj,e i j hi,cA λl hl=>by rw[e l j (aR hl pm)]]
theorem gq.zero(hb:∀i,i<m->0<b i):gq A b m wd (λi j=>(A i j:Rat)/(b i:Rat)) 0 pv id:=by
 refine⟨aZ _,λi hi=>hi,λl hl=>absurd hl (WZ _),λi l _ hl=>absurd hl (WZ _),λi j hi hj=>?_,λa8 _ k hk=>absurd hk (WZ _)⟩;rw[ZZ (WZ _)];have:=jm (WS (hb i hi));show(A i j:Rat)=(b i:Rat)*((A i j:Rat)/(b i:Rat))+0
 grind
def sw(p q x:Nat):Nat:=if x=p then q else if x=q then p else x
theorem gq.swap(h:gq A b m wd R p pv s){q:Nat}(hp:p<=q)(hq:q<m){R':Nat->Nat->Rat}(hR:∀i j,i<m->j<wd->R' i j=R (sw p q i) j):gq A b m wd R' p pv (λi=>s (sw p q i)):=by
 have pm:=h.pm;have sl:∀l,l<p->sw p q l=l:=λl hl=>by unfold sw;rw[ZZ (aQ hl),ZZ (by lia)]
 have sm:∀i,i<m->sw p q i<m:=λi hi=>by
  unfold sw;split
  .exact hq
  .split<;>omega
 have sp:∀i,(sw p q i<p)↔i<p:=λi=>by
  unfold sw;split
  .lia
  .split<;>lia
 refine⟨pm,λi hi=>h.sm _ (sm i hi),h.pw,λi l hi hl=>?_,λi j hi hj=>?_,λa8 hz=>?_⟩
 .rw[hR i _ hi (h.pw l hl),h.unit _ l (sm i hi) hl];by_cases e:i=l
  .rw[ZY e,e,ZY (sl l hl)]
  .rw[ZZ e,ZZ λz=>e ?_];have:i<p:=(sp i).mp (Y3 (WJ z) hl);rw[<- z,sl i this]
 .rw[h.dec _ j (sm i hi) hj,hR i j hi hj]
  congr 1
  .by_cases e:i<p
   .rw[ZY e,ZY ((sp i).mpr e)]
   .rw[ZZ e,ZZ λz=>e ((sp i).mp z)]
  .exact cA λl hl=>by rw[hR l j (aR hl pm) hj,sl l hl]
 .exact h.ind a8 λj hj=>by
   rw[<- hz j hj];exact cA λk hk=>by rw[sl k hk]
theorem gq.pivot(h:gq A b m wd R p pv s)(hp:p<m)(hb:∀i,i<m->0<b i){c:Nat}(hc:c<wd)(h0:R p c≠0){R':Nat->Nat->Rat}(k6:∀j,j<wd->R' p j*R p c=R p j)(lP:∀i j,i<m->i≠p->j<wd->R' i j=R i j-R i c*R' p j) :
  gq A b m wd R' (p+1) (λl=>if l=p then c else pv l) s:=by
 have pm:=h.pm;have one:R' p c=1:=by
  have:=k6 c hc
  grind
 have zp:∀l,l<p->R' p (pv l)=0:=λl hl=>by
  have:=k6 (pv l) (h.pw l hl);rw[h.unit p l hp hl,ZZ (VT hl)]at this
  grind
 have pvl:∀l,l<p->(if l=p then c else pv l)=pv l:=λl hl=>ZZ (aQ hl);have old:∀i j,i<m->i≠p->j<wd->R i j=R' i j+R i c*R' p j:=λi j hi ne hj=>by rw[lP i j hi ne hj];grind
 have dec:∀i j,i<m->j<wd->(A (s i) j:Rat)=(if i<p+1 then 0 else(b (s i):Rat)*R' i j)+sg (λl=>(A (s i) (if l=p then c else pv l):Rat)*R' l j) (p+1):=λi j hi hj=>by
  have dj:=h.dec i j hi hj;have dc:=h.dec i c hi hc;have ej:sg (λl=>(A (s i) (pv l):Rat)*R l j) p=sg (λl=>(A (s i) (pv l):Rat)*R' l j) p+R' p j*sg (λl=>(A (s i) (pv l):Rat)*R l c) p:=by
   rw[<- jd,<- jA];exact cA λl hl=>by rw[old l j (Tu hl hp) (aQ hl) hj];grind
  rw[ej]at dj;show _=_+(sg _ p+(A (s i) (if p=p then c else pv p):Rat)*R' p j);rw[ZY rfl,cA (g:=λl=>(A (s i) (pv l):Rat)*R' l j) λl hl=>by rw[pvl l hl]];by_cases e:i<p
  .rw[ZY (WV _ e)];rw[ZY e]at dj dc
   grind
  .rw[ZZ e]at dj dc;by_cases e2:i=p
   .rw[ZY (by lia)];subst e2;have:=k6 j hj
    grind
   .rw[ZZ (by lia)];have:=old i j hi e2 hj
    grind
 refine⟨hp,h.sm,λl hl=>?_,λi l hi hl=>?_,dec,λa8 hz=>?_⟩
 .by_cases e:l=p
  .show(if l=p then c else pv l)<wd;rw[ZY e];exact hc
  .show(if l=p then c else pv l)<wd;rw[ZZ e];exact h.pw l (XX (VW hl) e)
 .show R' i (if l=p then c else pv l)=_;by_cases e:l=p
  .rw[ZY e,e];by_cases ip:i=p
   .rw[ZY ip,ip];exact one
   .rw[ZZ ip,lP i c hi ip hc,one];grind
  .rw[ZZ e];have ib:l<p:=by exact XX (VW hl) e
   by_cases ip:i=p
   .rw[ip,zp l ib,ZZ (Ne.symm e)]
   .rw[lP i _ hi ip (h.pw l ib),zp l ib,h.unit i l hi ib];grind
 .have lp:a8 p=0:=by
   by_cases z:a8 p=0
   .exact z
   .exfalso

    have hj:∀j,j<wd->sg (λk=>a8 k*(A (s k) j:Rat)) p=-(a8 p*(A (s p) j:Rat)):=λj hj=>by
     have:sg (λk=>a8 k*(A (s k) j:Rat)) p+a8 p*(A (s p) j:Rat)=0:=hz j hj
     grind
    have dq:=h.comb a8 hc;rw[hj c hc,cA (g:=λl=>-(a8 p)*((A (s p) (pv l):Rat)*R l c)) λl hl=>by rw[hj _ (h.pw l hl)];grind,jd]at dq;have dc:=h.dec p c hp hc;rw[ZZ (X2 p)]at dc;have b0:=jm (WS (hb _ (h.sm p hp)));have:a8 p*((b (s p):Rat)*R p c)=0:=by rw[dc]at dq;grind
    grind
  intro k hk;by_cases e:k=p
  .rw[e];exact lp
  .refine h.ind a8 (λj hj=>?_) k (XX (VW hk) e);have:sg (λk=>a8 k*(A (s k) j:Rat)) p+a8 p*(A (s p) j:Rat)=0:=hz j hj;rw[lp]at this
   grind
end
def vr(r:List Int×Int)(j:Nat):Rat:=((r.1.getD j 0:Int):Rat)/(r.2:Rat)
theorem M6{f:Int->Int}(h0:f 0=0)(xs:List Int)(j:Nat):(xs.map f).getD j 0=f (xs.getD j 0):=by
 rw[au,au,aq];cases xs[j]? with
 |none=>exact h0.symm
 |some t=>rfl
theorem qP{r:List Int×Int}(h:0<r.2)(j:Nat):vr (jC r) j=vr r j:=by
 have g0:=iD (ts:=r.1) h;obtain⟨d1,d2⟩:=iw (ts:=r.1) (b:=r.2);have e1:(jC r).1.getD j 0=r.1.getD j 0/gcL r.1 r.2:=M6 (f:=λt=>t/gcL r.1 r.2) (Int.zero_ediv _) r.1 j;have d3:gcL r.1 r.2 ∣ r.1.getD j 0:=by
  rw[au];cases e:r.1[j]? with
  |none=>exact⟨0,by rw[Int.mul_zero];rfl⟩
  |some t=>exact d2 t (aC e)
 have e2:(jC r).2=r.2/gcL r.1 r.2:=rfl;unfold vr;rw[e1,e2];generalize r.1.getD j 0=t at *;generalize gcL r.1 r.2=g at *;obtain⟨u,hu⟩:=d3;obtain⟨v,hv⟩:=d1;rw[hu,hv,QY _ (WS g0),QY _ (WS g0),XV,XV];have v0:v≠0:=λz=>by rw[hv,z,Int.mul_zero]at h;lia
 have:=jm v0;have:=jm (WS g0)
 grind
theorem kW{r:List Int×Int}{c:Β}(h:0<r.2)(hc:0<c.2)(j:Nat):vr (je r c) j=vr r j*((c.1:Rat)/(c.2:Rat)):=by
 have e1:(je r c).1.getD j 0=r.1.getD j 0*c.1:=M6 (f:=λt=>t*c.1) (Int.zero_mul _) r.1 j;have e2:(je r c).2=r.2*c.2:=rfl;unfold vr;rw[e1,e2,XV,XV];have:=jm (WS h);have:=jm (WS hc)
 grind
theorem oF{r p:List Int×Int}{c:Β}(hr:0<r.2)(hp:0<p.2)(hc:0<c.2)(hl:r.1.length=p.1.length)(j:Nat):vr (oR r p c) j=vr r j+((c.1:Rat)/(c.2:Rat))*vr p j:=by
 have hB:=XZ hp hc;have g0:=ajM (t:=r.2) hB;obtain⟨u,hu⟩:=Int.gcd_dvd_left r.2 (p.2*c.2);obtain⟨v,hv⟩:=T2 r.2 (p.2*c.2);have es:oR r p c=(List.zipWith (λx y=>x*v+y*(u*c.1)) r.1 p.1,r.2*v):=by
  unfold oR;generalize((Int.gcd r.2 (p.2*c.2):Nat):Int)=g at g0 hu hv ⊢;have e1:p.2*c.2/g=v:=by rw[hv,QY _ (WS g0)]
  have e2:r.2/g=u:=by
   conv=>lhs;rw[hu]
   exact QY _ (WS g0)
  rw[e1,e2]
 generalize((Int.gcd r.2 (p.2*c.2):Nat):Int)=g at g0 hu hv;have v0:0<v:=Int.pos_of_mul_pos_right (by rw[<- hv];exact hB) g0;have ez:(List.zipWith (λx y=>x*v+y*(u*c.1)) r.1 p.1).getD j 0=r.1.getD j 0*v+p.1.getD j 0*(u*c.1):=by
  rw[au,au,au,Q1];by_cases e:j<r.1.length
  .rw[aj e,aj (aR e (WJ hl))];rfl
  .rw[aM (VU e),aM (by lia)];show(0:Int)=0*v+0*(u*c.1);rw[Int.zero_mul,Int.zero_mul];rfl
 rw[es];unfold vr;show((List.zipWith (λx y=>x*v+y*(u*c.1)) r.1 p.1).getD j 0:Rat)/((r.2*v:Int):Rat)=_;rw[ez];generalize r.1.getD j 0=x;generalize p.1.getD j 0=y;have hu':(r.2:Rat)=(g:Rat)*(u:Rat):=by rw[<- XV,<- hu]
 have k4:(p.2:Rat)*(c.2:Rat)=(g:Rat)*(v:Rat):=by rw[<- XV,<- XV,hv]
 have r0:=jm (WS hr);have p0:=jm (WS hp);have c0:=jm (WS hc);have q0:=jm (WS v0);have k0:=jm (WS g0);rw[Rat.intCast_add,XV,XV,XV,XV];generalize(r.2:Rat)=r2 at *;generalize(p.2:Rat)=p2 at *;generalize(c.2:Rat)=c2 at *;generalize(c.1:Rat)=c1 at *;generalize(g:Rat)=gg at *;generalize(u:Rat)=uu at *;generalize(v:Rat)=vv at *;generalize(x:Rat)=xx at *;generalize(y:Rat)=yy at *;have e1:(xx*vv+yy*(uu*c1))/(r2*vv)=xx/r2+yy*(uu*c1)/(r2*vv):=by grind
 have e2:yy*(uu*c1)/(r2*vv)=c1/c2*(yy/p2):=by
  have:uu*(c2*p2)=r2*vv:=by rw[hu',Rat.mul_comm c2 p2,k4];grind
  grind
 rw[e1,e2]
theorem oH{M wd:Nat}{r:List Int×Int}(hr:0<r.2)(g:gcL r.1 r.2=1)(hw:r.1.length=wd){v:Nat->Int}{u:Int}(u0:u≠0)(ub:u.natAbs<=M)(vb:∀j,j<wd->(v j).natAbs<=M)(e:∀j,j<wd->vr r j*(u:Rat)=(v j:Rat)):Big M r:=by
 refine least (s:=((List.range wd).map λj=>v j*u.sign,u.natAbs)) hr g ⟨?_,λk a b ha hb=>?_⟩ ⟨?_,?_,λt ht=>?_⟩
 .show r.1.length=((List.range wd).map λj=>v j*u.sign).length;rw[hw,ak,WP]
 .have kw:k<wd:=by rw[<- hw];exact(ao.mp ha).1
  have hb:((List.range wd).map λj=>v j*u.sign)[k]?=some b:=hb;rw[aq,VZ kw]at hb;cases hb;show a*((u.natAbs:Nat):Int)=v k*u.sign*r.2;have ek:=e k kw;unfold vr at ek;rw[au,ha]at ek;have ek:(a:Rat)/(r.2:Rat)*(u:Rat)=(v k:Rat):=ek;have r0:=jm (WS hr);have k2:a*u=v k*r.2:=by
   refine Rat.intCast_inj.mp ?_;rw[XV,XV]
   grind
  have k1:((u.natAbs:Nat):Int)=u*u.sign:=(Int.mul_sign_self u).symm;rw[k1,<- Int.mul_assoc,k2];ac_rfl
 .show(0:Int)<(u.natAbs:Nat);lia
 .show(((u.natAbs:Nat):Int)).natAbs<=M;rw[XT];exact ub
 .obtain⟨j,hj,rfl⟩:=YV.mp ht;rw[Up,Int.natAbs_sign_of_ne_zero u0,Nat.mul_one];exact vb j (List.mem_range.mp hj)
end Rw
namespace K40
open PySem PyProof.Rows L2
abbrev Ce:Stmt:=top 9
abbrev oU:Str:="is_whole"
theorem Uq:bM Vt jq (bI Ce):=fsc
abbrev Gr:Stmt:=top 10
abbrev lO:Str:="divisor"
theorem Xa:bM M5 cM (bI Gr):=fsc
abbrev Oa:Stmt:=top 14
abbrev qG:Str:="ratio"
theorem aaF:bM RZ m_ (bI Oa):=fsc
abbrev BX:Stmt:=top 15
abbrev oX:Str:="is_ratio"
theorem Sq:bM Bt jM (bI BX):=fsc
abbrev WQ:Stmt:=top 16
abbrev Ou:Str:="plus"
theorem ac0:bM ag5 C_ (bI WQ):=fsc
abbrev R5:Stmt:=top 17
abbrev yJ:Str:="minus"
theorem acr:bM adY qz (bI R5):=fsc
abbrev QM:Stmt:=top 18
abbrev KN:Str:="times"
theorem abT:bM ad4 yO (bI QM):=fsc
abbrev VG:Stmt:=top 19
abbrev N7:Str:="over"
theorem aec:bM af9 CP (bI VG):=fsc
abbrev Rz:Stmt:=top 20
abbrev uG:Str:="under"
theorem aa8:bM aek oV (bI Rz):=fsc
abbrev H_:Stmt:=top 22
abbrev uJ:Str:="level"
theorem aa2:bM XQ oY (bI H_):=fsc
abbrev NT:Stmt:=top 23
abbrev Ks:Str:="total"
theorem aaD:bM RN yh (bI NT):=fsc
abbrev Bx:Stmt:=top 24
abbrev oW:Str:="greatest"
theorem Tg:bM ql lV (bI Bx):=fsc
abbrev Ql:Stmt:=top 25
abbrev yj:Str:="least"
theorem acw:bM acO uK (bI Ql):=fsc
abbrev pU:Stmt:=top 27
abbrev oM:Str:="first_plan"
theorem Lf:bM vd i_ (bI pU):=fsc
abbrev lA:Stmt:=top 28
abbrev rJ:Str:="behind_door"
theorem JW:bM kO jQ (bI lA):=fsc
abbrev Dy:Stmt:=top 30
abbrev Ah:Str:="lowest"
theorem Zo:bM Vg qe (bI Dy):=fsc
abbrev sW:Stmt:=top 31
abbrev wJ:Str:="row_times"
theorem O4:bM zj mY (bI sW):=fsc
abbrev vf:Stmt:=top 32
abbrev yc:Str:="row_plus"
theorem Gx:bM Ca oO (bI vf):=fsc
abbrev xQ:Stmt:=top 33
abbrev vC:Str:="take_step"
theorem QH:bM zU ni (bI xQ):=fsc
abbrev yW:Stmt:=top 34
abbrev pY:Str:="number_at"
theorem RD:bM yH jV (bI yW):=fsc
abbrev jJ:Stmt:=top 35
abbrev pq:Str:="fractions_of"
theorem Hw:bM jP iK (bI jJ):=fsc
abbrev uX:Stmt:=top 36
abbrev ux:Str:="first_from"
theorem Mt:bM Dg kE (bI uX):=fsc
abbrev PJ:Stmt:=top 37
abbrev DG:Str:="go_on"
theorem Z0:bM Qq uQ (bI PJ):=fsc
abbrev zA:Stmt:=top 38
abbrev wu:Str:="begin_row"
theorem Oh:bM GR mD (bI zA):=fsc
abbrev rK:Stmt:=top 39
abbrev o_:Str:="clear_column"
theorem Ho:bM yr iH (bI rK):=fsc
abbrev Af:Stmt:=top 40
abbrev Bu:Str:="reduced"
theorem I_:bM Ft rF (bI Af):=fsc
abbrev Cu:Stmt:=top 42
abbrev zm:Str:="width_of"
theorem Uu:bM VF oN (bI Cu):=fsc
abbrev oA:Stmt:=top 43
abbrev qW:Str:="with_rights"
theorem JQ:bM um jx (bI oA):=fsc
abbrev sH:Stmt:=top 44
abbrev vI:Str:="begins_of"
theorem Et:bM xT mQ (bI sH):=fsc
abbrev Gi:Stmt:=top 45
abbrev Cd:Str:="odd_row"
theorem VD:bM Ge qL (bI Gi):=fsc
abbrev yd:Stmt:=top 46
abbrev wI:Str:="answer_of"
theorem Rh:bM GQ m7 (bI yd):=fsc
abbrev kY:Stmt:=top 47
abbrev rR:Str:="single_rows"
theorem Jq:bM kj jo (bI kY):=fsc
abbrev tD:Stmt:=top 48
abbrev qx:Str:="only_answer"
theorem J2:bM Bf jr (bI tD):=fsc
abbrev vA:Stmt:=top 50
abbrev fG:Str:="goal_marks"
theorem La:bM vD cZ (bI vA):=fsc
abbrev qm:Stmt:=top 51
abbrev jH:Str:="leads_of"
theorem UW:bM qT gw (bI qm):=fsc
abbrev Ia:Stmt:=top 52
abbrev zO:Str:="meets"
theorem aaU:bM Qj qH (bI Ia):=fsc
abbrev Al:Stmt:=top 53
abbrev jG:Str:="by_some"
theorem W0:bM Ga iy (bI Al):=fsc
abbrev z8:Stmt:=top 54
abbrev lU:Str:="by_each"
theorem V5:bM Fw jw (bI z8):=fsc
abbrev nH:Stmt:=top 55
abbrev gZ:Str:="steps_to"
theorem xX:bM qI fH (bI nH):=fsc
abbrev qM:Stmt:=top 56
abbrev o9:Str:="fewest_steps"
theorem Hh:bM fK iM (bI qM):=fsc
abbrev qw:Stmt:=top 57
abbrev pG:Str:="forced_steps"
theorem Hg:bM KC iW (bI qw):=fsc
abbrev qg:Stmt:=top 58
abbrev Ck:Str:="staying"
theorem Vq:bM nZ rN (bI qg):=fsc
abbrev pX:Stmt:=top 59
abbrev tK:Str:="sure_rooms"
theorem Bo:bM vN kJ (bI pX):=fsc
abbrev kI:Stmt:=top 60
abbrev qF:Str:="fated_rooms"
theorem zc:bM lB jD (bI kI):=fsc
abbrev mJ:Stmt:=top 62
abbrev pB:Str:="chosen_doors"
theorem G9:bM qK iI (bI mJ):=fsc
abbrev zB:Stmt:=top 63
abbrev vW:Str:="left_rows"
theorem QK:bM GF nF (bI zB):=fsc
abbrev jZ:Stmt:=top 65
abbrev tO:Str:="on_the_way"
theorem Bm:bM iC lg (bI jZ):=fsc
abbrev mV:Stmt:=top 66
abbrev pA:Str:="plan_chances"
theorem wU:bM qX iT (bI mV):=fsc
abbrev uE:Stmt:=top 67
abbrev rA:Str:="picked_door"
theorem Kw:bM uc jL (bI uE):=fsc
abbrev oG:Stmt:=top 68
abbrev rE:Str:="turned_plan"
theorem J8:bM uD jB (bI oG):=fsc
abbrev Fp:Stmt:=top 69
abbrev vH:Str:="settled"
theorem Wb:bM Nx nR (bI Fp):=fsc
abbrev nq:Stmt:=top 70
abbrev pH:Str:="keeping_plan"
theorem Hl:bM rH iU (bI nq):=fsc
abbrev lN:Stmt:=top 71
abbrev kh:Str:="greatest_chances"
theorem Ao:bM Cg fj (bI lN):=fsc
abbrev pF:Stmt:=top 72
abbrev nY:Str:="least_chances"
theorem Fd:bM G3 gR (bI pF):=fsc
abbrev z_:Stmt:=top 75
abbrev qN:Str:="is_word"
theorem WD:bM Gh lR (bI z_):=fsc
abbrev vL:Stmt:=top 77
abbrev n_:Str:="check_head"
theorem Ms:bM vX iZ (bI vL):=fsc
abbrev mG:Stmt:=top 78
abbrev ig:Str:="check_room_name"
theorem Cv:bM CN eE (bI mG):=fsc
abbrev rD:Stmt:=top 79
abbrev lF:Str:="check_chance"
theorem G_:bM KQ f9 (bI rD):=fsc
abbrev ou:Stmt:=top 80
abbrev qp:Str:="check_pairs"
theorem KD:bM tW jz (bI ou):=fsc
abbrev oh:Stmt:=top 81
abbrev qy:Str:="joined_ways"
theorem Jg:bM Ay jy (bI oh):=fsc
abbrev tH:Stmt:=top 88
abbrev rQ:Str:="check_share"
theorem K5:bM Mj jF (bI tH):=fsc
abbrev wH:Stmt:=top 89
abbrev uy:Str:="numbers_of"
theorem Mh:bM vU lC (bI wH):=fsc
abbrev pI:Stmt:=top 90
abbrev nP:Str:="numbered_ways"
theorem Fe:bM wW gK (bI pI):=fsc
abbrev yI:Stmt:=top 91
abbrev u_:Str:="offers_of"
theorem Pq:bM GD nu (bI yI):=fsc
abbrev VN:Stmt:=top 94
abbrev Ij:Str:="_law_cell"
theorem ade:bM Wt Ai (bI VN):=fsc
abbrev Jy:Stmt:=top 95
abbrev nU:Str:="_law_stream"
theorem Zx:bM U8 j6 (bI Jy):=fsc
abbrev acF:Stmt:=top 96
abbrev R3:Str:="_law_gcd"
theorem aay:bM afa Gd (bI acF):=fsc
abbrev J5:Stmt:=top 97
abbrev FP:Str:="_law_ratio"
theorem YL:bM UL uM (bI J5):=fsc
abbrev Am:Stmt:=top 98
abbrev Jm:Str:="_law_names"
theorem Z4:bM v7 wZ (bI Am):=fsc
abbrev BL:Stmt:=top 99
abbrev PB:Str:="_law_door"
theorem P_:bM v8 Eo (bI BL):=fsc
abbrev Im:Stmt:=top 100
abbrev Jr:Str:="_law_doors"
theorem Vj:bM Rr xY (bI Im):=fsc
abbrev Eb:Stmt:=top 101
abbrev Jd:Str:="_law_built"
theorem Vh:bM DQ xM (bI Eb):=fsc
abbrev RM:Stmt:=top 102
abbrev Od:Str:="_law_hall"
theorem ad3:bM W8 Cz (bI RM):=fsc
abbrev Wn:Stmt:=top 103
abbrev P0:Str:="_law_size"
theorem aev:bM Wy Dr (bI Wn):=fsc
abbrev Iv:Stmt:=top 104
abbrev Jk:Str:="_law_goals"
theorem aam:bM N5 zZ (bI Iv):=fsc
abbrev RX:Stmt:=top 105
abbrev IW:Str:="_law_whole"
theorem acg:bM Ej xU (bI RX):=fsc
abbrev uh:Stmt:=top 106
abbrev q_:Str:="_law_is_fraction"
theorem JG:bM Lz jK (bI uh):=fsc
abbrev sU:Stmt:=top 107
abbrev u9:Str:="_law_fractions"
theorem QF:bM yQ mO (bI sU):=fsc
abbrev O5:Stmt:=top 108
abbrev K4:Str:="_law_asked"
theorem abX:bM Yk yX (bI O5):=fsc
abbrev Ib:Stmt:=top 109
abbrev Js:Str:="_law_right"
theorem aaW:bM RV zH (bI Ib):=fsc
abbrev Xx:Stmt:=top 110
abbrev WY:Str:="law"
theorem acB:bM ae6 Ob (bI Xx):=fsc
abbrev xZ:Stmt:=gY 82 0
abbrev CQ:Str:="__init__"
abbrev Cy:Str:="Door.__init__"
theorem RK:bM zT jT (bI xZ):=fsc
abbrev yK:Stmt:=gY 82 1
abbrev Dz:Str:="ways"
abbrev CJ:Str:="Door.ways"
theorem RW:bM Vd mX (bI yK):=fsc
abbrev yq:Stmt:=gY 83 0
abbrev Dl:Str:="__init__"
abbrev Du:Str:="Sure.__init__"
theorem Pu:bM yR mK (bI yq):=fsc
abbrev vB:Stmt:=gY 84 0
abbrev Ba:Str:="__init__"
abbrev Az:Str:="Mixed.__init__"
theorem Mw:bM vq gF (bI vB):=fsc
abbrev zM:Stmt:=gY 85 0
abbrev Ew:Str:="__init__"
abbrev El:Str:="Toss.__init__"
theorem Rx:bM Gy m5 (bI zM):=fsc
abbrev sE:Stmt:=gY 86 0
abbrev DY:Str:="__init__"
abbrev Dh:Str:="Even.__init__"
theorem Pj:bM yE m9 (bI sE):=fsc
abbrev su:Stmt:=gY 92 0
abbrev DP:Str:="__init__"
abbrev CV:Str:="Hall.__init__"
theorem Ro:bM w5 mW (bI su):=fsc
abbrev zQ:Stmt:=gY 92 1
abbrev Ei:Str:="size"
abbrev CT:Str:="Hall.size"
theorem PN:bM U6 gB (bI zQ):=fsc
abbrev m6:Stmt:=gY 92 4
abbrev qJ:Str:="check_room"
abbrev qY:Str:="Hall.check_room"
theorem BK:bM Ey d8 (bI m6):=fsc
abbrev oJ:Stmt:=gY 92 6
abbrev zP:Str:="offers"
abbrev zF:Str:="Hall.offers"
theorem Je:bM tL eU (bI oJ):=fsc
structure Adr where
 Door:Addr
 Sure:Addr
 Mixed:Addr
 Toss:Addr
 Even:Addr
 Hall:Addr
 NOUGHT:Addr
 ONE:Addr
 Door_init:Addr
 Door_ways:Addr
 Sure_init:Addr
 Mixed_init:Addr
 Toss_init:Addr
 Even_init:Addr
 Hall_init:Addr
 Hall_size:Addr
 Hall_check_room:Addr
 Hall_offers:Addr
structure Txt(K:Frag)(mg:Str->Ω)(D:Adr):Prop where
 abR:mg "Door"=some (.ref D.Door)
 agp:mg "Even"=some (.ref D.Even)
 afs:mg "Hall"=some (.ref D.Hall)
 Rm:mg "Mixed"=some (.ref D.Mixed)
 k_:mg "NOUGHT"=some (.ref D.NOUGHT)
 A_:mg "ONE"=some (.ref D.ONE)
 agy:mg "Sure"=some (.ref D.Sure)
 agO:mg "Toss"=some (.ref D.Toss)
 K8:∃u,mg "LONGEST_WORD"=some u/\RelV (.int 8) u
 iY:∀H,SqT K H D.NOUGHT [.int 0,.int 1]
 uf:∀H,SqT K H D.ONE [.int 1,.int 1]
 aaw:Cls K D.Door
 Qo:Meth K D.Door "ways" D.Door_ways
 Lg:cB K D.Door "leads"
 Oi:cB K D.Door "name"
 HD:cB K D.Door "numbers"
 G8:cB K D.Door "offered"
 Uy:cB K D.Door "pay"
 MJ:cB K D.Door "share"
 ad9:Mk K D.Sure D.Sure_init
 abn:Cls K D.Sure
 RG:Meth K D.Sure "ways" D.Door_ways
 Le:cB K D.Sure "leads"
 Rp:cB K D.Sure "name"
 Hj:cB K D.Sure "numbers"
 Hy:cB K D.Sure "offered"
 S7:cB K D.Sure "pay"
 Mf:cB K D.Sure "share"
 aaQ:Mk K D.Mixed D.Mixed_init
 YX:Cls K D.Mixed
 Ly:Meth K D.Mixed "ways" D.Door_ways
 JV:cB K D.Mixed "leads"
 Lp:cB K D.Mixed "name"
 Gm:cB K D.Mixed "numbers"
 Gu:cB K D.Mixed "offered"
 Qy:cB K D.Mixed "pay"
 Jb:cB K D.Mixed "share"
 aef:Mk K D.Toss D.Toss_init
 abd:Cls K D.Toss
 N8:Meth K D.Toss "ways" D.Door_ways
 Ma:cB K D.Toss "leads"
 Ph:cB K D.Toss "name"
 G7:cB K D.Toss "numbers"
 Hx:cB K D.Toss "offered"
 S8:cB K D.Toss "pay"
 Mu:cB K D.Toss "share"
 adP:Mk K D.Even D.Even_init
 aaT:Cls K D.Even
 Qu:Meth K D.Even "ways" D.Door_ways
 Lx:cB K D.Even "leads"
 QL:cB K D.Even "name"
 HJ:cB K D.Even "numbers"
 Hu:cB K D.Even "offered"
 Sg:cB K D.Even "pay"
 LQ:cB K D.Even "share"
 aea:Mk K D.Hall D.Hall_init
 jN:Cls K D.Hall
 qZ:Meth K D.Hall "check_room" D.Hall_check_room
 mR:Meth K D.Hall "offers" D.Hall_offers
 pQ:Meth K D.Hall "size" D.Hall_size
 Lk:cB K D.Hall "leads"
 Oj:cB K D.Hall "name"
 HW:cB K D.Hall "numbers"
 HX:cB K D.Hall "offered"
 Vk:cB K D.Hall "pay"
 Mp:cB K D.Hall "share"
 Dq:GZ K D.Door "__init__" D.Door_init
 QV:Bw K CQ Cy xZ jT D.Door_init
 RL:Bw K Dz CJ yK mX D.Door_ways
 Qh:Bw K Dl Du yq mK D.Sure_init
 Bh:GZ K D.Mixed "__init__" D.Mixed_init
 K9:Bw K Ba Az vB gF D.Mixed_init
 Rk:Bw K Ew El zM m5 D.Toss_init
 Qk:Bw K DY Dh sE m9 D.Even_init
 NQ:Bw K DP CV su mW D.Hall_init
 Qx:Bw K Ei CT zQ gB D.Hall_size
 Cq:Bw K qJ qY m6 d8 D.Hall_check_room
 K3:Bw K zP zF oJ eU D.Hall_offers
 Ut:mg "abs"=none
 Xr:mg "all"=none
 ae2:mg "any"=none
 abt:mg "bool"=none
 g8:mg "enumerate"=none
 acj:mg "int"=none
 gA:mg "isinstance"=none
 gD:mg "len"=none
 vJ:mg "list"=none
 akR:mg "min"=none
 gJ:mg "range"=none
 aad:mg "sorted"=none
 alq:mg "str"=none
 acd:mg "sum"=none
 Xh:mg "tuple"=none
 UJ:mg "zip"=none
 VB:cI K mg oU Ce jq
 Zv:cI K mg lO Gr cM
 adu:cI K mg qG Oa m_
 VL:cI K mg oX BX jM
 afN:cI K mg Ou WQ C_
 adI:cI K mg yJ R5 qz
 aeB:cI K mg KN QM yO
 ahp:cI K mg N7 VG CP
 adx:cI K mg uG Rz oV
 aez:cI K mg uJ H_ oY
 f_total:cI K mg Ks NT yh
 W7:cI K mg oW Bx lV
 ad0:cI K mg yj Ql uK
 Qp:cI K mg oM pU i_
 Ml:cI K mg rJ lA jQ
 aa0:cI K mg Ah Dy qe
 Tc:cI K mg wJ sW mY
 Wz:cI K mg yc vf oO
 U7:cI K mg vC xQ ni
 T3:cI K mg pY yW jV
 Jj:cI K mg pq jJ iK
 R4:cI K mg ux uX kE
 adL:cI K mg DG PJ uQ
 Vb:cI K mg wu zA mD
 JL:cI K mg o_ rK iH
 Zu:cI K mg Bu Af rF
 V9:cI K mg zm Cu oN
 MF:cI K mg qW oA jx
 SQ:cI K mg vI sH mQ
 Y9:cI K mg Cd Gi qL
 U_:cI K mg wI yd m7
 Ln:cI K mg rR kY jo
 L_:cI K mg qx tD jr
 Rf:cI K mg fG vA cZ
 Ww:cI K mg jH qm gw
 adU:cI K mg zO Ia qH
 Zc:cI K mg jG Al iy
 YM:cI K mg lU z8 jw
 V0:cI K mg gZ nH fH
 J1:cI K mg o9 qM iM
 JM:cI K mg pG qw iW
 YT:cI K mg Ck qg rN
 Rb:cI K mg tK pX kJ
 Mx:cI K mg qF kI jD
 Jz:cI K mg pB mJ iI
 TF:cI K mg vW zB nF
 Q0:cI K mg tO jZ lg
 Kv:cI K mg pA mV iT
 Lj:cI K mg rA uE jL
 Lq:cI K mg rE oG jB
 Yx:cI K mg vH Fp nR
 J7:cI K mg pH nq iU
 BZ:cI K mg kh lN fj
 Hv:cI K mg nY pF gR
 Zd:cI K mg qN z_ lR
 Ol:cI K mg n_ vL iZ
 Eu:cI K mg ig mG eE
 JC:cI K mg lF rD f9
 Lb:cI K mg qp ou jz
 Lr:cI K mg qy oh jy
 Li:cI K mg rQ tH jF
 Qg:cI K mg uy wH lC
 G6:cI K mg nP pI gK
 Sv:cI K mg u_ yI nu
 agf:cI K mg Ij VN Ai
 aac:cI K mg nU Jy j6
 akI:cI K mg R3 acF Gd
 aae:cI K mg FP J5 uM
 ady:cI K mg Jm Am wZ
 agE:cI K mg PB BL Eo
 aes:cI K mg Jr Im xY
 acZ:cI K mg Jd Eb xM
 aht:cI K mg Od RM Cz
 agX:cI K mg P0 Wn Dr
 adF:cI K mg Jk Iv zZ
 aeu:cI K mg IW RX xU
 LK:cI K mg q_ uh jK
 SX:cI K mg u9 sU mO
 adQ:cI K mg K4 O5 yX
 adg:cI K mg Js Ib zH
def Fam(D:Adr)(C:Addr):Prop:=C=D.Door\/C=D.Sure\/C=D.Mixed\/C=D.Toss\/C=D.Even\/C=D.Hall
theorem Txt.cl{K:Frag}{mg:Str->Ω}{D:Adr}(T:Txt K mg D):∀C,Fam D C->Cls K C:=by
 rintro C (rfl|rfl|rfl|rfl|rfl|rfl)
 .exact T.aaw
 .exact T.abn
 .exact T.YX
 .exact T.abd
 .exact T.aaT
 .exact T.jN
theorem Txt.Ez{K:Frag}{mg:Str->Ω}{D:Adr}(T:Txt K mg D):∀C,Fam D C->cB K C "leads":=by
 rintro C (rfl|rfl|rfl|rfl|rfl|rfl)
 .exact T.Lg
 .exact T.Le
 .exact T.JV
 .exact T.Ma
 .exact T.Lx
 .exact T.Lk
theorem Txt.Ih{K:Frag}{mg:Str->Ω}{D:Adr}(T:Txt K mg D):∀C,Fam D C->cB K C "name":=by
 rintro C (rfl|rfl|rfl|rfl|rfl|rfl)
 .exact T.Oi
 .exact T.Rp
 .exact T.Lp
 .exact T.Ph
 .exact T.QL
 .exact T.Oj
theorem Txt.Ci{K:Frag}{mg:Str->Ω}{D:Adr}(T:Txt K mg D):∀C,Fam D C->cB K C "numbers":=by
 rintro C (rfl|rfl|rfl|rfl|rfl|rfl)
 .exact T.HD
 .exact T.Hj
 .exact T.Gm
 .exact T.G7
 .exact T.HJ
 .exact T.HW
theorem Txt.K7{K:Frag}{mg:Str->Ω}{D:Adr}(T:Txt K mg D):∀C,Fam D C->cB K C "offered":=by
 rintro C (rfl|rfl|rfl|rfl|rfl|rfl)
 .exact T.G8
 .exact T.Hy
 .exact T.Gu
 .exact T.Hx
 .exact T.Hu
 .exact T.HX
theorem Txt.abA{K:Frag}{mg:Str->Ω}{D:Adr}(T:Txt K mg D):∀C,Fam D C->cB K C "pay":=by
 rintro C (rfl|rfl|rfl|rfl|rfl|rfl)
 .exact T.Uy
 .exact T.S7
 .exact T.Qy
 .exact T.S8
 .exact T.Sg
 .exact T.Vk
theorem Txt.abb{K:Frag}{mg:Str->Ω}{D:Adr}(T:Txt K mg D):∀C,Fam D C->cB K C "share":=by
 rintro C (rfl|rfl|rfl|rfl|rfl|rfl)
 .exact T.MJ
 .exact T.Mf
 .exact T.Jb
 .exact T.Mu
 .exact T.LQ
 .exact T.Mp
def dg(D:Adr)(C:Addr):Prop:=C=D.Door\/C=D.Sure\/C=D.Mixed\/C=D.Toss\/C=D.Even
theorem dg.fam{D:Adr}{C:Addr}(h:dg D C):Fam D C:=by
 unfold dg at h;unfold Fam;rcases h with h|h|h|h|h<;>simp[h]
theorem Txt.R6{K:Frag}{mg:Str->Ω}{D:Adr}(T:Txt K mg D):∀C,dg D C->Meth K C "ways" D.Door_ways:=by
 rintro C (rfl|rfl|rfl|rfl|rfl)
 .exact T.Qo
 .exact T.RG
 .exact T.Ly
 .exact T.N8
 .exact T.Qu
class Bs where
 P:Program
 w:World
 K:Frag
 mg:Str->Ω
 base:Heap
section
open Bs (P w K mg base)
abbrev gT[Bs](k:Nat)(x:Str)(ps:Φ)(S:ST):Prop:=OkT P w K mg base k x ps S
abbrev gI[Bs](k:Nat)(a:Addr)(ps:Φ)(S:ST):Prop:=OkI P w K mg base CX0 k a ps (spT K S)
abbrev FT[Bs](k:Nat)(f:Addr)(fd:FuncData)(ps:Φ)(S:ST):Prop:=gW P w K mg base CX0 k f fd ps (spT K S)
abbrev Fu[Bs](n:Str)(s:Stmt)(f:Addr)(fd:FuncData):Prop:=Fun K n n s f fd
abbrev Tx[Bs](D:Adr):Prop:=Txt K mg D
variable[Bs]{D:Adr}{f:Addr}{fd:FuncData}
abbrev frT(f:Β):T:=.tup [.int f.1,.int f.2]
def isW:T->Option Bool
 |.int _=>some true
 |.bl _=>some false
 |.non=>some false
 |.str _=>some false
 |.tup _=>some false
 |.lst _=>some false
 |_=>none
def sS:ST:=λts q=>∃t b,ts=[t]/\isW t=some b/\q (.fz (.bl b))
theorem U0(T:Tx D)(F:Fu oU Ce f fd):FT 1 f fd jq sS:=by
 refine F.okT Uq λaf A outer s H E hr nd=>?_;refine⟨_,(bJ (bT (Ka (zV .int (qv 0) T.gA T.acj boot_int) (KJ (abM (zV .bool (qv 0) T.gA T.abt boot_bool)))))),?_⟩;rintro _ R ⟨t,b,rfl,h,q⟩;cases t<;>cases h<;>exact q
def nJ:ST:=λts q=>∃a b,ts=[.int a,.int b]/\q (.fz (.int (Int.gcd a b)))
theorem Vv(T:Tx D)(F:Fu lO Gr f fd):FT 1 f fd cM nJ:=by
 refine F.okT Xa λaf A outer s H E hr nd=>?_;refine⟨_,(bH (bR 2 (bZ Jo T.Ut boot_abs (bC (qv 0) bF)))
  (bH (bR 3 (bZ Jo T.Ut boot_abs (bC (qv 1) bF)))
  (bH (zL (bW (lZ hr.units) (qv 3) bG)
  (bH (bR 4 (bO cJ (qv 2) (qv 3)))
  (bH (bR 2 (qv 3))
  (bJ (bR 3 (qv 4))))))
  (bJ (bT (qv 2)))))),?_⟩
 rintro _ R ⟨a,b,rfl,q⟩;refine⟨λm o=>∃(l r:Nat)(x:OT),o=[.fz (.int a),.fz (.int b),.fz (.int l),.fz (.int r),x]/\Nat.gcd l r=Int.gcd a b/\m=r,⟨_,_,_,_,rfl,rfl,rfl⟩,?_⟩;rintro m _ ⟨l,r,x,rfl,hg,hm⟩;refine sw2 (λh=>?_) λh=>?_
 .have hr:r≠0:=by intro z;subst z;cases h
  refine⟨λo=>∃x,o=[.fz (.int a),.fz (.int b),.fz (.int r),.fz (.int ((l%r:Nat):Int)),x],?_,?_⟩
  .rintro _ ⟨x,rfl⟩;exact⟨l%r,by have:=Nat.mod_lt l (Nat.pos_of_ne_zero hr);lia,r,l%r,x,rfl,(Nat.gcd_comm r (l%r)).trans ((Nat.gcd_rec r l).symm.trans ((Nat.gcd_comm r l).trans hg)),rfl⟩
  .exact⟨by lia,_,by rw[Int.natCast_emod];rfl⟩
 .have hr:r=0:=by
   by_cases z:r=0
   .exact z
   .have:(decide ((r:Int)=0))=false:=Zp (by lia);rw[show xr true (decide ((r:Int)=0)) = !decide ((r:Int)=0)from rfl,this]at h;cases h
  subst hr;rw[Nat.gcd_zero_right]at hg;rw[<- hg]at q;exact q
structure Low(t b x y:Int):Prop where
 pos:0<y
 gcd:Int.gcd x y=1
 eq:x*b=t*y
 lx:x.natAbs<=t.natAbs
 ly:y.natAbs<=b.natAbs
theorem Kz{c q:Int}(h:c≠0):Int.fdiv (c*q) c=q:=by
 rw[Int.fdiv_eq_ediv_of_dvd (Int.dvd_mul_right c q),QY _ h]
theorem I8{c q:Int}(h:c≠0):q.natAbs<=(c*q).natAbs:=by
 rw[Up];exact Q4 _ (by lia)
theorem yw{t b c:Int}(hb:b≠0)(hc:c≠0)(hg:c.natAbs=Int.gcd t b)(hs:0<c*b):Low t b (Int.fdiv t c) (Int.fdiv b c):=by
 have d1:c ∣ t:=Int.natAbs_dvd.mp (by rw[hg];exact Int.gcd_dvd_left t b);have d2:c ∣ b:=Int.natAbs_dvd.mp (by rw[hg];exact T2 t b);obtain⟨x,rfl⟩:=d1;obtain⟨y,rfl⟩:=d2;rw[Kz hc,Kz hc];refine⟨?_,?_,?_,I8 hc,I8 hc⟩
 .rw[<- Int.mul_assoc]at hs;have hp:0<c*c:=by
   rcases Int.lt_or_lt_of_ne hc with z|z
   .exact Int.mul_pos_of_neg_of_neg z z
   .exact XZ z z
  exact Int.pos_of_mul_pos_right hs hp
 .rw[Int.gcd_mul_left]at hg;have hp:0<c.natAbs:=by lia
  exact Nat.eq_of_mul_eq_mul_left hp (by rw[Nat.mul_one];exact hg.symm)
 .rw[Int.mul_left_comm,Int.mul_assoc]
theorem oK{a b:Int}(hb:b≠0):(0:Int)<(Int.gcd a b:Nat):=by
 have:=Q2 a hb;lia
theorem Nv{i j:Int}(h:i.natAbs<=j.natAbs)(k:Bd j):Bd i:=Y3 h k
theorem ab0{i:Int}(h:Bd i):Bd (-i):=by unfold Bd at *;rw[Int.natAbs_neg];exact h
theorem Wv{a b:Int}(hb:b≠0)(h:Bd b):Bd ((Int.gcd a b:Nat):Int):=Nv (by
 have:=UY (by lia) (Int.gcd_dvd_natAbs_right a b);omega) h
def uI:ST:=λts q=>∃t b,ts=[.int t,.int b]/\b≠0/\Bd b/\∀x y,Low t b x y->q (.fz (frT (x,y)))
theorem aaS(T:Tx D)(fP:gT 1 oU jq sS)(eF:gT 1 lO cM nJ)(F:Fu qG Oa f fd):FT 2 f fd m_ uI:=by
 refine F.okT aaF λaf A outer s H E hr nd=>?_;refine⟨_,(bH (cF (QW.qt (iJ (fL (dz (bK fP (bC (qv 0) bF)))) (fX (fL (dz (bK fP (bC (qv 1) bF)))))))
  (bJ iV)
  bU)
  (bH (cF (bW (go_eq hr.units) (qv 1) bG)
  (bJ iV)
  bU)
  (bH (bR 2 (bK eF (bC (qv 0) (bC (qv 1) bF))))
  (bH (cF (bW Jt (qv 1) bG)
  (bJ (bR 2 (WX (qv 2))))
  bU)
  (bJ (bT (d9 (bC (bO pJ (qv 0) (qv 2)) (bC (bO pJ (qv 1) (qv 2)) bF))))))))),?_⟩
 rintro _ R ⟨t,b,rfl,hb,hd,q⟩;refine⟨_,_,rfl,rfl,_,_,rfl,rfl,?_⟩;have g0:=oK (a:=t) hb;have g1:=Wv (a:=t) hb hd;refine swF (Zp hb) ⟨_,_,rfl,swD (λhn=>⟨⟨by omega,ab0 g1⟩,⟨by omega,ab0 g1⟩,q _ _ (yw hb (by omega) (by lia) (Int.mul_pos_of_neg_of_neg (by lia) hn))⟩) λhn=>⟨⟨by exact WS g0,g1⟩,⟨by exact WS g0,g1⟩,q _ _ (yw hb (WS g0) (by lia) (XZ g0 (by lia)))⟩⟩
abbrev frR(r:Rat):T:=.tup [.int r.num,.int r.den]
theorem j5{t b x y:Int}(h:Low t b x y)(hb:b≠0):frT (x,y)=frR (Rat.divInt t b):=by
 have hy:=h.pos;have e:Rat.divInt t b=⟨x,y.toNat,by lia,by have:=h.gcd;unfold Int.gcd at this;rw[show y.toNat=y.natAbs by lia];exact this⟩:=by
  rw[Rat.mk_eq_divInt,show((y.toNat:Nat):Int)=y by exact Int.toNat_of_nonneg (XY hy)];exact(QU hb (WS hy)).mpr h.eq.symm
 rw[e];show T.tup [.int x,.int y]=.tup [.int x,.int (y.toNat:Nat)];rw[show((y.toNat:Nat):Int)=y by exact Int.toNat_of_nonneg (XY hy)]
theorem rd(r:Rat):Rat.divInt r.num r.den=r:=Rat.num_divInt_den r
theorem oZ(r:Rat):((r.den:Nat):Int)≠0:=by have:=r.den_pos;lia
def Bq(r:Rat):Prop:=Bd r.num/\Bd (r.den:Nat)
def XC:ST:=λts q=>∃a b:Rat,ts=[frR a,frR b]/\Bq a/\Bq b/\Bd ((a.den:Int)*b.den)/\q (.fz (frR (a+b)))
def Di:ST:=λts q=>∃a b:Rat,ts=[frR a,frR b]/\Bq a/\Bq b/\Bd ((a.den:Int)*b.den)/\q (.fz (frR (a-b)))
def Td:ST:=λts q=>∃a b:Rat,ts=[frR a,frR b]/\Bq a/\Bq b/\Bd ((a.den:Int)*b.den)/\q (.fz (frR (a*b)))
def XD:ST:=λts q=>∃a b:Rat,ts=[frR a,frR b]/\b≠0/\Bq a/\Bq b/\Bd ((a.den:Int)*b.num)/\q (.fz (frR (a/b)))
def yP:ST:=λts q=>∃a b:Rat,ts=[frR a,frR b]/\Bq a/\Bq b/\q (.fz (.bl (decide (a<b))))
theorem pN{a b:Int}(ha:a≠0)(hb:b≠0):a*b≠0:=λz=>(Int.mul_eq_zero.mp z).elim ha hb
section
variable(dZ:gT 2 qG m_ uI)
include dZ
theorem adB(F:Fu Ou WQ f fd):FT 3 f fd C_ XC:=by
 refine F.okT ac0 λaf A outer s H E hr nd=>?_;refine⟨_,(bJ (bT (bK dZ (bC (bO dW (bO cY (bL (qv 0) bG) (bL (qv 1) bG)) (bO cY (bL (qv 1) bG) (bL (qv 0) bG))) (bC (bO cY (bL (qv 0) bG) (bL (qv 1) bG)) bF))))),?_⟩;rintro _ R ⟨a,b,rfl,ha,hb,hd,q⟩;refine⟨⟨ha.1,hb.2⟩,⟨hb.1,ha.2⟩,⟨ha.2,hb.2⟩,_,_,rfl,pN (oZ a) (oZ b),hd,λx y l=>?_⟩;rw[j5 l (pN (oZ a) (oZ b)),<- Rat.divInt_add_divInt _ _ (oZ a) (oZ b),rd,rd];exact q
theorem abz(F:Fu yJ R5 f fd):FT 3 f fd qz Di:=by
 refine F.okT acr λaf A outer s H E hr nd=>?_;refine⟨_,(bJ (bT (bK dZ (bC (bO Wa (bO cY (bL (qv 0) bG) (bL (qv 1) bG)) (bO cY (bL (qv 1) bG) (bL (qv 0) bG))) (bC (bO cY (bL (qv 0) bG) (bL (qv 1) bG)) bF))))),?_⟩;rintro _ R ⟨a,b,rfl,ha,hb,hd,q⟩;refine⟨⟨ha.1,hb.2⟩,⟨hb.1,ha.2⟩,⟨ha.2,hb.2⟩,_,_,rfl,pN (oZ a) (oZ b),hd,λx y l=>?_⟩;rw[j5 l (pN (oZ a) (oZ b)),<- Rat.divInt_sub_divInt _ _ (oZ a) (oZ b),rd,rd];exact q
theorem abP(F:Fu KN QM f fd):FT 3 f fd yO Td:=by
 refine F.okT abT λaf A outer s H E hr nd=>?_;refine⟨_,(bJ (bT (bK dZ (bC (bO cY (bL (qv 0) bG) (bL (qv 1) bG)) (bC (bO cY (bL (qv 0) bG) (bL (qv 1) bG)) bF))))),?_⟩;rintro _ R ⟨a,b,rfl,ha,hb,hd,q⟩;refine⟨⟨ha.1,hb.1⟩,⟨ha.2,hb.2⟩,_,_,rfl,pN (oZ a) (oZ b),hd,λx y l=>?_⟩;rw[j5 l (pN (oZ a) (oZ b)),<- Rat.divInt_mul_divInt,rd,rd];exact q
theorem adJ(F:Fu N7 VG f fd):FT 3 f fd CP XD:=by
 refine F.okT aec λaf A outer s H E hr nd=>?_;refine⟨_,(bJ (bT (bK dZ (bC (bO cY (bL (qv 0) bG) (bL (qv 1) bG)) (bC (bO cY (bL (qv 0) bG) (bL (qv 1) bG)) bF))))),?_⟩;rintro _ R ⟨a,b,rfl,h0,ha,hb,hd,q⟩;have nb:b.num≠0:=λz=>h0 (by rw[<- rd b,z];exact JU _);refine⟨⟨ha.1,hb.2⟩,⟨ha.2,hb.1⟩,_,_,rfl,pN (oZ a) nb,hd,λx y l=>?_⟩;rw[j5 l (pN (oZ a) nb),<- Rat.divInt_mul_divInt,rd,<- Rat.inv_def,<- Rat.div_def];exact q
end
theorem ab4(F:Fu uG Rz f fd):FT 1 f fd oV yP:=by
 refine F.okT aa8 λaf A outer s H E hr nd=>?_;refine⟨_,(bJ (bT (jE Jt (bO cY (bL (qv 0) bG) (bL (qv 1) bG)) (bO cY (bL (qv 1) bG) (bL (qv 0) bG))))),?_⟩;rintro _ R ⟨a,b,rfl,ha,hb,q⟩;refine⟨⟨ha.1,hb.2⟩,⟨hb.1,ha.2⟩,?_⟩;rw[show decide (a<b)=decide (a.num*(b.den:Int)<b.num*(a.den:Int))from decide_eq_decide.mpr (Rat.lt_iff a b)]at q;exact q
def sJ:ST:=λts q=>∃r:Rat,ts=[frR r]/\q (.fz (.bl true))
theorem Uv(T:Tx D)(fP:gT 1 oU jq sS)(eF:gT 1 lO cM nJ)(F:Fu oX BX f fd):FT 2 f fd jM sJ:=by
 refine F.okT Sq λaf A outer s H E hr nd=>?_;refine⟨_,(bH (cF (QW.qt (iJ (fL (dz (zV .tuple (qv 0) T.gA T.Xh boot_tuple))) (fX (bW (lZ hr.units) (bZ eN T.gD WG (bC (qv 0) bF)) bG))))
  (bJ (bT mU))
  bU)
  (bH (bR 1 (bL (qv 0) bG))
  (bH (bR 2 (bL (qv 0) bG))
  (bH (cF (QW.qt (iJ (fL (dz (bK fP (bC (qv 1) bF)))) (fX (fL (dz (bK fP (bC (qv 2) bF)))))))
  (bJ (bT mU))
  bU)
  (bJ (bT (Ka (jE ae0 (qv 2) bG) (KJ (jE (go_eq hr.units) (bK eF (bC (qv 1) (bC (qv 2) bF))) bG))))))))),?_⟩
 rintro _ R ⟨r,rfl,q⟩;refine⟨_,_,rfl,rfl,_,_,rfl,rfl,?_⟩;have:=r.den_pos;refine swT (Zs (by lia)) ⟨_,_,rfl,?_⟩;rw[show Int.gcd r.num r.den=1 from r.reduced];exact q
def amd:List Rat->Nat
 |[]=>1
 |r::rs=>Nat.lcm r.den (amd rs)
def dI(n:Nat):List Rat->Nat
 |[]=>n
 |r::rs=>dI (Nat.lcm n r.den) rs
theorem iQ:∀(rs:List Rat){n:Nat},0<n->0<dI n rs
 |[],_,h=>h
 |r::rs,_,h=>iQ rs (Nat.lcm_pos h r.den_pos)
theorem nG:∀(rs:List Rat){n:Nat},n ∣ dI n rs/\∀r∈rs,r.den ∣ dI n rs
 |[],n=>⟨Nat.dvd_refl n,λ_ z=>(nomatch z)⟩
 |r::rs,n=>by
  obtain⟨a,b⟩:=nG rs (n:=Nat.lcm n r.den);refine⟨Nat.dvd_trans (Nat.dvd_lcm_left ..) a,λx hx=>?_⟩;rcases YU.mp hx with rfl|z
  .exact Nat.dvd_trans (Nat.dvd_lcm_right ..) a
  .exact b x z
theorem vm:∀(rs:List Rat){n m:Nat},n ∣ m->(∀r∈rs,r.den ∣ m)->dI n rs ∣ m
 |[],_,_,h,_=>h
 |r::rs,_,_,h,k=>vm rs (Nat.lcm_dvd h (k r (aO ..))) λx hx=>k x (aJ _ hx)
theorem JX:∀(as bs:List Rat)(n:Nat),dI n (as++bs)=dI (dI n as) bs
 |[],_,_=>rfl
 |_::as,bs,_=>JX as bs _
def tops(B:Nat)(rs:List Rat):List Int:=rs.map λr=>r.num*((B/r.den:Nat):Int)
theorem W6{m n:Nat}(h:Bd (n:Int))(l:m<=n):Bd (m:Int):=Nv (by omega) h
theorem aaV(n d:Nat):(Int.fdiv (n:Int) ((Int.gcd n d:Nat):Int))*d=((Nat.lcm n d:Nat):Int):=by
 rw[show Int.gcd (n:Int) (d:Int)=Nat.gcd n d from rfl,Int.fdiv_eq_ediv_of_dvd (Int.natCast_dvd_natCast.mpr (Nat.gcd_dvd_left n d)),<- Int.natCast_ediv,<- JY,Nat.lcm,Nat.div_mul_right_comm (Nat.gcd_dvd_left n d)]
theorem Ji(m n:Nat):Int.fdiv (m:Int) (n:Int)=((m/n:Nat):Int):=by rw[Int.fdiv_eq_ediv_of_nonneg _ (X9 _)];rfl
def yU:ST:=λts q=>∃rs:List Rat,ts=[.lst (rs.map frR)]/\rs.length<=1000/\(∀r∈rs,Bd r.num)/\Bd (dI 1 rs:Nat)/\q (.fz (.tup [.lst ((tops (dI 1 rs) rs).map T.int),.int (dI 1 rs:Nat)]))
theorem abm(eF:gT 1 lO cM nJ)(F:Fu uJ H_ f fd):FT 2 f fd oY yU:=by
 refine F.okT aa2 λaf A outer s H E hr nd=>?_;refine⟨_,(bH (bR 1 bG)
  (bH (dY (b_ (qv 0)) (cj (n:=99) 2)
  (bJ (bR 1 (bO cY (bO pJ (qv 1) (bK eF (bC (qv 1) (bC (bL (qv 2) bG) bF)))) (bL (qv 2) bG)))))
  (bJ (bT (d9 (bC (cH (bI H_) XQ ["fractions","bottom","?one"] ["one"] (b_ (qv 0)) (dh (i:=0)) cg (bO cY (bL (qv 0) bG) (bO pJ (qv 2) (bL (qv 0) bG)))) (bC (qv 1) bF))))))),?_⟩
 rintro _ R ⟨rs,rfl,rl,hn,hB,q⟩;refine fM frR rs (λas o=>∃x,o=[.fz (.lst (rs.map frR)),.fz (.int (dI 1 as:Nat)),x]) ⟨_,rfl⟩ ?_ ?_
 .rintro as a bs _ e ⟨x,rfl⟩;have d1:=(nG (a::bs) (n:=dI 1 as)).1;have el:dI 1 rs=dI (dI 1 as) (a::bs):=by rw[e];exact JX as (a::bs) 1
  have hp:=iQ as UT;have hB0:=iQ rs UT;have b1:Bd (dI 1 as:Nat):=W6 hB (el ▸ UY (el ▸ hB0) d1);have b2:Bd (a.den:Nat):=W6 hB (UY hB0 ((nG rs).2 a (e ▸ by simp)));refine⟨_,_,rfl,⟨by have:=oK (a:=(dI 1 as:Nat)) (oZ a);exact WS this,Wv (oZ a) b2⟩,⟨Nv ?_ b1,b2⟩,.fz (frR a),?_⟩
  .rw[show Int.gcd ((dI 1 as:Nat):Int) (a.den:Int)=Nat.gcd (dI 1 as) a.den from rfl,Ji];exact Nat.div_le_self ..
  .rw[aaV,JX]
   rfl
 .rintro _ ⟨x,rfl⟩;refine⟨aL (by simpa using rl) (by decide),comp_map frR (λr=>.int (r.num*((dI 1 rs/r.den:Nat):Int))) rs (λr hr N M hN=>?_) ?_⟩
  .have b2:Bd (r.den:Nat):=W6 hB (UY (iQ rs UT) ((nG rs).2 r hr));refine⟨⟨oZ r,b2⟩,⟨hn r hr,Nv ?_ hB⟩,?_⟩
   .rw[Ji];exact Nat.div_le_self ..
   .rw[Ji];exact hN
  .have:(tops (dI 1 rs) rs).map T.int=rs.map (λr=>.int (r.num*((dI 1 rs/r.den:Nat):Int))):=by unfold tops;rw[WU];rfl
   rw[this]at q;exact q
def Yn(l:List Nat):Bool:=decide (1<=l.length)&&decide (l.length<=8)&&l.all λc=>decide (97<=c)&&decide (c<=122)
abbrev Wd(n:Str):Prop:=Yn n.cps.toList=true
theorem Wd.len{n:Str}(h:Wd n):1<=n.length/\n.length<=8:=by
 unfold Wd Yn at h;simp only[JP,decide_eq_true_eq,Array.length_toList]at h;exact h.1
theorem Yv(c d:Nat):(!decide ((⟨#[d]⟩ : Str).cps.toList<(⟨#[c]⟩ : Str).cps.toList))=decide (c<=d):=by
 have:((⟨#[d]⟩ : Str).cps.toList<(⟨#[c]⟩ : Str).cps.toList)↔d<c:=by
  show[d]<[c]↔d<c;constructor
  .intro h;cases h with
   |rel h=>exact h
   |cons h=>cases h
  .exact λh=>.rel h
 rw[show decide ((⟨#[d]⟩ : Str).cps.toList<(⟨#[c]⟩ : Str).cps.toList)=decide (d<c)from decide_eq_decide.mpr this];by_cases h:c<=d
 .rw[Zs h,Zp (Ts h)];rfl
 .rw[Zp h,Zs (Nat.lt_of_not_le h)];rfl
def vQ:ST:=λts q=>∃n:Str,ts=[.str n]/\Wd n/\q (.fz (.bl true))
theorem VR(T:Tx D)(F:Fu qN z_ f fd):FT 1 f fd lR vQ:=by
 refine F.okT WD λaf A outer s H E hr nd=>?_;refine⟨_,(bH (cF (QW.qt (iJ (fL (dz (zV .str (qv 0) T.gA T.alq boot_str))) (fX (fL (Sh XS XS bG (bZ aej T.gD WG (bC (qv 0) bF)) (Sd T.K8 λ_=>.int _))))))
  (bJ (bT mU))
  bU)
  (bJ (bT (bZ (Qf rfl) T.Xr boot_all (bC (cH (bI z_) Gh Gh ["sign"] (agQ (qv 0)) (dh (i:=0)) cg (aav abo abo uY (qv 0) uY)) bF))))),?_⟩
 rintro _ R ⟨n,rfl,hw,q⟩;obtain⟨l1,l8⟩:=hw.len;refine⟨aL l8 (by decide),swT (Zs (by lia)) (swF (by rw[Zs (show((n.length:Nat):Int)<=8 by lia)];rfl) ⟨by rw[ak];exact aL l8 (by decide),comp_map (λc=>.str ⟨#[c]⟩) (λc=>.bl (decide (97<=c)&&decide (c<=122))) n.cps.toList (λc _ N M hN=>?_) ⟨n.cps.toList.map λc=>decide (97<=c)&&decide (c<=122),by rw[WU];rfl,?_⟩⟩)⟩
 .have e1:(!decide ((⟨#[c]⟩ : Str).cps.toList<("a":Str).cps.toList))=decide (97<=c):=by rw[show("a":Str)=⟨#[97]⟩from by decide +kernel];exact Yv 97 c
  have e2:(!decide (("z":Str).cps.toList<(⟨#[c]⟩ : Str).cps.toList))=decide (c<=122):=by rw[show("z":Str)=⟨#[122]⟩from by decide +kernel];exact Yv c 122
  refine sw2 (λh=>?_) λh=>?_
  .rw[<- e1,h,<- e2]at hN;exact hN
  .rw[<- e1,h]at hN;exact hN
 .have:((n.cps.toList.map λc=>decide (97<=c)&&decide (c<=122)).all λb=>b)=true:=by
   unfold Wd Yn at hw;rw[JP]at hw;rw[List.all_map];exact hw.2
  rw[<- this]at q;exact q
def ud:ST:=λts q=>∃(n:Str)(r:Rat),ts=[.str n,frR r]/\Wd n/\q (.fz .non)
theorem Mi(jU:gT 1 qN lR vQ)(iB:gT 2 oX jM sJ)(F:Fu n_ vL f fd):FT 3 f fd iZ ud:=by
 refine F.okT Ms λaf A outer s H E hr nd=>?_;refine⟨_,(bH (cF (fL (dz (bK jU (bC (qv 0) bF))))
  (bJ iV)
  bU)
  (bJ (cF (fL (dz (bK iB (bC (qv 1) bF))))
  (bJ iV)
  bU))),?_⟩
 rintro _ R ⟨n,r,rfl,hw,q⟩;exact⟨_,rfl,hw,_,rfl,q⟩
def lK:ST:=λts q=>∃n:Str,ts=[.str n]/\Wd n/\q (.fz .non)
theorem BR(jU:gT 1 qN lR vQ)(F:Fu ig mG f fd):FT 2 f fd eE lK:=by
 refine F.okT Cv λaf A outer s H E hr nd=>?_;refine⟨_,(bJ (cF (fL (dz (bK jU (bC (qv 0) bF))))
  (bJ iV)
  bU)),?_⟩
 rintro _ R ⟨n,rfl,hw,q⟩;exact⟨_,rfl,hw,q⟩
def Ch(r:Rat):Prop:=0<=r/\r<=1/\Bd (r.den:Nat)
theorem Ch.bq{r:Rat}(h:Ch r):Bq r:=by
 have h0:=Rat.num_nonneg.mpr h.1;have h1:=(Rat.le_iff r 1).mp h.2.1;exact⟨Nv (by have:r.num*((1:Rat).den:Int)<=(1:Rat).num*(r.den:Int):=h1;simp at this;omega) h.2.2,h.2.2⟩
theorem bq0:Bq 0:=⟨Nat.two_pow_pos 8000,Nat.one_lt_two_pow (by decide)⟩
theorem bq1:Bq 1:=⟨Nat.one_lt_two_pow (by decide),Nat.one_lt_two_pow (by decide)⟩
def pK:ST:=λts q=>∃r:Rat,ts=[frR r]/\Ch r/\q (.fz .non)
theorem HS(T:Tx D)(iB:gT 2 oX jM sJ)(ji:gT 1 uG oV yP)(F:Fu lF rD f fd):FT 3 f fd f9 pK:=by
 refine F.okT G_ λaf A outer s H E hr nd=>?_;refine⟨_,(bJ (cF (QW.qt (iJ (fL (dz (bK iB (bC (qv 0) bF)))) (iJ (dz (bK ji (bC (qv 0) (bC (mq T.k_ T.iY) bF)))) (fX (dz (bK ji (bC (mq T.A_ T.uf) (bC (qv 0) bF))))))))
  (bJ iV)
  bU)),?_⟩
 rintro _ R ⟨r,rfl,hc,q⟩;refine⟨_,rfl,r,0,rfl,hc.bq,bq0,?_⟩;rw[Zp (Rat.not_lt.mpr hc.1)];refine⟨1,r,rfl,bq1,hc.bq,?_⟩;rw[Zp (Rat.not_lt.mpr hc.2.1)];exact q
def Dv(rs:List Rat):Rat:=rs.foldr (· + ·) 0
theorem Va{B:Nat}(hB:B≠0):∀{rs:List Rat},(∀r∈rs,r.den ∣ B)->Rat.divInt (tops B rs).sum B=Dv rs
 |[],_=>by show Rat.divInt 0 _=0;exact JU _
 |r::rs,h=>by
  have ih:=Va hB (rs:=rs) λx hx=>h x (aJ _ hx);have mP:((B:Nat):Int)≠0:=by lia
  obtain⟨m,hm⟩:=h r (aO ..);show Rat.divInt (r.num*((B/r.den:Nat):Int)+(tops B rs).sum) B=r+Dv rs;have e1:r+Dv rs=Rat.divInt (r.num*B+(tops B rs).sum*r.den) (r.den*B):=by rw[<- Rat.divInt_add_divInt _ _ (oZ r) mP,rd,ih]
  rw[e1];refine(QU mP (pN (oZ r) mP)).mpr ?_;have:B/r.den=m:=by rw[hm];exact Nat.mul_div_cancel_left _ r.den_pos
  rw[this,hm];simp only[JY]
  grind
def Ug:ST:=λts q=>∃rs:List Rat,ts=[.lst (rs.map frR)]/\rs.length<=1000/\(∀r∈rs,Bd r.num)/\Bd (dI 1 rs:Nat)/\q (.fz (frR (Dv rs)))
theorem aaZ(T:Tx D)(lH:gT 2 uJ oY yU)(dZ:gT 2 qG m_ uI)(F:Fu Ks NT f fd):FT 3 f fd yh Ug:=by
 refine F.okT aaD λaf A outer s H E hr nd=>?_;refine⟨_,(bH (bR 1 (bK lH (bC (qv 0) bF)))
  (bJ (bT (bK dZ (bC (bZ (W3 rfl) T.acd boot_sum (bC (bL (qv 1) bG) bF)) (bC (bL (qv 1) bG) bF)))))),?_⟩
 rintro _ R ⟨rs,rfl,rl,hn,hB,q⟩;have hp:=iQ rs UT;have hz:((dI 1 rs:Nat):Int)≠0:=by lia
 refine⟨rs,rfl,rl,hn,hB,_,rfl,_,_,rfl,hz,hB,λx y l=>?_⟩;rw[j5 l hz,Va (VT hp) (nG rs).2];exact q
abbrev wyT(p:Str×Rat):T:=.tup [.str p.1,frR p.2]
def zW:ST:=λts q=>∃ps:List (Str×Rat),ts=[.lst (ps.map wyT)]/\ps.length<=1000/\(∀p∈ps,Wd p.1/\Ch p.2)/\Bd (dI 1 (ps.map (·.2)):Nat)/\Dv (ps.map (·.2))=1/\q (.fz .non)
theorem J0(T:Tx D)(eX:gT 2 ig eE lK)(gM:gT 3 lF f9 pK)(Px:gT 3 Ks yh Ug)(F:Fu qp ou f fd):FT 4 f fd jz zW:=by
 refine F.okT KD λaf A outer s H E hr nd=>?_;refine⟨_,(bH (dY (b_ (qv 0)) (fB (n:=2) (bQ (cj (n:=99) 1) (bQ (cj (n:=99) 2) dG)))
  (bH (oE (bK eX (bC (qv 1) bF)))
  (bJ (oE (bK gM (bC (qv 2) bF))))))
  (bJ (cF (bW (lZ hr.units) (bK Px (bC (cH (bI ou) tW tW ["pair"] (b_ (qv 0)) (dh (i:=0)) cg (bL (qv 0) bG)) bF)) (mq T.A_ T.uf))
  (bJ iV)
  bU))),?_⟩
 rintro _ R ⟨ps,rfl,pl,hp,hB,hs,q⟩;refine fM wyT ps (λ_ o=>∃x y,o=[.fz (.lst (ps.map wyT)),x,y]) ⟨_,_,rfl⟩ ?_ ?_
 .rintro as a bs _ e ⟨x,y,rfl⟩;obtain⟨h1,h2⟩:=hp a (e ▸ by simp);exact⟨rfl,_,rfl,h1,_,rfl,h2,_,_,rfl⟩
 .rintro _ ⟨x,y,rfl⟩;refine⟨aL (by simpa using pl) (by decide),comp_map wyT (λp=>frR p.2) ps (λp _ N M hN=>hN) ⟨ps.map (·.2),by rw[WU];rfl,by simpa using pl,λr hr=>?_,hB,?_⟩⟩
  .obtain⟨p,eI,rfl⟩:=YV.mp hr;exact(hp p eI).2.bq.1
  .rw[hs];exact q
def addW(ws:List (Str×Rat))(p:Str×Rat):List (Str×Rat):=if(ws.any λx=>decide (x.1=p.1))=true then ws.map (λx=>if x.1=p.1 then(x.1,x.2+p.2)else x)else ws++[p]
def kZ(ps:List (Str×Rat)):List (Str×Rat):=ps.foldl addW []
abbrev wKs(ws:List (Str×Rat)):List Key:=ws.map λx=>.inr x.1
abbrev wTs(ws:List (Str×Rat)):List T:=ws.map λx=>frR x.2
theorem af5(ws:List (Str×Rat))(n:Str):Ry (wKs ws) (.inr n)=ws.any λx=>decide (x.1=n):=by
 unfold Ry;rw[List.any_map]
 congr 1
 funext x
 exact decide_eq_decide.mpr ⟨λz=>Sum.inr.inj z,λz=>ZH Sum.inr z⟩
theorem VP(n:Str):∀ws:List (Str×Rat),rT (wKs ws) (wTs ws) (.inr n)=(ws.find? λx=>decide (x.1=n)).map λx=>frR x.2
 |[]=>rfl
 |x::ws=>by
  show(if(Sum.inr x.1:Key)=.inr n then some (frR x.2)else rT (wKs ws) (wTs ws) (.inr n))=_;by_cases h:x.1=n
  .rw[ZY (ZH Sum.inr h),List.find?_cons_of_pos (p:=λx:Str×Rat=>decide (x.1=n)) (Zs h)];rfl
  .rw[ZZ λz=>h (Sum.inr.inj z),List.find?_cons_of_neg (p:=λx:Str×Rat=>decide (x.1=n)) (by show ¬decide (x.1=n)=true;rw[Zp h];decide),VP n ws]
def B_(ws:List (Str×Rat))(n:Str):Rat:=((ws.find? λx=>decide (x.1=n)).map (·.2)).getD 0
theorem ac3(ws:List (Str×Rat))(n:Str):((rT (wKs ws) (wTs ws) (.inr n)).getD (frR 0))=frR (B_ ws n):=by
 rw[VP];unfold B_;cases(ws.find? λx=>decide (x.1=n))<;>rfl
theorem X3{ws:List (Str×Rat)}{n:Str}(nd:(ws.map (·.1)).Nodup){x:Str×Rat}(hx:x∈ws)(e:x.1=n):(ws.find? λy=>decide (y.1=n))=some x:=by
 induction ws with
 |nil=>cases hx
 |cons y ws ih =>
  obtain⟨n1,n2⟩:=List.nodup_cons.mp nd;rcases YU.mp hx with rfl|z
  .exact List.find?_cons_of_pos (p:=λy:Str×Rat=>decide (y.1=n)) (Zs e)
  .rw[List.find?_cons_of_neg (p:=λy:Str×Rat=>decide (y.1=n)) (by show ¬decide (y.1=n)=true;rw[Zp λw=>n1 (YV.mpr ⟨x,z,e.trans w.symm⟩)];decide)];exact ih n2 z
theorem ahG(ws:List (Str×Rat))(p:Str×Rat)(nd:(ws.map (·.1)).Nodup):kpK (wKs ws) (.inr p.1)=wKs (addW ws p)/\kpT (wKs ws) (wTs ws) (.inr p.1) (frR (B_ ws p.1+p.2))=wTs (addW ws p):=by
 unfold kpK kpT addW;rw[af5];by_cases h:(ws.any λx=>decide (x.1=p.1))=true
 .rw[ZY h,ZY h,ZY h];refine⟨by simp only[wKs,WU];refine US λx _=>?_;show(Sum.inr x.1:Key)=.inr (if x.1=p.1 then(x.1,x.2+p.2)else x).1;split<;>rfl,?_⟩
  clear h
  rw[show wTs (ws.map λx=>if x.1=p.1 then(x.1,x.2+p.2)else x)=ws.map ((λx=>frR x.2) ∘ λx=>if x.1=p.1 then(x.1,x.2+p.2)else x)from WU]
  suffices H:∀(us:List (Str×Rat)),(∀x∈us,x.1=p.1->x.2=B_ ws p.1)->List.zipWith (λ(k:Key)x=>if k=.inr p.1 then frR (B_ ws p.1+p.2)else x) (wKs us) (wTs us)=us.map ((λx=>frR x.2) ∘ λx=>if x.1=p.1 then(x.1,x.2+p.2)else x)from H ws λx hx e=>by
   unfold B_;rw[X3 nd hx e];rfl
  intro us
  induction us with
  |nil=>intro _;rfl
  |cons x us ih =>
   intro H;show List.zipWith _ (Sum.inr x.1::wKs us) (frR x.2::wTs us)=_;rw[List.zipWith_cons_cons,ih λy hy=>H y (aJ _ hy),List.map_cons]
   congr 1
   by_cases e:x.1=p.1
   .rw[ZY (ZH Sum.inr e)];show _=frR (if x.1=p.1 then(x.1,x.2+p.2)else x).2;rw[ZY e,H x (aO ..) e]
   .rw[ZZ λz=>e (Sum.inr.inj z)];show _=frR (if x.1=p.1 then(x.1,x.2+p.2)else x).2;rw[ZZ e]
 .rw[ZZ h,ZZ h,ZZ h];have n0:B_ ws p.1=0:=by
   unfold B_;rw[List.find?_eq_none.mpr λx hx z=>h (List.any_eq_true.mpr ⟨x,hx,z⟩)];rfl
  rw[n0,Rat.zero_add];simp only[wKs,wTs,bf];exact⟨rfl,rfl⟩
theorem acY{ws:List (Str×Rat)}{p:Str×Rat}(nd:(ws.map (·.1)).Nodup):((addW ws p).map (·.1)).Nodup:=by
 unfold addW;by_cases h:(ws.any λx=>decide (x.1=p.1))=true
 .rw[ZY h,WU];rw[show ws.map ((λx=>x.1) ∘ λx=>if x.1=p.1 then(x.1,x.2+p.2)else x)=ws.map (·.1)from US λx _=>by show(if x.1=p.1 then(x.1,x.2+p.2)else x).1=x.1;split<;>rfl];exact nd
 .rw[ZZ h,bf];refine List.nodup_append.mpr ⟨nd,by simp,λa ha b hb z=>h ?_⟩;obtain⟨x,hx,rfl⟩:=YV.mp ha;rw[List.map_singleton,YR]at hb;exact List.any_eq_true.mpr ⟨x,hx,Zs (z.trans hb)⟩
theorem Zy(as bs:List (Str×Rat)):kZ (as++bs)=bs.foldl addW (kZ as):=List.foldl_append ..
theorem TX(ps:List (Str×Rat)):((kZ ps).map (·.1)).Nodup:=by
 suffices H:∀(ps ws:List (Str×Rat)),(ws.map (·.1)).Nodup->((ps.foldl addW ws).map (·.1)).Nodup from H ps [] .nil
 intro ps
 induction ps with
 |nil=>exact λ_ h=>h
 |cons p ps ih=>exact λws h=>ih _ (acY h)
theorem Nh(ps:List (Str×Rat)):(kZ ps).length<=ps.length:=by
 suffices H:∀(ps ws:List (Str×Rat)),(ps.foldl addW ws).length<=ws.length+ps.length from by simpa[kZ]using H ps []
 intro ps
 induction ps with
 |nil=>exact λ_=>aG _
 |cons p ps ih =>
  intro ws;have h1:(addW ws p).length<=ws.length+1:=by
   unfold addW;split
   .rw[ak];exact Xs _
   .rw[aA,List.length_singleton];exact aG _
  have:=ih (addW ws p);rw[List.foldl_cons,List.length_cons];lia
def aeY(ps:List (Str×Rat)):Prop:=∀as a bs,ps=as++a::bs->Bq (B_ (kZ as) a.1)/\Bq a.2/\Bd (((B_ (kZ as) a.1).den:Int)*a.2.den)
def Dt(ps:List (Str×Rat)):List (Str×Rat):=(kZ ps).filter λp=>!decide (p.2=0)
def yS:ST:=λts q=>∃ps:List (Str×Rat),ts=[.lst (ps.map wyT)]/\ps.length<=1000/\aeY ps/\q (.l1 ((Dt ps).map wyT))
theorem Kr(T:Tx D)(VH:gT 3 Ou C_ XC)(F:Fu qy oh f fd):FT 4 f fd jy yS:=by
 refine F.okT Jg λaf A outer s H E hr nd=>?_;refine⟨_,(bH (jg 1 NZ)
  (bH (dY (b_ (qv 0)) (fB (n:=2) (bQ (cj (n:=99) 2) (bQ (cj (n:=99) 3) dG)))
  (bJ (O2 1 (Bj hr) (bK VH (bC (aeQ 1 (Bj hr) (qv 2) (mq T.k_ T.iY)) (bC (qv 3) bF))) (qv 2))))
  (bJ (adn 1 (bI oh) Ay ["pairs","chances","?room","chance"] ["room"] (dh (i:=0)) (Ed (bW (lZ hr.units) (Pb (Bj hr) (qv 2) (qv 0)) (mq T.k_ T.iY))) (d9 (bC (qv 0) (bC (Pb (Bj hr) (qv 2) (qv 0)) bF))))))),?_⟩
 rintro _ R ⟨ps,rfl,pl,hb,q⟩;refine fM wyT ps (λas o=>∃x y,o=[.fz (.lst (ps.map wyT)),.d1 (wKs (kZ as)) (wTs (kZ as)),x,y]) ⟨_,_,rfl⟩ ?_ ?_
 .rintro as a bs _ e ⟨x,y,rfl⟩;obtain⟨h1,h2,h3⟩:=hb as a bs e;refine⟨rfl,_,rfl,B_ (kZ as) a.1,a.2,ZH (λt=>[t,frR a.2]) (ac3 (kZ as) a.1),h1,h2,h3,_,rfl,?_,.fz (.str a.1),.fz (frR a.2),?_⟩
  .have:=Nh as;have:as.length<=ps.length:=by rw[e];simp
   rw[ak];exact Y3 (show _<=1000 by lia) (by decide)
  .obtain⟨k1,k2⟩:=ahG (kZ as) a (TX as);rw[show kZ (as++[a])=addW (kZ as) a from by rw[Zy];rfl,<- k1,<- k2]
   rfl
 .rintro _ ⟨x,y,rfl⟩;have jl:=Nh ps;refine⟨by rw[ak];exact aL (show _<=1000 by exact aL jl pl) (by decide),?_⟩;rw[show(wKs (kZ ps)).map kT=(kZ ps).map λp=>.str p.1 from WU];refine jt (λp=>.str p.1) (λp=>!decide (p.2=0)) wyT (kZ ps) (λp hp N M hN hM=>?_) ?_
  rotate_left
  .exact q
  have ev:rT (wKs (kZ ps)) (wTs (kZ ps)) (.inr p.1)=some (frR p.2):=by rw[VP,X3 (TX ps) hp rfl];rfl
  refine⟨_,_,rfl,ev,?_⟩;have ez:(decide (p.2.num=0)&&decide ((p.2.den:Int)=1))=decide (p.2=0):=by
   by_cases z:p.2=0
   .rw[z];decide
   .rw[Zp z,Zp λy=>z (Rat.num_eq_zero.mp y)];rfl
  refine sw2 (λh=>⟨_,_,rfl,ev,hN ?_⟩) λh=>hM ?_
  .rw[<- h];exact ZH (λb=>!b) ez.symm
  .rw[<- h];exact ZH (λb=>!b) ez.symm
abbrev vZ:Φ:=["name","pay","leads"]
abbrev drT(C:Addr)(n:Str)(p:Rat)(ws:List (Str×Rat)):T:=.ins C vZ [.str n,frR p,.lst (ws.map wyT)]
def Rn(D:Adr):SI:=λC ks ts as R=>∃(n:Str)(p:Rat),ks=[]/\ts=[]/\Fam D C/\as=[.str n,frR p]/\Wd n/\R vZ [.str n,frR p,.lst []]
theorem N6(T:Tx D)(jX:gT 3 n_ iZ ud)(F:Fun K CQ Cy xZ f fd):gW P w K mg base CX0 4 f fd jT (spI K (Rn D)):=by
 refine F.okI RK (λC ks ts as R hP=>by obtain⟨n,p,_,_,_,e,_⟩:=hP;exact e ▸ rfl) (by decide) λaf A outer s H E hr nd=>?_;refine⟨_,(bH (oE (bK jX (bC (qv 1) (bC (qv 2) bF))))
  (bH (sZ (Fm:=Fam D) 0 (λC h=>⟨T.cl C h,T.Ih C h⟩) (qv 1))
  (bH (sZ (Fm:=Fam D) 0 (λC h=>⟨T.cl C h,T.abA C h⟩) (qv 2))
  (bJ (sZ (Fm:=Fam D) 0 (λC h=>⟨T.cl C h,T.Ez C h⟩) (dN bF)))))),?_⟩
 rintro a dx C _ _ _ R ⟨n,p,rfl,rfl,hC,rfl,hw,q⟩;exact⟨_,_,rfl,hw,⟨hC,by decide⟩,⟨hC,by decide⟩,⟨hC,by decide⟩,_,_,rfl,q⟩
theorem Tn(D:Adr):Fam D D.Sure:=by simp[Fam]
theorem ZX(D:Adr):Fam D D.Mixed:=by simp[Fam]
theorem acf(D:Adr):Fam D D.Toss:=by simp[Fam]
theorem abu(D:Adr):Fam D D.Even:=by simp[Fam]
theorem JN(D:Adr):Fam D D.Hall:=by simp[Fam]
def Yp(D:Adr):SI:=λC ks ts as R=>∃(n m:Str)(p:Rat),ks=[]/\ts=[]/\Fam D C/\as=[.str n,frR p,.str m]/\Wd n/\Wd m/\R vZ [.str n,frR p,.lst ([(m,1)].map wyT)]
theorem Oc(T:Tx D)(lY:OkI P w K mg base CX0 4 D.Door_init jT (spI K (Rn D)))(eX:gT 2 ig eE lK)(F:Fun K Dl Du yq f fd):gW P w K mg base CX0 5 f fd mK (spI K (Yp D)):=by
 refine F.okI Pu (λC ks ts as R hP=>by obtain⟨n,p,_,_,_,_,e,_⟩:=hP;exact e ▸ rfl) (by decide) λaf A outer s H E hr nd=>?_;refine⟨_,(bH (HY 0 T.Dq lY T.abR (bC (qv 1) (bC (qv 2) bF)))
  (bH (oE (bK eX (bC (qv 3) bF)))
  (bJ (sZ (Fm:=Fam D) 0 (λC h=>⟨T.cl C h,T.Ez C h⟩) (dN (bC (d9 (bC (qv 3) (bC (mq T.A_ T.uf) bF))) bF)))))),?_⟩
 rintro a dx C _ _ _ R ⟨n,m,p,rfl,rfl,hC,rfl,hw,hm,q⟩;exact⟨_,_,rfl,rfl,hC,rfl,hw,_,rfl,hm,⟨hC,by decide⟩,_,_,rfl,q⟩
structure Prs(ps:List (Str×Rat)):Prop where
 few:ps.length<=1000
 ok:∀p∈ps,Wd p.1/\Ch p.2
 bd:Bd (dI 1 (ps.map (·.2)):Nat)
 one:Dv (ps.map (·.2))=1
 jb:aeY ps
def Dc(D:Adr):SI:=λC ks ts as R=>∃(n:Str)(p:Rat)(ps:List (Str×Rat)),ks=[]/\ts=[]/\Fam D C/\as=[.str n,frR p,.lst (ps.map wyT)]/\Wd n/\Prs ps/\R vZ [.str n,frR p,.lst ((Dt ps).map wyT)]
theorem Ld(T:Tx D)(lY:OkI P w K mg base CX0 4 D.Door_init jT (spI K (Rn D)))(uo:gT 4 qp jz zW)(t_:gT 4 qy jy yS)(F:Fun K Ba Az vB f fd):gW P w K mg base CX0 5 f fd gF (spI K (Dc D)):=by
 refine F.okI Mw (λC ks ts as R hP=>by obtain⟨n,p,_,_,_,_,e,_⟩:=hP;exact e ▸ rfl) (by decide) λaf A outer s H E hr nd=>?_;refine⟨_,(bH (HY 0 T.Dq lY T.abR (bC (qv 1) (bC (qv 2) bF)))
  (bH (oE (bK uo (bC (qv 3) bF)))
  (bJ (sZ (Fm:=Fam D) 0 (λC h=>⟨T.cl C h,T.Ez C h⟩) (bK t_ (bC (qv 3) bF)))))),?_⟩
 rintro a dx C _ _ _ R ⟨n,p,ps,rfl,rfl,hC,rfl,hw,h,q⟩;exact⟨_,_,rfl,rfl,hC,rfl,hw,_,rfl,h.few,h.ok,h.bd,h.one,_,rfl,h.few,h.jb,⟨hC,by decide⟩,_,_,rfl,q⟩
def XF(D:Adr):SI:=λC ks ts as R=>∃(n x y:Str)(p c:Rat),ks=[]/\ts=[]/\Fam D C/\as=[.str n,frR p,frR c,.str x,.str y]/\Wd n/\Ch c/\Prs [(x,c),(y,1-c)]/\R vZ [.str n,frR p,.lst ((Dt [(x,c),(y,1-c)]).map wyT)]
theorem Q7(T:Tx D)(jX:gT 3 n_ iZ ud)(gM:gT 3 lF f9 pK)(pW:gT 3 yJ qz Di)(fu:OkI P w K mg base CX0 5 D.Mixed_init gF (spI K (Dc D)))(F:Fun K Ew El zM f fd):gW P w K mg base CX0 6 f fd m5 (spI K (XF D)):=by
 refine F.okI Rx (λC ks ts as R hP=>by obtain⟨n,_,_,p,_,_,_,_,e,_⟩:=hP;exact e ▸ rfl) (by decide) λaf A outer s H E hr nd=>?_;refine⟨_,(bH (oE (bK jX (bC (qv 1) (bC (qv 2) bF))))
  (bH (oE (bK gM (bC (qv 3) bF)))
  (bJ (HY 0 T.Bh fu T.Rm (bC (qv 1) (bC (qv 2) (bC (dN (bC (d9 (bC (qv 4) (bC (qv 3) bF))) (bC (d9 (bC (qv 5) (bC (bK pW (bC (mq T.A_ T.uf) (bC (qv 3) bF))) bF))) bF))) bF))))))),?_⟩
 rintro a dx C _ _ _ R ⟨n,x,y,p,c,rfl,rfl,hC,rfl,hw,hc,h,q⟩;refine⟨_,_,rfl,hw,_,rfl,hc,1,c,rfl,bq1,hc.bq,?_,n,p,_,rfl,rfl,hC,rfl,hw,h,_,_,rfl,q⟩;rw[show(((1:Rat).den:Nat):Int)*(c.den:Int)=(c.den:Int)from Tk _];exact hc.2.2
def even(rooms:Φ):List (Str×Rat):=rooms.map λr=>(r,mkRat 1 rooms.length)
theorem Wr{n:Nat}(h:0<n):frR (mkRat 1 n)=.tup [.int 1,.int (n:Nat)]:=by
 have:mkRat 1 n=⟨1,n,by exact VT h,by show Nat.Coprime 1 n;exact Nat.coprime_one_left n⟩:=by
  rw[Rat.mk_eq_divInt];rfl
 rw[this]
def Yi(D:Adr):SI:=λC ks ts as R=>∃(n:Str)(p:Rat)(rooms:Φ),ks=[]/\ts=[]/\Fam D C/\as=[.str n,frR p,.lst (rooms.map T.str)]/\Wd n/\Prs (even rooms)/\R vZ [.str n,frR p,.lst ((Dt (even rooms)).map wyT)]
theorem Qt(T:Tx D)(fu:OkI P w K mg base CX0 5 D.Mixed_init gF (spI K (Dc D)))(F:Fun K DY Dh sE f fd):gW P w K mg base CX0 6 f fd m9 (spI K (Yi D)):=by
 refine F.okI Pj (λC ks ts as R hP=>by obtain⟨n,p,_,_,_,_,e,_⟩:=hP;exact e ▸ rfl) (by decide) λaf A outer s H E hr nd=>?_;refine⟨_,(bJ (HY 0 T.Bh fu T.Rm (bC (qv 1) (bC (qv 2) (bC (cH (bI sE) yE yE ["room"] (b_ (qv 3)) (dh (i:=0)) cg (d9 (bC (qv 0) (bC (d9 (bC bG (bC (bZ eN T.gD WG (bC (qv 4) bF)) bF))) bF)))) bF))))),?_⟩;rintro a dx C _ _ _ R ⟨n,p,rooms,rfl,rfl,hC,rfl,hw,h,q⟩;have hl:rooms.length<=1000:=by have:=h.few;rwa[even,ak]at this
 refine⟨by rw[ak];exact aL hl (by decide),comp_map L2.T.str (λr=>wyT (r,mkRat 1 rooms.length)) rooms (λr hr N M hN=>?_) ⟨n,p,even rooms,rfl,rfl,hC,?_,hw,h,_,_,rfl,q⟩⟩
 .rw[show wyT (r,mkRat 1 rooms.length)=.tup [.str r,frR (mkRat 1 rooms.length)]from rfl,Wr (List.length_pos_of_mem hr),<- ak (f:=L2.T.str)]at hN;exact hN
 .unfold even;rw[WU]
  rfl
def DK(D:Adr):ST:=λts q=>∃(C:Addr)(n:Str)(p:Rat)(ws:List (Str×Rat)),ts=[drT C n p ws]/\Fam D C/\q (.l1 (ws.map wyT))
theorem Qm(T:Tx D)(F:Fun K Dz CJ yK f fd):FT 1 f fd mX (DK D):=by
 refine F.okT RW λaf A outer s H E hr nd=>?_;refine⟨_,(bJ (bT (jY sV T.vJ boot_list (bC (Cp (Fm:=Fam D) (λC h=>⟨T.cl C h,T.Ez C h⟩) (qv 0)) bF)))),?_⟩;rintro _ R ⟨C,n,p,ws,rfl,hC,q⟩;exact⟨hC,_,rfl,q⟩
structure bN where
 name:Str
 pay:Rat
 ways:List (Nat×Rat)
abbrev nwT(p:Nat×Rat):T:=.tup [.int (p.1:Nat),frR p.2]
abbrev ofT(o:bN):T:=.tup [.str o.name,frR o.pay,.lst (o.ways.map nwT)]
abbrev lE:Φ:=["share","numbers","offered"]
abbrev nmK(ns:Φ):List Key:=ns.map Sum.inr
abbrev nmT(ns:Φ):List T:=(List.range ns.length).map λk:Nat=>.int k
abbrev hlT(D:Adr)(s:Rat)(ns:Φ)(off:List (List bN)):T:=.ins D.Hall lE [frR s,.dct (nmK ns) (nmT ns),.lst (off.map λds=>.lst (ds.map ofT))]
def w6:ST:=λts q=>∃r:Rat,ts=[frR r]/\0<=r/\r<1/\Bq r/\q (.fz .non)
theorem KY(T:Tx D)(iB:gT 2 oX jM sJ)(ji:gT 1 uG oV yP)(F:Fu rQ tH f fd):FT 3 f fd jF w6:=by
 refine F.okT K5 λaf A outer s H E hr nd=>?_;refine⟨_,(bJ (cF (QW.qt (iJ (fL (dz (bK iB (bC (qv 0) bF)))) (iJ (dz (bK ji (bC (qv 0) (bC (mq T.k_ T.iY) bF)))) (fX (fL (dz (bK ji (bC (qv 0) (bC (mq T.A_ T.uf) bF)))))))))
  (bJ iV)
  bU)),?_⟩
 rintro _ R ⟨r,rfl,h0,h1,hb,q⟩;refine⟨_,rfl,r,0,rfl,hb,bq0,?_⟩;rw[Zp (Rat.not_lt.mpr h0)];refine⟨r,1,rfl,hb,bq1,?_⟩;rw[Zs h1];exact q
theorem acn(ns:Φ)(n:Str)(h:n∉ns):Ry (nmK ns) (.inr n)=false:=by
 unfold Ry;rw[List.any_map];exact List.any_eq_false.mpr λx hx z=>h ((Sum.inr.inj (of_decide_eq_true z)) ▸ hx)
theorem WK{α:Type}(n:Str):∀(ns:Φ)(ts:List α),n∉ns->rT (nmK ns) ts (.inr n)=none
 |[],_,_=>rfl
 |_::_,[],_=>rfl
 |m::ns,t::ts,h=>by
  show(if(Sum.inr m:Key)=.inr n then some t else rT (nmK ns) ts (.inr n))=none;rw[ZZ λz=>h (by rw[Sum.inr.inj z];exact aO ..)];exact WK n ns ts λz=>h (aJ _ z)
theorem Yc{α:Type}{n:Str} : ∀{ns:Φ}{ts:List α}{k:Nat}{t:α},ns.Nodup->ns[k]?=some n->ts[k]?=some t->rT (nmK ns) ts (.inr n)=some t
 |[],_,_,_,_,e,_=>by cases e
 |m::ns,[],_,_,_,_,e=>by cases e
 |m::ns,u::ts,k,t,nd,e1,e2=>by
  obtain⟨n1,n2⟩:=List.nodup_cons.mp nd;show(if(Sum.inr m:Key)=.inr n then some u else rT (nmK ns) ts (.inr n))=some t;cases k with
  |zero=>cases e1;cases e2;exact ZY rfl
  |succ k =>
   have ii:ns[k]?=some n:=by simpa using e1
   rw[ZZ λ(z:(Sum.inr m:Key)=.inr n)=>n1 (by rw[Sum.inr.inj z];exact aC ii)];exact Yc n2 ii (by simpa using e2)
theorem afo(ns:Φ)(n:Str)(h:n∉ns):kpK (nmK ns) (.inr n)=nmK (ns++[n])/\kpT (nmK ns) (nmT ns) (.inr n) (.int (ns.length:Nat))=nmT (ns++[n]):=by
 unfold kpK kpT;rw[acn ns n h];refine⟨by rw[ZZ (by decide)];simp[nmK],?_⟩;rw[ZZ (by decide)];simp only[nmT,aA,List.length_singleton,List.range_succ,bf,List.map_singleton]
abbrev rmT(p:Str×List T):T:=.tup [.str p.1,.lst p.2]
def Bg:ST:=λts q=>∃fr:List (Str×List T),ts=[.lst (fr.map rmT)]/\fr.length<=1000/\(∀p∈fr,Wd p.1)/\(fr.map (·.1)).Nodup/\q (.d1 (nmK (fr.map (·.1))) (nmT (fr.map (·.1))))
theorem K_(T:Tx D)(jU:gT 1 qN lR vQ)(F:Fu uy wH f fd):FT 2 f fd lC Bg:=by
 refine F.okT Mh λaf A outer s H E hr nd=>?_;refine⟨_,(bH (jg 1 NZ)
  (bH (dY (b_ (qv 0)) (cj (n:=99) 2)
  (bH (bR 3 (bL (qv 2) bG))
  (bH (cF (QW.qt (iJ (fL (dz (bK jU (bC (qv 3) bF)))) (fX (Pz 1 (acC (Bj hr) (qv 3) (qv 1))))))
  (bJ iV)
  bU)
  (bJ (O2 1 (Bj hr) (Ri 1 (bZ Yq T.gD WG (bC (qv 1) bF))) (qv 3))))))
  (bJ (jj 1)))),?_⟩
 rintro _ R ⟨fr,rfl,rl,hw,nd,q⟩;refine fM rmT fr (λas o=>∃x y,o=[.fz (.lst (fr.map rmT)),.d1 (nmK (as.map (·.1))) (nmT (as.map (·.1))),x,y]) ⟨_,_,rfl⟩ ?_ ?_
 .rintro as a bs _ e ⟨x,y,rfl⟩;have na:a.1∉as.map (·.1):=by
   rw[e,bf,List.map_cons]at nd;exact λz=>(List.nodup_append.mp nd).2.2 a.1 z a.1 (aO ..) rfl
  have al:as.length<=fr.length:=by rw[e];simp
  refine⟨_,rfl,hw a (e ▸ by simp),_,rfl,?_⟩;rw[WK a.1 _ _ na];refine⟨trivial,_,rfl,by rw[ak,ak];exact Y3 (show _<=1000 by exact aL al rl) (by decide),.fz (rmT a),.fz (.str a.1),?_⟩;obtain⟨k1,k2⟩:=afo (as.map (·.1)) a.1 na;rw[bf,List.map_singleton,<- k1,<- k2];simp only[ak]
  rfl
 .rintro _ ⟨x,y,rfl⟩;exact q
structure NWk(ns:Φ)(us:List (Nat×Rat)):Prop where
 few:us.length<=1000
 lt:∀p∈us,p.1<ns.length
abbrev Ur(ns:Φ)(us:List (Nat×Rat)):List (Str×Rat):=us.map λp=>(ns.getD p.1 ⟨#[]⟩,p.2)
def uL(D:Adr):ST:=λts q=>∃(C:Addr)(n:Str)(p:Rat)(ns:Φ)(us:List (Nat×Rat)),ts=[drT C n p (Ur ns us),.dct (nmK ns) (nmT ns)]/\dg D C/\ns.Nodup/\NWk ns us/\q (.l1 (us.map nwT))
theorem Fx(T:Tx D)(zf:gI 1 D.Door_ways mX (DK D))(F:Fu nP pI f fd):FT 2 f fd gK (uL D):=by
 refine F.okT Fe λaf A outer s H E hr nd=>?_;refine⟨_,(bH (jg 2 (dN bF))
  (bH (dY (b_ (QE.any λC(hC:dg D C)=>yp (qv 0) (T.cl C hC.fam) (T.R6 C hC) zf (KS:=vZ))) (fB (n:=2) (bQ (cj (n:=99) 3) (bQ (cj (n:=99) 4) dG)))
  (bH (cF (ZD (Bj hr) (qv 3) (qv 1))
  (bJ iV)
  bU)
  (bJ (yD 2 (d9 (bC (Pb (Bj hr) (qv 1) (qv 3)) (bC (qv 4) bF)))))))
  (bJ (jj 2)))),?_⟩
 rintro _ R ⟨C,n,p,ns,us,rfl,hC,nd,hu,q⟩;refine⟨C,hC,⟨rfl,rfl⟩,C,n,p,_,rfl,hC.fam,?_⟩;show Bk _ _ _ (List.map wyT (Ur ns us)) _;rw[show(Ur ns us).map wyT=us.map λp=>wyT (ns.getD p.1 ⟨#[]⟩,p.2)from WU];refine fM (λp=>wyT (ns.getD p.1 ⟨#[]⟩,p.2)) us (λas o=>∃x y,o=[.fz (drT C n p (Ur ns us)),.fz (.dct (nmK ns) (nmT ns)),.l1 (as.map nwT),x,y]) ⟨_,_,rfl⟩ ?_ ?_
 .rintro as a bs _ e ⟨x,y,rfl⟩;have lt:=hu.lt a (e ▸ by simp);have al:as.length<us.length:=by rw[e];simp
  have few:=hu.few;have en:ns[a.1]?=some (ns.getD a.1 ⟨#[]⟩):=by rw[au,aj lt];rfl
  have ev:rT (nmK ns) (nmT ns) (.inr (ns.getD a.1 ⟨#[]⟩))=some (.int (a.1:Nat)):=Yc nd en (by rw[aq,VZ lt];rfl);refine⟨rfl,_,rfl,?_⟩;rw[ev];refine⟨_,_,rfl,ev,by rw[ak];exact Y3 (show _<=1000 by exact aL (Y2 al) few) (by decide),.fz (.str (ns.getD a.1 ⟨#[]⟩)),.fz (frR a.2),?_⟩;rw[bf]
  rfl
 .rintro _ ⟨x,y,rfl⟩;exact q
structure Made where
 cls:Addr
 of:bN
abbrev mdT(ns:Φ)(m:Made):T:=drT m.cls m.of.name m.of.pay (Ur ns m.of.ways)
structure Mds(D:Adr)(ns:Φ)(ds:List Made):Prop where
 few:ds.length<=1000
 cls:∀m∈ds,dg D m.cls
 ways:∀m∈ds,NWk ns m.of.ways
 nd:(ds.map λm=>m.of.name).Nodup
theorem ac9(ns:Φ)(n:Str)(h:n∉ns):kpK (nmK ns) (.inr n)=nmK (ns++[n])/\kpT (nmK ns) (ns.map λ_=>L2.T.bl true) (.inr n) (.bl true)=(ns++[n]).map λ_=>L2.T.bl true:=by
 unfold kpK kpT;rw[acn ns n h];refine⟨by rw[ZZ (by decide)];simp[nmK],?_⟩;rw[ZZ (by decide)];simp
def En(D:Adr):ST:=λts q=>∃(ns:Φ)(ds:List Made),ts=[.lst (ds.map (mdT ns)),.dct (nmK ns) (nmT ns)]/\ns.Nodup/\Mds D ns ds/\q (.l1 (ds.map λm=>ofT m.of))
theorem RQ(T:Tx D)(o7:gT 2 nP gK (uL D))(F:Fu u_ yI f fd):FT 3 f fd nu (En D):=by
 refine F.okT Pq λaf A outer s H E hr nd=>?_;refine⟨_,(bH (jg 2 NZ)
  (bH (jg 3 (dN bF))
  (bH (dY (b_ (qv 0)) (cj (n:=99) 4)
  (bH (cF (Pz 2 (acC (Bj hr) (Cp (Fm:=Fam D) (λC h=>⟨T.cl C h,T.Ih C h⟩) (qv 4)) (qv 2)))
  (bJ iV)
  bU)
  (bH (O2 2 (Bj hr) mU (Cp (Fm:=Fam D) (λC h=>⟨T.cl C h,T.Ih C h⟩) (qv 4)))
  (bJ (yD 3 (d9 (bC (Cp (Fm:=Fam D) (λC h=>⟨T.cl C h,T.Ih C h⟩) (qv 4)) (bC (Cp (Fm:=Fam D) (λC h=>⟨T.cl C h,T.abA C h⟩) (qv 4)) (bC (bK o7 (bC (qv 4) (bC (qv 1) bF))) bF)))))))))
  (bJ (jj 3))))),?_⟩
 rintro _ R ⟨ns,ds,rfl,nd,hd,q⟩;refine fM (mdT ns) ds (λas o=>∃x,o=[.fz (.lst (ds.map (mdT ns))),.fz (.dct (nmK ns) (nmT ns)),.d1 (nmK (as.map λm=>m.of.name)) ((as.map λm=>m.of.name).map λ_=>.bl true),.l1 (as.map λm=>ofT m.of),x]) ⟨_,rfl⟩ ?_ ?_
 .rintro as a bs _ e ⟨x,rfl⟩;have na:a.of.name∉as.map λm=>m.of.name:=by
   have nd:=hd.nd;rw[e,bf,List.map_cons]at nd;exact λz=>(List.nodup_append.mp nd).2.2 _ z _ (aO ..) rfl
  have al:as.length<ds.length:=by rw[e];simp
  have few:=hd.few;have ma:a∈ds:=e ▸ by simp
  have hc:=hd.cls a ma;refine⟨hc.fam,_,rfl,_,rfl,?_⟩;rw[WK _ _ _ na];refine⟨hc.fam,_,rfl,_,rfl,by rw[ak,ak];exact Y3 (show _<=1000 by exact aL (Y2 al) few) (by decide),hc.fam,_,rfl,hc.fam,_,rfl,_,_,_,ns,a.of.ways,rfl,hc,nd,hd.ways a ma,by rw[ak];exact Y3 (show _<=1000 by exact aL (Y2 al) few) (by decide),.fz (mdT ns a),?_⟩;obtain⟨k1,k2⟩:=ac9 (as.map λm=>m.of.name) a.of.name na;rw[show(as++[a]).map (λm=>m.of.name)=as.map (λm=>m.of.name)++[a.of.name]from bf,<- k1,<- k2,bf]
  rfl
 .rintro _ ⟨x,rfl⟩;exact q
structure afc(D:Adr)(ns:Φ)(am:List (List Made)):Prop where
 len:am.length=ns.length
 few:ns.length<=1000
 wd:∀n∈ns,Wd n
 nd:ns.Nodup
 mds:∀ds∈am,Mds D ns ds
abbrev Br(ns:Φ)(am:List (List Made)):List T:=(ns.zip am).map λp=>rmT (p.1,p.2.map (mdT ns))
abbrev offs(am:List (List Made)):List (List bN):=am.map λds=>ds.map λm=>m.of
def Xu(D:Adr):SI:=λC ks ts as R=>∃(s:Rat)(ns:Φ)(am:List (List Made)),C=D.Hall/\ks=[]/\ts=[]/\as=[frR s,.lst (Br ns am)]/\0<=s/\s<1/\Bq s/\afc D ns am/\R lE [frR s,.dct (nmK ns) (nmT ns),.lst ((offs am).map λds=>.lst (ds.map ofT))]
theorem Pn(T:Tx D)(uz:gT 3 rQ jF w6)(vG:gT 2 uy lC Bg)(xV:gT 3 u_ nu (En D))(F:Fun K DP CV su f fd):gW P w K mg base CX0 4 f fd mW (spI K (Xu D)):=by
 refine F.okI Ro (λC ks ts as R hP=>by obtain⟨n,p,_,_,_,_,e,_⟩:=hP;exact e ▸ rfl) (by decide) λaf A outer s H E hr nd=>?_;refine⟨_,(bH (oE (bK uz (bC (qv 1) bF)))
  (bH (sZ (Fm:=Fam D) 0 (λC h=>⟨T.cl C h,T.abb C h⟩) (qv 1))
  (bH (sZ (Fm:=Fam D) 0 (λC h=>⟨T.cl C h,T.Ci C h⟩) (bK vG (bC (qv 2) bF)))
  (bJ (sZ (Fm:=Fam D) 0 (λC h=>⟨T.cl C h,T.K7 C h⟩) (cH (bI su) w5 w5 ["room"] (b_ (qv 2)) (dh (i:=0)) cg (bK xV (bC (bL (qv 0) bG) (bC (acR (Fm:=Fam D) 1 (λC h=>⟨T.cl C h,T.Ci C h⟩)) bF))))))))),?_⟩
 rintro a dx C _ _ _ R ⟨s,ns,am,rfl,rfl,rfl,rfl,s0,s1,sb,h,q⟩;have z1:(ns.zip am).map (·.1)=ns:=List.map_fst_zip (by have:=h.len;exact WJ (Eq.symm this));have z2:(ns.zip am).map (·.2)=am:=List.map_snd_zip (by have:=h.len;exact WJ this);have zl:(ns.zip am).length=ns.length:=by rw[VX,h.len,UX]
 have hf:=JN D;have few:=h.few;refine⟨_,rfl,s0,s1,sb,⟨hf,by decide⟩,(ns.zip am).map λp=>(p.1,p.2.map (mdT ns)),by rw[WU];rfl,by rw[ak,zl];exact few,λp hp=>?_,?_,⟨hf,by decide⟩,?_⟩
 .obtain⟨x,hx,rfl⟩:=YV.mp hp;exact h.wd x.1 (z1 ▸ YV.mpr ⟨x,hx,rfl⟩)
 .rw[WU];exact z1.symm ▸ h.nd
 .rw[show((ns.zip am).map λp=>(p.1,p.2.map (mdT ns))).map (·.1)=ns from List.map_map.trans z1];refine⟨by rw[ak,zl];exact aL few (by decide),comp_map (λp=>rmT (p.1,p.2.map (mdT ns))) (λp=>.lst (p.2.map λm=>ofT m.of)) (ns.zip am) (λp hp N M hN=>?_) ⟨⟨hf,by decide⟩,_,_,rfl,?_⟩⟩
  .exact⟨hf,_,rfl,ns,p.2,rfl,h.nd,h.mds p.2 (z2 ▸ YV.mpr ⟨p,hp,rfl⟩),hN⟩
  .have:(ns.zip am).map (λp=>L2.T.lst (p.2.map λm=>ofT m.of))=(offs am).map λds=>.lst (ds.map ofT):=by
    rw[show(offs am).map (λds=>L2.T.lst (ds.map ofT))=am.map λds=>.lst (ds.map λm=>ofT m.of)from by simp[offs,WU,Function.comp_def]]
    conv=>rhs;rw[<- z2,WU]
    rfl
   rw[<- this]at q;exact q
structure Qs(ns:Φ)(off:List (List bN)):Prop where
 len:off.length=ns.length
 few:ns.length<=1000
 fews:∀ds∈off,ds.length<=1000
def mH(D:Adr):ST:=λts q=>∃(s:Rat)(ns:Φ)(off:List (List bN)),ts=[hlT D s ns off]/\q (.fz (.int (ns.length:Nat)))
theorem OJ(T:Tx D)(F:Fun K Ei CT zQ f fd):FT 1 f fd gB (mH D):=by
 refine F.okT PN λaf A outer s H E hr nd=>?_;refine⟨_,(bJ (bT (bZ Yq T.gD WG (bC (Cp (Fm:=Fam D) (λC h=>⟨T.cl C h,T.Ci C h⟩) (qv 0)) bF)))),?_⟩;rintro _ R ⟨s,ns,off,rfl,q⟩;refine⟨JN D,_,rfl,?_⟩;rw[<- ak (f:=(Sum.inr:Str->Key))]at q;exact q
def ug(D:Adr):ST:=λts q=>∃(s:Rat)(ns:Φ)(off:List (List bN))(k:Nat),ts=[hlT D s ns off,.int k]/\k<ns.length/\q (.fz .non)
theorem LC(T:Tx D)(fP:gT 1 oU jq sS)(dX:gI 1 D.Hall_size gB (mH D))(F:Fun K qJ qY m6 f fd):FT 2 f fd d8 (ug D):=by
 refine F.okT BK λaf A outer s H E hr nd=>?_;refine⟨_,(bJ (cF (QW.qt (iJ (fL (dz (bK fP (bC (qv 1) bF)))) (fX (fL (Sh XS Jt bG (qv 1) (yp (qv 0) T.jN T.pQ dX (KS:=lE)))))))
  (bJ iV)
  bU)),?_⟩
 rintro _ R ⟨s,ns,off,k,rfl,hk,q⟩;refine⟨_,_,rfl,rfl,⟨rfl,rfl⟩,_,_,_,rfl,?_⟩;show sw (!decide ((k:Int)<(ns.length:Nat))) _ _;rw[Zs (show(k:Int)<(ns.length:Nat)by lia)];exact q
def uP(D:Adr):ST:=λts q=>∃(s:Rat)(ns:Φ)(off:List (List bN))(k:Nat)(ds:List bN),ts=[hlT D s ns off,.int k]/\Qs ns off/\off[k]?=some ds/\q (.l1 (ds.map ofT))
theorem cW{α:Type}{l:List α}{h:α->T}{k:Nat}{a:α}(e:l[k]?=some a):ixT (l.map h) (k:Nat)=some (h a):=by
 show nth (l.map h) k=_;rw[vR,aq,e];rfl
theorem YW(T:Tx D)(eV:gI 2 D.Hall_check_room d8 (ug D))(F:Fun K zP zF oJ f fd):FT 3 f fd eU (uP D):=by
 refine F.okT Je λaf A outer s H E hr nd=>?_;refine⟨_,(bH (oE (Ak (qv 0) T.jN T.qZ eV (bC (qv 1) bF) (KS:=lE)))
  (bJ (bT (cH (bI oJ) tL tL ["name","pay","numbered"] (b_ (bL (Cp (Fm:=Fam D) (λC h=>⟨T.cl C h,T.K7 C h⟩) (qv 0)) (qv 1))) (fB (n:=3) (bQ (dh (i:=0)) (bQ (dh (i:=1)) (bQ (dh (i:=2)) dG)))) cg (d9 (bC (qv 0) (bC (qv 1) (bC (jY sV T.vJ boot_list (bC (qv 2) bF)) bF)))))))),?_⟩
 rintro _ R ⟨s,ns,off,k,ds,rfl,h,e,q⟩;have lk:k<ns.length:=by rw[<- h.len];exact(ao.mp e).1
 refine⟨⟨rfl,rfl⟩,s,ns,off,k,rfl,lk,JN D,_,rfl,.lst (ds.map ofT),cW (h:=λds=>L2.T.lst (ds.map ofT)) e,by rw[ak];exact aL (h.fews ds (aC e)) (by decide),comp_map ofT ofT ds (λo _ N M hN=>⟨rfl,hN⟩) q⟩
def abF(m:Nat):List (List T):=(List.range m).map λi=>(List.range m).map λj=>frR (if j=i then 1 else 0)
def xH:ST:=λts q=>∃m:Nat,ts=[.int m]/\m<=100/\q (.l2 (abF m))
theorem Kq(T:Tx D)(F:Fu rR kY f fd):FT 1 f fd jo xH:=by
 refine F.okT Jq λaf A outer s H E hr nd=>?_;refine⟨_,(bJ (bT (aaf (bI kY) kj kj "row" (eY T.gJ (bC (qv 0) bF)) afe cg (Yl (bI kY) ("row"::kj) ("row"::kj) ["column"] (eY T.gJ (bC (qv 1) bF)) (dh (i:=0)) cg (Ek (bW (go_eq hr.units) (qv 0) (qv 1)) (mq T.A_ T.uf) (mq T.k_ T.iY)))))),?_⟩;rintro _ R ⟨m,rfl,h,q⟩;have sz:(100:Nat)<=sizeLine:=by decide
 have rl:(rng 0 m).length<=sizeLine:=by rw[rng,ak,WP];exact aL h sz
 refine⟨⟨by lia,by lia⟩,rl,Ua (λi=>(List.range m).map λj=>frR (if j=i then 1 else 0)) m (λi hi N M hN=>⟨⟨by lia,by lia⟩,rl,N_ (λj=>frR (if j=i then 1 else 0)) m (λj hj N M hN=>?_) hN⟩) q⟩;by_cases e:j=i
 .rw[ZY e]at hN;exact swT (Zs (by lia)) hN
 .rw[ZZ e]at hN;exact swF (Zp (by lia)) hN
def dT:Option Nat->T
 |none=>.non
 |some d=>.int d
def X6:Option Nat->Nat->Bool
 |none,n=>decide (n=0)
 |some d,n=>decide (d<n)
structure PlT(off:List (List bN))(pl:List (Option Nat)):Prop where
 len:pl.length=off.length
 ok:∀(k:Nat)(d:Option Nat)(ds:List bN),pl[k]?=some d->off[k]?=some ds->X6 d ds.length=true
def chO(off:List (List bN))(pl:List (Option Nat)):List (Option bN):=pl.zipIdx.map λp=>p.1.bind λd=>(off.getD p.2 [])[d]?
def opT:Option bN->T
 |none=>.non
 |some o=>ofT o
def wR(D:Adr):ST:=λts q=>∃(s:Rat)(ns:Φ)(off:List (List bN))(pl:List (Option Nat)),ts=[hlT D s ns off,.lst (pl.map dT)]/\Qs ns off/\PlT off pl/\q (.l1 ((chO off pl).map opT))
theorem Hi(T:Tx D)(c7:gI 3 D.Hall_offers eU (uP D))(F:Fu pB mJ f fd):FT 4 f fd iI (wR D):=by
 refine F.okT G9 λaf A outer s H E hr nd=>?_;refine⟨_,(bJ (bT (cH (bI mJ) qK qK ["room","door"] (sy T.g8 (bC (qv 1) bF)) (fB (n:=2) (bQ (dh (i:=0)) (bQ (dh (i:=1)) dG))) cg (Ek (bW nW (qv 1) dU) dU (bL (Ak (qv 2) T.jN T.mR c7 (bC (qv 0) bF) (KS:=lE)) (qv 1)))))),?_⟩;rintro _ R ⟨s,ns,off,pl,rfl,h,hp,q⟩;refine⟨by unfold sI;rw[ak,UK,ak,hp.len,h.len];exact aL h.few (by decide),?_⟩;rw[Kl];refine comp_map (λp=>.tup [.int (p.2:Nat),dT p.1]) (λp=>opT (p.1.bind λd=>(off.getD p.2 [])[d]?)) pl.zipIdx (λp hm N M hN=>⟨rfl,?a⟩) ?b
 case b =>
  unfold chO at q;rw[WU]at q;exact q
 case a =>
  obtain⟨d,k⟩:=p;have e:=List.mem_zipIdx_iff_getElem?.mp hm;have lk:k<off.length:=by rw[<- hp.len];exact(ao.mp e).1
  have ek:=aj lk;have eg:off.getD k []=off[k]:=by rw[au,ek];rfl
  have ft:=hp.ok k d _ e ek;cases d with
  |none=>exact hN
  |some d =>
   have ld:d<(off[k]).length:=of_decide_eq_true ft;have hN:N (opT ((off.getD k [])[d]?)):=hN;rw[eg,aj ld]at hN;exact⟨⟨rfl,rfl⟩,_,_,_,k,_,rfl,h,ek,_,cW (aj ld),hN⟩
open Rw (vr jC je oR gcL iD iw tU mF Big qP kW oF lJ oH gq)
abbrev Row:=List Int×Int
abbrev rwT(r:Row):T:=.tup [.lst (r.1.map T.int),.int r.2]
def NN:Nat:=10^600
theorem agv{i:Int}(h:i.natAbs<=NN*NN*NN):Bd i:=Y3 h (by decide +kernel)
theorem bdN{i:Int}(h:i.natAbs<=NN):Bd i:=agv (aL h (by decide +kernel))
theorem adt{i:Int}(h:i.natAbs<=NN*NN):Bd i:=agv (aL h (by decide +kernel))
theorem adW{a b:Int}{m n:Nat}(h1:a.natAbs<=m)(h2:b.natAbs<=n):(a*b).natAbs<=m*n:=by rw[Up];exact UZ h1 h2
theorem uO{a b:Int}(h:0<b):Int.fdiv a b=a/b:=Int.fdiv_eq_ediv_of_nonneg _ (XY h)
def Fj:ST:=λts q=>∃r:Row,ts=[.lst (r.1.map T.int),.int r.2]/\0<r.2/\Bd r.2/\r.1.length<=1000/\q (.fz (rwT (jC r)))
theorem ZW(eF:gT 1 lO cM nJ)(F:Fu Ah Dy f fd):FT 2 f fd qe Fj:=by
 refine F.okT Zo λaf A outer s H E hr nd=>?_;refine⟨_,(bH (bR 2 (qv 1))
  (bH (dY (b_ (qv 0)) (cj (n:=99) 3)
  (bJ (bR 2 (bK eF (bC (qv 3) (bC (qv 2) bF))))))
  (bJ (bT (d9 (bC (cH (bI Dy) Vg ["tops","bottom","common","?top"] ["top"] (b_ (qv 0)) (dh (i:=0)) cg (bO pJ (qv 0) (qv 3))) (bC (bO pJ (qv 1) (qv 2)) bF))))))),?_⟩
 rintro _ R ⟨⟨tops,b⟩,rfl,hb,bb,tl,q⟩;have hb:0<b:=hb;have bb:Bd b:=bb;refine fM L2.T.int tops (λas o=>∃x,o=[.fz (.lst (tops.map L2.T.int)),.fz (.int b),.fz (.int (gcL as b)),x]) ⟨_,rfl⟩ ?_ ?_
 .rintro as a bs _ e ⟨x,rfl⟩;refine⟨_,_,rfl,.fz (.int a),?_⟩;rw[show gcL (as++[a]) b=((Int.gcd a (gcL as b):Nat):Int)from by unfold gcL;rw[List.foldl_append];rfl]
  rfl
 .rintro _ ⟨x,rfl⟩;have g0:=iD (ts:=tops) hb;have g1:Bd (gcL tops b):=Nv (by have:=tU (ts:=tops) hb;omega) bb;refine⟨by rw[ak];exact aL tl (by decide),comp_map L2.T.int (λt=>.int (t/gcL tops b)) tops (λt ht N M hN=>⟨⟨by exact WS g0,g1⟩,?_⟩) ⟨⟨by exact WS g0,g1⟩,?_⟩⟩
  .rw[uO g0];exact hN
  .rw[uO g0];have:(jC (tops,b)).1.map L2.T.int=tops.map λt=>.int (t/gcL tops b):=WU;rw[<- this];exact q
structure Fn(c:Rat):Prop where
 n:c.num.natAbs<=NN
 d:c.den<=NN
abbrev pr(c:Rat):Int×Int:=(c.num,c.den)
def Ds:ST:=λts q=>∃(r:Row)(c:Rat),ts=[rwT r,frR c]/\Big NN r/\r.1.length<=1000/\Fn c/\q (.fz (rwT (jC (je r (pr c)))))
theorem O9(T:Tx D)(uF:gT 2 Ah qe Fj)(F:Fu wJ sW f fd):FT 3 f fd mY Ds:=by
 refine F.okT O4 λaf A outer s H E hr nd=>?_;refine⟨_,(bJ (bT (bK uF (bC (cH (bI sW) zj zj ["top"] (b_ (bL (qv 0) bG)) (dh (i:=0)) cg (bO cY (qv 0) (bL (qv 2) bG))) (bC (bO cY (bL (qv 0) bG) (bL (qv 1) bG)) bF))))),?_⟩;rintro _ R ⟨r,c,rfl,hr,rl,hc,q⟩;have:=c.den_pos;have cd:((c.den:Nat):Int).natAbs<=NN:=hc.d;refine⟨by rw[ak];exact aL rl (by decide),comp_map L2.T.int (λt=>.int (t*c.num)) r.1 (λt ht N M hN=>⟨⟨bdN (hr.top t ht),bdN hc.n⟩,hN⟩) ⟨⟨bdN hr.bot,bdN cd⟩,je r (pr c),?_,XZ hr.pos (show(0:Int)<(c.den:Nat)by lia),adt (adW hr.bot cd),by show(r.1.map _).length<=1000;rw[ak];exact rl,q⟩⟩;show _=[L2.T.lst ((r.1.map λt=>t*c.num).map L2.T.int),.int (r.2*c.den)];rw[WU]
 rfl
def GP:ST:=λts q=>∃(r o:Row)(c:Rat),ts=[rwT r,rwT o,frR c]/\Big NN r/\Big NN o/\r.1.length<=1000/\o.1.length=r.1.length/\Fn c/\q (.fz (rwT (jC (oR r o (pr c)))))
theorem Tq(T:Tx D)(eF:gT 1 lO cM nJ)(uF:gT 2 Ah qe Fj)(F:Fu yc vf f fd):FT 3 f fd oO GP:=by
 refine F.okT Gx λaf A outer s H E hr nd=>?_;refine⟨_,(bH (bR 3 (bO cY (bL (qv 1) bG) (bL (qv 2) bG)))
  (bH (bR 4 (bK eF (bC (bL (qv 0) bG) (bC (qv 3) bF))))
  (bH (bR 5 (bO pJ (qv 3) (qv 4)))
  (bH (bR 6 (bO cY (bO pJ (bL (qv 0) bG) (qv 4)) (bL (qv 2) bG)))
  (bH (mZ (bI vf) Ca Ca ["one","another"] (Ke T.UJ (bC (bL (qv 0) bG) (bC (bL (qv 1) bG) bF))) (fB (n:=2) (bQ (dh (i:=0)) (bQ (dh (i:=1)) dG))) cg (bO dW (bO cY (qv 0) (qv 7)) (bO cY (qv 1) (qv 8))) (jh (i:=7) Gx.nd rfl (Or.inl rfl)))
  (bJ (bT (bK uF (bC (qv 7) (bC (bO cY (bL (qv 0) bG) (qv 5)) bF)))))))))),?_⟩
 rintro _ R ⟨r,o,c,rfl,hr,ho,rl,ol,hc,q⟩;have:=c.den_pos;have cd:((c.den:Nat):Int).natAbs<=NN:=hc.d;have hB:0<o.2*(c.den:Int):=XZ ho.pos (by lia);have bB:=adW ho.bot cd;have g0:=oK (a:=r.2) (WS hB);have gr:((Int.gcd r.2 (o.2*(c.den:Int)):Nat):Int)≠0:=by exact WS g0
 have gl:Int.gcd r.2 (o.2*(c.den:Int))<=r.2.natAbs:=UY (by have:=hr.pos;omega) (Int.gcd_dvd_natAbs_left ..);have gb:Bd ((Int.gcd r.2 (o.2*(c.den:Int)):Nat):Int):=bdN (by have:=hr.bot;lia);have d2:(o.2*(c.den:Int)/((Int.gcd r.2 (o.2*(c.den:Int)):Nat):Int)).natAbs<=NN*NN:=aL (Int.natAbs_ediv_le_natAbs _ _) bB;have d1:(r.2/((Int.gcd r.2 (o.2*(c.den:Int)):Nat):Int)).natAbs<=NN:=aL (Int.natAbs_ediv_le_natAbs _ _) hr.bot;refine⟨⟨bdN ho.bot,bdN cd⟩,_,_,rfl,⟨gr,gb⟩,⟨gr,gb⟩,⟨by rw[uO g0];exact bdN d1,bdN hc.n⟩,?_⟩;rw[uO g0,uO g0];refine⟨by unfold Gj;rw[ak,VX,ak,ak,ol,UX];exact aL rl (by decide),?_⟩;rw[zip_map];refine comp_map (λp=>.tup [.int p.1,.int p.2]) (λp=>.int (p.1*(o.2*(c.den:Int)/((Int.gcd r.2 (o.2*(c.den:Int)):Nat):Int))+p.2*(r.2/((Int.gcd r.2 (o.2*(c.den:Int)):Nat):Int)*c.num))) (r.1.zip o.1) (λp hp N M hN=>⟨rfl,⟨bdN (hr.top _ (VS hp).1),adt d2⟩,⟨bdN (ho.top _ (VS hp).2),adt (adW d1 hc.n)⟩,hN⟩) ⟨⟨bdN hr.bot,adt d2⟩,oR r o (pr c),?_,?_,agv ?_,?_,q⟩
 .show _=[L2.T.lst ((List.zipWith _ r.1 o.1).map L2.T.int),_];rw[List.map_zipWith,List.zip,List.map_zipWith]
  rfl
 .exact XZ hr.pos (Q3 hB (XY g0) (T2 ..))
 .rw[Nat.mul_assoc];exact adW hr.bot d2
 .show(List.zipWith _ r.1 o.1).length<=1000;rw[TH,ol,UX];exact rl
open Rw (vr jC je oR gcL iD iw tU mF Big qP kW oF lJ oH gq)
inductive Stp where
 |swap (i j:Nat)|times (i:Nat) (c:Rat)|add (i j:Nat) (c:Rat)
def stT:Stp->T
 |.swap i j=>.tup [.str "swap",.int i,.int j]
 |.times i c=>.tup [.str "times",.int i,frR c]
 |.add i j c=>.tup [.str "add",.int i,.int j,frR c]
def rAt(rs:List Row)(i:Nat):Row:=rs.getD i ([],1)
def yu(rs:List Row):Stp->List Row
 |.swap i j=>(rs.set i (rAt rs j)).set j (rAt rs i)
 |.times i c=>rs.set i (jC (je (rAt rs i) (pr c)))
 |.add i j c=>rs.set i (jC (oR (rAt rs i) (rAt rs j) (pr c)))
def aj9(n:Nat):Stp->Prop
 |.swap i j=>i<n/\j<n
 |.times i c=>i<n/\Fn c
 |.add i j c=>i<n/\j<n/\Fn c
theorem Aa{rs:List Row}{i:Nat}(h:i<rs.length):rs[i]?=some (rAt rs i):=by
 unfold rAt;rw[au,aj h];rfl
theorem fD{rs:List Row}{i:Nat}(h:i<rs.length):rAt rs i∈rs:=aC (Aa h)
theorem wg{n i:Nat}(h:i<n):ixN n ((i:Nat):Int)=some i:=by
 unfold ixN;rw[ZY (X9 _),ZY (by lia)];rfl
theorem uZ{rs:List Row}{i:Nat}(h:i<rs.length):ixT (rs.map rwT) ((i:Nat):Int)=some (rwT (rAt rs i)):=cW (Aa h)
structure Rws(rs:List Row)(wd:Nat):Prop where
 big:∀r∈rs,Big NN r
 wds:∀r∈rs,r.1.length=wd
 few:rs.length<=100
 wde:wd<=1000
def Em:SO:=λaw ts R=>∃(rs:List Row)(st:Stp)(wd:Nat),aw=[rs.map rwT]/\ts=[stT st]/\Rws rs wd/\aj9 rs.length st/\R [(yu rs st).map rwT]
theorem Qz(T:Tx D)(xR:gT 3 wJ mY Ds)(BP:gT 3 yc oO GP)(F:Fu vC xQ f fd):gW P w K mg base CX0 4 f fd ni (spO K Em):=by
 refine F.okO QH (λaw ts R ⟨rs,st,wd,e1,e2,_⟩=>by rw[e1,e2];rfl) (by decide) λaf A outer s H E hr nd=>?_;refine⟨_,(bH (bR 2 (zY 0 (bL (qv 1) bG)))
  (bJ (cF (bW (go_eq hr.units) (bL (qv 1) bG) uY)
  (bH (lM 0 (zY 0 (bL (qv 1) bG)) (bL (qv 1) bG))
  (bJ (lM 0 (qv 2) (bL (qv 1) bG))))
  (bJ (cF (bW (go_eq hr.units) (bL (qv 1) bG) uY)
  (bJ (lM 0 (bK xR (bC (qv 2) (bC (bL (qv 1) bG) bF))) (bL (qv 1) bG)))
  (bJ (lM 0 (bK BP (bC (qv 2) (bC (zY 0 (bL (qv 1) bG)) (bC (bL (qv 1) bG) bF)))) (bL (qv 1) bG)))))))),?_⟩
 rintro as aw ts R tl ⟨rs,st,wd,rfl,rfl,h,hs,q⟩;obtain⟨a,rfl⟩ : ∃a,as=[a]:=by
  match as,tl with
  |[a],_=>exact⟨a,rfl⟩
 have fin:∀(L:List L2.T)(x y:OT),R [L]->∃bj,(∀j,slot [.la a L,x,y] j=slot (List.zipWith OT.la [a] bj) j\/[a].length<=j)/\bj.length=[a].length/\R bj:=λL x y q=>⟨[L],λj=>by
  cases j with
  |zero=>exact .inl rfl
  |succ j=>exact .inr (by simp),rfl,q⟩
 have lm:(rs.map rwT).length=rs.length:=ak _
 match st,hs,q with
 |.swap i j,hs,q =>
  refine⟨_,uZ hs.1,_,uZ hs.2,i,wg (lm ▸ hs.1),j,wg (by rw[WH,lm];exact hs.2),fin _ _ _ ?_⟩;rw[yu,Th,Th]at q;exact q
 |.times i c,hs,q =>
  have m:=fD hs.1;refine⟨_,uZ hs.1,rAt rs i,c,rfl,h.big _ m,by rw[h.wds _ m];exact h.wde,hs.2,i,wg (lm ▸ hs.1),fin _ _ _ ?_⟩;rw[yu,Th]at q;exact q
 |.add i j c,hs,q =>
  have m:=fD hs.1;have n:=fD hs.2.1;refine⟨_,uZ hs.1,_,uZ hs.2.1,rAt rs i,rAt rs j,c,rfl,h.big _ m,h.big _ n,by rw[h.wds _ m];exact h.wde,by rw[h.wds _ m,h.wds _ n],hs.2.2,i,wg (lm ▸ hs.1),fin _ _ _ ?_⟩;rw[yu,Th]at q;exact q
open Rw (vr jC je oR gcL iD iw tU mF Big qP kW oF lJ oH gq)
def u5:ST:=λts q=>∃(r:Row)(k:Nat),ts=[rwT r,.int k]/\k<r.1.length/\Big NN r/\q (.fz (frR (vr r k)))
theorem Ox(dZ:gT 2 qG m_ uI)(F:Fu pY yW f fd):FT 3 f fd jV u5:=by
 refine F.okT RD λaf A outer s H E hr nd=>?_;refine⟨_,(bJ (bT (bK dZ (bC (bL (bL (qv 0) bG) (qv 1)) (bC (bL (qv 0) bG) bF))))),?_⟩;rintro _ R ⟨r,k,rfl,hk,hr,q⟩;have h0:=hr.pos;refine⟨_,cW (aj hk),_,_,rfl,by exact WS h0,bdN hr.bot,λx y l=>?_⟩;rw[j5 l (WS h0),TZ];unfold vr at q;rw[au,aj hk]at q;exact q
def wQ:ST:=λts q=>∃(rs:List Row)(wd:Nat),ts=[.lst (rs.map rwT)]/\Rws rs wd/\q (.l1 (rs.map λr=>.lst ((List.range wd).map λk=>frR (vr r k))))
theorem G5(dZ:gT 2 qG m_ uI)(F:Fu pq jJ f fd):FT 3 f fd iK wQ:=by
 refine F.okT Hw λaf A outer s H E hr nd=>?_;refine⟨_,(bJ (bT (adE (bI jJ) jP jP "row" (b_ (qv 0)) afe cg (Yl (bI jJ) ("row"::jP) ("row"::jP) ["top"] (b_ (bL (qv 0) bG)) (dh (i:=0)) cg (bK dZ (bC (qv 0) (bC (bL (qv 1) bG) bF))))))),?_⟩;rintro _ R ⟨rs,wd,rfl,h,q⟩;refine⟨by rw[ak];exact aL h.few (by decide),comp_map rwT (λr=>.lst ((List.range wd).map λk=>frR (vr r k))) rs (λr hr N M hN=>⟨by rw[ak,h.wds r hr];exact aL h.wde (by decide),?_⟩) q⟩;have hb:=h.big r hr;have h0:=hb.pos;refine comp_map T.int (λt=>frR ((t:Rat)/(r.2:Rat))) r.1 (λt ht N M hN=>⟨_,_,rfl,by exact WS h0,bdN hb.bot,λx y l=>by rw[j5 l (WS h0),TZ];exact hN⟩) ?_;have e:(r.1.map λt:Int=>frR ((t:Rat)/(r.2:Rat)))=(List.range wd).map λk=>frR (vr r k):=by
  refine UV (by rw[ak,ak,WP,h.wds r hr]) λn h1 h2=>?_;rw[ak]at h1;rw[VY,VY,UH];unfold vr;rw[au,aj h1]
  rfl
 rw[e];exact hN
theorem aa5{lo n i:Nat}{t:T}(e:(rng (lo:Nat) n)[i]?=some t):i<n/\t=.int ((lo+i:Nat):Int):=by
 unfold rng at e;rw[aq]at e;by_cases hi:i<n
 .rw[VZ hi]at e;cases e;exact⟨hi,rfl⟩
 .rw[aM (by simpa using hi)]at e;cases e
theorem aan{r:Row}{k:Nat}(h:0<r.2)(hk:k<r.1.length):vr r k=0↔r.1[k]=0:=by
 have e:vr r k=(r.1[k] : Rat)/(r.2:Rat):=by unfold vr;rw[au,aj hk];rfl
 have n:(r.2:Rat)≠0:=λz=>by have:=Rat.intCast_eq_zero_iff.mp z;lia
 rw[e];constructor
 .intro z;have:(r.1[k] : Rat)=0:=by grind
  exact Rat.intCast_eq_zero_iff.mp this
 .intro z;rw[z];grind
def Aw:ST:=λts R=>∃(rs:List Row)(wd p k:Nat),ts=[.lst (rs.map rwT),.int p,.int k]/\Rws rs wd/\p<=rs.length/\k<wd/\(∀q,p<=q->q<rs.length->vr (rAt rs q) k≠0->R (.fz (.int q)))/\((∀i,p<=i->i<rs.length->vr (rAt rs i) k=0)->R (.fz .non))
theorem LR(T:Tx D)(F:Fu ux uX f fd):FT 1 f fd kE Aw:=by
 refine F.okT Mt λaf A outer s H E hr nd=>?_;refine⟨_,(bH (dY (Ng T.gJ (bC (qv 1) (bC (bZ eN T.gD WG (bC (qv 0) bF)) bF))) (cj (n:=99) 3)
  (bJ (cF (bW (lZ hr.units) (bL (bL (bL (qv 0) (qv 3)) bG) (qv 2)) bG)
  (bJ (bT (qv 3)))
  bU)))
  (bJ (bT dU))),?_⟩
 rintro _ R ⟨rs,wd,p,k,rfl,h,hp,hk,q,q0⟩;have at_:∀i,i<rs.length->k<(rAt rs i).1.length:=λi hi=>by rw[h.wds _ (fD hi)];exact hk
 have few:=h.few;have lm:(rs.map rwT).length=rs.length:=ak _;refine⟨⟨by lia,by lia,by lia,by lia⟩,DN (λi o=>∃x,o=[.fz (.lst (rs.map rwT)),.fz (.int p),.fz (.int k),x]/\∀j,p<=j->j<p+i->vr (rAt rs j) k=0) _ 0 ⟨_,rfl,λj _ _=>by lia⟩ (λi t o e z=>?_) λo z=>?_⟩
 .obtain⟨hi,rfl⟩:=aa5 e;rw[lm]at hi;have eW:p+i<rs.length:=by omega
  obtain⟨x,rfl,hz⟩:=z;have v0:=aan (h.big _ (fD eW)).pos (at_ _ eW);refine⟨_,uZ eW,_,cW (aj (at_ _ eW)),?_⟩;by_cases c:(rAt rs (p+i)).1[k]'(at_ _ eW)=0
  .refine swF (by show xr true (decide (_=_))=false;rw[Zs c];rfl) ⟨_,rfl,λj hj hl=>?_⟩;by_cases ej:j=p+i
   .rw[ej];exact v0.mpr c
   .exact hz j hj (by lia)
  .exact swT (by show xr true (decide (_=_))=true;rw[Zp c];rfl) (q _ (X1 _ _) eW λz=>c (v0.mp z))
 .obtain⟨x,rfl,hz⟩:=z;refine q0 λj hj hl=>hz j hj ?_;unfold rng;rw[ak,WP,lm];lia
def Jh:SO:=λaw ts R=>∃(rs:List Row)(ss:List T)(st:Stp)(wd:Nat),aw=[rs.map rwT,ss]/\ts=[stT st]/\Rws rs wd/\aj9 rs.length st/\ss.length<sizeLine/\R [(yu rs st).map rwT,ss++[stT st]]
theorem abl(zG:OkF P w K mg base 4 vC ni (spO K Em))(F:Fu DG PJ f fd):gW P w K mg base CX0 5 f fd uQ (spO K Jh):=by
 refine F.okO Z0 (λaw ts R ⟨rs,ss,st,wd,e1,e2,_⟩=>by rw[e1,e2];rfl) (by decide) λaf A outer s H E hr nd=>?_;refine⟨_,(bH (afx 0 zG (bC (qv 2) bF))
  (bJ (yD 1 (qv 2)))),?_⟩
 rintro as aw ts R tl ⟨rs,ss,st,wd,rfl,rfl,h,hs,hl,q⟩;obtain⟨a,b,rfl⟩ : ∃a b,as=[a,b]:=by
  match as,tl with
  |[a,b],_=>exact⟨a,b,rfl⟩
 refine⟨rs,st,wd,rfl,rfl,h,hs,hl,[(yu rs st).map rwT,ss++[stT st]],λj=>?_,rfl,q⟩
 match j with
 |0=>exact .inl rfl
 |1=>exact .inl rfl
 |j+2=>exact .inr (by simp)
open Rw (vr jC je oR gcL iD iw tU mF Big qP kW oF lJ oH gq)
theorem Iu{rs:List Row}{i:Nat}{r:Row}(h:i<rs.length)(j:Nat):rAt (rs.set i r) j=if j=i then r else rAt rs j:=by
 unfold rAt;rw[au,au,List.getElem?_set];by_cases e:i=j
 .subst e;rw[ZY rfl,ZY rfl,ZY h];rfl
 .rw[ZZ e,ZZ (Ne.symm e)]
theorem Fn.of{a b:Int}(hb:b≠0)(h1:a.natAbs<=NN)(h2:b.natAbs<=NN):Fn (Rat.divInt a b):=by
 have hg:=Q2 a hb;have low:∃x y,Low a b x y:=by
  rcases Int.lt_or_lt_of_ne hb with z|z
  .exact⟨_,_,yw (c:=-((Int.gcd a b:Nat):Int)) hb (by lia) (by lia) (Int.mul_pos_of_neg_of_neg (by lia) z)⟩
  .exact⟨_,_,yw (c:=((Int.gcd a b:Nat):Int)) hb (by lia) (by lia) (XZ (by lia) z)⟩
 obtain⟨x,y,l⟩:=low;have e:=j5 l hb;injection e with e;injection e with e1 e;injection e with e2 e;injection e1 with e1;injection e2 with e2;exact⟨by rw[<- e1];exact aL l.lx h1,by have:=l.ly;lia⟩
theorem acy{r:Row}{k:Nat}(hk:k<r.1.length):vr r k=Rat.divInt r.1[k] r.2:=by
 unfold vr;rw[au,aj hk,TZ];rfl
theorem Fn.vr{r:Row}{k:Nat}(h:Big NN r)(hk:k<r.1.length):Fn (vr r k):=by
 have:=h.pos;rw[acy hk];exact Fn.of (WS this) (h.top _ (aU _)) h.bot
theorem Fn.inv{c:Rat}(h:Fn c)(h0:c≠0):Fn (1/c):=by
 have nb:c.num≠0:=λz=>h0 (by rw[<- rd c,z];exact JU _);rw[Rat.div_def,Rat.one_mul,Rat.inv_def];exact Fn.of nb h.d h.n
theorem Fn.neg{c:Rat}(h:Fn c):Fn (0-c):=by
 rw[Rat.sub_eq_add_neg,Rat.zero_add];exact⟨by show(-c.num).natAbs<=NN;rw[Int.natAbs_neg];exact h.n,h.d⟩
theorem Fn.bq{c:Rat}(h:Fn c):Bq c:=⟨bdN h.n,bdN h.d⟩
theorem Rws.fn{rs:List Row}{wd i k:Nat}(h:Rws rs wd)(hi:i<rs.length)(hk:k<wd):Fn (Rw.vr (rAt rs i) k):=Fn.vr (h.big _ (fD hi)) (by rw[h.wds _ (fD hi)];exact hk)
theorem Rws.of{rs eP:List Row}{wd:Nat}(h:Rws rs wd)(hl:eP.length=rs.length)(hr:∀i,i<rs.length->Big NN (rAt eP i)/\(rAt eP i).1.length=wd):Rws eP wd:=by
 have:∀r∈eP,Big NN r/\r.1.length=wd:=λr hm=>by
  obtain⟨i,hi,e0⟩:=List.getElem_of_mem hm;have e:=Aa hi;rw[aj hi,e0]at e;injection e with e;rw[e];exact hr i (hl ▸ hi)
 exact⟨λr hm=>(this r hm).1,λr hm=>(this r hm).2,hl ▸ h.few,h.wde⟩
theorem Jv(rs:List Row)(st:Stp):(yu rs st).length=rs.length:=by cases st<;>simp[yu]
def bgP(r:Row)(k:Nat):Row:=if vr r k=1 then r else jC (je r (pr (1/vr r k)))
def bgA(rs:List Row)(p q k i:Nat):Row:=if i=p then bgP (rAt rs q) k else rAt rs (Rw.sw p q i)
def swR(rs:List Row)(p q:Nat):List Row:=if q=p then rs else yu rs (.swap p q)
theorem aeC(rs:List Row)(p q:Nat):(swR rs p q).length=rs.length:=by
 unfold swR;split
 .rfl
 .exact Jv _ _
theorem agI{rs:List Row}{p q:Nat}(hp:p<rs.length)(hq:q<rs.length)(i:Nat):rAt (swR rs p q) i=rAt rs (Rw.sw p q i):=by
 unfold swR Rw.sw;by_cases e:q=p
 .subst e;rw[ZY rfl];by_cases c:i=q
  .rw[ZY c,c]
  .rw[ZZ c,ZZ c]
 .rw[ZZ e];show rAt ((rs.set p (rAt rs q)).set q (rAt rs p)) i=_;rw[Iu (by rw[WH];exact hq),Iu hp];by_cases c:i=q
  .subst c;rw[ZY rfl,ZZ e,ZY rfl]
  .rw[ZZ c];by_cases d:i=p
   .rw[ZY d,ZY d]
   .rw[ZZ d,ZZ d,ZZ c]
def DW:SO:=λaw ts R=>∃(rs:List Row)(ss:List T)(wd p q k:Nat),aw=[rs.map rwT,ss]/\ts=[.int p,.int q,.int k]/\Rws rs wd/\p<rs.length/\q<rs.length/\k<wd/\vr (rAt rs q) k≠0/\ss.length+2<sizeLine /\
 ∀eP im,eP.length=rs.length->(∀i,i<rs.length->rAt eP i=bgA rs p q k i)->im.length<=ss.length+2->R [eP.map rwT,im]
theorem ago{x y:RS}{E:DT}{o:List OT}(J:List OT->Prop)(k:∀o',J o'->y E o')(h:(∀o',J o'->y E o')->mC x y E o):mC x y E o:=h k
theorem eqR(v u:Rat):(decide (v.num=u.num)&&decide (((v.den:Nat):Int)=u.den))=decide (v=u):=by
 rw[<- Bool.decide_and];refine decide_eq_decide.mpr ⟨λ⟨a,b⟩=>Rat.ext a (by lia),λz=>by rw[z];exact⟨rfl,rfl⟩⟩
theorem fin2{R:List (List T)->Prop}{a b:Addr}(L M:List T){o:List OT}(q:R [L,M]):∃bj,(∀j,slot (.la a L::.la b M::o) j=slot (List.zipWith OT.la [a,b] bj) j\/[a,b].length<=j)/\bj.length=[a,b].length/\R bj:=⟨[L,M],λj=>by
 match j with
 |0=>exact .inl rfl
 |1=>exact .inl rfl
 |j+2=>exact .inr (by simp),rfl,q⟩
theorem aai{α β:Type}{as:List α}{x y:β}(tl : [x,y].length=as.length):∃a b,as=[a,b]:=by
 match as,tl with
 |[a,b],_=>exact⟨a,b,rfl⟩
theorem Ov(T:Tx D)(wj:OkF P w K mg base 5 DG uQ (spO K Jh))(lX:gT 3 pY jV u5)(WL:gT 3 N7 CP XD)(F:Fu wu zA f fd):gW P w K mg base CX0 6 f fd mD (spO K DW):=by
 refine F.okO Oh (λaw ts R ⟨rs,ss,wd,p,q,k,e1,e2,_⟩=>by rw[e1,e2];rfl) (by decide) λaf A outer s H E hr nd=>?_;refine⟨_,(bH (cF (bW (lZ hr.units) (qv 3) (qv 2))
  (bJ (Ju 0 1 wj hr.md (by rfl) (bC (d9 (bC uY (bC (qv 2) (bC (qv 3) bF)))) bF)))
  bU)
  (bH (bR 5 (bK lX (bC (zY 0 (qv 2)) (bC (qv 4) bF))))
  (bJ (cF (bW (lZ hr.units) (qv 5) (mq T.A_ T.uf))
  (bJ (Ju 0 1 wj hr.md (by rfl) (bC (d9 (bC uY (bC (qv 2) (bC (bK WL (bC (mq T.A_ T.uf) (bC (qv 5) bF))) bF)))) bF)))
  bU)))),?_⟩
 rintro as aw ts R tl ⟨rs,ss,wd,p,q,k,rfl,rfl,h,hp,hq,hk,h0,hl,ok⟩;obtain⟨a,b,rfl⟩:=aai tl;have sl:=aeC rs p q;have sa:=agI hp hq;have gX:Rw.sw p q p=q:=ZY rfl;have swl:∀i,i<rs.length->Rw.sw p q i<rs.length:=λi hi=>by
  unfold Rw.sw;split
  .exact hq
  .split<;>omega
 have hS:Rws (swR rs p q) wd:=h.of sl λi hi=>by rw[sa];exact⟨h.big _ (fD (swl i hi)),h.wds _ (fD (swl i hi))⟩
 refine ago (λo=>∃dS,o=[.la a ((swR rs p q).map rwT),.la b dS,.fz (.int p),.fz (.int q),.fz (.int k),.und]/\dS.length<=ss.length+1) ?_ λgo=>?_
 .rintro _ ⟨dS,rfl,l1⟩;have eI:p<(swR rs p q).length:=by lia
  have hk':k<(rAt (swR rs p q) p).1.length:=by rw[hS.wds _ (fD eI)];exact hk
  have fn:=hS.fn eI hk;refine⟨_,uZ eI,_,k,rfl,hk',hS.big _ (fD eI),?_⟩;have v:vr (rAt (swR rs p q) p) k=vr (rAt rs q) k:=by rw[sa,gX]
  rw[v];rw[v]at fn;by_cases e:vr (rAt rs q) k=1
  .refine swF (by show xr true (_&&_)=false;rw[show(decide ((vr (rAt rs q) k).num=1)&&decide (((vr (rAt rs q) k).den:Int)=1))=_ from eqR _ 1,Zs e];rfl) (fin2 _ _ (ok _ _ sl (λi hi=>?_) (aL l1 (Xs _))));rw[sa];unfold bgA bgP;split
   .rename_i c;rw[c,gX]
   .rfl
  .refine swT (by show xr true (_&&_)=true;rw[show(decide ((vr (rAt rs q) k).num=1)&&decide (((vr (rAt rs q) k).den:Int)=1))=_ from eqR _ 1,Zp e];rfl) ⟨1,_,rfl,h0,bq1,fn.bq,by show Bd (1*_);rw[Tk];exact bdN fn.n,swR rs p q,dS,.times p (1/vr (rAt rs q) k),wd,rfl,rfl,hS,⟨eI,fn.inv h0⟩,by lia,fin2 _ _ (ok _ _ (by rw[Jv];exact sl) (λi hi=>?_) (by rw[aA];show _+1<=_;exact Nat.succ_le_succ l1))⟩;show rAt ((swR rs p q).set p _) i=_;rw[Iu eI,sa,sa,gX];unfold bgA bgP;split
   .rfl
   .rfl
 .by_cases e:q=p
  .refine swF (by show xr true (decide (_=_))=false;rw[Zs (by lia)];rfl) (go [.la a (rs.map rwT),.la b ss,.fz (.int p),.fz (.int q),.fz (.int k),.und] ⟨ss,?_,by exact Xs _⟩);unfold swR;rw[ZY e]
  .refine swT (by show xr true (decide (_=_))=true;rw[Zp (by lia)];rfl) ⟨rs,ss,.swap p q,wd,rfl,rfl,h,⟨hp,hq⟩,by lia,go [.la a ((yu rs (.swap p q)).map rwT),.la b (ss++[stT (.swap p q)]),.fz (.int p),.fz (.int q),.fz (.int k),.und] ⟨ss++[stT (.swap p q)],?_,by simp⟩⟩;unfold swR;rw[ZZ e]
open Rw (vr jC je oR gcL iD iw tU mF Big qP kW oF lJ oH gq)
def clA(rs:List Row)(p k i:Nat):Row:=if i=p\/vr (rAt rs i) k=0 then rAt rs i else jC (oR (rAt rs i) (rAt rs p) (pr (0-vr (rAt rs i) k)))
def wV:SO:=λaw ts R=>∃(rs:List Row)(ss:List T)(wd p k:Nat),aw=[rs.map rwT,ss]/\ts=[.int p,.int k]/\Rws rs wd/\p<rs.length/\k<wd/\ss.length+rs.length<sizeLine/\(∀i,i<rs.length->Big NN (clA rs p k i)) /\
 ∀eP im,eP.length=rs.length->(∀i,i<rs.length->rAt eP i=clA rs p k i)->im.length<=ss.length+rs.length->R [eP.map rwT,im]
theorem adG{rs:List Row}{p k i wd:Nat}(h:Rws rs wd)(hp:p<rs.length)(hi:i<rs.length):(clA rs p k i).1.length=wd:=by
 unfold clA;split
 .exact h.wds _ (fD hi)
 .rw[lJ];show(List.zipWith _ (rAt rs i).1 (rAt rs p).1).length=wd;rw[TH,h.wds _ (fD hi),h.wds _ (fD hp),UX]
theorem HF(T:Tx D)(wj:OkF P w K mg base 5 DG uQ (spO K Jh))(lX:gT 3 pY jV u5)(pW:gT 3 yJ qz Di)(F:Fu o_ rK f fd):gW P w K mg base CX0 6 f fd iH (spO K wV):=by
 refine F.okO Ho (λaw ts R ⟨rs,ss,wd,p,k,e1,e2,_⟩=>by rw[e1,e2];rfl) (by decide) λaf A outer s H E hr nd=>?_;refine⟨_,(bJ (dY (eY T.gJ (bC (Ri 0 (bZ eN T.gD WG (bC (qv 0) bF))) bF)) (cj (n:=99) 4)
  (bJ (cF (QW.qt (Qe (bW (lZ hr.units) (qv 4) (qv 2)) (Ig (bW (lZ hr.units) (bL (bL (zY 0 (qv 4)) bG) (qv 3)) bG))))
  (bH (bR 5 (bK pW (bC (mq T.k_ T.iY) (bC (bK lX (bC (zY 0 (qv 4)) (bC (qv 3) bF))) bF))))
  (bJ (Ju 0 1 wj hr.md (by rfl) (bC (d9 (bC uY (bC (qv 4) (bC (qv 2) (bC (qv 5) bF))))) bF))))
  bU)))),?_⟩
 rintro as aw ts R tl ⟨rs,ss,wd,p,k,rfl,rfl,h,hp,hk,hl,hb,ok⟩;obtain⟨a,b,rfl⟩:=aai tl;have lm:(rs.map rwT).length=rs.length:=ak _;have few:=h.few;refine⟨trivial,⟨by lia,by lia⟩,uU (λn o=>∃dk dS x y,o=[.la a (dk.map rwT),.la b dS,.fz (.int p),.fz (.int k),x,y]/\dk.length=rs.length/\(∀i,i<rs.length->rAt dk i=if i<n then clA rs p k i else rAt rs i)/\dS.length<=ss.length+n) ⟨rs,ss,_,_,rfl,rfl,λi _=>by rw[ZZ (WZ _)],aG _⟩ ?_ ?_⟩
 .rintro n _ hn ⟨dk,dS,x,y,rfl,l1,gL,s1⟩;have hn:n<rs.length:=by rw[lm]at hn;lia
  have rn:rAt dk n=rAt rs n:=by rw[gL n hn,ZZ (X2 _)]
  have rp:rAt dk p=rAt rs p:=by
   rw[gL p hp];split
   .unfold clA;rw[ZY (.inl rfl)]
   .rfl
  have h1:Rws dk wd:=h.of l1 λi hi=>by
   rw[gL i hi];split
   .exact⟨hb i hi,adG h hp hi⟩
   .exact⟨h.big _ (fD hi),h.wds _ (fD hi)⟩
  have stay:clA rs p k n=rAt rs n->∀i,i<rs.length->rAt dk i=if i<n+1 then clA rs p k i else rAt rs i:=λe i hi=>by
   rw[gL i hi];by_cases c:i=n
   .subst c;rw[ZZ (X2 _),ZY (X0 _),e]
   .by_cases d:i<n
    .rw[ZY d,ZY (WV _ d)]
    .rw[ZZ d,ZZ (by lia)]
  by_cases e:n=p
  .exact swF (by show xr true (decide (_=_))=false;rw[Zs (by lia)];rfl) ⟨dk,dS,_,_,rfl,l1,stay (ZY (.inl e)),by lia⟩
  .have gu:n<dk.length:=by lia
   have hk1:k<(rAt dk n).1.length:=by rw[h1.wds _ (fD gu)];exact hk
   have v0:=aan (h1.big _ (fD gu)).pos hk1;refine swT (by show xr true (decide (_=_))=true;rw[Zp (by lia)];rfl) ⟨_,uZ gu,_,cW (aj hk1),?_⟩;by_cases c:(rAt dk n).1[k]'hk1=0
   .exact swF (by show xr true (decide (_=_))=false;rw[Zs c];rfl) ⟨dk,dS,_,_,rfl,l1,stay (ZY (.inr (by rw[<- rn];exact v0.mpr c))),by lia⟩
   .have fn:=h1.fn gu hk;refine swT (by show xr true (decide (_=_))=true;rw[Zp c];rfl) ⟨_,uZ gu,_,k,rfl,hk1,h1.big _ (fD gu),0,_,rfl,bq0,fn.bq,by show Bd (1*_);rw[Tk];exact bdN fn.d,dk,dS,.add n p (0-vr (rAt dk n) k),wd,rfl,rfl,h1,⟨gu,by lia,fn.neg⟩,by lia,yu dk (.add n p (0-vr (rAt dk n) k)),dS++[stT (.add n p (0-vr (rAt dk n) k))],_,_,rfl,by rw[Jv];exact l1,λi hi=>?_,by rw[aA];show _+1<=_;lia⟩;show rAt (dk.set n _) i=_;rw[Iu gu,rn,rp];by_cases d:i=n
    .rw[ZY d,d,ZY (X0 _)];unfold clA;rw[ZZ λz=>z.elim e λz=>c (v0.mp (by rw[rn];exact z))]
    .rw[ZZ d,gL i hi];by_cases d':i<n
     .rw[ZY d',ZY (WV _ d')]
     .rw[ZZ d',ZZ (by lia)]
 .rintro _ ⟨dk,dS,x,y,rfl,l1,gL,s1⟩;rw[lm]at gL s1;exact fin2 _ _ (ok dk dS l1 (λi hi=>by rw[gL i hi,ZY (by lia)]) (by lia))
open Rw (vr jC je oR gcL iD iw tU mF Big qP kW oF lJ oH gq sg jA jd cA j7 j_)
theorem abW(c:Rat):(((pr c).1:Int):Rat)/(((pr c).2:Int):Rat)=c:=by rw[<- TZ];exact rd c
theorem O_(c:Rat):0<(pr c).2:=by have:=c.den_pos;show(0:Int)<(c.den:Nat);lia
theorem Xv{r:Row}(h:0<r.2):0<(jC r).2:=Q3 h (XY (iD h)) iw.1
theorem agD{r:Row}{k:Nat}(h:0<r.2)(h0:vr r k≠0):0<(bgP r k).2/\(bgP r k).1.length=r.1.length/\(gcL (bgP r k).1 (bgP r k).2=1\/bgP r k=r)/\∀j,vr (bgP r k) j*vr r k=vr r j:=by
 unfold bgP;by_cases e:vr r k=1
 .rw[ZY e];exact⟨h,rfl,.inr rfl,λj=>by rw[e,Rat.mul_one]⟩
 .rw[ZZ e];have tp:0<(je r (pr (1/vr r k))).2:=XZ h (O_ _);refine⟨Xv tp,by rw[lJ];unfold je;rw[ak],.inl (mF tp),λj=>?_⟩;rw[qP tp,kW h (O_ _),abW]
  grind
theorem ahe{rs:List Row}{p k i:Nat}(hi:0<(rAt rs i).2)(hp:0<(rAt rs p).2)(hl:(rAt rs i).1.length=(rAt rs p).1.length):0<(clA rs p k i).2/\(gcL (clA rs p k i).1 (clA rs p k i).2=1\/clA rs p k i=rAt rs i)/\∀j,vr (clA rs p k i) j=if i=p then vr (rAt rs p) j else vr (rAt rs i) j-vr (rAt rs i) k*vr (rAt rs p) j:=by
 unfold clA;by_cases e:i=p
 .rw[ZY (.inl e)];exact⟨hi,.inr rfl,λj=>by rw[ZY e,e]⟩
 .by_cases z:vr (rAt rs i) k=0
  .rw[ZY (.inr z)];exact⟨hi,.inr rfl,λj=>by rw[ZZ e,z];grind⟩
  .rw[ZZ λy=>y.elim e z];have tp:0<(oR (rAt rs i) (rAt rs p) (pr (0-vr (rAt rs i) k))).2:=by
    have hB:=XZ hp (O_ (0-vr (rAt rs i) k));exact XZ hi (Q3 hB (XY (oK (WS hB))) (T2 _ _))
   refine⟨Xv tp,.inl (mF tp),λj=>?_⟩;rw[qP tp,oF hi hp (O_ _) hl,abW,ZZ e]
   grind
structure FnB(M:Nat)(c:Rat):Prop where
 n:c.num.natAbs<=M
 d:c.den<=M
theorem FnB.vr{M:Nat}{r:Row}{k:Nat}(h:Big M r)(hk:k<r.1.length):FnB M (Rw.vr r k):=by
 have hb:=h.pos;have hg:=Q2 r.1[k] (WS hb);have l:=yw (t:=r.1[k]) (c:=((Int.gcd r.1[k] r.2:Nat):Int)) (WS hb) (by lia) (by lia) (XZ (by lia) hb);have e:=j5 l (WS hb);rw[acy hk];injection e with e;injection e with e1 e;injection e with e2 e;injection e1 with e1;injection e2 with e2;exact⟨by rw[<- e1];exact aL l.lx (h.top _ (aU _)),by have:=l.ly;have:=h.bot;omega⟩
structure B0(rs0:List Row)(wd N:Nat):Prop where
 big:∀i,i<rs0.length->Big N (rAt rs0 i)/\(rAt rs0 i).1.length=wd
 one:1<=N
 mb:(2*rs0.length*N)^rs0.length<=NN
 nn:N<=NN
abbrev aT(rs0:List Row)(i j:Nat):Int:=(rAt rs0 i).1.getD j 0
abbrev aB(rs0:List Row)(i:Nat):Int:=(rAt rs0 i).2
structure Gs(rs0:List Row)(wd N c:Nat)(rs:List Row):Prop where
 len:rs.length=rs0.length
 row:∀i,i<rs0.length->0<(rAt rs i).2/\(rAt rs i).1.length=wd/\(gcL (rAt rs i).1 (rAt rs i).2=1\/Big N (rAt rs i))
 st:∃pv s,gq (aT rs0) (aB rs0) rs0.length wd (λi j=>vr (rAt rs i) j) c pv s
 unit:∀i l,i<rs0.length->l<c->vr (rAt rs i) l=if i=l then 1 else 0
 ker:∀x:Nat->Rat,(∀i,i<rs0.length->sg (λj=>vr (rAt rs i) j*x j) wd=0)->∀i,i<rs0.length->sg (λj=>vr (rAt rs0 i) j*x j) wd=0
section
variable{rs0 rs:List Row}{wd N c q:Nat}
theorem B0.zero(h:B0 rs0 wd N):Gs rs0 wd N 0 rs0:=⟨rfl,λi hi=>⟨(h.big i hi).1.pos,(h.big i hi).2,.inr (h.big i hi).1⟩,⟨λ_=>0,id,gq.zero λi hi=>(h.big i hi).1.pos⟩,λ_ _ _ z=>absurd z (WZ _),λ_ z=>z⟩
theorem amo{m N:Nat}(hm:1<=m)(h1:1<=N):N<=(2*m*N)^m:=by
  have x:N<=2*m*N:=Q4 _ (by lia);have y:1<=2*m*N:=UZ (show 1<=2*m by lia) h1
  calc N<=(2*m*N)^1:=by rw[Nat.pow_one];exact x
    _<=_:=XU y hm
theorem B0.sbigM(h:B0 rs0 wd N){R:Nat->Nat->Rat}{p:Nat}(st:∃pv s,gq (aT rs0) (aB rs0) rs0.length wd R p pv s){i:Nat}(hi:i<rs0.length){r:Row}(hr:0<r.2)(hw:r.1.length=wd)(g:gcL r.1 r.2=1\/Big N r)(e:∀j,j<wd->vr r j=R i j):Big ((2*rs0.length*N)^rs0.length) r:=by
 rcases g with g|g
 .obtain⟨pv,s,st⟩:=st;obtain⟨v,u,u0,ub,vb,ee⟩:=st.bound h.one (λi j hi hj=>by
   have b:=h.big i hi;show((rAt rs0 i).1.getD j 0).natAbs<=N;rw[au,aj (by rw[b.2];exact hj)];exact b.1.top _ (aU _)) (λi hi=>⟨(h.big i hi).1.pos,(h.big i hi).1.bot⟩) hi
  exact oH hr g hw u0 ub vb λj hj=>by rw[e j hj];exact ee j hj
 .exact g.le (amo (by lia) h.one)
theorem B0.sbig(h:B0 rs0 wd N){R:Nat->Nat->Rat}{p:Nat}(st:∃pv s,gq (aT rs0) (aB rs0) rs0.length wd R p pv s){i:Nat}(hi:i<rs0.length){r:Row}(hr:0<r.2)(hw:r.1.length=wd)(g:gcL r.1 r.2=1\/Big N r)(e:∀j,j<wd->vr r j=R i j):Big NN r:=(h.sbigM st hi hr hw g e).le h.mb
theorem Gs.bigM(g:Gs rs0 wd N c rs)(h:B0 rs0 wd N){i:Nat}(hi:i<rs0.length):Big ((2*rs0.length*N)^rs0.length) (rAt rs i):=h.sbigM g.st hi (g.row i hi).1 (g.row i hi).2.1 (g.row i hi).2.2 λ_ _=>rfl
theorem Gs.big(g:Gs rs0 wd N c rs)(h:B0 rs0 wd N){i:Nat}(hi:i<rs0.length):Big NN (rAt rs i):=h.sbig g.st hi (g.row i hi).1 (g.row i hi).2.1 (g.row i hi).2.2 λ_ _=>rfl
theorem X5{p q i m:Nat}(hp:p<m)(hq:q<m)(hi:i<m):Rw.sw p q i<m:=by
 unfold Rw.sw;split
 .exact hq
 .split<;>omega
theorem aeZ(p q i:Nat):Rw.sw p q (Rw.sw p q i)=i:=by
 unfold Rw.sw;by_cases a:i=p
 .subst a;rw[ZY rfl];by_cases b:q=i
  .rw[ZY b,b]
  .rw[ZZ b,ZY rfl]
 .by_cases b:i=q
  .subst b;rw[ZZ a,ZY rfl,ZY rfl]
  .rw[ZZ a,ZZ b,ZZ a,ZZ b]
theorem Gs.next(g:Gs rs0 wd N c rs)(h:B0 rs0 wd N)(hc:c<rs0.length)(cw:c<wd)(hq:c<=q)(dP:q<rs0.length)(h0:vr (rAt rs q) c≠0){rs2:List Row}(e2:∀i,i<rs0.length->rAt rs2 i=bgA rs c q c i) :
  (∀i,i<rs0.length->Big NN (rAt rs2 i)/\(rAt rs2 i).1.length=wd)/\(∀i,i<rs0.length->Big NN (clA rs2 c c i))/\∀g3:List Row,g3.length=rs0.length->(∀i,i<rs0.length->rAt g3 i=clA rs2 c c i)->Gs rs0 wd N (c+1) g3:=by
 have gX:Rw.sw c q c=q:=ZY rfl;obtain⟨b1,b2,b3,b4⟩:=agD (g.row q dP).1 h0;have ec:rAt rs2 c=bgP (rAt rs q) c:=by rw[e2 c hc];exact ZY rfl
 have ei:∀i,i<rs0.length->i≠c->rAt rs2 i=rAt rs (Rw.sw c q i):=λi hi ne=>by rw[e2 i hi];exact ZZ ne
 have c6:∀i,i<rs0.length->0<(rAt rs2 i).2/\(rAt rs2 i).1.length=wd/\(gcL (rAt rs2 i).1 (rAt rs2 i).2=1\/Big N (rAt rs2 i)):=λi hi=>by
  by_cases e:i=c
  .rw[e,ec];refine⟨b1,by rw[b2];exact(g.row q dP).2.1,b3.elim .inl λz=>?_⟩;rw[z];exact(g.row q dP).2.2
  .rw[ei i hi e];exact g.row _ (X5 hc dP hi)
 have cl:=λi(hi:i<rs0.length)=>ahe (rs:=rs2) (p:=c) (k:=c) (i:=i) (c6 i hi).1 (c6 c hc).1 (by rw[(c6 i hi).2.1,(c6 c hc).2.1]);have clw:∀i,i<rs0.length->(clA rs2 c c i).1.length=wd:=λi hi=>by
  unfold clA;split
  .exact(c6 i hi).2.1
  .rw[lJ];show(List.zipWith _ (rAt rs2 i).1 (rAt rs2 c).1).length=wd;rw[TH,(c6 i hi).2.1,(c6 c hc).2.1,UX]
 have clg:∀i,i<rs0.length->gcL (clA rs2 c c i).1 (clA rs2 c c i).2=1\/Big N (clA rs2 c c i):=λi hi=>(cl i hi).2.1.elim .inl λz=>by rw[z];exact(c6 i hi).2.2
 have Vc:∀j,vr (clA rs2 c c c) j*vr (rAt rs q) c=vr (rAt rs q) j:=λj=>by
  rw[(cl c hc).2.2 j,ZY rfl,ec];exact b4 j
 have Vi:∀i,i<rs0.length->i≠c->∀j,vr (clA rs2 c c i) j=vr (rAt rs (Rw.sw c q i)) j-vr (rAt rs (Rw.sw c q i)) c*vr (clA rs2 c c c) j:=λi hi ne j=>by
  rw[(cl i hi).2.2 j,(cl c hc).2.2 j,ZZ ne,ZY rfl,ei i hi ne]
 have bu:∃pv s,gq (aT rs0) (aB rs0) rs0.length wd (λi j=>vr (clA rs2 c c i) j) (c+1) pv s:=by
  obtain⟨pv,s,st⟩:=g.st;have s1:=st.swap hq dP (R':=λi j=>vr (rAt rs (Rw.sw c q i)) j) λi j _ _=>rfl;exact⟨_,_,s1.pivot hc (λi hi=>(h.big i hi).1.pos) cw (by show vr (rAt rs (Rw.sw c q c)) c≠0;rw[gX];exact h0) (R':=λi j=>vr (clA rs2 c c i) j) (λj _=>by show vr (clA rs2 c c c) j*vr (rAt rs (Rw.sw c q c)) c=vr (rAt rs (Rw.sw c q c)) j;rw[gX];exact Vc j) λi j hi ne _=>Vi i hi ne j⟩
 have nr:∀i,i<rs0.length->Big NN (clA rs2 c c i):=λi hi=>h.sbig bu hi (cl i hi).1 (clw i hi) (clg i hi) λ_ _=>rfl;refine⟨λi hi=>⟨?_,(c6 i hi).2.1⟩,nr,λg3 l3 e3=>⟨l3,λi hi=>by rw[e3 i hi];exact⟨(cl i hi).1,clw i hi,clg i hi⟩,?_,λi l hi hl=>?_,λx hx=>g.ker x λi hi=>?_⟩⟩
 .by_cases e:i=c
  .rw[e];refine h.sbig bu hc (c6 c hc).1 (c6 c hc).2.1 (c6 c hc).2.2 λj _=>?_;show _=vr (clA rs2 c c c) j;rw[(cl c hc).2.2 j,ZY rfl]
  .rw[ei i hi e];exact g.big h (X5 hc dP hi)
 .obtain⟨pv,s,st⟩:=bu;exact⟨pv,s,st.congr λi j hi=>by rw[e3 i hi]⟩
 .rw[e3 i hi];have v0:l<c->vr (clA rs2 c c c) l=0:=λhl=>by
   have:=Vc l;rw[g.unit q l dP hl,ZZ (by lia)]at this
   grind
  have v1:vr (clA rs2 c c c) c=1:=by
   have:=Vc c
   grind
  by_cases e:i=c
  .subst e;by_cases z:l<i
   .rw[v0 z,ZZ (VT z)]
   .rw[show l=i by lia,v1,ZY rfl]
  .rw[Vi i hi e l];by_cases z:l<c
   .rw[v0 z,g.unit _ l (X5 hc dP hi) z];have:(Rw.sw c q i=l)=(i=l):=by
     unfold Rw.sw;rw[ZZ e];split
     .exact propext ⟨λ_=>by lia,λ_=>by lia⟩
     .rfl
    simp only[this]
    grind
   .rw[show l=c by lia,v1,ZZ e]
    grind
 .have mE:=hx c hc;rw[e3 c hc]at mE;by_cases e:i=q
  .rw[e,cA (g:=λj=>vr (rAt rs q) c*(vr (clA rs2 c c c) j*x j)) λj _=>by rw[<- Vc j];grind,jd,mE]
   grind
  .have hs:=X5 hc dP hi;have ne:Rw.sw c q i≠c:=λz=>by
    have:=aeZ c q i;rw[z,gX]at this;exact e this.symm
   have hi0:=hx _ hs;rw[e3 _ hs]at hi0;rw[cA (g:=λj=>vr (clA rs2 c c (Rw.sw c q i)) j*x j+vr (rAt rs i) c*(vr (clA rs2 c c c) j*x j)) λj _=>by rw[Vi _ hs ne,aeZ];grind,jA,jd,mE,hi0]
   grind
theorem Gs.found(g:Gs rs0 wd N c rs)(hc:c<rs0.length)(cw:c<wd)(inj:∀x:Nat->Rat,(∀j,rs0.length<=j->x j=0)->(∀i,i<rs0.length->sg (λj=>vr (rAt rs0 i) j*x j) wd=0)->∀j,j<rs0.length->x j=0):¬∀i,c<=i->i<rs0.length->vr (rAt rs i) c=0:=λhz=>by
 have:=inj (λj=>if j<c then -(vr (rAt rs j) c)else if j=c then 1 else 0) (λj hj=>by rw[ZZ (by lia),ZZ (by lia)]) (g.ker _ λi hi=>?_) c hc
 .rw[ZZ (X2 _),ZY rfl]at this;exact absurd this (by decide)
 .rw[cA (g:=λj=>(if j=i then 1 else 0)*(if j<c then -(vr (rAt rs j) c)else 0)+(if j=c then 1 else 0)*vr (rAt rs i) c) λj hj=>?_,jA,j_ (v:=λj=>if j<c then -(vr (rAt rs j) c)else 0),j_ (v:=λ_=>vr (rAt rs i) c),ZY cw]
  .by_cases e:i<c
   .rw[ZY (Tu e cw),ZY e]
    grind
   .rw[hz i (VU e) hi];rw[ZZ e]
    grind
  .by_cases a:j<c
   .rw[ZY a,ZY a,g.unit i j hi a,ZZ (show j≠c by exact aQ a)];by_cases b:i=j
    .rw[ZY b,ZY b.symm];grind
    .rw[ZZ b,ZZ (Ne.symm b)];grind
   .rw[ZZ a,ZZ a];by_cases b:j=c
    .rw[ZY b,b];grind
    .rw[ZZ b];grind
theorem Gs.answer(g:Gs rs0 (rs0.length+1) N rs0.length rs){i:Nat}(hi:i<rs0.length):sg (λj=>vr (rAt rs0 i) j*vr (rAt rs j) rs0.length) rs0.length=vr (rAt rs0 i) rs0.length:=by
 have:=g.ker (λj=>if j<rs0.length then vr (rAt rs j) rs0.length else -1) (λi hi=>?_) i hi
 .show _=_;rw[show sg (λj=>vr (rAt rs0 i) j*(if j<rs0.length then vr (rAt rs j) rs0.length else -1)) (rs0.length+1)=sg (λj=>vr (rAt rs0 i) j*(if j<rs0.length then vr (rAt rs j) rs0.length else -1)) rs0.length+vr (rAt rs0 i) rs0.length*(if rs0.length<rs0.length then vr (rAt rs rs0.length) rs0.length else -1)from rfl,ZZ (X2 _),cA (g:=λj=>vr (rAt rs0 i) j*vr (rAt rs j) rs0.length) λj hj=>by rw[ZY hj]]at this
  grind
 .rw[show sg (λj=>vr (rAt rs i) j*(if j<rs0.length then vr (rAt rs j) rs0.length else -1)) (rs0.length+1)=sg (λj=>vr (rAt rs i) j*(if j<rs0.length then vr (rAt rs j) rs0.length else -1)) rs0.length+vr (rAt rs i) rs0.length*(if rs0.length<rs0.length then vr (rAt rs rs0.length) rs0.length else -1)from rfl,ZZ (X2 _),cA (g:=λj=>(if j=i then 1 else 0)*vr (rAt rs j) rs0.length) λj hj=>by rw[ZY hj,g.unit i j hi hj];simp only[eq_comm],j_ (v:=λj=>vr (rAt rs j) rs0.length),ZY hi]
  grind
end
open Rw (vr jC je oR gcL iD iw tU mF Big qP kW oF lJ oH gq sg jA jd cA j7 j_)
abbrev nM(r:List Rat):Row:=(tops (dI 1 r) r,((dI 1 r:Nat):Int))
abbrev JH(r:List Rat):T:=.lst (r.map frR)
theorem ado(r:List Rat):(nM r).1.length=r.length:=ak _
theorem Q9(r:List Rat)(j:Nat):vr (nM r) j=r.getD j 0:=by
 unfold vr;have hB:=iQ r UT;show(((tops (dI 1 r) r).getD j 0:Int):Rat)/(((dI 1 r:Nat):Int):Rat)=_;unfold tops;rw[au,au,aq];by_cases h:j<r.length
 .rw[aj h];show((r[j].num*((dI 1 r/r[j].den:Nat):Int):Int):Rat)/_=r[j];obtain⟨k,hk⟩:=(nG r (n:=1)).2 r[j] (aU h);have hd:=r[j].den_pos;rw[show dI 1 r/r[j].den=k by rw[hk];exact Nat.mul_div_cancel_left _ hd];have eL:k≠0:=λz=>by rw[z]at hk;lia
  rw[<- TZ,hk,JY,Rat.divInt_mul_right (by lia)];exact rd _
 .rw[aM (Nat.not_lt.mp h)];show((0:Int):Rat)/_=0
  grind
structure Sys(ac:List (List Rat))(N:Nat):Prop where
 wid:∀r∈ac,r.length=ac.length+1
 few:ac.length<=100
 lev:∀r∈ac,Big N (nM r)
 num:∀r∈ac,∀c∈r,Bd c.num
 one:1<=N
 mb:(2*ac.length*N)^ac.length<=NN
 nn:N<=NN
 inj:∀x:Nat->Rat,(∀j,ac.length<=j->x j=0)->(∀r∈ac,sg (λj=>r.getD j 0*x j) (ac.length+1)=0)->∀j,j<ac.length->x j=0
theorem Pr{ac:List (List Rat)}{i:Nat}(h:i<ac.length):rAt (ac.map nM) i=nM ac[i]:=by
 have:=Aa (rs:=ac.map nM) (i:=i) (by rw[ak];exact h);rw[aq,aj h]at this;injection this with this;exact this.symm
theorem Sys.b0{ac:List (List Rat)}{N:Nat}(h:Sys ac N):B0 (ac.map nM) (ac.length+1) N:=⟨λi hi=>by
 rw[ak]at hi;rw[Pr hi];exact⟨h.lev _ (aU hi),by rw[ado];exact h.wid _ (aU hi)⟩,h.one,by rw[ak];exact h.mb,h.nn⟩
theorem Rws.mk'{rs:List Row}{wd:Nat}(hr:∀i,i<rs.length->Big NN (rAt rs i)/\(rAt rs i).1.length=wd)(h1:rs.length<=100)(h2:wd<=1000):Rws rs wd:=by
 have:∀r∈rs,Big NN r/\r.1.length=wd:=λr hm=>by
  obtain⟨i,hi,e0⟩:=List.getElem_of_mem hm;have e:=Aa hi;rw[aj hi,e0]at e;injection e with e;rw[e];exact hr i hi
 exact⟨λr hm=>(this r hm).1,λr hm=>(this r hm).2,h1,h2⟩
theorem Sys.rws{ac:List (List Rat)}{N c:Nat}{rs:List Row}(h:Sys ac N)(g:Gs (ac.map nM) (ac.length+1) N c rs):Rws rs (ac.length+1):=by
 have l:=g.len;have few:=h.few;rw[ak]at l;refine Rws.mk' (λi hi=>?_) (aL (WJ l) few) (by lia);have eW:i<(ac.map nM).length:=by rw[g.len]at hi;exact hi
 exact⟨g.big h.b0 eW,(g.row i eW).2.1⟩
theorem afG{ac:List (List Rat)}{i n:Nat}(hi:i<ac.length)(x:Nat->Rat):sg (λj=>vr (rAt (ac.map nM) i) j*x j) n=sg (λj=>ac[i].getD j 0*x j) n:=cA λj _=>by rw[Pr hi,Q9]
theorem Sys.inj'{ac:List (List Rat)}{N:Nat}(h:Sys ac N):∀x:Nat->Rat,(∀j,(ac.map nM).length<=j->x j=0)->(∀i,i<(ac.map nM).length->sg (λj=>vr (rAt (ac.map nM) i) j*x j) (ac.length+1)=0)->∀j,j<(ac.map nM).length->x j=0:=by
 rw[ak];intro x h1 h2;refine h.inj x h1 λr hr=>?_;obtain⟨i,hi,rfl⟩:=List.getElem_of_mem hr;rw[<- afG hi];exact h2 i hi
def Mq(m:Nat)(y:Nat->Rat):List T:=(List.range m).map λi=>.lst ((List.range (m+1)).map λj=>frR (if j<m then if i=j then 1 else 0 else y i))
theorem agh{ac:List (List Rat)}{N:Nat}{rs:List Row}(h:Sys ac N)(g:Gs (ac.map nM) (ac.length+1) N ac.length rs):(rs.map λr=>T.lst ((List.range (ac.length+1)).map λk=>frR (vr r k)))=Mq ac.length λi=>vr (rAt rs i) ac.length:=by
 have l:=g.len;rw[ak]at l;unfold Mq;refine UV (by rw[ak,ak,WP,l]) λi h1 h2=>?_;rw[ak]at h1;rw[VY,VY,UH];have e:=Aa h1;rw[aj h1]at e;injection e with e;rw[e]
 congr 1
 refine US λj hj=>?_;have hj:=List.mem_range.mp hj;by_cases c:j<ac.length
 .rw[ZY c,g.unit i j (by rw[ak];exact aR h1 (WJ l)) c]
 .rw[ZZ c,show j=ac.length by lia]
theorem aho{ac:List (List Rat)}{N:Nat}{rs:List Row}(g:Gs (ac.map nM) (ac.length+1) N ac.length rs):∀r∈ac,sg (λj=>r.getD j 0*vr (rAt rs j) ac.length) ac.length=r.getD ac.length 0:=λr hr=>by
 obtain⟨i,hi,rfl⟩:=List.getElem_of_mem hr;have l:(ac.map nM).length=ac.length:=ak _;have:=Gs.answer (rs0:=ac.map nM) (N:=N) (rs:=rs) (by rw[l];exact g) (i:=i) (by rw[l];exact hi);rw[l,Pr hi,Q9]at this;rw[<- this];exact cA λj _=>by rw[Q9]
def Jx:ST:=λts R=>∃(ac:List (List Rat))(N:Nat),ts=[.lst (ac.map JH),.int ac.length]/\Sys ac N/\∀(ss:List T)(y:Nat->Rat),(∀r∈ac,sg (λj=>r.getD j 0*y j) ac.length=r.getD ac.length 0)->(∀i,i<ac.length->FnB ((2*ac.length*N)^ac.length) (y i))->R (.fz (.tup [.lst ss,.lst (Mq ac.length y)]))
theorem V1(T:Tx D)(lH:gT 2 uJ oY yU)(vh:gT 1 ux kE Aw)(yx:OkF P w K mg base 6 wu mD (spO K DW))(qQ:OkF P w K mg base 6 o_ iH (spO K wV))(qU:gT 3 pq iK wQ)(F:Fu Bu Af f fd):FT 7 f fd rF Jx:=by
 refine F.okT I_ λaf A outer s H E hr nd=>?_;refine⟨_,(bH (agT (bI Af) Ft Ft ["row"] (b_ (qv 0)) (dh (i:=0)) cg (bK lH (bC (qv 0) bF)) (jh (i:=2) I_.nd rfl (Or.inl rfl)))
  (bH (jg 3 (dN bF))
  (bH (bR 4 bG)
  (bH (dY (eY T.gJ (bC (qv 1) bF)) (cj (n:=99) 5)
  (bH (bR 6 (Ri 2 (bK vh (bC (qv 2) (bC (qv 4) (bC (qv 5) bF))))))
  (bJ (cF (bW Df (qv 6) dU)
  (bH (Ju 2 3 yx hr.md (by rfl) (bC (qv 4) (bC (qv 6) (bC (qv 5) bF))))
  (bH (Ju 2 3 qQ hr.md (by rfl) (bC (qv 4) (bC (qv 5) bF)))
  (bJ (aa3 4 aaR bG))))
  bU))))
  (bJ (Pa 3 (Pa 2 (bT (d9 (bC (qv 3) (bC (bK qU (bC (qv 2) bF)) bF))))))))))),?_⟩
 rintro _ R ⟨ac,N,rfl,h,ok⟩;have lm:(ac.map JH).length=ac.length:=ak _;have ll:(ac.map nM).length=ac.length:=ak _;have few:=h.few;have b0:=h.b0;have e0:(ac.map λr=>rwT (nM r))=(ac.map nM).map rwT:=by rw[WU];rfl
 refine⟨by rw[lm];exact aL few (by decide),comp_map JH (λr=>rwT (nM r)) ac (λr hr N' M hN=>⟨r,rfl,by rw[h.wid r hr];lia,h.num r hr,bdN (aL (h.lev r hr).bot h.nn),hN⟩) ?_⟩;rw[e0];refine⟨⟨by lia,by lia⟩,uU (λc o=>∃rs ss x y,o=[.fz (.lst (ac.map JH)),.fz (.int ac.length),.l1 (rs.map rwT),.l1 ss,.fz (.int (c:Nat)),x,y]/\Gs (ac.map nM) (ac.length+1) N c rs/\ss.length<=102*c) ⟨_,[],_,_,rfl,b0.zero,aG _⟩ ?_ ?_⟩
 .rintro c _ hc ⟨rs,ss,x,y,rfl,g,sl⟩;have hc:c<ac.length:=by lia
  have dq:c<(ac.map nM).length:=by lia
  have l:=g.len;have hR:=h.rws g;have big:(20000:Nat)<sizeLine:=by decide
  refine⟨rs,_,c,c,rfl,hR,by lia,by exact WV _ hc,λq h1 h2 h3=>⟨trivial,rs,ss,_,c,q,c,rfl,rfl,hR,by exact Y3 h1 h2,h2,by exact WV _ hc,h3,by lia,λrs2 ss2 l2 e2 s2=>?_⟩,λz=>(g.found dq (WV _ hc) h.inj' λi a b=>z i a (by lia)).elim⟩;obtain⟨n1,n2,n3⟩:=g.next b0 dq (WV _ hc) h1 (aR h2 (WJ l)) h3 (rs2:=rs2) λi hi=>e2 i (by lia);exact⟨rs2,ss2,_,c,c,rfl,rfl,Rws.mk' (λi hi=>n1 i (by lia)) (by lia) (by lia),by lia,by exact WV _ hc,by lia,λi hi=>n2 i (by lia),λg3 ss3 l3 e3 s3=>⟨g3,ss3,.fz (.int c),.fz (.int q),rfl,n3 g3 (by lia) λi hi=>e3 i (by lia),by lia⟩⟩
 .rintro _ ⟨rs,ss,x,y,rfl,g,sl⟩;have g:Gs (ac.map nM) (ac.length+1) N ac.length rs:=g;have hR:=h.rws g;have l:=g.len;refine⟨rs,_,rfl,hR,?_⟩;have:=ok ss _ (aho g) λi hi=>by
   have eW:i<(ac.map nM).length:=by lia
   have b:=g.bigM b0 eW;rw[ll]at b;exact FnB.vr b (by rw[(g.row i eW).2.1];exact X0 _)
  rw[<- agh h g]at this;exact this
open Rw (vr jC je oR gcL iD iw tU mF Big qP kW oF lJ oH gq sg jA jd cA j7 j_)
def GJ:ST:=λts q=>∃(ac:List (List Rat))(n:Nat),ts=[.lst (ac.map JH)]/\(∀r∈ac,r.length=n)/\(ac=[]->n=0)/\q (.fz (.int n))
theorem TV(T:Tx D)(F:Fu zm Cu f fd):FT 1 f fd oN GJ:=by
 refine F.okT Uu λaf A outer s H E hr nd=>?_;refine⟨_,(bH (cF (bW (go_eq hr.units) (bZ eN T.gD WG (bC (qv 0) bF)) bG)
  (bJ (bT bG))
  bU)
  (bJ (bT (bZ eN T.gD WG (bC (bL (qv 0) bG) bF))))),?_⟩
 rintro _ R ⟨ac,n,rfl,h,h0,q⟩
 match ac,h,h0 with
 |[],h,h0=>rw[h0 rfl]at q;exact q
 |r::ac,h,h0 =>
  have e:(r.map frR).length=n:=by rw[ak];exact h r (aO ..)
  rw[<- e]at q;exact⟨_,rfl,q⟩
theorem T5(i:Nat):∀m,(List.range m).filter (λj=>decide (j=i))=if i<m then[i]else[]
 |0=>by rw[ZZ (WZ _)];rfl
 |m+1=>by
  rw[List.range_succ,List.filter_append,T5 i m];by_cases e:m=i
  .subst e;rw[ZZ (X2 _),ZY (X0 _)];simp
  .rw[List.filter_cons_of_neg (by simpa using e)];by_cases c:i<m
   .rw[ZY c,ZY (WV _ c)];rfl
   .rw[ZZ c,ZZ (by lia)];rfl
def zK:ST:=λts q=>∃(ac:List (List Rat))(ay:List Rat),ts=[.lst (ac.map JH),.lst (ay.map frR)]/\ac.length<=100/\(∀r∈ac,r.length<=100)/\q (.l1 ((List.zipWith (λr c=>r++[c]) ac ay).map JH))
theorem Ky(T:Tx D)(F:Fu qW oA f fd):FT 1 f fd jx zK:=by
 refine F.okT JQ λaf A outer s H E hr nd=>?_;refine⟨_,(bJ (bT (cH (bI oA) um um ["row","right"] (Ke T.UJ (bC (qv 0) (bC (qv 1) bF))) (fB (n:=2) (bQ (dh (i:=0)) (bQ (dh (i:=1)) dG))) cg (bO dW (qv 0) (dN (bC (qv 1) bF)))))),?_⟩;rintro _ R ⟨ac,ay,rfl,h1,h2,q⟩;have zl:(ac.zip ay).length<=ac.length:=by rw[VX];exact Nat.min_le_left ..
 refine⟨by unfold Gj;rw[ak,VX,ak,ak];exact aL (aL (Nat.min_le_left ..) h1) (by decide),?_⟩;rw[zip_map];refine comp_map (λp=>.tup [JH p.1,frR p.2]) (λp=>JH (p.1++[p.2])) (ac.zip ay) (λp hp N M hN=>⟨rfl,?a,?b⟩) ?c
 case a =>
  have:=h2 _ (VS hp).1;show(p.1.map frR).length+1<=sizeLine;rw[ak];exact aL (show _<=101 by exact Nat.succ_le_succ this) (by decide)
 case b =>
  show N (.lst (p.1.map frR++[frR p.2]));rw[show(p.1.map frR++[frR p.2])=(p.1++[p.2]).map frR by rw[bf];rfl];exact hN
 case c =>
  rw[List.map_zipWith]at q;rw[List.zip,List.map_zipWith];exact q
def Dm:ST:=λts q=>∃(m:Nat)(y:Nat->Rat),ts=[.lst (Mq m y),.int m]/\m<=100/\q (.l1 ((List.range m).map λi:Nat=>.int i))
theorem QB(T:Tx D)(F:Fu vI sH f fd):FT 1 f fd mQ Dm:=by
 refine F.okT Et λaf A outer s H E hr nd=>?_;refine⟨_,(bH (jg 2 (dN bF))
  (bH (dY (b_ (qv 0)) (cj (n:=99) 3)
  (bH (mZ (bI sH) xT xT ["column"] (eY T.gJ (bC (qv 1) bF)) (dh (i:=0)) (Ed (bW (lZ hr.units) (bL (qv 4) (qv 0)) (mq T.k_ T.iY))) (qv 0) (jh (i:=4) Et.nd rfl (Or.inl rfl)))
  (bJ (cF (bW xW (bZ eN T.gD WG (bC (qv 4) bF)) bG)
  (bJ (yD 2 (bL (qv 4) bG)))
  bU))))
  (bJ (jj 2)))),?_⟩
 rintro _ R ⟨m,y,rfl,h,q⟩;have sz:(1000:Nat)<=sizeLine:=by decide
 refine fM _ (List.range m) (λas o=>∃x z,o=[.fz (.lst (Mq m y)),.fz (.int m),.l1 (as.map λi:Nat=>.int i),x,z]) ⟨_,_,rfl⟩ ?_ ?_
 .rintro as i bs _ e ⟨x,z,rfl⟩;have hi:i<m:=List.mem_range.mp (e ▸ by simp);have la:as.length<m:=by have:=ZH List.length e;rw[WP,aA,List.length_cons]at this;lia
  refine⟨⟨by lia,by lia⟩,by rw[rng,ak,WP];exact aL (show _<=1000 by lia) sz,jt (λk:Nat=>.int (0+k)) (λj=>decide (j=i)) (λj=>.int (0+(j:Nat))) (List.range m) (λj hj N M h1 h2=>?_) ?_⟩
  .have hj:=List.mem_range.mp hj;show hName 0 (L2.T.int (0+((j:Nat):Int))) _ _;rw[show(0:Int)+((j:Nat):Int)=((j:Nat):Int)by lia]at h1 ⊢;refine⟨_,cW (VZ (WV _ hj)),?_⟩;by_cases c:j=i
   .refine swT ?_ (h1 (Zs c));show xr true (_&&_)=true;rw[ZY hj,ZY c.symm]
    rfl
   .refine swF ?_ (h2 (Zp c));show xr true (_&&_)=false;rw[ZY hj,ZZ (Ne.symm c)]
    rfl
  .rw[T5,ZY hi];refine⟨_,rfl,by rw[ak];lia,.fz (.lst ((List.range (m+1)).map λj=>frR (if j<m then if i=j then 1 else 0 else y i))),.fz (.lst [.int (0+(i:Nat))]),?_⟩;rw[bf];show[_,_,OT.l1 (as.map _++[L2.T.int (0+(i:Nat))]),_,OT.fz (.lst [L2.T.int (0+(i:Nat))])]=[_,_,OT.l1 (as.map _++[L2.T.int (i:Nat)]),_,_];rw[show(0:Int)+((i:Nat):Int)=((i:Nat):Int)by exact Int.zero_add _]
 .rintro _ ⟨x,z,rfl⟩;exact q
def KZ:ST:=λts q=>∃(m:Nat)(y:Nat->Rat),ts=[.lst (Mq m y),.lst ((List.range m).map λi:Nat=>.int i),.int m]/\m<=100/\q (.fz .non)
theorem Wg(T:Tx D)(F:Fu Cd Gi f fd):FT 1 f fd qL KZ:=by
 refine F.okT VD λaf A outer s H E hr nd=>?_;refine⟨_,(bH (dY (Ng T.gJ (bC (bZ eN T.gD WG (bC (qv 1) bF)) (bC (bZ eN T.gD WG (bC (qv 0) bF)) bF))) (cj (n:=99) 3)
  (bJ (cF (bW (lZ hr.units) (bL (bL (qv 0) (qv 3)) (qv 2)) (mq T.k_ T.iY))
  (bJ (bT (qv 3)))
  bU)))
  (bJ (bT dU))),?_⟩
 rintro _ R ⟨m,y,rfl,h,q⟩;have l1:((List.range m).map λi:Nat=>L2.T.int i).length=m:=by rw[ak,WP]
 have l2:(Mq m y).length=m:=by unfold Mq;rw[ak,WP]
 refine⟨⟨by lia,by lia,by lia,by lia⟩,DN (λ_ _=>True) _ 0 trivial (λi t o e z=>?_) λo _=>q⟩;have:=(aa5 e).1;lia
def Dk:ST:=λts q=>∃(m:Nat)(y:Nat->Rat),ts=[.lst (Mq m y),.lst ((List.range m).map λi:Nat=>.int i),.int m]/\m<=100/\q (.l1 ((List.range m).map λi=>frR (y i)))
theorem OD(T:Tx D)(F:Fu wI yd f fd):FT 1 f fd m7 Dk:=by
 refine F.okT Rh λaf A outer s H E hr nd=>?_;refine⟨_,(bH (jg 3 (bO cY (dN (bC (mq T.k_ T.iY) bF)) (qv 2)))
  (bH (dY (sy T.g8 (bC (qv 1) bF)) (fB (n:=2) (bQ (cj (n:=99) 4) (bQ (cj (n:=99) 5) dG)))
  (bJ (lM 3 (bL (bL (qv 0) (qv 4)) (qv 2)) (qv 5))))
  (bJ (jj 3)))),?_⟩
 rintro _ R ⟨m,y,rfl,h,q⟩;refine⟨⟨by lia,by lia,by show 1*_<=_;exact aL (show _<=100 by lia) (by decide)⟩,λz ez=>?_⟩;have ez:z=(List.range m).map λi=>if i<0 then frR (y i)else frR 0:=by
  rw[ez,Zzz];refine UV (by rw[aN,ak,WP];rfl) λn h1 h2=>?_;rw[List.getElem_replicate,VY,ZZ (WZ _)]
  rfl
 subst ez;refine uN (λi:Nat=>.int i) (List.range m) (λk o=>∃x z,o=[.fz (.lst (Mq m y)),.fz (.lst ((List.range m).map λi:Nat=>.int i)),.fz (.int m),.l1 ((List.range m).map λi=>if i<k then frR (y i)else frR 0),x,z]) ⟨_,_,rfl⟩ ?_ ?_
 .rintro k i _ e ⟨x,z,rfl⟩;have hk:k<m:=by have:=(ao.mp e).1;rwa[WP]at this
  rw[VZ hk]at e;cases e;refine⟨rfl,_,cW (VZ hk),_,cW (VZ (X0 m)),k,wg (by rw[ak,WP];exact hk),.fz (.int k),.fz (.int k),?_⟩;have:((List.range m).map λi=>if i<k then frR (y i)else frR 0).set k (frR (if m<m then if k=m then 1 else 0 else y k))=(List.range m).map λi=>if i<k+1 then frR (y i)else frR 0:=by
   rw[ZZ (X2 _)];refine UV (by rw[WH,ak,ak]) λn h1 h2=>?_;rw[QR,VY,VY,UH];by_cases c:k=n
   .rw[ZY c,ZY (by lia),c]
   .rw[ZZ c];by_cases d:n<k
    .rw[ZY d,ZY (WV _ d)]
    .rw[ZZ d,ZZ (by lia)]
  rw[<- this]
  rfl
 .rintro _ ⟨x,z,rfl⟩;have:((List.range m).map λi=>if i<(List.range m).length then frR (y i)else frR 0)=(List.range m).map λi=>frR (y i):=US λi hi=>by rw[WP,ZY (List.mem_range.mp hi)]
  rw[<- this]at q;exact q
open Rw (vr jC je oR gcL iD iw tU mF Big qP kW oF lJ oH gq sg jA jd cA j7 j_)
abbrev Y7(ac:List (List Rat))(ay:List Rat):List (List Rat):=List.zipWith (λr c=>r++[c]) ac ay
def yt:ST:=λts R=>∃(ac:List (List Rat))(ay:List Rat)(N:Nat),ts=[.lst (ac.map JH),.lst (ay.map frR)]/\ay.length=ac.length/\(∀r∈ac,r.length=ac.length)/\Sys (Y7 ac ay) N/\∀y:Nat->Rat,(∀r∈Y7 ac ay,sg (λj=>r.getD j 0*y j) ac.length=r.getD ac.length 0)->(∀i,i<ac.length->FnB ((2*ac.length*N)^ac.length) (y i))->R (.l1 ((List.range ac.length).map λi=>frR (y i)))
theorem JD(T:Tx D)(Bv:gT 1 zm oN GJ)(uw:gT 1 qW jx zK)(Fq:gT 7 Bu rF Jx)(zE:gT 1 vI mQ Dm)(Gg:gT 1 Cd qL KZ)(yV:gT 1 wI m7 Dk)(F:Fu qx tD f fd):FT 8 f fd jr yt:=by
 refine F.okT J2 λaf A outer s H E hr nd=>?_;refine⟨_,(bH (bR 2 (bK Bv (bC (qv 0) bF)))
  (bH (bR 3 (bL (bK Fq (bC (bK uw (bC (qv 0) (bC (qv 1) bF))) (bC (qv 2) bF))) bG))
  (bH (bR 4 (bK zE (bC (qv 3) (bC (qv 2) bF))))
  (bH (cF (QW.qt (iJ (bW Jt (bZ eN T.gD WG (bC (qv 4) bF)) (qv 2)) (fX (bW Df (bK Gg (bC (qv 3) (bC (qv 4) (bC (qv 2) bF)))) dU))))
  (bJ (bT dU))
  bU)
  (bJ (bT (bK yV (bC (qv 3) (bC (qv 4) (bC (qv 2) bF)))))))))),?_⟩
 rintro _ R ⟨ac,ay,N,rfl,hl,hw,h,ok⟩;have la:(Y7 ac ay).length=ac.length:=by rw[TH,hl,UX]
 have few:=h.few;rw[la]at few;refine⟨ac,ac.length,rfl,hw,λz=>by rw[z];rfl,ac,ay,rfl,few,λr hr=>by rw[hw r hr];exact few,Y7 ac ay,N,?_,h,λss y h1 h2=>?_⟩
 .rw[la];rfl
 .rw[la]at h1 h2 ⊢;have lr:((List.range ac.length).map λi:Nat=>L2.T.int i).length=ac.length:=by rw[ak,WP]
  exact⟨ac.length,y,rfl,few,swF (Zp (by show ¬((((List.range ac.length).map λi:Nat=>L2.T.int i).length:Nat):Int)<_;lia)) ⟨ac.length,y,rfl,few,ac.length,y,rfl,few,ok y h1 h2⟩⟩
open Rw (sg)
def rowsOf(f:Nat->Nat->Rat)(m:Nat):List (List T):=(List.range m).map λi=>(List.range m).map λj=>frR (f i j)
def uH:List (Nat×Rat)->Nat->Rat
 |[],_=>0
 |w::ws,j=>(if w.1=j then w.2 else 0)+uH ws j
def BW:Option bN->List (Nat×Rat)
 |none=>[]
 |some o=>o.ways
structure WyB(s:Rat)(m:Nat)(ws:List (Nat×Rat)):Prop where
 nd:(ws.map (·.1)).Nodup
 few:ws.length<=1000
 lt:∀w∈ws,w.1<m
 bq:∀w∈ws,Bq w.2/\Bd ((s.den:Int)*w.2.den)/\Bq (s*w.2)
def gQ(s:Rat)(cs:List (Option bN))(i j:Nat):Rat:=(if j=i then 1 else 0)-s*uH (BW (cs.getD i none)) j
def Dd:ST:=λts q=>∃(s:Rat)(cs:List (Option bN)),ts=[frR s,.lst (cs.map opT)]/\cs.length<=100/\Bq s/\(∀o∈cs,WyB s cs.length (BW o))/\q (.l2 (rowsOf (gQ s cs) cs.length))
theorem aal(f:Nat->Nat->Rat)(m:Nat):(rowsOf f m).length=m:=by unfold rowsOf;rw[ak,WP]
theorem Yo{f:Nat->Nat->Rat}{m i:Nat}(h:i<m):(rowsOf f m)[i]?=some ((List.range m).map λj=>frR (f i j)):=by
 unfold rowsOf;rw[aq,VZ h];rfl
theorem vK{f g:Nat->Nat->Rat}{m:Nat}(h:∀i j,i<m->j<m->f i j=g i j):rowsOf f m=rowsOf g m:=US λi hi=>US λj hj=>by rw[h i j (List.mem_range.mp hi) (List.mem_range.mp hj)]
theorem aaG{f g:Nat->Nat->Rat}{m i k:Nat}{v:Rat}(h:∀a b,a<m->b<m->g a b=if a=i/\b=k then v else f a b):(rowsOf f m).set i (((List.range m).map λj=>frR (f i j)).set k (frR v))=rowsOf g m:=by
 unfold rowsOf;refine UV (by rw[WH,ak,ak]) λa h1 h2=>?_;have ha:a<m:=by rw[ak,WP]at h2;exact h2
 rw[QR];by_cases e:i=a
 .rw[ZY e,VY,UH];refine UV (by rw[WH,ak,ak]) λb h3 h4=>?_;have hb:b<m:=by rw[ak,WP]at h4;exact h4
  rw[QR,VY,VY,UH,h a b ha hb];by_cases c:k=b
  .rw[ZY c,ZY ⟨e.symm,c.symm⟩]
  .rw[ZZ c,ZZ λz=>c z.2.symm,e]
 .rw[ZZ e,VY,VY,UH];refine US λb hb=>?_;rw[h a b ha (List.mem_range.mp hb),ZZ λz=>e z.1.symm]
theorem ac4{f:Nat->Nat->Rat}{m i:Nat}(h:i<m):ixT (rowsOf f m) ((i:Nat):Int)=some ((List.range m).map λj=>frR (f i j)):=by
 show nth (rowsOf f m) i=_;rw[vR,Yo h]
theorem aaO(as:List (Nat×Rat))(w:Nat×Rat)(j:Nat):uH (as++[w]) j=uH as j+if w.1=j then w.2 else 0:=by
 induction as with
 |nil=>show(_+(0:Rat))=0+_;grind
 |cons a as ih=>show _+uH (as++[w]) j=(_+uH as j)+_;rw[ih];grind
theorem YG{ws:List (Nat×Rat)}{j:Nat}(h:j∉ws.map (·.1)):uH ws j=0:=by
 induction ws with
 |nil=>rfl
 |cons a as ih =>
  show(if a.1=j then a.2 else 0)+uH as j=0;rw[ih λz=>h (aJ _ z),ZZ λz=>h (by rw[<- z];exact aO ..)]
  grind
def vO(s:Rat)(cs:List (Option bN))(n:Nat)(as:List (Nat×Rat))(i j:Nat):Rat:=if i<n then gQ s cs i j else if i=n then(if j=i then 1 else 0)-s*uH as j else if j=i then 1 else 0
theorem aeb(s:Rat)(cs:List (Option bN))(n i j:Nat):vO s cs n [] i j=if i<n then gQ s cs i j else if j=i then 1 else 0:=by
 unfold vO;split
 .rfl
 .split
  .show _-s*0=_;grind
  .rfl
theorem adf{s:Rat}{cs:List (Option bN)}{n:Nat}(i j:Nat):vO s cs n (BW (cs.getD n none)) i j=if i<n+1 then gQ s cs i j else if j=i then 1 else 0:=by
 unfold vO;by_cases a:i<n
 .rw[ZY a,ZY (show i<n+1 by exact WV _ a)]
 .by_cases b:i=n
  .subst b;rw[ZZ a,ZY rfl,ZY (show i<i+1 by exact X0 _)]
   rfl
  .rw[ZZ a,ZZ b,ZZ (show ¬i<n+1 by lia)]
theorem Wo(s:Rat)(cs:List (Option bN))(n:Nat)(as:List (Nat×Rat))(j:Nat):vO s cs n as n j=(if j=n then 1 else 0)-s*uH as j:=by unfold vO;rw[ZZ (X2 _),ZY rfl]
theorem ahs{s:Rat}{cs:List (Option bN)}{n i:Nat}(as bs:List (Nat×Rat))(j:Nat)(h:i≠n):vO s cs n as i j=vO s cs n bs i j:=by unfold vO;rw[ZZ h,ZZ h]
theorem Og(T:Tx D)(tV:gT 1 rR jo xH)(pW:gT 3 yJ qz Di)(QD:gT 3 KN yO Td)(F:Fu vW zB f fd):FT 4 f fd nF Dd:=by
 refine F.okT QK λaf A outer s H E hr nd=>?_;refine⟨_,(bH (jg 2 (bK tV (bC (bZ eN T.gD WG (bC (qv 1) bF)) bF)))
  (bH (dY (sy T.g8 (bC (qv 1) bF)) (fB (n:=2) (bQ (cj (n:=99) 3) (bQ (cj (n:=99) 4) dG)))
  (bJ (cF (bW Df (qv 4) dU)
  (bJ (dY (b_ (bL (qv 4) bG)) (fB (n:=2) (bQ (cj (n:=99) 5) (bQ (cj (n:=99) 6) dG)))
  (bJ (ac1 2 (bK pW (bC (adZ 2 (qv 3) (qv 5)) (bC (bK QD (bC (qv 0) (bC (qv 6) bF))) bF))) (qv 3) (qv 5)))))
  bU)))
  (bJ (jj 2)))),?_⟩
 rintro _ R ⟨s,cs,rfl,hm,hs,hw,q⟩;refine⟨cs.length,?_,hm,?_⟩
 .show[L2.T.int (((cs.map opT).length:Nat):Int)]=_;rw[ak]
 .have lc:∀x:Nat,((cs.map opT).length:Nat)=cs.length:=λ_=>ak _;refine uN opT cs (λn o=>∃x y z u,o=[.fz (frR s),.fz (.lst (cs.map opT)),.l2 (rowsOf (λi j=>if i<n then gQ s cs i j else if j=i then 1 else 0) cs.length),x,y,z,u]) ⟨.und,.und,.und,.und,?_⟩ ?_ ?_
  .show[_,_,OT.l2 (rowsOf (λi j=>if j=i then 1 else 0) cs.length),_,_,_,_]=_;rw[vK (f:=λi j=>if j=i then 1 else 0) (g:=λi j=>if i<0 then gQ s cs i j else if j=i then 1 else 0) λi j _ _=>by rw[ZZ (WZ _)]]
  .rintro n oo _ e ⟨x,y,z,u,rfl⟩;have hn:n<cs.length:=(ao.mp e).1;have eg:cs.getD n none=oo:=by rw[au,e];rfl
   have hb:=hw oo (aC e);rw[show rowsOf (λi j=>if i<n then gQ s cs i j else if j=i then 1 else 0) cs.length=rowsOf (vO s cs n []) cs.length from vK λi j _ _=>(aeb s cs n i j).symm];rw[show rowsOf (λi j=>if i<n+1 then gQ s cs i j else if j=i then 1 else 0) cs.length=rowsOf (vO s cs n (BW oo)) cs.length from vK λi j _ _=>by rw[<- eg];exact(adf i j).symm];refine⟨rfl,?_⟩
   match oo,hb with
   |none,hb=>exact⟨_,_,_,_,rfl⟩
   |some o,hb =>
    refine fM nwT o.ways (λas ot=>∃z u,ot=[.fz (frR s),.fz (.lst (cs.map opT)),.l2 (rowsOf (vO s cs n as) cs.length),.fz (.int n),.fz (ofT o),z,u]) ⟨_,_,rfl⟩ ?_ ?_
    .rintro as ⟨k,c⟩ bs _ e2 ⟨z,u,rfl⟩;have ki:(k,c)∈o.ways:=e2 ▸ by simp
     have hk:=hb.lt _ ki;obtain⟨c1,c2,c3⟩:=hb.bq _ ki;have nk:k∉as.map (·.1):=λz=>by
      have nd:=hb.nd;rw[show BW (some o)=o.ways from rfl,e2,bf]at nd;exact(List.nodup_append.mp nd).2.2 k z k (by simp) rfl
     have cell:vO s cs n as n k=if k=n then 1 else 0:=by
      unfold vO;rw[ZZ (X2 _),ZY rfl,YG nk]
      grind
     have q1:Bq (vO s cs n as n k)/\Bd (((vO s cs n as n k).den:Int)*(s*c).den):=by
      rw[cell];split
      .exact⟨bq1,by show Bd (1*_);rw[Tk];exact c3.2⟩
      .exact⟨bq0,by show Bd (1*_);rw[Tk];exact c3.2⟩
     refine⟨rfl,_,(ac4 hn),_,cW (VZ hk),s,c,rfl,hs,c1,c2,_,_,rfl,q1.1,c3,q1.2,n,_,wg (by rw[aal];exact hn),Yo hn,k,wg (by rw[ak,WP];exact hk),.fz (.int k),.fz (frR c),?_⟩;rw[<- aaG (f:=vO s cs n as) (g:=vO s cs n (as++[(k,c)])) (i:=n) (k:=k) (v:=vO s cs n as n k-s*c) λa b _ _=>?_]
     .rfl
     .by_cases a1:a=n
      .subst a1;rw[Wo,aaO];by_cases b1:b=k
       .subst b1;rw[ZY (show a=a/\b=b from⟨rfl,rfl⟩),Wo,ZY (show(b,c).1=b from rfl)]
        grind
       .rw[ZZ (show ¬(a=a/\b=k)from λz=>b1 z.2),Wo,ZZ (show ¬(k,c).1=b from λz=>b1 z.symm)]
        grind
      .rw[ZZ (show ¬(a=n/\b=k)from λz=>a1 z.1)];exact ahs _ _ _ a1
    .rintro _ ⟨z,u,rfl⟩;exact⟨_,_,_,_,rfl⟩
  .rintro _ ⟨x,y,z,u,rfl⟩;rw[show rowsOf (gQ s cs) cs.length=rowsOf (λi j=>if i<cs.length then gQ s cs i j else if j=i then 1 else 0) cs.length from vK λi j hi _=>by rw[ZY hi]]at q;exact q
theorem g_{i:Int}(h:i.natAbs<18446744073709551616):Bd i:=aR h (aL (by decide:18446744073709551616<=2^64) (XU (by decide) (by decide)))
abbrev scT(ns:List Int):T:=.scr (ns.map T.int)
def R0:ST:=λts q=>∃(ns:List Int)(k:Nat),ts=[scT ns,.int (k:Nat)]/\ns.length<=100/\q (.fz (.int (ns.getD k 0)))
theorem Ag{α β:Type}(h:α->β)(l:List α)(lo hi:Option Int):gU (l.map h) lo hi=(gU l lo hi).map h:=by unfold gU;rw[ak,List.map_take,List.map_drop]
theorem acN{α:Type}(l:List α)(k:Nat):gU l (some (k:Int)) (some ((k:Int)+1))=(l.drop k).take 1:=by
 unfold gU HT.sIx;show List.take ((if(k:Int)+1<0 then _ else min ((k:Int)+1).toNat l.length)-(if(k:Int)<0 then _ else min (k:Int).toNat l.length)) (List.drop (if(k:Int)<0 then _ else min (k:Int).toNat l.length) l)=_;rw[ZZ (by lia),ZZ (Int.not_lt_of_ge (X9 _))];by_cases h:k<l.length
 .rw[show min ((k:Int)+1).toNat l.length=k+1 by lia,show min (k:Int).toNat l.length=k by lia,show k+1-k=1 by exact TR _ _]
 .rw[show min (k:Int).toNat l.length=l.length by lia,List.drop_length,TK (VU h),List.take_nil,List.take_nil]
theorem adz(F:Fu Ij VN f fd):FT 1 f fd Ai R0:=by
 refine F.okT ade λaf A outer s H E hr nd=>?_;refine⟨_,(bJ (bT (bL (bO dW (mL (qv 0) (iG (qv 1)) (iG (bO dW (qv 1) bG))) (dN (bC bG bF))) bG))),?_⟩;rintro _ R ⟨ns,k,rfl,hl,q⟩;have e:gU (ns.map L2.T.int) (some (k:Int)) (some ((k:Int)+1))=((ns.drop k).take 1).map L2.T.int:=by rw[Ag,acN]
 refine⟨?_,.int (ns.getD k 0),?_,q⟩
 .show(gU (ns.map L2.T.int) (some (k:Int)) (some ((k:Int)+1))).length+1<=sizeLine;rw[e,ak,aY];exact aL (show _<=2 by lia) (by decide)
 .show ixT (gU (ns.map L2.T.int) (some (k:Int)) (some ((k:Int)+1))++[L2.T.int 0]) 0=_;rw[e];by_cases h:k<ns.length
  .rw[JS h,List.take_succ_cons,au,aj h]
   rfl
  .rw[TK (VU h),au,aM (VU h)]
   rfl
def strN(c:Int):Nat->Int×Int
 |0=>((c%1999999973+31)*765432101%1999999973,if c<0\/10^18<=c then(c.natAbs:Int)else 0)
 |k+1=>(((strN c k).1*((strN c k).1%65521+40487)+7*(k:Int)+5)%1999999973,(strN c k).2.fdiv 1000000)
def strm(c:Int)(k:Nat):Int:=if 0<(strN c k).2 then(strN c k).2%1000000 else(strN c (k+1)).1
theorem X4(c:Int):∀k,0<=(strN c k).1/\(strN c k).1<1999999973
 |0=>⟨Z3 _ (by decide),YY _ (by decide)⟩
 |_+1=>⟨Z3 _ (by decide),YY _ (by decide)⟩
theorem vo(c:Int)(k:Nat):0<=strm c k/\strm c k<2000000000:=by
 unfold strm;have:=X4 c (k+1);split<;>lia
abbrev jc(c:Int)(n:Nat):List Int:=(List.range n).map (strm c)
def qd:ST:=λts q=>∃(c:Int)(n:Nat),ts=[.int c,.int (n:Nat)]/\n<=1000/\q (.l1 ((jc c n).map T.int))
theorem ZR(T:Tx D)(F:Fu nU Jy f fd):FT 1 f fd j6 qd:=by
 refine F.okT Zx λaf A outer s H E hr nd=>?_;refine⟨_,(bH (jg 2 (dN bF))
  (bH (bR 3 (bO cJ (bO cY (bO dW (bO cJ (qv 0) bG) bG) bG) bG))
  (bH (bR 4 bG)
  (bH (cF (QW.qt (iJ (bW Jt (qv 0) bG) (fX (bW ae0 (qv 0) (bO agK bG bG)))))
  (bJ (bR 4 (bZ Jo T.Ut boot_abs (bC (qv 0) bF))))
  bU)
  (bH (dY (eY T.gJ (bC (qv 1) bF)) (cj (n:=99) 5)
  (bH (bR 3 (bO cJ (bO dW (bO dW (bO cY (qv 3) (bO dW (bO cJ (qv 3) bG) bG)) (bO cY bG (qv 5))) bG) bG))
  (bH (yD 2 (bL (dN (bC (qv 3) (bC (bO cJ (qv 4) bG) bF))) (jY agW T.acj boot_int (bC (jE xW (qv 4) bG) bF))))
  (bJ (bR 4 (bO pJ (qv 4) bG))))))
  (bJ (jj 2))))))),?_⟩
 rintro _ R ⟨c,n,rfl,hn,q⟩;refine sq4 (λo=>o=[.fz (.int c),.fz (.int (n:Nat)),.l1 [],.fz (.int (strN c 0).1),.fz (.int (strN c 0).2),.und]) ?_ λY go=>?_
 .rintro _ rfl;refine⟨⟨by lia,by lia⟩,?_⟩;refine uU (λk o=>∃x,o=[.fz (.int c),.fz (.int (n:Nat)),.l1 ((jc c k).map L2.T.int),.fz (.int (strN c k).1),.fz (.int (strN c k).2),x]) ⟨_,rfl⟩ ?_ ?_
  .rintro k _ hk ⟨x,rfl⟩;have b:=X4 c k;refine⟨by decide,⟨g_ (by lia),g_ (by lia)⟩,⟨g_ (by decide),g_ (by lia)⟩,by decide,by decide,.int (strm c k),?_,?_,⟨by decide,g_ (by decide)⟩,.fz (.int k),?_⟩
   .by_cases h:0<(strN c k).2
    .rw[Zs h];unfold strm;rw[ZY h]
     rfl
    .rw[Zp h];unfold strm;rw[ZZ h]
     rfl
   .rw[ak,ak,WP];exact aR (show k<1001 by lia) (by decide)
   .rw[show jc c (k+1)=jc c k++[strm c k]by simp[jc,List.range_succ],bf]
    rfl
  .rintro _ ⟨x,rfl⟩;exact q
 .refine⟨by decide,⟨g_ (by lia),g_ (by decide)⟩,by decide,?_⟩;refine swD (λh=>go _ ?_) λh=>⟨⟨by decide,by decide,by decide⟩,swD (λh'=>go _ ?_) λh'=>go _ ?_⟩
  .show _=[_,_,_,_,OT.fz (L2.T.int (if c<0\/10^18<=c then(c.natAbs:Int)else 0)),_];rw[ZY (.inl h)]
   rfl
  .show _=[_,_,_,_,OT.fz (L2.T.int (if c<0\/10^18<=c then(c.natAbs:Int)else 0)),_];rw[ZY (.inr h')]
   rfl
  .show _=[_,_,_,_,OT.fz (L2.T.int (if c<0\/10^18<=c then(c.natAbs:Int)else 0)),_];rw[ZZ (λz=>z.elim h h')]
   rfl
def WT:ST:=λts q=>∃a b:Int,ts=[.int a,.int b]/\q (.fz (.int (Int.gcd a b)))
theorem ahu(T:Tx D)(F:Fu R3 acF f fd):FT 1 f fd Gd WT:=by
 refine F.okT aay λaf A outer s H E hr nd=>?_;refine⟨_,(bH (W2 (bZ Zj T.aad boot_sorted (bC (dN (bC (bZ Jo T.Ut boot_abs (bC (qv 0) bF)) (bC (bZ Jo T.Ut boot_abs (bC (qv 1) bF)) bF))) bF)) (aau (n:=2) rfl (bQ (cj (n:=99) 2) (bQ (cj (n:=99) 3) dG))))
  (bH (zL (bW xW (qv 2) bG)
  (bJ (afy 2 3 rfl aay.nd (by decide) (bC (bO cJ (qv 3) (qv 2)) (bC (qv 2) bF)))))
  (bJ (bT (qv 3))))),?_⟩
 rintro _ R ⟨a,b,rfl,q⟩;refine⟨[(a.natAbs:Int),(b.natAbs:Int)],rfl,by simp,λms pm so=>?_⟩;obtain⟨l,h,rfl,hg⟩ : ∃l h:Nat,ms=[(l:Int),(h:Int)]/\Nat.gcd l h=Int.gcd a b:=by
  have ln:=pm.length_eq
  match ms,ln with
  |[x,y],_ =>
   have hx:x=(a.natAbs:Int)\/x=(b.natAbs:Int):=by simpa using pm.subset (aO ..)
   rcases hx with rfl|rfl
   .have:=(List.perm_cons _).mp pm;have:=List.perm_singleton.mp this;cases this;exact⟨_,_,rfl,rfl⟩
   .have:=(List.perm_cons _).mp (pm.trans (List.Perm.swap _ _ _));have:=List.perm_singleton.mp this;cases this;exact⟨_,_,rfl,Nat.gcd_comm _ _⟩
 refine⟨rfl,λm o=>∃(l h:Nat),o=[.fz (.int a),.fz (.int b),.fz (.int l),.fz (.int h)]/\Nat.gcd l h=Int.gcd a b/\m=l,⟨_,_,_,rfl,hg,rfl⟩,?_⟩;rintro m _ ⟨l,h,rfl,hg,rfl⟩;refine swD (λhl=>?_) λhl=>?_
 .refine⟨λo=>o=[.fz (.int a),.fz (.int b),.fz (.int ((h%m:Nat):Int)),.fz (.int m)],?_,?_⟩
  .rintro _ rfl;exact⟨h%m,Nat.mod_lt _ (by lia),h%m,m,rfl,(Nat.gcd_rec m h).symm.trans hg,rfl⟩
  .exact⟨hl,by rw[Int.natCast_emod];rfl⟩
 .have:m=0:=by lia
  subst this;rw[Nat.gcd_zero_left]at hg;rw[<- hg]at q;exact q
def Nq:ST:=λts q=>∃a b:Int,ts=[.int a,.int b]/\0<b/\Bd b/\q (.fz (frR (Rat.divInt a b)))
theorem Y8(M7:gT 1 R3 Gd WT)(F:Fu FP J5 f fd):FT 2 f fd uM Nq:=by
 refine F.okT YL λaf A outer s H E hr nd=>?_;refine⟨_,(bH (bR 2 (bK M7 (bC (qv 0) (bC (qv 1) bF))))
  (bJ (bT (d9 (bC (bO pJ (qv 0) (qv 2)) (bC (bO pJ (qv 1) (qv 2)) bF)))))),?_⟩
 rintro _ R ⟨a,b,rfl,hb,hd,q⟩;have nb:b≠0:=by exact WS hb
 have g0:=oK (a:=a) nb;have g1:=Wv (a:=a) nb hd;refine⟨_,_,rfl,⟨by exact WS g0,g1⟩,⟨by exact WS g0,g1⟩,?_⟩;have l:=yw (t:=a) nb (c:=(Int.gcd a b:Nat)) (WS g0) (by lia) (XZ g0 hb);rw[<- j5 l nb]at q;exact q
def ZP(c:Nat):Bool:=decide (97<=c)&&decide (c<=122)
def ltL:List Nat:=(Str.ofString "abcdefghijklmnopqrstuvwxyz").cps.toList
theorem agi:∀i:Fin 26,nth ltL i.val=some (97+i.val):=by decide +kernel
theorem abG{i:Int}(h0:0<=i)(h1:i<26):ixT ltL i=some (97+i.toNat):=by
 obtain⟨k,rfl⟩:=Int.eq_ofNat_of_zero_le h0;exact agi ⟨k,by lia⟩
theorem Vs{n:Nat}(h:n<26):ZP (97+n)=true:=by
 unfold ZP;rw[Zs (show 97<=97+n by exact X1 _ _),Zs (show 97+n<=122 by lia)];rfl
theorem pP(x:Str):x.cps.toList.length=x.length:=Array.length_toList
theorem Yg(x y:Str):(x++y).cps.toList=x.cps.toList++y.cps.toList:=by
 show(x.cps++y.cps).toList=_;rw[Array.toList_append]
theorem adA(x y:Str):(x++y).length=x.length+y.length:=by
 show(x.cps++y.cps).size=_;rw[Array.size_append];rfl
theorem ab3{x:Str}{n:Nat} : (Hr x none (some (n:Int))).cps.toList=x.cps.toList.take n:=by
 unfold Hr;have hl:x.cps.toList.length=x.length:=Array.length_toList;show((x.cps.toList.drop 0).take (HT.sIx x.length x.length (some (n:Int))-0))=_;rw[HT.Dp,List.drop_zero,Nat.sub_zero,<- hl];rw[List.take_eq_take_iff];lia
theorem S_{x:Str}{n:Nat} : (Hr x (some (n:Int)) none).cps.toList=x.cps.toList.drop n:=by
 unfold Hr;have hl:x.cps.toList.length=x.length:=Array.length_toList;show((x.cps.toList.drop (HT.sIx x.length 0 (some (n:Int)))).take (x.length-HT.sIx x.length 0 (some (n:Int))))=_;rw[HT.Dp,<- hl];by_cases h:n<=x.cps.toList.length
 .rw[Nat.min_eq_left h];exact QQ (by rw[U2];exact aG _)
 .rw[TK (by lia:x.cps.toList.length<=n),TK (by lia),List.take_nil]
theorem Xo{α:Type}{ys:List α}{a b:Nat}(ab:a<=b)(h:b<=ys.length):gU ys (some (a:Int)) (some (b:Int))=(ys.drop a).take (b-a):=by
 unfold gU;rw[HT.Dp,HT.Dp,Nat.min_eq_left h,Nat.min_eq_left (aL ab h)]
theorem ae4{x:Str}(h:x.cps.toList.all ZP=true)(lo:1<=x.length)(hi:x.length<=8):Wd x:=by
 unfold Wd Yn;rw[pP,Zs lo,Zs hi];exact h
structure Nms(ns:Φ)(n:Nat):Prop where
 len:ns.length=n
 nd:ns.Nodup
 wd:∀x∈ns,Wd x
theorem Xm{R:Nat->Str->Prop}{n:Nat}{ns:Φ}(h:∀(i:Nat)x,ns[i]?=some x->R i x)(l:ns.length=n)(u:∀i j x,i<j->j<n->R i x->R j x->False):ns.Nodup:=by
 unfold List.Nodup;rw[List.pairwise_iff_getElem];intro i j hi hj ij e;exact u i j ns[i] ij (l ▸ hj) (h i _ (aj hi)) (by rw[e];exact h j _ (aj hj))
theorem M_{g:HG}{c:RT}{e:RE}{o:List OT}{q:List T->Prop}(R:Nat->Str->Prop)(n:Nat)(st:∀k,k<n->∀(N:T->Prop)(M:Prop),(∀x,R k x->N (.str x))->g (.int (k:Nat)) o λo'=>c o' λb=>sw b (e o' λy=>N (frz y)) M)(k:∀ns:Φ,ns.length=n->(∀(i:Nat)x,ns[i]?=some x->R i x)->q (ns.map T.str)):iR g c e o (rng 0 n) q:=by
 have go:∀(m j:Nat),j+m=n->∀(us:Φ),us.length=j->(∀(i:Nat)x,us[i]?=some x->R i x)->∀{q:List T->Prop},(∀ns:Φ,ns.length=n->(∀(i:Nat)x,ns[i]?=some x->R i x)->(∃vs,ns=us++vs/\q (vs.map T.str))\/¬∃vs,ns=us++vs)->iR g c e o ((List.range' j m).map λk:Nat=>.int ((0:Int)+k)) q:=by
  intro m
  induction m with
  |zero =>
   intro j ej us lu hu q hq;rcases hq us (by lia) hu with⟨vs,e,z⟩|z
   .have:vs=[]:=by simpa using e
    rw[this]at z;exact z
   .exact absurd ⟨[],(List.append_nil us).symm⟩ z
  |succ m ih =>
   intro j ej us lu hu q hq;rw[List.range'_succ,List.map_cons];refine Y6 ?_;rw[Int.zero_add];refine st j (by lia) (λt=>iR g c e o ((List.range' (j+1) m).map λk:Nat=>.int ((0:Int)+k)) λus=>q (t::us)) (iR g c e o ((List.range' (j+1) m).map λk:Nat=>.int ((0:Int)+k)) q) λx hx=>?_;refine ih (j+1) (by lia) (us++[x]) (by simp[lu]) (λi y ey=>?_) λns ln hn=>?_
   .by_cases hi:i<us.length
    .rw[aF hi]at ey;exact hu i y ey
    .have hl:=(ao.mp ey).1;rw[aA,List.length_singleton]at hl;have:i=us.length:=by lia
     subst this;rw[aD (aG _),Nat.sub_self]at ey;cases ey;exact lu ▸ hx
   .by_cases z:∃vs,ns=us++[x]++vs
    .obtain⟨vs,e⟩:=z;refine .inl ⟨vs,e,?_⟩;rcases hq ns ln hn with⟨ws,e',q'⟩|z
     .rw[e,Wp]at e';have:=List.append_cancel_left e';rw[<- this]at q';exact q'
     .exact absurd ⟨x::vs,by rw[e,Wp];rfl⟩ z
    .exact .inr z
 have:=go n 0 (UP _) [] rfl (λi x z=>by cases z) (q:=q) λns ln hn=>.inl ⟨ns,rfl,k ns ln hn⟩;rw[<- List.range_eq_range']at this;exact this
def nm1(c:Nat)(i:Nat)(x:Str):Prop:=x.cps.toList=List.replicate (i+1) c
def nm2(b:List Nat)(at_:Nat)(x0 st:Int)(i:Nat)(x:Str):Prop:=x.cps.toList=b.take at_++(97+((x0+st*i)%26).toNat)::b.drop at_
theorem aem{b:List Nat}{at_:Nat}{x0 st:Int}{i j:Nat}{x:Str}(hs:st=1\/st=3\/st=5\/st=7\/st=9\/st=11)(ij:i<j)(hj:j<26)(h1:nm2 b at_ x0 st i x)(h2:nm2 b at_ x0 st j x):False:=by
 have e:=h1.symm.trans h2;have e:=List.append_cancel_left e;injection e with e _;rcases hs with rfl|rfl|rfl|rfl|rfl|rfl<;>omega
theorem afR{c i:Nat}{x:Str}(hc:ZP c=true)(hi:i<8)(h:nm1 c i x):Wd x:=by
 have l:=pP x;rw[h,aN]at l;refine ae4 ?_ (by lia) (by lia);rw[h,List.all_eq_true];intro d hd;rw[(List.mem_replicate.mp hd).2];exact hc
theorem agz{b:List Nat}{at_:Nat}{x0 st:Int}{i:Nat}{x:Str}(hb:b.all ZP=true)(hl:b.length<=7)(h:nm2 b at_ x0 st i x):Wd x:=by
 have l:=pP x;rw[h,aA,List.length_cons,aY,U2]at l;refine ae4 ?_ (by lia) (by omega);rw[h,List.all_eq_true];rw[List.all_eq_true]at hb;intro d hd;rcases Y1.mp hd with hd|hd
 .exact hb d (List.mem_of_mem_take hd)
 .rcases YU.mp hd with rfl|hd
  .exact Vs (by lia)
  .exact hb d (List.mem_of_mem_drop hd)
theorem Nt:∀(ys:Φ)(acc:Array Nat),(ys.foldl (λacc p=>acc++(Str.ofString "").cps++p.cps) acc).toList=acc.toList++(ys.map λy=>y.cps.toList).flatten
 |[],acc=>by simp
 |y::ys,acc=>by
  have e0:(Str.ofString "").cps = #[]:=by decide +kernel
  rw[List.foldl_cons,Nt ys,e0,Array.append_empty,Array.toList_append,List.map_cons,List.flatten_cons,Wp]
theorem glue(ys:Φ):(Txt.join (Str.ofString "") ys).cps.toList=(ys.map λy=>y.cps.toList).flatten:=by
 show((ys.drop 1).foldl (λacc p=>acc++(Str.ofString "").cps++p.cps) (ys.headD Str.empty).cps).toList=_;rw[Nt];cases ys with
 |nil=>rfl
 |cons y ys=>rfl
theorem ahb{c d:RT}{x y z:RS}{E:DT}{o:List OT}(b:Bool)(h:∀q:Bool->Prop,q b->afS c d o q)(hq:sw b (x { E with nx:=z E } o) (y { E with nx:=z E } o)):mC (aja (afS c d) x y) z E o:=h (λk=>sw k (x { E with nx:=z E } o) (y { E with nx:=z E } o)) hq
def SJ:ST:=λts q=>∃(c:Int)(n:Nat),ts=[.int c,.int (n:Nat)]/\n<=26/\∀ns:Φ,Nms ns n->q (.l1 (ns.map T.str))
theorem iu{c:Int}{n k:Nat}(h:k<n:=by decide):ixT ((jc c n).map T.int) (k:Nat)=some (.int (strm c k)):=by
 show nth ((jc c n).map T.int) k=_;rw[vR,aq,aq,VZ h];rfl
theorem abe(T:Tx D)(eZ:gT 1 nU j6 qd)(F:Fu Jm Am f fd):FT 2 f fd wZ SJ:=by
 refine F.okT Z4 λaf A outer s H E hr nd=>?_;refine⟨_,(bH (bR 2 uY)
  (bH (bR 3 (bK eZ (bC (qv 0) (bC bG bF))))
  (bH (cF (QW.qt (Qe (bW (go_eq hr.units) (bO cJ (bL (qv 3) bG) bG) bG) (Ig (bW XS (qv 1) bG))))
  (bJ (bT (cH (bI Am) v7 v7 ["_law_k"] (eY T.gJ (bC (qv 1) bF)) (dh (i:=0)) cg (bO cY (bL (qv 3) (bO cJ (bL (qv 4) bG) bG)) (bO dW (qv 0) bG)))))
  bU)
  (bH (bR 4 (ac7 uY (bC (cH (bI Am) v7 v7 ["_law_x"] (b_ (mL (qv 3) (iG bG) (iG (bO dW bG (bO cJ (bL (qv 3) bG) bG))))) (dh (i:=0)) cg (bL (qv 3) (bO cJ (qv 0) bG))) bF)))
  (bH (bR 5 (bO cJ (bL (qv 3) bG) bG))
  (bH (bR 6 (bL (dN (bC bG (bC bG (bC bG (bC bG (bC bG (bC bG bF))))))) (bO cJ (bL (qv 3) bG) bG)))
  (bJ (bT (cH (bI Am) v7 v7 ["_law_k"] (eY T.gJ (bC (qv 1) bF)) (dh (i:=0)) cg (bO dW (bO dW (mL (qv 5) Ru (iG (qv 6))) (bL (qv 3) (bO cJ (bO dW (bL (qv 4) bG) (bO cY (qv 7) (qv 0))) bG))) (mL (qv 5) (iG (qv 6)) Ru))))))))))),?_⟩
 rintro _ R ⟨c,n,rfl,hn,q⟩;refine⟨c,11,rfl,by decide,?_⟩;have s0:=vo c 0;have s1:=vo c 1;have lL:(Str.ofString "abcdefghijklmnopqrstuvwxyz").length<=sizeLine:=aL (show _<=1000 by decide +kernel) (by decide);have rl:(rng 0 n).length<=sizeLine:=by rw[rng,ak,WP];exact aL hn (by decide)
 dsimp only;refine ahb (decide (strm c 0%3=1)&&decide ((n:Int)<=8)) (λq hq=>?_) ?_
 .refine⟨_,iu (k:=0),by decide,?_⟩;refine swD (λh=>?_) λh=>?_
  .rw[Zs h,Bool.true_and]at hq;exact hq
  .rw[Zp h,Bool.false_and]at hq;exact hq
 .refine sw2 (λhb=>?_) λhb=>?_
  .simp only[JP,decide_eq_true_eq]at hb;refine⟨⟨by lia,by lia⟩,rl,M_ (nm1 (97+(strm c 1%26).toNat)) n (λk hk N M hN=>?_) λns ln eJ=>q ns ⟨ln,Xm eJ ln λi j x ij hj h1 h2=>?_,λx hx=>?_⟩⟩
   .refine⟨_,iu (k:=1),by decide,lL,_,abG (Z3 _ (by decide)) (YY _ (by decide)),_,rfl,by lia,by lia,λz hz=>hN z ?_⟩;rw[show((k:Int)+1).toNat=k+1 by lia]at hz;exact hz
   .have:=ZH List.length (h1.symm.trans h2);rw[aN,aN]at this;lia
   .obtain⟨i,hi⟩:=aV hx;have li:=(ao.mp hi).1;exact afR (Vs (by lia)) (by lia) (eJ i x hi)
  .obtain⟨m,em,hm⟩ : ∃m:Nat,strm c 1%8=m/\m<=7:=⟨(strm c 1%8).toNat,by lia,by lia⟩;have ec:gU ((jc c 11).map L2.T.int) (some 2) (some (2+strm c 1%8))=(((jc c 11).drop 2).take m).map L2.T.int:=by
    rw[em,Ag];have:=Xo (ys:=jc c 11) (a:=2) (b:=2+m) (X1 _ _) (by rw[ak,WP];lia);rw[show 2+m-2=m by exact TR _ _]at this;exact ZH (List.map L2.T.int) this
   have ml:(((jc c 11).drop 2).take m).length=m:=by rw[aY,U2,ak,WP];lia
   refine⟨_,iu (k:=1),by decide,?_⟩;dsimp only[frz];show(gU ((jc c 11).map L2.T.int) (some 2) (some (2+strm c 1%8))).length<=sizeLine/\_;rw[ec];have c26:∀x∈((jc c 11).drop 2).take m,0<=x:=λx hx=>by
    obtain⟨k,_,rfl⟩:=YV.mp (List.mem_of_mem_drop (List.mem_of_mem_take hx));exact(vo c k).1
   generalize((jc c 11).drop 2).take m=us at ml c26 ⊢;have e0:(Str.ofString "").length=0:=by decide +kernel
   refine⟨by rw[ak,ml];exact aL hm (by decide),comp_map L2.T.int (λx=>.str ⟨#[97+(x%26).toNat]⟩) us (λx hx N M hN=>⟨by decide,lL,_,abG (Z3 _ (by decide)) (YY _ (by decide)),hN⟩) ⟨us.map λx=>⟨#[97+(x%26).toNat]⟩,by rw[WU];rfl,?_,?_⟩⟩
   .rw[e0,Nat.mul_zero,Nat.add_zero,WU,show((λx:Str=>x.length) ∘ λx:Int=>(⟨#[97+(x%26).toNat]⟩ : Str))=λ_=>1 from rfl,List.map_const',List.sum_replicate_nat];lia
   have bc:(Txt.join (Str.ofString "") (us.map λx=>(⟨#[97+(x%26).toNat]⟩ : Str))).cps.toList=us.map λx=>97+(x%26).toNat:=by
    rw[glue,WU]
    clear ml c26 ec
    induction us with
    |nil=>rfl
    |cons x us ih=>rw[List.map_cons,List.flatten_cons,ih];rfl
   have bl:(Txt.join (Str.ofString "") (us.map λx=>(⟨#[97+(x%26).toNat]⟩ : Str))).length<=7:=by rw[<- pP,bc,ak];exact aL (WJ ml) hm
   have ba:(us.map λx=>97+(x%26).toNat).all ZP=true:=by
    rw[List.all_eq_true];intro d hd;obtain⟨x,hx,rfl⟩:=YV.mp hd;exact Vs (by lia)
   rw[<- bc]at ba;generalize Txt.join (Str.ofString "") (us.map λx=>(⟨#[97+(x%26).toNat]⟩ : Str))=st at bl ba ⊢
   clear bc
   have s9:=vo c 9;have s10:=vo c 10;obtain⟨ap,eap,mI⟩ : ∃ap:Nat,strm c 9%8=ap/\ap<=7:=⟨(strm c 9%8).toNat,by lia,by lia⟩;obtain⟨sv,es,hs⟩ : ∃sv:Int,ixT [L2.T.int 1,L2.T.int 3,L2.T.int 5,L2.T.int 7,L2.T.int 9,L2.T.int 11] (strm c 10%6)=some (.int sv)/\(sv=1\/sv=3\/sv=5\/sv=7\/sv=9\/sv=11):=by
    obtain e|e|e|e|e|e:strm c 10%6=0\/strm c 10%6=1\/strm c 10%6=2\/strm c 10%6=3\/strm c 10%6=4\/strm c 10%6=5:=by lia
    .exact⟨1,by rw[e];rfl,by decide⟩
    .exact⟨3,by rw[e];rfl,by decide⟩
    .exact⟨5,by rw[e];rfl,by decide⟩
    .exact⟨7,by rw[e];rfl,by decide⟩
    .exact⟨9,by rw[e];rfl,by decide⟩
    .exact⟨11,by rw[e];rfl,by decide⟩
   have z7:(16:Nat)<=sizeLine:=by decide
   refine⟨_,iu (k:=9),by decide,?_⟩;dsimp only[frz];rw[eap];refine⟨_,iu (k:=10),by decide,_,es,⟨by lia,by lia⟩,rl,M_ (nm2 st.cps.toList ap (strm c 0) sv) n (λk hk N M hN=>?_) λns ln eJ=>q ns ⟨ln,Xm eJ ln λi j x ij hj h1 h2=>aem hs ij (aR hj hn) h1 h2,λx hx=>?_⟩⟩
   .have t1:(Hr st none (some (ap:Int))).length<=7:=by rw[<- pP,ab3,aY,pP];lia
    have t2:(Hr st (some (ap:Int)) none).length<=7:=by rw[<- pP,S_,U2,pP];exact aL (Nat.sub_le _ _) bl
    have t3:∀d:Nat,({ cps:=#[d] } : Str).length=1:=λ_=>rfl;refine⟨by exact aL bl (by decide),_,iu (k:=0),⟨g_ (by lia),g_ (by lia)⟩,by decide,lL,_,abG (Z3 _ (by decide)) (YY _ (by decide)),by rw[t3];lia,by exact aL bl (by decide),by rw[adA,t3];lia,hN _ ?_⟩;unfold nm2;rw[Yg,Yg,ab3,S_,Wp];rfl
   .obtain⟨i,hi⟩:=aV hx;exact agz ba (by rw[pP];exact bl) (eJ i x hi)
def Cw(ws:List (Nat×Rat))(tp:List Int):Rat:=(ws.map λw=>w.2*((tp.getD w.1 0:Int):Rat)).sum
structure BhB(ws:List (Nat×Rat))(tp:List Int):Prop where
 few:ws.length<=1000
 lt:∀w∈ws,w.1<tp.length
 num:∀w∈ws,Bd w.2.num
 lcm:Bd (dI 1 (ws.map (·.2)):Nat)
 part:∀t∈tops (dI 1 (ws.map (·.2))) (ws.map (·.2)),Bd t
 top:∀t∈tp,Bd t
def yN:ST:=λts q=>∃(o:bN)(tp:List Int),ts=[ofT o,.lst (tp.map T.int)]/\BhB o.ways tp/\q (.fz (frR (Cw o.ways tp)))
theorem Q6{B:Nat}(hB:0<B)(tp:List Int):∀ws:List (Nat×Rat),(∀w∈ws,w.2.den ∣ B)->Rat.divInt ((ws.map λw=>w.2.num*((B/w.2.den:Nat):Int)*tp.getD w.1 0).sum) B=Cw ws tp
 |[],_=>by
  show Rat.divInt 0 B=0;exact JU _
 |w::ws,h=>by
  have ih:=Q6 hB tp ws λx hx=>h x (aJ _ hx);show Rat.divInt (w.2.num*((B/w.2.den:Nat):Int)*tp.getD w.1 0+(ws.map λw=>w.2.num*((B/w.2.den:Nat):Int)*tp.getD w.1 0).sum) B=w.2*((tp.getD w.1 0:Int):Rat)+Cw ws tp;rw[<- ih,TZ,TZ,Rat.intCast_add,XV];have e:((w.2.num*((B/w.2.den:Nat):Int):Int):Rat)/((B:Int):Rat)=w.2:=by
   obtain⟨k,hk⟩:=h w (aO ..);have hd:=w.2.den_pos;rw[show B/w.2.den=k by rw[hk];exact Nat.mul_div_cancel_left _ hd];have eL:k≠0:=λz=>by rw[z]at hk;lia
   rw[<- TZ,hk,JY,Rat.divInt_mul_right (by lia)];exact rd _
  have hb:((B:Int):Rat)≠0:=λz=>by have:=Rat.intCast_eq_zero_iff.mp z;lia
  grind
theorem abO{α:Type}(ws:List α)(g h:α->Int):((ws.map g).zip ws).map (λp=>p.1*h p.2)=ws.map λw=>g w*h w:=by
 induction ws with
 |nil=>rfl
 |cons w ws ih=>exact ZH (List.cons _) ih
theorem Jp(T:Tx D)(lH:gT 2 uJ oY yU)(dZ:gT 2 qG m_ uI)(F:Fu rJ lA f fd):FT 3 f fd jQ yN:=by
 refine F.okT JW λaf A outer s H E hr nd=>?_;refine⟨_,(bH (bR 2 (bK lH (bC (cH (bI lA) kO kO ["room","chance"] (b_ (bL (qv 0) bG)) (fB (n:=2) (bQ (dh (i:=0)) (bQ (dh (i:=1)) dG))) cg (qv 1)) bF)))
  (bJ (bT (bK dZ (bC (bZ (W3 rfl) T.acd boot_sum (bC (cH (bI lA) kO kO ["part","way"] (Ke T.UJ (bC (bL (qv 2) bG) (bC (bL (qv 0) bG) bF))) (fB (n:=2) (bQ (dh (i:=0)) (bQ (dh (i:=1)) dG))) cg (bO cY (qv 0) (bL (qv 3) (bL (qv 1) bG)))) bF)) (bC (bL (qv 2) bG) bF)))))),?_⟩
 rintro _ R ⟨o,tp,rfl,h,q⟩;refine⟨by rw[ak];exact aL h.few (by decide),comp_map nwT (λw=>frR w.2) o.ways (λw hw N M hN=>⟨rfl,hN⟩) ?_⟩;have hB:=iQ (o.ways.map (·.2)) UT;refine⟨o.ways.map (·.2),by rw[WU];rfl,by rw[ak];exact h.few,λr hr=>?_,h.lcm,?_⟩
 .obtain⟨w,hw,rfl⟩:=YV.mp hr;exact h.num w hw
 .refine⟨by unfold Gj;rw[ak,VX,ak,ak];exact aL (aL (Nat.min_le_right ..) h.few) (by decide),?_⟩;rw[zip_map];refine comp_map (λp:Int×(Nat×Rat)=>.tup [.int p.1,nwT p.2]) (λp=>.int (p.1*tp.getD p.2.1 0)) _ (λp hp N M hN=>?a) ?b
  case a =>
   have m2:=(VS hp).2;have lt:=h.lt _ m2;have hN:N (.int (p.1*tp.getD p.2.1 0)):=hN;rw[au,aj lt]at hN;exact⟨rfl,_,cW (aj lt),⟨h.part _ (VS hp).1,h.top _ (aU lt)⟩,hN⟩
  case b =>
   refine⟨((tops (dI 1 (o.ways.map (·.2))) (o.ways.map (·.2))).zip o.ways).map λp=>p.1*tp.getD p.2.1 0,by rw[WU];rfl,_,_,rfl,by lia,h.lcm,λx y l=>?_⟩;rw[j5 l (by lia)];unfold tops;rw[WU,abO o.ways _ λw=>tp.getD w.1 0];have:=Q6 hB tp o.ways λw hw=>(nG (o.ways.map (·.2))).2 w.2 (YV.mpr ⟨w,hw,rfl⟩);rw[<- this]at q;exact q
open Rw (sg jA jd cA j7 j_ Big)
def dw(ws:List (Nat×Rat))(x:Nat->Rat):Rat:=(ws.map λw=>w.2*x w.1).sum
def R7(ws:List (Nat×Rat)):Rat:=(ws.map (·.2)).sum
theorem dH(w:Nat×Rat)(ws:List (Nat×Rat))(x:Nat->Rat):dw (w::ws) x=w.2*x w.1+dw ws x:=rfl
theorem Ab(w:Nat×Rat)(ws:List (Nat×Rat)):R7 (w::ws)=w.2+R7 ws:=rfl
theorem aaM{M:Rat}{x:Nat->Rat} : ∀{ws:List (Nat×Rat)},(∀w∈ws,0<=w.2/\x w.1<=M)->dw ws x<=R7 ws*M
 |[],_=>by show(0:Rat)<=0*M;rw[Rat.zero_mul];exact W1
 |w::ws,h=>by
  rw[dH,Ab];have:=aaM (ws:=ws) λv hv=>h v (aJ _ hv);obtain⟨a,b⟩:=h w (aO ..);have:=Rat.mul_le_mul_of_nonneg_left b a
  grind
theorem ae5{m:Nat}{x:Nat->Rat} : ∀{ws:List (Nat×Rat)},(∀w∈ws,w.1<m)->sg (λj=>uH ws j*x j) m=dw ws x
 |[],_=>by
  show sg (λj=>0*x j) m=0;rw[cA (g:=λ_=>0) λj _=>Rat.zero_mul _,j7]
 |w::ws,h=>by
  rw[dH,<- ae5 (m:=m) (ws:=ws) λv hv=>h v (aJ _ hv)];rw[cA (g:=λj=>(if j=w.1 then 1 else 0)*(w.2*x j)+uH ws j*x j) λj _=>?_,jA,j_ (v:=λj=>w.2*x j),ZY (h w (aO ..))];show((if w.1=j then w.2 else 0)+uH ws j)*x j=_;by_cases e:w.1=j
  .rw[ZY e,ZY e.symm];grind
  .rw[ZZ e,ZZ (Ne.symm e)];grind
theorem Rg(x:Nat->Rat):∀{m:Nat},0<m->∃i,i<m/\∀j,j<m->x j<=x i
 |0,h=>absurd h (WZ _)
 |1,_=>⟨0,UT,λj hj=>by rw[show j=0 by exact Nat.eq_zero_of_le_zero (VW hj)];exact W1⟩
 |m+2,_=>by
  obtain⟨i,hi,h⟩:=Rg x (m:=m+1) (TU _);by_cases c:x i<=x (m+1)
  .refine⟨m+1,by exact X0 _,λj hj=>?_⟩;by_cases e:j=m+1
   .rw[e];exact W1
   .exact Rat.le_trans (h j (XX (VW hj) e)) c
  .refine⟨i,by exact Tu hi (X0 _),λj hj=>?_⟩;by_cases e:j=m+1
   .rw[e];exact UR (Rat.not_le.mp c)
   .exact h j (XX (VW hj) e)
theorem ab9{s:Rat}{cs:List (Option bN)}{x:Nat->Rat}{i:Nat}(hi:i<cs.length)(h:∀w∈BW (cs.getD i none),w.1<cs.length):sg (λj=>gQ s cs i j*x j) cs.length=x i-s*dw (BW (cs.getD i none)) x:=by
 rw[<- ae5 h,cA (g:=λj=>(if j=i then 1 else 0)*x j+(-s)*(uH (BW (cs.getD i none)) j*x j)) λj _=>by unfold gQ;grind,jA,jd,j_ (v:=x),ZY hi]
 grind
theorem Kg(x:Nat->Rat):∀ws:List (Nat×Rat),dw ws (λj=>-(x j))=-(dw ws x)
 |[]=>by show(0:Rat)=-0;grind
 |w::ws=>by rw[dH,dH,Kg x ws];grind
theorem ZL(ys:List Rat)(k:Nat):(((tops (dI 1 ys) ys).getD k 0:Int):Rat)=ys.getD k 0*((dI 1 ys:Nat):Rat):=by
 have h:=Q9 ys k;unfold Rw.vr at h;have hB:=iQ ys UT;have n:((((dI 1 ys:Nat):Int)):Rat)≠0:=λz=>by have:=Rat.intCast_eq_zero_iff.mp z;lia
 have e:((((dI 1 ys:Nat):Int)):Rat)=((dI 1 ys:Nat):Rat):=rfl;rw[<- e,<- h];show _=(((tops (dI 1 ys) ys).getD k 0:Int):Rat)/_*_
 grind
theorem Aj(ys:List Rat):∀ws:List (Nat×Rat),Cw ws (tops (dI 1 ys) ys)=dw ws (λk=>ys.getD k 0)*((dI 1 ys:Nat):Rat)
 |[]=>by show(0:Rat)=0*_;rw[Rat.zero_mul]
 |w::ws=>by
  show w.2*(((tops (dI 1 ys) ys).getD w.1 0:Int):Rat)+Cw ws _=_;rw[Aj ys ws,dH,ZL]
  grind
theorem TY{x z:Nat->Rat} : ∀{ws:List (Nat×Rat)},(∀w∈ws,x w.1=z w.1)->dw ws x=dw ws z
 |[],_=>rfl
 |w::ws,h=>by rw[dH,dH,h w (aO ..),TY λv hv=>h v (aJ _ hv)]
theorem Qa{x z:Nat->Rat} : ∀{ws:List (Nat×Rat)},(∀w∈ws,0<=w.2/\x w.1<=z w.1)->dw ws x<=dw ws z
 |[],_=>W1
 |w::ws,h=>by
  rw[dH,dH];have:=Qa (ws:=ws) λv hv=>h v (aJ _ hv);obtain⟨a,b⟩:=h w (aO ..);have:=Rat.mul_le_mul_of_nonneg_left b a
  grind
theorem Fi(x z:Nat->Rat):∀ws:List (Nat×Rat),dw ws (λj=>x j-z j)=dw ws x-dw ws z
 |[]=>by show(0:Rat)=0-0;grind
 |w::ws=>by rw[dH,dH,dH,Fi x z ws];grind
theorem afm{off:List (List bN)}{pl:List (Option Nat)}{i:Nat}{d:Option Nat}(e:pl[i]?=some d):(chO off pl).getD i none=d.bind λd=>(off.getD i [])[d]?:=by
 unfold chO;rw[au,aq,List.getElem?_zipIdx,e];simp
def acK(s:Rat)(cs:List (Option bN)):List (List Rat):=(List.range cs.length).map λi=>(List.range cs.length).map λj=>gQ s cs i j
theorem amA(s:Rat)(cs:List (Option bN)):(rowsOf (gQ s cs) cs.length).map T.lst=(acK s cs).map JH:=by
 unfold rowsOf acK;rw[WU,WU];refine US λi _=>?_;show T.lst _=T.lst (List.map frR _);rw[WU]
 rfl
theorem aft{off:List (List bN)}{pl:List (Option Nat)}(h:PlT off pl):(chO off pl).length=off.length:=by unfold chO;rw[ak,UK,h.len]
theorem aer{A Q:Nat}{r:List Rat}(hA:1<=A)(hQ:0<Q)(h:∀c∈r,c.den ∣ Q/\c.num.natAbs<=A*c.den):Big (A*Q) (nM r):=by
 have hB:=iQ r UT;have hd:dI 1 r ∣ Q:=vm r (T1 _) λc hc=>(h c hc).1;have le:=UY hQ hd;refine⟨by show(0:Int)<(dI 1 r:Nat);lia,?_,λt ht=>?_⟩
 .show((dI 1 r:Nat):Int).natAbs<=A*Q;rw[XT];exact aL le (Q4 _ hA)
 .obtain⟨c,hc,rfl⟩:=YV.mp ht;rw[Up,XT];refine aL (Nat.mul_le_mul_right _ (h c hc).2) ?_;rw[Nat.mul_assoc,Nat.mul_div_cancel' ((nG r).2 c hc)];exact Nat.mul_le_mul_left _ le
def mtS(S:Nat->Bool)(d:List Nat):Bool:=d.any S
def jn:Bool->List (List Nat)->(Nat->Bool)->Bool
 |false,ds,S=>ds.any (mtS S)
 |true,ds,S=>decide (0<ds.length)&&ds.all (mtS S)
theorem nC{ds:List (List Nat)}{S:Nat->Bool} : jn false ds S=true↔∃d∈ds,∃r∈d,S r=true:=by simp[jn,mtS,List.any_eq_true]
theorem Iw{ds:List (List Nat)}{S:Nat->Bool} : jn true ds S=true↔0<ds.length/\∀d∈ds,∃r∈d,S r=true:=by simp[jn,mtS]
structure Lfp(e:Bool)(m:Nat)(mk:Nat->Bool)(ld:Nat->List (List Nat))(S:Nat->Bool):Prop where
 base:∀k,k<m->mk k=true->S k=true
 step:∀k,k<m->jn e (ld k) S=true->S k=true
 least:∀A:Nat->Bool,(∀k,k<m->mk k=true->A k=true)->(∀k,k<m->jn e (ld k) A=true->A k=true)->∀k,k<m->S k=true->A k=true
structure WyO(m:Nat)(o:bN):Prop where
 lt:∀w∈o.ways,w.1<m
 pos:∀w∈o.ways,0<w.2
 one:R7 o.ways=1
theorem afh{M:Rat}{x:Nat->Rat} : ∀{ws:List (Nat×Rat)},(∀w∈ws,0<w.2/\x w.1<=M)->(∃w∈ws,x w.1<M)->dw ws x<R7 ws*M
 |[],_,e=>by obtain⟨_,z,_⟩:=e;cases z
 |w::ws,h,e=>by
  rw[dH,Ab];obtain⟨p,l⟩:=h w (aO ..);have hs:∀v∈ws,0<v.2/\x v.1<=M:=λv hv=>h v (aJ _ hv);have a:=aaM (ws:=ws) (M:=M) (x:=x) λv hv=>⟨UR (hs v hv).1,(hs v hv).2⟩;by_cases c:x w.1<M
  .have:=Rat.mul_lt_mul_of_pos_left c p
   grind
  .obtain⟨v,hv,lv⟩:=e;rcases YU.mp hv with rfl|hv
   .exact absurd lv c
   .have:=afh hs ⟨v,hv,lv⟩;have:=Rat.mul_le_mul_of_nonneg_left l (UR p)
    grind
section
variable{m:Nat}{o:bN}{x:Nat->Rat}{M:Rat}
theorem WyO.le(h:WyO m o)(hx:∀w∈o.ways,x w.1<=M):dw o.ways x<=M:=by
 have:=aaM (ws:=o.ways) (M:=M) (x:=x) λv hv=>⟨UR (h.pos v hv),hx v hv⟩;rw[h.one]at this
 grind
theorem WyO.lt_(h:WyO m o)(hx:∀w∈o.ways,x w.1<=M)(e:∃w∈o.ways,x w.1<M):dw o.ways x<M:=by
 have:=afh (ws:=o.ways) (M:=M) (x:=x) (λv hv=>⟨h.pos v hv,hx v hv⟩) e;rw[h.one]at this
 grind
theorem WyO.ge(h:WyO m o)(hx:∀w∈o.ways,M<=x w.1):M<=dw o.ways x:=by
 have:=h.le (x:=λk=>-(x k)) (M:=-M) λw hw=>by have:=hx w hw;grind
 rw[Kg]at this
 grind
theorem WyO.gt(h:WyO m o)(hx:∀w∈o.ways,M<=x w.1)(e:∃w∈o.ways,M<x w.1):M<dw o.ways x:=by
 obtain⟨w,hw,l⟩:=e;have:=h.lt_ (x:=λk=>-(x k)) (M:=-M) (λw hw=>by have:=hx w hw;grind) ⟨w,hw,by grind⟩;rw[Kg]at this
 grind
end
theorem agc(x:Nat->Rat){m:Nat}(h:0<m):∃i,i<m/\∀j,j<m->x i<=x j:=by
 obtain⟨i,hi,k⟩:=Rg (λj=>-(x j)) h;exact⟨i,hi,λj hj=>by have:=k j hj;grind⟩
theorem Wf(x:Nat->Rat)(L:Nat->Bool){m k:Nat}(hk:k<m)(hl:L k=true):∃i,i<m/\L i=true/\∀j,j<m->L j=true->x i<=x j:=by
 obtain⟨b,hb,mx⟩:=Rg x (m:=m) (by lia);obtain⟨i,hi,h⟩:=agc (λj=>if L j then x j else x b+1) (m:=m) (by lia);have hL:L i=true:=by
  cases e:L i with
  |true=>rfl
  |false =>
   have:=h k hk;rw[e,hl]at this;have:=mx k hk
   grind
 refine⟨i,hi,hL,λj hj hj'=>?_⟩;have:=h j hj;rw[hL,hj']at this;exact this
def ldC:Option bN->List (List Nat)
 |none=>[]
 |some o=>[o.ways.map (·.1)]
theorem E_{c:Option bN}{S:Nat->Bool}(h:jn false (ldC c) S=true):∃o,c=some o/\∃w∈o.ways,S w.1=true:=by
 obtain⟨d,hd,r,hr,hs⟩:=nC.mp h;cases c with
 |none=>cases hd
 |some o =>
  cases YR.mp hd;obtain⟨w,hw,rfl⟩:=YV.mp hr;exact⟨o,rfl,w,hw,hs⟩
theorem RP{o:bN}{S:Nat->Bool}{w:Nat×Rat}(hw:w∈o.ways)(h:S w.1=true):jn false (ldC (some o)) S=true:=nC.mpr ⟨_,YR.mpr rfl,w.1,YV.mpr ⟨w,hw,rfl⟩,h⟩
section
variable{m:Nat}{mk S:Nat->Bool}{c:Nat->Option bN}
theorem mp(lf:Lfp false m mk (λk=>ldC (c k)) S)(hw:∀k,k<m->∀o,c k=some o->WyO m o){d:Nat->Rat}(hs:∀k,k<m->mk k=false->S k=true->d k<=dw (BW (c k)) d)(hg:∀k,k<m->mk k=true->d k<=0)(hn:∀k,k<m->S k=false->d k<=0):∀k,k<m->d k<=0:=by
 intro k0 eL;obtain⟨i,hi,g9⟩:=Rg d (m:=m) (by lia);refine Rat.le_trans (g9 k0 eL) (Rat.not_lt.mp λpos=>?_);have cl:=lf.least (λk=>decide (d k≠d i)) (λk hk e=>Zs (λz=>by have:=hg k hk e;grind)) (λk hk e=>Zs λz=>?_)
 .cases s:S i with
  |true=>exact of_decide_eq_true (cl i hi s) rfl
  |false=>have:=hn i hi s;grind
 .obtain⟨o,ec,w,az,eK⟩:=E_ e;have eK:d w.1≠d i:=of_decide_eq_true eK;have W:=hw k hk o ec;cases g:mk k with
  |true=>have:=hg k hk g;grind
  |false =>
   cases s:S k with
   |true =>
    have le:=hs k hk g s;rw[ec]at le;have le:d k<=dw o.ways d:=le;have lt:=W.lt_ (M:=d i) (x:=d) (λv hv=>g9 _ (W.lt v hv)) ⟨w,az,by have:=g9 _ (W.lt w az);grind⟩
    grind
   |false=>have:=hn k hk s;grind
structure fW(m:Nat)(mk:Nat->Bool)(c:Nat->Option bN)(S:Nat->Bool)(x:Nat->Rat):Prop where
 lf:Lfp false m mk (λk=>ldC (c k)) S
 goal:∀k,k<m->mk k=true->x k=1
 mean:∀k,k<m->mk k=false->S k=true->x k=dw (BW (c k)) x
 no:∀k,k<m->S k=false->x k=0
variable{x:Nat->Rat}
theorem fW.nn(h:fW m mk c S x)(hw:∀k,k<m->∀o,c k=some o->WyO m o):∀k,k<m->0<=x k:=λk hk=>by
 have:=mp h.lf hw (d:=λk=>-(x k)) (λk hk g s=>by rw[Kg,<- h.mean k hk g s];exact W1) (λk hk g=>by rw[h.goal k hk g];decide) (λk hk s=>by rw[h.no k hk s];exact W1) k hk
 grind
theorem CG:∀ws:List (Nat×Rat),R7 ws=dw ws λ_=>1
 |[]=>rfl
 |w::ws=>by rw[Ab,dH,CG ws,Rat.mul_one]
theorem fW.le1(h:fW m mk c S x)(hw:∀k,k<m->∀o,c k=some o->WyO m o):∀k,k<m->x k<=1:=λk hk=>by
 have:=mp h.lf hw (d:=λk=>x k-1) (λk hk g s=>by
  rw[Fi,<- CG];have e:=h.mean k hk g s;cases ec:c k with
  |none =>
   rw[ec]at e;have e:x k=0:=e;show x k-1<=0-0;rw[e];grind
  |some o =>
   have W:=hw k hk o ec;rw[ec]at e;show x k-1<=dw o.ways x-R7 o.ways;rw[W.one,e];exact W1) (λk hk g=>by rw[h.goal k hk g];grind) (λk hk s=>by rw[h.no k hk s];grind) k hk
 grind
theorem fW.pos(h:fW m mk c S x)(hw:∀k,k<m->∀o,c k=some o->WyO m o):∀k,k<m->S k=true->0<x k:=λk hk s=>by
 have nn:=h.nn hw;refine of_decide_eq_true (h.lf.least (λk=>decide (0<x k)) (λk hk g=>Zs (by rw[h.goal k hk g];decide)) (λk hk e=>Zs ?_) k hk s);obtain⟨o,ec,w,az,hp⟩:=E_ e;have hp:0<x w.1:=of_decide_eq_true hp;have W:=hw k hk o ec;have ws:S w.1=true:=by
  cases z:S w.1 with
  |true=>rfl
  |false=>have:=h.no _ (W.lt w az) z;grind
 cases g:mk k with
 |true=>rw[h.goal k hk g];decide
 |false =>
  rw[h.mean k hk g (h.lf.step k hk (by rw[ec];exact RP az ws)),ec];exact W.gt (M:=0) (x:=x) (λv hv=>nn _ (W.lt v hv)) ⟨w,az,hp⟩
theorem fW.val(h:fW m mk c S x)(hw:∀k,k<m->∀o,c k=some o->WyO m o){k:Nat}(hk:k<m)(g:mk k=false){o:bN}(ec:c k=some o):x k=dw o.ways x:=by
 cases s:S k with
 |true=>rw[h.mean k hk g s,ec];rfl
 |false =>
  have W:=hw k hk o ec;have z:∀w∈o.ways,x w.1=0:=λw az=>h.no _ (W.lt w az) (by
   cases t:S w.1 with
   |false=>rfl
   |true =>
    have:=h.lf.step k hk (by rw[ec];exact RP az t);rw[s]at this;cases this)
  rw[h.no k hk s];have a:=W.le (M:=0) (x:=x) λw az=>by rw[z w az];exact W1
  have b:=W.ge (M:=0) (x:=x) λw az=>by rw[z w az];exact W1
  grind
theorem agl(lf:Lfp false m mk (λk=>ldC (c k)) S)(hw:∀k,k<m->∀o,c k=some o->WyO m o)(hx:∀k,k<m->x k=if mk k=false/\S k=true then dw (BW (c k)) x else 0):∀k,k<m->x k=0:=λk hk=>by
 have a:=mp lf hw (d:=x) (λk hk g s=>by rw[hx k hk,ZY ⟨g,s⟩];exact W1) (λk hk g=>by rw[hx k hk,ZZ (by rw[g];exact λz=>Bool.noConfusion z.1)];exact W1) (λk hk s=>by rw[hx k hk,ZZ (by rw[s];exact λz=>Bool.noConfusion z.2)];exact W1) k hk;have b:=mp lf hw (d:=λk=>-(x k)) (λk hk g s=>by rw[Kg,hx k hk,ZY ⟨g,s⟩];exact W1) (λk hk g=>by rw[hx k hk,ZZ (by rw[g];exact λz=>Bool.noConfusion z.1)];exact W1) (λk hk s=>by rw[hx k hk,ZZ (by rw[s];exact λz=>Bool.noConfusion z.2)];exact W1) k hk
 grind
end
def bet:Bool->Rat->Rat->Prop
 |false,a,b=>a<b
 |true,a,b=>b<a
structure Turn(e:Bool)(m:Nat)(mk:Nat->Bool)(x:Nat->Rat)(c c':Nat->Option bN):Prop where
 goal:∀k,k<m->mk k=true->c' k=c k
 none:∀k,k<m->c k=none->c' k=none
 turn:∀k,k<m->mk k=false->∀o,c k=some o->∃p,c' k=some p/\(c' k=c k\/bet e (dw o.ways x) (dw p.ways x))
section
variable{m:Nat}{mk S S':Nat->Bool}{c c':Nat->Option bN}{off:Nat->List bN}{x x':Nat->Rat}
theorem Turn.le(t:Turn false m mk x c c')(h:fW m mk c S x)(hw:∀k,k<m->∀o,c k=some o->WyO m o){k:Nat}(hk:k<m)(g:mk k=false){p:bN}(ep:c' k=some p):x k<=dw p.ways x:=by
 cases ec:c k with
 |none=>rw[t.none k hk ec]at ep;cases ep
 |some o =>
  obtain⟨q,eq,z⟩:=t.turn k hk g o ec;rw[ep]at eq;cases eq;rw[h.val hw hk g ec];rcases z with z|z
  .rw[ep,ec]at z;cases z;exact W1
  .exact UR z
theorem Turn.nought(t:Turn false m mk x c c')(h:fW m mk c S x)(hw:∀k,k<m->∀o,c k=some o->WyO m o)(dm:∀k,k<m->∀o,c' k=some o->WyO m o)(lf:Lfp false m mk (λk=>ldC (c' k)) S'):∀k,k<m->S' k=false->x k=0:=λk0 eL s0=>by
 obtain⟨i,hi,li,mx⟩:=Wf (λj=>-(x j)) (λj=>!(S' j)) eL (by rw[s0];rfl);have li:S' i=false:=by simpa using li
 have mx:∀j,j<m->S' j=false->x j<=x i:=λj hj sj=>by have:=mx j hj (by rw[sj];rfl);grind
 have nn:=h.nn hw;have a:=mx k0 eL s0;have b:=nn k0 eL;refine Classical.byContradiction λne=>?_;have pos:0<x i:=by grind
 have si:S i=true:=by
  cases z:S i with
  |true=>rfl
  |false=>have:=h.no i hi z;grind
 have cl:=h.lf.least (λk=>S' k || decide (x k≠x i)) (λk hk g=>by rw[lf.base k hk g];rfl) (λk hk e=>?_) i hi si
 .rw[li]at cl;exact of_decide_eq_true (show decide (x i≠x i)=true from cl) rfl
 .obtain⟨o,ec,w,az,eK⟩:=E_ e;cases s:S' k with
  |true=>rfl
  |false =>
   refine Zs λz=>?_;have g:mk k=false:=by
    cases g:mk k with
    |false=>rfl
    |true=>rw[lf.base k hk g]at s;cases s
   obtain⟨p,ep,tp⟩:=t.turn k hk g o ec;have W:=dm k hk p ep;have out:∀w∈p.ways,S' w.1=false:=λw az=>by
    cases r:S' w.1 with
    |false=>rfl
    |true =>
     have:=lf.step k hk (by rw[ep];exact RP az r);rw[s]at this;cases this
   have le:=t.le h hw hk g ep;have up:=W.le (M:=x i) (x:=x) λw az=>mx _ (W.lt w az) (out w az);have v:=h.val hw hk g ec;rcases tp with tp|tp
   .rw[ep,ec]at tp;cases tp;have so:=out w az;rw[so]at eK;have eK:x w.1≠x i:=of_decide_eq_true (by simpa using eK);have lt:=W.lt_ (M:=x i) (x:=x) (λw az=>mx _ (W.lt w az) (out w az)) ⟨w,az,by have:=mx _ (W.lt w az) so;grind⟩
    grind
   .have tp:dw o.ways x<dw p.ways x:=tp
    grind
theorem Turn.up(t:Turn false m mk x c c')(h:fW m mk c S x)(h':fW m mk c' S' x')(hw:∀k,k<m->∀o,c k=some o->WyO m o)(dm:∀k,k<m->∀o,c' k=some o->WyO m o):(∀k,k<m->x k<=x' k)/\∀k,k<m->c' k≠c k->x k<x' k:=by
 have z:=t.nought h hw dm h'.lf;have le:∀k,k<m->x k<=x' k:=λk hk=>by
  have:=mp h'.lf dm (d:=λk=>x k-x' k) (λk hk g s=>by
   rw[Fi,<- h'.mean k hk g s];cases ep:c' k with
   |none =>
    have e:=h'.mean k hk g s;have p:=h'.pos dm k hk s;rw[ep]at e;have e:x' k=0:=e
    grind
   |some p =>
    have:=t.le h hw hk g ep;show x k-x' k<=dw p.ways x-x' k
    grind) (λk hk g=>by rw[h.goal k hk g,h'.goal k hk g];grind) (λk hk s=>by rw[z k hk s,h'.no k hk s];grind) k hk
  grind
 refine⟨le,λk hk ne=>?_⟩;have g:mk k=false:=by
  cases g:mk k with
  |false=>rfl
  |true=>exact absurd (t.goal k hk g) ne
 cases ec:c k with
 |none=>exact absurd ((t.none k hk ec).trans ec.symm) ne
 |some o =>
  obtain⟨p,ep,tp⟩:=t.turn k hk g o ec;have tp:dw o.ways x<dw p.ways x:=tp.resolve_left ne;have W:=dm k hk p ep;rw[h.val hw hk g ec,h'.val dm hk g ep];have:=Qa (ws:=p.ways) (x:=x) (z:=x') λw az=>⟨UR (W.pos w az),le _ (W.lt w az)⟩
  grind
theorem Turn.down(t:Turn true m mk x c c')(h:fW m mk c S x)(h':fW m mk c' S' x')(hw:∀k,k<m->∀o,c k=some o->WyO m o)(dm:∀k,k<m->∀o,c' k=some o->WyO m o):(∀k,k<m->x' k<=x k)/\∀k,k<m->c' k≠c k->x' k<x k:=by
 have nn:=h.nn hw;have go:∀k,k<m->mk k=false->∀p,c' k=some p->dw p.ways x<=x k:=λk hk g p ep=>by
  cases ec:c k with
  |none=>rw[t.none k hk ec]at ep;cases ep
  |some o =>
   obtain⟨q,eq,z⟩:=t.turn k hk g o ec;rw[ep]at eq;cases eq;rw[h.val hw hk g ec];rcases z with z|z
   .rw[ep,ec]at z;cases z;exact W1
   .exact UR z
 have le:∀k,k<m->x' k<=x k:=λk hk=>by
  have:=mp h'.lf dm (d:=λk=>x' k-x k) (λk hk g s=>by
   rw[Fi,<- h'.mean k hk g s];cases ep:c' k with
   |none =>
    have e:=h'.mean k hk g s;have p:=h'.pos dm k hk s;rw[ep]at e;have e:x' k=0:=e
    grind
   |some p =>
    have:=go k hk g p ep;show x' k-x k<=x' k-dw p.ways x
    grind) (λk hk g=>by rw[h.goal k hk g,h'.goal k hk g];grind) (λk hk s=>by rw[h'.no k hk s];have:=nn k hk;grind) k hk
  grind
 refine⟨le,λk hk ne=>?_⟩;have g:mk k=false:=by
  cases g:mk k with
  |false=>rfl
  |true=>exact absurd (t.goal k hk g) ne
 cases ec:c k with
 |none=>exact absurd ((t.none k hk ec).trans ec.symm) ne
 |some o =>
  obtain⟨p,ep,tp⟩:=t.turn k hk g o ec;have tp:dw p.ways x<dw o.ways x:=tp.resolve_left ne;have W:=dm k hk p ep;rw[h.val hw hk g ec,h'.val dm hk g ep];have:=Qa (ws:=p.ways) (x:=x') (z:=x) λw az=>⟨UR (W.pos w az),le _ (W.lt w az)⟩
  grind
structure Best(e:Bool)(m:Nat)(mk:Nat->Bool)(off:Nat->List bN)(x:Nat->Rat):Prop where
 ok:∀k,k<m->mk k=false->∀o∈off k,¬bet e (x k) (dw o.ways x)
def ldO(mk:Nat->Bool)(off:Nat->List bN)(k:Nat):List (List Nat):=if mk k then[]else(off k).map λo=>o.ways.map (·.1)
theorem SM{S:Nat->Bool}{k:Nat}(h:jn false (ldO mk off k) S=true):mk k=false/\∃o∈off k,∃w∈o.ways,S w.1=true:=by
 obtain⟨d,hd,r,hr,hs⟩:=nC.mp h;unfold ldO at hd;cases g:mk k with
 |true=>rw[g,ZY rfl]at hd;cases hd
 |false =>
  rw[g,ZZ (by decide)]at hd;obtain⟨o,ho,rfl⟩:=YV.mp hd;obtain⟨w,az,rfl⟩:=YV.mp hr;exact⟨rfl,o,ho,w,az,hs⟩
theorem MP{S:Nat->Bool}{k:Nat}(g:mk k=false){o:bN}(ho:o∈off k){w:Nat×Rat}(hw:w∈o.ways)(h:S w.1=true):jn false (ldO mk off k) S=true:=nC.mpr ⟨o.ways.map (·.1),by unfold ldO;rw[g,ZZ (by decide)];exact YV.mpr ⟨o,ho,rfl⟩,w.1,YV.mpr ⟨w,hw,rfl⟩,h⟩
theorem U3{S:Nat->Bool}{k:Nat}(h:jn true (ldO mk off k) S=true):mk k=false/\off k≠[]/\∀o∈off k,∃w∈o.ways,S w.1=true:=by
 obtain⟨h0,h⟩:=Iw.mp h;unfold ldO at h0 h;cases g:mk k with
 |true=>rw[g,ZY rfl]at h0;cases h0
 |false =>
  rw[g,ZZ (by decide)]at h0 h;refine⟨rfl,(λz=>by rw[z]at h0;cases h0),λo ho=>?_⟩;obtain⟨r,hr,hs⟩:=h _ (YV.mpr ⟨o,ho,rfl⟩);obtain⟨w,az,rfl⟩:=YV.mp hr;exact⟨w,az,hs⟩
end
section
variable{m:Nat}{mk S S' F L R:Nat->Bool}{c c':Nat->Option bN}{off:Nat->List bN}{x y:Nat->Rat}
structure PlC(m:Nat)(off:Nat->List bN)(c:Nat->Option bN):Prop where
 mem:∀k,k<m->∀o,c k=some o->o∈off k
 non:∀k,k<m->off k≠[]->∃o,c k=some o
theorem beats(B:Best false m mk off y)(pc:PlC m off c)(ho:∀k,k<m->∀o∈off k,WyO m o)(h:fW m mk c S x)(yn:∀k,k<m->0<=y k)(yg:∀k,k<m->mk k=true->y k=1):∀k,k<m->x k<=y k:=λk hk=>by
 have hw:∀k,k<m->∀o,c k=some o->WyO m o:=λk hk o e=>ho k hk o (pc.mem k hk o e);have:=mp h.lf hw (d:=λk=>x k-y k) (λk hk g s=>by
  rw[Fi,<- h.mean k hk g s];cases ep:c k with
  |none =>
   have e:=h.mean k hk g s;have p:=h.pos hw k hk s;rw[ep]at e;have e:x k=0:=e
   grind
  |some p =>
   have:¬y k<dw p.ways y:=B.ok k hk g p (pc.mem k hk p ep);show x k-y k<=x k-dw p.ways y
   grind) (λk hk g=>by rw[h.goal k hk g,yg k hk g];grind) (λk hk s=>by rw[h.no k hk s];have:=yn k hk;grind) k hk
 grind
theorem ada(B:Best false m mk off x)(pc:PlC m off c)(ho:∀k,k<m->∀o∈off k,WyO m o)(h:fW m mk c S x)(f:Lfp false m mk (ldO mk off) F){k:Nat}(hk:k<m):(F k=true->0<x k)/\(F k=false->x k=0):=by
 have hw:∀k,k<m->∀o,c k=some o->WyO m o:=λk hk o e=>ho k hk o (pc.mem k hk o e);have nn:=h.nn hw;refine⟨λe=>of_decide_eq_true (f.least (λk=>decide (0<x k)) (λk hk g=>Zs (by rw[h.goal k hk g];decide)) (λk hk e=>Zs ?_) k hk e),λe=>?_⟩
 .obtain⟨g,o,om,w,az,hp⟩:=SM e;have hp:0<x w.1:=of_decide_eq_true hp;have W:=ho k hk o om;have:¬x k<dw o.ways x:=B.ok k hk g o om;have:=W.gt (M:=0) (x:=x) (λv hv=>nn _ (W.lt v hv)) ⟨w,az,hp⟩
  grind
 .cases s:S k with
  |false=>exact h.no k hk s
  |true =>
   have:=h.lf.least F f.base (λk hk e=>by
    obtain⟨o,ec,w,az,hf⟩:=E_ e;cases g:mk k with
    |true=>exact f.base k hk g
    |false=>exact f.step k hk (MP g (pc.mem k hk o ec) az hf)) k hk s
   rw[e]at this;cases this
def stay(ld:Nat->List (List Nat))(L:Nat->Bool)(k:Nat):List (List Nat):=(ld k).filter λd=>d.all L
theorem YF{A:Nat->Bool}{k:Nat}(h:jn false (stay (ldO mk off) L k) A=true):mk k=false/\∃o∈off k,(∀w∈o.ways,L w.1=true)/\∃w∈o.ways,A w.1=true:=by
 obtain⟨d,hd,r,hr,hs⟩:=nC.mp h;obtain⟨hd,ha⟩:=List.mem_filter.mp hd;unfold ldO at hd;cases g:mk k with
 |true=>rw[g,ZY rfl]at hd;cases hd
 |false =>
  rw[g,ZZ (by decide)]at hd;obtain⟨o,om,rfl⟩:=YV.mp hd;obtain⟨w,az,rfl⟩:=YV.mp hr;exact⟨rfl,o,om,λv hv=>List.all_eq_true.mp ha _ (YV.mpr ⟨v,hv,rfl⟩),w,az,hs⟩
theorem WW{A:Nat->Bool}{k:Nat}(g:mk k=false){o:bN}(om:o∈off k)(hl:∀w∈o.ways,L w.1=true){w:Nat×Rat}(hw:w∈o.ways)(h:A w.1=true):jn false (stay (ldO mk off) L k) A=true:=nC.mpr ⟨o.ways.map (·.1),List.mem_filter.mpr ⟨by unfold ldO;rw[g,ZZ (by decide)];exact YV.mpr ⟨o,om,rfl⟩,List.all_eq_true.mpr λr hr=>by
 obtain⟨v,hv,rfl⟩:=YV.mp hr;exact hl v hv⟩,w.1,YV.mpr ⟨w,hw,rfl⟩,h⟩
structure Oo(m:Nat)(mk:Nat->Bool)(ld:Nat->List (List Nat))(L:Nat->Bool):Prop where
 lf:Lfp false m mk (stay ld L) L
 all:∀A:Nat->Bool,(∀B:Nat->Bool,(∀k,k<m->mk k=true->B k=true)->(∀k,k<m->jn false (stay ld A k) B=true->B k=true)->∀k,k<m->A k=true->B k=true)->∀k,k<m->A k=true->L k=true
theorem ahj(B:Best false m mk off x)(pc:PlC m off c)(ho:∀k,k<m->∀o∈off k,WyO m o)(h:fW m mk c S x)(l:Oo m mk (ldO mk off) L){k:Nat}(hk:k<m):x k=1↔L k=true:=by
 have hw:∀k,k<m->∀o,c k=some o->WyO m o:=λk hk o e=>ho k hk o (pc.mem k hk o e);have nn:=h.nn hw;have le1:=h.le1 hw;refine⟨λe=>l.all (λk=>decide (x k=1)) (λC cb cs k hk e=>?_) k hk (Zs e),λe=>?_⟩
 .have e:x k=1:=of_decide_eq_true e;have s:S k=true:=by
   cases s:S k with
   |true=>rfl
   |false=>have:=h.no k hk s;grind
  have:=h.lf.least (λk=>!(decide (x k=1)) || C k) (λk hk g=>by rw[cb k hk g,Bool.or_true]) (λk hk e=>?_) k hk s
  .rw[Zs e]at this;exact this
  .obtain⟨o,ec,w,az,hc⟩:=E_ e;by_cases ek:x k=1
   .rw[Zs ek];show C k=true;cases g:mk k with
    |true=>exact cb k hk g
    |false =>
     have W:=hw k hk o ec;have v:=h.val hw hk g ec;have al:∀w∈o.ways,x w.1=1:=λw az=>Classical.byContradiction λne=>by
      have:=W.lt_ (M:=1) (x:=x) (λv hv=>le1 _ (W.lt v hv)) ⟨w,az,by have:=le1 _ (W.lt w az);grind⟩
      grind
     rw[Zs (al w az)]at hc;exact cs k hk (WW g (pc.mem k hk o ec) (λw az=>Zs (al w az)) az hc)
   .rw[Zp ek];rfl
 .obtain⟨i,hi,li,mn⟩:=Wf x L hk e;have a:=mn k hk e;have b:=le1 k hk;refine Classical.byContradiction λne=>?_;have lt:x i<1:=by grind
  have:=l.lf.least (λk=>!(L k) || decide (x i<x k)) (λk hk g=>by rw[Zs (show x i<x k by rw[h.goal k hk g];exact lt),Bool.or_true]) (λk hk e=>?_) i hi li
  .rw[li]at this;have:x i<x i:=of_decide_eq_true this
   grind
  .obtain⟨g,o,om,al,w,az,ha⟩:=YF e;have W:=ho k hk o om;rw[al w az]at ha;have ha:x i<x w.1:=of_decide_eq_true ha;have:=W.gt (M:=x i) (x:=x) (λv hv=>mn _ (W.lt v hv) (al v hv)) ⟨w,az,ha⟩;have:¬x k<dw o.ways x:=B.ok k hk g o om;rw[Zs (show x i<x k by grind),Bool.or_true]
theorem ahl(pc:PlC m off c)(ho:∀k,k<m->∀o∈off k,WyO m o)(h:fW m mk c S x)(f:Lfp true m mk (ldO mk off) F){k:Nat}(hk:k<m):F k=true->0<x k:=λe=>by
 have hw:∀k,k<m->∀o,c k=some o->WyO m o:=λk hk o e=>ho k hk o (pc.mem k hk o e);have nn:=h.nn hw;refine of_decide_eq_true (f.least (λk=>decide (0<x k)) (λk hk g=>Zs (by rw[h.goal k hk g];decide)) (λk hk e=>Zs ?_) k hk e);obtain⟨g,n0,al⟩:=U3 e;obtain⟨o,ec⟩:=pc.non k hk n0;obtain⟨w,az,hp⟩:=al o (pc.mem k hk o ec);have W:=hw k hk o ec;rw[h.val hw hk g ec];exact W.gt (M:=0) (x:=x) (λv hv=>nn _ (W.lt v hv)) ⟨w,az,of_decide_eq_true hp⟩
theorem agB(B:Best true m mk off x)(pc:PlC m off c)(ho:∀k,k<m->∀o∈off k,WyO m o)(h:fW m mk c S x)(f:Lfp true m mk (ldO mk off) F)(z:∀k,k<m->F k=false->x k=0)(r:Lfp false m (λk=>!(F k)) (ldO mk off) R){k:Nat}(hk:k<m):x k=1↔R k=false:=by
 have hw:∀k,k<m->∀o,c k=some o->WyO m o:=λk hk o e=>ho k hk o (pc.mem k hk o e);have nn:=h.nn hw;have le1:=h.le1 hw;constructor
 .intro e;cases rk:R k with
  |false=>rfl
  |true =>
   have:x k<1:=of_decide_eq_true (r.least (λk=>decide (x k<1)) (λk hk g=>Zs (by rw[z k hk (by simpa using g)];decide)) (λk hk e=>Zs ?_) k hk rk)
   .grind
   .obtain⟨g,o,om,w,az,hp⟩:=SM e;have W:=ho k hk o om;have:=W.lt_ (M:=1) (x:=x) (λv hv=>le1 _ (W.lt v hv)) ⟨w,az,of_decide_eq_true hp⟩;have:¬dw o.ways x<x k:=B.ok k hk g o om
    grind
 .intro e;obtain⟨i,hi,li,mn⟩:=Wf x (λk=>!(R k)) hk (by rw[e];rfl);have li:R i=false:=by simpa using li
  have a:=mn k hk (by rw[e];rfl);have b:=le1 k hk;refine Classical.byContradiction λne=>?_;have lt:x i<1:=by grind
  have fi:F i=true:=by
   cases fi:F i with
   |true=>rfl
   |false =>
    have:=r.base i hi (by rw[fi];rfl);rw[li]at this;cases this
  have:=f.least (λk=>R k || decide (x i<x k)) (λk hk g=>by rw[Zs (show x i<x k by rw[h.goal k hk g];exact lt),Bool.or_true]) (λk hk e=>?_) i hi fi
  .rw[li]at this;have:x i<x i:=of_decide_eq_true this
   grind
  .cases rk:R k with
   |true=>rfl
   |false =>
    obtain⟨g,n0,al⟩:=U3 e;obtain⟨o,ec⟩:=pc.non k hk n0;have om:=pc.mem k hk o ec;have W:=hw k hk o ec;have out:∀w∈o.ways,R w.1=false:=λw az=>by
     cases t:R w.1 with
     |false=>rfl
     |true =>
      have:=r.step k hk (MP g om az t);rw[rk]at this;cases this
    obtain⟨w,az,hp⟩:=al o om;rw[out w az]at hp;have hp:x i<x w.1:=of_decide_eq_true hp;refine Zs ?_;rw[h.val hw hk g ec];exact W.gt (M:=x i) (x:=x) (λv hv=>mn _ (W.lt v hv) (by rw[out v hv];rfl)) ⟨w,az,hp⟩
end
abbrev blT(l:List Bool):L2.T:=.lst (l.map L2.T.bl)
abbrev inT(k:Nat):L2.T:=.int (k:Nat)
abbrev ntT(l:List Nat):L2.T:=.lst (l.map inT)
abbrev nT(ds:List (List Nat)):L2.T:=.lst (ds.map ntT)
def mkF(gs:List Nat)(k:Nat):Bool:=decide (k∈gs)
def mkL(m:Nat)(gs:List Nat):List Bool:=(List.range m).map (mkF gs)
theorem gH(m:Nat)(gs:List Nat):(mkL m gs).length=m:=by unfold mkL;rw[ak,WP]
theorem aeL{m:Nat}{gs:List Nat}{g:Nat} : (mkL m gs).set g true=mkL m (gs++[g]):=by
 unfold mkL mkF;refine UV (by rw[WH,ak,ak]) λk h1 h2=>?_;rw[QR,VY,UH,VY,UH];by_cases e:g=k
 .rw[ZY e,e];exact(Zs (by simp)).symm
 .rw[ZZ e];exact decide_eq_decide.mpr (by simp;intro z;exact absurd z.symm e)
def gG(D:Adr):ST:=λts q=>∃(s:Rat)(ns:Φ)(off:List (List bN))(gs:List Nat),ts=[hlT D s ns off,ntT gs]/\Qs ns off/\(∀g∈gs,g<ns.length)/\q (.l1 ((mkL ns.length gs).map L2.T.bl))
theorem Lw(T:Tx D)(dX:gI 1 D.Hall_size gB (mH D))(eV:gI 2 D.Hall_check_room d8 (ug D))(F:Fu fG vA f fd):FT 3 f fd cZ (gG D):=by
 refine F.okT La λaf A outer s H E hr nd=>?_;refine⟨_,(bH (jg 2 (bO cY (dN (bC mU bF)) (yp (qv 0) T.jN T.pQ dX (KS:=lE))))
  (bH (dY (b_ (qv 1)) (cj (n:=99) 3)
  (bH (oE (Ak (qv 0) T.jN T.qZ eV (bC (qv 3) bF) (KS:=lE)))
  (bJ (lM 2 mU (qv 3)))))
  (bJ (jj 2)))),?_⟩
 rintro _ R ⟨s,ns,off,gs,rfl,h,hg,q⟩;have few:=h.few;refine⟨⟨rfl,rfl⟩,s,ns,off,rfl,⟨by lia,by lia,by show 1*_<=_;exact aL (show _<=1000 by lia) (by decide)⟩,λz hz=>?_⟩;have hz:z=(mkL ns.length []).map L2.T.bl:=by
  rw[hz,show((List.replicate (((ns.length:Nat):Int)).toNat [frz (OT.fz (L2.T.bl false))]).flatten)=List.replicate ns.length (L2.T.bl false)from Zzz];unfold mkL;rw[WU];refine UV (by rw[aN,ak,WP]) λk h1 h2=>?_;rw[List.getElem_replicate,VY]
  rfl
 rw[hz];refine fM inT gs (λas o=>∃x,o=[.fz (hlT D s ns off),.fz (ntT gs),.l1 ((mkL ns.length as).map L2.T.bl),x]) ⟨_,rfl⟩ ?_ ?_
 .rintro as g bs _ e ⟨x,rfl⟩;have lt:g<ns.length:=hg g (by rw[e];simp);refine⟨⟨rfl,rfl⟩,s,ns,off,g,rfl,lt,g,?_,.fz (inT g),?_⟩
  .unfold ixN;rw[ak,gH,ZY (X9 _),ZY (by lia)]
   rfl
  .rw[<- aeL,Th]
   rfl
 .rintro _ ⟨x,rfl⟩;exact q
abbrev mkG(mk:List Bool)(k:Nat):Bool:=mk.getD k false
abbrev jf(off:List (List bN))(k:Nat):List bN:=off.getD k []
def ldL(mk:List Bool)(off:List (List bN)):List (List (List Nat)):=(List.range mk.length).map (ldO (mkG mk) (jf off))
def lW(D:Adr):ST:=λts q=>∃(s:Rat)(ns:Φ)(off:List (List bN))(mk:List Bool),ts=[hlT D s ns off,blT mk]/\Qs ns off/\mk.length=ns.length/\(∀ds∈off,∀o∈ds,o.ways.length<=1000)/\q (.l1 ((ldL mk off).map nT))
theorem UG(T:Tx D)(c7:gI 3 D.Hall_offers eU (uP D))(F:Fu jH qm f fd):FT 4 f fd gw (lW D):=by
 refine F.okT UW λaf A outer s H E hr nd=>?_;refine⟨_,(bH (jg 2 (dN bF))
  (bH (dY (sy T.g8 (bC (qv 1) bF)) (fB (n:=2) (bQ (cj (n:=99) 3) (bQ (cj (n:=99) 4) dG)))
  (bH (bR 5 (Ek (dz (qv 4)) (dN bF) (Ak (qv 0) T.jN T.mR c7 (bC (qv 3) bF) (KS:=lE))))
  (bJ (yD 2 (cH (bI qm) qT qT ["offer"] (b_ (qv 5)) (dh (i:=0)) cg (Pk (bI qm) ("offer"::qT) ("offer"::qT) ["behind","chance"] (b_ (bL (qv 0) bG)) (fB (n:=2) (bQ (dh (i:=0)) (bQ (dh (i:=1)) dG))) cg (qv 0)))))))
  (bJ (jj 2)))),?_⟩
 rintro _ R ⟨s,ns,off,mk,rfl,h,ml,fw,q⟩;have few:=h.few;refine uN L2.T.bl mk (λk o=>∃x y z,o=[.fz (hlT D s ns off),.fz (blT mk),.l1 ((List.range k).map λj=>nT (ldO (mkG mk) (jf off) j)),x,y,z]) ⟨.und,.und,.und,rfl⟩ ?_ ?_
 .rintro k b _ e ⟨x,y,z,rfl⟩;have km:k<mk.length:=(ao.mp e).1;have lk:k<off.length:=by have:=h.len;lia
  have ek:=aj lk;have eg:mkG mk k=b:=by show mk.getD k false=b;rw[au,e];rfl
  have eo:jf off k=off[k]:=by show off.getD k []=_;rw[au,ek];rfl
  have fd:=h.fews _ (aU lk);have lm:((List.range k).map λj=>nT (ldO (mkG mk) (jf off) j)).length<sizeLine:=by rw[ak,WP];exact aR (show _<1001 by lia) (by decide)
  refine⟨rfl,?_⟩;dsimp only[aeX,hName,ahW];refine sq1 (λo=>o=[.fz (hlT D s ns off),.fz (blT mk),.l1 ((List.range k).map λj=>nT (ldO (mkG mk) (jf off) j)),.fz (inT k),.fz (.bl b),.fz (.lst ((if b then[]else off[k]).map ofT))]) ?_ λY hY=>?_
  .rintro _ rfl;have om:∀o∈(if b then[]else off[k]),o∈off[k]:=λo ho=>by
    cases b with
    |true=>cases ho
    |false=>exact ho
   refine⟨by rw[ak];refine aL (show _<=1000 from ?_) (by decide);cases b;exact fd;exact aZ _,comp_map ofT (λo=>ntT (o.ways.map (·.1))) _ (λo ho N M hN=>?_) ⟨lm,.fz (inT k),.fz (.bl b),.fz (.lst ((if b then[]else off[k]).map ofT)),?_⟩⟩
   .refine⟨by rw[ak];exact aL (fw _ (aU lk) o (om o ho)) (by decide),comp_map nwT (λw=>inT w.1) o.ways (λw hw N M hN=>⟨rfl,hN⟩) ?_⟩;rw[show ntT (o.ways.map (·.1))=.lst (o.ways.map λw=>inT w.1)by unfold ntT;rw[WU];rfl]at hN;exact hN
   .rw[List.range_succ,bf];show _=[_,_,OT.l1 (_++[nT (ldO (mkG mk) (jf off) k)]),_,_,_];unfold ldO;rw[eg,eo];cases b with
    |true=>rfl
    |false =>
     show _=[_,_,OT.l1 (_++[L2.T.lst ((off[k].map λo=>o.ways.map (·.1)).map ntT)]),_,_,_];rw[WU]
     rfl
  .cases b with
   |true=>exact hY _ rfl
   |false=>exact⟨⟨rfl,rfl⟩,s,ns,off,k,_,rfl,h,ek,hY _ rfl⟩
 .rintro _ ⟨x,y,z,rfl⟩;unfold ldL at q;rw[WU]at q;exact q
def cT(st:List (Option Nat))(k:Nat):Bool:=(st.getD k none).isSome
def Er:ST:=λts q=>∃(d:List Nat)(st:List (Option Nat)),ts=[ntT d,.lst (st.map dT)]/\d.length<=1000/\(∀r∈d,r<st.length)/\q (.fz (.bl (mtS (cT st) d)))
theorem abh(T:Tx D)(F:Fu zO Ia f fd):FT 1 f fd qH Er:=by
 refine F.okT aaU λaf A outer s H E hr nd=>?_;refine⟨_,(bJ (bT (bZ (ab2 rfl) T.ae2 boot_any (bC (cH (bI Ia) Qj Qj ["room"] (b_ (qv 0)) (dh (i:=0)) cg (jE Df (bL (qv 2) (qv 0)) dU)) bF)))),?_⟩;rintro _ R ⟨d,st,rfl,few,hd,q⟩;refine⟨by rw[ak];exact aL few (by decide),comp_map inT (λr=>.bl (cT st r)) d (λr hr N M hN=>?_) ⟨d.map (cT st),by rw[WU];rfl,?_⟩⟩
 .have lr:=hd r hr;have er:=aj lr;refine⟨_,cW er,?_⟩;have hN:N (.bl ((st.getD r none).isSome)):=hN;rw[au,er]at hN;cases e:st[r]with
  |none=>rw[e]at hN;exact hN
  |some n=>rw[e]at hN;exact hN
 .show R (.fz (.bl ((d.map (cT st)).any λb=>b)));rw[List.any_map];exact q
def nmJ:Bool->Str
 |false=>jG
 |true=>lU
def gP(e:Bool):ST:=λts q=>∃(ds:List (List Nat))(st:List (Option Nat)),ts=[nT ds,.lst (st.map dT)]/\ds.length<=1000/\(∀d∈ds,d.length<=1000/\∀r∈d,r<st.length)/\q (.fz (.bl (jn e ds (cT st))))
theorem Wi(T:Tx D)(pZ:gT 1 zO qH Er)(F:Fu jG Al f fd):FT 2 f fd iy (gP false):=by
 refine F.okT W0 λaf A outer s H E hr nd=>?_;refine⟨_,(bJ (bT (bZ (ab2 rfl) T.ae2 boot_any (bC (cH (bI Al) Ga Ga ["door"] (b_ (qv 0)) (dh (i:=0)) cg (bK pZ (bC (qv 0) (bC (qv 2) bF)))) bF)))),?_⟩;rintro _ R ⟨ds,st,rfl,few,hd,q⟩;refine⟨by rw[ak];exact aL few (by decide),comp_map ntT (λd=>.bl (mtS (cT st) d)) ds (λd hm N M hN=>⟨d,st,rfl,(hd d hm).1,(hd d hm).2,hN⟩) ⟨ds.map (mtS (cT st)),by rw[WU];rfl,?_⟩⟩;show R (.fz (.bl ((ds.map (mtS (cT st))).any λb=>b)));rw[List.any_map];exact q
theorem Ws(T:Tx D)(pZ:gT 1 zO qH Er)(F:Fu lU z8 f fd):FT 2 f fd jw (gP true):=by
 refine F.okT V5 λaf A outer s H E hr nd=>?_;refine⟨_,(bJ (bT (Ka (jE xW (bZ eN T.gD WG (bC (qv 0) bF)) bG) (KJ (bZ (Qf rfl) T.Xr boot_all (bC (cH (bI z8) Fw Fw ["door"] (b_ (qv 0)) (dh (i:=0)) cg (bK pZ (bC (qv 0) (bC (qv 2) bF)))) bF)))))),?_⟩;rintro _ R ⟨ds,st,rfl,few,hd,q⟩;have q:R (.fz (.bl (decide (0<ds.length)&&ds.all (mtS (cT st))))):=q;by_cases c:0<ds.length
 .rw[Zs c]at q;refine swT (Zs (by rw[ak];lia)) ⟨by rw[ak];exact aL few (by decide),comp_map ntT (λd=>.bl (mtS (cT st) d)) ds (λd hm N M hN=>⟨d,st,rfl,(hd d hm).1,(hd d hm).2,hN⟩) ⟨ds.map (mtS (cT st)),by rw[WU];rfl,?_⟩⟩;show R (.fz (.bl ((ds.map (mtS (cT st))).all λb=>b)));rw[List.all_map];exact q
 .rw[Zp c]at q;exact swF (Zp (by rw[ak];lia)) q
abbrev ldG(ld:List (List (List Nat)))(k:Nat):List (List Nat):=ld.getD k []
structure Steps(e:Bool)(mk:List Bool)(ld:List (List (List Nat)))(st:List (Option Nat)):Prop where
 len:st.length=mk.length
 zero:∀k,k<mk.length->(st.getD k none=some 0↔mkG mk k=true)
 lf:Lfp e mk.length (mkG mk) (ldG ld) (cT st)
structure LdB(m:Nat)(ld:List (List (List Nat))):Prop where
 len:ld.length=m
 few:∀ds∈ld,ds.length<=1000
 ok:∀ds∈ld,∀d∈ds,d.length<=1000/\∀r∈d,r<m
def ju(mg:Str->Ω):ST:=λts q=>∃(e:Bool)(v:Addr)(mk:List Bool)(ld:List (List (List Nat))),ts=[blT mk,.lst (ld.map nT),.val (.ref v)]/\mg (nmJ e)=some (.ref v)/\mk.length<=100/\LdB mk.length ld/\∀st:List (Option Nat),Steps e mk ld st->q (.l1 (st.map dT))
def cnt(S:Nat->Bool):Nat->Nat
 |0=>0
 |n+1=>cnt S n+if S n then 0 else 1
theorem W9{S S':Nat->Bool} : ∀{n:Nat},(∀k,k<n->S k=true->S' k=true)->cnt S' n<=cnt S n
 |0,_=>aG _
 |n+1,h=>by
  have a:=W9 (n:=n) λk hk=>h k (WV _ hk);have b:=h n (X0 _);show cnt S' n+(if S' n then 0 else 1)<=cnt S n+if S n then 0 else 1;cases e:S n with
  |true=>rw[b e];exact a
  |false=>refine Nat.add_le_add a ?_;split<;>simp
theorem V_{S S':Nat->Bool}{k:Nat}(s:S k=false)(s':S' k=true):∀{n:Nat},k<n->(∀k,k<n->S k=true->S' k=true)->cnt S' n<cnt S n
 |0,hk,_=>absurd hk (WZ _)
 |n+1,hk,h=>by
  show cnt S' n+(if S' n then 0 else 1)<cnt S n+if S n then 0 else 1;by_cases c:k=n
  .subst c;have a:=W9 (n:=k) λj hj=>h j (Tu hj hk);rw[s,s'];show cnt S' k+0<cnt S k+1;lia
  .have a:=V_ s s' (n:=n) (XX (VW hk) c) λj hj=>h j (WV _ hj);have b:=h n (X0 _);cases e:S n with
   |true=>rw[b e];exact a
   |false=>exact aR (Nat.add_lt_add_right a _) (Nat.add_le_add_left (by split<;>simp) _)
def stU(st:List (Option Nat))(cm:List Nat)(n:Nat):List (Option Nat):=st.zipIdx.map λp=>if p.2∈cm then some n else p.1
theorem pO{st:List (Option Nat)}{cm:List Nat}{n:Nat} : (stU st cm n).length=st.length:=by unfold stU;rw[ak,UK]
theorem Ra{st:List (Option Nat)}{cm:List Nat}{n k:Nat}(hk:k<st.length):(stU st cm n).getD k none=if k∈cm then some n else st.getD k none:=by
 unfold stU;rw[au,aq,aj (show k<st.zipIdx.length by rw[UK];exact hk),JJ,au,aj hk];show(if 0+k∈cm then some n else st[k])=_;rw[UP]
 rfl
theorem Xd{st:List (Option Nat)}{n:Nat} : stU st [] n=st:=by
 refine UV (by rw[pO]) λk h1 h2=>?_;have:=Ra (cm:=[]) (n:=n) h2;rw[au,aj h1,au,aj h2,ZZ (by simp)]at this;exact this
theorem abZ{st:List (Option Nat)}{cm:List Nat}{n r:Nat} : (stU st cm n).set r (some n)=stU st (cm++[r]) n:=by
 refine UV (by rw[WH,pO,pO]) λk h1 h2=>?_;have hk:k<st.length:=by rw[pO]at h2;exact h2
 have a:=Ra (cm:=cm) (n:=n) hk;have b:=Ra (cm:=cm++[r]) (n:=n) hk;rw[au,aj (by rw[pO];exact hk)]at a b;rw[QR];have a:(stU st cm n)[k]'(by rw[pO];exact hk)=_:=a;have b:(stU st (cm++[r]) n)[k]'(by rw[pO];exact hk)=_:=b;rw[a,b];by_cases e:r=k
 .rw[ZY e,ZY (by simp[e])]
 .rw[ZZ e];by_cases c:k∈cm
  .rw[ZY c,ZY (UQ _ c)]
  .rw[ZZ c,ZZ (by simp[c];exact λz=>e z.symm)]
structure SI(e:Bool)(mk:List Bool)(ld:List (List (List Nat)))(st:List (Option Nat))(cm:List Nat):Prop where
 len:st.length=mk.length
 zero:∀k,k<mk.length->(st.getD k none=some 0↔mkG mk k=true)
 low:∀A:Nat->Bool,(∀k,k<mk.length->mkG mk k=true->A k=true)->(∀k,k<mk.length->jn e (ldG ld k) A=true->A k=true)->∀k,k<mk.length->cT st k=true->A k=true
 fin:cm=[]->∀k,k<mk.length->jn e (ldG ld k) (cT st)=true->cT st k=true
theorem Ye{e:Bool}{ds:List (List Nat)}{S A:Nat->Bool}(h:∀d∈ds,∀r∈d,S r=true->A r=true)(hj:jn e ds S=true):jn e ds A=true:=by
 cases e with
 |false =>
  obtain⟨d,hd,r,hr,hs⟩:=nC.mp hj;exact nC.mpr ⟨d,hd,r,hr,h d hd r hr hs⟩
 |true =>
  obtain⟨a,b⟩:=Iw.mp hj;exact Iw.mpr ⟨a,λd hd=>let⟨r,hr,hs⟩:=b d hd;⟨r,hr,h d hd r hr hs⟩⟩
theorem al7{e:Bool}{ds:List (List Nat)} : jn e ds (λ_=>false)=false:=by
 cases h:jn e ds (λ_=>false)with
 |false=>rfl
 |true =>
  cases e with
  |false=>obtain⟨d,hd,r,hr,hs⟩:=nC.mp h;cases hs
  |true =>
   obtain⟨a,b⟩:=Iw.mp h;cases ds with
   |nil=>cases a
   |cons d ds=>obtain⟨r,hr,hs⟩:=b d (aO ..);cases hs
theorem aao{m:Nat}{ld:List (List (List Nat))}(h:LdB m ld){k:Nat}{d:List Nat}(hd:d∈ldG ld k):d.length<=1000/\∀r∈d,r<m:=by
 have hd:d∈ld.getD k []:=hd;rw[au]at hd;cases e:ld[k]? with
 |none=>rw[e]at hd;cases hd
 |some ds=>rw[e]at hd;exact h.ok ds (aC e) d hd
def cmP(e:Bool)(ld:List (List (List Nat)))(st:List (Option Nat)):List Nat:=(ld.zipIdx.filter λp=>(st.getD p.2 none).isNone&&jn e p.1 (cT st)).map (·.2)
theorem D_{e:Bool}{m:Nat}{ld:List (List (List Nat))}{st:List (Option Nat)}(hl:LdB m ld){k:Nat} : k∈cmP e ld st↔k<m/\cT st k=false/\jn e (ldG ld k) (cT st)=true:=by
 unfold cmP;constructor
 .intro h;obtain⟨p,hp,rfl⟩:=YV.mp h;obtain⟨hp,hb⟩:=List.mem_filter.mp hp;obtain⟨h1,h2,h3⟩:=List.mem_zipIdx hp;rw[UP]at h2;have h3':p.1=ld[p.2]'h2:=by rw[h3];congr 1
  obtain⟨a,b⟩:=Bool.and_eq_true_iff.mp hb;refine⟨by rw[<- hl.len];exact h2,?_,?_⟩
  .unfold cT;cases z:st.getD p.2 none with
   |none=>rfl
   |some n=>rw[z]at a;cases a
  .show jn e (ld.getD p.2 []) _=_;rw[au,aj h2,<- h3'];exact b
 .rintro⟨hk,a,b⟩;have hk:k<ld.length:=by rw[hl.len];exact hk
  refine YV.mpr ⟨(ld[k],k),List.mem_filter.mpr ⟨?_,?_⟩,rfl⟩
  .have:=aU (l:=ld.zipIdx) (n:=k) (by rw[UK];exact hk);rw[JJ,UP]at this;exact this
  .have b:jn e (ld.getD k []) (cT st)=true:=b;rw[au,aj hk]at b;unfold cT at a;refine Bool.and_eq_true_iff.mpr ⟨?_,b⟩;cases z:st.getD k none with
   |none=>rfl
   |some n=>rw[z]at a;cases a
theorem SI.next{e:Bool}{mk:List Bool}{ld:List (List (List Nat))}{st:List (Option Nat)}{cm:List Nat}{n:Nat}(h:SI e mk ld st cm)(hl:LdB mk.length ld):SI e mk ld (stU st (cmP e ld st) (n+1)) (cmP e ld st)/\(cmP e ld st≠[]->cnt (cT (stU st (cmP e ld st) (n+1))) mk.length<cnt (cT st) mk.length)/\cnt (cT (stU st (cmP e ld st) (n+1))) mk.length<=cnt (cT st) mk.length:=by
 have at_:∀k,k<mk.length->(stU st (cmP e ld st) (n+1)).getD k none=if k∈cmP e ld st then some (n+1)else st.getD k none:=λk hk=>Ra (by rw[h.len];exact hk);have kB:∀k,k<mk.length->cT (stU st (cmP e ld st) (n+1)) k=(decide (k∈cmP e ld st) || cT st k):=λk hk=>by
  unfold cT;rw[at_ k hk];by_cases c:k∈cmP e ld st
  .rw[ZY c,Zs c];rfl
  .rw[ZZ c,Zp c];rfl
 have up:∀k,k<mk.length->cT st k=true->cT (stU st (cmP e ld st) (n+1)) k=true:=λk hk s=>by rw[kB k hk,s,Bool.or_true]
 refine⟨⟨by rw[pO,h.len],λk hk=>?_,λA a b k hk s=>?_,λz k hk hj=>?_⟩,λne=>?_,W9 up⟩
 .rw[at_ k hk];by_cases c:k∈cmP e ld st
  .rw[ZY c];obtain⟨_,s,_⟩:=(D_ hl).mp c;refine⟨λz=>(nomatch z),λg=>?_⟩;have:=(h.zero k hk).mpr g;unfold cT at s;rw[this]at s;cases s
  .rw[ZZ c];exact h.zero k hk
 .rw[kB k hk]at s;rcases Bool.or_eq_true_iff.mp s with s|s
  .obtain⟨_,_,j⟩:=(D_ hl).mp (of_decide_eq_true s);exact b k hk (Ye (λd hd r hr sr=>h.low A a b r ((aao hl hd).2 r hr) sr) j)
  .exact h.low A a b k hk s
 .rw[z,Xd]at hj ⊢;cases s:cT st k with
  |true=>rfl
  |false =>
   have:=(D_ (e:=e) (st:=st) hl).mpr ⟨hk,s,hj⟩;rw[z]at this;cases this
 .obtain⟨k,hk⟩ : ∃k,k∈cmP e ld st:=by
   cases c:cmP e ld st with
   |nil=>exact absurd c ne
   |cons k l=>exact⟨k,aO ..⟩
  obtain⟨km,s,_⟩:=(D_ hl).mp hk;exact V_ s (by rw[kB k km,Zs hk];rfl) km up
theorem Um(T:Tx D)(d_:gT 2 jG iy (gP false))(fZ:gT 2 lU jw (gP true))(F:Fu gZ nH f fd):FT 3 f fd fH (ju mg):=by
 refine F.okT xX λaf A outer s H E hr nd=>?_;have GV:∀b,∃ps,gT 2 (nmJ b) ps (gP b):=λb=>by
  cases b
  .exact⟨_,d_⟩
  .exact⟨_,fZ⟩
 refine⟨_,(bH (jg 3 (cH (bI nH) qI qI ["mark"] (b_ (qv 0)) (dh (i:=0)) cg (Ek (dz (qv 0)) bG dU)))
  (bH (mZ (bI nH) qI ["marks","leads","joins","steps","coming","many","?room"] ["room","mark"] (sy T.g8 (bC (qv 0) bF)) (fB (n:=2) (bQ (dh (i:=0)) (bQ (dh (i:=1)) dG))) (Ed (dz (qv 1))) (qv 0) (jh (i:=4) xX.nd rfl (Or.inl rfl)))
  (bH (bR 5 bG)
  (bH (zL (bW xW (bZ eN T.gD WG (bC (qv 4) bF)) bG)
  (bH (aa3 5 aaR bG)
  (bH (mZ (bI nH) qI ["marks","leads","joins","steps","coming","many","?room"] ["room","doors"] (sy T.g8 (bC (qv 1) bF)) (fB (n:=2) (bQ (dh (i:=0)) (bQ (dh (i:=1)) dG))) (Ed (QW.qt (Qe (bW nW (zY 5 (qv 0)) dU) (Ig (Pz 5 (dz (Ri 5 (Ue (mg:=mg) (k:=2) (nm:=nmJ) (S:=gP) 4 GV hr.md (bC (qv 1) (bC (qv 5) bF)))))))))) (qv 0) (jh (i:=4) xX.nd rfl (Or.inl rfl)))
  (bJ (dY (b_ (qv 4)) (cj (n:=99) 6)
  (bJ (lM 3 (qv 5) (qv 6))))))))
  (bJ (jj 3)))))),?_⟩
 rintro _ R ⟨e,v,mk,ld,rfl,hv,m1,hl,q⟩;have few:∀{α:Type}{l:List α},l.length<=mk.length->l.length<=sizeLine:=λ{α l}h=>aL h (aL m1 (by decide));have c0:∀k,k<mk.length->(mk.map λb=>if b then some 0 else none).getD k none=if mkG mk k then some 0 else none:=λk hk=>by
  show _=if mk.getD k false then some 0 else none;rw[au,aq,au,aj hk]
  rfl
 have s0:∀k,k<mk.length->cT (mk.map λb=>if b then some 0 else none) k=mkG mk k:=λk hk=>by
  unfold cT;rw[c0 k hk];cases mkG mk k<;>rfl
 have i0:SI e mk ld (mk.map λb=>if b then some 0 else none) ((mk.zipIdx.filter (·.1)).map (·.2)):=by
  refine⟨ak ..,λk hk=>?_,λA a b k hk s=>a k hk (by rw[<- s0 k hk];exact s),λz k hk hj=>?_⟩
  .rw[c0 k hk];cases mkG mk k with
   |true=>exact⟨λ_=>rfl,λ_=>rfl⟩
   |false=>exact⟨λz=>(nomatch z),λz=>(nomatch z)⟩
  .have no:∀r,r<mk.length->mkG mk r=false:=λr hr=>by
    cases g:mkG mk r with
    |false=>rfl
    |true =>
     have g:mk.getD r false=true:=g;rw[au,aj hr]at g;have:r∈(mk.zipIdx.filter (·.1)).map (·.2):=YV.mpr ⟨(mk[r],r),List.mem_filter.mpr ⟨by
      have:=aU (l:=mk.zipIdx) (n:=r) (by rw[UK];exact hr);rw[JJ,UP]at this;exact this,g⟩,rfl⟩
     rw[z]at this;cases this
   have:=Ye (A:=λ_=>false) (λd hd r hr sr=>by
    have lr:=(aao hl hd).2 r hr;rw[s0 r lr,no r lr]at sr;cases sr) hj
   rw[al7]at this;cases this
 refine⟨few (by rw[ak];exact aG _),comp_map L2.T.bl (λb=>dT (if b then some 0 else none)) mk (λb _ N M hN=>by cases b<;>exact hN) ?_⟩;rw[show(mk.map λb=>dT (if b then some 0 else none))=(mk.map λb=>if b then some 0 else none).map dT by rw[WU];rfl];show(sI (mk.map L2.T.bl)).length<=sizeLine/\iR _ _ _ _ (sI (mk.map L2.T.bl)) _;rw[Kl];refine⟨few (by rw[ak,UK];exact aG _),jt (λp:Bool×Nat=>.tup [.int (p.2:Nat),.bl p.1]) (·.1) (λp=>inT p.2) mk.zipIdx (λp _ N M h1 h2=>⟨rfl,sw2 h1 h2⟩) ?_⟩;generalize mk.map (λb=>if b then some 0 else none)=st0 at i0 ⊢;rw[show((mk.zipIdx.filter (·.1)).map λp=>inT p.2)=((mk.zipIdx.filter (·.1)).map (·.2)).map inT by rw[WU];rfl];generalize(mk.zipIdx.filter (·.1)).map (·.2)=cm0 at i0 ⊢;refine⟨λn o=>∃(st:List (Option Nat))(cm:List Nat)(dL:Nat)(x:OT),o=[.fz (blT mk),.fz (.lst (ld.map nT)),.fz (.val (.ref v)),.l1 (st.map dT),.fz (ntT cm),.fz (inT dL),x]/\SI e mk ld st cm/\n=cnt (cT st) mk.length+if cm=[]then 0 else 1,⟨_,st0,cm0,0,.und,rfl,i0,rfl⟩,?_⟩;rintro n _ ⟨st,cm,dL,x,rfl,hi,rfl⟩;refine swD (λhc=>?_) λhc=>?_
 .have ne:cm≠[]:=λz=>by rw[z]at hc;exact absurd hc (by decide)
  obtain⟨i1,i2,i3⟩:=hi.next (n:=dL) hl;refine⟨λo=>∃x,o=[.fz (blT mk),.fz (.lst (ld.map nT)),.fz (.val (.ref v)),.l1 ((stU st (cmP e ld st) (dL+1)).map dT),.fz (ntT (cmP e ld st)),.fz (inT (dL+1)),x],?_,?_⟩
  .rintro _ ⟨x,rfl⟩;refine⟨_,?_,_,_,_,x,rfl,i1,rfl⟩;rw[ZZ ne];by_cases c:cmP e ld st=[]
   .rw[ZY c];lia
   .rw[ZZ c];have:=i2 c;exact Nat.succ_lt_succ this
  .show(sI (ld.map nT)).length<=sizeLine/\iR _ _ _ _ (sI (ld.map nT)) _;rw[Kl];refine⟨few (by rw[ak,UK,hl.len];exact aG _),jt (λp:List (List Nat)×Nat=>.tup [.int (p.2:Nat),nT p.1]) (λp=>(st.getD p.2 none).isNone&&jn e p.1 (cT st)) (λp=>inT p.2) ld.zipIdx (λp hp N M h1 h2=>⟨rfl,?_⟩) ?_⟩
   .obtain⟨_,lp,ep⟩:=List.mem_zipIdx hp;rw[UP]at lp;have ls:p.2<st.length:=by rw[hi.len,<- hl.len];exact lp
    have es:=aj ls;have pm:p.1∈ld:=by rw[ep];exact aU _
    refine⟨_,cW es,?_⟩;rw[au,es]at h1 h2;cases z:st[p.2]with
    |some k=>rw[z]at h2;exact h2 rfl
    |none =>
     rw[z]at h1 h2;refine⟨e,hv,p.1,st,rfl,hl.few _ pm,λd hd=>⟨(hl.ok _ pm d hd).1,λr hr=>by rw[hi.len];exact(hl.ok _ pm d hd).2 r hr⟩,?_⟩;exact⟨trivial,sw2 (λz=>h1 (by rw[z];rfl)) λz=>h2 (by rw[z];rfl)⟩
   .rw[show((ld.zipIdx.filter λp=>(st.getD p.2 none).isNone&&jn e p.1 (cT st)).map λp=>inT p.2)=(cmP e ld st).map inT by unfold cmP;rw[WU];rfl];refine fM inT (cmP e ld st) (λas o=>∃x,o=[.fz (blT mk),.fz (.lst (ld.map nT)),.fz (.val (.ref v)),.l1 ((stU st as (dL+1)).map dT),.fz (ntT (cmP e ld st)),.fz (inT (dL+1)),x]) ⟨x,by rw[Xd];rfl⟩ ?_ ?_
    .rintro as r bs _ ea ⟨x,rfl⟩;obtain⟨rm,_,_⟩:=(D_ hl).mp (show r∈cmP e ld st by rw[ea];simp);refine⟨r,?_,.fz (inT r),?_⟩
     .unfold ixN;rw[ak,pO,hi.len,ZY (X9 _),ZY (by lia)]
      rfl
     .rw[<- abZ,Th]
      rfl
    .rintro _ ⟨x,rfl⟩;exact⟨x,rfl⟩
 .have ce:cm=[]:=by
   cases cm with
   |nil=>rfl
   |cons a l=>exact absurd (show(0:Int)<((((a::l).map inT).length:Nat):Int)by rw[ak,List.length_cons];lia) hc
  refine q st ⟨hi.len,hi.zero,⟨λk hk g=>?_,hi.fin ce,hi.low⟩⟩;have:=(hi.zero k hk).mpr g;unfold cT;rw[this]
  rfl
theorem GX{α:Type}{g:α->PyData}(h:∀x,PyData.canLay0 (g x)=true):∀xs:List α,PyData.canLayAll0 (xs.map g)=true
 |[]=>rfl
 |x::xs=>by rw[List.map_cons];unfold PyData.canLayAll0;rw[GX h xs,h x];rfl
theorem JB{α:Type}{g:α->PyData}{n:Nat}(h:∀x,PyData.depth (g x)<=n):∀xs:List α,PyData.depthAll (xs.map g)<=n
 |[]=>aZ _
 |x::xs=>by
  rw[List.map_cons];unfold PyData.depthAll;have:=JB h xs;have:=h x;lia
theorem yM{α:Type}{g:α->PyData}{h:α->T}(e:∀x,h x=ofD (g x)):∀xs:List α,xs.map h=YD (xs.map g)
 |[]=>rfl
 |x::xs=>by rw[List.map_cons,List.map_cons,yM e xs,e x];rfl
theorem T7{α:Type}[DecidableEq α]{g:α->PyData}(h:∀x y,PyData.eqv (g x) (g y)=decide (x=y)):∀xs ys:List α,PyData.eqvAll (xs.map g) (ys.map g)=decide (xs=ys)
 |[],[]=>rfl
 |[],_::_=>rfl
 |_::_,[]=>rfl
 |x::xs,y::ys=>by
  rw[List.map_cons,List.map_cons];unfold PyData.eqvAll;rw[h,T7 h xs ys,<- Bool.decide_and];exact decide_eq_decide.mpr ⟨λz=>by rw[z.1,z.2],λz=>List.cons.inj z⟩
structure EqD{α:Type}[DecidableEq α](h:α->T)(g:α->PyData):Prop where
 of:∀x,h x=ofD (g x)
 lay:∀x,PyData.canLay0 (g x)=true
 dep:∀x,PyData.depth (g x)<=60
 eqv:∀x y,PyData.eqv (g x) (g y)=decide (x=y)
theorem EqD.lst{α:Type}[DecidableEq α]{h:α->T}{g:α->PyData}(E:EqD h g)(xs:List α):SeqAt.shaped (.list (xs.map g))=true:=by
 have h1:PyData.canLay0 (.list (xs.map g))=true:=by unfold PyData.canLay0;exact GX E.lay xs
 have h2:PyData.depth (.list (xs.map g))<=64:=by unfold PyData.depth;have:=JB E.dep xs;lia
 unfold SeqAt.shaped;rw[h1,Zs h2];rfl
theorem EqD.gEq{α:Type}[DecidableEq α]{h:α->T}{g:α->PyData}(E:EqD h g){neg:Bool}{a c:List α}{q:OT->Prop}(hq:q (.fz (.bl (xr neg (decide (a=c)))))):gEq neg (.lst (a.map h)) (.lst (c.map h)) q:=by
 refine⟨.list (a.map g),.list (c.map g),ZH L2.T.lst (yM E.of a),ZH L2.T.lst (yM E.of c),E.lst a,E.lst c,?_⟩;unfold PyData.eqv;rw[T7 E.eqv];exact hq
def dD:Option Nat->PyData
 |none=>.none
 |some d=>.int (d:Nat)
theorem R8:EqD dT dD:=⟨λx=>by cases x<;>rfl,λx=>by cases x<;>rfl,λx=>by cases x<;>exact aZ _,λx y=>by
 cases x<;>cases y
 .rfl
 .rfl
 .rfl
 .rename_i a b
  show decide ((a:Int)=(b:Int))=_;exact decide_eq_decide.mpr ⟨λz=>by rw[Int.ofNat.inj z],λz=>by rw[Option.some.inj z]⟩⟩
theorem Py{i:Nat}{o:List OT}{t:L2.T}{q:OT->Prop}(e:slot o i=.fz t)(h:q (.fz t)):Wx i o q:=by unfold Wx;rw[e];exact h
theorem afX{mk:List Bool}{off:List (List bN)}{m:Nat}(hm:mk.length=m)(hl:off.length=m)(fd:∀ds∈off,ds.length<=1000)(fw:∀ds∈off,∀o∈ds,o.ways.length<=1000)(hw:∀ds∈off,∀o∈ds,WyO m o):LdB mk.length (ldL mk off):=by
 have go:∀k,k<mk.length->(ldO (mkG mk) (jf off) k).length<=1000/\∀d∈ldO (mkG mk) (jf off) k,d.length<=1000/\∀r∈d,r<m:=λk hk=>by
  have lk:k<off.length:=by lia
  have eo:jf off k=off[k]:=by show off.getD k []=_;rw[au,aj lk];rfl
  unfold ldO;rw[eo];cases mkG mk k with
  |true=>exact⟨aZ _,λ_ z=>(nomatch z)⟩
  |false =>
   refine⟨by rw[ZZ (by decide),ak];exact fd _ (aU lk),λd hd=>?_⟩;obtain⟨o,om,rfl⟩:=YV.mp hd;refine⟨by rw[ak];exact fw _ (aU lk) o om,λr hr=>?_⟩;obtain⟨w,az,rfl⟩:=YV.mp hr;exact(hw _ (aU lk) o om).lt w az
 refine⟨by unfold ldL;rw[ak,WP],λds dt=>?_,λds dt=>?_⟩
 .obtain⟨k,hk,rfl⟩:=YV.mp dt;exact(go k (List.mem_range.mp hk)).1
 .obtain⟨k,hk,rfl⟩:=YV.mp dt;rw[hm];exact(go k (List.mem_range.mp hk)).2
theorem Jl{mk:List Bool}{off:List (List bN)}{k:Nat}(hk:k<mk.length):ldG (ldL mk off) k=ldO (mkG mk) (jf off) k:=by
 show(ldL mk off).getD k []=_;unfold ldL;rw[au,aq,VZ hk]
 rfl
theorem Lfp.ld{e:Bool}{m:Nat}{mk:Nat->Bool}{ld ld':Nat->List (List Nat)}{S:Nat->Bool}(h:Lfp e m mk ld S)(el:∀k,k<m->ld k=ld' k):Lfp e m mk ld' S:=⟨h.base,λk hk j=>h.step k hk (by rw[el k hk];exact j),λA a b=>h.least A a λk hk j=>b k hk (by rw[<- el k hk];exact j)⟩
theorem Lfp.marks{e:Bool}{m:Nat}{mk mk':Nat->Bool}{ld:Nat->List (List Nat)}{S:Nat->Bool}(h:Lfp e m mk ld S)(el:∀k,k<m->mk k=mk' k):Lfp e m mk' ld S:=⟨λk hk g=>h.base k hk (by rw[el k hk];exact g),h.step,λA a b=>h.least A (λk hk g=>a k hk (by rw[<- el k hk];exact g)) b⟩
structure HlW(ns:Φ)(off:List (List bN)):Prop where
 h:Qs ns off
 few:ns.length<=100
 fw:∀ds∈off,∀o∈ds,o.ways.length<=1000
 wy:∀ds∈off,∀o∈ds,WyO ns.length o
abbrev abx(ns:Φ)(gs:List Nat):Prop:=∀g∈gs,g<ns.length
theorem Gf{m:Nat}{gs:List Nat}{k:Nat}(hk:k<m):mkG (mkL m gs) k=mkF gs k:=by
 show(mkL m gs).getD k false=_;unfold mkL;rw[au,aq,VZ hk]
 rfl
theorem HlW.ld{ns:Φ}{off:List (List bN)}(h:HlW ns off)(gs:List Nat):LdB (mkL ns.length gs).length (ldL (mkL ns.length gs) off):=afX (gH _ _) h.h.len h.h.fews h.fw h.wy
theorem FJ{mk mk':Nat->Bool}{off:Nat->List bN}{k:Nat}(h:mk k=mk' k):ldO mk off k=ldO mk' off k:=by unfold ldO;rw[h]
theorem Steps.hall{e:Bool}{m:Nat}{gs:List Nat}{off:List (List bN)}{st:List (Option Nat)}(h:Steps e (mkL m gs) (ldL (mkL m gs) off) st):Lfp e m (mkF gs) (ldO (mkF gs) (jf off)) (cT st):=by
 have:=h.lf;rw[gH]at this;exact(this.ld λk hk=>(Jl (by rw[gH];exact hk)).trans (FJ (Gf hk))).marks λk hk=>Gf hk
def z6(D:Adr)(e:Bool):ST:=λts q=>∃(s:Rat)(ns:Φ)(off:List (List bN))(gs:List Nat),ts=[hlT D s ns off,ntT gs]/\HlW ns off/\abx ns gs/\∀st:List (Option Nat),st.length=ns.length->Lfp e ns.length (mkF gs) (ldO (mkF gs) (jf off)) (cT st)->q (.l1 (st.map dT))
theorem Hz(T:Tx D)(cC:gT 3 fG cZ (gG D))(dJ:gT 4 jH gw (lW D))(cN:gT 3 gZ fH (ju mg))(d_:gT 2 jG iy (gP false))(F:Fu o9 qM f fd):FT 5 f fd iM (z6 D false):=by
 refine F.okT Hh λaf A outer s H E hr nd=>?_;obtain⟨vs,ar,_⟩:=OkF.val d_;refine⟨_,(bH (bR 2 (bK cC (bC (qv 0) (bC (qv 1) bF))))
  (bJ (bT (bK cN (bC (qv 2) (bC (bK dJ (bC (qv 0) (bC (qv 2) bF))) (bC (vY (by rfl) ar) bF))))))),?_⟩
 rintro _ R ⟨s,ns,off,gs,rfl,h,hg,q⟩;refine⟨s,ns,off,gs,rfl,h.h,hg,s,ns,off,_,rfl,h.h,gH _ _,h.fw,false,vs,_,_,rfl,ar,by rw[gH];exact h.few,h.ld gs,λst hs=>q st (by rw[hs.len,gH]) hs.hall⟩
theorem Hq(T:Tx D)(cC:gT 3 fG cZ (gG D))(dJ:gT 4 jH gw (lW D))(cN:gT 3 gZ fH (ju mg))(fZ:gT 2 lU jw (gP true))(F:Fu pG qw f fd):FT 5 f fd iW (z6 D true):=by
 refine F.okT Hg λaf A outer s H E hr nd=>?_;obtain⟨vs,ax,_⟩:=OkF.val fZ;refine⟨_,(bH (bR 2 (bK cC (bC (qv 0) (bC (qv 1) bF))))
  (bJ (bT (bK cN (bC (qv 2) (bC (bK dJ (bC (qv 0) (bC (qv 2) bF))) (bC (vY (by rfl) ax) bF))))))),?_⟩
 rintro _ R ⟨s,ns,off,gs,rfl,h,hg,q⟩;refine⟨s,ns,off,gs,rfl,h.h,hg,s,ns,off,_,rfl,h.h,gH _ _,h.fw,true,vs,_,_,rfl,ax,by rw[gH];exact h.few,h.ld gs,λst hs=>q st (by rw[hs.len,gH]) hs.hall⟩
abbrev blG(l:List Bool)(k:Nat):Bool:=l.getD k false
def Jw:ST:=λts q=>∃(ld:List (List (List Nat)))(lt:List Bool),ts=[.lst (ld.map nT),blT lt]/\LdB lt.length ld/\lt.length<=100/\q (.l1 ((ld.map λds=>ds.filter λd=>d.all (blG lt)).map nT))
theorem WM(T:Tx D)(F:Fu Ck qg f fd):FT 1 f fd rN Jw:=by
 refine F.okT Vq λaf A outer s H E hr nd=>?_;refine⟨_,(bJ (bT (cH (bI qg) nZ nZ ["doors"] (b_ (qv 0)) (dh (i:=0)) cg (Pk (bI qg) ("doors"::nZ) ("doors"::nZ) ["door"] (b_ (qv 0)) (dh (i:=0)) (Ed (dz (bZ (Qf rfl) T.Xr boot_all (bC (abj (bI qg) ("door"::"doors"::nZ) ("door"::"doors"::nZ) ["room"] (b_ (qv 0)) (dh (i:=0)) cg (bL (qv 4) (qv 0))) bF)))) (qv 0))))),?_⟩;rintro _ R ⟨ld,lt,rfl,hl,few,q⟩;refine⟨by rw[ak,hl.len];exact aL few (by decide),comp_map nT (λds=>nT (ds.filter λd=>d.all (blG lt))) ld (λds dt N M hN=>⟨by rw[ak];exact aL (hl.few ds dt) (by decide),jt ntT (λd=>d.all (blG lt)) ntT ds (λd hd N M h1 h2=>?_) hN⟩) ?_⟩
 .obtain⟨d1,d2⟩:=hl.ok ds dt d hd;refine⟨by rw[ak];exact aL d1 (by decide),comp_map inT (λr=>.bl (blG lt r)) d (λr hr N M hN=>?_) ⟨d.map (blG lt),by rw[WU];rfl,?_⟩⟩
  .have er:=aj (d2 r hr);refine⟨_,cW er,?_⟩;have hN:N (.bl (lt.getD r false)):=hN;rw[au,er]at hN;exact hN
  .show sw ((d.map (blG lt)).all λb=>b) _ _;rw[List.all_map];exact sw2 h1 h2
 .rw[WU]at q;exact q
theorem Es:EqD L2.T.bl PyData.bool:=⟨λ_=>rfl,λ_=>rfl,λ_=>aZ _,λx y=>by cases x<;>cases y<;>rfl⟩
theorem anp{α:Type}[DecidableEq α]{h:α->L2.T}{g:α->PyData}(E:EqD h g){neg:Bool}{a:List α}{q:OT->Prop}(hq:q (.fz (.bl (xr neg false)))):L2.gEq neg (L2.T.lst (a.map h)) L2.T.non q:=⟨.list (a.map g),.none,ZH L2.T.lst (yM E.of a),rfl,E.lst a,rfl,hq⟩
theorem NP{ld:Nat->List (List Nat)}{A L B:Nat->Bool}{k:Nat}(h:∀d∈ld k,∀r∈d,A r=true->L r=true)(hj:jn false (stay ld A k) B=true):jn false (stay ld L k) B=true:=by
 obtain⟨d,hd,r,hr,hs⟩:=nC.mp hj;obtain⟨hd,ha⟩:=List.mem_filter.mp hd;exact nC.mpr ⟨d,List.mem_filter.mpr ⟨hd,List.all_eq_true.mpr λr hr=>h d hd r hr (List.all_eq_true.mp ha r hr)⟩,r,hr,hs⟩
theorem HlW.rooms{ns:Φ}{off:List (List bN)}(h:HlW ns off){mk:Nat->Bool}{k:Nat}{d:List Nat}(hd:d∈ldO mk (jf off) k):∀r∈d,r<ns.length:=λr hr=>by
 unfold ldO at hd;cases g:mk k with
 |true=>rw[g,ZY rfl]at hd;cases hd
 |false =>
  rw[g,ZZ (by decide)]at hd;obtain⟨o,om,rfl⟩:=YV.mp hd;obtain⟨w,az,rfl⟩:=YV.mp hr;have om:o∈off.getD k []:=om;rw[au]at om;cases e:off[k]? with
  |none=>rw[e]at om;cases om
  |some ds=>rw[e]at om;exact(h.wy ds (aC e) o om).lt w az
structure aaA(m:Nat)(mk:Nat->Bool)(ld:Nat->List (List Nat))(lt:Option (List Bool))(kp:List Bool):Prop where
 len:kp.length=m
 one:lt=none->∀k,k<m->blG kp k=true
 nxt:∀l,lt=some l->l.length=m/\Lfp false m mk (stay ld (blG l)) (blG kp)/\∀k,k<m->blG kp k=true->blG l k=true
 all:∀A:Nat->Bool,(∀B:Nat->Bool,(∀k,k<m->mk k=true->B k=true)->(∀k,k<m->jn false (stay ld A k) B=true->B k=true)->∀k,k<m->A k=true->B k=true)->∀k,k<m->A k=true->blG kp k=true
theorem aaA.next{m:Nat}{mk:Nat->Bool}{ld:Nat->List (List Nat)}{lt:Option (List Bool)}{kp df:List Bool}(h:aaA m mk ld lt kp)(hr:∀k,∀d∈ld k,∀r∈d,r<m)(l':df.length=m)(f:Lfp false m mk (stay ld (blG kp)) (blG df)):aaA m mk ld (some kp) df:=by
 refine⟨l',λz=>(nomatch z),λl e=>?_,λA self k hk a=>?_⟩
 .cases e;refine⟨h.len,f,λk hk a=>?_⟩;cases lt with
  |none=>exact h.one rfl k hk
  |some l =>
   obtain⟨_,f1,le⟩:=h.nxt l rfl;exact f.least (blG kp) f1.base (λk hk j=>f1.step k hk (NP (λd hd r kf=>le r (hr k d hd r kf)) j)) k hk a
 .exact self (blG df) f.base (λk hk j=>f.step k hk (NP (λd hd r kf=>h.all A self r (hr k d hd r kf)) j)) k hk a
def ltT:Option (List Bool)->L2.T
 |none=>.non
 |some l=>blT l
def agw(m:Nat)(l:List Bool):Nat:=cnt (λk=>!(blG l k)) m
def Bb(D:Adr):ST:=λts q=>∃(s:Rat)(ns:Φ)(off:List (List bN))(gs:List Nat),ts=[hlT D s ns off,ntT gs]/\HlW ns off/\abx ns gs/\∀L:List Bool,L.length=ns.length->Oo ns.length (mkF gs) (ldO (mkF gs) (jf off)) (blG L)->q (.fz (blT L))
theorem Ls(T:Tx D)(cC:gT 3 fG cZ (gG D))(dJ:gT 4 jH gw (lW D))(cN:gT 3 gZ fH (ju mg))(d_:gT 2 jG iy (gP false))(Fl:gT 1 Ck rN Jw)(dX:gI 1 D.Hall_size gB (mH D))(F:Fu tK pX f fd):FT 5 f fd kJ (Bb D):=by
 refine F.okT Bo λaf A outer s H E hr nd=>?_;obtain⟨vs,ar,_⟩:=OkF.val d_;refine⟨_,(bH (bR 2 (bK cC (bC (qv 0) (bC (qv 1) bF))))
  (bH (bR 3 (bK dJ (bC (qv 0) (bC (qv 2) bF))))
  (bH (bR 4 dU)
  (bH (bR 5 (bO cY (dN (bC mU bF)) (yp (qv 0) T.jN T.pQ dX (KS:=lE))))
  (bH (zL (bW (lZ hr.units) (qv 5) (qv 4))
  (bH (bR 4 (qv 5))
  (bJ (mZ (bI pX) vN vN ["step"] (b_ (bK cN (bC (qv 2) (bC (bK Fl (bC (qv 3) (bC (qv 4) bF))) (bC (vY (by rfl) ar) bF))))) (dh (i:=0)) cg (jE Df (qv 0) dU) (jh (i:=5) Bo.nd rfl (Or.inl rfl))))))
  (bJ (bT (qv 4)))))))),?_⟩
 rintro _ R ⟨s,ns,off,gs,rfl,h,hg,q⟩;have few:=h.few;have hrm:∀k,∀d∈ldO (mkF gs) (jf off) k,∀r∈d,r<ns.length:=λk d hd=>h.rooms hd;refine⟨s,ns,off,gs,rfl,h.h,hg,s,ns,off,_,rfl,h.h,gH _ _,h.fw,⟨rfl,rfl⟩,s,ns,off,rfl,⟨by lia,by lia,by show 1*_<=_;exact aL (show _<=100 by lia) (by decide)⟩,λz hz=>?_⟩;have hz:z=(List.replicate ns.length true).map L2.T.bl:=by rw[hz,List.map_replicate];exact Zzz
 rw[hz];have l0:aaA ns.length (mkF gs) (ldO (mkF gs) (jf off)) none (List.replicate ns.length true):=by
  have one:∀k,k<ns.length->blG (List.replicate ns.length true) k=true:=λk hk=>by show(List.replicate ns.length true).getD k false=true;rw[au,XG,ZY hk];rfl
  exact⟨aN,λ_=>one,λ_ z=>(nomatch z),λA _ k hk _=>one k hk⟩
 refine⟨λn o=>∃(lt:Option (List Bool))(kp:List Bool),o=[.fz (hlT D s ns off),.fz (ntT gs),.fz (blT (mkL ns.length gs)),.fz (.lst ((ldL (mkL ns.length gs) off).map nT)),.fz (ltT lt),.fz (blT kp)]/\aaA ns.length (mkF gs) (ldO (mkF gs) (jf off)) lt kp/\n=if lt=some kp then 0 else 1+agw ns.length kp,⟨_,none,_,rfl,l0,rfl⟩,?_⟩;rintro n _ ⟨lt,kp,rfl,hl,rfl⟩;have ky:∀q:Bool->Prop,q (decide (lt≠some kp))->rB (rOp (gEq true) (Wx 5) (Wx 4)) [.fz (hlT D s ns off),.fz (ntT gs),.fz (blT (mkL ns.length gs)),.fz (.lst ((ldL (mkL ns.length gs) off).map nT)),.fz (ltT lt),.fz (blT kp)] q:=λq hq=>by
  cases lt with
  |none =>
   have hq:q true:=hq;dsimp only[rB,rOp];refine Py (t:=blT kp) rfl (Py (t:=.non) rfl ?_);refine anp Es (a:=kp) ?_;exact hq
  |some l =>
   dsimp only[rB,rOp];refine Py (t:=blT kp) rfl (Py (t:=blT l) rfl ?_);refine Es.gEq (a:=kp) (c:=l) ?_;by_cases c:kp=l
   .rw[Zs c];rw[Zp (by rw[c];exact λz=>z rfl)]at hq;exact hq
   .rw[Zp c];rw[Zs (show some l≠some kp from λz=>c (Option.some.inj z).symm)]at hq;exact hq
 refine ky _ ?_;refine swD (λne=>?_) λe=>?_
 .refine⟨λo=>∃df,o=[.fz (hlT D s ns off),.fz (ntT gs),.fz (blT (mkL ns.length gs)),.fz (.lst ((ldL (mkL ns.length gs) off).map nT)),.fz (blT kp),.fz (blT df)]/\df.length=ns.length/\Lfp false ns.length (mkF gs) (stay (ldO (mkF gs) (jf off)) (blG kp)) (blG df),?_,?_⟩
  .rintro _ ⟨df,rfl,l',f⟩;have hn:=hl.next hrm l' f;refine⟨_,?_,some kp,df,rfl,hn,rfl⟩;rw[ZZ ne];by_cases c:some kp=some df
   .rw[ZY c];exact WV _ (by decide)
   .rw[ZZ c];have c:df≠kp:=λz=>c (by rw[z]);obtain⟨_,_,le⟩:=hn.nxt kp rfl;obtain⟨k,hk,ka,kb⟩ : ∃k,k<ns.length/\blG kp k=true/\blG df k=false:=Classical.byContradiction λno=>c (UV (by rw[l',hl.len]) λk h1 h2=>by
     have hk:k<ns.length:=by exact aR h1 (WJ l')
     have g1:blG df k=df[k]:=by show df.getD k false=_;rw[au,aj h1];rfl
     have g2:blG kp k=kp[k]:=by show kp.getD k false=_;rw[au,aj h2];rfl
     rw[<- g1,<- g2];cases a:blG df k with
     |true=>exact(le k hk a).symm
     |false =>
      cases b:blG kp k with
      |false=>rfl
      |true=>exact absurd ⟨k,hk,b,a⟩ no)
    have:agw ns.length df<agw ns.length kp:=V_ (S:=λk=>!(blG kp k)) (S':=λk=>!(blG df k)) (by show(!(blG kp k))=false;rw[ka];rfl) (by show(!(blG df k))=true;rw[kb];rfl) hk λj hj a=>by
     show(!(blG df j))=true;cases b:blG df j with
     |false=>rfl
     |true=>rw[show blG kp j=true from le j hj b]at a;cases a
    exact Nat.add_lt_add_left this _
  .have lk:LdB kp.length (ldL (mkL ns.length gs) off):=by have:=h.ld gs;rw[gH]at this;rw[hl.len];exact this
   have ll:((ldL (mkL ns.length gs) off).map λds=>ds.filter λd=>d.all (blG kp)).length=(mkL ns.length gs).length:=by rw[ak,(h.ld gs).len]
   refine⟨_,_,rfl,lk,by rw[hl.len];exact few,false,vs,_,_,rfl,ar,by rw[gH];exact few,⟨ll,λds dt=>?_,λds dt d hd=>?_⟩,λst hs=>?_⟩
   .obtain⟨es,he,rfl⟩:=YV.mp dt;exact aL (List.length_filter_le ..) ((h.ld gs).few es he)
   .obtain⟨es,he,rfl⟩:=YV.mp dt;exact(h.ld gs).ok es he d (List.mem_filter.mp hd).1
   .have sl:st.length=ns.length:=by rw[hs.len,gH]
    refine⟨by rw[ak,sl];exact aL few (by decide),comp_map dT (λc=>.bl c.isSome) st (λc _ N M hN=>by cases c<;>exact hN) ⟨st.map (·.isSome),?_,by rw[ak,sl],?_⟩⟩
    .show _=[_,_,_,_,_,OT.fz (blT (st.map (·.isSome)))];unfold blT;rw[WU]
     rfl
    .have es:blG (st.map (·.isSome))=cT st:=funext λk=>by
      show(st.map (·.isSome)).getD k false=(st.getD k none).isSome;rw[au,aq,au];cases st[k]?<;>rfl
     rw[es];have lf:=hs.lf;rw[gH]at lf;refine(lf.ld λk hk=>?_).marks λk hk=>Gf hk;show((ldL (mkL ns.length gs) off).map λds=>ds.filter λd=>d.all (blG kp)).getD k []=(ldO (mkF gs) (jf off) k).filter λd=>d.all (blG kp);have e1:=Jl (mk:=mkL ns.length gs) (off:=off) (k:=k) (by rw[gH];exact hk);have e1:(ldL (mkL ns.length gs) off).getD k []=_:=e1;rw[FJ (Gf hk)]at e1;rw[<- e1,au,aq,au];cases(ldL (mkL ns.length gs) off)[k]?<;>rfl
 .have e:lt=some kp:=Decidable.not_not.mp e;subst e;obtain⟨_,f,_⟩:=hl.nxt kp rfl;exact q kp hl.len ⟨f,hl.all⟩
def za(D:Adr):ST:=λts q=>∃(s:Rat)(ns:Φ)(off:List (List bN))(gs:List Nat),ts=[hlT D s ns off,ntT gs]/\HlW ns off/\abx ns gs/\∀(Fo R:Nat->Bool)(L:List Bool),L.length=ns.length->Lfp true ns.length (mkF gs) (ldO (mkF gs) (jf off)) Fo->Lfp false ns.length (λk=>!(Fo k)) (ldO (mkF gs) (jf off)) R->(∀k,k<ns.length->blG L k = !(R k))->q (.l1 (L.map L2.T.bl))
theorem J9(T:Tx D)(cC:gT 3 fG cZ (gG D))(dJ:gT 4 jH gw (lW D))(cN:gT 3 gZ fH (ju mg))(d_:gT 2 jG iy (gP false))(fZ:gT 2 lU jw (gP true))(F:Fu qF kI f fd):FT 5 f fd jD (za D):=by
 refine F.okT zc λaf A outer s H E hr nd=>?_;obtain⟨vs,ar,_⟩:=OkF.val d_;obtain⟨ve,ax,_⟩:=OkF.val fZ;refine⟨_,(bH (bR 2 (bK cC (bC (qv 0) (bC (qv 1) bF))))
  (bH (bR 3 (bK dJ (bC (qv 0) (bC (qv 2) bF))))
  (bH (mZ (bI kI) lB lB ["step"] (b_ (bK cN (bC (qv 2) (bC (qv 3) (bC (vY (by rfl) ax) bF))))) (dh (i:=0)) cg (jE nW (qv 0) dU) (jh (i:=4) zc.nd rfl (Or.inl rfl)))
  (bJ (bT (cH (bI kI) lB lB ["step"] (b_ (bK cN (bC (qv 4) (bC (qv 3) (bC (vY (by rfl) ar) bF))))) (dh (i:=0)) cg (jE nW (qv 0) dU))))))),?_⟩
 rintro _ R ⟨s,ns,off,gs,rfl,h,hg,q⟩;have few:=h.few;have ml:=gH ns.length gs;have ld:=h.ld gs;have isn:∀st:List (Option Nat),(st.map λc=>L2.T.bl c.isNone)=(st.map (·.isNone)).map L2.T.bl:=λst=>by rw[WU];rfl
 have gn:∀(st:List (Option Nat))(k:Nat),k<st.length->blG (st.map (·.isNone)) k = !(cT st k):=λst k hk=>by
  show(st.map (·.isNone)).getD k false = !((st.getD k none).isSome);rw[au,aq,au,aj hk];show st[k].isNone = !(st[k].isSome);cases st[k]<;>rfl
 refine⟨s,ns,off,gs,rfl,h.h,hg,s,ns,off,_,rfl,h.h,ml,h.fw,true,ve,_,_,rfl,ax,by rw[ml];exact few,ld,λst hs=>?_⟩;have sl:st.length=ns.length:=by rw[hs.len,ml]
 refine⟨by rw[ak,sl];exact aL few (by decide),comp_map dT (λc=>.bl c.isNone) st (λc _ N M hN=>by cases c<;>exact hN) ?_⟩;rw[isn];have fl:(st.map (·.isNone)).length=ns.length:=by rw[ak,sl]
 refine⟨false,vs,_,_,rfl,ar,by rw[fl];exact few,by rw[fl];rw[ml]at ld;exact ld,λbu h9=>?_⟩;have j3:bu.length=ns.length:=by rw[h9.len,fl]
 refine⟨by rw[ak,j3];exact aL few (by decide),comp_map dT (λc=>.bl c.isNone) bu (λc _ N M hN=>by cases c<;>exact hN) ?_⟩;rw[isn];have lf:=h9.lf;rw[fl]at lf;exact q (cT st) (cT bu) _ (by rw[ak,j3]) hs.hall ((lf.ld λk hk=>(Jl (by rw[ml];exact hk)).trans (FJ (Gf hk))).marks λk hk=>gn st k (by lia)) λk hk=>gn bu k (by lia)
def nmQ:Bool->Str
 |false=>oW
 |true=>yj
def isX(e:Bool)(rs:List Rat)(m:Rat):Prop:=m∈rs/\∀x∈rs,¬bet e m x
def sY(e:Bool):ST:=λts q=>∃rs:List Rat,ts=[.lst (rs.map frR)]/\(∀x∈rs,Bq x)/\(rs=[]->q (.fz .non))/\∀m,isX e rs m->q (.fz (frR m))
theorem Ub{e:Bool}{as:List Rat}{m a:Rat}(h:isX e as m):(bet e m a->isX e (as++[a]) a)/\(¬bet e m a->isX e (as++[a]) m):=by
 obtain⟨h1,h2⟩:=h;refine⟨λb=>⟨by simp,λx hx=>?_⟩,λb=>⟨UQ _ h1,λx hx=>?_⟩⟩
 .rcases Y1.mp hx with z|z
  .have:=h2 x z;cases e<;>simp only[bet]at *<;>grind
  .rw[YR.mp z];cases e<;>simp only[bet]<;>grind
 .rcases Y1.mp hx with z|z
  .exact h2 x z
  .rw[YR.mp z];exact b
theorem QC(T:Tx D)(ji:gT 1 uG oV yP)(F:Fu oW Bx f fd):FT 2 f fd lV (sY false):=by
 refine F.okT Tg λaf A outer s H E hr nd=>?_;refine⟨_,(bH (bR 1 dU)
  (bH (dY (b_ (qv 0)) (cj (n:=99) 2)
  (bJ (cF (QW.qt (iJ (bW nW (qv 1) dU) (fX (dz (bK ji (bC (qv 1) (bC (qv 2) bF)))))))
  (bJ (bR 1 (qv 2)))
  bU)))
  (bJ (bT (qv 1))))),?_⟩
 rintro _ R ⟨rs,rfl,h,q0,q⟩;refine fM frR rs (λas o=>(as=[]/\∃x,o=[.fz (.lst (rs.map frR)),.fz .non,x])\/∃m x,o=[.fz (.lst (rs.map frR)),.fz (frR m),x]/\isX false as m) (.inl ⟨rfl,_,rfl⟩) ?_ ?_
 .rintro as a bs _ e (⟨rfl,x,rfl⟩|⟨m,x,rfl,hm⟩)
  .exact .inr ⟨a,_,rfl,by simp,λx hx=>by rw[show x=a by simpa using hx];simp only[bet];grind⟩
  .have ba:Bq a:=h a (e ▸ by simp);have bm:Bq m:=h m (e ▸ UQ _ hm.1);obtain⟨s1,s2⟩:=Ub (a:=a) hm;exact⟨m,a,rfl,bm,ba,swD (λlt=>.inr ⟨a,_,rfl,s1 lt⟩) λkN=>.inr ⟨m,_,rfl,s2 kN⟩⟩
 .rintro _ (⟨z,x,rfl⟩|⟨m,x,rfl,hm⟩)
  .exact q0 z
  .exact q m hm
theorem ab1(T:Tx D)(ji:gT 1 uG oV yP)(F:Fu yj Ql f fd):FT 2 f fd uK (sY true):=by
 refine F.okT acw λaf A outer s H E hr nd=>?_;refine⟨_,(bH (bR 1 dU)
  (bH (dY (b_ (qv 0)) (cj (n:=99) 2)
  (bJ (cF (QW.qt (iJ (bW nW (qv 1) dU) (fX (dz (bK ji (bC (qv 2) (bC (qv 1) bF)))))))
  (bJ (bR 1 (qv 2)))
  bU)))
  (bJ (bT (qv 1))))),?_⟩
 rintro _ R ⟨rs,rfl,h,q0,q⟩;refine fM frR rs (λas o=>(as=[]/\∃x,o=[.fz (.lst (rs.map frR)),.fz .non,x])\/∃m x,o=[.fz (.lst (rs.map frR)),.fz (frR m),x]/\isX true as m) (.inl ⟨rfl,_,rfl⟩) ?_ ?_
 .rintro as a bs _ e (⟨rfl,x,rfl⟩|⟨m,x,rfl,hm⟩)
  .exact .inr ⟨a,_,rfl,by simp,λx hx=>by rw[show x=a by simpa using hx];simp only[bet];grind⟩
  .have ba:Bq a:=h a (e ▸ by simp);have bm:Bq m:=h m (e ▸ UQ _ hm.1);obtain⟨s1,s2⟩:=Ub (a:=a) hm;exact⟨a,m,rfl,ba,bm,swD (λlt=>.inr ⟨a,_,rfl,s1 lt⟩) λkN=>.inr ⟨m,_,rfl,s2 kN⟩⟩
 .rintro _ (⟨z,x,rfl⟩|⟨m,x,rfl,hm⟩)
  .exact q0 z
  .exact q m hm
def Q8(e:Bool)(rs:List Rat)(j b:Nat):Prop:=(b=j/\∀x∈rs,¬bet e (rs.getD j 0) x)\/(b<rs.length/\bet e (rs.getD j 0) (rs.getD b 0)/\∀x∈rs,¬bet e (rs.getD b 0) x)
theorem ahk{e:Bool}{a b:Rat}(h:¬bet e b a)(n:a≠b):bet e a b:=by
 cases e<;>simp only[bet]at *<;>grind
theorem afE{a b:Rat}(h:(a.num,((a.den:Nat):Int))=(b.num,((b.den:Nat):Int))):a=b:=by
 injection h with h1 h2;exact Rat.ext h1 (by lia)
theorem ach{rs:List Rat}{m:Rat}(h:m∈rs):∃j:Nat,rs[j]?=some m/\∀(i:Nat)g,i<j->rs[i]?=some g->g≠m:=by
 induction rs with
 |nil=>cases h
 |cons r rs ih =>
  by_cases e:r=m
  .exact⟨0,by rw[e];rfl,λi _ z=>absurd z (WZ _)⟩
  .obtain⟨j,e1,e2⟩:=ih ((YU.mp h).resolve_left λz=>e z.symm);refine⟨j+1,e1,λi g hi eg=>?_⟩;cases i with
   |zero=>cases eg;exact e
   |succ i=>exact e2 i g (Nat.lt_of_succ_lt_succ hi) eg
def yL(mg:Str->Ω):ST:=λts q=>∃(e:Bool)(v:Addr)(rs:List Rat)(d:Option Nat),ts=[.lst (rs.map frR),dT d,.val (.ref v)]/\mg (nmQ e)=some (.ref v)/\rs.length<=1000/\(∀x∈rs,Bq x)/\(rs=[]->q (.fz (dT d)))/\(rs≠[]->∃j:Nat,d=some j/\j<rs.length/\∀b:Nat,Q8 e rs j b->q (.fz (.int (b:Nat))))
theorem J_(T:Tx D)(nQ:gT 2 oW lV (sY false))(Ad:gT 2 yj uK (sY true))(F:Fu rA uE f fd):FT 3 f fd jL (yL mg):=by
 refine F.okT Kw λaf A outer s H E hr nd=>?_;have GV:∀b,∃ps,gT 2 (nmQ b) ps (sY b):=λb=>by
  cases b
  .exact⟨_,nQ⟩
  .exact⟨_,Ad⟩
 refine⟨_,(bH (bR 3 (Ue (mg:=mg) (k:=2) (nm:=nmQ) (S:=sY) 2 GV hr.md (bC (qv 0) bF)))
  (bH (cF (QW.qt (iJ (bW nW (qv 3) dU) (fX (bW (go_eq hr.units) (bL (qv 0) (qv 1)) (qv 3)))))
  (bJ (bT (qv 1)))
  bU)
  (bJ (bT (afr hr.units (qv 0) (bC (qv 3) bF)))))),?_⟩
 rintro _ R ⟨e,v,rs,d,rfl,hv,few,hb,q0,q⟩;refine⟨e,hv,rs,rfl,hb,λz=>?_,λm hm=>?_⟩
 .exact q0 z
 .obtain⟨j,rfl,lj,q⟩:=q λz=>by rw[z]at hm;cases hm.1
  have ej:=aj lj;have gj:rs.getD j 0=rs[j]:=by rw[au,ej];rfl
  refine⟨_,cW ej,sw2 (λh=>q j (.inl ⟨rfl,?_⟩)) λh=>?_⟩
  .obtain⟨a,b⟩:=Bool.and_eq_true_iff.mp h;rw[gj,show rs[j]=m from Rat.ext (of_decide_eq_true a) (by have:=of_decide_eq_true b;lia)];exact hm.2
  .have ne:rs[j]≠m:=λz=>by
    rw[z,Zs rfl,Zs rfl]at h;cases h
   obtain⟨b,eb,nb⟩:=ach hm.1;have lb:=(ao.mp eb).1;have gb:rs.getD b 0=m:=by rw[au,eb];rfl
   refine⟨rs.map λr=>(r.num,((r.den:Nat):Int)),(m.num,((m.den:Nat):Int)),b,by rw[WU];rfl,rfl,by rw[ak];exact aL few (by decide),by rw[aq,eb];rfl,λi g hi eg=>?_,q b (.inr ⟨lb,by rw[gj,gb];exact ahk (hm.2 _ (aU lj)) ne,by rw[gb];exact hm.2⟩)⟩;rw[aq,aj (show i<rs.length by exact Tu hi lb)]at eg;cases eg;exact λz=>nb i _ hi (aj _) (afE z)
theorem JR{α β:Type}(f:α->T)(g:β->T):∀(xs:List α)(ys:List β),Gj (xs.map f) (ys.map g)=(xs.zip ys).map λp=>.tup [f p.1,g p.2]
 |[],ys=>by cases ys<;>rfl
 |_::_,[]=>rfl
 |x::xs,y::ys=>by
  rw[List.zip_cons_cons,List.map_cons,List.map_cons,List.map_cons,<- JR f g xs ys]
  rfl
open Rw (sg jA jd cA j7 j_ Big)
def otw(mk:List Bool)(cs:List (Option bN))(S:Nat->Bool):List (Option bN):=(List.range mk.length).map λk=>if mkG mk k=false/\S k=true then cs.getD k none else none
def Bp(mg:Str->Ω):ST:=λts q=>∃(mk:List Bool)(cs:List (Option bN)),ts=[blT mk,.lst (cs.map opT)]/\mk.length<=100/\cs.length=mk.length/\(∀o,some o∈cs->o.ways.length<=1000/\∀w∈o.ways,w.1<mk.length)/\∀S:Nat->Bool,Lfp false mk.length (mkG mk) (λk=>ldC (cs.getD k none)) S->q (.l1 ((otw mk cs S).map opT))
theorem Mr(T:Tx D)(cN:gT 3 gZ fH (ju mg))(d_:gT 2 jG iy (gP false))(F:Fu tO jZ f fd):FT 4 f fd lg (Bp mg):=by
 refine F.okT Bm λaf A outer s H E hr nd=>?_;obtain⟨vs,ar,_⟩:=OkF.val d_;refine⟨_,(bH (mZ (bI jZ) iC iC ["offer"] (b_ (qv 1)) (dh (i:=0)) cg (Ek (bW nW (qv 0) dU) (dN bF) (dN (bC (Pk (bI jZ) ("offer"::iC) ("offer"::iC) ["room","chance"] (b_ (bL (qv 0) bG)) (fB (n:=2) (bQ (dh (i:=0)) (bQ (dh (i:=1)) dG))) cg (qv 0)) bF))) (jh (i:=2) Bm.nd rfl (Or.inl rfl)))
  (bH (bR 3 (bK cN (bC (qv 0) (bC (qv 2) (bC (vY (by rfl) ar) bF)))))
  (bJ (bT (cH (bI jZ) iC iC ["step","offer"] (Ke T.UJ (bC (qv 3) (bC (qv 1) bF))) (fB (n:=2) (bQ (dh (i:=0)) (bQ (dh (i:=1)) dG))) cg (Ek (QW.qt (iJ (bW nW (qv 0) dU) (fX (bW (go_eq hr.units) (qv 0) bG)))) dU (qv 1))))))),?_⟩
 rintro _ R ⟨mk,cs,rfl,m1,cl,hc,q⟩;have few:∀{α:Type}{l:List α},l.length<=mk.length->l.length<=sizeLine:=λ{α l}h=>aL h (aL m1 (by decide));refine⟨few (by rw[ak,cl];exact aG _),comp_map opT (λc=>nT (ldC c)) cs (λc hm N M hN=>?_) ?_⟩
 .cases c with
  |none=>exact hN
  |some o =>
   refine⟨by rw[ak];exact aL (hc o hm).1 (by decide),comp_map nwT (λw=>inT w.1) o.ways (λw hw N M hN=>⟨rfl,hN⟩) ?_⟩;rw[show nT (ldC (some o))=.lst [.lst (o.ways.map λw=>inT w.1)]by show L2.T.lst [L2.T.lst ((o.ways.map (·.1)).map inT)]=_;rw[WU];rfl]at hN;exact hN
 .rw[show(cs.map λc=>nT (ldC c))=(cs.map ldC).map nT by rw[WU];rfl];have gl:∀k,ldG (cs.map ldC) k=ldC (cs.getD k none):=λk=>by
   show(cs.map ldC).getD k []=_;rw[au,aq,au];cases cs[k]?<;>rfl
  refine⟨false,vs,mk,cs.map ldC,rfl,ar,m1,⟨by rw[ak,cl],λds dt=>?_,λds dt d hd=>?_⟩,λst hs=>?_⟩
  .obtain⟨c,_,rfl⟩:=YV.mp dt;cases c with
   |none=>exact aZ _
   |some o=>exact U1 rfl
  .obtain⟨c,hm,rfl⟩:=YV.mp dt;cases c with
   |none=>cases hd
   |some o =>
    cases YR.mp hd;refine⟨by rw[ak];exact(hc o hm).1,λr hr=>?_⟩;obtain⟨w,hw,rfl⟩:=YV.mp hr;exact(hc o hm).2 w hw
  .have q:=q (cT st) (hs.lf.ld λk _=>gl k);have sl:=hs.len;show(Gj (st.map dT) (cs.map opT)).length<=sizeLine/\iR _ _ _ _ (Gj (st.map dT) (cs.map opT)) _;rw[JR];refine⟨few (by rw[ak,VX];lia),comp_map (λp:Option Nat×Option bN=>.tup [dT p.1,opT p.2]) (λp=>opT (if p.1=none\/p.1=some 0 then none else p.2)) (st.zip cs) (λp hp N M hN=>?_) ?_⟩
   .refine⟨rfl,?_⟩;obtain⟨a,c⟩:=p;cases a with
    |none=>rw[ZY (.inl rfl)]at hN;exact hN
    |some n =>
     by_cases e:n=0
     .rw[ZY (.inr (by rw[e]))]at hN;exact swT (Zs (by lia)) hN
     .rw[ZZ (by simp[e])]at hN;exact swF (Zp (by lia)) hN
   .have:((st.zip cs).map λp=>opT (if p.1=none\/p.1=some 0 then none else p.2))=(otw mk cs (cT st)).map opT:=by
     unfold otw;rw[WU];refine UV (by rw[ak,ak,VX,WP];lia) λk h1 h2=>?_;rw[ak,WP]at h2;rw[VY,VY,UH,List.getElem_zip];dsimp only[Function.comp];have z:=hs.zero k h2;rw[au,aj (show k<st.length by lia)]at z;have z:st[k]=some 0↔mkG mk k=true:=z;have g:cT st k=st[k].isSome:=by unfold cT;rw[au,aj (show k<st.length by lia)];rfl
     rw[au,aj (show k<cs.length by lia),g]
     congr 1
     cases e:st[k]with
     |none=>rw[ZY (.inl rfl),ZZ (λz=>by cases z.2)]
     |some n =>
      rw[e]at z;by_cases c:n=0
      .rw[ZY (.inr (by rw[c])),ZZ (λy=>by rw[z.mp (by rw[c])]at y;cases y.1)]
      .rw[ZZ (by simp[c]),ZY ⟨by
        cases g:mkG mk k with
        |false=>rfl
        |true=>exact absurd (Option.some.inj (z.mpr g)) c,rfl⟩]
       rfl
    rw[this];exact q
theorem agj{α:Type}(l:List α)(h:α->T){i:Int}(h0:0<=i)(h1:i<l.length):∃a∈l,ixT (l.map h) i=some (h a):=by
 obtain⟨k,rfl⟩:=Int.eq_ofNat_of_zero_le h0;have hk:k<l.length:=by lia
 refine⟨l[k],aU hk,?_⟩;show nth (l.map h) k=_;rw[vR,aq,aj hk];rfl
theorem div_pos{a b:Int}(hb:0<b):(Rat.divInt a b).den<=b.toNat/\(Rat.divInt a b).num.natAbs<=a.natAbs:=by
 have l:=yw (t:=a) (b:=b) (c:=(Int.gcd a b:Nat)) (WS hb) (by have:=oK (a:=a) (b:=b) (WS hb);exact WS this) (by lia) (XZ (oK (WS hb)) hb);have e:=j5 l (WS hb);injection e with e;injection e with e1 e2;injection e2 with e2 _;injection e1 with e1;injection e2 with e2;have h1:=l.lx;have h2:=l.ly;have h3:=l.pos;have e1:a.fdiv ((Int.gcd a b:Nat):Int)=(Rat.divInt a b).num:=e1;have e2:b.fdiv ((Int.gcd a b:Nat):Int)=((Rat.divInt a b).den:Nat):=e2;rw[e1]at h1;rw[e2]at h2 h3;omega
structure Shr(s:Rat):Prop where
 lo:0<=s
 hi:s<1
 den:s.den<=100
structure Pay(p:Rat):Prop where
 num:p.num.natAbs<=10^30
 den:p.den<=1000
def st_size:ST:=λts q=>∃c:Int,ts=[.int c]/\∀n:Nat,n<=8->q (.fz (.int (n:Nat)))
theorem adh(T:Tx D)(eZ:gT 1 nU j6 qd)(F:Fu P0 Wn f fd):FT 2 f fd Dr st_size:=by
 refine F.okT aev λaf A outer s H E hr nd=>?_;refine⟨_,(bH (bR 1 (bK eZ (bC (qv 0) (bC bG bF))))
  (bH (cF (bW (go_eq hr.units) (bO cJ (bL (qv 1) bG) bG) bG)
  (bJ (bT bG))
  bU)
  (bH (cF (bW (go_eq hr.units) (bO cJ (bL (qv 1) bG) bG) bG)
  (bJ (bT (bO dW bG (bO cJ (bL (qv 1) bG) bG))))
  bU)
  (bJ (bT (bO dW bG (bO cJ (bL (qv 1) bG) bG))))))),?_⟩
 rintro _ R ⟨c,rfl,q⟩;have s1:=vo c 1;have gc:0<=strm c 1:=s1.1;refine⟨c,2,rfl,by decide,_,iu (k:=0),by decide,swD (λh=>q 0 (by decide)) λh=>⟨_,iu (k:=0),by decide,swD (λh=>⟨_,iu (k:=1),by decide,?_⟩) λh=>⟨_,iu (k:=1),by decide,?_⟩⟩⟩
 .have:=q (6+strm c 1%3).toNat (by lia);rw[show(((6+strm c 1%3).toNat:Nat):Int)=6+strm c 1%3 by lia]at this;exact this
 .have:=q (1+strm c 1%5).toNat (by lia);rw[show(((1+strm c 1%5).toNat:Nat):Int)=1+strm c 1%5 by lia]at this;exact this
structure LD where
 sort:Nat
 pay:Rat
 prs:List (Nat×Rat)
abbrev ldT(d:LD):T:=.tup [.int (d.sort:Nat),frR d.pay,.lst (d.prs.map nwT)]
structure LDk(m:Nat)(d:LD):Prop where
 sort:d.sort<5
 pay:Pay d.pay
 few:d.prs.length<=4
 lt:∀p∈d.prs,p.1<m
 nn:∀p∈d.prs,0<=p.2
 one:Dv (d.prs.map (·.2))=1
 dn:∃q:Nat,0<q/\q<=4000/\∀p∈d.prs,p.2.den ∣ q
 s0:d.sort=0\/d.sort=4->∃a,d.prs=[(a,1)]
 s1:d.sort=1->∃a b x,d.prs=[(a,x),(b,1-x)]
 s2:d.sort=2->∃rs:List Nat,d.prs=rs.map λr=>(r,mkRat 1 rs.length)
theorem aep{α:Type}(l:List α){n:Nat} : gU l none (some (n:Int))=l.take n:=by
 unfold gU;show(l.drop 0).take (HT.sIx l.length l.length (some (n:Int))-0)=_;rw[HT.Dp,List.drop_zero,Nat.sub_zero];rw[List.take_eq_take_iff];lia
theorem Oq{a b:Int}(hb:0<b):(Rat.divInt a b).den ∣ b.toNat:=by
 have l:=yw (t:=a) (b:=b) (c:=(Int.gcd a b:Nat)) (WS hb) (by have:=oK (a:=a) (b:=b) (WS hb);exact WS this) (by lia) (XZ (oK (WS hb)) hb);have e:=j5 l (WS hb);injection e with e;injection e with _ e2;injection e2 with e2 _;injection e2 with e2;have e2:b.fdiv ((Int.gcd a b:Nat):Int)=((Rat.divInt a b).den:Nat):=e2;have d:((Int.gcd a b:Nat):Int) ∣ b:=T2 a b;rw[Int.fdiv_eq_ediv_of_dvd d]at e2;obtain⟨x,hx⟩:=d;have g0:=oK (a:=a) (b:=b) (WS hb);rw[Int.ediv_eq_of_eq_mul_right (WS g0) hx]at e2;exact Int.natCast_dvd_natCast.mp ⟨(Int.gcd a b:Nat),by rw[<- e2,Int.toNat_of_nonneg (XY hb),Int.mul_comm];exact hx⟩
theorem Xi{S:Int}(hS:S≠0):∀ws:List Int,Dv (ws.map λw=>Rat.divInt w S)=Rat.divInt ws.sum S
 |[]=>by show(0:Rat)=Rat.divInt 0 S;rw[JU]
 |w::ws=>by
  show Rat.divInt w S+Dv (ws.map λw=>Rat.divInt w S)=Rat.divInt (w+ws.sum) S;rw[Xi hS ws,Rat.divInt_add_divInt _ _ hS hS];refine(QU (pN hS hS) hS).mpr ?_
  grind
theorem Ux{n:Nat}(h:0<n):∀k:Nat,Dv (List.replicate k (mkRat 1 n))=mkRat k n
 |0=>by show(0:Rat)=mkRat 0 n;rw[Rat.zero_mkRat]
 |k+1=>by
  rw[List.replicate_succ];show mkRat 1 n+Dv (List.replicate k (mkRat 1 n))=_;rw[Ux h k,Rat.mkRat_add_mkRat _ _ (VT h) (VT h),Rat.mkRat_eq_iff (Nat.mul_ne_zero (VT h) (VT h)) (VT h)]
  push_cast
  grind
theorem aeJ{n:Nat}(h:0<n):mkRat n n=1:=by
 rw[show(1:Rat)=mkRat 1 1 from rfl,Rat.mkRat_eq_iff (VT h) (Nat.succ_ne_zero _)];lia
theorem one_sub{a b:Int}(hb:b≠0):1-Rat.divInt a b=Rat.divInt (b-a) b:=by
 rw[show(1:Rat)=Rat.divInt 1 1 from rfl,Rat.divInt_sub_divInt _ _ (by decide) hb,Tk,Int.mul_one]
theorem R_(x:Rat):1-x=⟨(x.den:Int)-x.num,x.den,x.den_nz,by
  have:=x.reduced;show Nat.Coprime ((x.den:Int)-x.num).natAbs x.den;have h:Int.gcd ((x.den:Int)-x.num) (x.den:Int)=1:=by
   rw[Int.gcd_self_sub_left];exact this
  exact h⟩:=by
 rw[Rat.mk_eq_divInt,<- one_sub (oZ x),rd]
theorem aag(x:Rat):frR (1-x)=.tup [.int ((x.den:Int)-x.num),.int x.den]:=by rw[R_]
theorem ZV(x:Rat):(1-x).den=x.den:=by rw[R_]
theorem LDk.sure{m a so:Nat}{p:Rat}(hso:so=0\/so=4)(ha:a<m)(hp:Pay p):LDk m ⟨so,p,[(a,1)]⟩ :=
 ⟨by show so<5;lia,hp,U1 rfl,by simp[ha],by simp;decide,by simp[Dv];exact Rat.add_zero 1,⟨1,by decide,by decide,by simp⟩,λ_=>⟨_,rfl⟩,(λz=>by have z:so=1:=z;lia),(λz=>by have z:so=2:=z;lia)⟩
theorem LDk.toss{m a b q:Nat}{p x:Rat}(ha:a<m)(hb:b<m)(hp:Pay p)(x0:0<=x)(x1:0<=1-x)(q0:0<q)(q1:q<=4000)(hd:x.den ∣ q):LDk m ⟨1,p,[(a,x),(b,1-x)]⟩ :=
 ⟨U1 rfl,hp,U1 rfl,by simp[ha,hb],by simp[x0,x1],by simp[Dv];grind,⟨q,q0,q1,by simp[hd,ZV]⟩,(λz=>by rcases z with z|z<;>cases z),λ_=>⟨_,_,_,rfl⟩,(λz=>by cases z)⟩
theorem afB{n:Nat}(h:0<n):(mkRat 1 n).den=n:=by
 have e:=Wr h;injection e with e;injection e with _ e;injection e with e _;injection e with e;lia
theorem LDk.even{m:Nat}{p:Rat}{rs:List Nat}(h0:0<rs.length)(h4:rs.length<=4)(hr:∀r∈rs,r<m)(hp:Pay p):LDk m ⟨2,p,rs.map λr=>(r,mkRat 1 rs.length)⟩:=by
 have nn:(0:Rat)<=mkRat 1 rs.length:=by rw[<- Rat.divInt_ofNat];exact Rat.divInt_nonneg (by decide) (X9 _)
 refine⟨U1 rfl,hp,by rw[ak];exact h4,λx hx=>?_,λx hx=>?_,?_,⟨rs.length,h0,by exact aL h4 (by decide),λx hx=>?_⟩,(λz=>by rcases z with z|z<;>cases z),(λz=>by cases z),λ_=>⟨rs,rfl⟩⟩
 .obtain⟨r,h,rfl⟩:=YV.mp hx;exact hr r h
 .obtain⟨r,h,rfl⟩:=YV.mp hx;exact nn
 .rw[WU,show((λx:Nat×Rat=>x.2) ∘ λr=>(r,mkRat 1 rs.length))=λ_=>mkRat 1 rs.length from rfl,List.map_const',Ux h0,aeJ h0]
 .obtain⟨r,h,rfl⟩:=YV.mp hx;rw[afB h0];exact Nat.dvd_refl _
theorem LDk.mix{m:Nat}{p:Rat}{rs:List Nat}{ws:List Int}(hl:ws.length<=4)(hr:∀r∈rs,r<m)(hw:∀w∈ws,0<=w)(le:ws.length<=rs.length)(s0:0<ws.sum)(s1:ws.sum<=4000)(hp:Pay p):LDk m ⟨3,p,(rs.zip ws).map λx=>(x.1,Rat.divInt x.2 ws.sum)⟩:=by
 have m2:(rs.zip ws).map (λx=>x.2)=ws:=List.map_snd_zip le;refine⟨U1 rfl,hp,by rw[ak,VX];lia,λx hx=>?_,λx hx=>?_,?_,⟨ws.sum.toNat,by lia,by lia,λx hx=>?_⟩,(λz=>by rcases z with z|z<;>cases z),(λz=>by cases z),(λz=>by cases z)⟩
 .obtain⟨r,h,rfl⟩:=YV.mp hx;exact hr _ (VS h).1
 .obtain⟨r,h,rfl⟩:=YV.mp hx;exact Rat.divInt_nonneg (hw _ (VS h).2) (XY s0)
 .rw[WU,show((λx:Nat×Rat=>x.2) ∘ λx:Nat×Int=>(x.1,Rat.divInt x.2 ws.sum))=(λw=>Rat.divInt w ws.sum) ∘ λx:Nat×Int=>x.2 from rfl,<- WU,m2,Xi (WS s0)];have e:=one_sub (a:=ws.sum) (b:=ws.sum) (WS s0);rw[Int.sub_self,JU]at e
  grind
 .obtain⟨r,h,rfl⟩:=YV.mp hx;exact Oq s0
theorem aa7:∀{ws:List Int},(∀w∈ws,0<=w)->0<=ws.sum
 |[],_=>by decide
 |w::ws,h=>by
  have:=h w (aO ..);have:=aa7 (ws:=ws) λx hx=>h x (aJ _ hx);rw[List.sum_cons];lia
theorem aco{b:Int} : ∀{ws:List Int},(∀w∈ws,w<=b)->ws.sum<=b*ws.length
 |[],_=>by simp
 |w::ws,h=>by
  have:=h w (aO ..);have:=aco (ws:=ws) λx hx=>h x (aJ _ hx);rw[List.sum_cons,List.length_cons];have:b*((ws.length+1:Nat):Int)=b*ws.length+b:=by grind
  lia
def XH:ST:=λts q=>∃(c:Int)(m:Nat),ts=[.int c,.int (m:Nat)]/\0<m/\m<=1000/\∀d:LD,LDk m d->q (.fz (ldT d))
theorem acM(T:Tx D)(eZ:gT 1 nU j6 qd)(yZ:gT 2 FP uM Nq)(F:Fu PB BL f fd):FT 4 f fd Eo XH:=by
 refine F.okT P_ λaf A outer s H E hr nd=>?_;refine⟨_,(bH (bR 2 (bK eZ (bC (qv 0) (bC bG bF))))
  (bH (bR 3 (cH (bI BL) v8 v8 ["_law_x"] (b_ (mL (qv 2) (iG bG) (iG bG))) (dh (i:=0)) cg (bO cJ (qv 0) (qv 2))))
  (bH (bR 4 (bK yZ (bC (bO Wa (bO cJ (bL (qv 2) bG) bG) bG) (bC (bO dW bG (bO cJ (bL (qv 2) bG) bG)) bF))))
  (bH (bR 5 (QEB.out (Qn (cR (pR (cR (BJ (bL (qv 3) bG)) (cR (pR (cR lD (cR lD lG))) lG))) lG))))
  (bH (cF (bW (go_eq hr.units) (bO cJ (bL (qv 2) bG) bG) bG)
  (bH (bR 6 (bO dW bG (bO cJ (bL (qv 2) bG) bG)))
  (bH (bR 7 (bK yZ (bC (bO cJ (bL (qv 2) bG) (bO dW (qv 6) bG)) (bC (qv 6) bF))))
  (bJ (bR 5 (QEB.out (Qn (cR (pR (cR (BJ (bL (qv 3) bG)) (cR (aie 7) lG))) (cR (pR (cR (BJ (bL (qv 3) bG)) (cR (pR (cR (V4 Wa (BJ (bL (qv 7) bG)) (BJ (bL (qv 7) bG))) (cR (BJ (bL (qv 7) bG)) lG))) lG))) lG))))))))
  bU)
  (bH (cF (bW (go_eq hr.units) (bO cJ (bL (qv 2) bG) bG) bG)
  (bH (bR 3 (mL (qv 3) Ru (iG (bO dW bG (bO cJ (bL (qv 2) bG) bG)))))
  (bJ (mZ (bI BL) v8 v8 ["_law_room"] (b_ (qv 3)) (dh (i:=0)) cg (d9 (bC (qv 0) (bC (d9 (bC bG (bC (bZ eN T.gD WG (bC (qv 4) bF)) bF))) bF))) (jh (i:=5) P_.nd rfl (Or.inl rfl)))))
  bU)
  (bH (cF (bW (go_eq hr.units) (bO cJ (bL (qv 2) bG) bG) bG)
  (bH (jg 8 (cH (bI BL) v8 v8 ["_law_x"] (b_ (mL (qv 2) (iG bG) (iG (bO dW bG (bO cJ (bL (qv 2) bG) bG))))) (dh (i:=0)) cg (bO cJ (qv 0) (bL (dN (bC bG (bC bG (bC bG (bC bG bF))))) (bO cJ (bL (qv 3) bG) bG)))))
  (bH (lM 8 (bO dW (zY 8 (WX bG)) bG) (WX bG))
  (bJ (Pa 8 (mZ (bI BL) v8 v8 ["_law_k"] (eY T.gJ (bC (bZ eN T.gD WG (bC (qv 8) bF)) bF)) (dh (i:=0)) cg (d9 (bC (bL (qv 4) (qv 0)) (bC (bK yZ (bC (bL (qv 9) (qv 0)) (bC (bZ (W3 rfl) T.acd boot_sum (bC (qv 9) bF)) bF))) bF))) (jh (i:=5) P_.nd rfl (Or.inl rfl)))))))
  bU)
  (bJ (bT (d9 (bC (bZ (ad6 rfl) T.akR boot_min (bC (bO cJ (bL (qv 2) bG) bG) (bC bG bF))) (bC (qv 4) (bC (qv 5) bF))))))))))))),?_⟩
 rintro _ R ⟨c,m,rfl,m0,m1,q⟩;have mz:(0:Int)<(m:Nat):=by lia
 have sl:∀k,0<=strm c k/\strm c k<2000000000:=vo c;obtain⟨rm,io,rme⟩ : ∃rm:Nat->Nat,(∀k,rm k<m)/\∀k,strm c k%(m:Nat)=(rm k:Nat):=⟨λk=>(strm c k%(m:Nat)).toNat,λk=>by
  have:=YY (strm c k) mz;have:=Z3 (strm c k) (show((m:Nat):Int)≠0 by exact WS mz);show(strm c k%(m:Nat)).toNat<m;lia,λk=>by
  have:=Z3 (strm c k) (show((m:Nat):Int)≠0 by exact WS mz);show _=((strm c k%(m:Nat)).toNat:Int);lia⟩
 obtain⟨n6,e6,h6⟩ : ∃n6:Nat,strm c 6%6=(n6:Nat)/\n6<6:=⟨(strm c 6%6).toNat,by have:=sl 6;lia,by have:=sl 6;lia⟩;have x6:=iu (c:=c) (n:=13) (k:=6);refine sq7 (λo=>∃(x3 x6 x7 x8:OT)(p:Rat)(prs:List (Nat×Rat)),o=[.fz (.int c),.fz (.int (m:Nat)),.fz (.lst ((jc c 13).map L2.T.int)),x3,.fz (frR p),.fz (.lst (prs.map nwT)),x6,x7,x8]/\LDk m ⟨min n6 4,p,prs⟩) ?_ λY go=>?_
 .rintro _ ⟨x3,x6',x7,x8,p,prs,rfl,hk⟩;refine⟨_,x6,by decide,?_⟩;have:=q ⟨min n6 4,p,prs⟩ hk;rw[show ldT ⟨min n6 4,p,prs⟩=.tup [.int (if(4:Int)<strm c 6%6 then 4 else strm c 6%6),frR p,.lst (prs.map nwT)]by
   show L2.T.tup [.int ((min n6 4:Nat):Int),_,_]=_;rw[e6,show((min n6 4:Nat):Int)=(if(4:Int)<((n6:Nat):Int)then(4:Int)else((n6:Nat):Int))by split<;>lia]]at this
  exact this
 .refine⟨c,13,rfl,by decide,?_⟩;have ec:gU ((jc c 13).map L2.T.int) (some 2) (some 6)=[2,3,4,5].map (λk=>L2.T.int (strm c k)):=rfl;show(gU ((jc c 13).map L2.T.int) (some 2) (some 6)).length<=sizeLine/\iR _ _ _ _ (gU ((jc c 13).map L2.T.int) (some 2) (some 6)) _;rw[ec];refine⟨show 4<=sizeLine by decide,comp_map (λk=>L2.T.int (strm c k)) (λk=>.int (rm k:Nat)) [2,3,4,5] (λk _ N M hN=>⟨mz,by rw[rme];exact hN⟩) ?_⟩;have y0:=sl 0;have y1:=sl 1;refine⟨_,iu (k:=0),by decide,_,iu (k:=1),by decide,_,_,rfl,by lia,g_ (by lia),?_⟩;have hp:Pay (Rat.divInt (strm c 0%61-30) (1+strm c 1%12)):=by
   obtain⟨x,y⟩:=div_pos (a:=strm c 0%61-30) (b:=1+strm c 1%12) (by lia);exact⟨aL y (by lia),by lia⟩
  generalize Rat.divInt (strm c 0%61-30) (1+strm c 1%12)=p at hp ⊢;refine⟨_,rfl,_,x6,by decide,?_⟩;have no:∀{n:Nat}{d:Int},((n6:Nat):Int)≠d->decide (strm c 6%6=d)=false:=λh=>Zp (by rw[e6];exact h);have ye:∀{d:Int},((n6:Nat):Int)=d->decide (strm c 6%6=d)=true:=λh=>Zs (by rw[e6];exact h);obtain h0|rfl|rfl|rfl:(n6=0\/n6=4\/n6=5)\/n6=1\/n6=2\/n6=3:=by lia
  .refine swF (no (n:=0) (by lia)) ⟨_,x6,by decide,swF (no (n:=0) (by lia)) ⟨_,x6,by decide,swF (no (n:=0) (by lia)) (go _ ⟨_,_,_,_,p,[(rm 2,1)],rfl,.sure (by lia) (io 2) hp⟩)⟩⟩
  .have x8:=sl 8;have x9:=sl 9;refine swT (ye rfl) ?_;refine⟨_,iu (k:=8),by decide,_,iu (k:=9),by lia,_,_,rfl,by lia,g_ (by lia),_,rfl,_,rfl,?_⟩;obtain⟨b,eb,b0,b1⟩ : ∃b:Int,1+strm c 8%6=b/\0<b/\b<=6:=⟨_,rfl,by lia,by lia⟩;rw[eb];have a0:=Z3 (strm c 9) (show b+1≠0 by lia);have a1:=YY (strm c 9) (show 0<b+1 by exact Int.lt_trans b0 (Int.lt_succ _));generalize strm c 9%(b+1)=a at a0 a1 ⊢;have nn:0<=Rat.divInt a b:=Rat.divInt_nonneg a0 (XY b0);have l1:0<=1-Rat.divInt a b:=by rw[one_sub (WS b0)];exact Rat.divInt_nonneg (by lia) (XY b0)
   have dd:=Oq (a:=a) b0;generalize Rat.divInt a b=x at nn l1 dd ⊢;refine⟨_,x6,by decide,swF (no (n:=0) (by decide)) ⟨_,x6,by decide,swF (no (n:=0) (by decide)) (go _ ⟨.fz (.lst ([2,3,4,5].map λk=>L2.T.int (rm k:Nat))),.fz (.int b),.fz (frR x),.und,p,[(rm 2,x),(rm 3,1-x)],?_,LDk.toss (io 2) (io 3) hp nn l1 (show 0<b.toNat by lia) (by lia) dd⟩)⟩⟩;rw[show[(rm 2,x),(rm 3,1-x)].map nwT=[.tup [.int (rm 2:Nat),frR x],.tup [.int (rm 3:Nat),frR (1-x)]]from rfl,aag]
   rfl
  .have x7:=sl 7;obtain⟨n,en,n0,n4⟩ : ∃n:Nat,1+strm c 7%4=(n:Nat)/\0<n/\n<=4:=⟨(1+strm c 7%4).toNat,by lia,by lia,by lia⟩;refine swF (no (n:=0) (by decide)) ⟨_,x6,by decide,swT (ye rfl) ?_⟩;refine⟨_,iu (k:=7),by decide,?_⟩;show(gU ([2,3,4,5].map λk=>L2.T.int (rm k:Nat)) none (some (1+strm c 7%4))).length<=sizeLine/\iR _ _ _ _ (gU ([2,3,4,5].map λk=>L2.T.int (rm k:Nat)) none (some (1+strm c 7%4))) _;have ec2:gU ([2,3,4,5].map λk=>L2.T.int (rm k:Nat)) none (some (1+strm c 7%4))=(([2,3,4,5].map rm).take n).map λr:Nat=>L2.T.int (r:Nat):=by
    rw[en,aep,List.map_take,WU]
    rfl
   have rl:(([2,3,4,5].map rm).take n).length=n:=by rw[aY];show min n 4=n;lia
   have rlt:∀r∈([2,3,4,5].map rm).take n,r<m:=λr hr=>by
    obtain⟨k,_,rfl⟩:=YV.mp (List.mem_of_mem_take hr);exact io k
   rw[ec2];generalize([2,3,4,5].map rm).take n=rs at rl rlt ⊢;have r0:0<rs.length:=by lia
   have e2:(rs.map λr=>(r,mkRat 1 rs.length)).map nwT=rs.map λr=>nwT (r,mkRat 1 rs.length):=by rw[WU];rfl
   refine⟨by rw[ak];exact aL (show _<=4 by exact aL (WJ rl) n4) (by decide),comp_map (λr:Nat=>L2.T.int (r:Nat)) (λr=>nwT (r,mkRat 1 rs.length)) rs (λr hr N M hN=>?_) ⟨_,x6,by decide,swF (no (n:=0) (by decide)) (go _ ⟨.fz (.lst (rs.map λr:Nat=>L2.T.int (r:Nat))),.und,.und,.und,p,rs.map λr=>(r,mkRat 1 rs.length),by rw[e2];rfl,LDk.even r0 (aL (WJ rl) n4) rlt hp⟩)⟩⟩;rw[show nwT (r,mkRat 1 rs.length)=.tup [.int (r:Nat),frR (mkRat 1 rs.length)]from rfl,Wr r0,<- ak (f:=λr:Nat=>L2.T.int (r:Nat))]at hN;exact hN
  .have x7:=sl 7;have x12:=sl 12;obtain⟨n,en,n0,n4⟩ : ∃n:Nat,9+strm c 7%4=((8+n:Nat):Int)/\0<n/\n<=4:=⟨(1+strm c 7%4).toNat,by lia,by lia,by lia⟩;refine swF (no (n:=0) (by decide)) ⟨_,x6,by decide,swF (no (n:=0) (by decide)) ⟨_,x6,by decide,swT (ye rfl) ?_⟩⟩;refine⟨_,iu (k:=7),by decide,?_⟩;show(gU ((jc c 13).map L2.T.int) (some 8) (some (9+strm c 7%4))).length<=sizeLine/\iR _ _ _ _ (gU ((jc c 13).map L2.T.int) (some 8) (some (9+strm c 7%4))) _;have ec3:gU ((jc c 13).map L2.T.int) (some 8) (some (9+strm c 7%4))=(((jc c 13).drop 8).take n).map L2.T.int:=by
    rw[en,Ag];have:=Xo (ys:=jc c 13) (a:=8) (b:=8+n) (X1 _ _) (by rw[ak,WP];lia);rw[show 8+n-8=n by exact TR _ _]at this;exact ZH (List.map L2.T.int) this
   have ul:(((jc c 13).drop 8).take n).length=n:=by rw[aY,U2,ak,WP];lia
   rw[ec3];generalize((jc c 13).drop 8).take n=us at ul ⊢;obtain⟨d,hd,ed⟩:=agj [3,3,3,1000] L2.T.int (i:=strm c 12%4) (Z3 _ (by decide)) (by show strm c 12%4<4;exact YY _ (by decide));have d0:0<d/\d<=1000:=by simp at hd;lia
   refine⟨by rw[ak];exact aL (show _<=4 by exact aL (WJ ul) n4) (by decide),comp_map L2.T.int (λx=>L2.T.int (x%d)) us (λx hx N M hN=>⟨_,iu (k:=12),by decide,_,ed,d0.1,hN⟩) ?_⟩;have em:us.map (λx=>L2.T.int (x%d))=(us.map (· % d)).map L2.T.int:=by rw[WU];rfl
   rw[em];have wl:(us.map (· % d)).length=n:=by rw[ak];exact ul
   have ww:∀w∈us.map (· % d),0<=w/\w<1000:=λw hw=>by
    obtain⟨x,_,rfl⟩:=YV.mp hw;have:=Z3 x (show d≠0 by lia);have:=YY x d0.1;lia
   generalize us.map (· % d)=ws at wl ww ⊢;obtain⟨vs,v,rfl⟩ : ∃vs v,ws=vs++[v]:=by
    rcases List.eq_nil_or_concat ws with rfl|⟨vs,v,e⟩
    .cases wl;cases n0
    .exact⟨vs,v,by rw[e,List.concat_eq_append]⟩
   rw[aA,List.length_singleton]at wl;have ixl:ixT ((vs++[v]).map L2.T.int) (-1)=some (.int v):=by
    show nth ((vs++[v]).map L2.T.int).reverse 0=_;rw[bf,List.reverse_append]
    rfl
   have ixn:ixN ((vs++[v]).map L2.T.int).length (-1)=some vs.length:=by
    unfold ixN;rw[ak,aA,List.length_singleton];rw[ZZ (by decide),ZY (by lia)]
    congr 1
    lia
   refine⟨_,ixl,_,ixn,?_⟩;have es:((vs++[v]).map L2.T.int).set vs.length (.int (v+1))=(vs++[v+1]).map L2.T.int:=by
    rw[bf,bf,List.set_append_right _ _ (by rw[ak];exact aG _),ak,Nat.sub_self]
    rfl
   dsimp only[frz];rw[es];have ku:(vs++[v+1]).length=n:=by rw[aA,List.length_singleton];exact wl
   have kr:∀w∈vs++[v+1],0<=w/\w<=1000:=λw hw=>by
    rcases Y1.mp hw with z|z
    .have:=ww w (UQ _ z);lia
    .have:=ww v (aP _ (YR.mpr rfl));rw[YR.mp z];lia
   have s0:0<(vs++[v+1]).sum:=by
    have:0<=vs.sum:=aa7 λw hw=>(ww w (UQ _ hw)).1;have:=(ww v (aP _ (YR.mpr rfl))).1;rw[List.sum_append];show 0<vs.sum+(v+1+0);lia
   have s1:(vs++[v+1]).sum<=1000*(vs++[v+1]).length:=aco λw hw=>(kr w hw).2;generalize vs++[v+1]=us at ku kr s0 s1 ⊢;have ul':(us.map L2.T.int).length=us.length:=ak ..;have r4:∀k,k<4->([2,3,4,5].map rm)[k]?=some (rm (k+2)):=λk hk=>by
    obtain rfl|rfl|rfl|rfl:k=0\/k=1\/k=2\/k=3:=by lia
    all_goals rfl
   have z:∀k(hk:k<us.length),((([2,3,4,5].map rm).zip us).map λx=>(x.1,Rat.divInt x.2 us.sum))[k]?=some (rm (k+2),Rat.divInt (us.getD k 0) us.sum):=λk hk=>by
    rw[aq,List.getElem?_zip_eq_some (z:=(rm (k+2),us.getD k 0)) |>.mpr ⟨r4 k (by lia),by rw[au,aj hk];rfl⟩]
    rfl
   have ep:(List.range (us.map L2.T.int).length).map (λk=>nwT (rm (k+2),Rat.divInt (us.getD k 0) us.sum))=((([2,3,4,5].map rm).zip us).map λx=>(x.1,Rat.divInt x.2 us.sum)).map nwT:=by
    refine List.ext_getElem? λk=>?_;rw[ul'];by_cases hk:k<us.length
    .rw[aq,VZ hk,aq,z k hk]
     rfl
    .rw[aM (by rw[ak,WP];exact VU hk),aM (by rw[ak,ak,VX];omega)]
   refine⟨⟨by lia,by lia⟩,by rw[rng,ak,WP];exact aL (show _<=4 by lia) (by decide),N_ (λk=>nwT (rm (k+2),Rat.divInt (us.getD k 0) us.sum)) (us.map L2.T.int).length (λk hk N M hN=>?_) (go _ ⟨.fz (.lst ([2,3,4,5].map λk=>L2.T.int (rm k:Nat))),.und,.und,.fz (.lst (us.map L2.T.int)),p,(([2,3,4,5].map rm).zip us).map λx=>(x.1,Rat.divInt x.2 us.sum),by rw[ep];rfl,LDk.mix (rs:=[2,3,4,5].map rm) (aL (WJ ku) n4) (λr hr=>?_) (λw hw=>(kr w hw).1) (show us.length<=4 by exact aL (WJ ku) n4) s0 (by lia) hp⟩)⟩
   .rw[ul']at hk;have ek:us[k]?=some (us.getD k 0):=by rw[au,aj hk];rfl
    have e4:=r4 k (by lia);rw[aq]at e4;refine⟨.int (rm (k+2):Nat),?_,_,cW ek,us,rfl,_,_,rfl,s0,g_ (by lia),hN⟩;show nth _ k=_;rw[vR,aq];cases z2:([2,3,4,5] : List Nat)[k]? with
    |none=>rw[z2]at e4;cases e4
    |some j=>rw[z2]at e4;injection e4 with e4;show some (L2.T.int (rm j:Nat))=_;rw[show rm j=rm (k+2)from e4]
   .obtain⟨k,_,rfl⟩:=YV.mp hr;exact io k
structure DSk(m mo:Nat)(am:List (List LD)):Prop where
 len:am.length=m
 few:∀ds∈am,ds.length<=mo
 ok:∀ds∈am,∀d∈ds,LDk m d
abbrev dsT(am:List (List LD)):List (List T):=am.map λds=>ds.map ldT
abbrev ad7(am:List (List LD)):T:=.lst (am.map λds=>.lst (ds.map ldT))
theorem aeE(am:List (List LD)):frz (.l2 (dsT am))=ad7 am:=by
 show L2.T.lst ((am.map λds=>ds.map ldT).map L2.T.lst)=_;rw[WU]
 rfl
theorem DSk.add{m mo:Nat}{am:List (List LD)}(h:DSk m mo am){k:Nat}{ds:List LD}{d:LD}(e:am[k]?=some ds)(lt:ds.length<mo)(hd:LDk m d):DSk m mo (am.set k (ds++[d])):=by
 refine⟨by rw[WH,h.len],λx hx=>?_,λx hx y hy=>?_⟩
 .rcases List.mem_or_eq_of_mem_set hx with z|rfl
  .exact h.few x z
  .rw[aA,List.length_singleton];exact lt
 .rcases List.mem_or_eq_of_mem_set hx with z|rfl
  .exact h.ok x z y hy
  .rcases Y1.mp hy with z|z
   .exact h.ok ds (aC e) y z
   .rw[YR.mp z];exact hd
theorem af3{am:List (List LD)}{r:Nat}{ds:List LD}(e:am[r]?=some ds):ixT ((dsT am).map L2.T.lst) (r:Nat)=some (.lst (ds.map ldT)):=by
 show nth ((dsT am).map L2.T.lst) r=_;rw[vR,aq,aq,e];rfl
def T8:ST:=λts q=>∃(ns:List Int)(a m mo:Nat),ts=[scT ns,.int (a:Nat),.int (m:Nat),.int (mo:Nat)]/\ns.length<=100/\m<=300/\mo<=1000/\∀am:List (List LD),DSk m mo am->q (.l2 (dsT am))
theorem abH(T:Tx D)(rO:gT 1 Ij Ai R0)(eZ:gT 1 nU j6 qd)(Wk:gT 4 PB Eo XH)(F:Fu Jr Im f fd):FT 5 f fd xY T8:=by
 refine F.okT Vj λaf A outer s H E hr nd=>?_;refine⟨_,(bH (aeD (bI Im) Rr Rr ["_law_k"] (eY T.gJ (bC (qv 2) bF)) (dh (i:=0)) cg (dN bF) (jh (i:=4) Vj.nd rfl (Or.inl rfl)))
  (bH (cF (bW xW (qv 2) bG)
  (bH (bR 5 (bO cJ (bK rO (bC (qv 0) (bC (qv 1) bF))) bG))
  (bH (bR 6 (bK eZ (bC (qv 5) (bC (bO cJ (bO cJ (bO adO (qv 5) bG) bG) (bO dW (bO cY bG (qv 2)) bG)) bF))))
  (bJ (dY (b_ (bO dW (qv 6) (mL (qv 0) (iG (bO dW (qv 1) bG)) (iG (bO dW (qv 1) bG))))) (cj (n:=99) 7)
  (bH (bR 8 (bO cJ (bL (bK eZ (bC (qv 7) (bC bG bF))) bG) (qv 2)))
  (bJ (cF (Pz 4 (bW Jt (bZ eN T.gD WG (bC (bL (qv 4) (qv 8)) bF)) (qv 3)))
  (bJ (adq 4 (qv 8) (bK Wk (bC (qv 7) (bC (qv 2) bF)))))
  bU)))))))
  bU)
  (bJ (jj 4)))),?_⟩
 rintro _ R ⟨ns,a,m,mo,rfl,nl,m1,mo1,q⟩;have e0:(List.range m).map (λ_=>([] : List L2.T))=dsT (List.replicate m []):=by
  unfold dsT;rw[List.map_replicate,List.map_const',WP]
  rfl
 have h0:DSk m mo (List.replicate m []):=⟨aN,λx hx=>by rw[(List.mem_replicate.mp hx).2];exact aZ _,λx hx y hy=>by rw[(List.mem_replicate.mp hx).2]at hy;cases hy⟩;refine⟨⟨by lia,by lia⟩,by rw[rng,ak,WP];exact aL m1 (by decide),Ua (λ_=>[]) m (λk hk N M hN=>hN) ?_⟩;rw[e0];refine swD (λhm=>?_) λhm=>q _ h0;refine⟨ns,a,rfl,nl,by decide,?_⟩;dsimp only[frz];generalize ns.getD a 0%2147483647=fi;have mz:(0:Int)<2*(m:Nat)+1:=by lia
 obtain⟨n,en,n1⟩ : ∃n:Nat,fi*48271%104729%(2*(m:Nat)+1)=(n:Nat)/\n<=2*m:=⟨(fi*48271%104729%(2*(m:Nat)+1)).toNat,by
  have:=Z3 (fi*48271%104729) (show(2*(m:Nat)+1:Int)≠0 by exact WS mz);lia,by
  have:=YY (fi*48271%104729) mz;have:=Z3 (fi*48271%104729) (show(2*(m:Nat)+1:Int)≠0 by exact WS mz);lia⟩
 refine⟨.inr (by constructor<;>decide),by decide,⟨g_ (by decide),g_ (by lia)⟩,mz,fi,n,by rw[en];rfl,by lia,?_⟩;have ec:(jc fi n).map L2.T.int++gU (ns.map L2.T.int) (some ((a:Nat)+1)) (some ((a:Nat)+13))=(jc fi n++gU ns (some ((a:Nat)+1)) (some ((a:Nat)+13))).map L2.T.int:=by rw[Ag,bf]
 have cl:(gU ns (some ((a:Nat)+1)) (some ((a:Nat)+13))).length<=100:=by
  unfold gU;rw[aY,U2];lia
 show((jc fi n).map L2.T.int).length+(gU (ns.map L2.T.int) (some ((a:Nat)+1)) (some ((a:Nat)+13))).length<=sizeLine/\_;refine⟨?_,?_⟩
 .rw[Ag,ak,ak,ak,WP];exact aL (show _<=1100 by lia) (by decide)
 dsimp only[frz];rw[ec];have sl:(jc fi n++gU ns (some ((a:Nat)+1)) (some ((a:Nat)+13))).length<=1100:=by rw[aA,ak,WP];lia
 generalize jc fi n++gU ns (some ((a:Nat)+1)) (some ((a:Nat)+13))=cs at sl ⊢;generalize jc fi n=ss at ec ⊢;refine fM L2.T.int cs (λ_ o=>∃(am:List (List LD))(x7 x8:OT),o=[.fz (scT ns),.fz (.int (a:Nat)),.fz (.int (m:Nat)),.fz (.int (mo:Nat)),.l2 (dsT am),.fz (.int fi),.fz (.lst (ss.map L2.T.int)),x7,x8]/\DSk m mo am) ⟨_,_,_,rfl,h0⟩ ?_ ?_
 .rintro done c rest _ _ ⟨am,x7,x8,rfl,h⟩;dsimp only[hName];have mp:(0:Int)<(m:Nat):=by omega
  obtain⟨r,er0,lr0⟩ : ∃r:Nat,strm c 13%(m:Nat)=(r:Nat)/\r<m:=by
   have h1:=Z3 (strm c 13) (show((m:Nat):Int)≠0 by exact WS hm);have h2:=YY (strm c 13) mp;exact⟨(strm c 13%(m:Nat)).toNat,by lia,by lia⟩
  refine⟨c,14,rfl,by decide,_,iu (k:=13),mp,?_⟩;dsimp only[frz];rw[er0];have lr:r<am.length:=by rw[h.len];exact lr0
  have er:=aj lr;refine⟨_,af3 er,swD (λlt=>?_) λ_=>⟨am,.fz (.int c),.fz (.int (r:Nat)),rfl,h⟩⟩;have lt:((am[r].map ldT).length:Int)<(mo:Nat):=lt;rw[ak]at lt;refine⟨r,am[r].map ldT,?_,by rw[aq,er];rfl,by rw[ak];exact aR (show _<1001 by lia) (by decide),c,m,rfl,by lia,by exact aL m1 (by decide),λd hd=>⟨am.set r (am[r]++[d]),.fz (.int c),.fz (.int (r:Nat)),?_,h.add er (by lia) hd⟩⟩
  .unfold ixN;rw[ak,ZY (X9 _),ZY (by lia)]
   rfl
  .rw[show dsT (am.set r (am[r]++[d]))=(dsT am).set r (am[r].map ldT++[ldT d])by
    unfold dsT;rw[Th,bf]
    rfl]
   rfl
 .rintro _ ⟨am,x7,x8,rfl,h⟩;exact q am h
def Aq(ws:List (Nat×Rat))(p:Nat×Rat):List (Nat×Rat):=if(ws.any λx=>decide (x.1=p.1))=true then ws.map (λx=>if x.1=p.1 then(x.1,x.2+p.2)else x)else ws++[p]
def yF(ps:List (Nat×Rat)):List (Nat×Rat):=ps.foldl Aq []
def uR(ps:List (Nat×Rat)):List (Nat×Rat):=(yF ps).filter λp=>!decide (p.2=0)
abbrev nmP(ns:Φ)(p:Nat×Rat):Str×Rat:=(ns.getD p.1 ⟨#[]⟩,p.2)
theorem RJ{ns:Φ}(nd:ns.Nodup){i j:Nat}(hi:i<ns.length)(hj:j<ns.length):(ns.getD i ⟨#[]⟩=ns.getD j ⟨#[]⟩)↔i=j:=by
 constructor
 .intro h;rw[au,au,aj hi,aj hj]at h;rcases Nat.lt_trichotomy i j with l|l|l
  .exact absurd h ((List.pairwise_iff_getElem.mp nd) i j hi hj l)
  .exact l
  .exact absurd h.symm ((List.pairwise_iff_getElem.mp nd) j i hj hi l)
 .intro h;rw[h]
theorem agF{ns:Φ}(nd:ns.Nodup){ws:List (Nat×Rat)}{p:Nat×Rat}(hw:∀w∈ws,w.1<ns.length)(hp:p.1<ns.length):addW (ws.map (nmP ns)) (nmP ns p)=(Aq ws p).map (nmP ns):=by
 have an:((ws.map (nmP ns)).any λx=>decide (x.1=(nmP ns p).1))=ws.any λx=>decide (x.1=p.1):=by
  rw[List.any_map];refine Bool.eq_iff_iff.mpr ⟨λh=>?_,λh=>?_⟩
  .obtain⟨x,hx,e⟩:=List.any_eq_true.mp h;exact List.any_eq_true.mpr ⟨x,hx,Zs ((RJ nd (hw x hx) hp).mp (of_decide_eq_true e))⟩
  .obtain⟨x,hx,e⟩:=List.any_eq_true.mp h;exact List.any_eq_true.mpr ⟨x,hx,Zs ((RJ nd (hw x hx) hp).mpr (of_decide_eq_true e))⟩
 unfold addW Aq;rw[an];split
 .rw[WU,WU];refine US λx hx=>?_;show(if(nmP ns x).1=(nmP ns p).1 then _ else _)=nmP ns (if x.1=p.1 then _ else _);by_cases e:x.1=p.1
  .rw[ZY e,ZY ((RJ nd (hw x hx) hp).mpr e)]
  .rw[ZZ e,ZZ λz=>e ((RJ nd (hw x hx) hp).mp z)]
 .rw[bf];rfl
theorem Ik{ws:List (Nat×Rat)}{p w:Nat×Rat}(h:w∈Aq ws p):(w∈ws/\w.1≠p.1)\/w=p\/∃x∈ws,x.1=p.1/\w=(x.1,x.2+p.2):=by
 unfold Aq at h;split at h
 .obtain⟨x,hx,rfl⟩:=YV.mp h;by_cases e:x.1=p.1
  .rw[ZY e];exact .inr (.inr ⟨x,hx,e,rfl⟩)
  .rw[ZZ e];exact .inl ⟨hx,e⟩
 .rename_i n
  rcases Y1.mp h with z|z
  .exact .inl ⟨z,λe=>n (List.any_eq_true.mpr ⟨w,z,Zs e⟩)⟩
  .exact .inr (.inl (YR.mp z))
theorem Xq{ns:Φ}(nd:ns.Nodup){ps:List (Nat×Rat)}(h:∀p∈ps,p.1<ns.length):kZ (ps.map (nmP ns))=(yF ps).map (nmP ns):=by
 suffices H:∀(ps ws:List (Nat×Rat)),(∀p∈ps,p.1<ns.length)->(∀w∈ws,w.1<ns.length)->(ps.map (nmP ns)).foldl addW (ws.map (nmP ns))=(ps.foldl Aq ws).map (nmP ns)from H ps [] h λ_ z=>(nomatch z)
 intro ps
 induction ps with
 |nil=>exact λ_ _ _=>rfl
 |cons p ps ih =>
  intro ws hp hw;rw[List.map_cons,List.foldl_cons,List.foldl_cons,agF nd hw (hp p (aO ..))];refine ih _ (λq hq=>hp q (aJ _ hq)) λw hm=>?_;rcases Ik hm with⟨z,_⟩|rfl|⟨x,hx,_,rfl⟩
  .exact hw w z
  .exact hp w (aO ..)
  .exact hw x hx
theorem acX{ns:Φ}(nd:ns.Nodup){ps:List (Nat×Rat)}(h:∀p∈ps,p.1<ns.length):Dt (ps.map (nmP ns))=(uR ps).map (nmP ns):=by
 unfold Dt uR;rw[Xq nd h,List.filter_map]
 rfl
theorem O7{r:Rat}{q:Nat}(hq:0<q):r.den ∣ q↔∃x:Int,r=Rat.divInt x q:=by
 constructor
 .rintro⟨k,rfl⟩;refine⟨r.num*k,?_⟩;have hk:((k:Nat):Int)≠0:=λz=>by rw[show k=0 by lia]at hq;lia
  conv=>lhs;rw[<- rd r]
  refine(QU (oZ r) (by push_cast;exact pN (oZ r) hk)).mpr ?_
  push_cast
  grind
 .rintro⟨x,rfl⟩;have:=Oq (a:=x) (b:=(q:Nat)) (by lia);exact this
theorem I9{a b:Rat}{q:Nat}(hq:0<q)(ha:a.den ∣ q)(hb:b.den ∣ q):(a+b).den ∣ q:=by
 obtain⟨x,rfl⟩:=(O7 hq).mp ha;obtain⟨y,rfl⟩:=(O7 hq).mp hb;have h0:((q:Nat):Int)≠0:=by lia
 refine(O7 hq).mpr ⟨x+y,?_⟩;rw[Rat.divInt_add_divInt _ _ h0 h0];refine(QU (pN h0 h0) h0).mpr ?_
 grind
structure JnI(m q:Nat)(as ws:List (Nat×Rat)):Prop where
 nd:(ws.map (·.1)).Nodup
 lt:∀w∈ws,w.1<m
 nn:∀w∈ws,0<=w.2
 dn:∀w∈ws,w.2.den ∣ q
 sum:∀y:Nat->Rat,dw ws y=dw as y
 few:ws.length<=as.length
theorem Vo(as bs:List (Nat×Rat))(y:Nat->Rat):dw (as++bs) y=dw as y+dw bs y:=by
 induction as with
 |nil=>show dw bs y=0+_;rw[Rat.zero_add]
 |cons a as ih=>rw[List.cons_append,dH,dH,ih,Rat.add_assoc]
theorem abU(p:Nat×Rat)(y:Nat->Rat):dw [p] y=p.2*y p.1:=by rw[dH];show _+0=_;rw[Rat.add_zero]
theorem afW{ws:List (Nat×Rat)}{p:Nat×Rat}(nd:(ws.map (·.1)).Nodup)(y:Nat->Rat):dw (Aq ws p) y=dw ws y+p.2*y p.1:=by
 unfold Aq;split
 .rename_i h
  induction ws with
  |nil=>cases h
  |cons x ws ih =>
   obtain⟨n1,n2⟩:=List.nodup_cons.mp nd;rw[List.map_cons,dH,dH];by_cases e:x.1=p.1
   .rw[ZY e];have rest:ws.map (λx=>if x.1=p.1 then(x.1,x.2+p.2)else x)=ws:=by
     conv=>rhs;rw[<- List.map_id ws]
     refine US λz hz=>?_;rw[ZZ λw=>n1 (YV.mpr ⟨z,hz,w.trans e.symm⟩)]
     rfl
    rw[rest,<- e];show(x.2+p.2)*y x.1+dw ws y=_
    grind
   .rw[ZZ e,ih n2 (by
     rw[List.any_cons,Zp e,Bool.false_or]at h;exact h)]
    grind
 .rw[Vo,abU]
theorem afK{ws:List (Nat×Rat)}{p:Nat×Rat}(nd:(ws.map (·.1)).Nodup):((Aq ws p).map (·.1)).Nodup:=by
 unfold Aq;by_cases h:(ws.any λx=>decide (x.1=p.1))=true
 .rw[ZY h,WU];rw[show ws.map ((λx=>x.1) ∘ λx=>if x.1=p.1 then(x.1,x.2+p.2)else x)=ws.map (·.1)from US λx _=>by show(if x.1=p.1 then(x.1,x.2+p.2)else x).1=x.1;split<;>rfl];exact nd
 .rw[ZZ h,bf];refine List.nodup_append.mpr ⟨nd,by simp,λa ha b hb z=>h ?_⟩;obtain⟨x,hx,rfl⟩:=YV.mp ha;rw[List.map_singleton,YR]at hb;exact List.any_eq_true.mpr ⟨x,hx,Zs (z.trans hb)⟩
theorem ad8{m q:Nat}(hq:0<q){as ws:List (Nat×Rat)}{p:Nat×Rat}(hp:p.1<m/\0<=p.2/\p.2.den ∣ q)(h:JnI m q as ws):JnI m q (as++[p]) (Aq ws p):=by
 refine⟨afK h.nd,λw hw=>?_,λw hw=>?_,λw hw=>?_,λy=>by rw[afW h.nd,h.sum,Vo,abU],?_⟩
 .rcases Ik hw with⟨z,_⟩|rfl|⟨x,hx,_,rfl⟩
  .exact h.lt w z
  .exact hp.1
  .exact h.lt x hx
 .rcases Ik hw with⟨z,_⟩|rfl|⟨x,hx,_,rfl⟩
  .exact h.nn w z
  .exact hp.2.1
  .have:=h.nn x hx;have:=hp.2.1;show 0<=x.2+p.2
   grind
 .rcases Ik hw with⟨z,_⟩|rfl|⟨x,hx,_,rfl⟩
  .exact h.dn w z
  .exact hp.2.2
  .exact I9 hq (h.dn x hx) hp.2.2
 .have:=h.few;unfold Aq;split
  .rw[ak,aA];exact aL this (X1 _ _)
  .rw[aA,aA];simp;omega
theorem Nf{m q:Nat}(hq:0<q):∀{ps:List (Nat×Rat)},(∀p∈ps,p.1<m/\0<=p.2/\p.2.den ∣ q)->JnI m q ps (yF ps):=by
 intro ps h
 suffices H:∀(ps as ws:List (Nat×Rat)),(∀p∈ps,p.1<m/\0<=p.2/\p.2.den ∣ q)->JnI m q as ws->JnI m q (as++ps) (ps.foldl Aq ws)from H ps [] [] h ⟨.nil,λ_ z=>(nomatch z),λ_ z=>(nomatch z),λ_ z=>(nomatch z),λ_=>rfl,aG _⟩
 intro ps
 induction ps with
 |nil=>intro as ws _ h;rw[List.append_nil];exact h
 |cons p ps ih =>
  intro as ws hp h;have:=ih (as++[p]) (Aq ws p) (λx hx=>hp x (aJ _ hx)) (ad8 hq (hp p (aO ..)) h);rw[Wp]at this;exact this
theorem Gq(y:Nat->Rat):∀ws:List (Nat×Rat),dw (ws.filter λp=>!decide (p.2=0)) y=dw ws y
 |[]=>rfl
 |w::ws=>by
  by_cases e:w.2=0
  .rw[List.filter_cons_of_neg (by rw[Zs e];decide),Gq y ws,dH,e,Rat.zero_mul,Rat.zero_add]
  .rw[List.filter_cons_of_pos (by rw[Zp e];rfl),dH,dH,Gq y ws]
theorem X8{m q:Nat}(hq:0<q){ps:List (Nat×Rat)}(h:∀p∈ps,p.1<m/\0<=p.2/\p.2.den ∣ q):JnI m q ps (uR ps):=by
 have j:=Nf hq h;have sub:∀w∈uR ps,w∈yF ps:=λw hw=>(List.mem_filter.mp hw).1;refine⟨(List.filter_sublist.map _).nodup j.nd,λw hw=>j.lt w (sub w hw),λw hw=>j.nn w (sub w hw),λw hw=>j.dn w (sub w hw),λy=>?_,aL (List.length_filter_le ..) j.few⟩;unfold uR;rw[Gq,j.sum]
theorem uT{w:Nat×Rat} : ∀{ws:List (Nat×Rat)},(∀w∈ws,0<=w.2)->w∈ws->w.2<=dw ws λ_=>1
 |[],_,h=>by cases h
 |x::ws,nn,h=>by
  rw[dH];have n0:∀ws:List (Nat×Rat),(∀w∈ws,0<=w.2)->0<=dw ws λ_=>1:=λws=>by
   induction ws with
   |nil=>intro _;exact W1
   |cons y ws ih =>
    intro h;rw[dH];have:=h y (aO ..);have:=ih λw hw=>h w (aJ _ hw)
    grind
  rcases YU.mp h with rfl|z
  .have:=n0 ws λw hw=>nn w (aJ _ hw)
   grind
  .have:=uT (ws:=ws) (λw hw=>nn w (aJ _ hw)) z;have:=nn x (aO ..)
   grind
theorem Ir:∀ps:List (Nat×Rat),(dw ps λ_=>1)=Dv (ps.map (·.2))
 |[]=>rfl
 |p::ps=>by
  rw[dH,Ir ps,Rat.mul_one]
  rfl
theorem LDk.all{m:Nat}{d:LD}(h:LDk m d):∃q:Nat,0<q/\q<=4000/\∀p∈d.prs,p.1<m/\0<=p.2/\p.2.den ∣ q:=by
 obtain⟨q,q0,q1,hq⟩:=h.dn;exact⟨q,q0,q1,λp hp=>⟨h.lt p hp,h.nn p hp,hq p hp⟩⟩
theorem aaz{q:Nat}{r:Rat}(q0:0<q)(q1:q<=4000)(h0:0<=r)(h1:r<=1)(hd:r.den ∣ q):Ch r:=⟨h0,h1,g_ (by have:=UY q0 hd;lia)⟩
theorem LDk.prsOk{m:Nat}{d:LD}{ns:Φ}(h:LDk m d)(hn:Nms ns m):Prs (d.prs.map (nmP ns)):=by
 obtain⟨q,q0,q1,hq⟩:=h.all;have le1:∀p∈d.prs,p.2<=1:=λp hp=>by
  rw[<- h.one,<- Ir];exact uT h.nn hp
 have few:=h.few;have m2:(d.prs.map (nmP ns)).map (·.2)=d.prs.map (·.2):=by rw[WU];rfl
 refine⟨by rw[ak];exact aL few (by decide),λp hp=>?_,?_,by rw[m2];exact h.one,λas a bs e=>?_⟩
 .obtain⟨x,hx,rfl⟩:=YV.mp hp;obtain⟨x1,x2,x3⟩:=hq x hx;have lx:x.1<ns.length:=by rw[hn.len];exact x1
  refine⟨hn.wd _ ?_,aaz q0 q1 x2 (le1 x hx) x3⟩;show ns.getD x.1 ⟨#[]⟩∈ns;rw[au,aj lx];exact aU lx
 .rw[m2];have:=vm (d.prs.map (·.2)) (n:=1) (m:=q) (T1 _) λr hr=>by
   obtain⟨x,hx,rfl⟩:=YV.mp hr;exact(hq x hx).2.2
  have:=UY q0 this;exact g_ (by lia)
 .obtain⟨fA,bs',e0,rfl,e2⟩:=List.map_eq_append_iff.mp e;obtain⟨a',cs',rfl,rfl,rfl⟩:=List.map_eq_cons_iff.mp e2;have sub:∀p∈fA,p∈d.prs:=λp hp=>e0 ▸ UQ _ hp;have ha:=hq a' (e0 ▸ aP _ (aO ..));have ca:Ch a'.2:=aaz q0 q1 ha.2.1 (le1 a' (e0 ▸ aP _ (aO ..))) ha.2.2;have j:=Nf q0 (ps:=fA) (m:=m) λp hp=>hq p (sub p hp);rw[Xq hn.nd λp hp=>by rw[hn.len];exact(hq p (sub p hp)).1];have cn:Ch (B_ ((yF fA).map (nmP ns)) (nmP ns a').1):=by
   unfold B_;cases ef:((yF fA).map (nmP ns)).find? λx=>decide (x.1=(nmP ns a').1)with
   |none=>exact⟨W1,by show(0:Rat)<=1;decide,g_ (by decide)⟩
   |some x =>
    obtain⟨y,hy,rfl⟩:=YV.mp (List.mem_of_find?_eq_some ef);refine aaz q0 q1 (j.nn y hy) ?_ (j.dn y hy);have l1:=uT j.nn hy;rw[j.sum]at l1;have l2:=h.one;rw[<- Ir,e0,Vo]at l2;have l3:0<=dw (a'::cs') λ_=>1:=by
     have:∀ws:List (Nat×Rat),(∀w∈ws,0<=w.2)->0<=dw ws λ_=>1:=λws=>by
      induction ws with
      |nil=>intro _;exact W1
      |cons y ws ih =>
       intro h;rw[dH];have:=h y (aO ..);have:=ih λw hw=>h w (aJ _ hw)
       grind
     exact this _ λw hw=>h.nn w (e0 ▸ aP _ hw)
    show y.2<=1
    grind
  refine⟨cn.bq,ca.bq,?_⟩;have:=cn.2.2;have:=UY q0 ha.2.2;have nh:(B_ ((yF fA).map (nmP ns)) (nmP ns a').1).den<=4000:=by
   unfold B_;cases ef:((yF fA).map (nmP ns)).find? λx=>decide (x.1=(nmP ns a').1)with
   |none=>exact U1 rfl
   |some x =>
    obtain⟨y,hy,rfl⟩:=YV.mp (List.mem_of_find?_eq_some ef);have:=UY q0 (j.dn y hy);exact aL this q1
  refine g_ ?_;rw[Up,XT,XT];exact Y3 (UZ nh (show a'.2.den<=4000 by exact aL this q1)) (by decide)
def clsOf(D:Adr):Nat->Addr
 |1=>D.Toss
 |2=>D.Even
 |3=>D.Mixed
 |_=>D.Sure
abbrev ah9(t:Str)(d:LD):bN:=⟨t,d.pay,uR d.prs⟩
abbrev xu(D:Adr)(t:Str)(d:LD):Made:=⟨clsOf D d.sort,ah9 t d⟩
theorem acD(D:Adr):∀k,dg D (clsOf D k)
 |0=>by unfold dg clsOf;simp
 |1=>by unfold dg clsOf;simp
 |2=>by unfold dg clsOf;simp
 |3=>by unfold dg clsOf;simp
 |_+4=>by unfold dg clsOf;simp
def Uc(D:Adr):ST:=λts q=>∃(t:Str)(d:LD)(ns:Φ)(m:Nat),ts=[.str t,ldT d,.lst (ns.map T.str)]/\Wd t/\Nms ns m/\LDk m d/\q (.fz (mdT ns (xu D t d)))
theorem aaL(T:Tx D)(yG:OkI P w K mg base CX0 5 D.Sure_init mK (spI K (Yp D)))(fu:OkI P w K mg base CX0 5 D.Mixed_init gF (spI K (Dc D)))(zJ:OkI P w K mg base CX0 6 D.Toss_init m5 (spI K (XF D)))(yC:OkI P w K mg base CX0 6 D.Even_init m9 (spI K (Yi D)))(F:Fu Jd Eb f fd):FT 8 f fd xM (Uc D):=by
 refine F.okT Vh λaf A outer s H E hr nd=>?_;refine⟨_,(bH (W2 (qv 1) (fB (n:=3) (bQ (cj (n:=99) 4) (bQ (cj (n:=99) 5) (bQ (cj (n:=99) 6) dG)))))
  (bH (mZ (bI Eb) DQ DQ ["_law_room","_law_chance"] (b_ (qv 6)) (fB (n:=2) (bQ (dh (i:=0)) (bQ (dh (i:=1)) dG))) cg (d9 (bC (bL (qv 4) (qv 0)) (bC (qv 1) bF))) (jh (i:=3) Vh.nd rfl (Or.inl rfl)))
  (bH (cF (bW (go_eq hr.units) (qv 4) bG)
  (bJ (bT (Eh T.aef zJ T.agO (bC (qv 0) (bC (qv 5) (bC (bL (bL (qv 3) bG) bG) (bC (bL (bL (qv 3) bG) bG) (bC (bL (bL (qv 3) bG) bG) bF))))))))
  bU)
  (bH (cF (bW (go_eq hr.units) (qv 4) bG)
  (bJ (bT (Eh T.adP yC T.agp (bC (qv 0) (bC (qv 5) (bC (cH (bI Eb) DQ DQ ["_law_room","_law_chance"] (b_ (qv 3)) (fB (n:=2) (bQ (dh (i:=0)) (bQ (dh (i:=1)) dG))) cg (qv 0)) bF))))))
  bU)
  (bH (cF (bW (go_eq hr.units) (qv 4) bG)
  (bJ (bT (Eh T.aaQ fu T.Rm (bC (qv 0) (bC (qv 5) (bC (qv 3) bF))))))
  bU)
  (bJ (bT (Eh T.ad9 yG T.agy (bC (qv 0) (bC (qv 5) (bC (bL (bL (qv 3) bG) bG) bF))))))))))),?_⟩
 rintro _ R ⟨t,d,ns,m,rfl,wt,hn,hd,q⟩;have few:=hd.few;have en:∀p∈d.prs,ixT (ns.map L2.T.str) (p.1:Nat)=some (.str (nmP ns p).1):=λp hp=>by
  have lp:p.1<ns.length:=by rw[hn.len];exact hd.lt p hp
  exact cW (by rw[aj lp];show _=some (ns.getD p.1 ⟨#[]⟩);rw[au,aj lp];rfl)
 have em:(d.prs.map (nmP ns)).map wyT=d.prs.map λp=>wyT (nmP ns p):=by rw[WU];rfl
 have pk:=hd.prsOk hn;have wk:=acX hn.nd (ps:=d.prs) λp hp=>by rw[hn.len];exact hd.lt p hp
 refine⟨rfl,by rw[ak];exact aL few (by decide),comp_map nwT (λp=>wyT (nmP ns p)) d.prs (λp hp N M hN=>⟨rfl,_,en p hp,hN⟩) ?_⟩;rw[<- em];obtain⟨so,pay,prs⟩:=d;have s4:so<5:=hd.sort;have s0:=hd.s0;have s1:=hd.s1;have s2:=hd.s2;dsimp only at *;obtain rfl|rfl|rfl|rfl|rfl:so=0\/so=4\/so=1\/so=2\/so=3:=by lia
 .obtain⟨a,rfl⟩:=s0 (.inl rfl);have e1:uR [(a,1)]=[(a,1)]:=by simp[uR,yF,Aq]
  have q':R (.fz (drT D.Sure t pay ([(a,1)].map (nmP ns)))):=by rw[<- e1];exact q
  exact⟨_,rfl,t,_,pay,rfl,rfl,Tn D,rfl,wt,(pk.ok (nmP ns (a,1)) (YR.mpr rfl)).1,q'⟩
 .obtain⟨a,rfl⟩:=s0 (.inr rfl);have e1:uR [(a,1)]=[(a,1)]:=by simp[uR,yF,Aq]
  have q':R (.fz (drT D.Sure t pay ([(a,1)].map (nmP ns)))):=by rw[<- e1];exact q
  exact⟨_,rfl,t,_,pay,rfl,rfl,Tn D,rfl,wt,(pk.ok (nmP ns (a,1)) (YR.mpr rfl)).1,q'⟩
 .obtain⟨a,b,x,rfl⟩:=s1 rfl;have q':R (.fz (drT D.Toss t pay (Dt ([(a,x),(b,1-x)].map (nmP ns))))):=by rw[wk];exact q
  exact⟨_,rfl,_,rfl,_,rfl,t,_,_,pay,x,rfl,rfl,acf D,rfl,wt,(pk.ok (nmP ns (a,x)) (aO ..)).2,pk,q'⟩
 .obtain⟨rs,rfl⟩:=s2 rfl;have q':R (.fz (drT D.Even t pay (Dt ((rs.map λr=>(r,mkRat 1 rs.length)).map (nmP ns))))):=by rw[wk];exact q
  have ev:even (((rs.map λr=>(r,mkRat 1 rs.length)).map (nmP ns)).map (·.1))=(rs.map λr=>(r,mkRat 1 rs.length)).map (nmP ns):=by
   have el:(((rs.map λr=>(r,mkRat 1 rs.length)).map (nmP ns)).map (·.1)).length=rs.length:=by simp
   unfold even;rw[el];simp[Function.comp_def]
  refine⟨by rw[ak,ak];exact aL few (by decide),comp_map wyT (λp=>.str p.1) ((rs.map λr=>(r,mkRat 1 rs.length)).map (nmP ns)) (λp hp N M hN=>⟨rfl,hN⟩) ⟨t,pay,((rs.map λr=>(r,mkRat 1 rs.length)).map (nmP ns)).map (·.1),rfl,rfl,abu D,?_,wt,by rw[ev];exact pk,?_⟩⟩
  .rw[show(((rs.map λr=>(r,mkRat 1 rs.length)).map (nmP ns)).map (·.1)).map L2.T.str=((rs.map λr=>(r,mkRat 1 rs.length)).map (nmP ns)).map λp=>L2.T.str p.1 from WU]
   rfl
  .rw[ev];exact q'
 .have q':R (.fz (drT D.Mixed t pay (Dt (prs.map (nmP ns))))):=by rw[wk];exact q
  exact⟨t,pay,prs.map (nmP ns),rfl,rfl,ZX D,rfl,wt,pk,q'⟩
structure afj(am:List (List LD))(off:List (List bN)):Prop where
 len:off.length=am.length
 at_:∀(k:Nat)ds os,am[k]?=some ds->off[k]?=some os->∃tl:Φ,tl.length=ds.length/\os=(tl.zip ds).map λp=>ah9 p.1 p.2
theorem T6{α β:Type} : ∀{xs:List α}{ys:List β}{x:α}(y:β),xs[ys.length]?=some x->xs.zip (ys++[y])=xs.zip ys++[(x,y)]
 |[],ys,_,_,e=>by cases e
 |a::xs,[],x,y,e=>by cases e;simp
 |a::xs,b::ys,x,y,e=>by
  rw[List.cons_append,List.zip_cons_cons,List.zip_cons_cons,T6 (xs:=xs) (ys:=ys) y (by simpa using e)]
  rfl
def X_(D:Adr):ST:=λts q=>∃(c:Int)(s:Rat)(m mo:Nat)(am:List (List LD)),ts=[.int c,frR s,ad7 am]/\Shr s/\DSk m mo am/\m<=26/\mo<=26/\∀ns off,Nms ns m->Qs ns off->afj am off->q (.fz (hlT D s ns off))
theorem aeO(T:Tx D)(Iz:gT 2 Jm wZ SJ)(Oz:gT 8 Jd xM (Uc D))(zN:OkI P w K mg base CX0 4 D.Hall_init mW (spI K (Xu D)))(F:Fu Od RM f fd):FT 9 f fd Cz (X_ D):=by
 refine F.okT ad3 λaf A outer s H E hr nd=>?_;refine⟨_,(bH (bR 3 (bK Iz (bC (qv 0) (bC (bZ eN T.gD WG (bC (qv 2) bF)) bF))))
  (bH (jg 4 (dN bF))
  (bH (dY (eY T.gJ (bC (bZ eN T.gD WG (bC (qv 2) bF)) bF)) (cj (n:=99) 5)
  (bH (bR 6 (bK Iz (bC (bO dW (qv 0) (qv 5)) (bC (bZ eN T.gD WG (bC (bL (qv 2) (qv 5)) bF)) bF))))
  (bJ (yD 4 (d9 (bC (bL (qv 3) (qv 5)) (bC (cH (bI RM) W8 W8 ["_law_title","_law_door_here"] (Ke T.UJ (bC (qv 6) (bC (bL (qv 2) (qv 5)) bF))) (fB (n:=2) (bQ (dh (i:=0)) (bQ (dh (i:=1)) dG))) cg (bK Oz (bC (qv 0) (bC (qv 1) (bC (qv 5) bF))))) bF)))))))
  (bJ (Pa 4 (bT (Eh T.aea zN T.afs (bC (qv 1) (bC (qv 4) bF))))))))),?_⟩
 rintro _ R ⟨c,s,m,mo,am,rfl,hs,hd,m1,mo1,q⟩;have dl:(am.map λds=>L2.T.lst (ds.map ldT)).length=m:=by rw[ak,hd.len]
 refine⟨c,m,by rw[<- dl];rfl,m1,λns hn=>?_⟩;have nl:=hn.len;have e0:Br ns []=[]:=by simp[Br]
 refine⟨⟨by rw[dl];lia,by rw[dl];lia⟩,uU (λk o=>∃(ms:List (List Made))(x5 x6:OT),o=[.fz (.int c),.fz (frR s),.fz (ad7 am),.fz (.lst (ns.map L2.T.str)),.l1 (Br ns ms),x5,x6]/\ms.length=k/\∀(i:Nat)ds x,am[i]?=some ds->ms[i]?=some x->∃tl,Nms tl ds.length/\x=(tl.zip ds).map λp=>xu D p.1 p.2) ⟨[],.und,.und,by rw[e0];rfl,rfl,λi ds x _ z=>by cases z⟩ ?_ ?_⟩
 .rintro k _ hk ⟨ms,x5,x6,rfl,lm,hm⟩;have hk:k<m:=by rw[dl]at hk;lia
  have lk:k<am.length:=by rw[hd.len];exact hk
  have ek:=aj lk;have mem:=aU lk;have fk:=hd.few _ mem;have exk:ixT (am.map λds=>L2.T.lst (ds.map ldT)) (k:Nat)=some (.lst (am[k].map ldT)):=cW ek;have nk:ns[k]?=some (ns.getD k ⟨#[]⟩):=by rw[au,aj (by lia)];rfl
  refine⟨_,exk,c+k,am[k].length,by rw[<- ak (as:=am[k]) (f:=ldT)];rfl,by exact aL fk mo1,λtl ht=>?_⟩;refine⟨_,cW nk,_,exk,?_⟩;have zl:(tl.zip am[k]).length<=26:=by rw[VX];lia
  show(Gj (tl.map L2.T.str) (am[k].map ldT)).length<=sizeLine/\iR _ _ _ _ (Gj (tl.map L2.T.str) (am[k].map ldT)) _;rw[JR];refine⟨by rw[ak];exact aL zl (by decide),comp_map (λp=>.tup [.str p.1,ldT p.2]) (λp=>mdT ns (xu D p.1 p.2)) (tl.zip am[k]) (λp hp N M hN=>⟨rfl,p.1,p.2,ns,m,rfl,ht.wd _ (VS hp).1,hn,hd.ok _ mem _ (VS hp).2,hN⟩) ⟨?_,ms++[(tl.zip am[k]).map λp=>xu D p.1 p.2],.fz (.int (k:Nat)),.fz (.lst (tl.map L2.T.str)),?_,by rw[aA,lm];rfl,λi ds x e1 e2=>?_⟩⟩
  .rw[ak,VX];exact aR (show _<1000 by lia) (by decide)
  .rw[show Br ns (ms++[(tl.zip am[k]).map λp=>xu D p.1 p.2])=Br ns ms++[.tup [.str (ns.getD k ⟨#[]⟩),.lst ((tl.zip am[k]).map λp=>mdT ns (xu D p.1 p.2))]]by
    unfold Br;rw[T6 (x:=ns.getD k ⟨#[]⟩) _ (by rw[lm];exact nk),bf,List.map_singleton]
    congr 2
    show rmT (_,((tl.zip am[k]).map λp=>xu D p.1 p.2).map (mdT ns))=_;rw[WU]
    rfl]
   rfl
  .by_cases hi:i<ms.length
   .rw[aF hi]at e2;exact hm i ds x e1 e2
   .have li:=(ao.mp e2).1;rw[aA,List.length_singleton]at li;have:i=k:=by lia
    subst this;rw[aD (WJ lm),show i-ms.length=0 by lia]at e2;cases e2;rw[ek]at e1;cases e1;exact⟨tl,ht,rfl⟩
 .rintro _ ⟨ms,x5,x6,rfl,lm,hm⟩;have lm:ms.length=m:=by rw[lm];exact dl
  have all:∀x∈ms,∃ds∈am,∃tl,Nms tl ds.length/\x=(tl.zip ds).map λp=>xu D p.1 p.2:=λx hx=>by
   obtain⟨i,hi⟩:=aV hx;have li:=(ao.mp hi).1;have ld:i<am.length:=by rw[hd.len];exact aR li (WJ lm)
   exact⟨_,aU ld,hm i _ x (aj ld) hi⟩
  have rk:afc D ns ms:=by
   refine⟨by rw[lm,nl],by lia,hn.wd,hn.nd,λx hx=>?_⟩;obtain⟨ds,dt,tl,ht,rfl⟩:=all x hx;have fd:=hd.few ds dt;have tll:=ht.len;refine⟨by rw[ak,VX];lia,λy hy=>?_,λy hy=>?_,?_⟩
   .obtain⟨p,_,rfl⟩:=YV.mp hy;exact acD D _
   .obtain⟨p,hp,rfl⟩:=YV.mp hy;have lk:=hd.ok ds dt p.2 (VS hp).2;obtain⟨qq,q0,q1,hq⟩:=lk.all;have j:=X8 q0 hq;have:=j.few;have:=lk.few;exact⟨by show(uR p.2.prs).length<=1000;lia,λw hw=>by rw[nl];exact j.lt w hw⟩
   .rw[WU];show((tl.zip ds).map λp=>p.1).Nodup;rw[List.map_fst_zip (WJ tll)];exact ht.nd
  have bs:Bq s:=⟨g_ (by
   have h0:=Rat.num_nonneg.mpr hs.lo;have h1:=(Rat.lt_iff s 1).mp hs.hi;have h1:s.num*((1:Rat).den:Int)<(1:Rat).num*(s.den:Int):=h1;have:=hs.den;simp at h1;lia),g_ (by have:=hs.den;lia)⟩
  refine⟨s,ns,ms,rfl,rfl,rfl,rfl,hs.lo,hs.hi,bs,rk,q ns (offs ms) hn ⟨?_,by lia,λos k7=>?_⟩ ⟨?_,λk ds os e1 e2=>?_⟩⟩
  .rw[ak,lm,nl]
  .obtain⟨x,hx,rfl⟩:=YV.mp k7;rw[ak];exact(rk.mds x hx).few
  .rw[ak,lm,hd.len]
  .rw[aq]at e2;cases e3:ms[k]? with
   |none=>rw[e3]at e2;cases e2
   |some x =>
    rw[e3]at e2;cases e2;obtain⟨tl,ht,rfl⟩:=hm k ds x e1 e3;exact⟨tl,ht.len,WU⟩
open Rw (sg jA jd cA j7 j_ Big)
theorem Vz{n:Nat}{i:Int}(h:i.natAbs<=10^n)(hn:n<=2400):Bd i:=Y3 (aL h (XU (by decide) hn)) (by decide +kernel)
theorem Qw{r:Rat}{A:Nat}(h1:r<=(A:Rat))(h2 : -(A:Rat)<=r):r.num.natAbs<=A*r.den:=by
 have a:=(Rat.le_iff r (A:Rat)).mp h1;have b:=(Rat.le_iff (-(A:Rat)) r).mp h2;have a:r.num*((1:Nat):Int)<=(A:Int)*(r.den:Int):=a;have b : -(A:Int)*(r.den:Int)<=r.num*((1:Nat):Int):=b;have c:((A*r.den:Nat):Int)=(A:Int)*r.den:=JY ..;rw[Int.neg_mul]at b;omega
open Rw (sg jA jd cA j7 j_ Qi Big)
def Uj(f:Nat->Nat->Rat)(m:Nat):List (List Rat):=(List.range m).map λi=>(List.range m).map λj=>f i j
theorem Ep(f:Nat->Nat->Rat)(m:Nat):(Uj f m).length=m:=by unfold Uj;rw[ak,WP]
theorem abv{f:Nat->Nat->Rat}{m:Nat} : ∀r∈Uj f m,r.length=m:=λr hr=>by
 obtain⟨i,_,rfl⟩:=YV.mp hr;rw[ak,WP]
abbrev Vm(f:Nat->Nat->Rat)(b:Nat->Rat)(m:Nat):List (List Rat):=Y7 (Uj f m) ((List.range m).map b)
theorem zR(f:Nat->Nat->Rat)(b:Nat->Rat)(m:Nat):(Vm f b m).length=m:=by rw[TH,Ep,ak,WP,UX]
theorem QX{f:Nat->Nat->Rat}{b:Nat->Rat}{m i:Nat}(h:i<m):(Vm f b m)[i]?=some (((List.range m).map λj=>f i j)++[b i]):=by
 unfold Vm Uj;rw[Q1,aq,VZ h,aq,VZ h]
 rfl
theorem KR{f:Nat->Nat->Rat}{b:Nat->Rat}{m:Nat}{r:List Rat}(hr:r∈Vm f b m):∃i,i<m/\r=((List.range m).map λj=>f i j)++[b i]:=by
 obtain⟨i,e⟩:=aV hr;have hi:i<m:=by have:=(ao.mp e).1;rw[zR]at this;exact this
 rw[QX hi]at e;exact⟨i,hi,(Option.some.inj e).symm⟩
theorem Rj{f:Nat->Nat->Rat}{b:Nat->Rat}{m i:Nat}(y:Nat->Rat):sg (λj=>(((List.range m).map λj=>f i j)++[b i]).getD j 0*y j) m=sg (λj=>f i j*y j) m/\(((List.range m).map λj=>f i j)++[b i]).getD m 0=b i:=by
 have l:((List.range m).map λj=>f i j).length=m:=by rw[ak,WP]
 refine⟨cA λj hj=>?_,?_⟩
 .rw[au,aF (by rw[l];exact hj),aq,VZ hj];rfl
 .rw[au,aD (by rw[l];exact aG _),l,Nat.sub_self];rfl
theorem aiG{f:Nat->Nat->Rat}{b y:Nat->Rat}{m:Nat}(h:∀r∈Vm f b m,sg (λj=>r.getD j 0*y j) m=r.getD m 0):∀i,i<m->sg (λj=>f i j*y j) m=b i:=λi hi=>by
 have:=h _ (aC (QX hi));rw[(Rj y).1,(Rj y).2]at this;exact this
theorem ak1{f:Nat->Nat->Rat}{b:Nat->Rat}{m A Q:Nat}{q:Nat->Nat}(few:m<=100)(hA:1<=A)(q0:∀i,i<m->0<q i/\q i<=Q)(hc:∀i j,i<m->j<m->(f i j).den ∣ q i/\(f i j).num.natAbs<=A*(f i j).den)(hb:∀i,i<m->(b i).den ∣ q i/\(b i).num.natAbs<=A*(b i).den)(hQ:1<=Q)(mb:(2*m*(A*Q))^m<=NN)(nn:A*Q<=NN)(inj:∀x:Nat->Rat,(∀i,i<m->sg (λj=>f i j*x j) m=0)->∀j,j<m->x j=0):Sys (Vm f b m) (A*Q):=by
 have all:∀i,i<m->∀c∈((List.range m).map λj=>f i j)++[b i],c.den ∣ q i/\c.num.natAbs<=A*c.den:=λi hi c dq=>by
  rcases Y1.mp dq with z|z
  .obtain⟨j,hj,rfl⟩:=YV.mp z;exact hc i j hi (List.mem_range.mp hj)
  .rw[YR.mp z];exact hb i hi
 refine⟨λr hr=>?_,by rw[zR];exact few,λr hr=>?_,λr hr c hm=>?_,Nat.mul_pos hA hQ,by rw[zR];exact mb,nn,?_⟩
 .obtain⟨i,hi,rfl⟩:=KR hr;rw[zR,aA,ak,WP];rfl
 .obtain⟨i,hi,rfl⟩:=KR hr;exact(aer hA (q0 i hi).1 (all i hi)).le (Nat.mul_le_mul_left _ (q0 i hi).2)
 .obtain⟨i,hi,rfl⟩:=KR hr;obtain⟨a,c⟩:=all i hi c hm;exact bdN (aL c (aL (Nat.mul_le_mul_left _ (aL (UY (q0 i hi).1 a) (q0 i hi).2)) nn))
 .rw[zR];intro x h0 hx;refine inj x λi hi=>?_;have:=hx _ (aC (QX hi));have e:sg (λj=>(((List.range m).map λj=>f i j)++[b i]).getD j 0*x j) (m+1)=sg (λj=>(((List.range m).map λj=>f i j)++[b i]).getD j 0*x j) m+_*x m:=rfl;rw[e,h0 _ (aG _),Rat.mul_zero,Rat.add_zero,(Rj x).1]at this;exact this
open Rw (sg jA jd cA j7 j_ Big)
structure WyZ(m:Nat)(o:bN):Prop where
 wy:WyO m o
 nd:(o.ways.map (·.1)).Nodup
 few:o.ways.length<=1000
 cq:∃q:Nat,0<q/\q<=4000/\∀w∈o.ways,w.2.den ∣ q
structure HlZ(ns:Φ)(off:List (List bN)):Prop where
 h:Qs ns off
 few:ns.length<=8
 z:∀ds∈off,∀o∈ds,WyZ ns.length o
theorem HlZ.toW{ns:Φ}{off:List (List bN)}(h:HlZ ns off):HlW ns off:=⟨h.h,by have:=h.few;exact aL this (by decide),λds hd o ho=>(h.z ds hd o ho).few,λds hd o ho=>(h.z ds hd o ho).wy⟩
abbrev cG(off:List (List bN))(pl:List (Option Nat))(k:Nat):Option bN:=(chO off pl).getD k none
theorem FZ{off:List (List bN)}{pl:List (Option Nat)}{k:Nat}{o:bN}(h:cG off pl k=some o):∃ds,off[k]?=some ds/\o∈ds:=by
 have h:(chO off pl).getD k none=some o:=h;cases e:pl[k]? with
 |none =>
  have:(chO off pl)[k]?=none:=aM (by unfold chO;rw[ak,UK];exact List.getElem?_eq_none_iff.mp e);rw[au,this]at h;cases h
 |some d =>
  rw[afm e]at h;cases d with
  |none=>cases h
  |some d =>
   have h:(off.getD k [])[d]?=some o:=h;rw[au]at h;cases eo:off[k]? with
   |none=>rw[eo]at h;cases h
   |some ds=>rw[eo]at h;exact⟨ds,rfl,aC h⟩
theorem HlZ.cw{ns:Φ}{off:List (List bN)}(h:HlZ ns off)(pl:List (Option Nat)):∀k,k<ns.length->∀o,cG off pl k=some o->WyO ns.length o:=λk _ o e=>by
 obtain⟨ds,ed,ho⟩:=FZ e;exact(h.z ds (aC ed) o ho).wy
theorem abw{m q:Nat}(q0:0<q)(j:Nat):∀{ws:List (Nat×Rat)},(∀w∈ws,0<w.2/\w.2.den ∣ q)->(uH ws j).den ∣ q/\0<=uH ws j/\uH ws j<=R7 ws
 |[],_=>⟨T1 _,W1,W1⟩
 |w::ws,h=>by
  obtain⟨a,b,c⟩:=abw (m:=m) q0 j (ws:=ws) λx hx=>h x (aJ _ hx);obtain⟨p,d⟩:=h w (aO ..);have e:uH (w::ws) j=(if w.1=j then w.2 else 0)+uH ws j:=rfl;rw[e,Ab];split
  .refine⟨I9 q0 d a,by grind,by grind⟩
  .rw[Rat.zero_add];exact⟨a,b,by grind⟩
abbrev N40:Nat:=1*4000
theorem aa1{m:Nat}(h:m<=8):(2*m*N40)^m<=10^39:=by
 obtain rfl|rfl|rfl|rfl|rfl|rfl|rfl|rfl|rfl:m=0\/m=1\/m=2\/m=3\/m=4\/m=5\/m=6\/m=7\/m=8:=by lia
 all_goals decide +kernel
def rgt(mk:List Bool)(k:Nat):Rat:=if mkG mk k then 1 else 0
theorem aaj{mk:List Bool}{cs:List (Option bN)}{S:Nat->Bool}{k:Nat}(hk:k<mk.length):(otw mk cs S).getD k none=if mkG mk k=false/\S k=true then cs.getD k none else none:=by
 unfold otw;rw[au,aq,VZ hk]
 rfl
theorem Xe{mk:List Bool}{cs:List (Option bN)}{S:Nat->Bool} : (otw mk cs S).length=mk.length:=by unfold otw;rw[ak,WP]
theorem Xc{mk:List Bool}{cs:List (Option bN)}{S:Nat->Bool}{o:bN}(h:some o∈otw mk cs S):∃k,k<mk.length/\cs.getD k none=some o:=by
 obtain⟨k,hk,e⟩:=YV.mp h;split at e
 .exact⟨k,List.mem_range.mp hk,e⟩
 .cases e
theorem akN{ns:Φ}{off:List (List bN)}(h:HlZ ns off){mk:List Bool}(ml:mk.length=ns.length){pl:List (Option Nat)}{S:Nat->Bool}(lf:Lfp false ns.length (mkG mk) (λk=>ldC (cG off pl k)) S):Sys (Vm (gQ 1 (otw mk (chO off pl) S)) (rgt mk) ns.length) N40:=by
 have m8:=h.few;have cz:∀o,some o∈otw mk (chO off pl) S->WyZ ns.length o:=λo ho=>by
  obtain⟨k,_,e⟩:=Xc ho;obtain⟨ds,ed,om⟩:=FZ e;exact h.z ds (aC ed) o om
 have zo:∀i,∀o,(otw mk (chO off pl) S).getD i none=some o->WyZ ns.length o:=λi o e=>cz o (by
  rw[au]at e;cases e2:(otw mk (chO off pl) S)[i]? with
  |none=>rw[e2]at e;cases e
  |some c =>
   rw[e2]at e;have e:c=some o:=e;rw[<- e];exact aC e2)
 have cell:∀i:Nat,∃q,0<q/\q<=4000/\(∀j,(gQ 1 (otw mk (chO off pl) S) i j).den ∣ q/\(gQ 1 (otw mk (chO off pl) S) i j).num.natAbs<=1*(gQ 1 (otw mk (chO off pl) S) i j).den):=λi=>by
  have fin:∀{q:Nat}(r:Rat),0<q->r.den ∣ q->0<=r->r<=1->∀b:Bool,((if b=true then(1:Rat)else 0)-1*r).den ∣ q/\((if b=true then(1:Rat)else 0)-1*r).num.natAbs<=1*((if b=true then(1:Rat)else 0)-1*r).den:=λ{q}r q0 d r0 r1 b=>by
   have e:(if b=true then(1:Rat)else 0)-1*r=(if b=true then 1 else 0) + -r:=by grind
   rw[e];refine⟨I9 q0 (by cases b<;>exact T1 _) d,Qw (A:=1) ?_ ?_⟩
   .show _<=((1:Nat):Rat);rw[show((1:Nat):Rat)=1 from rfl];cases b<;>simp<;>grind
   .show -((1:Nat):Rat)<=_;rw[show((1:Nat):Rat)=1 from rfl];cases b<;>simp<;>grind
  have del:∀j,gQ 1 (otw mk (chO off pl) S) i j=(if(decide (j=i))=true then(1:Rat)else 0)-1*uH (BW ((otw mk (chO off pl) S).getD i none)) j:=λj=>by
   unfold gQ;by_cases c:j=i
   .rw[ZY c,ZY (Zs c)]
   .rw[ZZ c,ZZ (by rw[Zp c];decide)]
  cases e:(otw mk (chO off pl) S).getD i none with
  |none=>exact⟨1,by decide,by decide,λj=>by rw[del,e];exact fin 0 (by decide) (Nat.dvd_refl 1) W1 (by decide) _⟩
  |some o =>
   obtain⟨wy,_,_,q,q0,q1,hq⟩:=zo i o e;refine⟨q,q0,q1,λj=>?_⟩;obtain⟨a,b,c⟩:=abw (m:=0) q0 j (ws:=o.ways) λw hw=>⟨wy.pos w hw,hq w hw⟩;rw[wy.one]at c;rw[del,e];exact fin _ q0 a b c _
 have hq:∃q:Nat->Nat,∀i,0<q i/\q i<=4000/\(∀j,(gQ 1 (otw mk (chO off pl) S) i j).den ∣ q i/\(gQ 1 (otw mk (chO off pl) S) i j).num.natAbs<=1*(gQ 1 (otw mk (chO off pl) S) i j).den):=⟨λi=>Classical.choose (cell i),λi=>Classical.choose_spec (cell i)⟩;obtain⟨q,hq⟩:=hq;have NL:10^39<=NN:=XU (by decide) (by decide);refine ak1 (q:=q) (A:=1) (Q:=4000) (aL m8 (by decide)) (by decide) (λi _=>⟨(hq i).1,(hq i).2.1⟩) (λi j _ _=>(hq i).2.2 j) (λi _=>?_) (by decide) (aL (aa1 m8) NL) (aL (by decide) NL) λx hx=>?_
 .unfold rgt;split
  .exact⟨T1 _,aG _⟩
  .exact⟨T1 _,aZ _⟩
 .refine agl lf (h.cw pl) λk hk=>?_;have ol:(otw mk (chO off pl) S).length=ns.length:=by rw[Xe,ml]
  have:=hx k hk;rw[<- ol,ab9 (by rw[ol];exact hk) λw hw=>by
   rw[ol];cases e:(otw mk (chO off pl) S).getD k none with
   |none=>rw[e]at hw;cases hw
   |some o=>rw[e]at hw;exact(zo k o e).wy.lt w hw,aaj (by rw[ml];exact hk)]at this
  by_cases c:mkG mk k=false/\S k=true
  .rw[ZY c]at this ⊢;have this:x k-1*dw (BW (cG off pl k)) x=0:=this
   grind
  .rw[ZZ c]at this ⊢;have this:x k-1*(0:Rat)=0:=this
   grind
theorem ahf(mk:List Bool):(mk.map λb=>frR (if b then 1 else 0))=((List.range mk.length).map (rgt mk)).map frR:=by
 rw[WU];refine UV (by rw[ak,ak,WP]) λk h1 h2=>?_;rw[ak]at h1;rw[VY,VY,UH];show frR _=frR (if mk.getD k false then 1 else 0);rw[au,aj h1]
 rfl
def wO(D:Adr):ST:=λts q=>∃(s:Rat)(ns:Φ)(off:List (List bN))(mk:List Bool)(pl:List (Option Nat)),ts=[hlT D s ns off,blT mk,.lst (pl.map dT)]/\HlZ ns off/\mk.length=ns.length/\PlT off pl/\∀(S:Nat->Bool)(x:Nat->Rat),fW ns.length (mkG mk) (cG off pl) S x->(∀i,i<ns.length->FnB (10^39) (x i))->q (.l1 ((List.range ns.length).map λi=>frR (x i)))
theorem HB(T:Tx D)(tu:gT 8 qx jr yt)(xJ:gT 4 vW nF Dd)(vg:gT 4 tO lg (Bp mg))(qO:gT 4 pB iI (wR D))(F:Fu pA mV f fd):FT 9 f fd iT (wO D):=by
 refine F.okT wU λaf A outer s H E hr nd=>?_;refine⟨_,(bH (mZ (bI mV) qX qX ["mark"] (b_ (qv 1)) (dh (i:=0)) cg (Ek (dz (qv 0)) (mq T.A_ T.uf) (mq T.k_ T.iY)) (jh (i:=3) wU.nd rfl (Or.inl rfl)))
  (bJ (bT (bK tu (bC (bK xJ (bC (mq T.A_ T.uf) (bC (bK vg (bC (qv 1) (bC (bK qO (bC (qv 0) (bC (qv 2) bF))) bF))) bF))) (bC (qv 3) bF)))))),?_⟩
 rintro _ R ⟨s,ns,off,mk,pl,rfl,h,ml,hp,q⟩;have m8:=h.few;have cl:(chO off pl).length=ns.length:=by rw[aft hp,h.h.len]
 refine⟨by rw[ak,ml];exact aL m8 (by decide),comp_map L2.T.bl (λb=>frR (if b then 1 else 0)) mk (λb _ N M hN=>by cases b<;>exact hN) ?_⟩;refine⟨s,ns,off,pl,rfl,h.h,hp,mk,chO off pl,rfl,by lia,by rw[cl,ml],λo ho=>?_,λS lf=>?_⟩
 .obtain⟨k,ek⟩:=aV ho;obtain⟨ds,ed,om⟩:=FZ (k:=k) (show(chO off pl).getD k none=some o by rw[au,ek];rfl);have z:=h.z ds (aC ed) o om;exact⟨z.few,by rw[ml];exact z.wy.lt⟩
 have lf:Lfp false ns.length (mkG mk) (λk=>ldC (cG off pl k)) S:=by rw[ml]at lf;exact lf
 have ol:(otw mk (chO off pl) S).length=ns.length:=by rw[Xe,ml]
 have cz:∀c∈otw mk (chO off pl) S,∀o,c=some o->WyZ ns.length o:=λc hc o e=>by
  subst e;obtain⟨k,_,e⟩:=Xc hc;obtain⟨ds,ed,om⟩:=FZ e;exact h.z ds (aC ed) o om
 have b1:Bq (1:Rat):=bq1;have sys:=akN h ml lf;refine⟨1,otw mk (chO off pl) S,rfl,by lia,b1,λc hc=>?_,Uj (gQ 1 (otw mk (chO off pl) S)) ns.length,(List.range mk.length).map (rgt mk),N40,?_,by rw[ak,WP,Ep,ml],by rw[Ep];exact abv,?_,?_⟩
 .rw[ol];cases c with
  |none=>exact⟨.nil,aZ _,λ_ z=>(nomatch z),λ_ z=>(nomatch z)⟩
  |some o =>
   have z:=cz _ hc o rfl;obtain⟨q,q0,q1,hq⟩:=z.cq;refine⟨z.nd,z.few,z.wy.lt,λw hw=>?_⟩;have d:=UY q0 (hq w hw);have w1:w.2<=1:=by
    have:=uT (λw hw=>UR (z.wy.pos w hw)) hw;rw[<- CG,z.wy.one]at this;exact this
   have n:=Qw (r:=w.2) (A:=1) w1 (by have:=z.wy.pos w hw;rw[show((1:Nat):Rat)=1 from rfl];grind);have bw:Bq w.2:=⟨g_ (by lia),g_ (by lia)⟩;refine⟨bw,?_,by rw[Rat.one_mul];exact bw⟩;show Bd (((1:Nat):Int)*_);rw[show((1:Nat):Int)=1 from rfl,Tk];exact bw.2
 .show[L2.T.lst ((rowsOf (gQ 1 (otw mk (chO off pl) S)) (otw mk (chO off pl) S).length).map L2.T.lst),L2.T.lst (mk.map λb=>frR (if b then 1 else 0))]=_;rw[amA,ahf,show acK 1 (otw mk (chO off pl) S)=Uj (gQ 1 (otw mk (chO off pl) S)) ns.length by unfold acK Uj;rw[ol]]
 .rw[ml];exact sys
 .rw[Ep,ml];intro y h1 h2;have eq:=aiG (f:=gQ 1 (otw mk (chO off pl) S)) (b:=rgt mk) (m:=ns.length) h1;have val:∀k,k<ns.length->y k=rgt mk k+if mkG mk k=false/\S k=true then dw (BW (cG off pl k)) y else 0:=λk hk=>by
   have:=eq k hk;rw[<- ol,ab9 (by rw[ol];exact hk) λw hw=>by
    rw[ol];cases e:(otw mk (chO off pl) S).getD k none with
    |none=>rw[e]at hw;cases hw
    |some o =>
     rw[e]at hw;rw[au,aj (by rw[ol];exact hk)]at e;exact(cz _ (aU _) o e).wy.lt w hw,aaj (by rw[ml];exact hk)]at this
   by_cases c:mkG mk k=false/\S k=true
   .rw[ZY c]at this ⊢;have this:y k-1*dw (BW (cG off pl k)) y=rgt mk k:=this
    grind
   .rw[ZZ c]at this ⊢;have this:y k-1*(0:Rat)=rgt mk k:=this
    grind
  refine q S y ⟨lf,λk hk g=>?_,λk hk g s=>?_,λk hk s=>?_⟩ λi hi=>⟨aL (h2 i hi).n (aa1 m8),aL (h2 i hi).d (aa1 m8)⟩
  .rw[val k hk,ZZ (by rw[g];exact λz=>Bool.noConfusion z.1)];unfold rgt;rw[g];show(1:Rat)+0=1
   grind
  .have v:=val k hk;rw[ZY ⟨g,s⟩]at v;unfold rgt at v;rw[g]at v;have v:y k=0+_:=v
   grind
  .have g:mkG mk k=false:=by
    cases g:mkG mk k with
    |false=>rfl
    |true=>rw[lf.base k hk g]at s;cases s
   have v:=val k hk;rw[ZZ (by rw[s];exact λz=>Bool.noConfusion z.2)]at v;unfold rgt at v;rw[g]at v;have v:y k=0+0:=v
   grind
def IK:List (List bN)->List (List (Option Nat))
 |[]=>[[]]
 |ds::off=>((if ds=[]then[none]else(List.range ds.length).map some).map λd=>(IK off).map λpl=>d::pl).flatten
theorem Ym:∀{off:List (List bN)}{pl:List (Option Nat)},PlT off pl->pl∈IK off
 |[],pl,h=>by
  have:=h.len;rw[List.length_eq_zero_iff.mp this];exact YR.mpr rfl
 |ds::off,[],h=>by have:=h.len;cases this
 |ds::off,d::pl,h=>by
  have ih:=Ym (off:=off) (pl:=pl) ⟨Nat.succ.inj h.len,λk d ds e1 e2=>h.ok (k+1) d ds e1 e2⟩;have ft:=h.ok 0 d ds rfl rfl;refine List.mem_flatten.mpr ⟨_,YV.mpr ⟨d,?_,rfl⟩,YV.mpr ⟨pl,ih,rfl⟩⟩;cases d with
  |none =>
   have:ds.length=0:=of_decide_eq_true ft;rw[ZY (List.length_eq_zero_iff.mp this)];exact YR.mpr rfl
  |some d =>
   have:d<ds.length:=of_decide_eq_true ft;rw[ZZ λz=>by rw[z]at this;cases this];exact YV.mpr ⟨d,List.mem_range.mpr this,rfl⟩
theorem Nm{α:Type} : ∀{l l':List α},l.Nodup->(∀a∈l,a∈l')->l.length<=l'.length
 |[],_,_,_=>aZ _
 |a::l,l',nd,h=>by
  obtain⟨s,t,rfl⟩:=List.append_of_mem (h a (aO ..));have ke:=List.nodup_cons.mp nd;have:=Nm (l:=l) (l':=s++t) ke.2 λb hb=>by
   have m:=h b (aJ _ hb);rcases Y1.mp m with z|z
   .exact UQ _ z
   .rcases YU.mp z with y|y
    .exact absurd (y ▸ hb) ke.1
    .exact aP _ y
  rw[List.length_cons,aA,List.length_cons];rw[aA]at this;lia
abbrev PWs:=List (Option Nat)×List Rat
abbrev pwT(p:PWs):T:=.tup [.lst (p.1.map dT),.lst (p.2.map frR)]
abbrev xG(xs:List Rat)(k:Nat):Rat:=xs.getD k 0
theorem Wu(rs:List Rat)(n M:Nat)(hM:0<M):(∀r∈rs,r.den<=M)->dI n rs<=n*M^rs.length:=by
 induction rs generalizing n with
 |nil=>intro _;show n<=n*1;lia
 |cons r rs ih =>
  intro h;have l1:Nat.lcm n r.den<=n*M:=aL (by unfold Nat.lcm;exact Nat.div_le_self _ _) (Nat.mul_le_mul_left _ (h r (aO ..)));refine aL (ih (Nat.lcm n r.den) λx hx=>h x (aJ _ hx)) ?_;rw[List.length_cons,Nat.pow_succ,Nat.mul_comm (M^rs.length),<- Nat.mul_assoc];exact Nat.mul_le_mul_right _ l1
structure pC(e:Bool)(off:List (List bN))(mk:List Bool)(xs:List Rat)(pl bv:List (Option Nat)):Prop where
 len:bv.length=pl.length
 keep:∀(k:Nat)ds,off[k]?=some ds->mkG mk k=true\/ds=[]->bv[k]?=pl[k]?
 turn:∀(k d:Nat)ds,mkG mk k=false->pl[k]?=some (some d)->off[k]?=some ds->∃b,bv[k]?=some (some b)/\Q8 e (ds.map λo=>Cw o.ways (tops (dI 1 xs) xs)) d b
structure XsB(m:Nat)(xs:List Rat):Prop where
 len:xs.length=m
 fn:∀x∈xs,FnB (10^39) x
 nn:∀x∈xs,0<=x
 le:∀x∈xs,x<=1
theorem XsB.get{m:Nat}{xs:List Rat}(h:XsB m xs)(k:Nat):0<=xG xs k/\xG xs k<=1:=by
 show 0<=xs.getD k 0/\xs.getD k 0<=1;rw[au];cases e:xs[k]? with
 |none=>exact⟨W1,by show(0:Rat)<=1;decide⟩
 |some x=>exact⟨h.nn x (aC e),h.le x (aC e)⟩
theorem XsB.lcm{m:Nat}{xs:List Rat}(h:XsB m xs)(m8:m<=8):dI 1 xs<=10^312:=by
 have:=Wu xs 1 (10^39) (Nat.pow_pos (by decide)) λr hr=>(h.fn r hr).d;rw[Nat.one_mul,h.len,<- Nat.pow_mul]at this;exact aL this (XU (by decide) (by lia))
theorem anL{ns:Φ}{xs:List Rat}{o:bN}(z:WyZ ns.length o)(m8:ns.length<=8)(h:XsB ns.length xs):BhB o.ways (tops (dI 1 xs) xs)/\Bq (Cw o.ways (tops (dI 1 xs) xs)):=by
 obtain⟨q,q0,q1,hq⟩:=z.cq;have B1:=h.lcm m8;have lq:dI 1 (o.ways.map (·.2))<=4000:=aL (UY q0 (vm _ (T1 _) λr hr=>by
  obtain⟨w,hw,rfl⟩:=YV.mp hr;exact hq w hw)) q1
 have lp:=iQ (o.ways.map (·.2)) UT;have wz:∀w∈o.ways,w.2.num.natAbs<=4000:=λw hw=>by
  have w1:w.2<=1:=by
   have:=uT (λw hw=>UR (z.wy.pos w hw)) hw;rw[<- CG,z.wy.one]at this;exact this
  have n:=Qw (r:=w.2) (A:=1) w1 (by have:=z.wy.pos w hw;rw[show((1:Nat):Rat)=1 from rfl];grind);have:=UY q0 (hq w hw);lia
 refine⟨⟨z.few,λw hw=>by unfold tops;rw[ak,h.len];exact z.wy.lt w hw,λw hw=>g_ (by have:=wz w hw;exact Y3 this (by decide)),g_ (by omega),λt ht=>?_,λt ht=>?_⟩,?_⟩
 .unfold tops at ht;rw[WU]at ht;obtain⟨w,hw,rfl⟩:=YV.mp ht;refine Vz (n:=8) ?_ (by decide);show(w.2.num*((dI 1 (o.ways.map (·.2))/w.2.den:Nat):Int)).natAbs<=_;rw[Up,XT];exact aL (UZ (wz w hw) (aL (Nat.div_le_self _ _) lq)) (by decide)
 .obtain⟨r,hr,rfl⟩:=YV.mp ht;refine Vz (n:=39+312) ?_ (by decide);rw[Up,XT,Nat.pow_add];exact UZ (h.fn r hr).n (aL (Nat.div_le_self _ _) B1)
 .have d1:(Cw o.ways (tops (dI 1 xs) xs)).den<=4000:=by
   rw[<- Q6 lp _ o.ways λw hw=>(nG _).2 _ (YV.mpr ⟨w,hw,rfl⟩)];have:=(div_pos (a:=(o.ways.map λw=>w.2.num*((dI 1 (o.ways.map (·.2))/w.2.den:Nat):Int)*(tops (dI 1 xs) xs).getD w.1 0).sum) (b:=((dI 1 (o.ways.map (·.2)):Nat):Int)) (by lia)).1;lia
  have e:=Aj xs o.ways;have a:=z.wy.le (M:=1) (x:=λk=>xs.getD k 0) λw _=>(h.get w.1).2;have b:=z.wy.ge (M:=0) (x:=λk=>xs.getD k 0) λw _=>(h.get w.1).1;have b0:(0:Rat)<=((dI 1 xs:Nat):Rat):=by exact_mod_cast aZ _
  have n:=Qw (r:=Cw o.ways (tops (dI 1 xs) xs)) (A:=dI 1 xs) (by rw[e];have:=Rat.mul_le_mul_of_nonneg_right a b0;grind) (by rw[e];have:=Rat.mul_nonneg b b0;grind);refine⟨Vz (n:=312+4) ?_ (by decide),g_ (by omega)⟩;rw[Nat.pow_add];exact aL n (UZ B1 (aL d1 (by decide)))
structure NK(e:Bool)(off:List (List bN))(mk:List Bool)(tp:List Int)(pl:List (Option Nat))(k:Nat)(bv:List (Option Nat)):Prop where
 len:bv.length=k
 keep:∀(i:Nat)ds,i<k->off[i]?=some ds->mkG mk i=true\/ds=[]->bv[i]?=pl[i]?
 turn:∀(i d:Nat)ds,i<k->mkG mk i=false->pl[i]?=some (some d)->off[i]?=some ds->∃b,bv[i]?=some (some b)/\Q8 e (ds.map λo=>Cw o.ways tp) d b
theorem NK.next{e:Bool}{off:List (List bN)}{mk:List Bool}{tp:List Int}{pl bv:List (Option Nat)}{k:Nat}(j:NK e off mk tp pl k bv){d v:Option Nat}{ds:List bN}(ek:pl[k]?=some d)(eo:off[k]?=some ds)(h1:mkG mk k=true\/ds=[]->v=d)(h2:∀d',mkG mk k=false->d=some d'->∃b,v=some b/\Q8 e (ds.map λo=>Cw o.ways tp) d' b):NK e off mk tp pl (k+1) (bv++[v]):=by
 have lft:∀{i:Nat},i<k->(bv++[v])[i]?=bv[i]?:=λhi=>aF (by have:=j.len;lia);have rg:(bv++[v])[k]?=some v:=by rw[aD (by have:=j.len;exact WJ this),j.len,Nat.sub_self];rfl
 refine⟨by rw[aA,j.len];rfl,λi hZ hi ei c=>?_,λi d' hZ hi m ei es=>?_⟩
 .by_cases z:i=k
  .subst z;rw[eo]at ei;cases ei;rw[rg,ek,h1 c]
  .rw[lft (XX (VW hi) z)];exact j.keep i hZ (XX (VW hi) z) ei c
 .by_cases z:i=k
  .subst z;rw[eo]at es;cases es;rw[ek]at ei;cases ei;obtain⟨b,rfl,hb⟩:=h2 d' m rfl;exact⟨b,rg,hb⟩
  .rw[lft (XX (VW hi) z)];exact j.turn i d' hZ (XX (VW hi) z) m ei es
def xP(D:Adr)(mg:Str->Ω):ST:=λts q=>∃(e:Bool)(v:Addr)(s:Rat)(ns:Φ)(off:List (List bN))(mk:List Bool)(p:PWs),ts=[hlT D s ns off,blT mk,pwT p,.val (.ref v)]/\mg (nmQ e)=some (.ref v)/\HlZ ns off/\mk.length=ns.length/\PlT off p.1/\XsB ns.length p.2/\∀bv:List (Option Nat),pC e off mk p.2 p.1 bv->q (.l1 (bv.map dT))
theorem K1(T:Tx D)(lH:gT 2 uJ oY yU)(tY:gT 3 rJ jQ yN)(tX:gT 3 rA jL (yL mg))(c7:gI 3 D.Hall_offers eU (uP D))(F:Fu rE oG f fd):FT 4 f fd jB (xP D mg):=by
 refine F.okT J8 λaf A outer s H E hr nd=>?_;refine⟨_,(bH (bR 4 (bL (bK lH (bC (bL (qv 2) bG) bF)) bG))
  (bH (jg 5 (dN bF))
  (bH (dY (sy T.g8 (bC (bL (qv 2) bG) bF)) (fB (n:=2) (bQ (cj (n:=99) 6) (bQ (cj (n:=99) 7) dG)))
  (bH (bR 8 (Ek (dz (bL (qv 1) (qv 6))) (dN bF) (Ak (qv 0) T.jN T.mR c7 (bC (qv 6) bF) (KS:=lE))))
  (bJ (yD 5 (bK tX (bC (cH (bI oG) uD uD ["offer"] (b_ (qv 8)) (dh (i:=0)) cg (bK tY (bC (qv 0) (bC (qv 5) bF)))) (bC (qv 7) (bC (qv 3) bF))))))))
  (bJ (jj 5))))),?_⟩
 rintro _ R ⟨e,v,s,ns,off,mk,p,rfl,hv,h,ml,hp,hx,q⟩;have m8:=h.few;obtain⟨pl,xs⟩:=p;dsimp only at hp hx q;have B1:=hx.lcm m8;refine⟨xs,rfl,by rw[hx.len];exact aL m8 (by decide),λr hr=>Vz (n:=39) (hx.fn r hr).n (by decide),Vz (n:=312) (by rw[XT];exact B1) (by decide),?_⟩;have bh:∀ds∈off,∀o∈ds,_:=λds dt o ho=>anL (h.z ds dt o ho) m8 hx;generalize et:tops (dI 1 xs) xs=tp at bh ⊢;refine uN dT pl (λk o=>∃bv x y z,o=[.fz (hlT D s ns off),.fz (blT mk),.fz (pwT (pl,xs)),.fz (.val (.ref v)),.fz (.lst (tp.map L2.T.int)),.l1 (bv.map dT),x,y,z]/\NK e off mk tp pl k bv) ⟨[],.und,.und,.und,rfl,rfl,λi _ z=>absurd z (WZ _),λi _ _ z=>absurd z (WZ _)⟩ ?_ ?_
 .rintro k d _ ek ⟨bv,x,y,z,rfl,j⟩;have lk:=(ao.mp ek).1;have ho:k<off.length:=by rw[<- hp.len];exact lk
  have eo:=aj ho;have hl:=h.h.len;have lm:k<mk.length:=by lia
  have em:=aj lm;have gm:mkG mk k=mk[k]:=by unfold mkG;rw[au,em];rfl
  have ls:(bv.map dT).length<sizeLine:=by rw[ak,j.len];exact aR (show _<1001 by lia) (by decide)
  have ma:∀v:Option Nat,bv.map dT++[dT v]=(bv++[v]).map dT:=λv=>by rw[bf];rfl
  have fin:∀(v':Option Nat)(z':OT),NK e off mk tp pl (k+1) (bv++[v'])->∃iq x y z,[OT.fz (hlT D s ns off),.fz (blT mk),.fz (pwT (pl,xs)),.fz (.val (.ref v)),.fz (.lst (tp.map L2.T.int)),.l1 (bv.map dT++[dT v']),.fz (.int k),.fz (dT d),z']=[.fz (hlT D s ns off),.fz (blT mk),.fz (pwT (pl,xs)),.fz (.val (.ref v)),.fz (.lst (tp.map L2.T.int)),.l1 (iq.map dT),x,y,z]/\NK e off mk tp pl (k+1) iq:=λv' z' h=>⟨bv++[v'],_,_,z',by rw[<- ma],h⟩;refine⟨rfl,_,cW em,?_⟩;cases cm:mk[k]with
  |true =>
   have mt:mkG mk k=true:=by rw[gm,cm]
   refine⟨by decide,e,v,[],d,rfl,hv,by decide,λx hx=>(nomatch hx),λ_=>⟨ls,fin d _ (j.next ek eo (λ_=>rfl) λd' z=>by rw[mt]at z;cases z)⟩,λz=>absurd rfl z⟩
  |false =>
   have mf:mkG mk k=false:=by rw[gm,cm]
   have mem:=aU ho;have fd:=h.h.fews _ mem;refine⟨⟨rfl,rfl⟩,_,_,_,k,_,rfl,h.h,eo,by rw[ak];exact aL fd (by decide),comp_map ofT (λo=>frR (Cw o.ways tp)) off[k] (λo ho N M hN=>⟨o,tp,rfl,(bh _ mem o ho).1,hN⟩) ⟨e,v,off[k].map λo=>Cw o.ways tp,d,by rw[WU];rfl,hv,by rw[ak];exact fd,λx hx=>?_,λz=>⟨ls,fin d _ (j.next ek eo (λ_=>rfl) λd' _ z'=>?_)⟩,λz=>?_⟩⟩
   .obtain⟨o,ho,rfl⟩:=YV.mp hx;exact(bh _ mem o ho).2
   .have ft:=hp.ok k d _ ek eo;rw[z',List.map_eq_nil_iff.mp z]at ft;exact absurd (of_decide_eq_true (show decide (d'<0)=true from ft)) (WZ _)
   .have ft:=hp.ok k d _ ek eo;cases d with
    |none =>
     have:off[k].length=0:=of_decide_eq_true ft;exact absurd (by rw[List.length_eq_zero_iff.mp this];rfl) z
    |some d =>
     refine⟨d,rfl,by rw[ak];exact of_decide_eq_true ft,λb hb=>⟨ls,fin (some b) _ (j.next ek eo (λc=>?_) λd' _ z'=>?_)⟩⟩
     .rcases c with c|c
      .rw[mf]at c;cases c
      .exact absurd (by rw[c];rfl) z
     .cases z';exact⟨b,rfl,hb⟩
 .rintro _ ⟨bv,x,y,z,rfl,j⟩;refine q bv ⟨j.len,λk ds ek c=>j.keep k ds (by rw[hp.len];exact(ao.mp ek).1) ek c,λk d ds m ek eo=>?_⟩;rw[et];exact j.turn k d ds (ao.mp ek).1 m ek eo
theorem V2{b:Bool}{m:Nat}{mk:Nat->Bool}{ld:Nat->List (List Nat)}{S S':Nat->Bool}(h:Lfp b m mk ld S)(h':Lfp b m mk ld S'){k:Nat}(hk:k<m):S k=S' k:=by
 have a:=h.least S' h'.base h'.step k hk;have b:=h'.least S h.base h.step k hk;cases e:S k with
 |true=>rw[a e]
 |false =>
  cases e':S' k with
  |true=>rw[b e']at e;exact e.symm
  |false=>rfl
section
variable{m:Nat}{mk S S':Nat->Bool}{c:Nat->Option bN}{x x' x'':Nat->Rat}{e:Bool}
theorem fW.le_of(h:fW m mk c S x)(h':fW m mk c S' x')(hw:∀k,k<m->∀o,c k=some o->WyO m o){k:Nat}(hk:k<m):x k<=x' k:=by
 have:=mp h.lf hw (d:=λk=>x k-x' k) (λk hk g s=>by rw[Fi,<- h.mean k hk g s,<- h'.mean k hk g (by rw[<- V2 h.lf h'.lf hk];exact s)];exact W1) (λk hk g=>by rw[h.goal k hk g,h'.goal k hk g];grind) (λk hk s=>by rw[h.no k hk s,h'.no k hk (by rw[<- V2 h.lf h'.lf hk];exact s)];grind) k hk
 grind
theorem fW.uniq(h:fW m mk c S x)(h':fW m mk c S' x')(hw:∀k,k<m->∀o,c k=some o->WyO m o){k:Nat}(hk:k<m):x k=x' k:=Rat.le_antisymm (h.le_of h' hw hk) (h'.le_of h hw hk)
def UpX(e:Bool)(m:Nat)(x x':Nat->Rat):Prop:=(∀k,k<m->¬bet e (x' k) (x k))/\∃k,k<m/\bet e (x k) (x' k)
theorem abQ{a b c:Rat}(h:¬bet e b a)(k:¬bet e c b):¬bet e c a:=by
 cases e<;>simp only[bet]at *<;>grind
theorem afO{a b c:Rat}(h:bet e a b)(k:¬bet e c b):bet e a c:=by
 cases e<;>simp only[bet]at *<;>grind
theorem Ii{a:Rat} : ¬bet e a a:=by
 cases e<;>simp only[bet]<;>grind
theorem Xy{a b B:Rat}(h:0<B):bet e (a*B) (b*B)↔bet e a b:=by
 cases e<;>simp only[bet]
 .exact⟨λl=>Rat.not_le.mp λz=>Rat.not_le.mpr l (Rat.mul_le_mul_of_nonneg_right z (UR h)),λl=>Rat.mul_lt_mul_of_pos_right l h⟩
 .exact⟨λl=>Rat.not_le.mp λz=>Rat.not_le.mpr l (Rat.mul_le_mul_of_nonneg_right z (UR h)),λl=>Rat.mul_lt_mul_of_pos_right l h⟩
theorem UpX.trans(h:UpX e m x x')(k:UpX e m x' x''):UpX e m x x'' :=
 ⟨λi hi=>abQ (h.1 i hi) (k.1 i hi),by obtain⟨i,hi,z⟩:=h.2;exact⟨i,hi,afO z (k.1 i hi)⟩⟩
theorem alc{c':Nat->Option bN}(t:Turn e m mk x c c')(h:fW m mk c S x)(h':fW m mk c' S' x')(hw:∀k,k<m->∀o,c k=some o->WyO m o)(dm:∀k,k<m->∀o,c' k=some o->WyO m o):(∀k,k<m->¬bet e (x' k) (x k))/\((∃k,k<m/\c' k≠c k)->UpX e m x x'):=by
 cases e with
 |false =>
  obtain⟨a,b⟩:=t.up h h' hw dm;have n:∀k,k<m->¬bet false (x' k) (x k):=λk hk z=>Rat.not_lt.mpr (a k hk) z;exact⟨n,λhP=>by obtain⟨k,hk,ne⟩:=hP;exact⟨n,k,hk,b k hk ne⟩⟩
 |true =>
  obtain⟨a,b⟩:=t.down h h' hw dm;have n:∀k,k<m->¬bet true (x' k) (x k):=λk hk z=>Rat.not_lt.mpr (a k hk) z;exact⟨n,λhP=>by obtain⟨k,hk,ne⟩:=hP;exact⟨n,k,hk,b k hk ne⟩⟩
end
section
variable{e:Bool}{ns:Φ}{off:List (List bN)}{mk:List Bool}{xs:List Rat}{pl bv:List (Option Nat)}
theorem uW{k:Nat}{d:Option Nat}{ds:List bN}(e:pl[k]?=some d)(eo:off[k]?=some ds):cG off pl k=d.bind λd=>ds[d]?:=by
 show(chO off pl).getD k none=_;rw[afm e,au,eo]
 rfl
theorem zX{d:Option Nat}{n:Nat}(h:X6 d n=true)(n0:n≠0):∃j,d=some j/\j<n:=by
 cases d with
 |none=>exact absurd (of_decide_eq_true (show decide (n=0)=true from h)) n0
 |some j=>exact⟨j,rfl,of_decide_eq_true h⟩
theorem Ea{ds:List bN}{tp:List Int}{j:Nat}{o:bN}(e:ds[j]?=some o):(ds.map λo=>Cw o.ways tp).getD j 0=Cw o.ways tp:=by
 rw[au,aq,e]
 rfl
theorem PlT.room(hp:PlT off pl){k:Nat}{ds:List bN}(eo:off[k]?=some ds):∃d,pl[k]?=some d/\X6 d ds.length=true:=by
 have l:k<pl.length:=by rw[hp.len];exact(ao.mp eo).1
 exact⟨_,aj l,hp.ok k _ ds (aj l) eo⟩
theorem pC.plan(t:pC e off mk xs pl bv)(hp:PlT off pl):PlT off bv:=by
 refine⟨t.len.trans hp.len,λk d ds ek eo=>?_⟩;obtain⟨d0,e0,f0⟩:=hp.room eo;by_cases c:mkG mk k=true\/ds=[]
 .rw[t.keep k ds eo c,e0]at ek;cases ek;exact f0
 .have c1:mkG mk k=false:=by
   cases z:mkG mk k with
   |true=>exact absurd (.inl z) c
   |false=>rfl
  have c2:ds.length≠0:=λz=>c (.inr (List.length_eq_zero_iff.mp z));obtain⟨j,rfl,lj⟩:=zX f0 c2;obtain⟨b,eb,pk⟩:=t.turn k j ds c1 e0 eo;rw[eb]at ek;cases ek;refine Zs (?_:b<ds.length);rcases pk with⟨z,_⟩|⟨z,_⟩
  .rw[z];exact lj
  .rw[ak]at z;exact z
theorem pC.turned(t:pC e off mk xs pl bv)(hp:PlT off pl)(hl:ns.length=off.length):Turn e ns.length (mkG mk) (xG xs) (cG off pl) (cG off bv):=by
 have B0:(0:Rat)<((dI 1 xs:Nat):Rat):=by exact_mod_cast iQ xs UT
 have kp:∀k,k<ns.length->∀ds,off[k]?=some ds->mkG mk k=true\/ds=[]->cG off bv k=cG off pl k:=λk hk ds eo c=>by
  obtain⟨d,ed,_⟩:=hp.room eo;rw[uW ed eo,uW (by rw[t.keep k ds eo c];exact ed) eo]
 refine⟨λk hk g=>?_,λk hk g=>?_,λk hk g o ec=>?_⟩
 .exact kp k hk _ (aj (aR hk (WJ hl))) (.inl g)
 .have eo:=aj (show k<off.length by exact aR hk (WJ hl));obtain⟨d,ed,fd⟩:=hp.room eo;rw[kp k hk _ eo (.inr ?_),g];by_cases c:off[k].length=0
  .exact List.length_eq_zero_iff.mp c
  .obtain⟨j,rfl,lj⟩:=zX fd c;rw[uW ed eo]at g;have g:off[k][j]?=none:=g;rw[aj lj]at g;cases g
 .have eo:=aj (show k<off.length by exact aR hk (WJ hl));obtain⟨d,ed,fd⟩:=hp.room eo;rw[uW ed eo]at ec;cases d with
  |none=>cases ec
  |some j =>
   have ec:off[k][j]?=some o:=ec;obtain⟨b,eb,pk⟩:=t.turn k j _ g ed eo;rcases pk with⟨z,_⟩|⟨z,y,_⟩
   .subst z;refine⟨o,?_,.inl ?_⟩
    .rw[uW eb eo];exact ec
    .rw[uW eb eo,uW ed eo]
   .rw[ak]at z;have ko:=aj z;refine⟨off[k][b],by rw[uW eb eo];exact ko,.inr ?_⟩;rw[Ea ec,Ea ko,Aj,Aj]at y;exact(Xy B0).mp y
theorem pC.moved(t:pC e off mk xs pl bv)(hp:PlT off pl)(hl:ns.length=off.length)(n:bv≠pl):∃k,k<ns.length/\cG off bv k≠cG off pl k:=by
 refine Classical.byContradiction λno=>n (List.ext_getElem? λk=>?_);by_cases hk:k<off.length
 .have eo:=aj hk;obtain⟨d,ed,fd⟩:=hp.room eo;by_cases c:mkG mk k=true\/off[k]=[]
  .exact t.keep k _ eo c
  .have c1:mkG mk k=false:=by
    cases z:mkG mk k with
    |true=>exact absurd (.inl z) c
    |false=>rfl
   obtain⟨j,rfl,lj⟩:=zX fd λz=>c (.inr (List.length_eq_zero_iff.mp z));obtain⟨b,eb,pk⟩:=t.turn k j _ c1 ed eo;rcases pk with⟨z,_⟩|⟨z,y,_⟩
   .rw[eb,ed,z]
   .rw[ak]at z;refine absurd (Classical.byContradiction λne=>no ⟨k,by lia,ne⟩ : cG off bv k=cG off pl k) λw=>?_;rw[uW eb eo,uW ed eo]at w;have w:off[k][b]?=off[k][j]?:=w;rw[aj lj]at w;rw[Ea w,Ea (aj lj)]at y;exact Ii y
 .rw[aM (by rw[t.len,hp.len];exact VU hk),aM (by rw[hp.len];exact VU hk)]
theorem pC.best(t:pC e off mk xs pl pl)(hp:PlT off pl)(h:HlZ ns off){S:Nat->Bool}(ch:fW ns.length (mkG mk) (cG off pl) S (xG xs)):Best e ns.length (mkG mk) (λk=>off.getD k []) (xG xs):=by
 have hl:=h.h.len;have B0:(0:Rat)<((dI 1 xs:Nat):Rat):=by exact_mod_cast iQ xs UT
 refine⟨λk hk g o ho=>?_⟩;have eo:=aj (show k<off.length by lia);have ho:o∈off[k]:=by
  have ho:o∈off.getD k []:=ho;rw[au,eo]at ho;exact ho
 obtain⟨d,ed,fd⟩:=hp.room eo;obtain⟨j,rfl,lj⟩:=zX fd λz=>by rw[List.length_eq_zero_iff.mp z]at ho;cases ho
 have ej:=aj lj;obtain⟨b,eb,pk⟩:=t.turn k j _ g ed eo;rw[ed]at eb;cases eb;rw[ch.val (h.cw pl) hk g (by rw[uW ed eo];exact ej)];rcases pk with⟨_,z⟩|⟨_,z,_⟩
 .have:=z _ (YV.mpr ⟨o,ho,rfl⟩);rw[Ea ej,Aj,Aj,Xy B0]at this;exact this
 .exact absurd z Ii
end
theorem agr{c d:RT}{o:List OT}{q:Bool->Prop}(b:Bool)(h:∀q:Bool->Prop,q b->rOr c d o q)(hq:q b):rOr c d o q:=h q hq
theorem fW.congr{m:Nat}{mk S:Nat->Bool}{c:Nat->Option bN}{x x':Nat->Rat}(h:fW m mk c S x)(hw:∀k,k<m->∀o,c k=some o->WyO m o)(e:∀k,k<m->x k=x' k):fW m mk c S x':=by
 refine⟨h.lf,λk hk g=>by rw[<- e k hk];exact h.goal k hk g,λk hk g s=>?_,λk hk s=>by rw[<- e k hk];exact h.no k hk s⟩;rw[<- e k hk,h.mean k hk g s];refine TY λw hm=>?_;cases ec:c k with
 |none=>rw[ec]at hm;cases hm
 |some o =>
  rw[ec]at hm;exact e w.1 ((hw k hk o ec).lt w hm)
structure U5(e:Bool)(m:Nat)(off:List (List bN))(mk:List Bool)(hs:List (List (Option Nat)×(Nat->Rat))):Prop where
 ok:∀p∈hs,PlT off p.1/\∃S,fW m (mkG mk) (cG off p.1) S p.2
 up:hs.Pairwise λa b=>UpX e m b.2 a.2
section
variable{e:Bool}{ns:Φ}{off:List (List bN)}{mk:List Bool}{hs:List (List (Option Nat)×(Nat->Rat))}
theorem U5.len(h:U5 e ns.length off mk hs)(z:HlZ ns off):hs.length<=(IK off).length:=by
 have nd:(hs.map (·.1)).Nodup:=by
  unfold List.Nodup;rw[List.pairwise_map];refine h.up.imp_of_mem λ{a b}ha hb u eq=>?_;obtain⟨_,S,ca⟩:=h.ok a ha;obtain⟨_,S',cb⟩:=h.ok b hb;obtain⟨k,hk,w⟩:=u.2;rw[eq]at ca;rw[ca.uniq cb (z.cw _) hk]at w;exact Ii w
 have:=Nm nd (l':=IK off) λa ha=>by
  obtain⟨p,hp,rfl⟩:=YV.mp ha;exact Ym (h.ok p hp).1
 rw[ak]at this;exact this
theorem U5.cons{p:List (Option Nat)×(Nat->Rat)}(h:U5 e ns.length off mk hs)(hp:PlT off p.1){S:Nat->Bool}(hc:fW ns.length (mkG mk) (cG off p.1) S p.2)(hu:∀l,hs.head?=some l->UpX e ns.length l.2 p.2):U5 e ns.length off mk (p::hs):=by
 refine⟨λq hq=>?_,List.pairwise_cons.mpr ⟨λb hb=>?_,h.up⟩⟩
 .rcases YU.mp hq with rfl|hq
  .exact⟨hp,S,hc⟩
  .exact h.ok q hq
 .cases hs with
  |nil=>cases hb
  |cons l tl =>
   have u:=hu l rfl;rcases YU.mp hb with rfl|hb
   .exact u
   .exact((List.pairwise_cons.mp h.up).1 b hb).trans u
end
structure Fin(e:Bool)(ns:Φ)(off:List (List bN))(mk:List Bool)(c8:List (Option Nat))(p:PWs):Prop where
 pl:PlT off p.1
 xs:XsB ns.length p.2
 ch:∃S,fW ns.length (mkG mk) (cG off p.1) S (xG p.2)
 best:Best e ns.length (mkG mk) (λk=>off.getD k []) (xG p.2)
 lo:∃S x0,fW ns.length (mkG mk) (cG off c8) S x0/\∀k,k<ns.length->¬bet e (xG p.2 k) (x0 k)
structure Stl(e:Bool)(ns:Φ)(off:List (List bN))(mk:List Bool)(c8:List (Option Nat))(p:PWs)(cl:List (Option Nat)):Prop where
 pl:PlT off p.1
 xs:XsB ns.length p.2
 ch:∃S,fW ns.length (mkG mk) (cG off p.1) S (xG p.2)
 turn:pC e off mk p.2 p.1 cl
 lo:∃S x0,fW ns.length (mkG mk) (cG off c8) S x0/\∀k,k<ns.length->¬bet e (xG p.2 k) (x0 k)
def toT:Option PWs->T
 |none=>.non
 |some p=>pwT p
def Zi(e:Bool)(ns:Φ)(off:List (List bN))(mk:List Bool)(c8:List (Option Nat))(hs:List (List (Option Nat)×(Nat->Rat)))(cl:List (Option Nat)):Option PWs->Prop
 |none=>hs=[]/\cl=c8
 |some p=>hs.head?=some (p.1,xG p.2)/\Stl e ns off mk c8 p cl
theorem Zi.plan{e:Bool}{ns:Φ}{off:List (List bN)}{mk:List Bool}{c8 cl:List (Option Nat)}{hs:List (List (Option Nat)×(Nat->Rat))}{to:Option PWs}(h0:PlT off c8)(h:Zi e ns off mk c8 hs cl to):PlT off cl:=by
 cases to with
 |none=>rw[h.2];exact h0
 |some p=>exact h.2.turn.plan h.2.pl
theorem Zi.next{e:Bool}{ns:Φ}{off:List (List bN)}{mk:List Bool}{c8 cl f6:List (Option Nat)}{hs:List (List (Option Nat)×(Nat->Rat))}{to:Option PWs}(z:HlZ ns off)(h0:PlT off c8)(hh:U5 e ns.length off mk hs)(h:Zi e ns off mk c8 hs cl to)(ne:to.map (·.1)≠some cl){xs:List Rat}(hx:XsB ns.length xs){S:Nat->Bool}(hc:fW ns.length (mkG mk) (cG off cl) S (xG xs))(ht:pC e off mk xs cl f6):U5 e ns.length off mk ((cl,xG xs)::hs)/\Zi e ns off mk c8 ((cl,xG xs)::hs) f6 (some (cl,xs)):=by
 have hp:=h.plan h0;have hl:=z.h.len;cases to with
 |none =>
  obtain⟨rfl,rfl⟩:=h;exact⟨hh.cons hp hc λl e=>(nomatch e),rfl,hp,hx,⟨S,hc⟩,ht,S,xG xs,hc,λ_ _=>Ii⟩
 |some p =>
  obtain⟨eh,st⟩:=h;obtain⟨S',cp⟩:=st.ch;have n:cl≠p.1:=λw=>ne (by rw[w];rfl);have u:=alc (st.turn.turned st.pl (ns:=ns) hl.symm) cp hc (z.cw _) (z.cw _);refine⟨hh.cons hp hc λl e=>?_,rfl,hp,hx,⟨S,hc⟩,ht,by obtain⟨S',x0,c0,l0⟩:=st.lo;exact⟨S',x0,c0,λk hk=>abQ (l0 k hk) (u.1 k hk)⟩⟩;rw[eh]at e;cases e;exact u.2 (st.turn.moved st.pl (ns:=ns) hl.symm n)
def Cj(D:Adr)(mg:Str->Ω):ST:=λts q=>∃(e:Bool)(v:Addr)(s:Rat)(ns:Φ)(off:List (List bN))(mk:List Bool)(c8:List (Option Nat)),ts=[hlT D s ns off,blT mk,.lst (c8.map dT),.val (.ref v)]/\mg (nmQ e)=some (.ref v)/\HlZ ns off/\mk.length=ns.length/\PlT off c8/\∀p:PWs,Fin e ns off mk c8 p->q (.fz (pwT p))
theorem V7(T:Tx D)(qR:gT 9 pA iT (wO D))(tG:gT 4 rE jB (xP D mg))(F:Fu vH Fp f fd):FT 10 f fd nR (Cj D mg):=by
 refine F.okT Wb λaf A outer s H E hr nd=>?_;refine⟨_,(bH (bR 4 dU)
  (bH (bR 5 (qv 2))
  (bH (zL (QW.qt (iJ (bW nW (qv 4) dU) (fX (bW (lZ hr.units) (qv 5) (bL (qv 4) bG)))))
  (bH (bR 4 (d9 (bC (qv 5) (bC (bK qR (bC (qv 0) (bC (qv 1) (bC (qv 5) bF)))) bF))))
  (bJ (bR 5 (bK tG (bC (qv 0) (bC (qv 1) (bC (qv 4) (bC (qv 3) bF)))))))))
  (bJ (bT (qv 4)))))),?_⟩
 rintro _ R ⟨e,v,s,ns,off,mk,c8,rfl,hv,h,ml,hp,ok⟩;have hl:=h.h.len;refine⟨λm o=>∃(to:Option PWs)(cl:List (Option Nat))(hs:List (List (Option Nat)×(Nat->Rat))),o=[.fz (hlT D s ns off),.fz (blT mk),.fz (.lst (c8.map dT)),.fz (.val (.ref v)),.fz (toT to),.fz (.lst (cl.map dT))]/\U5 e ns.length off mk hs/\Zi e ns off mk c8 hs cl to/\m+hs.length=(IK off).length,⟨(IK off).length,none,c8,[],rfl,⟨λ_ z=>(nomatch z),List.Pairwise.nil⟩,⟨rfl,rfl⟩,rfl⟩,?_⟩;rintro m _ ⟨to,cl,hs,rfl,hh,si,em⟩;have hc:=si.plan hp;refine agr (decide (to.map (·.1)≠some cl)) (λq hq=>?_) (swD (λhn=>?_) λhn=>?_)
 .cases to with
  |none=>exact hq
  |some p =>
   show gEq true (.lst (cl.map dT)) (.lst (p.1.map dT)) λx=>match frz x with|.bl b=>q b|_=>False
   refine R8.gEq ?_;have e2:xr true (decide (cl=p.1))=decide ((some p).map (·.1)≠some cl):=by
    by_cases c:cl=p.1
    .rw[Zs c,c];simp
     rfl
    .rw[Zp c];have:¬(p.1=cl):=λz=>c z.symm;simp[this]
     rfl
   rw[e2];exact hq
 .refine⟨λo'=>∃(xs:List Rat)(f6:List (Option Nat))(S:Nat->Bool),o'=[.fz (hlT D s ns off),.fz (blT mk),.fz (.lst (c8.map dT)),.fz (.val (.ref v)),.fz (pwT (cl,xs)),.fz (.lst (f6.map dT))]/\XsB ns.length xs/\fW ns.length (mkG mk) (cG off cl) S (xG xs)/\pC e off mk xs cl f6,?_,?_⟩
  .rintro _ ⟨xs,f6,S,rfl,h1,h2,h3⟩;obtain⟨n1,n2⟩:=si.next h hp hh hn h1 h2 h3;have l:=n1.len h;rw[List.length_cons]at l;exact⟨(IK off).length-(hs.length+1),by omega,some (cl,xs),f6,(cl,xG xs)::hs,rfl,n1,n2,by rw[List.length_cons];exact Nat.sub_add_cancel l⟩
  .refine⟨s,ns,off,mk,cl,rfl,h,ml,hc,λS x ch fb=>?_⟩;have xm:((List.range ns.length).map x).map frR=(List.range ns.length).map λi=>frR (x i):=by rw[WU];rfl
   have xg:∀k,k<ns.length->((List.range ns.length).map x).getD k 0=x k:=λk hk=>by rw[au,aq,VZ hk];rfl
   have xb:XsB ns.length ((List.range ns.length).map x):=⟨by rw[ak,WP],λr hr=>by
    obtain⟨i,hi,rfl⟩:=YV.mp hr;exact fb i (List.mem_range.mp hi),λr hr=>by
    obtain⟨i,hi,rfl⟩:=YV.mp hr;exact ch.nn (h.cw _) i (List.mem_range.mp hi),λr hr=>by
    obtain⟨i,hi,rfl⟩:=YV.mp hr;exact ch.le1 (h.cw _) i (List.mem_range.mp hi)⟩
   have cx:fW ns.length (mkG mk) (cG off cl) S (xG ((List.range ns.length).map x)):=ch.congr (h.cw _) λk hk=>(xg k hk).symm;rw[<- xm];exact⟨e,v,s,ns,off,mk,(cl,(List.range ns.length).map x),rfl,hv,h,ml,hc,xb,λf6 ht=>⟨_,f6,S,rfl,xb,cx,ht⟩⟩
 .have hn:to.map (·.1)=some cl:=Decidable.not_not.mp hn;cases to with
  |none=>cases hn
  |some p =>
   cases hn;obtain⟨S,c⟩:=si.2.ch;exact ok p ⟨si.2.pl,si.2.xs,⟨S,c⟩,si.2.turn.best si.2.pl h c,si.2.lo⟩
def Km(off:List (List bN)):List (Option Nat):=off.map λds=>if 0<ds.length then some 0 else none
theorem Tj(off:List (List bN)):PlT off (Km off):=by
 refine⟨ak ..,λk d ds e1 e2=>?_⟩;unfold Km at e1;rw[aq,e2]at e1;cases e1;show X6 (if 0<ds.length then some 0 else none) ds.length=true;split
 .rename_i h;exact Zs h
 .rename_i h;exact Zs (by lia)
def tR(D:Adr):ST:=λts q=>∃(s:Rat)(ns:Φ)(off:List (List bN)),ts=[hlT D s ns off]/\Qs ns off/\q (.l1 ((Km off).map dT))
theorem Lh(T:Tx D)(dX:gI 1 D.Hall_size gB (mH D))(c7:gI 3 D.Hall_offers eU (uP D))(F:Fu oM pU f fd):FT 4 f fd i_ (tR D):=by
 refine F.okT Lf λaf A outer s H E hr nd=>?_;refine⟨_,(bJ (bT (cH (bI pU) vd vd ["room"] (eY T.gJ (bC (yp (qv 0) T.jN T.pQ dX (KS:=lE)) bF)) (dh (i:=0)) cg (Ek (bW xW (bZ eN T.gD WG (bC (Ak (qv 1) T.jN T.mR c7 (bC (qv 0) bF) (KS:=lE)) bF)) bG) bG dU)))),?_⟩;rintro _ R ⟨s,ns,off,rfl,h,q⟩;have few:=h.few;have hl:=h.len;have em:(List.range ns.length).map (λk=>dT (if 0<(off.getD k []).length then some 0 else none))=(Km off).map dT:=by
  refine List.ext_getElem? λk=>?_;unfold Km;rw[aq,aq,aq];by_cases hk:k<ns.length
  .rw[VZ hk,aj (show k<off.length by lia)];show some (dT (if 0<(off.getD k []).length then some 0 else none))=some (dT (if 0<off[k].length then some 0 else none));rw[show off.getD k []=off[k]by rw[au,aj (show k<off.length by lia)];rfl]
  .rw[aM (by rw[WP];exact VU hk),aM (show off.length<=k by lia)]
   rfl
 refine⟨⟨rfl,rfl⟩,s,ns,off,rfl,⟨by lia,by lia⟩,by rw[rng,ak,WP];exact aL (show _<=1000 by lia) (by decide),N_ (λk=>dT (if 0<(off.getD k []).length then some 0 else none)) ns.length (λk hk N M hN=>?_) ?_⟩
 .have ek:=aj (show k<off.length by lia);rw[au,ek]at hN;have hN:N (dT (if 0<off[k].length then some 0 else none)):=hN;refine⟨⟨rfl,rfl⟩,s,ns,off,k,_,rfl,h,ek,?_⟩;by_cases c:0<off[k].length
  .rw[ZY c]at hN;exact swT (Zs (by rw[ak];lia)) hN
  .rw[ZZ c]at hN;exact swF (Zp (by rw[ak];lia)) hN
 .rw[em];exact q
structure Dj(off:List (List bN))(mk:List Bool)(st:List (Option Nat))(k:Nat)(pl:List (Option Nat)):Prop where
 fit:PlT off pl
 ok:∀(i:Nat)ds,i<k->off[i]?=some ds->cT st i=false->ds≠[]->∃j o,pl[i]?=some (some j)/\ds[j]?=some o/\mtS (cT st) (o.ways.map (·.1))=false
theorem Y4{ns:Φ}{off:List (List bN)}{mk:List Bool}{st pl:List (Option Nat)}(h:HlZ ns off)(ml:mk.length=ns.length)(hs:Steps true mk (ldL mk off) st)(hk:Dj off mk st ns.length pl){S:Nat->Bool}{x:Nat->Rat}(hc:fW ns.length (mkG mk) (cG off pl) S x):∀k,k<ns.length->cT st k=false->x k=0:=λk0 eL s0=>by
 have hl:=h.h.len;have up:∀k,k<ns.length->S k=true->cT st k=true:=hc.lf.least (cT st) (λk hk g=>hs.lf.base k (by lia) g) λk lk j=>by
  obtain⟨o,eo,w,hw,sw⟩:=E_ j;refine Classical.byContradiction λno=>?_;have no:cT st k=false:=by cases z:cT st k with|true=>exact absurd z no|false=>rfl
  have ek:=aj (show k<off.length by lia);obtain⟨ds,e1,e2⟩:=FZ eo;rw[ek]at e1;cases e1;obtain⟨i,p,ei,ep,mt⟩:=hk.ok k _ lk ek no λz=>by rw[z]at e2;cases e2
  rw[uW ei ek]at eo;have eo:off[k][i]?=some o:=eo;rw[ep]at eo;cases eo;have:mtS (cT st) (o.ways.map (·.1))=true:=List.any_eq_true.mpr ⟨w.1,YV.mpr ⟨w,hw,rfl⟩,sw⟩;rw[mt]at this;cases this
 refine hc.no k0 eL ?_;cases z:S k0 with
 |true=>rw[up k0 eL z]at s0;cases s0
 |false=>rfl
theorem Tf:∀{bs:List Bool},bs.all (λb=>b)=false->∃j:Nat,bs[j]?=some false/\∀i:Nat,i<j->bs[i]?=some true
 |[],h=>by cases h
 |false::bs,_=>⟨0,rfl,λi z=>absurd z (WZ _)⟩
 |true::bs,h=>by
  obtain⟨j,e,n⟩:=Tf (bs:=bs) h;refine⟨j+1,e,λi hi=>?_⟩;cases i with
  |zero=>rfl
  |succ i=>exact n i (Nat.lt_of_succ_lt_succ hi)
theorem Dj.skip{off:List (List bN)}{mk:List Bool}{st pl:List (Option Nat)}{k:Nat}(h:Dj off mk st k pl)(n:∀ds,off[k]?=some ds->cT st k=true\/ds=[]):Dj off mk st (k+1) pl:=⟨h.fit,λi ds hi eo s ne=>by
 by_cases c:i=k
 .subst c;rcases n ds eo with z|z
  .rw[z]at s;cases s
  .exact absurd z ne
 .exact h.ok i ds (XX (VW hi) c) eo s ne⟩
theorem Dj.put{off:List (List bN)}{mk:List Bool}{st pl:List (Option Nat)}{k j:Nat}{ds:List bN}{o:bN}(h:Dj off mk st k pl)(eo:off[k]?=some ds)(ej:ds[j]?=some o)(m:mtS (cT st) (o.ways.map (·.1))=false):Dj off mk st (k+1) (pl.set k (some j)):=by
 have lk:k<pl.length:=by rw[h.fit.len];exact(ao.mp eo).1
 have at_:(pl.set k (some j))[k]?=some (some j):=by rw[UU lk]
 refine⟨⟨by rw[WH];exact h.fit.len,λi d hZ ei es=>?_⟩,λi hZ hi es s ne=>?_⟩
 .by_cases c:i=k
  .subst c;rw[at_]at ei;rw[eo]at es;cases ei;cases es;exact Zs (ao.mp ej).1
  .rw[VV (λz=>c z.symm)]at ei;exact h.fit.ok i d hZ ei es
 .by_cases c:i=k
  .subst c;rw[eo]at es;cases es;exact⟨j,o,at_,ej,m⟩
  .rw[VV (λz=>c z.symm)];exact h.ok i hZ (XX (VW hi) c) es s ne
def wN(D:Adr):ST:=λts q=>∃(s:Rat)(ns:Φ)(off:List (List bN))(gs:List Nat),ts=[hlT D s ns off,blT (mkL ns.length gs)]/\HlZ ns off/\∀st pl:List (Option Nat),Steps true (mkL ns.length gs) (ldL (mkL ns.length gs) off) st->Dj off (mkL ns.length gs) st ns.length pl->q (.l1 (pl.map dT))
theorem HN(T:Tx D)(dJ:gT 4 jH gw (lW D))(cN:gT 3 gZ fH (ju mg))(jR:gT 4 oM i_ (tR D))(pZ:gT 1 zO qH Er)(fZ:gT 2 lU jw (gP true))(F:Fu pH nq f fd):FT 5 f fd iU (wN D):=by
 refine F.okT Hl λaf A outer s H E hr nd=>?_;obtain⟨vs,ax,_⟩:=OkF.val fZ;refine⟨_,(bH (bR 2 (bK dJ (bC (qv 0) (bC (qv 1) bF))))
  (bH (bR 3 (bK cN (bC (qv 1) (bC (qv 2) (bC (vY (by rfl) ax) bF)))))
  (bH (jg 4 (bK jR (bC (qv 0) bF)))
  (bH (dY (sy T.g8 (bC (qv 2) bF)) (fB (n:=2) (bQ (cj (n:=99) 5) (bQ (cj (n:=99) 6) dG)))
  (bJ (cF (QW.qt (Qe (bW nW (bL (qv 3) (qv 5)) dU) (Ig (bW xW (bZ eN T.gD WG (bC (qv 6) bF)) bG))))
  (bJ (lM 4 (acL hr.units (cH (bI nq) rH rH ["door"] (b_ (qv 6)) (dh (i:=0)) cg (bK pZ (bC (qv 0) (bC (qv 4) bF)))) (bC mU bF)) (qv 5)))
  bU)))
  (bJ (jj 4)))))),?_⟩
 rintro _ R ⟨s,ns,off,gs,rfl,h,q⟩;have hw:=h.toW;have ml:=gH ns.length gs;generalize emk:mkL ns.length gs=mk at *;refine⟨s,ns,off,mk,rfl,h.h,ml,hw.fw,true,vs,mk,ldL mk off,rfl,ax,by rw[ml];exact hw.few,emk ▸ hw.ld gs,λst hs=>⟨s,ns,off,rfl,h.h,?_⟩⟩;have hl:=h.h.len;have lb:LdB mk.length (ldL mk off):=emk ▸ hw.ld gs;refine uN nT (ldL mk off) (λk o=>∃pl x y,o=[.fz (hlT D s ns off),.fz (blT mk),.fz (.lst ((ldL mk off).map nT)),.fz (.lst (st.map dT)),.l1 (pl.map dT),x,y]/\Dj off mk st k pl) ⟨Km off,.und,.und,rfl,Tj off,λi _ z=>absurd z (WZ _)⟩ ?_ ?_
 .rintro k dd _ e ⟨pl,x,y,rfl,kp⟩;have lk:=(ao.mp e).1;rw[lb.len]at lk;have ed:ldO (mkG mk) (jf off) k=dd:=by
   rw[<- Jl lk];show(ldL mk off).getD k []=dd;rw[au,e]
   rfl
  have es:=aj (show k<st.length by rw[hs.len];exact lk);have ek:=aj (show k<off.length by lia);have sk:cT st k=(st[k]'(by rw[hs.len];exact lk)).isSome:=by unfold cT;rw[au,es];rfl
  refine⟨rfl,_,cW es,?_⟩;cases c:st[k]'(by rw[hs.len];exact lk)with
  |some n =>
   rw[c]at sk;exact⟨pl,_,_,rfl,kp.skip λ_ _=>.inl sk⟩
  |none =>
   rw[c]at sk;have m0:mkG mk k=false:=by
    cases z:mkG mk k with
    |false=>rfl
    |true=>rw[hs.lf.base k lk z]at sk;cases sk
   have e2:dd=off[k].map λo=>o.ways.map (·.1):=by
    rw[<- ed];unfold ldO;rw[m0];show(off.getD k []).map _=_;rw[au,ek]
    rfl
   refine swD (λz=>?_) λz=>⟨pl,_,_,rfl,kp.skip λds eo=>.inr ?_⟩
   .have z:0<dd.length:=by rw[ak]at z;lia
    have nm:(dd.map (mtS (cT st))).all (λb=>b)=false:=by
     cases w:(dd.map (mtS (cT st))).all (λb=>b)with
     |false=>rfl
     |true =>
      have:=hs.lf.step k lk (by
       show jn true (ldG (ldL mk off) k) (cT st)=true;rw[Jl lk,ed];show(decide (0<dd.length)&&dd.all (mtS (cT st)))=true;rw[List.all_map]at w;rw[Zs z];exact w)
      rw[sk]at this;cases this
    obtain⟨j,ej,nj⟩:=Tf nm;have lj:j<off[k].length:=by have:=(ao.mp ej).1;rw[ak,e2,ak]at this;exact this
    have mj:mtS (cT st) (off[k][j].ways.map (·.1))=false:=by
     rw[e2,WU,aq,aj lj]at ej;exact Option.some.inj ej
    have md:=aC e;have fw:=lb.few _ md;refine⟨by rw[ak];exact aL fw (by decide),comp_map ntT (λd=>.bl (mtS (cT st) d)) dd (λd hd N M hN=>⟨d,st,rfl,(lb.ok _ md d hd).1,by rw[hs.len];exact(lb.ok _ md d hd).2,hN⟩) ⟨(dd.map (mtS (cT st))).map PyData.bool,.bool false,j,?_,rfl,Es.lst _,rfl,by rw[ak];exact aL fw (by decide),⟨_,by rw[aq,ej];rfl,rfl⟩,λi g hi eg=>?_,k,wg (by rw[ak,kp.fit.len];lia),pl.set k (some j),.fz (.int (k:Nat)),.fz (nT dd),?_,kp.put ek (aj lj) mj⟩⟩
    .rw[<- yM Es.of,WU]
     rfl
    .rw[aq,nj i hi]at eg;cases eg
     rfl
    .rw[Th]
     rfl
   .rw[ek]at eo;cases eo;rw[e2,ak,ak]at z;exact List.length_eq_zero_iff.mp (by lia)
 .rintro _ ⟨pl,x,y,rfl,kp⟩;rw[lb.len,ml]at kp;exact q st pl hs kp
structure ChP(e:Bool)(ns:Φ)(off:List (List bN))(gs:List Nat)(p:PWs):Prop where
 pl:PlT off p.1
 xs:XsB ns.length p.2
 ch:∃S,fW ns.length (mkF gs) (cG off p.1) S (xG p.2)
 best:Best e ns.length (mkF gs) (jf off) (xG p.2)
 no:e=true->∀S,Lfp true ns.length (mkF gs) (ldO (mkF gs) (jf off)) S->∀k,k<ns.length->S k=false->xG p.2 k=0
theorem fW.marks{m:Nat}{mk mk' S:Nat->Bool}{c:Nat->Option bN}{x:Nat->Rat}(h:fW m mk c S x)(e:∀k,k<m->mk k=mk' k):fW m mk' c S x:=⟨h.lf.marks e,λk hk g=>h.goal k hk (by rw[e k hk];exact g),λk hk g=>h.mean k hk (by rw[e k hk];exact g),h.no⟩
theorem Fin.chp{e:Bool}{ns:Φ}{off:List (List bN)}{gs:List Nat}{c8:List (Option Nat)}{p:PWs}(h:Fin e ns off (mkL ns.length gs) c8 p)(z:e=true->∀S,Lfp true ns.length (mkF gs) (ldO (mkF gs) (jf off)) S->∀k,k<ns.length->S k=false->xG p.2 k=0):ChP e ns off gs p:=by
 have me:∀k,k<ns.length->mkG (mkL ns.length gs) k=mkF gs k:=λk hk=>Gf hk;obtain⟨S,c⟩:=h.ch;exact⟨h.pl,h.xs,⟨S,c.marks me⟩,⟨λk hk g=>h.best.ok k hk (by rw[me k hk];exact g)⟩,z⟩
def vV(D:Adr)(e:Bool):ST:=λts q=>∃(s:Rat)(ns:Φ)(off:List (List bN))(gs:List Nat),ts=[hlT D s ns off,ntT gs]/\HlZ ns off/\abx ns gs/\∀p:PWs,ChP e ns off gs p->q (.fz (pwT p))
theorem Av(T:Tx D)(cC:gT 3 fG cZ (gG D))(jR:gT 4 oM i_ (tR D))(qj:gT 10 vH nR (Cj D mg))(nQ:gT 2 oW lV (sY false))(F:Fu kh lN f fd):FT 11 f fd fj (vV D false):=by
 refine F.okT Ao λaf A outer s H E hr nd=>?_;obtain⟨vs,cS,_⟩:=OkF.val nQ;refine⟨_,(bJ (bT (bK qj (bC (qv 0) (bC (bK cC (bC (qv 0) (bC (qv 1) bF))) (bC (bK jR (bC (qv 0) bF)) (bC (vY (by rfl) cS) bF))))))),?_⟩;rintro _ R ⟨s,ns,off,gs,rfl,h,hg,q⟩;exact⟨s,ns,off,gs,rfl,h.h,hg,s,ns,off,rfl,h.h,false,vs,s,ns,off,mkL ns.length gs,Km off,rfl,cS,h,gH _ _,Tj off,λp f=>q p (f.chp λz=>(nomatch z))⟩
theorem FN(T:Tx D)(cC:gT 3 fG cZ (gG D))(rW:gT 5 pH iU (wN D))(qj:gT 10 vH nR (Cj D mg))(Ad:gT 2 yj uK (sY true))(F:Fu nY pF f fd):FT 11 f fd gR (vV D true):=by
 refine F.okT Fd λaf A outer s H E hr nd=>?_;obtain⟨vs,dy,_⟩:=OkF.val Ad;refine⟨_,(bH (bR 2 (bK cC (bC (qv 0) (bC (qv 1) bF))))
  (bJ (bT (bK qj (bC (qv 0) (bC (qv 2) (bC (bK rW (bC (qv 0) (bC (qv 2) bF))) (bC (vY (by rfl) dy) bF)))))))),?_⟩
 rintro _ R ⟨s,ns,off,gs,rfl,h,hg,q⟩;refine⟨s,ns,off,gs,rfl,h.h,hg,s,ns,off,gs,rfl,h,λst pl hs kp=>⟨true,vs,s,ns,off,mkL ns.length gs,pl,rfl,dy,h,gH _ _,kp.fit,λp f=>q p (f.chp λ_ S lf k hk sk=>?_)⟩⟩;obtain⟨S0,x0,c0,l0⟩:=f.lo;have z0:=Y4 h (gH _ _) hs kp c0 k hk (by rw[V2 hs.hall lf hk];exact sk);have a:¬x0 k<xG p.2 k:=l0 k hk;have b:=(f.xs.get k).1;rw[z0]at a;exact Rat.le_antisymm (Rat.not_lt.mp a) b
def Sx:ST:=λts q=>∃i:Int,ts=[.int i]/\q (.fz (.bl true))
theorem abr(T:Tx D)(F:Fu IW RX f fd):FT 1 f fd xU Sx:=by
 refine F.okT acg λaf A outer s H E hr nd=>?_;refine⟨_,(bJ (bT (Ka (zV .int (qv 0) T.gA T.acj boot_int) (KJ (abM (zV .bool (qv 0) T.gA T.abt boot_bool)))))),?_⟩;rintro _ R ⟨i,rfl,q⟩;exact q
def xO:ST:=λts q=>∃r:Rat,ts=[frR r]/\q (.fz (.bl true))
theorem K6(T:Tx D)(Il:gT 1 IW xU Sx)(M7:gT 1 R3 Gd WT)(F:Fu q_ uh f fd):FT 2 f fd jK xO:=by
 refine F.okT JG λaf A outer s H E hr nd=>?_;refine⟨_,(bH (cF (QW.qt (iJ (fL (dz (zV .tuple (qv 0) T.gA T.Xh boot_tuple))) (fX (bW (lZ hr.units) (bZ eN T.gD WG (bC (qv 0) bF)) bG))))
  (bJ (bT mU))
  bU)
  (bH (cF (QW.qt (iJ (fL (dz (bK Il (bC (bL (qv 0) bG) bF)))) (fX (fL (dz (bK Il (bC (bL (qv 0) bG) bF)))))))
  (bJ (bT mU))
  bU)
  (bJ (bT (Ka (jE xW (bL (qv 0) bG) bG) (KJ (jE (go_eq hr.units) (bK M7 (bC (bL (qv 0) bG) (bC (bL (qv 0) bG) bF))) bG))))))),?_⟩
 rintro _ R ⟨r,rfl,q⟩;have:=r.den_pos;refine⟨_,rfl,_,rfl,swT (Zs (by lia)) ⟨_,_,rfl,?_⟩⟩;rw[show Int.gcd r.num r.den=1 from r.reduced];exact q
def Dw:ST:=λts q=>∃(rs:List Rat)(m:Nat),ts=[.lst (rs.map frR),.int (m:Nat)]/\rs.length=m/\m<=1000/\q (.fz (.bl true))
theorem Om(T:Tx D)(ur:gT 2 q_ jK xO)(F:Fu u9 sU f fd):FT 3 f fd mO Dw:=by
 refine F.okT QF λaf A outer s H E hr nd=>?_;refine⟨_,(bH (cF (QW.qt (iJ (fL (dz (zV .list (qv 0) T.gA T.vJ boot_list))) (fX (bW (lZ hr.units) (bZ eN T.gD WG (bC (qv 0) bF)) (qv 1)))))
  (bJ (bT mU))
  bU)
  (bJ (bT (bZ (Qf rfl) T.Xr boot_all (bC (cH (bI sU) yQ yQ ["_law_one"] (b_ (qv 0)) (dh (i:=0)) cg (bK ur (bC (qv 0) bF))) bF))))),?_⟩
 rintro _ R ⟨rs,m,rfl,hl,hm,q⟩;refine swF (by rw[ak,hl,Zs rfl];rfl) ⟨by rw[ak,hl];exact aL hm (by decide),comp_map frR (λ_=>.bl true) rs (λr _ N M hN=>⟨r,rfl,hN⟩) ⟨rs.map λ_=>true,by rw[WU];rfl,?_⟩⟩;have e:((rs.map λ_=>true).all λb=>b)=true:=by simp
 rw[<- e]at q;exact q
def U4:ST:=λts q=>∃(c:Int)(m:Nat),ts=[.int c,.int (m:Nat)]/\m<=8/\∀gs:List Nat,gs.length<=9->(∀g∈gs,g<m)->q (.l1 (gs.map inT))
theorem abL(T:Tx D)(eZ:gT 1 nU j6 qd)(F:Fu Jk Iv f fd):FT 2 f fd zZ U4:=by
 refine F.okT aam λaf A outer s H E hr nd=>?_;refine⟨_,(bH (cF (bW (go_eq hr.units) (qv 1) bG)
  (bJ (bT (dN bF)))
  bU)
  (bH (bR 2 (bK eZ (bC (qv 0) (bC bG bF))))
  (bJ (bT (cH (bI Iv) N5 N5 ["_law_x"] (b_ (mL (qv 2) (iG bG) (iG (bO dW bG (bO cJ (bL (qv 2) bG) (bL (dN (bC bG (bC bG (bC bG (bC bG bF))))) (bO cJ (bL (qv 2) bG) bG))))))) (dh (i:=0)) cg (bO cJ (qv 0) (qv 2))))))),?_⟩
 rintro _ R ⟨c,m,rfl,hm,q⟩;refine swD (λz=>q [] (by decide) λg hg=>(nomatch hg)) λz=>?_;refine⟨c,9,rfl,by decide,?_⟩;obtain⟨d,ed,hd⟩ : ∃d:Int,ixT [L2.T.int 4,L2.T.int 4,L2.T.int 4,L2.T.int 8] (strm c 8%4)=some (.int d)/\0<d:=by
  rcases(show strm c 8%4=0\/strm c 8%4=1\/strm c 8%4=2\/strm c 8%4=3 by lia)with z|z|z|z<;>rw[z]
  .exact⟨4,rfl,by decide⟩
  .exact⟨4,rfl,by decide⟩
  .exact⟨4,rfl,by decide⟩
  .exact⟨8,rfl,by decide⟩
 refine⟨_,rfl,_,rfl,by decide,_,ed,hd,?_⟩;show(gU ((jc c 9).map L2.T.int) (some 1) (some (1+strm c 0%d))).length<=sizeLine/\iR _ _ _ _ (gU ((jc c 9).map L2.T.int) (some 1) (some (1+strm c 0%d))) _;generalize 1+strm c 0%d=u;rw[Ag];have l9:(gU (jc c 9) (some 1) (some u)).length<=9:=by
  unfold gU;rw[aY,U2];have:(jc c 9).length=9:=rfl;lia
 refine⟨by rw[ak];exact aL l9 (by decide),comp_map L2.T.int (λx:Int=>.int (x%((m:Nat):Int))) _ (λx _ N M hN=>⟨by lia,hN⟩) ?_⟩;have e:(gU (jc c 9) (some 1) (some u)).map (λx:Int=>L2.T.int (x%((m:Nat):Int)))=((gU (jc c 9) (some 1) (some u)).map λx:Int=>(x%((m:Nat):Int)).toNat).map inT:=by
  rw[WU];refine US λx _=>?_;show L2.T.int _=L2.T.int _;rw[Int.toNat_of_nonneg (Z3 _ (by omega))]
 rw[e];refine q _ (by rw[ak];exact l9) λg hg=>?_;obtain⟨x,_,rfl⟩:=YV.mp hg;have:=YY x (show(0:Int)<(m:Nat)by lia);have:=Z3 x (show((m:Nat):Int)≠0 by omega);lia
def adp(ns:Φ)(off:List (List bN))(gs:List Nat):Nat->T->Prop
 |0,t=>∃p,ChP false ns off gs p/\t=.lst (p.2.map frR)
 |1,t=>∃st:List (Option Nat),st.length=ns.length/\Lfp false ns.length (mkF gs) (ldO (mkF gs) (jf off)) (cT st)/\t=.lst (st.map dT)
 |2,t=>∃L:List Bool,L.length=ns.length/\Oo ns.length (mkF gs) (ldO (mkF gs) (jf off)) (blG L)/\t=blT L
 |3,t=>∃p,ChP true ns off gs p/\t=.lst (p.2.map frR)
 |4,t=>∃st:List (Option Nat),st.length=ns.length/\Lfp true ns.length (mkF gs) (ldO (mkF gs) (jf off)) (cT st)/\t=.lst (st.map dT)
 |5,t=>∃(L:List Bool)(Fo R:Nat->Bool),L.length=ns.length/\Lfp true ns.length (mkF gs) (ldO (mkF gs) (jf off)) Fo/\Lfp false ns.length (λk=>!(Fo k)) (ldO (mkF gs) (jf off)) R/\(∀k,k<ns.length->blG L k = !(R k))/\t=blT L
 |_,_=>False
def R9(D:Adr):ST:=λts q=>∃(s:Rat)(ns:Φ)(off:List (List bN))(gs:List Nat)(t:Nat),ts=[hlT D s ns off,ntT gs,.int (t:Nat)]/\HlZ ns off/\abx ns gs/\gs.length<=9/\∀as:List T,as.length=6->(∀j,j<6->adp ns off gs j (as.getD j .non))->q (.l1 as)
theorem abY(T:Tx D)(lQ:gT 11 kh fj (vV D false))(o8:gT 11 nY gR (vV D true))(qD:gT 5 o9 iM (z6 D false))(rP:gT 5 pG iW (z6 D true))(vP:gT 5 tK kJ (Bb D))(tZ:gT 5 qF jD (za D))(F:Fu K4 O5 f fd):FT 12 f fd yX (R9 D):=by
 refine F.okT abX λaf A outer s H E hr nd=>?_;refine⟨_,(bH (jg 3 (bO cY (dN (bC dU bF)) bG))
  (bH (dY (eY T.gJ (bC bG bF)) (cj (n:=99) 4)
  (bH (bR 5 (bO cJ (bO dW (qv 4) (qv 2)) bG))
  (bH (cF (bW (go_eq hr.units) (qv 5) bG)
  (bJ (lM 3 (bL (bK lQ (bC (qv 0) (bC (jY sV T.vJ boot_list (bC (qv 1) bF)) bF))) bG) bG))
  bU)
  (bH (cF (bW (go_eq hr.units) (qv 5) bG)
  (bJ (lM 3 (bK qD (bC (qv 0) (bC (jY sV T.vJ boot_list (bC (qv 1) bF)) bF))) bG))
  bU)
  (bH (cF (bW (go_eq hr.units) (qv 5) bG)
  (bJ (lM 3 (bK vP (bC (qv 0) (bC (jY sV T.vJ boot_list (bC (qv 1) bF)) bF))) bG))
  bU)
  (bH (cF (bW (go_eq hr.units) (qv 5) bG)
  (bJ (lM 3 (bL (bK o8 (bC (qv 0) (bC (jY sV T.vJ boot_list (bC (qv 1) bF)) bF))) bG) bG))
  bU)
  (bH (cF (bW (go_eq hr.units) (qv 5) bG)
  (bJ (lM 3 (bK rP (bC (qv 0) (bC (jY sV T.vJ boot_list (bC (qv 1) bF)) bF))) bG))
  bU)
  (bJ (cF (bW (go_eq hr.units) (qv 5) bG)
  (bJ (lM 3 (bK tZ (bC (qv 0) (bC (jY sV T.vJ boot_list (bC (qv 1) bF)) bF))) bG))
  bU)))))))))
  (bJ (jj 3)))),?_⟩
 rintro _ R ⟨s,ns,off,gs,t,rfl,h,hg,gl,q⟩;refine⟨by decide,λz hz=>⟨by decide,uU (n:=6) (λk o=>∃as x y,o=[.fz (hlT D s ns off),.fz (ntT gs),.fz (.int (t:Nat)),.l1 as,x,y]/\as.length=6/\∀i,i<k->adp ns off gs ((i+t)%6) (as.getD ((i+t)%6) .non)) ⟨z,.und,.und,rfl,by rw[hz];rfl,λi z=>absurd z (WZ _)⟩ ?_ ?_⟩⟩
 .rintro k _ hk ⟨as,x,y,rfl,la,ha⟩;have fin:∀(j:Nat)(v:L2.T),(k+t)%6=j->adp ns off gs j v->∃fA x' y',[OT.fz (hlT D s ns off),.fz (ntT gs),.fz (.int (t:Nat)),.l1 (as.set j v),.fz (.int (k:Nat)),.fz (.int (j:Nat))]=[.fz (hlT D s ns off),.fz (ntT gs),.fz (.int (t:Nat)),.l1 fA,x',y']/\fA.length=6/\∀i,i<k+1->adp ns off gs ((i+t)%6) (fA.getD ((i+t)%6) .non):=λj v ej hv=>by
   refine⟨as.set j v,_,_,rfl,by rw[WH];exact la,λi hi=>?_⟩;rw[au];by_cases c:(i+t)%6=j
   .rw[c,UU (by lia)];exact hv
   .rw[VV (λz=>c z.symm),<- au];exact ha i (by
     have:i≠k:=λz=>c (by rw[z];exact ej);lia)
  have ew:(((k:Nat):Int)+((t:Nat):Int))%6=(((k+t)%6:Nat):Int):=by lia
  have ix:∀j:Nat,j<6->ixN as.length (j:Nat)=some j:=λj hj=>wg (by lia);refine⟨by decide,?_⟩;rw[ew];have lt:(k+t)%6<6:=Nat.mod_lt _ (by decide);generalize(k+t)%6=j at fin lt;rcases(show j=0\/j=1\/j=2\/j=3\/j=4\/j=5 by lia)with rfl|rfl|rfl|rfl|rfl|rfl
  .exact⟨s,ns,off,gs,rfl,h,hg,λp hp=>⟨0,ix 0 (by decide),fin 0 _ rfl ⟨p,hp,rfl⟩⟩⟩
  .exact⟨s,ns,off,gs,rfl,h.toW,hg,λst l1 l2=>⟨1,ix 1 (by decide),fin 1 _ rfl ⟨st,l1,l2,rfl⟩⟩⟩
  .exact⟨s,ns,off,gs,rfl,h.toW,hg,λL l1 l2=>⟨2,ix 2 (by decide),fin 2 _ rfl ⟨L,l1,l2,rfl⟩⟩⟩
  .exact⟨s,ns,off,gs,rfl,h,hg,λp hp=>⟨3,ix 3 (by decide),fin 3 _ rfl ⟨p,hp,rfl⟩⟩⟩
  .exact⟨s,ns,off,gs,rfl,h.toW,hg,λst l1 l2=>⟨4,ix 4 (by decide),fin 4 _ rfl ⟨st,l1,l2,rfl⟩⟩⟩
  .exact⟨s,ns,off,gs,rfl,h.toW,hg,λFo R' L l1 l2 l3 l4=>⟨5,ix 5 (by decide),fin 5 _ rfl ⟨L,Fo,R',l1,l2,l3,l4,rfl⟩⟩⟩
 .rintro _ ⟨as,x,y,rfl,la,ha⟩;refine q as la λj hj=>?_;have e:((j+6-t%6)%6+t)%6=j:=by lia
  have:=ha ((j+6-t%6)%6) (Nat.mod_lt _ (by decide));rw[e]at this;exact this
structure alr(m:Nat)(xs ys:List Rat)(st bu:List (Option Nat))(L L':List Bool):Prop where
 lx:xs.length=m
 ly:ys.length=m
 ls:st.length=m
 ls':bu.length=m
 lL:L.length=m
 lL':L'.length=m
 z:∀k,k<m->(xG xs k=0↔cT st k=false)
 o:∀k,k<m->(xG xs k=1↔blG L k=true)
 z':∀k,k<m->(xG ys k=0↔cT bu k=false)
 o':∀k,k<m->(xG ys k=1↔blG L' k=true)
 nn:∀k,k<m->0<=xG ys k
 l1:∀k,k<m->xG xs k<=1
 le:∀k,k<m->xG ys k<=xG xs k
 bx:∀x∈xs,FnB (10^39) x
 bY:∀x∈ys,FnB (10^39) x
def lnT:L2.T->L2.T
 |.lst ts=>.int (ts.length:Nat)
 |_=>.non
def Vf:ST:=λts q=>∃(m:Nat)(xs ys:List Rat)(st bu:List (Option Nat))(L L':List Bool),ts=[.lst [.lst (xs.map frR),.lst (st.map dT),blT L,.lst (ys.map frR),.lst (bu.map dT),blT L'],.int (m:Nat)]/\m<=8/\alr m xs ys st bu L L'/\q (.fz (.bl true))
theorem aby(T:Tx D)(sX:gT 3 u9 mO Dw)(F:Fu Js Ib f fd):FT 4 f fd zH Vf:=by
 refine F.okT aaW λaf A outer s H E hr nd=>?_;refine⟨_,(bH (W2 (qv 0) (aau (n:=6) rfl (bQ (cj (n:=99) 3) (bQ (cj (n:=99) 4) (bQ (cj (n:=99) 5) (bQ (cj (n:=99) 6) (bQ (cj (n:=99) 7) (bQ (cj (n:=99) 8) dG))))))))
  (bH (cF (QW.qt (iJ (fL (dz (bK sX (bC (qv 3) (bC (qv 1) bF))))) (fX (fL (dz (bK sX (bC (qv 6) (bC (qv 1) bF))))))))
  (bJ (bT mU))
  bU)
  (bH (cF (bW (lZ hr.units) (cH (bI Ib) RV RV ["_law_some"] (b_ (qv 0)) (dh (i:=0)) cg (bZ eN T.gD WG (bC (qv 0) bF))) (bO cY (dN (bC (qv 1) bF)) bG))
  (bJ (bT mU))
  bU)
  (bH (dY (eY T.gJ (bC (qv 1) bF)) (cj (n:=99) 2)
  (bH (cF (QW.qt (iJ (bW (lZ hr.units) (jE (go_eq hr.units) (bL (bL (qv 3) (qv 2)) bG) bG) (jE nW (bL (qv 4) (qv 2)) dU)) (fX (bW (lZ hr.units) (jE (go_eq hr.units) (bL (qv 3) (qv 2)) (d9 (bC bG (bC bG bF)))) (bL (qv 5) (qv 2))))))
  (bJ (bT mU))
  bU)
  (bH (cF (QW.qt (iJ (bW (lZ hr.units) (jE (go_eq hr.units) (bL (bL (qv 6) (qv 2)) bG) bG) (jE nW (bL (qv 7) (qv 2)) dU)) (fX (bW (lZ hr.units) (jE (go_eq hr.units) (bL (qv 6) (qv 2)) (d9 (bC bG (bC bG bF)))) (bL (qv 8) (qv 2))))))
  (bJ (bT mU))
  bU)
  (bJ (cF (QW.qt (iJ (bW Jt (bL (bL (qv 6) (qv 2)) bG) bG) (iJ (bW xW (bL (bL (qv 3) (qv 2)) bG) (bL (bL (qv 3) (qv 2)) bG)) (fX (bW xW (bO cY (bL (bL (qv 6) (qv 2)) bG) (bL (bL (qv 3) (qv 2)) bG)) (bO cY (bL (bL (qv 3) (qv 2)) bG) (bL (bL (qv 6) (qv 2)) bG)))))))
  (bJ (bT mU))
  bU)))))
  (bJ (bT mU)))))),?_⟩
 rintro _ R ⟨m,xs,ys,st,bu,L,L',rfl,hm,h,q⟩;refine⟨rfl,xs,m,rfl,h.lx,by exact aL hm (by decide),ys,m,rfl,h.ly,by exact aL hm (by decide),(by show 6<=sizeLine;decide),comp_map (λt=>t) lnT [.lst (xs.map frR),.lst (st.map dT),blT L,.lst (ys.map frR),.lst (bu.map dT),blT L'] (λa ha N M hN=>?_) ⟨⟨by exact XY (by decide),by exact TW (by decide),by show 1*6<=_;decide⟩,λz hz=>?_⟩⟩
 .simp only[YU,VQ,or_false]at ha;rcases ha with rfl|rfl|rfl|rfl|rfl|rfl<;>exact hN
 have e1:List.map lnT [.lst (xs.map frR),.lst (st.map dT),blT L,.lst (ys.map frR),.lst (bu.map dT),blT L']=(List.replicate 6 (some m)).map dT:=by
  simp[lnT,blT,h.lx,h.ly,h.ls,h.ls',h.lL,h.lL',dT,List.replicate]
 have e2:z=(List.replicate 6 (some m)).map dT:=by rw[hz];rfl
 rw[e1,e2];refine R8.gEq ?_;rw[Zs rfl];refine⟨by lia,uU (n:=m) (λk o=>∃x,o=[.fz (.lst [.lst (xs.map frR),.lst (st.map dT),blT L,.lst (ys.map frR),.lst (bu.map dT),blT L']),.fz (.int (m:Nat)),x,.fz (.lst (xs.map frR)),.fz (.lst (st.map dT)),.fz (blT L),.fz (.lst (ys.map frR)),.fz (.lst (bu.map dT)),.fz (blT L')]) ⟨_,rfl⟩ ?_ ?_⟩
 .rintro k _ hk ⟨x,rfl⟩;have at_:∀{α:Type}{l:List α}{d:α},l.length=m->∃a,l[k]?=some a/\l.getD k d=a:=λ{α l d}e=>⟨_,aj (by lia),by rw[au,aj (show k<l.length by lia)];rfl⟩;obtain⟨r,ex,gx⟩:=at_ (d:=(0:Rat)) h.lx;obtain⟨y,ey,gy⟩:=at_ (d:=(0:Rat)) h.ly;obtain⟨sk,es,gs⟩:=at_ (d:=(none:Option Nat)) h.ls;obtain⟨sk',fq,gs'⟩:=at_ (d:=(none:Option Nat)) h.ls';obtain⟨b,eb,gb⟩:=at_ (d:=false) h.lL;obtain⟨b',ko,gb'⟩:=at_ (d:=false) h.lL';have A:=h.z k hk;have A':=h.z' k hk;have B:=h.o k hk;have B':=h.o' k hk;have C:=h.nn k hk;have C1:=h.l1 k hk;have C2:=h.le k hk;simp only[xG,blG,cT,gx,gy,gs,gs',gb,gb']at A A' B B' C C1 C2;have nz:∀r:Rat,decide (r.num=0)=decide (r=0):=λr=>decide_eq_decide.mpr ⟨λz=>Rat.num_eq_zero.mp z,λz=>by rw[z];rfl⟩;have no:∀r:Rat,(decide (r.num=1)&&decide (((r.den:Nat):Int)=1))=decide (r=1):=λr=>by
   rw[<- Bool.decide_and];exact decide_eq_decide.mpr ⟨λz=>Rat.ext z.1 (by have:=z.2;show r.den=1;lia),λz=>by rw[z];exact⟨rfl,rfl⟩⟩
  have mx:=aC ex;have my:=aC ey;have bn:=λ(z:Rat)(f:FnB (10^39) z)=>(Vz (n:=39) f.n (by decide):Bd z.num);have bd:=λ(z:Rat)(f:FnB (10^39) z)=>(Vz (n:=39) (by rw[XT];exact f.d) (by decide):Bd ((z.den:Nat):Int));have D1:decide (y.num<0)=false:=Zp (by have:=Rat.num_nonneg.mpr C;exact Int.not_lt_of_ge this);have D2:decide (((r.den:Nat):Int)<r.num)=false:=Zp λz=>Rat.not_lt.mpr C1 ((Rat.lt_iff _ _).mpr (by show(1:Int)*_<_*((1:Nat):Int);lia));have D3:decide (r.num*((y.den:Nat):Int)<y.num*((r.den:Nat):Int))=false:=Zp λz=>Rat.not_lt.mpr C2 ((Rat.lt_iff _ _).mpr z);have F1:xr true (decide (decide (r.num=0) = !sk.isSome))=false:=by
   rw[nz];cases sk<;>simp_all<;>rfl
  have F2:xr true (decide ((decide (r.num=1)&&decide (((r.den:Nat):Int)=1))=b))=false:=by
   rw[no];cases b<;>simp_all<;>rfl
  have F1':xr true (decide (decide (y.num=0) = !sk'.isSome))=false:=by
   rw[nz];cases sk'<;>simp_all<;>rfl
  have F2':xr true (decide ((decide (y.num=1)&&decide (((y.den:Nat):Int)=1))=b'))=false:=by
   rw[no];cases b'<;>simp_all<;>rfl
  clear A A' B B'
  cases sk<;>cases sk'<;>exact⟨_,cW ex,_,cW es,swF F1 ⟨_,cW ex,_,cW eb,swF F2 ⟨_,cW ey,_,cW fq,swF F1' ⟨_,cW ey,_,cW ko,swF F2' ⟨_,cW ey,swF D1 ⟨_,cW ex,_,cW ex,swF D2 ⟨_,cW ey,_,cW ex,⟨bn y (h.bY y my),bd r (h.bx r mx)⟩,_,cW ex,_,cW ey,⟨bn r (h.bx r mx),bd y (h.bY y my)⟩,swF D3 ⟨_,rfl⟩⟩⟩⟩⟩⟩⟩⟩
 .rintro _ ⟨x,rfl⟩;exact q
theorem af2{ns:Φ}{m mo:Nat}{am:List (List LD)}{off:List (List bN)}(hn:ns.length=m)(m8:m<=8)(h:Qs ns off)(hd:DSk m mo am)(ho:afj am off):HlZ ns off:=by
 refine⟨h,by exact aL (WJ hn) m8,λos k7 o hmo=>?_⟩;obtain⟨k,ek⟩:=aV k7;have lk:k<am.length:=by rw[<- ho.len];exact(ao.mp ek).1
 obtain⟨tl,_,rfl⟩:=ho.at_ k _ os (aj lk) ek;obtain⟨p,hp,rfl⟩:=YV.mp hmo;have lk:=hd.ok _ (aU lk) p.2 (VS hp).2;obtain⟨q,q0,q1,hq⟩:=lk.all;have j:=X8 q0 hq;have f1:=j.few;have f2:=lk.few;refine⟨⟨λw hw=>by rw[hn];exact j.lt w hw,λw hw=>?_,?_⟩,j.nd,by show(uR p.2.prs).length<=1000;lia,q,q0,q1,j.dn⟩
 .have nn:=j.nn w hw;have ne:w.2≠0:=λz=>by
   have:=(List.mem_filter.mp (show w∈(yF p.2.prs).filter λp=>!decide (p.2=0)from hw)).2;rw[Zs z]at this;cases this
  exact Rat.not_le.mp λz=>ne (Rat.le_antisymm z nn)
 .show R7 (uR p.2.prs)=1;rw[CG,j.sum,Ir,lk.one]
theorem abE{ns:Φ}{off:List (List bN)}(h:HlZ ns off){pl:List (Option Nat)}(hp:PlT off pl):PlC ns.length (jf off) (cG off pl):=by
 have hl:=h.h.len;refine⟨λk hk o e=>?_,λk hk ne=>?_⟩
 .obtain⟨ds,eo,ho⟩:=FZ e;show o∈off.getD k [];rw[au,eo];exact ho
 .have eo:=aj (show k<off.length by lia);obtain⟨d,ed,fd⟩:=hp.room eo;have ne:off[k]≠[]:=by
   have ne:off.getD k []≠[]:=ne;rw[au,eo]at ne;exact ne
  obtain⟨j,rfl,lj⟩:=zX fd λz=>ne (List.length_eq_zero_iff.mp z);exact⟨off[k][j],by rw[uW ed eo];exact aj lj⟩
theorem ag0{ns:Φ}{off:List (List bN)}{gs:List Nat}(h:HlZ ns off){p p':PWs}{st bu:List (Option Nat)}{L L':List Bool}{Fo R:Nat->Bool}(a0:ChP false ns off gs p)(l1:st.length=ns.length)(a1:Lfp false ns.length (mkF gs) (ldO (mkF gs) (jf off)) (cT st))(l2:L.length=ns.length)(a2:Oo ns.length (mkF gs) (ldO (mkF gs) (jf off)) (blG L))(a3:ChP true ns off gs p')(l4:bu.length=ns.length)(a4:Lfp true ns.length (mkF gs) (ldO (mkF gs) (jf off)) (cT bu))(l5:L'.length=ns.length)(f5:Lfp true ns.length (mkF gs) (ldO (mkF gs) (jf off)) Fo)(r5:Lfp false ns.length (λk=>!(Fo k)) (ldO (mkF gs) (jf off)) R)(e5:∀k,k<ns.length->blG L' k = !(R k)):alr ns.length p.2 p'.2 st bu L L':=by
 have hl:=h.h.len;have ho:∀k,k<ns.length->∀o∈jf off k,WyO ns.length o:=λk hk o hm=>by
  have eo:=aj (show k<off.length by lia);have hm:o∈off.getD k []:=hm;rw[au,eo]at hm;exact(h.z _ (aU _) o hm).wy
 obtain⟨S,c⟩:=a0.ch;obtain⟨S',c'⟩:=a3.ch;have pc:=abE h a0.pl;have kK:=abE h a3.pl;have no:=a3.no rfl;refine⟨a0.xs.len,a3.xs.len,l1,l4,l2,l5,λk hk=>?_,λk hk=>ahj a0.best pc ho c a2 hk,λk hk=>?_,λk hk=>?_,λk _=>(a3.xs.get k).1,λk _=>(a0.xs.get k).2,beats a0.best kK ho c' (λk _=>(a0.xs.get k).1) (λk hk g=>c.goal k hk g),a0.xs.fn,a3.xs.fn⟩
 .obtain⟨u,v⟩:=ada a0.best pc ho c a1 hk;refine⟨λz=>?_,v⟩;cases w:cT st k with
  |false=>rfl
  |true=>have:=u w;rw[z]at this;exact absurd this (by decide)
 .refine⟨λz=>?_,λz=>no _ a4 k hk z⟩;cases w:cT bu k with
  |false=>rfl
  |true=>have:=ahl kK ho c' a4 hk w;rw[z]at this;exact absurd this (by decide)
 .rw[agB a3.best kK ho c' f5 (no Fo f5) r5 hk,e5 k hk];cases R k<;>simp
structure QSB(X:Cx)(st:Stmt)(r:RS):Prop where
 out:QS X st r
structure ad5(X:Cx)(ss:List Stmt)(r:RS):Prop where
 out:QSs X ss r
theorem Kf{X:Cx}{st:Stmt}{r:RS}(h:QS X st r):QSB X st r:=⟨h⟩
theorem abS{X:Cx}{st:Stmt}{a:RS}(h:QSB X st a):ad5 X [st] a:=⟨bJ h.out⟩
theorem uV{X:Cx}{st:Stmt}{ik:List Stmt}{a b:RS}(h1:QSB X st a)(h2:ad5 X ik b):ad5 X (st::ik) (mC a b):=⟨bH h1.out h2.out⟩
theorem ac5{X:Cx}{e:Expr}{re:RE}{pos:Pos}(i:Nat){x:Str}{bo:Pos}(hN:X.N.Nodup)(hx:Loc X.env.scope x)(he:QEB X e re)(hi:X.N[i]?=some x:=by rfl)(hs:swapsWith e (some (.Name x bo)) pos.line X.env=pure false:=by rfl)(hf:qi X x:=by first|exact .inl rfl|exact .inr rfl|assumption):QSB X (.Assign [.Name x bo] e pos) (agn i re):=⟨bR (i:=i) (hN:=hN) (hx:=hx) (he:=he.out) (hi:=hi) (hs:=hs) (hf:=hf)⟩
theorem af0{X:Cx}{a b:Expr}{ra rb:RE}{pos:Pos}(ha:QEB X a ra)(hb:QEB X b rb)(hs:sG b:=by exact λ_ _=>rfl):QEB X (.Subscript a b pos) (rOp gIx ra rb):=⟨bL ha.out hb.out hs⟩
theorem afq(c:Int):∃s:Rat,Shr s/\ixT [L2.T.tup [.int 1,.int 2],.tup [.int 0,.int 1],.tup [.int 2,.int 3],.tup [.int 99,.int 100]] (c%4)=some (frR s):=by
 rcases(show c%4=0\/c%4=1\/c%4=2\/c%4=3 by lia)with z|z|z|z<;>rw[z]
 .exact⟨mkRat 1 2,⟨by decide,by decide,by decide⟩,rfl⟩
 .exact⟨0,⟨by decide,by decide,by decide⟩,rfl⟩
 .exact⟨mkRat 2 3,⟨by decide,by decide,by decide⟩,rfl⟩
 .exact⟨mkRat 99 100,⟨by decide,by decide,by decide⟩,rfl⟩
def o40(D:Adr)(ns:List Int)(s:Rat)(am:List (List LD))(nm:Φ)(off:List (List bN))(t:Nat)(c g:OT):List OT:=[.fz (scT ns),.fz (ad7 am),.fz (frR s),.fz (hlT D s nm off),.fz (.int (t:Nat)),c,g]
structure amY(m:Nat)(am:List (List LD))(nm:Φ)(off:List (List bN)):Prop where
 m8:m<=8
 ld:am.length=m
 ln:nm.length=m
 z:HlZ nm off
def abp:ST:=λts q=>∃ns:List Int,ts=[scT ns]/\ns.length<=63/\q (.fz (.bl true))
theorem af7(T:Tx D)(rO:gT 1 Ij Ai R0)(Wh:gT 2 P0 Dr st_size)(Q_:gT 5 Jr xY T8)(Wj:gT 9 Od Cz (X_ D))(RB:gT 2 Jk zZ U4)(O1:gT 12 K4 yX (R9 D))(QJ:gT 4 Js zH Vf)(F:Fu WY Xx f fd):FT 13 f fd Ob abp:=by
 refine F.okT acB λaf A outer s H E hr nd=>?_;refine⟨_,(ad5.out (uV (Kf (bR 1 (bK Q_ (bC (qv 0) (bC bG (bC (bK Wh (bC (bK rO (bC (qv 0) (bC bG bF))) bF)) (bC bG bF)))))))
  (uV (ac5 2 acB.nd (Or.inl rfl) (af0 (Qn (cR (pR (cR lD (cR lD lG))) (cR (pR (cR lD (cR lD lG))) (cR (pR (cR lD (cR lD lG))) (cR (pR (cR lD (cR lD lG))) lG))))) (V4 cJ (V4 pJ (BJ (bK rO (bC (qv 0) (bC bG bF)))) lD) lD)))
  (uV (Kf (bR 3 (bK Wj (bC (bK rO (bC (qv 0) (bC bG bF))) (bC (qv 2) (bC (qv 1) bF))))))
  (uV (Kf (bR 4 (bO cJ (bK rO (bC (qv 0) (bC bG bF))) bG)))
  (uV (Kf (dY (b_ (dN (bC (bK rO (bC (qv 0) (bC bG bF))) (bC (bK rO (bC (qv 0) (bC bG bF))) bF)))) (cj (n:=99) 5)
  (bH (bR 6 (bK RB (bC (qv 5) (bC (bZ eN T.gD WG (bC (qv 1) bF)) bF))))
  (bH (cF (fL (dz (bK QJ (bC (bK O1 (bC (qv 3) (bC (qv 6) (bC (qv 4) bF)))) (bC (bZ eN T.gD WG (bC (qv 1) bF)) bF)))))
  (bJ (bT mU))
  bU)
  (bJ (bR 4 (bO dW (qv 4) bG)))))))
  (abS (Kf (bT mU))))))))),?_⟩
 rintro _ R ⟨ns,rfl,nl,q⟩;refine sq4 (λo=>∃s m am nm off t,amY m am nm off/\o=o40 D ns s am nm off t .und .und) ?_ λY hY=>?_
 rotate_left
 .refine⟨ns,0,rfl,by exact aL nl (by decide),_,rfl,λm m8=>⟨ns,5,m,3,rfl,by exact aL nl (by decide),by exact aL m8 (by decide),by decide,λam hd=>?_⟩⟩;dsimp only;rw[aeE];obtain⟨s,hs,es⟩:=afq (Int.fdiv (ns.getD 1 0) 7);refine⟨ns,1,rfl,by exact aL nl (by decide),⟨by decide,g_ (by decide)⟩,by decide,_,es,ns,1,rfl,by exact aL nl (by decide),_,s,m,3,am,rfl,hs,hd,by exact aL m8 (by decide),by decide,λnm off hn hok ho=>⟨ns,4,rfl,by exact aL nl (by decide),by decide,?_⟩⟩;have e:ns.getD 4 0%6=((ns.getD 4 0%6).toNat:Int):=by lia
  rw[e];exact hY _ ⟨s,m,am,nm,off,_,⟨m8,hd.len,hn.len,af2 hn.len m8 hok hd ho⟩,rfl⟩
 rintro _ ⟨s,m,am,nm,off,t,d,rfl⟩;refine⟨ns,2,rfl,by exact aL nl (by decide),ns,3,rfl,by exact aL nl (by decide),fM L2.T.int [ns.getD 2 0,ns.getD 3 0] (λ_ o=>∃t c g,o=o40 D ns s am nm off t c g) ⟨t,_,_,rfl⟩ ?_ ?_⟩
 .rintro as c bs _ _ ⟨t,x,y,rfl⟩;have ml:((am.map λds=>L2.T.lst (ds.map ldT)).length:Int)=(m:Nat):=by rw[ak,d.ld]
  refine⟨c,m,ZH (λz=>[L2.T.int c,L2.T.int z]) ml,d.m8,λgs gl gm=>⟨s,nm,off,gs,t,rfl,d.z,λg hg=>by rw[d.ln];exact gm g hg,gl,λas la ha=>?_⟩⟩;obtain⟨a0,a1,a2,a3,a4,a5,rfl⟩ : ∃a0 a1 a2 a3 a4 a5,as=[a0,a1,a2,a3,a4,a5]:=by
   match as,la with
   |[a0,a1,a2,a3,a4,a5],_=>exact⟨a0,a1,a2,a3,a4,a5,rfl⟩
  obtain⟨p,h0,rfl⟩:=ha 0 (by decide);obtain⟨st,l1,h1,rfl⟩:=ha 1 (by decide);obtain⟨L,l2,h2,rfl⟩:=ha 2 (by decide);obtain⟨p',h3,rfl⟩:=ha 3 (by decide);obtain⟨bu,l4,h4,rfl⟩:=ha 4 (by decide);obtain⟨L',Fo,R',l5,h5,h6,h7,rfl⟩:=ha 5 (by decide);have r:=ag0 d.z h0 l1 h1 l2 h2 h3 l4 h4 l5 h5 h6 h7;rw[d.ln]at r;exact⟨m,p.2,p'.2,st,bu,L,L',ZH (λz=>[L2.T.lst [.lst (p.2.map frR),.lst (st.map dT),blT L,.lst (p'.2.map frR),.lst (bu.map dT),blT L'],L2.T.int z]) ml,d.m8,r,t+1,_,_,rfl⟩
 .rintro _ ⟨t,c,g,rfl⟩;exact q
end
theorem agR{K:Frag}{vs:Ζ}{H:Hp}{Q:VK}{E:XK}(h:Xw K vs H Q E):spT K abp vs H Q E:=by
 obtain⟨a,ns,rfl,hs,hl,_,hQ⟩:=h;refine⟨[scT ns],λx=>x=.fz (.bl true),.cons (.scr hs (Gb ns)) .nil,⟨ns,rfl,hl,rfl⟩,?_⟩;rintro H' v _ rfl _ ⟨B,_,_,u,e,r⟩;cases e;cases r;exact hQ H'
theorem law_fn{l:PySem.W.OpenLaw}{w:World}{K:Frag}{mg:Str->Ω}(T0:∃D,Txt K mg D)(base:Heap)(f:Addr)(fd:FuncData)(F:Fun K WY WY Xx f fd) :
  gW l.prog w K mg base CX0 13 f fd Ob (Xw K):=by
 obtain⟨D,T⟩:=T0
 letI:Bs:=⟨l.prog,w,K,mg,base⟩
 have o {k:Nat}{n:Str}{st:Stmt}{ps:Φ}{sp:Sp} (h:cI K mg n st ps) (g:∀{f fd},Fun K n n st f fd->gW l.prog w K mg base CX0 k f fd ps sp):OkF l.prog w K mg base k n ps sp:=h.ok λ_ _=>g;have i {X:CXT}{k:Nat}{n m:Str}{st:Stmt}{ps:Φ}{f:Addr}{sp:Sp} (h:Bw K n m st ps f) (g:∀{fd},Fun K n m st f fd->gW l.prog w K mg base X k f fd ps sp):OkI l.prog w K mg base X k f ps sp:=h.ok λ_=>g;have fP:=o T.VB (U0 T);have eF:=o T.Zv (Vv T);have dZ:=o T.adu (aaS T fP eF);have VH:=o T.afN (adB dZ);have pW:=o T.adI (abz dZ);have QD:=o T.aeB (abP dZ);have WL:=o T.ahp (adJ dZ);have ji:=o T.adx (ab4);have iB:=o T.VL (Uv T fP eF);have lH:=o T.aez (abm eF);have jU:=o T.Zd (VR T);have jX:=o T.Ol (Mi jU iB);have eX:=o T.Eu (BR jU);have gM:=o T.JC (HS T iB ji);have Px:=o T.f_total (aaZ T lH dZ);have uo:=o T.Lb (J0 T eX gM Px);have t_:=o T.Lr (Kr T VH);have lY:=i T.QV (N6 T jX);have yG:=i T.Qh (Oc T lY eX);have fu:=i T.K9 (Ld T lY uo t_);have zJ:=i T.Rk (Q7 T jX gM pW fu);have yC:=i T.Qk (Qt T fu);have zf:=i T.RL (Qm T);have uz:=o T.Li (KY T iB ji);have vG:=o T.Qg (K_ T jU);have o7:=o T.G6 (Fx T zf);have xV:=o T.Sv (RQ T o7);have zN:=i T.NQ (Pn T uz vG xV);have dX:=i T.Qx (OJ T);have eV:=i T.Cq (LC T fP dX);have c7:=i T.K3 (YW T eV);have tV:=o T.Ln (Kq T);have qO:=o T.Jz (Hi T c7);have uF:=o T.aa0 (ZW eF);have xR:=o T.Tc (O9 T uF);have BP:=o T.Wz (Tq T eF uF);have zG:=o T.U7 (Qz T xR BP);have lX:=o T.T3 (Ox dZ);have qU:=o T.Jj (G5 dZ);have vh:=o T.R4 (LR T);have wj:=o T.adL (abl zG);have yx:=o T.Vb (Ov T wj lX WL);have qQ:=o T.JL (HF T wj lX pW);have Fq:=o T.Zu (V1 T lH vh yx qQ qU);have Bv:=o T.V9 (TV T);have uw:=o T.MF (Ky T);have zE:=o T.SQ (QB T);have Gg:=o T.Y9 (Wg T);have yV:=o T.U_ (OD T);have tu:=o T.L_ (JD T Bv uw Fq zE Gg yV);have xJ:=o T.TF (Og T tV pW QD);have rO:=o T.agf (adz);have eZ:=o T.aac (ZR T);have M7:=o T.akI (ahu T);have yZ:=o T.aae (Y8 M7);have Iz:=o T.ady (abe T eZ);have tY:=o T.Ml (Jp T lH dZ);have cC:=o T.Rf (Lw T dX eV);have dJ:=o T.Ww (UG T c7);have pZ:=o T.adU (abh T);have d_:=o T.Zc (Wi T pZ);have fZ:=o T.YM (Ws T pZ);have cN:=o T.V0 (Um T d_ fZ);have qD:=o T.J1 (Hz T cC dJ cN d_);have rP:=o T.JM (Hq T cC dJ cN fZ);have Fl:=o T.YT (WM T);have vP:=o T.Rb (Ls T cC dJ cN d_ Fl dX);have tZ:=o T.Mx (J9 T cC dJ cN d_ fZ);have nQ:=o T.W7 (QC T ji);have Ad:=o T.ad0 (ab1 T ji);have tX:=o T.Lj (J_ T nQ Ad);have vg:=o T.Q0 (Mr T cN d_);have Wh:=o T.agX (adh T eZ);have Wk:=o T.agE (acM T eZ yZ);have Q_:=o T.aes (abH T rO eZ Wk);have Oz:=o T.acZ (aaL T yG fu zJ yC);have Wj:=o T.aht (aeO T Iz Oz zN);have qR:=o T.Kv (HB T tu xJ vg qO);have tG:=o T.Lq (K1 T lH tY tX c7);have qj:=o T.Yx (V7 T qR tG);have jR:=o T.Qp (Lh T dX c7);have rW:=o T.J7 (HN T dJ cN jR pZ fZ);have lQ:=o T.BZ (Av T cC jR qj nQ);have o8:=o T.Hv (FN T cC rW qj Ad);have Il:=o T.aeu (abr T);have ur:=o T.LK (K6 T Il M7);have sX:=o T.SX (Om T ur);have RB:=o T.adF (abL T eZ);have O1:=o T.adQ (abY T lQ o8 qD rP vP tZ);have QJ:=o T.adg (aby T sX);exact(af7 T rO Wh Q_ Wj RB O1 QJ F).imp λ_ _ _ _ h=>agR h
end K40
end
open PySem PySem.W PyProof.Rows L2
set_option maxRecDepth 100000 in
set_option maxHeartbeats 0 in
theorem PySem.Challenge.cw_chancehall_k40_whole_nought_and_one_holds : PySem.Challenge.rw_chancehall_k40_whole_nought_and_one.Holds := by
 w_on
 refine holds_law H40.wsd λkC=>?_;refine holds_open (q:=H40.qv) (loose:=[]) (XP:=XL H40.qv []) (YP:=InK H40.KH) H40.left (InK.of H40.asK) InK.keeps H40.hX XL.keeps (by rfl) (by rfl) (by rfl) H40.hR (by rfl) kC (by decide +kernel) ⟨rfl,rfl,rfl,rfl,rfl,by decide +kernel⟩ ?hw ?hc
 (case hw=>w_witness2)
 k_fill
 refine L2.ahJ (l:=PySem.Challenge.rw_chancehall_k40_whole_nought_and_one) (k:=13) (x := "_law_script") rfl rfl ⟨rfl,by decide,by decide⟩ (λw h Y=>(show(H40.KH w.params).In h from Y)) ?F
 case F =>
  intro w mg fa h KX G fx;refine⟨K40.Xx,?_,λbase f fd F=>K40.law_fn ?T base f fd F⟩
  .exact q_f
  case T =>
   refine⟨⟨500,521,540,559,576,661,116,117,483,490,518,537,556,573,618,625,646,658⟩,⟨q_c,q_c,q_c,q_c,q_c,q_c,q_c,q_c,q_g,q_t,q_t,q_4,q_m,q_n,q_n,q_n,q_n,q_n,q_n,q_M,q_4,q_m,q_n,q_n,q_n,q_n,q_n,q_n,q_M,q_4,q_m,q_n,q_n,q_n,q_n,q_n,q_n,q_M,q_4,q_m,q_n,q_n,q_n,q_n,q_n,q_n,q_M,q_4,q_m,q_n,q_n,q_n,q_n,q_n,q_n,q_M,q_4,q_m,q_m,q_m,q_n,q_n,q_n,q_n,q_n,q_n,q_B,q_h,q_h,q_h,q_B,q_h,q_h,q_h,q_h,q_h,q_h,q_h,q_z,q_z,q_z,q_z,q_z,q_z,q_z,q_z,q_z,q_z,q_z,q_z,q_z,q_z,q_z,q_z,q_f,q_f,q_f,q_f,q_f,q_f,q_f,q_f,q_f,q_f,q_f,q_f,q_f,q_f,q_f,q_f,q_f,q_f,q_f,q_f,q_f,q_f,q_f,q_f,q_f,q_f,q_f,q_f,q_f,q_f,q_f,q_f,q_f,q_f,q_f,q_f,q_f,q_f,q_f,q_f,q_f,q_f,q_f,q_f,q_f,q_f,q_f,q_f,q_f,q_f,q_f,q_f,q_f,q_f,q_f,q_f,q_f,q_f,q_f,q_f,q_f,q_f,q_f,q_f,q_f,q_f,q_f,q_f,q_f,q_f,q_f,q_f,q_f,q_f,q_f,q_f,q_f,q_f,q_f,q_f⟩⟩
#print axioms PySem.Challenge.cw_chancehall_k40_whole_nought_and_one_holds
