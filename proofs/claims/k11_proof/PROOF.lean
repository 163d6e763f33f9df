import PyProof.Rows.All
import Wide.All
import OpenK.AllK
import Wide.FinOn
import Lean
import PyProof.EqAt
import PyProof.EqKinds
import PyProof.TupleCall
import PyProof.EqLayable
import KE.KIntText
import PyProof.EnumMake
import PyProof.EnumStmt
import PyProof.EnumFor
import PyProof.Rows.EnumRows
import PyProof.ExcInit
import PyProof.ExcClass2
import PyProof.InstStoreFacts
import KE.KRevIter
import PyProof.P3In
import KE.KDictList
import PySem.Challenge.RW_chancehall_k11_no_hall
def aj := @List.getElem?_eq_getElem
def ak := @List.length_map
def ao := @List.getElem?_eq_some_iff
def aq := @List.getElem?_map
def au := @List.length_append
def aA := @List.mem_of_getElem?
def aB := @List.getElem?_append_right
def aC := @List.getElem?_append_left
def aD := @Nat.le_refl
def aF := @PySem.Heap.get?_push_of_some
def aG := @List.mem_cons_of_mem
def aH := @PySem.Heap.lt_size
def aJ := @Nat.le_trans
def aK := @List.length_replicate
def aL := @List.mem_cons_self
def aM := @List.mem_append_right
def aN := @Nat.ne_of_lt
def aO := @Nat.lt_of_lt_of_le
def aP := @List.getElem?_of_mem
def aQ := @PySem.Heap.get?_push_size
def aR := @List.size_toArray
def aU := @List.length_take
def aV := @Nat.zero_le
def aW := @List.map_append
def aX := @Bool.false_ne_true
open PySem.W (Frag instObj methodObj hideAll hideAll_get of_hideAll lookIn plainGet hasDictIn findIn handedIn plainGet_of findObj_own isFn plainOver takerIn set_plain looks_clsIn makesIn typeIn emptyDict looks_findIn keepIn specialIn mroIn kitOne kia_one kitx_list kitx_tuple callWith_K methodCall_KW codeIn nsIn mg_of excIn isNs_of_in clsIn looks_mroIn KitX readsIn findCls method_cls cls_value notCls nsOkIn)
section
open PySem PySem.Spec PyProof.Rows
abbrev Γ:=List (Addr×Obj)
abbrev Δ:=List Value
abbrev Θ:=List Str
abbrev Φ:=List Addr
abbrev Ψ:=Option Value
abbrev Ω:=Option Addr
abbrev Ξ:=Value->Shared->Prop
def Zs:=@decide_eq_true
def Zp:=@decide_eq_false
def ZZ:=@if_neg
def ZY:=@if_pos
def ZU:=@wpAny_bind
def ZT:=@wpAny_pure
def ZH:=@congrArg
def Z3:=@Int.emod_nonneg
def YY:=@Int.emod_lt_of_pos
def YV:=@List.mem_map
def YU:=@List.mem_cons
def YR:=@List.mem_singleton
def Y1:=@List.mem_append
def Y2:=@Nat.le_of_lt
def Y3:=@Nat.lt_of_le_of_lt
def Xs:=@Nat.le_succ
def XZ:=@Int.le_of_lt
def XY:=@Bool.false_eq_true
def XX:=@List.getElem?_replicate
def XW:=@Nat.lt_succ_self
def XV:=@Nat.le_add_right
def XU:=@Nat.lt_irrefl
def XT:=@Int.natCast_nonneg
def XG:=@List.append_assoc
def X0:=@List.map_map
def X1:=@Int.ne_of_gt
def X2:=@List.length_range
def X9:=@List.length_set
def Wp:=@Nat.le_of_eq
def WZ:=@PySem.boot_len
def WV:=@List.getElem?_set_ne
def WU:=@List.getElem?_set_self
def WS:=@List.length_drop
def WJ:=@Nat.lt_trans
def WG:=@List.mem_of_mem_take
def WH:=@Nat.le_of_not_lt
def W1:=@List.getElem?_range
def VZ:=@Nat.le_of_dvd
def VY:=@List.all_eq_true
def VX:=@List.mem_append_left
def VW:=@Nat.ne_of_gt
def VV:=@Int.lt_of_not_ge
def VU:=@Nat.add_sub_cancel_left
def VT:=@Nat.min_self
def VS:=@Bool.true_and
def VQ:=@Nat.not_lt_of_le
def Up:=@List.lookup_append
def UZ:=@List.getElem?_eq_none
def UY:=@List.length_zip
def UX:=@List.set_eq_of_length_le
def UV:=@Bool.decide_and
def UU:=@List.getElem_mem
def UT:=@Bool.and_eq_true
def US:=@Rat.divInt_eq_divInt_iff
def UR:=@List.drop_eq_getElem_cons
def UQ:=@List.take_of_length_le
def UP:=@List.drop_eq_nil_of_le
def UK:=@Rat.divInt_add_divInt
def UH:=@List.find?_cons_of_pos
def U1:=@List.getD_eq_getElem?_getD
end
set_option Elab.async false
set_option linter.all false
set_option maxRecDepth 100000
set_option maxHeartbeats 4000000
namespace L2.Once
noncomputable section
open PySem PySem.W
def z:Pos:=⟨0,0,0,0⟩
def tE:Obj:=⟨.type "tuple",none,.seq ⟨[]⟩ 0,⟨[]⟩⟩
def fE:Obj:=⟨.none,none,.fields ⟨[]⟩,⟨[]⟩⟩
def tN(t:Nat)(l:Θ):Obj:=⟨.type "tuple",none,.seq ⟨(l.zipIdx t).map λx=>.str x.1 x.2⟩ 0,⟨[]⟩⟩
def cO(n q:Str)(t:Nat)(l a f:Int)(r u:Nat):Obj:=⟨.type "code",none,.fields ⟨[.str n t,.str q (t+1),.str "/claim/cut.py" (t+2),.int l 0,.int a 0,.int 0 0,.int 0 0,.int f 0,.ref r,.bool true,.int 181 0,.ref (r+1),.none,.ref (r+2),.ref (r+3),.ref (r+4),.int u 0,.int l 0,.str "/claim/cut.py" (u+1)]⟩,⟨[]⟩⟩
def o11:Obj:={ cls:=.type "tuple",data:=.seq #[] }
def o12:Obj:={ cls:=.none,data:=.fields #[] }
def o13:Obj:={ cls:=.type "code",data:=.fields #[.str "<module>" 182,.str "<module>" 183,.str "/claim/cut.py" 184,.int 1 0,.int 0 0,.int 0 0,.int 0 0,.int 0 0,.ref 11,.bool false,.int 181 0,.ref 12,.none,.none,.none,.none,.int 185 0,.int 1 0,.str "/claim/cut.py" 186] }
def o14:Obj:={ cls:=.type "frame",slots:=#[some (.ref 13),some (.ref 3),some (.ref 3),none,some (.str "__main__" 164),none,some (.ref 0)] }
def cP(n q:Str)(t:Nat)(l a f:Int)(r u:Nat):Obj:=⟨.type "code",none,.fields ⟨[.str n t,.str q (t+1),.str "/claim/cut.py" (t+2),.int l 0,.int a 0,.int 0 0,.int 0 0,.int f 0,.ref r,.bool true,.int 181 0,.ref (r+1),.none,.none,.none,.ref (r+2),.int u 0,.int l 0,.str "/claim/cut.py" (u+1)]⟩,⟨[]⟩⟩
def dE(P:Params)(x:Str)(t:Nat)(v:Value):DictEntry:=⟨PyData.keyHash P x,.str x t,v⟩
abbrev lf(o:Obj):BT:=.node o .nil .nil
def tr(P:Params):BT:=.node (boot_o_0 P)
 (.node (boot_o_1 P) (.node (boot_o_3 P) (lf (boot_o_7 P)) (lf o11)) (.node (boot_o_5 P) (lf (boot_o_9 P)) (lf o13)))
 (.node (boot_o_2 P) (.node (boot_o_4 P) (lf (boot_o_8 P)) (lf o12)) (.node (boot_o_6 P) (lf (boot_o_10 P)) (lf o14)))
def S0(w:World)(os:OsState):Shared:=⟨boot_heap w.params,Array.mk [],boot_drawn,boot_toks,os⟩
def Sa(w:World)(os:OsState):Shared:=⟨⟨Array.mk [boot_o_0 w.params,boot_o_1 w.params,boot_o_2 w.params,boot_o_3 w.params,boot_o_4 w.params,boot_o_5 w.params,boot_o_6 w.params,boot_o_7 w.params,boot_o_8 w.params,boot_o_9 w.params,boot_o_10 w.params,o11,o12,o13,o14],{}⟩,Array.mk [],{},187,os⟩
def Sb(w:World)(os:OsState):SharedT:=⟨tr w.params,15,{},⟨[]⟩,{},187,os⟩
def env(p:Program):Env:={ scope:=p.main.scope,locals:=mainNs,globals:=mainNs,cells:=[],code:=.ref 13,frame:=some 14 }
def cE(p:Program):Code:=.body (behindTheImports p) (env p)
abbrev ann:Ψ:=some (.ref 6)
abbrev B:List Frame:=[topFrame z]
theorem size(w:World):((boot_heap w.params).isNs mainGlobals&&(Array.mk [] : Array GenState).size==0,(boot_heap w.params).objs.size,(boot_heap w.params).nsMap mainGlobals "__annotations__")=(true,11,ann):=by
 rw[Fast.te8920871248978507458];kernel_rfl
def iY(p:Program)(w:World)(M:Nat)(S:SharedT)(l:List Stmt)(q:Pos)(G:Shared->Prop):Prop:=∃s,topRun treeTable p w 11 ann M S.abs (restOf l (env p) (cE p) q B)=some s/\G s
theorem iY.cut{p:Program}{w:World}{n M:Nat}{S S':SharedT}{l1 l2:List Stmt}{q q':Pos}{G:Shared->Prop}(h:segRunT treeTable p w 11 ann 1 n S (piecesOf l1 (env p) (cE p) q B)=some (.next,S',cE p,q'))(k:iY p w M S' l2 q' G):iY p w (n+M) S (l1++l2) q G :=
 let⟨s,a,b⟩:=k
 ⟨s,piece_app (segRun_of h) a,b⟩
theorem iY.cutAt{p:Program}{w:World}{n m M:Nat}{S S':SharedT}{l:List Stmt}{q q':Pos}{G:Shared->Prop}(h:segRunT treeTable p w 11 ann 1 n S (piecesOf (l.take m) (env p) (cE p) q B)=some (.next,S',cE p,q'))(k:iY p w M S' (l.drop m) q' G):iY p w (n+M) S l q G:=by
 have:=iY.cut h k;rwa[List.take_append_drop]at this
def Good{α:Type}(p q:Program)(loose:Θ)(Xt:Shared->Bool)(Yf:Shared->α)(Ya:World->α)(g0:Bool)(w:World)(s:Shared):Prop :=
 (staticsOk (importedModules p.main.body) (boot_heap w.params) s.heap&&namesBound p s.heap&&gensDone s&&laidKept (boot_heap w.params) s.heap,openSeen q loose (importedModules p.main.body) Xt g0 s,Yf s)=(true,openGood q loose,Ya w)
theorem iY.last{p q:Program}{loose:Θ}{Xt:Shared->Bool}{α:Type}{Yf:Shared->α}{Ya:World->α}{g0:Bool}{w:World}{n k:Nat}{S:SharedT}{l:List Stmt}{q0 e:Pos}
 (big:(segRunT treeTable p w 11 ann 1 n S (piecesOf l (env p) (cE p) q0 B)).map (λr =>
    (r.1,r.2.2.1,r.2.2.2,(topRun treeTable p w 11 ann k r.2.1.abs ⟨doneF .next,cE p,e,B⟩).map λs =>
     (staticsOk (importedModules p.main.body) (boot_heap w.params) s.heap&&namesBound p s.heap&&gensDone s&&laidKept (boot_heap w.params) s.heap,openSeen q loose (importedModules p.main.body) Xt g0 s,Yf s))) =
   some (.next,cE p,e,some (true,openGood q loose,Ya w))):iY p w (n+k) S l q0 (Good p q loose Xt Yf Ya g0 w):=by
 obtain⟨⟨f,sT,c,ps⟩,r1,r2⟩:=Option.map_eq_some_iff.mp big;obtain⟨rfl,rfl,rfl,r3⟩ : f=.next/\c=cE p/\ps=e/\_:=by simpa only[Prod.mk.injEq]using r2
 obtain⟨s,t1,t2⟩:=Option.map_eq_some_iff.mp r3;have q1:=piece_app (rest:=[]) (segRun_of r1) (piece_nil t1);rw[List.append_nil]at q1;exact⟨s,q1,t2⟩
theorem Jw{p q:Program}{loose:Θ}{Xt:Shared->Bool}{α:Type}{Yf:Shared->α}{Ya:World->α}{N:Nat}{g0:Bool}{a b M:Nat}
 (h8:∀w:World,(fencedOpening treeTable p w N).map (λs=>(s.heap,s.gens,s.drawn,s.toks))=some (boot_heap w.params,Array.mk [],boot_drawn,boot_toks))
 (pre:∀w:World,(λos=>topGo treeTable p w 11 ann a (S0 w os) (topStub p))=λos=>some (Sa w os,⟨denote treeTable (cE p),cE p,z,B⟩))
 (block:∀w:World,(λos=>segRun treeTable p w 11 ann 1 b (Sa w os) (blockOf (behindTheImports p) (env p) (cE p) z B))=λos=>some (.next,(Sb w os).abs,cE p,z))
 (gV:∀(w:World)(os:OsState),iY p w M (Sb w os) (behindTheImports p) z (Good p q loose Xt Yf Ya g0 w))
 (le:Nat.ble (a+(b+M)) N=true):LeftO p q loose Xt Yf Ya N g0:=λw=>by
 obtain⟨⟨h,gs,d,ks,os⟩,e1,e2⟩:=Option.map_eq_some_iff.mp (h8 w);obtain⟨rfl,rfl,rfl,rfl⟩ : h=boot_heap w.params/\gs=Array.mk []/\d=boot_drawn/\ks=boot_toks:=by simpa using e2
 obtain⟨z1,z2,z3⟩ : _/\_/\_:=by simpa only[Prod.mk.injEq]using size w
 obtain⟨s,q1,t2⟩:=gV w os;obtain⟨l1,l2,l3⟩ : _/\_/\_:=by simpa only[Good,Prod.mk.injEq]using t2
 have q2:=go_top (congrFun (pre w) os) (piece_block (congrFun (block w) os) q1);have q3:=topRun_mono (N-(a+(b+M))) _ _ _ _ q2;rw[show a+(b+M)+(N-(a+(b+M)))=N by have:=Nat.le_of_ble_eq_true le;omega]at q3;have t:topFrom treeTable p w N ⟨boot_heap w.params,Array.mk [],boot_drawn,boot_toks,os⟩=some s:=by
  unfold topFrom;dsimp only;rw[z1,z2,z3,show topRun treeTable p w 11 ann N ⟨boot_heap w.params,Array.mk [],boot_drawn,boot_toks,os⟩ (topStub p)=some s from q3];show(match staticsOk (importedModules p.main.body) (boot_heap w.params) s.heap&&namesBound p s.heap&&gensDone s&&laidKept (boot_heap w.params) s.heap with|true=>_|false=>_)=_;rw[l1]
 unfold openEnds;rw[e1];show(topFrom treeTable p w N _).map _=_;rw[t];exact ZH some (Prod.ext l2 l3)
end
end L2.Once
namespace L2
open PySem
def fK(s:Stmt):Arguments:=match s with
 |.FunctionDef _ a _ _ _ _ _ _ _ _=>a
 |_=>{ posonlyargs:=[],args:=[],vararg:=none,kwonlyargs:=[],kw_defaults:=[],kwarg:=none,defaults:=[] }
def cR(s:Stmt):List Stmt:=match s with
 |.FunctionDef _ _ b _ _ _ _ _ _ _=>b
 |_=>[]
def bw(s:Stmt):Scope:=match s with
 |.FunctionDef _ _ _ _ _ _ sc _ _ _=>sc
 |_=>{ kind:=.function,names:=[],isGenerator:=false,isCoroutine:=false }
end L2
namespace K11
open PySem L2
def top(i:Nat):Stmt:=PySem.Challenge.pw_chancehall_k11_no_hall.main.body.getD i (.Pass ⟨0,0,0,0⟩)
def eV(i j:Nat):Stmt:=match top i with|.ClassDef _ _ _ b _ _ _ _ _ _ _=>b.getD j (.Pass ⟨0,0,0,0⟩)|_=>.Pass ⟨0,0,0,0⟩
abbrev eZ:Θ:=["thing"]
abbrev Fz:Θ:=eZ
abbrev cT:Θ:=["one","other"]
abbrev yL:Θ:=cT.append ["left","right","rest"]
abbrev j_:Θ:=["top","bottom"]
abbrev zG:Θ:=j_.append ["common"]
abbrev dG:Θ:=["thing"]
abbrev o_:Θ:=dG.append ["top","bottom"]
abbrev qu:Θ:=["one","other"]
abbrev Tg:Θ:=qu
abbrev jj:Θ:=["one","other"]
abbrev Pn:Θ:=jj
abbrev eX:Θ:=["thing"]
abbrev kh:Θ:=eX
abbrev dN:Θ:=["share"]
abbrev xK:Θ:=dN
abbrev fW:Θ:=["rooms"]
abbrev lg:Θ:=fW.append ["numbers","room","name"]
abbrev dJ:Θ:=["door","numbers"]
abbrev lN:Θ:=dJ.append ["numbered","name","chance"]
abbrev gQ:Θ:=["doors","numbers"]
abbrev sy:Θ:=gQ.append ["taken","told","door"]
abbrev lU:Θ:=["fractions"]
abbrev H_:Θ:=lU.append ["bottom","one"]
abbrev mH:Θ:=["fractions"]
abbrev z7:Θ:=mH.append ["leveled"]
abbrev gb:Θ:=["name","pay"]
abbrev lG:Θ:=gb
abbrev dj:Θ:=["room"]
abbrev pQ:Θ:=dj
abbrev d9:Θ:=["chance"]
abbrev u_:Θ:=d9
abbrev fB:Θ:=["pairs"]
abbrev jV:Θ:=fB.append ["room","chance"]
abbrev fD:Θ:=["pairs"]
abbrev oJ:Θ:=fD.append ["chances","room","chance"]
abbrev nZ:Θ:=["_law_script","_law_k"]
abbrev Ey:Θ:=nZ
abbrev jg:Θ:=["_law_cell_here","_law_many"]
abbrev Ci:Θ:=jg.append ["_law_found","_law_number","_law_digits","_law_k"]
abbrev q_:Θ:=["_law_one","_law_other"]
abbrev RX:Θ:=q_.append ["_law_low","_law_high"]
abbrev je:Θ:=["_law_top","_law_bottom"]
abbrev Cp:Θ:=je.append ["_law_common"]
abbrev pG:Θ:=["_law_e","_law_at"]
abbrev Fj:Θ:=pG.append ["_law_kinds"]
abbrev mQ:Θ:=["_law_cell_here","_law_many"]
abbrev pC:Θ:=mQ.append ["_law_letters","_law_xs","_law_stem","_law_at","_law_step","_law_found","_law_k","_law_rest","_law_sign"]
abbrev mL:Θ:=["_law_script"]
abbrev Ay:Θ:=mL.append ["_law_many","_law_names_here","_law_rooms","_law_k","_law_bottom","_law_xs","_law_size","_law_titles","_law_doors","_law_j","_law_told","_law_pairs"]
abbrev jE:Θ:=["_law_rooms","_law_cell_here","_law_name"]
abbrev JZ:Θ:=jE.append ["_law_k","_law_j","_law_at","_law_pairs","_law_doors","_law_title"]
abbrev jw:Θ:=["_law_script","_law_share","_law_names_here","_law_rooms"]
abbrev IK:Θ:=jw.append ["_law_bits","_law_many","_law_k","_law_some","_law_doors","_law_name"]
abbrev iQ:Θ:=["_law_thing"]
abbrev wg:Θ:=iQ.append ["_law_top","_law_bottom"]
abbrev qe:Θ:=["_law_thing"]
abbrev FN:Θ:=qe
abbrev uP:Θ:=["_law_share","_law_rooms"]
abbrev Lf:Θ:=uP.append ["_law_known","_law_name","_law_doors","_law_ahead","_law_title","_law_pairs","_law_room","_law_weight"]
abbrev nG:Θ:=["_law_share","_law_rooms"]
abbrev vU:Θ:=nG.append ["_law_told","_law_name","_law_doors","_law_built","_law_title","_law_pairs","_law_bottom","_law_parts"]
abbrev zP:Θ:=["_law_script"]
abbrev Yp:Θ:=zP.append ["_law_spoiled_here","_law_due_here","_law_refused","_law_e","_law_share","_law_names_here","_law_rooms"]
abbrev gW:Θ:=["self","share","rooms"]
abbrev mF:Θ:=gW
abbrev fZ:Θ:=["self"]
abbrev Bc:Θ:=fZ
abbrev xM:Θ:=["self","name"]
abbrev qm:Θ:=xM
abbrev o9:Θ:=["self","room"]
abbrev bW:Θ:=o9
abbrev tY:Θ:=["self","room","name"]
abbrev lV:Θ:=tY
abbrev gK:Θ:=["self","name","pay"]
abbrev lX:Θ:=gK
abbrev gU:Θ:=["self"]
abbrev Bu:Θ:=gU
abbrev fX:Θ:=["self","name","pay","pairs"]
abbrev lu:Θ:=fX
abbrev fu:Θ:=["self","room"]
abbrev xZ:Θ:=fu
end K11
namespace H11
open PySem PySem.W L2 L2.Once K11
abbrev p:Program:=PySem.Challenge.pw_chancehall_k11_no_hall
noncomputable section
def dR(P:Params)(x:Str)(t m:Nat):DictEntry:=dE P x t (.ref m)
def wD(l:List DictEntry)(n:Nat):Obj:=⟨.type "dict",none,.dict ⟨l⟩ n,⟨[]⟩⟩
def i3(a b:Nat)(c:Nat)(l:Δ):Δ:=.int a 0::.int b 0::.ref c::l
def nd(o:Obj)(l r:BT):BT:=.node o l r
def n1(o x:Obj):BT:=.node o (lf x) .nil
def n2(o x y:Obj):BT:=.node o (lf x) (lf y)
def wA:Obj:=⟨.type "builtin_function_or_method",none,.fields ⟨[.builtin "type.__prepare__",.type "type"]⟩,⟨[]⟩⟩
def wB(n:Nat):Obj:=⟨.type "builtin_function_or_method",none,.fields ⟨[.builtin "object.__init_subclass__",.ref n]⟩,⟨[]⟩⟩
def wC(n:Str)(t l r u:Nat):Obj:=⟨.type "code",none,.fields ⟨[.str n t,.str n (t+1),.str "/claim/cut.py" (t+2),.int l 0,.int 0 0,.int 0 0,.int 0 0,.int 0 0,.ref r,.bool false,.int 181 0,.ref (r+1),.none,.none,.none,.none,.int u 0,.int l 0,.str "/claim/cut.py" (u+1)]⟩,⟨[]⟩⟩
def wF(c d:Nat)(n:Str)(t:Nat):Obj:=⟨.type "frame",none,.plain,⟨[some (.ref c),some (.ref 3),some (.ref d),none,some (.str n t),none,some (.ref 0)]⟩⟩
def wG(t n:Nat):Obj:=⟨.type "getset_descriptor",none,.fields ⟨[.str "__weakref__" t,.ref n,.builtin "ExceptionGroup.__weakref__",.none]⟩,⟨[]⟩⟩
def wK(n:Str)(b m:Δ)(d:Nat)(s:Δ)(o:Ψ)(t u:Nat)(x:String):Obj:=⟨.type "type",none,.cls ⟨n,b,m,d,n,true,[],s,false,none,false⟩,⟨[o,none,some (.str n t),some (.str n u),some (.builtin x),some (.bool true)]⟩⟩
def wS(n:Nat):Obj:=⟨.type "super",none,.fields ⟨[.ref n,.ref n,.ref n]⟩,⟨[]⟩⟩
def wT(n:Nat):Obj:=⟨.type "tuple",none,.seq ⟨[.ref n]⟩ 0,⟨[]⟩⟩
def fO(n q:Str)(s:Stmt)(m:Value)(c:Nat):Obj:=⟨.type "function",none,.func (fnOf n q (fK s) (cR s) (bw s) .none .none .none m none (.ref c) .none),⟨[]⟩⟩
def fT(n q:Str)(s:Stmt):Obj:=⟨.none,none,.func { fnOf n q (fK s) (cR s) (bw s) .none .none .none .none none .none .none with globals:=0,builtins:=0 },⟨[]⟩⟩
def fV(n:Str)(k:Nat)(m:Value)(c:Nat):Obj:=fO n n (top k) m c
def fU(n:Str)(k:Nat):Obj:=fT n n (top k)
def cU(n:Str)(t:Nat)(l a f:Int)(r u:Nat):Obj:=cO n n t l a f r u
def cV(n:Str)(t:Nat)(l a f:Int)(r u:Nat):Obj:=cP n n t l a f r u
def dM(P:Params)(l:List (String×Nat×Nat)):List DictEntry:=l.map λx=>dR P (Str.ofString x.1) x.2.1 x.2.2
def dC(P:Params)(a:Nat)(m:Value)(n:Str)(l:Int)(r:List DictEntry):List DictEntry:=dE P "__module__" a m::dE P "__qualname__" (a+2) (.str n (a+1))::dE P "__firstlineno__" (a+4) (.int l (a+3))::r
def dF(P:Params)(a:Nat)(m:Value)(l:Int)(r:List DictEntry):List DictEntry:=dE P "__module__" a m::dE P "__firstlineno__" (a+4) (.int l (a+3))::r
def wX(n:Str)(c d o t u:Nat):Obj:=wK n [.ref 31] [.ref c,.ref 31,.type "ValueError",.type "Exception",.type "BaseException",.type "object"] d [] (some (.ref o)) t u "ValueError.__new__"
def mo0:Value:=.str "__main__" 164
def mo1:Value:=.str "chancehall.errors" 194
def mo2:Value:=.str "chancehall.wholes" 394
def mo3:Value:=.str "chancehall.ratios" 414
def mo4:Value:=.str "chancehall.words" 456
def mo5:Value:=.str "chancehall.halls" 466
def mo6:Value:=.str "chancehall.levels" 583
def mo7:Value:=.str "chancehall.doors" 599
def mo8:Value:=.str "law_chancehall_k11_no_hall" 709
def Z1(P:Params):Obj:=wD (dE P "__name__" 165 mo8::dE P "__doc__" 166 .none::dE P "__package__" 167 .none::dE P "__loader__" 168 (.builtin "__main__.__loader__#opaque")::dE P "__spec__" 169 .none::dR P "__annotations__" 170 6::dR P "__builtins__" 171 4::dE P "__file__" 173 (.str "/claim/cut.py" 172)::dE P "__cached__" 174 .none::dM P [("_wall",193,21),("HallError",213,31),("NoNumber",229,44),("NoName",245,56),("NoChance",261,68),("NoShare",277,80),("NoText",293,92),("NoRow",318,111),("NoRoom",343,130),("NoDoor",368,149),("NoPlan",393,168),("is_whole",402,177),("divisor",413,184),("NOUGHT",418,185),("ONE",421,186),("ratio",430,193),("is_ratio",439,200),("plus",447,207),("under",455,214)]++dE P "LONGEST_WORD" 459 (.int 8 458)::dM P [("is_word",465,219),("check_share",474,226),("numbers_of",484,233),("numbered_ways",495,240),("offers_of",506,247),("Hall",582,304),("level",590,313),("total",598,320),("check_head",608,327),("check_room_name",615,334),("check_chance",622,341),("check_pairs",628,346),("joined_ways",634,351),("Door",681,382),("Mixed",708,403),("_law_cell",718,412),("_law_stream",730,419),("_law_gcd",740,426),("_law_lowest",749,433),("_law_only",755,438),("_law_names",761,443),("_law_drawn",767,448),("_law_strange",782,455),("_law_spoiled",798,462),("_law_is_share",807,469),("_law_word",813,474),("_law_due",819,479)]++[]) 56
def q21:Obj:=fV "_wall" 0 mo0 20
def q22:Obj:=⟨.type "tuple",none,.seq ⟨.type "ValueError"::[]⟩ 0,⟨[]⟩⟩
def q24(P:Params):Obj:=wD (dC P 203 mo1 "HallError" 5 <|dR P "__static_attributes__" 208 29::[]) 4
def q30(P:Params):Obj:=wD (dF P 203 mo1 5 <|dR P "__static_attributes__" 208 29::dR P "__weakref__" 210 32::dE P "__doc__" 211 .none::[]) 3
def q31:Obj:=wK "HallError" [.type "ValueError"] [.ref 31,.type "ValueError",.type "Exception",.type "BaseException",.type "object"] 30 [.ref 44,.ref 56,.ref 68,.ref 80,.ref 92,.ref 111,.ref 130,.ref 149,.ref 168] (some (.ref 22)) 196 204 "ValueError.__new__"
def q37(P:Params):Obj:=wD (dC P 221 mo1 "NoNumber" 7 <|dR P "__static_attributes__" 226 42::[]) 4
def q43(P:Params):Obj:=wD (dF P 221 mo1 7 <|dR P "__static_attributes__" 226 42::dE P "__doc__" 227 .none::[]) 2
def q44:Obj:=wX "NoNumber" 44 43 35 214 222
def q49(P:Params):Obj:=wD (dC P 237 mo1 "NoName" 9 <|dR P "__static_attributes__" 242 54::[]) 4
def q55(P:Params):Obj:=wD (dF P 237 mo1 9 <|dR P "__static_attributes__" 242 54::dE P "__doc__" 243 .none::[]) 2
def q56:Obj:=wX "NoName" 56 55 47 230 238
def q61(P:Params):Obj:=wD (dC P 253 mo1 "NoChance" 11 <|dR P "__static_attributes__" 258 66::[]) 4
def q67(P:Params):Obj:=wD (dF P 253 mo1 11 <|dR P "__static_attributes__" 258 66::dE P "__doc__" 259 .none::[]) 2
def q68:Obj:=wX "NoChance" 68 67 59 246 254
def q73(P:Params):Obj:=wD (dC P 269 mo1 "NoShare" 13 <|dR P "__static_attributes__" 274 78::[]) 4
def q79(P:Params):Obj:=wD (dF P 269 mo1 13 <|dR P "__static_attributes__" 274 78::dE P "__doc__" 275 .none::[]) 2
def q80:Obj:=wX "NoShare" 80 79 71 262 270
def q85(P:Params):Obj:=wD (dC P 285 mo1 "NoText" 15 <|dR P "__static_attributes__" 290 90::[]) 4
def q91(P:Params):Obj:=wD (dF P 285 mo1 15 <|dR P "__static_attributes__" 290 90::dE P "__doc__" 291 .none::[]) 2
def q92:Obj:=wX "NoText" 92 91 83 278 286
def q97(P:Params):Obj:=wD (dC P 301 mo1 "NoRow" 17 <|dR P "__init__" 313 108::dR P "__static_attributes__" 315 109::[]) 5
def V4:Obj:=cO "__init__" "NoRow.__init__" 306 19 2 3 102 311
def Wh:Obj:=fO "__init__" "NoRow.__init__" (eV 8 0) mo1 107
def WQ(P:Params):Obj:=wD (dF P 301 mo1 17 <|dR P "__init__" 313 108::dR P "__static_attributes__" 315 109::dE P "__doc__" 316 .none::[]) 2
def YQ:Obj:=wX "NoRow" 111 110 95 294 302
def aax(P:Params):Obj:=wD (dC P 326 mo1 "NoRoom" 22 <|dR P "__init__" 338 127::dR P "__static_attributes__" 340 128::[]) 5
def Y0:Obj:=cO "__init__" "NoRoom.__init__" 331 24 2 3 121 336
def X_:Obj:=fO "__init__" "NoRoom.__init__" (eV 9 0) mo1 126
def Yb(P:Params):Obj:=wD (dF P 326 mo1 22 <|dR P "__init__" 338 127::dR P "__static_attributes__" 340 128::dE P "__doc__" 341 .none::[]) 2
def YF:Obj:=wX "NoRoom" 130 129 114 319 327
def aaS(P:Params):Obj:=wD (dC P 351 mo1 "NoDoor" 27 <|dR P "__init__" 363 146::dR P "__static_attributes__" 365 147::[]) 5
def Wb:Obj:=cO "__init__" "NoDoor.__init__" 356 29 2 3 140 361
def V7:Obj:=fO "__init__" "NoDoor.__init__" (eV 10 0) mo1 145
def Xj(P:Params):Obj:=wD (dF P 351 mo1 27 <|dR P "__init__" 363 146::dR P "__static_attributes__" 365 147::dE P "__doc__" 366 .none::[]) 2
def Xr:Obj:=wX "NoDoor" 149 148 133 344 352
def aaf(P:Params):Obj:=wD (dC P 376 mo1 "NoPlan" 32 <|dR P "__init__" 388 165::dR P "__static_attributes__" 390 166::[]) 5
def Zj:Obj:=cO "__init__" "NoPlan.__init__" 381 34 2 3 159 386
def Wz:Obj:=fO "__init__" "NoPlan.__init__" (eV 11 0) mo1 164
def VP(P:Params):Obj:=wD (dF P 376 mo1 32 <|dR P "__init__" 388 165::dR P "__static_attributes__" 390 166::dE P "__doc__" 391 .none::[]) 2
def YB:Obj:=wX "NoPlan" 168 167 152 369 377
def V5:Obj:=fV "is_whole" 13 mo2 176
def WL:Obj:=tN 406 yL
def Zn:Obj:=fV "divisor" 14 mo2 183
def ZR:Obj:=⟨.type "tuple",none,.seq ⟨.int 0 416::.int 1 417::[]⟩ 0,⟨[]⟩⟩
def YW:Obj:=⟨.type "tuple",none,.seq ⟨.int 1 419::.int 1 420::[]⟩ 0,⟨[]⟩⟩
def W2:Obj:=fV "ratio" 18 mo3 192
def Xu:Obj:=fV "is_ratio" 19 mo3 199
def Xk:Obj:=fV "plus" 20 mo3 206
def XM:Obj:=fV "under" 21 mo3 213
def V9:Obj:=fV "is_word" 24 mo4 218
def WT:Obj:=cU "check_share" 468 79 1 3 220 472
def VR:Obj:=fV "check_share" 26 mo5 225
def Zr:Obj:=cU "numbers_of" 475 82 1 3 227 482
def Xn:Obj:=fV "numbers_of" 27 mo5 232
def YT:Obj:=tN 488 lN
def YX:Obj:=cU "numbered_ways" 485 90 2 3 234 493
def YM:Obj:=fV "numbered_ways" 28 mo5 239
def Yq:Obj:=tN 499 sy
def V6:Obj:=cU "offers_of" 496 97 2 3 241 504
def Yt:Obj:=fV "offers_of" 29 mo5 246
def aaE(P:Params):Obj:=wD (dC P 514 mo5 "Hall" 106 <|dM P [("__init__",524,259),("size",531,266),("names",538,273),("place",546,280),("check_room",554,287),("door_at",563,294),("offers",571,301),("__static_attributes__",575,302)]++[]) 11
def YK:Obj:=cP "__init__" "Hall.__init__" 519 108 3 3 255 522
def XJ:Obj:=fO "__init__" "Hall.__init__" (eV 30 0) mo5 258
def Xv:Obj:=fO "size" "Hall.size" (eV 30 1) mo5 265
def WK:Obj:=fO "names" "Hall.names" (eV 30 2) mo5 272
def Xm:Obj:=fO "place" "Hall.place" (eV 30 3) mo5 279
def Yl:Obj:=cO "check_room" "Hall.check_room" 547 125 2 3 281 552
def Yy:Obj:=fO "check_room" "Hall.check_room" (eV 30 4) mo5 286
def Zm:Obj:=cO "door_at" "Hall.door_at" 555 128 3 3 288 561
def Wg:Obj:=fO "door_at" "Hall.door_at" (eV 30 5) mo5 293
def Yj:Obj:=cO "offers" "Hall.offers" 564 131 2 3 295 569
def Wx:Obj:=fO "offers" "Hall.offers" (eV 30 6) mo5 300
def Wo(P:Params):Obj:=wD (dF P 514 mo5 106 <|dM P [("__init__",524,259),("size",531,266),("names",538,273),("place",546,280),("check_room",554,287),("door_at",563,294),("offers",571,301),("__static_attributes__",575,302),("__dict__",577,305),("__weakref__",579,306)]++dE P "__doc__" 580 .none::[]) 4
def X3:Obj:=wK "Hall" [.type "object"] [.ref 304,.type "object"] 303 [] none 507 515 "object.__new__"
def WR:Obj:=⟨.type "getset_descriptor",none,.fields ⟨.str "__dict__" 576::.ref 304::.builtin "function.__dict__"::.builtin "function.__dict__#set"::[]⟩,⟨[]⟩⟩
def Yw:Obj:=fV "level" 32 mo6 312
def Ye:Obj:=fV "total" 33 mo6 319
def VH:Obj:=cU "check_head" 601 143 2 3 321 606
def YZ:Obj:=fV "check_head" 35 mo7 326
def Xy:Obj:=cU "check_room_name" 609 148 1 3 328 613
def ZF:Obj:=fV "check_room_name" 36 mo7 333
def W9:Obj:=cU "check_chance" 616 151 1 3 335 620
def Zz:Obj:=fV "check_chance" 37 mo7 340
def Wi:Obj:=cV "check_pairs" 623 154 1 3 342 626
def Ws:Obj:=fV "check_pairs" 38 mo7 345
def Xh:Obj:=cV "joined_ways" 629 160 1 3 347 632
def Xz:Obj:=fV "joined_ways" 39 mo7 350
def abo(P:Params):Obj:=wD (dC P 642 mo7 "Door" 165 <|dM P [("__init__",655,365),("ways",662,372),("chance_to",670,379),("__static_attributes__",674,380)]++[]) 7
def W4:Obj:=cO "__init__" "Door.__init__" 647 167 3 3 359 653
def W8:Obj:=fO "__init__" "Door.__init__" (eV 40 0) mo7 364
def Wr:Obj:=fO "ways" "Door.ways" (eV 40 1) mo7 371
def X6:Obj:=cO "chance_to" "Door.chance_to" 663 176 2 3 373 668
def Zk:Obj:=fO "chance_to" "Door.chance_to" (eV 40 2) mo7 378
def Y4(P:Params):Obj:=wD (dF P 642 mo7 165 <|dM P [("__init__",655,365),("ways",662,372),("chance_to",670,379),("__static_attributes__",674,380),("__dict__",676,383),("__weakref__",678,384)]++dE P "__doc__" 679 .none::[]) 4
def Xf:Obj:=wK "Door" [.type "object"] [.ref 382,.type "object"] 381 [.ref 403] none 635 643 "object.__new__"
def Yh:Obj:=⟨.type "getset_descriptor",none,.fields ⟨.str "__dict__" 675::.ref 382::.builtin "function.__dict__"::.builtin "function.__dict__#set"::[]⟩,⟨[]⟩⟩
def Z_(P:Params):Obj:=wD (dC P 689 mo7 "Mixed" 178 <|dR P "__init__" 703 400::dR P "__static_attributes__" 705 401::[]) 5
def YD:Obj:=cO "__init__" "Mixed.__init__" 694 180 4 3 394 701
def XQ:Obj:=fO "__init__" "Mixed.__init__" (eV 41 0) mo7 399
def Xd(P:Params):Obj:=wD (dF P 689 mo7 178 <|dR P "__init__" 703 400::dR P "__static_attributes__" 705 401::dE P "__doc__" 706 .none::[]) 2
def Yk:Obj:=wK "Mixed" [.ref 382] [.ref 403,.ref 382,.type "object"] 402 [] (some (.ref 387)) 682 690 "object.__new__"
def Wc:Obj:=cU "_law_cell" 711 185 2 3 406 716
def YG:Obj:=fV "_law_cell" 43 mo8 411
def ZC:Obj:=tN 722 Ci
def XD:Obj:=cU "_law_stream" 719 187 2 3 413 728
def VF:Obj:=fV "_law_stream" 44 mo8 418
def Yv:Obj:=tN 734 RX
def X5:Obj:=cU "_law_gcd" 731 198 2 3 420 738
def VG:Obj:=fV "_law_gcd" 45 mo8 425
def Zu:Obj:=tN 744 Cp
def Ww:Obj:=cU "_law_lowest" 741 203 2 3 427 747
def ZK:Obj:=fV "_law_lowest" 46 mo8 432
def W0:Obj:=cV "_law_only" 750 206 2 3 434 753
def Zd:Obj:=fV "_law_only" 47 mo8 437
def ZL:Obj:=cV "_law_names" 756 211 2 3 439 759
def Zy:Obj:=fV "_law_names" 48 mo8 442
def Yr:Obj:=cV "_law_drawn" 762 225 1 3 444 765
def Zf:Obj:=fV "_law_drawn" 49 mo8 447
def ZQ:Obj:=tN 771 ["_law_rooms","_law_cell_here","_law_name","_law_k","_law_title","_law_doors","_law_j","_law_at","_law_pairs"]
def X8:Obj:=cU "_law_strange" 768 241 3 3 449 780
def ZV:Obj:=fV "_law_strange" 50 mo8 454
def Xe:Obj:=tN 786 ["_law_script","_law_share","_law_names_here","_law_rooms","_law_bits","_law_many","_law_some","_law_k","_law_doors","_law_name"]
def Xl:Obj:=cU "_law_spoiled" 783 253 4 3 456 796
def Wj:Obj:=fV "_law_spoiled" 51 mo8 461
def Wf:Obj:=tN 802 wg
def Yo:Obj:=cU "_law_is_share" 799 274 1 3 463 805
def Wm:Obj:=fV "_law_is_share" 52 mo8 468
def V1:Obj:=cV "_law_word" 808 281 1 3 470 811
def Zx:Obj:=fV "_law_word" 53 mo8 473
def Zt:Obj:=cV "_law_due" 814 285 2 3 475 817
def Zb:Obj:=fV "_law_due" 54 mo8 478
def tr1(P:Params):BT:=nd (boot_o_0 P) (nd (boot_o_1 P) (nd (Z1 P) (nd (boot_o_7 P) (nd tE (nd q31 (nd fE (n2 X_ tE Yh) (n2 (fU "ratio" 18) (cU "total" 591 139 1 3 314 596) Yr)) (nd (wT 31) (n2 tE Yy ZC) (n2 tE Xz Zb))) (nd (wT 31) (nd (q79 P) (n2 tE (fT "names" "Hall.names" (eV 30 2)) YD) (n2 Xk tE tE)) (nd YQ (n2 (fU "is_whole" 13) (Wo P) (fU "_law_lowest" 46)) (n1 YX fE)))) (nd wA (nd fE (nd (wT 31) (n2 (aaS P) tE (⟨.none,none,.fields ⟨i3 180 4 399 <|[]⟩,⟨[]⟩⟩)) (n2 (cU "is_ratio" 431 60 1 3 194 437) YZ ZV)) (nd fE (n2 (VP P) tE tE) (n1 (fU "numbers_of" 27) tE))) (nd (q55 P) (nd fE (n2 (wB 149) (cO "place" "Hall.place" 539 120 2 3 274 544) fE) (n2 tE fE fE)) (nd (wC "NoRoom" 321 22 117 324) (n2 (cU "divisor" 403 40 2 3 178 411) (fU "level" 32) tE) (n1 Yt (tN 666 bW)))))) (nd o11 (nd (fU "_wall" 0) (nd (wT 31) (nd (q67 P) (n2 (wS 130) XJ (wT 382)) (n2 fE (tN 604 lG) ZQ)) (nd (⟨.none,none,.fields ⟨i3 19 4 107 <|[]⟩,⟨[]⟩⟩) (n2 (fT "__init__" "NoPlan.__init__" (eV 11 0)) tE VF) (n1 tE tE))) (nd fE (nd (wT 31) (n2 (tN 364 ["door"]) fE Yk) (n2 tE (fU "check_chance" 37) (fU "_law_is_share" 52))) (nd wA (n2 fE (wS 304) fE) (n1 Yq (cO "ways" "Door.ways" 656 173 1 3 366 660))))) (nd (wC "HallError" 198 5 25 201) (nd (q43 P) (nd fE (n2 (wF 138 135 "chancehall.errors" 194) tE fE) (n2 (tN 443 cT) tE tE)) (nd V4 (n2 tE (fT "offers" "Hall.offers" (eV 30 6)) tE) (n1 fE (fT "__init__" "Door.__init__" (eV 40 0))))) (nd (wT 31) (nd (q91 P) (n2 tE (tN 550 bW) Wc) (n2 V9 tE tE)) (nd (tN 334 bW) (n2 tE fE Zy) (n1 tE Zk)))))) (nd (boot_o_5 P) (nd (boot_o_9 P) (nd (tN 190 ["k"]) (nd (wS 31) (nd (wF 64 61 "chancehall.errors" 194) (n2 (Yb P) (fT "__init__" "Hall.__init__" (eV 30 0)) (wS 382)) (n2 W2 tE tE)) (nd (q97 P) (n2 (tN 384 bW) fE (fU "_law_stream" 44)) (n1 WT wA))) (nd (q49 P) (nd (wS 80) (n2 Wb WK (tN 704 ["leads"])) (n2 fE (tN 619 ["chance"]) Wf)) (nd (wB 111) (n2 V5 WR ZK) (n1 tE tE)))) (nd tE (nd (wF 40 37 "chancehall.errors" 194) (nd (q73 P) (n2 (⟨.none,none,.fields ⟨i3 29 4 145 <|[]⟩,⟨[]⟩⟩) (cO "size" "Hall.size" 525 114 1 3 260 529) (wF 392 389 "chancehall.doors" 599)) (n2 tE fE fE)) (nd tE (n2 (wS 168) (tN 567 bW) X5) (n1 Xn (tN 650 lX)))) (nd (wS 56) (nd (wF 88 85 "chancehall.errors" 194) (n2 wA tE tE) (n2 (fU "is_word" 24) Wi V1)) (nd tE (n2 ZR Yw (fU "_law_names" 48)) (n1 wA (fT "chance_to" "Door.chance_to" (eV 40 2))))))) (nd o13 (nd q21 (nd (q37 P) (nd (wS 68) (n2 (wT 31) fE (Z_ P)) (n2 tE (fU "check_head" 35) (fU "_law_strange" 50))) (nd (wF 100 97 "chancehall.errors" 194) (n2 Wz Zm fE) (n1 (tN 478 lg) (wC "Door" 637 165 355 640)))) (nd (wF 52 49 "chancehall.errors" 194) (nd (q85 P) (n2 Xr tE (wB 403)) (n2 (cU "under" 448 70 2 3 208 453) Zz Wm)) (nd tE (n2 tE tE W0) (n1 (fU "offers_of" 29) tE)))) (nd tE (nd (wS 44) (nd (wF 76 73 "chancehall.errors" 194) (n2 fE (tN 535 ["self"]) tE) (n2 (fU "plus" 20) Xy Xl)) (nd (tN 314 ["row"]) (n2 (tN 399 ["thing"]) Wx Zu) (n1 tE W8))) (nd (q61 P) (nd (wS 92) (n2 (wC "NoPlan" 371 32 155 374) (fT "check_room" "Hall.check_room" (eV 30 4)) tE) (n2 fE (fU "joined_ways" 39) (fU "_law_due" 54))) (nd (fT "__init__" "NoRoom.__init__" (eV 9 0)) (n2 (tN 425 zG) tE fE) (n1 (wC "Hall" 509 106 251 512) (Y4 P)))))))) (nd (boot_o_2 P) (nd (boot_o_4 P) (nd (boot_o_8 P) (nd fE (nd (wG 209 31) (nd (wC "NoChance" 248 11 62 251) (n2 (tN 339 ["room"]) fE (wG 677 382)) (n2 (cU "ratio" 422 51 2 3 187 428) Ye Zf)) (nd wA (n2 fE tE tE) (n1 (fU "check_share" 26) tE))) (nd wA (nd q80 (n2 (fT "__init__" "NoDoor.__init__" (eV 10 0)) (cO "names" "Hall.names" 532 117 1 3 267 536) XQ) (n2 tE fE fE)) (nd (wS 111) (n2 (cU "is_whole" 396 38 1 3 171 400) X3 Ww) (n1 YM (tN 659 ["self"]))))) (nd (q24 P) (nd (wC "NoNumber" 216 7 38 219) (nd wA (n2 tE (fT "size" "Hall.size" (eV 30 1)) (wC "Mixed" 684 178 390 687)) (n2 Xu tE tE)) (nd (tN 309 ["self","row"]) (n2 YB fE (fU "_law_gcd" 45)) (n1 Zr fE))) (nd q56 (nd (wC "NoText" 280 15 86 283) (n2 (wT 31) Xm (tN 714 Ey)) (n2 fE (fU "check_pairs" 38) (fU "_law_word" 53))) (nd (wF 119 116 "chancehall.errors" 194) (n2 Zn (cV "level" 585 134 1 3 309 588) fE) (n1 tE tE))))) (nd (⟨.none,none,.fields ⟨i3 1 0 20 <|i3 5 0 27 <|i3 7 0 40 <|i3 9 0 52 <|i3 11 0 64 <|i3 13 0 76 <|i3 15 0 88 <|i3 17 0 100 <|i3 22 0 119 <|i3 27 0 138 <|i3 32 0 157 <|i3 38 0 176 <|i3 40 0 183 <|i3 51 0 192 <|i3 60 0 199 <|i3 68 0 206 <|i3 70 0 213 <|i3 74 0 218 <|i3 79 0 225 <|i3 82 0 232 <|i3 90 0 239 <|i3 97 0 246 <|i3 106 0 253 <|i3 134 0 312 <|i3 139 0 319 <|i3 143 0 326 <|i3 148 0 333 <|i3 151 0 340 <|i3 154 0 345 <|i3 160 0 350 <|i3 165 0 357 <|i3 178 0 392 <|i3 185 0 411 <|i3 187 0 418 <|i3 198 0 425 <|i3 203 0 432 <|i3 206 0 437 <|i3 211 0 442 <|i3 225 0 447 <|i3 241 0 454 <|i3 253 0 461 <|i3 274 0 468 <|i3 281 0 473 <|i3 285 0 478 <|[]⟩,⟨[]⟩⟩) (nd (cU "_wall" 187 1 1 3 15 191) (nd wA (nd q68 (n2 (wB 130) tE wA) (n2 (tN 434 o_) tE tE)) (nd (wC "NoRow" 296 17 98 299) (n2 Zj (fT "door_at" "Hall.door_at" (eV 30 5)) tE) (n1 fE (⟨.none,none,.fields ⟨i3 167 4 364 <|i3 173 4 371 <|i3 176 4 378 <|[]⟩,⟨[]⟩⟩)))) (nd (wC "NoName" 232 9 50 235) (nd wA (n2 (Xj P) (tN 542 qm) (wS 403)) (n2 (fU "under" 21) W9 Yo)) (nd (aax P) (n2 WL (wB 304) (fU "_law_only" 47)) (n1 tE Wr)))) (nd (wF 27 24 "chancehall.errors" 194) (nd q44 (nd (wC "NoShare" 264 13 74 267) (n2 tE fE (tN 697 lu)) (n2 tE (fU "check_room_name" 36) (fU "_law_spoiled" 51))) (nd Wh (n2 fE Yj fE) (n1 YT W4))) (nd wA (nd q92 (n2 (⟨.none,none,.fields ⟨i3 34 4 164 <|[]⟩,⟨[]⟩⟩) tE YG) (n2 tE fE fE)) (nd tE (n2 fE (tN 594 z7) tE) (n1 (⟨.none,none,.fields ⟨i3 108 4 258 <|i3 114 4 265 <|i3 117 4 272 <|i3 120 4 279 <|i3 125 4 286 <|i3 128 4 293 <|i3 131 4 300 <|[]⟩,⟨[]⟩⟩) (tN 671 ["leads","name","pay"]))))))) (nd (boot_o_6 P) (nd (boot_o_10 P) (nd tE (nd (wB 31) (nd tE (n2 YF YK (wB 382)) (n2 tE fE fE)) (nd tE (n2 tE (tN 558 lV) XD) (n1 VR (abo P)))) (nd tE (nd (wB 80) (n2 V7 tE (Xd P)) (n2 (tN 451 cT) tE tE)) (nd (wT 31) (n2 tE (wG 578 304) tE) (n1 fE (fT "ways" "Door.ways" (eV 40 1)))))) (nd fE (nd tE (nd tE (n2 (wC "NoDoor" 346 27 136 349) Xv tE) (n2 fE (tN 612 ["room"]) Xe)) (nd (fT "__init__" "NoRow.__init__" (eV 8 0)) (n2 (wB 168) tE VG) (n1 tE tE))) (nd (wB 56) (nd tE (n2 (aaf P) fE (fU "_law_cell" 43)) (n2 (cV "is_word" 460 74 1 3 215 463) Ws Zx)) (nd fE (n2 YW tE ZL) (n1 (aaE P) X6))))) (nd o14 (nd q22 (nd tE (nd (wB 68) (n2 wA (tN 528 ["self"]) tE) (n2 (fU "is_ratio" 19) VH X8)) (nd tE (n2 (tN 389 ["room"]) Wg Yv) (n1 tE (wF 357 354 "chancehall.doors" 599)))) (nd tE (nd tE (n2 (wS 149) (fT "place" "Hall.place" (eV 30 3)) tE) (n2 XM tE tE)) (nd (⟨.none,none,.fields ⟨i3 24 4 126 <|[]⟩,⟨[]⟩⟩) (n2 (fU "divisor" 14) fE Zd) (n1 V6 fE)))) (nd (q30 P) (nd (wB 44) (nd tE (n2 (tN 359 ["self","door"]) tE (fT "__init__" "Mixed.__init__" (eV 41 0))) (n2 (cU "plus" 440 68 2 3 201 445) ZF Wj)) (nd (WQ P) (n2 tE (tN 572 ["numbers","offered","share"]) tE) (n1 (fU "numbered_ways" 28) tE))) (nd tE (nd (wB 92) (n2 (wF 157 154 "chancehall.errors" 194) Yl fE) (n2 (tN 471 ["share"]) Xh Zt)) (nd Y0 (n2 tE (fU "total" 33) (fU "_law_drawn" 49)) (n1 (wF 253 250 "chancehall.halls" 466) Xf)))))))
def S1(w:World)(os:OsState):SharedT:=⟨tr1 w.params,480,{},⟨[]⟩,{},820,os⟩
def e1:Pos:=⟨285,0,302,15⟩
def KH:Params->Frag:=λP=>(
 (nat_lit 2,boot_o_2 P)::(nat_lit 3,wD (dE P "__name__" 165 mo8::dE P "__doc__" 166 .none::dE P "__package__" 167 .none::dE P "__loader__" 168 (.builtin "__main__.__loader__#opaque")::dE P "__spec__" 169 .none::dR P "__annotations__" 170 6::dR P "__builtins__" 171 4::dE P "__file__" 173 (.str "/claim/cut.py" 172)::dE P "__cached__" 174 .none::dM P [("_wall",193,21),("HallError",213,31),("NoNumber",229,44),("NoName",245,56),("NoChance",261,68),("NoShare",277,80),("NoText",293,92),("NoRow",318,111),("NoRoom",343,130),("NoDoor",368,149),("NoPlan",393,168),("is_whole",402,177),("divisor",413,184),("NOUGHT",418,185),("ONE",421,186),("ratio",430,193),("is_ratio",439,200),("plus",447,207),("under",455,214)]++dE P "LONGEST_WORD" 459 (.int 8 458)::dM P [("is_word",465,219),("check_share",474,226),("numbers_of",484,233),("numbered_ways",495,240),("offers_of",506,247),("Hall",582,304),("level",590,313),("total",598,320),("check_head",608,327),("check_room_name",615,334),("check_chance",622,341),("check_pairs",628,346),("joined_ways",634,351),("Door",681,382),("Mixed",708,403),("_law_cell",718,412),("_law_stream",730,419),("_law_gcd",740,426),("_law_lowest",749,433),("_law_only",755,438),("_law_names",761,443),("_law_drawn",767,448),("_law_strange",782,455),("_law_spoiled",798,462),("_law_is_share",807,469),("_law_word",813,474),("_law_due",819,479),("_law_made",825,484),("law",839,491)]++[]) 58)::(nat_lit 15,tE)::(nat_lit 17,tN 190 ["k"])::(nat_lit 18,tE)::(nat_lit 20,cU "_wall" 187 1 1 3 15 191)::(nat_lit 21,q21)::(nat_lit 22,q22)::(nat_lit 29,tE)::(nat_lit 30,q30 P)::(nat_lit 31,q31)::(nat_lit 32,(wG 209 31))::(nat_lit 35,(wT 31))::(nat_lit 42,tE)::(nat_lit 43,q43 P)::(nat_lit 44,q44)::(nat_lit 47,(wT 31))::(nat_lit 54,tE)::(nat_lit 55,q55 P)::(nat_lit 56,q56)::(nat_lit 59,(wT 31))::(nat_lit 66,tE)::(nat_lit 67,q67 P)::(nat_lit 68,q68)::(nat_lit 71,(wT 31))::(nat_lit 78,tE)::(nat_lit 79,q79 P)::(nat_lit 80,q80)::(nat_lit 83,(wT 31))::(nat_lit 90,tE)::(nat_lit 91,q91 P)::(nat_lit 92,q92)::(nat_lit 95,(wT 31))::(nat_lit 102,tE)::(nat_lit 104,tN 309 ["self","row"])::(nat_lit 105,tE)::(nat_lit 107,V4)::(nat_lit 108,Wh)::(nat_lit 109,tN 314 ["row"])::(nat_lit 110,WQ P)::(nat_lit 111,YQ)::(nat_lit 114,(wT 31))::(nat_lit 121,tE)::(nat_lit 123,tN 334 bW)::(nat_lit 124,tE)::(nat_lit 126,Y0)::(nat_lit 127,X_)::(nat_lit 128,tN 339 ["room"])::(nat_lit 129,Yb P)::(nat_lit 130,YF)::(nat_lit 133,(wT 31))::(nat_lit 140,tE)::(nat_lit 142,tN 359 ["self","door"])::(nat_lit 143,tE)::(nat_lit 145,Wb)::(nat_lit 146,V7)::(nat_lit 147,tN 364 ["door"])::(nat_lit 148,Xj P)::(nat_lit 149,Xr)::(nat_lit 152,(wT 31))::(nat_lit 159,tE)::(nat_lit 161,tN 384 bW)::(nat_lit 162,tE)::(nat_lit 164,Zj)::(nat_lit 165,Wz)::(nat_lit 166,tN 389 ["room"])::(nat_lit 167,VP P)::(nat_lit 168,YB)::(nat_lit 171,tE)::(nat_lit 173,tN 399 ["thing"])::(nat_lit 174,tE)::(nat_lit 176,cU "is_whole" 396 38 1 3 171 400)::(nat_lit 177,V5)::(nat_lit 178,tE)::(nat_lit 180,WL)::(nat_lit 181,tE)::(nat_lit 183,cU "divisor" 403 40 2 3 178 411)::(nat_lit 184,Zn)::(nat_lit 185,ZR)::(nat_lit 186,YW)::(nat_lit 187,tE)::(nat_lit 189,tN 425 zG)::(nat_lit 190,tE)::(nat_lit 192,cU "ratio" 422 51 2 3 187 428)::(nat_lit 193,W2)::(nat_lit 194,tE)::(nat_lit 196,tN 434 o_)::(nat_lit 197,tE)::(nat_lit 199,cU "is_ratio" 431 60 1 3 194 437)::(nat_lit 200,Xu)::(nat_lit 201,tE)::(nat_lit 203,tN 443 cT)::(nat_lit 204,tE)::(nat_lit 206,cU "plus" 440 68 2 3 201 445)::(nat_lit 207,Xk)::(nat_lit 208,tE)::(nat_lit 210,tN 451 cT)::(nat_lit 211,tE)::(nat_lit 213,cU "under" 448 70 2 3 208 453)::(nat_lit 214,XM)::(nat_lit 215,tE)::(nat_lit 218,cV "is_word" 460 74 1 3 215 463)::(nat_lit 219,V9)::(nat_lit 220,tE)::(nat_lit 222,tN 471 ["share"])::(nat_lit 223,tE)::(nat_lit 225,WT)::(nat_lit 226,VR)::(nat_lit 227,tE)::(nat_lit 229,tN 478 lg)::(nat_lit 230,tE)::(nat_lit 232,Zr)::(nat_lit 233,Xn)::(nat_lit 234,tE)::(nat_lit 236,YT)::(nat_lit 237,tE)::(nat_lit 239,YX)::(nat_lit 240,YM)::(nat_lit 241,tE)::(nat_lit 243,Yq)::(nat_lit 244,tE)::(nat_lit 246,V6)::(nat_lit 247,Yt)::(nat_lit 255,tE)::(nat_lit 258,YK)::(nat_lit 259,XJ)::(nat_lit 260,tE)::(nat_lit 262,tN 528 ["self"])::(nat_lit 263,tE)::(nat_lit 265,cO "size" "Hall.size" 525 114 1 3 260 529)::(nat_lit 266,Xv)::(nat_lit 267,tE)::(nat_lit 269,tN 535 ["self"])::(nat_lit 270,tE)::(nat_lit 272,cO "names" "Hall.names" 532 117 1 3 267 536)::(nat_lit 273,WK)::(nat_lit 274,tE)::(nat_lit 276,tN 542 qm)::(nat_lit 277,tE)::(nat_lit 279,cO "place" "Hall.place" 539 120 2 3 274 544)::(nat_lit 280,Xm)::(nat_lit 281,tE)::(nat_lit 283,tN 550 bW)::(nat_lit 284,tE)::(nat_lit 286,Yl)::(nat_lit 287,Yy)::(nat_lit 288,tE)::(nat_lit 290,tN 558 lV)::(nat_lit 291,tE)::(nat_lit 293,Zm)::(nat_lit 294,Wg)::(nat_lit 295,tE)::(nat_lit 297,tN 567 bW)::(nat_lit 298,tE)::(nat_lit 300,Yj)::(nat_lit 301,Wx)::(nat_lit 302,tN 572 ["numbers","offered","share"])::(nat_lit 303,Wo P)::(nat_lit 304,X3)::(nat_lit 305,WR)::(nat_lit 306,(wG 578 304))::(nat_lit 309,tE)::(nat_lit 312,cV "level" 585 134 1 3 309 588)::(nat_lit 313,Yw)::(nat_lit 314,tE)::(nat_lit 316,tN 594 z7)::(nat_lit 317,tE)::(nat_lit 319,cU "total" 591 139 1 3 314 596)::(nat_lit 320,Ye)::(nat_lit 321,tE)::(nat_lit 323,tN 604 lG)::(nat_lit 324,tE)::(nat_lit 326,VH)::(nat_lit 327,YZ)::(nat_lit 328,tE)::(nat_lit 330,tN 612 ["room"])::(nat_lit 331,tE)::(nat_lit 333,Xy)::(nat_lit 334,ZF)::(nat_lit 335,tE)::(nat_lit 337,tN 619 ["chance"])::(nat_lit 338,tE)::(nat_lit 340,W9)::(nat_lit 341,Zz)::(nat_lit 342,tE)::(nat_lit 345,Wi)::(nat_lit 346,Ws)::(nat_lit 347,tE)::(nat_lit 350,Xh)::(nat_lit 351,Xz)::(nat_lit 359,tE)::(nat_lit 361,tN 650 lX)::(nat_lit 362,tE)::(nat_lit 364,W4)::(nat_lit 365,W8)::(nat_lit 366,tE)::(nat_lit 368,tN 659 ["self"])::(nat_lit 369,tE)::(nat_lit 371,cO "ways" "Door.ways" 656 173 1 3 366 660)::(nat_lit 372,Wr)::(nat_lit 373,tE)::(nat_lit 375,tN 666 bW)::(nat_lit 376,tE)::(nat_lit 378,X6)::(nat_lit 379,Zk)::(nat_lit 380,tN 671 ["leads","name","pay"])::(nat_lit 381,Y4 P)::(nat_lit 382,Xf)::(nat_lit 383,Yh)::(nat_lit 384,(wG 677 382))::(nat_lit 387,(wT 382))::(nat_lit 394,tE)::(nat_lit 396,tN 697 lu)::(nat_lit 397,tE)::(nat_lit 399,YD)::(nat_lit 400,XQ)::(nat_lit 401,tN 704 ["leads"])::(nat_lit 402,Xd P)::(nat_lit 403,Yk)::(nat_lit 406,tE)::(nat_lit 408,tN 714 Ey)::(nat_lit 409,tE)::(nat_lit 411,Wc)::(nat_lit 412,YG)::(nat_lit 413,tE)::(nat_lit 415,ZC)::(nat_lit 416,tE)::(nat_lit 418,XD)::(nat_lit 419,VF)::(nat_lit 420,tE)::(nat_lit 422,Yv)::(nat_lit 423,tE)::(nat_lit 425,X5)::(nat_lit 426,VG)::(nat_lit 427,tE)::(nat_lit 429,Zu)::(nat_lit 430,tE)::(nat_lit 432,Ww)::(nat_lit 433,ZK)::(nat_lit 434,tE)::(nat_lit 437,W0)::(nat_lit 438,Zd)::(nat_lit 439,tE)::(nat_lit 442,ZL)::(nat_lit 443,Zy)::(nat_lit 444,tE)::(nat_lit 447,Yr)::(nat_lit 448,Zf)::(nat_lit 449,tE)::(nat_lit 451,ZQ)::(nat_lit 452,tE)::(nat_lit 454,X8)::(nat_lit 455,ZV)::(nat_lit 456,tE)::(nat_lit 458,Xe)::(nat_lit 459,tE)::(nat_lit 461,Xl)::(nat_lit 462,Wj)::(nat_lit 463,tE)::(nat_lit 465,Wf)::(nat_lit 466,tE)::(nat_lit 468,Yo)::(nat_lit 469,Wm)::(nat_lit 470,tE)::(nat_lit 473,V1)::(nat_lit 474,Zx)::(nat_lit 475,tE)::(nat_lit 478,Zt)::(nat_lit 479,Zb)::(nat_lit 480,tE)::(nat_lit 483,cV "_law_made" 820 303 2 3 480 823)::(nat_lit 484,fV "_law_made" 55 mo8 483)::(nat_lit 485,tE)::(nat_lit 487,tN 829 ["_law_script","_law_share","_law_names_here","_law_rooms","_law_spoiled_here","_law_due_here","_law_refused","_law_e"])::(nat_lit 488,tE)::(nat_lit 490,cU "law" 826 313 1 3 485 837)::(nat_lit 491,fV "law" 56 mo8 490)::([] : List (Nat×Obj)))
abbrev asH:List Nat:=[2,3,15,17,18,20,21,22,29,30,31,32,35,42,43,44,47,54,55,56,59,66,67,68,71,78,79,80,83,90,91,92,95,102,104,105,107,108,109,110,111,114,121,123,124,126,127,128,129,130,133,140,142,143,145,146,147,148,149,152,159,161,162,164,165,166,167,168,171,173,174,176,177,178,180,181,183,184,185,186,187,189,190,192,193,194,196,197,199,200,201,203,204,206,207,208,210,211,213,214,215,218,219,220,222,223,225,226,227,229,230,232,233,234,236,237,239,240,241,243,244,246,247,255,258,259,260,262,263,265,266,267,269,270,272,273,274,276,277,279,280,281,283,284,286,287,288,290,291,293,294,295,297,298,300,301,302,303,304,305,306,309,312,313,314,316,317,319,320,321,323,324,326,327,328,330,331,333,334,335,337,338,340,341,342,345,346,347,350,351,359,361,362,364,365,366,368,369,371,372,373,375,376,378,379,380,381,382,383,384,387,394,396,397,399,400,401,402,403,406,408,409,411,412,413,415,416,418,419,420,422,423,425,426,427,429,430,432,433,434,437,438,439,442,443,444,447,448,449,451,452,454,455,456,458,459,461,462,463,465,466,468,469,470,473,474,475,478,479,480,483,484,485,487,488,490,491]
end
def qv:Program:=view p [0,2,3,4,5,6,7,8,9,10,11,13,14,16,17,18,19,20,21,23,24,26,27,28,29,30,32,33,35,36,37,38,39,40,41,43,44,45,46,47,48,49,50,51,52,53,54,55,56]
abbrev R:RowW:=PySem.Challenge.rw_chancehall_k11_no_hall.row.toRowW
def Xt(s:Shared):Bool:=xlAt qv [] s&&recOk R.records s
def e:Pos:=⟨313,0,328,89⟩
set_option maxHeartbeats 0
theorem lko:looksOpen PySem.Challenge.rw_chancehall_k11_no_hall.row.prog=true:=by kernel_rfl
theorem wsd:PySem.Challenge.rw_chancehall_k11_no_hall.wellSaid=true:=by
 unfold OpenLaw.wellSaid OpenRow.wellSaid OpenRow.partSaid;rw[lko]
 kernel_rfl
theorem asK:∀P,asH=(KH P).map (·.1):=λ_=>by kernel_rfl
theorem pre(w:World):(λos=>topGo treeTable p w 11 ann 12 (S0 w os) (topStub p))=λos=>some (Sa w os,⟨denote treeTable (cE p),cE p,z,B⟩):=by
 rw[Fast.te15667345088766844465,Fast.te14364793385576792824,Fast.te11892475500146522536];kernel_rfl
theorem block(w:World):(λos=>segRun treeTable p w 11 ann 1 1 (Sa w os) (blockOf (behindTheImports p) (env p) (cE p) z B))=λos=>some (.next,(Sb w os).abs,cE p,z):=by
 rw[Fast.te14374325043358763698,Fast.te14364793385576792824];kernel_rfl
theorem XH(w:World):(λos=>segRunT treeTable p w 11 ann 1 30000 (Sb w os) (piecesOf ((behindTheImports p).take 55) (env p) (cE p) z B))=λos=>some (.next,S1 w os,cE p,e1):=by
 rw[Fast.te10110043849684766642,Fast.te14364793385576792824];kernel_rfl
theorem comb{R S A B C X Y Z:Type _}{o:Option R}{f:R->A}{g:R->B}{k:R->C}{h:R->Option S}{f1:S->X}{f2:S->Y}{f3:S->Z}{a:A}{b:B}{c:C}{x:X}{y:Y}{z:Z}(h1:(o.map λr=>(f r,g r,k r,(h r).map f1))=some (a,b,c,some x))(h2:(o.map λr=>(f r,g r,k r,(h r).map f2))=some (a,b,c,some y))(h3:(o.map λr=>(f r,g r,k r,(h r).map f3))=some (a,b,c,some z)):(o.map λr=>(f r,g r,k r,(h r).map λs=>(f1 s,f2 s,f3 s)))=some (a,b,c,some (x,y,z)):=by
 cases o with
 |none=>cases h1
 |some r =>
  simp only[Option.map_some,Option.some.injEq,Prod.mk.injEq]at h1 h2 h3 ⊢;obtain⟨a1,a2,a3,a4⟩:=h1;obtain⟨_,_,_,b4⟩:=h2;obtain⟨_,_,_,c4⟩:=h3;cases hr:h r with
  |none=>rw[hr]at a4;cases a4
  |some s =>
   rw[hr]at a4 b4 c4;refine⟨a1,a2,a3,?_⟩;simp only[Option.map_some,Option.some.injEq]at a4 b4 c4 ⊢;rw[a4,b4,c4]
theorem aaA(w:World):(λos=>(segRunT treeTable p w 11 ann 1 50000 (S1 w os) (piecesOf ((behindTheImports p).drop 55) (env p) (cE p) e1 B)).map λr=>(r.1,r.2.2.1,r.2.2.2,(topRun treeTable p w 11 ann 2 r.2.1.abs ⟨doneF .next,cE p,e,B⟩).map λs=>openSeen qv [] (importedModules p.main.body) Xt true s))=λ_=>some (.next,cE p,e,some (openGood qv [])):=by
 rw[Fast.te10110043849684766642,Fast.te14364793385576792824,Fast.te14082659384304107361,Fast.te4187177175401517315,Fast.te5923862056798008813];kernel_rfl
theorem abm(w:World):(λos=>(segRunT treeTable p w 11 ann 1 50000 (S1 w os) (piecesOf ((behindTheImports p).drop 55) (env p) (cE p) e1 B)).map λr=>(r.1,r.2.2.1,r.2.2.2,(topRun treeTable p w 11 ann 2 r.2.1.abs ⟨doneF .next,cE p,e,B⟩).map λs=>staticsOk (importedModules p.main.body) (boot_heap w.params) s.heap&&namesBound p s.heap&&gensDone s&&laidKept (boot_heap w.params) s.heap))=λ_=>some (.next,cE p,e,some (true)):=by
 rw[Fast.te10110043849684766642,Fast.te14364793385576792824,Fast.te14082659384304107361];kernel_rfl
theorem abv(w:World):(λos=>(segRunT treeTable p w 11 ann 1 50000 (S1 w os) (piecesOf ((behindTheImports p).drop 55) (env p) (cE p) e1 B)).map λr=>(r.1,r.2.2.1,r.2.2.2,(topRun treeTable p w 11 ann 2 r.2.1.abs ⟨doneF .next,cE p,e,B⟩).map λs=>asH.map s.heap.get?))=λ_=>some (.next,cE p,e,some ((KH w.params).map λp=>some p.2)):=by
 rw[Fast.te10110043849684766642,Fast.te14364793385576792824,Fast.te14082659384304107361];kernel_rfl
theorem big(w:World):(λos=>(segRunT treeTable p w 11 ann 1 50000 (S1 w os) (piecesOf ((behindTheImports p).drop 55) (env p) (cE p) e1 B)).map λr=>(r.1,r.2.2.1,r.2.2.2,(topRun treeTable p w 11 ann 2 r.2.1.abs ⟨doneF .next,cE p,e,B⟩).map λs=>(staticsOk (importedModules p.main.body) (boot_heap w.params) s.heap&&namesBound p s.heap&&gensDone s&&laidKept (boot_heap w.params) s.heap,openSeen qv [] (importedModules p.main.body) Xt true s,asH.map s.heap.get?)))=λ_=>some (.next,cE p,e,some (true,openGood qv [],(KH w.params).map λp=>some p.2)):=funext λos=>comb (congrFun (abm w) os) (congrFun (aaA w) os) (congrFun (abv w) os)
theorem left:LeftO p qv [] Xt (λs=>asH.map s.heap.get?) (λw=>(KH w.params).map λp=>some p.2) 200000 :=
 Jw (boot_open rfl rfl λ_=>rfl) pre block (λw os=>iY.cutAt (congrFun (XH w) os) (iY.last (congrFun (big w) os))) rfl
theorem hX(s:Shared)(h:Xt s=true):XL qv [] (s.heap.nsMap mainGlobals) s.heap:=xl_of s (Bool.and_eq_true_iff.mp h).1
theorem hR(s:Shared)(h:Xt s=true):RecFacts R.records s.heap:=recFacts_of (Bool.and_eq_true_iff.mp h).2
end H11
noncomputable section
namespace L2
open PySem PySem.Spec PyProof.Rows
abbrev Key:=Sum Int Str
def qj:Key->Value->Bool
 |.inl k,v=>Value.isInt k v
 |.inr x,v=>Value.isStrOf x v
def abe(w:World):Key->Int
 |.inl k=>hashInt k
 |.inr x=>hashStr w x
theorem dD:∀{k:Key}{v:Value},qj k v=true->(∃i t,k=Sum.inl i/\v=Value.int i t)\/(∃x t,k=Sum.inr x/\v=Value.str x t)
 |.inl i,v,h=>by
  obtain⟨t,e⟩:=Value.isInt_shape (k:=i) (v:=v) h;exact .inl ⟨i,t,rfl,e⟩
 |.inr x,v,h=>by
  obtain⟨t,e⟩:=Value.isStrOf_shape (x:=x) (v:=v) h;exact .inr ⟨x,t,rfl,e⟩
theorem Jh(i:Int)(t:Tok):qj (.inl i) (.int i t)=true:=by simp[qj,Value.isInt]
theorem JB(x:Str)(t:Tok):qj (.inr x) (.str x t)=true:=by simp[qj,Value.isStrOf]
theorem Vn(a b:Int):decide ((Sum.inl a:Key)=Sum.inl b)=(a==b):=by
 by_cases e:a=b
 .subst e;simp
 .have h:¬(Sum.inl a:Key)=Sum.inl b:=λq=>e (Sum.inl.inj q);rw[Zp h];exact(beq_eq_false_iff_ne.mpr e).symm
theorem TJ(a b:Str):decide ((Sum.inr a:Key)=Sum.inr b)=decide (a=b):=by
 by_cases e:a=b
 .subst e;simp
 .have h:¬(Sum.inr a:Key)=Sum.inr b:=λq=>e (Sum.inr.inj q);rw[Zp h,Zp e]
theorem Vu(a:Int)(b:Str):decide ((Sum.inl a:Key)=Sum.inr b)=false:=Zp (λq=>nomatch q)
theorem Sq(a:Str)(b:Int):decide ((Sum.inr a:Key)=Sum.inl b)=false:=Zp (λq=>nomatch q)
def eN(prog:Program)(w:World):PySem.KeyKind prog w Key where
 is:=qj
 hash:=abe w
 inj:=λv a b ha hb=>by
  rcases dD ha with⟨i,t,rfl,rfl⟩|⟨x,t,rfl,rfl⟩
  .rcases dD hb with⟨j,u,rfl,e⟩|⟨y,u,rfl,e⟩
   .injection e with e1 _;rw[e1]
   .exact nomatch e
  .rcases dD hb with⟨j,u,rfl,e⟩|⟨y,u,rfl,e⟩
   .exact nomatch e
   .injection e with e1 _;rw[e1]
 byValue:=λk v h=>by
  rcases dD h with⟨i,t,rfl,rfl⟩|⟨x,t,rfl,rfl⟩<;>rfl
 pyHash:=λhv h=>by
  rcases dD hv with⟨i,t,rfl,rfl⟩|⟨x,t,rfl,rfl⟩
  .exact wpAny_pyHash_int h
  .exact wpAny_pyHash_str h
 eqBool:=λhu hv h=>by
  rcases dD hu with⟨i,t,rfl,rfl⟩|⟨x,t,rfl,rfl⟩
  .rcases dD hv with⟨j,u,rfl,rfl⟩|⟨y,u,rfl,rfl⟩
   .rw[Vn]at h;exact wpAny_eqBool_int h
   .rw[Vu]at h;exact SeqAt.EqAt.int_str i t y u _ _ _ _ h
  .rcases dD hv with⟨j,u,rfl,rfl⟩|⟨y,u,rfl,rfl⟩
   .rw[Sq]at h;exact SeqAt.EqAt.str_int x t j u _ _ _ _ h
   .rw[TJ]at h;exact wpAny_eqBool_str h
 «strs»:=λk x t v h=>by
  rcases dD h with⟨i,u,rfl,e⟩|⟨y,u,rfl,e⟩
  .exact nomatch e
  .injection e with e1 _;subst e1;cases v<;>rfl
theorem Du(prog:Program)(w:World)(i:Int)(t:Tok):(eN prog w).is (.inl i) (.int i t)=true:=Jh i t
theorem Cz(prog:Program)(w:World)(x:Str)(t:Tok):(eN prog w).is (.inr x) (.str x t)=true:=JB x t
inductive V where
 |non|bl (b:Bool)|int (i:Int)|str (x:Str)|byt (b:Array UInt8)|flt (b:UInt64)|ref (a:Addr)|ty (n:String)
 deriving DecidableEq
abbrev Β:=List V
def RelV:V->Value->Prop
 |.non,u=>u=Value.none
 |.bl b,u=>u=Value.bool b
 |.int i,u=>∃t,u=Value.int i t
 |.str x,u=>∃t,u=Value.str x t
 |.byt b,u=>∃t,u=Value.bytes b t
 |.flt b,u=>∃t,u=Value.float b t
 |.ref a,u=>u=Value.ref a
 |.ty n,u=>u=Value.type n
abbrev Vals:Β->Δ->Prop:=Paired RelV
theorem Vals.length{xs:Β}{us:Δ}(r:Vals xs us):xs.length=us.length:=Paired.length r
theorem Vals.get:∀{xs:Β}{us:Δ}{i:Nat}{x:V},Vals xs us->xs[i]?=some x->∃u,us[i]?=some u/\RelV x u
 |_,_,_,_,.nil,e=>by simp at e
 |_,_,0,_,.cons r _,e=>by simp at e;subst e;exact⟨_,rfl,r⟩
 |_,_,i+1,x,.cons _ t,e=>by
  obtain⟨u,h1,h2⟩:=Vals.get (i:=i) (x:=x) t (by simpa using e);exact⟨u,by simpa using h1,h2⟩
theorem Vals.set{x:V}{u:Value}(r:RelV x u):∀{xs:Β}{us:Δ}(i:Nat),Vals xs us->Vals (xs.set i x) (us.set i u)
 |_,_,_,.nil=>.nil
 |_,_,0,.cons _ t=>.cons r t
 |_,_,i+1,.cons q t=>.cons q (Vals.set r i t)
theorem Vals.append:∀{xs ys:Β}{us ws:Δ},Vals xs us->Vals ys ws->Vals (xs++ys) (us++ws)
 |_,_,_,_,.nil,s=>s
 |_,_,_,_,.cons r t,s=>.cons r (Vals.append t s)
theorem Vals.take:∀{xs:Β}{us:Δ}(n:Nat),Vals xs us->Vals (xs.take n) (us.take n)
 |_,_,0,_=>.nil
 |_,_,_+1,.nil=>.nil
 |_,_,n+1,.cons r t=>.cons r (Vals.take n t)
theorem Vals.drop:∀{xs:Β}{us:Δ}(n:Nat),Vals xs us->Vals (xs.drop n) (us.drop n)
 |_,_,0,r=>r
 |_,_,_+1,.nil=>.nil
 |_,_,n+1,.cons _ t=>Vals.drop n t
def m8:Option V->Ψ->Prop
 |some v,some u=>RelV v u
 |none,none=>True
 |_,_=>False
def KV{κ:Type} : List (κ×V)->List (κ×Value)->Prop:=Paired λ(p:κ×V)(q:κ×Value)=>p.1=q.1/\RelV p.2 q.2
def kV:Key->V
 |.inl i=>.int i
 |.inr x=>.str x
inductive HO where
  |lst (xs:Β)
  |tup (xs:Β)
  |dK (kvs:List (Key×V))
  |set (S:Int->Bool) (n:Nat)
  |ins (C dx:Addr) (fs:List (Str×V))
  |own (x:Addr)
  |xd (fs:List (Str×V))
  |met (f x:Addr)
  |rng (lo hi:Int)
  |frz (o:Obj) (u:HO)
  |tbl (ps:Array Value)
  |ext (φ:Heap->Prop)
abbrev Hp:=Addr->Option HO
def upd(H:Hp)(a:Addr)(o:HO):Hp:=λb=>if b=a then some o else H b
theorem bK{H:Hp}{a:Addr}{o:HO} : upd H a o a=some o:=by unfold upd;rw[ZY rfl]
theorem bJ{H:Hp}{a b:Addr}{o:HO}(h:b≠a):upd H a o b=H b:=by unfold upd;rw[ZZ h]
theorem pF{H:Hp}{a b:Addr}{o u:HO}(h:H a=some o)(h':H b=some u)(d:o≠u):a≠b:=by
 intro e;subst e;rw[h]at h';exact d (Option.some.inj h')
theorem gC{H:Hp}{a b:Addr}{o:HO}(h:H a=some o)(h':H b=none):a≠b:=by
 intro e;subst e;rw[h]at h';cases h'
section
variable(P:Program)(w:World)
def cX(H:Hp)(h:Heap)(a:Addr):HO->Prop
 |.lst xs=>xs.length<=sizeLine/\∃(its:Δ)(n:Nat),Vals xs its/\h.get? a=some { cls:=.type "list",data:=.seq its.toArray n }
 |.tup xs=>xs.length<=sizeLine/\∃its:Δ,Vals xs its/\IsTup h a its.toArray
 |.dK kvs=>kvs.length<=sizeLine/\(a==sysModules)=false/\∃vs,KV kvs vs/\h.DictOf (eN P w) a vs
 |.set S n=>h.SetOf (intKind P w) a S n
 |.ins C dx fs=>H dx=some (.own a)/\fs.length<=1000/\dx≠a/\h.get? a=some (instObj C dx) /\
   ∃mA,h.Ns1 dx mA/\(∀f,m8 (fs.lookup f) (mA f))/\PySem.Within mA (fs.map (·.1))
 |.own _=>∃o,h.get? a=some o
 |.xd fs=>∃mA,h.Ns1 a mA/\∀f,m8 (fs.lookup f) (mA f)
 |.rng lo hi=>∃t u v,h.get? a=some { cls:=.type "range",data:=.fields #[.int lo t,.int hi u,.int 1 v] }
 |.frz o u=>h.get? a=some o/\cX H h a u
 |.tbl ps=>h.get? a=some { cls:=.none,data:=.fields ps }
 |.met f x=>h.get? a=some (methodObj (.ref f) (.ref x))
 |.ext φ=>φ h/\(∃o,h.get? a=some o)/\∀h1 h2:Heap,φ h1->(∀o,h1.get? a=some o->h2.get? a=some o)->φ h2
def HOk(H:Hp)(h:Heap):Prop:=∀a o,H a=some o->cX P w H h a o
end
section
variable{P:Program}{w:World}{H H':Hp}{h h':Heap}{a:Addr}{o:HO}
theorem cX.lt(x:cX P w H h a o):a<h.objs.size:=by
 cases o with
 |lst xs=>obtain⟨_,_,_,_,e⟩:=x;exact aH e
 |tup xs=>obtain⟨_,_,_,p⟩:=x;exact p.lt
 |dK kvs=>obtain⟨_,_,_,_,o,_,_,e,_⟩:=x;exact aH e
 |set S n=>obtain⟨o,_,_,_,e,_⟩:=x;exact aH e
 |ins C dx fs=>obtain⟨_,_,_,e,_⟩:=x;exact aH e
 |own y=>obtain⟨_,e⟩:=x;exact aH e
 |xd fs=>obtain⟨_,⟨_,_,_,e,_⟩,_⟩:=x;exact aH e
 |rng lo hi=>obtain⟨_,_,_,e⟩:=x;exact aH e
 |frz ob u=>obtain⟨e,_⟩:=x;exact aH e
 |tbl ps=>exact aH (show h.get? a=some _ from x)
 |met f y=>exact aH (show h.get? a=some _ from x)
 |ext φ=>obtain⟨_,⟨_,e⟩,_⟩:=x;exact aH e
theorem cX.stay(x:cX P w H h a o)(k:∀b u,(b=a\/H b=some (.own a))->h.get? b=some u->h'.get? b=some u)
 (ho:∀b,H b=some (.own a)->H' b=some (.own a))(ht:∀b xs,H b=some (.tup xs)->H' b=some (.tup xs)):cX P w H' h' a o:=by
 induction o with
 |lst xs=>obtain⟨z,its,n,r,e⟩:=x;exact⟨z,its,n,r,k _ _ (.inl rfl) e⟩
 |tup xs=>obtain⟨z,its,r,ob,e,c⟩:=x;exact⟨z,its,r,ob,k _ _ (.inl rfl) e,c⟩
 |dK kvs=>obtain⟨z,y,vs,r,ob,es,ep,e,c⟩:=x;exact⟨z,y,vs,r,ob,es,ep,k _ _ (.inl rfl) e,c⟩
 |set S n=>obtain⟨ob,es,ep,t,e,c⟩:=x;exact⟨ob,es,ep,t,k _ _ (.inl rfl) e,c⟩
 |ins C dx fs =>
  obtain⟨d,z,ne,e,mA,⟨od,es,ep,e2,c⟩,r⟩:=x;exact⟨ho _ d,z,ne,k _ _ (.inl rfl) e,mA,⟨od,es,ep,k _ _ (.inr d) e2,c⟩,r⟩
 |own y=>obtain⟨ob,e⟩:=x;exact⟨ob,k _ _ (.inl rfl) e⟩
 |xd fs=>obtain⟨mA,⟨od,es,ep,e,c⟩,r⟩:=x;exact⟨mA,⟨od,es,ep,k _ _ (.inl rfl) e,c⟩,r⟩
 |rng lo hi=>obtain⟨t,u,v,e⟩:=x;exact⟨t,u,v,k _ _ (.inl rfl) e⟩
 |frz ob u ih=>obtain⟨e,q⟩:=x;exact⟨k _ _ (.inl rfl) e,ih q⟩
 |tbl ps =>
  have e:h.get? a=some { cls:=.none,data:=.fields ps }:=x;show h'.get? a=some { cls:=.none,data:=.fields ps };exact k a _ (.inl rfl) e
 |met f y =>
  have e:h.get? a=some (methodObj (.ref f) (.ref y)):=x;show h'.get? a=some (methodObj (.ref f) (.ref y));exact k a _ (.inl rfl) e
 |ext φ=>obtain⟨p,⟨o,e⟩,st⟩:=x;exact⟨st _ _ p λo q=>k _ _ (.inl rfl) q,⟨o,k _ _ (.inl rfl) e⟩,st⟩
theorem HOk.lt(x:HOk P w H h)(e:H a=some o):a<h.objs.size:=(x a o e).lt
theorem HOk.fresh(x:HOk P w H h)(e:h.objs.size<=a):H a=none:=by
 cases q:H a with
 |none=>rfl
 |some u=>exact absurd (aO (x.lt q) e) (XU _)
theorem HOk.kept(x:HOk P w H h)(k:∀b u,h.get? b=some u->h'.get? b=some u):HOk P w H h':=λa o e =>
 (x a o e).stay (λb u _ q=>k b u q) (λ_ q=>q) λ_ _ q=>q
theorem HOk.laid(x:HOk P w H h)(k:∀b u,h.get? b=some u->h'.get? b=some u)(hp:h.objs.size<=a)(new:cX P w (upd H a o) h' a o):HOk P w (upd H a o) h':=λb u e=>by
 have hn:=x.fresh hp;by_cases hb:b=a
 .subst hb;rw[bK]at e;cases e;exact new
 .rw[bJ hb]at e;exact(x b u e).stay (λc v _ q=>k c v q) (λc q=>by rw[bJ (gC q hn)];exact q) λc xs q=>by rw[bJ (gC q hn)];exact q
end
def Rd(H:Hp)(a:Addr)(u:HO):Prop:=H a=some u\/∃o,H a=some (.frz o u)
theorem Rd.of{H:Hp}{a:Addr}{u:HO}(h:H a=some u):Rd H a u:=.inl h
theorem Rd.ok{P:Program}{w:World}{H:Hp}{h:Heap}{a:Addr}{u:HO}(r:Rd H a u)(x:HOk P w H h):cX P w H h a u:=by
 rcases r with r|⟨o,r⟩
 .exact x a u r
 .obtain⟨_,q⟩:=x a _ r;exact q
def Mut:Option HO->Prop
 |some (.lst _)=>True
 |some (.dK _)=>True
 |some (.set _ _)=>True
 |some (.ins _ _ _)=>True
 |some (.ext _)=>True
 |_=>False
section
variable{P:Program}{w:World}{H:Hp}{h h':Heap}{x e:Addr}{o':HO}
theorem HOk.write(ok:HOk P w H h)(mu:Mut (H x))(he:e=x\/H e=some (.own x))(k:∀b u,b≠e->h.get? b=some u->h'.get? b=some u)(g7:∃u,h'.get? e=some u)
 (new:cX P w (upd H x o') h' x o'):HOk P w (upd H x o') h':=λb u q=>by
 have ia:∀c y,H c=some (.own y)->c≠x:=λc y r z=>by subst z;rw[r]at mu;exact mu
 have kD:∀c xs,H c=some (.tup xs)->c≠x:=λc xs r z=>by subst z;rw[r]at mu;exact mu
 by_cases hb:b=x
 .subst hb;rw[bK]at q;cases q;exact new
 .rw[bJ hb]at q;by_cases hbe:b=e
  .have q':H b=some (.own x):=by
    rcases he with z|z
    .exact absurd (hbe.trans z) hb
    .rw[hbe];exact z
   rw[q]at q';cases q';obtain⟨v,hv⟩:=g7;exact⟨v,by rw[hbe];exact hv⟩
  .refine(ok b u q).stay (λc v hc r=>k c v ?_ r) (λc r=>by rw[bJ (ia c b r)];exact r) λc xs r=>by rw[bJ (kD c xs r)];exact r
   rcases hc with rfl|hc
   .exact hbe
   .rintro rfl;rcases he with z|z
    .exact ia c b hc z
    .rw[hc]at z;cases z;exact hb rfl
end
structure Un(fs ex:Φ)(H H':Hp)(h h':Heap):Prop where
 keep:∀b o,h.get? b=some o->H b=none->b∉fs->b∉ex->h'.get? b=some o
 slot:∀b o,h.get? b=some o->H b=none->b∈fs->b∉ex->∃sl,h'.get? b=some { o with slots:=sl }
 free:∀b o,h.get? b=some o->H b=none->b∉ex->H' b=none
 there:∀b o,h.get? b=some o->b∉ex->∃o',h'.get? b=some o'
 tups:∀b xs,H b=some (.tup xs)->H' b=some (.tup xs)
 frzs:∀b o u,H b=some (.frz o u)->H' b=some (.frz o u)
 tbls:∀b ps,H b=some (.tbl ps)->∃more,H' b=some (.tbl (ps++more))
section
variable{fs fs' ex ex':Φ}{H H1 H2:Hp}{h h1 h2 h':Heap}{a x e:Addr}{o:HO}
theorem Un.any(u:Un fs ex H H1 h h1){b:Addr}{ob:Obj}(q:h.get? b=some ob)(n:H b=none)(hx:b∉ex):∃sl,h1.get? b=some { ob with slots:=sl }:=by
 by_cases hb:b∈fs
 .exact u.slot b ob q n hb hx
 .exact⟨ob.slots,u.keep b ob q n hb hx⟩
theorem Un.kept(k:∀b u,h.get? b=some u->h'.get? b=some u):Un fs ex H H h h' :=
 ⟨λb ob q _ _ _=>k b ob q,λb ob q _ _ _=>⟨ob.slots,k b ob q⟩,λ_ _ _ n _=>n,λb ob q _=>⟨ob,k b ob q⟩,λ_ _ q=>q,λ_ _ _ q=>q,λ_ ps q=>⟨#[],by rw[q];simp⟩⟩
theorem Un.refl:Un fs ex H H h h:=Un.kept λ_ _ q=>q
theorem Un.laid(k:∀b u,h.get? b=some u->h'.get? b=some u)(hp:h.objs.size<=a)(hn:H a=none):Un fs ex H (upd H a o) h h' where
 keep:=λb u q _ _ _=>k b u q
 slot:=λb u q _ _ _=>⟨u.slots,k b u q⟩
 free:=λb u q n _=>by rw[bJ (aN (aO (aH q) hp))];exact n
 there:=λb u q _=>⟨u,k b u q⟩
 tups:=λb xs q=>by rw[bJ (gC q hn)];exact q
 frzs:=λb u xs q=>by rw[bJ (gC q hn)];exact q
 tbls:=λb ps q=>⟨#[],by rw[bJ (gC q hn),q];simp⟩
theorem Un.write(mu:Mut (H x))(he:e=x\/H e=some (.own x))(k:∀b u,b≠e->h.get? b=some u->h'.get? b=some u)(g7:∃u,h'.get? e=some u):Un fs ex H (upd H x o) h h':=by
 have hx:∀b,H b=none->b≠x:=λb n z=>by subst z;rw[n]at mu;exact mu
 have hb:∀b,H b=none->b≠e:=λb n z=>by
  subst z;rcases he with r|r
  .exact hx b n r
  .rw[n]at r;cases r
 have hm:∀b u,H b=some u->¬Mut (some u)->b≠x:=λb u q nm z=>by subst z;rw[q]at mu;exact nm mu
 refine⟨λb u q n _ _=>k b u (hb b n) q,λb u q n _ _=>⟨u.slots,k b u (hb b n) q⟩,λb u q n _=>by rw[bJ (hx b n)];exact n,λb u q _=>?_,
  λb xs q=>by rw[bJ (hm b _ q λz=>z)];exact q,λb u xs q=>by rw[bJ (hm b _ q λz=>z)];exact q,λb ps q=>⟨#[],by rw[bJ (hm b _ q λz=>z),q];simp⟩⟩
 by_cases hbe:b=e
 .subst hbe;exact g7
 .exact⟨u,k b u hbe q⟩
end
def trk(h:Heap)(H:Hp):Φ:=(List.range h.objs.size).filter λa=>(H a).isSome
def yV(h:Heap)(H:Hp):Heap:=hideAll h (trk h H)
theorem Jx(h:Heap)(H:Hp):(yV h H).objs.size=h.objs.size:=PySem.W.hideAll_size _ _
theorem Lj{h:Heap}{H:Hp}{b:Addr}{o:Obj}(e:h.get? b=some o)(n:H b=none):(yV h H).get? b=some o :=
 hideAll_get _ e λhm=>by
  have q:(H b).isSome=true:=(List.mem_filter.mp hm).2;rw[n]at q;simp at q
theorem Q0{h:Heap}{H:Hp}{b:Addr}{o:Obj}(e:(yV h H).get? b=some o):h.get? b=some o/\H b=none:=by
 have e':h.get? b=some o:=of_hideAll (trk h H) e;refine⟨e',?_⟩;cases q:H b with
 |none=>rfl
 |some x =>
  have hm:b∈trk h H:=List.mem_filter.mpr ⟨List.mem_range.mpr (aH e'),by simp[q]⟩;have z:(yV h H).get? b=none:=PySem.W.hideAll_none (trk h H) hm;rw[z]at e;cases e
def Pj(g h:Heap)(L:Addr):Γ:=(List.range h.objs.size).filterMap λa=>if a=L\/(g.get? a).isSome=true then none else(h.get? a).map λo=>(a,o)
def rest(g h:Heap)(L d:Addr):Γ:=(Pj g h L).filter λp=>decide (p.1≠d)
structure Mod(K:Frag)(mg:Str->Ψ)(base:Heap):Prop where
 kin:K.In base
 glob:base.Ns mainGlobals mg
 blt:∃mb,base.Ns builtinsNs mb/\∀x:Str,x≠"__name__"->mb x=bootBuiltins x
 nolimit:base.NoLimit
structure Cx where
 prog:Program
 w:World
 K:Frag
 mg:Str->Ψ
 base:Heap
 A:Around
 N:Θ
 s₀:Shared
 H₀:Hp
 env:Env
 outer:List Env
 stack:List Env
 ex:Φ
 fn:Str->Bool
 calm:Bool
 pn:Γ
 xe:Ξ
def frs(l:List Env):Φ:=l.filterMap (·.frame)
abbrev Cx.fs(X:Cx):Φ:=frs X.outer
def Vis(sc:Scope)(x:Str):Prop:=sc.names.lookup x=some .local\/sc.names.lookup x=some .cell\/sc.names.lookup x=some .free
def Loc(sc:Scope)(x:Str):Prop:=sc.names.lookup x=some .local\/sc.names.lookup x=some .cell
def Look(env:Env)(h:Heap)(m:Str->Ψ)(x:Str)(u:Value):Prop :=
 (env.kindOf x=some .local/\m x=some u)\/((env.kindOf x=some .cell\/env.kindOf x=some .free)/\∃c,env.cells.lookup x=some c/\h.IsCell c (some u))
structure Cx.Ok(X:Cx):Prop where
 mod:Mod X.K X.mg X.base
 kind:X.env.scope.kind=.function
 glob:X.env.globals=mainGlobals
 blt:X.env.builtins=builtinsNs
 above:X.s₀.heap.objs.size<=X.env.locals
 inj:∀x y c,X.env.cells.lookup x=some c->X.env.cells.lookup y=some c->x=y
 has:∀x,(X.env.kindOf x=some .cell\/X.env.kindOf x=some .free)->∃c,X.env.cells.lookup x=some c
 cab:∀x c,X.fn x=true->X.env.cells.lookup x=some c->X.s₀.heap.objs.size<=c
 hd:X.calm=true->X.A.handled=none
 frames:X.A.frames=some X.stack
 stk:X.stack=X.outer\/(X.stack=X.env::X.outer/\X.env.frame=some X.env.locals)
 exf:∀b∈X.ex,b≠X.env.locals/\∀x c,X.env.cells.lookup x=some c->c≠b
 bs:∀b o,X.base.get? b=some o->X.s₀.heap.get? b=some o/\X.H₀ b=none
 bsz:X.base.objs.size<=X.s₀.heap.objs.size
 noex:∀b o,X.base.get? b=some o->b∉X.ex
 exfs:∀b∈X.ex,b∉X.fs
 funs:X.s₀.heap.FunFrames X.base X.outer
 frf:∀b∈X.fs,X.H₀ b=none
structure Inv(X:Cx)(aa:Γ)(σ:List (Option V))(H:Hp)(s:Shared):Prop where
 ok:X.Ok
 os:s.os=X.s₀.os
 bare:AllBare s.gens
 base:Un X.fs X.ex X.H₀ H X.s₀.heap s.heap
 loc:∃m,s.heap.Ns X.env.locals m/\∀(i:Nat)(x:Str)(v:V),X.N[i]?=some x->σ[i]?=some (some v)->Vis X.env.scope x->∃u,RelV v u/\Look X.env s.heap m x u
 cell:∀x c,X.env.cells.lookup x=some c->∃v,s.heap.IsCell c v
 free:H X.env.locals=none
 freeC:∀x c,X.env.cells.lookup x=some c->H c=none
 pin:∀p∈X.pn++aa,s.heap.get? p.1=some p.2/\H p.1=none/\p.1≠X.env.locals/\p.1∉X.fs/\∀v,p.2.data≠.cell v
 hok:HOk X.prog X.w H s.heap
 len:σ.length=X.N.length
section
variable{X:Cx}{aa:Γ}{σ:List (Option V)}{H H':Hp}{s:Shared}{h':Heap}
theorem Cx.Ok.nofr(ok:X.Ok){b:Addr}{o:Obj}(e:X.base.get? b=some o):b∉X.fs:=λhb=>by
 have:=(ok.funs.mem hb).1;rw[e]at this;cases this
theorem Inv.bs(I:Inv X aa σ H s):∀b o,X.base.get? b=some o->s.heap.get? b=some o/\H b=none:=λb o e =>
 ⟨I.base.keep b o (I.ok.bs b o e).1 (I.ok.bs b o e).2 (I.ok.nofr e) (I.ok.noex b o e),I.base.free b o (I.ok.bs b o e).1 (I.ok.bs b o e).2 (I.ok.noex b o e)⟩
theorem Inv.bk(I:Inv X aa σ H s):∀b o,X.base.get? b=some o->s.heap.get? b=some o:=λb o e=>(I.bs b o e).1
theorem Inv.mod(I:Inv X aa σ H s):Mod X.K X.mg X.base:=I.ok.mod
theorem Inv.kIn(I:Inv X aa σ H s):X.K.In s.heap:=I.ok.mod.kin.keeps I.bk
theorem Inv.fr(I:Inv X aa σ H s):∃m,Fr X.base X.env.locals s.heap m :=
 let⟨m,hn,_⟩:=I.loc
 ⟨m,hn,I.bk,aJ I.ok.bsz I.ok.above⟩
theorem Inv.lt(I:Inv X aa σ H s):X.env.locals<s.heap.objs.size:=by obtain⟨_,hn,_⟩:=I.loc;exact hn.lt
theorem Inv.sz(I:Inv X aa σ H s):X.s₀.heap.objs.size<=s.heap.objs.size:=aJ I.ok.above (Y2 I.lt)
theorem Inv.nofs(I:Inv X aa σ H s){a:Addr}(h:s.heap.objs.size<=a):a∉X.fs:=λhb=>by
 obtain⟨_,o,ho,_⟩:=I.ok.funs.mem hb;exact absurd (aO (aH ho) (aJ I.sz h)) (XU _)
theorem Inv.cne(I:Inv X aa σ H s):∀x c,X.env.cells.lookup x=some c->c≠X.env.locals:=λx c e z=>by
 obtain⟨v,o,ho,hd⟩:=I.cell x c e;obtain⟨m,⟨o',es,ep,bX,aw,_⟩,_⟩:=I.loc;rw[z,bX]at ho;cases ho;rw[aw]at hd;cases hd
theorem Inv.funs(I:Inv X aa σ H s):s.heap.FunFrames X.base X.outer:=by
 have all:∀(l:List Env),(∀b∈frs l,b∈X.fs)->X.s₀.heap.FunFrames X.base l->s.heap.FunFrames X.base l:=by
  intro l
  induction l with
  |nil=>intro _ _;trivial
  |cons env r ih =>
   intro hs hl;obtain⟨hk,⟨L,o,hf,hn,ho,hd⟩,hr⟩:=hl;have hL:L∈X.fs:=hs L (by unfold frs;rw[List.filterMap_cons,hf];exact aL);obtain⟨sl,e⟩:=I.base.slot L o ho (I.ok.frf L hL) hL λz=>I.ok.exfs L z hL;exact⟨hk,⟨L,_,hf,hn,e,hd⟩,ih (λb hb=>hs b (by unfold frs;rw[List.filterMap_cons,hf];exact aG _ hb)) hr⟩
 exact all X.outer (λ_ hb=>hb) I.ok.funs
theorem Inv.stack(I:Inv X aa σ H s):s.heap.FunFrames X.base X.stack:=by
 rcases I.ok.stk with e|⟨e,hf⟩
 .rw[e];exact I.funs
 .rw[e];obtain⟨m,hn,_⟩:=I.loc;refine .cons (by rw[I.ok.kind];decide) hf hn ?_ I.funs;exact Heap.get?_none_of_le (aJ I.ok.bsz I.ok.above)
theorem Inv.stkSub(I:Inv X aa σ H s):∀b∈frs X.stack,b∈X.env.locals::X.fs:=λb hb=>by
 rcases I.ok.stk with e|⟨e,hf⟩
 .rw[e]at hb;exact aG _ hb
 .rw[e]at hb;unfold frs at hb;rw[List.filterMap_cons,hf]at hb;exact hb
theorem Inv.stkFree(I:Inv X aa σ H s):∀b∈frs X.stack,H b=none:=λb hb=>by
 rcases YU.mp (I.stkSub b hb)with e|hb
 .rw[e];exact I.free
 .obtain⟨_,o,ho,_⟩:=I.ok.funs.mem hb;exact I.base.free b o ho (I.ok.frf b hb) λz=>I.ok.exfs b z hb
theorem Inv.step{g':Array GenState}{t':Nat}{d':Drawn}{ch:Φ}(I:Inv X aa σ H s)
 (eL:∀b∈ch,(b∈X.ex\/X.s₀.heap.objs.size<=b)/\b≠X.env.locals/\(∀x c,X.env.cells.lookup x=some c->c≠b)/\∀p∈X.pn++aa,p.1≠b)
 (keep:∀b o,b≠X.env.locals->b∉X.fs->b∉ch->s.heap.get? b=some o->H b=none->h'.get? b=some o)
 (slot:∀b o,b≠X.env.locals->b∈X.fs->b∉ch->s.heap.get? b=some o->H b=none->∃sl,h'.get? b=some { o with slots:=sl })(free:∀b o,b∉ch->s.heap.get? b=some o->H b=none->H' b=none)
 (there:∀b o,b∉ch->s.heap.get? b=some o->∃o',h'.get? b=some o')
 (tups:∀b xs,H b=some (.tup xs)->H' b=some (.tup xs))(frzs:∀b o u,H b=some (.frz o u)->H' b=some (.frz o u))(tbls:∀b ps,H b=some (.tbl ps)->∃more,H' b=some (.tbl (ps++more)))
 (ns:∀m,s.heap.Ns X.env.locals m->h'.Ns X.env.locals m)(hok:HOk X.prog X.w H' h')(hg:AllBare g') :
  Inv X aa σ H' { s with heap:=h',gens:=g',drawn:=d',toks:=t' }:=by
 have neL:∀b o,X.s₀.heap.get? b=some o->b≠X.env.locals:=λb o e=>aN (aO (aH e) I.ok.above);have ka:∀b o,X.s₀.heap.get? b=some o->b∉X.ex->b∉ch:=λb o e hx hb=>by
  rcases(eL b hb).1 with z|z
  .exact hx z
  .exact absurd (aO (aH e) z) (XU _)
 have fx:∀x c,X.env.cells.lookup x=some c->∀v,s.heap.IsCell c v->h'.IsCell c v:=λx c e v hP=>by
  obtain⟨o,ho,hd⟩:=hP;have ic:c∉ch:=λz=>(eL c z).2.2.1 x c e rfl;by_cases hc:c∈X.fs
  .obtain⟨sl,q⟩:=slot c o (I.cne x c e) hc ic ho (I.freeC x c e);exact⟨_,q,hd⟩
  .exact⟨o,keep c o (I.cne x c e) hc ic ho (I.freeC x c e),hd⟩
 refine⟨I.ok,I.os,hg,⟨λb o e n hb hx=>?_,λb o e n hb hx=>?_,λb o e n hx=>?_,λb o e hx=>?_,λb xs e=>tups b xs (I.base.tups b xs e),λb o xs e=>frzs b o xs (I.base.frzs b o xs e),λb ps e=>?_⟩,?_,λx c e=>?_,?_,λx c e=>?_,λp hp=>?_,hok,I.len⟩
 .exact keep b o (neL b o e) hb (ka b o e hx) (I.base.keep b o e n hb hx) (I.base.free b o e n hx)
 .obtain⟨sl,e1⟩:=I.base.slot b o e n hb hx;obtain⟨eJ,e2⟩:=slot b _ (neL b o e) hb (ka b o e hx) e1 (I.base.free b o e n hx);exact⟨eJ,e2⟩
 .obtain⟨o',e1⟩:=I.base.there b o e hx;exact free b o' (ka b o e hx) e1 (I.base.free b o e n hx)
 .obtain⟨o',e1⟩:=I.base.there b o e hx;exact there b o' (ka b o e hx) e1
 .obtain⟨m1,e1⟩:=I.base.tbls b ps e;obtain⟨m2,e2⟩:=tbls b _ e1;exact⟨m1++m2,by rw[e2,Array.append_assoc]⟩
 .obtain⟨m,hn,hl⟩:=I.loc;refine⟨m,ns m hn,λi x v e1 e2 e3=>?_⟩;obtain⟨u,r,l⟩:=hl i x v e1 e2 e3;refine⟨u,r,?_⟩;rcases l with l|⟨k,c,e,z⟩
  .exact .inl l
  .exact .inr ⟨k,c,e,fx x c e _ z⟩
 .obtain⟨v,z⟩:=I.cell x c e;exact⟨v,fx x c e v z⟩
 .obtain⟨m,⟨o,_,_,ho,_⟩,_⟩:=I.loc;exact free _ o (λz=>(eL _ z).2.1 rfl) ho I.free
 .obtain⟨v,o,ho,hd⟩:=I.cell x c e;exact free c o (λz=>(eL c z).2.2.1 x c e rfl) ho (I.freeC x c e)
 .obtain⟨e,n,ne,nf,d⟩:=I.pin p hp;have ic:p.1∉ch:=λz=>(eL p.1 z).2.2.2 p hp rfl;exact⟨keep p.1 p.2 ne nf ic e n,free p.1 p.2 ic e n,ne,nf,d⟩
theorem Inv.un{t':Nat}(I:Inv X aa σ H s)(u:Un X.fs [] H H' s.heap h')(hok:HOk X.prog X.w H' h'):Inv X aa σ H' { s with heap:=h',toks:=t' }:=by
 obtain⟨m,⟨o,es,ep,ho,r⟩,_⟩:=id I.loc;obtain⟨sl,hL⟩:=u.any ho I.free (by simp);exact I.step (g':=s.gens) (d':=s.drawn) (ch:=[]) (λ_ z=>nomatch z) (λb o _ hb _ e n=>u.keep b o e n hb (by simp)) (λb o _ hb _ e n=>u.slot b o e n hb (by simp)) (λb o _ e n=>u.free b o e n (by simp)) (λb o _ e=>u.there b o e (by simp)) u.tups u.frzs u.tbls (λm' hm=>by
  obtain⟨o',mh,mi,bX,r'⟩:=hm;rw[ho]at bX;cases bX;exact⟨_,mh,mi,hL,r'⟩) hok I.bare
theorem Inv.call{g':Array GenState}{t':Nat}{d':Drawn}{ch:Φ}(I:Inv X aa σ H s)(u:Un (frs X.stack) ch H H' s.heap h')(hok:HOk X.prog X.w H' h')(hg:AllBare g')
 (eL:∀b∈ch,(b∈X.ex\/X.s₀.heap.objs.size<=b)/\b≠X.env.locals/\(∀x c,X.env.cells.lookup x=some c->c≠b)/\∀p∈X.pn++aa,p.1≠b) :
  Inv X aa σ H' { s with heap:=h',gens:=g',drawn:=d',toks:=t' }:=by
 obtain⟨m,⟨o,es,ep,ho,r⟩,_⟩:=id I.loc;obtain⟨sl,hL⟩:=u.any ho I.free λz=>(eL _ z).2.1 rfl;exact I.step (ch:=ch) eL (λb o hL hb hc e n=>u.keep b o e n (λz=>(YU.mp (I.stkSub b z)).elim hL hb) hc) (λb o _ _ hc e n=>u.any e n hc) (λb o hc e n=>u.free b o e n hc) (λb o hc e=>u.there b o e hc) u.tups u.frzs u.tbls (λm' hm=>by
  obtain⟨o',mh,mi,bX,r'⟩:=hm;rw[ho]at bX;cases bX;exact⟨_,mh,mi,hL,r'⟩) hok hg
theorem Inv.turned{t':Nat}{it:Addr}(I:Inv X aa σ H s)(k:∀b o,b≠it->s.heap.get? b=some o->h'.get? b=some o)(hn:H it=none)(hL:it≠X.env.locals)
 (h1:it∈X.ex\/X.s₀.heap.objs.size<=it)(h2:∀x c,X.env.cells.lookup x=some c->c≠it)(h3:∀p∈X.pn++aa,p.1≠it):Inv X aa σ H { s with heap:=h',toks:=t' }:=by
 have nit:∀b u,H b=some u->b≠it:=λb u e z=>by rw[z,hn]at e;cases e
 refine I.step (g':=s.gens) (d':=s.drawn) (ch:=[it]) (λb hb=>?_) (λb o _ _ hc e _=>k b o (λz=>hc (by simp[z])) e) (λb o _ _ hc e _=>⟨o.slots,k b o (λz=>hc (by simp[z])) e⟩) (λ_ _ _ _ n=>n)
  (λb o hc e=>⟨o,k b o (λz=>hc (by simp[z])) e⟩) (λ_ _ e=>e) (λ_ _ _ e=>e) (λb ps e=>⟨#[],by rw[e];simp⟩) (λm hm=>?_) (λb u e=>?_) I.bare
 .have e:b=it:=by simpa using hb
  subst e;exact⟨h1,hL,h2,h3⟩
 .obtain⟨o,es,ep,ho,r⟩:=hm;exact⟨o,es,ep,k _ o (Ne.symm hL) ho,r⟩
 .refine(I.hok b u e).stay (λc v hc q=>k c v ?_ q) (λ_ q=>q) λ_ _ q=>q;rcases hc with z|z
  .rw[z];exact nit b u e
  .exact nit c _ z
theorem Inv.tok(I:Inv X aa σ H s)(t:Nat):Inv X aa σ H { s with toks:=t }:=I.un (h':=s.heap) (t':=t) Un.refl I.hok
theorem Inv.kept{t':Nat}(I:Inv X aa σ H s)(k:∀b u,s.heap.get? b=some u->h'.get? b=some u):Inv X aa σ H { s with heap:=h',toks:=t' }:=I.un (Un.kept k) (I.hok.kept k)
theorem Inv.laid{a:Addr}{o:HO}{t':Nat}(I:Inv X aa σ H s)(k:∀b u,s.heap.get? b=some u->h'.get? b=some u)(hp:s.heap.objs.size<=a)(new:cX X.prog X.w (upd H a o) h' a o) :
  Inv X aa σ (upd H a o) { s with heap:=h',toks:=t' }:=I.un (Un.laid k hp (I.hok.fresh hp)) (I.hok.laid k hp new)
theorem Inv.write{x e:Addr}{o:HO}{t':Nat}(I:Inv X aa σ H s)(mu:Mut (H x))(he:e=x\/H e=some (.own x))(k:∀b u,b≠e->s.heap.get? b=some u->h'.get? b=some u)(g7:∃u,h'.get? e=some u)
 (new:cX X.prog X.w (upd H x o) h' x o):Inv X aa σ (upd H x o) { s with heap:=h',toks:=t' }:=I.un (Un.write mu he k g7) (I.hok.write mu he k g7 new)
theorem Inv.pins_of{b6:Γ}(I:Inv X aa σ H s)(h:∀p∈b6,s.heap.get? p.1=some p.2/\H p.1=none/\p.1≠X.env.locals/\p.1∉X.fs/\∀v,p.2.data≠.cell v):Inv X b6 σ H s :=
 ⟨I.ok,I.os,I.bare,I.base,I.loc,I.cell,I.free,I.freeC,λp hp=>(Y1.mp hp).elim (λz=>I.pin p (VX _ z)) (h p),I.hok,I.len⟩
theorem vW{N:Θ}(hN:N.Nodup){i j:Nat}{x:Str}(a:N[i]?=some x)(b:N[j]?=some x):i=j:=by
 obtain⟨h1,e1⟩:=ao.mp a;obtain⟨h2,e2⟩:=ao.mp b;exact(List.getElem_inj hN).mp (e1.trans e2.symm)
abbrev qr(X:Cx)(a:Str):Prop:=X.fn a=true\/X.env.scope.names.lookup a=some .local
theorem JN{M:Model}{A:Around}{E:Ξ}{i:Nat}{x:Str}{v:V}{u:Value}{Q:Unit->Shared->Prop}(I:Inv X aa σ H s)(hN:X.N.Nodup)(hi:X.N[i]?=some x)(hx:Loc X.env.scope x)(r:RelV v u)
 (h:∀s',Inv X aa (σ.set i (some v)) H s'->(∃a,Heap.SameBut a s.heap s'.heap/\(a=X.env.locals\/X.env.cells.lookup x=some a))->Q () s')(hf:qr X x):wpAny M A (storeName X.env x u) Q E s:=by
 obtain⟨m,hn,hl⟩:=id I.loc;have ef:(X.env.scope.kind == .class || (X.env.scope.kind == .module&&X.env.locals != X.env.globals))=false:=by rw[I.ok.kind];rfl
 have ki:i<σ.length:=by rw[I.len];exact(ao.mp hi).1
 have cne:=I.cne;have db:∀{a:Addr}{h':Heap},(∃o,s.heap.get? a=some o/\H a=none)->Heap.SameBut a s.heap h'->HOk X.prog X.w H h':=λ{a h'}ha hs b ob e=>by
  obtain⟨_,_,bg⟩:=ha;refine(I.hok b ob e).stay (λc w' hc q=>(hs.2 c ?_).trans q) (λ_ q=>q) λ_ _ q=>q;rintro rfl;rcases hc with rfl|hc
  .rw[bg]at e;cases e
  .rw[bg]at hc;cases hc
 rcases hx with hk|hk
 .refine wpAny_storeName_local hk hn (λh' k4 hs=>?_) ef;obtain⟨oL,_,_,hoL,_⟩:=id hn;refine h _ ⟨I.ok,I.os,I.bare,⟨λb o e n hb hx=>?_,λb o e n hb hx=>?_,I.base.free,λb o e hx=>?_,I.base.tups,I.base.frzs,I.base.tbls⟩,⟨_,k4,λj y v' e1 e2 e3=>?_⟩,λy c e=>?_,I.free,I.freeC,λp hp=>?_,db ⟨oL,hoL,I.free⟩ hs,by simpa using I.len⟩ ⟨_,hs,.inl rfl⟩
  .exact(hs.2 b (aN (aO (aH e) I.ok.above))).trans (I.base.keep b o e n hb hx)
  .obtain⟨sl,e1⟩:=I.base.slot b o e n hb hx;exact⟨sl,(hs.2 b (aN (aO (aH e) I.ok.above))).trans e1⟩
  .obtain⟨o',e1⟩:=I.base.there b o e hx;exact⟨o',(hs.2 b (aN (aO (aH e) I.ok.above))).trans e1⟩
  .by_cases hj:j=i
   .subst hj;rw[hi]at e1;cases e1;rw[WU ki]at e2;cases e2;exact⟨u,r,.inl ⟨hk,by simp⟩⟩
   .rw[WV (Ne.symm hj)]at e2;obtain⟨u',r',q⟩:=hl j y v' e1 e2 e3;refine⟨u',r',?_⟩;rcases q with⟨k,e⟩|⟨k,c,e,z⟩
    .refine .inl ⟨k,?_⟩;have:y≠x:=λe=>hj (vW hN e1 (e ▸ hi));simp[this,e]
    .exact .inr ⟨k,c,e,z.sameBut hs (cne y c e)⟩
  .obtain⟨w',z⟩:=I.cell y c e;exact⟨w',z.sameBut hs (cne y c e)⟩
  .obtain⟨e,n,ne,nf,d⟩:=I.pin p hp;exact⟨(hs.2 p.1 ne).trans e,n,ne,nf,d⟩
 .have gy:X.fn x=true:=by
   rcases hf with z|z
   .exact z
   .rw[z]at hk;cases hk
  obtain⟨c,hc⟩:=I.ok.has x (.inl hk);obtain⟨w',z⟩:=I.cell x c hc;refine wpAny_storeName_cell I.ok.kind hk hc z (λh' di hs=>?_);obtain⟨oc,hoc,kS⟩:=id z;refine h { s with heap:=h' } ⟨I.ok,I.os,I.bare,⟨λb o e n hb hx=>?_,λb o e n hb hx=>?_,I.base.free,λb o e hx=>?_,I.base.tups,I.base.frzs,I.base.tbls⟩,⟨m,hn.sameBut hs (Ne.symm (cne x c hc)),λj y v' e1 e2 e3=>?_⟩,λy c' e=>?_,I.free,I.freeC,λp hp=>?_,db ⟨oc,hoc,I.freeC x c hc⟩ hs,by simpa using I.len⟩ ⟨c,hs,.inr hc⟩
  .exact(hs.2 b (aN (aO (aH e) (I.ok.cab x c gy hc)))).trans (I.base.keep b o e n hb hx)
  .obtain⟨sl,e1⟩:=I.base.slot b o e n hb hx;exact⟨sl,(hs.2 b (aN (aO (aH e) (I.ok.cab x c gy hc)))).trans e1⟩
  .obtain⟨o',e1⟩:=I.base.there b o e hx;exact⟨o',(hs.2 b (aN (aO (aH e) (I.ok.cab x c gy hc)))).trans e1⟩
  .by_cases hj:j=i
   .subst hj;rw[hi]at e1;cases e1;rw[WU ki]at e2;cases e2;exact⟨u,r,.inr ⟨.inl hk,c,hc,di⟩⟩
   .rw[WV (Ne.symm hj)]at e2;obtain⟨u',r',q⟩:=hl j y v' e1 e2 e3;refine⟨u',r',?_⟩;rcases q with q|⟨k,c',e,z'⟩
    .exact .inl q
    .refine .inr ⟨k,c',e,z'.sameBut hs ?_⟩;rintro rfl;exact hj (vW hN e1 (I.ok.inj _ _ _ e hc ▸ hi))
  .by_cases g9:c'=c
   .subst g9;exact⟨_,di⟩
   .obtain⟨w2,z2⟩:=I.cell y c' e;exact⟨w2,z2.sameBut hs g9⟩
  .obtain⟨e,n,ne,nf,d⟩:=I.pin p hp;refine⟨(hs.2 p.1 ?_).trans e,n,ne,nf,d⟩;intro q;rw[q,hoc]at e;have q':oc=p.2:=Option.some.inj e;exact d w' (by rw[<- q'];exact kS)
theorem m_{M:Model}{A:Around}{E:Ξ}{i:Nat}{x:Str}{v:V}{u:Value}{Q:Unit->Shared->Prop}(I:Inv X aa σ H s)(hN:X.N.Nodup)(hi:X.N[i]?=some x)(hx:Loc X.env.scope x)(r:RelV v u)
 (h:∀s',Inv X aa (σ.set i (some v)) H s'->Q () s')(hf:qr X x:=by first|exact .inl rfl|exact .inr rfl|assumption):wpAny M A (storeName X.env x u) Q E s :=
 JN I hN hi hx r (λs' I' _=>h s' I') hf
theorem Inv.call'{s':Shared}{ch:Φ}(I:Inv X aa σ H s)(ho:s'.os=s.os)(u:Un (frs X.stack) ch H H' s.heap s'.heap)(hok:HOk X.prog X.w H' s'.heap)(hg:AllBare s'.gens)
 (eL:∀b∈ch,(b∈X.ex\/X.s₀.heap.objs.size<=b)/\b≠X.env.locals/\(∀x c,X.env.cells.lookup x=some c->c≠b)/\∀p∈X.pn++aa,p.1≠b):Inv X aa σ H' s':=by
 obtain⟨h',g',d',t',o'⟩:=s';have e:o'=s.os:=ho;subst e;exact I.call (g':=g') (t':=t') (d':=d') u hok hg eL
end
abbrev XK:=Value->Ω->Hp->Prop
abbrev St:=List (Option V)
abbrev VK:=V->Hp->Prop
abbrev TE:=St->Hp->VK->Prop
abbrev TT:=St->Hp->(Bool->Hp->Prop)->Prop
abbrev TA:=St->Hp->(Β->Hp->Prop)->Prop
structure Ends where
 nx:St->Hp->Prop
 rt:VK
 bk:St->Hp->Prop:=λ_ _=>False
 ct:St->Hp->Prop:=λ_ _=>False
abbrev TS:=Ends->St->Hp->Prop
def EP(X:Cx)(aa:Γ)(σ:St)(Q:VK)(u:Value)(s':Shared):Prop:=∃v H',Inv X aa σ H' s'/\RelV v u/\Q v H'
def TP(X:Cx)(aa:Γ)(σ:St)(Q:Bool->Hp->Prop)(b:Bool)(s':Shared):Prop:=∃H',Inv X aa σ H' s'/\Q b H'
def AP(X:Cx)(aa:Γ)(σ:St)(Q:Β->Hp->Prop)(us:Δ)(s':Shared):Prop:=∃vs H',Inv X aa σ H' s'/\Vals vs us/\Q vs H'
def SP(X:Cx)(aa:Γ)(D:Ends)(f:Flow)(s':Shared):Prop :=
 match f with
 |.next=>∃σ' H',Inv X aa σ' H' s'/\D.nx σ' H'
 |.brk=>∃σ' H',Inv X aa σ' H' s'/\D.bk σ' H'
 |.cont=>∃σ' H',Inv X aa σ' H' s'/\D.ct σ' H'
 |.ret u=>∃v σ' H',Inv X aa σ' H' s'/\RelV v u/\D.rt v H'
def PE(X:Cx)(e:Expr)(t:TE):Prop :=
 ∀(aa:Γ)(s:Shared)(σ:St)(H:Hp)(Q:VK),Inv X aa σ H s->t σ H Q->wpAny (model X.prog X.w) X.A (eval e X.env) (EP X aa σ Q) X.xe s
def PT(X:Cx)(e:Expr)(t:TT):Prop :=
 ∀(aa:Γ)(s:Shared)(σ:St)(H:Hp)(Q:Bool->Hp->Prop),Inv X aa σ H s->t σ H Q->wpAny (model X.prog X.w) X.A (isTrue e X.env (eval e X.env)) (TP X aa σ Q) X.xe s
def PW(X:Cx)(e:Expr)(t:TT):Prop :=
 ∀(bE:Sem Value)(aa:Γ)(s:Shared)(σ:St)(H:Hp)(Q:Bool->Hp->Prop),Inv X aa σ H s->t σ H Q->wpAny (model X.prog X.w) X.A (isTrue e X.env bE) (TP X aa σ Q) X.xe s
theorem PW.pt{X:Cx}{e:Expr}{t:TT}(h:PW X e t):PT X e t:=h _
def PA(X:Cx)(es:List Expr)(t:TA):Prop :=
 ∀(pos:Pos)(aa:Γ)(s:Shared)(σ:St)(H:Hp)(Q:Β->Hp->Prop),Inv X aa σ H s->t σ H Q->wpAny (model X.prog X.w) X.A (spliced (backTo pos (starEach es X.env))) (AP X aa σ Q) X.xe s
def PS(X:Cx)(st:Stmt)(t:TS):Prop :=
 ∀(aa:Γ)(s:Shared)(σ:St)(H:Hp)(D:Ends),Inv X aa σ H s->t D σ H->wpAny (model X.prog X.w) X.A (exec st X.env) (SP X aa D) X.xe s
def PSs(X:Cx)(st:List Stmt)(t:TS):Prop :=
 ∀(aa:Γ)(s:Shared)(σ:St)(H:Hp)(D:Ends),Inv X aa σ H s->t D σ H->wpAny (model X.prog X.w) X.A (execs st X.env) (SP X aa D) X.xe s
theorem thn{α:Type}{t:Sem α}{Q Q':α->Shared->Prop}{M:Model}{A:Around}{E:Ξ}{s:Shared}(h:wpAny M A t Q E s)(hQ:∀a s,Q a s->Q' a s):wpAny M A t Q' E s:=wpAny_mono h hQ λ_ _ x=>x
section
variable{X:Cx}
def P0(i:Nat):TE:=λσ H Q=>∃v,σ[i]?=some (some v)/\Q v H
def tC(v:V):TE:=λ_ H Q=>Q v H
abbrev qq(a:Str):Prop:=(a==("__debug__":Str))=false
abbrev qk(a:Str):Prop:=(a==("__classdict__":Str))=false
theorem Ur{i:Nat}{x:Str}{pos:Pos}(hN:X.N[i]?=some x)(hv:Vis X.env.scope x)(hd:qq x:=by decide)(a9:qk x:=by decide):PE X (.Name x pos) (P0 i):=by
 intro aa s σ H Q I h;obtain⟨v,e,h⟩:=h;obtain⟨m,hn,hl⟩:=I.loc;obtain⟨u,r,l⟩:=hl i x v hN e hv;have am:EP X aa σ Q u s:=⟨v,H,I,r,h⟩;rcases l with⟨hk,hm⟩|⟨hk,c,hc,cq⟩
 .exact wpAny_Name (wpAny_loadName_local I.ok.kind hk hn hm am) hd
 .rcases hk with hk|hk
  .exact wpAny_Name (wpAny_loadName_cell I.ok.kind hk hc cq am) hd
  .exact wpAny_Name (wpAny_loadName_free I.ok.kind hk hc cq am a9) hd
theorem Vt{i j pos} : PE X (.Constant (.int i) j pos) (tC (.int i)):=λ_ _ _ H _ I h=>wpAny_Constant_int ⟨.int i,H,I.tok _,⟨_,rfl⟩,h⟩
theorem Y7{b j pos} : PE X (.Constant (.bool b) j pos) (tC (.bl b)):=λ_ _ _ H _ I h=>Constant_bool ⟨.bl b,H,I,rfl,h⟩
theorem U8{j pos} : PE X (.Constant .none j pos) (tC .non):=λ_ _ _ H _ I h=>Constant_none ⟨.non,H,I,rfl,h⟩
theorem Nt{x j pos} : PE X (.Constant (.str x) j pos) (tC (.str x)):=λ_ _ _ H _ I h=>Calls.Constant_str ⟨.str x,H,I.tok _,⟨_,rfl⟩,h⟩
def Gl(X:Cx)(x:Str):Prop:=X.env.kindOf x=some .globalImplicit
theorem iB{E:Ξ}{aa:Γ}{s:Shared}{σ:St}{H:Hp}{x:Str}{u:Value}{pos:Pos}{Q:Ξ}(I:Inv X aa σ H s)(hg:Gl X x)(hm:X.mg x=some u)(h:Q u s)
 (hd:qq x:=by decide):wpAny (model X.prog X.w) X.A (eval (.Name x pos) X.env) Q E s :=
 Calls.Name_function_global I.ok.kind hg (Calls.loadGlobal_global (by rw[I.ok.glob];exact I.mod.glob.keeps I.bk) hm h) hd
theorem uH{E:Ξ}{aa:Γ}{s:Shared}{σ:St}{H:Hp}{x:Str}{u:Value}{pos:Pos}{Q:Ξ}(I:Inv X aa σ H s)(hg:Gl X x)(hm:X.mg x=none)(hv:bootBuiltins x=some u)(h:Q u s)
 (hn:x≠"__name__":=by decide)(hd:qq x:=by decide):wpAny (model X.prog X.w) X.A (eval (.Name x pos) X.env) Q E s:=by
 obtain⟨mb,h1,h2⟩:=I.mod.blt;exact Calls.Name_function_global I.ok.kind hg (Calls.loadGlobal_builtin (by rw[I.ok.glob];exact I.mod.glob.keeps I.bk) hm (by rw[I.ok.blt];exact h1.keeps I.bk) ((h2 x hn).trans hv) h) hd
theorem Hs{x:Str}{v:V}{u:Value}{pos:Pos}(hg:Gl X x)(hm:X.mg x=some u)(r:RelV v u)(hd:qq x:=by decide):PE X (.Name x pos) (tC v) :=
 λ_ _ _ H _ I h=>iB I hg hm ⟨v,H,I,r,h⟩ hd
theorem Iv{x:Str}{v:V}{u:Value}{pos:Pos}(hg:Gl X x)(hm:X.mg x=none)(hv:bootBuiltins x=some u)(r:RelV v u)(hn:x≠"__name__":=by decide)(hd:qq x:=by decide):PE X (.Name x pos) (tC v) :=
 λ_ _ _ H _ I h=>uH I hg hm hv ⟨v,H,I,r,h⟩ hn hd
variable{a b:Expr}{ta tb:TE}{pos:Pos}
def PC(X:Cx)(op:CmpOp)(a b:Expr)(t:TE):Prop :=
 ∀(aa:Γ)(s:Shared)(σ:St)(H:Hp)(Q:VK),Inv X aa σ H s->t σ H Q ->
  wpAny (model X.prog X.w) X.A (eval a X.env) (λv s₁=>wpAny (model X.prog X.w) X.A (eval b X.env) (λu s₂=>wpAny (model X.prog X.w) X.A (compareOp op v u) (EP X aa σ Q) X.xe s₂) X.xe s₁) X.xe s
def tB(t:TE):TT:=λσ H Q=>t σ H λx H1=>∃c,x=.bl c/\Q c H1
theorem Mr{op:CmpOp}{t:TE}(h:PC X op a b t)(h1:behindInMarks op b=false:=by rfl):PT X (.Compare a [op] [b] pos) (tB t):=by
 intro aa s σ H Q I hw;refine wpAny_isTrue_Compare1 (thn (h aa s σ H _ I hw) λv s1 h1=>thn h1 λu s2 h2=>thn h2 λc s3 hP=>?_) h1;obtain⟨x,H1,I1,r1,q1⟩:=hP;obtain⟨d,rfl,q⟩:=q1;cases r1;exact wpAny_truthy_bool ⟨H1,I1,q⟩
variable{tA j2:TT}{rest:List Expr}
def abw(t u:TT):TT:=λσ H Q=>t σ H λc H1=>if c=true then u σ H1 Q else Q false H1
def tOr(t u:TT):TT:=λσ H Q=>t σ H λc H1=>if c=true then Q true H1 else u σ H1 Q
def abn(t:TT):TT:=λσ H Q=>t σ H λc H1=>Q (!c) H1
theorem pw_and1(ha:PT X a tA):PW X (.BoolOp .And [a] pos) tA:=by
 intro wh aa s σ H Q I h;refine isTrue_and (thn (ha aa s σ H Q I h) λc s1 e=>?_);cases c with
 |true=>exact isTrue_and_nil e
 |false=>exact e
theorem pw_or1(ha:PT X a tA):PW X (.BoolOp .Or [a] pos) tA:=by
 intro wh aa s σ H Q I h;refine isTrue_or (thn (ha aa s σ H Q I h) λc s1 e=>?_);cases c with
 |false=>exact isTrue_or_nil e
 |true=>exact e
theorem pw_and(ha:PT X a tA)(hb:PW X (.BoolOp .And (b::rest) pos) j2):PW X (.BoolOp .And (a::b::rest) pos) (abw tA j2):=by
 intro wh aa s σ H Q I h;refine isTrue_and (thn (ha aa s σ H _ I h) λc s1 hP=>?_);obtain⟨H1,I1,q1⟩:=hP;cases c with
 |true=>exact hb wh aa s1 σ H1 Q I1 q1
 |false=>exact⟨H1,I1,q1⟩
theorem pw_or(ha:PT X a tA)(hb:PW X (.BoolOp .Or (b::rest) pos) j2):PW X (.BoolOp .Or (a::b::rest) pos) (tOr tA j2):=by
 intro wh aa s σ H Q I h;refine isTrue_or (thn (ha aa s σ H _ I h) λc s1 hP=>?_);obtain⟨H1,I1,q1⟩:=hP;cases c with
 |true=>exact⟨H1,I1,q1⟩
 |false=>exact hb wh aa s1 σ H1 Q I1 q1
theorem TQ(ha:PT X a tA):PT X (.UnaryOp .Not a pos) (abn tA):=by
 intro aa s σ H Q I h;exact isTrue_not (ha aa s σ H (λc H1=>Q (!c) H1) I h)
def WM(ta tb:TE):TE:=λσ H Q=>ta σ H λx H1=>∃c,x=.bl c/\if c=true then tb σ H1 Q else Q (.bl false) H1
def ZJ(ta:TE):TE:=λσ H Q=>ta σ H λx H1=>∃c,x=.bl c/\Q (.bl (!c)) H1
theorem S5{op}{t:TE}(h:PE X a t):PE X (.BoolOp op [a] pos) t:=λaa s σ H Q I hw=>BoolOp_one (h aa s σ H Q I hw)
theorem U6(ha:PE X a ta)(hb:PE X (.BoolOp .And (b::rest) pos) tb):PE X (.BoolOp .And (a::b::rest) pos) (WM ta tb):=by
 intro aa s σ H Q I h;refine BoolOp_and (thn (ha aa s σ H _ I h) λv s1 hP=>?_);obtain⟨x,H1,I1,r1,q1⟩:=hP;obtain⟨c,rfl,q1⟩:=q1;cases r1;refine wpAny_truthy_bool ?_;cases c with
 |true=>exact hb aa s1 σ H1 Q I1 q1
 |false=>exact⟨.bl false,H1,I1,rfl,q1⟩
theorem Tw(ha:PE X a ta):PE X (.UnaryOp .Not a pos) (ZJ ta):=by
 intro aa s σ H Q I h;refine UnaryOp_ (thn (ha aa s σ H _ I h) λv s1 hP=>?_);obtain⟨x,H1,I1,r1,q1⟩:=hP;obtain⟨c,rfl,q1⟩:=q1;cases r1;exact not_of (wpAny_truthy_bool ⟨.bl (!c),H1,I1,rfl,q1⟩)
end
def SqL(K:Frag)(H:Hp)(a:Addr)(xs:Β):Prop :=
 Rd H a (.lst xs) \/
  ∃(o:Obj)(its:Array Value)(n:Nat),K.lookup a=some o/\o.cls=.type "list"/\o.dict=none/\o.data=.seq its n/\its.size<=sizeLine/\Vals xs its.toList
def SqT(K:Frag)(H:Hp)(a:Addr)(xs:Β):Prop :=
 Rd H a (.tup xs) \/
  ∃(o:Obj)(its:Array Value)(n:Nat),K.lookup a=some o/\o.cls=.type "tuple"/\o.data=.seq its n/\its.size<=sizeLine/\Vals xs its.toList
def aaR:Value->Option V
 |.none=>some .non
 |.bool b=>some (.bl b)
 |.int i _=>some (.int i)
 |.str x _=>some (.str x)
 |.bytes b _=>some (.byt b)
 |.float b _=>some (.flt b)
 |.ref a=>some (.ref a)
 |.type n=>some (.ty n)
 |_=>none
theorem RelV.abs{x:V}{u:Value}(r:RelV x u):aaR u=some x:=by
 cases x with
 |non=>cases r;rfl
 |bl _=>cases r;rfl
 |int _=>obtain⟨t,rfl⟩:=r;rfl
 |str _=>obtain⟨t,rfl⟩:=r;rfl
 |byt _=>obtain⟨t,rfl⟩:=r;rfl
 |flt _=>obtain⟨t,rfl⟩:=r;rfl
 |ref _=>cases r;rfl
 |ty _=>cases r;rfl
theorem RelV.inj{x y:V}{u:Value}(r:RelV x u)(q:RelV y u):x=y:=Option.some.inj (r.abs.symm.trans q.abs)
theorem Vals.inj:∀{xs ys:Β}{us:Δ},Vals xs us->Vals ys us->xs=ys
 |_,_,_,.nil,.nil=>rfl
 |_,_,_,.cons r t,.cons r' t'=>by rw[r.inj r',Vals.inj t t']
section
variable{X:Cx}{aa:Γ}{σ:St}{H:Hp}{s:Shared}{a:Addr}{xs ys:Β}
theorem SqL.of{K:Frag}(h:H a=some (.lst xs)):SqL K H a xs:=.inl (.inl h)
theorem SqT.of{K:Frag}(h:H a=some (.tup xs)):SqT K H a xs:=.inl (.inl h)
theorem Inv.list(I:Inv X aa σ H s)(h:SqL X.K H a xs):∃its:Δ,Vals xs its/\PlainL s.heap a its.toArray/\xs.length<=sizeLine:=by
 rcases h with h|⟨o,its,n,hk,hc,hd,hs,hz,r⟩
 .obtain⟨z,its,n,r,e⟩:=h.ok I.hok;exact⟨its,r,⟨_,n,e,rfl,rfl,rfl⟩,z⟩
 .refine⟨its.toList,r,⟨o,n,I.kIn a o hk,hc,hd,by simpa using hs⟩,?_⟩;have e:=r.length;simp only[Array.length_toList]at e;exact aJ (Wp e) hz
theorem Inv.tuple(I:Inv X aa σ H s)(h:SqT X.K H a xs):∃its:Δ,Vals xs its/\IsTup s.heap a its.toArray/\xs.length<=sizeLine:=by
 rcases h with h|⟨o,its,n,hk,hc,hs,hz,r⟩
 .obtain⟨z,its,r,p⟩:=h.ok I.hok;exact⟨its,r,p,z⟩
 .refine⟨its.toList,r,⟨o,I.kIn a o hk,hc,n,by simpa using hs⟩,?_⟩;have e:=r.length;simp only[Array.length_toList]at e;exact aJ (Wp e) hz
theorem Inv.list_inj(I:Inv X aa σ H s)(h:SqL X.K H a xs)(h':SqL X.K H a ys):xs=ys:=by
 obtain⟨its,r,⟨o,n,e,_,_,d⟩,_⟩:=I.list h;obtain⟨its',r',⟨o',n',e',_,_,d'⟩,_⟩:=I.list h';rw[e]at e';cases e';rw[d]at d';injection d' with d1 _;have:its=its':=by simpa using ZH Array.toList d1
 subst this;exact r.inj r'
end
abbrev Cx.wish(X:Cx)(E:Ξ):Cx:={ X with xe:=E }
abbrev Cx.nox(X:Cx):Cx:=X.wish λ_ _=>False
theorem Cx.Ok.wish{X:Cx}(ok:X.Ok)(E:Ξ):(X.wish E).Ok :=
 ⟨ok.mod,ok.kind,ok.glob,ok.blt,ok.above,ok.inj,ok.has,ok.cab,ok.hd,ok.frames,ok.stk,ok.exf,ok.bs,ok.bsz,ok.noex,ok.exfs,ok.funs,ok.frf⟩
theorem Cx.Ok.unwish{X:Cx}{E:Ξ}(ok:(X.wish E).Ok):X.Ok :=
 ⟨ok.mod,ok.kind,ok.glob,ok.blt,ok.above,ok.inj,ok.has,ok.cab,ok.hd,ok.frames,ok.stk,ok.exf,ok.bs,ok.bsz,ok.noex,ok.exfs,ok.funs,ok.frf⟩
section
variable{X:Cx}{aa:Γ}{σ:St}{H:Hp}{s:Shared}{E:Ξ}
theorem Inv.wish(I:Inv X aa σ H s)(E:Ξ):Inv (X.wish E) aa σ H s:=⟨I.ok.wish E,I.os,I.bare,I.base,I.loc,I.cell,I.free,I.freeC,I.pin,I.hok,I.len⟩
theorem Inv.unwish(I:Inv (X.wish E) aa σ H s):Inv X aa σ H s:=⟨I.ok.unwish,I.os,I.bare,I.base,I.loc,I.cell,I.free,I.freeC,I.pin,I.hok,I.len⟩
theorem SP.unwish{D:Ends}{f:Flow}{s':Shared}(h:SP (X.wish E) aa D f s'):SP X aa D f s':=by
 cases f with
 |next=>obtain⟨σ',H',I,q⟩:=h;exact⟨σ',H',I.unwish,q⟩
 |brk=>obtain⟨σ',H',I,q⟩:=h;exact⟨σ',H',I.unwish,q⟩
 |cont=>obtain⟨σ',H',I,q⟩:=h;exact⟨σ',H',I.unwish,q⟩
 |ret u=>obtain⟨v,σ',H',I,r,q⟩:=h;exact⟨v,σ',H',I.unwish,r,q⟩
theorem PSs.nox{st:List Stmt}{t:TS}(h:PSs X.nox st t):PSs X st t:=λaa s σ H D I hw =>
 wpAny_mono (h aa s σ H D (I.wish _) hw) (λ_ _ q=>q.unwish) λ_ _ z=>False.elim z
end
section
variable{X:Cx}{st:Stmt}{rest:List Stmt}{t u:TS}{e:Expr}{te:TE}{pos:Pos}
def Xo:TS:=λD σ H=>D.nx σ H
def T_(t u:TS):TS:=λD σ H=>t { D with nx:=u D } σ H
theorem Pg:PSs X [] Xo:=λ_ _ σ H _ I h=>wpAny_execs_nil ⟨σ,H,I,h⟩
theorem B_(h1:PS X st t)(h2:PSs X rest u):PSs X (st::rest) (T_ t u):=by
 intro aa s σ H D I h;refine wpAny_execs_cons (thn (h1 aa s σ H { D with nx:=u D } I h) λf s1 q=>?_);cases f with
 |next =>
  obtain⟨σ',H',I',q⟩:=q;exact h2 aa s1 σ' H' D I' q
 |ret v=>exact q
 |brk=>exact q
 |cont=>exact q
theorem t_(h1:PS X st t):PSs X [st] t:=by
 intro aa s σ H D I h;refine wpAny_execs_cons (thn (h1 aa s σ H D I h) λf s1 q=>?_);cases f with
 |next=>exact wpAny_execs_nil q
 |ret v=>exact q
 |brk=>exact q
 |cont=>exact q
theorem Inv.quiet{aa:Γ}{σ:St}{H:Hp}{s:Shared}(I:Inv X aa σ H s):interactive X.env=false:=by simp[interactive,I.ok.kind]
def Rz(te:TE):TS:=λD σ H=>te σ H λ_ H1=>D.nx σ H1
theorem kY(he:PE X e te)(hs:swapsWith e none pos.line X.env=pure false:=by rfl):PS X (.Expr e pos) (Rz te):=by
 intro aa s σ H D I h;exact wpAny_Expr_any (thn (he aa s σ H _ I h) λv s1 hP=>by obtain⟨x,H1,I1,r1,q1⟩:=hP;exact⟨σ,H1,I1,q1⟩) I.quiet hs
def aae(te:TE):TS:=λD σ H=>te σ H D.rt
theorem z9(he:PE X e te):PS X (.Return (some e) pos) (aae te):=by
 intro aa s σ H D I h;exact wpAny_Return_some (thn (he aa s σ H _ I h) λv s1 hP=>by obtain⟨x,H1,I1,r1,q1⟩:=hP;exact⟨x,σ,H1,I1,r1,q1⟩)
def aaM(c:TT)(t u:TS):TS:=λD σ H=>c σ H λb H1=>if b=true then t D σ H1 else u D σ H1
theorem ZS{c:Expr}{a b:List Stmt}{tc:TT}(hc:PT X c tc)(ha:PSs X a t)(hb:PSs X b u):PS X (.If c a b pos) (aaM tc t u):=by
 intro aa s σ H D I h;refine wpAny_If (thn (hc aa s σ H _ I h) λd s1 hP=>?_);obtain⟨H1,I1,q1⟩:=hP;cases d with
 |true=>exact ha aa s1 σ H1 D I1 q1
 |false=>exact hb aa s1 σ H1 D I1 q1
def UG:TS:=λ_ _ _=>False
theorem M7:PS X st UG:=λ_ _ _ _ _ _ h=>h.elim
end
abbrev TG:=V->St->Hp->(St->Hp->Prop)->Prop
abbrev TGs:=Β->St->Hp->(St->Hp->Prop)->Prop
def PG(X:Cx)(fF:Expr)(t:TG):Prop :=
 ∀(aa:Γ)(s:Shared)(σ:St)(H:Hp)(v:V)(u:Value)(Q:St->Hp->Prop),Inv X aa σ H s->RelV v u->t v σ H Q ->
  wpAny (model X.prog X.w) X.A (assign fF X.env u) (λ_ s'=>∃σ' H',Inv X aa σ' H' s'/\Q σ' H') X.xe s
def PGs(X:Cx)(ts:List Expr)(t:TGs):Prop :=
 ∀(aa:Γ)(s:Shared)(σ:St)(H:Hp)(vs:Β)(us:Δ)(Q:St->Hp->Prop),Inv X aa σ H s->Vals vs us->t vs σ H Q ->
  wpAny (model X.prog X.w) X.A (assignInOrder ((assignEach ts X.env).map (·.2)) us) (λ_ s'=>∃σ' H',Inv X aa σ' H' s'/\Q σ' H') X.xe s
abbrev Uu:=V->V->V->Hp->(Hp->Prop)->Prop
def Xc(X:Cx)(t:Uu):Prop :=
 ∀(aa:Γ)(s:Shared)(σ:St)(H:Hp)(o i v:V)(ov iv u:Value)(Q:Hp->Prop),Inv X aa σ H s->RelV o ov->RelV i iv->RelV v u->t o i v H Q ->
  wpAny (model X.prog X.w) X.A (setItem ov iv u) (λ_ s'=>∃H',Inv X aa σ H' s'/\Q H') X.xe s
section
variable{X:Cx}{pos:Pos}
def su(i:Nat):TG:=λv σ H Q=>Q (σ.set i (some v)) H
theorem uD{i:Nat}{x:Str}(hN:X.N.Nodup)(hi:X.N[i]?=some x)(hx:Loc X.env.scope x)(hf:qr X x:=by first|exact .inl rfl|exact .inr rfl|assumption):PG X (.Name x pos) (su i):=by
 intro aa s σ H v u Q I r h;exact wpAny_assign_Name (m_ I hN hi hx r (λs' I'=>⟨_,H,I',h⟩) hf)
def aaj:TGs:=λvs σ H Q=>vs=[]/\Q σ H
def W_(t:TG)(u:TGs):TGs:=λvs σ H Q=>∃v r,vs=v::r/\t v σ H λσ' H'=>u r σ' H' Q
theorem O_:PGs X [] aaj:=by
 intro aa s σ H vs us Q I r h;obtain⟨e,h⟩:=h;subst e;cases r;exact assignInOrder_nil ⟨σ,H,I,h⟩
theorem K3{e:Expr}{es:List Expr}{t:TG}{u:TGs}(h1:PG X e t)(h2:PGs X es u)
 (hs:(assignEach (e::es) X.env).map (·.2)=assign e X.env::(assignEach es X.env).map (·.2):=by rfl):PGs X (e::es) (W_ t u):=by
 intro aa s σ H vs us Q I r h;obtain⟨v,vr,e1,h⟩:=h;subst e1;cases r with
 |cons r rr =>
  rw[hs];refine assignInOrder_cons (thn (h1 aa s σ H _ _ _ I r h) λ_ s1 hP=>?_);obtain⟨σ1,H1,I1,q1⟩:=hP;exact h2 aa s1 σ1 H1 _ _ Q I1 rr q1
def aaQ(K:Frag)(n:Nat)(t:TGs):TG:=λv σ H Q=>∃a xs,v=.ref a/\SqT K H a xs/\xs.length=n/\t xs σ H Q
abbrev zw(X:Cx)(a:List Expr):Prop:=(assignEach a X.env).findIdx? (·.1)=none
theorem T8{es:List Expr}{k:Nat}{t:TGs}{n:Nat}(hc:X.calm=true)(h:PGs X es t)
 (hn:(assignEach es X.env).length=n:=by rfl)(be:zw X es:=by rfl):PG X (.Tuple es k pos) (aaQ X.K n t):=by
 intro aa s σ H v u Q I r hw;obtain⟨a,xs,e1,hq,hl,hw⟩:=hw;subst e1;cases r;obtain⟨its,rv,ht,hz⟩:=I.tuple hq;refine assign_Tuple_tuple (I.ok.hd hc) ht (by simp[hn,<- hl,rv.length]) be λh' hx=>?_;have I1:Inv X aa σ H { s with heap:=h' }:=I.kept (t':=s.toks) λb o e=>hx b o (aN (aH e)) e;exact h aa _ σ H xs _ Q I1 (by simpa using rv) hw
def aa0(to ti:TE)(t:Uu):TG:=λv σ H Q=>to σ H λo H1=>ti σ H1 λi H2=>t o i v H2 λH3=>Q σ H3
theorem T9{o i:Expr}{to ti:TE}{t:Uu}(ho:PE X o to)(hi:PE X i ti)(hs:Xc X t)
 (ha:∀v,assign (.Subscript o i pos) X.env v=(do
   let ov <- holding [v] (eval o X.env)
   let iv <- holding [v,ov] (eval i X.env)
   standAt pos
   holding [v,ov,iv] (setItem ov iv v)
   release [v,ov,iv] []):=by intro _;rfl):PG X (.Subscript o i pos) (aa0 to ti t):=by
 intro aa s σ H v u Q I r h;rw[ha];refine ZU (wpAny_holding (thn (ho aa s σ H _ I h) λov s1 hP=>?_));obtain⟨x,H1,I1,r1,q1⟩:=hP;refine ZU (wpAny_holding (thn (hi aa s1 σ H1 _ I1 q1) λiv s2 hP=>?_));obtain⟨y,H2,I2,r2,q2⟩:=hP;refine ZU (wpAny_standAt (ZU (wpAny_holding (thn (hs aa s2 σ H2 x y v ov iv u _ I2 r1 r2 r q2) λ_ s3 hP=>?_))));obtain⟨H3,I3,q3⟩:=hP;exact wpAny_release ⟨σ,H3,I3,q3⟩
def Q_(te:TE)(g:TG):TS:=λD σ H=>te σ H λx H1=>g x σ H1 D.nx
theorem KZ{tg e:Expr}{te:TE}{g:TG}(he:PE X e te)(hg:PG X tg g)(hs:swapsWithSole [tg] e pos.line X.env=pure false:=by rfl)(hw:swappedStores [tg] e X.env=pure none:=by rfl)
 (h1:(assignEach [tg] X.env).map (·.2)=[assign tg X.env]:=by rfl):PS X (.Assign [tg] e pos) (Q_ te g):=by
 intro aa s σ H D I h;refine wpAny_Assign_stores (thn (he aa s σ H _ I h) λv s1 hP=>?_) hs hw;obtain⟨x,H1,I1,r1,q1⟩:=hP;rw[h1];exact thn (hg aa s1 σ H1 x v _ I1 r1 q1) λ_ s2 q=>q
theorem Fe{i:Nat}{x:Str}{e:Expr}{te:TE}{ay:Pos}(hN:X.N.Nodup)(hi:X.N[i]?=some x)(hx:Loc X.env.scope x)(he:PE X e te)(hs:swapsWith e (some (.Name x ay)) pos.line X.env=pure false:=by rfl)(hf:qr X x:=by first|exact .inl rfl|exact .inr rfl|assumption) :
  PS X (.Assign [.Name x ay] e pos) (Q_ te (su i)):=by
 intro aa s σ H D I h;refine wpAny_Assign_Name (thn (he aa s σ H _ I h) λv s1 hP=>?_) hs;obtain⟨y,H1,I1,r1,q1⟩:=hP;exact m_ I1 hN hi hx r1 (λs2 I2=>⟨_,H1,I2,q1⟩) hf
def ZX(i j:Nat)(ta:TA):TS:=λD σ H=>ta σ H λvs H1=>∃v w,vs=[v,w]/\D.nx ((σ.set i (some v)).set j (some w)) H1
theorem TF{i j:Nat}{x y:Str}{a b:Expr}{ta:TA}{px py pt:Pos}{kt k2 pt2}(hc:X.calm=true)(hN:X.N.Nodup)(hi:X.N[i]?=some x)(hj:X.N[j]?=some y)(k9:i≠j)
 (hx:X.env.scope.names.lookup x=some .local)(hy:X.env.scope.names.lookup y=some .local)(ha:PA X [a,b] ta)
 (hw:swappedStores [.Tuple [.Name x px,.Name y py] kt pt] (.Tuple [a,b] k2 pt2) X.env=pure (some [x,y]))
 (hs:swapsWithSole [.Tuple [.Name x px,.Name y py] kt pt] (.Tuple [a,b] k2 pt2) pos.line X.env=pure false:=by rfl) :
  PS X (.Assign [.Tuple [.Name x px,.Name y py] kt pt] (.Tuple [a,b] k2 pt2) pos) (ZX i j ta):=by
 intro aa s σ H D I h;rw[exec_Assign_arm];refine ZU (wpAny_standAt ?_);rw[hs];refine ZU (ZT ?_);rw[ZZ (by decide)];refine ZU (Tuple_ (thn (ha _ aa s σ H _ I h) λus s1 hP=>?_));obtain⟨vs,H1,I1,r1,q1⟩:=hP;obtain⟨v,w,e1,q1⟩:=q1;subst e1;obtain⟨u1,u2,rfl,rv,dQ⟩ : ∃u1 u2,us=[u1,u2]/\RelV v u1/\RelV w u2:=by
  cases r1 with
  |cons p q =>
   cases q with
   |cons p' q' =>
    cases q';exact⟨_,_,rfl,p,p'⟩
 refine wpAny_newObj_type ?_ (by show 2<=sizeLine;decide);have I2:Inv X aa σ H1 { s1 with heap:=s1.heap.push { cls:=.type "tuple",data:=.seq [u1,u2].toArray } }:=I1.kept (t':=s1.toks) λb o e=>aF _ e;rw[hw];refine ZU (ZT ?_);show wpAny (model X.prog X.w) X.A (do rule "assign.swapped-stores"; let items <- unpackItems (.ref s1.heap.objs.size) 2 none;assignInOrder [λv=>bindName X.env y v,λv=>bindName X.env x v] items.reverse;pure Flow.next) _ _ _;refine ZU (wpAny_rule (ZU (unpackItems_tuple (items:=#[u1,u2]) (I.ok.hd hc) (IsTup.new s1.heap _) λh' hx'=>?_)));have I3:=I2.kept (h':=h') (t':=s1.toks) λb o e=>hx' b o (aN (aH e)) e;show wpAny _ _ (assignInOrder [λv=>bindName X.env y v,λv=>bindName X.env x v] [u2,u1] >>= λ_=>pure Flow.next) _ _ _;refine ZU (assignInOrder_cons (wpAny_bindName (m_ I3 hN hj (.inl hy) dQ (λs2 I4=>?_) (.inr hy))));refine assignInOrder_cons (wpAny_bindName (m_ I4 hN hi (.inl hx) rv (λs3 I5=>assignInOrder_nil (ZT ?_)) (.inr hx)));rw[List.set_comm _ _ (Ne.symm k9)]at I5;exact⟨_,H1,I5,q1⟩
end
section
variable{X:Cx}{pos:Pos}
def SJ(c:TT)(tb:TS):TS:=λD σ H=>∃W:Nat->St->Hp->Prop,(∃m,W m σ H)/\∀m σ H,W m σ H ->
 c σ H λb H1=>if b=true then ∃N:St->Hp->Prop,(∀σ' H',N σ' H'->∃m',m'<m/\W m' σ' H')/\tb { D with nx:=N,ct:=N,bk:=D.nx } σ H1 else D.nx σ H1
theorem Mj{c:Expr}{bi:List Stmt}{tc:TT}{tb:TS}(hp:PassesOwn (model X.prog X.w) X.A X.env X.xe)(hc:PT X c tc)(hb:PSs X bi tb):PS X (.While c bi [] pos) (SJ tc tb):=by
 intro aa s σ H D I h;obtain⟨W,⟨m0,w0⟩,cz⟩:=h;refine wpAny_While (codeAny_whileLoop (λn s'=>∃σ' H',Inv X aa σ' H' s'/\W n σ' H') ?_ m0 ⟨σ,H,I,w0⟩);rintro n s1 ⟨σ1,H1,I1,w1⟩;refine wpAny_passesOwn hp (thn (hc aa s1 σ1 H1 _ I1 (cz n σ1 H1 w1)) λb s2 hP=>?_);obtain⟨H2,I2,q2⟩:=hP;cases b with
 |true =>
  obtain⟨N,hN,q2⟩:=q2;rw[ZY rfl];refine wpAny_passesOwn hp (thn (hb aa s2 σ1 H2 _ I2 q2) λf s3 q3=>?_);cases f with
  |next =>
   obtain⟨σ3,H3,I3,n3⟩:=q3;obtain⟨m',hm,w3⟩:=hN σ3 H3 n3;exact⟨m',hm,σ3,H3,I3,w3⟩
  |cont =>
   obtain⟨σ3,H3,I3,n3⟩:=q3;obtain⟨m',hm,w3⟩:=hN σ3 H3 n3;exact⟨m',hm,σ3,H3,I3,w3⟩
  |brk=>exact q3
  |ret v=>exact q3
 |false =>
  rw[ZZ aX];exact wpAny_execs_nil ⟨σ1,H2,I2,q2⟩
end
structure It where
 go:Nat->Hp->Prop
 yld:Nat->Hp->V->Hp->Prop
 stop:Nat->Hp->Prop
def oU(X:Cx)(aa:Γ)(H:Hp)(b:Addr):Prop :=
 H b=none/\b≠X.env.locals/\b∉X.fs/\(b∈X.ex\/X.s₀.heap.objs.size<=b)/\(∀x c,X.env.cells.lookup x=some c->c≠b)/\∀p∈X.pn++aa,p.1≠b
theorem Inv.fpOk{X:Cx}{aa:Γ}{σ:St}{H H':Hp}{s:Shared}{b:Addr}(I:Inv X aa σ H s)(hb:s.heap.objs.size<=b)(hn:H' b=none):oU X aa H' b:=by
 refine⟨hn,VW (aO I.lt hb),I.nofs hb,.inr (aJ I.sz hb),λx c e z=>?_,λp hp z=>?_⟩
 .obtain⟨v,q⟩:=I.cell x c e;exact absurd (aO q.lt (by rw[z];exact hb)) (XU _)
 .exact absurd (aO (aH (I.pin p hp).1) (by rw[z];exact hb)) (XU _)
structure Turn(P:Program)(w:World)(K:Frag)(tg:Expr)(J:It)(fp:Φ)(it:Addr)(tn:Nat->Heap->Prop):Prop where
 mem:it∈fp
 obj:∀i h,tn i h->∀b∈fp,∃o,h.get? b=some o/\∀v,o.data≠.cell v
 keep:∀i h h',tn i h->(∀b∈fp,∀o,h.get? b=some o->h'.get? b=some o)->tn i h'
 item:∀(X:Cx),X.prog=P->X.w=w->X.K=K->X.calm=true->∀(i:Nat)(aa:Γ)(s:Shared)(σ:St)(H:Hp)(E:Ξ),Inv X aa σ H s->(∀b∈fp,oU X aa H b)->tn i s.heap->J.go i H ->
  wpAny (model P w) X.A (pyNext (.ref it)) (λr s1=>∃u,r=some u /\
   wpAny (model P w) X.A (letOwnedTupleGo tg (.ref it) u) (λ_ s2=>∃x H',Inv X aa σ H' s2/\RelV x u/\J.yld i H x H'/\tn (i+1) s2.heap/\∀b∈fp,H' b=none) E s1) E s
 done:∀(X:Cx),X.prog=P->X.w=w->X.K=K->X.calm=true->∀(i:Nat)(aa:Γ)(s:Shared)(σ:St)(H:Hp)(E:Ξ),Inv X aa σ H s->(∀b∈fp,oU X aa H b)->tn i s.heap->J.stop i H ->
  wpAny (model P w) X.A (pyNext (.ref it)) (λr s1=>r=none/\Inv X aa σ H s1) E s
 self:∀(A:Around)(i:Nat)(s:Shared)(Q:Ξ)(E:Ξ),tn i s.heap->Q (.ref it) s->wpAny (model P w) A (pyIter (.ref it)) Q E s
abbrev TI:=St->Hp->(It->Hp->Prop)->Prop
def PIE(X:Cx)(aa:Γ)(σ:St)(tg:Expr)(R:It->Hp->Prop)(ke:Value)(s2:Shared):Prop :=
 ∃(it:Addr)(fp:Φ)(tn:Nat->Heap->Prop)(J:It)(H':Hp),ke=.ref it/\Inv X aa σ H' s2/\Turn X.prog X.w X.K tg J fp it tn/\tn 0 s2.heap/\(∀b∈fp,oU X aa H' b)/\R J H'
def PI(X:Cx)(tg iter:Expr)(wi:TI):Prop :=
 ∀(aa:Γ)(s:Shared)(σ:St)(H:Hp)(R:It->Hp->Prop),Inv X aa σ H s->wi σ H R ->
  wpAny (model X.prog X.w) X.A (eval iter X.env) (λv s1=>wpAny (model X.prog X.w) X.A (pyIter v) (PIE X aa σ tg R) X.xe s1) X.xe s
theorem Ik{M:Model}{A:Around}{E:Ξ}{s:Shared}{tg:Expr}{it:Addr}{u:Value}{o:Obj}{n:String}{vs:Array Value}{Q:Unit->Shared->Prop}(ho:s.heap.get? it=some o)(hc:o.cls=.type n)(hd:o.data=.fields vs)
   (hn : ["enumerate","zip","dict_itemiterator","dict_reverseitemiterator","odict_iterator","itertools.zip_longest","itertools.pairwise"].contains n=false)(hQ:Q () s):wpAny M A (letOwnedTupleGo tg (.ref it) u) Q E s:=by
  unfold letOwnedTupleGo;cases tg<;>first
    |exact ZT hQ
    |(cases u<;>first
        |exact ZT hQ
        | (refine ZU (wpAny_load ho ?_)
           rw[hc,hd];show wpAny M A (if(["enumerate","zip","dict_itemiterator","dict_reverseitemiterator","odict_iterator","itertools.zip_longest","itertools.pairwise"].contains n&&vs[0]?==some (rawInt _))=true then _ else _) Q E s;rw[ZZ (by intro h;rw[hn,Bool.false_and]at h;cases h)];exact ZT hQ))
def Itl(K:Frag)(a:Addr):It :=
 ⟨λi H=>∃xs x,SqL K H a xs/\xs[i]?=some x,λi H x H'=>H'=H/\∀xs,SqL K H a xs->xs[i]?=some x,λi H=>∃xs,SqL K H a xs/\xs.length<=i⟩
def Itr(lo:Int)(n:Nat):It:=⟨λi _=>i<n,λi H x H'=>H'=H/\x=.int (lo+i),λi _=>n<=i⟩
theorem Jy{P:Program}{w:World}{K:Frag}{tg:Expr}(a it:Addr):Turn P w K tg (Itl K a) [it] it (λi h=>h.IsListIter it a i) where
 mem:=by simp
 obj:=λi h st b hb=>by
  have e:b=it:=by simpa using hb
  subst e;obtain⟨o,e,c,d⟩:=st;exact⟨o,e,λv z=>by rw[d]at z;cases z⟩
 keep:=λi h h' st k=>st.at λo e=>k it (by simp) o e
 item:=by
  intro X hP hw hK hc i aa s σ H E I hf st hg;subst hP hw hK;obtain⟨xs,x,hq,hx⟩:=hg;obtain⟨its,rv,p,hz⟩:=I.list hq;obtain⟨u,hu,ru⟩:=rv.get hx;obtain⟨f0,f1,f2,f3,f4,f5⟩:=hf it (by simp);refine wpAny_pyNext_list_item st p.isList (x:=u) (by simpa using hu) λh' dP sb=>?_;have I1:Inv X aa σ H { s with heap:=h' }:=I.turned (t':=s.toks) (λb o hb e=>(sb.2 b hb).trans e) f0 f1 f3 f4 f5;obtain⟨o,e,c,d⟩:=id dP;exact⟨u,rfl,Ik (s:={ s with heap:=h' }) e c d (by decide) ⟨x,H,I1,ru,⟨rfl,λys hy=>by rw[I.list_inj hy hq];exact hx⟩,dP,λb hb=>(hf b hb).1⟩⟩
 done:=by
  intro X hP hw hK hc i aa s σ H E I hf st hg;subst hP hw hK;obtain⟨xs,hq,hx⟩:=hg;obtain⟨its,rv,p,hz⟩:=I.list hq;obtain⟨f0,f1,f2,f3,f4,f5⟩:=hf it (by simp);have hl:=rv.length;exact wpAny_pyNext_list_end (I.ok.hd hc) st p.isList (by simp;lia) λh' eb=>⟨rfl,I.turned (t':=s.toks) (λb o hb e=>eb b o hb e) f0 f1 f3 f4 f5⟩
 self:=λ_ _ _ _ _ st h=>wpAny_pyIter_listiter st h
theorem GJ{P:Program}{w:World}{K:Frag}{tg:Expr}(it:Addr)(lo:Int)(n:Nat):Turn P w K tg (Itr lo n) [it] it (λi h=>IsRangeIter h it (lo+(i:Nat)*1) ((n:Int)-(i:Nat)) 1) where
 mem:=by simp
 obj:=λi h st b hb=>by
  have e:b=it:=by simpa using hb
  subst e;exact⟨_,st,λv z=>by
   have z':Data.fields _=Data.cell v:=z;cases z'⟩
 keep:=λi h h' st k=>k it (by simp) _ st
 item:=by
  intro X hP hw hK hc i aa s σ H E I hf st hg;subst hP hw hK;obtain⟨f0,f1,f2,f3,f4,f5⟩:=hf it (by simp);have W:=Walks.range (prog:=X.prog) (w:=X.w) (I.ok.hd hc) it lo 1 n;refine W.item i s _ _ hg st λv h' tk hv dP kk=>?_;obtain⟨t,rfl⟩:=hv;have I1:Inv X aa σ H { s with heap:=h',toks:=tk }:=I.turned (λb o hb e=>kk b o (by simpa using hb) e) f0 f1 f3 f4 f5;refine⟨_,rfl,Ik (s:={ s with heap:=h',toks:=tk }) (n:="range_iterator") dP rfl rfl (by decide) ⟨.int (lo+i),H,I1,⟨t,?_⟩,⟨rfl,rfl⟩,dP,λb hb=>(hf b hb).1⟩⟩;rw[Int.mul_one]
 done:=by
  intro X hP hw hK hc i aa s σ H E I hf st hg;subst hP hw hK;obtain⟨f0,f1,f2,f3,f4,f5⟩:=hf it (by simp);exact wpAny_pyNext_range_end (I.ok.hd hc) st (by have:n<=i:=hg;lia) λh' eb=>⟨rfl,I.turned (t':=s.toks) (λb o hb e=>eb b o hb e) f0 f1 f3 f4 f5⟩
 self:=λ_ _ _ _ _ st h=>wpAny_pyIter_rangeiter st h
section
variable{X:Cx}{tg:Expr}
def ZD(K:Frag)(tl:TE):TI:=λσ H R=>tl σ H λx H1=>∃a,x=.ref a/\(∃xs,SqL K H1 a xs)/\R (Itl K a) H1
theorem QM{l:Expr}{tl:TE}(hl:PE X l tl):PI X tg l (ZD X.K tl):=by
 intro aa s σ H R I h;refine thn (hl aa s σ H _ I h) λv s1 hP=>?_;obtain⟨x,H1,I1,r1,q1⟩:=hP;obtain⟨a,e,⟨xs,hq⟩,q⟩:=q1;subst e;cases r1;obtain⟨its,rv,p,hz⟩:=I1.list hq;refine wpAny_pyIter_list p.isList ?_;refine⟨s1.heap.objs.size,[s1.heap.objs.size],_,_,H1,rfl,I1.kept (t':=s1.toks) λb o e=>aF _ e,Jy a _,⟨_,aQ _ rfl,rfl,rfl⟩,λb hb=>?_,q⟩;have e:b=s1.heap.objs.size:=by simpa using hb
 subst e;exact I1.fpOk (aD _) (I1.hok.fresh (aD _))
theorem Ed{aa:Γ}{σ:St}{H:Hp}{s:Shared}{R:It->Hp->Prop}{E:Ξ}{lo hi:Int}{t u v:Tok}{tk:Nat}(I:Inv X aa σ H s)(h1 : -(2^62)<=lo)(h2:lo<2^62)(h3 : -(2^62)<=hi)(h4:hi<2^62)
 (q:R (Itr lo (hi-lo).toNat) H):wpAny (model X.prog X.w) X.A (pyIter (.ref s.heap.objs.size)) (PIE X aa σ tg R) E { s with heap:=s.heap.push { cls:=.type "range",data:=.fields #[.int lo t,.int hi u,.int 1 v] },toks:=tk }:=by
 refine wpAny_pyIter_range (IsRange.new ..) (small_one h1 h2 h3 h4) ?_;have I1:Inv X aa σ H { s with heap:=s.heap.push { cls:=.type "range",data:=.fields #[.int lo t,.int hi u,.int 1 v] },toks:=tk }:=I.kept λb o e=>aF _ e;refine⟨(s.heap.push { cls:=.type "range",data:=.fields #[.int lo t,.int hi u,.int 1 v] }).objs.size,[(s.heap.push { cls:=.type "range",data:=.fields #[.int lo t,.int hi u,.int 1 v] }).objs.size],_,_,H,rfl,
  I1.kept (t':=tk) λb o e=>aF _ e,GJ _ lo (hi-lo).toNat,?_,λb hb=>?_,q⟩
 .have e1:lo+((0:Nat):Int)*1=lo:=by simp
  have e2:(((hi-lo).toNat:Nat):Int)-((0:Nat):Int)=Builtin.Range.rangeSize lo hi 1:=by rw[rangeSize_one];split<;>lia
  show IsRangeIter _ _ (lo+((0:Nat):Int)*1) ((((hi-lo).toNat:Nat):Int)-((0:Nat):Int)) 1;rw[e1,e2];exact aQ _ rfl
 .have e:b=(s.heap.push { cls:=.type "range",data:=.fields #[.int lo t,.int hi u,.int 1 v] }).objs.size:=by simpa using hb
  subst e;exact I1.fpOk (aD _) (I1.hok.fresh (aD _))
def Wk(ta:TA):TI:=λσ H R=>ta σ H λvs H1=>∃j:Int,vs=[.int j]/\-(2^62)<=j/\j<2^62/\R (Itr 0 j.toNat) H1
def YL(ta:TA):TI:=λσ H R=>ta σ H λvs H1=>∃i j:Int,vs=[.int i,.int j]/\(-(2^62)<=i/\i<2^62/\-(2^62)<=j/\j<2^62)/\R (Itr i (j-i).toNat) H1
theorem JG{a:Expr}{ta:TA}{p pos:Pos}(hg:Gl X "range")(hm:X.mg "range"=none)(ha:PA X [a] ta)(hs:starEach [a] X.env=[(false,eval a X.env)]:=by rfl):PI X tg (.Call (.Name "range" p) [a] [] pos) (Wk ta):=by
 intro aa s σ H R I h;refine Call_ (uH I hg hm boot_range (PyProof.Rows.callWith_type1 (thn (ha pos aa s σ H _ I h) λus s1 hP=>?_) hs rfl));obtain⟨vs,H1,I1,r1,q1⟩:=hP;obtain⟨j,e,q1,q2,q⟩:=q1;subst e;cases r1 with
 |cons r rr =>
  cases rr;obtain⟨t,rfl⟩:=r;exact call_range_1 (Ed I1 (XZ (by decide)) (VV (by decide)) q1 q2 (by simpa using q))
theorem Jr{a b:Expr}{ta:TA}{p pos:Pos}(hg:Gl X "range")(hm:X.mg "range"=none)(ha:PA X [a,b] ta)(hs:starEach [a,b] X.env=[(false,eval a X.env),(false,eval b X.env)]:=by rfl)(eS:starEach [b] X.env=[(false,eval b X.env)]:=by rfl) :
  PI X tg (.Call (.Name "range" p) [a,b] [] pos) (YL ta):=by
 intro aa s σ H R I h;refine Call_ (uH I hg hm boot_range (PyProof.Rows.callWith_type1 (thn (ha pos aa s σ H _ I h) λus s1 hP=>?_) (by rw[hs,eS]) (by rw[eS];rfl)));obtain⟨vs,H1,I1,r1,q1⟩:=hP;obtain⟨i,j,e,⟨q1,q2,q3,q4⟩,q⟩:=q1;subst e;cases r1 with
 |cons r rr =>
  cases rr with
  |cons r' rr =>
   cases rr;obtain⟨t,rfl⟩:=r;obtain⟨t',rfl⟩:=r';exact call_range_2 (Ed I1 q1 q2 q3 q4 q)
def aaW(wi:TI)(g:TG)(tb:TS):TS:=λD σ H=>wi σ H λJ H1=>∃W:Nat->Nat->St->Hp->Prop,(∃m,W 0 m σ H1)/\∀i m σ H,W i m σ H ->
 (J.stop i H/\D.nx σ H)\/(J.go i H/\∃N:St->Hp->Prop,(∀σ' H',N σ' H'->∃m',m'<m/\W (i+1) m' σ' H')/\∀x H',J.yld i H x H'->g x σ H' λσ2 H2=>tb { D with nx:=N,ct:=N,bk:=D.nx } σ2 H2)
def rm(fp:Φ)(h:Heap):Γ:=fp.filterMap λb=>(h.get? b).map λo=>(b,o)
theorem gB{fp:Φ}{h:Heap}{b:Addr}{o:Obj}(hb:b∈fp)(e:h.get? b=some o):(b,o)∈rm fp h:=List.mem_filterMap.mpr ⟨b,hb,by rw[e];rfl⟩
theorem J2{fp:Φ}{h:Heap}{p:Addr×Obj}(hp:p∈rm fp h):p.1∈fp/\h.get? p.1=some p.2:=by
 obtain⟨b,hb,e⟩:=List.mem_filterMap.mp hp;cases q:h.get? b with
 |none=>rw[q]at e;cases e
 |some o =>
  rw[q]at e;have e':(b,o)=p:=Option.some.inj e;subst e';exact⟨hb,q⟩
theorem Inv.pinned{aa:Γ}{σ:St}{H:Hp}{s:Shared}{fp:Φ}(I:Inv X aa σ H s)(hf:∀b∈fp,oU X aa H b)(ho:∀b∈fp,∃o,s.heap.get? b=some o/\∀v,o.data≠.cell v):Inv X (aa++rm fp s.heap) σ H s :=
 I.pins_of λp hp=>(Y1.mp hp).elim (λz=>I.pin p (aM _ z)) λz=>by
  obtain⟨hb,e⟩:=J2 z;obtain⟨f0,f1,f2,_⟩:=hf p.1 hb;obtain⟨o,e',d⟩:=ho p.1 hb;rw[e]at e';cases e';exact⟨e,f0,f1,f2,d⟩
theorem Inv.unpinned{aa pl:Γ}{σ:St}{H:Hp}{s:Shared}(I:Inv X (aa++pl) σ H s):Inv X aa σ H s:=I.pins_of λp hp=>I.pin p (aM _ (VX _ hp))
abbrev qi(X:Cx)(a:Expr):Prop:=∀z,foldedSetIterable a X.env z=pure z
theorem Te{iter:Expr}{bi:List Stmt}{wi:TI}{g:TG}{tb:TS}{pos:Pos}(hp:PassesOwn (model X.prog X.w) X.A X.env X.xe)(hc:X.calm=true)(hi:PI X tg iter wi)(hg:PG X tg g)(hb:PSs X bi tb)
 (hs:qi X iter:=by intro _;rfl):PS X (.For tg iter bi [] pos) (aaW wi g tb):=by
 intro aa s σ H D I h;refine wpAny_For (thn (hi aa s σ H _ I h) λv s1 h1=>thn h1 λke s2 h2=>?_) hs;obtain⟨it,fp,tn,J,H2,e,I2,T,fS,f2,W,⟨m0,w0⟩,cz⟩:=h2;subst e

 have fN:∀{H':Hp},(∀b∈fp,H' b=none)->∀b∈fp,oU X aa H' b:=λhn b hb=>⟨hn b hb,(f2 b hb).2⟩;refine codeAny_forLoop_any (λn s'=>∃i σ' H',Inv X aa σ' H' s'/\tn i s'.heap/\(∀b∈fp,H' b=none)/\W i n σ' H') ?_ m0 ⟨0,σ,H2,I2,fS,λb hb=>(f2 b hb).1,w0⟩;rintro n s3 ⟨i,σ3,H3,I3,eI,fr3,w3⟩;rcases cz i n σ3 H3 w3 with⟨stop,qn⟩|⟨go,N,hN,step⟩
 .refine wpAny_passesOwn hp (thn (T.done X rfl rfl rfl hc i aa s3 σ3 H3 X.xe I3 (fN fr3) eI stop) λr s4 hP=>?_);obtain⟨hr,I4⟩:=hP;subst hr;exact wpAny_execs_nil ⟨σ3,H3,I4,qn⟩
 .refine wpAny_passesOwn hp (thn (T.item X rfl rfl rfl hc i aa s3 σ3 H3 X.xe I3 (fN fr3) eI go) λr s4 hP=>?_);obtain⟨u,hr,h4⟩:=hP;subst hr;refine wpAny_passesOwn hp (thn h4 λ_ s5 hP=>?_);obtain⟨x,H5,I5,r5,y5,ku,fr5⟩:=hP;have I5':=I5.pinned (fN fr5) (T.obj _ _ ku);refine wpAny_passesOwn hp (thn (hg _ s5 σ3 H5 x u _ I5' r5 (step x H5 y5)) λ_ s6 hP=>?_);obtain⟨σ6,H6,I6,q6⟩:=hP;refine wpAny_passesOwn hp (thn (hb _ s6 σ6 H6 _ I6 q6) λf s7 q7=>?_);have again:∀{σ7:St}{H7:Hp},Inv X (aa++rm fp s5.heap) σ7 H7 s7->N σ7 H7->∃m,m<n/\∃i σ' H',Inv X aa σ' H' s7/\tn i s7.heap/\(∀b∈fp,H' b=none)/\W i m σ' H':=λ{σ7 H7}I7 n7=>by
   obtain⟨m',hm,w7⟩:=hN σ7 H7 n7;refine⟨m',hm,i+1,σ7,H7,I7.unpinned,T.keep _ _ _ ku λb hb o e=>(I7.pin (b,o) (aM _ (aM _ (gB hb e)))).1,λb hb=>?_,w7⟩;obtain⟨o,e,d⟩:=T.obj _ _ ku b hb;exact(I7.pin (b,o) (aM _ (aM _ (gB hb e)))).2.1
  cases f with
  |next=>obtain⟨σ7,H7,I7,n7⟩:=q7;exact again I7 n7
  |cont=>obtain⟨σ7,H7,I7,n7⟩:=q7;exact again I7 n7
  |brk=>obtain⟨σ7,H7,I7,q7⟩:=q7;exact⟨σ7,H7,I7.unpinned,q7⟩
  |ret v=>obtain⟨x7,σ7,H7,I7,r7,q7⟩:=q7;exact⟨x7,σ7,H7,I7.unpinned,r7,q7⟩
end
abbrev R2:=V->V->Hp->VK->Prop
def OpR(X:Cx)(f:Value->Value->Sem Value)(r:R2):Prop :=
 ∀(aa:Γ)(s:Shared)(σ:St)(H:Hp)(x y:V)(v u:Value)(Q:VK),Inv X aa σ H s->RelV x v->RelV y u->r x y H Q ->
  wpAny (model X.prog X.w) X.A (f v u) (EP X aa σ Q) X.xe s
def UnR(X:Cx)(f:Value->Sem Value)(r:V->Hp->VK->Prop):Prop :=
 ∀(aa:Γ)(s:Shared)(σ:St)(H:Hp)(x:V)(v:Value)(Q:VK),Inv X aa σ H s->RelV x v->r x H Q ->
  wpAny (model X.prog X.w) X.A (f v) (EP X aa σ Q) X.xe s
def d7(X:Cx)(f:Value)(r:Β->Hp->VK->Prop):Prop :=
 ∀(aa:Γ)(s:Shared)(σ:St)(H:Hp)(xs:Β)(us:Δ)(Q:VK),Inv X aa σ H s->Vals xs us->r xs H Q ->
  wpAny (model X.prog X.w) X.A (call f us) (EP X aa σ Q) X.xe s
def aau(X:Cx)(r:V->Hp->(Bool->Hp->Prop)->Prop):Prop :=
 ∀(aa:Γ)(s:Shared)(σ:St)(H:Hp)(x:V)(v:Value)(Q:Bool->Hp->Prop),Inv X aa σ H s->RelV x v->r x H Q ->
  wpAny (model X.prog X.w) X.A (truthy v) (TP X aa σ Q) X.xe s
def tOp(r:R2)(ta tb:TE):TE:=λσ H Q=>ta σ H λx H1=>tb σ H1 λy H2=>r x y H2 Q
def tUn(r:V->Hp->VK->Prop)(ta:TE):TE:=λσ H Q=>ta σ H λx H1=>r x H1 Q
def rI(C:Int->Int->Prop)(g:Int->Int->V):R2:=λx y H Q=>∃i j,x=.int i/\y=.int j/\C i j/\Q (g i j) H
def rI0(g:Int->Int->V):R2:=λx y H Q=>∃i j,x=.int i/\y=.int j/\Q (g i j) H
def rU(g:Int->V):V->Hp->VK->Prop:=λx H Q=>∃i,x=.int i/\Q (g i) H
section
variable{X:Cx}{a b c:Expr}{ta tb tc:TE}{pos:Pos}
theorem Uh(ha:PE X a ta)(hb:PE X b tb){aa:Γ}{s:Shared}{σ:St}{H:Hp}{R:V->V->Hp->Prop}(I:Inv X aa σ H s)
 (h:ta σ H λx H1=>tb σ H1 λy H2=>R x y H2){Q:Ξ}{f:Value->Value->Sem Value}
 (hf:∀v u s2 x y H2,Inv X aa σ H2 s2->RelV x v->RelV y u->R x y H2->wpAny (model X.prog X.w) X.A (f v u) Q X.xe s2) :
  wpAny (model X.prog X.w) X.A (eval a X.env) (λv s₁=>wpAny (model X.prog X.w) X.A (eval b X.env) (λu s₂=>wpAny (model X.prog X.w) X.A (f v u) Q X.xe s₂) X.xe s₁) X.xe s:=by
 refine thn (ha aa s σ H _ I h) λv s1 hP=>?_;obtain⟨x,H1,I1,r1,q1⟩:=hP;refine thn (hb aa s1 σ H1 _ I1 q1) λu s2 hP=>?_;obtain⟨y,H2,I2,r2,q2⟩:=hP;exact hf v u s2 x y H2 I2 r1 r2 q2
theorem WD{op:Operator}{r:R2}(ho:OpR X (binaryOp op) r)(ha:PE X a ta)(hb:PE X b tb):PE X (.BinOp a op b pos) (tOp r ta tb):=by
 intro aa s σ H Q I h;exact wpAny_BinOp (Uh ha hb I h λv u s2 x y H2 I2 rx ry q=>ho aa s2 σ H2 x y v u Q I2 rx ry q)
theorem W5{op:UnaryOp}{r:V->Hp->VK->Prop}(ho:UnR X (unaryOp op) r)(ha:PE X a ta):PE X (.UnaryOp op a pos) (tUn r ta):=by
 intro aa s σ H Q I h;exact UnaryOp_ (thn (ha aa s σ H _ I h) λv s1 hP=>by obtain⟨x,H1,I1,r1,q1⟩:=hP;exact ho aa s1 σ H1 x v Q I1 r1 q1)
theorem opI{f:Value->Value->Sem Value}{C:Int->Int->Prop}{g:Int->Int->Int}
 (rule:∀(i j:Int)(t u:Tok)(s:Shared)(Q:Ξ)(E:Ξ),C i j->Q (.int (g i j) s.toks) { s with toks:=s.toks+1 }->wpAny (model X.prog X.w) X.A (f (.int i t) (.int j u)) Q E s) :
  OpR X f (rI C λi j=>.int (g i j)):=by
 intro aa s σ H x y v u Q I rx ry h;obtain⟨i,j,rfl,rfl,hc,q⟩:=h;obtain⟨t,rfl⟩:=rx;obtain⟨t',rfl⟩:=ry;exact rule i j t t' s _ _ hc ⟨.int (g i j),H,I.tok _,⟨_,rfl⟩,q⟩
theorem Y8{f:Value->Value->Sem Value}{g:Int->Int->Int}
 (rule:∀(i j:Int)(t u:Tok)(s:Shared)(Q:Ξ)(E:Ξ),Q (.int (g i j) s.toks) { s with toks:=s.toks+1 }->wpAny (model X.prog X.w) X.A (f (.int i t) (.int j u)) Q E s) :
  OpR X f (rI0 λi j=>.int (g i j)):=by
 intro aa s σ H x y v u Q I rx ry h;obtain⟨i,j,rfl,rfl,q⟩:=h;obtain⟨t,rfl⟩:=rx;obtain⟨t',rfl⟩:=ry;exact rule i j t t' s _ _ ⟨.int (g i j),H,I.tok _,⟨_,rfl⟩,q⟩
theorem PL{f:Value->Value->Sem Value}{g:Int->Int->Bool}
 (rule:∀(i j:Int)(t u:Tok)(s:Shared)(Q:Ξ)(E:Ξ),Q (.bool (g i j)) s->wpAny (model X.prog X.w) X.A (f (.int i t) (.int j u)) Q E s) :
  OpR X f (rI0 λi j=>.bl (g i j)):=by
 intro aa s σ H x y v u Q I rx ry h;obtain⟨i,j,rfl,rfl,q⟩:=h;obtain⟨t,rfl⟩:=rx;obtain⟨t',rfl⟩:=ry;exact rule i j t t' s _ _ ⟨.bl (g i j),H,I,rfl,q⟩
def Xa(i j:Int):Prop:=0<=j/\j<=1000000/\i.natAbs<2^64
theorem Tf:OpR X (binaryOp .Add) (rI0 λi j=>.int (i+j)):=Y8 λ_ _ _ _ _ _ _ q=>add_int q
theorem Vq:OpR X (binaryOp .Sub) (rI0 λi j=>.int (i-j)):=Y8 λ_ _ _ _ _ _ _ q=>sub_int q
theorem Ua:OpR X (binaryOp .Mod) (rI (λ_ j=>0<j) λi j=>.int (i%j)):=opI λi j _ _ _ _ _ hc q=>by
 have h1:(0:Int)<j:=hc;exact mod_int' (X1 hc) (by rw[Int.fmod_eq_emod_of_nonneg i (XZ hc)];exact q)
theorem TX:OpR X (binaryOp .Pow) (rI Xa λi j=>.int (i^j.toNat)):=opI λ_ _ _ _ _ _ _ hc q=>pow_int_small hc.1 hc.2.1 hc.2.2 q
theorem unI{f:Value->Sem Value}{g:Int->Int}
 (rule:∀(i:Int)(t:Tok)(s:Shared)(Q:Ξ)(E:Ξ),Q (.int (g i) s.toks) { s with toks:=s.toks+1 }->wpAny (model X.prog X.w) X.A (f (.int i t)) Q E s) :
  UnR X f (rU λi=>.int (g i)):=by
 intro aa s σ H x v Q I rx h;obtain⟨i,rfl,q⟩:=h;obtain⟨t,rfl⟩:=rx;exact rule i t s _ _ ⟨.int (g i),H,I.tok _,⟨_,rfl⟩,q⟩
theorem Vf:UnR X (unaryOp .USub) (rU λi=>.int (-i)):=unI λ_ _ _ _ _ q=>neg_int q
end
def LQ:V->V->Bool
 |.non,.non=>true|.non,.int _=>true|.int _,.non=>true|.non,.bl _=>true|.bl _,.non=>true|.non,.str _=>true|.str _,.non=>true
 |.int _,.int _=>true|.bl _,.bl _=>true|.str _,.str _=>true|.byt _,.byt _=>true
 |.int _,.str _=>true|.str _,.int _=>true|.bl _,.str _=>true|.str _,.bl _=>true
 |_,_=>false
def rEq:R2:=λx y H Q=>LQ x y=true/\Q (.bl (decide (x=y))) H
def rNe:R2:=λx y H Q=>LQ x y=true/\Q (.bl (!decide (x=y))) H
theorem Hw{i j:Int} : decide (V.int i=V.int j)=(i==j):=by
 rw[Bool.eq_iff_iff];simp
theorem Ms{i j:Bool} : decide (V.bl i=V.bl j)=(i==j):=by
 rw[Bool.eq_iff_iff];simp
theorem Ii{i j:Str} : decide (V.str i=V.str j)=(i==j):=by
 rw[Bool.eq_iff_iff];simp
theorem Ih{i j:Array UInt8} : decide (V.byt i=V.byt j)=(i.toList==j.toList):=by
 rw[Bool.eq_iff_iff];cases i;cases j;simp
section
variable{X:Cx}{a b c:Expr}{ta tb tc:TE}{pos:Pos}
theorem cg{aa:Γ}{σ:St}{H:Hp}{s:Shared}{Q:VK}{k k':Bool}(I:Inv X aa σ H s)(q:Q (.bl k) H)(e:k=k'):EP X aa σ Q (.bool k') s:=by
 subst e;exact⟨.bl k,H,I,rfl,q⟩
theorem ZP:OpR X (compareOp .Eq) rEq:=by
 intro aa s σ H x y v u Q I rx ry h;obtain⟨hs,q⟩:=h;cases x with
 |non =>
  cases rx;cases y with
  |non=>cases ry;exact PySem.EqNone.eq_none_none (cg I q (by simp))
  |bl j=>cases ry;exact PySem.EqNone.eq_none_bool (cg I q (by simp))
  |int j=>obtain⟨t',rfl⟩:=ry;exact PySem.EqNone.eq_none_int (cg I q (by simp))
  |str j=>obtain⟨t',rfl⟩:=ry;exact PySem.EqNone.eq_none_str (cg I q (by simp))
  |_=>exact absurd (show false=true from hs) aX
 |bl i =>
  cases rx;cases y with
  |non=>cases ry;exact PySem.EqNone.eq_bool_none (cg I q (by simp))
  |bl j=>cases ry;exact eq_bool (cg I q Ms)
  |str j=>obtain⟨t',rfl⟩:=ry;exact PySem.EqMixed.eq_bool_str (cg I q (by simp))
  |_=>exact absurd (show false=true from hs) aX
 |int i =>
  obtain⟨t,rfl⟩:=rx;cases y with
  |non=>cases ry;exact PySem.EqNone.eq_int_none (cg I q (by simp))
  |int j=>obtain⟨t',rfl⟩:=ry;exact eq_int (cg I q Hw)
  |str j=>obtain⟨t',rfl⟩:=ry;exact PySem.EqMixed.eq_int_str (cg I q (by simp))
  |_=>exact absurd (show false=true from hs) aX
 |str i =>
  obtain⟨t,rfl⟩:=rx;cases y with
  |non=>cases ry;exact PySem.EqNone.eq_str_none (cg I q (by simp))
  |bl j=>cases ry;exact PySem.EqMixed.eq_str_bool (cg I q (by simp))
  |int j=>obtain⟨t',rfl⟩:=ry;exact PySem.EqMixed.eq_str_int (cg I q (by simp))
  |str j=>obtain⟨t',rfl⟩:=ry;exact eq_str (cg I q Ii)
  |_=>exact absurd (show false=true from hs) aX
 |byt i =>
  obtain⟨t,rfl⟩:=rx;cases y with
  |byt j=>obtain⟨t',rfl⟩:=ry;exact PySem.W.eq_bytes (cg I q Ih)
  |_=>exact absurd (show false=true from hs) aX
 |_=>cases y<;>exact absurd (show false=true from hs) aX
theorem YH:OpR X (compareOp .NotEq) rNe:=by
 intro aa s σ H x y v u Q I rx ry h;obtain⟨hs,q⟩:=h;cases x with
 |non =>
  cases rx;cases y with
  |non=>cases ry;exact PySem.EqNone.ne_none_none (cg I q (by simp))
  |bl j=>cases ry;exact PySem.EqNone.ne_none_bool (cg I q (by simp))
  |int j=>obtain⟨t',rfl⟩:=ry;exact PySem.EqNone.ne_none_int (cg I q (by simp))
  |str j=>obtain⟨t',rfl⟩:=ry;exact PySem.EqNone.ne_none_str (cg I q (by simp))
  |_=>exact absurd (show false=true from hs) aX
 |bl i =>
  cases rx;cases y with
  |non=>cases ry;exact PySem.EqNone.ne_bool_none (cg I q (by simp))
  |bl j=>cases ry;exact ne_bool (cg I q (ZH not Ms))
  |str j=>obtain⟨t',rfl⟩:=ry;exact PySem.EqMixed.ne_bool_str (cg I q (by simp))
  |_=>exact absurd (show false=true from hs) aX
 |int i =>
  obtain⟨t,rfl⟩:=rx;cases y with
  |non=>cases ry;exact PySem.EqNone.ne_int_none (cg I q (by simp))
  |int j=>obtain⟨t',rfl⟩:=ry;exact ne_int (cg I q (ZH not Hw))
  |str j=>obtain⟨t',rfl⟩:=ry;exact PySem.EqMixed.ne_int_str (cg I q (by simp))
  |_=>exact absurd (show false=true from hs) aX
 |str i =>
  obtain⟨t,rfl⟩:=rx;cases y with
  |non=>cases ry;exact PySem.EqNone.ne_str_none (cg I q (by simp))
  |bl j=>cases ry;exact PySem.EqMixed.ne_str_bool (cg I q (by simp))
  |int j=>obtain⟨t',rfl⟩:=ry;exact PySem.EqMixed.ne_str_int (cg I q (by simp))
  |str j=>obtain⟨t',rfl⟩:=ry;exact ne_str (cg I q (ZH not Ii))
  |_=>exact absurd (show false=true from hs) aX
 |byt i =>
  obtain⟨t,rfl⟩:=rx;cases y with
  |byt j=>obtain⟨t',rfl⟩:=ry;exact PySem.W.ne_bytes (cg I q (ZH not Ih))
  |_=>exact absurd (show false=true from hs) aX
 |_=>cases y<;>exact absurd (show false=true from hs) aX
theorem XR:OpR X (compareOp .Lt) (rI0 λi j=>.bl (decide (i<j))):=PL λ_ _ _ _ _ _ _ q=>lt_int q
theorem Xq:OpR X (compareOp .LtE) (rI0 λi j=>.bl (decide (i<=j))):=PL λ_ _ _ _ _ _ _ q=>le_int q
theorem Xg:OpR X (compareOp .Gt) (rI0 λi j=>.bl (decide (j<i))):=PL λ_ _ _ _ _ _ _ q=>gt_int q
theorem WW:OpR X (compareOp .GtE) (rI0 λi j=>.bl (decide (j<=i))):=PL λ_ _ _ _ _ _ _ q=>ge_int q
theorem Jb:OpR X (compareOp .In) (λx y H Q=>∃i j,x=.str i/\y=.str j/\Q (.bl (!(Builtin.Str.occurrences j i 0 j.length 1).isEmpty)) H):=by
 intro aa s σ H x y v u Q I rx ry h;obtain⟨i,j,rfl,rfl,q⟩:=h;obtain⟨t,rfl⟩:=rx;obtain⟨t',rfl⟩:=ry;exact in_str (cg I q rfl)
theorem R8:OpR X (compareOp .Is) (λx y H Q=>y=.non/\Q (.bl (decide (x=.non))) H):=by
 intro aa s σ H x y v u Q I rx ry h;obtain⟨rfl,q⟩:=h;cases ry;refine is_none_gen (cg I q ?_);cases x<;>first
  |(cases rx;rfl)
  |(obtain⟨t,rfl⟩:=rx;rfl)
theorem QC:OpR X (compareOp .IsNot) (λx y H Q=>y=.non/\Q (.bl (!decide (x=.non))) H):=by
 intro aa s σ H x y v u Q I rx ry h;obtain⟨rfl,q⟩:=h;cases ry;refine isnot_none_gen (cg I q ?_);cases x<;>first
  |(cases rx;rfl)
  |(obtain⟨t,rfl⟩:=rx;rfl)
theorem Ly(b:Expr){op:CmpOp}(h:op≠.In:=by decide)(h2:op≠.NotIn:=by decide):behindInMarks op b=false:=by
 have e1:(op==CmpOp.In)=false:=by cases op<;>first|rfl|exact absurd rfl h
 have e2:(op==CmpOp.NotIn)=false:=by cases op<;>first|rfl|exact absurd rfl h2
 cases b<;>simp[behindInMarks,e1,e2]
theorem Qs{op:CmpOp}{r:R2}(ho:OpR X (compareOp op) r)(ha:PE X a ta)(hb:PE X b tb)(hm:behindInMarks op b=false):PE X (.Compare a [op] [b] pos) (tOp r ta tb):=by
 intro aa s σ H Q I h;exact wpAny_Compare1 (Uh ha hb I h λv u s2 x y H2 I2 rx ry q=>ho aa s2 σ H2 x y v u Q I2 rx ry q) hm
def RP(t:TE):TT:=λσ H Q=>t σ H λx H'=>∃k,x=.bl k/\Q k H'
theorem QD{op:CmpOp}{r:R2}(ho:OpR X (compareOp op) r)(ha:PE X a ta)(hb:PE X b tb)(hm:behindInMarks op b=false):PT X (.Compare a [op] [b] pos) (RP (tOp r ta tb)):=by
 intro aa s σ H Q I h;refine wpAny_isTrue_Compare1 (thn (ha aa s σ H _ I h) λv s1 ⟨x,H1,I1,r1,q1⟩=>thn (hb aa s1 σ H1 _ I1 q1) λu s2 ⟨y,H2,I2,r2,q2⟩ =>
  thn (ho aa s2 σ H2 x y v u _ I2 r1 r2 q2) λc s3 ⟨z,H3,I3,r3,k,e,q3⟩=>?_) hm
 subst e;cases r3;exact wpAny_truthy_bool ⟨H3,I3,q3⟩
def FP(r r':R2)(ta tb tc:TE):TE:=λσ H Q=>ta σ H λx H1=>tb σ H1 λy H2=>r x y H2 λz H3=>∃k,z=.bl k /\
 (if k=true then tc σ H3 λw' H4=>r' y w' H4 Q else Q (.bl false) H3)
theorem J_{op ce:CmpOp}{r r':R2}(ho:OpR X (compareOp op) r)(bX:OpR X (compareOp ce) r')(ha:PE X a ta)(hb:PE X b tb)(hc:PE X c tc)
 (hm:lastMarks [op,ce] [b,c]=false:=by with_unfolding_all rfl):PE X (.Compare a [op,ce] [b,c] pos) (FP r r' ta tb tc):=by
 intro aa s σ H Q I h;refine Compare_chain (thn (ha aa s σ H _ I h) λv s1 ⟨x,H1,I1,r1,q1⟩=>chain_link (thn (hb aa s1 σ H1 _ I1 q1) λu s2 ⟨y,H2,I2,r2,q2⟩ =>
  thn (ho aa s2 σ H2 x y v u _ I2 r1 r2 q2) λd s3 ⟨z,H3,I3,r3,k,e,q3⟩=>?_)) hm
 subst e;cases r3;refine wpAny_truthy_bool ?_;cases k with
 |false=>exact ite_ff ⟨.bl false,H3,I3,rfl,q3⟩
 |true=>exact ite_tt (chain_last (thn (hc aa s3 σ H3 _ I3 q3) λw' s4 hP=>by obtain⟨z',H4,I4,r4,q4⟩:=hP;exact bX aa s4 σ H4 y z' u w' Q I4 r2 r4 q4))
theorem Kh{op ce:CmpOp}{r r':R2}(ho:OpR X (compareOp op) r)(bX:OpR X (compareOp ce) r')(ha:PE X a ta)(hb:PE X b tb)(hc:PE X c tc)
 (hm:lastMarks [op,ce] [b,c]=false:=by with_unfolding_all rfl):PT X (.Compare a [op,ce] [b,c] pos) (RP (FP r r' ta tb tc)):=by
 intro aa s σ H Q I h;refine isTrue_chain (thn (ha aa s σ H _ I h) λv s1 ⟨x,H1,I1,r1,q1⟩=>test_link (thn (hb aa s1 σ H1 _ I1 q1) λu s2 ⟨y,H2,I2,r2,q2⟩ =>
  thn (ho aa s2 σ H2 x y v u _ I2 r1 r2 q2) λd s3 ⟨z,H3,I3,r3,k,e,q3⟩=>?_)) hm
 subst e;cases r3;refine wpAny_truthy_bool ?_;cases k with
 |false =>
  obtain⟨k',e',q'⟩:=q3;cases e';exact ite_ff ⟨H3,I3,q'⟩
 |true =>
  refine ite_tt (test_last (thn (hc aa s3 σ H3 _ I3 q3) λw' s4 ⟨z',H4,I4,r4,q4⟩=>thn (bX aa s4 σ H4 y z' u w' _ I4 r2 r4 q4) λd' s5 hP=>?_));obtain⟨z2,H5,I5,r5,k2,e2,q5⟩:=hP;subst e2;cases r5;exact wpAny_truthy_bool ⟨H5,I5,q5⟩
def VN(K:Frag)(x:V)(H:Hp)(k:Bool):Prop :=
 match x with
 |.non=>k=false
 |.bl b=>k=b
 |.int i=>k=(i != 0)
 |.str y=>y.length<=sizeLine/\k=((y.length:Int) != 0)
 |.byt y=>y.size<=sizeLine/\k=((y.size:Int) != 0)
 |.ref p=>(∃xs,SqL K H p xs/\k = !xs.isEmpty)\/(∃xs,SqT K H p xs/\k = !xs.isEmpty)\/∃kvs,H p=some (.dK kvs)/\k = !kvs.isEmpty
 |_=>False
theorem Ft{κ:Type}{kvs:List (κ×V)}{vs:List (κ×Value)}(r:KV kvs vs):(!vs.isEmpty) = !kvs.isEmpty:=by
 cases r<;>rfl
theorem uL{xs:Β}{its:Δ}(r:Vals xs its):(!its.toArray.isEmpty) = !xs.isEmpty:=by
 cases r<;>simp
theorem mO:(sizeLine:Nat)<2^63:=by rw[sizeLine_eq];decide
theorem U_:aau X (λx H Q=>∃k,VN X.K x H k/\Q k H):=by
 intro aa s σ H x v Q I rx h;obtain⟨k,e,q⟩:=h;have hl:=mO;have hs:sizeLine=16777216:=sizeLine_eq;cases x with
 |non =>
  cases rx;have e':k=false:=e;subst e';exact truthy_none ⟨H,I,q⟩
 |bl b =>
  cases rx;have e':k=b:=e;subst e';exact wpAny_truthy_bool ⟨H,I,q⟩
 |int i =>
  obtain⟨t,rfl⟩:=rx;have e':k=(i != 0):=e;subst e';exact PySem.P.truthy_int ⟨H,I,q⟩
 |str y =>
  obtain⟨t,rfl⟩:=rx;obtain⟨hy,e'⟩ : y.length<=sizeLine/\k=((y.length:Int) != 0):=e;subst e';exact PySem.P.truthy_str (by lia) ⟨H,I.tok _,q⟩
 |byt y =>
  obtain⟨t,rfl⟩:=rx;obtain⟨hy,e'⟩ : y.size<=sizeLine/\k=((y.size:Int) != 0):=e;subst e';exact PySem.W.truthy_bytes (aJ hy (by decide)) ⟨H,I.tok _,q⟩
 |ref p =>
  cases rx;have e':(∃xs,SqL X.K H p xs/\k = !xs.isEmpty)\/(∃xs,SqT X.K H p xs/\k = !xs.isEmpty)\/∃kvs,H p=some (.dK kvs)/\k = !kvs.isEmpty:=e;rcases e' with⟨xs,hx,e'⟩|⟨xs,hx,e'⟩|⟨kvs,hx,e'⟩
  .subst e';obtain⟨its,r,pl,hz⟩:=I.list hx;have aT:=r.length;exact wpAny_truthy_list pl.isList (by simp only[aR];lia) ⟨H,I.tok _,by rw[uL r];exact q⟩
  .subst e';obtain⟨its,r,pl,hz⟩:=I.tuple hx;have aT:=r.length;exact truthy_tuple pl (by simp only[aR];lia) ⟨H,I.tok _,by rw[uL r];exact q⟩
  .subst e';obtain⟨hz,hS,vs,r,m⟩ : kvs.length<=sizeLine/\(p==sysModules)=false/\∃vs,KV kvs vs/\s.heap.DictOf (eN X.prog X.w) p vs:=I.hok p _ hx;have aT:kvs.length=vs.length:=Paired.length r;exact wpAny_truthy_dict hS m (by lia) ⟨H,I.tok _,by rw[Ft r];exact q⟩
 |_=>exact(show False from e).elim
theorem K7(ha:PE X a ta)(he:∀bE,isTrue a X.env bE=(do let v <- bE;standAt a.pos;holding [v] (truthy v))) :
  PT X a (λσ H Q=>ta σ H λx H'=>∃k,VN X.K x H' k/\Q k H'):=by
 intro aa s σ H Q I h;exact isTrue_plain (thn (ha aa s σ H _ I h) λv s1 hP=>by obtain⟨x,H1,I1,r1,q1⟩:=hP;exact U_ aa s1 σ H1 x v Q I1 r1 q1) (he _)
theorem Et:OpR X (binaryOp .Add) (λx y H Q=>∃i j,x=.str i/\y=.str j/\i.length+j.length<=sizeLine/\Q (.str (i++j)) H):=by
 intro aa s σ H x y v u Q I rx ry h;obtain⟨i,j,rfl,rfl,hz,q⟩:=h;obtain⟨t,rfl⟩:=rx;obtain⟨t',rfl⟩:=ry;exact add_str (λt' tk=>⟨.str (i++j),H,I.tok _,⟨_,rfl⟩,q⟩) hz
theorem vals1{x:V}{us:Δ}(r:Vals [x] us):∃u,us=[u]/\RelV x u:=by
 cases r with
 |cons r1 r2=>cases r2;exact⟨_,rfl,r1⟩
theorem vals2{x y:V}{us:Δ}(r:Vals [x,y] us):∃u w',us=[u,w']/\RelV x u/\RelV y w':=by
 cases r with
 |cons r1 r2 =>
  cases r2 with
  |cons r3 r4=>cases r4;exact⟨_,_,rfl,r1,r3⟩
theorem KD:d7 X (.builtin "abs") (λxs H Q=>∃i,xs=[.int i]/\Q (.int (if i<0 then -i else i)) H):=by
 intro aa s σ H xs us Q I r h;obtain⟨i,rfl,q⟩:=h;obtain⟨u,rfl,t,rfl⟩:=vals1 r;exact call_abs_int λu tk=>⟨.int (if i<0 then -i else i),H,I.tok _,⟨_,rfl⟩,q⟩
theorem JM(hc:X.calm=true):d7 X (.builtin "max") (λxs H Q=>∃i j,xs=[.int i,.int j]/\Q (.int (if j>i then j else i)) H):=by
 intro aa s σ H xs us Q I r h;obtain⟨i,j,rfl,q⟩:=h;obtain⟨u,w',rfl,⟨t,rfl⟩,⟨t',rfl⟩⟩:=vals2 r;refine max_two_ints (I.ok.hd hc) λh' tk k=>⟨_,H,I.kept k,?_,q⟩;by_cases hj:j>i
 .rw[ZY hj,ZY hj];exact⟨_,rfl⟩
 .rw[ZZ hj,ZZ hj];exact⟨_,rfl⟩
theorem JT(hc:X.calm=true):d7 X (.builtin "min") (λxs H Q=>∃i j,xs=[.int i,.int j]/\Q (.int (if j<i then j else i)) H):=by
 intro aa s σ H xs us Q I r h;obtain⟨i,j,rfl,q⟩:=h;obtain⟨u,w',rfl,⟨t,rfl⟩,⟨t',rfl⟩⟩:=vals2 r;refine min_two_ints (I.ok.hd hc) λh' tk k=>⟨_,H,I.kept k,?_,q⟩;by_cases hj:j<i
 .rw[ZY hj,ZY hj];exact⟨_,rfl⟩
 .rw[ZZ hj,ZZ hj];exact⟨_,rfl⟩
theorem Iw:d7 X (.type "int") (λxs H Q=>(∃i,xs=[.int i]/\Q (.int i) H)\/∃k,xs=[.bl k]/\Q (.int (if k then 1 else 0)) H):=by
 intro aa s σ H xs us Q I r h;rcases h with⟨i,rfl,q⟩|⟨k,rfl,q⟩
 .obtain⟨u,rfl,t,rfl⟩:=vals1 r;exact call_int_int ⟨.int i,H,I,⟨_,rfl⟩,q⟩
 .obtain⟨u,rfl,r1⟩:=vals1 r;cases r1;exact call_int_bool ⟨.int (if k then 1 else 0),H,I.tok _,⟨_,rfl⟩,q⟩
end
structure Gn(h:Heap)(x dx C:Addr)(mA:Str->Ψ):Prop where
 obj:h.get? x=some (instObj C dx)
 ns:h.Ns1 dx mA
 ne:dx≠x
theorem yF{h:Heap}{dx:Addr}{mA:Str->Ψ}(n:h.Ns1 dx mA):∃od,h.get? dx=some od/\∀name,lookIn name od=some (mA name):=by
 obtain⟨o,es,ep,ho,hd,hk,_,hm⟩:=n;refine⟨o,ho,λname=>?_⟩;have e:=hm name;unfold nsFind findBy at e;rw[<- Array.find?_toList]at e;unfold lookIn;rw[hd];dsimp only;split
 .rename_i y q
  rw[q]at e;exact ZH some e
 .rename_i q
  rw[q]at e;have a:es.toList.any (·.refKey)=false:=by
   rw[List.any_eq_false];intro y hy;obtain⟨z,t,gu⟩:=hk y (Array.mem_toList_iff.mp hy);simp[DictEntry.refKey,gu]
  have a':¬es.toList.any (·.refKey)=true:=by rw[a];exact aX
  rw[ZZ a'];exact ZH some e
theorem Gn.look{h:Heap}{x dx C:Addr}{mA:Str->Ψ}(I:Gn h x dx C mA):∃od,PySem.W.InstAt h x (instObj C dx) C (some od)/\∀name,lookIn name od=some (mA name) :=
 let⟨od,ho,hl⟩:=yF I.ns
 ⟨od,⟨I.obj,rfl,rfl,ho⟩,hl⟩
section
variable{prog:Program}{w:World}{A:Around}{E:Ξ}{s:Shared}{K:Frag}{x dx C f:Addr}{mA:Str->Ψ}{name:Str}{v:Value}
theorem get_map{mf:Bool}{Q:Ξ}(X:K.In s.heap)(I:Gn s.heap x dx C mA)(hg:plainGet K C name=true)(hh:hasDictIn K C=true)
 (ha:findIn K (.ref C) name=some none)(hv:mA name=some v)(hv':handedIn v=true)(h:Q v { s with toks:=s.toks+1 }) :
  wpAny (model prog w) A (getAttr (.ref x) name mf) Q E s:=by
 obtain⟨od,J,hl⟩:=I.look;exact PySem.W.get_value X J (plainGet_of hg).1 (findObj_own hh ha rfl (by rw[hl,hv])) hv' h
theorem Oa{pl:Sem Bool}{Q:Value×Δ->Shared->Prop}(X:K.In s.heap)(I:Gn s.heap x dx C mA)(hg:plainGet K C name=true)
 (hf:findIn K (.ref C) name=some (some (.ref f)))(ht:isFn K (.ref f)=true)(hv:mA name=none)(h:Q (.ref f,[.ref x]) s) :
  wpAny (model prog w) A (getMethod (.ref x) name pl) Q E s:=by
 obtain⟨od,J,hl⟩:=I.look;exact PySem.W.method_fn X J (plainGet_of hg).1 (plainGet_of hg).2 hf (beq_iff_eq.mp ht) (by show(lookIn name od).map (·.isSome)=some false;rw[hl,hv];rfl) h
theorem O6{ns:Θ}{Q:Unit->Shared->Prop}(X:K.In s.heap)(I:Gn s.heap x dx C mA)
 (hs:findIn K (.ref C) "__setattr__"=some (some (.builtin "object.__setattr__")))(hp:plainOver K C=true)(ht:takerIn K C name=some none)(hh:hasDictIn K C=true)
 (hw:PySem.Within mA ns)(hsz:ns.length<=sizeLine)
 (h:∀h',Gn h' x dx C (λy=>if y=name then some v else mA y)->Heap.SameBut dx s.heap h'->Q () { s with heap:=h',toks:=s.toks+2 }) :
  wpAny (model prog w) A (setAttr (.ref x) name v) Q E s:=by
 obtain⟨od,J,hl⟩:=I.look;refine set_plain X J hs (PySem.W.osa_open (s:={ s with toks:=s.toks+1 }) (r:=none) X J hp ht λb=>?_);obtain⟨cd,hc,aw⟩:=PySem.W.any_some hh;have hx:s.heap.get? x=some ⟨.ref C,some dx,.plain,#[]⟩:=I.obj;refine ZU (ZT (ZU (ZU (wpAny_loadPart hx (ZU (PySem.W.Looks.here (s:={ s with toks:=s.toks+1 }) (looks_clsIn X hc) ?_))))));rw[aw];refine ZT (a:=some dx) (ZU (ZT (ZU ?_)));refine wpAny_nsSet1 (s:={ s with toks:=s.toks+1 }) I.ns λh' fq eS=>?_;obtain⟨oD,esD,epD,kU,iX,c8⟩:=fq.count (PySem.Within.cons name v hw);refine ZU (wpAny_lookBehind kU (by rw[iX];exact pastItsLine_dict (aJ c8 (by rw[List.length_cons];exact Nat.succ_le_succ hsz))) ?_);exact ZT (h _ ⟨(eS.2 _ (Ne.symm I.ne)).trans I.obj,fq,I.ne⟩ eS)
theorem Dc{R:Result->Shared->Prop}{vs:Δ}{kw:List (Str×Value)}(X:K.In s.heap)(hm:makesIn K C=true)
 (hi:findIn K (.ref C) "__init__"=some (some (.ref f)))(hf:typeIn K (.ref f)=some (.type "function"))
 (h:codeAny (model prog w) (A.under (.builtin "type.__call__" ⟨.ref C::vs,kw⟩)) (.call (.ref f) ⟨.ref (s.heap.objs.size+1)::vs,kw⟩) (PySem.W.InitBack (s.heap.objs.size+1) R)
   { s with heap:=(s.heap.push emptyDict).push (instObj C s.heap.objs.size) }) :
  codeAny (model prog w) A (.call (.ref C) ⟨vs,kw⟩) R s:=by
 obtain⟨hh,g,d,t,os⟩:=s;exact PySem.W.make_core (PySem.W.makes_of X hm) (looks_findIn X hi) (λself=>PySem.W.bind_fn X self hf) (.inl rfl) h
end
def lE(f:Str)(v:V):List (Str×V)->List (Str×V)
 |[]=>[(f,v)]
 |(g,x)::r=>if g=f then(g,v)::r else(g,x)::lE f v r
theorem sZ(f g:Str)(v:V):∀fs:List (Str×V),(lE f v fs).lookup g=if g=f then some v else fs.lookup g
 |[]=>by
  show List.lookup g [(f,v)]=_;by_cases h:g=f
  .have hb:(g==f)=true:=beq_iff_eq.mpr h;simp only[List.lookup,hb,ZY h]
  .have hb:(g==f)=false:=beq_eq_false_iff_ne.mpr h;simp only[List.lookup,hb,ZZ h]
 |(k,x)::r=>by
  have ih:=sZ f g v r;rw[show lE f v ((k,x)::r)=(if k=f then(k,v)::r else(k,x)::lE f v r)from rfl];by_cases hk:k=f
  .rw[ZY hk];by_cases h:g=k
   .have hb:(g==k)=true:=beq_iff_eq.mpr h;simp only[List.lookup,hb,ZY (h.trans hk)]
   .have hb:(g==k)=false:=beq_eq_false_iff_ne.mpr h;simp only[List.lookup,hb,ZZ (λe:g=f=>h (e.trans hk.symm))]
  .rw[ZZ hk];by_cases h:g=k
   .have hb:(g==k)=true:=beq_iff_eq.mpr h;simp only[List.lookup,hb,ZZ (λe:g=f=>hk (h.symm.trans e))]
   .have hb:(g==k)=false:=beq_eq_false_iff_ne.mpr h;simp only[List.lookup,hb];exact ih
theorem rQ(f:Str)(v:V):∀fs:List (Str×V),f∈(lE f v fs).map (·.1)/\∀g,g∈fs.map (·.1)->g∈(lE f v fs).map (·.1)
 |[]=>⟨by simp[lE],λg h=>by simp at h⟩
 |(k,x)::r=>by
  obtain⟨i1,i2⟩:=rQ f v r;rw[show lE f v ((k,x)::r)=(if k=f then(k,v)::r else(k,x)::lE f v r)from rfl];by_cases hk:k=f
  .rw[ZY hk];subst hk;exact⟨by simp,λg h=>by simpa using h⟩
  .rw[ZZ hk];refine⟨?_,λg h=>?_⟩
   .rw[List.map_cons];exact aG _ i1
   .rw[List.map_cons]at h ⊢;rcases YU.mp h with e|e
    .exact YU.mpr (.inl e)
    .exact aG _ (i2 g e)
theorem sY(f:Str)(v:V):∀fs:List (Str×V),(lE f v fs).length<=fs.length+1
 |[]=>by simp[lE]
 |(k,x)::r=>by
  have ih:=sY f v r;rw[show lE f v ((k,x)::r)=(if k=f then(k,v)::r else(k,x)::lE f v r)from rfl];by_cases hk:k=f
  .rw[ZY hk,List.length_cons,List.length_cons];exact Xs _
  .rw[ZZ hk,List.length_cons,List.length_cons];exact Nat.succ_le_succ ih
theorem m8.some_of{v:V}{o:Ψ}(r:m8 (some v) o):∃u,o=some u/\RelV v u:=by
 cases o with
 |none=>exact(show False from r).elim
 |some u=>exact⟨u,rfl,r⟩
theorem m8.none_of{o:Ψ}(r:m8 none o):o=none:=by
 cases o with
 |none=>rfl
 |some u=>exact(show False from r).elim
theorem yH{v:V}{u:Value}(r:RelV v u):handedIn u=true:=by
 cases v with
 |non=>cases(show u=Value.none from r);rfl
 |bl b=>cases(show u=Value.bool b from r);rfl
 |int i=>obtain⟨t,e⟩:=(show ∃t,u=Value.int i t from r);cases e;rfl
 |str x=>obtain⟨t,e⟩:=(show ∃t,u=Value.str x t from r);cases e;rfl
 |byt b=>obtain⟨t,e⟩:=(show ∃t,u=Value.bytes b t from r);cases e;rfl
 |flt b=>obtain⟨t,e⟩:=(show ∃t,u=Value.float b t from r);cases e;rfl
 |ref a=>cases(show u=Value.ref a from r);rfl
 |ty n=>cases(show u=Value.type n from r);rfl
section
variable{P:Program}{w:World}{H H':Hp}{h h':Heap}{a C dx:Addr}{fs fs':List (Str×V)}
theorem uh(hok:HOk P w H h)(e:H a=some (.ins C dx fs)):∃mA,Gn h a dx C mA/\(∀f,m8 (fs.lookup f) (mA f))/\PySem.Within mA (fs.map (·.1))/\fs.length<=1000/\H dx=some (.own a):=by
 obtain⟨d,z,ne,ob,mA,n,r,q⟩:=(show cX P w H h a (.ins C dx fs)from hok a _ e);exact⟨mA,⟨ob,n,ne⟩,r,q,z,d⟩
end
structure Cls(K:Frag)(C:Addr):Prop where
 pg:plainGet K C Str.empty=true
 hd:hasDictIn K C=true
 po:plainOver K C=true
 sa:findIn K (.ref C) "__setattr__"=some (some (.builtin "object.__setattr__"))
theorem Cls.get{K:Frag}{C:Addr}(c:Cls K C)(f:Str):plainGet K C f=true:=c.pg
def bR(K:Frag)(C:Addr)(f:Str):Prop:=findIn K (.ref C) f=some none
theorem bR.taker{K:Frag}{C:Addr}{f:Str}(n:bR K C f):takerIn K C f=some none:=by
 unfold takerIn;rw[show findIn K (.ref C) f=some none from n]
 rfl
structure Meth(K:Frag)(C:Addr)(m:Str)(f:Addr):Prop where
 at_:findIn K (.ref C) m=some (some (.ref f))
 fn:isFn K (.ref f)=true
 kp:keepIn K (.ref f)=true
section
variable{X:Cx}{aa:Γ}{σ:St}{H:Hp}{s:Shared}{a C dx:Addr}{fs:List (Str×V)}{f:Str}{v:V}{A:Around}{E:Ξ}
theorem Gb{b:Bool}{Q:Ξ}(I:Inv X aa σ H s)(e:H a=some (.ins C dx fs))(c:Cls X.K C)(n:bR X.K C f)(l:fs.lookup f=some v)
 (h:∀u s',Inv X aa σ H s'->RelV v u->Q u s'):wpAny (model X.prog X.w) A (getAttr (.ref a) f b) Q E s:=by
 obtain⟨mA,O,r,_,_,_⟩:=uh I.hok e;obtain⟨u,hu,ru⟩:=m8.some_of (v:=v) (o:=mA f) (by rw[<- l];exact r f);exact get_map I.kIn O (c.get f) c.hd n hu (yH ru) (h u _ (I.tok _) ru)
theorem Es{m:Str}{g:Addr}{pl:Sem Bool}{Q:Value×Δ->Shared->Prop}(I:Inv X aa σ H s)(e:H a=some (.ins C dx fs))(c:Cls X.K C)(k:Meth X.K C m g)(l:fs.lookup m=none)
 (h:Q (.ref g,[.ref a]) s):wpAny (model X.prog X.w) A (getMethod (.ref a) m pl) Q E s:=by
 obtain⟨mA,O,r,_,_,_⟩:=uh I.hok e;have hn:mA m=none:=m8.none_of (by rw[<- l];exact r m);exact Oa I.kIn O (c.get m) k.at_ k.fn hn h
theorem Gw{y:V}{u:Value}{Q:Unit->Shared->Prop}(I:Inv X aa σ H s)(e:H a=some (.ins C dx fs))(c:Cls X.K C)(n:bR X.K C f)(hl:fs.length<1000)(ry:RelV y u)
 (h:∀s',Inv X aa σ (upd H a (.ins C dx (lE f y fs))) s'->Q () s'):wpAny (model X.prog X.w) A (setAttr (.ref a) f u) Q E s:=by
 obtain⟨mA,O,r,wi,_,ho⟩:=uh I.hok e;have hz:(fs.map (·.1)).length<=sizeLine:=by rw[ak,sizeLine_eq];exact aJ (Y2 hl) (by decide)
 refine O6 I.kIn O c.sa c.po n.taker c.hd wi hz λh' O' sb=>h _ ?_;have hd:∃o,h'.get? dx=some o:=by obtain⟨o,_,_,e',_⟩:=O'.ns;exact⟨o,e'⟩
 refine I.write (x:=a) (e:=dx) (by rw[e];exact True.intro) (.inr ho) (λb q hb z=>(sb.2 b hb).trans z) hd ?_;refine⟨by rw[bJ O.ne];exact ho,?_,O.ne,O'.obj,_,O'.ns,λg=>?_,λg hg=>?_⟩
 .have:=sY f y fs;lia
 .show m8 ((lE f y fs).lookup g) (if g=f then some u else mA g);rw[sZ];by_cases q:g=f
  .rw[ZY q,ZY q];exact ry
  .rw[ZZ q,ZZ q];exact r g
 .by_cases q:g=f
  .rw[q];exact(rQ f y fs).1
  .refine(rQ f y fs).2 g (wi g λz=>hg ?_);show(if g=f then some u else mA g)=none;rw[ZZ q];exact z
theorem Inv.made(I:Inv X aa σ H s):Inv X aa σ (upd (upd H s.heap.objs.size (.own (s.heap.objs.size+1))) (s.heap.objs.size+1) (.ins C s.heap.objs.size []))
  { s with heap:=(s.heap.push emptyDict).push (instObj C s.heap.objs.size) }:=by
 have e1:(s.heap.push emptyDict).get? s.heap.objs.size=some emptyDict:=aQ s.heap rfl;have e2:((s.heap.push emptyDict).push (instObj C s.heap.objs.size)).get? (s.heap.objs.size+1)=some (instObj C s.heap.objs.size):=by
  have:=aQ (s.heap.push emptyDict) (o:=instObj C s.heap.objs.size) rfl;rwa[Heap.size_push]at this
 have e3:(s.heap.push emptyDict).Ns s.heap.objs.size (λ_=>none):=⟨emptyDict,#[],_,e1,rfl,(λe he=>absurd he (by simp)),λ_=>rfl⟩;have I1:=I.laid (a:=s.heap.objs.size) (o:=.own (s.heap.objs.size+1)) (h':=s.heap.push emptyDict) (t':=s.toks) (λb u q=>aF _ q) (aD _) ⟨_,e1⟩;refine I1.laid (a:=s.heap.objs.size+1) (o:=.ins C s.heap.objs.size []) (t':=s.toks) (λb u q=>aF _ q) (Wp (Heap.size_push _ _)) ?_;have ne:s.heap.objs.size≠s.heap.objs.size+1:=aN (XW _);refine⟨by rw[bJ ne,bK],aV _,ne,e2,λ_=>none,(Heap.Ns1.of_empty e3).at λo q=>aF _ q,λ_=>True.intro,λy hy=>absurd rfl hy⟩
theorem Hy{prog:Program}{w:World}{env:Env}{e:Expr}{f:Str}{pos:Pos}{s:Shared}{Q:Ξ}(hb:attributeBase e f env (eval e env)=eval e env)
 (h:wpAny (model prog w) A (eval e env) (λo s₁=>wpAny (model prog w) A (getAttr o f true) Q E s₁) E s):wpAny (model prog w) A (eval (.Attribute e f pos) env) Q E s :=
 Attribute_any_ h (by rw[arm_eval_Attribute,hb])
end
def aas(K:Frag)(ta:TE)(f:Str):TE:=λσ H Q=>ta σ H λx H1=>∃a C dx fs v,x=.ref a/\H1 a=some (.ins C dx fs)/\Cls K C/\bR K C f/\fs.lookup f=some v/\Q v H1
def abp(K:Frag)(ta tv:TE)(f:Str):TS:=λD σ H=>tv σ H λy H1=>ta σ H1 λx H2=>∃a C dx fs,x=.ref a/\H2 a=some (.ins C dx fs)/\Cls K C/\bR K C f/\fs.length<1000 /\
 D.nx σ (upd H2 a (.ins C dx (lE f y fs)))
section
variable{X:Cx}{o e ai:Expr}{f:Str}{pos ay a7:Pos}{ta tv:TE}
abbrev qV(X:Cx)(a:Expr)(b:Str):Prop:=attributeBase a b X.env (eval a X.env)=eval a X.env
theorem Nz(he:PE X e ta)(hb:qV X e f):PE X (.Attribute e f pos) (aas X.K ta f):=by
 intro aa s σ H Q I h;refine Hy hb (thn (he aa s σ H _ I h) λu s1 h=>?_);obtain⟨x,H1,I1,rx,a,C,dx,fs,v,rfl,ea,c,n,l,q⟩:=h;obtain rfl:u=Value.ref a:=rx;exact Gb I1 ea c n l λu' s2 I2 ru=>⟨v,H1,I2,ru,q⟩
theorem Gy(ha:PE X o ta)(hv:PE X ai tv)(hs:swapsWith ai (some (.Attribute o f ay)) pos.line X.env=pure false):PS X (.Assign [.Attribute o f ay] ai pos) (abp X.K ta tv f):=by
 intro aa s σ H D I h;refine plainObj_wpAny_Assign_Attribute (thn (hv aa s σ H _ I h) λu s1 ⟨y,H1,I1,ry,q⟩=>thn (ha aa s1 σ H1 _ I1 q) λov s2 h=>?_) hs;obtain⟨x,H2,I2,rx,a,C,dx,fs,rfl,ea,c,n,l,q2⟩:=h;obtain rfl:ov=Value.ref a:=rx;exact Gw I2 ea c n l ry λs3 I3=>⟨σ,_,I3,q2⟩
end
section
variable{X:Cx}{aa:Γ}{σ:St}{H:Hp}{s:Shared}{A:Around}{E:Ξ}{Q:Ξ}{c:Value}{b:Bool}
inductive rW(K:Frag)(H:Hp):V->Value->Prop where
 |non:rW K H .non (.type "NoneType")
 |bl (x:Bool):rW K H (.bl x) (.type "bool")
 |int (i:Int):rW K H (.int i) (.type "int")
 |str (x:Str):rW K H (.str x) (.type "str")
 |flt (x:UInt64):rW K H (.flt x) (.type "float")
 |lst {a:Addr}{xs:Β} (e:H a=some (.lst xs)):rW K H (.ref a) (.type "list")
 |frz {a:Addr}{o:Obj}{xs:Β} (e:H a=some (.frz o (.lst xs))):rW K H (.ref a) (.type "list")
 |tup {a:Addr}{xs:Β} (e:H a=some (.tup xs)):rW K H (.ref a) (.type "tuple")
 |dK {a:Addr}{kvs:List (Key×V)} (e:H a=some (.dK kvs)):rW K H (.ref a) (.type "dict")
 |ins {a C dx:Addr}{fs:List (Str×V)} (e:H a=some (.ins C dx fs)) (cl:Cls K C) (ha:findIn K (.ref C) "__class__"=some (some (.builtin "object.__class__")))
   (hn:specialIn K (.builtin "object.__class__") "__get__"=some (some (.builtin "getset_descriptor.__get__"))) (htk:PySem.W.takesIn K (.builtin "object.__class__")=some true)
   (hm:mroIn K C (.type "object")=some true):rW K H (.ref a) (.ref C)
theorem Iz{x:V}{u t:Value}(I:Inv X aa σ H s)(rx:RelV x u)(ty:rW X.K H x t)(e:kitOne X.K t c=some b)(h:∀tk,Q (.bool b) { s with toks:=tk }) :
  wpAny (model X.prog X.w) A (call (.builtin "isinstance") [u,c]) Q E s:=by
 cases ty with
 |non=>cases(show u=Value.none from rx);exact kia_one PySem.W.kitx_none I.kIn True.intro e (λz=>nomatch z) h
 |bl y=>cases(show u=Value.bool y from rx);exact kia_one PySem.W.kitx_bool I.kIn True.intro e (λz=>nomatch z) h
 |int i=>obtain⟨t,q⟩:=(show ∃t,u=Value.int i t from rx);cases q;exact kia_one PySem.W.kitx_int I.kIn True.intro e (λz=>nomatch z) h
 |str y=>obtain⟨t,q⟩:=(show ∃t,u=Value.str y t from rx);cases q;exact kia_one PySem.W.kitx_str I.kIn True.intro e (λz=>nomatch z) h
 |flt y=>obtain⟨t,q⟩:=(show ∃t,u=Value.float y t from rx);cases q;exact kia_one PySem.W.kitx_float I.kIn True.intro e (λz=>nomatch z) h
 |@lst a xs ea =>
  cases(show u=Value.ref a from rx);obtain⟨_,_,n,_,h1⟩:=(show cX X.prog X.w H s.heap a (.lst xs)from I.hok a _ ea);exact kia_one kitx_list I.kIn ⟨_,h1,rfl⟩ e (λz=>nomatch z) h
 |@frz a ob xs ea =>
  cases(show u=Value.ref a from rx);obtain⟨_,_,_,n,_,h1⟩:=(show cX X.prog X.w H s.heap a (.frz ob (.lst xs))from I.hok a _ ea);exact kia_one kitx_list I.kIn ⟨_,h1,rfl⟩ e (λz=>nomatch z) h
 |@tup a xs ea =>
  cases(show u=Value.ref a from rx);obtain⟨_,_,_,p⟩:=(show cX X.prog X.w H s.heap a (.tup xs)from I.hok a _ ea);obtain⟨o,h1,h2,_⟩:=p;exact kia_one kitx_tuple I.kIn ⟨o,h1,h2⟩ e (λz=>nomatch z) h
 |@dK a kvs ea =>
  cases(show u=Value.ref a from rx);obtain⟨_,_,vs,_,p⟩:=(show cX X.prog X.w H s.heap a (.dK kvs)from I.hok a _ ea);obtain⟨o,es,ep,h1,h2,_⟩:=p;exact kia_one PySem.W.kitx_dict I.kIn ⟨o,h1,h2.1⟩ e (λz=>nomatch z) h
 |@ins a C dx fs ea cl ha hn htk hm =>
  cases(show u=Value.ref a from rx);obtain⟨mA,O,_⟩:=uh I.hok ea;obtain⟨od,J,_⟩:=O.look;exact kia_one (PySem.W.kitx_own (cl.get _) cl.hd ha hn htk hm) I.kIn J e (λz=>nomatch z) h
end
structure cA(k:Nat)(A:Around):Prop where
 hd:A.handled=none
 dp:A.depth+3*k+5<recursionLimit
 un:A.units+16*k+200<cLine
theorem cA.mono{j k:Nat}{A:Around}(r:cA k A)(h:j<=k):cA j A:=⟨r.hd,by have:=r.dp;lia,by have:=r.un;lia⟩
theorem cA.md{k n:Nat}{A:Around}(h:cA n A)(e:k<=n:=by decide):cA k A:=h.mono e
theorem cA.deeper{k:Nat}{A:Around}(r:cA (k+1) A)(env:Env):cA k (A.deeper env) :=
 ⟨r.hd,by have:=r.dp;show A.depth+1+3*k+5<_;lia,by have:=r.un;show A.units+3+16*k+200<_;lia⟩
theorem Fw{A:Around}{C:Addr}{us:Δ}{kw:List (Str×Value)} : (A.under (.builtin "type.__call__" ⟨.ref C::us,kw⟩)).depth=A.depth+1:=by
 first|rfl|simp[Around.under,Code.weight,Code.isCreation,Code.isGuard,Code.isCaller,Code.frames,Code.isFrame,guardIds]
theorem Fb{A:Around}{C:Addr}{us:Δ}{kw:List (Str×Value)} : (A.under (.builtin "type.__call__" ⟨.ref C::us,kw⟩)).units=A.units+1:=by
 first|rfl|simp[Around.under,Code.cUnits,Code.frames,Code.isFrame]
theorem cA.make{k:Nat}{A:Around}(r:cA (k+1) A)(C:Addr)(us:Δ)(kw:List (Str×Value)):cA k (A.under (.builtin "type.__call__" ⟨.ref C::us,kw⟩)) :=
 ⟨r.hd,by have:=r.dp;rw[Fw];lia,by have:=r.un;rw[Fb];lia⟩
theorem cA.depth{k:Nat}{A:Around}(r:cA k A):A.depth<recursionLimit:=by have:=r.dp;lia
theorem cA.units{k:Nat}{A:Around}(r:cA k A):A.units+64<cLine:=by have:=r.un;lia
def Vc:TA:=λ_ H Q=>Q [] H
def Ze(ta:TE)(tr:TA):TA:=λσ H Q=>ta σ H λx H1=>tr σ H1 λxs H2=>Q (x::xs) H2
section
variable{X:Cx}{e:Expr}{es:List Expr}{te:TE}{t:TA}{pos:Pos}
theorem mR:PA X [] Vc:=λ_ _ _ _ H Q I h=>Calls.spliced_nil ⟨[],H,I,.nil,h⟩
abbrev qf(X:Cx)(a:Expr)(b:List Expr):Prop:=starEach (a::b) X.env=(false,eval a X.env)::starEach b X.env
theorem fL(ha:PE X e te)(hr:PA X es t)(hs:qf X e es:=by rfl):PA X (e::es) (Ze te t):=by
 intro pos aa s σ H Q I h;rw[hs];show wpAny _ _ (spliced ((false,eval e X.env)::backTo pos (starEach es X.env))) _ _ s;refine Calls.spliced_cons (thn (ha aa s σ H _ I h) λu s1 hP=>?_);obtain⟨x,H1,I1,r1,q1⟩:=hP;exact thn (hr pos aa s1 σ H1 _ I1 q1) λus s2 hP=>by obtain⟨xs,H2,I2,r2,q2⟩:=hP;exact⟨x::xs,H2,I2,.cons r1 r2,q2⟩
def aa8(t:TA):TE:=λσ H Q=>t σ H λxs H1=>xs.length<=sizeLine/\∀p,H1 p=none->Q (.ref p) (upd H1 p (.tup xs))
def abd(t:TA):TE:=λσ H Q=>t σ H λxs H1=>xs.length<=sizeLine/\∀p,H1 p=none->Q (.ref p) (upd H1 p (.lst xs))
theorem Mg{x1}(h:PA X es t):PE X (.Tuple es x1 pos) (aa8 t):=by
 intro aa s σ H Q I hq;refine wpAny_Tuple_spliced (thn (h pos aa s σ H _ I hq) λus s1 ⟨xs,H1,I1,r,z,q⟩=>⟨by rw[<- r.length];exact z,?_⟩);have hf:H1 s1.heap.objs.size=none:=I1.hok.fresh (aD _);refine⟨.ref s1.heap.objs.size,upd H1 s1.heap.objs.size (.tup xs),I1.laid (t':=s1.toks) (λb u e=>aF _ e) (aD _) ?_,rfl,q _ hf⟩;exact⟨z,us,r,⟨_,aQ _ rfl,rfl,_,rfl⟩⟩
theorem SN(h:PA X es t):PE X (.List es pos) (abd t):=by
 intro aa s σ H Q I hq;refine wpAny_List_spliced (thn (h pos aa s σ H _ I hq) λus s1 ⟨xs,H1,I1,r,z,q⟩=>⟨by rw[<- r.length];exact z,?_⟩);have hf:H1 s1.heap.objs.size=none:=I1.hok.fresh (aD _);refine⟨.ref s1.heap.objs.size,upd H1 s1.heap.objs.size (.lst xs),I1.laid (t':=s1.toks) (λb u e=>aF _ e) (aD _) ?_,rfl,q _ hf⟩;exact⟨z,us,0,r,aQ _ rfl⟩
end
abbrev Sp:=Β->Hp->VK->XK->Prop
abbrev CXT:=List Env->Hp->Shared->XK->Value->Shared->Prop
structure Aa(P:Program)(w:World)(K:Frag)(mg:Str->Ψ)(base:Heap)(A:Around)(outer:List Env)(s:Shared)(H:Hp):Prop where
 frames:A.frames=some outer
 mod:Mod K mg base
 bs:∀b o,base.get? b=some o->s.heap.get? b=some o/\H b=none
 bsz:base.objs.size<=s.heap.objs.size
 funs:s.heap.FunFrames base outer
 frf:∀b∈frs outer,H b=none
 hok:HOk P w H s.heap
 bare:AllBare s.gens
def CE(outer:List Env)(P:Program)(w:World)(H:Hp)(s:Shared)(Q:VK)(u:Value)(s':Shared):Prop :=
 ∃v H',s'.os=s.os/\AllBare s'.gens/\Un (frs outer) [] H H' s.heap s'.heap/\HOk P w H' s'.heap/\RelV v u/\Q v H'
def CR(CX:CXT)(outer:List Env)(P:Program)(w:World)(H:Hp)(s:Shared)(Q:VK)(E:XK)(r:Result)(s':Shared):Prop :=
 match r with
 |.ok (.ret u)=>CE outer P w H s Q u s'
 |.ok _=>False
 |.error e=>CX outer H s E e s'
structure cH(P:Program)(w:World)(K:Frag)(mg:Str->Ψ)(base:Heap)(CX:CXT)(k:Nat)(f:Addr)(fd:FuncData)(ps:Θ)(sp:Sp):Prop where
 len:∀vs H Q E,sp vs H Q E->vs.length=ps.length
 run:∀(A:Around)(outer:List Env)(s:Shared)(H:Hp)(args:Args)(us:Δ)(vs:Β)(Q:VK)(E:XK),cA k A->Aa P w K mg base A outer s H->BindsTo s fd args (ps.zip us)->Vals vs us->sp vs H Q E ->
  codeAny (model P w) A (.call (.ref f) args) (CR CX outer P w H s Q E) s
theorem cH.imp{P:Program}{w:World}{K:Frag}{mg:Str->Ψ}{base:Heap}{CX:CXT}{k:Nat}{f:Addr}{fd:FuncData}{ps:Θ}{sp sp':Sp}(F:cH P w K mg base CX k f fd ps sp)
 (h:∀vs H Q E,sp' vs H Q E->sp vs H Q E):cH P w K mg base CX k f fd ps sp' :=
 ⟨λvs H Q E q=>F.len vs H Q E (h _ _ _ _ q),λA outer s H args us vs Q E hr he hb hv hs=>F.run A outer s H args us vs Q E hr he hb hv (h _ _ _ _ hs)⟩
theorem Aa.make{P:Program}{w:World}{K:Frag}{mg:Str->Ψ}{base:Heap}{A:Around}{outer:List Env}{s:Shared}{H:Hp}(e:Aa P w K mg base A outer s H)(C:Addr)(us:Δ)(kw:List (Str×Value)) :
  Aa P w K mg base (A.under (.builtin "type.__call__" ⟨.ref C::us,kw⟩)) outer s H:=⟨by first|exact e.frames|(simpa[Around.under,Code.envs,Code.isFrame,pushEnvs]using e.frames),e.mod,e.bs,e.bsz,e.funs,e.frf,e.hok,e.bare⟩
section
variable{X:Cx}{aa:Γ}{σ:St}{H:Hp}{s s':Shared}
theorem Inv.env0(I:Inv X aa σ H s):Aa X.prog X.w X.K X.mg X.base X.A X.stack s H :=
 ⟨I.ok.frames,I.ok.mod,I.bs,aJ I.ok.bsz I.sz,I.stack,I.stkFree,I.hok,I.bare⟩
theorem Inv.after{Q:VK}{u:Value}(I:Inv X aa σ H s)(h:CE X.stack X.prog X.w H s Q u s'):EP X aa σ Q u s':=by
 obtain⟨v,H',os,bare,un,hok,r,q⟩:=h;obtain⟨hh,g,d,t,os'⟩:=s';obtain rfl:os'=s.os:=os;exact⟨v,H',I.call (h':=hh) (g':=g) (d':=d) (t':=t) (ch:=[]) un hok bare (λb z=>absurd z (by simp)),r,q⟩
end
def Za(sp:Sp)(br:Β)(E:XK)(t:TA):TE:=λσ H Q=>t σ H λvs H1=>sp (vs++br) H1 Q E
def Xb(C:Addr)(m:Str)(sp:Sp)(br:Β)(E:XK)(ta:TE)(t:TA):TE:=λσ H Q=>ta σ H λx H1=>∃a dx fs,x=.ref a/\H1 a=some (.ins C dx fs)/\fs.lookup m=none /\
 t σ H1 λvs H2=>sp (x::(vs++br)) H2 Q E
def Wa(C:Addr)(sp:Sp)(br:Β)(E:XK)(t:TA):TE:=λσ H Q=>t σ H λvs H1=>∀x dx,H1 x=none->H1 dx=none->dx≠x ->
 sp (.ref x::(vs++br)) (upd (upd H1 dx (.own x)) x (.ins C dx [])) (λv H2=>v=.non/\Q (.ref x) H2) E
def Binds(K:Frag)(fd:FuncData)(ps:Θ)(ds:Δ):Prop :=
 ∀(s:Shared)(us:Δ),K.In s.heap->(us++ds).length=ps.length->BindsTo s fd ⟨us,[]⟩ (ps.zip (us++ds))
theorem Binds.all{K:Frag}{fd:FuncData}{ps:Θ}(h:∀us:Δ,us.length=ps.length->bindArgs fd ⟨us,[]⟩=pure (ps.zip us)):Binds K fd ps []:=λs us _ hl=>by
 rw[List.append_nil]at hl ⊢;exact .of_eq (h us hl)
def Passes(CX:CXT)(X:Cx)(E:XK):Prop:=∀(aa:Γ)(σ:St)(H:Hp)(s:Shared)(e:Value)(s':Shared),Inv X aa σ H s->CX X.stack H s E e s'->X.xe e s'
section
variable{X:Cx}{CX:CXT}{k:Nat}{f C:Addr}{fd:FuncData}{ps:Θ}{sp:Sp}{br:Β}{ds:Δ}{E:XK}{x m:Str}{p pos ag:Pos}{e o:Expr}{es:List Expr}{ta:TE}{t:TA}
theorem Fo{aa:Γ}{σ:St}{H:Hp}{s:Shared}{Q:VK}{us:Δ}{vs:Β}(F:cH X.prog X.w X.K X.mg X.base CX k f fd ps sp)(hr:cA k X.A)(hb:Binds X.K fd ps ds)(hd:Vals br ds)(hx:Passes CX X E)
 (I:Inv X aa σ H s)(r:Vals vs us)(h:sp (vs++br) H Q E):wpAny (model X.prog X.w) X.A (call (.ref f) us) (EP X aa σ Q) X.xe s:=by
 have r2:Vals (vs++br) (us++ds):=r.append hd;have hl:(us++ds).length=ps.length:=by rw[<- r2.length];exact F.len _ _ _ _ h
 refine wpAny_call (codeAny_mono (F.run X.A X.stack s H ⟨us,[]⟩ (us++ds) (vs++br) Q E hr I.env0 (hb s us I.kIn hl) r2 h) λr s' hq=>?_);cases r with
 |error e=>exact hx aa σ H s e s' I hq
 |ok fl =>
  cases fl with
  |ret u=>exact I.after hq
  |next=>exact False.elim hq
  |brk=>exact False.elim hq
  |cont=>exact False.elim hq
abbrev qo(X:Cx)(a:Pos)(b:List Expr):Prop:=(backTo a (starEach b X.env)).any (·.1)=false
theorem O5(F:cH X.prog X.w X.K X.mg X.base CX k f fd ps sp)(hr:cA k X.A)(hg:Gl X x)(hm:X.mg x=some (.ref f))(hk:keepIn X.K (.ref f)=true)(hb:Binds X.K fd ps ds)(hd:Vals br ds)(hx:Passes CX X E)
 (ha:PA X (e::es) t)(aI:qq x:=by decide)(he:qf X e es:=by rfl)(aE:qo X pos es:=by rfl) :
  PE X (.Call (.Name x p) (e::es) [] pos) (Za sp br E t):=by
 intro aa s σ H Q I h;refine wpAny_Call_Name_kw (iB I hg hm ?_ aI);refine callWith_K (h₀:=X.base) I.ok.mod.kin hk (thn (ha pos aa s σ H _ I h) λus s1 ⟨vs,H1,I1,r,q⟩=>⟨I1.kIn,?_⟩) he aE;exact Fo F hr hb hd hx I1 r q
theorem Nf{pl:Sem Bool}(he:PE X o ta)(c:Cls X.K C)(hm:Meth X.K C m f)(F:cH X.prog X.w X.K X.mg X.base CX k f fd ps sp)(hr:cA k X.A)(hb:Binds X.K fd ps ds)(hd:Vals br ds)(hx:Passes CX X E)
 (ht:eval (.Call (.Attribute o m ag) [] [] pos) X.env=(do
   let ov <- eval o X.env
   standAt ag.atName
   let(f,first) <- holding [ov] (getMethod ov m pl)
   callWith pos f first (backTo pos (starEach [] X.env)) (backToKw pos (keywordEach [] X.env))):=by rfl) :
  PE X (.Call (.Attribute o m ag) [] [] pos) (Xb C m sp br E ta Vc):=by
 intro aa s σ H Q I h;refine methodCall_KW (pl:=pl) (thn (he aa s σ H _ I h) λu s1 hP=>?_) ht;obtain⟨x,H1,I1,rx,a,dx,fs,ex,ea,l,q⟩:=hP;subst ex;obtain rfl:u=Value.ref a:=rx;refine Es I1 ea c hm l ?_;exact PySem.W.callWith_K0 (first:=[.ref a]) I1.kIn hm.kp (Fo (us:=[.ref a]) (vs:=[.ref a]) F hr hb hd hx I1 (.cons rfl .nil) q)
structure Mk(K:Frag)(C f:Addr):Prop where
 makes:makesIn K C=true
 init:findIn K (.ref C) "__init__"=some (some (.ref f))
 fn:isFn K (.ref f)=true
 kp:keepIn K (.ref C)=true
theorem Kv{aa:Γ}{σ:St}{H:Hp}{s:Shared}{Q:VK}{us:Δ}{vs:Β}(M:Mk X.K C f)(F:cH X.prog X.w X.K X.mg X.base CX k f fd ps sp)(hr:cA (k+1) X.A)(hb:Binds X.K fd ps ds)(hd:Vals br ds)
 (hx:Passes CX X E)(I:Inv X aa σ H s)(r:Vals vs us)
 (h:∀x dx,H x=none->H dx=none->dx≠x->sp (.ref x::(vs++br)) (upd (upd H dx (.own x)) x (.ins C dx [])) (λv H2=>v=.non/\Q (.ref x) H2) E) :
  wpAny (model X.prog X.w) X.A (call (.ref C) us) (EP X aa σ Q) X.xe s:=by
 have hq:=h (s.heap.objs.size+1) s.heap.objs.size (I.hok.fresh (Xs _)) (I.hok.fresh (aD _)) (aN (XW _));have I2:=Inv.made (C:=C) I;have r2:Vals (V.ref (s.heap.objs.size+1)::(vs++br)) (Value.ref (s.heap.objs.size+1)::(us++ds)):=.cons rfl (r.append hd);have hl:(Value.ref (s.heap.objs.size+1)::us++ds).length=ps.length:=by
  have e:=r2.length;rw[F.len _ _ _ _ hq]at e;exact e.symm
 refine wpAny_call (Dc (f:=f) I.kIn M.makes M.init (beq_iff_eq.mp M.fn) (codeAny_mono (F.run _ X.stack _ _ ⟨Value.ref (s.heap.objs.size+1)::us,[]⟩ (Value.ref (s.heap.objs.size+1)::(us++ds)) _ _ E (hr.make C us [])
  (I2.env0.make C us []) (hb _ (Value.ref (s.heap.objs.size+1)::us) I2.kIn hl) r2 hq) λr s' ck=>?_))
 cases r with
 |error e=>exact hx aa σ _ _ e s' I2 ck
 |ok fl =>
  cases fl with
  |ret u =>
   obtain⟨v,H',I3,rv,ev,q3⟩:=I2.after ck;subst ev;exact⟨rv,⟨V.ref (s.heap.objs.size+1),H',I3,rfl,q3⟩⟩
  |next=>exact False.elim ck
  |brk=>exact False.elim ck
  |cont=>exact False.elim ck
theorem Rf(M:Mk X.K C f)(F:cH X.prog X.w X.K X.mg X.base CX k f fd ps sp)(hr:cA (k+1) X.A)(hg:Gl X x)(hm:X.mg x=some (.ref C))(hb:Binds X.K fd ps ds)(hd:Vals br ds)(hx:Passes CX X E)
 (ha:PA X (e::es) t)(aI:qq x:=by decide)(he:qf X e es:=by rfl)(aE:qo X pos es:=by rfl) :
  PE X (.Call (.Name x p) (e::es) [] pos) (Wa C sp br E t):=by
 intro aa s σ H Q I h;refine wpAny_Call_Name_kw (iB I hg hm ?_ aI);refine callWith_K (h₀:=X.base) I.ok.mod.kin M.kp (thn (ha pos aa s σ H _ I h) λus s1 ⟨vs,H1,I1,r,q⟩=>⟨I1.kIn,?_⟩) he aE;exact Kv M F hr hb hd hx I1 r q
end
structure bG(N P:Θ)(sc:Scope):Prop where
 kind:sc.kind=.function
 co:sc.isCoroutine=false
 gen:sc.isGenerator=false
 nd:N.Nodup
 pre:N.take P.length=P
 par:∀x∈P,sc.names.lookup x=some .local\/sc.names.lookup x=some .cell
 nofree:∀y∈sc.names,y.2≠.free
theorem yD{kindOf:Str->Option NameKind}{x:Str} : ∀{binds:List (Str×Value)}{m:Str->Ψ},(∀v,(x,v)∉binds)->bindL kindOf binds m x=m x
 |[],_,_=>rfl
 |(n,v)::r,m,h=>by
  unfold bindL;rw[yD λw hw=>h w (aG _ hw)];split
  .have:x≠n:=by rintro rfl;exact h v aL
   simp[this]
  .rfl
theorem yM{kindOf:Str->Option NameKind}{x:Str} : ∀{binds:List (Str×Value)}{m:Str->Ψ},(∀v,(x,v)∉binds)->bindC kindOf binds m x=m x
 |[],_,_=>rfl
 |(n,v)::r,m,h=>by
  unfold bindC;rw[yM λw hw=>h w (aG _ hw)];split
  .rfl
  .have:x≠n:=by rintro rfl;exact h v aL
   simp[this]
theorem yN{kindOf:Str->Option NameKind}{x:Str}{v:Value} : ∀{P:Θ}{vs:Δ}{i:Nat}{m:Str->Ψ},P.Nodup->P[i]?=some x->vs[i]?=some v->kindOf x=some .local ->
  bindL kindOf (P.zip vs) m x=some v
 |[],_,_,_,_,h,_,_=>by simp at h
 |_::_,[],_,_,_,_,h,_=>by simp at h
 |p::P,w::vs,0,m,nd,h1,h2,hk=>by
  simp at h1 h2;subst h1;subst h2;show bindL kindOf ((p,w)::P.zip vs) m p=_;unfold bindL;rw[yD λv hv=>(List.nodup_cons.mp nd).1 (List.of_mem_zip hv).1,ZY hk];simp
 |p::P,w::vs,i+1,m,nd,h1,h2,hk=>by
  show bindL kindOf ((p,w)::P.zip vs) m x=_;unfold bindL;exact yN (i:=i) (List.nodup_cons.mp nd).2 (by simpa using h1) (by simpa using h2) hk
theorem yp{kindOf:Str->Option NameKind}{x:Str}{v:Value} : ∀{P:Θ}{vs:Δ}{i:Nat}{m:Str->Ψ},P.Nodup->P[i]?=some x->vs[i]?=some v->kindOf x≠some .local ->
  bindC kindOf (P.zip vs) m x=some v
 |[],_,_,_,_,h,_,_=>by simp at h
 |_::_,[],_,_,_,_,h,_=>by simp at h
 |p::P,w::vs,0,m,nd,h1,h2,hk=>by
  simp at h1 h2;subst h1;subst h2;show bindC kindOf ((p,w)::P.zip vs) m p=_;unfold bindC;rw[yM λv hv=>(List.nodup_cons.mp nd).1 (List.of_mem_zip hv).1,ZZ hk];simp
 |p::P,w::vs,i+1,m,nd,h1,h2,hk=>by
  show bindC kindOf ((p,w)::P.zip vs) m x=_;unfold bindC;exact yp (i:=i) (List.nodup_cons.mp nd).2 (by simpa using h1) (by simpa using h2) hk
def start(N:Θ)(vs:Β):St:=vs.map some++List.replicate (N.length-vs.length) none
def n_(CX:CXT)(P:Program)(w:World)(K:Frag)(mg:Str->Ψ)(base:Heap)(N:Θ)(ac:Str)(scope:Scope)(f:Addr)(cd:Value)(A:Around)(outer:List Env)(s:Shared)(H:Hp)(E:XK):Cx where
 prog:=P
 w:=w
 K:=K
 mg:=mg
 base:=base
 A:=A.deeper (envOfC ac scope s.heap.objs.size f cd)
 N:=N
 s₀:=s
 H₀:=H
 env:=envOfC ac scope s.heap.objs.size f cd
 outer:=outer
 stack:=envOfC ac scope s.heap.objs.size f cd::outer
 ex:=[]
 calm:=true
 fn:=λ_=>true
 pn:=[]
 xe:=λe s'=>wpAny (model P w) (A.deeper (envOfC ac scope s.heap.objs.size f cd)) (leaving (envOfC ac scope s.heap.objs.size f cd) e) (λ_ hZ=>CX outer H s E e hZ) (λe' hZ=>CX outer H s E e' hZ) s'
theorem BJ{sc:Scope}{n:Nat}{x:Str}(h:sc.names.lookup x=some .cell):∃c,(cellsFrom n sc.names []).lookup x=some c:=by
 have q:=PySem.W.cellsFrom_some sc.names n [] (.inl h);exact Option.isSome_iff_exists.mp q
theorem IW{CX:CXT}{P:Program}{w:World}{K:Frag}{mg:Str->Ψ}{base:Heap}{N ps:Θ}{ac:Str}{scope:Scope}{f:Addr}{cd:Value}{A:Around}{outer:List Env}{s s1:Shared}{H:Hp}{E:XK}{us:Δ}{vs:Β}
 (S:bG N ps scope)(hd:A.handled=none)(e0:Aa P w K mg base A outer s H)(hl:vs.length=ps.length)(r:Vals vs us)
 (x:InCallC s s.heap.objs.size (bindL (envOfC ac scope s.heap.objs.size f cd).kindOf (ps.zip us) λ_=>none) (cellsFrom (s.heap.objs.size+1) scope.names []) (bindC (envOfC ac scope s.heap.objs.size f cd).kindOf (ps.zip us) λ_=>none) s1) :
  Inv (n_ CX P w K mg base N ac scope f cd A outer s H E) [] (start N vs) H s1:=by
 have aE:ps.length<=N.length:=by have:=ZH List.length S.pre;rw[aU]at this;lia
 obtain⟨h1,tk,rfl,hk⟩:=x.done;have ib:∀b:Addr,b∉(n_ CX P w K mg base N ac scope f cd A outer s H E).ex:=λb z=>absurd (show b∈([] : Φ)from z) (by simp);refine⟨⟨e0.mod,S.kind,rfl,rfl,aD _,λy z c h1 h2=>?_,λy hy=>?_,λy c _ h=>?_,λ_=>hd,Around.frames_deeper e0.frames,.inr ⟨rfl,rfl⟩,λb z=>absurd z (ib b),e0.bs,e0.bsz,λb _ _=>ib b,λb z=>absurd z (ib b),e0.funs,e0.frf⟩,
  rfl,e0.bare,Un.kept hk,⟨_,x.toInCall.ns,λi y v h1 h2 h3=>?_⟩,λy c h=>⟨_,x.cell y c h⟩,e0.hok.fresh (aD _),λy c h=>?_,λp hp=>absurd (show p∈([] : Γ)from hp) (by simp),e0.hok.kept hk,?_⟩
 .exact name_of_addr x.apart (PySem.mem_of_lookup h1) (PySem.mem_of_lookup h2)
 .have hy:scope.names.lookup y=some .cell\/scope.names.lookup y=some .free:=hy;rcases hy with hy|hy
  .exact BJ hy
  .exact absurd rfl (S.nofree _ (PySem.mem_of_lookup hy))
 .exact Y2 (x.above y c (PySem.mem_of_lookup h))
 .have hi:i<vs.length:=by
   unfold start at h2;by_cases hi:i<vs.length
   .exact hi
   .rw[aB (by simpa using hi)]at h2;rw[XX]at h2;split at h2<;>cases h2
  have ha:vs[i]?=some v:=by
   unfold start at h2;rw[aC (by simpa using hi),aq]at h2;cases e:vs[i]? with
   |none=>rw[e]at h2;cases h2
   |some a=>rw[e]at h2;cases h2;rfl
  obtain⟨u,hu,rv⟩:=r.get ha;have hp:ps[i]?=some y:=by
   rw[<- S.pre,List.getElem?_take_of_lt (aO hi (Wp hl))];exact h1
  have ndP:ps.Nodup:=by rw[<- S.pre];exact S.nd.sublist (List.take_sublist _ _)
  refine⟨u,rv,?_⟩;rcases S.par y (aA hp)with k|k
  .exact .inl ⟨k,yN ndP hp hu k⟩
  .obtain⟨c,e⟩:=BJ (n:=s.heap.objs.size+1) k;refine .inr ⟨.inl k,c,e,?_⟩;have q:=x.cell y c e;rw[yp ndP hp hu (by show scope.names.lookup y≠_;rw[k];decide)]at q;exact q
 .exact e0.hok.fresh (Y2 (x.above y c (PySem.mem_of_lookup h)))
 .unfold start;show _=N.length;rw[au,ak,aK];lia
theorem Rt{CX:CXT}{P:Program}{w:World}{K:Frag}{mg:Str->Ψ}{base:Heap}{k:Nat}{f:Addr}{name ac:Str}{dS:Arguments}{bi:List Stmt}{scope:Scope}{dV kV bj pm af ct oc:Value}{an od:Ω}
 {cc:Array (Ψ)}{N ps:Θ}{sp:Sp}(lk:K.lookup f=some ⟨oc,od,.func (PySem.W.fnOf name ac dS bi scope dV kV bj pm an af ct),cc⟩)(a9:codeIn K af ac=true)(S:bG N ps scope)
 (len:∀vs H Q E,sp vs H Q E->vs.length=ps.length)
 (a6:∀(A:Around)(outer:List Env)(s:Shared)(H:Hp)(vs:Β)(Q:VK)(E:XK),cA k (A.deeper (envOfC ac scope s.heap.objs.size f af))->sp vs H Q E ->
   ∃t,PSs (n_ CX P w K mg base N ac scope f af A outer s H E) bi t/\t { nx:=λ_ H'=>Q .non H',rt:=Q } (start N vs) H) :
  cH P w K mg base CX (k+1) f (PySem.W.fnOf name ac dS bi scope dV kV bj pm an af ct) ps sp:=by
 refine⟨len,λA outer s H args us vs Q E hr e0 hb r dA=>?_⟩;have hl:=len _ _ _ _ dA;have KX:K.In s.heap:=e0.mod.kin.keeps λb o e=>(e0.bs b o e).1;have lim:s.heap.NoLimit:=e0.mod.nolimit.keeps λb o e=>(e0.bs b o e).1;have bn:∀y∈ps.zip us,scope.names.lookup y.1=some .local\/(scope.names.lookup y.1=some .cell/\((cellsFrom (s.heap.objs.size+1) scope.names []).lookup y.1).isSome=true):=λ⟨n,v⟩ hy=>by
  rcases S.par n (List.of_mem_zip hy).1 with q|q
  .exact .inl q
  .exact .inr ⟨q,PySem.W.cellsFrom_some _ _ _ (.inl q)⟩
 refine codeAny_call_function hr.depth (KX _ _ lk) rfl S.co S.gen rfl (PySem.W.codeRec_of KX a9) (hb _ _ _ _ ?_);refine wpAny_newFunctionEnv_cells S.kind bn λenv he s1 x=>?_;subst he;refine⟨lim.keeps x.toInCall.keep,codeAny_func ?_⟩;obtain⟨t,ht,hq⟩:=a6 A outer s H vs Q E (hr.deeper _) dA;have I:Inv (n_ CX P w K mg base N ac scope f af A outer s H E) [] (start N vs) H s1:=IW S hr.hd e0 hl r x;refine wpAny_mono (ht [] s1 (start N vs) H _ I hq) (λfl s' hs=>?_) λe s' hs=>hs;have am:∀{σ':St}{H':Hp}{v:V}{u:Value},Inv (n_ CX P w K mg base N ac scope f af A outer s H E) [] σ' H' s'->RelV v u->Q v H'->CE outer P w H s Q u s' :=
  λ{σ' H' v u}J rv q=>⟨v,H',J.os,J.bare,J.base,J.hok,rv,q⟩
 cases fl with
 |ret u =>
  obtain⟨v,σ',H',J,rv,q⟩:=hs;exact am J rv q
 |next =>
  obtain⟨σ',H',J,q⟩:=hs;exact am (v:=V.non) (u:=Value.none) J rfl q
 |brk =>
  obtain⟨_,_,_,q⟩:=hs;exact False.elim q
 |cont =>
  obtain⟨_,_,_,q⟩:=hs;exact False.elim q
section
variable{X:Cx}{x:Str}{p pos:Pos}{e:Expr}{es:List Expr}{t:TA}{id T:String}{r:Β->Hp->VK->Prop}
def tCB(r:Β->Hp->VK->Prop)(t:TA):TE:=λσ H Q=>t σ H λvs H1=>r vs H1 Q
theorem pJ(hc:d7 X (.builtin id) r)(hg:Gl X x)(hm:X.mg x=none)(hv:bootBuiltins x=some (.builtin id))(ha:PA X (e::es) t)(hn:x≠"__name__":=by decide)(aI:qq x:=by decide)
 (he:qf X e es:=by rfl)(aE:qo X pos es:=by rfl):PE X (.Call (.Name x p) (e::es) [] pos) (tCB r t):=by
 intro aa s σ H Q I h;refine wpAny_Call_Name_kw (uH I hg hm hv ?_ hn aI);exact PyProof.Rows.callWith_builtin1 (thn (ha pos aa s σ H _ I h) λus s1 hP=>by obtain⟨vs,H1,I1,r1,q1⟩:=hP;exact hc aa s1 σ H1 vs us Q I1 r1 q1) he aE
theorem Jv(hc:d7 X (.type T) r)(hg:Gl X x)(hm:X.mg x=none)(hv:bootBuiltins x=some (.type T))(ha:PA X (e::es) t)(hn:x≠"__name__":=by decide)(aI:qq x:=by decide)
 (he:qf X e es:=by rfl)(aE:qo X pos es:=by rfl):PE X (.Call (.Name x p) (e::es) [] pos) (tCB r t):=by
 intro aa s σ H Q I h;refine wpAny_Call_Name_kw (uH I hg hm hv ?_ hn aI);exact PyProof.Rows.callWith_type1 (thn (ha pos aa s σ H _ I h) λus s1 hP=>by obtain⟨vs,H1,I1,r1,q1⟩:=hP;exact hc aa s1 σ H1 vs us Q I1 r1 q1) he aE
end
end L2
namespace HT
open PySem PyProof.Rows
section
variable{prog:Program}{w:World}{A:Around}{E:Ξ}{s:Shared}
def sIx(n d:Nat):Option Int->Nat
 |none=>d
 |some v=>if v<0 then(v+(n:Int)).toNat else min v.toNat n
theorem nH(n d k:Nat):sIx n d (some (k:Int))=min k n:=by
 show(if(k:Int)<0 then((k:Int)+(n:Int)).toNat else min (k:Int).toNat n)=min k n;rw[ZZ (Int.not_lt_of_ge (XT _)),Int.toNat_natCast]
theorem Vj(n d:Nat)(hd:d<=n)(o:Option Int):sIx n d o<=n:=by
 cases o with
 |none=>exact hd
 |some v =>
  show(if v<0 then(v+(n:Int)).toNat else min v.toNat n)<=n;by_cases hv:v<0
  .rw[ZY hv];lia
  .rw[ZZ hv];exact Nat.min_le_right _ _
end
end HT
namespace L2
open PySem PySem.Spec PyProof.Rows
abbrev TO:=St->Hp->(Option Int->Hp->Prop)->Prop
def PO(X:Cx)(e:Option Expr)(t:TO):Prop :=
 ∀(aa:Γ)(s:Shared)(σ:St)(H:Hp)(Q:Option Int->Hp->Prop),Inv X aa σ H s->t σ H Q ->
  wpAny (model X.prog X.w) X.A (evalPart e X.env) (λu s'=>∃o H',Inv X aa σ H' s'/\IsPart u o/\Q o H') X.xe s
def Pu:TO:=λ_ H Q=>Q none H
def Zg(t:TE):TO:=λσ H Q=>t σ H λx H1=>∃i,x=.int i/\Q (some i) H1
theorem intsAre_of{ns:List Int} : ∀{us:Δ},Vals (ns.map V.int) us->IntsAre us ns:=by
 induction ns with
 |nil=>intro us r;rw[List.map_nil]at r;cases r;exact .nil
 |cons n ns ih =>
  intro us r;rw[List.map_cons]at r;cases r with
  |cons r1 r2 =>
   obtain⟨t,e⟩:=r1;subst e;exact .cons n t (ih r2)
section
variable{X:Cx}{e:Expr}{te:TE}{lo hi:Option Expr}{tl th:TO}{pos p2:Pos}
theorem Ro:PO X none Pu:=by
 intro aa s σ H Q I h;rw[evalPart_none];exact ZT ⟨none,H,I,.none,h⟩
theorem Qa(h:PE X e te):PO X (some e) (Zg te):=by
 intro aa s σ H Q I hw;rw[evalPart_some];refine thn (h aa s σ H _ I hw) λu s1 hP=>?_;obtain⟨x,H1,I1,r1,q1⟩:=hP;obtain⟨i,rfl,q⟩:=q1;obtain⟨t,rfl⟩:=r1;exact⟨some i,H1,I1,.int i t,q⟩
def SlR(X:Cx)(r:V->Option Int->Option Int->Hp->VK->Prop):Prop :=
 ∀(aa:Γ)(s:Shared)(σ:St)(H:Hp)(x:V)(v vl vu:Value)(lo hi:Option Int)(sl:Addr)(Q:VK),Inv X aa σ H s->RelV x v->s.heap.IsSliceOf sl vl vu .none->IsPart vl lo->IsPart vu hi->r x lo hi H Q ->
  ∃T id,typeLookup (.type T) "__getitem__"=pure (some (.builtin id))/\s.TypeIs v T/\wpAny (model X.prog X.w) X.A (getItem v (.ref sl)) (EP X aa σ Q) X.xe s
theorem SlR.or{r r':V->Option Int->Option Int->Hp->VK->Prop}(h:SlR X r)(h':SlR X r'):SlR X (λx lo hi H Q=>r x lo hi H Q\/r' x lo hi H Q):=by
 intro aa s σ H x v vl vu lo hi sl Q I rx hs pl pu q;rcases q with q|q
 .exact h aa s σ H x v vl vu lo hi sl Q I rx hs pl pu q
 .exact h' aa s σ H x v vl vu lo hi sl Q I rx hs pl pu q
def tSl(r:V->Option Int->Option Int->Hp->VK->Prop)(te:TE)(tl th:TO):TE:=λσ H Q=>te σ H λx H1=>tl σ H1 λl H2=>th σ H2 λu H3=>r x l u H3 Q
theorem Mf{r:V->Option Int->Option Int->Hp->VK->Prop}(hr:SlR X r)(he:PE X e te)(hl:PO X lo tl)(hu:PO X hi th):PE X (.Subscript e (.Slice lo hi none p2) pos) (tSl r te tl th):=by
 intro aa s σ H Q I h;refine Subscript_ (thn (he aa s σ H _ I h) λv s1 hP=>?_);obtain⟨x,H1,I1,r1,q1⟩:=hP;refine wpAny_Slice (thn (hl aa s1 σ H1 _ I1 q1) λvl s2 ⟨l,H2,I2,pl,q2⟩=>thn (hu aa s2 σ H2 _ I2 q2) λvu s3 hP=>?_);obtain⟨u,H3,I3,pu,q3⟩:=hP;rw[evalPart_none];refine ZT ?_;have I4:Inv X aa σ H3 { s3 with heap:=s3.heap.push { cls:=.type "slice",data:=.fields #[vl,vu,.none] } }:=I3.kept (t':=s3.toks) λb ob q=>aF _ q;obtain⟨T,id,hT,ht,hg⟩:=hr aa { s3 with heap:=s3.heap.push { cls:=.type "slice",data:=.fields #[vl,vu,.none] } } σ H3 x v vl vu l u s3.heap.objs.size Q I4 r1 (Heap.IsSliceOf.new ..) pl pu q3;show wpAny (model X.prog X.w) X.A (subscriptTail e (.Slice lo hi none p2) v (.ref s3.heap.objs.size)) (EP X aa σ Q) X.xe { s3 with heap:=s3.heap.push { cls:=.type "slice",data:=.fields #[vl,vu,.none] } };exact tail_any (ops:=[.ref s3.heap.objs.size,v]) ht hT hg (by with_unfolding_all rfl)
def JQ(xs:Β)(lo hi:Option Int):Β:=(xs.drop (HT.sIx xs.length 0 lo)).take (HT.sIx xs.length xs.length hi-HT.sIx xs.length 0 lo)
theorem BW(xs:Β)(lo hi:Option Int):(JQ xs lo hi).length<=xs.length:=by
 unfold JQ;rw[aU,WS];lia
end
def ixN(n:Nat)(i:Int):Option Nat:=if 0<=i then(if i<n then some i.toNat else none)else if -(n:Int)<=i then some (i+n).toNat else none
def atI{α:Type}(xs:List α)(i:Int):Option α:=(ixN xs.length i).bind λj=>xs[j]?
theorem HX{n:Nat}{i:Int}{j:Nat}(h:ixN n i=some j):seqIndex? i n=some j/\j<n/\-(n:Int)<=i/\i<n:=by
 unfold ixN at h;by_cases h0:0<=i
 .rw[ZY h0]at h;by_cases h1:i<n
  .rw[ZY h1]at h;have e:i.toNat=j:=Option.some.inj h;exact⟨by rw[seqIndex_of h0 h1,e],by lia,by lia,h1⟩
  .rw[ZZ h1]at h;cases h
 .rw[ZZ h0]at h;by_cases h1 : -(n:Int)<=i
  .rw[ZY h1]at h;have e:(i+n).toNat=j:=Option.some.inj h;exact⟨by rw[seqIndex_neg (VV h0) h1,e],by lia,h1,by lia⟩
  .rw[ZZ h1]at h;cases h
theorem Bt{α:Type}{xs:List α}{i:Int}{v:α}(h:atI xs i=some v):∃j,seqIndex? i xs.length=some j/\xs[j]?=some v/\j<xs.length/\-(xs.length:Int)<=i/\i<xs.length:=by
 unfold atI at h;cases e:ixN xs.length i with
 |none=>rw[e]at h;cases h
 |some j =>
  rw[e]at h;obtain⟨h1,h2,h3,h4⟩:=HX e;exact⟨j,h1,h,h2,h3,h4⟩
def um(b:Expr):Prop:=∀o i,subscripted b false o i=operate [o,i] (getItem o i)
def IxR(X:Cx)(r:R2):Prop :=
 ∀(ai bb:Expr)(aa:Γ)(s:Shared)(σ:St)(H:Hp)(x y:V)(v u:Value)(Q:VK),Inv X aa σ H s->RelV x v->RelV y u->r x y H Q ->
  subscripted bb false v u=operate [v,u] (getItem v u)->wpAny (model X.prog X.w) X.A (subscriptTail ai bb v u) (EP X aa σ Q) X.xe s
def MtR(X:Cx)(id:String)(r:V->Β->Hp->VK->Prop):Prop :=
 ∀(aa:Γ)(s:Shared)(σ:St)(H:Hp)(x:V)(xs:Β)(v:Value)(us:Δ)(Q:VK),Inv X aa σ H s->RelV x v->Vals xs us->r x xs H Q ->
  wpAny (model X.prog X.w) X.A (call (.builtin id) (v::us)) (EP X aa σ Q) X.xe s
section
variable{X:Cx}{a b:Expr}{ta tb:TE}{pos:Pos}
theorem IxR.or{r r':R2}(h:IxR X r)(h':IxR X r'):IxR X (λx y H Q=>r x y H Q\/r' x y H Q):=by
 intro ai bb aa s σ H x y v u Q I rx ry q hs;rcases q with q|q
 .exact h ai bb aa s σ H x y v u Q I rx ry q hs
 .exact h' ai bb aa s σ H x y v u Q I rx ry q hs
theorem R5{r:R2}(hr:IxR X r)(ha:PE X a ta)(hb:PE X b tb)(hs:um b):PE X (.Subscript a b pos) (tOp r ta tb):=by
 intro aa s σ H Q I h;exact Subscript_ (Uh ha hb I h λv u s2 x y H2 I2 rx ry q=>hr a b aa s2 σ H2 x y v u Q I2 rx ry q (hs _ _))
def Z4(K:Frag):R2:=λx y H Q=>∃p xs i v,x=.ref p/\y=.int i/\SqL K H p xs/\atI xs i=some v/\Q v H
def abq(K:Frag):R2:=λx y H Q=>∃p xs i v,x=.ref p/\y=.int i/\SqT K H p xs/\atI xs i=some v/\Q v H
def aa7:R2:=λx y H Q=>∃z i c,x=.str z/\y=.int i/\z.length<=sizeLine/\atI z.cps.toList i=some c/\Q (.str ⟨#[c]⟩) H
theorem HY:IxR X (Z4 X.K):=by
 intro ai bb aa s σ H x y v u Q I rx ry h hs;obtain⟨p,xs,i,z,rfl,rfl,hq,he,q⟩:=h;cases rx;obtain⟨t,rfl⟩:=ry;obtain⟨its,r,pl,hz⟩:=I.list hq;obtain⟨j,h1,h2,h3,h4,h5⟩:=Bt he;obtain⟨w,ew,dQ⟩:=r.get h2;have hl:=r.length;have hn:=mO;have am:EP X aa σ Q w s:=⟨z,H,I,dQ,q⟩;by_cases h0:0<=i
 .have hj:i.toNat=j:=by
   rw[seqIndex_of h0 h5]at h1;exact Option.some.inj h1
  exact item_listR pl.isList h0 (by lia) (by rw[hj];simpa using ew) am hs
 .have hj:(i+(its.toArray.size:Int)).toNat=j:=by
   rw[seqIndex_neg (VV h0) h4]at h1;rw[aR,<- hl];exact Option.some.inj h1
  exact subscriptTail_builtinR (x:=w) pl.isList.typeIs slot_list_getitem.lookup
   (wpAny_getItem_list_neg (Q:=λr s'=>r=w/\EP X aa σ Q r s') pl.isList (VV h0) (by rw[aR]<;>lia) (by lia) (by rw[hj];simpa using ew) ⟨rfl,am⟩) hs
theorem U7:IxR X (abq X.K):=by
 intro ai bb aa s σ H x y v u Q I rx ry h hs;obtain⟨p,xs,i,z,rfl,rfl,hq,he,q⟩:=h;cases rx;obtain⟨t,rfl⟩:=ry;obtain⟨its,r,pl,hz⟩:=I.tuple hq;obtain⟨j,h1,h2,h3,h4,h5⟩:=Bt he;obtain⟨w,ew,dQ⟩:=r.get h2;have hl:=r.length;have hn:=mO;have am:EP X aa σ Q w s:=⟨z,H,I,dQ,q⟩;exact subscriptTail_builtinR (x:=w) pl.typeIs slot_tuple_getitem.lookup
  (getItem_tuple (j:=j) (Q:=λr s'=>r=w/\EP X aa σ Q r s') pl (by lia) (by lia) (by rw[aR,<- hl];exact h1) (by simpa using ew) ⟨rfl,am⟩) hs
theorem Vo:IxR X aa7:=by
 intro ai bb aa s σ H x y v u Q I rx ry h hs;obtain⟨z,i,c,rfl,rfl,hz,he,q⟩:=h;obtain⟨t,rfl⟩:=rx;obtain⟨t',rfl⟩:=ry;obtain⟨j,h1,h2,h3,h4,h5⟩:=Bt he;have hl:z.cps.toList.length=z.length:=by simp[Str.length]
 rw[hl]at h1 h4 h5;have hn:=mO;exact tail_any (typeIs_str s z t) slot_str_getitem.lookup (getItem_str (c:=c) (by
  have e1:decide (i < -(2^63:Int))=false:=Zp (by lia);have e2:decide (i>=2^63)=false:=Zp (by lia);rw[e1,e2,Bool.or_false]) (by rw[h1];simpa using h2) ⟨.str ⟨#[c]⟩,H,I.tok _,⟨_,rfl⟩,q⟩) hs
theorem Gi(its:Δ)(n j:Nat)(u:Value):Obj.mapSeq (·.setIfInBounds j u) { cls:=.type "list",data:=.seq its.toArray n }={ cls:=.type "list",data:=.seq (its.set j u).toArray n }:=by
 simp[Obj.mapSeq]
theorem Inv.lst{aa:Γ}{σ:St}{H:Hp}{s:Shared}{p:Addr}{xs:Β}(I:Inv X aa σ H s)(h:H p=some (.lst xs)) :
  ∃(its:Δ)(n:Nat),Vals xs its/\s.heap.get? p=some { cls:=.type "list",data:=.seq its.toArray n }/\xs.length<=sizeLine:=by
 obtain⟨z,its,n,r,e⟩:=I.hok p _ h;exact⟨its,n,r,e,z⟩
theorem Inv.lstUpd{aa:Γ}{σ:St}{H:Hp}{s:Shared}{p:Addr}{xs ys:Β}{its its':Δ}{n n':Nat}{f:Obj->Obj}(I:Inv X aa σ H s)(h:H p=some (.lst xs))
 (ho:s.heap.get? p=some { cls:=.type "list",data:=.seq its.toArray n })(hf:f { cls:=.type "list",data:=.seq its.toArray n }={ cls:=.type "list",data:=.seq its'.toArray n' })(r:Vals ys its')(hz:ys.length<=sizeLine)(t:Nat) :
  Inv X aa σ (upd H p (.lst ys)) { s with heap:=s.heap.update p f,toks:=t }:=by
 have e:(s.heap.update p f).get? p=some { cls:=.type "list",data:=.seq its'.toArray n' }:=by
  rw[Heap.get?_update_self f ho (by rw[hf]<;>rfl),hf]
 refine I.write (x:=p) (e:=p) (by rw[h];trivial) (.inl rfl) (λb u hb q=>(Heap.get?_update_other _ _ (Ne.symm hb)).trans q) ⟨_,e⟩ ?_;exact⟨hz,its',n',r,e⟩
def V8:V->V->V->Hp->(Hp->Prop)->Prop:=λo i v H Q=>∃p xs k j,o=.ref p/\i=.int k/\H p=some (.lst xs)/\ixN xs.length k=some j/\Q (upd H p (.lst (xs.set j v)))
theorem set_list:Xc X V8:=by
 intro aa s σ H o i v ov iv u Q I ro ri rv h;obtain⟨p,xs,k,j,rfl,rfl,hp,hj,q⟩:=h;cases ro;obtain⟨t,rfl⟩:=ri;obtain⟨its,n,r,ho,hz⟩:=I.lst hp;obtain⟨h1,h2,h3,h4⟩:=HX hj;have hl:=r.length;have hn:=mO;have I':Inv X aa σ (upd H p (.lst (xs.set j v))) { s with heap:=s.heap.update p (Obj.mapSeq (·.setIfInBounds j u)) } :=
  I.lstUpd hp ho (Gi its n j u) (r.set rv j) (by rw[X9];exact hz) s.toks
 by_cases h0:0<=k
 .have hk:k.toNat=j:=by
   rw[seqIndex_of h0 h4]at h1;exact Option.some.inj h1
  exact PySem.W.ki_setAt ho h0 (by lia) (by rw[aR,<- hl];exact h4) (by rw[hk];exact⟨_,I',q⟩)
 .have hk:(k+(its.toArray.size:Int)).toNat=j:=by
   rw[seqIndex_neg (VV h0) h3]at h1;rw[aR,<- hl];exact Option.some.inj h1
  exact PySem.W.ki_setBack ho (VV h0) (by rw[aR,<- hl];exact h3) (by lia) (by rw[hk];exact⟨_,I',q⟩)
theorem zV(lo hi:Option Int)(n:Nat):(sliceBounds lo hi none n).1=((HT.sIx n 0 lo:Nat):Int)/\(sliceBounds lo hi none n).2.1=((HT.sIx n n hi:Nat):Int)/\(sliceBounds lo hi none n).2.2=1:=by
 refine⟨?_,?_,rfl⟩
 .cases lo with
  |none=>simp[sliceBounds,HT.sIx]
  |some i =>
   simp only[sliceBounds,HT.sIx,Option.getD_none,show(1:Int)>0 by decide,if_true];by_cases h:i<0
   .simp only[h,if_true]<;>lia
   .simp only[h,if_false]<;>lia
 .cases hi with
  |none=>simp[sliceBounds,HT.sIx]
  |some i =>
   simp only[sliceBounds,HT.sIx,Option.getD_none,show(1:Int)>0 by decide,if_true];by_cases h:i<0
   .simp only[h,if_true]<;>lia
   .simp only[h,if_false]<;>lia
theorem xQ(its:Δ)(lo hi:Option Int):slicePick its.toArray lo hi none=((its.drop (HT.sIx its.length 0 lo)).take (HT.sIx its.length its.length hi-HT.sIx its.length 0 lo)).toArray:=by
 obtain⟨h1,h2,h3⟩:=zV lo hi its.toArray.size;unfold slicePick;rw[h1,h2,h3];simp only[sliceRange_one,pick_run,aR]<;>rfl
def aaV(K:Frag):V->Option Int->Option Int->Hp->VK->Prop:=λx lo hi H Q=>∃a xs,x=.ref a/\SqL K H a xs/\∀p,H p=none->Q (.ref p) (upd H p (.lst (JQ xs lo hi)))
theorem Qn:SlR X (aaV X.K):=by
 intro aa s σ H x v vl vu lo hi sl Q I rx hs pl pu h;obtain⟨a,xs,rfl,hx,q⟩:=h;cases rx;obtain⟨its,r,ht,hz⟩:=I.list hx;have aT:=r.length;refine⟨"list",_,slot_list_getitem.lookup,ht.isList.typeIs,?_⟩;refine wpAny_getItem_list_slice ht.isList hs pl pu .none (by simp) ?_ (by rw[aR]<;>lia);rw[xQ,<- aT];refine⟨.ref s.heap.objs.size,_,I.laid (t':=s.toks) (o:=.lst (JQ xs lo hi)) (λb ob q=>aF _ q) (aD _) ?_,rfl,q _ (I.hok.fresh (aD _))⟩;exact⟨aJ (BW xs lo hi) hz,_,0,(r.drop (HT.sIx xs.length 0 lo)).take (HT.sIx xs.length xs.length hi-HT.sIx xs.length 0 lo),aQ _ rfl⟩
def eqV:V->V->Bool
 |.non,.non=>true
 |.bl a,.bl b=>a==b
 |.bl a,.int b=>(if a then 1 else 0)==b
 |.int a,.bl b=>a==(if b then 1 else 0)
 |.int a,.int b=>a==b
 |.str a,.str b=>a==b
 |_,_=>false
theorem zW:d7 X (.builtin "len") (λxs H Q=>∃p ys,xs=[.ref p]/\(SqL X.K H p ys\/SqT X.K H p ys)/\Q (.int ys.length) H):=by
 intro aa s σ H xs us Q I r h;obtain⟨p,ys,rfl,hq,q⟩:=h;obtain⟨u,rfl,rx⟩:=vals1 r;cases rx;have hn:=mO;rcases hq with hq|hq
 .obtain⟨its,r',pl,hz⟩:=I.list hq;have aT:=r'.length;exact Calls.call_len_list pl.isList (by simp only[aR]<;>lia) ⟨.int ys.length,H,I.tok _,⟨s.toks+1,by rw[aR,aT]⟩,q⟩
 .obtain⟨its,r',pl,hz⟩:=I.tuple hq;have aT:=r'.length;exact len_tuple pl (by simp only[aR]<;>lia) ⟨.int ys.length,H,I.tok _,⟨s.toks+1,by rw[aR,aT]⟩,q⟩
theorem Bb:d7 X (.builtin "len") (λxs H Q=>∃z,xs=[.str z]/\z.length<=sizeLine/\Q (.int z.length) H):=by
 intro aa s σ H xs us Q I r h;obtain⟨z,rfl,hz,q⟩:=h;obtain⟨u,rfl,t,rfl⟩:=vals1 r;have hn:=mO;exact len_str (by lia) ⟨.int z.length,H,I.tok _,⟨_,rfl⟩,q⟩
theorem zm:d7 X (.type "list") (λxs H Q=>∃p ys,xs=[.ref p]/\(SqL X.K H p ys\/SqT X.K H p ys)/\∀l,H l=none->Q (.ref l) (upd H l (.lst ys))):=by
 intro aa s σ H xs us Q I r h;obtain⟨p,ys,rfl,hq,q⟩:=h;obtain⟨u,rfl,rx⟩:=vals1 r;cases rx;have am:∀(its:Δ),Vals ys its->ys.length<=sizeLine->∀(h':Heap)(c':Nat),(∀b o',s.heap.get? b=some o'->h'.get? b=some o') ->
   h'.get? s.heap.objs.size=some { cls:=.type "list",dict:=none,data:=.seq its.toArray c',slots:=#[] }->EP X aa σ Q (.ref s.heap.objs.size) { s with heap:=h' }:=λits r' hz h' c' kp e =>
  ⟨.ref s.heap.objs.size,_,I.laid (t':=s.toks) kp (aD _) (show cX X.prog X.w _ h' _ (.lst ys)from⟨hz,its,c',r',e⟩),rfl,q _ (I.hok.fresh (aD _))⟩
 rcases hq with hq|hq
 .obtain⟨its,r',pl,hz⟩:=I.list hq;have aT:=r'.length;obtain⟨o,ho,hc,n,hd⟩:=pl.isList;exact call_list_seq p (.inl rfl) ho hc hd (λh' c' kp e=>am its r' hz h' c' kp e) (by simp only[aR]<;>lia)
 .obtain⟨its,r',pl,hz⟩:=I.tuple hq;have aT:=r'.length;obtain⟨o,ho,hc,n,hd⟩:=pl;exact call_list_seq p (.inr rfl) ho hc hd (λh' c' kp e=>am its r' hz h' c' kp e) (by simp only[aR]<;>lia)
def tyV(K:Frag)(T:String)(x:V)(H:Hp):Prop:=match x with
 |.str _=>T="str"
 |.int _=>T="int"
 |.ref p=>(T="list"/\∃xs,SqL K H p xs)\/(T="tuple"/\∃o,K.lookup p=some o/\o.cls=.type "tuple"/\o.dict=none) \/
   (T="dict"/\(∃kvs,H p=some (.dK kvs)))\/(T="set"/\∃S n,H p=some (.set S n))
 |_=>False
theorem Td{aa:Γ}{σ:St}{H:Hp}{s:Shared}{T:String}{x:V}{v:Value}(I:Inv X aa σ H s)(r:RelV x v)(ty:tyV X.K T x H) :
  s.TypeIs v T/\∀a,v=.ref a->∃ob,s.heap.get? a=some ob/\ob.dict=none:=by
 cases x with
 |str z =>
  obtain⟨t,rfl⟩:=r;cases(show T="str" from ty);exact⟨typeIs_str s z t,λ_ e=>nomatch e⟩
 |int i =>
  obtain⟨t,rfl⟩:=r;cases(show T="int" from ty);exact⟨typeIs_int s i t,λ_ e=>nomatch e⟩
 |ref p =>
  cases r;rcases ty with⟨rfl,xs,hq⟩|⟨rfl,o,hk,hc,hd⟩|⟨rfl,hk⟩|⟨rfl,S,n,hk⟩
  .obtain⟨its,_,pl,_⟩:=I.list hq;refine⟨pl.isList.typeIs,λa e=>?_⟩;cases e;obtain⟨o,n,e,c,hd,_⟩:=pl;exact⟨o,e,hd⟩
  .refine⟨⟨o,I.kIn p o hk,hc⟩,λa e=>?_⟩;cases e;exact⟨o,I.kIn _ o hk,hd⟩
  .have z:∃o,s.heap.get? p=some o/\o.ExactDict:=by
    obtain⟨kvs,hk⟩:=hk;obtain⟨_,_,_,_,o,_,_,e,ex,_⟩:=I.hok p _ hk;exact⟨o,e,ex⟩
   obtain⟨o,e,ex⟩:=z;refine⟨⟨o,e,ex.1⟩,λa e2=>?_⟩;cases e2;exact⟨o,e,ex.2.1⟩
  .obtain⟨o,_,_,_,e,ex,_⟩:=I.hok p _ hk;refine⟨⟨o,e,ex.1⟩,λa e2=>?_⟩;cases e2;exact⟨o,e,ex.2.1⟩
 |_=>exact False.elim ty
def tBM(K:Frag)(T:String)(r:V->Β->Hp->VK->Prop)(to:TE)(t:TA):TE:=λσ H Q=>to σ H λx H1=>tyV K T x H1/\t σ H1 λxs H2=>r x xs H2 Q
variable{o e:Expr}{es:List Expr}{to:TE}{t:TA}{name:Str}{ag cpos:Pos}{T id:String}{r:V->Β->Hp->VK->Prop}
abbrev zk(a b:Pos):Prop:=(a.endLine==b.line)=true
theorem Rv(pa:PlainAttrs T)(slot:Slot T name id)(ii:typeOf (.builtin id)=pure (.type "method_descriptor"))(hm:MtR X id r)(ho:PE X o to)(ha:PA X (e::es) t)
 (i7:qV X o name:=by rfl)
 (lj:((backTo cpos (starEach (e::es) X.env)).all (λx=>!x.1)&&(backToKw cpos (keywordEach [] X.env)).all (λx=>x.1.isSome)
   && decide ((e::es).length+([] : List Keyword).length+(if([] : List Keyword).isEmpty then 0 else 1)<30))=true:=by rfl)
 (iE:zk ag cpos:=by rfl)(hs:qf X e es:=by rfl)(c5:qo X cpos es:=by rfl) :
  PE X (.Call (.Attribute o name ag) (e::es) [] cpos) (tBM X.K T r to t):=by
 intro aa s σ H Q I h;refine wpAny_Call_method_late i7 lj iE rfl (thn (ho aa s σ H _ I h) λv s1 hP=>?_);obtain⟨x,H1,I1,r1,ty,q1⟩:=hP;obtain⟨h1,h2⟩:=Td I1 r1 ty;refine⟨T,id,pa,slot,ii,h1,h2,?_⟩;have hA:=ha cpos aa s1 σ H1 _ I1 q1;rw[hs]at hA ⊢;refine Calls.callWith_builtin (by show(false || (backTo cpos (starEach es X.env)).any (·.1))=false;rw[c5]<;>rfl) (Calls.evalArgs_plain ?_);exact thn hA λus s2 hP=>by obtain⟨vs,H2,I2,r2,q2⟩:=hP;exact hm aa s2 σ H2 x vs v us Q I2 r1 r2 q2

end
def MtM(X:Cx)(id:String)(r:V->Β->Hp->VK->Prop):Prop :=
 ∀(aa:Γ)(s:Shared)(σ:St)(H:Hp)(x:V)(xs:Β)(v:Value)(us:Δ)(Q:VK),Inv X aa σ H s->RelV x v->Vals xs us->r x xs H Q ->
  wpAny (model X.prog X.w) X.A (call (.builtin id) (v::us)) (EP X aa σ Q) X.xe s
theorem Vals.one:∀{x:V}{us:Δ},Vals [x] us->∃u,us=[u]/\RelV x u
 |_,_,.cons r .nil=>⟨_,rfl,r⟩
theorem Vals.two{x y:V}{us:Δ}(h:Vals [x,y] us):∃u v,us=[u,v]/\RelV x u/\RelV y v:=by
 cases h with|cons r t=>cases t with|cons q t=>cases t;exact⟨_,_,rfl,r,q⟩
theorem Vals.rep{xs:Β}{us:Δ}(h:Vals xs us):∀k:Nat,Vals (List.replicate k xs).flatten (List.replicate k us).flatten
 |0=>.nil
 |k+1=>by
  rw[List.replicate_succ,List.replicate_succ,List.flatten_cons,List.flatten_cons];exact Vals.append h (Vals.rep h k)
theorem foldl_rep(its:Δ):∀(k:Nat)(acc:Δ),
  List.foldl (λx1 x2=>x1++x2) acc.toArray (List.replicate k its.toArray)=(acc++(List.replicate k its).flatten).toArray
 |0,acc=>by simp
 |k+1,acc=>by
  have e:acc.toArray++its.toArray=(acc++its).toArray:=by simp
  have e2:(acc++its)++(List.replicate k its).flatten=acc++(List.replicate (k+1) its).flatten:=by
   rw[List.replicate_succ,List.flatten_cons,XG]
  rw[<- e2,<- foldl_rep its k (acc++its),<- e,List.replicate_succ,List.foldl_cons]
section
variable{X:Cx}{aa:Γ}{σ:St}{H:Hp}{s:Shared}{l b:Addr}{xs ys zs:Β}
theorem Inv.lset{its its':Δ}{n:Nat}{f:Array Value->Array Value}{t':Nat}(I:Inv X aa σ H s)(hH:H l=some (.lst xs))
 (e:s.heap.get? l=some { cls:=.type "list",data:=.seq its.toArray n })(hf:f its.toArray=its'.toArray)(hv:Vals ys its')(hz:ys.length<=sizeLine) :
  Inv X aa σ (upd H l (.lst ys)) { s with heap:=s.heap.update l (Obj.mapSeq f),toks:=t' }:=by
 have q:=PySem.IsL.update e f;rw[hf]at q;refine I.write (x:=l) (e:=l) (by rw[hH];exact trivial) (.inl rfl) (λb' u hb hu=>(Heap.get?_update_other s.heap (Obj.mapSeq f) (Ne.symm hb)).trans hu) ⟨_,q⟩ ?_;exact⟨hz,its',_,hv,q⟩
theorem Inv.lnew{its:Δ}{t':Nat}(I:Inv X aa σ H s)(hv:Vals ys its)(hz:ys.length<=sizeLine) :
  Inv X aa σ (upd H s.heap.objs.size (.lst ys)) { s with heap:=s.heap.push { cls:=.type "list",data:=.seq its.toArray },toks:=t' } :=
 I.laid (λ_ _ q=>aF _ q) (aD _) ⟨hz,its,0,hv,aQ _ rfl⟩
theorem Inv.fresh(I:Inv X aa σ H s):H s.heap.objs.size=none:=I.hok.fresh (aD _)
theorem Inv.lstM(I:Inv X aa σ H s)(hH:H l=some (.lst xs)):xs.length<=sizeLine/\∃(its:Δ)(n:Nat),Vals xs its/\xs.length=its.length/\s.heap.get? l=some { cls:=.type "list",data:=.seq its.toArray n }:=by
 obtain⟨z,its,n,r,e⟩:=I.hok l _ hH;exact⟨z,its,n,r,r.length,e⟩
theorem Kz{n:Nat}(h:n<=sizeLine):Builtin.List.listTooLong n=false:=by
 unfold Builtin.List.listTooLong;exact Zp (VQ h)
end
section
variable{X:Cx}
def Ol:V->Β->Hp->VK->Prop:=λx vs H Q=>∃l xs y,x=.ref l/\vs=[y]/\H l=some (.lst xs)/\xs.length<sizeLine/\Q .non (upd H l (.lst (xs++[y])))
theorem rP:MtM X "list.append" Ol:=by
 intro aa s σ H x vs v us Q I rx rv h;obtain⟨l,xs,y,rfl,rfl,hH,hz,q⟩:=h;cases rx;obtain⟨u,rfl,ru⟩:=rv.one;obtain⟨z,its,n,r,hl,e⟩:=I.lstM hH;refine call_meets F.slot_list_append ⟨_,e,rfl⟩ F.entry_list_append (F.args_list_append_2 _ _) (PySem.list_append l its.toArray n u (by rw[aR];lia)) ⟨e,?_⟩;refine⟨.non,_,I.lset (its':=its++[u]) hH e (by simp) (r.append (.cons ru .nil)) ?_,rfl,q⟩;rw[au,List.length_singleton];exact hz
def aam:R2:=λx y H Q=>∃l b xs zs,x=.ref l/\y=.ref b/\H l=some (.lst xs)/\H b=some (.lst zs)/\xs.length+zs.length<=sizeLine/\∀p,H p=none->Q (.ref p) (upd H p (.lst (xs++zs)))
theorem Ux:OpR X (binaryOp .Add) aam:=by
 intro aa s σ H x y v u Q I rx ry h;obtain⟨l,b,xs,zs,rfl,rfl,hH,hB,hz,q⟩:=h;cases rx;cases ry;obtain⟨z,its,n,r,hl,e⟩:=I.lstM hH;obtain⟨z2,ie,n2,r2,hl2,e2⟩:=I.lstM hB;refine PySem.P.add_list e e2 ?_ (by rw[aR,aR];lia);have ea:its.toArray++ie.toArray=(its++ie).toArray:=by simp
 rw[ea];exact⟨.ref _,_,I.lnew (t':=s.toks) (r.append r2) (by rw[au];omega),rfl,q _ I.fresh⟩
def aaF:R2:=λx y H Q=>∃l k xs,x=.ref l/\y=.int k/\H l=some (.lst xs)/\-(2^63)<=k/\k<2^63/\xs.length*k.toNat<=sizeLine /\
 ∀p,H p=none->Q (.ref p) (upd H p (.lst (List.replicate k.toNat xs).flatten))
theorem len_rep{α:Type}(xs:List α)(k:Nat):(List.replicate k xs).flatten.length=k*xs.length:=by
 induction k with
 |zero=>simp
 |succ k ih=>rw[List.replicate_succ,List.flatten_cons,au,ih,Nat.succ_mul,Nat.add_comm]
theorem Vd:OpR X (binaryOp .Mult) aaF:=by
 intro aa s σ H x y v u Q I rx ry h;obtain⟨l,k,xs,rfl,rfl,hH,h1,h2,hz,q⟩:=h;cases rx;obtain⟨t,rfl⟩:=ry;obtain⟨z,its,n,r,hl,e⟩:=I.lstM hH;have aT:its.toArray.size*k.toNat<=sizeLine:=by rw[aR,<- hl];exact hz
 have lS:¬its.toArray.size*k.toNat>(2^63-1)/8:=by
  have:(sizeLine:Nat)<=(2^63-1)/8:=by decide
  lia
 have lc:¬(!Builtin.List.listFitsIndex k)=true:=by
  rw[fitsIndex_both h1 h2];exact aX
 have iA:¬Builtin.List.listTooLong (its.toArray.size*k.toNat)=true:=by
  rw[Kz aT];exact aX
 have kX:List.foldl (λx1 x2=>x1++x2) #[] (List.replicate (if its.toArray.isEmpty=true then 0 else k.toNat) its.toArray)=(List.replicate k.toNat its).flatten.toArray:=by
  have f0:∀m:Nat,List.foldl (λx1 x2=>x1++x2) #[] (List.replicate m its.toArray)=(List.replicate m its).flatten.toArray:=λm=>by
   have:=foldl_rep its m [];rw[List.nil_append]at this;exact this
  rw[f0];cases its with
  |nil=>simp
  |cons a r'=>rw[ZZ (by simp)]
 refine wpAny_binaryOp_repeat_ref (T:="list") (U:="int") (by decide) ⟨_,e,rfl⟩ (λs'=>typeIs_int s' k t) noFill_list_mul F.fills_int_mul F.slot_int_rmul repeat_list F.slot_int_index.lookup
  (call_meets F.slot_int_rmul (typeIs_int s k t) F.entry_int_rmul (F.args_int_rmul_2 _ _) (int___rmul___int_list k t l its.toArray n)
   ⟨e,rfl,⟨_,e,rfl⟩,call_meets F.slot_list_mul ⟨_,e,rfl⟩ F.entry_list_mul (F.args_list_mul_2 _ _) (AutoListH.list___mul___list_int_3 l its.toArray n k t lc lS iA) ⟨e,?_⟩⟩)
 rw[kX];exact⟨.ref _,_,I.lnew (t':=s.toks) (r.rep k.toNat) (by rw[len_rep,Nat.mul_comm];exact hz),rfl,q _ I.fresh⟩
end
end L2
namespace Att
open PySem PySem.W PySem.Calls PyProof.Rows
theorem tW{P:Params}{h:Heap} : ∀(ns:List Int)(vs:Δ),WellAll P h vs (ns.map WData.int)->IntsAre vs ns:=by
 intro ns
 induction ns with
 |nil =>
  intro vs w;rw[List.map_nil]at w;cases w;exact .nil
 |cons n ns ih =>
  intro vs w;rw[List.map_cons]at w;cases w with
  |cons a b =>
   cases a;exact .cons _ _ (ih _ b)
theorem JK{l:OpenLaw}{n:Nat}(hn:l.most=some n){P:Params}{h:Heap}{args:List WData}{fA:Δ}
 (cm:l.row.toRowW.claim.pre args=true)(kL:WellAll P h fA args) :
  ∃a vs ns,fA=[Value.ref a]/\args=[WData.list (ns.map WData.int)]/\h.get? a=some { cls:=.type "list",data:=.seq vs.toArray }/\IntsAre vs ns/\ns.length<=n:=by
 have d4:WShape.hasAll [] args [.list .int]=true:=(pre_splitW cm).1;have hc:l.pre.holds [] { args:=args }=true:=(pre_splitW cm).2;obtain⟨d,r,rfl,h1,h2⟩:=hasAllW_cons d4;obtain rfl:=hasAllW_nil h2;obtain⟨xs,rfl,h3⟩:=hasW_list h1;obtain⟨ns,rfl⟩:=items_int h3;have aT:ns.length<=n:=by
  unfold OpenLaw.pre at hc;have h4:(WTm.not (.lt (.lit (.int (n:Int))) (.len (.arg 0)))).holds [] { args:=[.list (ns.map .int)] }=true:=by
   have h4:=(holds_andW hc).1;rw[hn]at h4;exact h4
  have h5:=condW_of h4 (w_not (w_lt w_lit (w_len_list (w_arg rfl))));rw[ak]at h5;refine WH λq=>?_;have q':(n:Int)<((ns.length:Nat):Int):=by omega
  first
   |(rw[Zs q']at h5;exact absurd h5 (by decide))
   |(simp at h5;omega)
 cases kL with
 |cons w1 w2 =>
  cases w2;cases w1 with
  |list ho gL=>exact⟨_,_,ns,rfl,rfl,ho,tW ns _ gL,aT⟩
theorem JL(l:OpenLaw)(args:List WData):l.row.toRowW.claim.post args (.bool true) args=true :=
 postW_of (r:=l.row.toRowW) (X:=(true==true))
  (show WShape.has [] (.bool true) .bool=true by first|rfl|decide|simp[WShape.has,WShape.arms,WShape.armsAll])
  (show(WTm.eq .res (.lit (.bool true))).value [] { args:=args,res:=some (.bool true),after:=args }=some (.bool (true==true))from w_eq_bool (w_res rfl) w_lit) rfl
theorem C_{l:OpenLaw}{n:Nat}{q:Program}{loose:Θ}{XP:(Str->Ψ)->Heap->Prop}{YP:World->Heap->Prop}{d:DefRec}
 (hn:l.most=some n)(iP:d.params.defaults=[])
 (call:∀(w:World)(s₀ s₁:Shared)(mg mb:Str->Ψ)(fa:Addr)(o:Obj)(pm cd bj:Value)(a:Addr)(vs:Δ)(ns:List Int),
   Ground q loose [] XP w s₀ mg mb s₁.heap->YP w s₁.heap ->
   s₁.heap.get? fa=some o->o.data=.func (docDef d.name d.params d.body d.scope pm cd bj)->s₁.heap.CodeRec cd d.name->mg d.name=some (.ref fa) ->
   s₁.heap.get? a=some { cls:=.type "list",data:=.seq vs.toArray }->IntsAre vs ns->ns.length<=n->s₁.gens = #[] ->
   codeAny (model l.prog w) callerA (.call (.ref fa) ⟨[.ref a],[]⟩) (λr s'=>r=.ok (.ret (.bool true))/\OldK s₁.heap s'.heap/\s'.os=s₁.os/\AllBare s'.gens) s₁) :
  WalkO q loose XP YP l.row.toRowW d [] (λf vs=>PySem.call f vs):=by
 intro w s₀ s₁ mg mb G Y fa o pm cd bj dV kV ho hd a9 hD ft hg args fA as cm hlay hrd kL hlo;obtain rfl:dV=.none:=Dflts.none hD iP;obtain rfl:kV=.none:=Dflts.noKw hD;obtain⟨a,vs,ns,rfl,rfl,gp,d6,aT⟩:=JK hn cm kL;refine enter_call (codeAny_mono (call w s₀ s₁ mg mb fa o pm cd bj a vs ns G Y ho (fd_plain hd) a9 ft gp d6 aT hg) λr s' hq=>?_);obtain⟨rfl,h2,h3,h4⟩:=hq;exact⟨.inl ⟨.bool true,.bool true,[],rfl,λ_=>rfl,.bool true,JL l _,λ_=>⟨List.Pairwise.nil,λ_ hm=>(nomatch hm)⟩⟩,h2,h3,h4⟩
end Att
namespace L2
open PySem PySem.Spec PyProof.Rows
theorem rT:∀{vs:Δ}{ns:List Int},IntsAre vs ns->Vals (ns.map V.int) vs
 |_,_,.nil=>.nil
 |_,_,.cons n t h=>.cons ⟨t,rfl⟩ (rT h)
def Only(H:Hp):Prop:=∀b,H b=none\/∃o xs,H b=some (.frz o (.lst xs))
theorem NK{P:Program}{w:World}{K:Frag}{mg mb:Str->Ψ}{CX:CXT}{k:Nat}{fa a:Addr}{fd:FuncData}{x:Str}{sp:Sp}{s₁:Shared}{vs:Δ}{ns:List Int}
 (KX:K.In s₁.heap)(fk:s₁.heap.Ns mainGlobals mg)(hb:s₁.heap.Ns builtinsNs mb)(hbb:∀x:Str,x≠"__name__"->mb x=bootBuiltins x)(k7:s₁.heap.NoLimit)(hg:s₁.gens = #[])
 (ha:s₁.heap.get? a=some { cls:=.type "list",data:=.seq vs.toArray })(hi:IntsAre vs ns)(hl:ns.length<=sizeLine)(hr:cA k callerA)
 (F:∀base:Heap,K.In base->base.Ns mainGlobals mg->cH P w K mg base CX k fa fd [x] sp)(i6:∀(s:Shared)(u:Value),BindsTo s fd ⟨[u],[]⟩ [(x,u)])
 (dA:∀H:Hp,Only H->SqL K H a (ns.map V.int)->sp [.ref a] H (λv _=>v=.bl true) λ_ _ _=>False)
 (l0:∀H e s',CX [] H s₁ (λ_ _ _=>False) e s'->False) :
  codeAny (model P w) callerA (.call (.ref fa) ⟨[.ref a],[]⟩) (λr s'=>r=.ok (.ret (.bool true))/\OldK s₁.heap s'.heap/\s'.os=s₁.os/\AllBare s'.gens) s₁:=by
 have rv:=rT hi;have kH:=hi.length

 have core:∀H:Hp,Only H->SqL K H a (ns.map V.int)->HOk P w H s₁.heap->(∀b,H b≠none->b=a)->(H a≠none->K.lookup a=none) ->
   codeAny (model P w) callerA (.call (.ref fa) ⟨[.ref a],[]⟩) (λr s'=>r=.ok (.ret (.bool true))/\OldK s₁.heap s'.heap/\s'.os=s₁.os/\AllBare s'.gens) s₁:=by
  intro H hO hS hok hA hK;have dm:∀{b:Addr}{o:Obj},s₁.heap.get? b=some o->H b=none->(yV s₁.heap H).get? b=some o:=λe n=>Lj e n;have ib:∀{b:Addr}{o:Obj}{es:Array DictEntry}{ep:Nat},s₁.heap.get? b=some o->o.data=.dict es ep->H b=none:=λ{b o es ep}e d=>by
   cases q:H b with
   |none=>rfl
   |some u =>
    have e':b=a:=hA b (by rw[q];simp);subst e';rw[ha]at e;cases e;have d':Data.seq vs.toArray _=Data.dict es ep:=d;cases d'
  have j':∀{b:Addr}{m:Str->Ψ},s₁.heap.Ns b m->(yV s₁.heap H).Ns b m:=λ{b m}⟨o,es,ep,e,d,r⟩=>⟨o,es,ep,dm e (ib e d),d,r⟩;have hKb:K.In (yV s₁.heap H):=λb o e=>dm (KX b o e) (by
   cases q:H b with
   |none=>rfl
   |some u =>
    have e':b=a:=hA b (by rw[q];simp);subst e';rw[hK (by rw[q];simp)]at e;cases e)
  have hM:Mod K mg (yV s₁.heap H):=⟨hKb,j' fk,⟨mb,j' hb,hbb⟩,let⟨mc,h1,h2⟩:=k7;⟨mc,j' h1,h2⟩⟩;have e0:Aa P w K mg (yV s₁.heap H) callerA [] s₁ H:=⟨rfl,hM,λb o e=>Q0 e,Wp (Jx _ _),trivial,λb hb=>absurd (show b∈([] : Φ)from hb) (by simp),hok,.of_eq hg⟩;refine codeAny_mono ((F _ hKb (j' fk)).run callerA [] s₁ H ⟨[.ref a],[]⟩ [.ref a] [.ref a] _ _ hr e0 (i6 s₁ (.ref a)) (.cons rfl .nil) (dA H hO hS)) λr s' h=>?_;cases r with
  |error e=>exact(l0 H e s' h).elim
  |ok fl =>
   cases fl with
   |next=>exact False.elim h
   |brk=>exact False.elim h
   |cont=>exact False.elim h
   |ret u =>
    obtain⟨v,H',os,bare,un,hok',r',q⟩:=h;have q':v=.bl true:=q;subst q';obtain rfl:u=Value.bool true:=r';refine⟨rfl,OldK.of_keep λb o e=>?_,os,bare⟩;cases q:H b with
    |none=>exact un.keep b o e q (by intro z;exact absurd (show b∈([] : Φ)from z) (by simp)) (by simp)
    |some u =>
     rcases hO b with z|⟨ob,xs,z⟩
     .rw[q]at z;cases z
     .have z2:=un.frzs b ob _ z;obtain⟨e1,_⟩:=hok b _ z;obtain⟨e2,_⟩:=hok' b _ z2;rw[e]at e1;cases e1;exact e2
 cases hk:K.lookup a with
 |some o =>

  have e:=KX a o hk;rw[ha]at e;cases e;refine core (λ_=>none) (λ_=>.inl rfl) (.inr ⟨_,vs.toArray,_,hk,rfl,rfl,rfl,by rw[aR,kH];exact hl,by simpa using rv⟩) (λb u z=>by have z':(none:Option HO)=some u:=z;cases z') (λb z=>absurd rfl z) λz=>absurd rfl z
 |none =>
  refine core (λb=>if b=a then some (.frz { cls:=.type "list",data:=.seq vs.toArray } (.lst (ns.map V.int)))else none) (λb=>?_) (.inl (.inr ⟨{ cls:=.type "list",data:=.seq vs.toArray },ZY rfl⟩)) (λb u z=>?_) (λb z=>?_) λ_=>hk
  .by_cases hb:b=a
   .exact .inr ⟨_,_,ZY hb⟩
   .exact .inl (ZZ hb)
  .by_cases hb:b=a
   .have z':=(ZY hb).symm.trans z;cases z';subst hb;exact⟨ha,by rw[ak];exact hl,vs,_,rv,ha⟩
   .have z':=(ZZ hb).symm.trans z;cases z'
  .by_cases hb:b=a
   .exact hb
   .exact absurd (ZZ hb) z
abbrev KOf{K:Frag}{h:Heap}(_:K.In h):Frag:=K
theorem Hi{l:PySem.W.OpenLaw}{n k:Nat}{q:Program}{loose:Θ}{XP:(Str->Ψ)->Heap->Prop}{YP:World->Heap->Prop}{d:DefRec}{K:Params->Frag}{CX:World->CXT}{sp:World->Sp}{x:Str}
 (hn:l.most=some n)(fq:n<=sizeLine)(iP:d.params.defaults=[])(hr:cA k callerA)
 (hY:∀(w:World)(h:Heap),YP w h->(K w.params).In h)
 (F:∀(w:World)(mg:Str->Ψ)(fa:Addr)(h:Heap),(K w.params).In h->h.Ns mainGlobals mg->mg d.name=some (.ref fa) ->
   ∃fd:FuncData,(∀(s:Shared)(u:Value),BindsTo s fd ⟨[u],[]⟩ [(x,u)]) /\
    ∀base:Heap,(K w.params).In base->base.Ns mainGlobals mg->cH l.prog w (K w.params) mg base (CX w) k fa fd [x] (sp w))
 (dA:∀(w:World)(H:Hp)(a:Addr)(ns:List Int),ns.length<=n->Only H->SqL (K w.params) H a (ns.map V.int)->sp w [.ref a] H (λv _=>v=.bl true) λ_ _ _=>False)
 (l0:∀(w:World)(H:Hp)(s:Shared)(e:Value)(s':Shared),CX w [] H s (λ_ _ _=>False) e s'->False) :
  PySem.W.WalkO q loose XP YP l.row.toRowW d [] (λf vs=>PySem.call f vs):=by
 refine Att.C_ hn iP λw s₀ s₁ mg mb fa o pm cd bj a vs ns G Y ho hd a9 ft gp d6 aT hg=>?_;have KX:=hY w _ Y;obtain⟨fd,hb,hF⟩:=F w mg fa _ KX G.T.g ft;exact NK KX G.T.g G.T.b G.T.builtins G.T.nolimit hg gp d6 (aJ aT fq) hr hF hb (λH hO hS=>dA w H a ns aT hO hS) λH e s'=>l0 w H s₁ e s'
end L2

namespace L2
open PySem PySem.Spec PyProof.Rows
abbrev CX0:CXT:=λ_ _ _ _ _ _=>False
abbrev E0:XK:=λ_ _ _=>False
theorem Eb{X:Cx} : Passes CX0 X E0:=λ_ _ _ _ _ _ _ h=>h.elim
structure Fun(K:Frag)(x ac:Str)(st:Stmt)(f:Addr)(fd:FuncData):Prop where
 ex:∃(oc:Value)(od:Ω)(kV bj pm:Value)(an:Ω)(af ct:Value)(cc:Array (Ψ)),
  fd=PySem.W.fnOf x ac (fK st) (cR st) (bw st) .none kV bj pm an af ct/\K.lookup f=some ⟨oc,od,.func fd,cc⟩/\codeIn K af ac=true
 kp:keepIn K (.ref f)=true
section
variable{P:Program}{w:World}{K:Frag}{mg:Str->Ψ}{base:Heap}
theorem Fun.ok{x ac:Str}{st:Stmt}{f:Addr}{fd:FuncData}{N ps:Θ}{k:Nat}{sp:Sp}(F:Fun K x ac st f fd)(S:bG N ps (bw st))(len:∀vs H Q E,sp vs H Q E->vs.length=ps.length)
 (a6:∀(af:Value)(A:Around)(outer:List Env)(s:Shared)(H:Hp)(vs:Β)(Q:VK)(E:XK),cA k (A.deeper (envOfC ac (bw st) s.heap.objs.size f af))->sp vs H Q E ->
   ∃t,PSs (n_ CX0 P w K mg base N ac (bw st) f af A outer s H E).nox (cR st) t/\t { nx:=λ_ H'=>Q .non H',rt:=Q } (start N vs) H):cH P w K mg base CX0 (k+1) f fd ps sp:=by
 obtain⟨oc,od,kV,bj,pm,an,af,ct,cc,rfl,lk,a9⟩:=F.ex;refine Rt lk a9 S len λA outer s H vs Q E hr dA=>?_;obtain⟨t,h,q⟩:=a6 af A outer s H vs Q E hr dA;exact⟨t,h.nox,q⟩
theorem KR{x ac:Str}{st:Stmt}{f:Addr}{oc:Value}{od an:Ω}{cc:Array (Ψ)}{kV bj pm af ct:Value}(l:K.lookup f=some ⟨oc,od,.func (PySem.W.fnOf x ac (fK st) (cR st) (bw st) .none kV bj pm an af ct),cc⟩)
 (c:codeIn K af ac=true)(k:keepIn K (.ref f)=true):Fun K x ac st f (PySem.W.fnOf x ac (fK st) (cR st) (bw st) .none kV bj pm an af ct):=⟨⟨oc,od,kV,bj,pm,an,af,ct,cc,rfl,l,c⟩,k⟩
end
theorem oE{A:Around}{k:Nat}(hr:cA k A):A.units+1<cLine:=Y3 (Nat.add_le_add_left (by decide:1<=64) _) hr.units
section
variable{X:Cx}
def lR(sc:Scope)(x:Str):Bool:=(sc.names.lookup x).any λk=>k == .local || k == .cell || k == .free
theorem Ud{sc:Scope}{x:Str}(h:lR sc x=true):Vis sc x:=by
 unfold lR at h;unfold Vis;cases e:sc.names.lookup x with
 |none=>rw[e]at h;cases h
 |some k=>rw[e]at h;cases k<;>first|exact .inl rfl|exact .inr (.inl rfl)|exact .inr (.inr rfl)|cases h
theorem pv(i:Nat){x:Str}{pos:Pos}(hN:X.N[i]?=some x:=by rfl)(hv:lR X.env.scope x=true:=by rfl)(hd:qq x:=by decide)
 (a9:qk x:=by decide):PE X (.Name x pos) (P0 i):=Ur hN (Ud hv) hd a9
end
theorem aao{A B:Prop}(h:B):if false=true then A else B:=by
 rw[ZZ aX];exact h
theorem Z2{A B:Prop}(h:A):if true=true then A else B:=by
 rw[ZY rfl];exact h
def Same(H H':Hp):Prop:=∀b o,H b=some o->H' b=some o
theorem Same.refl(H:Hp):Same H H:=λ_ _ h=>h
theorem Same.trans{H H1 H2:Hp}(a:Same H H1)(b:Same H1 H2):Same H H2:=λc o h=>b c o (a c o h)
theorem Same.free{H H':Hp}(e:Same H H'){l:Addr}(h:H' l=Option.none):H l=Option.none:=by
 cases q:H l with
 |none=>rfl
 |some o =>
  rw[e l o q]at h;cases h
theorem Same.seq{K:Frag}{H H':Hp}{a:Addr}{xs:Β}(e:Same H H')(h:SqL K H a xs):SqL K H' a xs:=by
 rcases h with(h|⟨o,h⟩)|h
 .exact .inl (.inl (e _ _ h))
 .exact .inl (.inr ⟨o,e _ _ h⟩)
 .exact .inr h
def Bd(i:Int):Prop:=i.natAbs<2^8000
theorem Bd.log2{i:Int}(h:Bd i):i.natAbs.log2<8000:=by
 by_cases h0:i.natAbs=0
 .rw[h0,Nat.log2_zero];exact Nat.succ_pos _
 .exact(Nat.log2_lt h0).mpr h
theorem Bd.bits{i:Int}(h:Bd i):Builtin.Int.intBits i<=2^20:=by
 have e:(2:Nat)^20=1048576:=by decide
 have:=h.log2;unfold Builtin.Int.intBits;split
 .exact aV _
 .lia
section
variable{X:Cx}
theorem PN:OpR X (binaryOp .Mult) (rI (λi j=>Bd i/\Bd j) λi j=>.int (i*j)):=opI λ_ _ _ _ _ _ _ hc q=>mul_int q (.of_bits hc.1.bits hc.2.bits)
theorem Ml:OpR X (binaryOp .FloorDiv) (rI (λ_ j=>j≠0/\Bd j) λi j=>.int (i.fdiv j)):=opI λ_ _ _ _ _ _ _ hc q=>floordiv_int hc.1 q (.inl (PyProof.noPylong_of_log2 (by have:=hc.2.log2;exact WJ this (by decide))))
theorem Dl:d7 X (.builtin "isinstance") (λxs H Q=>∃x c cv t b,xs=[x,c]/\((∃T,c=.ty T/\cv=Value.type T)\/∃C,c=.ref C/\cv=Value.ref C)/\rW X.K H x t/\kitOne X.K t cv=some b/\Q (.bl b) H):=by
 intro aa s σ H xs us Q I r h;obtain⟨x,c,cv,t,b,rfl,rc,ty,e,q⟩:=h;obtain⟨u,v,rfl,ru,rv⟩:=r.two;have e2:v=cv:=by
  rcases rc with⟨T,rfl,rfl⟩|⟨T,rfl,rfl⟩
  .exact rv
  .exact rv
 subst e2;exact Iz I ru ty e λtk=>⟨.bl b,H,I.tok _,rfl,q⟩
theorem Ea:d7 X (.builtin "sorted") (λxs H Q=>∃l ns,xs=[.ref l]/\SqL X.K H l (ns.map V.int)/\ns.length<64/\∀(ms:List Int)p,H p=none->ms.Perm ns->ms.Pairwise (· <= ·)->Q (.ref p) (upd H p (.lst (ms.map V.int)))):=by
 intro aa s σ H xs us Q I r h;obtain⟨l,ns,rfl,hl,h64,q⟩:=h;obtain⟨u,rfl,ru⟩:=r.one;cases ru;obtain⟨its,rv,p,hz⟩:=I.list hl;have hI:=intsAre_of rv;have aT:its.length=ns.length:=by have:=rv.length;simpa using this.symm
 refine sorted_ints (vs:=its) p.isList hI (Y3 (Wp aT) h64) λout ns' a1 a2 a3=>?_;obtain⟨e,he⟩:=sortedAll_at s.heap its out;have bS:H (s.heap.objs.size+1)=none:=I.hok.fresh (Xs _);refine⟨.ref _,_,I.laid (a:=s.heap.objs.size+1) (o:=.lst (ns'.map V.int)) (t':=s.toks) (λb u e=>sortedAll_old e) (Xs _) ?_,rfl,q ns' _ bS a2 a3⟩;refine⟨?_,out.toList,e,rT a1,he⟩;rw[ak,a2.length_eq];rw[ak]at hz;exact hz
end
section
variable{prog:Program}{w:World}{A:Around}{E:Ξ}{s:Shared}
theorem yh{it t:Addr}{items:Array Value}(fm:t≠it):∀(n i:Nat)(s:Shared)(Q:Δ->Shared->Prop),s.heap.IsListIter it t i->PlainL s.heap t items->i+n<=items.size ->
  (∀h',h'.IsListIter it t (i+n)->Heap.SameBut it s.heap h'->Q ((items.toList.drop i).take n) { s with heap:=h' })->wpAny (model prog w) A (draw (.ref it) n) Q E s
 |0,i,s,Q,hit,_,_,hQ=>by
  show wpAny _ _ (pure []) Q E s;exact ZT (by simpa using hQ s.heap hit (Heap.SameBut.refl ..))
 |n+1,i,s,Q,hit,ht,hle,hQ=>by
  have eW:i<items.size:=by lia
  show wpAny _ _ (pyNext (.ref it) >>= _) Q E s;refine ZU (wpAny_pyNext_list_item hit ht.isList (x:=items[i]) (by simp[eW]) λh₁ gv ik=>?_);have kN:PlainL h₁ t items:=by
   obtain⟨o,k,e,r⟩:=ht;exact⟨o,k,(ik.2 t fm).trans e,r⟩
  refine ZU (wpAny_holding (yh fm n (i+1) _ _ gv kN (by lia) λh₂ k8 hs₂=>ZT ?_));have hd:items.toList.drop i=items[i]::items.toList.drop (i+1):=by simp[UR,eW]
  have:=hQ h₂ (by rw[show i+(n+1)=i+1+n by lia];exact k8) (ik.trans hs₂);rw[hd,List.take_succ_cons]at this;exact this
theorem rG{t:Addr}{items:Array Value}{Q:Δ->Shared->Prop}(hh:A.handled=none)(ht:PlainL s.heap t items)
 (hQ:∀h',Heap.ExtBut s.heap.objs.size s.heap h'->Q items.toList { s with heap:=h' }):wpAny (model prog w) A (unpackItems (.ref t) items.size none) Q E s:=by
 have eW:t≠s.heap.objs.size:=by obtain⟨o,_,ho,_⟩:=ht;exact aN (aH ho)
 unfold unpackItems;refine ZU ?_
 .unfold notIterableAtAll;refine ZU (wpAny_specialOf ht.isList.typeIs slot_list_iter.lookup ?_);refine ZT ?_;simp only[XY,if_false];refine ZU (wpAny_holding (wpAny_pyIter_list ht.isList ?_));have ht0:PlainL (s.heap.push { cls:=.type "list_iterator",data:=.fields #[.ref t,.int 0 0] }) t items:=by
   obtain⟨o,k,e,r⟩:=ht;exact⟨o,k,aF _ e,r⟩
  refine ZU (wpAny_holding (yh eW items.size 0 _ _ ⟨_,aQ _ rfl,rfl,rfl⟩ ht0 (by lia) λh₁ gv ik=>?_));have gL:List.take items.size (List.drop 0 items.toList)=items.toList:=by
   rw[List.drop_zero];exact UQ (by simp)
  rw[gL];rw[ZZ (by simp)];have kN:PlainL h₁ t items:=by
   obtain⟨o,k,e,r⟩:=ht0;exact⟨o,k,(ik.2 t eW).trans e,r⟩
  refine ZU (wpAny_holding (wpAny_pyNext_list_end hh gv kN.isList (by simp) λh₂ he₂=>?_));simp only[Option.isSome_none,XY,if_false];refine ZT (hQ h₂ λb o hb e=>he₂ b o hb (ik.extBut b o hb (aF _ e)))
theorem qz{env:Env}{ff:List Expr}{x1}{pos:Pos}{t:Addr}{items:Array Value}{Q:Unit->Shared->Prop}(hh:A.handled=none)(ht:PlainL s.heap t items)
 (hn:(assignEach ff env).length=items.size)(im:(assignEach ff env).findIdx? (·.1)=none)
 (h:∀h',Heap.ExtBut s.heap.objs.size s.heap h'->wpAny (model prog w) A (assignInOrder ((assignEach ff env).map (·.2)) items.toList) Q E { s with heap:=h' }) :
  wpAny (model prog w) A (assign (.Tuple ff x1 pos) env (.ref t)) Q E s:=by
 rw[assign_Tuple];refine ZU (wpAny_standAt ?_);unfold unpack;rw[hn,im];exact ZU (wpAny_holding (rG hh ht h))
end
section
variable{X:Cx}{pos:Pos}
def ZG(K:Frag)(n:Nat)(t:TGs):TG:=λv σ H Q=>∃a xs,v=.ref a/\SqL K H a xs/\xs.length=n/\t xs σ H Q
theorem Q6{es:List Expr}{k:Nat}{t:TGs}{n:Nat}(hc:X.calm=true)(h:PGs X es t)
 (hn:(assignEach es X.env).length=n:=by rfl)(be:zw X es:=by rfl):PG X (.Tuple es k pos) (ZG X.K n t):=by
 intro aa s σ H v u Q I r hw;obtain⟨a,xs,e1,hq,hl,hw⟩:=hw;subst e1;cases r;obtain⟨its,rv,ht,hz⟩:=I.list hq;refine qz (I.ok.hd hc) ht (by simp[hn,<- hl,rv.length]) be λh' hx=>?_;have I1:Inv X aa σ H { s with heap:=h' }:=I.kept (t':=s.toks) λb o e=>hx b o (aN (aH e)) e;exact h aa _ σ H xs _ Q I1 (by simpa using rv) hw
end
theorem Same.upd{H:Hp}{p:Addr}{o:HO}(hp:H p=none):Same H (upd H p o):=λb u e=>by
 rw[bJ (gC e hp)];exact e
section
variable{X:Cx}
theorem IxR.imp{r r':R2}(h:IxR X r)(i:∀x y H Q,r' x y H Q->r x y H Q):IxR X r':=by
 intro b pos aa s σ H x y v u Q I rx ry q hs;exact h _ _ _ _ _ _ _ _ _ _ _ I rx ry (i _ _ _ _ q) hs
theorem d7.imp{f:Value}{r r':Β->Hp->VK->Prop}(h:d7 X f r)(i:∀xs H Q,r' xs H Q->r xs H Q):d7 X f r':=λaa s σ H xs us Q I rx q=>h aa s σ H xs us Q I rx (i _ _ _ q)
def tyS(H:Hp):V->Option String
 |.non=>some "NoneType"
 |.bl _=>some "bool"
 |.int _=>some "int"
 |.str _=>some "str"
 |.ref a=>match H a with
  |some (.lst _)=>some "list"
  |some (.tup _)=>some "tuple"
  |some (.dK _)=>some "dict"
  |_=>none
 |_=>none
theorem Ue{K:Frag}{H:Hp}{x:V}{t:String}(h:tyS H x=some t):rW K H x (.type t):=by
 cases x with
 |non=>cases h;exact .non
 |bl=>cases h;exact .bl _
 |int=>cases h;exact .int _
 |str=>cases h;exact .str _
 |byt=>cases h
 |flt=>cases h
 |ty=>cases h
 |ref a =>
  have h:(match H a with
   |some (.lst _)=>some "list"
   |some (.tup _)=>some "tuple"
   |some (.dK _)=>some "dict"
   |_=>none)=some t:=h
  split at h
  .cases h;exact .lst (by assumption)
  .cases h;exact .tup (by assumption)
  .cases h;exact .dK (by assumption)
  .cases h
def zY(t T:String):Bool:=(t==T) || (t=="bool" && T=="int")
theorem G9{K:Frag}{t T:String}(ht:t∈["NoneType","bool","int","str","list","tuple","dict"])(hT:T∈["bool","int","str","list","tuple","dict"]):kitOne K (.type t) (.type T)=some (zY t T):=by
 simp only[YU,List.not_mem_nil,or_false]at ht hT;rcases ht with rfl|rfl|rfl|rfl|rfl|rfl|rfl<;>rcases hT with rfl|rfl|rfl|rfl|rfl|rfl<;>with_unfolding_all rfl
theorem R_{H:Hp}{x:V}{t:String}(h:tyS H x=some t):t∈["NoneType","bool","int","str","list","tuple","dict"]:=by
 cases x with
 |non=>cases h;decide
 |bl=>cases h;decide
 |int=>cases h;decide
 |str=>cases h;decide
 |byt=>cases h
 |flt=>cases h
 |ty=>cases h
 |ref a =>
  have h:(match H a with
   |some (.lst _)=>some "list"
   |some (.tup _)=>some "tuple"
   |some (.dK _)=>some "dict"
   |_=>none)=some t:=h
  split at h<;>cases h<;>decide
def aaq:Β->Hp->VK->Prop:=λxs H Q=>∃x T t,xs=[x,.ty T]/\T∈["bool","int","str","list","tuple","dict"]/\tyS H x=some t/\Q (.bl (zY t T)) H
theorem mG:d7 X (.builtin "isinstance") aaq:=Dl.imp λxs H Q hP=>by obtain⟨x,T,t,a,b,c,d⟩:=hP;exact⟨x,.ty T,.type T,.type t,_,a,.inl ⟨T,rfl,rfl⟩,Ue c,G9 (R_ c) b,d⟩
theorem PG.imp{e:Expr}{t t':TG}(h:PG X e t)(i:∀v σ H Q,t' v σ H Q->t v σ H Q):PG X e t':=λaa s σ H v u Q I r q=>h aa s σ H v u Q I r (i _ _ _ _ q)
def V2:Β->Hp->VK->Prop:=λxs H Q=>∃l ns,xs=[.ref l]/\H l=some (.lst (ns.map V.int))/\ns.length<64/\∀(ms:List Int)p,H p=none->ms.Perm ns->ms.Pairwise (· <= ·)->Q (.ref p) (upd H p (.lst (ms.map V.int)))
theorem JX:d7 X (.builtin "sorted") V2:=Ea.imp λxs H Q hP=>by obtain⟨l,ns,a,b,c⟩:=hP;exact⟨l,ns,a,.of b,c⟩
end
def OkF(P:Program)(w:World)(K:Frag)(mg:Str->Ψ)(base:Heap)(k:Nat)(x:Str)(ps:Θ)(sp:Sp):Prop :=
 ∃f fd,cH P w K mg base CX0 k f fd ps sp/\Binds K fd ps []/\mg x=some (.ref f)/\keepIn K (.ref f)=true
def dO(K:Frag)(mg:Str->Ψ)(x:Str)(st:Stmt)(ps:Θ):Prop :=
 ∃f fd,Fun K x x st f fd/\(∀us:Δ,us.length=ps.length->bindArgs fd ⟨us,[]⟩=pure (ps.zip us))/\mg x=some (.ref f)
theorem dO.ok{P:Program}{w:World}{K:Frag}{mg:Str->Ψ}{base:Heap}{k:Nat}{x:Str}{st:Stmt}{ps:Θ}{sp:Sp}(h:dO K mg x st ps)
 (hf:∀f fd,Fun K x x st f fd->cH P w K mg base CX0 k f fd ps sp):OkF P w K mg base k x ps sp:=by
 obtain⟨f,fd,a,b,c⟩:=h;exact⟨f,fd,hf f fd a,.all b,c,a.kp⟩
theorem Qd{K:Frag}{h:Heap}{mg:Str->Ψ}{x:Str}{st:Stmt}{ps:Θ}{f:Addr}{oc:Value}{od an:Ω}{cc:Array (Ψ)}{kV bj pm af ct:Value}(X:K.In h)(G:h.Ns mainGlobals mg)
 (a:nsIn K mainGlobals x=some (some (.ref f)))(l:K.lookup f=some ⟨oc,od,.func (PySem.W.fnOf x x (fK st) (cR st) (bw st) .none kV bj pm an af ct),cc⟩)
 (c:codeIn K af x=true)(k:keepIn K (.ref f)=true)
 (hb:∀(kV bj pm:Value)(an:Ω)(af ct:Value)(us:Δ),us.length=ps.length->bindArgs (PySem.W.fnOf x x (fK st) (cR st) (bw st) .none kV bj pm an af ct) ⟨us,[]⟩=pure (ps.zip us)):dO K mg x st ps :=
 ⟨f,_,KR l c k,hb kV bj pm an af ct,mg_of X G a⟩
def HB(K:Frag):Sp:=λvs H Q _=>∃(a:Addr)(ns:List Int),vs=[.ref a]/\SqL K H a (ns.map V.int)/\ns.length<=63/\Only H/\∀H',Q (.bl true) H'
theorem V_{l:PySem.W.OpenLaw}{k:Nat}{x:Str}{q:Program}{loose:Θ}{XP:(Str->Ψ)->Heap->Prop}{YP:World->Heap->Prop}{d:DefRec}{K:Params->Frag}(hn:l.most=some 63)(iP:d.params.defaults=[])
 (hr:cA k callerA)(hY:∀(w:World)(h:Heap),YP w h->(K w.params).In h)
 (F:∀(w:World)(mg:Str->Ψ)(fa:Addr)(h:Heap),(K w.params).In h->h.Ns mainGlobals mg->mg d.name=some (.ref fa) ->
   ∃st,dO (K w.params) mg d.name st [x]/\∀(base:Heap)(f:Addr)(fd:FuncData),Fun (K w.params) d.name d.name st f fd->cH l.prog w (K w.params) mg base CX0 k f fd [x] (HB (K w.params))) :
  PySem.W.WalkO q loose XP YP l.row.toRowW d [] (λf vs=>PySem.call f vs):=by
 refine L2.Hi (n:=63) (k:=k) (x:=x) (CX:=λ_=>CX0) (sp:=λw=>HB (K w.params)) hn (by decide) iP hr hY (λw mg fa h KX G ft=>?_) (λ_ _ a ns hl hO hS=>⟨a,ns,rfl,hS,hl,hO,λ_=>rfl⟩) λ_ _ _ _ _ z=>z;obtain⟨st,⟨f,fd,hf,hb,hm⟩,ok⟩:=F w mg fa h KX G ft;rw[hm]at ft;have e:f=fa:=by injection ft with z;injection z
 subst e;exact⟨fd,λs u=>.of_eq (hb [u] rfl),λbase _ _=>ok base f fd hf⟩
section
variable{X:Cx}{p pos:Pos}{e:Expr}{es:List Expr}{t:TA}{x:Str}{k:Nat}{ps:Θ}{sp:Sp}
def Eu(sp:Sp)(t:TA):TE:=λσ H Q=>t σ H λvs H1=>sp vs H1 Q E0
theorem M5(G:OkF X.prog X.w X.K X.mg X.base k x ps sp)(hr:cA k X.A)(hg:Gl X x)(ha:PA X (e::es) t)(aI:qq x:=by decide)
 (he:qf X e es:=by rfl)(aE:qo X pos es:=by rfl):PE X (.Call (.Name x p) (e::es) [] pos) (Eu sp t):=by
 obtain⟨f,fd,F,b,hm,kp⟩:=G;intro aa s σ H Q I h;refine O5 F hr hg hm kp b .nil Eb ha aI he aE aa s σ H Q I ?_;show t σ H λvs H1=>sp (vs++[]) H1 Q E0;simp only[List.append_nil];exact h
end
theorem Um(a:Int):(if a<0 then -a else a)=((a.natAbs:Nat):Int):=by split<;>omega
def TrD(h base:Heap)(e:Addr)(cls:Value)(d:Ω)(fl:Value):Prop :=
 ∃oe vs T oT ts,h.get? e=some oe/\(oe.cls=cls/\oe.dict=d)/\oe.data=.fields vs/\vs[1]?=some (.ref T)/\base.get? T=none/\T≠e/\h.get? T=some oT/\oT.data=.fields ts/\ts[3]?=some fl
def iK(base:Heap)(l:List Env)(e:Addr)(cls:Value)(d:Ω)(fl:Value)(h:Heap):Prop :=
 base.StaysIn h/\base.get? e=none/\h.FunFrames base l/\TrD h base e cls d fl
theorem iK.first{base h:Heap}{l:List Env}{e:Addr}{cls fl:Value}{d:Ω}(x:iK base l e cls d fl h):∃oe vs,h.get? e=some oe/\oe.cls=cls/\oe.dict=d/\oe.data=.fields vs :=
 by obtain⟨_,_,_,oe,vs,_,_,_,he,hc,hd,_⟩:=x;exact⟨oe,vs,he,hc.1,hc.2,hd⟩
section
variable{M:Model}{A:Around}{E:Ξ}{s:Shared}{base:Heap}{env:Env}{outer l:List Env}{L e:Addr}{cls:Value}{d:Ω}{Q:Unit->Shared->Prop}
theorem u5(o:Obj)(f:Array Value->Array Value):(Obj.mapFields f o).dict=o.dict:=by
 unfold Obj.mapFields;split<;>rfl
theorem Gh{oe:Obj}{vs:Array Value}{head:Value}{fe:Bool}(bS:A.frames=some (env::outer))(hl:s.heap.FunFrames base (env::outer))(hf:env.frame=some L)(he:s.heap.get? e=some oe)
 (cr:base.StaysIn s.heap)(cx:base.get? e=none)(hd:oe.data=.fields vs)(hsz:1<vs.size)(h:∀h',iK base (env::outer) e oe.cls oe.dict (rawInt L) h'->s.heap.UpToSlots h'->Q () { s with heap:=h' }) :
  wpAny M A (do let a <- frameOf env;let pl <- entryPlaceOf L fe;let b <- EntryCells.newEntry head a .none (rawInt L) .none pl;setField (.ref e) 1 b) Q E s:=by
 have nofr:e∉(env::outer).filterMap (·.frame):=λz=>by
  obtain⟨_,o,ho,hnf⟩:=hl.mem z;rw[he]at ho;cases ho;exact hnf vs hd
 refine ZU (wpAny_frameOf_fun bS hl hf λg hg=>ZU (wpAny_entryPlaceOf λpl aE=>?_));unfold EntryCells.newEntry newFields;refine ZU (wpAny_newObj_type ?_ (aE.sizeOk5 _ _ _ _ _));have eg:g.get? e=some oe:=(hg.2.1 e nofr).trans he;have kg:base.StaysIn g:=λb o q=>(hg.2.1 b λz=>by rw[(hl.mem z).1]at q;cases q).trans (cr b o q);generalize bX:({ cls:=.type "traceback",dict:=none,data:=.fields ([head,.ref L,.none,rawInt L,.none]++(if pl.isEmpty then List.replicate 6 Value.none else pl)).toArray } : Obj)=ot;have cK:g.objs.size≠e:=VW (aH eg);have e2:(g.push ot).get? e=some oe:=aF _ eg;refine wpAny_setField e2 hd hsz (h _ ?_ ?_)
 all_goals
  have d3:=Obj.data_mapFields hd (·.setIfInBounds 1 (Value.ref g.objs.size));have e3:=Heap.get?_update_self (Obj.mapFields (·.setIfInBounds 1 (Value.ref g.objs.size))) e2 (Obj.isFreed_of_fields d3);have keep:∀b o,b≠e->g.get? b=some o->((g.push ot).update e (Obj.mapFields (·.setIfInBounds 1 (Value.ref g.objs.size)))).get? b=some o:=λb o nb q=>by
   rw[Heap.get?_update_other _ _ (Ne.symm nb)];exact aF _ q
  have nr:∀b o,s.heap.get? b=some o->(∀ws,o.data≠.fields ws)->b≠e:=λb o q nf z=>by
   rw[z,he]at q;cases q;exact nf vs hd
 .refine⟨λb o q=>keep b o (λz=>by rw[z,cx]at q;cases q) (kg b o q),cx,hl.of_keeps λb o q nf=>?_,?_⟩
  .obtain⟨sl,z⟩:=hg.2.2 b o q;exact⟨_,keep b _ (nr b o q nf) z,rfl⟩
  .refine⟨_,_,g.objs.size,ot,_,e3,⟨Obj.cls_mapFields _ _,u5 _ _⟩,d3,by simp[hsz],kg.fresh,cK,?_,by rw[<- bX],?_⟩
   .rw[Heap.get?_update_other _ _ (Ne.symm cK)];exact aQ g (by rw[<- bX];rfl)
   .first|(simp;done)|(rcases aE with rfl|⟨_,_,_,_,_,_,_,rfl⟩<;>simp)
 .intro b o q nf;obtain⟨sl,z⟩:=hg.2.2 b o q;exact⟨sl,keep b _ (nr b o q nf) z⟩
theorem Ew{oe:Obj}{vs:Array Value}(bS:A.frames=some (env::outer))(hl:s.heap.FunFrames base (env::outer))(hf:env.frame=some L)(he:s.heap.get? e=some oe)
 (cr:base.StaysIn s.heap)(cx:base.get? e=none)(hd:oe.data=.fields vs)(h1:vs[1]?=some .none)(h:∀h',iK base (env::outer) e oe.cls oe.dict (rawInt L) h'->s.heap.UpToSlots h'->Q () { s with heap:=h' }) :
  wpAny M A (noteFrame (.ref e) env) Q E s:=by
 unfold noteFrame;simp only[hf];refine ZU (wpAny_field he hd h1 ?_);rw[ZZ (by decide)];exact Gh bS hl hf he cr cx hd (Array.getElem?_eq_some_iff.mp h1).1 h
theorem yC(bS:A.frames=some (env::outer))(hf:env.frame=some L)(x:iK base (env::outer) e cls d .none s.heap)
 (h:∀h',iK base (env::outer) e cls d (rawInt L) h'->s.heap.UpToSlots h'->Q () { s with heap:=h' }):wpAny M A (noteFrame (.ref e) env) Q E s:=by
 obtain⟨cr,cx,hl,oe,vs,T,oT,ts,he,⟨hc,lv⟩,hd,h1,nT,cK,hT,b7,h3⟩:=x;subst hc lv;unfold noteFrame;simp only[hf];refine ZU (wpAny_field he hd h1 ?_);rw[ZY (show(Value.ref T != Value.none)=true from by simp)];refine ZU (wpAny_field hT b7 h3 ?_);rw[ZZ (show ¬((Value.none==rawInt L)=true)from by simp[rawInt])];refine ZU (wpAny_setField hT b7 (Array.getElem?_eq_some_iff.mp h3).1 ?_);have ar:∀b,b≠T->(s.heap.update T (Obj.mapFields (·.setIfInBounds 3 Value.none))).get? b=s.heap.get? b:=λb hb=>Heap.get?_update_other _ _ (Ne.symm hb);have nr:∀b o,s.heap.get? b=some o->(∀ws,o.data≠.fields ws)->b≠T:=λb o q nf z=>by
  rw[z,hT]at q;cases q;exact nf ts b7
 refine Gh (s:={ s with heap:=_ }) bS (hl.of_keeps λb o q nf=>⟨o,(ar b (nr b o q nf)).trans q,rfl⟩) hf ((ar e (Ne.symm cK)).trans he)
  (λb o q=>(ar b λz=>by rw[z,nT]at q;cases q).trans (cr b o q)) cx hd (Array.getElem?_eq_some_iff.mp h1).1 λh' y up=>h h' y λb o q nf=>up b o ((ar b (nr b o q nf)).trans q) nf
theorem Io{fl:Value}(x:iK base l e cls d fl s.heap)(h:∀h',iK base l e cls d .none h'->s.heap.UpToSlots h'->Q () { s with heap:=h' }):wpAny M A (setFlight (.ref e) none) Q E s:=by
 obtain⟨cr,cx,hl,oe,vs,T,oT,ts,he,hc,hd,h1,nT,cK,hT,b7,h3⟩:=x;have z3:3<ts.size:=(Array.getElem?_eq_some_iff.mp h3).1;have ar:∀b,b≠T->(s.heap.update T (Obj.mapFields (·.setIfInBounds 3 ((none:Ω).elim Value.none λf=>rawInt f)))).get? b=s.heap.get? b:=λb hb=>Heap.get?_update_other _ _ (Ne.symm hb);have nr:∀b o,s.heap.get? b=some o->(∀ws,o.data≠.fields ws)->b≠T:=λb o q nf z=>by
  rw[z,hT]at q;cases q;exact nf ts b7
 unfold setFlight;refine ZU (wpAny_field he hd h1 ?_);rw[ZY (show(Value.ref T != Value.none)=true from by simp)];refine wpAny_setField hT b7 z3 (h _ ⟨λb o q=>(ar b λz=>by rw[z,nT]at q;cases q).trans (cr b o q),cx,hl.of_keeps λb o q nf=>⟨o,(ar b (nr b o q nf)).trans q,rfl⟩,?_⟩ λb o q nf=>⟨o.slots,(ar b (nr b o q nf)).trans q⟩);exact⟨oe,vs,T,_,_,(ar e (Ne.symm cK)).trans he,hc,hd,h1,nT,cK,Heap.get?_update_self _ hT (Obj.isFreed_of_fields (Obj.data_mapFields b7 _)),Obj.data_mapFields b7 _,by simp[z3]⟩
theorem iK.pop{fl:Value}{h:Heap}(x:iK base (env::outer) e cls d fl h):iK base outer e cls d fl h:=⟨x.1,x.2.1,x.2.2.1.2.2,x.2.2.2⟩
theorem Ni(bS:A.frames=some (env::outer))(hf:env.frame=some L)(x:iK base (env::outer) e cls d .none s.heap)
 (h:∀h',iK base outer e cls d .none h'->s.heap.UpToSlots h'->Q () { s with heap:=h' }):wpAny M A (leaving env (.ref e)) Q E s:=by
 unfold leaving;exact ZU (yC bS hf x λh1 y up=>Io y λh2 z fg=>h h2 z.pop (up.trans fg))
theorem yw{h0:Heap}{oe:Obj}{vs:Array Value}(bS:A.frames=some (env::outer))(hf:env.frame=some L)(cr:base.StaysIn h0)(hl:h0.FunFrames base (env::outer))(df:∀b o,h0.get? b=some o->s.heap.get? b=some o)
 (new:h0.get? e=none)(he:s.heap.get? e=some oe)(hd:oe.data=.fields vs)(h1:vs[1]?=some .none)
 (h:∀h',iK base outer e oe.cls oe.dict .none h'->s.heap.UpToSlots h'->Q () { s with heap:=h' }):wpAny M A (leaving env (.ref e)) Q E s:=by
 have cx:base.get? e=none:=by
  cases q:base.get? e with
  |none=>rfl
  |some o=>have:=cr e o q;rw[new]at this;cases this
 unfold leaving;exact ZU (Ew bS (hl.of_keeps λb o q _=>⟨o,df b o q,rfl⟩) hf he (λb o q=>df b o (cr b o q)) cx hd h1 λh1 y up=>Io y λh2 z fg=>h h2 z.pop (up.trans fg))
end
theorem cX.there{P:Program}{w:World}{H:Hp}{h:Heap}{a:Addr}{o:HO}(x:cX P w H h a o):∃ob,h.get? a=some ob:=by
 cases o with
 |lst xs=>obtain⟨_,_,_,_,e⟩:=x;exact⟨_,e⟩
 |tup xs=>obtain⟨_,_,_,o,e,_⟩:=x;exact⟨_,e⟩
 |dK kvs=>obtain⟨_,_,_,_,o,_,_,e,_⟩:=x;exact⟨_,e⟩
 |set S n=>obtain⟨o,_,_,_,e,_⟩:=x;exact⟨_,e⟩
 |ins C dx fs=>obtain⟨_,_,_,e,_⟩:=x;exact⟨_,e⟩
 |own y=>exact x
 |xd fs=>obtain⟨_,⟨_,_,_,e,_⟩,_⟩:=x;exact⟨_,e⟩
 |rng lo hi=>obtain⟨_,_,_,e⟩:=x;exact⟨_,e⟩
 |frz ob u=>obtain⟨e,_⟩:=x;exact⟨_,e⟩
 |tbl ps=>exact⟨_,(show h.get? a=some _ from x)⟩
 |met f y=>exact⟨_,(show h.get? a=some _ from x)⟩
 |ext φ=>obtain⟨_,e,_⟩:=x;exact e
structure Fly(P:Program)(w:World)(l:List Env)(H:Hp)(s:Shared)(a:Addr)(C:Value)(H':Hp)(s':Shared)(B:Heap)(d:Ω):Prop where
 os:s'.os=s.os
 bare:AllBare s'.gens
 new:s.heap.get? a=none
 un:Un (frs l) [] H H' s.heap s'.heap
 hok:HOk P w H' s'.heap
 frf:∀b∈frs l,H' b=none
 fl:iK B l a C d .none s'.heap
 cov:∀b o,s'.heap.get? b=some o->b∉frs l->((∃u,s.heap.get? b=some u)\/∃u,H' b=some u)->B.get? b=some o
section
variable{P:Program}{w:World}{l:List Env}{H H':Hp}{s s':Shared}{a:Addr}{C:Value}{B:Heap}{d:Ω}{h':Heap}
theorem Fly.trk(F:Fly P w l H s a C H' s' B d){b:Addr}{u:HO}{o:Obj}(e:H' b=some u)(q:s'.heap.get? b=some o):B.get? b=some o :=
 F.cov b o q (λz=>by rw[F.frf b z]at e;cases e) (.inr ⟨u,e⟩)
theorem Fly.hok'(F:Fly P w l H s a C H' s' B d)(k:∀b o,B.get? b=some o->h'.get? b=some o):HOk P w H' h':=λb u e =>
 (F.hok b u e).stay (λc v hc q=>k c v (by
  rcases hc with z|z
  .subst z;exact F.trk e q
  .exact F.trk z q)) (λ_ q=>q) λ_ _ q=>q
theorem Fly.un'(F:Fly P w l H s a C H' s' B d)(k:∀b o,B.get? b=some o->h'.get? b=some o)(up:s'.heap.UpToSlots h'):Un (frs l) [] H H' s.heap h':=by
 have nf:∀b∈frs l,∀o,s'.heap.get? b=some o->∀vs,o.data≠.fields vs:=λb hb o e=>by
  obtain⟨_,o',e',d⟩:=F.fl.2.2.1.mem hb;rw[e]at e';cases e';exact d
 refine⟨λb o q n hb hx=>k b o (F.cov b o (F.un.keep b o q n hb hx) hb (.inl ⟨o,q⟩)),λb o q n hb hx=>?_,F.un.free,λb o q hx=>?_,F.un.tups,F.un.frzs,F.un.tbls⟩
 .obtain⟨sl,e⟩:=F.un.slot b o q n hb hx;obtain⟨eJ,e'⟩:=up b _ e (nf b hb _ e);exact⟨eJ,e'⟩
 .obtain⟨o',e⟩:=F.un.there b o q hx;by_cases hb:b∈frs l
  .obtain⟨eJ,e'⟩:=up b _ e (nf b hb _ e);exact⟨_,e'⟩
  .exact⟨o',k b o' (F.cov b o' e hb (.inl ⟨o,q⟩))⟩
end
section
variable{X:Cx}{aa:Γ}{σ:List (Option V)}{H H':Hp}{s s':Shared}{a:Addr}{C:Value}{B:Heap}{d:Ω}{h':Heap}
theorem Inv.flown(I:Inv X aa σ H s)(F:Fly X.prog X.w X.stack H s a C H' s' B d)(k:∀b o,B.get? b=some o->h'.get? b=some o)(up:s'.heap.UpToSlots h'):Inv X aa σ H' { s' with heap:=h' } :=
 I.call' (s':={ s' with heap:=h' }) (ch:=[]) F.os (F.un' k up) (F.hok' k) F.bare λ_ z=>nomatch z
theorem Inv.old(I:Inv X aa σ H s)(hx:X.ex=[]){b:Addr}{o:Obj}(e:X.s₀.heap.get? b=some o):(∃u,s.heap.get? b=some u)/\b≠X.env.locals:=by
 obtain⟨u,q⟩:=I.base.there b o e (by rw[hx];simp);exact⟨⟨u,q⟩,aN (aO (aH e) I.ok.above)⟩
theorem Inv.nostk(I:Inv X aa σ H s){b:Addr}(h1:b≠X.env.locals)(h2:b∉X.fs):b∉frs X.stack:=λz=>by
 rcases YU.mp (I.stkSub b z)with e|e
 .exact h1 e
 .exact h2 e
theorem Inv.flyOut(I:Inv X aa σ H s)(hx:X.ex=[])(F:Fly X.prog X.w X.stack H s a C H' s' B d)(fl:iK B X.outer a C d .none h')(up:s'.heap.UpToSlots h') :
  Fly X.prog X.w X.outer X.H₀ X.s₀ a C H' { s' with heap:=h' } B d:=by
 have J:=I.flown F fl.1 up;refine⟨J.os,J.bare,?_,by have:=J.base;rw[hx]at this;exact this,J.hok,λb hb=>?_,fl,λb o e hb hc=>?_⟩
 .cases q:X.s₀.heap.get? a with
  |none=>rfl
  |some o =>
   obtain⟨⟨u,z⟩,_⟩:=I.old hx q;rw[F.new]at z;cases z
 .obtain⟨_,o,ho,_⟩:=I.ok.funs.mem hb;exact J.base.free b o ho (I.ok.frf b hb) λz=>I.ok.exfs b z hb
 .rcases hc with⟨u,q⟩|⟨u,q⟩
  .obtain⟨⟨v,z⟩,n⟩:=I.old hx q;obtain⟨o',e'⟩:=F.un.there b v z (by simp);have y:=F.cov b o' e' (I.nostk n hb) (.inl ⟨v,z⟩);have e2:=fl.1 b o' y;rw[show({ s' with heap:=h' } : Shared).heap.get? b=h'.get? b from rfl,e2]at e;cases e;exact y
  .obtain⟨o',e'⟩:=(F.hok b u q).there;have y:=F.trk q e';have e2:=fl.1 b o' y;rw[show({ s' with heap:=h' } : Shared).heap.get? b=h'.get? b from rfl,e2]at e;cases e;exact y
theorem Inv.flyNew(I:Inv X aa σ H s)(hx:X.ex=[]){h1:Heap}{t:Nat}(df:∀b o,s.heap.get? b=some o->h1.get? b=some o)(new:s.heap.get? a=none)(hB:B=hideAll s.heap (frs X.stack))(fl:iK B X.outer a C d .none h')(up:h1.UpToSlots h') :
  Fly X.prog X.w X.outer X.H₀ X.s₀ a C H { s with heap:=h',toks:=t } B d:=by
 have eR:∀b o,s.heap.get? b=some o->b∉frs X.stack->B.get? b=some o:=λb o e n=>by rw[hB];exact hideAll_get _ e n
 have trk:∀b u o,H b=some u->s.heap.get? b=some o->B.get? b=some o:=λb u o e q=>eR b o q λz=>by
  rw[I.stkFree b z]at e;cases e
 have fg:s.heap.UpToSlots h':=(Heap.UpToSlots.of_keeps df).trans up;have nf:∀b∈frs X.stack,∀o,s.heap.get? b=some o->∀vs,o.data≠.fields vs:=λb hb o e=>by
  obtain⟨_,o',e',d⟩:=I.stack.mem hb;rw[e]at e';cases e';exact d
 have hok:HOk X.prog X.w H h':=λb u e=>(I.hok b u e).stay (λc v hc q=>fl.1 c v (by
  rcases hc with z|z
  .subst z;exact trk c u v e q
  .exact trk c _ v z q)) (λ_ q=>q) λ_ _ q=>q
 have un:Un (frs X.stack) [] H H s.heap h':=by
  refine⟨λb o q n hb _=>fl.1 b o (eR b o q hb),λb o q n hb _=>fg b o q (nf b hb o q),λ_ _ _ n _=>n,λb o q _=>?_,λ_ _ q=>q,λ_ _ _ q=>q,λ_ ps q=>⟨#[],by rw[q];simp⟩⟩;by_cases hb:b∈frs X.stack
  .obtain⟨sl,e⟩:=fg b o q (nf b hb o q);exact⟨_,e⟩
  .exact⟨o,fl.1 b o (eR b o q hb)⟩
 have J:Inv X aa σ H { s with heap:=h',toks:=t }:=I.call' (s':={ s with heap:=h',toks:=t }) (ch:=[]) rfl un hok I.bare λ_ z=>nomatch z
 refine⟨J.os,J.bare,?_,by have:=J.base;rw[hx]at this;exact this,J.hok,λb hb=>?_,fl,λb o e hb hc=>?_⟩
 .cases q:X.s₀.heap.get? a with
  |none=>rfl
  |some o =>
   obtain⟨⟨u,z⟩,_⟩:=I.old hx q;rw[new]at z;cases z
 .obtain⟨_,o,ho,_⟩:=I.ok.funs.mem hb;exact J.base.free b o ho (I.ok.frf b hb) λz=>I.ok.exfs b z hb
 .rcases hc with⟨u,q⟩|⟨u,q⟩
  .obtain⟨⟨v,z⟩,n⟩:=I.old hx q;have y:=eR b v z (I.nostk n hb);have e2:=fl.1 b v y;rw[show({ s with heap:=h',toks:=t } : Shared).heap.get? b=h'.get? b from rfl,e2]at e;cases e;exact y
  .obtain⟨o',e'⟩:=(I.hok b u q).there;have y:=trk b u o' q e';have e2:=fl.1 b o' y;rw[show({ s with heap:=h',toks:=t } : Shared).heap.get? b=h'.get? b from rfl,e2]at e;cases e;exact y
end
def CXO(P:Program)(w:World):CXT:=λl H s E e s'=>∃a C d H' B,e=.ref a/\Fly P w l H s a C H' s' B d/\E C d H'
def tD(X:Cx)(Ex:Value->Ω->L2.St->Hp->Prop):Prop :=
 ∀aa σ H s a C H' s' B d,Inv X aa σ H s->Fly X.prog X.w X.stack H s a C H' s' B d->Ex C d σ H'->X.xe (.ref a) s'
def La(X:Cx)(Ex:Value->Ω->L2.St->Hp->Prop):Prop :=
 ∀aa σ H s a C vs h1,Inv X aa σ H s->Heap.MadeExcOf s.heap h1 a C vs->Ex C none σ H->X.xe (.ref a) { s with heap:=h1 }
section
variable{P:Program}{w:World}{K:Frag}{mg:Str->Ψ}{base:Heap}{N:Θ}{ac:Str}{scope:Scope}{f:Addr}{cd:Value}{A:Around}{outer:List Env}{s:Shared}{H:Hp}{E:XK}
theorem Hu:tD (n_ (CXO P w) P w K mg base N ac scope f cd A outer s H E) (λC d _ H'=>E C d H'):=by
 intro aa σ H1 s1 a C H' s' B d I F q;show wpAny _ _ (leaving _ (.ref a)) _ _ _;refine Ni (outer:=outer) I.ok.frames rfl F.fl λh' fl up=>?_;exact⟨a,C,d,H',B,rfl,I.flyOut rfl F fl up,q⟩
theorem Cw:La (n_ (CXO P w) P w K mg base N ac scope f cd A outer s H E) (λC d _ H'=>E C d H'):=by
 intro aa σ H1 s1 a C vs h1 I M q;show wpAny _ _ (leaving _ (.ref a)) _ _ _;have eK:∀env∈(envOfC ac scope s.heap.objs.size f cd::outer),∀b,env.frame=some b->b∈frs (envOfC ac scope s.heap.objs.size f cd::outer):=λenv he b hb=>List.mem_filterMap.mpr ⟨env,he,hb⟩;obtain⟨t,he,_,_⟩:=M.there;refine yw (base:=hideAll s1.heap (frs (envOfC ac scope s.heap.objs.size f cd::outer))) (h0:=s1.heap) (outer:=outer) I.ok.frames rfl (λb o q=>of_hideAll _ q) (PySem.W.funFrames_hide I.stack eK) M.keeps M.new he rfl rfl λh' fl up=>?_;exact⟨a,C,none,H1,_,rfl,I.flyNew rfl M.keeps M.new rfl fl up,q⟩
end
section
variable{P:Program}{w:World}{K:Frag}{mg:Str->Ψ}{base:Heap}
theorem Fun.okX{x ac:Str}{st:Stmt}{f:Addr}{fd:FuncData}{N ps:Θ}{k:Nat}{sp:Sp}(F:Fun K x ac st f fd)(S:bG N ps (bw st))(len:∀vs H Q E,sp vs H Q E->vs.length=ps.length)
 (a6:∀(af:Value)(A:Around)(outer:List Env)(s:Shared)(H:Hp)(vs:Β)(Q:VK)(E:XK),cA k (A.deeper (envOfC ac (bw st) s.heap.objs.size f af))->sp vs H Q E ->
   ∃t,PSs (n_ (CXO P w) P w K mg base N ac (bw st) f af A outer s H E) (cR st) t/\t { nx:=λ_ H'=>Q .non H',rt:=Q } (L2.start N vs) H):cH P w K mg base (CXO P w) (k+1) f fd ps sp:=by
 obtain⟨oc,od,kV,bj,pm,an,af,ct,cc,rfl,lk,a9⟩:=F.ex;exact Rt lk a9 S len λA outer s H vs Q E hr dA=>a6 af A outer s H vs Q E hr dA
def OkX(P:Program)(w:World)(K:Frag)(mg:Str->Ψ)(base:Heap)(k:Nat)(x:Str)(ps:Θ)(sp:Sp):Prop :=
 ∃f fd,cH P w K mg base (CXO P w) k f fd ps sp/\Binds K fd ps []/\mg x=some (.ref f)/\keepIn K (.ref f)=true
theorem dO.okX{k:Nat}{x:Str}{st:Stmt}{ps:Θ}{sp:Sp}(h:dO K mg x st ps)
 (hf:∀f fd,Fun K x x st f fd->cH P w K mg base (CXO P w) k f fd ps sp):OkX P w K mg base k x ps sp:=by
 obtain⟨f,fd,a,b,c⟩:=h;exact⟨f,fd,hf f fd a,.all b,c,a.kp⟩
end
section
variable{X:Cx}{p pos:Pos}{e:Expr}{es:List Expr}{t:TA}{x:Str}{k:Nat}{ps:Θ}{sp:Sp}{Ex:Value->Ω->L2.St->Hp->Prop}
def Ng(sp:Sp)(Ex:Value->Ω->L2.St->Hp->Prop)(t:TA):TE:=λσ H Q=>t σ H λvs H1=>sp vs H1 Q λC d H'=>Ex C d σ H'
theorem wR(G:OkX X.prog X.w X.K X.mg X.base k x ps sp)(hr:cA k X.A)(hg:Gl X x)(hx:tD X Ex)(ha:PA X (e::es) t)(aI:qq x:=by decide)
 (he:qf X e es:=by rfl)(aE:qo X pos es:=by rfl):PE X (.Call (.Name x p) (e::es) [] pos) (Ng sp Ex t):=by
 obtain⟨f,fd,F,hb,hm,kp⟩:=G;intro aa s σ H Q I h;refine wpAny_Call_Name_kw (iB I hg hm ?_ aI);refine callWith_K (h₀:=X.base) I.ok.mod.kin kp (thn (ha pos aa s σ H _ I h) λus s1 ⟨vs,H1,I1,r,q⟩=>⟨I1.kIn,?_⟩) he aE;have hl:us.length=ps.length:=by rw[<- r.length];exact F.len _ _ _ _ q
 have fc:=hb s1 us I1.kIn (by simpa using hl);simp only[List.append_nil]at fc;refine wpAny_call (codeAny_mono (F.run X.A X.stack s1 H1 ⟨us,[]⟩ us vs Q _ hr I1.env0 fc r q) λr s' hq=>?_);cases r with
 |error e =>
  obtain⟨a,C,d,H',B,rfl,Fl,q'⟩:=hq;exact hx aa σ H1 s1 a C H' s' B d I1 Fl q'
 |ok fl =>
  cases fl with
  |ret u=>exact I1.after hq
  |next=>exact False.elim hq
  |brk=>exact False.elim hq
  |cont=>exact False.elim hq
end
abbrev bmV:Δ:=[.type "ValueError",.type "Exception",.type "BaseException",.type "object"]
def Ck(K:Frag)(C:Addr):Prop:=excIn K C bmV "ValueError.__new__"=true
theorem Ho{K:Frag}{h:Heap}{C:Addr}(X:K.In h)(q:Ck K C):∃bm N nm qn bs hdct sn sub ab col dd k0 k1 k2 k3 k5 mN,h.get? C=some (excClassObj nm qn C N bs bm hdct sn sub ab col dd k0 k1 k2 k3 k5 "ValueError.__new__") /\
  h.Ns N mN/\mN "__init__"=none/\OwnTail h bmV bm:=by
 unfold Ck excIn at q;split at q
 .rename_i dd cd sl ho
  split at q
  .rename_i C' bm k0 k1 k2 k3 n k5 hm hs
   simp only[UT,beq_iff_eq,Bool.not_eq_true']at q;obtain⟨⟨⟨⟨⟨rfl,rfl⟩,iS⟩,ht⟩,hok⟩,kf⟩:=q;obtain⟨nm,bs,mro,ns,qn,hd,sn,sub,ab,col,del⟩:=cd;dsimp only at hm iS hok kf;subst hm iS;have hsl:sl = #[k0,k1,k2,k3,some (.builtin "ValueError.__new__"),k5]:=by
    obtain⟨l⟩:=sl;simp only at hs;rw[hs]
   subst hsl;exact⟨bm,ns,nm,qn,bs,hd,sn,sub,ab,col,dd,k0,k1,k2,k3,k5,_,X _ _ ho,.of_isNs (isNs_of_in X hok),PySem.W.nsMap_none_of_in X hok kf,PySem.W.tail_of_in X ht⟩
  .cases q
 .cases q
section
variable{X:Cx}{x:Str}{np cpos pos:Pos}{e₀:Expr}{rest:List Expr}{ta:TA}{C:Addr}{Ex:Value->Ω->L2.St->Hp->Prop}
def S8(C:Addr)(Ex:Value->Ω->L2.St->Hp->Prop)(ta:TA):TS:=λ_ σ H=>ta σ H λvs H1=>vs.length<=sizeLine/\Ex (.ref C) none σ H1
theorem J3(hc:X.calm=true)(hg:Gl X x)(hm:X.mg x=some (.ref C))(q:Ck X.K C)(hx:La X Ex)(ha:PA X (e₀::rest) ta)(hd:qq x:=by decide)
 (he:qf X e₀ rest:=by rfl)(c5:qo X cpos rest:=by rfl) :
  PS X (.Raise (some (.Call (.Name x np) (e₀::rest) [] cpos)) none pos) (S8 C Ex ta):=by
 intro aa s σ H D I h;obtain⟨tl,N,nm,qn,bs,hdct,sn,sub,ab,col,dd,k0,k1,k2,k3,k5,mN,hC,hN,kf,T⟩:=Ho I.ok.mod.kin q;have FB:=PySem.F.excBase_ValueError;refine wpAny_Raise_call_subT (C:=C) (nm:=nm) (q:=qn) (N:=N) (bs:=bs) (bm:=tl) (hdct:=hdct) (sn:=sn) (sub:=sub) (ab:=ab) (col:=col) (dd:=dd) (k0:=k0) (k1:=k1) (k2:=k2) (k3:=k3) (k5:=k5)
  FB (mN:=mN) (T.hasType FB.hasBase) (I.ok.hd hc) (by rw[he];show(false || (backTo cpos (starEach rest X.env)).any (·.1))=false;rw[c5];rfl) kf (iB I hg hm ⟨rfl,?_⟩ hd)
 have h2:=ha cpos aa s σ H _ I h;rw[he]at h2 ⊢;exact Calls.evalArgs_plain (wpAny_mono h2 (λus s₂ hP=>by obtain⟨vs,H1,I1,r,hl,ex⟩:=hP;exact⟨rfl,by rw[<- r.length];exact hl,I1.bk _ _ hC,hN.keeps I1.bk,T.keeps I1.bk,λh' e M=>hx aa σ H1 s₂ e _ us h' I1 M ex⟩) λ_ _ y=>y)
end
abbrev Cx.tryc(X:Cx)(pn:Γ)(E:Ξ):Cx:={ X with pn:=pn,xe:=E }
abbrev Cx.marked(X:Cx)(a:Addr)(E:Ξ):Cx:={ X with A:=X.A.mark (some (.ref a)),calm:=false,xe:=E }
section
variable{X:Cx}{aa b6 pn:Γ}{σ:L2.St}{H H':Hp}{s:Shared}{E:Ξ}{a:Addr}
theorem Cx.Ok.tryc(ok:X.Ok):(X.tryc pn E).Ok:=⟨ok.mod,ok.kind,ok.glob,ok.blt,ok.above,ok.inj,ok.has,ok.cab,ok.hd,ok.frames,ok.stk,ok.exf,ok.bs,ok.bsz,ok.noex,ok.exfs,ok.funs,ok.frf⟩
theorem Cx.Ok.untry(ok:(X.tryc pn E).Ok):X.Ok:=⟨ok.mod,ok.kind,ok.glob,ok.blt,ok.above,ok.inj,ok.has,ok.cab,ok.hd,ok.frames,ok.stk,ok.exf,ok.bs,ok.bsz,ok.noex,ok.exfs,ok.funs,ok.frf⟩
theorem Inv.tryc(I:Inv X aa σ H s):Inv (X.tryc (X.pn++aa) E) [] σ H s:=⟨I.ok.tryc,I.os,I.bare,I.base,I.loc,I.cell,I.free,I.freeC,λp hp=>I.pin p (by simpa using hp),I.hok,I.len⟩
theorem Inv.untry(I:Inv (X.tryc (X.pn++aa) E) b6 σ H s):Inv X aa σ H s:=⟨I.ok.untry,I.os,I.bare,I.base,I.loc,I.cell,I.free,I.freeC,λp hp=>I.pin p (VX _ hp),I.hok,I.len⟩
theorem Cx.Ok.marked(ok:X.Ok):(X.marked a E).Ok:=⟨ok.mod,ok.kind,ok.glob,ok.blt,ok.above,ok.inj,ok.has,ok.cab,λz=>(nomatch z),ok.frames,ok.stk,ok.exf,ok.bs,ok.bsz,ok.noex,ok.exfs,ok.funs,ok.frf⟩
theorem Inv.marked(I:Inv X aa σ H s):Inv (X.marked a E) aa σ H s:=⟨I.ok.marked,I.os,I.bare,I.base,I.loc,I.cell,I.free,I.freeC,I.pin,I.hok,I.len⟩
theorem Inv.unmarked(ok:X.Ok)(I:Inv (X.marked a E) aa σ H s):Inv X aa σ H s:=⟨ok,I.os,I.bare,I.base,I.loc,I.cell,I.free,I.freeC,I.pin,I.hok,I.len⟩
theorem Inv.track{o:HO}(I:Inv X aa σ H s)(hn:H a=none)(ha:X.s₀.heap.get? a=none)(hL:a≠X.env.locals)(hC:∀x c,X.env.cells.lookup x=some c->c≠a)(hp:∀p∈X.pn++aa,p.1≠a)
 (ok:cX X.prog X.w (upd H a o) s.heap a o):Inv X aa σ (upd H a o) s:=by
 have ne:∀b u,H b=some u->b≠a:=λb u e=>gC e hn;have ne0:∀b u,X.s₀.heap.get? b=some u->b≠a:=λb u e z=>by rw[z,ha]at e;cases e
 refine⟨I.ok,I.os,I.bare,⟨I.base.keep,I.base.slot,λb ob e n hx=>by rw[bJ (ne0 b ob e)];exact I.base.free b ob e n hx,I.base.there,λb xs e=>?_,λb ob u e=>?_,λb ps e=>?_⟩,I.loc,I.cell,by rw[bJ hL.symm];exact I.free,λx c e=>by rw[bJ (hC x c e)];exact I.freeC x c e,λp q=>?_,λb u e=>?_,I.len⟩
 .have z:=I.base.tups b xs e;rw[bJ (ne b _ z)];exact z
 .have z:=I.base.frzs b ob u e;rw[bJ (ne b _ z)];exact z
 .obtain⟨m,z⟩:=I.base.tbls b ps e;exact⟨m,by rw[bJ (ne b _ z)];exact z⟩
 .obtain⟨h1,h2,h3⟩:=I.pin p q;exact⟨h1,by rw[bJ (hp p q)];exact h2,h3⟩
 .by_cases z:b=a
  .subst z;rw[bK]at e;cases e;exact ok
  .rw[bJ z]at e;exact(I.hok b u e).stay (λ_ _ _ q=>q) (λc q=>by rw[bJ (ne c _ q)];exact q) λc xs q=>by rw[bJ (ne c _ q)];exact q
theorem Inv.unname{M:Model}{A:Around}{E:Ξ}{i:Nat}{n:Str}{pos:Pos}{Q:Unit->Shared->Prop}(I:Inv X aa σ H s)(hN:X.N.Nodup)(hi:X.N[i]?=some n)(hk:X.env.scope.names.lookup n=some .local)
 (h:∀s',Inv X aa (σ.set i none) H s'->Q () s'):wpAny M A (do bindName X.env n .none;unbindBehindTheSuite X.env n pos) Q E s:=by
 obtain⟨m,hn,hl⟩:=id I.loc;have ef:(X.env.scope.kind == .class || (X.env.scope.kind == .module&&X.env.locals != X.env.globals))=false:=by rw[I.ok.kind];rfl
 have cne:=I.cne;have ki:i<σ.length:=by rw[I.len];exact(ao.mp hi).1
 refine wpAny_nameGoes_keeps hk hn ef λh' v k4 hs=>?_;have hok:HOk X.prog X.w H h':=λb ob e=>(I.hok b ob e).stay (λc w' hc q=>(hs.2 c (by
  rintro rfl;rcases hc with rfl|hc
  .rw[I.free]at e;cases e
  .rw[I.free]at hc;cases hc)).trans q) (λ_ q=>q) λ_ _ q=>q
 refine h _ ⟨I.ok,I.os,I.bare,⟨λb o e n' hb hx=>?_,λb o e n' hb hx=>?_,I.base.free,λb o e hx=>?_,I.base.tups,I.base.frzs,I.base.tbls⟩,⟨_,k4,λj y v' e1 e2 e3=>?_⟩,λy c e=>?_,I.free,I.freeC,λp hp=>?_,hok,by simpa using I.len⟩
 .exact(hs.2 b (aN (aO (aH e) I.ok.above))).trans (I.base.keep b o e n' hb hx)
 .obtain⟨sl,e1⟩:=I.base.slot b o e n' hb hx;exact⟨sl,(hs.2 b (aN (aO (aH e) I.ok.above))).trans e1⟩
 .obtain⟨o',e1⟩:=I.base.there b o e hx;exact⟨o',(hs.2 b (aN (aO (aH e) I.ok.above))).trans e1⟩
 .by_cases hj:j=i
  .subst hj;rw[WU ki]at e2;cases e2
  .rw[WV (Ne.symm hj)]at e2;obtain⟨u',r',q⟩:=hl j y v' e1 e2 e3;refine⟨u',r',?_⟩;rcases q with⟨k,e⟩|⟨k,c,e,z⟩
   .refine .inl ⟨k,?_⟩;have:y≠n:=λe=>hj (vW hN e1 (e ▸ hi));simp[this,e]
   .exact .inr ⟨k,c,e,z.sameBut hs (cne y c e)⟩
 .obtain⟨w',z⟩:=I.cell y c e;exact⟨w',z.sameBut hs (cne y c e)⟩
 .obtain⟨e,n',ne,nf,d⟩:=I.pin p hp;exact⟨(hs.2 p.1 ne).trans e,n',ne,nf,d⟩
end
def XO(a C:Addr)(d:Ω):HO:=.ext λh=>∃o,h.get? a=some o/\o.cls=.ref C/\o.dict=d/\∃vs,o.data=.fields vs
theorem Cg{M:Model}{A:Around}{E:Ξ}{K:Frag}{h:Heap}{g:Array GenState}{d:Drawn}{t:Nat}{os:OsState}{a C D:Addr}{oe:Obj}{Q:Bool->Shared->Prop}{b:Bool}(X:K.In h)
 (qD:mroIn K D (.type "BaseException")=some true)(hJ:typeIn K (.ref D)=some (.type "type"))(he:h.get? a=some oe)(hc:oe.cls=.ref C)(qS:mroIn K C (.ref D)=some b)
 (hq:Q b ⟨h,g,d,t,os⟩):wpAny M A (excMatches (.ref a) (.ref D)) Q E ⟨h,g,d,t,os⟩:=by
 have l1:PySem.W.Looks M h (isInstance (.ref D) (.type "tuple")) false:=(PySem.W.looks_typeIn X hJ).andThen (PySem.W.Looks.of_pure tc_notTuple);have l2:PySem.W.Looks M h (isType (.ref D)) true:=by
  obtain⟨cdD,c8,_⟩:=Option.bind_eq_some_iff.mp qD;unfold clsIn at c8;split at c8
  .rename_i c' d' cd' eJ ho
   intro A' Q' E' s' k q;unfold isType loadHead;exact ZU (wpAny_loadPart (k _ _ (X _ _ ho)) (ZT q))
  .cases c8
 have l3:PySem.W.Looks M h (isSubtype (.ref D) (.type "BaseException")) true:=looks_mroIn X qD;have l4:PySem.W.Looks M h (isSubtype (.ref C) (.ref D)) b:=looks_mroIn X qS;have l5:PySem.W.Looks M h (typeOf (.ref a)) (.ref C):=by
  intro A' Q' E' s' k q;rw[<- hc]at q;unfold typeOf;exact ZU (wpAny_loadPart (k _ _ he) (ZT q))
 unfold excMatches;refine ZU (l1.at ?_);simp only[XY,if_false];refine ZU (ZT ?_);simp only[List.forIn_cons,List.forIn_nil];unfold isExcClass;refine ZU (ZU (ZU (ZU (l2.at ?_))));simp only[if_true];refine l3.at ?_;simp only[Bool.not_true,XY,if_false];refine ZT (ZT (ZU (l5.at ?_)));refine ZU (ZU (ZU (l4.at ?_)));cases b with
 |true =>
  simp only[if_true];exact ZT (ZT (ZT hq))
 |false =>
  simp only[XY,if_false];exact ZT (ZT (ZT hq))
section
variable{X:Cx}{pos gm np:Pos}{bi fh:List Stmt}{b₀:Stmt}{n Dn:Str}{D:Addr}{i:Nat}{tb:(Value->Ω->L2.St->Hp->Prop)->TS}{th:TS}
def Ends.unset(R:Ends)(i:Nat):Ends:={ nx:=λσ H=>R.nx (σ.set i none) H,rt:=R.rt,bk:=λσ H=>R.bk (σ.set i none) H,ct:=λσ H=>R.ct (σ.set i none) H }
def Ti(K:Frag)(D:Addr)(i:Nat)(tb:(Value->Ω->L2.St->Hp->Prop)->TS)(th:TS):TS:=λR σ H =>
 ∃Ex:Value->Ω->L2.St->Hp->Prop,tb Ex R σ H/\∀C' d σ' H',Ex C' d σ' H'->∃C,C'=.ref C/\mroIn K C (.ref D)=some true /\
  ∀a,H' a=none->th (R.unset i) (σ'.set i (some (.ref a))) (upd H' a (XO a C d))
theorem Lr(hN:X.N.Nodup)(hi:X.N[i]?=some n)(dL:X.env.scope.names.lookup n=some .local)(lb:Gl X Dn)(k6:X.mg Dn=some (.ref D))(qD:mroIn X.K D (.type "BaseException")=some true)
 (hJ:typeIn X.K (.ref D)=some (.type "type"))(be:X.stack=X.env::X.outer)(bS:X.env.frame=some X.env.locals)(lp:X.ex=[])
 (hb:∀pn' E' Ex,tD (X.tryc pn' E') Ex->PSs (X.tryc pn' E') bi (tb Ex))(hh:∀a E',PSs (X.marked a E') (b₀::fh) th)(aI:qq Dn:=by decide) :
  PS X (.Try bi [.ExceptHandler (some (.Name Dn np)) (some n) (b₀::fh) gm] [] [] pos) (Ti X.K D i tb th):=by
 intro aa s σ H R I h;obtain⟨Ex,h1,h2⟩:=h;refine wpAny_Try_except ?_;have gV:∀{Y:Cx}{pn:Γ}{f:Flow}{s':Shared},(∀{σ':L2.St}{H':Hp},Inv Y pn σ' H' s'->Inv X aa σ' H' s')->SP Y pn R f s'->SP X aa R f s':=λ{Y pn f s'}k q=>by
  cases f with
  |next=>obtain⟨σ',H',J,z⟩:=q;exact⟨σ',H',k J,z⟩
  |brk=>obtain⟨σ',H',J,z⟩:=q;exact⟨σ',H',k J,z⟩
  |cont=>obtain⟨σ',H',J,z⟩:=q;exact⟨σ',H',k J,z⟩
  |ret u=>obtain⟨v,σ',H',J,z⟩:=q;exact⟨v,σ',H',k J,z⟩
 refine wpAny_mono (hb (X.pn++aa) _ Ex ?_ [] s σ H R I.tryc h1) (λf s1 q=>?_) λ_ _ z=>z
 rotate_left
 .have q':=gV (λJ=>J.untry) q;cases f with
  |next=>exact wpAny_execs_nil q'
  |brk=>exact q'
  |cont=>exact q'
  |ret u=>exact q'
 intro b6 σ1 H1 s1 a C' H' s' B d J F ex;have J0:Inv X aa σ1 H1 s1:=J.untry;obtain⟨C,rfl,qS,k⟩:=h2 C' d σ1 H' ex;have F0:Fly X.prog X.w X.stack H1 s1 a (.ref C) H' s' B d:=F;have me:iK B (X.env::X.outer) a (.ref C) d .none s'.heap:=by rw[<- be];exact F0.fl
 show wpAny _ _ (noteFrame (.ref a) X.env) _ _ _;refine yC (outer:=X.outer) (L:=X.env.locals) (I.ok.frames.trans (by rw[be])) bS me λh₄ gx sm₄=>?_;refine Io gx λh₅ l9 sm₅=>?_;have J5:Inv X aa σ1 H' { s' with heap:=h₅ }:=J0.flown F0 l9.1 (sm₄.trans sm₅);obtain⟨oe,vs,he,ef,_,hd⟩:=l9.first;refine wpAny_handleBy_cons (codeAny_handlers_test ?_) (by intro q;cases q);refine iB (X:=X.marked a (λ_ _=>False)) J5.marked lb k6 ?_ aI;refine Cg (K:=X.K) J5.kIn qD hJ he ef qS ?_;show codeAny _ _ _ _ _;refine codeAny_handlers_suite_as ?_;refine Io l9 λh₆ fl₆ sm₆=>?_;have J6:Inv X aa σ1 H' { s' with heap:=h₆ }:=J0.flown F0 fl₆.1 ((sm₄.trans sm₅).trans sm₆);obtain⟨oe6,vs6,kl,i5,hda,lP⟩:=fl₆.first;have na:H' a=none:=by
  cases q:H' a with
  |none=>rfl
  |some u =>
   obtain⟨o',e'⟩:=(F0.hok a u q).there;have y:=F0.trk q e';rw[F0.fl.2.1]at y;cases y
 have ns:X.s₀.heap.get? a=none:=by
  cases q:X.s₀.heap.get? a with
  |none=>rfl
  |some o =>
   obtain⟨⟨u,z⟩,_⟩:=J0.old lp q;rw[F0.new]at z;cases z
 have nL:a≠X.env.locals:=λz=>by
  obtain⟨m,⟨o,es,ep,e,dd,_⟩,_⟩:=J6.loc;rw[<- z]at e;have e':h₆.get? a=some o:=e;rw[kl]at e';cases e';rw[lP]at dd;cases dd
 have nC:∀x c,X.env.cells.lookup x=some c->c≠a:=λx c e z=>by
  obtain⟨v,o,e',dd⟩:=J6.cell x c e;rw[z]at e';have e2:h₆.get? a=some o:=e';rw[kl]at e2;cases e2;rw[lP]at dd;cases dd
 have nP:∀p∈X.pn++aa,p.1≠a:=λp hp z=>by
  have:=(J0.pin p hp).1;rw[z,F0.new]at this;cases this
 have okx:cX X.prog X.w (upd H' a (XO a C d)) h₆ a (XO a C d):=⟨⟨oe6,kl,i5,hda,vs6,lP⟩,⟨oe6,kl⟩,λg1 g2 ⟨o,e1,e2⟩ kk=>⟨o,kk o e1,e2⟩⟩;have J7:Inv X aa σ1 (upd H' a (XO a C d)) { s' with heap:=h₆ }:=J6.track na ns nL nC nP okx;refine m_ (X:=X.marked a (λ_ _=>False)) J7.marked hN hi (.inl dL) (v:=.ref a) rfl (λs8 J8=>?_) (.inr dL);have J8':Inv X aa (σ1.set i (some (.ref a))) (upd H' a (XO a C d)) s8:=J8.unmarked I.ok;refine wpAny_mono (hh a _ aa s8 _ _ _ J8'.marked (k a na)) (λf s9 q=>?_) λ_ _ z=>z;cases f with
 |next =>
  obtain⟨σ',H2,J9,z⟩:=q;exact(J9.unmarked I.ok).unname hN hi dL λf8 g3=>⟨_,_,g3,z⟩
 |brk =>
  obtain⟨σ',H2,J9,z⟩:=q;exact(J9.unmarked I.ok).unname hN hi dL λf8 g3=>⟨_,_,g3,z⟩
 |cont =>
  obtain⟨σ',H2,J9,z⟩:=q;exact(J9.unmarked I.ok).unname hN hi dL λf8 g3=>⟨_,_,g3,z⟩
 |ret u =>
  obtain⟨v,σ',H2,J9,rv,z⟩:=q;exact(J9.unmarked I.ok).unname hN hi dL λf8 g3=>⟨v,_,_,g3,rv,z⟩
end
structure n8(K:Frag)(C:Addr):Prop where
 ga:findIn K (.ref C) "__getattribute__"=some (some (.builtin "BaseException.__getattribute__"))
 gn:findIn K (.ref C) "__getattr__"=some none
 cl:findIn K (.ref C) "__class__"=some (some (.builtin "object.__class__"))
 mo:mroIn K C (.type "object")=some true
 mb:mroIn K C (.type "BaseException")=some true
section
variable{prog:Program}{w:World}{A:Around}{E:Ξ}{h:Heap}{g:Array GenState}{d:Drawn}{t:Nat}{os:OsState}{a C:Addr}{o:Obj}{K:Frag}
theorem fJ{M:Model}(hx:h.get? a=some o)(hc:o.cls=.ref C):PySem.W.Looks M h (typeOf (.ref a)) (.ref C):=by
 intro A' Q' E' s' k q;rw[<- hc]at q;unfold typeOf;exact ZU (wpAny_loadPart (k _ _ hx) (ZT q))
theorem xT{R:Result->Shared->Prop}(X:K.In h)(T:n8 K C)(hx:h.get? a=some o)(hc:o.cls=.ref C)(hq:R (.ok (.ret (.ref C))) ⟨h,g,d,t,os⟩) :
  codeAny (model prog w) A (.call (.builtin "getset_descriptor.__get__") ⟨[.builtin "object.__class__",.ref a,.ref C],[]⟩) R ⟨h,g,d,t,os⟩:=by
 have hT5:(⟨h,g,d,t,os⟩ : Shared).TypeIs (.builtin "object.__class__") "getset_descriptor":=F.typeOf_object_class;have LT:=fJ (M:=model prog w) hx hc;have LO:PySem.W.Looks (model prog w) h (isSubtype (.ref C) (.type (".".intercalate ("object.__class__".cutAt '.').dropLast))) true:=by
  rw[F.owner_object_class];exact looks_mroIn X T.mo
 refine codeAny_call_builtin F.slot_gs_get.plain F.entry_gs_get (F.slot_gs_get.check _ _ _ _ _ _ _ _ hT5 (F.args_gs_get _ _ _) ?_)
 repeat (any_goals (first|assumption|with_reducible refine LT.at ?_|with_reducible refine LO.at ?_|(with_reducible refine wpAny_loadPart_at hx ?_;rw[hc])|wp_step))
 refine⟨Code.quiet_builtin _ (by decide +kernel),codeAny_builtin F.entry_object_class ?_⟩
 repeat (any_goals (first|assumption|with_reducible refine LT.at ?_|(with_reducible refine wpAny_loadPart_at hx ?_;rw[hc])|wp_step))
theorem tG{tk:Tok}{Q:Fin->Shared->Prop}(X:K.In h)(T:n8 K C)(hx:h.get? a=some o)(hc:o.cls=.ref C)(hq:Q (.done (.ret (.ref C))) ⟨h,g,d,t,os⟩) :
  wpAny (model prog w) A (Builtin.«object.__getattribute__» ⟨[.ref a,.str "__class__" tk],[]⟩) Q E ⟨h,g,d,t,os⟩:=by
 have hT5:(⟨h,g,d,t,os⟩ : Shared).TypeIs (.builtin "object.__class__") "getset_descriptor":=F.typeOf_object_class;have f5:=F.typeOf_object_class;have f6:=F.slot_gs_get.lookup;have f7:=F.slot_gs_set.lookup;have LT:=fJ (M:=model prog w) hx hc;have LC:=looks_findIn (M:=model prog w) X T.cl
 repeat (any_goals (first|assumption|with_reducible refine LT.at ?_|with_reducible refine LC.at ?_|(with_reducible refine wpAny_loadPart_at hx ?_;rw[hc])|wp_step))
 refine xT X T hx hc ?_
 repeat (any_goals (first|assumption|wp_step))
theorem pU{M:Model}{fi:Value}{Q:Unit->Shared->Prop}(X:K.In h)(T:n8 K C)(hx:h.get? a=some o)(hc:o.cls=.ref C)(hq:Q () ⟨h,g,d,t,os⟩) :
  wpAny M A (checkBuiltinCall "BaseException.__getattribute__" ⟨[.ref a,fi],[]⟩) Q E ⟨h,g,d,t,os⟩:=by
 have hk:builtinKind "BaseException.__getattribute__"=some .slot:=by decide +kernel
 have gl:splitId "BaseException.__getattribute__"=some ("BaseException","__getattribute__"):=by decide +kernel
 have ha:=F.args_bexc_ga (.ref a) fi;have LT:=fJ (M:=M) hx hc;have LB:=looks_mroIn (M:=M) X T.mb;simp only[checkBuiltinCall,hk,gl];refine ZU ?_;unfold isInstance
 repeat (first|with_reducible refine LT.at ?_|with_reducible refine LB.at ?_|(with_reducible refine wpAny_loadPart_at hx ?_;rw[hc])|wp_step)
 exact hq
theorem Bl{tk:Tok}{Q:Ξ}(X:K.In h)(T:n8 K C)(hx:h.get? a=some o)(hc:o.cls=.ref C)(hq:Q (.ref C) ⟨h,g,d,t,os⟩) :
  wpAny (model prog w) A (getAttrBy (.ref a) (.str "__class__" tk) false) Q E ⟨h,g,d,t,os⟩:=by
 have f3:=F.excAttr_ValueError.ga.bind (.ref a);have hx2:(Value.builtin "BaseException.__getattribute__"== Value.builtin "object.__getattribute__")=false:=by decide +kernel
 have kK:(onTheHeap (Value.ref C)&&Value.builtin "BaseException.__getattribute__"== Value.builtin "object.__getattribute__")=false:=by rw[hx2];exact Bool.and_false _
 have LT:=fJ (M:=model prog w) hx hc;have LG:=looks_findIn (M:=model prog w) X T.ga;have LN:=looks_findIn (M:=model prog w) X T.gn
 repeat (any_goals (first|assumption|with_reducible refine LT.at ?_|with_reducible refine LG.at ?_|with_reducible refine LN.at ?_|(with_reducible refine wpAny_loadPart_at hx ?_;rw[hc])|wp_step))
 refine codeAny_call_builtin F.excAttr_ValueError.ga.plain F.entry_bexc_ga (pU X T hx hc (tG X T hx hc ?_))
 repeat (any_goals (first|assumption|wp_step))
theorem v9{Q:Ψ->Shared->Prop}(X:K.In h)(T:n8 K C)(hx:h.get? a=some o)(hc:o.cls=.ref C)(hq:Q (some (.ref C)) ⟨h,g,d,t+1,os⟩) :
  wpAny (model prog w) A (getAttr? (.ref a) "__class__") Q E ⟨h,g,d,t,os⟩:=by
 unfold getAttr? getAttrBy?
 repeat (any_goals (first|assumption|with_reducible apply Bl X T hx hc|wp_step))
end
def jF(cells:List (Str×Addr)):List (Str×NameKind)->List (Str×Addr)->List (Str×Addr)
 |[],acc=>acc
 |(n,k)::r,acc=>jF cells r (if k == .free then(n,(cells.lookup n).getD 0)::acc else acc)
theorem u0{scope:Scope}{env:Env}(h:∀y∈scope.names,y.2=.free->∃c,env.cells.lookup y.1=some c):closureFor scope env=pure (jF env.cells scope.names []):=by
 unfold closureFor;have go:∀(l:List (Str×NameKind))(acc:List (Str×Addr)),(∀y∈l,y.2=.free->∃c,env.cells.lookup y.1=some c) ->
   (forIn l acc (λ(x:Str×NameKind)(r:List (Str×Addr))=>if(x.2==NameKind.free)=true then(do let a <- cellOf env x.1;pure (ForInStep.yield ((x.1,a)::r)))else pure (ForInStep.yield r)):Sem (List (Str×Addr)))=pure (jF env.cells l acc):=by
  intro l
  induction l with
  |nil=>intro acc _;rfl
  |cons y r ih =>
   intro acc hy;obtain⟨n,k⟩:=y;rw[List.forIn_cons];by_cases hk:k=.free
   .subst hk;obtain⟨c,hc⟩:=hy (n,.free) aL rfl;have e1:cellOf env n=pure c:=by unfold cellOf;rw[show env.cells.lookup n=some c from hc]
    simp only[beq_self_eq_true,if_true,e1,pure_bind];rw[ih _ λz hz=>hy z (aG _ hz)];show pure _=pure (jF env.cells r (if(NameKind.free==NameKind.free)=true then(n,(env.cells.lookup n).getD 0)::acc else acc));rw[show env.cells.lookup n=some c from hc]
    rfl
   .have hb:(k==NameKind.free)=false:=by simpa using hk
    simp only[hb,XY,if_false,pure_bind];rw[ih _ λz hz=>hy z (aG _ hz)];show pure _=pure (jF env.cells r (if(k==NameKind.free)=true then(n,(env.cells.lookup n).getD 0)::acc else acc));rw[hb]
    rfl
 have e:=go scope.names [] h;show(forIn scope.names [] (λ(x:Str×NameKind)(r:List (Str×Addr))=>if(x.2==NameKind.free)=true then(do let a <- cellOf env x.1;pure (ForInStep.yield ((x.1,a)::r)))else pure (ForInStep.yield r)):Sem (List (Str×Addr))) >>= (λcs=>pure cs)=_;rw[e]
 rfl
theorem vA{cells:List (Str×Addr)} : ∀{names:List (Str×NameKind)}{acc:List (Str×Addr)}{x:Str}{c:Addr},(∀y∈names,y.2=.free->∃c,cells.lookup y.1=some c)->(x,c)∈jF cells names acc->(x,c)∈acc\/cells.lookup x=some c
 |[],_,_,_,_,h=>.inl h
 |(n,k)::r,acc,x,c,hf,h=>by
  unfold jF at h;rcases vA (λy hy=>hf y (aG _ hy)) h with z|z
  .by_cases hk:k=.free
   .subst hk;simp only[beq_self_eq_true,if_true]at z;rcases YU.mp z with e|e
    .obtain⟨c',di⟩:=hf (n,.free) aL rfl;cases e;rw[show cells.lookup n=some c' from di];exact .inr rfl
    .exact .inl e
   .have hb:(k==NameKind.free)=false:=by simpa using hk
    simp only[hb,XY,if_false]at z;exact .inl z
  .exact .inr z
theorem vL{cells:List (Str×Addr)} : ∀{names:List (Str×NameKind)}{acc:List (Str×Addr)}{x:Str},((x,NameKind.free)∈names\/∃c,(x,c)∈acc)->∃c,(x,c)∈jF cells names acc
 |[],_,_,h=>by
  rcases h with h|h
  .cases h
  .exact h
 |(n,k)::r,acc,x,h=>by
  unfold jF;refine vL ?_;rcases h with h|⟨c,h⟩
  .rcases YU.mp h with e|e
   .cases e;exact .inr ⟨_,by simp only[beq_self_eq_true,if_true];exact aL⟩
   .exact .inl e
  .refine .inr ⟨c,?_⟩;split
   .exact aG _ h
   .exact h
theorem gG{α:Type}{x:Str}{c:α} : ∀{l:List (Str×α)},(x,c)∈l->∃c',l.lookup x=some c'
 |(y,d)::r,h=>by
  rw[List.lookup_cons];cases hb:x==y with
  |true=>exact⟨d,rfl⟩
  |false =>
   rcases YU.mp h with e|e
   .cases e;simp at hb
   .exact gG e
section
variable{X:Cx}{a8 iter:Expr}{x:Str}{px pos:Pos}{scope:Scope}{wi:TI}{te:TE}
theorem Inv.nostk'{aa:Γ}{σ:L2.St}{H:Hp}{s:Shared}(I:Inv X aa σ H s){b:Addr}(h1:b≠X.env.locals)(h2:b∉X.fs):b∉frs X.stack:=λz=>by
 rcases YU.mp (I.stkSub b z)with e|e
 .exact h1 e
 .exact h2 e
theorem pL{env:Env} : ∀{names:List (Str×NameKind)}{y:Str},(names.map λ(n,k)=>if(k==NameKind.free&&env.scope.kind == .function&&env.kindOf n==some .cell)then(n,NameKind.cell)else(n,k)).lookup y=some .cell \/
  (names.map λ(n,k)=>if(k==NameKind.free&&env.scope.kind == .function&&env.kindOf n==some .cell)then(n,NameKind.cell)else(n,k)).lookup y=some .free->(∀z∈names,z.2≠.cell)->(y,NameKind.free)∈names
 |[],y,h,_=>by rcases h with h|h<;>cases h
 |(n,k)::r,y,h,hc=>by
  have ih:=@pL env r y;simp only[List.map_cons]at h;by_cases hcond:(k==NameKind.free&&env.scope.kind == .function&&env.kindOf n==some .cell)=true
  .rw[ZY hcond]at h;simp only[List.lookup_cons]at h;cases hb:y==n with
   |true =>
    have hk:k=.free:=by
     simp only[UT,beq_iff_eq]at hcond;exact hcond.1.1
    have:y=n:=by simpa using hb
    subst this hk;exact aL
   |false =>
    rw[hb]at h;exact aG _ (ih h λz hz=>hc z (aG _ hz))
  .rw[ZZ hcond]at h;simp only[List.lookup_cons]at h;cases hb:y==n with
   |true =>
    rw[hb]at h;have:y=n:=by simpa using hb
    subst this;rcases h with h|h
    .exact absurd (Option.some.inj h) (hc (y,k) aL)
    .have:k=.free:=Option.some.inj h;subst this;exact aL
   |false =>
    rw[hb]at h;exact aG _ (ih h λz hz=>hc z (aG _ hz))
end
section
variable{X:Cx}
theorem Ld{K:Frag}{a C:Addr}(T:n8 K C):KitX K (.ref a) (.ref C) (λh=>∃o,h.get? a=some o/\o.cls=.ref C) where
 ty:=λM h _ hP=>by obtain⟨o,e,c⟩:=hP;exact fJ e c
 it:=λM h Y _=>by
  obtain⟨cdD,c8,_⟩:=Option.bind_eq_some_iff.mp T.mo;unfold clsIn at c8;split at c8
  .rename_i c' d' cd' eJ ho
   intro A' Q' E' s' k q;unfold isType loadHead;exact ZU (wpAny_loadPart (k _ _ (Y _ _ ho)) (ZT q))
  .cases c8
 ne:=λh tp dd its n sl Y htp=>by
  obtain⟨cdD,c8,_⟩:=Option.bind_eq_some_iff.mp T.mo;refine Bool.eq_false_iff.mpr λq=>?_;have e:C=tp:=Value.ref.inj (beq_iff_eq.mp q);subst e;unfold clsIn at c8;split at c8
  .rename_i c' d' cd' eJ ho
   have z:=(Y _ _ ho).symm.trans htp;cases z
  .cases c8
 ca:=λ{prog w A E Q s}Y ⟨o,e,c⟩ k=>by
  obtain⟨h,g,d,t,os⟩:=s;exact v9 Y T e c k
def RL(K:Frag):Β->Hp->VK->Prop:=λxs H Q=>∃a C d c cv b,xs=[.ref a,c]/\H a=some (XO a C d)/\((∃T,c=.ty T/\cv=Value.type T)\/∃D,c=.ref D/\cv=Value.ref D)/\n8 K C/\kitOne K (.ref C) cv=some b/\Q (.bl b) H
theorem yQ:d7 X (.builtin "isinstance") (RL X.K):=by
 intro aa s σ H xs us Q I r h;obtain⟨a,C,d,c,cv,b,rfl,ha,rc,T,e,q⟩:=h;obtain⟨u,v,rfl,ru,rv⟩:=r.two;cases ru;have e2:v=cv:=by
  rcases rc with⟨T,rfl,rfl⟩|⟨T,rfl,rfl⟩
  .exact rv
  .exact rv
 subst e2;obtain⟨⟨o,e1,e2,_⟩,_⟩:=I.hok a _ ha;exact kia_one (Ld T) I.kIn ⟨o,e1,e2⟩ e (λz=>nomatch z) λtk=>⟨.bl b,H,I.tok _,rfl,q⟩
def eqF:Β->Β->Bool
 |[],[]=>true
 |x::xs,y::ys=>eqV x y&&eqF xs ys
 |_,_=>false
theorem Inv.tupIs{aa:Γ}{σ:L2.St}{H:Hp}{s:Shared}{a:Addr}{xs:Β}(I:Inv X aa σ H s)(h:H a=some (.tup xs)):∃its,Vals xs its/\IsTup s.heap a its.toArray/\s.heap.IsTuple a its.toArray:=by
 obtain⟨its,rv,ht,_⟩:=I.tuple (SqT.of h);exact⟨its,rv,ht,ht⟩
theorem Inv.lstIs{aa:Γ}{σ:L2.St}{H:Hp}{s:Shared}{a:Addr}{xs:Β}(I:Inv X aa σ H s)(h:H a=some (.lst xs)):∃its,Vals xs its/\s.heap.IsList a its.toArray:=by
 obtain⟨its,rv,ht,_⟩:=I.list (SqL.of h);exact⟨its,rv,ht.isList⟩
end
open PySem.SeqAt in
section
variable{X:Cx}
structure PSB(X:Cx)(st:Stmt)(t:TS):Prop where
 out:PS X st t
structure QZ(X:Cx)(b:List Stmt)(t:TS):Prop where
 out:PSs X b t
theorem Jk{st:Stmt}{rest:List Stmt}{t u:TS}(h1:PSB X st t)(h2:QZ X rest u):QZ X (st::rest) (T_ t u):=⟨B_ h1.out h2.out⟩
end
section
variable{P:Program}{w:World}{K:Frag}{mg:Str->Ψ}{base:Heap}
theorem Fun.okB{x ac:Str}{st:Stmt}{f:Addr}{fd:FuncData}{N ps:Θ}{k:Nat}{sp:Sp}(F:Fun K x ac st f fd)(S:bG N ps (bw st))(len:∀vs H Q E,sp vs H Q E->vs.length=ps.length)
 (a6:∀(af:Value)(A:Around)(outer:List Env)(s:Shared)(H:Hp)(vs:Β)(Q:VK)(E:XK),cA k (A.deeper (envOfC ac (bw st) s.heap.objs.size f af))->sp vs H Q E ->
   ∃t,QZ (n_ CX0 P w K mg base N ac (bw st) f af A outer s H E).nox (cR st) t/\t { nx:=λ_ H'=>Q .non H',rt:=Q } (L2.start N vs) H):cH P w K mg base CX0 (k+1) f fd ps sp :=
 F.ok S len λaf A outer s H vs Q E hr dA=>let⟨t,h1,h2⟩:=a6 af A outer s H vs Q E hr dA;⟨t,h1.out,h2⟩
end
mutual
inductive Shows(H:Hp):V->PyData->Prop
 |non:Shows H .non .none
 |bl (b:Bool):Shows H (.bl b) (.bool b)
 |int (i:Int):Shows H (.int i) (.int i)
 |str (x:Str):Shows H (.str x) (.str x)
 |lst {a:Addr}{xs:Β}{ds:List PyData} : H a=some (.lst xs)->dz H xs ds->Shows H (.ref a) (.list ds)
 |tup {a:Addr}{xs:Β}{ds:List PyData} : H a=some (.tup xs)->dz H xs ds->Shows H (.ref a) (.tuple ds)
inductive dz(H:Hp):Β->List PyData->Prop
 |nil:dz H [] []
 |cons {x:V}{xs:Β}{d:PyData}{ds:List PyData} : Shows H x d->dz H xs ds->dz H (x::xs) (d::ds)
end
mutual
theorem Shows.same{H H':Hp}(S:Same H H'){x:V}{d:PyData}(h:Shows H x d):Shows H' x d:=by
 cases h with
 |non|bl|int|str=>constructor
 |lst e h=>exact .lst (S _ _ e) (dz.same S h)
 |tup e h=>exact .tup (S _ _ e) (dz.same S h)
theorem dz.same{H H':Hp}(S:Same H H'){xs:Β}{ds:List PyData}(h:dz H xs ds):dz H' xs ds:=by
 cases h with
 |nil=>exact .nil
 |cons h t=>exact .cons (Shows.same S h) (dz.same S t)
end
theorem dz.ints(H:Hp):∀ns:List Int,dz H (ns.map V.int) (ns.map PyData.int)
 |[]=>.nil
 |n::ns=>.cons (.int n) (dz.ints H ns)
section
variable{X:Cx}{aa:Γ}{σ:L2.St}{H:Hp}{s:Shared}
mutual
theorem Inv.reads(I:Inv X aa σ H s){x:V}{d:PyData}{v:Value}(h:Shows H x d)(r:RelV x v):∃as,Reads s.heap v d as:=by
 cases h with
 |non=>cases r;exact⟨_,.none⟩
 |bl b=>cases r;exact⟨_,.bool b⟩
 |int i=>obtain⟨t,rfl⟩:=r;exact⟨_,.int i t⟩
 |str x=>obtain⟨t,rfl⟩:=r;exact⟨_,.str x t⟩
 |lst e h =>
  cases r;obtain⟨its,rv,⟨o,ho,hc,n,hd⟩⟩:=I.lstIs e;obtain⟨as,q⟩:=Inv.readsAll I h rv;exact⟨_,.list ho hc hd q⟩
 |tup e h =>
  cases r;obtain⟨its,rv,_,⟨o,ho,hc,n,hd⟩⟩:=I.tupIs e;obtain⟨as,q⟩:=Inv.readsAll I h rv;exact⟨_,.tuple ho hc hd q⟩
theorem Inv.readsAll(I:Inv X aa σ H s){xs:Β}{ds:List PyData}{vs:Δ}(h:dz H xs ds)(r:Vals xs vs):∃as,ReadsAll s.heap vs ds as:=by
 cases h with
 |nil=>cases r;exact⟨_,.nil⟩
 |cons h t =>
  cases r with
  |cons r1 r2 =>
   obtain⟨a,q1⟩:=Inv.reads I h r1;obtain⟨b,q2⟩:=Inv.readsAll I t r2;exact⟨_,.cons q1 q2⟩
end
def Yx:Β->Hp->VK->Prop:=λxs H Q=>∃(l:Addr)(ns:List Int),xs=[.ref l]/\H l=some (.lst (ns.map V.int))/\Q (.int ns.sum) H
theorem IV(hc:X.calm=true):d7 X (.builtin "sum") Yx:=by
 intro aa s σ H xs us Q I r h;obtain⟨l,ns,rfl,hl,q⟩:=h;obtain⟨u,rfl,ru⟩:=r.one;cases ru;obtain⟨its,rv,p⟩:=I.lstIs hl;have hI:=intsAre_of rv;obtain⟨xs,e⟩:=hI.allInts.items;have hn:=hI.numsOf;rw[show its=its.toArray.toList from rfl,e,nums_intItems]at hn;rw[e]at p;refine sum_intListG (I.ok.hd hc) p λh' tk t' k=>⟨.int ns.sum,H,I.kept k,?_,q⟩;rw[preSum_eq,UQ (by simp),hn];exact⟨_,rfl⟩
end
section
variable{X:Cx}
def tM(t:TE):TE:=λσ H Q=>∃R:VK,t σ H R/\∀x H',R x H'->Q x H'
def tMA(t:TA):TA:=λσ H Q=>∃R:Β->Hp->Prop,t σ H R/\∀x H',R x H'->Q x H'
theorem PE.mono{a:Expr}{t:TE}(h:PE X a t):PE X a (tM t):=λaa s σ H Q I ⟨R,h1,h2⟩ =>
 thn (h aa s σ H R I h1) λv s' hP=>by obtain⟨x,H',I',r,q⟩:=hP;exact⟨x,H',I',r,h2 x H' q⟩
theorem PA.mono{es:List Expr}{t:TA}(h:PA X es t):PA X es (tMA t):=λpos aa s σ H Q I ⟨R,h1,h2⟩ =>
 thn (h pos aa s σ H R I h1) λv s' hP=>by obtain⟨x,H',I',r,q⟩:=hP;exact⟨x,H',I',r,h2 x H' q⟩
theorem PE.imp{a:Expr}{t t':TE}(h:PE X a t)(i:∀σ H Q,t' σ H Q->t σ H Q):PE X a t':=λaa s σ H Q I q=>h aa s σ H Q I (i σ H Q q)
def abt(to:TE)(t:TA):TE:=λσ H Q=>to σ H λx H1=>∃l xs,x=.ref l/\H1 l=some (.lst xs)/\t σ H1 λvs H2=>∃y ys,vs=[y]/\H2 l=some (.lst ys)/\ys.length<sizeLine/\Q .non (upd H2 l (.lst (ys++[y])))
abbrev qh(X:Cx)(a:Pos)(e:Expr):Prop:=((backTo a (starEach [e] X.env)).all (λx=>!x.1)&&(backToKw a (keywordEach [] X.env)).all (λx=>x.1.isSome)&&decide ([e].length+([] : List Keyword).length+(if([] : List Keyword).isEmpty then 0 else 1)<30))=true
theorem MJ{o e:Expr}{to:TE}{t:TA}{ag cpos:Pos}(ho:PE X o to)(ha:PA X [e] t)(hb:attributeBase o "append" X.env (eval o X.env)=eval o X.env:=by rfl)
 (hf:qh X cpos e:=by rfl)
 (hl:zk ag cpos:=by rfl)(hs:qf X e []:=by rfl)(hp:qo X cpos []:=by rfl) :
  PE X (.Call (.Attribute o "append" ag) [e] [] cpos) (abt to t):=by
 refine(Rv PySem.F.plainAttrs_list PySem.F.slot_list_append PySem.F.type_list_append rP ho.mono ha.mono hb hf hl hs hp).imp λσ H Q h=>?_;refine⟨_,h,?_⟩;rintro x H1 ⟨l,xs,rfl,hx,h2⟩;refine⟨.inl ⟨rfl,_,SqL.of hx⟩,_,h2,?_⟩;rintro vs H2 ⟨y,ys,rfl,hy,hz,q⟩;exact⟨l,ys,y,rfl,rfl,hy,hz,q⟩
def Vw:Β->Hp->VK->Prop:=λxs H Q=>∃p ys,xs=[.ref p]/\H p=some (.lst ys)/\∀l,H l=none->Q (.ref l) (upd H l (.lst ys))
theorem FW:d7 X (.type "list") Vw:=zm.imp λxs H Q hP=>by obtain⟨p,ys,a,b,c⟩:=hP;exact⟨p,ys,a,.inl (.of b),c⟩
end
mutual
theorem Fd:∀ns:List Int,PyData.canLayAll0 (ns.map PyData.int)=true
 |[]=>rfl
 |n::ns=>by
  rw[List.map_cons];unfold PyData.canLayAll0;rw[Fd ns];rfl
end
inductive FL(H:Hp):Β->List (Int×Int)->Prop
 |nil:FL H [] []
 |cons {p:Addr}{f:Int×Int}{xs:Β}{fs:List (Int×Int)} : H p=some (.tup [.int f.1,.int f.2])->FL H xs fs->FL H (.ref p::xs) (f::fs)
def Its(x:Str):It:=⟨λi _=>i<x.cps.size,λi H v H'=>H'=H/\∃c,x.cps[i]?=some c/\v=.str ⟨#[c]⟩,λi _=>i=x.cps.size⟩
theorem BP{P:Program}{w:World}{K:Frag}{tg:Expr}(it:Addr)(x:Str)(t:Tok)(ty:String)(ii : ["enumerate","zip","dict_itemiterator","dict_reverseitemiterator","odict_iterator","itertools.zip_longest","itertools.pairwise"].contains ty=false)
 (W:∀A:Around,A.handled=none->Walks P w A it [it] [it] x.cps.size (SignAt x) (λi h=>h.IsStrIter it ty x t i))
 (ip:∀(A:Around)(i:Nat)(s:Shared)(Q:Ξ)(E:Ξ),s.heap.IsStrIter it ty x t i->Q (.ref it) s->wpAny (model P w) A (pyIter (.ref it)) Q E s):Turn P w K tg (Its x) [it] it (λi h=>h.IsStrIter it ty x t i) where
 mem:=by simp
 obj:=λi h st b hb=>by
  have e:b=it:=by simpa using hb
  subst e;obtain⟨o,ho,_,hd⟩:=st;exact⟨o,ho,λv z=>by rw[hd]at z;cases z⟩
 keep:=λi h h' st k=>let⟨o,ho,r⟩:=st;⟨o,k it (by simp) o ho,r⟩
 item:=by
  intro X hP hw hK hc i aa s σ H E I hf st hg;subst hP hw hK;obtain⟨f0,f1,f2,f3,f4,f5⟩:=hf it (by simp);refine(W X.A (I.ok.hd hc)).item i s _ _ hg st λv h' tk hv dP kk=>?_;obtain⟨c,u,hx,rfl⟩:=hv;have I1:Inv X aa σ H { s with heap:=h',toks:=tk }:=I.turned (λb o hb e=>kk b o (by simpa using hb) e) f0 f1 f3 f4 f5;obtain⟨o,ho,fb,hd⟩:=id dP;exact⟨_,rfl,Ik (s:={ s with heap:=h',toks:=tk }) ho fb hd ii ⟨.str ⟨#[c]⟩,H,I1,⟨u,rfl⟩,⟨rfl,c,hx,rfl⟩,dP,λb hb=>(hf b hb).1⟩⟩
 done:=by
  intro X hP hw hK hc i aa s σ H E I hf st hg;subst hP hw hK;obtain⟨f0,f1,f2,f3,f4,f5⟩:=hf it (by simp);have iN:i=x.cps.size:=hg;subst iN;exact(W X.A (I.ok.hd hc)).done s _ _ st λh' tk kk=>⟨rfl,I.turned (λb o hb e=>kk b o (by simpa using hb) e) f0 f1 f3 f4 f5⟩
 self:=ip
section
variable{X:Cx}{tg:Expr}
def Z5(te:TE):TI:=λσ H R=>te σ H λv H1=>∃x,v=.str x/\R (Its x) H1
theorem Ug{l:Expr}{tl:TE}(hl:PE X l tl):PI X tg l (Z5 tl):=by
 intro aa s σ H R I h;refine thn (hl aa s σ H _ I h) λv s1 hP=>?_;obtain⟨x,H1,I1,r1,y,ey,q⟩:=hP;subst ey;obtain⟨t,rfl⟩:=r1;have fp:∀b∈[s1.heap.objs.size],oU X aa H1 b:=λb hb=>by
  have e:b=s1.heap.objs.size:=by simpa using hb
  subst e;exact I1.fpOk (aD _) (I1.hok.fresh (aD _))
 have k:∀o:Obj,Inv X aa σ H1 { s1 with heap:=s1.heap.push o }:=λo=>I1.kept (t':=s1.toks) λb ob z=>aF _ z;cases ha:y.cps.all (· < 128)
 .exact wpAny_pyIter_wide ha ⟨s1.heap.objs.size,[s1.heap.objs.size],_,Its y,H1,rfl,k _,BP _ y t "str_iterator" (by decide) (λA hA=>Walks.strWide hA _ y t) (λA i s Q E st h=>wpAny_pyIter_striter_wide st h),⟨_,aQ _ rfl,rfl,rfl⟩,fp,q⟩
 .exact wpAny_pyIter_ascii ha ⟨s1.heap.objs.size,[s1.heap.objs.size],_,Its y,H1,rfl,k _,BP _ y t "str_ascii_iterator" (by decide) (λA hA=>Walks.strAscii hA _ y t) (λA i s Q E st h=>wpAny_pyIter_striter_ascii st h),⟨_,aQ _ rfl,rfl,rfl⟩,fp,q⟩
end
def fQ(x:Str)(lo hi:Option Int):Str:=⟨((x.cps.toList.drop (HT.sIx x.length 0 lo)).take (HT.sIx x.length x.length hi-HT.sIx x.length 0 lo)).toArray⟩
theorem strIdx(lo hi:Option Int)(n:Nat):Builtin.Str.strSliceIndices lo hi 1 n=(List.range (HT.sIx n n hi-HT.sIx n 0 lo)).map (HT.sIx n 0 lo + ·):=by
 rw[<- sliceRange_one];unfold Builtin.Str.strSliceIndices;have h1:∀(o:Option Int)(d:Nat),d<=n->(match o with
   |none=>(d:Int)
   |some i=>(let i:=if i<0 then i+(n:Int)else i;if(1:Int)>0 then max 0 (min i n)else max (-1) (min i (n-1))))=((HT.sIx n d o:Nat):Int):=by
  intro o d hd;cases o with
  |none=>rfl
  |some i =>
   simp only[HT.sIx,show(1:Int)>0 by decide,if_true];by_cases h:i<0
   .simp only[h,if_true]<;>lia
   .simp only[h,if_false]<;>lia
 have e1:=h1 lo 0 (aV _);have e2:=h1 hi n (aD _);simp only[show(1:Int)>0 by decide,if_true]at e1 e2 ⊢;rw[<- e1,<- e2]
 rfl
theorem Qy(x:Str)(lo hi:Option Int):(⟨((Builtin.Str.strSliceIndices lo hi 1 x.length).filterMap (x.cps[·]?)).toArray⟩ : Str)=fQ x lo hi:=by
 rw[strIdx,pick_run];rfl
theorem En(x:Str)(lo hi:Option Int)(h:(Builtin.Str.strSliceIndices lo hi 1 x.length).length=x.length):fQ x lo hi=x:=by
 rw[strIdx,ak,X2]at h;have h2:=HT.Vj x.length x.length (aD _) hi;unfold fQ;have hx:x.length=x.cps.size:=rfl;have e:x.cps.toList.length=x.length:=by simp[hx]
 by_cases z:x.length=0
 .have:x.cps.toList=[]:=List.length_eq_zero_iff.mp (Eq.trans e z);rw[this];obtain⟨⟨l⟩⟩:=x;simp at this;subst this;simp
 .have e0:HT.sIx x.length 0 lo=0:=by lia
  rw[e0,List.drop_zero,UQ (by lia)]
def aa5:V->Option Int->Option Int->Hp->VK->Prop:=λx lo hi H Q=>∃y,x=.str y/\y.length<=sizeLine/\Q (.str (fQ y lo hi)) H
theorem part_of{v:Value}{o:Option Int}(h:IsPart v o):∃l:Option (Int×Tok),v=partValue l/\l.map (·.1)=o:=by
 cases h with
 |none=>exact⟨none,rfl,rfl⟩
 |int i t=>exact⟨some (i,t),rfl,rfl⟩
theorem VD{X:Cx} : SlR X aa5:=by
 intro aa s σ H x v vl vu lo hi sl Q I rx hs pl pu h;obtain⟨y,rfl,hz,q⟩:=h;obtain⟨t,rfl⟩:=rx;obtain⟨l,rfl,el⟩:=part_of pl;obtain⟨u,rfl,eu⟩:=part_of pu;refine⟨"str",_,F.slot_str_getitem.lookup,typeIs_str s y t,wpAny_getItem_str_slice (l:=l) (u:=u) (st:=none) hs rfl ?_⟩;unfold sliceMade slicePicked;rw[el,eu];split
 .rename_i hw
  have g5:=(Bool.and_eq_true_iff.mp hw).2;rw[beq_iff_eq]at g5;have e:=En y lo hi g5;rw[e]at q;exact⟨.str y,H,I,⟨t,rfl⟩,q⟩
 .have e:=Qy y lo hi;refine⟨?_,.str (fQ y lo hi),H,I.tok _,⟨s.toks,?_⟩,q⟩
  .refine aJ ?_ hz;refine aJ (Wp (ZH Str.length e)) ?_;show((y.cps.toList.drop _).take _).toArray.size<=y.cps.size;rw[aR,aU,WS,Array.length_toList];lia
  .rw[<- e];rfl
section
variable{X:Cx}
def Yn:R2:=λx y H Q=>∃i j,x=.str i/\y=.str j/\i.length+j.length<=sizeLine/\Q (.str (i++j)) H
theorem Qx:OpR X (binaryOp .Add) Yn:=Et
def abg:R2:=λx y H Q=>∃i j,x=.str i/\y=.str j/\Q (.bl (!decide (j.cps.toList<i.cps.toList))) H
theorem Ub:OpR X (compareOp .LtE) abg:=by
 intro aa s σ H x y v u Q I rx ry h;obtain⟨i,j,rfl,rfl,q⟩:=h;obtain⟨t,rfl⟩:=rx;obtain⟨t',rfl⟩:=ry;exact PySem.P.le_str (cg I q rfl)
def abk(neg:Bool):R2:=λx y H Q=>∃i j,x=.str i/\y=.str j/\∃c,i=⟨#[c]⟩/\Q (.bl (if neg then !decide (c∈j.cps.toList)else decide (c∈j.cps.toList))) H
theorem OpR.imp{f:Value->Value->Sem Value}{r r':R2}(h:OpR X f r)(i:∀x y H Q,r' x y H Q->r x y H Q):OpR X f r':=λaa s σ H x y v u Q I rx ry q=>h aa s σ H x y v u Q I rx ry (i _ _ _ _ q)
theorem Vm:OpR X (compareOp .In) (abk false):=Jb.imp λx y H Q hP=>by obtain⟨i,j,a,b,c,e,q⟩:=hP;exact⟨i,j,a,b,by subst e;rw[StrLaws.found_one];exact q⟩
theorem yt:∀{bs:List Bool}{us:Δ},Vals (bs.map V.bl) us->∀(i:Nat)(v:Value),us[i]?=some v->∃b,bs[i]?=some b/\v=.bool b
 |[],_,.nil,i,v,h=>by cases i<;>cases h
 |b::bs,_,.cons r t,0,v,h=>by
  rw[List.getElem?_cons_zero]at h;cases h;exact⟨b,rfl,r⟩
 |b::bs,_,.cons r t,i+1,v,h=>by
  rw[List.getElem?_cons_succ]at h;exact yt t i v h
def Wn:Β->Hp->VK->Prop:=λxs H Q=>∃(l:Addr)(bs:List Bool),xs=[.ref l]/\H l=some (.lst (bs.map V.bl))/\Q (.bl (bs.all id)) H
theorem lO:∀bs:List Bool,((List.range bs.length).all λi=>(bs[i]?).getD true)=bs.all id
 |[]=>rfl
 |b::bs=>by
  rw[List.length_cons,List.range_succ_eq_map,List.all_cons,List.all_map,List.all_cons];have:=lO bs;simp only[Function.comp_def,List.getElem?_cons_succ,List.getElem?_cons_zero,Option.getD_some,id]at this ⊢;rw[this]
theorem Js(hc:X.calm=true):d7 X (.builtin "all") Wn:=by
 intro aa s σ H xs us Q I r h;obtain⟨l,bs,rfl,hl,q⟩:=h;obtain⟨u,rfl,ru⟩:=r.one;cases ru;obtain⟨its,rv,p⟩:=I.lstIs hl;have eW:l<s.heap.objs.size:=by obtain⟨_,e,_⟩:=p;exact aH e
 refine call_all_walk (wpAny_pyIter_list p ?_);refine⟨s.heap.objs.size,[s.heap.objs.size,l],[s.heap.objs.size],its.toArray.size,_,_,λi=>(bs[i]?).getD true,rfl,Walks.list (A:=X.A.in1) (I.ok.hd hc) _ l (aN eW) its.toArray,
  ⟨⟨_,aQ _ rfl,rfl,rfl⟩,p.push _⟩,λi v s' Q' E' hP hQ=>?_,λh' tk hk=>?_⟩
 .obtain⟨b,e,rfl⟩:=yt rv i v (by simpa using hP);simp only[e,Option.getD_some]at hQ;exact wpAny_truthy_bool hQ
 .have e:((List.range its.toArray.size).all λi=>(bs[i]?).getD true)=bs.all id:=by
   rw[aR,<- rv.length,ak];exact lO bs
  refine⟨.bl (bs.all id),H,I.kept (t':=tk) λb o q=>hk b o (λhm=>?_) (aF _ q),?_,q⟩
  .rw[YR.mp hm]at q;exact XU _ (aH q)
  .rw[e];rfl
def tSM(r:V->Β->Hp->VK->Prop)(to:TE)(t:TA):TE:=λσ H Q=>to σ H λx H1=>(∃y,x=.str y)/\t σ H1 λvs H2=>r x vs H2 Q
theorem Yd{o e:Expr}{to:TE}{t:TA}{name:Str}{id:String}{r:V->Β->Hp->VK->Prop}{ag cpos:Pos}(slot:Slot "str" name id)(ii:typeOf (.builtin id)=pure (.type "method_descriptor"))(hm:MtM X id r)(ho:PE X o to)(ha:PA X [e] t)
 (hb:qV X o name:=by rfl)
 (hf:qh X cpos e:=by rfl)
 (hl:zk ag cpos:=by rfl)(hs:qf X e []:=by rfl)(hp:qo X cpos []:=by rfl) :
  PE X (.Call (.Attribute o name ag) [e] [] cpos) (tSM r to t):=by
 refine(Rv PySem.F.plainAttrs_str slot ii hm ho.mono ha hb hf hl hs hp).imp λσ H Q h=>?_;refine⟨_,h,?_⟩;rintro x H1 ⟨⟨y,rfl⟩,h2⟩;exact⟨rfl,h2⟩
theorem K9{x:Str}{v:V}{pos:Pos}(hg:Gl X x)(hm:∃u,X.mg x=some u/\RelV v u)(hd:qq x:=by decide):PE X (.Name x pos) (tC v):=by
 obtain⟨u,h1,h2⟩:=hm;exact Hs hg h1 h2 hd
theorem LK{st:Stmt}{t:TS}(h1:PSB X st t):QZ X [st] t:=⟨t_ h1.out⟩
end
theorem cH.calm{P:Program}{w:World}{K:Frag}{mg:Str->Ψ}{base:Heap}{k:Nat}{f:Addr}{fd:FuncData}{ps:Θ}{sp:Sp}(F:cH P w K mg base (CXO P w) k f fd ps sp) :
  cH P w K mg base CX0 k f fd ps (λvs H Q _=>sp vs H Q λ_ _ _=>False):=by
 refine⟨λvs H Q E h=>F.len _ _ _ _ h,λA outer s H args us vs Q E hr e0 hb r h=>?_⟩;refine codeAny_mono (F.run A outer s H args us vs Q _ hr e0 hb r h) λres s' hs=>?_;cases res with
 |error e =>
  obtain⟨_,_,_,_,_,_,_,z⟩:=hs;exact z.elim
 |ok fl =>
  cases fl with
  |ret u=>exact hs
  |next=>exact hs
  |brk=>exact hs
  |cont=>exact hs
def hid(y:Str):Str:=Str.ofString "?"++y
def pY(xs:Θ)(N:Θ):Θ:=N.map λy=>if y∈xs then hid y else y
def Cx.compG(X:Cx)(N':Θ)(scope:Scope)(xs:Θ)(C:Addr)(s₀:Shared)(H₀:Hp)(ex:Φ)(pn:Γ):Cx :=
 { X with env:=compEnvC scope (jF X.env.cells scope.names []) C X.env,N:=xs++N',s₀:=s₀,H₀:=H₀,outer:=X.stack,ex:=ex,fn:=λ_=>false,pn:=pn,xe:=λ_ _=>False }
def PTs(X:Cx)(aS:List Expr)(tc:TT):Prop:=∀(aa:Γ)(s:Shared)(σ:L2.St)(H:Hp)(Q:Bool->Hp->Prop),Inv X aa σ H s->tc σ H Q ->
 wpAny (model X.prog X.w) X.A (forIn aS true λc r=>if r=true then do let ok <- isTrue c X.env (eval c X.env);pure (ForInStep.yield ok)else pure (ForInStep.yield r)) (λb s'=>∃H',Inv X aa σ H' s'/\Q b H') X.xe s
def aaH:TT:=λ_ H Q=>Q true H
theorem Rj{X:Cx} : PTs X [] aaH:=λ_ _ _ H _ I q=>wpAny_tests_nil ⟨H,I,q⟩
theorem Qe{X:Cx}{c:Expr}{tc:TT}(h:PT X c tc):PTs X [c] tc:=λaa s σ H Q I q=>wpAny_tests_one (h aa s σ H Q I q)
def lJ(wi:TI)(n:Nat)(gt:TG)(tc:TT)(te:TE):TE:=λσ H Q=>wi σ H λJ H1=>∀D,H1 D=none->∃W:Nat->Nat->Β->Hp->Prop,(∃m,W 0 m [] (upd H1 D (.lst [])))/\∀i m ys Hc,W i m ys Hc ->
 (J.stop i Hc/\Q (.ref D) Hc)\/(J.go i Hc/\∀x H',J.yld i Hc x H'->∀pre:L2.St,pre.length=n->gt x (pre++σ) H' λσ2 H2=>∃bt:L2.St,bt.length=n/\σ2=bt++σ/\tc σ2 H2 λb H3 =>
  match b with
  |true=>te σ2 H3 λy H4=>ys.length<sizeLine/\H4 D=some (.lst ys)/\∃m',m'<m/\W (i+1) m' (ys++[y]) (upd H4 D (.lst (ys++[y])))
  |false=>∃m',m'<m/\W (i+1) m' ys H3)
def Cx.compE(X:Cx)(ext:Addr->List (Str×Addr))(fn:Str->Bool)(N':Θ)(scope:Scope)(xs:Θ)(C:Addr)(s₀:Shared)(H₀:Hp)(ex:Φ)(pn:Γ):Cx :=
 { X with env:=compEnvC scope (ext C++jF X.env.cells scope.names []) C X.env,N:=xs++N',s₀:=s₀,H₀:=H₀,outer:=X.stack,ex:=ex,fn:=fn,pn:=pn,xe:=λ_ _=>False }
structure Dz(X:Cx)(scope:Scope)(xs:Θ)(ext:Addr->List (Str×Addr))(fn:Str->Bool):Prop where
 new:∀{M:Model}{A:Around}{E:Ξ}{s:Shared}{globals:Addr}{dk:List (Str×Addr)}{ac:Str}{outer:Env}{Q:Env->Shared->Prop},(∀g,g.Ns s.heap.objs.size (λx=>([] : List (Str×Value)).reverse.lookup x)->(∀y c,(ext s.heap.objs.size).lookup y=some c->g.IsCell c none)->(∀b o,s.heap.get? b=some o->g.get? b=some o)->Q (newEnv scope s.heap.objs.size globals (ext s.heap.objs.size++dk) ac none .none (some outer) builtinsNs) { s with heap:=g,toks:=s.toks+([] : List (Str×Value)).length }) ->
  wpAny M A (newFunctionEnv scope globals dk [] ac none .none (some outer)) Q E s
 up:∀C y c,(ext C).lookup y=some c->C<c
 one:∀C y z c,(ext C).lookup y=some c->(ext C).lookup z=some c->y=z
 nw:∀C y,fn y=true->∃c,(ext C).lookup y=some c
 off:∀C y,y∉xs->(ext C).lookup y=none
 kd:∀C y,((relabel scope X.env).names.lookup y=some .cell\/(relabel scope X.env).names.lookup y=some .free)->(∃c,(ext C).lookup y=some c)\/(y,NameKind.free)∈scope.names
theorem T4{X:Cx}{scope:Scope}{xs:Θ}(hk:scope.kind=.function)(cq:∀y∈scope.names,y.2≠.cell):Dz X scope xs (λ_=>[]) (λ_=>false) :=
 ⟨λhQ=>wpAny_newFunctionEnv cq (by intro y hy;simp at hy) (λg fk hsb=>hQ g fk (λ_ _ z=>(nomatch z)) λb o e=>(hsb.2 b (aN (aH e))).trans (aF _ e)) hk,λ_ _ _ z=>(nomatch z),λ_ _ _ _ z=>(nomatch z),λ_ _ z=>(nomatch z),λ_ _ _=>rfl,λ_ _ e=>.inr (pL e cq)⟩
section
variable{X:Cx}{a8 iter:Expr}{pos:Pos}{scope:Scope}{wi:TI}{te:TE}
theorem yr{ext:Addr->List (Str×Addr)}{fn:Str->Bool}{use:Option (Value->Sem Unit)}{post:Ξ}{Qv:VK}{aa:Γ}{s:Shared}{σ:L2.St}{H:Hp}{pp:Pos}{xs N':Θ}{tg:Expr}{aS:List Expr}{gt:TG}{tc:TT}(E:Dz X scope xs ext fn)(hc:X.calm=true)(d4:pY xs X.N=N')(bn:scope.kind=.function)(bo:∀y∈scope.names,y.2=.local->scope.names.lookup y.1=some .local)
 (bg:∀y∈scope.names,y.2=.free->X.env.kindOf y.1=some .cell\/X.env.kindOf y.1=some .free)(c6:∀y∈X.N,y∉xs->(relabel scope X.env).names.lookup y≠some .local)(hq:∀y∈X.N,y∈xs->(relabel scope X.env).names.lookup (hid y)=none)(hi:PI X tg iter wi)
 (hg:∀C s₀ H₀ ex pn,PG (X.compE ext fn N' scope xs C s₀ H₀ ex pn) tg gt)(ht:∀C s₀ H₀ ex pn,PTs (X.compE ext fn N' scope xs C s₀ H₀ ex pn) aS tc)(he:∀C s₀ H₀ ex pn,PE (X.compE ext fn N' scope xs C s₀ H₀ ex pn) a8 te)(hs:qi X iter)(I:Inv X aa σ H s)(h:lJ wi xs.length gt tc te σ H Qv)
 (gX:∀(C D:Addr)(Hc:Hp)(s6:Shared)(m:Str->Ψ)(fl:Flow),s6.heap.Ns C m->Inv X aa σ Hc s6->oU X aa Hc C->Qv (.ref D) Hc->compPost (model X.prog X.w) X.A X.xe use post (.ref D) C (.ok fl) s6) :
  wpAny (model X.prog X.w) X.A (comprehension (.ListComp a8 [⟨tg,iter,aS,0⟩] scope pos) scope X.env pp (newList []) false (eval iter X.env) use) post X.xe s:=by
 have bS:∀y∈scope.names,y.2=.free->∃c,X.env.cells.lookup y.1=some c:=λy hy e=>I.ok.has y.1 (bg y hy e);refine wpAny_comprehension_free (use:=use) (Q:=post) rfl hs (u0 bS) bn bo (thn (hi aa s σ H _ I h) λv s1 h1=>thn h1 λke s2 h2=>?_);obtain⟨it,fp,tn,J,H2,e,I2,T,fS,f2,R⟩:=h2;subst e;have nD:H2 s2.heap.objs.size=none:=I2.hok.fresh (aD _);obtain⟨W,⟨m0,w0⟩,cz⟩:=R s2.heap.objs.size nD;refine wpAny_newObj_type ?_ (by show 0<=sizeLine;exact aV _);have I3:Inv X aa σ (upd H2 s2.heap.objs.size (.lst [])) { s2 with heap:=s2.heap.push { cls:=.type "list",dict:=none,data:=.seq ([] : Δ).toArray } }:=I2.lnew (t':=s2.toks) (ys:=[]) (its:=[]) .nil (aV _);have gd:∀b o,s2.heap.get? b=some o->(s2.heap.push { cls:=.type "list",dict:=none,data:=.seq ([] : Δ).toArray }).get? b=some o:=λb o e=>aF _ e;generalize kQ:({ s2 with heap:=s2.heap.push { cls:=.type "list",dict:=none,data:=.seq ([] : Δ).toArray } } : Shared)=s3 at I3 ⊢;have eI:tn 0 s3.heap:=T.keep _ _ _ fS λb _ o e=>by rw[<- kQ];exact gd b o e
 generalize lT:upd H2 s2.heap.objs.size (.lst [])=H3 at I3 w0;have f3:∀b∈fp,oU X aa H3 b:=λb hb=>by
  obtain⟨a1,a2⟩:=f2 b hb;refine⟨?_,a2⟩;obtain⟨o,e,_⟩:=T.obj _ _ fS b hb;rw[<- lT,bJ (aN (aH e))];exact a1
 refine E.new λg fk fb kg=>?_;have jp:∀{y:Str}{c:Addr},(jF X.env.cells scope.names []).lookup y=some c->X.env.cells.lookup y=some c:=λ{y c}e=>by
  rcases vA bS (PySem.mem_of_lookup e)with z|z
  .cases z
  .exact z
 have ci:∀{y:Str},(ext s3.heap.objs.size).lookup y=none->((relabel scope X.env).names.lookup y=some .cell\/(relabel scope X.env).names.lookup y=some .free)->(X.env.kindOf y=some .cell\/X.env.kindOf y=some .free)/\∃c,(ext s3.heap.objs.size++jF X.env.cells scope.names []).lookup y=some c/\X.env.cells.lookup y=some c:=λ{y}ny e=>by
  rcases E.kd s3.heap.objs.size y e with⟨c,z⟩|z
  .rw[ny]at z;cases z
  .obtain⟨c,di⟩:=vL (cells:=X.env.cells) (acc:=[]) (.inl z);obtain⟨c,di⟩:=gG di;exact⟨bg _ z rfl,c,by rw[Up,ny];exact di,jp di⟩
 have eh:∀{y:Str}{c:Addr},(ext s3.heap.objs.size++jF X.env.cells scope.names []).lookup y=some c->(ext s3.heap.objs.size).lookup y=some c\/X.env.cells.lookup y=some c:=λ{y c}e=>by
  rw[Up]at e;cases hy:(ext s3.heap.objs.size).lookup y with
  |some d=>rw[hy]at e;exact .inl e
  |none=>rw[hy]at e;exact .inr (jp e)
 have jv:∀{y z c},(ext s3.heap.objs.size).lookup z=some c->¬X.env.cells.lookup y=some c:=λ{y z c}e1 e=>by
  obtain⟨v,o,h1,_⟩:=I3.cell y c e;exact XU _ (WJ (aH h1) (E.up _ _ _ e1))
 have gf:∀b∈fp,b<s3.heap.objs.size:=λb hb=>by
  obtain⟨o,e,_⟩:=T.obj _ _ eI b hb;exact aH e
 have h9:∀b∈fp,b∉frs X.stack:=λb hb=>I3.nostk' (f3 b hb).2.1 (f3 b hb).2.2.1;have jI:∀b∈fp,∀y c,(ext s3.heap.objs.size++jF X.env.cells scope.names []).lookup y=some c->c≠b:=λb hb y c e=>by
  rcases eh e with z|z
  .exact VW (WJ (gf b hb) (E.up _ _ _ z))
  .exact(f3 b hb).2.2.2.2.1 y c z
 generalize hX:X.compE ext fn N' scope xs s3.heap.objs.size s3 H3 fp (X.pn++aa)=Y;have kC:Y.Ok:=by
  subst hX;exact⟨I3.ok.mod,bn,I3.ok.glob,I3.ok.blt,aD _,λy z c h1 h2=>by
    rcases eh h1 with e1|e1<;>rcases eh h2 with e2|e2
    .exact E.one _ _ _ _ e1 e2
    .exact absurd e2 (jv e1)
    .exact absurd e1 (jv e2)
    .exact I3.ok.inj y z c e1 e2,λy hy=>by
    cases hz:(ext s3.heap.objs.size).lookup y with
    |some c=>exact⟨c,List.lookup_append.trans (by rw[hz];rfl)⟩
    |none=>exact let⟨_,c,q,_⟩:=ci hz hy;⟨c,q⟩,λy c gy e=>by
    obtain⟨d,z⟩:=E.nw s3.heap.objs.size y gy;have e:(ext s3.heap.objs.size++jF X.env.cells scope.names []).lookup y=some c:=e;rw[Up,z]at e;cases e;exact Y2 (E.up _ _ _ z),I3.ok.hd,I3.ok.frames,.inl rfl,
   λb hb=>⟨aN (gf b hb),jI b hb⟩,I3.bs,aJ I3.ok.bsz I3.sz,λb o e hb=>by
    rcases(f3 b hb).2.2.2.1 with z|z
    .exact I3.ok.noex b o e z
    .exact absurd (aO (aO (aH e) I3.ok.bsz) z) (XU _),h9,I3.stack,I3.stkFree⟩
 have J4:∀tk,Inv Y [] (List.replicate xs.length none++σ) H3 { s3 with heap:=g,toks:=tk }:=λtk=>by
  subst hX;refine⟨kC,rfl,I3.bare,Un.kept kg,⟨_,fk,λi y v e1 e2 e3=>?_⟩,λy c e=>?_,I3.hok.fresh (aD _),λy c e=>(eh e).elim (λz=>I3.hok.fresh (Y2 (E.up _ _ _ z))) (I3.freeC y c),λp hp=>?_,I3.hok.kept kg,?_⟩
  .by_cases eK:i<xs.length
   .rw[aC (by rw[aK];exact eK),XX,ZY eK]at e2;cases e2
   .obtain⟨j,rfl⟩ : ∃j,i=xs.length+j:=⟨i-xs.length,by lia⟩;have e0:N'[j]?=some y:=by
     have e1:(xs++N')[xs.length+j]?=some y:=e1;rw[aB (XV _ _)]at e1;rw[show xs.length+j-xs.length=j by exact VU _ _]at e1;exact e1
    have ml:σ[j]?=some (some v):=by
     rw[aB (by rw[aK];exact XV _ _),aK]at e2;rw[show xs.length+j-xs.length=j by exact VU _ _]at e2;exact e2
    rw[<- d4]at e0;obtain⟨y0,eM,ey⟩ : ∃y0,X.N[j]?=some y0/\(if y0∈xs then hid y0 else y0)=y:=by
     unfold pY at e0;rw[aq]at e0;cases hz:X.N[j]? with
     |none=>rw[hz]at e0;cases e0
     |some y0=>rw[hz]at e0;exact⟨y0,rfl,Option.some.inj e0⟩
    have e3:(relabel scope X.env).names.lookup y=some .local\/(relabel scope X.env).names.lookup y=some .cell\/(relabel scope X.env).names.lookup y=some .free:=e3;have ne:¬y0∈xs:=λz=>by
     rw[ZY z]at ey;subst ey;rw[hq y0 (aA eM) z]at e3;rcases e3 with z|z|z<;>cases z
    rw[ZZ ne]at ey;subst ey;have jn:(relabel scope X.env).names.lookup y0=some .cell\/(relabel scope X.env).names.lookup y0=some .free:=by
     rcases e3 with z|z
     .exact absurd z (c6 y0 (aA eM) ne)
     .exact z
    obtain⟨kd,c,fb,g9⟩:=ci (E.off _ _ ne) jn;obtain⟨m,_,hl⟩:=I3.loc;obtain⟨u,r,lk⟩:=hl j y0 v eM ml (.inr kd);refine⟨u,r,.inr ⟨jn,c,fb,?_⟩⟩;rcases lk with⟨k1,_⟩|⟨_,c',q1,o,q2,q3⟩
    .exfalso;have kc:X.env.kindOf y0=some .local:=k1;rcases kd with k2|k2<;>rw[kc]at k2<;>cases k2
    .rw[g9]at q1;cases q1;exact⟨o,kg _ _ q2,q3⟩
  .rcases eh e with z|z
   .exact⟨none,fb y c z⟩
   .obtain⟨v,o,q2,q3⟩:=I3.cell y c z;exact⟨v,o,kg _ _ q2,q3⟩
  .have eT:p∈X.pn++aa:=by simpa[Cx.compE]using hp
   obtain⟨a1,a2,a3,a4,a5⟩:=I3.pin p eT;exact⟨kg _ _ a1,a2,aN (aH a1),I3.nostk' a3 a4,a5⟩
  .show(List.replicate xs.length none++σ).length=(xs++N').length;have dL:N'.length=X.N.length:=by rw[<- d4];unfold pY;rw[ak]
   rw[au,aK,au,I3.len,dL]
 have gS:∀{Hc:Hp},(∀b∈fp,Hc b=none)->∀b∈fp,oU Y [] Hc b:=λ{Hc}hn b hb=>by
  subst hX;exact⟨hn b hb,aN (gf b hb),h9 b hb,.inl hb,jI b hb,λp hp=>(f3 b hb).2.2.2.2.2 p (by simpa[Cx.compE]using hp)⟩
 have cS:∀s4:Shared,s4={ s3 with heap:=g,toks:=s3.toks+([] : List (Str×Value)).length } ->
   codeAny (model X.prog X.w) X.A (.compLoop (.ListComp a8 [⟨tg,iter,aS,0⟩] scope pos) 0 (.ref it) (.ref s2.heap.objs.size) Y.env) (compPost (model X.prog X.w) X.A X.xe use post (.ref s2.heap.objs.size) s3.heap.objs.size) s4:=by
  rintro s4 rfl;have YP:Y.prog=X.prog/\Y.w=X.w/\Y.K=X.K/\Y.calm=X.calm/\Y.A=X.A/\Y.env.locals=s3.heap.objs.size:=by subst hX;exact⟨rfl,rfl,rfl,rfl,rfl,rfl⟩
  obtain⟨y1,y2,y3,y4,y5,y6⟩:=YP;have ls:PE Y a8 te:=by subst hX;exact he _ _ _ _ _
  have iN:PG Y tg gt:=by subst hX;exact hg _ _ _ _ _
  have kP:PTs Y aS tc:=by subst hX;exact ht _ _ _ _ _
  have ei:Y.xe=λ_ _=>False:=by subst hX;rfl
  have yb:∀{Hc:Hp}{w':L2.St}{pn:Γ}{s':Shared},Inv Y pn w' Hc s'->Un (frs X.stack) fp H3 Hc s3.heap s'.heap:=λ{Hc w' pn s'}Z=>by
   have:=Z.base;subst hX;exact this
  have j1:∀{Hc:Hp}{w':L2.St}{pn:Γ}{s':Shared},Inv Y pn w' Hc s'->s'.os=s3.os:=λ{Hc w' pn s'}Z=>by
   have:=Z.os;subst hX;exact this
  refine codeAny_loop rfl (λn s'=>∃i ys Hc,∃w':L2.St,w'.length=xs.length/\Inv Y [] (w'++σ) Hc s'/\tn i s'.heap/\(∀b∈fp,Hc b=none)/\W i n ys Hc) (λn s5 hI=>?_) m0 ⟨0,[],H3,List.replicate xs.length none,aK,J4 _,T.keep _ _ _ eI λb _ o e=>kg b o e,λb hb=>(f3 b hb).1,w0⟩;obtain⟨i,ys,Hc,w',g5,Z,hW,ja,wc⟩:=hI;show wpAny _ _ ((compTurn (.ListComp a8 [⟨tg,iter,aS,0⟩] scope pos) 0 (.ref it) (.ref s2.heap.objs.size) Y.env).onRaise (λz=>do noteFrame z Y.env;theTreesLotGoes z)) _ _ s5;refine wpAny_noted (wpAny_noRaise ?_);rw[compTurn_list];show wpAny (model X.prog X.w) X.A _ _ _ _;rcases cz i n ys Hc wc with⟨stop,qn⟩|⟨go,step⟩
  .have hd:=T.done Y y1 y2 y3 (y4.trans hc) i [] s5 (w'++σ) Hc (λ_ _=>False) Z (gS ja) hW stop;rw[y5]at hd;refine ZU (wpAny_standAt (ZU (thn hd λr s6 hP=>?_)));obtain⟨hr,Z6⟩:=hP;subst hr;refine ZT ?_;obtain⟨m,fo,_⟩:=Z6.loc;rw[y6]at fo;have u6:=yb Z6;have hok:HOk X.prog X.w Hc s6.heap:=by
    have z:=Z6.hok;rw[y1,y2]at z;exact z
   have cn:Hc s3.heap.objs.size=none:=by
    have z:=Z6.free;rw[y6]at z;exact z
   have I6:Inv X aa σ Hc s6:=I3.call' (s':=s6) (ch:=fp) (j1 Z6) u6 hok Z6.bare λb hb=>⟨(f3 b hb).2.2.2.1,(f3 b hb).2.1,(f3 b hb).2.2.2.2.1,(f3 b hb).2.2.2.2.2⟩;have fC:oU X aa Hc s3.heap.objs.size:=I3.fpOk (aD _) cn;exact gX _ _ Hc s6 m _ fo I6 fC qn
  .have hd:=T.item Y y1 y2 y3 (y4.trans hc) i [] s5 (w'++σ) Hc (λ_ _=>False) Z (gS ja) hW go;rw[y5]at hd;refine ZU (wpAny_standAt (ZU (thn hd λr s6 hP=>?_)));obtain⟨u,hr,h6⟩:=hP;subst hr;refine ZU (thn h6 λ_ s7 hP=>?_);obtain⟨xv,H7,Z7,r7,yl,fR,l7⟩:=hP;have mw:=Z7.pinned (gS l7) (T.obj _ _ fR);have be:=iN _ s7 _ H7 xv u _ mw r7 (step xv H7 yl w' g5);rw[y1,y2,y5,ei]at be;refine ZU (thn be λ_ s8 hP=>?_);obtain⟨σ8,H8,Z8,pre,cm,e8,q8⟩:=hP;subst e8;have gh:=kP _ s8 _ H8 _ Z8 q8;rw[y1,y2,y5,ei]at gh;have am:∀{m':Nat}{fy:Β}{H9:Hp}{s9:Shared},Inv Y ([]++rm fp s7.heap) (pre++σ) H9 s9->m'<n->W (i+1) m' fy H9->∃m,m<n/\∃i ys Hc,∃w':L2.St,w'.length=xs.length/\Inv Y [] (w'++σ) Hc s9/\tn i s9.heap/\(∀b∈fp,Hc b=none)/\W i m ys Hc:=λ{m' fy H9 s9}Z9 d5 w9 =>
    ⟨m',d5,i+1,fy,H9,pre,cm,Z9.unpinned,T.keep _ _ _ fR λb hb o e=>(Z9.pin (b,o) (aM _ (aM _ (gB hb e)))).1,λb hb=>by
     obtain⟨o,e,_⟩:=T.obj _ _ fR b hb;exact(Z9.pin (b,o) (aM _ (aM _ (gB hb e)))).2.1,w9⟩
   refine ZU (thn gh λok s9 hP=>?_);obtain⟨H9,Z9,q9⟩:=hP;cases ok with
   |false =>
    obtain⟨m',d5,w9⟩:=q9;exact ZT ⟨rfl,am Z9 d5 w9⟩
   |true =>
    have iO:=ls _ s9 _ H9 _ Z9 q9;rw[y1,y2,y5,ei]at iO;refine ZU (ZU (thn iO λev f8 hP=>?_));obtain⟨yv,j0,my,kB,hz,gN,m',d5,kr⟩:=hP;have gE:=rP (X:=Y) _ f8 _ j0 (.ref s2.heap.objs.size) [yv] (.ref s2.heap.objs.size) [ev] (λ_ Hf=>Hf=upd j0 s2.heap.objs.size (.lst (ys++[yv]))) my rfl (.cons kB .nil) ⟨_,ys,yv,rfl,rfl,gN,hz,rfl⟩;rw[y1,y2,y5,ei]at gE;refine ZU (thn gE λav s11 hP=>?_);obtain⟨_,H11,mx,_,mm⟩:=hP;subst mm;exact ZT (ZT ⟨rfl,am mx d5 kr⟩)
 have gz:Y.env=compEnvC scope (ext s3.heap.objs.size++jF X.env.cells scope.names []) s3.heap.objs.size X.env:=by subst hX;rfl
 rw[gz]at cS;exact codeAny_compStart_list (cS _ rfl) (T.self _ 0 _ _ _ (T.keep _ _ _ eI λb _ o e=>kg b o e) (cS _ rfl))
theorem Le{ext:Addr->List (Str×Addr)}{fn:Str->Bool}{xs N':Θ}{tg:Expr}{aS:List Expr}{gt:TG}{tc:TT}(E:Dz X scope xs ext fn)(hc:X.calm=true)(d4:pY xs X.N=N')(bn:scope.kind=.function)(bo:∀y∈scope.names,y.2=.local->scope.names.lookup y.1=some .local)
 (bg:∀y∈scope.names,y.2=.free->X.env.kindOf y.1=some .cell\/X.env.kindOf y.1=some .free)(c6:∀y∈X.N,y∉xs->(relabel scope X.env).names.lookup y≠some .local)(hq:∀y∈X.N,y∈xs->(relabel scope X.env).names.lookup (hid y)=none)(hi:PI X tg iter wi)
 (hg:∀C s₀ H₀ ex pn,PG (X.compE ext fn N' scope xs C s₀ H₀ ex pn) tg gt)(ht:∀C s₀ H₀ ex pn,PTs (X.compE ext fn N' scope xs C s₀ H₀ ex pn) aS tc)(he:∀C s₀ H₀ ex pn,PE (X.compE ext fn N' scope xs C s₀ H₀ ex pn) a8 te)(hs:qi X iter) :
  PE X (.ListComp a8 [⟨tg,iter,aS,0⟩] scope pos) (lJ wi xs.length gt tc te):=by
 intro aa s σ H Q I h;rw[eval_ListComp];exact yr E hc d4 bn bo bg c6 hq hi hg ht he hs I h λC D Hc s6 m fl hn I6 fC q=>⟨m,hn,λh' iq=>⟨.ref D,Hc,I6.turned (it:=C) (h':=h') (t':=s6.toks) (λb o hb e=>(iq.2 b hb).trans e) fC.1 fC.2.1 fC.2.2.2.1 fC.2.2.2.2.1 fC.2.2.2.2.2,rfl,q⟩⟩
end
section
variable{X:Cx}{k:Nat}{f C:Addr}{fd:FuncData}{ps:Θ}{sp:Sp}{br:Β}{ds:Δ}{x m:Str}{p pos ag:Pos}{e o:Expr}{es:List Expr}{ta:TE}{t:TA}{Ex:Value->Ω->L2.St->Hp->Prop}
def UW(C:Addr)(sp:Sp)(br:Β)(Ex:Value->Ω->L2.St->Hp->Prop)(t:TA):TE:=λσ H Q=>t σ H λvs H1=>∀x dx,H1 x=none->H1 dx=none->dx≠x->sp (.ref x::(vs++br)) (upd (upd H1 dx (.own x)) x (.ins C dx [])) (λv H2=>v=.non/\Q (.ref x) H2) λC d H'=>Ex C d σ H'
theorem I9{aa:Γ}{σ:St}{H:Hp}{s:Shared}{Q:VK}{us:Δ}{vs:Β}(M:Mk X.K C f)(F:cH X.prog X.w X.K X.mg X.base (CXO X.prog X.w) k f fd ps sp)(hr:cA (k+1) X.A)(hb:Binds X.K fd ps ds)(hd:Vals br ds)
 (hx:tD X Ex)(I:Inv X aa σ H s)(r:Vals vs us)
 (h:∀x dx,H x=none->H dx=none->dx≠x->sp (.ref x::(vs++br)) (upd (upd H dx (.own x)) x (.ins C dx [])) (λv H2=>v=.non/\Q (.ref x) H2) λC d H'=>Ex C d σ H') :
  wpAny (model X.prog X.w) X.A (call (.ref C) us) (EP X aa σ Q) X.xe s:=by
 have hq:=h (s.heap.objs.size+1) s.heap.objs.size (I.hok.fresh (Xs _)) (I.hok.fresh (aD _)) (aN (XW _));have I2:=Inv.made (C:=C) I;have r2:Vals (V.ref (s.heap.objs.size+1)::(vs++br)) (Value.ref (s.heap.objs.size+1)::(us++ds)):=.cons rfl (r.append hd);have hl:(Value.ref (s.heap.objs.size+1)::us++ds).length=ps.length:=by
  have e:=r2.length;rw[F.len _ _ _ _ hq]at e;exact e.symm
 refine wpAny_call (Dc (f:=f) I.kIn M.makes M.init (beq_iff_eq.mp M.fn) (codeAny_mono (F.run _ X.stack _ _ ⟨Value.ref (s.heap.objs.size+1)::us,[]⟩ (Value.ref (s.heap.objs.size+1)::(us++ds)) _ _ _ (hr.make C us [])
  (I2.env0.make C us []) (hb _ (Value.ref (s.heap.objs.size+1)::us) I2.kIn hl) r2 hq) λr s' ck=>?_))
 cases r with
 |error e =>
  obtain⟨a,C,d,H',B,rfl,Fl,q'⟩:=ck;exact hx aa σ _ _ a C H' s' B d I2 Fl q'
 |ok fl =>
  cases fl with
  |ret u =>
   obtain⟨v,H',I3,rv,ev,q3⟩:=I2.after ck;subst ev;exact⟨rv,⟨V.ref (s.heap.objs.size+1),H',I3,rfl,q3⟩⟩
  |next=>exact False.elim ck
  |brk=>exact False.elim ck
  |cont=>exact False.elim ck
theorem Ky(M:Mk X.K C f)(F:cH X.prog X.w X.K X.mg X.base (CXO X.prog X.w) k f fd ps sp)(hr:cA (k+1) X.A)(hg:Gl X x)(hm:X.mg x=some (.ref C))(hb:Binds X.K fd ps ds)(hd:Vals br ds)(hx:tD X Ex)
 (ha:PA X (e::es) t)(aI:qq x:=by decide)(he:qf X e es:=by rfl)(aE:qo X pos es:=by rfl) :
  PE X (.Call (.Name x p) (e::es) [] pos) (UW C sp br Ex t):=by
 intro aa s σ H Q I h;refine wpAny_Call_Name_kw (iB I hg hm ?_ aI);refine callWith_K (h₀:=X.base) I.ok.mod.kin M.kp (thn (ha pos aa s σ H _ I h) λus s1 ⟨vs,H1,I1,r,q⟩=>⟨I1.kIn,?_⟩) he aE;exact I9 M F hr hb hd hx I1 r q
end
section
variable{κ:Type}[DecidableEq κ]
def vC(kvs:List (κ×V))(k:κ):Option V:=(kvs.find? λkv=>decide (kv.1=k)).map (·.2)
def putK(kvs:List (κ×V))(k:κ)(v:V):List (κ×V) :=
 if(kvs.any λkv=>decide (kv.1=k))=true then kvs.map (λkv=>if kv.1=k then(kv.1,v)else kv)else kvs++[(k,v)]
theorem Cy{p:κ×V}{r:List (κ×V)}{k:κ}(e:p.1=k):vC (p::r) k=some p.2:=by simp[vC,List.find?_cons,e]
theorem uY{p:κ×V}{r:List (κ×V)}{k:κ}(e:¬p.1=k):vC (p::r) k=vC r k:=by simp[vC,List.find?_cons,e]
theorem DY(kvs:List (κ×V))(k:κ)(v:V):(putK kvs k v).length<=kvs.length+1:=by
 unfold putK;split
 .rw[ak];exact Xs _
 .rw[au,List.length_cons,List.length_nil];exact aD _
theorem m8.isSome_eq{o:Option V}{u:Ψ}(r:m8 o u):o.isSome=u.isSome:=by
 cases o with
 |none=>cases u with
  |none=>rfl
  |some _=>exact(show False from r).elim
 |some _=>cases u with
  |none=>exact(show False from r).elim
  |some _=>rfl
theorem m8.getD{o:Option V}{u:Ψ}{d:V}{d':Value}(r:m8 o u)(rd:RelV d d'):RelV (o.getD d) (u.getD d'):=by
 cases o with
 |none=>cases u with
  |none=>exact rd
  |some _=>exact(show False from r).elim
 |some _=>cases u with
  |none=>exact(show False from r).elim
  |some _=>exact r
theorem KV.val{kvs:List (κ×V)}{vs:List (κ×Value)}(r:KV kvs vs)(k:κ):m8 (vC kvs k) (valueAt vs k):=by
 unfold KV at r
 induction r with
 |nil=>exact True.intro
 |@cons p q ps qs h t ih =>
  obtain⟨h1,h2⟩:=h;by_cases e:p.1=k
  .have e':q.1=k:=h1.symm.trans e;have b:valueAt (q::qs) k=some q.2:=by simp[valueAt,List.find?_cons,e']
   rw[Cy e,b];exact h2
  .have e':¬q.1=k:=λz=>e (h1.trans z);have b:valueAt (q::qs) k=valueAt qs k:=by simp[valueAt,List.find?_cons,e']
   rw[uY e,b];exact ih
theorem KV.any{kvs:List (κ×V)}{vs:List (κ×Value)}(r:KV kvs vs)(k:κ):(kvs.any λkv=>decide (kv.1=k))=vs.any λkv=>decide (kv.1=k):=by
 unfold KV at r
 induction r with
 |nil=>rfl
 |cons h t ih=>rw[List.any_cons,List.any_cons,ih,h.1]
theorem KV.repl{kvs:List (κ×V)}{vs:List (κ×Value)}(r:KV kvs vs)(k:κ){y:V}{u:Value}(ry:RelV y u) :
  KV (kvs.map λkv=>if kv.1=k then(kv.1,y)else kv) (vs.map λkv=>if kv.1=k then(kv.1,u)else kv):=by
 unfold KV at r ⊢
 induction r with
 |nil=>exact .nil
 |@cons p q ps qs h t ih =>
  rw[List.map_cons,List.map_cons];refine .cons ?_ ih;obtain⟨h1,h2⟩:=h;by_cases e:p.1=k
  .rw[ZY e,ZY (h1.symm.trans e)];exact⟨h1,ry⟩
  .rw[ZZ e,ZZ (λz=>e (h1.trans z))];exact⟨h1,h2⟩
theorem KV.put{kvs:List (κ×V)}{vs:List (κ×Value)}(r:KV kvs vs)(k:κ){y:V}{u:Value}(ry:RelV y u):KV (putK kvs k y) (stored vs k u):=by
 unfold putK stored;rw[r.any k];by_cases e:(vs.any λkv=>decide (kv.1=k))=true
 .rw[ZY e,ZY e];exact r.repl k ry
 .rw[ZZ e,ZZ e];exact Paired.snoc r ⟨rfl,ry⟩
theorem KV.length{kvs:List (κ×V)}{vs:List (κ×Value)}(r:KV kvs vs):kvs.length=vs.length:=Paired.length r
end
theorem Dt{P:Program}{w:World}{k:Key}{u:Value}(r:RelV (kV k) u):(eN P w).is k u=true:=by
 cases k with
 |inl i=>obtain⟨t,e⟩:=(show ∃t,u=Value.int i t from r);subst e;exact Du P w i t
 |inr x=>obtain⟨t,e⟩:=(show ∃t,u=Value.str x t from r);subst e;exact Cz P w x t
section
variable{P:Program}{w:World}{H:Hp}{h:Heap}{a:Addr}
theorem Xw{u:HO}(ok:HOk P w H h)(e:Rd H a u):cX P w H h a u:=e.ok ok
theorem sG{kvs:List (Key×V)}(ok:HOk P w H h)(e:Rd H a (.dK kvs)):kvs.length<=sizeLine/\(a==sysModules)=false/\∃vs,KV kvs vs/\h.DictOf (eN P w) a vs :=
 show cX P w H h a (.dK kvs)from Xw ok e
theorem Ym{kvs:List (Key×V)}(ok:HOk P w H h)(e:H a=some (.dK kvs)):kvs.length<=sizeLine/\(a==sysModules)=false/\∃vs,KV kvs vs/\h.DictOf (eN P w) a vs:=sG ok (.inl e)
end
def rN(H:Hp)(a:Addr)(y:V)(r:Option V):Prop :=
 (∃kvs k,Rd H a (.dK kvs)/\y=kV k/\r=vC kvs k)\/False
def Y6(H:Hp)(a:Addr)(y v:V)(H':Hp):Prop :=
 (∃kvs k,H a=some (.dK kvs)/\y=kV k/\kvs.length<sizeLine/\H'=upd H a (.dK (putK kvs k v)))\/False
theorem rN.k{H:Hp}{a:Addr}{kvs:List (Key×V)}{k:Key}(e:H a=some (.dK kvs)):rN H a (kV k) (vC kvs k):=.inl ⟨kvs,k,.inl e,rfl,rfl⟩
section
variable{X:Cx}{aa:Γ}{σ:St}{H:Hp}{s:Shared}{a:Addr}{y v:V}{u r:Value}{o:Option V}{A:Around}{E:Ξ}
theorem Inv.big(I:Inv X aa σ H s):sysModules<s.heap.objs.size:=by
 have h:mainGlobals<s.heap.objs.size:=(I.mod.glob.keeps I.bk).lt;exact WJ (by decide) h
theorem Jt{Q:Ξ}(hu:A.units+1<cLine)(I:Inv X aa σ H s)(g:rN H a y (some v))(ry:RelV y u)(h:∀w' s',Inv X aa σ H s'->RelV v w'->Q w' s') :
  wpAny (model X.prog X.w) A (getItem (.ref a) u) Q E s:=by
 rcases g with⟨kvs,k,e,ey,l⟩|hF
 .subst ey;obtain⟨z,hd,vs,rel,dd⟩:=sG I.hok e;obtain⟨w',hw,dQ⟩:=m8.some_of (v:=v) (o:=valueAt vs k) (by rw[l];exact rel.val k);exact wpAny_getItem_of (Dt ry) dd.mapOf hw (h w' _ (I.tok _) dQ)
 .exact hF.elim
theorem aal{Q:Ξ}(hu:A.units+1<cLine)(I:Inv X aa σ H s)(g:rN H a y o)(ry:RelV y u)(h:∀s',Inv X aa σ H s'->Q (.bool o.isSome) s') :
  wpAny (model X.prog X.w) A (compareOp .In u (.ref a)) Q E s:=by
 rcases g with⟨kvs,k,e,ey,l⟩|hF
 .subst ey;obtain⟨z,hd,vs,rel,dd⟩:=sG I.hok e;refine wpAny_in_of (Dt ry) hd dd.mapOf ?_;rw[<- (rel.val k).isSome_eq,<- l];exact h _ (I.tok _)
 .exact hF.elim
theorem Ri{Q:Ξ}(hu:A.units+1<cLine)(I:Inv X aa σ H s)(g:rN H a y o)(ry:RelV y u)(h:∀s',Inv X aa σ H s'->Q (.bool (!o.isSome)) s') :
  wpAny (model X.prog X.w) A (compareOp .NotIn u (.ref a)) Q E s:=by
 rcases g with⟨kvs,k,e,ey,l⟩|hF
 .subst ey;obtain⟨z,hd,vs,rel,dd⟩:=sG I.hok e;refine wpAny_notIn_of (Dt ry) hd dd.mapOf ?_;rw[<- (rel.val k).isSome_eq,<- l];exact h _ (I.tok _)
 .exact hF.elim
theorem Oq{h':Heap}{t':Nat}{ob:HO}(I:Inv X aa σ H s)(mu:Mut (H a))(hs:Heap.SameBut a s.heap h')(he:∃q,h'.get? a=some q)(new:cX X.prog X.w (upd H a ob) h' a ob) :
  Inv X aa σ (upd H a ob) { s with heap:=h',toks:=t' } :=
 I.write (x:=a) (e:=a) mu (.inl rfl) (λb q hb z=>(hs.2 b hb).trans z) he new
theorem S_{P:Program}{w:World}{H':Hp}{h':Heap}{kvs:List (Key×V)}{vs:List (Key×Value)}(z:kvs.length<=sizeLine)(hd:(a==sysModules)=false)(rel:KV kvs vs)(dd:h'.DictOf (eN P w) a vs) :
  cX P w H' h' a (.dK kvs):=⟨z,hd,vs,rel,dd⟩
theorem Jc{H':Hp}{Q:Unit->Shared->Prop}(hu:A.units+1<cLine)(I:Inv X aa σ H s)(g:Y6 H a y v H')(ry:RelV y u)(rv:RelV v r)(h:∀s',Inv X aa σ H' s'->Q () s') :
  wpAny (model X.prog X.w) A (setItem (.ref a) u r) Q E s:=by
 rcases g with⟨kvs,k,e,ey,l,eH⟩|hF
 .subst ey eH;obtain⟨z,hd,vs,rel,dd⟩:=Ym I.hok e;have hz:vs.length<=sizeLine:=by rw[<- rel.length];exact z
  have hl:(putK kvs k v).length<=sizeLine:=by have:=DY kvs k v;lia
  refine wpAny_setItem_pairs (hsz:=hz) (Dt ry) dd λh' mv hs=>h _ ?_;have he:∃q,h'.get? a=some q:=by obtain⟨q,_,_,hq,_⟩:=mv;exact⟨q,hq⟩
  exact Oq I (by rw[e];exact True.intro) hs he (S_ hl hd (rel.put k rv) mv)
 .exact hF.elim
end
def Sd(i:Expr):Prop:=∀ov iv,subscripted i false ov iv=operate [ov,iv] (getItem ov iv)
theorem Rb{prog:Program}{w:World}{A:Around}{E:Ξ}{s:Shared}{env:Env}{ai bb:Expr}{pos:Pos}{T id:String}{Q:Ξ}
 (hl:typeLookup (.type T) "__getitem__"=pure (some (.builtin id)))(hs:Sd bb)
 (h:wpAny (model prog w) A (eval ai env) (λo s₁=>wpAny (model prog w) A (eval bb env) (λi s₂=>s₂.TypeIs o T/\wpAny (model prog w) A (getItem o i) Q E s₂) E s₁) E s) :
  wpAny (model prog w) A (eval (.Subscript ai bb pos) env) Q E s:=by
 refine Subscript_ (wpAny_mono h (λo s₁ h₁=>wpAny_mono h₁ (λi s₂ h₂=>?_) λ_ _ x=>x) λ_ _ x=>x);obtain⟨hT,h₂⟩:=h₂;unfold subscriptTail;refine ZU ?_;rw[getitemInPython_of_ne hT.not_modules];refine ZU (wpAny_specialOf hT hl ?_);have am:wpAny (model prog w) A (subscripted bb false o i) (λr s₃=>wpAny (model prog w) A (letTemporaryGo ai o r >>= λ_=>pure r) Q E s₃) E s₂:=by
  rw[hs o i];exact wpAny_operating (wpAny_mono h₂ (λr s₃ h₃=>ZU (wpAny_letTemporaryGo (ZT h₃))) λ_ _ x=>x)
 first
  |exact ZT (ZU am)
  |exact ZU (ZT (ZU am))
  |exact ZU am
theorem El{X:Cx}{aa:Γ}{σ:St}{H:Hp}{s:Shared}{a:Addr}{y:V}{o:Option V}(I:Inv X aa σ H s)(g:rN H a y o):s.TypeIs (.ref a) "dict":=by
 rcases g with⟨kvs,k,e,_,_⟩|hF
 .obtain⟨_,_,vs,_,dd⟩:=sG I.hok e;exact dd.typeIs
 .exact hF.elim
def Y9(td ty:TE):TE:=λσ H Q=>td σ H λx H1=>ty σ H1 λy H2=>∃a v,x=.ref a/\rN H2 a y (some v)/\Q v H2
def aa2(ty td:TE):TE:=λσ H Q=>ty σ H λy H1=>td σ H1 λx H2=>∃a o,x=.ref a/\rN H2 a y o/\Q (.bl o.isSome) H2
def Rq(ty td:TE):TE:=λσ H Q=>ty σ H λy H1=>td σ H1 λx H2=>∃a o,x=.ref a/\rN H2 a y o/\Q (.bl (!o.isSome)) H2
def Wt(td ty tv:TE):TS:=λD σ H=>tv σ H λv H1=>td σ H1 λx H2=>ty σ H2 λy H3=>∃a H4,x=.ref a/\Y6 H3 a y v H4/\D.nx σ H4
section
variable{X:Cx}{o i e ai:Expr}{pos ay a7:Pos}{td ty tv:TE}
theorem Qc(hu:X.A.units+1<cLine)(ho:PE X o td)(hi:PE X i ty)(hs:Sd i):PE X (.Subscript o i pos) (Y9 td ty):=by
 intro aa s σ H Q I h;refine Rb PySem.F.slot_dict_getitem.lookup hs (thn (ho aa s σ H _ I h) λu s1 ⟨x,H1,I1,rx,q1⟩=>thn (hi aa s1 σ H1 _ I1 q1) λiv s2 hP=>?_);obtain⟨y,H2,I2,ry,a,v,ex,g,q2⟩:=hP;subst ex;obtain rfl:u=Value.ref a:=rx;exact⟨El I2 g,Jt hu I2 g ry λw' s3 I3 dQ=>⟨v,H2,I3,dQ,q2⟩⟩
theorem Tv(hu:X.A.units+1<cLine)(hi:PE X i ty)(ho:PE X o td):PC X .In i o (aa2 ty td):=by
 intro aa s σ H Q I h;refine thn (hi aa s σ H _ I h) λiv s1 ⟨y,H1,I1,ry,q1⟩=>thn (ho aa s1 σ H1 _ I1 q1) λu s2 hP=>?_;obtain⟨x,H2,I2,rx,a,ov,ex,g,q2⟩:=hP;subst ex;obtain rfl:u=Value.ref a:=rx;exact aal hu I2 g ry λs3 I3=>⟨.bl ov.isSome,H2,I3,rfl,q2⟩
theorem Jq(hu:X.A.units+1<cLine)(hi:PE X i ty)(ho:PE X o td):PC X .NotIn i o (Rq ty td):=by
 intro aa s σ H Q I h;refine thn (hi aa s σ H _ I h) λiv s1 ⟨y,H1,I1,ry,q1⟩=>thn (ho aa s1 σ H1 _ I1 q1) λu s2 hP=>?_;obtain⟨x,H2,I2,rx,a,ov,ex,g,q2⟩:=hP;subst ex;obtain rfl:u=Value.ref a:=rx;exact Ri hu I2 g ry λs3 I3=>⟨.bl (!ov.isSome),H2,I3,rfl,q2⟩
theorem Om(hu:X.A.units+1<cLine)(ho:PE X o td)(hi:PE X i ty)(hv:PE X ai tv)(hs:swapsWith ai (some (.Subscript o i ay)) pos.line X.env=pure false) :
  PS X (.Assign [.Subscript o i ay] ai pos) (Wt td ty tv):=by
 intro aa s σ H D I h;refine wpAny_Assign_Subscript (thn (hv aa s σ H _ I h) λr s1 ⟨v,H1,I1,rv,q1⟩=>thn (ho aa s1 σ H1 _ I1 q1) λu s2 ⟨x,H2,I2,rx,q2⟩=>thn (hi aa s2 σ H2 _ I2 q2) λiv s3 hP=>?_) hs;obtain⟨y,H3,I3,ry,a,H4,ex,g,q3⟩:=hP;subst ex;obtain rfl:u=Value.ref a:=rx;exact Jc hu I3 g ry rv λs4 I4=>⟨σ,H4,I4,q3⟩
end
theorem Ln{P:Program}{w:World}{H:Hp}(h:Heap)(hb:sysModules<h.objs.size):cX P w H (h.push { cls:=.type "dict",data:=.dict #[] }) h.objs.size (.dK []) :=
 ⟨aV _,beq_eq_false_iff_ne.mpr (Ne.symm (aN hb)),[],.nil,Heap.DictOf.new h⟩
def Vp:TE:=λ_ H Q=>∀p,H p=none->Q (.ref p) (upd H p (.dK []))
section
variable{X:Cx}{pos:Pos}
theorem Mq:PE X (.Dict [] [] pos) Vp:=λaa s σ H Q I h =>
 wpAny_Dict_empty ⟨.ref s.heap.objs.size,_,I.laid (a:=s.heap.objs.size) (o:=.dK []) (t':=s.toks) (λ_ _ q=>aF _ q) (aD _) (Ln s.heap I.big),rfl,h _ (I.hok.fresh (aD _))⟩
end
structure M2(X:Cx)(o:Expr)(m:Str)(ag:Pos)(e f:Expr)(cpos:Pos):Prop where
 base:qV X o m
 few:((backTo cpos (starEach [e,f] X.env)).all (λx=>!x.1)&&(backToKw cpos (keywordEach [] X.env)).all (λx=>x.1.isSome)
  && decide (([e,f] : List Expr).length+([] : List Keyword).length+(if([] : List Keyword).isEmpty then 0 else 1)<30))=true
 line:zk ag cpos
 trees:backTo cpos (starEach [e,f] X.env)=[(false,eval e X.env),(false,eval f X.env)]
def IsD(H:Hp)(a:Addr):Prop:=(∃kvs,Rd H a (.dK kvs))\/False
theorem Vx{X:Cx}{aa:Γ}{σ:St}{H:Hp}{s:Shared}{a:Addr}(I:Inv X aa σ H s)(d:IsD H a) :
  s.TypeIs (.ref a) "dict"/\(∀b,Value.ref a=.ref b->∃ob,s.heap.get? b=some ob/\ob.dict=none)/\(a==sysModules)=false:=by
 rcases d with⟨kvs,e⟩|hF
 .obtain⟨_,hd,vs,_,dd⟩:=sG I.hok e;refine⟨dd.typeIs,λb q=>?_,hd⟩;cases q;obtain⟨ob,_,_,h1,h2,_⟩:=dd;exact⟨ob,h1,h2.2.1⟩
 .exact hF.elim
section
variable{X:Cx}{aa:Γ}{σ:St}{H:Hp}{s:Shared}{a:Addr}{y d:V}{u r:Value}{o:Option V}{A:Around}{E:Ξ}
theorem Ut{Q:Ξ}(hu:A.units+1<cLine)(I:Inv X aa σ H s)(g:rN H a y o)(ry:RelV y u)(rd:RelV d r)(h:∀w' s',Inv X aa σ H s'->RelV (o.getD d) w'->Q w' s') :
  wpAny (model X.prog X.w) A (call (.builtin "dict.get") [.ref a,u,r]) Q E s:=by
 rcases g with⟨kvs,k,e,ey,l⟩|hF
 .subst ey;obtain⟨z,hd,vs,rel,dd⟩:=sG I.hok e;refine call_meetsIn PySem.F.slot_dict_get dd.typeIs PySem.F.entry_dict_get (PySem.F.args_dict_get_3 _ _ _) (meets_dict_get_default (eN X.prog X.w) a (Dt ry) hd r) ⟨_,dd.mapOf,h _ _ (I.tok _) ?_⟩;rw[l];exact(rel.val k).getD rd
 .exact hF.elim
end
def Uq(td ty tx:TE):TE:=λσ H Q=>td σ H λx H1=>∃a,x=.ref a/\IsD H1 a/\ty σ H1 λy H2=>tx σ H2 λz H3=>∃o,rN H3 a y o/\Q (o.getD z) H3
section
variable{X:Cx}{o e f:Expr}{ag cpos:Pos}{td ty tx:TE}
theorem NP(hu:X.A.units+1<cLine)(ho:PE X o td)(he:PE X e ty)(hf:PE X f tx)(m:M2 X o "get" ag e f cpos):PE X (.Call (.Attribute o "get" ag) [e,f] [] cpos) (Uq td ty tx):=by
 intro aa s σ H Q I h;refine wpAny_Call_method m.base m.few m.line PySem.F.plainAttrs_dict PySem.F.slot_dict_get PySem.F.type_dict_get (thn (ho aa s σ H _ I h) λu s1 hP=>?_);obtain⟨x,H1,I1,rx,a,ex,d,q1⟩:=hP;subst ex;obtain rfl:u=Value.ref a:=rx;obtain⟨t1,t2,_⟩:=Vx I1 d;refine⟨t1,t2,?_⟩;rw[m.trees];refine Calls.callWith_builtin rfl (Calls.evalArgs_plain (Calls.spliced_cons (thn (he aa s1 σ H1 _ I1 q1) λiv s2 ⟨y,H2,I2,ry,q2⟩ =>
  Calls.spliced_cons (thn (hf aa s2 σ H2 _ I2 q2) λfv s3 ⟨z,H3,I3,rz,ov,g,q3⟩=>Calls.spliced_nil ?_))))
 exact Ut hu I3 g ry rz λw' s4 I4 dQ=>⟨_,H3,I4,dQ,q3⟩
end
def Itk(a:Addr)(o:Obj)(kvs:List (Key×V)):It:=⟨λi H=>H a=some (.frz o (.dK kvs))/\i<kvs.length,λi H v H'=>H'=H/\∃k y,kvs[i]?=some (k,y)/\v=kV k,λi H=>H a=some (.frz o (.dK kvs))/\i=kvs.length⟩
theorem RK{P:Program}{w:World}{k:Key}{u:Value}(h:(eN P w).is k u=true):RelV (kV k) u:=by
 have h:qj k u=true:=h;cases k with
 |inl i =>
  cases u<;>simp[qj,Value.isInt]at h
  .subst h;exact⟨_,rfl⟩
 |inr x =>
  cases u<;>simp[qj,Value.isStrOf]at h
  .subst h;exact⟨_,rfl⟩
theorem KV.at{κ:Type}{kvs:List (κ×V)}{vs:List (κ×Value)}(r:KV kvs vs):∀{i:Nat}{k:κ}{y:V},kvs[i]?=some (k,y)->∃u,vs[i]?=some (k,u)/\RelV y u:=by
 unfold KV at r
 induction r with
 |nil=>intro i k y h;cases h
 |@cons p q ps qs h t ih =>
  intro i k y e;cases i with
  |zero =>
   rw[List.getElem?_cons_zero]at e;cases e;obtain⟨q1,q2⟩:=q;obtain⟨h1,h2⟩:=h;cases h1;exact⟨q2,rfl,h2⟩
  |succ i =>
   rw[List.getElem?_cons_succ]at e ⊢;exact ih e
theorem JC{P:Program}{w:World}{K:Frag}{tg:Expr}(it a:Addr)(o:Obj)(kvs:List (Key×V))(vs:List (Key×Value))(ep:Nat)(rel:KV kvs vs)(hD:∀h:Heap,h.get? a=some o->h.DictAt (eN P w) a vs ep) :
  Turn P w K tg (Itk a o kvs) [it] it (λi h=>h.IsKeyIter it a i vs.length ep) where
 mem:=by simp
 obj:=λi h st b hb=>by
  have e:b=it:=by simpa using hb
  subst e;obtain⟨o,ho,_,hd⟩:=st;exact⟨o,ho,λv z=>by rw[hd]at z;cases z⟩
 keep:=λi h h' st k=>let⟨o,ho,r⟩:=st;⟨o,k it (by simp) o ho,r⟩
 item:=by
  intro X hP hw hK hc i aa s σ H E I hf st hg;subst hP hw hK;obtain⟨hg,eW⟩:=hg;obtain⟨ho,_⟩:=(show cX X.prog X.w H s.heap a (.frz o (.dK kvs))from I.hok a _ hg);obtain⟨f0,f1,f2,f3,f4,f5⟩:=hf it (by simp);obtain⟨⟨k,y⟩,hx⟩ : ∃p,kvs[i]?=some p:=⟨kvs[i],by simp[eW]⟩;obtain⟨u,hu,ru⟩:=rel.at hx;refine wpAny_pyNext_dict_item st (hD _ ho) hu λbv h' gu dP sb=>?_;have I1:Inv X aa σ H { s with heap:=h' }:=I.turned (t':=s.toks) (λb ob hb e=>(sb.2 b hb).trans e) f0 f1 f3 f4 f5;obtain⟨oi,e,c,d⟩:=id dP;exact⟨bv,rfl,Ik (s:={ s with heap:=h' }) e c d (by decide) ⟨kV k,H,I1,RK gu,⟨rfl,k,y,hx,rfl⟩,dP,λb hb=>(hf b hb).1⟩⟩
 done:=by
  intro X hP hw hK hc i aa s σ H E I hf st hg;subst hP hw hK;obtain⟨hg,rfl⟩:=hg;obtain⟨ho,_⟩:=(show cX X.prog X.w H s.heap a (.frz o (.dK kvs))from I.hok a _ hg);obtain⟨f0,f1,f2,f3,f4,f5⟩:=hf it (by simp);have hl:=rel.length;exact wpAny_pyNext_dict_end (I.ok.hd hc) st (hD _ ho) (by simp;exact Wp (Eq.symm hl)) λh' eb=>⟨rfl,I.turned (t':=s.toks) (λb ob hb e=>eb b ob hb e) f0 f1 f3 f4 f5⟩
 self:=λ_ _ _ _ _ st h=>wpAny_pyIter_keyiter st h
section
variable{X:Cx}{tg:Expr}
def Xi(te:TE):TI:=λσ H R=>te σ H λx H1=>∃a kvs,x=.ref a/\H1 a=some (.dK kvs)/\∀o,R (Itk a o kvs) (upd H1 a (.frz o (.dK kvs)))
theorem Qq{l:Expr}{tl:TE}(hl:PE X l tl):PI X tg l (Xi tl):=by
 intro aa s σ H R I h;refine thn (hl aa s σ H _ I h) λv s1 hP=>?_;obtain⟨x,H1,I1,r1,a,kvs,ex,ha,q⟩:=hP;subst ex;cases r1;have ok:=(show cX X.prog X.w H1 s1.heap a (.dK kvs)from I1.hok a _ ha);obtain⟨z,hd,vs,rel,o,es,ep,e,ex,ed,ek,ko,en⟩:=ok;have hD:∀h:Heap,h.get? a=some o->h.DictAt (eN X.prog X.w) a vs ep:=λh e=>⟨o,es,e,ex,ed,ek,ko,en⟩;have I2:Inv X aa σ (upd H1 a (.frz o (.dK kvs))) s1:=by
  have:=I1.write (x:=a) (e:=a) (o:=.frz o (.dK kvs)) (h':=s1.heap) (t':=s1.toks) (by rw[ha];exact True.intro) (.inl rfl) (λb u hb z=>z) ⟨o,e⟩ ⟨e,z,hd,vs,rel,o,es,ep,e,ex,ed,ek,ko,en⟩;exact this
 refine wpAny_pyIter_dict hd (hD _ e) ?_;refine⟨s1.heap.objs.size,[s1.heap.objs.size],_,Itk a o kvs,_,rfl,I2.kept (t':=s1.toks) λb ob z=>aF _ z,JC _ a o kvs vs ep rel hD,⟨_,aQ _ rfl,rfl,rfl⟩,λb hb=>?_,q o⟩;have e:b=s1.heap.objs.size:=by simpa using hb
 subst e;exact I2.fpOk (aD _) (I2.hok.fresh (aD _))
def tMG(g:TG):TG:=λv σ H Q=>∃R:L2.St->Hp->Prop,g v σ H R/\∀σ' H',R σ' H'->Q σ' H'
def tMT(t:TT):TT:=λσ H Q=>∃R:Bool->Hp->Prop,t σ H R/\∀b H',R b H'->Q b H'
theorem PG.mono{e:Expr}{g:TG}(h:PG X e g):PG X e (tMG g):=λaa s σ H v u Q I r hP=>by obtain⟨R,h1,h2⟩:=hP;exact thn (h aa s σ H v u R I r h1) λ_ s' hP=>by obtain⟨σ',H',I',q⟩:=hP;exact⟨σ',H',I',h2 σ' H' q⟩
theorem PTs.mono{aS:List Expr}{t:TT}(h:PTs X aS t):PTs X aS (tMT t):=λaa s σ H Q I hP=>by obtain⟨R,h1,h2⟩:=hP;exact thn (h aa s σ H R I h1) λb s' hP=>by obtain⟨H',I',q⟩:=hP;exact⟨H',I',h2 b H' q⟩
end
structure vf(K:Frag)(B:Addr)(m:Str)(f:Addr):Prop where
 ga:specialIn K (.ref B) "__getattribute__"=some (some (.builtin "type.__getattribute__"))
 rd:readsIn K B (.type "type")=true
 at_:findCls K (.ref B) (.type "type") m=some (.val (.ref f))
 hd:handedIn (.ref f)=true
 kp:keepIn K (.ref f)=true
section
variable{X:Cx}{k:Nat}{f B:Addr}{fd:FuncData}{ps:Θ}{sp:Sp}{br:Β}{ds:Δ}{x m:Str}{p pos ag:Pos}{e:Expr}{es:List Expr}{t:TA}{Ex:Value->Ω->L2.St->Hp->Prop}
theorem vf.get{aa:Γ}{σ:L2.St}{H:Hp}{s:Shared}{pl:Sem Bool}{A:Around}{E:Ξ}{Q:Value×Δ->Shared->Prop}(c:vf X.K B m f)(I:Inv X aa σ H s)(h:∀t,Q (.ref f,[]) { s with toks:=t }) :
  wpAny (model X.prog X.w) A (getMethod (.ref B) m pl) Q E s :=
 method_cls I.kIn c.ga (cls_value I.kIn c.rd c.at_ c.hd (h _))
theorem QB{pl:Sem Bool}(c:vf X.K B m f)(F:cH X.prog X.w X.K X.mg X.base CX0 k f fd ps sp)(hr:cA k X.A)(hg:Gl X x)(hm:X.mg x=some (.ref B))(hb:Binds X.K fd ps [])(ha:PA X (e::es) t)(aI:qq x:=by decide)
 (be:qf X e es:=by rfl)(aE:qo X pos es:=by rfl)
 (ht:eval (.Call (.Attribute (.Name x p) m ag) (e::es) [] pos) X.env=(do
   let ov <- eval (.Name x p) X.env
   standAt ag.atName
   let(f,first) <- holding [ov] (getMethod ov m pl)
   callWith pos f first (backTo pos (starEach (e::es) X.env)) (backToKw pos (keywordEach [] X.env))):=by rfl) :
  PE X (.Call (.Attribute (.Name x p) m ag) (e::es) [] pos) (Eu sp t):=by
 intro aa s σ H Q I h;refine methodCall_KW (pl:=pl) (iB I hg hm (c.get I λtk=>?_) aI) ht;refine callWith_K (first:=[]) (h₀:=X.base) I.ok.mod.kin c.kp (thn (ha pos aa _ σ H _ (I.tok tk) h) λus s2 ⟨vs,H2,I2,r,q2⟩=>⟨I2.kIn,?_⟩) be aE;exact Fo (us:=us) (vs:=vs) F hr hb .nil Eb I2 r (by rw[List.append_nil];exact q2)
end
theorem Same.tup{K:Frag}{H H':Hp}{a:Addr}{xs:Β}(e:Same H H')(h:SqT K H a xs):SqT K H' a xs:=by
 rcases h with(h|⟨o,h⟩)|h
 .exact .inl (.inl (e _ _ h))
 .exact .inl (.inr ⟨o,e _ _ h⟩)
 .exact .inr h
mutual
inductive eY(K:Frag)(H:Hp):V->PyData->Prop
 |non:eY K H .non .none
 |bl (b:Bool):eY K H (.bl b) (.bool b)
 |int (i:Int):eY K H (.int i) (.int i)
 |str (x:Str):eY K H (.str x) (.str x)
 |lst {a:Addr}{xs:Β}{ds:List PyData} : H a=some (.lst xs)->dh K H xs ds->eY K H (.ref a) (.list ds)
 |tup {a:Addr}{xs:Β}{ds:List PyData} : SqT K H a xs->dh K H xs ds->eY K H (.ref a) (.tuple ds)
inductive dh(K:Frag)(H:Hp):Β->List PyData->Prop
 |nil:dh K H [] []
 |cons {x:V}{xs:Β}{d:PyData}{ds:List PyData} : eY K H x d->dh K H xs ds->dh K H (x::xs) (d::ds)
end
mutual
theorem eY.same{K:Frag}{H H':Hp}(S:Same H H'){x:V}{d:PyData}(h:eY K H x d):eY K H' x d:=by
 cases h with
 |non|bl|int|str=>constructor
 |lst e h=>exact .lst (S _ _ e) (dh.same S h)
 |tup e h=>exact .tup (S.tup e) (dh.same S h)
theorem dh.same{K:Frag}{H H':Hp}(S:Same H H'){xs:Β}{ds:List PyData}(h:dh K H xs ds):dh K H' xs ds:=by
 cases h with
 |nil=>exact .nil
 |cons h t=>exact .cons (eY.same S h) (dh.same S t)
end
section
variable{X:Cx}{aa:Γ}{σ:L2.St}{H:Hp}{s:Shared}
mutual
theorem Inv.readsK(I:Inv X aa σ H s){x:V}{d:PyData}{v:Value}(h:eY X.K H x d)(r:RelV x v):∃as,Reads s.heap v d as:=by
 cases h with
 |non=>cases r;exact⟨_,.none⟩
 |bl b=>cases r;exact⟨_,.bool b⟩
 |int i=>obtain⟨t,rfl⟩:=r;exact⟨_,.int i t⟩
 |str x=>obtain⟨t,rfl⟩:=r;exact⟨_,.str x t⟩
 |lst e h =>
  cases r;obtain⟨its,rv,⟨o,ho,hc,n,hd⟩⟩:=I.lstIs e;obtain⟨as,q⟩:=Inv.readsAllK I h rv;exact⟨_,.list ho hc hd q⟩
 |tup e h =>
  cases r;obtain⟨its,rv,⟨o,ho,hc,n,hd⟩,_⟩:=I.tuple e;obtain⟨as,q⟩:=Inv.readsAllK I h rv;exact⟨_,.tuple ho hc hd q⟩
theorem Inv.readsAllK(I:Inv X aa σ H s){xs:Β}{ds:List PyData}{vs:Δ}(h:dh X.K H xs ds)(r:Vals xs vs):∃as,ReadsAll s.heap vs ds as:=by
 cases h with
 |nil=>cases r;exact⟨_,.nil⟩
 |cons h t =>
  cases r with
  |cons r1 r2 =>
   obtain⟨a,q1⟩:=Inv.readsK I h r1;obtain⟨b,q2⟩:=Inv.readsAllK I t r2;exact⟨_,.cons q1 q2⟩
end
def Vh(K:Frag)(neg:Bool):R2:=λx y H Q=>∃d e,eY K H x d/\eY K H y e/\SeqAt.shaped d=true/\SeqAt.shaped e=true/\Q (.bl (if neg then !PyData.eqv d e else PyData.eqv d e)) H
theorem U3(hu:X.A.units+64<cLine):OpR X (compareOp .Eq) (Vh X.K false):=by
 intro aa s σ H x y v u Q I rx ry h;obtain⟨d,e,hd,he,sd,se,q⟩:=h;obtain⟨as,ra⟩:=I.readsK hd rx;obtain⟨bs,rb⟩:=I.readsK he ry;exact SeqAt.compareEq_shaped ra rb sd se hu ⟨.bl _,H,I,rfl,q⟩
theorem Va(hu:X.A.units+64<cLine):OpR X (compareOp .NotEq) (Vh X.K true):=by
 intro aa s σ H x y v u Q I rx ry h;obtain⟨d,e,hd,he,sd,se,q⟩:=h;obtain⟨as,ra⟩:=I.readsK hd rx;obtain⟨bs,rb⟩:=I.readsK he ry;exact SeqAt.compareNe_shaped ra rb sd se hu ⟨.bl _,H,I,rfl,q⟩
end
section
variable{X:Cx}
def Ou(K:Frag):Β->Hp->VK->Prop:=λxs H Q=>∃p T ys,xs=[.ref p,.ty T]/\T∈["bool","int","str","list","tuple","dict"]/\SqT K H p ys/\Q (.bl (zY "tuple" T)) H
theorem Di:d7 X (.builtin "isinstance") (Ou X.K):=by
 intro aa s σ H xs us Q I r h;obtain⟨p,T,ys,rfl,hT,hp,q⟩:=h;obtain⟨u,v,rfl,ru,rv⟩:=r.two;cases ru;cases rv;obtain⟨its,rvs,⟨o,ho,hc,n,hd⟩,_⟩:=I.tuple hp;refine kia_one (kitx_tuple (a:=p)) I.kIn ⟨o,ho,hc⟩ (G9 (K:=X.K) (t:="tuple") (by decide) hT) (λz=>nomatch z) λtk=>⟨.bl _,H,I.tok _,rfl,q⟩
end
def OkI(P:Program)(w:World)(K:Frag)(mg:Str->Ψ)(base:Heap)(CX:CXT)(k:Nat)(f:Addr)(ps:Θ)(sp:Sp):Prop:=∃fd,cH P w K mg base CX k f fd ps sp/\Binds K fd ps []
def vX(K:Frag)(x ac:Str)(st:Stmt)(ps:Θ)(f:Addr):Prop:=∃fd,Fun K x ac st f fd/\∀us:Δ,us.length=ps.length->bindArgs fd ⟨us,[]⟩=pure (ps.zip us)
theorem vX.ok{P:Program}{w:World}{K:Frag}{mg:Str->Ψ}{base:Heap}{CX:CXT}{k:Nat}{x ac:Str}{st:Stmt}{ps:Θ}{f:Addr}{sp:Sp}(h:vX K x ac st ps f)(hf:∀fd,Fun K x ac st f fd->cH P w K mg base CX k f fd ps sp):OkI P w K mg base CX k f ps sp :=
 by obtain⟨fd,a,b⟩:=h;exact⟨fd,hf fd a,.all b⟩
theorem QX{K:Frag}{x ac:Str}{st:Stmt}{ps:Θ}{f:Addr}{oc:Value}{od an:Ω}{cc:Array (Ψ)}{kV bj pm af ct:Value}
 (l:K.lookup f=some ⟨oc,od,.func (PySem.W.fnOf x ac (fK st) (cR st) (bw st) .none kV bj pm an af ct),cc⟩)(c:codeIn K af ac=true)(k:keepIn K (.ref f)=true)
 (hb:∀(kV bj pm:Value)(an:Ω)(af ct:Value)(us:Δ),us.length=ps.length->bindArgs (PySem.W.fnOf x ac (fK st) (cR st) (bw st) .none kV bj pm an af ct) ⟨us,[]⟩=pure (ps.zip us)):vX K x ac st ps f :=
 ⟨_,KR l c k,hb kV bj pm an af ct⟩
section
variable{X:Cx}{k:Nat}{f C B:Addr}{ps:Θ}{sp:Sp}{x m:Str}{p pos ag:Pos}{e o:Expr}{es:List Expr}{ta:TE}{t:TA}{Ex:Value->Ω->L2.St->Hp->Prop}
def Vz(C:Addr)(sp:Sp)(Ex:Value->Ω->L2.St->Hp->Prop)(t:TA):TE:=λσ H Q=>t σ H λvs H1=>∀x dx,H1 x=none->H1 dx=none->dx≠x->sp (.ref x::vs) (upd (upd H1 dx (.own x)) x (.ins C dx [])) (λv H2=>v=.non/\Q (.ref x) H2) λE d H'=>Ex E d σ H'
abbrev zv(X:Cx):=OkI X.prog X.w X.K X.mg X.base
theorem L_(M:Mk X.K C f)(G:zv X (CXO X.prog X.w) k f ps sp)(hr:cA (k+1) X.A)(hg:Gl X x)(hm:X.mg x=some (.ref C))(hx:tD X Ex)(ha:PA X (e::es) t)(aI:qq x:=by decide)
 (he:qf X e es:=by rfl)(aE:qo X pos es:=by rfl):PE X (.Call (.Name x p) (e::es) [] pos) (Vz C sp Ex t):=by
 obtain⟨fd,F,hb⟩:=G;refine(Ky M F hr hg hm hb .nil hx ha.mono aI he aE).imp λσ H Q h=>⟨_,h,λvs H1 q x dx h1 h2 h3=>?_⟩;rw[List.append_nil];exact q x dx h1 h2 h3
def Vi(C:Addr)(m:Str)(sp:Sp)(ta:TE)(t:TA):TE:=λσ H Q=>ta σ H λx H1=>∃a dx fs,x=.ref a/\H1 a=some (.ins C dx fs)/\fs.lookup m=none/\t σ H1 λvs H2=>sp (x::vs) H2 Q E0
theorem JR{pl:Sem Bool}(he:PE X o ta)(c:Cls X.K C)(hm:Meth X.K C m f)(G:zv X CX0 k f ps sp)(hr:cA k X.A)
 (ht:eval (.Call (.Attribute o m ag) [] [] pos) X.env=(do
   let ov <- eval o X.env
   standAt ag.atName
   let(f,first) <- holding [ov] (getMethod ov m pl)
   callWith pos f first (backTo pos (starEach [] X.env)) (backToKw pos (keywordEach [] X.env))):=by rfl) :
  PE X (.Call (.Attribute o m ag) [] [] pos) (Vi C m sp ta Vc):=by
 obtain⟨fd,F,hb⟩:=G;refine(Nf (pl:=pl) he.mono c hm F hr hb .nil Eb ht).imp λσ H Q h=>⟨_,h,?_⟩;rintro x H1 ⟨a,dx,fs,h1,h2,h3,h4⟩;exact⟨a,dx,fs,h1,h2,h3,h4⟩
theorem CZ{D:Addr}{pos:Pos}(hg:Gl X x)(hm:X.mg x=some (.ref D))(hd:qq x:=by decide):PE X (.Name x pos) (tC (.ref D)):=Hs hg hm rfl hd
end
section
variable{X:Cx}
theorem DW:∀{ys:Θ}{vs:Δ},Vals (ys.map V.str) vs->StrsAre vs ys
 |[],_,h=>by cases h;exact .nil
 |y::ys,_,h=>by
  rw[List.map_cons]at h;cases h with
  |cons a b =>
   obtain⟨t,rfl⟩:=a;exact .cons y t (DW b)
def rJoin:V->Β->Hp->VK->Prop:=λx vs H Q=>∃a l ys,x=.str a/\vs=[.ref l]/\H l=some (.lst (ys.map V.str))/\(ys.map (·.length)).sum+ys.length*a.length<=16777216/\Q (.str (Txt.join a ys)) H
theorem Qg:MtM X "str.join" rJoin:=by
 intro aa s σ H x vs v us Q I rx rv h;obtain⟨a,l,ys,rfl,rfl,hl,hz,q⟩:=h;obtain⟨t,rfl⟩:=rx;obtain⟨u,rfl,ru⟩:=rv.one;cases ru;obtain⟨_,its,n,r,_,e⟩:=I.lstM hl;exact join_list ⟨_,e,rfl,n,rfl⟩ (by simpa using DW r) hz λt' k=>⟨.str _,H,I.tok _,⟨_,rfl⟩,q⟩
end
section
variable{X:Cx}{a8 iter:Expr}{pos:Pos}{scope:Scope}{wi:TI}{te:TE}
theorem Ku{ext:Addr->List (Str×Addr)}{fn:Str->Bool}{i0:Nat}{y0:Str}{py b9:Pos}{xs N':Θ}{tg:Expr}{aS:List Expr}{gt:TG}{tc:TT}(E:Dz X scope xs ext fn)(hc:X.calm=true)(d4:pY xs X.N=N')(bn:scope.kind=.function)(bo:∀y∈scope.names,y.2=.local->scope.names.lookup y.1=some .local)
 (bg:∀y∈scope.names,y.2=.free->X.env.kindOf y.1=some .cell\/X.env.kindOf y.1=some .free)(c6:∀y∈X.N,y∉xs->(relabel scope X.env).names.lookup y≠some .local)(hq:∀y∈X.N,y∈xs->(relabel scope X.env).names.lookup (hid y)=none)(hi:PI X tg iter wi)
 (hg:∀C s₀ H₀ ex pn,PG (X.compE ext fn N' scope xs C s₀ H₀ ex pn) tg gt)(ht:∀C s₀ H₀ ex pn,PTs (X.compE ext fn N' scope xs C s₀ H₀ ex pn) aS tc)(he:∀C s₀ H₀ ex pn,PE (X.compE ext fn N' scope xs C s₀ H₀ ex pn) a8 te)(iF:PG X (.Name y0 py) (su i0))(gi:swapsWith (.ListComp a8 [⟨tg,iter,aS,0⟩] scope pos) (some (.Name y0 py)) b9.line X.env=pure true)(hs:qi X iter) :
  PS X (.Assign [.Name y0 py] (.ListComp a8 [⟨tg,iter,aS,0⟩] scope pos) b9) (Q_ (lJ wi xs.length gt tc te) (su i0)):=by
 intro aa s σ H D0 I h;have h:lJ wi xs.length gt tc te σ H (λx H1=>su i0 x σ H1 D0.nx):=h;rw[exec_Assign_Name_used _ _ _ _ gi];refine ZU (wpAny_standAt (ZU ?_));show wpAny _ X.A (comprehension (.ListComp a8 [⟨tg,iter,aS,0⟩] scope pos) scope X.env _ (newList []) false (eval iter X.env) (some (assign (.Name y0 py) X.env)) >>= λ_=>_) _ _ s;refine ZU (wpAny_mono (yr (use:=some (assign (.Name y0 py) X.env)) (post:=λ_ s'=>SP X aa D0 .next s') E hc d4 bn bo bg c6 hq hi hg ht he hs I h λC D Hc s6 m fl fo I6 fC qn=>?_) (λ_ s' hq=>ZT (ZT hq)) λ_ _ e=>e);obtain⟨oc,es,ep,ho,lI,_⟩:=id fo;have I7:=I6.pinned (fp:=[C]) (λb hb=>by rw[YR.mp hb];exact fC) λb hb=>by
  rw[YR.mp hb];exact⟨oc,ho,λv z=>by rw[lI]at z;cases z⟩
 show wpAny _ X.A (assign (.Name y0 py) X.env _) _ _ s6;refine thn (iF _ s6 σ Hc (.ref D) _ D0.nx I7 rfl qn) λ_ s7 hP=>?_;obtain⟨σ7,H7,Z7,q7⟩:=hP;have pn7:=Z7.pin (C,oc) (aM _ (aM _ (gB (by simp) ho)));refine⟨m,fo.at' λo e=>?_,λh' iq=>⟨σ7,H7,Z7.unpinned.turned (it:=C) (h':=h') (t':=s7.toks) (λb o hb e=>(iq.2 b hb).trans e) pn7.2.1 fC.2.1 fC.2.2.2.1 fC.2.2.2.2.1 fC.2.2.2.2.2,q7⟩⟩;rw[ho]at e;cases e;exact pn7.1
end
section
variable{X:Cx}
theorem G_(c:Nat):∀(n:Nat)(acc:Array Nat),((List.replicate n #[c]).foldl (· ++ ·) acc).toList=acc.toList++List.replicate n c
 |0,acc=>by simp
 |n+1,acc=>by
  rw[List.replicate_succ,List.foldl_cons,G_ c n,Array.toList_append,XG]
  rfl
def V0:R2:=λx y H Q=>∃c n,x=.str ⟨#[c]⟩/\y=.int n/\1<=n/\n<=1000/\∀z:Str,z.cps.toList=List.replicate n.toNat c->Q (.str z) H
theorem P_:OpR X (binaryOp .Mult) V0:=by
 intro aa s σ H x y v u Q I rx ry h;obtain⟨c,n,rfl,rfl,h0,h1,q⟩:=h;obtain⟨t,rfl⟩:=rx;obtain⟨t',rfl⟩:=ry;have hi:(⟨#[c]⟩ : Str).length=1:=rfl;have made:∀z:Str,z.cps.toList=List.replicate n.toNat c->(Made.str z).post (EP X aa σ Q) s:=λz hz=>⟨by
  have:z.length=n.toNat:=by
   show z.cps.size=_;rw[<- Array.length_toList,hz,aK]
  exact aJ (show z.length<=1001 by lia) (by decide),.str z,H,I.tok _,⟨_,rfl⟩,q z hz⟩
 refine PySem.P.mul_str ?_ (λ_ _=>?_) (λ_ _=>?_) ?_
 .rw[Zp (by lia),Zp (by lia)];rfl
 .rw[hi];have:1<=(2^63-1:Int)/n:=Int.le_ediv_of_mul_le (by omega) (by lia);lia
 .rw[hi];unfold Builtin.Str.tooLong;exact Zp (by
   have:n.toNat<=1000:=by lia
   have e:1000<=sizeLine:=by decide
   lia)
 .split
  .lia
  .split
   .rename_i hc
    rw[hi]at hc;have e:n.toNat=1:=by
     simp at hc;lia
    refine⟨.str ⟨#[c]⟩,H,I,⟨t,rfl⟩,q _ ?_⟩;rw[e];rfl
   .refine made _ ?_;show((List.replicate n.toNat #[c]).foldl (· ++ ·) #[]).toList=_;rw[G_];rfl
end
section
variable{prog:Program}{w:World}{A:Around}{E:Ξ}{h:Heap}{g:Array GenState}{d:Drawn}{t:Nat}{os:OsState}{nm q:Str}{C N:Addr}{bs bm kq:Δ}{hdct:Bool}{sn:Θ}{sub:Δ}{ab:Bool}{col:Option Bool}{dd:Ω}{k0 k1 k2 k3 k5:Ψ}{B de dT:String}
abbrev yj(h:Heap)(C:Addr)(us:Δ):Heap:=(h.push { cls:=.type "tuple",data:=.seq us.toArray }).push { cls:=.ref C,data:=.fields #[.ref h.objs.size,.none,.none,.none,.bool false,.none] }
theorem sV{us:Δ}(b:Addr)(o:Obj)(e:h.get? b=some o):(yj h C us).get? b=some o:=aF _ (aF _ e)
theorem xU(F:ExcBaseFacts B de dT kq)(T:OwnTail h kq bm){mN:Str->Ψ}{us:Δ}{fI:Addr}{oI:Obj}{Q:Fin->Shared->Prop}(hC:h.get? C=some (excClassObj nm q C N bs bm hdct sn sub ab col dd k0 k1 k2 k3 k5 de))(hn:h.Ns N mN)(hi:mN "__init__"=some (.ref fI))(hf:h.get? fI=some oI)(hc:oI.cls=.type "function")(hl:us.length<=sizeLine)
 (hq:wpAny (model prog w) A (call (.ref fI) (.ref (h.objs.size+1)::us)) (λr s'=>r=.none/\Q (.done (.ret (.ref (h.objs.size+1)))) s') E ⟨yj h C us,g,d,t,os⟩):wpAny (model prog w) A (Builtin.«type.__call__» ⟨.ref C::us,[]⟩) Q E ⟨h,g,d,t,os⟩:=by
 have K:=sV (h:=h) (C:=C) (us:=us);have C1:=K _ _ hC;have T1:=T.keeps K;have at_:(yj h C us).get? (h.objs.size+1)=some { cls:=.ref C,data:=.fields #[.ref h.objs.size,.none,.none,.none,.bool false,.none] }:=by heap_get
 have isC:(Value.ref C::bm).contains (.ref C)=true:=by simp
 repeat (first|with_reducible refine wpAny_loadPart_at hC ?_|with_reducible refine wpAny_madeBy_exc hC ?_|wp_step)
 refine codeAny_call_builtin_code (Code.quiet_builtin _ F.quiet) (wpAny_check_new_subT F T hC (codeAny_exc_new_subT F T hC ?_ hl));show wpAny _ _ _ _ _ _;unfold isInstance
 repeat (first|with_reducible refine wpAny_loadPart_at at_ ?_|(with_reducible refine wpAny_isSubtype_exc C1 ?_;rw[isC])|wp_step)
 show wpAny _ _ (typeLookup (.ref C) _) _ _ _;refine wpAny_typeLookup_tail C1 (hn.keeps K) T1 F.mroIs F.init.lookup ?_;rw[hi];refine wpAny_holding (ZU ?_);unfold bindSpecial;refine ZU (wpAny_typeOf (T:="function") ⟨_,K _ _ hf,hc⟩ ?_);rw[ZY (by decide)];refine ZT (ZU (wpAny_mono hq (λr s' hP=>?_) λ_ _ x=>x));obtain⟨e,z⟩:=hP;subst e
 wp_walk
 exact z
theorem N5(F:ExcBaseFacts B de dT kq)(T:OwnTail h kq bm){mN:Str->Ψ}{us:Δ}{fI:Addr}{oI:Obj}{Q:Ξ}(hC:h.get? C=some (excClassObj nm q C N bs bm hdct sn sub ab col dd k0 k1 k2 k3 k5 de))(hn:h.Ns N mN)(hi:mN "__init__"=some (.ref fI))(hf:h.get? fI=some oI)(hc:oI.cls=.type "function")(hl:us.length<=sizeLine)
 (hq:wpAny (model prog w) (A.under (.builtin "type.__call__" ⟨.ref C::us,[]⟩)) (call (.ref fI) (.ref (h.objs.size+1)::us)) (λr s'=>r=.none/\Q (.ref (h.objs.size+1)) s') E ⟨yj h C us,g,d,t,os⟩):wpAny (model prog w) A (call (.ref C) us) Q E ⟨h,g,d,t,os⟩:=by
 have a1:=tc_lookup;have a2:=tc_bind (.ref C);have a3:(⟨h,g,d,t,os⟩ : Shared).TypeIs (.ref C) "type":=⟨_,hC,rfl⟩;refine wpAny_call (codeAny_of_tree ?_);show wpAny _ _ (callAny (.ref C) _) _ _ _
 repeat (any_goals (first|assumption|with_reducible refine wpAny_loadPart_at hC ?_|wp_step))
 exact⟨rfl,codeAny_call_builtin_at (Code.quiet_builtin _ (by decide +kernel)) entry_typeCall (wpAny_check_type_call_sub hC (xU F T hC hn hi hf hc hl hq))⟩
end
def zK:Δ->Bool
 |.ref _::l=>zK l
 |l=>l==bmV
theorem Gp{self:Value}{l:Δ}(h:zK l=true):refuseLoop self "__setattr__" l=pure ():=by
 induction l with
 |nil=>cases h
 |cons x l ih =>
  cases x with
  |ref C=>rw[refuseLoop_ref];exact ih h
  |type n =>
   have e:Value.type n::l=bmV:=beq_iff_eq.mp h;rw[e];exact PySem.F.store_ValueError.passes self
  |_=>exact absurd (beq_iff_eq.mp h) (by intro z;cases z)
structure Nm(K:Frag)(C:Addr):Prop where
 cd:∃cd,clsIn K C=some cd/\cd.hasDict=true/\zK cd.mro=true
 sa:findIn K (.ref C) "__setattr__"=some (some (.builtin "object.__setattr__"))
 mo:mroIn K C (.type "object")=some true
section
variable{prog:Program}{w:World}{A:Around}{E:Ξ}{K:Frag}{s:Shared}{x C:Addr}{ox:Obj}{f:Str}{v:Value}{vs:Array Value}
theorem QV{Q:Unit->Shared->Prop}(X:K.In s.heap)(S:Nm K C)(n:bR K C f)(hx:s.heap.get? x=some ox)(hc:ox.cls=.ref C)(hd:ox.dict=none)(hv:ox.data=.fields vs)
 (hq:∀h' t',h'.Ns1 s.heap.objs.size (λy=>if y=f then some v else none)->h'.get? x=some { ox with dict:=some s.heap.objs.size }->(∀b,b≠x->b≠s.heap.objs.size->h'.get? b=s.heap.get? b)->Q () ⟨h',s.gens,s.drawn,t',s.os⟩):wpAny (model prog w) A (setAttr (.ref x) f v) Q E s:=by
 obtain⟨cd,a9,hdi,hm⟩:=S.cd;have J:PySem.W.InstAt s.heap x ox C none:=⟨hx,hc,by unfold notCls;rw[hv],by rw[hd];trivial⟩;have SF:=PySem.F.store_object;refine set_plain X J S.sa ?_;have sub:PySem.W.Looks (model prog w) s.heap (isInstance (.ref x) (.type "object")) true:=J.type.andThen (looks_mroIn X S.mo);have lm:PySem.W.Looks (model prog w) s.heap (mroOf (.ref C)) cd.mro:=(looks_clsIn X a9).andThen .now;generalize hs1:({ s with toks:=s.toks+1 } : Shared)=s1;have e1:s1.heap=s.heap:=by rw[<- hs1]
 rw[<- e1]at sub lm X J;refine codeAny_call_builtin SF.slot.plain SF.entry (@PySem.W.check_slot (model prog w) _ _ s1 "object.__setattr__" "object" "__setattr__" (.ref x) [.str f s.toks,v] [] _ SF.kind SF.split sub (SF.args (.ref x) (.str f s.toks) v) ?_);rw[PySem.W.osa_eq,refuse_eq];refine ZU (ZU (J.type.here (ZU (lm.here ?_))));rw[Gp hm];refine ZT (ZU (J.type.here (ZU ((looks_findIn X n).here (ZU (ZT ?_))))));have kK:s1.heap.get? x=some ox:=by rw[e1];exact hx
 obtain⟨oc,odi,oda,cc⟩:=ox;dsimp only at hc hd hv;subst hc hd hv;refine ZU (ZT (ZU (ZU (wpAny_loadPart kK (ZU ((looks_clsIn X a9).here ?_))))));rw[hdi,ZZ (by simp),ZZ (by simp[typeHasDict])];have e0:=hs1;obtain⟨hp,gg,dr,tk,os⟩:=s1;dsimp only at kK e1 ⊢;cases e0;have hxs:x≠s.heap.objs.size:=aN (aH hx);refine ZU (wpAny_alloc' (ZU (wpAny_update' (aF _ hx) (ZT ?_))));generalize hu:(s.heap.push { cls:=.type "dict",data:=.dict #[] }).update x _=hU;have q1:hU.get? s.heap.objs.size=some { cls:=.type "dict",data:=.dict #[] }:=by
  rw[<- hu];exact(Heap.get?_update_ne _ _ _ _ hxs.symm).trans (Heap.get?_push_at rfl rfl)
 have q2:hU.get? x=some { cls:=.ref C,dict:=some s.heap.objs.size,data:=.fields vs,slots:=cc }:=by
  rw[<- hu];exact Heap.get?_update_self _ (aF _ hx) rfl
 have q3:∀b,b≠x->b≠s.heap.objs.size->hU.get? b=s.heap.get? b:=λb n1 n2=>by
  rw[<- hu];exact(Heap.get?_update_ne _ _ _ _ n1).trans (Heap.get?_push_ne _ _ _ n2)
 dsimp only;unfold Builtin.ObjectAttr.storeInDict Builtin.ObjectAttr.newKeyGuard;refine ZU (ZT (ZU (wpAny_nsSet1 (Heap.Ns1.of_empty ⟨_,#[],_,q1,rfl,λ_ z=>absurd z (by simp),λ_=>rfl⟩) λh' hn hs=>?_)));obtain⟨oD,esD,epD,kU,iX,c8⟩:=hn.count (Within.cons f v Within.nil);refine ZU (wpAny_lookBehind kU (by rw[iX];exact pastItsLine_dict (aJ c8 (by rw[List.length_cons,List.length_nil,sizeLine_eq];exact Nat.le_add_left _ _))) ?_)
 wp_walk
 exact hq h' _ hn ((hs.2 x hxs).trans q2) λb n1 n2=>(hs.2 b n2).trans (q3 b n1 n2)
end
structure za(K:Frag)(C HE fI:Addr):Prop where
 ex:∃nm qn N bs sn sub ab col dd k0 k1 k2 k3 k5,K.lookup C=some (excClassObj nm qn C N bs (.ref HE::bmV) true sn sub ab col dd k0 k1 k2 k3 k5 "ValueError.__new__")/\nsOkIn K N=true/\nsIn K N "__init__"=some (some (.ref fI))
 he:Ck K HE
 fn:∃o,K.lookup fI=some o/\o.cls=.type "function"
 kp:keepIn K (.ref C)=true
theorem Qf{K:Frag}{h:Heap}{N:Addr}{m:Str->Ψ}{n:Str}{v:Value}(X:K.In h)(G:h.Ns N m)(e:nsIn K N n=some (some v)):m n=some v:=by
 obtain⟨o,es,ep,ho,hd,_,hf⟩:=G;rw[<- hf];unfold nsIn at e;split at e
 .rename_i q
  cases(X _ _ q).symm.trans ho;cases hd;unfold nsFind findBy;rw[<- Array.find?_toList];split at e
  .rename_i en he
   cases e;rw[he];rfl
  .split at e<;>cases e
 .cases e
theorem za.obj{K:Frag}{h:Heap}{C HE fI:Addr}(q:za K C HE fI)(X:K.In h):∃nm qn N bs sn sub ab col dd k0 k1 k2 k3 k5 mN o,h.get? C=some (excClassObj nm qn C N bs (.ref HE::bmV) true sn sub ab col dd k0 k1 k2 k3 k5 "ValueError.__new__") /\
  h.Ns N mN/\mN "__init__"=some (.ref fI)/\h.get? fI=some o/\o.cls=.type "function"/\OwnTail h bmV (.ref HE::bmV):=by
 obtain⟨nm,qn,N,bs,sn,sub,ab,col,dd,k0,k1,k2,k3,k5,l,a,b⟩:=q.ex;obtain⟨o,lo,ho⟩:=q.fn;obtain⟨bm,N',nm',qn',bs',aw,sn',sub',ab',col',mv,k0',kc,k2',k3',k5',mN',hC,hN,hi,T⟩:=Ho X q.he;exact⟨nm,qn,N,bs,sn,sub,ab,col,dd,k0,k1,k2,k3,k5,_,o,X _ _ l,.of_isNs (isNs_of_in X a),Qf X (.of_isNs (isNs_of_in X a)) b,X _ _ lo,ho,.own hC hN hi .base⟩
abbrev CQ(C t:Addr)(d:Ω):Obj:={ cls:=.ref C,dict:=d,data:=.fields #[.ref t,.none,.none,.none,.bool false,.none] }
def XN(a C:Addr)(d:Ω):HO:=.ext λh=>∃t,h.get? a=some (CQ C t d)
theorem Ko{P:Program}{w:World}{H:Hp}{h:Heap}{a C t:Addr}{d:Ω}(e:h.get? a=some (CQ C t d)):cX P w H h a (XN a C d):=⟨⟨t,e⟩,⟨_,e⟩,λ_ _ ⟨u,z⟩ k=>⟨u,k _ z⟩⟩
theorem G6{P:Program}{w:World}{H:Hp}{h:Heap}{a C:Addr}{d:Ω}(e:cX P w H h a (XN a C d)):∃t,h.get? a=some (CQ C t d):=e.1
theorem Ul{H:Hp}{a:Addr}{o:HO}(e:H a=some o):upd H a o=H:=by
 funext b;unfold upd;split
 .rename_i z;rw[z,e]
 .rfl
structure Ke(K:Frag)(B:Addr):Prop where
 ga:specialIn K (.ref B) "__getattribute__"=some (some (.builtin "type.__getattribute__"))
 rd:readsIn K B (.type "type")=true
 at_:findCls K (.ref B) (.type "type") "__init__"=some (.val (.builtin "ValueError.__init__"))
section
variable{X:Cx}{B C HE fI:Addr}{x:Str}{p pos ag:Pos}{e:Expr}{es:List Expr}{t:TA}{aa:Γ}{σ:L2.St}{H:Hp}{s:Shared}
theorem init_exc{A:Around}{E:Ξ}{Q:Ξ}{a:Addr}{us:Δ}(I:Inv X aa σ H s)(q:za X.K C HE fI)(ha:H a=some (XN a C none))(hl:us.length<=sizeLine)
 (h:∀s',Inv X aa σ H s'->Q .none s'):wpAny (model X.prog X.w) A (call (.builtin "ValueError.__init__") (.ref a::us)) Q E s:=by
 obtain⟨nm,qn,N,bs,sn,sub,ab,col,dd,k0,k1,k2,k3,k5,mN,o,hC,hN,hi,hf,ll,T⟩:=q.obj I.kIn;obtain⟨u,hx⟩:=G6 (I.hok a _ ha);have F:=PySem.F.excBase_ValueError;obtain⟨hp,gs,dr,tk,os⟩:=s;refine wpAny_call (codeAny_call_builtin F.init.plain F.initEntry (wpAny_check_init_subT F T hC hx rfl ?_))
 wp_walk
 refine h _ ?_;have e1:(hp.push { cls:=.type "tuple",data:=.seq us.toArray }).get? a=some (CQ C u none):=aF _ hx;have J:=I.write (x:=a) (e:=a) (o:=XN a C none) (t':=tk) (h':=(hp.push { cls:=.type "tuple",data:=.seq us.toArray }).update a (Obj.mapFields λx=>x.setIfInBounds 0 (Value.ref hp.objs.size))) (by rw[ha];trivial) (.inl rfl)
  (λb v n z=>(Heap.get?_update_other _ _ (Ne.symm n)).trans (aF _ z)) ⟨_,Heap.get?_update_self _ e1 rfl⟩ (Ko (t:=hp.objs.size) (Heap.get?_update_self _ e1 rfl))
 rwa[Ul ha]at J
def S9(C:Addr)(t:TA):TE:=λσ H Q=>t σ H λvs H1=>∃a ws,vs=.ref a::ws/\H1 a=some (XN a C none)/\ws.length<=sizeLine/\Q .non H1
theorem KJ{pl:Sem Bool}(c:Ke X.K B)(q:za X.K C HE fI)(hg:Gl X x)(hm:X.mg x=some (.ref B))(ha:PA X (e::es) t)(aI:qq x:=by decide)
 (be:qf X e es:=by rfl)(aE:qo X pos es:=by rfl)
 (ht:eval (.Call (.Attribute (.Name x p) "__init__" ag) (e::es) [] pos) X.env=(do
   let ov <- eval (.Name x p) X.env
   standAt ag.atName
   let(f,first) <- holding [ov] (getMethod ov "__init__" pl)
   callWith pos f first (backTo pos (starEach (e::es) X.env)) (backToKw pos (keywordEach [] X.env))):=by rfl) :
  PE X (.Call (.Attribute (.Name x p) "__init__" ag) (e::es) [] pos) (S9 C t):=by
 intro aa s σ H Q I h;refine methodCall_KW (pl:=pl) (iB I hg hm (method_cls I.kIn c.ga (cls_value I.kIn c.rd c.at_ (by decide) ?_)) aI) ht;show wpAny _ _ (callWith pos (.builtin "ValueError.__init__") [] (backTo pos (starEach (e::es) X.env)) []) _ _ _;have h2:=ha pos aa _ σ H _ (I.tok (s.toks+1)) h;rw[be]at h2 ⊢;refine PySem.W.callWith_of (P:=λ_=>True) (by show((false || (backTo pos (starEach es X.env)).any (·.1)) || false)=false;rw[aE];rfl) (λ_ _=>⟨.machine,.inr (.inl rfl),.now⟩) (Calls.evalArgs_plain (thn h2 λus s2 ⟨vs,H2,I2,r,a,ws,e1,e2,e3,e4⟩=>⟨trivial,?_⟩));subst e1;cases r with
 |cons r1 r2 =>
  cases r1;exact init_exc I2 q e2 (by rw[<- r2.length];exact e3) λs' J=>⟨.non,H2,J,rfl,e4⟩
end
section
variable{X:Cx}{aa:Γ}{σ:L2.St}{H:Hp}{s:Shared}{a C HE fI:Addr}{f:Str}{v:V}{A:Around}{E:Ξ}
theorem I_{u:Value}{Q:Unit->Shared->Prop}(I:Inv X aa σ H s)(e:H a=some (XN a C none))(c:Nm X.K C)(n:bR X.K C f)(r:RelV v u)
 (h:∀d s',H d=none->d≠a->Inv X aa σ (upd (upd H a (XN a C (some d))) d (.xd [(f,v)])) s'->Q () s'):wpAny (model X.prog X.w) A (setAttr (.ref a) f u) Q E s:=by
 obtain⟨t,ha⟩:=G6 (I.hok a _ e);have nd:H s.heap.objs.size=none:=I.hok.fresh (aD _);have na:s.heap.objs.size≠a:=(aN (aH ha)).symm;refine QV I.kIn c n ha rfl rfl rfl λh' t' hn hx ho=>h s.heap.objs.size _ nd na ?_;have J:=I.write (x:=a) (e:=a) (o:=XN a C (some s.heap.objs.size)) (t':=t') (h':=h') (by rw[e];trivial) (.inl rfl) (λb w z q=>(ho b z (aN (aH q))).trans q) ⟨_,hx⟩ (Ko hx);refine J.track ((bJ na).trans nd) (Heap.get?_none_of_le I.sz) (VW I.lt) (λx c q z=>?_) (λp q z=>?_) ⟨_,hn,λg=>?_⟩
 .obtain⟨w,o,q',_⟩:=I.cell x c q;rw[z]at q';exact XU _ (aH q')
 .have q':=(I.pin p q).1;rw[z]at q';exact XU _ (aH q')
 .by_cases z:g=f
  .subst z;simp[List.lookup];exact r
  .have:(g==f)=false:=by simp[z]
   simp[List.lookup,this,z]
   trivial
def Y_(K:Frag)(ta tv:TE)(f:Str):TS:=λD σ H=>tv σ H λy H1=>ta σ H1 λx H2=>∃a C,x=.ref a/\H2 a=some (XN a C none)/\Nm K C/\bR K C f/\∀d,H2 d=none->d≠a->D.nx σ (upd (upd H2 a (XN a C (some d))) d (.xd [(f,y)]))
theorem Qi{o ai:Expr}{ta tv:TE}{pos ay:Pos}(ha:PE X o ta)(hv:PE X ai tv)(hs:swapsWith ai (some (.Attribute o f ay)) pos.line X.env=pure false):PS X (.Assign [.Attribute o f ay] ai pos) (Y_ X.K ta tv f):=by
 intro aa s σ H D I h;refine plainObj_wpAny_Assign_Attribute (thn (hv aa s σ H _ I h) λu s1 ⟨y,H1,I1,ry,q⟩=>thn (ha aa s1 σ H1 _ I1 q) λov s2 hP=>?_) hs;obtain⟨x,H2,I2,rx,a,C,ex,ea,c,n,q2⟩:=hP;subst ex;obtain rfl:ov=Value.ref a:=rx;exact I_ I2 ea c n ry λd s3 h1 h2 I3=>⟨σ,_,I3,q2 d h1 h2⟩
theorem Inv.madeE{us:Δ}(I:Inv X aa σ H s):Inv X aa σ (upd H (s.heap.objs.size+1) (XN (s.heap.objs.size+1) C none)) { s with heap:=yj s.heap C us } :=
 I.laid (a:=s.heap.objs.size+1) (o:=XN (s.heap.objs.size+1) C none) (h':=yj s.heap C us) (t':=s.toks) sV (Xs _) (Ko (t:=s.heap.objs.size) (by heap_get))
theorem Jz{k:Nat}{fd:FuncData}{ps:Θ}{sp:Sp}{us:Δ}{vs:Β}{Q:Addr->Hp->Prop}(q:za X.K C HE fI)(F:cH X.prog X.w X.K X.mg X.base CX0 k fI fd ps sp)(hr:cA (k+1) X.A)(hb:Binds X.K fd ps [])
 (I:Inv X aa σ H s)(r:Vals vs us)(hl:us.length<=sizeLine)(h:∀x,H x=none->sp (.ref x::vs) (upd H x (XN x C none)) (λv H2=>v=.non/\Q x H2) E0) :
  wpAny (model X.prog X.w) X.A (call (.ref C) us) (λu s'=>∃a H',u=.ref a/\X.s₀.heap.objs.size<=a/\Inv X aa σ H' s'/\Q a H') X.xe s:=by
 obtain⟨nm,qn,N,bs,sn,sub,ab,col,dd,k0,k1,k2,k3,k5,mN,o,hC,hN,hi,hf,ll,T⟩:=q.obj I.kIn;have hq:=h (s.heap.objs.size+1) (I.hok.fresh (Xs _));have I2:=I.madeE (C:=C) (us:=us);have r2:Vals (V.ref (s.heap.objs.size+1)::vs) (Value.ref (s.heap.objs.size+1)::us):=.cons rfl r;have hl2:(Value.ref (s.heap.objs.size+1)::us++[]).length=ps.length:=by
  rw[List.append_nil,<- r2.length];exact F.len _ _ _ _ hq
 have fc:=hb _ (Value.ref (s.heap.objs.size+1)::us) I2.kIn hl2;rw[List.append_nil]at fc;have sz:=I.sz;obtain⟨hp,g,d,t,os⟩:=s;refine N5 PySem.F.excBase_ValueError T hC hN hi hf ll hl (wpAny_call (codeAny_mono (F.run _ X.stack _ _ ⟨Value.ref (hp.objs.size+1)::us,[]⟩ _ _ _ E0 (hr.make C us []) (I2.env0.make C us []) fc r2 hq) λr s' ck=>?_));cases r with
 |error e=>exact Eb aa σ _ _ e s' I2 ck
 |ok fl =>
  cases fl with
  |ret u =>
   obtain⟨v,H',I3,rv,ev,q3⟩:=I2.after ck;subst ev;exact⟨rv,hp.objs.size+1,H',rfl,Nat.le_succ_of_le sz,I3,q3⟩
  |next=>exact False.elim ck
  |brk=>exact False.elim ck
  |cont=>exact False.elim ck
end
def out(H:Hp)(a:Addr):Hp:=λb=>if b=a then none else H b
theorem CV{H:Hp}{a:Addr} : out H a a=none:=by unfold out;rw[ZY rfl]
theorem mX{H:Hp}{a b:Addr}(n:b≠a):out H a b=H b:=by unfold out;rw[ZZ n]
theorem BZ{H:Hp}{a b:Addr}{o:HO}(e:out H a b=some o):b≠a/\H b=some o:=by
 by_cases z:b=a
 .subst z;rw[CV]at e;cases e
 .exact⟨z,by rw[mX z]at e;exact e⟩
section
variable{X:Cx}{aa:Γ}{σ:L2.St}{H:Hp}{s:Shared}{a C:Addr}{B h':Heap}{d:Ω}
theorem Inv.flyMade(I:Inv X aa σ H s)(hx:X.ex=[])(e:H a=some (XN a C d))(sz:X.s₀.heap.objs.size<=a)(hB:B=hideAll (s.heap.hide a) (frs X.stack))(fl:iK B X.outer a (.ref C) d .none h')(up:s.heap.UpToSlots h') :
  Fly X.prog X.w X.outer X.H₀ X.s₀ a (.ref C) (out H a) { s with heap:=h' } B d:=by
 have eR:∀b o,b≠a->s.heap.get? b=some o->b∉frs X.stack->B.get? b=some o:=λb o n q m=>by rw[hB];exact hideAll_get _ ((Heap.hide_ne _ n).trans q) m
 have ni:∀b u,H b=some u->b∉frs X.stack:=λb u q z=>by rw[I.stkFree b z]at q;cases q
 have trk:∀b u o,b≠a->H b=some u->s.heap.get? b=some o->B.get? b=some o:=λb u o n q r=>eR b o n r (ni b u q);have na:∀b,H b=none->b≠a:=λb q z=>by rw[z,e]at q;cases q
 have nf:∀b∈frs X.stack,∀o,s.heap.get? b=some o->∀vs,o.data≠.fields vs:=λb hb o q=>by
  obtain⟨_,o',e',z⟩:=I.stack.mem hb;rw[q]at e';cases e';exact z
 have hok:HOk X.prog X.w (out H a) h':=λb u q=>by
  obtain⟨n,q⟩:=BZ q;refine(I.hok b u q).stay (λc v hc r=>?_) (λc r=>?_) λc xs r=>?_
  .rcases hc with z|z
   .subst z;exact fl.1 c v (trk c u v n q r)
   .exact fl.1 c v (trk c _ v (pF z e (by intro z;cases z)) z r)
  .rw[mX (pF r e (by intro z;cases z))];exact r
  .rw[mX (pF r e (by intro z;cases z))];exact r
 have un:Un (frs X.stack) [a] H (out H a) s.heap h':=by
  refine⟨λb o q n hb _=>fl.1 b o (eR b o (na b n) q hb),λb o q n hb _=>up b o q (nf b hb o q),λb o _ n _=>by rw[mX (na b n)];exact n,λb o q hb=>?_,λb xs q=>?_,λb o u q=>?_,λb ps q=>⟨#[],?_⟩⟩
  .by_cases m:b∈frs X.stack
   .obtain⟨sl,r⟩:=up b o q (nf b m o q);exact⟨_,r⟩
   .exact⟨o,fl.1 b o (eR b o (by simpa using hb) q m)⟩
  .rw[mX (pF q e (by intro z;cases z))];exact q
  .rw[mX (pF q e (by intro z;cases z))];exact q
  .rw[mX (pF q e (by intro z;cases z)),q];simp
 have J:Inv X aa σ (out H a) { s with heap:=h' }:=I.call' (s':={ s with heap:=h' }) (ch:=[a]) rfl un hok I.bare λb hb=>by
  obtain rfl:b=a:=by simpa using hb
  exact⟨.inr sz,(λz=>by have:=I.free;rw[<- z,e]at this;cases this),(λx c q z=>by have:=I.freeC x c q;rw[z,e]at this;cases this),(λp hp z=>by have:=(I.pin p hp).2.1;rw[z,e]at this;cases this)⟩
 have lta:∀b o,X.s₀.heap.get? b=some o->b≠a:=λb o q z=>XU a (aO (z ▸ aH q) sz);refine⟨J.os,J.bare,Heap.get?_none_of_le sz,by have:=J.base;rw[hx]at this;exact this,J.hok,λb hb=>?_,fl,λb o q hb hc=>?_⟩
 .obtain⟨_,o,ho,_⟩:=I.ok.funs.mem hb;exact J.base.free b o ho (I.ok.frf b hb) λz=>I.ok.exfs b z hb
 .have am:∀v,B.get? b=some v->B.get? b=some o:=λv y=>by
   have e2:=fl.1 b v y;rw[show({ s with heap:=h' } : Shared).heap.get? b=h'.get? b from rfl,e2]at q;cases q;exact y
  rcases hc with⟨u,r⟩|⟨u,r⟩
  .obtain⟨⟨v,z⟩,n⟩:=I.old hx r;exact am v (eR b v (lta b u r) z (I.nostk n hb))
  .obtain⟨n,r⟩:=BZ r;obtain⟨o',e'⟩:=(I.hok b u r).there;exact am o' (trk b u o' n r e')
end
def Ga(X:Cx)(Ex:Value->Ω->L2.St->Hp->Prop):Prop :=
 ∀aa σ H s a C d,Inv X aa σ H s->H a=some (XN a C d)->X.s₀.heap.objs.size<=a->Ex (.ref C) d σ (out H a)->X.xe (.ref a) s
section
variable{P:Program}{w:World}{K:Frag}{mg:Str->Ψ}{base:Heap}{N:Θ}{ac:Str}{scope:Scope}{f:Addr}{cd:Value}{A:Around}{outer:List Env}{s:Shared}{H:Hp}{E:XK}
theorem yK:Ga (n_ (CXO P w) P w K mg base N ac scope f cd A outer s H E) (λC d _ H'=>E C d H'):=by
 intro aa σ H1 s1 a C d I e sz q;show wpAny _ _ (leaving _ (.ref a)) _ _ _;have eK:∀env∈(envOfC ac scope s.heap.objs.size f cd::outer),∀b,env.frame=some b->b∈frs (envOfC ac scope s.heap.objs.size f cd::outer):=λenv he b hb=>List.mem_filterMap.mpr ⟨env,he,hb⟩;obtain⟨t,ha⟩:=G6 (I.hok a _ e);have fr:(s1.heap.hide a).FunFrames base (envOfC ac scope s.heap.objs.size f cd::outer):=PySem.W.funFrames_hideAll (as:=[a]) I.stack λenv he b hb z=>by
  obtain rfl:b=a:=by simpa using hb
  have:=I.stkFree b (eK env he b z);rw[e]at this;cases this
 refine yw (base:=hideAll (s1.heap.hide a) (frs (envOfC ac scope s.heap.objs.size f cd::outer))) (h0:=s1.heap.hide a) (outer:=outer) I.ok.frames rfl (λb o q=>of_hideAll _ q) (PySem.W.funFrames_hide fr eK) (λb o q=>Heap.of_hide q) (Heap.hide_self _ _) ha rfl rfl λh' fl up=>?_;exact⟨a,.ref C,d,out H1 a,_,rfl,I.flyMade rfl e sz rfl fl up,q⟩
end
section
variable{prog:Program}{w:World}{A:Around}{E:Ξ}{s:Shared}{env:Env}{nm qn:Str}{C N:Addr}{bs bm:Δ}{hd:Bool}{sn:Θ}{sub:Δ}{ab:Bool}{col:Option Bool}{dd:Ω}{k0 k1 k2 k3 k5:Ψ}
theorem Jf{x:Sem Value}{Q:Flow->Shared->Prop}(hb:bm.contains (.type "BaseException")=true)(hh:A.handled=none)
 (h:wpAny (model prog w) A x (λv s1=>∃a t d,v=.ref a/\s1.heap.get? C=some (excClassObj nm qn C N bs bm hd sn sub ab col dd k0 k1 k2 k3 k5 "ValueError.__new__")/\s1.heap.get? a=some (CQ C t d)/\E (.ref a) s1) E s):wpAny (model prog w) A (raiseStmt env (some x) none) Q E s:=by
 have hB:(Value.ref C::bm).contains (.type "BaseException")=true:=by rw[List.contains_cons,hb,Bool.or_true]
 unfold raiseStmt;refine ZU (wpAny_mono h (λv s1 z=>?_) λ_ _ z=>z);obtain⟨a,t,d,rfl,hC,ha,hE⟩:=z;obtain⟨hp,gs,dr,tk,os⟩:=s1
 repeat (first|with_reducible refine wpAny_loadPart_at ha ?_|with_reducible refine wpAny_loadPart_at hC ?_|(with_reducible refine wpAny_isSubtype_exc hC ?_;rw[hB])|wp_step)
 exact wpAny_raiseNew_none hh hE
end
section
variable{X:Cx}{x:Str}{np cpos pos:Pos}{e₀:Expr}{rest:List Expr}{ta:TA}{C HE fI:Addr}{Ex:Value->Ω->L2.St->Hp->Prop}{k:Nat}{ps:Θ}{sp:Sp}
def Ox(C:Addr)(sp:Sp)(Ex:Value->Ω->L2.St->Hp->Prop)(ta:TA):TS:=λ_ σ H=>ta σ H λvs H1=>vs.length<=sizeLine/\∀a,H1 a=none->sp (.ref a::vs) (upd H1 a (XN a C none)) (λv H2=>v=.non/\∃d,H2 a=some (XN a C d)/\Ex (.ref C) d σ (out H2 a)) E0
theorem Ji(hc:X.calm=true)(hg:Gl X x)(hm:X.mg x=some (.ref C))(q:za X.K C HE fI)(G:zv X CX0 k fI ps sp)(hr:cA (k+1) X.A)(hx:Ga X Ex)(ha:PA X (e₀::rest) ta)(aI:qq x:=by decide)
 (he:qf X e₀ rest:=by rfl)(aE:qo X cpos rest:=by rfl) :
  PS X (.Raise (some (.Call (.Name x np) (e₀::rest) [] cpos)) none pos) (Ox C sp Ex ta):=by
 obtain⟨fd,F,hb⟩:=G;intro aa s σ H D I h;obtain⟨nm,qn,N,bs,sn,sub,ab,col,dd,k0,k1,k2,k3,k5,mN,o,hC,hN,hi,hf,ll,T⟩:=q.obj I.ok.mod.kin;rw[arm_exec_Raise];refine ZU (wpAny_standAt (Jf (C:=C) (nm:=nm) (qn:=qn) (N:=N) (bs:=bs) (bm:=.ref HE::bmV) (hd:=true) (sn:=sn) (sub:=sub) (ab:=ab) (col:=col) (dd:=dd) (k0:=k0) (k1:=k1) (k2:=k2) (k3:=k3) (k5:=k5) (T.hasType (by decide)) (I.ok.hd hc) ?_));refine ZU (thn (Q:=λu s1=>∃a H' d,u=.ref a/\X.s₀.heap.objs.size<=a/\Inv X aa σ H' s1/\H' a=some (XN a C d)/\Ex (.ref C) d σ (out H' a)) ?_ λu s1 ⟨a,H',d,e1,e2,I1,e3,e4⟩=>ZU (wpAny_standAt (ZT ?_)))
 .refine wpAny_Call_Name_kw (iB I hg hm ?_ aI);refine callWith_K (h₀:=X.base) I.ok.mod.kin q.kp (thn (ha cpos aa s σ H _ I h) λus s1 ⟨vs,H1,I1,r,hl,q1⟩=>⟨I1.kIn,?_⟩) he aE;exact thn (Jz (Q:=λa H2=>∃d,H2 a=some (XN a C d)/\Ex (.ref C) d σ (out H2 a)) q F hr hb I1 r (by show us.length<=_;rw[<- r.length];exact hl) q1) λu s2 hP=>by obtain⟨a,H2,e1,e2,I2,d,e3,e4⟩:=hP;exact⟨a,H2,d,e1,e2,I2,e3,e4⟩
 .obtain⟨t,ht⟩:=G6 (I1.hok a _ e3);exact⟨a,t,d,e1,I1.bk _ _ hC,ht,hx aa σ H' s1 a C d I1 e3 e2 e4⟩
end
section
variable{prog:Program}{w:World}{A:Around}{E:Ξ}{h:Heap}{g:Array GenState}{d:Drawn}{t:Nat}{os:OsState}{a C:Addr}{o:Obj}{od:Option Obj}{K:Frag}{f:Str}{u:Value}
theorem GR{tk:Tok}{fl b:Bool}{Q:Ξ}(X:K.In h)(T:n8 K C)(J:PySem.W.InstAt h a o C od)(hx:h.get? a=some o)(hc:o.cls=.ref C)(hf:PySem.W.findObj K C od f=some (.value u))(hh:handedIn u=true)(hq:Q u ⟨h,g,d,t,os⟩) :
  wpAny (model prog w) A (getAttrBy (.ref a) (.str f tk) fl b) Q E ⟨h,g,d,t,os⟩:=by
 have f3:=F.excAttr_ValueError.ga.bind (.ref a);have n2:(Value.builtin "BaseException.__getattribute__"== Value.builtin "object.__getattribute__")=false:=by decide +kernel
 have n1:(onTheHeap (Value.ref C)&&Value.builtin "BaseException.__getattribute__"== Value.builtin "object.__getattribute__")=false:=by rw[n2];exact Bool.and_false _
 have LT:=fJ (M:=model prog w) hx hc;have LG:=looks_findIn (M:=model prog w) X T.ga;have LN:=looks_findIn (M:=model prog w) X T.gn;have LF:=PySem.W.looks_find (M:=model prog w) X J hf
 repeat (any_goals (first|assumption|with_reducible refine LT.at ?_|with_reducible refine LG.at ?_|with_reducible refine LN.at ?_|(with_reducible refine wpAny_loadPart_at hx ?_;rw[hc])|wp_step))
 rw[ZZ (show ¬(b&&onTheHeap (Value.builtin "BaseException.__getattribute__"))=true from by rw[show onTheHeap (Value.builtin "BaseException.__getattribute__")=false from rfl,Bool.and_false];exact aX)]
 repeat (any_goals (first|assumption|wp_step))
 refine codeAny_call_builtin F.excAttr_ValueError.ga.plain F.entry_bexc_ga (pU X T hx hc ?_)
 repeat (any_goals (first|assumption|with_reducible refine LT.at ?_|with_reducible refine LF.at ?_|wp_step))
 show wpAny _ _ (handedOut u) _ _ _;rw[PySem.W.handedOut_of hh];exact ZT hq
end
section
variable{X:Cx}{aa:Γ}{σ:L2.St}{H:Hp}{s:Shared}{a d C:Addr}{fs:List (Str×V)}{f:Str}{v:V}{A:Around}{E:Ξ}
theorem Jm{b:Bool}{Q:Ξ}(I:Inv X aa σ H s)(e:H a=some (XO a C (some d)))(ed:H d=some (.xd fs))(c:n8 X.K C)(hh:hasDictIn X.K C=true)(n:bR X.K C f)(l:fs.lookup f=some v)
 (h:∀u s',Inv X aa σ H s'->RelV v u->Q u s'):wpAny (model X.prog X.w) A (getAttr (.ref a) f b) Q E s:=by
 obtain⟨ox,hx,hc,hd,vs,hv⟩:=(I.hok a _ e).1;obtain⟨mA,hn,r⟩:=I.hok d _ ed;obtain⟨od,ho,hl⟩:=yF hn;obtain⟨u,hu,ru⟩:=m8.some_of (v:=v) (o:=mA f) (by rw[<- l];exact r f);have J:PySem.W.InstAt s.heap a ox C (some od):=⟨hx,hc,by unfold notCls;rw[hv],by rw[hd];exact ho⟩;have I2:=I.tok (s.toks+1);have kI:=I.kIn;obtain⟨hp,g,dr,t,os⟩:=s;unfold getAttr
 repeat (first|exact GR kI c J hx hc (findObj_own hh n rfl (by rw[hl,hu])) (yH ru) (h u _ I2 ru)|wp_step)
def Yz(K:Frag)(ta:TE)(f:Str):TE:=λσ H Q=>ta σ H λx H1=>∃a C d fs v,x=.ref a/\H1 a=some (XO a C (some d))/\H1 d=some (.xd fs)/\n8 K C/\hasDictIn K C=true/\bR K C f/\fs.lookup f=some v/\Q v H1
theorem PB{e:Expr}{ta:TE}{pos:Pos}(he:PE X e ta)(hb:qV X e f):PE X (.Attribute e f pos) (Yz X.K ta f):=by
 intro aa s σ H Q I h;refine Hy hb (thn (he aa s σ H _ I h) λu s1 hP=>?_);obtain⟨x,H1,I1,rx,a,C,d,fs,v,ex,ea,ed,c,hd,n,l,q⟩:=hP;subst ex;obtain rfl:u=Value.ref a:=rx;exact Jm I1 ea ed c hd n l λu' s2 I2 ru=>⟨v,H1,I2,ru,q⟩
end
theorem fsc{N P:Θ}{sc:Scope}(h1:sc.kind=.function:=by rfl)(h2:sc.isCoroutine=false:=by rfl)(h3:sc.isGenerator=false:=by rfl)(h4:N.Nodup/\(∀x∈P,sc.names.lookup x=some .local\/sc.names.lookup x=some .cell)/\∀y∈sc.names,y.2≠.free:=by decide +kernel)(h5:N.take P.length=P:=by rfl):bG N P sc:=⟨h1,h2,h3,h4.1,h5,h4.2.1,h4.2.2⟩
abbrev CK0(sc scope:Scope)(N N' xs:Θ):Prop:=pY xs N=N'/\(∀y∈scope.names,y.2=.local->scope.names.lookup y.1=some .local)/\(∀y∈scope.names,y.2=.free->sc.names.lookup y.1=some .cell\/sc.names.lookup y.1=some .free) /\
 (∀y∈N,y∉xs->(scope.names.map λ(n,k)=>if(k==NameKind.free&&sc.kind == .function&&sc.names.lookup n==some .cell)then(n,NameKind.cell)else(n,k)).lookup y≠some .local)/\∀y∈N,y∈xs->(scope.names.map λ(n,k)=>if(k==NameKind.free&&sc.kind == .function&&sc.names.lookup n==some .cell)then(n,NameKind.cell)else(n,k)).lookup (hid y)=none
abbrev CK(sc scope:Scope)(N N' xs:Θ):Prop:=(∀y∈scope.names,y.2≠.cell)/\CK0 sc scope N N' xs
section
variable{X:Cx}{a8 iter tg:Expr}{pos:Pos}{scope:Scope}{wi:TI}{te:TE}{aS:List Expr}{gt:TG}{tc:TT}
theorem R3(sc:Scope)(N N' xs:Θ)(hi:PI X tg iter wi)(hg:∀{C s₀ H₀ ex pn},PG (X.compG N' scope xs C s₀ H₀ ex pn) tg gt)(ht:∀{C s₀ H₀ ex pn},PTs (X.compG N' scope xs C s₀ H₀ ex pn) aS tc)(he:∀{C s₀ H₀ ex pn},PE (X.compG N' scope xs C s₀ H₀ ex pn) a8 te)
 (c0:X.env.scope=sc:=by rfl)(c9:X.N=N:=by rfl)(hc:X.calm=true:=by rfl)(hk:scope.kind=.function:=by rfl)(h:CK sc scope N N' xs:=by decide +kernel)(hs:qi X iter:=by intro _;rfl):PE X (.ListComp a8 [⟨tg,iter,aS,0⟩] scope pos) (lJ wi xs.length (tMG gt) (tMT tc) (tM te)) :=
 by
 subst c0 c9;exact Le (T4 hk h.1) hc h.2.1 hk h.2.2.1 h.2.2.2.1 h.2.2.2.2.1 h.2.2.2.2.2 hi (λ_ _ _ _ _=>hg.mono) (λ_ _ _ _ _=>ht.mono) (λ_ _ _ _ _=>he.mono) hs
theorem WY{i0:Nat}{y0:Str}{py b9:Pos}(sc:Scope)(N N' xs:Θ)(hi:PI X tg iter wi)(hg:∀{C s₀ H₀ ex pn},PG (X.compG N' scope xs C s₀ H₀ ex pn) tg gt)(ht:∀{C s₀ H₀ ex pn},PTs (X.compG N' scope xs C s₀ H₀ ex pn) aS tc)(he:∀{C s₀ H₀ ex pn},PE (X.compG N' scope xs C s₀ H₀ ex pn) a8 te)(iF:PG X (.Name y0 py) (su i0))
 (c0:X.env.scope=sc:=by rfl)(c9:X.N=N:=by rfl)(hc:X.calm=true:=by rfl)(hk:scope.kind=.function:=by rfl)(h:CK sc scope N N' xs:=by decide +kernel)(gi:swapsWith (.ListComp a8 [⟨tg,iter,aS,0⟩] scope pos) (some (.Name y0 py)) b9.line X.env=pure true:=by rfl)(hs:qi X iter:=by intro _;rfl) :
  PS X (.Assign [.Name y0 py] (.ListComp a8 [⟨tg,iter,aS,0⟩] scope pos) b9) (Q_ (lJ wi xs.length (tMG gt) (tMT tc) (tM te)) (su i0)) :=
 by
 subst c0 c9;exact Ku (T4 hk h.1) hc h.2.1 hk h.2.2.1 h.2.2.2.1 h.2.2.2.2.1 h.2.2.2.2.2 hi (λ_ _ _ _ _=>hg.mono) (λ_ _ _ _ _=>ht.mono) (λ_ _ _ _ _=>he.mono) iF gi hs
end
theorem VJ{K:Frag}{a:Addr}{i j:Int}{d:Ω}{n:Nat}{sl:Array (Ψ)}{t u:Tok}(l:K.lookup a=some ⟨.type "tuple",d,.seq #[.int i t,.int j u] n,sl⟩):∀H,SqT K H a [.int i,.int j]:=λH=>.inr ⟨_,_,_,l,rfl,rfl,(by show 2<=sizeLine;decide),.cons ⟨_,rfl⟩ (.cons ⟨_,rfl⟩ .nil)⟩
theorem aav{K:Frag}{h:Heap}{mg:Str->Ψ}{x:Str}{i:Int}{t:Tok}(X:K.In h)(G:h.Ns mainGlobals mg)(l:nsIn K mainGlobals x=some (some (.int i t))):∃u,mg x=some u/\RelV (.int i) u:=⟨_,mg_of X G l,_,rfl⟩
def Lst:Nat->(Δ->Prop)->Prop
 |0,P=>P []
 |n+1,P=>∀a,Lst n λl=>P (a::l)
theorem zU:∀(n:Nat){P:Δ->Prop},Lst n P->∀us:Δ,us.length=n->P us
 |0,_,h,[],_=>h
 |n+1,_,h,a::l,e=>zU n (h a) l (Nat.succ.inj e)
section
variable{K:Frag}{h:Heap}{mg:Str->Ψ}{x m ac:Str}{v:Value}{C f:Addr}{st:Stmt}{ps:Θ}{oc:Value}{od an:Ω}{cc:Array (Ψ)}{kV bj pm af ct:Value}{i j:Int}{d:Ω}{n:Nat}{sl:Array (Ψ)}{t u:Tok}
theorem q_c(X:K.In h:=by assumption)(G:h.Ns mainGlobals mg:=by assumption)(e:nsIn K mainGlobals x=some (some v):=by k_is):mg x=some v:=mg_of X G e
theorem q_z(X:K.In h:=by assumption)(G:h.Ns mainGlobals mg:=by assumption)(e:nsIn K mainGlobals x=some none:=by k_is):mg x=none:=PySem.W.mg_none_of X G e
theorem q_n(e:findIn K (.ref C) x=some none:=by k_is):bR K C x:=e
theorem q_m(a:findIn K (.ref C) m=some (some (.ref f)):=by k_is)(b:isFn K (.ref f)=true:=by k_is)(c:keepIn K (.ref f)=true:=by k_is):Meth K C m f:=⟨a,b,c⟩
theorem q_M(a:makesIn K C=true:=by k_is)(b:findIn K (.ref C) "__init__"=some (some (.ref f)):=by k_is)(c:isFn K (.ref f)=true:=by k_is)(e:keepIn K (.ref C)=true:=by k_is):Mk K C f:=⟨a,b,c,e⟩
theorem q_4(a:plainGet K C Str.empty=true:=by k_is)(b:hasDictIn K C=true:=by k_is)(c:plainOver K C=true:=by k_is)(e:findIn K (.ref C) "__setattr__"=some (some (.builtin "object.__setattr__")):=by k_is):Cls K C:=⟨a,b,c,e⟩
theorem q_B(a:specialIn K (.ref C) "__getattribute__"=some (some (.builtin "type.__getattribute__")):=by k_is)(b:readsIn K C (.type "type")=true:=by k_is)(c:findCls K (.ref C) (.type "type") m=some (.val (.ref f)):=by k_is)(e:keepIn K (.ref f)=true:=by k_is):vf K C m f:=⟨a,b,c,rfl,e⟩
theorem q_x(e:excIn K C bmV "ValueError.__new__"=true:=by k_exc):Ck K C:=e
theorem q_g(X:K.In h:=by assumption)(G:h.Ns mainGlobals mg:=by assumption)(l:nsIn K mainGlobals x=some (some (.int i t)):=by k_is):∃u,mg x=some u/\RelV (.int i) u:=aav X G l
theorem q_t(l:K.lookup C=some ⟨.type "tuple",d,.seq #[.int i t,.int j u] n,sl⟩:=by k_is):∀H,SqT K H C [.int i,.int j]:=VJ l
theorem q_f(hb:∀(kV bj pm:Value)(an:Ω)(af ct:Value),Lst ps.length λus=>bindArgs (PySem.W.fnOf x x (fK st) (cR st) (bw st) .none kV bj pm an af ct) ⟨us,[]⟩=pure (ps.zip us):=by repeat (first|rfl|intro _))(X:K.In h:=by assumption)(G:h.Ns mainGlobals mg:=by assumption)
 (a:nsIn K mainGlobals x=some (some (.ref f)):=by k_is)(l:K.lookup f=some ⟨oc,od,.func (PySem.W.fnOf x x (fK st) (cR st) (bw st) .none kV bj pm an af ct),cc⟩:=by k_is)
 (c:codeIn K af x=true:=by k_is)(k:keepIn K (.ref f)=true:=by k_is):dO K mg x st ps:=Qd X G a l c k λkV bj pm an af ct us e=>zU _ (hb kV bj pm an af ct) us e
theorem q_h(hb:∀(kV bj pm:Value)(an:Ω)(af ct:Value),Lst ps.length λus=>bindArgs (PySem.W.fnOf x ac (fK st) (cR st) (bw st) .none kV bj pm an af ct) ⟨us,[]⟩=pure (ps.zip us):=by repeat (first|rfl|intro _))
 (l:K.lookup f=some ⟨oc,od,.func (PySem.W.fnOf x ac (fK st) (cR st) (bw st) .none kV bj pm an af ct),cc⟩:=by k_is)(c:codeIn K af ac=true:=by k_is)(k:keepIn K (.ref f)=true:=by k_is):vX K x ac st ps f:=QX l c k λkV bj pm an af ct us e=>zU _ (hb kV bj pm an af ct) us e
end
section
variable{K:Frag}{C HE fI:Addr}{nm qn:Str}{N:Addr}{bs sub:Δ}{sn:Θ}{ab:Bool}{col:Option Bool}{dd:Ω}{k0 k1 k2 k3 k5:Ψ}{o:Obj}{cd:ClassData}
theorem q_E(he:excIn K HE bmV "ValueError.__new__"=true:=by k_exc)(l:K.lookup C=some (excClassObj nm qn C N bs (.ref HE::bmV) true sn sub ab col dd k0 k1 k2 k3 k5 "ValueError.__new__"):=by k_is)(n1:nsOkIn K N=true:=by kernel_rfl)(n2:nsIn K N "__init__"=some (some (.ref fI)):=by k_is)
 (lf:K.lookup fI=some o:=by k_is)(hf:o.cls=.type "function":=by rfl)(kp:keepIn K (.ref C)=true:=by k_is):za K C HE fI:=⟨⟨nm,qn,N,bs,sn,sub,ab,col,dd,k0,k1,k2,k3,k5,l,n1,n2⟩,he,⟨o,lf,hf⟩,kp⟩
theorem q_S(a:clsIn K C=some cd:=by k_is)(b:cd.hasDict=true:=by rfl)(c:zK cd.mro=true:=by rfl)(e:findIn K (.ref C) "__setattr__"=some (some (.builtin "object.__setattr__")):=by k_is)(m:mroIn K C (.type "object")=some true:=by k_is):Nm K C:=⟨⟨cd,a,b,c⟩,e,m⟩
theorem q_b(a:specialIn K (.ref C) "__getattribute__"=some (some (.builtin "type.__getattribute__")):=by k_is)(b:readsIn K C (.type "type")=true:=by k_is)(c:findCls K (.ref C) (.type "type") "__init__"=some (.val (.builtin "ValueError.__init__")):=by k_is):Ke K C:=⟨a,b,c⟩
theorem q_5(a:findIn K (.ref C) "__getattribute__"=some (some (.builtin "BaseException.__getattribute__")):=by k_is)(b:findIn K (.ref C) "__getattr__"=some none:=by k_is)(c:findIn K (.ref C) "__class__"=some (some (.builtin "object.__class__")):=by k_is)(e:mroIn K C (.type "object")=some true:=by k_is)(m:mroIn K C (.type "BaseException")=some true:=by k_is):n8 K C:=⟨a,b,c,e,m⟩
end
section
variable{X:Cx}{es:List Expr}{t:TA}{pos:Pos}
def Zw:R2:=λx y H Q=>∃l b xs zs,x=.ref l/\y=.ref b/\H l=some (.lst xs)/\H b=some (.lst zs)/\xs.length+zs.length<=sizeLine/\∀p H',Same H H'->H p=none->H' p=some (.lst (xs++zs))->Q (.ref p) H'
theorem Qw:OpR X (binaryOp .Add) Zw:=Ux.imp λx y H Q hP=>by obtain⟨l,b,xs,zs,e1,e2,h1,h2,z,q⟩:=hP;exact⟨l,b,xs,zs,e1,e2,h1,h2,z,λp hp=>q p _ (Same.upd hp) hp bK⟩
end
section
variable{X:Cx}{k:Nat}{f C B:Addr}{ps:Θ}{sp:Sp}{x m:Str}{p pos ag:Pos}{e:Expr}{es:List Expr}{t:TA}
def Sh(C:Addr)(sp:Sp)(t:TA):TE:=λσ H Q=>t σ H λvs H1=>∀x dx,H1 x=none->H1 dx=none->dx≠x->sp (.ref x::vs) (upd (upd H1 dx (.own x)) x (.ins C dx [])) (λv H2=>v=.non/\Q (.ref x) H2) E0
theorem K5(M:Mk X.K C f)(G:zv X CX0 k f ps sp)(hr:cA (k+1) X.A)(hg:Gl X x)(hm:X.mg x=some (.ref C))(ha:PA X (e::es) t)(aI:qq x:=by decide)
 (he:qf X e es:=by rfl)(aE:qo X pos es:=by rfl):PE X (.Call (.Name x p) (e::es) [] pos) (Sh C sp t):=by
 obtain⟨fd,F,hb⟩:=G;refine(Rf M F hr hg hm hb .nil Eb ha.mono aI he aE).imp λσ H Q h=>⟨_,h,λvs H1 q x dx h1 h2 h3=>?_⟩;rw[List.append_nil];exact q x dx h1 h2 h3
theorem Li{pl:Sem Bool}(c:vf X.K B m f)(G:zv X CX0 k f ps sp)(hr:cA k X.A)(hg:Gl X x)(hm:X.mg x=some (.ref B))(ha:PA X (e::es) t)(aI:qq x:=by decide)
 (be:qf X e es:=by rfl)(aE:qo X pos es:=by rfl)
 (ht:eval (.Call (.Attribute (.Name x p) m ag) (e::es) [] pos) X.env=(do
   let ov <- eval (.Name x p) X.env
   standAt ag.atName
   let(f,first) <- holding [ov] (getMethod ov m pl)
   callWith pos f first (backTo pos (starEach (e::es) X.env)) (backToKw pos (keywordEach [] X.env))):=by rfl) :
  PE X (.Call (.Attribute (.Name x p) m ag) (e::es) [] pos) (Eu sp t):=by
 obtain⟨fd,F,hb⟩:=G;exact QB (pl:=pl) c F hr hg hm hb ha aI be aE ht
end
inductive T where
 |any|non|bl (b:Bool)|int (i:Int)|str (s:Str)|val (v:V)
 |tup (ts:List T)|lst (ts:List T)|scr (ts:List T)
 |dct (ks:List Key) (ts:List T)|ins (C:Addr) (ks:Θ) (ts:List T)|exc (C:Addr) (ks:Θ) (ts:List T)
def tV(F:Hp):Ω->List (Str×V)->Prop
 |none,l=>l=[]
 |some d,l=>F d=some (.xd l)
mutual
inductive Rep(K:Frag)(F:Hp):V->T->Prop
 |any (v:V):Rep K F v .any
 |non:Rep K F .non .non
 |bl (b:Bool):Rep K F (.bl b) (.bl b)
 |int (i:Int):Rep K F (.int i) (.int i)
 |str (s:Str):Rep K F (.str s) (.str s)
 |val (v:V):Rep K F v (.val v)
 |tup {a:Addr}{xs:Β}{ts:List T} : SqT K F a xs->bD K F xs ts->Rep K F (.ref a) (.tup ts)
 |lst {a:Addr}{xs:Β}{ts:List T} : F a=some (.lst xs)->bD K F xs ts->Rep K F (.ref a) (.lst ts)
 |scr {a:Addr}{xs:Β}{ts:List T} : SqL K F a xs->bD K F xs ts->Rep K F (.ref a) (.scr ts)
 |dct {a:Addr}{ks:List Key}{xs:Β}{ts:List T} : Rd F a (.dK (ks.zip xs))->ks.length=xs.length->bD K F xs ts->Rep K F (.ref a) (.dct ks ts)
 |ins {a C dx:Addr}{ks:Θ}{xs:Β}{ts:List T} : F a=some (.ins C dx (ks.zip xs))->F dx=some (.own a)->ks.length=xs.length->bD K F xs ts->Rep K F (.ref a) (.ins C ks ts)
 |exc {a C:Addr}{d:Ω}{ks:Θ}{xs:Β}{ts:List T} : F a=some (XO a C d)->tV F d (ks.zip xs)->ks.length=xs.length->bD K F xs ts->Rep K F (.ref a) (.exc C ks ts)
inductive bD(K:Frag)(F:Hp):Β->List T->Prop
 |nil:bD K F [] []
 |cons {x:V}{xs:Β}{t:T}{ts:List T} : Rep K F x t->bD K F xs ts->bD K F (x::xs) (t::ts)
end
section
variable{K:Frag}{F F' H H':Hp}
theorem Same.rd{a:Addr}{u:HO}(S:Same F F')(h:Rd F a u):Rd F' a u:=h.imp (S _ _) λhP=>by obtain⟨o,e⟩:=hP;exact⟨o,S _ _ e⟩
theorem tV.same{d:Ω}{l:List (Str×V)}(S:Same F F')(h:tV F d l):tV F' d l:=by
 cases d with
 |none=>exact h
 |some d=>exact S _ _ h
mutual
theorem Rep.same(S:Same F F'){x:V}{t:T}(h:Rep K F x t):Rep K F' x t:=by
 cases h with
 |any|non|bl|int|str|val=>constructor
 |tup e h=>exact .tup (S.tup e) (bD.same S h)
 |lst e h=>exact .lst (S _ _ e) (bD.same S h)
 |scr e h=>exact .scr (S.seq e) (bD.same S h)
 |dct e l h=>exact .dct (S.rd e) l (bD.same S h)
 |ins e d l h=>exact .ins (S _ _ e) (S _ _ d) l (bD.same S h)
 |exc e d l h=>exact .exc (S _ _ e) (d.same S) l (bD.same S h)
theorem bD.same(S:Same F F'){xs:Β}{ts:List T}(h:bD K F xs ts):bD K F' xs ts:=by
 cases h with
 |nil=>exact .nil
 |cons h t=>exact .cons (Rep.same S h) (bD.same S t)
end
theorem Rep.lstI{x:V}{ts:List T}(h:Rep K F x (.lst ts)):∃a xs,x=.ref a/\F a=some (.lst xs)/\bD K F xs ts:=by cases h;exact⟨_,_,rfl,by assumption,by assumption⟩
theorem Rep.tupI{x:V}{ts:List T}(h:Rep K F x (.tup ts)):∃a xs,x=.ref a/\SqT K F a xs/\bD K F xs ts:=by cases h;exact⟨_,_,rfl,by assumption,by assumption⟩
theorem Rep.scrI{x:V}{ts:List T}(h:Rep K F x (.scr ts)):∃a xs,x=.ref a/\SqL K F a xs/\bD K F xs ts:=by cases h;exact⟨_,_,rfl,by assumption,by assumption⟩
theorem Rep.dctI{x:V}{ks:List Key}{ts:List T}(h:Rep K F x (.dct ks ts)):∃a xs,x=.ref a/\Rd F a (.dK (ks.zip xs))/\ks.length=xs.length/\bD K F xs ts:=by cases h;exact⟨_,_,rfl,by assumption,by assumption,by assumption⟩
theorem Rep.insI{x:V}{C:Addr}{ks:Θ}{ts:List T}(h:Rep K F x (.ins C ks ts)):∃a dx xs,x=.ref a/\F a=some (.ins C dx (ks.zip xs))/\F dx=some (.own a)/\ks.length=xs.length/\bD K F xs ts:=by cases h;exact⟨_,_,_,rfl,by assumption,by assumption,by assumption,by assumption⟩
theorem Rep.excI{x:V}{C:Addr}{ks:Θ}{ts:List T}(h:Rep K F x (.exc C ks ts)):∃a d xs,x=.ref a/\F a=some (XO a C d)/\tV F d (ks.zip xs)/\ks.length=xs.length/\bD K F xs ts:=by cases h;exact⟨_,_,_,rfl,by assumption,by assumption,by assumption,by assumption⟩
theorem bD.len{xs:Β}{ts:List T}(h:bD K F xs ts):xs.length=ts.length:=by
 cases h with
 |nil=>rfl
 |cons _ t=>exact ZH (· + 1) (bD.len t)
theorem bD.app{xs ys:Β}{ts us:List T}(h:bD K F xs ts)(k:bD K F ys us):bD K F (xs++ys) (ts++us):=by
 cases h with
 |nil=>exact k
 |cons a b=>exact .cons a (bD.app b k)
theorem bD.at_{xs:Β}{ts:List T}{i:Nat}{t:T}(h:bD K F xs ts)(e:ts[i]?=some t):∃x,xs[i]?=some x/\Rep K F x t:=by
 cases h with
 |nil=>cases e
 |cons a b =>
  cases i with
  |zero=>cases e;exact⟨_,rfl,a⟩
  |succ i =>
   obtain⟨x,q,r⟩:=bD.at_ (i:=i) b (by simpa using e);exact⟨x,by simpa using q,r⟩
theorem bD.of_at:∀{xs:Β}{ts:List T},xs.length=ts.length->(∀(i:Nat)x t,xs[i]?=some x->ts[i]?=some t->Rep K F x t)->bD K F xs ts
 |[],[],_,_=>.nil
 |x::xs,t::ts,l,h=>.cons (h 0 x t rfl rfl) (bD.of_at (Nat.succ.inj l) λi y u e1 e2=>h (i+1) y u e1 e2)
 |[],_::_,l,_=>by cases l
 |_::_,[],l,_=>by cases l
theorem bD.set{x:V}{t:T}(r:Rep K F x t):∀{xs:Β}{ts:List T}(i:Nat),bD K F xs ts->bD K F (xs.set i x) (ts.set i t)
 |_,_,_,.nil=>.nil
 |_,_,0,.cons _ h=>.cons r h
 |_,_,i+1,.cons a h=>.cons a (bD.set r i h)
theorem bD.take:∀{xs:Β}{ts:List T}(n:Nat),bD K F xs ts->bD K F (xs.take n) (ts.take n)
 |_,_,0,_=>.nil
 |_,_,_+1,.nil=>.nil
 |_,_,n+1,.cons a h=>.cons a (bD.take n h)
theorem bD.drop:∀{xs:Β}{ts:List T}(n:Nat),bD K F xs ts->bD K F (xs.drop n) (ts.drop n)
 |_,_,0,h=>h
 |_,_,_+1,.nil=>.nil
 |_,_,n+1,.cons _ h=>bD.drop n h
def hd(S:Addr->Prop)(H:Hp):Hp:=λb=>open Classical in if S b then none else H b
theorem jK{S:Addr->Prop}{b:Addr}(h:S b):hd S H b=none:=by unfold hd;rw[ZY h]
theorem bO{S:Addr->Prop}{b:Addr}(h:¬S b):hd S H b=H b:=by unfold hd;rw[ZZ h]
theorem cF{S:Addr->Prop}{b:Addr}{o:HO}(e:hd S H b=some o):¬S b/\H b=some o:=by
 by_cases h:S b
 .rw[jK h]at e;cases e
 .rw[bO h]at e;exact⟨h,e⟩
theorem f9{S S':Addr->Prop}(i:∀b,S' b->S b\/H b=none)(e:Same H H'):Same (hd S H) (hd S' H'):=λb o h=>by
 obtain⟨n,h⟩:=cF h;rw[bO λz=>?_]
 .exact e _ _ h
 .rcases i b z with y|y
  .exact n y
  .rw[h]at y;cases y
theorem cu{S:Addr->Prop} : Same (hd S H) H:=λ_ _ h=>(cF h).2
theorem bF{S:Addr->Prop}(e:Same H H'):Same (hd S H) (hd S H'):=f9 (λ_=>.inl) e
theorem HW:hd (λ_=>False) H=H:=funext λ_=>bO id
inductive OT where
 |und|fz (t:T)|l1 (ts:List T)|l2 (dy:List (List T))|d1 (ks:List Key) (ts:List T)|ob (a dx C:Addr) (ks:Θ) (ts:List T)|la (a:Addr) (ts:List T)|pr (ts us:List T)
def frz:OT->T
 |.und=>.any
 |.fz t=>t
 |.l1 ts=>.lst ts
 |.l2 dy=>.lst (dy.map T.lst)
 |.d1 ks ts=>.dct ks ts
 |.ob _ _ C ks ts=>.ins C ks ts
 |.la _ ts=>.lst ts
 |.pr ts us=>.tup [.lst ts,.lst us]
def Slo(K:Frag)(F H:Hp)(v:Option V)(A:Φ):OT->Prop
 |.und=>A=[]
 |.fz t=>A=[]/\∃u,v=some u/\Rep K F u t
 |.l1 ts=>∃a xs,v=some (.ref a)/\A=[a]/\H a=some (.lst xs)/\bD K F xs ts
 |.l2 dy=>∃a bs,v=some (.ref a)/\A=a::bs/\(a::bs).Nodup/\H a=some (.lst (bs.map V.ref))/\bs.length=dy.length/\∀(i:Nat)b ts,bs[i]?=some b->dy[i]?=some ts->∃xs,H b=some (.lst xs)/\bD K F xs ts
 |.d1 ks ts=>∃a xs,v=some (.ref a)/\A=[a]/\H a=some (.dK (ks.zip xs))/\ks.length=xs.length/\bD K F xs ts
 |.ob a dx C ks ts=>∃xs,v=some (.ref a)/\A=[a,dx]/\H a=some (.ins C dx (ks.zip xs))/\H dx=some (.own a)/\ks.length=xs.length/\bD K F xs ts
 |.la a ts=>∃xs,v=some (.ref a)/\A=[a]/\H a=some (.lst xs)/\bD K F xs ts
 |.pr ts us=>∃p a b xs ys,v=some (.ref p)/\A=[a,b]/\a≠b/\F p=some (.tup [.ref a,.ref b])/\H a=some (.lst xs)/\H b=some (.lst ys)/\bD K F xs ts/\bD K F ys us
theorem Slo.same{v:Option V}{A:Φ}(S:Same F F')(E:Same H H'){x:OT}(h:Slo K F H v A x):Slo K F' H' v A x:=by
 cases x with
 |und=>exact h
 |fz t=>obtain⟨a,u,e,r⟩:=h;exact⟨a,u,e,r.same S⟩
 |l1 ts=>obtain⟨a,xs,e,z,h,r⟩:=h;exact⟨a,xs,e,z,E _ _ h,r.same S⟩
 |l2 dy=>obtain⟨a,bs,e,z,n,h,l,r⟩:=h;exact⟨a,bs,e,z,n,E _ _ h,l,λi b ts e1 e2=>let⟨xs,q,r⟩:=r i b ts e1 e2;⟨xs,E _ _ q,r.same S⟩⟩
 |d1 ks ts=>obtain⟨a,xs,e,z,h,l,r⟩:=h;exact⟨a,xs,e,z,E _ _ h,l,r.same S⟩
 |ob a dx C ks ts=>obtain⟨xs,e,z,h,d,l,r⟩:=h;exact⟨xs,e,z,E _ _ h,E _ _ d,l,r.same S⟩
 |la a ts=>obtain⟨xs,e,z,h,r⟩:=h;exact⟨xs,e,z,E _ _ h,r.same S⟩
 |pr ts us=>obtain⟨p,a,b,xs,ys,e,z,n,t,h,k,r,q⟩:=h;exact⟨p,a,b,xs,ys,e,z,n,S _ _ t,E _ _ h,E _ _ k,r.same S,q.same S⟩
theorem Slo.off{v:Option V}{A:Φ}{x:OT}(s:Slo K F H v A x)(off:∀b∈A,∀u,H b=some u->H' b=some u):Slo K F H' v A x:=by
 cases x with
 |und=>exact s
 |fz t=>exact s
 |l1 ts=>obtain⟨a,xs,e,z,w,r⟩:=s;exact⟨a,xs,e,z,off a (by rw[z];simp) _ w,r⟩
 |l2 dy=>obtain⟨a,bs,e,z,nd,w,l,r⟩:=s;exact⟨a,bs,e,z,nd,off a (by rw[z];simp) _ w,l,λi b ts e1 e2=>let⟨xs,q,r⟩:=r i b ts e1 e2;⟨xs,off b (by rw[z];exact aG _ (aA e1)) _ q,r⟩⟩
 |d1 ks ts=>obtain⟨a,xs,e,z,w,r⟩:=s;exact⟨a,xs,e,z,off a (by rw[z];simp) _ w,r⟩
 |ob a dx C ks ts=>obtain⟨xs,e,z,w,d,r⟩:=s;exact⟨xs,e,z,off a (by rw[z];simp) _ w,off dx (by rw[z];simp) _ d,r⟩
 |la a ts=>obtain⟨xs,e,z,w,r⟩:=s;exact⟨xs,e,z,off a (by rw[z];simp) _ w,r⟩
 |pr ts us=>obtain⟨p,a,b,xs,ys,e,z,n,t,h,k,r⟩:=s;exact⟨p,a,b,xs,ys,e,z,n,t,off a (by rw[z];simp) _ h,off b (by rw[z];simp) _ k,r⟩
def Oe(H:Hp)(a:Addr):Prop:=∃o,H a=some o/\((∃xs,o=.lst xs)\/(∃k,o=.dK k)\/(∃C d f,o=.ins C d f)\/∃x,o=.own x)
theorem Slo.sole{v:Option V}{A:Φ}{x:OT}(h:Slo K F H v A x){a:Addr}(ha:a∈A):Oe H a:=by
 cases x with
 |und=>rw[show A=[]from h]at ha;cases ha
 |fz t=>rw[h.1]at ha;cases ha
 |l1 ts=>obtain⟨b,xs,_,rfl,e,_⟩:=h;cases YR.mp ha;exact⟨_,e,.inl ⟨_,rfl⟩⟩
 |l2 dy =>
  obtain⟨b,bs,_,rfl,_,e,l,r⟩:=h;rcases YU.mp ha with z|z
  .exact⟨_,z ▸ e,.inl ⟨_,rfl⟩⟩
  .obtain⟨i,hi⟩:=aP z;have li:i<dy.length:=l ▸ (ao.mp hi).1;obtain⟨xs,q,_⟩:=r i a _ hi (aj li);exact⟨_,q,.inl ⟨_,rfl⟩⟩
 |d1 ks ts=>obtain⟨b,xs,_,rfl,e,_⟩:=h;cases YR.mp ha;exact⟨_,e,.inr (.inl ⟨_,rfl⟩)⟩
 |ob b dx C ks ts =>
  obtain⟨xs,_,rfl,e,d,_⟩:=h;rcases YU.mp ha with z|z
  .exact⟨_,z ▸ e,.inr (.inr (.inl ⟨_,_,_,rfl⟩))⟩
  .cases YR.mp z;exact⟨_,d,.inr (.inr (.inr ⟨_,rfl⟩))⟩
 |la b ts=>obtain⟨xs,_,rfl,e,_⟩:=h;cases YR.mp ha;exact⟨_,e,.inl ⟨_,rfl⟩⟩
 |pr ts us =>
  obtain⟨p,b,c,xs,ys,_,rfl,_,_,e,d,_⟩:=h;rcases YU.mp ha with z|z
  .exact⟨_,z ▸ e,.inl ⟨_,rfl⟩⟩
  .cases YR.mp z;exact⟨_,d,.inl ⟨_,rfl⟩⟩
theorem Slo.frz{u:V}{A:Φ}{x:OT}(h:Slo K F H (some u) A x)(S:Same F F')(E:∀a∈A,F' a=H a):Rep K F' u (frz x):=by
 cases x with
 |und=>exact .any _
 |fz t=>obtain⟨_,w,e,r⟩:=h;cases e;exact r.same S
 |l1 ts=>obtain⟨b,xs,e,rfl,q,r⟩:=h;cases e;exact .lst ((E _ (by simp)).trans q) (r.same S)
 |l2 dy =>
  obtain⟨b,bs,e,rfl,_,q,l,r⟩:=h;cases e;refine .lst ((E _ (by simp)).trans q) (bD.of_at (by simp[l]) λi x t e1 e2=>?_);rw[aq]at e1 e2;cases e3:bs[i]? with
  |none=>rw[e3]at e1;cases e1
  |some c =>
   cases e4:dy[i]? with
   |none=>rw[e4]at e2;cases e2
   |some ts =>
    rw[e3]at e1;rw[e4]at e2;cases e1;cases e2;obtain⟨xs,q,r⟩:=r i c ts e3 e4;exact .lst ((E _ (aG _ (aA e3))).trans q) (r.same S)
 |d1 ks ts=>obtain⟨b,xs,e,rfl,q,l,r⟩:=h;cases e;exact .dct (.inl ((E _ (by simp)).trans q)) l (r.same S)
 |ob b dx C ks ts=>obtain⟨xs,e,rfl,q,d,l,r⟩:=h;cases e;exact .ins ((E _ (by simp)).trans q) ((E _ (by simp)).trans d) l (r.same S)
 |la b ts=>obtain⟨xs,e,rfl,q,r⟩:=h;cases e;exact .lst ((E _ (by simp)).trans q) (r.same S)
 |pr ts us =>
  obtain⟨p,b,c,xs,ys,e,rfl,_,t,q1,q2,r1,r2⟩:=h;cases e;exact .tup (.inl (.of (S _ _ t))) (.cons (.lst ((E _ (by simp)).trans q1) (r1.same S)) (.cons (.lst ((E _ (by simp)).trans q2) (r2.same S)) .nil))
abbrev zz:Type:=Nat->Φ
def Ow(own:zz)(b:Addr):Prop:=∃i,b∈own i
structure SR(K:Frag)(own:zz)(H:Hp)(σ:L2.St)(o:List OT):Prop where
 len:o.length=σ.length
 sl:∀i x,o[i]?=some x->Slo K (hd (Ow own) H) H (σ[i]?.join) (own i) x
 out:∀i,o.length<=i->∀a∈own i,∃xs,H a=some (.lst xs)
 dis:∀i j a,a∈own i->a∈own j->i=j
variable{own:zz}{σ:L2.St}{o:List OT}
theorem SR.same(h:SR K own H σ o)(E:Same H H'):SR K own H' σ o:=⟨h.len,λi x e=>(h.sl i x e).same (bF E) E,λi hi a ha=>let⟨xs,e⟩:=h.out i hi a ha;⟨xs,E _ _ e⟩,h.dis⟩
theorem SR.sole(h:SR K own H σ o){b:Addr}(z:Ow own b):Oe H b:=by
 obtain⟨i,z⟩:=z;by_cases hi:i<o.length
 .exact(h.sl i _ (aj hi)).sole z
 .obtain⟨xs,e⟩:=h.out i (Nat.not_lt.mp hi) b z;exact⟨_,e,.inl ⟨_,rfl⟩⟩
theorem Oe.ne{a:Addr}(h:Oe H a):H a≠none:=by
 obtain⟨o,e,_⟩:=h;rw[e];exact λz=>by cases z
def NR(K:Frag)(S:Addr->Prop)(H H':Hp)(v:V)(x:OT):Prop:=∃B,(∀a∈B,H a=none)/\Slo K (hd (λb=>S b\/b∈B) H') H' (some v) B x
theorem NR.rep{S:Addr->Prop}{v:V}{x:OT}(h:NR K S H H' v x)(hs:∀b,S b->H b≠none):Rep K (hd S H') v (L2.frz x):=by
 obtain⟨B,n,r⟩:=h;exact r.frz (f9 (λb z=>.inl (.inl z)) (λ_ _ z=>z)) λa ha=>bO λz=>hs a z (n a ha)
theorem NR.fz{S:Addr->Prop}{v:V}{t:T}(h:Rep K (hd S H') v t):NR K S H H' v (.fz t):=⟨[],λ_ z=>(nomatch z),rfl,v,rfl,h.same (f9 (λb z=>.inl (z.elim id λy=>(nomatch y))) λ_ _ z=>z)⟩
theorem NR.l1{S:Addr->Prop}{a:Addr}{xs:Β}{ts:List T}(n:H a=none)(e:H' a=some (.lst xs))(h:bD K (hd (λb=>S b\/b=a) H') xs ts):NR K S H H' (.ref a) (.l1 ts) :=
 ⟨[a],λ_ z=>(YR.mp z) ▸ n,a,xs,rfl,rfl,e,h.same (f9 (λb z=>.inl (z.imp id YR.mp)) λ_ _ z=>z)⟩
theorem NR.back{S:Addr->Prop}{H0:Hp}{v:V}{x:OT}(h:NR K S H H' v x)(E:Same H0 H):NR K S H0 H' v x:=by
 obtain⟨B,n,r⟩:=h;exact⟨B,λa ha=>E.free (n a ha),r⟩
def own1(own:zz)(i:Nat)(B:Φ):zz:=λj=>if j=i then B else own j
theorem dX{i:Nat}{B:Φ} : own1 own i B i=B:=ZY rfl
theorem cL{i j:Nat}{B:Φ}(h:j≠i):own1 own i B j=own j:=ZZ h
theorem Ow.of1{i:Nat}{B:Φ}{b:Addr}(h:Ow (own1 own i B) b):Ow own b\/b∈B:=by
 obtain⟨j,h⟩:=h;by_cases z:j=i
 .rw[z,dX]at h;exact .inr h
 .rw[cL z]at h;exact .inl ⟨j,h⟩
theorem SR.put(h:SR K own H σ o)(E:Same H H'){v:V}{x:OT}(n:NR K (Ow own) H H' v x){i:Nat}(hi:i<o.length):∃ae,SR K ae H' (σ.set i (some v)) (o.set i x)/\Same (hd (Ow own) H) (hd (Ow ae) H'):=by
 obtain⟨B,nb,r⟩:=n;have le:Same (hd (Ow own) H) (hd (Ow (own1 own i B)) H'):=f9 (λb z=>z.of1.imp id (nb b)) E;refine⟨own1 own i B,⟨by rw[X9,X9,h.len],λj y e=>?_,λj hj=>?_,λj k a e1 e2=>?_⟩,le⟩
 .by_cases z:j=i
  .subst z;rw[WU hi]at e;cases e;rw[dX,WU (h.len ▸ hi)];exact r.same (f9 (λb z=>.inl z.of1) λ_ _ z=>z) λ_ _ z=>z
  .rw[WV (Ne.symm z)]at e;rw[cL z,WV (Ne.symm z)];exact(h.sl j y e).same le E
 .rw[X9]at hj;rw[cL (by lia)];intro a ha;obtain⟨xs,e⟩:=h.out j hj a ha;exact⟨xs,E _ _ e⟩
 .by_cases z:j=i<;>by_cases y:k=i
  .rw[z,y]
  .rw[z,dX]at e1;rw[cL y]at e2;exact absurd (nb a e1) (h.sole ⟨k,e2⟩).ne
  .rw[y,dX]at e2;rw[cL z]at e1;exact absurd (nb a e2) (h.sole ⟨j,e1⟩).ne
  .rw[cL z]at e1;rw[cL y]at e2;exact h.dis j k a e1 e2
theorem SR.frz(h:SR K own H σ o){i:Nat}{x:OT}(e:o[i]?=some x){u:V}(hu:σ[i]?=some (some u)):∃ae,SR K ae H σ (o.set i (.fz (L2.frz x)))/\Same (hd (Ow own) H) (hd (Ow ae) H):=by
 have hi:i<o.length:=(ao.mp e).1;have le:Same (hd (Ow own) H) (hd (Ow (own1 own i [])) H):=f9 (λb z=>.inl (z.of1.elim id λy=>(nomatch y))) λ_ _ z=>z;have hs:=h.sl i x e;rw[hu]at hs;refine⟨own1 own i [],⟨by rw[X9,h.len],λj y e'=>?_,λj hj=>?_,λj k a e1 e2=>?_⟩,le⟩
 .by_cases z:j=i
  .subst z;rw[WU hi]at e';cases e';rw[dX,hu];exact⟨rfl,u,rfl,Slo.frz hs le λa ha=>bO λz=>by
    obtain⟨k,z⟩:=z;by_cases y:k=j
    .rw[y,dX]at z;cases z
    .rw[cL y]at z;exact y (h.dis k j a z ha)⟩
  .rw[WV (Ne.symm z)]at e';rw[cL z];exact(h.sl j y e').same le λ_ _ z=>z
 .rw[X9]at hj;rw[cL (by lia)];exact h.out j hj
 .by_cases z:j=i
  .rw[z,dX]at e1;cases e1
  by_cases y:k=i
  .rw[y,dX]at e2;cases e2
  .rw[cL z]at e1;rw[cL y]at e2;exact h.dis j k a e1 e2
theorem SR.chg(h:SR K own H σ o){i:Nat}{x:OT}(e:o[i]?=some x){y:OT}(E:∀b u,b∉own i->H b=some u->H' b=some u)(r:Slo K (hd (Ow own) H') H' (σ[i]?.join) (own i) y):SR K own H' σ (o.set i y)/\Same (hd (Ow own) H) (hd (Ow own) H'):=by
 have hi:i<o.length:=(ao.mp e).1;have le:Same (hd (Ow own) H) (hd (Ow own) H'):=λb u z=>by
  obtain⟨n,z⟩:=cF z;rw[bO n];exact E b u (λq=>n ⟨i,q⟩) z
 refine⟨⟨by rw[X9,h.len],λj z e'=>?_,λj hj a ha=>?_,h.dis⟩,le⟩
 rotate_left
 .rw[X9]at hj;obtain⟨xs,e2⟩:=h.out j hj a ha;exact⟨xs,E a _ (λz=>by have:=h.dis j i a ha z;lia) e2⟩
 by_cases q:j=i
 .subst q;rw[WU hi]at e';cases e';exact r
 .rw[WV (Ne.symm q)]at e';exact((h.sl j z e').same le λ_ _ z=>z).off λb hb u=>E b u λz=>q (h.dis j i b hb z)
theorem SR.get(h:SR K own H σ o){i:Nat}{t:T}(e:o[i]?=some (.fz t)):∃u,σ[i]?=some (some u)/\Rep K (hd (Ow own) H) u t:=by
 obtain⟨_,u,q,r⟩:=h.sl i _ e;refine⟨u,?_,r⟩;cases z:σ[i]? with
 |none=>rw[z]at q;cases q
 |some w=>rw[z]at q;exact ZH some q
end
end L2
namespace L2
open PySem PySem.Spec PyProof.Rows
abbrev RE:=List OT->(OT->Prop)->Prop
abbrev RT:=List OT->(Bool->Prop)->Prop
abbrev RA:=List OT->(List T->Prop)->Prop
def tQ(K:Frag)(r:RE):TE:=λσ H Q=>∃own o R,SR K own H σ o/\r o R/\∀H' v x,R x->Same H H'->NR K (Ow own) H H' v x->Q v H'
def tQT(K:Frag)(r:RT):TT:=λσ H Q=>∃own o R,SR K own H σ o/\r o R/\∀H' b,R b->Same H H'->Q b H'
def tQA(K:Frag)(n:Nat)(r:RA):TA:=λσ H Q=>∃own o R,SR K own H σ o/\r o R/\∀H' vs ts,R ts->ts.length=n->Same H H'->bD K (hd (Ow own) H') vs ts->Q vs H'
def QE(X:Cx)(e:Expr)(r:RE):Prop:=PE X e (tQ X.K r)
def QT(X:Cx)(e:Expr)(r:RT):Prop:=PT X e (tQT X.K r)
def QW(X:Cx)(e:Expr)(r:RT):Prop:=PW X e (tQT X.K r)
def QA(X:Cx)(es:List Expr)(r:RA):Prop:=PA X es (tQA X.K es.length r)
theorem PT.imp{X:Cx}{e:Expr}{t t':TT}(h:PT X e t)(i:∀σ H Q,t' σ H Q->t σ H Q):PT X e t':=λaa s σ H Q I q=>h aa s σ H Q I (i σ H Q q)
theorem PW.imp{X:Cx}{e:Expr}{t t':TT}(h:PW X e t)(i:∀σ H Q,t' σ H Q->t σ H Q):PW X e t':=λwh aa s σ H Q I q=>h wh aa s σ H Q I (i σ H Q q)
theorem PA.imp{X:Cx}{es:List Expr}{t t':TA}(h:PA X es t)(i:∀σ H Q,t' σ H Q->t σ H Q):PA X es t':=λp aa s σ H Q I q=>h p aa s σ H Q I (i σ H Q q)
section
variable{K:Frag}{own:zz}{H:Hp}{σ:L2.St}{o:List OT}
theorem tQ.mk{r:RE}{R:OT->Prop}{Q:VK}(h:SR K own H σ o)(hr:r o R)(k:∀H' v x,R x->Same H H'->Rep K (hd (Ow own) H') v (frz x)->Q v H'):tQ K r σ H Q :=
 ⟨own,o,R,h,hr,λH' v x rx E n=>k H' v x rx E (n.rep λb z=>(h.sole z).ne)⟩
def slot:List OT->Nat->OT
 |[],_=>.und
 |x::_,0=>x
 |_::l,n+1=>slot l n
theorem eF:∀{o:List OT}{i:Nat}{x:OT},slot o i=x->x≠.und->o[i]?=some x
 |[],_,_,e,n=>absurd e.symm n
 |_::_,0,_,e,_=>ZH some e
 |_::l,i+1,x,e,n=>by simpa using eF (o:=l) (i:=i) e n
end
def Wv(i:Nat):RE:=λo q=>match slot o i with|.fz t=>q (.fz t)|_=>False
def rC(t:T):RE:=λ_ q=>q (.fz t)
abbrev qA:Type:=T->T->(OT->Prop)->Prop
def rOp(g:qA)(a b:RE):RE:=λo q=>a o λx=>b o λy=>g (frz x) (frz y) q
def rUn(g:T->(OT->Prop)->Prop)(a:RE):RE:=λo q=>a o λx=>g (frz x) q
def sw(b:Bool)(p q:Prop):Prop:=match b with|true=>p|false=>q
theorem sw2{b:Bool}{p q:Prop}(h1:b=true->p)(h2:b=false->q):sw b p q:=by
 cases b
 .exact h2 rfl
 .exact h1 rfl
theorem swD{c:Prop}[Decidable c]{p q:Prop}(h1:c->p)(h2:¬c->q):sw (decide c) p q:=sw2 (λe=>h1 (of_decide_eq_true e)) λe=>h2 (of_decide_eq_false e)
theorem swT{b:Bool}{p q:Prop}(e:b=true)(h:p):sw b p q:=by subst e;exact h
theorem swF{b:Bool}{p q:Prop}(e:b=false)(h:q):sw b p q:=by subst e;exact h
section
variable{X:Cx}{a b c:Expr}{ra rb rc:RE}{pos:Pos}
theorem qv(i:Nat){x:Str}{pos:Pos}(hN:X.N[i]?=some x:=by rfl)(hv:lR X.env.scope x=true:=by rfl)(hd:qq x:=by decide)
 (a9:qk x:=by decide):QE X (.Name x pos) (Wv i):=(pv i hN hv hd a9).imp λσ H Q hP=>by
 obtain⟨own,o,R,h,hr,k⟩:=hP;unfold Wv at hr;cases e:slot o i with
 |fz t =>
  rw[e]at hr;obtain⟨u,q,r⟩:=h.get (eF e (by intro z;cases z));exact⟨u,q,k H u _ hr (.refl _) (NR.fz r)⟩
 |_=>rw[e]at hr;exact hr.elim
theorem qC{e:Expr}{v:V}{t:T}(h:PE X e (tC v))(r:∀F,Rep X.K F v t):QE X e (rC t):=h.imp λσ H Q hP=>by obtain⟨own,o,R,_,hr,k⟩:=hP;exact k H v _ hr (.refl _) (NR.fz (r _))
theorem aZ{i j pos} : QE X (.Constant (.int i) j pos) (rC (.int i)):=qC Vt λ_=>.int _
theorem jT{b j pos} : QE X (.Constant (.bool b) j pos) (rC (.bl b)):=qC Y7 λ_=>.bl _
theorem jo{j pos} : QE X (.Constant .none j pos) (rC .non):=qC U8 λ_=>.non
theorem fj{x j pos} : QE X (.Constant (.str x) j pos) (rC (.str x)):=qC Nt λ_=>.str _
theorem DR{x:Str}{v:V}{t:T}{pos:Pos}(hm:∃u,X.mg x=some u/\RelV v u)(r:∀F,Rep X.K F v t)(hg:Gl X x:=by rfl)(hd:qq x:=by decide):QE X (.Name x pos) (rC t):=qC (K9 hg hm hd) r
def GO(X:Cx)(f:Value->Value->Sem Value)(g:qA):Prop:=OpR X f λx y H Q=>∃S t u R,(∀b,S b->H b≠none)/\Rep X.K (hd S H) x t/\Rep X.K (hd S H) y u/\g t u R/\∀H' v z,R z->Same H H'->NR X.K S H H' v z->Q v H'
theorem q2{g:qA}{σ:L2.St}{H:Hp}{Q:VK}(h:tQ X.K (rOp g ra rb) σ H Q):tOp (λx y H Q=>∃S t u R,(∀b,S b->H b≠none)/\Rep X.K (hd S H) x t/\Rep X.K (hd S H) y u/\g t u R/\∀H' v z,R z->Same H H'->NR X.K S H H' v z->Q v H') (tQ X.K ra) (tQ X.K rb) σ H Q:=by
 obtain⟨own,o,R,h,hr,k⟩:=h;exact tQ.mk h hr λH1 v x q E1 r1=>tQ.mk (h.same E1) q λH2 w y q2 E2 r2=>⟨Ow own,_,_,R,λb z=>((h.same (E1.trans E2)).sole z).ne,r1.same (bF E2),r2,q2,λH' u z rz E3 n=>k H' u z rz (E1.trans (E2.trans E3)) (n.back (E1.trans E2))⟩
theorem bA{op:Operator}{g:qA}(ho:GO X (binaryOp op) g)(ha:QE X a ra)(hb:QE X b rb):QE X (.BinOp a op b pos) (rOp g ra rb):=(WD ho ha hb).imp λ_ _ _=>q2
theorem iw{op:CmpOp}{g:qA}(ho:GO X (compareOp op) g)(ha:QE X a ra)(hb:QE X b rb)(hm:behindInMarks op b=false:=by exact Ly _):QE X (.Compare a [op] [b] pos) (rOp g ra rb):=(Qs ho ha hb hm).imp λ_ _ _=>q2
def gI(g:Int->Int->OT):qA
 |.int i,.int j,q=>q (g i j)
 |_,_,_=>False
theorem GO.ints{f:Value->Value->Sem Value}{g:Int->Int->V}{t:Int->Int->T}(h:OpR X f (rI0 g))(r:∀i j F,Rep X.K F (g i j) (t i j)):GO X f (gI λi j=>.fz (t i j)):=h.imp λx y H Q hP=>by
 obtain⟨S,t,u,R,_,hx,hy,hg,k⟩:=hP;cases hx<;>try exact hg.elim
 cases hy<;>try exact hg.elim
 exact⟨_,_,rfl,rfl,k H _ _ hg (.refl _) (NR.fz (r _ _ _))⟩
theorem Tz:GO X (binaryOp .Sub) (gI λi j=>.fz (.int (i-j))):=.ints Vq λ_ _ _=>.int _
theorem BK:GO X (compareOp .Lt) (gI λi j=>.fz (.bl (decide (i<j)))):=.ints XR λ_ _ _=>.bl _
theorem CN:GO X (compareOp .LtE) (gI λi j=>.fz (.bl (decide (i<=j)))):=.ints Xq λ_ _ _=>.bl _
theorem Dw:GO X (compareOp .Gt) (gI λi j=>.fz (.bl (decide (j<i)))):=.ints Xg λ_ _ _=>.bl _
theorem K6:GO X (compareOp .GtE) (gI λi j=>.fz (.bl (decide (j<=i)))):=.ints WW λ_ _ _=>.bl _
def Z0:qA
 |.int i,.int j,q=>q (.fz (.int (i+j)))
 |.str a,.str b,q=>a.length+b.length<=sizeLine/\q (.fz (.str (a++b)))
 |.lst a,.lst b,q=>a.length+b.length<=sizeLine/\q (.l1 (a++b))
 |_,_,_=>False
theorem mU{S:Addr->Prop}{H H':Hp}{p:Addr}{xs:Β}{ts:List T}(r:bD X.K (hd S H) xs ts)(E:Same H H')(n:H p=none)(e:H' p=some (.lst xs)):NR X.K S H H' (.ref p) (.l1 ts) :=
 NR.l1 n e (r.same (f9 (λb z=>z.imp id λ(y:b=p)=>y ▸ n) E))
theorem bM:GO X (binaryOp .Add) Z0:=λaa s σ H x y v u Q I rx ry hP=>by
 obtain⟨S,t,w,R,_,hx,hy,hg,k⟩:=hP;cases t<;>try exact hg.elim
 .cases hx;cases w<;>try exact hg.elim
  cases hy;exact Tf aa s σ H _ _ v u Q I rx ry ⟨_,_,rfl,rfl,k H _ _ hg (.refl _) (NR.fz (.int _))⟩
 .cases hx;cases w<;>try exact hg.elim
  cases hy;exact Qx aa s σ H _ _ v u Q I rx ry ⟨_,_,rfl,rfl,hg.1,k H _ _ hg.2 (.refl _) (NR.fz (.str _))⟩
 .cases w<;>try exact hg.elim
  obtain⟨a,xs,rfl,e1,r1⟩:=hx.lstI;obtain⟨b,ys,rfl,e2,r2⟩:=hy.lstI;exact Qw aa s σ H _ _ v u Q I rx ry ⟨a,b,xs,ys,rfl,rfl,(cF e1).2,(cF e2).2,by rw[r1.len,r2.len];exact hg.1,λp H' E n e=>k H' _ _ hg.2 E (mU (r1.app r2) E n e)⟩
def aaP:qA
 |.int i,.int j,q=>(Bd i/\Bd j)/\q (.fz (.int (i*j)))
 |.lst a,.int j,q=>(-(2^63)<=j/\j<2^63/\a.length*j.toNat<=sizeLine)/\∀z,z=(List.replicate j.toNat a).flatten->q (.l1 z)
 |.str a,.int j,q=>(∃c,a=⟨#[c]⟩/\1<=j/\j<=1000/\∀z:Str,z.cps.toList=List.replicate j.toNat c->q (.fz (.str z)))
 |_,_,_=>False
def aah:qA
 |.int i,.int j,q=>(j≠0/\Bd j)/\q (.fz (.int (i.fdiv j)))
 |_,_,_=>False
def abu:qA
 |.int i,.int j,q=>0<j/\q (.fz (.int (i%j)))
 |_,_,_=>False
def aag:qA
 |.int i,.int j,q=>Xa i j/\q (.fz (.int (i^j.toNat)))
 |_,_,_=>False
theorem dY:GO X (binaryOp .FloorDiv) aah:=Ml.imp λx y H Q hP=>by
 obtain⟨S,t,u,R,_,hx,hy,hg,k⟩:=hP;cases hx<;>try exact hg.elim
 cases hy<;>try exact hg.elim
 exact⟨_,_,rfl,rfl,hg.1,k H _ _ hg.2 (.refl _) (NR.fz (.int _))⟩
theorem b_:GO X (binaryOp .Mod) abu:=Ua.imp λx y H Q hP=>by
 obtain⟨S,t,u,R,_,hx,hy,hg,k⟩:=hP;cases hx<;>try exact hg.elim
 cases hy<;>try exact hg.elim
 exact⟨_,_,rfl,rfl,hg.1,k H _ _ hg.2 (.refl _) (NR.fz (.int _))⟩
theorem R7:GO X (binaryOp .Pow) aag:=TX.imp λx y H Q hP=>by
 obtain⟨S,t,u,R,_,hx,hy,hg,k⟩:=hP;cases hx<;>try exact hg.elim
 cases hy<;>try exact hg.elim
 exact⟨_,_,rfl,rfl,hg.1,k H _ _ hg.2 (.refl _) (NR.fz (.int _))⟩
def aak:T->(OT->Prop)->Prop
 |.int i,q=>q (.fz (.int (-i)))
 |_,_=>False
theorem zy(ha:QE X a ra):QE X (.UnaryOp .USub a pos) (rUn aak ra):=(W5 Vf ha).imp λσ H Q ⟨own,o,R,h,hr,k⟩=>tQ.mk h hr λH1 v x q E1 r1=>by
 revert r1 q
 generalize frz x=t;intro q r1;cases r1<;>try exact q.elim
 exact⟨_,rfl,k _ _ _ q E1 (NR.fz (.int _))⟩
def Ij:T->Option Bool
 |.non=>some true
 |.any=>none
 |.val v=>some (decide (v=.non))
 |_=>some false
def gIs(neg:Bool):qA:=λt u q=>match u,Ij t with
 |.non,some b=>q (.fz (.bl (xor neg b)))
 |_,_=>False
theorem Ce{F:Hp}{K:Frag}{x:V}{t:T}{b:Bool}(h:Rep K F x t)(e:Ij t=some b):decide (x=.non)=b:=by
 cases h<;>cases e<;>first|rfl|(apply Zp;intro z;cases z)
theorem Lq:GO X (compareOp .Is) (gIs false):=R8.imp λx y H Q hP=>by
 obtain⟨S,t,u,R,_,hx,hy,hg,k⟩:=hP;cases hy<;>try exact hg.elim
 unfold gIs at hg;cases e:Ij t with
 |none=>rw[e]at hg;exact hg.elim
 |some b=>rw[e]at hg;exact⟨rfl,k H _ _ hg (.refl _) (NR.fz (by rw[Ce hx e,Bool.false_xor];exact .bl _))⟩
theorem Il:GO X (compareOp .IsNot) (gIs true):=QC.imp λx y H Q hP=>by
 obtain⟨S,t,u,R,_,hx,hy,hg,k⟩:=hP;cases hy<;>try exact hg.elim
 unfold gIs at hg;cases e:Ij t with
 |none=>rw[e]at hg;exact hg.elim
 |some b=>rw[e]at hg;exact⟨rfl,k H _ _ hg (.refl _) (NR.fz (by rw[Ce hx e,Bool.true_xor];exact .bl _))⟩
end
structure Hid(H:Hp)(S:Addr->Prop):Prop where
 sole:∀b,S b->Oe H b
 ins:∀a C dx fs,S a->H a=some (.ins C dx fs)->S dx
 own:∀b x,S b->H b=some (.own x)->S x
theorem SR.mate{K:Frag}{own:zz}{H:Hp}{σ:L2.St}{o:List OT}(h:SR K own H σ o){j:Nat}{b:Addr}(hb:b∈own j):(∀C d f,H b=some (.ins C d f)->d∈own j)/\∀x,H b=some (.own x)->x∈own j:=by
 have nl:∀{xs:Β},H b=some (.lst xs)->(∀C d f,H b=some (.ins C d f)->d∈own j)/\∀x,H b=some (.own x)->x∈own j:=λq=>⟨(λ_ _ _ e=>by rw[q]at e;cases e),(λ_ e=>by rw[q]at e;cases e)⟩;by_cases hj:j<o.length
 .have s:=h.sl j _ (aj hj);cases y:o[j]with
  |und=>rw[y]at s;rw[show own j=[]from s]at hb;cases hb
  |fz t=>rw[y]at s;rw[s.1]at hb;cases hb
  |l1 ts=>rw[y]at s;obtain⟨c,xs,_,w,q,_⟩:=s;rw[w]at hb;cases YR.mp hb;exact nl q
  |l2 dy =>
   rw[y]at s;obtain⟨c,bs,_,w1,_,q1,l,r⟩:=s;rw[w1]at hb;rcases YU.mp hb with z|z
   .exact nl (z ▸ q1)
   .obtain⟨i,hi⟩:=aP z;obtain⟨xs,q2,_⟩:=r i b _ hi (aj (l ▸ (ao.mp hi).1));exact nl q2
  |d1 ks ts=>rw[y]at s;obtain⟨c,xs,_,w,q,_⟩:=s;rw[w]at hb;cases YR.mp hb;exact⟨(λ_ _ _ e=>by rw[q]at e;cases e),(λ_ e=>by rw[q]at e;cases e)⟩
  |la c ts=>rw[y]at s;obtain⟨xs,_,w,q,_⟩:=s;rw[w]at hb;cases YR.mp hb;exact nl q
  |pr ts us =>
   rw[y]at s;obtain⟨p,c,e,xs,ys,_,w,_,_,q1,q2,_⟩:=s;rw[w]at hb;rcases YU.mp hb with z|z
   .exact nl (z ▸ q1)
   .cases YR.mp z;exact nl q2
  |ob c d C' ks ts =>
   rw[y]at s;obtain⟨xs,_,w,q,q2,_⟩:=s;rw[w]at hb ⊢;rcases YU.mp hb with z|z
   .refine⟨λ_ _ _ e=>?_,λ_ e=>?_⟩
    .rw[z,q]at e;cases e;simp
    .rw[z,q]at e;cases e
   .cases YR.mp z;refine⟨λ_ _ _ e=>?_,λ_ e=>?_⟩
    .rw[q2]at e;cases e
    .rw[q2]at e;cases e;simp
 .obtain⟨xs,q⟩:=h.out j (Nat.not_lt.mp hj) b hb;exact nl q
theorem SR.hid{K:Frag}{own:zz}{H:Hp}{σ:L2.St}{o:List OT}(h:SR K own H σ o):Hid H (Ow own) :=
 ⟨λb z=>h.sole z,λa C dx fs ⟨j,z⟩ e=>⟨j,(h.mate z).1 C dx fs e⟩,λb x ⟨j,z⟩ e=>⟨j,(h.mate z).2 x e⟩⟩
def mrg(S:Addr->Prop)(H G:Hp):Hp:=λb=>open Classical in if S b then H b else G b
theorem jA{S:Addr->Prop}{H G:Hp}{b:Addr}(h:S b):mrg S H G b=H b:=by unfold mrg;rw[ZY h]
theorem cY{S:Addr->Prop}{H G:Hp}{b:Addr}(h:¬S b):mrg S H G b=G b:=by unfold mrg;rw[ZZ h]
def spH(sp:Sp):Sp:=λvs H Q _=>∃S:Addr->Prop,Hid H S/\sp vs (hd S H) (λv G=>(∀b,S b->G b=none)->Q v (mrg S H G)) λ_ _ _=>False
section
variable{P:Program}{w:World}{K:Frag}{mg:Str->Ψ}{base:Heap}
theorem cH.hid{k:Nat}{f:Addr}{fd:FuncData}{ps:Θ}{sp:Sp}(F:cH P w K mg base CX0 k f fd ps sp):cH P w K mg base CX0 k f fd ps (spH sp):=by
 refine⟨λvs H Q E h=>?_,λA outer s H args us vs Q E hr e0 hb r h=>?_⟩
 .obtain⟨S,_,z⟩:=h;exact F.len vs _ _ _ z
 obtain⟨S,hS,z⟩:=h;have non:∀{b:Addr},H b=none->hd S H b=none:=λ{b}e=>by
  by_cases z:S b
  .exact jK z
  .rw[bO z];exact e
 have bp:∀{b:Addr}{u:HO},S b->H b=some u->(∀xs,u≠.tup xs)/\(∀o v,u≠.frz o v)/\∀ps,u≠.tbl ps:=λ{b u}z e=>by
  obtain⟨o,q,w⟩:=hS.sole b z;rw[e]at q;cases q;rcases w with⟨_,rfl⟩|⟨_,rfl⟩|⟨_,_,_,rfl⟩|⟨_,rfl⟩<;>exact⟨λ_ z=>(nomatch z),λ_ _ z=>(nomatch z),λ_ z=>(nomatch z)⟩
 have e1:Aa P w K mg base A outer s (hd S H):=⟨e0.frames,e0.mod,λb o e=>⟨(e0.bs b o e).1,non (e0.bs b o e).2⟩,e0.bsz,e0.funs,λb hb=>non (e0.frf b hb),λb u e=>by
  obtain⟨nb,e'⟩:=cF e;refine(e0.hok b u e').stay (λ_ _ _ z=>z) (λd z=>?_) λd xs z=>?_
  .rw[bO λy=>nb (hS.own d b y z)];exact z
  .rw[bO λy=>(bp y z).1 xs rfl];exact z,e0.bare⟩
 refine codeAny_mono (F.run A outer s (hd S H) args us vs _ _ hr e1 hb r z) λres s' hs=>?_;cases res with
 |error e=>exact hs.elim
 |ok fl =>
  cases fl with
  |next=>exact False.elim hs
  |brk=>exact False.elim hs
  |cont=>exact False.elim hs
  |ret u =>
   obtain⟨v,G,os,bare,un,hok,rv,q⟩:=hs;have there:∀{b:Addr},S b->∃o,s.heap.get? b=some o:=λ{b}y=>by
    obtain⟨u,e,w⟩:=hS.sole b y;have x:=e0.hok b u e;rcases w with⟨xs,rfl⟩|⟨kk,rfl⟩|⟨C,d,f,rfl⟩|⟨y,rfl⟩
    .obtain⟨_,_,_,_,e2⟩:=x;exact⟨_,e2⟩
    .obtain⟨_,_,_,_,_,_,_,e2,_⟩:=x;exact⟨_,e2⟩
    .obtain⟨_,_,_,e2,_⟩:=x;exact⟨_,e2⟩
    .exact x
   have keep:∀{b:Addr}{o:Obj},S b->s.heap.get? b=some o->s'.heap.get? b=some o:=λ{b o}y e=>un.keep b o e (jK y) (λz=>(hS.sole b y).ne (e0.frf b z)) (by simp);have ah:∀b,S b->G b=none:=λb y=>by
    obtain⟨o,ho⟩:=there y;exact un.free b o ho (jK y) (by simp)
   have kF:∀{b:Addr}{u:HO},G b=some u->¬S b:=λe z=>by rw[ah _ z]at e;cases e
   have cy:∀{b:Addr}{u:HO},G b=some u->mrg S H G b=some u:=λe=>(cY (kF e)).trans e;refine⟨v,mrg S H G,os,bare,⟨λb o e n=>un.keep b o e (non n),λb o e n=>un.slot b o e (non n),λb o e n z=>?_,un.there,λb xs e=>?_,λb o u e=>?_,λb ps e=>?_⟩,λb u e=>?_,rv,q ah⟩
   .rw[cY λy=>(hS.sole b y).ne n];exact un.free b o e (non n) z
   .have n:¬S b:=λy=>(bp y e).1 xs rfl;exact cy (un.tups b xs ((bO n).trans e))
   .have n:¬S b:=λy=>(bp y e).2.1 o u rfl;exact cy (un.frzs b o u ((bO n).trans e))
   .have n:¬S b:=λy=>(bp y e).2.2 ps rfl;obtain⟨more,this⟩:=un.tbls b ps ((bO n).trans e);exact⟨more,cy this⟩
   .by_cases z:S b
    .rw[jA z]at e;have x:=e0.hok b u e;obtain⟨u',e',w⟩:=hS.sole b z;rw[e]at e';cases e';rcases w with⟨xs,rfl⟩|⟨kk,rfl⟩|⟨C,d,f,rfl⟩|⟨y,rfl⟩
     .obtain⟨z1,its,n,r,e2⟩:=x;exact⟨z1,its,n,r,keep z e2⟩
     .obtain⟨z1,y,vs,r,ob,es,ep,e2,c⟩:=x;exact⟨z1,y,vs,r,ob,es,ep,keep z e2,c⟩
     .obtain⟨d1,z1,ne,e2,mA,⟨od,es,ep,e3,c⟩,r⟩:=x;have sd:=hS.ins b C d f z e;exact⟨(jA sd).trans d1,z1,ne,keep z e2,mA,⟨od,es,ep,keep sd e3,c⟩,r⟩
     .obtain⟨ob,e2⟩:=x;exact⟨ob,keep z e2⟩
    .rw[cY z]at e;exact(hok b u e).stay (λ_ _ _ z=>z) (λd z=>cy z) λd xs z=>cy z
abbrev ST:=List T->(OT->Prop)->Prop
def spT(K:Frag)(S:ST):Sp:=λvs H Q _=>∃ts R,bD K H vs ts/\S ts R/\∀H' v x,R x->Same H H'->NR K (λ_=>False) H H' v x->Q v H'
abbrev OkT(P:Program)(w:World)(K:Frag)(mg:Str->Ψ)(base:Heap)(k:Nat)(x:Str)(ps:Θ)(S:ST):Prop:=OkF P w K mg base k x ps (spT K S)
end
section
variable{X:Cx}
def Ov:RA:=λ_ q=>q []
def Mz(a:RE)(r:RA):RA:=λo q=>a o λx=>r o λts=>q (frz x::ts)
theorem bf:QA X [] Ov:=mR.imp λσ H Q hP=>by obtain⟨own,o,R,h,hr,k⟩:=hP;exact k H [] [] hr rfl (.refl _) .nil
theorem tQA.mk{K:Frag}{own:zz}{H:Hp}{σ:L2.St}{o:List OT}{r:RA}{R:List T->Prop}{Q:Β->Hp->Prop}(h:SR K own H σ o)(hr:r o R){n:Nat}(k:∀H' vs ts,R ts->ts.length=n->Same H H'->bD K (hd (Ow own) H') vs ts->Q vs H'):tQA K n r σ H Q:=⟨own,o,R,h,hr,k⟩
theorem aY{e:Expr}{es:List Expr}{a:RE}{r:RA}(ha:QE X e a)(hr:QA X es r)(hs:qf X e es:=by rfl):QA X (e::es) (Mz a r):=(fL ha hr hs).imp λσ H Q ⟨own,o,R,h,hr,k⟩ =>
 tQ.mk h hr λH1 v x q E1 r1=>tQA.mk (h.same E1) q λH2 vs ts q2 ln E2 r2=>k H2 (v::vs) (frz x::ts) q2 (ZH (· + 1) ln) (E1.trans E2) (.cons (r1.same (bF E2)) r2)
def K_(S:ST)(r:RA):RE:=λo q=>r o λts=>S ts q
theorem bB{p pos:Pos}{e:Expr}{es:List Expr}{r:RA}{x:Str}{k:Nat}{ps:Θ}{S:ST}(G:OkT X.prog X.w X.K X.mg X.base k x ps S)(ha:QA X (e::es) r)(hr:cA k X.A:=by exact cA.mono (by assumption) (by decide))(hg:Gl X x:=by rfl)(aI:qq x:=by decide)
 (he:qf X e es:=by rfl)(aE:qo X pos es:=by rfl):QE X (.Call (.Name x p) (e::es) [] pos) (K_ S r):=by
 obtain⟨f,fd,F,b,hm,kp⟩:=G;refine(M5 (sp:=spH (spT X.K S)) ⟨f,fd,F.hid,b,hm,kp⟩ hr hg ha aI he aE).imp λσ H Q ⟨own,o,R,h,hr,k⟩=>tQA.mk h hr λH1 vs ts q _ E1 r1=>?_;have h1:=h.same E1;refine⟨Ow own,h1.hid,ts,R,r1,q,λG v x rx E n ah=>?_⟩;have EH:Same H1 (mrg (Ow own) H1 G):=λb u e=>by
  by_cases z:Ow own b
  .rw[jA z];exact e
  .rw[cY z];exact E b u ((bO z).trans e)
 have EG:Same G (mrg (Ow own) H1 G):=λb u e=>by rw[cY λz=>by rw[ah b z]at e;cases e];exact e
 refine k _ v x rx (E1.trans EH) (NR.back (H:=H1) ?_ E1);obtain⟨B,nb,s⟩:=n;have out:∀a∈B,¬Ow own a:=λa ha z=>(s.sole ha).ne (ah a z);refine⟨B,λa ha=>by have:=nb a ha;rwa[bO (out a ha)]at this,s.same (f9 (λb z=>?_) EG) EG⟩;rcases z with z|z
 .exact .inr (ah b z)
 .exact .inl (.inr z)
end
def rB(a:RE):RT:=λo q=>a o λx=>match frz x with|.bl b=>q b|_=>False
def tru:T->(Bool->Prop)->Prop
 |.bl b,q=>q b
 |.int i,q=>q (i != 0)
 |.non,q=>q false
 |.lst ts,q=>q (!ts.isEmpty)
 |.tup ts,q=>q (!ts.isEmpty)
 |_,_=>False
def aaJ(a:RE):RT:=λo q=>a o λx=>tru (frz x) q
def aap(a b:RT):RT:=λo q=>a o λc=>sw c (b o q) (q false)
def rOr(a b:RT):RT:=λo q=>a o λc=>sw c (q true) (b o q)
def aaN(a:RT):RT:=λo q=>a o λc=>q (!c)
def Wq(a b:RE):RE:=λo q=>a o λx=>match frz x with|.bl c=>sw c (b o q) (q (.fz (.bl false)))|_=>False
def V3(a:RE):RE:=λo q=>a o λx=>match frz x with|.bl c=>q (.fz (.bl (!c)))|_=>False
theorem tQT.mk{K:Frag}{own:zz}{H:Hp}{σ:L2.St}{o:List OT}{r:RT}{R:Bool->Prop}{Q:Bool->Hp->Prop}(h:SR K own H σ o)(hr:r o R)(k:∀H' b,R b->Same H H'->Q b H'):tQT K r σ H Q:=⟨own,o,R,h,hr,k⟩
theorem Rep.isEmpty{K:Frag}{F:Hp}{xs:Β}{ts:List T}(h:bD K F xs ts):xs.isEmpty=ts.isEmpty:=by cases h<;>rfl
theorem yP{c:Bool}{p q p' q':Prop}(h:sw c p q)(i:p->p')(j:q->q'):if c=true then p' else q':=by
 cases c
 .exact aao (j h)
 .exact Z2 (i h)
section
variable{X:Cx}{a b c:Expr}{ra rb rc:RE}{qa qb qc:RT}{pos:Pos}{rest:List Expr}
theorem cj{op:CmpOp}{g:qA}(ho:GO X (compareOp op) g)(ha:QE X a ra)(hb:QE X b rb)(hm:behindInMarks op b=false:=by exact Ly _):QT X (.Compare a [op] [b] pos) (rB (rOp g ra rb)) :=
 (QD ho ha hb hm).imp λσ H Q ⟨own,o,R,h,hr,k⟩=>q2 (ra:=ra) (rb:=rb) (tQ.mk h hr λH1 v x q E1 r1=>by
  revert r1 q
  generalize frz x=t;intro q r1;cases r1<;>try exact q.elim
  exact⟨_,rfl,k _ _ q E1⟩)
theorem cD(ha:QE X a ra)(he:∀bE,isTrue a X.env bE=(do let v <- bE;standAt a.pos;holding [v] (truthy v)):=by exact λ_=>rfl):QT X a (aaJ ra):=(K7 ha he).imp λσ H Q ⟨own,o,R,h,hr,k⟩=>tQ.mk h hr λH1 v x q E1 r1=>by
 revert r1 q
 generalize frz x=t;intro q r1;cases t<;>try exact q.elim
 .cases r1;exact⟨false,rfl,k _ _ q E1⟩
 .cases r1;exact⟨_,rfl,k _ _ q E1⟩
 .cases r1;exact⟨_,rfl,k _ _ q E1⟩
 .obtain⟨p,xs,rfl,e,r⟩:=r1.tupI;exact⟨_,.inr (.inl ⟨xs,cu.tup e,rfl⟩),by rw[Rep.isEmpty r];exact k _ _ q E1⟩
 .obtain⟨p,xs,rfl,e,r⟩:=r1.lstI;exact⟨_,.inl ⟨xs,.of (cF e).2,rfl⟩,by rw[Rep.isEmpty r];exact k _ _ q E1⟩
theorem cM(ha:QT X a qa):QT X (.UnaryOp .Not a pos) (aaN qa):=(TQ ha).imp λσ H Q hP=>by obtain⟨own,o,R,h,hr,k⟩:=hP;exact tQT.mk h hr λH1 b q E1=>k H1 _ q E1
theorem uz(ha:QT X a qa):QW X (.BoolOp .And [a] pos) qa:=pw_and1 ha
theorem gw(ha:QT X a qa):QW X (.BoolOp .Or [a] pos) qa:=pw_or1 ha
theorem vO(ha:QT X a qa)(hb:QW X (.BoolOp .And (b::rest) pos) qb):QW X (.BoolOp .And (a::b::rest) pos) (aap qa qb):=(pw_and ha hb).imp λσ H Q hP=>by obtain⟨own,o,R,h,hr,k⟩:=hP;exact tQT.mk h hr λH1 c q E1=>yP q (λq=>tQT.mk (h.same E1) q λH2 d q E2=>k H2 d q (E1.trans E2)) λq=>k H1 _ q E1
theorem gJ(ha:QT X a qa)(hb:QW X (.BoolOp .Or (b::rest) pos) qb):QW X (.BoolOp .Or (a::b::rest) pos) (rOr qa qb):=(pw_or ha hb).imp λσ H Q hP=>by obtain⟨own,o,R,h,hr,k⟩:=hP;exact tQT.mk h hr λH1 c q E1=>yP q (λq=>k H1 _ q E1) λq=>tQT.mk (h.same E1) q λH2 d q E2=>k H2 d q (E1.trans E2)
theorem QW.qt(h:QW X a qa):QT X a qa:=PW.pt h
theorem uI{op}(h:QE X a ra):QE X (.BoolOp op [a] pos) ra:=S5 h
theorem vm(ha:QE X a ra)(hb:QE X (.BoolOp .And (b::rest) pos) rb):QE X (.BoolOp .And (a::b::rest) pos) (Wq ra rb):=(U6 ha hb).imp λσ H Q ⟨own,o,R,h,hr,k⟩=>tQ.mk h hr λH1 v x q E1 r1=>by
 revert r1 q
 generalize frz x=t;intro q r1;cases r1<;>try exact q.elim
 exact⟨_,rfl,yP q (λq=>⟨own,o,R,h.same E1,q,λH2 v x q E2 n=>k H2 v x q (E1.trans E2) (n.back E1)⟩) λq=>k H1 _ _ q E1 (NR.fz (.bl _))⟩
theorem Vl(ha:QE X a ra):QE X (.UnaryOp .Not a pos) (V3 ra):=(Tw ha).imp λσ H Q ⟨own,o,R,h,hr,k⟩=>tQ.mk h hr λH1 v x q E1 r1=>by
 revert r1 q
 generalize frz x=t;intro q r1;cases r1<;>try exact q.elim
 exact⟨_,rfl,k H1 _ _ q E1 (NR.fz (.bl _))⟩
def rCh(g g':qA)(a b c:RE):RE:=λo q=>a o λx=>b o λy=>g (frz x) (frz y) λz=>match frz z with|.bl k=>sw k (c o λw=>g' (frz y) (frz w) q) (q (.fz (.bl false)))|_=>False
theorem q3{op ce:CmpOp}{g g':qA}(ho:GO X (compareOp op) g)(bX:GO X (compareOp ce) g'){σ:L2.St}{H:Hp}{Q:VK}(h:tQ X.K (rCh g g' ra rb rc) σ H Q):FP (λx y H Q=>∃S t u R,(∀b,S b->H b≠none)/\Rep X.K (hd S H) x t/\Rep X.K (hd S H) y u/\g t u R/\∀H' v z,R z->Same H H'->NR X.K S H H' v z->Q v H') (λx y H Q=>∃S t u R,(∀b,S b->H b≠none)/\Rep X.K (hd S H) x t/\Rep X.K (hd S H) y u/\g' t u R/\∀H' v z,R z->Same H H'->NR X.K S H H' v z->Q v H') (tQ X.K ra) (tQ X.K rb) (tQ X.K rc) σ H Q:=by
 obtain⟨own,o,R,h,hr,k⟩:=h;refine tQ.mk h hr λH1 v x q E1 r1=>tQ.mk (h.same E1) q λH2 w y q2 E2 r2=>?_;have h2:=h.same (E1.trans E2);refine⟨Ow own,_,_,_,λb z=>(h2.sole z).ne,r1.same (bF E2),r2,q2,λH3 u z rz E3 n=>?_⟩;have kz:=n.rep λb z=>(h2.sole z).ne
 revert kz rz
 generalize frz z=t;intro rz kz;cases kz<;>try exact rz.elim
 have h3:=h2.same E3;refine⟨_,rfl,yP rz (λq=>tQ.mk h3 q λH4 w' z q4 E4 r4=>⟨Ow own,_,_,R,λb z=>((h3.same E4).sole z).ne,r2.same (bF (E3.trans E4)),r4,q4,λH' u z rz E5 n=>k H' u z rz (E1.trans (E2.trans (E3.trans (E4.trans E5)))) (n.back (E1.trans (E2.trans (E3.trans E4))))⟩) λq=>k H3 _ _ q (E1.trans (E2.trans E3)) (NR.fz (.bl _))⟩
theorem wu{op ce:CmpOp}{g g':qA}(ho:GO X (compareOp op) g)(bX:GO X (compareOp ce) g')(ha:QE X a ra)(hb:QE X b rb)(hc:QE X c rc)(hm:lastMarks [op,ce] [b,c]=false:=by with_unfolding_all rfl):QE X (.Compare a [op,ce] [b,c] pos) (rCh g g' ra rb rc):=(J_ ho bX ha hb hc hm).imp λ_ _ _=>q3 ho bX
theorem DN{op ce:CmpOp}{g g':qA}(ho:GO X (compareOp op) g)(bX:GO X (compareOp ce) g')(ha:QE X a ra)(hb:QE X b rb)(hc:QE X c rc)(hm:lastMarks [op,ce] [b,c]=false:=by with_unfolding_all rfl):QT X (.Compare a [op,ce] [b,c] pos) (rB (rCh g g' ra rb rc)) :=
 (Kh ho bX ha hb hc hm).imp λσ H Q ⟨own,o,R,h,hr,k⟩=>q3 (ra:=ra) (rb:=rb) (rc:=rc) ho bX (tQ.mk h hr λH1 v x q E1 r1=>by
  revert r1 q
  generalize frz x=t;intro q r1;cases r1<;>try exact q.elim
  exact⟨_,rfl,k _ _ q E1⟩)
end
def nth{α:Type} : List α->Nat->Option α
 |[],_=>none
 |x::_,0=>some x
 |_::l,n+1=>nth l n
theorem rH{α:Type} : ∀(l:List α)(n:Nat),nth l n=l[n]?
 |[],_=>rfl
 |_::_,0=>rfl
 |_::l,n+1=>by simpa[nth]using rH l n
def ixT{α:Type}(ts:List α):Int->Option α
 |.ofNat n=>nth ts n
 |.negSucc n=>nth ts.reverse n
theorem MP{α:Type}(ts:List α)(i:Int):ixT ts i=atI ts i:=by
 unfold ixT atI ixN;cases i with
 |ofNat n =>
  show nth ts n=_;rw[rH,ZY (show 0<=Int.ofNat n from XT n)];by_cases h:n<ts.length
  .rw[ZY (by show(n:Int)<_;lia)];rfl
  .rw[ZZ (by show ¬(n:Int)<_;lia),UZ (Nat.not_lt.mp h)];rfl
 |negSucc n =>
  show nth ts.reverse n=_;rw[rH,ZZ (by lia)];by_cases h:n<ts.length
  .rw[ZY (by lia),List.getElem?_reverse h];show _=ts[_]?;rw[show(Int.negSucc n+(ts.length:Int)).toNat=ts.length-1-n by lia]
  .rw[ZZ (by lia),UZ (by rw[List.length_reverse];exact WH h)];rfl
theorem bD.ix{K:Frag}{F:Hp}{xs:Β}{ts:List T}{i:Int}{t:T}(h:bD K F xs ts)(e:ixT ts i=some t):∃x,atI xs i=some x/\Rep K F x t:=by
 rw[MP]at e;unfold atI at e ⊢;rw[h.len];cases j:ixN ts.length i with
 |none=>rw[j]at e;cases e
 |some n=>rw[j]at e;exact h.at_ e
def oT{α:Type}(x:Option α)(q:α->Prop):Prop:=match x with|some t=>q t|none=>False
theorem wL{α:Type}{x:Option α}{q:α->Prop}(h:oT x q):∃t,x=some t/\q t:=by
 cases x with
 |none=>exact h.elim
 |some t=>exact⟨t,rfl,h⟩
def gIx:qA
 |.tup ts,.int i,q=>oT (ixT ts i) λt=>q (.fz t)
 |.lst ts,.int i,q=>∃t,ixT ts i=some t/\q (.fz t)
 |.scr ts,.int i,q=>∃t,ixT ts i=some t/\q (.fz t)
 |.str s,.int i,q=>s.length<=sizeLine/\∃c,ixT s.cps.toList i=some c/\q (.fz (.str ⟨#[c]⟩))
 |_,_,_=>False
section
variable{X:Cx}{a b c e:Expr}{ra rb rc re:RE}{qa qb qc:RT}{pos p2:Pos}{lo hi:Option Expr}
theorem gix:IxR X (λx y H Q=>∃S t u R,(∀b,S b->H b≠none)/\Rep X.K (hd S H) x t/\Rep X.K (hd S H) y u/\gIx t u R/\∀H' v z,R z->Same H H'->NR X.K S H H' v z->Q v H'):=by
 refine(HY.or (U7.or Vo)).imp λx y H Q h=>?_;obtain⟨S,t,u,R,_,hx,hy,hg,k⟩:=h;cases u with
 |int i=>?_
 |_=>cases t<;>exact hg.elim
 cases hy;cases t with
 |any=>exact hg.elim
 |non=>exact hg.elim
 |bl _=>exact hg.elim
 |int _=>exact hg.elim
 |val _=>exact hg.elim
 |dct _ _=>exact hg.elim
 |ins _ _ _=>exact hg.elim
 |exc _ _ _=>exact hg.elim
 |str s=>?_
 |tup ts=>?_
 |lst ts=>?_
 |scr ts=>?_
 .cases hx;obtain⟨z,c,e,q⟩:=hg;rw[MP]at e;exact .inr (.inr ⟨_,_,c,rfl,rfl,z,e,k H _ _ q (.refl _) (NR.fz (.str _))⟩)
 .obtain⟨p,xs,rfl,e,r⟩:=hx.tupI;obtain⟨t,j,q⟩:=wL hg;obtain⟨v,e',r'⟩:=r.ix j;exact .inr (.inl ⟨p,xs,i,v,rfl,rfl,cu.tup e,e',k H _ _ q (.refl _) (NR.fz r')⟩)
 .obtain⟨p,xs,rfl,e,r⟩:=hx.lstI;obtain⟨t,j,q⟩:=hg;obtain⟨v,e',r'⟩:=r.ix j;exact .inl ⟨p,xs,_,v,rfl,rfl,.of (cF e).2,e',k H _ _ q (.refl _) (NR.fz r')⟩
 .obtain⟨p,xs,rfl,e,r⟩:=hx.scrI;obtain⟨t,j,q⟩:=hg;obtain⟨v,e',r'⟩:=r.ix j;exact .inl ⟨p,xs,_,v,rfl,rfl,cu.seq e,e',k H _ _ q (.refl _) (NR.fz r')⟩
theorem bH(ha:QE X a ra)(hb:QE X b rb)(hs:um b:=by exact λ_ _=>rfl):QE X (.Subscript a b pos) (rOp gIx ra rb):=(R5 gix ha hb hs).imp λ_ _ _=>q2
abbrev RO:=List OT->(Option Int->Prop)->Prop
def tQO(K:Frag)(r:RO):TO:=λσ H Q=>∃own o R,SR K own H σ o/\r o R/\∀H' b,R b->Same H H'->Q b H'
def QO(X:Cx)(e:Option Expr)(r:RO):Prop:=PO X e (tQO X.K r)
def abr:RO:=λ_ q=>q none
def YJ(a:RE):RO:=λo q=>a o λx=>match frz x with|.int i=>q (some i)|_=>False
theorem PO.imp{X:Cx}{e:Option Expr}{t t':TO}(h:PO X e t)(i:∀σ H Q,t' σ H Q->t σ H Q):PO X e t':=λaa s σ H Q I q=>h aa s σ H Q I (i σ H Q q)
theorem dI:QO X none abr:=Ro.imp λσ H Q hP=>by obtain⟨own,o,R,h,hr,k⟩:=hP;exact k H _ hr (.refl _)
theorem cN(h:QE X e re):QO X (some e) (YJ re):=(Qa h).imp λσ H Q ⟨own,o,R,h,hr,k⟩=>tQ.mk h hr λH1 v x q E1 r1=>by
 revert r1 q
 generalize frz x=t;intro q r1;cases r1<;>try exact q.elim
 exact⟨_,rfl,k _ _ q E1⟩
def eU{α:Type}(xs:List α)(lo hi:Option Int):List α:=(xs.drop (HT.sIx xs.length 0 lo)).take (HT.sIx xs.length xs.length hi-HT.sIx xs.length 0 lo)
theorem bD.cut{K:Frag}{F:Hp}{xs:Β}{ts:List T}(h:bD K F xs ts)(lo hi:Option Int):bD K F (JQ xs lo hi) (eU ts lo hi):=by
 unfold JQ eU;rw[h.len];exact(h.drop _).take _
def gSl:T->Option Int->Option Int->(OT->Prop)->Prop
 |.lst ts,lo,hi,q=>q (.l1 (eU ts lo hi))
 |.scr ts,lo,hi,q=>q (.l1 (eU ts lo hi))
 |.str s,lo,hi,q=>s.length<=sizeLine/\q (.fz (.str (fQ s lo hi)))
 |_,_,_,_=>False
def rSl(a:RE)(lo hi:RO):RE:=λo q=>a o λx=>lo o λl=>hi o λu=>gSl (frz x) l u q
theorem cG{rl rh:RO}(he:QE X e re)(hl:QO X lo rl)(hu:QO X hi rh):QE X (.Subscript e (.Slice lo hi none p2) pos) (rSl re rl rh):=(Mf (Qn.or VD) he hl hu).imp λσ H Q ⟨own,o,R,h,hr,k⟩ =>
 tQ.mk h hr λH1 v x q E1 r1=>⟨own,o,_,h.same E1,q,λH2 l q E2=>⟨own,o,_,(h.same E1).same E2,q,λH3 u q E3=>by
  have E:=E1.trans (E2.trans E3);have r1:=r1.same (bF (E2.trans E3))
  revert r1 q
  generalize frz x=t;intro q r1;cases t<;>try exact q.elim
  .cases r1;exact .inr ⟨_,rfl,q.1,k _ _ _ q.2 E (NR.fz (.str _))⟩
  .obtain⟨p,xs,rfl,e,r⟩:=r1.lstI;exact .inl ⟨p,xs,rfl,.of (cF e).2,λa ha=>k _ _ _ q (E.trans (Same.upd ha)) ((mU (r.cut l u) (Same.upd ha) ha bK).back E)⟩
  .obtain⟨p,xs,rfl,e,r⟩:=r1.scrI;exact .inl ⟨p,xs,rfl,cu.seq e,λa ha=>k _ _ _ q (E.trans (Same.upd ha)) ((mU (r.cut l u) (Same.upd ha) ha bK).back E)⟩⟩⟩
end
section
variable{X:Cx}{e:Expr}{es:List Expr}{r:RA}{pos:Pos}
def R9(r:RA):RE:=λo q=>r o λts=>q (.fz (.tup ts))
def Zv(r:RA):RE:=λo q=>r o λts=>q (.l1 ts)
theorem cJ{k:Nat}(h:QA X es r)(hz:es.length<=sizeLine:=by decide):QE X (.Tuple es k pos) (R9 r):=(Mg h).imp λσ H Q ⟨own,o,R,h,hr,k⟩=>tQA.mk h hr λH1 vs ts q ln E1 r1 =>
 ⟨by rw[r1.len,ln];exact hz,λp hp=>k _ _ _ q (E1.trans (Same.upd hp)) (NR.fz (.tup (.of (by rw[bO λz=>(h.sole z).ne (E1.free hp)];exact bK)) (r1.same (bF (Same.upd hp)))))⟩
theorem cZ(h:QA X es r)(hz:es.length<=sizeLine:=by decide):QE X (.List es pos) (Zv r):=(SN h).imp λσ H Q ⟨own,o,R,h,hr,k⟩=>tQA.mk h hr λH1 vs ts q ln E1 r1 =>
 ⟨by rw[r1.len,ln];exact hz,λp hp=>k _ _ _ q (E1.trans (Same.upd hp)) ((mU r1 (Same.upd hp) hp bK).back E1)⟩
def GC(X:Cx)(f:Value)(g:ST):Prop:=d7 X f λxs H Q=>∃S ts R,(∀b,S b->H b≠none)/\bD X.K (hd S H) xs ts/\g ts R/\∀H' v z,R z->Same H H'->NR X.K S H H' v z->Q v H'
variable{x:Str}{p:Pos}{id Ty:String}{g:ST}
theorem bT(hc:GC X (.builtin id) g)(hm:X.mg x=none)(hv:bootBuiltins x=some (.builtin id))(ha:QA X (e::es) r)(hg:Gl X x:=by rfl)(hn:x≠"__name__":=by decide)(aI:qq x:=by decide)
 (he:qf X e es:=by rfl)(aE:qo X pos es:=by rfl):QE X (.Call (.Name x p) (e::es) [] pos) (K_ g r) :=
 (pJ hc hg hm hv ha hn aI he aE).imp λσ H Q hP=>by obtain⟨own,o,R,h,hr,k⟩:=hP;exact tQA.mk h hr λH1 vs ts q _ E1 r1=>⟨Ow own,ts,R,λb z=>((h.same E1).sole z).ne,r1,q,λH' v z rz E n=>k H' v z rz (E1.trans E) (n.back E1)⟩
theorem nR(hc:GC X (.type Ty) g)(hm:X.mg x=none)(hv:bootBuiltins x=some (.type Ty))(ha:QA X (e::es) r)(hg:Gl X x:=by rfl)(hn:x≠"__name__":=by decide)(aI:qq x:=by decide)
 (he:qf X e es:=by rfl)(aE:qo X pos es:=by rfl):QE X (.Call (.Name x p) (e::es) [] pos) (K_ g r) :=
 (Jv hc hg hm hv ha hn aI he aE).imp λσ H Q hP=>by obtain⟨own,o,R,h,hr,k⟩:=hP;exact tQA.mk h hr λH1 vs ts q _ E1 r1=>⟨Ow own,ts,R,λb z=>((h.same E1).sole z).ne,r1,q,λH' v z rz E n=>k H' v z rz (E1.trans E) (n.back E1)⟩
theorem bD.one{K:Frag}{F:Hp}{xs:Β}{t:T}(h:bD K F xs [t]):∃x,xs=[x]/\Rep K F x t:=by
 cases h with
 |cons a b=>cases b;exact⟨_,rfl,a⟩
theorem bD.two{K:Frag}{F:Hp}{xs:Β}{t u:T}(h:bD K F xs [t,u]):∃x y,xs=[x,y]/\Rep K F x t/\Rep K F y u:=by
 cases h with
 |cons a b =>
  obtain⟨y,rfl,c⟩:=b.one;exact⟨_,y,rfl,a,c⟩
def g1(g:T->(OT->Prop)->Prop):ST:=λts q=>match ts with|[t]=>g t q|_=>False
theorem GC.one{f:Value}{g:T->(OT->Prop)->Prop}{r:Β->Hp->VK->Prop}(h:d7 X f r)(i:∀S t x H Q R,Rep X.K (hd S H) x t->g t R->(∀H' v z,R z->Same H H'->NR X.K S H H' v z->Q v H')->r [x] H Q):GC X f (g1 g):=h.imp λxs H Q hP=>by
 obtain⟨S,ts,R,_,rs,hg,k⟩:=hP
 match ts,hg with
 |[t],hg =>
  obtain⟨x,rfl,rx⟩:=rs.one;exact i S t x H Q R rx hg k
def abj:T->(OT->Prop)->Prop
 |.lst ts,q=>q (.fz (.int ts.length))
 |.tup ts,q=>q (.fz (.int ts.length))
 |.scr ts,q=>q (.fz (.int ts.length))
 |_,_=>False
theorem jZ:GC X (.builtin "len") (g1 abj):=.one zW λS t x H Q R rx hg k=>by
 cases t<;>try exact hg.elim
 .obtain⟨p,xs,rfl,e,r⟩:=rx.tupI;exact⟨p,xs,rfl,.inr (cu.tup e),k H _ _ hg (.refl _) (NR.fz (by rw[r.len];exact .int _))⟩
 .obtain⟨p,xs,rfl,e,r⟩:=rx.lstI;exact⟨p,xs,rfl,.inl (.of (cF e).2),k H _ _ hg (.refl _) (NR.fz (by rw[r.len];exact .int _))⟩
 .obtain⟨p,xs,rfl,e,r⟩:=rx.scrI;exact⟨p,xs,rfl,.inl (cu.seq e),k H _ _ hg (.refl _) (NR.fz (by rw[r.len];exact .int _))⟩
def aaD:T->(OT->Prop)->Prop
 |.str s,q=>s.length<=sizeLine/\q (.fz (.int s.length))
 |_,_=>False
def aaz:T->(OT->Prop)->Prop
 |.dct ks _,q=>q (.fz (.int ks.length))
 |_,_=>False
theorem Jp:d7 X (.builtin "len") (λxs H Q=>∃p kvs,xs=[.ref p]/\Rd H p (.dK kvs)/\Q (.int kvs.length) H):=by
 intro aa s σ H xs us Q I r h;obtain⟨p,kvs,rfl,hp,q⟩:=h;obtain⟨u,rfl,rx⟩:=vals1 r;cases rx;have hok:kvs.length<=sizeLine/\(p==sysModules)=false/\∃vs,KV kvs vs/\s.heap.DictOf (eN X.prog X.w) p vs:=by
  rcases hp with hp|⟨o,hp⟩
  .exact I.hok p _ hp
  .exact(I.hok p _ hp).2
 obtain⟨hz,hS,vs,rr,m⟩:=hok;have hl:=mO;have aT:kvs.length=vs.length:=rr.length;exact call_len_dict hS m (by lia) ⟨.int kvs.length,H,I.tok _,⟨_,by rw[aT]⟩,q⟩
theorem Pk:GC X (.builtin "len") (g1 aaz):=.one Jp λS t x H Q R rx hg k=>by
 cases t<;>try exact hg.elim
 obtain⟨p,xs,rfl,e,l,r⟩:=rx.dctI;exact⟨p,_,rfl,cu.rd e,k H _ _ hg (.refl _) (NR.fz (by rw[UY,l,VT];exact .int _))⟩
def ZW:T->(OT->Prop)->Prop
 |.int i,q=>q (.fz (.int i.natAbs))
 |_,_=>False
theorem vH:GC X (.builtin "abs") (g1 ZW):=.one KD λS t x H Q R rx hg k=>by
 cases t<;>try exact hg.elim
 cases rx;exact⟨_,rfl,k H _ _ hg (.refl _) (NR.fz (by rw[Um];exact .int _))⟩
theorem bD.ints{K:Frag}{F:Hp} : ∀{xs:Β}{ns:List Int},bD K F xs (ns.map T.int)->xs=ns.map V.int
 |_,[],.nil=>rfl
 |_,n::ns,.cons a b=>by cases a;rw[bD.ints b];rfl
theorem bD.bls{K:Frag}{F:Hp} : ∀{xs:Β}{ns:List Bool},bD K F xs (ns.map T.bl)->xs=ns.map V.bl
 |_,[],.nil=>rfl
 |_,n::ns,.cons a b=>by cases a;rw[bD.bls b];rfl
theorem rJ{K:Frag}{F:Hp} : ∀(ns:List Int),bD K F (ns.map V.int) (ns.map T.int)
 |[]=>.nil
 |_::ns=>.cons (.int _) (rJ ns)
def aan:T->(OT->Prop)->Prop
 |.lst ts,q=>∃ns:List Int,ts=ns.map T.int/\q (.fz (.int ns.sum))
 |_,_=>False
theorem Ep(hc:X.calm=true):GC X (.builtin "sum") (g1 aan):=.one (IV hc) λS t x H Q R rx hg k=>by
 cases t<;>try exact hg.elim
 obtain⟨p,xs,rfl,e,r⟩:=rx.lstI;obtain⟨ns,rfl,q⟩:=hg;exact⟨p,ns,rfl,(r.ints ▸ (cF e).2),k H _ _ q (.refl _) (NR.fz (.int _))⟩
def aaU(f:List Bool->Bool):T->(OT->Prop)->Prop
 |.lst ts,q=>∃bs:List Bool,ts=bs.map T.bl/\q (.fz (.bl (f bs)))
 |_,_=>False
theorem Ge(hc:X.calm=true):GC X (.builtin "all") (g1 (aaU λbs=>bs.all λb=>b)):=.one (Js hc) λS t x H Q R rx hg k=>by
 cases t<;>try exact hg.elim
 obtain⟨p,xs,rfl,e,r⟩:=rx.lstI;obtain⟨ns,rfl,q⟩:=hg;exact⟨p,ns,rfl,(r.bls ▸ (cF e).2),k H _ _ q (.refl _) (NR.fz (.bl _))⟩
def abb:T->(OT->Prop)->Prop
 |.lst ts,q=>∃ns:List Int,ts=ns.map T.int/\ns.length<64/\∀ms:List Int,ms.Perm ns->ms.Pairwise (· <= ·)->q (.l1 (ms.map T.int))
 |_,_=>False
theorem JD:GC X (.builtin "sorted") (g1 abb):=.one JX λS t x H Q R rx hg k=>by
 cases t<;>try exact hg.elim
 obtain⟨p,xs,rfl,e,r⟩:=rx.lstI;obtain⟨ns,rfl,l,q⟩:=hg;exact⟨p,ns,rfl,(r.ints ▸ (cF e).2),l,λms a ha m1 m2=>k _ _ _ (q ms m1 m2) (Same.upd ha) (mU (rJ ms) (Same.upd ha) ha bK)⟩
def W6:T->(OT->Prop)->Prop
 |.lst ts,q=>q (.l1 ts)
 |_,_=>False
theorem Hj:GC X (.type "list") (g1 W6):=.one FW λS t x H Q R rx hg k=>by
 cases t<;>try exact hg.elim
 obtain⟨p,xs,rfl,e,r⟩:=rx.lstI;exact⟨p,xs,rfl,(cF e).2,λa ha=>k _ _ _ hg (Same.upd ha) (mU r (Same.upd ha) ha bK)⟩
def aa1:T->(OT->Prop)->Prop
 |.int i,q=>q (.fz (.int i))
 |.bl b,q=>q (.fz (.int (if b then 1 else 0)))
 |_,_=>False
theorem Tr:GC X (.type "int") (g1 aa1):=.one Iw λS t x H Q R rx hg k=>by
 cases t<;>try exact hg.elim
 .cases rx;exact .inr ⟨_,rfl,k H _ _ hg (.refl _) (NR.fz (.int _))⟩
 .cases rx;exact .inl ⟨_,rfl,k H _ _ hg (.refl _) (NR.fz (.int _))⟩
inductive Knd where
 |int|bool|str|list|tuple
def Knd.s:Knd->String
 |.int=>"int"
 |.bool=>"bool"
 |.str=>"str"
 |.list=>"list"
 |.tuple=>"tuple"
def isK:Knd->T->Option Bool
 |.int,.int _=>some true
 |.int,.bl _=>some true
 |.bool,.bl _=>some true
 |.str,.str _=>some true
 |.list,.lst _=>some true
 |.tuple,.tup _=>some true
 |_,.any=>none
 |_,.val _=>none
 |_,.scr _=>none
 |_,.ins _ _ _=>none
 |_,.exc _ _ _=>none
 |_,.dct _ _=>none
 |_,_=>some false
theorem Uk(kd:Knd):GC X (.builtin "isinstance") (λts q=>match ts with|[t,.val v]=>v=.ty kd.s/\oT (isK kd t) λb=>q (.fz (.bl b))|_=>False):=by
 intro aa s σ H xs us Q I rs h;obtain⟨S,ts,R,_,rp,hg,k⟩:=h
 match ts,hg with
 |[t,.val v],hg =>
  obtain⟨x,y,rfl,rx,ry⟩:=rp.two;cases ry;obtain⟨rfl,hg⟩:=hg;obtain⟨b,j,q⟩:=wL hg;have hk:kd.s∈["bool","int","str","list","tuple","dict"]:=by cases kd<;>decide
  cases t with
  |tup ts =>
   obtain⟨p,ys,rfl,e,r⟩:=rx.tupI;have eb:b=zY "tuple" kd.s:=by cases kd<;>cases j<;>decide
   exact Di aa s σ H _ us Q I rs ⟨p,kd.s,ys,rfl,hk,cu.tup e,k H _ _ q (.refl _) (NR.fz (eb ▸ .bl _))⟩
  |lst ts =>
   obtain⟨p,ys,rfl,e,r⟩:=rx.lstI;have eb:b=zY "list" kd.s:=by cases kd<;>cases j<;>decide
   exact mG aa s σ H _ us Q I rs ⟨_,kd.s,"list",rfl,hk,by show(match H p with|some (.lst _)=>some "list" |some (.tup _)=>some "tuple" |some (.dK _)=>some "dict" |_=>none)=_;rw[(cF e).2],k H _ _ q (.refl _) (NR.fz (eb ▸ .bl _))⟩
  |non =>
   cases rx;have eb:b=zY "NoneType" kd.s:=by cases kd<;>cases j<;>decide
   exact mG aa s σ H _ us Q I rs ⟨_,kd.s,"NoneType",rfl,hk,rfl,k H _ _ q (.refl _) (NR.fz (eb ▸ .bl _))⟩
  |bl c =>
   cases rx;have eb:b=zY "bool" kd.s:=by cases kd<;>cases j<;>decide
   exact mG aa s σ H _ us Q I rs ⟨_,kd.s,"bool",rfl,hk,rfl,k H _ _ q (.refl _) (NR.fz (eb ▸ .bl _))⟩
  |int i =>
   cases rx;have eb:b=zY "int" kd.s:=by cases kd<;>cases j<;>decide
   exact mG aa s σ H _ us Q I rs ⟨_,kd.s,"int",rfl,hk,rfl,k H _ _ q (.refl _) (NR.fz (eb ▸ .bl _))⟩
  |str c =>
   cases rx;have eb:b=zY "str" kd.s:=by cases kd<;>cases j<;>decide
   exact mG aa s σ H _ us Q I rs ⟨_,kd.s,"str",rfl,hk,rfl,k H _ _ q (.refl _) (NR.fz (eb ▸ .bl _))⟩
  |_=>cases kd<;>cases j
def abf(kd:Knd)(a:RE):RE:=λo q=>a o λx=>oT (isK kd (frz x)) λb=>q (.fz (.bl b))
theorem lq(kd:Knd){a:Expr}{ra:RE}{y:Str}{p2:Pos}(ha:QE X a ra)(hm:X.mg "isinstance"=none)(ir:X.mg y=none)(kM:bootBuiltins y=some (.type kd.s))(iL:Gl X y:=by rfl)(hg:Gl X "isinstance":=by rfl)(fq:y≠"__name__":=by decide)(i4:qq y:=by decide)
 (he:starEach (a::[.Name y p2]) X.env=(false,eval a X.env)::starEach [.Name y p2] X.env:=by rfl):QE X (.Call (.Name "isinstance" p) [a,.Name y p2] [] pos) (abf kd ra) :=
 (pJ (Uk kd) hg hm boot_isinstance (fL ha (fL (Iv (v:=.ty kd.s) iL ir kM rfl fq i4) mR) he) (by decide) (by decide) he).imp λσ H Q ⟨own,o,R,h,hr,k⟩=>tQ.mk h hr λH1 v x q E1 r1 =>
  ⟨Ow own,[frz x,.val (.ty kd.s)],R,λb z=>((h.same E1).sole z).ne,.cons r1 (.cons (.val _) .nil),⟨rfl,q⟩,λH' v z rz E n=>k H' v z rz (E1.trans E) (n.back E1)⟩
end
section
variable{M:Model}{A:Around}{E:Ξ}{s:Shared}{base:Heap}{env:Env}{outer l:List Env}{L e:Addr}{cls fv:Value}{d:Ω}{Q:Unit->Shared->Prop}
theorem yE{fr:Ω}(x:iK base l e cls d fv s.heap)(h:∀h',iK base l e cls d (fr.elim Value.none λf=>rawInt f) h'->s.heap.UpToSlots h'->Q () { s with heap:=h' }):wpAny M A (setFlight (.ref e) fr) Q E s:=by
 obtain⟨cr,cx,hl,oe,vs,T,oT,ts,he,hc,hd,h1,nT,cK,hT,b7,h3⟩:=x;have z3:3<ts.size:=(Array.getElem?_eq_some_iff.mp h3).1;have ar:∀b,b≠T->(s.heap.update T (Obj.mapFields (·.setIfInBounds 3 (fr.elim Value.none λf=>rawInt f)))).get? b=s.heap.get? b:=λb hb=>Heap.get?_update_other _ _ (Ne.symm hb);have nr:∀b o,s.heap.get? b=some o->(∀ws,o.data≠.fields ws)->b≠T:=λb o q nf z=>by
  rw[z,hT]at q;cases q;exact nf ts b7
 unfold setFlight;refine ZU (wpAny_field he hd h1 ?_);rw[ZY (show(Value.ref T != Value.none)=true from by simp)];refine wpAny_setField hT b7 z3 (h _ ⟨λb o q=>(ar b λz=>by rw[z,nT]at q;cases q).trans (cr b o q),cx,hl.of_keeps λb o q nf=>⟨o,(ar b (nr b o q nf)).trans q,rfl⟩,?_⟩ λb o q nf=>⟨o.slots,(ar b (nr b o q nf)).trans q⟩);exact⟨oe,vs,T,_,_,(ar e (Ne.symm cK)).trans he,hc,hd,h1,nT,cK,Heap.get?_update_self _ hT (Obj.isFreed_of_fields (Obj.data_mapFields b7 _)),Obj.data_mapFields b7 _,by simp[z3]⟩
theorem Bx(bS:A.frames=some (env::outer))(hf:env.frame=some L)(x:iK base (env::outer) e cls d fv s.heap)
 (h:∀h' fw,iK base (env::outer) e cls d fw h'->s.heap.UpToSlots h'->Q () { s with heap:=h' }):wpAny M A (noteFrame (.ref e) env) Q E s:=by
 have x0:=x;obtain⟨cr,cx,hl,oe,vs,T,oT,ts,he,⟨hc,lv⟩,hd,h1,nT,cK,hT,b7,h3⟩:=x;subst hc lv;unfold noteFrame;simp only[hf];refine ZU (wpAny_field he hd h1 ?_);rw[ZY (show(Value.ref T != Value.none)=true from by simp)];refine ZU (wpAny_field hT b7 h3 ?_);by_cases hz:(fv==rawInt L)=true
 .rw[ZY hz];exact ZT (h _ _ x0 (.refl _))
 rw[ZZ hz];refine ZU (wpAny_setField hT b7 (Array.getElem?_eq_some_iff.mp h3).1 ?_);have ar:∀b,b≠T->(s.heap.update T (Obj.mapFields (·.setIfInBounds 3 Value.none))).get? b=s.heap.get? b:=λb hb=>Heap.get?_update_other _ _ (Ne.symm hb);have nr:∀b o,s.heap.get? b=some o->(∀ws,o.data≠.fields ws)->b≠T:=λb o q nf z=>by
  rw[z,hT]at q;cases q;exact nf ts b7
 refine Gh (s:={ s with heap:=_ }) bS (hl.of_keeps λb o q nf=>⟨o,(ar b (nr b o q nf)).trans q,rfl⟩) hf ((ar e (Ne.symm cK)).trans he)
  (λb o q=>(ar b λz=>by rw[z,nT]at q;cases q).trans (cr b o q)) cx hd (Array.getElem?_eq_some_iff.mp h1).1 λh' y up=>h h' _ y λb o q nf=>up b o ((ar b (nr b o q nf)).trans q) nf
end
structure tU(P:Program)(w:World)(l:List Env)(H:Hp)(s:Shared)(a:Addr)(C:Value)(H':Hp)(s':Shared)(B:Heap)(d:Ω)(fv:Value):Prop where
 os:s'.os=s.os
 bare:AllBare s'.gens
 new:s.heap.get? a=none
 un:Un (frs l) [] H H' s.heap s'.heap
 hok:HOk P w H' s'.heap
 frf:∀b∈frs l,H' b=none
 fl:iK B l a C d fv s'.heap
 cov:∀b o,s'.heap.get? b=some o->b∉frs l->((∃u,s.heap.get? b=some u)\/∃u,H' b=some u)->B.get? b=some o
def cpH(g h:Heap)(c:Addr):Heap:=match g.objs[c]? with
 |some o=>h.update c λ_=>o
 |none=>h
theorem iU{g h:Heap}{c b:Addr}(n:b≠c):(cpH g h c).get? b=h.get? b:=by
 unfold cpH;split
 .exact Heap.get?_update_other _ _ (Ne.symm n)
 .rfl
theorem Df{g h:Heap}{c:Addr}(hg:c<g.objs.size)(hh:c<h.objs.size):(cpH g h c).get? c=g.get? c:=by
 unfold cpH;have e:=Array.getElem?_eq_getElem hg;rw[e];have e2:=Array.getElem?_eq_getElem hh;show(h.update c λ_=>g.objs[c]).get? c=g.get? c;have bv:∀h1 h2:Heap,h1.objs[c]?=h2.objs[c]?->h1.get? c=h2.get? c:=λh1 h2 z=>by unfold Heap.get?;rw[z]
 refine bv _ _ ?_;rw[e];cases h;simp only[Heap.update,Array.getElem?_modify,if_true];simp only at e2;rw[e2];rfl
section
variable{P:Program}{w:World}{l:List Env}{H H':Hp}{s s':Shared}{a c:Addr}{C fv fw:Value}{B:Heap}{d:Ω}{h':Heap}
theorem Fly.n(F:Fly P w l H s a C H' s' B d):tU P w l H s a C H' s' B d .none:=⟨F.os,F.bare,F.new,F.un,F.hok,F.frf,F.fl,F.cov⟩
theorem tU.f(F:tU P w l H s a C H' s' B d .none):Fly P w l H s a C H' s' B d:=⟨F.os,F.bare,F.new,F.un,F.hok,F.frf,F.fl,F.cov⟩
theorem tU.noted(F:tU P w l H s a C H' s' B d fv)(y:iK B l a C d fw h')(up:s'.heap.UpToSlots h'):tU P w l H s a C H' { s' with heap:=h' } B d fw:=by
 have k:=y.1;have trk:∀{b:Addr}{u:HO}{o:Obj},H' b=some u->s'.heap.get? b=some o->B.get? b=some o:=λ{b u o}e q=>F.cov b o q (λz=>by rw[F.frf b z]at e;cases e) (.inr ⟨u,e⟩);have nf:∀b∈frs l,∀o,s'.heap.get? b=some o->∀vs,o.data≠.fields vs:=λb hb o e=>by
  obtain⟨_,o',e',d⟩:=F.fl.2.2.1.mem hb;rw[e]at e';cases e';exact d
 refine⟨F.os,F.bare,F.new,⟨λb o q n hb hx=>k b o (F.cov b o (F.un.keep b o q n hb hx) hb (.inl ⟨o,q⟩)),λb o q n hb hx=>?_,F.un.free,λb o q hx=>?_,F.un.tups,F.un.frzs,F.un.tbls⟩,λb u e=>?_,F.frf,y,λb o e hb hc=>?_⟩
 .obtain⟨sl,e⟩:=F.un.slot b o q n hb hx;obtain⟨eJ,e'⟩:=up b _ e (nf b hb _ e);exact⟨eJ,e'⟩
 .obtain⟨o',e⟩:=F.un.there b o q hx;by_cases hb:b∈frs l
  .obtain⟨eJ,e'⟩:=up b _ e (nf b hb _ e);exact⟨_,e'⟩
  .exact⟨o',k b o' (F.cov b o' e hb (.inl ⟨o,q⟩))⟩
 .exact(F.hok b u e).stay (λc v hc q=>k c v (by
   rcases hc with z|z
   .subst z;exact trk e q
   .exact trk z q)) (λ_ q=>q) λ_ _ q=>q
 .have am:∀o',s'.heap.get? b=some o'->B.get? b=some o'->B.get? b=some o:=λo' _ y=>by
   have e2:=k b o' y;rw[show({ s' with heap:=h' } : Shared).heap.get? b=h'.get? b from rfl,e2]at e;cases e;exact y
  rcases hc with⟨u,q⟩|⟨u,q⟩
  .obtain⟨o',e'⟩:=F.un.there b u q (by simp);exact am o' e' (F.cov b o' e' hb (.inl ⟨u,q⟩))
  .obtain⟨o',e'⟩:=(F.hok b u q).there;exact am o' e' (trk q e')
theorem tU.letGo{oc:Obj}(F:tU P w l H s a C H' s' B d fv)(cn:H c=none)(cl:c∉frs l)(cs:s.heap.get? c=some oc)(sb:Heap.SameBut c s'.heap h'):tU P w l H { s with heap:=cpH h' s.heap c } a C H' { s' with heap:=h' } (cpH h' B c) d fv:=by
 obtain⟨o1,e1⟩:=F.un.there c oc cs (by simp);have eB:=F.cov c o1 e1 cl (.inl ⟨oc,cs⟩);have lh:c<h'.objs.size:=by rw[sb.1];exact aH e1
 have sS:(cpH h' s.heap c).get? c=h'.get? c:=Df lh (aH cs);have sB:(cpH h' B c).get? c=h'.get? c:=Df lh (aH eB);have c':H' c=none:=F.un.free c oc cs cn (by simp);have na:a≠c:=λz=>by have:=F.new;rw[z,cs]at this;cases this
 have nB:∀{b:Addr},B.get? b=none->b≠c:=λ{b}e z=>by rw[z,eB]at e;cases e
 obtain⟨cr,cx,hl,oe,vs,T,oT,ts,he,hc,hd,h1,nT,cK,hT,b7,h3⟩:=F.fl;have fr:∀l:List Env,s'.heap.FunFrames B l->h'.FunFrames (cpH h' B c) l:=λl=>by
  induction l with
  |nil=>exact id
  |cons env r ih =>
   rintro⟨hk,⟨L,o,hf,hn,ho,hd⟩,hr⟩;exact⟨hk,⟨L,o,hf,(iU (nB hn)).trans hn,(sb.2 L (nB hn)).trans ho,hd⟩,ih hr⟩
 refine⟨F.os,F.bare,(iU na).trans F.new,⟨λb o q n hb hx=>?_,λb o q n hb hx=>?_,λb o q n hx=>?_,λb o q hx=>?_,F.un.tups,F.un.frzs,F.un.tbls⟩,λb u e=>?_,F.frf,⟨λb o q=>?_,(iU na).trans cx,fr l hl,oe,vs,T,oT,ts,(sb.2 a na).trans he,hc,hd,h1,(iU (nB nT)).trans nT,cK,(sb.2 T (nB nT)).trans hT,b7,h3⟩,λb o e hb hc=>?_⟩
 .by_cases z:b=c
  .subst z;exact sS.symm.trans q
  .exact(sb.2 b z).trans (F.un.keep b o ((iU z).symm.trans q) n hb hx)
 .have z:b≠c:=λz=>cl (z ▸ hb);obtain⟨sl,e⟩:=F.un.slot b o ((iU z).symm.trans q) n hb hx;exact⟨sl,(sb.2 b z).trans e⟩
 .by_cases z:b=c
  .rw[z];exact c'
  .exact F.un.free b o ((iU z).symm.trans q) n hx
 .by_cases z:b=c
  .subst z;exact⟨o,sS.symm.trans q⟩
  .obtain⟨o',e⟩:=F.un.there b o ((iU z).symm.trans q) hx;exact⟨o',(sb.2 b z).trans e⟩
 .refine(F.hok b u e).stay (λx v hx q=>(sb.2 x λz=>?_).trans q) (λ_ q=>q) λ_ _ q=>q;rcases hx with y|y
  .rw[<- y,z,c']at e;cases e
  .rw[z,c']at y;cases y
 .by_cases z:b=c
  .subst z;exact sB.symm.trans q
  .exact(sb.2 b z).trans (cr b o ((iU z).symm.trans q))
 .by_cases z:b=c
  .subst z;exact sB.trans e
  .refine(iU z).trans (F.cov b o ((sb.2 b z).symm.trans e) hb (hc.imp (λhP=>by obtain⟨u,q⟩:=hP;exact⟨u,(iU z).symm.trans q⟩) id))
end
def G4(X:Cx)(Ex:Value->Ω->Hp->Prop):Prop :=
 ∀aa σ H s a C H' s' B d fv,Inv X aa σ H s->tU X.prog X.w X.stack H s a C H' s' B d fv->Ex C d H'->X.xe (.ref a) s'
section
variable{P:Program}{w:World}{K:Frag}{mg:Str->Ψ}{base:Heap}{N:Θ}{ac:Str}{scope:Scope}{f:Addr}{cd:Value}{A:Around}{outer:List Env}{s:Shared}{H:Hp}{E:XK}
theorem Dp:G4 (n_ (CXO P w) P w K mg base N ac scope f cd A outer s H E) (λC d H'=>E C d H'):=by
 intro aa σ H1 s1 a C H' s' B d fv I F q;show wpAny _ _ (leaving _ (.ref a)) _ _ _;unfold leaving;refine ZU (Bx (outer:=outer) I.ok.frames rfl F.fl λh1 fw y up=>yE (fr:=none) y λh2 z fg=>?_);have F2:=(F.noted z (up.trans fg)).f;have G:=I.flyOut rfl F2 z.pop (.refl _);exact⟨a,C,d,H',B,rfl,G,q⟩
end
def Cx.xed(X:Cx)(xe:Ξ):Cx:={ X with xe:=xe }
section
variable{X:Cx}{a8 iter:Expr}{pos:Pos}{scope:Scope}{wi:TI}{te:TE}
theorem Fy{Ex:Value->Ω->Hp->Prop}{L0:Addr}{ext:Addr->List (Str×Addr)}{fn:Str->Bool}{use:Option (Value->Sem Unit)}{post:Ξ}{Qv:VK}{aa:Γ}{s:Shared}{σ:L2.St}{H:Hp}{pp:Pos}{xs N':Θ}{tg:Expr}{aS:List Expr}{gt:TG}{tc:TT}(E:Dz X scope xs ext fn)(hx:G4 X Ex)(be:X.stack=X.env::X.outer)(i':X.env.frame=some L0)(hc:X.calm=true)(d4:pY xs X.N=N')(bn:scope.kind=.function)(bo:∀y∈scope.names,y.2=.local->scope.names.lookup y.1=some .local)
 (bg:∀y∈scope.names,y.2=.free->X.env.kindOf y.1=some .cell\/X.env.kindOf y.1=some .free)(c6:∀y∈X.N,y∉xs->(relabel scope X.env).names.lookup y≠some .local)(hq:∀y∈X.N,y∈xs->(relabel scope X.env).names.lookup (hid y)=none)(hi:PI X tg iter wi)
 (hg:∀C s₀ H₀ ex pn xe,PG ((X.compE ext fn N' scope xs C s₀ H₀ ex pn).xed xe) tg gt)(ht:∀C s₀ H₀ ex pn xe,PTs ((X.compE ext fn N' scope xs C s₀ H₀ ex pn).xed xe) aS tc)(he:∀C s₀ H₀ ex pn xe,tD ((X.compE ext fn N' scope xs C s₀ H₀ ex pn).xed xe) (λC d _ H=>Ex C d H)->PE ((X.compE ext fn N' scope xs C s₀ H₀ ex pn).xed xe) a8 te)(hs:qi X iter)(I:Inv X aa σ H s)(h:lJ wi xs.length gt tc te σ H Qv)
 (gX:∀(C D:Addr)(Hc:Hp)(s6:Shared)(m:Str->Ψ)(fl:Flow),s6.heap.Ns C m->Inv X aa σ Hc s6->oU X aa Hc C->Qv (.ref D) Hc->compPost (model X.prog X.w) X.A X.xe use post (.ref D) C (.ok fl) s6) :
  wpAny (model X.prog X.w) X.A (comprehension (.ListComp a8 [⟨tg,iter,aS,0⟩] scope pos) scope X.env pp (newList []) false (eval iter X.env) use) post X.xe s:=by
 have bS:∀y∈scope.names,y.2=.free->∃c,X.env.cells.lookup y.1=some c:=λy hy e=>I.ok.has y.1 (bg y hy e);refine wpAny_comprehension_free (use:=use) (Q:=post) rfl hs (u0 bS) bn bo (thn (hi aa s σ H _ I h) λv s1 h1=>thn h1 λke s2 h2=>?_);obtain⟨it,fp,tn,J,H2,e,I2,T,fS,f2,R⟩:=h2;subst e;have nD:H2 s2.heap.objs.size=none:=I2.hok.fresh (aD _);obtain⟨W,⟨m0,w0⟩,cz⟩:=R s2.heap.objs.size nD;refine wpAny_newObj_type ?_ (by show 0<=sizeLine;exact aV _);have I3:Inv X aa σ (upd H2 s2.heap.objs.size (.lst [])) { s2 with heap:=s2.heap.push { cls:=.type "list",dict:=none,data:=.seq ([] : Δ).toArray } }:=I2.lnew (t':=s2.toks) (ys:=[]) (its:=[]) .nil (aV _);have gd:∀b o,s2.heap.get? b=some o->(s2.heap.push { cls:=.type "list",dict:=none,data:=.seq ([] : Δ).toArray }).get? b=some o:=λb o e=>aF _ e;generalize kQ:({ s2 with heap:=s2.heap.push { cls:=.type "list",dict:=none,data:=.seq ([] : Δ).toArray } } : Shared)=s3 at I3 ⊢;have eI:tn 0 s3.heap:=T.keep _ _ _ fS λb _ o e=>by rw[<- kQ];exact gd b o e
 generalize lT:upd H2 s2.heap.objs.size (.lst [])=H3 at I3 w0;have f3:∀b∈fp,oU X aa H3 b:=λb hb=>by
  obtain⟨a1,a2⟩:=f2 b hb;refine⟨?_,a2⟩;obtain⟨o,e,_⟩:=T.obj _ _ fS b hb;rw[<- lT,bJ (aN (aH e))];exact a1
 refine E.new λg fk fb kg=>?_;have jp:∀{y:Str}{c:Addr},(jF X.env.cells scope.names []).lookup y=some c->X.env.cells.lookup y=some c:=λ{y c}e=>by
  rcases vA bS (PySem.mem_of_lookup e)with z|z
  .cases z
  .exact z
 have ci:∀{y:Str},(ext s3.heap.objs.size).lookup y=none->((relabel scope X.env).names.lookup y=some .cell\/(relabel scope X.env).names.lookup y=some .free)->(X.env.kindOf y=some .cell\/X.env.kindOf y=some .free)/\∃c,(ext s3.heap.objs.size++jF X.env.cells scope.names []).lookup y=some c/\X.env.cells.lookup y=some c:=λ{y}ny e=>by
  rcases E.kd s3.heap.objs.size y e with⟨c,z⟩|z
  .rw[ny]at z;cases z
  .obtain⟨c,di⟩:=vL (cells:=X.env.cells) (acc:=[]) (.inl z);obtain⟨c,di⟩:=gG di;exact⟨bg _ z rfl,c,by rw[Up,ny];exact di,jp di⟩
 have eh:∀{y:Str}{c:Addr},(ext s3.heap.objs.size++jF X.env.cells scope.names []).lookup y=some c->(ext s3.heap.objs.size).lookup y=some c\/X.env.cells.lookup y=some c:=λ{y c}e=>by
  rw[Up]at e;cases hy:(ext s3.heap.objs.size).lookup y with
  |some d=>rw[hy]at e;exact .inl e
  |none=>rw[hy]at e;exact .inr (jp e)
 have jv:∀{y z c},(ext s3.heap.objs.size).lookup z=some c->¬X.env.cells.lookup y=some c:=λ{y z c}e1 e=>by
  obtain⟨v,o,h1,_⟩:=I3.cell y c e;exact XU _ (WJ (aH h1) (E.up _ _ _ e1))
 have gf:∀b∈fp,b<s3.heap.objs.size:=λb hb=>by
  obtain⟨o,e,_⟩:=T.obj _ _ eI b hb;exact aH e
 have h9:∀b∈fp,b∉frs X.stack:=λb hb=>I3.nostk' (f3 b hb).2.1 (f3 b hb).2.2.1;have jI:∀b∈fp,∀y c,(ext s3.heap.objs.size++jF X.env.cells scope.names []).lookup y=some c->c≠b:=λb hb y c e=>by
  rcases eh e with z|z
  .exact VW (WJ (gf b hb) (E.up _ _ _ z))
  .exact(f3 b hb).2.2.2.2.1 y c z
 obtain⟨xe,hxe⟩ : ∃xe:Ξ,xe=λv s'=>∃a Cl d H1 s1 H' B fv,v=.ref a/\Inv X aa σ H1 s1/\tU X.prog X.w X.stack H1 s1 a Cl H' s' B d fv/\Ex Cl d H'/\H1 s3.heap.objs.size=none/\(∃o,s1.heap.get? s3.heap.objs.size=some o)/\∃m,s'.heap.Ns s3.heap.objs.size m:=⟨_,rfl⟩;generalize hX:(X.compE ext fn N' scope xs s3.heap.objs.size s3 H3 fp (X.pn++aa)).xed xe=Y;have kC:Y.Ok:=by
  subst hX;exact⟨I3.ok.mod,bn,I3.ok.glob,I3.ok.blt,aD _,λy z c h1 h2=>by
    rcases eh h1 with e1|e1<;>rcases eh h2 with e2|e2
    .exact E.one _ _ _ _ e1 e2
    .exact absurd e2 (jv e1)
    .exact absurd e1 (jv e2)
    .exact I3.ok.inj y z c e1 e2,λy hy=>by
    cases hz:(ext s3.heap.objs.size).lookup y with
    |some c=>exact⟨c,List.lookup_append.trans (by rw[hz];rfl)⟩
    |none=>exact let⟨_,c,q,_⟩:=ci hz hy;⟨c,q⟩,λy c gy e=>by
    obtain⟨d,z⟩:=E.nw s3.heap.objs.size y gy;have e:(ext s3.heap.objs.size++jF X.env.cells scope.names []).lookup y=some c:=e;rw[Up,z]at e;cases e;exact Y2 (E.up _ _ _ z),I3.ok.hd,I3.ok.frames,.inl rfl,
   λb hb=>⟨aN (gf b hb),jI b hb⟩,I3.bs,aJ I3.ok.bsz I3.sz,λb o e hb=>by
    rcases(f3 b hb).2.2.2.1 with z|z
    .exact I3.ok.noex b o e z
    .exact absurd (aO (aO (aH e) I3.ok.bsz) z) (XU _),h9,I3.stack,I3.stkFree⟩
 have J4:∀tk,Inv Y [] (List.replicate xs.length none++σ) H3 { s3 with heap:=g,toks:=tk }:=λtk=>by
  subst hX;refine⟨kC,rfl,I3.bare,Un.kept kg,⟨_,fk,λi y v e1 e2 e3=>?_⟩,λy c e=>?_,I3.hok.fresh (aD _),λy c e=>(eh e).elim (λz=>I3.hok.fresh (Y2 (E.up _ _ _ z))) (I3.freeC y c),λp hp=>?_,I3.hok.kept kg,?_⟩
  .by_cases eK:i<xs.length
   .rw[aC (by rw[aK];exact eK),XX,ZY eK]at e2;cases e2
   .obtain⟨j,rfl⟩ : ∃j,i=xs.length+j:=⟨i-xs.length,by lia⟩;have e0:N'[j]?=some y:=by
     have e1:(xs++N')[xs.length+j]?=some y:=e1;rw[aB (XV _ _)]at e1;rw[show xs.length+j-xs.length=j by exact VU _ _]at e1;exact e1
    have ml:σ[j]?=some (some v):=by
     rw[aB (by rw[aK];exact XV _ _),aK]at e2;rw[show xs.length+j-xs.length=j by exact VU _ _]at e2;exact e2
    rw[<- d4]at e0;obtain⟨y0,eM,ey⟩ : ∃y0,X.N[j]?=some y0/\(if y0∈xs then hid y0 else y0)=y:=by
     unfold pY at e0;rw[aq]at e0;cases hz:X.N[j]? with
     |none=>rw[hz]at e0;cases e0
     |some y0=>rw[hz]at e0;exact⟨y0,rfl,Option.some.inj e0⟩
    have e3:(relabel scope X.env).names.lookup y=some .local\/(relabel scope X.env).names.lookup y=some .cell\/(relabel scope X.env).names.lookup y=some .free:=e3;have ne:¬y0∈xs:=λz=>by
     rw[ZY z]at ey;subst ey;rw[hq y0 (aA eM) z]at e3;rcases e3 with z|z|z<;>cases z
    rw[ZZ ne]at ey;subst ey;have jn:(relabel scope X.env).names.lookup y0=some .cell\/(relabel scope X.env).names.lookup y0=some .free:=by
     rcases e3 with z|z
     .exact absurd z (c6 y0 (aA eM) ne)
     .exact z
    obtain⟨kd,c,fb,g9⟩:=ci (E.off _ _ ne) jn;obtain⟨m,_,hl⟩:=I3.loc;obtain⟨u,r,lk⟩:=hl j y0 v eM ml (.inr kd);refine⟨u,r,.inr ⟨jn,c,fb,?_⟩⟩;rcases lk with⟨k1,_⟩|⟨_,c',q1,o,q2,q3⟩
    .exfalso;have kc:X.env.kindOf y0=some .local:=k1;rcases kd with k2|k2<;>rw[kc]at k2<;>cases k2
    .rw[g9]at q1;cases q1;exact⟨o,kg _ _ q2,q3⟩
  .rcases eh e with z|z
   .exact⟨none,fb y c z⟩
   .obtain⟨v,o,q2,q3⟩:=I3.cell y c z;exact⟨v,o,kg _ _ q2,q3⟩
  .have eT:p∈X.pn++aa:=by simpa[Cx.compE,Cx.xed]using hp
   obtain⟨a1,a2,a3,a4,a5⟩:=I3.pin p eT;exact⟨kg _ _ a1,a2,aN (aH a1),I3.nostk' a3 a4,a5⟩
  .show(List.replicate xs.length none++σ).length=(xs++N').length;have dL:N'.length=X.N.length:=by rw[<- d4];unfold pY;rw[ak]
   rw[au,aK,au,I3.len,dL]
 have gS:∀{Hc:Hp},(∀b∈fp,Hc b=none)->∀b∈fp,oU Y [] Hc b:=λ{Hc}hn b hb=>by
  subst hX;exact⟨hn b hb,aN (gf b hb),h9 b hb,.inl hb,jI b hb,λp hp=>(f3 b hb).2.2.2.2.2 p (by simpa[Cx.compE,Cx.xed]using hp)⟩
 have cS:∀s4:Shared,s4={ s3 with heap:=g,toks:=s3.toks+([] : List (Str×Value)).length } ->
   codeAny (model X.prog X.w) X.A (.compLoop (.ListComp a8 [⟨tg,iter,aS,0⟩] scope pos) 0 (.ref it) (.ref s2.heap.objs.size) Y.env) (compPost (model X.prog X.w) X.A X.xe use post (.ref s2.heap.objs.size) s3.heap.objs.size) s4:=by
  rintro s4 rfl;have YP:Y.prog=X.prog/\Y.w=X.w/\Y.K=X.K/\Y.calm=X.calm/\Y.A=X.A/\Y.env.locals=s3.heap.objs.size:=by subst hX;exact⟨rfl,rfl,rfl,rfl,rfl,rfl⟩
  obtain⟨y1,y2,y3,y4,y5,y6⟩:=YP;have iN:PG Y tg gt:=by subst hX;exact hg _ _ _ _ _ _
  have kP:PTs Y aS tc:=by subst hX;exact ht _ _ _ _ _ _
  have ei:Y.xe=xe:=by subst hX;rfl
  have yb:∀{Hc:Hp}{w':L2.St}{pn:Γ}{s':Shared},Inv Y pn w' Hc s'->Un (frs X.stack) fp H3 Hc s3.heap s'.heap:=λ{Hc w' pn s'}Z=>by
   have:=Z.base;subst hX;exact this
  have j1:∀{Hc:Hp}{w':L2.St}{pn:Γ}{s':Shared},Inv Y pn w' Hc s'->s'.os=s3.os:=λ{Hc w' pn s'}Z=>by
   have:=Z.os;subst hX;exact this
  have inX:∀{Hc:Hp}{w':L2.St}{pn:Γ}{s':Shared},Inv Y pn w' Hc s'->Inv X aa σ Hc s'/\Hc s3.heap.objs.size=none:=λ{Hc w' pn s'}Z=>by
   have hok:HOk X.prog X.w Hc s'.heap:=by
    have z:=Z.hok;rw[y1,y2]at z;exact z
   have cn:Hc s3.heap.objs.size=none:=by
    have z:=Z.free;rw[y6]at z;exact z
   exact⟨I3.call' (s':=s') (ch:=fp) (j1 Z) (yb Z) hok Z.bare λb hb=>⟨(f3 b hb).2.2.2.1,(f3 b hb).2.1,(f3 b hb).2.2.2.2.1,(f3 b hb).2.2.2.2.2⟩,cn⟩
  have c3:s3.heap.objs.size∉frs X.stack:=λz=>I3.nostk' (I3.fpOk (aD _) (H':=λ_=>none) rfl).2.1 (I3.nofs (aD _)) z;have ls:PE Y a8 te:=by
   have hf:tD Y (λC d _ H=>Ex C d H):=by
    intro b6 σ' H1 s1 a Cl H' s' B d Z F q;rw[ei,hxe];obtain⟨J,cn⟩:=inX Z;obtain⟨m,hn,_⟩:=Z.loc;rw[y6]at hn;obtain⟨o,es,ep,ho,r⟩:=hn;have F:Fly X.prog X.w X.stack H1 s1 a Cl H' s' B d:=by
     have ys:Y.stack=X.stack:=by subst hX;rfl
     rw[y1,y2,ys]at F;exact F
    exact⟨a,Cl,d,H1,s1,H',B,_,rfl,J,F.n,q,cn,⟨o,ho⟩,m,o,es,ep,F.un.keep _ o ho cn c3 (by simp),r⟩
   subst hX;exact he _ _ _ _ _ _ hf
  have hE:∀e s',xe e s'->notedBy (model X.prog X.w) X.A Y.env (λx hZ=>compPost (model X.prog X.w) X.A X.xe use post (.ref s2.heap.objs.size) s3.heap.objs.size (.error x) hZ) e s':=by
   intro e s' z;rw[hxe]at z;obtain⟨a,Cl,d,H1,s1,H',B,fv,rfl,J,F,q,cn,⟨oc,cs⟩,m,hn⟩:=z;have e0:noteFrame (.ref a) Y.env=noteFrame (.ref a) X.env:=by subst hX;rfl
   show wpAny _ _ (noteFrame (.ref a) Y.env) _ _ _;rw[e0];have me:iK B (X.env::X.outer) a Cl d fv s'.heap:=by rw[<- be];exact F.fl
   refine Bx (outer:=X.outer) (J.ok.frames.trans (by rw[be])) i' me λh4 fw y up=>⟨m,up.ns hn,λh5 sb cenv _=>?_⟩;have F4:=F.noted (by rw[be];exact y) up;have F5:=F4.letGo cn c3 cs sb;have J5:Inv X aa σ H1 { s1 with heap:=cpH h5 s1.heap s3.heap.objs.size }:=J.turned (t':=s1.toks) (λb o hb e=>(iU hb).trans e) cn (I3.fpOk (aD _) cn).2.1 (I3.fpOk (aD _) cn).2.2.2.1 (I3.fpOk (aD _) cn).2.2.2.2.1 (I3.fpOk (aD _) cn).2.2.2.2.2;have x5:=F5.fl;obtain⟨_,_,_,oe,vs,T,oT,ts,he,hc,hd,h1,nT,cK,hT,b7,h3⟩:=id x5;unfold PySem.passOn;refine ZU (wpAny_field he hd h1 ?_);rw[ZZ (show ¬((Value.ref T==Value.none)=true)from by simp)];refine ZU (yE x5 λh6 z6 up6=>wpAny_throw ?_);have F6:=F5.noted z6 up6;exact hx aa σ H1 _ a Cl H' _ _ d _ J5 F6 q
  refine codeAny_loop rfl (λn s'=>∃i ys Hc,∃w':L2.St,w'.length=xs.length/\Inv Y [] (w'++σ) Hc s'/\tn i s'.heap/\(∀b∈fp,Hc b=none)/\W i n ys Hc) (λn s5 hI=>?_) m0 ⟨0,[],H3,List.replicate xs.length none,aK,J4 _,T.keep _ _ _ eI λb _ o e=>kg b o e,λb hb=>(f3 b hb).1,w0⟩;obtain⟨i,ys,Hc,w',g5,Z,hW,ja,wc⟩:=hI;show wpAny _ _ ((compTurn (.ListComp a8 [⟨tg,iter,aS,0⟩] scope pos) 0 (.ref it) (.ref s2.heap.objs.size) Y.env).onRaise (λz=>do noteFrame z Y.env;theTreesLotGoes z)) _ _ s5;refine wpAny_noted (wpAny_mono (E:=xe) (Q:=λ(am:Fin)s'=>match am with|.done f=>compPost (model X.prog X.w) X.A X.xe use post (.ref s2.heap.objs.size) s3.heap.objs.size (.ok f) s'|.again c'=>c'=_/\∃m,m<n/\_) ?_ (λ_ _ q=>q) hE);rw[compTurn_list];show wpAny (model X.prog X.w) X.A _ _ _ _;rcases cz i n ys Hc wc with⟨stop,qn⟩|⟨go,step⟩
  .have hd:=T.done Y y1 y2 y3 (y4.trans hc) i [] s5 (w'++σ) Hc xe Z (gS ja) hW stop;rw[y5]at hd;refine ZU (wpAny_standAt (ZU (thn hd λr s6 hP=>?_)));obtain⟨hr,Z6⟩:=hP;subst hr;refine ZT ?_;obtain⟨m,fo,_⟩:=Z6.loc;rw[y6]at fo;have u6:=yb Z6;have hok:HOk X.prog X.w Hc s6.heap:=by
    have z:=Z6.hok;rw[y1,y2]at z;exact z
   have cn:Hc s3.heap.objs.size=none:=by
    have z:=Z6.free;rw[y6]at z;exact z
   have I6:Inv X aa σ Hc s6:=I3.call' (s':=s6) (ch:=fp) (j1 Z6) u6 hok Z6.bare λb hb=>⟨(f3 b hb).2.2.2.1,(f3 b hb).2.1,(f3 b hb).2.2.2.2.1,(f3 b hb).2.2.2.2.2⟩;have fC:oU X aa Hc s3.heap.objs.size:=I3.fpOk (aD _) cn;exact gX _ _ Hc s6 m _ fo I6 fC qn
  .have hd:=T.item Y y1 y2 y3 (y4.trans hc) i [] s5 (w'++σ) Hc xe Z (gS ja) hW go;rw[y5]at hd;refine ZU (wpAny_standAt (ZU (thn hd λr s6 hP=>?_)));obtain⟨u,hr,h6⟩:=hP;subst hr;refine ZU (thn h6 λ_ s7 hP=>?_);obtain⟨xv,H7,Z7,r7,yl,fR,l7⟩:=hP;have mw:=Z7.pinned (gS l7) (T.obj _ _ fR);have be:=iN _ s7 _ H7 xv u _ mw r7 (step xv H7 yl w' g5);rw[y1,y2,y5,ei]at be;refine ZU (thn be λ_ s8 hP=>?_);obtain⟨σ8,H8,Z8,pre,cm,e8,q8⟩:=hP;subst e8;have gh:=kP _ s8 _ H8 _ Z8 q8;rw[y1,y2,y5,ei]at gh;have am:∀{m':Nat}{fy:Β}{H9:Hp}{s9:Shared},Inv Y ([]++rm fp s7.heap) (pre++σ) H9 s9->m'<n->W (i+1) m' fy H9->∃m,m<n/\∃i ys Hc,∃w':L2.St,w'.length=xs.length/\Inv Y [] (w'++σ) Hc s9/\tn i s9.heap/\(∀b∈fp,Hc b=none)/\W i m ys Hc:=λ{m' fy H9 s9}Z9 d5 w9 =>
    ⟨m',d5,i+1,fy,H9,pre,cm,Z9.unpinned,T.keep _ _ _ fR λb hb o e=>(Z9.pin (b,o) (aM _ (aM _ (gB hb e)))).1,λb hb=>by
     obtain⟨o,e,_⟩:=T.obj _ _ fR b hb;exact(Z9.pin (b,o) (aM _ (aM _ (gB hb e)))).2.1,w9⟩
   refine ZU (thn gh λok s9 hP=>?_);obtain⟨H9,Z9,q9⟩:=hP;cases ok with
   |false =>
    obtain⟨m',d5,w9⟩:=q9;exact ZT ⟨rfl,am Z9 d5 w9⟩
   |true =>
    have iO:=ls _ s9 _ H9 _ Z9 q9;rw[y1,y2,y5,ei]at iO;refine ZU (ZU (thn iO λev f8 hP=>?_));obtain⟨yv,j0,my,kB,hz,gN,m',d5,kr⟩:=hP;have gE:=rP (X:=Y) _ f8 _ j0 (.ref s2.heap.objs.size) [yv] (.ref s2.heap.objs.size) [ev] (λ_ Hf=>Hf=upd j0 s2.heap.objs.size (.lst (ys++[yv]))) my rfl (.cons kB .nil) ⟨_,ys,yv,rfl,rfl,gN,hz,rfl⟩;rw[y1,y2,y5,ei]at gE;refine ZU (thn gE λav s11 hP=>?_);obtain⟨_,H11,mx,_,mm⟩:=hP;subst mm;exact ZT (ZT ⟨rfl,am mx d5 kr⟩)
 have gz:Y.env=compEnvC scope (ext s3.heap.objs.size++jF X.env.cells scope.names []) s3.heap.objs.size X.env:=by subst hX;rfl
 rw[gz]at cS;exact codeAny_compStart_list (cS _ rfl) (T.self _ 0 _ _ _ (T.keep _ _ _ eI λb _ o e=>kg b o e) (cS _ rfl))
theorem Uz{Ex:Value->Ω->Hp->Prop}{L0:Addr}{xs N':Θ}{tg:Expr}{aS:List Expr}{gt:TG}{tc:TT}(hx:G4 X Ex)(be:X.stack=X.env::X.outer)(i':X.env.frame=some L0)(sc:Scope)(N:Θ)(hi:PI X tg iter wi)
 (hg:∀{C s₀ H₀ ex pn xe},PG ((X.compG N' scope xs C s₀ H₀ ex pn).xed xe) tg gt)(ht:∀{C s₀ H₀ ex pn xe},PTs ((X.compG N' scope xs C s₀ H₀ ex pn).xed xe) aS tc)(he:∀{C s₀ H₀ ex pn xe},tD ((X.compG N' scope xs C s₀ H₀ ex pn).xed xe) (λC d _ H=>Ex C d H)->PE ((X.compG N' scope xs C s₀ H₀ ex pn).xed xe) a8 te)
 (c0:X.env.scope=sc:=by rfl)(c9:X.N=N:=by rfl)(hc:X.calm=true:=by rfl)(hk:scope.kind=.function:=by rfl)(h:CK sc scope N N' xs:=by decide +kernel)(hs:qi X iter:=by intro _;rfl):PE X (.ListComp a8 [⟨tg,iter,aS,0⟩] scope pos) (lJ wi xs.length (tMG gt) (tMT tc) (tM te)):=by
 subst c0 c9;intro aa s σ H Q I q;rw[eval_ListComp];exact Fy (T4 hk h.1) hx be i' hc h.2.1 hk h.2.2.1 h.2.2.2.1 h.2.2.2.2.1 h.2.2.2.2.2 hi (λ_ _ _ _ _ _=>hg.mono) (λ_ _ _ _ _ _=>ht.mono) (λ_ _ _ _ _ _ z=>(he z).mono) hs I q λC D Hc s6 m fl hn I6 fC q=>⟨m,hn,λh' iq=>⟨.ref D,Hc,I6.turned (it:=C) (h':=h') (t':=s6.toks) (λb o hb e=>(iq.2 b hb).trans e) fC.1 fC.2.1 fC.2.2.2.1 fC.2.2.2.2.1 fC.2.2.2.2.2,rfl,q⟩⟩
end
structure DT where
 nx:List OT->Prop
 rt:OT->Prop
 bk:List OT->Prop:=λ_=>False
 ct:List OT->Prop:=λ_=>False
 xc:Addr->Θ->List T->Prop:=λ_ _ _=>False
abbrev RS:=DT->List OT->Prop
def zx(X:Cx):XK:=λC d H'=>(∀aa σ H s a s' B,Inv X aa σ H s->Fly X.prog X.w X.stack H s a C H' s' B d->X.xe (.ref a) s') /\
 (∀aa σ H s a c,C=.ref c->Inv X aa σ H s->H a=some (XN a c d)->X.s₀.heap.objs.size<=a->out H a=H'->X.xe (.ref a) s) /\
 (d=none->∀aa σ s a vs h1,Inv X aa σ H' s->Heap.MadeExcOf s.heap h1 a C vs->X.xe (.ref a) { s with heap:=h1 }) /\
 ∀aa σ H s a s' B fv,Inv X aa σ H s->tU X.prog X.w X.stack H s a C H' s' B d fv->X.xe (.ref a) s'
structure Lnk(K:Frag)(Z:XK)(F:Hp)(E:DT)(D:Ends):Prop where
 nx:∀own H σ o,E.nx o->Same F (hd (Ow own) H)->SR K own H σ o->D.nx σ H
 rt:∀S H v x B,E.rt x->Same F (hd S H)->Slo K (hd S H) H (some v) B x->(∀a∈B,S a)->D.rt v H
 bk:∀own H σ o,E.bk o->Same F (hd (Ow own) H)->SR K own H σ o->D.bk σ H
 ct:∀own H σ o,E.ct o->Same F (hd (Ow own) H)->SR K own H σ o->D.ct σ H
 xc:∀H C d ks vs ts,E.xc C ks ts->Same F H->tV H d (ks.zip vs)->bD K H vs ts->Z (.ref C) d H
theorem Lnk.step{K:Frag}{Z:XK}{F F':Hp}{E:DT}{D:Ends}(h:Lnk K Z F E D)(S:Same F F'):Lnk K Z F' E D :=
 ⟨λown H σ o e s=>h.nx own H σ o e (S.trans s),λT H v x B e s=>h.rt T H v x B e (S.trans s),λown H σ o e s=>h.bk own H σ o e (S.trans s),λown H σ o e s=>h.ct own H σ o e (S.trans s),λH C d ks vs ts e s=>h.xc H C d ks vs ts e (S.trans s)⟩
def tQS(X:Cx)(r:RS):TS:=λD σ H=>∃own o E,SR X.K own H σ o/\r E o/\Lnk X.K (zx X) (hd (Ow own) H) E D
def QS(X:Cx)(st:Stmt)(r:RS):Prop:=PS X st (tQS X r)
def QSs(X:Cx)(st:List Stmt)(r:RS):Prop:=PSs X st (tQS X r)
theorem PS.imp{X:Cx}{st:Stmt}{t t':TS}(h:PS X st t)(i:∀D σ H,t' D σ H->t D σ H):PS X st t':=λaa s σ H D I q=>h aa s σ H D I (i D σ H q)
theorem PSs.imp{X:Cx}{st:List Stmt}{t t':TS}(h:PSs X st t)(i:∀D σ H,t' D σ H->t D σ H):PSs X st t':=λaa s σ H D I q=>h aa s σ H D I (i D σ H q)
def RQ:RS:=λE o=>E.nx o
def ju(a b:RS):RS:=λE o=>a { E with nx:=b E } o
def Tj(i:Nat)(a:RE):RS:=λE o=>a o λx=>E.nx (o.set i (.fz (frz x)))
def aaG(i:Nat)(a:RE):RS:=λE o=>a o λx=>E.nx (o.set i x)
def XS(a:RE):RS:=λE o=>a o λ_=>E.nx o
def aai(a:RE):RS:=λE o=>a o E.rt
def Rx(i:Nat):RS:=λE o=>match slot o i with|.und=>False|x=>E.rt x
def XF(c:RT)(a b:RS):RS:=λE o=>c o λk=>sw k (a E o) (b E o)
def Uj:RS:=λ_ _=>False
def Zq(i:Nat)(a:RS):RS:=λE o=>match slot o i with|.und=>False|x=>a E (o.set i (.fz (frz x)))
section
variable{K:Frag}{own:zz}{H H':Hp}{σ:L2.St}{o:List OT}
theorem SR.putA(h:SR K own H σ o)(E:Same H H'){v:V}{x:OT}(n:NR K (Ow own) H H' v x)(i:Nat):∃ae,SR K ae H' (σ.set i (some v)) (o.set i x)/\Same (hd (Ow own) H) (hd (Ow ae) H'):=by
 by_cases hi:i<o.length
 .exact h.put E n hi
 .rw[UX (Nat.not_lt.mp hi),UX (h.len ▸ Nat.not_lt.mp hi)];exact⟨own,h.same E,bF E⟩
theorem NR.frz{S:Addr->Prop}{v:V}{x:OT}(n:NR K S H H' v x)(hs:∀b,S b->H b≠none):NR K S H H' v (.fz (L2.frz x)):=NR.fz (n.rep hs)
theorem Slo.val{F:Hp}{v:Option V}{A:Φ}{x:OT}(h:Slo K F H v A x)(n:x≠.und):∃u,v=some u:=by
 cases x with
 |und=>exact absurd rfl n
 |fz t=>exact⟨_,h.2.choose_spec.1⟩
 |l1 ts=>obtain⟨a,xs,e,_⟩:=h;exact⟨_,e⟩
 |l2 ts=>obtain⟨a,xs,e,_⟩:=h;exact⟨_,e⟩
 |d1 ks ts=>obtain⟨a,xs,e,_⟩:=h;exact⟨_,e⟩
 |ob a d C ks ts=>obtain⟨xs,e,_⟩:=h;exact⟨_,e⟩
 |la a ts=>obtain⟨xs,e,_⟩:=h;exact⟨_,e⟩
 |pr ts us=>obtain⟨p,a,b,xs,ys,e,_⟩:=h;exact⟨_,e⟩
theorem SR.val(h:SR K own H σ o){i:Nat}{x:OT}(e:slot o i=x)(n:x≠.und):∃u,σ[i]?=some (some u)/\Slo K (hd (Ow own) H) H (some u) (own i) x:=by
 have s:=h.sl i x (eF e n);obtain⟨u,hu⟩:=s.val n;rw[hu]at s;refine⟨u,?_,s⟩;cases z:σ[i]? with
 |none=>rw[z]at hu;cases hu
 |some w=>rw[z]at hu;exact ZH some hu
end
section
variable{X:Cx}{st:Stmt}{hV:List Stmt}{a b:RS}{e:Expr}{re:RE}{pos:Pos}
theorem bU:QSs X [] RQ:=Pg.imp λD σ H hP=>by obtain⟨own,o,E,h,hr,L⟩:=hP;exact L.nx own H σ o hr (.refl _) h
theorem aac{D:Ends}{σ:L2.St}{H:Hp}(h:tQS X (ju a b) D σ H):T_ (tQS X a) (tQS X b) D σ H:=by
 obtain⟨own,o,E,h,hr,L⟩:=h;exact⟨own,o,_,h,hr,λae H' σ' o' q S h'=>⟨ae,o',E,h',q,L.step S⟩,L.rt,L.bk,L.ct,L.xc⟩
theorem bh(h1:QS X st a)(h2:QSs X hV b):QSs X (st::hV) (ju a b):=(B_ h1 h2).imp λ_ _ _=>aac
theorem bx(h:QS X st a):QSs X [st] a:=t_ h
theorem bI(i:Nat){x:Str}{ay:Pos}(he:QE X e re)(hN:X.N.Nodup:=by assumption)(hx:Loc X.env.scope x:=by first|exact .inl rfl|exact .inr rfl)(hi:X.N[i]?=some x:=by rfl)(hs:swapsWith e (some (.Name x ay)) pos.line X.env=pure false:=by rfl)(hf:qr X x:=by first|exact .inl rfl|exact .inr rfl|assumption) :
  QS X (.Assign [.Name x ay] e pos) (Tj i re):=(Fe hN hi hx he hs hf).imp λD σ H ⟨own,o,E,h,hr,L⟩=>⟨own,o,_,h,hr,λH' v y q S n=>by
 obtain⟨ae,h',S'⟩:=h.putA S (n.frz λb z=>(h.sole z).ne) i;exact L.nx ae H' _ _ q S' h'⟩
theorem gH(i:Nat){x:Str}{ay:Pos}(he:QE X e re)(hN:X.N.Nodup:=by assumption)(hx:Loc X.env.scope x:=by first|exact .inl rfl|exact .inr rfl)(hi:X.N[i]?=some x:=by rfl)(hs:swapsWith e (some (.Name x ay)) pos.line X.env=pure false:=by rfl)(hf:qr X x:=by first|exact .inl rfl|exact .inr rfl|assumption) :
  QS X (.Assign [.Name x ay] e pos) (aaG i re):=(Fe hN hi hx he hs hf).imp λD σ H ⟨own,o,E,h,hr,L⟩=>⟨own,o,_,h,hr,λH' v y q S n=>by
 obtain⟨ae,h',S'⟩:=h.putA S n i;exact L.nx ae H' _ _ q S' h'⟩
theorem uo(he:QE X e re)(hs:swapsWith e none pos.line X.env=pure false:=by rfl):QS X (.Expr e pos) (XS re):=(kY he hs).imp λD σ H hP=>by obtain⟨own,o,E,h,hr,L⟩:=hP;exact⟨own,o,_,h,hr,λH' v y q S n=>L.nx own H' σ o q (bF S) (h.same S)⟩
theorem bV(he:QE X e re):QS X (.Return (some e) pos) (aai re):=(z9 he).imp λD σ H ⟨own,o,E,h,hr,L⟩=>⟨own,o,_,h,hr,λH' v y q S n=>by
 obtain⟨B,nb,s⟩:=n;exact L.rt _ H' v y B q (f9 (λb z=>z.imp id (nb b)) S) s λa ha=>.inr ha⟩
theorem qK(i:Nat){x:Str}{p:Pos}(hN:X.N[i]?=some x:=by rfl)(hv:lR X.env.scope x=true:=by rfl)(hd:qq x:=by decide)(a9:qk x:=by decide):QS X (.Return (some (.Name x p)) pos) (Rx i):=(z9 (pv i hN hv hd a9)).imp λD σ H hP=>by
 obtain⟨own,o,E,h,hr,L⟩:=hP;have hr:E.rt (slot o i)/\slot o i≠.und:=by
  unfold Rx at hr;cases e:slot o i<;>rw[e]at hr<;>first|exact hr.elim|exact⟨hr,λz=>by cases z⟩
 obtain⟨u,e,s⟩:=h.val rfl hr.2;exact⟨u,e,L.rt (Ow own) H u _ _ hr.1 (.refl _) s λa ha=>⟨i,ha⟩⟩
theorem cQ{c:Expr}{ss ts:List Stmt}{qc:RT}(hc:QT X c qc)(ha:QSs X ss a)(hb:QSs X ts b):QS X (.If c ss ts pos) (XF qc a b):=(ZS hc ha hb).imp λD σ H ⟨own,o,E,h,hr,L⟩=>tQT.mk h hr λH1 c q E1 =>
 yP q (λq=>⟨own,o,E,h.same E1,q,L.step (bF E1)⟩) λq=>⟨own,o,E,h.same E1,q,L.step (bF E1)⟩
theorem iH:QS X st Uj:=M7.imp λD σ H hP=>by obtain⟨own,o,E,h,hr,L⟩:=hP;exact hr
theorem rE(i:Nat)(hs:QS X st a):QS X st (Zq i a):=PS.imp hs λD σ H hP=>by
 obtain⟨own,o,E,h,hr,L⟩:=hP;have hr:a E (o.set i (.fz (frz (slot o i))))/\slot o i≠.und:=by
  unfold Zq at hr;cases e:slot o i<;>rw[e]at hr<;>first|exact hr.elim|exact⟨hr,λz=>by cases z⟩
 obtain⟨u,e1,s⟩:=h.val rfl hr.2;obtain⟨ae,h',S⟩:=h.frz (eF rfl hr.2) e1;exact⟨ae,_,E,h',hr.1,L.step S⟩
theorem rM{S:Addr->Prop}{H:Hp}{D:Addr}{u:HO}(h:S D):hd S (upd H D u)=hd S H:=funext λb=>by
 by_cases z:S b
 .rw[jK z,jK z]
 .rw[bO z,bO z,bJ λ(e:b=D)=>z (e.symm ▸ h)]
def asL:OT->Option (List T×(List T->OT))
 |.l1 ts=>some (ts,.l1)
 |.la a ts=>some (ts,.la a)
 |_=>none
def onL(x:OT)(k:List T->(List T->OT)->Prop):Prop:=match asL x with|some (ts,c)=>k ts c|none=>False
theorem zj{x:OT}{k:List T->(List T->OT)->Prop}(h:onL x k):∃ts c,k ts c/\((x=.l1 ts/\c=.l1)\/∃a,x=.la a ts/\c=.la a):=by
 cases x with
 |l1 ts=>exact⟨ts,_,h,.inl ⟨rfl,rfl⟩⟩
 |la a ts=>exact⟨ts,_,h,.inr ⟨a,rfl,rfl⟩⟩
 |_=>exact h.elim
def aa6(i:Nat)(a:RE):RS:=λE o=>onL (slot o i) λts c=>a o λy=>ts.length<sizeLine/\E.nx (o.set i (c (ts++[frz y])))
theorem SR.l1{K:Frag}{own:zz}{H:Hp}{σ:L2.St}{o:List OT}(h:SR K own H σ o){i:Nat}{ts:List T}{c:List T->OT}(e:(slot o i=.l1 ts/\c=.l1)\/∃a,slot o i=.la a ts/\c=.la a):∃l xs,σ[i]?=some (some (.ref l))/\own i=[l]/\H l=some (.lst xs)/\bD K (hd (Ow own) H) xs ts/\∀(H':Hp)(ys:Β)us,H' l=some (.lst ys)->bD K (hd (Ow own) H') ys us->Slo K (hd (Ow own) H') H' (some (.ref l)) [l] (c us):=by
 rcases e with⟨e,rfl⟩|⟨a,e,rfl⟩
 .obtain⟨u,e1,l,xs,e2,e3,e4,r⟩:=h.val e (by intro z;cases z);cases e2;exact⟨l,xs,e1,e3,e4,r,λH' ys us a b=>⟨l,ys,rfl,rfl,a,b⟩⟩
 .obtain⟨u,e1,xs,e2,e3,e4,r⟩:=h.val e (by intro z;cases z);cases e2;exact⟨a,xs,e1,e3,e4,r,λH' ys us a b=>⟨ys,rfl,rfl,a,b⟩⟩
theorem Gz{o:List OT}{i:Nat}{ts:List T}{c:List T->OT}(e:(slot o i=.l1 ts/\c=.l1)\/∃a,slot o i=.la a ts/\c=.la a):∃x,o[i]?=some x:=by
 rcases e with⟨e,_⟩|⟨a,e,_⟩
 .exact⟨_,eF e (by intro z;cases z)⟩
 .exact⟨_,eF e (by intro z;cases z)⟩
theorem SR.chg1{K:Frag}{own:zz}{H:Hp}{σ:L2.St}{o:List OT}(h:SR K own H σ o){i:Nat}{us:List T}{c:List T->OT}(e:∃x,o[i]?=some x){l:Addr}{ys:Β}(eσ:σ[i]?=some (some (.ref l)))(eo:own i=[l])(sl:∀(H':Hp)(ys:Β)us,H' l=some (.lst ys)->bD K (hd (Ow own) H') ys us->Slo K (hd (Ow own) H') H' (some (.ref l)) [l] (c us))(r:bD K (hd (Ow own) H) ys us):SR K own (upd H l (.lst ys)) σ (o.set i (c us))/\Same (hd (Ow own) H) (hd (Ow own) (upd H l (.lst ys))):=by
 obtain⟨x,e⟩:=e;refine h.chg e (λb u hb e=>(bJ λz=>hb (by rw[eo,z];simp)).trans e) ?_;rw[eσ,eo];exact sl _ ys us bK (by rw[rM ⟨i,by rw[eo];simp⟩];exact r)
theorem j7(i:Nat){x:Str}{ag cpos p:Pos}(he:QE X e re)(hN:X.N[i]?=some x:=by rfl)(hv:lR X.env.scope x=true:=by rfl)(aw:qq x:=by decide)(a9:qk x:=by decide)
 (hb:attributeBase (.Name x p) "append" X.env (eval (.Name x p) X.env)=eval (.Name x p) X.env:=by rfl)
 (hf:qh X cpos e:=by rfl)
 (hl:zk ag cpos:=by rfl)(be:qf X e []:=by rfl)(hp:qo X cpos []:=by rfl)
 (hs:swapsWith (.Call (.Attribute (.Name x p) "append" ag) [e] [] cpos) none pos.line X.env=pure false:=by rfl) :
  QS X (.Expr (.Call (.Attribute (.Name x p) "append" ag) [e] [] cpos) pos) (aa6 i re):=(kY (MJ (pv i hN hv aw a9) (fL he mR be) hb hf hl be hp) hs).imp λD σ H hP=>by
 obtain⟨own,o,E,h,hr,L⟩:=hP;obtain⟨ts,c,hr,es⟩:=zj hr;obtain⟨l,xs,e1,e2,e3,r,sl⟩:=h.l1 es;refine⟨_,e1,l,xs,rfl,e3,tQ.mk h hr λH1 v y q E1 r1=>⟨v,xs,rfl,E1 _ _ e3,by rw[r.len];exact q.1,?_⟩⟩;obtain⟨h',S⟩:=(h.same E1).chg1 (Gz es) e1 e2 sl ((r.same (bF E1)).app (.cons r1 .nil));exact L.nx own _ σ _ q.2 ((bF E1).trans S) h'
def abl(i:Nat)(a b:RE):RS:=λE o=>onL (slot o i) λts c=>a o λy=>b o λk=>(match frz k with|.int j=>∃n,ixN ts.length j=some n/\E.nx (o.set i (c (ts.set n (frz y))))|_=>False)
theorem TV(i:Nat){x:Str}{k:Expr}{rk:RE}{a7 p:Pos}(he:QE X e re)(hk:QE X k rk)(hN:X.N[i]?=some x:=by rfl)(hv:lR X.env.scope x=true:=by rfl)(aw:qq x:=by decide)(a9:qk x:=by decide)
 (ha:∀v,assign (.Subscript (.Name x p) k a7) X.env v=(do
   let ov <- holding [v] (eval (.Name x p) X.env)
   let iv <- holding [v,ov] (eval k X.env)
   standAt a7
   holding [v,ov,iv] (setItem ov iv v)
   release [v,ov,iv] []):=by intro _;rfl)
 (hs:swapsWithSole [.Subscript (.Name x p) k a7] e pos.line X.env=pure false:=by rfl)(hw:swappedStores [.Subscript (.Name x p) k a7] e X.env=pure none:=by rfl)
 (h1:(assignEach [.Subscript (.Name x p) k a7] X.env).map (·.2)=[assign (.Subscript (.Name x p) k a7) X.env]:=by rfl):QS X (.Assign [.Subscript (.Name x p) k a7] e pos) (abl i re rk):=(KZ he (T9 (pv i hN hv aw a9) hk set_list ha) hs hw h1).imp λD σ H hP=>by
 obtain⟨own,o,E,h,hr,L⟩:=hP;obtain⟨ts,c,hr,es⟩:=zj hr;obtain⟨l,xs,e1,e2,e3,r,sl⟩:=h.l1 es;refine tQ.mk h hr λH1 v y q E1 r1=>⟨_,e1,tQ.mk (h.same E1) q λH2 w z q E2 r2=>?_⟩;have r1:=r1.same (bF E2)
 revert r2 q
 generalize frz z=t;intro q r2;cases t<;>try exact q.elim
 cases r2;obtain⟨n,en,q⟩:=q;have dq:=E1.trans E2;refine⟨l,xs,_,n,rfl,rfl,dq _ _ e3,by rw[r.len];exact en,?_⟩;obtain⟨h',S⟩:=(h.same dq).chg1 (Gz es) e1 e2 sl (bD.set r1 n (r.same (bF dq)));exact L.nx own _ σ _ q ((bF dq).trans S) h'
def aaT(i:Nat)(b:RE):RE:=λo q=>onL (slot o i) λts _=>b o λy=>(match frz y with|.int j=>∃t,ixT ts j=some t/\q (.fz t)|_=>False)
theorem Lh(i:Nat){x:Str}{p:Pos}{b:Expr}{rb:RE}(hb:QE X b rb)(hN:X.N[i]?=some x:=by rfl)(hv:lR X.env.scope x=true:=by rfl)(aw:qq x:=by decide)
 (a9:qk x:=by decide)(hs:um b:=by exact λ_ _=>rfl):QE X (.Subscript (.Name x p) b pos) (aaT i rb):=(R5 HY (pv i hN hv aw a9) hb hs).imp λσ H Q hP=>by
 obtain⟨own,o,R,h,hr,k⟩:=hP;obtain⟨ts,c,hr,es⟩:=zj hr;obtain⟨a,xs,e1,e2,e3,r,sl⟩:=h.l1 es;refine⟨_,e1,tQ.mk h hr λH1 v y q E1 r1=>?_⟩
 revert r1 q
 generalize frz y=t;intro q r1;cases t<;>try exact q.elim
 cases r1;obtain⟨t,j,q⟩:=q;obtain⟨v,e',r'⟩:=r.ix j;exact⟨a,xs,_,v,rfl,rfl,.of (E1 _ _ e3),e',k H1 _ _ q E1 (NR.fz (r'.same (bF E1)))⟩
def rK(n:Nat)(own ae:zz)(σ σ':L2.St):Prop:=(∀j,ae j=own j\/(j<n/\ae j=[]))/\σ'.length=σ.length/\∀j,n<=j->σ'[j]?=σ[j]?
theorem rK.refl{n:Nat}{own:zz}{σ:L2.St} : rK n own own σ σ:=⟨λ_=>.inl rfl,rfl,λ_ _=>rfl⟩
theorem rK.trans{n:Nat}{own own1 az:zz}{σ σ1 σ2:L2.St}(a:rK n own own1 σ σ1)(b:rK n own1 az σ1 σ2):rK n own az σ σ2 :=
 ⟨λj=>(b.1 j).elim (λe=>(a.1 j).imp (λz=>e.trans z) λz=>⟨z.1,e.trans z.2⟩) .inr,b.2.1.trans a.2.1,λj hj=>(b.2.2 j hj).trans (a.2.2 j hj)⟩
theorem rK.same{n:Nat}{own ae:zz}{σ σ':L2.St}(a:rK n own ae σ σ'){H:Hp} : Same (hd (Ow own) H) (hd (Ow ae) H):=f9 (λb hP=>by obtain⟨j,z⟩:=hP;exact .inl ⟨j,(a.1 j).elim (λe=>e ▸ z) λe=>by rw[e.2]at z;cases z⟩) λ_ _ z=>z
abbrev qB:Type:=T->List OT->(List OT->Prop)->Prop
def tQG(K:Frag)(n:Nat)(g:qB):TG:=λv σ H Q=>∃own o t R,SR K own H σ o/\Rep K (hd (Ow own) H) v t/\g t o R/\∀ae σ' o',R o'->rK n own ae σ σ'->SR K ae H σ' o'->Q σ' H
def QG(X:Cx)(n:Nat)(tg:Expr)(g:qB):Prop:=PG X tg (tQG X.K n g)
abbrev qE:Type:=List T->List OT->(List OT->Prop)->Prop
def QGs(X:Cx)(n:Nat)(tg:List Expr)(g:qE):Prop:=PGs X tg λv σ H Q=>∃own o t R,SR X.K own H σ o/\bD X.K (hd (Ow own) H) v t/\g t o R/\∀ae σ' o',R o'->rK n own ae σ σ'->SR X.K ae H σ' o'->Q σ' H
theorem PGs.imp{tg:List Expr}{t t':TGs}(h:PGs X tg t)(i:∀v σ H Q,t' v σ H Q->t v σ H Q):PGs X tg t':=λaa s σ H v u Q I r q=>h aa s σ H v u Q I r (i _ _ _ _ q)
def hName(i:Nat):qB:=λt o q=>q (o.set i (.fz t))
def aat:qE:=λts o q=>match ts with|[]=>q o|_=>False
def Zc(g:qB)(gs:qE):qE:=λts o q=>match ts with|t::ts=>g t o λo'=>gs ts o' q|_=>False
def aaO(n:Nat)(gs:qE):qB:=λt o q=>match t with|.tup ts=>ts.length=n/\gs ts o q|_=>False
theorem SR.setF{K:Frag}{own:zz}{H:Hp}{σ:L2.St}{o:List OT}(h:SR K own H σ o){v:V}{t:T}(r:Rep K (hd (Ow own) H) v t){n i:Nat}(hi:i<n):∃ae,SR K ae H (σ.set i (some v)) (o.set i (.fz t))/\rK n own ae σ (σ.set i (some v)):=by
 have le:Same (hd (Ow own) H) (hd (Ow (own1 own i [])) H):=f9 (λb z=>.inl (z.of1.elim id λy=>(nomatch y))) λ_ _ z=>z;have go:rK n own (own1 own i []) σ (σ.set i (some v)):=⟨λj=>by
  by_cases z:j=i
  .exact .inr ⟨z ▸ hi,by rw[z,dX]⟩
  .exact .inl (cL z),X9,λj hj=>WV (by lia)⟩
 by_cases hl:i<o.length
 .refine⟨own1 own i [],⟨by rw[X9,X9,h.len],λj y e=>?_,λj hj a ha=>?_,λj k a e1 e2=>?_⟩,go⟩
  .by_cases z:j=i
   .subst z;rw[WU hl]at e;cases e;rw[dX,WU (h.len ▸ hl)];exact⟨rfl,v,rfl,r.same le⟩
   .rw[WV (Ne.symm z)]at e;rw[cL z,WV (Ne.symm z)];exact(h.sl j y e).same le λ_ _ z=>z
  .rw[X9]at hj;rw[cL (by lia)]at ha;exact h.out j hj a ha
  .by_cases z:j=i
   .rw[z,dX]at e1;cases e1
   by_cases y:k=i
   .rw[y,dX]at e2;cases e2
   .rw[cL z]at e1;rw[cL y]at e2;exact h.dis j k a e1 e2
 .refine⟨own,?_,⟨λ_=>.inl rfl,go.2⟩⟩;rw[UX (Nat.not_lt.mp hl),UX (h.len ▸ Nat.not_lt.mp hl)];exact h
theorem bQ{n:Nat}(i:Nat){x:Str}(hN:X.N.Nodup:=by assumption)(hx:Loc X.env.scope x:=by first|exact .inl rfl|exact .inr rfl)(hi:X.N[i]?=some x:=by rfl)(hn:i<n:=by decide)(hf:qr X x:=by first|exact .inl rfl|exact .inr rfl|assumption):QG X n (.Name x pos) (hName i):=(uD hN hi hx hf).imp λv σ H Q hP=>by
 obtain⟨own,o,t,R,h,r,hg,k⟩:=hP;obtain⟨ae,h',S⟩:=h.setF r hn;exact k ae _ _ hg S h'
theorem dU{n:Nat} : QGs X n [] aat:=O_.imp λv σ H Q hP=>by
 obtain⟨own,o,t,R,h,r,hg,k⟩:=hP;cases r with
 |nil=>exact⟨rfl,k own σ o hg .refl h⟩
 |cons _ _=>exact hg.elim
theorem bN{n:Nat}{e:Expr}{es:List Expr}{g:qB}{gs:qE}(h1:QG X n e g)(h2:QGs X n es gs)(hs:(assignEach (e::es) X.env).map (·.2)=assign e X.env::(assignEach es X.env).map (·.2):=by rfl):QGs X n (e::es) (Zc g gs):=(K3 h1 h2 hs).imp λv σ H Q hP=>by
 obtain⟨own,o,t,R,h,r,hg,k⟩:=hP;cases r with
 |nil=>exact hg.elim
 |cons a b=>exact⟨_,_,rfl,own,o,_,_,h,a,hg,λae σ' o' q S h'=>⟨ae,o',_,R,h',b.same S.same,q,λaz σ2 o2 q S2 h2=>k az σ2 o2 q (S.trans S2) h2⟩⟩
theorem gP{m:Nat}{es:List Expr}{k:Nat}{gs:qE}{n:Nat}(h:QGs X m es gs)(hc:X.calm=true:=by rfl)(hn:(assignEach es X.env).length=n:=by rfl)(be:zw X es:=by rfl):QG X m (.Tuple es k pos) (aaO n gs):=(T8 hc h hn be).imp λv σ H Q hP=>by
 obtain⟨own,o,t,R,h,r,hg,k⟩:=hP;cases t<;>try exact hg.elim
 obtain⟨a,xs,rfl,e,r⟩:=r.tupI;exact⟨a,xs,rfl,cu.tup e,r.len.trans hg.1,own,o,_,R,h,r,hg.2,k⟩
def aaL(a:RE)(g:qB):RS:=λE o=>a o λx=>g (frz x) o E.nx
theorem A_{n:Nat}{tg:Expr}{g:qB}(he:QE X e re)(hg:QG X n tg g)(hs:swapsWithSole [tg] e pos.line X.env=pure false:=by rfl)(hw:swappedStores [tg] e X.env=pure none:=by rfl)(h1:(assignEach [tg] X.env).map (·.2)=[assign tg X.env]:=by rfl):QS X (.Assign [tg] e pos) (aaL re g) :=
 (KZ he hg hs hw h1).imp λD σ H hP=>by obtain⟨own,o,E,h,hr,L⟩:=hP;exact tQ.mk h hr λH1 v y q E1 r1=>⟨own,o,_,_,h.same E1,r1,q,λae σ' o' q S h'=>L.nx ae H1 σ' o' q ((bF E1).trans S.same) h'⟩
end
section
variable{P:Program}{w:World}{K:Frag}{mg:Str->Ψ}{base:Heap}
def start'(n:Nat)(ts:List T):List OT:=ts.map OT.fz++List.replicate (n-ts.length) .und
theorem SR.start{H:Hp}{vs:Β}{ts:List T}(r:bD K H vs ts)(N:Θ):SR K (λ_=>[]) H (start N vs) (start' N.length ts):=by
 have e0:Ow (λ_=>[])=λ_=>False:=funext λb=>propext ⟨λhP=>by obtain⟨_,z⟩:=hP;exact(nomatch z),False.elim⟩;refine⟨by unfold start' L2.start;simp[r.len],λi x e=>?_,λ_ _ _ z=>(nomatch z),λi j a z=>(nomatch z)⟩;rw[e0,HW];unfold start' at e;unfold L2.start;by_cases hi:i<ts.length
 .rw[aC (by simpa using hi),aq,aj hi]at e;cases e;obtain⟨v,e1,r1⟩:=r.at_ (aj hi);rw[aC (by rw[ak,r.len];exact hi),aq,e1];exact⟨rfl,v,rfl,r1⟩
 .rw[aB (by simpa using hi),ak,XX]at e;by_cases hj:i-ts.length<N.length-ts.length
  .rw[ZY hj]at e;cases e;rfl
  .rw[ZZ hj]at e;cases e
theorem Ip{H:Hp} : hd (Ow λ_=>[]) H=H:=by rw[show Ow (λ_=>[])=λ_=>False from funext λb=>propext ⟨λhP=>by obtain⟨_,z⟩:=hP;exact(nomatch z),False.elim⟩,HW]
theorem LR{H:Hp}{Q:VK}{R:OT->Prop}(q:∀H' v x,R x->Same H H'->NR K (λ_=>False) H H' v x->Q v H')(S:Addr->Prop)(H':Hp)(v:V)(x:OT)(B:Φ)(rx:R x)(E:Same H (hd S H'))(s:Slo K (hd S H') H' (some v) B x)(hB:∀a∈B,S a):Q v H' :=
 q H' v x rx (E.trans cu) ⟨B,λa ha=>E.free (jK (hB a ha)),s.same (f9 (λb z=>.inl (z.elim False.elim (hB b))) λ_ _ z=>z) λ_ _ z=>z⟩
theorem Fun.okT{x ac:Str}{st:Stmt}{f:Addr}{fd:FuncData}{N ps:Θ}{k:Nat}{S:ST}(F:Fun K x ac st f fd)(sc:bG N ps (bw st))
 (a6:∀(af:Value)(A:Around)(outer:List Env)(s:Shared)(H:Hp)(E:XK),cA k (A.deeper (envOfC ac (bw st) s.heap.objs.size f af))->N.Nodup ->
   ∃r,QSs (n_ CX0 P w K mg base N ac (bw st) f af A outer s H E).nox (cR st) r/\∀ts R,S ts R->r { nx:=λ_=>R (.fz .non),rt:=R } (start' N.length ts))(len:∀ts R,S ts R->ts.length=ps.length:=by intro _ _ h;repeat (first|exact(ZH List.length h.1).trans rfl|obtain⟨_,h⟩:=h)):cH P w K mg base CX0 (k+1) f fd ps (spT K S):=by
 refine F.ok sc (λvs H Q E h=>?_) λaf A outer s H vs Q E hr h=>?_
 .obtain⟨ts,R,r,hS,_⟩:=h;exact r.len.trans (len ts R hS)
 .obtain⟨ts,R,r,hS,q⟩:=h;obtain⟨rd,h1,h2⟩:=a6 af A outer s H E hr sc.nd;have e0:=Ip (H:=H);have am:=LR q;refine⟨_,h1,λ_=>[],_,_,SR.start r N,h2 ts R hS,⟨λown H' σ o rx E h=>?_,λS' H' v x B rx E s hB=>am S' H' v x B rx (e0 ▸ E) s hB,λ_ _ _ _ z=>z.elim,λ_ _ _ _ z=>z.elim,λ_ _ _ _ _ _ z=>z.elim⟩⟩;exact am (Ow own) H' .non _ [] rx (e0 ▸ E) ⟨rfl,_,rfl,.non⟩ λ_ z=>(nomatch z)
end
end L2

namespace L2
open PySem PySem.Spec PyProof.Rows
abbrev RI:=List OT->(List T->Prop)->Prop
def Wlk(K:Frag)(J:It)(F:Hp)(xs:List T):Prop:=∀(S:Addr->Prop)(H:Hp)(i:Nat),(∀b,S b->H b≠none)->Same F (hd S H) ->
 (i=xs.length->J.stop i H)/\∀t,xs[i]?=some t->J.go i H/\∀x H',J.yld i H x H'->Same H H'/\Rep K (hd S H') x t
def tQI(K:Frag)(r:RI):TI:=λσ H Q=>∃own o R,SR K own H σ o/\r o R/\∀H' J xs,R xs->Same H H'->Wlk K J (hd (Ow own) H') xs->Q J H'
def QI(X:Cx)(tg it:Expr)(r:RI):Prop:=PI X tg it (tQI X.K r)
theorem PI.imp{X:Cx}{tg it:Expr}{t t':TI}(h:PI X tg it t)(i:∀σ H Q,t' σ H Q->t σ H Q):PI X tg it t':=λaa s σ H Q I q=>h aa s σ H Q I (i σ H Q q)
def aaZ(a:RE):RI:=λo q=>a o λx=>match frz x with|.lst ts=>q ts|_=>False
section
variable{X:Cx}{tg:Expr}{e a b:Expr}{re ra rb:RE}{p pos a7:Pos}
theorem c7(he:QE X e re):QI X tg e (aaZ re):=(QM he).imp λσ H Q ⟨own,o,R,h,hr,k⟩=>tQ.mk h hr λH1 v x q E1 r1=>by
 revert r1 q
 generalize frz x=t;intro q r1;cases t<;>try exact q.elim
 obtain⟨a,xs,rfl,e,r⟩:=r1.lstI;refine⟨a,rfl,⟨xs,.of (cF e).2⟩,k H1 _ _ q E1 λS H2 i _ SF=>⟨λhi=>⟨xs,.of (cF (SF _ _ e)).2,by rw[r.len];exact Wp hi.symm⟩,λt ht=>?_⟩⟩;obtain⟨y,ey,ry⟩:=r.at_ ht;refine⟨⟨xs,y,.of (cF (SF _ _ e)).2,ey⟩,?_⟩;rintro x H3 ⟨rfl,hx⟩;have:=hx xs (.of (cF (SF _ _ e)).2);rw[ey]at this;cases this;exact⟨.refl _,ry.same SF⟩
def rng(lo:Int)(n:Nat):List T:=(List.range n).map λk:Nat=>.int (lo+k)
theorem G7{K:Frag}{lo:Int}{n:Nat}{F:Hp} : Wlk K (Itr lo n) F (rng lo n):=λS H i _ _=>⟨λhi=>by rw[rng,ak,X2]at hi;exact Wp hi.symm,λt ht=>by
 unfold rng at ht;rw[aq]at ht;by_cases hi:i<n
 .rw[W1 hi]at ht;cases ht;refine⟨hi,?_⟩;rintro x H' ⟨rfl,rfl⟩;exact⟨.refl _,.int _⟩
 .rw[UZ (by simpa using hi)]at ht;cases ht⟩
def aa3(r:RA):RI:=λo q=>r o λts=>match ts with|[.int j]=>(-(2^62)<=j/\j<2^62)/\q (rng 0 j.toNat)|_=>False
def aar(r:RA):RI:=λo q=>r o λts=>match ts with|[.int i,.int j]=>(-(2^62)<=i/\i<2^62/\-(2^62)<=j/\j<2^62)/\q (rng i (j-i).toNat)|_=>False
theorem h_{r:RA}(hm:X.mg "range"=none)(ha:QA X [a] r)(hg:Gl X "range":=by rfl)(hs:starEach [a] X.env=[(false,eval a X.env)]:=by rfl):QI X tg (.Call (.Name "range" p) [a] [] pos) (aa3 r):=(JG hg hm ha hs).imp λσ H Q ⟨own,o,R,h,hr,k⟩=>⟨own,o,_,h,hr,λH1 vs ts q _ E1 r1=>by
 rcases ts with _|⟨t1,l⟩
 .exact q.elim
 obtain⟨j,rfl⟩ : ∃j,t1=.int j:=by
  cases t1 with
  |int j=>exact⟨j,rfl⟩
  |_=>exact q.elim
 rcases l with _|⟨t2,l⟩<;>try exact q.elim
 obtain⟨x,rfl,rx⟩:=r1.one;cases rx;exact⟨j,rfl,q.1.1,q.1.2,k H1 _ _ q.2 E1 G7⟩⟩
theorem Jg{r:RA}(hm:X.mg "range"=none)(ha:QA X [a,b] r)(hg:Gl X "range":=by rfl)(hs:starEach [a,b] X.env=[(false,eval a X.env),(false,eval b X.env)]:=by rfl)(eS:starEach [b] X.env=[(false,eval b X.env)]:=by rfl):QI X tg (.Call (.Name "range" p) [a,b] [] pos) (aar r):=(Jr hg hm ha hs eS).imp λσ H Q ⟨own,o,R,h,hr,k⟩=>⟨own,o,_,h,hr,λH1 vs ts q _ E1 r1=>by
 rcases ts with _|⟨t1,l⟩
 .exact q.elim
 obtain⟨i,rfl⟩ : ∃j,t1=.int j:=by
  cases t1 with
  |int j=>exact⟨j,rfl⟩
  |_=>exact q.elim
 rcases l with _|⟨t2,l⟩<;>try exact q.elim
 obtain⟨j,rfl⟩ : ∃j,t2=.int j:=by
  cases t2 with
  |int j=>exact⟨j,rfl⟩
  |_=>exact q.elim
 rcases l with _|⟨t3,l⟩<;>try exact q.elim
 obtain⟨x,y,rfl,rx,ry⟩:=r1.two;cases rx;cases ry;exact⟨i,j,rfl,q.1,k H1 _ _ q.2 E1 G7⟩⟩
def sU(g:qB)(b:RS)(E:DT):List T->List OT->Prop
 |[],o=>E.nx o
 |t::ts,o=>∃N:List OT->Prop,(∀o,N o->sU g b E ts o)/\g t o λo'=>b { E with nx:=N,ct:=N,bk:=E.nx } o'
def aay(it:RI)(g:qB)(b:RS):RS:=λE o=>it o λxs=>sU g b E xs o
theorem fP{n:Nat}{iter:Expr}{bi:List Stmt}{ri:RI}{g:qB}{rb:RS}(hi:QI X tg iter ri)(hg:QG X n tg g)(hb:QSs X bi rb)(hc:X.calm=true:=by rfl)(hp:PassesOwn (model X.prog X.w) X.A X.env X.xe:=by first|exact PassesOwn.never|exact PassesOwn.leaving)
 (hs:qi X iter:=by intro _;rfl):QS X (.For tg iter bi [] pos) (aay ri g rb):=(Te hp hc hi hg hb hs).imp λD σ H ⟨own,o,E,h,hr,L⟩=>⟨own,o,_,h,hr,λH1 J xs q E1 wk=>by
 refine⟨λi m σ' H'=>∃ae o',SR X.K ae H' σ' o'/\Same (hd (Ow own) H1) (hd (Ow ae) H')/\sU g rb E (xs.drop i) o'/\i<=xs.length/\m=xs.length-i,⟨_,own,o,h.same E1,.refl _,q,aV _,rfl⟩,?_⟩;rintro i m σ' H' ⟨ae,o',h',S',hl,il,rfl⟩;obtain⟨w1,w2⟩:=wk (Ow ae) H' i (λb z=>(h'.sole z).ne) S';have S0:=(bF E1).trans S';by_cases hi:i<xs.length
 .right;obtain⟨go,yl⟩:=w2 _ (aj hi);rw[UR hi]at hl;obtain⟨N,hN,hl⟩:=hl;refine⟨go,λσ2 H2=>∃az o2,SR X.K az H2 σ2 o2/\Same (hd (Ow own) H1) (hd (Ow az) H2)/\sU g rb E (xs.drop (i+1)) o2,λσ2 H2 ⟨az,o2,a,b,c⟩=>⟨xs.length-(i+1),by omega,az,o2,a,b,c,hi,rfl⟩,λx H2 y=>?_⟩;obtain⟨E2,rx⟩:=yl x H2 y;refine⟨ae,o',_,_,h'.same E2,rx,hl,λgc σ3 o3 q3 km h3=>⟨gc,o3,_,h3,q3,?_⟩⟩;have S3:=S'.trans ((bF (S:=Ow ae) E2).trans km.same);have L3:=L.step ((bF E1).trans S3);exact⟨λbP H4 σ4 o4 q S h=>⟨bP,o4,h,S3.trans S,hN _ q⟩,L3.rt,λbP H4 σ4 o4 q S h=>L3.nx bP H4 σ4 o4 q S h,λbP H4 σ4 o4 q S h=>⟨bP,o4,h,S3.trans S,hN _ q⟩,L3.xc⟩
 .left;refine⟨w1 (by lia),?_⟩;rw[UP (Nat.not_lt.mp hi)]at hl;exact L.nx ae H' σ' o' hl S0 h'⟩
def SM(c:RT)(b:RS):RS:=λE o=>∃W:Nat->List OT->Prop,(∃m,W m o)/\∀m o,W m o->c o λk=>sw k (∃N:List OT->Prop,(∀o',N o'->∃m',m'<m/\W m' o')/\b { E with nx:=N,ct:=N,bk:=E.nx } o) (E.nx o)
theorem BX{c:Expr}{bi:List Stmt}{rc:RT}{rb:RS}(hc:QT X c rc)(hb:QSs X bi rb)(hp:PassesOwn (model X.prog X.w) X.A X.env X.xe:=by first|exact PassesOwn.never|exact PassesOwn.leaving):QS X (.While c bi [] pos) (SM rc rb):=(Mj hp hc hb).imp λD σ H hP=>by
 obtain⟨own,o,E,h,hr,L⟩:=hP;obtain⟨W,⟨m0,w0⟩,st⟩:=hr;refine⟨λm σ' H'=>∃ae o',SR X.K ae H' σ' o'/\Same (hd (Ow own) H) (hd (Ow ae) H')/\W m o',⟨m0,own,o,h,.refl _,w0⟩,?_⟩;rintro m σ' H' ⟨ae,o',h',S',wm⟩;refine tQT.mk h' (st m o' wm) λH1 k q E1=>yP q (λhP=>?_) λq=>L.nx ae H1 σ' o' q (S'.trans (bF E1)) (h'.same E1);obtain⟨N,hN,q⟩:=hP;have S1:=S'.trans (bF E1);have L1:=L.step S1;refine⟨λσ2 H2=>∃az o2,SR X.K az H2 σ2 o2/\Same (hd (Ow own) H) (hd (Ow az) H2)/\N o2,λσ2 H2 hP=>?_,ae,o',_,h'.same E1,q,⟨λbP H4 σ4 o4 q S h=>⟨bP,o4,h,S1.trans S,q⟩,L1.rt,λbP H4 σ4 o4 q S h=>L1.nx bP H4 σ4 o4 q S h,λbP H4 σ4 o4 q S h=>⟨bP,o4,h,S1.trans S,q⟩,L1.xc⟩⟩;obtain⟨az,o2,a,b,c⟩:=hP;obtain⟨m',lt,w⟩:=hN o2 c;exact⟨m',lt,az,o2,a,b,w⟩
end
def jD(g:qB)(c:RT)(e:RE)(o:List OT):List T->(List T->Prop)->Prop
 |[],q=>q []
 |t::ts,q=>∃(N:T->Prop)(M:Prop),(∀y,N y->jD g c e o ts λus=>q (y::us))/\(M->jD g c e o ts q)/\g t o λo'=>c o' λb=>sw b (e o' λy=>N (frz y)) M
def Nj:RT:=λ_ q=>q true
def Uc(it:RI)(n:Nat)(g:qB)(c:RT)(e:RE):RE:=λo q=>it o λxs=>xs.length<=sizeLine/\jD g c e (List.replicate n .und++o) xs λus=>q (.l1 us)
def ownL2(n L:Nat)(own:zz)(A:Φ):zz:=λi=>if i<n then[]else if i<n+L then own (i-n)else if i=n+L then A else own (i-n-1)
theorem Ow.ownL2{n L:Nat}{own:zz}{A:Φ}{b:Addr} : Ow (ownL2 n L own A) b↔Ow own b\/b∈A:=by
 constructor
 .rintro⟨i,z⟩;unfold L2.ownL2 at z;by_cases h1:i<n
  .rw[ZY h1]at z;cases z
  rw[ZZ h1]at z;by_cases h2:i<n+L
  .rw[ZY h2]at z;exact .inl ⟨_,z⟩
  rw[ZZ h2]at z;by_cases h3:i=n+L
  .rw[ZY h3]at z;exact .inr z
  .rw[ZZ h3]at z;exact .inl ⟨_,z⟩
 .rintro(⟨i,z⟩|z)
  .by_cases h:i<L
   .exact⟨n+i,by unfold L2.ownL2;rw[ZZ (VQ (XV _ _)),ZY (Nat.add_lt_add_left h _),show n+i-n=i by exact VU _ _];exact z⟩
   .exact⟨n+i+1,by unfold L2.ownL2;rw[ZZ (by lia),ZZ (by lia),ZZ (by lia),show n+i+1-n-1=i by lia];exact z⟩
  .exact⟨n+L,by unfold L2.ownL2;rw[ZZ (VQ (XV _ _)),ZZ (XU _),ZY rfl];exact z⟩
theorem SR.blockL{K:Frag}{own:zz}{H:Hp}{σ:L2.St}{o:List OT}(h:SR K own H σ o){A:Φ}{H':Hp}(E:Same H H')(nA:∀a∈A,H a=none)(eA:∀a∈A,∃ys,H' a=some (.lst ys))(pre:L2.St):SR K (ownL2 pre.length o.length own A) H' (pre++σ) (List.replicate pre.length .und++o):=by
 have le:Same (hd (Ow own) H) (hd (Ow (ownL2 pre.length o.length own A)) H'):=f9 (λb z=>(Ow.ownL2.mp z).imp id (nA b)) E;have kb:∀j,∀a∈A,a∉own j:=λj a ha z=>(h.sole ⟨j,z⟩).ne (nA a ha);refine⟨by simp[h.len],λi x e=>?_,λi hi a ha=>?_,λi j a e1 e2=>?_⟩
 .by_cases h1:i<pre.length
  .rw[aC (by simpa using h1),XX,ZY h1]at e;cases e;show ownL2 _ _ _ _ i=[];unfold ownL2;rw[ZY h1]
  .rw[aB (by simpa using h1),aK]at e;have h2:i-pre.length<o.length:=(ao.mp e).1;rw[aB (Nat.not_lt.mp h1)];have:ownL2 pre.length o.length own A i=own (i-pre.length):=by unfold ownL2;rw[ZZ h1,ZY (by omega)]
   rw[this];exact(h.sl _ x e).same le E
 .rw[au,aK]at hi;unfold ownL2 at ha;rw[ZZ (by lia),ZZ (VQ hi)]at ha;by_cases h3:i=pre.length+o.length
  .rw[ZY h3]at ha;exact eA a ha
  .rw[ZZ h3]at ha;obtain⟨xs,e⟩:=h.out _ (by lia) a ha;exact⟨xs,E _ _ e⟩
 .unfold ownL2 at e1 e2;by_cases a1:i<pre.length
  .rw[ZY a1]at e1;cases e1
  by_cases b1:j<pre.length
  .rw[ZY b1]at e2;cases e2
  rw[ZZ a1]at e1;rw[ZZ b1]at e2;by_cases a2:i<pre.length+o.length<;>by_cases b2:j<pre.length+o.length
  .rw[ZY a2]at e1;rw[ZY b2]at e2;have:=h.dis _ _ a e1 e2;omega
  .rw[ZY a2]at e1;rw[ZZ b2]at e2;by_cases b3:j=pre.length+o.length
   .rw[ZY b3]at e2;exact absurd e1 (kb _ a e2)
   .rw[ZZ b3]at e2;have:=h.dis _ _ a e1 e2;omega
  .rw[ZZ a2]at e1;rw[ZY b2]at e2;by_cases a3:i=pre.length+o.length
   .rw[ZY a3]at e1;exact absurd e2 (kb _ a e1)
   .rw[ZZ a3]at e1;have:=h.dis _ _ a e1 e2;lia
  .rw[ZZ a2]at e1;rw[ZZ b2]at e2;by_cases a3:i=pre.length+o.length<;>by_cases b3:j=pre.length+o.length
   .exact Eq.trans a3 (Eq.symm b3)
   .rw[ZY a3]at e1;rw[ZZ b3]at e2;exact absurd e2 (kb _ a e1)
   .rw[ZZ a3]at e1;rw[ZY b3]at e2;exact absurd e1 (kb _ a e2)
   .rw[ZZ a3]at e1;rw[ZZ b3]at e2;have:=h.dis _ _ a e1 e2;lia
def ownS(n L:Nat)(own:zz)(D:Addr):zz:=ownL2 n L own [D]
theorem Ow.ownS{n L:Nat}{own:zz}{D b:Addr} : Ow (ownS n L own D) b↔Ow own b\/b=D:=Ow.ownL2.trans (or_congr_right YR)
theorem SR.block{K:Frag}{own:zz}{H:Hp}{σ:L2.St}{o:List OT}(h:SR K own H σ o){D:Addr}{ys:Β}{H':Hp}(E:Same H H')(nD:H D=none)(eD:H' D=some (.lst ys))(pre:L2.St):SR K (ownS pre.length o.length own D) H' (pre++σ) (List.replicate pre.length .und++o):=h.blockL E (λa z=>YR.mp z ▸ nD) (λa z=>YR.mp z ▸ ⟨_,eD⟩) pre
theorem Ma{n:Nat}{own ae:zz}{pre σ σ':L2.St}(hp:pre.length=n)(g:rK n own ae (pre++σ) σ'):∃bt:L2.St,bt.length=n/\σ'=bt++σ:=by
 obtain⟨_,l,k⟩:=g;refine⟨σ'.take n,by rw[aU,l,au];lia,?_⟩;refine List.ext_getElem? λi=>?_;by_cases hi:i<n
 .rw[aC (by rw[aU,l,au];lia),List.getElem?_take_of_lt hi]
 .rw[aB (by rw[aU,l,au];lia),k i (WH hi),aB (by lia),aU,l,au]
  congr 1
  lia
theorem yg{te:TE}{K:Frag}{σ:L2.St}{Q:VK}{n:Nat}{g:qB}{rc:RT}{re:RE}{own:zz}{o:List OT}{H1:Hp}{J:It}{xs:List T}{R:OT->Prop}{D:Addr}(gh:∀az o2 σ2 H2 R,SR K az H2 σ2 o2->Same (hd (Ow own) H1) (hd (Ow az) H2)->re o2 R->∀Q:VK,(∀H' v x,R x->Same H2 H'->NR K (Ow az) H2 H' v x->Q v H')->te σ2 H2 Q)(h1:SR K own H1 σ o)(wk:Wlk K J (hd (Ow own) H1) xs)(lx:xs.length<=sizeLine)(q:jD g rc re (List.replicate n .und++o) xs λus=>R (.l1 us))(nD:H1 D=none)(k:∀H' v x,R x->Same H1 H'->NR K (Ow own) H1 H' v x->Q v H') :
  ∃W:Nat->Nat->Β->Hp->Prop,(∃m,W 0 m [] (upd H1 D (.lst [])))/\∀i m ys Hc,W i m ys Hc ->
   (J.stop i Hc/\Q (.ref D) Hc)\/(J.go i Hc/\∀x H',J.yld i Hc x H'->∀pre:L2.St,pre.length=n->tMG (tQG K n g) x (pre++σ) H' λσ2 H2=>∃bt:L2.St,bt.length=n/\σ2=bt++σ/\tMT (tQT K rc) σ2 H2 λb H3 =>
    match b with
    |true=>tM te σ2 H3 λy H4=>ys.length<sizeLine/\H4 D=some (.lst ys)/\∃m',m'<m/\W (i+1) m' (ys++[y]) (upd H4 D (.lst (ys++[y])))
    |false=>∃m',m'<m/\W (i+1) m' ys H3):=by
 generalize hO:List.replicate n OT.und++o=ob at q;refine⟨λi m ys Hc=>∃ts,Hc D=some (.lst ys)/\Same H1 Hc/\bD K (hd (λb=>Ow own b\/b=D) Hc) ys ts/\ys.length<=i/\i<=xs.length/\m=xs.length-i/\jD g rc re ob (xs.drop i) λus=>R (.l1 (ts++us)),⟨_,[],bK,Same.upd nD,.nil,aD _,aV _,rfl,q⟩,?_⟩;rintro i m ys Hc ⟨ts,eD,Ec,rs,il,ix,rfl,hl⟩;have hn:∀b,Ow own b\/b=D->Hc b≠none:=λb z=>z.elim (λz=>((h1.same Ec).sole z).ne) λe z=>by rw[e,eD]at z;cases z
 have SD:Same (hd (Ow own) H1) (hd (λb=>Ow own b\/b=D) Hc):=f9 (λb z=>z.imp id λ(e:b=D)=>e ▸ nD) Ec;obtain⟨w1,w2⟩:=wk (λb=>Ow own b\/b=D) Hc i hn SD;by_cases hi:i<xs.length
 .right;obtain⟨go,yl⟩:=w2 _ (aj hi);rw[UR hi]at hl;obtain⟨N,M,hN,hM,hl⟩:=hl;refine⟨go,λx H2 y pre hp=>?_⟩;obtain⟨E2,rx⟩:=yl x H2 y;have eO:(λb=>Ow own b\/b=D)=Ow (ownS n o.length own D):=funext λb=>propext Ow.ownS.symm;have hb:SR K (ownS n o.length own D) H2 (pre++σ) ob:=by
   have:=h1.block (Ec.trans E2) nD (E2 _ _ eD) pre;rw[hp,hO]at this;exact this
  rw[eO]at rx rs;refine⟨_,⟨ownS n o.length own D,ob,_,_,hb,rx,hl,λgc σ3 o3 q3 km h3=>?_⟩,λ_ _ z=>z⟩;obtain⟨bt,eT,rfl⟩:=Ma hp km;have e3:gc=ownS n o.length own D:=funext λj=>by
   rcases km.1 j with e|⟨e1,e2⟩
   .exact e
   .rw[e2];exact(ZY e1).symm
  subst e3;refine⟨bt,eT,rfl,_,tQT.mk h3 q3 λH3 b q4 E3=>?_,λ_ _ z=>z⟩;have q4:sw b (re o3 λy=>N (frz y)) M:=q4;cases b with
  |false=>exact⟨xs.length-(i+1),by lia,ts,E3 _ _ (E2 _ _ eD),Ec.trans (E2.trans E3),by rw[eO];exact rs.same (bF (E2.trans E3)),by exact aJ il (XV _ _),by exact hi,rfl,hM q4⟩
  |true =>
   refine⟨_,gh _ _ _ _ _ (h3.same E3) (eO ▸ SD.trans (bF (E2.trans E3))) q4 _ λH4 v y q5 E4 r4=>⟨by lia,E4 _ _ (E3 _ _ (E2 _ _ eD)),xs.length-(i+1),by lia,ts++[frz y],bK,λb u e=>?_,?_,by rw[au,List.length_singleton];exact Nat.succ_le_succ il,by exact hi,rfl,?_⟩,λ_ _ z=>z⟩
   .rw[bJ λz=>by rw[z,nD]at e;cases e];exact E4 _ _ (E3 _ _ (E2 _ _ (Ec _ _ e)))
   .rw[rM (S:=λb=>Ow own b\/b=D) (.inr rfl),eO];exact(rs.same (bF (E2.trans (E3.trans E4)))).app (.cons (r4.rep λb z=>((h3.same E3).sole z).ne) .nil)
   .have:=hN _ q5;simp only[XG,List.singleton_append];exact this
 .left;have:i=xs.length:=by lia
  refine⟨w1 this,?_⟩;rw[UP (WH hi)]at hl;have hl:R (.l1 (ts++[])):=hl;rw[List.append_nil]at hl;exact k Hc _ _ hl Ec (NR.l1 nD eD rs)
theorem Dd{K:Frag}{σ:L2.St}{Q:VK}{n:Nat}{g:qB}{rc:RT}{re:RE}{own:zz}{o:List OT}{H1:Hp}{J:It}{xs:List T}{R:OT->Prop}{D:Addr}(h1:SR K own H1 σ o)(wk:Wlk K J (hd (Ow own) H1) xs)(lx:xs.length<=sizeLine)(q:jD g rc re (List.replicate n .und++o) xs λus=>R (.l1 us))(nD:H1 D=none)(k:∀H' v x,R x->Same H1 H'->NR K (Ow own) H1 H' v x->Q v H') :
  ∃W:Nat->Nat->Β->Hp->Prop,(∃m,W 0 m [] (upd H1 D (.lst [])))/\∀i m ys Hc,W i m ys Hc ->
   (J.stop i Hc/\Q (.ref D) Hc)\/(J.go i Hc/\∀x H',J.yld i Hc x H'->∀pre:L2.St,pre.length=n->tMG (tQG K n g) x (pre++σ) H' λσ2 H2=>∃bt:L2.St,bt.length=n/\σ2=bt++σ/\tMT (tQT K rc) σ2 H2 λb H3 =>
    match b with
    |true=>tM (tQ K re) σ2 H3 λy H4=>ys.length<sizeLine/\H4 D=some (.lst ys)/\∃m',m'<m/\W (i+1) m' (ys++[y]) (upd H4 D (.lst (ys++[y])))
    |false=>∃m',m'<m/\W (i+1) m' ys H3):=yg (λaz o2 σ2 H2 R h _ q Q k=>⟨az,o2,R,h,q,k⟩) h1 wk lx q nD k
theorem Ny{K:Frag}{σ:L2.St}{H:Hp}{Q:VK}{ri:RI}{n:Nat}{g:qB}{rc:RT}{re:RE}(h:tQ K (Uc ri n g rc re) σ H Q):lJ (tQI K ri) n (tMG (tQG K n g)) (tMT (tQT K rc)) (tM (tQ K re)) σ H Q:=by
 obtain⟨own,o,R,h,hr,k⟩:=h;exact⟨own,o,_,h,hr,λH1 J xs q E1 wk D nD=>Dd (h.same E1) wk q.1 q.2 nD λH' v x rx E n=>k H' v x rx (E1.trans E) (n.back E1)⟩
section
variable{X:Cx}{tg iter a8:Expr}{aS:List Expr}{ri:RI}{g:qB}{rc:RT}{re:RE}{scope:Scope}{pos:Pos}
def QTs(X:Cx)(aS:List Expr)(r:RT):Prop:=PTs X aS (tQT X.K r)
theorem fH:QTs X [] Nj:=λaa s σ H Q I hP=>by obtain⟨own,o,R,h,hr,k⟩:=hP;exact Rj aa s σ H Q I (k H true hr (.refl _))
theorem GX{c:Expr}{rc:RT}(h:QT X c rc):QTs X [c] rc:=Qe h
theorem iG(sc:Scope)(N N' xs:Θ)(hi:QI X tg iter ri)(hg:∀{C s₀ H₀ ex pn},QG (X.compG N' scope xs C s₀ H₀ ex pn) xs.length tg g)(ht:∀{C s₀ H₀ ex pn},QTs (X.compG N' scope xs C s₀ H₀ ex pn) aS rc)(he:∀{C s₀ H₀ ex pn},QE (X.compG N' scope xs C s₀ H₀ ex pn) a8 re)
 (c0:X.env.scope=sc:=by rfl)(c9:X.N=N:=by rfl)(hc:X.calm=true:=by rfl)(hk:scope.kind=.function:=by rfl)(h:CK sc scope N N' xs:=by decide +kernel)(hs:qi X iter:=by intro _;rfl):QE X (.ListComp a8 [⟨tg,iter,aS,0⟩] scope pos) (Uc ri xs.length g rc re) :=
 (R3 (gt:=tQG X.K xs.length g) (tc:=tQT X.K rc) (te:=tQ X.K re) sc N N' xs hi hg ht he c0 c9 hc hk h hs).imp λ_ _ _=>Ny
theorem n6{N' xs:Θ}{C s₀ H₀ ex pn}{n i:Nat}{x:Str}{p:Pos}(hN:(xs++N').Nodup:=by decide +kernel)(hi:(xs++N')[i]?=some x:=by rfl)(hn:i<n:=by decide)(hx:Loc (X.compG N' scope xs C s₀ H₀ ex pn).env.scope x:=by exact Or.inl rfl)(hf:(X.compG N' scope xs C s₀ H₀ ex pn).fn x=true\/(X.compG N' scope xs C s₀ H₀ ex pn).env.scope.names.lookup x=some .local:=by exact Or.inr rfl):QG (X.compG N' scope xs C s₀ H₀ ex pn) n (.Name x p) (hName i):=bQ (i:=i) (hN:=hN) (hx:=hx) (hi:=hi) (hn:=hn) (hf:=hf)
end
end L2

namespace L2
open PySem PySem.Spec PyProof.Rows
section
variable{X:Cx}{a b e:Expr}{ra rb re:RE}{rt:RT}{pos:Pos}
theorem bD.reps{K:Frag}{F:Hp}{xs:Β}{ts:List T}(h:bD K F xs ts):∀n:Nat,bD K F (List.replicate n xs).flatten (List.replicate n ts).flatten
 |0=>.nil
 |n+1=>by rw[List.replicate_succ,List.replicate_succ,List.flatten_cons,List.flatten_cons];exact h.app (bD.reps h n)
theorem gA:GO X (binaryOp .Mult) aaP:=λaa s σ H x y v u Q I rx ry h=>by
 obtain⟨S,t,w,R,_,hx,hy,hg,k⟩:=h;cases w with
 |int j=>?_
 |_=>cases t<;>exact hg.elim
 cases hy;cases t<;>try exact hg.elim
 .cases hx;exact PN aa s σ H _ _ v u Q I rx ry ⟨_,_,rfl,rfl,hg.1,k H _ _ hg.2 (.refl _) (NR.fz (.int _))⟩
 .cases hx;obtain⟨c,rfl,h1,h2,q⟩:=hg;exact P_ aa s σ H _ _ v u Q I rx ry ⟨c,j,rfl,rfl,h1,h2,λz hz=>k H _ _ (q z hz) (.refl _) (NR.fz (.str _))⟩
 .obtain⟨p,xs,rfl,e,r⟩:=hx.lstI;obtain⟨⟨h1,h2,h3⟩,q⟩:=hg;exact Vd aa s σ H _ _ v u Q I rx ry ⟨p,j,xs,rfl,rfl,(cF e).2,h1,h2,by rw[r.len];exact h3,λa ha=>k _ _ _ (q _ rfl) (Same.upd ha) (mU (r.reps j.toNat) (Same.upd ha) ha bK)⟩
mutual
def ofD:PyData->T
 |.none=>.non
 |.bool b=>.bl b
 |.int i=>.int i
 |.str s=>.str s
 |.list ds=>.lst (GQ ds)
 |.tuple ds=>.tup (GQ ds)
 |.dict _=>.any
def GQ:List PyData->List T
 |[]=>[]
 |d::ds=>ofD d::GQ ds
end
mutual
theorem Rep.shows{K:Frag}{F:Hp} : ∀{x:V}{t:T},Rep K F x t->∀d,t=ofD d->d.canLay0=true->eY K F x d
 |_,_,.any v,d,e,s=>by cases d<;>cases e;cases s
 |_,_,.non,d,e,_=>by cases d<;>cases e;exact .non
 |_,_,.bl b,d,e,_=>by cases d<;>cases e;exact .bl _
 |_,_,.int i,d,e,_=>by cases d<;>cases e;exact .int _
 |_,_,.str s,d,e,_=>by cases d<;>cases e;exact .str _
 |_,_,.val v,d,e,_=>by cases d<;>cases e
 |_,_,.tup q h,d,e,s=>by
  cases d<;>cases e;exact .tup q (bD.shows h _ rfl s)
 |_,_,.lst q h,d,e,s=>by
  cases d<;>cases e;exact .lst q (bD.shows h _ rfl s)
 |_,_,.scr q h,d,e,_=>by cases d<;>cases e
 |_,_,.dct q l h,d,e,_=>by cases d<;>cases e
 |_,_,.ins q d' l h,d,e,_=>by cases d<;>cases e
 |_,_,.exc q d' l h,d,e,_=>by cases d<;>cases e
theorem bD.shows{K:Frag}{F:Hp} : ∀{xs:Β}{ts:List T},bD K F xs ts->∀ds,ts=GQ ds->PyData.canLayAll0 ds=true->dh K F xs ds
 |_,_,.nil,ds,e,_=>by cases ds<;>cases e;exact .nil
 |_,_,.cons a b,ds,e,s=>by
  cases ds<;>cases e;obtain⟨s1,s2⟩:=Bool.and_eq_true_iff.mp s;exact .cons (Rep.shows a _ rfl s1) (bD.shows b _ rfl s2)
end
def xr:Bool->Bool->Bool
 |false,b=>b
 |true,b=>!b
def eqS:T->T->Option Bool
 |.int i,.int j=>some (decide (i=j))
 |.str i,.str j=>some (decide (i=j))
 |.bl i,.bl j=>some (decide (i=j))
 |.non,.non=>some true
 |.non,.int _=>some false
 |.int _,.non=>some false
 |.non,.str _=>some false
 |.str _,.non=>some false
 |.int _,.str _=>some false
 |.str _,.int _=>some false
 |.tup [.int a,.int b],.tup [.int c,.int d]=>some (decide (a=c)&&decide (b=d))
 |_,_=>none
def gEq(neg:Bool)(t u:T)(q:OT->Prop):Prop:=match eqS t u with
 |some b=>q (.fz (.bl (xr neg b)))
 |none=>∃d e,t=ofD d/\u=ofD e/\SeqAt.shaped d=true/\SeqAt.shaped e=true/\q (.fz (.bl (xr neg (PyData.eqv d e))))
theorem Xx(a b c d:Int):PyData.eqv (.tuple [.int a,.int b]) (.tuple [.int c,.int d])=(decide (a=c)&&decide (b=d)):=by
 simp only[PyData.eqv,PyData.eqvAll,Bool.and_true]
 rfl
def sv:T->Option V
 |.non=>some .non
 |.bl b=>some (.bl b)
 |.int i=>some (.int i)
 |.str s=>some (.str s)
 |_=>none
theorem Rep.sca{K:Frag}{F:Hp}{x v:V}{t:T}(h:Rep K F x t)(e:sv t=some v):x=v:=by cases h<;>cases e<;>rfl
def EqC(t u:T)(b:Bool):Prop:=(∃v w,sv t=some v/\sv u=some w/\LQ v w=true/\decide (v=w)=b)\/∃i j k l,t=.tup [.int i,.int j]/\u=.tup [.int k,.int l]/\(decide (i=k)&&decide (j=l))=b
theorem Sy{t u:T}{b:Bool}(e:eqS t u=some b):EqC t u b:=by
  cases t with
  |tup t=>
   iterate 2
    obtain _|⟨r,t⟩:=t
    .cases e
    cases r<;>try (cases e;done)
   cases t with|cons=>cases e|nil=>
    cases u<;>try (cases e;done)
    rename_i u;iterate 2
     obtain _|⟨r,u⟩:=u
     .cases e
     cases r<;>try (cases e;done)
    cases u<;>cases e;exact .inr ⟨_,_,_,_,rfl,rfl,rfl⟩
  |_=>first|(cases e;done)|(cases u<;>cases e<;>exact .inl ⟨_,_,rfl,rfl,rfl,by simp⟩)
theorem Us{K:Frag}{F H:Hp}{x y:V}{t u:T}{b:Bool}(S:Same F H)(hx:Rep K F x t)(hy:Rep K F y u)(e:eqS t u=some b):(LQ x y=true/\decide (x=y)=b)\/∃d e,eY K H x d/\eY K H y e/\SeqAt.shaped d=true/\SeqAt.shaped e=true/\PyData.eqv d e=b:=by
 rcases Sy e with⟨_,_,p,q,r⟩|⟨_,_,_,_,rfl,rfl,r⟩
 .cases hx.sca p;cases hy.sca q;exact .inl r
 exact .inr ⟨.tuple [.int _,.int _],.tuple [.int _,.int _],(hx.shows _ rfl rfl).same S,(hy.shows _ rfl rfl).same S,rfl,rfl,(Xx _ _ _ _).trans r⟩
theorem K8(neg:Bool){op:CmpOp}(h1:OpR X (compareOp op) λx y H Q=>LQ x y=true/\Q (.bl (xr neg (decide (x=y)))) H)(h2:OpR X (compareOp op) (Vh X.K neg)):GO X (compareOp op) (gEq neg):=λaa s σ H x y v u Q I rx ry h=>by
 obtain⟨S,t,w,R,_,hx,hy,hg,k⟩:=h;have xe:∀b:Bool,(if neg then !b else b)=xr neg b:=λb=>by cases neg<;>rfl
 unfold gEq at hg;cases es:eqS t w with
 |some b =>
  rw[es]at hg;rcases Us cu hx hy es with⟨a,c⟩|⟨d,e,s1,s2,s3,s4,c⟩
  .exact h1 aa s σ H x y v u Q I rx ry ⟨a,by rw[c];exact k H _ _ hg (.refl _) (NR.fz (.bl _))⟩
  .exact h2 aa s σ H x y v u Q I rx ry ⟨d,e,s1,s2,s3,s4,by rw[xe,c];exact k H _ _ hg (.refl _) (NR.fz (.bl _))⟩
 |none =>
  rw[es]at hg;obtain⟨d,e,e1,e2,s1,s2,q⟩:=hg;exact h2 aa s σ H x y v u Q I rx ry ⟨d,e,(hx.shows d e1 (Bool.and_eq_true_iff.mp s1).1).same cu,(hy.shows e e2 (Bool.and_eq_true_iff.mp s2).1).same cu,s1,s2,by rw[xe];exact k H _ _ q (.refl _) (NR.fz (.bl _))⟩
theorem go_eq(hu:X.A.units+64<cLine):GO X (compareOp .Eq) (gEq false):=K8 false ZP (U3 hu)
theorem sJ(hu:X.A.units+64<cLine):GO X (compareOp .NotEq) (gEq true):=K8 true YH (Va hu)
def flat:OT->Prop
 |.fz (.int _)=>True
 |.fz (.bl _)=>True
 |.fz (.str _)=>True
 |.fz .non=>True
 |_=>False
def aa9(i:Nat)(a:RE):RE:=λo q=>match slot o i with|.und=>False|x=>a (o.set i (.fz (frz x))) λy=>flat y/\q y
def WX(i:Nat)(a:RT):RT:=λo q=>match slot o i with|.und=>False|x=>a (o.set i (.fz (frz x))) q
theorem Im{i:Nat}{o:List OT}{P:OT->Prop}(h:match slot o i with|.und=>False|x=>P x):P (slot o i)/\slot o i≠.und:=by
 cases e:slot o i<;>rw[e]at h<;>first|exact h.elim|exact⟨h,λz=>by cases z⟩
theorem Sx(i:Nat)(h:QE X e re):QE X e (aa9 i re):=PE.imp h λσ H Q hP=>by
 obtain⟨own,o,R,h,hr,k⟩:=hP;obtain⟨hr,ne⟩:=Im (P:=λx=>re (o.set i (.fz (frz x))) λy=>flat y/\R y) hr;obtain⟨u,e1,s⟩:=h.val rfl ne;obtain⟨ae,h',S⟩:=h.frz (eF rfl ne) e1;refine⟨ae,_,_,h',hr,λH' v x q E n=>k H' v x q.2 E ?_⟩;have fl:=q.1;have rp:=n.rep λb z=>(h'.sole z).ne;cases x with
 |fz t=>cases t<;>first|exact fl.elim|(cases rp;first|exact NR.fz (.int _)|exact NR.fz (.bl _)|exact NR.fz (.str _)|exact NR.fz .non)
 |_=>exact fl.elim
theorem uV(i:Nat)(h:QT X e rt):QT X e (WX i rt):=PT.imp h λσ H Q hP=>by
 obtain⟨own,o,R,h,hr,k⟩:=hP;obtain⟨hr,ne⟩:=Im (P:=λx=>rt (o.set i (.fz (frz x))) R) hr;obtain⟨u,e1,s⟩:=h.val rfl ne;obtain⟨ae,h',S⟩:=h.frz (eF rfl ne) e1;exact⟨ae,_,_,h',hr,k⟩
def Ju:T->Option Key
 |.int i=>some (.inl i)
 |.str s=>some (.inr s)
 |_=>none
def jr{α:Type} : List Key->List α->Key->Option α
 |k::ks,t::ts,j=>if k=j then some t else jr ks ts j
 |_,_,_=>none
theorem Aj{K:Frag}{F:Hp}{x:V}{t:T}{k:Key}(h:Rep K F x t)(e:Ju t=some k):x=kV k:=by
 cases h<;>cases e<;>rfl
theorem qU{K:Frag}{F:Hp}{k:Key} : ∀{ks:List Key}{xs:Β}{ts:List T},bD K F xs ts->(∀t,jr ks ts k=some t->∃x,vC (ks.zip xs) k=some x/\Rep K F x t)/\(jr ks ts k=none->vC (ks.zip xs) k=none)
 |[],_,_,_=>⟨λ_ z=>(nomatch z),λ_=>rfl⟩
 |_::_,_,_,.nil=>⟨λ_ z=>(nomatch z),λ_=>rfl⟩
 |j::ks,_,_,.cons a b=>by
  by_cases h:j=k
  .refine⟨λt z=>?_,λz=>?_⟩
   .unfold jr at z;rw[ZY h]at z;cases z;exact⟨_,Cy h,a⟩
   .unfold jr at z;rw[ZY h]at z;cases z
  .obtain⟨i1,i2⟩:=qU (k:=k) (ks:=ks) b;refine⟨λt z=>?_,λz=>?_⟩
   .unfold jr at z;rw[ZZ h]at z;obtain⟨x,e,r⟩:=i1 t z;exact⟨x,(uY h).trans e,r⟩
   .unfold jr at z;rw[ZZ h]at z;exact(uY h).trans (i2 z)
def Yi:qA
 |.dct ks ts,u,q=>∃k t,Ju u=some k/\jr ks ts k=some t/\q (.fz t)
 |_,_,_=>False
theorem zN(hu:X.A.units+1<cLine)(ha:QE X a ra)(hb:QE X b rb)(hs:Sd b:=by exact λ_ _=>rfl):QE X (.Subscript a b pos) (rOp Yi ra rb):=(Qc hu ha hb hs).imp λσ H Q ⟨own,o,R,h,hr,k⟩=>tQ.mk h hr λH1 v x q E1 r1=>tQ.mk (h.same E1) q λH2 w y q E2 r2=>by
 have r1:=r1.same (bF E2)
 revert r1 q
 generalize frz x=t;intro q r1;cases t<;>try exact q.elim
 obtain⟨d,xs,rfl,e,l,r⟩:=r1.dctI;obtain⟨j,t,e1,e2,q⟩:=q;obtain⟨z,e3,r3⟩:=(qU r).1 t e2;cases Aj r2 e1;exact⟨d,z,rfl,.inl ⟨_,_,cu.rd e,rfl,e3.symm⟩,k H2 _ _ q (E1.trans E2) (NR.fz r3)⟩
def Vs(neg:Bool):qA
 |u,.dct ks ts,q=>∃k,Ju u=some k/\q (.fz (.bl (xr neg (jr ks ts k).isSome)))
 |_,_,_=>False
theorem Lz{neg:Bool}{σ:L2.St}{H:Hp}{Q:VK}(h:tQ X.K (rOp (Vs neg) ra rb) σ H Q):(tQ X.K ra) σ H λy H1=>(tQ X.K rb) σ H1 λx H2=>∃a o,x=.ref a/\rN H2 a y o/\Q (.bl (xr neg o.isSome)) H2:=by
 obtain⟨own,o,R,h,hr,k⟩:=h;refine tQ.mk h hr λH1 v x q E1 r1=>tQ.mk (h.same E1) q λH2 w y q E2 r2=>?_;have r1:=r1.same (bF E2)
 revert r2 q
 generalize frz y=t;intro q r2;cases t with
 |dct ks ts =>
  obtain⟨d,xs,rfl,e,l,r⟩:=r2.dctI;obtain⟨j,e1,q⟩:=q;cases Aj r1 e1;refine⟨d,_,rfl,.inl ⟨_,_,cu.rd e,rfl,rfl⟩,?_⟩;have:(vC (ks.zip xs) j).isSome=(jr ks ts j).isSome:=by
   cases z:jr ks ts j with
   |none=>rw[(qU r).2 z];rfl
   |some t=>obtain⟨x,e,_⟩:=(qU r).1 t z;rw[e];rfl
  rw[this];exact k H2 _ _ q (E1.trans E2) (NR.fz (.bl _))
 |_=>cases frz x<;>exact q.elim
theorem R6{r:RE}{tt:TE}(i:∀σ H Q,tQ X.K r σ H Q->tt σ H Q){σ:L2.St}{H:Hp}{Q:Bool->Hp->Prop}(h:tQT X.K (rB r) σ H Q):tB tt σ H Q:=by
 obtain⟨own,o,R,h,hr,k⟩:=h;refine i σ H _ (tQ.mk h hr λH1 v x q E1 r1=>?_)
 revert r1 q
 generalize frz x=t;intro q r1;cases r1<;>try exact q.elim
 exact⟨_,rfl,k _ _ q E1⟩
theorem NZ(hu:X.A.units+1<cLine)(ha:QE X a ra)(hb:QE X b rb)(h1:behindInMarks .In b=false:=by rfl):QT X (.Compare a [.In] [b] pos) (rB (rOp (Vs false) ra rb)):=(Mr (Tv hu ha hb) h1).imp λ_ _ _=>R6 λ_ _ _=>Lz (neg:=false)
theorem Je(hu:X.A.units+1<cLine)(ha:QE X a ra)(hb:QE X b rb)(h1:behindInMarks .NotIn b=false:=by rfl):QT X (.Compare a [.NotIn] [b] pos) (rB (rOp (Vs true) ra rb)):=(Mr (Jq hu ha hb) h1).imp λ_ _ _=>R6 λ_ _ _=>Lz (neg:=true)
def Xp:RE:=λ_ q=>q (.d1 [] [])
theorem Am:QE X (.Dict [] [] pos) Xp:=Mq.imp λσ H Q ⟨own,o,R,h,hr,k⟩ p hp=>k _ _ _ hr (Same.upd hp) ⟨[p],λa ha=>(YR.mp ha) ▸ hp,p,[],rfl,rfl,bK,rfl,.nil⟩
def abx(i:Nat)(a b:RE):RS:=λE o=>match slot o i with|.d1 ks ts=>a o λy=>b o λk=>∃j,Ju (frz k)=some j/\jr ks ts j=none/\ks.length<sizeLine/\ks.length=ts.length/\E.nx (o.set i (.d1 (ks++[j]) (ts++[frz y])))|_=>False
end
def lkF{α:Type} : Θ->List α->Str->Option α
 |k::ks,t::ts,f=>if k=f then some t else lkF ks ts f
 |_,_,_=>none
def jL:Θ->Str->Θ
 |[],f=>[f]
 |k::ks,f=>if k=f then k::ks else k::jL ks f
def iJ{α:Type} : Θ->List α->Str->α->List α
 |k::ks,t::ts,f,v=>if k=f then v::ts else t::iJ ks ts f v
 |_,ts,_,v=>ts++[v]
theorem Hl{K:Frag}{F:Hp}{f:Str} : ∀{ks:Θ}{xs:Β}{ts:List T},bD K F xs ts->(∀t,lkF ks ts f=some t->∃x,(ks.zip xs).lookup f=some x/\Rep K F x t)/\(lkF ks ts f=none->(ks.zip xs).lookup f=none)
 |[],_,_,_=>⟨λ_ z=>(nomatch z),λ_=>rfl⟩
 |_::_,_,_,.nil=>⟨λ_ z=>(nomatch z),λ_=>rfl⟩
 |j::ks,_,_,.cons a b=>by
  obtain⟨i1,i2⟩:=Hl (f:=f) (ks:=ks) b;by_cases h:j=f
  .refine⟨λt z=>?_,λz=>?_⟩
   .unfold lkF at z;rw[ZY h]at z;cases z;exact⟨_,by rw[List.zip_cons_cons,List.lookup_cons,h,beq_self_eq_true],a⟩
   .unfold lkF at z;rw[ZY h]at z;cases z
  .have e:∀x(r:List (Str×V)),((j,x)::r).lookup f=r.lookup f:=λx r=>by rw[List.lookup_cons,beq_false_of_ne (Ne.symm h)]
   refine⟨λt z=>?_,λz=>?_⟩
   .unfold lkF at z;rw[ZZ h]at z;obtain⟨x,e1,r⟩:=i1 t z;exact⟨x,(e _ _).trans e1,r⟩
   .unfold lkF at z;rw[ZZ h]at z;exact(e _ _).trans (i2 z)
theorem qy{f:Str}{v:V} : ∀{ks:Θ}{xs:Β},ks.length=xs.length->lE f v (ks.zip xs)=(jL ks f).zip (iJ ks xs f v)/\(jL ks f).length=(iJ ks xs f v).length
 |[],[],_=>⟨rfl,rfl⟩
 |k::ks,x::xs,l=>by
  obtain⟨i1,i2⟩:=qy (f:=f) (v:=v) (ks:=ks) (xs:=xs) (Nat.succ.inj l);show(if k=f then(k,v)::ks.zip xs else(k,x)::lE f v (ks.zip xs))=_/\_;unfold jL iJ;by_cases h:k=f
  .rw[ZY h,ZY h,ZY h];exact⟨rfl,l⟩
  .rw[ZZ h,ZZ h,ZZ h,i1];exact⟨rfl,ZH (· + 1) i2⟩
 |[],_::_,l=>by cases l
 |_::_,[],l=>by cases l
theorem bD.put{K:Frag}{F:Hp}{f:Str}{v:V}{t:T}(r:Rep K F v t):∀{ks:Θ}{xs:Β}{ts:List T},bD K F xs ts->bD K F (iJ ks xs f v) (iJ ks ts f t)
 |[],_,_,h=>h.app (.cons r .nil)
 |_::_,_,_,.nil=>.cons r .nil
 |k::ks,_,_,.cons a b=>by
  unfold iJ;by_cases h:k=f
  .rw[ZY h,ZY h];exact .cons r b
  .rw[ZZ h,ZZ h];exact .cons a (bD.put r b)
abbrev SI:=Addr->Θ->List T->List T->(Θ->List T->Prop)->Prop
def Slf(a dx b:Addr):Prop:=b=a\/b=dx
def spI(K:Frag)(S:SI):Sp:=λvs H Q _=>∃a dx C ks xs ts us as R,vs=.ref a::us/\H a=some (.ins C dx (ks.zip xs))/\H dx=some (.own a)/\ks.length=xs.length/\bD K (hd (Slf a dx) H) xs ts/\bD K (hd (Slf a dx) H) us as/\S C ks ts as R /\
 ∀H' bu b8 ax,R bu ax->Same (hd (Slf a dx) H) (hd (Slf a dx) H')->H' a=some (.ins C dx (bu.zip b8))->H' dx=some (.own a)->bu.length=b8.length->bD K (hd (Slf a dx) H') b8 ax->Q .non H'
section
variable{P:Program}{w:World}{K:Frag}{mg:Str->Ψ}{base:Heap}
def startI(n:Nat)(a dx C:Addr)(ks:Θ)(ts as:List T):List OT:=.ob a dx C ks ts::start' (n-1) as
def Y5(a dx:Addr):zz
 |0=>[a,dx]
 |_+1=>[]
theorem zT(a dx:Addr):Ow (Y5 a dx)=Slf a dx:=funext λb=>propext ⟨(λh=>by
  obtain⟨i,z⟩:=h;cases i with
  |zero =>
   rcases YU.mp z with z|z
   .exact .inl z
   .exact .inr (YR.mp z)
  |succ i=>cases z),λz=>⟨0,by show b∈[a,dx];rcases z with rfl|rfl<;>simp⟩⟩
theorem SR.startI{H:Hp}{a dx C:Addr}{ks:Θ}{xs:Β}{ts as:List T}{us:Β}(ha:H a=some (.ins C dx (ks.zip xs)))(aw:H dx=some (.own a))(l:ks.length=xs.length)(r:bD K (hd (Slf a dx) H) xs ts)(r2:bD K (hd (Slf a dx) H) us as)(N:Θ)(hN:us.length+1<=N.length) :
  SR K (Y5 a dx) H (L2.start N (.ref a::us)) (L2.startI N.length a dx C ks ts as):=by
 have eO:=zT a dx;refine⟨?_,λi x e=>?_,λi hi b hb=>?_,λi j b e1 e2=>?_⟩
 .unfold L2.startI start' L2.start;have:=r2.len;simp only[List.length_cons,au,ak,aK];lia
 .rw[eO];unfold L2.startI at e;cases i with
  |zero =>
   cases e;exact⟨xs,rfl,rfl,ha,aw,l,r⟩
  |succ i =>
   rw[List.getElem?_cons_succ]at e;show Slo K _ _ _ [] x;unfold start' at e;unfold L2.start;rw[List.map_cons,List.cons_append,List.getElem?_cons_succ];by_cases hi:i<as.length
   .rw[aC (by simpa using hi),aq,aj hi]at e;cases e;obtain⟨v,e1,r1⟩:=r2.at_ (aj hi);rw[aC (by rw[ak,r2.len];exact hi),aq,e1];exact⟨rfl,v,rfl,r1⟩
   .rw[aB (by simpa using hi),ak,XX]at e;by_cases hj:i-as.length<N.length-1-as.length
    .rw[ZY hj]at e;cases e;rfl
    .rw[ZZ hj]at e;cases e
 .unfold L2.startI at hi;cases i with
  |zero=>cases hi
  |succ i=>cases hb
 .cases i with
  |zero =>
   cases j with
   |zero=>rfl
   |succ j=>cases e2
  |succ i=>cases e1
theorem Fun.okI{x ac:Str}{st:Stmt}{f:Addr}{fd:FuncData}{N ps:Θ}{k:Nat}{S:SI}(F:Fun K x ac st f fd)(sc:bG N ps (bw st))(len:∀C ks ts as R,S C ks ts as R->as.length+1=ps.length)(hn:ps.length<=N.length)
 (a6:∀(af:Value)(A:Around)(outer:List Env)(s:Shared)(H:Hp)(E:XK),cA k (A.deeper (envOfC ac (bw st) s.heap.objs.size f af))->N.Nodup ->
   ∃r,QSs (n_ CX0 P w K mg base N ac (bw st) f af A outer s H E).nox (cR st) r/\∀a dx C ks ts as R,S C ks ts as R->r { nx:=λo=>∃bu ax,slot o 0=.ob a dx C bu ax/\R bu ax,rt:=λ_=>False } (startI N.length a dx C ks ts as)):cH P w K mg base CX0 (k+1) f fd ps (spI K S):=by
 refine F.ok sc (λvs H Q E h=>?_) λaf A outer s H vs Q E hr h=>?_
 .obtain⟨a,dx,C,ks,xs,ts,us,as,R,rfl,_,_,_,_,r2,hS,_⟩:=h;rw[List.length_cons,r2.len];exact len _ _ _ _ _ hS
 .obtain⟨a,dx,C,ks,xs,ts,us,as,R,rfl,ha,aw,l,r,r2,hS,q⟩:=h;obtain⟨rd,h1,h2⟩:=a6 af A outer s H E hr sc.nd;have s0:=SR.startI ha aw l r r2 N (by rw[r2.len,len _ _ _ _ _ hS];exact hn);have eO:=zT a dx;refine⟨_,h1,_,_,_,s0,h2 a dx C ks ts as R hS,⟨λown H' σ o rx E h=>?_,λ_ _ _ _ _ z=>z.elim,λ_ _ _ _ z=>z.elim,λ_ _ _ _ z=>z.elim,λ_ _ _ _ _ _ z=>z.elim⟩⟩;obtain⟨bu,ax,es,rx⟩:=rx;rw[eO]at E;obtain⟨u,_,b8,e1,e2,e3,e4,e5,e6⟩:=h.val es (by intro z;cases z);have sub:Same (hd (Ow own) H') (hd (Slf a dx) H'):=f9 (λb z=>.inl ⟨0,by rw[e2];rcases z with rfl|rfl<;>simp⟩) λ_ _ z=>z;exact q H' bu b8 ax rx (E.trans sub) e3 e4 e5 (e6.same sub)
end
section
variable{X:Cx}{e:Expr}{es:List Expr}{re:RE}{r:RA}{f:Str}{pos ag p:Pos}{Fm:Addr->Prop}
def R4(Fm:Addr->Prop)(i:Nat)(f:Str):RE:=λo q=>match slot o i with|.ob _ _ C ks ts=>Fm C/\∃t,lkF ks ts f=some t/\q (.fz t)|_=>False
theorem Rh(i:Nat){x:Str}(c:∀C,Fm C->Cls X.K C/\bR X.K C f)(hN:X.N[i]?=some x:=by rfl)(hv:lR X.env.scope x=true:=by rfl)(aw:qq x:=by decide)(a9:qk x:=by decide)(hb:attributeBase (.Name x p) f X.env (eval (.Name x p) X.env)=eval (.Name x p) X.env:=by rfl):QE X (.Attribute (.Name x p) f pos) (R4 Fm i f):=(Nz (pv i hN hv aw a9) hb).imp λσ H Q hP=>by
 obtain⟨own,o,R,h,hr,k⟩:=hP;unfold R4 at hr;cases es:slot o i with
 |ob a dx C ks ts =>
  rw[es]at hr;obtain⟨u,e1,xs,e2,e3,e4,e5,l,r⟩:=h.val es (by intro z;cases z);cases e2;obtain⟨hf,t,e6,q⟩:=hr;obtain⟨v,e7,r7⟩:=(Hl r).1 t e6;exact⟨_,e1,a,C,dx,_,v,rfl,e4,(c C hf).1,(c C hf).2,e7,k H _ _ q (.refl _) (NR.fz r7)⟩
 |_=>rw[es]at hr;exact hr.elim
def RM(Fm:Addr->Prop)(i:Nat)(f:Str)(a:RE):RS:=λE o=>match slot o i with|.ob b dx C ks ts=>a o λy=>(Fm C/\ks.length<1000)/\E.nx (o.set i (.ob b dx C (jL ks f) (iJ ks ts f (frz y))))|_=>False
theorem qL(i:Nat){x:Str}{a7:Pos}(c:∀C,Fm C->Cls X.K C/\bR X.K C f)(he:QE X e re)(hN:X.N[i]?=some x:=by rfl)(hv:lR X.env.scope x=true:=by rfl)(aw:qq x:=by decide)(a9:qk x:=by decide)(hs:swapsWith e (some (.Attribute (.Name x p) f a7)) pos.line X.env=pure false:=by rfl):QS X (.Assign [.Attribute (.Name x p) f a7] e pos) (RM Fm i f re):=(Gy (pv i hN hv aw a9) he hs).imp λD σ H hP=>by
 obtain⟨own,o,E,h,hr,L⟩:=hP;unfold RM at hr;cases es:slot o i with
 |ob a dx C ks ts =>
  rw[es]at hr;obtain⟨u,e1,xs,e2,e3,e4,e5,l,r⟩:=h.val es (by intro z;cases z);cases e2;refine tQ.mk h hr λH1 v y q E1 r1=>⟨_,e1,a,C,dx,_,rfl,E1 _ _ e4,(c C q.1.1).1,(c C q.1.1).2,by rw[UY,<- l,VT];exact q.1.2,?_⟩;obtain⟨pz,pl⟩:=qy (f:=f) (v:=v) l;rw[pz];have fm:dx≠a:=pF e5 e4 (by intro z;cases z);obtain⟨h',S⟩:=(h.same E1).chg (eF es (by intro z;cases z)) (y:=.ob a dx C (jL ks f) (iJ ks ts f (frz y))) (H':=upd H1 a (.ins C dx ((jL ks f).zip (iJ ks xs f v)))) (λb u hb e=>(bJ λz=>hb (by rw[e3,z];simp)).trans e) (by
   rw[e1,rM ⟨i,by rw[e3];simp⟩];exact⟨_,rfl,e3,bK,(bJ fm).trans (E1 _ _ e5),pl,bD.put r1 (r.same (bF E1))⟩)
  exact L.nx own _ σ _ q.2 ((bF E1).trans S) h'
 |_=>rw[es]at hr;exact hr.elim
def aad(Fm:Addr->Prop)(f:Str)(a:RE):RE:=λo q=>a o λx=>match frz x with|.ins C ks ts=>Fm C/\∃t,lkF ks ts f=some t/\q (.fz t)|_=>False
theorem rR(c:∀C,Fm C->Cls X.K C/\bR X.K C f)(he:QE X e re)(hb:qV X e f:=by rfl):QE X (.Attribute e f pos) (aad Fm f re):=(Nz he hb).imp λσ H Q ⟨own,o,R,h,hr,k⟩=>tQ.mk h hr λH1 v x q E1 r1=>by
 revert r1 q
 generalize frz x=t;intro q r1;cases t<;>try exact q.elim
 obtain⟨a,dx,xs,rfl,e,d,l,r⟩:=r1.insI;obtain⟨hf,t,e6,q⟩:=q;obtain⟨v,e7,r7⟩:=(Hl r).1 t e6;exact⟨a,_,dx,_,v,rfl,(cF e).2,(c _ hf).1,(c _ hf).2,e7,k H1 _ _ q E1 (NR.fz r7)⟩
abbrev OkM(X:Cx)(k:Nat)(fa:Addr)(ps:Θ)(S:ST):Prop:=zv X CX0 k fa ps (spT X.K S)
theorem OkI.hid{P:Program}{w:World}{K:Frag}{mg:Str->Ψ}{base:Heap}{k:Nat}{fa:Addr}{ps:Θ}{sp:Sp}(G:OkI P w K mg base CX0 k fa ps sp):OkI P w K mg base CX0 k fa ps (spH sp):=by obtain⟨fd,F,b⟩:=G;exact⟨fd,F.hid,b⟩
theorem Lg{S:ST}{H1:Hp}{σ:L2.St}{own:zz}{o:List OT}{R:OT->Prop}{Q:VK}{vs:Β}{ts:List T}{E:XK}(h1:SR X.K own H1 σ o)(r1:bD X.K (hd (Ow own) H1) vs ts)(q:S ts R)(k:∀H' v x,R x->Same H1 H'->NR X.K (Ow own) H1 H' v x->Q v H'):spH (spT X.K S) vs H1 Q E:=by
 refine⟨Ow own,h1.hid,ts,R,r1,q,λG v x rx E n ah=>?_⟩;have EH:Same H1 (mrg (Ow own) H1 G):=λb u e=>by
  by_cases z:Ow own b
  .rw[jA z];exact e
  .rw[cY z];exact E b u ((bO z).trans e)
 have EG:Same G (mrg (Ow own) H1 G):=λb u e=>by rw[cY λz=>by rw[ah b z]at e;cases e];exact e
 refine k _ v x rx EH ?_;obtain⟨B,nb,s⟩:=n;have out:∀a∈B,¬Ow own a:=λa ha z=>(s.sole ha).ne (ah a z);refine⟨B,λa ha=>by have:=nb a ha;rwa[bO (out a ha)]at this,s.same (f9 (λb z=>?_) EG) EG⟩;rcases z with z|z
 .exact .inr (ah b z)
 .exact .inl (.inr z)
def W7(C:Addr)(KS:Θ)(S:ST)(a:RE)(r:RA):RE:=λo q=>a o λx=>match frz x with|.ins C' ks ts=>(C'=C/\ks=KS)/\r o λas=>S (.ins C' ks ts::as) q|_=>False
theorem HN{f:Str} : ∀{KS:Θ}{xs:Β},f∉KS->(KS.zip xs).lookup f=none
 |[],_,_=>rfl
 |_::_,[],_=>rfl
 |k::KS,x::xs,h=>by
  rw[List.zip_cons_cons,List.lookup_cons,beq_false_of_ne λ(z:f=k)=>h (by rw[z];exact aL ..)];exact HN λz=>h (aG _ z)
theorem Dj{o:Expr}{ro:RE}{k:Nat}{fa C:Addr}{ps KS:Θ}{S:ST}{pl:Sem Bool}(he:QE X o ro)(c:Cls X.K C)(hm:Meth X.K C f fa)(G:OkM X k fa ps S)(hr:cA k X.A:=by exact cA.mono (by assumption) (by decide))(hk:f∉KS:=by decide +kernel)
 (ht:eval (.Call (.Attribute o f ag) [] [] pos) X.env=(do
   let ov <- eval o X.env
   standAt ag.atName
   let(f,first) <- holding [ov] (getMethod ov f pl)
   callWith pos f first (backTo pos (starEach [] X.env)) (backToKw pos (keywordEach [] X.env))):=by rfl) :
  QE X (.Call (.Attribute o f ag) [] [] pos) (W7 C KS S ro Ov):=(JR (pl:=pl) he c hm (OkI.hid G) hr ht).imp λσ H Q ⟨own,o,R,h,hr,k⟩=>tQ.mk h hr λH1 v x q E1 r1=>by
 revert r1 q
 generalize frz x=t;intro q r1;cases t<;>try exact q.elim
 obtain⟨a,dx,xs,rfl,e,d,l,r⟩:=r1.insI;obtain⟨⟨rfl,rfl⟩,q⟩:=q;refine⟨a,dx,_,rfl,(cF e).2,HN hk,?_⟩;exact Lg (E:=E0) (h.same E1) (.cons r1 .nil) q λH' v x rx E n=>k H' v x rx (E1.trans E) (n.back E1)
def Zi(C:Addr)(S:SI)(r:RA):RE:=λo q=>r o λas=>S C [] [] as λks ts=>q (.fz (.ins C ks ts))
theorem Qo{x:Str}{k:Nat}{fa C:Addr}{ps:Θ}{S:SI}(M:Mk X.K C fa)(G:zv X CX0 k fa ps (spI X.K S))(hm:X.mg x=some (.ref C))(ha:QA X (e::es) r)(hr:cA (k+1) X.A:=by exact cA.mono (by assumption) (by decide))(hg:Gl X x:=by rfl)(aI:qq x:=by decide)
 (he:qf X e es:=by rfl)(aE:qo X pos es:=by rfl):QE X (.Call (.Name x p) (e::es) [] pos) (Zi C S r):=(K5 M (OkI.hid G) hr hg hm ha aI he aE).imp λσ H Q ⟨own,o,R,h,hr,k⟩=>tQA.mk h hr λH1 vs as q _ E1 r1 a dx na nd ne=>by
 have h1:=h.same E1;have E2:Same H1 (upd (upd H1 dx (.own a)) a (.ins C dx [])):=(Same.upd nd).trans (Same.upd ((bJ (Ne.symm ne)).trans na));have h2:=h1.same E2;have oa:¬Ow own a:=λz=>(h1.sole z).ne na;have od:¬Ow own dx:=λz=>(h1.sole z).ne nd;refine⟨Ow own,h2.hid,a,dx,C,[],[],[],vs,as,_,rfl,(bO oa).trans bK,(bO od).trans ((bJ ne).trans bK),rfl,.nil,r1.same (λb u e=>?_),q,λG bu b8 ax rx E ea ed l r ah=>⟨rfl,?_⟩⟩
 .obtain⟨n,e⟩:=cF e;have n2:¬Slf a dx b:=λz=>by rcases z with rfl|rfl<;>rw[e]at *<;>contradiction
  rw[bO n2,bO n];exact E2 _ _ e
 .have EG:Same G (mrg (Ow own) (upd (upd H1 dx (.own a)) a (.ins C dx [])) G):=λb u e=>by rw[cY λz=>by rw[ah b z]at e;cases e];exact e
  refine k _ _ _ rx (E1.trans λb u e=>?_) (NR.fz (.ins (dx:=dx) (ks:=bu) (xs:=b8) ?_ ?_ l (r.same λb u e=>?_)))
  .by_cases z:Ow own b
   .rw[jA z];exact E2 _ _ e
   .have n2:¬Slf a dx b:=λz=>by rcases z with rfl|rfl<;>rw[e]at *<;>contradiction
    exact EG _ _ (cF (E b u ((bO n2).trans ((bO z).trans (E2 _ _ e))))).2
  .rw[bO oa];exact EG _ _ ea
  .rw[bO od];exact EG _ _ ed
  .have e':=(cF e).2;rw[bO λz=>by rw[ah b z]at e';cases e'];exact EG _ _ e'
def Ry(i:Nat)(S:SI)(r:RA):RS:=λE o=>match slot o i with|.ob a dx C ks ts=>r o λas=>S C ks ts as λbu ax=>E.nx (o.set i (.ob a dx C bu ax))|_=>False
theorem Ot(i:Nat){x y m:Str}{p2 cpos:Pos}{k:Nat}{fa B:Addr}{ps:Θ}{S:SI}{pl:Sem Bool}(c:vf X.K B m fa)(G:zv X CX0 k fa ps (spI X.K S))(hm:X.mg x=some (.ref B))(ha:QA X es r)(hr:cA k X.A:=by exact cA.mono (by assumption) (by decide))(hg:Gl X x:=by rfl)
 (hN:X.N[i]?=some y:=by rfl)(hv:lR X.env.scope y=true:=by rfl)(aw:qq y:=by decide)(a9:qk y:=by decide)(aI:qq x:=by decide)
 (be:starEach (.Name y p2::es) X.env=(false,eval (.Name y p2) X.env)::starEach es X.env:=by rfl)(aE:qo X cpos es:=by rfl)
 (ht:eval (.Call (.Attribute (.Name x p) m ag) (.Name y p2::es) [] cpos) X.env=(do
   let ov <- eval (.Name x p) X.env
   standAt ag.atName
   let(f,first) <- holding [ov] (getMethod ov m pl)
   callWith cpos f first (backTo cpos (starEach (.Name y p2::es) X.env)) (backToKw cpos (keywordEach [] X.env))):=by rfl)
 (hs:swapsWith (.Call (.Attribute (.Name x p) m ag) (.Name y p2::es) [] cpos) none pos.line X.env=pure false:=by rfl) :
  QS X (.Expr (.Call (.Attribute (.Name x p) m ag) (.Name y p2::es) [] cpos) pos) (Ry i S r):=(kY (Li (pl:=pl) c (OkI.hid G) hr hg hm (fL (pv i hN hv aw a9) ha be) aI be aE ht) hs).imp λD σ H hP=>by
 obtain⟨own,o,E,h,hr,L⟩:=hP;unfold Ry at hr;cases es:slot o i with
 |ob a dx C ks ts =>
  rw[es]at hr;obtain⟨u,e1,xs,e2,e3,e4,e5,l,r⟩:=h.val es (by intro z;cases z);cases e2;refine⟨_,e1,tQA.mk h hr λH1 vs as q _ E1 r1=>?_⟩;have h1:=h.same E1;have sub:∀b,Slf a dx b->b∈own i:=λb z=>by rw[e3];rcases z with rfl|rfl<;>simp
  have bus:∀b,b∈own i->Slf a dx b:=λb z=>by
   rw[e3]at z;rcases YU.mp z with z|z
   .exact .inl z
   .exact .inr (YR.mp z)
  have hid:Hid H1 (λb=>Ow own b/\¬Slf a dx b):=⟨λb z=>h1.sole z.1,λb C d f ⟨⟨j,z⟩,n⟩ e=>⟨⟨j,(h1.mate z).1 C d f e⟩,λy=>n (bus b ((h1.dis j i d ((h1.mate z).1 C d f e) (sub d y)) ▸ z))⟩,λb x ⟨⟨j,z⟩,n⟩ e=>⟨⟨j,(h1.mate z).2 x e⟩,λy=>n (bus b ((h1.dis j i x ((h1.mate z).2 x e) (sub x y)) ▸ z))⟩⟩;have eqF:∀H':Hp,hd (Slf a dx) (hd (λb=>Ow own b/\¬Slf a dx b) H')=hd (Ow own) H':=λH'=>funext λb=>by
   by_cases z:Slf a dx b
   .rw[jK z,jK ⟨i,sub b z⟩]
   .rw[bO z];by_cases y:Ow own b
    .rw[jK (⟨y,z⟩ : Ow own b/\¬Slf a dx b),jK y]
    .rw[bO (λw=>y w.1),bO y]
  have na:¬(Ow own a/\¬Slf a dx a):=λz=>z.2 (.inl rfl);have nd:¬(Ow own dx/\¬Slf a dx dx):=λz=>z.2 (.inr rfl);refine⟨_,hid,a,dx,C,ks,xs,ts,vs,as,_,rfl,(bO na).trans (E1 _ _ e4),(bO nd).trans (E1 _ _ e5),l,by rw[eqF];exact r.same (bF E1),by rw[eqF];exact r1,q,λG bu b8 ax rx EE ea ed l' r' ah=>?_⟩;rw[eqF]at EE;have cy:∀{b:Addr}{u:HO},G b=some u->mrg (λb=>Ow own b/\¬Slf a dx b) H1 G b=some u:=λ{b u}e=>(cY λz=>by rw[ah b z]at e;cases e).trans e;obtain⟨h',S'⟩:=h1.chg (eF es (by intro z;cases z)) (y:=.ob a dx C bu ax) (H':=mrg (λb=>Ow own b/\¬Slf a dx b) H1 G) (λb u hb e=>by
   by_cases z:Ow own b
   .rw[jA ⟨z,λy=>hb (sub b y)⟩];exact e
   .exact cy (cF (EE b u ((bO z).trans e))).2) (by
   rw[e1];refine⟨b8,rfl,e3,cy ea,cy ed,l',r'.same λb u e=>?_⟩;obtain⟨n1,e⟩:=cF e;rw[bO λz=>by rw[ah b ⟨z,n1⟩]at e;cases e];exact cy e)
  exact L.nx own _ σ _ rx ((bF E1).trans S') h'
 |_=>rw[es]at hr;exact hr.elim
end
section
variable{X:Cx}{a b c e:Expr}{ra rb rc re:RE}{pos p:Pos}
theorem qJ{x:Str}{A:Addr}{i j:Int}{pos:Pos}(hm:X.mg x=some (.ref A))(kt:∀H,SqT X.K H A [.int i,.int j])(hg:Gl X x:=by rfl)(hd:qq x:=by decide):QE X (.Name x pos) (rC (.tup [.int i,.int j])):=qC (CZ hg hm hd) λF=>.tup (kt F) (.cons (.int _) (.cons (.int _) .nil))
theorem QE.any{Fm:Addr->Prop}{r:Addr->RE}(h:∀C,Fm C->QE X e (r C)):QE X e (λo q=>∃C,Fm C/\r C o q):=λaa s σ H Q I ⟨own,o,R,hs,⟨C,hC,hr⟩,k⟩=>h C hC aa s σ H Q I ⟨own,o,R,hs,hr,k⟩
theorem Af{tg iter a8:Expr}{aS:List Expr}{ri:RI}{g:qB}{rc:RT}{scope:Scope}{i0:Nat}{y0:Str}{py b9:Pos}(sc:Scope)(N N' xs:Θ)(hi:QI X tg iter ri)(hg:∀{C s₀ H₀ ex pn},QG (X.compG N' scope xs C s₀ H₀ ex pn) xs.length tg g)(ht:∀{C s₀ H₀ ex pn},QTs (X.compG N' scope xs C s₀ H₀ ex pn) aS rc)(he:∀{C s₀ H₀ ex pn},QE (X.compG N' scope xs C s₀ H₀ ex pn) a8 re)(iF:PG X (.Name y0 py) (su i0))
 (c0:X.env.scope=sc:=by rfl)(c9:X.N=N:=by rfl)(hc:X.calm=true:=by rfl)(hk:scope.kind=.function:=by rfl)(h:CK sc scope N N' xs:=by decide +kernel)(gi:swapsWith (.ListComp a8 [⟨tg,iter,aS,0⟩] scope pos) (some (.Name y0 py)) b9.line X.env=pure true:=by rfl)(hs:qi X iter:=by intro _;rfl) :
  QS X (.Assign [.Name y0 py] (.ListComp a8 [⟨tg,iter,aS,0⟩] scope pos) b9) (Tj i0 (Uc ri xs.length g rc re)):=(WY (gt:=tQG X.K xs.length g) (tc:=tQT X.K rc) (te:=tQ X.K re) sc N N' xs hi hg ht he iF c0 c9 hc hk h gi hs).imp λD σ H ⟨own,o,E,h,hr,L⟩=>Ny ⟨own,o,_,h,hr,λH' v y q S n=>by
 obtain⟨ae,h',S'⟩:=h.putA S (n.frz λb z=>(h.sole z).ne) i0;exact L.nx ae H' _ _ q S' h'⟩
def abh(i j:Nat)(r:RA):RS:=λE o=>r o λts=>match ts with|[t,u]=>E.nx ((o.set i (.fz t)).set j (.fz u))|_=>False
theorem Tt(i j:Nat){x y:Str}{r:RA}{px py pt:Pos}{kt k2 pt2}(hc:X.calm=true)(hN:X.N.Nodup)(k9:i≠j)(ha:QA X [a,b] r)(hi:X.N[i]?=some x:=by rfl)(hj:X.N[j]?=some y:=by rfl)
 (hx:X.env.scope.names.lookup x=some .local:=by rfl)(hy:X.env.scope.names.lookup y=some .local:=by rfl)
 (hw:swappedStores [.Tuple [.Name x px,.Name y py] kt pt] (.Tuple [a,b] k2 pt2) X.env=pure (some [x,y]):=by rfl)
 (hs:swapsWithSole [.Tuple [.Name x px,.Name y py] kt pt] (.Tuple [a,b] k2 pt2) pos.line X.env=pure false:=by rfl) :
  QS X (.Assign [.Tuple [.Name x px,.Name y py] kt pt] (.Tuple [a,b] k2 pt2) pos) (abh i j r):=(TF hc hN hi hj k9 hx hy ha hw hs).imp λD σ H ⟨own,o,E,h,hr,L⟩=>⟨own,o,_,h,hr,λH1 vs ts q _ E1 r1=>by
 match ts,q with
 |[t,u],q =>
  obtain⟨v,w,rfl,rv,rw_⟩:=r1.two;refine⟨v,w,rfl,?_⟩;obtain⟨ae,h',go⟩:=(h.same E1).setF rv (XW i);obtain⟨az,h2,S2⟩:=h'.putA (.refl _) (NR.fz (rw_.same go.same)) j;exact L.nx az H1 _ _ q ((bF E1).trans (go.same.trans S2)) h2⟩
def aaC:qA
 |.str i,.str j,q=>q (.fz (.bl (!decide (j.cps.toList<i.cps.toList))))
 |_,_,_=>False
theorem zc:GO X (compareOp .LtE) aaC:=Ub.imp λx y H Q hP=>by
 obtain⟨S,t,u,R,_,hx,hy,hg,k⟩:=hP;cases hx<;>try exact hg.elim
 cases hy<;>try exact hg.elim
 exact⟨_,_,rfl,rfl,k H _ _ hg (.refl _) (NR.fz (.bl _))⟩
theorem uc:GC X (.builtin "len") (g1 aaD):=.one Bb λS t x H Q R rx hg k=>by
 cases t<;>try exact hg.elim
 cases rx;exact⟨_,rfl,hg.1,k H _ _ hg.2 (.refl _) (NR.fz (.int _))⟩
def aa4(a:RE):RI:=λo q=>a o λx=>match frz x with|.str s=>q (s.cps.toList.map λc=>.str ⟨#[c]⟩)|_=>False
theorem Gd{tg:Expr}(he:QE X e re):QI X tg e (aa4 re):=(Ug he).imp λσ H Q ⟨own,o,R,h,hr,k⟩=>tQ.mk h hr λH1 v x q E1 r1=>by
 revert r1 q
 generalize frz x=t;intro q r1;cases t<;>try exact q.elim
 cases r1;refine⟨_,rfl,k H1 _ _ q E1 λS H2 i _ SF=>⟨λhi=>show i=_ by simpa using hi,λt ht=>?_⟩⟩;rw[aq]at ht;cases z:(‹Str›.cps.toList)[i]? with
 |none=>rw[z]at ht;cases ht
 |some c =>
  rw[z]at ht;cases ht;refine⟨show i<_ by simpa using(ao.mp z).1,?_⟩;rintro x H3 ⟨rfl,c',e',rfl⟩;rw[<- Array.getElem?_toList,z]at e';cases e';exact⟨.refl _,.str _⟩
end
abbrev HG:=qB
section
variable{α β:Type}{g:HG}{b:RS}{E:DT}{o:List OT}
theorem Hg(h:α->T)(l:List α)(J:List α->List OT->Prop)(st:∀as a bs o,l=as++a::bs->J as o->g (h a) o λo'=>b { E with nx:=J (as++[a]),ct:=J (as++[a]),bk:=E.nx } o')(am:∀o,J l o->E.nx o):∀(bs as:List α)(o:List OT),l=as++bs->J as o->sU g b E (bs.map h) o
 |[],as,o,e,j=>am o (by rw[List.append_nil]at e;rw[e];exact j)
 |a::bs,as,o,e,j=>⟨J (as++[a]),λo k=>Hg h l J st am bs (as++[a]) o (by rw[e];simp) k,st as a bs o e j⟩
theorem d_(h:α->T)(l:List α)(J:List α->List OT->Prop)(j:J [] o)(st:∀as a bs o,l=as++a::bs->J as o->g (h a) o λo'=>b { E with nx:=J (as++[a]),ct:=J (as++[a]),bk:=E.nx } o')(am:∀o,J l o->E.nx o):sU g b E (l.map h) o:=Hg h l J st am l [] o rfl j
theorem HJ(J:Nat->List OT->Prop):∀(xs:List T)(k:Nat){o:List OT},J k o->(∀i t o,xs[i]?=some t->J (k+i) o->g t o λo'=>b { E with nx:=J (k+i+1),ct:=J (k+i+1),bk:=E.nx } o')->(∀o,J (k+xs.length) o->E.nx o)->sU g b E xs o
 |[],_,o,j,_,am=>am o j
 |t::ts,k,o,j,st,am=>⟨J (k+1),λo z=>HJ J ts (k+1) z (λi t o e z=>by
   have:=st (i+1) t o (by simpa using e) (by rw[show k+(i+1)=k+1+i by lia];exact z);rw[show k+(i+1)+1=k+1+i+1 by lia]at this;exact this) (λo z=>am o (by rw[List.length_cons,show k+(ts.length+1)=k+1+ts.length by lia];exact z)),st 0 t o rfl j⟩
theorem pK{n:Nat}(J:Nat->List OT->Prop)(j:J 0 o)(st:∀k o,k<n->J k o->g (.int (k:Nat)) o λo'=>b { E with nx:=J (k+1),ct:=J (k+1),bk:=E.nx } o')(am:∀o,J n o->E.nx o):sU g b E (rng 0 n) o:=by
 refine HJ J (rng 0 n) 0 j (λi t o e z=>?_) λo z=>am o (by rw[rng,ak,X2,Nat.zero_add]at z;exact z);unfold rng at e;rw[aq]at e;by_cases hi:i<n
 .rw[W1 hi]at e;cases e;rw[Nat.zero_add]at z ⊢;have:=st i o hi z;show g (.int (0+((i:Nat):Int))) o _;rw[show(0:Int)+((i:Nat):Int)=((i:Nat):Int)by exact Int.zero_add _];exact this
 .rw[UZ (by simpa using hi)]at e;cases e
variable{c:RT}{e:RE}{q:List T->Prop}
theorem comp_map(h:α->T)(f:α->T):∀(l:List α){q:List T->Prop},(∀a∈l,∀(N:T->Prop)(M:Prop),N (f a)->g (h a) o λo'=>c o' λb=>sw b (e o' λy=>N (frz y)) M)->q (l.map f)->jD g c e o (l.map h) q
 |[],_,_,k=>k
 |a::l,q,st,k=>⟨λy=>y=f a,False,λy z=>comp_map h f l (λa ha=>st a (aG _ ha)) (z ▸ k),False.elim,st a (aL ..) (λy=>y=f a) False rfl⟩
theorem jN(h:α->T)(p:α->Bool)(f:α->T):∀(l:List α){q:List T->Prop},(∀a∈l,∀(N:T->Prop)(M:Prop),(p a=true->N (f a))->(p a=false->M)->g (h a) o λo'=>c o' λb=>sw b (e o' λy=>N (frz y)) M)->q ((l.filter p).map f)->jD g c e o (l.map h) q
 |[],_,_,k=>k
 |a::l,q,st,k=>⟨λy=>y=f a/\p a=true,p a=false,λy z=>jN h p f l (λa ha=>st a (aG _ ha)) (by rw[List.filter_cons_of_pos z.2]at k;exact z.1 ▸ k),λz=>jN h p f l (λa ha=>st a (aG _ ha)) (by rw[List.filter_cons_of_neg (by rw[z];decide)]at k;exact k),st a (aL ..) (λy=>y=f a/\p a=true) (p a=false) (λz=>⟨rfl,z⟩) id⟩
inductive T7(R:α->T->Prop):List α->List T->Prop
 |nil:T7 R [] []
 |cons {a:α}{t:T}{l:List α}{ts:List T} : R a t->T7 R l ts->T7 R (a::l) (t::ts)
theorem pZ(f:Nat->T)(n:Nat)(st:∀k,k<n->∀(N:T->Prop)(M:Prop),N (f k)->g (.int (k:Nat)) o λo'=>c o' λb=>sw b (e o' λy=>N (frz y)) M)(k:q ((List.range n).map f)):jD g c e o (rng 0 n) q:=by
 refine comp_map (λk:Nat=>.int (0+k)) f (List.range n) (λa ha N M hN=>?_) k;have:=st a (List.mem_range.mp ha) N M hN;show g (.int (0+((a:Nat):Int))) o _;rw[show(0:Int)+((a:Nat):Int)=((a:Nat):Int)by exact Int.zero_add _];exact this
end
def zQ(ks:List Key)(j:Key):Bool:=ks.any λk=>decide (k=j)
def kpK(ks:List Key)(j:Key):List Key:=if zQ ks j=true then ks else ks++[j]
def kpT{α:Type}(ks:List Key)(ts:List α)(j:Key)(t:α):List α:=if zQ ks j=true then ks.zipWith (λk x=>if k=j then t else x) ts else ts++[t]
theorem Kw{j:Key}{v:V}{ks:List Key}{xs:Β}(l:ks.length=xs.length):putK (ks.zip xs) j v=(kpK ks j).zip (kpT ks xs j v)/\(kpK ks j).length=(kpT ks xs j v).length:=by
 have any:∀{ks:List Key}{xs:Β},ks.length=xs.length->((ks.zip xs).any λkv=>decide (kv.1=j))=zQ ks j:=λ{ks}=>by
  induction ks with
  |nil=>intro xs _;rfl
  |cons k ks ih =>
   intro xs l;cases xs with
   |nil=>cases l
   |cons x xs=>rw[List.zip_cons_cons,List.any_cons,ih (Nat.succ.inj l)];rfl
 unfold putK kpK kpT;rw[any l];by_cases h:zQ ks j=true
 .rw[ZY h,ZY h,ZY h];refine⟨?_,by rw[List.length_zipWith,l,VT]⟩
  clear any h
  induction ks generalizing xs with
  |nil=>rfl
  |cons k ks ih =>
   cases xs with
   |nil=>cases l
   |cons x xs =>
    rw[List.zip_cons_cons,List.map_cons,ih (Nat.succ.inj l),List.zipWith_cons_cons,List.zip_cons_cons];by_cases h:k=j
    .rw[ZY h,ZY h]
    .rw[ZZ h,ZZ h]
 .rw[ZZ h,ZZ h,ZZ h];exact⟨by rw[List.zip_append l];rfl,by simp[l]⟩
theorem bD.kp{K:Frag}{F:Hp}{j:Key}{v:V}{t:T}(r:Rep K F v t){ks:List Key}{xs:Β}{ts:List T}(h:bD K F xs ts):bD K F (kpT ks xs j v) (kpT ks ts j t):=by
 unfold kpT;by_cases z:zQ ks j=true
 .rw[ZY z,ZY z]
  clear z
  induction ks generalizing xs ts with
  |nil=>exact .nil
  |cons k ks ih =>
   cases h with
   |nil=>exact .nil
   |cons a b =>
    rw[List.zipWith_cons_cons,List.zipWith_cons_cons];refine .cons ?_ (ih b);by_cases y:k=j
    .rw[ZY y,ZY y];exact r
    .rw[ZZ y,ZZ y];exact a
 .rw[ZZ z,ZZ z];exact h.app (.cons r .nil)
section
variable{X:Cx}{a b c e:Expr}{ra rb rc re:RE}{pos p:Pos}
def RD(i:Nat)(a b:RE):RS:=λE o=>match slot o i with|.d1 ks ts=>a o λy=>b o λk=>∃j,Ju (frz k)=some j/\ks.length<sizeLine/\E.nx (o.set i (.d1 (kpK ks j) (kpT ks ts j (frz y))))|_=>False
theorem SR.d1{K:Frag}{own:zz}{H:Hp}{σ:L2.St}{o:List OT}(h:SR K own H σ o){i:Nat}{ks:List Key}{ts:List T}(e:slot o i=.d1 ks ts):∃l xs,σ[i]?=some (some (.ref l))/\own i=[l]/\H l=some (.dK (ks.zip xs))/\ks.length=xs.length/\bD K (hd (Ow own) H) xs ts:=by
 obtain⟨u,e1,l,xs,e2,e3,e4,r⟩:=h.val e (by intro z;cases z);cases e2;exact⟨l,xs,e1,e3,e4,r⟩
theorem yX(i:Nat){x:Str}{a7:Pos}(hu:X.A.units+1<cLine)(he:QE X e re)(hb:QE X b rb)(hN:X.N[i]?=some x:=by rfl)(hv:lR X.env.scope x=true:=by rfl)(aw:qq x:=by decide)(a9:qk x:=by decide)
 (hs:swapsWith e (some (.Subscript (.Name x p) b a7)) pos.line X.env=pure false:=by rfl):QS X (.Assign [.Subscript (.Name x p) b a7] e pos) (RD i re rb):=(Om hu (pv i hN hv aw a9) hb he hs).imp λD σ H hP=>by
 obtain⟨own,o,E,h,hr,L⟩:=hP;unfold RD at hr;cases es:slot o i with
 |d1 ks ts =>
  rw[es]at hr;obtain⟨l,xs,e1,e3,e4,ln,r⟩:=h.d1 es;refine tQ.mk h hr λH1 v y q E1 r1=>⟨_,e1,tQ.mk (h.same E1) q λH2 w z q E2 r2=>?_⟩;obtain⟨j,ek,sz,q⟩:=q;have dq:=E1.trans E2;cases Aj r2 ek;obtain⟨pk,pl⟩:=Kw (j:=j) (v:=v) ln;have lz:(ks.zip xs).length<sizeLine:=by rw[UY,<- ln,VT];exact sz
  refine⟨l,_,rfl,.inl ⟨_,j,dq _ _ e4,rfl,lz,rfl⟩,?_⟩;rw[pk];obtain⟨h',S⟩:=(h.same dq).chg (eF es (by intro z;cases z)) (y:=.d1 (kpK ks j) (kpT ks ts j (frz y))) (H':=upd H2 l (.dK ((kpK ks j).zip (kpT ks xs j v)))) (λb u hb e=>(bJ λz=>hb (by rw[e3,z];simp)).trans e) (by
   rw[e1,rM ⟨i,by rw[e3];simp⟩];exact⟨l,_,rfl,e3,bK,pl,bD.kp (r1.same (bF E2)) (r.same (bF dq))⟩)
  exact L.nx own _ σ _ q ((bF dq).trans S) h'
 |_=>rw[es]at hr;exact hr.elim
def RN(i:Nat)(a b:RE):RE:=λo q=>match slot o i with|.d1 ks ts=>a o λy=>b o λz=>∃j,Ju (frz y)=some j/\q (.fz ((jr ks ts j).getD (frz z)))|_=>False
theorem Oj(i:Nat){x:Str}{ag cpos:Pos}(hu:X.A.units+1<cLine)(ha:QE X a ra)(hb:QE X b rb)(m:M2 X (.Name x p) "get" ag a b cpos:=by first|exact⟨rfl,rfl,rfl,rfl⟩|constructor<;>rfl)(hN:X.N[i]?=some x:=by rfl)(hv:lR X.env.scope x=true:=by rfl)(aw:qq x:=by decide)(a9:qk x:=by decide) :
  QE X (.Call (.Attribute (.Name x p) "get" ag) [a,b] [] cpos) (RN i ra rb):=(NP hu (pv i hN hv aw a9) ha hb m).imp λσ H Q hP=>by
 obtain⟨own,o,R,h,hr,k⟩:=hP;unfold RN at hr;cases es:slot o i with
 |d1 ks ts =>
  rw[es]at hr;obtain⟨l,xs,e1,e3,e4,ln,r⟩:=h.d1 es;refine⟨_,e1,l,rfl,.inl ⟨_,.inl e4⟩,tQ.mk h hr λH1 v y q E1 r1=>tQ.mk (h.same E1) q λH2 w z q E2 r2=>?_⟩;obtain⟨j,ek,q⟩:=q;have dq:=E1.trans E2;cases Aj r1 ek;refine⟨_,rN.k (dq _ _ e4),?_⟩;have r:=r.same (bF dq);cases z1:jr ks ts j with
  |none =>
   rw[z1]at q;rw[(qU r).2 z1];exact k H2 _ _ q dq (NR.fz r2)
  |some t =>
   rw[z1]at q;obtain⟨u,e5,r5⟩:=(qU r).1 t z1;rw[e5];exact k H2 _ _ q dq (NR.fz r5)
 |_=>rw[es]at hr;exact hr.elim
def kT:Key->T
 |.inl i=>.int i
 |.inr s=>.str s
def Ls(f:List Key->List T->List T)(i n:Nat)(g:qB)(c:RT)(e:RE):RS:=λE o=>match slot o i with
 |.d1 ks ts=>ks.length<=sizeLine/\jD g c e (List.replicate n .und++o.set i (.fz (.dct ks ts))) (f ks ts) λus=>E.rt (.l1 us)
 |_=>False
def iW(J:Addr->Obj->List (Key×V)->It)(te:TE):TI:=λσ H R=>te σ H λx H1=>∃a kvs,x=.ref a/\H1 a=some (.dK kvs)/\∀o,R (J a o kvs) (upd H1 a (.frz o (.dK kvs)))
abbrev Wu:=Ls λks _=>ks.map kT
theorem Pq{K:Frag}{a:Addr}{ob:Obj}{ks:List Key}{xs:Β}{F:Hp}(l:ks.length=xs.length)(e:F a=some (.frz ob (.dK (ks.zip xs)))):Wlk K (Itk a ob (ks.zip xs)) F (ks.map kT):=λS H i _ SF=>by
 have eH:=(cF (SF _ _ e)).2;have lz:(ks.zip xs).length=ks.length:=by rw[UY,<- l,VT]
 refine⟨λhi=>⟨eH,by rw[lz];simpa using hi⟩,λt ht=>?_⟩;rw[aq]at ht;cases z:ks[i]? with
 |none=>rw[z]at ht;cases ht
 |some k =>
  rw[z]at ht;cases ht;have hi:=(ao.mp z).1;refine⟨⟨eH,by rw[lz];exact hi⟩,?_⟩;rintro x H' ⟨rfl,k',y,e1,rfl⟩;rw[aj (by rw[lz];exact hi),List.getElem_zip]at e1;rw[aj hi]at z;cases z;cases e1;refine⟨.refl _,?_⟩;cases ks[i]with
  |inl j=>exact .int _
  |inr s=>exact .str _
theorem Py{J:Addr->Obj->List (Key×V)->It}{f:List Key->List T->List T}{iter tg a8:Expr}{aS:List Expr}{g:qB}{rc:RT}{scope:Scope}{cpos:Pos}(i:Nat)(pi:PI X tg iter (iW J (P0 i)))(wk:∀{a ob ks xs ts F},ks.length=xs.length->F a=some (.frz ob (.dK (ks.zip xs)))->bD X.K F xs ts->Wlk X.K (J a ob (ks.zip xs)) F (f ks ts)/\(f ks ts).length=ks.length)(sc:Scope)(N N' xs:Θ)(hg:∀{C s₀ H₀ ex pn},QG (X.compG N' scope xs C s₀ H₀ ex pn) xs.length tg g)(ht:∀{C s₀ H₀ ex pn},QTs (X.compG N' scope xs C s₀ H₀ ex pn) aS rc)(he:∀{C s₀ H₀ ex pn},QE (X.compG N' scope xs C s₀ H₀ ex pn) a8 re)
 (c0:X.env.scope=sc:=by rfl)(c9:X.N=N:=by rfl)(hc:X.calm=true:=by rfl)(hk:scope.kind=.function:=by rfl)(h:CK sc scope N N' xs:=by decide +kernel)(hs:qi X iter) :
  QS X (.Return (some (.ListComp a8 [⟨tg,iter,aS,0⟩] scope cpos)) pos) (Ls f i xs.length g rc re):=(z9 (R3 (gt:=tQG X.K xs.length g) (tc:=tQT X.K rc) (te:=tQ X.K re) sc N N' xs pi hg ht he c0 c9 hc hk h hs)).imp λD σ H hP=>by
 obtain⟨own,o,E,h,hr,L⟩:=hP;unfold Ls at hr;cases es:slot o i with
 |d1 ks ts =>
  rw[es]at hr;obtain⟨l,ys,e1,e3,e4,ln,r⟩:=h.d1 es;refine⟨_,e1,l,_,rfl,e4,λob DD nD=>?_⟩;have eo:∀b,Ow (own1 own i []) b->Ow own b/\b≠l:=λb hP=>by
   obtain⟨j,z⟩:=hP;by_cases y:j=i
   .rw[y,dX]at z;cases z
   .rw[cL y]at z;exact⟨⟨j,z⟩,λw=>y (h.dis j i b z (by rw[e3,w];simp))⟩
  have nl:¬Ow (own1 own i []) l:=λz=>(eo l z).2 rfl;have ol:Ow own l:=⟨i,by rw[e3];simp⟩;have S1:Same (hd (Ow own) H) (hd (Ow (own1 own i [])) (upd H l (.frz ob (.dK (ks.zip ys))))):=λb u e=>by
   obtain⟨n,e⟩:=cF e;rw[bO λz=>n (eo b z).1,bJ λ(z:b=l)=>n (z.symm ▸ ol)];exact e
  have h1:SR X.K (own1 own i []) (upd H l (.frz ob (.dK (ks.zip ys)))) σ (o.set i (.fz (.dct ks ts))):=by
   have hi:i<o.length:=(ao.mp (eF es (by intro z;cases z))).1;refine⟨by rw[X9,h.len],λj y e'=>?_,λj hj a ha=>?_,λj k a z1 z2=>?_⟩
   .by_cases z:j=i
    .subst z;rw[WU hi]at e';cases e';rw[dX,e1];exact⟨rfl,_,rfl,.dct (.inr ⟨ob,by rw[bO nl];exact bK⟩) ln (r.same S1)⟩
    .rw[WV (Ne.symm z)]at e';rw[cL z];exact((h.sl j y e').same S1 (.refl _)).off λb hb u e=>(bJ λw=>z (h.dis j i b hb (by rw[e3,w];simp))).trans e
   .rw[X9]at hj;rw[cL (by lia)]at ha;obtain⟨xs,e⟩:=h.out j hj a ha;exact⟨xs,(bJ λw=>by have:=h.dis j i a ha (by rw[e3,w];simp);lia).trans e⟩
   .by_cases z:j=i
    .rw[z,dX]at z1;cases z1
    by_cases y:k=i
    .rw[y,dX]at z2;cases z2
    .rw[cL z]at z1;rw[cL y]at z2;exact h.dis j k a z1 z2
  have L1:=L.step S1;obtain⟨wk,wl⟩:=wk ln (by rw[bO nl];exact bK) (r.same S1);refine Dd h1 wk (by rw[wl];exact hr.1) hr.2 nD λH' v y rx E n=>?_;obtain⟨B,nb,s⟩:=n;exact L1.rt _ H' v y B rx (f9 (λb z=>z.imp id (nb b)) E) s λa ha=>.inr ha
 |_=>rw[es]at hr;exact hr.elim
theorem Qt{tg a8:Expr}{aS:List Expr}{g:qB}{rc:RT}{scope:Scope}{x:Str}{cpos:Pos}(i:Nat)(sc:Scope)(N N' xs:Θ)(hg:∀{C s₀ H₀ ex pn},QG (X.compG N' scope xs C s₀ H₀ ex pn) xs.length tg g)(ht:∀{C s₀ H₀ ex pn},QTs (X.compG N' scope xs C s₀ H₀ ex pn) aS rc)(he:∀{C s₀ H₀ ex pn},QE (X.compG N' scope xs C s₀ H₀ ex pn) a8 re)
 (hN:X.N[i]?=some x:=by rfl)(hv:lR X.env.scope x=true:=by rfl)(aw:qq x:=by decide)(a9:qk x:=by decide)
 (c0:X.env.scope=sc:=by rfl)(c9:X.N=N:=by rfl)(hc:X.calm=true:=by rfl)(hk:scope.kind=.function:=by rfl)(h:CK sc scope N N' xs:=by decide +kernel)(hs:∀z,foldedSetIterable (.Name x p) X.env z=pure z:=by intro _;rfl) :
  QS X (.Return (some (.ListComp a8 [⟨tg,.Name x p,aS,0⟩] scope cpos)) pos) (Wu i xs.length g rc re):=Py i (Qq (tg:=tg) (pv i hN hv aw a9)) (λl e _=>⟨Pq l e,by rw[ak]⟩) sc N N' xs hg ht he c0 c9 hc hk h hs
end
section
variable{X:Cx}
theorem bD.strs{K:Frag}{F:Hp} : ∀{xs:Β}{ys:Θ},bD K F xs (ys.map T.str)->xs=ys.map V.str
 |_,[],h=>by cases h;rfl
 |_,y::ys,h=>by
  cases h with
  |cons a b =>
   cases a;rw[bD.strs b];rfl
def rJn(a:RE)(r:RA):RE:=λo q=>a o λx=>match frz x with
 |.str s=>r o λus=>∃ys:Θ,us=[.lst (ys.map T.str)]/\(ys.map (·.length)).sum+ys.length*s.length<=16777216/\q (.fz (.str (Txt.join s ys)))
 |_=>False
theorem Qk{o e:Expr}{ra:RE}{r:RA}{ag cpos:Pos}(ho:QE X o ra)(ha:QA X [e] r)(hb:attributeBase o "join" X.env (eval o X.env)=eval o X.env:=by rfl)
 (hf:qh X cpos e:=by rfl)
 (hl:zk ag cpos:=by rfl)(hs:qf X e []:=by rfl)(hp:qo X cpos []:=by rfl) :
  QE X (.Call (.Attribute o "join" ag) [e] [] cpos) (rJn ra r):=by
 refine(Yd PySem.F.slot_str_join PySem.F.type_str_join Qg ho ha hb hf hl hs hp).imp λσ H Q hP=>?_;obtain⟨own,o,R,h,hr,k⟩:=hP;refine tQ.mk h hr λH1 v x q E1 r1=>?_;cases ex:frz x with
 |str s =>
  rw[ex]at q r1;cases r1;refine⟨⟨s,rfl⟩,tQA.mk (h.same E1) q λH2 vs us q2 _ E2 r2=>?_⟩;obtain⟨ys,rfl,lz,q3⟩:=q2;obtain⟨y,rfl,ry⟩:=r2.one;obtain⟨p,xs,rfl,e,rx⟩:=ry.lstI;exact⟨s,p,ys,rfl,rfl,rx.strs ▸ (cF e).2,lz,k H2 _ _ q3 (E1.trans E2) (NR.fz (.str _))⟩
 |_=>rw[ex]at q;exact q.elim
def notStar:Expr->Bool
 |.Starred ..=>false
 |_=>true
theorem S7{e:Expr}{es:List Expr}{env:Env}(h:notStar e=true):starEach (e::es) env=(false,eval e env)::starEach es env:=by
 cases e<;>first|rfl|cases h
structure QEB(X:Cx)(e:Expr)(r:RE):Prop where
 out:QE X e r
structure QAB(X:Cx)(es:List Expr)(r:RA):Prop where
 out:QA X es r
theorem g_{e:Expr}{r:RE}(h:QE X e r):QEB X e r:=⟨h⟩
theorem bZ{i j pos} : QEB X (.Constant (.int i) j pos) (rC (.int i)):=⟨aZ⟩
theorem Kc{op:Operator}{g:qA}{a b:Expr}{ra rb:RE}{pos:Pos}(ho:GO X (binaryOp op) g)(ha:QEB X a ra)(hb:QEB X b rb):QEB X (.BinOp a op b pos) (rOp g ra rb):=⟨bA ho ha.out hb.out⟩
theorem gj:QAB X [] Ov:=⟨bf⟩
theorem bC{e:Expr}{es:List Expr}{a:RE}{r:RA}(ha:QEB X e a)(hr:QAB X es r)(hn:notStar e=true:=by rfl):QAB X (e::es) (Mz a r):=⟨aY ha.out hr.out (S7 hn)⟩
theorem lF{es:List Expr}{r:RA}{pos:Pos}{k:Nat}(h:QAB X es r)(hz:es.length<=sizeLine:=by decide):QEB X (.Tuple es k pos) (R9 r):=⟨cJ h.out hz⟩
theorem pI{es:List Expr}{r:RA}{pos:Pos}(h:QAB X es r)(hz:es.length<=sizeLine:=by decide):QEB X (.List es pos) (Zv r):=⟨cZ h.out hz⟩
def aaY(n:Nat)(gs:qE):qB
 |.lst ts,o,q=>ts.length=n/\gs ts o q
 |_,_,_=>False
theorem T5{pos:Pos}{m:Nat}{es:List Expr}{k:Nat}{gs:qE}{n:Nat}(hc:X.calm=true)(h:QGs X m es gs)(hn:(assignEach es X.env).length=n:=by rfl)(be:zw X es:=by rfl):QG X m (.Tuple es k pos) (aaY n gs):=(Q6 hc h hn be).imp λv σ H Q hP=>by
 obtain⟨own,o,t,R,h,r,hg,k⟩:=hP;cases t<;>try exact hg.elim
 obtain⟨a,xs,rfl,e,r⟩:=r.lstI;exact⟨a,xs,rfl,SqL.of (cu _ _ e),r.len.trans hg.1,own,o,_,R,h,r,hg.2,k⟩
end
section
variable{a b c d e f x y:RS}{E:DT}{o:List OT}
theorem sq1(J:List OT->Prop)(k:∀o',J o'->y E o')(h:∀Y:List OT->Prop,(∀o',J o'->Y o')->ju x (λ_=>Y) E o):ju x y E o:=h (y E) k
theorem sq2(J:List OT->Prop)(k:∀o',J o'->y E o')(h:∀Y:List OT->Prop,(∀o',J o'->Y o')->ju a (ju x (λ_=>Y)) E o):ju a (ju x y) E o:=h (y E) k
theorem sq3(J:List OT->Prop)(k:∀o',J o'->y E o')(h:∀Y:List OT->Prop,(∀o',J o'->Y o')->ju a (ju b (ju x (λ_=>Y))) E o):ju a (ju b (ju x y)) E o:=h (y E) k
theorem sq4(J:List OT->Prop)(k:∀o',J o'->y E o')(h:∀Y:List OT->Prop,(∀o',J o'->Y o')->ju a (ju b (ju c (ju x (λ_=>Y)))) E o):ju a (ju b (ju c (ju x y))) E o:=h (y E) k
end
abbrev XC:=Addr->Θ->List T->Prop
abbrev SX:=List T->(OT->Prop)->XC->Prop
def spX(K:Frag)(S:SX):Sp:=λvs H Q E=>∃ts R Z,bD K H vs ts/\S ts R Z/\(∀H' v x,R x->Same H H'->NR K (λ_=>False) H H' v x->Q v H') /\
 ∀H' C d ks us ax,Z C ks ax->Same H H'->tV H' d (ks.zip us)->bD K H' us ax->E (.ref C) d H'
abbrev Br(P:Program)(w:World)(K:Frag)(mg:Str->Ψ)(base:Heap)(k:Nat)(x:Str)(ps:Θ)(S:SX):Prop:=OkX P w K mg base k x ps (spX K S)
section
variable{P:Program}{w:World}{K:Frag}{mg:Str->Ψ}{base:Heap}
theorem Fun.okTX{x ac:Str}{st:Stmt}{f:Addr}{fd:FuncData}{N ps:Θ}{k:Nat}{S:SX}(F:Fun K x ac st f fd)(sc:bG N ps (bw st))
 (a6:∀(af:Value)(A:Around)(outer:List Env)(s:Shared)(H:Hp)(E:XK),cA k (A.deeper (envOfC ac (bw st) s.heap.objs.size f af))->N.Nodup ->
   ∃r,QSs (n_ (CXO P w) P w K mg base N ac (bw st) f af A outer s H E) (cR st) r/\∀ts R Z,S ts R Z->r { nx:=λ_=>R (.fz .non),rt:=R,xc:=Z } (start' N.length ts))(len:∀ts R Z,S ts R Z->ts.length=ps.length:=by intro _ _ _ h;repeat (first|exact(ZH List.length h.1).trans rfl|obtain⟨_,h⟩:=h)):cH P w K mg base (CXO P w) (k+1) f fd ps (spX K S):=by
 refine F.okX sc (λvs H Q E h=>?_) λaf A outer s H vs Q E hr h=>?_
 .obtain⟨ts,R,Z,r,hS,_⟩:=h;exact r.len.trans (len ts R Z hS)
 .obtain⟨ts,R,Z,r,hS,q,qx⟩:=h;obtain⟨rd,h1,h2⟩:=a6 af A outer s H E hr sc.nd;have e0:=Ip (H:=H);have am:=LR q;refine⟨_,h1,λ_=>[],_,_,SR.start r N,h2 ts R Z hS,⟨λown H' σ o rx E h=>?_,λS' H' v x B rx E s hB=>am S' H' v x B rx (e0 ▸ E) s hB,λ_ _ _ _ z=>z.elim,λ_ _ _ _ z=>z.elim,λH' C d ks us ax z E e r'=>?_⟩⟩
  .exact am (Ow own) H' .non _ [] rx (e0 ▸ E) ⟨rfl,_,rfl,.non⟩ λ_ z=>(nomatch z)
  .have e1:=qx H' C d ks us ax z (e0 ▸ E) e r';exact⟨λaa σ H2 s2 a s' B I F2=>Hu aa σ H2 s2 a _ H' s' B _ I F2 e1,λaa σ H2 s2 a c ec I ha ge eo=>yK aa σ H2 s2 a c _ I ha ge (by rw[eo,<- ec];exact e1),λdn aa σ s2 a vs h1 I M=>Cw aa σ H' s2 a _ vs h1 I M (by rw[<- dn];exact e1),λaa σ H2 s2 a s' B fv I F2=>Dp aa σ H2 s2 a _ H' s' B _ fv I F2 e1⟩
end
section
variable{X:Cx}
theorem EY:tD X λC d _ H'=>zx X C d H':=λaa σ H s a C H' s' B d I F z=>z.1 aa σ H s a s' B I F
theorem K1:Ga X λC d _ H'=>zx X C d H':=λaa σ H s a C d I e g z=>z.2.1 aa σ H s a C rfl I e g rfl
theorem O9:La X λC d _ H'=>d=none/\zx X C d H':=λaa σ H s a C vs h1 I M z=>z.2.2.2.1 rfl aa σ s a vs h1 I M
theorem Oi:G4 X λC d H'=>zx X C d H':=λaa σ H s a C H' s' B d fv I F z=>z.2.2.2 aa σ H s a s' B fv I F
def Vv(S:SX)(r:RA):RS:=λE o=>r o λts=>S ts (λ_=>E.nx o) E.xc
theorem Lx{p pos ay:Pos}{e:Expr}{es:List Expr}{r:RA}{x:Str}{k:Nat}{ps:Θ}{S:SX}(G:Br X.prog X.w X.K X.mg X.base k x ps S)(ha:QA X (e::es) r)(hr:cA k X.A:=by exact cA.mono (by assumption) (by decide))(hg:Gl X x:=by rfl)(aI:qq x:=by decide)
 (he:qf X e es:=by rfl)(aE:qo X pos es:=by rfl)
 (hs:swapsWith (.Call (.Name x p) (e::es) [] pos) none ay.line X.env=pure false:=by rfl):QS X (.Expr (.Call (.Name x p) (e::es) [] pos) ay) (Vv S r) :=
 (kY (wR G hr hg EY ha aI he aE) hs).imp λD σ H ⟨own,o,E,h,hr,L⟩=>tQA.mk h hr λH1 vs ts q _ E1 r1=>by
  refine⟨ts,_,_,r1.same cu,q,λH' v x q S n=>?_,λH' C d ks us ax z S e r'=>L.xc H' C d ks us ax z (cu.trans (E1.trans S)) e r'⟩;exact L.nx own H' σ o q (bF (E1.trans S)) (h.same (E1.trans S))
def Ss(C:Addr)(bv:Str):Sp:=λvs H Q _=>∃a v,vs=[.ref a,v]/\H a=some (XN a C none)/\∀d,H d=none->d≠a->Q .non (upd (upd H a (XN a C (some d))) d (.xd [(bv,v)]))
theorem Vy{H:Hp}{a d:Addr}{o o' x:HO}(n:H a=none)(e:d≠a):out (upd (upd (upd H a o) a o') d x) a=upd H d x:=by
 funext b
 by_cases z:b=a
 .subst z;rw[CV,bJ (Ne.symm e),n]
 .rw[mX z];by_cases y:b=d
  .subst y;rw[bK,bK]
  .rw[bJ y,bJ z,bJ z,bJ y]
def Sv(C:Addr)(bv:Str)(re:RE):RS:=λE o=>re o λx=>E.xc C [bv] [frz x]
theorem N8{x bv:Str}{np cpos pos:Pos}{e:Expr}{re:RE}{C HE fI:Addr}{k:Nat}{ps:Θ}(hc:X.calm=true)(hm:X.mg x=some (.ref C))(q:za X.K C HE fI)(G:zv X CX0 k fI ps (Ss C bv))(ha:QE X e re)(hr:cA (k+1) X.A:=by exact cA.mono (by assumption) (by decide))(hg:Gl X x:=by rfl)(aI:qq x:=by decide)
 (he:qf X e []:=by rfl)(aE:qo X cpos []:=by rfl) :
  QS X (.Raise (some (.Call (.Name x np) [e] [] cpos)) none pos) (Sv C bv re) :=
 (Ji hc hg hm q G hr K1 (aY ha bf he) aI he aE).imp λD σ H ⟨own,o,E,h,hr,L⟩=>tQA.mk h hr λH1 vs ts q ln E1 r1=>by
  obtain⟨t,rfl⟩ : ∃t,ts=[t]:=by
   match ts,ln with
   |[t],_=>exact⟨t,rfl⟩
  obtain⟨v,rfl⟩ : ∃v,vs=[v]:=by
   match vs,r1.len with
   |[v],_=>exact⟨v,rfl⟩
  refine⟨(show 1<=sizeLine by decide),λa ha=>⟨a,v,rfl,bK,λd hd da=>⟨rfl,some d,(bJ (Ne.symm da)).trans bK,?_⟩⟩⟩;rw[Vy ha da];have aw:H1 d=none:=by rw[bJ da]at hd;exact hd
  exact L.xc _ C (some d) [bv] [v] _ q (cu.trans (E1.trans (Same.upd aw))) bK (r1.same (cu.trans (Same.upd aw)))
end
end L2

namespace L2
open PySem PySem.Spec PyProof.Rows
def M_(sp:Sp):Sp:=λvs H Q E=>∃S:Addr->Prop,Hid H S/\sp vs (hd S H) (λv G=>(∀b,S b->G b=none)->Q v (mrg S H G)) λC d G=>(∀b,S b->G b=none)->E C d (mrg S H G)
section
variable{P:Program}{w:World}{K:Frag}{mg:Str->Ψ}{base:Heap}
theorem cH.hidX{k:Nat}{f:Addr}{fd:FuncData}{ps:Θ}{sp:Sp}(F:cH P w K mg base (CXO P w) k f fd ps sp):cH P w K mg base (CXO P w) k f fd ps (M_ sp):=by
 refine⟨λvs H Q E h=>?_,λA outer s H args us vs Q E hr e0 hb r h=>?_⟩
 .obtain⟨S,_,z⟩:=h;exact F.len vs _ _ _ z
 obtain⟨S,hS,z⟩:=h;have non:∀{b:Addr},H b=none->hd S H b=none:=λ{b}e=>by
  by_cases z:S b
  .exact jK z
  .rw[bO z];exact e
 have bp:∀{b:Addr}{u:HO},S b->H b=some u->(∀xs,u≠.tup xs)/\(∀o v,u≠.frz o v)/\∀ps,u≠.tbl ps:=λ{b u}z e=>by
  obtain⟨o,q,w⟩:=hS.sole b z;rw[e]at q;cases q;rcases w with⟨_,rfl⟩|⟨_,rfl⟩|⟨_,_,_,rfl⟩|⟨_,rfl⟩<;>exact⟨λ_ z=>(nomatch z),λ_ _ z=>(nomatch z),λ_ z=>(nomatch z)⟩
 have e1:Aa P w K mg base A outer s (hd S H):=⟨e0.frames,e0.mod,λb o e=>⟨(e0.bs b o e).1,non (e0.bs b o e).2⟩,e0.bsz,e0.funs,λb hb=>non (e0.frf b hb),λb u e=>by
  obtain⟨nb,e'⟩:=cF e;refine(e0.hok b u e').stay (λ_ _ _ z=>z) (λd z=>?_) λd xs z=>?_
  .rw[bO λy=>nb (hS.own d b y z)];exact z
  .rw[bO λy=>(bp y z).1 xs rfl];exact z,e0.bare⟩
 have there:∀{b:Addr},S b->∃o,s.heap.get? b=some o:=λ{b}y=>by
  obtain⟨u,e,w⟩:=hS.sole b y;have x:=e0.hok b u e;rcases w with⟨xs,rfl⟩|⟨kk,rfl⟩|⟨C,d,f,rfl⟩|⟨y,rfl⟩
  .obtain⟨_,_,_,_,e2⟩:=x;exact⟨_,e2⟩
  .obtain⟨_,_,_,_,_,_,_,e2,_⟩:=x;exact⟨_,e2⟩
  .obtain⟨_,_,_,e2,_⟩:=x;exact⟨_,e2⟩
  .exact x
 have nofr:∀{b:Addr},S b->b∉frs outer:=λ{b}y z=>(hS.sole b y).ne (e0.frf b z)

 have bv:∀{G:Hp}{s':Shared},Un (frs outer) [] (hd S H) G s.heap s'.heap->HOk P w G s'.heap->(∀b,S b->G b=none)/\Un (frs outer) [] H (mrg S H G) s.heap s'.heap/\HOk P w (mrg S H G) s'.heap:=λ{G s'}un hok=>by
  have keep:∀{b:Addr}{o:Obj},S b->s.heap.get? b=some o->s'.heap.get? b=some o:=λ{b o}y e=>un.keep b o e (jK y) (nofr y) (by simp);have ah:∀b,S b->G b=none:=λb y=>by
   obtain⟨o,ho⟩:=there y;exact un.free b o ho (jK y) (by simp)
  have kF:∀{b:Addr}{u:HO},G b=some u->¬S b:=λe z=>by rw[ah _ z]at e;cases e
  have cy:∀{b:Addr}{u:HO},G b=some u->mrg S H G b=some u:=λe=>(cY (kF e)).trans e;refine⟨ah,⟨λb o e n=>un.keep b o e (non n),λb o e n=>un.slot b o e (non n),λb o e n z=>?_,un.there,λb xs e=>?_,λb o u e=>?_,λb ps e=>?_⟩,λb u e=>?_⟩
  .rw[cY λy=>(hS.sole b y).ne n];exact un.free b o e (non n) z
  .exact cy (un.tups b xs ((bO λy=>(bp y e).1 xs rfl).trans e))
  .exact cy (un.frzs b o u ((bO λy=>(bp y e).2.1 o u rfl).trans e))
  .obtain⟨more,this⟩:=un.tbls b ps ((bO λy=>(bp y e).2.2 ps rfl).trans e);exact⟨more,cy this⟩
  .by_cases z:S b
   .rw[jA z]at e;have x:=e0.hok b u e;obtain⟨u',e',w⟩:=hS.sole b z;rw[e]at e';cases e';rcases w with⟨xs,rfl⟩|⟨kk,rfl⟩|⟨C,d,f,rfl⟩|⟨y,rfl⟩
    .obtain⟨z1,its,n,r,e2⟩:=x;exact⟨z1,its,n,r,keep z e2⟩
    .obtain⟨z1,y,vs,r,ob,es,ep,e2,c⟩:=x;exact⟨z1,y,vs,r,ob,es,ep,keep z e2,c⟩
    .obtain⟨d1,z1,ne,e2,mA,⟨od,es,ep,e3,c⟩,r⟩:=x;have sd:=hS.ins b C d f z e;exact⟨(jA sd).trans d1,z1,ne,keep z e2,mA,⟨od,es,ep,keep sd e3,c⟩,r⟩
    .obtain⟨ob,e2⟩:=x;exact⟨ob,keep z e2⟩
   .rw[cY z]at e;exact(hok b u e).stay (λ_ _ _ z=>z) (λd z=>cy z) λd xs z=>cy z
 refine codeAny_mono (F.run A outer s (hd S H) args us vs _ _ hr e1 hb r z) λres s' hs=>?_;cases res with
 |error e =>
  obtain⟨a,C,d,G,B,rfl,fl,q⟩:=hs;obtain⟨ah,un,hok⟩:=bv fl.un fl.hok;refine⟨a,C,d,mrg S H G,B,rfl,⟨fl.os,fl.bare,fl.new,un,hok,λb hb=>?_,fl.fl,λb o e hb hc=>fl.cov b o e hb ?_⟩,q ah⟩
  .rw[cY λy=>nofr y hb];exact fl.frf b hb
  .rcases hc with h|⟨u,h⟩
   .exact .inl h
   .by_cases y:S b
    .obtain⟨o',e'⟩:=there y;exact .inl ⟨o',e'⟩
    .rw[cY y]at h;exact .inr ⟨u,h⟩
 |ok fl =>
  cases fl with
  |next=>exact False.elim hs
  |brk=>exact False.elim hs
  |cont=>exact False.elim hs
  |ret u =>
   obtain⟨v,G,os,bare,un,hok,rv,q⟩:=hs;obtain⟨ah,un,hok⟩:=bv un hok;exact⟨v,mrg S H G,os,bare,un,hok,rv,q ah⟩
end
section
variable{K:Frag}{own:zz}{H:Hp}{σ:L2.St}{o:List OT}
theorem SR.und(h:SR K own H σ o)(i:Nat):∃ae,SR K ae H (σ.set i none) (o.set i .und)/\Same (hd (Ow own) H) (hd (Ow ae) H):=by
 have le:Same (hd (Ow own) H) (hd (Ow (own1 own i [])) H):=f9 (λb z=>.inl (z.of1.elim id λy=>(nomatch y))) λ_ _ z=>z;by_cases hi:i<o.length
 .refine⟨own1 own i [],⟨by rw[X9,X9,h.len],λj y e=>?_,λj hj a ha=>?_,λj k a e1 e2=>?_⟩,le⟩
  .by_cases z:j=i
   .subst z;rw[WU hi]at e;cases e;exact dX
   .rw[WV (Ne.symm z)]at e;rw[cL z,WV (Ne.symm z)];exact(h.sl j y e).same le λ_ _ z=>z
  .rw[X9]at hj;rw[cL (by omega)]at ha;exact h.out j hj a ha
  .by_cases z:j=i
   .rw[z,dX]at e1;cases e1
   by_cases y:k=i
   .rw[y,dX]at e2;cases e2
   .rw[cL z]at e1;rw[cL y]at e2;exact h.dis j k a e1 e2
 .refine⟨own,?_,.refl _⟩;rw[UX (Nat.not_lt.mp hi),UX (h.len ▸ Nat.not_lt.mp hi)];exact h
theorem SR.caught(h:SR K own H σ o){Hx G:Hp}(E:Same H Hx)(ah:∀b,Ow own b->G b=none)(EG:Same G Hx){C a:Addr}{d:Ω}{ks:Θ}{us:Β}{ts:List T}(ed:tV G d (ks.zip us))(l:ks.length=ts.length)(r:bD K G us ts)(na:Hx a=none){i j:Nat}(ij:i≠j) :
  ∃ae,SR K ae (upd Hx a (XO a C d)) (((σ.set i (some (.ref a))).set j (some (.ref a))).set i none) ((o.set j (.fz (.exc C ks ts))).set i .und)/\Same (hd (Ow own) H) (hd (Ow ae) (upd Hx a (XO a C d))):=by
 have U:Same Hx (upd Hx a (XO a C d)):=Same.upd na;have no:¬Ow own a:=λz=>(h.sole z).ne (E.free na);have EGn:Same G (hd (Ow own) (upd Hx a (XO a C d))):=λb u e=>by
  rw[bO λz=>by rw[ah b z]at e;cases e];exact U _ _ (EG _ _ e)
 have rep:Rep K (hd (Ow own) (upd Hx a (XO a C d))) (.ref a) (.exc C ks ts):=.exc (d:=d) ((bO no).trans bK) (ed.same EGn) (l.trans r.len.symm) (r.same EGn);obtain⟨own1,h2,S2⟩:=(h.same (E.trans U)).putA (.refl _) (NR.fz rep) j;obtain⟨az,h3,S3⟩:=h2.und i;refine⟨az,?_,(bF (E.trans U)).trans (S2.trans S3)⟩;rw[List.set_comm _ _ ij,List.set_set];exact h3
end
section
variable{X:Cx}
def R0(K:Frag)(D:Addr)(i j:Nat)(E:DT)(o:List OT):XC:=λC ks us=>(i<o.length/\ks.length=us.length/\mroIn K C (.ref D)=some true)/\E.nx ((o.set j (.fz (.exc C ks us))).set i .und)
def Wy(K:Frag)(D:Addr)(i j:Nat)(S:SX)(r:RA):RS:=λE o=>r o λts=>S ts (λ_=>E.nx o) (R0 K D i j E o)
theorem Rn(i j:Nat){x y n Dn:Str}{p pos ay f' np gm py pn h7:Pos}{e:Expr}{es:List Expr}{r:RA}{k:Nat}{ps:Θ}{S:SX}{D:Addr}(hN:X.N.Nodup)(G:Br X.prog X.w X.K X.mg X.base k x ps S)(hr:cA k X.A)(k6:X.mg Dn=some (.ref D))(qD:mroIn X.K D (.type "BaseException")=some true)(hJ:typeIn X.K (.ref D)=some (.type "type"))
 (ha:∀pn E,QA (X.tryc pn E) (e::es) r)(hg:Gl X x:=by rfl)(lb:Gl X Dn:=by rfl)(hi:X.N[i]?=some n:=by rfl)(hj:X.N[j]?=some y:=by rfl)(ij:i≠j:=by decide)(dL:X.env.scope.names.lookup n=some .local:=by rfl)(hly:Loc X.env.scope y:=by exact .inl rfl)(be:X.stack=X.env::X.outer:=by rfl)(bS:X.env.frame=some X.env.locals:=by rfl)(lp:X.ex=[]:=by rfl)
 (aI:qq x:=by decide)(iX:qq Dn:=by decide)(hdn:qq n:=by decide)(hcn:qk n:=by decide)(hvn:lR X.env.scope n=true:=by rfl)
 (he:qf X e es:=by rfl)(aE:qo X pos es:=by rfl)(hs:swapsWith (.Call (.Name x p) (e::es) [] pos) none ay.line X.env=pure false:=by rfl)
 (eS:swapsWith (.Name n pn) (some (.Name y py)) h7.line X.env=pure false:=by rfl)(hf:qr X y:=by first|exact .inl rfl|exact .inr rfl) :
  QS X (.Try [.Expr (.Call (.Name x p) (e::es) [] pos) ay] [.ExceptHandler (some (.Name Dn np)) (some n) [.Assign [.Name y py] (.Name n pn) h7] gm] [] [] f') (Wy X.K D i j S r):=by
 obtain⟨f,fd,F,b,hm,kp⟩:=G;refine(Lr (tb:=λEx=>Rz (Ng (M_ (spX X.K S)) Ex (tQA X.K (e::es).length r))) hN hi dL lb k6 qD hJ be bS lp (λpn E Ex hx=>t_ (kY (wR (X:=X.tryc pn E) (sp:=M_ (spX X.K S)) (t:=tQA X.K (e::es).length r) ⟨f,fd,F.hidX,b,hm,kp⟩ hr hg hx (ha pn E) aI he aE) hs)) (λa E=>t_ (Fe (X:=X.marked a E) hN hj hly (pv (X:=X.marked a E) i hi hvn hdn hcn) eS hf)) iX).imp ?_;rintro Dn σ H ⟨own,o,E,h,hr,L⟩;refine⟨λC' d' σ' Hx=>σ'=σ/\∃C d G ks us ts,C'=.ref C/\d'=d/\R0 X.K D i j E o C ks ts/\Same H Hx/\(∀b,Ow own b->G b=none)/\Same G Hx/\tV G d (ks.zip us)/\bD X.K G us ts,tQA.mk h hr λH1 vs ts q _ E1 r1=>?_,?_⟩
 .have h1:=h.same E1;have EH:∀{G:Hp},Same (hd (Ow own) H1) G->Same H1 (mrg (Ow own) H1 G):=λ{G}S b u e=>by
   by_cases z:Ow own b
   .rw[jA z];exact e
   .rw[cY z];exact S b u ((bO z).trans e)
  refine⟨Ow own,h1.hid,ts,_,_,r1,q,λG v x q S n ah=>?_,λG C d ks us ax z S e r' ah=>⟨rfl,C,d,G,ks,us,ax,rfl,rfl,z,E1.trans (EH S),ah,λb u e=>?_,e,r'⟩⟩
  .exact L.nx own _ σ o q (bF (E1.trans (EH S))) (h1.same (EH S))
  .rw[cY λz=>by rw[ah b z]at e;cases e];exact e
 .rintro _ _ σ' Hx ⟨rfl,C,d,G,ks,us,ts,rfl,rfl,⟨⟨io,l,mc⟩,q⟩,E1,ah,EG,ed,r'⟩;refine⟨C,rfl,mc,λa na=>?_⟩;obtain⟨ae,h',S'⟩:=h.caught E1 ah EG (C:=C) ed l r' na ij;exact⟨_,WU (h.len ▸ io),L.nx ae _ _ _ q S' h'⟩
def Tc(K:Frag)(cv:Value)(a:RE):RE:=λo q=>a o λx=>match frz x with|.exc C _ _=>n8 K C/\oT (kitOne K (.ref C) cv) λb=>q (.fz (.bl b))|_=>False
theorem Mh{K:Frag}{own:zz}{o:List OT}{H:Hp}{σ:L2.St}{ra:RE}{cv:Value}{c:V}{R:OT->Prop}{Q:VK}(h:SR K own H σ o)(rc:(∃T,c=.ty T/\cv=Value.type T)\/∃D,c=.ref D/\cv=Value.ref D)(hr:Tc K cv ra o R)(k:∀H' v x,R x->Same H H'->NR K (Ow own) H H' v x->Q v H'):tQ K ra σ H λv H1=>RL K [v,c] H1 Q:=tQ.mk h hr λH1 v x q E1 r1=>by
 revert r1 q
 generalize frz x=t;intro q r1;cases t<;>try exact q.elim
 obtain⟨a,d,xs,rfl,e,_⟩:=r1.excI;obtain⟨hx,q⟩:=q;obtain⟨b,eb,q⟩:=wL q;exact⟨a,_,d,c,cv,b,rfl,(cF e).2,rc,hx,eb,k _ _ _ q E1 (NR.fz (.bl _))⟩
theorem jd{a:Expr}{ra:RE}{y:Str}{p p2 pos:Pos}{D:Addr}(ha:QE X a ra)(hm:X.mg "isinstance"=none)(ir:X.mg y=some (.ref D))(hg:Gl X "isinstance":=by rfl)(iL:Gl X y:=by rfl)(i4:qq y:=by decide)
 (he:starEach (a::[.Name y p2]) X.env=(false,eval a X.env)::starEach [.Name y p2] X.env:=by rfl):QE X (.Call (.Name "isinstance" p) [a,.Name y p2] [] pos) (Tc X.K (.ref D) ra) :=
 (pJ yQ hg hm boot_isinstance (fL ha (fL (CZ iL ir i4) mR) he) (by decide) (by decide) he).imp λσ H Q hP=>by obtain⟨own,o,R,h,hr,k⟩:=hP;exact Mh h (.inr ⟨D,rfl,rfl⟩) hr k
theorem Ra{a:Expr}{ra:RE}{y:Str}{p p2 pos:Pos}{ty:String}(ha:QE X a ra)(hm:X.mg "isinstance"=none)(ir:X.mg y=none)(kM:bootBuiltins y=some (.type ty))(hg:Gl X "isinstance":=by rfl)(iL:Gl X y:=by rfl)(fq:y≠"__name__":=by decide)(i4:qq y:=by decide)
 (he:starEach (a::[.Name y p2]) X.env=(false,eval a X.env)::starEach [.Name y p2] X.env:=by rfl):QE X (.Call (.Name "isinstance" p) [a,.Name y p2] [] pos) (Tc X.K (.type ty) ra) :=
 (pJ yQ hg hm boot_isinstance (fL ha (fL (Iv (v:=.ty ty) iL ir kM rfl fq i4) mR) he) (by decide) (by decide) he).imp λσ H Q hP=>by obtain⟨own,o,R,h,hr,k⟩:=hP;exact Mh h (.inl ⟨ty,rfl,rfl⟩) hr k
def YS(K:Frag)(f:Str)(a:RE):RE:=λo q=>a o λx=>match frz x with|.exc C ks ts=>(n8 K C/\hasDictIn K C=true/\bR K C f)/\oT (lkF ks ts f) λt=>q (.fz t)|_=>False
theorem Qm{e:Expr}{re:RE}{f:Str}{pos:Pos}(he:QE X e re)(hb:qV X e f:=by rfl):QE X (.Attribute e f pos) (YS X.K f re):=(PB he hb).imp λσ H Q ⟨own,o,R,h,hr,k⟩=>tQ.mk h hr λH1 v x q E1 r1=>by
 revert r1 q
 generalize frz x=t;intro q r1;cases t<;>try exact q.elim
 obtain⟨a,d,xs,rfl,e,xd,l,r⟩:=r1.excI;obtain⟨⟨c1,c2,c3⟩,q⟩:=q;obtain⟨t,e6,q⟩:=wL q;obtain⟨v,e7,r7⟩:=(Hl r).1 t e6;cases d with
 |none =>
  rw[show _=[]from xd]at e7;cases e7
 |some d=>exact⟨a,_,d,_,v,rfl,(cF e).2,(cF xd).2,c1,c2,c3,e7,k H1 _ _ q E1 (NR.fz r7)⟩
end
end L2

namespace L2
open PySem PySem.Spec PyProof.Rows
section
variable{X:Cx}
theorem Cm{ds:List PyData}(h:SeqAt.shaped (.list ds)=true):PyData.canLayAll0 ds=true/\PyData.depthAll ds<=63:=by
 have a:=SeqAt.canLay_of_shaped h;have b:=SeqAt.depth_of_shaped h;unfold PyData.canLay0 at a;unfold PyData.depth at b;exact⟨a,by exact Nat.le_of_succ_le_succ b⟩
end
theorem cB{α:Type}{x:Option α}{b:α}{q:α->Prop}(e:x=some b)(h:q b):oT x q:=by rw[e];exact h
section
variable{X:Cx}
def gIn(neg:Bool)(t u:T)(q:OT->Prop):Prop:=∃d ds,t=ofD d/\u=ofD (.list ds)/\SeqAt.shaped d=true/\SeqAt.shaped (.list ds)=true/\q (.fz (.bl (xr neg (ds.any λy=>PyData.eqv y d))))
theorem KY{neg:Bool}{op:CmpOp}(h0:∀{A:Around}{E:Ξ}{s:Shared}{c x:Value}{xs:List PyData}{d:PyData}{as bs:Φ}{Q:Ξ},Reads s.heap c (.list xs) as->Reads s.heap x d bs->PyData.canLayAll0 xs=true->d.canLay0=true->A.units+1+min (PyData.depthAll xs) d.depth<cLine->Q (.bool (xr neg (xs.any λy=>PyData.eqv y d))) s->wpAny (model X.prog X.w) A (compareOp op x c) Q E s)(hu:X.A.units+64<cLine):GO X (compareOp op) (gIn neg):=λaa s σ H x y v u Q I rx ry h=>by
 obtain⟨S,t,w,R,_,hx,hy,⟨d,ds,rfl,rfl,sd,sl,q⟩,k⟩:=h;obtain⟨l1,l2⟩:=Cm sl;obtain⟨as,ra⟩:=I.readsK ((hx.shows d rfl (SeqAt.canLay_of_shaped sd)).same cu) rx;obtain⟨bs,rb⟩:=I.readsK ((hy.shows (.list ds) rfl (SeqAt.canLay_of_shaped sl)).same cu) ry;have:=Nat.min_le_left (PyData.depthAll ds) d.depth;exact h0 rb ra l1 (SeqAt.canLay_of_shaped sd) (by lia) ⟨.bl _,H,I,rfl,k H _ _ q (.refl _) (NR.fz (.bl _))⟩
theorem RG(hu:X.A.units+64<cLine):GO X (compareOp .In) (gIn false):=KY (λrc rx a b c q=>SeqAt.in_list_reads rc rx a b c q) hu
theorem Vr(hu:X.A.units+64<cLine):GO X (compareOp .NotIn) (gIn true):=KY (λrc rx a b c q=>SeqAt.notIn_list_reads rc rx a b c q) hu
end
section
variable{X:Cx}
theorem sX:∀{xs:Β}{us:Δ},xs.length=us.length->(∀(i:Nat)x u,xs[i]?=some x->us[i]?=some u->RelV x u)->Vals xs us
 |[],[],_,_=>.nil
 |x::xs,u::us,l,h=>.cons (h 0 x u rfl rfl) (sX (Nat.succ.inj l) λi y v e1 e2=>h (i+1) y v e1 e2)
 |[],_::_,l,_=>by cases l
 |_::_,[],l,_=>by cases l
theorem Fp(hc:X.calm=true):d7 X (.type "list") (λxs H Q=>∃a kvs,xs=[.ref a]/\Rd H a (.dK kvs)/\∀l,H l=none->Q (.ref l) (upd H l (.lst (kvs.map λp=>kV p.1)))):=by
 intro aa s σ H xs us Q I r h;obtain⟨a,kvs,rfl,ha,q⟩:=h;obtain⟨u,rfl,rx⟩:=vals1 r;cases rx;obtain⟨hz,hd,vs,rel,o,es,ep,e,ex,ed,ek,ko,en⟩:=sG I.hok ha;have hl:=rel.length;refine PySem.W.kdl_call (PySem.W.kdl_dict (knd:=eN X.prog X.w) (kvs:=vs) (ep:=ep) hd) (I.ok.hd hc) ⟨o,es,e,ex,ed,ek,ko,en⟩ (by lia) λh' tk acc c kp hS i9=>?_;have vl:Vals (kvs.map λp=>kV p.1) acc.toList:=sX (by have:=i9.1;simp only[ak,Array.length_toList];exact Eq.trans hl (Eq.symm this)) λi x v e1 e2=>by
  rw[aq]at e1;cases e3:kvs[i]? with
  |none=>rw[e3]at e1;cases e1
  |some p =>
   rw[e3]at e1;cases e1;obtain⟨k,y,e4,is⟩:=i9.2 i v (by rw[<- Array.getElem?_toList];exact e2);obtain⟨w',hw,_⟩:=rel.at (k:=p.1) (y:=p.2) e3;rw[hw]at e4;cases e4;exact RK is
 exact⟨.ref s.heap.objs.size,_,I.laid (t':=tk) kp (aD _) (show cX X.prog X.w _ h' _ (.lst (kvs.map λp=>kV p.1))from⟨by rw[ak];exact hz,acc.toList,c,vl,by simpa using hS⟩),rfl,q _ (I.hok.fresh (aD _))⟩
def kyT:Key->T
 |.inl i=>.int i
 |.inr s=>.str s
theorem Q5{K:Frag}{F:Hp} : ∀k:Key,Rep K F (kV k) (kyT k)
 |.inl i=>.int i
 |.inr s=>.str s
def Uv:T->(OT->Prop)->Prop
 |.dct ks _,q=>q (.l1 (ks.map kyT))
 |_,_=>False
theorem KC(hc:X.calm=true):GC X (.type "list") (g1 Uv):=.one (Fp hc) λS t x H Q R rx hg k=>by
 cases t<;>try exact hg.elim
 obtain⟨a,xs,rfl,e,l,r⟩:=rx.dctI
 rename_i ks ts
 refine⟨a,_,rfl,Same.rd cu e,λb hb=>k _ _ _ hg (Same.upd hb) ?_⟩;have ez:((ks.zip xs).map λp=>kV p.1)=ks.map kV:=by
  rw[show(λp:Key×V=>kV p.1)=kV ∘ Prod.fst from rfl,<- X0,List.map_fst_zip (Wp l)]
 rw[ez];have rk:bD X.K (hd S H) (ks.map kV) (ks.map kyT):=by
  clear e ez hg k l rx
  induction ks with
  |nil=>exact .nil
  |cons k ks ih=>exact .cons (Q5 k) ih
 exact mU rk (Same.upd hb) hb bK
end
def Yc:ST:=λts q=>match ts with|[.int a,.int b]=>q (.fz (.int (if a<b then b else a)))|_=>False
theorem Pa{X:Cx}(hc:X.calm=true):GC X (.builtin "max") Yc:=(JM hc).imp λxs H Q hP=>by
 obtain⟨S,ts,R,_,rs,hg,k⟩:=hP
 match ts,hg with
 |[.int a,.int b],hg =>
  cases rs with
  |cons r1 rs=>cases rs with
   |cons r2 rs =>
    cases rs;cases r1;cases r2;exact⟨a,b,rfl,k H _ _ hg (.refl _) (NR.fz (.int _))⟩
theorem cH.calmT{P:Program}{w:World}{K:Frag}{mg:Str->Ψ}{base:Heap}{k:Nat}{f:Addr}{fd:FuncData}{ps:Θ}{S:SX}(F:cH P w K mg base (CXO P w) k f fd ps (spX K S)):cH P w K mg base CX0 k f fd ps (spT K λts q=>S ts q λ_ _ _=>False) :=
 F.calm.imp λvs H Q E hP=>by obtain⟨ts,R,r,h,k⟩:=hP;exact⟨ts,R,_,r,h,k,λ_ _ _ _ _ _ z=>z.elim⟩
section
variable{X:Cx}
def Qz(C:Addr)(re:RE):RS:=λE o=>re o λ_=>E.xc C [] []
theorem rD{x:Str}{np cpos pos:Pos}{e:Expr}{re:RE}{C:Addr}(hc:X.calm=true)(hg:Gl X x)(hm:X.mg x=some (.ref C))(q:Ck X.K C)(ha:QE X e re)(aI:qq x:=by decide)
 (he:qf X e []:=by rfl)(aE:qo X cpos []:=by rfl) :
  QS X (.Raise (some (.Call (.Name x np) [e] [] cpos)) none pos) (Qz C re) :=
 (J3 (cpos:=cpos) hc hg hm q O9 (aY ha bf he) aI he aE).imp λD σ H ⟨own,o,E,h,hr,L⟩=>tQA.mk (R:=λ_=>E.xc C [] []) h hr λH1 vs ts q ln E1 r1 =>
  ⟨(by rw[r1.len,ln];exact(show 1<=sizeLine by decide)),rfl,L.xc _ C none [] [] [] q (cu.trans E1) rfl .nil⟩
def tQX(K:Frag)(Ex:Value->Ω->Hp->Prop)(S:SX)(r:RA):TE:=λσ H Q=>∃own o R Z,SR K own H σ o/\(r o λts=>S ts R Z)/\(∀H' v x,R x->Same H H'->NR K (Ow own) H H' v x->Q v H') /\
 ∀H' C d ks us ax,Z C ks ax->Same (hd (Ow own) H) H'->tV H' d (ks.zip us)->bD K H' us ax->Ex (.ref C) d H'
theorem HD{Ex:Value->Ω->Hp->Prop}{p pos:Pos}{e:Expr}{es:List Expr}{r:RA}{x:Str}{k:Nat}{ps:Θ}{S:SX}(G:Br X.prog X.w X.K X.mg X.base k x ps S)(hr:cA k X.A)(hg:Gl X x)(ha:QA X (e::es) r)(hx:tD X λC d _ H=>Ex C d H)(aI:qq x:=by decide)
 (he:qf X e es:=by rfl)(aE:qo X pos es:=by rfl):PE X (.Call (.Name x p) (e::es) [] pos) (tQX X.K Ex S r):=by
 obtain⟨f,fd,F,b,hm,kp⟩:=G;refine(wR (sp:=M_ (spX X.K S)) ⟨f,fd,F.hidX,b,hm,kp⟩ hr hg hx ha aI he aE).imp λσ H Q ⟨own,o,R,Z,h,hr,kn,kx⟩=>tQA.mk h hr λH1 vs ts q _ E1 r1=>?_;have h1:=h.same E1;have EH:∀{G:Hp},Same (hd (Ow own) H1) G->Same H1 (mrg (Ow own) H1 G):=λ{G}E b u e=>by
  by_cases z:Ow own b
  .rw[jA z];exact e
  .rw[cY z];exact E b u ((bO z).trans e)
 have EG:∀{G:Hp},(∀b,Ow own b->G b=none)->Same G (mrg (Ow own) H1 G):=λ{G}ah b u e=>by rw[cY λz=>by rw[ah b z]at e;cases e];exact e
 refine⟨Ow own,h1.hid,ts,R,Z,r1,q,λG v x rx E n ah=>?_,λG C d ks us ax z E e r' ah=>kx _ C d ks us ax z (λb u e=>?_) (e.same (EG ah)) (r'.same (EG ah))⟩
 .refine kn _ v x rx (E1.trans (EH E)) (NR.back (H:=H1) ?_ E1);obtain⟨B,nb,s⟩:=n;have out:∀a∈B,¬Ow own a:=λa ha z=>(s.sole ha).ne (ah a z);refine⟨B,λa ha=>by have:=nb a ha;rwa[bO (out a ha)]at this,s.same (f9 (λb z=>?_) (EG ah)) (EG ah)⟩;rcases z with z|z
  .exact .inr (ah b z)
  .exact .inl (.inr z)
 .exact(EH E) _ _ (E1 _ _ (cF e).2)
def RJ(Fm:Addr->Prop)(i:Nat)(f:Str)(ri:RI)(n:Nat)(g:qB)(S:SX)(r:RA):RS:=λE o=>match slot o i with
 |.ob b dx C ks ts=>ri o λxs=>xs.length<=sizeLine/\jD g Nj (λo q=>r o λts=>S ts q E.xc) (List.replicate n .und++o) xs λus=>(Fm C/\ks.length<1000)/\E.nx (o.set i (.ob b dx C (jL ks f) (iJ ks ts f (.lst us))))
 |_=>False
theorem O8{Fm:Addr->Prop}(i:Nat){L0:Addr}{x f:Str}{p a7 pos:Pos}{tg iter a8:Expr}{ri:RI}{g:qB}{S:SX}{r:RA}{scope:Scope}{cpos:Pos}(c:∀C,Fm C->Cls X.K C/\bR X.K C f)(sc:Scope)(N N' xs:Θ)(be:X.stack=X.env::X.outer)(i':X.env.frame=some L0)(hi:QI X tg iter ri)
 (hg:∀{C s₀ H₀ ex pn xe},QG ((X.compG N' scope xs C s₀ H₀ ex pn).xed xe) xs.length tg g)(he:∀{C s₀ H₀ ex pn xe},tD ((X.compG N' scope xs C s₀ H₀ ex pn).xed xe) (λC d _ H=>zx X C d H)->PE ((X.compG N' scope xs C s₀ H₀ ex pn).xed xe) a8 (tQX X.K (zx X) S r))
 (hN:X.N[i]?=some x:=by rfl)(hv:lR X.env.scope x=true:=by rfl)(aw:qq x:=by decide)(a9:qk x:=by decide)
 (c0:X.env.scope=sc:=by rfl)(c9:X.N=N:=by rfl)(hc:X.calm=true:=by rfl)(hk:scope.kind=.function:=by rfl)(h:CK sc scope N N' xs:=by decide +kernel)(hs:qi X iter:=by intro _;rfl)
 (gi:swapsWith (.ListComp a8 [⟨tg,iter,[],0⟩] scope cpos) (some (.Attribute (.Name x p) f a7)) pos.line X.env=pure false:=by rfl) :
  QS X (.Assign [.Attribute (.Name x p) f a7] (.ListComp a8 [⟨tg,iter,[],0⟩] scope cpos) pos) (RJ Fm i f ri xs.length g S r) :=
 (Gy (pv i hN hv aw a9) (Uz (pos:=cpos) (gt:=tQG X.K xs.length g) (tc:=tQT X.K Nj) (te:=tQX X.K (zx X) S r) Oi be i' sc N hi hg (λ{C s₀ H₀ ex pn xe}=>@fH ((X.compG N' scope xs C s₀ H₀ ex pn).xed xe)) he c0 c9 hc hk h hs) gi).imp λD σ H hP=>by
 obtain⟨own,o,E,h,hr,L⟩:=hP;unfold RJ at hr;cases es:slot o i with
 |ob a dx C ks ts =>
  rw[es]at hr;obtain⟨u,e1,ys,e2,e3,e4,e5,l,rr⟩:=h.val es (by intro z;cases z);cases e2;refine⟨own,o,_,h,hr,λH1 J zs q E1 wk A nA=>yg (Q:=λy H1=>P0 i σ H1 λx H2=>∃a C dx fs,x=V.ref a/\H2 a=some (HO.ins C dx fs)/\Cls X.K C/\bR X.K C f/\fs.length<1000/\D.nx σ (upd H2 a (HO.ins C dx (lE f y fs)))) (te:=tQX X.K (zx X) S r) (re:=λo q=>r o λts=>S ts q E.xc) (R:=λx=>(Fm C/\ks.length<1000)/\E.nx (o.set i (.ob a dx C (jL ks f) (iJ ks ts f (frz x))))) (λaz o2 σ2 H2 R h2 S2 q2 Q k=>⟨az,o2,R,E.xc,h2,q2,k,λH' C d ks us ax z S' e r'=>L.xc H' C d ks us ax z ((bF E1).trans (S2.trans S')) e r'⟩) (h.same E1) wk q.1 q.2 nA λH' v y q E2 n=>?_⟩;have r1:Rep X.K (hd (Ow own) H') v (frz y):=n.rep λb z=>((h.same E1).sole z).ne;have E1:=E1.trans E2;refine⟨_,e1,a,C,dx,_,rfl,E1 _ _ e4,(c C q.1.1).1,(c C q.1.1).2,by rw[UY,<- l,VT];exact q.1.2,?_⟩;obtain⟨pz,pl⟩:=qy (f:=f) (v:=v) l;rw[pz];have fm:dx≠a:=pF e5 e4 (by intro z;cases z);obtain⟨h',S⟩:=(h.same E1).chg (eF es (by intro z;cases z)) (y:=.ob a dx C (jL ks f) (iJ ks ts f (frz y))) (H':=upd H' a (.ins C dx ((jL ks f).zip (iJ ks ys f v)))) (λb u hb e=>(bJ λz=>hb (by rw[e3,z];simp)).trans e) (by
   rw[e1,rM ⟨i,by rw[e3];simp⟩];exact⟨_,rfl,e3,bK,(bJ fm).trans (E1 _ _ e5),pl,bD.put r1 (rr.same (bF E1))⟩)
  exact L.nx own _ σ _ q.2 ((bF E1).trans S) h'
 |_=>rw[es]at hr;exact hr.elim
end
abbrev SIX:=Addr->Θ->List T->List T->(Θ->List T->Prop)->XC->Prop
def Q9(K:Frag)(S:SIX):Sp:=λvs H Q E=>∃a dx C ks xs ts us as R Z,vs=.ref a::us/\H a=some (.ins C dx (ks.zip xs))/\H dx=some (.own a)/\ks.length=xs.length/\bD K (hd (Slf a dx) H) xs ts/\bD K (hd (Slf a dx) H) us as/\S C ks ts as R Z /\
 (∀H' bu b8 ax,R bu ax->Same (hd (Slf a dx) H) (hd (Slf a dx) H')->H' a=some (.ins C dx (bu.zip b8))->H' dx=some (.own a)->bu.length=b8.length->bD K (hd (Slf a dx) H') b8 ax->Q .non H') /\
 ∀H' D d js us ax,Z D js ax->Same (hd (Slf a dx) H) H'->tV H' d (js.zip us)->bD K H' us ax->E (.ref D) d H'
theorem Fun.okIX{P:Program}{w:World}{K:Frag}{mg:Str->Ψ}{base:Heap}{x ac:Str}{st:Stmt}{f:Addr}{fd:FuncData}{N ps:Θ}{k:Nat}{S:SIX}(F:Fun K x ac st f fd)(sc:bG N ps (bw st))(len:∀C ks ts as R Z,S C ks ts as R Z->as.length+1=ps.length)(hn:ps.length<=N.length)
 (a6:∀(af:Value)(A:Around)(outer:List Env)(s:Shared)(H:Hp)(E:XK),cA k (A.deeper (envOfC ac (bw st) s.heap.objs.size f af)) ->
   ∃r,QSs (n_ (CXO P w) P w K mg base N ac (bw st) f af A outer s H E) (cR st) r/\∀a dx C ks ts as R Z,S C ks ts as R Z->r { nx:=λo=>∃bu ax,slot o 0=.ob a dx C bu ax/\R bu ax,rt:=λ_=>False,xc:=Z } (startI N.length a dx C ks ts as)):cH P w K mg base (CXO P w) (k+1) f fd ps (Q9 K S):=by
 refine F.okX sc (λvs H Q E h=>?_) λaf A outer s H vs Q E hr h=>?_
 .obtain⟨a,dx,C,ks,xs,ts,us,as,R,Z,rfl,_,_,_,_,r2,hS,_⟩:=h;rw[List.length_cons,r2.len];exact len _ _ _ _ _ _ hS
 .obtain⟨a,dx,C,ks,xs,ts,us,as,R,Z,rfl,ha,aw,l,r,r2,hS,q,qx⟩:=h;obtain⟨rd,h1,h2⟩:=a6 af A outer s H E hr;have s0:=SR.startI ha aw l r r2 N (by rw[r2.len,len _ _ _ _ _ _ hS];exact hn);have eO:=zT a dx;refine⟨_,h1,_,_,_,s0,h2 a dx C ks ts as R Z hS,⟨λown H' σ o rx E h=>?_,λ_ _ _ _ _ z=>z.elim,λ_ _ _ _ z=>z.elim,λ_ _ _ _ z=>z.elim,λH' C d ks us ax z E e r'=>?_⟩⟩
  .obtain⟨bu,ax,es,rx⟩:=rx;rw[eO]at E;obtain⟨u,_,b8,e1,e2,e3,e4,e5,e6⟩:=h.val es (by intro z;cases z);have sub:Same (hd (Ow own) H') (hd (Slf a dx) H'):=f9 (λb z=>.inl ⟨0,by rw[e2];rcases z with rfl|rfl<;>simp⟩) λ_ _ z=>z;exact q H' bu b8 ax rx (E.trans sub) e3 e4 e5 (e6.same sub)
  .have e1:=qx H' C d ks us ax z (eO ▸ E) e r';exact⟨λaa σ H2 s2 a s' B I F2=>Hu aa σ H2 s2 a _ H' s' B _ I F2 e1,λaa σ H2 s2 a c ec I ha ge eo=>yK aa σ H2 s2 a c _ I ha ge (by rw[eo,<- ec];exact e1),λdn aa σ s2 a vs h1 I M=>Cw aa σ H' s2 a _ vs h1 I M (by rw[<- dn];exact e1),λaa σ H2 s2 a s' B fv I F2=>Dp aa σ H2 s2 a _ H' s' B _ fv I F2 e1⟩
theorem OkI.hidX{P:Program}{w:World}{K:Frag}{mg:Str->Ψ}{base:Heap}{k:Nat}{fa:Addr}{ps:Θ}{sp:Sp}(G:OkI P w K mg base (CXO P w) k fa ps sp):OkI P w K mg base (CXO P w) k fa ps (M_ sp):=by obtain⟨fd,F,b⟩:=G;exact⟨fd,F.hidX,b⟩
section
variable{X:Cx}
def T6(C:Addr)(S:SIX)(r:RA):RS:=λE o=>r o λas=>S C [] [] as (λks ts=>E.rt (.fz (.ins C ks ts))) E.xc
theorem N7{x:Str}{p pos f':Pos}{e:Expr}{es:List Expr}{r:RA}{k:Nat}{fa C:Addr}{ps:Θ}{S:SIX}(M:Mk X.K C fa)(G:zv X (CXO X.prog X.w) k fa ps (Q9 X.K S))(hr:cA (k+1) X.A)(hg:Gl X x)(hm:X.mg x=some (.ref C))(ha:QA X (e::es) r)(aI:qq x:=by decide)
 (he:qf X e es:=by rfl)(aE:qo X pos es:=by rfl):QS X (.Return (some (.Call (.Name x p) (e::es) [] pos)) f') (T6 C S r) :=
 (z9 (L_ M (OkI.hidX G) hr hg hm EY ha aI he aE)).imp λD σ H ⟨own,o,E,h,hr,L⟩=>tQA.mk h hr λH1 vs as q _ E1 r1 a dx na nd ne=>by
 have h1:=h.same E1;have E2:Same H1 (upd (upd H1 dx (.own a)) a (.ins C dx [])):=(Same.upd nd).trans (Same.upd ((bJ (Ne.symm ne)).trans na));have h2:=h1.same E2;have oa:¬Ow own a:=λz=>(h1.sole z).ne na;have od:¬Ow own dx:=λz=>(h1.sole z).ne nd;have nS:∀{b:Addr}{u:HO},H1 b=some u->¬Slf a dx b:=λ{b u}e z=>by rcases z with rfl|rfl<;>rw[e]at *<;>contradiction
 have EG:∀{G:Hp},(∀b,Ow own b->G b=none)->Same G (mrg (Ow own) (upd (upd H1 dx (.own a)) a (.ins C dx [])) G):=λ{G}ah b u e=>by rw[cY λz=>by rw[ah b z]at e;cases e];exact e
 refine⟨Ow own,h2.hid,a,dx,C,[],[],[],vs,as,_,_,rfl,(bO oa).trans bK,(bO od).trans ((bJ ne).trans bK),rfl,.nil,r1.same (λb u e=>?_),q,λG bu b8 ax rx E ea ed l r ah=>⟨rfl,?_⟩,λG D' d js us ax z E e r' ah=>?_⟩
 .obtain⟨n,e⟩:=cF e;rw[bO (nS e),bO n];exact E2 _ _ e
 .have ES:Same H1 (mrg (Ow own) (upd (upd H1 dx (.own a)) a (.ins C dx [])) G):=λb u e=>by
   by_cases z:Ow own b
   .rw[jA z];exact E2 _ _ e
   .exact EG ah _ _ (cF (E b u ((bO (nS e)).trans ((bO z).trans (E2 _ _ e))))).2
  have rep:Rep X.K (hd (Ow own) (mrg (Ow own) (upd (upd H1 dx (.own a)) a (.ins C dx [])) G)) (.ref a) (.ins C bu ax):=.ins (dx:=dx) (ks:=bu) (xs:=b8) (by rw[bO oa];exact EG ah _ _ ea) (by rw[bO od];exact EG ah _ _ ed) l (r.same λb u e=>by
   have e':=(cF e).2;rw[bO λz=>by rw[ah b z]at e';cases e'];exact EG ah _ _ e')
  exact L.rt (Ow own) _ _ _ [] rx (bF (E1.trans ES)) ⟨rfl,_,rfl,rep⟩ λ_ z=>nomatch z
 .refine L.xc _ D' d js us ax z (λb u e=>?_) (e.same (EG ah)) (r'.same (EG ah));obtain⟨n,e⟩:=cF e;have e:=E1 _ _ e;exact EG ah _ _ (E b u ((bO (nS e)).trans ((bO n).trans (E2 _ _ e))))
end
def vD(X:Cx)(F:Hp)(Z:XC):Prop:=∀H' C d ks us ax,Z C ks ax->Same F H'->tV H' d (ks.zip us)->bD X.K H' us ax->zx X (.ref C) d H'
theorem vD.mono{X:Cx}{F F':Hp}{Z:XC}(h:vD X F Z)(S:Same F F'):vD X F' Z:=λH' C d ks us ax z S'=>h H' C d ks us ax z (S.trans S')
def tQZ(X:Cx)(re:XC->RE):TE:=λσ H Q=>∃own o R Z,SR X.K own H σ o/\re Z o R/\vD X (hd (Ow own) H) Z/\∀H' v x,R x->Same H H'->NR X.K (Ow own) H H' v x->Q v H'
def aaK(X:Cx)(n:Nat)(r:XC->RA):TA:=λσ H Q=>∃own o R Z,SR X.K own H σ o/\r Z o R/\vD X (hd (Ow own) H) Z/\∀H' vs ts,R ts->ts.length=n->Same H H'->bD X.K (hd (Ow own) H') vs ts->Q vs H'
def QEX(X:Cx)(e:Expr)(re:XC->RE):Prop:=PE X e (tQZ X re)
def QAX(X:Cx)(es:List Expr)(r:XC->RA):Prop:=PA X es (aaK X es.length r)
section
variable{X:Cx}{e:Expr}{es:List Expr}{a re:XC->RE}{r:XC->RA}{pos p:Pos}{f:Str}
theorem Qp:QAX X [] λ_=>Ov:=mR.imp λσ H Q hP=>by obtain⟨own,o,R,Z,h,hr,_,k⟩:=hP;exact k H [] [] hr rfl (.refl _) .nil
theorem MF{re:RE}(he:QE X e re):QEX X e λ_=>re:=PE.imp he λσ H Q hP=>by obtain⟨own,o,R,Z,h,hr,_,k⟩:=hP;exact⟨own,o,R,h,hr,k⟩
theorem vN(ha:QEX X e a)(hr:QAX X es r)(hs:qf X e es:=by rfl):QAX X (e::es) λZ=>Mz (a Z) (r Z):=(fL ha hr hs).imp λσ H Q ⟨own,o,R,Z,h,hr,L,k⟩ =>
 ⟨own,o,λx=>r Z o λts=>R (frz x::ts),Z,h,hr,L,λH1 v x q E1 n=>⟨own,o,_,Z,h.same E1,q,L.mono (bF E1),λH2 vs ts q2 ln E2 r2=>k H2 (v::vs) (frz x::ts) q2 (ZH (· + 1) ln) (E1.trans E2) (.cons ((n.rep λb z=>(h.sole z).ne).same (bF E2)) r2)⟩⟩
def Vg(S:SX)(r:RA):XC->RE:=λZ o q=>r o λts=>S ts q Z
theorem DP{r:RA}{x:Str}{k:Nat}{ps:Θ}{S:SX}(G:Br X.prog X.w X.K X.mg X.base k x ps S)(hr:cA k X.A)(hg:Gl X x)(ha:QA X (e::es) r)(aI:qq x:=by decide)
 (he:qf X e es:=by rfl)(aE:qo X pos es:=by rfl):QEX X (.Call (.Name x p) (e::es) [] pos) (Vg S r) :=
 (HD (Ex:=λC d H'=>zx X C d H') G hr hg ha EY aI he aE).imp λσ H Q hP=>by obtain⟨own,o,R,Z,h,hr,L,k⟩:=hP;exact⟨own,o,R,Z,h,hr,k,L⟩
theorem QL{k:Nat}(h:QAX X es r)(hz:es.length<=sizeLine:=by decide):QEX X (.Tuple es k pos) λZ=>R9 (r Z):=(Mg h).imp λσ H Q ⟨own,o,R,Z,h,hr,L,k⟩=>⟨own,o,_,Z,h,hr,L,λH1 vs ts q ln E1 r1 =>
 ⟨by rw[r1.len,ln];exact hz,λp hp=>k _ _ _ q (E1.trans (Same.upd hp)) (NR.fz (.tup (.of (by rw[bO λz=>(h.sole z).ne (E1.free hp)];exact bK)) (r1.same (bF (Same.upd hp)))))⟩⟩
def Lw(Fm:Addr->Prop)(i:Nat)(f:Str)(a:XC->RE):RS:=λE o=>match slot o i with|.ob b dx C ks ts=>a E.xc o λy=>(Fm C/\ks.length<1000)/\E.nx (o.set i (.ob b dx C (jL ks f) (iJ ks ts f (frz y))))|_=>False
theorem Mp{Fm:Addr->Prop}(i:Nat){x:Str}{a7:Pos}(c:∀C,Fm C->Cls X.K C/\bR X.K C f)(he:QEX X e re)(hN:X.N[i]?=some x:=by rfl)(hv:lR X.env.scope x=true:=by rfl)(aw:qq x:=by decide)(a9:qk x:=by decide)(hs:swapsWith e (some (.Attribute (.Name x p) f a7)) pos.line X.env=pure false:=by rfl):QS X (.Assign [.Attribute (.Name x p) f a7] e pos) (Lw Fm i f re):=(Gy (pv i hN hv aw a9) he hs).imp λD σ H hP=>by
 obtain⟨own,o,E,h,hr,L⟩:=hP;unfold Lw at hr;cases es:slot o i with
 |ob a dx C ks ts =>
  rw[es]at hr;obtain⟨u,e1,xs,e2,e3,e4,e5,l,r⟩:=h.val es (by intro z;cases z);cases e2;refine⟨own,o,_,E.xc,h,hr,λH' C d ks us ax z S e r'=>L.xc H' C d ks us ax z S e r',λH1 v y q E1 n=>⟨_,e1,a,C,dx,_,rfl,E1 _ _ e4,(c C q.1.1).1,(c C q.1.1).2,by rw[UY,<- l,VT];exact q.1.2,?_⟩⟩;have r1:Rep X.K (hd (Ow own) H1) v (frz y):=n.rep λb z=>(h.sole z).ne;obtain⟨pz,pl⟩:=qy (f:=f) (v:=v) l;rw[pz];have fm:dx≠a:=pF e5 e4 (by intro z;cases z);obtain⟨h',S⟩:=(h.same E1).chg (eF es (by intro z;cases z)) (y:=.ob a dx C (jL ks f) (iJ ks ts f (frz y))) (H':=upd H1 a (.ins C dx ((jL ks f).zip (iJ ks xs f v)))) (λb u hb e=>(bJ λz=>hb (by rw[e3,z];simp)).trans e) (by
   rw[e1,rM ⟨i,by rw[e3];simp⟩];exact⟨_,rfl,e3,bK,(bJ fm).trans (E1 _ _ e5),pl,bD.put r1 (r.same (bF E1))⟩)
  exact L.nx own _ σ _ q.2 ((bF E1).trans S) h'
 |_=>rw[es]at hr;exact hr.elim
def X4(i:Nat)(a:XC->RE):RS:=λE o=>onL (slot o i) λts c=>a E.xc o λy=>ts.length<sizeLine/\E.nx (o.set i (c (ts++[frz y])))
theorem Qu(i:Nat){x:Str}{ag cpos p:Pos}(he:QEX X e re)(hN:X.N[i]?=some x:=by rfl)(hv:lR X.env.scope x=true:=by rfl)(aw:qq x:=by decide)(a9:qk x:=by decide)
 (hb:attributeBase (.Name x p) "append" X.env (eval (.Name x p) X.env)=eval (.Name x p) X.env:=by rfl)
 (hf:qh X cpos e:=by rfl)
 (hl:zk ag cpos:=by rfl)(be:qf X e []:=by rfl)(hp:qo X cpos []:=by rfl)
 (hs:swapsWith (.Call (.Attribute (.Name x p) "append" ag) [e] [] cpos) none pos.line X.env=pure false:=by rfl) :
  QS X (.Expr (.Call (.Attribute (.Name x p) "append" ag) [e] [] cpos) pos) (X4 i re):=(kY (MJ (pv i hN hv aw a9) (fL he mR be) hb hf hl be hp) hs).imp λD σ H hP=>by
 obtain⟨own,o,E,h,hr,L⟩:=hP;obtain⟨ts,c,hr,es⟩:=zj hr;obtain⟨l,xs,e1,e2,e3,r,sl⟩:=h.l1 es;refine⟨_,e1,l,xs,rfl,e3,own,o,_,E.xc,h,hr,λH' C d ks us ax z S e r'=>L.xc H' C d ks us ax z S e r',λH1 v y q E1 n=>⟨v,xs,rfl,E1 _ _ e3,by rw[r.len];exact q.1,?_⟩⟩;have r1:Rep X.K (hd (Ow own) H1) v (frz y):=n.rep λb z=>(h.sole z).ne;obtain⟨h',S⟩:=(h.same E1).chg1 (Gz es) e1 e2 sl ((r.same (bF E1)).app (.cons r1 .nil));exact L.nx own _ σ _ q.2 ((bF E1).trans S) h'
theorem W3{scope:Scope}{N' xs:Θ}{C s₀ H₀ ex pn xe}{n i:Nat}{x:Str}{p:Pos}(hN:(xs++N').Nodup:=by decide +kernel)(hi:(xs++N')[i]?=some x:=by rfl)(hn:i<n:=by decide)(hx:Loc ((X.compG N' scope xs C s₀ H₀ ex pn).xed xe).env.scope x:=by exact Or.inl rfl)(hf:((X.compG N' scope xs C s₀ H₀ ex pn).xed xe).fn x=true\/((X.compG N' scope xs C s₀ H₀ ex pn).xed xe).env.scope.names.lookup x=some .local:=by exact Or.inr rfl):QG ((X.compG N' scope xs C s₀ H₀ ex pn).xed xe) n (.Name x p) (hName i):=bQ (i:=i) (hN:=hN) (hx:=hx) (hi:=hi) (hn:=hn) (hf:=hf)
end
def aaB:qA
 |.str a,.str b,q=>∃c:Nat,a=⟨#[c]⟩/\q (.fz (.bl (decide (c∈b.cps.toList))))
 |_,_,_=>False
theorem Ui{X:Cx} : GO X (compareOp .In) aaB:=Vm.imp λx y H Q hP=>by
 obtain⟨S,t,u,R,_,hx,hy,hg,k⟩:=hP;cases hx<;>try exact hg.elim
 cases hy<;>try exact hg.elim
 obtain⟨c,e,hg⟩:=hg;exact⟨_,_,rfl,rfl,c,e,k H _ _ hg (.refl _) (NR.fz (.bl _))⟩
section
variable{X:Cx}
def X7:ST:=λts q=>match ts with|[.int a,.int b]=>q (.fz (.int (if b<a then b else a)))|_=>False
theorem Oo(hc:X.calm=true):GC X (.builtin "min") X7:=(JT hc).imp λxs H Q hP=>by
 obtain⟨S,ts,R,_,rs,hg,k⟩:=hP
 match ts,hg with
 |[.int a,.int b],hg =>
  cases rs with
  |cons r1 rs=>cases rs with
   |cons r2 rs =>
    cases rs;cases r1;cases r2;exact⟨a,b,rfl,k H _ _ hg (.refl _) (NR.fz (.int _))⟩
end
end L2
namespace Ac
def lw(t b:Int):Int×Int:=(t/(Int.gcd t b:Nat),b/(Int.gcd t b:Nat))
section
variable{κ:Type}[DecidableEq κ]
def look(acc:List (κ×Int))(r:κ):Int:=((acc.find? λg=>decide (g.1=r)).map (·.2)).getD 0
def put(acc:List (κ×Int))(r:κ)(y:Int):List (κ×Int):=if(acc.any λg=>decide (g.1=r))=true then acc.map (λg=>if g.1=r then(g.1,y)else g)else acc++[(r,y)]
def aaw(gs:List (κ×Int)):List (κ×Int):=gs.foldl (λa g=>put a g.1 (look a g.1+g.2)) []
def ways(gs:List (κ×Int))(S:Int):List (κ×Int×Int):=((aaw gs).filter λg=>decide (0<g.2)).map λg=>(g.1,lw g.2 S)
end
end Ac
namespace Rw
open Ac
def rep(r:List Int×Int):List (Int×Int):=r.1.map λt=>lw t r.2
def sz(f:Nat->Int):Nat->Int
 |0=>0
 |n+1=>sz f n+f n
section
variable{A:Nat->Nat->Int}{b:Nat->Int}{m wd p:Nat}{R:Nat->Nat->Rat}{pv s:Nat->Nat}
def sw(p q x:Nat):Nat:=if x=p then q else if x=q then p else x
end
def vr(r:List Int×Int)(j:Nat):Rat:=((r.1.getD j 0:Int):Rat)/(r.2:Rat)
end Rw
namespace K11
open PySem PyProof.Rows L2
abbrev oW:Stmt:=top 13
abbrev iI:Str:="is_whole"
theorem Cu:bG Fz eZ (bw oW):=fsc
abbrev rF:Stmt:=top 14
abbrev iu:Str:="divisor"
theorem GF:bG yL cT (bw rF):=fsc
abbrev zL:Stmt:=top 18
abbrev pW:Str:="ratio"
theorem Od:bG zG j_ (bw zL):=fsc
abbrev kJ:Stmt:=top 19
abbrev fG:Str:="is_ratio"
theorem sI:bG o_ dG (bw kJ):=fsc
abbrev FJ:Stmt:=top 20
abbrev Av:Str:="plus"
theorem Qh:bG Tg qu (bw FJ):=fsc
abbrev yW:Stmt:=top 21
abbrev m7:Str:="under"
theorem Nh:bG Pn jj (bw yW):=fsc
abbrev jf:Stmt:=top 24
abbrev g8:Str:="is_word"
theorem vg:bG kh eX (bw jf):=fsc
abbrev iD:Stmt:=top 26
abbrev gY:Str:="check_share"
theorem mq:bG xK dN (bw iD):=fsc
abbrev lC:Stmt:=top 27
abbrev j5:Str:="numbers_of"
theorem yc:bG lg fW (bw lC):=fsc
abbrev iT:Stmt:=top 28
abbrev ig:Str:="numbered_ways"
theorem qY:bG lN dJ (bw iT):=fsc
abbrev mW:Stmt:=top 29
abbrev lA:Str:="offers_of"
theorem zE:bG sy gQ (bw mW):=fsc
abbrev ug:Stmt:=top 32
abbrev vZ:Str:="level"
theorem NT:bG H_ lU (bw ug):=fsc
abbrev yR:Stmt:=top 33
abbrev vY:Str:="total"
theorem N6:bG z7 mH (bw yR):=fsc
abbrev lK:Stmt:=top 35
abbrev jW:Str:="check_head"
theorem xH:bG lG gb (bw lK):=fsc
abbrev gM:Stmt:=top 36
abbrev gF:Str:="check_room_name"
theorem pA:bG pQ dj (bw gM):=fsc
abbrev jy:Stmt:=top 37
abbrev iV:Str:="check_chance"
theorem tR:bG u_ d9 (bw jy):=fsc
abbrev iz:Stmt:=top 38
abbrev jG:Str:="check_pairs"
theorem vP:bG jV fB (bw iz):=fsc
abbrev iC:Stmt:=top 39
abbrev jC:Str:="joined_ways"
theorem uG:bG oJ fD (bw iC):=fsc
abbrev Gr:Stmt:=top 43
abbrev ur:Str:="_law_cell"
theorem Pr:bG Ey nZ (bw Gr):=fsc
abbrev wO:Stmt:=top 44
abbrev nM:Str:="_law_stream"
theorem I8:bG Ci jg (bw wO):=fsc
abbrev Mu:Stmt:=top 45
abbrev Bh:Str:="_law_gcd"
theorem Kg:bG RX q_ (bw Mu):=fsc
abbrev wV:Stmt:=top 46
abbrev nU:Str:="_law_lowest"
theorem JW:bG Cp je (bw wV):=fsc
abbrev Ax:Stmt:=top 47
abbrev Bj:Str:="_law_only"
theorem O2:bG Fj pG (bw Ax):=fsc
abbrev nQ:Stmt:=top 48
abbrev wI:Str:="_law_names"
theorem vM:bG pC mQ (bw nQ):=fsc
abbrev uw:Stmt:=top 49
abbrev uM:Str:="_law_drawn"
theorem Dg:bG Ay mL (bw uw):=fsc
abbrev rA:Stmt:=top 50
abbrev oY:Str:="_law_strange"
theorem Er:bG JZ jE (bw rA):=fsc
abbrev qN:Stmt:=top 51
abbrev oV:Str:="_law_spoiled"
theorem pB:bG IK jw (bw qN):=fsc
abbrev pq:Stmt:=top 52
abbrev lW:Str:="_law_is_share"
theorem DK:bG wg iQ (bw pq):=fsc
abbrev zM:Stmt:=top 53
abbrev Ao:Str:="_law_word"
theorem OD:bG FN qe (bw zM):=fsc
abbrev GZ:Stmt:=top 54
abbrev Gx:Str:="_law_due"
theorem Uy:bG Lf uP (bw GZ):=fsc
abbrev vo:Stmt:=top 55
abbrev uF:Str:="_law_made"
theorem G3:bG vU nG (bw vo):=fsc
abbrev G5:Stmt:=top 56
abbrev Gq:Str:="law"
theorem Kl:bG Yp zP (bw G5):=fsc
abbrev jP:Stmt:=eV 30 0
abbrev p8:Str:="__init__"
abbrev qG:Str:="Hall.__init__"
theorem zZ:bG mF gW (bw jP):=fsc
abbrev lH:Stmt:=eV 30 2
abbrev oA:Str:="names"
abbrev oK:Str:="Hall.names"
theorem xG:bG Bc fZ (bw lH):=fsc
abbrev lY:Stmt:=eV 40 0
abbrev pH:Str:="__init__"
abbrev qH:Str:="Door.__init__"
theorem zR:bG lX gK (bw lY):=fsc
abbrev nu:Stmt:=eV 40 1
abbrev pR:Str:="ways"
abbrev qM:Str:="Door.ways"
theorem Bk:bG Bu gU (bw nu):=fsc
abbrev k_:Stmt:=eV 41 0
abbrev oH:Str:="__init__"
abbrev oG:Str:="Mixed.__init__"
theorem xg:bG lu fX (bw k_):=fsc
abbrev j4:Stmt:=eV 9 0
abbrev lZ:Str:="__init__"
abbrev mj:Str:="NoRoom.__init__"
theorem uT:bG xZ fu (bw j4):=fsc
structure Adr where
 HallError:Addr
 NoNumber:Addr
 NoName:Addr
 NoChance:Addr
 NoShare:Addr
 NoText:Addr
 NoRow:Addr
 NoRoom:Addr
 NoDoor:Addr
 NoPlan:Addr
 Hall:Addr
 Door:Addr
 Mixed:Addr
 NOUGHT:Addr
 ONE:Addr
 Hall_init:Addr
 Hall_names:Addr
 Door_init:Addr
 Door_ways:Addr
 Mixed_init:Addr
 NoRoom_init:Addr
structure Txt(K:Frag)(mg:Str->Ψ)(D:Adr):Prop where
 Uw:mg "Door"=some (.ref D.Door)
 U9:mg "Hall"=some (.ref D.Hall)
 sH:mg "HallError"=some (.ref D.HallError)
 Q7:mg "Mixed"=some (.ref D.Mixed)
 mV:mg "NOUGHT"=some (.ref D.NOUGHT)
 Gg:mg "NoChance"=some (.ref D.NoChance)
 Lb:mg "NoDoor"=some (.ref D.NoDoor)
 uN:mg "NoName"=some (.ref D.NoName)
 FZ:mg "NoNumber"=some (.ref D.NoNumber)
 Mt:mg "NoPlan"=some (.ref D.NoPlan)
 CT:mg "NoRoom"=some (.ref D.NoRoom)
 Q8:mg "NoRow"=some (.ref D.NoRow)
 yu:mg "NoShare"=some (.ref D.NoShare)
 Oc:mg "NoText"=some (.ref D.NoText)
 Hz:mg "ONE"=some (.ref D.ONE)
 CP:Ck K D.NoName
 J1:Ck K D.NoShare
 DX:mroIn K D.HallError (.type "BaseException")=some true
 BL:typeIn K (.ref D.HallError)=some (.type "type")
 m6:∃u,mg "LONGEST_WORD"=some u/\RelV (.int 8) u
 kj:∀H,SqT K H D.NOUGHT [.int 0,.int 1]
 zX:∀H,SqT K H D.ONE [.int 1,.int 1]
 O4:Mk K D.Hall D.Hall_init
 Dy:Cls K D.Hall
 wW:Meth K D.Hall "names" D.Hall_names
 xO:bR K D.Hall "leads"
 zA:bR K D.Hall "name"
 tX:bR K D.Hall "numbers"
 tO:bR K D.Hall "offered"
 Bv:bR K D.Hall "pay"
 xR:bR K D.Hall "share"
 Np:Cls K D.Door
 z_:Meth K D.Door "ways" D.Door_ways
 xJ:bR K D.Door "leads"
 Bp:bR K D.Door "name"
 tH:bR K D.Door "numbers"
 tZ:bR K D.Door "offered"
 Ei:bR K D.Door "pay"
 xP:bR K D.Door "share"
 Lk:Mk K D.Mixed D.Mixed_init
 Ja:Cls K D.Mixed
 xq:Meth K D.Mixed "ways" D.Door_ways
 wj:bR K D.Mixed "leads"
 wZ:bR K D.Mixed "name"
 qQ:bR K D.Mixed "numbers"
 qP:bR K D.Mixed "offered"
 Bg:bR K D.Mixed "pay"
 v8:bR K D.Mixed "share"
 xi_NoRoom:za K D.NoRoom D.HallError D.NoRoom_init
 xs_NoRoom:Nm K D.NoRoom
 xk_NoRoom:n8 K D.NoRoom
 hd_NoRoom:hasDictIn K D.NoRoom=true
 sm_NoRoom:mroIn K D.NoRoom (.ref D.HallError)=some true
 mJ:bR K D.NoRoom "room"
 ki_NoRoom_NoChance:kitOne K (.ref D.NoRoom) (.ref D.NoChance)=some false
 ki_NoRoom_NoDoor:kitOne K (.ref D.NoRoom) (.ref D.NoDoor)=some false
 ki_NoRoom_NoName:kitOne K (.ref D.NoRoom) (.ref D.NoName)=some false
 ki_NoRoom_NoNumber:kitOne K (.ref D.NoRoom) (.ref D.NoNumber)=some false
 ki_NoRoom_NoPlan:kitOne K (.ref D.NoRoom) (.ref D.NoPlan)=some false
 ki_NoRoom_NoRoom:kitOne K (.ref D.NoRoom) (.ref D.NoRoom)=some true
 ki_NoRoom_NoRow:kitOne K (.ref D.NoRoom) (.ref D.NoRow)=some false
 ki_NoRoom_NoShare:kitOne K (.ref D.NoRoom) (.ref D.NoShare)=some false
 ki_NoRoom_NoText:kitOne K (.ref D.NoRoom) (.ref D.NoText)=some false
 ki_NoRoom_ValueError:kitOne K (.ref D.NoRoom) (.type "ValueError")=some true
 xk_NoName:n8 K D.NoName
 sm_NoName:mroIn K D.NoName (.ref D.HallError)=some true
 ki_NoName_NoChance:kitOne K (.ref D.NoName) (.ref D.NoChance)=some false
 ki_NoName_NoDoor:kitOne K (.ref D.NoName) (.ref D.NoDoor)=some false
 ki_NoName_NoName:kitOne K (.ref D.NoName) (.ref D.NoName)=some true
 ki_NoName_NoNumber:kitOne K (.ref D.NoName) (.ref D.NoNumber)=some false
 ki_NoName_NoPlan:kitOne K (.ref D.NoName) (.ref D.NoPlan)=some false
 ki_NoName_NoRoom:kitOne K (.ref D.NoName) (.ref D.NoRoom)=some false
 ki_NoName_NoRow:kitOne K (.ref D.NoName) (.ref D.NoRow)=some false
 ki_NoName_NoShare:kitOne K (.ref D.NoName) (.ref D.NoShare)=some false
 ki_NoName_NoText:kitOne K (.ref D.NoName) (.ref D.NoText)=some false
 ki_NoName_ValueError:kitOne K (.ref D.NoName) (.type "ValueError")=some true
 xk_NoShare:n8 K D.NoShare
 sm_NoShare:mroIn K D.NoShare (.ref D.HallError)=some true
 ki_NoShare_NoChance:kitOne K (.ref D.NoShare) (.ref D.NoChance)=some false
 ki_NoShare_NoDoor:kitOne K (.ref D.NoShare) (.ref D.NoDoor)=some false
 ki_NoShare_NoName:kitOne K (.ref D.NoShare) (.ref D.NoName)=some false
 ki_NoShare_NoNumber:kitOne K (.ref D.NoShare) (.ref D.NoNumber)=some false
 ki_NoShare_NoPlan:kitOne K (.ref D.NoShare) (.ref D.NoPlan)=some false
 ki_NoShare_NoRoom:kitOne K (.ref D.NoShare) (.ref D.NoRoom)=some false
 ki_NoShare_NoRow:kitOne K (.ref D.NoShare) (.ref D.NoRow)=some false
 ki_NoShare_NoShare:kitOne K (.ref D.NoShare) (.ref D.NoShare)=some true
 ki_NoShare_NoText:kitOne K (.ref D.NoShare) (.ref D.NoText)=some false
 ki_NoShare_ValueError:kitOne K (.ref D.NoShare) (.type "ValueError")=some true
 ib_HallError:Ke K D.HallError
 zp:vX K p8 qG jP gW D.Hall_init
 xY:vX K oA oK lH fZ D.Hall_names
 Az:vf K D.Door "__init__" D.Door_init
 Ae:vX K pH qH lY gK D.Door_init
 Bo:vX K pR qM nu gU D.Door_ways
 xX:vX K oH oG k_ fX D.Mixed_init
 vJ:vX K lZ mj j4 fu D.NoRoom_init
 yS:mg "ValueError"=none
 DQ:mg "abs"=none
 KQ:mg "all"=none
 Kd:mg "bool"=none
 RV:mg "int"=none
 bL:mg "isinstance"=none
 jB:mg "len"=none
 GP:mg "list"=none
 Yg:mg "max"=none
 Yu:mg "min"=none
 jM:mg "range"=none
 Nv:mg "sorted"=none
 Ka:mg "str"=none
 MK:mg "sum"=none
 zf:mg "tuple"=none
 Gj:dO K mg iI oW eZ
 Jo:dO K mg iu rF cT
 QF:dO K mg pW zL j_
 wz:dO K mg fG kJ dG
 Uo:dO K mg Av FJ qu
 PK:dO K mg m7 yW jj
 yI:dO K mg g8 jf eX
 oh:dO K mg gY iD dN
 yZ:dO K mg j5 lC fW
 tK:dO K mg ig iT dJ
 DG:dO K mg lA mW gQ
 O1:dO K mg vZ ug lU
 f_total:dO K mg vY yR mH
 Ai:dO K mg jW lK gb
 pP:dO K mg gF gM dj
 vG:dO K mg iV jy d9
 w5:dO K mg jG iz fB
 wY:dO K mg jC iC fD
 Tq:dO K mg ur Gr nZ
 Mx:dO K mg nM wO jg
 Zh:dO K mg Bh Mu q_
 NQ:dO K mg nU wV je
 S6:dO K mg Bj Ax pG
 Qj:dO K mg wI nQ mQ
 PX:dO K mg uM uw mL
 Jj:dO K mg oY rA jE
 Jl:dO K mg oV qN jw
 GD:dO K mg lW pq iQ
 T3:dO K mg Ao zM qe
 Ys:dO K mg Gx GZ uP
 Nk:dO K mg uF vo nG
def Fam(D:Adr)(C:Addr):Prop:=C=D.Hall\/C=D.Door\/C=D.Mixed
theorem Txt.cl{K:Frag}{mg:Str->Ψ}{D:Adr}(T:Txt K mg D):∀C,Fam D C->Cls K C:=by
 rintro C (rfl|rfl|rfl)
 .exact T.Dy
 .exact T.Np
 .exact T.Ja
theorem Txt.wU{K:Frag}{mg:Str->Ψ}{D:Adr}(T:Txt K mg D):∀C,Fam D C->bR K C "leads":=by
 rintro C (rfl|rfl|rfl)
 .exact T.xO
 .exact T.xJ
 .exact T.wj
theorem Txt.uf{K:Frag}{mg:Str->Ψ}{D:Adr}(T:Txt K mg D):∀C,Fam D C->bR K C "name":=by
 rintro C (rfl|rfl|rfl)
 .exact T.zA
 .exact T.Bp
 .exact T.wZ
theorem Txt.o8{K:Frag}{mg:Str->Ψ}{D:Adr}(T:Txt K mg D):∀C,Fam D C->bR K C "numbers":=by
 rintro C (rfl|rfl|rfl)
 .exact T.tX
 .exact T.tH
 .exact T.qQ
theorem Txt.Fq{K:Frag}{mg:Str->Ψ}{D:Adr}(T:Txt K mg D):∀C,Fam D C->bR K C "offered":=by
 rintro C (rfl|rfl|rfl)
 .exact T.tO
 .exact T.tZ
 .exact T.qP
theorem Txt.Kp{K:Frag}{mg:Str->Ψ}{D:Adr}(T:Txt K mg D):∀C,Fam D C->bR K C "pay":=by
 rintro C (rfl|rfl|rfl)
 .exact T.Bv
 .exact T.Ei
 .exact T.Bg
theorem Txt.Ob{K:Frag}{mg:Str->Ψ}{D:Adr}(T:Txt K mg D):∀C,Fam D C->bR K C "share":=by
 rintro C (rfl|rfl|rfl)
 .exact T.xR
 .exact T.xP
 .exact T.v8
def dW(D:Adr)(C:Addr):Prop:=C=D.Door\/C=D.Mixed
theorem dW.fam{D:Adr}{C:Addr}(h:dW D C):Fam D C:=by
 unfold dW at h;unfold Fam;rcases h with h|h<;>simp[h]
theorem Txt.Ag{K:Frag}{mg:Str->Ψ}{D:Adr}(T:Txt K mg D):∀C,dW D C->Meth K C "ways" D.Door_ways:=by
 rintro C (rfl|rfl)
 .exact T.z_
 .exact T.xq
class Bs where
 P:Program
 w:World
 K:Frag
 mg:Str->Ψ
 base:Heap
section
open Bs (P w K mg base)
abbrev gT[Bs](k:Nat)(x:Str)(ps:Θ)(S:ST):Prop:=OkT P w K mg base k x ps S
abbrev gI[Bs](k:Nat)(a:Addr)(ps:Θ)(S:ST):Prop:=OkI P w K mg base CX0 k a ps (spT K S)
abbrev FT[Bs](k:Nat)(f:Addr)(fd:FuncData)(ps:Θ)(S:ST):Prop:=cH P w K mg base CX0 k f fd ps (spT K S)
abbrev Fu[Bs](n:Str)(s:Stmt)(f:Addr)(fd:FuncData):Prop:=Fun K n n s f fd
abbrev Tx[Bs](D:Adr):Prop:=Txt K mg D
variable[Bs]{D:Adr}{f:Addr}{fd:FuncData}
abbrev frT(f:Int×Int):T:=.tup [.int f.1,.int f.2]
def isW:T->Option Bool
 |.int _=>some true
 |.bl _=>some false
 |.non=>some false
 |.str _=>some false
 |.tup _=>some false
 |.lst _=>some false
 |_=>none
def jQ:ST:=λts q=>∃t b,ts=[t]/\isW t=some b/\q (.fz (.bl b))
theorem Dv(T:Tx D)(F:Fu iI oW f fd):FT 1 f fd eZ jQ:=by
 refine F.okT Cu λaf A outer s H E hr nd=>?_;refine⟨_,(bx (bV (vm (lq .int (qv 0) T.bL T.RV boot_int) (uI (Vl (lq .bool (qv 0) T.bL T.Kd boot_bool)))))),?_⟩;rintro _ R ⟨t,b,rfl,h,q⟩;cases t<;>cases h<;>exact q
def jz:ST:=λts q=>∃a b,ts=[.int a,.int b]/\q (.fz (.int (Int.gcd a b)))
theorem Fi(T:Tx D)(F:Fu iu rF f fd):FT 1 f fd cT jz:=by
 refine F.okT GF λaf A outer s H E hr nd=>?_;refine⟨_,(bh (bI 2 (bT vH T.DQ boot_abs (aY (qv 0) bf)))
  (bh (bI 3 (bT vH T.DQ boot_abs (aY (qv 1) bf)))
  (bh (BX (cj (sJ hr.units) (qv 3) aZ)
  (bh (bI 4 (bA b_ (qv 2) (qv 3)))
  (bh (bI 2 (qv 3))
  (bx (bI 3 (qv 4))))))
  (bx (bV (qv 2)))))),?_⟩
 rintro _ R ⟨a,b,rfl,q⟩;refine⟨λm o=>∃(l r:Nat)(x:OT),o=[.fz (.int a),.fz (.int b),.fz (.int l),.fz (.int r),x]/\Nat.gcd l r=Int.gcd a b/\m=r,⟨_,_,_,_,rfl,rfl,rfl⟩,?_⟩;rintro m _ ⟨l,r,x,rfl,hg,hm⟩;refine sw2 (λh=>?_) λh=>?_
 .have hr:r≠0:=by intro z;subst z;cases h
  refine⟨λo=>∃x,o=[.fz (.int a),.fz (.int b),.fz (.int r),.fz (.int ((l%r:Nat):Int)),x],?_,?_⟩
  .rintro _ ⟨x,rfl⟩;exact⟨l%r,by have:=Nat.mod_lt l (Nat.pos_of_ne_zero hr);lia,r,l%r,x,rfl,(Nat.gcd_comm r (l%r)).trans ((Nat.gcd_rec r l).symm.trans ((Nat.gcd_comm r l).trans hg)),rfl⟩
  .exact⟨by lia,_,by rw[Int.natCast_emod];rfl⟩
 .have hr:r=0:=by
   by_cases z:r=0
   .exact z
   .have:(decide ((r:Int)=0))=false:=Zp (by lia);rw[show xr true (decide ((r:Int)=0)) = !decide ((r:Int)=0)from rfl,this]at h;cases h
  subst hr;rw[Nat.gcd_zero_right]at hg;rw[<- hg]at q;exact q
structure Low(t b x y:Int):Prop where
 pos:0<y
 gcd:Int.gcd x y=1
 eq:x*b=t*y
 lx:x.natAbs<=t.natAbs
 ly:y.natAbs<=b.natAbs
theorem u9{c q:Int}(h:c≠0):Int.fdiv (c*q) c=q:=by
 rw[Int.fdiv_eq_ediv_of_dvd (Int.dvd_mul_right c q),Int.mul_ediv_cancel_left _ h]
theorem vq{c q:Int}(h:c≠0):q.natAbs<=(c*q).natAbs:=by
 rw[Int.natAbs_mul];exact Nat.le_mul_of_pos_left _ (by lia)
theorem vQ{t b c:Int}(hb:b≠0)(hc:c≠0)(hg:c.natAbs=Int.gcd t b)(hs:0<c*b):Low t b (Int.fdiv t c) (Int.fdiv b c):=by
 have d1:c ∣ t:=Int.natAbs_dvd.mp (by rw[hg];exact Int.gcd_dvd_left t b);have d2:c ∣ b:=Int.natAbs_dvd.mp (by rw[hg];exact Int.gcd_dvd_right t b);obtain⟨x,rfl⟩:=d1;obtain⟨y,rfl⟩:=d2;rw[u9 hc,u9 hc];refine⟨?_,?_,?_,vq hc,vq hc⟩
 .rw[<- Int.mul_assoc]at hs;have hp:0<c*c:=by
   rcases Int.lt_or_lt_of_ne hc with z|z
   .exact Int.mul_pos_of_neg_of_neg z z
   .exact Int.mul_pos z z
  exact Int.pos_of_mul_pos_right hs hp
 .rw[Int.gcd_mul_left]at hg;have hp:0<c.natAbs:=by lia
  exact Nat.eq_of_mul_eq_mul_left hp (by rw[Nat.mul_one];exact hg.symm)
 .rw[Int.mul_left_comm,Int.mul_assoc]
theorem jR{a b:Int}(hb:b≠0):(0:Int)<(Int.gcd a b:Nat):=by
 have:=Int.gcd_pos_of_ne_zero_right a hb;lia
theorem Cv{i j:Int}(h:i.natAbs<=j.natAbs)(k:Bd j):Bd i:=Y3 h k
theorem Mi{i:Int}(h:Bd i):Bd (-i):=by unfold Bd at *;rw[Int.natAbs_neg];exact h
theorem Fv{a b:Int}(hb:b≠0)(h:Bd b):Bd ((Int.gcd a b:Nat):Int):=Cv (by
 have:=VZ (by lia) (Int.gcd_dvd_natAbs_right a b);omega) h
def vd:ST:=λts q=>∃t b,ts=[.int t,.int b]/\b≠0/\Bd b/\∀x y,Low t b x y->q (.fz (frT (x,y)))
theorem N_(T:Tx D)(cW:gT 1 iI eZ jQ)(dB:gT 1 iu cT jz)(F:Fu pW zL f fd):FT 2 f fd j_ vd:=by
 refine F.okT Od λaf A outer s H E hr nd=>?_;refine⟨_,(bh (cQ (QW.qt (gJ (cM (cD (bB cW (aY (qv 0) bf)))) (gw (cM (cD (bB cW (aY (qv 1) bf)))))))
  (bx iH)
  bU)
  (bh (cQ (cj (go_eq hr.units) (qv 1) aZ)
  (bx iH)
  bU)
  (bh (bI 2 (bB dB (aY (qv 0) (aY (qv 1) bf))))
  (bh (cQ (cj BK (qv 1) aZ)
  (bx (bI 2 (zy (qv 2))))
  bU)
  (bx (bV (cJ (aY (bA dY (qv 0) (qv 2)) (aY (bA dY (qv 1) (qv 2)) bf))))))))),?_⟩
 rintro _ R ⟨t,b,rfl,hb,hd,q⟩;refine⟨_,_,rfl,rfl,_,_,rfl,rfl,?_⟩;have g0:=jR (a:=t) hb;have g1:=Fv (a:=t) hb hd;refine swF (Zp hb) ⟨_,_,rfl,swD (λhn=>⟨⟨by omega,Mi g1⟩,⟨by omega,Mi g1⟩,q _ _ (vQ hb (by omega) (by lia) (Int.mul_pos_of_neg_of_neg (by lia) hn))⟩) λhn=>⟨⟨by exact X1 g0,g1⟩,⟨by exact X1 g0,g1⟩,q _ _ (vQ hb (X1 g0) (by lia) (Int.mul_pos g0 (by lia)))⟩⟩
abbrev frR(r:Rat):T:=.tup [.int r.num,.int r.den]
theorem pO{t b x y:Int}(h:Low t b x y)(hb:b≠0):frT (x,y)=frR (Rat.divInt t b):=by
 have hy:=h.pos;have e:Rat.divInt t b=⟨x,y.toNat,by lia,by have:=h.gcd;unfold Int.gcd at this;rw[show y.toNat=y.natAbs by lia];exact this⟩:=by
  rw[Rat.mk_eq_divInt,show((y.toNat:Nat):Int)=y by exact Int.toNat_of_nonneg (XZ hy)];exact(US hb (X1 hy)).mpr h.eq.symm
 rw[e];show T.tup [.int x,.int y]=.tup [.int x,.int (y.toNat:Nat)];rw[show((y.toNat:Nat):Int)=y by exact Int.toNat_of_nonneg (XZ hy)]
theorem rd(r:Rat):Rat.divInt r.num r.den=r:=Rat.num_divInt_den r
theorem uK(r:Rat):((r.den:Nat):Int)≠0:=by have:=r.den_pos;lia
def Bq(r:Rat):Prop:=Bd r.num/\Bd (r.den:Nat)
def Hh:ST:=λts q=>∃a b:Rat,ts=[frR a,frR b]/\Bq a/\Bq b/\Bd ((a.den:Int)*b.den)/\q (.fz (frR (a+b)))
def p7:ST:=λts q=>∃a b:Rat,ts=[frR a,frR b]/\Bq a/\Bq b/\q (.fz (.bl (decide (a<b))))
theorem v7{a b:Int}(ha:a≠0)(hb:b≠0):a*b≠0:=λz=>(Int.mul_eq_zero.mp z).elim ha hb
section
variable(kZ:gT 2 pW j_ vd)
include kZ
theorem Oh(F:Fu Av FJ f fd):FT 3 f fd qu Hh:=by
 refine F.okT Qh λaf A outer s H E hr nd=>?_;refine⟨_,(bx (bV (bB kZ (aY (bA bM (bA gA (bH (qv 0) aZ) (bH (qv 1) aZ)) (bA gA (bH (qv 1) aZ) (bH (qv 0) aZ))) (aY (bA gA (bH (qv 0) aZ) (bH (qv 1) aZ)) bf))))),?_⟩;rintro _ R ⟨a,b,rfl,ha,hb,hd,q⟩;refine⟨⟨ha.1,hb.2⟩,⟨hb.1,ha.2⟩,⟨ha.2,hb.2⟩,_,_,rfl,v7 (uK a) (uK b),hd,λx y l=>?_⟩;rw[pO l (v7 (uK a) (uK b)),<- UK _ _ (uK a) (uK b),rd,rd];exact q
end
theorem Mv(F:Fu m7 yW f fd):FT 1 f fd jj p7:=by
 refine F.okT Nh λaf A outer s H E hr nd=>?_;refine⟨_,(bx (bV (iw BK (bA gA (bH (qv 0) aZ) (bH (qv 1) aZ)) (bA gA (bH (qv 1) aZ) (bH (qv 0) aZ))))),?_⟩;rintro _ R ⟨a,b,rfl,ha,hb,q⟩;refine⟨⟨ha.1,hb.2⟩,⟨hb.1,ha.2⟩,?_⟩;rw[show decide (a<b)=decide (a.num*(b.den:Int)<b.num*(a.den:Int))from decide_eq_decide.mpr (Rat.lt_iff a b)]at q;exact q
def jO:ST:=λts q=>∃r:Rat,ts=[frR r]/\q (.fz (.bl true))
theorem Ej(T:Tx D)(cW:gT 1 iI eZ jQ)(dB:gT 1 iu cT jz)(F:Fu fG kJ f fd):FT 2 f fd dG jO:=by
 refine F.okT sI λaf A outer s H E hr nd=>?_;refine⟨_,(bh (cQ (QW.qt (gJ (cM (cD (lq .tuple (qv 0) T.bL T.zf boot_tuple))) (gw (cj (sJ hr.units) (bT jZ T.jB WZ (aY (qv 0) bf)) aZ))))
  (bx (bV jT))
  bU)
  (bh (bI 1 (bH (qv 0) aZ))
  (bh (bI 2 (bH (qv 0) aZ))
  (bh (cQ (QW.qt (gJ (cM (cD (bB cW (aY (qv 1) bf)))) (gw (cM (cD (bB cW (aY (qv 2) bf)))))))
  (bx (bV jT))
  bU)
  (bx (bV (vm (iw K6 (qv 2) aZ) (uI (iw (go_eq hr.units) (bB dB (aY (qv 1) (aY (qv 2) bf))) aZ))))))))),?_⟩
 rintro _ R ⟨r,rfl,q⟩;refine⟨_,_,rfl,rfl,_,_,rfl,rfl,?_⟩;have:=r.den_pos;refine swT (Zs (by lia)) ⟨_,_,rfl,?_⟩;rw[show Int.gcd r.num r.den=1 from r.reduced];exact q
def aaI:List Rat->Nat
 |[]=>1
 |r::rs=>Nat.lcm r.den (aaI rs)
def gZ(n:Nat):List Rat->Nat
 |[]=>n
 |r::rs=>gZ (Nat.lcm n r.den) rs
theorem nj:∀(rs:List Rat){n:Nat},0<n->0<gZ n rs
 |[],_,h=>h
 |r::rs,_,h=>nj rs (Nat.lcm_pos h r.den_pos)
theorem mD:∀(rs:List Rat){n:Nat},n ∣ gZ n rs/\∀r∈rs,r.den ∣ gZ n rs
 |[],n=>⟨Nat.dvd_refl n,λ_ z=>(nomatch z)⟩
 |r::rs,n=>by
  obtain⟨a,b⟩:=mD rs (n:=Nat.lcm n r.den);refine⟨Nat.dvd_trans (Nat.dvd_lcm_left ..) a,λx hx=>?_⟩;rcases YU.mp hx with rfl|z
  .exact Nat.dvd_trans (Nat.dvd_lcm_right ..) a
  .exact b x z
theorem uU:∀(rs:List Rat){n m:Nat},n ∣ m->(∀r∈rs,r.den ∣ m)->gZ n rs ∣ m
 |[],_,_,h,_=>h
 |r::rs,_,_,h,k=>uU rs (Nat.lcm_dvd h (k r (aL ..))) λx hx=>k x (aG _ hx)
theorem wH:∀(as bs:List Rat)(n:Nat),gZ n (as++bs)=gZ (gZ n as) bs
 |[],_,_=>rfl
 |_::as,bs,_=>wH as bs _
def tops(B:Nat)(rs:List Rat):List Int:=rs.map λr=>r.num*((B/r.den:Nat):Int)
theorem Gs{m n:Nat}(h:Bd (n:Int))(l:m<=n):Bd (m:Int):=Cv (by omega) h
theorem K4(n d:Nat):(Int.fdiv (n:Int) ((Int.gcd n d:Nat):Int))*d=((Nat.lcm n d:Nat):Int):=by
 rw[show Int.gcd (n:Int) (d:Int)=Nat.gcd n d from rfl,Int.fdiv_eq_ediv_of_dvd (Int.natCast_dvd_natCast.mpr (Nat.gcd_dvd_left n d)),<- Int.natCast_ediv,<- Int.natCast_mul,Nat.lcm,Nat.div_mul_right_comm (Nat.gcd_dvd_left n d)]
theorem uQ(m n:Nat):Int.fdiv (m:Int) (n:Int)=((m/n:Nat):Int):=by rw[Int.fdiv_eq_ediv_of_nonneg _ (XT _)];rfl
def CJ:ST:=λts q=>∃rs:List Rat,ts=[.lst (rs.map frR)]/\rs.length<=1000/\(∀r∈rs,Bd r.num)/\Bd (gZ 1 rs:Nat)/\q (.fz (.tup [.lst ((tops (gZ 1 rs) rs).map T.int),.int (gZ 1 rs:Nat)]))
theorem Nq(dB:gT 1 iu cT jz)(F:Fu vZ ug f fd):FT 2 f fd lU CJ:=by
 refine F.okT NT λaf A outer s H E hr nd=>?_;refine⟨_,(bh (bI 1 aZ)
  (bh (fP (c7 (qv 0)) (bQ (n:=99) 2)
  (bx (bI 1 (bA gA (bA dY (qv 1) (bB dB (aY (qv 1) (aY (bH (qv 2) aZ) bf)))) (bH (qv 2) aZ)))))
  (bx (bV (cJ (aY (iG (bw ug) H_ ["fractions","bottom","?one"] ["one"] (c7 (qv 0)) (n6 (i:=0)) fH (bA gA (bH (qv 0) aZ) (bA dY (qv 2) (bH (qv 0) aZ)))) (aY (qv 1) bf))))))),?_⟩
 rintro _ R ⟨rs,rfl,rl,hn,hB,q⟩;refine d_ frR rs (λas o=>∃x,o=[.fz (.lst (rs.map frR)),.fz (.int (gZ 1 as:Nat)),x]) ⟨_,rfl⟩ ?_ ?_
 .rintro as a bs _ e ⟨x,rfl⟩;have d1:=(mD (a::bs) (n:=gZ 1 as)).1;have el:gZ 1 rs=gZ (gZ 1 as) (a::bs):=by rw[e];exact wH as (a::bs) 1
  have hp:=nj as Nat.one_pos;have hB0:=nj rs Nat.one_pos;have b1:Bd (gZ 1 as:Nat):=Gs hB (el ▸ VZ (el ▸ hB0) d1);have b2:Bd (a.den:Nat):=Gs hB (VZ hB0 ((mD rs).2 a (e ▸ by simp)));refine⟨_,_,rfl,⟨by have:=jR (a:=(gZ 1 as:Nat)) (uK a);exact X1 this,Fv (uK a) b2⟩,⟨Cv ?_ b1,b2⟩,.fz (frR a),?_⟩
  .rw[show Int.gcd ((gZ 1 as:Nat):Int) (a.den:Int)=Nat.gcd (gZ 1 as) a.den from rfl,uQ];exact Nat.div_le_self ..
  .rw[K4,wH]
   rfl
 .rintro _ ⟨x,rfl⟩;refine⟨aJ (by simpa using rl) (by decide),comp_map frR (λr=>.int (r.num*((gZ 1 rs/r.den:Nat):Int))) rs (λr hr N M hN=>?_) ?_⟩
  .have b2:Bd (r.den:Nat):=Gs hB (VZ (nj rs Nat.one_pos) ((mD rs).2 r hr));refine⟨⟨uK r,b2⟩,⟨hn r hr,Cv ?_ hB⟩,?_⟩
   .rw[uQ];exact Nat.div_le_self ..
   .rw[uQ];exact hN
  .have:(tops (gZ 1 rs) rs).map T.int=rs.map (λr=>.int (r.num*((gZ 1 rs/r.den:Nat):Int))):=by unfold tops;rw[X0];rfl
   rw[this]at q;exact q
def d8(l:List Nat):Bool:=decide (1<=l.length)&&decide (l.length<=8)&&l.all λc=>decide (97<=c)&&decide (c<=122)
abbrev Wd(n:Str):Prop:=d8 n.cps.toList=true
theorem Wd.len{n:Str}(h:Wd n):1<=n.length/\n.length<=8:=by
 unfold Wd d8 at h;simp only[UT,decide_eq_true_eq,Array.length_toList]at h;exact h.1
theorem uE(c d:Nat):(!decide ((⟨#[d]⟩ : Str).cps.toList<(⟨#[c]⟩ : Str).cps.toList))=decide (c<=d):=by
 have:((⟨#[d]⟩ : Str).cps.toList<(⟨#[c]⟩ : Str).cps.toList)↔d<c:=by
  show[d]<[c]↔d<c;constructor
  .intro h;cases h with
   |rel h=>exact h
   |cons h=>cases h
  .exact λh=>.rel h
 rw[show decide ((⟨#[d]⟩ : Str).cps.toList<(⟨#[c]⟩ : Str).cps.toList)=decide (d<c)from decide_eq_decide.mpr this];by_cases h:c<=d
 .rw[Zs h,Zp (VQ h)];rfl
 .rw[Zp h,Zs (Nat.lt_of_not_le h)];rfl
def oM:ST:=λts q=>∃n:Str,ts=[.str n]/\Wd n/\q (.fz (.bl true))
theorem E_(T:Tx D)(F:Fu g8 jf f fd):FT 1 f fd eX oM:=by
 refine F.okT vg λaf A outer s H E hr nd=>?_;refine⟨_,(bh (cQ (QW.qt (gJ (cM (cD (lq .str (qv 0) T.bL T.Ka boot_str))) (gw (cM (DN CN CN aZ (bT uc T.jB WZ (aY (qv 0) bf)) (DR T.m6 λ_=>.int _))))))
  (bx (bV jT))
  bU)
  (bx (bV (bT (Ge rfl) T.KQ boot_all (aY (iG (bw jf) kh kh ["sign"] (Gd (qv 0)) (n6 (i:=0)) fH (wu zc zc fj (qv 0) fj)) bf))))),?_⟩
 rintro _ R ⟨n,rfl,hw,q⟩;obtain⟨l1,l8⟩:=hw.len;refine⟨aJ l8 (by decide),swT (Zs (by lia)) (swF (by rw[Zs (show((n.length:Nat):Int)<=8 by lia)];rfl) ⟨by rw[ak];exact aJ l8 (by decide),comp_map (λc=>.str ⟨#[c]⟩) (λc=>.bl (decide (97<=c)&&decide (c<=122))) n.cps.toList (λc _ N M hN=>?_) ⟨n.cps.toList.map λc=>decide (97<=c)&&decide (c<=122),by rw[X0];rfl,?_⟩⟩)⟩
 .have e1:(!decide ((⟨#[c]⟩ : Str).cps.toList<("a":Str).cps.toList))=decide (97<=c):=by rw[show("a":Str)=⟨#[97]⟩from by decide +kernel];exact uE 97 c
  have e2:(!decide (("z":Str).cps.toList<(⟨#[c]⟩ : Str).cps.toList))=decide (c<=122):=by rw[show("z":Str)=⟨#[122]⟩from by decide +kernel];exact uE c 122
  refine sw2 (λh=>?_) λh=>?_
  .rw[<- e1,h,<- e2]at hN;exact hN
  .rw[<- e1,h]at hN;exact hN
 .have:((n.cps.toList.map λc=>decide (97<=c)&&decide (c<=122)).all λb=>b)=true:=by
   unfold Wd d8 at hw;rw[UT]at hw;rw[List.all_map];exact hw.2
  rw[<- this]at q;exact q
def oF:ST:=λts q=>∃(n:Str)(r:Rat),ts=[.str n,frR r]/\Wd n/\q (.fz .non)
theorem w6(eE:gT 1 g8 eX oM)(cI:gT 2 fG dG jO)(F:Fu jW lK f fd):FT 3 f fd gb oF:=by
 refine F.okT xH λaf A outer s H E hr nd=>?_;refine⟨_,(bh (cQ (cM (cD (bB eE (aY (qv 0) bf))))
  (bx iH)
  bU)
  (bx (cQ (cM (cD (bB cI (aY (qv 1) bf))))
  (bx iH)
  bU))),?_⟩
 rintro _ R ⟨n,r,rfl,hw,q⟩;exact⟨_,rfl,hw,_,rfl,q⟩
def jt:ST:=λts q=>∃n:Str,ts=[.str n]/\Wd n/\q (.fz .non)
theorem oZ(eE:gT 1 g8 eX oM)(F:Fu gF gM f fd):FT 2 f fd dj jt:=by
 refine F.okT pA λaf A outer s H E hr nd=>?_;refine⟨_,(bx (cQ (cM (cD (bB eE (aY (qv 0) bf))))
  (bx iH)
  bU)),?_⟩
 rintro _ R ⟨n,rfl,hw,q⟩;exact⟨_,rfl,hw,q⟩
def Ch(r:Rat):Prop:=0<=r/\r<=1/\Bd (r.den:Nat)
theorem Ch.bq{r:Rat}(h:Ch r):Bq r:=by
 have h0:=Rat.num_nonneg.mpr h.1;have h1:=(Rat.le_iff r 1).mp h.2.1;exact⟨Cv (by have:r.num*((1:Rat).den:Int)<=(1:Rat).num*(r.den:Int):=h1;simp at this;omega) h.2.2,h.2.2⟩
theorem bq0:Bq 0:=⟨Nat.two_pow_pos 8000,Nat.one_lt_two_pow (by decide)⟩
theorem bq1:Bq 1:=⟨Nat.one_lt_two_pow (by decide),Nat.one_lt_two_pow (by decide)⟩
def lQ:ST:=λts q=>∃r:Rat,ts=[frR r]/\Ch r/\q (.fz .non)
theorem tL(T:Tx D)(cI:gT 2 fG dG jO)(gq:gT 1 m7 jj p7)(F:Fu iV jy f fd):FT 3 f fd d9 lQ:=by
 refine F.okT tR λaf A outer s H E hr nd=>?_;refine⟨_,(bx (cQ (QW.qt (gJ (cM (cD (bB cI (aY (qv 0) bf)))) (gJ (cD (bB gq (aY (qv 0) (aY (qJ T.mV T.kj) bf)))) (gw (cD (bB gq (aY (qJ T.Hz T.zX) (aY (qv 0) bf))))))))
  (bx iH)
  bU)),?_⟩
 rintro _ R ⟨r,rfl,hc,q⟩;refine⟨_,rfl,r,0,rfl,hc.bq,bq0,?_⟩;rw[Zp (Rat.not_lt.mpr hc.1)];refine⟨1,r,rfl,bq1,hc.bq,?_⟩;rw[Zp (Rat.not_lt.mpr hc.2.1)];exact q
def Ds(rs:List Rat):Rat:=rs.foldr (· + ·) 0
theorem Ek{B:Nat}(hB:B≠0):∀{rs:List Rat},(∀r∈rs,r.den ∣ B)->Rat.divInt (tops B rs).sum B=Ds rs
 |[],_=>by show Rat.divInt 0 _=0;exact Rat.zero_divInt _
 |r::rs,h=>by
  have ih:=Ek hB (rs:=rs) λx hx=>h x (aG _ hx);have l6:((B:Nat):Int)≠0:=by lia
  obtain⟨m,hm⟩:=h r (aL ..);show Rat.divInt (r.num*((B/r.den:Nat):Int)+(tops B rs).sum) B=r+Ds rs;have e1:r+Ds rs=Rat.divInt (r.num*B+(tops B rs).sum*r.den) (r.den*B):=by rw[<- UK _ _ (uK r) l6,rd,ih]
  rw[e1];refine(US l6 (v7 (uK r) l6)).mpr ?_;have:B/r.den=m:=by rw[hm];exact Nat.mul_div_cancel_left _ r.den_pos
  rw[this,hm];simp only[Int.natCast_mul]
  grind
def CG:ST:=λts q=>∃rs:List Rat,ts=[.lst (rs.map frR)]/\rs.length<=1000/\(∀r∈rs,Bd r.num)/\Bd (gZ 1 rs:Nat)/\q (.fz (frR (Ds rs)))
theorem M8(T:Tx D)(zH:gT 2 vZ lU CJ)(kZ:gT 2 pW j_ vd)(F:Fu vY yR f fd):FT 3 f fd mH CG:=by
 refine F.okT N6 λaf A outer s H E hr nd=>?_;refine⟨_,(bh (bI 1 (bB zH (aY (qv 0) bf)))
  (bx (bV (bB kZ (aY (bT (Ep rfl) T.MK boot_sum (aY (bH (qv 1) aZ) bf)) (aY (bH (qv 1) aZ) bf)))))),?_⟩
 rintro _ R ⟨rs,rfl,rl,hn,hB,q⟩;have hp:=nj rs Nat.one_pos;have hz:((gZ 1 rs:Nat):Int)≠0:=by lia
 refine⟨rs,rfl,rl,hn,hB,_,rfl,_,_,rfl,hz,hB,λx y l=>?_⟩;rw[pO l hz,Ek (VW hp) (mD rs).2];exact q
abbrev wyT(p:Str×Rat):T:=.tup [.str p.1,frR p.2]
def mC:ST:=λts q=>∃ps:List (Str×Rat),ts=[.lst (ps.map wyT)]/\ps.length<=1000/\(∀p∈ps,Wd p.1/\Ch p.2)/\Bd (gZ 1 (ps.map (·.2)):Nat)/\Ds (ps.map (·.2))=1/\q (.fz .non)
theorem uR(T:Tx D)(gO:gT 2 gF dj jt)(jk:gT 3 iV d9 lQ)(zJ:gT 3 vY mH CG)(F:Fu jG iz f fd):FT 4 f fd fB mC:=by
 refine F.okT vP λaf A outer s H E hr nd=>?_;refine⟨_,(bh (fP (c7 (qv 0)) (gP (n:=2) (bN (bQ (n:=99) 1) (bN (bQ (n:=99) 2) dU)))
  (bh (uo (bB gO (aY (qv 1) bf)))
  (bx (uo (bB jk (aY (qv 2) bf))))))
  (bx (cQ (cj (sJ hr.units) (bB zJ (aY (iG (bw iz) jV jV ["pair"] (c7 (qv 0)) (n6 (i:=0)) fH (bH (qv 0) aZ)) bf)) (qJ T.Hz T.zX))
  (bx iH)
  bU))),?_⟩
 rintro _ R ⟨ps,rfl,pl,hp,hB,hs,q⟩;refine d_ wyT ps (λ_ o=>∃x y,o=[.fz (.lst (ps.map wyT)),x,y]) ⟨_,_,rfl⟩ ?_ ?_
 .rintro as a bs _ e ⟨x,y,rfl⟩;obtain⟨h1,h2⟩:=hp a (e ▸ by simp);exact⟨rfl,_,rfl,h1,_,rfl,h2,_,_,rfl⟩
 .rintro _ ⟨x,y,rfl⟩;refine⟨aJ (by simpa using pl) (by decide),comp_map wyT (λp=>frR p.2) ps (λp _ N M hN=>hN) ⟨ps.map (·.2),by rw[X0];rfl,by simpa using pl,λr hr=>?_,hB,?_⟩⟩
  .obtain⟨p,eT,rfl⟩:=YV.mp hr;exact(hp p eT).2.bq.1
  .rw[hs];exact q
def addW(ws:List (Str×Rat))(p:Str×Rat):List (Str×Rat):=if(ws.any λx=>decide (x.1=p.1))=true then ws.map (λx=>if x.1=p.1 then(x.1,x.2+p.2)else x)else ws++[p]
def dZ(ps:List (Str×Rat)):List (Str×Rat):=ps.foldl addW []
abbrev wKs(ws:List (Str×Rat)):List Key:=ws.map λx=>.inr x.1
abbrev wTs(ws:List (Str×Rat)):List T:=ws.map λx=>frR x.2
theorem Tp(ws:List (Str×Rat))(n:Str):zQ (wKs ws) (.inr n)=ws.any λx=>decide (x.1=n):=by
 unfold zQ;rw[List.any_map]
 congr 1
 funext x
 exact decide_eq_decide.mpr ⟨λz=>Sum.inr.inj z,λz=>ZH Sum.inr z⟩
theorem Gk(n:Str):∀ws:List (Str×Rat),jr (wKs ws) (wTs ws) (.inr n)=(ws.find? λx=>decide (x.1=n)).map λx=>frR x.2
 |[]=>rfl
 |x::ws=>by
  show(if(Sum.inr x.1:Key)=.inr n then some (frR x.2)else jr (wKs ws) (wTs ws) (.inr n))=_;by_cases h:x.1=n
  .rw[ZY (ZH Sum.inr h),UH (p:=λx:Str×Rat=>decide (x.1=n)) (Zs h)];rfl
  .rw[ZZ λz=>h (Sum.inr.inj z),List.find?_cons_of_neg (p:=λx:Str×Rat=>decide (x.1=n)) (by show ¬decide (x.1=n)=true;rw[Zp h];decide),Gk n ws]
def rO(ws:List (Str×Rat))(n:Str):Rat:=((ws.find? λx=>decide (x.1=n)).map (·.2)).getD 0
theorem Pb(ws:List (Str×Rat))(n:Str):((jr (wKs ws) (wTs ws) (.inr n)).getD (frR 0))=frR (rO ws n):=by
 rw[Gk];unfold rO;cases(ws.find? λx=>decide (x.1=n))<;>rfl
theorem Hq{ws:List (Str×Rat)}{n:Str}(nd:(ws.map (·.1)).Nodup){x:Str×Rat}(hx:x∈ws)(e:x.1=n):(ws.find? λy=>decide (y.1=n))=some x:=by
 induction ws with
 |nil=>cases hx
 |cons y ws ih =>
  obtain⟨n1,n2⟩:=List.nodup_cons.mp nd;rcases YU.mp hx with rfl|z
  .exact UH (p:=λy:Str×Rat=>decide (y.1=n)) (Zs e)
  .rw[List.find?_cons_of_neg (p:=λy:Str×Rat=>decide (y.1=n)) (by show ¬decide (y.1=n)=true;rw[Zp λw=>n1 (YV.mpr ⟨x,z,e.trans w.symm⟩)];decide)];exact ih n2 z
theorem Zo(ws:List (Str×Rat))(p:Str×Rat)(nd:(ws.map (·.1)).Nodup):kpK (wKs ws) (.inr p.1)=wKs (addW ws p)/\kpT (wKs ws) (wTs ws) (.inr p.1) (frR (rO ws p.1+p.2))=wTs (addW ws p):=by
 unfold kpK kpT addW;rw[Tp];by_cases h:(ws.any λx=>decide (x.1=p.1))=true
 .rw[ZY h,ZY h,ZY h];refine⟨by simp only[wKs,X0];refine List.map_congr_left λx _=>?_;show(Sum.inr x.1:Key)=.inr (if x.1=p.1 then(x.1,x.2+p.2)else x).1;split<;>rfl,?_⟩
  clear h
  rw[show wTs (ws.map λx=>if x.1=p.1 then(x.1,x.2+p.2)else x)=ws.map ((λx=>frR x.2) ∘ λx=>if x.1=p.1 then(x.1,x.2+p.2)else x)from X0]
  suffices H:∀(us:List (Str×Rat)),(∀x∈us,x.1=p.1->x.2=rO ws p.1)->List.zipWith (λ(k:Key)x=>if k=.inr p.1 then frR (rO ws p.1+p.2)else x) (wKs us) (wTs us)=us.map ((λx=>frR x.2) ∘ λx=>if x.1=p.1 then(x.1,x.2+p.2)else x)from H ws λx hx e=>by
   unfold rO;rw[Hq nd hx e];rfl
  intro us
  induction us with
  |nil=>intro _;rfl
  |cons x us ih =>
   intro H;show List.zipWith _ (Sum.inr x.1::wKs us) (frR x.2::wTs us)=_;rw[List.zipWith_cons_cons,ih λy hy=>H y (aG _ hy),List.map_cons]
   congr 1
   by_cases e:x.1=p.1
   .rw[ZY (ZH Sum.inr e)];show _=frR (if x.1=p.1 then(x.1,x.2+p.2)else x).2;rw[ZY e,H x (aL ..) e]
   .rw[ZZ λz=>e (Sum.inr.inj z)];show _=frR (if x.1=p.1 then(x.1,x.2+p.2)else x).2;rw[ZZ e]
 .rw[ZZ h,ZZ h,ZZ h];have n0:rO ws p.1=0:=by
   unfold rO;rw[List.find?_eq_none.mpr λx hx z=>h (List.any_eq_true.mpr ⟨x,hx,z⟩)];rfl
  rw[n0,Rat.zero_add];simp only[wKs,wTs,aW];exact⟨rfl,rfl⟩
theorem QJ{α:Type}[DecidableEq α]{ws:List (α×Rat)}{p:α×Rat}(nd:(ws.map (·.1)).Nodup):((if(ws.any λx=>decide (x.1=p.1))=true then ws.map (λx=>if x.1=p.1 then(x.1,x.2+p.2)else x)else ws++[p]).map (·.1)).Nodup:=by
 by_cases h:(ws.any λx=>decide (x.1=p.1))=true
 .rw[ZY h,X0];rw[show ws.map ((λx=>x.1) ∘ λx=>if x.1=p.1 then(x.1,x.2+p.2)else x)=ws.map (·.1)from List.map_congr_left λx _=>by show(if x.1=p.1 then(x.1,x.2+p.2)else x).1=x.1;split<;>rfl];exact nd
 .rw[ZZ h,aW];refine List.nodup_append.mpr ⟨nd,by simp,λa ha b hb z=>h ?_⟩;obtain⟨x,hx,rfl⟩:=YV.mp ha;rw[List.map_singleton,YR]at hb;exact List.any_eq_true.mpr ⟨x,hx,Zs (z.trans hb)⟩
theorem Oz{ws:List (Str×Rat)}{p:Str×Rat}(nd:(ws.map (·.1)).Nodup):((addW ws p).map (·.1)).Nodup:=QJ nd
theorem yG(as bs:List (Str×Rat)):dZ (as++bs)=bs.foldl addW (dZ as):=List.foldl_append ..
theorem Cr(ps:List (Str×Rat)):((dZ ps).map (·.1)).Nodup:=by
 suffices H:∀(ps ws:List (Str×Rat)),(ws.map (·.1)).Nodup->((ps.foldl addW ws).map (·.1)).Nodup from H ps [] .nil
 intro ps
 induction ps with
 |nil=>exact λ_ h=>h
 |cons p ps ih=>exact λws h=>ih _ (Oz h)
theorem qW(ps:List (Str×Rat)):(dZ ps).length<=ps.length:=by
 suffices H:∀(ps ws:List (Str×Rat)),(ps.foldl addW ws).length<=ws.length+ps.length from by simpa[dZ]using H ps []
 intro ps
 induction ps with
 |nil=>exact λ_=>aD _
 |cons p ps ih =>
  intro ws;have h1:(addW ws p).length<=ws.length+1:=by
   unfold addW;split
   .rw[ak];exact Xs _
   .rw[au,List.length_singleton];exact aD _
  have:=ih (addW ws p);rw[List.foldl_cons,List.length_cons];lia
def RW(ps:List (Str×Rat)):Prop:=∀as a bs,ps=as++a::bs->Bq (rO (dZ as) a.1)/\Bq a.2/\Bd (((rO (dZ as) a.1).den:Int)*a.2.den)
def qg(ps:List (Str×Rat)):List (Str×Rat):=(dZ ps).filter λp=>!decide (p.2=0)
def nq:ST:=λts q=>∃ps:List (Str×Rat),ts=[.lst (ps.map wyT)]/\ps.length<=1000/\RW ps/\q (.l1 ((qg ps).map wyT))
theorem uZ(T:Tx D)(Gm:gT 3 Av qu Hh)(F:Fu jC iC f fd):FT 4 f fd fD nq:=by
 refine F.okT uG λaf A outer s H E hr nd=>?_;refine⟨_,(bh (gH 1 Am)
  (bh (fP (c7 (qv 0)) (gP (n:=2) (bN (bQ (n:=99) 2) (bN (bQ (n:=99) 3) dU)))
  (bx (yX 1 (oE hr) (bB Gm (aY (Oj 1 (oE hr) (qv 2) (qJ T.mV T.kj)) (aY (qv 3) bf))) (qv 2))))
  (bx (Qt 1 (bw iC) oJ ["pairs","chances","?room","chance"] ["room"] (n6 (i:=0)) (GX (cj (sJ hr.units) (zN (oE hr) (qv 2) (qv 0)) (qJ T.mV T.kj))) (cJ (aY (qv 0) (aY (zN (oE hr) (qv 2) (qv 0)) bf))))))),?_⟩
 rintro _ R ⟨ps,rfl,pl,hb,q⟩;refine d_ wyT ps (λas o=>∃x y,o=[.fz (.lst (ps.map wyT)),.d1 (wKs (dZ as)) (wTs (dZ as)),x,y]) ⟨_,_,rfl⟩ ?_ ?_
 .rintro as a bs _ e ⟨x,y,rfl⟩;obtain⟨h1,h2,h3⟩:=hb as a bs e;refine⟨rfl,_,rfl,rO (dZ as) a.1,a.2,ZH (λt=>[t,frR a.2]) (Pb (dZ as) a.1),h1,h2,h3,_,rfl,?_,.fz (.str a.1),.fz (frR a.2),?_⟩
  .have:=qW as;have:as.length<=ps.length:=by rw[e];simp
   rw[ak];exact Y3 (show _<=1000 by lia) (by decide)
  .obtain⟨k1,k2⟩:=Zo (dZ as) a (Cr as);rw[show dZ (as++[a])=addW (dZ as) a from by rw[yG];rfl,<- k1,<- k2]
   rfl
 .rintro _ ⟨x,y,rfl⟩;have jl:=qW ps;refine⟨by rw[ak];exact aJ (show _<=1000 by exact aJ jl pl) (by decide),?_⟩;dsimp only;rw[show(wKs (dZ ps)).map kT=(dZ ps).map λp=>.str p.1 from X0];refine jN (λp=>.str p.1) (λp=>!decide (p.2=0)) wyT (dZ ps) (λp hp N M hN hM=>?_) ?_
  rotate_left
  .exact q
  have ev:jr (wKs (dZ ps)) (wTs (dZ ps)) (.inr p.1)=some (frR p.2):=by rw[Gk,Hq (Cr ps) hp rfl];rfl
  refine⟨_,_,rfl,ev,?_⟩;have ez:(decide (p.2.num=0)&&decide ((p.2.den:Int)=1))=decide (p.2=0):=by
   by_cases z:p.2=0
   .rw[z];decide
   .rw[Zp z,Zp λy=>z (Rat.num_eq_zero.mp y)];rfl
  refine sw2 (λh=>⟨_,_,rfl,ev,hN ?_⟩) λh=>hM ?_
  .rw[<- h];exact ZH (λb=>!b) ez.symm
  .rw[<- h];exact ZH (λb=>!b) ez.symm
abbrev ud:Θ:=["name","pay","leads"]
abbrev drT(C:Addr)(n:Str)(p:Rat)(ws:List (Str×Rat)):T:=.ins C ud [.str n,frR p,.lst (ws.map wyT)]
def Iu(D:Adr):SI:=λC ks ts as R=>∃(n:Str)(p:Rat),ks=[]/\ts=[]/\Fam D C/\as=[.str n,frR p]/\Wd n/\R ud [.str n,frR p,.lst []]
theorem Bf(T:Tx D)(kW:gT 3 jW gb oF)(F:Fun K pH qH lY f fd):cH P w K mg base CX0 4 f fd gK (spI K (Iu D)):=by
 refine F.okI zR (λC ks ts as R hP=>by obtain⟨n,p,_,_,_,e,_⟩:=hP;exact e ▸ rfl) (by decide) λaf A outer s H E hr nd=>?_;refine⟨_,(bh (uo (bB kW (aY (qv 1) (aY (qv 2) bf))))
  (bh (qL (Fm:=Fam D) 0 (λC h=>⟨T.cl C h,T.uf C h⟩) (qv 1))
  (bh (qL (Fm:=Fam D) 0 (λC h=>⟨T.cl C h,T.Kp C h⟩) (qv 2))
  (bx (qL (Fm:=Fam D) 0 (λC h=>⟨T.cl C h,T.wU C h⟩) (cZ bf)))))),?_⟩
 rintro a dx C _ _ _ R ⟨n,p,rfl,rfl,hC,rfl,hw,q⟩;exact⟨_,_,rfl,hw,⟨hC,by decide⟩,⟨hC,by decide⟩,⟨hC,by decide⟩,_,_,rfl,q⟩
theorem yO(D:Adr):Fam D D.Mixed:=by simp[Fam]
theorem Ef(D:Adr):Fam D D.Hall:=by simp[Fam]
structure Prs(ps:List (Str×Rat)):Prop where
 few:ps.length<=1000
 ok:∀p∈ps,Wd p.1/\Ch p.2
 bd:Bd (gZ 1 (ps.map (·.2)):Nat)
 one:Ds (ps.map (·.2))=1
 jb:RW ps
def Dk(D:Adr):SI:=λC ks ts as R=>∃(n:Str)(p:Rat)(ps:List (Str×Rat)),ks=[]/\ts=[]/\Fam D C/\as=[.str n,frR p,.lst (ps.map wyT)]/\Wd n/\Prs ps/\R ud [.str n,frR p,.lst ((qg ps).map wyT)]
theorem xu(T:Tx D)(mY:OkI P w K mg base CX0 4 D.Door_init gK (spI K (Iu D)))(jX:gT 4 jG fB mC)(j6:gT 4 jC fD nq)(F:Fun K oH oG k_ f fd):cH P w K mg base CX0 5 f fd fX (spI K (Dk D)):=by
 refine F.okI xg (λC ks ts as R hP=>by obtain⟨n,p,_,_,_,_,e,_⟩:=hP;exact e ▸ rfl) (by decide) λaf A outer s H E hr nd=>?_;refine⟨_,(bh (Ot 0 T.Az mY T.Uw (aY (qv 1) (aY (qv 2) bf)))
  (bh (uo (bB jX (aY (qv 3) bf)))
  (bx (qL (Fm:=Fam D) 0 (λC h=>⟨T.cl C h,T.wU C h⟩) (bB j6 (aY (qv 3) bf)))))),?_⟩
 rintro a dx C _ _ _ R ⟨n,p,ps,rfl,rfl,hC,rfl,hw,h,q⟩;exact⟨_,_,rfl,rfl,hC,rfl,hw,_,rfl,h.few,h.ok,h.bd,h.one,_,rfl,h.few,h.jb,⟨hC,by decide⟩,_,_,rfl,q⟩
def qI(D:Adr):ST:=λts q=>∃(C:Addr)(n:Str)(p:Rat)(ws:List (Str×Rat)),ts=[drT C n p ws]/\Fam D C/\q (.l1 (ws.map wyT))
theorem zq(T:Tx D)(F:Fun K pR qM nu f fd):FT 1 f fd gU (qI D):=by
 refine F.okT Bk λaf A outer s H E hr nd=>?_;refine⟨_,(bx (bV (nR Hj T.GP boot_list (aY (rR (Fm:=Fam D) (λC h=>⟨T.cl C h,T.wU C h⟩) (qv 0)) bf)))),?_⟩;rintro _ R ⟨C,n,p,ws,rfl,hC,q⟩;exact⟨hC,_,rfl,q⟩
abbrev nY:Θ:=["share","numbers","offered"]
abbrev nmK(ns:Θ):List Key:=ns.map Sum.inr
abbrev nmT(ns:Θ):List T:=(List.range ns.length).map λk:Nat=>.int k
def wJ:ST:=λts q=>∃r:Rat,ts=[frR r]/\0<=r/\r<1/\Bq r/\q (.fz .non)
theorem vB(T:Tx D)(cI:gT 2 fG dG jO)(gq:gT 1 m7 jj p7)(F:Fu gY iD f fd):FT 3 f fd dN wJ:=by
 refine F.okT mq λaf A outer s H E hr nd=>?_;refine⟨_,(bx (cQ (QW.qt (gJ (cM (cD (bB cI (aY (qv 0) bf)))) (gJ (cD (bB gq (aY (qv 0) (aY (qJ T.mV T.kj) bf)))) (gw (cM (cD (bB gq (aY (qv 0) (aY (qJ T.Hz T.zX) bf)))))))))
  (bx iH)
  bU)),?_⟩
 rintro _ R ⟨r,rfl,h0,h1,hb,q⟩;refine⟨_,rfl,r,0,rfl,hb,bq0,?_⟩;rw[Zp (Rat.not_lt.mpr h0)];refine⟨r,1,rfl,hb,bq1,?_⟩;rw[Zs h1];exact q
theorem Lp(ns:Θ)(n:Str)(h:n∉ns):zQ (nmK ns) (.inr n)=false:=by
 unfold zQ;rw[List.any_map];exact List.any_eq_false.mpr λx hx z=>h ((Sum.inr.inj (of_decide_eq_true z)) ▸ hx)
theorem Aq{α:Type}(n:Str):∀(ns:Θ)(ts:List α),n∉ns->jr (nmK ns) ts (.inr n)=none
 |[],_,_=>rfl
 |_::_,[],_=>rfl
 |m::ns,t::ts,h=>by
  show(if(Sum.inr m:Key)=.inr n then some t else jr (nmK ns) ts (.inr n))=none;rw[ZZ λz=>h (by rw[Sum.inr.inj z];exact aL ..)];exact Aq n ns ts λz=>h (aG _ z)
theorem ux{α:Type}{n:Str} : ∀{ns:Θ}{ts:List α}{k:Nat}{t:α},ns.Nodup->ns[k]?=some n->ts[k]?=some t->jr (nmK ns) ts (.inr n)=some t
 |[],_,_,_,_,e,_=>by cases e
 |m::ns,[],_,_,_,_,e=>by cases e
 |m::ns,u::ts,k,t,nd,e1,e2=>by
  obtain⟨n1,n2⟩:=List.nodup_cons.mp nd;show(if(Sum.inr m:Key)=.inr n then some u else jr (nmK ns) ts (.inr n))=some t;cases k with
  |zero=>cases e1;cases e2;exact ZY rfl
  |succ k =>
   have eM:ns[k]?=some n:=by simpa using e1
   rw[ZZ λ(z:(Sum.inr m:Key)=.inr n)=>n1 (by rw[Sum.inr.inj z];exact aA eM)];exact ux n2 eM (by simpa using e2)
theorem U0(ns:Θ)(n:Str)(h:n∉ns):kpK (nmK ns) (.inr n)=nmK (ns++[n])/\kpT (nmK ns) (nmT ns) (.inr n) (.int (ns.length:Nat))=nmT (ns++[n]):=by
 unfold kpK kpT;rw[Lp ns n h];refine⟨by rw[ZZ (by decide)];simp[nmK],?_⟩;rw[ZZ (by decide)];simp only[nmT,au,List.length_singleton,List.range_succ,aW,List.map_singleton]
def wdT:L2.T->Option Bool
 |.str n=>if n.length<=1000 then some (d8 n.cps.toList)else none
 |.int _=>some false
 |.bl _=>some false
 |.non=>some false
 |.lst _=>some false
 |.tup _=>some false
 |_=>none
def sW:ST:=λts q=>∃t:L2.T,ts=[t]/\oT (wdT t) λb=>q (.fz (.bl b))
theorem D_(T:Tx D)(F:Fu g8 jf f fd):FT 1 f fd eX sW:=by
 refine F.okT vg λaf A outer s H E hr nd=>?_;refine⟨_,(bh (cQ (QW.qt (gJ (cM (cD (lq .str (qv 0) T.bL T.Ka boot_str))) (gw (cM (DN CN CN aZ (bT uc T.jB WZ (aY (qv 0) bf)) (DR T.m6 λ_=>.int _))))))
  (bx (bV jT))
  bU)
  (bx (bV (bT (Ge rfl) T.KQ boot_all (aY (iG (bw jf) kh kh ["sign"] (Gd (qv 0)) (n6 (i:=0)) fH (wu zc zc fj (qv 0) fj)) bf))))),?_⟩
 rintro _ R ⟨t,rfl,h⟩;obtain⟨b,e,q⟩:=wL h;cases t with
 |str n =>
  have e:(if n.length<=1000 then some (d8 n.cps.toList)else none)=some b:=e;by_cases l:n.length<=1000
  .rw[ZY l]at e;cases e;have ln:n.cps.toList.length=n.length:=Array.length_toList;refine⟨aJ l (by decide),?_⟩;unfold d8 at q;rw[ln]at q;refine swD (λh1=>?_) λh1=>?_
   .rw[Zs (show 1<=n.length by lia),VS]at q;refine sw2 (λh2=>?_) λh2=>⟨by rw[ak,ln];exact aJ l (by decide),comp_map (λc=>.str ⟨#[c]⟩) (λc=>.bl (decide (97<=c)&&decide (c<=122))) n.cps.toList (λc _ N M hN=>?_) ⟨n.cps.toList.map λc=>decide (97<=c)&&decide (c<=122),by rw[X0];rfl,?_⟩⟩
    .have h2:¬((n.length:Nat):Int)<=8:=λz=>by rw[Zs z]at h2;cases h2
     rw[Zp (show ¬n.length<=8 by lia),Bool.false_and]at q;exact q
    .have e1:(!decide ((⟨#[c]⟩ : Str).cps.toList<("a":Str).cps.toList))=decide (97<=c):=by rw[show("a":Str)=⟨#[97]⟩from by decide +kernel];exact uE 97 c
     have e2:(!decide (("z":Str).cps.toList<(⟨#[c]⟩ : Str).cps.toList))=decide (c<=122):=by rw[show("z":Str)=⟨#[122]⟩from by decide +kernel];exact uE c 122
     refine sw2 (λh=>?_) λh=>?_
     .rw[<- e1,h,<- e2]at hN;exact hN
     .rw[<- e1,h]at hN;exact hN
    .have h2:((n.length:Nat):Int)<=8:=Decidable.byContradiction λz=>by rw[Zp z]at h2;cases h2
     rw[Zs (show n.length<=8 by lia),VS]at q;show R (.fz (.bl ((n.cps.toList.map λc=>decide (97<=c)&&decide (c<=122)).all λb=>b)));rw[show((n.cps.toList.map λc=>decide (97<=c)&&decide (c<=122)).all λb=>b)=n.cps.toList.all λc=>decide (97<=c)&&decide (c<=122)from List.all_map];exact q
   .rw[Zp (show ¬1<=n.length by lia)]at q;exact q
  .rw[ZZ l]at e;cases e
 |int _=>cases e;exact q
 |bl _=>cases e;exact q
 |non=>cases e;exact q
 |lst _=>cases e;exact q
 |tup _=>cases e;exact q
 |_=>cases e
theorem gD{α:Type}{l:List α}{h:α->T}{k:Nat}{a:α}(e:l[k]?=some a):ixT (l.map h) (k:Nat)=some (h a):=by
 show nth (l.map h) k=_;rw[rH,aq,e];rfl
theorem uJ(T:Tx D)(F:Fun K lZ mj j4 f fd):cH P w K mg base CX0 1 f fd fu (Ss D.NoRoom "room"):=by
 refine F.okB uT ?_ ?_
 .rintro _ _ _ _ ⟨a,v,rfl,_⟩;rfl
 .rintro af A outer s H _ Q E hr ⟨a,v,rfl,ha,q⟩;refine⟨_,(Jk (PSB.mk (kY (KJ T.ib_HallError T.xi_NoRoom (by rfl) T.sH (fL (pv 0) (fL Nt mR)))))
   (LK (PSB.mk (Qi (pv 0) (pv 1) rfl)))),?_⟩
  exact⟨_,rfl,a,[_],rfl,ha,by decide,_,rfl,_,rfl,a,D.NoRoom,rfl,ha,T.xs_NoRoom,T.mJ,q⟩
def Rk:L2.T->Option Bool
 |.tup [.int x,.int y]=>some (decide (1<=y)&&decide (Int.gcd x y=1))
 |.tup [.bl _,.int _]=>some false
 |.int _=>some false
 |.non=>some false
 |.str _=>some false
 |.lst _=>some false
 |_=>none
def qF:ST:=λts q=>∃t:L2.T,ts=[t]/\oT (Rk t) λb=>q (.fz (.bl b))
theorem yU(T:Tx D)(cW:gT 1 iI eZ jQ)(dB:gT 1 iu cT jz)(F:Fu fG kJ f fd):FT 2 f fd dG qF:=by
 refine F.okT sI λaf A outer s H E hr nd=>?_;refine⟨_,(bh (cQ (QW.qt (gJ (cM (cD (lq .tuple (qv 0) T.bL T.zf boot_tuple))) (gw (cj (sJ hr.units) (bT jZ T.jB WZ (aY (qv 0) bf)) aZ))))
  (bx (bV jT))
  bU)
  (bh (bI 1 (bH (qv 0) aZ))
  (bh (bI 2 (bH (qv 0) aZ))
  (bh (cQ (QW.qt (gJ (cM (cD (bB cW (aY (qv 1) bf)))) (gw (cM (cD (bB cW (aY (qv 2) bf)))))))
  (bx (bV jT))
  bU)
  (bx (bV (vm (iw K6 (qv 2) aZ) (uI (iw (go_eq hr.units) (bB dB (aY (qv 1) (aY (qv 2) bf))) aZ))))))))),?_⟩
 rintro _ R ⟨t,rfl,h⟩;obtain⟨b,e,q⟩:=wL h;unfold Rk at e;split at e<;>cases e
 .rename_i x y
  refine⟨_,_,rfl,rfl,_,_,rfl,rfl,swD (λh=>?_) λh=>?_⟩
  .rw[Zs h,VS]at q;refine⟨_,_,rfl,?_⟩;rw[<- show decide (((Int.gcd x y:Nat):Int)=1)=decide (Int.gcd x y=1)from decide_eq_decide.mpr ⟨λz=>by lia,λz=>by lia⟩]at q;exact q
  .rw[Zp h,Bool.false_and]at q;exact q
 .exact⟨_,_,rfl,rfl,q⟩
 all_goals exact q
inductive ShX:L2.T->Bool->Prop
 |q {r:Rat} : Bq r->ShX (frR r) (decide (0<=r)&&decide (r<1))
 |bad {x y:Int} : ¬(1<=y/\Int.gcd x y=1)->ShX (.tup [.int x,.int y]) false
 |bl (b:Bool) (y:Int):ShX (.tup [.bl b,.int y]) false
 |int (i:Int):ShX (.int i) false
 |non:ShX .non false
 |str (s:Str):ShX (.str s) false
 |lst (l:List L2.T):ShX (.lst l) false
def lM(D:Adr):SX:=λts R Z=>∃(t:L2.T)(b:Bool),ts=[t]/\ShX t b/\sw b (R (.fz .non)) (Z D.NoShare [] [])
theorem tu(T:Tx D)(cI:gT 2 fG dG qF)(gq:gT 1 m7 jj p7)(F:Fu gY iD f fd):cH P w K mg base (CXO P w) 3 f fd dN (spX K (lM D)):=by
 refine F.okTX mq λaf A outer s H E hr nd=>?_;refine⟨_,(bx (cQ (QW.qt (gJ (cM (cD (bB cI (aY (qv 0) bf)))) (gJ (cD (bB gq (aY (qv 0) (aY (qJ T.mV T.kj) bf)))) (gw (cM (cD (bB gq (aY (qv 0) (aY (qJ T.Hz T.zX) bf)))))))))
  (bx (rD rfl (by rfl) T.yu T.J1 fj))
  bU)),?_⟩
 rintro _ R Z ⟨t,b,rfl,h,q⟩;cases h with
 |@q r hb =>
  have e:Rk (frR r)=some true:=by
   show some (decide (1<=((r.den:Nat):Int))&&decide (Int.gcd r.num r.den=1))=_;rw[Zs (show 1<=((r.den:Nat):Int)by have:=r.den_pos;lia),show Int.gcd r.num r.den=1 from r.reduced];rfl
  refine⟨_,rfl,cB e ⟨r,0,rfl,hb,bq0,swD (λh=>?_) λh=>⟨r,1,rfl,hb,bq1,?_⟩⟩⟩
  .rw[Zp (show ¬0<=r from Rat.not_le.mpr h)]at q;exact q
  .rw[Zs (Rat.not_lt.mp h),VS]at q;refine sw2 (λh=>?_) λh=>?_
   .rw[(show decide (r<1)=false from by simpa using h)]at q;exact q
   .rw[(show decide (r<1)=true from by simpa using h)]at q;exact q
 |@bad x y h =>
  have e:Rk (.tup [.int x,.int y])=some false:=by
   show some (decide (1<=y)&&decide (Int.gcd x y=1))=_;rw[<- UV,Zp h]
  exact⟨_,rfl,cB e q⟩
 |bl b y=>exact⟨_,rfl,cB (b:=false) rfl q⟩
 |int i=>exact⟨_,rfl,cB (b:=false) rfl q⟩
 |non=>exact⟨_,rfl,cB (b:=false) rfl q⟩
 |str s=>exact⟨_,rfl,cB (b:=false) rfl q⟩
 |lst l=>exact⟨_,rfl,cB (b:=false) rfl q⟩
abbrev rmA(p:L2.T×List L2.T):L2.T:=.tup [p.1,.lst p.2]
def gR:Θ->List L2.T->Option (Θ)
 |ns,[]=>some ns
 |ns,.str n::ts=>if d8 n.cps.toList=true/\n∉ns then gR (ns++[n]) ts else none
 |_,_::_=>none
theorem m9:∀(as bs:List L2.T)(ns:Θ),gR ns (as++bs)=(gR ns as).bind λms=>gR ms bs
 |[],_,_=>rfl
 |a::as,bs,ns=>by
  cases a with
  |str n =>
   show(if _ then gR (ns++[n]) (as++bs)else none)=(if _ then gR (ns++[n]) as else none).bind _;split
   .exact m9 as bs _
   .rfl
  |_=>rfl
theorem qp:∀{as:List L2.T}{ns ms:Θ},ns.Nodup->gR ns as=some ms->ms.Nodup/\ms.length=ns.length+as.length
 |[],_,_,nd,e=>by cases e;exact⟨nd,rfl⟩
 |a::as,ns,ms,nd,e=>by
  cases a with
  |str n =>
   have e:(if d8 n.cps.toList=true/\n∉ns then gR (ns++[n]) as else none)=some ms:=e;split at e
   .rename_i h
    obtain⟨h1,h2⟩:=qp (List.nodup_append.mpr ⟨nd,by simp,λa ha b hb z=>h.2 (by rw[YR.mp hb]at z;exact z ▸ ha)⟩) e;exact⟨h1,by rw[h2,au];simp only[List.length_cons,List.length_nil];lia⟩
   .cases e
  |_=>cases e
def mz(D:Adr):SX:=λts R Z=>∃eQ:List (L2.T×List L2.T),ts=[.lst (eQ.map rmA)]/\eQ.length<=1000/\(∀p∈eQ,(wdT p.1).isSome)/\match gR [] (eQ.map (·.1))with
 |some ns=>R (.d1 (nmK ns) (nmT ns))
 |none=>Z D.NoName [] []
theorem vR(T:Tx D)(eE:gT 1 g8 eX sW)(F:Fu j5 lC f fd):cH P w K mg base (CXO P w) 2 f fd fW (spX K (mz D)):=by
 refine F.okTX yc λaf A outer s H E hr nd=>?_;refine⟨_,(bh (gH 1 Am)
  (bh (fP (c7 (qv 0)) (bQ (n:=99) 2)
  (bh (bI 3 (bH (qv 2) aZ))
  (bh (cQ (QW.qt (gJ (cM (cD (bB eE (aY (qv 3) bf)))) (gw (uV 1 (NZ (oE hr) (qv 3) (qv 1))))))
  (bx (rD rfl (by rfl) T.uN T.CP fj))
  bU)
  (bx (yX 1 (oE hr) (Sx 1 (bT Pk T.jB WZ (aY (qv 1) bf))) (qv 3))))))
  (bx (qK 1)))),?_⟩
 rintro _ R Z ⟨eQ,rfl,rl,hw,q⟩;refine d_ rmA eQ (λas o=>∃ns x y,gR [] (as.map (·.1))=some ns/\o=[.fz (.lst (eQ.map rmA)),.d1 (nmK ns) (nmT ns),x,y]) ⟨[],_,_,rfl,rfl⟩ ?_ ?_
 .rintro as a bs _ e ⟨ns,x,y,en,rfl⟩;have ea:gR [] (eQ.map (·.1))=gR ns (a.1::bs.map (·.1)):=by rw[e,aW,m9,en];rfl
  have nl:=(qp .nil en).2;have al:as.length<=eQ.length:=by rw[e];simp
  obtain⟨b,eb⟩:=Option.isSome_iff_exists.mp (hw a (e ▸ by simp));refine⟨_,rfl,cB eb ?_⟩;obtain⟨t,ds⟩:=a;cases b with
  |false =>
   have:gR ns (t::bs.map (·.1))=none:=by
    cases t with
    |str n =>
     have eb:(if n.length<=1000 then some (d8 n.cps.toList)else none)=some false:=eb;show(if d8 n.cps.toList=true/\n∉ns then _ else none)=none;split at eb
     .cases h:d8 n.cps.toList with
      |true=>rw[h]at eb;cases eb
      |false=>exact ZZ λz=>nomatch z.1
     .cases eb
    |_=>rfl
   rw[ea,this]at q;exact q
  |true =>
   cases t with
   |str n =>
    have eb:(if n.length<=1000 then some (d8 n.cps.toList)else none)=some true:=eb;have hb:d8 n.cps.toList=true:=by
     split at eb
     .exact Option.some.inj eb
     .cases eb
    by_cases hn:n∈ns
    .have:gR ns (L2.T.str n::bs.map (·.1))=none:=ZZ λz=>z.2 hn;rw[ea,this]at q;obtain⟨i,hi⟩:=aP hn;refine⟨_,rfl,?_⟩;rw[ux (qp .nil en).1 hi (show(nmT ns)[i]?=some (.int (i:Nat))by rw[aq,W1 (ao.mp hi).1];rfl)];exact q
    .refine⟨_,rfl,?_⟩;rw[Aq n _ _ hn];refine⟨trivial,_,rfl,by rw[ak,nl,ak];exact Y3 (show _<=1000 by simp;exact aJ al rl) (by decide),ns++[n],.fz (rmA (.str n,ds)),.fz (.str n),?_,?_⟩
     .rw[aW,m9,en];exact ZY ⟨hb,hn⟩
     .obtain⟨k1,k2⟩:=U0 ns n hn;rw[<- k1,<- k2];simp only[ak]
      rfl
   |_=>cases eb
 .rintro _ ⟨ns,x,y,en,rfl⟩;rw[en]at q;exact q
def oX(ns:Θ)(ws:List (Str×Rat)):Option Str:=(ws.find? λp=>decide (p.1∉ns)).map (·.1)
def jU(D:Adr):SX:=λts R Z=>∃(ns:Θ)(n:Str)(p:Rat)(ws:List (Str×Rat)),ts=[drT D.Mixed n p ws,.dct (nmK ns) (nmT ns)]/\ns.Nodup/\ws.length<=1000/\match oX ns ws with
 |none=>∀us,R (.l1 us)
 |some m=>Z D.NoRoom ["room"] [.str m]
theorem CW(ns:Θ)(as bs:List (Str×Rat))(h:oX ns as=none):oX ns (as++bs)=oX ns bs:=by
 unfold oX at *;rw[List.find?_append,Option.map_eq_none_iff.mp h];rfl
theorem qd(T:Tx D)(nF:gI 1 D.Door_ways gU (qI D))(j9:OkI P w K mg base CX0 1 D.NoRoom_init fu (Ss D.NoRoom "room"))(F:Fu ig iT f fd):cH P w K mg base (CXO P w) 3 f fd dJ (spX K (jU D)):=by
 refine F.okTX qY λaf A outer s H E hr nd=>?_;refine⟨_,(bh (gH 2 (cZ bf))
  (bh (fP (c7 (QE.any λC(hC:dW D C)=>Dj (qv 0) (T.cl C hC.fam) (T.Ag C hC) nF (KS:=ud))) (gP (n:=2) (bN (bQ (n:=99) 3) (bN (bQ (n:=99) 4) dU)))
  (bh (cQ (Je (oE hr) (qv 3) (qv 1))
  (bx (N8 rfl T.CT T.xi_NoRoom j9 (qv 3)))
  bU)
  (bx (j7 2 (cJ (aY (zN (oE hr) (qv 1) (qv 3)) (aY (qv 4) bf)))))))
  (bx (qK 2)))),?_⟩
 rintro _ R Z ⟨ns,n,p,ws,rfl,nd,wl,q⟩;have hC:dW D D.Mixed:=by simp[dW]
 refine⟨D.Mixed,hC,⟨rfl,rfl⟩,_,_,_,_,rfl,hC.fam,?_⟩;refine d_ wyT ws (λas o=>oX ns as=none/\∃us x y,us.length=as.length/\o=[.fz (drT D.Mixed n p ws),.fz (.dct (nmK ns) (nmT ns)),.l1 us,x,y]) ⟨rfl,[],_,_,rfl,rfl⟩ ?_ ?_
 .rintro as a bs _ e ⟨hb,us,x,y,ul,rfl⟩;have al:as.length<ws.length:=by rw[e];simp
  refine⟨rfl,_,rfl,?_⟩;by_cases hn:a.1∈ns
  .obtain⟨i,hi⟩:=aP hn;have ev:jr (nmK ns) (nmT ns) (.inr a.1)=some (.int (i:Nat)):=ux nd hi (by rw[aq,W1 (ao.mp hi).1];rfl);rw[ev];refine⟨_,_,rfl,ev,by rw[ul];exact Y3 (show _<=1000 by exact aJ (Y2 al) wl) (by decide),?_,_,.fz (.str a.1),.fz (frR a.2),?_,rfl⟩
   .rw[CW ns as [a] hb];unfold oX;rw[List.find?_cons_of_neg (by simpa using hn)];rfl
   .rw[au,au,ul];rfl
  .rw[Aq a.1 _ _ hn];rw[e,CW ns as (a::bs) hb]at q;unfold oX at q;rw[UH (by simpa using hn)]at q;exact q
 .rintro _ ⟨hb,us,x,y,ul,rfl⟩;rw[hb]at q;exact q us
structure Dr where
 name:Str
 pay:Rat
 ways:List (Str×Rat)
abbrev dxT(D:Adr)(d:Dr):L2.T:=drT D.Mixed d.name d.pay d.ways
def jH(ns:Θ):Θ->List Dr->Option (Option Str)
 |_,[]=>none
 |seen,d::ds=>if d.name∈seen then some none else match oX ns d.ways with
  |some m=>some (some m)
  |none=>jH ns (seen++[d.name]) ds
def zB(D:Adr)(Z:XC):Option Str->Prop
 |none=>Z D.NoName [] []
 |some m=>Z D.NoRoom ["room"] [.str m]
structure DrK(ds:List Dr):Prop where
 few:ds.length<=1000
 ways:∀d∈ds,d.ways.length<=1000
def ou(D:Adr):SX:=λts R Z=>∃(ns:Θ)(ds:List Dr),ts=[.lst (ds.map (dxT D)),.dct (nmK ns) (nmT ns)]/\ns.Nodup/\DrK ds/\match jH ns [] ds with
 |none=>∀us,R (.l1 us)
 |some b=>zB D Z b
theorem M9(ns:Θ)(n:Str)(h:n∉ns):kpK (nmK ns) (.inr n)=nmK (ns++[n])/\kpT (nmK ns) (ns.map λ_=>L2.T.bl true) (.inr n) (.bl true)=(ns++[n]).map λ_=>L2.T.bl true:=by
 unfold kpK kpT;rw[Lp ns n h];refine⟨by rw[ZZ (by decide)];simp[nmK],?_⟩;rw[ZZ (by decide)];simp
theorem xW(T:Tx D)(iy:Br P w K mg base 3 ig dJ (jU D))(F:Fu lA mW f fd):cH P w K mg base (CXO P w) 4 f fd gQ (spX K (ou D)):=by
 refine F.okTX zE λaf A outer s H E hr nd=>?_;refine⟨_,(bh (gH 2 Am)
  (bh (gH 3 (cZ bf))
  (bh (fP (c7 (qv 0)) (bQ (n:=99) 4)
  (bh (cQ (uV 2 (NZ (oE hr) (rR (Fm:=Fam D) (λC h=>⟨T.cl C h,T.uf C h⟩) (qv 4)) (qv 2)))
  (bx (rD rfl (by rfl) T.uN T.CP fj))
  bU)
  (bh (yX 2 (oE hr) jT (rR (Fm:=Fam D) (λC h=>⟨T.cl C h,T.uf C h⟩) (qv 4)))
  (bx (Qu 3 (QL (vN (MF (rR (Fm:=Fam D) (λC h=>⟨T.cl C h,T.uf C h⟩) (qv 4))) (vN (MF (rR (Fm:=Fam D) (λC h=>⟨T.cl C h,T.Kp C h⟩) (qv 4))) (vN (DP iy hr.md (by rfl) (aY (qv 4) (aY (qv 1) bf))) Qp)))))))))
  (bx (qK 3))))),?_⟩
 rintro _ R Z ⟨ns,ds,rfl,nd,hd,q⟩;have hM:Fam D D.Mixed:=yO D;refine d_ (dxT D) ds (λas o=>∃us x,o=[.fz (.lst (ds.map (dxT D))),.fz (.dct (nmK ns) (nmT ns)),.d1 (nmK (as.map (·.name))) ((as.map (·.name)).map λ_=>.bl true),.l1 us,x]/\us.length=as.length/\(as.map (·.name)).Nodup/\∀bs,jH ns [] (as++bs)=jH ns (as.map (·.name)) bs) ⟨[],_,rfl,rfl,.nil,λ_=>rfl⟩ ?_ ?_
 .rintro as a bs _ e ⟨us,x,rfl,ul,na,ho⟩;have al:as.length<ds.length:=by rw[e];simp
  have few:=hd.few;have ma:a∈ds:=e ▸ by simp
  rw[e,ho (a::bs)]at q;refine⟨hM,_,rfl,_,rfl,?_⟩;by_cases hn:a.name∈as.map (·.name)
  .rw[show jH ns (as.map (·.name)) (a::bs)=some none from ZY hn]at q;obtain⟨i,hi⟩:=aP hn;rw[ux na hi (by rw[aq,hi];rfl)];exact q
  .rw[show jH ns (as.map (·.name)) (a::bs)=(match oX ns a.ways with|some m=>some (some m)|none=>jH ns (as.map (·.name)++[a.name]) bs)from ZZ hn]at q;rw[Aq _ _ _ hn];refine⟨hM,_,rfl,_,rfl,by rw[ak,ak];exact Y3 (show _<=1000 by exact aJ (Y2 al) few) (by decide),hM,_,rfl,hM,_,rfl,ns,a.name,a.pay,a.ways,rfl,nd,hd.ways a ma,?_⟩;cases hb:oX ns a.ways with
   |some m=>rw[hb]at q;exact q
   |none =>
    rw[hb]at q;intro vs;refine⟨by rw[ul];exact Y3 (show _<=1000 by exact aJ (Y2 al) few) (by decide),us++[.tup [.str a.name,frR a.pay,.lst vs]],.fz (dxT D a),?_,by rw[au,au,ul];rfl,?_,λcs=>?_⟩
    .obtain⟨k1,k2⟩:=M9 (as.map (·.name)) a.name hn;rw[show(as++[a]).map (·.name)=as.map (·.name)++[a.name]from aW,<- k1,<- k2]
     rfl
    .rw[aW];exact List.nodup_append.mpr ⟨na,by simp,λb fc c hc z=>hn (by rw[show c=a.name from YR.mp hc]at z;exact z ▸ fc)⟩
    .rw[XG,ho,aW];show(if _ then _ else _)=_;rw[ZZ hn,hb];rfl
 .rintro _ ⟨us,x,rfl,ul,na,ho⟩;have:=ho [];rw[List.append_nil]at this;rw[this]at q;exact q us
def o7(ns:Θ):List (List Dr)->Option (Option Str)
 |[]=>none
 |ds::mn=>match jH ns [] ds with
  |some b=>some b
  |none=>o7 ns mn
abbrev RmX:=List (L2.T×List Dr)
abbrev rxT(D:Adr)(p:L2.T×List Dr):L2.T:=rmA (p.1,p.2.map (dxT D))
structure RmK(rs:RmX):Prop where
 few:rs.length<=1000
 wd:∀p∈rs,(wdT p.1).isSome
 drs:∀p∈rs,DrK p.2
def Ir(D:Adr)(b:Bool)(ts:List L2.T)(mn:List (List Dr))(R:Θ->Prop)(Z:XC):Prop:=sw b (match gR [] ts with
 |none=>Z D.NoName [] []
 |some ns=>match o7 ns mn with
  |some b=>zB D Z b
  |none=>R ns) (Z D.NoShare [] [])
def Cq(D:Adr):SIX:=λC ks ts as R Z=>∃(t:L2.T)(b:Bool)(rs:RmX),C=D.Hall/\ks=[]/\ts=[]/\as=[t,.lst (rs.map (rxT D))]/\ShX t b/\RmK rs/\Ir D b (rs.map (·.1)) (rs.map (·.2)) (λns=>∀u,R nY [t,.dct (nmK ns) (nmT ns),u]) Z
theorem wQ{g:L2.qB}{re:RE}{o:List OT}{ns:Θ}{D:Adr}{Z:XC} : ∀(rs:RmX)(q:List L2.T->Prop),(∀p∈rs,∀(N:L2.T->Prop)(M:Prop),(match jH ns [] p.2 with|none=>∀us,N (.lst us)|some b=>zB D Z b)->g (rxT D p) o λo'=>Nj o' λb=>sw b (re o' λy=>N (frz y)) M)->(match o7 ns (rs.map (·.2))with|some b=>zB D Z b|none=>∀us,q us)->jD g Nj re o (rs.map (rxT D)) q
 |[],q,_,h=>h []
 |p::rs,q,st,h=>by
  have hp:=st p (aL ..);have h:(match(match jH ns [] p.2 with|some b=>some b|none=>o7 ns (rs.map (·.2)))with|some b=>zB D Z b|none=>∀us,q us):=h;cases e:jH ns [] p.2 with
  |some b =>
   rw[e]at h hp;exact⟨λ_=>False,False,λ_ z=>z.elim,False.elim,hp (λ_=>False) False h⟩
  |none =>
   rw[e]at h hp;refine⟨λ_=>True,False,λy _=>wQ rs _ (λp hp=>st p (aG _ hp)) ?_,False.elim,hp (λ_=>True) False λ_=>trivial⟩
   revert h
   cases o7 ns (rs.map (·.2))with
   |some b=>exact id
   |none=>exact λh us=>h (y::us)
theorem xV(T:Tx D)(jq:Br P w K mg base 3 gY dN (lM D))(jY:Br P w K mg base 2 j5 fW (mz D))(lB:Br P w K mg base 4 lA gQ (ou D))(F:Fun K p8 qG jP f fd):cH P w K mg base (CXO P w) 5 f fd gW (Q9 K (Cq D)):=by
 refine F.okIX zZ (λC ks ts as R Z hP=>by obtain⟨_,_,_,_,_,_,e,_⟩:=hP;exact e ▸ rfl) (by decide) λaf A outer s H E hr=>?_;refine⟨_,(bh (Lx jq (aY (qv 1) bf))
  (bh (qL (Fm:=Fam D) 0 (λC h=>⟨T.cl C h,T.Ob C h⟩) (qv 1))
  (bh (Mp (Fm:=Fam D) 0 (λC h=>⟨T.cl C h,T.o8 C h⟩) (DP jY hr.md (by rfl) (aY (qv 2) bf)))
  (bx (O8 (Fm:=Fam D) 0 (λC h=>⟨T.cl C h,T.Fq C h⟩) (bw jP) mF mF ["room"] rfl rfl (c7 (qv 2)) (W3 (i:=0)) (λz=>HD lB hr.md (by rfl) (aY (bH (qv 0) aZ) (aY (Rh (Fm:=Fam D) 1 (λC h=>⟨T.cl C h,T.o8 C h⟩)) bf)) z)))))),?_⟩
 rintro a dx C _ _ _ R Z ⟨t,b,rs,rfl,rfl,rfl,rfl,hs,hk,q⟩;have hf:=Ef D;refine⟨t,b,rfl,hs,?_⟩;unfold Ir at q;cases b with
 |false=>exact q
 |true =>
  have q:(match gR [] (rs.map (·.1))with|none=>Z D.NoName [] []|some ns=>match o7 ns (rs.map (·.2))with|some b=>zB D Z b|none=>∀u,R nY [t,.dct (nmK ns) (nmT ns),u]):=q;refine⟨⟨hf,by decide⟩,rs.map λp=>(p.1,p.2.map (dxT D)),by rw[X0];rfl,by rw[ak];exact hk.few,λp hp=>?_,?_⟩
  .obtain⟨x,hx,rfl⟩:=YV.mp hp;exact hk.wd x hx
  .rw[show(rs.map λp=>(p.1,p.2.map (dxT D))).map (·.1)=rs.map (·.1)from X0];cases en:gR [] (rs.map (·.1))with
   |none=>rw[en]at q;exact q
   |some ns =>
    rw[en]at q
    replace q:(match o7 ns (rs.map (·.2))with|some b=>zB D Z b|none=>∀u,R nY [t,.dct (nmK ns) (nmT ns),u]):=q
    have nd:=(qp .nil en).1;refine⟨⟨hf,by decide⟩,by rw[ak];exact aJ hk.few (by decide),wQ (ns:=ns) (D:=D) (Z:=Z) rs _ (λp hp N M hN=>?_) ?_⟩
    .refine⟨hf,_,rfl,ns,p.2,rfl,nd,hk.drs p hp,?_⟩
     revert hN
     cases jH ns [] p.2 with
     |none=>exact λh us=>h us
     |some b=>exact id
    .revert q
     cases o7 ns (rs.map (·.2))with
     |some b=>exact id
     |none=>exact λq us=>⟨⟨hf,by decide⟩,_,_,rfl,q _⟩
def mK(D:Adr):ST:=λts q=>∃(t u:L2.T)(ns:Θ),ts=[.ins D.Hall nY [t,.dct (nmK ns) (nmT ns),u]]/\q (.l1 (ns.map L2.T.str))
theorem vh(T:Tx D)(F:Fun K oA oK lH f fd):FT 1 f fd fZ (mK D):=by
 refine F.okT xG λaf A outer s H E hr nd=>?_;refine⟨_,(bx (bV (nR (KC rfl) T.GP boot_list (aY (rR (Fm:=Fam D) (λC h=>⟨T.cl C h,T.o8 C h⟩) (qv 0)) bf)))),?_⟩;rintro _ R ⟨t,u,ns,rfl,q⟩;refine⟨Ef D,_,rfl,?_⟩;show R (.l1 ((nmK ns).map kyT));rw[show(nmK ns).map kyT=ns.map L2.T.str by rw[X0];rfl];exact q
theorem cC{i:Int}(h:i.natAbs<18446744073709551616):Bd i:=aO h (aJ (by decide:18446744073709551616<=2^64) (Nat.pow_le_pow_right (by decide) (by decide)))
abbrev scT(ns:List Int):T:=.scr (ns.map T.int)
def z8:ST:=λts q=>∃(ns:List Int)(k:Nat),ts=[scT ns,.int (k:Nat)]/\ns.length<=100/\q (.fz (.int (ns.getD k 0)))
theorem eG{α β:Type}(h:α->β)(l:List α)(lo hi:Option Int):eU (l.map h) lo hi=(eU l lo hi).map h:=by unfold eU;rw[ak,List.map_take,List.map_drop]
theorem Px{α:Type}(l:List α)(k:Nat):eU l (some (k:Int)) (some ((k:Int)+1))=(l.drop k).take 1:=by
 unfold eU HT.sIx;show List.take ((if(k:Int)+1<0 then _ else min ((k:Int)+1).toNat l.length)-(if(k:Int)<0 then _ else min (k:Int).toNat l.length)) (List.drop (if(k:Int)<0 then _ else min (k:Int).toNat l.length) l)=_;rw[ZZ (by lia),ZZ (Int.not_lt_of_ge (XT _))];by_cases h:k<l.length
 .rw[show min ((k:Int)+1).toNat l.length=k+1 by lia,show min (k:Int).toNat l.length=k by lia,show k+1-k=1 by exact VU _ _]
 .rw[show min (k:Int).toNat l.length=l.length by lia,List.drop_length,UP (WH h),List.take_nil,List.take_nil]
theorem OJ(F:Fu ur Gr f fd):FT 1 f fd nZ z8:=by
 refine F.okT Pr λaf A outer s H E hr nd=>?_;refine⟨_,(bx (bV (bH (bA bM (cG (qv 0) (cN (qv 1)) (cN (bA bM (qv 1) aZ))) (cZ (aY aZ bf))) aZ))),?_⟩;rintro _ R ⟨ns,k,rfl,hl,q⟩;have e:eU (ns.map L2.T.int) (some (k:Int)) (some ((k:Int)+1))=((ns.drop k).take 1).map L2.T.int:=by rw[eG,Px]
 refine⟨?_,.int (ns.getD k 0),?_,q⟩
 .show(eU (ns.map L2.T.int) (some (k:Int)) (some ((k:Int)+1))).length+1<=sizeLine;rw[e,ak,aU];exact aJ (show _<=2 by lia) (by decide)
 .show ixT (eU (ns.map L2.T.int) (some (k:Int)) (some ((k:Int)+1))++[L2.T.int 0]) 0=_;rw[e];by_cases h:k<ns.length
  .rw[UR h,List.take_succ_cons,U1,aj h]
   rfl
  .rw[UP (WH h),U1,UZ (WH h)]
   rfl
def strN(c:Int):Nat->Int×Int
 |0=>((c%1999999973+31)*765432101%1999999973,if c<0\/10^18<=c then(c.natAbs:Int)else 0)
 |k+1=>(((strN c k).1*((strN c k).1%65521+40487)+7*(k:Int)+5)%1999999973,(strN c k).2.fdiv 1000000)
def strm(c:Int)(k:Nat):Int:=if 0<(strN c k).2 then(strN c k).2%1000000 else(strN c (k+1)).1
theorem Hr(c:Int):∀k,0<=(strN c k).1/\(strN c k).1<1999999973
 |0=>⟨Z3 _ (by decide),YY _ (by decide)⟩
 |_+1=>⟨Z3 _ (by decide),YY _ (by decide)⟩
theorem Ig(c:Int)(k:Nat):0<=strm c k/\strm c k<2000000000:=by
 unfold strm;have:=Hr c (k+1);split<;>lia
abbrev oO(c:Int)(n:Nat):List Int:=(List.range n).map (strm c)
def qX:ST:=λts q=>∃(c:Int)(n:Nat),ts=[.int c,.int (n:Nat)]/\n<=1000/\q (.l1 ((oO c n).map T.int))
theorem JF(T:Tx D)(F:Fu nM wO f fd):FT 1 f fd jg qX:=by
 refine F.okT I8 λaf A outer s H E hr nd=>?_;refine⟨_,(bh (gH 2 (cZ bf))
  (bh (bI 3 (bA b_ (bA gA (bA bM (bA b_ (qv 0) aZ) aZ) aZ) aZ))
  (bh (bI 4 aZ)
  (bh (cQ (QW.qt (gJ (cj BK (qv 0) aZ) (gw (cj K6 (qv 0) (bA R7 aZ aZ)))))
  (bx (bI 4 (bT vH T.DQ boot_abs (aY (qv 0) bf))))
  bU)
  (bh (fP (h_ T.jM (aY (qv 1) bf)) (bQ (n:=99) 5)
  (bh (bI 3 (bA b_ (bA bM (bA bM (bA gA (qv 3) (bA bM (bA b_ (qv 3) aZ) aZ)) (bA gA aZ (qv 5))) aZ) aZ))
  (bh (j7 2 (bH (cZ (aY (qv 3) (aY (bA b_ (qv 4) aZ) bf))) (nR Tr T.RV boot_int (aY (iw Dw (qv 4) aZ) bf))))
  (bx (bI 4 (bA dY (qv 4) aZ))))))
  (bx (qK 2))))))),?_⟩
 rintro _ R ⟨c,n,rfl,hn,q⟩;refine sq4 (λo=>o=[.fz (.int c),.fz (.int (n:Nat)),.l1 [],.fz (.int (strN c 0).1),.fz (.int (strN c 0).2),.und]) ?_ λY go=>?_
 .rintro _ rfl;refine⟨⟨by lia,by lia⟩,?_⟩;refine pK (λk o=>∃x,o=[.fz (.int c),.fz (.int (n:Nat)),.l1 ((oO c k).map L2.T.int),.fz (.int (strN c k).1),.fz (.int (strN c k).2),x]) ⟨_,rfl⟩ ?_ ?_
  .rintro k _ hk ⟨x,rfl⟩;have b:=Hr c k;refine⟨by decide,⟨cC (by lia),cC (by lia)⟩,⟨cC (by decide),cC (by lia)⟩,by decide,by decide,.int (strm c k),?_,?_,⟨by decide,cC (by decide)⟩,.fz (.int k),?_⟩
   .by_cases h:0<(strN c k).2
    .rw[Zs h];unfold strm;rw[ZY h]
     rfl
    .rw[Zp h];unfold strm;rw[ZZ h]
     rfl
   .rw[ak,ak,X2];exact aO (show k<1001 by lia) (by decide)
   .rw[show oO c (k+1)=oO c k++[strm c k]by simp[oO,List.range_succ],aW]
    rfl
  .rintro _ ⟨x,rfl⟩;exact q
 .refine⟨by decide,⟨cC (by lia),cC (by decide)⟩,by decide,?_⟩;refine swD (λh=>go _ ?_) λh=>⟨⟨by decide,by decide,by decide⟩,swD (λh'=>go _ ?_) λh'=>go _ ?_⟩
  .show _=[_,_,_,_,OT.fz (L2.T.int (if c<0\/10^18<=c then(c.natAbs:Int)else 0)),_];rw[ZY (.inl h)]
   rfl
  .show _=[_,_,_,_,OT.fz (L2.T.int (if c<0\/10^18<=c then(c.natAbs:Int)else 0)),_];rw[ZY (.inr h')]
   rfl
  .show _=[_,_,_,_,OT.fz (L2.T.int (if c<0\/10^18<=c then(c.natAbs:Int)else 0)),_];rw[ZZ (λz=>z.elim h h')]
   rfl
def Gu:ST:=λts q=>∃a b:Int,ts=[.int a,.int b]/\q (.fz (.int (Int.gcd a b)))
theorem Ve(T:Tx D)(F:Fu Bh Mu f fd):FT 1 f fd q_ Gu:=by
 refine F.okT Kg λaf A outer s H E hr nd=>?_;refine⟨_,(bh (A_ (bT JD T.Nv boot_sorted (aY (cZ (aY (bT vH T.DQ boot_abs (aY (qv 0) bf)) (aY (bT vH T.DQ boot_abs (aY (qv 1) bf)) bf))) bf)) (T5 (n:=2) rfl (bN (bQ (n:=99) 2) (bN (bQ (n:=99) 3) dU))))
  (bh (BX (cj Dw (qv 2) aZ)
  (bx (Tt 2 3 rfl Kg.nd (by decide) (aY (bA b_ (qv 3) (qv 2)) (aY (qv 2) bf)))))
  (bx (bV (qv 3))))),?_⟩
 rintro _ R ⟨a,b,rfl,q⟩;refine⟨[(a.natAbs:Int),(b.natAbs:Int)],rfl,by simp,λms pm so=>?_⟩;obtain⟨l,h,rfl,hg⟩ : ∃l h:Nat,ms=[(l:Int),(h:Int)]/\Nat.gcd l h=Int.gcd a b:=by
  have ln:=pm.length_eq
  match ms,ln with
  |[x,y],_ =>
   have hx:x=(a.natAbs:Int)\/x=(b.natAbs:Int):=by simpa using pm.subset (aL ..)
   rcases hx with rfl|rfl
   .have:=(List.perm_cons _).mp pm;have:=List.perm_singleton.mp this;cases this;exact⟨_,_,rfl,rfl⟩
   .have:=(List.perm_cons _).mp (pm.trans (List.Perm.swap _ _ _));have:=List.perm_singleton.mp this;cases this;exact⟨_,_,rfl,Nat.gcd_comm _ _⟩
 refine⟨rfl,λm o=>∃(l h:Nat),o=[.fz (.int a),.fz (.int b),.fz (.int l),.fz (.int h)]/\Nat.gcd l h=Int.gcd a b/\m=l,⟨_,_,_,rfl,hg,rfl⟩,?_⟩;rintro m _ ⟨l,h,rfl,hg,rfl⟩;refine swD (λhl=>?_) λhl=>?_
 .refine⟨λo=>o=[.fz (.int a),.fz (.int b),.fz (.int ((h%m:Nat):Int)),.fz (.int m)],?_,?_⟩
  .rintro _ rfl;exact⟨h%m,Nat.mod_lt _ (by lia),h%m,m,rfl,(Nat.gcd_rec m h).symm.trans hg,rfl⟩
  .exact⟨hl,by rw[Int.natCast_emod];rfl⟩
 .have:m=0:=by lia
  subst this;rw[Nat.gcd_zero_left]at hg;rw[<- hg]at q;exact q
def qZ:ST:=λts q=>∃a b:Int,ts=[.int a,.int b]/\0<b/\Bd b/\q (.fz (frR (Rat.divInt a b)))
def JH(c:Nat):Bool:=decide (97<=c)&&decide (c<=122)
def ltL:List Nat:=(Str.ofString "abcdefghijklmnopqrstuvwxyz").cps.toList
theorem SQ:∀i:Fin 26,nth ltL i.val=some (97+i.val):=by decide +kernel
theorem MN{i:Int}(h0:0<=i)(h1:i<26):ixT ltL i=some (97+i.toNat):=by
 obtain⟨k,rfl⟩:=Int.eq_ofNat_of_zero_le h0;exact SQ ⟨k,by lia⟩
theorem GK{n:Nat}(h:n<26):JH (97+n)=true:=by
 unfold JH;rw[Zs (show 97<=97+n by exact XV _ _),Zs (show 97+n<=122 by lia)];rfl
theorem jJ(x:Str):x.cps.toList.length=x.length:=Array.length_toList
theorem Ad(x y:Str):(x++y).cps.toList=x.cps.toList++y.cps.toList:=by
 show(x.cps++y.cps).toList=_;rw[Array.toList_append]
theorem O7(x y:Str):(x++y).length=x.length+y.length:=by
 show(x.cps++y.cps).size=_;rw[Array.size_append];rfl
theorem uW{x:Str}{n:Nat} : (fQ x none (some (n:Int))).cps.toList=x.cps.toList.take n:=by
 unfold fQ;have hl:x.cps.toList.length=x.length:=Array.length_toList;show((x.cps.toList.drop 0).take (HT.sIx x.length x.length (some (n:Int))-0))=_;rw[HT.nH,List.drop_zero,Nat.sub_zero,<- hl];rw[List.take_eq_take_iff];lia
theorem Ks{x:Str}(h:x.cps.toList.all JH=true)(lo:1<=x.length)(hi:x.length<=8):Wd x:=by
 unfold Wd d8;rw[jJ,Zs lo,Zs hi];exact h
structure Nms(ns:Θ)(n:Nat):Prop where
 len:ns.length=n
 nd:ns.Nodup
 wd:∀x∈ns,Wd x
theorem Rm{R:Nat->Str->Prop}{n:Nat}{ns:Θ}(h:∀(i:Nat)x,ns[i]?=some x->R i x)(l:ns.length=n)(u:∀i j x,i<j->j<n->R i x->R j x->False):ns.Nodup:=by
 unfold List.Nodup;rw[List.pairwise_iff_getElem];intro i j hi hj ij e;exact u i j ns[i] ij (l ▸ hj) (h i _ (aj hi)) (by rw[e];exact h j _ (aj hj))
theorem yx:∀(ys:Θ)(acc:Array Nat),(ys.foldl (λacc p=>acc++(Str.ofString "").cps++p.cps) acc).toList=acc.toList++(ys.map λy=>y.cps.toList).flatten
 |[],acc=>by simp
 |y::ys,acc=>by
  have e0:(Str.ofString "").cps = #[]:=by decide +kernel
  rw[List.foldl_cons,yx ys,e0,Array.append_empty,Array.toList_append,List.map_cons,List.flatten_cons,XG]
theorem glue(ys:Θ):(Txt.join (Str.ofString "") ys).cps.toList=(ys.map λy=>y.cps.toList).flatten:=by
 show((ys.drop 1).foldl (λacc p=>acc++(Str.ofString "").cps++p.cps) (ys.headD Str.empty).cps).toList=_;rw[yx];cases ys with
 |nil=>rfl
 |cons y ys=>rfl
structure QSB(X:Cx)(st:Stmt)(r:RS):Prop where
 out:QS X st r
structure Dm(X:Cx)(ss:List Stmt)(r:RS):Prop where
 out:QSs X ss r
theorem dH{X:Cx}{st:Stmt}{r:RS}(h:QS X st r):QSB X st r:=⟨h⟩
theorem ji{X:Cx}{st:Stmt}{a:RS}(h:QSB X st a):Dm X [st] a:=⟨bx h.out⟩
theorem bY{X:Cx}{st:Stmt}{hV:List Stmt}{a b:RS}(h1:QSB X st a)(h2:Dm X hV b):Dm X (st::hV) (ju a b):=⟨bh h1.out h2.out⟩
theorem zF{X:Cx}{e:Expr}{re:RE}{pos:Pos}(i:Nat){x:Str}{ay:Pos}(hN:X.N.Nodup)(hx:Loc X.env.scope x)(he:QEB X e re)(hi:X.N[i]?=some x:=by rfl)(hs:swapsWith e (some (.Name x ay)) pos.line X.env=pure false:=by rfl)(hf:qr X x:=by first|exact .inl rfl|exact .inr rfl|assumption):QSB X (.Assign [.Name x ay] e pos) (Tj i re):=⟨bI (i:=i) (hN:=hN) (hx:=hx) (he:=he.out) (hi:=hi) (hs:=hs) (hf:=hf)⟩
theorem U5{X:Cx}{a b:Expr}{ra rb:RE}{pos:Pos}(ha:QEB X a ra)(hb:QEB X b rb)(hs:um b:=by exact λ_ _=>rfl):QEB X (.Subscript a b pos) (rOp gIx ra rb):=⟨bH ha.out hb.out hs⟩
theorem Fx{x:Str}{a b:Nat}(ab:a<=b)(h:b<=x.length):(fQ x (some (a:Int)) (some (b:Int))).cps.toList=(x.cps.toList.drop a).take (b-a):=by
 unfold fQ;show((x.cps.toList.drop (HT.sIx x.length 0 (some (a:Int)))).take (HT.sIx x.length x.length (some (b:Int))-HT.sIx x.length 0 (some (a:Int))))=_;rw[HT.nH,HT.nH,Nat.min_eq_left h,Nat.min_eq_left (aJ ab h)]
def nm3(b:List Nat)(at_ m:Nat)(x0 st:Int)(i:Nat)(x:Str):Prop:=x.cps.toList=b.take at_++(97+((x0+i*st)%26).toNat)::(b.drop at_).take m
def nm4(b:List Nat)(x0:Int)(r i:Nat)(x:Str):Prop:=(i<8/\x.cps.toList=b.take (i+1))\/(8<=i/\x.cps.toList=(97+((x0+(1+((i-8:Nat):Int)))%26).toNat)::b.take r)
theorem PJ{b:List Nat}{at_ m:Nat}{x0 st:Int}{i j:Nat}{x:Str}(hs:st∈[(1:Int),3,5,7,9,11,15,17,19,21,23,25])(ij:i<j)(hj:j<26)(h1:nm3 b at_ m x0 st i x)(h2:nm3 b at_ m x0 st j x):False:=by
 have e:=h1.symm.trans h2;have e:=List.append_cancel_left e;injection e with e _;simp only[YU,List.mem_nil_iff,or_false]at hs;rcases hs with rfl|rfl|rfl|rfl|rfl|rfl|rfl|rfl|rfl|rfl|rfl|rfl<;>omega
theorem UL{b:List Nat}{at_ m:Nat}{x0 st:Int}{i:Nat}{x:Str}(hb:b.all JH=true)(ha:at_<=4)(hm:m<=3)(h:nm3 b at_ m x0 st i x):Wd x:=by
 have l:=jJ x;rw[h,au,List.length_cons,aU,aU,WS]at l;refine Ks ?_ (by lia) (by omega);rw[h,VY];rw[VY]at hb;intro d hd;rcases Y1.mp hd with hd|hd
 .exact hb d (WG hd)
 .rcases YU.mp hd with rfl|hd
  .exact GK (by lia)
  .exact hb d (List.mem_of_mem_drop (WG hd))
theorem Rp{b:List Nat}{x0:Int}{r i j:Nat}{x:Str}(bl:b.length=8)(b0:b.head?=some (97+(x0%26).toNat))(ij:i<j)(hj:j<26)(h1:nm4 b x0 r i x)(h2:nm4 b x0 r j x):False:=by
 match b,bl,b0 with
 |z::b,bl,b0 =>
 cases b0;rcases h1 with⟨i8,h1⟩|⟨i8,h1⟩<;>rcases h2 with⟨j8,h2⟩|⟨j8,h2⟩
 .have e:=ZH List.length (h1.symm.trans h2);rw[aU,aU]at e;lia
 .have e:=h1.symm.trans h2;rw[List.take_succ_cons]at e;injection e with e _;omega
 .lia
 .have e:=h1.symm.trans h2;injection e with e _;omega
theorem Sw{b:List Nat}{x0:Int}{r i:Nat}{x:Str}(bl:b.length=8)(hb:b.all JH=true)(hr:r<=6)(h:nm4 b x0 r i x):Wd x:=by
 have l:=jJ x;rw[VY]at hb;rcases h with⟨i8,h⟩|⟨i8,h⟩
 .rw[h,aU]at l;refine Ks ?_ (by lia) (by lia);rw[h,VY];exact λd hd=>hb d (WG hd)
 .rw[h,List.length_cons,aU]at l;refine Ks ?_ (by lia) (by lia);rw[h,VY];intro d hd;rcases YU.mp hd with rfl|hd
  .exact GK (by omega)
  .exact hb d (WG hd)
theorem M4{R:Nat->Str->Prop}{n:Nat}{ns:Θ}(l:ns.length=n)(h:∀(i:Nat)x,ns[i]?=some x->R i x)(u:∀i j x,i<j->j<n->R i x->R j x->False)(w:∀i x,R i x->Wd x):Nms ns n:=⟨l,Rm h l u,λx hx=>by
 obtain⟨i,hi⟩:=aP hx;exact w i x (h i x hi)⟩
def Far(ns:Θ)(n:Nat):Prop:=∀x y t,ns[n-1]?=some x->y∈ns->t≠[]->y.cps.toList=x.cps.toList++t->False
theorem M6{R:Nat->Str->Prop}{n:Nat}{ns:Θ}(l:ns.length=n)(h:∀(i:Nat)x,ns[i]?=some x->R i x)(u:∀i x y t,i<=n-1->R (n-1) x->R i y->t≠[]->y.cps.toList=x.cps.toList++t->False):Far ns n:=λx y t ex hy ht e=>by
 obtain⟨i,hi⟩:=aP hy;have li:=(ao.mp hi).1;exact u i x y t (by lia) (h _ _ ex) (h _ _ hi) ht e
theorem Aw{x y:Str}{t:List Nat}(ht:t≠[])(e:y.cps.toList=x.cps.toList++t)(l:y.cps.toList.length<=x.cps.toList.length):False:=by
 rw[e,au]at l;exact ht (List.length_eq_zero_iff.mp (by lia))
theorem Ql{b:List Nat}{at_ m i j:Nat}{x0 st:Int}{x y:Str}{t:List Nat}(hx:nm3 b at_ m x0 st j x)(hy:nm3 b at_ m x0 st i y)(ht:t≠[])(e:y.cps.toList=x.cps.toList++t):False:=by
 refine Aw ht e ?_;unfold nm3 at hx hy;rw[hx,hy];simp
theorem Ph{b:List Nat}{x0:Int}{r i j:Nat}{x y:Str}{t:List Nat}(b0:b.head?=some (97+(x0%26).toNat))(ij:i<=j)(hj:j<26)(hx:nm4 b x0 r j x)(hy:nm4 b x0 r i y)(ht:t≠[])(e:y.cps.toList=x.cps.toList++t):False:=by
 rcases hx with⟨j8,hx⟩|⟨j8,hx⟩<;>rcases hy with⟨i8,hy⟩|⟨i8,hy⟩
 .refine Aw ht e ?_;rw[hx,hy,aU,aU];omega
 .lia
 .rw[hx,hy]at e
  match b,b0 with
  |z::b,b0 =>
  cases b0;rw[List.take_succ_cons]at e;injection e with e _;omega
 .refine Aw ht e ?_;rw[hx,hy];simp
def Bw:ST:=λts q=>∃(c:Int)(n:Nat),ts=[.int c,.int (n:Nat)]/\n<=26/\∀ns:Θ,Nms ns n->Far ns n->q (.l1 (ns.map T.str))
theorem jx{c:Int}{n k:Nat}(h:k<n:=by decide):ixT ((oO c n).map T.int) (k:Nat)=some (.int (strm c k)):=by
 show nth ((oO c n).map T.int) k=_;rw[rH,aq,aq,W1 h];rfl
theorem YC(i:Int)(h:0<=i/\i<12):∃sv:Int,ixT [L2.T.int 1,L2.T.int 3,L2.T.int 5,L2.T.int 7,L2.T.int 9,L2.T.int 11,L2.T.int 15,L2.T.int 17,L2.T.int 19,L2.T.int 21,L2.T.int 23,L2.T.int 25] i=some (.int sv)/\sv∈[(1:Int),3,5,7,9,11,15,17,19,21,23,25]:=by
 obtain⟨k,rfl⟩:=Int.eq_ofNat_of_zero_le h.1;have hk:k<12:=by omega
 refine⟨[(1:Int),3,5,7,9,11,15,17,19,21,23,25][k],?_,UU _⟩;show nth ([(1:Int),3,5,7,9,11,15,17,19,21,23,25].map L2.T.int) k=_;rw[rH,aq,aj (by exact hk)];rfl
theorem Nu(T:Tx D)(kE:gT 1 nM jg qX)(F:Fu wI nQ f fd):FT 2 f fd mQ Bw:=by
 refine F.okT vM λaf A outer s H E hr nd=>?_;refine⟨_,(Dm.out (bY (dH (bI 2 fj))
  (bY (dH (bI 3 (bB kE (aY (qv 0) (aY aZ bf)))))
  (bY (dH (bI 4 (Qk fj (aY (iG (bw nQ) pC pC ["_law_x"] (c7 (cG (qv 3) dI (cN aZ))) (n6 (i:=0)) fH (bH (qv 3) (bA b_ (qv 0) aZ))) bf))))
  (bY (dH (cQ (cj (go_eq hr.units) (bA b_ (qv 0) aZ) aZ)
  (bh (Af (bw nQ) pC ["_law_cell_here","_law_many","_law_letters","_law_xs","_law_stem","_law_at","_law_step","_law_found","?_law_k","_law_rest","_law_sign"] ["_law_k"] (Jg T.jM (aY aZ (aY (qv 1) bf))) (n6 (i:=0)) fH (bA bM (bH (qv 3) (bA b_ (bA bM (bH (qv 4) aZ) (qv 0)) aZ)) (cG (qv 5) dI (cN (bA b_ (bH (qv 4) aZ) aZ)))) (uD (i:=9) vM.nd rfl (Or.inl rfl)))
  (bx (bV (bA bM (iG (bw nQ) pC ["_law_cell_here","_law_many","_law_letters","_law_xs","_law_stem","_law_at","_law_step","_law_found","?_law_k","_law_rest","_law_sign"] ["_law_k"] (h_ T.jM (aY (bT (Oo rfl) T.Yu boot_min (aY (qv 1) (aY aZ bf))) bf)) (n6 (i:=0)) fH (cG (qv 5) dI (cN (bA bM (qv 0) aZ)))) (cG (qv 9) dI (cN (bT (Pa rfl) T.Yg boot_max (aY aZ (aY (bA Tz (qv 1) aZ) bf)))))))))
  bU))
  (bY (dH (bI 5 (bA b_ (bH (qv 3) aZ) aZ)))
  (bY (zF 6 vM.nd (Or.inl rfl) (U5 (pI (bC bZ (bC bZ (bC bZ (bC bZ (bC bZ (bC bZ (bC bZ (bC bZ (bC bZ (bC bZ (bC bZ (bC bZ gj))))))))))))) (Kc b_ (Kc dY (g_ (bH (qv 3) aZ)) bZ) bZ)))
  (bY (dH (gH 7 (cZ bf)))
  (bY (dH (fP (h_ T.jM (aY (qv 1) bf)) (bQ (n:=99) 8)
  (bh (bI 10 (bH (qv 2) (bA b_ (bA bM (bH (qv 3) aZ) (bA gA (qv 8) (qv 6))) aZ)))
  (bx (j7 7 (bA bM (bA bM (cG (qv 4) dI (cN (qv 5))) (qv 10)) (cG (qv 4) (cN (qv 5)) (cN (bA bM (qv 5) (bA b_ (bA dY (bH (qv 3) aZ) aZ) aZ))))))))))
  (ji (dH (qK 7)))))))))))),?_⟩
 rintro _ R ⟨c,n,rfl,hn,q⟩;refine⟨c,10,rfl,by decide,?_⟩;have sl:∀k,0<=strm c k/\strm c k<2000000000:=Ig c;have lL:(Str.ofString "abcdefghijklmnopqrstuvwxyz").length<=sizeLine:=aJ (show _<=1000 by decide +kernel) (by decide);have rl:(rng 0 n).length<=sizeLine:=by rw[rng,ak,X2];exact aJ hn (by decide)
 have e0:(Str.ofString "").length=0:=by decide +kernel
 have ec:eU ((oO c 10).map L2.T.int) none (some 8)=[0,1,2,3,4,5,6,7].map λk=>L2.T.int (strm c k):=rfl;dsimp only[frz];show(eU ((oO c 10).map L2.T.int) none (some 8)).length<=sizeLine/\jD _ _ _ _ (eU ((oO c 10).map L2.T.int) none (some 8)) _;rw[ec];refine⟨show 8<=sizeLine by decide,comp_map (λk=>L2.T.int (strm c k)) (λk=>.str ⟨#[97+(strm c k%26).toNat]⟩) [0,1,2,3,4,5,6,7] (λk _ N M hN=>⟨by decide,lL,_,MN (Z3 _ (by decide)) (YY _ (by decide)),hN⟩) ⟨[0,1,2,3,4,5,6,7].map λk=>⟨#[97+(strm c k%26).toNat]⟩,rfl,?_,?_⟩⟩
 .rw[e0,Nat.mul_zero,Nat.add_zero];exact(show 8<=sizeLine by decide)
 have bc:(Txt.join (Str.ofString "") ([0,1,2,3,4,5,6,7].map λk=>(⟨#[97+(strm c k%26).toNat]⟩ : Str))).cps.toList=[0,1,2,3,4,5,6,7].map λk=>97+(strm c k%26).toNat:=by
  rw[glue];rfl
 have bl:(Txt.join (Str.ofString "") ([0,1,2,3,4,5,6,7].map λk=>(⟨#[97+(strm c k%26).toNat]⟩ : Str))).length=8:=by rw[<- jJ,bc];rfl
 have ba:([0,1,2,3,4,5,6,7].map λk=>97+(strm c k%26).toNat).all JH=true:=by
  rw[VY];intro d hd;obtain⟨x,_,rfl⟩:=YV.mp hd;exact GK (by lia)
 have b0:(Txt.join (Str.ofString "") ([0,1,2,3,4,5,6,7].map λk=>(⟨#[97+(strm c k%26).toNat]⟩ : Str))).cps.toList.head?=some (97+(strm c 0%26).toNat):=by rw[bc];rfl
 rw[<- bc]at ba;generalize Txt.join (Str.ofString "") ([0,1,2,3,4,5,6,7].map λk=>(⟨#[97+(strm c k%26).toNat]⟩ : Str))=sm at bl ba b0 ⊢
 clear bc
 have sml:sm.cps.toList.length=8:=(jJ sm).trans bl;have z16:(16:Nat)<=sizeLine:=by decide
 refine⟨by decide,swD (λh1=>?_) λh1=>?_⟩
 .have s9:=sl 9;have s0:=sl 0;obtain⟨r,er,kR⟩ : ∃r:Nat,strm c 9%7=r/\r<=6:=⟨(strm c 9%7).toNat,by lia,by lia⟩;have t1:(fQ sm none (some (r:Int))).length<=6:=by rw[<- jJ,uW,aU];lia
  have t3:∀d:Nat,({ cps:=#[d] } : Str).length=1:=λ_=>rfl;refine⟨⟨by exact XZ (by decide),by exact VV (by decide),by lia,by lia⟩,?_⟩;have e1:(((n:Nat):Int)-1).toNat=n-1:=by lia
  show(rng 1 (((n:Nat):Int)-1).toNat).length<=sizeLine/\jD _ _ _ _ (rng 1 (((n:Nat):Int)-1).toNat) _;rw[e1];refine⟨by rw[rng,ak,X2];exact aJ (show _<=26 by exact aJ (Nat.sub_le _ _) hn) (by decide),comp_map (λk:Nat=>.int (1+(k:Int))) (λk=>.str (⟨#[97+((strm c 0+(1+(k:Int)))%26).toNat]⟩++fQ sm none (some (r:Int)))) (List.range (n-1)) (λk hk N M hN=>?_) ?_⟩
  .refine⟨_,jx (k:=0),by decide,lL,_,MN (Z3 _ (by decide)) (YY _ (by decide)),?_⟩;refine⟨_,jx (k:=9),by decide,?_⟩;dsimp only[frz];rw[er];exact⟨by exact aJ (Wp bl) (by decide),by rw[t3];lia,hN⟩
  have e2:(if(8:Int)<(n:Nat)then(8:Int)else(n:Nat))=((min n 8:Nat):Int):=by split<;>lia
  have e3:(if(0:Int)<((n:Nat):Int)-8 then((n:Nat):Int)-8 else 0)=((n-8:Nat):Int):=by split<;>lia
  show(-(2^62)<=(if(8:Int)<(n:Nat)then(8:Int)else(n:Nat))/\(if(8:Int)<(n:Nat)then(8:Int)else(n:Nat))<2^62)/\(rng 0 (if(8:Int)<(n:Nat)then(8:Int)else(n:Nat)).toNat).length<=sizeLine/\jD _ _ _ _ (rng 0 (if(8:Int)<(n:Nat)then(8:Int)else(n:Nat)).toNat) _;rw[e2,Int.toNat_natCast];refine⟨⟨by lia,by lia⟩,by rw[rng,ak,X2];exact aJ (show _<=8 by exact Nat.min_le_right _ _) (by decide),pZ (λk=>.str (fQ sm none (some ((k+1:Nat):Int)))) (min n 8) (λk hk N M hN=>⟨by exact aJ (Wp bl) (by decide),hN⟩) ?_⟩;have ez:eU ((List.range (n-1)).map λk:Nat=>L2.T.str (⟨#[97+((strm c 0+(1+(k:Int)))%26).toNat]⟩++fQ sm none (some (r:Int)))) none (some ((n-8:Nat):Int))=(((List.range (n-1)).map λk:Nat=>(⟨#[97+((strm c 0+(1+(k:Int)))%26).toNat]⟩++fQ sm none (some (r:Int)):Str)).take (n-8)).map L2.T.str:=by
   rw[List.map_take,X0];unfold eU;rw[HT.nH];show List.take (min (n-8) _-0) (List.drop 0 _)=_;rw[List.drop_zero,Nat.sub_zero,<- List.take_eq_take_min]
   rfl
  show(List.map _ (List.range (min n 8))).length+(eU ((List.range (n-1)).map λk:Nat=>L2.T.str (⟨#[97+((strm c 0+(1+(k:Int)))%26).toNat]⟩++fQ sm none (some (r:Int)))) none (some (if(0:Int)<((n:Nat):Int)-8 then((n:Nat):Int)-8 else 0))).length<=sizeLine/\R (.l1 (List.map _ (List.range (min n 8))++eU ((List.range (n-1)).map λk:Nat=>L2.T.str (⟨#[97+((strm c 0+(1+(k:Int)))%26).toNat]⟩++fQ sm none (some (r:Int)))) none (some (if(0:Int)<((n:Nat):Int)-8 then((n:Nat):Int)-8 else 0))));rw[e3,ez];refine⟨by rw[ak,X2,ak,aU];exact aJ (show _<=40 by omega) (by decide),?_⟩;have eq:(List.range (min n 8)).map (λk=>L2.T.str (fQ sm none (some ((k+1:Nat):Int))))=((List.range (min n 8)).map λk:Nat=>fQ sm none (some ((k+1:Nat):Int))).map L2.T.str:=by rw[X0];rfl
  rw[eq,<- aW];have bv:∀(i:Nat)x,((List.range (min n 8)).map (λk:Nat=>fQ sm none (some ((k+1:Nat):Int)))++((List.range (n-1)).map λk:Nat=>(⟨#[97+((strm c 0+(1+(k:Int)))%26).toNat]⟩++fQ sm none (some (r:Int)):Str)).take (n-8))[i]?=some x->nm4 sm.cps.toList (strm c 0) r i x:=λi x e=>by
   by_cases hi:i<min n 8
   .rw[aC (by rw[ak,X2];exact hi),aq,W1 hi]at e;cases e;exact .inl ⟨by lia,uW⟩
   .rw[aB (by rw[ak,X2];exact WH hi),ak,X2,List.getElem?_take]at e;by_cases h2:i-min n 8<n-8
    .rw[ZY h2,aq,W1 (by lia)]at e;cases e;refine .inr ⟨by lia,?_⟩;rw[Ad,uW,show i-min n 8=i-8 by lia];rfl
    .rw[ZZ h2]at e;cases e
  have nl:((List.range (min n 8)).map (λk:Nat=>fQ sm none (some ((k+1:Nat):Int)))++((List.range (n-1)).map λk:Nat=>(⟨#[97+((strm c 0+(1+(k:Int)))%26).toNat]⟩++fQ sm none (some (r:Int)):Str)).take (n-8)).length=n:=by rw[au,ak,X2,aU,ak,X2];lia
  exact q _ (M4 nl bv (λi j x ij hj h1 h2=>Rp sml b0 ij (aO hj hn) h1 h2) λi x h=>Sw sml ba kR h) (M6 nl bv λi x y t ij hx hy ht e=>Ph b0 ij (by lia) hx hy ht e)
 .have s8:=sl 8;obtain⟨ap,eap,gE⟩ : ∃ap:Nat,strm c 8%4=ap/\ap<=3:=⟨(strm c 8%4).toNat,by lia,by lia⟩;obtain⟨sv,es,hs⟩:=YC ((strm c 8).fdiv 4%12) (by lia);refine⟨_,jx (k:=8),by decide,?_⟩;dsimp only[frz];rw[eap];refine⟨_,jx (k:=8),⟨by decide,cC (by decide)⟩,by decide,_,es,⟨by lia,by lia⟩,?_⟩;obtain⟨m,em,hm⟩ : ∃m:Nat,(strm c 8).fdiv 48%4=m/\m<=3:=⟨((strm c 8).fdiv 48%4).toNat,by lia,by lia⟩;have t1:(fQ sm none (some (ap:Int))).length<=3:=by rw[<- jJ,uW,aU];lia
  have e2:(fQ sm (some (ap:Int)) (some ((ap:Int)+(m:Nat)))).cps.toList=(sm.cps.toList.drop ap).take m:=by
   have:=Fx (x:=sm) (a:=ap) (b:=ap+m) (XV _ _) (by lia);rw[show ap+m-ap=m by exact VU _ _]at this;rw[<- this];rfl
  have t2:(fQ sm (some (ap:Int)) (some ((ap:Int)+(m:Nat)))).length<=3:=by rw[<- jJ,e2,aU];lia
  have t3:∀d:Nat,({ cps:=#[d] } : Str).length=1:=λ_=>rfl;have sb:sv.natAbs<26:=by simp only[YU,List.mem_nil_iff,or_false]at hs;omega
  have s9:=sl 9;refine pK (λk o=>∃(x8 dt:OT),o=[.fz (.int c),.fz (.int (n:Nat)),.fz (.str (Str.ofString "abcdefghijklmnopqrstuvwxyz")),.fz (.lst ((oO c 10).map L2.T.int)),.fz (.str sm),.fz (.int (ap:Nat)),.fz (.int sv),.l1 (((List.range k).map λi:Nat=>fQ sm none (some (ap:Int))++⟨#[97+((strm c 9+(i:Int)*sv)%26).toNat]⟩++fQ sm (some (ap:Int)) (some ((ap:Int)+(m:Nat)))).map L2.T.str),x8,.und,dt]) ⟨_,_,rfl⟩ ?_ ?_
  .rintro k _ hk ⟨x8,dt,rfl⟩;refine⟨_,jx (k:=9),⟨cC (by lia),cC (WJ sb (by decide))⟩,by decide,lL,_,MN (Z3 _ (by decide)) (YY _ (by decide)),?_⟩;refine⟨by exact aJ (Wp bl) (by decide),by rw[t3];lia,.int (strm c 8),jx (k:=8),⟨by decide,cC (by decide)⟩,by decide,?_⟩;dsimp only[frz];rw[em];refine⟨by exact aJ (Wp bl) (by decide),by rw[O7,t3];lia,by rw[ak,ak,X2];exact aO (show k<27 by lia) (by decide),.fz (.int (k:Nat)),.fz (.str ⟨#[97+((strm c 9+(k:Int)*sv)%26).toNat]⟩),?_⟩;rw[List.range_succ,aW,aW]
   rfl
  .rintro _ ⟨x8,dt,rfl⟩;rw[show((n:Nat):Int).toNat=n from Int.toNat_natCast n];have bv:∀(k:Nat)x,((List.range n).map λi:Nat=>fQ sm none (some (ap:Int))++⟨#[97+((strm c 9+(i:Int)*sv)%26).toNat]⟩++fQ sm (some (ap:Int)) (some ((ap:Int)+(m:Nat))))[k]?=some x->nm3 sm.cps.toList ap m (strm c 9) sv k x:=λi x e=>by
    rw[aq]at e;have li:i<n:=Nat.lt_of_not_le λz=>by rw[UZ (by rw[X2];exact z)]at e;cases e
    rw[W1 li]at e;cases e;unfold nm3;rw[Ad,Ad,uW,e2,XG];rfl
   have nl:((List.range n).map λi:Nat=>fQ sm none (some (ap:Int))++⟨#[97+((strm c 9+(i:Int)*sv)%26).toNat]⟩++fQ sm (some (ap:Int)) (some ((ap:Int)+(m:Nat)))).length=n:=by rw[ak,X2]
   exact q _ (M4 nl bv (λi j x ij hj h1 h2=>PJ hs ij (aO hj hn) h1 h2) λi x h=>UL ba (aJ gE (by decide)) hm h) (M6 nl bv λi x y t ij hx hy ht e=>Ql hx hy ht e)
theorem div_pos{a b:Int}(hb:0<b):(Rat.divInt a b).den<=b.toNat/\(Rat.divInt a b).num.natAbs<=a.natAbs:=by
 have l:=vQ (t:=a) (b:=b) (c:=(Int.gcd a b:Nat)) (X1 hb) (by have:=jR (a:=a) (b:=b) (X1 hb);exact X1 this) (by lia) (Int.mul_pos (jR (X1 hb)) hb);have e:=pO l (X1 hb);injection e with e;injection e with e1 e2;injection e2 with e2 _;injection e1 with e1;injection e2 with e2;have h1:=l.lx;have h2:=l.ly;have h3:=l.pos;have e1:a.fdiv ((Int.gcd a b:Nat):Int)=(Rat.divInt a b).num:=e1;have e2:b.fdiv ((Int.gcd a b:Nat):Int)=((Rat.divInt a b).den:Nat):=e2;rw[e1]at h1;rw[e2]at h2 h3;omega
theorem vV{a b:Int}(ha:0<=a)(h:a<b):0<=Rat.divInt a b/\Rat.divInt a b<1:=by
 have hb:0<b:=by exact Int.lt_of_le_of_lt ha h
 refine⟨Rat.divInt_nonneg ha (XZ hb),?_⟩;have e:Rat.divInt a b=(a:Rat)/(b:Rat):=Rat.divInt_eq_div a b;rw[e];have fc:(0:Rat)<(b:Rat):=by exact_mod_cast hb
 rw[Rat.div_lt_iff fc,Rat.one_mul]
 exact_mod_cast h
theorem kO{α:Type}(l:List α){n:Nat} : eU l none (some (n:Int))=l.take n:=by
 unfold eU;show(l.drop 0).take (HT.sIx l.length l.length (some (n:Int))-0)=_;rw[HT.nH,List.drop_zero,Nat.sub_zero];rw[List.take_eq_take_iff];lia
theorem Ib{a b:Int}(hb:0<b):(Rat.divInt a b).den ∣ b.toNat:=by
 have l:=vQ (t:=a) (b:=b) (c:=(Int.gcd a b:Nat)) (X1 hb) (by have:=jR (a:=a) (b:=b) (X1 hb);exact X1 this) (by lia) (Int.mul_pos (jR (X1 hb)) hb);have e:=pO l (X1 hb);injection e with e;injection e with _ e2;injection e2 with e2 _;injection e2 with e2;have e2:b.fdiv ((Int.gcd a b:Nat):Int)=((Rat.divInt a b).den:Nat):=e2;have d:((Int.gcd a b:Nat):Int) ∣ b:=Int.gcd_dvd_right a b;rw[Int.fdiv_eq_ediv_of_dvd d]at e2;obtain⟨x,hx⟩:=d;have g0:=jR (a:=a) (b:=b) (X1 hb);rw[Int.ediv_eq_of_eq_mul_right (X1 g0) hx]at e2;exact Int.natCast_dvd_natCast.mp ⟨(Int.gcd a b:Nat),by rw[<- e2,Int.toNat_of_nonneg (XZ hb),Int.mul_comm];exact hx⟩
theorem Hv{S:Int}(hS:S≠0):∀ws:List Int,Ds (ws.map λw=>Rat.divInt w S)=Rat.divInt ws.sum S
 |[]=>by show(0:Rat)=Rat.divInt 0 S;rw[Rat.zero_divInt]
 |w::ws=>by
  show Rat.divInt w S+Ds (ws.map λw=>Rat.divInt w S)=Rat.divInt (w+ws.sum) S;rw[Hv hS ws,UK _ _ hS hS];refine(US (v7 hS hS) hS).mpr ?_
  grind
theorem HF{n:Nat}(h:0<n):mkRat n n=1:=by
 rw[show(1:Rat)=mkRat 1 1 from rfl,Rat.mkRat_eq_iff (VW h) (Nat.succ_ne_zero _)];lia
theorem Jd(yJ:gT 1 Bh q_ Gu)(F:Fu nU wV f fd):FT 2 f fd je qZ:=by
 refine F.okT JW λaf A outer s H E hr nd=>?_;refine⟨_,(bh (bI 2 (bB yJ (aY (qv 0) (aY (qv 1) bf))))
  (bx (bV (cJ (aY (bA dY (qv 0) (qv 2)) (aY (bA dY (qv 1) (qv 2)) bf)))))),?_⟩
 rintro _ R ⟨a,b,rfl,hb,hd,q⟩;have nb:b≠0:=by exact X1 hb
 have g0:=jR (a:=a) nb;have g1:=Fv (a:=a) nb hd;refine⟨_,_,rfl,⟨by exact X1 g0,g1⟩,⟨by exact X1 g0,g1⟩,?_⟩;have l:=vQ (t:=a) nb (c:=(Int.gcd a b:Nat)) (X1 g0) (by lia) (Int.mul_pos g0 hb);rw[<- pO l nb]at q;exact q
abbrev WP:=List (Str×Nat)
def tot(ws:WP):Nat:=(ws.map (·.2)).sum
def wt(n:Str)(ws:WP):Nat:=((ws.filter λw=>decide (w.1=n)).map (·.2)).sum
abbrev ovS(S:Nat)(w:Str×Nat):Str×Rat:=(w.1,Rat.divInt (w.2:Nat) (S:Nat))
def prW(ws:WP):List (Str×Rat):=ws.map (ovS (tot ws))
def ddA(ks:Θ)(n:Str):Θ:=if n∈ks then ks else ks++[n]
def dd(ns:Θ):Θ:=ns.foldl ddA []
theorem VB(as bs:Θ):dd (as++bs)=bs.foldl ddA (dd as):=List.foldl_append ..
theorem Bm(n:Str)(as bs:WP):wt n (as++bs)=wt n as+wt n bs:=by
 unfold wt;rw[List.filter_append,aW,List.sum_append]
theorem Ah(n:Str)(a:Str×Nat):wt n [a]=if a.1=n then a.2 else 0:=by
 unfold wt;by_cases h:a.1=n
 .rw[ZY h,List.filter_cons_of_pos (p:=λw:Str×Nat=>decide (w.1=n)) (Zs h)];simp
 .rw[ZZ h,List.filter_cons_of_neg (by simpa using h)];rfl
theorem RZ{n:Str}{ws:WP}(h:n∉ws.map (·.1)):wt n ws=0:=by
 unfold wt;rw[List.filter_eq_nil_iff.mpr λw hw z=>h (YV.mpr ⟨w,hw,of_decide_eq_true z⟩)];rfl
theorem Ru(n:Str):∀ws:WP,wt n ws<=tot ws
 |[]=>aD _
 |w::ws=>by
  have:=Ru n ws;rw[show w::ws=[w]++ws from rfl,Bm,Ah];show _<=w.2+tot ws;split<;>lia
theorem QH{ks:Θ}{n m:Str} : m∈ddA ks n↔m∈ks\/m=n:=by
 unfold ddA;split
 .exact⟨.inl,λh=>h.elim id λz=>z ▸ by assumption⟩
 .rw[Y1,YR]
theorem Cj{m:Str} : ∀(ns ks:Θ),m∈ns.foldl ddA ks↔m∈ks\/m∈ns
 |[],ks=>by simp
 |n::ns,ks=>by
  rw[List.foldl_cons,Cj ns,QH,YU,or_assoc]
theorem Kr{m:Str}{ns:Θ} : m∈dd ns↔m∈ns:=by
 unfold dd;rw[Cj];simp
theorem yd(p:Str->Bool):∀(ns ks:Θ),(ns.foldl ddA ks).find? p=(ks++ns).find? p
 |[],ks=>by rw[List.append_nil];rfl
 |n::ns,ks=>by
  rw[List.foldl_cons,yd p ns];unfold ddA;split
  .rename_i h
   rw[List.find?_append,List.find?_append,List.find?_cons];cases e:p n with
   |false=>rfl
   |true =>
    have:(ks.find? p).isSome:=List.find?_isSome.mpr ⟨n,h,e⟩;obtain⟨y,hy⟩:=Option.isSome_iff_exists.mp this;rw[hy];rfl
  .rw[XG];rfl
theorem Ie(p:Str->Bool)(ns:Θ):(dd ns).find? p=ns.find? p:=yd p ns []
theorem Nx{a b S:Nat}(hS:0<S):Rat.divInt (a:Nat) (S:Nat)+Rat.divInt (b:Nat) (S:Nat)=Rat.divInt ((a+b:Nat):Int) (S:Nat):=by
 have h0:((S:Nat):Int)≠0:=by lia
 rw[UK _ _ h0 h0];refine(US (v7 h0 h0) h0).mpr ?_
 push_cast
 grind
theorem G8{S:Nat}(hS:0<S)(ws:WP):dZ (ws.map (ovS S))=(dd (ws.map (·.1))).map λn=>(n,Rat.divInt (wt n ws:Nat) (S:Nat)):=by
 suffices H:∀(bs as:WP),dZ (as.map (ovS S))=(dd (as.map (·.1))).map (λn=>(n,Rat.divInt (wt n as:Nat) (S:Nat)))->dZ ((as++bs).map (ovS S))=(dd ((as++bs).map (·.1))).map λn=>(n,Rat.divInt (wt n (as++bs):Nat) (S:Nat))from H ws [] rfl
 intro bs
 induction bs with
 |nil=>intro as h;rw[List.append_nil];exact h
 |cons b bs ih =>
  intro as h;have:as++b::bs=(as++[b])++bs:=by simp
  rw[this];refine ih _ ?_;rw[aW,yG,h,aW,VB];show addW _ (ovS S b)=(ddA (dd (as.map (·.1))) b.1).map _;unfold addW ddA;rw[List.any_map];by_cases hb:b.1∈dd (as.map (·.1))
  .rw[ZY (List.any_eq_true.mpr ⟨b.1,hb,Zs rfl⟩),ZY hb,X0];refine List.map_congr_left λn _=>?_;show(if n=b.1 then(n,Rat.divInt (wt n as:Nat) (S:Nat)+Rat.divInt (b.2:Nat) (S:Nat))else(n,Rat.divInt (wt n as:Nat) (S:Nat)))=_;rw[Bm,Ah];by_cases e:n=b.1
   .rw[ZY e,ZY e.symm,Nx hS]
   .rw[ZZ e,ZZ (Ne.symm e),Nat.add_zero]
  .rw[ZZ (λz=>hb (by
    obtain⟨x,hx,e⟩:=List.any_eq_true.mp z;exact(show x=b.1 from of_decide_eq_true e) ▸ hx)),ZZ hb,aW]
   have w0:wt b.1 as=0:=RZ λz=>hb (Kr.mpr z);refine congr (ZH _ (List.map_congr_left λn hn=>?_)) ?_
   .rw[Bm,Ah,ZZ (λz:b.1=n=>hb (by rw[z];exact hn)),Nat.add_zero]
   .rw[List.map_singleton,Bm,Ah,ZY rfl,w0,Nat.zero_add]
theorem yq{k S:Nat}(hS:0<S):Rat.divInt (k:Nat) (S:Nat)=0↔k=0:=by
 have h0:((S:Nat):Int)≠0:=by lia
 constructor
 .intro h;rw[<- Rat.zero_divInt ((S:Nat):Int)]at h;have:=(US h0 h0).mp h;rw[Int.zero_mul]at this;have:=(Int.mul_eq_zero.mp this).resolve_right h0;lia
 .rintro rfl;exact Rat.zero_divInt _
theorem Tn{S:Nat}(hS:0<S)(ws:WP)(n:Str):rO (dZ (ws.map (ovS S))) n=Rat.divInt (wt n ws:Nat) (S:Nat):=by
 rw[G8 hS];unfold rO;by_cases h:n∈ws.map (·.1)
 .have e:((dd (ws.map (·.1))).map λn=>(n,Rat.divInt (wt n ws:Nat) (S:Nat))).find? (λx=>decide (x.1=n))=some (n,Rat.divInt (wt n ws:Nat) (S:Nat)):=by
   rw[List.find?_map,show((λx:Str×Rat=>decide (x.1=n)) ∘ λn=>(n,Rat.divInt (wt n ws:Nat) (S:Nat)))=λm=>decide (m=n)from rfl,Ie];have:(ws.map (·.1)).find? (λm=>decide (m=n))=some n:=by
    cases e:(ws.map (·.1)).find? λm=>decide (m=n)with
    |none=>exact absurd (Zs rfl) (List.find?_eq_none.mp e n h)
    |some m=>rw[show m=n from of_decide_eq_true (List.find?_some (p:=λm=>decide (m=n)) e)]
   rw[this];rfl
  rw[e];rfl
 .rw[List.find?_eq_none.mpr λx hx z=>by
   obtain⟨m,hm,rfl⟩:=YV.mp hx;exact h ((show m=n from of_decide_eq_true z) ▸ Kr.mp hm),RZ h,show((0:Nat):Int)=0 from rfl,Rat.zero_divInt];rfl
def qT(ns:Θ)(ws:WP):Option Str:=(ws.map (·.1)).find? λn=>decide (n∉ns)&&decide (0<wt n ws)
theorem Ht(ns:Θ){ws:WP}(h:0<tot ws):oX ns (qg (prW ws))=qT ns ws:=by
 unfold oX qg prW qT;rw[G8 h,List.filter_map,List.find?_map,Option.map_map,List.find?_filter]
 conv=>rhs;rw[<- Ie]
 show Option.map id _=_;rw[Option.map_id];show(dd (ws.map (·.1))).find? _=_
 congr 1
 funext n
 show decide ((!decide (Rat.divInt (wt n ws:Nat) (tot ws:Nat)=0))=true/\decide (n∉ns)=true)=_;by_cases z:wt n ws=0
 .rw[Zs ((yq h).mpr z),Zp (show ¬0<wt n ws by exact VQ (Wp z))];simp
 .rw[Zp (λy=>z ((yq h).mp y)),Zs (show 0<wt n ws by exact Nat.pos_of_ne_zero z)];simp
structure Prk(ws:WP):Prop where
 few:ws.length<=40
 wd:∀w∈ws,Wd w.1
 le:∀w∈ws,w.2<=9
 pos:0<tot ws
theorem Kq{b:Nat} : ∀{ws:WP},(∀w∈ws,w.2<=b)->tot ws<=b*ws.length
 |[],_=>aV _
 |w::ws,h=>by
  have h1:=h w (aL ..);have:=Kq (ws:=ws) λx hx=>h x (aG _ hx);show w.2+tot ws<=b*(ws.length+1);rw[Nat.mul_add];lia
theorem Ba{w:Str×Nat} : ∀{ws:WP},w∈ws->w.2<=tot ws
 |x::ws,h=>by
  show _<=x.2+tot ws;rcases YU.mp h with rfl|z
  .exact XV _ _
  .have:=Ba z;exact aJ this (Nat.le_add_left _ _)
theorem Prk.tle{ws:WP}(h:Prk ws):tot ws<=360:=by
 have:=Kq h.le;have:=h.few;have:9*ws.length<=9*40:=Nat.mul_le_mul_left _ h.few;lia
theorem U4{k S:Nat}(hS:0<S)(h1:k<=S)(h2:S<=360):Ch (Rat.divInt (k:Nat) (S:Nat)):=by
 have dn:=VZ (by lia) (Ib (a:=(k:Nat)) (b:=(S:Nat)) (by lia));have le:(Rat.divInt (k:Nat) (S:Nat))<=1:=by
  rcases Nat.lt_or_eq_of_le h1 with h|rfl
  .exact Rat.le_of_lt (vV (a:=(k:Nat)) (b:=(S:Nat)) (XT _) (by lia)).2
  .have:Rat.divInt (k:Nat) (k:Nat)=1:=HF hS;rw[this];exact Rat.le_refl
 have ge:0<=Rat.divInt (k:Nat) (S:Nat):=Rat.divInt_nonneg (XT _) (XT _);exact⟨ge,le,cC (by lia)⟩
theorem uy:∀ws:WP,(ws.map λw=>((w.2:Nat):Int)).sum=(tot ws:Nat)
 |[]=>rfl
 |w::ws=>by
  rw[List.map_cons,List.sum_cons,uy ws];show _=((w.2+tot ws:Nat):Int)
  push_cast;rfl
theorem Prk.prs{ws:WP}(h:Prk ws):Prs (prW ws):=by
 have ht:=h.tle;have hp:=h.pos;have ch:∀k,k<=tot ws->Ch (Rat.divInt (k:Nat) (tot ws:Nat)):=λk hk=>U4 hp hk ht;have z0:((tot ws:Nat):Int)≠0:=by lia
 have dn:∀k:Nat,(Rat.divInt (k:Nat) (tot ws:Nat)).den ∣ tot ws:=λk=>Ib (a:=(k:Nat)) (b:=(tot ws:Nat)) (by lia);have m2:(prW ws).map (·.2)=(ws.map λw=>((w.2:Nat):Int)).map λx=>Rat.divInt x (tot ws:Nat):=by unfold prW;rw[X0,X0];rfl
 refine⟨by unfold prW;rw[ak];have:=h.few;exact aJ this (by decide),λp eT=>?_,?_,?_,λas a bs e=>?_⟩
 .obtain⟨w,hw,rfl⟩:=YV.mp eT;exact⟨h.wd w hw,ch _ (Ba hw)⟩
 .have:=uU ((prW ws).map (·.2)) (n:=1) (m:=tot ws) (Nat.one_dvd _) λr hr=>by
   obtain⟨x,hx,rfl⟩:=YV.mp hr;obtain⟨w,hw,rfl⟩:=YV.mp hx;exact dn _
  have:=VZ hp this;exact cC (by lia)
 .rw[m2,Hv z0,uy];exact HF hp
 .obtain⟨jS,bs',e0,rfl,e2⟩:=List.map_eq_append_iff.mp e;obtain⟨a',cs',rfl,rfl,rfl⟩:=List.map_eq_cons_iff.mp e2;rw[Tn hp];have l1:wt a'.1 jS<=tot ws:=by
   have:=Ru a'.1 jS;have:tot jS<=tot ws:=by
    unfold tot;rw[e0,aW,List.sum_append];exact XV _ _
   lia
  have l2:a'.2<=tot ws:=Ba (e0 ▸ by simp);have c1:=ch _ l1;have c2:=ch _ l2;have d1:=VZ hp (dn (wt a'.1 jS));have d2:=VZ hp (dn a'.2);refine⟨c1.bq,c2.bq,cC ?_⟩;show(((Rat.divInt (wt a'.1 jS:Nat) (tot ws:Nat)).den:Int)*((Rat.divInt (a'.2:Nat) (tot ws:Nat)).den:Int)).natAbs<_;rw[Int.natAbs_mul,Int.natAbs_natCast,Int.natAbs_natCast];exact Y3 (Nat.mul_le_mul (aJ d1 ht) (aJ d2 ht)) (by decide)
theorem jh:∀ns:Θ,GQ (ns.map PyData.str)=ns.map L2.T.str
 |[]=>rfl
 |n::ns=>by show ofD (.str n)::GQ (ns.map PyData.str)=_;rw[jh ns];rfl
theorem pD{n:Str}(h:Wd n):PyData.strOk n=true:=by
 unfold PyData.strOk;rw[<- Array.all_toList];unfold Wd d8 at h;simp only[UT,VY,decide_eq_true_eq]at h;rw[VY];intro c hc;have:=h.2 c hc;exact Zs (by lia)
theorem Em:∀ns:Θ,(∀n∈ns,Wd n)->PyData.canLayAll0 (ns.map PyData.str)=true
 |[],_=>by rfl
 |n::ns,h=>by
  rw[List.map_cons];unfold PyData.canLayAll0 PyData.canLay0;rw[Em ns λm hm=>h m (.tail _ hm),pD (h n (.head _))]
  rfl
theorem Dq:∀ns:Θ,PyData.depthAll (ns.map PyData.str)=0
 |[]=>by rfl
 |n::ns=>by
  rw[List.map_cons];unfold PyData.depthAll PyData.depth;rw[Dq ns]
  rfl
theorem iM{ns:Θ}(h:∀n∈ns,Wd n):SeqAt.shaped (.list (ns.map PyData.str))=true:=by
 unfold SeqAt.shaped PyData.canLay0 PyData.depth;rw[Em ns h,Dq]
 rfl
theorem oN{n:Str}(h:PyData.strOk n=true):SeqAt.shaped (.str n)=true:=by
 unfold SeqAt.shaped PyData.canLay0 PyData.depth;rw[h]
 rfl
theorem HS(a b:Str):PyData.eqv (.str a) (.str b)=decide (a=b):=by
 unfold PyData.eqv;by_cases h:a=b
 .subst h;simp
 .simp[h]
theorem pX(n:Str):∀ns:Θ,((ns.map PyData.str).any λy=>PyData.eqv y (.str n))=decide (n∈ns)
 |[]=>by simp
 |m::ns=>by
  rw[List.map_cons,List.any_cons,pX n ns,HS];by_cases h:m=n
  .subst h;simp
  .by_cases h2:n∈ns
   .simp[h2]
   .have:n∉m::ns:=λz=>(YU.mp z).elim (λe=>h e.symm) h2;simp[h,h2,this]
theorem ZM{n:Str}(h:wdT (.str n)=some true):Wd n:=by
 by_cases l:n.length<=1000
 .rw[show wdT (.str n)=some (d8 n.cps.toList)from ZY l]at h;exact Option.some.inj h
 .rw[show wdT (.str n)=none from ZZ l]at h;cases h
abbrev D11:=Str×WP
abbrev R11:=L2.T×List D11
abbrev wT(w:Str×Nat):L2.T:=.tup [.str w.1,.int (w.2:Nat)]
abbrev fY(d:D11):L2.T:=.tup [.str d.1,.lst (d.2.map wT)]
abbrev dg(p:R11):L2.T:=.tup [p.1,.lst (p.2.map fY)]
structure Vk(rs:List R11):Prop where
 few:rs.length<=100
 wd:∀r∈rs,(wdT r.1).isSome
 drs:∀r∈rs,r.2.length<=100/\∀d∈r.2,Wd d.1/\Prk d.2
def iR(d:D11):Dr:=⟨d.1,mkRat 1 3,qg (prW d.2)⟩
inductive Out where
 |share|name|room (m:Str)|ok (ns:Θ)
def Ar(b:Bool)(rs:List R11):Out:=match b with
 |false=>.share
 |true=>match gR [] (rs.map (·.1))with
  |none=>.name
  |some ns=>match o7 ns (rs.map λr=>r.2.map iR)with
   |some none=>.name
   |some (some m)=>.room m
   |none=>.ok ns
def zO(D:Adr)(R:Θ->Prop)(Z:XC):Out->Prop
 |.share=>Z D.NoShare [] []
 |.name=>Z D.NoName [] []
 |.room m=>Z D.NoRoom ["room"] [.str m]
 |.ok ns=>R ns
def Sg:Out->L2.T
 |.share=>.tup [.int 3,.non]
 |.name=>.tup [.int 1,.non]
 |.room m=>.tup [.int 6,.str m]
 |.ok _=>.non
def wN(D:Adr):SX:=λts R Z=>∃(t:L2.T)(b:Bool)(rs:List R11),ts=[t,.lst (rs.map dg)]/\ShX t b/\Vk rs/\zO D (λns=>∀u,R (.fz (.ins D.Hall nY [t,.dct (nmK ns) (nmT ns),u]))) Z (Ar b rs)
theorem JV{ws:WP}(h:Prk ws):(qg (prW ws)).length<=1000:=by
 have:=qW (prW ws);have l:(prW ws).length=ws.length:=by unfold prW;rw[ak]
 have:=h.few;have:=List.length_filter_le (λp:Str×Rat=>!decide (p.2=0)) (dZ (prW ws));unfold qg;lia
theorem Ca(T:Tx D)(jm:gT 2 nU je qZ)(jc:OkI P w K mg base CX0 5 D.Mixed_init fX (spI K (Dk D)))(i_:OkI P w K mg base (CXO P w) 5 D.Hall_init gW (Q9 K (Cq D)))(F:Fu uF vo f fd):cH P w K mg base (CXO P w) 7 f fd nG (spX K (wN D)):=by
 refine F.okTX G3 λaf A outer s H E hr nd=>?_;refine⟨_,(bh (gH 2 (cZ bf))
  (bh (fP (c7 (qv 1)) (gP (n:=2) (bN (bQ (n:=99) 3) (bN (bQ (n:=99) 4) dU)))
  (bh (gH 5 (cZ bf))
  (bh (fP (c7 (qv 4)) (gP (n:=2) (bN (bQ (n:=99) 6) (bN (bQ (n:=99) 7) dU)))
  (bh (bI 8 (bT (Ep rfl) T.MK boot_sum (aY (iG (bw vo) vU vU ["_law_room","_law_weight"] (c7 (qv 7)) (gP (n:=2) (bN (n6 (i:=0)) (bN (n6 (i:=1)) dU))) fH (qv 1)) bf)))
  (bh (Af (bw vo) vU vU ["_law_room","_law_weight"] (c7 (qv 7)) (gP (n:=2) (bN (n6 (i:=0)) (bN (n6 (i:=1)) dU))) fH (cJ (aY (qv 0) (aY (bB jm (aY (qv 1) (aY (qv 10) bf))) bf))) (uD (i:=9) G3.nd rfl (Or.inl rfl)))
  (bx (j7 5 (Qo T.Lk jc T.Q7 (aY (qv 6) (aY (cJ (aY aZ (aY aZ bf))) (aY (qv 9) bf)))))))))
  (bx (rE 5 (j7 2 (cJ (aY (qv 3) (aY (qv 5) bf)))))))))
  (bx (rE 2 (N7 T.O4 i_ hr.md (by rfl) T.U9 (aY (qv 0) (aY (qv 2) bf))))))),?_⟩
 rintro _ R Z ⟨t,b,rs,rfl,hs,hk,q⟩;refine d_ dg rs (λas o=>∃x3 x4 x5 x6 x7 x8 x9,o=[.fz t,.fz (.lst (rs.map dg)),.l1 (as.map λr=>rxT D (r.1,r.2.map iR)),x3,x4,x5,x6,x7,x8,x9]) ⟨_,_,_,_,_,_,_,rfl⟩ ?_ ?_
 .rintro as a bs _ e ⟨x3,x4,x5,x6,x7,x8,x9,rfl⟩;obtain⟨dl,hd⟩:=hk.drs a (e ▸ by simp);have al:as.length<rs.length:=by rw[e];simp
  have few:=hk.few;refine⟨rfl,d_ fY a.2 (λcs o=>∃x6 x7 x8 x9,o=[.fz t,.fz (.lst (rs.map dg)),.l1 (as.map λr=>rxT D (r.1,r.2.map iR)),.fz a.1,.fz (.lst (a.2.map fY)),.l1 (cs.map λd=>dxT D (iR d)),x6,x7,x8,x9]) ⟨_,_,_,_,rfl⟩ ?_ ?_⟩
  .rintro cs d ds _ e2 ⟨x6,x7,x8,x9,rfl⟩;obtain⟨wd,hp⟩:=hd d (e2 ▸ by simp);have cl:cs.length<a.2.length:=by rw[e2];simp
   have pf:=hp.few;have ps:=hp.pos;have pl:(d.2.map wT).length<=sizeLine:=by rw[ak];exact aJ (show _<=1000 by exact aJ pf (by decide)) (by decide)
   refine⟨rfl,pl,comp_map wT (λw=>.int (w.2:Nat)) d.2 (λw _ N M hN=>⟨rfl,hN⟩) ⟨d.2.map λw=>((w.2:Nat):Int),by rw[X0];rfl,?_⟩⟩;rw[uy];refine⟨pl,comp_map wT (λw=>wyT (ovS (tot d.2) w)) d.2 (λw _ N M hN=>⟨rfl,_,_,rfl,by lia,cC (by have:=hp.tle;omega),hN⟩) ?_⟩;refine⟨d.1,mkRat 1 3,prW d.2,rfl,rfl,yO D,?_,wd,hp.prs,by rw[ak];exact Y3 (show _<=1000 by lia) (by decide),.fz (.str d.1),.fz (.lst (d.2.map wT)),.fz (.int (tot d.2:Nat)),.fz (.lst ((prW d.2).map wyT)),?_⟩
   .unfold prW;rw[X0]
    rfl
   .rw[aW];unfold prW;rw[X0]
    rfl
  .rintro _ ⟨x6,x7,x8,x9,rfl⟩;refine⟨by rw[ak];exact Y3 (show _<=1000 by lia) (by decide),.fz a.1,.fz (.lst (a.2.map fY)),.fz (.lst (a.2.map λd=>dxT D (iR d))),x6,x7,x8,x9,?_⟩;rw[aW];rw[show([a].map λr:R11=>rxT D (r.1,r.2.map iR))=[.tup [a.1,.lst (a.2.map λd=>dxT D (iR d))]]by show[rmA (a.1,(a.2.map iR).map (dxT D))]=_;rw[X0];rfl]
   rfl
 .rintro _ ⟨x3,x4,x5,x6,x7,x8,x9,rfl⟩;refine⟨t,b,rs.map λr=>(r.1,r.2.map iR),rfl,rfl,rfl,by rw[X0];rfl,hs,⟨by rw[ak];have:=hk.few;exact aJ this (by decide),λp hp=>?_,λp hp=>?_⟩,?_⟩
  .obtain⟨r,hr,rfl⟩:=YV.mp hp;exact hk.wd r hr
  .obtain⟨r,hr,rfl⟩:=YV.mp hp;obtain⟨dl,hd⟩:=hk.drs r hr;refine⟨by rw[ak];exact aJ dl (by decide),λd aw=>?_⟩;obtain⟨x,hx,rfl⟩:=YV.mp aw;exact JV (hd x hx).2
  .rw[X0,X0];show Ir D b (rs.map (·.1)) (rs.map λr=>r.2.map iR) _ Z;unfold Ir;unfold Ar at q;cases b with
   |false=>exact q
   |true =>
    show(match gR [] (rs.map (·.1))with|none=>_|some ns=>_);dsimp only at q;cases en:gR [] (rs.map (·.1))with
    |none=>rw[en]at q;exact q
    |some ns =>
     rw[en]at q;dsimp only at q ⊢;cases ea:o7 ns (rs.map λr=>r.2.map iR)with
     |none=>rw[ea]at q;exact q
     |some o =>
      rw[ea]at q;cases o<;>exact q
def Cd:ST:=λts q=>∃t:L2.T,ts=[t]/\oT (wdT t) λb=>q (.fz (.bl b))
theorem Nb(T:Tx D)(F:Fu Ao zM f fd):FT 1 f fd qe Cd:=by
 refine F.okT OD λaf A outer s H E hr nd=>?_;refine⟨_,(bh (cQ (QW.qt (gJ (cM (cD (lq .str (qv 0) T.bL T.Ka boot_str))) (gJ (cj BK (bT uc T.jB WZ (aY (qv 0) bf)) aZ) (gw (cj Dw (bT uc T.jB WZ (aY (qv 0) bf)) aZ)))))
  (bx (bV jT))
  bU)
  (bx (bV (bT (Ge rfl) T.KQ boot_all (aY (iG (bw zM) FN FN ["_law_sign"] (Gd (qv 0)) (n6 (i:=0)) fH (iw Ui (qv 0) fj (hm:=by rfl))) bf))))),?_⟩
 rintro _ R ⟨t,rfl,h⟩;obtain⟨b,e,q⟩:=wL h;cases t with
 |str n =>
  have e:(if n.length<=1000 then some (d8 n.cps.toList)else none)=some b:=e;by_cases l:n.length<=1000
  .rw[ZY l]at e;cases e;have ln:n.cps.toList.length=n.length:=Array.length_toList;have l2:=aJ l (show 1000<=sizeLine by decide);unfold d8 at q;rw[ln]at q;refine⟨l2,swD (λh1=>?_) λh1=>⟨l2,swD (λh2=>?_) λh2=>⟨by rw[ak,ln];exact l2,comp_map (λc=>.str ⟨#[c]⟩) (λc=>.bl (decide (97<=c)&&decide (c<=122))) n.cps.toList (λc _ N M hN=>⟨c,rfl,?_⟩) ⟨n.cps.toList.map λc=>decide (97<=c)&&decide (c<=122),by rw[X0];rfl,?_⟩⟩⟩⟩
   .rw[Zp (show ¬1<=n.length by lia)]at q;exact q
   .rw[Zp (show ¬n.length<=8 by lia),Bool.and_false]at q;exact q
   .have:decide (c∈(Str.ofString "abcdefghijklmnopqrstuvwxyz").cps.toList)=(decide (97<=c)&&decide (c<=122)):=by
     rw[show(Str.ofString "abcdefghijklmnopqrstuvwxyz").cps.toList=(List.range 26).map (97 + ·)by decide +kernel,<- UV];refine decide_eq_decide.mpr ⟨λh=>?_,λh=>YV.mpr ⟨c-97,List.mem_range.mpr (by omega),by omega⟩⟩;obtain⟨x,hx,rfl⟩:=YV.mp h;have:=List.mem_range.mp hx;lia
    rw[<- this]at hN;exact hN
   .rw[Zs (show 1<=n.length by lia),Zs (show n.length<=8 by lia),VS,VS]at q;show R (.fz (.bl ((n.cps.toList.map λc=>decide (97<=c)&&decide (c<=122)).all λb=>b)));rw[show((n.cps.toList.map λc=>decide (97<=c)&&decide (c<=122)).all λb=>b)=n.cps.toList.all λc=>decide (97<=c)&&decide (c<=122)from List.all_map];exact q
  .rw[ZZ l]at e;cases e
 |int _=>cases e;exact q
 |bl _=>cases e;exact q
 |non=>cases e;exact q
 |lst _=>cases e;exact q
 |tup _=>cases e;exact q
 |_=>cases e
def rY:ST:=λts q=>∃(t:L2.T)(b:Bool),ts=[t]/\ShX t b/\q (.fz (.bl b))
theorem Dh(T:Tx D)(yJ:gT 1 Bh q_ Gu)(F:Fu lW pq f fd):FT 2 f fd iQ rY:=by
 refine F.okT DK λaf A outer s H E hr nd=>?_;refine⟨_,(bh (cQ (QW.qt (gJ (cM (cD (lq .tuple (qv 0) T.bL T.zf boot_tuple))) (gw (cj (sJ hr.units) (bT jZ T.jB WZ (aY (qv 0) bf)) aZ))))
  (bx (bV jT))
  bU)
  (bh (A_ (qv 0) (gP (n:=2) (bN (bQ (n:=99) 1) (bN (bQ (n:=99) 2) dU))))
  (bh (cQ (cD (lq .bool (qv 1) T.bL T.Kd boot_bool))
  (bx (bV jT))
  bU)
  (bx (bV (vm (wu CN BK aZ (qv 1) (qv 2)) (uI (iw (go_eq hr.units) (bB yJ (aY (qv 1) (aY (qv 2) bf))) aZ)))))))),?_⟩
 rintro _ R ⟨t,b,rfl,h,q⟩;cases h with
 |@q r hb =>
  have hd:(0:Int)<r.den:=by have:=r.den_pos;lia
  have e0:decide (0<=r)=decide (0<=r.num):=decide_eq_decide.mpr Rat.num_nonneg.symm;have e1:decide (r<1)=decide (r.num<(r.den:Int)):=decide_eq_decide.mpr (by rw[Rat.lt_iff];show r.num*1<1*(r.den:Int)↔_;lia);rw[e0,e1]at q;refine⟨rfl,?_⟩;refine swD (λh0=>?_) λh0=>?_
  .rw[Zs h0,VS]at q;refine swD (λh1=>⟨_,_,rfl,?_⟩) λh1=>?_
   .rw[Zs h1]at q;rw[show Int.gcd r.num r.den=1 from r.reduced];exact q
   .rw[Zp h1]at q;exact q
  .rw[Zp h0]at q;exact q
 |@bad x y h =>
  refine⟨rfl,swD (λh0=>swD (λh1=>⟨_,_,rfl,?_⟩) λh1=>q) λh0=>q⟩;have:decide (((Int.gcd x y:Nat):Int)=1)=false:=Zp λz=>h ⟨by lia,by lia⟩;rw[<- this]at q;exact q
 |bl b y=>exact⟨rfl,q⟩
 |int i=>exact q
 |non=>exact q
 |str s=>exact q
 |lst l=>exact q
theorem Al:∀{as:List L2.T}{ns ms:Θ},(∀n∈ns,Wd n)->gR ns as=some ms->∀n∈ms,Wd n
 |[],_,_,nd,e=>by cases e;exact nd
 |a::as,ns,ms,nd,e=>by
  cases a with
  |str n =>
   have e:(if d8 n.cps.toList=true/\n∉ns then gR (ns++[n]) as else none)=some ms:=e;split at e
   .rename_i h
    exact Al (λm hm=>(Y1.mp hm).elim (nd m) λz=>YR.mp z ▸ h.1) e
   .cases e
  |_=>cases e
theorem Eh(ns:Θ)(ws vs:WP)(w:Str×Nat)(us:WP)(e:ws=vs++w::us)(h:∀x∈vs,¬(x.1∉ns/\0<wt x.1 ws))(hw:w.1∉ns/\0<wt w.1 ws):qT ns ws=some w.1:=by
 unfold qT;have:∀p:Str->Bool,(∀x∈vs,p x.1=false)->p w.1=true->(ws.map (·.1)).find? p=some w.1:=λp hv hp=>by
  rw[e,aW,List.find?_append,List.find?_eq_none.mpr λn hn z=>by
   obtain⟨x,hx,rfl⟩:=YV.mp hn;rw[hv x hx]at z;cases z]
  show(List.find? p (w.1::us.map (·.1)))=_;rw[UH hp]
 exact this _ (λx hx=>by rw[<- UV];exact Zp (h x hx)) (by rw[<- UV];exact Zs hw)
theorem sE(ns:Θ)(ws:WP)(h:∀x∈ws,¬(x.1∉ns/\0<wt x.1 ws)):qT ns ws=none:=by
 unfold qT;rw[List.find?_eq_none];intro n hn z;obtain⟨x,hx,rfl⟩:=YV.mp hn;rw[<- UV]at z;exact h x hx (of_decide_eq_true z)
def Mw(D:Adr):ST:=λts q=>∃(t:L2.T)(b:Bool)(rs:List R11),ts=[t,.lst (rs.map dg)]/\ShX t b/\Vk rs/\q (.fz (Sg (Ar b rs)))
theorem TY(T:Tx D)(oR:gT 2 lW iQ rY)(Eo:gT 1 Ao qe Cd)(F:Fu Gx GZ f fd):FT 3 f fd uP (Mw D):=by
 refine F.okT Uy λaf A outer s H E hr nd=>?_;refine⟨_,(bh (cQ (cM (cD (bB oR (aY (qv 0) bf))))
  (bx (bV (cJ (aY aZ (aY jo bf)))))
  bU)
  (bh (gH 2 (cZ bf))
  (bh (fP (c7 (qv 1)) (gP (n:=2) (bN (bQ (n:=99) 3) (bN (bQ (n:=99) 4) dU)))
  (bh (cQ (QW.qt (gJ (cM (cD (bB Eo (aY (qv 3) bf)))) (gw (uV 2 (cj (RG hr.units) (qv 3) (qv 2) (hm:=by rfl))))))
  (bx (bV (cJ (aY aZ (aY jo bf)))))
  bU)
  (bx (j7 2 (qv 3)))))
  (bh (fP (c7 (qv 1)) (gP (n:=2) (bN (bQ (n:=99) 3) (bN (bQ (n:=99) 4) dU)))
  (bh (gH 5 (cZ bf))
  (bx (fP (c7 (qv 4)) (gP (n:=2) (bN (bQ (n:=99) 6) (bN (bQ (n:=99) 7) dU)))
  (bh (cQ (uV 5 (cj (RG hr.units) (qv 6) (qv 5) (hm:=by rfl)))
  (bx (bV (cJ (aY aZ (aY jo bf)))))
  bU)
  (bh (j7 5 (qv 6))
  (bx (fP (c7 (qv 7)) (gP (n:=2) (bN (bQ (n:=99) 8) (bN (bQ (n:=99) 9) dU)))
  (bx (cQ (QW.qt (vO (uV 2 (cj (Vr hr.units) (qv 8) (qv 2) (hm:=by rfl))) (uz (cj Dw (bT (Ep rfl) T.MK boot_sum (aY (iG (bw GZ) Lf Lf ["_law_part"] (c7 (qv 7)) (n6 (i:=0)) (GX (cj (go_eq hr.units) (bH (qv 0) aZ) (qv 9))) (bH (qv 0) aZ)) bf)) aZ))))
  (bx (bV (cJ (aY aZ (aY (qv 8) bf)))))
  bU))))))))))
  (bx (bV jo)))))),?_⟩
 rintro _ R ⟨t,b,rs,rfl,hs,hk,q⟩;refine⟨t,b,rfl,hs,?_⟩;cases b with
 |false=>exact q
 |true =>
 refine d_ dg rs (λas o=>∃ns x3 x4 x5 x6 x7 x8 x9,gR [] (as.map (·.1))=some ns/\o=[.fz t,.fz (.lst (rs.map dg)),.l1 (ns.map L2.T.str),x3,x4,x5,x6,x7,x8,x9]) ⟨[],_,_,_,_,_,_,_,rfl,rfl⟩ ?_ ?_
 .rintro as a bs _ e ⟨ns,x3,x4,x5,x6,x7,x8,x9,en,rfl⟩;have ea:gR [] (rs.map (·.1))=gR ns (a.1::bs.map (·.1)):=by rw[e,aW,m9,en];rfl
  have nl:=(qp .nil en).2;have nw:=Al (λ_ z=>by cases z) en;have al:as.length<rs.length:=by rw[e];simp
  have few:=hk.few;obtain⟨b,eb⟩:=Option.isSome_iff_exists.mp (hk.wd a (e ▸ by simp));have bad:gR ns (a.1::bs.map (·.1))=none->R (.fz (.tup [.int 1,.non])):=λz=>by
   unfold Ar at q;dsimp only at q;rw[ea,z]at q;exact q
  obtain⟨t1,ds⟩:=a;refine⟨rfl,_,rfl,cB eb ?_⟩;cases b with
  |false =>
   refine bad ?_;cases t1 with
   |str n =>
    have eb:(if n.length<=1000 then some (d8 n.cps.toList)else none)=some false:=eb;show(if d8 n.cps.toList=true/\n∉ns then _ else none)=none;split at eb
    .cases h:d8 n.cps.toList with
     |true=>rw[h]at eb;cases eb
     |false=>exact ZZ λz=>by cases z.1
    .cases eb
   |_=>rfl
  |true =>
   cases t1 with
   |str n =>
    have hb:Wd n:=ZM eb;refine⟨.str n,_,rfl,ZH L2.T.lst (jh ns).symm,oN (pD hb),iM nw,?_⟩;rw[pX];by_cases hn:n∈ns
    .rw[Zs hn];exact bad (ZZ λz=>z.2 hn)
    .rw[Zp hn];refine⟨by rw[ak,nl,ak];exact Y3 (show _<=1000 by simp;lia) (by decide),ns++[n],.fz (.str n),.fz (.lst (ds.map fY)),x5,x6,x7,x8,x9,?_,by rw[aW];rfl⟩;rw[aW,m9,en];exact ZY ⟨hb,hn⟩
   |_=>cases eb
 .rintro _ ⟨ns,x3,x4,x5,x6,x7,x8,x9,en,rfl⟩;have nw:=Al (λ_ z=>by cases z) en;have q:R (.fz (Sg (match o7 ns (rs.map λr=>r.2.map iR)with|some none=>.name|some (some m)=>.room m|none=>.ok ns))):=by
   unfold Ar at q;dsimp only at q;rw[en]at q;exact q
  clear en
  have few:=hk.few;refine d_ dg rs (λas o=>∃x3 x4 x5 x6 x7 x8 x9,o=[.fz t,.fz (.lst (rs.map dg)),.l1 (ns.map L2.T.str),x3,x4,x5,x6,x7,x8,x9]/\∀bs,rs=as++bs->o7 ns (rs.map λr=>r.2.map iR)=o7 ns (bs.map λr=>r.2.map iR)) ⟨_,_,_,_,_,_,_,rfl,λbs e=>by rw[e];rfl⟩ ?_ ?_
  .rintro as a bs _ e ⟨x3,x4,x5,x6,x7,x8,x9,rfl,ha⟩;rw[ha _ e]at q;obtain⟨dl,hd⟩:=hk.drs a (e ▸ by simp);have bad:∀o,jH ns [] (a.2.map iR)=some o->R (.fz (Sg (match o with|none=>.name|some m=>.room m))):=λo ho=>by
    rw[show o7 ns ((a::bs).map λr=>r.2.map iR)=some o from by show(match jH ns [] (a.2.map iR)with|some b=>some b|none=>_)=_;rw[ho]]at q;cases o<;>exact q
   refine⟨rfl,d_ fY a.2 (λcs o=>∃x6 x7 x8 x9,o=[.fz t,.fz (.lst (rs.map dg)),.l1 (ns.map L2.T.str),.fz a.1,.fz (.lst (a.2.map fY)),.l1 ((cs.map (·.1)).map L2.T.str),x6,x7,x8,x9]/\∀ds,a.2=cs++ds->jH ns [] (a.2.map iR)=jH ns (cs.map (·.1)) (ds.map iR)) ⟨_,_,_,_,rfl,λds e=>by rw[e];rfl⟩ ?_ ?_⟩
   .rintro cs d ds _ e2 ⟨x6,x7,x8,x9,rfl,hc⟩;have md:∀x∈cs++[d],x∈a.2:=λx hx=>e2 ▸ by
     rcases Y1.mp hx with z|z
     .exact VX _ z
     .exact aM _ (YR.mp z ▸ aL ..)
    obtain⟨wd,hp⟩:=hd d (md d (by simp));have cw:∀n∈cs.map (·.1),Wd n:=λn hn=>by
     obtain⟨x,hx,rfl⟩:=YV.mp hn;exact(hd x (md x (VX _ hx))).1
    have cl:cs.length<a.2.length:=by rw[e2];simp
    have ho:=hc _ e2;have ho:jH ns [] (a.2.map iR)=(if d.1∈cs.map (·.1)then some none else match oX ns (qg (prW d.2))with|some m=>some (some m)|none=>jH ns (cs.map (·.1)++[d.1]) (ds.map iR)):=ho;rw[Ht ns hp.pos]at ho;refine⟨rfl,.str d.1,_,rfl,ZH L2.T.lst (jh (cs.map (·.1))).symm,oN (pD wd),iM cw,?_⟩;rw[pX];by_cases hn:d.1∈cs.map (·.1)
    .rw[ZY hn]at ho;rw[Zs hn];exact bad _ ho
    .rw[ZZ hn]at ho;rw[Zp hn];refine⟨by rw[ak,ak];exact Y3 (show _<=1000 by lia) (by decide),?_⟩;have pf:=hp.few;refine d_ wT d.2 (λvs o=>∃x8 x9,o=[.fz t,.fz (.lst (rs.map dg)),.l1 (ns.map L2.T.str),.fz a.1,.fz (.lst (a.2.map fY)),.l1 ((cs.map (·.1)).map L2.T.str++[.str d.1]),.fz (.str d.1),.fz (.lst (d.2.map wT)),x8,x9]/\∀x∈vs,¬(x.1∉ns/\0<wt x.1 d.2)) ⟨_,_,rfl,λ_ z=>by cases z⟩ ?_ ?_
     .rintro vs w us _ e3 ⟨x8,x9,rfl,hv⟩;have wm:w∈d.2:=e3 ▸ by simp
      have out:¬(w.1∉ns/\0<wt w.1 d.2)->∀x∈vs++[w],¬(x.1∉ns/\0<wt x.1 d.2):=λh x hx=>(Y1.mp hx).elim (hv x) λz=>YR.mp z ▸ h;refine⟨rfl,.str w.1,_,rfl,ZH L2.T.lst (jh ns).symm,oN (pD (hp.wd w wm)),iM nw,?_⟩;rw[pX];by_cases h1:w.1∈ns
      .rw[Zs h1];exact⟨_,_,rfl,out λz=>z.1 h1⟩
      .rw[Zp h1];have pl:(d.2.map wT).length<=sizeLine:=by rw[ak];exact aJ (show _<=1000 by exact aJ pf (by decide)) (by decide)
       refine⟨pl,jN wT (λx=>decide (x.1=w.1)) (λx=>.int (x.2:Nat)) d.2 (λx hx N M hN hM=>by show sw (decide (x.1=w.1)) _ _;exact sw2 (λh=>hN h) hM) ⟨(d.2.filter λx=>decide (x.1=w.1)).map λx=>((x.2:Nat):Int),by rw[X0];rfl,?_⟩⟩;rw[uy];refine swD (λh2=>?_) λh2=>⟨_,_,rfl,out λz=>h2 (by have:=z.2;unfold wt at this;unfold tot;lia)⟩;have hb:0<wt w.1 d.2:=by unfold tot at h2;unfold wt;lia
       rw[Eh ns d.2 vs w us e3 hv ⟨h1,hb⟩]at ho;exact bad _ ho
     .rintro _ ⟨x8,x9,rfl,hv⟩;rw[sE ns d.2 hv]at ho;refine⟨.fz (.str d.1),.fz (.lst (d.2.map wT)),x8,x9,by rw[aW,aW];rfl,λds' e4=>?_⟩;have:ds'=ds:=by
       rw[e2,XG]at e4;exact(List.cons.inj (List.append_cancel_left e4)).2.symm
      rw[this,aW];exact ho
   .rintro _ ⟨x6,x7,x8,x9,rfl,hc⟩;have ho:=hc [] (by simp);refine⟨_,_,_,x6,x7,x8,x9,rfl,λcs e4=>?_⟩;have:cs=bs:=by
     rw[e,XG]at e4;exact(List.cons.inj (List.append_cancel_left e4)).2.symm
    rw[this,ha _ e];show(match jH ns [] (a.2.map iR)with|some b=>some b|none=>_)=_;rw[ho]
    rfl
  .rintro _ ⟨x3,x4,x5,x6,x7,x8,x9,rfl,ha⟩;rw[ha [] (by simp)]at q;exact q
structure Dn(nm:Θ)(rs:List R11):Prop where
 one:1<=rs.length
 five:rs.length<=5
 nms:Nms nm (rs.length+2)
 names:rs.map (·.1)=(nm.take rs.length).map L2.T.str
 drs:∀r∈rs,r.2.length<=3/\(r.2.map (·.1)).Nodup/\∀d∈r.2,Wd d.1/\d.2.length<=3/\0<tot d.2/\∀w∈d.2,w.2<=9/\w.1∈nm.take rs.length
structure Rr(s:Rat):Prop where
 bq:Bq s
 h0:0<=s
 h1:s<1
def BR:ST:=λts q=>∃ns:List Int,ts=[scT ns]/\ns.length<=100/\∀(s:Rat)(nm:Θ)(rs:List R11),Rr s->Dn nm rs->q (.fz (.tup [frR s,.lst (nm.map L2.T.str),.lst (rs.map dg)]))
theorem Nr(T:Tx D)(fM:gT 1 ur nZ z8)(kE:gT 1 nM jg qX)(jm:gT 2 nU je qZ)(uq:gT 2 wI mQ Bw)(F:Fu uM uw f fd):FT 4 f fd mL BR:=by
 refine F.okT Dg λaf A outer s H E hr nd=>?_;refine⟨_,(bh (bI 1 (bA bM aZ (bA b_ (bB fM (aY (qv 0) (aY aZ bf))) aZ)))
  (bh (bI 2 (bB uq (aY (bB fM (aY (qv 0) (aY aZ bf))) (aY (bA bM (qv 1) aZ) bf))))
  (bh (gH 3 (cZ bf))
  (bh (fP (h_ T.jM (aY (qv 1) bf)) (bQ (n:=99) 4)
  (bh (bI 6 (bB kE (aY (bA bM (bB fM (aY (qv 0) (aY (bA bM aZ (qv 4)) bf))) (bA gA (bA gA aZ (qv 4)) (qv 4))) (aY aZ bf))))
  (bh (bI 7 (bA b_ (bH (qv 6) aZ) aZ))
  (bh (bI 8 (bB uq (aY (bH (qv 6) aZ) (aY aZ bf))))
  (bh (gH 9 (cZ bf))
  (bh (fP (h_ T.jM (aY (qv 7) bf)) (bQ (n:=99) 10)
  (bh (bI 11 (bA bM aZ (bA b_ (bH (qv 6) (bA bM aZ (qv 10))) aZ)))
  (bh (Af (bw uw) Ay Ay ["_law_i"] (h_ T.jM (aY (qv 11) bf)) (n6 (i:=0)) fH (cJ (aY (bH (qv 3) (bA b_ (bH (qv 7) (bA bM (bA bM aZ (bA gA aZ (qv 11))) (qv 0))) (qv 2))) (aY (bA bM aZ (bA b_ (bH (qv 7) (bA bM (bA bM aZ (bA gA aZ (qv 11))) (qv 0))) aZ)) bf))) (uD (i:=12) Dg.nd rfl (Or.inl rfl)))
  (bx (j7 9 (cJ (aY (bH (qv 8) (qv 10)) (aY (qv 12) bf))))))))
  (bx (rE 9 (j7 3 (cJ (aY (bH (qv 2) (qv 4)) (aY (qv 9) bf))))))))))))
  (bh (bI 5 (bA bM aZ (bA b_ (bB fM (aY (qv 0) (aY aZ bf))) aZ)))
  (bx (rE 3 (bV (cJ (aY (bB jm (aY (bA b_ (bB fM (aY (qv 0) (aY aZ bf))) (qv 5)) (aY (qv 5) bf))) (aY (qv 2) (aY (qv 3) bf)))))))))))),?_⟩
 rintro _ R ⟨ns,rfl,nl,q⟩;refine sq3 (λo=>∃(m:Nat)(nm:Θ),o=[.fz (scT ns),.fz (.int (m:Nat)),.fz (.lst (nm.map L2.T.str)),.l1 [],.und,.und,.und,.und,.und,.und,.und,.und,.und]/\(1<=m/\m<=5)/\Nms nm (m+2)) ?_ λY go=>?_
 rotate_left
 .obtain⟨m,em,m1,m5⟩ : ∃m:Nat,1+ns.getD 0 0%5=(m:Nat)/\1<=m/\m<=5:=⟨(1+ns.getD 0 0%5).toNat,by lia,by lia,by lia⟩;exact⟨ns,0,rfl,nl,by decide,ns,1,rfl,nl,ns.getD 1 0,m+2,ZH (λi=>[L2.T.int (ns.getD 1 0),.int i]) (show(1+ns.getD 0 0%5)+2=((m+2:Nat):Int)by lia),by lia,λnm hn _=>go _ ⟨m,nm,by rw[<- em];rfl,⟨m1,m5⟩,hn⟩⟩
 rintro _ ⟨m,nm,rfl,⟨m1,m5⟩,hn⟩;have ht:(nm.take m).length=m:=by rw[aU,hn.len];lia
 have kG:∀i:Nat,i<m->∃n,nm[i]?=some n/\n∈nm.take m:=λi hi=>⟨(nm.take m)[i]'(by rw[ht];exact hi),by rw[List.getElem_take];exact aj _,UU _⟩;refine⟨⟨by lia,by lia⟩,pK (λk o=>∃(rs:List R11)(x4 x5 x6 x7 x8 x9 dt eP eC:OT),o=[.fz (scT ns),.fz (.int (m:Nat)),.fz (.lst (nm.map L2.T.str)),.l1 (rs.map dg),x4,x5,x6,x7,x8,x9,dt,eP,eC]/\rs.length=k/\rs.map (·.1)=(nm.take k).map L2.T.str/\∀r∈rs,r.2.length<=3/\(r.2.map (·.1)).Nodup/\∀d∈r.2,Wd d.1/\d.2.length<=3/\0<tot d.2/\∀w∈d.2,w.2<=9/\w.1∈nm.take m) ⟨[],_,_,_,_,_,_,_,_,_,rfl,rfl,rfl,λ_ z=>by cases z⟩ ?_ ?_⟩
 .rintro k _ hk ⟨rs,x4,x5,x6,x7,x8,x9,dt,eP,eC,rfl,rl,rn,hr⟩;dsimp only[hName];refine sq4 (λo=>∃(c:Int)(sz:Nat)(tm:Θ),o=[.fz (scT ns),.fz (.int (m:Nat)),.fz (.lst (nm.map L2.T.str)),.l1 (rs.map dg),.fz (.int (k:Nat)),x5,.fz (.lst ((oO c 24).map L2.T.int)),.fz (.int (sz:Nat)),.fz (.lst (tm.map L2.T.str)),.l1 [],dt,eP,eC]/\sz<=3/\Nms tm 3) ?_ λY go=>?_
  rotate_left
  .refine⟨ns,2+k,rfl,nl,⟨cC (by decide),cC (by lia)⟩,⟨cC (by lia),cC (by lia)⟩,_,24,rfl,by decide,?_⟩;dsimp only[frz];generalize ns.getD (2+k) 0+48271*(k:Int)*(k:Int)=c;have x0:=Ig c 0;obtain⟨sz,ez,hz⟩ : ∃sz:Nat,strm c 0%4=(sz:Nat)/\sz<=3:=⟨(strm c 0%4).toNat,by lia,by lia⟩;exact⟨_,jx (k:=0),by decide,_,jx (k:=1),strm c 1,3,rfl,by decide,λtm g6 _=>go _ ⟨c,sz,tm,by rw[<- ez];rfl,hz,g6⟩⟩
  rintro _ ⟨c,sz,tm,rfl,hz,g6⟩;refine⟨⟨by lia,by lia⟩,pK (λj o=>∃(ds:List D11)(dt eP eC:OT),o=[.fz (scT ns),.fz (.int (m:Nat)),.fz (.lst (nm.map L2.T.str)),.l1 (rs.map dg),.fz (.int (k:Nat)),x5,.fz (.lst ((oO c 24).map L2.T.int)),.fz (.int (sz:Nat)),.fz (.lst (tm.map L2.T.str)),.l1 (ds.map fY),dt,eP,eC]/\ds.length=j/\ds.map (·.1)=tm.take j/\∀d∈ds,Wd d.1/\d.2.length<=3/\0<tot d.2/\∀w∈d.2,w.2<=9/\w.1∈nm.take m) ⟨[],_,_,_,rfl,rfl,rfl,λ_ z=>by cases z⟩ ?_ ?_⟩
  .rintro j _ hj ⟨ds,dt,eP,eC,rfl,dl,dn,hd⟩;have hj:j<sz:=by lia
   have ej:tm[j]?=some (tm[j]'(by rw[g6.len];exact aO hj hz)):=aj _;generalize tm[j]'(by rw[g6.len];exact aO hj hz)=tj at ej;obtain⟨bz,et,h1,h3⟩ : ∃bz:Nat,1+strm c (2+j)%3=(bz:Nat)/\1<=bz/\bz<=3:=⟨(1+strm c (2+j)%3).toNat,by lia,by lia,by lia⟩;refine sq1 (λo=>o=[.fz (scT ns),.fz (.int (m:Nat)),.fz (.lst (nm.map L2.T.str)),.l1 (rs.map dg),.fz (.int (k:Nat)),x5,.fz (.lst ((oO c 24).map L2.T.int)),.fz (.int (sz:Nat)),.fz (.lst (tm.map L2.T.str)),.l1 (ds.map fY),.fz (.int (j:Nat)),.fz (.int (bz:Nat)),eC]) ?_ λY go=>?_
   rotate_left
   .exact⟨_,jx (k:=2+j) (by lia),by decide,go _ (by rw[<- et];rfl)⟩
   rintro _ rfl
   let wf:Nat->Str×Nat:=λi=>(nm.getD (strm c (6+3*j+i)%(m:Nat)).toNat ⟨#[]⟩,(1+strm c (15+3*j+i)%9).toNat)
   refine⟨⟨by lia,by lia⟩,by rw[rng,ak,X2];exact aJ (show _<=3 by lia) (by decide),pZ (λi=>wT (wf i)) bz (λi hi N M hN=>?_) ?_⟩
   .have r0:=Z3 (strm c (6+3*j+i)) (show((m:Nat):Int)≠0 by lia);have r1:=YY (strm c (6+3*j+i)) (show(0:Int)<(m:Nat)by lia);obtain⟨n,en,_⟩:=kG (strm c (6+3*j+i)%(m:Nat)).toNat (by lia);have ew:wf i=(n,(1+strm c (15+3*j+i)%9).toNat):=by
     show(nm.getD _ _,_)=_;rw[U1,en];rfl
    rw[ew]at hN;have ix:ixT (nm.map L2.T.str) (strm c (6+3*j+i)%(m:Nat))=some (.str n):=by
     have:=gD (h:=L2.T.str) en;rwa[Int.toNat_of_nonneg r0]at this
    have e9:(((1+strm c (15+3*j+i)%9).toNat:Nat):Int)=1+strm c (15+3*j+i)%9:=by lia
    rw[show wT (n,(1+strm c (15+3*j+i)%9).toNat)=.tup [.str n,.int (1+strm c (15+3*j+i)%9)]by show L2.T.tup [_,.int (((1+strm c (15+3*j+i)%9).toNat:Nat):Int)]=_;rw[e9]]at hN;exact⟨⟨cC (by decide),cC (by lia)⟩,_,jx (k:=6+3*j+i) (by lia),by exact Int.lt_of_le_of_lt r0 r1,_,ix,⟨cC (by decide),cC (by lia)⟩,_,jx (k:=15+3*j+i) (by lia),by decide,hN⟩
   .refine⟨_,gD (h:=L2.T.str) ej,by rw[ak];exact Y3 (show _<=3 by lia) (by decide),ds++[(tj,(List.range bz).map wf)],.fz (.int (j:Nat)),.fz (.int (bz:Nat)),.fz (.lst (((List.range bz).map wf).map wT)),?_,by rw[au,dl];rfl,?_,λd aw=>?_⟩
    .rw[aW,X0];show _=[_,_,_,_,_,_,_,_,_,OT.l1 (_++[L2.T.tup [.str tj,.lst (((List.range bz).map wf).map wT)]]),_,_,_];rw[X0]
     rfl
    .rw[aW,dn,List.take_add_one,ej];rfl
    .rcases Y1.mp aw with z|z
     .exact hd d z
     .cases YR.mp z;refine⟨g6.wd _ (aA ej),by rw[ak,X2];exact h3,?_,λw hw=>?_⟩
      .have:(wf 0).2<=tot ((List.range bz).map wf):=Ba (YV.mpr ⟨0,List.mem_range.mpr (aO (XW _) h1),rfl⟩);have:1<=(wf 0).2:=by show 1<=(1+strm c (15+3*j+0)%9).toNat;lia
       show 0<tot ((List.range bz).map wf);omega
      .obtain⟨i,hi,rfl⟩:=YV.mp hw;refine⟨by show(1+strm c (15+3*j+i)%9).toNat<=9;lia,?_⟩;have r0:=Z3 (strm c (6+3*j+i)) (show((m:Nat):Int)≠0 by lia);have r1:=YY (strm c (6+3*j+i)) (show(0:Int)<(m:Nat)by lia);obtain⟨n,en,hm⟩:=kG (strm c (6+3*j+i)%(m:Nat)).toNat (by lia);show nm.getD _ _∈_;rw[U1,en];exact hm
  .rintro _ ⟨ds,dt,eP,eC,rfl,dl,dn,hd⟩;obtain⟨n,en,hm⟩:=kG k (by lia);refine⟨_,gD (h:=L2.T.str) en,by rw[ak];exact Y3 (show _<=5 by lia) (by decide),rs++[(.str n,ds)],.fz (.int (k:Nat)),x5,.fz (.lst ((oO c 24).map L2.T.int)),.fz (.int (sz:Nat)),.fz (.lst (tm.map L2.T.str)),.fz (.lst (ds.map fY)),dt,eP,eC,by rw[aW];rfl,by rw[au,rl];rfl,?_,λr kR=>?_⟩
   .rw[aW,rn,List.take_add_one,en,aW];rfl
   .rcases Y1.mp kR with z|z
    .exact hr r z
    .cases YR.mp z;exact⟨by rw[dl];lia,by rw[dn];exact g6.nd.sublist (List.take_sublist ..),hd⟩
 .rintro _ ⟨rs,x4,x5,x6,x7,x8,x9,dt,eP,eC,rfl,rl,rn,hr⟩;have b0:(0:Int)<2+ns.getD 7 0%99:=by lia
  have b1:2+ns.getD 7 0%99<=100:=by lia
  refine⟨ns,7,rfl,nl,by decide,ns,8,rfl,nl,b0,_,_,rfl,b0,cC (by lia),?_⟩;generalize 2+ns.getD 7 0%99=b at b0 b1;have a0:=Z3 (ns.getD 8 0) (show b≠0 by exact X1 b0);have a1:=YY (ns.getD 8 0) b0;generalize ns.getD 8 0%b=a at a0 a1;obtain⟨z1,z2⟩:=div_pos (a:=a) b0;obtain⟨y1,y2⟩:=vV a0 a1;subst rl;exact q _ nm rs ⟨⟨cC (by lia),cC (by lia)⟩,y1,y2⟩ ⟨m1,m5,hn,rn,hr⟩
structure RB(n:Nat)(rs:List R11):Prop where
 one:1<=rs.length
 five:rs.length<=5
 wd:∀r∈rs,(wdT r.1).isSome
 drs:∀r∈rs,r.2.length<=3/\∀d∈r.2,Wd d.1/\d.2.length<=n/\0<tot d.2/\∀w∈d.2,w.2<=9/\Wd w.1
theorem RB.mono{n m:Nat}{rs:List R11}(h:RB n rs)(le:n<=m):RB m rs:=⟨h.one,h.five,h.wd,λr hr=>⟨(h.drs r hr).1,λd hd=>let⟨a,b,c⟩:=(h.drs r hr).2 d hd;⟨a,aJ b le,c⟩⟩⟩
theorem RB.k{n:Nat}{rs:List R11}(h:RB n rs)(le:n<=40):Vk rs:=⟨by have:=h.five;exact aJ this (by decide),h.wd,λr hr=>⟨by have:=(h.drs r hr).1;exact aJ this (by decide),λd hd=>let⟨a,b,c,e⟩:=(h.drs r hr).2 d hd;⟨a,by exact aJ b le,λw hw=>(e w hw).2,λw hw=>(e w hw).1,c⟩⟩⟩
theorem nW(as bs:WP):tot (as++bs)=tot as+tot bs:=by unfold tot;rw[aW,List.sum_append]
theorem nJ{α:Type}(l:List α){n:Nat}(h:n<=l.length):eU l (some (n:Int)) none=l.drop n:=by
 unfold eU;show(l.drop (HT.sIx l.length 0 (some (n:Int)))).take (l.length-HT.sIx l.length 0 (some (n:Int)))=_;rw[HT.nH,Nat.min_eq_left h];exact UQ (by rw[WS];exact aD _)
theorem pN{α:Type}(h:α->L2.T)(l:List α){k:Nat}(hk:k<l.length)(a:α):eU (l.map h) none (some (k:Int))++[h a]++eU (l.map h) (some ((k:Int)+1)) none=(l.take k++[a]++l.drop (k+1)).map h:=by
 have:((k:Int)+1)=((k+1:Nat):Int):=by lia
 rw[this,eG,eG,kO,nJ l hk,aW,aW];rfl
theorem iZ{α:Type}{l:List α}{k:Nat}{a x:α}(h:x∈l.take k++[a]++l.drop (k+1)):x∈l\/x=a:=by
 rcases Y1.mp h with h|h
 .rcases Y1.mp h with h|h
  .exact .inl (WG h)
  .exact .inr (YR.mp h)
 .exact .inl (List.mem_of_mem_drop h)
theorem gk{α:Type}{l:List α}{k:Nat}{a:α}(h:k<l.length):(l.take k++[a]++l.drop (k+1)).length=l.length:=by
 simp only[au,aU,WS,List.length_singleton];lia
def uO:ST:=λts q=>∃(n:Nat)(rs:List R11)(c:Int)(x:Str),ts=[.lst (rs.map dg),.int c,.str x]/\RB n rs/\n<=20/\Wd x/\∀cb,RB (n+2) cb->cb.length=rs.length->q (.fz (.lst (cb.map dg)))/\q (.l1 (cb.map dg))
theorem Gf(T:Tx D)(F:Fu oY rA f fd):FT 2 f fd jE uO:=by
 refine F.okT Er λaf A outer s H E hr nd=>?_;refine⟨_,(bh (bI 3 (bA b_ (qv 1) (bT jZ T.jB WZ (aY (qv 0) bf))))
  (bh (A_ (bH (qv 0) (qv 3)) (gP (n:=2) (bN (bQ (n:=99) 8) (bN (bQ (n:=99) 7) dU))))
  (bh (cQ (cj (go_eq hr.units) (bT jZ T.jB WZ (aY (qv 7) bf)) aZ)
  (bx (bV (qv 0)))
  bU)
  (bh (bI 4 (bA b_ (bA dY (qv 1) aZ) (bT jZ T.jB WZ (aY (qv 7) bf))))
  (bh (bI 5 (bA b_ (bA dY (qv 1) aZ) (bA bM (bT jZ T.jB WZ (aY (bH (bH (qv 7) (qv 4)) aZ) bf)) aZ)))
  (bh (gH 6 (bA bM (bA bM (cG (bH (bH (qv 7) (qv 4)) aZ) dI (cN (qv 5))) (cZ (aY (cJ (aY (qv 2) (aY (bA b_ (bA dY (qv 1) aZ) aZ) bf))) bf))) (cG (bH (bH (qv 7) (qv 4)) aZ) (cN (qv 5)) dI)))
  (bh (cQ (cj (go_eq hr.units) (bA b_ (bA dY (qv 1) aZ) aZ) aZ)
  (bx (j7 6 (cJ (aY (qv 2) (aY aZ bf)))))
  bU)
  (bh (rE 6 (bI 7 (bA bM (bA bM (cG (qv 7) dI (cN (qv 4))) (cZ (aY (cJ (aY (bH (bH (qv 7) (qv 4)) aZ) (aY (qv 6) bf))) bf))) (cG (qv 7) (cN (bA bM (qv 4) aZ)) dI))))
  (bx (bV (bA bM (bA bM (cG (qv 0) dI (cN (qv 3))) (cZ (aY (cJ (aY (qv 8) (aY (qv 7) bf))) bf))) (cG (qv 0) (cN (bA bM (qv 3) aZ)) dI)))))))))))),?_⟩
 rintro _ R ⟨n,rs,c,x,rfl,hb,hn,hx,q⟩;have lr:(rs.map dg).length=rs.length:=ak ..;have l1:=hb.one;have l5:=hb.five;obtain⟨k,ek,hk⟩ : ∃k:Nat,c%((rs.map dg).length:Nat)=(k:Nat)/\k<rs.length:=⟨(c%((rs.map dg).length:Nat)).toNat,by have:=Z3 c (show(((rs.map dg).length:Nat):Int)≠0 by lia);lia,by have:=YY c (show(0:Int)<((rs.map dg).length:Nat)by lia);lia⟩;refine sq1 (λo=>o=[.fz (.lst (rs.map dg)),.fz (.int c),.fz (.str x),.fz (.int (k:Nat)),.und,.und,.und,.und,.und]) ?_ λY go=>?_
 rotate_left
 .exact⟨by lia,go _ (by rw[<- ek];rfl)⟩
 rintro _ rfl;have er:=aj hk;have mr:=UU hk;generalize rs[k]=r at er mr;obtain⟨d3,hd⟩:=hb.drs r mr;have ld:(r.2.map fY).length=r.2.length:=ak ..;refine⟨_,gD (h:=dg) er,rfl,swD (λh=>(q rs (hb.mono (XV _ _)) rfl).1) λh=>?_⟩;have d0:0<r.2.length:=by lia
 obtain⟨j,ej,hj⟩ : ∃j:Nat,c.fdiv 5%((r.2.map fY).length:Nat)=(j:Nat)/\j<r.2.length:=⟨(c.fdiv 5%((r.2.map fY).length:Nat)).toNat,by have:=Z3 (c.fdiv 5) (show(((r.2.map fY).length:Nat):Int)≠0 by omega);lia,by have:=YY (c.fdiv 5) (show(0:Int)<((r.2.map fY).length:Nat)by lia);omega⟩;refine sq2 (λo=>o=[.fz (.lst (rs.map dg)),.fz (.int c),.fz (.str x),.fz (.int (k:Nat)),.fz (.int (j:Nat)),.und,.und,.fz (.lst (r.2.map fY)),.fz r.1]) ?_ λY go=>?_
 rotate_left
 .exact⟨⟨by decide,cC (by decide)⟩,by lia,go _ (by rw[<- ej];rfl)⟩
 rintro _ rfl;have ed:=aj hj;have md:=UU hj;generalize r.2[j]=d at ed md;obtain⟨wd,dl,dp,dw⟩:=hd d md;have lw:(d.2.map wT).length=d.2.length:=ak ..;obtain⟨a,ea,ha⟩ : ∃a:Nat,c.fdiv 15%(((d.2.map wT).length:Nat)+1)=(a:Nat)/\a<=d.2.length:=⟨(c.fdiv 15%(((d.2.map wT).length:Nat)+1)).toNat,by have:=Z3 (c.fdiv 15) (show(((d.2.map wT).length:Nat):Int)+1≠0 by lia);lia,by have:=YY (c.fdiv 15) (show(0:Int)<((d.2.map wT).length:Nat)+1 by exact Int.lt_add_one_of_le (XT _));lia⟩;refine sq1 (λo=>o=[.fz (.lst (rs.map dg)),.fz (.int c),.fz (.str x),.fz (.int (k:Nat)),.fz (.int (j:Nat)),.fz (.int (a:Nat)),.und,.fz (.lst (r.2.map fY)),.fz r.1]) ?_ λY go=>?_
 rotate_left
 .exact⟨⟨by decide,cC (by decide)⟩,_,gD (h:=fY) ed,by exact Int.lt_add_one_of_le (XT _),go _ (by rw[<- ea];rfl)⟩
 rintro _ rfl;refine sq2 (λo=>∃ps:WP,o=[.fz (.lst (rs.map dg)),.fz (.int c),.fz (.str x),.fz (.int (k:Nat)),.fz (.int (j:Nat)),.fz (.int (a:Nat)),.l1 (ps.map wT),.fz (.lst (r.2.map fY)),.fz r.1]/\ps.length<=n+2/\0<tot ps/\∀w∈ps,w.2<=9/\Wd w.1) ?_ λY go=>?_
 rotate_left
 .obtain⟨e,ee,he⟩ : ∃e:Nat,c.fdiv 60%2=(e:Nat)/\e<=1:=⟨(c.fdiv 60%2).toNat,by lia,by lia⟩;have l1:(eU (d.2.map wT) none (some (a:Int))).length<=20:=by rw[eG,kO,ak,aU];lia
  have l2:(eU (d.2.map wT) (some (a:Int)) none).length<=20:=by rw[eG,nJ _ ha,ak,WS];lia
  have eq:eU (d.2.map wT) none (some (a:Int))++[L2.T.tup [.str x,.int (c.fdiv 60%2)]]++eU (d.2.map wT) (some (a:Int)) none=(d.2.take a++[(x,e)]++d.2.drop a).map wT:=by
   rw[eG,eG,kO,nJ _ ha,aW,aW,ee];rfl
  have ql:(d.2.take a++[(x,e)]++d.2.drop a).length=d.2.length+1:=by simp only[au,aU,WS,List.length_singleton];lia
  have qt:0<tot (d.2.take a++[(x,e)]++d.2.drop a):=by
   have:tot d.2=tot (d.2.take a)+tot (d.2.drop a):=by rw[<- nW,List.take_append_drop]
   rw[nW,nW];lia
  have qw:∀w∈d.2.take a++[(x,e)]++d.2.drop a,w.2<=9/\Wd w.1:=λw hw=>by
   rcases Y1.mp hw with z|z
   .rcases Y1.mp z with z|z
    .exact dw w (WG z)
    .cases YR.mp z;exact⟨by show e<=9;exact aJ he (by decide),hx⟩
   .exact dw w (List.mem_of_mem_drop z)
  refine⟨_,gD (h:=fY) ed,⟨by decide,cC (by decide)⟩,by decide,by show _+1<=sizeLine;exact aJ (show _<=40 by lia) (by decide),_,gD (h:=fY) ed,?_⟩;refine⟨aJ (show _<=60 by simp only[au,List.length_cons,List.length_nil];lia) (by decide),⟨by decide,cC (by decide)⟩,by decide,swD (λh=>?_) λh=>go _ ⟨d.2.take a++[(x,e)]++d.2.drop a,by rw[<- eq];rfl,by lia,qt,qw⟩⟩;refine⟨Y3 (show _<=60 by simp only[au,List.length_cons,List.length_nil];lia) (by decide),go _ ⟨d.2.take a++[(x,e)]++d.2.drop a++[(x,1)],by rw[aW,<- eq];rfl,by rw[au,ql];show d.2.length+1+1<=_;exact Nat.succ_le_succ (Nat.succ_le_succ dl),by rw[nW];exact Nat.lt_add_right _ qt,λw hw=>?_⟩⟩;rcases Y1.mp hw with z|z
  .exact qw w z
  .cases YR.mp z;exact⟨by show 1<=9;decide,hx⟩
 rintro _ ⟨ps,rfl,pl,pp,pw⟩;have l1:(eU (r.2.map fY) none (some (j:Int))).length<=20:=by rw[eG,kO,ak,aU];lia
 have l2:(eU (r.2.map fY) (some ((j:Int)+1)) none).length<=20:=by
  rw[show((j:Int)+1)=((j+1:Nat):Int)by lia,eG,nJ _ hj,ak,WS];omega
 have l3:(eU (rs.map dg) none (some (k:Int))).length<=20:=by rw[eG,kO,ak,aU];lia
 have l4:(eU (rs.map dg) (some ((k:Int)+1)) none).length<=20:=by
  rw[show((k:Int)+1)=((k+1:Nat):Int)by lia,eG,nJ _ hk,ak,WS];omega
 have p1:=pN fY r.2 hj (d.1,ps);have dl':=gk (a:=((d.1,ps):D11)) hj;have aw:∀y∈r.2.take j++[((d.1,ps):D11)]++r.2.drop (j+1),Wd y.1/\y.2.length<=n+2/\0<tot y.2/\∀w∈y.2,w.2<=9/\Wd w.1:=λy hy=>by
  rcases iZ hy with z|rfl
  .obtain⟨a1,a2,a3⟩:=hd y z;exact⟨a1,by exact aJ a2 (XV _ _),a3⟩
  .exact⟨wd,pl,pp,pw⟩
 have p2:=pN dg rs hk ((r.1,r.2.take j++[((d.1,ps):D11)]++r.2.drop (j+1)):R11);have cf:∀(xs:List L2.T)(y:L2.T),xs.length<=20->xs.length+[y].length<=sizeLine:=λxs y h=>aJ (show _<=60 by simp only[List.length_cons,List.length_nil];exact aJ (Nat.succ_le_succ h) (by decide)) (by decide);have du:∀(xs zs:List L2.T)(y:L2.T),xs.length<=20->zs.length<=20->(xs++[y]).length+zs.length<=sizeLine:=λxs zs y h h'=>aJ (show _<=60 by simp only[au,List.length_cons,List.length_nil];lia) (by decide);refine⟨_,gD (h:=fY) ed,cf _ _ l1,du _ _ _ l1 l2,cf _ _ l3,du _ _ _ l3 l4,?_⟩;have am:=(q (rs.take k++[((r.1,r.2.take j++[((d.1,ps):D11)]++r.2.drop (j+1)):R11)]++rs.drop (k+1)) ⟨by rw[gk hk];omega,by rw[gk hk];exact l5,λy hy=>?_,λy hy=>?_⟩ (gk hk)).2
 .rw[<- p2]at am;unfold dg at am;dsimp only at am;rw[<- p1]at am;exact am
 .rcases iZ hy with z|rfl
  .exact hb.wd y z
  .exact hb.wd r mr
 .rcases iZ hy with z|rfl
  .obtain⟨a1,a2⟩:=hb.drs y z;exact⟨a1,λd hd=>let⟨b1,b2,b3⟩:=a2 d hd;⟨b1,by exact aJ b2 (XV _ _),b3⟩⟩
  .exact⟨by rw[dl'];exact d3,aw⟩
theorem mZ{X:Cx} : Dm X [] RQ:=⟨bU⟩
theorem vK{X:Cx}{c:Expr}{ss ts:List Stmt}{qc:RT}{a b:RS}{pos:Pos}(hc:QT X c qc)(ha:Dm X ss a)(hb:Dm X ts b):QSB X (.If c ss ts pos) (XF qc a b):=⟨cQ hc ha.out hb.out⟩
theorem VL{n:Str}(h:Wd n):wdT (.str n)=some true:=by
 show(if n.length<=1000 then some (d8 n.cps.toList)else none)=_;rw[ZY (aJ h.len.2 (by decide)),show d8 n.cps.toList=true from h]
def uX:ST:=λts q=>∃(ns:List Int)(s:Rat)(nm:Θ)(rs:List R11),ts=[scT ns,frR s,.lst (nm.map L2.T.str),.lst (rs.map dg)]/\ns.length<=100/\Rr s/\Dn nm rs/\∀(t:L2.T)(b:Bool)(cb:List R11),ShX t b->RB 10 cb->q (.fz (.tup [t,.lst (cb.map dg)]))
theorem Dn.rb{nm:Θ}{rs:List R11}(h:Dn nm rs):RB 3 rs:=by
 have wn:∀n∈nm.take rs.length,Wd n:=λn hn=>h.nms.wd n (WG hn);refine⟨h.one,h.five,λr hr=>?_,λr hr=>?_⟩
 .have:r.1∈(nm.take rs.length).map L2.T.str:=h.names ▸ YV.mpr ⟨r,hr,rfl⟩;obtain⟨n,hn,e⟩:=YV.mp this;rw[<- e,VL (wn n hn)];rfl
 .obtain⟨d3,_,hd⟩:=h.drs r hr;exact⟨d3,λd aw=>let⟨a,b,c,e⟩:=hd d aw;⟨a,b,c,λw hw=>⟨(e w hw).1,wn _ (e w hw).2⟩⟩⟩
theorem Pz(x y:Int)(hx:Bd x)(hy:Bd y):∃b,ShX (.tup [.int x,.int y]) b:=by
 by_cases h:1<=y/\Int.gcd x y=1
 .obtain⟨h1,h2⟩:=h;have e:L2.T.tup [.int x,.int y]=frR ⟨x,y.toNat,by lia,by unfold Int.gcd at h2;rw[show y.toNat=y.natAbs by lia];exact h2⟩:=by
   show _=L2.T.tup [.int x,.int (y.toNat:Nat)];rw[show((y.toNat:Nat):Int)=y by lia]
  rw[e];exact⟨_,.q ⟨hx,by show Bd ((y.toNat:Nat):Int);rw[show((y.toNat:Nat):Int)=y by lia];exact hy⟩⟩
 .exact⟨_,.bad h⟩
theorem Kf(c:Int):∃t b,ixT [L2.T.tup [.int 1,.int 1],.tup [.int (-1),.int 2],.tup [.int 3,.int 2],.int 0,.str (Str.ofString "1/2"),.non,.tup [.int 2,.int 4],.lst [.int 1,.int 2],.tup [.int 0,.int 2],.tup [.bl true,.int 2],.tup [.int 1,.int 0]] (c%11)=some t/\ShX t b:=by
 have sm:∀x y:Int,x.natAbs<10->y.natAbs<10->∃b,ShX (.tup [.int x,.int y]) b:=λx y hx hy=>Pz x y (cC (WJ hx (by decide))) (cC (WJ hy (by decide)));have mk:∀{t:L2.T}{o:Option L2.T},o=some t->(∃b,ShX t b)->∃t b,o=some t/\ShX t b:=λe hP=>by obtain⟨b,h⟩:=hP;exact⟨_,b,e,h⟩
 obtain e|e|e|e|e|e|e|e|e|e|e:c%11=0\/c%11=1\/c%11=2\/c%11=3\/c%11=4\/c%11=5\/c%11=6\/c%11=7\/c%11=8\/c%11=9\/c%11=10:=by lia
 .exact mk (by rw[e];rfl) (sm 1 1 (by decide) (by decide))
 .exact mk (by rw[e];rfl) (sm (-1) 2 (by decide) (by decide))
 .exact mk (by rw[e];rfl) (sm 3 2 (by decide) (by decide))
 .exact mk (by rw[e];rfl) ⟨_,.int 0⟩
 .exact mk (by rw[e];rfl) ⟨_,.str _⟩
 .exact mk (by rw[e];rfl) ⟨_,.non⟩
 .exact mk (by rw[e];rfl) (sm 2 4 (by decide) (by decide))
 .exact mk (by rw[e];rfl) ⟨_,.lst _⟩
 .exact mk (by rw[e];rfl) (sm 0 2 (by decide) (by decide))
 .exact mk (by rw[e];rfl) ⟨_,.bl true 2⟩
 .exact mk (by rw[e];rfl) (sm 1 0 (by decide) (by decide))
theorem names11{x:Str}(hx:Wd x)(c:Int):∃t,ixT [L2.T.str (Str.ofString ""),.str (Str.ofString "Ab"),.str (Str.ofString "abcdefghi"),.int 7,.non,.lst [.str (Str.ofString "a")],.str (Str.ofString "a b"),.str (Str.ofString "x1"),.str x] (c%9)=some t/\(wdT t).isSome:=by
 obtain e|e|e|e|e|e|e|e|e:c%9=0\/c%9=1\/c%9=2\/c%9=3\/c%9=4\/c%9=5\/c%9=6\/c%9=7\/c%9=8:=by lia
 .exact⟨_,by rw[e];rfl,by decide +kernel⟩
 .exact⟨_,by rw[e];rfl,by decide +kernel⟩
 .exact⟨_,by rw[e];rfl,by decide +kernel⟩
 .exact⟨_,by rw[e];rfl,rfl⟩
 .exact⟨_,by rw[e];rfl,rfl⟩
 .exact⟨_,by rw[e];rfl,rfl⟩
 .exact⟨_,by rw[e];rfl,by decide +kernel⟩
 .exact⟨_,by rw[e];rfl,by decide +kernel⟩
 .exact⟨_,by rw[e];rfl,by rw[VL hx];rfl⟩
abbrev o11(ns:List Int)(t:L2.T)(nm:Θ)(rs:List R11)(c:Int)(m:Nat)(x6 x7 x8 x9:OT):List OT:=[.fz (scT ns),.fz t,.fz (.lst (nm.map L2.T.str)),.fz (.lst (rs.map dg)),.fz (.int c),.fz (.int (m:Nat)),x6,x7,x8,x9]
theorem Fg(T:Tx D)(fM:gT 1 ur nZ z8)(nO:gT 2 oY jE uO)(F:Fu oV qN f fd):FT 3 f fd jw uX:=by
 refine F.okT pB λaf A outer s H E hr nd=>?_;refine⟨_,(Dm.out (bY (dH (bI 4 (bB fM (aY (qv 0) (aY aZ bf)))))
  (bY (dH (bI 5 (bT jZ T.jB WZ (aY (qv 3) bf))))
  (bY (vK (cj (go_eq hr.units) (bA b_ (qv 4) aZ) aZ)
  (bY (zF 7 pB.nd (Or.inl rfl) (pI (bC (lF (bC bZ (bC bZ gj))) (bC (lF (bC (g_ (zy aZ)) (bC bZ gj))) (bC (lF (bC bZ (bC bZ gj))) (bC bZ (bC (g_ fj) (bC (g_ jo) (bC (lF (bC bZ (bC bZ gj))) (bC (pI (bC bZ (bC bZ gj))) (bC (lF (bC bZ (bC bZ gj))) (bC (lF (bC (g_ jT) (bC bZ gj))) (bC (lF (bC bZ (bC bZ gj))) gj)))))))))))))
  (ji (dH (bI 1 (bH (qv 7) (bA b_ (bB fM (aY (qv 0) (aY aZ bf))) aZ))))))
  mZ)
  (bY (vK (cj (go_eq hr.units) (bA b_ (bA dY (qv 4) aZ) aZ) aZ)
  (ji (dH (bI 3 (bB nO (aY (qv 3) (aY (bB fM (aY (qv 0) (aY aZ bf))) (aY (bH (qv 2) (qv 5)) bf)))))))
  mZ)
  (bY (vK (cj (go_eq hr.units) (bA b_ (bA dY (qv 4) aZ) aZ) aZ)
  (ji (dH (bI 3 (bB nO (aY (qv 3) (aY (bB fM (aY (qv 0) (aY aZ bf))) (aY (bH (qv 2) (bA bM (qv 5) aZ)) bf)))))))
  mZ)
  (bY (dH (bI 6 (bA b_ (bB fM (aY (qv 0) (aY aZ bf))) (qv 5))))
  (bY (vK (QW.qt (vO (cj (go_eq hr.units) (bA b_ (bA dY (qv 4) aZ) aZ) aZ) (uz (cj Dw (bT jZ T.jB WZ (aY (bH (bH (qv 3) (qv 6)) aZ) bf)) aZ))))
  (bY (dH (gH 8 (nR Hj T.GP boot_list (aY (bH (bH (qv 3) (qv 6)) aZ) bf))))
  (bY (dH (TV 8 (cJ (aY (bH (Lh 8 aZ) aZ) (aY (bA bM (bH (Lh 8 (zy aZ)) aZ) (cZ (aY (cJ (aY (bH (qv 2) (bA bM (qv 5) aZ)) (aY (bA b_ (bA dY (qv 4) aZ) aZ) bf))) bf))) bf))) (zy aZ)))
  (ji (dH (rE 8 (bI 3 (bA bM (bA bM (cG (qv 3) dI (cN (qv 6))) (cZ (aY (cJ (aY (bH (bH (qv 3) (qv 6)) aZ) (aY (qv 8) bf))) bf))) (cG (qv 3) (cN (bA bM (qv 6) aZ)) dI))))))))
  mZ)
  (bY (dH (bI 6 (bA b_ (bB fM (aY (qv 0) (aY aZ bf))) (qv 5))))
  (bY (vK (cj (go_eq hr.units) (bA b_ (bA dY (qv 4) aZ) aZ) aZ)
  (bY (zF 7 pB.nd (Or.inl rfl) (pI (bC (g_ fj) (bC (g_ fj) (bC (g_ fj) (bC bZ (bC (g_ jo) (bC (pI (bC (g_ fj) gj)) (bC (g_ fj) (bC (g_ fj) (bC (g_ (bH (qv 2) aZ)) gj)))))))))))
  (bY (dH (bI 9 (bH (qv 7) (bA b_ (bA dY (bB fM (aY (qv 0) (aY aZ bf))) aZ) aZ))))
  (ji (dH (bI 3 (bA bM (bA bM (cG (qv 3) dI (cN (qv 6))) (cZ (aY (cJ (aY (qv 9) (aY (bH (bH (qv 3) (qv 6)) aZ) bf))) bf))) (cG (qv 3) (cN (bA bM (qv 6) aZ)) dI)))))))
  mZ)
  (ji (dH (bV (cJ (aY (qv 1) (aY (qv 3) bf)))))))))))))))),?_⟩
 rintro _ R ⟨ns,s,nm,rs,rfl,nl,hs,hd,q⟩;have m1:=hd.one;have m5:=hd.five;have ln:nm.length=rs.length+2:=hd.nms.len;obtain⟨na,ea⟩ : ∃x,nm[rs.length]?=some x:=⟨_,aj (by lia)⟩;obtain⟨nb,eb⟩ : ∃x,nm[rs.length+1]?=some x:=⟨_,aj (by lia)⟩;have wa:=hd.nms.wd na (aA ea);have wb:=hd.nms.wd nb (aA eb);have hb:=hd.rb;have hd0:=hd.nms.wd
 clear hd
 refine sq3 (λo=>∃(t:L2.T)(b:Bool)(c:Int)(x7:OT),o=o11 ns t nm rs c rs.length .und x7 .und .und/\ShX t b) ?_ λY go=>?_
 rotate_left
 .refine⟨ns,9,rfl,nl,by decide,swD (λh=>?_) λh=>go _ ⟨_,_,ns.getD 9 0,.und,(by rw[<- ak (as:=rs) (f:=dg)];rfl),.q hs.bq⟩⟩;obtain⟨t,b,et,ht⟩:=Kf (ns.getD 10 0);exact⟨ns,10,rfl,nl,by decide,t,et,go _ ⟨t,b,ns.getD 9 0,_,(by rw[<- ak (as:=rs) (f:=dg)];rfl),ht⟩⟩
 rintro _ ⟨t,b,c,x7,rfl,ht⟩;refine sq1 (λo=>∃g4,o=o11 ns t nm g4 c rs.length .und x7 .und .und/\RB 5 g4/\g4.length=rs.length) ?_ λY go=>?_
 rotate_left
 .refine⟨⟨by decide,cC (by decide)⟩,by decide,swD (λh=>?_) λh=>go _ ⟨rs,rfl,hb.mono (by decide),rfl⟩⟩;exact⟨ns,11,rfl,nl,_,gD (h:=L2.T.str) ea,3,rs,ns.getD 11 0,na,rfl,hb,by decide,wa,λcb h1 h2=>⟨go _ ⟨cb,rfl,h1,h2⟩,go _ ⟨cb,rfl,h1,h2⟩⟩⟩
 rintro _ ⟨g4,rfl,hb1,l1⟩;refine sq1 (λo=>∃b5,o=o11 ns t nm b5 c rs.length .und x7 .und .und/\RB 7 b5/\b5.length=rs.length) ?_ λY go=>?_
 rotate_left
 .refine⟨⟨by decide,cC (by decide)⟩,by decide,swD (λh=>?_) λh=>go _ ⟨g4,rfl,hb1.mono (by decide),l1⟩⟩;exact⟨ns,12,rfl,nl,_,gD (h:=L2.T.str) eb,5,g4,ns.getD 12 0,nb,rfl,hb1,by decide,wb,λcb h1 h2=>⟨go _ ⟨cb,rfl,h1,h2.trans l1⟩,go _ ⟨cb,rfl,h1,h2.trans l1⟩⟩⟩
 rintro _ ⟨b5,rfl,dv,l2⟩;have kk:∀i:Nat,∃k:Nat,ns.getD i 0%(rs.length:Nat)=(k:Nat)/\k<rs.length:=λi=>⟨(ns.getD i 0%(rs.length:Nat)).toNat,by have:=Z3 (ns.getD i 0) (show((rs.length:Nat):Int)≠0 by lia);lia,by have:=YY (ns.getD i 0) (show(0:Int)<(rs.length:Nat)by lia);lia⟩;refine sq1 (λo=>∃k:Nat,o=o11 ns t nm b5 c rs.length (.fz (.int (k:Nat))) x7 .und .und/\k<rs.length) ?_ λY go=>?_
 rotate_left
 .obtain⟨k,ek,hk⟩:=kk 13;exact⟨ns,13,rfl,nl,by lia,go _ ⟨k,by rw[<- ek];rfl,hk⟩⟩
 rintro _ ⟨k,rfl,hk⟩;have cf:∀(xs:List L2.T)(y:L2.T),xs.length<=20->xs.length+[y].length<=sizeLine:=λxs y h=>aJ (show _<=60 by simp only[List.length_cons,List.length_nil];exact aJ (Nat.succ_le_succ h) (by decide)) (by decide);have du:∀(xs zs:List L2.T)(y:L2.T),xs.length<=20->zs.length<=20->(xs++[y]).length+zs.length<=sizeLine:=λxs zs y h h'=>aJ (show _<=60 by simp only[au,List.length_cons,List.length_nil];lia) (by decide);have cl:∀(rs:List R11)(k:Nat),rs.length<=5->k<rs.length->(eU (rs.map dg) none (some (k:Int))).length<=20/\(eU (rs.map dg) (some ((k:Int)+1)) none).length<=20:=λrs k h1 h2=>⟨by rw[eG,kO,ak,aU];lia,by rw[show((k:Int)+1)=((k+1:Nat):Int)by lia,eG,nJ _ h2,ak,WS];omega⟩;refine sq1 (λo=>∃dc x8,o=o11 ns t nm dc c rs.length (.fz (.int (k:Nat))) x7 x8 .und/\RB 8 dc/\dc.length=rs.length) ?_ λY go=>?_
 rotate_left
 .have er:=aj (show k<b5.length by lia);have mr:=UU (show k<b5.length by lia);generalize b5[k]'(by lia)=r at er mr;have ix:=gD (h:=dg) er;obtain⟨d3,hd⟩:=dv.drs r mr;refine⟨⟨by decide,cC (by decide)⟩,by decide,swD (λh=>?_) λh=>go _ ⟨b5,.und,rfl,dv.mono (by decide),l2⟩⟩;refine⟨_,ix,swD (λh2=>?_) λh2=>go _ ⟨b5,.und,rfl,dv.mono (by decide),l2⟩⟩;refine⟨_,ix,?_⟩;obtain⟨e,ee,he⟩ : ∃e:Nat,c.fdiv 432%2=(e:Nat)/\e<=1:=⟨(c.fdiv 432%2).toNat,by lia,by lia⟩;obtain⟨t1,ds⟩:=r;rcases ds with _|⟨a,_|⟨b',_|⟨c',_|⟨z',zs⟩⟩⟩⟩
  .simp at h2
  .simp at h2
  .have pe:dg ((t1,[a,((a.1,b'.2++[(nb,e)]):D11)]):R11)=.tup [t1,.lst [fY a,.tup [.str a.1,.lst (b'.2.map wT++[.tup [.str nb,.int (c.fdiv 432%2)]])]]]:=by
    show L2.T.tup [t1,.lst [fY a,.tup [.str a.1,.lst ((b'.2++[(nb,e)]).map wT)]]]=_;rw[aW,ee];rfl
   have p2:=pN dg b5 (show k<b5.length by lia) ((t1,[a,((a.1,b'.2++[(nb,e)]):D11)]):R11);obtain⟨c1,c2⟩:=cl b5 k dv.five (by lia);refine⟨_,rfl,_,rfl,_,gD (h:=L2.T.str) eb,⟨by decide,cC (by decide)⟩,by decide,cf _ _ (by rw[ak];have:=(hd b' (by simp)).2.1;exact aJ this (by decide)),_,rfl,_,ix,cf _ _ c1,du _ _ _ c1 c2,go _ ⟨b5.take k++[((t1,[a,((a.1,b'.2++[(nb,e)]):D11)]):R11)]++b5.drop (k+1),_,by unfold o11;rw[<- p2,pe];rfl,⟨by rw[gk (by lia)];lia,by rw[gk (by lia)];exact dv.five,λy hy=>?_,λy hy=>?_⟩,by rw[gk (by lia)];exact l2⟩⟩
   .rcases iZ hy with z|rfl
    .exact dv.wd y z
    .exact(show(wdT t1).isSome=true from dv.wd _ mr)
   .rcases iZ hy with z|rfl
    .exact(dv.mono (by decide)).drs y z
    .refine⟨d3,λd aw=>?_⟩;have hl:=hd b' (by simp);have ha:=hd a (by simp);have bv:∀d,d∈[a]->Wd d.1/\d.2.length<=8/\0<tot d.2/\∀w∈d.2,w.2<=9/\Wd w.1:=λd aw=>let⟨a1,a2,a3⟩:=hd d (VX _ aw);⟨a1,by exact aJ a2 (by decide),a3⟩;rcases Y1.mp (show d∈[a]++[(((a.1,b'.2++[(nb,e)]):D11))]from aw)with z|z
     .exact bv d z
     .cases YR.mp z;refine⟨ha.1,by show(b'.2++[(nb,e)]).length<=8;rw[au];have:=hl.2.1;show _+1<=8;exact Nat.succ_le_succ this,by show 0<tot (b'.2++[(nb,e)]);rw[nW];have:=hl.2.2.1;exact Nat.lt_add_right _ this,λw hw=>?_⟩;rcases Y1.mp hw with y|y
      .exact hl.2.2.2 w y
      .cases YR.mp y;exact⟨by show e<=9;exact aJ he (by decide),wb⟩
  .have pe:dg ((t1,[a,b',((a.1,c'.2++[(nb,e)]):D11)]):R11)=.tup [t1,.lst [fY a,fY b',.tup [.str a.1,.lst (c'.2.map wT++[.tup [.str nb,.int (c.fdiv 432%2)]])]]]:=by
    show L2.T.tup [t1,.lst [fY a,fY b',.tup [.str a.1,.lst ((c'.2++[(nb,e)]).map wT)]]]=_;rw[aW,ee];rfl
   have p2:=pN dg b5 (show k<b5.length by lia) ((t1,[a,b',((a.1,c'.2++[(nb,e)]):D11)]):R11);obtain⟨c1,c2⟩:=cl b5 k dv.five (by lia);refine⟨_,rfl,_,rfl,_,gD (h:=L2.T.str) eb,⟨by decide,cC (by decide)⟩,by decide,cf _ _ (by rw[ak];have:=(hd c' (by simp)).2.1;exact aJ this (by decide)),_,rfl,_,ix,cf _ _ c1,du _ _ _ c1 c2,go _ ⟨b5.take k++[((t1,[a,b',((a.1,c'.2++[(nb,e)]):D11)]):R11)]++b5.drop (k+1),_,by unfold o11;rw[<- p2,pe];rfl,⟨by rw[gk (by lia)];lia,by rw[gk (by lia)];exact dv.five,λy hy=>?_,λy hy=>?_⟩,by rw[gk (by lia)];exact l2⟩⟩
   .rcases iZ hy with z|rfl
    .exact dv.wd y z
    .exact(show(wdT t1).isSome=true from dv.wd _ mr)
   .rcases iZ hy with z|rfl
    .exact(dv.mono (by decide)).drs y z
    .refine⟨d3,λd aw=>?_⟩;have hl:=hd c' (by simp);have ha:=hd a (by simp);have bv:∀d,d∈[a,b']->Wd d.1/\d.2.length<=8/\0<tot d.2/\∀w∈d.2,w.2<=9/\Wd w.1:=λd aw=>let⟨a1,a2,a3⟩:=hd d (VX _ aw);⟨a1,by exact aJ a2 (by decide),a3⟩;rcases Y1.mp (show d∈[a,b']++[(((a.1,c'.2++[(nb,e)]):D11))]from aw)with z|z
     .exact bv d z
     .cases YR.mp z;refine⟨ha.1,by show(c'.2++[(nb,e)]).length<=8;rw[au];have:=hl.2.1;show _+1<=8;exact Nat.succ_le_succ this,by show 0<tot (c'.2++[(nb,e)]);rw[nW];have:=hl.2.2.1;exact Nat.lt_add_right _ this,λw hw=>?_⟩;rcases Y1.mp hw with y|y
      .exact hl.2.2.2 w y
      .cases YR.mp y;exact⟨by show e<=9;exact aJ he (by decide),wb⟩
  .exfalso;have d3:zs.length+1+1+1+1<=3:=d3;lia
 rintro _ ⟨dc,x8,rfl,hG,l3⟩;refine sq1 (λo=>∃k:Nat,o=o11 ns t nm dc c rs.length (.fz (.int (k:Nat))) x7 x8 .und/\k<rs.length) ?_ λY go=>?_
 rotate_left
 .obtain⟨k,ek,hk⟩:=kk 14;exact⟨ns,14,rfl,nl,by lia,go _ ⟨k,by rw[<- ek];rfl,hk⟩⟩
 rintro _ ⟨k,rfl,hk⟩;refine sq1 (λo=>∃j3 x7 x9,o=o11 ns t nm j3 c rs.length (.fz (.int (k:Nat))) x7 x8 x9/\RB 8 j3) ?_ λY go=>?_
 rotate_left
 .have er:=aj (show k<dc.length by lia);have mr:=UU (show k<dc.length by lia);generalize dc[k]'(by lia)=r at er mr;have ix:=gD (h:=dg) er;refine⟨⟨by decide,cC (by decide)⟩,by decide,swD (λh=>?_) λh=>go _ ⟨dc,x7,.und,rfl,hG⟩⟩;obtain⟨n0,e0⟩ : ∃x,nm[0]?=some x:=⟨_,aj (by lia)⟩;obtain⟨nt,en,hnt⟩:=names11 (hd0 n0 (aA e0)) ((ns.getD 14 0).fdiv 5);obtain⟨c1,c2⟩:=cl dc k hG.five (by lia);have p2:=pN dg dc (show k<dc.length by lia) ((nt,r.2):R11);refine⟨_,gD (h:=L2.T.str) (k:=0) e0,ns,14,rfl,nl,⟨by decide,cC (by decide)⟩,by decide,nt,en,_,ix,cf _ _ c1,du _ _ _ c1 c2,go _ ⟨dc.take k++[((nt,r.2):R11)]++dc.drop (k+1),_,_,by unfold o11;rw[<- p2];rfl,⟨by rw[gk (by lia)];lia,by rw[gk (by lia)];exact hG.five,λy hy=>?_,λy hy=>?_⟩⟩⟩
  .rcases iZ hy with z|rfl
   .exact hG.wd y z
   .exact hnt
  .rcases iZ hy with z|rfl
   .exact hG.drs y z
   .exact hG.drs r mr
 rintro _ ⟨j3,x7,x9,rfl,hb4⟩;exact q t b j3 ht (hb4.mono (by decide))
theorem rZ{α:Type}{g:α->PyData}(h:∀x,PyData.canLay0 (g x)=true):∀xs:List α,PyData.canLayAll0 (xs.map g)=true
 |[]=>rfl
 |x::xs=>by rw[List.map_cons];unfold PyData.canLayAll0;rw[rZ h xs,h x];rfl
theorem wM{α:Type}{g:α->PyData}{n:Nat}(h:∀x,PyData.depth (g x)<=n):∀xs:List α,PyData.depthAll (xs.map g)<=n
 |[]=>aV _
 |x::xs=>by
  rw[List.map_cons];unfold PyData.depthAll;have:=wM h xs;have:=h x;lia
theorem vI{α:Type}{g:α->PyData}{h:α->T}(e:∀x,h x=ofD (g x)):∀xs:List α,xs.map h=GQ (xs.map g)
 |[]=>rfl
 |x::xs=>by rw[List.map_cons,List.map_cons,vI e xs,e x];rfl
theorem vp{α:Type}[DecidableEq α]{g:α->PyData}(h:∀x y,PyData.eqv (g x) (g y)=decide (x=y)):∀xs ys:List α,PyData.eqvAll (xs.map g) (ys.map g)=decide (xs=ys)
 |[],[]=>rfl
 |[],_::_=>rfl
 |_::_,[]=>rfl
 |x::xs,y::ys=>by
  rw[List.map_cons,List.map_cons];unfold PyData.eqvAll;rw[h,vp h xs ys,<- UV];exact decide_eq_decide.mpr ⟨λz=>by rw[z.1,z.2],λz=>List.cons.inj z⟩
structure EqD{α:Type}[DecidableEq α](h:α->T)(g:α->PyData):Prop where
 of:∀x,h x=ofD (g x)
 lay:∀x,PyData.canLay0 (g x)=true
 dep:∀x,PyData.depth (g x)<=60
 eqv:∀x y,PyData.eqv (g x) (g y)=decide (x=y)
theorem EqD.lst{α:Type}[DecidableEq α]{h:α->T}{g:α->PyData}(E:EqD h g)(xs:List α):SeqAt.shaped (.list (xs.map g))=true:=by
 have h1:PyData.canLay0 (.list (xs.map g))=true:=by unfold PyData.canLay0;exact rZ E.lay xs
 have h2:PyData.depth (.list (xs.map g))<=64:=by unfold PyData.depth;have:=wM E.dep xs;lia
 unfold SeqAt.shaped;rw[h1,Zs h2];rfl
theorem EqD.gEq{α:Type}[DecidableEq α]{h:α->T}{g:α->PyData}(E:EqD h g){neg:Bool}{a c:List α}{q:OT->Prop}(hq:q (.fz (.bl (xr neg (decide (a=c)))))):gEq neg (.lst (a.map h)) (.lst (c.map h)) q:=by
 refine⟨.list (a.map g),.list (c.map g),ZH L2.T.lst (vI E.of a),ZH L2.T.lst (vI E.of c),E.lst a,E.lst c,?_⟩;unfold PyData.eqv;rw[vp E.eqv];exact hq
theorem Ez:EqD L2.T.bl PyData.bool:=⟨λ_=>rfl,λ_=>rfl,λ_=>aV _,λx y=>by cases x<;>cases y<;>rfl⟩
def Ia(D:Adr):ST:=λts q=>∃(C:Addr)(ks:Θ)(us:List L2.T)(n:Int),ts=[.exc C ks us,.int n]/\((C=D.NoName/\n=1)\/(C=D.NoShare/\n=3)\/(C=D.NoRoom/\n=6))/\q (.fz (.bl true))
theorem Rg(T:Tx D)(F:Fu Bj Ax f fd):FT 1 f fd pG (Ia D):=by
 refine F.okT O2 λaf A outer s H E hr nd=>?_;refine⟨_,(bh (bI 2 (cZ (aY (jd (qv 0) T.bL T.FZ) (aY (jd (qv 0) T.bL T.uN) (aY (jd (qv 0) T.bL T.Gg) bf)))))
  (bh (bI 2 (bA bM (qv 2) (cZ (aY (jd (qv 0) T.bL T.yu) (aY (jd (qv 0) T.bL T.Oc) (aY (jd (qv 0) T.bL T.Q8) bf))))))
  (bh (bI 2 (bA bM (qv 2) (cZ (aY (jd (qv 0) T.bL T.CT) (aY (jd (qv 0) T.bL T.Lb) (aY (jd (qv 0) T.bL T.Mt) bf))))))
  (bx (bV (vm (Ra (qv 0) T.bL T.yS (by rfl)) (uI (iw (go_eq hr.units) (qv 2) (iG (bw Ax) Fj Fj ["_law_k"] (h_ T.jM (aY aZ bf)) (n6 (i:=0)) fH (iw (go_eq hr.units) (qv 0) (qv 2))))))))))),?_⟩
 rintro _ R ⟨C,ks,us,n,rfl,h,q⟩;have kA:(rng 0 9).length<=sizeLine:=by decide
 rcases h with⟨rfl,rfl⟩|⟨rfl,rfl⟩|⟨rfl,rfl⟩
 .have x:=T.xk_NoName;refine⟨x,cB T.ki_NoName_NoNumber ⟨x,cB T.ki_NoName_NoName ⟨x,cB T.ki_NoName_NoChance ⟨x,cB T.ki_NoName_NoShare ⟨x,cB T.ki_NoName_NoText ⟨x,cB T.ki_NoName_NoRow ⟨by decide,?_⟩⟩⟩⟩⟩⟩⟩;refine⟨x,cB T.ki_NoName_NoRoom ⟨x,cB T.ki_NoName_NoDoor ⟨x,cB T.ki_NoName_NoPlan ⟨by decide,?_⟩⟩⟩⟩;refine⟨x,cB T.ki_NoName_ValueError ?_⟩;refine⟨⟨by decide,by decide⟩,kA,pZ (λk=>.bl (decide ((k:Int)=1))) 9 (λk _ N M hN=>hN) ?_⟩;exact Ez.gEq (a:=[false,true,false,false,false,false,false,false,false]) (c:=(List.range 9).map λk:Nat=>decide ((k:Int)=1)) q
 .have x:=T.xk_NoShare;refine⟨x,cB T.ki_NoShare_NoNumber ⟨x,cB T.ki_NoShare_NoName ⟨x,cB T.ki_NoShare_NoChance ⟨x,cB T.ki_NoShare_NoShare ⟨x,cB T.ki_NoShare_NoText ⟨x,cB T.ki_NoShare_NoRow ⟨by decide,?_⟩⟩⟩⟩⟩⟩⟩;refine⟨x,cB T.ki_NoShare_NoRoom ⟨x,cB T.ki_NoShare_NoDoor ⟨x,cB T.ki_NoShare_NoPlan ⟨by decide,?_⟩⟩⟩⟩;refine⟨x,cB T.ki_NoShare_ValueError ?_⟩;refine⟨⟨by decide,by decide⟩,kA,pZ (λk=>.bl (decide ((k:Int)=3))) 9 (λk _ N M hN=>hN) ?_⟩;exact Ez.gEq (a:=[false,false,false,true,false,false,false,false,false]) (c:=(List.range 9).map λk:Nat=>decide ((k:Int)=3)) q
 .have x:=T.xk_NoRoom;refine⟨x,cB T.ki_NoRoom_NoNumber ⟨x,cB T.ki_NoRoom_NoName ⟨x,cB T.ki_NoRoom_NoChance ⟨x,cB T.ki_NoRoom_NoShare ⟨x,cB T.ki_NoRoom_NoText ⟨x,cB T.ki_NoRoom_NoRow ⟨by decide,?_⟩⟩⟩⟩⟩⟩⟩;refine⟨x,cB T.ki_NoRoom_NoRoom ⟨x,cB T.ki_NoRoom_NoDoor ⟨x,cB T.ki_NoRoom_NoPlan ⟨by decide,?_⟩⟩⟩⟩;refine⟨x,cB T.ki_NoRoom_ValueError ?_⟩;refine⟨⟨by decide,by decide⟩,kA,pZ (λk=>.bl (decide ((k:Int)=6))) 9 (λk _ N M hN=>hN) ?_⟩;exact Ez.gEq (a:=[false,false,false,false,false,false,true,false,false]) (c:=(List.range 9).map λk:Nat=>decide ((k:Int)=6)) q
theorem QK{nm:Θ}{rs:List R11}(h:Dn nm rs):Ar true rs=.ok (nm.take rs.length):=by
 have lt:(nm.take rs.length).length=rs.length:=by rw[aU,h.nms.len];lia
 have nd:(nm.take rs.length).Nodup:=h.nms.nd.sublist (List.take_sublist ..);have wd:∀n∈nm.take rs.length,Wd n:=λn hn=>h.nms.wd n (WG hn);have bv:∀(bs as:Θ),(as++bs).Nodup->(∀n∈bs,Wd n)->gR as (bs.map L2.T.str)=some (as++bs):=λbs=>by
  induction bs with
  |nil=>intro as _ _;rw[List.append_nil];rfl
  |cons b bs ih =>
   intro as hn hw;show(if d8 b.cps.toList=true/\b∉as then gR (as++[b]) (bs.map L2.T.str)else none)=_;rw[ZY ⟨hw b (aL ..),λz=>(List.nodup_append.mp hn).2.2 b z b (aL ..) rfl⟩,ih (as++[b]) (by rw[XG];exact hn) λn hn=>hw n (aG _ hn),XG]
   rfl
 have en:gR [] (rs.map (·.1))=some (nm.take rs.length):=by rw[h.names];exact bv _ [] nd wd
 have off:∀(ds:List D11)(seen:Θ),(seen++ds.map (·.1)).Nodup->(∀d∈ds,0<tot d.2/\∀w∈d.2,w.1∈nm.take rs.length)->jH (nm.take rs.length) seen (ds.map iR)=none:=λds=>by
  induction ds with
  |nil=>intro _ _ _;rfl
  |cons d ds ih =>
   intro seen hn hd;obtain⟨tp,hw⟩:=hd d (aL ..);show(if d.1∈seen then some none else match oX (nm.take rs.length) (qg (prW d.2))with|some m=>some (some m)|none=>jH (nm.take rs.length) (seen++[d.1]) (ds.map iR))=none;rw[ZZ λz=>(List.nodup_append.mp hn).2.2 d.1 z d.1 (aL ..) rfl,Ht _ tp,sE _ _ λx hx z=>z.1 (hw x hx)];exact ih _ (by rw[XG];exact hn) λd aw=>hd d (aG _ aw)
 have all:∀bs:List R11,(∀r∈bs,r∈rs)->o7 (nm.take rs.length) (bs.map λr=>r.2.map iR)=none:=λbs=>by
  induction bs with
  |nil=>intro _;rfl
  |cons b bs ih =>
   intro hb;obtain⟨_,hn,hd⟩:=h.drs b (hb b (aL ..));show(match jH (nm.take rs.length) [] (b.2.map iR)with|some x=>some x|none=>_)=none;rw[off b.2 [] hn λd aw=>⟨(hd d aw).2.2.1,λw hw=>((hd d aw).2.2.2 w hw).2⟩];exact ih λr hr=>hb r (aG _ hr)
 unfold Ar;dsimp only;rw[en];dsimp only;rw[all rs λ_ h=>h]
def Km:ST:=λts q=>∃ns:List Int,ts=[scT ns]/\ns.length<=63/\q (.fz (.bl true))
theorem UJ(T:Tx D)(Ak:gT 4 uM mL BR)(qO:gT 3 oV jw uX)(KN:gT 3 Gx uP (Mw D))(Gv:gT 7 uF nG (λts q=>wN D ts q λ_ _ _=>False))(zu:Br P w K mg base 7 uF nG (wN D))(FQ:gT 1 Bj pG (Ia D))(lD:gI 1 D.Hall_names fZ (mK D))(F:Fu Gq G5 f fd):FT 8 f fd zP Km:=by
 refine F.okT Kl λaf A outer s H E hr nd=>?_;refine⟨_,(bh (A_ (bB Ak (aY (qv 0) bf)) (gP (n:=3) (bN (bQ (n:=99) 5) (bN (bQ (n:=99) 6) (bN (bQ (n:=99) 7) dU)))))
  (bh (bI 1 (bB qO (aY (qv 0) (aY (qv 5) (aY (qv 6) (aY (qv 7) bf))))))
  (bh (bI 2 (bB KN (aY (bH (qv 1) aZ) (aY (bH (qv 1) aZ) bf))))
  (bh (bI 3 jo)
  (bh (Rn 4 3 Kl.nd zu hr.md T.sH T.DX T.BL (λ_ _=>(aY (bH (qv 1) aZ) (aY (bH (qv 1) aZ) bf))))
  (bh (cQ (cj (sJ hr.units) (iw Lq (qv 3) jo) (iw Lq (qv 2) jo))
  (bx (bV jT))
  bU)
  (bh (cQ (QW.qt (vO (cj Il (qv 3) jo) (uz (cM (cD (bB FQ (aY (qv 3) (aY (bH (qv 2) aZ) bf))))))))
  (bx (bV jT))
  bU)
  (bh (cQ (QW.qt (vO (cj Il (qv 3) jo) (vO (cj (go_eq hr.units) (bH (qv 2) aZ) aZ) (uz (cj (sJ hr.units) (Qm (qv 3)) (bH (qv 2) aZ))))))
  (bx (bV jT))
  bU)
  (bx (bV (iw (go_eq hr.units) (Dj (bB Gv (aY (qv 5) (aY (qv 7) bf))) T.Dy T.wW lD (KS:=nY)) (cG (qv 6) dI (cN (bT jZ T.jB WZ (aY (qv 7) bf))))))))))))))),?_⟩
 rintro _ R ⟨ns,rfl,nl,qR⟩;refine⟨ns,rfl,by exact aJ nl (by decide),λs nm rs hs hd=>?_⟩;have am:∀(y:L2.T),R (.fz (.bl true))->gEq false (.lst ((nm.take rs.length).map L2.T.str)) (.lst (eU (nm.map L2.T.str) none (some ((rs.map dg).length:Nat)))) R:=λ_ h=>by
  have wd:∀n∈nm.take rs.length,Wd n:=λn hn=>hd.nms.wd n (WG hn);rw[eG,kO,ak];refine⟨.list ((nm.take rs.length).map .str),.list ((nm.take rs.length).map .str),ZH L2.T.lst (jh _).symm,ZH L2.T.lst (jh _).symm,iM wd,iM wd,?_⟩;unfold PyData.eqv;rw[vp HS,Zs rfl];exact h
 have ho:Ar (decide (0<=s)&&decide (s<1)) rs=.ok (nm.take rs.length):=by
  rw[Zs hs.h0,Zs hs.h1];exact QK hd
 have l8:(4:Nat)<8:=by decide
 refine⟨rfl,ns,s,nm,rs,rfl,by exact aJ nl (by decide),hs,hd,λt b cb ht hb=>⟨t,b,cb,rfl,ht,hb.k (by decide),t,b,cb,rfl,ht,hb.k (by decide),?_⟩⟩;cases Ar b cb with
 |ok ms =>
  intro u;exact⟨frR s,_,rs,rfl,.q hs.bq,hd.rb.k (by decide),by rw[ho];exact λu=>⟨⟨rfl,rfl⟩,_,_,_,rfl,am u qR⟩⟩
 |share =>
  refine⟨⟨l8,rfl,T.sm_NoShare⟩,?_⟩;exact⟨_,_,_,_,rfl,.inr (.inl ⟨rfl,rfl⟩),frR s,_,rs,rfl,.q hs.bq,hd.rb.k (by decide),by rw[ho];exact λu=>⟨⟨rfl,rfl⟩,_,_,_,rfl,am u qR⟩⟩
 |name =>
  refine⟨⟨l8,rfl,T.sm_NoName⟩,?_⟩;exact⟨_,_,_,_,rfl,.inl ⟨rfl,rfl⟩,frR s,_,rs,rfl,.q hs.bq,hd.rb.k (by decide),by rw[ho];exact λu=>⟨⟨rfl,rfl⟩,_,_,_,rfl,am u qR⟩⟩
 |room m =>
  refine⟨⟨l8,rfl,T.sm_NoRoom⟩,?_⟩;refine⟨_,_,_,_,rfl,.inr (.inr ⟨rfl,rfl⟩),⟨T.xk_NoRoom,T.hd_NoRoom,T.mJ⟩,?_⟩;refine cB (show lkF [Str.ofString "room"] [L2.T.str m] (Str.ofString "room")=some (.str m)by unfold lkF;exact ZY rfl) ?_;show sw (xr true (decide (m=m))) _ _;rw[Zs rfl];exact⟨frR s,_,rs,rfl,.q hs.bq,hd.rb.k (by decide),by rw[ho];exact λu=>⟨⟨rfl,rfl⟩,_,_,_,rfl,am u qR⟩⟩
end
theorem Vb{K:Frag}{vs:Β}{H:Hp}{Q:VK}{E:XK}(h:HB K vs H Q E):spT K Km vs H Q E:=by
 obtain⟨a,ns,rfl,hs,hl,_,hQ⟩:=h;refine⟨[scT ns],λx=>x=.fz (.bl true),.cons (.scr hs (rJ ns)) .nil,⟨ns,rfl,hl,rfl⟩,?_⟩;rintro H' v _ rfl _ ⟨B,_,_,u,e,r⟩;cases e;cases r;exact hQ H'
theorem law_fn{l:PySem.W.OpenLaw}{w:World}{K:Frag}{mg:Str->Ψ}(T0:∃D,Txt K mg D)(base:Heap)(f:Addr)(fd:FuncData)(F:Fun K Gq Gq G5 f fd) :
  cH l.prog w K mg base CX0 8 f fd zP (HB K):=by
 obtain⟨D,T⟩:=T0
 letI:Bs:=⟨l.prog,w,K,mg,base⟩
 have o {k:Nat}{n:Str}{st:Stmt}{ps:Θ}{sp:Sp} (h:dO K mg n st ps) (g:∀{f fd},Fun K n n st f fd->cH l.prog w K mg base CX0 k f fd ps sp):OkF l.prog w K mg base k n ps sp:=h.ok λ_ _=>g;have i {X:CXT}{k:Nat}{n m:Str}{st:Stmt}{ps:Θ}{f:Addr}{sp:Sp} (h:vX K n m st ps f) (g:∀{fd},Fun K n m st f fd->cH l.prog w K mg base X k f fd ps sp):OkI l.prog w K mg base X k f ps sp:=h.ok λ_=>g;have x {k:Nat}{n:Str}{st:Stmt}{ps:Θ}{sp:Sp} (h:dO K mg n st ps) (g:∀{f fd},Fun K n n st f fd->cH l.prog w K mg base (CXO l.prog w) k f fd ps sp):OkX l.prog w K mg base k n ps sp:=h.okX λ_ _=>g;have cW:=o T.Gj (Dv T);have dB:=o T.Jo (Fi T);have kZ:=o T.QF (N_ T cW dB);have Gm:=o T.Uo (Oh kZ);have gq:=o T.PK (Mv);have cI:=o T.wz (Ej T cW dB);have zH:=o T.O1 (Nq dB);have eE:=o T.yI (E_ T);have kW:=o T.Ai (w6 eE cI);have gO:=o T.pP (oZ eE);have jk:=o T.vG (tL T cI gq);have zJ:=o T.f_total (M8 T zH kZ);have jX:=o T.w5 (uR T gO jk zJ);have j6:=o T.wY (uZ T Gm);have mY:=i T.Ae (Bf T kW);have jc:=i T.xX (xu T mY jX j6);have nF:=i T.Bo (zq T);have Og:=o T.oh (vB T cI gq);have eE:=o T.yI (D_ T);have j9:=i T.vJ (uJ T);have cI:=o T.wz (yU T cW dB);have jq:=x T.oh (tu T cI gq);have jY:=x T.yZ (vR T eE);have iy:=x T.tK (qd T nF j9);have lB:=x T.DG (xW T iy);have i_:=i T.zp (xV T jq jY lB);have lD:=i T.xY (vh T);have fM:=o T.Tq (OJ);have kE:=o T.Mx (JF T);have yJ:=o T.Zh (Ve T);have uq:=o T.Qj (Nu T kE);have jm:=o T.NQ (Jd yJ);have zu:=x T.Nk (Ca T jm jc i_);have Gv:=o T.Nk λF=>(Ca T jm jc i_ F).calmT;have Eo:=o T.T3 (Nb T);have oR:=o T.GD (Dh T yJ);have KN:=o T.Ys (TY T oR Eo);have Ak:=o T.PX (Nr T fM kE jm uq);have nO:=o T.Jj (Gf T);have qO:=o T.Jl (Fg T fM nO);have FQ:=o T.S6 (Rg T);exact(UJ T Ak qO KN Gv zu FQ lD F).imp λ_ _ _ _ h=>Vb h
end K11
end
open PySem PySem.W PyProof.Rows L2
set_option maxRecDepth 100000 in
set_option maxHeartbeats 0 in
theorem PySem.Challenge.cw_chancehall_k11_no_hall_holds : PySem.Challenge.rw_chancehall_k11_no_hall.Holds := by
 w_on
 refine holds_law H11.wsd λky=>?_;refine holds_open (q:=H11.qv) (loose:=[]) (XP:=XL H11.qv []) (YP:=InK H11.KH) H11.left (InK.of H11.asK) InK.keeps H11.hX XL.keeps (by rfl) (by rfl) (by rfl) H11.hR (by rfl) ky (by decide +kernel) ⟨rfl,rfl,rfl,rfl,rfl,by decide +kernel⟩ ?hw ?hc
 (case hw=>w_witness2)
 k_fill
 refine L2.V_ (l:=PySem.Challenge.rw_chancehall_k11_no_hall) (k:=8) (x := "_law_script") rfl rfl ⟨rfl,by decide,by decide⟩ (λw h Y=>(show(H11.KH w.params).In h from Y)) ?F
 case F =>
  intro w mg fa h KX G ft;refine⟨K11.G5,?_,λbase f fd F=>K11.law_fn ?T base f fd F⟩
  .exact q_f
  case T =>
   refine⟨⟨31,44,56,68,80,92,111,130,149,168,304,382,403,185,186,259,273,365,372,400,127⟩,⟨q_c,q_c,q_c,q_c,q_c,q_c,q_c,q_c,q_c,q_c,q_c,q_c,q_c,q_c,q_c,q_x,q_x,by k_is,by k_is,q_g,q_t,q_t,q_M,q_4,q_m,q_n,q_n,q_n,q_n,q_n,q_n,q_4,q_m,q_n,q_n,q_n,q_n,q_n,q_n,q_M,q_4,q_m,q_n,q_n,q_n,q_n,q_n,q_n,q_E,q_S,q_5,by k_is,by k_is,q_n,by kit_is,by kit_is,by kit_is,by kit_is,by kit_is,by kit_is,by kit_is,by kit_is,by kit_is,by kit_is,q_5,by k_is,by kit_is,by kit_is,by kit_is,by kit_is,by kit_is,by kit_is,by kit_is,by kit_is,by kit_is,by kit_is,q_5,by k_is,by kit_is,by kit_is,by kit_is,by kit_is,by kit_is,by kit_is,by kit_is,by kit_is,by kit_is,by kit_is,q_b,q_h,q_h,q_B,q_h,q_h,q_h,q_h,q_z,q_z,q_z,q_z,q_z,q_z,q_z,q_z,q_z,q_z,q_z,q_z,q_z,q_z,q_z,q_f,q_f,q_f,q_f,q_f,q_f,q_f,q_f,q_f,q_f,q_f,q_f,q_f,q_f,q_f,q_f,q_f,q_f,q_f,q_f,q_f,q_f,q_f,q_f,q_f,q_f,q_f,q_f,q_f,q_f,q_f⟩⟩
#print axioms PySem.Challenge.cw_chancehall_k11_no_hall_holds
