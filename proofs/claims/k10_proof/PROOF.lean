import PyProof.Rows.All
import Wide.All
import OpenK.AllK
import Wide.FinOn
import Lean
import PyProof.EqAt
import PyProof.EqKinds
import PyProof.TupleCall
import PyProof.EqLayable
import KE.KIntText
import PyProof.EnumMake
import PyProof.EnumStmt
import PyProof.EnumFor
import PyProof.Rows.EnumRows
import PyProof.ExcInit
import PyProof.ExcClass2
import PyProof.InstStoreFacts
import KE.KRevIter
import PyProof.P3In
import KE.KDictList
import PySem.Challenge.RW_chancehall_k10_a_hall
def aj := @List.getElem?_eq_getElem
def ak := @List.length_map
def ao := @List.getElem?_eq_some_iff
def aq := @List.getElem?_map
def au := @List.getD_eq_getElem?_getD
def aA := @List.length_append
def aB := @List.mem_of_getElem?
def aC := @List.getElem?_append_right
def aD := @List.getElem?_append_left
def aF := @Nat.le_refl
def aG := @PySem.Heap.get?_push_of_some
def aH := @List.mem_cons_of_mem
def aJ := @PySem.Heap.lt_size
def aK := @List.take_of_length_le
def aL := @Nat.le_trans
def aM := @List.getElem?_eq_none
def aN := @List.length_replicate
def aO := @List.mem_cons_self
def aP := @List.mem_append_right
def aQ := @Nat.ne_of_lt
def aR := @Nat.lt_of_lt_of_le
def aU := @List.getElem_mem
def aV := @List.getElem?_of_mem
def aW := @PySem.Heap.get?_push_size
def aX := @List.size_toArray
def aY := @List.length_take
def aZ := @Nat.zero_le
def bf := @List.map_append
def bh := @Bool.false_ne_true
open PySem.W (Frag instObj methodObj hideAll hideAll_get of_hideAll lookIn plainGet hasDictIn findIn handedIn plainGet_of findObj_own isFn plainOver takerIn set_plain looks_clsIn makesIn typeIn emptyDict looks_findIn keepIn specialIn mroIn kitOne kia_one kitx_list kitx_tuple callWith_K methodCall_KW codeIn nsIn mg_of excIn isNs_of_in clsIn looks_mroIn KitX readsIn findCls method_cls cls_value notCls nsOkIn)
section
open PySem PySem.Spec PyProof.Rows
abbrev Γ:=List (Addr×Obj)
abbrev Δ:=List Value
abbrev Θ:=List Str
abbrev Φ:=List Addr
abbrev Ψ:=Option Value
abbrev Ω:=Option Addr
abbrev Ξ:=Value->Shared->Prop
def Zs:=@decide_eq_true
def Zp:=@decide_eq_false
def ZZ:=@if_neg
def ZY:=@if_pos
def ZU:=@wpAny_bind
def ZT:=@wpAny_pure
def ZH:=@congrArg
def Z3:=@Int.emod_nonneg
def YY:=@Int.emod_lt_of_pos
def YV:=@List.mem_map
def YU:=@List.mem_cons
def YR:=@List.mem_singleton
def Y1:=@List.mem_append
def Y2:=@Nat.le_of_lt
def Y3:=@Nat.lt_of_le_of_lt
def Xs:=@Nat.le_succ
def XZ:=@Int.le_of_lt
def XY:=@Bool.false_eq_true
def XX:=@List.getElem?_replicate
def XW:=@Nat.le_add_right
def XV:=@Nat.lt_irrefl
def XU:=@Int.natCast_nonneg
def XT:=@List.append_assoc
def XG:=@List.map_map
def X0:=@Int.ne_of_gt
def X1:=@List.length_range
def X2:=@List.length_set
def X9:=@Nat.le_of_eq
def Wp:=@List.getElem?_set_ne
def WZ:=@List.getElem?_set_self
def WV:=@PySem.boot_len
def WU:=@List.length_zip
def WS:=@Nat.min_self
def WP:=@List.map_congr_left
def WJ:=@Nat.le_of_not_lt
def WG:=@List.getElem?_range
def WH:=@List.getElem_zip
def W1:=@Nat.le_of_dvd
def VZ:=@List.all_eq_true
def VY:=@List.mem_of_mem_take
def VX:=@List.mem_append_left
def VW:=@Nat.ne_of_gt
def VV:=@Int.lt_of_not_ge
def VU:=@Rat.divInt_eq_divInt_iff
def VT:=@List.of_mem_zip
def VS:=@List.set_eq_of_length_le
def VQ:=@List.getElem?_take
def Up:=@Nat.le_of_ble_eq_true
def UZ:=@List.take_sublist
def UY:=@List.length_drop
def UX:=@Nat.not_lt_of_le
def UV:=@Bool.and_eq_true
def UU:=@Nat.add_sub_cancel_left
def UT:=@Rat.divInt_add_divInt
def US:=@List.getElem_map
def UR:=@List.drop_eq_getElem_cons
def UQ:=@List.drop_eq_nil_of_le
def UP:=@List.find?_cons_of_pos
def UK:=@List.find?_cons_of_neg
end
set_option Elab.async false
set_option linter.all false
set_option maxRecDepth 100000
set_option maxHeartbeats 4000000
namespace L2.Once
noncomputable section
open PySem PySem.W
def z:Pos:=⟨0,0,0,0⟩
def tE:Obj:=⟨.type "tuple",none,.seq ⟨[]⟩ 0,⟨[]⟩⟩
def fE:Obj:=⟨.none,none,.fields ⟨[]⟩,⟨[]⟩⟩
def tN(t:Nat)(l:Θ):Obj:=⟨.type "tuple",none,.seq ⟨(l.zipIdx t).map λx=>.str x.1 x.2⟩ 0,⟨[]⟩⟩
def cO(n q:Str)(t:Nat)(l a f:Int)(r u:Nat):Obj:=⟨.type "code",none,.fields ⟨[.str n t,.str q (t+1),.str "/claim/cut.py" (t+2),.int l 0,.int a 0,.int 0 0,.int 0 0,.int f 0,.ref r,.bool true,.int 181 0,.ref (r+1),.none,.ref (r+2),.ref (r+3),.ref (r+4),.int u 0,.int l 0,.str "/claim/cut.py" (u+1)]⟩,⟨[]⟩⟩
def o11:Obj:={ cls:=.type "tuple",data:=.seq #[] }
def o12:Obj:={ cls:=.none,data:=.fields #[] }
def o13:Obj:={ cls:=.type "code",data:=.fields #[.str "<module>" 182,.str "<module>" 183,.str "/claim/cut.py" 184,.int 1 0,.int 0 0,.int 0 0,.int 0 0,.int 0 0,.ref 11,.bool false,.int 181 0,.ref 12,.none,.none,.none,.none,.int 185 0,.int 1 0,.str "/claim/cut.py" 186] }
def o14:Obj:={ cls:=.type "frame",slots:=#[some (.ref 13),some (.ref 3),some (.ref 3),none,some (.str "__main__" 164),none,some (.ref 0)] }
def cP(n q:Str)(t:Nat)(l a f:Int)(r u:Nat):Obj:=⟨.type "code",none,.fields ⟨[.str n t,.str q (t+1),.str "/claim/cut.py" (t+2),.int l 0,.int a 0,.int 0 0,.int 0 0,.int f 0,.ref r,.bool true,.int 181 0,.ref (r+1),.none,.none,.none,.ref (r+2),.int u 0,.int l 0,.str "/claim/cut.py" (u+1)]⟩,⟨[]⟩⟩
def dE(P:Params)(x:Str)(t:Nat)(v:Value):DictEntry:=⟨PyData.keyHash P x,.str x t,v⟩
abbrev lf(o:Obj):BT:=.node o .nil .nil
def tr(P:Params):BT:=.node (boot_o_0 P)
 (.node (boot_o_1 P) (.node (boot_o_3 P) (lf (boot_o_7 P)) (lf o11)) (.node (boot_o_5 P) (lf (boot_o_9 P)) (lf o13)))
 (.node (boot_o_2 P) (.node (boot_o_4 P) (lf (boot_o_8 P)) (lf o12)) (.node (boot_o_6 P) (lf (boot_o_10 P)) (lf o14)))
def S0(w:World)(os:OsState):Shared:=⟨boot_heap w.params,Array.mk [],boot_drawn,boot_toks,os⟩
def Sa(w:World)(os:OsState):Shared:=⟨⟨Array.mk [boot_o_0 w.params,boot_o_1 w.params,boot_o_2 w.params,boot_o_3 w.params,boot_o_4 w.params,boot_o_5 w.params,boot_o_6 w.params,boot_o_7 w.params,boot_o_8 w.params,boot_o_9 w.params,boot_o_10 w.params,o11,o12,o13,o14],{}⟩,Array.mk [],{},187,os⟩
def Sb(w:World)(os:OsState):SharedT:=⟨tr w.params,15,{},⟨[]⟩,{},187,os⟩
def env(p:Program):Env:={ scope:=p.main.scope,locals:=mainNs,globals:=mainNs,cells:=[],code:=.ref 13,frame:=some 14 }
def cE(p:Program):Code:=.body (behindTheImports p) (env p)
abbrev ann:Ψ:=some (.ref 6)
abbrev B:List Frame:=[topFrame z]
theorem size(w:World):((boot_heap w.params).isNs mainGlobals&&(Array.mk [] : Array GenState).size==0,(boot_heap w.params).objs.size,(boot_heap w.params).nsMap mainGlobals "__annotations__")=(true,11,ann):=by
 rw[Fast.te8920871248978507458];kernel_rfl
def lD(p:Program)(w:World)(M:Nat)(S:SharedT)(l:List Stmt)(q:Pos)(G:Shared->Prop):Prop:=∃s,topRun treeTable p w 11 ann M S.abs (restOf l (env p) (cE p) q B)=some s/\G s
theorem lD.cut{p:Program}{w:World}{n M:Nat}{S S':SharedT}{l1 l2:List Stmt}{q q':Pos}{G:Shared->Prop}(h:segRunT treeTable p w 11 ann 1 n S (piecesOf l1 (env p) (cE p) q B)=some (.next,S',cE p,q'))(k:lD p w M S' l2 q' G):lD p w (n+M) S (l1++l2) q G :=
 let⟨s,a,b⟩:=k
 ⟨s,piece_app (segRun_of h) a,b⟩
theorem lD.cutAt{p:Program}{w:World}{n m M:Nat}{S S':SharedT}{l:List Stmt}{q q':Pos}{G:Shared->Prop}(h:segRunT treeTable p w 11 ann 1 n S (piecesOf (l.take m) (env p) (cE p) q B)=some (.next,S',cE p,q'))(k:lD p w M S' (l.drop m) q' G):lD p w (n+M) S l q G:=by
 have:=lD.cut h k;rwa[List.take_append_drop]at this
def Good{α:Type}(p q:Program)(loose:Θ)(Xt:Shared->Bool)(Yf:Shared->α)(Ya:World->α)(g0:Bool)(w:World)(s:Shared):Prop :=
 (staticsOk (importedModules p.main.body) (boot_heap w.params) s.heap&&namesBound p s.heap&&gensDone s&&laidKept (boot_heap w.params) s.heap,openSeen q loose (importedModules p.main.body) Xt g0 s,Yf s)=(true,openGood q loose,Ya w)
theorem lD.last{p q:Program}{loose:Θ}{Xt:Shared->Bool}{α:Type}{Yf:Shared->α}{Ya:World->α}{g0:Bool}{w:World}{n k:Nat}{S:SharedT}{l:List Stmt}{q0 e:Pos}
 (big:(segRunT treeTable p w 11 ann 1 n S (piecesOf l (env p) (cE p) q0 B)).map (λr =>
    (r.1,r.2.2.1,r.2.2.2,(topRun treeTable p w 11 ann k r.2.1.abs ⟨doneF .next,cE p,e,B⟩).map λs =>
     (staticsOk (importedModules p.main.body) (boot_heap w.params) s.heap&&namesBound p s.heap&&gensDone s&&laidKept (boot_heap w.params) s.heap,openSeen q loose (importedModules p.main.body) Xt g0 s,Yf s))) =
   some (.next,cE p,e,some (true,openGood q loose,Ya w))):lD p w (n+k) S l q0 (Good p q loose Xt Yf Ya g0 w):=by
 obtain⟨⟨f,sT,c,ps⟩,r1,r2⟩:=Option.map_eq_some_iff.mp big;obtain⟨rfl,rfl,rfl,r3⟩ : f=.next/\c=cE p/\ps=e/\_:=by simpa only[Prod.mk.injEq]using r2
 obtain⟨s,t1,t2⟩:=Option.map_eq_some_iff.mp r3;have q1:=piece_app (rest:=[]) (segRun_of r1) (piece_nil t1);rw[List.append_nil]at q1;exact⟨s,q1,t2⟩
theorem Rv{p q:Program}{loose:Θ}{Xt:Shared->Bool}{α:Type}{Yf:Shared->α}{Ya:World->α}{N:Nat}{g0:Bool}{a b M:Nat}
 (g7:∀w:World,(fencedOpening treeTable p w N).map (λs=>(s.heap,s.gens,s.drawn,s.toks))=some (boot_heap w.params,Array.mk [],boot_drawn,boot_toks))
 (pre:∀w:World,(λos=>topGo treeTable p w 11 ann a (S0 w os) (topStub p))=λos=>some (Sa w os,⟨denote treeTable (cE p),cE p,z,B⟩))
 (block:∀w:World,(λos=>segRun treeTable p w 11 ann 1 b (Sa w os) (blockOf (behindTheImports p) (env p) (cE p) z B))=λos=>some (.next,(Sb w os).abs,cE p,z))
 (gx:∀(w:World)(os:OsState),lD p w M (Sb w os) (behindTheImports p) z (Good p q loose Xt Yf Ya g0 w))
 (le:Nat.ble (a+(b+M)) N=true):LeftO p q loose Xt Yf Ya N g0:=λw=>by
 obtain⟨⟨h,gs,d,ks,os⟩,e1,e2⟩:=Option.map_eq_some_iff.mp (g7 w);obtain⟨rfl,rfl,rfl,rfl⟩ : h=boot_heap w.params/\gs=Array.mk []/\d=boot_drawn/\ks=boot_toks:=by simpa using e2
 obtain⟨z1,z2,z3⟩ : _/\_/\_:=by simpa only[Prod.mk.injEq]using size w
 obtain⟨s,q1,t2⟩:=gx w os;obtain⟨l1,l2,l3⟩ : _/\_/\_:=by simpa only[Good,Prod.mk.injEq]using t2
 have q2:=go_top (congrFun (pre w) os) (piece_block (congrFun (block w) os) q1);have q3:=topRun_mono (N-(a+(b+M))) _ _ _ _ q2;rw[show a+(b+M)+(N-(a+(b+M)))=N by have:=Up le;omega]at q3;have t:topFrom treeTable p w N ⟨boot_heap w.params,Array.mk [],boot_drawn,boot_toks,os⟩=some s:=by
  unfold topFrom;dsimp only;rw[z1,z2,z3,show topRun treeTable p w 11 ann N ⟨boot_heap w.params,Array.mk [],boot_drawn,boot_toks,os⟩ (topStub p)=some s from q3];show(match staticsOk (importedModules p.main.body) (boot_heap w.params) s.heap&&namesBound p s.heap&&gensDone s&&laidKept (boot_heap w.params) s.heap with|true=>_|false=>_)=_;rw[l1]
 unfold openEnds;rw[e1];show(topFrom treeTable p w N _).map _=_;rw[t];exact ZH some (Prod.ext l2 l3)
end
end L2.Once
namespace L2
open PySem
def iZ(s:Stmt):Arguments:=match s with
 |.FunctionDef _ a _ _ _ _ _ _ _ _=>a
 |_=>{ posonlyargs:=[],args:=[],vararg:=none,kwonlyargs:=[],kw_defaults:=[],kwarg:=none,defaults:=[] }
def eG(s:Stmt):List Stmt:=match s with
 |.FunctionDef _ _ b _ _ _ _ _ _ _=>b
 |_=>[]
def bC(s:Stmt):Scope:=match s with
 |.FunctionDef _ _ _ _ _ _ sc _ _ _=>sc
 |_=>{ kind:=.function,names:=[],isGenerator:=false,isCoroutine:=false }
end L2
namespace K10
open PySem L2
def top(i:Nat):Stmt:=PySem.Challenge.pw_chancehall_k10_a_hall.main.body.getD i (.Pass ⟨0,0,0,0⟩)
def d_(i j:Nat):Stmt:=match top i with|.ClassDef _ _ _ b _ _ _ _ _ _ _=>b.getD j (.Pass ⟨0,0,0,0⟩)|_=>.Pass ⟨0,0,0,0⟩
abbrev fP:Θ:=["thing"]
abbrev L_:Θ:=fP
abbrev dJ:Θ:=["one","other"]
abbrev FQ:Θ:=dJ.append ["left","right","rest"]
abbrev pG:Θ:=["top","bottom"]
abbrev I9:Θ:=pG.append ["common"]
abbrev iM:Θ:=["thing"]
abbrev uQ:Θ:=iM.append ["top","bottom"]
abbrev vG:Θ:=["one","other"]
abbrev abD:Θ:=vG
abbrev qP:Θ:=["one","other"]
abbrev Xa:Θ:=qP
abbrev pD:Θ:=["one","other"]
abbrev Y_:Θ:=pD
abbrev eE:Θ:=["thing"]
abbrev pA:Θ:=eE
abbrev iH:Θ:=["share"]
abbrev Dw:Θ:=iH
abbrev je:Θ:=["rooms"]
abbrev qd:Θ:=je.append ["numbers","room","name"]
abbrev gw:Θ:=["door","numbers"]
abbrev qz:Θ:=gw.append ["numbered","name","chance"]
abbrev jJ:Θ:=["doors","numbers"]
abbrev yx:Θ:=jJ.append ["taken","told","door"]
abbrev tO:Θ:=["fractions"]
abbrev Om:Θ:=tO.append ["bottom","one"]
abbrev rH:Θ:=["fractions"]
abbrev Gx:Θ:=rH.append ["leveled"]
abbrev iw:Θ:=["name","pay"]
abbrev qg:Θ:=iw
abbrev dI:Θ:=["room"]
abbrev vC:Θ:=dI
abbrev fL:Θ:=["chance"]
abbrev BW:Θ:=fL
abbrev iR:Θ:=["pairs"]
abbrev oN:Θ:=iR.append ["room","chance"]
abbrev iG:Θ:=["pairs"]
abbrev uE:Θ:=iG.append ["chances","room","chance"]
abbrev ug:Θ:=["_law_script","_law_k"]
abbrev N7:Θ:=ug
abbrev j_:Θ:=["_law_cell_here","_law_many"]
abbrev Ke:Θ:=j_.append ["_law_found","_law_number","_law_digits","_law_k"]
abbrev xV:Θ:=["_law_one","_law_other"]
abbrev Zi:Θ:=xV.append ["_law_low","_law_high"]
abbrev jw:Θ:=["_law_top","_law_bottom"]
abbrev Js:Θ:=jw.append ["_law_common"]
abbrev mG:Θ:=["_law_found"]
abbrev v9:Θ:=mG
abbrev iD:Θ:=["_law_found"]
abbrev Lr:Θ:=iD
abbrev uq:Θ:=["_law_e","_law_at"]
abbrev Ms:Θ:=uq.append ["_law_kinds"]
abbrev qW:Θ:=["_law_cell_here","_law_many"]
abbrev vQ:Θ:=qW.append ["_law_letters","_law_xs","_law_stem","_law_at","_law_step","_law_found","_law_k","_law_rest","_law_sign"]
abbrev vD:Θ:=["_law_cell_here","_law_j","_law_many"]
abbrev u_:Θ:=vD.append ["_law_xs","_law_sort","_law_pay","_law_size","_law_rooms_here","_law_weights"]
abbrev sI:Θ:=["_law_script"]
abbrev Ot:Θ:=sI.append ["_law_xs","_law_many","_law_bottom","_law_share","_law_rooms_here","_law_j","_law_k","_law_size","_law_names_here","_law_doors","_law_name"]
abbrev vI:Θ:=["_law_rooms_here","_law_weights"]
abbrev MP:Θ:=vI.append ["_law_found","_law_k","_law_bottom"]
abbrev xK:Θ:=["_law_doors"]
abbrev Vu:Θ:=xK
abbrev z6:Θ:=["_law_way_here"]
abbrev Tw:Θ:=z6
abbrev lR:Θ:=["_law_found","_law_due_here"]
abbrev BR:Θ:=lR.append ["_law_offer"]
abbrev qU:Θ:=["_law_name","_law_door_here","_law_names_here"]
abbrev qy:Θ:=qU.append ["_law_told","_law_chances","_law_pay","_law_sort","_law_rooms_here","_law_weights"]
abbrev rW:Θ:=["_law_hall","_law_names_here","_law_rooms_here"]
abbrev YJ:Θ:=rW.append ["_law_many","_law_told","_law_k","_law_j","_law_doors","_law_stranger","_law_found"]
abbrev sS:Θ:=["_law_hall","_law_way_here","_law_room","_law_name"]
abbrev Qe:Θ:=sS
abbrev mV:Θ:=["_law_hall","_law_way_here","_law_room","_law_name"]
abbrev Fp:Θ:=mV.append ["_law_refused","_law_e"]
abbrev mH:Θ:=["_law_hall","_law_room","_law_name"]
abbrev Gd:Θ:=mH.append ["_law_refused","_law_e"]
abbrev jB:Θ:=["_law_hall","_law_cell_here","_law_stranger","_law_rooms_here"]
abbrev tH:Θ:=jB.append ["_law_many","_law_odd","_law_none","_law_k"]
abbrev IK:Θ:=["_law_script"]
abbrev yM:Θ:=IK.append ["_law_many","_law_handed","_law_k","_law_hall","_law_held","_law_share","_law_names_here","_law_rooms_here","_law_name","_law_doors","_law_offer"]
abbrev jR:Θ:=["self","share","rooms"]
abbrev sH:Θ:=jR
abbrev eU:Θ:=["self"]
abbrev K5:Θ:=eU
abbrev ig:Θ:=["self"]
abbrev Jg:Θ:=ig
abbrev eV:Θ:=["self","name"]
abbrev pP:Θ:=eV
abbrev bZ:Θ:=["self","room"]
abbrev cJ:Θ:=bZ
abbrev dG:Θ:=["self","room","name"]
abbrev iI:Θ:=dG.append ["called"]
abbrev cZ:Θ:=["self","room"]
abbrev f9:Θ:=cZ
abbrev iY:Θ:=["self","name","pay"]
abbrev tR:Θ:=iY
abbrev jP:Θ:=["self"]
abbrev JR:Θ:=jP
abbrev jA:Θ:=["self","name","pay","room"]
abbrev q_:Θ:=jA
abbrev gj:Θ:=["self","name","pay","pairs"]
abbrev p8:Θ:=gj
abbrev jU:Θ:=["self","name","pay","chance","room","other"]
abbrev yE:Θ:=jU
abbrev jC:Θ:=["self","name","pay","rooms"]
abbrev rG:Θ:=jC
abbrev gC:Θ:=["self","room"]
abbrev En:Θ:=gC
abbrev iJ:Θ:=["self","door"]
abbrev oZ:Θ:=iJ
end K10
namespace H10
open PySem PySem.W L2 L2.Once K10
abbrev p:Program:=PySem.Challenge.pw_chancehall_k10_a_hall
noncomputable section
def dR(P:Params)(x:Str)(t m:Nat):DictEntry:=dE P x t (.ref m)
def wD(l:List DictEntry)(n:Nat):Obj:=⟨.type "dict",none,.dict ⟨l⟩ n,⟨[]⟩⟩
def i3(a b:Nat)(c:Nat)(l:Δ):Δ:=.int a 0::.int b 0::.ref c::l
def nd(o:Obj)(l r:BT):BT:=.node o l r
def n1(o x:Obj):BT:=.node o (lf x) .nil
def n2(o x y:Obj):BT:=.node o (lf x) (lf y)
def wA:Obj:=⟨.type "builtin_function_or_method",none,.fields ⟨[.builtin "type.__prepare__",.type "type"]⟩,⟨[]⟩⟩
def wB(n:Nat):Obj:=⟨.type "builtin_function_or_method",none,.fields ⟨[.builtin "object.__init_subclass__",.ref n]⟩,⟨[]⟩⟩
def wC(n:Str)(t l r u:Nat):Obj:=⟨.type "code",none,.fields ⟨[.str n t,.str n (t+1),.str "/claim/cut.py" (t+2),.int l 0,.int 0 0,.int 0 0,.int 0 0,.int 0 0,.ref r,.bool false,.int 181 0,.ref (r+1),.none,.none,.none,.none,.int u 0,.int l 0,.str "/claim/cut.py" (u+1)]⟩,⟨[]⟩⟩
def wF(c d:Nat)(n:Str)(t:Nat):Obj:=⟨.type "frame",none,.plain,⟨[some (.ref c),some (.ref 3),some (.ref d),none,some (.str n t),none,some (.ref 0)]⟩⟩
def wG(t n:Nat):Obj:=⟨.type "getset_descriptor",none,.fields ⟨[.str "__weakref__" t,.ref n,.builtin "ExceptionGroup.__weakref__",.none]⟩,⟨[]⟩⟩
def wK(n:Str)(b m:Δ)(d:Nat)(s:Δ)(o:Ψ)(t u:Nat)(x:String):Obj:=⟨.type "type",none,.cls ⟨n,b,m,d,n,true,[],s,false,none,false⟩,⟨[o,none,some (.str n t),some (.str n u),some (.builtin x),some (.bool true)]⟩⟩
def wS(n:Nat):Obj:=⟨.type "super",none,.fields ⟨[.ref n,.ref n,.ref n]⟩,⟨[]⟩⟩
def wT(n:Nat):Obj:=⟨.type "tuple",none,.seq ⟨[.ref n]⟩ 0,⟨[]⟩⟩
def fO(n q:Str)(s:Stmt)(m:Value)(c:Nat):Obj:=⟨.type "function",none,.func (fnOf n q (iZ s) (eG s) (bC s) .none .none .none m none (.ref c) .none),⟨[]⟩⟩
def fT(n q:Str)(s:Stmt):Obj:=⟨.none,none,.func { fnOf n q (iZ s) (eG s) (bC s) .none .none .none .none none .none .none with globals:=0,builtins:=0 },⟨[]⟩⟩
def fV(n:Str)(k:Nat)(m:Value)(c:Nat):Obj:=fO n n (top k) m c
def fU(n:Str)(k:Nat):Obj:=fT n n (top k)
def cU(n:Str)(t:Nat)(l a f:Int)(r u:Nat):Obj:=cO n n t l a f r u
def cV(n:Str)(t:Nat)(l a f:Int)(r u:Nat):Obj:=cP n n t l a f r u
def dM(P:Params)(l:List (String×Nat×Nat)):List DictEntry:=l.map λx=>dR P (Str.ofString x.1) x.2.1 x.2.2
def dC(P:Params)(a:Nat)(m:Value)(n:Str)(l:Int)(r:List DictEntry):List DictEntry:=dE P "__module__" a m::dE P "__qualname__" (a+2) (.str n (a+1))::dE P "__firstlineno__" (a+4) (.int l (a+3))::r
def dF(P:Params)(a:Nat)(m:Value)(l:Int)(r:List DictEntry):List DictEntry:=dE P "__module__" a m::dE P "__firstlineno__" (a+4) (.int l (a+3))::r
def wX(n:Str)(c d o t u:Nat):Obj:=wK n [.ref 31] [.ref c,.ref 31,.type "ValueError",.type "Exception",.type "BaseException",.type "object"] d [] (some (.ref o)) t u "ValueError.__new__"
def mo0:Value:=.str "__main__" 164
def mo1:Value:=.str "chancehall.errors" 194
def mo2:Value:=.str "chancehall.wholes" 394
def mo3:Value:=.str "chancehall.ratios" 414
def mo4:Value:=.str "chancehall.words" 464
def mo5:Value:=.str "chancehall.halls" 474
def mo6:Value:=.str "chancehall.levels" 586
def mo7:Value:=.str "chancehall.doors" 602
def mo8:Value:=.str "law_chancehall_k10_a_hall" 789
def ahm(P:Params):Obj:=wD (dE P "__name__" 165 mo8::dE P "__doc__" 166 .none::dE P "__package__" 167 .none::dE P "__loader__" 168 (.builtin "__main__.__loader__#opaque")::dE P "__spec__" 169 .none::dR P "__annotations__" 170 6::dR P "__builtins__" 171 4::dE P "__file__" 173 (.str "/claim/cut.py" 172)::dE P "__cached__" 174 .none::dM P [("_wall",193,21),("HallError",213,31),("NoNumber",229,44),("NoName",245,56),("NoChance",261,68),("NoShare",277,80),("NoText",293,92),("NoRow",318,111),("NoRoom",343,130),("NoDoor",368,149),("NoPlan",393,168),("is_whole",402,177),("divisor",413,184),("NOUGHT",418,185),("ONE",421,186),("ratio",430,193),("is_ratio",439,200),("plus",447,207),("minus",455,214),("under",463,221)]++dE P "LONGEST_WORD" 467 (.int 8 466)::dM P [("is_word",473,226),("check_share",482,233),("numbers_of",492,240),("numbered_ways",503,247),("offers_of",514,254),("Hall",585,307),("level",593,316),("total",601,323),("check_head",611,330),("check_room_name",618,337),("check_chance",625,344),("check_pairs",631,349),("joined_ways",637,354),("Door",684,385),("Sure",711,406),("Mixed",738,425),("Toss",766,444),("Even",788,461),("_law_cell",798,470),("_law_stream",810,477),("_law_gcd",820,484),("_law_lowest",829,491),("_law_whole",836,498),("_law_fraction",843,505),("_law_only",849,510),("_law_names",855,515),("_law_door",861,520),("_law_drawn",879,527),("_law_ways",885,532),("_law_due",891,537),("_law_way",898,544),("_law_offers",904,549),("_law_built",910,554),("_law_rooms",926,561),("_law_asked",936,568),("_law_no_room",948,575),("_law_no_door",959,582)]++[]) 67
def q21:Obj:=fV "_wall" 0 mo0 20
def q22:Obj:=⟨.type "tuple",none,.seq ⟨.type "ValueError"::[]⟩ 0,⟨[]⟩⟩
def q24(P:Params):Obj:=wD (dC P 203 mo1 "HallError" 5 <|dR P "__static_attributes__" 208 29::[]) 4
def q30(P:Params):Obj:=wD (dF P 203 mo1 5 <|dR P "__static_attributes__" 208 29::dR P "__weakref__" 210 32::dE P "__doc__" 211 .none::[]) 3
def q31:Obj:=wK "HallError" [.type "ValueError"] [.ref 31,.type "ValueError",.type "Exception",.type "BaseException",.type "object"] 30 [.ref 44,.ref 56,.ref 68,.ref 80,.ref 92,.ref 111,.ref 130,.ref 149,.ref 168] (some (.ref 22)) 196 204 "ValueError.__new__"
def q37(P:Params):Obj:=wD (dC P 221 mo1 "NoNumber" 7 <|dR P "__static_attributes__" 226 42::[]) 4
def q43(P:Params):Obj:=wD (dF P 221 mo1 7 <|dR P "__static_attributes__" 226 42::dE P "__doc__" 227 .none::[]) 2
def q44:Obj:=wX "NoNumber" 44 43 35 214 222
def q49(P:Params):Obj:=wD (dC P 237 mo1 "NoName" 9 <|dR P "__static_attributes__" 242 54::[]) 4
def q55(P:Params):Obj:=wD (dF P 237 mo1 9 <|dR P "__static_attributes__" 242 54::dE P "__doc__" 243 .none::[]) 2
def q56:Obj:=wX "NoName" 56 55 47 230 238
def q61(P:Params):Obj:=wD (dC P 253 mo1 "NoChance" 11 <|dR P "__static_attributes__" 258 66::[]) 4
def q67(P:Params):Obj:=wD (dF P 253 mo1 11 <|dR P "__static_attributes__" 258 66::dE P "__doc__" 259 .none::[]) 2
def q68:Obj:=wX "NoChance" 68 67 59 246 254
def q73(P:Params):Obj:=wD (dC P 269 mo1 "NoShare" 13 <|dR P "__static_attributes__" 274 78::[]) 4
def q79(P:Params):Obj:=wD (dF P 269 mo1 13 <|dR P "__static_attributes__" 274 78::dE P "__doc__" 275 .none::[]) 2
def q80:Obj:=wX "NoShare" 80 79 71 262 270
def q85(P:Params):Obj:=wD (dC P 285 mo1 "NoText" 15 <|dR P "__static_attributes__" 290 90::[]) 4
def q91(P:Params):Obj:=wD (dF P 285 mo1 15 <|dR P "__static_attributes__" 290 90::dE P "__doc__" 291 .none::[]) 2
def q92:Obj:=wX "NoText" 92 91 83 278 286
def q97(P:Params):Obj:=wD (dC P 301 mo1 "NoRow" 17 <|dR P "__init__" 313 108::dR P "__static_attributes__" 315 109::[]) 5
def ac1:Obj:=cO "__init__" "NoRow.__init__" 306 19 2 3 102 311
def afQ:Obj:=fO "__init__" "NoRow.__init__" (d_ 8 0) mo1 107
def adH(P:Params):Obj:=wD (dF P 301 mo1 17 <|dR P "__init__" 313 108::dR P "__static_attributes__" 315 109::dE P "__doc__" 316 .none::[]) 2
def acZ:Obj:=wX "NoRow" 111 110 95 294 302
def agF(P:Params):Obj:=wD (dC P 326 mo1 "NoRoom" 22 <|dR P "__init__" 338 127::dR P "__static_attributes__" 340 128::[]) 5
def ady:Obj:=cO "__init__" "NoRoom.__init__" 331 24 2 3 121 336
def acp:Obj:=fO "__init__" "NoRoom.__init__" (d_ 9 0) mo1 126
def aft(P:Params):Obj:=wD (dF P 326 mo1 22 <|dR P "__init__" 338 127::dR P "__static_attributes__" 340 128::dE P "__doc__" 341 .none::[]) 2
def aeh:Obj:=wX "NoRoom" 130 129 114 319 327
def agp(P:Params):Obj:=wD (dC P 351 mo1 "NoDoor" 27 <|dR P "__init__" 363 146::dR P "__static_attributes__" 365 147::[]) 5
def aeI:Obj:=cO "__init__" "NoDoor.__init__" 356 29 2 3 140 361
def ae7:Obj:=fO "__init__" "NoDoor.__init__" (d_ 10 0) mo1 145
def ac0(P:Params):Obj:=wD (dF P 351 mo1 27 <|dR P "__init__" 363 146::dR P "__static_attributes__" 365 147::dE P "__doc__" 366 .none::[]) 2
def adq:Obj:=wX "NoDoor" 149 148 133 344 352
def agv(P:Params):Obj:=wD (dC P 376 mo1 "NoPlan" 32 <|dR P "__init__" 388 165::dR P "__static_attributes__" 390 166::[]) 5
def aew:Obj:=cO "__init__" "NoPlan.__init__" 381 34 2 3 159 386
def afw:Obj:=fO "__init__" "NoPlan.__init__" (d_ 11 0) mo1 164
def afR(P:Params):Obj:=wD (dF P 376 mo1 32 <|dR P "__init__" 388 165::dR P "__static_attributes__" 390 166::dE P "__doc__" 391 .none::[]) 2
def acj:Obj:=wX "NoPlan" 168 167 152 369 377
def aer:Obj:=fV "is_whole" 13 mo2 176
def aeC:Obj:=tN 406 FQ
def afg:Obj:=fV "divisor" 14 mo2 183
def adA:Obj:=⟨.type "tuple",none,.seq ⟨.int 0 416::.int 1 417::[]⟩ 0,⟨[]⟩⟩
def aeU:Obj:=⟨.type "tuple",none,.seq ⟨.int 1 419::.int 1 420::[]⟩ 0,⟨[]⟩⟩
def acU:Obj:=fV "ratio" 18 mo3 192
def afx:Obj:=fV "is_ratio" 19 mo3 199
def acL:Obj:=fV "plus" 20 mo3 206
def acM:Obj:=fV "minus" 21 mo3 213
def aej:Obj:=fV "under" 22 mo3 220
def af6:Obj:=fV "is_word" 25 mo4 225
def adO:Obj:=cU "check_share" 476 81 1 3 227 480
def adQ:Obj:=fV "check_share" 27 mo5 232
def acE:Obj:=cU "numbers_of" 483 84 1 3 234 490
def afh:Obj:=fV "numbers_of" 28 mo5 239
def ac2:Obj:=tN 496 qz
def adh:Obj:=cU "numbered_ways" 493 92 2 3 241 501
def aeE:Obj:=fV "numbered_ways" 29 mo5 246
def acq:Obj:=tN 507 yx
def adC:Obj:=cU "offers_of" 504 99 2 3 248 512
def aec:Obj:=fV "offers_of" 30 mo5 253
def agL(P:Params):Obj:=wD (dC P 522 mo5 "Hall" 108 <|dM P [("__init__",532,266),("size",539,273),("names",546,280),("place",554,287),("check_room",562,294),("door_at",568,299),("offers",574,304),("__static_attributes__",578,305)]++[]) 11
def adn:Obj:=cP "__init__" "Hall.__init__" 527 110 3 3 262 530
def aeu:Obj:=fO "__init__" "Hall.__init__" (d_ 31 0) mo5 265
def aep:Obj:=fO "size" "Hall.size" (d_ 31 1) mo5 272
def acK:Obj:=fO "names" "Hall.names" (d_ 31 2) mo5 279
def aeP:Obj:=fO "place" "Hall.place" (d_ 31 3) mo5 286
def ae9:Obj:=cO "check_room" "Hall.check_room" 555 127 2 3 288 560
def ade:Obj:=fO "check_room" "Hall.check_room" (d_ 31 4) mo5 293
def adI:Obj:=cP "door_at" "Hall.door_at" 563 131 3 3 295 566
def aeB:Obj:=fO "door_at" "Hall.door_at" (d_ 31 5) mo5 298
def adk:Obj:=cP "offers" "Hall.offers" 569 138 2 3 300 572
def adG:Obj:=fO "offers" "Hall.offers" (d_ 31 6) mo5 303
def adU(P:Params):Obj:=wD (dF P 522 mo5 108 <|dM P [("__init__",532,266),("size",539,273),("names",546,280),("place",554,287),("check_room",562,294),("door_at",568,299),("offers",574,304),("__static_attributes__",578,305),("__dict__",580,308),("__weakref__",582,309)]++dE P "__doc__" 583 .none::[]) 4
def ae4:Obj:=wK "Hall" [.type "object"] [.ref 307,.type "object"] 306 [] none 515 523 "object.__new__"
def afY:Obj:=⟨.type "getset_descriptor",none,.fields ⟨.str "__dict__" 579::.ref 307::.builtin "function.__dict__"::.builtin "function.__dict__#set"::[]⟩,⟨[]⟩⟩
def aeO:Obj:=fV "level" 33 mo6 315
def afd:Obj:=fV "total" 34 mo6 322
def acn:Obj:=cU "check_head" 604 151 2 3 324 609
def afr:Obj:=fV "check_head" 36 mo7 329
def adR:Obj:=cU "check_room_name" 612 156 1 3 331 616
def aed:Obj:=fV "check_room_name" 37 mo7 336
def aex:Obj:=cU "check_chance" 619 159 1 3 338 623
def afS:Obj:=fV "check_chance" 38 mo7 343
def afD:Obj:=cV "check_pairs" 626 162 1 3 345 629
def acJ:Obj:=fV "check_pairs" 39 mo7 348
def adP:Obj:=cV "joined_ways" 632 168 1 3 350 635
def acD:Obj:=fV "joined_ways" 40 mo7 353
def agP(P:Params):Obj:=wD (dC P 645 mo7 "Door" 173 <|dM P [("__init__",658,368),("ways",665,375),("chance_to",673,382),("__static_attributes__",677,383)]++[]) 7
def aeb:Obj:=cO "__init__" "Door.__init__" 650 175 3 3 362 656
def ae0:Obj:=fO "__init__" "Door.__init__" (d_ 41 0) mo7 367
def adD:Obj:=fO "ways" "Door.ways" (d_ 41 1) mo7 374
def adB:Obj:=cO "chance_to" "Door.chance_to" 666 184 2 3 376 671
def aeX:Obj:=fO "chance_to" "Door.chance_to" (d_ 41 2) mo7 381
def afL(P:Params):Obj:=wD (dF P 645 mo7 173 <|dM P [("__init__",658,368),("ways",665,375),("chance_to",673,382),("__static_attributes__",677,383),("__dict__",679,386),("__weakref__",681,387)]++dE P "__doc__" 682 .none::[]) 4
def adl:Obj:=wK "Door" [.type "object"] [.ref 385,.type "object"] 384 [.ref 406,.ref 425] none 638 646 "object.__new__"
def aee:Obj:=⟨.type "getset_descriptor",none,.fields ⟨.str "__dict__" 678::.ref 385::.builtin "function.__dict__"::.builtin "function.__dict__#set"::[]⟩,⟨[]⟩⟩
def agD(P:Params):Obj:=wD (dC P 692 mo7 "Sure" 186 <|dR P "__init__" 706 403::dR P "__static_attributes__" 708 404::[]) 5
def adS:Obj:=cO "__init__" "Sure.__init__" 697 188 4 3 397 704
def afe:Obj:=fO "__init__" "Sure.__init__" (d_ 42 0) mo7 402
def afN(P:Params):Obj:=wD (dF P 692 mo7 186 <|dR P "__init__" 706 403::dR P "__static_attributes__" 708 404::dE P "__doc__" 709 .none::[]) 2
def aeL:Obj:=wK "Sure" [.ref 385] [.ref 406,.ref 385,.type "object"] 405 [] (some (.ref 390)) 685 693 "object.__new__"
def ag6(P:Params):Obj:=wD (dC P 719 mo7 "Mixed" 192 <|dR P "__init__" 733 422::dR P "__static_attributes__" 735 423::[]) 5
def aco:Obj:=cO "__init__" "Mixed.__init__" 724 194 4 3 416 731
def acG:Obj:=fO "__init__" "Mixed.__init__" (d_ 43 0) mo7 421
def afO(P:Params):Obj:=wD (dF P 719 mo7 192 <|dR P "__init__" 733 422::dR P "__static_attributes__" 735 423::dE P "__doc__" 736 .none::[]) 2
def ad4:Obj:=wK "Mixed" [.ref 385] [.ref 425,.ref 385,.type "object"] 424 [.ref 444,.ref 461] (some (.ref 409)) 712 720 "object.__new__"
def agm(P:Params):Obj:=wD (dC P 746 mo7 "Toss" 198 <|dR P "__init__" 762 441::dR P "__static_attributes__" 763 442::[]) 5
def afM:Obj:=tN 754 yE
def adx:Obj:=cO "__init__" "Toss.__init__" 751 200 6 3 435 760
def acQ:Obj:=fO "__init__" "Toss.__init__" (d_ 44 0) mo7 440
def aef(P:Params):Obj:=wD (dF P 746 mo7 198 <|dR P "__init__" 762 441::dR P "__static_attributes__" 763 442::dE P "__doc__" 764 .none::[]) 2
def adY:Obj:=wK "Toss" [.ref 425] [.ref 444,.ref 425,.ref 385,.type "object"] 443 [] (some (.ref 428)) 739 747 "object.__new__"
def agW(P:Params):Obj:=wD (dC P 774 mo7 "Even" 204 <|dR P "__init__" 784 458::dR P "__static_attributes__" 785 459::[]) 5
def aeN:Obj:=cP "__init__" "Even.__init__" 779 206 4 3 454 782
def adZ:Obj:=fO "__init__" "Even.__init__" (d_ 45 0) mo7 457
def ac9(P:Params):Obj:=wD (dF P 774 mo7 204 <|dR P "__init__" 784 458::dR P "__static_attributes__" 785 459::dE P "__doc__" 786 .none::[]) 2
def acO:Obj:=wK "Even" [.ref 425] [.ref 461,.ref 425,.ref 385,.type "object"] 460 [] (some (.ref 447)) 767 775 "object.__new__"
def ada:Obj:=cU "_law_cell" 791 209 2 3 464 796
def ae5:Obj:=fV "_law_cell" 47 mo8 469
def acP:Obj:=tN 802 Ke
def aeW:Obj:=cU "_law_stream" 799 211 2 3 471 808
def afn:Obj:=fV "_law_stream" 48 mo8 476
def acB:Obj:=tN 814 Zi
def afz:Obj:=cU "_law_gcd" 811 222 2 3 478 818
def adu:Obj:=fV "_law_gcd" 49 mo8 483
def afs:Obj:=tN 824 Js
def acX:Obj:=cU "_law_lowest" 821 227 2 3 485 827
def acg:Obj:=fV "_law_lowest" 50 mo8 490
def ac3:Obj:=cU "_law_whole" 830 230 1 3 492 834
def ac4:Obj:=fV "_law_whole" 51 mo8 497
def adN:Obj:=cU "_law_fraction" 837 232 1 3 499 841
def aei:Obj:=fV "_law_fraction" 52 mo8 504
def adw:Obj:=cV "_law_only" 844 238 2 3 506 847
def aeS:Obj:=fV "_law_only" 53 mo8 509
def acA:Obj:=cV "_law_names" 850 243 2 3 511 853
def adp:Obj:=fV "_law_names" 54 mo8 514
def acW:Obj:=cV "_law_door" 856 257 3 3 516 859
def aeF:Obj:=fV "_law_door" 55 mo8 519
def ae3:Obj:=tN 865 Ot
def aeZ:Obj:=cU "_law_drawn" 862 271 1 3 521 877
def adi:Obj:=fV "_law_drawn" 56 mo8 526
def afK:Obj:=cV "_law_ways" 880 292 2 3 528 883
def acF:Obj:=fV "_law_ways" 57 mo8 531
def afu:Obj:=cV "_law_due" 886 298 1 3 533 889
def adV:Obj:=fV "_law_due" 58 mo8 536
def adE:Obj:=cU "_law_way" 892 300 1 3 538 896
def aes:Obj:=fV "_law_way" 59 mo8 543
def adf:Obj:=cV "_law_offers" 899 302 2 3 545 902
def acr:Obj:=fV "_law_offers" 60 mo8 548
def adF:Obj:=cV "_law_built" 905 313 3 3 550 908
def af4:Obj:=fV "_law_built" 61 mo8 553
def af2:Obj:=tN 914 ["_law_hall","_law_names_here","_law_rooms_here","_law_many","_law_told","_law_k","_law_doors","_law_stranger","_law_j","_law_found"]
def ad5:Obj:=cU "_law_rooms" 911 324 3 3 555 924
def ac6:Obj:=fV "_law_rooms" 62 mo8 560
def acR:Obj:=tN 930 Qe
def adM:Obj:=cU "_law_asked" 927 340 4 3 562 934
def aeG:Obj:=fV "_law_asked" 63 mo8 567
def afA:Obj:=tN 940 Fp
def adL:Obj:=cU "_law_no_room" 937 347 4 3 569 946
def afl:Obj:=fV "_law_no_room" 64 mo8 574
def afE:Obj:=tN 952 Gd
def acz:Obj:=cU "_law_no_door" 949 358 3 3 576 957
def ad3:Obj:=fV "_law_no_door" 65 mo8 581
def tr1(P:Params):BT:=nd (boot_o_0 P) (nd (boot_o_1 P) (nd (ahm P) (nd (boot_o_7 P) (nd tE (nd q31 (nd fE (nd acp (n1 tE tE) (lf (tN 674 ["leads","name","pay"]))) (nd (fU "ratio" 18) (n1 (tN 597 Gx) afl) (lf (wT 425)))) (nd (wT 31) (nd tE (n1 aeP adE) (lf (wF 414 411 "chancehall.doors" 602))) (n2 fE fE fE))) (nd (wT 31) (nd (q79 P) (nd tE (n1 (fT "size" "Hall.size" (d_ 31 1)) adi) (lf (tN 700 q_))) (n2 acL (fU "check_room_name" 37) (wB 461))) (nd acZ (nd (fU "is_whole" 13) (n1 adk (fU "_law_rooms" 62)) (lf tE)) (n2 acE aeb tE)))) (nd wA (nd fE (nd (wT 31) (nd (agp P) (n1 fE acW) (lf wA)) (n2 (cU "is_ratio" 431 60 1 3 194 437) tE fE)) (nd fE (nd (afR P) (n1 tE fE) (lf (tN 734 ["leads"]))) (n2 (fU "check_share" 27) (⟨.none,none,.fields ⟨i3 175 4 367 <|i3 181 4 374 <|i3 184 4 381 <|[]⟩,⟨[]⟩⟩) afs))) (nd (q55 P) (nd fE (nd (wB 149) (n1 (cO "names" "Hall.names" 540 119 1 3 274 544) (fU "_law_due" 58)) (lf (wS 406))) (n2 tE aex tE)) (nd (wC "NoRoom" 321 22 117 324) (nd (cU "divisor" 403 40 2 3 178 411) (n1 (wB 307) adM) (lf (fT "__init__" "Toss.__init__" (d_ 44 0)))) (n2 aeE adD (fU "_law_fraction" 52)))))) (nd o11 (nd (fU "_wall" 0) (nd (wT 31) (nd (q67 P) (nd (wS 130) (n1 (⟨.none,none,.fields ⟨i3 110 4 265 <|i3 116 4 272 <|i3 119 4 279 <|i3 122 4 286 <|i3 127 4 293 <|i3 131 4 298 <|i3 138 4 303 <|[]⟩,⟨[]⟩⟩) adp) (lf (wG 680 385))) (nd fE (n1 afd tE) (lf (⟨.none,none,.fields ⟨i3 206 4 457 <|[]⟩,⟨[]⟩⟩)))) (nd (⟨.none,none,.fields ⟨i3 19 4 107 <|[]⟩,⟨[]⟩⟩) (nd (fT "__init__" "NoPlan.__init__" (d_ 11 0)) (n1 tE (fU "_law_offers" 60)) (lf tE)) (n2 tE tE afz))) (nd fE (nd (wT 31) (nd (tN 364 ["door"]) (n1 fE afK) (lf afe)) (n2 tE fE tE)) (nd wA (nd fE (n1 ae4 fE) (lf tE)) (n2 ac2 (tN 662 ["self"]) tE)))) (nd (wC "HallError" 198 5 25 201) (nd (q43 P) (nd fE (nd (wF 138 135 "chancehall.errors" 194) (n1 tE ae3) (lf (wC "Sure" 687 186 393 690))) (n2 (tN 443 dJ) tE tE)) (nd ac1 (nd tE (n1 aeB tE) (lf (wB 425))) (n2 fE fE acg))) (nd (wT 31) (nd (q91 P) (nd tE (n1 (tN 550 pP) fE) (lf (ag6 P))) (n2 (fU "under" 22) (fU "check_pairs" 39) (fU "_law_stream" 48))) (nd (tN 334 cJ) (nd tE (n1 (cV "level" 588 142 1 3 312 591) afA) (lf (aef P))) (n2 tE tE fE)))))) (nd (boot_o_5 P) (nd (boot_o_9 P) (nd (tN 190 ["k"]) (nd (wS 31) (nd (wF 64 61 "chancehall.errors" 194) (nd (aft P) (n1 (agL P) (fU "_law_names" 54)) (lf adl)) (nd acU (n1 (fU "total" 34) fE) (lf (agW P)))) (nd (q97 P) (nd (tN 384 cJ) (n1 fE tE) (lf fE)) (n2 (cV "is_word" 468 76 1 3 222 471) adP tE))) (nd (q49 P) (nd (wS 80) (nd aeI (n1 aep fE) (lf (fT "__init__" "Sure.__init__" (d_ 42 0)))) (n2 fE aed fE)) (nd (wB 111) (nd aer (n1 (tN 575 ["numbers","offered","share"]) ac6) (lf (wC "Toss" 741 198 431 744))) (n2 tE tE ac3)))) (nd tE (nd (wF 40 37 "chancehall.errors" 194) (nd (q73 P) (nd (⟨.none,none,.fields ⟨i3 29 4 145 <|[]⟩,⟨[]⟩⟩) (n1 adn tE) (lf tE)) (n2 tE acn aeN)) (nd tE (nd (wS 168) (n1 (fT "door_at" "Hall.door_at" (d_ 31 5)) adF) (lf ad4)) (n2 adQ (wF 360 357 "chancehall.doors" 602) (fU "_law_lowest" 50)))) (nd (wS 56) (nd (wF 88 85 "chancehall.errors" 194) (nd wA (n1 tE adV) (lf (wT 385))) (n2 (tN 459 dJ) tE acP)) (nd tE (nd adA (n1 fE tE) (lf acQ)) (n2 fE fE aei))))) (nd o13 (nd q21 (nd (q37 P) (nd (wS 68) (nd (wT 31) (n1 (wF 260 257 "chancehall.halls" 474) fE) (lf (wB 385))) (nd tE (n1 fE acz) (lf (wF 452 449 "chancehall.doors" 602)))) (nd (wF 100 97 "chancehall.errors" 194) (nd afw (n1 ae9 acr) (lf aco)) (n2 (tN 479 ["share"]) (agP P) tE))) (nd (wF 52 49 "chancehall.errors" 194) (nd (q85 P) (nd adq (n1 tE tE) (lf (afN P))) (n2 (cU "minus" 448 70 2 3 208 453) tE ada)) (nd tE (nd tE (n1 (wG 581 307) tE) (lf afM)) (n2 (fU "numbered_ways" 29) (fT "ways" "Door.ways" (d_ 41 1)) (tN 840 v9))))) (nd tE (nd (wS 44) (nd (wF 76 73 "chancehall.errors" 194) (nd fE (n1 (tN 536 ["self"]) (fU "_law_drawn" 56)) (lf tE)) (n2 (fU "plus" 20) (tN 615 ["room"]) acO)) (nd (tN 314 ["row"]) (nd (tN 399 ["thing"]) (n1 fE af2) (lf wA)) (n2 tE tE fE))) (nd (q61 P) (nd (wS 92) (nd (wC "NoPlan" 371 32 155 374) (n1 (fT "place" "Hall.place" (d_ 31 3)) tE) (lf (⟨.none,none,.fields ⟨i3 194 4 421 <|[]⟩,⟨[]⟩⟩))) (n2 aej acJ afn)) (nd (fT "__init__" "NoRoom.__init__" (d_ 9 0)) (nd (tN 425 I9) (n1 tE (fU "_law_no_room" 64)) (lf (wS 444))) (n2 adC adB adw))))))) (nd (boot_o_2 P) (nd (boot_o_4 P) (nd (boot_o_8 P) (nd fE (nd (wG 209 31) (nd (wC "NoChance" 248 11 62 251) (nd (tN 339 ["room"]) (n1 wA fE) (lf (afL P))) (nd (cU "ratio" 422 51 2 3 187 428) (n1 tE tE) (lf wA))) (nd wA (nd fE (n1 tE aes) (lf tE)) (n2 (fU "is_word" 25) (fU "joined_ways" 40) acB))) (nd wA (nd q80 (nd (fT "__init__" "NoDoor.__init__" (d_ 10 0)) (n1 (cO "size" "Hall.size" 533 116 1 3 267 537) tE) (lf tE)) (n2 tE adR tE)) (nd (wS 111) (nd (cU "is_whole" 396 38 1 3 171 400) (n1 adG ad5) (lf (⟨.none,none,.fields ⟨i3 200 4 440 <|[]⟩,⟨[]⟩⟩))) (n2 afh ae0 (fU "_law_whole" 51))))) (nd (q24 P) (nd (wC "NoNumber" 216 7 38 219) (nd wA (nd tE (n1 (fT "__init__" "Hall.__init__" (d_ 31 0)) aeF) (lf (agD P))) (n2 afx (fU "check_head" 36) (fT "__init__" "Even.__init__" (d_ 45 0)))) (nd (tN 309 ["self","row"]) (nd acj (n1 fE (fU "_law_built" 61)) (lf (afO P))) (n2 adO (wC "Door" 640 173 358 643) tE))) (nd q56 (nd (wC "NoText" 280 15 86 283) (nd (wT 31) (n1 acK afu) (lf (wB 406))) (n2 fE afS fE)) (nd (wF 119 116 "chancehall.errors" 194) (nd afg (n1 tE aeG) (lf adx)) (n2 tE tE adN))))) (nd (⟨.none,none,.fields ⟨i3 1 0 20 <|i3 5 0 27 <|i3 7 0 40 <|i3 9 0 52 <|i3 11 0 64 <|i3 13 0 76 <|i3 15 0 88 <|i3 17 0 100 <|i3 22 0 119 <|i3 27 0 138 <|i3 32 0 157 <|i3 38 0 176 <|i3 40 0 183 <|i3 51 0 192 <|i3 60 0 199 <|i3 68 0 206 <|i3 70 0 213 <|i3 72 0 220 <|i3 76 0 225 <|i3 81 0 232 <|i3 84 0 239 <|i3 92 0 246 <|i3 99 0 253 <|i3 108 0 260 <|i3 142 0 315 <|i3 147 0 322 <|i3 151 0 329 <|i3 156 0 336 <|i3 159 0 343 <|i3 162 0 348 <|i3 168 0 353 <|i3 173 0 360 <|i3 186 0 395 <|i3 192 0 414 <|i3 198 0 433 <|i3 204 0 452 <|i3 209 0 469 <|i3 211 0 476 <|i3 222 0 483 <|i3 227 0 490 <|i3 230 0 497 <|i3 232 0 504 <|i3 238 0 509 <|i3 243 0 514 <|i3 257 0 519 <|i3 271 0 526 <|i3 292 0 531 <|i3 298 0 536 <|i3 300 0 543 <|i3 302 0 548 <|i3 313 0 553 <|i3 324 0 560 <|i3 340 0 567 <|i3 347 0 574 <|i3 358 0 581 <|[]⟩,⟨[]⟩⟩) (nd (cU "_wall" 187 1 1 3 15 191) (nd wA (nd q68 (nd (wB 130) (n1 (wC "Hall" 517 108 258 520) tE) (lf (wS 385))) (nd (tN 434 uQ) (n1 tE (fU "_law_no_door" 65)) (lf (wC "Even" 769 204 450 772)))) (nd (wC "NoRow" 296 17 98 299) (nd aew (n1 (fT "check_room" "Hall.check_room" (d_ 31 4)) adf) (lf (fT "__init__" "Mixed.__init__" (d_ 43 0)))) (n2 fE wA adu))) (nd (wC "NoName" 232 9 50 235) (nd wA (nd (ac0 P) (n1 (tN 543 ["self"]) acF) (lf (tN 707 ["leads"]))) (n2 (fU "minus" 21) (tN 622 ["chance"]) (fU "_law_cell" 47))) (nd (agF P) (nd aeC (n1 afY acR) (lf fE)) (n2 tE tE fE)))) (nd (wF 27 24 "chancehall.errors" 194) (nd q44 (nd (wC "NoShare" 264 13 74 267) (nd tE (n1 fE tE) (lf (wF 395 392 "chancehall.doors" 602))) (n2 tE fE (ac9 P))) (nd afQ (nd fE (n1 tE fE) (lf (wT 425))) (n2 (tN 486 qd) (tN 653 tR) tE))) (nd wA (nd q92 (nd (⟨.none,none,.fields ⟨i3 34 4 164 <|[]⟩,⟨[]⟩⟩) (n1 tE (tN 895 Tw)) (lf tE)) (n2 (cU "under" 456 72 2 3 215 461) afD aeW)) (nd tE (nd fE (n1 aeO tE) (lf adY)) (n2 (fU "offers_of" 30) (fT "chance_to" "Door.chance_to" (d_ 41 2)) (fU "_law_only" 53))))))) (nd (boot_o_6 P) (nd (boot_o_10 P) (nd tE (nd (wB 31) (nd tE (nd aeh (n1 tE acA) (lf aee)) (nd tE (n1 (cU "total" 594 147 1 3 317 599) afE) (lf tE))) (nd tE (nd tE (n1 (tN 558 cJ) fE) (lf (tN 727 p8))) (n2 af6 acD (fU "_law_gcd" 49)))) (nd tE (nd (wB 80) (nd ae7 (n1 tE (fU "_law_ways" 57)) (lf adS)) (n2 (tN 451 dJ) tE (tN 794 N7))) (nd (wT 31) (nd tE (n1 (adU P) tE) (lf (wF 433 430 "chancehall.doors" 602))) (n2 fE fE ac4)))) (nd fE (nd tE (nd tE (nd (wC "NoDoor" 346 27 136 349) (n1 aeu fE) (lf (⟨.none,none,.fields ⟨i3 188 4 402 <|[]⟩,⟨[]⟩⟩))) (n2 fE afr adZ)) (nd (fT "__init__" "NoRow.__init__" (d_ 8 0)) (nd (wB 168) (n1 adI af4) (lf (wS 425))) (n2 tE tE acX))) (nd (wB 56) (nd tE (nd (agv P) (n1 fE tE) (lf wA)) (n2 tE fE tE)) (nd fE (nd aeU (n1 (fU "level" 33) fE) (lf tE)) (n2 acq (tN 669 cJ) tE))))) (nd o14 (nd q22 (nd tE (nd (wB 68) (nd wA (n1 tE (fU "_law_door" 55)) (lf (wT 385))) (nd (fU "is_ratio" 19) (n1 (tN 607 qg) ad3) (lf tE))) (nd tE (nd (tN 389 ["room"]) (n1 ade tE) (lf acG)) (n2 tE tE fE))) (nd tE (nd tE (nd (wS 149) (n1 (fT "names" "Hall.names" (d_ 31 2)) fE) (lf aeL)) (n2 acM (fU "check_chance" 38) ae5)) (nd (⟨.none,none,.fields ⟨i3 24 4 126 <|[]⟩,⟨[]⟩⟩) (nd (fU "divisor" 14) (n1 (wS 307) (fU "_law_asked" 63)) (lf tE)) (n2 adh (cO "ways" "Door.ways" 659 181 1 3 369 663) tE)))) (nd (q30 P) (nd (wB 44) (nd tE (nd (tN 359 oZ) (n1 tE aeZ) (lf fE)) (n2 (cU "plus" 440 68 2 3 201 445) tE (wS 461))) (nd (adH P) (nd tE (n1 (fT "offers" "Hall.offers" (d_ 31 6)) tE) (lf (agm P))) (n2 (fU "numbers_of" 28) (fT "__init__" "Door.__init__" (d_ 41 0)) (tN 833 v9)))) (nd tE (nd (wB 92) (nd (wF 157 154 "chancehall.errors" 194) (n1 (cO "place" "Hall.place" 547 122 2 3 281 552) (fU "_law_way" 59)) (lf (wC "Mixed" 714 192 412 717))) (n2 tE tE tE)) (nd ady (nd tE (n1 fE adL) (lf (wB 444))) (n2 aec aeX aeS)))))))
def S1(w:World)(os:OsState):SharedT:=⟨tr1 w.params,583,{},⟨[]⟩,{},960,os⟩
def e1:Pos:=⟨358,0,364,103⟩
def KH:Params->Frag:=λP=>(
 (nat_lit 2,boot_o_2 P)::(nat_lit 3,wD (dE P "__name__" 165 mo8::dE P "__doc__" 166 .none::dE P "__package__" 167 .none::dE P "__loader__" 168 (.builtin "__main__.__loader__#opaque")::dE P "__spec__" 169 .none::dR P "__annotations__" 170 6::dR P "__builtins__" 171 4::dE P "__file__" 173 (.str "/claim/cut.py" 172)::dE P "__cached__" 174 .none::dM P [("_wall",193,21),("HallError",213,31),("NoNumber",229,44),("NoName",245,56),("NoChance",261,68),("NoShare",277,80),("NoText",293,92),("NoRow",318,111),("NoRoom",343,130),("NoDoor",368,149),("NoPlan",393,168),("is_whole",402,177),("divisor",413,184),("NOUGHT",418,185),("ONE",421,186),("ratio",430,193),("is_ratio",439,200),("plus",447,207),("minus",455,214),("under",463,221)]++dE P "LONGEST_WORD" 467 (.int 8 466)::dM P [("is_word",473,226),("check_share",482,233),("numbers_of",492,240),("numbered_ways",503,247),("offers_of",514,254),("Hall",585,307),("level",593,316),("total",601,323),("check_head",611,330),("check_room_name",618,337),("check_chance",625,344),("check_pairs",631,349),("joined_ways",637,354),("Door",684,385),("Sure",711,406),("Mixed",738,425),("Toss",766,444),("Even",788,461),("_law_cell",798,470),("_law_stream",810,477),("_law_gcd",820,484),("_law_lowest",829,491),("_law_whole",836,498),("_law_fraction",843,505),("_law_only",849,510),("_law_names",855,515),("_law_door",861,520),("_law_drawn",879,527),("_law_ways",885,532),("_law_due",891,537),("_law_way",898,544),("_law_offers",904,549),("_law_built",910,554),("_law_rooms",926,561),("_law_asked",936,568),("_law_no_room",948,575),("_law_no_door",959,582),("_law_strangers",965,587),("law",971,592)]++[]) 69)::(nat_lit 15,tE)::(nat_lit 17,tN 190 ["k"])::(nat_lit 18,tE)::(nat_lit 20,cU "_wall" 187 1 1 3 15 191)::(nat_lit 21,q21)::(nat_lit 22,q22)::(nat_lit 29,tE)::(nat_lit 30,q30 P)::(nat_lit 31,q31)::(nat_lit 32,(wG 209 31))::(nat_lit 35,(wT 31))::(nat_lit 42,tE)::(nat_lit 43,q43 P)::(nat_lit 44,q44)::(nat_lit 47,(wT 31))::(nat_lit 54,tE)::(nat_lit 55,q55 P)::(nat_lit 56,q56)::(nat_lit 59,(wT 31))::(nat_lit 66,tE)::(nat_lit 67,q67 P)::(nat_lit 68,q68)::(nat_lit 71,(wT 31))::(nat_lit 78,tE)::(nat_lit 79,q79 P)::(nat_lit 80,q80)::(nat_lit 83,(wT 31))::(nat_lit 90,tE)::(nat_lit 91,q91 P)::(nat_lit 92,q92)::(nat_lit 95,(wT 31))::(nat_lit 102,tE)::(nat_lit 104,tN 309 ["self","row"])::(nat_lit 105,tE)::(nat_lit 107,ac1)::(nat_lit 108,afQ)::(nat_lit 109,tN 314 ["row"])::(nat_lit 110,adH P)::(nat_lit 111,acZ)::(nat_lit 114,(wT 31))::(nat_lit 121,tE)::(nat_lit 123,tN 334 cJ)::(nat_lit 124,tE)::(nat_lit 126,ady)::(nat_lit 127,acp)::(nat_lit 128,tN 339 ["room"])::(nat_lit 129,aft P)::(nat_lit 130,aeh)::(nat_lit 133,(wT 31))::(nat_lit 140,tE)::(nat_lit 142,tN 359 oZ)::(nat_lit 143,tE)::(nat_lit 145,aeI)::(nat_lit 146,ae7)::(nat_lit 147,tN 364 ["door"])::(nat_lit 148,ac0 P)::(nat_lit 149,adq)::(nat_lit 152,(wT 31))::(nat_lit 159,tE)::(nat_lit 161,tN 384 cJ)::(nat_lit 162,tE)::(nat_lit 164,aew)::(nat_lit 165,afw)::(nat_lit 166,tN 389 ["room"])::(nat_lit 167,afR P)::(nat_lit 168,acj)::(nat_lit 171,tE)::(nat_lit 173,tN 399 ["thing"])::(nat_lit 174,tE)::(nat_lit 176,cU "is_whole" 396 38 1 3 171 400)::(nat_lit 177,aer)::(nat_lit 178,tE)::(nat_lit 180,aeC)::(nat_lit 181,tE)::(nat_lit 183,cU "divisor" 403 40 2 3 178 411)::(nat_lit 184,afg)::(nat_lit 185,adA)::(nat_lit 186,aeU)::(nat_lit 187,tE)::(nat_lit 189,tN 425 I9)::(nat_lit 190,tE)::(nat_lit 192,cU "ratio" 422 51 2 3 187 428)::(nat_lit 193,acU)::(nat_lit 194,tE)::(nat_lit 196,tN 434 uQ)::(nat_lit 197,tE)::(nat_lit 199,cU "is_ratio" 431 60 1 3 194 437)::(nat_lit 200,afx)::(nat_lit 201,tE)::(nat_lit 203,tN 443 dJ)::(nat_lit 204,tE)::(nat_lit 206,cU "plus" 440 68 2 3 201 445)::(nat_lit 207,acL)::(nat_lit 208,tE)::(nat_lit 210,tN 451 dJ)::(nat_lit 211,tE)::(nat_lit 213,cU "minus" 448 70 2 3 208 453)::(nat_lit 214,acM)::(nat_lit 215,tE)::(nat_lit 217,tN 459 dJ)::(nat_lit 218,tE)::(nat_lit 220,cU "under" 456 72 2 3 215 461)::(nat_lit 221,aej)::(nat_lit 222,tE)::(nat_lit 225,cV "is_word" 468 76 1 3 222 471)::(nat_lit 226,af6)::(nat_lit 227,tE)::(nat_lit 229,tN 479 ["share"])::(nat_lit 230,tE)::(nat_lit 232,adO)::(nat_lit 233,adQ)::(nat_lit 234,tE)::(nat_lit 236,tN 486 qd)::(nat_lit 237,tE)::(nat_lit 239,acE)::(nat_lit 240,afh)::(nat_lit 241,tE)::(nat_lit 243,ac2)::(nat_lit 244,tE)::(nat_lit 246,adh)::(nat_lit 247,aeE)::(nat_lit 248,tE)::(nat_lit 250,acq)::(nat_lit 251,tE)::(nat_lit 253,adC)::(nat_lit 254,aec)::(nat_lit 262,tE)::(nat_lit 265,adn)::(nat_lit 266,aeu)::(nat_lit 267,tE)::(nat_lit 269,tN 536 ["self"])::(nat_lit 270,tE)::(nat_lit 272,cO "size" "Hall.size" 533 116 1 3 267 537)::(nat_lit 273,aep)::(nat_lit 274,tE)::(nat_lit 276,tN 543 ["self"])::(nat_lit 277,tE)::(nat_lit 279,cO "names" "Hall.names" 540 119 1 3 274 544)::(nat_lit 280,acK)::(nat_lit 281,tE)::(nat_lit 283,tN 550 pP)::(nat_lit 284,tE)::(nat_lit 286,cO "place" "Hall.place" 547 122 2 3 281 552)::(nat_lit 287,aeP)::(nat_lit 288,tE)::(nat_lit 290,tN 558 cJ)::(nat_lit 291,tE)::(nat_lit 293,ae9)::(nat_lit 294,ade)::(nat_lit 295,tE)::(nat_lit 298,adI)::(nat_lit 299,aeB)::(nat_lit 300,tE)::(nat_lit 303,adk)::(nat_lit 304,adG)::(nat_lit 305,tN 575 ["numbers","offered","share"])::(nat_lit 306,adU P)::(nat_lit 307,ae4)::(nat_lit 308,afY)::(nat_lit 309,(wG 581 307))::(nat_lit 312,tE)::(nat_lit 315,cV "level" 588 142 1 3 312 591)::(nat_lit 316,aeO)::(nat_lit 317,tE)::(nat_lit 319,tN 597 Gx)::(nat_lit 320,tE)::(nat_lit 322,cU "total" 594 147 1 3 317 599)::(nat_lit 323,afd)::(nat_lit 324,tE)::(nat_lit 326,tN 607 qg)::(nat_lit 327,tE)::(nat_lit 329,acn)::(nat_lit 330,afr)::(nat_lit 331,tE)::(nat_lit 333,tN 615 ["room"])::(nat_lit 334,tE)::(nat_lit 336,adR)::(nat_lit 337,aed)::(nat_lit 338,tE)::(nat_lit 340,tN 622 ["chance"])::(nat_lit 341,tE)::(nat_lit 343,aex)::(nat_lit 344,afS)::(nat_lit 345,tE)::(nat_lit 348,afD)::(nat_lit 349,acJ)::(nat_lit 350,tE)::(nat_lit 353,adP)::(nat_lit 354,acD)::(nat_lit 362,tE)::(nat_lit 364,tN 653 tR)::(nat_lit 365,tE)::(nat_lit 367,aeb)::(nat_lit 368,ae0)::(nat_lit 369,tE)::(nat_lit 371,tN 662 ["self"])::(nat_lit 372,tE)::(nat_lit 374,cO "ways" "Door.ways" 659 181 1 3 369 663)::(nat_lit 375,adD)::(nat_lit 376,tE)::(nat_lit 378,tN 669 cJ)::(nat_lit 379,tE)::(nat_lit 381,adB)::(nat_lit 382,aeX)::(nat_lit 383,tN 674 ["leads","name","pay"])::(nat_lit 384,afL P)::(nat_lit 385,adl)::(nat_lit 386,aee)::(nat_lit 387,(wG 680 385))::(nat_lit 390,(wT 385))::(nat_lit 397,tE)::(nat_lit 399,tN 700 q_)::(nat_lit 400,tE)::(nat_lit 402,adS)::(nat_lit 403,afe)::(nat_lit 404,tN 707 ["leads"])::(nat_lit 405,afN P)::(nat_lit 406,aeL)::(nat_lit 409,(wT 385))::(nat_lit 416,tE)::(nat_lit 418,tN 727 p8)::(nat_lit 419,tE)::(nat_lit 421,aco)::(nat_lit 422,acG)::(nat_lit 423,tN 734 ["leads"])::(nat_lit 424,afO P)::(nat_lit 425,ad4)::(nat_lit 428,(wT 425))::(nat_lit 435,tE)::(nat_lit 437,afM)::(nat_lit 438,tE)::(nat_lit 440,adx)::(nat_lit 441,acQ)::(nat_lit 442,tE)::(nat_lit 443,aef P)::(nat_lit 444,adY)::(nat_lit 447,(wT 425))::(nat_lit 454,tE)::(nat_lit 457,aeN)::(nat_lit 458,adZ)::(nat_lit 459,tE)::(nat_lit 460,ac9 P)::(nat_lit 461,acO)::(nat_lit 464,tE)::(nat_lit 466,tN 794 N7)::(nat_lit 467,tE)::(nat_lit 469,ada)::(nat_lit 470,ae5)::(nat_lit 471,tE)::(nat_lit 473,acP)::(nat_lit 474,tE)::(nat_lit 476,aeW)::(nat_lit 477,afn)::(nat_lit 478,tE)::(nat_lit 480,acB)::(nat_lit 481,tE)::(nat_lit 483,afz)::(nat_lit 484,adu)::(nat_lit 485,tE)::(nat_lit 487,afs)::(nat_lit 488,tE)::(nat_lit 490,acX)::(nat_lit 491,acg)::(nat_lit 492,tE)::(nat_lit 494,tN 833 v9)::(nat_lit 495,tE)::(nat_lit 497,ac3)::(nat_lit 498,ac4)::(nat_lit 499,tE)::(nat_lit 501,tN 840 v9)::(nat_lit 502,tE)::(nat_lit 504,adN)::(nat_lit 505,aei)::(nat_lit 506,tE)::(nat_lit 509,adw)::(nat_lit 510,aeS)::(nat_lit 511,tE)::(nat_lit 514,acA)::(nat_lit 515,adp)::(nat_lit 516,tE)::(nat_lit 519,acW)::(nat_lit 520,aeF)::(nat_lit 521,tE)::(nat_lit 523,ae3)::(nat_lit 524,tE)::(nat_lit 526,aeZ)::(nat_lit 527,adi)::(nat_lit 528,tE)::(nat_lit 531,afK)::(nat_lit 532,acF)::(nat_lit 533,tE)::(nat_lit 536,afu)::(nat_lit 537,adV)::(nat_lit 538,tE)::(nat_lit 540,tN 895 Tw)::(nat_lit 541,tE)::(nat_lit 543,adE)::(nat_lit 544,aes)::(nat_lit 545,tE)::(nat_lit 548,adf)::(nat_lit 549,acr)::(nat_lit 550,tE)::(nat_lit 553,adF)::(nat_lit 554,af4)::(nat_lit 555,tE)::(nat_lit 557,af2)::(nat_lit 558,tE)::(nat_lit 560,ad5)::(nat_lit 561,ac6)::(nat_lit 562,tE)::(nat_lit 564,acR)::(nat_lit 565,tE)::(nat_lit 567,adM)::(nat_lit 568,aeG)::(nat_lit 569,tE)::(nat_lit 571,afA)::(nat_lit 572,tE)::(nat_lit 574,adL)::(nat_lit 575,afl)::(nat_lit 576,tE)::(nat_lit 578,afE)::(nat_lit 579,tE)::(nat_lit 581,acz)::(nat_lit 582,ad3)::(nat_lit 583,tE)::(nat_lit 586,cV "_law_strangers" 960 365 4 3 583 963)::(nat_lit 587,fV "_law_strangers" 66 mo8 586)::(nat_lit 588,tE)::(nat_lit 591,cV "law" 966 379 1 3 588 969)::(nat_lit 592,fV "law" 67 mo8 591)::([] : List (Nat×Obj)))
abbrev asH:List Nat:=[2,3,15,17,18,20,21,22,29,30,31,32,35,42,43,44,47,54,55,56,59,66,67,68,71,78,79,80,83,90,91,92,95,102,104,105,107,108,109,110,111,114,121,123,124,126,127,128,129,130,133,140,142,143,145,146,147,148,149,152,159,161,162,164,165,166,167,168,171,173,174,176,177,178,180,181,183,184,185,186,187,189,190,192,193,194,196,197,199,200,201,203,204,206,207,208,210,211,213,214,215,217,218,220,221,222,225,226,227,229,230,232,233,234,236,237,239,240,241,243,244,246,247,248,250,251,253,254,262,265,266,267,269,270,272,273,274,276,277,279,280,281,283,284,286,287,288,290,291,293,294,295,298,299,300,303,304,305,306,307,308,309,312,315,316,317,319,320,322,323,324,326,327,329,330,331,333,334,336,337,338,340,341,343,344,345,348,349,350,353,354,362,364,365,367,368,369,371,372,374,375,376,378,379,381,382,383,384,385,386,387,390,397,399,400,402,403,404,405,406,409,416,418,419,421,422,423,424,425,428,435,437,438,440,441,442,443,444,447,454,457,458,459,460,461,464,466,467,469,470,471,473,474,476,477,478,480,481,483,484,485,487,488,490,491,492,494,495,497,498,499,501,502,504,505,506,509,510,511,514,515,516,519,520,521,523,524,526,527,528,531,532,533,536,537,538,540,541,543,544,545,548,549,550,553,554,555,557,558,560,561,562,564,565,567,568,569,571,572,574,575,576,578,579,581,582,583,586,587,588,591,592]
end
def qv:Program:=view p [0,2,3,4,5,6,7,8,9,10,11,13,14,16,17,18,19,20,21,22,24,25,27,28,29,30,31,33,34,36,37,38,39,40,41,42,43,44,45,47,48,49,50,51,52,53,54,55,56,57,58,59,60,61,62,63,64,65,66,67]
abbrev R:RowW:=PySem.Challenge.rw_chancehall_k10_a_hall.row.toRowW
def Xt(s:Shared):Bool:=xlAt qv [] s&&recOk R.records s
def e:Pos:=⟨379,0,404,121⟩
set_option maxHeartbeats 0
theorem lko:looksOpen PySem.Challenge.rw_chancehall_k10_a_hall.row.prog=true:=by kernel_rfl
theorem wsd:PySem.Challenge.rw_chancehall_k10_a_hall.wellSaid=true:=by
 unfold OpenLaw.wellSaid OpenRow.wellSaid OpenRow.partSaid;rw[lko]
 kernel_rfl
theorem asK:∀P,asH=(KH P).map (·.1):=λ_=>by kernel_rfl
theorem pre(w:World):(λos=>topGo treeTable p w 11 ann 12 (S0 w os) (topStub p))=λos=>some (Sa w os,⟨denote treeTable (cE p),cE p,z,B⟩):=by
 rw[Fast.te15667345088766844465,Fast.te14364793385576792824,Fast.te11892475500146522536];kernel_rfl
theorem block(w:World):(λos=>segRun treeTable p w 11 ann 1 1 (Sa w os) (blockOf (behindTheImports p) (env p) (cE p) z B))=λos=>some (.next,(Sb w os).abs,cE p,z):=by
 rw[Fast.te14374325043358763698,Fast.te14364793385576792824];kernel_rfl
theorem afp(w:World):(λos=>segRunT treeTable p w 11 ann 1 30000 (Sb w os) (piecesOf ((behindTheImports p).take 66) (env p) (cE p) z B))=λos=>some (.next,S1 w os,cE p,e1):=by
 rw[Fast.te10110043849684766642,Fast.te14364793385576792824];kernel_rfl
theorem comb{R S A B C X Y Z:Type _}{o:Option R}{f:R->A}{g:R->B}{k:R->C}{h:R->Option S}{f1:S->X}{f2:S->Y}{f3:S->Z}{a:A}{b:B}{c:C}{x:X}{y:Y}{z:Z}(h1:(o.map λr=>(f r,g r,k r,(h r).map f1))=some (a,b,c,some x))(h2:(o.map λr=>(f r,g r,k r,(h r).map f2))=some (a,b,c,some y))(h3:(o.map λr=>(f r,g r,k r,(h r).map f3))=some (a,b,c,some z)):(o.map λr=>(f r,g r,k r,(h r).map λs=>(f1 s,f2 s,f3 s)))=some (a,b,c,some (x,y,z)):=by
 cases o with
 |none=>cases h1
 |some r =>
  simp only[Option.map_some,Option.some.injEq,Prod.mk.injEq]at h1 h2 h3 ⊢;obtain⟨a1,a2,a3,a4⟩:=h1;obtain⟨_,_,_,b4⟩:=h2;obtain⟨_,_,_,c4⟩:=h3;cases hr:h r with
  |none=>rw[hr]at a4;cases a4
  |some s =>
   rw[hr]at a4 b4 c4;refine⟨a1,a2,a3,?_⟩;simp only[Option.map_some,Option.some.injEq]at a4 b4 c4 ⊢;rw[a4,b4,c4]
theorem agb(w:World):(λos=>(segRunT treeTable p w 11 ann 1 50000 (S1 w os) (piecesOf ((behindTheImports p).drop 66) (env p) (cE p) e1 B)).map λr=>(r.1,r.2.2.1,r.2.2.2,(topRun treeTable p w 11 ann 2 r.2.1.abs ⟨doneF .next,cE p,e,B⟩).map λs=>openSeen qv [] (importedModules p.main.body) Xt true s))=λ_=>some (.next,cE p,e,some (openGood qv [])):=by
 rw[Fast.te10110043849684766642,Fast.te14364793385576792824,Fast.te14082659384304107361,Fast.te4187177175401517315,Fast.te5923862056798008813];kernel_rfl
theorem agy(w:World):(λos=>(segRunT treeTable p w 11 ann 1 50000 (S1 w os) (piecesOf ((behindTheImports p).drop 66) (env p) (cE p) e1 B)).map λr=>(r.1,r.2.2.1,r.2.2.2,(topRun treeTable p w 11 ann 2 r.2.1.abs ⟨doneF .next,cE p,e,B⟩).map λs=>staticsOk (importedModules p.main.body) (boot_heap w.params) s.heap&&namesBound p s.heap&&gensDone s&&laidKept (boot_heap w.params) s.heap))=λ_=>some (.next,cE p,e,some (true)):=by
 rw[Fast.te10110043849684766642,Fast.te14364793385576792824,Fast.te14082659384304107361];kernel_rfl
theorem ag0(w:World):(λos=>(segRunT treeTable p w 11 ann 1 50000 (S1 w os) (piecesOf ((behindTheImports p).drop 66) (env p) (cE p) e1 B)).map λr=>(r.1,r.2.2.1,r.2.2.2,(topRun treeTable p w 11 ann 2 r.2.1.abs ⟨doneF .next,cE p,e,B⟩).map λs=>asH.map s.heap.get?))=λ_=>some (.next,cE p,e,some ((KH w.params).map λp=>some p.2)):=by
 rw[Fast.te10110043849684766642,Fast.te14364793385576792824,Fast.te14082659384304107361];kernel_rfl
theorem big(w:World):(λos=>(segRunT treeTable p w 11 ann 1 50000 (S1 w os) (piecesOf ((behindTheImports p).drop 66) (env p) (cE p) e1 B)).map λr=>(r.1,r.2.2.1,r.2.2.2,(topRun treeTable p w 11 ann 2 r.2.1.abs ⟨doneF .next,cE p,e,B⟩).map λs=>(staticsOk (importedModules p.main.body) (boot_heap w.params) s.heap&&namesBound p s.heap&&gensDone s&&laidKept (boot_heap w.params) s.heap,openSeen qv [] (importedModules p.main.body) Xt true s,asH.map s.heap.get?)))=λ_=>some (.next,cE p,e,some (true,openGood qv [],(KH w.params).map λp=>some p.2)):=funext λos=>comb (congrFun (agy w) os) (congrFun (agb w) os) (congrFun (ag0 w) os)
theorem left:LeftO p qv [] Xt (λs=>asH.map s.heap.get?) (λw=>(KH w.params).map λp=>some p.2) 200000 :=
 Rv (boot_open rfl rfl λ_=>rfl) pre block (λw os=>lD.cutAt (congrFun (afp w) os) (lD.last (congrFun (big w) os))) rfl
theorem hX(s:Shared)(h:Xt s=true):XL qv [] (s.heap.nsMap mainGlobals) s.heap:=xl_of s (Bool.and_eq_true_iff.mp h).1
theorem hR(s:Shared)(h:Xt s=true):RecFacts R.records s.heap:=recFacts_of (Bool.and_eq_true_iff.mp h).2
end H10
noncomputable section
namespace L2
open PySem PySem.Spec PyProof.Rows
abbrev Key:=Sum Int Str
def vh:Key->Value->Bool
 |.inl k,v=>Value.isInt k v
 |.inr x,v=>Value.isStrOf x v
def agA(w:World):Key->Int
 |.inl k=>hashInt k
 |.inr x=>hashStr w x
theorem fY:∀{k:Key}{v:Value},vh k v=true->(∃i t,k=Sum.inl i/\v=Value.int i t)\/(∃x t,k=Sum.inr x/\v=Value.str x t)
 |.inl i,v,h=>by
  obtain⟨t,e⟩:=Value.isInt_shape (k:=i) (v:=v) h;exact .inl ⟨i,t,rfl,e⟩
 |.inr x,v,h=>by
  obtain⟨t,e⟩:=Value.isStrOf_shape (x:=x) (v:=v) h;exact .inr ⟨x,t,rfl,e⟩
theorem RZ(i:Int)(t:Tok):vh (.inl i) (.int i t)=true:=by simp[vh,Value.isInt]
theorem Qy(x:Str)(t:Tok):vh (.inr x) (.str x t)=true:=by simp[vh,Value.isStrOf]
theorem ab8(a b:Int):decide ((Sum.inl a:Key)=Sum.inl b)=(a==b):=by
 by_cases e:a=b
 .subst e;simp
 .have h:¬(Sum.inl a:Key)=Sum.inl b:=λq=>e (Sum.inl.inj q);rw[Zp h];exact(beq_eq_false_iff_ne.mpr e).symm
theorem aaP(a b:Str):decide ((Sum.inr a:Key)=Sum.inr b)=decide (a=b):=by
 by_cases e:a=b
 .subst e;simp
 .have h:¬(Sum.inr a:Key)=Sum.inr b:=λq=>e (Sum.inr.inj q);rw[Zp h,Zp e]
theorem abK(a:Int)(b:Str):decide ((Sum.inl a:Key)=Sum.inr b)=false:=Zp (λq=>nomatch q)
theorem aaz(a:Str)(b:Int):decide ((Sum.inr a:Key)=Sum.inl b)=false:=Zp (λq=>nomatch q)
def fH(prog:Program)(w:World):PySem.KeyKind prog w Key where
 is:=vh
 hash:=agA w
 inj:=λv a b ha hb=>by
  rcases fY ha with⟨i,t,rfl,rfl⟩|⟨x,t,rfl,rfl⟩
  .rcases fY hb with⟨j,u,rfl,e⟩|⟨y,u,rfl,e⟩
   .injection e with e1 _;rw[e1]
   .exact nomatch e
  .rcases fY hb with⟨j,u,rfl,e⟩|⟨y,u,rfl,e⟩
   .exact nomatch e
   .injection e with e1 _;rw[e1]
 byValue:=λk v h=>by
  rcases fY h with⟨i,t,rfl,rfl⟩|⟨x,t,rfl,rfl⟩<;>rfl
 pyHash:=λhv h=>by
  rcases fY hv with⟨i,t,rfl,rfl⟩|⟨x,t,rfl,rfl⟩
  .exact wpAny_pyHash_int h
  .exact wpAny_pyHash_str h
 eqBool:=λhu hv h=>by
  rcases fY hu with⟨i,t,rfl,rfl⟩|⟨x,t,rfl,rfl⟩
  .rcases fY hv with⟨j,u,rfl,rfl⟩|⟨y,u,rfl,rfl⟩
   .rw[ab8]at h;exact wpAny_eqBool_int h
   .rw[abK]at h;exact SeqAt.EqAt.int_str i t y u _ _ _ _ h
  .rcases fY hv with⟨j,u,rfl,rfl⟩|⟨y,u,rfl,rfl⟩
   .rw[aaz]at h;exact SeqAt.EqAt.str_int x t j u _ _ _ _ h
   .rw[aaP]at h;exact wpAny_eqBool_str h
 «strs»:=λk x t v h=>by
  rcases fY h with⟨i,u,rfl,e⟩|⟨y,u,rfl,e⟩
  .exact nomatch e
  .injection e with e1 _;subst e1;cases v<;>rfl
theorem Ju(prog:Program)(w:World)(i:Int)(t:Tok):(fH prog w).is (.inl i) (.int i t)=true:=RZ i t
theorem KJ(prog:Program)(w:World)(x:Str)(t:Tok):(fH prog w).is (.inr x) (.str x t)=true:=Qy x t
inductive V where
 |non|bl (b:Bool)|int (i:Int)|str (x:Str)|byt (b:Array UInt8)|flt (b:UInt64)|ref (a:Addr)|ty (n:String)
 deriving DecidableEq
abbrev Β:=List V
def RelV:V->Value->Prop
 |.non,u=>u=Value.none
 |.bl b,u=>u=Value.bool b
 |.int i,u=>∃t,u=Value.int i t
 |.str x,u=>∃t,u=Value.str x t
 |.byt b,u=>∃t,u=Value.bytes b t
 |.flt b,u=>∃t,u=Value.float b t
 |.ref a,u=>u=Value.ref a
 |.ty n,u=>u=Value.type n
abbrev Vals:Β->Δ->Prop:=Paired RelV
theorem Vals.length{xs:Β}{us:Δ}(r:Vals xs us):xs.length=us.length:=Paired.length r
theorem Vals.get:∀{xs:Β}{us:Δ}{i:Nat}{x:V},Vals xs us->xs[i]?=some x->∃u,us[i]?=some u/\RelV x u
 |_,_,_,_,.nil,e=>by simp at e
 |_,_,0,_,.cons r _,e=>by simp at e;subst e;exact⟨_,rfl,r⟩
 |_,_,i+1,x,.cons _ t,e=>by
  obtain⟨u,h1,h2⟩:=Vals.get (i:=i) (x:=x) t (by simpa using e);exact⟨u,by simpa using h1,h2⟩
theorem Vals.set{x:V}{u:Value}(r:RelV x u):∀{xs:Β}{us:Δ}(i:Nat),Vals xs us->Vals (xs.set i x) (us.set i u)
 |_,_,_,.nil=>.nil
 |_,_,0,.cons _ t=>.cons r t
 |_,_,i+1,.cons q t=>.cons q (Vals.set r i t)
theorem Vals.append:∀{xs ys:Β}{us ws:Δ},Vals xs us->Vals ys ws->Vals (xs++ys) (us++ws)
 |_,_,_,_,.nil,s=>s
 |_,_,_,_,.cons r t,s=>.cons r (Vals.append t s)
theorem Vals.take:∀{xs:Β}{us:Δ}(n:Nat),Vals xs us->Vals (xs.take n) (us.take n)
 |_,_,0,_=>.nil
 |_,_,_+1,.nil=>.nil
 |_,_,n+1,.cons r t=>.cons r (Vals.take n t)
theorem Vals.drop:∀{xs:Β}{us:Δ}(n:Nat),Vals xs us->Vals (xs.drop n) (us.drop n)
 |_,_,0,r=>r
 |_,_,_+1,.nil=>.nil
 |_,_,n+1,.cons _ t=>Vals.drop n t
def rM:Option V->Ψ->Prop
 |some v,some u=>RelV v u
 |none,none=>True
 |_,_=>False
def KV{κ:Type} : List (κ×V)->List (κ×Value)->Prop:=Paired λ(p:κ×V)(q:κ×Value)=>p.1=q.1/\RelV p.2 q.2
def kV:Key->V
 |.inl i=>.int i
 |.inr x=>.str x
inductive HO where
  |lst (xs:Β)
  |tup (xs:Β)
  |dK (kvs:List (Key×V))
  |set (S:Int->Bool) (n:Nat)
  |ins (C dx:Addr) (fs:List (Str×V))
  |own (x:Addr)
  |xd (fs:List (Str×V))
  |met (f x:Addr)
  |rng (lo hi:Int)
  |frz (o:Obj) (u:HO)
  |tbl (ps:Array Value)
  |ext (φ:Heap->Prop)
abbrev Hp:=Addr->Option HO
def upd(H:Hp)(a:Addr)(o:HO):Hp:=λb=>if b=a then some o else H b
theorem bQ{H:Hp}{a:Addr}{o:HO} : upd H a o a=some o:=by unfold upd;rw[ZY rfl]
theorem bM{H:Hp}{a b:Addr}{o:HO}(h:b≠a):upd H a o b=H b:=by unfold upd;rw[ZZ h]
theorem BK{H:Hp}{a b:Addr}{o u:HO}(h:H a=some o)(h':H b=some u)(d:o≠u):a≠b:=by
 intro e;subst e;rw[h]at h';exact d (Option.some.inj h')
theorem ju{H:Hp}{a b:Addr}{o:HO}(h:H a=some o)(h':H b=none):a≠b:=by
 intro e;subst e;rw[h]at h';cases h'
section
variable(P:Program)(w:World)
def dW(H:Hp)(h:Heap)(a:Addr):HO->Prop
 |.lst xs=>xs.length<=sizeLine/\∃(its:Δ)(n:Nat),Vals xs its/\h.get? a=some { cls:=.type "list",data:=.seq its.toArray n }
 |.tup xs=>xs.length<=sizeLine/\∃its:Δ,Vals xs its/\IsTup h a its.toArray
 |.dK kvs=>kvs.length<=sizeLine/\(a==sysModules)=false/\∃vs,KV kvs vs/\h.DictOf (fH P w) a vs
 |.set S n=>h.SetOf (intKind P w) a S n
 |.ins C dx fs=>H dx=some (.own a)/\fs.length<=1000/\dx≠a/\h.get? a=some (instObj C dx) /\
   ∃mA,h.Ns1 dx mA/\(∀f,rM (fs.lookup f) (mA f))/\PySem.Within mA (fs.map (·.1))
 |.own _=>∃o,h.get? a=some o
 |.xd fs=>∃mA,h.Ns1 a mA/\∀f,rM (fs.lookup f) (mA f)
 |.rng lo hi=>∃t u v,h.get? a=some { cls:=.type "range",data:=.fields #[.int lo t,.int hi u,.int 1 v] }
 |.frz o u=>h.get? a=some o/\dW H h a u
 |.tbl ps=>h.get? a=some { cls:=.none,data:=.fields ps }
 |.met f x=>h.get? a=some (methodObj (.ref f) (.ref x))
 |.ext φ=>φ h/\(∃o,h.get? a=some o)/\∀h1 h2:Heap,φ h1->(∀o,h1.get? a=some o->h2.get? a=some o)->φ h2
def HOk(H:Hp)(h:Heap):Prop:=∀a o,H a=some o->dW P w H h a o
end
section
variable{P:Program}{w:World}{H H':Hp}{h h':Heap}{a:Addr}{o:HO}
theorem dW.lt(x:dW P w H h a o):a<h.objs.size:=by
 cases o with
 |lst xs=>obtain⟨_,_,_,_,e⟩:=x;exact aJ e
 |tup xs=>obtain⟨_,_,_,p⟩:=x;exact p.lt
 |dK kvs=>obtain⟨_,_,_,_,o,_,_,e,_⟩:=x;exact aJ e
 |set S n=>obtain⟨o,_,_,_,e,_⟩:=x;exact aJ e
 |ins C dx fs=>obtain⟨_,_,_,e,_⟩:=x;exact aJ e
 |own y=>obtain⟨_,e⟩:=x;exact aJ e
 |xd fs=>obtain⟨_,⟨_,_,_,e,_⟩,_⟩:=x;exact aJ e
 |rng lo hi=>obtain⟨_,_,_,e⟩:=x;exact aJ e
 |frz ob u=>obtain⟨e,_⟩:=x;exact aJ e
 |tbl ps=>exact aJ (show h.get? a=some _ from x)
 |met f y=>exact aJ (show h.get? a=some _ from x)
 |ext φ=>obtain⟨_,⟨_,e⟩,_⟩:=x;exact aJ e
theorem dW.stay(x:dW P w H h a o)(k:∀b u,(b=a\/H b=some (.own a))->h.get? b=some u->h'.get? b=some u)
 (ho:∀b,H b=some (.own a)->H' b=some (.own a))(ht:∀b xs,H b=some (.tup xs)->H' b=some (.tup xs)):dW P w H' h' a o:=by
 induction o with
 |lst xs=>obtain⟨z,its,n,r,e⟩:=x;exact⟨z,its,n,r,k _ _ (.inl rfl) e⟩
 |tup xs=>obtain⟨z,its,r,ob,e,c⟩:=x;exact⟨z,its,r,ob,k _ _ (.inl rfl) e,c⟩
 |dK kvs=>obtain⟨z,y,vs,r,ob,es,ep,e,c⟩:=x;exact⟨z,y,vs,r,ob,es,ep,k _ _ (.inl rfl) e,c⟩
 |set S n=>obtain⟨ob,es,ep,t,e,c⟩:=x;exact⟨ob,es,ep,t,k _ _ (.inl rfl) e,c⟩
 |ins C dx fs =>
  obtain⟨d,z,ne,e,mA,⟨od,es,ep,e2,c⟩,r⟩:=x;exact⟨ho _ d,z,ne,k _ _ (.inl rfl) e,mA,⟨od,es,ep,k _ _ (.inr d) e2,c⟩,r⟩
 |own y=>obtain⟨ob,e⟩:=x;exact⟨ob,k _ _ (.inl rfl) e⟩
 |xd fs=>obtain⟨mA,⟨od,es,ep,e,c⟩,r⟩:=x;exact⟨mA,⟨od,es,ep,k _ _ (.inl rfl) e,c⟩,r⟩
 |rng lo hi=>obtain⟨t,u,v,e⟩:=x;exact⟨t,u,v,k _ _ (.inl rfl) e⟩
 |frz ob u ih=>obtain⟨e,q⟩:=x;exact⟨k _ _ (.inl rfl) e,ih q⟩
 |tbl ps =>
  have e:h.get? a=some { cls:=.none,data:=.fields ps }:=x;show h'.get? a=some { cls:=.none,data:=.fields ps };exact k a _ (.inl rfl) e
 |met f y =>
  have e:h.get? a=some (methodObj (.ref f) (.ref y)):=x;show h'.get? a=some (methodObj (.ref f) (.ref y));exact k a _ (.inl rfl) e
 |ext φ=>obtain⟨p,⟨o,e⟩,st⟩:=x;exact⟨st _ _ p λo q=>k _ _ (.inl rfl) q,⟨o,k _ _ (.inl rfl) e⟩,st⟩
theorem HOk.lt(x:HOk P w H h)(e:H a=some o):a<h.objs.size:=(x a o e).lt
theorem HOk.fresh(x:HOk P w H h)(e:h.objs.size<=a):H a=none:=by
 cases q:H a with
 |none=>rfl
 |some u=>exact absurd (aR (x.lt q) e) (XV _)
theorem HOk.kept(x:HOk P w H h)(k:∀b u,h.get? b=some u->h'.get? b=some u):HOk P w H h':=λa o e =>
 (x a o e).stay (λb u _ q=>k b u q) (λ_ q=>q) λ_ _ q=>q
theorem HOk.laid(x:HOk P w H h)(k:∀b u,h.get? b=some u->h'.get? b=some u)(hp:h.objs.size<=a)(new:dW P w (upd H a o) h' a o):HOk P w (upd H a o) h':=λb u e=>by
 have hn:=x.fresh hp;by_cases hb:b=a
 .subst hb;rw[bQ]at e;cases e;exact new
 .rw[bM hb]at e;exact(x b u e).stay (λc v _ q=>k c v q) (λc q=>by rw[bM (ju q hn)];exact q) λc xs q=>by rw[bM (ju q hn)];exact q
end
def Rd(H:Hp)(a:Addr)(u:HO):Prop:=H a=some u\/∃o,H a=some (.frz o u)
theorem Rd.of{H:Hp}{a:Addr}{u:HO}(h:H a=some u):Rd H a u:=.inl h
theorem Rd.ok{P:Program}{w:World}{H:Hp}{h:Heap}{a:Addr}{u:HO}(r:Rd H a u)(x:HOk P w H h):dW P w H h a u:=by
 rcases r with r|⟨o,r⟩
 .exact x a u r
 .obtain⟨_,q⟩:=x a _ r;exact q
def Mut:Option HO->Prop
 |some (.lst _)=>True
 |some (.dK _)=>True
 |some (.set _ _)=>True
 |some (.ins _ _ _)=>True
 |some (.ext _)=>True
 |_=>False
section
variable{P:Program}{w:World}{H:Hp}{h h':Heap}{x e:Addr}{o':HO}
theorem HOk.write(ok:HOk P w H h)(mu:Mut (H x))(he:e=x\/H e=some (.own x))(k:∀b u,b≠e->h.get? b=some u->h'.get? b=some u)(gS:∃u,h'.get? e=some u)
 (new:dW P w (upd H x o') h' x o'):HOk P w (upd H x o') h':=λb u q=>by
 have g9:∀c y,H c=some (.own y)->c≠x:=λc y r z=>by subst z;rw[r]at mu;exact mu
 have km:∀c xs,H c=some (.tup xs)->c≠x:=λc xs r z=>by subst z;rw[r]at mu;exact mu
 by_cases hb:b=x
 .subst hb;rw[bQ]at q;cases q;exact new
 .rw[bM hb]at q;by_cases hbe:b=e
  .have q':H b=some (.own x):=by
    rcases he with z|z
    .exact absurd (hbe.trans z) hb
    .rw[hbe];exact z
   rw[q]at q';cases q';obtain⟨v,hv⟩:=gS;exact⟨v,by rw[hbe];exact hv⟩
  .refine(ok b u q).stay (λc v hc r=>k c v ?_ r) (λc r=>by rw[bM (g9 c b r)];exact r) λc xs r=>by rw[bM (km c xs r)];exact r
   rcases hc with rfl|hc
   .exact hbe
   .rintro rfl;rcases he with z|z
    .exact g9 c b hc z
    .rw[hc]at z;cases z;exact hb rfl
end
structure Un(fs ex:Φ)(H H':Hp)(h h':Heap):Prop where
 keep:∀b o,h.get? b=some o->H b=none->b∉fs->b∉ex->h'.get? b=some o
 slot:∀b o,h.get? b=some o->H b=none->b∈fs->b∉ex->∃sl,h'.get? b=some { o with slots:=sl }
 free:∀b o,h.get? b=some o->H b=none->b∉ex->H' b=none
 there:∀b o,h.get? b=some o->b∉ex->∃o',h'.get? b=some o'
 tups:∀b xs,H b=some (.tup xs)->H' b=some (.tup xs)
 frzs:∀b o u,H b=some (.frz o u)->H' b=some (.frz o u)
 tbls:∀b ps,H b=some (.tbl ps)->∃more,H' b=some (.tbl (ps++more))
section
variable{fs fs' ex ex':Φ}{H H1 H2:Hp}{h h1 h2 h':Heap}{a x e:Addr}{o:HO}
theorem Un.any(u:Un fs ex H H1 h h1){b:Addr}{ob:Obj}(q:h.get? b=some ob)(n:H b=none)(hx:b∉ex):∃sl,h1.get? b=some { ob with slots:=sl }:=by
 by_cases hb:b∈fs
 .exact u.slot b ob q n hb hx
 .exact⟨ob.slots,u.keep b ob q n hb hx⟩
theorem Un.kept(k:∀b u,h.get? b=some u->h'.get? b=some u):Un fs ex H H h h' :=
 ⟨λb ob q _ _ _=>k b ob q,λb ob q _ _ _=>⟨ob.slots,k b ob q⟩,λ_ _ _ n _=>n,λb ob q _=>⟨ob,k b ob q⟩,λ_ _ q=>q,λ_ _ _ q=>q,λ_ ps q=>⟨#[],by rw[q];simp⟩⟩
theorem Un.refl:Un fs ex H H h h:=Un.kept λ_ _ q=>q
theorem Un.laid(k:∀b u,h.get? b=some u->h'.get? b=some u)(hp:h.objs.size<=a)(hn:H a=none):Un fs ex H (upd H a o) h h' where
 keep:=λb u q _ _ _=>k b u q
 slot:=λb u q _ _ _=>⟨u.slots,k b u q⟩
 free:=λb u q n _=>by rw[bM (aQ (aR (aJ q) hp))];exact n
 there:=λb u q _=>⟨u,k b u q⟩
 tups:=λb xs q=>by rw[bM (ju q hn)];exact q
 frzs:=λb u xs q=>by rw[bM (ju q hn)];exact q
 tbls:=λb ps q=>⟨#[],by rw[bM (ju q hn),q];simp⟩
theorem Un.write(mu:Mut (H x))(he:e=x\/H e=some (.own x))(k:∀b u,b≠e->h.get? b=some u->h'.get? b=some u)(gS:∃u,h'.get? e=some u):Un fs ex H (upd H x o) h h':=by
 have hx:∀b,H b=none->b≠x:=λb n z=>by subst z;rw[n]at mu;exact mu
 have hb:∀b,H b=none->b≠e:=λb n z=>by
  subst z;rcases he with r|r
  .exact hx b n r
  .rw[n]at r;cases r
 have hm:∀b u,H b=some u->¬Mut (some u)->b≠x:=λb u q nm z=>by subst z;rw[q]at mu;exact nm mu
 refine⟨λb u q n _ _=>k b u (hb b n) q,λb u q n _ _=>⟨u.slots,k b u (hb b n) q⟩,λb u q n _=>by rw[bM (hx b n)];exact n,λb u q _=>?_,
  λb xs q=>by rw[bM (hm b _ q λz=>z)];exact q,λb u xs q=>by rw[bM (hm b _ q λz=>z)];exact q,λb ps q=>⟨#[],by rw[bM (hm b _ q λz=>z),q];simp⟩⟩
 by_cases hbe:b=e
 .subst hbe;exact gS
 .exact⟨u,k b u hbe q⟩
end
def trk(h:Heap)(H:Hp):Φ:=(List.range h.objs.size).filter λa=>(H a).isSome
def Jd(h:Heap)(H:Hp):Heap:=hideAll h (trk h H)
theorem QX(h:Heap)(H:Hp):(Jd h H).objs.size=h.objs.size:=PySem.W.hideAll_size _ _
theorem Ut{h:Heap}{H:Hp}{b:Addr}{o:Obj}(e:h.get? b=some o)(n:H b=none):(Jd h H).get? b=some o :=
 hideAll_get _ e λhm=>by
  have q:(H b).isSome=true:=(List.mem_filter.mp hm).2;rw[n]at q;simp at q
theorem Y8{h:Heap}{H:Hp}{b:Addr}{o:Obj}(e:(Jd h H).get? b=some o):h.get? b=some o/\H b=none:=by
 have e':h.get? b=some o:=of_hideAll (trk h H) e;refine⟨e',?_⟩;cases q:H b with
 |none=>rfl
 |some x =>
  have hm:b∈trk h H:=List.mem_filter.mpr ⟨List.mem_range.mpr (aJ e'),by simp[q]⟩;have z:(Jd h H).get? b=none:=PySem.W.hideAll_none (trk h H) hm;rw[z]at e;cases e
def X5(g h:Heap)(L:Addr):Γ:=(List.range h.objs.size).filterMap λa=>if a=L\/(g.get? a).isSome=true then none else(h.get? a).map λo=>(a,o)
def rest(g h:Heap)(L d:Addr):Γ:=(X5 g h L).filter λp=>decide (p.1≠d)
structure Mod(K:Frag)(mg:Str->Ψ)(base:Heap):Prop where
 kin:K.In base
 glob:base.Ns mainGlobals mg
 blt:∃mb,base.Ns builtinsNs mb/\∀x:Str,x≠"__name__"->mb x=bootBuiltins x
 nolimit:base.NoLimit
structure Cx where
 prog:Program
 w:World
 K:Frag
 mg:Str->Ψ
 base:Heap
 A:Around
 N:Θ
 s₀:Shared
 H₀:Hp
 env:Env
 outer:List Env
 stack:List Env
 ex:Φ
 fn:Str->Bool
 calm:Bool
 pn:Γ
 xe:Ξ
def frs(l:List Env):Φ:=l.filterMap (·.frame)
abbrev Cx.fs(X:Cx):Φ:=frs X.outer
def Vis(sc:Scope)(x:Str):Prop:=sc.names.lookup x=some .local\/sc.names.lookup x=some .cell\/sc.names.lookup x=some .free
def Loc(sc:Scope)(x:Str):Prop:=sc.names.lookup x=some .local\/sc.names.lookup x=some .cell
def Look(env:Env)(h:Heap)(m:Str->Ψ)(x:Str)(u:Value):Prop :=
 (env.kindOf x=some .local/\m x=some u)\/((env.kindOf x=some .cell\/env.kindOf x=some .free)/\∃c,env.cells.lookup x=some c/\h.IsCell c (some u))
structure Cx.Ok(X:Cx):Prop where
 mod:Mod X.K X.mg X.base
 kind:X.env.scope.kind=.function
 glob:X.env.globals=mainGlobals
 blt:X.env.builtins=builtinsNs
 above:X.s₀.heap.objs.size<=X.env.locals
 inj:∀x y c,X.env.cells.lookup x=some c->X.env.cells.lookup y=some c->x=y
 has:∀x,(X.env.kindOf x=some .cell\/X.env.kindOf x=some .free)->∃c,X.env.cells.lookup x=some c
 cab:∀x c,X.fn x=true->X.env.cells.lookup x=some c->X.s₀.heap.objs.size<=c
 hd:X.calm=true->X.A.handled=none
 frames:X.A.frames=some X.stack
 stk:X.stack=X.outer\/(X.stack=X.env::X.outer/\X.env.frame=some X.env.locals)
 exf:∀b∈X.ex,b≠X.env.locals/\∀x c,X.env.cells.lookup x=some c->c≠b
 bs:∀b o,X.base.get? b=some o->X.s₀.heap.get? b=some o/\X.H₀ b=none
 bsz:X.base.objs.size<=X.s₀.heap.objs.size
 noex:∀b o,X.base.get? b=some o->b∉X.ex
 exfs:∀b∈X.ex,b∉X.fs
 funs:X.s₀.heap.FunFrames X.base X.outer
 frf:∀b∈X.fs,X.H₀ b=none
structure Inv(X:Cx)(aa:Γ)(σ:List (Option V))(H:Hp)(s:Shared):Prop where
 ok:X.Ok
 os:s.os=X.s₀.os
 bare:AllBare s.gens
 base:Un X.fs X.ex X.H₀ H X.s₀.heap s.heap
 loc:∃m,s.heap.Ns X.env.locals m/\∀(i:Nat)(x:Str)(v:V),X.N[i]?=some x->σ[i]?=some (some v)->Vis X.env.scope x->∃u,RelV v u/\Look X.env s.heap m x u
 cell:∀x c,X.env.cells.lookup x=some c->∃v,s.heap.IsCell c v
 free:H X.env.locals=none
 freeC:∀x c,X.env.cells.lookup x=some c->H c=none
 pin:∀p∈X.pn++aa,s.heap.get? p.1=some p.2/\H p.1=none/\p.1≠X.env.locals/\p.1∉X.fs/\∀v,p.2.data≠.cell v
 hok:HOk X.prog X.w H s.heap
 len:σ.length=X.N.length
section
variable{X:Cx}{aa:Γ}{σ:List (Option V)}{H H':Hp}{s:Shared}{h':Heap}
theorem Cx.Ok.nofr(ok:X.Ok){b:Addr}{o:Obj}(e:X.base.get? b=some o):b∉X.fs:=λhb=>by
 have:=(ok.funs.mem hb).1;rw[e]at this;cases this
theorem Inv.bs(I:Inv X aa σ H s):∀b o,X.base.get? b=some o->s.heap.get? b=some o/\H b=none:=λb o e =>
 ⟨I.base.keep b o (I.ok.bs b o e).1 (I.ok.bs b o e).2 (I.ok.nofr e) (I.ok.noex b o e),I.base.free b o (I.ok.bs b o e).1 (I.ok.bs b o e).2 (I.ok.noex b o e)⟩
theorem Inv.bk(I:Inv X aa σ H s):∀b o,X.base.get? b=some o->s.heap.get? b=some o:=λb o e=>(I.bs b o e).1
theorem Inv.mod(I:Inv X aa σ H s):Mod X.K X.mg X.base:=I.ok.mod
theorem Inv.kIn(I:Inv X aa σ H s):X.K.In s.heap:=I.ok.mod.kin.keeps I.bk
theorem Inv.fr(I:Inv X aa σ H s):∃m,Fr X.base X.env.locals s.heap m :=
 let⟨m,hn,_⟩:=I.loc
 ⟨m,hn,I.bk,aL I.ok.bsz I.ok.above⟩
theorem Inv.lt(I:Inv X aa σ H s):X.env.locals<s.heap.objs.size:=by obtain⟨_,hn,_⟩:=I.loc;exact hn.lt
theorem Inv.sz(I:Inv X aa σ H s):X.s₀.heap.objs.size<=s.heap.objs.size:=aL I.ok.above (Y2 I.lt)
theorem Inv.nofs(I:Inv X aa σ H s){a:Addr}(h:s.heap.objs.size<=a):a∉X.fs:=λhb=>by
 obtain⟨_,o,ho,_⟩:=I.ok.funs.mem hb;exact absurd (aR (aJ ho) (aL I.sz h)) (XV _)
theorem Inv.cne(I:Inv X aa σ H s):∀x c,X.env.cells.lookup x=some c->c≠X.env.locals:=λx c e z=>by
 obtain⟨v,o,ho,hd⟩:=I.cell x c e;obtain⟨m,⟨o',es,ep,b7,bg,_⟩,_⟩:=I.loc;rw[z,b7]at ho;cases ho;rw[bg]at hd;cases hd
theorem Inv.funs(I:Inv X aa σ H s):s.heap.FunFrames X.base X.outer:=by
 have all:∀(l:List Env),(∀b∈frs l,b∈X.fs)->X.s₀.heap.FunFrames X.base l->s.heap.FunFrames X.base l:=by
  intro l
  induction l with
  |nil=>intro _ _;trivial
  |cons env r ih =>
   intro hs hl;obtain⟨hk,⟨L,o,hf,hn,ho,hd⟩,hr⟩:=hl;have hL:L∈X.fs:=hs L (by unfold frs;rw[List.filterMap_cons,hf];exact aO);obtain⟨sl,e⟩:=I.base.slot L o ho (I.ok.frf L hL) hL λz=>I.ok.exfs L z hL;exact⟨hk,⟨L,_,hf,hn,e,hd⟩,ih (λb hb=>hs b (by unfold frs;rw[List.filterMap_cons,hf];exact aH _ hb)) hr⟩
 exact all X.outer (λ_ hb=>hb) I.ok.funs
theorem Inv.stack(I:Inv X aa σ H s):s.heap.FunFrames X.base X.stack:=by
 rcases I.ok.stk with e|⟨e,hf⟩
 .rw[e];exact I.funs
 .rw[e];obtain⟨m,hn,_⟩:=I.loc;refine .cons (by rw[I.ok.kind];decide) hf hn ?_ I.funs;exact Heap.get?_none_of_le (aL I.ok.bsz I.ok.above)
theorem Inv.stkSub(I:Inv X aa σ H s):∀b∈frs X.stack,b∈X.env.locals::X.fs:=λb hb=>by
 rcases I.ok.stk with e|⟨e,hf⟩
 .rw[e]at hb;exact aH _ hb
 .rw[e]at hb;unfold frs at hb;rw[List.filterMap_cons,hf]at hb;exact hb
theorem Inv.stkFree(I:Inv X aa σ H s):∀b∈frs X.stack,H b=none:=λb hb=>by
 rcases YU.mp (I.stkSub b hb)with e|hb
 .rw[e];exact I.free
 .obtain⟨_,o,ho,_⟩:=I.ok.funs.mem hb;exact I.base.free b o ho (I.ok.frf b hb) λz=>I.ok.exfs b z hb
theorem Inv.step{g':Array GenState}{t':Nat}{d':Drawn}{ch:Φ}(I:Inv X aa σ H s)
 (eC:∀b∈ch,(b∈X.ex\/X.s₀.heap.objs.size<=b)/\b≠X.env.locals/\(∀x c,X.env.cells.lookup x=some c->c≠b)/\∀p∈X.pn++aa,p.1≠b)
 (keep:∀b o,b≠X.env.locals->b∉X.fs->b∉ch->s.heap.get? b=some o->H b=none->h'.get? b=some o)
 (slot:∀b o,b≠X.env.locals->b∈X.fs->b∉ch->s.heap.get? b=some o->H b=none->∃sl,h'.get? b=some { o with slots:=sl })(free:∀b o,b∉ch->s.heap.get? b=some o->H b=none->H' b=none)
 (there:∀b o,b∉ch->s.heap.get? b=some o->∃o',h'.get? b=some o')
 (tups:∀b xs,H b=some (.tup xs)->H' b=some (.tup xs))(frzs:∀b o u,H b=some (.frz o u)->H' b=some (.frz o u))(tbls:∀b ps,H b=some (.tbl ps)->∃more,H' b=some (.tbl (ps++more)))
 (ns:∀m,s.heap.Ns X.env.locals m->h'.Ns X.env.locals m)(hok:HOk X.prog X.w H' h')(hg:AllBare g') :
  Inv X aa σ H' { s with heap:=h',gens:=g',drawn:=d',toks:=t' }:=by
 have neL:∀b o,X.s₀.heap.get? b=some o->b≠X.env.locals:=λb o e=>aQ (aR (aJ e) I.ok.above);have i6:∀b o,X.s₀.heap.get? b=some o->b∉X.ex->b∉ch:=λb o e hx hb=>by
  rcases(eC b hb).1 with z|z
  .exact hx z
  .exact absurd (aR (aJ e) z) (XV _)
 have ff:∀x c,X.env.cells.lookup x=some c->∀v,s.heap.IsCell c v->h'.IsCell c v:=λx c e v hP=>by
  obtain⟨o,ho,hd⟩:=hP;have hJ:c∉ch:=λz=>(eC c z).2.2.1 x c e rfl;by_cases hc:c∈X.fs
  .obtain⟨sl,q⟩:=slot c o (I.cne x c e) hc hJ ho (I.freeC x c e);exact⟨_,q,hd⟩
  .exact⟨o,keep c o (I.cne x c e) hc hJ ho (I.freeC x c e),hd⟩
 refine⟨I.ok,I.os,hg,⟨λb o e n hb hx=>?_,λb o e n hb hx=>?_,λb o e n hx=>?_,λb o e hx=>?_,λb xs e=>tups b xs (I.base.tups b xs e),λb o xs e=>frzs b o xs (I.base.frzs b o xs e),λb ps e=>?_⟩,?_,λx c e=>?_,?_,λx c e=>?_,λp hp=>?_,hok,I.len⟩
 .exact keep b o (neL b o e) hb (i6 b o e hx) (I.base.keep b o e n hb hx) (I.base.free b o e n hx)
 .obtain⟨sl,e1⟩:=I.base.slot b o e n hb hx;obtain⟨fo,e2⟩:=slot b _ (neL b o e) hb (i6 b o e hx) e1 (I.base.free b o e n hx);exact⟨fo,e2⟩
 .obtain⟨o',e1⟩:=I.base.there b o e hx;exact free b o' (i6 b o e hx) e1 (I.base.free b o e n hx)
 .obtain⟨o',e1⟩:=I.base.there b o e hx;exact there b o' (i6 b o e hx) e1
 .obtain⟨m1,e1⟩:=I.base.tbls b ps e;obtain⟨m2,e2⟩:=tbls b _ e1;exact⟨m1++m2,by rw[e2,Array.append_assoc]⟩
 .obtain⟨m,hn,hl⟩:=I.loc;refine⟨m,ns m hn,λi x v e1 e2 e3=>?_⟩;obtain⟨u,r,l⟩:=hl i x v e1 e2 e3;refine⟨u,r,?_⟩;rcases l with l|⟨k,c,e,z⟩
  .exact .inl l
  .exact .inr ⟨k,c,e,ff x c e _ z⟩
 .obtain⟨v,z⟩:=I.cell x c e;exact⟨v,ff x c e v z⟩
 .obtain⟨m,⟨o,_,_,ho,_⟩,_⟩:=I.loc;exact free _ o (λz=>(eC _ z).2.1 rfl) ho I.free
 .obtain⟨v,o,ho,hd⟩:=I.cell x c e;exact free c o (λz=>(eC c z).2.2.1 x c e rfl) ho (I.freeC x c e)
 .obtain⟨e,n,ne,nf,d⟩:=I.pin p hp;have hJ:p.1∉ch:=λz=>(eC p.1 z).2.2.2 p hp rfl;exact⟨keep p.1 p.2 ne nf hJ e n,free p.1 p.2 hJ e n,ne,nf,d⟩
theorem Inv.un{t':Nat}(I:Inv X aa σ H s)(u:Un X.fs [] H H' s.heap h')(hok:HOk X.prog X.w H' h'):Inv X aa σ H' { s with heap:=h',toks:=t' }:=by
 obtain⟨m,⟨o,es,ep,ho,r⟩,_⟩:=id I.loc;obtain⟨sl,hL⟩:=u.any ho I.free (by simp);exact I.step (g':=s.gens) (d':=s.drawn) (ch:=[]) (λ_ z=>nomatch z) (λb o _ hb _ e n=>u.keep b o e n hb (by simp)) (λb o _ hb _ e n=>u.slot b o e n hb (by simp)) (λb o _ e n=>u.free b o e n (by simp)) (λb o _ e=>u.there b o e (by simp)) u.tups u.frzs u.tbls (λm' hm=>by
  obtain⟨o',l9,me,b7,r'⟩:=hm;rw[ho]at b7;cases b7;exact⟨_,l9,me,hL,r'⟩) hok I.bare
theorem Inv.call{g':Array GenState}{t':Nat}{d':Drawn}{ch:Φ}(I:Inv X aa σ H s)(u:Un (frs X.stack) ch H H' s.heap h')(hok:HOk X.prog X.w H' h')(hg:AllBare g')
 (eC:∀b∈ch,(b∈X.ex\/X.s₀.heap.objs.size<=b)/\b≠X.env.locals/\(∀x c,X.env.cells.lookup x=some c->c≠b)/\∀p∈X.pn++aa,p.1≠b) :
  Inv X aa σ H' { s with heap:=h',gens:=g',drawn:=d',toks:=t' }:=by
 obtain⟨m,⟨o,es,ep,ho,r⟩,_⟩:=id I.loc;obtain⟨sl,hL⟩:=u.any ho I.free λz=>(eC _ z).2.1 rfl;exact I.step (ch:=ch) eC (λb o hL hb hc e n=>u.keep b o e n (λz=>(YU.mp (I.stkSub b z)).elim hL hb) hc) (λb o _ _ hc e n=>u.any e n hc) (λb o hc e n=>u.free b o e n hc) (λb o hc e=>u.there b o e hc) u.tups u.frzs u.tbls (λm' hm=>by
  obtain⟨o',l9,me,b7,r'⟩:=hm;rw[ho]at b7;cases b7;exact⟨_,l9,me,hL,r'⟩) hok hg
theorem Inv.turned{t':Nat}{it:Addr}(I:Inv X aa σ H s)(k:∀b o,b≠it->s.heap.get? b=some o->h'.get? b=some o)(hn:H it=none)(hL:it≠X.env.locals)
 (h1:it∈X.ex\/X.s₀.heap.objs.size<=it)(h2:∀x c,X.env.cells.lookup x=some c->c≠it)(h3:∀p∈X.pn++aa,p.1≠it):Inv X aa σ H { s with heap:=h',toks:=t' }:=by
 have nit:∀b u,H b=some u->b≠it:=λb u e z=>by rw[z,hn]at e;cases e
 refine I.step (g':=s.gens) (d':=s.drawn) (ch:=[it]) (λb hb=>?_) (λb o _ _ hc e _=>k b o (λz=>hc (by simp[z])) e) (λb o _ _ hc e _=>⟨o.slots,k b o (λz=>hc (by simp[z])) e⟩) (λ_ _ _ _ n=>n)
  (λb o hc e=>⟨o,k b o (λz=>hc (by simp[z])) e⟩) (λ_ _ e=>e) (λ_ _ _ e=>e) (λb ps e=>⟨#[],by rw[e];simp⟩) (λm hm=>?_) (λb u e=>?_) I.bare
 .have e:b=it:=by simpa using hb
  subst e;exact⟨h1,hL,h2,h3⟩
 .obtain⟨o,es,ep,ho,r⟩:=hm;exact⟨o,es,ep,k _ o (Ne.symm hL) ho,r⟩
 .refine(I.hok b u e).stay (λc v hc q=>k c v ?_ q) (λ_ q=>q) λ_ _ q=>q;rcases hc with z|z
  .rw[z];exact nit b u e
  .exact nit c _ z
theorem Inv.tok(I:Inv X aa σ H s)(t:Nat):Inv X aa σ H { s with toks:=t }:=I.un (h':=s.heap) (t':=t) Un.refl I.hok
theorem Inv.kept{t':Nat}(I:Inv X aa σ H s)(k:∀b u,s.heap.get? b=some u->h'.get? b=some u):Inv X aa σ H { s with heap:=h',toks:=t' }:=I.un (Un.kept k) (I.hok.kept k)
theorem Inv.laid{a:Addr}{o:HO}{t':Nat}(I:Inv X aa σ H s)(k:∀b u,s.heap.get? b=some u->h'.get? b=some u)(hp:s.heap.objs.size<=a)(new:dW X.prog X.w (upd H a o) h' a o) :
  Inv X aa σ (upd H a o) { s with heap:=h',toks:=t' }:=I.un (Un.laid k hp (I.hok.fresh hp)) (I.hok.laid k hp new)
theorem Inv.write{x e:Addr}{o:HO}{t':Nat}(I:Inv X aa σ H s)(mu:Mut (H x))(he:e=x\/H e=some (.own x))(k:∀b u,b≠e->s.heap.get? b=some u->h'.get? b=some u)(gS:∃u,h'.get? e=some u)
 (new:dW X.prog X.w (upd H x o) h' x o):Inv X aa σ (upd H x o) { s with heap:=h',toks:=t' }:=I.un (Un.write mu he k gS) (I.hok.write mu he k gS new)
theorem Inv.pins_of{cb:Γ}(I:Inv X aa σ H s)(h:∀p∈cb,s.heap.get? p.1=some p.2/\H p.1=none/\p.1≠X.env.locals/\p.1∉X.fs/\∀v,p.2.data≠.cell v):Inv X cb σ H s :=
 ⟨I.ok,I.os,I.bare,I.base,I.loc,I.cell,I.free,I.freeC,λp hp=>(Y1.mp hp).elim (λz=>I.pin p (VX _ z)) (h p),I.hok,I.len⟩
theorem CG{N:Θ}(hN:N.Nodup){i j:Nat}{x:Str}(a:N[i]?=some x)(b:N[j]?=some x):i=j:=by
 obtain⟨h1,e1⟩:=ao.mp a;obtain⟨h2,e2⟩:=ao.mp b;exact(List.getElem_inj hN).mp (e1.trans e2.symm)
abbrev qi(X:Cx)(a:Str):Prop:=X.fn a=true\/X.env.scope.names.lookup a=some .local
theorem Rm{M:Model}{A:Around}{E:Ξ}{i:Nat}{x:Str}{v:V}{u:Value}{Q:Unit->Shared->Prop}(I:Inv X aa σ H s)(hN:X.N.Nodup)(hi:X.N[i]?=some x)(hx:Loc X.env.scope x)(r:RelV v u)
 (h:∀s',Inv X aa (σ.set i (some v)) H s'->(∃a,Heap.SameBut a s.heap s'.heap/\(a=X.env.locals\/X.env.cells.lookup x=some a))->Q () s')(hf:qi X x):wpAny M A (storeName X.env x u) Q E s:=by
 obtain⟨m,hn,hl⟩:=id I.loc;have dS:(X.env.scope.kind == .class || (X.env.scope.kind == .module&&X.env.locals != X.env.globals))=false:=by rw[I.ok.kind];rfl
 have jn:i<σ.length:=by rw[I.len];exact(ao.mp hi).1
 have cne:=I.cne;have cy:∀{a:Addr}{h':Heap},(∃o,s.heap.get? a=some o/\H a=none)->Heap.SameBut a s.heap h'->HOk X.prog X.w H h':=λ{a h'}ha hs b ob e=>by
  obtain⟨_,_,bp⟩:=ha;refine(I.hok b ob e).stay (λc w' hc q=>(hs.2 c ?_).trans q) (λ_ q=>q) λ_ _ q=>q;rintro rfl;rcases hc with rfl|hc
  .rw[bp]at e;cases e
  .rw[bp]at hc;cases hc
 rcases hx with hk|hk
 .refine wpAny_storeName_local hk hn (λh' ia hs=>?_) dS;obtain⟨oL,_,_,hoL,_⟩:=id hn;refine h _ ⟨I.ok,I.os,I.bare,⟨λb o e n hb hx=>?_,λb o e n hb hx=>?_,I.base.free,λb o e hx=>?_,I.base.tups,I.base.frzs,I.base.tbls⟩,⟨_,ia,λj y v' e1 e2 e3=>?_⟩,λy c e=>?_,I.free,I.freeC,λp hp=>?_,cy ⟨oL,hoL,I.free⟩ hs,by simpa using I.len⟩ ⟨_,hs,.inl rfl⟩
  .exact(hs.2 b (aQ (aR (aJ e) I.ok.above))).trans (I.base.keep b o e n hb hx)
  .obtain⟨sl,e1⟩:=I.base.slot b o e n hb hx;exact⟨sl,(hs.2 b (aQ (aR (aJ e) I.ok.above))).trans e1⟩
  .obtain⟨o',e1⟩:=I.base.there b o e hx;exact⟨o',(hs.2 b (aQ (aR (aJ e) I.ok.above))).trans e1⟩
  .by_cases hj:j=i
   .subst hj;rw[hi]at e1;cases e1;rw[WZ jn]at e2;cases e2;exact⟨u,r,.inl ⟨hk,by simp⟩⟩
   .rw[Wp (Ne.symm hj)]at e2;obtain⟨u',r',q⟩:=hl j y v' e1 e2 e3;refine⟨u',r',?_⟩;rcases q with⟨k,e⟩|⟨k,c,e,z⟩
    .refine .inl ⟨k,?_⟩;have:y≠x:=λe=>hj (CG hN e1 (e ▸ hi));simp[this,e]
    .exact .inr ⟨k,c,e,z.sameBut hs (cne y c e)⟩
  .obtain⟨w',z⟩:=I.cell y c e;exact⟨w',z.sameBut hs (cne y c e)⟩
  .obtain⟨e,n,ne,nf,d⟩:=I.pin p hp;exact⟨(hs.2 p.1 ne).trans e,n,ne,nf,d⟩
 .have ip:X.fn x=true:=by
   rcases hf with z|z
   .exact z
   .rw[z]at hk;cases hk
  obtain⟨c,hc⟩:=I.ok.has x (.inl hk);obtain⟨w',z⟩:=I.cell x c hc;refine wpAny_storeName_cell I.ok.kind hk hc z (λh' eK hs=>?_);obtain⟨oc,hoc,kG⟩:=id z;refine h { s with heap:=h' } ⟨I.ok,I.os,I.bare,⟨λb o e n hb hx=>?_,λb o e n hb hx=>?_,I.base.free,λb o e hx=>?_,I.base.tups,I.base.frzs,I.base.tbls⟩,⟨m,hn.sameBut hs (Ne.symm (cne x c hc)),λj y v' e1 e2 e3=>?_⟩,λy c' e=>?_,I.free,I.freeC,λp hp=>?_,cy ⟨oc,hoc,I.freeC x c hc⟩ hs,by simpa using I.len⟩ ⟨c,hs,.inr hc⟩
  .exact(hs.2 b (aQ (aR (aJ e) (I.ok.cab x c ip hc)))).trans (I.base.keep b o e n hb hx)
  .obtain⟨sl,e1⟩:=I.base.slot b o e n hb hx;exact⟨sl,(hs.2 b (aQ (aR (aJ e) (I.ok.cab x c ip hc)))).trans e1⟩
  .obtain⟨o',e1⟩:=I.base.there b o e hx;exact⟨o',(hs.2 b (aQ (aR (aJ e) (I.ok.cab x c ip hc)))).trans e1⟩
  .by_cases hj:j=i
   .subst hj;rw[hi]at e1;cases e1;rw[WZ jn]at e2;cases e2;exact⟨u,r,.inr ⟨.inl hk,c,hc,eK⟩⟩
   .rw[Wp (Ne.symm hj)]at e2;obtain⟨u',r',q⟩:=hl j y v' e1 e2 e3;refine⟨u',r',?_⟩;rcases q with q|⟨k,c',e,z'⟩
    .exact .inl q
    .refine .inr ⟨k,c',e,z'.sameBut hs ?_⟩;rintro rfl;exact hj (CG hN e1 (I.ok.inj _ _ _ e hc ▸ hi))
  .by_cases js:c'=c
   .subst js;exact⟨_,eK⟩
   .obtain⟨w2,z2⟩:=I.cell y c' e;exact⟨w2,z2.sameBut hs js⟩
  .obtain⟨e,n,ne,nf,d⟩:=I.pin p hp;refine⟨(hs.2 p.1 ?_).trans e,n,ne,nf,d⟩;intro q;rw[q,hoc]at e;have q':oc=p.2:=Option.some.inj e;exact d w' (by rw[<- q'];exact kG)
theorem sU{M:Model}{A:Around}{E:Ξ}{i:Nat}{x:Str}{v:V}{u:Value}{Q:Unit->Shared->Prop}(I:Inv X aa σ H s)(hN:X.N.Nodup)(hi:X.N[i]?=some x)(hx:Loc X.env.scope x)(r:RelV v u)
 (h:∀s',Inv X aa (σ.set i (some v)) H s'->Q () s')(hf:qi X x:=by first|exact .inl rfl|exact .inr rfl|assumption):wpAny M A (storeName X.env x u) Q E s :=
 Rm I hN hi hx r (λs' I' _=>h s' I') hf
theorem Inv.call'{s':Shared}{ch:Φ}(I:Inv X aa σ H s)(ho:s'.os=s.os)(u:Un (frs X.stack) ch H H' s.heap s'.heap)(hok:HOk X.prog X.w H' s'.heap)(hg:AllBare s'.gens)
 (eC:∀b∈ch,(b∈X.ex\/X.s₀.heap.objs.size<=b)/\b≠X.env.locals/\(∀x c,X.env.cells.lookup x=some c->c≠b)/\∀p∈X.pn++aa,p.1≠b):Inv X aa σ H' s':=by
 obtain⟨h',g',d',t',o'⟩:=s';have e:o'=s.os:=ho;subst e;exact I.call (g':=g') (t':=t') (d':=d') u hok hg eC
end
abbrev XK:=Value->Ω->Hp->Prop
abbrev St:=List (Option V)
abbrev VK:=V->Hp->Prop
abbrev TE:=St->Hp->VK->Prop
abbrev TT:=St->Hp->(Bool->Hp->Prop)->Prop
abbrev TA:=St->Hp->(Β->Hp->Prop)->Prop
structure Ends where
 nx:St->Hp->Prop
 rt:VK
 bk:St->Hp->Prop:=λ_ _=>False
 ct:St->Hp->Prop:=λ_ _=>False
abbrev TS:=Ends->St->Hp->Prop
def EP(X:Cx)(aa:Γ)(σ:St)(Q:VK)(u:Value)(s':Shared):Prop:=∃v H',Inv X aa σ H' s'/\RelV v u/\Q v H'
def TP(X:Cx)(aa:Γ)(σ:St)(Q:Bool->Hp->Prop)(b:Bool)(s':Shared):Prop:=∃H',Inv X aa σ H' s'/\Q b H'
def AP(X:Cx)(aa:Γ)(σ:St)(Q:Β->Hp->Prop)(us:Δ)(s':Shared):Prop:=∃vs H',Inv X aa σ H' s'/\Vals vs us/\Q vs H'
def SP(X:Cx)(aa:Γ)(D:Ends)(f:Flow)(s':Shared):Prop :=
 match f with
 |.next=>∃σ' H',Inv X aa σ' H' s'/\D.nx σ' H'
 |.brk=>∃σ' H',Inv X aa σ' H' s'/\D.bk σ' H'
 |.cont=>∃σ' H',Inv X aa σ' H' s'/\D.ct σ' H'
 |.ret u=>∃v σ' H',Inv X aa σ' H' s'/\RelV v u/\D.rt v H'
def PE(X:Cx)(e:Expr)(t:TE):Prop :=
 ∀(aa:Γ)(s:Shared)(σ:St)(H:Hp)(Q:VK),Inv X aa σ H s->t σ H Q->wpAny (model X.prog X.w) X.A (eval e X.env) (EP X aa σ Q) X.xe s
def PT(X:Cx)(e:Expr)(t:TT):Prop :=
 ∀(aa:Γ)(s:Shared)(σ:St)(H:Hp)(Q:Bool->Hp->Prop),Inv X aa σ H s->t σ H Q->wpAny (model X.prog X.w) X.A (isTrue e X.env (eval e X.env)) (TP X aa σ Q) X.xe s
def PW(X:Cx)(e:Expr)(t:TT):Prop :=
 ∀(bz:Sem Value)(aa:Γ)(s:Shared)(σ:St)(H:Hp)(Q:Bool->Hp->Prop),Inv X aa σ H s->t σ H Q->wpAny (model X.prog X.w) X.A (isTrue e X.env bz) (TP X aa σ Q) X.xe s
theorem PW.pt{X:Cx}{e:Expr}{t:TT}(h:PW X e t):PT X e t:=h _
def PA(X:Cx)(es:List Expr)(t:TA):Prop :=
 ∀(pos:Pos)(aa:Γ)(s:Shared)(σ:St)(H:Hp)(Q:Β->Hp->Prop),Inv X aa σ H s->t σ H Q->wpAny (model X.prog X.w) X.A (spliced (backTo pos (starEach es X.env))) (AP X aa σ Q) X.xe s
def PS(X:Cx)(st:Stmt)(t:TS):Prop :=
 ∀(aa:Γ)(s:Shared)(σ:St)(H:Hp)(D:Ends),Inv X aa σ H s->t D σ H->wpAny (model X.prog X.w) X.A (exec st X.env) (SP X aa D) X.xe s
def PSs(X:Cx)(st:List Stmt)(t:TS):Prop :=
 ∀(aa:Γ)(s:Shared)(σ:St)(H:Hp)(D:Ends),Inv X aa σ H s->t D σ H->wpAny (model X.prog X.w) X.A (execs st X.env) (SP X aa D) X.xe s
theorem thn{α:Type}{t:Sem α}{Q Q':α->Shared->Prop}{M:Model}{A:Around}{E:Ξ}{s:Shared}(h:wpAny M A t Q E s)(hQ:∀a s,Q a s->Q' a s):wpAny M A t Q' E s:=wpAny_mono h hQ λ_ _ x=>x
section
variable{X:Cx}
def Cg(i:Nat):TE:=λσ H Q=>∃v,σ[i]?=some (some v)/\Q v H
def tC(v:V):TE:=λ_ H Q=>Q v H
abbrev qk(a:Str):Prop:=(a==("__debug__":Str))=false
abbrev qf(a:Str):Prop:=(a==("__classdict__":Str))=false
theorem abP{i:Nat}{x:Str}{pos:Pos}(hN:X.N[i]?=some x)(hv:Vis X.env.scope x)(hd:qk x:=by decide)(a6:qf x:=by decide):PE X (.Name x pos) (Cg i):=by
 intro aa s σ H Q I h;obtain⟨v,e,h⟩:=h;obtain⟨m,hn,hl⟩:=I.loc;obtain⟨u,r,l⟩:=hl i x v hN e hv;have aE:EP X aa σ Q u s:=⟨v,H,I,r,h⟩;rcases l with⟨hk,hm⟩|⟨hk,c,hc,ci⟩
 .exact wpAny_Name (wpAny_loadName_local I.ok.kind hk hn hm aE) hd
 .rcases hk with hk|hk
  .exact wpAny_Name (wpAny_loadName_cell I.ok.kind hk hc ci aE) hd
  .exact wpAny_Name (wpAny_loadName_free I.ok.kind hk hc ci aE a6) hd
theorem Ah{i j pos} : PE X (.Constant (.int i) j pos) (tC (.int i)):=λ_ _ _ H _ I h=>wpAny_Constant_int ⟨.int i,H,I.tok _,⟨_,rfl⟩,h⟩
theorem ac7{b j pos} : PE X (.Constant (.bool b) j pos) (tC (.bl b)):=λ_ _ _ H _ I h=>Constant_bool ⟨.bl b,H,I,rfl,h⟩
theorem aaM{j pos} : PE X (.Constant .none j pos) (tC .non):=λ_ _ _ H _ I h=>Constant_none ⟨.non,H,I,rfl,h⟩
theorem Ir{x j pos} : PE X (.Constant (.str x) j pos) (tC (.str x)):=λ_ _ _ H _ I h=>Calls.Constant_str ⟨.str x,H,I.tok _,⟨_,rfl⟩,h⟩
def Gl(X:Cx)(x:Str):Prop:=X.env.kindOf x=some .globalImplicit
theorem nM{E:Ξ}{aa:Γ}{s:Shared}{σ:St}{H:Hp}{x:Str}{u:Value}{pos:Pos}{Q:Ξ}(I:Inv X aa σ H s)(hg:Gl X x)(hm:X.mg x=some u)(h:Q u s)
 (hd:qk x:=by decide):wpAny (model X.prog X.w) X.A (eval (.Name x pos) X.env) Q E s :=
 Calls.Name_function_global I.ok.kind hg (Calls.loadGlobal_global (by rw[I.ok.glob];exact I.mod.glob.keeps I.bk) hm h) hd
theorem Bc{E:Ξ}{aa:Γ}{s:Shared}{σ:St}{H:Hp}{x:Str}{u:Value}{pos:Pos}{Q:Ξ}(I:Inv X aa σ H s)(hg:Gl X x)(hm:X.mg x=none)(hv:bootBuiltins x=some u)(h:Q u s)
 (hn:x≠"__name__":=by decide)(hd:qk x:=by decide):wpAny (model X.prog X.w) X.A (eval (.Name x pos) X.env) Q E s:=by
 obtain⟨mb,h1,h2⟩:=I.mod.blt;exact Calls.Name_function_global I.ok.kind hg (Calls.loadGlobal_builtin (by rw[I.ok.glob];exact I.mod.glob.keeps I.bk) hm (by rw[I.ok.blt];exact h1.keeps I.bk) ((h2 x hn).trans hv) h) hd
theorem Pk{x:Str}{v:V}{u:Value}{pos:Pos}(hg:Gl X x)(hm:X.mg x=some u)(r:RelV v u)(hd:qk x:=by decide):PE X (.Name x pos) (tC v) :=
 λ_ _ _ H _ I h=>nM I hg hm ⟨v,H,I,r,h⟩ hd
theorem Pg{x:Str}{v:V}{u:Value}{pos:Pos}(hg:Gl X x)(hm:X.mg x=none)(hv:bootBuiltins x=some u)(r:RelV v u)(hn:x≠"__name__":=by decide)(hd:qk x:=by decide):PE X (.Name x pos) (tC v) :=
 λ_ _ _ H _ I h=>Bc I hg hm hv ⟨v,H,I,r,h⟩ hn hd
variable{a b:Expr}{ta tb:TE}{pos:Pos}
def PC(X:Cx)(op:CmpOp)(a b:Expr)(t:TE):Prop :=
 ∀(aa:Γ)(s:Shared)(σ:St)(H:Hp)(Q:VK),Inv X aa σ H s->t σ H Q ->
  wpAny (model X.prog X.w) X.A (eval a X.env) (λv s₁=>wpAny (model X.prog X.w) X.A (eval b X.env) (λu s₂=>wpAny (model X.prog X.w) X.A (compareOp op v u) (EP X aa σ Q) X.xe s₂) X.xe s₁) X.xe s
def tB(t:TE):TT:=λσ H Q=>t σ H λx H1=>∃c,x=.bl c/\Q c H1
theorem Wb{op:CmpOp}{t:TE}(h:PC X op a b t)(h1:behindInMarks op b=false:=by rfl):PT X (.Compare a [op] [b] pos) (tB t):=by
 intro aa s σ H Q I hw;refine wpAny_isTrue_Compare1 (thn (h aa s σ H _ I hw) λv s1 h1=>thn h1 λu s2 h2=>thn h2 λc s3 hP=>?_) h1;obtain⟨x,H1,I1,r1,q1⟩:=hP;obtain⟨d,rfl,q⟩:=q1;cases r1;exact wpAny_truthy_bool ⟨H1,I1,q⟩
variable{tA i4:TT}{rest:List Expr}
def ahk(t u:TT):TT:=λσ H Q=>t σ H λc H1=>if c=true then u σ H1 Q else Q false H1
def tOr(t u:TT):TT:=λσ H Q=>t σ H λc H1=>if c=true then Q true H1 else u σ H1 Q
def ahe(t:TT):TT:=λσ H Q=>t σ H λc H1=>Q (!c) H1
theorem pw_and1(ha:PT X a tA):PW X (.BoolOp .And [a] pos) tA:=by
 intro wh aa s σ H Q I h;refine isTrue_and (thn (ha aa s σ H Q I h) λc s1 e=>?_);cases c with
 |true=>exact isTrue_and_nil e
 |false=>exact e
theorem pw_or1(ha:PT X a tA):PW X (.BoolOp .Or [a] pos) tA:=by
 intro wh aa s σ H Q I h;refine isTrue_or (thn (ha aa s σ H Q I h) λc s1 e=>?_);cases c with
 |false=>exact isTrue_or_nil e
 |true=>exact e
theorem pw_and(ha:PT X a tA)(hb:PW X (.BoolOp .And (b::rest) pos) i4):PW X (.BoolOp .And (a::b::rest) pos) (ahk tA i4):=by
 intro wh aa s σ H Q I h;refine isTrue_and (thn (ha aa s σ H _ I h) λc s1 hP=>?_);obtain⟨H1,I1,q1⟩:=hP;cases c with
 |true=>exact hb wh aa s1 σ H1 Q I1 q1
 |false=>exact⟨H1,I1,q1⟩
theorem pw_or(ha:PT X a tA)(hb:PW X (.BoolOp .Or (b::rest) pos) i4):PW X (.BoolOp .Or (a::b::rest) pos) (tOr tA i4):=by
 intro wh aa s σ H Q I h;refine isTrue_or (thn (ha aa s σ H _ I h) λc s1 hP=>?_);obtain⟨H1,I1,q1⟩:=hP;cases c with
 |true=>exact⟨H1,I1,q1⟩
 |false=>exact hb wh aa s1 σ H1 Q I1 q1
theorem aau(ha:PT X a tA):PT X (.UnaryOp .Not a pos) (ahe tA):=by
 intro aa s σ H Q I h;exact isTrue_not (ha aa s σ H (λc H1=>Q (!c) H1) I h)
def acw(ta tb:TE):TE:=λσ H Q=>ta σ H λx H1=>∃c,x=.bl c/\if c=true then tb σ H1 Q else Q (.bl false) H1
def aeV(ta:TE):TE:=λσ H Q=>ta σ H λx H1=>∃c,x=.bl c/\Q (.bl (!c)) H1
theorem abM{op}{t:TE}(h:PE X a t):PE X (.BoolOp op [a] pos) t:=λaa s σ H Q I hw=>BoolOp_one (h aa s σ H Q I hw)
theorem ZW(ha:PE X a ta)(hb:PE X (.BoolOp .And (b::rest) pos) tb):PE X (.BoolOp .And (a::b::rest) pos) (acw ta tb):=by
 intro aa s σ H Q I h;refine BoolOp_and (thn (ha aa s σ H _ I h) λv s1 hP=>?_);obtain⟨x,H1,I1,r1,q1⟩:=hP;obtain⟨c,rfl,q1⟩:=q1;cases r1;refine wpAny_truthy_bool ?_;cases c with
 |true=>exact hb aa s1 σ H1 Q I1 q1
 |false=>exact⟨.bl false,H1,I1,rfl,q1⟩
theorem aas(ha:PE X a ta):PE X (.UnaryOp .Not a pos) (aeV ta):=by
 intro aa s σ H Q I h;refine UnaryOp_ (thn (ha aa s σ H _ I h) λv s1 hP=>?_);obtain⟨x,H1,I1,r1,q1⟩:=hP;obtain⟨c,rfl,q1⟩:=q1;cases r1;exact not_of (wpAny_truthy_bool ⟨.bl (!c),H1,I1,rfl,q1⟩)
end
def SqL(K:Frag)(H:Hp)(a:Addr)(xs:Β):Prop :=
 Rd H a (.lst xs) \/
  ∃(o:Obj)(its:Array Value)(n:Nat),K.lookup a=some o/\o.cls=.type "list"/\o.dict=none/\o.data=.seq its n/\its.size<=sizeLine/\Vals xs its.toList
def SqT(K:Frag)(H:Hp)(a:Addr)(xs:Β):Prop :=
 Rd H a (.tup xs) \/
  ∃(o:Obj)(its:Array Value)(n:Nat),K.lookup a=some o/\o.cls=.type "tuple"/\o.data=.seq its n/\its.size<=sizeLine/\Vals xs its.toList
def agd:Value->Option V
 |.none=>some .non
 |.bool b=>some (.bl b)
 |.int i _=>some (.int i)
 |.str x _=>some (.str x)
 |.bytes b _=>some (.byt b)
 |.float b _=>some (.flt b)
 |.ref a=>some (.ref a)
 |.type n=>some (.ty n)
 |_=>none
theorem RelV.abs{x:V}{u:Value}(r:RelV x u):agd u=some x:=by
 cases x with
 |non=>cases r;rfl
 |bl _=>cases r;rfl
 |int _=>obtain⟨t,rfl⟩:=r;rfl
 |str _=>obtain⟨t,rfl⟩:=r;rfl
 |byt _=>obtain⟨t,rfl⟩:=r;rfl
 |flt _=>obtain⟨t,rfl⟩:=r;rfl
 |ref _=>cases r;rfl
 |ty _=>cases r;rfl
theorem RelV.inj{x y:V}{u:Value}(r:RelV x u)(q:RelV y u):x=y:=Option.some.inj (r.abs.symm.trans q.abs)
theorem Vals.inj:∀{xs ys:Β}{us:Δ},Vals xs us->Vals ys us->xs=ys
 |_,_,_,.nil,.nil=>rfl
 |_,_,_,.cons r t,.cons r' t'=>by rw[r.inj r',Vals.inj t t']
section
variable{X:Cx}{aa:Γ}{σ:St}{H:Hp}{s:Shared}{a:Addr}{xs ys:Β}
theorem SqL.of{K:Frag}(h:H a=some (.lst xs)):SqL K H a xs:=.inl (.inl h)
theorem SqT.of{K:Frag}(h:H a=some (.tup xs)):SqT K H a xs:=.inl (.inl h)
theorem Inv.list(I:Inv X aa σ H s)(h:SqL X.K H a xs):∃its:Δ,Vals xs its/\PlainL s.heap a its.toArray/\xs.length<=sizeLine:=by
 rcases h with h|⟨o,its,n,hk,hc,hd,hs,hz,r⟩
 .obtain⟨z,its,n,r,e⟩:=h.ok I.hok;exact⟨its,r,⟨_,n,e,rfl,rfl,rfl⟩,z⟩
 .refine⟨its.toList,r,⟨o,n,I.kIn a o hk,hc,hd,by simpa using hs⟩,?_⟩;have e:=r.length;simp only[Array.length_toList]at e;exact aL (X9 e) hz
theorem Inv.tuple(I:Inv X aa σ H s)(h:SqT X.K H a xs):∃its:Δ,Vals xs its/\IsTup s.heap a its.toArray/\xs.length<=sizeLine:=by
 rcases h with h|⟨o,its,n,hk,hc,hs,hz,r⟩
 .obtain⟨z,its,r,p⟩:=h.ok I.hok;exact⟨its,r,p,z⟩
 .refine⟨its.toList,r,⟨o,I.kIn a o hk,hc,n,by simpa using hs⟩,?_⟩;have e:=r.length;simp only[Array.length_toList]at e;exact aL (X9 e) hz
theorem Inv.list_inj(I:Inv X aa σ H s)(h:SqL X.K H a xs)(h':SqL X.K H a ys):xs=ys:=by
 obtain⟨its,r,⟨o,n,e,_,_,d⟩,_⟩:=I.list h;obtain⟨its',r',⟨o',n',e',_,_,d'⟩,_⟩:=I.list h';rw[e]at e';cases e';rw[d]at d';injection d' with d1 _;have:its=its':=by simpa using ZH Array.toList d1
 subst this;exact r.inj r'
end
abbrev Cx.wish(X:Cx)(E:Ξ):Cx:={ X with xe:=E }
abbrev Cx.nox(X:Cx):Cx:=X.wish λ_ _=>False
theorem Cx.Ok.wish{X:Cx}(ok:X.Ok)(E:Ξ):(X.wish E).Ok :=
 ⟨ok.mod,ok.kind,ok.glob,ok.blt,ok.above,ok.inj,ok.has,ok.cab,ok.hd,ok.frames,ok.stk,ok.exf,ok.bs,ok.bsz,ok.noex,ok.exfs,ok.funs,ok.frf⟩
theorem Cx.Ok.unwish{X:Cx}{E:Ξ}(ok:(X.wish E).Ok):X.Ok :=
 ⟨ok.mod,ok.kind,ok.glob,ok.blt,ok.above,ok.inj,ok.has,ok.cab,ok.hd,ok.frames,ok.stk,ok.exf,ok.bs,ok.bsz,ok.noex,ok.exfs,ok.funs,ok.frf⟩
section
variable{X:Cx}{aa:Γ}{σ:St}{H:Hp}{s:Shared}{E:Ξ}
theorem Inv.wish(I:Inv X aa σ H s)(E:Ξ):Inv (X.wish E) aa σ H s:=⟨I.ok.wish E,I.os,I.bare,I.base,I.loc,I.cell,I.free,I.freeC,I.pin,I.hok,I.len⟩
theorem Inv.unwish(I:Inv (X.wish E) aa σ H s):Inv X aa σ H s:=⟨I.ok.unwish,I.os,I.bare,I.base,I.loc,I.cell,I.free,I.freeC,I.pin,I.hok,I.len⟩
theorem SP.unwish{D:Ends}{f:Flow}{s':Shared}(h:SP (X.wish E) aa D f s'):SP X aa D f s':=by
 cases f with
 |next=>obtain⟨σ',H',I,q⟩:=h;exact⟨σ',H',I.unwish,q⟩
 |brk=>obtain⟨σ',H',I,q⟩:=h;exact⟨σ',H',I.unwish,q⟩
 |cont=>obtain⟨σ',H',I,q⟩:=h;exact⟨σ',H',I.unwish,q⟩
 |ret u=>obtain⟨v,σ',H',I,r,q⟩:=h;exact⟨v,σ',H',I.unwish,r,q⟩
theorem PSs.nox{st:List Stmt}{t:TS}(h:PSs X.nox st t):PSs X st t:=λaa s σ H D I hw =>
 wpAny_mono (h aa s σ H D (I.wish _) hw) (λ_ _ q=>q.unwish) λ_ _ z=>False.elim z
end
section
variable{X:Cx}{st:Stmt}{rest:List Stmt}{t u:TS}{e:Expr}{te:TE}{pos:Pos}
def afi:TS:=λD σ H=>D.nx σ H
def Yw(t u:TS):TS:=λD σ H=>t { D with nx:=u D } σ H
theorem W6:PSs X [] afi:=λ_ _ σ H _ I h=>wpAny_execs_nil ⟨σ,H,I,h⟩
theorem zY(h1:PS X st t)(h2:PSs X rest u):PSs X (st::rest) (Yw t u):=by
 intro aa s σ H D I h;refine wpAny_execs_cons (thn (h1 aa s σ H { D with nx:=u D } I h) λf s1 q=>?_);cases f with
 |next =>
  obtain⟨σ',H',I',q⟩:=q;exact h2 aa s1 σ' H' D I' q
 |ret v=>exact q
 |brk=>exact q
 |cont=>exact q
theorem m8(h1:PS X st t):PSs X [st] t:=by
 intro aa s σ H D I h;refine wpAny_execs_cons (thn (h1 aa s σ H D I h) λf s1 q=>?_);cases f with
 |next=>exact wpAny_execs_nil q
 |ret v=>exact q
 |brk=>exact q
 |cont=>exact q
theorem Inv.quiet{aa:Γ}{σ:St}{H:Hp}{s:Shared}(I:Inv X aa σ H s):interactive X.env=false:=by simp[interactive,I.ok.kind]
def Ft(te:TE):TS:=λD σ H=>te σ H λ_ H1=>D.nx σ H1
theorem jk(he:PE X e te)(hs:swapsWith e none pos.line X.env=pure false:=by rfl):PS X (.Expr e pos) (Ft te):=by
 intro aa s σ H D I h;exact wpAny_Expr_any (thn (he aa s σ H _ I h) λv s1 hP=>by obtain⟨x,H1,I1,r1,q1⟩:=hP;exact⟨σ,H1,I1,q1⟩) I.quiet hs
def ahl(te:TE):TS:=λD σ H=>te σ H D.rt
theorem Mg(he:PE X e te):PS X (.Return (some e) pos) (ahl te):=by
 intro aa s σ H D I h;exact wpAny_Return_some (thn (he aa s σ H _ I h) λv s1 hP=>by obtain⟨x,H1,I1,r1,q1⟩:=hP;exact⟨x,σ,H1,I1,r1,q1⟩)
def agN(c:TT)(t u:TS):TS:=λD σ H=>c σ H λb H1=>if b=true then t D σ H1 else u D σ H1
theorem af0{c:Expr}{a b:List Stmt}{tc:TT}(hc:PT X c tc)(ha:PSs X a t)(hb:PSs X b u):PS X (.If c a b pos) (agN tc t u):=by
 intro aa s σ H D I h;refine wpAny_If (thn (hc aa s σ H _ I h) λd s1 hP=>?_);obtain⟨H1,I1,q1⟩:=hP;cases d with
 |true=>exact ha aa s1 σ H1 D I1 q1
 |false=>exact hb aa s1 σ H1 D I1 q1
def aaV:TS:=λ_ _ _=>False
theorem S_:PS X st aaV:=λ_ _ _ _ _ _ h=>h.elim
end
abbrev TG:=V->St->Hp->(St->Hp->Prop)->Prop
abbrev TGs:=Β->St->Hp->(St->Hp->Prop)->Prop
def PG(X:Cx)(fi:Expr)(t:TG):Prop :=
 ∀(aa:Γ)(s:Shared)(σ:St)(H:Hp)(v:V)(u:Value)(Q:St->Hp->Prop),Inv X aa σ H s->RelV v u->t v σ H Q ->
  wpAny (model X.prog X.w) X.A (assign fi X.env u) (λ_ s'=>∃σ' H',Inv X aa σ' H' s'/\Q σ' H') X.xe s
def PGs(X:Cx)(ts:List Expr)(t:TGs):Prop :=
 ∀(aa:Γ)(s:Shared)(σ:St)(H:Hp)(vs:Β)(us:Δ)(Q:St->Hp->Prop),Inv X aa σ H s->Vals vs us->t vs σ H Q ->
  wpAny (model X.prog X.w) X.A (assignInOrder ((assignEach ts X.env).map (·.2)) us) (λ_ s'=>∃σ' H',Inv X aa σ' H' s'/\Q σ' H') X.xe s
abbrev ab0:=V->V->V->Hp->(Hp->Prop)->Prop
def acv(X:Cx)(t:ab0):Prop :=
 ∀(aa:Γ)(s:Shared)(σ:St)(H:Hp)(o i v:V)(ov iv u:Value)(Q:Hp->Prop),Inv X aa σ H s->RelV o ov->RelV i iv->RelV v u->t o i v H Q ->
  wpAny (model X.prog X.w) X.A (setItem ov iv u) (λ_ s'=>∃H',Inv X aa σ H' s'/\Q H') X.xe s
section
variable{X:Cx}{pos:Pos}
def o7(i:Nat):TG:=λv σ H Q=>Q (σ.set i (some v)) H
theorem kh{i:Nat}{x:Str}(hN:X.N.Nodup)(hi:X.N[i]?=some x)(hx:Loc X.env.scope x)(hf:qi X x:=by first|exact .inl rfl|exact .inr rfl|assumption):PG X (.Name x pos) (o7 i):=by
 intro aa s σ H v u Q I r h;exact wpAny_assign_Name (sU I hN hi hx r (λs' I'=>⟨_,H,I',h⟩) hf)
def acT:TGs:=λvs σ H Q=>vs=[]/\Q σ H
def Tj(t:TG)(u:TGs):TGs:=λvs σ H Q=>∃v r,vs=v::r/\t v σ H λσ' H'=>u r σ' H' Q
theorem Oq:PGs X [] acT:=by
 intro aa s σ H vs us Q I r h;obtain⟨e,h⟩:=h;subst e;cases r;exact assignInOrder_nil ⟨σ,H,I,h⟩
theorem Bu{e:Expr}{es:List Expr}{t:TG}{u:TGs}(h1:PG X e t)(h2:PGs X es u)
 (hs:(assignEach (e::es) X.env).map (·.2)=assign e X.env::(assignEach es X.env).map (·.2):=by rfl):PGs X (e::es) (Tj t u):=by
 intro aa s σ H vs us Q I r h;obtain⟨v,vr,e1,h⟩:=h;subst e1;cases r with
 |cons r rr =>
  rw[hs];refine assignInOrder_cons (thn (h1 aa s σ H _ _ _ I r h) λ_ s1 hP=>?_);obtain⟨σ1,H1,I1,q1⟩:=hP;exact h2 aa s1 σ1 H1 _ _ Q I1 rr q1
def ago(K:Frag)(n:Nat)(t:TGs):TG:=λv σ H Q=>∃a xs,v=.ref a/\SqT K H a xs/\xs.length=n/\t xs σ H Q
abbrev zv(X:Cx)(a:List Expr):Prop:=(assignEach a X.env).findIdx? (·.1)=none
theorem Ws{es:List Expr}{k:Nat}{t:TGs}{n:Nat}(hc:X.calm=true)(h:PGs X es t)
 (hn:(assignEach es X.env).length=n:=by rfl)(az:zv X es:=by rfl):PG X (.Tuple es k pos) (ago X.K n t):=by
 intro aa s σ H v u Q I r hw;obtain⟨a,xs,e1,hq,hl,hw⟩:=hw;subst e1;cases r;obtain⟨its,rv,ht,hz⟩:=I.tuple hq;refine assign_Tuple_tuple (I.ok.hd hc) ht (by simp[hn,<- hl,rv.length]) az λh' hx=>?_;have I1:Inv X aa σ H { s with heap:=h' }:=I.kept (t':=s.toks) λb o e=>hx b o (aQ (aJ e)) e;exact h aa _ σ H xs _ Q I1 (by simpa using rv) hw
def agn(to ti:TE)(t:ab0):TG:=λv σ H Q=>to σ H λo H1=>ti σ H1 λi H2=>t o i v H2 λH3=>Q σ H3
theorem aaD{o i:Expr}{to ti:TE}{t:ab0}(ho:PE X o to)(hi:PE X i ti)(hs:acv X t)
 (ha:∀v,assign (.Subscript o i pos) X.env v=(do
   let ov <- holding [v] (eval o X.env)
   let iv <- holding [v,ov] (eval i X.env)
   standAt pos
   holding [v,ov,iv] (setItem ov iv v)
   release [v,ov,iv] []):=by intro _;rfl):PG X (.Subscript o i pos) (agn to ti t):=by
 intro aa s σ H v u Q I r h;rw[ha];refine ZU (wpAny_holding (thn (ho aa s σ H _ I h) λov s1 hP=>?_));obtain⟨x,H1,I1,r1,q1⟩:=hP;refine ZU (wpAny_holding (thn (hi aa s1 σ H1 _ I1 q1) λiv s2 hP=>?_));obtain⟨y,H2,I2,r2,q2⟩:=hP;refine ZU (wpAny_standAt (ZU (wpAny_holding (thn (hs aa s2 σ H2 x y v ov iv u _ I2 r1 r2 r q2) λ_ s3 hP=>?_))));obtain⟨H3,I3,q3⟩:=hP;exact wpAny_release ⟨σ,H3,I3,q3⟩
def Y0(te:TE)(g:TG):TS:=λD σ H=>te σ H λx H1=>g x σ H1 D.nx
theorem Vx{tg e:Expr}{te:TE}{g:TG}(he:PE X e te)(hg:PG X tg g)(hs:swapsWithSole [tg] e pos.line X.env=pure false:=by rfl)(hw:swappedStores [tg] e X.env=pure none:=by rfl)
 (h1:(assignEach [tg] X.env).map (·.2)=[assign tg X.env]:=by rfl):PS X (.Assign [tg] e pos) (Y0 te g):=by
 intro aa s σ H D I h;refine wpAny_Assign_stores (thn (he aa s σ H _ I h) λv s1 hP=>?_) hs hw;obtain⟨x,H1,I1,r1,q1⟩:=hP;rw[h1];exact thn (hg aa s1 σ H1 x v _ I1 r1 q1) λ_ s2 q=>q
theorem GF{i:Nat}{x:Str}{e:Expr}{te:TE}{ar:Pos}(hN:X.N.Nodup)(hi:X.N[i]?=some x)(hx:Loc X.env.scope x)(he:PE X e te)(hs:swapsWith e (some (.Name x ar)) pos.line X.env=pure false:=by rfl)(hf:qi X x:=by first|exact .inl rfl|exact .inr rfl|assumption) :
  PS X (.Assign [.Name x ar] e pos) (Y0 te (o7 i)):=by
 intro aa s σ H D I h;refine wpAny_Assign_Name (thn (he aa s σ H _ I h) λv s1 hP=>?_) hs;obtain⟨y,H1,I1,r1,q1⟩:=hP;exact sU I1 hN hi hx r1 (λs2 I2=>⟨_,H1,I2,q1⟩) hf
def agt(i j:Nat)(ta:TA):TS:=λD σ H=>ta σ H λvs H1=>∃v w,vs=[v,w]/\D.nx ((σ.set i (some v)).set j (some w)) H1
theorem aa4{i j:Nat}{x y:Str}{a b:Expr}{ta:TA}{px py pt:Pos}{kt k2 pt2}(hc:X.calm=true)(hN:X.N.Nodup)(hi:X.N[i]?=some x)(hj:X.N[j]?=some y)(kQ:i≠j)
 (hx:X.env.scope.names.lookup x=some .local)(hy:X.env.scope.names.lookup y=some .local)(ha:PA X [a,b] ta)
 (hw:swappedStores [.Tuple [.Name x px,.Name y py] kt pt] (.Tuple [a,b] k2 pt2) X.env=pure (some [x,y]))
 (hs:swapsWithSole [.Tuple [.Name x px,.Name y py] kt pt] (.Tuple [a,b] k2 pt2) pos.line X.env=pure false:=by rfl) :
  PS X (.Assign [.Tuple [.Name x px,.Name y py] kt pt] (.Tuple [a,b] k2 pt2) pos) (agt i j ta):=by
 intro aa s σ H D I h;rw[exec_Assign_arm];refine ZU (wpAny_standAt ?_);rw[hs];refine ZU (ZT ?_);rw[ZZ (by decide)];refine ZU (Tuple_ (thn (ha _ aa s σ H _ I h) λus s1 hP=>?_));obtain⟨vs,H1,I1,r1,q1⟩:=hP;obtain⟨v,w,e1,q1⟩:=q1;subst e1;obtain⟨u1,u2,rfl,rv,di⟩ : ∃u1 u2,us=[u1,u2]/\RelV v u1/\RelV w u2:=by
  cases r1 with
  |cons p q =>
   cases q with
   |cons p' q' =>
    cases q';exact⟨_,_,rfl,p,p'⟩
 refine wpAny_newObj_type ?_ (by show 2<=sizeLine;decide);have I2:Inv X aa σ H1 { s1 with heap:=s1.heap.push { cls:=.type "tuple",data:=.seq [u1,u2].toArray } }:=I1.kept (t':=s1.toks) λb o e=>aG _ e;rw[hw];refine ZU (ZT ?_);show wpAny (model X.prog X.w) X.A (do rule "assign.swapped-stores"; let items <- unpackItems (.ref s1.heap.objs.size) 2 none;assignInOrder [λv=>bindName X.env y v,λv=>bindName X.env x v] items.reverse;pure Flow.next) _ _ _;refine ZU (wpAny_rule (ZU (unpackItems_tuple (items:=#[u1,u2]) (I.ok.hd hc) (IsTup.new s1.heap _) λh' hx'=>?_)));have I3:=I2.kept (h':=h') (t':=s1.toks) λb o e=>hx' b o (aQ (aJ e)) e;show wpAny _ _ (assignInOrder [λv=>bindName X.env y v,λv=>bindName X.env x v] [u2,u1] >>= λ_=>pure Flow.next) _ _ _;refine ZU (assignInOrder_cons (wpAny_bindName (sU I3 hN hj (.inl hy) di (λs2 I4=>?_) (.inr hy))));refine assignInOrder_cons (wpAny_bindName (sU I4 hN hi (.inl hx) rv (λs3 I5=>assignInOrder_nil (ZT ?_)) (.inr hx)));rw[List.set_comm _ _ (Ne.symm kQ)]at I5;exact⟨_,H1,I5,q1⟩
end
section
variable{X:Cx}{pos:Pos}
def abF(c:TT)(tb:TS):TS:=λD σ H=>∃W:Nat->St->Hp->Prop,(∃m,W m σ H)/\∀m σ H,W m σ H ->
 c σ H λb H1=>if b=true then ∃N:St->Hp->Prop,(∀σ' H',N σ' H'->∃m',m'<m/\W m' σ' H')/\tb { D with nx:=N,ct:=N,bk:=D.nx } σ H1 else D.nx σ H1
theorem V7{c:Expr}{be:List Stmt}{tc:TT}{tb:TS}(hp:PassesOwn (model X.prog X.w) X.A X.env X.xe)(hc:PT X c tc)(hb:PSs X be tb):PS X (.While c be [] pos) (abF tc tb):=by
 intro aa s σ H D I h;obtain⟨W,⟨m0,w0⟩,de⟩:=h;refine wpAny_While (codeAny_whileLoop (λn s'=>∃σ' H',Inv X aa σ' H' s'/\W n σ' H') ?_ m0 ⟨σ,H,I,w0⟩);rintro n s1 ⟨σ1,H1,I1,w1⟩;refine wpAny_passesOwn hp (thn (hc aa s1 σ1 H1 _ I1 (de n σ1 H1 w1)) λb s2 hP=>?_);obtain⟨H2,I2,q2⟩:=hP;cases b with
 |true =>
  obtain⟨N,hN,q2⟩:=q2;rw[ZY rfl];refine wpAny_passesOwn hp (thn (hb aa s2 σ1 H2 _ I2 q2) λf s3 q3=>?_);cases f with
  |next =>
   obtain⟨σ3,H3,I3,n3⟩:=q3;obtain⟨m',hm,w3⟩:=hN σ3 H3 n3;exact⟨m',hm,σ3,H3,I3,w3⟩
  |cont =>
   obtain⟨σ3,H3,I3,n3⟩:=q3;obtain⟨m',hm,w3⟩:=hN σ3 H3 n3;exact⟨m',hm,σ3,H3,I3,w3⟩
  |brk=>exact q3
  |ret v=>exact q3
 |false =>
  rw[ZZ bh];exact wpAny_execs_nil ⟨σ1,H2,I2,q2⟩
end
structure It where
 go:Nat->Hp->Prop
 yld:Nat->Hp->V->Hp->Prop
 stop:Nat->Hp->Prop
def Bl(X:Cx)(aa:Γ)(H:Hp)(b:Addr):Prop :=
 H b=none/\b≠X.env.locals/\b∉X.fs/\(b∈X.ex\/X.s₀.heap.objs.size<=b)/\(∀x c,X.env.cells.lookup x=some c->c≠b)/\∀p∈X.pn++aa,p.1≠b
theorem Inv.fpOk{X:Cx}{aa:Γ}{σ:St}{H H':Hp}{s:Shared}{b:Addr}(I:Inv X aa σ H s)(hb:s.heap.objs.size<=b)(hn:H' b=none):Bl X aa H' b:=by
 refine⟨hn,VW (aR I.lt hb),I.nofs hb,.inr (aL I.sz hb),λx c e z=>?_,λp hp z=>?_⟩
 .obtain⟨v,q⟩:=I.cell x c e;exact absurd (aR q.lt (by rw[z];exact hb)) (XV _)
 .exact absurd (aR (aJ (I.pin p hp).1) (by rw[z];exact hb)) (XV _)
structure Turn(P:Program)(w:World)(K:Frag)(tg:Expr)(J:It)(fp:Φ)(it:Addr)(tn:Nat->Heap->Prop):Prop where
 mem:it∈fp
 obj:∀i h,tn i h->∀b∈fp,∃o,h.get? b=some o/\∀v,o.data≠.cell v
 keep:∀i h h',tn i h->(∀b∈fp,∀o,h.get? b=some o->h'.get? b=some o)->tn i h'
 item:∀(X:Cx),X.prog=P->X.w=w->X.K=K->X.calm=true->∀(i:Nat)(aa:Γ)(s:Shared)(σ:St)(H:Hp)(E:Ξ),Inv X aa σ H s->(∀b∈fp,Bl X aa H b)->tn i s.heap->J.go i H ->
  wpAny (model P w) X.A (pyNext (.ref it)) (λr s1=>∃u,r=some u /\
   wpAny (model P w) X.A (letOwnedTupleGo tg (.ref it) u) (λ_ s2=>∃x H',Inv X aa σ H' s2/\RelV x u/\J.yld i H x H'/\tn (i+1) s2.heap/\∀b∈fp,H' b=none) E s1) E s
 done:∀(X:Cx),X.prog=P->X.w=w->X.K=K->X.calm=true->∀(i:Nat)(aa:Γ)(s:Shared)(σ:St)(H:Hp)(E:Ξ),Inv X aa σ H s->(∀b∈fp,Bl X aa H b)->tn i s.heap->J.stop i H ->
  wpAny (model P w) X.A (pyNext (.ref it)) (λr s1=>r=none/\Inv X aa σ H s1) E s
 self:∀(A:Around)(i:Nat)(s:Shared)(Q:Ξ)(E:Ξ),tn i s.heap->Q (.ref it) s->wpAny (model P w) A (pyIter (.ref it)) Q E s
abbrev TI:=St->Hp->(It->Hp->Prop)->Prop
def PIE(X:Cx)(aa:Γ)(σ:St)(tg:Expr)(R:It->Hp->Prop)(kx:Value)(s2:Shared):Prop :=
 ∃(it:Addr)(fp:Φ)(tn:Nat->Heap->Prop)(J:It)(H':Hp),kx=.ref it/\Inv X aa σ H' s2/\Turn X.prog X.w X.K tg J fp it tn/\tn 0 s2.heap/\(∀b∈fp,Bl X aa H' b)/\R J H'
def PI(X:Cx)(tg iter:Expr)(wi:TI):Prop :=
 ∀(aa:Γ)(s:Shared)(σ:St)(H:Hp)(R:It->Hp->Prop),Inv X aa σ H s->wi σ H R ->
  wpAny (model X.prog X.w) X.A (eval iter X.env) (λv s1=>wpAny (model X.prog X.w) X.A (pyIter v) (PIE X aa σ tg R) X.xe s1) X.xe s
theorem PJ{M:Model}{A:Around}{E:Ξ}{s:Shared}{tg:Expr}{it:Addr}{u:Value}{o:Obj}{n:String}{vs:Array Value}{Q:Unit->Shared->Prop}(ho:s.heap.get? it=some o)(hc:o.cls=.type n)(hd:o.data=.fields vs)
   (hn : ["enumerate","zip","dict_itemiterator","dict_reverseitemiterator","odict_iterator","itertools.zip_longest","itertools.pairwise"].contains n=false)(hQ:Q () s):wpAny M A (letOwnedTupleGo tg (.ref it) u) Q E s:=by
  unfold letOwnedTupleGo;cases tg<;>first
    |exact ZT hQ
    |(cases u<;>first
        |exact ZT hQ
        | (refine ZU (wpAny_load ho ?_)
           rw[hc,hd];show wpAny M A (if(["enumerate","zip","dict_itemiterator","dict_reverseitemiterator","odict_iterator","itertools.zip_longest","itertools.pairwise"].contains n&&vs[0]?==some (rawInt _))=true then _ else _) Q E s;rw[ZZ (by intro h;rw[hn,Bool.false_and]at h;cases h)];exact ZT hQ))
def Itl(K:Frag)(a:Addr):It :=
 ⟨λi H=>∃xs x,SqL K H a xs/\xs[i]?=some x,λi H x H'=>H'=H/\∀xs,SqL K H a xs->xs[i]?=some x,λi H=>∃xs,SqL K H a xs/\xs.length<=i⟩
def Itr(lo:Int)(n:Nat):It:=⟨λi _=>i<n,λi H x H'=>H'=H/\x=.int (lo+i),λi _=>n<=i⟩
theorem QM{P:Program}{w:World}{K:Frag}{tg:Expr}(a it:Addr):Turn P w K tg (Itl K a) [it] it (λi h=>h.IsListIter it a i) where
 mem:=by simp
 obj:=λi h st b hb=>by
  have e:b=it:=by simpa using hb
  subst e;obtain⟨o,e,c,d⟩:=st;exact⟨o,e,λv z=>by rw[d]at z;cases z⟩
 keep:=λi h h' st k=>st.at λo e=>k it (by simp) o e
 item:=by
  intro X hP hw hK hc i aa s σ H E I hf st hg;subst hP hw hK;obtain⟨xs,x,hq,hx⟩:=hg;obtain⟨its,rv,p,hz⟩:=I.list hq;obtain⟨u,hu,ru⟩:=rv.get hx;obtain⟨f0,f1,f2,f3,f4,f5⟩:=hf it (by simp);refine wpAny_pyNext_list_item st p.isList (x:=u) (by simpa using hu) λh' df sb=>?_;have I1:Inv X aa σ H { s with heap:=h' }:=I.turned (t':=s.toks) (λb o hb e=>(sb.2 b hb).trans e) f0 f1 f3 f4 f5;obtain⟨o,e,c,d⟩:=id df;exact⟨u,rfl,PJ (s:={ s with heap:=h' }) e c d (by decide) ⟨x,H,I1,ru,⟨rfl,λys hy=>by rw[I.list_inj hy hq];exact hx⟩,df,λb hb=>(hf b hb).1⟩⟩
 done:=by
  intro X hP hw hK hc i aa s σ H E I hf st hg;subst hP hw hK;obtain⟨xs,hq,hx⟩:=hg;obtain⟨its,rv,p,hz⟩:=I.list hq;obtain⟨f0,f1,f2,f3,f4,f5⟩:=hf it (by simp);have hl:=rv.length;exact wpAny_pyNext_list_end (I.ok.hd hc) st p.isList (by simp;lia) λh' eb=>⟨rfl,I.turned (t':=s.toks) (λb o hb e=>eb b o hb e) f0 f1 f3 f4 f5⟩
 self:=λ_ _ _ _ _ st h=>wpAny_pyIter_listiter st h
theorem M5{P:Program}{w:World}{K:Frag}{tg:Expr}(it:Addr)(lo:Int)(n:Nat):Turn P w K tg (Itr lo n) [it] it (λi h=>IsRangeIter h it (lo+(i:Nat)*1) ((n:Int)-(i:Nat)) 1) where
 mem:=by simp
 obj:=λi h st b hb=>by
  have e:b=it:=by simpa using hb
  subst e;exact⟨_,st,λv z=>by
   have z':Data.fields _=Data.cell v:=z;cases z'⟩
 keep:=λi h h' st k=>k it (by simp) _ st
 item:=by
  intro X hP hw hK hc i aa s σ H E I hf st hg;subst hP hw hK;obtain⟨f0,f1,f2,f3,f4,f5⟩:=hf it (by simp);have W:=Walks.range (prog:=X.prog) (w:=X.w) (I.ok.hd hc) it lo 1 n;refine W.item i s _ _ hg st λv h' tk hv df kk=>?_;obtain⟨t,rfl⟩:=hv;have I1:Inv X aa σ H { s with heap:=h',toks:=tk }:=I.turned (λb o hb e=>kk b o (by simpa using hb) e) f0 f1 f3 f4 f5;refine⟨_,rfl,PJ (s:={ s with heap:=h',toks:=tk }) (n:="range_iterator") df rfl rfl (by decide) ⟨.int (lo+i),H,I1,⟨t,?_⟩,⟨rfl,rfl⟩,df,λb hb=>(hf b hb).1⟩⟩;rw[Int.mul_one]
 done:=by
  intro X hP hw hK hc i aa s σ H E I hf st hg;subst hP hw hK;obtain⟨f0,f1,f2,f3,f4,f5⟩:=hf it (by simp);exact wpAny_pyNext_range_end (I.ok.hd hc) st (by have:n<=i:=hg;lia) λh' eb=>⟨rfl,I.turned (t':=s.toks) (λb o hb e=>eb b o hb e) f0 f1 f3 f4 f5⟩
 self:=λ_ _ _ _ _ st h=>wpAny_pyIter_rangeiter st h
section
variable{X:Cx}{tg:Expr}
def V9(K:Frag)(tl:TE):TI:=λσ H R=>tl σ H λx H1=>∃a,x=.ref a/\(∃xs,SqL K H1 a xs)/\R (Itl K a) H1
theorem zB{l:Expr}{tl:TE}(hl:PE X l tl):PI X tg l (V9 X.K tl):=by
 intro aa s σ H R I h;refine thn (hl aa s σ H _ I h) λv s1 hP=>?_;obtain⟨x,H1,I1,r1,q1⟩:=hP;obtain⟨a,e,⟨xs,hq⟩,q⟩:=q1;subst e;cases r1;obtain⟨its,rv,p,hz⟩:=I1.list hq;refine wpAny_pyIter_list p.isList ?_;refine⟨s1.heap.objs.size,[s1.heap.objs.size],_,_,H1,rfl,I1.kept (t':=s1.toks) λb o e=>aG _ e,QM a _,⟨_,aW _ rfl,rfl,rfl⟩,λb hb=>?_,q⟩;have e:b=s1.heap.objs.size:=by simpa using hb
 subst e;exact I1.fpOk (aF _) (I1.hok.fresh (aF _))
theorem JT{aa:Γ}{σ:St}{H:Hp}{s:Shared}{R:It->Hp->Prop}{E:Ξ}{lo hi:Int}{t u v:Tok}{tk:Nat}(I:Inv X aa σ H s)(h1 : -(2^62)<=lo)(h2:lo<2^62)(h3 : -(2^62)<=hi)(h4:hi<2^62)
 (q:R (Itr lo (hi-lo).toNat) H):wpAny (model X.prog X.w) X.A (pyIter (.ref s.heap.objs.size)) (PIE X aa σ tg R) E { s with heap:=s.heap.push { cls:=.type "range",data:=.fields #[.int lo t,.int hi u,.int 1 v] },toks:=tk }:=by
 refine wpAny_pyIter_range (IsRange.new ..) (small_one h1 h2 h3 h4) ?_;have I1:Inv X aa σ H { s with heap:=s.heap.push { cls:=.type "range",data:=.fields #[.int lo t,.int hi u,.int 1 v] },toks:=tk }:=I.kept λb o e=>aG _ e;refine⟨(s.heap.push { cls:=.type "range",data:=.fields #[.int lo t,.int hi u,.int 1 v] }).objs.size,[(s.heap.push { cls:=.type "range",data:=.fields #[.int lo t,.int hi u,.int 1 v] }).objs.size],_,_,H,rfl,
  I1.kept (t':=tk) λb o e=>aG _ e,M5 _ lo (hi-lo).toNat,?_,λb hb=>?_,q⟩
 .have e1:lo+((0:Nat):Int)*1=lo:=by simp
  have e2:(((hi-lo).toNat:Nat):Int)-((0:Nat):Int)=Builtin.Range.rangeSize lo hi 1:=by rw[rangeSize_one];split<;>lia
  show IsRangeIter _ _ (lo+((0:Nat):Int)*1) ((((hi-lo).toNat:Nat):Int)-((0:Nat):Int)) 1;rw[e1,e2];exact aW _ rfl
 .have e:b=(s.heap.push { cls:=.type "range",data:=.fields #[.int lo t,.int hi u,.int 1 v] }).objs.size:=by simpa using hb
  subst e;exact I1.fpOk (aF _) (I1.hok.fresh (aF _))
def aeT(ta:TA):TI:=λσ H R=>ta σ H λvs H1=>∃j:Int,vs=[.int j]/\-(2^62)<=j/\j<2^62/\R (Itr 0 j.toNat) H1
def acS(ta:TA):TI:=λσ H R=>ta σ H λvs H1=>∃i j:Int,vs=[.int i,.int j]/\(-(2^62)<=i/\i<2^62/\-(2^62)<=j/\j<2^62)/\R (Itr i (j-i).toNat) H1
theorem Qt{a:Expr}{ta:TA}{p pos:Pos}(hg:Gl X "range")(hm:X.mg "range"=none)(ha:PA X [a] ta)(hs:starEach [a] X.env=[(false,eval a X.env)]:=by rfl):PI X tg (.Call (.Name "range" p) [a] [] pos) (aeT ta):=by
 intro aa s σ H R I h;refine Call_ (Bc I hg hm boot_range (PyProof.Rows.callWith_type1 (thn (ha pos aa s σ H _ I h) λus s1 hP=>?_) hs rfl));obtain⟨vs,H1,I1,r1,q1⟩:=hP;obtain⟨j,e,q1,q2,q⟩:=q1;subst e;cases r1 with
 |cons r rr =>
  cases rr;obtain⟨t,rfl⟩:=r;exact call_range_1 (JT I1 (XZ (by decide)) (VV (by decide)) q1 q2 (by simpa using q))
theorem Qw{a b:Expr}{ta:TA}{p pos:Pos}(hg:Gl X "range")(hm:X.mg "range"=none)(ha:PA X [a,b] ta)(hs:starEach [a,b] X.env=[(false,eval a X.env),(false,eval b X.env)]:=by rfl)(cr:starEach [b] X.env=[(false,eval b X.env)]:=by rfl) :
  PI X tg (.Call (.Name "range" p) [a,b] [] pos) (acS ta):=by
 intro aa s σ H R I h;refine Call_ (Bc I hg hm boot_range (PyProof.Rows.callWith_type1 (thn (ha pos aa s σ H _ I h) λus s1 hP=>?_) (by rw[hs,cr]) (by rw[cr];rfl)));obtain⟨vs,H1,I1,r1,q1⟩:=hP;obtain⟨i,j,e,⟨q1,q2,q3,q4⟩,q⟩:=q1;subst e;cases r1 with
 |cons r rr =>
  cases rr with
  |cons r' rr =>
   cases rr;obtain⟨t,rfl⟩:=r;obtain⟨t',rfl⟩:=r';exact call_range_2 (JT I1 q1 q2 q3 q4 q)
def aaL(wi:TI)(g:TG)(tb:TS):TS:=λD σ H=>wi σ H λJ H1=>∃W:Nat->Nat->St->Hp->Prop,(∃m,W 0 m σ H1)/\∀i m σ H,W i m σ H ->
 (J.stop i H/\D.nx σ H)\/(J.go i H/\∃N:St->Hp->Prop,(∀σ' H',N σ' H'->∃m',m'<m/\W (i+1) m' σ' H')/\∀x H',J.yld i H x H'->g x σ H' λσ2 H2=>tb { D with nx:=N,ct:=N,bk:=D.nx } σ2 H2)
def Ay(fp:Φ)(h:Heap):Γ:=fp.filterMap λb=>(h.get? b).map λo=>(b,o)
theorem mL{fp:Φ}{h:Heap}{b:Addr}{o:Obj}(hb:b∈fp)(e:h.get? b=some o):(b,o)∈Ay fp h:=List.mem_filterMap.mpr ⟨b,hb,by rw[e];rfl⟩
theorem QH{fp:Φ}{h:Heap}{p:Addr×Obj}(hp:p∈Ay fp h):p.1∈fp/\h.get? p.1=some p.2:=by
 obtain⟨b,hb,e⟩:=List.mem_filterMap.mp hp;cases q:h.get? b with
 |none=>rw[q]at e;cases e
 |some o =>
  rw[q]at e;have e':(b,o)=p:=Option.some.inj e;subst e';exact⟨hb,q⟩
theorem Inv.pinned{aa:Γ}{σ:St}{H:Hp}{s:Shared}{fp:Φ}(I:Inv X aa σ H s)(hf:∀b∈fp,Bl X aa H b)(ho:∀b∈fp,∃o,s.heap.get? b=some o/\∀v,o.data≠.cell v):Inv X (aa++Ay fp s.heap) σ H s :=
 I.pins_of λp hp=>(Y1.mp hp).elim (λz=>I.pin p (aP _ z)) λz=>by
  obtain⟨hb,e⟩:=QH z;obtain⟨f0,f1,f2,_⟩:=hf p.1 hb;obtain⟨o,e',d⟩:=ho p.1 hb;rw[e]at e';cases e';exact⟨e,f0,f1,f2,d⟩
theorem Inv.unpinned{aa pl:Γ}{σ:St}{H:Hp}{s:Shared}(I:Inv X (aa++pl) σ H s):Inv X aa σ H s:=I.pins_of λp hp=>I.pin p (aP _ (VX _ hp))
abbrev qV(X:Cx)(a:Expr):Prop:=∀z,foldedSetIterable a X.env z=pure z
theorem Mu{iter:Expr}{be:List Stmt}{wi:TI}{g:TG}{tb:TS}{pos:Pos}(hp:PassesOwn (model X.prog X.w) X.A X.env X.xe)(hc:X.calm=true)(hi:PI X tg iter wi)(hg:PG X tg g)(hb:PSs X be tb)
 (hs:qV X iter:=by intro _;rfl):PS X (.For tg iter be [] pos) (aaL wi g tb):=by
 intro aa s σ H D I h;refine wpAny_For (thn (hi aa s σ H _ I h) λv s1 h1=>thn h1 λkx s2 h2=>?_) hs;obtain⟨it,fp,tn,J,H2,e,I2,T,gL,f2,W,⟨m0,w0⟩,de⟩:=h2;subst e

 have fk:∀{H':Hp},(∀b∈fp,H' b=none)->∀b∈fp,Bl X aa H' b:=λhn b hb=>⟨hn b hb,(f2 b hb).2⟩;refine codeAny_forLoop_any (λn s'=>∃i σ' H',Inv X aa σ' H' s'/\tn i s'.heap/\(∀b∈fp,H' b=none)/\W i n σ' H') ?_ m0 ⟨0,σ,H2,I2,gL,λb hb=>(f2 b hb).1,w0⟩;rintro n s3 ⟨i,σ3,H3,I3,gE,fr3,w3⟩;rcases de i n σ3 H3 w3 with⟨stop,qn⟩|⟨go,N,hN,step⟩
 .refine wpAny_passesOwn hp (thn (T.done X rfl rfl rfl hc i aa s3 σ3 H3 X.xe I3 (fk fr3) gE stop) λr s4 hP=>?_);obtain⟨hr,I4⟩:=hP;subst hr;exact wpAny_execs_nil ⟨σ3,H3,I4,qn⟩
 .refine wpAny_passesOwn hp (thn (T.item X rfl rfl rfl hc i aa s3 σ3 H3 X.xe I3 (fk fr3) gE go) λr s4 hP=>?_);obtain⟨u,hr,h4⟩:=hP;subst hr;refine wpAny_passesOwn hp (thn h4 λ_ s5 hP=>?_);obtain⟨x,H5,I5,r5,y5,kc,fr5⟩:=hP;have I5':=I5.pinned (fk fr5) (T.obj _ _ kc);refine wpAny_passesOwn hp (thn (hg _ s5 σ3 H5 x u _ I5' r5 (step x H5 y5)) λ_ s6 hP=>?_);obtain⟨σ6,H6,I6,q6⟩:=hP;refine wpAny_passesOwn hp (thn (hb _ s6 σ6 H6 _ I6 q6) λf s7 q7=>?_);have again:∀{σ7:St}{H7:Hp},Inv X (aa++Ay fp s5.heap) σ7 H7 s7->N σ7 H7->∃m,m<n/\∃i σ' H',Inv X aa σ' H' s7/\tn i s7.heap/\(∀b∈fp,H' b=none)/\W i m σ' H':=λ{σ7 H7}I7 n7=>by
   obtain⟨m',hm,w7⟩:=hN σ7 H7 n7;refine⟨m',hm,i+1,σ7,H7,I7.unpinned,T.keep _ _ _ kc λb hb o e=>(I7.pin (b,o) (aP _ (aP _ (mL hb e)))).1,λb hb=>?_,w7⟩;obtain⟨o,e,d⟩:=T.obj _ _ kc b hb;exact(I7.pin (b,o) (aP _ (aP _ (mL hb e)))).2.1
  cases f with
  |next=>obtain⟨σ7,H7,I7,n7⟩:=q7;exact again I7 n7
  |cont=>obtain⟨σ7,H7,I7,n7⟩:=q7;exact again I7 n7
  |brk=>obtain⟨σ7,H7,I7,q7⟩:=q7;exact⟨σ7,H7,I7.unpinned,q7⟩
  |ret v=>obtain⟨x7,σ7,H7,I7,r7,q7⟩:=q7;exact⟨x7,σ7,H7,I7.unpinned,r7,q7⟩
end
abbrev R2:=V->V->Hp->VK->Prop
def OpR(X:Cx)(f:Value->Value->Sem Value)(r:R2):Prop :=
 ∀(aa:Γ)(s:Shared)(σ:St)(H:Hp)(x y:V)(v u:Value)(Q:VK),Inv X aa σ H s->RelV x v->RelV y u->r x y H Q ->
  wpAny (model X.prog X.w) X.A (f v u) (EP X aa σ Q) X.xe s
def UnR(X:Cx)(f:Value->Sem Value)(r:V->Hp->VK->Prop):Prop :=
 ∀(aa:Γ)(s:Shared)(σ:St)(H:Hp)(x:V)(v:Value)(Q:VK),Inv X aa σ H s->RelV x v->r x H Q ->
  wpAny (model X.prog X.w) X.A (f v) (EP X aa σ Q) X.xe s
def g_(X:Cx)(f:Value)(r:Β->Hp->VK->Prop):Prop :=
 ∀(aa:Γ)(s:Shared)(σ:St)(H:Hp)(xs:Β)(us:Δ)(Q:VK),Inv X aa σ H s->Vals xs us->r xs H Q ->
  wpAny (model X.prog X.w) X.A (call f us) (EP X aa σ Q) X.xe s
def agQ(X:Cx)(r:V->Hp->(Bool->Hp->Prop)->Prop):Prop :=
 ∀(aa:Γ)(s:Shared)(σ:St)(H:Hp)(x:V)(v:Value)(Q:Bool->Hp->Prop),Inv X aa σ H s->RelV x v->r x H Q ->
  wpAny (model X.prog X.w) X.A (truthy v) (TP X aa σ Q) X.xe s
def tOp(r:R2)(ta tb:TE):TE:=λσ H Q=>ta σ H λx H1=>tb σ H1 λy H2=>r x y H2 Q
def tUn(r:V->Hp->VK->Prop)(ta:TE):TE:=λσ H Q=>ta σ H λx H1=>r x H1 Q
def rI(C:Int->Int->Prop)(g:Int->Int->V):R2:=λx y H Q=>∃i j,x=.int i/\y=.int j/\C i j/\Q (g i j) H
def rI0(g:Int->Int->V):R2:=λx y H Q=>∃i j,x=.int i/\y=.int j/\Q (g i j) H
def rU(g:Int->V):V->Hp->VK->Prop:=λx H Q=>∃i,x=.int i/\Q (g i) H
section
variable{X:Cx}{a b c:Expr}{ta tb tc:TE}{pos:Pos}
theorem abL(ha:PE X a ta)(hb:PE X b tb){aa:Γ}{s:Shared}{σ:St}{H:Hp}{R:V->V->Hp->Prop}(I:Inv X aa σ H s)
 (h:ta σ H λx H1=>tb σ H1 λy H2=>R x y H2){Q:Ξ}{f:Value->Value->Sem Value}
 (hf:∀v u s2 x y H2,Inv X aa σ H2 s2->RelV x v->RelV y u->R x y H2->wpAny (model X.prog X.w) X.A (f v u) Q X.xe s2) :
  wpAny (model X.prog X.w) X.A (eval a X.env) (λv s₁=>wpAny (model X.prog X.w) X.A (eval b X.env) (λu s₂=>wpAny (model X.prog X.w) X.A (f v u) Q X.xe s₂) X.xe s₁) X.xe s:=by
 refine thn (ha aa s σ H _ I h) λv s1 hP=>?_;obtain⟨x,H1,I1,r1,q1⟩:=hP;refine thn (hb aa s1 σ H1 _ I1 q1) λu s2 hP=>?_;obtain⟨y,H2,I2,r2,q2⟩:=hP;exact hf v u s2 x y H2 I2 r1 r2 q2
theorem aea{op:Operator}{r:R2}(ho:OpR X (binaryOp op) r)(ha:PE X a ta)(hb:PE X b tb):PE X (.BinOp a op b pos) (tOp r ta tb):=by
 intro aa s σ H Q I h;exact wpAny_BinOp (abL ha hb I h λv u s2 x y H2 I2 rx ry q=>ho aa s2 σ H2 x y v u Q I2 rx ry q)
theorem afH{op:UnaryOp}{r:V->Hp->VK->Prop}(ho:UnR X (unaryOp op) r)(ha:PE X a ta):PE X (.UnaryOp op a pos) (tUn r ta):=by
 intro aa s σ H Q I h;exact UnaryOp_ (thn (ha aa s σ H _ I h) λv s1 hP=>by obtain⟨x,H1,I1,r1,q1⟩:=hP;exact ho aa s1 σ H1 x v Q I1 r1 q1)
theorem opI{f:Value->Value->Sem Value}{C:Int->Int->Prop}{g:Int->Int->Int}
 (rule:∀(i j:Int)(t u:Tok)(s:Shared)(Q:Ξ)(E:Ξ),C i j->Q (.int (g i j) s.toks) { s with toks:=s.toks+1 }->wpAny (model X.prog X.w) X.A (f (.int i t) (.int j u)) Q E s) :
  OpR X f (rI C λi j=>.int (g i j)):=by
 intro aa s σ H x y v u Q I rx ry h;obtain⟨i,j,rfl,rfl,hc,q⟩:=h;obtain⟨t,rfl⟩:=rx;obtain⟨t',rfl⟩:=ry;exact rule i j t t' s _ _ hc ⟨.int (g i j),H,I.tok _,⟨_,rfl⟩,q⟩
theorem ado{f:Value->Value->Sem Value}{g:Int->Int->Int}
 (rule:∀(i j:Int)(t u:Tok)(s:Shared)(Q:Ξ)(E:Ξ),Q (.int (g i j) s.toks) { s with toks:=s.toks+1 }->wpAny (model X.prog X.w) X.A (f (.int i t) (.int j u)) Q E s) :
  OpR X f (rI0 λi j=>.int (g i j)):=by
 intro aa s σ H x y v u Q I rx ry h;obtain⟨i,j,rfl,rfl,q⟩:=h;obtain⟨t,rfl⟩:=rx;obtain⟨t',rfl⟩:=ry;exact rule i j t t' s _ _ ⟨.int (g i j),H,I.tok _,⟨_,rfl⟩,q⟩
theorem W5{f:Value->Value->Sem Value}{g:Int->Int->Bool}
 (rule:∀(i j:Int)(t u:Tok)(s:Shared)(Q:Ξ)(E:Ξ),Q (.bool (g i j)) s->wpAny (model X.prog X.w) X.A (f (.int i t) (.int j u)) Q E s) :
  OpR X f (rI0 λi j=>.bl (g i j)):=by
 intro aa s σ H x y v u Q I rx ry h;obtain⟨i,j,rfl,rfl,q⟩:=h;obtain⟨t,rfl⟩:=rx;obtain⟨t',rfl⟩:=ry;exact rule i j t t' s _ _ ⟨.bl (g i j),H,I,rfl,q⟩
def ach(i j:Int):Prop:=0<=j/\j<=1000000/\i.natAbs<2^64
theorem abx:OpR X (binaryOp .Add) (rI0 λi j=>.int (i+j)):=ado λ_ _ _ _ _ _ _ q=>add_int q
theorem aaE:OpR X (binaryOp .Sub) (rI0 λi j=>.int (i-j)):=ado λ_ _ _ _ _ _ _ q=>sub_int q
theorem ZK:OpR X (binaryOp .Mod) (rI (λ_ j=>0<j) λi j=>.int (i%j)):=opI λi j _ _ _ _ _ hc q=>by
 have h1:(0:Int)<j:=hc;exact mod_int' (X0 hc) (by rw[Int.fmod_eq_emod_of_nonneg i (XZ hc)];exact q)
theorem ZF:OpR X (binaryOp .Pow) (rI ach λi j=>.int (i^j.toNat)):=opI λ_ _ _ _ _ _ _ hc q=>pow_int_small hc.1 hc.2.1 hc.2.2 q
theorem unI{f:Value->Sem Value}{g:Int->Int}
 (rule:∀(i:Int)(t:Tok)(s:Shared)(Q:Ξ)(E:Ξ),Q (.int (g i) s.toks) { s with toks:=s.toks+1 }->wpAny (model X.prog X.w) X.A (f (.int i t)) Q E s) :
  UnR X f (rU λi=>.int (g i)):=by
 intro aa s σ H x v Q I rx h;obtain⟨i,rfl,q⟩:=h;obtain⟨t,rfl⟩:=rx;exact rule i t s _ _ ⟨.int (g i),H,I.tok _,⟨_,rfl⟩,q⟩
theorem aaZ:UnR X (unaryOp .USub) (rU λi=>.int (-i)):=unI λ_ _ _ _ _ q=>neg_int q
end
def Td:V->V->Bool
 |.non,.non=>true|.non,.int _=>true|.int _,.non=>true|.non,.bl _=>true|.bl _,.non=>true|.non,.str _=>true|.str _,.non=>true
 |.int _,.int _=>true|.bl _,.bl _=>true|.str _,.str _=>true|.byt _,.byt _=>true
 |.int _,.str _=>true|.str _,.int _=>true|.bl _,.str _=>true|.str _,.bl _=>true
 |_,_=>false
def rEq:R2:=λx y H Q=>Td x y=true/\Q (.bl (decide (x=y))) H
def rNe:R2:=λx y H Q=>Td x y=true/\Q (.bl (!decide (x=y))) H
theorem O4{i j:Int} : decide (V.int i=V.int j)=(i==j):=by
 rw[Bool.eq_iff_iff];simp
theorem Vv{i j:Bool} : decide (V.bl i=V.bl j)=(i==j):=by
 rw[Bool.eq_iff_iff];simp
theorem PL{i j:Str} : decide (V.str i=V.str j)=(i==j):=by
 rw[Bool.eq_iff_iff];simp
theorem O5{i j:Array UInt8} : decide (V.byt i=V.byt j)=(i.toList==j.toList):=by
 rw[Bool.eq_iff_iff];cases i;cases j;simp
section
variable{X:Cx}{a b c:Expr}{ta tb tc:TE}{pos:Pos}
theorem cT{aa:Γ}{σ:St}{H:Hp}{s:Shared}{Q:VK}{k k':Bool}(I:Inv X aa σ H s)(q:Q (.bl k) H)(e:k=k'):EP X aa σ Q (.bool k') s:=by
 subst e;exact⟨.bl k,H,I,rfl,q⟩
theorem afI:OpR X (compareOp .Eq) rEq:=by
 intro aa s σ H x y v u Q I rx ry h;obtain⟨hs,q⟩:=h;cases x with
 |non =>
  cases rx;cases y with
  |non=>cases ry;exact PySem.EqNone.eq_none_none (cT I q (by simp))
  |bl j=>cases ry;exact PySem.EqNone.eq_none_bool (cT I q (by simp))
  |int j=>obtain⟨t',rfl⟩:=ry;exact PySem.EqNone.eq_none_int (cT I q (by simp))
  |str j=>obtain⟨t',rfl⟩:=ry;exact PySem.EqNone.eq_none_str (cT I q (by simp))
  |_=>exact absurd (show false=true from hs) bh
 |bl i =>
  cases rx;cases y with
  |non=>cases ry;exact PySem.EqNone.eq_bool_none (cT I q (by simp))
  |bl j=>cases ry;exact eq_bool (cT I q Vv)
  |str j=>obtain⟨t',rfl⟩:=ry;exact PySem.EqMixed.eq_bool_str (cT I q (by simp))
  |_=>exact absurd (show false=true from hs) bh
 |int i =>
  obtain⟨t,rfl⟩:=rx;cases y with
  |non=>cases ry;exact PySem.EqNone.eq_int_none (cT I q (by simp))
  |int j=>obtain⟨t',rfl⟩:=ry;exact eq_int (cT I q O4)
  |str j=>obtain⟨t',rfl⟩:=ry;exact PySem.EqMixed.eq_int_str (cT I q (by simp))
  |_=>exact absurd (show false=true from hs) bh
 |str i =>
  obtain⟨t,rfl⟩:=rx;cases y with
  |non=>cases ry;exact PySem.EqNone.eq_str_none (cT I q (by simp))
  |bl j=>cases ry;exact PySem.EqMixed.eq_str_bool (cT I q (by simp))
  |int j=>obtain⟨t',rfl⟩:=ry;exact PySem.EqMixed.eq_str_int (cT I q (by simp))
  |str j=>obtain⟨t',rfl⟩:=ry;exact eq_str (cT I q PL)
  |_=>exact absurd (show false=true from hs) bh
 |byt i =>
  obtain⟨t,rfl⟩:=rx;cases y with
  |byt j=>obtain⟨t',rfl⟩:=ry;exact PySem.W.eq_bytes (cT I q O5)
  |_=>exact absurd (show false=true from hs) bh
 |_=>cases y<;>exact absurd (show false=true from hs) bh
theorem af7:OpR X (compareOp .NotEq) rNe:=by
 intro aa s σ H x y v u Q I rx ry h;obtain⟨hs,q⟩:=h;cases x with
 |non =>
  cases rx;cases y with
  |non=>cases ry;exact PySem.EqNone.ne_none_none (cT I q (by simp))
  |bl j=>cases ry;exact PySem.EqNone.ne_none_bool (cT I q (by simp))
  |int j=>obtain⟨t',rfl⟩:=ry;exact PySem.EqNone.ne_none_int (cT I q (by simp))
  |str j=>obtain⟨t',rfl⟩:=ry;exact PySem.EqNone.ne_none_str (cT I q (by simp))
  |_=>exact absurd (show false=true from hs) bh
 |bl i =>
  cases rx;cases y with
  |non=>cases ry;exact PySem.EqNone.ne_bool_none (cT I q (by simp))
  |bl j=>cases ry;exact ne_bool (cT I q (ZH not Vv))
  |str j=>obtain⟨t',rfl⟩:=ry;exact PySem.EqMixed.ne_bool_str (cT I q (by simp))
  |_=>exact absurd (show false=true from hs) bh
 |int i =>
  obtain⟨t,rfl⟩:=rx;cases y with
  |non=>cases ry;exact PySem.EqNone.ne_int_none (cT I q (by simp))
  |int j=>obtain⟨t',rfl⟩:=ry;exact ne_int (cT I q (ZH not O4))
  |str j=>obtain⟨t',rfl⟩:=ry;exact PySem.EqMixed.ne_int_str (cT I q (by simp))
  |_=>exact absurd (show false=true from hs) bh
 |str i =>
  obtain⟨t,rfl⟩:=rx;cases y with
  |non=>cases ry;exact PySem.EqNone.ne_str_none (cT I q (by simp))
  |bl j=>cases ry;exact PySem.EqMixed.ne_str_bool (cT I q (by simp))
  |int j=>obtain⟨t',rfl⟩:=ry;exact PySem.EqMixed.ne_str_int (cT I q (by simp))
  |str j=>obtain⟨t',rfl⟩:=ry;exact ne_str (cT I q (ZH not PL))
  |_=>exact absurd (show false=true from hs) bh
 |byt i =>
  obtain⟨t,rfl⟩:=rx;cases y with
  |byt j=>obtain⟨t',rfl⟩:=ry;exact PySem.W.ne_bytes (cT I q (ZH not O5))
  |_=>exact absurd (show false=true from hs) bh
 |_=>cases y<;>exact absurd (show false=true from hs) bh
theorem af3:OpR X (compareOp .Lt) (rI0 λi j=>.bl (decide (i<j))):=W5 λ_ _ _ _ _ _ _ q=>lt_int q
theorem aeM:OpR X (compareOp .LtE) (rI0 λi j=>.bl (decide (i<=j))):=W5 λ_ _ _ _ _ _ _ q=>le_int q
theorem afX:OpR X (compareOp .Gt) (rI0 λi j=>.bl (decide (j<i))):=W5 λ_ _ _ _ _ _ _ q=>gt_int q
theorem adJ:OpR X (compareOp .GtE) (rI0 λi j=>.bl (decide (j<=i))):=W5 λ_ _ _ _ _ _ _ q=>ge_int q
theorem aa3:OpR X (compareOp .Is) (λx y H Q=>y=.non/\Q (.bl (decide (x=.non))) H):=by
 intro aa s σ H x y v u Q I rx ry h;obtain⟨rfl,q⟩:=h;cases ry;refine is_none_gen (cT I q ?_);cases x<;>first
  |(cases rx;rfl)
  |(obtain⟨t,rfl⟩:=rx;rfl)
theorem YK:OpR X (compareOp .IsNot) (λx y H Q=>y=.non/\Q (.bl (!decide (x=.non))) H):=by
 intro aa s σ H x y v u Q I rx ry h;obtain⟨rfl,q⟩:=h;cases ry;refine isnot_none_gen (cT I q ?_);cases x<;>first
  |(cases rx;rfl)
  |(obtain⟨t,rfl⟩:=rx;rfl)
theorem Ue(b:Expr){op:CmpOp}(h:op≠.In:=by decide)(h2:op≠.NotIn:=by decide):behindInMarks op b=false:=by
 have e1:(op==CmpOp.In)=false:=by cases op<;>first|rfl|exact absurd rfl h
 have e2:(op==CmpOp.NotIn)=false:=by cases op<;>first|rfl|exact absurd rfl h2
 cases b<;>simp[behindInMarks,e1,e2]
theorem WX{op:CmpOp}{r:R2}(ho:OpR X (compareOp op) r)(ha:PE X a ta)(hb:PE X b tb)(hm:behindInMarks op b=false):PE X (.Compare a [op] [b] pos) (tOp r ta tb):=by
 intro aa s σ H Q I h;exact wpAny_Compare1 (abL ha hb I h λv u s2 x y H2 I2 rx ry q=>ho aa s2 σ H2 x y v u Q I2 rx ry q) hm
def Zh(t:TE):TT:=λσ H Q=>t σ H λx H'=>∃k,x=.bl k/\Q k H'
theorem XH{op:CmpOp}{r:R2}(ho:OpR X (compareOp op) r)(ha:PE X a ta)(hb:PE X b tb)(hm:behindInMarks op b=false):PT X (.Compare a [op] [b] pos) (Zh (tOp r ta tb)):=by
 intro aa s σ H Q I h;refine wpAny_isTrue_Compare1 (thn (ha aa s σ H _ I h) λv s1 ⟨x,H1,I1,r1,q1⟩=>thn (hb aa s1 σ H1 _ I1 q1) λu s2 ⟨y,H2,I2,r2,q2⟩ =>
  thn (ho aa s2 σ H2 x y v u _ I2 r1 r2 q2) λc s3 ⟨z,H3,I3,r3,k,e,q3⟩=>?_) hm
 subst e;cases r3;exact wpAny_truthy_bool ⟨H3,I3,q3⟩
def Lp(r r':R2)(ta tb tc:TE):TE:=λσ H Q=>ta σ H λx H1=>tb σ H1 λy H2=>r x y H2 λz H3=>∃k,z=.bl k /\
 (if k=true then tc σ H3 λw' H4=>r' y w' H4 Q else Q (.bl false) H3)
theorem V4{op cf:CmpOp}{r r':R2}(ho:OpR X (compareOp op) r)(b7:OpR X (compareOp cf) r')(ha:PE X a ta)(hb:PE X b tb)(hc:PE X c tc)
 (hm:lastMarks [op,cf] [b,c]=false:=by with_unfolding_all rfl):PE X (.Compare a [op,cf] [b,c] pos) (Lp r r' ta tb tc):=by
 intro aa s σ H Q I h;refine Compare_chain (thn (ha aa s σ H _ I h) λv s1 ⟨x,H1,I1,r1,q1⟩=>chain_link (thn (hb aa s1 σ H1 _ I1 q1) λu s2 ⟨y,H2,I2,r2,q2⟩ =>
  thn (ho aa s2 σ H2 x y v u _ I2 r1 r2 q2) λd s3 ⟨z,H3,I3,r3,k,e,q3⟩=>?_)) hm
 subst e;cases r3;refine wpAny_truthy_bool ?_;cases k with
 |false=>exact ite_ff ⟨.bl false,H3,I3,rfl,q3⟩
 |true=>exact ite_tt (chain_last (thn (hc aa s3 σ H3 _ I3 q3) λw' s4 hP=>by obtain⟨z',H4,I4,r4,q4⟩:=hP;exact b7 aa s4 σ H4 y z' u w' Q I4 r2 r4 q4))
theorem Wj{op cf:CmpOp}{r r':R2}(ho:OpR X (compareOp op) r)(b7:OpR X (compareOp cf) r')(ha:PE X a ta)(hb:PE X b tb)(hc:PE X c tc)
 (hm:lastMarks [op,cf] [b,c]=false:=by with_unfolding_all rfl):PT X (.Compare a [op,cf] [b,c] pos) (Zh (Lp r r' ta tb tc)):=by
 intro aa s σ H Q I h;refine isTrue_chain (thn (ha aa s σ H _ I h) λv s1 ⟨x,H1,I1,r1,q1⟩=>test_link (thn (hb aa s1 σ H1 _ I1 q1) λu s2 ⟨y,H2,I2,r2,q2⟩ =>
  thn (ho aa s2 σ H2 x y v u _ I2 r1 r2 q2) λd s3 ⟨z,H3,I3,r3,k,e,q3⟩=>?_)) hm
 subst e;cases r3;refine wpAny_truthy_bool ?_;cases k with
 |false =>
  obtain⟨k',e',q'⟩:=q3;cases e';exact ite_ff ⟨H3,I3,q'⟩
 |true =>
  refine ite_tt (test_last (thn (hc aa s3 σ H3 _ I3 q3) λw' s4 ⟨z',H4,I4,r4,q4⟩=>thn (b7 aa s4 σ H4 y z' u w' _ I4 r2 r4 q4) λd' s5 hP=>?_));obtain⟨z2,H5,I5,r5,k2,e2,q5⟩:=hP;subst e2;cases r5;exact wpAny_truthy_bool ⟨H5,I5,q5⟩
def acY(K:Frag)(x:V)(H:Hp)(k:Bool):Prop :=
 match x with
 |.non=>k=false
 |.bl b=>k=b
 |.int i=>k=(i != 0)
 |.str y=>y.length<=sizeLine/\k=((y.length:Int) != 0)
 |.byt y=>y.size<=sizeLine/\k=((y.size:Int) != 0)
 |.ref p=>(∃xs,SqL K H p xs/\k = !xs.isEmpty)\/(∃xs,SqT K H p xs/\k = !xs.isEmpty)\/∃kvs,H p=some (.dK kvs)/\k = !kvs.isEmpty
 |_=>False
theorem MK{κ:Type}{kvs:List (κ×V)}{vs:List (κ×Value)}(r:KV kvs vs):(!vs.isEmpty) = !kvs.isEmpty:=by
 cases r<;>rfl
theorem Cq{xs:Β}{its:Δ}(r:Vals xs its):(!its.toArray.isEmpty) = !xs.isEmpty:=by
 cases r<;>simp
theorem sJ:(sizeLine:Nat)<2^63:=by rw[sizeLine_eq];decide
theorem ab1:agQ X (λx H Q=>∃k,acY X.K x H k/\Q k H):=by
 intro aa s σ H x v Q I rx h;obtain⟨k,e,q⟩:=h;have hl:=sJ;have hs:sizeLine=16777216:=sizeLine_eq;cases x with
 |non =>
  cases rx;have e':k=false:=e;subst e';exact truthy_none ⟨H,I,q⟩
 |bl b =>
  cases rx;have e':k=b:=e;subst e';exact wpAny_truthy_bool ⟨H,I,q⟩
 |int i =>
  obtain⟨t,rfl⟩:=rx;have e':k=(i != 0):=e;subst e';exact PySem.P.truthy_int ⟨H,I,q⟩
 |str y =>
  obtain⟨t,rfl⟩:=rx;obtain⟨hy,e'⟩ : y.length<=sizeLine/\k=((y.length:Int) != 0):=e;subst e';exact PySem.P.truthy_str (by lia) ⟨H,I.tok _,q⟩
 |byt y =>
  obtain⟨t,rfl⟩:=rx;obtain⟨hy,e'⟩ : y.size<=sizeLine/\k=((y.size:Int) != 0):=e;subst e';exact PySem.W.truthy_bytes (aL hy (by decide)) ⟨H,I.tok _,q⟩
 |ref p =>
  cases rx;have e':(∃xs,SqL X.K H p xs/\k = !xs.isEmpty)\/(∃xs,SqT X.K H p xs/\k = !xs.isEmpty)\/∃kvs,H p=some (.dK kvs)/\k = !kvs.isEmpty:=e;rcases e' with⟨xs,hx,e'⟩|⟨xs,hx,e'⟩|⟨kvs,hx,e'⟩
  .subst e';obtain⟨its,r,pl,hz⟩:=I.list hx;have ax:=r.length;exact wpAny_truthy_list pl.isList (by simp only[aX];lia) ⟨H,I.tok _,by rw[Cq r];exact q⟩
  .subst e';obtain⟨its,r,pl,hz⟩:=I.tuple hx;have ax:=r.length;exact truthy_tuple pl (by simp only[aX];lia) ⟨H,I.tok _,by rw[Cq r];exact q⟩
  .subst e';obtain⟨hz,hS,vs,r,m⟩ : kvs.length<=sizeLine/\(p==sysModules)=false/\∃vs,KV kvs vs/\s.heap.DictOf (fH X.prog X.w) p vs:=I.hok p _ hx;have ax:kvs.length=vs.length:=Paired.length r;exact wpAny_truthy_dict hS m (by lia) ⟨H,I.tok _,by rw[MK r];exact q⟩
 |_=>exact(show False from e).elim
theorem Vc(ha:PE X a ta)(he:∀bz,isTrue a X.env bz=(do let v <- bz;standAt a.pos;holding [v] (truthy v))) :
  PT X a (λσ H Q=>ta σ H λx H'=>∃k,acY X.K x H' k/\Q k H'):=by
 intro aa s σ H Q I h;exact isTrue_plain (thn (ha aa s σ H _ I h) λv s1 hP=>by obtain⟨x,H1,I1,r1,q1⟩:=hP;exact ab1 aa s1 σ H1 x v Q I1 r1 q1) (he _)
theorem NP:OpR X (binaryOp .Add) (λx y H Q=>∃i j,x=.str i/\y=.str j/\i.length+j.length<=sizeLine/\Q (.str (i++j)) H):=by
 intro aa s σ H x y v u Q I rx ry h;obtain⟨i,j,rfl,rfl,hz,q⟩:=h;obtain⟨t,rfl⟩:=rx;obtain⟨t',rfl⟩:=ry;exact add_str (λt' tk=>⟨.str (i++j),H,I.tok _,⟨_,rfl⟩,q⟩) hz
theorem vals1{x:V}{us:Δ}(r:Vals [x] us):∃u,us=[u]/\RelV x u:=by
 cases r with
 |cons r1 r2=>cases r2;exact⟨_,rfl,r1⟩
theorem vals2{x y:V}{us:Δ}(r:Vals [x,y] us):∃u w',us=[u,w']/\RelV x u/\RelV y w':=by
 cases r with
 |cons r1 r2 =>
  cases r2 with
  |cons r3 r4=>cases r4;exact⟨_,_,rfl,r1,r3⟩
theorem Sg:g_ X (.builtin "abs") (λxs H Q=>∃i,xs=[.int i]/\Q (.int (if i<0 then -i else i)) H):=by
 intro aa s σ H xs us Q I r h;obtain⟨i,rfl,q⟩:=h;obtain⟨u,rfl,t,rfl⟩:=vals1 r;exact call_abs_int λu tk=>⟨.int (if i<0 then -i else i),H,I.tok _,⟨_,rfl⟩,q⟩
theorem Rg(hc:X.calm=true):g_ X (.builtin "max") (λxs H Q=>∃i j,xs=[.int i,.int j]/\Q (.int (if j>i then j else i)) H):=by
 intro aa s σ H xs us Q I r h;obtain⟨i,j,rfl,q⟩:=h;obtain⟨u,w',rfl,⟨t,rfl⟩,⟨t',rfl⟩⟩:=vals2 r;refine max_two_ints (I.ok.hd hc) λh' tk k=>⟨_,H,I.kept k,?_,q⟩;by_cases hj:j>i
 .rw[ZY hj,ZY hj];exact⟨_,rfl⟩
 .rw[ZZ hj,ZZ hj];exact⟨_,rfl⟩
theorem RV(hc:X.calm=true):g_ X (.builtin "min") (λxs H Q=>∃i j,xs=[.int i,.int j]/\Q (.int (if j<i then j else i)) H):=by
 intro aa s σ H xs us Q I r h;obtain⟨i,j,rfl,q⟩:=h;obtain⟨u,w',rfl,⟨t,rfl⟩,⟨t',rfl⟩⟩:=vals2 r;refine min_two_ints (I.ok.hd hc) λh' tk k=>⟨_,H,I.kept k,?_,q⟩;by_cases hj:j<i
 .rw[ZY hj,ZY hj];exact⟨_,rfl⟩
 .rw[ZZ hj,ZZ hj];exact⟨_,rfl⟩
theorem QC:g_ X (.type "int") (λxs H Q=>(∃i,xs=[.int i]/\Q (.int i) H)\/∃k,xs=[.bl k]/\Q (.int (if k then 1 else 0)) H):=by
 intro aa s σ H xs us Q I r h;rcases h with⟨i,rfl,q⟩|⟨k,rfl,q⟩
 .obtain⟨u,rfl,t,rfl⟩:=vals1 r;exact call_int_int ⟨.int i,H,I,⟨_,rfl⟩,q⟩
 .obtain⟨u,rfl,r1⟩:=vals1 r;cases r1;exact call_int_bool ⟨.int (if k then 1 else 0),H,I.tok _,⟨_,rfl⟩,q⟩
end
structure Ni(h:Heap)(x dx C:Addr)(mA:Str->Ψ):Prop where
 obj:h.get? x=some (instObj C dx)
 ns:h.Ns1 dx mA
 ne:dx≠x
theorem Fq{h:Heap}{dx:Addr}{mA:Str->Ψ}(n:h.Ns1 dx mA):∃od,h.get? dx=some od/\∀name,lookIn name od=some (mA name):=by
 obtain⟨o,es,ep,ho,hd,hk,_,hm⟩:=n;refine⟨o,ho,λname=>?_⟩;have e:=hm name;unfold nsFind findBy at e;rw[<- Array.find?_toList]at e;unfold lookIn;rw[hd];dsimp only;split
 .rename_i y q
  rw[q]at e;exact ZH some e
 .rename_i q
  rw[q]at e;have a:es.toList.any (·.refKey)=false:=by
   rw[List.any_eq_false];intro y hy;obtain⟨z,t,dP⟩:=hk y (Array.mem_toList_iff.mp hy);simp[DictEntry.refKey,dP]
  have a':¬es.toList.any (·.refKey)=true:=by rw[a];exact bh
  rw[ZZ a'];exact ZH some e
theorem Ni.look{h:Heap}{x dx C:Addr}{mA:Str->Ψ}(I:Ni h x dx C mA):∃od,PySem.W.InstAt h x (instObj C dx) C (some od)/\∀name,lookIn name od=some (mA name) :=
 let⟨od,ho,hl⟩:=Fq I.ns
 ⟨od,⟨I.obj,rfl,rfl,ho⟩,hl⟩
section
variable{prog:Program}{w:World}{A:Around}{E:Ξ}{s:Shared}{K:Frag}{x dx C f:Addr}{mA:Str->Ψ}{name:Str}{v:Value}
theorem get_map{l7:Bool}{Q:Ξ}(X:K.In s.heap)(I:Ni s.heap x dx C mA)(hg:plainGet K C name=true)(hh:hasDictIn K C=true)
 (ha:findIn K (.ref C) name=some none)(hv:mA name=some v)(hv':handedIn v=true)(h:Q v { s with toks:=s.toks+1 }) :
  wpAny (model prog w) A (getAttr (.ref x) name l7) Q E s:=by
 obtain⟨od,J,hl⟩:=I.look;exact PySem.W.get_value X J (plainGet_of hg).1 (findObj_own hh ha rfl (by rw[hl,hv])) hv' h
theorem U3{pl:Sem Bool}{Q:Value×Δ->Shared->Prop}(X:K.In s.heap)(I:Ni s.heap x dx C mA)(hg:plainGet K C name=true)
 (hf:findIn K (.ref C) name=some (some (.ref f)))(ht:isFn K (.ref f)=true)(hv:mA name=none)(h:Q (.ref f,[.ref x]) s) :
  wpAny (model prog w) A (getMethod (.ref x) name pl) Q E s:=by
 obtain⟨od,J,hl⟩:=I.look;exact PySem.W.method_fn X J (plainGet_of hg).1 (plainGet_of hg).2 hf (beq_iff_eq.mp ht) (by show(lookIn name od).map (·.isSome)=some false;rw[hl,hv];rfl) h
theorem Yc{ns:Θ}{Q:Unit->Shared->Prop}(X:K.In s.heap)(I:Ni s.heap x dx C mA)
 (hs:findIn K (.ref C) "__setattr__"=some (some (.builtin "object.__setattr__")))(hp:plainOver K C=true)(ht:takerIn K C name=some none)(hh:hasDictIn K C=true)
 (hw:PySem.Within mA ns)(hsz:ns.length<=sizeLine)
 (h:∀h',Ni h' x dx C (λy=>if y=name then some v else mA y)->Heap.SameBut dx s.heap h'->Q () { s with heap:=h',toks:=s.toks+2 }) :
  wpAny (model prog w) A (setAttr (.ref x) name v) Q E s:=by
 obtain⟨od,J,hl⟩:=I.look;refine set_plain X J hs (PySem.W.osa_open (s:={ s with toks:=s.toks+1 }) (r:=none) X J hp ht λb=>?_);obtain⟨cd,hc,bg⟩:=PySem.W.any_some hh;have hx:s.heap.get? x=some ⟨.ref C,some dx,.plain,#[]⟩:=I.obj;refine ZU (ZT (ZU (ZU (wpAny_loadPart hx (ZU (PySem.W.Looks.here (s:={ s with toks:=s.toks+1 }) (looks_clsIn X hc) ?_))))));rw[bg];refine ZT (a:=some dx) (ZU (ZT (ZU ?_)));refine wpAny_nsSet1 (s:={ s with toks:=s.toks+1 }) I.ns λh' eW cr=>?_;obtain⟨oD,esD,epD,kK,gu,cw⟩:=eW.count (PySem.Within.cons name v hw);refine ZU (wpAny_lookBehind kK (by rw[gu];exact pastItsLine_dict (aL cw (by rw[List.length_cons];exact Nat.succ_le_succ hsz))) ?_);exact ZT (h _ ⟨(cr.2 _ (Ne.symm I.ne)).trans I.obj,eW,I.ne⟩ cr)
theorem Sw{R:Result->Shared->Prop}{vs:Δ}{kw:List (Str×Value)}(X:K.In s.heap)(hm:makesIn K C=true)
 (hi:findIn K (.ref C) "__init__"=some (some (.ref f)))(hf:typeIn K (.ref f)=some (.type "function"))
 (h:codeAny (model prog w) (A.under (.builtin "type.__call__" ⟨.ref C::vs,kw⟩)) (.call (.ref f) ⟨.ref (s.heap.objs.size+1)::vs,kw⟩) (PySem.W.InitBack (s.heap.objs.size+1) R)
   { s with heap:=(s.heap.push emptyDict).push (instObj C s.heap.objs.size) }) :
  codeAny (model prog w) A (.call (.ref C) ⟨vs,kw⟩) R s:=by
 obtain⟨hh,g,d,t,os⟩:=s;exact PySem.W.make_core (PySem.W.makes_of X hm) (looks_findIn X hi) (λself=>PySem.W.bind_fn X self hf) (.inl rfl) h
end
def qK(f:Str)(v:V):List (Str×V)->List (Str×V)
 |[]=>[(f,v)]
 |(g,x)::r=>if g=f then(g,v)::r else(g,x)::qK f v r
theorem yK(f g:Str)(v:V):∀fs:List (Str×V),(qK f v fs).lookup g=if g=f then some v else fs.lookup g
 |[]=>by
  show List.lookup g [(f,v)]=_;by_cases h:g=f
  .have hb:(g==f)=true:=beq_iff_eq.mpr h;simp only[List.lookup,hb,ZY h]
  .have hb:(g==f)=false:=beq_eq_false_iff_ne.mpr h;simp only[List.lookup,hb,ZZ h]
 |(k,x)::r=>by
  have ih:=yK f g v r;rw[show qK f v ((k,x)::r)=(if k=f then(k,v)::r else(k,x)::qK f v r)from rfl];by_cases hk:k=f
  .rw[ZY hk];by_cases h:g=k
   .have hb:(g==k)=true:=beq_iff_eq.mpr h;simp only[List.lookup,hb,ZY (h.trans hk)]
   .have hb:(g==k)=false:=beq_eq_false_iff_ne.mpr h;simp only[List.lookup,hb,ZZ (λe:g=f=>h (e.trans hk.symm))]
  .rw[ZZ hk];by_cases h:g=k
   .have hb:(g==k)=true:=beq_iff_eq.mpr h;simp only[List.lookup,hb,ZZ (λe:g=f=>hk (h.symm.trans e))]
   .have hb:(g==k)=false:=beq_eq_false_iff_ne.mpr h;simp only[List.lookup,hb];exact ih
theorem yc(f:Str)(v:V):∀fs:List (Str×V),f∈(qK f v fs).map (·.1)/\∀g,g∈fs.map (·.1)->g∈(qK f v fs).map (·.1)
 |[]=>⟨by simp[qK],λg h=>by simp at h⟩
 |(k,x)::r=>by
  obtain⟨i1,i2⟩:=yc f v r;rw[show qK f v ((k,x)::r)=(if k=f then(k,v)::r else(k,x)::qK f v r)from rfl];by_cases hk:k=f
  .rw[ZY hk];subst hk;exact⟨by simp,λg h=>by simpa using h⟩
  .rw[ZZ hk];refine⟨?_,λg h=>?_⟩
   .rw[List.map_cons];exact aH _ i1
   .rw[List.map_cons]at h ⊢;rcases YU.mp h with e|e
    .exact YU.mpr (.inl e)
    .exact aH _ (i2 g e)
theorem yJ(f:Str)(v:V):∀fs:List (Str×V),(qK f v fs).length<=fs.length+1
 |[]=>by simp[qK]
 |(k,x)::r=>by
  have ih:=yJ f v r;rw[show qK f v ((k,x)::r)=(if k=f then(k,v)::r else(k,x)::qK f v r)from rfl];by_cases hk:k=f
  .rw[ZY hk,List.length_cons,List.length_cons];exact Xs _
  .rw[ZZ hk,List.length_cons,List.length_cons];exact Nat.succ_le_succ ih
theorem rM.some_of{v:V}{o:Ψ}(r:rM (some v) o):∃u,o=some u/\RelV v u:=by
 cases o with
 |none=>exact(show False from r).elim
 |some u=>exact⟨u,rfl,r⟩
theorem rM.none_of{o:Ψ}(r:rM none o):o=none:=by
 cases o with
 |none=>rfl
 |some u=>exact(show False from r).elim
theorem Gf{v:V}{u:Value}(r:RelV v u):handedIn u=true:=by
 cases v with
 |non=>cases(show u=Value.none from r);rfl
 |bl b=>cases(show u=Value.bool b from r);rfl
 |int i=>obtain⟨t,e⟩:=(show ∃t,u=Value.int i t from r);cases e;rfl
 |str x=>obtain⟨t,e⟩:=(show ∃t,u=Value.str x t from r);cases e;rfl
 |byt b=>obtain⟨t,e⟩:=(show ∃t,u=Value.bytes b t from r);cases e;rfl
 |flt b=>obtain⟨t,e⟩:=(show ∃t,u=Value.float b t from r);cases e;rfl
 |ref a=>cases(show u=Value.ref a from r);rfl
 |ty n=>cases(show u=Value.type n from r);rfl
section
variable{P:Program}{w:World}{H H':Hp}{h h':Heap}{a C dx:Addr}{fs fs':List (Str×V)}
theorem zQ(hok:HOk P w H h)(e:H a=some (.ins C dx fs)):∃mA,Ni h a dx C mA/\(∀f,rM (fs.lookup f) (mA f))/\PySem.Within mA (fs.map (·.1))/\fs.length<=1000/\H dx=some (.own a):=by
 obtain⟨d,z,ne,ob,mA,n,r,q⟩:=(show dW P w H h a (.ins C dx fs)from hok a _ e);exact⟨mA,⟨ob,n,ne⟩,r,q,z,d⟩
end
structure Cls(K:Frag)(C:Addr):Prop where
 pg:plainGet K C Str.empty=true
 hd:hasDictIn K C=true
 po:plainOver K C=true
 sa:findIn K (.ref C) "__setattr__"=some (some (.builtin "object.__setattr__"))
theorem Cls.get{K:Frag}{C:Addr}(c:Cls K C)(f:Str):plainGet K C f=true:=c.pg
def bN(K:Frag)(C:Addr)(f:Str):Prop:=findIn K (.ref C) f=some none
theorem bN.taker{K:Frag}{C:Addr}{f:Str}(n:bN K C f):takerIn K C f=some none:=by
 unfold takerIn;rw[show findIn K (.ref C) f=some none from n]
 rfl
structure Meth(K:Frag)(C:Addr)(m:Str)(f:Addr):Prop where
 at_:findIn K (.ref C) m=some (some (.ref f))
 fn:isFn K (.ref f)=true
 kp:keepIn K (.ref f)=true
section
variable{X:Cx}{aa:Γ}{σ:St}{H:Hp}{s:Shared}{a C dx:Addr}{fs:List (Str×V)}{f:Str}{v:V}{A:Around}{E:Ξ}
theorem Lz{b:Bool}{Q:Ξ}(I:Inv X aa σ H s)(e:H a=some (.ins C dx fs))(c:Cls X.K C)(n:bN X.K C f)(l:fs.lookup f=some v)
 (h:∀u s',Inv X aa σ H s'->RelV v u->Q u s'):wpAny (model X.prog X.w) A (getAttr (.ref a) f b) Q E s:=by
 obtain⟨mA,O,r,_,_,_⟩:=zQ I.hok e;obtain⟨u,hu,ru⟩:=rM.some_of (v:=v) (o:=mA f) (by rw[<- l];exact r f);exact get_map I.kIn O (c.get f) c.hd n hu (Gf ru) (h u _ (I.tok _) ru)
theorem uY{m:Str}{g:Addr}{pl:Sem Bool}{Q:Value×Δ->Shared->Prop}(I:Inv X aa σ H s)(e:H a=some (.ins C dx fs))(c:Cls X.K C)(k:Meth X.K C m g)(l:fs.lookup m=none)
 (h:Q (.ref g,[.ref a]) s):wpAny (model X.prog X.w) A (getMethod (.ref a) m pl) Q E s:=by
 obtain⟨mA,O,r,_,_,_⟩:=zQ I.hok e;have hn:mA m=none:=rM.none_of (by rw[<- l];exact r m);exact U3 I.kIn O (c.get m) k.at_ k.fn hn h
theorem MF{y:V}{u:Value}{Q:Unit->Shared->Prop}(I:Inv X aa σ H s)(e:H a=some (.ins C dx fs))(c:Cls X.K C)(n:bN X.K C f)(hl:fs.length<1000)(ry:RelV y u)
 (h:∀s',Inv X aa σ (upd H a (.ins C dx (qK f y fs))) s'->Q () s'):wpAny (model X.prog X.w) A (setAttr (.ref a) f u) Q E s:=by
 obtain⟨mA,O,r,wi,_,ho⟩:=zQ I.hok e;have hz:(fs.map (·.1)).length<=sizeLine:=by rw[ak,sizeLine_eq];exact aL (Y2 hl) (by decide)
 refine Yc I.kIn O c.sa c.po n.taker c.hd wi hz λh' O' sb=>h _ ?_;have hd:∃o,h'.get? dx=some o:=by obtain⟨o,_,_,e',_⟩:=O'.ns;exact⟨o,e'⟩
 refine I.write (x:=a) (e:=dx) (by rw[e];exact True.intro) (.inr ho) (λb q hb z=>(sb.2 b hb).trans z) hd ?_;refine⟨by rw[bM O.ne];exact ho,?_,O.ne,O'.obj,_,O'.ns,λg=>?_,λg hg=>?_⟩
 .have:=yJ f y fs;lia
 .show rM ((qK f y fs).lookup g) (if g=f then some u else mA g);rw[yK];by_cases q:g=f
  .rw[ZY q,ZY q];exact ry
  .rw[ZZ q,ZZ q];exact r g
 .by_cases q:g=f
  .rw[q];exact(yc f y fs).1
  .refine(yc f y fs).2 g (wi g λz=>hg ?_);show(if g=f then some u else mA g)=none;rw[ZZ q];exact z
theorem Inv.made(I:Inv X aa σ H s):Inv X aa σ (upd (upd H s.heap.objs.size (.own (s.heap.objs.size+1))) (s.heap.objs.size+1) (.ins C s.heap.objs.size []))
  { s with heap:=(s.heap.push emptyDict).push (instObj C s.heap.objs.size) }:=by
 have e1:(s.heap.push emptyDict).get? s.heap.objs.size=some emptyDict:=aW s.heap rfl;have e2:((s.heap.push emptyDict).push (instObj C s.heap.objs.size)).get? (s.heap.objs.size+1)=some (instObj C s.heap.objs.size):=by
  have:=aW (s.heap.push emptyDict) (o:=instObj C s.heap.objs.size) rfl;rwa[Heap.size_push]at this
 have e3:(s.heap.push emptyDict).Ns s.heap.objs.size (λ_=>none):=⟨emptyDict,#[],_,e1,rfl,(λe he=>absurd he (by simp)),λ_=>rfl⟩;have I1:=I.laid (a:=s.heap.objs.size) (o:=.own (s.heap.objs.size+1)) (h':=s.heap.push emptyDict) (t':=s.toks) (λb u q=>aG _ q) (aF _) ⟨_,e1⟩;refine I1.laid (a:=s.heap.objs.size+1) (o:=.ins C s.heap.objs.size []) (t':=s.toks) (λb u q=>aG _ q) (X9 (Heap.size_push _ _)) ?_;have ne:s.heap.objs.size≠s.heap.objs.size+1:=aQ (Nat.lt_succ_self _);refine⟨by rw[bM ne,bQ],aZ _,ne,e2,λ_=>none,(Heap.Ns1.of_empty e3).at λo q=>aG _ q,λ_=>True.intro,λy hy=>absurd rfl hy⟩
theorem O9{prog:Program}{w:World}{env:Env}{e:Expr}{f:Str}{pos:Pos}{s:Shared}{Q:Ξ}(hb:attributeBase e f env (eval e env)=eval e env)
 (h:wpAny (model prog w) A (eval e env) (λo s₁=>wpAny (model prog w) A (getAttr o f true) Q E s₁) E s):wpAny (model prog w) A (eval (.Attribute e f pos) env) Q E s :=
 Attribute_any_ h (by rw[arm_eval_Attribute,hb])
end
def agG(K:Frag)(ta:TE)(f:Str):TE:=λσ H Q=>ta σ H λx H1=>∃a C dx fs v,x=.ref a/\H1 a=some (.ins C dx fs)/\Cls K C/\bN K C f/\fs.lookup f=some v/\Q v H1
def ag2(K:Frag)(ta tv:TE)(f:Str):TS:=λD σ H=>tv σ H λy H1=>ta σ H1 λx H2=>∃a C dx fs,x=.ref a/\H2 a=some (.ins C dx fs)/\Cls K C/\bN K C f/\fs.length<1000 /\
 D.nx σ (upd H2 a (.ins C dx (qK f y fs)))
section
variable{X:Cx}{o e am:Expr}{f:Str}{pos ar aI:Pos}{ta tv:TE}
abbrev qB(X:Cx)(a:Expr)(b:Str):Prop:=attributeBase a b X.env (eval a X.env)=eval a X.env
theorem R9(he:PE X e ta)(hb:qB X e f):PE X (.Attribute e f pos) (agG X.K ta f):=by
 intro aa s σ H Q I h;refine O9 hb (thn (he aa s σ H _ I h) λu s1 h=>?_);obtain⟨x,H1,I1,rx,a,C,dx,fs,v,rfl,ea,c,n,l,q⟩:=h;obtain rfl:u=Value.ref a:=rx;exact Lz I1 ea c n l λu' s2 I2 ru=>⟨v,H1,I2,ru,q⟩
theorem abQ(ha:PE X o ta)(hv:PE X am tv)(hs:swapsWith am (some (.Attribute o f ar)) pos.line X.env=pure false):PS X (.Assign [.Attribute o f ar] am pos) (ag2 X.K ta tv f):=by
 intro aa s σ H D I h;refine plainObj_wpAny_Assign_Attribute (thn (hv aa s σ H _ I h) λu s1 ⟨y,H1,I1,ry,q⟩=>thn (ha aa s1 σ H1 _ I1 q) λov s2 h=>?_) hs;obtain⟨x,H2,I2,rx,a,C,dx,fs,rfl,ea,c,n,l,q2⟩:=h;obtain rfl:ov=Value.ref a:=rx;exact MF I2 ea c n l ry λs3 I3=>⟨σ,_,I3,q2⟩
end
section
variable{X:Cx}{aa:Γ}{σ:St}{H:Hp}{s:Shared}{A:Around}{E:Ξ}{Q:Ξ}{c:Value}{b:Bool}
inductive xG(K:Frag)(H:Hp):V->Value->Prop where
 |non:xG K H .non (.type "NoneType")
 |bl (x:Bool):xG K H (.bl x) (.type "bool")
 |int (i:Int):xG K H (.int i) (.type "int")
 |str (x:Str):xG K H (.str x) (.type "str")
 |flt (x:UInt64):xG K H (.flt x) (.type "float")
 |lst {a:Addr}{xs:Β} (e:H a=some (.lst xs)):xG K H (.ref a) (.type "list")
 |frz {a:Addr}{o:Obj}{xs:Β} (e:H a=some (.frz o (.lst xs))):xG K H (.ref a) (.type "list")
 |tup {a:Addr}{xs:Β} (e:H a=some (.tup xs)):xG K H (.ref a) (.type "tuple")
 |dK {a:Addr}{kvs:List (Key×V)} (e:H a=some (.dK kvs)):xG K H (.ref a) (.type "dict")
 |ins {a C dx:Addr}{fs:List (Str×V)} (e:H a=some (.ins C dx fs)) (cl:Cls K C) (ha:findIn K (.ref C) "__class__"=some (some (.builtin "object.__class__")))
   (hn:specialIn K (.builtin "object.__class__") "__get__"=some (some (.builtin "getset_descriptor.__get__"))) (htk:PySem.W.takesIn K (.builtin "object.__class__")=some true)
   (hm:mroIn K C (.type "object")=some true):xG K H (.ref a) (.ref C)
theorem QV{x:V}{u t:Value}(I:Inv X aa σ H s)(rx:RelV x u)(ty:xG X.K H x t)(e:kitOne X.K t c=some b)(h:∀tk,Q (.bool b) { s with toks:=tk }) :
  wpAny (model X.prog X.w) A (call (.builtin "isinstance") [u,c]) Q E s:=by
 cases ty with
 |non=>cases(show u=Value.none from rx);exact kia_one PySem.W.kitx_none I.kIn True.intro e (λz=>nomatch z) h
 |bl y=>cases(show u=Value.bool y from rx);exact kia_one PySem.W.kitx_bool I.kIn True.intro e (λz=>nomatch z) h
 |int i=>obtain⟨t,q⟩:=(show ∃t,u=Value.int i t from rx);cases q;exact kia_one PySem.W.kitx_int I.kIn True.intro e (λz=>nomatch z) h
 |str y=>obtain⟨t,q⟩:=(show ∃t,u=Value.str y t from rx);cases q;exact kia_one PySem.W.kitx_str I.kIn True.intro e (λz=>nomatch z) h
 |flt y=>obtain⟨t,q⟩:=(show ∃t,u=Value.float y t from rx);cases q;exact kia_one PySem.W.kitx_float I.kIn True.intro e (λz=>nomatch z) h
 |@lst a xs ea =>
  cases(show u=Value.ref a from rx);obtain⟨_,_,n,_,h1⟩:=(show dW X.prog X.w H s.heap a (.lst xs)from I.hok a _ ea);exact kia_one kitx_list I.kIn ⟨_,h1,rfl⟩ e (λz=>nomatch z) h
 |@frz a ob xs ea =>
  cases(show u=Value.ref a from rx);obtain⟨_,_,_,n,_,h1⟩:=(show dW X.prog X.w H s.heap a (.frz ob (.lst xs))from I.hok a _ ea);exact kia_one kitx_list I.kIn ⟨_,h1,rfl⟩ e (λz=>nomatch z) h
 |@tup a xs ea =>
  cases(show u=Value.ref a from rx);obtain⟨_,_,_,p⟩:=(show dW X.prog X.w H s.heap a (.tup xs)from I.hok a _ ea);obtain⟨o,h1,h2,_⟩:=p;exact kia_one kitx_tuple I.kIn ⟨o,h1,h2⟩ e (λz=>nomatch z) h
 |@dK a kvs ea =>
  cases(show u=Value.ref a from rx);obtain⟨_,_,vs,_,p⟩:=(show dW X.prog X.w H s.heap a (.dK kvs)from I.hok a _ ea);obtain⟨o,es,ep,h1,h2,_⟩:=p;exact kia_one PySem.W.kitx_dict I.kIn ⟨o,h1,h2.1⟩ e (λz=>nomatch z) h
 |@ins a C dx fs ea cl ha hn htk hm =>
  cases(show u=Value.ref a from rx);obtain⟨mA,O,_⟩:=zQ I.hok ea;obtain⟨od,J,_⟩:=O.look;exact kia_one (PySem.W.kitx_own (cl.get _) cl.hd ha hn htk hm) I.kIn J e (λz=>nomatch z) h
end
structure dg(k:Nat)(A:Around):Prop where
 hd:A.handled=none
 dp:A.depth+3*k+5<recursionLimit
 un:A.units+16*k+200<cLine
theorem dg.mono{j k:Nat}{A:Around}(r:dg k A)(h:j<=k):dg j A:=⟨r.hd,by have:=r.dp;lia,by have:=r.un;lia⟩
theorem dg.md{k n:Nat}{A:Around}(h:dg n A)(e:k<=n:=by decide):dg k A:=h.mono e
theorem dg.deeper{k:Nat}{A:Around}(r:dg (k+1) A)(env:Env):dg k (A.deeper env) :=
 ⟨r.hd,by have:=r.dp;show A.depth+1+3*k+5<_;lia,by have:=r.un;show A.units+3+16*k+200<_;lia⟩
theorem M8{A:Around}{C:Addr}{us:Δ}{kw:List (Str×Value)} : (A.under (.builtin "type.__call__" ⟨.ref C::us,kw⟩)).depth=A.depth+1:=by
 first|rfl|simp[Around.under,Code.weight,Code.isCreation,Code.isGuard,Code.isCaller,Code.frames,Code.isFrame,guardIds]
theorem Ly{A:Around}{C:Addr}{us:Δ}{kw:List (Str×Value)} : (A.under (.builtin "type.__call__" ⟨.ref C::us,kw⟩)).units=A.units+1:=by
 first|rfl|simp[Around.under,Code.cUnits,Code.frames,Code.isFrame]
theorem dg.make{k:Nat}{A:Around}(r:dg (k+1) A)(C:Addr)(us:Δ)(kw:List (Str×Value)):dg k (A.under (.builtin "type.__call__" ⟨.ref C::us,kw⟩)) :=
 ⟨r.hd,by have:=r.dp;rw[M8];lia,by have:=r.un;rw[Ly];lia⟩
theorem dg.depth{k:Nat}{A:Around}(r:dg k A):A.depth<recursionLimit:=by have:=r.dp;lia
theorem dg.units{k:Nat}{A:Around}(r:dg k A):A.units+64<cLine:=by have:=r.un;lia
def Dk:TA:=λ_ H Q=>Q [] H
def vq(ta:TE)(tr:TA):TA:=λσ H Q=>ta σ H λx H1=>tr σ H1 λxs H2=>Q (x::xs) H2
section
variable{X:Cx}{e:Expr}{es:List Expr}{te:TE}{t:TA}{pos:Pos}
theorem jc:PA X [] Dk:=λ_ _ _ _ H Q I h=>Calls.spliced_nil ⟨[],H,I,.nil,h⟩
abbrev qo(X:Cx)(a:Expr)(b:List Expr):Prop:=starEach (a::b) X.env=(false,eval a X.env)::starEach b X.env
theorem cW(ha:PE X e te)(hr:PA X es t)(hs:qo X e es:=by rfl):PA X (e::es) (vq te t):=by
 intro pos aa s σ H Q I h;rw[hs];show wpAny _ _ (spliced ((false,eval e X.env)::backTo pos (starEach es X.env))) _ _ s;refine Calls.spliced_cons (thn (ha aa s σ H _ I h) λu s1 hP=>?_);obtain⟨x,H1,I1,r1,q1⟩:=hP;exact thn (hr pos aa s1 σ H1 _ I1 q1) λus s2 hP=>by obtain⟨xs,H2,I2,r2,q2⟩:=hP;exact⟨x::xs,H2,I2,.cons r1 r2,q2⟩
def ag3(t:TA):TE:=λσ H Q=>t σ H λxs H1=>xs.length<=sizeLine/\∀p,H1 p=none->Q (.ref p) (upd H1 p (.tup xs))
def ahi(t:TA):TE:=λσ H Q=>t σ H λxs H1=>xs.length<=sizeLine/\∀p,H1 p=none->Q (.ref p) (upd H1 p (.lst xs))
theorem Mz{x1}(h:PA X es t):PE X (.Tuple es x1 pos) (ag3 t):=by
 intro aa s σ H Q I hq;refine wpAny_Tuple_spliced (thn (h pos aa s σ H _ I hq) λus s1 ⟨xs,H1,I1,r,z,q⟩=>⟨by rw[<- r.length];exact z,?_⟩);have hf:H1 s1.heap.objs.size=none:=I1.hok.fresh (aF _);refine⟨.ref s1.heap.objs.size,upd H1 s1.heap.objs.size (.tup xs),I1.laid (t':=s1.toks) (λb u e=>aG _ e) (aF _) ?_,rfl,q _ hf⟩;exact⟨z,us,r,⟨_,aW _ rfl,rfl,_,rfl⟩⟩
theorem abN(h:PA X es t):PE X (.List es pos) (ahi t):=by
 intro aa s σ H Q I hq;refine wpAny_List_spliced (thn (h pos aa s σ H _ I hq) λus s1 ⟨xs,H1,I1,r,z,q⟩=>⟨by rw[<- r.length];exact z,?_⟩);have hf:H1 s1.heap.objs.size=none:=I1.hok.fresh (aF _);refine⟨.ref s1.heap.objs.size,upd H1 s1.heap.objs.size (.lst xs),I1.laid (t':=s1.toks) (λb u e=>aG _ e) (aF _) ?_,rfl,q _ hf⟩;exact⟨z,us,0,r,aW _ rfl⟩
end
abbrev Sp:=Β->Hp->VK->XK->Prop
abbrev CXT:=List Env->Hp->Shared->XK->Value->Shared->Prop
structure DW(P:Program)(w:World)(K:Frag)(mg:Str->Ψ)(base:Heap)(A:Around)(outer:List Env)(s:Shared)(H:Hp):Prop where
 frames:A.frames=some outer
 mod:Mod K mg base
 bs:∀b o,base.get? b=some o->s.heap.get? b=some o/\H b=none
 bsz:base.objs.size<=s.heap.objs.size
 funs:s.heap.FunFrames base outer
 frf:∀b∈frs outer,H b=none
 hok:HOk P w H s.heap
 bare:AllBare s.gens
def CE(outer:List Env)(P:Program)(w:World)(H:Hp)(s:Shared)(Q:VK)(u:Value)(s':Shared):Prop :=
 ∃v H',s'.os=s.os/\AllBare s'.gens/\Un (frs outer) [] H H' s.heap s'.heap/\HOk P w H' s'.heap/\RelV v u/\Q v H'
def CR(CX:CXT)(outer:List Env)(P:Program)(w:World)(H:Hp)(s:Shared)(Q:VK)(E:XK)(r:Result)(s':Shared):Prop :=
 match r with
 |.ok (.ret u)=>CE outer P w H s Q u s'
 |.ok _=>False
 |.error e=>CX outer H s E e s'
structure dO(P:Program)(w:World)(K:Frag)(mg:Str->Ψ)(base:Heap)(CX:CXT)(k:Nat)(f:Addr)(fd:FuncData)(ps:Θ)(sp:Sp):Prop where
 len:∀vs H Q E,sp vs H Q E->vs.length=ps.length
 run:∀(A:Around)(outer:List Env)(s:Shared)(H:Hp)(args:Args)(us:Δ)(vs:Β)(Q:VK)(E:XK),dg k A->DW P w K mg base A outer s H->BindsTo s fd args (ps.zip us)->Vals vs us->sp vs H Q E ->
  codeAny (model P w) A (.call (.ref f) args) (CR CX outer P w H s Q E) s
theorem dO.imp{P:Program}{w:World}{K:Frag}{mg:Str->Ψ}{base:Heap}{CX:CXT}{k:Nat}{f:Addr}{fd:FuncData}{ps:Θ}{sp sp':Sp}(F:dO P w K mg base CX k f fd ps sp)
 (h:∀vs H Q E,sp' vs H Q E->sp vs H Q E):dO P w K mg base CX k f fd ps sp' :=
 ⟨λvs H Q E q=>F.len vs H Q E (h _ _ _ _ q),λA outer s H args us vs Q E hr he hb hv hs=>F.run A outer s H args us vs Q E hr he hb hv (h _ _ _ _ hs)⟩
theorem DW.make{P:Program}{w:World}{K:Frag}{mg:Str->Ψ}{base:Heap}{A:Around}{outer:List Env}{s:Shared}{H:Hp}(e:DW P w K mg base A outer s H)(C:Addr)(us:Δ)(kw:List (Str×Value)) :
  DW P w K mg base (A.under (.builtin "type.__call__" ⟨.ref C::us,kw⟩)) outer s H:=⟨by first|exact e.frames|(simpa[Around.under,Code.envs,Code.isFrame,pushEnvs]using e.frames),e.mod,e.bs,e.bsz,e.funs,e.frf,e.hok,e.bare⟩
section
variable{X:Cx}{aa:Γ}{σ:St}{H:Hp}{s s':Shared}
theorem Inv.env0(I:Inv X aa σ H s):DW X.prog X.w X.K X.mg X.base X.A X.stack s H :=
 ⟨I.ok.frames,I.ok.mod,I.bs,aL I.ok.bsz I.sz,I.stack,I.stkFree,I.hok,I.bare⟩
theorem Inv.after{Q:VK}{u:Value}(I:Inv X aa σ H s)(h:CE X.stack X.prog X.w H s Q u s'):EP X aa σ Q u s':=by
 obtain⟨v,H',os,bare,un,hok,r,q⟩:=h;obtain⟨hh,g,d,t,os'⟩:=s';obtain rfl:os'=s.os:=os;exact⟨v,H',I.call (h':=hh) (g':=g) (d':=d) (t':=t) (ch:=[]) un hok bare (λb z=>absurd z (by simp)),r,q⟩
end
def aeQ(sp:Sp)(br:Β)(E:XK)(t:TA):TE:=λσ H Q=>t σ H λvs H1=>sp (vs++br) H1 Q E
def Zf(C:Addr)(m:Str)(sp:Sp)(br:Β)(E:XK)(ta:TE)(t:TA):TE:=λσ H Q=>ta σ H λx H1=>∃a dx fs,x=.ref a/\H1 a=some (.ins C dx fs)/\fs.lookup m=none /\
 t σ H1 λvs H2=>sp (x::(vs++br)) H2 Q E
def af5(C:Addr)(sp:Sp)(br:Β)(E:XK)(t:TA):TE:=λσ H Q=>t σ H λvs H1=>∀x dx,H1 x=none->H1 dx=none->dx≠x ->
 sp (.ref x::(vs++br)) (upd (upd H1 dx (.own x)) x (.ins C dx [])) (λv H2=>v=.non/\Q (.ref x) H2) E
def Binds(K:Frag)(fd:FuncData)(ps:Θ)(ds:Δ):Prop :=
 ∀(s:Shared)(us:Δ),K.In s.heap->(us++ds).length=ps.length->BindsTo s fd ⟨us,[]⟩ (ps.zip (us++ds))
theorem Binds.all{K:Frag}{fd:FuncData}{ps:Θ}(h:∀us:Δ,us.length=ps.length->bindArgs fd ⟨us,[]⟩=pure (ps.zip us)):Binds K fd ps []:=λs us _ hl=>by
 rw[List.append_nil]at hl ⊢;exact .of_eq (h us hl)
def Passes(CX:CXT)(X:Cx)(E:XK):Prop:=∀(aa:Γ)(σ:St)(H:Hp)(s:Shared)(e:Value)(s':Shared),Inv X aa σ H s->CX X.stack H s E e s'->X.xe e s'
section
variable{X:Cx}{CX:CXT}{k:Nat}{f C:Addr}{fd:FuncData}{ps:Θ}{sp:Sp}{br:Β}{ds:Δ}{E:XK}{x m:Str}{p pos ac:Pos}{e o:Expr}{es:List Expr}{ta:TE}{t:TA}
theorem Jl{aa:Γ}{σ:St}{H:Hp}{s:Shared}{Q:VK}{us:Δ}{vs:Β}(F:dO X.prog X.w X.K X.mg X.base CX k f fd ps sp)(hr:dg k X.A)(hb:Binds X.K fd ps ds)(hd:Vals br ds)(hx:Passes CX X E)
 (I:Inv X aa σ H s)(r:Vals vs us)(h:sp (vs++br) H Q E):wpAny (model X.prog X.w) X.A (call (.ref f) us) (EP X aa σ Q) X.xe s:=by
 have r2:Vals (vs++br) (us++ds):=r.append hd;have hl:(us++ds).length=ps.length:=by rw[<- r2.length];exact F.len _ _ _ _ h
 refine wpAny_call (codeAny_mono (F.run X.A X.stack s H ⟨us,[]⟩ (us++ds) (vs++br) Q E hr I.env0 (hb s us I.kIn hl) r2 h) λr s' hq=>?_);cases r with
 |error e=>exact hx aa σ H s e s' I hq
 |ok fl =>
  cases fl with
  |ret u=>exact I.after hq
  |next=>exact False.elim hq
  |brk=>exact False.elim hq
  |cont=>exact False.elim hq
abbrev qh(X:Cx)(a:Pos)(b:List Expr):Prop:=(backTo a (starEach b X.env)).any (·.1)=false
theorem Yg(F:dO X.prog X.w X.K X.mg X.base CX k f fd ps sp)(hr:dg k X.A)(hg:Gl X x)(hm:X.mg x=some (.ref f))(hk:keepIn X.K (.ref f)=true)(hb:Binds X.K fd ps ds)(hd:Vals br ds)(hx:Passes CX X E)
 (ha:PA X (e::es) t)(a8:qk x:=by decide)(he:qo X e es:=by rfl)(aw:qh X pos es:=by rfl) :
  PE X (.Call (.Name x p) (e::es) [] pos) (aeQ sp br E t):=by
 intro aa s σ H Q I h;refine wpAny_Call_Name_kw (nM I hg hm ?_ a8);refine callWith_K (h₀:=X.base) I.ok.mod.kin hk (thn (ha pos aa s σ H _ I h) λus s1 ⟨vs,H1,I1,r,q⟩=>⟨I1.kIn,?_⟩) he aw;exact Jl F hr hb hd hx I1 r q
theorem Xn{pl:Sem Bool}(he:PE X o ta)(c:Cls X.K C)(hm:Meth X.K C m f)(F:dO X.prog X.w X.K X.mg X.base CX k f fd ps sp)(hr:dg k X.A)(hb:Binds X.K fd ps ds)(hd:Vals br ds)(hx:Passes CX X E)(ha:PA X (e::es) t)
 (az:qo X e es:=by rfl)(aw:qh X pos es:=by rfl)
 (ht:eval (.Call (.Attribute o m ac) (e::es) [] pos) X.env=(do
   let ov <- eval o X.env
   standAt ac.atName
   let(f,first) <- holding [ov] (getMethod ov m pl)
   callWith pos f first (backTo pos (starEach (e::es) X.env)) (backToKw pos (keywordEach [] X.env))):=by rfl) :
  PE X (.Call (.Attribute o m ac) (e::es) [] pos) (Zf C m sp br E ta t):=by
 intro aa s σ H Q I h;refine methodCall_KW (pl:=pl) (thn (he aa s σ H _ I h) λu s1 hP=>?_) ht;obtain⟨x,H1,I1,rx,a,dx,fs,ex,ea,l,q⟩:=hP;subst ex;obtain rfl:u=Value.ref a:=rx;refine uY I1 ea c hm l ?_;refine callWith_K (first:=[.ref a]) (h₀:=X.base) I.ok.mod.kin hm.kp (thn (ha pos aa s1 σ H1 _ I1 q) λus s2 ⟨vs,H2,I2,r,q2⟩=>⟨I2.kIn,?_⟩) az aw;exact Jl (us:=.ref a::us) (vs:=.ref a::vs) F hr hb hd hx I2 (.cons rfl r) q2
theorem Uo{pl:Sem Bool}(he:PE X o ta)(c:Cls X.K C)(hm:Meth X.K C m f)(F:dO X.prog X.w X.K X.mg X.base CX k f fd ps sp)(hr:dg k X.A)(hb:Binds X.K fd ps ds)(hd:Vals br ds)(hx:Passes CX X E)
 (ht:eval (.Call (.Attribute o m ac) [] [] pos) X.env=(do
   let ov <- eval o X.env
   standAt ac.atName
   let(f,first) <- holding [ov] (getMethod ov m pl)
   callWith pos f first (backTo pos (starEach [] X.env)) (backToKw pos (keywordEach [] X.env))):=by rfl) :
  PE X (.Call (.Attribute o m ac) [] [] pos) (Zf C m sp br E ta Dk):=by
 intro aa s σ H Q I h;refine methodCall_KW (pl:=pl) (thn (he aa s σ H _ I h) λu s1 hP=>?_) ht;obtain⟨x,H1,I1,rx,a,dx,fs,ex,ea,l,q⟩:=hP;subst ex;obtain rfl:u=Value.ref a:=rx;refine uY I1 ea c hm l ?_;exact PySem.W.callWith_K0 (first:=[.ref a]) I1.kIn hm.kp (Jl (us:=[.ref a]) (vs:=[.ref a]) F hr hb hd hx I1 (.cons rfl .nil) q)
structure Mk(K:Frag)(C f:Addr):Prop where
 makes:makesIn K C=true
 init:findIn K (.ref C) "__init__"=some (some (.ref f))
 fn:isFn K (.ref f)=true
 kp:keepIn K (.ref C)=true
theorem R6{aa:Γ}{σ:St}{H:Hp}{s:Shared}{Q:VK}{us:Δ}{vs:Β}(M:Mk X.K C f)(F:dO X.prog X.w X.K X.mg X.base CX k f fd ps sp)(hr:dg (k+1) X.A)(hb:Binds X.K fd ps ds)(hd:Vals br ds)
 (hx:Passes CX X E)(I:Inv X aa σ H s)(r:Vals vs us)
 (h:∀x dx,H x=none->H dx=none->dx≠x->sp (.ref x::(vs++br)) (upd (upd H dx (.own x)) x (.ins C dx [])) (λv H2=>v=.non/\Q (.ref x) H2) E) :
  wpAny (model X.prog X.w) X.A (call (.ref C) us) (EP X aa σ Q) X.xe s:=by
 have hq:=h (s.heap.objs.size+1) s.heap.objs.size (I.hok.fresh (Xs _)) (I.hok.fresh (aF _)) (aQ (Nat.lt_succ_self _));have I2:=Inv.made (C:=C) I;have r2:Vals (V.ref (s.heap.objs.size+1)::(vs++br)) (Value.ref (s.heap.objs.size+1)::(us++ds)):=.cons rfl (r.append hd);have hl:(Value.ref (s.heap.objs.size+1)::us++ds).length=ps.length:=by
  have e:=r2.length;rw[F.len _ _ _ _ hq]at e;exact e.symm
 refine wpAny_call (Sw (f:=f) I.kIn M.makes M.init (beq_iff_eq.mp M.fn) (codeAny_mono (F.run _ X.stack _ _ ⟨Value.ref (s.heap.objs.size+1)::us,[]⟩ (Value.ref (s.heap.objs.size+1)::(us++ds)) _ _ E (hr.make C us [])
  (I2.env0.make C us []) (hb _ (Value.ref (s.heap.objs.size+1)::us) I2.kIn hl) r2 hq) λr s' dt=>?_))
 cases r with
 |error e=>exact hx aa σ _ _ e s' I2 dt
 |ok fl =>
  cases fl with
  |ret u =>
   obtain⟨v,H',I3,rv,ev,q3⟩:=I2.after dt;subst ev;exact⟨rv,⟨V.ref (s.heap.objs.size+1),H',I3,rfl,q3⟩⟩
  |next=>exact False.elim dt
  |brk=>exact False.elim dt
  |cont=>exact False.elim dt
theorem WQ(M:Mk X.K C f)(F:dO X.prog X.w X.K X.mg X.base CX k f fd ps sp)(hr:dg (k+1) X.A)(hg:Gl X x)(hm:X.mg x=some (.ref C))(hb:Binds X.K fd ps ds)(hd:Vals br ds)(hx:Passes CX X E)
 (ha:PA X (e::es) t)(a8:qk x:=by decide)(he:qo X e es:=by rfl)(aw:qh X pos es:=by rfl) :
  PE X (.Call (.Name x p) (e::es) [] pos) (af5 C sp br E t):=by
 intro aa s σ H Q I h;refine wpAny_Call_Name_kw (nM I hg hm ?_ a8);refine callWith_K (h₀:=X.base) I.ok.mod.kin M.kp (thn (ha pos aa s σ H _ I h) λus s1 ⟨vs,H1,I1,r,q⟩=>⟨I1.kIn,?_⟩) he aw;exact R6 M F hr hb hd hx I1 r q
end
structure bH(N P:Θ)(sc:Scope):Prop where
 kind:sc.kind=.function
 co:sc.isCoroutine=false
 gen:sc.isGenerator=false
 nd:N.Nodup
 pre:N.take P.length=P
 par:∀x∈P,sc.names.lookup x=some .local\/sc.names.lookup x=some .cell
 nofree:∀y∈sc.names,y.2≠.free
theorem Ew{kindOf:Str->Option NameKind}{x:Str} : ∀{binds:List (Str×Value)}{m:Str->Ψ},(∀v,(x,v)∉binds)->bindL kindOf binds m x=m x
 |[],_,_=>rfl
 |(n,v)::r,m,h=>by
  unfold bindL;rw[Ew λw hw=>h w (aH _ hw)];split
  .have:x≠n:=by rintro rfl;exact h v aO
   simp[this]
  .rfl
theorem FP{kindOf:Str->Option NameKind}{x:Str} : ∀{binds:List (Str×Value)}{m:Str->Ψ},(∀v,(x,v)∉binds)->bindC kindOf binds m x=m x
 |[],_,_=>rfl
 |(n,v)::r,m,h=>by
  unfold bindC;rw[FP λw hw=>h w (aH _ hw)];split
  .rfl
  .have:x≠n:=by rintro rfl;exact h v aO
   simp[this]
theorem Ey{kindOf:Str->Option NameKind}{x:Str}{v:Value} : ∀{P:Θ}{vs:Δ}{i:Nat}{m:Str->Ψ},P.Nodup->P[i]?=some x->vs[i]?=some v->kindOf x=some .local ->
  bindL kindOf (P.zip vs) m x=some v
 |[],_,_,_,_,h,_,_=>by simp at h
 |_::_,[],_,_,_,_,h,_=>by simp at h
 |p::P,w::vs,0,m,nd,h1,h2,hk=>by
  simp at h1 h2;subst h1;subst h2;show bindL kindOf ((p,w)::P.zip vs) m p=_;unfold bindL;rw[Ew λv hv=>(List.nodup_cons.mp nd).1 (VT hv).1,ZY hk];simp
 |p::P,w::vs,i+1,m,nd,h1,h2,hk=>by
  show bindL kindOf ((p,w)::P.zip vs) m x=_;unfold bindL;exact Ey (i:=i) (List.nodup_cons.mp nd).2 (by simpa using h1) (by simpa using h2) hk
theorem FJ{kindOf:Str->Option NameKind}{x:Str}{v:Value} : ∀{P:Θ}{vs:Δ}{i:Nat}{m:Str->Ψ},P.Nodup->P[i]?=some x->vs[i]?=some v->kindOf x≠some .local ->
  bindC kindOf (P.zip vs) m x=some v
 |[],_,_,_,_,h,_,_=>by simp at h
 |_::_,[],_,_,_,_,h,_=>by simp at h
 |p::P,w::vs,0,m,nd,h1,h2,hk=>by
  simp at h1 h2;subst h1;subst h2;show bindC kindOf ((p,w)::P.zip vs) m p=_;unfold bindC;rw[FP λv hv=>(List.nodup_cons.mp nd).1 (VT hv).1,ZZ hk];simp
 |p::P,w::vs,i+1,m,nd,h1,h2,hk=>by
  show bindC kindOf ((p,w)::P.zip vs) m x=_;unfold bindC;exact FJ (i:=i) (List.nodup_cons.mp nd).2 (by simpa using h1) (by simpa using h2) hk
def start(N:Θ)(vs:Β):St:=vs.map some++List.replicate (N.length-vs.length) none
def yq(CX:CXT)(P:Program)(w:World)(K:Frag)(mg:Str->Ψ)(base:Heap)(N:Θ)(af:Str)(scope:Scope)(f:Addr)(cd:Value)(A:Around)(outer:List Env)(s:Shared)(H:Hp)(E:XK):Cx where
 prog:=P
 w:=w
 K:=K
 mg:=mg
 base:=base
 A:=A.deeper (envOfC af scope s.heap.objs.size f cd)
 N:=N
 s₀:=s
 H₀:=H
 env:=envOfC af scope s.heap.objs.size f cd
 outer:=outer
 stack:=envOfC af scope s.heap.objs.size f cd::outer
 ex:=[]
 calm:=true
 fn:=λ_=>true
 pn:=[]
 xe:=λe s'=>wpAny (model P w) (A.deeper (envOfC af scope s.heap.objs.size f cd)) (leaving (envOfC af scope s.heap.objs.size f cd) e) (λ_ kf=>CX outer H s E e kf) (λe' kf=>CX outer H s E e' kf) s'
theorem KZ{sc:Scope}{n:Nat}{x:Str}(h:sc.names.lookup x=some .cell):∃c,(cellsFrom n sc.names []).lookup x=some c:=by
 have q:=PySem.W.cellsFrom_some sc.names n [] (.inl h);exact Option.isSome_iff_exists.mp q
theorem Q7{CX:CXT}{P:Program}{w:World}{K:Frag}{mg:Str->Ψ}{base:Heap}{N ps:Θ}{af:Str}{scope:Scope}{f:Addr}{cd:Value}{A:Around}{outer:List Env}{s s1:Shared}{H:Hp}{E:XK}{us:Δ}{vs:Β}
 (S:bH N ps scope)(hd:A.handled=none)(e0:DW P w K mg base A outer s H)(hl:vs.length=ps.length)(r:Vals vs us)
 (x:InCallC s s.heap.objs.size (bindL (envOfC af scope s.heap.objs.size f cd).kindOf (ps.zip us) λ_=>none) (cellsFrom (s.heap.objs.size+1) scope.names []) (bindC (envOfC af scope s.heap.objs.size f cd).kindOf (ps.zip us) λ_=>none) s1) :
  Inv (yq CX P w K mg base N af scope f cd A outer s H E) [] (start N vs) H s1:=by
 have aw:ps.length<=N.length:=by have:=ZH List.length S.pre;rw[aY]at this;lia
 obtain⟨h1,tk,rfl,hk⟩:=x.done;have hG:∀b:Addr,b∉(yq CX P w K mg base N af scope f cd A outer s H E).ex:=λb z=>absurd (show b∈([] : Φ)from z) (by simp);refine⟨⟨e0.mod,S.kind,rfl,rfl,aF _,λy z c h1 h2=>?_,λy hy=>?_,λy c _ h=>?_,λ_=>hd,Around.frames_deeper e0.frames,.inr ⟨rfl,rfl⟩,λb z=>absurd z (hG b),e0.bs,e0.bsz,λb _ _=>hG b,λb z=>absurd z (hG b),e0.funs,e0.frf⟩,
  rfl,e0.bare,Un.kept hk,⟨_,x.toInCall.ns,λi y v h1 h2 h3=>?_⟩,λy c h=>⟨_,x.cell y c h⟩,e0.hok.fresh (aF _),λy c h=>?_,λp hp=>absurd (show p∈([] : Γ)from hp) (by simp),e0.hok.kept hk,?_⟩
 .exact name_of_addr x.apart (PySem.mem_of_lookup h1) (PySem.mem_of_lookup h2)
 .have hy:scope.names.lookup y=some .cell\/scope.names.lookup y=some .free:=hy;rcases hy with hy|hy
  .exact KZ hy
  .exact absurd rfl (S.nofree _ (PySem.mem_of_lookup hy))
 .exact Y2 (x.above y c (PySem.mem_of_lookup h))
 .have hi:i<vs.length:=by
   unfold start at h2;by_cases hi:i<vs.length
   .exact hi
   .rw[aC (by simpa using hi)]at h2;rw[XX]at h2;split at h2<;>cases h2
  have ha:vs[i]?=some v:=by
   unfold start at h2;rw[aD (by simpa using hi),aq]at h2;cases e:vs[i]? with
   |none=>rw[e]at h2;cases h2
   |some a=>rw[e]at h2;cases h2;rfl
  obtain⟨u,hu,rv⟩:=r.get ha;have hp:ps[i]?=some y:=by
   rw[<- S.pre,List.getElem?_take_of_lt (aR hi (X9 hl))];exact h1
  have ndP:ps.Nodup:=by rw[<- S.pre];exact S.nd.sublist (UZ _ _)
  refine⟨u,rv,?_⟩;rcases S.par y (aB hp)with k|k
  .exact .inl ⟨k,Ey ndP hp hu k⟩
  .obtain⟨c,e⟩:=KZ (n:=s.heap.objs.size+1) k;refine .inr ⟨.inl k,c,e,?_⟩;have q:=x.cell y c e;rw[FJ ndP hp hu (by show scope.names.lookup y≠_;rw[k];decide)]at q;exact q
 .exact e0.hok.fresh (Y2 (x.above y c (PySem.mem_of_lookup h)))
 .unfold start;show _=N.length;rw[aA,ak,aN];lia
theorem Zk{CX:CXT}{P:Program}{w:World}{K:Frag}{mg:Str->Ψ}{base:Heap}{k:Nat}{f:Addr}{name af:Str}{dm:Arguments}{be:List Stmt}{scope:Scope}{dV kV bi pm ah ct oc:Value}{an od:Ω}
 {ce:Array (Ψ)}{N ps:Θ}{sp:Sp}(lk:K.lookup f=some ⟨oc,od,.func (PySem.W.fnOf name af dm be scope dV kV bi pm an ah ct),ce⟩)(a6:codeIn K ah af=true)(S:bH N ps scope)
 (len:∀vs H Q E,sp vs H Q E->vs.length=ps.length)
 (a7:∀(A:Around)(outer:List Env)(s:Shared)(H:Hp)(vs:Β)(Q:VK)(E:XK),dg k (A.deeper (envOfC af scope s.heap.objs.size f ah))->sp vs H Q E ->
   ∃t,PSs (yq CX P w K mg base N af scope f ah A outer s H E) be t/\t { nx:=λ_ H'=>Q .non H',rt:=Q } (start N vs) H) :
  dO P w K mg base CX (k+1) f (PySem.W.fnOf name af dm be scope dV kV bi pm an ah ct) ps sp:=by
 refine⟨len,λA outer s H args us vs Q E hr e0 hb r c9=>?_⟩;have hl:=len _ _ _ _ c9;have KX:K.In s.heap:=e0.mod.kin.keeps λb o e=>(e0.bs b o e).1;have lim:s.heap.NoLimit:=e0.mod.nolimit.keeps λb o e=>(e0.bs b o e).1;have bu:∀y∈ps.zip us,scope.names.lookup y.1=some .local\/(scope.names.lookup y.1=some .cell/\((cellsFrom (s.heap.objs.size+1) scope.names []).lookup y.1).isSome=true):=λ⟨n,v⟩ hy=>by
  rcases S.par n (VT hy).1 with q|q
  .exact .inl q
  .exact .inr ⟨q,PySem.W.cellsFrom_some _ _ _ (.inl q)⟩
 refine codeAny_call_function hr.depth (KX _ _ lk) rfl S.co S.gen rfl (PySem.W.codeRec_of KX a6) (hb _ _ _ _ ?_);refine wpAny_newFunctionEnv_cells S.kind bu λenv he s1 x=>?_;subst he;refine⟨lim.keeps x.toInCall.keep,codeAny_func ?_⟩;obtain⟨t,ht,hq⟩:=a7 A outer s H vs Q E (hr.deeper _) c9;have I:Inv (yq CX P w K mg base N af scope f ah A outer s H E) [] (start N vs) H s1:=Q7 S hr.hd e0 hl r x;refine wpAny_mono (ht [] s1 (start N vs) H _ I hq) (λfl s' hs=>?_) λe s' hs=>hs;have aE:∀{σ':St}{H':Hp}{v:V}{u:Value},Inv (yq CX P w K mg base N af scope f ah A outer s H E) [] σ' H' s'->RelV v u->Q v H'->CE outer P w H s Q u s' :=
  λ{σ' H' v u}J rv q=>⟨v,H',J.os,J.bare,J.base,J.hok,rv,q⟩
 cases fl with
 |ret u =>
  obtain⟨v,σ',H',J,rv,q⟩:=hs;exact aE J rv q
 |next =>
  obtain⟨σ',H',J,q⟩:=hs;exact aE (v:=V.non) (u:=Value.none) J rfl q
 |brk =>
  obtain⟨_,_,_,q⟩:=hs;exact False.elim q
 |cont =>
  obtain⟨_,_,_,q⟩:=hs;exact False.elim q
section
variable{X:Cx}{x:Str}{p pos:Pos}{e:Expr}{es:List Expr}{t:TA}{id T:String}{r:Β->Hp->VK->Prop}
def tCB(r:Β->Hp->VK->Prop)(t:TA):TE:=λσ H Q=>t σ H λvs H1=>r vs H1 Q
theorem xu(hc:g_ X (.builtin id) r)(hg:Gl X x)(hm:X.mg x=none)(hv:bootBuiltins x=some (.builtin id))(ha:PA X (e::es) t)(hn:x≠"__name__":=by decide)(a8:qk x:=by decide)
 (he:qo X e es:=by rfl)(aw:qh X pos es:=by rfl):PE X (.Call (.Name x p) (e::es) [] pos) (tCB r t):=by
 intro aa s σ H Q I h;refine wpAny_Call_Name_kw (Bc I hg hm hv ?_ hn a8);exact PyProof.Rows.callWith_builtin1 (thn (ha pos aa s σ H _ I h) λus s1 hP=>by obtain⟨vs,H1,I1,r1,q1⟩:=hP;exact hc aa s1 σ H1 vs us Q I1 r1 q1) he aw
theorem Q9(hc:g_ X (.type T) r)(hg:Gl X x)(hm:X.mg x=none)(hv:bootBuiltins x=some (.type T))(ha:PA X (e::es) t)(hn:x≠"__name__":=by decide)(a8:qk x:=by decide)
 (he:qo X e es:=by rfl)(aw:qh X pos es:=by rfl):PE X (.Call (.Name x p) (e::es) [] pos) (tCB r t):=by
 intro aa s σ H Q I h;refine wpAny_Call_Name_kw (Bc I hg hm hv ?_ hn a8);exact PyProof.Rows.callWith_type1 (thn (ha pos aa s σ H _ I h) λus s1 hP=>by obtain⟨vs,H1,I1,r1,q1⟩:=hP;exact hc aa s1 σ H1 vs us Q I1 r1 q1) he aw
end
end L2
namespace HT
open PySem PyProof.Rows
section
variable{prog:Program}{w:World}{A:Around}{E:Ξ}{s:Shared}
def sIx(n d:Nat):Option Int->Nat
 |none=>d
 |some v=>if v<0 then(v+(n:Int)).toNat else min v.toNat n
theorem uf(n d k:Nat):sIx n d (some (k:Int))=min k n:=by
 show(if(k:Int)<0 then((k:Int)+(n:Int)).toNat else min (k:Int).toNat n)=min k n;rw[ZZ (Int.not_lt_of_ge (XU _)),Int.toNat_natCast]
theorem abB(n d:Nat)(hd:d<=n)(o:Option Int):sIx n d o<=n:=by
 cases o with
 |none=>exact hd
 |some v =>
  show(if v<0 then(v+(n:Int)).toNat else min v.toNat n)<=n;by_cases hv:v<0
  .rw[ZY hv];lia
  .rw[ZZ hv];exact Nat.min_le_right _ _
end
end HT
namespace L2
open PySem PySem.Spec PyProof.Rows
abbrev TO:=St->Hp->(Option Int->Hp->Prop)->Prop
def PO(X:Cx)(e:Option Expr)(t:TO):Prop :=
 ∀(aa:Γ)(s:Shared)(σ:St)(H:Hp)(Q:Option Int->Hp->Prop),Inv X aa σ H s->t σ H Q ->
  wpAny (model X.prog X.w) X.A (evalPart e X.env) (λu s'=>∃o H',Inv X aa σ H' s'/\IsPart u o/\Q o H') X.xe s
def Xp:TO:=λ_ H Q=>Q none H
def afc(t:TE):TO:=λσ H Q=>t σ H λx H1=>∃i,x=.int i/\Q (some i) H1
theorem intsAre_of{ns:List Int} : ∀{us:Δ},Vals (ns.map V.int) us->IntsAre us ns:=by
 induction ns with
 |nil=>intro us r;rw[List.map_nil]at r;cases r;exact .nil
 |cons n ns ih =>
  intro us r;rw[List.map_cons]at r;cases r with
  |cons r1 r2 =>
   obtain⟨t,e⟩:=r1;subst e;exact .cons n t (ih r2)
section
variable{X:Cx}{e:Expr}{te:TE}{lo hi:Option Expr}{tl th:TO}{pos p2:Pos}
theorem Xb:PO X none Xp:=by
 intro aa s σ H Q I h;rw[evalPart_none];exact ZT ⟨none,H,I,.none,h⟩
theorem Xq(h:PE X e te):PO X (some e) (afc te):=by
 intro aa s σ H Q I hw;rw[evalPart_some];refine thn (h aa s σ H _ I hw) λu s1 hP=>?_;obtain⟨x,H1,I1,r1,q1⟩:=hP;obtain⟨i,rfl,q⟩:=q1;obtain⟨t,rfl⟩:=r1;exact⟨some i,H1,I1,.int i t,q⟩
def SlR(X:Cx)(r:V->Option Int->Option Int->Hp->VK->Prop):Prop :=
 ∀(aa:Γ)(s:Shared)(σ:St)(H:Hp)(x:V)(v vl vu:Value)(lo hi:Option Int)(sl:Addr)(Q:VK),Inv X aa σ H s->RelV x v->s.heap.IsSliceOf sl vl vu .none->IsPart vl lo->IsPart vu hi->r x lo hi H Q ->
  ∃T id,typeLookup (.type T) "__getitem__"=pure (some (.builtin id))/\s.TypeIs v T/\wpAny (model X.prog X.w) X.A (getItem v (.ref sl)) (EP X aa σ Q) X.xe s
theorem SlR.or{r r':V->Option Int->Option Int->Hp->VK->Prop}(h:SlR X r)(h':SlR X r'):SlR X (λx lo hi H Q=>r x lo hi H Q\/r' x lo hi H Q):=by
 intro aa s σ H x v vl vu lo hi sl Q I rx hs pl pu q;rcases q with q|q
 .exact h aa s σ H x v vl vu lo hi sl Q I rx hs pl pu q
 .exact h' aa s σ H x v vl vu lo hi sl Q I rx hs pl pu q
def tSl(r:V->Option Int->Option Int->Hp->VK->Prop)(te:TE)(tl th:TO):TE:=λσ H Q=>te σ H λx H1=>tl σ H1 λl H2=>th σ H2 λu H3=>r x l u H3 Q
theorem UJ{r:V->Option Int->Option Int->Hp->VK->Prop}(hr:SlR X r)(he:PE X e te)(hl:PO X lo tl)(hu:PO X hi th):PE X (.Subscript e (.Slice lo hi none p2) pos) (tSl r te tl th):=by
 intro aa s σ H Q I h;refine Subscript_ (thn (he aa s σ H _ I h) λv s1 hP=>?_);obtain⟨x,H1,I1,r1,q1⟩:=hP;refine wpAny_Slice (thn (hl aa s1 σ H1 _ I1 q1) λvl s2 ⟨l,H2,I2,pl,q2⟩=>thn (hu aa s2 σ H2 _ I2 q2) λvu s3 hP=>?_);obtain⟨u,H3,I3,pu,q3⟩:=hP;rw[evalPart_none];refine ZT ?_;have I4:Inv X aa σ H3 { s3 with heap:=s3.heap.push { cls:=.type "slice",data:=.fields #[vl,vu,.none] } }:=I3.kept (t':=s3.toks) λb ob q=>aG _ q;obtain⟨T,id,hT,ht,hg⟩:=hr aa { s3 with heap:=s3.heap.push { cls:=.type "slice",data:=.fields #[vl,vu,.none] } } σ H3 x v vl vu l u s3.heap.objs.size Q I4 r1 (Heap.IsSliceOf.new ..) pl pu q3;show wpAny (model X.prog X.w) X.A (subscriptTail e (.Slice lo hi none p2) v (.ref s3.heap.objs.size)) (EP X aa σ Q) X.xe { s3 with heap:=s3.heap.push { cls:=.type "slice",data:=.fields #[vl,vu,.none] } };exact tail_any (ops:=[.ref s3.heap.objs.size,v]) ht hT hg (by with_unfolding_all rfl)
def Q0(xs:Β)(lo hi:Option Int):Β:=(xs.drop (HT.sIx xs.length 0 lo)).take (HT.sIx xs.length xs.length hi-HT.sIx xs.length 0 lo)
theorem Le(xs:Β)(lo hi:Option Int):(Q0 xs lo hi).length<=xs.length:=by
 unfold Q0;rw[aY,UY];lia
end
def ixN(n:Nat)(i:Int):Option Nat:=if 0<=i then(if i<n then some i.toNat else none)else if -(n:Int)<=i then some (i+n).toNat else none
def atI{α:Type}(xs:List α)(i:Int):Option α:=(ixN xs.length i).bind λj=>xs[j]?
theorem Ph{n:Nat}{i:Int}{j:Nat}(h:ixN n i=some j):seqIndex? i n=some j/\j<n/\-(n:Int)<=i/\i<n:=by
 unfold ixN at h;by_cases h0:0<=i
 .rw[ZY h0]at h;by_cases h1:i<n
  .rw[ZY h1]at h;have e:i.toNat=j:=Option.some.inj h;exact⟨by rw[seqIndex_of h0 h1,e],by lia,by lia,h1⟩
  .rw[ZZ h1]at h;cases h
 .rw[ZZ h0]at h;by_cases h1 : -(n:Int)<=i
  .rw[ZY h1]at h;have e:(i+n).toNat=j:=Option.some.inj h;exact⟨by rw[seqIndex_neg (VV h0) h1,e],by lia,h1,by lia⟩
  .rw[ZZ h1]at h;cases h
theorem G8{α:Type}{xs:List α}{i:Int}{v:α}(h:atI xs i=some v):∃j,seqIndex? i xs.length=some j/\xs[j]?=some v/\j<xs.length/\-(xs.length:Int)<=i/\i<xs.length:=by
 unfold atI at h;cases e:ixN xs.length i with
 |none=>rw[e]at h;cases h
 |some j =>
  rw[e]at h;obtain⟨h1,h2,h3,h4⟩:=Ph e;exact⟨j,h1,h,h2,h3,h4⟩
def GK(b:Expr):Prop:=∀o i,subscripted b false o i=operate [o,i] (getItem o i)
def IxR(X:Cx)(r:R2):Prop :=
 ∀(am aS:Expr)(aa:Γ)(s:Shared)(σ:St)(H:Hp)(x y:V)(v u:Value)(Q:VK),Inv X aa σ H s->RelV x v->RelV y u->r x y H Q ->
  subscripted aS false v u=operate [v,u] (getItem v u)->wpAny (model X.prog X.w) X.A (subscriptTail am aS v u) (EP X aa σ Q) X.xe s
def MtR(X:Cx)(id:String)(r:V->Β->Hp->VK->Prop):Prop :=
 ∀(aa:Γ)(s:Shared)(σ:St)(H:Hp)(x:V)(xs:Β)(v:Value)(us:Δ)(Q:VK),Inv X aa σ H s->RelV x v->Vals xs us->r x xs H Q ->
  wpAny (model X.prog X.w) X.A (call (.builtin id) (v::us)) (EP X aa σ Q) X.xe s
section
variable{X:Cx}{a b:Expr}{ta tb:TE}{pos:Pos}
theorem IxR.or{r r':R2}(h:IxR X r)(h':IxR X r'):IxR X (λx y H Q=>r x y H Q\/r' x y H Q):=by
 intro am aS aa s σ H x y v u Q I rx ry q hs;rcases q with q|q
 .exact h am aS aa s σ H x y v u Q I rx ry q hs
 .exact h' am aS aa s σ H x y v u Q I rx ry q hs
theorem Zg{r:R2}(hr:IxR X r)(ha:PE X a ta)(hb:PE X b tb)(hs:GK b):PE X (.Subscript a b pos) (tOp r ta tb):=by
 intro aa s σ H Q I h;exact Subscript_ (abL ha hb I h λv u s2 x y H2 I2 rx ry q=>hr a b aa s2 σ H2 x y v u Q I2 rx ry q (hs _ _))
def agq(K:Frag):R2:=λx y H Q=>∃p xs i v,x=.ref p/\y=.int i/\SqL K H p xs/\atI xs i=some v/\Q v H
def aev(K:Frag):R2:=λx y H Q=>∃p xs i v,x=.ref p/\y=.int i/\SqT K H p xs/\atI xs i=some v/\Q v H
def aho:R2:=λx y H Q=>∃z i c,x=.str z/\y=.int i/\z.length<=sizeLine/\atI z.cps.toList i=some c/\Q (.str ⟨#[c]⟩) H
theorem WD:IxR X (agq X.K):=by
 intro am aS aa s σ H x y v u Q I rx ry h hs;obtain⟨p,xs,i,z,rfl,rfl,hq,he,q⟩:=h;cases rx;obtain⟨t,rfl⟩:=ry;obtain⟨its,r,pl,hz⟩:=I.list hq;obtain⟨j,h1,h2,h3,h4,h5⟩:=G8 he;obtain⟨w,ew,di⟩:=r.get h2;have hl:=r.length;have hn:=sJ;have aE:EP X aa σ Q w s:=⟨z,H,I,di,q⟩;by_cases h0:0<=i
 .have hj:i.toNat=j:=by
   rw[seqIndex_of h0 h5]at h1;exact Option.some.inj h1
  exact item_listR pl.isList h0 (by lia) (by rw[hj];simpa using ew) aE hs
 .have hj:(i+(its.toArray.size:Int)).toNat=j:=by
   rw[seqIndex_neg (VV h0) h4]at h1;rw[aX,<- hl];exact Option.some.inj h1
  exact subscriptTail_builtinR (x:=w) pl.isList.typeIs slot_list_getitem.lookup
   (wpAny_getItem_list_neg (Q:=λr s'=>r=w/\EP X aa σ Q r s') pl.isList (VV h0) (by rw[aX]<;>lia) (by lia) (by rw[hj];simpa using ew) ⟨rfl,aE⟩) hs
theorem Vt:IxR X (aev X.K):=by
 intro am aS aa s σ H x y v u Q I rx ry h hs;obtain⟨p,xs,i,z,rfl,rfl,hq,he,q⟩:=h;cases rx;obtain⟨t,rfl⟩:=ry;obtain⟨its,r,pl,hz⟩:=I.tuple hq;obtain⟨j,h1,h2,h3,h4,h5⟩:=G8 he;obtain⟨w,ew,di⟩:=r.get h2;have hl:=r.length;have hn:=sJ;have aE:EP X aa σ Q w s:=⟨z,H,I,di,q⟩;exact subscriptTail_builtinR (x:=w) pl.typeIs slot_tuple_getitem.lookup
  (getItem_tuple (j:=j) (Q:=λr s'=>r=w/\EP X aa σ Q r s') pl (by lia) (by lia) (by rw[aX,<- hl];exact h1) (by simpa using ew) ⟨rfl,aE⟩) hs
theorem aa7:IxR X aho:=by
 intro am aS aa s σ H x y v u Q I rx ry h hs;obtain⟨z,i,c,rfl,rfl,hz,he,q⟩:=h;obtain⟨t,rfl⟩:=rx;obtain⟨t',rfl⟩:=ry;obtain⟨j,h1,h2,h3,h4,h5⟩:=G8 he;have hl:z.cps.toList.length=z.length:=by simp[Str.length]
 rw[hl]at h1 h4 h5;have hn:=sJ;exact tail_any (typeIs_str s z t) slot_str_getitem.lookup (getItem_str (c:=c) (by
  have e1:decide (i < -(2^63:Int))=false:=Zp (by lia);have e2:decide (i>=2^63)=false:=Zp (by lia);rw[e1,e2,Bool.or_false]) (by rw[h1];simpa using h2) ⟨.str ⟨#[c]⟩,H,I.tok _,⟨_,rfl⟩,q⟩) hs
theorem Mp(its:Δ)(n j:Nat)(u:Value):Obj.mapSeq (·.setIfInBounds j u) { cls:=.type "list",data:=.seq its.toArray n }={ cls:=.type "list",data:=.seq (its.set j u).toArray n }:=by
 simp[Obj.mapSeq]
theorem Inv.lst{aa:Γ}{σ:St}{H:Hp}{s:Shared}{p:Addr}{xs:Β}(I:Inv X aa σ H s)(h:H p=some (.lst xs)) :
  ∃(its:Δ)(n:Nat),Vals xs its/\s.heap.get? p=some { cls:=.type "list",data:=.seq its.toArray n }/\xs.length<=sizeLine:=by
 obtain⟨z,its,n,r,e⟩:=I.hok p _ h;exact⟨its,n,r,e,z⟩
theorem Inv.lstUpd{aa:Γ}{σ:St}{H:Hp}{s:Shared}{p:Addr}{xs ys:Β}{its its':Δ}{n n':Nat}{f:Obj->Obj}(I:Inv X aa σ H s)(h:H p=some (.lst xs))
 (ho:s.heap.get? p=some { cls:=.type "list",data:=.seq its.toArray n })(hf:f { cls:=.type "list",data:=.seq its.toArray n }={ cls:=.type "list",data:=.seq its'.toArray n' })(r:Vals ys its')(hz:ys.length<=sizeLine)(t:Nat) :
  Inv X aa σ (upd H p (.lst ys)) { s with heap:=s.heap.update p f,toks:=t }:=by
 have e:(s.heap.update p f).get? p=some { cls:=.type "list",data:=.seq its'.toArray n' }:=by
  rw[Heap.get?_update_self f ho (by rw[hf]<;>rfl),hf]
 refine I.write (x:=p) (e:=p) (by rw[h];trivial) (.inl rfl) (λb u hb q=>(Heap.get?_update_other _ _ (Ne.symm hb)).trans q) ⟨_,e⟩ ?_;exact⟨hz,its',n',r,e⟩
def afZ:V->V->V->Hp->(Hp->Prop)->Prop:=λo i v H Q=>∃p xs k j,o=.ref p/\i=.int k/\H p=some (.lst xs)/\ixN xs.length k=some j/\Q (upd H p (.lst (xs.set j v)))
theorem set_list:acv X afZ:=by
 intro aa s σ H o i v ov iv u Q I ro ri rv h;obtain⟨p,xs,k,j,rfl,rfl,hp,hj,q⟩:=h;cases ro;obtain⟨t,rfl⟩:=ri;obtain⟨its,n,r,ho,hz⟩:=I.lst hp;obtain⟨h1,h2,h3,h4⟩:=Ph hj;have hl:=r.length;have hn:=sJ;have I':Inv X aa σ (upd H p (.lst (xs.set j v))) { s with heap:=s.heap.update p (Obj.mapSeq (·.setIfInBounds j u)) } :=
  I.lstUpd hp ho (Mp its n j u) (r.set rv j) (by rw[X2];exact hz) s.toks
 by_cases h0:0<=k
 .have hk:k.toNat=j:=by
   rw[seqIndex_of h0 h4]at h1;exact Option.some.inj h1
  exact PySem.W.ki_setAt ho h0 (by lia) (by rw[aX,<- hl];exact h4) (by rw[hk];exact⟨_,I',q⟩)
 .have hk:(k+(its.toArray.size:Int)).toNat=j:=by
   rw[seqIndex_neg (VV h0) h3]at h1;rw[aX,<- hl];exact Option.some.inj h1
  exact PySem.W.ki_setBack ho (VV h0) (by rw[aX,<- hl];exact h3) (by lia) (by rw[hk];exact⟨_,I',q⟩)
theorem G9(lo hi:Option Int)(n:Nat):(sliceBounds lo hi none n).1=((HT.sIx n 0 lo:Nat):Int)/\(sliceBounds lo hi none n).2.1=((HT.sIx n n hi:Nat):Int)/\(sliceBounds lo hi none n).2.2=1:=by
 refine⟨?_,?_,rfl⟩
 .cases lo with
  |none=>simp[sliceBounds,HT.sIx]
  |some i =>
   simp only[sliceBounds,HT.sIx,Option.getD_none,show(1:Int)>0 by decide,if_true];by_cases h:i<0
   .simp only[h,if_true]<;>lia
   .simp only[h,if_false]<;>lia
 .cases hi with
  |none=>simp[sliceBounds,HT.sIx]
  |some i =>
   simp only[sliceBounds,HT.sIx,Option.getD_none,show(1:Int)>0 by decide,if_true];by_cases h:i<0
   .simp only[h,if_true]<;>lia
   .simp only[h,if_false]<;>lia
theorem Em(its:Δ)(lo hi:Option Int):slicePick its.toArray lo hi none=((its.drop (HT.sIx its.length 0 lo)).take (HT.sIx its.length its.length hi-HT.sIx its.length 0 lo)).toArray:=by
 obtain⟨h1,h2,h3⟩:=G9 lo hi its.toArray.size;unfold slicePick;rw[h1,h2,h3];simp only[sliceRange_one,pick_run,aX]<;>rfl
def agu(K:Frag):V->Option Int->Option Int->Hp->VK->Prop:=λx lo hi H Q=>∃a xs,x=.ref a/\SqL K H a xs/\∀p,H p=none->Q (.ref p) (upd H p (.lst (Q0 xs lo hi)))
theorem Yh:SlR X (agu X.K):=by
 intro aa s σ H x v vl vu lo hi sl Q I rx hs pl pu h;obtain⟨a,xs,rfl,hx,q⟩:=h;cases rx;obtain⟨its,r,ht,hz⟩:=I.list hx;have ax:=r.length;refine⟨"list",_,slot_list_getitem.lookup,ht.isList.typeIs,?_⟩;refine wpAny_getItem_list_slice ht.isList hs pl pu .none (by simp) ?_ (by rw[aX]<;>lia);rw[Em,<- ax];refine⟨.ref s.heap.objs.size,_,I.laid (t':=s.toks) (o:=.lst (Q0 xs lo hi)) (λb ob q=>aG _ q) (aF _) ?_,rfl,q _ (I.hok.fresh (aF _))⟩;exact⟨aL (Le xs lo hi) hz,_,0,(r.drop (HT.sIx xs.length 0 lo)).take (HT.sIx xs.length xs.length hi-HT.sIx xs.length 0 lo),aW _ rfl⟩
def eqV:V->V->Bool
 |.non,.non=>true
 |.bl a,.bl b=>a==b
 |.bl a,.int b=>(if a then 1 else 0)==b
 |.int a,.bl b=>a==(if b then 1 else 0)
 |.int a,.int b=>a==b
 |.str a,.str b=>a==b
 |_,_=>false
theorem Gw:g_ X (.builtin "len") (λxs H Q=>∃p ys,xs=[.ref p]/\(SqL X.K H p ys\/SqT X.K H p ys)/\Q (.int ys.length) H):=by
 intro aa s σ H xs us Q I r h;obtain⟨p,ys,rfl,hq,q⟩:=h;obtain⟨u,rfl,rx⟩:=vals1 r;cases rx;have hn:=sJ;rcases hq with hq|hq
 .obtain⟨its,r',pl,hz⟩:=I.list hq;have ax:=r'.length;exact Calls.call_len_list pl.isList (by simp only[aX]<;>lia) ⟨.int ys.length,H,I.tok _,⟨s.toks+1,by rw[aX,ax]⟩,q⟩
 .obtain⟨its,r',pl,hz⟩:=I.tuple hq;have ax:=r'.length;exact len_tuple pl (by simp only[aX]<;>lia) ⟨.int ys.length,H,I.tok _,⟨s.toks+1,by rw[aX,ax]⟩,q⟩
theorem G_:g_ X (.builtin "len") (λxs H Q=>∃z,xs=[.str z]/\z.length<=sizeLine/\Q (.int z.length) H):=by
 intro aa s σ H xs us Q I r h;obtain⟨z,rfl,hz,q⟩:=h;obtain⟨u,rfl,t,rfl⟩:=vals1 r;have hn:=sJ;exact len_str (by lia) ⟨.int z.length,H,I.tok _,⟨_,rfl⟩,q⟩
theorem vZ:g_ X (.type "list") (λxs H Q=>∃p ys,xs=[.ref p]/\(SqL X.K H p ys\/SqT X.K H p ys)/\∀l,H l=none->Q (.ref l) (upd H l (.lst ys))):=by
 intro aa s σ H xs us Q I r h;obtain⟨p,ys,rfl,hq,q⟩:=h;obtain⟨u,rfl,rx⟩:=vals1 r;cases rx;have aE:∀(its:Δ),Vals ys its->ys.length<=sizeLine->∀(h':Heap)(c':Nat),(∀b o',s.heap.get? b=some o'->h'.get? b=some o') ->
   h'.get? s.heap.objs.size=some { cls:=.type "list",dict:=none,data:=.seq its.toArray c',slots:=#[] }->EP X aa σ Q (.ref s.heap.objs.size) { s with heap:=h' }:=λits r' hz h' c' kp e =>
  ⟨.ref s.heap.objs.size,_,I.laid (t':=s.toks) kp (aF _) (show dW X.prog X.w _ h' _ (.lst ys)from⟨hz,its,c',r',e⟩),rfl,q _ (I.hok.fresh (aF _))⟩
 rcases hq with hq|hq
 .obtain⟨its,r',pl,hz⟩:=I.list hq;have ax:=r'.length;obtain⟨o,ho,hc,n,hd⟩:=pl.isList;exact call_list_seq p (.inl rfl) ho hc hd (λh' c' kp e=>aE its r' hz h' c' kp e) (by simp only[aX]<;>lia)
 .obtain⟨its,r',pl,hz⟩:=I.tuple hq;have ax:=r'.length;obtain⟨o,ho,hc,n,hd⟩:=pl;exact call_list_seq p (.inr rfl) ho hc hd (λh' c' kp e=>aE its r' hz h' c' kp e) (by simp only[aX]<;>lia)
def tyV(K:Frag)(T:String)(x:V)(H:Hp):Prop:=match x with
 |.str _=>T="str"
 |.int _=>T="int"
 |.ref p=>(T="list"/\∃xs,SqL K H p xs)\/(T="tuple"/\∃o,K.lookup p=some o/\o.cls=.type "tuple"/\o.dict=none) \/
   (T="dict"/\(∃kvs,H p=some (.dK kvs)))\/(T="set"/\∃S n,H p=some (.set S n))
 |_=>False
theorem Tq{aa:Γ}{σ:St}{H:Hp}{s:Shared}{T:String}{x:V}{v:Value}(I:Inv X aa σ H s)(r:RelV x v)(ty:tyV X.K T x H) :
  s.TypeIs v T/\∀a,v=.ref a->∃ob,s.heap.get? a=some ob/\ob.dict=none:=by
 cases x with
 |str z =>
  obtain⟨t,rfl⟩:=r;cases(show T="str" from ty);exact⟨typeIs_str s z t,λ_ e=>nomatch e⟩
 |int i =>
  obtain⟨t,rfl⟩:=r;cases(show T="int" from ty);exact⟨typeIs_int s i t,λ_ e=>nomatch e⟩
 |ref p =>
  cases r;rcases ty with⟨rfl,xs,hq⟩|⟨rfl,o,hk,hc,hd⟩|⟨rfl,hk⟩|⟨rfl,S,n,hk⟩
  .obtain⟨its,_,pl,_⟩:=I.list hq;refine⟨pl.isList.typeIs,λa e=>?_⟩;cases e;obtain⟨o,n,e,c,hd,_⟩:=pl;exact⟨o,e,hd⟩
  .refine⟨⟨o,I.kIn p o hk,hc⟩,λa e=>?_⟩;cases e;exact⟨o,I.kIn _ o hk,hd⟩
  .have z:∃o,s.heap.get? p=some o/\o.ExactDict:=by
    obtain⟨kvs,hk⟩:=hk;obtain⟨_,_,_,_,o,_,_,e,ex,_⟩:=I.hok p _ hk;exact⟨o,e,ex⟩
   obtain⟨o,e,ex⟩:=z;refine⟨⟨o,e,ex.1⟩,λa e2=>?_⟩;cases e2;exact⟨o,e,ex.2.1⟩
  .obtain⟨o,_,_,_,e,ex,_⟩:=I.hok p _ hk;refine⟨⟨o,e,ex.1⟩,λa e2=>?_⟩;cases e2;exact⟨o,e,ex.2.1⟩
 |_=>exact False.elim ty
def agV(K:Frag)(T:String)(r:V->Β->Hp->VK->Prop)(to:TE):TE:=λσ H Q=>to σ H λx H1=>tyV K T x H1/\r x [] H1 Q
def tBM(K:Frag)(T:String)(r:V->Β->Hp->VK->Prop)(to:TE)(t:TA):TE:=λσ H Q=>to σ H λx H1=>tyV K T x H1/\t σ H1 λxs H2=>r x xs H2 Q
variable{o e:Expr}{es:List Expr}{to:TE}{t:TA}{name:Str}{ac ae:Pos}{T id:String}{r:V->Β->Hp->VK->Prop}
abbrev zw(a b:Pos):Prop:=(a.endLine==b.line)=true
theorem ZP(pa:PlainAttrs T)(slot:Slot T name id)(fS:typeOf (.builtin id)=pure (.type "method_descriptor"))(hm:MtR X id r)(ho:PE X o to)
 (dT:qB X o name:=by rfl)(dL:zw ac ae:=by rfl):PE X (.Call (.Attribute o name ac) [] [] ae) (agV X.K T r to):=by
 intro aa s σ H Q I h;refine wpAny_Call_method0_late dT dL (thn (ho aa s σ H _ I h) λv s1 hP=>?_);obtain⟨x,H1,I1,r1,ty,q1⟩:=hP;obtain⟨h1,h2⟩:=Tq I1 r1 ty;exact⟨T,id,pa,slot,fS,h1,h2,Calls.callWith_builtin rfl (PySem.evalArgs_none (hm aa s1 σ H1 x [] v [] Q I1 r1 .nil q1))⟩
theorem UL(pa:PlainAttrs T)(slot:Slot T name id)(fS:typeOf (.builtin id)=pure (.type "method_descriptor"))(hm:MtR X id r)(ho:PE X o to)(ha:PA X (e::es) t)
 (dT:qB X o name:=by rfl)
 (kU:((backTo ae (starEach (e::es) X.env)).all (λx=>!x.1)&&(backToKw ae (keywordEach [] X.env)).all (λx=>x.1.isSome)
   && decide ((e::es).length+([] : List Keyword).length+(if([] : List Keyword).isEmpty then 0 else 1)<30))=true:=by rfl)
 (dL:zw ac ae:=by rfl)(hs:qo X e es:=by rfl)(gf:qh X ae es:=by rfl) :
  PE X (.Call (.Attribute o name ac) (e::es) [] ae) (tBM X.K T r to t):=by
 intro aa s σ H Q I h;refine wpAny_Call_method_late dT kU dL rfl (thn (ho aa s σ H _ I h) λv s1 hP=>?_);obtain⟨x,H1,I1,r1,ty,q1⟩:=hP;obtain⟨h1,h2⟩:=Tq I1 r1 ty;refine⟨T,id,pa,slot,fS,h1,h2,?_⟩;have hA:=ha ae aa s1 σ H1 _ I1 q1;rw[hs]at hA ⊢;refine Calls.callWith_builtin (by show(false || (backTo ae (starEach es X.env)).any (·.1))=false;rw[gf]<;>rfl) (Calls.evalArgs_plain ?_);exact thn hA λus s2 hP=>by obtain⟨vs,H2,I2,r2,q2⟩:=hP;exact hm aa s2 σ H2 x vs v us Q I2 r1 r2 q2

end
def MtM(X:Cx)(id:String)(r:V->Β->Hp->VK->Prop):Prop :=
 ∀(aa:Γ)(s:Shared)(σ:St)(H:Hp)(x:V)(xs:Β)(v:Value)(us:Δ)(Q:VK),Inv X aa σ H s->RelV x v->Vals xs us->r x xs H Q ->
  wpAny (model X.prog X.w) X.A (call (.builtin id) (v::us)) (EP X aa σ Q) X.xe s
theorem Vals.one:∀{x:V}{us:Δ},Vals [x] us->∃u,us=[u]/\RelV x u
 |_,_,.cons r .nil=>⟨_,rfl,r⟩
theorem Vals.two{x y:V}{us:Δ}(h:Vals [x,y] us):∃u v,us=[u,v]/\RelV x u/\RelV y v:=by
 cases h with|cons r t=>cases t with|cons q t=>cases t;exact⟨_,_,rfl,r,q⟩
theorem Vals.zero:∀{us:Δ},Vals [] us->us=[]
 |_,.nil=>rfl
theorem Vals.rep{xs:Β}{us:Δ}(h:Vals xs us):∀k:Nat,Vals (List.replicate k xs).flatten (List.replicate k us).flatten
 |0=>.nil
 |k+1=>by
  rw[List.replicate_succ,List.replicate_succ,List.flatten_cons,List.flatten_cons];exact Vals.append h (Vals.rep h k)
theorem foldl_rep(its:Δ):∀(k:Nat)(acc:Δ),
  List.foldl (λx1 x2=>x1++x2) acc.toArray (List.replicate k its.toArray)=(acc++(List.replicate k its).flatten).toArray
 |0,acc=>by simp
 |k+1,acc=>by
  have e:acc.toArray++its.toArray=(acc++its).toArray:=by simp
  have e2:(acc++its)++(List.replicate k its).flatten=acc++(List.replicate (k+1) its).flatten:=by
   rw[List.replicate_succ,List.flatten_cons,XT]
  rw[<- e2,<- foldl_rep its k (acc++its),<- e,List.replicate_succ,List.foldl_cons]
section
variable{X:Cx}{aa:Γ}{σ:St}{H:Hp}{s:Shared}{l b:Addr}{xs ys zs:Β}
theorem Inv.lset{its its':Δ}{n:Nat}{f:Array Value->Array Value}{t':Nat}(I:Inv X aa σ H s)(hH:H l=some (.lst xs))
 (e:s.heap.get? l=some { cls:=.type "list",data:=.seq its.toArray n })(hf:f its.toArray=its'.toArray)(hv:Vals ys its')(hz:ys.length<=sizeLine) :
  Inv X aa σ (upd H l (.lst ys)) { s with heap:=s.heap.update l (Obj.mapSeq f),toks:=t' }:=by
 have q:=PySem.IsL.update e f;rw[hf]at q;refine I.write (x:=l) (e:=l) (by rw[hH];exact trivial) (.inl rfl) (λb' u hb hu=>(Heap.get?_update_other s.heap (Obj.mapSeq f) (Ne.symm hb)).trans hu) ⟨_,q⟩ ?_;exact⟨hz,its',_,hv,q⟩
theorem Inv.lnew{its:Δ}{t':Nat}(I:Inv X aa σ H s)(hv:Vals ys its)(hz:ys.length<=sizeLine) :
  Inv X aa σ (upd H s.heap.objs.size (.lst ys)) { s with heap:=s.heap.push { cls:=.type "list",data:=.seq its.toArray },toks:=t' } :=
 I.laid (λ_ _ q=>aG _ q) (aF _) ⟨hz,its,0,hv,aW _ rfl⟩
theorem Inv.fresh(I:Inv X aa σ H s):H s.heap.objs.size=none:=I.hok.fresh (aF _)
theorem Inv.lstM(I:Inv X aa σ H s)(hH:H l=some (.lst xs)):xs.length<=sizeLine/\∃(its:Δ)(n:Nat),Vals xs its/\xs.length=its.length/\s.heap.get? l=some { cls:=.type "list",data:=.seq its.toArray n }:=by
 obtain⟨z,its,n,r,e⟩:=I.hok l _ hH;exact⟨z,its,n,r,r.length,e⟩
theorem Vi{n:Nat}(h:n<=sizeLine):Builtin.List.listTooLong n=false:=by
 unfold Builtin.List.listTooLong;exact Zp (UX h)
end
section
variable{X:Cx}
def YC:V->Β->Hp->VK->Prop:=λx vs H Q=>∃l xs y,x=.ref l/\vs=[y]/\H l=some (.lst xs)/\xs.length<sizeLine/\Q .non (upd H l (.lst (xs++[y])))
theorem Eu:MtM X "list.append" YC:=by
 intro aa s σ H x vs v us Q I rx rv h;obtain⟨l,xs,y,rfl,rfl,hH,hz,q⟩:=h;cases rx;obtain⟨u,rfl,ru⟩:=rv.one;obtain⟨z,its,n,r,hl,e⟩:=I.lstM hH;refine call_meets F.slot_list_append ⟨_,e,rfl⟩ F.entry_list_append (F.args_list_append_2 _ _) (PySem.list_append l its.toArray n u (by rw[aX];lia)) ⟨e,?_⟩;refine⟨.non,_,I.lset (its':=its++[u]) hH e (by simp) (r.append (.cons ru .nil)) ?_,rfl,q⟩;rw[aA,List.length_singleton];exact hz
def abW:V->Β->Hp->VK->Prop:=λx vs H Q=>∃l xs,x=.ref l/\vs=[]/\H l=some (.lst xs)/\Q .non (upd H l (.lst []))
theorem Wo:MtM X "list.clear" abW:=by
 intro aa s σ H x vs v us Q I rx rv h;obtain⟨l,xs,rfl,rfl,hH,q⟩:=h;cases rx;have hus:=rv.zero;subst hus;obtain⟨z,its,n,r,hl,e⟩:=I.lstM hH;refine call_meets F.slot_list_clear ⟨_,e,rfl⟩ F.entry_list_clear (F.args_list_clear_1 _) (AutoSeq1.list_clear_list_0 l its.toArray n (by rw[aX];lia)) ⟨e,?_⟩;exact⟨.non,_,I.lset (its':=[]) (ys:=[]) hH e rfl .nil (aZ _),rfl,q⟩
def agc:R2:=λx y H Q=>∃l b xs zs,x=.ref l/\y=.ref b/\H l=some (.lst xs)/\H b=some (.lst zs)/\xs.length+zs.length<=sizeLine/\∀p,H p=none->Q (.ref p) (upd H p (.lst (xs++zs)))
theorem abG:OpR X (binaryOp .Add) agc:=by
 intro aa s σ H x y v u Q I rx ry h;obtain⟨l,b,xs,zs,rfl,rfl,hH,hB,hz,q⟩:=h;cases rx;cases ry;obtain⟨z,its,n,r,hl,e⟩:=I.lstM hH;obtain⟨z2,hV,n2,r2,hl2,e2⟩:=I.lstM hB;refine PySem.P.add_list e e2 ?_ (by rw[aX,aX];lia);have ea:its.toArray++hV.toArray=(its++hV).toArray:=by simp
 rw[ea];exact⟨.ref _,_,I.lnew (t':=s.toks) (r.append r2) (by rw[aA];omega),rfl,q _ I.fresh⟩
def ahn:R2:=λx y H Q=>∃l k xs,x=.ref l/\y=.int k/\H l=some (.lst xs)/\-(2^63)<=k/\k<2^63/\xs.length*k.toNat<=sizeLine /\
 ∀p,H p=none->Q (.ref p) (upd H p (.lst (List.replicate k.toNat xs).flatten))
theorem len_rep{α:Type}(xs:List α)(k:Nat):(List.replicate k xs).flatten.length=k*xs.length:=by
 induction k with
 |zero=>simp
 |succ k ih=>rw[List.replicate_succ,List.flatten_cons,aA,ih,Nat.succ_mul,Nat.add_comm]
theorem aaS:OpR X (binaryOp .Mult) ahn:=by
 intro aa s σ H x y v u Q I rx ry h;obtain⟨l,k,xs,rfl,rfl,hH,h1,h2,hz,q⟩:=h;cases rx;obtain⟨t,rfl⟩:=ry;obtain⟨z,its,n,r,hl,e⟩:=I.lstM hH;have ax:its.toArray.size*k.toNat<=sizeLine:=by rw[aX,<- hl];exact hz
 have lv:¬its.toArray.size*k.toNat>(2^63-1)/8:=by
  have:(sizeLine:Nat)<=(2^63-1)/8:=by decide
  lia
 have kS:¬(!Builtin.List.listFitsIndex k)=true:=by
  rw[fitsIndex_both h1 h2];exact bh
 have ii:¬Builtin.List.listTooLong (its.toArray.size*k.toNat)=true:=by
  rw[Vi ax];exact bh
 have kL:List.foldl (λx1 x2=>x1++x2) #[] (List.replicate (if its.toArray.isEmpty=true then 0 else k.toNat) its.toArray)=(List.replicate k.toNat its).flatten.toArray:=by
  have f0:∀m:Nat,List.foldl (λx1 x2=>x1++x2) #[] (List.replicate m its.toArray)=(List.replicate m its).flatten.toArray:=λm=>by
   have:=foldl_rep its m [];rw[List.nil_append]at this;exact this
  rw[f0];cases its with
  |nil=>simp
  |cons a r'=>rw[ZZ (by simp)]
 refine wpAny_binaryOp_repeat_ref (T:="list") (U:="int") (by decide) ⟨_,e,rfl⟩ (λs'=>typeIs_int s' k t) noFill_list_mul F.fills_int_mul F.slot_int_rmul repeat_list F.slot_int_index.lookup
  (call_meets F.slot_int_rmul (typeIs_int s k t) F.entry_int_rmul (F.args_int_rmul_2 _ _) (int___rmul___int_list k t l its.toArray n)
   ⟨e,rfl,⟨_,e,rfl⟩,call_meets F.slot_list_mul ⟨_,e,rfl⟩ F.entry_list_mul (F.args_list_mul_2 _ _) (AutoListH.list___mul___list_int_3 l its.toArray n k t kS lv ii) ⟨e,?_⟩⟩)
 rw[kL];exact⟨.ref _,_,I.lnew (t':=s.toks) (r.rep k.toNat) (by rw[len_rep,Nat.mul_comm];exact hz),rfl,q _ I.fresh⟩
end
end L2
namespace Att
open PySem PySem.W PySem.Calls PyProof.Rows
theorem yW{P:Params}{h:Heap} : ∀(ns:List Int)(vs:Δ),WellAll P h vs (ns.map WData.int)->IntsAre vs ns:=by
 intro ns
 induction ns with
 |nil =>
  intro vs w;rw[List.map_nil]at w;cases w;exact .nil
 |cons n ns ih =>
  intro vs w;rw[List.map_cons]at w;cases w with
  |cons a b =>
   cases a;exact .cons _ _ (ih _ b)
theorem RB{l:OpenLaw}{n:Nat}(hn:l.most=some n){P:Params}{h:Heap}{args:List WData}{fg:Δ}
 (c8:l.row.toRowW.claim.pre args=true)(kA:WellAll P h fg args) :
  ∃a vs ns,fg=[Value.ref a]/\args=[WData.list (ns.map WData.int)]/\h.get? a=some { cls:=.type "list",data:=.seq vs.toArray }/\IntsAre vs ns/\ns.length<=n:=by
 have eT:WShape.hasAll [] args [.list .int]=true:=(pre_splitW c8).1;have hc:l.pre.holds [] { args:=args }=true:=(pre_splitW c8).2;obtain⟨d,r,rfl,h1,h2⟩:=hasAllW_cons eT;obtain rfl:=hasAllW_nil h2;obtain⟨xs,rfl,h3⟩:=hasW_list h1;obtain⟨ns,rfl⟩:=items_int h3;have ax:ns.length<=n:=by
  unfold OpenLaw.pre at hc;have h4:(WTm.not (.lt (.lit (.int (n:Int))) (.len (.arg 0)))).holds [] { args:=[.list (ns.map .int)] }=true:=by
   have h4:=(holds_andW hc).1;rw[hn]at h4;exact h4
  have h5:=condW_of h4 (w_not (w_lt w_lit (w_len_list (w_arg rfl))));rw[ak]at h5;refine WJ λq=>?_;have q':(n:Int)<((ns.length:Nat):Int):=by omega
  first
   |(rw[Zs q']at h5;exact absurd h5 (by decide))
   |(simp at h5;omega)
 cases kA with
 |cons w1 w2 =>
  cases w2;cases w1 with
  |list ho d5=>exact⟨_,_,ns,rfl,rfl,ho,yW ns _ d5,ax⟩
theorem Rq(l:OpenLaw)(args:List WData):l.row.toRowW.claim.post args (.bool true) args=true :=
 postW_of (r:=l.row.toRowW) (X:=(true==true))
  (show WShape.has [] (.bool true) .bool=true by first|rfl|decide|simp[WShape.has,WShape.arms,WShape.armsAll])
  (show(WTm.eq .res (.lit (.bool true))).value [] { args:=args,res:=some (.bool true),after:=args }=some (.bool (true==true))from w_eq_bool (w_res rfl) w_lit) rfl
theorem JC{l:OpenLaw}{n:Nat}{q:Program}{loose:Θ}{XP:(Str->Ψ)->Heap->Prop}{YP:World->Heap->Prop}{d:DefRec}
 (hn:l.most=some n)(ir:d.params.defaults=[])
 (call:∀(w:World)(s₀ s₁:Shared)(mg mb:Str->Ψ)(fa:Addr)(o:Obj)(pm cd bi:Value)(a:Addr)(vs:Δ)(ns:List Int),
   Ground q loose [] XP w s₀ mg mb s₁.heap->YP w s₁.heap ->
   s₁.heap.get? fa=some o->o.data=.func (docDef d.name d.params d.body d.scope pm cd bi)->s₁.heap.CodeRec cd d.name->mg d.name=some (.ref fa) ->
   s₁.heap.get? a=some { cls:=.type "list",data:=.seq vs.toArray }->IntsAre vs ns->ns.length<=n->s₁.gens = #[] ->
   codeAny (model l.prog w) callerA (.call (.ref fa) ⟨[.ref a],[]⟩) (λr s'=>r=.ok (.ret (.bool true))/\OldK s₁.heap s'.heap/\s'.os=s₁.os/\AllBare s'.gens) s₁) :
  WalkO q loose XP YP l.row.toRowW d [] (λf vs=>PySem.call f vs):=by
 intro w s₀ s₁ mg mb G Y fa o pm cd bi dV kV ho hd a6 hD e9 hg args fg as c8 hlay hrd kA hlo;obtain rfl:dV=.none:=Dflts.none hD ir;obtain rfl:kV=.none:=Dflts.noKw hD;obtain⟨a,vs,ns,rfl,rfl,gh,dQ,ax⟩:=RB hn c8 kA;refine enter_call (codeAny_mono (call w s₀ s₁ mg mb fa o pm cd bi a vs ns G Y ho (fd_plain hd) a6 e9 gh dQ ax hg) λr s' hq=>?_);obtain⟨rfl,h2,h3,h4⟩:=hq;exact⟨.inl ⟨.bool true,.bool true,[],rfl,λ_=>rfl,.bool true,Rq l _,λ_=>⟨List.Pairwise.nil,λ_ hm=>(nomatch hm)⟩⟩,h2,h3,h4⟩
end Att
namespace L2
open PySem PySem.Spec PyProof.Rows
theorem xU:∀{vs:Δ}{ns:List Int},IntsAre vs ns->Vals (ns.map V.int) vs
 |_,_,.nil=>.nil
 |_,_,.cons n t h=>.cons ⟨t,rfl⟩ (xU h)
def Only(H:Hp):Prop:=∀b,H b=none\/∃o xs,H b=some (.frz o (.lst xs))
theorem Wr{P:Program}{w:World}{K:Frag}{mg mb:Str->Ψ}{CX:CXT}{k:Nat}{fa a:Addr}{fd:FuncData}{x:Str}{sp:Sp}{s₁:Shared}{vs:Δ}{ns:List Int}
 (KX:K.In s₁.heap)(gN:s₁.heap.Ns mainGlobals mg)(hb:s₁.heap.Ns builtinsNs mb)(hbb:∀x:Str,x≠"__name__"->mb x=bootBuiltins x)(kN:s₁.heap.NoLimit)(hg:s₁.gens = #[])
 (ha:s₁.heap.get? a=some { cls:=.type "list",data:=.seq vs.toArray })(hi:IntsAre vs ns)(hl:ns.length<=sizeLine)(hr:dg k callerA)
 (F:∀base:Heap,K.In base->base.Ns mainGlobals mg->dO P w K mg base CX k fa fd [x] sp)(iN:∀(s:Shared)(u:Value),BindsTo s fd ⟨[u],[]⟩ [(x,u)])
 (c9:∀H:Hp,Only H->SqL K H a (ns.map V.int)->sp [.ref a] H (λv _=>v=.bl true) λ_ _ _=>False)
 (lP:∀H e s',CX [] H s₁ (λ_ _ _=>False) e s'->False) :
  codeAny (model P w) callerA (.call (.ref fa) ⟨[.ref a],[]⟩) (λr s'=>r=.ok (.ret (.bool true))/\OldK s₁.heap s'.heap/\s'.os=s₁.os/\AllBare s'.gens) s₁:=by
 have rv:=xU hi;have ku:=hi.length

 have core:∀H:Hp,Only H->SqL K H a (ns.map V.int)->HOk P w H s₁.heap->(∀b,H b≠none->b=a)->(H a≠none->K.lookup a=none) ->
   codeAny (model P w) callerA (.call (.ref fa) ⟨[.ref a],[]⟩) (λr s'=>r=.ok (.ret (.bool true))/\OldK s₁.heap s'.heap/\s'.os=s₁.os/\AllBare s'.gens) s₁:=by
  intro H hO hS hok hA hK;have cS:∀{b:Addr}{o:Obj},s₁.heap.get? b=some o->H b=none->(Jd s₁.heap H).get? b=some o:=λe n=>Ut e n;have hG:∀{b:Addr}{o:Obj}{es:Array DictEntry}{ep:Nat},s₁.heap.get? b=some o->o.data=.dict es ep->H b=none:=λ{b o es ep}e d=>by
   cases q:H b with
   |none=>rfl
   |some u =>
    have e':b=a:=hA b (by rw[q];simp);subst e';rw[ha]at e;cases e;have d':Data.seq vs.toArray _=Data.dict es ep:=d;cases d'
  have i5:∀{b:Addr}{m:Str->Ψ},s₁.heap.Ns b m->(Jd s₁.heap H).Ns b m:=λ{b m}⟨o,es,ep,e,d,r⟩=>⟨o,es,ep,cS e (hG e d),d,r⟩;have hKb:K.In (Jd s₁.heap H):=λb o e=>cS (KX b o e) (by
   cases q:H b with
   |none=>rfl
   |some u =>
    have e':b=a:=hA b (by rw[q];simp);subst e';rw[hK (by rw[q];simp)]at e;cases e)
  have hM:Mod K mg (Jd s₁.heap H):=⟨hKb,i5 gN,⟨mb,i5 hb,hbb⟩,let⟨mc,h1,h2⟩:=kN;⟨mc,i5 h1,h2⟩⟩;have e0:DW P w K mg (Jd s₁.heap H) callerA [] s₁ H:=⟨rfl,hM,λb o e=>Y8 e,X9 (QX _ _),trivial,λb hb=>absurd (show b∈([] : Φ)from hb) (by simp),hok,.of_eq hg⟩;refine codeAny_mono ((F _ hKb (i5 gN)).run callerA [] s₁ H ⟨[.ref a],[]⟩ [.ref a] [.ref a] _ _ hr e0 (iN s₁ (.ref a)) (.cons rfl .nil) (c9 H hO hS)) λr s' h=>?_;cases r with
  |error e=>exact(lP H e s' h).elim
  |ok fl =>
   cases fl with
   |next=>exact False.elim h
   |brk=>exact False.elim h
   |cont=>exact False.elim h
   |ret u =>
    obtain⟨v,H',os,bare,un,hok',r',q⟩:=h;have q':v=.bl true:=q;subst q';obtain rfl:u=Value.bool true:=r';refine⟨rfl,OldK.of_keep λb o e=>?_,os,bare⟩;cases q:H b with
    |none=>exact un.keep b o e q (by intro z;exact absurd (show b∈([] : Φ)from z) (by simp)) (by simp)
    |some u =>
     rcases hO b with z|⟨ob,xs,z⟩
     .rw[q]at z;cases z
     .have z2:=un.frzs b ob _ z;obtain⟨e1,_⟩:=hok b _ z;obtain⟨e2,_⟩:=hok' b _ z2;rw[e]at e1;cases e1;exact e2
 cases hk:K.lookup a with
 |some o =>

  have e:=KX a o hk;rw[ha]at e;cases e;refine core (λ_=>none) (λ_=>.inl rfl) (.inr ⟨_,vs.toArray,_,hk,rfl,rfl,rfl,by rw[aX,ku];exact hl,by simpa using rv⟩) (λb u z=>by have z':(none:Option HO)=some u:=z;cases z') (λb z=>absurd rfl z) λz=>absurd rfl z
 |none =>
  refine core (λb=>if b=a then some (.frz { cls:=.type "list",data:=.seq vs.toArray } (.lst (ns.map V.int)))else none) (λb=>?_) (.inl (.inr ⟨{ cls:=.type "list",data:=.seq vs.toArray },ZY rfl⟩)) (λb u z=>?_) (λb z=>?_) λ_=>hk
  .by_cases hb:b=a
   .exact .inr ⟨_,_,ZY hb⟩
   .exact .inl (ZZ hb)
  .by_cases hb:b=a
   .have z':=(ZY hb).symm.trans z;cases z';subst hb;exact⟨ha,by rw[ak];exact hl,vs,_,rv,ha⟩
   .have z':=(ZZ hb).symm.trans z;cases z'
  .by_cases hb:b=a
   .exact hb
   .exact absurd (ZZ hb) z
abbrev KOf{K:Frag}{h:Heap}(_:K.In h):Frag:=K
theorem PB{l:PySem.W.OpenLaw}{n k:Nat}{q:Program}{loose:Θ}{XP:(Str->Ψ)->Heap->Prop}{YP:World->Heap->Prop}{d:DefRec}{K:Params->Frag}{CX:World->CXT}{sp:World->Sp}{x:Str}
 (hn:l.most=some n)(eW:n<=sizeLine)(ir:d.params.defaults=[])(hr:dg k callerA)
 (hY:∀(w:World)(h:Heap),YP w h->(K w.params).In h)
 (F:∀(w:World)(mg:Str->Ψ)(fa:Addr)(h:Heap),(K w.params).In h->h.Ns mainGlobals mg->mg d.name=some (.ref fa) ->
   ∃fd:FuncData,(∀(s:Shared)(u:Value),BindsTo s fd ⟨[u],[]⟩ [(x,u)]) /\
    ∀base:Heap,(K w.params).In base->base.Ns mainGlobals mg->dO l.prog w (K w.params) mg base (CX w) k fa fd [x] (sp w))
 (c9:∀(w:World)(H:Hp)(a:Addr)(ns:List Int),ns.length<=n->Only H->SqL (K w.params) H a (ns.map V.int)->sp w [.ref a] H (λv _=>v=.bl true) λ_ _ _=>False)
 (lP:∀(w:World)(H:Hp)(s:Shared)(e:Value)(s':Shared),CX w [] H s (λ_ _ _=>False) e s'->False) :
  PySem.W.WalkO q loose XP YP l.row.toRowW d [] (λf vs=>PySem.call f vs):=by
 refine Att.JC hn ir λw s₀ s₁ mg mb fa o pm cd bi a vs ns G Y ho hd a6 e9 gh dQ ax hg=>?_;have KX:=hY w _ Y;obtain⟨fd,hb,hF⟩:=F w mg fa _ KX G.T.g e9;exact Wr KX G.T.g G.T.b G.T.builtins G.T.nolimit hg gh dQ (aL ax eW) hr hF hb (λH hO hS=>c9 w H a ns ax hO hS) λH e s'=>lP w H s₁ e s'
end L2

namespace L2
open PySem PySem.Spec PyProof.Rows
abbrev CX0:CXT:=λ_ _ _ _ _ _=>False
abbrev E0:XK:=λ_ _ _=>False
theorem Fj{X:Cx} : Passes CX0 X E0:=λ_ _ _ _ _ _ _ h=>h.elim
structure Fun(K:Frag)(x af:Str)(st:Stmt)(f:Addr)(fd:FuncData):Prop where
 ex:∃(oc:Value)(od:Ω)(kV bi pm:Value)(an:Ω)(ah ct:Value)(ce:Array (Ψ)),
  fd=PySem.W.fnOf x af (iZ st) (eG st) (bC st) .none kV bi pm an ah ct/\K.lookup f=some ⟨oc,od,.func fd,ce⟩/\codeIn K ah af=true
 kp:keepIn K (.ref f)=true
section
variable{P:Program}{w:World}{K:Frag}{mg:Str->Ψ}{base:Heap}
theorem Fun.ok{x af:Str}{st:Stmt}{f:Addr}{fd:FuncData}{N ps:Θ}{k:Nat}{sp:Sp}(F:Fun K x af st f fd)(S:bH N ps (bC st))(len:∀vs H Q E,sp vs H Q E->vs.length=ps.length)
 (a7:∀(ah:Value)(A:Around)(outer:List Env)(s:Shared)(H:Hp)(vs:Β)(Q:VK)(E:XK),dg k (A.deeper (envOfC af (bC st) s.heap.objs.size f ah))->sp vs H Q E ->
   ∃t,PSs (yq CX0 P w K mg base N af (bC st) f ah A outer s H E).nox (eG st) t/\t { nx:=λ_ H'=>Q .non H',rt:=Q } (start N vs) H):dO P w K mg base CX0 (k+1) f fd ps sp:=by
 obtain⟨oc,od,kV,bi,pm,an,ah,ct,ce,rfl,lk,a6⟩:=F.ex;refine Zk lk a6 S len λA outer s H vs Q E hr c9=>?_;obtain⟨t,h,q⟩:=a7 ah A outer s H vs Q E hr c9;exact⟨t,h.nox,q⟩
theorem V2{x af:Str}{st:Stmt}{f:Addr}{oc:Value}{od an:Ω}{ce:Array (Ψ)}{kV bi pm ah ct:Value}(l:K.lookup f=some ⟨oc,od,.func (PySem.W.fnOf x af (iZ st) (eG st) (bC st) .none kV bi pm an ah ct),ce⟩)
 (c:codeIn K ah af=true)(k:keepIn K (.ref f)=true):Fun K x af st f (PySem.W.fnOf x af (iZ st) (eG st) (bC st) .none kV bi pm an ah ct):=⟨⟨oc,od,kV,bi,pm,an,ah,ct,ce,rfl,l,c⟩,k⟩
end
theorem lJ{A:Around}{k:Nat}(hr:dg k A):A.units+1<cLine:=Y3 (Nat.add_le_add_left (by decide:1<=64) _) hr.units
section
variable{X:Cx}
def o9(sc:Scope)(x:Str):Bool:=(sc.names.lookup x).any λk=>k == .local || k == .cell || k == .free
theorem aac{sc:Scope}{x:Str}(h:o9 sc x=true):Vis sc x:=by
 unfold o9 at h;unfold Vis;cases e:sc.names.lookup x with
 |none=>rw[e]at h;cases h
 |some k=>rw[e]at h;cases k<;>first|exact .inl rfl|exact .inr (.inl rfl)|exact .inr (.inr rfl)|cases h
theorem pv(i:Nat){x:Str}{pos:Pos}(hN:X.N[i]?=some x:=by rfl)(hv:o9 X.env.scope x=true:=by rfl)(hd:qk x:=by decide)
 (a6:qf x:=by decide):PE X (.Name x pos) (Cg i):=abP hN (aac hv) hd a6
end
theorem ahb{A B:Prop}(h:B):if false=true then A else B:=by
 rw[ZZ bh];exact h
theorem agM{A B:Prop}(h:A):if true=true then A else B:=by
 rw[ZY rfl];exact h
def Same(H H':Hp):Prop:=∀b o,H b=some o->H' b=some o
theorem Same.refl(H:Hp):Same H H:=λ_ _ h=>h
theorem Same.trans{H H1 H2:Hp}(a:Same H H1)(b:Same H1 H2):Same H H2:=λc o h=>b c o (a c o h)
theorem Same.free{H H':Hp}(e:Same H H'){l:Addr}(h:H' l=Option.none):H l=Option.none:=by
 cases q:H l with
 |none=>rfl
 |some o =>
  rw[e l o q]at h;cases h
theorem Same.seq{K:Frag}{H H':Hp}{a:Addr}{xs:Β}(e:Same H H')(h:SqL K H a xs):SqL K H' a xs:=by
 rcases h with(h|⟨o,h⟩)|h
 .exact .inl (.inl (e _ _ h))
 .exact .inl (.inr ⟨o,e _ _ h⟩)
 .exact .inr h
def Bd(i:Int):Prop:=i.natAbs<2^8000
theorem Bd.log2{i:Int}(h:Bd i):i.natAbs.log2<8000:=by
 by_cases h0:i.natAbs=0
 .rw[h0,Nat.log2_zero];exact Nat.succ_pos _
 .exact(Nat.log2_lt h0).mpr h
theorem Bd.bits{i:Int}(h:Bd i):Builtin.Int.intBits i<=2^20:=by
 have e:(2:Nat)^20=1048576:=by decide
 have:=h.log2;unfold Builtin.Int.intBits;split
 .exact aZ _
 .lia
section
variable{X:Cx}
theorem Xy:OpR X (binaryOp .Mult) (rI (λi j=>Bd i/\Bd j) λi j=>.int (i*j)):=opI λ_ _ _ _ _ _ _ hc q=>mul_int q (.of_bits hc.1.bits hc.2.bits)
theorem VG:OpR X (binaryOp .FloorDiv) (rI (λ_ j=>j≠0/\Bd j) λi j=>.int (i.fdiv j)):=opI λ_ _ _ _ _ _ _ hc q=>floordiv_int hc.1 q (.inl (PyProof.noPylong_of_log2 (by have:=hc.2.log2;exact Nat.lt_trans this (by decide))))
theorem JQ:g_ X (.builtin "isinstance") (λxs H Q=>∃x c cv t b,xs=[x,c]/\((∃T,c=.ty T/\cv=Value.type T)\/∃C,c=.ref C/\cv=Value.ref C)/\xG X.K H x t/\kitOne X.K t cv=some b/\Q (.bl b) H):=by
 intro aa s σ H xs us Q I r h;obtain⟨x,c,cv,t,b,rfl,rc,ty,e,q⟩:=h;obtain⟨u,v,rfl,ru,rv⟩:=r.two;have e2:v=cv:=by
  rcases rc with⟨T,rfl,rfl⟩|⟨T,rfl,rfl⟩
  .exact rv
  .exact rv
 subst e2;exact QV I ru ty e λtk=>⟨.bl b,H,I.tok _,rfl,q⟩
theorem JD:g_ X (.builtin "sorted") (λxs H Q=>∃l ns,xs=[.ref l]/\SqL X.K H l (ns.map V.int)/\ns.length<64/\∀(ms:List Int)p,H p=none->ms.Perm ns->ms.Pairwise (· <= ·)->Q (.ref p) (upd H p (.lst (ms.map V.int)))):=by
 intro aa s σ H xs us Q I r h;obtain⟨l,ns,rfl,hl,h64,q⟩:=h;obtain⟨u,rfl,ru⟩:=r.one;cases ru;obtain⟨its,rv,p,hz⟩:=I.list hl;have hI:=intsAre_of rv;have ax:its.length=ns.length:=by have:=rv.length;simpa using this.symm
 refine sorted_ints (vs:=its) p.isList hI (Y3 (X9 ax) h64) λout ns' a1 a2 a3=>?_;obtain⟨e,he⟩:=sortedAll_at s.heap its out;have b8:H (s.heap.objs.size+1)=none:=I.hok.fresh (Xs _);refine⟨.ref _,_,I.laid (a:=s.heap.objs.size+1) (o:=.lst (ns'.map V.int)) (t':=s.toks) (λb u e=>sortedAll_old e) (Xs _) ?_,rfl,q ns' _ b8 a2 a3⟩;refine⟨?_,out.toList,e,xU a1,he⟩;rw[ak,a2.length_eq];rw[ak]at hz;exact hz
end
section
variable{prog:Program}{w:World}{A:Around}{E:Ξ}{s:Shared}
theorem Fg{it t:Addr}{items:Array Value}(ja:t≠it):∀(n i:Nat)(s:Shared)(Q:Δ->Shared->Prop),s.heap.IsListIter it t i->PlainL s.heap t items->i+n<=items.size ->
  (∀h',h'.IsListIter it t (i+n)->Heap.SameBut it s.heap h'->Q ((items.toList.drop i).take n) { s with heap:=h' })->wpAny (model prog w) A (draw (.ref it) n) Q E s
 |0,i,s,Q,hit,_,_,hQ=>by
  show wpAny _ _ (pure []) Q E s;exact ZT (by simpa using hQ s.heap hit (Heap.SameBut.refl ..))
 |n+1,i,s,Q,hit,ht,hle,hQ=>by
  have dv:i<items.size:=by lia
  show wpAny _ _ (pyNext (.ref it) >>= _) Q E s;refine ZU (wpAny_pyNext_list_item hit ht.isList (x:=items[i]) (by simp[dv]) λh₁ gi hW=>?_);have kD:PlainL h₁ t items:=by
   obtain⟨o,k,e,r⟩:=ht;exact⟨o,k,(hW.2 t ja).trans e,r⟩
  refine ZU (wpAny_holding (Fg ja n (i+1) _ _ gi kD (by lia) λh₂ kP hs₂=>ZT ?_));have hd:items.toList.drop i=items[i]::items.toList.drop (i+1):=by simp[UR,dv]
  have:=hQ h₂ (by rw[show i+(n+1)=i+1+n by lia];exact kP) (hW.trans hs₂);rw[hd,List.take_succ_cons]at this;exact this
theorem xZ{t:Addr}{items:Array Value}{Q:Δ->Shared->Prop}(hh:A.handled=none)(ht:PlainL s.heap t items)
 (hQ:∀h',Heap.ExtBut s.heap.objs.size s.heap h'->Q items.toList { s with heap:=h' }):wpAny (model prog w) A (unpackItems (.ref t) items.size none) Q E s:=by
 have dv:t≠s.heap.objs.size:=by obtain⟨o,_,ho,_⟩:=ht;exact aQ (aJ ho)
 unfold unpackItems;refine ZU ?_
 .unfold notIterableAtAll;refine ZU (wpAny_specialOf ht.isList.typeIs slot_list_iter.lookup ?_);refine ZT ?_;simp only[XY,if_false];refine ZU (wpAny_holding (wpAny_pyIter_list ht.isList ?_));have ht0:PlainL (s.heap.push { cls:=.type "list_iterator",data:=.fields #[.ref t,.int 0 0] }) t items:=by
   obtain⟨o,k,e,r⟩:=ht;exact⟨o,k,aG _ e,r⟩
  refine ZU (wpAny_holding (Fg dv items.size 0 _ _ ⟨_,aW _ rfl,rfl,rfl⟩ ht0 (by lia) λh₁ gi hW=>?_));have d5:List.take items.size (List.drop 0 items.toList)=items.toList:=by
   rw[List.drop_zero];exact aK (by simp)
  rw[d5];rw[ZZ (by simp)];have kD:PlainL h₁ t items:=by
   obtain⟨o,k,e,r⟩:=ht0;exact⟨o,k,(hW.2 t dv).trans e,r⟩
  refine ZU (wpAny_holding (wpAny_pyNext_list_end hh gi kD.isList (by simp) λh₂ he₂=>?_));simp only[Option.isSome_none,XY,if_false];refine ZT (hQ h₂ λb o hb e=>he₂ b o hb (hW.extBut b o hb (aG _ e)))
theorem vJ{env:Env}{bX:List Expr}{x1}{pos:Pos}{t:Addr}{items:Array Value}{Q:Unit->Shared->Prop}(hh:A.handled=none)(ht:PlainL s.heap t items)
 (hn:(assignEach bX env).length=items.size)(hZ:(assignEach bX env).findIdx? (·.1)=none)
 (h:∀h',Heap.ExtBut s.heap.objs.size s.heap h'->wpAny (model prog w) A (assignInOrder ((assignEach bX env).map (·.2)) items.toList) Q E { s with heap:=h' }) :
  wpAny (model prog w) A (assign (.Tuple bX x1 pos) env (.ref t)) Q E s:=by
 rw[assign_Tuple];refine ZU (wpAny_standAt ?_);unfold unpack;rw[hn,hZ];exact ZU (wpAny_holding (xZ hh ht h))
end
section
variable{X:Cx}{pos:Pos}
def afC(K:Frag)(n:Nat)(t:TGs):TG:=λv σ H Q=>∃a xs,v=.ref a/\SqL K H a xs/\xs.length=n/\t xs σ H Q
theorem Yz{es:List Expr}{k:Nat}{t:TGs}{n:Nat}(hc:X.calm=true)(h:PGs X es t)
 (hn:(assignEach es X.env).length=n:=by rfl)(az:zv X es:=by rfl):PG X (.Tuple es k pos) (afC X.K n t):=by
 intro aa s σ H v u Q I r hw;obtain⟨a,xs,e1,hq,hl,hw⟩:=hw;subst e1;cases r;obtain⟨its,rv,ht,hz⟩:=I.list hq;refine vJ (I.ok.hd hc) ht (by simp[hn,<- hl,rv.length]) az λh' hx=>?_;have I1:Inv X aa σ H { s with heap:=h' }:=I.kept (t':=s.toks) λb o e=>hx b o (aQ (aJ e)) e;exact h aa _ σ H xs _ Q I1 (by simpa using rv) hw
end
theorem Same.upd{H:Hp}{p:Addr}{o:HO}(hp:H p=none):Same H (upd H p o):=λb u e=>by
 rw[bM (ju e hp)];exact e
section
variable{X:Cx}
theorem IxR.imp{r r':R2}(h:IxR X r)(i:∀x y H Q,r' x y H Q->r x y H Q):IxR X r':=by
 intro b pos aa s σ H x y v u Q I rx ry q hs;exact h _ _ _ _ _ _ _ _ _ _ _ I rx ry (i _ _ _ _ q) hs
theorem g_.imp{f:Value}{r r':Β->Hp->VK->Prop}(h:g_ X f r)(i:∀xs H Q,r' xs H Q->r xs H Q):g_ X f r':=λaa s σ H xs us Q I rx q=>h aa s σ H xs us Q I rx (i _ _ _ q)
def tyS(H:Hp):V->Option String
 |.non=>some "NoneType"
 |.bl _=>some "bool"
 |.int _=>some "int"
 |.str _=>some "str"
 |.ref a=>match H a with
  |some (.lst _)=>some "list"
  |some (.tup _)=>some "tuple"
  |some (.dK _)=>some "dict"
  |_=>none
 |_=>none
theorem aay{K:Frag}{H:Hp}{x:V}{t:String}(h:tyS H x=some t):xG K H x (.type t):=by
 cases x with
 |non=>cases h;exact .non
 |bl=>cases h;exact .bl _
 |int=>cases h;exact .int _
 |str=>cases h;exact .str _
 |byt=>cases h
 |flt=>cases h
 |ty=>cases h
 |ref a =>
  have h:(match H a with
   |some (.lst _)=>some "list"
   |some (.tup _)=>some "tuple"
   |some (.dK _)=>some "dict"
   |_=>none)=some t:=h
  split at h
  .cases h;exact .lst (by assumption)
  .cases h;exact .tup (by assumption)
  .cases h;exact .dK (by assumption)
  .cases h
def Hh(t T:String):Bool:=(t==T) || (t=="bool" && T=="int")
theorem Pj{K:Frag}{t T:String}(ht:t∈["NoneType","bool","int","str","list","tuple","dict"])(hT:T∈["bool","int","str","list","tuple","dict"]):kitOne K (.type t) (.type T)=some (Hh t T):=by
 simp only[YU,List.not_mem_nil,or_false]at ht hT;rcases ht with rfl|rfl|rfl|rfl|rfl|rfl|rfl<;>rcases hT with rfl|rfl|rfl|rfl|rfl|rfl<;>with_unfolding_all rfl
theorem abl{H:Hp}{x:V}{t:String}(h:tyS H x=some t):t∈["NoneType","bool","int","str","list","tuple","dict"]:=by
 cases x with
 |non=>cases h;decide
 |bl=>cases h;decide
 |int=>cases h;decide
 |str=>cases h;decide
 |byt=>cases h
 |flt=>cases h
 |ty=>cases h
 |ref a =>
  have h:(match H a with
   |some (.lst _)=>some "list"
   |some (.tup _)=>some "tuple"
   |some (.dK _)=>some "dict"
   |_=>none)=some t:=h
  split at h<;>cases h<;>decide
def agY:Β->Hp->VK->Prop:=λxs H Q=>∃x T t,xs=[x,.ty T]/\T∈["bool","int","str","list","tuple","dict"]/\tyS H x=some t/\Q (.bl (Hh t T)) H
theorem tV:g_ X (.builtin "isinstance") agY:=JQ.imp λxs H Q hP=>by obtain⟨x,T,t,a,b,c,d⟩:=hP;exact⟨x,.ty T,.type T,.type t,_,a,.inl ⟨T,rfl,rfl⟩,aay c,Pj (abl c) b,d⟩
theorem PG.imp{e:Expr}{t t':TG}(h:PG X e t)(i:∀v σ H Q,t' v σ H Q->t v σ H Q):PG X e t':=λaa s σ H v u Q I r q=>h aa s σ H v u Q I r (i _ _ _ _ q)
def Zb(n:Nat)(t:TGs):TG:=λv σ H Q=>∃a xs,v=.ref a/\H a=some (.tup xs)/\xs.length=n/\t xs σ H Q
theorem Xe{es:List Expr}{k:Nat}{t:TGs}{n:Nat}{pos:Pos}(hc:X.calm=true)(h:PGs X es t)(hn:(assignEach es X.env).length=n:=by rfl)(az:zv X es:=by rfl):PG X (.Tuple es k pos) (Zb n t) :=
 (Ws hc h hn az).imp λv σ H Q hP=>by obtain⟨a,xs,e1,e2,e3⟩:=hP;exact⟨a,xs,e1,.of e2,e3⟩
def acH:Β->Hp->VK->Prop:=λxs H Q=>∃l ns,xs=[.ref l]/\H l=some (.lst (ns.map V.int))/\ns.length<64/\∀(ms:List Int)p,H p=none->ms.Perm ns->ms.Pairwise (· <= ·)->Q (.ref p) (upd H p (.lst (ms.map V.int)))
theorem Rn:g_ X (.builtin "sorted") acH:=JD.imp λxs H Q hP=>by obtain⟨l,ns,a,b,c⟩:=hP;exact⟨l,ns,a,.of b,c⟩
end
def OkF(P:Program)(w:World)(K:Frag)(mg:Str->Ψ)(base:Heap)(k:Nat)(x:Str)(ps:Θ)(sp:Sp):Prop :=
 ∃f fd,dO P w K mg base CX0 k f fd ps sp/\Binds K fd ps []/\mg x=some (.ref f)/\keepIn K (.ref f)=true
def eY(K:Frag)(mg:Str->Ψ)(x:Str)(st:Stmt)(ps:Θ):Prop :=
 ∃f fd,Fun K x x st f fd/\(∀us:Δ,us.length=ps.length->bindArgs fd ⟨us,[]⟩=pure (ps.zip us))/\mg x=some (.ref f)
theorem eY.ok{P:Program}{w:World}{K:Frag}{mg:Str->Ψ}{base:Heap}{k:Nat}{x:Str}{st:Stmt}{ps:Θ}{sp:Sp}(h:eY K mg x st ps)
 (hf:∀f fd,Fun K x x st f fd->dO P w K mg base CX0 k f fd ps sp):OkF P w K mg base k x ps sp:=by
 obtain⟨f,fd,a,b,c⟩:=h;exact⟨f,fd,hf f fd a,.all b,c,a.kp⟩
theorem Yv{K:Frag}{h:Heap}{mg:Str->Ψ}{x:Str}{st:Stmt}{ps:Θ}{f:Addr}{oc:Value}{od an:Ω}{ce:Array (Ψ)}{kV bi pm ah ct:Value}(X:K.In h)(G:h.Ns mainGlobals mg)
 (a:nsIn K mainGlobals x=some (some (.ref f)))(l:K.lookup f=some ⟨oc,od,.func (PySem.W.fnOf x x (iZ st) (eG st) (bC st) .none kV bi pm an ah ct),ce⟩)
 (c:codeIn K ah x=true)(k:keepIn K (.ref f)=true)
 (hb:∀(kV bi pm:Value)(an:Ω)(ah ct:Value)(us:Δ),us.length=ps.length->bindArgs (PySem.W.fnOf x x (iZ st) (eG st) (bC st) .none kV bi pm an ah ct) ⟨us,[]⟩=pure (ps.zip us)):eY K mg x st ps :=
 ⟨f,_,V2 l c k,hb kV bi pm an ah ct,mg_of X G a⟩
def Pu(K:Frag):Sp:=λvs H Q _=>∃(a:Addr)(ns:List Int),vs=[.ref a]/\SqL K H a (ns.map V.int)/\ns.length<=63/\Only H/\∀H',Q (.bl true) H'
theorem adv{l:PySem.W.OpenLaw}{k:Nat}{x:Str}{q:Program}{loose:Θ}{XP:(Str->Ψ)->Heap->Prop}{YP:World->Heap->Prop}{d:DefRec}{K:Params->Frag}(hn:l.most=some 63)(ir:d.params.defaults=[])
 (hr:dg k callerA)(hY:∀(w:World)(h:Heap),YP w h->(K w.params).In h)
 (F:∀(w:World)(mg:Str->Ψ)(fa:Addr)(h:Heap),(K w.params).In h->h.Ns mainGlobals mg->mg d.name=some (.ref fa) ->
   ∃st,eY (K w.params) mg d.name st [x]/\∀(base:Heap)(f:Addr)(fd:FuncData),Fun (K w.params) d.name d.name st f fd->dO l.prog w (K w.params) mg base CX0 k f fd [x] (Pu (K w.params))) :
  PySem.W.WalkO q loose XP YP l.row.toRowW d [] (λf vs=>PySem.call f vs):=by
 refine L2.PB (n:=63) (k:=k) (x:=x) (CX:=λ_=>CX0) (sp:=λw=>Pu (K w.params)) hn (by decide) ir hr hY (λw mg fa h KX G e9=>?_) (λ_ _ a ns hl hO hS=>⟨a,ns,rfl,hS,hl,hO,λ_=>rfl⟩) λ_ _ _ _ _ z=>z;obtain⟨st,⟨f,fd,hf,hb,hm⟩,ok⟩:=F w mg fa h KX G e9;rw[hm]at e9;have e:f=fa:=by injection e9 with z;injection z
 subst e;exact⟨fd,λs u=>.of_eq (hb [u] rfl),λbase _ _=>ok base f fd hf⟩
section
variable{X:Cx}{p pos:Pos}{e:Expr}{es:List Expr}{t:TA}{x:Str}{k:Nat}{ps:Θ}{sp:Sp}
def Mh(sp:Sp)(t:TA):TE:=λσ H Q=>t σ H λvs H1=>sp vs H1 Q E0
theorem Tt(G:OkF X.prog X.w X.K X.mg X.base k x ps sp)(hr:dg k X.A)(hg:Gl X x)(ha:PA X (e::es) t)(a8:qk x:=by decide)
 (he:qo X e es:=by rfl)(aw:qh X pos es:=by rfl):PE X (.Call (.Name x p) (e::es) [] pos) (Mh sp t):=by
 obtain⟨f,fd,F,b,hm,kp⟩:=G;intro aa s σ H Q I h;refine Yg F hr hg hm kp b .nil Fj ha a8 he aw aa s σ H Q I ?_;show t σ H λvs H1=>sp (vs++[]) H1 Q E0;simp only[List.append_nil];exact h
end
theorem aa5(a:Int):(if a<0 then -a else a)=((a.natAbs:Nat):Int):=by split<;>omega
def TrD(h base:Heap)(e:Addr)(cls:Value)(d:Ω)(fl:Value):Prop :=
 ∃oe vs T oT ts,h.get? e=some oe/\(oe.cls=cls/\oe.dict=d)/\oe.data=.fields vs/\vs[1]?=some (.ref T)/\base.get? T=none/\T≠e/\h.get? T=some oT/\oT.data=.fields ts/\ts[3]?=some fl
def qN(base:Heap)(l:List Env)(e:Addr)(cls:Value)(d:Ω)(fl:Value)(h:Heap):Prop :=
 base.StaysIn h/\base.get? e=none/\h.FunFrames base l/\TrD h base e cls d fl
theorem qN.first{base h:Heap}{l:List Env}{e:Addr}{cls fl:Value}{d:Ω}(x:qN base l e cls d fl h):∃oe vs,h.get? e=some oe/\oe.cls=cls/\oe.dict=d/\oe.data=.fields vs :=
 by obtain⟨_,_,_,oe,vs,_,_,_,he,hc,hd,_⟩:=x;exact⟨oe,vs,he,hc.1,hc.2,hd⟩
section
variable{M:Model}{A:Around}{E:Ξ}{s:Shared}{base:Heap}{env:Env}{outer l:List Env}{L e:Addr}{cls:Value}{d:Ω}{Q:Unit->Shared->Prop}
theorem Cm(o:Obj)(f:Array Value->Array Value):(Obj.mapFields f o).dict=o.dict:=by
 unfold Obj.mapFields;split<;>rfl
theorem V_{oe:Obj}{vs:Array Value}{head:Value}{eL:Bool}(b8:A.frames=some (env::outer))(hl:s.heap.FunFrames base (env::outer))(hf:env.frame=some L)(he:s.heap.get? e=some oe)
 (eh:base.StaysIn s.heap)(eB:base.get? e=none)(hd:oe.data=.fields vs)(hsz:1<vs.size)(h:∀h',qN base (env::outer) e oe.cls oe.dict (rawInt L) h'->s.heap.UpToSlots h'->Q () { s with heap:=h' }) :
  wpAny M A (do let a <- frameOf env;let pl <- entryPlaceOf L eL;let b <- EntryCells.newEntry head a .none (rawInt L) .none pl;setField (.ref e) 1 b) Q E s:=by
 have nofr:e∉(env::outer).filterMap (·.frame):=λz=>by
  obtain⟨_,o,ho,hnf⟩:=hl.mem z;rw[he]at ho;cases ho;exact hnf vs hd
 refine ZU (wpAny_frameOf_fun b8 hl hf λg hg=>ZU (wpAny_entryPlaceOf λpl aw=>?_));unfold EntryCells.newEntry newFields;refine ZU (wpAny_newObj_type ?_ (aw.sizeOk5 _ _ _ _ _));have eg:g.get? e=some oe:=(hg.2.1 e nofr).trans he;have kg:base.StaysIn g:=λb o q=>(hg.2.1 b λz=>by rw[(hl.mem z).1]at q;cases q).trans (eh b o q);generalize b7:({ cls:=.type "traceback",dict:=none,data:=.fields ([head,.ref L,.none,rawInt L,.none]++(if pl.isEmpty then List.replicate 6 Value.none else pl)).toArray } : Obj)=ot;have fA:g.objs.size≠e:=VW (aJ eg);have e2:(g.push ot).get? e=some oe:=aG _ eg;refine wpAny_setField e2 hd hsz (h _ ?_ ?_)
 all_goals
  have d3:=Obj.data_mapFields hd (·.setIfInBounds 1 (Value.ref g.objs.size));have e3:=Heap.get?_update_self (Obj.mapFields (·.setIfInBounds 1 (Value.ref g.objs.size))) e2 (Obj.isFreed_of_fields d3);have keep:∀b o,b≠e->g.get? b=some o->((g.push ot).update e (Obj.mapFields (·.setIfInBounds 1 (Value.ref g.objs.size)))).get? b=some o:=λb o nb q=>by
   rw[Heap.get?_update_other _ _ (Ne.symm nb)];exact aG _ q
  have nr:∀b o,s.heap.get? b=some o->(∀ws,o.data≠.fields ws)->b≠e:=λb o q nf z=>by
   rw[z,he]at q;cases q;exact nf vs hd
 .refine⟨λb o q=>keep b o (λz=>by rw[z,eB]at q;cases q) (kg b o q),eB,hl.of_keeps λb o q nf=>?_,?_⟩
  .obtain⟨sl,z⟩:=hg.2.2 b o q;exact⟨_,keep b _ (nr b o q nf) z,rfl⟩
  .refine⟨_,_,g.objs.size,ot,_,e3,⟨Obj.cls_mapFields _ _,Cm _ _⟩,d3,by simp[hsz],kg.fresh,fA,?_,by rw[<- b7],?_⟩
   .rw[Heap.get?_update_other _ _ (Ne.symm fA)];exact aW g (by rw[<- b7];rfl)
   .first|(simp;done)|(rcases aw with rfl|⟨_,_,_,_,_,_,_,rfl⟩<;>simp)
 .intro b o q nf;obtain⟨sl,z⟩:=hg.2.2 b o q;exact⟨sl,keep b _ (nr b o q nf) z⟩
theorem N8{oe:Obj}{vs:Array Value}(b8:A.frames=some (env::outer))(hl:s.heap.FunFrames base (env::outer))(hf:env.frame=some L)(he:s.heap.get? e=some oe)
 (eh:base.StaysIn s.heap)(eB:base.get? e=none)(hd:oe.data=.fields vs)(h1:vs[1]?=some .none)(h:∀h',qN base (env::outer) e oe.cls oe.dict (rawInt L) h'->s.heap.UpToSlots h'->Q () { s with heap:=h' }) :
  wpAny M A (noteFrame (.ref e) env) Q E s:=by
 unfold noteFrame;simp only[hf];refine ZU (wpAny_field he hd h1 ?_);rw[ZZ (by decide)];exact V_ b8 hl hf he eh eB hd (Array.getElem?_eq_some_iff.mp h1).1 h
theorem Ep(b8:A.frames=some (env::outer))(hf:env.frame=some L)(x:qN base (env::outer) e cls d .none s.heap)
 (h:∀h',qN base (env::outer) e cls d (rawInt L) h'->s.heap.UpToSlots h'->Q () { s with heap:=h' }):wpAny M A (noteFrame (.ref e) env) Q E s:=by
 obtain⟨eh,eB,hl,oe,vs,T,oT,ts,he,⟨hc,hdd⟩,hd,h1,nT,fA,hT,fc,h3⟩:=x;subst hc hdd;unfold noteFrame;simp only[hf];refine ZU (wpAny_field he hd h1 ?_);rw[ZY (show(Value.ref T != Value.none)=true from by simp)];refine ZU (wpAny_field hT fc h3 ?_);rw[ZZ (show ¬((Value.none==rawInt L)=true)from by simp[rawInt])];refine ZU (wpAny_setField hT fc (Array.getElem?_eq_some_iff.mp h3).1 ?_);have bn:∀b,b≠T->(s.heap.update T (Obj.mapFields (·.setIfInBounds 3 Value.none))).get? b=s.heap.get? b:=λb hb=>Heap.get?_update_other _ _ (Ne.symm hb);have nr:∀b o,s.heap.get? b=some o->(∀ws,o.data≠.fields ws)->b≠T:=λb o q nf z=>by
  rw[z,hT]at q;cases q;exact nf ts fc
 refine V_ (s:={ s with heap:=_ }) b8 (hl.of_keeps λb o q nf=>⟨o,(bn b (nr b o q nf)).trans q,rfl⟩) hf ((bn e (Ne.symm fA)).trans he)
  (λb o q=>(bn b λz=>by rw[z,nT]at q;cases q).trans (eh b o q)) eB hd (Array.getElem?_eq_some_iff.mp h1).1 λh' y up=>h h' y λb o q nf=>up b o ((bn b (nr b o q nf)).trans q) nf
theorem P_{fl:Value}(x:qN base l e cls d fl s.heap)(h:∀h',qN base l e cls d .none h'->s.heap.UpToSlots h'->Q () { s with heap:=h' }):wpAny M A (setFlight (.ref e) none) Q E s:=by
 obtain⟨eh,eB,hl,oe,vs,T,oT,ts,he,hc,hd,h1,nT,fA,hT,fc,h3⟩:=x;have z3:3<ts.size:=(Array.getElem?_eq_some_iff.mp h3).1;have bn:∀b,b≠T->(s.heap.update T (Obj.mapFields (·.setIfInBounds 3 ((none:Ω).elim Value.none λf=>rawInt f)))).get? b=s.heap.get? b:=λb hb=>Heap.get?_update_other _ _ (Ne.symm hb);have nr:∀b o,s.heap.get? b=some o->(∀ws,o.data≠.fields ws)->b≠T:=λb o q nf z=>by
  rw[z,hT]at q;cases q;exact nf ts fc
 unfold setFlight;refine ZU (wpAny_field he hd h1 ?_);rw[ZY (show(Value.ref T != Value.none)=true from by simp)];refine wpAny_setField hT fc z3 (h _ ⟨λb o q=>(bn b λz=>by rw[z,nT]at q;cases q).trans (eh b o q),eB,hl.of_keeps λb o q nf=>⟨o,(bn b (nr b o q nf)).trans q,rfl⟩,?_⟩ λb o q nf=>⟨o.slots,(bn b (nr b o q nf)).trans q⟩);exact⟨oe,vs,T,_,_,(bn e (Ne.symm fA)).trans he,hc,hd,h1,nT,fA,Heap.get?_update_self _ hT (Obj.isFreed_of_fields (Obj.data_mapFields fc _)),Obj.data_mapFields fc _,by simp[z3]⟩
theorem qN.pop{fl:Value}{h:Heap}(x:qN base (env::outer) e cls d fl h):qN base outer e cls d fl h:=⟨x.1,x.2.1,x.2.2.1.2.2,x.2.2.2⟩
theorem UG(b8:A.frames=some (env::outer))(hf:env.frame=some L)(x:qN base (env::outer) e cls d .none s.heap)
 (h:∀h',qN base outer e cls d .none h'->s.heap.UpToSlots h'->Q () { s with heap:=h' }):wpAny M A (leaving env (.ref e)) Q E s:=by
 unfold leaving;exact ZU (Ep b8 hf x λh1 y up=>P_ y λh2 z j3=>h h2 z.pop (up.trans j3))
theorem QZ{h0:Heap}{oe:Obj}{vs:Array Value}(b8:A.frames=some (env::outer))(hf:env.frame=some L)(eh:base.StaysIn h0)(hl:h0.FunFrames base (env::outer))(eS:∀b o,h0.get? b=some o->s.heap.get? b=some o)
 (new:h0.get? e=none)(he:s.heap.get? e=some oe)(hd:oe.data=.fields vs)(h1:vs[1]?=some .none)
 (h:∀h',qN base outer e oe.cls oe.dict .none h'->s.heap.UpToSlots h'->Q () { s with heap:=h' }):wpAny M A (leaving env (.ref e)) Q E s:=by
 have eB:base.get? e=none:=by
  cases q:base.get? e with
  |none=>rfl
  |some o=>have:=eh e o q;rw[new]at this;cases this
 unfold leaving;exact ZU (N8 b8 (hl.of_keeps λb o q _=>⟨o,eS b o q,rfl⟩) hf he (λb o q=>eS b o (eh b o q)) eB hd h1 λh1 y up=>P_ y λh2 z j3=>h h2 z.pop (up.trans j3))
end
theorem dW.there{P:Program}{w:World}{H:Hp}{h:Heap}{a:Addr}{o:HO}(x:dW P w H h a o):∃ob,h.get? a=some ob:=by
 cases o with
 |lst xs=>obtain⟨_,_,_,_,e⟩:=x;exact⟨_,e⟩
 |tup xs=>obtain⟨_,_,_,o,e,_⟩:=x;exact⟨_,e⟩
 |dK kvs=>obtain⟨_,_,_,_,o,_,_,e,_⟩:=x;exact⟨_,e⟩
 |set S n=>obtain⟨o,_,_,_,e,_⟩:=x;exact⟨_,e⟩
 |ins C dx fs=>obtain⟨_,_,_,e,_⟩:=x;exact⟨_,e⟩
 |own y=>exact x
 |xd fs=>obtain⟨_,⟨_,_,_,e,_⟩,_⟩:=x;exact⟨_,e⟩
 |rng lo hi=>obtain⟨_,_,_,e⟩:=x;exact⟨_,e⟩
 |frz ob u=>obtain⟨e,_⟩:=x;exact⟨_,e⟩
 |tbl ps=>exact⟨_,(show h.get? a=some _ from x)⟩
 |met f y=>exact⟨_,(show h.get? a=some _ from x)⟩
 |ext φ=>obtain⟨_,e,_⟩:=x;exact e
structure Fly(P:Program)(w:World)(l:List Env)(H:Hp)(s:Shared)(a:Addr)(C:Value)(H':Hp)(s':Shared)(B:Heap)(d:Ω):Prop where
 os:s'.os=s.os
 bare:AllBare s'.gens
 new:s.heap.get? a=none
 un:Un (frs l) [] H H' s.heap s'.heap
 hok:HOk P w H' s'.heap
 frf:∀b∈frs l,H' b=none
 fl:qN B l a C d .none s'.heap
 cov:∀b o,s'.heap.get? b=some o->b∉frs l->((∃u,s.heap.get? b=some u)\/∃u,H' b=some u)->B.get? b=some o
section
variable{P:Program}{w:World}{l:List Env}{H H':Hp}{s s':Shared}{a:Addr}{C:Value}{B:Heap}{d:Ω}{h':Heap}
theorem Fly.trk(F:Fly P w l H s a C H' s' B d){b:Addr}{u:HO}{o:Obj}(e:H' b=some u)(q:s'.heap.get? b=some o):B.get? b=some o :=
 F.cov b o q (λz=>by rw[F.frf b z]at e;cases e) (.inr ⟨u,e⟩)
theorem Fly.hok'(F:Fly P w l H s a C H' s' B d)(k:∀b o,B.get? b=some o->h'.get? b=some o):HOk P w H' h':=λb u e =>
 (F.hok b u e).stay (λc v hc q=>k c v (by
  rcases hc with z|z
  .subst z;exact F.trk e q
  .exact F.trk z q)) (λ_ q=>q) λ_ _ q=>q
theorem Fly.un'(F:Fly P w l H s a C H' s' B d)(k:∀b o,B.get? b=some o->h'.get? b=some o)(up:s'.heap.UpToSlots h'):Un (frs l) [] H H' s.heap h':=by
 have nf:∀b∈frs l,∀o,s'.heap.get? b=some o->∀vs,o.data≠.fields vs:=λb hb o e=>by
  obtain⟨_,o',e',d⟩:=F.fl.2.2.1.mem hb;rw[e]at e';cases e';exact d
 refine⟨λb o q n hb hx=>k b o (F.cov b o (F.un.keep b o q n hb hx) hb (.inl ⟨o,q⟩)),λb o q n hb hx=>?_,F.un.free,λb o q hx=>?_,F.un.tups,F.un.frzs,F.un.tbls⟩
 .obtain⟨sl,e⟩:=F.un.slot b o q n hb hx;obtain⟨fo,e'⟩:=up b _ e (nf b hb _ e);exact⟨fo,e'⟩
 .obtain⟨o',e⟩:=F.un.there b o q hx;by_cases hb:b∈frs l
  .obtain⟨fo,e'⟩:=up b _ e (nf b hb _ e);exact⟨_,e'⟩
  .exact⟨o',k b o' (F.cov b o' e hb (.inl ⟨o,q⟩))⟩
end
section
variable{X:Cx}{aa:Γ}{σ:List (Option V)}{H H':Hp}{s s':Shared}{a:Addr}{C:Value}{B:Heap}{d:Ω}{h':Heap}
theorem Inv.flown(I:Inv X aa σ H s)(F:Fly X.prog X.w X.stack H s a C H' s' B d)(k:∀b o,B.get? b=some o->h'.get? b=some o)(up:s'.heap.UpToSlots h'):Inv X aa σ H' { s' with heap:=h' } :=
 I.call' (s':={ s' with heap:=h' }) (ch:=[]) F.os (F.un' k up) (F.hok' k) F.bare λ_ z=>nomatch z
theorem Inv.old(I:Inv X aa σ H s)(hx:X.ex=[]){b:Addr}{o:Obj}(e:X.s₀.heap.get? b=some o):(∃u,s.heap.get? b=some u)/\b≠X.env.locals:=by
 obtain⟨u,q⟩:=I.base.there b o e (by rw[hx];simp);exact⟨⟨u,q⟩,aQ (aR (aJ e) I.ok.above)⟩
theorem Inv.nostk(I:Inv X aa σ H s){b:Addr}(h1:b≠X.env.locals)(h2:b∉X.fs):b∉frs X.stack:=λz=>by
 rcases YU.mp (I.stkSub b z)with e|e
 .exact h1 e
 .exact h2 e
theorem Inv.flyOut(I:Inv X aa σ H s)(hx:X.ex=[])(F:Fly X.prog X.w X.stack H s a C H' s' B d)(fl:qN B X.outer a C d .none h')(up:s'.heap.UpToSlots h') :
  Fly X.prog X.w X.outer X.H₀ X.s₀ a C H' { s' with heap:=h' } B d:=by
 have J:=I.flown F fl.1 up;refine⟨J.os,J.bare,?_,by have:=J.base;rw[hx]at this;exact this,J.hok,λb hb=>?_,fl,λb o e hb hc=>?_⟩
 .cases q:X.s₀.heap.get? a with
  |none=>rfl
  |some o =>
   obtain⟨⟨u,z⟩,_⟩:=I.old hx q;rw[F.new]at z;cases z
 .obtain⟨_,o,ho,_⟩:=I.ok.funs.mem hb;exact J.base.free b o ho (I.ok.frf b hb) λz=>I.ok.exfs b z hb
 .rcases hc with⟨u,q⟩|⟨u,q⟩
  .obtain⟨⟨v,z⟩,n⟩:=I.old hx q;obtain⟨o',e'⟩:=F.un.there b v z (by simp);have y:=F.cov b o' e' (I.nostk n hb) (.inl ⟨v,z⟩);have e2:=fl.1 b o' y;rw[show({ s' with heap:=h' } : Shared).heap.get? b=h'.get? b from rfl,e2]at e;cases e;exact y
  .obtain⟨o',e'⟩:=(F.hok b u q).there;have y:=F.trk q e';have e2:=fl.1 b o' y;rw[show({ s' with heap:=h' } : Shared).heap.get? b=h'.get? b from rfl,e2]at e;cases e;exact y
end
def CXO(P:Program)(w:World):CXT:=λl H s E e s'=>∃a C d H' B,e=.ref a/\Fly P w l H s a C H' s' B d/\E C d H'
def R0(X:Cx)(Ex:Value->Ω->L2.St->Hp->Prop):Prop :=
 ∀aa σ H s a C H' s' B d,Inv X aa σ H s->Fly X.prog X.w X.stack H s a C H' s' B d->Ex C d σ H'->X.xe (.ref a) s'
section
variable{P:Program}{w:World}{K:Frag}{mg:Str->Ψ}{base:Heap}{N:Θ}{af:Str}{scope:Scope}{f:Addr}{cd:Value}{A:Around}{outer:List Env}{s:Shared}{H:Hp}{E:XK}
theorem Xw:R0 (yq (CXO P w) P w K mg base N af scope f cd A outer s H E) (λC d _ H'=>E C d H'):=by
 intro aa σ H1 s1 a C H' s' B d I F q;show wpAny _ _ (leaving _ (.ref a)) _ _ _;refine UG (outer:=outer) I.ok.frames rfl F.fl λh' fl up=>?_;exact⟨a,C,d,H',B,rfl,I.flyOut rfl F fl up,q⟩
end
section
variable{P:Program}{w:World}{K:Frag}{mg:Str->Ψ}{base:Heap}
theorem Fun.okX{x af:Str}{st:Stmt}{f:Addr}{fd:FuncData}{N ps:Θ}{k:Nat}{sp:Sp}(F:Fun K x af st f fd)(S:bH N ps (bC st))(len:∀vs H Q E,sp vs H Q E->vs.length=ps.length)
 (a7:∀(ah:Value)(A:Around)(outer:List Env)(s:Shared)(H:Hp)(vs:Β)(Q:VK)(E:XK),dg k (A.deeper (envOfC af (bC st) s.heap.objs.size f ah))->sp vs H Q E ->
   ∃t,PSs (yq (CXO P w) P w K mg base N af (bC st) f ah A outer s H E) (eG st) t/\t { nx:=λ_ H'=>Q .non H',rt:=Q } (L2.start N vs) H):dO P w K mg base (CXO P w) (k+1) f fd ps sp:=by
 obtain⟨oc,od,kV,bi,pm,an,ah,ct,ce,rfl,lk,a6⟩:=F.ex;exact Zk lk a6 S len λA outer s H vs Q E hr c9=>a7 ah A outer s H vs Q E hr c9
def OkX(P:Program)(w:World)(K:Frag)(mg:Str->Ψ)(base:Heap)(k:Nat)(x:Str)(ps:Θ)(sp:Sp):Prop :=
 ∃f fd,dO P w K mg base (CXO P w) k f fd ps sp/\Binds K fd ps []/\mg x=some (.ref f)/\keepIn K (.ref f)=true
theorem eY.okX{k:Nat}{x:Str}{st:Stmt}{ps:Θ}{sp:Sp}(h:eY K mg x st ps)
 (hf:∀f fd,Fun K x x st f fd->dO P w K mg base (CXO P w) k f fd ps sp):OkX P w K mg base k x ps sp:=by
 obtain⟨f,fd,a,b,c⟩:=h;exact⟨f,fd,hf f fd a,.all b,c,a.kp⟩
end
section
variable{X:Cx}{p pos:Pos}{e:Expr}{es:List Expr}{t:TA}{x:Str}{k:Nat}{ps:Θ}{sp:Sp}{Ex:Value->Ω->L2.St->Hp->Prop}
def S9(sp:Sp)(Ex:Value->Ω->L2.St->Hp->Prop)(t:TA):TE:=λσ H Q=>t σ H λvs H1=>sp vs H1 Q λC d H'=>Ex C d σ H'
theorem Vk(G:OkX X.prog X.w X.K X.mg X.base k x ps sp)(hr:dg k X.A)(hg:Gl X x)(hx:R0 X Ex)(ha:PA X (e::es) t)(a8:qk x:=by decide)
 (he:qo X e es:=by rfl)(aw:qh X pos es:=by rfl):PE X (.Call (.Name x p) (e::es) [] pos) (S9 sp Ex t):=by
 obtain⟨f,fd,F,hb,hm,kp⟩:=G;intro aa s σ H Q I h;refine wpAny_Call_Name_kw (nM I hg hm ?_ a8);refine callWith_K (h₀:=X.base) I.ok.mod.kin kp (thn (ha pos aa s σ H _ I h) λus s1 ⟨vs,H1,I1,r,q⟩=>⟨I1.kIn,?_⟩) he aw;have hl:us.length=ps.length:=by rw[<- r.length];exact F.len _ _ _ _ q
 have gv:=hb s1 us I1.kIn (by simpa using hl);simp only[List.append_nil]at gv;refine wpAny_call (codeAny_mono (F.run X.A X.stack s1 H1 ⟨us,[]⟩ us vs Q _ hr I1.env0 gv r q) λr s' hq=>?_);cases r with
 |error e =>
  obtain⟨a,C,d,H',B,rfl,Fl,q'⟩:=hq;exact hx aa σ H1 s1 a C H' s' B d I1 Fl q'
 |ok fl =>
  cases fl with
  |ret u=>exact I1.after hq
  |next=>exact False.elim hq
  |brk=>exact False.elim hq
  |cont=>exact False.elim hq
end
abbrev bmV:Δ:=[.type "ValueError",.type "Exception",.type "BaseException",.type "object"]
def ab6(K:Frag)(C:Addr):Prop:=excIn K C bmV "ValueError.__new__"=true
theorem Yx{K:Frag}{h:Heap}{C:Addr}(X:K.In h)(q:ab6 K C):∃bm N nm qn bs eJ sn sub ab col dd k0 k1 k2 k3 k5 mN,h.get? C=some (excClassObj nm qn C N bs bm eJ sn sub ab col dd k0 k1 k2 k3 k5 "ValueError.__new__") /\
  h.Ns N mN/\mN "__init__"=none/\OwnTail h bmV bm:=by
 unfold ab6 excIn at q;split at q
 .rename_i dd cd sl ho
  split at q
  .rename_i C' bm k0 k1 k2 k3 n k5 hm hs
   simp only[UV,beq_iff_eq,Bool.not_eq_true']at q;obtain⟨⟨⟨⟨⟨rfl,rfl⟩,iA⟩,ht⟩,hok⟩,hni⟩:=q;obtain⟨nm,bs,mro,ns,qn,hd,sn,sub,ab,col,del⟩:=cd;dsimp only at hm iA hok hni;subst hm iA;have hsl:sl = #[k0,k1,k2,k3,some (.builtin "ValueError.__new__"),k5]:=by
    obtain⟨l⟩:=sl;simp only at hs;rw[hs]
   subst hsl;exact⟨bm,ns,nm,qn,bs,hd,sn,sub,ab,col,dd,k0,k1,k2,k3,k5,_,X _ _ ho,.of_isNs (isNs_of_in X hok),PySem.W.nsMap_none_of_in X hok hni,PySem.W.tail_of_in X ht⟩
  .cases q
 .cases q
abbrev Cx.tryc(X:Cx)(pn:Γ)(E:Ξ):Cx:={ X with pn:=pn,xe:=E }
abbrev Cx.marked(X:Cx)(a:Addr)(E:Ξ):Cx:={ X with A:=X.A.mark (some (.ref a)),calm:=false,xe:=E }
section
variable{X:Cx}{aa cb pn:Γ}{σ:L2.St}{H H':Hp}{s:Shared}{E:Ξ}{a:Addr}
theorem Cx.Ok.tryc(ok:X.Ok):(X.tryc pn E).Ok:=⟨ok.mod,ok.kind,ok.glob,ok.blt,ok.above,ok.inj,ok.has,ok.cab,ok.hd,ok.frames,ok.stk,ok.exf,ok.bs,ok.bsz,ok.noex,ok.exfs,ok.funs,ok.frf⟩
theorem Cx.Ok.untry(ok:(X.tryc pn E).Ok):X.Ok:=⟨ok.mod,ok.kind,ok.glob,ok.blt,ok.above,ok.inj,ok.has,ok.cab,ok.hd,ok.frames,ok.stk,ok.exf,ok.bs,ok.bsz,ok.noex,ok.exfs,ok.funs,ok.frf⟩
theorem Inv.tryc(I:Inv X aa σ H s):Inv (X.tryc (X.pn++aa) E) [] σ H s:=⟨I.ok.tryc,I.os,I.bare,I.base,I.loc,I.cell,I.free,I.freeC,λp hp=>I.pin p (by simpa using hp),I.hok,I.len⟩
theorem Inv.untry(I:Inv (X.tryc (X.pn++aa) E) cb σ H s):Inv X aa σ H s:=⟨I.ok.untry,I.os,I.bare,I.base,I.loc,I.cell,I.free,I.freeC,λp hp=>I.pin p (VX _ hp),I.hok,I.len⟩
theorem Cx.Ok.marked(ok:X.Ok):(X.marked a E).Ok:=⟨ok.mod,ok.kind,ok.glob,ok.blt,ok.above,ok.inj,ok.has,ok.cab,λz=>(nomatch z),ok.frames,ok.stk,ok.exf,ok.bs,ok.bsz,ok.noex,ok.exfs,ok.funs,ok.frf⟩
theorem Inv.marked(I:Inv X aa σ H s):Inv (X.marked a E) aa σ H s:=⟨I.ok.marked,I.os,I.bare,I.base,I.loc,I.cell,I.free,I.freeC,I.pin,I.hok,I.len⟩
theorem Inv.unmarked(ok:X.Ok)(I:Inv (X.marked a E) aa σ H s):Inv X aa σ H s:=⟨ok,I.os,I.bare,I.base,I.loc,I.cell,I.free,I.freeC,I.pin,I.hok,I.len⟩
theorem Inv.track{o:HO}(I:Inv X aa σ H s)(hn:H a=none)(ha:X.s₀.heap.get? a=none)(hL:a≠X.env.locals)(hC:∀x c,X.env.cells.lookup x=some c->c≠a)(hp:∀p∈X.pn++aa,p.1≠a)
 (ok:dW X.prog X.w (upd H a o) s.heap a o):Inv X aa σ (upd H a o) s:=by
 have ne:∀b u,H b=some u->b≠a:=λb u e=>ju e hn;have ne0:∀b u,X.s₀.heap.get? b=some u->b≠a:=λb u e z=>by rw[z,ha]at e;cases e
 refine⟨I.ok,I.os,I.bare,⟨I.base.keep,I.base.slot,λb ob e n hx=>by rw[bM (ne0 b ob e)];exact I.base.free b ob e n hx,I.base.there,λb xs e=>?_,λb ob u e=>?_,λb ps e=>?_⟩,I.loc,I.cell,by rw[bM hL.symm];exact I.free,λx c e=>by rw[bM (hC x c e)];exact I.freeC x c e,λp q=>?_,λb u e=>?_,I.len⟩
 .have z:=I.base.tups b xs e;rw[bM (ne b _ z)];exact z
 .have z:=I.base.frzs b ob u e;rw[bM (ne b _ z)];exact z
 .obtain⟨m,z⟩:=I.base.tbls b ps e;exact⟨m,by rw[bM (ne b _ z)];exact z⟩
 .obtain⟨h1,h2,h3⟩:=I.pin p q;exact⟨h1,by rw[bM (hp p q)];exact h2,h3⟩
 .by_cases z:b=a
  .subst z;rw[bQ]at e;cases e;exact ok
  .rw[bM z]at e;exact(I.hok b u e).stay (λ_ _ _ q=>q) (λc q=>by rw[bM (ne c _ q)];exact q) λc xs q=>by rw[bM (ne c _ q)];exact q
theorem Inv.unname{M:Model}{A:Around}{E:Ξ}{i:Nat}{n:Str}{pos:Pos}{Q:Unit->Shared->Prop}(I:Inv X aa σ H s)(hN:X.N.Nodup)(hi:X.N[i]?=some n)(hk:X.env.scope.names.lookup n=some .local)
 (h:∀s',Inv X aa (σ.set i none) H s'->Q () s'):wpAny M A (do bindName X.env n .none;unbindBehindTheSuite X.env n pos) Q E s:=by
 obtain⟨m,hn,hl⟩:=id I.loc;have dS:(X.env.scope.kind == .class || (X.env.scope.kind == .module&&X.env.locals != X.env.globals))=false:=by rw[I.ok.kind];rfl
 have cne:=I.cne;have jn:i<σ.length:=by rw[I.len];exact(ao.mp hi).1
 refine wpAny_nameGoes_keeps hk hn dS λh' v ia hs=>?_;have hok:HOk X.prog X.w H h':=λb ob e=>(I.hok b ob e).stay (λc w' hc q=>(hs.2 c (by
  rintro rfl;rcases hc with rfl|hc
  .rw[I.free]at e;cases e
  .rw[I.free]at hc;cases hc)).trans q) (λ_ q=>q) λ_ _ q=>q
 refine h _ ⟨I.ok,I.os,I.bare,⟨λb o e n' hb hx=>?_,λb o e n' hb hx=>?_,I.base.free,λb o e hx=>?_,I.base.tups,I.base.frzs,I.base.tbls⟩,⟨_,ia,λj y v' e1 e2 e3=>?_⟩,λy c e=>?_,I.free,I.freeC,λp hp=>?_,hok,by simpa using I.len⟩
 .exact(hs.2 b (aQ (aR (aJ e) I.ok.above))).trans (I.base.keep b o e n' hb hx)
 .obtain⟨sl,e1⟩:=I.base.slot b o e n' hb hx;exact⟨sl,(hs.2 b (aQ (aR (aJ e) I.ok.above))).trans e1⟩
 .obtain⟨o',e1⟩:=I.base.there b o e hx;exact⟨o',(hs.2 b (aQ (aR (aJ e) I.ok.above))).trans e1⟩
 .by_cases hj:j=i
  .subst hj;rw[WZ jn]at e2;cases e2
  .rw[Wp (Ne.symm hj)]at e2;obtain⟨u',r',q⟩:=hl j y v' e1 e2 e3;refine⟨u',r',?_⟩;rcases q with⟨k,e⟩|⟨k,c,e,z⟩
   .refine .inl ⟨k,?_⟩;have:y≠n:=λe=>hj (CG hN e1 (e ▸ hi));simp[this,e]
   .exact .inr ⟨k,c,e,z.sameBut hs (cne y c e)⟩
 .obtain⟨w',z⟩:=I.cell y c e;exact⟨w',z.sameBut hs (cne y c e)⟩
 .obtain⟨e,n',ne,nf,d⟩:=I.pin p hp;exact⟨(hs.2 p.1 ne).trans e,n',ne,nf,d⟩
end
def XO(a C:Addr)(d:Ω):HO:=.ext λh=>∃o,h.get? a=some o/\o.cls=.ref C/\o.dict=d/\∃vs,o.data=.fields vs
theorem Ln{M:Model}{A:Around}{E:Ξ}{K:Frag}{h:Heap}{g:Array GenState}{d:Drawn}{t:Nat}{os:OsState}{a C D:Addr}{oe:Obj}{Q:Bool->Shared->Prop}{b:Bool}(X:K.In h)
 (qD:mroIn K D (.type "BaseException")=some true)(fh:typeIn K (.ref D)=some (.type "type"))(he:h.get? a=some oe)(hc:oe.cls=.ref C)(qS:mroIn K C (.ref D)=some b)
 (hq:Q b ⟨h,g,d,t,os⟩):wpAny M A (excMatches (.ref a) (.ref D)) Q E ⟨h,g,d,t,os⟩:=by
 have l1:PySem.W.Looks M h (isInstance (.ref D) (.type "tuple")) false:=(PySem.W.looks_typeIn X fh).andThen (PySem.W.Looks.of_pure tc_notTuple);have l2:PySem.W.Looks M h (isType (.ref D)) true:=by
  obtain⟨cdD,cw,_⟩:=Option.bind_eq_some_iff.mp qD;unfold clsIn at cw;split at cw
  .rename_i c' d' cd' fo ho
   intro A' Q' E' s' k q;unfold isType loadHead;exact ZU (wpAny_loadPart (k _ _ (X _ _ ho)) (ZT q))
  .cases cw
 have l3:PySem.W.Looks M h (isSubtype (.ref D) (.type "BaseException")) true:=looks_mroIn X qD;have l4:PySem.W.Looks M h (isSubtype (.ref C) (.ref D)) b:=looks_mroIn X qS;have l5:PySem.W.Looks M h (typeOf (.ref a)) (.ref C):=by
  intro A' Q' E' s' k q;rw[<- hc]at q;unfold typeOf;exact ZU (wpAny_loadPart (k _ _ he) (ZT q))
 unfold excMatches;refine ZU (l1.at ?_);simp only[XY,if_false];refine ZU (ZT ?_);simp only[List.forIn_cons,List.forIn_nil];unfold isExcClass;refine ZU (ZU (ZU (ZU (l2.at ?_))));simp only[if_true];refine l3.at ?_;simp only[Bool.not_true,XY,if_false];refine ZT (ZT (ZU (l5.at ?_)));refine ZU (ZU (ZU (l4.at ?_)));cases b with
 |true =>
  simp only[if_true];exact ZT (ZT (ZT hq))
 |false =>
  simp only[XY,if_false];exact ZT (ZT (ZT hq))
section
variable{X:Cx}{pos du np:Pos}{be eP:List Stmt}{b₀:Stmt}{n Dn:Str}{D:Addr}{i:Nat}{tb:(Value->Ω->L2.St->Hp->Prop)->TS}{th:TS}
def Ends.unset(R:Ends)(i:Nat):Ends:={ nx:=λσ H=>R.nx (σ.set i none) H,rt:=R.rt,bk:=λσ H=>R.bk (σ.set i none) H,ct:=λσ H=>R.ct (σ.set i none) H }
def ab7(K:Frag)(D:Addr)(i:Nat)(tb:(Value->Ω->L2.St->Hp->Prop)->TS)(th:TS):TS:=λR σ H =>
 ∃Ex:Value->Ω->L2.St->Hp->Prop,tb Ex R σ H/\∀C' d σ' H',Ex C' d σ' H'->∃C,C'=.ref C/\mroIn K C (.ref D)=some true /\
  ∀a,H' a=none->th (R.unset i) (σ'.set i (some (.ref a))) (upd H' a (XO a C d))
theorem Lk(hN:X.N.Nodup)(hi:X.N[i]?=some n)(db:X.env.scope.names.lookup n=some .local)(ik:Gl X Dn)(ib:X.mg Dn=some (.ref D))(qD:mroIn X.K D (.type "BaseException")=some true)
 (fh:typeIn X.K (.ref D)=some (.type "type"))(az:X.stack=X.env::X.outer)(b8:X.env.frame=some X.env.locals)(iq:X.ex=[])
 (hb:∀pn' E' Ex,R0 (X.tryc pn' E') Ex->PSs (X.tryc pn' E') be (tb Ex))(hh:∀a E',PSs (X.marked a E') (b₀::eP) th)(a8:qk Dn:=by decide) :
  PS X (.Try be [.ExceptHandler (some (.Name Dn np)) (some n) (b₀::eP) du] [] [] pos) (ab7 X.K D i tb th):=by
 intro aa s σ H R I h;obtain⟨Ex,h1,h2⟩:=h;refine wpAny_Try_except ?_;have gx:∀{Y:Cx}{pn:Γ}{f:Flow}{s':Shared},(∀{σ':L2.St}{H':Hp},Inv Y pn σ' H' s'->Inv X aa σ' H' s')->SP Y pn R f s'->SP X aa R f s':=λ{Y pn f s'}k q=>by
  cases f with
  |next=>obtain⟨σ',H',J,z⟩:=q;exact⟨σ',H',k J,z⟩
  |brk=>obtain⟨σ',H',J,z⟩:=q;exact⟨σ',H',k J,z⟩
  |cont=>obtain⟨σ',H',J,z⟩:=q;exact⟨σ',H',k J,z⟩
  |ret u=>obtain⟨v,σ',H',J,z⟩:=q;exact⟨v,σ',H',k J,z⟩
 refine wpAny_mono (hb (X.pn++aa) _ Ex ?_ [] s σ H R I.tryc h1) (λf s1 q=>?_) λ_ _ z=>z
 rotate_left
 .have q':=gx (λJ=>J.untry) q;cases f with
  |next=>exact wpAny_execs_nil q'
  |brk=>exact q'
  |cont=>exact q'
  |ret u=>exact q'
 intro cb σ1 H1 s1 a C' H' s' B d J F ex;have J0:Inv X aa σ1 H1 s1:=J.untry;obtain⟨C,rfl,qS,k⟩:=h2 C' d σ1 H' ex;have F0:Fly X.prog X.w X.stack H1 s1 a (.ref C) H' s' B d:=F;have fl0:qN B (X.env::X.outer) a (.ref C) d .none s'.heap:=by rw[<- az];exact F0.fl
 show wpAny _ _ (noteFrame (.ref a) X.env) _ _ _;refine Ep (outer:=X.outer) (L:=X.env.locals) (I.ok.frames.trans (by rw[az])) b8 fl0 λh₄ gm sm₄=>?_;refine P_ gm λh₅ l0 sm₅=>?_;have J5:Inv X aa σ1 H' { s' with heap:=h₅ }:=J0.flown F0 l0.1 (sm₄.trans sm₅);obtain⟨oe,vs,he,dS,_,hd⟩:=l0.first;refine wpAny_handleBy_cons (codeAny_handlers_test ?_) (by intro q;cases q);refine nM (X:=X.marked a (λ_ _=>False)) J5.marked ik ib ?_ a8;refine Ln (K:=X.K) J5.kIn qD fh he dS qS ?_;show codeAny _ _ _ _ _;refine codeAny_handlers_suite_as ?_;refine P_ l0 λh₆ fl₆ sm₆=>?_;have J6:Inv X aa σ1 H' { s' with heap:=h₆ }:=J0.flown F0 fl₆.1 ((sm₄.trans sm₅).trans sm₆);obtain⟨oe6,vs6,jp,iF,hda,lc⟩:=fl₆.first;have na:H' a=none:=by
  cases q:H' a with
  |none=>rfl
  |some u =>
   obtain⟨o',e'⟩:=(F0.hok a u q).there;have y:=F0.trk q e';rw[F0.fl.2.1]at y;cases y
 have ns:X.s₀.heap.get? a=none:=by
  cases q:X.s₀.heap.get? a with
  |none=>rfl
  |some o =>
   obtain⟨⟨u,z⟩,_⟩:=J0.old iq q;rw[F0.new]at z;cases z
 have nL:a≠X.env.locals:=λz=>by
  obtain⟨m,⟨o,es,ep,e,dd,_⟩,_⟩:=J6.loc;rw[<- z]at e;have e':h₆.get? a=some o:=e;rw[jp]at e';cases e';rw[lc]at dd;cases dd
 have nC:∀x c,X.env.cells.lookup x=some c->c≠a:=λx c e z=>by
  obtain⟨v,o,e',dd⟩:=J6.cell x c e;rw[z]at e';have e2:h₆.get? a=some o:=e';rw[jp]at e2;cases e2;rw[lc]at dd;cases dd
 have nP:∀p∈X.pn++aa,p.1≠a:=λp hp z=>by
  have:=(J0.pin p hp).1;rw[z,F0.new]at this;cases this
 have okx:dW X.prog X.w (upd H' a (XO a C d)) h₆ a (XO a C d):=⟨⟨oe6,jp,iF,hda,vs6,lc⟩,⟨oe6,jp⟩,λg1 g2 ⟨o,e1,e2⟩ kk=>⟨o,kk o e1,e2⟩⟩;have J7:Inv X aa σ1 (upd H' a (XO a C d)) { s' with heap:=h₆ }:=J6.track na ns nL nC nP okx;refine sU (X:=X.marked a (λ_ _=>False)) J7.marked hN hi (.inl db) (v:=.ref a) rfl (λs8 J8=>?_) (.inr db);have J8':Inv X aa (σ1.set i (some (.ref a))) (upd H' a (XO a C d)) s8:=J8.unmarked I.ok;refine wpAny_mono (hh a _ aa s8 _ _ _ J8'.marked (k a na)) (λf s9 q=>?_) λ_ _ z=>z;cases f with
 |next =>
  obtain⟨σ',H2,J9,z⟩:=q;exact(J9.unmarked I.ok).unname hN hi db λg6 gz=>⟨_,_,gz,z⟩
 |brk =>
  obtain⟨σ',H2,J9,z⟩:=q;exact(J9.unmarked I.ok).unname hN hi db λg6 gz=>⟨_,_,gz,z⟩
 |cont =>
  obtain⟨σ',H2,J9,z⟩:=q;exact(J9.unmarked I.ok).unname hN hi db λg6 gz=>⟨_,_,gz,z⟩
 |ret u =>
  obtain⟨v,σ',H2,J9,rv,z⟩:=q;exact(J9.unmarked I.ok).unname hN hi db λg6 gz=>⟨v,_,_,gz,rv,z⟩
end
structure rQ(K:Frag)(C:Addr):Prop where
 ga:findIn K (.ref C) "__getattribute__"=some (some (.builtin "BaseException.__getattribute__"))
 gn:findIn K (.ref C) "__getattr__"=some none
 cl:findIn K (.ref C) "__class__"=some (some (.builtin "object.__class__"))
 mo:mroIn K C (.type "object")=some true
 mb:mroIn K C (.type "BaseException")=some true
section
variable{prog:Program}{w:World}{A:Around}{E:Ξ}{h:Heap}{g:Array GenState}{d:Drawn}{t:Nat}{os:OsState}{a C:Addr}{o:Obj}{K:Frag}
theorem iV{M:Model}(hx:h.get? a=some o)(hc:o.cls=.ref C):PySem.W.Looks M h (typeOf (.ref a)) (.ref C):=by
 intro A' Q' E' s' k q;rw[<- hc]at q;unfold typeOf;exact ZU (wpAny_loadPart (k _ _ hx) (ZT q))
theorem DY{R:Result->Shared->Prop}(X:K.In h)(T:rQ K C)(hx:h.get? a=some o)(hc:o.cls=.ref C)(hq:R (.ok (.ret (.ref C))) ⟨h,g,d,t,os⟩) :
  codeAny (model prog w) A (.call (.builtin "getset_descriptor.__get__") ⟨[.builtin "object.__class__",.ref a,.ref C],[]⟩) R ⟨h,g,d,t,os⟩:=by
 have hT5:(⟨h,g,d,t,os⟩ : Shared).TypeIs (.builtin "object.__class__") "getset_descriptor":=F.typeOf_object_class;have LT:=iV (M:=model prog w) hx hc;have LO:PySem.W.Looks (model prog w) h (isSubtype (.ref C) (.type (".".intercalate ("object.__class__".cutAt '.').dropLast))) true:=by
  rw[F.owner_object_class];exact looks_mroIn X T.mo
 refine codeAny_call_builtin F.slot_gs_get.plain F.entry_gs_get (F.slot_gs_get.check _ _ _ _ _ _ _ _ hT5 (F.args_gs_get _ _ _) ?_)
 repeat (any_goals (first|assumption|with_reducible refine LT.at ?_|with_reducible refine LO.at ?_|(with_reducible refine wpAny_loadPart_at hx ?_;rw[hc])|wp_step))
 refine⟨Code.quiet_builtin _ (by decide +kernel),codeAny_builtin F.entry_object_class ?_⟩
 repeat (any_goals (first|assumption|with_reducible refine LT.at ?_|(with_reducible refine wpAny_loadPart_at hx ?_;rw[hc])|wp_step))
theorem yZ{tk:Tok}{Q:Fin->Shared->Prop}(X:K.In h)(T:rQ K C)(hx:h.get? a=some o)(hc:o.cls=.ref C)(hq:Q (.done (.ret (.ref C))) ⟨h,g,d,t,os⟩) :
  wpAny (model prog w) A (Builtin.«object.__getattribute__» ⟨[.ref a,.str "__class__" tk],[]⟩) Q E ⟨h,g,d,t,os⟩:=by
 have hT5:(⟨h,g,d,t,os⟩ : Shared).TypeIs (.builtin "object.__class__") "getset_descriptor":=F.typeOf_object_class;have f5:=F.typeOf_object_class;have f6:=F.slot_gs_get.lookup;have f7:=F.slot_gs_set.lookup;have LT:=iV (M:=model prog w) hx hc;have LC:=looks_findIn (M:=model prog w) X T.cl
 repeat (any_goals (first|assumption|with_reducible refine LT.at ?_|with_reducible refine LC.at ?_|(with_reducible refine wpAny_loadPart_at hx ?_;rw[hc])|wp_step))
 refine DY X T hx hc ?_
 repeat (any_goals (first|assumption|wp_step))
theorem vf{M:Model}{eQ:Value}{Q:Unit->Shared->Prop}(X:K.In h)(T:rQ K C)(hx:h.get? a=some o)(hc:o.cls=.ref C)(hq:Q () ⟨h,g,d,t,os⟩) :
  wpAny M A (checkBuiltinCall "BaseException.__getattribute__" ⟨[.ref a,eQ],[]⟩) Q E ⟨h,g,d,t,os⟩:=by
 have hk:builtinKind "BaseException.__getattribute__"=some .slot:=by decide +kernel
 have f':splitId "BaseException.__getattribute__"=some ("BaseException","__getattribute__"):=by decide +kernel
 have ha:=F.args_bexc_ga (.ref a) eQ;have LT:=iV (M:=M) hx hc;have LB:=looks_mroIn (M:=M) X T.mb;simp only[checkBuiltinCall,hk,f'];refine ZU ?_;unfold isInstance
 repeat (first|with_reducible refine LT.at ?_|with_reducible refine LB.at ?_|(with_reducible refine wpAny_loadPart_at hx ?_;rw[hc])|wp_step)
 exact hq
theorem Gn{tk:Tok}{Q:Ξ}(X:K.In h)(T:rQ K C)(hx:h.get? a=some o)(hc:o.cls=.ref C)(hq:Q (.ref C) ⟨h,g,d,t,os⟩) :
  wpAny (model prog w) A (getAttrBy (.ref a) (.str "__class__" tk) false) Q E ⟨h,g,d,t,os⟩:=by
 have f3:=F.excAttr_ValueError.ga.bind (.ref a);have hx2:(Value.builtin "BaseException.__getattribute__"== Value.builtin "object.__getattribute__")=false:=by decide +kernel
 have ky:(onTheHeap (Value.ref C)&&Value.builtin "BaseException.__getattribute__"== Value.builtin "object.__getattribute__")=false:=by rw[hx2];exact Bool.and_false _
 have LT:=iV (M:=model prog w) hx hc;have LG:=looks_findIn (M:=model prog w) X T.ga;have LN:=looks_findIn (M:=model prog w) X T.gn
 repeat (any_goals (first|assumption|with_reducible refine LT.at ?_|with_reducible refine LG.at ?_|with_reducible refine LN.at ?_|(with_reducible refine wpAny_loadPart_at hx ?_;rw[hc])|wp_step))
 refine codeAny_call_builtin F.excAttr_ValueError.ga.plain F.entry_bexc_ga (vf X T hx hc (yZ X T hx hc ?_))
 repeat (any_goals (first|assumption|wp_step))
theorem CZ{Q:Ψ->Shared->Prop}(X:K.In h)(T:rQ K C)(hx:h.get? a=some o)(hc:o.cls=.ref C)(hq:Q (some (.ref C)) ⟨h,g,d,t+1,os⟩) :
  wpAny (model prog w) A (getAttr? (.ref a) "__class__") Q E ⟨h,g,d,t,os⟩:=by
 unfold getAttr? getAttrBy?
 repeat (any_goals (first|assumption|with_reducible apply Gn X T hx hc|wp_step))
end
def tZ(cells:List (Str×Addr)):List (Str×NameKind)->List (Str×Addr)->List (Str×Addr)
 |[],acc=>acc
 |(n,k)::r,acc=>tZ cells r (if k == .free then(n,(cells.lookup n).getD 0)::acc else acc)
theorem MJ{scope:Scope}{env:Env}(h:∀y∈scope.names,y.2=.free->∃c,env.cells.lookup y.1=some c):closureFor scope env=pure (tZ env.cells scope.names []):=by
 unfold closureFor;have go:∀(l:List (Str×NameKind))(acc:List (Str×Addr)),(∀y∈l,y.2=.free->∃c,env.cells.lookup y.1=some c) ->
   (forIn l acc (λ(x:Str×NameKind)(r:List (Str×Addr))=>if(x.2==NameKind.free)=true then(do let a <- cellOf env x.1;pure (ForInStep.yield ((x.1,a)::r)))else pure (ForInStep.yield r)):Sem (List (Str×Addr)))=pure (tZ env.cells l acc):=by
  intro l
  induction l with
  |nil=>intro acc _;rfl
  |cons y r ih =>
   intro acc hy;obtain⟨n,k⟩:=y;rw[List.forIn_cons];by_cases hk:k=.free
   .subst hk;obtain⟨c,hc⟩:=hy (n,.free) aO rfl;have e1:cellOf env n=pure c:=by unfold cellOf;rw[show env.cells.lookup n=some c from hc]
    simp only[beq_self_eq_true,if_true,e1,pure_bind];rw[ih _ λz hz=>hy z (aH _ hz)];show pure _=pure (tZ env.cells r (if(NameKind.free==NameKind.free)=true then(n,(env.cells.lookup n).getD 0)::acc else acc));rw[show env.cells.lookup n=some c from hc]
    rfl
   .have hb:(k==NameKind.free)=false:=by simpa using hk
    simp only[hb,XY,if_false,pure_bind];rw[ih _ λz hz=>hy z (aH _ hz)];show pure _=pure (tZ env.cells r (if(k==NameKind.free)=true then(n,(env.cells.lookup n).getD 0)::acc else acc));rw[hb]
    rfl
 have e:=go scope.names [] h;show(forIn scope.names [] (λ(x:Str×NameKind)(r:List (Str×Addr))=>if(x.2==NameKind.free)=true then(do let a <- cellOf env x.1;pure (ForInStep.yield ((x.1,a)::r)))else pure (ForInStep.yield r)):Sem (List (Str×Addr))) >>= (λcs=>pure cs)=_;rw[e]
 rfl
theorem JX{cells:List (Str×Addr)} : ∀{names:List (Str×NameKind)}{acc:List (Str×Addr)}{x:Str}{c:Addr},(∀y∈names,y.2=.free->∃c,cells.lookup y.1=some c)->(x,c)∈tZ cells names acc->(x,c)∈acc\/cells.lookup x=some c
 |[],_,_,_,_,h=>.inl h
 |(n,k)::r,acc,x,c,hf,h=>by
  unfold tZ at h;rcases JX (λy hy=>hf y (aH _ hy)) h with z|z
  .by_cases hk:k=.free
   .subst hk;simp only[beq_self_eq_true,if_true]at z;rcases YU.mp z with e|e
    .obtain⟨c',eK⟩:=hf (n,.free) aO rfl;cases e;rw[show cells.lookup n=some c' from eK];exact .inr rfl
    .exact .inl e
   .have hb:(k==NameKind.free)=false:=by simpa using hk
    simp only[hb,XY,if_false]at z;exact .inl z
  .exact .inr z
theorem Ka{cells:List (Str×Addr)} : ∀{names:List (Str×NameKind)}{acc:List (Str×Addr)}{x:Str},((x,NameKind.free)∈names\/∃c,(x,c)∈acc)->∃c,(x,c)∈tZ cells names acc
 |[],_,_,h=>by
  rcases h with h|h
  .cases h
  .exact h
 |(n,k)::r,acc,x,h=>by
  unfold tZ;refine Ka ?_;rcases h with h|⟨c,h⟩
  .rcases YU.mp h with e|e
   .cases e;exact .inr ⟨_,by simp only[beq_self_eq_true,if_true];exact aO⟩
   .exact .inl e
  .refine .inr ⟨c,?_⟩;split
   .exact aH _ h
   .exact h
theorem mj{α:Type}{x:Str}{c:α} : ∀{l:List (Str×α)},(x,c)∈l->∃c',l.lookup x=some c'
 |(y,d)::r,h=>by
  rw[List.lookup_cons];cases hb:x==y with
  |true=>exact⟨d,rfl⟩
  |false =>
   rcases YU.mp h with e|e
   .cases e;simp at hb
   .exact mj e
section
variable{X:Cx}{a9 iter:Expr}{x:Str}{px pos:Pos}{scope:Scope}{wi:TI}{te:TE}
theorem Inv.nostk'{aa:Γ}{σ:L2.St}{H:Hp}{s:Shared}(I:Inv X aa σ H s){b:Addr}(h1:b≠X.env.locals)(h2:b∉X.fs):b∉frs X.stack:=λz=>by
 rcases YU.mp (I.stkSub b z)with e|e
 .exact h1 e
 .exact h2 e
theorem vX{env:Env} : ∀{names:List (Str×NameKind)}{y:Str},(names.map λ(n,k)=>if(k==NameKind.free&&env.scope.kind == .function&&env.kindOf n==some .cell)then(n,NameKind.cell)else(n,k)).lookup y=some .cell \/
  (names.map λ(n,k)=>if(k==NameKind.free&&env.scope.kind == .function&&env.kindOf n==some .cell)then(n,NameKind.cell)else(n,k)).lookup y=some .free->(∀z∈names,z.2≠.cell)->(y,NameKind.free)∈names
 |[],y,h,_=>by rcases h with h|h<;>cases h
 |(n,k)::r,y,h,hc=>by
  have ih:=@vX env r y;simp only[List.map_cons]at h;by_cases hcond:(k==NameKind.free&&env.scope.kind == .function&&env.kindOf n==some .cell)=true
  .rw[ZY hcond]at h;simp only[List.lookup_cons]at h;cases hb:y==n with
   |true =>
    have hk:k=.free:=by
     simp only[UV,beq_iff_eq]at hcond;exact hcond.1.1
    have:y=n:=by simpa using hb
    subst this hk;exact aO
   |false =>
    rw[hb]at h;exact aH _ (ih h λz hz=>hc z (aH _ hz))
  .rw[ZZ hcond]at h;simp only[List.lookup_cons]at h;cases hb:y==n with
   |true =>
    rw[hb]at h;have:y=n:=by simpa using hb
    subst this;rcases h with h|h
    .exact absurd (Option.some.inj h) (hc (y,k) aO)
    .have:k=.free:=Option.some.inj h;subst this;exact aO
   |false =>
    rw[hb]at h;exact aH _ (ih h λz hz=>hc z (aH _ hz))
end
section
variable{X:Cx}
theorem Tr{K:Frag}{a C:Addr}(T:rQ K C):KitX K (.ref a) (.ref C) (λh=>∃o,h.get? a=some o/\o.cls=.ref C) where
 ty:=λM h _ hP=>by obtain⟨o,e,c⟩:=hP;exact iV e c
 it:=λM h Y _=>by
  obtain⟨cdD,cw,_⟩:=Option.bind_eq_some_iff.mp T.mo;unfold clsIn at cw;split at cw
  .rename_i c' d' cd' fo ho
   intro A' Q' E' s' k q;unfold isType loadHead;exact ZU (wpAny_loadPart (k _ _ (Y _ _ ho)) (ZT q))
  .cases cw
 ne:=λh tp dd its n sl Y htp=>by
  obtain⟨cdD,cw,_⟩:=Option.bind_eq_some_iff.mp T.mo;refine Bool.eq_false_iff.mpr λq=>?_;have e:C=tp:=Value.ref.inj (beq_iff_eq.mp q);subst e;unfold clsIn at cw;split at cw
  .rename_i c' d' cd' fo ho
   have z:=(Y _ _ ho).symm.trans htp;cases z
  .cases cw
 ca:=λ{prog w A E Q s}Y ⟨o,e,c⟩ k=>by
  obtain⟨h,g,d,t,os⟩:=s;exact CZ Y T e c k
def Zq(K:Frag):Β->Hp->VK->Prop:=λxs H Q=>∃a C d c cv b,xs=[.ref a,c]/\H a=some (XO a C d)/\((∃T,c=.ty T/\cv=Value.type T)\/∃D,c=.ref D/\cv=Value.ref D)/\rQ K C/\kitOne K (.ref C) cv=some b/\Q (.bl b) H
theorem Ga:g_ X (.builtin "isinstance") (Zq X.K):=by
 intro aa s σ H xs us Q I r h;obtain⟨a,C,d,c,cv,b,rfl,ha,rc,T,e,q⟩:=h;obtain⟨u,v,rfl,ru,rv⟩:=r.two;cases ru;have e2:v=cv:=by
  rcases rc with⟨T,rfl,rfl⟩|⟨T,rfl,rfl⟩
  .exact rv
  .exact rv
 subst e2;obtain⟨⟨o,e1,e2,_⟩,_⟩:=I.hok a _ ha;exact kia_one (Tr T) I.kIn ⟨o,e1,e2⟩ e (λz=>nomatch z) λtk=>⟨.bl b,H,I.tok _,rfl,q⟩
def eqF:Β->Β->Bool
 |[],[]=>true
 |x::xs,y::ys=>eqV x y&&eqF xs ys
 |_,_=>false
theorem Inv.tupIs{aa:Γ}{σ:L2.St}{H:Hp}{s:Shared}{a:Addr}{xs:Β}(I:Inv X aa σ H s)(h:H a=some (.tup xs)):∃its,Vals xs its/\IsTup s.heap a its.toArray/\s.heap.IsTuple a its.toArray:=by
 obtain⟨its,rv,ht,_⟩:=I.tuple (SqT.of h);exact⟨its,rv,ht,ht⟩
theorem Inv.lstIs{aa:Γ}{σ:L2.St}{H:Hp}{s:Shared}{a:Addr}{xs:Β}(I:Inv X aa σ H s)(h:H a=some (.lst xs)):∃its,Vals xs its/\s.heap.IsList a its.toArray:=by
 obtain⟨its,rv,ht,_⟩:=I.list (SqL.of h);exact⟨its,rv,ht.isList⟩
end
open PySem.SeqAt in
section
variable{X:Cx}
structure PSB(X:Cx)(st:Stmt)(t:TS):Prop where
 out:PS X st t
structure Wy(X:Cx)(b:List Stmt)(t:TS):Prop where
 out:PSs X b t
theorem Fb{st:Stmt}{rest:List Stmt}{t u:TS}(h1:PSB X st t)(h2:Wy X rest u):Wy X (st::rest) (Yw t u):=⟨zY h1.out h2.out⟩
end
section
variable{P:Program}{w:World}{K:Frag}{mg:Str->Ψ}{base:Heap}
theorem Fun.okB{x af:Str}{st:Stmt}{f:Addr}{fd:FuncData}{N ps:Θ}{k:Nat}{sp:Sp}(F:Fun K x af st f fd)(S:bH N ps (bC st))(len:∀vs H Q E,sp vs H Q E->vs.length=ps.length)
 (a7:∀(ah:Value)(A:Around)(outer:List Env)(s:Shared)(H:Hp)(vs:Β)(Q:VK)(E:XK),dg k (A.deeper (envOfC af (bC st) s.heap.objs.size f ah))->sp vs H Q E ->
   ∃t,Wy (yq CX0 P w K mg base N af (bC st) f ah A outer s H E).nox (eG st) t/\t { nx:=λ_ H'=>Q .non H',rt:=Q } (L2.start N vs) H):dO P w K mg base CX0 (k+1) f fd ps sp :=
 F.ok S len λah A outer s H vs Q E hr c9=>let⟨t,h1,h2⟩:=a7 ah A outer s H vs Q E hr c9;⟨t,h1.out,h2⟩
end
mutual
inductive Shows(H:Hp):V->PyData->Prop
 |non:Shows H .non .none
 |bl (b:Bool):Shows H (.bl b) (.bool b)
 |int (i:Int):Shows H (.int i) (.int i)
 |str (x:Str):Shows H (.str x) (.str x)
 |lst {a:Addr}{xs:Β}{ds:List PyData} : H a=some (.lst xs)->fD H xs ds->Shows H (.ref a) (.list ds)
 |tup {a:Addr}{xs:Β}{ds:List PyData} : H a=some (.tup xs)->fD H xs ds->Shows H (.ref a) (.tuple ds)
inductive fD(H:Hp):Β->List PyData->Prop
 |nil:fD H [] []
 |cons {x:V}{xs:Β}{d:PyData}{ds:List PyData} : Shows H x d->fD H xs ds->fD H (x::xs) (d::ds)
end
mutual
theorem Shows.same{H H':Hp}(S:Same H H'){x:V}{d:PyData}(h:Shows H x d):Shows H' x d:=by
 cases h with
 |non|bl|int|str=>constructor
 |lst e h=>exact .lst (S _ _ e) (fD.same S h)
 |tup e h=>exact .tup (S _ _ e) (fD.same S h)
theorem fD.same{H H':Hp}(S:Same H H'){xs:Β}{ds:List PyData}(h:fD H xs ds):fD H' xs ds:=by
 cases h with
 |nil=>exact .nil
 |cons h t=>exact .cons (Shows.same S h) (fD.same S t)
end
theorem fD.ints(H:Hp):∀ns:List Int,fD H (ns.map V.int) (ns.map PyData.int)
 |[]=>.nil
 |n::ns=>.cons (.int n) (fD.ints H ns)
section
variable{X:Cx}{aa:Γ}{σ:L2.St}{H:Hp}{s:Shared}
mutual
theorem Inv.reads(I:Inv X aa σ H s){x:V}{d:PyData}{v:Value}(h:Shows H x d)(r:RelV x v):∃as,Reads s.heap v d as:=by
 cases h with
 |non=>cases r;exact⟨_,.none⟩
 |bl b=>cases r;exact⟨_,.bool b⟩
 |int i=>obtain⟨t,rfl⟩:=r;exact⟨_,.int i t⟩
 |str x=>obtain⟨t,rfl⟩:=r;exact⟨_,.str x t⟩
 |lst e h =>
  cases r;obtain⟨its,rv,⟨o,ho,hc,n,hd⟩⟩:=I.lstIs e;obtain⟨as,q⟩:=Inv.readsAll I h rv;exact⟨_,.list ho hc hd q⟩
 |tup e h =>
  cases r;obtain⟨its,rv,_,⟨o,ho,hc,n,hd⟩⟩:=I.tupIs e;obtain⟨as,q⟩:=Inv.readsAll I h rv;exact⟨_,.tuple ho hc hd q⟩
theorem Inv.readsAll(I:Inv X aa σ H s){xs:Β}{ds:List PyData}{vs:Δ}(h:fD H xs ds)(r:Vals xs vs):∃as,ReadsAll s.heap vs ds as:=by
 cases h with
 |nil=>cases r;exact⟨_,.nil⟩
 |cons h t =>
  cases r with
  |cons r1 r2 =>
   obtain⟨a,q1⟩:=Inv.reads I h r1;obtain⟨b,q2⟩:=Inv.readsAll I t r2;exact⟨_,.cons q1 q2⟩
end
def aeJ:Β->Hp->VK->Prop:=λxs H Q=>∃(l:Addr)(ns:List Int),xs=[.ref l]/\H l=some (.lst (ns.map V.int))/\Q (.int ns.sum) H
theorem Q_(hc:X.calm=true):g_ X (.builtin "sum") aeJ:=by
 intro aa s σ H xs us Q I r h;obtain⟨l,ns,rfl,hl,q⟩:=h;obtain⟨u,rfl,ru⟩:=r.one;cases ru;obtain⟨its,rv,p⟩:=I.lstIs hl;have hI:=intsAre_of rv;obtain⟨xs,e⟩:=hI.allInts.items;have hn:=hI.numsOf;rw[show its=its.toArray.toList from rfl,e,nums_intItems]at hn;rw[e]at p;refine sum_intListG (I.ok.hd hc) p λh' tk t' k=>⟨.int ns.sum,H,I.kept k,?_,q⟩;rw[preSum_eq,aK (by simp),hn];exact⟨_,rfl⟩
end
section
variable{X:Cx}
def tM(t:TE):TE:=λσ H Q=>∃R:VK,t σ H R/\∀x H',R x H'->Q x H'
def tMA(t:TA):TA:=λσ H Q=>∃R:Β->Hp->Prop,t σ H R/\∀x H',R x H'->Q x H'
theorem PE.mono{a:Expr}{t:TE}(h:PE X a t):PE X a (tM t):=λaa s σ H Q I ⟨R,h1,h2⟩ =>
 thn (h aa s σ H R I h1) λv s' hP=>by obtain⟨x,H',I',r,q⟩:=hP;exact⟨x,H',I',r,h2 x H' q⟩
theorem PA.mono{es:List Expr}{t:TA}(h:PA X es t):PA X es (tMA t):=λpos aa s σ H Q I ⟨R,h1,h2⟩ =>
 thn (h pos aa s σ H R I h1) λv s' hP=>by obtain⟨x,H',I',r,q⟩:=hP;exact⟨x,H',I',r,h2 x H' q⟩
theorem PE.imp{a:Expr}{t t':TE}(h:PE X a t)(i:∀σ H Q,t' σ H Q->t σ H Q):PE X a t':=λaa s σ H Q I q=>h aa s σ H Q I (i σ H Q q)
theorem Zt{t:TE}{σ:L2.St}{H:Hp}{Q:VK}(h:t σ H Q):tM t σ H Q:=⟨Q,h,λ_ _ q=>q⟩
def aaG(to:TE)(t:TA):TE:=λσ H Q=>to σ H λx H1=>∃l xs,x=.ref l/\H1 l=some (.lst xs)/\t σ H1 λvs H2=>∃y ys,vs=[y]/\H2 l=some (.lst ys)/\ys.length<sizeLine/\Q .non (upd H2 l (.lst (ys++[y])))
abbrev qr(X:Cx)(a:Pos)(e:Expr):Prop:=((backTo a (starEach [e] X.env)).all (λx=>!x.1)&&(backToKw a (keywordEach [] X.env)).all (λx=>x.1.isSome)&&decide ([e].length+([] : List Keyword).length+(if([] : List Keyword).isEmpty then 0 else 1)<30))=true
theorem Gp{o e:Expr}{to:TE}{t:TA}{ac ae:Pos}(ho:PE X o to)(ha:PA X [e] t)(hb:attributeBase o "append" X.env (eval o X.env)=eval o X.env:=by rfl)
 (hf:qr X ae e:=by rfl)
 (hl:zw ac ae:=by rfl)(hs:qo X e []:=by rfl)(hp:qh X ae []:=by rfl) :
  PE X (.Call (.Attribute o "append" ac) [e] [] ae) (aaG to t):=by
 refine(UL PySem.F.plainAttrs_list PySem.F.slot_list_append PySem.F.type_list_append Eu ho.mono ha.mono hb hf hl hs hp).imp λσ H Q h=>?_;refine⟨_,h,?_⟩;rintro x H1 ⟨l,xs,rfl,hx,h2⟩;refine⟨.inl ⟨rfl,_,SqL.of hx⟩,_,h2,?_⟩;rintro vs H2 ⟨y,ys,rfl,hy,hz,q⟩;exact⟨l,ys,y,rfl,rfl,hy,hz,q⟩
def adK(to:TE):TE:=λσ H Q=>to σ H λx H1=>∃l xs,x=.ref l/\H1 l=some (.lst xs)/\Q .non (upd H1 l (.lst []))
theorem ab2{o:Expr}{to:TE}{ac ae:Pos}(ho:PE X o to)(hb:attributeBase o "clear" X.env (eval o X.env)=eval o X.env:=by rfl)(hl:zw ac ae:=by rfl) :
  PE X (.Call (.Attribute o "clear" ac) [] [] ae) (adK to):=by
 refine(ZP PySem.F.plainAttrs_list PySem.F.slot_list_clear PySem.F.type_list_clear Wo ho.mono hb hl).imp λσ H Q h=>?_;refine⟨_,h,?_⟩;rintro x H1 ⟨l,xs,rfl,hx,q⟩;exact⟨.inl ⟨rfl,_,SqL.of hx⟩,l,xs,rfl,rfl,hx,q⟩
def aar:Β->Hp->VK->Prop:=λxs H Q=>∃p ys,xs=[.ref p]/\H p=some (.lst ys)/\∀l,H l=none->Q (.ref l) (upd H l (.lst ys))
theorem Nx:g_ X (.type "list") aar:=vZ.imp λxs H Q hP=>by obtain⟨p,ys,a,b,c⟩:=hP;exact⟨p,ys,a,.inl (.of b),c⟩
end
mutual
theorem N_:∀ns:List Int,PyData.canLayAll0 (ns.map PyData.int)=true
 |[]=>rfl
 |n::ns=>by
  rw[List.map_cons];unfold PyData.canLayAll0;rw[N_ ns];rfl
end
def frD(f:Int×Int):PyData:=.tuple [.int f.1,.int f.2]
inductive FL(H:Hp):Β->List (Int×Int)->Prop
 |nil:FL H [] []
 |cons {p:Addr}{f:Int×Int}{xs:Β}{fs:List (Int×Int)} : H p=some (.tup [.int f.1,.int f.2])->FL H xs fs->FL H (.ref p::xs) (f::fs)
def Its(x:Str):It:=⟨λi _=>i<x.cps.size,λi H v H'=>H'=H/\∃c,x.cps[i]?=some c/\v=.str ⟨#[c]⟩,λi _=>i=x.cps.size⟩
theorem JV{P:Program}{w:World}{K:Frag}{tg:Expr}(it:Addr)(x:Str)(t:Tok)(ty:String)(fS : ["enumerate","zip","dict_itemiterator","dict_reverseitemiterator","odict_iterator","itertools.zip_longest","itertools.pairwise"].contains ty=false)
 (W:∀A:Around,A.handled=none->Walks P w A it [it] [it] x.cps.size (SignAt x) (λi h=>h.IsStrIter it ty x t i))
 (h7:∀(A:Around)(i:Nat)(s:Shared)(Q:Ξ)(E:Ξ),s.heap.IsStrIter it ty x t i->Q (.ref it) s->wpAny (model P w) A (pyIter (.ref it)) Q E s):Turn P w K tg (Its x) [it] it (λi h=>h.IsStrIter it ty x t i) where
 mem:=by simp
 obj:=λi h st b hb=>by
  have e:b=it:=by simpa using hb
  subst e;obtain⟨o,ho,_,hd⟩:=st;exact⟨o,ho,λv z=>by rw[hd]at z;cases z⟩
 keep:=λi h h' st k=>let⟨o,ho,r⟩:=st;⟨o,k it (by simp) o ho,r⟩
 item:=by
  intro X hP hw hK hc i aa s σ H E I hf st hg;subst hP hw hK;obtain⟨f0,f1,f2,f3,f4,f5⟩:=hf it (by simp);refine(W X.A (I.ok.hd hc)).item i s _ _ hg st λv h' tk hv df kk=>?_;obtain⟨c,u,hx,rfl⟩:=hv;have I1:Inv X aa σ H { s with heap:=h',toks:=tk }:=I.turned (λb o hb e=>kk b o (by simpa using hb) e) f0 f1 f3 f4 f5;obtain⟨o,ho,iL,hd⟩:=id df;exact⟨_,rfl,PJ (s:={ s with heap:=h',toks:=tk }) ho iL hd fS ⟨.str ⟨#[c]⟩,H,I1,⟨u,rfl⟩,⟨rfl,c,hx,rfl⟩,df,λb hb=>(hf b hb).1⟩⟩
 done:=by
  intro X hP hw hK hc i aa s σ H E I hf st hg;subst hP hw hK;obtain⟨f0,f1,f2,f3,f4,f5⟩:=hf it (by simp);have kR:i=x.cps.size:=hg;subst kR;exact(W X.A (I.ok.hd hc)).done s _ _ st λh' tk kk=>⟨rfl,I.turned (λb o hb e=>kk b o (by simpa using hb) e) f0 f1 f3 f4 f5⟩
 self:=h7
section
variable{X:Cx}{tg:Expr}
def af8(te:TE):TI:=λσ H R=>te σ H λv H1=>∃x,v=.str x/\R (Its x) H1
theorem abY{l:Expr}{tl:TE}(hl:PE X l tl):PI X tg l (af8 tl):=by
 intro aa s σ H R I h;refine thn (hl aa s σ H _ I h) λv s1 hP=>?_;obtain⟨x,H1,I1,r1,y,ey,q⟩:=hP;subst ey;obtain⟨t,rfl⟩:=r1;have fp:∀b∈[s1.heap.objs.size],Bl X aa H1 b:=λb hb=>by
  have e:b=s1.heap.objs.size:=by simpa using hb
  subst e;exact I1.fpOk (aF _) (I1.hok.fresh (aF _))
 have k:∀o:Obj,Inv X aa σ H1 { s1 with heap:=s1.heap.push o }:=λo=>I1.kept (t':=s1.toks) λb ob z=>aG _ z;cases ha:y.cps.all (· < 128)
 .exact wpAny_pyIter_wide ha ⟨s1.heap.objs.size,[s1.heap.objs.size],_,Its y,H1,rfl,k _,JV _ y t "str_iterator" (by decide) (λA hA=>Walks.strWide hA _ y t) (λA i s Q E st h=>wpAny_pyIter_striter_wide st h),⟨_,aW _ rfl,rfl,rfl⟩,fp,q⟩
 .exact wpAny_pyIter_ascii ha ⟨s1.heap.objs.size,[s1.heap.objs.size],_,Its y,H1,rfl,k _,JV _ y t "str_ascii_iterator" (by decide) (λA hA=>Walks.strAscii hA _ y t) (λA i s Q E st h=>wpAny_pyIter_striter_ascii st h),⟨_,aW _ rfl,rfl,rfl⟩,fp,q⟩
end
def jd(x:Str)(lo hi:Option Int):Str:=⟨((x.cps.toList.drop (HT.sIx x.length 0 lo)).take (HT.sIx x.length x.length hi-HT.sIx x.length 0 lo)).toArray⟩
theorem strIdx(lo hi:Option Int)(n:Nat):Builtin.Str.strSliceIndices lo hi 1 n=(List.range (HT.sIx n n hi-HT.sIx n 0 lo)).map (HT.sIx n 0 lo + ·):=by
 rw[<- sliceRange_one];unfold Builtin.Str.strSliceIndices;have h1:∀(o:Option Int)(d:Nat),d<=n->(match o with
   |none=>(d:Int)
   |some i=>(let i:=if i<0 then i+(n:Int)else i;if(1:Int)>0 then max 0 (min i n)else max (-1) (min i (n-1))))=((HT.sIx n d o:Nat):Int):=by
  intro o d hd;cases o with
  |none=>rfl
  |some i =>
   simp only[HT.sIx,show(1:Int)>0 by decide,if_true];by_cases h:i<0
   .simp only[h,if_true]<;>lia
   .simp only[h,if_false]<;>lia
 have e1:=h1 lo 0 (aZ _);have e2:=h1 hi n (aF _);simp only[show(1:Int)>0 by decide,if_true]at e1 e2 ⊢;rw[<- e1,<- e2]
 rfl
theorem Xv(x:Str)(lo hi:Option Int):(⟨((Builtin.Str.strSliceIndices lo hi 1 x.length).filterMap (x.cps[·]?)).toArray⟩ : Str)=jd x lo hi:=by
 rw[strIdx,pick_run];rfl
theorem Nq(x:Str)(lo hi:Option Int)(h:(Builtin.Str.strSliceIndices lo hi 1 x.length).length=x.length):jd x lo hi=x:=by
 rw[strIdx,ak,X1]at h;have h2:=HT.abB x.length x.length (aF _) hi;unfold jd;have hx:x.length=x.cps.size:=rfl;have e:x.cps.toList.length=x.length:=by simp[hx]
 by_cases z:x.length=0
 .have:x.cps.toList=[]:=List.length_eq_zero_iff.mp (Eq.trans e z);rw[this];obtain⟨⟨l⟩⟩:=x;simp at this;subst this;simp
 .have e0:HT.sIx x.length 0 lo=0:=by lia
  rw[e0,List.drop_zero,aK (by lia)]
def ahh:V->Option Int->Option Int->Hp->VK->Prop:=λx lo hi H Q=>∃y,x=.str y/\y.length<=sizeLine/\Q (.str (jd y lo hi)) H
theorem part_of{v:Value}{o:Option Int}(h:IsPart v o):∃l:Option (Int×Tok),v=partValue l/\l.map (·.1)=o:=by
 cases h with
 |none=>exact⟨none,rfl,rfl⟩
 |int i t=>exact⟨some (i,t),rfl,rfl⟩
theorem aav{X:Cx} : SlR X ahh:=by
 intro aa s σ H x v vl vu lo hi sl Q I rx hs pl pu h;obtain⟨y,rfl,hz,q⟩:=h;obtain⟨t,rfl⟩:=rx;obtain⟨l,rfl,el⟩:=part_of pl;obtain⟨u,rfl,eu⟩:=part_of pu;refine⟨"str",_,F.slot_str_getitem.lookup,typeIs_str s y t,wpAny_getItem_str_slice (l:=l) (u:=u) (st:=none) hs rfl ?_⟩;unfold sliceMade slicePicked;rw[el,eu];split
 .rename_i hw
  have i':=(Bool.and_eq_true_iff.mp hw).2;rw[beq_iff_eq]at i';have e:=Nq y lo hi i';rw[e]at q;exact⟨.str y,H,I,⟨t,rfl⟩,q⟩
 .have e:=Xv y lo hi;refine⟨?_,.str (jd y lo hi),H,I.tok _,⟨s.toks,?_⟩,q⟩
  .refine aL ?_ hz;refine aL (X9 (ZH Str.length e)) ?_;show((y.cps.toList.drop _).take _).toArray.size<=y.cps.size;rw[aX,aY,UY,Array.length_toList];lia
  .rw[<- e];rfl
section
variable{X:Cx}
def acu:R2:=λx y H Q=>∃i j,x=.str i/\y=.str j/\i.length+j.length<=sizeLine/\Q (.str (i++j)) H
theorem XQ:OpR X (binaryOp .Add) acu:=NP
def ag1:R2:=λx y H Q=>∃i j,x=.str i/\y=.str j/\Q (.bl (!decide (j.cps.toList<i.cps.toList))) H
theorem ab5:OpR X (compareOp .LtE) ag1:=by
 intro aa s σ H x y v u Q I rx ry h;obtain⟨i,j,rfl,rfl,q⟩:=h;obtain⟨t,rfl⟩:=rx;obtain⟨t',rfl⟩:=ry;exact PySem.P.le_str (cT I q rfl)
theorem OpR.imp{f:Value->Value->Sem Value}{r r':R2}(h:OpR X f r)(i:∀x y H Q,r' x y H Q->r x y H Q):OpR X f r':=λaa s σ H x y v u Q I rx ry q=>h aa s σ H x y v u Q I rx ry (i _ _ _ _ q)
theorem Fe:∀{bs:List Bool}{us:Δ},Vals (bs.map V.bl) us->∀(i:Nat)(v:Value),us[i]?=some v->∃b,bs[i]?=some b/\v=.bool b
 |[],_,.nil,i,v,h=>by cases i<;>cases h
 |b::bs,_,.cons r t,0,v,h=>by
  rw[List.getElem?_cons_zero]at h;cases h;exact⟨b,rfl,r⟩
 |b::bs,_,.cons r t,i+1,v,h=>by
  rw[List.getElem?_cons_succ]at h;exact Fe t i v h
def adb:Β->Hp->VK->Prop:=λxs H Q=>∃(l:Addr)(bs:List Bool),xs=[.ref l]/\H l=some (.lst (bs.map V.bl))/\Q (.bl (bs.all id)) H
theorem qG:∀bs:List Bool,((List.range bs.length).all λi=>(bs[i]?).getD true)=bs.all id
 |[]=>rfl
 |b::bs=>by
  rw[List.length_cons,List.range_succ_eq_map,List.all_cons,List.all_map,List.all_cons];have:=qG bs;simp only[Function.comp_def,List.getElem?_cons_succ,List.getElem?_cons_zero,Option.getD_some,id]at this ⊢;rw[this]
theorem Rh(hc:X.calm=true):g_ X (.builtin "all") adb:=by
 intro aa s σ H xs us Q I r h;obtain⟨l,bs,rfl,hl,q⟩:=h;obtain⟨u,rfl,ru⟩:=r.one;cases ru;obtain⟨its,rv,p⟩:=I.lstIs hl;have dv:l<s.heap.objs.size:=by obtain⟨_,e,_⟩:=p;exact aJ e
 refine call_all_walk (wpAny_pyIter_list p ?_);refine⟨s.heap.objs.size,[s.heap.objs.size,l],[s.heap.objs.size],its.toArray.size,_,_,λi=>(bs[i]?).getD true,rfl,Walks.list (A:=X.A.in1) (I.ok.hd hc) _ l (aQ dv) its.toArray,
  ⟨⟨_,aW _ rfl,rfl,rfl⟩,p.push _⟩,λi v s' Q' E' hP hQ=>?_,λh' tk hk=>?_⟩
 .obtain⟨b,e,rfl⟩:=Fe rv i v (by simpa using hP);simp only[e,Option.getD_some]at hQ;exact wpAny_truthy_bool hQ
 .have e:((List.range its.toArray.size).all λi=>(bs[i]?).getD true)=bs.all id:=by
   rw[aX,<- rv.length,ak];exact qG bs
  refine⟨.bl (bs.all id),H,I.kept (t':=tk) λb o q=>hk b o (λhm=>?_) (aG _ q),?_,q⟩
  .rw[YR.mp hm]at q;exact XV _ (aJ q)
  .rw[e];rfl
def tSM(r:V->Β->Hp->VK->Prop)(to:TE)(t:TA):TE:=λσ H Q=>to σ H λx H1=>(∃y,x=.str y)/\t σ H1 λvs H2=>r x vs H2 Q
theorem acV{o e:Expr}{to:TE}{t:TA}{name:Str}{id:String}{r:V->Β->Hp->VK->Prop}{ac ae:Pos}(slot:Slot "str" name id)(fS:typeOf (.builtin id)=pure (.type "method_descriptor"))(hm:MtM X id r)(ho:PE X o to)(ha:PA X [e] t)
 (hb:qB X o name:=by rfl)
 (hf:qr X ae e:=by rfl)
 (hl:zw ac ae:=by rfl)(hs:qo X e []:=by rfl)(hp:qh X ae []:=by rfl) :
  PE X (.Call (.Attribute o name ac) [e] [] ae) (tSM r to t):=by
 refine(UL PySem.F.plainAttrs_str slot fS hm ho.mono ha hb hf hl hs hp).imp λσ H Q h=>?_;refine⟨_,h,?_⟩;rintro x H1 ⟨⟨y,rfl⟩,h2⟩;exact⟨rfl,h2⟩
theorem U8{x:Str}{v:V}{pos:Pos}(hg:Gl X x)(hm:∃u,X.mg x=some u/\RelV v u)(hd:qk x:=by decide):PE X (.Name x pos) (tC v):=by
 obtain⟨u,h1,h2⟩:=hm;exact Pk hg h1 h2 hd
theorem Lb{st:Stmt}{t:TS}(h1:PSB X st t):Wy X [st] t:=⟨m8 h1.out⟩
end
def hid(y:Str):Str:=Str.ofString "?"++y
def E_(xs:Θ)(N:Θ):Θ:=N.map λy=>if y∈xs then hid y else y
def Cx.compG(X:Cx)(N':Θ)(scope:Scope)(xs:Θ)(C:Addr)(s₀:Shared)(H₀:Hp)(ex:Φ)(pn:Γ):Cx :=
 { X with env:=compEnvC scope (tZ X.env.cells scope.names []) C X.env,N:=xs++N',s₀:=s₀,H₀:=H₀,outer:=X.stack,ex:=ex,fn:=λ_=>false,pn:=pn,xe:=λ_ _=>False }
def PTs(X:Cx)(ay:List Expr)(tc:TT):Prop:=∀(aa:Γ)(s:Shared)(σ:L2.St)(H:Hp)(Q:Bool->Hp->Prop),Inv X aa σ H s->tc σ H Q ->
 wpAny (model X.prog X.w) X.A (forIn ay true λc r=>if r=true then do let ok <- isTrue c X.env (eval c X.env);pure (ForInStep.yield ok)else pure (ForInStep.yield r)) (λb s'=>∃H',Inv X aa σ H' s'/\Q b H') X.xe s
def ag7:TT:=λ_ H Q=>Q true H
theorem Xl{X:Cx} : PTs X [] ag7:=λ_ _ _ H _ I q=>wpAny_tests_nil ⟨H,I,q⟩
theorem YQ{X:Cx}{c:Expr}{tc:TT}(h:PT X c tc):PTs X [c] tc:=λaa s σ H Q I q=>wpAny_tests_one (h aa s σ H Q I q)
def uW(wi:TI)(n:Nat)(gt:TG)(tc:TT)(te:TE):TE:=λσ H Q=>wi σ H λJ H1=>∀D,H1 D=none->∃W:Nat->Nat->Β->Hp->Prop,(∃m,W 0 m [] (upd H1 D (.lst [])))/\∀i m ys Hc,W i m ys Hc ->
 (J.stop i Hc/\Q (.ref D) Hc)\/(J.go i Hc/\∀x H',J.yld i Hc x H'->∀pre:L2.St,pre.length=n->gt x (pre++σ) H' λσ2 H2=>∃b6:L2.St,b6.length=n/\σ2=b6++σ/\tc σ2 H2 λb H3 =>
  match b with
  |true=>te σ2 H3 λy H4=>ys.length<sizeLine/\H4 D=some (.lst ys)/\∃m',m'<m/\W (i+1) m' (ys++[y]) (upd H4 D (.lst (ys++[y])))
  |false=>∃m',m'<m/\W (i+1) m' ys H3)
def Cx.compE(X:Cx)(ext:Addr->List (Str×Addr))(fn:Str->Bool)(N':Θ)(scope:Scope)(xs:Θ)(C:Addr)(s₀:Shared)(H₀:Hp)(ex:Φ)(pn:Γ):Cx :=
 { X with env:=compEnvC scope (ext C++tZ X.env.cells scope.names []) C X.env,N:=xs++N',s₀:=s₀,H₀:=H₀,outer:=X.stack,ex:=ex,fn:=fn,pn:=pn,xe:=λ_ _=>False }
structure Ol(X:Cx)(scope:Scope)(xs:Θ)(ext:Addr->List (Str×Addr))(fn:Str->Bool):Prop where
 new:∀{M:Model}{A:Around}{E:Ξ}{s:Shared}{globals:Addr}{cK:List (Str×Addr)}{af:Str}{outer:Env}{Q:Env->Shared->Prop},(∀g,g.Ns s.heap.objs.size (λx=>([] : List (Str×Value)).reverse.lookup x)->(∀y c,(ext s.heap.objs.size).lookup y=some c->g.IsCell c none)->(∀b o,s.heap.get? b=some o->g.get? b=some o)->Q (newEnv scope s.heap.objs.size globals (ext s.heap.objs.size++cK) af none .none (some outer) builtinsNs) { s with heap:=g,toks:=s.toks+([] : List (Str×Value)).length }) ->
  wpAny M A (newFunctionEnv scope globals cK [] af none .none (some outer)) Q E s
 up:∀C y c,(ext C).lookup y=some c->C<c
 one:∀C y z c,(ext C).lookup y=some c->(ext C).lookup z=some c->y=z
 nw:∀C y,fn y=true->∃c,(ext C).lookup y=some c
 off:∀C y,y∉xs->(ext C).lookup y=none
 kd:∀C y,((relabel scope X.env).names.lookup y=some .cell\/(relabel scope X.env).names.lookup y=some .free)->(∃c,(ext C).lookup y=some c)\/(y,NameKind.free)∈scope.names
theorem acy{X:Cx}{scope:Scope}{xs:Θ}(hk:scope.kind=.function)(ci:∀y∈scope.names,y.2≠.cell):Ol X scope xs (λ_=>[]) (λ_=>false) :=
 ⟨λhQ=>wpAny_newFunctionEnv ci (by intro y hy;simp at hy) (λg gN hsb=>hQ g gN (λ_ _ z=>(nomatch z)) λb o e=>(hsb.2 b (aQ (aJ e))).trans (aG _ e)) hk,λ_ _ _ z=>(nomatch z),λ_ _ _ _ z=>(nomatch z),λ_ _ z=>(nomatch z),λ_ _ _=>rfl,λ_ _ e=>.inr (vX e ci)⟩
section
variable{X:Cx}{a9 iter:Expr}{pos:Pos}{scope:Scope}{wi:TI}{te:TE}
theorem Ez{ext:Addr->List (Str×Addr)}{fn:Str->Bool}{use:Option (Value->Sem Unit)}{post:Ξ}{Qv:VK}{aa:Γ}{s:Shared}{σ:L2.St}{H:Hp}{pp:Pos}{xs N':Θ}{tg:Expr}{ay:List Expr}{gt:TG}{tc:TT}(E:Ol X scope xs ext fn)(hc:X.calm=true)(eT:E_ xs X.N=N')(bu:scope.kind=.function)(bS:∀y∈scope.names,y.2=.local->scope.names.lookup y.1=some .local)
 (bp:∀y∈scope.names,y.2=.free->X.env.kindOf y.1=some .cell\/X.env.kindOf y.1=some .free)(dy:∀y∈X.N,y∉xs->(relabel scope X.env).names.lookup y≠some .local)(hq:∀y∈X.N,y∈xs->(relabel scope X.env).names.lookup (hid y)=none)(hi:PI X tg iter wi)
 (hg:∀C s₀ H₀ ex pn,PG (X.compE ext fn N' scope xs C s₀ H₀ ex pn) tg gt)(ht:∀C s₀ H₀ ex pn,PTs (X.compE ext fn N' scope xs C s₀ H₀ ex pn) ay tc)(he:∀C s₀ H₀ ex pn,PE (X.compE ext fn N' scope xs C s₀ H₀ ex pn) a9 te)(hs:qV X iter)(I:Inv X aa σ H s)(h:uW wi xs.length gt tc te σ H Qv)
 (mf:∀(C D:Addr)(Hc:Hp)(s6:Shared)(m:Str->Ψ)(fl:Flow),s6.heap.Ns C m->Inv X aa σ Hc s6->Bl X aa Hc C->Qv (.ref D) Hc->compPost (model X.prog X.w) X.A X.xe use post (.ref D) C (.ok fl) s6) :
  wpAny (model X.prog X.w) X.A (comprehension (.ListComp a9 [⟨tg,iter,ay,0⟩] scope pos) scope X.env pp (newList []) false (eval iter X.env) use) post X.xe s:=by
 have b8:∀y∈scope.names,y.2=.free->∃c,X.env.cells.lookup y.1=some c:=λy hy e=>I.ok.has y.1 (bp y hy e);refine wpAny_comprehension_free (use:=use) (Q:=post) rfl hs (MJ b8) bu bS (thn (hi aa s σ H _ I h) λv s1 h1=>thn h1 λkx s2 h2=>?_);obtain⟨it,fp,tn,J,H2,e,I2,T,gL,f2,R⟩:=h2;subst e;have nD:H2 s2.heap.objs.size=none:=I2.hok.fresh (aF _);obtain⟨W,⟨m0,w0⟩,de⟩:=R s2.heap.objs.size nD;refine wpAny_newObj_type ?_ (by show 0<=sizeLine;exact aZ _);have I3:Inv X aa σ (upd H2 s2.heap.objs.size (.lst [])) { s2 with heap:=s2.heap.push { cls:=.type "list",dict:=none,data:=.seq ([] : Δ).toArray } }:=I2.lnew (t':=s2.toks) (ys:=[]) (its:=[]) .nil (aZ _);have kl:∀b o,s2.heap.get? b=some o->(s2.heap.push { cls:=.type "list",dict:=none,data:=.seq ([] : Δ).toArray }).get? b=some o:=λb o e=>aG _ e;generalize hs3:({ s2 with heap:=s2.heap.push { cls:=.type "list",dict:=none,data:=.seq ([] : Δ).toArray } } : Shared)=s3 at I3 ⊢;have gE:tn 0 s3.heap:=T.keep _ _ _ gL λb _ o e=>by rw[<- hs3];exact kl b o e
 generalize hH3:upd H2 s2.heap.objs.size (.lst [])=H3 at I3 w0;have f3:∀b∈fp,Bl X aa H3 b:=λb hb=>by
  obtain⟨a1,a2⟩:=f2 b hb;refine⟨?_,a2⟩;obtain⟨o,e,_⟩:=T.obj _ _ gL b hb;rw[<- hH3,bM (aQ (aJ e))];exact a1
 refine E.new λg gN iL kg=>?_;have clm:∀{y:Str}{c:Addr},(tZ X.env.cells scope.names []).lookup y=some c->X.env.cells.lookup y=some c:=λ{y c}e=>by
  rcases JX b8 (PySem.mem_of_lookup e)with z|z
  .cases z
  .exact z
 have eR:∀{y:Str},(ext s3.heap.objs.size).lookup y=none->((relabel scope X.env).names.lookup y=some .cell\/(relabel scope X.env).names.lookup y=some .free)->(X.env.kindOf y=some .cell\/X.env.kindOf y=some .free)/\∃c,(ext s3.heap.objs.size++tZ X.env.cells scope.names []).lookup y=some c/\X.env.cells.lookup y=some c:=λ{y}ny e=>by
  rcases E.kd s3.heap.objs.size y e with⟨c,z⟩|z
  .rw[ny]at z;cases z
  .obtain⟨c,eK⟩:=Ka (cells:=X.env.cells) (acc:=[]) (.inl z);obtain⟨c,eK⟩:=mj eK;exact⟨bp _ z rfl,c,by rw[List.lookup_append,ny];exact eK,clm eK⟩
 have iS:∀{y:Str}{c:Addr},(ext s3.heap.objs.size++tZ X.env.cells scope.names []).lookup y=some c->(ext s3.heap.objs.size).lookup y=some c\/X.env.cells.lookup y=some c:=λ{y c}e=>by
  rw[List.lookup_append]at e;cases hy:(ext s3.heap.objs.size).lookup y with
  |some d=>rw[hy]at e;exact .inl e
  |none=>rw[hy]at e;exact .inr (clm e)
 have cll:∀{y z c},(ext s3.heap.objs.size).lookup z=some c->¬X.env.cells.lookup y=some c:=λ{y z c}e1 e=>by
  obtain⟨v,o,h1,_⟩:=I3.cell y c e;exact XV _ (Nat.lt_trans (aJ h1) (E.up _ _ _ e1))
 have kr:∀b∈fp,b<s3.heap.objs.size:=λb hb=>by
  obtain⟨o,e,_⟩:=T.obj _ _ gE b hb;exact aJ e
 have nst:∀b∈fp,b∉frs X.stack:=λb hb=>I3.nostk' (f3 b hb).2.1 (f3 b hb).2.2.1;have cfp:∀b∈fp,∀y c,(ext s3.heap.objs.size++tZ X.env.cells scope.names []).lookup y=some c->c≠b:=λb hb y c e=>by
  rcases iS e with z|z
  .exact VW (Nat.lt_trans (kr b hb) (E.up _ _ _ z))
  .exact(f3 b hb).2.2.2.2.1 y c z
 generalize hX:X.compE ext fn N' scope xs s3.heap.objs.size s3 H3 fp (X.pn++aa)=Y;have ok':Y.Ok:=by
  subst hX;exact⟨I3.ok.mod,bu,I3.ok.glob,I3.ok.blt,aF _,λy z c h1 h2=>by
    rcases iS h1 with e1|e1<;>rcases iS h2 with e2|e2
    .exact E.one _ _ _ _ e1 e2
    .exact absurd e2 (cll e1)
    .exact absurd e1 (cll e2)
    .exact I3.ok.inj y z c e1 e2,λy hy=>by
    cases hz:(ext s3.heap.objs.size).lookup y with
    |some c=>exact⟨c,List.lookup_append.trans (by rw[hz];rfl)⟩
    |none=>exact let⟨_,c,q,_⟩:=eR hz hy;⟨c,q⟩,λy c ip e=>by
    obtain⟨d,z⟩:=E.nw s3.heap.objs.size y ip;have e:(ext s3.heap.objs.size++tZ X.env.cells scope.names []).lookup y=some c:=e;rw[List.lookup_append,z]at e;cases e;exact Y2 (E.up _ _ _ z),I3.ok.hd,I3.ok.frames,.inl rfl,
   λb hb=>⟨aQ (kr b hb),cfp b hb⟩,I3.bs,aL I3.ok.bsz I3.sz,λb o e hb=>by
    rcases(f3 b hb).2.2.2.1 with z|z
    .exact I3.ok.noex b o e z
    .exact absurd (aR (aR (aJ e) I3.ok.bsz) z) (XV _),nst,I3.stack,I3.stkFree⟩
 have J4:∀tk,Inv Y [] (List.replicate xs.length none++σ) H3 { s3 with heap:=g,toks:=tk }:=λtk=>by
  subst hX;refine⟨ok',rfl,I3.bare,Un.kept kg,⟨_,gN,λi y v e1 e2 e3=>?_⟩,λy c e=>?_,I3.hok.fresh (aF _),λy c e=>(iS e).elim (λz=>I3.hok.fresh (Y2 (E.up _ _ _ z))) (I3.freeC y c),λp hp=>?_,I3.hok.kept kg,?_⟩
  .by_cases fb:i<xs.length
   .rw[aD (by rw[aN];exact fb),XX,ZY fb]at e2;cases e2
   .obtain⟨j,rfl⟩ : ∃j,i=xs.length+j:=⟨i-xs.length,by lia⟩;have e0:N'[j]?=some y:=by
     have e1:(xs++N')[xs.length+j]?=some y:=e1;rw[aC (XW _ _)]at e1;rw[show xs.length+j-xs.length=j by exact UU _ _]at e1;exact e1
    have e2':σ[j]?=some (some v):=by
     rw[aC (by rw[aN];exact XW _ _),aN]at e2;rw[show xs.length+j-xs.length=j by exact UU _ _]at e2;exact e2
    rw[<- eT]at e0;obtain⟨y0,gX,ey⟩ : ∃y0,X.N[j]?=some y0/\(if y0∈xs then hid y0 else y0)=y:=by
     unfold E_ at e0;rw[aq]at e0;cases hz:X.N[j]? with
     |none=>rw[hz]at e0;cases e0
     |some y0=>rw[hz]at e0;exact⟨y0,rfl,Option.some.inj e0⟩
    have e3:(relabel scope X.env).names.lookup y=some .local\/(relabel scope X.env).names.lookup y=some .cell\/(relabel scope X.env).names.lookup y=some .free:=e3;have ne:¬y0∈xs:=λz=>by
     rw[ZY z]at ey;subst ey;rw[hq y0 (aB gX) z]at e3;rcases e3 with z|z|z<;>cases z
    rw[ZZ ne]at ey;subst ey;have e3':(relabel scope X.env).names.lookup y0=some .cell\/(relabel scope X.env).names.lookup y0=some .free:=by
     rcases e3 with z|z
     .exact absurd z (dy y0 (aB gX) ne)
     .exact z
    obtain⟨kd,c,iL,js⟩:=eR (E.off _ _ ne) e3';obtain⟨m,_,hl⟩:=I3.loc;obtain⟨u,r,lk⟩:=hl j y0 v gX e2' (.inr kd);refine⟨u,r,.inr ⟨e3',c,iL,?_⟩⟩;rcases lk with⟨k1,_⟩|⟨_,c',q1,o,q2,q3⟩
    .exfalso;have k1':X.env.kindOf y0=some .local:=k1;rcases kd with k2|k2<;>rw[k1']at k2<;>cases k2
    .rw[js]at q1;cases q1;exact⟨o,kg _ _ q2,q3⟩
  .rcases iS e with z|z
   .exact⟨none,iL y c z⟩
   .obtain⟨v,o,q2,q3⟩:=I3.cell y c z;exact⟨v,o,kg _ _ q2,q3⟩
  .have h8:p∈X.pn++aa:=by simpa[Cx.compE]using hp
   obtain⟨a1,a2,a3,a4,a5⟩:=I3.pin p h8;exact⟨kg _ _ a1,a2,aQ (aJ a1),I3.nostk' a3 a4,a5⟩
  .show(List.replicate xs.length none++σ).length=(xs++N').length;have db:N'.length=X.N.length:=by rw[<- eT];unfold E_;rw[ak]
   rw[aA,aN,aA,I3.len,db]
 have lT:∀{Hc:Hp},(∀b∈fp,Hc b=none)->∀b∈fp,Bl Y [] Hc b:=λ{Hc}hn b hb=>by
  subst hX;exact⟨hn b hb,aQ (kr b hb),nst b hb,.inl hb,cfp b hb,λp hp=>(f3 b hb).2.2.2.2.2 p (by simpa[Cx.compE]using hp)⟩
 have fR:∀s4:Shared,s4={ s3 with heap:=g,toks:=s3.toks+([] : List (Str×Value)).length } ->
   codeAny (model X.prog X.w) X.A (.compLoop (.ListComp a9 [⟨tg,iter,ay,0⟩] scope pos) 0 (.ref it) (.ref s2.heap.objs.size) Y.env) (compPost (model X.prog X.w) X.A X.xe use post (.ref s2.heap.objs.size) s3.heap.objs.size) s4:=by
  rintro s4 rfl;have YP:Y.prog=X.prog/\Y.w=X.w/\Y.K=X.K/\Y.calm=X.calm/\Y.A=X.A/\Y.env.locals=s3.heap.objs.size:=by subst hX;exact⟨rfl,rfl,rfl,rfl,rfl,rfl⟩
  obtain⟨y1,y2,y3,y4,y5,y6⟩:=YP;have he':PE Y a9 te:=by subst hX;exact he _ _ _ _ _
  have kR:PG Y tg gt:=by subst hX;exact hg _ _ _ _ _
  have ht':PTs Y ay tc:=by subst hX;exact ht _ _ _ _ _
  have iX:Y.xe=λ_ _=>False:=by subst hX;rfl
  have yb:∀{Hc:Hp}{w':L2.St}{pn:Γ}{s':Shared},Inv Y pn w' Hc s'->Un (frs X.stack) fp H3 Hc s3.heap s'.heap:=λ{Hc w' pn s'}Z=>by
   have:=Z.base;subst hX;exact this
  have yos:∀{Hc:Hp}{w':L2.St}{pn:Γ}{s':Shared},Inv Y pn w' Hc s'->s'.os=s3.os:=λ{Hc w' pn s'}Z=>by
   have:=Z.os;subst hX;exact this
  refine codeAny_loop rfl (λn s'=>∃i ys Hc,∃w':L2.St,w'.length=xs.length/\Inv Y [] (w'++σ) Hc s'/\tn i s'.heap/\(∀b∈fp,Hc b=none)/\W i n ys Hc) (λn s5 hI=>?_) m0 ⟨0,[],H3,List.replicate xs.length none,aN,J4 _,T.keep _ _ _ gE λb _ o e=>kg b o e,λb hb=>(f3 b hb).1,w0⟩;obtain⟨i,ys,Hc,w',i',Z,stc,frc,wc⟩:=hI;show wpAny _ _ ((compTurn (.ListComp a9 [⟨tg,iter,ay,0⟩] scope pos) 0 (.ref it) (.ref s2.heap.objs.size) Y.env).onRaise (λz=>do noteFrame z Y.env;theTreesLotGoes z)) _ _ s5;refine wpAny_noted (wpAny_noRaise ?_);rw[compTurn_list];show wpAny (model X.prog X.w) X.A _ _ _ _;rcases de i n ys Hc wc with⟨stop,qn⟩|⟨go,step⟩
  .have hd:=T.done Y y1 y2 y3 (y4.trans hc) i [] s5 (w'++σ) Hc (λ_ _=>False) Z (lT frc) stc stop;rw[y5]at hd;refine ZU (wpAny_standAt (ZU (thn hd λr s6 hP=>?_)));obtain⟨hr,Z6⟩:=hP;subst hr;refine ZT ?_;obtain⟨m,h9,_⟩:=Z6.loc;rw[y6]at h9;have u6:=yb Z6;have hok:HOk X.prog X.w Hc s6.heap:=by
    have z:=Z6.hok;rw[y1,y2]at z;exact z
   have cn:Hc s3.heap.objs.size=none:=by
    have z:=Z6.free;rw[y6]at z;exact z
   have I6:Inv X aa σ Hc s6:=I3.call' (s':=s6) (ch:=fp) (yos Z6) u6 hok Z6.bare λb hb=>⟨(f3 b hb).2.2.2.1,(f3 b hb).2.1,(f3 b hb).2.2.2.2.1,(f3 b hb).2.2.2.2.2⟩;have fC:Bl X aa Hc s3.heap.objs.size:=I3.fpOk (aF _) cn;exact mf _ _ Hc s6 m _ h9 I6 fC qn
  .have hd:=T.item Y y1 y2 y3 (y4.trans hc) i [] s5 (w'++σ) Hc (λ_ _=>False) Z (lT frc) stc go;rw[y5]at hd;refine ZU (wpAny_standAt (ZU (thn hd λr s6 hP=>?_)));obtain⟨u,hr,h6⟩:=hP;subst hr;refine ZU (thn h6 λ_ s7 hP=>?_);obtain⟨xv,H7,Z7,r7,yl,ka,fr7⟩:=hP;have Z7':=Z7.pinned (lT fr7) (T.obj _ _ ka);have az:=kR _ s7 _ H7 xv u _ Z7' r7 (step xv H7 yl w' i');rw[y1,y2,y5,iX]at az;refine ZU (thn az λ_ s8 hP=>?_);obtain⟨σ8,H8,Z8,pre,c8,e8,q8⟩:=hP;subst e8;have hte:=ht' _ s8 _ H8 _ Z8 q8;rw[y1,y2,y5,iX]at hte;have aE:∀{m':Nat}{j2:Β}{H9:Hp}{s9:Shared},Inv Y ([]++Ay fp s7.heap) (pre++σ) H9 s9->m'<n->W (i+1) m' j2 H9->∃m,m<n/\∃i ys Hc,∃w':L2.St,w'.length=xs.length/\Inv Y [] (w'++σ) Hc s9/\tn i s9.heap/\(∀b∈fp,Hc b=none)/\W i m ys Hc:=λ{m' j2 H9 s9}Z9 ie w9 =>
    ⟨m',ie,i+1,j2,H9,pre,c8,Z9.unpinned,T.keep _ _ _ ka λb hb o e=>(Z9.pin (b,o) (aP _ (aP _ (mL hb e)))).1,λb hb=>by
     obtain⟨o,e,_⟩:=T.obj _ _ ka b hb;exact(Z9.pin (b,o) (aP _ (aP _ (mL hb e)))).2.1,w9⟩
   refine ZU (thn hte λok s9 hP=>?_);obtain⟨H9,Z9,q9⟩:=hP;cases ok with
   |false =>
    obtain⟨m',ie,w9⟩:=q9;exact ZT ⟨rfl,aE Z9 ie w9⟩
   |true =>
    have hel:=he' _ s9 _ H9 _ Z9 q9;rw[y1,y2,y5,iX]at hel;refine ZU (ZU (thn hel λev g6 hP=>?_));obtain⟨yv,H10,Z10,r10,hz,lI,m',ie,w10⟩:=hP;have jv:=Eu (X:=Y) _ g6 _ H10 (.ref s2.heap.objs.size) [yv] (.ref s2.heap.objs.size) [ev] (λ_ Hf=>Hf=upd H10 s2.heap.objs.size (.lst (ys++[yv]))) Z10 rfl (.cons r10 .nil) ⟨_,ys,yv,rfl,rfl,lI,hz,rfl⟩;rw[y1,y2,y5,iX]at jv;refine ZU (thn jv λav s11 hP=>?_);obtain⟨_,H11,Z11,_,e11⟩:=hP;subst e11;exact ZT (ZT ⟨rfl,aE Z11 ie w10⟩)
 have k4:Y.env=compEnvC scope (ext s3.heap.objs.size++tZ X.env.cells scope.names []) s3.heap.objs.size X.env:=by subst hX;rfl
 rw[k4]at fR;exact codeAny_compStart_list (fR _ rfl) (T.self _ 0 _ _ _ (T.keep _ _ _ gE λb _ o e=>kg b o e) (fR _ rfl))
theorem VN{ext:Addr->List (Str×Addr)}{fn:Str->Bool}{xs N':Θ}{tg:Expr}{ay:List Expr}{gt:TG}{tc:TT}(E:Ol X scope xs ext fn)(hc:X.calm=true)(eT:E_ xs X.N=N')(bu:scope.kind=.function)(bS:∀y∈scope.names,y.2=.local->scope.names.lookup y.1=some .local)
 (bp:∀y∈scope.names,y.2=.free->X.env.kindOf y.1=some .cell\/X.env.kindOf y.1=some .free)(dy:∀y∈X.N,y∉xs->(relabel scope X.env).names.lookup y≠some .local)(hq:∀y∈X.N,y∈xs->(relabel scope X.env).names.lookup (hid y)=none)(hi:PI X tg iter wi)
 (hg:∀C s₀ H₀ ex pn,PG (X.compE ext fn N' scope xs C s₀ H₀ ex pn) tg gt)(ht:∀C s₀ H₀ ex pn,PTs (X.compE ext fn N' scope xs C s₀ H₀ ex pn) ay tc)(he:∀C s₀ H₀ ex pn,PE (X.compE ext fn N' scope xs C s₀ H₀ ex pn) a9 te)(hs:qV X iter) :
  PE X (.ListComp a9 [⟨tg,iter,ay,0⟩] scope pos) (uW wi xs.length gt tc te):=by
 intro aa s σ H Q I h;rw[eval_ListComp];exact Ez E hc eT bu bS bp dy hq hi hg ht he hs I h λC D Hc s6 m fl hn I6 fC q=>⟨m,hn,λh' kF=>⟨.ref D,Hc,I6.turned (it:=C) (h':=h') (t':=s6.toks) (λb o hb e=>(kF.2 b hb).trans e) fC.1 fC.2.1 fC.2.2.2.1 fC.2.2.2.2.1 fC.2.2.2.2.2,rfl,q⟩⟩
end
section
variable{X:Cx}{k:Nat}{f C:Addr}{fd:FuncData}{ps:Θ}{sp:Sp}{br:Β}{ds:Δ}{x m:Str}{p pos ac:Pos}{e o:Expr}{es:List Expr}{ta:TE}{t:TA}{Ex:Value->Ω->L2.St->Hp->Prop}
theorem W2{aa:Γ}{σ:St}{H:Hp}{s:Shared}{Q:VK}{us:Δ}{vs:Β}(F:dO X.prog X.w X.K X.mg X.base (CXO X.prog X.w) k f fd ps sp)(hr:dg k X.A)(hb:Binds X.K fd ps ds)(hd:Vals br ds)(hx:R0 X Ex)
 (I:Inv X aa σ H s)(r:Vals vs us)(h:sp (vs++br) H Q λC d H'=>Ex C d σ H'):wpAny (model X.prog X.w) X.A (call (.ref f) us) (EP X aa σ Q) X.xe s:=by
 have r2:Vals (vs++br) (us++ds):=r.append hd;have hl:(us++ds).length=ps.length:=by rw[<- r2.length];exact F.len _ _ _ _ h
 refine wpAny_call (codeAny_mono (F.run X.A X.stack s H ⟨us,[]⟩ (us++ds) (vs++br) Q _ hr I.env0 (hb s us I.kIn hl) r2 h) λr s' hq=>?_);cases r with
 |error e =>
  obtain⟨a,C,d,H',B,rfl,Fl,q'⟩:=hq;exact hx aa σ H s a C H' s' B d I Fl q'
 |ok fl =>
  cases fl with
  |ret u=>exact I.after hq
  |next=>exact False.elim hq
  |brk=>exact False.elim hq
  |cont=>exact False.elim hq
end
section
variable{κ:Type}[DecidableEq κ]
def BP(kvs:List (κ×V))(k:κ):Option V:=(kvs.find? λkv=>decide (kv.1=k)).map (·.2)
def putK(kvs:List (κ×V))(k:κ)(v:V):List (κ×V) :=
 if(kvs.any λkv=>decide (kv.1=k))=true then kvs.map (λkv=>if kv.1=k then(kv.1,v)else kv)else kvs++[(k,v)]
theorem Lf{p:κ×V}{r:List (κ×V)}{k:κ}(e:p.1=k):BP (p::r) k=some p.2:=by simp[BP,List.find?_cons,e]
theorem Aj{p:κ×V}{r:List (κ×V)}{k:κ}(e:¬p.1=k):BP (p::r) k=BP r k:=by simp[BP,List.find?_cons,e]
theorem KN(kvs:List (κ×V))(k:κ)(v:V):(putK kvs k v).length<=kvs.length+1:=by
 unfold putK;split
 .rw[ak];exact Xs _
 .rw[aA,List.length_cons,List.length_nil];exact aF _
theorem rM.isSome_eq{o:Option V}{u:Ψ}(r:rM o u):o.isSome=u.isSome:=by
 cases o with
 |none=>cases u with
  |none=>rfl
  |some _=>exact(show False from r).elim
 |some _=>cases u with
  |none=>exact(show False from r).elim
  |some _=>rfl
theorem rM.getD{o:Option V}{u:Ψ}{d:V}{d':Value}(r:rM o u)(rd:RelV d d'):RelV (o.getD d) (u.getD d'):=by
 cases o with
 |none=>cases u with
  |none=>exact rd
  |some _=>exact(show False from r).elim
 |some _=>cases u with
  |none=>exact(show False from r).elim
  |some _=>exact r
theorem KV.val{kvs:List (κ×V)}{vs:List (κ×Value)}(r:KV kvs vs)(k:κ):rM (BP kvs k) (valueAt vs k):=by
 unfold KV at r
 induction r with
 |nil=>exact True.intro
 |@cons p q ps qs h t ih =>
  obtain⟨h1,h2⟩:=h;by_cases e:p.1=k
  .have e':q.1=k:=h1.symm.trans e;have b:valueAt (q::qs) k=some q.2:=by simp[valueAt,List.find?_cons,e']
   rw[Lf e,b];exact h2
  .have e':¬q.1=k:=λz=>e (h1.trans z);have b:valueAt (q::qs) k=valueAt qs k:=by simp[valueAt,List.find?_cons,e']
   rw[Aj e,b];exact ih
theorem KV.any{kvs:List (κ×V)}{vs:List (κ×Value)}(r:KV kvs vs)(k:κ):(kvs.any λkv=>decide (kv.1=k))=vs.any λkv=>decide (kv.1=k):=by
 unfold KV at r
 induction r with
 |nil=>rfl
 |cons h t ih=>rw[List.any_cons,List.any_cons,ih,h.1]
theorem KV.repl{kvs:List (κ×V)}{vs:List (κ×Value)}(r:KV kvs vs)(k:κ){y:V}{u:Value}(ry:RelV y u) :
  KV (kvs.map λkv=>if kv.1=k then(kv.1,y)else kv) (vs.map λkv=>if kv.1=k then(kv.1,u)else kv):=by
 unfold KV at r ⊢
 induction r with
 |nil=>exact .nil
 |@cons p q ps qs h t ih =>
  rw[List.map_cons,List.map_cons];refine .cons ?_ ih;obtain⟨h1,h2⟩:=h;by_cases e:p.1=k
  .rw[ZY e,ZY (h1.symm.trans e)];exact⟨h1,ry⟩
  .rw[ZZ e,ZZ (λz=>e (h1.trans z))];exact⟨h1,h2⟩
theorem KV.put{kvs:List (κ×V)}{vs:List (κ×Value)}(r:KV kvs vs)(k:κ){y:V}{u:Value}(ry:RelV y u):KV (putK kvs k y) (stored vs k u):=by
 unfold putK stored;rw[r.any k];by_cases e:(vs.any λkv=>decide (kv.1=k))=true
 .rw[ZY e,ZY e];exact r.repl k ry
 .rw[ZZ e,ZZ e];exact Paired.snoc r ⟨rfl,ry⟩
theorem KV.length{kvs:List (κ×V)}{vs:List (κ×Value)}(r:KV kvs vs):kvs.length=vs.length:=Paired.length r
end
theorem Kw{P:Program}{w:World}{k:Key}{u:Value}(r:RelV (kV k) u):(fH P w).is k u=true:=by
 cases k with
 |inl i=>obtain⟨t,e⟩:=(show ∃t,u=Value.int i t from r);subst e;exact Ju P w i t
 |inr x=>obtain⟨t,e⟩:=(show ∃t,u=Value.str x t from r);subst e;exact KJ P w x t
section
variable{P:Program}{w:World}{H:Hp}{h:Heap}{a:Addr}
theorem afo{u:HO}(ok:HOk P w H h)(e:Rd H a u):dW P w H h a u:=e.ok ok
theorem yF{kvs:List (Key×V)}(ok:HOk P w H h)(e:Rd H a (.dK kvs)):kvs.length<=sizeLine/\(a==sysModules)=false/\∃vs,KV kvs vs/\h.DictOf (fH P w) a vs :=
 show dW P w H h a (.dK kvs)from afo ok e
theorem acN{kvs:List (Key×V)}(ok:HOk P w H h)(e:H a=some (.dK kvs)):kvs.length<=sizeLine/\(a==sysModules)=false/\∃vs,KV kvs vs/\h.DictOf (fH P w) a vs:=yF ok (.inl e)
end
def yj(H:Hp)(a:Addr)(y:V)(r:Option V):Prop :=
 (∃kvs k,Rd H a (.dK kvs)/\y=kV k/\r=BP kvs k)\/False
def adX(H:Hp)(a:Addr)(y v:V)(H':Hp):Prop :=
 (∃kvs k,H a=some (.dK kvs)/\y=kV k/\kvs.length<sizeLine/\H'=upd H a (.dK (putK kvs k v)))\/False
theorem yj.k{H:Hp}{a:Addr}{kvs:List (Key×V)}{k:Key}(e:H a=some (.dK kvs)):yj H a (kV k) (BP kvs k):=.inl ⟨kvs,k,.inl e,rfl,rfl⟩
section
variable{X:Cx}{aa:Γ}{σ:St}{H:Hp}{s:Shared}{a:Addr}{y v:V}{u r:Value}{o:Option V}{A:Around}{E:Ξ}
theorem Inv.big(I:Inv X aa σ H s):sysModules<s.heap.objs.size:=by
 have h:mainGlobals<s.heap.objs.size:=(I.mod.glob.keeps I.bk).lt;exact Nat.lt_trans (by decide) h
theorem RJ{Q:Ξ}(hu:A.units+1<cLine)(I:Inv X aa σ H s)(g:yj H a y (some v))(ry:RelV y u)(h:∀w' s',Inv X aa σ H s'->RelV v w'->Q w' s') :
  wpAny (model X.prog X.w) A (getItem (.ref a) u) Q E s:=by
 rcases g with⟨kvs,k,e,ey,l⟩|hF
 .subst ey;obtain⟨z,hd,vs,rel,dd⟩:=yF I.hok e;obtain⟨w',hw,di⟩:=rM.some_of (v:=v) (o:=valueAt vs k) (by rw[l];exact rel.val k);exact wpAny_getItem_of (Kw ry) dd.mapOf hw (h w' _ (I.tok _) di)
 .exact hF.elim
theorem ags{Q:Ξ}(hu:A.units+1<cLine)(I:Inv X aa σ H s)(g:yj H a y o)(ry:RelV y u)(h:∀s',Inv X aa σ H s'->Q (.bool o.isSome) s') :
  wpAny (model X.prog X.w) A (compareOp .In u (.ref a)) Q E s:=by
 rcases g with⟨kvs,k,e,ey,l⟩|hF
 .subst ey;obtain⟨z,hd,vs,rel,dd⟩:=yF I.hok e;refine wpAny_in_of (Kw ry) hd dd.mapOf ?_;rw[<- (rel.val k).isSome_eq,<- l];exact h _ (I.tok _)
 .exact hF.elim
theorem W3{Q:Ξ}(hu:A.units+1<cLine)(I:Inv X aa σ H s)(g:yj H a y o)(ry:RelV y u)(h:∀s',Inv X aa σ H s'->Q (.bool (!o.isSome)) s') :
  wpAny (model X.prog X.w) A (compareOp .NotIn u (.ref a)) Q E s:=by
 rcases g with⟨kvs,k,e,ey,l⟩|hF
 .subst ey;obtain⟨z,hd,vs,rel,dd⟩:=yF I.hok e;refine wpAny_notIn_of (Kw ry) hd dd.mapOf ?_;rw[<- (rel.val k).isSome_eq,<- l];exact h _ (I.tok _)
 .exact hF.elim
theorem Yi{h':Heap}{t':Nat}{ob:HO}(I:Inv X aa σ H s)(mu:Mut (H a))(hs:Heap.SameBut a s.heap h')(he:∃q,h'.get? a=some q)(new:dW X.prog X.w (upd H a ob) h' a ob) :
  Inv X aa σ (upd H a ob) { s with heap:=h',toks:=t' } :=
 I.write (x:=a) (e:=a) mu (.inl rfl) (λb q hb z=>(hs.2 b hb).trans z) he new
theorem aa1{P:Program}{w:World}{H':Hp}{h':Heap}{kvs:List (Key×V)}{vs:List (Key×Value)}(z:kvs.length<=sizeLine)(hd:(a==sysModules)=false)(rel:KV kvs vs)(dd:h'.DictOf (fH P w) a vs) :
  dW P w H' h' a (.dK kvs):=⟨z,hd,vs,rel,dd⟩
theorem QK{H':Hp}{Q:Unit->Shared->Prop}(hu:A.units+1<cLine)(I:Inv X aa σ H s)(g:adX H a y v H')(ry:RelV y u)(rv:RelV v r)(h:∀s',Inv X aa σ H' s'->Q () s') :
  wpAny (model X.prog X.w) A (setItem (.ref a) u r) Q E s:=by
 rcases g with⟨kvs,k,e,ey,l,eH⟩|hF
 .subst ey eH;obtain⟨z,hd,vs,rel,dd⟩:=acN I.hok e;have hz:vs.length<=sizeLine:=by rw[<- rel.length];exact z
  have hl:(putK kvs k v).length<=sizeLine:=by have:=KN kvs k v;lia
  refine wpAny_setItem_pairs (hsz:=hz) (Kw ry) dd λh' mi hs=>h _ ?_;have he:∃q,h'.get? a=some q:=by obtain⟨q,_,_,hq,_⟩:=mi;exact⟨q,hq⟩
  exact Yi I (by rw[e];exact True.intro) hs he (aa1 hl hd (rel.put k rv) mi)
 .exact hF.elim
end
def ZV(i:Expr):Prop:=∀ov iv,subscripted i false ov iv=operate [ov,iv] (getItem ov iv)
theorem XJ{prog:Program}{w:World}{A:Around}{E:Ξ}{s:Shared}{env:Env}{am aS:Expr}{pos:Pos}{T id:String}{Q:Ξ}
 (hl:typeLookup (.type T) "__getitem__"=pure (some (.builtin id)))(hs:ZV aS)
 (h:wpAny (model prog w) A (eval am env) (λo s₁=>wpAny (model prog w) A (eval aS env) (λi s₂=>s₂.TypeIs o T/\wpAny (model prog w) A (getItem o i) Q E s₂) E s₁) E s) :
  wpAny (model prog w) A (eval (.Subscript am aS pos) env) Q E s:=by
 refine Subscript_ (wpAny_mono h (λo s₁ h₁=>wpAny_mono h₁ (λi s₂ h₂=>?_) λ_ _ x=>x) λ_ _ x=>x);obtain⟨hT,h₂⟩:=h₂;unfold subscriptTail;refine ZU ?_;rw[getitemInPython_of_ne hT.not_modules];refine ZU (wpAny_specialOf hT hl ?_);have aE:wpAny (model prog w) A (subscripted aS false o i) (λr s₃=>wpAny (model prog w) A (letTemporaryGo am o r >>= λ_=>pure r) Q E s₃) E s₂:=by
  rw[hs o i];exact wpAny_operating (wpAny_mono h₂ (λr s₃ h₃=>ZU (wpAny_letTemporaryGo (ZT h₃))) λ_ _ x=>x)
 first
  |exact ZT (ZU aE)
  |exact ZU (ZT (ZU aE))
  |exact ZU aE
theorem J2{X:Cx}{aa:Γ}{σ:St}{H:Hp}{s:Shared}{a:Addr}{y:V}{o:Option V}(I:Inv X aa σ H s)(g:yj H a y o):s.TypeIs (.ref a) "dict":=by
 rcases g with⟨kvs,k,e,_,_⟩|hF
 .obtain⟨_,_,vs,_,dd⟩:=yF I.hok e;exact dd.typeIs
 .exact hF.elim
def afv(td ty:TE):TE:=λσ H Q=>td σ H λx H1=>ty σ H1 λy H2=>∃a v,x=.ref a/\yj H2 a y (some v)/\Q v H2
def ahq(ty td:TE):TE:=λσ H Q=>ty σ H λy H1=>td σ H1 λx H2=>∃a o,x=.ref a/\yj H2 a y o/\Q (.bl o.isSome) H2
def YD(ty td:TE):TE:=λσ H Q=>ty σ H λy H1=>td σ H1 λx H2=>∃a o,x=.ref a/\yj H2 a y o/\Q (.bl (!o.isSome)) H2
def afk(td ty tv:TE):TS:=λD σ H=>tv σ H λv H1=>td σ H1 λx H2=>ty σ H2 λy H3=>∃a H4,x=.ref a/\adX H3 a y v H4/\D.nx σ H4
section
variable{X:Cx}{o i e am:Expr}{pos ar aI:Pos}{td ty tv:TE}
theorem Xx(hu:X.A.units+1<cLine)(ho:PE X o td)(hi:PE X i ty)(hs:ZV i):PE X (.Subscript o i pos) (afv td ty):=by
 intro aa s σ H Q I h;refine XJ PySem.F.slot_dict_getitem.lookup hs (thn (ho aa s σ H _ I h) λu s1 ⟨x,H1,I1,rx,q1⟩=>thn (hi aa s1 σ H1 _ I1 q1) λiv s2 hP=>?_);obtain⟨y,H2,I2,ry,a,v,ex,g,q2⟩:=hP;subst ex;obtain rfl:u=Value.ref a:=rx;exact⟨J2 I2 g,RJ hu I2 g ry λw' s3 I3 di=>⟨v,H2,I3,di,q2⟩⟩
theorem ZQ(hu:X.A.units+1<cLine)(hi:PE X i ty)(ho:PE X o td):PC X .In i o (ahq ty td):=by
 intro aa s σ H Q I h;refine thn (hi aa s σ H _ I h) λiv s1 ⟨y,H1,I1,ry,q1⟩=>thn (ho aa s1 σ H1 _ I1 q1) λu s2 hP=>?_;obtain⟨x,H2,I2,rx,a,ov,ex,g,q2⟩:=hP;subst ex;obtain rfl:u=Value.ref a:=rx;exact ags hu I2 g ry λs3 I3=>⟨.bl ov.isSome,H2,I3,rfl,q2⟩
theorem Rz(hu:X.A.units+1<cLine)(hi:PE X i ty)(ho:PE X o td):PC X .NotIn i o (YD ty td):=by
 intro aa s σ H Q I h;refine thn (hi aa s σ H _ I h) λiv s1 ⟨y,H1,I1,ry,q1⟩=>thn (ho aa s1 σ H1 _ I1 q1) λu s2 hP=>?_;obtain⟨x,H2,I2,rx,a,ov,ex,g,q2⟩:=hP;subst ex;obtain rfl:u=Value.ref a:=rx;exact W3 hu I2 g ry λs3 I3=>⟨.bl (!ov.isSome),H2,I3,rfl,q2⟩
theorem Xo(hu:X.A.units+1<cLine)(ho:PE X o td)(hi:PE X i ty)(hv:PE X am tv)(hs:swapsWith am (some (.Subscript o i ar)) pos.line X.env=pure false) :
  PS X (.Assign [.Subscript o i ar] am pos) (afk td ty tv):=by
 intro aa s σ H D I h;refine wpAny_Assign_Subscript (thn (hv aa s σ H _ I h) λr s1 ⟨v,H1,I1,rv,q1⟩=>thn (ho aa s1 σ H1 _ I1 q1) λu s2 ⟨x,H2,I2,rx,q2⟩=>thn (hi aa s2 σ H2 _ I2 q2) λiv s3 hP=>?_) hs;obtain⟨y,H3,I3,ry,a,H4,ex,g,q3⟩:=hP;subst ex;obtain rfl:u=Value.ref a:=rx;exact QK hu I3 g ry rv λs4 I4=>⟨σ,H4,I4,q3⟩
end
theorem Wq{P:Program}{w:World}{H:Hp}(h:Heap)(hb:sysModules<h.objs.size):dW P w H (h.push { cls:=.type "dict",data:=.dict #[] }) h.objs.size (.dK []) :=
 ⟨aZ _,beq_eq_false_iff_ne.mpr (Ne.symm (aQ hb)),[],.nil,Heap.DictOf.new h⟩
def abq:TE:=λ_ H Q=>∀p,H p=none->Q (.ref p) (upd H p (.dK []))
section
variable{X:Cx}{pos:Pos}
theorem Tp:PE X (.Dict [] [] pos) abq:=λaa s σ H Q I h =>
 wpAny_Dict_empty ⟨.ref s.heap.objs.size,_,I.laid (a:=s.heap.objs.size) (o:=.dK []) (t':=s.toks) (λ_ _ q=>aG _ q) (aF _) (Wq s.heap I.big),rfl,h _ (I.hok.fresh (aF _))⟩
end
structure M2(X:Cx)(o:Expr)(m:Str)(ac:Pos)(e f:Expr)(ae:Pos):Prop where
 base:qB X o m
 few:((backTo ae (starEach [e,f] X.env)).all (λx=>!x.1)&&(backToKw ae (keywordEach [] X.env)).all (λx=>x.1.isSome)
  && decide (([e,f] : List Expr).length+([] : List Keyword).length+(if([] : List Keyword).isEmpty then 0 else 1)<30))=true
 line:zw ac ae
 trees:backTo ae (starEach [e,f] X.env)=[(false,eval e X.env),(false,eval f X.env)]
def IsD(H:Hp)(a:Addr):Prop:=(∃kvs,Rd H a (.dK kvs))\/False
theorem aa6{X:Cx}{aa:Γ}{σ:St}{H:Hp}{s:Shared}{a:Addr}(I:Inv X aa σ H s)(d:IsD H a) :
  s.TypeIs (.ref a) "dict"/\(∀b,Value.ref a=.ref b->∃ob,s.heap.get? b=some ob/\ob.dict=none)/\(a==sysModules)=false:=by
 rcases d with⟨kvs,e⟩|hF
 .obtain⟨_,hd,vs,_,dd⟩:=yF I.hok e;refine⟨dd.typeIs,λb q=>?_,hd⟩;cases q;obtain⟨ob,_,_,h1,h2,_⟩:=dd;exact⟨ob,h1,h2.2.1⟩
 .exact hF.elim
section
variable{X:Cx}{aa:Γ}{σ:St}{H:Hp}{s:Shared}{a:Addr}{y d:V}{u r:Value}{o:Option V}{A:Around}{E:Ξ}
theorem abS{Q:Ξ}(hu:A.units+1<cLine)(I:Inv X aa σ H s)(g:yj H a y o)(ry:RelV y u)(rd:RelV d r)(h:∀w' s',Inv X aa σ H s'->RelV (o.getD d) w'->Q w' s') :
  wpAny (model X.prog X.w) A (call (.builtin "dict.get") [.ref a,u,r]) Q E s:=by
 rcases g with⟨kvs,k,e,ey,l⟩|hF
 .subst ey;obtain⟨z,hd,vs,rel,dd⟩:=yF I.hok e;refine call_meetsIn PySem.F.slot_dict_get dd.typeIs PySem.F.entry_dict_get (PySem.F.args_dict_get_3 _ _ _) (meets_dict_get_default (fH X.prog X.w) a (Kw ry) hd r) ⟨_,dd.mapOf,h _ _ (I.tok _) ?_⟩;rw[l];exact(rel.val k).getD rd
 .exact hF.elim
end
def aaC(td ty tx:TE):TE:=λσ H Q=>td σ H λx H1=>∃a,x=.ref a/\IsD H1 a/\ty σ H1 λy H2=>tx σ H2 λz H3=>∃o,yj H3 a y o/\Q (o.getD z) H3
section
variable{X:Cx}{o e f:Expr}{ac ae:Pos}{td ty tx:TE}
theorem R7(hu:X.A.units+1<cLine)(ho:PE X o td)(he:PE X e ty)(hf:PE X f tx)(m:M2 X o "get" ac e f ae):PE X (.Call (.Attribute o "get" ac) [e,f] [] ae) (aaC td ty tx):=by
 intro aa s σ H Q I h;refine wpAny_Call_method m.base m.few m.line PySem.F.plainAttrs_dict PySem.F.slot_dict_get PySem.F.type_dict_get (thn (ho aa s σ H _ I h) λu s1 hP=>?_);obtain⟨x,H1,I1,rx,a,ex,d,q1⟩:=hP;subst ex;obtain rfl:u=Value.ref a:=rx;obtain⟨t1,t2,_⟩:=aa6 I1 d;refine⟨t1,t2,?_⟩;rw[m.trees];refine Calls.callWith_builtin rfl (Calls.evalArgs_plain (Calls.spliced_cons (thn (he aa s1 σ H1 _ I1 q1) λiv s2 ⟨y,H2,I2,ry,q2⟩ =>
  Calls.spliced_cons (thn (hf aa s2 σ H2 _ I2 q2) λfv s3 ⟨z,H3,I3,rz,ov,g,q3⟩=>Calls.spliced_nil ?_))))
 exact abS hu I3 g ry rz λw' s4 I4 di=>⟨_,H3,I4,di,q3⟩
end
def Itk(a:Addr)(o:Obj)(kvs:List (Key×V)):It:=⟨λi H=>H a=some (.frz o (.dK kvs))/\i<kvs.length,λi H v H'=>H'=H/\∃k y,kvs[i]?=some (k,y)/\v=kV k,λi H=>H a=some (.frz o (.dK kvs))/\i=kvs.length⟩
theorem Ti{P:Program}{w:World}{k:Key}{u:Value}(h:(fH P w).is k u=true):RelV (kV k) u:=by
 have h:vh k u=true:=h;cases k with
 |inl i =>
  cases u<;>simp[vh,Value.isInt]at h
  .subst h;exact⟨_,rfl⟩
 |inr x =>
  cases u<;>simp[vh,Value.isStrOf]at h
  .subst h;exact⟨_,rfl⟩
theorem KV.at{κ:Type}{kvs:List (κ×V)}{vs:List (κ×Value)}(r:KV kvs vs):∀{i:Nat}{k:κ}{y:V},kvs[i]?=some (k,y)->∃u,vs[i]?=some (k,u)/\RelV y u:=by
 unfold KV at r
 induction r with
 |nil=>intro i k y h;cases h
 |@cons p q ps qs h t ih =>
  intro i k y e;cases i with
  |zero =>
   rw[List.getElem?_cons_zero]at e;cases e;obtain⟨q1,q2⟩:=q;obtain⟨h1,h2⟩:=h;cases h1;exact⟨q2,rfl,h2⟩
  |succ i =>
   rw[List.getElem?_cons_succ]at e ⊢;exact ih e
theorem QJ{P:Program}{w:World}{K:Frag}{tg:Expr}(it a:Addr)(o:Obj)(kvs:List (Key×V))(vs:List (Key×Value))(ep:Nat)(rel:KV kvs vs)(hD:∀h:Heap,h.get? a=some o->h.DictAt (fH P w) a vs ep) :
  Turn P w K tg (Itk a o kvs) [it] it (λi h=>h.IsKeyIter it a i vs.length ep) where
 mem:=by simp
 obj:=λi h st b hb=>by
  have e:b=it:=by simpa using hb
  subst e;obtain⟨o,ho,_,hd⟩:=st;exact⟨o,ho,λv z=>by rw[hd]at z;cases z⟩
 keep:=λi h h' st k=>let⟨o,ho,r⟩:=st;⟨o,k it (by simp) o ho,r⟩
 item:=by
  intro X hP hw hK hc i aa s σ H E I hf st hg;subst hP hw hK;obtain⟨hg,dv⟩:=hg;obtain⟨ho,_⟩:=(show dW X.prog X.w H s.heap a (.frz o (.dK kvs))from I.hok a _ hg);obtain⟨f0,f1,f2,f3,f4,f5⟩:=hf it (by simp);obtain⟨⟨k,y⟩,hx⟩ : ∃p,kvs[i]?=some p:=⟨kvs[i],by simp[dv]⟩;obtain⟨u,hu,ru⟩:=rel.at hx;refine wpAny_pyNext_dict_item st (hD _ ho) hu λbt h' dP df sb=>?_;have I1:Inv X aa σ H { s with heap:=h' }:=I.turned (t':=s.toks) (λb ob hb e=>(sb.2 b hb).trans e) f0 f1 f3 f4 f5;obtain⟨oi,e,c,d⟩:=id df;exact⟨bt,rfl,PJ (s:={ s with heap:=h' }) e c d (by decide) ⟨kV k,H,I1,Ti dP,⟨rfl,k,y,hx,rfl⟩,df,λb hb=>(hf b hb).1⟩⟩
 done:=by
  intro X hP hw hK hc i aa s σ H E I hf st hg;subst hP hw hK;obtain⟨hg,rfl⟩:=hg;obtain⟨ho,_⟩:=(show dW X.prog X.w H s.heap a (.frz o (.dK kvs))from I.hok a _ hg);obtain⟨f0,f1,f2,f3,f4,f5⟩:=hf it (by simp);have hl:=rel.length;exact wpAny_pyNext_dict_end (I.ok.hd hc) st (hD _ ho) (by simp;exact X9 (Eq.symm hl)) λh' eb=>⟨rfl,I.turned (t':=s.toks) (λb ob hb e=>eb b ob hb e) f0 f1 f3 f4 f5⟩
 self:=λ_ _ _ _ _ st h=>wpAny_pyIter_keyiter st h
section
variable{X:Cx}{tg:Expr}
def ad0(te:TE):TI:=λσ H R=>te σ H λx H1=>∃a kvs,x=.ref a/\H1 a=some (.dK kvs)/\∀o,R (Itk a o kvs) (upd H1 a (.frz o (.dK kvs)))
theorem Yb{l:Expr}{tl:TE}(hl:PE X l tl):PI X tg l (ad0 tl):=by
 intro aa s σ H R I h;refine thn (hl aa s σ H _ I h) λv s1 hP=>?_;obtain⟨x,H1,I1,r1,a,kvs,ex,ha,q⟩:=hP;subst ex;cases r1;have ok:=(show dW X.prog X.w H1 s1.heap a (.dK kvs)from I1.hok a _ ha);obtain⟨z,hd,vs,rel,o,es,ep,e,ex,ed,ek,fe,en⟩:=ok;have hD:∀h:Heap,h.get? a=some o->h.DictAt (fH X.prog X.w) a vs ep:=λh e=>⟨o,es,e,ex,ed,ek,fe,en⟩;have I2:Inv X aa σ (upd H1 a (.frz o (.dK kvs))) s1:=by
  have:=I1.write (x:=a) (e:=a) (o:=.frz o (.dK kvs)) (h':=s1.heap) (t':=s1.toks) (by rw[ha];exact True.intro) (.inl rfl) (λb u hb z=>z) ⟨o,e⟩ ⟨e,z,hd,vs,rel,o,es,ep,e,ex,ed,ek,fe,en⟩;exact this
 refine wpAny_pyIter_dict hd (hD _ e) ?_;refine⟨s1.heap.objs.size,[s1.heap.objs.size],_,Itk a o kvs,_,rfl,I2.kept (t':=s1.toks) λb ob z=>aG _ z,QJ _ a o kvs vs ep rel hD,⟨_,aW _ rfl,rfl,rfl⟩,λb hb=>?_,q o⟩;have e:b=s1.heap.objs.size:=by simpa using hb
 subst e;exact I2.fpOk (aF _) (I2.hok.fresh (aF _))
def tMG(g:TG):TG:=λv σ H Q=>∃R:L2.St->Hp->Prop,g v σ H R/\∀σ' H',R σ' H'->Q σ' H'
def tMT(t:TT):TT:=λσ H Q=>∃R:Bool->Hp->Prop,t σ H R/\∀b H',R b H'->Q b H'
theorem PG.mono{e:Expr}{g:TG}(h:PG X e g):PG X e (tMG g):=λaa s σ H v u Q I r hP=>by obtain⟨R,h1,h2⟩:=hP;exact thn (h aa s σ H v u R I r h1) λ_ s' hP=>by obtain⟨σ',H',I',q⟩:=hP;exact⟨σ',H',I',h2 σ' H' q⟩
theorem PTs.mono{ay:List Expr}{t:TT}(h:PTs X ay t):PTs X ay (tMT t):=λaa s σ H Q I hP=>by obtain⟨R,h1,h2⟩:=hP;exact thn (h aa s σ H R I h1) λb s' hP=>by obtain⟨H',I',q⟩:=hP;exact⟨H',I',h2 b H' q⟩
end
structure yI(K:Frag)(B:Addr)(m:Str)(f:Addr):Prop where
 ga:specialIn K (.ref B) "__getattribute__"=some (some (.builtin "type.__getattribute__"))
 rd:readsIn K B (.type "type")=true
 at_:findCls K (.ref B) (.type "type") m=some (.val (.ref f))
 hd:handedIn (.ref f)=true
 kp:keepIn K (.ref f)=true
section
variable{X:Cx}{k:Nat}{f B:Addr}{fd:FuncData}{ps:Θ}{sp:Sp}{br:Β}{ds:Δ}{x m:Str}{p pos ac:Pos}{e:Expr}{es:List Expr}{t:TA}{Ex:Value->Ω->L2.St->Hp->Prop}
theorem yI.get{aa:Γ}{σ:L2.St}{H:Hp}{s:Shared}{pl:Sem Bool}{A:Around}{E:Ξ}{Q:Value×Δ->Shared->Prop}(c:yI X.K B m f)(I:Inv X aa σ H s)(h:∀t,Q (.ref f,[]) { s with toks:=t }) :
  wpAny (model X.prog X.w) A (getMethod (.ref B) m pl) Q E s :=
 method_cls I.kIn c.ga (cls_value I.kIn c.rd c.at_ c.hd (h _))
theorem XF{pl:Sem Bool}(c:yI X.K B m f)(F:dO X.prog X.w X.K X.mg X.base CX0 k f fd ps sp)(hr:dg k X.A)(hg:Gl X x)(hm:X.mg x=some (.ref B))(hb:Binds X.K fd ps [])(ha:PA X (e::es) t)(a8:qk x:=by decide)
 (az:qo X e es:=by rfl)(aw:qh X pos es:=by rfl)
 (ht:eval (.Call (.Attribute (.Name x p) m ac) (e::es) [] pos) X.env=(do
   let ov <- eval (.Name x p) X.env
   standAt ac.atName
   let(f,first) <- holding [ov] (getMethod ov m pl)
   callWith pos f first (backTo pos (starEach (e::es) X.env)) (backToKw pos (keywordEach [] X.env))):=by rfl) :
  PE X (.Call (.Attribute (.Name x p) m ac) (e::es) [] pos) (Mh sp t):=by
 intro aa s σ H Q I h;refine methodCall_KW (pl:=pl) (nM I hg hm (c.get I λtk=>?_) a8) ht;refine callWith_K (first:=[]) (h₀:=X.base) I.ok.mod.kin c.kp (thn (ha pos aa _ σ H _ (I.tok tk) h) λus s2 ⟨vs,H2,I2,r,q2⟩=>⟨I2.kIn,?_⟩) az aw;exact Jl (us:=us) (vs:=vs) F hr hb .nil Fj I2 r (by rw[List.append_nil];exact q2)
end
theorem Same.tup{K:Frag}{H H':Hp}{a:Addr}{xs:Β}(e:Same H H')(h:SqT K H a xs):SqT K H' a xs:=by
 rcases h with(h|⟨o,h⟩)|h
 .exact .inl (.inl (e _ _ h))
 .exact .inl (.inr ⟨o,e _ _ h⟩)
 .exact .inr h
mutual
inductive iB(K:Frag)(H:Hp):V->PyData->Prop
 |non:iB K H .non .none
 |bl (b:Bool):iB K H (.bl b) (.bool b)
 |int (i:Int):iB K H (.int i) (.int i)
 |str (x:Str):iB K H (.str x) (.str x)
 |lst {a:Addr}{xs:Β}{ds:List PyData} : H a=some (.lst xs)->dU K H xs ds->iB K H (.ref a) (.list ds)
 |tup {a:Addr}{xs:Β}{ds:List PyData} : SqT K H a xs->dU K H xs ds->iB K H (.ref a) (.tuple ds)
inductive dU(K:Frag)(H:Hp):Β->List PyData->Prop
 |nil:dU K H [] []
 |cons {x:V}{xs:Β}{d:PyData}{ds:List PyData} : iB K H x d->dU K H xs ds->dU K H (x::xs) (d::ds)
end
mutual
theorem iB.same{K:Frag}{H H':Hp}(S:Same H H'){x:V}{d:PyData}(h:iB K H x d):iB K H' x d:=by
 cases h with
 |non|bl|int|str=>constructor
 |lst e h=>exact .lst (S _ _ e) (dU.same S h)
 |tup e h=>exact .tup (S.tup e) (dU.same S h)
theorem dU.same{K:Frag}{H H':Hp}(S:Same H H'){xs:Β}{ds:List PyData}(h:dU K H xs ds):dU K H' xs ds:=by
 cases h with
 |nil=>exact .nil
 |cons h t=>exact .cons (iB.same S h) (dU.same S t)
end
section
variable{X:Cx}{aa:Γ}{σ:L2.St}{H:Hp}{s:Shared}
mutual
theorem Inv.readsK(I:Inv X aa σ H s){x:V}{d:PyData}{v:Value}(h:iB X.K H x d)(r:RelV x v):∃as,Reads s.heap v d as:=by
 cases h with
 |non=>cases r;exact⟨_,.none⟩
 |bl b=>cases r;exact⟨_,.bool b⟩
 |int i=>obtain⟨t,rfl⟩:=r;exact⟨_,.int i t⟩
 |str x=>obtain⟨t,rfl⟩:=r;exact⟨_,.str x t⟩
 |lst e h =>
  cases r;obtain⟨its,rv,⟨o,ho,hc,n,hd⟩⟩:=I.lstIs e;obtain⟨as,q⟩:=Inv.readsAllK I h rv;exact⟨_,.list ho hc hd q⟩
 |tup e h =>
  cases r;obtain⟨its,rv,⟨o,ho,hc,n,hd⟩,_⟩:=I.tuple e;obtain⟨as,q⟩:=Inv.readsAllK I h rv;exact⟨_,.tuple ho hc hd q⟩
theorem Inv.readsAllK(I:Inv X aa σ H s){xs:Β}{ds:List PyData}{vs:Δ}(h:dU X.K H xs ds)(r:Vals xs vs):∃as,ReadsAll s.heap vs ds as:=by
 cases h with
 |nil=>cases r;exact⟨_,.nil⟩
 |cons h t =>
  cases r with
  |cons r1 r2 =>
   obtain⟨a,q1⟩:=Inv.readsK I h r1;obtain⟨b,q2⟩:=Inv.readsAllK I t r2;exact⟨_,.cons q1 q2⟩
end
def ab3(K:Frag)(neg:Bool):R2:=λx y H Q=>∃d e,iB K H x d/\iB K H y e/\SeqAt.shaped d=true/\SeqAt.shaped e=true/\Q (.bl (if neg then !PyData.eqv d e else PyData.eqv d e)) H
theorem ab9(hu:X.A.units+64<cLine):OpR X (compareOp .Eq) (ab3 X.K false):=by
 intro aa s σ H x y v u Q I rx ry h;obtain⟨d,e,hd,he,sd,se,q⟩:=h;obtain⟨as,ra⟩:=I.readsK hd rx;obtain⟨bs,rb⟩:=I.readsK he ry;exact SeqAt.compareEq_shaped ra rb sd se hu ⟨.bl _,H,I,rfl,q⟩
theorem Z2(hu:X.A.units+64<cLine):OpR X (compareOp .NotEq) (ab3 X.K true):=by
 intro aa s σ H x y v u Q I rx ry h;obtain⟨d,e,hd,he,sd,se,q⟩:=h;obtain⟨as,ra⟩:=I.readsK hd rx;obtain⟨bs,rb⟩:=I.readsK he ry;exact SeqAt.compareNe_shaped ra rb sd se hu ⟨.bl _,H,I,rfl,q⟩
end
section
variable{X:Cx}
def WK(K:Frag):Β->Hp->VK->Prop:=λxs H Q=>∃p T ys,xs=[.ref p,.ty T]/\T∈["bool","int","str","list","tuple","dict"]/\SqT K H p ys/\Q (.bl (Hh "tuple" T)) H
theorem J3:g_ X (.builtin "isinstance") (WK X.K):=by
 intro aa s σ H xs us Q I r h;obtain⟨p,T,ys,rfl,hT,hp,q⟩:=h;obtain⟨u,v,rfl,ru,rv⟩:=r.two;cases ru;cases rv;obtain⟨its,rvs,⟨o,ho,hc,n,hd⟩,_⟩:=I.tuple hp;refine kia_one (kitx_tuple (a:=p)) I.kIn ⟨o,ho,hc⟩ (Pj (K:=X.K) (t:="tuple") (by decide) hT) (λz=>nomatch z) λtk=>⟨.bl _,H,I.tok _,rfl,q⟩
end
def OkI(P:Program)(w:World)(K:Frag)(mg:Str->Ψ)(base:Heap)(CX:CXT)(k:Nat)(f:Addr)(ps:Θ)(sp:Sp):Prop:=∃fd,dO P w K mg base CX k f fd ps sp/\Binds K fd ps []
def o8(K:Frag)(x af:Str)(st:Stmt)(ps:Θ)(f:Addr):Prop:=∃fd,Fun K x af st f fd/\∀us:Δ,us.length=ps.length->bindArgs fd ⟨us,[]⟩=pure (ps.zip us)
theorem o8.ok{P:Program}{w:World}{K:Frag}{mg:Str->Ψ}{base:Heap}{CX:CXT}{k:Nat}{x af:Str}{st:Stmt}{ps:Θ}{f:Addr}{sp:Sp}(h:o8 K x af st ps f)(hf:∀fd,Fun K x af st f fd->dO P w K mg base CX k f fd ps sp):OkI P w K mg base CX k f ps sp :=
 by obtain⟨fd,a,b⟩:=h;exact⟨fd,hf fd a,.all b⟩
theorem YT{K:Frag}{x af:Str}{st:Stmt}{ps:Θ}{f:Addr}{oc:Value}{od an:Ω}{ce:Array (Ψ)}{kV bi pm ah ct:Value}
 (l:K.lookup f=some ⟨oc,od,.func (PySem.W.fnOf x af (iZ st) (eG st) (bC st) .none kV bi pm an ah ct),ce⟩)(c:codeIn K ah af=true)(k:keepIn K (.ref f)=true)
 (hb:∀(kV bi pm:Value)(an:Ω)(ah ct:Value)(us:Δ),us.length=ps.length->bindArgs (PySem.W.fnOf x af (iZ st) (eG st) (bC st) .none kV bi pm an ah ct) ⟨us,[]⟩=pure (ps.zip us)):o8 K x af st ps f :=
 ⟨_,V2 l c k,hb kV bi pm an ah ct⟩
section
variable{X:Cx}{k:Nat}{f C B:Addr}{ps:Θ}{sp:Sp}{x m:Str}{p pos ac:Pos}{e o:Expr}{es:List Expr}{ta:TE}{t:TA}{Ex:Value->Ω->L2.St->Hp->Prop}
theorem PE.any{ι:Sort _}{R:ι->Prop}{a:Expr}{ts:ι->TE}(h:∀i,R i->PE X a (ts i)):PE X a (λσ H Q=>∃i,R i/\ts i σ H Q):=λaa s σ H Q I hP=>by obtain⟨i,r,q⟩:=hP;exact h i r aa s σ H Q I q
def zV(C:Addr)(m:Str)(sp:Sp)(ta:TE)(t:TA):TE:=λσ H Q=>ta σ H λx H1=>∃a dx fs,x=.ref a/\H1 a=some (.ins C dx fs)/\fs.lookup m=none/\t σ H1 λvs H2=>sp (x::vs) H2 Q E0
abbrev zb(X:Cx):=OkI X.prog X.w X.K X.mg X.base
theorem B_{pl:Sem Bool}(he:PE X o ta)(c:Cls X.K C)(hm:Meth X.K C m f)(G:zb X CX0 k f ps sp)(hr:dg k X.A)(ha:PA X (e::es) t)
 (az:qo X e es:=by rfl)(aw:qh X pos es:=by rfl)
 (ht:eval (.Call (.Attribute o m ac) (e::es) [] pos) X.env=(do
   let ov <- eval o X.env
   standAt ac.atName
   let(f,first) <- holding [ov] (getMethod ov m pl)
   callWith pos f first (backTo pos (starEach (e::es) X.env)) (backToKw pos (keywordEach [] X.env))):=by rfl) :
  PE X (.Call (.Attribute o m ac) (e::es) [] pos) (zV C m sp ta t):=by
 obtain⟨fd,F,hb⟩:=G;refine(Xn (pl:=pl) he.mono c hm F hr hb .nil Fj ha.mono az aw ht).imp λσ H Q h=>⟨_,h,?_⟩;rintro x H1 ⟨a,dx,fs,h1,h2,h3,h4⟩;refine⟨a,dx,fs,h1,h2,h3,_,h4,λvs H2 q=>?_⟩;show sp (x::(vs++[])) H2 Q E0;rw[List.append_nil];exact q
theorem FZ{pl:Sem Bool}(he:PE X o ta)(c:Cls X.K C)(hm:Meth X.K C m f)(G:zb X CX0 k f ps sp)(hr:dg k X.A)
 (ht:eval (.Call (.Attribute o m ac) [] [] pos) X.env=(do
   let ov <- eval o X.env
   standAt ac.atName
   let(f,first) <- holding [ov] (getMethod ov m pl)
   callWith pos f first (backTo pos (starEach [] X.env)) (backToKw pos (keywordEach [] X.env))):=by rfl) :
  PE X (.Call (.Attribute o m ac) [] [] pos) (zV C m sp ta Dk):=by
 obtain⟨fd,F,hb⟩:=G;refine(Uo (pl:=pl) he.mono c hm F hr hb .nil Fj ht).imp λσ H Q h=>⟨_,h,?_⟩;rintro x H1 ⟨a,dx,fs,h1,h2,h3,h4⟩;exact⟨a,dx,fs,h1,h2,h3,h4⟩
theorem K7{D:Addr}{pos:Pos}(hg:Gl X x)(hm:X.mg x=some (.ref D))(hd:qk x:=by decide):PE X (.Name x pos) (tC (.ref D)):=Pk hg hm rfl hd
end
def Itp(a:Addr)(o:Obj)(kvs:List (Key×V)):It:=⟨λi H=>H a=some (.frz o (.dK kvs))/\i<kvs.length,λi H v H'=>∃k y t,kvs[i]?=some (k,y)/\H t=none/\v=.ref t/\H'=upd H t (.tup [kV k,y]),λi H=>H a=some (.frz o (.dK kvs))/\i=kvs.length⟩
theorem CP:entryFor table "dict_itemiterator.__iter__"=some Builtin.«dict_keyiterator.__iter__»:=entryFor_alias (id' :="dict_keyiterator.__iter__") (by kernel_rfl) rfl (by decide +kernel) (by kernel_rfl)
theorem Nj{P:Program}{w:World}{A:Around}{E:Ξ}{s:Shared}{it d:Addr}{i n ep:Nat}{ok ov:Value}{Q:Ξ}(st:IsItemIter s.heap it d i n ep ok ov)(q:Q (.ref it) s):wpAny (model P w) A (pyIter (.ref it)) Q E s:=by
 have ty:s.TypeIs (.ref it) "dict_itemiterator":=⟨_,st,rfl⟩;exact wpAny_pyIter_slot ty F.slot_dict_itemiterator_iter (wpAny_call_entry F.slot_dict_itemiterator_iter ty CP (ZT ⟨_,rfl,"dict_itemiterator",_,ty,F.slot_dict_itemiterator_next.lookup,q⟩) (F.args_dict_itemiterator_iter_1 _))
theorem Ra{h:Heap}{o ob:Obj}{b:Addr}(e:(h.push o).get? b=some ob)(hs:b≠h.objs.size):h.get? b=some ob:=by
 obtain⟨e1,e2⟩:=Heap.get?_some_iff.mp e;refine Heap.get?_some_iff.mpr ⟨?_,e2⟩;cases h;simpa[Heap.push,Array.getElem?_push,hs]using e1
theorem MN{P:Program}{w:World}{K:Frag}{bX:List Expr}{x1}{pos:Pos}(it a:Addr)(o:Obj)(kvs:List (Key×V))(vs:List (Key×Value))(ep:Nat)(rel:KV kvs vs)(hD:∀h:Heap,h.get? a=some o->h.DictAt (fH P w) a vs ep) :
  Turn P w K (.Tuple bX x1 pos) (Itp a o kvs) [it] it (λi h=>∃ok ov,IsItemIter h it a i vs.length ep ok ov) where
 mem:=by simp
 obj:=by
  rintro i h ⟨ok,ov,st⟩ b hb;have e:b=it:=by simpa using hb
  subst e;exact⟨_,st,λv z=>by cases z⟩
 keep:=λi h h' ⟨ok,ov,st⟩ k=>⟨ok,ov,k it (by simp) _ st⟩
 item:=by
  intro X hP hw hK hc i aa s σ H E I hf st hg;subst hP hw hK;obtain⟨ok,ov,st⟩:=st;obtain⟨hg,dv⟩:=hg;obtain⟨ho,_⟩:=(show dW X.prog X.w H s.heap a (.frz o (.dK kvs))from I.hok a _ hg);obtain⟨f0,f1,f2,f3,f4,f5⟩:=hf it (by simp);obtain⟨⟨k,y⟩,hx⟩ : ∃p,kvs[i]?=some p:=⟨kvs[i],by simp[dv]⟩;obtain⟨u,hu,ru⟩:=rel.at hx;refine wpAny_pyNext_items_item st (hD _ ho) hu λbt h' dP out ht hz hk=>⟨_,rfl,?_⟩;refine wpAny_letOwnedTupleGo_items out λh2 gL sb=>?_;have nt:H s.heap.objs.size=none:=I.fresh;have ne:it≠s.heap.objs.size:=aQ (aJ st);have I1:=I.laid (a:=s.heap.objs.size) (o:=.tup [kV k,y]) (h':=s.heap.push { cls:=.type "tuple",data:=.seq #[bt,u] }) (t':=s.toks) (λb q z=>aG _ z) (aF _)
   ⟨(by show 2<=sizeLine;decide),[bt,u],.cons (Ti dP) (.cons ru .nil),_,aW _ rfl,rfl,_,rfl⟩
  have I2:=I1.turned (it:=it) (h':=h2) (t':=s.toks) (λb ob hb e=>by
   refine(sb.2 b hb).trans ?_;by_cases hs:b=s.heap.objs.size
   .subst hs;have e2:=aW s.heap (o:={ cls:=.type "tuple",data:=.seq #[bt,u] }) rfl;have e:(s.heap.push { cls:=.type "tuple",data:=.seq #[bt,u] }).get? s.heap.objs.size=some ob:=e;rw[e2]at e;cases e;exact ht
   .exact hk b _ hb (Ra e hs)) ((bM ne).trans f0) f1 f3 f4 f5
  exact⟨.ref _,_,I2,rfl,⟨k,y,_,hx,nt,rfl,rfl⟩,⟨_,_,gL⟩,λb hb=>by
   have e:b=it:=by simpa using hb
   subst e;exact(bM ne).trans f0⟩
 done:=by
  intro X hP hw hK hc i aa s σ H E I hf st hg;subst hP hw hK;obtain⟨ok,ov,st⟩:=st;obtain⟨hg,rfl⟩:=hg;obtain⟨ho,_⟩:=(show dW X.prog X.w H s.heap a (.frz o (.dK kvs))from I.hok a _ hg);obtain⟨f0,f1,f2,f3,f4,f5⟩:=hf it (by simp);have hl:=rel.length;exact wpAny_pyNext_items_end (I.ok.hd hc) st (hD _ ho) (by simp;exact X9 (Eq.symm hl)) λh' eb=>⟨rfl,I.turned (t':=s.toks) (λb ob hb e=>eb b ob hb e) f0 f1 f3 f4 f5⟩
 self:=λ_ _ _ _ _ ⟨_,_,st⟩ h=>Nj st h
section
variable{X:Cx}
def aaR(te:TE):TI:=λσ H R=>te σ H λx H1=>∃a kvs,x=.ref a/\H1 a=some (.dK kvs)/\∀o,R (Itp a o kvs) (upd H1 a (.frz o (.dK kvs)))
theorem V1{l:Expr}{tl:TE}{bX:List Expr}{x1}{aI ac pos:Pos}(hl:PE X l tl)(hb:attributeBase l "items" X.env (eval l X.env)=eval l X.env)(hn:zw ac pos):PI X (.Tuple bX x1 aI) (.Call (.Attribute l "items" ac) [] [] pos) (aaR tl):=by
 intro aa s σ H R I h;refine wpAny_Call_method (T:="dict") (id:="dict.items") hb rfl hn PySem.F.plainAttrs_dict PySem.F.slot_dict_items PySem.F.type_dict_items (thn (hl aa s σ H _ I h) λv s1 hP=>?_);obtain⟨x,H1,I1,r1,a,kvs,ex,ha,q⟩:=hP;subst ex;cases r1;have ok:=(show dW X.prog X.w H1 s1.heap a (.dK kvs)from I1.hok a _ ha);obtain⟨z,hd,vs,rel,o,es,ep,e,ex,ed,ek,fe,en⟩:=ok;have hD:∀h:Heap,h.get? a=some o->h.DictAt (fH X.prog X.w) a vs ep:=λh e=>⟨o,es,e,ex,ed,ek,fe,en⟩;have I2:Inv X aa σ (upd H1 a (.frz o (.dK kvs))) s1:=by
  have:=I1.write (x:=a) (e:=a) (o:=.frz o (.dK kvs)) (h':=s1.heap) (t':=s1.toks) (by rw[ha];exact True.intro) (.inl rfl) (λb u hb z=>z) ⟨o,e⟩ ⟨e,z,hd,vs,rel,o,es,ep,e,ex,ed,ek,fe,en⟩;exact this
 have hm:s1.heap.DictOf (fH X.prog X.w) a vs:=⟨o,es,ep,e,ex,ed,ek,fe,en⟩;refine⟨hm.typeIs,hm.mapOf.noDict,?_⟩;refine method_meetsIn PySem.F.slot_dict_items PySem.F.entry_dict_items rfl (PySem.evalArgs_none ⟨rfl,hm.typeIs,PySem.F.args_dict_items_1 _,_,meets_dict_items (fH X.prog X.w) a hd,⟨vs,hm⟩,?_⟩);have I3:Inv X aa σ (upd H1 a (.frz o (.dK kvs))) { s1 with heap:=s1.heap.push { cls:=.type "dict_items",data:=.fields #[.ref a] } }:=I2.kept (t':=s1.toks) λb ob z=>aG _ z;refine wpAny_pyIter_items ⟨_,aW _ rfl,rfl,rfl⟩ (hD _ (aG _ e)) ?_;refine⟨_,[_],_,Itp a o kvs,_,rfl,I3.kept (t':=s1.toks) λb ob z=>aG _ z,MN _ a o kvs vs ep rel hD,⟨_,_,aW _ rfl⟩,λb hb=>?_,q o⟩;rw[YR.mp hb];exact I3.fpOk (aF _) (I3.hok.fresh (aF _))
end
section
variable{X:Cx}
theorem J1:∀{ys:Θ}{vs:Δ},Vals (ys.map V.str) vs->StrsAre vs ys
 |[],_,h=>by cases h;exact .nil
 |y::ys,_,h=>by
  rw[List.map_cons]at h;cases h with
  |cons a b =>
   obtain⟨t,rfl⟩:=a;exact .cons y t (J1 b)
def rJoin:V->Β->Hp->VK->Prop:=λx vs H Q=>∃a l ys,x=.str a/\vs=[.ref l]/\H l=some (.lst (ys.map V.str))/\(ys.map (·.length)).sum+ys.length*a.length<=16777216/\Q (.str (Txt.join a ys)) H
theorem Ye:MtM X "str.join" rJoin:=by
 intro aa s σ H x vs v us Q I rx rv h;obtain⟨a,l,ys,rfl,rfl,hl,hz,q⟩:=h;obtain⟨t,rfl⟩:=rx;obtain⟨u,rfl,ru⟩:=rv.one;cases ru;obtain⟨_,its,n,r,_,e⟩:=I.lstM hl;exact join_list ⟨_,e,rfl,n,rfl⟩ (by simpa using J1 r) hz λt' k=>⟨.str _,H,I.tok _,⟨_,rfl⟩,q⟩
end
section
variable{X:Cx}{a9 iter:Expr}{pos:Pos}{scope:Scope}{wi:TI}{te:TE}
theorem Vy{ext:Addr->List (Str×Addr)}{fn:Str->Bool}{i0:Nat}{y0:Str}{py bE:Pos}{xs N':Θ}{tg:Expr}{ay:List Expr}{gt:TG}{tc:TT}(E:Ol X scope xs ext fn)(hc:X.calm=true)(eT:E_ xs X.N=N')(bu:scope.kind=.function)(bS:∀y∈scope.names,y.2=.local->scope.names.lookup y.1=some .local)
 (bp:∀y∈scope.names,y.2=.free->X.env.kindOf y.1=some .cell\/X.env.kindOf y.1=some .free)(dy:∀y∈X.N,y∉xs->(relabel scope X.env).names.lookup y≠some .local)(hq:∀y∈X.N,y∈xs->(relabel scope X.env).names.lookup (hid y)=none)(hi:PI X tg iter wi)
 (hg:∀C s₀ H₀ ex pn,PG (X.compE ext fn N' scope xs C s₀ H₀ ex pn) tg gt)(ht:∀C s₀ H₀ ex pn,PTs (X.compE ext fn N' scope xs C s₀ H₀ ex pn) ay tc)(he:∀C s₀ H₀ ex pn,PE (X.compE ext fn N' scope xs C s₀ H₀ ex pn) a9 te)(gp:PG X (.Name y0 py) (o7 i0))(f8:swapsWith (.ListComp a9 [⟨tg,iter,ay,0⟩] scope pos) (some (.Name y0 py)) bE.line X.env=pure true)(hs:qV X iter) :
  PS X (.Assign [.Name y0 py] (.ListComp a9 [⟨tg,iter,ay,0⟩] scope pos) bE) (Y0 (uW wi xs.length gt tc te) (o7 i0)):=by
 intro aa s σ H D0 I h;have h:uW wi xs.length gt tc te σ H (λx H1=>o7 i0 x σ H1 D0.nx):=h;rw[exec_Assign_Name_used _ _ _ _ f8];refine ZU (wpAny_standAt (ZU ?_));show wpAny _ X.A (comprehension (.ListComp a9 [⟨tg,iter,ay,0⟩] scope pos) scope X.env _ (newList []) false (eval iter X.env) (some (assign (.Name y0 py) X.env)) >>= λ_=>_) _ _ s;refine ZU (wpAny_mono (Ez (use:=some (assign (.Name y0 py) X.env)) (post:=λ_ s'=>SP X aa D0 .next s') E hc eT bu bS bp dy hq hi hg ht he hs I h λC D Hc s6 m fl h9 I6 fC qn=>?_) (λ_ s' hq=>ZT (ZT hq)) λ_ _ e=>e);obtain⟨oc,es,ep,ho,lb,_⟩:=id h9;have I7:=I6.pinned (fp:=[C]) (λb hb=>by rw[YR.mp hb];exact fC) λb hb=>by
  rw[YR.mp hb];exact⟨oc,ho,λv z=>by rw[lb]at z;cases z⟩
 show wpAny _ X.A (assign (.Name y0 py) X.env _) _ _ s6;refine thn (gp _ s6 σ Hc (.ref D) _ D0.nx I7 rfl qn) λ_ s7 hP=>?_;obtain⟨σ7,H7,Z7,q7⟩:=hP;have pn7:=Z7.pin (C,oc) (aP _ (aP _ (mL (by simp) ho)));refine⟨m,h9.at' λo e=>?_,λh' kF=>⟨σ7,H7,Z7.unpinned.turned (it:=C) (h':=h') (t':=s7.toks) (λb o hb e=>(kF.2 b hb).trans e) pn7.2.1 fC.2.1 fC.2.2.2.1 fC.2.2.2.2.1 fC.2.2.2.2.2,q7⟩⟩;rw[ho]at e;cases e;exact pn7.1
end
section
variable{X:Cx}
theorem Pq(c:Nat):∀(n:Nat)(acc:Array Nat),((List.replicate n #[c]).foldl (· ++ ·) acc).toList=acc.toList++List.replicate n c
 |0,acc=>by simp
 |n+1,acc=>by
  rw[List.replicate_succ,List.foldl_cons,Pq c n,Array.toList_append,XT]
  rfl
def acs:R2:=λx y H Q=>∃c n,x=.str ⟨#[c]⟩/\y=.int n/\1<=n/\n<=1000/\∀z:Str,z.cps.toList=List.replicate n.toNat c->Q (.str z) H
theorem XD:OpR X (binaryOp .Mult) acs:=by
 intro aa s σ H x y v u Q I rx ry h;obtain⟨c,n,rfl,rfl,h0,h1,q⟩:=h;obtain⟨t,rfl⟩:=rx;obtain⟨t',rfl⟩:=ry;have hi:(⟨#[c]⟩ : Str).length=1:=rfl;have made:∀z:Str,z.cps.toList=List.replicate n.toNat c->(Made.str z).post (EP X aa σ Q) s:=λz hz=>⟨by
  have:z.length=n.toNat:=by
   show z.cps.size=_;rw[<- Array.length_toList,hz,aN]
  exact aL (show z.length<=1001 by lia) (by decide),.str z,H,I.tok _,⟨_,rfl⟩,q z hz⟩
 refine PySem.P.mul_str ?_ (λ_ _=>?_) (λ_ _=>?_) ?_
 .rw[Zp (by lia),Zp (by lia)];rfl
 .rw[hi];have:1<=(2^63-1:Int)/n:=Int.le_ediv_of_mul_le (by omega) (by lia);lia
 .rw[hi];unfold Builtin.Str.tooLong;exact Zp (by
   have:n.toNat<=1000:=by lia
   have e:1000<=sizeLine:=by decide
   lia)
 .split
  .lia
  .split
   .rename_i hc
    rw[hi]at hc;have e:n.toNat=1:=by
     simp at hc;lia
    refine⟨.str ⟨#[c]⟩,H,I,⟨t,rfl⟩,q _ ?_⟩;rw[e];rfl
   .refine made _ ?_;show((List.replicate n.toNat #[c]).foldl (· ++ ·) #[]).toList=_;rw[Pq];rfl
end
section
variable{prog:Program}{w:World}{A:Around}{E:Ξ}{h:Heap}{g:Array GenState}{d:Drawn}{t:Nat}{os:OsState}{nm q:Str}{C N:Addr}{bs bm j0:Δ}{eJ:Bool}{sn:Θ}{sub:Δ}{ab:Bool}{col:Option Bool}{dd:Ω}{k0 k1 k2 k3 k5:Ψ}{B cz dq:String}
abbrev Fv(h:Heap)(C:Addr)(us:Δ):Heap:=(h.push { cls:=.type "tuple",data:=.seq us.toArray }).push { cls:=.ref C,data:=.fields #[.ref h.objs.size,.none,.none,.none,.bool false,.none] }
theorem yH{us:Δ}(b:Addr)(o:Obj)(e:h.get? b=some o):(Fv h C us).get? b=some o:=aG _ (aG _ e)
theorem DR(F:ExcBaseFacts B cz dq j0)(T:OwnTail h j0 bm){mN:Str->Ψ}{us:Δ}{fI:Addr}{oI:Obj}{Q:Fin->Shared->Prop}(hC:h.get? C=some (excClassObj nm q C N bs bm eJ sn sub ab col dd k0 k1 k2 k3 k5 cz))(hn:h.Ns N mN)(hi:mN "__init__"=some (.ref fI))(hf:h.get? fI=some oI)(hc:oI.cls=.type "function")(hl:us.length<=sizeLine)
 (hq:wpAny (model prog w) A (call (.ref fI) (.ref (h.objs.size+1)::us)) (λr s'=>r=.none/\Q (.done (.ret (.ref (h.objs.size+1)))) s') E ⟨Fv h C us,g,d,t,os⟩):wpAny (model prog w) A (Builtin.«type.__call__» ⟨.ref C::us,[]⟩) Q E ⟨h,g,d,t,os⟩:=by
 have K:=yH (h:=h) (C:=C) (us:=us);have C1:=K _ _ hC;have T1:=T.keeps K;have at_:(Fv h C us).get? (h.objs.size+1)=some { cls:=.ref C,data:=.fields #[.ref h.objs.size,.none,.none,.none,.bool false,.none] }:=by heap_get
 have isC:(Value.ref C::bm).contains (.ref C)=true:=by simp
 repeat (first|with_reducible refine wpAny_loadPart_at hC ?_|with_reducible refine wpAny_madeBy_exc hC ?_|wp_step)
 refine codeAny_call_builtin_code (Code.quiet_builtin _ F.quiet) (wpAny_check_new_subT F T hC (codeAny_exc_new_subT F T hC ?_ hl));show wpAny _ _ _ _ _ _;unfold isInstance
 repeat (first|with_reducible refine wpAny_loadPart_at at_ ?_|(with_reducible refine wpAny_isSubtype_exc C1 ?_;rw[isC])|wp_step)
 show wpAny _ _ (typeLookup (.ref C) _) _ _ _;refine wpAny_typeLookup_tail C1 (hn.keeps K) T1 F.mroIs F.init.lookup ?_;rw[hi];refine wpAny_holding (ZU ?_);unfold bindSpecial;refine ZU (wpAny_typeOf (T:="function") ⟨_,K _ _ hf,hc⟩ ?_);rw[ZY (by decide)];refine ZT (ZU (wpAny_mono hq (λr s' hP=>?_) λ_ _ x=>x));obtain⟨e,z⟩:=hP;subst e
 wp_walk
 exact z
theorem Sh(F:ExcBaseFacts B cz dq j0)(T:OwnTail h j0 bm){mN:Str->Ψ}{us:Δ}{fI:Addr}{oI:Obj}{Q:Ξ}(hC:h.get? C=some (excClassObj nm q C N bs bm eJ sn sub ab col dd k0 k1 k2 k3 k5 cz))(hn:h.Ns N mN)(hi:mN "__init__"=some (.ref fI))(hf:h.get? fI=some oI)(hc:oI.cls=.type "function")(hl:us.length<=sizeLine)
 (hq:wpAny (model prog w) (A.under (.builtin "type.__call__" ⟨.ref C::us,[]⟩)) (call (.ref fI) (.ref (h.objs.size+1)::us)) (λr s'=>r=.none/\Q (.ref (h.objs.size+1)) s') E ⟨Fv h C us,g,d,t,os⟩):wpAny (model prog w) A (call (.ref C) us) Q E ⟨h,g,d,t,os⟩:=by
 have a1:=tc_lookup;have a2:=tc_bind (.ref C);have a3:(⟨h,g,d,t,os⟩ : Shared).TypeIs (.ref C) "type":=⟨_,hC,rfl⟩;refine wpAny_call (codeAny_of_tree ?_);show wpAny _ _ (callAny (.ref C) _) _ _ _
 repeat (any_goals (first|assumption|with_reducible refine wpAny_loadPart_at hC ?_|wp_step))
 exact⟨rfl,codeAny_call_builtin_at (Code.quiet_builtin _ (by decide +kernel)) entry_typeCall (wpAny_check_type_call_sub hC (DR F T hC hn hi hf hc hl hq))⟩
end
def I_:Δ->Bool
 |.ref _::l=>I_ l
 |l=>l==bmV
theorem M6{self:Value}{l:Δ}(h:I_ l=true):refuseLoop self "__setattr__" l=pure ():=by
 induction l with
 |nil=>cases h
 |cons x l ih =>
  cases x with
  |ref C=>rw[refuseLoop_ref];exact ih h
  |type n =>
   have e:Value.type n::l=bmV:=beq_iff_eq.mp h;rw[e];exact PySem.F.store_ValueError.passes self
  |_=>exact absurd (beq_iff_eq.mp h) (by intro z;cases z)
structure Rj(K:Frag)(C:Addr):Prop where
 cd:∃cd,clsIn K C=some cd/\cd.hasDict=true/\I_ cd.mro=true
 sa:findIn K (.ref C) "__setattr__"=some (some (.builtin "object.__setattr__"))
 mo:mroIn K C (.type "object")=some true
section
variable{prog:Program}{w:World}{A:Around}{E:Ξ}{K:Frag}{s:Shared}{x C:Addr}{ox:Obj}{f:Str}{v:Value}{vs:Array Value}
theorem W0{Q:Unit->Shared->Prop}(X:K.In s.heap)(S:Rj K C)(n:bN K C f)(hx:s.heap.get? x=some ox)(hc:ox.cls=.ref C)(hd:ox.dict=none)(hv:ox.data=.fields vs)
 (hq:∀h' t',h'.Ns1 s.heap.objs.size (λy=>if y=f then some v else none)->h'.get? x=some { ox with dict:=some s.heap.objs.size }->(∀b,b≠x->b≠s.heap.objs.size->h'.get? b=s.heap.get? b)->Q () ⟨h',s.gens,s.drawn,t',s.os⟩):wpAny (model prog w) A (setAttr (.ref x) f v) Q E s:=by
 obtain⟨cd,a6,k9,hm⟩:=S.cd;have J:PySem.W.InstAt s.heap x ox C none:=⟨hx,hc,by unfold notCls;rw[hv],by rw[hd];trivial⟩;have SF:=PySem.F.store_object;refine set_plain X J S.sa ?_;have sub:PySem.W.Looks (model prog w) s.heap (isInstance (.ref x) (.type "object")) true:=J.type.andThen (looks_mroIn X S.mo);have lm:PySem.W.Looks (model prog w) s.heap (mroOf (.ref C)) cd.mro:=(looks_clsIn X a6).andThen .now;generalize gc:({ s with toks:=s.toks+1 } : Shared)=s1;have e1:s1.heap=s.heap:=by rw[<- gc]
 rw[<- e1]at sub lm X J;refine codeAny_call_builtin SF.slot.plain SF.entry (@PySem.W.check_slot (model prog w) _ _ s1 "object.__setattr__" "object" "__setattr__" (.ref x) [.str f s.toks,v] [] _ SF.kind SF.split sub (SF.args (.ref x) (.str f s.toks) v) ?_);rw[PySem.W.osa_eq,refuse_eq];refine ZU (ZU (J.type.here (ZU (lm.here ?_))));rw[M6 hm];refine ZT (ZU (J.type.here (ZU ((looks_findIn X n).here (ZU (ZT ?_))))));have ky:s1.heap.get? x=some ox:=by rw[e1];exact hx
 obtain⟨oc,odi,oda,ce⟩:=ox;dsimp only at hc hd hv;subst hc hd hv;refine ZU (ZT (ZU (ZU (wpAny_loadPart ky (ZU ((looks_clsIn X a6).here ?_))))));rw[k9,ZZ (by simp),ZZ (by simp[typeHasDict])];have e0:=gc;obtain⟨hp,gg,dr,tk,os⟩:=s1;dsimp only at ky e1 ⊢;cases e0;have hxs:x≠s.heap.objs.size:=aQ (aJ hx);refine ZU (wpAny_alloc' (ZU (wpAny_update' (aG _ hx) (ZT ?_))));generalize hu:(s.heap.push { cls:=.type "dict",data:=.dict #[] }).update x _=hU;have q1:hU.get? s.heap.objs.size=some { cls:=.type "dict",data:=.dict #[] }:=by
  rw[<- hu];exact(Heap.get?_update_ne _ _ _ _ hxs.symm).trans (Heap.get?_push_at rfl rfl)
 have q2:hU.get? x=some { cls:=.ref C,dict:=some s.heap.objs.size,data:=.fields vs,slots:=ce }:=by
  rw[<- hu];exact Heap.get?_update_self _ (aG _ hx) rfl
 have q3:∀b,b≠x->b≠s.heap.objs.size->hU.get? b=s.heap.get? b:=λb n1 n2=>by
  rw[<- hu];exact(Heap.get?_update_ne _ _ _ _ n1).trans (Heap.get?_push_ne _ _ _ n2)
 dsimp only;unfold Builtin.ObjectAttr.storeInDict Builtin.ObjectAttr.newKeyGuard;refine ZU (ZT (ZU (wpAny_nsSet1 (Heap.Ns1.of_empty ⟨_,#[],_,q1,rfl,λ_ z=>absurd z (by simp),λ_=>rfl⟩) λh' hn hs=>?_)));obtain⟨oD,esD,epD,kK,gu,cw⟩:=hn.count (Within.cons f v Within.nil);refine ZU (wpAny_lookBehind kK (by rw[gu];exact pastItsLine_dict (aL cw (by rw[List.length_cons,List.length_nil,sizeLine_eq];exact Nat.le_add_left _ _))) ?_)
 wp_walk
 exact hq h' _ hn ((hs.2 x hxs).trans q2) λb n1 n2=>(hs.2 b n2).trans (q3 b n1 n2)
end
structure Dq(K:Frag)(C HE fI:Addr):Prop where
 ex:∃nm qn N bs sn sub ab col dd k0 k1 k2 k3 k5,K.lookup C=some (excClassObj nm qn C N bs (.ref HE::bmV) true sn sub ab col dd k0 k1 k2 k3 k5 "ValueError.__new__")/\nsOkIn K N=true/\nsIn K N "__init__"=some (some (.ref fI))
 he:ab6 K HE
 fn:∃o,K.lookup fI=some o/\o.cls=.type "function"
 kp:keepIn K (.ref C)=true
theorem X_{K:Frag}{h:Heap}{N:Addr}{m:Str->Ψ}{n:Str}{v:Value}(X:K.In h)(G:h.Ns N m)(e:nsIn K N n=some (some v)):m n=some v:=by
 obtain⟨o,es,ep,ho,hd,_,hf⟩:=G;rw[<- hf];unfold nsIn at e;split at e
 .rename_i q
  cases(X _ _ q).symm.trans ho;cases hd;unfold nsFind findBy;rw[<- Array.find?_toList];split at e
  .rename_i en he
   cases e;rw[he];rfl
  .split at e<;>cases e
 .cases e
theorem Dq.obj{K:Frag}{h:Heap}{C HE fI:Addr}(q:Dq K C HE fI)(X:K.In h):∃nm qn N bs sn sub ab col dd k0 k1 k2 k3 k5 mN o,h.get? C=some (excClassObj nm qn C N bs (.ref HE::bmV) true sn sub ab col dd k0 k1 k2 k3 k5 "ValueError.__new__") /\
  h.Ns N mN/\mN "__init__"=some (.ref fI)/\h.get? fI=some o/\o.cls=.type "function"/\OwnTail h bmV (.ref HE::bmV):=by
 obtain⟨nm,qn,N,bs,sn,sub,ab,col,dd,k0,k1,k2,k3,k5,l,a,b⟩:=q.ex;obtain⟨o,lo,ho⟩:=q.fn;obtain⟨bm,N',nm',qn',bs',bg,sn',sub',ab',col',mi,k0',k1',k2',k3',k5',mN',hC,hN,hi,T⟩:=Yx X q.he;exact⟨nm,qn,N,bs,sn,sub,ab,col,dd,k0,k1,k2,k3,k5,_,o,X _ _ l,.of_isNs (isNs_of_in X a),X_ X (.of_isNs (isNs_of_in X a)) b,X _ _ lo,ho,.own hC hN hi .base⟩
abbrev K1(C t:Addr)(d:Ω):Obj:={ cls:=.ref C,dict:=d,data:=.fields #[.ref t,.none,.none,.none,.bool false,.none] }
def XN(a C:Addr)(d:Ω):HO:=.ext λh=>∃t,h.get? a=some (K1 C t d)
theorem U_{P:Program}{w:World}{H:Hp}{h:Heap}{a C t:Addr}{d:Ω}(e:h.get? a=some (K1 C t d)):dW P w H h a (XN a C d):=⟨⟨t,e⟩,⟨_,e⟩,λ_ _ ⟨u,z⟩ k=>⟨u,k _ z⟩⟩
theorem Oe{P:Program}{w:World}{H:Hp}{h:Heap}{a C:Addr}{d:Ω}(e:dW P w H h a (XN a C d)):∃t,h.get? a=some (K1 C t d):=e.1
theorem abZ{H:Hp}{a:Addr}{o:HO}(e:H a=some o):upd H a o=H:=by
 funext b;unfold upd;split
 .rename_i z;rw[z,e]
 .rfl
structure Wa(K:Frag)(B:Addr):Prop where
 ga:specialIn K (.ref B) "__getattribute__"=some (some (.builtin "type.__getattribute__"))
 rd:readsIn K B (.type "type")=true
 at_:findCls K (.ref B) (.type "type") "__init__"=some (.val (.builtin "ValueError.__init__"))
section
variable{X:Cx}{B C HE fI:Addr}{x:Str}{p pos ac:Pos}{e:Expr}{es:List Expr}{t:TA}{aa:Γ}{σ:L2.St}{H:Hp}{s:Shared}
theorem init_exc{A:Around}{E:Ξ}{Q:Ξ}{a:Addr}{us:Δ}(I:Inv X aa σ H s)(q:Dq X.K C HE fI)(ha:H a=some (XN a C none))(hl:us.length<=sizeLine)
 (h:∀s',Inv X aa σ H s'->Q .none s'):wpAny (model X.prog X.w) A (call (.builtin "ValueError.__init__") (.ref a::us)) Q E s:=by
 obtain⟨nm,qn,N,bs,sn,sub,ab,col,dd,k0,k1,k2,k3,k5,mN,o,hC,hN,hi,hf,kX,T⟩:=q.obj I.kIn;obtain⟨u,hx⟩:=Oe (I.hok a _ ha);have F:=PySem.F.excBase_ValueError;obtain⟨hp,gs,dr,tk,os⟩:=s;refine wpAny_call (codeAny_call_builtin F.init.plain F.initEntry (wpAny_check_init_subT F T hC hx rfl ?_))
 wp_walk
 refine h _ ?_;have e1:(hp.push { cls:=.type "tuple",data:=.seq us.toArray }).get? a=some (K1 C u none):=aG _ hx;have J:=I.write (x:=a) (e:=a) (o:=XN a C none) (t':=tk) (h':=(hp.push { cls:=.type "tuple",data:=.seq us.toArray }).update a (Obj.mapFields λx=>x.setIfInBounds 0 (Value.ref hp.objs.size))) (by rw[ha];trivial) (.inl rfl)
  (λb v n z=>(Heap.get?_update_other _ _ (Ne.symm n)).trans (aG _ z)) ⟨_,Heap.get?_update_self _ e1 rfl⟩ (U_ (t:=hp.objs.size) (Heap.get?_update_self _ e1 rfl))
 rwa[abZ ha]at J
def aaA(C:Addr)(t:TA):TE:=λσ H Q=>t σ H λvs H1=>∃a ws,vs=.ref a::ws/\H1 a=some (XN a C none)/\ws.length<=sizeLine/\Q .non H1
theorem JN{pl:Sem Bool}(c:Wa X.K B)(q:Dq X.K C HE fI)(hg:Gl X x)(hm:X.mg x=some (.ref B))(ha:PA X (e::es) t)(a8:qk x:=by decide)
 (az:qo X e es:=by rfl)(aw:qh X pos es:=by rfl)
 (ht:eval (.Call (.Attribute (.Name x p) "__init__" ac) (e::es) [] pos) X.env=(do
   let ov <- eval (.Name x p) X.env
   standAt ac.atName
   let(f,first) <- holding [ov] (getMethod ov "__init__" pl)
   callWith pos f first (backTo pos (starEach (e::es) X.env)) (backToKw pos (keywordEach [] X.env))):=by rfl) :
  PE X (.Call (.Attribute (.Name x p) "__init__" ac) (e::es) [] pos) (aaA C t):=by
 intro aa s σ H Q I h;refine methodCall_KW (pl:=pl) (nM I hg hm (method_cls I.kIn c.ga (cls_value I.kIn c.rd c.at_ (by decide) ?_)) a8) ht;show wpAny _ _ (callWith pos (.builtin "ValueError.__init__") [] (backTo pos (starEach (e::es) X.env)) []) _ _ _;have h2:=ha pos aa _ σ H _ (I.tok (s.toks+1)) h;rw[az]at h2 ⊢;refine PySem.W.callWith_of (P:=λ_=>True) (by show((false || (backTo pos (starEach es X.env)).any (·.1)) || false)=false;rw[aw];rfl) (λ_ _=>⟨.machine,.inr (.inl rfl),.now⟩) (Calls.evalArgs_plain (thn h2 λus s2 ⟨vs,H2,I2,r,a,ws,e1,e2,e3,e4⟩=>⟨trivial,?_⟩));subst e1;cases r with
 |cons r1 r2 =>
  cases r1;exact init_exc I2 q e2 (by rw[<- r2.length];exact e3) λs' J=>⟨.non,H2,J,rfl,e4⟩
end
section
variable{X:Cx}{aa:Γ}{σ:L2.St}{H:Hp}{s:Shared}{a C HE fI:Addr}{f:Str}{v:V}{A:Around}{E:Ξ}
theorem QD{u:Value}{Q:Unit->Shared->Prop}(I:Inv X aa σ H s)(e:H a=some (XN a C none))(c:Rj X.K C)(n:bN X.K C f)(r:RelV v u)
 (h:∀d s',H d=none->d≠a->Inv X aa σ (upd (upd H a (XN a C (some d))) d (.xd [(f,v)])) s'->Q () s'):wpAny (model X.prog X.w) A (setAttr (.ref a) f u) Q E s:=by
 obtain⟨t,ha⟩:=Oe (I.hok a _ e);have nd:H s.heap.objs.size=none:=I.hok.fresh (aF _);have na:s.heap.objs.size≠a:=(aQ (aJ ha)).symm;refine W0 I.kIn c n ha rfl rfl rfl λh' t' hn hx ho=>h s.heap.objs.size _ nd na ?_;have J:=I.write (x:=a) (e:=a) (o:=XN a C (some s.heap.objs.size)) (t':=t') (h':=h') (by rw[e];trivial) (.inl rfl) (λb w z q=>(ho b z (aQ (aJ q))).trans q) ⟨_,hx⟩ (U_ hx);refine J.track ((bM na).trans nd) (Heap.get?_none_of_le I.sz) (VW I.lt) (λx c q z=>?_) (λp q z=>?_) ⟨_,hn,λg=>?_⟩
 .obtain⟨w,o,q',_⟩:=I.cell x c q;rw[z]at q';exact XV _ (aJ q')
 .have q':=(I.pin p q).1;rw[z]at q';exact XV _ (aJ q')
 .by_cases z:g=f
  .subst z;simp[List.lookup];exact r
  .have:(g==f)=false:=by simp[z]
   simp[List.lookup,this,z]
   trivial
def aeg(K:Frag)(ta tv:TE)(f:Str):TS:=λD σ H=>tv σ H λy H1=>ta σ H1 λx H2=>∃a C,x=.ref a/\H2 a=some (XN a C none)/\Rj K C/\bN K C f/\∀d,H2 d=none->d≠a->D.nx σ (upd (upd H2 a (XN a C (some d))) d (.xd [(f,y)]))
theorem O6{o am:Expr}{ta tv:TE}{pos ar:Pos}(ha:PE X o ta)(hv:PE X am tv)(hs:swapsWith am (some (.Attribute o f ar)) pos.line X.env=pure false):PS X (.Assign [.Attribute o f ar] am pos) (aeg X.K ta tv f):=by
 intro aa s σ H D I h;refine plainObj_wpAny_Assign_Attribute (thn (hv aa s σ H _ I h) λu s1 ⟨y,H1,I1,ry,q⟩=>thn (ha aa s1 σ H1 _ I1 q) λov s2 hP=>?_) hs;obtain⟨x,H2,I2,rx,a,C,ex,ea,c,n,q2⟩:=hP;subst ex;obtain rfl:ov=Value.ref a:=rx;exact QD I2 ea c n ry λd s3 h1 h2 I3=>⟨σ,_,I3,q2 d h1 h2⟩
theorem Inv.madeE{us:Δ}(I:Inv X aa σ H s):Inv X aa σ (upd H (s.heap.objs.size+1) (XN (s.heap.objs.size+1) C none)) { s with heap:=Fv s.heap C us } :=
 I.laid (a:=s.heap.objs.size+1) (o:=XN (s.heap.objs.size+1) C none) (h':=Fv s.heap C us) (t':=s.toks) yH (Xs _) (U_ (t:=s.heap.objs.size) (by heap_get))
theorem RG{k:Nat}{fd:FuncData}{ps:Θ}{sp:Sp}{us:Δ}{vs:Β}{Q:Addr->Hp->Prop}(q:Dq X.K C HE fI)(F:dO X.prog X.w X.K X.mg X.base CX0 k fI fd ps sp)(hr:dg (k+1) X.A)(hb:Binds X.K fd ps [])
 (I:Inv X aa σ H s)(r:Vals vs us)(hl:us.length<=sizeLine)(h:∀x,H x=none->sp (.ref x::vs) (upd H x (XN x C none)) (λv H2=>v=.non/\Q x H2) E0) :
  wpAny (model X.prog X.w) X.A (call (.ref C) us) (λu s'=>∃a H',u=.ref a/\X.s₀.heap.objs.size<=a/\Inv X aa σ H' s'/\Q a H') X.xe s:=by
 obtain⟨nm,qn,N,bs,sn,sub,ab,col,dd,k0,k1,k2,k3,k5,mN,o,hC,hN,hi,hf,kX,T⟩:=q.obj I.kIn;have hq:=h (s.heap.objs.size+1) (I.hok.fresh (Xs _));have I2:=I.madeE (C:=C) (us:=us);have r2:Vals (V.ref (s.heap.objs.size+1)::vs) (Value.ref (s.heap.objs.size+1)::us):=.cons rfl r;have hl2:(Value.ref (s.heap.objs.size+1)::us++[]).length=ps.length:=by
  rw[List.append_nil,<- r2.length];exact F.len _ _ _ _ hq
 have gv:=hb _ (Value.ref (s.heap.objs.size+1)::us) I2.kIn hl2;rw[List.append_nil]at gv;have sz:=I.sz;obtain⟨hp,g,d,t,os⟩:=s;refine Sh PySem.F.excBase_ValueError T hC hN hi hf kX hl (wpAny_call (codeAny_mono (F.run _ X.stack _ _ ⟨Value.ref (hp.objs.size+1)::us,[]⟩ _ _ _ E0 (hr.make C us []) (I2.env0.make C us []) gv r2 hq) λr s' dt=>?_));cases r with
 |error e=>exact Fj aa σ _ _ e s' I2 dt
 |ok fl =>
  cases fl with
  |ret u =>
   obtain⟨v,H',I3,rv,ev,q3⟩:=I2.after dt;subst ev;exact⟨rv,hp.objs.size+1,H',rfl,Nat.le_succ_of_le sz,I3,q3⟩
  |next=>exact False.elim dt
  |brk=>exact False.elim dt
  |cont=>exact False.elim dt
end
def out(H:Hp)(a:Addr):Hp:=λb=>if b=a then none else H b
theorem Jx{H:Hp}{a:Addr} : out H a a=none:=by unfold out;rw[ZY rfl]
theorem qQ{H:Hp}{a b:Addr}(n:b≠a):out H a b=H b:=by unfold out;rw[ZZ n]
theorem Kr{H:Hp}{a b:Addr}{o:HO}(e:out H a b=some o):b≠a/\H b=some o:=by
 by_cases z:b=a
 .subst z;rw[Jx]at e;cases e
 .exact⟨z,by rw[qQ z]at e;exact e⟩
section
variable{X:Cx}{aa:Γ}{σ:L2.St}{H:Hp}{s:Shared}{a C:Addr}{B h':Heap}{d:Ω}
theorem Inv.flyMade(I:Inv X aa σ H s)(hx:X.ex=[])(e:H a=some (XN a C d))(sz:X.s₀.heap.objs.size<=a)(hB:B=hideAll (s.heap.hide a) (frs X.stack))(fl:qN B X.outer a (.ref C) d .none h')(up:s.heap.UpToSlots h') :
  Fly X.prog X.w X.outer X.H₀ X.s₀ a (.ref C) (out H a) { s with heap:=h' } B d:=by
 have i9:∀b o,b≠a->s.heap.get? b=some o->b∉frs X.stack->B.get? b=some o:=λb o n q m=>by rw[hB];exact hideAll_get _ ((Heap.hide_ne _ n).trans q) m
 have ni:∀b u,H b=some u->b∉frs X.stack:=λb u q z=>by rw[I.stkFree b z]at q;cases q
 have trk:∀b u o,b≠a->H b=some u->s.heap.get? b=some o->B.get? b=some o:=λb u o n q r=>i9 b o n r (ni b u q);have na:∀b,H b=none->b≠a:=λb q z=>by rw[z,e]at q;cases q
 have nf:∀b∈frs X.stack,∀o,s.heap.get? b=some o->∀vs,o.data≠.fields vs:=λb hb o q=>by
  obtain⟨_,o',e',z⟩:=I.stack.mem hb;rw[q]at e';cases e';exact z
 have hok:HOk X.prog X.w (out H a) h':=λb u q=>by
  obtain⟨n,q⟩:=Kr q;refine(I.hok b u q).stay (λc v hc r=>?_) (λc r=>?_) λc xs r=>?_
  .rcases hc with z|z
   .subst z;exact fl.1 c v (trk c u v n q r)
   .exact fl.1 c v (trk c _ v (BK z e (by intro z;cases z)) z r)
  .rw[qQ (BK r e (by intro z;cases z))];exact r
  .rw[qQ (BK r e (by intro z;cases z))];exact r
 have un:Un (frs X.stack) [a] H (out H a) s.heap h':=by
  refine⟨λb o q n hb _=>fl.1 b o (i9 b o (na b n) q hb),λb o q n hb _=>up b o q (nf b hb o q),λb o _ n _=>by rw[qQ (na b n)];exact n,λb o q hb=>?_,λb xs q=>?_,λb o u q=>?_,λb ps q=>⟨#[],?_⟩⟩
  .by_cases m:b∈frs X.stack
   .obtain⟨sl,r⟩:=up b o q (nf b m o q);exact⟨_,r⟩
   .exact⟨o,fl.1 b o (i9 b o (by simpa using hb) q m)⟩
  .rw[qQ (BK q e (by intro z;cases z))];exact q
  .rw[qQ (BK q e (by intro z;cases z))];exact q
  .rw[qQ (BK q e (by intro z;cases z)),q];simp
 have J:Inv X aa σ (out H a) { s with heap:=h' }:=I.call' (s':={ s with heap:=h' }) (ch:=[a]) rfl un hok I.bare λb hb=>by
  obtain rfl:b=a:=by simpa using hb
  exact⟨.inr sz,(λz=>by have:=I.free;rw[<- z,e]at this;cases this),(λx c q z=>by have:=I.freeC x c q;rw[z,e]at this;cases this),(λp hp z=>by have:=(I.pin p hp).2.1;rw[z,e]at this;cases this)⟩
 have lta:∀b o,X.s₀.heap.get? b=some o->b≠a:=λb o q z=>XV a (aR (z ▸ aJ q) sz);refine⟨J.os,J.bare,Heap.get?_none_of_le sz,by have:=J.base;rw[hx]at this;exact this,J.hok,λb hb=>?_,fl,λb o q hb hc=>?_⟩
 .obtain⟨_,o,ho,_⟩:=I.ok.funs.mem hb;exact J.base.free b o ho (I.ok.frf b hb) λz=>I.ok.exfs b z hb
 .have aE:∀v,B.get? b=some v->B.get? b=some o:=λv y=>by
   have e2:=fl.1 b v y;rw[show({ s with heap:=h' } : Shared).heap.get? b=h'.get? b from rfl,e2]at q;cases q;exact y
  rcases hc with⟨u,r⟩|⟨u,r⟩
  .obtain⟨⟨v,z⟩,n⟩:=I.old hx r;exact aE v (i9 b v (lta b u r) z (I.nostk n hb))
  .obtain⟨n,r⟩:=Kr r;obtain⟨o',e'⟩:=(I.hok b u r).there;exact aE o' (trk b u o' n r e')
end
def LK(X:Cx)(Ex:Value->Ω->L2.St->Hp->Prop):Prop :=
 ∀aa σ H s a C d,Inv X aa σ H s->H a=some (XN a C d)->X.s₀.heap.objs.size<=a->Ex (.ref C) d σ (out H a)->X.xe (.ref a) s
section
variable{P:Program}{w:World}{K:Frag}{mg:Str->Ψ}{base:Heap}{N:Θ}{af:Str}{scope:Scope}{f:Addr}{cd:Value}{A:Around}{outer:List Env}{s:Shared}{H:Hp}{E:XK}
theorem QF:LK (yq (CXO P w) P w K mg base N af scope f cd A outer s H E) (λC d _ H'=>E C d H'):=by
 intro aa σ H1 s1 a C d I e sz q;show wpAny _ _ (leaving _ (.ref a)) _ _ _;have fb:∀env∈(envOfC af scope s.heap.objs.size f cd::outer),∀b,env.frame=some b->b∈frs (envOfC af scope s.heap.objs.size f cd::outer):=λenv he b hb=>List.mem_filterMap.mpr ⟨env,he,hb⟩;obtain⟨t,ha⟩:=Oe (I.hok a _ e);have fr:(s1.heap.hide a).FunFrames base (envOfC af scope s.heap.objs.size f cd::outer):=PySem.W.funFrames_hideAll (as:=[a]) I.stack λenv he b hb z=>by
  obtain rfl:b=a:=by simpa using hb
  have:=I.stkFree b (fb env he b z);rw[e]at this;cases this
 refine QZ (base:=hideAll (s1.heap.hide a) (frs (envOfC af scope s.heap.objs.size f cd::outer))) (h0:=s1.heap.hide a) (outer:=outer) I.ok.frames rfl (λb o q=>of_hideAll _ q) (PySem.W.funFrames_hide fr fb) (λb o q=>Heap.of_hide q) (Heap.hide_self _ _) ha rfl rfl λh' fl up=>?_;exact⟨a,.ref C,d,out H1 a,_,rfl,I.flyMade rfl e sz rfl fl up,q⟩
end
section
variable{prog:Program}{w:World}{A:Around}{E:Ξ}{s:Shared}{env:Env}{nm qn:Str}{C N:Addr}{bs bm:Δ}{hd:Bool}{sn:Θ}{sub:Δ}{ab:Bool}{col:Option Bool}{dd:Ω}{k0 k1 k2 k3 k5:Ψ}
theorem Ri{x:Sem Value}{Q:Flow->Shared->Prop}(hb:bm.contains (.type "BaseException")=true)(hh:A.handled=none)
 (h:wpAny (model prog w) A x (λv s1=>∃a t d,v=.ref a/\s1.heap.get? C=some (excClassObj nm qn C N bs bm hd sn sub ab col dd k0 k1 k2 k3 k5 "ValueError.__new__")/\s1.heap.get? a=some (K1 C t d)/\E (.ref a) s1) E s):wpAny (model prog w) A (raiseStmt env (some x) none) Q E s:=by
 have hB:(Value.ref C::bm).contains (.type "BaseException")=true:=by rw[List.contains_cons,hb,Bool.or_true]
 unfold raiseStmt;refine ZU (wpAny_mono h (λv s1 z=>?_) λ_ _ z=>z);obtain⟨a,t,d,rfl,hC,ha,hE⟩:=z;obtain⟨hp,gs,dr,tk,os⟩:=s1
 repeat (first|with_reducible refine wpAny_loadPart_at ha ?_|with_reducible refine wpAny_loadPart_at hC ?_|(with_reducible refine wpAny_isSubtype_exc hC ?_;rw[hB])|wp_step)
 exact wpAny_raiseNew_none hh hE
end
section
variable{X:Cx}{x:Str}{np ae pos:Pos}{e₀:Expr}{rest:List Expr}{ta:TA}{C HE fI:Addr}{Ex:Value->Ω->L2.St->Hp->Prop}{k:Nat}{ps:Θ}{sp:Sp}
def Xh(C:Addr)(sp:Sp)(Ex:Value->Ω->L2.St->Hp->Prop)(ta:TA):TS:=λ_ σ H=>ta σ H λvs H1=>vs.length<=sizeLine/\∀a,H1 a=none->sp (.ref a::vs) (upd H1 a (XN a C none)) (λv H2=>v=.non/\∃d,H2 a=some (XN a C d)/\Ex (.ref C) d σ (out H2 a)) E0
theorem QB(hc:X.calm=true)(hg:Gl X x)(hm:X.mg x=some (.ref C))(q:Dq X.K C HE fI)(G:zb X CX0 k fI ps sp)(hr:dg (k+1) X.A)(hx:LK X Ex)(ha:PA X (e₀::rest) ta)(a8:qk x:=by decide)
 (he:qo X e₀ rest:=by rfl)(aw:qh X ae rest:=by rfl) :
  PS X (.Raise (some (.Call (.Name x np) (e₀::rest) [] ae)) none pos) (Xh C sp Ex ta):=by
 obtain⟨fd,F,hb⟩:=G;intro aa s σ H D I h;obtain⟨nm,qn,N,bs,sn,sub,ab,col,dd,k0,k1,k2,k3,k5,mN,o,hC,hN,hi,hf,kX,T⟩:=q.obj I.ok.mod.kin;rw[arm_exec_Raise];refine ZU (wpAny_standAt (Ri (C:=C) (nm:=nm) (qn:=qn) (N:=N) (bs:=bs) (bm:=.ref HE::bmV) (hd:=true) (sn:=sn) (sub:=sub) (ab:=ab) (col:=col) (dd:=dd) (k0:=k0) (k1:=k1) (k2:=k2) (k3:=k3) (k5:=k5) (T.hasType (by decide)) (I.ok.hd hc) ?_));refine ZU (thn (Q:=λu s1=>∃a H' d,u=.ref a/\X.s₀.heap.objs.size<=a/\Inv X aa σ H' s1/\H' a=some (XN a C d)/\Ex (.ref C) d σ (out H' a)) ?_ λu s1 ⟨a,H',d,e1,e2,I1,e3,e4⟩=>ZU (wpAny_standAt (ZT ?_)))
 .refine wpAny_Call_Name_kw (nM I hg hm ?_ a8);refine callWith_K (h₀:=X.base) I.ok.mod.kin q.kp (thn (ha ae aa s σ H _ I h) λus s1 ⟨vs,H1,I1,r,hl,q1⟩=>⟨I1.kIn,?_⟩) he aw;exact thn (RG (Q:=λa H2=>∃d,H2 a=some (XN a C d)/\Ex (.ref C) d σ (out H2 a)) q F hr hb I1 r (by show us.length<=_;rw[<- r.length];exact hl) q1) λu s2 hP=>by obtain⟨a,H2,e1,e2,I2,d,e3,e4⟩:=hP;exact⟨a,H2,d,e1,e2,I2,e3,e4⟩
 .obtain⟨t,ht⟩:=Oe (I1.hok a _ e3);exact⟨a,t,d,e1,I1.bk _ _ hC,ht,hx aa σ H' s1 a C d I1 e3 e2 e4⟩
end
section
variable{prog:Program}{w:World}{A:Around}{E:Ξ}{h:Heap}{g:Array GenState}{d:Drawn}{t:Nat}{os:OsState}{a C:Addr}{o:Obj}{od:Option Obj}{K:Frag}{f:Str}{u:Value}
theorem Nr{tk:Tok}{fl b:Bool}{Q:Ξ}(X:K.In h)(T:rQ K C)(J:PySem.W.InstAt h a o C od)(hx:h.get? a=some o)(hc:o.cls=.ref C)(hf:PySem.W.findObj K C od f=some (.value u))(hh:handedIn u=true)(hq:Q u ⟨h,g,d,t,os⟩) :
  wpAny (model prog w) A (getAttrBy (.ref a) (.str f tk) fl b) Q E ⟨h,g,d,t,os⟩:=by
 have f3:=F.excAttr_ValueError.ga.bind (.ref a);have n2:(Value.builtin "BaseException.__getattribute__"== Value.builtin "object.__getattribute__")=false:=by decide +kernel
 have n1:(onTheHeap (Value.ref C)&&Value.builtin "BaseException.__getattribute__"== Value.builtin "object.__getattribute__")=false:=by rw[n2];exact Bool.and_false _
 have LT:=iV (M:=model prog w) hx hc;have LG:=looks_findIn (M:=model prog w) X T.ga;have LN:=looks_findIn (M:=model prog w) X T.gn;have LF:=PySem.W.looks_find (M:=model prog w) X J hf
 repeat (any_goals (first|assumption|with_reducible refine LT.at ?_|with_reducible refine LG.at ?_|with_reducible refine LN.at ?_|(with_reducible refine wpAny_loadPart_at hx ?_;rw[hc])|wp_step))
 rw[ZZ (show ¬(b&&onTheHeap (Value.builtin "BaseException.__getattribute__"))=true from by rw[show onTheHeap (Value.builtin "BaseException.__getattribute__")=false from rfl,Bool.and_false];exact bh)]
 repeat (any_goals (first|assumption|wp_step))
 refine codeAny_call_builtin F.excAttr_ValueError.ga.plain F.entry_bexc_ga (vf X T hx hc ?_)
 repeat (any_goals (first|assumption|with_reducible refine LT.at ?_|with_reducible refine LF.at ?_|wp_step))
 show wpAny _ _ (handedOut u) _ _ _;rw[PySem.W.handedOut_of hh];exact ZT hq
end
section
variable{X:Cx}{aa:Γ}{σ:L2.St}{H:Hp}{s:Shared}{a d C:Addr}{fs:List (Str×V)}{f:Str}{v:V}{A:Around}{E:Ξ}
theorem RP{b:Bool}{Q:Ξ}(I:Inv X aa σ H s)(e:H a=some (XO a C (some d)))(ed:H d=some (.xd fs))(c:rQ X.K C)(hh:hasDictIn X.K C=true)(n:bN X.K C f)(l:fs.lookup f=some v)
 (h:∀u s',Inv X aa σ H s'->RelV v u->Q u s'):wpAny (model X.prog X.w) A (getAttr (.ref a) f b) Q E s:=by
 obtain⟨ox,hx,hc,hd,vs,hv⟩:=(I.hok a _ e).1;obtain⟨mA,hn,r⟩:=I.hok d _ ed;obtain⟨od,ho,hl⟩:=Fq hn;obtain⟨u,hu,ru⟩:=rM.some_of (v:=v) (o:=mA f) (by rw[<- l];exact r f);have J:PySem.W.InstAt s.heap a ox C (some od):=⟨hx,hc,by unfold notCls;rw[hv],by rw[hd];exact ho⟩;have I2:=I.tok (s.toks+1);have kI:=I.kIn;obtain⟨hp,g,dr,t,os⟩:=s;unfold getAttr
 repeat (first|exact Nr kI c J hx hc (findObj_own hh n rfl (by rw[hl,hu])) (Gf ru) (h u _ I2 ru)|wp_step)
def aeH(K:Frag)(ta:TE)(f:Str):TE:=λσ H Q=>ta σ H λx H1=>∃a C d fs v,x=.ref a/\H1 a=some (XO a C (some d))/\H1 d=some (.xd fs)/\rQ K C/\hasDictIn K C=true/\bN K C f/\fs.lookup f=some v/\Q v H1
theorem X8{e:Expr}{ta:TE}{pos:Pos}(he:PE X e ta)(hb:qB X e f):PE X (.Attribute e f pos) (aeH X.K ta f):=by
 intro aa s σ H Q I h;refine O9 hb (thn (he aa s σ H _ I h) λu s1 hP=>?_);obtain⟨x,H1,I1,rx,a,C,d,fs,v,ex,ea,ed,c,hd,n,l,q⟩:=hP;subst ex;obtain rfl:u=Value.ref a:=rx;exact RP I1 ea ed c hd n l λu' s2 I2 ru=>⟨v,H1,I2,ru,q⟩
end
theorem fsc{N P:Θ}{sc:Scope}(h1:sc.kind=.function:=by rfl)(h2:sc.isCoroutine=false:=by rfl)(h3:sc.isGenerator=false:=by rfl)(h4:N.Nodup/\(∀x∈P,sc.names.lookup x=some .local\/sc.names.lookup x=some .cell)/\∀y∈sc.names,y.2≠.free:=by decide +kernel)(h5:N.take P.length=P:=by rfl):bH N P sc:=⟨h1,h2,h3,h4.1,h5,h4.2.1,h4.2.2⟩
abbrev CK0(sc scope:Scope)(N N' xs:Θ):Prop:=E_ xs N=N'/\(∀y∈scope.names,y.2=.local->scope.names.lookup y.1=some .local)/\(∀y∈scope.names,y.2=.free->sc.names.lookup y.1=some .cell\/sc.names.lookup y.1=some .free) /\
 (∀y∈N,y∉xs->(scope.names.map λ(n,k)=>if(k==NameKind.free&&sc.kind == .function&&sc.names.lookup n==some .cell)then(n,NameKind.cell)else(n,k)).lookup y≠some .local)/\∀y∈N,y∈xs->(scope.names.map λ(n,k)=>if(k==NameKind.free&&sc.kind == .function&&sc.names.lookup n==some .cell)then(n,NameKind.cell)else(n,k)).lookup (hid y)=none
abbrev CK(sc scope:Scope)(N N' xs:Θ):Prop:=(∀y∈scope.names,y.2≠.cell)/\CK0 sc scope N N' xs
section
variable{X:Cx}{a9 iter tg:Expr}{pos:Pos}{scope:Scope}{wi:TI}{te:TE}{ay:List Expr}{gt:TG}{tc:TT}
theorem Zr(sc:Scope)(N N' xs:Θ)(hi:PI X tg iter wi)(hg:∀{C s₀ H₀ ex pn},PG (X.compG N' scope xs C s₀ H₀ ex pn) tg gt)(ht:∀{C s₀ H₀ ex pn},PTs (X.compG N' scope xs C s₀ H₀ ex pn) ay tc)(he:∀{C s₀ H₀ ex pn},PE (X.compG N' scope xs C s₀ H₀ ex pn) a9 te)
 (cq:X.env.scope=sc:=by rfl)(cx:X.N=N:=by rfl)(hc:X.calm=true:=by rfl)(hk:scope.kind=.function:=by rfl)(h:CK sc scope N N' xs:=by decide +kernel)(hs:qV X iter:=by intro _;rfl):PE X (.ListComp a9 [⟨tg,iter,ay,0⟩] scope pos) (uW wi xs.length (tMG gt) (tMT tc) (tM te)) :=
 by
 subst cq cx;exact VN (acy hk h.1) hc h.2.1 hk h.2.2.1 h.2.2.2.1 h.2.2.2.2.1 h.2.2.2.2.2 hi (λ_ _ _ _ _=>hg.mono) (λ_ _ _ _ _=>ht.mono) (λ_ _ _ _ _=>he.mono) hs
theorem Zo{i0:Nat}{y0:Str}{py bE:Pos}(sc:Scope)(N N' xs:Θ)(hi:PI X tg iter wi)(hg:∀{C s₀ H₀ ex pn},PG (X.compG N' scope xs C s₀ H₀ ex pn) tg gt)(ht:∀{C s₀ H₀ ex pn},PTs (X.compG N' scope xs C s₀ H₀ ex pn) ay tc)(he:∀{C s₀ H₀ ex pn},PE (X.compG N' scope xs C s₀ H₀ ex pn) a9 te)(gp:PG X (.Name y0 py) (o7 i0))
 (cq:X.env.scope=sc:=by rfl)(cx:X.N=N:=by rfl)(hc:X.calm=true:=by rfl)(hk:scope.kind=.function:=by rfl)(h:CK sc scope N N' xs:=by decide +kernel)(f8:swapsWith (.ListComp a9 [⟨tg,iter,ay,0⟩] scope pos) (some (.Name y0 py)) bE.line X.env=pure true:=by rfl)(hs:qV X iter:=by intro _;rfl) :
  PS X (.Assign [.Name y0 py] (.ListComp a9 [⟨tg,iter,ay,0⟩] scope pos) bE) (Y0 (uW wi xs.length (tMG gt) (tMT tc) (tM te)) (o7 i0)) :=
 by
 subst cq cx;exact Vy (acy hk h.1) hc h.2.1 hk h.2.2.1 h.2.2.2.1 h.2.2.2.2.1 h.2.2.2.2.2 hi (λ_ _ _ _ _=>hg.mono) (λ_ _ _ _ _=>ht.mono) (λ_ _ _ _ _=>he.mono) gp f8 hs
end
theorem ael{K:Frag}{a:Addr}{i j:Int}{d:Ω}{n:Nat}{sl:Array (Ψ)}{t u:Tok}(l:K.lookup a=some ⟨.type "tuple",d,.seq #[.int i t,.int j u] n,sl⟩):∀H,SqT K H a [.int i,.int j]:=λH=>.inr ⟨_,_,_,l,rfl,rfl,(by show 2<=sizeLine;decide),.cons ⟨_,rfl⟩ (.cons ⟨_,rfl⟩ .nil)⟩
theorem agT{K:Frag}{h:Heap}{mg:Str->Ψ}{x:Str}{i:Int}{t:Tok}(X:K.In h)(G:h.Ns mainGlobals mg)(l:nsIn K mainGlobals x=some (some (.int i t))):∃u,mg x=some u/\RelV (.int i) u:=⟨_,mg_of X G l,_,rfl⟩
def Lst:Nat->(Δ->Prop)->Prop
 |0,P=>P []
 |n+1,P=>∀a,Lst n λl=>P (a::l)
theorem GP:∀(n:Nat){P:Δ->Prop},Lst n P->∀us:Δ,us.length=n->P us
 |0,_,h,[],_=>h
 |n+1,_,h,a::l,e=>GP n (h a) l (Nat.succ.inj e)
section
variable{K:Frag}{h:Heap}{mg:Str->Ψ}{x m af:Str}{v:Value}{C f:Addr}{st:Stmt}{ps:Θ}{oc:Value}{od an:Ω}{ce:Array (Ψ)}{kV bi pm ah ct:Value}{i j:Int}{d:Ω}{n:Nat}{sl:Array (Ψ)}{t u:Tok}
theorem q_c(X:K.In h:=by assumption)(G:h.Ns mainGlobals mg:=by assumption)(e:nsIn K mainGlobals x=some (some v):=by k_is):mg x=some v:=mg_of X G e
theorem q_z(X:K.In h:=by assumption)(G:h.Ns mainGlobals mg:=by assumption)(e:nsIn K mainGlobals x=some none:=by k_is):mg x=none:=PySem.W.mg_none_of X G e
theorem q_n(e:findIn K (.ref C) x=some none:=by k_is):bN K C x:=e
theorem q_m(a:findIn K (.ref C) m=some (some (.ref f)):=by k_is)(b:isFn K (.ref f)=true:=by k_is)(c:keepIn K (.ref f)=true:=by k_is):Meth K C m f:=⟨a,b,c⟩
theorem q_M(a:makesIn K C=true:=by k_is)(b:findIn K (.ref C) "__init__"=some (some (.ref f)):=by k_is)(c:isFn K (.ref f)=true:=by k_is)(e:keepIn K (.ref C)=true:=by k_is):Mk K C f:=⟨a,b,c,e⟩
theorem q_4(a:plainGet K C Str.empty=true:=by k_is)(b:hasDictIn K C=true:=by k_is)(c:plainOver K C=true:=by k_is)(e:findIn K (.ref C) "__setattr__"=some (some (.builtin "object.__setattr__")):=by k_is):Cls K C:=⟨a,b,c,e⟩
theorem q_B(a:specialIn K (.ref C) "__getattribute__"=some (some (.builtin "type.__getattribute__")):=by k_is)(b:readsIn K C (.type "type")=true:=by k_is)(c:findCls K (.ref C) (.type "type") m=some (.val (.ref f)):=by k_is)(e:keepIn K (.ref f)=true:=by k_is):yI K C m f:=⟨a,b,c,rfl,e⟩
theorem q_g(X:K.In h:=by assumption)(G:h.Ns mainGlobals mg:=by assumption)(l:nsIn K mainGlobals x=some (some (.int i t)):=by k_is):∃u,mg x=some u/\RelV (.int i) u:=agT X G l
theorem q_t(l:K.lookup C=some ⟨.type "tuple",d,.seq #[.int i t,.int j u] n,sl⟩:=by k_is):∀H,SqT K H C [.int i,.int j]:=ael l
theorem q_f(hb:∀(kV bi pm:Value)(an:Ω)(ah ct:Value),Lst ps.length λus=>bindArgs (PySem.W.fnOf x x (iZ st) (eG st) (bC st) .none kV bi pm an ah ct) ⟨us,[]⟩=pure (ps.zip us):=by repeat (first|rfl|intro _))(X:K.In h:=by assumption)(G:h.Ns mainGlobals mg:=by assumption)
 (a:nsIn K mainGlobals x=some (some (.ref f)):=by k_is)(l:K.lookup f=some ⟨oc,od,.func (PySem.W.fnOf x x (iZ st) (eG st) (bC st) .none kV bi pm an ah ct),ce⟩:=by k_is)
 (c:codeIn K ah x=true:=by k_is)(k:keepIn K (.ref f)=true:=by k_is):eY K mg x st ps:=Yv X G a l c k λkV bi pm an ah ct us e=>GP _ (hb kV bi pm an ah ct) us e
theorem q_h(hb:∀(kV bi pm:Value)(an:Ω)(ah ct:Value),Lst ps.length λus=>bindArgs (PySem.W.fnOf x af (iZ st) (eG st) (bC st) .none kV bi pm an ah ct) ⟨us,[]⟩=pure (ps.zip us):=by repeat (first|rfl|intro _))
 (l:K.lookup f=some ⟨oc,od,.func (PySem.W.fnOf x af (iZ st) (eG st) (bC st) .none kV bi pm an ah ct),ce⟩:=by k_is)(c:codeIn K ah af=true:=by k_is)(k:keepIn K (.ref f)=true:=by k_is):o8 K x af st ps f:=YT l c k λkV bi pm an ah ct us e=>GP _ (hb kV bi pm an ah ct) us e
end
section
variable{K:Frag}{C HE fI:Addr}{nm qn:Str}{N:Addr}{bs sub:Δ}{sn:Θ}{ab:Bool}{col:Option Bool}{dd:Ω}{k0 k1 k2 k3 k5:Ψ}{o:Obj}{cd:ClassData}
theorem q_E(he:excIn K HE bmV "ValueError.__new__"=true:=by k_exc)(l:K.lookup C=some (excClassObj nm qn C N bs (.ref HE::bmV) true sn sub ab col dd k0 k1 k2 k3 k5 "ValueError.__new__"):=by k_is)(n1:nsOkIn K N=true:=by kernel_rfl)(n2:nsIn K N "__init__"=some (some (.ref fI)):=by k_is)
 (lf:K.lookup fI=some o:=by k_is)(hf:o.cls=.type "function":=by rfl)(kp:keepIn K (.ref C)=true:=by k_is):Dq K C HE fI:=⟨⟨nm,qn,N,bs,sn,sub,ab,col,dd,k0,k1,k2,k3,k5,l,n1,n2⟩,he,⟨o,lf,hf⟩,kp⟩
theorem q_S(a:clsIn K C=some cd:=by k_is)(b:cd.hasDict=true:=by rfl)(c:I_ cd.mro=true:=by rfl)(e:findIn K (.ref C) "__setattr__"=some (some (.builtin "object.__setattr__")):=by k_is)(m:mroIn K C (.type "object")=some true:=by k_is):Rj K C:=⟨⟨cd,a,b,c⟩,e,m⟩
theorem q_b(a:specialIn K (.ref C) "__getattribute__"=some (some (.builtin "type.__getattribute__")):=by k_is)(b:readsIn K C (.type "type")=true:=by k_is)(c:findCls K (.ref C) (.type "type") "__init__"=some (.val (.builtin "ValueError.__init__")):=by k_is):Wa K C:=⟨a,b,c⟩
theorem q_5(a:findIn K (.ref C) "__getattribute__"=some (some (.builtin "BaseException.__getattribute__")):=by k_is)(b:findIn K (.ref C) "__getattr__"=some none:=by k_is)(c:findIn K (.ref C) "__class__"=some (some (.builtin "object.__class__")):=by k_is)(e:mroIn K C (.type "object")=some true:=by k_is)(m:mroIn K C (.type "BaseException")=some true:=by k_is):rQ K C:=⟨a,b,c,e,m⟩
end
section
variable{X:Cx}{k:Nat}{f C:Addr}{ps:Θ}{sp:Sp}{m:Str}{pos ac:Pos}{e o:Expr}{es:List Expr}{ta:TE}{t:TA}{Ex:Value->Ω->L2.St->Hp->Prop}
def Pa(C:Addr)(m:Str)(sp:Sp)(Ex:Value->Ω->L2.St->Hp->Prop)(ta:TE)(t:TA):TE:=λσ H Q=>ta σ H λx H1=>∃a dx fs,x=.ref a/\H1 a=some (.ins C dx fs)/\fs.lookup m=none/\t σ H1 λvs H2=>sp (x::vs) H2 Q λD d H'=>Ex D d σ H'
theorem Fy{pl:Sem Bool}(he:PE X o ta)(c:Cls X.K C)(hm:Meth X.K C m f)(G:zb X (CXO X.prog X.w) k f ps sp)(hr:dg k X.A)(hx:R0 X Ex)(ha:PA X (e::es) t)
 (az:qo X e es:=by rfl)(aw:qh X pos es:=by rfl)
 (ht:eval (.Call (.Attribute o m ac) (e::es) [] pos) X.env=(do
   let ov <- eval o X.env
   standAt ac.atName
   let(f,first) <- holding [ov] (getMethod ov m pl)
   callWith pos f first (backTo pos (starEach (e::es) X.env)) (backToKw pos (keywordEach [] X.env))):=by rfl) :
  PE X (.Call (.Attribute o m ac) (e::es) [] pos) (Pa C m sp Ex ta t):=by
 obtain⟨fd,F,hb⟩:=G;intro aa s σ H Q I h;refine methodCall_KW (pl:=pl) (thn (he aa s σ H _ I h) λu s1 hP=>?_) ht;obtain⟨x,H1,I1,rx,a,dx,fs,ex,ea,l,q⟩:=hP;subst ex;obtain rfl:u=Value.ref a:=rx;refine uY I1 ea c hm l ?_;refine callWith_K (first:=[.ref a]) (h₀:=X.base) I1.ok.mod.kin hm.kp (thn (ha pos aa _ σ H1 _ I1 q) λus s2 ⟨vs,H2,I2,r,q2⟩=>⟨I2.kIn,?_⟩) az aw;exact W2 (us:=.ref a::us) (vs:=.ref a::vs) F hr hb .nil hx I2 (.cons rfl r) (by rw[List.append_nil];exact q2)
end
section
variable{X:Cx}{es:List Expr}{t:TA}{pos:Pos}
def abk(t:TA):TE:=λσ H Q=>t σ H λxs H1=>xs.length<=sizeLine/\∀p H',Same H1 H'->H1 p=none->H' p=some (.tup xs)->Q (.ref p) H'
theorem Pn{k:Nat}(h:PA X es t):PE X (.Tuple es k pos) (abk t):=(Mz h.mono).imp λσ H Q h=>⟨_,h,λxs H1 z=>⟨z.1,λp hp=>z.2 p _ (Same.upd hp) hp bQ⟩⟩
def ae1:R2:=λx y H Q=>∃l b xs zs,x=.ref l/\y=.ref b/\H l=some (.lst xs)/\H b=some (.lst zs)/\xs.length+zs.length<=sizeLine/\∀p H',Same H H'->H p=none->H' p=some (.lst (xs++zs))->Q (.ref p) H'
theorem XM:OpR X (binaryOp .Add) ae1:=abG.imp λx y H Q hP=>by obtain⟨l,b,xs,zs,e1,e2,h1,h2,z,q⟩:=hP;exact⟨l,b,xs,zs,e1,e2,h1,h2,z,λp hp=>q p _ (Same.upd hp) hp bQ⟩
end
section
variable{X:Cx}{k:Nat}{f C B:Addr}{ps:Θ}{sp:Sp}{x m:Str}{p pos ac:Pos}{e:Expr}{es:List Expr}{t:TA}
def abE(C:Addr)(sp:Sp)(t:TA):TE:=λσ H Q=>t σ H λvs H1=>∀x dx,H1 x=none->H1 dx=none->dx≠x->sp (.ref x::vs) (upd (upd H1 dx (.own x)) x (.ins C dx [])) (λv H2=>v=.non/\Q (.ref x) H2) E0
theorem K9(M:Mk X.K C f)(G:zb X CX0 k f ps sp)(hr:dg (k+1) X.A)(hg:Gl X x)(hm:X.mg x=some (.ref C))(ha:PA X (e::es) t)(a8:qk x:=by decide)
 (he:qo X e es:=by rfl)(aw:qh X pos es:=by rfl):PE X (.Call (.Name x p) (e::es) [] pos) (abE C sp t):=by
 obtain⟨fd,F,hb⟩:=G;refine(WQ M F hr hg hm hb .nil Fj ha.mono a8 he aw).imp λσ H Q h=>⟨_,h,λvs H1 q x dx h1 h2 h3=>?_⟩;rw[List.append_nil];exact q x dx h1 h2 h3
theorem S5{pl:Sem Bool}(c:yI X.K B m f)(G:zb X CX0 k f ps sp)(hr:dg k X.A)(hg:Gl X x)(hm:X.mg x=some (.ref B))(ha:PA X (e::es) t)(a8:qk x:=by decide)
 (az:qo X e es:=by rfl)(aw:qh X pos es:=by rfl)
 (ht:eval (.Call (.Attribute (.Name x p) m ac) (e::es) [] pos) X.env=(do
   let ov <- eval (.Name x p) X.env
   standAt ac.atName
   let(f,first) <- holding [ov] (getMethod ov m pl)
   callWith pos f first (backTo pos (starEach (e::es) X.env)) (backToKw pos (keywordEach [] X.env))):=by rfl) :
  PE X (.Call (.Attribute (.Name x p) m ac) (e::es) [] pos) (Mh sp t):=by
 obtain⟨fd,F,hb⟩:=G;exact XF (pl:=pl) c F hr hg hm hb ha a8 az aw ht
end
inductive T where
 |any|non|bl (b:Bool)|int (i:Int)|str (s:Str)|val (v:V)
 |tup (ts:List T)|lst (ts:List T)|scr (ts:List T)
 |dct (ks:List Key) (ts:List T)|ins (C:Addr) (ks:Θ) (ts:List T)|exc (C:Addr) (ks:Θ) (ts:List T)
def Uc(F:Hp):Ω->List (Str×V)->Prop
 |none,l=>l=[]
 |some d,l=>F d=some (.xd l)
mutual
inductive Rep(K:Frag)(F:Hp):V->T->Prop
 |any (v:V):Rep K F v .any
 |non:Rep K F .non .non
 |bl (b:Bool):Rep K F (.bl b) (.bl b)
 |int (i:Int):Rep K F (.int i) (.int i)
 |str (s:Str):Rep K F (.str s) (.str s)
 |val (v:V):Rep K F v (.val v)
 |tup {a:Addr}{xs:Β}{ts:List T} : SqT K F a xs->bJ K F xs ts->Rep K F (.ref a) (.tup ts)
 |lst {a:Addr}{xs:Β}{ts:List T} : F a=some (.lst xs)->bJ K F xs ts->Rep K F (.ref a) (.lst ts)
 |scr {a:Addr}{xs:Β}{ts:List T} : SqL K F a xs->bJ K F xs ts->Rep K F (.ref a) (.scr ts)
 |dct {a:Addr}{ks:List Key}{xs:Β}{ts:List T} : Rd F a (.dK (ks.zip xs))->ks.length=xs.length->bJ K F xs ts->Rep K F (.ref a) (.dct ks ts)
 |ins {a C dx:Addr}{ks:Θ}{xs:Β}{ts:List T} : F a=some (.ins C dx (ks.zip xs))->F dx=some (.own a)->ks.length=xs.length->bJ K F xs ts->Rep K F (.ref a) (.ins C ks ts)
 |exc {a C:Addr}{d:Ω}{ks:Θ}{xs:Β}{ts:List T} : F a=some (XO a C d)->Uc F d (ks.zip xs)->ks.length=xs.length->bJ K F xs ts->Rep K F (.ref a) (.exc C ks ts)
inductive bJ(K:Frag)(F:Hp):Β->List T->Prop
 |nil:bJ K F [] []
 |cons {x:V}{xs:Β}{t:T}{ts:List T} : Rep K F x t->bJ K F xs ts->bJ K F (x::xs) (t::ts)
end
section
variable{K:Frag}{F F' H H':Hp}
theorem Same.rd{a:Addr}{u:HO}(S:Same F F')(h:Rd F a u):Rd F' a u:=h.imp (S _ _) λhP=>by obtain⟨o,e⟩:=hP;exact⟨o,S _ _ e⟩
theorem Uc.same{d:Ω}{l:List (Str×V)}(S:Same F F')(h:Uc F d l):Uc F' d l:=by
 cases d with
 |none=>exact h
 |some d=>exact S _ _ h
mutual
theorem Rep.same(S:Same F F'){x:V}{t:T}(h:Rep K F x t):Rep K F' x t:=by
 cases h with
 |any|non|bl|int|str|val=>constructor
 |tup e h=>exact .tup (S.tup e) (bJ.same S h)
 |lst e h=>exact .lst (S _ _ e) (bJ.same S h)
 |scr e h=>exact .scr (S.seq e) (bJ.same S h)
 |dct e l h=>exact .dct (S.rd e) l (bJ.same S h)
 |ins e d l h=>exact .ins (S _ _ e) (S _ _ d) l (bJ.same S h)
 |exc e d l h=>exact .exc (S _ _ e) (d.same S) l (bJ.same S h)
theorem bJ.same(S:Same F F'){xs:Β}{ts:List T}(h:bJ K F xs ts):bJ K F' xs ts:=by
 cases h with
 |nil=>exact .nil
 |cons h t=>exact .cons (Rep.same S h) (bJ.same S t)
end
theorem Rep.lstI{x:V}{ts:List T}(h:Rep K F x (.lst ts)):∃a xs,x=.ref a/\F a=some (.lst xs)/\bJ K F xs ts:=by cases h;exact⟨_,_,rfl,by assumption,by assumption⟩
theorem Rep.tupI{x:V}{ts:List T}(h:Rep K F x (.tup ts)):∃a xs,x=.ref a/\SqT K F a xs/\bJ K F xs ts:=by cases h;exact⟨_,_,rfl,by assumption,by assumption⟩
theorem Rep.scrI{x:V}{ts:List T}(h:Rep K F x (.scr ts)):∃a xs,x=.ref a/\SqL K F a xs/\bJ K F xs ts:=by cases h;exact⟨_,_,rfl,by assumption,by assumption⟩
theorem Rep.dctI{x:V}{ks:List Key}{ts:List T}(h:Rep K F x (.dct ks ts)):∃a xs,x=.ref a/\Rd F a (.dK (ks.zip xs))/\ks.length=xs.length/\bJ K F xs ts:=by cases h;exact⟨_,_,rfl,by assumption,by assumption,by assumption⟩
theorem Rep.insI{x:V}{C:Addr}{ks:Θ}{ts:List T}(h:Rep K F x (.ins C ks ts)):∃a dx xs,x=.ref a/\F a=some (.ins C dx (ks.zip xs))/\F dx=some (.own a)/\ks.length=xs.length/\bJ K F xs ts:=by cases h;exact⟨_,_,_,rfl,by assumption,by assumption,by assumption,by assumption⟩
theorem Rep.excI{x:V}{C:Addr}{ks:Θ}{ts:List T}(h:Rep K F x (.exc C ks ts)):∃a d xs,x=.ref a/\F a=some (XO a C d)/\Uc F d (ks.zip xs)/\ks.length=xs.length/\bJ K F xs ts:=by cases h;exact⟨_,_,_,rfl,by assumption,by assumption,by assumption,by assumption⟩
theorem bJ.len{xs:Β}{ts:List T}(h:bJ K F xs ts):xs.length=ts.length:=by
 cases h with
 |nil=>rfl
 |cons _ t=>exact ZH (· + 1) (bJ.len t)
theorem bJ.app{xs ys:Β}{ts us:List T}(h:bJ K F xs ts)(k:bJ K F ys us):bJ K F (xs++ys) (ts++us):=by
 cases h with
 |nil=>exact k
 |cons a b=>exact .cons a (bJ.app b k)
theorem bJ.at_{xs:Β}{ts:List T}{i:Nat}{t:T}(h:bJ K F xs ts)(e:ts[i]?=some t):∃x,xs[i]?=some x/\Rep K F x t:=by
 cases h with
 |nil=>cases e
 |cons a b =>
  cases i with
  |zero=>cases e;exact⟨_,rfl,a⟩
  |succ i =>
   obtain⟨x,q,r⟩:=bJ.at_ (i:=i) b (by simpa using e);exact⟨x,by simpa using q,r⟩
theorem bJ.of_at:∀{xs:Β}{ts:List T},xs.length=ts.length->(∀(i:Nat)x t,xs[i]?=some x->ts[i]?=some t->Rep K F x t)->bJ K F xs ts
 |[],[],_,_=>.nil
 |x::xs,t::ts,l,h=>.cons (h 0 x t rfl rfl) (bJ.of_at (Nat.succ.inj l) λi y u e1 e2=>h (i+1) y u e1 e2)
 |[],_::_,l,_=>by cases l
 |_::_,[],l,_=>by cases l
theorem bJ.set{x:V}{t:T}(r:Rep K F x t):∀{xs:Β}{ts:List T}(i:Nat),bJ K F xs ts->bJ K F (xs.set i x) (ts.set i t)
 |_,_,_,.nil=>.nil
 |_,_,0,.cons _ h=>.cons r h
 |_,_,i+1,.cons a h=>.cons a (bJ.set r i h)
theorem bJ.take:∀{xs:Β}{ts:List T}(n:Nat),bJ K F xs ts->bJ K F (xs.take n) (ts.take n)
 |_,_,0,_=>.nil
 |_,_,_+1,.nil=>.nil
 |_,_,n+1,.cons a h=>.cons a (bJ.take n h)
theorem bJ.drop:∀{xs:Β}{ts:List T}(n:Nat),bJ K F xs ts->bJ K F (xs.drop n) (ts.drop n)
 |_,_,0,h=>h
 |_,_,_+1,.nil=>.nil
 |_,_,n+1,.cons _ h=>bJ.drop n h
def hd(S:Addr->Prop)(H:Hp):Hp:=λb=>open Classical in if S b then none else H b
theorem nW{S:Addr->Prop}{b:Addr}(h:S b):hd S H b=none:=by unfold hd;rw[ZY h]
theorem b_{S:Addr->Prop}{b:Addr}(h:¬S b):hd S H b=H b:=by unfold hd;rw[ZZ h]
theorem cL{S:Addr->Prop}{b:Addr}{o:HO}(e:hd S H b=some o):¬S b/\H b=some o:=by
 by_cases h:S b
 .rw[nW h]at e;cases e
 .rw[b_ h]at e;exact⟨h,e⟩
theorem jz{S S':Addr->Prop}(i:∀b,S' b->S b\/H b=none)(e:Same H H'):Same (hd S H) (hd S' H'):=λb o h=>by
 obtain⟨n,h⟩:=cL h;rw[b_ λz=>?_]
 .exact e _ _ h
 .rcases i b z with y|y
  .exact n y
  .rw[h]at y;cases y
theorem cj{S:Addr->Prop} : Same (hd S H) H:=λ_ _ h=>(cL h).2
theorem bR{S:Addr->Prop}(e:Same H H'):Same (hd S H) (hd S H'):=jz (λ_=>.inl) e
theorem Qm:hd (λ_=>False) H=H:=funext λ_=>b_ id
inductive OW where
 |fz (t:T)|lst (ws:List OW)|tup (ws:List OW)
mutual
def frW:OW->T
 |.fz t=>t
 |.lst ws=>.lst (zc ws)
 |.tup ws=>.tup (zc ws)
def zc:List OW->List T
 |[]=>[]
 |w::ws=>frW w::zc ws
end
mutual
inductive Ro(K:Frag)(F H:Hp):V->OW->Φ->Prop
 |fz {v:V}{t:T} : Rep K F v t->Ro K F H v (.fz t) []
 |lst {a:Addr}{xs:Β}{ws:List OW}{A:Φ} : H a=some (.lst xs)->Ros K F H xs ws A->Ro K F H (.ref a) (.lst ws) (a::A)
 |tup {p:Addr}{xs:Β}{ws:List OW}{A:Φ} : F p=some (.tup xs)->Ros K F H xs ws A->Ro K F H (.ref p) (.tup ws) A
inductive Ros(K:Frag)(F H:Hp):Β->List OW->Φ->Prop
 |nil:Ros K F H [] [] []
 |cons {x:V}{xs:Β}{w:OW}{ws:List OW}{A B:Φ} : Ro K F H x w A->Ros K F H xs ws B->Ros K F H (x::xs) (w::ws) (A++B)
end
section
variable{K:Frag}{F F' H H':Hp}
mutual
theorem Ro.mv(S:Same F F'){x:V}{w:OW}{A:Φ}(o:∀a∈A,∀u,H a=some u->H' a=some u)(h:Ro K F H x w A):Ro K F' H' x w A:=by
 cases h with
 |fz h=>exact .fz (h.same S)
 |lst e h=>exact .lst (o _ (aO ..) _ e) (Ros.mv S (λa m=>o a (aH _ m)) h)
 |tup e h=>exact .tup (S _ _ e) (Ros.mv S o h)
theorem Ros.mv(S:Same F F'){xs:Β}{ws:List OW}{A:Φ}(o:∀a∈A,∀u,H a=some u->H' a=some u)(h:Ros K F H xs ws A):Ros K F' H' xs ws A:=by
 cases h with
 |nil=>exact .nil
 |cons h t=>exact .cons (Ro.mv S (λa m=>o a (VX _ m)) h) (Ros.mv S (λa m=>o a (aP _ m)) t)
end
mutual
theorem Ro.isl{x:V}{w:OW}{A:Φ}(h:Ro K F H x w A)(a:Addr)(m:a∈A):∃xs,H a=some (.lst xs):=by
 cases h with
 |fz=>cases m
 |lst e h=>exact(YU.mp m).elim (λz=>⟨_,z ▸ e⟩) λz=>Ros.isl h a z
 |tup _ h=>exact Ros.isl h a m
theorem Ros.isl{xs:Β}{ws:List OW}{A:Φ}(h:Ros K F H xs ws A)(a:Addr)(m:a∈A):∃xs,H a=some (.lst xs):=by
 cases h with
 |nil=>cases m
 |cons h t=>exact(Y1.mp m).elim (Ro.isl h a) (Ros.isl t a)
end
mutual
theorem Ro.frz(S:Same F F'){x:V}{w:OW}{A:Φ}(o:∀a∈A,F' a=H a)(h:Ro K F H x w A):Rep K F' x (frW w):=by
 cases h with
 |fz h=>unfold frW;exact h.same S
 |lst e h=>unfold frW;exact .lst ((o _ (aO ..)).trans e) (Ros.frz S (λa m=>o a (aH _ m)) h)
 |tup e h=>unfold frW;exact .tup (.inl (.of (S _ _ e))) (Ros.frz S o h)
theorem Ros.frz(S:Same F F'){xs:Β}{ws:List OW}{A:Φ}(o:∀a∈A,F' a=H a)(h:Ros K F H xs ws A):bJ K F' xs (zc ws):=by
 cases h with
 |nil=>unfold zc;exact .nil
 |cons h t=>unfold zc;exact .cons (Ro.frz S (λa m=>o a (VX _ m)) h) (Ros.frz S (λa m=>o a (aP _ m)) t)
end
end
inductive OT where
 |und|fz (t:T)|l1 (ts:List T)|l2 (c6:List (List T))|d1 (ks:List Key) (ts:List T)|ob (a dx C:Addr) (ks:Θ) (ts:List T)|la (a:Addr) (ts:List T)|pr (ts us:List T)|ow (w:OW)
def frz:OT->T
 |.und=>.any
 |.fz t=>t
 |.l1 ts=>.lst ts
 |.l2 c6=>.lst (c6.map T.lst)
 |.d1 ks ts=>.dct ks ts
 |.ob _ _ C ks ts=>.ins C ks ts
 |.la _ ts=>.lst ts
 |.pr ts us=>.tup [.lst ts,.lst us]
 |.ow w=>frW w
def Slo(K:Frag)(F H:Hp)(v:Option V)(A:Φ):OT->Prop
 |.und=>A=[]
 |.fz t=>A=[]/\∃u,v=some u/\Rep K F u t
 |.l1 ts=>∃a xs,v=some (.ref a)/\A=[a]/\H a=some (.lst xs)/\bJ K F xs ts
 |.l2 c6=>∃a bs,v=some (.ref a)/\A=a::bs/\(a::bs).Nodup/\H a=some (.lst (bs.map V.ref))/\bs.length=c6.length/\∀(i:Nat)b ts,bs[i]?=some b->c6[i]?=some ts->∃xs,H b=some (.lst xs)/\bJ K F xs ts
 |.d1 ks ts=>∃a xs,v=some (.ref a)/\A=[a]/\H a=some (.dK (ks.zip xs))/\ks.length=xs.length/\bJ K F xs ts
 |.ob a dx C ks ts=>∃xs,v=some (.ref a)/\A=[a,dx]/\H a=some (.ins C dx (ks.zip xs))/\H dx=some (.own a)/\ks.length=xs.length/\bJ K F xs ts
 |.la a ts=>∃xs,v=some (.ref a)/\A=[a]/\H a=some (.lst xs)/\bJ K F xs ts
 |.pr ts us=>∃p a b xs ys,v=some (.ref p)/\A=[a,b]/\a≠b/\F p=some (.tup [.ref a,.ref b])/\H a=some (.lst xs)/\H b=some (.lst ys)/\bJ K F xs ts/\bJ K F ys us
 |.ow w=>∃u,v=some u/\A.Nodup/\Ro K F H u w A
theorem Slo.same{v:Option V}{A:Φ}(S:Same F F')(E:Same H H'){x:OT}(h:Slo K F H v A x):Slo K F' H' v A x:=by
 cases x with
 |und=>exact h
 |fz t=>obtain⟨a,u,e,r⟩:=h;exact⟨a,u,e,r.same S⟩
 |l1 ts=>obtain⟨a,xs,e,z,h,r⟩:=h;exact⟨a,xs,e,z,E _ _ h,r.same S⟩
 |l2 c6=>obtain⟨a,bs,e,z,n,h,l,r⟩:=h;exact⟨a,bs,e,z,n,E _ _ h,l,λi b ts e1 e2=>let⟨xs,q,r⟩:=r i b ts e1 e2;⟨xs,E _ _ q,r.same S⟩⟩
 |d1 ks ts=>obtain⟨a,xs,e,z,h,l,r⟩:=h;exact⟨a,xs,e,z,E _ _ h,l,r.same S⟩
 |ob a dx C ks ts=>obtain⟨xs,e,z,h,d,l,r⟩:=h;exact⟨xs,e,z,E _ _ h,E _ _ d,l,r.same S⟩
 |la a ts=>obtain⟨xs,e,z,h,r⟩:=h;exact⟨xs,e,z,E _ _ h,r.same S⟩
 |pr ts us=>obtain⟨p,a,b,xs,ys,e,z,n,t,h,k,r,q⟩:=h;exact⟨p,a,b,xs,ys,e,z,n,S _ _ t,E _ _ h,E _ _ k,r.same S,q.same S⟩
 |ow w=>obtain⟨u,e,n,r⟩:=h;exact⟨u,e,n,r.mv S λ_ _ _ e=>E _ _ e⟩
theorem Slo.off{v:Option V}{A:Φ}{x:OT}(s:Slo K F H v A x)(off:∀b∈A,∀u,H b=some u->H' b=some u):Slo K F H' v A x:=by
 cases x with
 |und=>exact s
 |fz t=>exact s
 |l1 ts=>obtain⟨a,xs,e,z,w,r⟩:=s;exact⟨a,xs,e,z,off a (by rw[z];simp) _ w,r⟩
 |l2 c6=>obtain⟨a,bs,e,z,nd,w,l,r⟩:=s;exact⟨a,bs,e,z,nd,off a (by rw[z];simp) _ w,l,λi b ts e1 e2=>let⟨xs,q,r⟩:=r i b ts e1 e2;⟨xs,off b (by rw[z];exact aH _ (aB e1)) _ q,r⟩⟩
 |d1 ks ts=>obtain⟨a,xs,e,z,w,r⟩:=s;exact⟨a,xs,e,z,off a (by rw[z];simp) _ w,r⟩
 |ob a dx C ks ts=>obtain⟨xs,e,z,w,d,r⟩:=s;exact⟨xs,e,z,off a (by rw[z];simp) _ w,off dx (by rw[z];simp) _ d,r⟩
 |la a ts=>obtain⟨xs,e,z,w,r⟩:=s;exact⟨xs,e,z,off a (by rw[z];simp) _ w,r⟩
 |pr ts us=>obtain⟨p,a,b,xs,ys,e,z,n,t,h,k,r⟩:=s;exact⟨p,a,b,xs,ys,e,z,n,t,off a (by rw[z];simp) _ h,off b (by rw[z];simp) _ k,r⟩
 |ow w=>obtain⟨u,e,n,r⟩:=s;exact⟨u,e,n,r.mv (λ_ _ e=>e) off⟩
def Wf(H:Hp)(a:Addr):Prop:=∃o,H a=some o/\((∃xs,o=.lst xs)\/(∃k,o=.dK k)\/(∃C d f,o=.ins C d f)\/∃x,o=.own x)
theorem Slo.sole{v:Option V}{A:Φ}{x:OT}(h:Slo K F H v A x){a:Addr}(ha:a∈A):Wf H a:=by
 cases x with
 |und=>rw[show A=[]from h]at ha;cases ha
 |fz t=>rw[h.1]at ha;cases ha
 |l1 ts=>obtain⟨b,xs,_,rfl,e,_⟩:=h;cases YR.mp ha;exact⟨_,e,.inl ⟨_,rfl⟩⟩
 |l2 c6 =>
  obtain⟨b,bs,_,rfl,_,e,l,r⟩:=h;rcases YU.mp ha with z|z
  .exact⟨_,z ▸ e,.inl ⟨_,rfl⟩⟩
  .obtain⟨i,hi⟩:=aV z;have li:i<c6.length:=l ▸ (ao.mp hi).1;obtain⟨xs,q,_⟩:=r i a _ hi (aj li);exact⟨_,q,.inl ⟨_,rfl⟩⟩
 |d1 ks ts=>obtain⟨b,xs,_,rfl,e,_⟩:=h;cases YR.mp ha;exact⟨_,e,.inr (.inl ⟨_,rfl⟩)⟩
 |ob b dx C ks ts =>
  obtain⟨xs,_,rfl,e,d,_⟩:=h;rcases YU.mp ha with z|z
  .exact⟨_,z ▸ e,.inr (.inr (.inl ⟨_,_,_,rfl⟩))⟩
  .cases YR.mp z;exact⟨_,d,.inr (.inr (.inr ⟨_,rfl⟩))⟩
 |la b ts=>obtain⟨xs,_,rfl,e,_⟩:=h;cases YR.mp ha;exact⟨_,e,.inl ⟨_,rfl⟩⟩
 |pr ts us =>
  obtain⟨p,b,c,xs,ys,_,rfl,_,_,e,d,_⟩:=h;rcases YU.mp ha with z|z
  .exact⟨_,z ▸ e,.inl ⟨_,rfl⟩⟩
  .cases YR.mp z;exact⟨_,d,.inl ⟨_,rfl⟩⟩
 |ow w=>obtain⟨u,_,_,r⟩:=h;obtain⟨xs,e⟩:=r.isl a ha;exact⟨_,e,.inl ⟨_,rfl⟩⟩
theorem Slo.frz{u:V}{A:Φ}{x:OT}(h:Slo K F H (some u) A x)(S:Same F F')(E:∀a∈A,F' a=H a):Rep K F' u (frz x):=by
 cases x with
 |und=>exact .any _
 |fz t=>obtain⟨_,w,e,r⟩:=h;cases e;exact r.same S
 |l1 ts=>obtain⟨b,xs,e,rfl,q,r⟩:=h;cases e;exact .lst ((E _ (by simp)).trans q) (r.same S)
 |l2 c6 =>
  obtain⟨b,bs,e,rfl,_,q,l,r⟩:=h;cases e;refine .lst ((E _ (by simp)).trans q) (bJ.of_at (by simp[l]) λi x t e1 e2=>?_);rw[aq]at e1 e2;cases e3:bs[i]? with
  |none=>rw[e3]at e1;cases e1
  |some c =>
   cases e4:c6[i]? with
   |none=>rw[e4]at e2;cases e2
   |some ts =>
    rw[e3]at e1;rw[e4]at e2;cases e1;cases e2;obtain⟨xs,q,r⟩:=r i c ts e3 e4;exact .lst ((E _ (aH _ (aB e3))).trans q) (r.same S)
 |d1 ks ts=>obtain⟨b,xs,e,rfl,q,l,r⟩:=h;cases e;exact .dct (.inl ((E _ (by simp)).trans q)) l (r.same S)
 |ob b dx C ks ts=>obtain⟨xs,e,rfl,q,d,l,r⟩:=h;cases e;exact .ins ((E _ (by simp)).trans q) ((E _ (by simp)).trans d) l (r.same S)
 |la b ts=>obtain⟨xs,e,rfl,q,r⟩:=h;cases e;exact .lst ((E _ (by simp)).trans q) (r.same S)
 |pr ts us =>
  obtain⟨p,b,c,xs,ys,e,rfl,_,t,q1,q2,r1,r2⟩:=h;cases e;exact .tup (.inl (.of (S _ _ t))) (.cons (.lst ((E _ (by simp)).trans q1) (r1.same S)) (.cons (.lst ((E _ (by simp)).trans q2) (r2.same S)) .nil))
 |ow w=>obtain⟨w,e,_,r⟩:=h;cases e;exact r.frz S E
abbrev zk:Type:=Nat->Φ
def Ow(own:zk)(b:Addr):Prop:=∃i,b∈own i
structure SR(K:Frag)(own:zk)(H:Hp)(σ:L2.St)(o:List OT):Prop where
 len:o.length=σ.length
 sl:∀i x,o[i]?=some x->Slo K (hd (Ow own) H) H (σ[i]?.join) (own i) x
 out:∀i,o.length<=i->∀a∈own i,∃xs,H a=some (.lst xs)
 dis:∀i j a,a∈own i->a∈own j->i=j
variable{own:zk}{σ:L2.St}{o:List OT}
theorem SR.same(h:SR K own H σ o)(E:Same H H'):SR K own H' σ o:=⟨h.len,λi x e=>(h.sl i x e).same (bR E) E,λi hi a ha=>let⟨xs,e⟩:=h.out i hi a ha;⟨xs,E _ _ e⟩,h.dis⟩
theorem SR.sole(h:SR K own H σ o){b:Addr}(z:Ow own b):Wf H b:=by
 obtain⟨i,z⟩:=z;by_cases hi:i<o.length
 .exact(h.sl i _ (aj hi)).sole z
 .obtain⟨xs,e⟩:=h.out i (Nat.not_lt.mp hi) b z;exact⟨_,e,.inl ⟨_,rfl⟩⟩
theorem Wf.ne{a:Addr}(h:Wf H a):H a≠none:=by
 obtain⟨o,e,_⟩:=h;rw[e];exact λz=>by cases z
def NR(K:Frag)(S:Addr->Prop)(H H':Hp)(v:V)(x:OT):Prop:=∃B,(∀a∈B,H a=none)/\Slo K (hd (λb=>S b\/b∈B) H') H' (some v) B x
theorem NR.rep{S:Addr->Prop}{v:V}{x:OT}(h:NR K S H H' v x)(hs:∀b,S b->H b≠none):Rep K (hd S H') v (L2.frz x):=by
 obtain⟨B,n,r⟩:=h;exact r.frz (jz (λb z=>.inl (.inl z)) (λ_ _ z=>z)) λa ha=>b_ λz=>hs a z (n a ha)
theorem NR.fz{S:Addr->Prop}{v:V}{t:T}(h:Rep K (hd S H') v t):NR K S H H' v (.fz t):=⟨[],λ_ z=>(nomatch z),rfl,v,rfl,h.same (jz (λb z=>.inl (z.elim id λy=>(nomatch y))) λ_ _ z=>z)⟩
theorem NR.l1{S:Addr->Prop}{a:Addr}{xs:Β}{ts:List T}(n:H a=none)(e:H' a=some (.lst xs))(h:bJ K (hd (λb=>S b\/b=a) H') xs ts):NR K S H H' (.ref a) (.l1 ts) :=
 ⟨[a],λ_ z=>(YR.mp z) ▸ n,a,xs,rfl,rfl,e,h.same (jz (λb z=>.inl (z.imp id YR.mp)) λ_ _ z=>z)⟩
theorem NR.back{S:Addr->Prop}{H0:Hp}{v:V}{x:OT}(h:NR K S H H' v x)(E:Same H0 H):NR K S H0 H' v x:=by
 obtain⟨B,n,r⟩:=h;exact⟨B,λa ha=>E.free (n a ha),r⟩
def own1(own:zk)(i:Nat)(B:Φ):zk:=λj=>if j=i then B else own j
theorem fJ{i:Nat}{B:Φ} : own1 own i B i=B:=ZY rfl
theorem cY{i j:Nat}{B:Φ}(h:j≠i):own1 own i B j=own j:=ZZ h
theorem Ow.of1{i:Nat}{B:Φ}{b:Addr}(h:Ow (own1 own i B) b):Ow own b\/b∈B:=by
 obtain⟨j,h⟩:=h;by_cases z:j=i
 .rw[z,fJ]at h;exact .inr h
 .rw[cY z]at h;exact .inl ⟨j,h⟩
theorem SR.put(h:SR K own H σ o)(E:Same H H'){v:V}{x:OT}(n:NR K (Ow own) H H' v x){i:Nat}(hi:i<o.length):∃ag,SR K ag H' (σ.set i (some v)) (o.set i x)/\Same (hd (Ow own) H) (hd (Ow ag) H'):=by
 obtain⟨B,nb,r⟩:=n;have le:Same (hd (Ow own) H) (hd (Ow (own1 own i B)) H'):=jz (λb z=>z.of1.imp id (nb b)) E;refine⟨own1 own i B,⟨by rw[X2,X2,h.len],λj y e=>?_,λj hj=>?_,λj k a e1 e2=>?_⟩,le⟩
 .by_cases z:j=i
  .subst z;rw[WZ hi]at e;cases e;rw[fJ,WZ (h.len ▸ hi)];exact r.same (jz (λb z=>.inl z.of1) λ_ _ z=>z) λ_ _ z=>z
  .rw[Wp (Ne.symm z)]at e;rw[cY z,Wp (Ne.symm z)];exact(h.sl j y e).same le E
 .rw[X2]at hj;rw[cY (by lia)];intro a ha;obtain⟨xs,e⟩:=h.out j hj a ha;exact⟨xs,E _ _ e⟩
 .by_cases z:j=i<;>by_cases y:k=i
  .rw[z,y]
  .rw[z,fJ]at e1;rw[cY y]at e2;exact absurd (nb a e1) (h.sole ⟨k,e2⟩).ne
  .rw[y,fJ]at e2;rw[cY z]at e1;exact absurd (nb a e2) (h.sole ⟨j,e1⟩).ne
  .rw[cY z]at e1;rw[cY y]at e2;exact h.dis j k a e1 e2
theorem SR.frz(h:SR K own H σ o){i:Nat}{x:OT}(e:o[i]?=some x){u:V}(hu:σ[i]?=some (some u)):∃ag,SR K ag H σ (o.set i (.fz (L2.frz x)))/\Same (hd (Ow own) H) (hd (Ow ag) H):=by
 have hi:i<o.length:=(ao.mp e).1;have le:Same (hd (Ow own) H) (hd (Ow (own1 own i [])) H):=jz (λb z=>.inl (z.of1.elim id λy=>(nomatch y))) λ_ _ z=>z;have hs:=h.sl i x e;rw[hu]at hs;refine⟨own1 own i [],⟨by rw[X2,h.len],λj y e'=>?_,λj hj=>?_,λj k a e1 e2=>?_⟩,le⟩
 .by_cases z:j=i
  .subst z;rw[WZ hi]at e';cases e';rw[fJ,hu];exact⟨rfl,u,rfl,Slo.frz hs le λa ha=>b_ λz=>by
    obtain⟨k,z⟩:=z;by_cases y:k=j
    .rw[y,fJ]at z;cases z
    .rw[cY y]at z;exact y (h.dis k j a z ha)⟩
  .rw[Wp (Ne.symm z)]at e';rw[cY z];exact(h.sl j y e').same le λ_ _ z=>z
 .rw[X2]at hj;rw[cY (by lia)];exact h.out j hj
 .by_cases z:j=i
  .rw[z,fJ]at e1;cases e1
  by_cases y:k=i
  .rw[y,fJ]at e2;cases e2
  .rw[cY z]at e1;rw[cY y]at e2;exact h.dis j k a e1 e2
theorem SR.chg(h:SR K own H σ o){i:Nat}{x:OT}(e:o[i]?=some x){y:OT}(E:∀b u,b∉own i->H b=some u->H' b=some u)(r:Slo K (hd (Ow own) H') H' (σ[i]?.join) (own i) y):SR K own H' σ (o.set i y)/\Same (hd (Ow own) H) (hd (Ow own) H'):=by
 have hi:i<o.length:=(ao.mp e).1;have le:Same (hd (Ow own) H) (hd (Ow own) H'):=λb u z=>by
  obtain⟨n,z⟩:=cL z;rw[b_ n];exact E b u (λq=>n ⟨i,q⟩) z
 refine⟨⟨by rw[X2,h.len],λj z e'=>?_,λj hj a ha=>?_,h.dis⟩,le⟩
 rotate_left
 .rw[X2]at hj;obtain⟨xs,e2⟩:=h.out j hj a ha;exact⟨xs,E a _ (λz=>by have:=h.dis j i a ha z;lia) e2⟩
 by_cases q:j=i
 .subst q;rw[WZ hi]at e';cases e';exact r
 .rw[Wp (Ne.symm q)]at e';exact((h.sl j z e').same le λ_ _ z=>z).off λb hb u=>E b u λz=>q (h.dis j i b hb z)
theorem SR.get(h:SR K own H σ o){i:Nat}{t:T}(e:o[i]?=some (.fz t)):∃u,σ[i]?=some (some u)/\Rep K (hd (Ow own) H) u t:=by
 obtain⟨_,u,q,r⟩:=h.sl i _ e;refine⟨u,?_,r⟩;cases z:σ[i]? with
 |none=>rw[z]at q;cases q
 |some w=>rw[z]at q;exact ZH some q
end
end L2
namespace L2
open PySem PySem.Spec PyProof.Rows
abbrev RE:=List OT->(OT->Prop)->Prop
abbrev RT:=List OT->(Bool->Prop)->Prop
abbrev RA:=List OT->(List T->Prop)->Prop
def tQ(K:Frag)(r:RE):TE:=λσ H Q=>∃own o R,SR K own H σ o/\r o R/\∀H' v x,R x->Same H H'->NR K (Ow own) H H' v x->Q v H'
def tQT(K:Frag)(r:RT):TT:=λσ H Q=>∃own o R,SR K own H σ o/\r o R/\∀H' b,R b->Same H H'->Q b H'
def tQA(K:Frag)(n:Nat)(r:RA):TA:=λσ H Q=>∃own o R,SR K own H σ o/\r o R/\∀H' vs ts,R ts->ts.length=n->Same H H'->bJ K (hd (Ow own) H') vs ts->Q vs H'
def QE(X:Cx)(e:Expr)(r:RE):Prop:=PE X e (tQ X.K r)
def QT(X:Cx)(e:Expr)(r:RT):Prop:=PT X e (tQT X.K r)
def QW(X:Cx)(e:Expr)(r:RT):Prop:=PW X e (tQT X.K r)
def QA(X:Cx)(es:List Expr)(r:RA):Prop:=PA X es (tQA X.K es.length r)
theorem PT.imp{X:Cx}{e:Expr}{t t':TT}(h:PT X e t)(i:∀σ H Q,t' σ H Q->t σ H Q):PT X e t':=λaa s σ H Q I q=>h aa s σ H Q I (i σ H Q q)
theorem PW.imp{X:Cx}{e:Expr}{t t':TT}(h:PW X e t)(i:∀σ H Q,t' σ H Q->t σ H Q):PW X e t':=λwh aa s σ H Q I q=>h wh aa s σ H Q I (i σ H Q q)
theorem PA.imp{X:Cx}{es:List Expr}{t t':TA}(h:PA X es t)(i:∀σ H Q,t' σ H Q->t σ H Q):PA X es t':=λp aa s σ H Q I q=>h p aa s σ H Q I (i σ H Q q)
section
variable{K:Frag}{own:zk}{H:Hp}{σ:L2.St}{o:List OT}
theorem tQ.mk{r:RE}{R:OT->Prop}{Q:VK}(h:SR K own H σ o)(hr:r o R)(k:∀H' v x,R x->Same H H'->Rep K (hd (Ow own) H') v (frz x)->Q v H'):tQ K r σ H Q :=
 ⟨own,o,R,h,hr,λH' v x rx E n=>k H' v x rx E (n.rep λb z=>(h.sole z).ne)⟩
def slot:List OT->Nat->OT
 |[],_=>.und
 |x::_,0=>x
 |_::l,n+1=>slot l n
theorem iC:∀{o:List OT}{i:Nat}{x:OT},slot o i=x->x≠.und->o[i]?=some x
 |[],_,_,e,n=>absurd e.symm n
 |_::_,0,_,e,_=>ZH some e
 |_::l,i+1,x,e,n=>by simpa using iC (o:=l) (i:=i) e n
end
def ab4(i:Nat):RE:=λo q=>match slot o i with|.fz t=>q (.fz t)|_=>False
def rC(t:T):RE:=λ_ q=>q (.fz t)
abbrev zz:Type:=T->T->(OT->Prop)->Prop
def rOp(g:zz)(a b:RE):RE:=λo q=>a o λx=>b o λy=>g (frz x) (frz y) q
def rUn(g:T->(OT->Prop)->Prop)(a:RE):RE:=λo q=>a o λx=>g (frz x) q
def sw(b:Bool)(p q:Prop):Prop:=match b with|true=>p|false=>q
theorem sw2{b:Bool}{p q:Prop}(h1:b=true->p)(h2:b=false->q):sw b p q:=by
 cases b
 .exact h2 rfl
 .exact h1 rfl
theorem swD{c:Prop}[Decidable c]{p q:Prop}(h1:c->p)(h2:¬c->q):sw (decide c) p q:=sw2 (λe=>h1 (of_decide_eq_true e)) λe=>h2 (of_decide_eq_false e)
theorem swT{b:Bool}{p q:Prop}(e:b=true)(h:p):sw b p q:=by subst e;exact h
theorem swF{b:Bool}{p q:Prop}(e:b=false)(h:q):sw b p q:=by subst e;exact h
section
variable{X:Cx}{a b c:Expr}{ra rb rc:RE}{pos:Pos}
theorem qv(i:Nat){x:Str}{pos:Pos}(hN:X.N[i]?=some x:=by rfl)(hv:o9 X.env.scope x=true:=by rfl)(hd:qk x:=by decide)
 (a6:qf x:=by decide):QE X (.Name x pos) (ab4 i):=(pv i hN hv hd a6).imp λσ H Q hP=>by
 obtain⟨own,o,R,h,hr,k⟩:=hP;unfold ab4 at hr;cases e:slot o i with
 |fz t =>
  rw[e]at hr;obtain⟨u,q,r⟩:=h.get (iC e (by intro z;cases z));exact⟨u,q,k H u _ hr (.refl _) (NR.fz r)⟩
 |_=>rw[e]at hr;exact hr.elim
theorem qC{e:Expr}{v:V}{t:T}(h:PE X e (tC v))(r:∀F,Rep X.K F v t):QE X e (rC t):=h.imp λσ H Q hP=>by obtain⟨own,o,R,_,hr,k⟩:=hP;exact k H v _ hr (.refl _) (NR.fz (r _))
theorem bA{i j pos} : QE X (.Constant (.int i) j pos) (rC (.int i)):=qC Ah λ_=>.int _
theorem gk{b j pos} : QE X (.Constant (.bool b) j pos) (rC (.bl b)):=qC ac7 λ_=>.bl _
theorem xH{j pos} : QE X (.Constant .none j pos) (rC .non):=qC aaM λ_=>.non
theorem j4{x j pos} : QE X (.Constant (.str x) j pos) (rC (.str x)):=qC Ir λ_=>.str _
theorem Jw{x:Str}{v:V}{t:T}{pos:Pos}(hm:∃u,X.mg x=some u/\RelV v u)(r:∀F,Rep X.K F v t)(hg:Gl X x:=by rfl)(hd:qk x:=by decide):QE X (.Name x pos) (rC t):=qC (U8 hg hm hd) r
def GO(X:Cx)(f:Value->Value->Sem Value)(g:zz):Prop:=OpR X f λx y H Q=>∃S t u R,(∀b,S b->H b≠none)/\Rep X.K (hd S H) x t/\Rep X.K (hd S H) y u/\g t u R/\∀H' v z,R z->Same H H'->NR X.K S H H' v z->Q v H'
theorem q2{g:zz}{σ:L2.St}{H:Hp}{Q:VK}(h:tQ X.K (rOp g ra rb) σ H Q):tOp (λx y H Q=>∃S t u R,(∀b,S b->H b≠none)/\Rep X.K (hd S H) x t/\Rep X.K (hd S H) y u/\g t u R/\∀H' v z,R z->Same H H'->NR X.K S H H' v z->Q v H') (tQ X.K ra) (tQ X.K rb) σ H Q:=by
 obtain⟨own,o,R,h,hr,k⟩:=h;exact tQ.mk h hr λH1 v x q E1 r1=>tQ.mk (h.same E1) q λH2 w y q2 E2 r2=>⟨Ow own,_,_,R,λb z=>((h.same (E1.trans E2)).sole z).ne,r1.same (bR E2),r2,q2,λH' u z rz E3 n=>k H' u z rz (E1.trans (E2.trans E3)) (n.back (E1.trans E2))⟩
theorem bI{op:Operator}{g:zz}(ho:GO X (binaryOp op) g)(ha:QE X a ra)(hb:QE X b rb):QE X (.BinOp a op b pos) (rOp g ra rb):=(aea ho ha hb).imp λ_ _ _=>q2
theorem jD{op:CmpOp}{g:zz}(ho:GO X (compareOp op) g)(ha:QE X a ra)(hb:QE X b rb)(hm:behindInMarks op b=false:=by exact Ue _):QE X (.Compare a [op] [b] pos) (rOp g ra rb):=(WX ho ha hb hm).imp λ_ _ _=>q2
def gI(g:Int->Int->OT):zz
 |.int i,.int j,q=>q (g i j)
 |_,_,_=>False
theorem GO.ints{f:Value->Value->Sem Value}{g:Int->Int->V}{t:Int->Int->T}(h:OpR X f (rI0 g))(r:∀i j F,Rep X.K F (g i j) (t i j)):GO X f (gI λi j=>.fz (t i j)):=h.imp λx y H Q hP=>by
 obtain⟨S,t,u,R,_,hx,hy,hg,k⟩:=hP;cases hx<;>try exact hg.elim
 cases hy<;>try exact hg.elim
 exact⟨_,_,rfl,rfl,k H _ _ hg (.refl _) (NR.fz (r _ _ _))⟩
theorem Hz:GO X (binaryOp .Sub) (gI λi j=>.fz (.int (i-j))):=.ints aaE λ_ _ _=>.int _
theorem Fd:GO X (compareOp .Lt) (gI λi j=>.fz (.bl (decide (i<j)))):=.ints af3 λ_ _ _=>.bl _
theorem Ce:GO X (compareOp .LtE) (gI λi j=>.fz (.bl (decide (i<=j)))):=.ints aeM λ_ _ _=>.bl _
theorem Qi:GO X (compareOp .Gt) (gI λi j=>.fz (.bl (decide (j<i)))):=.ints afX λ_ _ _=>.bl _
theorem Zy:GO X (compareOp .GtE) (gI λi j=>.fz (.bl (decide (j<=i)))):=.ints adJ λ_ _ _=>.bl _
def agI:zz
 |.int i,.int j,q=>q (.fz (.int (i+j)))
 |.str a,.str b,q=>a.length+b.length<=sizeLine/\q (.fz (.str (a++b)))
 |.lst a,.lst b,q=>a.length+b.length<=sizeLine/\q (.l1 (a++b))
 |_,_,_=>False
theorem oV{S:Addr->Prop}{H H':Hp}{p:Addr}{xs:Β}{ts:List T}(r:bJ X.K (hd S H) xs ts)(E:Same H H')(n:H p=none)(e:H' p=some (.lst xs)):NR X.K S H H' (.ref p) (.l1 ts) :=
 NR.l1 n e (r.same (jz (λb z=>z.imp id λ(y:b=p)=>y ▸ n) E))
theorem cN:GO X (binaryOp .Add) agI:=λaa s σ H x y v u Q I rx ry hP=>by
 obtain⟨S,t,w,R,_,hx,hy,hg,k⟩:=hP;cases t<;>try exact hg.elim
 .cases hx;cases w<;>try exact hg.elim
  cases hy;exact abx aa s σ H _ _ v u Q I rx ry ⟨_,_,rfl,rfl,k H _ _ hg (.refl _) (NR.fz (.int _))⟩
 .cases hx;cases w<;>try exact hg.elim
  cases hy;exact XQ aa s σ H _ _ v u Q I rx ry ⟨_,_,rfl,rfl,hg.1,k H _ _ hg.2 (.refl _) (NR.fz (.str _))⟩
 .cases w<;>try exact hg.elim
  obtain⟨a,xs,rfl,e1,r1⟩:=hx.lstI;obtain⟨b,ys,rfl,e2,r2⟩:=hy.lstI;exact XM aa s σ H _ _ v u Q I rx ry ⟨a,b,xs,ys,rfl,rfl,(cL e1).2,(cL e2).2,by rw[r1.len,r2.len];exact hg.1,λp H' E n e=>k H' _ _ hg.2 E (oV (r1.app r2) E n e)⟩
def agg:zz
 |.int i,.int j,q=>(Bd i/\Bd j)/\q (.fz (.int (i*j)))
 |.lst a,.int j,q=>(-(2^63)<=j/\j<2^63/\a.length*j.toNat<=sizeLine)/\∀z,z=(List.replicate j.toNat a).flatten->q (.l1 z)
 |.str a,.int j,q=>(∃c,a=⟨#[c]⟩/\1<=j/\j<=1000/\∀z:Str,z.cps.toList=List.replicate j.toNat c->q (.fz (.str z)))
 |_,_,_=>False
def agi:zz
 |.int i,.int j,q=>(j≠0/\Bd j)/\q (.fz (.int (i.fdiv j)))
 |_,_,_=>False
def agh:zz
 |.int i,.int j,q=>0<j/\q (.fz (.int (i%j)))
 |_,_,_=>False
def ahc:zz
 |.int i,.int j,q=>ach i j/\q (.fz (.int (i^j.toNat)))
 |_,_,_=>False
theorem lH:GO X (binaryOp .FloorDiv) agi:=VG.imp λx y H Q hP=>by
 obtain⟨S,t,u,R,_,hx,hy,hg,k⟩:=hP;cases hx<;>try exact hg.elim
 cases hy<;>try exact hg.elim
 exact⟨_,_,rfl,rfl,hg.1,k H _ _ hg.2 (.refl _) (NR.fz (.int _))⟩
theorem cG:GO X (binaryOp .Mod) agh:=ZK.imp λx y H Q hP=>by
 obtain⟨S,t,u,R,_,hx,hy,hg,k⟩:=hP;cases hx<;>try exact hg.elim
 cases hy<;>try exact hg.elim
 exact⟨_,_,rfl,rfl,hg.1,k H _ _ hg.2 (.refl _) (NR.fz (.int _))⟩
theorem CJ:GO X (binaryOp .Pow) ahc:=ZF.imp λx y H Q hP=>by
 obtain⟨S,t,u,R,_,hx,hy,hg,k⟩:=hP;cases hx<;>try exact hg.elim
 cases hy<;>try exact hg.elim
 exact⟨_,_,rfl,rfl,hg.1,k H _ _ hg.2 (.refl _) (NR.fz (.int _))⟩
def aht:T->(OT->Prop)->Prop
 |.int i,q=>q (.fz (.int (-i)))
 |_,_=>False
theorem TQ(ha:QE X a ra):QE X (.UnaryOp .USub a pos) (rUn aht ra):=(afH aaZ ha).imp λσ H Q ⟨own,o,R,h,hr,k⟩=>tQ.mk h hr λH1 v x q E1 r1=>by
 revert r1 q
 generalize frz x=t;intro q r1;cases r1<;>try exact q.elim
 exact⟨_,rfl,k _ _ _ q E1 (NR.fz (.int _))⟩
def O_:T->Option Bool
 |.non=>some true
 |.any=>none
 |.val v=>some (decide (v=.non))
 |_=>some false
def gIs(neg:Bool):zz:=λt u q=>match u,O_ t with
 |.non,some b=>q (.fz (.bl (xor neg b)))
 |_,_=>False
theorem JH{F:Hp}{K:Frag}{x:V}{t:T}{b:Bool}(h:Rep K F x t)(e:O_ t=some b):decide (x=.non)=b:=by
 cases h<;>cases e<;>first|rfl|(apply Zp;intro z;cases z)
theorem Z0:GO X (compareOp .Is) (gIs false):=aa3.imp λx y H Q hP=>by
 obtain⟨S,t,u,R,_,hx,hy,hg,k⟩:=hP;cases hy<;>try exact hg.elim
 unfold gIs at hg;cases e:O_ t with
 |none=>rw[e]at hg;exact hg.elim
 |some b=>rw[e]at hg;exact⟨rfl,k H _ _ hg (.refl _) (NR.fz (by rw[JH hx e,Bool.false_xor];exact .bl _))⟩
theorem Yk:GO X (compareOp .IsNot) (gIs true):=YK.imp λx y H Q hP=>by
 obtain⟨S,t,u,R,_,hx,hy,hg,k⟩:=hP;cases hy<;>try exact hg.elim
 unfold gIs at hg;cases e:O_ t with
 |none=>rw[e]at hg;exact hg.elim
 |some b=>rw[e]at hg;exact⟨rfl,k H _ _ hg (.refl _) (NR.fz (by rw[JH hx e,Bool.true_xor];exact .bl _))⟩
end
structure Hid(H:Hp)(S:Addr->Prop):Prop where
 sole:∀b,S b->Wf H b
 ins:∀a C dx fs,S a->H a=some (.ins C dx fs)->S dx
 own:∀b x,S b->H b=some (.own x)->S x
theorem SR.mate{K:Frag}{own:zk}{H:Hp}{σ:L2.St}{o:List OT}(h:SR K own H σ o){j:Nat}{b:Addr}(hb:b∈own j):(∀C d f,H b=some (.ins C d f)->d∈own j)/\∀x,H b=some (.own x)->x∈own j:=by
 have nl:∀{xs:Β},H b=some (.lst xs)->(∀C d f,H b=some (.ins C d f)->d∈own j)/\∀x,H b=some (.own x)->x∈own j:=λq=>⟨(λ_ _ _ e=>by rw[q]at e;cases e),(λ_ e=>by rw[q]at e;cases e)⟩;by_cases hj:j<o.length
 .have s:=h.sl j _ (aj hj);cases y:o[j]with
  |und=>rw[y]at s;rw[show own j=[]from s]at hb;cases hb
  |fz t=>rw[y]at s;rw[s.1]at hb;cases hb
  |l1 ts=>rw[y]at s;obtain⟨c,xs,_,w,q,_⟩:=s;rw[w]at hb;cases YR.mp hb;exact nl q
  |l2 c6 =>
   rw[y]at s;obtain⟨c,bs,_,w1,_,q1,l,r⟩:=s;rw[w1]at hb;rcases YU.mp hb with z|z
   .exact nl (z ▸ q1)
   .obtain⟨i,hi⟩:=aV z;obtain⟨xs,q2,_⟩:=r i b _ hi (aj (l ▸ (ao.mp hi).1));exact nl q2
  |d1 ks ts=>rw[y]at s;obtain⟨c,xs,_,w,q,_⟩:=s;rw[w]at hb;cases YR.mp hb;exact⟨(λ_ _ _ e=>by rw[q]at e;cases e),(λ_ e=>by rw[q]at e;cases e)⟩
  |la c ts=>rw[y]at s;obtain⟨xs,_,w,q,_⟩:=s;rw[w]at hb;cases YR.mp hb;exact nl q
  |pr ts us =>
   rw[y]at s;obtain⟨p,c,e,xs,ys,_,w,_,_,q1,q2,_⟩:=s;rw[w]at hb;rcases YU.mp hb with z|z
   .exact nl (z ▸ q1)
   .cases YR.mp z;exact nl q2
  |ow w' =>
   rw[y]at s;obtain⟨u,_,_,r⟩:=s;obtain⟨xs,q⟩:=r.isl b hb;exact nl q
  |ob c d C' ks ts =>
   rw[y]at s;obtain⟨xs,_,w,q,q2,_⟩:=s;rw[w]at hb ⊢;rcases YU.mp hb with z|z
   .refine⟨λ_ _ _ e=>?_,λ_ e=>?_⟩
    .rw[z,q]at e;cases e;simp
    .rw[z,q]at e;cases e
   .cases YR.mp z;refine⟨λ_ _ _ e=>?_,λ_ e=>?_⟩
    .rw[q2]at e;cases e
    .rw[q2]at e;cases e;simp
 .obtain⟨xs,q⟩:=h.out j (Nat.not_lt.mp hj) b hb;exact nl q
theorem SR.hid{K:Frag}{own:zk}{H:Hp}{σ:L2.St}{o:List OT}(h:SR K own H σ o):Hid H (Ow own) :=
 ⟨λb z=>h.sole z,λa C dx fs ⟨j,z⟩ e=>⟨j,(h.mate z).1 C dx fs e⟩,λb x ⟨j,z⟩ e=>⟨j,(h.mate z).2 x e⟩⟩
def mrg(S:Addr->Prop)(H G:Hp):Hp:=λb=>open Classical in if S b then H b else G b
theorem j6{S:Addr->Prop}{H G:Hp}{b:Addr}(h:S b):mrg S H G b=H b:=by unfold mrg;rw[ZY h]
theorem cB{S:Addr->Prop}{H G:Hp}{b:Addr}(h:¬S b):mrg S H G b=G b:=by unfold mrg;rw[ZZ h]
def spH(sp:Sp):Sp:=λvs H Q _=>∃S:Addr->Prop,Hid H S/\sp vs (hd S H) (λv G=>(∀b,S b->G b=none)->Q v (mrg S H G)) λ_ _ _=>False
section
variable{P:Program}{w:World}{K:Frag}{mg:Str->Ψ}{base:Heap}
theorem dO.hid{k:Nat}{f:Addr}{fd:FuncData}{ps:Θ}{sp:Sp}(F:dO P w K mg base CX0 k f fd ps sp):dO P w K mg base CX0 k f fd ps (spH sp):=by
 refine⟨λvs H Q E h=>?_,λA outer s H args us vs Q E hr e0 hb r h=>?_⟩
 .obtain⟨S,_,z⟩:=h;exact F.len vs _ _ _ z
 obtain⟨S,hS,z⟩:=h;have non:∀{b:Addr},H b=none->hd S H b=none:=λ{b}e=>by
  by_cases z:S b
  .exact nW z
  .rw[b_ z];exact e
 have bo:∀{b:Addr}{u:HO},S b->H b=some u->(∀xs,u≠.tup xs)/\(∀o v,u≠.frz o v)/\∀ps,u≠.tbl ps:=λ{b u}z e=>by
  obtain⟨o,q,w⟩:=hS.sole b z;rw[e]at q;cases q;rcases w with⟨_,rfl⟩|⟨_,rfl⟩|⟨_,_,_,rfl⟩|⟨_,rfl⟩<;>exact⟨λ_ z=>(nomatch z),λ_ _ z=>(nomatch z),λ_ z=>(nomatch z)⟩
 have e1:DW P w K mg base A outer s (hd S H):=⟨e0.frames,e0.mod,λb o e=>⟨(e0.bs b o e).1,non (e0.bs b o e).2⟩,e0.bsz,e0.funs,λb hb=>non (e0.frf b hb),λb u e=>by
  obtain⟨nb,e'⟩:=cL e;refine(e0.hok b u e').stay (λ_ _ _ z=>z) (λd z=>?_) λd xs z=>?_
  .rw[b_ λy=>nb (hS.own d b y z)];exact z
  .rw[b_ λy=>(bo y z).1 xs rfl];exact z,e0.bare⟩
 refine codeAny_mono (F.run A outer s (hd S H) args us vs _ _ hr e1 hb r z) λres s' hs=>?_;cases res with
 |error e=>exact hs.elim
 |ok fl =>
  cases fl with
  |next=>exact False.elim hs
  |brk=>exact False.elim hs
  |cont=>exact False.elim hs
  |ret u =>
   obtain⟨v,G,os,bare,un,hok,rv,q⟩:=hs;have there:∀{b:Addr},S b->∃o,s.heap.get? b=some o:=λ{b}y=>by
    obtain⟨u,e,w⟩:=hS.sole b y;have x:=e0.hok b u e;rcases w with⟨xs,rfl⟩|⟨kk,rfl⟩|⟨C,d,f,rfl⟩|⟨y,rfl⟩
    .obtain⟨_,_,_,_,e2⟩:=x;exact⟨_,e2⟩
    .obtain⟨_,_,_,_,_,_,_,e2,_⟩:=x;exact⟨_,e2⟩
    .obtain⟨_,_,_,e2,_⟩:=x;exact⟨_,e2⟩
    .exact x
   have keep:∀{b:Addr}{o:Obj},S b->s.heap.get? b=some o->s'.heap.get? b=some o:=λ{b o}y e=>un.keep b o e (nW y) (λz=>(hS.sole b y).ne (e0.frf b z)) (by simp);have ai:∀b,S b->G b=none:=λb y=>by
    obtain⟨o,ho⟩:=there y;exact un.free b o ho (nW y) (by simp)
   have kq:∀{b:Addr}{u:HO},G b=some u->¬S b:=λe z=>by rw[ai _ z]at e;cases e
   have cm:∀{b:Addr}{u:HO},G b=some u->mrg S H G b=some u:=λe=>(cB (kq e)).trans e;refine⟨v,mrg S H G,os,bare,⟨λb o e n=>un.keep b o e (non n),λb o e n=>un.slot b o e (non n),λb o e n z=>?_,un.there,λb xs e=>?_,λb o u e=>?_,λb ps e=>?_⟩,λb u e=>?_,rv,q ai⟩
   .rw[cB λy=>(hS.sole b y).ne n];exact un.free b o e (non n) z
   .have n:¬S b:=λy=>(bo y e).1 xs rfl;exact cm (un.tups b xs ((b_ n).trans e))
   .have n:¬S b:=λy=>(bo y e).2.1 o u rfl;exact cm (un.frzs b o u ((b_ n).trans e))
   .have n:¬S b:=λy=>(bo y e).2.2 ps rfl;obtain⟨more,this⟩:=un.tbls b ps ((b_ n).trans e);exact⟨more,cm this⟩
   .by_cases z:S b
    .rw[j6 z]at e;have x:=e0.hok b u e;obtain⟨u',e',w⟩:=hS.sole b z;rw[e]at e';cases e';rcases w with⟨xs,rfl⟩|⟨kk,rfl⟩|⟨C,d,f,rfl⟩|⟨y,rfl⟩
     .obtain⟨z1,its,n,r,e2⟩:=x;exact⟨z1,its,n,r,keep z e2⟩
     .obtain⟨z1,y,vs,r,ob,es,ep,e2,c⟩:=x;exact⟨z1,y,vs,r,ob,es,ep,keep z e2,c⟩
     .obtain⟨d1,z1,ne,e2,mA,⟨od,es,ep,e3,c⟩,r⟩:=x;have sd:=hS.ins b C d f z e;exact⟨(j6 sd).trans d1,z1,ne,keep z e2,mA,⟨od,es,ep,keep sd e3,c⟩,r⟩
     .obtain⟨ob,e2⟩:=x;exact⟨ob,keep z e2⟩
    .rw[cB z]at e;exact(hok b u e).stay (λ_ _ _ z=>z) (λd z=>cm z) λd xs z=>cm z
abbrev ST:=List T->(OT->Prop)->Prop
def spT(K:Frag)(S:ST):Sp:=λvs H Q _=>∃ts R,bJ K H vs ts/\S ts R/\∀H' v x,R x->Same H H'->NR K (λ_=>False) H H' v x->Q v H'
abbrev OkT(P:Program)(w:World)(K:Frag)(mg:Str->Ψ)(base:Heap)(k:Nat)(x:Str)(ps:Θ)(S:ST):Prop:=OkF P w K mg base k x ps (spT K S)
end
section
variable{X:Cx}
def Z1:RA:=λ_ q=>q []
def ZD(a:RE)(r:RA):RA:=λo q=>a o λx=>r o λts=>q (frz x::ts)
theorem bx:QA X [] Z1:=jc.imp λσ H Q hP=>by obtain⟨own,o,R,h,hr,k⟩:=hP;exact k H [] [] hr rfl (.refl _) .nil
theorem tQA.mk{K:Frag}{own:zk}{H:Hp}{σ:L2.St}{o:List OT}{r:RA}{R:List T->Prop}{Q:Β->Hp->Prop}(h:SR K own H σ o)(hr:r o R){n:Nat}(k:∀H' vs ts,R ts->ts.length=n->Same H H'->bJ K (hd (Ow own) H') vs ts->Q vs H'):tQA K n r σ H Q:=⟨own,o,R,h,hr,k⟩
theorem bw{e:Expr}{es:List Expr}{a:RE}{r:RA}(ha:QE X e a)(hr:QA X es r)(hs:qo X e es:=by rfl):QA X (e::es) (ZD a r):=(cW ha hr hs).imp λσ H Q ⟨own,o,R,h,hr,k⟩ =>
 tQ.mk h hr λH1 v x q E1 r1=>tQA.mk (h.same E1) q λH2 vs ts q2 ln E2 r2=>k H2 (v::vs) (frz x::ts) q2 (ZH (· + 1) ln) (E1.trans E2) (.cons (r1.same (bR E2)) r2)
def Tz(S:ST)(r:RA):RE:=λo q=>r o λts=>S ts q
theorem bF{p pos:Pos}{e:Expr}{es:List Expr}{r:RA}{x:Str}{k:Nat}{ps:Θ}{S:ST}(G:OkT X.prog X.w X.K X.mg X.base k x ps S)(ha:QA X (e::es) r)(hr:dg k X.A:=by exact dg.mono (by assumption) (by decide))(hg:Gl X x:=by rfl)(a8:qk x:=by decide)
 (he:qo X e es:=by rfl)(aw:qh X pos es:=by rfl):QE X (.Call (.Name x p) (e::es) [] pos) (Tz S r):=by
 obtain⟨f,fd,F,b,hm,kp⟩:=G;refine(Tt (sp:=spH (spT X.K S)) ⟨f,fd,F.hid,b,hm,kp⟩ hr hg ha a8 he aw).imp λσ H Q ⟨own,o,R,h,hr,k⟩=>tQA.mk h hr λH1 vs ts q _ E1 r1=>?_;have h1:=h.same E1;refine⟨Ow own,h1.hid,ts,R,r1,q,λG v x rx E n ai=>?_⟩;have EH:Same H1 (mrg (Ow own) H1 G):=λb u e=>by
  by_cases z:Ow own b
  .rw[j6 z];exact e
  .rw[cB z];exact E b u ((b_ z).trans e)
 have EG:Same G (mrg (Ow own) H1 G):=λb u e=>by rw[cB λz=>by rw[ai b z]at e;cases e];exact e
 refine k _ v x rx (E1.trans EH) (NR.back (H:=H1) ?_ E1);obtain⟨B,nb,s⟩:=n;have out:∀a∈B,¬Ow own a:=λa ha z=>(s.sole ha).ne (ai a z);refine⟨B,λa ha=>by have:=nb a ha;rwa[b_ (out a ha)]at this,s.same (jz (λb z=>?_) EG) EG⟩;rcases z with z|z
 .exact .inr (ai b z)
 .exact .inl (.inr z)
end
def rB(a:RE):RT:=λo q=>a o λx=>match frz x with|.bl b=>q b|_=>False
def tru:T->(Bool->Prop)->Prop
 |.bl b,q=>q b
 |.int i,q=>q (i != 0)
 |.non,q=>q false
 |.lst ts,q=>q (!ts.isEmpty)
 |.tup ts,q=>q (!ts.isEmpty)
 |_,_=>False
def ahd(a:RE):RT:=λo q=>a o λx=>tru (frz x) q
def abR(a b:RT):RT:=λo q=>a o λc=>sw c (b o q) (q false)
def rOr(a b:RT):RT:=λo q=>a o λc=>sw c (q true) (b o q)
def ahj(a:RT):RT:=λo q=>a o λc=>q (!c)
def ad7(a b:RE):RE:=λo q=>a o λx=>match frz x with|.bl c=>sw c (b o q) (q (.fz (.bl false)))|_=>False
def ad8(a:RE):RE:=λo q=>a o λx=>match frz x with|.bl c=>q (.fz (.bl (!c)))|_=>False
theorem tQT.mk{K:Frag}{own:zk}{H:Hp}{σ:L2.St}{o:List OT}{r:RT}{R:Bool->Prop}{Q:Bool->Hp->Prop}(h:SR K own H σ o)(hr:r o R)(k:∀H' b,R b->Same H H'->Q b H'):tQT K r σ H Q:=⟨own,o,R,h,hr,k⟩
theorem Rep.isEmpty{K:Frag}{F:Hp}{xs:Β}{ts:List T}(h:bJ K F xs ts):xs.isEmpty=ts.isEmpty:=by cases h<;>rfl
theorem Es{c:Bool}{p q p' q':Prop}(h:sw c p q)(i:p->p')(j:q->q'):if c=true then p' else q':=by
 cases c
 .exact ahb (j h)
 .exact agM (i h)
section
variable{X:Cx}{a b c:Expr}{ra rb rc:RE}{qa qb qc:RT}{pos:Pos}{rest:List Expr}
theorem cD{op:CmpOp}{g:zz}(ho:GO X (compareOp op) g)(ha:QE X a ra)(hb:QE X b rb)(hm:behindInMarks op b=false:=by exact Ue _):QT X (.Compare a [op] [b] pos) (rB (rOp g ra rb)) :=
 (XH ho ha hb hm).imp λσ H Q ⟨own,o,R,h,hr,k⟩=>q2 (ra:=ra) (rb:=rb) (tQ.mk h hr λH1 v x q E1 r1=>by
  revert r1 q
  generalize frz x=t;intro q r1;cases r1<;>try exact q.elim
  exact⟨_,rfl,k _ _ q E1⟩)
theorem bY(ha:QE X a ra)(he:∀bz,isTrue a X.env bz=(do let v <- bz;standAt a.pos;holding [v] (truthy v)):=by exact λ_=>rfl):QT X a (ahd ra):=(Vc ha he).imp λσ H Q ⟨own,o,R,h,hr,k⟩=>tQ.mk h hr λH1 v x q E1 r1=>by
 revert r1 q
 generalize frz x=t;intro q r1;cases t<;>try exact q.elim
 .cases r1;exact⟨false,rfl,k _ _ q E1⟩
 .cases r1;exact⟨_,rfl,k _ _ q E1⟩
 .cases r1;exact⟨_,rfl,k _ _ q E1⟩
 .obtain⟨p,xs,rfl,e,r⟩:=r1.tupI;exact⟨_,.inr (.inl ⟨xs,cj.tup e,rfl⟩),by rw[Rep.isEmpty r];exact k _ _ q E1⟩
 .obtain⟨p,xs,rfl,e,r⟩:=r1.lstI;exact⟨_,.inl ⟨xs,.of (cL e).2,rfl⟩,by rw[Rep.isEmpty r];exact k _ _ q E1⟩
theorem bW(ha:QT X a qa):QT X (.UnaryOp .Not a pos) (ahj qa):=(aau ha).imp λσ H Q hP=>by obtain⟨own,o,R,h,hr,k⟩:=hP;exact tQT.mk h hr λH1 b q E1=>k H1 _ q E1
theorem Oc(ha:QT X a qa):QW X (.BoolOp .And [a] pos) qa:=pw_and1 ha
theorem dj(ha:QT X a qa):QW X (.BoolOp .Or [a] pos) qa:=pw_or1 ha
theorem T_(ha:QT X a qa)(hb:QW X (.BoolOp .And (b::rest) pos) qb):QW X (.BoolOp .And (a::b::rest) pos) (abR qa qb):=(pw_and ha hb).imp λσ H Q hP=>by obtain⟨own,o,R,h,hr,k⟩:=hP;exact tQT.mk h hr λH1 c q E1=>Es q (λq=>tQT.mk (h.same E1) q λH2 d q E2=>k H2 d q (E1.trans E2)) λq=>k H1 _ q E1
theorem d7(ha:QT X a qa)(hb:QW X (.BoolOp .Or (b::rest) pos) qb):QW X (.BoolOp .Or (a::b::rest) pos) (rOr qa qb):=(pw_or ha hb).imp λσ H Q hP=>by obtain⟨own,o,R,h,hr,k⟩:=hP;exact tQT.mk h hr λH1 c q E1=>Es q (λq=>k H1 _ q E1) λq=>tQT.mk (h.same E1) q λH2 d q E2=>k H2 d q (E1.trans E2)
theorem QW.qt(h:QW X a qa):QT X a qa:=PW.pt h
theorem uR{op}(h:QE X a ra):QE X (.BoolOp op [a] pos) ra:=abM h
theorem oE(ha:QE X a ra)(hb:QE X (.BoolOp .And (b::rest) pos) rb):QE X (.BoolOp .And (a::b::rest) pos) (ad7 ra rb):=(ZW ha hb).imp λσ H Q ⟨own,o,R,h,hr,k⟩=>tQ.mk h hr λH1 v x q E1 r1=>by
 revert r1 q
 generalize frz x=t;intro q r1;cases r1<;>try exact q.elim
 exact⟨_,rfl,Es q (λq=>⟨own,o,R,h.same E1,q,λH2 v x q E2 n=>k H2 v x q (E1.trans E2) (n.back E1)⟩) λq=>k H1 _ _ q E1 (NR.fz (.bl _))⟩
theorem T7(ha:QE X a ra):QE X (.UnaryOp .Not a pos) (ad8 ra):=(aas ha).imp λσ H Q ⟨own,o,R,h,hr,k⟩=>tQ.mk h hr λH1 v x q E1 r1=>by
 revert r1 q
 generalize frz x=t;intro q r1;cases r1<;>try exact q.elim
 exact⟨_,rfl,k H1 _ _ q E1 (NR.fz (.bl _))⟩
def rCh(g g':zz)(a b c:RE):RE:=λo q=>a o λx=>b o λy=>g (frz x) (frz y) λz=>match frz z with|.bl k=>sw k (c o λw=>g' (frz y) (frz w) q) (q (.fz (.bl false)))|_=>False
theorem q3{op cf:CmpOp}{g g':zz}(ho:GO X (compareOp op) g)(b7:GO X (compareOp cf) g'){σ:L2.St}{H:Hp}{Q:VK}(h:tQ X.K (rCh g g' ra rb rc) σ H Q):Lp (λx y H Q=>∃S t u R,(∀b,S b->H b≠none)/\Rep X.K (hd S H) x t/\Rep X.K (hd S H) y u/\g t u R/\∀H' v z,R z->Same H H'->NR X.K S H H' v z->Q v H') (λx y H Q=>∃S t u R,(∀b,S b->H b≠none)/\Rep X.K (hd S H) x t/\Rep X.K (hd S H) y u/\g' t u R/\∀H' v z,R z->Same H H'->NR X.K S H H' v z->Q v H') (tQ X.K ra) (tQ X.K rb) (tQ X.K rc) σ H Q:=by
 obtain⟨own,o,R,h,hr,k⟩:=h;refine tQ.mk h hr λH1 v x q E1 r1=>tQ.mk (h.same E1) q λH2 w y q2 E2 r2=>?_;have h2:=h.same (E1.trans E2);refine⟨Ow own,_,_,_,λb z=>(h2.sole z).ne,r1.same (bR E2),r2,q2,λH3 u z rz E3 n=>?_⟩;have ki:=n.rep λb z=>(h2.sole z).ne
 revert ki rz
 generalize frz z=t;intro rz ki;cases ki<;>try exact rz.elim
 have h3:=h2.same E3;refine⟨_,rfl,Es rz (λq=>tQ.mk h3 q λH4 w' z q4 E4 r4=>⟨Ow own,_,_,R,λb z=>((h3.same E4).sole z).ne,r2.same (bR (E3.trans E4)),r4,q4,λH' u z rz E5 n=>k H' u z rz (E1.trans (E2.trans (E3.trans (E4.trans E5)))) (n.back (E1.trans (E2.trans (E3.trans E4))))⟩) λq=>k H3 _ _ q (E1.trans (E2.trans E3)) (NR.fz (.bl _))⟩
theorem Ku{op cf:CmpOp}{g g':zz}(ho:GO X (compareOp op) g)(b7:GO X (compareOp cf) g')(ha:QE X a ra)(hb:QE X b rb)(hc:QE X c rc)(hm:lastMarks [op,cf] [b,c]=false:=by with_unfolding_all rfl):QE X (.Compare a [op,cf] [b,c] pos) (rCh g g' ra rb rc):=(V4 ho b7 ha hb hc hm).imp λ_ _ _=>q3 ho b7
theorem rN{op cf:CmpOp}{g g':zz}(ho:GO X (compareOp op) g)(b7:GO X (compareOp cf) g')(ha:QE X a ra)(hb:QE X b rb)(hc:QE X c rc)(hm:lastMarks [op,cf] [b,c]=false:=by with_unfolding_all rfl):QT X (.Compare a [op,cf] [b,c] pos) (rB (rCh g g' ra rb rc)) :=
 (Wj ho b7 ha hb hc hm).imp λσ H Q ⟨own,o,R,h,hr,k⟩=>q3 (ra:=ra) (rb:=rb) (rc:=rc) ho b7 (tQ.mk h hr λH1 v x q E1 r1=>by
  revert r1 q
  generalize frz x=t;intro q r1;cases r1<;>try exact q.elim
  exact⟨_,rfl,k _ _ q E1⟩)
end
def nth{α:Type} : List α->Nat->Option α
 |[],_=>none
 |x::_,0=>some x
 |_::l,n+1=>nth l n
theorem uT{α:Type} : ∀(l:List α)(n:Nat),nth l n=l[n]?
 |[],_=>rfl
 |_::_,0=>rfl
 |_::l,n+1=>by simpa[nth]using uT l n
def ixT{α:Type}(ts:List α):Int->Option α
 |.ofNat n=>nth ts n
 |.negSucc n=>nth ts.reverse n
theorem Wi{α:Type}(ts:List α)(i:Int):ixT ts i=atI ts i:=by
 unfold ixT atI ixN;cases i with
 |ofNat n =>
  show nth ts n=_;rw[uT,ZY (show 0<=Int.ofNat n from XU n)];by_cases h:n<ts.length
  .rw[ZY (by show(n:Int)<_;lia)];rfl
  .rw[ZZ (by show ¬(n:Int)<_;lia),aM (Nat.not_lt.mp h)];rfl
 |negSucc n =>
  show nth ts.reverse n=_;rw[uT,ZZ (by lia)];by_cases h:n<ts.length
  .rw[ZY (by lia),List.getElem?_reverse h];show _=ts[_]?;rw[show(Int.negSucc n+(ts.length:Int)).toNat=ts.length-1-n by lia]
  .rw[ZZ (by lia),aM (by rw[List.length_reverse];exact WJ h)];rfl
theorem bJ.ix{K:Frag}{F:Hp}{xs:Β}{ts:List T}{i:Int}{t:T}(h:bJ K F xs ts)(e:ixT ts i=some t):∃x,atI xs i=some x/\Rep K F x t:=by
 rw[Wi]at e;unfold atI at e ⊢;rw[h.len];cases j:ixN ts.length i with
 |none=>rw[j]at e;cases e
 |some n=>rw[j]at e;exact h.at_ e
def oT{α:Type}(x:Option α)(q:α->Prop):Prop:=match x with|some t=>q t|none=>False
theorem CT{α:Type}{x:Option α}{q:α->Prop}(h:oT x q):∃t,x=some t/\q t:=by
 cases x with
 |none=>exact h.elim
 |some t=>exact⟨t,rfl,h⟩
def gIx:zz
 |.tup ts,.int i,q=>oT (ixT ts i) λt=>q (.fz t)
 |.lst ts,.int i,q=>∃t,ixT ts i=some t/\q (.fz t)
 |.scr ts,.int i,q=>∃t,ixT ts i=some t/\q (.fz t)
 |.str s,.int i,q=>s.length<=sizeLine/\∃c,ixT s.cps.toList i=some c/\q (.fz (.str ⟨#[c]⟩))
 |_,_,_=>False
section
variable{X:Cx}{a b c e:Expr}{ra rb rc re:RE}{qa qb qc:RT}{pos p2:Pos}{lo hi:Option Expr}
theorem gix:IxR X (λx y H Q=>∃S t u R,(∀b,S b->H b≠none)/\Rep X.K (hd S H) x t/\Rep X.K (hd S H) y u/\gIx t u R/\∀H' v z,R z->Same H H'->NR X.K S H H' v z->Q v H'):=by
 refine(WD.or (Vt.or aa7)).imp λx y H Q h=>?_;obtain⟨S,t,u,R,_,hx,hy,hg,k⟩:=h;cases u with
 |int i=>?_
 |_=>cases t<;>exact hg.elim
 cases hy;cases t with
 |any=>exact hg.elim
 |non=>exact hg.elim
 |bl _=>exact hg.elim
 |int _=>exact hg.elim
 |val _=>exact hg.elim
 |dct _ _=>exact hg.elim
 |ins _ _ _=>exact hg.elim
 |exc _ _ _=>exact hg.elim
 |str s=>?_
 |tup ts=>?_
 |lst ts=>?_
 |scr ts=>?_
 .cases hx;obtain⟨z,c,e,q⟩:=hg;rw[Wi]at e;exact .inr (.inr ⟨_,_,c,rfl,rfl,z,e,k H _ _ q (.refl _) (NR.fz (.str _))⟩)
 .obtain⟨p,xs,rfl,e,r⟩:=hx.tupI;obtain⟨t,j,q⟩:=CT hg;obtain⟨v,e',r'⟩:=r.ix j;exact .inr (.inl ⟨p,xs,i,v,rfl,rfl,cj.tup e,e',k H _ _ q (.refl _) (NR.fz r')⟩)
 .obtain⟨p,xs,rfl,e,r⟩:=hx.lstI;obtain⟨t,j,q⟩:=hg;obtain⟨v,e',r'⟩:=r.ix j;exact .inl ⟨p,xs,_,v,rfl,rfl,.of (cL e).2,e',k H _ _ q (.refl _) (NR.fz r')⟩
 .obtain⟨p,xs,rfl,e,r⟩:=hx.scrI;obtain⟨t,j,q⟩:=hg;obtain⟨v,e',r'⟩:=r.ix j;exact .inl ⟨p,xs,_,v,rfl,rfl,cj.seq e,e',k H _ _ q (.refl _) (NR.fz r')⟩
theorem bG(ha:QE X a ra)(hb:QE X b rb)(hs:GK b:=by exact λ_ _=>rfl):QE X (.Subscript a b pos) (rOp gIx ra rb):=(Zg gix ha hb hs).imp λ_ _ _=>q2
abbrev RO:=List OT->(Option Int->Prop)->Prop
def tQO(K:Frag)(r:RO):TO:=λσ H Q=>∃own o R,SR K own H σ o/\r o R/\∀H' b,R b->Same H H'->Q b H'
def QO(X:Cx)(e:Option Expr)(r:RO):Prop:=PO X e (tQO X.K r)
def af9:RO:=λ_ q=>q none
def afm(a:RE):RO:=λo q=>a o λx=>match frz x with|.int i=>q (some i)|_=>False
theorem PO.imp{X:Cx}{e:Option Expr}{t t':TO}(h:PO X e t)(i:∀σ H Q,t' σ H Q->t σ H Q):PO X e t':=λaa s σ H Q I q=>h aa s σ H Q I (i σ H Q q)
theorem jF:QO X none af9:=Xb.imp λσ H Q hP=>by obtain⟨own,o,R,h,hr,k⟩:=hP;exact k H _ hr (.refl _)
theorem gR(h:QE X e re):QO X (some e) (afm re):=(Xq h).imp λσ H Q ⟨own,o,R,h,hr,k⟩=>tQ.mk h hr λH1 v x q E1 r1=>by
 revert r1 q
 generalize frz x=t;intro q r1;cases r1<;>try exact q.elim
 exact⟨_,rfl,k _ _ q E1⟩
def jL{α:Type}(xs:List α)(lo hi:Option Int):List α:=(xs.drop (HT.sIx xs.length 0 lo)).take (HT.sIx xs.length xs.length hi-HT.sIx xs.length 0 lo)
theorem bJ.cut{K:Frag}{F:Hp}{xs:Β}{ts:List T}(h:bJ K F xs ts)(lo hi:Option Int):bJ K F (Q0 xs lo hi) (jL ts lo hi):=by
 unfold Q0 jL;rw[h.len];exact(h.drop _).take _
def gSl:T->Option Int->Option Int->(OT->Prop)->Prop
 |.lst ts,lo,hi,q=>q (.l1 (jL ts lo hi))
 |.scr ts,lo,hi,q=>q (.l1 (jL ts lo hi))
 |.str s,lo,hi,q=>s.length<=sizeLine/\q (.fz (.str (jd s lo hi)))
 |_,_,_,_=>False
def rSl(a:RE)(lo hi:RO):RE:=λo q=>a o λx=>lo o λl=>hi o λu=>gSl (frz x) l u q
theorem gD{rl rh:RO}(he:QE X e re)(hl:QO X lo rl)(hu:QO X hi rh):QE X (.Subscript e (.Slice lo hi none p2) pos) (rSl re rl rh):=(UJ (Yh.or aav) he hl hu).imp λσ H Q ⟨own,o,R,h,hr,k⟩ =>
 tQ.mk h hr λH1 v x q E1 r1=>⟨own,o,_,h.same E1,q,λH2 l q E2=>⟨own,o,_,(h.same E1).same E2,q,λH3 u q E3=>by
  have E:=E1.trans (E2.trans E3);have r1:=r1.same (bR (E2.trans E3))
  revert r1 q
  generalize frz x=t;intro q r1;cases t<;>try exact q.elim
  .cases r1;exact .inr ⟨_,rfl,q.1,k _ _ _ q.2 E (NR.fz (.str _))⟩
  .obtain⟨p,xs,rfl,e,r⟩:=r1.lstI;exact .inl ⟨p,xs,rfl,.of (cL e).2,λa ha=>k _ _ _ q (E.trans (Same.upd ha)) ((oV (r.cut l u) (Same.upd ha) ha bQ).back E)⟩
  .obtain⟨p,xs,rfl,e,r⟩:=r1.scrI;exact .inl ⟨p,xs,rfl,cj.seq e,λa ha=>k _ _ _ q (E.trans (Same.upd ha)) ((oV (r.cut l u) (Same.upd ha) ha bQ).back E)⟩⟩⟩
end
section
variable{X:Cx}{e:Expr}{es:List Expr}{r:RA}{pos:Pos}
def afU(r:RA):RE:=λo q=>r o λts=>q (.fz (.tup ts))
def afJ(r:RA):RE:=λo q=>r o λts=>q (.l1 ts)
theorem fK{k:Nat}(h:QA X es r)(hz:es.length<=sizeLine:=by decide):QE X (.Tuple es k pos) (afU r):=(Mz h).imp λσ H Q ⟨own,o,R,h,hr,k⟩=>tQA.mk h hr λH1 vs ts q ln E1 r1 =>
 ⟨by rw[r1.len,ln];exact hz,λp hp=>k _ _ _ q (E1.trans (Same.upd hp)) (NR.fz (.tup (.of (by rw[b_ λz=>(h.sole z).ne (E1.free hp)];exact bQ)) (r1.same (bR (Same.upd hp)))))⟩
theorem fG(h:QA X es r)(hz:es.length<=sizeLine:=by decide):QE X (.List es pos) (afJ r):=(abN h).imp λσ H Q ⟨own,o,R,h,hr,k⟩=>tQA.mk h hr λH1 vs ts q ln E1 r1 =>
 ⟨by rw[r1.len,ln];exact hz,λp hp=>k _ _ _ q (E1.trans (Same.upd hp)) ((oV r1 (Same.upd hp) hp bQ).back E1)⟩
def GC(X:Cx)(f:Value)(g:ST):Prop:=g_ X f λxs H Q=>∃S ts R,(∀b,S b->H b≠none)/\bJ X.K (hd S H) xs ts/\g ts R/\∀H' v z,R z->Same H H'->NR X.K S H H' v z->Q v H'
variable{x:Str}{p:Pos}{id Ty:String}{g:ST}
theorem bV(hc:GC X (.builtin id) g)(hm:X.mg x=none)(hv:bootBuiltins x=some (.builtin id))(ha:QA X (e::es) r)(hg:Gl X x:=by rfl)(hn:x≠"__name__":=by decide)(a8:qk x:=by decide)
 (he:qo X e es:=by rfl)(aw:qh X pos es:=by rfl):QE X (.Call (.Name x p) (e::es) [] pos) (Tz g r) :=
 (xu hc hg hm hv ha hn a8 he aw).imp λσ H Q hP=>by obtain⟨own,o,R,h,hr,k⟩:=hP;exact tQA.mk h hr λH1 vs ts q _ E1 r1=>⟨Ow own,ts,R,λb z=>((h.same E1).sole z).ne,r1,q,λH' v z rz E n=>k H' v z rz (E1.trans E) (n.back E1)⟩
theorem lW(hc:GC X (.type Ty) g)(hm:X.mg x=none)(hv:bootBuiltins x=some (.type Ty))(ha:QA X (e::es) r)(hg:Gl X x:=by rfl)(hn:x≠"__name__":=by decide)(a8:qk x:=by decide)
 (he:qo X e es:=by rfl)(aw:qh X pos es:=by rfl):QE X (.Call (.Name x p) (e::es) [] pos) (Tz g r) :=
 (Q9 hc hg hm hv ha hn a8 he aw).imp λσ H Q hP=>by obtain⟨own,o,R,h,hr,k⟩:=hP;exact tQA.mk h hr λH1 vs ts q _ E1 r1=>⟨Ow own,ts,R,λb z=>((h.same E1).sole z).ne,r1,q,λH' v z rz E n=>k H' v z rz (E1.trans E) (n.back E1)⟩
theorem bJ.one{K:Frag}{F:Hp}{xs:Β}{t:T}(h:bJ K F xs [t]):∃x,xs=[x]/\Rep K F x t:=by
 cases h with
 |cons a b=>cases b;exact⟨_,rfl,a⟩
theorem bJ.two{K:Frag}{F:Hp}{xs:Β}{t u:T}(h:bJ K F xs [t,u]):∃x y,xs=[x,y]/\Rep K F x t/\Rep K F y u:=by
 cases h with
 |cons a b =>
  obtain⟨y,rfl,c⟩:=b.one;exact⟨_,y,rfl,a,c⟩
def g1(g:T->(OT->Prop)->Prop):ST:=λts q=>match ts with|[t]=>g t q|_=>False
theorem GC.one{f:Value}{g:T->(OT->Prop)->Prop}{r:Β->Hp->VK->Prop}(h:g_ X f r)(i:∀S t x H Q R,Rep X.K (hd S H) x t->g t R->(∀H' v z,R z->Same H H'->NR X.K S H H' v z->Q v H')->r [x] H Q):GC X f (g1 g):=h.imp λxs H Q hP=>by
 obtain⟨S,ts,R,_,rs,hg,k⟩:=hP
 match ts,hg with
 |[t],hg =>
  obtain⟨x,rfl,rx⟩:=rs.one;exact i S t x H Q R rx hg k
def ag9:T->(OT->Prop)->Prop
 |.lst ts,q=>q (.fz (.int ts.length))
 |.tup ts,q=>q (.fz (.int ts.length))
 |.scr ts,q=>q (.fz (.int ts.length))
 |_,_=>False
theorem jZ:GC X (.builtin "len") (g1 ag9):=.one Gw λS t x H Q R rx hg k=>by
 cases t<;>try exact hg.elim
 .obtain⟨p,xs,rfl,e,r⟩:=rx.tupI;exact⟨p,xs,rfl,.inr (cj.tup e),k H _ _ hg (.refl _) (NR.fz (by rw[r.len];exact .int _))⟩
 .obtain⟨p,xs,rfl,e,r⟩:=rx.lstI;exact⟨p,xs,rfl,.inl (.of (cL e).2),k H _ _ hg (.refl _) (NR.fz (by rw[r.len];exact .int _))⟩
 .obtain⟨p,xs,rfl,e,r⟩:=rx.scrI;exact⟨p,xs,rfl,.inl (cj.seq e),k H _ _ hg (.refl _) (NR.fz (by rw[r.len];exact .int _))⟩
def aga:T->(OT->Prop)->Prop
 |.str s,q=>s.length<=sizeLine/\q (.fz (.int s.length))
 |_,_=>False
def agl:T->(OT->Prop)->Prop
 |.dct ks _,q=>q (.fz (.int ks.length))
 |_,_=>False
theorem Ry:g_ X (.builtin "len") (λxs H Q=>∃p kvs,xs=[.ref p]/\Rd H p (.dK kvs)/\Q (.int kvs.length) H):=by
 intro aa s σ H xs us Q I r h;obtain⟨p,kvs,rfl,hp,q⟩:=h;obtain⟨u,rfl,rx⟩:=vals1 r;cases rx;have hok:kvs.length<=sizeLine/\(p==sysModules)=false/\∃vs,KV kvs vs/\s.heap.DictOf (fH X.prog X.w) p vs:=by
  rcases hp with hp|⟨o,hp⟩
  .exact I.hok p _ hp
  .exact(I.hok p _ hp).2
 obtain⟨hz,hS,vs,rr,m⟩:=hok;have hl:=sJ;have ax:kvs.length=vs.length:=rr.length;exact call_len_dict hS m (by lia) ⟨.int kvs.length,H,I.tok _,⟨_,by rw[ax]⟩,q⟩
theorem G3:GC X (.builtin "len") (g1 agl):=.one Ry λS t x H Q R rx hg k=>by
 cases t<;>try exact hg.elim
 obtain⟨p,xs,rfl,e,l,r⟩:=rx.dctI;exact⟨p,_,rfl,cj.rd e,k H _ _ hg (.refl _) (NR.fz (by rw[WU,l,WS];exact .int _))⟩
def agj:T->(OT->Prop)->Prop
 |.int i,q=>q (.fz (.int i.natAbs))
 |_,_=>False
theorem Cy:GC X (.builtin "abs") (g1 agj):=.one Sg λS t x H Q R rx hg k=>by
 cases t<;>try exact hg.elim
 cases rx;exact⟨_,rfl,k H _ _ hg (.refl _) (NR.fz (by rw[aa5];exact .int _))⟩
theorem bJ.ints{K:Frag}{F:Hp} : ∀{xs:Β}{ns:List Int},bJ K F xs (ns.map T.int)->xs=ns.map V.int
 |_,[],.nil=>rfl
 |_,n::ns,.cons a b=>by cases a;rw[bJ.ints b];rfl
theorem bJ.bls{K:Frag}{F:Hp} : ∀{xs:Β}{ns:List Bool},bJ K F xs (ns.map T.bl)->xs=ns.map V.bl
 |_,[],.nil=>rfl
 |_,n::ns,.cons a b=>by cases a;rw[bJ.bls b];rfl
theorem yr{K:Frag}{F:Hp} : ∀(ns:List Int),bJ K F (ns.map V.int) (ns.map T.int)
 |[]=>.nil
 |_::ns=>.cons (.int _) (yr ns)
def agZ:T->(OT->Prop)->Prop
 |.lst ts,q=>∃ns:List Int,ts=ns.map T.int/\q (.fz (.int ns.sum))
 |_,_=>False
theorem Ib(hc:X.calm=true):GC X (.builtin "sum") (g1 agZ):=.one (Q_ hc) λS t x H Q R rx hg k=>by
 cases t<;>try exact hg.elim
 obtain⟨p,xs,rfl,e,r⟩:=rx.lstI;obtain⟨ns,rfl,q⟩:=hg;exact⟨p,ns,rfl,(r.ints ▸ (cL e).2),k H _ _ q (.refl _) (NR.fz (.int _))⟩
def agS(f:List Bool->Bool):T->(OT->Prop)->Prop
 |.lst ts,q=>∃bs:List Bool,ts=bs.map T.bl/\q (.fz (.bl (f bs)))
 |_,_=>False
theorem Gi(hc:X.calm=true):GC X (.builtin "all") (g1 (agS λbs=>bs.all λb=>b)):=.one (Rh hc) λS t x H Q R rx hg k=>by
 cases t<;>try exact hg.elim
 obtain⟨p,xs,rfl,e,r⟩:=rx.lstI;obtain⟨ns,rfl,q⟩:=hg;exact⟨p,ns,rfl,(r.bls ▸ (cL e).2),k H _ _ q (.refl _) (NR.fz (.bl _))⟩
def agE:T->(OT->Prop)->Prop
 |.lst ts,q=>∃ns:List Int,ts=ns.map T.int/\ns.length<64/\∀ms:List Int,ms.Perm ns->ms.Pairwise (· <= ·)->q (.l1 (ms.map T.int))
 |_,_=>False
theorem RQ:GC X (.builtin "sorted") (g1 agE):=.one Rn λS t x H Q R rx hg k=>by
 cases t<;>try exact hg.elim
 obtain⟨p,xs,rfl,e,r⟩:=rx.lstI;obtain⟨ns,rfl,l,q⟩:=hg;exact⟨p,ns,rfl,(r.ints ▸ (cL e).2),l,λms a ha m1 m2=>k _ _ _ (q ms m1 m2) (Same.upd ha) (oV (yr ms) (Same.upd ha) ha bQ)⟩
def aeA:T->(OT->Prop)->Prop
 |.lst ts,q=>q (.l1 ts)
 |_,_=>False
theorem W_:GC X (.type "list") (g1 aeA):=.one Nx λS t x H Q R rx hg k=>by
 cases t<;>try exact hg.elim
 obtain⟨p,xs,rfl,e,r⟩:=rx.lstI;exact⟨p,xs,rfl,(cL e).2,λa ha=>k _ _ _ hg (Same.upd ha) (oV r (Same.upd ha) ha bQ)⟩
def ahp:T->(OT->Prop)->Prop
 |.int i,q=>q (.fz (.int i))
 |.bl b,q=>q (.fz (.int (if b then 1 else 0)))
 |_,_=>False
theorem abw:GC X (.type "int") (g1 ahp):=.one QC λS t x H Q R rx hg k=>by
 cases t<;>try exact hg.elim
 .cases rx;exact .inr ⟨_,rfl,k H _ _ hg (.refl _) (NR.fz (.int _))⟩
 .cases rx;exact .inl ⟨_,rfl,k H _ _ hg (.refl _) (NR.fz (.int _))⟩
inductive Knd where
 |int|bool|str|list|tuple
def Knd.s:Knd->String
 |.int=>"int"
 |.bool=>"bool"
 |.str=>"str"
 |.list=>"list"
 |.tuple=>"tuple"
def isK:Knd->T->Option Bool
 |.int,.int _=>some true
 |.int,.bl _=>some true
 |.bool,.bl _=>some true
 |.str,.str _=>some true
 |.list,.lst _=>some true
 |.tuple,.tup _=>some true
 |_,.any=>none
 |_,.val _=>none
 |_,.scr _=>none
 |_,.ins _ _ _=>none
 |_,.exc _ _ _=>none
 |_,.dct _ _=>none
 |_,_=>some false
theorem aaf(kd:Knd):GC X (.builtin "isinstance") (λts q=>match ts with|[t,.val v]=>v=.ty kd.s/\oT (isK kd t) λb=>q (.fz (.bl b))|_=>False):=by
 intro aa s σ H xs us Q I rs h;obtain⟨S,ts,R,_,rp,hg,k⟩:=h
 match ts,hg with
 |[t,.val v],hg =>
  obtain⟨x,y,rfl,rx,ry⟩:=rp.two;cases ry;obtain⟨rfl,hg⟩:=hg;obtain⟨b,j,q⟩:=CT hg;have hk:kd.s∈["bool","int","str","list","tuple","dict"]:=by cases kd<;>decide
  cases t with
  |tup ts =>
   obtain⟨p,ys,rfl,e,r⟩:=rx.tupI;have eb:b=Hh "tuple" kd.s:=by cases kd<;>cases j<;>decide
   exact J3 aa s σ H _ us Q I rs ⟨p,kd.s,ys,rfl,hk,cj.tup e,k H _ _ q (.refl _) (NR.fz (eb ▸ .bl _))⟩
  |lst ts =>
   obtain⟨p,ys,rfl,e,r⟩:=rx.lstI;have eb:b=Hh "list" kd.s:=by cases kd<;>cases j<;>decide
   exact tV aa s σ H _ us Q I rs ⟨_,kd.s,"list",rfl,hk,by show(match H p with|some (.lst _)=>some "list" |some (.tup _)=>some "tuple" |some (.dK _)=>some "dict" |_=>none)=_;rw[(cL e).2],k H _ _ q (.refl _) (NR.fz (eb ▸ .bl _))⟩
  |non =>
   cases rx;have eb:b=Hh "NoneType" kd.s:=by cases kd<;>cases j<;>decide
   exact tV aa s σ H _ us Q I rs ⟨_,kd.s,"NoneType",rfl,hk,rfl,k H _ _ q (.refl _) (NR.fz (eb ▸ .bl _))⟩
  |bl c =>
   cases rx;have eb:b=Hh "bool" kd.s:=by cases kd<;>cases j<;>decide
   exact tV aa s σ H _ us Q I rs ⟨_,kd.s,"bool",rfl,hk,rfl,k H _ _ q (.refl _) (NR.fz (eb ▸ .bl _))⟩
  |int i =>
   cases rx;have eb:b=Hh "int" kd.s:=by cases kd<;>cases j<;>decide
   exact tV aa s σ H _ us Q I rs ⟨_,kd.s,"int",rfl,hk,rfl,k H _ _ q (.refl _) (NR.fz (eb ▸ .bl _))⟩
  |str c =>
   cases rx;have eb:b=Hh "str" kd.s:=by cases kd<;>cases j<;>decide
   exact tV aa s σ H _ us Q I rs ⟨_,kd.s,"str",rfl,hk,rfl,k H _ _ q (.refl _) (NR.fz (eb ▸ .bl _))⟩
  |_=>cases kd<;>cases j
def ag8(kd:Knd)(a:RE):RE:=λo q=>a o λx=>oT (isK kd (frz x)) λb=>q (.fz (.bl b))
theorem jN(kd:Knd){a:Expr}{ra:RE}{y:Str}{p2:Pos}(ha:QE X a ra)(hm:X.mg "isinstance"=none)(ic:X.mg y=none)(kC:bootBuiltins y=some (.type kd.s))(im:Gl X y:=by rfl)(hg:Gl X "isinstance":=by rfl)(eW:y≠"__name__":=by decide)(iE:qk y:=by decide)
 (he:starEach (a::[.Name y p2]) X.env=(false,eval a X.env)::starEach [.Name y p2] X.env:=by rfl):QE X (.Call (.Name "isinstance" p) [a,.Name y p2] [] pos) (ag8 kd ra) :=
 (xu (aaf kd) hg hm boot_isinstance (cW ha (cW (Pg (v:=.ty kd.s) im ic kC rfl eW iE) jc) he) (by decide) (by decide) he).imp λσ H Q ⟨own,o,R,h,hr,k⟩=>tQ.mk h hr λH1 v x q E1 r1 =>
  ⟨Ow own,[frz x,.val (.ty kd.s)],R,λb z=>((h.same E1).sole z).ne,.cons r1 (.cons (.val _) .nil),⟨rfl,q⟩,λH' v z rz E n=>k H' v z rz (E1.trans E) (n.back E1)⟩
end
structure DT where
 nx:List OT->Prop
 rt:OT->Prop
 bk:List OT->Prop:=λ_=>False
 ct:List OT->Prop:=λ_=>False
 xc:Addr->Θ->List T->Prop:=λ_ _ _=>False
abbrev RS:=DT->List OT->Prop
def zx(X:Cx):XK:=λC d H'=>(∀aa σ H s a s' B,Inv X aa σ H s->Fly X.prog X.w X.stack H s a C H' s' B d->X.xe (.ref a) s') /\
 ∀aa σ H s a c,C=.ref c->Inv X aa σ H s->H a=some (XN a c d)->X.s₀.heap.objs.size<=a->out H a=H'->X.xe (.ref a) s
structure Lnk(K:Frag)(Z:XK)(F:Hp)(E:DT)(D:Ends):Prop where
 nx:∀own H σ o,E.nx o->Same F (hd (Ow own) H)->SR K own H σ o->D.nx σ H
 rt:∀S H v x B,E.rt x->Same F (hd S H)->Slo K (hd S H) H (some v) B x->(∀a∈B,S a)->D.rt v H
 bk:∀own H σ o,E.bk o->Same F (hd (Ow own) H)->SR K own H σ o->D.bk σ H
 ct:∀own H σ o,E.ct o->Same F (hd (Ow own) H)->SR K own H σ o->D.ct σ H
 xc:∀H C d ks vs ts,E.xc C ks ts->Same F H->H d=some (.xd (ks.zip vs))->bJ K H vs ts->Z (.ref C) (some d) H
theorem Lnk.step{K:Frag}{Z:XK}{F F':Hp}{E:DT}{D:Ends}(h:Lnk K Z F E D)(S:Same F F'):Lnk K Z F' E D :=
 ⟨λown H σ o e s=>h.nx own H σ o e (S.trans s),λT H v x B e s=>h.rt T H v x B e (S.trans s),λown H σ o e s=>h.bk own H σ o e (S.trans s),λown H σ o e s=>h.ct own H σ o e (S.trans s),λH C d ks vs ts e s=>h.xc H C d ks vs ts e (S.trans s)⟩
def tQS(X:Cx)(r:RS):TS:=λD σ H=>∃own o E,SR X.K own H σ o/\r E o/\Lnk X.K (zx X) (hd (Ow own) H) E D
def QS(X:Cx)(st:Stmt)(r:RS):Prop:=PS X st (tQS X r)
def QSs(X:Cx)(st:List Stmt)(r:RS):Prop:=PSs X st (tQS X r)
theorem PS.imp{X:Cx}{st:Stmt}{t t':TS}(h:PS X st t)(i:∀D σ H,t' D σ H->t D σ H):PS X st t':=λaa s σ H D I q=>h aa s σ H D I (i D σ H q)
theorem PSs.imp{X:Cx}{st:List Stmt}{t t':TS}(h:PSs X st t)(i:∀D σ H,t' D σ H->t D σ H):PSs X st t':=λaa s σ H D I q=>h aa s σ H D I (i D σ H q)
def adg:RS:=λE o=>E.nx o
def g8(a b:RS):RS:=λE o=>a { E with nx:=b E } o
def abv(i:Nat)(a:RE):RS:=λE o=>a o λx=>E.nx (o.set i (.fz (frz x)))
def ad9(i:Nat)(a:RE):RS:=λE o=>a o λx=>E.nx (o.set i x)
def afj(a:RE):RS:=λE o=>a o λ_=>E.nx o
def agX(a:RE):RS:=λE o=>a o E.rt
def Zj(i:Nat):RS:=λE o=>match slot o i with|.und=>False|x=>E.rt x
def Uz(c:RT)(a b:RS):RS:=λE o=>c o λk=>sw k (a E o) (b E o)
def aaN:RS:=λ_ _=>False
def aez(i:Nat)(a:RS):RS:=λE o=>match slot o i with|.und=>False|x=>a E (o.set i (.fz (frz x)))
section
variable{K:Frag}{own:zk}{H H':Hp}{σ:L2.St}{o:List OT}
theorem SR.putA(h:SR K own H σ o)(E:Same H H'){v:V}{x:OT}(n:NR K (Ow own) H H' v x)(i:Nat):∃ag,SR K ag H' (σ.set i (some v)) (o.set i x)/\Same (hd (Ow own) H) (hd (Ow ag) H'):=by
 by_cases hi:i<o.length
 .exact h.put E n hi
 .rw[VS (Nat.not_lt.mp hi),VS (h.len ▸ Nat.not_lt.mp hi)];exact⟨own,h.same E,bR E⟩
theorem NR.frz{S:Addr->Prop}{v:V}{x:OT}(n:NR K S H H' v x)(hs:∀b,S b->H b≠none):NR K S H H' v (.fz (L2.frz x)):=NR.fz (n.rep hs)
theorem Slo.val{F:Hp}{v:Option V}{A:Φ}{x:OT}(h:Slo K F H v A x)(n:x≠.und):∃u,v=some u:=by
 cases x with
 |und=>exact absurd rfl n
 |fz t=>exact⟨_,h.2.choose_spec.1⟩
 |l1 ts=>obtain⟨a,xs,e,_⟩:=h;exact⟨_,e⟩
 |l2 ts=>obtain⟨a,xs,e,_⟩:=h;exact⟨_,e⟩
 |d1 ks ts=>obtain⟨a,xs,e,_⟩:=h;exact⟨_,e⟩
 |ob a d C ks ts=>obtain⟨xs,e,_⟩:=h;exact⟨_,e⟩
 |la a ts=>obtain⟨xs,e,_⟩:=h;exact⟨_,e⟩
 |pr ts us=>obtain⟨p,a,b,xs,ys,e,_⟩:=h;exact⟨_,e⟩
 |ow w=>obtain⟨u,e,_⟩:=h;exact⟨_,e⟩
theorem SR.val(h:SR K own H σ o){i:Nat}{x:OT}(e:slot o i=x)(n:x≠.und):∃u,σ[i]?=some (some u)/\Slo K (hd (Ow own) H) H (some u) (own i) x:=by
 have s:=h.sl i x (iC e n);obtain⟨u,hu⟩:=s.val n;rw[hu]at s;refine⟨u,?_,s⟩;cases z:σ[i]? with
 |none=>rw[z]at hu;cases hu
 |some w=>rw[z]at hu;exact ZH some hu
end
section
variable{X:Cx}{st:Stmt}{g5:List Stmt}{a b:RS}{e:Expr}{re:RE}{pos:Pos}
theorem bL:QSs X [] adg:=W6.imp λD σ H hP=>by obtain⟨own,o,E,h,hr,L⟩:=hP;exact L.nx own H σ o hr (.refl _) h
theorem agz{D:Ends}{σ:L2.St}{H:Hp}(h:tQS X (g8 a b) D σ H):Yw (tQS X a) (tQS X b) D σ H:=by
 obtain⟨own,o,E,h,hr,L⟩:=h;exact⟨own,o,_,h,hr,λag H' σ' o' q S h'=>⟨ag,o',E,h',q,L.step S⟩,L.rt,L.bk,L.ct,L.xc⟩
theorem bB(h1:QS X st a)(h2:QSs X g5 b):QSs X (st::g5) (g8 a b):=(zY h1 h2).imp λ_ _ _=>agz
theorem bD(h:QS X st a):QSs X [st] a:=m8 h
theorem bU(i:Nat){x:Str}{ar:Pos}(he:QE X e re)(hN:X.N.Nodup:=by assumption)(hx:Loc X.env.scope x:=by first|exact .inl rfl|exact .inr rfl)(hi:X.N[i]?=some x:=by rfl)(hs:swapsWith e (some (.Name x ar)) pos.line X.env=pure false:=by rfl)(hf:qi X x:=by first|exact .inl rfl|exact .inr rfl|assumption) :
  QS X (.Assign [.Name x ar] e pos) (abv i re):=(GF hN hi hx he hs hf).imp λD σ H ⟨own,o,E,h,hr,L⟩=>⟨own,o,_,h,hr,λH' v y q S n=>by
 obtain⟨ag,h',S'⟩:=h.putA S (n.frz λb z=>(h.sole z).ne) i;exact L.nx ag H' _ _ q S' h'⟩
theorem mq(i:Nat){x:Str}{ar:Pos}(he:QE X e re)(hN:X.N.Nodup:=by assumption)(hx:Loc X.env.scope x:=by first|exact .inl rfl|exact .inr rfl)(hi:X.N[i]?=some x:=by rfl)(hs:swapsWith e (some (.Name x ar)) pos.line X.env=pure false:=by rfl)(hf:qi X x:=by first|exact .inl rfl|exact .inr rfl|assumption) :
  QS X (.Assign [.Name x ar] e pos) (ad9 i re):=(GF hN hi hx he hs hf).imp λD σ H ⟨own,o,E,h,hr,L⟩=>⟨own,o,_,h,hr,λH' v y q S n=>by
 obtain⟨ag,h',S'⟩:=h.putA S n i;exact L.nx ag H' _ _ q S' h'⟩
theorem jV(he:QE X e re)(hs:swapsWith e none pos.line X.env=pure false:=by rfl):QS X (.Expr e pos) (afj re):=(jk he hs).imp λD σ H hP=>by obtain⟨own,o,E,h,hr,L⟩:=hP;exact⟨own,o,_,h,hr,λH' v y q S n=>L.nx own H' σ o q (bR S) (h.same S)⟩
theorem bK(he:QE X e re):QS X (.Return (some e) pos) (agX re):=(Mg he).imp λD σ H ⟨own,o,E,h,hr,L⟩=>⟨own,o,_,h,hr,λH' v y q S n=>by
 obtain⟨B,nb,s⟩:=n;exact L.rt _ H' v y B q (jz (λb z=>z.imp id (nb b)) S) s λa ha=>.inr ha⟩
theorem wH(i:Nat){x:Str}{p:Pos}(hN:X.N[i]?=some x:=by rfl)(hv:o9 X.env.scope x=true:=by rfl)(hd:qk x:=by decide)(a6:qf x:=by decide):QS X (.Return (some (.Name x p)) pos) (Zj i):=(Mg (pv i hN hv hd a6)).imp λD σ H hP=>by
 obtain⟨own,o,E,h,hr,L⟩:=hP;have hr:E.rt (slot o i)/\slot o i≠.und:=by
  unfold Zj at hr;cases e:slot o i<;>rw[e]at hr<;>first|exact hr.elim|exact⟨hr,λz=>by cases z⟩
 obtain⟨u,e,s⟩:=h.val rfl hr.2;exact⟨u,e,L.rt (Ow own) H u _ _ hr.1 (.refl _) s λa ha=>⟨i,ha⟩⟩
theorem cu{c:Expr}{ss ts:List Stmt}{qc:RT}(hc:QT X c qc)(ha:QSs X ss a)(hb:QSs X ts b):QS X (.If c ss ts pos) (Uz qc a b):=(af0 hc ha hb).imp λD σ H ⟨own,o,E,h,hr,L⟩=>tQT.mk h hr λH1 c q E1 =>
 Es q (λq=>⟨own,o,E,h.same E1,q,L.step (bR E1)⟩) λq=>⟨own,o,E,h.same E1,q,L.step (bR E1)⟩
theorem fB:QS X st aaN:=S_.imp λD σ H hP=>by obtain⟨own,o,E,h,hr,L⟩:=hP;exact hr
theorem Mx(i:Nat)(hs:QS X st a):QS X st (aez i a):=PS.imp hs λD σ H hP=>by
 obtain⟨own,o,E,h,hr,L⟩:=hP;have hr:a E (o.set i (.fz (frz (slot o i))))/\slot o i≠.und:=by
  unfold aez at hr;cases e:slot o i<;>rw[e]at hr<;>first|exact hr.elim|exact⟨hr,λz=>by cases z⟩
 obtain⟨u,e1,s⟩:=h.val rfl hr.2;obtain⟨ag,h',S⟩:=h.frz (iC rfl hr.2) e1;exact⟨ag,_,E,h',hr.1,L.step S⟩
theorem Io{S:Addr->Prop}{H:Hp}{D:Addr}{u:HO}(h:S D):hd S (upd H D u)=hd S H:=funext λb=>by
 by_cases z:S b
 .rw[nW z,nW z]
 .rw[b_ z,b_ z,bM λ(e:b=D)=>z (e.symm ▸ h)]
def asL:OT->Option (List T×(List T->OT))
 |.l1 ts=>some (ts,.l1)
 |.la a ts=>some (ts,.la a)
 |_=>none
def onL(x:OT)(k:List T->(List T->OT)->Prop):Prop:=match asL x with|some (ts,c)=>k ts c|none=>False
theorem TV{x:OT}{k:List T->(List T->OT)->Prop}(h:onL x k):∃ts c,k ts c/\((x=.l1 ts/\c=.l1)\/∃a,x=.la a ts/\c=.la a):=by
 cases x with
 |l1 ts=>exact⟨ts,_,h,.inl ⟨rfl,rfl⟩⟩
 |la a ts=>exact⟨ts,_,h,.inr ⟨a,rfl,rfl⟩⟩
 |_=>exact h.elim
def ahu(i:Nat)(a:RE):RS:=λE o=>onL (slot o i) λts c=>a o λy=>ts.length<sizeLine/\E.nx (o.set i (c (ts++[frz y])))
theorem SR.l1{K:Frag}{own:zk}{H:Hp}{σ:L2.St}{o:List OT}(h:SR K own H σ o){i:Nat}{ts:List T}{c:List T->OT}(e:(slot o i=.l1 ts/\c=.l1)\/∃a,slot o i=.la a ts/\c=.la a):∃l xs,σ[i]?=some (some (.ref l))/\own i=[l]/\H l=some (.lst xs)/\bJ K (hd (Ow own) H) xs ts/\∀(H':Hp)(ys:Β)us,H' l=some (.lst ys)->bJ K (hd (Ow own) H') ys us->Slo K (hd (Ow own) H') H' (some (.ref l)) [l] (c us):=by
 rcases e with⟨e,rfl⟩|⟨a,e,rfl⟩
 .obtain⟨u,e1,l,xs,e2,e3,e4,r⟩:=h.val e (by intro z;cases z);cases e2;exact⟨l,xs,e1,e3,e4,r,λH' ys us a b=>⟨l,ys,rfl,rfl,a,b⟩⟩
 .obtain⟨u,e1,xs,e2,e3,e4,r⟩:=h.val e (by intro z;cases z);cases e2;exact⟨a,xs,e1,e3,e4,r,λH' ys us a b=>⟨ys,rfl,rfl,a,b⟩⟩
theorem Ux{o:List OT}{i:Nat}{ts:List T}{c:List T->OT}(e:(slot o i=.l1 ts/\c=.l1)\/∃a,slot o i=.la a ts/\c=.la a):∃x,o[i]?=some x:=by
 rcases e with⟨e,_⟩|⟨a,e,_⟩
 .exact⟨_,iC e (by intro z;cases z)⟩
 .exact⟨_,iC e (by intro z;cases z)⟩
theorem SR.chg1{K:Frag}{own:zk}{H:Hp}{σ:L2.St}{o:List OT}(h:SR K own H σ o){i:Nat}{us:List T}{c:List T->OT}(e:∃x,o[i]?=some x){l:Addr}{ys:Β}(eσ:σ[i]?=some (some (.ref l)))(eo:own i=[l])(sl:∀(H':Hp)(ys:Β)us,H' l=some (.lst ys)->bJ K (hd (Ow own) H') ys us->Slo K (hd (Ow own) H') H' (some (.ref l)) [l] (c us))(r:bJ K (hd (Ow own) H) ys us):SR K own (upd H l (.lst ys)) σ (o.set i (c us))/\Same (hd (Ow own) H) (hd (Ow own) (upd H l (.lst ys))):=by
 obtain⟨x,e⟩:=e;refine h.chg e (λb u hb e=>(bM λz=>hb (by rw[eo,z];simp)).trans e) ?_;rw[eσ,eo];exact sl _ ys us bQ (by rw[Io ⟨i,by rw[eo];simp⟩];exact r)
theorem xP(i:Nat){x:Str}{ac ae p:Pos}(he:QE X e re)(hN:X.N[i]?=some x:=by rfl)(hv:o9 X.env.scope x=true:=by rfl)(bg:qk x:=by decide)(a6:qf x:=by decide)
 (hb:attributeBase (.Name x p) "append" X.env (eval (.Name x p) X.env)=eval (.Name x p) X.env:=by rfl)
 (hf:qr X ae e:=by rfl)
 (hl:zw ac ae:=by rfl)(az:qo X e []:=by rfl)(hp:qh X ae []:=by rfl)
 (hs:swapsWith (.Call (.Attribute (.Name x p) "append" ac) [e] [] ae) none pos.line X.env=pure false:=by rfl) :
  QS X (.Expr (.Call (.Attribute (.Name x p) "append" ac) [e] [] ae) pos) (ahu i re):=(jk (Gp (pv i hN hv bg a6) (cW he jc az) hb hf hl az hp) hs).imp λD σ H hP=>by
 obtain⟨own,o,E,h,hr,L⟩:=hP;obtain⟨ts,c,hr,es⟩:=TV hr;obtain⟨l,xs,e1,e2,e3,r,sl⟩:=h.l1 es;refine⟨_,e1,l,xs,rfl,e3,tQ.mk h hr λH1 v y q E1 r1=>⟨v,xs,rfl,E1 _ _ e3,by rw[r.len];exact q.1,?_⟩⟩;obtain⟨h',S⟩:=(h.same E1).chg1 (Ux es) e1 e2 sl ((r.same (bR E1)).app (.cons r1 .nil));exact L.nx own _ σ _ q.2 ((bR E1).trans S) h'
def ahr(i:Nat)(a b:RE):RS:=λE o=>onL (slot o i) λts c=>a o λy=>b o λk=>(match frz k with|.int j=>∃n,ixN ts.length j=some n/\E.nx (o.set i (c (ts.set n (frz y))))|_=>False)
theorem abn(i:Nat){x:Str}{k:Expr}{rk:RE}{aI p:Pos}(he:QE X e re)(hk:QE X k rk)(hN:X.N[i]?=some x:=by rfl)(hv:o9 X.env.scope x=true:=by rfl)(bg:qk x:=by decide)(a6:qf x:=by decide)
 (ha:∀v,assign (.Subscript (.Name x p) k aI) X.env v=(do
   let ov <- holding [v] (eval (.Name x p) X.env)
   let iv <- holding [v,ov] (eval k X.env)
   standAt aI
   holding [v,ov,iv] (setItem ov iv v)
   release [v,ov,iv] []):=by intro _;rfl)
 (hs:swapsWithSole [.Subscript (.Name x p) k aI] e pos.line X.env=pure false:=by rfl)(hw:swappedStores [.Subscript (.Name x p) k aI] e X.env=pure none:=by rfl)
 (h1:(assignEach [.Subscript (.Name x p) k aI] X.env).map (·.2)=[assign (.Subscript (.Name x p) k aI) X.env]:=by rfl):QS X (.Assign [.Subscript (.Name x p) k aI] e pos) (ahr i re rk):=(Vx he (aaD (pv i hN hv bg a6) hk set_list ha) hs hw h1).imp λD σ H hP=>by
 obtain⟨own,o,E,h,hr,L⟩:=hP;obtain⟨ts,c,hr,es⟩:=TV hr;obtain⟨l,xs,e1,e2,e3,r,sl⟩:=h.l1 es;refine tQ.mk h hr λH1 v y q E1 r1=>⟨_,e1,tQ.mk (h.same E1) q λH2 w z q E2 r2=>?_⟩;have r1:=r1.same (bR E2)
 revert r2 q
 generalize frz z=t;intro q r2;cases t<;>try exact q.elim
 cases r2;obtain⟨n,en,q⟩:=q;have c5:=E1.trans E2;refine⟨l,xs,_,n,rfl,rfl,c5 _ _ e3,by rw[r.len];exact en,?_⟩;obtain⟨h',S⟩:=(h.same c5).chg1 (Ux es) e1 e2 sl (bJ.set r1 n (r.same (bR c5)));exact L.nx own _ σ _ q ((bR c5).trans S) h'
def xY(n:Nat)(own ag:zk)(σ σ':L2.St):Prop:=(∀j,ag j=own j\/(j<n/\ag j=[]))/\σ'.length=σ.length/\∀j,n<=j->σ'[j]?=σ[j]?
theorem xY.refl{n:Nat}{own:zk}{σ:L2.St} : xY n own own σ σ:=⟨λ_=>.inl rfl,rfl,λ_ _=>rfl⟩
theorem xY.trans{n:Nat}{own own1 bb:zk}{σ σ1 σ2:L2.St}(a:xY n own own1 σ σ1)(b:xY n own1 bb σ1 σ2):xY n own bb σ σ2 :=
 ⟨λj=>(b.1 j).elim (λe=>(a.1 j).imp (λz=>e.trans z) λz=>⟨z.1,e.trans z.2⟩) .inr,b.2.1.trans a.2.1,λj hj=>(b.2.2 j hj).trans (a.2.2 j hj)⟩
theorem xY.same{n:Nat}{own ag:zk}{σ σ':L2.St}(a:xY n own ag σ σ'){H:Hp} : Same (hd (Ow own) H) (hd (Ow ag) H):=jz (λb hP=>by obtain⟨j,z⟩:=hP;exact .inl ⟨j,(a.1 j).elim (λe=>e ▸ z) λe=>by rw[e.2]at z;cases z⟩) λ_ _ z=>z
abbrev qE:Type:=T->List OT->(List OT->Prop)->Prop
def tQG(K:Frag)(n:Nat)(g:qE):TG:=λv σ H Q=>∃own o t R,SR K own H σ o/\Rep K (hd (Ow own) H) v t/\g t o R/\∀ag σ' o',R o'->xY n own ag σ σ'->SR K ag H σ' o'->Q σ' H
def QG(X:Cx)(n:Nat)(tg:Expr)(g:qE):Prop:=PG X tg (tQG X.K n g)
abbrev qA:Type:=List T->List OT->(List OT->Prop)->Prop
def QGs(X:Cx)(n:Nat)(tg:List Expr)(g:qA):Prop:=PGs X tg λv σ H Q=>∃own o t R,SR X.K own H σ o/\bJ X.K (hd (Ow own) H) v t/\g t o R/\∀ag σ' o',R o'->xY n own ag σ σ'->SR X.K ag H σ' o'->Q σ' H
theorem PGs.imp{tg:List Expr}{t t':TGs}(h:PGs X tg t)(i:∀v σ H Q,t' v σ H Q->t v σ H Q):PGs X tg t':=λaa s σ H v u Q I r q=>h aa s σ H v u Q I r (i _ _ _ _ q)
def hName(i:Nat):qE:=λt o q=>q (o.set i (.fz t))
def agC:qA:=λts o q=>match ts with|[]=>q o|_=>False
def afq(g:qE)(gs:qA):qA:=λts o q=>match ts with|t::ts=>g t o λo'=>gs ts o' q|_=>False
def agO(n:Nat)(gs:qA):qE:=λt o q=>match t with|.tup ts=>ts.length=n/\gs ts o q|_=>False
theorem SR.setF{K:Frag}{own:zk}{H:Hp}{σ:L2.St}{o:List OT}(h:SR K own H σ o){v:V}{t:T}(r:Rep K (hd (Ow own) H) v t){n i:Nat}(hi:i<n):∃ag,SR K ag H (σ.set i (some v)) (o.set i (.fz t))/\xY n own ag σ (σ.set i (some v)):=by
 have le:Same (hd (Ow own) H) (hd (Ow (own1 own i [])) H):=jz (λb z=>.inl (z.of1.elim id λy=>(nomatch y))) λ_ _ z=>z;have go:xY n own (own1 own i []) σ (σ.set i (some v)):=⟨λj=>by
  by_cases z:j=i
  .exact .inr ⟨z ▸ hi,by rw[z,fJ]⟩
  .exact .inl (cY z),X2,λj hj=>Wp (by lia)⟩
 by_cases hl:i<o.length
 .refine⟨own1 own i [],⟨by rw[X2,X2,h.len],λj y e=>?_,λj hj a ha=>?_,λj k a e1 e2=>?_⟩,go⟩
  .by_cases z:j=i
   .subst z;rw[WZ hl]at e;cases e;rw[fJ,WZ (h.len ▸ hl)];exact⟨rfl,v,rfl,r.same le⟩
   .rw[Wp (Ne.symm z)]at e;rw[cY z,Wp (Ne.symm z)];exact(h.sl j y e).same le λ_ _ z=>z
  .rw[X2]at hj;rw[cY (by lia)]at ha;exact h.out j hj a ha
  .by_cases z:j=i
   .rw[z,fJ]at e1;cases e1
   by_cases y:k=i
   .rw[y,fJ]at e2;cases e2
   .rw[cY z]at e1;rw[cY y]at e2;exact h.dis j k a e1 e2
 .refine⟨own,?_,⟨λ_=>.inl rfl,go.2⟩⟩;rw[VS (Nat.not_lt.mp hl),VS (h.len ▸ Nat.not_lt.mp hl)];exact h
theorem cA{n:Nat}(i:Nat){x:Str}(hN:X.N.Nodup:=by assumption)(hx:Loc X.env.scope x:=by first|exact .inl rfl|exact .inr rfl)(hi:X.N[i]?=some x:=by rfl)(hn:i<n:=by decide)(hf:qi X x:=by first|exact .inl rfl|exact .inr rfl|assumption):QG X n (.Name x pos) (hName i):=(kh hN hi hx hf).imp λv σ H Q hP=>by
 obtain⟨own,o,t,R,h,r,hg,k⟩:=hP;obtain⟨ag,h',S⟩:=h.setF r hn;exact k ag _ _ hg S h'
theorem gq{n:Nat} : QGs X n [] agC:=Oq.imp λv σ H Q hP=>by
 obtain⟨own,o,t,R,h,r,hg,k⟩:=hP;cases r with
 |nil=>exact⟨rfl,k own σ o hg .refl h⟩
 |cons _ _=>exact hg.elim
theorem bT{n:Nat}{e:Expr}{es:List Expr}{g:qE}{gs:qA}(h1:QG X n e g)(h2:QGs X n es gs)(hs:(assignEach (e::es) X.env).map (·.2)=assign e X.env::(assignEach es X.env).map (·.2):=by rfl):QGs X n (e::es) (afq g gs):=(Bu h1 h2 hs).imp λv σ H Q hP=>by
 obtain⟨own,o,t,R,h,r,hg,k⟩:=hP;cases r with
 |nil=>exact hg.elim
 |cons a b=>exact⟨_,_,rfl,own,o,_,_,h,a,hg,λag σ' o' q S h'=>⟨ag,o',_,R,h',b.same S.same,q,λbb σ2 o2 q S2 h2=>k bb σ2 o2 q (S.trans S2) h2⟩⟩
theorem jo{m:Nat}{es:List Expr}{k:Nat}{gs:qA}{n:Nat}(h:QGs X m es gs)(hc:X.calm=true:=by rfl)(hn:(assignEach es X.env).length=n:=by rfl)(az:zv X es:=by rfl):QG X m (.Tuple es k pos) (agO n gs):=(Ws hc h hn az).imp λv σ H Q hP=>by
 obtain⟨own,o,t,R,h,r,hg,k⟩:=hP;cases t<;>try exact hg.elim
 obtain⟨a,xs,rfl,e,r⟩:=r.tupI;exact⟨a,xs,rfl,cj.tup e,r.len.trans hg.1,own,o,_,R,h,r,hg.2,k⟩
def ag4(a:RE)(g:qE):RS:=λE o=>a o λx=>g (frz x) o E.nx
theorem IW{n:Nat}{tg:Expr}{g:qE}(he:QE X e re)(hg:QG X n tg g)(hs:swapsWithSole [tg] e pos.line X.env=pure false:=by rfl)(hw:swappedStores [tg] e X.env=pure none:=by rfl)(h1:(assignEach [tg] X.env).map (·.2)=[assign tg X.env]:=by rfl):QS X (.Assign [tg] e pos) (ag4 re g) :=
 (Vx he hg hs hw h1).imp λD σ H hP=>by obtain⟨own,o,E,h,hr,L⟩:=hP;exact tQ.mk h hr λH1 v y q E1 r1=>⟨own,o,_,_,h.same E1,r1,q,λag σ' o' q S h'=>L.nx ag H1 σ' o' q ((bR E1).trans S.same) h'⟩
end
section
variable{P:Program}{w:World}{K:Frag}{mg:Str->Ψ}{base:Heap}
def start'(n:Nat)(ts:List T):List OT:=ts.map OT.fz++List.replicate (n-ts.length) .und
theorem SR.start{H:Hp}{vs:Β}{ts:List T}(r:bJ K H vs ts)(N:Θ):SR K (λ_=>[]) H (start N vs) (start' N.length ts):=by
 have e0:Ow (λ_=>[])=λ_=>False:=funext λb=>propext ⟨λhP=>by obtain⟨_,z⟩:=hP;exact(nomatch z),False.elim⟩;refine⟨by unfold start' L2.start;simp[r.len],λi x e=>?_,λ_ _ _ z=>(nomatch z),λi j a z=>(nomatch z)⟩;rw[e0,Qm];unfold start' at e;unfold L2.start;by_cases hi:i<ts.length
 .rw[aD (by simpa using hi),aq,aj hi]at e;cases e;obtain⟨v,e1,r1⟩:=r.at_ (aj hi);rw[aD (by rw[ak,r.len];exact hi),aq,e1];exact⟨rfl,v,rfl,r1⟩
 .rw[aC (by simpa using hi),ak,XX]at e;by_cases hj:i-ts.length<N.length-ts.length
  .rw[ZY hj]at e;cases e;rfl
  .rw[ZZ hj]at e;cases e
theorem PN{H:Hp} : hd (Ow λ_=>[]) H=H:=by rw[show Ow (λ_=>[])=λ_=>False from funext λb=>propext ⟨λhP=>by obtain⟨_,z⟩:=hP;exact(nomatch z),False.elim⟩,Qm]
theorem Vz{H:Hp}{Q:VK}{R:OT->Prop}(q:∀H' v x,R x->Same H H'->NR K (λ_=>False) H H' v x->Q v H')(S:Addr->Prop)(H':Hp)(v:V)(x:OT)(B:Φ)(rx:R x)(E:Same H (hd S H'))(s:Slo K (hd S H') H' (some v) B x)(hB:∀a∈B,S a):Q v H' :=
 q H' v x rx (E.trans cj) ⟨B,λa ha=>E.free (nW (hB a ha)),s.same (jz (λb z=>.inl (z.elim False.elim (hB b))) λ_ _ z=>z) λ_ _ z=>z⟩
theorem Fun.okT{x af:Str}{st:Stmt}{f:Addr}{fd:FuncData}{N ps:Θ}{k:Nat}{S:ST}(F:Fun K x af st f fd)(sc:bH N ps (bC st))
 (a7:∀(ah:Value)(A:Around)(outer:List Env)(s:Shared)(H:Hp)(E:XK),dg k (A.deeper (envOfC af (bC st) s.heap.objs.size f ah))->N.Nodup ->
   ∃r,QSs (yq CX0 P w K mg base N af (bC st) f ah A outer s H E).nox (eG st) r/\∀ts R,S ts R->r { nx:=λ_=>R (.fz .non),rt:=R } (start' N.length ts))(len:∀ts R,S ts R->ts.length=ps.length:=by intro _ _ h;repeat (first|exact(ZH List.length h.1).trans rfl|obtain⟨_,h⟩:=h)):dO P w K mg base CX0 (k+1) f fd ps (spT K S):=by
 refine F.ok sc (λvs H Q E h=>?_) λah A outer s H vs Q E hr h=>?_
 .obtain⟨ts,R,r,hS,_⟩:=h;exact r.len.trans (len ts R hS)
 .obtain⟨ts,R,r,hS,q⟩:=h;obtain⟨rd,h1,h2⟩:=a7 ah A outer s H E hr sc.nd;have e0:=PN (H:=H);have aE:=Vz q;refine⟨_,h1,λ_=>[],_,_,SR.start r N,h2 ts R hS,⟨λown H' σ o rx E h=>?_,λS' H' v x B rx E s hB=>aE S' H' v x B rx (e0 ▸ E) s hB,λ_ _ _ _ z=>z.elim,λ_ _ _ _ z=>z.elim,λ_ _ _ _ _ _ z=>z.elim⟩⟩;exact aE (Ow own) H' .non _ [] rx (e0 ▸ E) ⟨rfl,_,rfl,.non⟩ λ_ z=>(nomatch z)
end
abbrev RI:=List OT->(List T->Prop)->Prop
def Wlk(K:Frag)(J:It)(F:Hp)(xs:List T):Prop:=∀(S:Addr->Prop)(H:Hp)(i:Nat),(∀b,S b->H b≠none)->Same F (hd S H) ->
 (i=xs.length->J.stop i H)/\∀t,xs[i]?=some t->J.go i H/\∀x H',J.yld i H x H'->Same H H'/\Rep K (hd S H') x t
def tQI(K:Frag)(r:RI):TI:=λσ H Q=>∃own o R,SR K own H σ o/\r o R/\∀H' J xs,R xs->Same H H'->Wlk K J (hd (Ow own) H') xs->Q J H'
def QI(X:Cx)(tg it:Expr)(r:RI):Prop:=PI X tg it (tQI X.K r)
theorem PI.imp{X:Cx}{tg it:Expr}{t t':TI}(h:PI X tg it t)(i:∀σ H Q,t' σ H Q->t σ H Q):PI X tg it t':=λaa s σ H Q I q=>h aa s σ H Q I (i σ H Q q)
def ahf(a:RE):RI:=λo q=>a o λx=>match frz x with|.lst ts=>q ts|_=>False
theorem abX{S:Addr->Prop}{H:Hp}{t:Addr}{u:HO}(n:H t=none)(hs:∀b,S b->H b≠none):hd S (upd H t u) t=some u:=by rw[b_ λz=>hs t z n];exact bQ
section
variable{X:Cx}{tg:Expr}{e a b:Expr}{re ra rb:RE}{p pos aI:Pos}
theorem dY(he:QE X e re):QI X tg e (ahf re):=(zB he).imp λσ H Q ⟨own,o,R,h,hr,k⟩=>tQ.mk h hr λH1 v x q E1 r1=>by
 revert r1 q
 generalize frz x=t;intro q r1;cases t<;>try exact q.elim
 obtain⟨a,xs,rfl,e,r⟩:=r1.lstI;refine⟨a,rfl,⟨xs,.of (cL e).2⟩,k H1 _ _ q E1 λS H2 i _ SF=>⟨λhi=>⟨xs,.of (cL (SF _ _ e)).2,by rw[r.len];exact X9 hi.symm⟩,λt ht=>?_⟩⟩;obtain⟨y,ey,ry⟩:=r.at_ ht;refine⟨⟨xs,y,.of (cL (SF _ _ e)).2,ey⟩,?_⟩;rintro x H3 ⟨rfl,hx⟩;have:=hx xs (.of (cL (SF _ _ e)).2);rw[ey]at this;cases this;exact⟨.refl _,ry.same SF⟩
def rng(lo:Int)(n:Nat):List T:=(List.range n).map λk:Nat=>.int (lo+k)
theorem Od{K:Frag}{lo:Int}{n:Nat}{F:Hp} : Wlk K (Itr lo n) F (rng lo n):=λS H i _ _=>⟨λhi=>by rw[rng,ak,X1]at hi;exact X9 hi.symm,λt ht=>by
 unfold rng at ht;rw[aq]at ht;by_cases hi:i<n
 .rw[WG hi]at ht;cases ht;refine⟨hi,?_⟩;rintro x H' ⟨rfl,rfl⟩;exact⟨.refl _,.int _⟩
 .rw[aM (by simpa using hi)]at ht;cases ht⟩
def ahs(r:RA):RI:=λo q=>r o λts=>match ts with|[.int j]=>(-(2^62)<=j/\j<2^62)/\q (rng 0 j.toNat)|_=>False
def agJ(r:RA):RI:=λo q=>r o λts=>match ts with|[.int i,.int j]=>(-(2^62)<=i/\i<2^62/\-(2^62)<=j/\j<2^62)/\q (rng i (j-i).toNat)|_=>False
theorem dB{r:RA}(hm:X.mg "range"=none)(ha:QA X [a] r)(hg:Gl X "range":=by rfl)(hs:starEach [a] X.env=[(false,eval a X.env)]:=by rfl):QI X tg (.Call (.Name "range" p) [a] [] pos) (ahs r):=(Qt hg hm ha hs).imp λσ H Q ⟨own,o,R,h,hr,k⟩=>⟨own,o,_,h,hr,λH1 vs ts q _ E1 r1=>by
 rcases ts with _|⟨t1,l⟩
 .exact q.elim
 obtain⟨j,rfl⟩ : ∃j,t1=.int j:=by
  cases t1 with
  |int j=>exact⟨j,rfl⟩
  |_=>exact q.elim
 rcases l with _|⟨t2,l⟩<;>try exact q.elim
 obtain⟨x,rfl,rx⟩:=r1.one;cases rx;exact⟨j,rfl,q.1.1,q.1.2,k H1 _ _ q.2 E1 Od⟩⟩
theorem Q5{r:RA}(hm:X.mg "range"=none)(ha:QA X [a,b] r)(hg:Gl X "range":=by rfl)(hs:starEach [a,b] X.env=[(false,eval a X.env),(false,eval b X.env)]:=by rfl)(cr:starEach [b] X.env=[(false,eval b X.env)]:=by rfl):QI X tg (.Call (.Name "range" p) [a,b] [] pos) (agJ r):=(Qw hg hm ha hs cr).imp λσ H Q ⟨own,o,R,h,hr,k⟩=>⟨own,o,_,h,hr,λH1 vs ts q _ E1 r1=>by
 rcases ts with _|⟨t1,l⟩
 .exact q.elim
 obtain⟨i,rfl⟩ : ∃j,t1=.int j:=by
  cases t1 with
  |int j=>exact⟨j,rfl⟩
  |_=>exact q.elim
 rcases l with _|⟨t2,l⟩<;>try exact q.elim
 obtain⟨j,rfl⟩ : ∃j,t2=.int j:=by
  cases t2 with
  |int j=>exact⟨j,rfl⟩
  |_=>exact q.elim
 rcases l with _|⟨t3,l⟩<;>try exact q.elim
 obtain⟨x,y,rfl,rx,ry⟩:=r1.two;cases rx;cases ry;exact⟨i,j,rfl,q.1,k H1 _ _ q.2 E1 Od⟩⟩
def tU(g:qE)(b:RS)(E:DT):List T->List OT->Prop
 |[],o=>E.nx o
 |t::ts,o=>∃N:List OT->Prop,(∀o,N o->tU g b E ts o)/\g t o λo'=>b { E with nx:=N,ct:=N,bk:=E.nx } o'
def agf(it:RI)(g:qE)(b:RS):RS:=λE o=>it o λxs=>tU g b E xs o
theorem iQ{n:Nat}{iter:Expr}{be:List Stmt}{ri:RI}{g:qE}{rb:RS}(hi:QI X tg iter ri)(hg:QG X n tg g)(hb:QSs X be rb)(hc:X.calm=true:=by rfl)(hp:PassesOwn (model X.prog X.w) X.A X.env X.xe:=by first|exact PassesOwn.never|exact PassesOwn.leaving)
 (hs:qV X iter:=by intro _;rfl):QS X (.For tg iter be [] pos) (agf ri g rb):=(Mu hp hc hi hg hb hs).imp λD σ H ⟨own,o,E,h,hr,L⟩=>⟨own,o,_,h,hr,λH1 J xs q E1 wk=>by
 refine⟨λi m σ' H'=>∃ag o',SR X.K ag H' σ' o'/\Same (hd (Ow own) H1) (hd (Ow ag) H')/\tU g rb E (xs.drop i) o'/\i<=xs.length/\m=xs.length-i,⟨_,own,o,h.same E1,.refl _,q,aZ _,rfl⟩,?_⟩;rintro i m σ' H' ⟨ag,o',h',S',hl,il,rfl⟩;obtain⟨w1,w2⟩:=wk (Ow ag) H' i (λb z=>(h'.sole z).ne) S';have S0:=(bR E1).trans S';by_cases hi:i<xs.length
 .right;obtain⟨go,yl⟩:=w2 _ (aj hi);rw[UR hi]at hl;obtain⟨N,hN,hl⟩:=hl;refine⟨go,λσ2 H2=>∃bb o2,SR X.K bb H2 σ2 o2/\Same (hd (Ow own) H1) (hd (Ow bb) H2)/\tU g rb E (xs.drop (i+1)) o2,λσ2 H2 ⟨bb,o2,a,b,c⟩=>⟨xs.length-(i+1),by omega,bb,o2,a,b,c,hi,rfl⟩,λx H2 y=>?_⟩;obtain⟨E2,rx⟩:=yl x H2 y;refine⟨ag,o',_,_,h'.same E2,rx,hl,λft σ3 o3 q3 jI h3=>⟨ft,o3,_,h3,q3,?_⟩⟩;have S3:=S'.trans ((bR (S:=Ow ag) E2).trans jI.same);have L3:=L.step ((bR E1).trans S3);exact⟨λbP H4 σ4 o4 q S h=>⟨bP,o4,h,S3.trans S,hN _ q⟩,L3.rt,λbP H4 σ4 o4 q S h=>L3.nx bP H4 σ4 o4 q S h,λbP H4 σ4 o4 q S h=>⟨bP,o4,h,S3.trans S,hN _ q⟩,L3.xc⟩
 .left;refine⟨w1 (by lia),?_⟩;rw[UQ (Nat.not_lt.mp hi)]at hl;exact L.nx ag H' σ' o' hl S0 h'⟩
def aah(c:RT)(b:RS):RS:=λE o=>∃W:Nat->List OT->Prop,(∃m,W m o)/\∀m o,W m o->c o λk=>sw k (∃N:List OT->Prop,(∀o',N o'->∃m',m'<m/\W m' o')/\b { E with nx:=N,ct:=N,bk:=E.nx } o) (E.nx o)
theorem JZ{c:Expr}{be:List Stmt}{rc:RT}{rb:RS}(hc:QT X c rc)(hb:QSs X be rb)(hp:PassesOwn (model X.prog X.w) X.A X.env X.xe:=by first|exact PassesOwn.never|exact PassesOwn.leaving):QS X (.While c be [] pos) (aah rc rb):=(V7 hp hc hb).imp λD σ H hP=>by
 obtain⟨own,o,E,h,hr,L⟩:=hP;obtain⟨W,⟨m0,w0⟩,st⟩:=hr;refine⟨λm σ' H'=>∃ag o',SR X.K ag H' σ' o'/\Same (hd (Ow own) H) (hd (Ow ag) H')/\W m o',⟨m0,own,o,h,.refl _,w0⟩,?_⟩;rintro m σ' H' ⟨ag,o',h',S',wm⟩;refine tQT.mk h' (st m o' wm) λH1 k q E1=>Es q (λhP=>?_) λq=>L.nx ag H1 σ' o' q (S'.trans (bR E1)) (h'.same E1);obtain⟨N,hN,q⟩:=hP;have S1:=S'.trans (bR E1);have L1:=L.step S1;refine⟨λσ2 H2=>∃bb o2,SR X.K bb H2 σ2 o2/\Same (hd (Ow own) H) (hd (Ow bb) H2)/\N o2,λσ2 H2 hP=>?_,ag,o',_,h'.same E1,q,⟨λbP H4 σ4 o4 q S h=>⟨bP,o4,h,S1.trans S,q⟩,L1.rt,λbP H4 σ4 o4 q S h=>L1.nx bP H4 σ4 o4 q S h,λbP H4 σ4 o4 q S h=>⟨bP,o4,h,S1.trans S,q⟩,L1.xc⟩⟩;obtain⟨bb,o2,a,b,c⟩:=hP;obtain⟨m',lt,w⟩:=hN o2 c;exact⟨m',lt,bb,o2,a,b,w⟩
end
def pC(g:qE)(c:RT)(e:RE)(o:List OT):List T->(List T->Prop)->Prop
 |[],q=>q []
 |t::ts,q=>∃(N:T->Prop)(M:Prop),(∀y,N y->pC g c e o ts λus=>q (y::us))/\(M->pC g c e o ts q)/\g t o λo'=>c o' λb=>sw b (e o' λy=>N (frz y)) M
def agU:RT:=λ_ q=>q true
def Ym(it:RI)(n:Nat)(g:qE)(c:RT)(e:RE):RE:=λo q=>it o λxs=>xs.length<=sizeLine/\pC g c e (List.replicate n .und++o) xs λus=>q (.l1 us)
def ownL2(n L:Nat)(own:zk)(A:Φ):zk:=λi=>if i<n then[]else if i<n+L then own (i-n)else if i=n+L then A else own (i-n-1)
theorem Ow.ownL2{n L:Nat}{own:zk}{A:Φ}{b:Addr} : Ow (ownL2 n L own A) b↔Ow own b\/b∈A:=by
 constructor
 .rintro⟨i,z⟩;unfold L2.ownL2 at z;by_cases h1:i<n
  .rw[ZY h1]at z;cases z
  rw[ZZ h1]at z;by_cases h2:i<n+L
  .rw[ZY h2]at z;exact .inl ⟨_,z⟩
  rw[ZZ h2]at z;by_cases h3:i=n+L
  .rw[ZY h3]at z;exact .inr z
  .rw[ZZ h3]at z;exact .inl ⟨_,z⟩
 .rintro(⟨i,z⟩|z)
  .by_cases h:i<L
   .exact⟨n+i,by unfold L2.ownL2;rw[ZZ (UX (XW _ _)),ZY (Nat.add_lt_add_left h _),show n+i-n=i by exact UU _ _];exact z⟩
   .exact⟨n+i+1,by unfold L2.ownL2;rw[ZZ (by lia),ZZ (by lia),ZZ (by lia),show n+i+1-n-1=i by lia];exact z⟩
  .exact⟨n+L,by unfold L2.ownL2;rw[ZZ (UX (XW _ _)),ZZ (XV _),ZY rfl];exact z⟩
theorem SR.blockL{K:Frag}{own:zk}{H:Hp}{σ:L2.St}{o:List OT}(h:SR K own H σ o){A:Φ}{H':Hp}(E:Same H H')(nA:∀a∈A,H a=none)(eA:∀a∈A,∃ys,H' a=some (.lst ys))(pre:L2.St):SR K (ownL2 pre.length o.length own A) H' (pre++σ) (List.replicate pre.length .und++o):=by
 have le:Same (hd (Ow own) H) (hd (Ow (ownL2 pre.length o.length own A)) H'):=jz (λb z=>(Ow.ownL2.mp z).imp id (nA b)) E;have i7:∀j,∀a∈A,a∉own j:=λj a ha z=>(h.sole ⟨j,z⟩).ne (nA a ha);refine⟨by simp[h.len],λi x e=>?_,λi hi a ha=>?_,λi j a e1 e2=>?_⟩
 .by_cases h1:i<pre.length
  .rw[aD (by simpa using h1),XX,ZY h1]at e;cases e;show ownL2 _ _ _ _ i=[];unfold ownL2;rw[ZY h1]
  .rw[aC (by simpa using h1),aN]at e;have h2:i-pre.length<o.length:=(ao.mp e).1;rw[aC (Nat.not_lt.mp h1)];have:ownL2 pre.length o.length own A i=own (i-pre.length):=by unfold ownL2;rw[ZZ h1,ZY (by omega)]
   rw[this];exact(h.sl _ x e).same le E
 .rw[aA,aN]at hi;unfold ownL2 at ha;rw[ZZ (by lia),ZZ (UX hi)]at ha;by_cases h3:i=pre.length+o.length
  .rw[ZY h3]at ha;exact eA a ha
  .rw[ZZ h3]at ha;obtain⟨xs,e⟩:=h.out _ (by lia) a ha;exact⟨xs,E _ _ e⟩
 .unfold ownL2 at e1 e2;by_cases a1:i<pre.length
  .rw[ZY a1]at e1;cases e1
  by_cases b1:j<pre.length
  .rw[ZY b1]at e2;cases e2
  rw[ZZ a1]at e1;rw[ZZ b1]at e2;by_cases a2:i<pre.length+o.length<;>by_cases b2:j<pre.length+o.length
  .rw[ZY a2]at e1;rw[ZY b2]at e2;have:=h.dis _ _ a e1 e2;omega
  .rw[ZY a2]at e1;rw[ZZ b2]at e2;by_cases b3:j=pre.length+o.length
   .rw[ZY b3]at e2;exact absurd e1 (i7 _ a e2)
   .rw[ZZ b3]at e2;have:=h.dis _ _ a e1 e2;omega
  .rw[ZZ a2]at e1;rw[ZY b2]at e2;by_cases a3:i=pre.length+o.length
   .rw[ZY a3]at e1;exact absurd e2 (i7 _ a e1)
   .rw[ZZ a3]at e1;have:=h.dis _ _ a e1 e2;lia
  .rw[ZZ a2]at e1;rw[ZZ b2]at e2;by_cases a3:i=pre.length+o.length<;>by_cases b3:j=pre.length+o.length
   .exact Eq.trans a3 (Eq.symm b3)
   .rw[ZY a3]at e1;rw[ZZ b3]at e2;exact absurd e2 (i7 _ a e1)
   .rw[ZZ a3]at e1;rw[ZY b3]at e2;exact absurd e1 (i7 _ a e2)
   .rw[ZZ a3]at e1;rw[ZZ b3]at e2;have:=h.dis _ _ a e1 e2;lia
def ownS(n L:Nat)(own:zk)(D:Addr):zk:=ownL2 n L own [D]
theorem Ow.ownS{n L:Nat}{own:zk}{D b:Addr} : Ow (ownS n L own D) b↔Ow own b\/b=D:=Ow.ownL2.trans (or_congr_right YR)
theorem SR.block{K:Frag}{own:zk}{H:Hp}{σ:L2.St}{o:List OT}(h:SR K own H σ o){D:Addr}{ys:Β}{H':Hp}(E:Same H H')(nD:H D=none)(eD:H' D=some (.lst ys))(pre:L2.St):SR K (ownS pre.length o.length own D) H' (pre++σ) (List.replicate pre.length .und++o):=h.blockL E (λa z=>YR.mp z ▸ nD) (λa z=>YR.mp z ▸ ⟨_,eD⟩) pre
theorem Vb{n:Nat}{own ag:zk}{pre σ σ':L2.St}(hp:pre.length=n)(g:xY n own ag (pre++σ) σ'):∃b6:L2.St,b6.length=n/\σ'=b6++σ:=by
 obtain⟨_,l,k⟩:=g;refine⟨σ'.take n,by rw[aY,l,aA];lia,?_⟩;refine List.ext_getElem? λi=>?_;by_cases hi:i<n
 .rw[aD (by rw[aY,l,aA];lia),List.getElem?_take_of_lt hi]
 .rw[aC (by rw[aY,l,aA];lia),k i (WJ hi),aC (by lia),aY,l,aA]
  congr 1
  lia
theorem Jz{K:Frag}{σ:L2.St}{Q:VK}{n:Nat}{g:qE}{rc:RT}{re:RE}{own:zk}{o:List OT}{H1:Hp}{J:It}{xs:List T}{R:OT->Prop}{D:Addr}(h1:SR K own H1 σ o)(wk:Wlk K J (hd (Ow own) H1) xs)(lx:xs.length<=sizeLine)(q:pC g rc re (List.replicate n .und++o) xs λus=>R (.l1 us))(nD:H1 D=none)(k:∀H' v x,R x->Same H1 H'->NR K (Ow own) H1 H' v x->Q v H') :
  ∃W:Nat->Nat->Β->Hp->Prop,(∃m,W 0 m [] (upd H1 D (.lst [])))/\∀i m ys Hc,W i m ys Hc ->
   (J.stop i Hc/\Q (.ref D) Hc)\/(J.go i Hc/\∀x H',J.yld i Hc x H'->∀pre:L2.St,pre.length=n->tMG (tQG K n g) x (pre++σ) H' λσ2 H2=>∃b6:L2.St,b6.length=n/\σ2=b6++σ/\tMT (tQT K rc) σ2 H2 λb H3 =>
    match b with
    |true=>tM (tQ K re) σ2 H3 λy H4=>ys.length<sizeLine/\H4 D=some (.lst ys)/\∃m',m'<m/\W (i+1) m' (ys++[y]) (upd H4 D (.lst (ys++[y])))
    |false=>∃m',m'<m/\W (i+1) m' ys H3):=by
 generalize hO:List.replicate n OT.und++o=ob at q;refine⟨λi m ys Hc=>∃ts,Hc D=some (.lst ys)/\Same H1 Hc/\bJ K (hd (λb=>Ow own b\/b=D) Hc) ys ts/\ys.length<=i/\i<=xs.length/\m=xs.length-i/\pC g rc re ob (xs.drop i) λus=>R (.l1 (ts++us)),⟨_,[],bQ,Same.upd nD,.nil,aF _,aZ _,rfl,q⟩,?_⟩;rintro i m ys Hc ⟨ts,eD,Ec,rs,il,ix,rfl,hl⟩;have hn:∀b,Ow own b\/b=D->Hc b≠none:=λb z=>z.elim (λz=>((h1.same Ec).sole z).ne) λe z=>by rw[e,eD]at z;cases z
 have SD:Same (hd (Ow own) H1) (hd (λb=>Ow own b\/b=D) Hc):=jz (λb z=>z.imp id λ(e:b=D)=>e ▸ nD) Ec;obtain⟨w1,w2⟩:=wk (λb=>Ow own b\/b=D) Hc i hn SD;by_cases hi:i<xs.length
 .right;obtain⟨go,yl⟩:=w2 _ (aj hi);rw[UR hi]at hl;obtain⟨N,M,hN,hM,hl⟩:=hl;refine⟨go,λx H2 y pre hp=>?_⟩;obtain⟨E2,rx⟩:=yl x H2 y;have eO:(λb=>Ow own b\/b=D)=Ow (ownS n o.length own D):=funext λb=>propext Ow.ownS.symm;have hb:SR K (ownS n o.length own D) H2 (pre++σ) ob:=by
   have:=h1.block (Ec.trans E2) nD (E2 _ _ eD) pre;rw[hp,hO]at this;exact this
  rw[eO]at rx rs;refine⟨_,⟨ownS n o.length own D,ob,_,_,hb,rx,hl,λft σ3 o3 q3 jI h3=>?_⟩,λ_ _ z=>z⟩;obtain⟨b6,h8,rfl⟩:=Vb hp jI;have e3:ft=ownS n o.length own D:=funext λj=>by
   rcases jI.1 j with e|⟨e1,e2⟩
   .exact e
   .rw[e2];exact(ZY e1).symm
  subst e3;refine⟨b6,h8,rfl,_,tQT.mk h3 q3 λH3 b q4 E3=>?_,λ_ _ z=>z⟩;have q4:sw b (re o3 λy=>N (frz y)) M:=q4;cases b with
  |false=>exact⟨xs.length-(i+1),by lia,ts,E3 _ _ (E2 _ _ eD),Ec.trans (E2.trans E3),by rw[eO];exact rs.same (bR (E2.trans E3)),by exact aL il (XW _ _),by exact hi,rfl,hM q4⟩
  |true =>
   refine⟨_,tQ.mk (h3.same E3) q4 λH4 v y q5 E4 r4=>⟨by lia,E4 _ _ (E3 _ _ (E2 _ _ eD)),xs.length-(i+1),by lia,ts++[frz y],bQ,λb u e=>?_,?_,by rw[aA,List.length_singleton];exact Nat.succ_le_succ il,by exact hi,rfl,?_⟩,λ_ _ z=>z⟩
   .rw[bM λz=>by rw[z,nD]at e;cases e];exact E4 _ _ (E3 _ _ (E2 _ _ (Ec _ _ e)))
   .rw[Io (S:=λb=>Ow own b\/b=D) (.inr rfl),eO];exact(rs.same (bR (E2.trans (E3.trans E4)))).app (.cons r4 .nil)
   .have:=hN _ q5;simp only[XT,List.singleton_append];exact this
 .left;have:i=xs.length:=by lia
  refine⟨w1 this,?_⟩;rw[UQ (WJ hi)]at hl;have hl:R (.l1 (ts++[])):=hl;rw[List.append_nil]at hl;exact k Hc _ _ hl Ec (NR.l1 nD eD rs)
theorem Nu{K:Frag}{σ:L2.St}{H:Hp}{Q:VK}{ri:RI}{n:Nat}{g:qE}{rc:RT}{re:RE}(h:tQ K (Ym ri n g rc re) σ H Q):uW (tQI K ri) n (tMG (tQG K n g)) (tMT (tQT K rc)) (tM (tQ K re)) σ H Q:=by
 obtain⟨own,o,R,h,hr,k⟩:=h;exact⟨own,o,_,h,hr,λH1 J xs q E1 wk D nD=>Jz (h.same E1) wk q.1 q.2 nD λH' v x rx E n=>k H' v x rx (E1.trans E) (n.back E1)⟩
section
variable{X:Cx}{tg iter a9:Expr}{ay:List Expr}{ri:RI}{g:qE}{rc:RT}{re:RE}{scope:Scope}{pos:Pos}
def QTs(X:Cx)(ay:List Expr)(r:RT):Prop:=PTs X ay (tQT X.K r)
theorem cI:QTs X [] agU:=λaa s σ H Q I hP=>by obtain⟨own,o,R,h,hr,k⟩:=hP;exact Xl aa s σ H Q I (k H true hr (.refl _))
theorem Qf{c:Expr}{rc:RT}(h:QT X c rc):QTs X [c] rc:=YQ h
theorem dh(sc:Scope)(N N' xs:Θ)(hi:QI X tg iter ri)(hg:∀{C s₀ H₀ ex pn},QG (X.compG N' scope xs C s₀ H₀ ex pn) xs.length tg g)(ht:∀{C s₀ H₀ ex pn},QTs (X.compG N' scope xs C s₀ H₀ ex pn) ay rc)(he:∀{C s₀ H₀ ex pn},QE (X.compG N' scope xs C s₀ H₀ ex pn) a9 re)
 (cq:X.env.scope=sc:=by rfl)(cx:X.N=N:=by rfl)(hc:X.calm=true:=by rfl)(hk:scope.kind=.function:=by rfl)(h:CK sc scope N N' xs:=by decide +kernel)(hs:qV X iter:=by intro _;rfl):QE X (.ListComp a9 [⟨tg,iter,ay,0⟩] scope pos) (Ym ri xs.length g rc re) :=
 (Zr (gt:=tQG X.K xs.length g) (tc:=tQT X.K rc) (te:=tQ X.K re) sc N N' xs hi hg ht he cq cx hc hk h hs).imp λ_ _ _=>Nu
theorem U7{i0:Nat}{y0:Str}{py bE:Pos}(sc:Scope)(N N' xs:Θ)(hi:QI X tg iter ri)(hg:∀{C s₀ H₀ ex pn},QG (X.compG N' scope xs C s₀ H₀ ex pn) xs.length tg g)(ht:∀{C s₀ H₀ ex pn},QTs (X.compG N' scope xs C s₀ H₀ ex pn) ay rc)(he:∀{C s₀ H₀ ex pn},QE (X.compG N' scope xs C s₀ H₀ ex pn) a9 re)(gp:PG X (.Name y0 py) (o7 i0))
 (cq:X.env.scope=sc:=by rfl)(cx:X.N=N:=by rfl)(hc:X.calm=true:=by rfl)(hk:scope.kind=.function:=by rfl)(h:CK sc scope N N' xs:=by decide +kernel)(f8:swapsWith (.ListComp a9 [⟨tg,iter,ay,0⟩] scope pos) (some (.Name y0 py)) bE.line X.env=pure true:=by rfl)(hs:qV X iter:=by intro _;rfl) :
  QS X (.Assign [.Name y0 py] (.ListComp a9 [⟨tg,iter,ay,0⟩] scope pos) bE) (ad9 i0 (Ym ri xs.length g rc re)):=(Zo (gt:=tQG X.K xs.length g) (tc:=tQT X.K rc) (te:=tQ X.K re) sc N N' xs hi hg ht he gp cq cx hc hk h f8 hs).imp λD σ H ⟨own,o,E,h,hr,L⟩=>Nu ⟨own,o,_,h,hr,λH' v y q S n=>by
 obtain⟨ag,h',S'⟩:=h.putA S n i0;exact L.nx ag H' _ _ q S' h'⟩
theorem fZ{N' xs:Θ}{C s₀ H₀ ex pn}{n i:Nat}{x:Str}{p:Pos}(hN:(xs++N').Nodup:=by decide +kernel)(hi:(xs++N')[i]?=some x:=by rfl)(hn:i<n:=by decide)(hx:Loc (X.compG N' scope xs C s₀ H₀ ex pn).env.scope x:=by exact Or.inl rfl)(hf:(X.compG N' scope xs C s₀ H₀ ex pn).fn x=true\/(X.compG N' scope xs C s₀ H₀ ex pn).env.scope.names.lookup x=some .local:=by exact Or.inr rfl):QG (X.compG N' scope xs C s₀ H₀ ex pn) n (.Name x p) (hName i):=cA (i:=i) (hN:=hN) (hx:=hx) (hi:=hi) (hn:=hn) (hf:=hf)
end
section
variable{X:Cx}{a b e:Expr}{ra rb re:RE}{rt:RT}{pos:Pos}
theorem bJ.reps{K:Frag}{F:Hp}{xs:Β}{ts:List T}(h:bJ K F xs ts):∀n:Nat,bJ K F (List.replicate n xs).flatten (List.replicate n ts).flatten
 |0=>.nil
 |n+1=>by rw[List.replicate_succ,List.replicate_succ,List.flatten_cons,List.flatten_cons];exact h.app (bJ.reps h n)
theorem gJ:GO X (binaryOp .Mult) agg:=λaa s σ H x y v u Q I rx ry h=>by
 obtain⟨S,t,w,R,_,hx,hy,hg,k⟩:=h;cases w with
 |int j=>?_
 |_=>cases t<;>exact hg.elim
 cases hy;cases t<;>try exact hg.elim
 .cases hx;exact Xy aa s σ H _ _ v u Q I rx ry ⟨_,_,rfl,rfl,hg.1,k H _ _ hg.2 (.refl _) (NR.fz (.int _))⟩
 .cases hx;obtain⟨c,rfl,h1,h2,q⟩:=hg;exact XD aa s σ H _ _ v u Q I rx ry ⟨c,j,rfl,rfl,h1,h2,λz hz=>k H _ _ (q z hz) (.refl _) (NR.fz (.str _))⟩
 .obtain⟨p,xs,rfl,e,r⟩:=hx.lstI;obtain⟨⟨h1,h2,h3⟩,q⟩:=hg;exact aaS aa s σ H _ _ v u Q I rx ry ⟨p,j,xs,rfl,rfl,(cL e).2,h1,h2,by rw[r.len];exact h3,λa ha=>k _ _ _ (q _ rfl) (Same.upd ha) (oV (r.reps j.toNat) (Same.upd ha) ha bQ)⟩
mutual
def ofD:PyData->T
 |.none=>.non
 |.bool b=>.bl b
 |.int i=>.int i
 |.str s=>.str s
 |.list ds=>.lst (DG ds)
 |.tuple ds=>.tup (DG ds)
 |.dict _=>.any
def DG:List PyData->List T
 |[]=>[]
 |d::ds=>ofD d::DG ds
end
mutual
theorem Rep.shows{K:Frag}{F:Hp} : ∀{x:V}{t:T},Rep K F x t->∀d,t=ofD d->d.canLay0=true->iB K F x d
 |_,_,.any v,d,e,s=>by cases d<;>cases e;cases s
 |_,_,.non,d,e,_=>by cases d<;>cases e;exact .non
 |_,_,.bl b,d,e,_=>by cases d<;>cases e;exact .bl _
 |_,_,.int i,d,e,_=>by cases d<;>cases e;exact .int _
 |_,_,.str s,d,e,_=>by cases d<;>cases e;exact .str _
 |_,_,.val v,d,e,_=>by cases d<;>cases e
 |_,_,.tup q h,d,e,s=>by
  cases d<;>cases e;exact .tup q (bJ.shows h _ rfl s)
 |_,_,.lst q h,d,e,s=>by
  cases d<;>cases e;exact .lst q (bJ.shows h _ rfl s)
 |_,_,.scr q h,d,e,_=>by cases d<;>cases e
 |_,_,.dct q l h,d,e,_=>by cases d<;>cases e
 |_,_,.ins q d' l h,d,e,_=>by cases d<;>cases e
 |_,_,.exc q d' l h,d,e,_=>by cases d<;>cases e
theorem bJ.shows{K:Frag}{F:Hp} : ∀{xs:Β}{ts:List T},bJ K F xs ts->∀ds,ts=DG ds->PyData.canLayAll0 ds=true->dU K F xs ds
 |_,_,.nil,ds,e,_=>by cases ds<;>cases e;exact .nil
 |_,_,.cons a b,ds,e,s=>by
  cases ds<;>cases e;obtain⟨s1,s2⟩:=Bool.and_eq_true_iff.mp s;exact .cons (Rep.shows a _ rfl s1) (bJ.shows b _ rfl s2)
end
def xr:Bool->Bool->Bool
 |false,b=>b
 |true,b=>!b
def eqS:T->T->Option Bool
 |.int i,.int j=>some (decide (i=j))
 |.str i,.str j=>some (decide (i=j))
 |.bl i,.bl j=>some (decide (i=j))
 |.non,.non=>some true
 |.non,.int _=>some false
 |.int _,.non=>some false
 |.non,.str _=>some false
 |.str _,.non=>some false
 |.int _,.str _=>some false
 |.str _,.int _=>some false
 |.tup [.int a,.int b],.tup [.int c,.int d]=>some (decide (a=c)&&decide (b=d))
 |_,_=>none
def gEq(neg:Bool)(t u:T)(q:OT->Prop):Prop:=match eqS t u with
 |some b=>q (.fz (.bl (xr neg b)))
 |none=>∃d e,t=ofD d/\u=ofD e/\SeqAt.shaped d=true/\SeqAt.shaped e=true/\q (.fz (.bl (xr neg (PyData.eqv d e))))
theorem afb(a b c d:Int):PyData.eqv (.tuple [.int a,.int b]) (.tuple [.int c,.int d])=(decide (a=c)&&decide (b=d)):=by
 simp only[PyData.eqv,PyData.eqvAll,Bool.and_true]
 rfl
def sv:T->Option V
 |.non=>some .non
 |.bl b=>some (.bl b)
 |.int i=>some (.int i)
 |.str s=>some (.str s)
 |_=>none
theorem Rep.sca{K:Frag}{F:Hp}{x v:V}{t:T}(h:Rep K F x t)(e:sv t=some v):x=v:=by cases h<;>cases e<;>rfl
def EqC(t u:T)(b:Bool):Prop:=(∃v w,sv t=some v/\sv u=some w/\Td v w=true/\decide (v=w)=b)\/∃i j k l,t=.tup [.int i,.int j]/\u=.tup [.int k,.int l]/\(decide (i=k)&&decide (j=l))=b
theorem aaK{t u:T}{b:Bool}(e:eqS t u=some b):EqC t u b:=by
  cases t with
  |tup t=>
   iterate 2
    obtain _|⟨r,t⟩:=t
    .cases e
    cases r<;>try (cases e;done)
   cases t with|cons=>cases e|nil=>
    cases u<;>try (cases e;done)
    rename_i u;iterate 2
     obtain _|⟨r,u⟩:=u
     .cases e
     cases r<;>try (cases e;done)
    cases u<;>cases e;exact .inr ⟨_,_,_,_,rfl,rfl,rfl⟩
  |_=>first|(cases e;done)|(cases u<;>cases e<;>exact .inl ⟨_,_,rfl,rfl,rfl,by simp⟩)
theorem abO{K:Frag}{F H:Hp}{x y:V}{t u:T}{b:Bool}(S:Same F H)(hx:Rep K F x t)(hy:Rep K F y u)(e:eqS t u=some b):(Td x y=true/\decide (x=y)=b)\/∃d e,iB K H x d/\iB K H y e/\SeqAt.shaped d=true/\SeqAt.shaped e=true/\PyData.eqv d e=b:=by
 rcases aaK e with⟨_,_,p,q,r⟩|⟨_,_,_,_,rfl,rfl,r⟩
 .cases hx.sca p;cases hy.sca q;exact .inl r
 exact .inr ⟨.tuple [.int _,.int _],.tuple [.int _,.int _],(hx.shows _ rfl rfl).same S,(hy.shows _ rfl rfl).same S,rfl,rfl,(afb _ _ _ _).trans r⟩
theorem Wh(neg:Bool){op:CmpOp}(h1:OpR X (compareOp op) λx y H Q=>Td x y=true/\Q (.bl (xr neg (decide (x=y)))) H)(h2:OpR X (compareOp op) (ab3 X.K neg)):GO X (compareOp op) (gEq neg):=λaa s σ H x y v u Q I rx ry h=>by
 obtain⟨S,t,w,R,_,hx,hy,hg,k⟩:=h;have xe:∀b:Bool,(if neg then !b else b)=xr neg b:=λb=>by cases neg<;>rfl
 unfold gEq at hg;cases es:eqS t w with
 |some b =>
  rw[es]at hg;rcases abO cj hx hy es with⟨a,c⟩|⟨d,e,s1,s2,s3,s4,c⟩
  .exact h1 aa s σ H x y v u Q I rx ry ⟨a,by rw[c];exact k H _ _ hg (.refl _) (NR.fz (.bl _))⟩
  .exact h2 aa s σ H x y v u Q I rx ry ⟨d,e,s1,s2,s3,s4,by rw[xe,c];exact k H _ _ hg (.refl _) (NR.fz (.bl _))⟩
 |none =>
  rw[es]at hg;obtain⟨d,e,e1,e2,s1,s2,q⟩:=hg;exact h2 aa s σ H x y v u Q I rx ry ⟨d,e,(hx.shows d e1 (Bool.and_eq_true_iff.mp s1).1).same cj,(hy.shows e e2 (Bool.and_eq_true_iff.mp s2).1).same cj,s1,s2,by rw[xe];exact k H _ _ q (.refl _) (NR.fz (.bl _))⟩
theorem go_eq(hu:X.A.units+64<cLine):GO X (compareOp .Eq) (gEq false):=Wh false afI (ab9 hu)
theorem mO(hu:X.A.units+64<cLine):GO X (compareOp .NotEq) (gEq true):=Wh true af7 (Z2 hu)
def flat:OT->Prop
 |.fz (.int _)=>True
 |.fz (.bl _)=>True
 |.fz (.str _)=>True
 |.fz .non=>True
 |_=>False
def agR(i:Nat)(a:RE):RE:=λo q=>match slot o i with|.und=>False|x=>a (o.set i (.fz (frz x))) λy=>flat y/\q y
def Cw(i:Nat)(a:RT):RT:=λo q=>match slot o i with|.und=>False|x=>a (o.set i (.fz (frz x))) q
theorem Oj{i:Nat}{o:List OT}{P:OT->Prop}(h:match slot o i with|.und=>False|x=>P x):P (slot o i)/\slot o i≠.und:=by
 cases e:slot o i<;>rw[e]at h<;>first|exact h.elim|exact⟨h,λz=>by cases z⟩
theorem ZL(i:Nat)(h:QE X e re):QE X e (agR i re):=PE.imp h λσ H Q hP=>by
 obtain⟨own,o,R,h,hr,k⟩:=hP;obtain⟨hr,ne⟩:=Oj (P:=λx=>re (o.set i (.fz (frz x))) λy=>flat y/\R y) hr;obtain⟨u,e1,s⟩:=h.val rfl ne;obtain⟨ag,h',S⟩:=h.frz (iC rfl ne) e1;refine⟨ag,_,_,h',hr,λH' v x q E n=>k H' v x q.2 E ?_⟩;have fl:=q.1;have rp:=n.rep λb z=>(h'.sole z).ne;cases x with
 |fz t=>cases t<;>first|exact fl.elim|(cases rp;first|exact NR.fz (.int _)|exact NR.fz (.bl _)|exact NR.fz (.str _)|exact NR.fz .non)
 |_=>exact fl.elim
theorem Cj(i:Nat)(h:QT X e rt):QT X e (Cw i rt):=PT.imp h λσ H Q hP=>by
 obtain⟨own,o,R,h,hr,k⟩:=hP;obtain⟨hr,ne⟩:=Oj (P:=λx=>rt (o.set i (.fz (frz x))) R) hr;obtain⟨u,e1,s⟩:=h.val rfl ne;obtain⟨ag,h',S⟩:=h.frz (iC rfl ne) e1;exact⟨ag,_,_,h',hr,k⟩
def Rf:T->Option Key
 |.int i=>some (.inl i)
 |.str s=>some (.inr s)
 |_=>none
def j9{α:Type} : List Key->List α->Key->Option α
 |k::ks,t::ts,j=>if k=j then some t else j9 ks ts j
 |_,_,_=>none
theorem HN{K:Frag}{F:Hp}{x:V}{t:T}{k:Key}(h:Rep K F x t)(e:Rf t=some k):x=kV k:=by
 cases h<;>cases e<;>rfl
theorem xW{K:Frag}{F:Hp}{k:Key} : ∀{ks:List Key}{xs:Β}{ts:List T},bJ K F xs ts->(∀t,j9 ks ts k=some t->∃x,BP (ks.zip xs) k=some x/\Rep K F x t)/\(j9 ks ts k=none->BP (ks.zip xs) k=none)
 |[],_,_,_=>⟨λ_ z=>(nomatch z),λ_=>rfl⟩
 |_::_,_,_,.nil=>⟨λ_ z=>(nomatch z),λ_=>rfl⟩
 |j::ks,_,_,.cons a b=>by
  by_cases h:j=k
  .refine⟨λt z=>?_,λz=>?_⟩
   .unfold j9 at z;rw[ZY h]at z;cases z;exact⟨_,Lf h,a⟩
   .unfold j9 at z;rw[ZY h]at z;cases z
  .obtain⟨i1,i2⟩:=xW (k:=k) (ks:=ks) b;refine⟨λt z=>?_,λz=>?_⟩
   .unfold j9 at z;rw[ZZ h]at z;obtain⟨x,e,r⟩:=i1 t z;exact⟨x,(Aj h).trans e,r⟩
   .unfold j9 at z;rw[ZZ h]at z;exact(Aj h).trans (i2 z)
def aeo:zz
 |.dct ks ts,u,q=>∃k t,Rf u=some k/\j9 ks ts k=some t/\q (.fz t)
 |_,_,_=>False
theorem wW(hu:X.A.units+1<cLine)(ha:QE X a ra)(hb:QE X b rb)(hs:ZV b:=by exact λ_ _=>rfl):QE X (.Subscript a b pos) (rOp aeo ra rb):=(Xx hu ha hb hs).imp λσ H Q ⟨own,o,R,h,hr,k⟩=>tQ.mk h hr λH1 v x q E1 r1=>tQ.mk (h.same E1) q λH2 w y q E2 r2=>by
 have r1:=r1.same (bR E2)
 revert r1 q
 generalize frz x=t;intro q r1;cases t<;>try exact q.elim
 obtain⟨d,xs,rfl,e,l,r⟩:=r1.dctI;obtain⟨j,t,e1,e2,q⟩:=q;obtain⟨z,e3,r3⟩:=(xW r).1 t e2;cases HN r2 e1;exact⟨d,z,rfl,.inl ⟨_,_,cj.rd e,rfl,e3.symm⟩,k H2 _ _ q (E1.trans E2) (NR.fz r3)⟩
def abe(neg:Bool):zz
 |u,.dct ks ts,q=>∃k,Rf u=some k/\q (.fz (.bl (xr neg (j9 ks ts k).isSome)))
 |_,_,_=>False
theorem Vj{neg:Bool}{σ:L2.St}{H:Hp}{Q:VK}(h:tQ X.K (rOp (abe neg) ra rb) σ H Q):(tQ X.K ra) σ H λy H1=>(tQ X.K rb) σ H1 λx H2=>∃a o,x=.ref a/\yj H2 a y o/\Q (.bl (xr neg o.isSome)) H2:=by
 obtain⟨own,o,R,h,hr,k⟩:=h;refine tQ.mk h hr λH1 v x q E1 r1=>tQ.mk (h.same E1) q λH2 w y q E2 r2=>?_;have r1:=r1.same (bR E2)
 revert r2 q
 generalize frz y=t;intro q r2;cases t with
 |dct ks ts =>
  obtain⟨d,xs,rfl,e,l,r⟩:=r2.dctI;obtain⟨j,e1,q⟩:=q;cases HN r1 e1;refine⟨d,_,rfl,.inl ⟨_,_,cj.rd e,rfl,rfl⟩,?_⟩;have:(BP (ks.zip xs) j).isSome=(j9 ks ts j).isSome:=by
   cases z:j9 ks ts j with
   |none=>rw[(xW r).2 z];rfl
   |some t=>obtain⟨x,e,_⟩:=(xW r).1 t z;rw[e];rfl
  rw[this];exact k H2 _ _ q (E1.trans E2) (NR.fz (.bl _))
 |_=>cases frz x<;>exact q.elim
theorem Zn{r:RE}{tt:TE}(i:∀σ H Q,tQ X.K r σ H Q->tt σ H Q){σ:L2.St}{H:Hp}{Q:Bool->Hp->Prop}(h:tQT X.K (rB r) σ H Q):tB tt σ H Q:=by
 obtain⟨own,o,R,h,hr,k⟩:=h;refine i σ H _ (tQ.mk h hr λH1 v x q E1 r1=>?_)
 revert r1 q
 generalize frz x=t;intro q r1;cases r1<;>try exact q.elim
 exact⟨_,rfl,k _ _ q E1⟩
theorem T3(hu:X.A.units+1<cLine)(ha:QE X a ra)(hb:QE X b rb)(h1:behindInMarks .In b=false:=by rfl):QT X (.Compare a [.In] [b] pos) (rB (rOp (abe false) ra rb)):=(Wb (ZQ hu ha hb) h1).imp λ_ _ _=>Zn λ_ _ _=>Vj (neg:=false)
theorem xT(hu:X.A.units+1<cLine)(ha:QE X a ra)(hb:QE X b rb)(h1:behindInMarks .NotIn b=false:=by rfl):QT X (.Compare a [.NotIn] [b] pos) (rB (rOp (abe true) ra rb)):=(Wb (Rz hu ha hb) h1).imp λ_ _ _=>Zn λ_ _ _=>Vj (neg:=true)
def aeR:RE:=λ_ q=>q (.d1 [] [])
theorem zG:QE X (.Dict [] [] pos) aeR:=Tp.imp λσ H Q ⟨own,o,R,h,hr,k⟩ p hp=>k _ _ _ hr (Same.upd hp) ⟨[p],λa ha=>(YR.mp ha) ▸ hp,p,[],rfl,rfl,bQ,rfl,.nil⟩
def ahw(i:Nat)(a b:RE):RS:=λE o=>match slot o i with|.d1 ks ts=>a o λy=>b o λk=>∃j,Rf (frz k)=some j/\j9 ks ts j=none/\ks.length<sizeLine/\ks.length=ts.length/\E.nx (o.set i (.d1 (ks++[j]) (ts++[frz y])))|_=>False
end
def lkF{α:Type} : Θ->List α->Str->Option α
 |k::ks,t::ts,f=>if k=f then some t else lkF ks ts f
 |_,_,_=>none
def Bf:Θ->Str->Θ
 |[],f=>[f]
 |k::ks,f=>if k=f then k::ks else k::Bf ks f
def uM{α:Type} : Θ->List α->Str->α->List α
 |k::ks,t::ts,f,v=>if k=f then v::ts else t::uM ks ts f v
 |_,ts,_,v=>ts++[v]
theorem Ql{K:Frag}{F:Hp}{f:Str} : ∀{ks:Θ}{xs:Β}{ts:List T},bJ K F xs ts->(∀t,lkF ks ts f=some t->∃x,(ks.zip xs).lookup f=some x/\Rep K F x t)/\(lkF ks ts f=none->(ks.zip xs).lookup f=none)
 |[],_,_,_=>⟨λ_ z=>(nomatch z),λ_=>rfl⟩
 |_::_,_,_,.nil=>⟨λ_ z=>(nomatch z),λ_=>rfl⟩
 |j::ks,_,_,.cons a b=>by
  obtain⟨i1,i2⟩:=Ql (f:=f) (ks:=ks) b;by_cases h:j=f
  .refine⟨λt z=>?_,λz=>?_⟩
   .unfold lkF at z;rw[ZY h]at z;cases z;exact⟨_,by rw[List.zip_cons_cons,List.lookup_cons,h,beq_self_eq_true],a⟩
   .unfold lkF at z;rw[ZY h]at z;cases z
  .have e:∀x(r:List (Str×V)),((j,x)::r).lookup f=r.lookup f:=λx r=>by rw[List.lookup_cons,beq_false_of_ne (Ne.symm h)]
   refine⟨λt z=>?_,λz=>?_⟩
   .unfold lkF at z;rw[ZZ h]at z;obtain⟨x,e1,r⟩:=i1 t z;exact⟨x,(e _ _).trans e1,r⟩
   .unfold lkF at z;rw[ZZ h]at z;exact(e _ _).trans (i2 z)
theorem Kq{f:Str}{v:V} : ∀{ks:Θ}{xs:Β},ks.length=xs.length->qK f v (ks.zip xs)=(Bf ks f).zip (uM ks xs f v)/\(Bf ks f).length=(uM ks xs f v).length
 |[],[],_=>⟨rfl,rfl⟩
 |k::ks,x::xs,l=>by
  obtain⟨i1,i2⟩:=Kq (f:=f) (v:=v) (ks:=ks) (xs:=xs) (Nat.succ.inj l);show(if k=f then(k,v)::ks.zip xs else(k,x)::qK f v (ks.zip xs))=_/\_;unfold Bf uM;by_cases h:k=f
  .rw[ZY h,ZY h,ZY h];exact⟨rfl,l⟩
  .rw[ZZ h,ZZ h,ZZ h,i1];exact⟨rfl,ZH (· + 1) i2⟩
 |[],_::_,l=>by cases l
 |_::_,[],l=>by cases l
theorem bJ.put{K:Frag}{F:Hp}{f:Str}{v:V}{t:T}(r:Rep K F v t):∀{ks:Θ}{xs:Β}{ts:List T},bJ K F xs ts->bJ K F (uM ks xs f v) (uM ks ts f t)
 |[],_,_,h=>h.app (.cons r .nil)
 |_::_,_,_,.nil=>.cons r .nil
 |k::ks,_,_,.cons a b=>by
  unfold uM;by_cases h:k=f
  .rw[ZY h,ZY h];exact .cons r b
  .rw[ZZ h,ZZ h];exact .cons a (bJ.put r b)
abbrev SI:=Addr->Θ->List T->List T->(Θ->List T->Prop)->Prop
def Slf(a dx b:Addr):Prop:=b=a\/b=dx
def spI(K:Frag)(S:SI):Sp:=λvs H Q _=>∃a dx C ks xs ts us as R,vs=.ref a::us/\H a=some (.ins C dx (ks.zip xs))/\H dx=some (.own a)/\ks.length=xs.length/\bJ K (hd (Slf a dx) H) xs ts/\bJ K (hd (Slf a dx) H) us as/\S C ks ts as R /\
 ∀H' ck dc bv,R ck bv->Same (hd (Slf a dx) H) (hd (Slf a dx) H')->H' a=some (.ins C dx (ck.zip dc))->H' dx=some (.own a)->ck.length=dc.length->bJ K (hd (Slf a dx) H') dc bv->Q .non H'
section
variable{P:Program}{w:World}{K:Frag}{mg:Str->Ψ}{base:Heap}
def startI(n:Nat)(a dx C:Addr)(ks:Θ)(ts as:List T):List OT:=.ob a dx C ks ts::start' (n-1) as
def afG(a dx:Addr):zk
 |0=>[a,dx]
 |_+1=>[]
theorem Px(a dx:Addr):Ow (afG a dx)=Slf a dx:=funext λb=>propext ⟨(λh=>by
  obtain⟨i,z⟩:=h;cases i with
  |zero =>
   rcases YU.mp z with z|z
   .exact .inl z
   .exact .inr (YR.mp z)
  |succ i=>cases z),λz=>⟨0,by show b∈[a,dx];rcases z with rfl|rfl<;>simp⟩⟩
theorem SR.startI{H:Hp}{a dx C:Addr}{ks:Θ}{xs:Β}{ts as:List T}{us:Β}(ha:H a=some (.ins C dx (ks.zip xs)))(bg:H dx=some (.own a))(l:ks.length=xs.length)(r:bJ K (hd (Slf a dx) H) xs ts)(r2:bJ K (hd (Slf a dx) H) us as)(N:Θ)(hN:us.length+1<=N.length) :
  SR K (afG a dx) H (L2.start N (.ref a::us)) (L2.startI N.length a dx C ks ts as):=by
 have eO:=Px a dx;refine⟨?_,λi x e=>?_,λi hi b hb=>?_,λi j b e1 e2=>?_⟩
 .unfold L2.startI start' L2.start;have:=r2.len;simp only[List.length_cons,aA,ak,aN];lia
 .rw[eO];unfold L2.startI at e;cases i with
  |zero =>
   cases e;exact⟨xs,rfl,rfl,ha,bg,l,r⟩
  |succ i =>
   rw[List.getElem?_cons_succ]at e;show Slo K _ _ _ [] x;unfold start' at e;unfold L2.start;rw[List.map_cons,List.cons_append,List.getElem?_cons_succ];by_cases hi:i<as.length
   .rw[aD (by simpa using hi),aq,aj hi]at e;cases e;obtain⟨v,e1,r1⟩:=r2.at_ (aj hi);rw[aD (by rw[ak,r2.len];exact hi),aq,e1];exact⟨rfl,v,rfl,r1⟩
   .rw[aC (by simpa using hi),ak,XX]at e;by_cases hj:i-as.length<N.length-1-as.length
    .rw[ZY hj]at e;cases e;rfl
    .rw[ZZ hj]at e;cases e
 .unfold L2.startI at hi;cases i with
  |zero=>cases hi
  |succ i=>cases hb
 .cases i with
  |zero =>
   cases j with
   |zero=>rfl
   |succ j=>cases e2
  |succ i=>cases e1
theorem Fun.okI{x af:Str}{st:Stmt}{f:Addr}{fd:FuncData}{N ps:Θ}{k:Nat}{S:SI}(F:Fun K x af st f fd)(sc:bH N ps (bC st))(len:∀C ks ts as R,S C ks ts as R->as.length+1=ps.length)(hn:ps.length<=N.length)
 (a7:∀(ah:Value)(A:Around)(outer:List Env)(s:Shared)(H:Hp)(E:XK),dg k (A.deeper (envOfC af (bC st) s.heap.objs.size f ah))->N.Nodup ->
   ∃r,QSs (yq CX0 P w K mg base N af (bC st) f ah A outer s H E).nox (eG st) r/\∀a dx C ks ts as R,S C ks ts as R->r { nx:=λo=>∃ck bv,slot o 0=.ob a dx C ck bv/\R ck bv,rt:=λ_=>False } (startI N.length a dx C ks ts as)):dO P w K mg base CX0 (k+1) f fd ps (spI K S):=by
 refine F.ok sc (λvs H Q E h=>?_) λah A outer s H vs Q E hr h=>?_
 .obtain⟨a,dx,C,ks,xs,ts,us,as,R,rfl,_,_,_,_,r2,hS,_⟩:=h;rw[List.length_cons,r2.len];exact len _ _ _ _ _ hS
 .obtain⟨a,dx,C,ks,xs,ts,us,as,R,rfl,ha,bg,l,r,r2,hS,q⟩:=h;obtain⟨rd,h1,h2⟩:=a7 ah A outer s H E hr sc.nd;have s0:=SR.startI ha bg l r r2 N (by rw[r2.len,len _ _ _ _ _ hS];exact hn);have eO:=Px a dx;refine⟨_,h1,_,_,_,s0,h2 a dx C ks ts as R hS,⟨λown H' σ o rx E h=>?_,λ_ _ _ _ _ z=>z.elim,λ_ _ _ _ z=>z.elim,λ_ _ _ _ z=>z.elim,λ_ _ _ _ _ _ z=>z.elim⟩⟩;obtain⟨ck,bv,es,rx⟩:=rx;rw[eO]at E;obtain⟨u,_,dc,e1,e2,e3,e4,e5,e6⟩:=h.val es (by intro z;cases z);have sub:Same (hd (Ow own) H') (hd (Slf a dx) H'):=jz (λb z=>.inl ⟨0,by rw[e2];rcases z with rfl|rfl<;>simp⟩) λ_ _ z=>z;exact q H' ck dc bv rx (E.trans sub) e3 e4 e5 (e6.same sub)
end
section
variable{X:Cx}{e:Expr}{es:List Expr}{re:RE}{r:RA}{f:Str}{pos ac p:Pos}{Fm:Addr->Prop}
def Zc(Fm:Addr->Prop)(i:Nat)(f:Str):RE:=λo q=>match slot o i with|.ob _ _ C ks ts=>Fm C/\∃t,lkF ks ts f=some t/\q (.fz t)|_=>False
theorem XR(i:Nat){x:Str}(c:∀C,Fm C->Cls X.K C/\bN X.K C f)(hN:X.N[i]?=some x:=by rfl)(hv:o9 X.env.scope x=true:=by rfl)(bg:qk x:=by decide)(a6:qf x:=by decide)(hb:attributeBase (.Name x p) f X.env (eval (.Name x p) X.env)=eval (.Name x p) X.env:=by rfl):QE X (.Attribute (.Name x p) f pos) (Zc Fm i f):=(R9 (pv i hN hv bg a6) hb).imp λσ H Q hP=>by
 obtain⟨own,o,R,h,hr,k⟩:=hP;unfold Zc at hr;cases es:slot o i with
 |ob a dx C ks ts =>
  rw[es]at hr;obtain⟨u,e1,xs,e2,e3,e4,e5,l,r⟩:=h.val es (by intro z;cases z);cases e2;obtain⟨hf,t,e6,q⟩:=hr;obtain⟨v,e7,r7⟩:=(Ql r).1 t e6;exact⟨_,e1,a,C,dx,_,v,rfl,e4,(c C hf).1,(c C hf).2,e7,k H _ _ q (.refl _) (NR.fz r7)⟩
 |_=>rw[es]at hr;exact hr.elim
def ZC(Fm:Addr->Prop)(i:Nat)(f:Str)(a:RE):RS:=λE o=>match slot o i with|.ob b dx C ks ts=>a o λy=>(Fm C/\ks.length<1000)/\E.nx (o.set i (.ob b dx C (Bf ks f) (uM ks ts f (frz y))))|_=>False
theorem nR(i:Nat){x:Str}{aI:Pos}(c:∀C,Fm C->Cls X.K C/\bN X.K C f)(he:QE X e re)(hN:X.N[i]?=some x:=by rfl)(hv:o9 X.env.scope x=true:=by rfl)(bg:qk x:=by decide)(a6:qf x:=by decide)(hs:swapsWith e (some (.Attribute (.Name x p) f aI)) pos.line X.env=pure false:=by rfl):QS X (.Assign [.Attribute (.Name x p) f aI] e pos) (ZC Fm i f re):=(abQ (pv i hN hv bg a6) he hs).imp λD σ H hP=>by
 obtain⟨own,o,E,h,hr,L⟩:=hP;unfold ZC at hr;cases es:slot o i with
 |ob a dx C ks ts =>
  rw[es]at hr;obtain⟨u,e1,xs,e2,e3,e4,e5,l,r⟩:=h.val es (by intro z;cases z);cases e2;refine tQ.mk h hr λH1 v y q E1 r1=>⟨_,e1,a,C,dx,_,rfl,E1 _ _ e4,(c C q.1.1).1,(c C q.1.1).2,by rw[WU,<- l,WS];exact q.1.2,?_⟩;obtain⟨pz,pl⟩:=Kq (f:=f) (v:=v) l;rw[pz];have ja:dx≠a:=BK e5 e4 (by intro z;cases z);obtain⟨h',S⟩:=(h.same E1).chg (iC es (by intro z;cases z)) (y:=.ob a dx C (Bf ks f) (uM ks ts f (frz y))) (H':=upd H1 a (.ins C dx ((Bf ks f).zip (uM ks xs f v)))) (λb u hb e=>(bM λz=>hb (by rw[e3,z];simp)).trans e) (by
   rw[e1,Io ⟨i,by rw[e3];simp⟩];exact⟨_,rfl,e3,bQ,(bM ja).trans (E1 _ _ e5),pl,bJ.put r1 (r.same (bR E1))⟩)
  exact L.nx own _ σ _ q.2 ((bR E1).trans S) h'
 |_=>rw[es]at hr;exact hr.elim
def agk(Fm:Addr->Prop)(f:Str)(a:RE):RE:=λo q=>a o λx=>match frz x with|.ins C ks ts=>Fm C/\∃t,lkF ks ts f=some t/\q (.fz t)|_=>False
theorem gG(c:∀C,Fm C->Cls X.K C/\bN X.K C f)(he:QE X e re)(hb:qB X e f:=by rfl):QE X (.Attribute e f pos) (agk Fm f re):=(R9 he hb).imp λσ H Q ⟨own,o,R,h,hr,k⟩=>tQ.mk h hr λH1 v x q E1 r1=>by
 revert r1 q
 generalize frz x=t;intro q r1;cases t<;>try exact q.elim
 obtain⟨a,dx,xs,rfl,e,d,l,r⟩:=r1.insI;obtain⟨hf,t,e6,q⟩:=q;obtain⟨v,e7,r7⟩:=(Ql r).1 t e6;exact⟨a,_,dx,_,v,rfl,(cL e).2,(c _ hf).1,(c _ hf).2,e7,k H1 _ _ q E1 (NR.fz r7)⟩
abbrev OkM(X:Cx)(k:Nat)(fa:Addr)(ps:Θ)(S:ST):Prop:=zb X CX0 k fa ps (spT X.K S)
theorem OkI.hid{P:Program}{w:World}{K:Frag}{mg:Str->Ψ}{base:Heap}{k:Nat}{fa:Addr}{ps:Θ}{sp:Sp}(G:OkI P w K mg base CX0 k fa ps sp):OkI P w K mg base CX0 k fa ps (spH sp):=by obtain⟨fd,F,b⟩:=G;exact⟨fd,F.hid,b⟩
theorem Kd{S:ST}{H1:Hp}{σ:L2.St}{own:zk}{o:List OT}{R:OT->Prop}{Q:VK}{vs:Β}{ts:List T}{E:XK}(h1:SR X.K own H1 σ o)(r1:bJ X.K (hd (Ow own) H1) vs ts)(q:S ts R)(k:∀H' v x,R x->Same H1 H'->NR X.K (Ow own) H1 H' v x->Q v H'):spH (spT X.K S) vs H1 Q E:=by
 refine⟨Ow own,h1.hid,ts,R,r1,q,λG v x rx E n ai=>?_⟩;have EH:Same H1 (mrg (Ow own) H1 G):=λb u e=>by
  by_cases z:Ow own b
  .rw[j6 z];exact e
  .rw[cB z];exact E b u ((b_ z).trans e)
 have EG:Same G (mrg (Ow own) H1 G):=λb u e=>by rw[cB λz=>by rw[ai b z]at e;cases e];exact e
 refine k _ v x rx EH ?_;obtain⟨B,nb,s⟩:=n;have out:∀a∈B,¬Ow own a:=λa ha z=>(s.sole ha).ne (ai a z);refine⟨B,λa ha=>by have:=nb a ha;rwa[b_ (out a ha)]at this,s.same (jz (λb z=>?_) EG) EG⟩;rcases z with z|z
 .exact .inr (ai b z)
 .exact .inl (.inr z)
def Zu(C:Addr)(KS:Θ)(S:ST)(a:RE)(r:RA):RE:=λo q=>a o λx=>match frz x with|.ins C' ks ts=>(C'=C/\ks=KS)/\r o λas=>S (.ins C' ks ts::as) q|_=>False
theorem m7{f:Str} : ∀{KS:Θ}{xs:Β},f∉KS->(KS.zip xs).lookup f=none
 |[],_,_=>rfl
 |_::_,[],_=>rfl
 |k::KS,x::xs,h=>by
  rw[List.zip_cons_cons,List.lookup_cons,beq_false_of_ne λ(z:f=k)=>h (by rw[z];exact aO ..)];exact m7 λz=>h (aH _ z)
theorem nu{o:Expr}{ro:RE}{k:Nat}{fa C:Addr}{ps KS:Θ}{S:ST}{pl:Sem Bool}(he:QE X o ro)(c:Cls X.K C)(hm:Meth X.K C f fa)(G:OkM X k fa ps S)(ha:QA X (e::es) r)(hr:dg k X.A:=by exact dg.mono (by assumption) (by decide))(hk:f∉KS:=by decide +kernel)
 (az:qo X e es:=by rfl)(aw:qh X pos es:=by rfl)
 (ht:eval (.Call (.Attribute o f ac) (e::es) [] pos) X.env=(do
   let ov <- eval o X.env
   standAt ac.atName
   let(f,first) <- holding [ov] (getMethod ov f pl)
   callWith pos f first (backTo pos (starEach (e::es) X.env)) (backToKw pos (keywordEach [] X.env))):=by rfl) :
  QE X (.Call (.Attribute o f ac) (e::es) [] pos) (Zu C KS S ro r):=(B_ (pl:=pl) he c hm (OkI.hid G) hr ha az aw ht).imp λσ H Q ⟨own,o,R,h,hr,k⟩=>tQ.mk h hr λH1 v x q E1 r1=>by
 revert r1 q
 generalize frz x=t;intro q r1;cases t<;>try exact q.elim
 obtain⟨a,dx,xs,rfl,e,d,l,r⟩:=r1.insI;obtain⟨⟨rfl,rfl⟩,q⟩:=q;refine⟨a,dx,_,rfl,(cL e).2,m7 hk,tQA.mk (h.same E1) q λH2 vs as q _ E2 r2=>?_⟩;exact Kd ((h.same E1).same E2) (.cons (r1.same (bR E2)) r2) q λH' v x rx E n=>k H' v x rx (E1.trans (E2.trans E)) (n.back (E1.trans E2))
theorem k_{o:Expr}{ro:RE}{k:Nat}{fa C:Addr}{ps KS:Θ}{S:ST}{pl:Sem Bool}(he:QE X o ro)(c:Cls X.K C)(hm:Meth X.K C f fa)(G:OkM X k fa ps S)(hr:dg k X.A:=by exact dg.mono (by assumption) (by decide))(hk:f∉KS:=by decide +kernel)
 (ht:eval (.Call (.Attribute o f ac) [] [] pos) X.env=(do
   let ov <- eval o X.env
   standAt ac.atName
   let(f,first) <- holding [ov] (getMethod ov f pl)
   callWith pos f first (backTo pos (starEach [] X.env)) (backToKw pos (keywordEach [] X.env))):=by rfl) :
  QE X (.Call (.Attribute o f ac) [] [] pos) (Zu C KS S ro Z1):=(FZ (pl:=pl) he c hm (OkI.hid G) hr ht).imp λσ H Q ⟨own,o,R,h,hr,k⟩=>tQ.mk h hr λH1 v x q E1 r1=>by
 revert r1 q
 generalize frz x=t;intro q r1;cases t<;>try exact q.elim
 obtain⟨a,dx,xs,rfl,e,d,l,r⟩:=r1.insI;obtain⟨⟨rfl,rfl⟩,q⟩:=q;refine⟨a,dx,_,rfl,(cL e).2,m7 hk,?_⟩;exact Kd (E:=E0) (h.same E1) (.cons r1 .nil) q λH' v x rx E n=>k H' v x rx (E1.trans E) (n.back E1)
def ad2(C:Addr)(S:SI)(r:RA):RE:=λo q=>r o λas=>S C [] [] as λks ts=>q (.fz (.ins C ks ts))
theorem zE{x:Str}{k:Nat}{fa C:Addr}{ps:Θ}{S:SI}(M:Mk X.K C fa)(G:zb X CX0 k fa ps (spI X.K S))(hm:X.mg x=some (.ref C))(ha:QA X (e::es) r)(hr:dg (k+1) X.A:=by exact dg.mono (by assumption) (by decide))(hg:Gl X x:=by rfl)(a8:qk x:=by decide)
 (he:qo X e es:=by rfl)(aw:qh X pos es:=by rfl):QE X (.Call (.Name x p) (e::es) [] pos) (ad2 C S r):=(K9 M (OkI.hid G) hr hg hm ha a8 he aw).imp λσ H Q ⟨own,o,R,h,hr,k⟩=>tQA.mk h hr λH1 vs as q _ E1 r1 a dx na nd ne=>by
 have h1:=h.same E1;have E2:Same H1 (upd (upd H1 dx (.own a)) a (.ins C dx [])):=(Same.upd nd).trans (Same.upd ((bM (Ne.symm ne)).trans na));have h2:=h1.same E2;have oa:¬Ow own a:=λz=>(h1.sole z).ne na;have od:¬Ow own dx:=λz=>(h1.sole z).ne nd;refine⟨Ow own,h2.hid,a,dx,C,[],[],[],vs,as,_,rfl,(b_ oa).trans bQ,(b_ od).trans ((bM ne).trans bQ),rfl,.nil,r1.same (λb u e=>?_),q,λG ck dc bv rx E ea ed l r ai=>⟨rfl,?_⟩⟩
 .obtain⟨n,e⟩:=cL e;have n2:¬Slf a dx b:=λz=>by rcases z with rfl|rfl<;>rw[e]at *<;>contradiction
  rw[b_ n2,b_ n];exact E2 _ _ e
 .have EG:Same G (mrg (Ow own) (upd (upd H1 dx (.own a)) a (.ins C dx [])) G):=λb u e=>by rw[cB λz=>by rw[ai b z]at e;cases e];exact e
  refine k _ _ _ rx (E1.trans λb u e=>?_) (NR.fz (.ins (dx:=dx) (ks:=ck) (xs:=dc) ?_ ?_ l (r.same λb u e=>?_)))
  .by_cases z:Ow own b
   .rw[j6 z];exact E2 _ _ e
   .have n2:¬Slf a dx b:=λz=>by rcases z with rfl|rfl<;>rw[e]at *<;>contradiction
    exact EG _ _ (cL (E b u ((b_ n2).trans ((b_ z).trans (E2 _ _ e))))).2
  .rw[b_ oa];exact EG _ _ ea
  .rw[b_ od];exact EG _ _ ed
  .have e':=(cL e).2;rw[b_ λz=>by rw[ai b z]at e';cases e'];exact EG _ _ e'
def Zm(i:Nat)(S:SI)(r:RA):RS:=λE o=>match slot o i with|.ob a dx C ks ts=>r o λas=>S C ks ts as λck bv=>E.nx (o.set i (.ob a dx C ck bv))|_=>False
theorem zy(i:Nat){x y m:Str}{p2 ae:Pos}{k:Nat}{fa B:Addr}{ps:Θ}{S:SI}{pl:Sem Bool}(c:yI X.K B m fa)(G:zb X CX0 k fa ps (spI X.K S))(hm:X.mg x=some (.ref B))(ha:QA X es r)(hr:dg k X.A:=by exact dg.mono (by assumption) (by decide))(hg:Gl X x:=by rfl)
 (hN:X.N[i]?=some y:=by rfl)(hv:o9 X.env.scope y=true:=by rfl)(bg:qk y:=by decide)(a6:qf y:=by decide)(a8:qk x:=by decide)
 (az:starEach (.Name y p2::es) X.env=(false,eval (.Name y p2) X.env)::starEach es X.env:=by rfl)(aw:qh X ae es:=by rfl)
 (ht:eval (.Call (.Attribute (.Name x p) m ac) (.Name y p2::es) [] ae) X.env=(do
   let ov <- eval (.Name x p) X.env
   standAt ac.atName
   let(f,first) <- holding [ov] (getMethod ov m pl)
   callWith ae f first (backTo ae (starEach (.Name y p2::es) X.env)) (backToKw ae (keywordEach [] X.env))):=by rfl)
 (hs:swapsWith (.Call (.Attribute (.Name x p) m ac) (.Name y p2::es) [] ae) none pos.line X.env=pure false:=by rfl) :
  QS X (.Expr (.Call (.Attribute (.Name x p) m ac) (.Name y p2::es) [] ae) pos) (Zm i S r):=(jk (S5 (pl:=pl) c (OkI.hid G) hr hg hm (cW (pv i hN hv bg a6) ha az) a8 az aw ht) hs).imp λD σ H hP=>by
 obtain⟨own,o,E,h,hr,L⟩:=hP;unfold Zm at hr;cases es:slot o i with
 |ob a dx C ks ts =>
  rw[es]at hr;obtain⟨u,e1,xs,e2,e3,e4,e5,l,r⟩:=h.val es (by intro z;cases z);cases e2;refine⟨_,e1,tQA.mk h hr λH1 vs as q _ E1 r1=>?_⟩;have h1:=h.same E1;have sub:∀b,Slf a dx b->b∈own i:=λb z=>by rw[e3];rcases z with rfl|rfl<;>simp
  have bus:∀b,b∈own i->Slf a dx b:=λb z=>by
   rw[e3]at z;rcases YU.mp z with z|z
   .exact .inl z
   .exact .inr (YR.mp z)
  have hid:Hid H1 (λb=>Ow own b/\¬Slf a dx b):=⟨λb z=>h1.sole z.1,λb C d f ⟨⟨j,z⟩,n⟩ e=>⟨⟨j,(h1.mate z).1 C d f e⟩,λy=>n (bus b ((h1.dis j i d ((h1.mate z).1 C d f e) (sub d y)) ▸ z))⟩,λb x ⟨⟨j,z⟩,n⟩ e=>⟨⟨j,(h1.mate z).2 x e⟩,λy=>n (bus b ((h1.dis j i x ((h1.mate z).2 x e) (sub x y)) ▸ z))⟩⟩;have eqF:∀H':Hp,hd (Slf a dx) (hd (λb=>Ow own b/\¬Slf a dx b) H')=hd (Ow own) H':=λH'=>funext λb=>by
   by_cases z:Slf a dx b
   .rw[nW z,nW ⟨i,sub b z⟩]
   .rw[b_ z];by_cases y:Ow own b
    .rw[nW (⟨y,z⟩ : Ow own b/\¬Slf a dx b),nW y]
    .rw[b_ (λw=>y w.1),b_ y]
  have na:¬(Ow own a/\¬Slf a dx a):=λz=>z.2 (.inl rfl);have nd:¬(Ow own dx/\¬Slf a dx dx):=λz=>z.2 (.inr rfl);refine⟨_,hid,a,dx,C,ks,xs,ts,vs,as,_,rfl,(b_ na).trans (E1 _ _ e4),(b_ nd).trans (E1 _ _ e5),l,by rw[eqF];exact r.same (bR E1),by rw[eqF];exact r1,q,λG ck dc bv rx EE ea ed l' r' ai=>?_⟩;rw[eqF]at EE;have cm:∀{b:Addr}{u:HO},G b=some u->mrg (λb=>Ow own b/\¬Slf a dx b) H1 G b=some u:=λ{b u}e=>(cB λz=>by rw[ai b z]at e;cases e).trans e;obtain⟨h',S'⟩:=h1.chg (iC es (by intro z;cases z)) (y:=.ob a dx C ck bv) (H':=mrg (λb=>Ow own b/\¬Slf a dx b) H1 G) (λb u hb e=>by
   by_cases z:Ow own b
   .rw[j6 ⟨z,λy=>hb (sub b y)⟩];exact e
   .exact cm (cL (EE b u ((b_ z).trans e))).2) (by
   rw[e1];refine⟨dc,rfl,e3,cm ea,cm ed,l',r'.same λb u e=>?_⟩;obtain⟨n1,e⟩:=cL e;rw[b_ λz=>by rw[ai b ⟨z,n1⟩]at e;cases e];exact cm e)
  exact L.nx own _ σ _ rx ((bR E1).trans S') h'
 |_=>rw[es]at hr;exact hr.elim
end
section
variable{X:Cx}{a b c e:Expr}{ra rb rc re:RE}{pos p:Pos}
theorem wU{x:Str}{A:Addr}{i j:Int}{pos:Pos}(hm:X.mg x=some (.ref A))(kt:∀H,SqT X.K H A [.int i,.int j])(hg:Gl X x:=by rfl)(hd:qk x:=by decide):QE X (.Name x pos) (rC (.tup [.int i,.int j])):=qC (K7 hg hm hd) λF=>.tup (kt F) (.cons (.int _) (.cons (.int _) .nil))
theorem QE.any{Fm:Addr->Prop}{r:Addr->RE}(h:∀C,Fm C->QE X e (r C)):QE X e (λo q=>∃C,Fm C/\r C o q):=λaa s σ H Q I ⟨own,o,R,hs,⟨C,hC,hr⟩,k⟩=>h C hC aa s σ H Q I ⟨own,o,R,hs,hr,k⟩
theorem zJ{tg iter a9:Expr}{ay:List Expr}{ri:RI}{g:qE}{rc:RT}{scope:Scope}{i0:Nat}{y0:Str}{py bE:Pos}(sc:Scope)(N N' xs:Θ)(hi:QI X tg iter ri)(hg:∀{C s₀ H₀ ex pn},QG (X.compG N' scope xs C s₀ H₀ ex pn) xs.length tg g)(ht:∀{C s₀ H₀ ex pn},QTs (X.compG N' scope xs C s₀ H₀ ex pn) ay rc)(he:∀{C s₀ H₀ ex pn},QE (X.compG N' scope xs C s₀ H₀ ex pn) a9 re)(gp:PG X (.Name y0 py) (o7 i0))
 (cq:X.env.scope=sc:=by rfl)(cx:X.N=N:=by rfl)(hc:X.calm=true:=by rfl)(hk:scope.kind=.function:=by rfl)(h:CK sc scope N N' xs:=by decide +kernel)(f8:swapsWith (.ListComp a9 [⟨tg,iter,ay,0⟩] scope pos) (some (.Name y0 py)) bE.line X.env=pure true:=by rfl)(hs:qV X iter:=by intro _;rfl) :
  QS X (.Assign [.Name y0 py] (.ListComp a9 [⟨tg,iter,ay,0⟩] scope pos) bE) (abv i0 (Ym ri xs.length g rc re)):=(Zo (gt:=tQG X.K xs.length g) (tc:=tQT X.K rc) (te:=tQ X.K re) sc N N' xs hi hg ht he gp cq cx hc hk h f8 hs).imp λD σ H ⟨own,o,E,h,hr,L⟩=>Nu ⟨own,o,_,h,hr,λH' v y q S n=>by
 obtain⟨ag,h',S'⟩:=h.putA S (n.frz λb z=>(h.sole z).ne) i0;exact L.nx ag H' _ _ q S' h'⟩
def ahv(i j:Nat)(r:RA):RS:=λE o=>r o λts=>match ts with|[t,u]=>E.nx ((o.set i (.fz t)).set j (.fz u))|_=>False
theorem aae(i j:Nat){x y:Str}{r:RA}{px py pt:Pos}{kt k2 pt2}(hc:X.calm=true)(hN:X.N.Nodup)(kQ:i≠j)(ha:QA X [a,b] r)(hi:X.N[i]?=some x:=by rfl)(hj:X.N[j]?=some y:=by rfl)
 (hx:X.env.scope.names.lookup x=some .local:=by rfl)(hy:X.env.scope.names.lookup y=some .local:=by rfl)
 (hw:swappedStores [.Tuple [.Name x px,.Name y py] kt pt] (.Tuple [a,b] k2 pt2) X.env=pure (some [x,y]):=by rfl)
 (hs:swapsWithSole [.Tuple [.Name x px,.Name y py] kt pt] (.Tuple [a,b] k2 pt2) pos.line X.env=pure false:=by rfl) :
  QS X (.Assign [.Tuple [.Name x px,.Name y py] kt pt] (.Tuple [a,b] k2 pt2) pos) (ahv i j r):=(aa4 hc hN hi hj kQ hx hy ha hw hs).imp λD σ H ⟨own,o,E,h,hr,L⟩=>⟨own,o,_,h,hr,λH1 vs ts q _ E1 r1=>by
 match ts,q with
 |[t,u],q =>
  obtain⟨v,w,rfl,rv,rw_⟩:=r1.two;refine⟨v,w,rfl,?_⟩;obtain⟨ag,h',go⟩:=(h.same E1).setF rv (Nat.lt_succ_self i);obtain⟨bb,h2,S2⟩:=h'.putA (.refl _) (NR.fz (rw_.same go.same)) j;exact L.nx bb H1 _ _ q ((bR E1).trans (go.same.trans S2)) h2⟩
theorem wM{α:Type} : ∀{l:List α},l.Nodup->∀{i j:Nat}{x:α},l[i]?=some x->l[j]?=some x->i=j
 |[],_,_,_,_,e,_=>by cases e
 |y::l,nd,i,j,x,e1,e2=>by
  obtain⟨n1,n2⟩:=List.nodup_cons.mp nd;cases i with
  |zero =>
   cases j with
   |zero=>rfl
   |succ j=>cases e1;exact absurd (aB (by simpa using e2)) n1
  |succ i =>
   cases j with
   |zero=>cases e2;exact absurd (aB (by simpa using e1)) n1
   |succ j=>exact ZH (· + 1) (wM n2 (by simpa using e1) (by simpa using e2))
def aha:zz
 |.str i,.str j,q=>q (.fz (.bl (!decide (j.cps.toList<i.cps.toList))))
 |_,_,_=>False
theorem HF:GO X (compareOp .LtE) aha:=ab5.imp λx y H Q hP=>by
 obtain⟨S,t,u,R,_,hx,hy,hg,k⟩:=hP;cases hx<;>try exact hg.elim
 cases hy<;>try exact hg.elim
 exact⟨_,_,rfl,rfl,k H _ _ hg (.refl _) (NR.fz (.bl _))⟩
theorem O2:GC X (.builtin "len") (g1 aga):=.one G_ λS t x H Q R rx hg k=>by
 cases t<;>try exact hg.elim
 cases rx;exact⟨_,rfl,hg.1,k H _ _ hg.2 (.refl _) (NR.fz (.int _))⟩
def agx(a:RE):RI:=λo q=>a o λx=>match frz x with|.str s=>q (s.cps.toList.map λc=>.str ⟨#[c]⟩)|_=>False
theorem U9{tg:Expr}(he:QE X e re):QI X tg e (agx re):=(abY he).imp λσ H Q ⟨own,o,R,h,hr,k⟩=>tQ.mk h hr λH1 v x q E1 r1=>by
 revert r1 q
 generalize frz x=t;intro q r1;cases t<;>try exact q.elim
 cases r1;refine⟨_,rfl,k H1 _ _ q E1 λS H2 i _ SF=>⟨λhi=>show i=_ by simpa using hi,λt ht=>?_⟩⟩;rw[aq]at ht;cases z:(‹Str›.cps.toList)[i]? with
 |none=>rw[z]at ht;cases ht
 |some c =>
  rw[z]at ht;cases ht;refine⟨show i<_ by simpa using(ao.mp z).1,?_⟩;rintro x H3 ⟨rfl,c',e',rfl⟩;rw[<- Array.getElem?_toList,z]at e';cases e';exact⟨.refl _,.str _⟩
end
abbrev HG:=qE
section
variable{α β:Type}{g:HG}{b:RS}{E:DT}{o:List OT}
theorem Ov(h:α->T)(l:List α)(J:List α->List OT->Prop)(st:∀as a bs o,l=as++a::bs->J as o->g (h a) o λo'=>b { E with nx:=J (as++[a]),ct:=J (as++[a]),bk:=E.nx } o')(aE:∀o,J l o->E.nx o):∀(bs as:List α)(o:List OT),l=as++bs->J as o->tU g b E (bs.map h) o
 |[],as,o,e,j=>aE o (by rw[List.append_nil]at e;rw[e];exact j)
 |a::bs,as,o,e,j=>⟨J (as++[a]),λo k=>Ov h l J st aE bs (as++[a]) o (by rw[e];simp) k,st as a bs o e j⟩
theorem kZ(h:α->T)(l:List α)(J:List α->List OT->Prop)(j:J [] o)(st:∀as a bs o,l=as++a::bs->J as o->g (h a) o λo'=>b { E with nx:=J (as++[a]),ct:=J (as++[a]),bk:=E.nx } o')(aE:∀o,J l o->E.nx o):tU g b E (l.map h) o:=Ov h l J st aE l [] o rfl j
theorem Qd(J:Nat->List OT->Prop):∀(xs:List T)(k:Nat){o:List OT},J k o->(∀i t o,xs[i]?=some t->J (k+i) o->g t o λo'=>b { E with nx:=J (k+i+1),ct:=J (k+i+1),bk:=E.nx } o')->(∀o,J (k+xs.length) o->E.nx o)->tU g b E xs o
 |[],_,o,j,_,aE=>aE o j
 |t::ts,k,o,j,st,aE=>⟨J (k+1),λo z=>Qd J ts (k+1) z (λi t o e z=>by
   have:=st (i+1) t o (by simpa using e) (by rw[show k+(i+1)=k+1+i by lia];exact z);rw[show k+(i+1)+1=k+1+i+1 by lia]at this;exact this) (λo z=>aE o (by rw[List.length_cons,show k+(ts.length+1)=k+1+ts.length by lia];exact z)),st 0 t o rfl j⟩
theorem jG{n:Nat}(J:Nat->List OT->Prop)(j:J 0 o)(st:∀k o,k<n->J k o->g (.int (k:Nat)) o λo'=>b { E with nx:=J (k+1),ct:=J (k+1),bk:=E.nx } o')(aE:∀o,J n o->E.nx o):tU g b E (rng 0 n) o:=by
 refine Qd J (rng 0 n) 0 j (λi t o e z=>?_) λo z=>aE o (by rw[rng,ak,X1,Nat.zero_add]at z;exact z);unfold rng at e;rw[aq]at e;by_cases hi:i<n
 .rw[WG hi]at e;cases e;rw[Nat.zero_add]at z ⊢;have:=st i o hi z;show g (.int (0+((i:Nat):Int))) o _;rw[show(0:Int)+((i:Nat):Int)=((i:Nat):Int)by exact Int.zero_add _];exact this
 .rw[aM (by simpa using hi)]at e;cases e
variable{c:RT}{e:RE}{q:List T->Prop}
theorem comp_map(h:α->T)(f:α->T):∀(l:List α){q:List T->Prop},(∀a∈l,∀(N:T->Prop)(M:Prop),N (f a)->g (h a) o λo'=>c o' λb=>sw b (e o' λy=>N (frz y)) M)->q (l.map f)->pC g c e o (l.map h) q
 |[],_,_,k=>k
 |a::l,q,st,k=>⟨λy=>y=f a,False,λy z=>comp_map h f l (λa ha=>st a (aH _ ha)) (z ▸ k),False.elim,st a (aO ..) (λy=>y=f a) False rfl⟩
theorem nO(h:α->T)(p:α->Bool)(f:α->T):∀(l:List α){q:List T->Prop},(∀a∈l,∀(N:T->Prop)(M:Prop),(p a=true->N (f a))->(p a=false->M)->g (h a) o λo'=>c o' λb=>sw b (e o' λy=>N (frz y)) M)->q ((l.filter p).map f)->pC g c e o (l.map h) q
 |[],_,_,k=>k
 |a::l,q,st,k=>⟨λy=>y=f a/\p a=true,p a=false,λy z=>nO h p f l (λa ha=>st a (aH _ ha)) (by rw[List.filter_cons_of_pos z.2]at k;exact z.1 ▸ k),λz=>nO h p f l (λa ha=>st a (aH _ ha)) (by rw[List.filter_cons_of_neg (by rw[z];decide)]at k;exact k),st a (aO ..) (λy=>y=f a/\p a=true) (p a=false) (λz=>⟨rfl,z⟩) id⟩
inductive aaj(R:α->T->Prop):List α->List T->Prop
 |nil:aaj R [] []
 |cons {a:α}{t:T}{l:List α}{ts:List T} : R a t->aaj R l ts->aaj R (a::l) (t::ts)
theorem nZ(f:Nat->T)(n:Nat)(st:∀k,k<n->∀(N:T->Prop)(M:Prop),N (f k)->g (.int (k:Nat)) o λo'=>c o' λb=>sw b (e o' λy=>N (frz y)) M)(k:q ((List.range n).map f)):pC g c e o (rng 0 n) q:=by
 refine comp_map (λk:Nat=>.int (0+k)) f (List.range n) (λa ha N M hN=>?_) k;have:=st a (List.mem_range.mp ha) N M hN;show g (.int (0+((a:Nat):Int))) o _;rw[show(0:Int)+((a:Nat):Int)=((a:Nat):Int)by exact Int.zero_add _];exact this
end
def Bk(ks:List Key)(j:Key):Bool:=ks.any λk=>decide (k=j)
def kpK(ks:List Key)(j:Key):List Key:=if Bk ks j=true then ks else ks++[j]
def kpT{α:Type}(ks:List Key)(ts:List α)(j:Key)(t:α):List α:=if Bk ks j=true then ks.zipWith (λk x=>if k=j then t else x) ts else ts++[t]
theorem Wm{j:Key}{v:V}{ks:List Key}{xs:Β}(l:ks.length=xs.length):putK (ks.zip xs) j v=(kpK ks j).zip (kpT ks xs j v)/\(kpK ks j).length=(kpT ks xs j v).length:=by
 have any:∀{ks:List Key}{xs:Β},ks.length=xs.length->((ks.zip xs).any λkv=>decide (kv.1=j))=Bk ks j:=λ{ks}=>by
  induction ks with
  |nil=>intro xs _;rfl
  |cons k ks ih =>
   intro xs l;cases xs with
   |nil=>cases l
   |cons x xs=>rw[List.zip_cons_cons,List.any_cons,ih (Nat.succ.inj l)];rfl
 unfold putK kpK kpT;rw[any l];by_cases h:Bk ks j=true
 .rw[ZY h,ZY h,ZY h];refine⟨?_,by rw[List.length_zipWith,l,WS]⟩
  clear any h
  induction ks generalizing xs with
  |nil=>rfl
  |cons k ks ih =>
   cases xs with
   |nil=>cases l
   |cons x xs =>
    rw[List.zip_cons_cons,List.map_cons,ih (Nat.succ.inj l),List.zipWith_cons_cons,List.zip_cons_cons];by_cases h:k=j
    .rw[ZY h,ZY h]
    .rw[ZZ h,ZZ h]
 .rw[ZZ h,ZZ h,ZZ h];exact⟨by rw[List.zip_append l];rfl,by simp[l]⟩
theorem bJ.kp{K:Frag}{F:Hp}{j:Key}{v:V}{t:T}(r:Rep K F v t){ks:List Key}{xs:Β}{ts:List T}(h:bJ K F xs ts):bJ K F (kpT ks xs j v) (kpT ks ts j t):=by
 unfold kpT;by_cases z:Bk ks j=true
 .rw[ZY z,ZY z]
  clear z
  induction ks generalizing xs ts with
  |nil=>exact .nil
  |cons k ks ih =>
   cases h with
   |nil=>exact .nil
   |cons a b =>
    rw[List.zipWith_cons_cons,List.zipWith_cons_cons];refine .cons ?_ (ih b);by_cases y:k=j
    .rw[ZY y,ZY y];exact r
    .rw[ZZ y,ZZ y];exact a
 .rw[ZZ z,ZZ z];exact h.app (.cons r .nil)
section
variable{X:Cx}{a b c e:Expr}{ra rb rc re:RE}{pos p:Pos}
def Zv(i:Nat)(a b:RE):RS:=λE o=>match slot o i with|.d1 ks ts=>a o λy=>b o λk=>∃j,Rf (frz k)=some j/\ks.length<sizeLine/\E.nx (o.set i (.d1 (kpK ks j) (kpT ks ts j (frz y))))|_=>False
theorem SR.d1{K:Frag}{own:zk}{H:Hp}{σ:L2.St}{o:List OT}(h:SR K own H σ o){i:Nat}{ks:List Key}{ts:List T}(e:slot o i=.d1 ks ts):∃l xs,σ[i]?=some (some (.ref l))/\own i=[l]/\H l=some (.dK (ks.zip xs))/\ks.length=xs.length/\bJ K (hd (Ow own) H) xs ts:=by
 obtain⟨u,e1,l,xs,e2,e3,e4,r⟩:=h.val e (by intro z;cases z);cases e2;exact⟨l,xs,e1,e3,e4,r⟩
theorem zT(i:Nat){x:Str}{aI:Pos}(hu:X.A.units+1<cLine)(he:QE X e re)(hb:QE X b rb)(hN:X.N[i]?=some x:=by rfl)(hv:o9 X.env.scope x=true:=by rfl)(bg:qk x:=by decide)(a6:qf x:=by decide)
 (hs:swapsWith e (some (.Subscript (.Name x p) b aI)) pos.line X.env=pure false:=by rfl):QS X (.Assign [.Subscript (.Name x p) b aI] e pos) (Zv i re rb):=(Xo hu (pv i hN hv bg a6) hb he hs).imp λD σ H hP=>by
 obtain⟨own,o,E,h,hr,L⟩:=hP;unfold Zv at hr;cases es:slot o i with
 |d1 ks ts =>
  rw[es]at hr;obtain⟨l,xs,e1,e3,e4,ln,r⟩:=h.d1 es;refine tQ.mk h hr λH1 v y q E1 r1=>⟨_,e1,tQ.mk (h.same E1) q λH2 w z q E2 r2=>?_⟩;obtain⟨j,ek,sz,q⟩:=q;have c5:=E1.trans E2;cases HN r2 ek;obtain⟨pk,pl⟩:=Wm (j:=j) (v:=v) ln;have lz:(ks.zip xs).length<sizeLine:=by rw[WU,<- ln,WS];exact sz
  refine⟨l,_,rfl,.inl ⟨_,j,c5 _ _ e4,rfl,lz,rfl⟩,?_⟩;rw[pk];obtain⟨h',S⟩:=(h.same c5).chg (iC es (by intro z;cases z)) (y:=.d1 (kpK ks j) (kpT ks ts j (frz y))) (H':=upd H2 l (.dK ((kpK ks j).zip (kpT ks xs j v)))) (λb u hb e=>(bM λz=>hb (by rw[e3,z];simp)).trans e) (by
   rw[e1,Io ⟨i,by rw[e3];simp⟩];exact⟨l,_,rfl,e3,bQ,pl,bJ.kp (r1.same (bR E2)) (r.same (bR c5))⟩)
  exact L.nx own _ σ _ q ((bR c5).trans S) h'
 |_=>rw[es]at hr;exact hr.elim
def Ze(i:Nat)(a b:RE):RE:=λo q=>match slot o i with|.d1 ks ts=>a o λy=>b o λz=>∃j,Rf (frz y)=some j/\q (.fz ((j9 ks ts j).getD (frz z)))|_=>False
theorem Qj(i:Nat){x:Str}{ac ae:Pos}(hu:X.A.units+1<cLine)(ha:QE X a ra)(hb:QE X b rb)(m:M2 X (.Name x p) "get" ac a b ae:=by first|exact⟨rfl,rfl,rfl,rfl⟩|constructor<;>rfl)(hN:X.N[i]?=some x:=by rfl)(hv:o9 X.env.scope x=true:=by rfl)(bg:qk x:=by decide)(a6:qf x:=by decide) :
  QE X (.Call (.Attribute (.Name x p) "get" ac) [a,b] [] ae) (Ze i ra rb):=(R7 hu (pv i hN hv bg a6) ha hb m).imp λσ H Q hP=>by
 obtain⟨own,o,R,h,hr,k⟩:=hP;unfold Ze at hr;cases es:slot o i with
 |d1 ks ts =>
  rw[es]at hr;obtain⟨l,xs,e1,e3,e4,ln,r⟩:=h.d1 es;refine⟨_,e1,l,rfl,.inl ⟨_,.inl e4⟩,tQ.mk h hr λH1 v y q E1 r1=>tQ.mk (h.same E1) q λH2 w z q E2 r2=>?_⟩;obtain⟨j,ek,q⟩:=q;have c5:=E1.trans E2;cases HN r1 ek;refine⟨_,yj.k (c5 _ _ e4),?_⟩;have r:=r.same (bR c5);cases z1:j9 ks ts j with
  |none =>
   rw[z1]at q;rw[(xW r).2 z1];exact k H2 _ _ q c5 (NR.fz r2)
  |some t =>
   rw[z1]at q;obtain⟨u,e5,r5⟩:=(xW r).1 t z1;rw[e5];exact k H2 _ _ q c5 (NR.fz r5)
 |_=>rw[es]at hr;exact hr.elim
def kT:Key->T
 |.inl i=>.int i
 |.inr s=>.str s
def Qn(f:List Key->List T->List T)(i n:Nat)(g:qE)(c:RT)(e:RE):RS:=λE o=>match slot o i with
 |.d1 ks ts=>ks.length<=sizeLine/\pC g c e (List.replicate n .und++o.set i (.fz (.dct ks ts))) (f ks ts) λus=>E.rt (.l1 us)
 |_=>False
def iW(J:Addr->Obj->List (Key×V)->It)(te:TE):TI:=λσ H R=>te σ H λx H1=>∃a kvs,x=.ref a/\H1 a=some (.dK kvs)/\∀o,R (J a o kvs) (upd H1 a (.frz o (.dK kvs)))
abbrev adT:=Qn λks _=>ks.map kT
abbrev afa:=Qn λks ts=>(ks.zip ts).map λp=>.tup [kT p.1,p.2]
theorem X7{K:Frag}{a:Addr}{ob:Obj}{ks:List Key}{xs:Β}{F:Hp}(l:ks.length=xs.length)(e:F a=some (.frz ob (.dK (ks.zip xs)))):Wlk K (Itk a ob (ks.zip xs)) F (ks.map kT):=λS H i _ SF=>by
 have eH:=(cL (SF _ _ e)).2;have lz:(ks.zip xs).length=ks.length:=by rw[WU,<- l,WS]
 refine⟨λhi=>⟨eH,by rw[lz];simpa using hi⟩,λt ht=>?_⟩;rw[aq]at ht;cases z:ks[i]? with
 |none=>rw[z]at ht;cases ht
 |some k =>
  rw[z]at ht;cases ht;have hi:=(ao.mp z).1;refine⟨⟨eH,by rw[lz];exact hi⟩,?_⟩;rintro x H' ⟨rfl,k',y,e1,rfl⟩;rw[aj (by rw[lz];exact hi),WH]at e1;rw[aj hi]at z;cases z;cases e1;refine⟨.refl _,?_⟩;cases ks[i]with
  |inl j=>exact .int _
  |inr s=>exact .str _
theorem YM{K:Frag}{a:Addr}{ob:Obj}{ks:List Key}{xs:Β}{ts:List T}{F:Hp}(l:ks.length=xs.length)(e:F a=some (.frz ob (.dK (ks.zip xs))))(r:bJ K F xs ts):Wlk K (Itp a ob (ks.zip xs)) F ((ks.zip ts).map λp=>.tup [kT p.1,p.2]):=λS H i hs SF=>by
 have eH:=(cL (SF _ _ e)).2;have lt:=r.len;have lz:(ks.zip xs).length=ks.length:=by rw[WU,<- l,WS]
 have lz':(ks.zip ts).length=ks.length:=by rw[WU,<- lt,<- l,WS]
 refine⟨λhi=>⟨eH,by rw[ak,lz']at hi;rw[lz];exact hi⟩,λt ht=>?_⟩;rw[aq]at ht;cases z:(ks.zip ts)[i]? with
 |none=>rw[z]at ht;cases ht
 |some q =>
  rw[z]at ht;cases ht;obtain⟨hi,z⟩:=ao.mp z;rw[WH]at z;subst z;rw[lz']at hi;obtain⟨y,ey,ry⟩:=r.at_ (aj (show i<ts.length by lia));refine⟨⟨eH,by rw[lz];exact hi⟩,?_⟩;rintro x H' ⟨k',y',t,e1,n,rfl,rfl⟩;rw[aj (by rw[lz];exact hi),WH]at e1;rw[aj (aR hi (X9 l))]at ey;cases ey;cases e1;refine⟨Same.upd n,.tup (.of (abX n hs)) (.cons ?_ (.cons (ry.same (SF.trans (bR (Same.upd n)))) .nil))⟩;cases ks[i]with
  |inl j=>exact .int _
  |inr s=>exact .str _
theorem Qa{J:Addr->Obj->List (Key×V)->It}{f:List Key->List T->List T}{iter tg a9:Expr}{ay:List Expr}{g:qE}{rc:RT}{scope:Scope}{ae:Pos}(i:Nat)(pi:PI X tg iter (iW J (Cg i)))(wk:∀{a ob ks xs ts F},ks.length=xs.length->F a=some (.frz ob (.dK (ks.zip xs)))->bJ X.K F xs ts->Wlk X.K (J a ob (ks.zip xs)) F (f ks ts)/\(f ks ts).length=ks.length)(sc:Scope)(N N' xs:Θ)(hg:∀{C s₀ H₀ ex pn},QG (X.compG N' scope xs C s₀ H₀ ex pn) xs.length tg g)(ht:∀{C s₀ H₀ ex pn},QTs (X.compG N' scope xs C s₀ H₀ ex pn) ay rc)(he:∀{C s₀ H₀ ex pn},QE (X.compG N' scope xs C s₀ H₀ ex pn) a9 re)
 (cq:X.env.scope=sc:=by rfl)(cx:X.N=N:=by rfl)(hc:X.calm=true:=by rfl)(hk:scope.kind=.function:=by rfl)(h:CK sc scope N N' xs:=by decide +kernel)(hs:qV X iter) :
  QS X (.Return (some (.ListComp a9 [⟨tg,iter,ay,0⟩] scope ae)) pos) (Qn f i xs.length g rc re):=(Mg (Zr (gt:=tQG X.K xs.length g) (tc:=tQT X.K rc) (te:=tQ X.K re) sc N N' xs pi hg ht he cq cx hc hk h hs)).imp λD σ H hP=>by
 obtain⟨own,o,E,h,hr,L⟩:=hP;unfold Qn at hr;cases es:slot o i with
 |d1 ks ts =>
  rw[es]at hr;obtain⟨l,ys,e1,e3,e4,ln,r⟩:=h.d1 es;refine⟨_,e1,l,_,rfl,e4,λob DD nD=>?_⟩;have eo:∀b,Ow (own1 own i []) b->Ow own b/\b≠l:=λb hP=>by
   obtain⟨j,z⟩:=hP;by_cases y:j=i
   .rw[y,fJ]at z;cases z
   .rw[cY y]at z;exact⟨⟨j,z⟩,λw=>y (h.dis j i b z (by rw[e3,w];simp))⟩
  have nl:¬Ow (own1 own i []) l:=λz=>(eo l z).2 rfl;have ol:Ow own l:=⟨i,by rw[e3];simp⟩;have S1:Same (hd (Ow own) H) (hd (Ow (own1 own i [])) (upd H l (.frz ob (.dK (ks.zip ys))))):=λb u e=>by
   obtain⟨n,e⟩:=cL e;rw[b_ λz=>n (eo b z).1,bM λ(z:b=l)=>n (z.symm ▸ ol)];exact e
  have h1:SR X.K (own1 own i []) (upd H l (.frz ob (.dK (ks.zip ys)))) σ (o.set i (.fz (.dct ks ts))):=by
   have hi:i<o.length:=(ao.mp (iC es (by intro z;cases z))).1;refine⟨by rw[X2,h.len],λj y e'=>?_,λj hj a ha=>?_,λj k a z1 z2=>?_⟩
   .by_cases z:j=i
    .subst z;rw[WZ hi]at e';cases e';rw[fJ,e1];exact⟨rfl,_,rfl,.dct (.inr ⟨ob,by rw[b_ nl];exact bQ⟩) ln (r.same S1)⟩
    .rw[Wp (Ne.symm z)]at e';rw[cY z];exact((h.sl j y e').same S1 (.refl _)).off λb hb u e=>(bM λw=>z (h.dis j i b hb (by rw[e3,w];simp))).trans e
   .rw[X2]at hj;rw[cY (by lia)]at ha;obtain⟨xs,e⟩:=h.out j hj a ha;exact⟨xs,(bM λw=>by have:=h.dis j i a ha (by rw[e3,w];simp);lia).trans e⟩
   .by_cases z:j=i
    .rw[z,fJ]at z1;cases z1
    by_cases y:k=i
    .rw[y,fJ]at z2;cases z2
    .rw[cY z]at z1;rw[cY y]at z2;exact h.dis j k a z1 z2
  have L1:=L.step S1;obtain⟨wk,wl⟩:=wk ln (by rw[b_ nl];exact bQ) (r.same S1);refine Jz h1 wk (by rw[wl];exact hr.1) hr.2 nD λH' v y rx E n=>?_;obtain⟨B,nb,s⟩:=n;exact L1.rt _ H' v y B rx (jz (λb z=>z.imp id (nb b)) E) s λa ha=>.inr ha
 |_=>rw[es]at hr;exact hr.elim
theorem Wv{tg a9:Expr}{ay:List Expr}{g:qE}{rc:RT}{scope:Scope}{x:Str}{ae:Pos}(i:Nat)(sc:Scope)(N N' xs:Θ)(hg:∀{C s₀ H₀ ex pn},QG (X.compG N' scope xs C s₀ H₀ ex pn) xs.length tg g)(ht:∀{C s₀ H₀ ex pn},QTs (X.compG N' scope xs C s₀ H₀ ex pn) ay rc)(he:∀{C s₀ H₀ ex pn},QE (X.compG N' scope xs C s₀ H₀ ex pn) a9 re)
 (hN:X.N[i]?=some x:=by rfl)(hv:o9 X.env.scope x=true:=by rfl)(bg:qk x:=by decide)(a6:qf x:=by decide)
 (cq:X.env.scope=sc:=by rfl)(cx:X.N=N:=by rfl)(hc:X.calm=true:=by rfl)(hk:scope.kind=.function:=by rfl)(h:CK sc scope N N' xs:=by decide +kernel)(hs:∀z,foldedSetIterable (.Name x p) X.env z=pure z:=by intro _;rfl) :
  QS X (.Return (some (.ListComp a9 [⟨tg,.Name x p,ay,0⟩] scope ae)) pos) (adT i xs.length g rc re):=Qa i (Yb (tg:=tg) (pv i hN hv bg a6)) (λl e _=>⟨X7 l e,by rw[ak]⟩) sc N N' xs hg ht he cq cx hc hk h hs
theorem WR{a9:Expr}{ay:List Expr}{g:qE}{rc:RT}{scope:Scope}{x:Str}{ae aI ac fN:Pos}{bX:List Expr}{x1}(i:Nat)(sc:Scope)(N N' xs:Θ)(hg:∀{C s₀ H₀ ex pn},QG (X.compG N' scope xs C s₀ H₀ ex pn) xs.length (.Tuple bX x1 aI) g)(ht:∀{C s₀ H₀ ex pn},QTs (X.compG N' scope xs C s₀ H₀ ex pn) ay rc)(he:∀{C s₀ H₀ ex pn},QE (X.compG N' scope xs C s₀ H₀ ex pn) a9 re)
 (hN:X.N[i]?=some x:=by rfl)(hv:o9 X.env.scope x=true:=by rfl)(bg:qk x:=by decide)(a6:qf x:=by decide)(hb:attributeBase (.Name x p) "items" X.env (eval (.Name x p) X.env)=eval (.Name x p) X.env:=by rfl)(hn:zw ac fN:=by rfl)
 (cq:X.env.scope=sc:=by rfl)(cx:X.N=N:=by rfl)(hc:X.calm=true:=by rfl)(hk:scope.kind=.function:=by rfl)(h:CK sc scope N N' xs:=by decide +kernel)(hs:∀z,foldedSetIterable (.Call (.Attribute (.Name x p) "items" ac) [] [] fN) X.env z=pure z:=by intro _;rfl) :
  QS X (.Return (some (.ListComp a9 [⟨.Tuple bX x1 aI,.Call (.Attribute (.Name x p) "items" ac) [] [] fN,ay,0⟩] scope ae)) pos) (afa i xs.length g rc re):=Qa i (V1 (pv i hN hv bg a6) hb hn) (λl e r=>⟨YM l e r,by rw[ak,WU,l,r.len,WS]⟩) sc N N' xs hg ht he cq cx hc hk h hs
end
def Zx(g:qE)(c:RT)(e:RE)(o:List OT):List T->(List (List T)->Prop)->Prop
 |[],q=>q []
 |t::ts,q=>∃(N:List T->Prop)(M:Prop),(∀y,N y->Zx g c e o ts λus=>q (y::us))/\(M->Zx g c e o ts q)/\g t o λo'=>c o' λb=>sw b (e o' λy=>match y with|.l1 us=>N us|_=>False) M
section
variable{X:Cx}
theorem bJ.strs{K:Frag}{F:Hp} : ∀{xs:Β}{ys:Θ},bJ K F xs (ys.map T.str)->xs=ys.map V.str
 |_,[],h=>by cases h;rfl
 |_,y::ys,h=>by
  cases h with
  |cons a b =>
   cases a;rw[bJ.strs b];rfl
def rJn(a:RE)(r:RA):RE:=λo q=>a o λx=>match frz x with
 |.str s=>r o λus=>∃ys:Θ,us=[.lst (ys.map T.str)]/\(ys.map (·.length)).sum+ys.length*s.length<=16777216/\q (.fz (.str (Txt.join s ys)))
 |_=>False
theorem Xu{o e:Expr}{ra:RE}{r:RA}{ac ae:Pos}(ho:QE X o ra)(ha:QA X [e] r)(hb:attributeBase o "join" X.env (eval o X.env)=eval o X.env:=by rfl)
 (hf:qr X ae e:=by rfl)
 (hl:zw ac ae:=by rfl)(hs:qo X e []:=by rfl)(hp:qh X ae []:=by rfl) :
  QE X (.Call (.Attribute o "join" ac) [e] [] ae) (rJn ra r):=by
 refine(acV PySem.F.slot_str_join PySem.F.type_str_join Ye ho ha hb hf hl hs hp).imp λσ H Q hP=>?_;obtain⟨own,o,R,h,hr,k⟩:=hP;refine tQ.mk h hr λH1 v x q E1 r1=>?_;cases ex:frz x with
 |str s =>
  rw[ex]at q r1;cases r1;refine⟨⟨s,rfl⟩,tQA.mk (h.same E1) q λH2 vs us q2 _ E2 r2=>?_⟩;obtain⟨ys,rfl,lz,q3⟩:=q2;obtain⟨y,rfl,ry⟩:=r2.one;obtain⟨p,xs,rfl,e,rx⟩:=ry.lstI;exact⟨s,p,ys,rfl,rfl,rx.strs ▸ (cL e).2,lz,k H2 _ _ q3 (E1.trans E2) (NR.fz (.str _))⟩
 |_=>rw[ex]at q;exact q.elim
def notStar:Expr->Bool
 |.Starred ..=>false
 |_=>true
theorem aaT{e:Expr}{es:List Expr}{env:Env}(h:notStar e=true):starEach (e::es) env=(false,eval e env)::starEach es env:=by
 cases e<;>first|rfl|cases h
structure QEB(X:Cx)(e:Expr)(r:RE):Prop where
 out:QE X e r
structure QAB(X:Cx)(es:List Expr)(r:RA):Prop where
 out:QA X es r
theorem pR{e:Expr}{r:RE}(h:QE X e r):QEB X e r:=⟨h⟩
theorem dH{i j pos} : QEB X (.Constant (.int i) j pos) (rC (.int i)):=⟨bA⟩
theorem Gb(i:Nat){x:Str}{pos:Pos}(hN:X.N[i]?=some x:=by rfl)(hv:o9 X.env.scope x=true:=by rfl)(hd:qk x:=by decide)(a6:qf x:=by decide):QEB X (.Name x pos) (ab4 i):=⟨qv i hN hv hd a6⟩
theorem tL{op:Operator}{g:zz}{a b:Expr}{ra rb:RE}{pos:Pos}(ho:GO X (binaryOp op) g)(ha:QEB X a ra)(hb:QEB X b rb):QEB X (.BinOp a op b pos) (rOp g ra rb):=⟨bI ho ha.out hb.out⟩
theorem uh:QAB X [] Z1:=⟨bx⟩
theorem cg{e:Expr}{es:List Expr}{a:RE}{r:RA}(ha:QEB X e a)(hr:QAB X es r)(hn:notStar e=true:=by rfl):QAB X (e::es) (ZD a r):=⟨bw ha.out hr.out (aaT hn)⟩
theorem WM{es:List Expr}{r:RA}{pos:Pos}{k:Nat}(h:QAB X es r)(hz:es.length<=sizeLine:=by decide):QEB X (.Tuple es k pos) (afU r):=⟨fK h.out hz⟩
theorem vp{es:List Expr}{r:RA}{pos:Pos}(h:QAB X es r)(hz:es.length<=sizeLine:=by decide):QEB X (.List es pos) (afJ r):=⟨fG h.out hz⟩
def ahg(n:Nat)(gs:qA):qE
 |.lst ts,o,q=>ts.length=n/\gs ts o q
 |_,_,_=>False
theorem abu{pos:Pos}{m:Nat}{es:List Expr}{k:Nat}{gs:qA}{n:Nat}(hc:X.calm=true)(h:QGs X m es gs)(hn:(assignEach es X.env).length=n:=by rfl)(az:zv X es:=by rfl):QG X m (.Tuple es k pos) (ahg n gs):=(Yz hc h hn az).imp λv σ H Q hP=>by
 obtain⟨own,o,t,R,h,r,hg,k⟩:=hP;cases t<;>try exact hg.elim
 obtain⟨a,xs,rfl,e,r⟩:=r.lstI;exact⟨a,xs,rfl,SqL.of (cj _ _ e),r.len.trans hg.1,own,o,_,R,h,r,hg.2,k⟩
end
section
variable{a b c d e f x y:RS}{E:DT}{o:List OT}
theorem sq2(J:List OT->Prop)(k:∀o',J o'->y E o')(h:∀Y:List OT->Prop,(∀o',J o'->Y o')->g8 a (g8 x (λ_=>Y)) E o):g8 a (g8 x y) E o:=h (y E) k
theorem sq3(J:List OT->Prop)(k:∀o',J o'->y E o')(h:∀Y:List OT->Prop,(∀o',J o'->Y o')->g8 a (g8 b (g8 x (λ_=>Y))) E o):g8 a (g8 b (g8 x y)) E o:=h (y E) k
theorem sq4(J:List OT->Prop)(k:∀o',J o'->y E o')(h:∀Y:List OT->Prop,(∀o',J o'->Y o')->g8 a (g8 b (g8 c (g8 x (λ_=>Y)))) E o):g8 a (g8 b (g8 c (g8 x y))) E o:=h (y E) k
theorem sq6(J:List OT->Prop)(k:∀o',J o'->y E o')(h:∀Y:List OT->Prop,(∀o',J o'->Y o')->g8 a (g8 b (g8 c (g8 d (g8 e (g8 x (λ_=>Y)))))) E o):g8 a (g8 b (g8 c (g8 d (g8 e (g8 x y))))) E o:=h (y E) k
end
section
variable{X:Cx}
theorem sV{ds:List PyData}(h:SeqAt.shaped (.list ds)=true):PyData.canLayAll0 ds=true/\PyData.depthAll ds<=63:=by
 have a:=SeqAt.canLay_of_shaped h;have b:=SeqAt.depth_of_shaped h;unfold PyData.canLay0 at a;unfold PyData.depth at b;exact⟨a,by exact Nat.le_of_succ_le_succ b⟩
def Y9(K:Frag):V->Β->Hp->VK->Prop:=λx vs H Q=>∃(l:Addr)(b:V)(xs:Β)(ds:List PyData)(d:PyData)(j:Nat),x=.ref l/\vs=[b]/\H l=some (.lst xs)/\dU K H xs ds/\iB K H b d/\SeqAt.shaped (.list ds)=true/\SeqAt.shaped d=true/\xs.length<=sizeLine/\(∃e,ds[j]?=some e/\PyData.eqv e d=true)/\(∀(i:Nat)e,i<j->ds[i]?=some e->PyData.eqv e d=false)/\Q (.int (j:Nat)) H
theorem yD{h:Heap} : ∀{ds:List PyData}{vs:Δ}{as:Φ}{i:Nat}{v:Value},ReadsAll h vs ds as->vs[i]?=some v->∃d bs,ds[i]?=some d/\Reads h v d bs
 |_,_,_,i,v,.nil,e=>by cases e
 |_,_,_,0,v,.cons r _,e=>by cases e;exact⟨_,_,rfl,r⟩
 |_,_,_,i+1,v,.cons _ r,e=>by
  obtain⟨d,bs,e1,r1⟩:=yD (i:=i) r (by simpa using e);exact⟨d,bs,by simpa using e1,r1⟩
theorem Et:∀{ds:List PyData}{i:Nat}{d:PyData},PyData.canLayAll0 ds=true->ds[i]?=some d->d.canLay0=true
 |[],_,_,_,e=>by cases e
 |x::xs,i,d,h,e=>by
  have hc:x.canLay0=true/\PyData.canLayAll0 xs=true:=by simpa[PyData.canLayAll0]using h
  cases i with
  |zero=>cases e;exact hc.1
  |succ i=>exact Et hc.2 (by simpa using e)
theorem RN(hu:X.A.units+64<cLine):MtM X "list.index" (Y9 X.K):=by
 intro aa s σ H x vs v us Q I rx rv h;obtain⟨l,b,xs,ds,d,j,rfl,rfl,hl,hs,hb,sl,sd,hz,⟨e0,ej,e1⟩,nj,q⟩:=h;cases rx;obtain⟨u,rfl,ru⟩:=rv.one;obtain⟨bs,rb⟩:=I.readsK hb ru;obtain⟨z,its,n,r,hl',e⟩:=I.lstM hl;obtain⟨as,ra⟩:=I.readsAllK hs r;obtain⟨l1,l2⟩:=sV sl;have lr:=r.length;have at_:∀(i:Nat)(hi:i<its.toArray.size),∃g,ds[i]?=some g/\SeqAt.readOf s.heap its.toArray[i]=g:=λi hi=>by
  have ei:its[i]?=some its.toArray[i]:=by rw[aX]at hi;rw[aj hi];simp
  obtain⟨g,cs,eg,rg⟩:=yD ra ei;exact⟨g,eg,SeqAt.readOf_eq (Et l1 eg) rg⟩
 have lj:=(ao.mp ej).1;have dl:its.length=ds.length:=by
  have:∀{xs:Β}{ds:List PyData},dU X.K H xs ds->xs.length=ds.length:=λ{xs ds}h=>by
   induction xs generalizing ds with
   |nil=>cases h;rfl
   |cons x xs ih=>cases h with|cons a b=>rw[List.length_cons,List.length_cons,ih b]
  rw[<- lr,this hs]
 have hj:j<its.toArray.size:=by rw[aX,dl];exact lj
 rw[sizeLine_eq]at hz;refine call_meets F.slot_list_index ⟨_,e,rfl⟩ F.entry_list_index (F.args_list_index_2 _ _) (SeqAt.list_indexAt l its.toArray n _ _ _ (λy=>PyData.eqv (SeqAt.readOf s.heap y) d) j hj (by rw[aX]at hj;lia) ?_ λm hm lm=>?_) ⟨e,SeqAt.items_eqAt (A:=X.A) (by simpa using ra) rb l1 (SeqAt.canLay_of_shaped sd) ?_,⟨.int _,H,I.tok _,⟨_,rfl⟩,q⟩⟩
 .obtain⟨g,e2,e3⟩:=at_ j hj;rw[ej]at e2;cases e2;show PyData.eqv (SeqAt.readOf s.heap _) d=true;rw[e3];exact e1
 .obtain⟨g,e2,e3⟩:=at_ m hm;show PyData.eqv (SeqAt.readOf s.heap _) d=false;rw[e3];exact nj m g lm e2
 .have:=Nat.min_le_left (PyData.depthAll ds) d.depth;lia
def acI(a:RE)(r:RA):RE:=λo q=>a o λx=>match frz x with
 |.lst ts=>r o λus=>∃(ds:List PyData)(d:PyData)(j:Nat),ts=DG ds/\us=[ofD d]/\SeqAt.shaped (.list ds)=true/\SeqAt.shaped d=true/\ts.length<=sizeLine/\(∃e,ds[j]?=some e/\PyData.eqv e d=true)/\(∀(i:Nat)e,i<j->ds[i]?=some e->PyData.eqv e d=false)/\q (.fz (.int (j:Nat)))
 |_=>False
theorem Oo{o e:Expr}{ra:RE}{r:RA}{ac ae:Pos}(hu:X.A.units+64<cLine)(ho:QE X o ra)(ha:QA X [e] r)(hb:attributeBase o "index" X.env (eval o X.env)=eval o X.env:=by rfl)
 (hf:qr X ae e:=by rfl)
 (hl:zw ac ae:=by rfl)(hs:qo X e []:=by rfl)(hp:qh X ae []:=by rfl) :
  QE X (.Call (.Attribute o "index" ac) [e] [] ae) (acI ra r):=by
 refine(UL PySem.F.plainAttrs_list PySem.F.slot_list_index PySem.F.type_list_index (RN hu) ho.mono ha.mono hb hf hl hs hp).imp λσ H Q hP=>?_;obtain⟨own,o,R,h,hr,k⟩:=hP;refine⟨_,tQ.mk h hr λH1 v x q E1 r1=>?_,λ_ _ z=>z⟩;cases ex:frz x with
 |lst ts =>
  rw[ex]at q r1;obtain⟨p,xs,rfl,e,rx⟩:=r1.lstI;refine⟨.inl ⟨rfl,_,SqL.of (cj _ _ e)⟩,_,tQA.mk (h.same E1) q λH2 vs us q2 _ E2 r2=>?_,λ_ _ z=>z⟩;obtain⟨ds,d,j,rfl,rfl,sl,sd,lf,ej,nj,q3⟩:=q2;obtain⟨y,rfl,ry⟩:=r2.one;have S2:Same (hd (Ow own) H1) H2:=(bR E2).trans cj;exact⟨p,y,xs,ds,d,j,rfl,rfl,E2 _ _ (cj _ _ e),(rx.shows ds rfl (sV sl).1).same S2,(ry.shows d rfl (SeqAt.canLay_of_shaped sd)).same cj,sl,sd,by rw[rx.len];exact lf,ej,nj,k H2 _ _ q3 (E1.trans E2) (NR.fz (.int _))⟩
 |_=>rw[ex]at q;exact q.elim
end
theorem fQ{α:Type}{x:Option α}{b:α}{q:α->Prop}(e:x=some b)(h:q b):oT x q:=by rw[e];exact h
section
variable{X:Cx}
def gIn(neg:Bool)(t u:T)(q:OT->Prop):Prop:=∃d ds,t=ofD d/\u=ofD (.list ds)/\SeqAt.shaped d=true/\SeqAt.shaped (.list ds)=true/\q (.fz (.bl (xr neg (ds.any λy=>PyData.eqv y d))))
theorem abV{neg:Bool}{op:CmpOp}(h0:∀{A:Around}{E:Ξ}{s:Shared}{c x:Value}{xs:List PyData}{d:PyData}{as bs:Φ}{Q:Ξ},Reads s.heap c (.list xs) as->Reads s.heap x d bs->PyData.canLayAll0 xs=true->d.canLay0=true->A.units+1+min (PyData.depthAll xs) d.depth<cLine->Q (.bool (xr neg (xs.any λy=>PyData.eqv y d))) s->wpAny (model X.prog X.w) A (compareOp op x c) Q E s)(hu:X.A.units+64<cLine):GO X (compareOp op) (gIn neg):=λaa s σ H x y v u Q I rx ry h=>by
 obtain⟨S,t,w,R,_,hx,hy,⟨d,ds,rfl,rfl,sd,sl,q⟩,k⟩:=h;obtain⟨l1,l2⟩:=sV sl;obtain⟨as,ra⟩:=I.readsK ((hx.shows d rfl (SeqAt.canLay_of_shaped sd)).same cj) rx;obtain⟨bs,rb⟩:=I.readsK ((hy.shows (.list ds) rfl (SeqAt.canLay_of_shaped sl)).same cj) ry;have:=Nat.min_le_left (PyData.depthAll ds) d.depth;exact h0 rb ra l1 (SeqAt.canLay_of_shaped sd) (by lia) ⟨.bl _,H,I,rfl,k H _ _ q (.refl _) (NR.fz (.bl _))⟩
theorem Nv(hu:X.A.units+64<cLine):GO X (compareOp .NotIn) (gIn true):=abV (λrc rx a b c q=>SeqAt.notIn_list_reads rc rx a b c q) hu
end
abbrev XC:=Addr->Θ->List T->Prop
abbrev SX:=List T->(OT->Prop)->XC->Prop
def spX(K:Frag)(S:SX):Sp:=λvs H Q E=>∃ts R Z,bJ K H vs ts/\S ts R Z/\(∀H' v x,R x->Same H H'->NR K (λ_=>False) H H' v x->Q v H') /\
 ∀H' C d ks us bv,Z C ks bv->Same H H'->H' d=some (.xd (ks.zip us))->bJ K H' us bv->E (.ref C) (some d) H'
abbrev afB(P:Program)(w:World)(K:Frag)(mg:Str->Ψ)(base:Heap)(k:Nat)(x:Str)(ps:Θ)(S:SX):Prop:=OkX P w K mg base k x ps (spX K S)
section
variable{P:Program}{w:World}{K:Frag}{mg:Str->Ψ}{base:Heap}
theorem Fun.okTX{x af:Str}{st:Stmt}{f:Addr}{fd:FuncData}{N ps:Θ}{k:Nat}{S:SX}(F:Fun K x af st f fd)(sc:bH N ps (bC st))
 (a7:∀(ah:Value)(A:Around)(outer:List Env)(s:Shared)(H:Hp)(E:XK),dg k (A.deeper (envOfC af (bC st) s.heap.objs.size f ah))->N.Nodup ->
   ∃r,QSs (yq (CXO P w) P w K mg base N af (bC st) f ah A outer s H E) (eG st) r/\∀ts R Z,S ts R Z->r { nx:=λ_=>R (.fz .non),rt:=R,xc:=Z } (start' N.length ts))(len:∀ts R Z,S ts R Z->ts.length=ps.length:=by intro _ _ _ h;repeat (first|exact(ZH List.length h.1).trans rfl|obtain⟨_,h⟩:=h)):dO P w K mg base (CXO P w) (k+1) f fd ps (spX K S):=by
 refine F.okX sc (λvs H Q E h=>?_) λah A outer s H vs Q E hr h=>?_
 .obtain⟨ts,R,Z,r,hS,_⟩:=h;exact r.len.trans (len ts R Z hS)
 .obtain⟨ts,R,Z,r,hS,q,qx⟩:=h;obtain⟨rd,h1,h2⟩:=a7 ah A outer s H E hr sc.nd;have e0:=PN (H:=H);have aE:=Vz q;refine⟨_,h1,λ_=>[],_,_,SR.start r N,h2 ts R Z hS,⟨λown H' σ o rx E h=>?_,λS' H' v x B rx E s hB=>aE S' H' v x B rx (e0 ▸ E) s hB,λ_ _ _ _ z=>z.elim,λ_ _ _ _ z=>z.elim,λH' C d ks us bv z E e r'=>?_⟩⟩
  .exact aE (Ow own) H' .non _ [] rx (e0 ▸ E) ⟨rfl,_,rfl,.non⟩ λ_ z=>(nomatch z)
  .have e1:=qx H' C d ks us bv z (e0 ▸ E) e r';exact⟨λaa σ H2 s2 a s' B I F2=>Xw aa σ H2 s2 a _ H' s' B _ I F2 e1,λaa σ H2 s2 a c ec I ha ge eo=>QF aa σ H2 s2 a c _ I ha ge (by rw[eo,<- ec];exact e1)⟩
end
section
variable{X:Cx}
theorem aa2:R0 X λC d _ H'=>zx X C d H':=λaa σ H s a C H' s' B d I F z=>z.1 aa σ H s a s' B I F
theorem Va:LK X λC d _ H'=>zx X C d H':=λaa σ H s a C d I e g z=>z.2 aa σ H s a C rfl I e g rfl
def Qp(C:Addr)(bt:Str):Sp:=λvs H Q _=>∃a v,vs=[.ref a,v]/\H a=some (XN a C none)/\∀d,H d=none->d≠a->Q .non (upd (upd H a (XN a C (some d))) d (.xd [(bt,v)]))
theorem aaU{H:Hp}{a d:Addr}{o o' x:HO}(n:H a=none)(e:d≠a):out (upd (upd (upd H a o) a o') d x) a=upd H d x:=by
 funext b
 by_cases z:b=a
 .subst z;rw[Jx,bM (Ne.symm e),n]
 .rw[qQ z];by_cases y:b=d
  .subst y;rw[bQ,bQ]
  .rw[bM y,bM z,bM z,bM y]
def abj(C:Addr)(bt:Str)(re:RE):RS:=λE o=>re o λx=>E.xc C [bt] [frz x]
theorem Bp{x bt:Str}{np ae pos:Pos}{e:Expr}{re:RE}{C HE fI:Addr}{k:Nat}{ps:Θ}(hc:X.calm=true)(hm:X.mg x=some (.ref C))(q:Dq X.K C HE fI)(G:zb X CX0 k fI ps (Qp C bt))(ha:QE X e re)(hr:dg (k+1) X.A:=by exact dg.mono (by assumption) (by decide))(hg:Gl X x:=by rfl)(a8:qk x:=by decide)
 (he:qo X e []:=by rfl)(aw:qh X ae []:=by rfl) :
  QS X (.Raise (some (.Call (.Name x np) [e] [] ae)) none pos) (abj C bt re) :=
 (QB hc hg hm q G hr Va (bw ha bx he) a8 he aw).imp λD σ H ⟨own,o,E,h,hr,L⟩=>tQA.mk h hr λH1 vs ts q ln E1 r1=>by
  obtain⟨t,rfl⟩ : ∃t,ts=[t]:=by
   match ts,ln with
   |[t],_=>exact⟨t,rfl⟩
  obtain⟨v,rfl⟩ : ∃v,vs=[v]:=by
   match vs,r1.len with
   |[v],_=>exact⟨v,rfl⟩
  refine⟨(show 1<=sizeLine by decide),λa ha=>⟨a,v,rfl,bQ,λd hd da=>⟨rfl,some d,(bM (Ne.symm da)).trans bQ,?_⟩⟩⟩;rw[aaU ha da];have bg:H1 d=none:=by rw[bM da]at hd;exact hd
  exact L.xc _ C d [bt] [v] _ q (cj.trans (E1.trans (Same.upd bg))) bQ (r1.same (cj.trans (Same.upd bg)))
end
section
variable{X:Cx}
def rP(X:Cx)(t:TS):RS:=λE o=>∀own H σ D,SR X.K own H σ o->Lnk X.K (zx X) (hd (Ow own) H) E D->t D σ H
theorem aem{st:Stmt}{t:TS}(h:PS X st t):QS X st (rP X t):=h.imp λD σ H hP=>by obtain⟨own,o,E,s,hr,L⟩:=hP;exact hr own H σ D s L
end
section
variable{X:Cx}
def ae2:ST:=λts q=>match ts with|[.int a,.int b]=>q (.fz (.int (if b<a then b else a)))|_=>False
theorem WT(hc:X.calm=true):GC X (.builtin "min") ae2:=(RV hc).imp λxs H Q hP=>by
 obtain⟨S,ts,R,_,rs,hg,k⟩:=hP
 match ts,hg with
 |[.int a,.int b],hg =>
  cases rs with
  |cons r1 rs=>cases rs with
   |cons r2 rs =>
    cases rs;cases r1;cases r2;exact⟨a,b,rfl,k H _ _ hg (.refl _) (NR.fz (.int _))⟩
end
section
variable{X:Cx}
def Z5(C:Addr)(KS:Θ)(S:SX)(a:RE)(r:RA):RS:=λE o=>a o λx=>match frz x with|.ins C' ks ts=>(C'=C/\ks=KS)/\r o λas=>S (.ins C' ks ts::as) (λ_=>E.nx o) E.xc|_=>False
theorem tK{ac pos ar:Pos}{f:Str}{o e:Expr}{es:List Expr}{ro:RE}{r:RA}{k:Nat}{fa C:Addr}{ps KS:Θ}{S:SX}{pl:Sem Bool}(he:QE X o ro)(c:Cls X.K C)(hm:Meth X.K C f fa)(G:zb X (CXO X.prog X.w) k fa ps (spX X.K S))(ha:QA X (e::es) r)(hr:dg k X.A:=by exact dg.mono (by assumption) (by decide))(hk:f∉KS:=by decide +kernel)
 (az:qo X e es:=by rfl)(aw:qh X pos es:=by rfl)
 (ht:eval (.Call (.Attribute o f ac) (e::es) [] pos) X.env=(do
   let ov <- eval o X.env
   standAt ac.atName
   let(f,first) <- holding [ov] (getMethod ov f pl)
   callWith pos f first (backTo pos (starEach (e::es) X.env)) (backToKw pos (keywordEach [] X.env))):=by rfl)
 (hs:swapsWith (.Call (.Attribute o f ac) (e::es) [] pos) none ar.line X.env=pure false:=by rfl) :
  QS X (.Expr (.Call (.Attribute o f ac) (e::es) [] pos) ar) (Z5 C KS S ro r):=(jk (Fy (pl:=pl) he c hm G hr aa2 ha az aw ht) hs).imp λD σ H ⟨own,o,E,h,hr,L⟩=>tQ.mk h hr λH1 v x q E1 r1=>by
 revert r1 q
 generalize frz x=t;intro q r1;cases t<;>try exact q.elim
 obtain⟨a,dx,xs,rfl,e,d,l,r⟩:=r1.insI;obtain⟨⟨rfl,rfl⟩,q⟩:=q;refine⟨a,dx,_,rfl,(cL e).2,m7 hk,tQA.mk (h.same E1) q λH2 vs as q _ E2 r2=>?_⟩;refine⟨_,_,_,.cons ((r1.same (bR E2)).same cj) (r2.same cj),q,λH' v x q S n=>?_,λH' C d ks us bv z S e r'=>L.xc H' C d ks us bv z (cj.trans (E1.trans (E2.trans S))) e r'⟩;exact L.nx own H' σ _ q (bR (E1.trans (E2.trans S))) (h.same (E1.trans (E2.trans S)))
end
def R4(sp:Sp):Sp:=λvs H Q E=>∃S:Addr->Prop,Hid H S/\sp vs (hd S H) (λv G=>(∀b,S b->G b=none)->Q v (mrg S H G)) λC d G=>(∀b,S b->G b=none)->E C d (mrg S H G)
section
variable{P:Program}{w:World}{K:Frag}{mg:Str->Ψ}{base:Heap}
theorem dO.hidX{k:Nat}{f:Addr}{fd:FuncData}{ps:Θ}{sp:Sp}(F:dO P w K mg base (CXO P w) k f fd ps sp):dO P w K mg base (CXO P w) k f fd ps (R4 sp):=by
 refine⟨λvs H Q E h=>?_,λA outer s H args us vs Q E hr e0 hb r h=>?_⟩
 .obtain⟨S,_,z⟩:=h;exact F.len vs _ _ _ z
 obtain⟨S,hS,z⟩:=h;have non:∀{b:Addr},H b=none->hd S H b=none:=λ{b}e=>by
  by_cases z:S b
  .exact nW z
  .rw[b_ z];exact e
 have bo:∀{b:Addr}{u:HO},S b->H b=some u->(∀xs,u≠.tup xs)/\(∀o v,u≠.frz o v)/\∀ps,u≠.tbl ps:=λ{b u}z e=>by
  obtain⟨o,q,w⟩:=hS.sole b z;rw[e]at q;cases q;rcases w with⟨_,rfl⟩|⟨_,rfl⟩|⟨_,_,_,rfl⟩|⟨_,rfl⟩<;>exact⟨λ_ z=>(nomatch z),λ_ _ z=>(nomatch z),λ_ z=>(nomatch z)⟩
 have e1:DW P w K mg base A outer s (hd S H):=⟨e0.frames,e0.mod,λb o e=>⟨(e0.bs b o e).1,non (e0.bs b o e).2⟩,e0.bsz,e0.funs,λb hb=>non (e0.frf b hb),λb u e=>by
  obtain⟨nb,e'⟩:=cL e;refine(e0.hok b u e').stay (λ_ _ _ z=>z) (λd z=>?_) λd xs z=>?_
  .rw[b_ λy=>nb (hS.own d b y z)];exact z
  .rw[b_ λy=>(bo y z).1 xs rfl];exact z,e0.bare⟩
 have there:∀{b:Addr},S b->∃o,s.heap.get? b=some o:=λ{b}y=>by
  obtain⟨u,e,w⟩:=hS.sole b y;have x:=e0.hok b u e;rcases w with⟨xs,rfl⟩|⟨kk,rfl⟩|⟨C,d,f,rfl⟩|⟨y,rfl⟩
  .obtain⟨_,_,_,_,e2⟩:=x;exact⟨_,e2⟩
  .obtain⟨_,_,_,_,_,_,_,e2,_⟩:=x;exact⟨_,e2⟩
  .obtain⟨_,_,_,e2,_⟩:=x;exact⟨_,e2⟩
  .exact x
 have nofr:∀{b:Addr},S b->b∉frs outer:=λ{b}y z=>(hS.sole b y).ne (e0.frf b z)

 have bt:∀{G:Hp}{s':Shared},Un (frs outer) [] (hd S H) G s.heap s'.heap->HOk P w G s'.heap->(∀b,S b->G b=none)/\Un (frs outer) [] H (mrg S H G) s.heap s'.heap/\HOk P w (mrg S H G) s'.heap:=λ{G s'}un hok=>by
  have keep:∀{b:Addr}{o:Obj},S b->s.heap.get? b=some o->s'.heap.get? b=some o:=λ{b o}y e=>un.keep b o e (nW y) (nofr y) (by simp);have ai:∀b,S b->G b=none:=λb y=>by
   obtain⟨o,ho⟩:=there y;exact un.free b o ho (nW y) (by simp)
  have kq:∀{b:Addr}{u:HO},G b=some u->¬S b:=λe z=>by rw[ai _ z]at e;cases e
  have cm:∀{b:Addr}{u:HO},G b=some u->mrg S H G b=some u:=λe=>(cB (kq e)).trans e;refine⟨ai,⟨λb o e n=>un.keep b o e (non n),λb o e n=>un.slot b o e (non n),λb o e n z=>?_,un.there,λb xs e=>?_,λb o u e=>?_,λb ps e=>?_⟩,λb u e=>?_⟩
  .rw[cB λy=>(hS.sole b y).ne n];exact un.free b o e (non n) z
  .exact cm (un.tups b xs ((b_ λy=>(bo y e).1 xs rfl).trans e))
  .exact cm (un.frzs b o u ((b_ λy=>(bo y e).2.1 o u rfl).trans e))
  .obtain⟨more,this⟩:=un.tbls b ps ((b_ λy=>(bo y e).2.2 ps rfl).trans e);exact⟨more,cm this⟩
  .by_cases z:S b
   .rw[j6 z]at e;have x:=e0.hok b u e;obtain⟨u',e',w⟩:=hS.sole b z;rw[e]at e';cases e';rcases w with⟨xs,rfl⟩|⟨kk,rfl⟩|⟨C,d,f,rfl⟩|⟨y,rfl⟩
    .obtain⟨z1,its,n,r,e2⟩:=x;exact⟨z1,its,n,r,keep z e2⟩
    .obtain⟨z1,y,vs,r,ob,es,ep,e2,c⟩:=x;exact⟨z1,y,vs,r,ob,es,ep,keep z e2,c⟩
    .obtain⟨d1,z1,ne,e2,mA,⟨od,es,ep,e3,c⟩,r⟩:=x;have sd:=hS.ins b C d f z e;exact⟨(j6 sd).trans d1,z1,ne,keep z e2,mA,⟨od,es,ep,keep sd e3,c⟩,r⟩
    .obtain⟨ob,e2⟩:=x;exact⟨ob,keep z e2⟩
   .rw[cB z]at e;exact(hok b u e).stay (λ_ _ _ z=>z) (λd z=>cm z) λd xs z=>cm z
 refine codeAny_mono (F.run A outer s (hd S H) args us vs _ _ hr e1 hb r z) λres s' hs=>?_;cases res with
 |error e =>
  obtain⟨a,C,d,G,B,rfl,fl,q⟩:=hs;obtain⟨ai,un,hok⟩:=bt fl.un fl.hok;refine⟨a,C,d,mrg S H G,B,rfl,⟨fl.os,fl.bare,fl.new,un,hok,λb hb=>?_,fl.fl,λb o e hb hc=>fl.cov b o e hb ?_⟩,q ai⟩
  .rw[cB λy=>nofr y hb];exact fl.frf b hb
  .rcases hc with h|⟨u,h⟩
   .exact .inl h
   .by_cases y:S b
    .obtain⟨o',e'⟩:=there y;exact .inl ⟨o',e'⟩
    .rw[cB y]at h;exact .inr ⟨u,h⟩
 |ok fl =>
  cases fl with
  |next=>exact False.elim hs
  |brk=>exact False.elim hs
  |cont=>exact False.elim hs
  |ret u =>
   obtain⟨v,G,os,bare,un,hok,rv,q⟩:=hs;obtain⟨ai,un,hok⟩:=bt un hok;exact⟨v,mrg S H G,os,bare,un,hok,rv,q ai⟩
end
section
variable{K:Frag}{own:zk}{H:Hp}{σ:L2.St}{o:List OT}
theorem SR.und(h:SR K own H σ o)(i:Nat):∃ag,SR K ag H (σ.set i none) (o.set i .und)/\Same (hd (Ow own) H) (hd (Ow ag) H):=by
 have le:Same (hd (Ow own) H) (hd (Ow (own1 own i [])) H):=jz (λb z=>.inl (z.of1.elim id λy=>(nomatch y))) λ_ _ z=>z;by_cases hi:i<o.length
 .refine⟨own1 own i [],⟨by rw[X2,X2,h.len],λj y e=>?_,λj hj a ha=>?_,λj k a e1 e2=>?_⟩,le⟩
  .by_cases z:j=i
   .subst z;rw[WZ hi]at e;cases e;exact fJ
   .rw[Wp (Ne.symm z)]at e;rw[cY z,Wp (Ne.symm z)];exact(h.sl j y e).same le λ_ _ z=>z
  .rw[X2]at hj;rw[cY (by omega)]at ha;exact h.out j hj a ha
  .by_cases z:j=i
   .rw[z,fJ]at e1;cases e1
   by_cases y:k=i
   .rw[y,fJ]at e2;cases e2
   .rw[cY z]at e1;rw[cY y]at e2;exact h.dis j k a e1 e2
 .refine⟨own,?_,.refl _⟩;rw[VS (Nat.not_lt.mp hi),VS (h.len ▸ Nat.not_lt.mp hi)];exact h
theorem SR.caught(h:SR K own H σ o){Hx G:Hp}(E:Same H Hx)(ai:∀b,Ow own b->G b=none)(EG:Same G Hx){C d a:Addr}{ks:Θ}{us:Β}{ts:List T}(ed:G d=some (.xd (ks.zip us)))(l:ks.length=ts.length)(r:bJ K G us ts)(na:Hx a=none){i j:Nat}(ij:i≠j) :
  ∃ag,SR K ag (upd Hx a (XO a C (some d))) (((σ.set i (some (.ref a))).set j (some (.ref a))).set i none) ((o.set j (.fz (.exc C ks ts))).set i .und)/\Same (hd (Ow own) H) (hd (Ow ag) (upd Hx a (XO a C (some d)))):=by
 have U:Same Hx (upd Hx a (XO a C (some d))):=Same.upd na;have no:¬Ow own a:=λz=>(h.sole z).ne (E.free na);have EGn:Same G (hd (Ow own) (upd Hx a (XO a C (some d)))):=λb u e=>by
  rw[b_ λz=>by rw[ai b z]at e;cases e];exact U _ _ (EG _ _ e)
 have rep:Rep K (hd (Ow own) (upd Hx a (XO a C (some d)))) (.ref a) (.exc C ks ts):=.exc (d:=some d) ((b_ no).trans bQ) (EGn _ _ ed) (l.trans r.len.symm) (r.same EGn);obtain⟨own1,h2,S2⟩:=(h.same (E.trans U)).putA (.refl _) (NR.fz rep) j;obtain⟨bb,h3,S3⟩:=h2.und i;refine⟨bb,?_,(bR (E.trans U)).trans (S2.trans S3)⟩;rw[List.set_comm _ _ ij,List.set_set];exact h3
end
section
variable{X:Cx}
def Oi(K:Frag)(D:Addr)(i j:Nat)(E:DT)(o:List OT):XC:=λC ks us=>(i<o.length/\ks.length=us.length/\mroIn K C (.ref D)=some true)/\E.nx ((o.set j (.fz (.exc C ks us))).set i .und)
def afP(K:Frag)(D:Addr)(i j:Nat)(S:SX)(r:RA):RS:=λE o=>r o λts=>S ts (λ_=>E.nx o) (Oi K D i j E o)
theorem W4(i j:Nat){x y n Dn:Str}{p pos ar fq np du py pn dk:Pos}{e:Expr}{es:List Expr}{r:RA}{k:Nat}{ps:Θ}{S:SX}{D:Addr}(hN:X.N.Nodup)(G:afB X.prog X.w X.K X.mg X.base k x ps S)(hr:dg k X.A)(ib:X.mg Dn=some (.ref D))(qD:mroIn X.K D (.type "BaseException")=some true)(fh:typeIn X.K (.ref D)=some (.type "type"))
 (ha:∀pn E,QA (X.tryc pn E) (e::es) r)(hg:Gl X x:=by rfl)(ik:Gl X Dn:=by rfl)(hi:X.N[i]?=some n:=by rfl)(hj:X.N[j]?=some y:=by rfl)(ij:i≠j:=by decide)(db:X.env.scope.names.lookup n=some .local:=by rfl)(kM:Loc X.env.scope y:=by exact .inl rfl)(az:X.stack=X.env::X.outer:=by rfl)(b8:X.env.frame=some X.env.locals:=by rfl)(iq:X.ex=[]:=by rfl)
 (a8:qk x:=by decide)(gu:qk Dn:=by decide)(k8:qk n:=by decide)(lh:qf n:=by decide)(kB:o9 X.env.scope n=true:=by rfl)
 (he:qo X e es:=by rfl)(aw:qh X pos es:=by rfl)(hs:swapsWith (.Call (.Name x p) (e::es) [] pos) none ar.line X.env=pure false:=by rfl)
 (cr:swapsWith (.Name n pn) (some (.Name y py)) dk.line X.env=pure false:=by rfl)(hf:qi X y:=by first|exact .inl rfl|exact .inr rfl) :
  QS X (.Try [.Expr (.Call (.Name x p) (e::es) [] pos) ar] [.ExceptHandler (some (.Name Dn np)) (some n) [.Assign [.Name y py] (.Name n pn) dk] du] [] [] fq) (afP X.K D i j S r):=by
 obtain⟨f,fd,F,b,hm,kp⟩:=G;refine(Lk (tb:=λEx=>Ft (S9 (R4 (spX X.K S)) Ex (tQA X.K (e::es).length r))) hN hi db ik ib qD fh az b8 iq (λpn E Ex hx=>m8 (jk (Vk (X:=X.tryc pn E) (sp:=R4 (spX X.K S)) (t:=tQA X.K (e::es).length r) ⟨f,fd,F.hidX,b,hm,kp⟩ hr hg hx (ha pn E) a8 he aw) hs)) (λa E=>m8 (GF (X:=X.marked a E) hN hj kM (pv (X:=X.marked a E) i hi kB k8 lh) cr hf)) gu).imp ?_;rintro Dn σ H ⟨own,o,E,h,hr,L⟩;refine⟨λC' d' σ' Hx=>σ'=σ/\∃C d G ks us ts,C'=.ref C/\d'=some d/\Oi X.K D i j E o C ks ts/\Same H Hx/\(∀b,Ow own b->G b=none)/\Same G Hx/\G d=some (.xd (ks.zip us))/\bJ X.K G us ts,tQA.mk h hr λH1 vs ts q _ E1 r1=>?_,?_⟩
 .have h1:=h.same E1;have EH:∀{G:Hp},Same (hd (Ow own) H1) G->Same H1 (mrg (Ow own) H1 G):=λ{G}S b u e=>by
   by_cases z:Ow own b
   .rw[j6 z];exact e
   .rw[cB z];exact S b u ((b_ z).trans e)
  refine⟨Ow own,h1.hid,ts,_,_,r1,q,λG v x q S n ai=>?_,λG C d ks us bv z S e r' ai=>⟨rfl,C,d,G,ks,us,bv,rfl,rfl,z,E1.trans (EH S),ai,λb u e=>?_,e,r'⟩⟩
  .exact L.nx own _ σ o q (bR (E1.trans (EH S))) (h1.same (EH S))
  .rw[cB λz=>by rw[ai b z]at e;cases e];exact e
 .rintro _ _ σ' Hx ⟨rfl,C,d,G,ks,us,ts,rfl,rfl,⟨⟨io,l,mc⟩,q⟩,E1,ai,EG,ed,r'⟩;refine⟨C,rfl,mc,λa na=>?_⟩;obtain⟨ag,h',S'⟩:=h.caught E1 ai EG (C:=C) ed l r' na ij;exact⟨_,WZ (h.len ▸ io),L.nx ag _ _ _ q S' h'⟩
def ae8(K:Frag)(D:Addr)(i j:Nat)(C:Addr)(KS:Θ)(S:SX)(a:RE)(r:RA):RS:=λE o=>a o λx=>match frz x with|.ins C' ks ts=>(C'=C/\ks=KS)/\r o λas=>S (.ins C' ks ts::as) (λ_=>E.nx o) (Oi K D i j E o)|_=>False
theorem Yy(i j:Nat){y n Dn m:Str}{ac pos ar fq np du py pn dk:Pos}{ob e:Expr}{es:List Expr}{ro:RE}{r:RA}{k:Nat}{ps KS:Θ}{S:SX}{D C fa:Addr}{pl:Sem Bool}(hN:X.N.Nodup)(kH:∀pn E,QE (X.tryc pn E) ob ro)(c:Cls X.K C)(hmt:Meth X.K C m fa)(G:zb X (CXO X.prog X.w) k fa ps (spX X.K S))(hr:dg k X.A)(ib:X.mg Dn=some (.ref D))(qD:mroIn X.K D (.type "BaseException")=some true)(fh:typeIn X.K (.ref D)=some (.type "type"))
 (ha:∀pn E,QA (X.tryc pn E) (e::es) r)(hk:m∉KS:=by decide +kernel)(ik:Gl X Dn:=by rfl)(hi:X.N[i]?=some n:=by rfl)(hj:X.N[j]?=some y:=by rfl)(ij:i≠j:=by decide)(db:X.env.scope.names.lookup n=some .local:=by rfl)(kM:Loc X.env.scope y:=by exact .inl rfl)(az:X.stack=X.env::X.outer:=by rfl)(b8:X.env.frame=some X.env.locals:=by rfl)(iq:X.ex=[]:=by rfl)
 (gu:qk Dn:=by decide)(k8:qk n:=by decide)(lh:qf n:=by decide)(kB:o9 X.env.scope n=true:=by rfl)
 (he:qo X e es:=by rfl)(aw:qh X pos es:=by rfl)
 (ht:eval (.Call (.Attribute ob m ac) (e::es) [] pos) X.env=(do
   let ov <- eval ob X.env
   standAt ac.atName
   let(f,first) <- holding [ov] (getMethod ov m pl)
   callWith pos f first (backTo pos (starEach (e::es) X.env)) (backToKw pos (keywordEach [] X.env))):=by rfl)
 (hs:swapsWith (.Call (.Attribute ob m ac) (e::es) [] pos) none ar.line X.env=pure false:=by rfl)
 (cr:swapsWith (.Name n pn) (some (.Name y py)) dk.line X.env=pure false:=by rfl)(hf:qi X y:=by first|exact .inl rfl|exact .inr rfl) :
  QS X (.Try [.Expr (.Call (.Attribute ob m ac) (e::es) [] pos) ar] [.ExceptHandler (some (.Name Dn np)) (some n) [.Assign [.Name y py] (.Name n pn) dk] du] [] [] fq) (ae8 X.K D i j C KS S ro r):=by
 obtain⟨fd,F,b⟩:=G;refine(Lk (tb:=λEx=>Ft (Pa C m (R4 (spX X.K S)) Ex (tQ X.K ro) (tQA X.K (e::es).length r))) hN hi db ik ib qD fh az b8 iq (λpn E Ex hx=>m8 (jk (Fy (X:=X.tryc pn E) (pl:=pl) (sp:=R4 (spX X.K S)) (ta:=tQ X.K ro) (t:=tQA X.K (e::es).length r) (kH pn E) c hmt ⟨fd,F.hidX,b⟩ hr hx (ha pn E) he aw ht) hs)) (λa E=>m8 (GF (X:=X.marked a E) hN hj kM (pv (X:=X.marked a E) i hi kB k8 lh) cr hf)) gu).imp ?_;rintro Dn σ H ⟨own,o,E,h,hr,L⟩;refine⟨λC' d' σ' Hx=>σ'=σ/\∃C d G ks us ts,C'=.ref C/\d'=some d/\Oi X.K D i j E o C ks ts/\Same H Hx/\(∀b,Ow own b->G b=none)/\Same G Hx/\G d=some (.xd (ks.zip us))/\bJ X.K G us ts,tQ.mk h hr λH0 v x q E0 r0=>?_,?_⟩
 .revert r0 q
  generalize frz x=t;intro q r0;cases t<;>try exact q.elim
  obtain⟨a,dx,xs,rfl,e,d,l,rx⟩:=r0.insI;obtain⟨⟨rfl,rfl⟩,q⟩:=q;refine⟨a,dx,_,rfl,(cL e).2,m7 hk,tQA.mk (h.same E0) q λH1 vs as q _ E1 r1=>?_⟩;have h1:=(h.same E0).same E1;have EH:∀{G:Hp},Same (hd (Ow own) H1) G->Same H1 (mrg (Ow own) H1 G):=λ{G}S b u e=>by
   by_cases z:Ow own b
   .rw[j6 z];exact e
   .rw[cB z];exact S b u ((b_ z).trans e)
  refine⟨Ow own,h1.hid,_,_,_,.cons (r0.same (bR E1)) r1,q,λG v x q S n ai=>?_,λG C d ks us bv z S e r' ai=>⟨rfl,C,d,G,ks,us,bv,rfl,rfl,z,E0.trans (E1.trans (EH S)),ai,λb u e=>?_,e,r'⟩⟩
  .exact L.nx own _ σ o q (bR (E0.trans (E1.trans (EH S)))) (h1.same (EH S))
  .rw[cB λz=>by rw[ai b z]at e;cases e];exact e
 .rintro _ _ σ' Hx ⟨rfl,C,d,G,ks,us,ts,rfl,rfl,⟨⟨io,l,mc⟩,q⟩,E1,ai,EG,ed,r'⟩;refine⟨C,rfl,mc,λa na=>?_⟩;obtain⟨ag,h',S'⟩:=h.caught E1 ai EG (C:=C) ed l r' na ij;exact⟨_,WZ (h.len ▸ io),L.nx ag _ _ _ q S' h'⟩
def abb(K:Frag)(cv:Value)(a:RE):RE:=λo q=>a o λx=>match frz x with|.exc C _ _=>rQ K C/\oT (kitOne K (.ref C) cv) λb=>q (.fz (.bl b))|_=>False
theorem U5{K:Frag}{own:zk}{o:List OT}{H:Hp}{σ:L2.St}{ra:RE}{cv:Value}{c:V}{R:OT->Prop}{Q:VK}(h:SR K own H σ o)(rc:(∃T,c=.ty T/\cv=Value.type T)\/∃D,c=.ref D/\cv=Value.ref D)(hr:abb K cv ra o R)(k:∀H' v x,R x->Same H H'->NR K (Ow own) H H' v x->Q v H'):tQ K ra σ H λv H1=>Zq K [v,c] H1 Q:=tQ.mk h hr λH1 v x q E1 r1=>by
 revert r1 q
 generalize frz x=t;intro q r1;cases t<;>try exact q.elim
 obtain⟨a,d,xs,rfl,e,_⟩:=r1.excI;obtain⟨hx,q⟩:=q;obtain⟨b,eb,q⟩:=CT q;exact⟨a,_,d,c,cv,b,rfl,(cL e).2,rc,hx,eb,k _ _ _ q E1 (NR.fz (.bl _))⟩
theorem lN{a:Expr}{ra:RE}{y:Str}{p p2 pos:Pos}{D:Addr}(ha:QE X a ra)(hm:X.mg "isinstance"=none)(ic:X.mg y=some (.ref D))(hg:Gl X "isinstance":=by rfl)(im:Gl X y:=by rfl)(iE:qk y:=by decide)
 (he:starEach (a::[.Name y p2]) X.env=(false,eval a X.env)::starEach [.Name y p2] X.env:=by rfl):QE X (.Call (.Name "isinstance" p) [a,.Name y p2] [] pos) (abb X.K (.ref D) ra) :=
 (xu Ga hg hm boot_isinstance (cW ha (cW (K7 im ic iE) jc) he) (by decide) (by decide) he).imp λσ H Q hP=>by obtain⟨own,o,R,h,hr,k⟩:=hP;exact U5 h (.inr ⟨D,rfl,rfl⟩) hr k
theorem W8{a:Expr}{ra:RE}{y:Str}{p p2 pos:Pos}{ty:String}(ha:QE X a ra)(hm:X.mg "isinstance"=none)(ic:X.mg y=none)(kC:bootBuiltins y=some (.type ty))(hg:Gl X "isinstance":=by rfl)(im:Gl X y:=by rfl)(eW:y≠"__name__":=by decide)(iE:qk y:=by decide)
 (he:starEach (a::[.Name y p2]) X.env=(false,eval a X.env)::starEach [.Name y p2] X.env:=by rfl):QE X (.Call (.Name "isinstance" p) [a,.Name y p2] [] pos) (abb X.K (.type ty) ra) :=
 (xu Ga hg hm boot_isinstance (cW ha (cW (Pg (v:=.ty ty) im ic kC rfl eW iE) jc) he) (by decide) (by decide) he).imp λσ H Q hP=>by obtain⟨own,o,R,h,hr,k⟩:=hP;exact U5 h (.inl ⟨ty,rfl,rfl⟩) hr k
def aeK(K:Frag)(f:Str)(a:RE):RE:=λo q=>a o λx=>match frz x with|.exc C ks ts=>(rQ K C/\hasDictIn K C=true/\bN K C f)/\oT (lkF ks ts f) λt=>q (.fz t)|_=>False
theorem GX{e:Expr}{re:RE}{f:Str}{pos:Pos}(he:QE X e re)(hb:qB X e f:=by rfl):QE X (.Attribute e f pos) (aeK X.K f re):=(X8 he hb).imp λσ H Q ⟨own,o,R,h,hr,k⟩=>tQ.mk h hr λH1 v x q E1 r1=>by
 revert r1 q
 generalize frz x=t;intro q r1;cases t<;>try exact q.elim
 obtain⟨a,d,xs,rfl,e,xd,l,r⟩:=r1.excI;obtain⟨⟨c1,c2,c3⟩,q⟩:=q;obtain⟨t,e6,q⟩:=CT q;obtain⟨v,e7,r7⟩:=(Ql r).1 t e6;cases d with
 |none =>
  rw[show _=[]from xd]at e7;cases e7
 |some d=>exact⟨a,_,d,_,v,rfl,(cL e).2,(cL xd).2,c1,c2,c3,e7,k H1 _ _ q E1 (NR.fz r7)⟩
end
section
variable{X:Cx}
theorem yN:∀{xs:Β}{us:Δ},xs.length=us.length->(∀(i:Nat)x u,xs[i]?=some x->us[i]?=some u->RelV x u)->Vals xs us
 |[],[],_,_=>.nil
 |x::xs,u::us,l,h=>.cons (h 0 x u rfl rfl) (yN (Nat.succ.inj l) λi y v e1 e2=>h (i+1) y v e1 e2)
 |[],_::_,l,_=>by cases l
 |_::_,[],l,_=>by cases l
theorem Ml(hc:X.calm=true):g_ X (.type "list") (λxs H Q=>∃a kvs,xs=[.ref a]/\Rd H a (.dK kvs)/\∀l,H l=none->Q (.ref l) (upd H l (.lst (kvs.map λp=>kV p.1)))):=by
 intro aa s σ H xs us Q I r h;obtain⟨a,kvs,rfl,ha,q⟩:=h;obtain⟨u,rfl,rx⟩:=vals1 r;cases rx;obtain⟨hz,hd,vs,rel,o,es,ep,e,ex,ed,ek,fe,en⟩:=yF I.hok ha;have hl:=rel.length;refine PySem.W.kdl_call (PySem.W.kdl_dict (knd:=fH X.prog X.w) (kvs:=vs) (ep:=ep) hd) (I.ok.hd hc) ⟨o,es,e,ex,ed,ek,fe,en⟩ (by lia) λh' tk acc c kp hS iO=>?_;have vl:Vals (kvs.map λp=>kV p.1) acc.toList:=yN (by have:=iO.1;simp only[ak,Array.length_toList];exact Eq.trans hl (Eq.symm this)) λi x v e1 e2=>by
  rw[aq]at e1;cases e3:kvs[i]? with
  |none=>rw[e3]at e1;cases e1
  |some p =>
   rw[e3]at e1;cases e1;obtain⟨k,y,e4,is⟩:=iO.2 i v (by rw[<- Array.getElem?_toList];exact e2);obtain⟨w',hw,_⟩:=rel.at (k:=p.1) (y:=p.2) e3;rw[hw]at e4;cases e4;exact Ti is
 exact⟨.ref s.heap.objs.size,_,I.laid (t':=tk) kp (aF _) (show dW X.prog X.w _ h' _ (.lst (kvs.map λp=>kV p.1))from⟨by rw[ak];exact hz,acc.toList,c,vl,by simpa using hS⟩),rfl,q _ (I.hok.fresh (aF _))⟩
def kyT:Key->T
 |.inl i=>.int i
 |.inr s=>.str s
theorem WW{K:Frag}{F:Hp} : ∀k:Key,Rep K F (kV k) (kyT k)
 |.inl i=>.int i
 |.inr s=>.str s
def abH:T->(OT->Prop)->Prop
 |.dct ks _,q=>q (.l1 (ks.map kyT))
 |_,_=>False
theorem VJ(hc:X.calm=true):GC X (.type "list") (g1 abH):=.one (Ml hc) λS t x H Q R rx hg k=>by
 cases t<;>try exact hg.elim
 obtain⟨a,xs,rfl,e,l,r⟩:=rx.dctI
 rename_i ks ts
 refine⟨a,_,rfl,Same.rd cj e,λb hb=>k _ _ _ hg (Same.upd hb) ?_⟩;have ez:((ks.zip xs).map λp=>kV p.1)=ks.map kV:=by
  rw[show(λp:Key×V=>kV p.1)=kV ∘ Prod.fst from rfl,<- XG,List.map_fst_zip (X9 l)]
 rw[ez];have rk:bJ X.K (hd S H) (ks.map kV) (ks.map kyT):=by
  clear e ez hg k l rx
  induction ks with
  |nil=>exact .nil
  |cons k ks ih=>exact .cons (WW k) ih
 exact oV rk (Same.upd hb) hb bQ
end
section
variable{K:Frag}{own:zk}{F H H':Hp}{σ:L2.St}{o:List OT}
theorem Ros.snoc{x:V}{w:OW}{B:Φ}(r:Ro K F H x w B){xs:Β}{ws:List OW}{A:Φ}(h:Ros K F H xs ws A):Ros K F H (xs++[x]) (ws++[w]) (A++B):=by
 cases h with
 |nil=>have:=Ros.cons r .nil;rwa[List.append_nil]at this
 |cons a t=>rw[XT];exact .cons a (Ros.snoc r t)
theorem Ros.len{xs:Β}{ws:List OW}{A:Φ}(h:Ros K F H xs ws A):xs.length=ws.length:=by
 cases h with
 |nil=>rfl
 |cons _ t=>exact ZH (· + 1) (Ros.len t)
theorem SR.ow(h:SR K own H σ o){i:Nat}{w:OW}(e:slot o i=.ow w):∃u,σ[i]?=some (some u)/\(own i).Nodup/\Ro K (hd (Ow own) H) H u w (own i):=by
 obtain⟨u,e1,_,e2,r⟩:=h.val e (by intro z;cases z);cases e2;exact⟨u,e1,r⟩
theorem SR.chgN(h:SR K own H σ o){i:Nat}{x:OT}(e:o[i]?=some x){y:OT}{A:Φ}(hA:∀b∈A,b∈own i\/H b=none)(E:∀b u,b∉own i->H b=some u->H' b=some u)(r:Slo K (hd (Ow (own1 own i A)) H') H' (σ[i]?.join) A y):SR K (own1 own i A) H' σ (o.set i y)/\Same (hd (Ow own) H) (hd (Ow (own1 own i A)) H'):=by
 have hi:i<o.length:=(ao.mp e).1;have le:Same (hd (Ow own) H) (hd (Ow (own1 own i A)) H'):=λb u z=>by
  obtain⟨n,z⟩:=cL z;rw[b_ λq=>q.of1.elim n λq=>(hA b q).elim (λq=>n ⟨i,q⟩) λq=>by rw[q]at z;cases z];exact E b u (λq=>n ⟨i,q⟩) z
 refine⟨⟨by rw[X2,h.len],λj z e'=>?_,λj hj a ha=>?_,λj k a e1 e2=>?_⟩,le⟩
 .by_cases q:j=i
  .subst q;rw[WZ hi]at e';cases e';rw[fJ];exact r
  .rw[Wp (Ne.symm q)]at e';rw[cY q];exact((h.sl j z e').same le λ_ _ z=>z).off λb hb u=>E b u λz=>q (h.dis j i b hb z)
 .rw[X2]at hj;rw[cY (by omega)]at ha;obtain⟨xs,e2⟩:=h.out j hj a ha;exact⟨xs,E a _ (λz=>by have:=h.dis j i a ha z;lia) e2⟩
 .have go:∀{k},k≠i->a∈A->a∈own k->False:=λn z y=>(hA a z).elim (λz=>n (h.dis _ _ a y z)) λz=>(h.sole ⟨_,y⟩).ne z;by_cases z:j=i<;>by_cases y:k=i
  .rw[z,y]
  .rw[z,fJ]at e1;rw[cY y]at e2;exact(go y e1 e2).elim
  .rw[y,fJ]at e2;rw[cY z]at e1;exact(go z e2 e1).elim
  .rw[cY z]at e1;rw[cY y]at e2;exact h.dis j k a e1 e2
end
section
variable{X:Cx}{e e1 e2:Expr}{re ra rb:RE}{p pos:Pos}
def onW(x:OT)(q:OW->Prop):Prop:=match x with|.ow w=>q w|_=>False
theorem M4{x:OT}{q:OW->Prop}(h:onW x q):∃w,x=.ow w/\q w:=by
 cases x<;>first|exact⟨_,rfl,h⟩|exact h.elim
def ad1(i:Nat)(a:RE):RS:=λE o=>onW (slot o i) λw=>match w with
 |.lst ws=>ws.length<sizeLine/\a o λx=>onW x λv=>E.nx (o.set i (.ow (.lst (ws++[v]))))
 |_=>False
theorem Ob(i:Nat){x:Str}{ac ae p:Pos}(he:QE X e re)(hN:X.N[i]?=some x:=by rfl)(hv:o9 X.env.scope x=true:=by rfl)(bg:qk x:=by decide)(a6:qf x:=by decide)
 (hb:attributeBase (.Name x p) "append" X.env (eval (.Name x p) X.env)=eval (.Name x p) X.env:=by rfl)
 (hf:qr X ae e:=by rfl)
 (hl:zw ac ae:=by rfl)(az:qo X e []:=by rfl)(hp:qh X ae []:=by rfl)
 (hs:swapsWith (.Call (.Attribute (.Name x p) "append" ac) [e] [] ae) none pos.line X.env=pure false:=by rfl) :
  QS X (.Expr (.Call (.Attribute (.Name x p) "append" ac) [e] [] ae) pos) (ad1 i re):=(jk (Gp (pv i hN hv bg a6) (cW he jc az) hb hf hl az hp) hs).imp λD σ H hP=>by
 obtain⟨own,o,E,h,hr,L⟩:=hP;obtain⟨w,es,hr⟩:=M4 hr;cases w with
 |lst ws =>
  obtain⟨u,e1,nd,r⟩:=h.ow es;generalize eA:own i=A at nd r;cases r with
  |@lst a xs _ A e4 r =>
   refine⟨_,e1,a,_,rfl,e4,own,o,_,h,hr.2,λH1 v x q E1 n=>?_⟩;obtain⟨w2,rfl,q⟩:=M4 q;obtain⟨B,nb,_,eu,nd2,r2⟩:=n;cases eu;refine⟨v,xs,rfl,E1 _ _ e4,by rw[r.len];exact hr.1,?_⟩;have lo:a∈own i:=by rw[eA];simp
   have nB:∀{b},b∈B->∀j,b∉own j:=λz j y=>(h.sole ⟨j,y⟩).ne (nb _ z);have Owi:∀b,Ow (own1 own i (a::(A++B))) b->Ow own b\/b∈B:=λb z=>z.of1.elim .inl λz=>by
    rcases YU.mp z with rfl|z
    .exact .inl ⟨i,lo⟩
    .exact(Y1.mp z).imp (λz=>⟨i,by rw[eA];exact aH _ z⟩) id
   have na:∀{b},b∈A->b≠a:=λz y=>(List.nodup_cons.mp nd).1 (y ▸ z);have nab:∀{b},b∈B->b≠a:=λz y=>nB z i (y ▸ lo);have keep:∀{H0:Hp}{S:Addr->Prop},S a->Same H0 H1->(∀b,Ow own b\/b∈B->S b\/H0 b=none)->Same (hd S H0) (hd (Ow (own1 own i (a::(A++B)))) (upd H1 a (.lst (xs++[v])))):=λ{H0 S}sa E0 n0 b u z=>by
    obtain⟨nb',z⟩:=cL z;rw[b_ λy=>(n0 b (Owi b y)).elim nb' λy=>(by rw[y]at z;cases z),bM λy=>nb' (by rw[y];exact sa)];exact E0 _ _ z
   have c1:∀b∈a::(A++B),b∈own i\/H b=none:=λb z=>by
    rcases YU.mp z with rfl|z
    .exact .inl lo
    .exact(Y1.mp z).imp (λz=>by rw[eA];exact aH _ z) (nb b)
   have c2:(a::(A++B)).Nodup:=List.nodup_cons.mpr ⟨λz=>(Y1.mp z).elim (λz=>na z rfl) λz=>nab z rfl,List.nodup_append.mpr ⟨(List.nodup_cons.mp nd).2,nd2,λb hb c hc z=>nB hc i (by rw[<- z,eA];exact aH _ hb)⟩⟩;have rr:Ros X.K (hd (Ow (own1 own i (a::(A++B)))) (upd H1 a (.lst (xs++[v])))) (upd H1 a (.lst (xs++[v]))) (xs++[v]) (ws++[w2]) (A++B):=Ros.snoc (r2.mv (keep (S:=λb=>Ow own b\/b∈B) (.inl ⟨i,lo⟩) (.refl _) λb z=>.inl z) λb hb u e=>(bM (nab hb)).trans e) (r.mv (keep ⟨i,lo⟩ E1 λb z=>z.imp id (nb b)) λb hb u e=>(bM (na hb)).trans (E1 _ _ e));obtain⟨h',S⟩:=h.chgN (iC es (by intro z;cases z)) (y:=.ow (.lst (ws++[w2]))) (A:=a::(A++B)) (H':=upd H1 a (.lst (xs++[v]))) c1 (λb u hb e=>(bM λz=>hb (by rw[z];exact lo)).trans (E1 _ _ e)) (by rw[e1];exact⟨_,rfl,c2,.lst bQ rr⟩);exact L.nx _ _ σ _ q S h'
 |_=>exact hr.elim
end
section
variable{X:Cx}
def aeY:ST:=λts q=>match ts with|[.int a,.int b]=>q (.fz (.int (if a<b then b else a)))|_=>False
theorem YG(hc:X.calm=true):GC X (.builtin "max") aeY:=(Rg hc).imp λxs H Q hP=>by
 obtain⟨S,ts,R,_,rs,hg,k⟩:=hP
 match ts,hg with
 |[.int a,.int b],hg =>
  cases rs with
  |cons r1 rs=>cases rs with
   |cons r2 rs =>
    cases rs;cases r1;cases r2;exact⟨a,b,rfl,k H _ _ hg (.refl _) (NR.fz (.int _))⟩
end
def ice(S:Addr->Prop)(ob:Addr->Obj)(H:Hp):Hp:=λb=>open Classical in if S b then(H b).map (HO.frz (ob b))else H b
theorem mR{S:Addr->Prop}{ob:Addr->Obj}{H:Hp}{b:Addr}{u:HO}(h:S b)(e:H b=some u):ice S ob H b=some (.frz (ob b) u):=by unfold ice;rw[ZY h,e];rfl
theorem jj{S:Addr->Prop}{ob:Addr->Obj}{H:Hp}{b:Addr}(h:¬S b):ice S ob H b=H b:=by unfold ice;rw[ZZ h]
def wZ(H:Hp)(S:Addr->Prop):Prop:=∀b,S b->∃xs,H b=some (.lst xs)
def spF(sp:Sp):Sp:=λvs H Q _=>∃S:Addr->Prop,wZ H S/\∀ob:Addr->Obj,sp vs (ice S ob H) (λv G=>(∀b,S b->G b=ice S ob H b)->Q v (mrg S H G)) λ_ _ _=>False
section
variable{P:Program}{w:World}{K:Frag}{mg:Str->Ψ}{base:Heap}
theorem dO.iced{k:Nat}{f:Addr}{fd:FuncData}{ps:Θ}{sp:Sp}(F:dO P w K mg base CX0 k f fd ps sp):dO P w K mg base CX0 k f fd ps (spF sp):=by
 refine⟨λvs H Q E h=>?_,λA outer s H args us vs Q E hr e0 hb r h=>?_⟩
 .obtain⟨S,_,z⟩:=h;exact F.len vs _ _ _ (z λ_=>⟨.none,none,.fields ⟨[]⟩,⟨[]⟩⟩)
 obtain⟨S,hS,z⟩:=h
 let ob:Addr->Obj:=λb=>(s.heap.get? b).getD ⟨.none,none,.fields ⟨[]⟩,⟨[]⟩⟩
 have kH:∀{b:Addr}{o:Obj},s.heap.get? b=some o->ob b=o:=λ{b o}e=>by show(s.heap.get? b).getD _=o;rw[e];rfl
 have non:∀{b:Addr},H b=none->ice S ob H b=none:=λ{b}e=>by
  by_cases z:S b
  .obtain⟨xs,q⟩:=hS b z;rw[e]at q;cases q
  .rw[jj z];exact e
 have gy:∀{b:Addr}{u:HO},H b=some u->(∀xs,u≠.lst xs)->ice S ob H b=some u:=λ{b u}e n=>by
  by_cases z:S b
  .obtain⟨xs,q⟩:=hS b z;rw[e]at q;cases q;exact absurd rfl (n xs)
  .rw[jj z];exact e
 have e1:DW P w K mg base A outer s (ice S ob H):=⟨e0.frames,e0.mod,λb o e=>⟨(e0.bs b o e).1,non (e0.bs b o e).2⟩,e0.bsz,e0.funs,λb hb=>non (e0.frf b hb),λb u e=>by
  by_cases y:S b
  .obtain⟨xs,q⟩:=hS b y;rw[mR y q]at e;cases e;have x:=e0.hok b _ q;obtain⟨_,_,_,_,e2⟩:=id x;refine⟨by rw[kH e2];exact e2,x.stay (λ_ _ _ z=>z) (λd z=>gy z λ_ z=>(nomatch z)) λd xs z=>gy z λ_ z=>(nomatch z)⟩
  .rw[jj y]at e;exact(e0.hok b u e).stay (λ_ _ _ z=>z) (λd z=>gy z λ_ z=>(nomatch z)) λd xs z=>gy z λ_ z=>(nomatch z),e0.bare⟩
 refine codeAny_mono (F.run A outer s (ice S ob H) args us vs _ _ hr e1 hb r (z ob)) λres s' hs=>?_;cases res with
 |error e=>exact hs.elim
 |ok fl =>
  cases fl with
  |next=>exact False.elim hs
  |brk=>exact False.elim hs
  |cont=>exact False.elim hs
  |ret u =>
   obtain⟨v,G,os,bare,un,hok,rv,q⟩:=hs;have fz:∀b,S b->G b=ice S ob H b:=λb y=>by
    obtain⟨xs,e⟩:=hS b y;rw[mR y e];exact un.frzs b _ _ (mR y e)
   have j1:∀{b:Addr}{u:HO},G b=some u->(∀o v,u≠.frz o v)->mrg S H G b=some u:=λ{b u}e n=>by
    refine(cB λy=>?_).trans e;obtain⟨xs,e'⟩:=hS b y;rw[fz b y,mR y e']at e;cases e;exact n _ _ rfl
   have fx:∀{b:Addr}{u:HO},H b=some u->(∀xs,u≠.lst xs)->¬S b:=λ{b u}e n y=>by
    obtain⟨xs,q⟩:=hS b y;rw[e]at q;cases q;exact n xs rfl
   refine⟨v,mrg S H G,os,bare,⟨λb o e n=>un.keep b o e (non n),λb o e n=>un.slot b o e (non n),λb o e n z=>?_,un.there,λb xs e=>?_,λb o u e=>?_,λb ps e=>?_⟩,λb u e=>?_,rv,q fz⟩
   .rw[cB λy=>by obtain⟨xs,q⟩:=hS b y;rw[n]at q;cases q];exact un.free b o e (non n) z
   .rw[cB (fx e λ_ z=>(nomatch z))];exact un.tups b xs (gy e λ_ z=>(nomatch z))
   .rw[cB (fx e λ_ z=>(nomatch z))];exact un.frzs b o u (gy e λ_ z=>(nomatch z))
   .obtain⟨more,this⟩:=un.tbls b ps (gy e λ_ z=>(nomatch z));exact⟨more,by rw[cB (fx e λ_ z=>(nomatch z))];exact this⟩
   .by_cases y:S b
    .rw[j6 y]at e;obtain⟨xs,q⟩:=hS b y;rw[q]at e;cases e;have x:=hok b _ ((fz b y).trans (mR y q));exact x.2.stay (λ_ _ _ z=>z) (λd z=>j1 z λ_ _ z=>(nomatch z)) λd xs z=>j1 z λ_ _ z=>(nomatch z)
    .rw[cB y]at e;exact(hok b u e).stay (λ_ _ _ z=>z) (λd z=>j1 z λ_ _ z=>(nomatch z)) λd xs z=>j1 z λ_ _ z=>(nomatch z)
end
theorem OkI.iced{P:Program}{w:World}{K:Frag}{mg:Str->Ψ}{base:Heap}{k:Nat}{fa:Addr}{ps:Θ}{sp:Sp}(G:OkI P w K mg base CX0 k fa ps sp):OkI P w K mg base CX0 k fa ps (spF sp):=by obtain⟨fd,F,b⟩:=G;exact⟨fd,F.iced,b⟩
mutual
def icW:OW->T
 |.fz t=>t
 |.lst ws=>.scr (yO ws)
 |.tup ws=>.tup (yO ws)
def yO:List OW->List T
 |[]=>[]
 |w::ws=>icW w::yO ws
end
mutual
def icT:T->T
 |.lst ts=>.scr (t_ ts)
 |.scr ts=>.scr (t_ ts)
 |.tup ts=>.tup (t_ ts)
 |.dct ks ts=>.dct ks (t_ ts)
 |.ins C ks ts=>.ins C ks (t_ ts)
 |.exc C ks ts=>.exc C ks (t_ ts)
 |t=>t
def t_:List T->List T
 |[]=>[]
 |t::ts=>icT t::t_ ts
end
mutual
def nsT:T->Bool
 |.lst ts=>mC ts
 |.scr _=>false
 |.tup ts=>mC ts
 |.dct _ ts=>mC ts
 |.ins _ _ ts=>mC ts
 |.exc _ _ ts=>mC ts
 |_=>true
def mC:List T->Bool
 |[]=>true
 |t::ts=>nsT t&&mC ts
end
section
variable{K:Frag}{H G F:Hp}{S:Addr->Prop}{ob:Addr->Obj}
theorem A_:Same (hd S H) (ice S ob H):=λb u e=>by
 obtain⟨n,e⟩:=cL e;rw[jj n];exact e
mutual
theorem Ro.iced(L:wZ H S):∀{v:V}{w:OW}{A:Φ},(∀b∈A,S b)->Ro K (hd S H) H v w A->Rep K (ice S ob H) v (icW w)
 |_,_,_,_,.fz r=>by unfold icW;exact r.same A_
 |_,_,_,h,.lst e r=>by unfold icW;exact .scr (.inl (.inr ⟨_,mR (h _ (aO ..)) e⟩)) (Ros.iced L (λb m=>h b (aH _ m)) r)
 |_,_,_,h,.tup e r=>by unfold icW;exact .tup (.inl (.of (A_ _ _ e))) (Ros.iced L h r)
theorem Ros.iced(L:wZ H S):∀{vs:Β}{ws:List OW}{A:Φ},(∀b∈A,S b)->Ros K (hd S H) H vs ws A->bJ K (ice S ob H) vs (yO ws)
 |_,_,_,_,.nil=>by unfold yO;exact .nil
 |_,_,_,h,.cons a b=>by unfold yO;exact .cons (Ro.iced L (λb m=>h b (VX _ m)) a) (Ros.iced L (λb m=>h b (aP _ m)) b)
end
def isL(H:Hp):Addr->Prop:=λb=>∃xs,H b=some (.lst xs)
theorem KC:wZ H (isL H):=λ_ h=>h
theorem pK{b:Addr}{u:HO}(e:H b=some u)(n:∀xs,u≠.lst xs):ice (isL H) ob H b=some u:=by
 rw[jj λ⟨xs,q⟩=>by rw[e]at q;cases q;exact n xs rfl];exact e
theorem T9{a:Addr}{xs:Β}(S:Same F H)(h:SqL K F a xs):SqL K (ice (isL H) ob H) a xs:=by
 rcases h with(h|⟨o,h⟩)|h
 .exact .inl (.inr ⟨_,mR ⟨xs,S _ _ h⟩ (S _ _ h)⟩)
 .exact .inl (.inr ⟨o,pK (S _ _ h) λ_ z=>(nomatch z)⟩)
 .exact .inr h
theorem aal{a:Addr}{xs:Β}(S:Same F H)(h:SqT K F a xs):SqT K (ice (isL H) ob H) a xs:=by
 rcases h with(h|⟨o,h⟩)|h
 .exact .inl (.inl (pK (S _ _ h) λ_ z=>(nomatch z)))
 .exact .inl (.inr ⟨o,pK (S _ _ h) λ_ z=>(nomatch z)⟩)
 .exact .inr h
mutual
theorem Rep.ice(S:Same F H):∀{v:V}{t:T},Rep K F v t->Rep K (L2.ice (isL H) ob H) v (icT t)
 |_,_,.any v=>by unfold icT;exact .any v
 |_,_,.non=>by unfold icT;exact .non
 |_,_,.bl b=>by unfold icT;exact .bl b
 |_,_,.int i=>by unfold icT;exact .int i
 |_,_,.str s=>by unfold icT;exact .str s
 |_,_,.val v=>by unfold icT;exact .val v
 |_,_,.tup e r=>by unfold icT;exact .tup (aal S e) (bJ.ice S r)
 |_,_,.lst e r=>by unfold icT;exact .scr (T9 S (.inl (.inl e))) (bJ.ice S r)
 |_,_,.scr e r=>by unfold icT;exact .scr (T9 S e) (bJ.ice S r)
 |_,_,.dct e l r=>by
  unfold icT;refine .dct ?_ l (bJ.ice S r);rcases e with e|⟨o,e⟩
  .exact .inl (pK (S _ _ e) λ_ z=>(nomatch z))
  .exact .inr ⟨o,pK (S _ _ e) λ_ z=>(nomatch z)⟩
 |_,_,.ins e d l r=>by unfold icT;exact .ins (pK (S _ _ e) λ_ z=>(nomatch z)) (pK (S _ _ d) λ_ z=>(nomatch z)) l (bJ.ice S r)
 |_,_,.exc (d:=d) e x l r=>by
  unfold icT;refine .exc (d:=d) (pK (S _ _ e) λ_ z=>(nomatch z)) ?_ l (bJ.ice S r);cases d with
  |none=>exact x
  |some d=>exact pK (S _ _ x) λ_ z=>(nomatch z)
theorem bJ.ice(S:Same F H):∀{vs:Β}{ts:List T},bJ K F vs ts->bJ K (L2.ice (isL H) ob H) vs (t_ ts)
 |_,_,.nil=>by unfold t_;exact .nil
 |_,_,.cons a b=>by unfold t_;exact .cons (Rep.ice S a) (bJ.ice S b)
end
theorem lQ(L:wZ H S)(fz:∀b,S b->G b=ice S ob H b){b:Addr}{u:HO}(e:G b=some u)(n:∀o xs,u≠.frz o (.lst xs)):hd S (mrg S H G) b=some u:=by
 have ns:¬S b:=λy=>by
  obtain⟨xs,q⟩:=L b y;rw[fz b y,mR y q]at e;cases e;exact n _ _ rfl
 rw[b_ ns,cB ns];exact e
mutual
theorem Rep.thaw(L:wZ H S)(fz:∀b,S b->G b=L2.ice S ob H b):∀{v:V}{t:T},nsT t=true->Rep K G v t->Rep K (hd S (mrg S H G)) v t
 |_,_,_,.any v=>.any v
 |_,_,_,.non=>.non
 |_,_,_,.bl b=>.bl b
 |_,_,_,.int i=>.int i
 |_,_,_,.str s=>.str s
 |_,_,_,.val v=>.val v
 |_,_,n,.tup e r=>by
  unfold nsT at n;refine .tup ?_ (bJ.thaw L fz n r);rcases e with(e|⟨o,e⟩)|e
  .exact .inl (.inl (lQ L fz e λ_ _ z=>(nomatch z)))
  .exact .inl (.inr ⟨o,lQ L fz e λ_ _ z=>(nomatch z)⟩)
  .exact .inr e
 |_,_,n,.lst e r=>by unfold nsT at n;exact .lst (lQ L fz e λ_ _ z=>(nomatch z)) (bJ.thaw L fz n r)
 |_,_,n,.scr e r=>by unfold nsT at n;cases n
 |_,_,n,.dct e l r=>by
  unfold nsT at n;refine .dct ?_ l (bJ.thaw L fz n r);rcases e with e|⟨o,e⟩
  .exact .inl (lQ L fz e λ_ _ z=>(nomatch z))
  .exact .inr ⟨o,lQ L fz e λ_ _ z=>(nomatch z)⟩
 |_,_,n,.ins e d l r=>by unfold nsT at n;exact .ins (lQ L fz e λ_ _ z=>(nomatch z)) (lQ L fz d λ_ _ z=>(nomatch z)) l (bJ.thaw L fz n r)
 |_,_,n,.exc (d:=d) e x l r=>by
  unfold nsT at n;refine .exc (d:=d) (lQ L fz e λ_ _ z=>(nomatch z)) ?_ l (bJ.thaw L fz n r);cases d with
  |none=>exact x
  |some d=>exact lQ L fz x λ_ _ z=>(nomatch z)
theorem bJ.thaw(L:wZ H S)(fz:∀b,S b->G b=L2.ice S ob H b):∀{vs:Β}{ts:List T},mC ts=true->bJ K G vs ts->bJ K (hd S (mrg S H G)) vs ts
 |_,_,_,.nil=>.nil
 |_,_,n,.cons a b=>by
  unfold mC at n;obtain⟨n1,n2⟩:=Bool.and_eq_true_iff.mp n;exact .cons (Rep.thaw L fz n1 a) (bJ.thaw L fz n2 b)
end
end
def agB(a:RE):RI:=λo q=>a o λx=>match frz x with|.lst ts=>q ts|.scr ts=>q ts|_=>False
section
variable{X:Cx}{tg:Expr}{e e1 e2:Expr}{re ra rb:RE}{pos p:Pos}
theorem mQ(he:QE X e re):QI X tg e (agB re):=(zB he).imp λσ H Q ⟨own,o,R,h,hr,k⟩=>tQ.mk h hr λH1 v x q E1 r1=>by
 have bt:∀{a:Addr}{xs:Β}{ts:List T},SqL X.K (hd (Ow own) H1) a xs->bJ X.K (hd (Ow own) H1) xs ts->R ts->(∃a',V.ref a=.ref a'/\(∃xs,SqL X.K H1 a' xs)/\Q (Itl X.K a') H1):=λ{a xs ts}e r q=>by
  have up:∀{F F':Hp},Same F F'->SqL X.K F a xs->SqL X.K F' a xs:=λS e=>by
   rcases e with(e|⟨o,e⟩)|e
   .exact .inl (.inl (S _ _ e))
   .exact .inl (.inr ⟨o,S _ _ e⟩)
   .exact .inr e
  refine⟨a,rfl,⟨xs,up cj e⟩,k H1 _ _ q E1 λS H2 i _ SF=>⟨λhi=>⟨xs,up (SF.trans cj) e,by rw[r.len];exact X9 hi.symm⟩,λt ht=>?_⟩⟩;obtain⟨y,ey,ry⟩:=r.at_ ht;refine⟨⟨xs,y,up (SF.trans cj) e,ey⟩,?_⟩;rintro x H3 ⟨rfl,hx⟩;have:=hx xs (up (SF.trans cj) e);rw[ey]at this;cases this;exact⟨.refl _,ry.same SF⟩
 revert r1 q
 generalize frz x=t;intro q r1;cases t<;>try exact q.elim
 .obtain⟨a,xs,rfl,e,r⟩:=r1.lstI;exact bt (.inl (.inl e)) r q
 .obtain⟨a,xs,rfl,e,r⟩:=r1.scrI;exact bt e r q
def Z4:T->(OT->Prop)->Prop
 |.lst ts,q=>q (.l1 ts)
 |.scr ts,q=>q (.l1 ts)
 |_,_=>False
theorem Ak{X:Cx} : GC X (.type "list") (g1 Z4):=.one vZ λS t x H Q R rx hg k=>by
 cases t<;>try exact hg.elim
 .obtain⟨p,xs,rfl,e,r⟩:=rx.lstI;exact⟨p,xs,rfl,.inl (.inl (.inl (cL e).2)),λa ha=>k _ _ _ hg (Same.upd ha) (oV r (Same.upd ha) ha bQ)⟩
 .obtain⟨p,xs,rfl,e,r⟩:=rx.scrI;exact⟨p,xs,rfl,.inl (cj.seq e),λa ha=>k _ _ _ hg (Same.upd ha) (oV r (Same.upd ha) ha bQ)⟩
theorem Ros.fzs{K:Frag}{F H:Hp} : ∀{xs:Β}{ts:List T},bJ K F xs ts->Ros K F H xs (ts.map .fz) []
 |_,_,.nil=>.nil
 |_,_,.cons a b=>.cons (.fz a) (Ros.fzs b)
def abp(a b:RE):RE:=λo q=>a o λx=>b o λy=>match y with|.l1 ts=>q (.ow (.tup [.fz (frz x),.lst (ts.map .fz)]))|_=>False
theorem Kl{x1}(ha:QE X e1 ra)(hb:QE X e2 rb)(gc:starEach [e1,e2] X.env=(false,eval e1 X.env)::starEach [e2] X.env:=by rfl)(cr:qo X e2 []:=by rfl):QE X (.Tuple [e1,e2] x1 pos) (abp ra rb) :=
 (Mz (cW ha (cW hb jc cr) gc)).imp λσ H Q ⟨own,o,R,h,hr,k⟩=>⟨own,o,_,h,hr,λH1 v x q E1 n1=>by
  have r1:=n1.rep λb z=>(h.sole z).ne;refine⟨own,o,_,h.same E1,q,λH2 v2 y q E2 n2=>?_⟩;cases y<;>try exact q.elim
  obtain⟨B,nb,a,xs,e,rfl,ea,r2⟩:=n2;cases e;refine⟨(show 2<=sizeLine by decide),λp hp=>k _ (.ref p) _ q (E1.trans (E2.trans (Same.upd hp))) ⟨[a],λb hb=>?_,_,rfl,by simp,?_⟩⟩
  .exact E1.free (nb b hb)
  .have ap:a≠p:=λz=>by rw[z,hp]at ea;cases ea
   have S:Same H2 (upd H2 p (.tup [v,.ref a])):=Same.upd hp;have np:¬(Ow own p\/p∈[a]):=λz=>by
    rcases z with z|z
    .exact(h.sole z).ne (E1.free (E2.free hp))
    .exact ap (YR.mp z).symm
   have n1:∀b,Ow own b\/b∈[a]->Ow own b\/H1 b=none:=λb z=>z.imp id (nb b);exact .tup ((b_ np).trans bQ) (.cons (.fz (r1.same (jz n1 (E2.trans S)))) (.cons (.lst (S _ _ ea) (Ros.fzs (r2.same (bR S)))) .nil))⟩
def agw(a:RE):RE:=λo q=>a o λx=>match x with|.l1 ts=>q (.ow (.lst (ts.map .fz)))|_=>False
theorem aai(he:QE X e re):QE X e (agw re):=PE.imp he λσ H Q ⟨own,o,R,h,hr,k⟩=>⟨own,o,_,h,hr,λH1 v x q E1 n1=>by
 cases x<;>try exact q.elim
 obtain⟨B,nb,a,xs,e,rfl,ea,r⟩:=n1;exact k _ _ _ q E1 ⟨[a],nb,v,rfl,by simp,by cases e;exact .lst ea (Ros.fzs r)⟩⟩
def Y6:OT->Bool
 |.und=>true
 |.fz _=>true
 |.l1 _=>true
 |.l2 _=>true
 |.la _ _=>true
 |.ow _=>true
 |_=>false
theorem SR.lsts{K:Frag}{own:zk}{H:Hp}{σ:L2.St}{o:List OT}(h:SR K own H σ o)(a:o.all Y6=true):wZ H (Ow own):=λb hP=>by
 obtain⟨j,z⟩:=hP;by_cases hj:j<o.length
 .have s:=h.sl j _ (aj hj);have l:=List.all_eq_true.mp a _ (aU hj);cases y:o[j]with
  |und=>rw[y]at s;rw[show own j=[]from s]at z;cases z
  |fz t=>rw[y]at s;rw[s.1]at z;cases z
  |l1 ts=>rw[y]at s;obtain⟨c,xs,_,w,q,_⟩:=s;rw[w]at z;cases YR.mp z;exact⟨_,q⟩
  |l2 c6 =>
   rw[y]at s;obtain⟨c,bs,_,w1,_,q1,l,r⟩:=s;rw[w1]at z;rcases YU.mp z with z|z
   .exact⟨_,z ▸ q1⟩
   .obtain⟨i,hi⟩:=aV z;obtain⟨xs,q2,_⟩:=r i b _ hi (aj (l ▸ (ao.mp hi).1));exact⟨_,q2⟩
  |la c ts=>rw[y]at s;obtain⟨xs,_,w,q,_⟩:=s;rw[w]at z;cases YR.mp z;exact⟨_,q⟩
  |ow w=>rw[y]at s;obtain⟨u,_,_,r⟩:=s;exact r.isl b z
  |_=>rw[y]at l;cases l
 .exact h.out j (Nat.not_lt.mp hj) b z
def abC(j i:Nat)(C:Addr)(S:SI):RE:=λo q=>o.all Y6=true/\match slot o j with|.fz t=>onW (slot o i) λw=>S C [] [] [t,icW w] λks ts=>mC ts=true/\q (.fz (.ins C ks ts))|_=>False
theorem Uy(j i:Nat){x y z:Str}{p p1 p2:Pos}{k:Nat}{fa C:Addr}{ps:Θ}{S:SI}(M:Mk X.K C fa)(G:zb X CX0 k fa ps (spI X.K S))(hr:dg (k+1) X.A)(hg:Gl X x)(hm:X.mg x=some (.ref C))
 (hNj:X.N[j]?=some y:=by rfl)(hvj:o9 X.env.scope y=true:=by rfl)(hdj:qk y:=by decide)(hcj:qf y:=by decide)
 (hNi:X.N[i]?=some z:=by rfl)(hvi:o9 X.env.scope z=true:=by rfl)(k9:qk z:=by decide)(hci:qf z:=by decide)(a8:qk x:=by decide)
 (gc:starEach [.Name y p1,.Name z p2] X.env=(false,eval (.Name y p1) X.env)::starEach [.Name z p2] X.env:=by rfl)(cr:starEach [.Name z p2] X.env=(false,eval (.Name z p2) X.env)::starEach [] X.env:=by rfl)(aw:(backTo pos (starEach [.Name z p2] X.env)).any (·.1)=false:=by rfl) :
  QE X (.Call (.Name x p) [.Name y p1,.Name z p2] [] pos) (abC j i C S):=(K9 M (OkI.iced G) hr hg hm (cW (pv j hNj hvj hdj hcj) (cW (pv i hNi hvi k9 hci) jc cr) gc) a8 gc aw).imp λσ H Q hP=>by
 obtain⟨own,o,R,h,hr,k⟩:=hP;obtain⟨al,hr⟩:=hr;cases ej:slot o j with
 |fz t =>
  rw[ej]at hr;obtain⟨w,ei,hS⟩:=M4 hr;obtain⟨u1,e1,r1⟩:=h.get (iC ej (by intro z;cases z));obtain⟨u2,e2,nd,r2⟩:=h.ow ei;have L:=h.lsts al;refine⟨u1,e1,u2,e2,λa dx na nd' ne=>⟨Ow own,?_,λob=>?_⟩⟩
  all_goals have E2:Same H (upd (upd H dx (.own a)) a (.ins C dx [])):=(Same.upd nd').trans (Same.upd ((bM (Ne.symm ne)).trans na))
  .intro b hb;obtain⟨xs,e⟩:=L b hb;exact⟨xs,E2 _ _ e⟩
  have oa:¬Ow own a:=λz=>by obtain⟨xs,e⟩:=L a z;rw[na]at e;cases e
  have od:¬Ow own dx:=λz=>by obtain⟨xs,e⟩:=L dx z;rw[nd']at e;cases e
  have L2':wZ (upd (upd H dx (.own a)) a (.ins C dx [])) (Ow own):=λb hb=>by
   obtain⟨xs,e⟩:=L b hb;exact⟨xs,E2 _ _ e⟩
  have up:Same (ice (Ow own) ob H) (hd (Slf a dx) (ice (Ow own) ob (upd (upd H dx (.own a)) a (.ins C dx [])))):=λb u e=>by
   by_cases z:Ow own b
   .obtain⟨xs,eb⟩:=L b z;rw[mR z eb]at e;cases e;rw[b_ λy=>by rcases y with rfl|rfl;exact oa z;exact od z];exact mR z (E2 _ _ eb)
   .rw[jj z]at e;rw[b_ λy=>by rcases y with rfl|rfl<;>rw[e]at *<;>contradiction,jj z];exact E2 _ _ e
  refine⟨a,dx,C,[],[],[],[u1,u2],[t,icW w],_,rfl,(jj oa).trans bQ,(jj od).trans ((bM ne).trans bQ),rfl,.nil,.cons ((r1.same A_).same up) (.cons ((Ro.iced L (λb m=>⟨i,m⟩) r2).same up) .nil),hS,λG ck dc bv rx E ea ed l r fz=>⟨rfl,?_⟩⟩;refine k _ _ _ rx.2 (λb u e=>?_) (NR.fz (.ins (dx:=dx) (ks:=ck) (xs:=dc) ?_ ?_ l (bJ.thaw L2' fz rx.1 (r.same cj))))
  .by_cases z:Ow own b
   .rw[j6 z];exact E2 _ _ e
   .rw[cB z];have n2:¬Slf a dx b:=λz=>by rcases z with rfl|rfl<;>rw[e]at *<;>contradiction
    exact(cL (E b u ((b_ n2).trans ((jj z).trans (E2 _ _ e))))).2
  .rw[b_ oa,cB oa];exact ea
  .rw[b_ od,cB od];exact ed
 |_=>rw[ej]at hr;exact hr.elim
end
end L2
namespace Ac
def lw(t b:Int):Int×Int:=(t/(Int.gcd t b:Nat),b/(Int.gcd t b:Nat))
section
variable{κ:Type}[DecidableEq κ]
def look(acc:List (κ×Int))(r:κ):Int:=((acc.find? λg=>decide (g.1=r)).map (·.2)).getD 0
def put(acc:List (κ×Int))(r:κ)(y:Int):List (κ×Int):=if(acc.any λg=>decide (g.1=r))=true then acc.map (λg=>if g.1=r then(g.1,y)else g)else acc++[(r,y)]
def agH(gs:List (κ×Int)):List (κ×Int):=gs.foldl (λa g=>put a g.1 (look a g.1+g.2)) []
def ways(gs:List (κ×Int))(S:Int):List (κ×Int×Int):=((agH gs).filter λg=>decide (0<g.2)).map λg=>(g.1,lw g.2 S)
end
end Ac
namespace Rw
open Ac
def rep(r:List Int×Int):List (Int×Int):=r.1.map λt=>lw t r.2
def sz(f:Nat->Int):Nat->Int
 |0=>0
 |n+1=>sz f n+f n
section
variable{A:Nat->Nat->Int}{b:Nat->Int}{m wd p:Nat}{R:Nat->Nat->Rat}{pv s:Nat->Nat}
def sw(p q x:Nat):Nat:=if x=p then q else if x=q then p else x
end
def vr(r:List Int×Int)(j:Nat):Rat:=((r.1.getD j 0:Int):Rat)/(r.2:Rat)
end Rw
namespace K10
open PySem PyProof.Rows L2
abbrev u9:Stmt:=top 13
abbrev iK:Str:="is_whole"
theorem K3:bH L_ fP (bC u9):=fsc
abbrev xO:Stmt:=top 14
abbrev mK:Str:="divisor"
theorem Mf:bH FQ dJ (bC xO):=fsc
abbrev Gq:Stmt:=top 18
abbrev vR:Str:="ratio"
theorem Ua:bH I9 pG (bC Gq):=fsc
abbrev uO:Stmt:=top 19
abbrev lu:Str:="is_ratio"
theorem Ky:bH uQ iM (bC uO):=fsc
abbrev Ng:Stmt:=top 20
abbrev Gy:Str:="plus"
theorem Xc:bH abD vG (bC Ng):=fsc
abbrev HJ:Stmt:=top 21
abbrev Cz:Str:="minus"
theorem T5:bH Xa qP (bC HJ):=fsc
abbrev Ht:Stmt:=top 22
abbrev v7:Str:="under"
theorem VR:bH Y_ pD (bC Ht):=fsc
abbrev lV:Stmt:=top 25
abbrev gb:Str:="is_word"
theorem Al:bH pA eE (bC lV):=fsc
abbrev oK:Stmt:=top 27
abbrev lZ:Str:="check_share"
theorem Ar:bH Dw iH (bC oK):=fsc
abbrev pL:Stmt:=top 28
abbrev ou:Str:="numbers_of"
theorem Ej:bH qd je (bC pL):=fsc
abbrev lA:Stmt:=top 29
abbrev j7:Str:="numbered_ways"
theorem xJ:bH qz gw (bC lA):=fsc
abbrev tG:Stmt:=top 30
abbrev pO:Str:="offers_of"
theorem GR:bH yx jJ (bC tG):=fsc
abbrev zL:Stmt:=top 33
abbrev Cp:Str:="level"
theorem UW:bH Om tO (bC zL):=fsc
abbrev Gh:Stmt:=top 34
abbrev Ad:Str:="total"
theorem Ug:bH Gx rH (bC Gh):=fsc
abbrev ql:Stmt:=top 36
abbrev kO:Str:="check_head"
theorem Dv:bH qg iw (bC ql):=fsc
abbrev jK:Stmt:=top 37
abbrev gM:Str:="check_room_name"
theorem u5:bH vC dI (bC jK):=fsc
abbrev mJ:Stmt:=top 38
abbrev ji:Str:="check_chance"
theorem yQ:bH BW fL (bC mJ):=fsc
abbrev kY:Stmt:=top 39
abbrev m5:Str:="check_pairs"
theorem Ax:bH oN iR (bC kY):=fsc
abbrev kj:Stmt:=top 40
abbrev mD:Str:="joined_ways"
theorem Bh:bH uE iG (bC kj):=fsc
abbrev Ls:Stmt:=top 47
abbrev zM:Str:="_law_cell"
theorem Xd:bH N7 ug (bC Ls):=fsc
abbrev z_:Stmt:=top 48
abbrev pF:Str:="_law_stream"
theorem RK:bH Ke j_ (bC z_):=fsc
abbrev R8:Stmt:=top 49
abbrev G4:Str:="_law_gcd"
theorem SQ:bH Zi xV (bC R8):=fsc
abbrev z7:Stmt:=top 50
abbrev lU:Str:="_law_lowest"
theorem Rx:bH Js jw (bC z7):=fsc
abbrev Hl:Stmt:=top 51
abbrev rO:Str:="_law_whole"
theorem Sq:bH v9 mG (bC Hl):=fsc
abbrev uP:Stmt:=top 52
abbrev lg:Str:="_law_fraction"
theorem Li:bH Lr iD (bC uP):=fsc
abbrev Hy:Stmt:=top 53
abbrev zN:Str:="_law_only"
theorem Y5:bH Ms uq (bC Hy):=fsc
abbrev ux:Stmt:=top 54
abbrev Av:Str:="_law_names"
theorem Bt:bH vQ qW (bC ux):=fsc
abbrev yu:Stmt:=top 55
abbrev Gk:Str:="_law_door"
theorem zP:bH u_ vD (bC yu):=fsc
abbrev IV:Stmt:=top 56
abbrev BL:Str:="_law_drawn"
theorem Vg:bH Ot sI (bC IV):=fsc
abbrev Ih:Stmt:=top 57
abbrev Ig:Str:="_law_ways"
theorem Wz:bH MP vI (bC Ih):=fsc
abbrev Ox:Stmt:=top 58
abbrev Gg:Str:="_law_due"
theorem aaF:bH Vu xK (bC Ox):=fsc
abbrev Vn:Stmt:=top 59
abbrev Nh:Str:="_law_way"
theorem ZS:bH Tw z6 (bC Vn):=fsc
abbrev wQ:Stmt:=top 60
abbrev ud:Str:="_law_offers"
theorem Ru:bH BR lR (bC wQ):=fsc
abbrev uy:Stmt:=top 61
abbrev C_:Str:="_law_built"
theorem Vm:bH qy qU (bC uy):=fsc
abbrev Iz:Stmt:=top 62
abbrev BJ:Str:="_law_rooms"
theorem Vl:bH YJ rW (bC Iz):=fsc
abbrev Ia:Stmt:=top 63
abbrev zX:Str:="_law_asked"
theorem Vw:bH Qe sS (bC Ia):=fsc
abbrev yt:Stmt:=top 64
abbrev uX:Str:="_law_no_room"
theorem zW:bH Fp mV (bC yt):=fsc
abbrev xM:Stmt:=top 65
abbrev u0:Str:="_law_no_door"
theorem BZ:bH Gd mH (bC xM):=fsc
abbrev nY:Stmt:=top 66
abbrev qe:Str:="_law_strangers"
theorem pZ:bH tH jB (bC nY):=fsc
abbrev uI:Stmt:=top 67
abbrev N6:Str:="law"
theorem Iv:bH yM IK (bC uI):=fsc
abbrev n_:Stmt:=d_ 31 0
abbrev wR:Str:="__init__"
abbrev wz:Str:="Hall.__init__"
theorem Iu:bH sH jR (bC n_):=fsc
abbrev nU:Stmt:=d_ 31 1
abbrev qu:Str:="size"
abbrev pJ:Str:="Hall.size"
theorem vV:bH K5 eU (bC nU):=fsc
abbrev pW:Stmt:=d_ 31 2
abbrev uH:Str:="names"
abbrev uG:Str:="Hall.names"
theorem Ds:bH Jg ig (bC pW):=fsc
abbrev lM:Stmt:=d_ 31 3
abbrev oh:Str:="place"
abbrev oW:Str:="Hall.place"
theorem uN:bH pP eV (bC lM):=fsc
abbrev fX:Stmt:=d_ 31 4
abbrev gW:Str:="check_room"
abbrev gO:Str:="Hall.check_room"
theorem jt:bH cJ bZ (bC fX):=fsc
abbrev gK:Stmt:=d_ 31 5
abbrev lB:Str:="door_at"
abbrev lC:Str:="Hall.door_at"
theorem jm:bH iI dG (bC gK):=fsc
abbrev eX:Stmt:=d_ 31 6
abbrev jO:Str:="offers"
abbrev jE:Str:="Hall.offers"
theorem mF:bH f9 cZ (bC eX):=fsc
abbrev tW:Stmt:=d_ 41 0
abbrev wL:Str:="__init__"
abbrev vK:Str:="Door.__init__"
theorem HD:bH tR iY (bC tW):=fsc
abbrev rT:Stmt:=d_ 41 1
abbrev vO:Str:="ways"
abbrev xq:Str:="Door.ways"
theorem Ik:bH JR jP (bC rT):=fsc
abbrev rZ:Stmt:=d_ 42 0
abbrev wj:Str:="__init__"
abbrev wV:Str:="Sure.__init__"
theorem H_:bH q_ jA (bC rZ):=fsc
abbrev p7:Stmt:=d_ 43 0
abbrev uJ:Str:="__init__"
abbrev uF:Str:="Mixed.__init__"
theorem Eo:bH p8 gj (bC p7):=fsc
abbrev sZ:Stmt:=d_ 44 0
abbrev wg:Str:="__init__"
abbrev vg:Str:="Toss.__init__"
theorem Hi:bH yE jU (bC sZ):=fsc
abbrev nF:Stmt:=d_ 45 0
abbrev wu:Str:="__init__"
abbrev vY:Str:="Even.__init__"
theorem Hq:bH rG jC (bC nF):=fsc
abbrev oX:Stmt:=d_ 9 0
abbrev rR:Str:="__init__"
abbrev tX:Str:="NoRoom.__init__"
theorem Ao:bH En gC (bC oX):=fsc
abbrev oR:Stmt:=d_ 10 0
abbrev rE:Str:="__init__"
abbrev tY:Str:="NoDoor.__init__"
theorem Bo:bH oZ iJ (bC oR):=fsc
structure Adr where
 HallError:Addr
 NoNumber:Addr
 NoName:Addr
 NoChance:Addr
 NoShare:Addr
 NoText:Addr
 NoRow:Addr
 NoRoom:Addr
 NoDoor:Addr
 NoPlan:Addr
 Hall:Addr
 Door:Addr
 Sure:Addr
 Mixed:Addr
 Toss:Addr
 Even:Addr
 NOUGHT:Addr
 ONE:Addr
 Hall_init:Addr
 Hall_size:Addr
 Hall_names:Addr
 Hall_place:Addr
 Hall_check_room:Addr
 Hall_door_at:Addr
 Hall_offers:Addr
 Door_init:Addr
 Door_ways:Addr
 Sure_init:Addr
 Mixed_init:Addr
 Toss_init:Addr
 Even_init:Addr
 NoRoom_init:Addr
 NoDoor_init:Addr
structure Txt(K:Frag)(mg:Str->Ψ)(D:Adr):Prop where
 Uj:mg "Door"=some (.ref D.Door)
 aaJ:mg "Even"=some (.ref D.Even)
 acf:mg "Hall"=some (.ref D.Hall)
 nH:mg "HallError"=some (.ref D.HallError)
 Ja:mg "Mixed"=some (.ref D.Mixed)
 wO:mg "NOUGHT"=some (.ref D.NOUGHT)
 Mt:mg "NoChance"=some (.ref D.NoChance)
 Jy:mg "NoDoor"=some (.ref D.NoDoor)
 Ur:mg "NoName"=some (.ref D.NoName)
 NT:mg "NoNumber"=some (.ref D.NoNumber)
 VF:mg "NoPlan"=some (.ref D.NoPlan)
 Bw:mg "NoRoom"=some (.ref D.NoRoom)
 WL:mg "NoRow"=some (.ref D.NoRow)
 Qx:mg "NoShare"=some (.ref D.NoShare)
 Sy:mg "NoText"=some (.ref D.NoText)
 Lh:mg "ONE"=some (.ref D.ONE)
 aat:mg "Sure"=some (.ref D.Sure)
 aaI:mg "Toss"=some (.ref D.Toss)
 yG:mroIn K D.HallError (.type "BaseException")=some true
 yC:typeIn K (.ref D.HallError)=some (.type "type")
 sG:∃u,mg "LONGEST_WORD"=some u/\RelV (.int 8) u
 uo:∀H,SqT K H D.NOUGHT [.int 0,.int 1]
 Ci:∀H,SqT K H D.ONE [.int 1,.int 1]
 Y7:Mk K D.Hall D.Hall_init
 cR:Cls K D.Hall
 fu:Meth K D.Hall "check_room" D.Hall_check_room
 lF:Meth K D.Hall "door_at" D.Hall_door_at
 oU:Meth K D.Hall "names" D.Hall_names
 jQ:Meth K D.Hall "offers" D.Hall_offers
 kJ:Meth K D.Hall "place" D.Hall_place
 jM:Meth K D.Hall "size" D.Hall_size
 Dp:bN K D.Hall "leads"
 Jo:bN K D.Hall "name"
 yV:bN K D.Hall "numbers"
 zj:bN K D.Hall "offered"
 JF:bN K D.Hall "pay"
 Ed:bN K D.Hall "share"
 V6:Cls K D.Door
 GJ:Meth K D.Door "ways" D.Door_ways
 Eh:bN K D.Door "leads"
 G5:bN K D.Door "name"
 yP:bN K D.Door "numbers"
 yX:bN K D.Door "offered"
 KQ:bN K D.Door "pay"
 Ek:bN K D.Door "share"
 X6:Mk K D.Sure D.Sure_init
 Vp:Cls K D.Sure
 I8:Meth K D.Sure "ways" D.Door_ways
 Ef:bN K D.Sure "leads"
 Gr:bN K D.Sure "name"
 yR:bN K D.Sure "numbers"
 yU:bN K D.Sure "offered"
 KD:bN K D.Sure "pay"
 Dl:bN K D.Sure "share"
 Wg:Mk K D.Mixed D.Mixed_init
 Qo:Cls K D.Mixed
 Di:Meth K D.Mixed "ways" D.Door_ways
 Ai:bN K D.Mixed "leads"
 Du:bN K D.Mixed "name"
 xR:bN K D.Mixed "numbers"
 xQ:bN K D.Mixed "offered"
 Hg:bN K D.Mixed "pay"
 Az:bN K D.Mixed "share"
 Wt:Mk K D.Toss D.Toss_init
 Vh:Cls K D.Toss
 HS:Meth K D.Toss "ways" D.Door_ways
 DX:bN K D.Toss "leads"
 Ho:bN K D.Toss "name"
 zu:bN K D.Toss "numbers"
 za:bN K D.Toss "offered"
 JG:bN K D.Toss "pay"
 DK:bN K D.Toss "share"
 Xk:Mk K D.Even D.Even_init
 U6:Cls K D.Even
 Jj:Meth K D.Even "ways" D.Door_ways
 Dt:bN K D.Even "leads"
 Hw:bN K D.Even "name"
 zm:bN K D.Even "numbers"
 yS:bN K D.Even "offered"
 Kc:bN K D.Even "pay"
 Dr:bN K D.Even "share"
 xi_NoRoom:Dq K D.NoRoom D.HallError D.NoRoom_init
 xs_NoRoom:Rj K D.NoRoom
 xk_NoRoom:rQ K D.NoRoom
 hd_NoRoom:hasDictIn K D.NoRoom=true
 sm_NoRoom:mroIn K D.NoRoom (.ref D.HallError)=some true
 qY:bN K D.NoRoom "room"
 ki_NoRoom_NoChance:kitOne K (.ref D.NoRoom) (.ref D.NoChance)=some false
 ki_NoRoom_NoDoor:kitOne K (.ref D.NoRoom) (.ref D.NoDoor)=some false
 ki_NoRoom_NoName:kitOne K (.ref D.NoRoom) (.ref D.NoName)=some false
 ki_NoRoom_NoNumber:kitOne K (.ref D.NoRoom) (.ref D.NoNumber)=some false
 ki_NoRoom_NoPlan:kitOne K (.ref D.NoRoom) (.ref D.NoPlan)=some false
 ki_NoRoom_NoRoom:kitOne K (.ref D.NoRoom) (.ref D.NoRoom)=some true
 ki_NoRoom_NoRow:kitOne K (.ref D.NoRoom) (.ref D.NoRow)=some false
 ki_NoRoom_NoShare:kitOne K (.ref D.NoRoom) (.ref D.NoShare)=some false
 ki_NoRoom_NoText:kitOne K (.ref D.NoRoom) (.ref D.NoText)=some false
 ki_NoRoom_ValueError:kitOne K (.ref D.NoRoom) (.type "ValueError")=some true
 xi_NoDoor:Dq K D.NoDoor D.HallError D.NoDoor_init
 xs_NoDoor:Rj K D.NoDoor
 xk_NoDoor:rQ K D.NoDoor
 hd_NoDoor:hasDictIn K D.NoDoor=true
 sm_NoDoor:mroIn K D.NoDoor (.ref D.HallError)=some true
 su:bN K D.NoDoor "door"
 ki_NoDoor_NoChance:kitOne K (.ref D.NoDoor) (.ref D.NoChance)=some false
 ki_NoDoor_NoDoor:kitOne K (.ref D.NoDoor) (.ref D.NoDoor)=some true
 ki_NoDoor_NoName:kitOne K (.ref D.NoDoor) (.ref D.NoName)=some false
 ki_NoDoor_NoNumber:kitOne K (.ref D.NoDoor) (.ref D.NoNumber)=some false
 ki_NoDoor_NoPlan:kitOne K (.ref D.NoDoor) (.ref D.NoPlan)=some false
 ki_NoDoor_NoRoom:kitOne K (.ref D.NoDoor) (.ref D.NoRoom)=some false
 ki_NoDoor_NoRow:kitOne K (.ref D.NoDoor) (.ref D.NoRow)=some false
 ki_NoDoor_NoShare:kitOne K (.ref D.NoDoor) (.ref D.NoShare)=some false
 ki_NoDoor_NoText:kitOne K (.ref D.NoDoor) (.ref D.NoText)=some false
 ki_NoDoor_ValueError:kitOne K (.ref D.NoDoor) (.type "ValueError")=some true
 ib_HallError:Wa K D.HallError
 Gz:o8 K wR wz n_ jR D.Hall_init
 w5:o8 K qu pJ nU eU D.Hall_size
 Dg:o8 K uH uG pW ig D.Hall_names
 uL:o8 K oh oW lM eV D.Hall_place
 jq:o8 K gW gO fX bZ D.Hall_check_room
 qI:o8 K lB lC gK dG D.Hall_door_at
 mW:o8 K jO jE eX cZ D.Hall_offers
 vo:yI K D.Door "__init__" D.Door_init
 Ie:o8 K wL vK tW iY D.Door_init
 Gu:o8 K vO xq rT jP D.Door_ways
 GD:o8 K wj wV rZ jA D.Sure_init
 uK:yI K D.Mixed "__init__" D.Mixed_init
 Dm:o8 K uJ uF p7 gj D.Mixed_init
 Jf:o8 K wg vg sZ jU D.Toss_init
 Hu:o8 K wu vY nF jC D.Even_init
 Ck:o8 K rR tX oX gC D.NoRoom_init
 Ag:o8 K rE tY oR iJ D.NoDoor_init
 Jb:mg "ValueError"=none
 Ko:mg "abs"=none
 Qk:mg "all"=none
 Tg:mg "bool"=none
 Te:mg "int"=none
 bO:mg "isinstance"=none
 jW:mg "len"=none
 rA:mg "list"=none
 aci:mg "max"=none
 ae6:mg "min"=none
 fW:mg "range"=none
 Tv:mg "sorted"=none
 TJ:mg "str"=none
 PK:mg "sum"=none
 zK:mg "tuple"=none
 NQ:eY K mg iK u9 fP
 Rp:eY K mg mK xO dJ
 Yp:eY K mg vR Gq pG
 Nz:eY K mg lu uO iM
 aaW:eY K mg Gy Ng vG
 YW:eY K mg Cz HJ qP
 Ww:eY K mg v7 Ht pD
 Er:eY K mg gb lV eE
 Dh:eY K mg lZ oK iH
 Hj:eY K mg ou pL je
 zq:eY K mg j7 lA gw
 Jr:eY K mg pO tG jJ
 Yj:eY K mg Cp zL tO
 f_total:eY K mg Ad Gh rH
 Ii:eY K mg kO ql iw
 wJ:eY K mg gM jK dI
 BX:eY K mg ji mJ fL
 Ei:eY K mg m5 kY iR
 Dj:eY K mg mD kj iG
 aak:eY K mg zM Ls ug
 VL:eY K mg pF z_ j_
 adz:eY K mg G4 R8 xV
 T6:eY K mg lU z7 jw
 Za:eY K mg rO Hl mG
 Mi:eY K mg lg uP iD
 abU:eY K mg zN Hy uq
 W9:eY K mg Av ux qW
 ZG:eY K mg Gk yu vD
 Yu:eY K mg BL IV sI
 Z_:eY K mg Ig Ih vI
 adt:eY K mg Gg Ox xK
 adW:eY K mg Nh Vn z6
 VH:eY K mg ud wQ lR
 Y4:eY K mg C_ uy qU
 Yq:eY K mg BJ Iz rW
 Yn:eY K mg zX Ia sS
 Qs:eY K mg uX yt mV
 Rr:eY K mg u0 xM mH
 Kg:eY K mg qe nY jB
def Fam(D:Adr)(C:Addr):Prop:=C=D.Hall\/C=D.Door\/C=D.Sure\/C=D.Mixed\/C=D.Toss\/C=D.Even
theorem Txt.cl{K:Frag}{mg:Str->Ψ}{D:Adr}(T:Txt K mg D):∀C,Fam D C->Cls K C:=by
 rintro C (rfl|rfl|rfl|rfl|rfl|rfl)
 .exact T.cR
 .exact T.V6
 .exact T.Vp
 .exact T.Qo
 .exact T.Vh
 .exact T.U6
theorem Txt.vW{K:Frag}{mg:Str->Ψ}{D:Adr}(T:Txt K mg D):∀C,Fam D C->bN K C "leads":=by
 rintro C (rfl|rfl|rfl|rfl|rfl|rfl)
 .exact T.Dp
 .exact T.Eh
 .exact T.Ef
 .exact T.Ai
 .exact T.DX
 .exact T.Dt
theorem Txt.v8{K:Frag}{mg:Str->Ψ}{D:Adr}(T:Txt K mg D):∀C,Fam D C->bN K C "name":=by
 rintro C (rfl|rfl|rfl|rfl|rfl|rfl)
 .exact T.Jo
 .exact T.G5
 .exact T.Gr
 .exact T.Du
 .exact T.Ho
 .exact T.Hw
theorem Txt.gY{K:Frag}{mg:Str->Ψ}{D:Adr}(T:Txt K mg D):∀C,Fam D C->bN K C "numbers":=by
 rintro C (rfl|rfl|rfl|rfl|rfl|rfl)
 .exact T.yV
 .exact T.yP
 .exact T.yR
 .exact T.xR
 .exact T.zu
 .exact T.zm
theorem Txt.j5{K:Frag}{mg:Str->Ψ}{D:Adr}(T:Txt K mg D):∀C,Fam D C->bN K C "offered":=by
 rintro C (rfl|rfl|rfl|rfl|rfl|rfl)
 .exact T.zj
 .exact T.yX
 .exact T.yU
 .exact T.xQ
 .exact T.za
 .exact T.yS
theorem Txt.Uq{K:Frag}{mg:Str->Ψ}{D:Adr}(T:Txt K mg D):∀C,Fam D C->bN K C "pay":=by
 rintro C (rfl|rfl|rfl|rfl|rfl|rfl)
 .exact T.JF
 .exact T.KQ
 .exact T.KD
 .exact T.Hg
 .exact T.JG
 .exact T.Kc
theorem Txt.CQ{K:Frag}{mg:Str->Ψ}{D:Adr}(T:Txt K mg D):∀C,Fam D C->bN K C "share":=by
 rintro C (rfl|rfl|rfl|rfl|rfl|rfl)
 .exact T.Ed
 .exact T.Ek
 .exact T.Dl
 .exact T.Az
 .exact T.DK
 .exact T.Dr
def iz(D:Adr)(C:Addr):Prop:=C=D.Hall
theorem iz.fam{D:Adr}{C:Addr}(h:iz D C):Fam D C:=by
 unfold iz at h;unfold Fam;simp[h]
theorem Txt.Dz{K:Frag}{mg:Str->Ψ}{D:Adr}(T:Txt K mg D):∀C,iz D C->Meth K C "names" D.Hall_names:=by
 rintro C (rfl)
 .exact T.oU
def gB(D:Adr)(C:Addr):Prop:=C=D.Hall
theorem gB.fam{D:Adr}{C:Addr}(h:gB D C):Fam D C:=by
 unfold gB at h;unfold Fam;simp[h]
theorem Txt.Cr{K:Frag}{mg:Str->Ψ}{D:Adr}(T:Txt K mg D):∀C,gB D C->Meth K C "offers" D.Hall_offers:=by
 rintro C (rfl)
 .exact T.jQ
def h_(D:Adr)(C:Addr):Prop:=C=D.Hall
theorem h_.fam{D:Adr}{C:Addr}(h:h_ D C):Fam D C:=by
 unfold h_ at h;unfold Fam;simp[h]
theorem Txt.D_{K:Frag}{mg:Str->Ψ}{D:Adr}(T:Txt K mg D):∀C,h_ D C->Meth K C "place" D.Hall_place:=by
 rintro C (rfl)
 .exact T.kJ
def c7(D:Adr)(C:Addr):Prop:=C=D.Door\/C=D.Sure\/C=D.Mixed\/C=D.Toss\/C=D.Even
theorem c7.fam{D:Adr}{C:Addr}(h:c7 D C):Fam D C:=by
 unfold c7 at h;unfold Fam;rcases h with h|h|h|h|h<;>simp[h]
theorem Txt.GQ{K:Frag}{mg:Str->Ψ}{D:Adr}(T:Txt K mg D):∀C,c7 D C->Meth K C "ways" D.Door_ways:=by
 rintro C (rfl|rfl|rfl|rfl|rfl)
 .exact T.GJ
 .exact T.I8
 .exact T.Di
 .exact T.HS
 .exact T.Jj
class Bs where
 P:Program
 w:World
 K:Frag
 mg:Str->Ψ
 base:Heap
section
open Bs (P w K mg base)
abbrev gT[Bs](k:Nat)(x:Str)(ps:Θ)(S:ST):Prop:=OkT P w K mg base k x ps S
abbrev gI[Bs](k:Nat)(a:Addr)(ps:Θ)(S:ST):Prop:=OkI P w K mg base CX0 k a ps (spT K S)
abbrev FT[Bs](k:Nat)(f:Addr)(fd:FuncData)(ps:Θ)(S:ST):Prop:=dO P w K mg base CX0 k f fd ps (spT K S)
abbrev Fu[Bs](n:Str)(s:Stmt)(f:Addr)(fd:FuncData):Prop:=Fun K n n s f fd
abbrev Tx[Bs](D:Adr):Prop:=Txt K mg D
variable[Bs]{D:Adr}{f:Addr}{fd:FuncData}
abbrev frT(f:Int×Int):T:=.tup [.int f.1,.int f.2]
def isW:T->Option Bool
 |.int _=>some true
 |.bl _=>some false
 |.non=>some false
 |.str _=>some false
 |.tup _=>some false
 |.lst _=>some false
 |_=>none
def jx:ST:=λts q=>∃t b,ts=[t]/\isW t=some b/\q (.fz (.bl b))
theorem Ld(T:Tx D)(F:Fu iK u9 f fd):FT 1 f fd fP jx:=by
 refine F.okT K3 λah A outer s H E hr nd=>?_;refine⟨_,(bD (bK (oE (jN .int (qv 0) T.bO T.Te boot_int) (uR (T7 (jN .bool (qv 0) T.bO T.Tg boot_bool)))))),?_⟩;rintro _ R ⟨t,b,rfl,h,q⟩;cases t<;>cases h<;>exact q
def pN:ST:=λts q=>∃a b,ts=[.int a,.int b]/\q (.fz (.int (Int.gcd a b)))
theorem Ny(T:Tx D)(F:Fu mK xO f fd):FT 1 f fd dJ pN:=by
 refine F.okT Mf λah A outer s H E hr nd=>?_;refine⟨_,(bB (bU 2 (bV Cy T.Ko boot_abs (bw (qv 0) bx)))
  (bB (bU 3 (bV Cy T.Ko boot_abs (bw (qv 1) bx)))
  (bB (JZ (cD (mO hr.units) (qv 3) bA)
  (bB (bU 4 (bI cG (qv 2) (qv 3)))
  (bB (bU 2 (qv 3))
  (bD (bU 3 (qv 4))))))
  (bD (bK (qv 2)))))),?_⟩
 rintro _ R ⟨a,b,rfl,q⟩;refine⟨λm o=>∃(l r:Nat)(x:OT),o=[.fz (.int a),.fz (.int b),.fz (.int l),.fz (.int r),x]/\Nat.gcd l r=Int.gcd a b/\m=r,⟨_,_,_,_,rfl,rfl,rfl⟩,?_⟩;rintro m _ ⟨l,r,x,rfl,hg,hm⟩;refine sw2 (λh=>?_) λh=>?_
 .have hr:r≠0:=by intro z;subst z;cases h
  refine⟨λo=>∃x,o=[.fz (.int a),.fz (.int b),.fz (.int r),.fz (.int ((l%r:Nat):Int)),x],?_,?_⟩
  .rintro _ ⟨x,rfl⟩;exact⟨l%r,by have:=Nat.mod_lt l (Nat.pos_of_ne_zero hr);lia,r,l%r,x,rfl,(Nat.gcd_comm r (l%r)).trans ((Nat.gcd_rec r l).symm.trans ((Nat.gcd_comm r l).trans hg)),rfl⟩
  .exact⟨by lia,_,by rw[Int.natCast_emod];rfl⟩
 .have hr:r=0:=by
   by_cases z:r=0
   .exact z
   .have:(decide ((r:Int)=0))=false:=Zp (by lia);rw[show xr true (decide ((r:Int)=0)) = !decide ((r:Int)=0)from rfl,this]at h;cases h
  subst hr;rw[Nat.gcd_zero_right]at hg;rw[<- hg]at q;exact q
structure Low(t b x y:Int):Prop where
 pos:0<y
 gcd:Int.gcd x y=1
 eq:x*b=t*y
 lx:x.natAbs<=t.natAbs
 ly:y.natAbs<=b.natAbs
theorem Aq{c q:Int}(h:c≠0):Int.fdiv (c*q) c=q:=by
 rw[Int.fdiv_eq_ediv_of_dvd (Int.dvd_mul_right c q),Int.mul_ediv_cancel_left _ h]
theorem Bm{c q:Int}(h:c≠0):q.natAbs<=(c*q).natAbs:=by
 rw[Int.natAbs_mul];exact Nat.le_mul_of_pos_left _ (by lia)
theorem Bj{t b c:Int}(hb:b≠0)(hc:c≠0)(hg:c.natAbs=Int.gcd t b)(hs:0<c*b):Low t b (Int.fdiv t c) (Int.fdiv b c):=by
 have d1:c ∣ t:=Int.natAbs_dvd.mp (by rw[hg];exact Int.gcd_dvd_left t b);have d2:c ∣ b:=Int.natAbs_dvd.mp (by rw[hg];exact Int.gcd_dvd_right t b);obtain⟨x,rfl⟩:=d1;obtain⟨y,rfl⟩:=d2;rw[Aq hc,Aq hc];refine⟨?_,?_,?_,Bm hc,Bm hc⟩
 .rw[<- Int.mul_assoc]at hs;have hp:0<c*c:=by
   rcases Int.lt_or_lt_of_ne hc with z|z
   .exact Int.mul_pos_of_neg_of_neg z z
   .exact Int.mul_pos z z
  exact Int.pos_of_mul_pos_right hs hp
 .rw[Int.gcd_mul_left]at hg;have hp:0<c.natAbs:=by lia
  exact Nat.eq_of_mul_eq_mul_left hp (by rw[Nat.mul_one];exact hg.symm)
 .rw[Int.mul_left_comm,Int.mul_assoc]
theorem m9{a b:Int}(hb:b≠0):(0:Int)<(Int.gcd a b:Nat):=by
 have:=Int.gcd_pos_of_ne_zero_right a hb;lia
theorem JL{i j:Int}(h:i.natAbs<=j.natAbs)(k:Bd j):Bd i:=Y3 h k
theorem Uw{i:Int}(h:Bd i):Bd (-i):=by unfold Bd at *;rw[Int.natAbs_neg];exact h
theorem N5{a b:Int}(hb:b≠0)(h:Bd b):Bd ((Int.gcd a b:Nat):Int):=JL (by
 have:=W1 (by lia) (Int.gcd_dvd_natAbs_right a b);omega) h
def Am:ST:=λts q=>∃t b,ts=[.int t,.int b]/\b≠0/\Bd b/\∀x y,Low t b x y->q (.fz (frT (x,y)))
theorem S8(T:Tx D)(cQ:gT 1 iK fP jx)(iT:gT 1 mK dJ pN)(F:Fu vR Gq f fd):FT 2 f fd pG Am:=by
 refine F.okT Ua λah A outer s H E hr nd=>?_;refine⟨_,(bB (cu (QW.qt (d7 (bW (bY (bF cQ (bw (qv 0) bx)))) (dj (bW (bY (bF cQ (bw (qv 1) bx)))))))
  (bD fB)
  bL)
  (bB (cu (cD (go_eq hr.units) (qv 1) bA)
  (bD fB)
  bL)
  (bB (bU 2 (bF iT (bw (qv 0) (bw (qv 1) bx))))
  (bB (cu (cD Fd (qv 1) bA)
  (bD (bU 2 (TQ (qv 2))))
  bL)
  (bD (bK (fK (bw (bI lH (qv 0) (qv 2)) (bw (bI lH (qv 1) (qv 2)) bx))))))))),?_⟩
 rintro _ R ⟨t,b,rfl,hb,hd,q⟩;refine⟨_,_,rfl,rfl,_,_,rfl,rfl,?_⟩;have g0:=m9 (a:=t) hb;have g1:=N5 (a:=t) hb hd;refine swF (Zp hb) ⟨_,_,rfl,swD (λhn=>⟨⟨by omega,Uw g1⟩,⟨by omega,Uw g1⟩,q _ _ (Bj hb (by omega) (by lia) (Int.mul_pos_of_neg_of_neg (by lia) hn))⟩) λhn=>⟨⟨by exact X0 g0,g1⟩,⟨by exact X0 g0,g1⟩,q _ _ (Bj hb (X0 g0) (by lia) (Int.mul_pos g0 (by lia)))⟩⟩
abbrev frR(r:Rat):T:=.tup [.int r.num,.int r.den]
theorem uz{t b x y:Int}(h:Low t b x y)(hb:b≠0):frT (x,y)=frR (Rat.divInt t b):=by
 have hy:=h.pos;have e:Rat.divInt t b=⟨x,y.toNat,by lia,by have:=h.gcd;unfold Int.gcd at this;rw[show y.toNat=y.natAbs by lia];exact this⟩:=by
  rw[Rat.mk_eq_divInt,show((y.toNat:Nat):Int)=y by exact Int.toNat_of_nonneg (XZ hy)];exact(VU hb (X0 hy)).mpr h.eq.symm
 rw[e];show T.tup [.int x,.int y]=.tup [.int x,.int (y.toNat:Nat)];rw[show((y.toNat:Nat):Int)=y by exact Int.toNat_of_nonneg (XZ hy)]
theorem rd(r:Rat):Rat.divInt r.num r.den=r:=Rat.num_divInt_den r
theorem qp(r:Rat):((r.den:Nat):Int)≠0:=by have:=r.den_pos;lia
def Bq(r:Rat):Prop:=Bd r.num/\Bd (r.den:Nat)
def Qc:ST:=λts q=>∃a b:Rat,ts=[frR a,frR b]/\Bq a/\Bq b/\Bd ((a.den:Int)*b.den)/\q (.fz (frR (a+b)))
def Lj:ST:=λts q=>∃a b:Rat,ts=[frR a,frR b]/\Bq a/\Bq b/\Bd ((a.den:Int)*b.den)/\q (.fz (frR (a-b)))
def Ca:ST:=λts q=>∃a b:Rat,ts=[frR a,frR b]/\Bq a/\Bq b/\q (.fz (.bl (decide (a<b))))
theorem pU{a b:Int}(ha:a≠0)(hb:b≠0):a*b≠0:=λz=>(Int.mul_eq_zero.mp z).elim ha hb
section
variable(lO:gT 2 vR pG Am)
include lO
theorem YF(F:Fu Gy Ng f fd):FT 3 f fd vG Qc:=by
 refine F.okT Xc λah A outer s H E hr nd=>?_;refine⟨_,(bD (bK (bF lO (bw (bI cN (bI gJ (bG (qv 0) bA) (bG (qv 1) bA)) (bI gJ (bG (qv 1) bA) (bG (qv 0) bA))) (bw (bI gJ (bG (qv 0) bA) (bG (qv 1) bA)) bx))))),?_⟩;rintro _ R ⟨a,b,rfl,ha,hb,hd,q⟩;refine⟨⟨ha.1,hb.2⟩,⟨hb.1,ha.2⟩,⟨ha.2,hb.2⟩,_,_,rfl,pU (qp a) (qp b),hd,λx y l=>?_⟩;rw[uz l (pU (qp a) (qp b)),<- UT _ _ (qp a) (qp b),rd,rd];exact q
theorem TY(F:Fu Cz HJ f fd):FT 3 f fd qP Lj:=by
 refine F.okT T5 λah A outer s H E hr nd=>?_;refine⟨_,(bD (bK (bF lO (bw (bI Hz (bI gJ (bG (qv 0) bA) (bG (qv 1) bA)) (bI gJ (bG (qv 1) bA) (bG (qv 0) bA))) (bw (bI gJ (bG (qv 0) bA) (bG (qv 1) bA)) bx))))),?_⟩;rintro _ R ⟨a,b,rfl,ha,hb,hd,q⟩;refine⟨⟨ha.1,hb.2⟩,⟨hb.1,ha.2⟩,⟨ha.2,hb.2⟩,_,_,rfl,pU (qp a) (qp b),hd,λx y l=>?_⟩;rw[uz l (pU (qp a) (qp b)),<- Rat.divInt_sub_divInt _ _ (qp a) (qp b),rd,rd];exact q
end
theorem VP(F:Fu v7 Ht f fd):FT 1 f fd pD Ca:=by
 refine F.okT VR λah A outer s H E hr nd=>?_;refine⟨_,(bD (bK (jD Fd (bI gJ (bG (qv 0) bA) (bG (qv 1) bA)) (bI gJ (bG (qv 1) bA) (bG (qv 0) bA))))),?_⟩;rintro _ R ⟨a,b,rfl,ha,hb,q⟩;refine⟨⟨ha.1,hb.2⟩,⟨hb.1,ha.2⟩,?_⟩;rw[show decide (a<b)=decide (a.num*(b.den:Int)<b.num*(a.den:Int))from decide_eq_decide.mpr (Rat.lt_iff a b)]at q;exact q
def nJ:ST:=λts q=>∃r:Rat,ts=[frR r]/\q (.fz (.bl true))
theorem Kf(T:Tx D)(cQ:gT 1 iK fP jx)(iT:gT 1 mK dJ pN)(F:Fu lu uO f fd):FT 2 f fd iM nJ:=by
 refine F.okT Ky λah A outer s H E hr nd=>?_;refine⟨_,(bB (cu (QW.qt (d7 (bW (bY (jN .tuple (qv 0) T.bO T.zK boot_tuple))) (dj (cD (mO hr.units) (bV jZ T.jW WV (bw (qv 0) bx)) bA))))
  (bD (bK gk))
  bL)
  (bB (bU 1 (bG (qv 0) bA))
  (bB (bU 2 (bG (qv 0) bA))
  (bB (cu (QW.qt (d7 (bW (bY (bF cQ (bw (qv 1) bx)))) (dj (bW (bY (bF cQ (bw (qv 2) bx)))))))
  (bD (bK gk))
  bL)
  (bD (bK (oE (jD Zy (qv 2) bA) (uR (jD (go_eq hr.units) (bF iT (bw (qv 1) (bw (qv 2) bx))) bA))))))))),?_⟩
 rintro _ R ⟨r,rfl,q⟩;refine⟨_,_,rfl,rfl,_,_,rfl,rfl,?_⟩;have:=r.den_pos;refine swT (Zs (by lia)) ⟨_,_,rfl,?_⟩;rw[show Int.gcd r.num r.den=1 from r.reduced];exact q
def agK:List Rat->Nat
 |[]=>1
 |r::rs=>Nat.lcm r.den (agK rs)
def jY(n:Nat):List Rat->Nat
 |[]=>n
 |r::rs=>jY (Nat.lcm n r.den) rs
theorem uc:∀(rs:List Rat){n:Nat},0<n->0<jY n rs
 |[],_,h=>h
 |r::rs,_,h=>uc rs (Nat.lcm_pos h r.den_pos)
theorem rF:∀(rs:List Rat){n:Nat},n ∣ jY n rs/\∀r∈rs,r.den ∣ jY n rs
 |[],n=>⟨Nat.dvd_refl n,λ_ z=>(nomatch z)⟩
 |r::rs,n=>by
  obtain⟨a,b⟩:=rF rs (n:=Nat.lcm n r.den);refine⟨Nat.dvd_trans (Nat.dvd_lcm_left ..) a,λx hx=>?_⟩;rcases YU.mp hx with rfl|z
  .exact Nat.dvd_trans (Nat.dvd_lcm_right ..) a
  .exact b x z
theorem Bv:∀(rs:List Rat){n m:Nat},n ∣ m->(∀r∈rs,r.den ∣ m)->jY n rs ∣ m
 |[],_,_,h,_=>h
 |r::rs,_,_,h,k=>Bv rs (Nat.lcm_dvd h (k r (aO ..))) λx hx=>k x (aH _ hx)
theorem Aw:∀(as bs:List Rat)(n:Nat),jY n (as++bs)=jY (jY n as) bs
 |[],_,_=>rfl
 |_::as,bs,_=>Aw as bs _
def tops(B:Nat)(rs:List Rat):List Int:=rs.map λr=>r.num*((B/r.den:Nat):Int)
theorem LQ{m n:Nat}(h:Bd (n:Int))(l:m<=n):Bd (m:Int):=JL (by omega) h
theorem Um(n d:Nat):(Int.fdiv (n:Int) ((Int.gcd n d:Nat):Int))*d=((Nat.lcm n d:Nat):Int):=by
 rw[show Int.gcd (n:Int) (d:Int)=Nat.gcd n d from rfl,Int.fdiv_eq_ediv_of_dvd (Int.natCast_dvd_natCast.mpr (Nat.gcd_dvd_left n d)),<- Int.natCast_ediv,<- Int.natCast_mul,Nat.lcm,Nat.div_mul_right_comm (Nat.gcd_dvd_left n d)]
theorem Ae(m n:Nat):Int.fdiv (m:Int) (n:Int)=((m/n:Nat):Int):=by rw[Int.fdiv_eq_ediv_of_nonneg _ (XU _)];rfl
def Jt:ST:=λts q=>∃rs:List Rat,ts=[.lst (rs.map frR)]/\rs.length<=1000/\(∀r∈rs,Bd r.num)/\Bd (jY 1 rs:Nat)/\q (.fz (.tup [.lst ((tops (jY 1 rs) rs).map T.int),.int (jY 1 rs:Nat)]))
theorem Ud(iT:gT 1 mK dJ pN)(F:Fu Cp zL f fd):FT 2 f fd tO Jt:=by
 refine F.okT UW λah A outer s H E hr nd=>?_;refine⟨_,(bB (bU 1 bA)
  (bB (iQ (dY (qv 0)) (cA (n:=99) 2)
  (bD (bU 1 (bI gJ (bI lH (qv 1) (bF iT (bw (qv 1) (bw (bG (qv 2) bA) bx)))) (bG (qv 2) bA)))))
  (bD (bK (fK (bw (dh (bC zL) Om ["fractions","bottom","?one"] ["one"] (dY (qv 0)) (fZ (i:=0)) cI (bI gJ (bG (qv 0) bA) (bI lH (qv 2) (bG (qv 0) bA)))) (bw (qv 1) bx))))))),?_⟩
 rintro _ R ⟨rs,rfl,rl,hn,hB,q⟩;refine kZ frR rs (λas o=>∃x,o=[.fz (.lst (rs.map frR)),.fz (.int (jY 1 as:Nat)),x]) ⟨_,rfl⟩ ?_ ?_
 .rintro as a bs _ e ⟨x,rfl⟩;have d1:=(rF (a::bs) (n:=jY 1 as)).1;have el:jY 1 rs=jY (jY 1 as) (a::bs):=by rw[e];exact Aw as (a::bs) 1
  have hp:=uc as Nat.one_pos;have hB0:=uc rs Nat.one_pos;have b1:Bd (jY 1 as:Nat):=LQ hB (el ▸ W1 (el ▸ hB0) d1);have b2:Bd (a.den:Nat):=LQ hB (W1 hB0 ((rF rs).2 a (e ▸ by simp)));refine⟨_,_,rfl,⟨by have:=m9 (a:=(jY 1 as:Nat)) (qp a);exact X0 this,N5 (qp a) b2⟩,⟨JL ?_ b1,b2⟩,.fz (frR a),?_⟩
  .rw[show Int.gcd ((jY 1 as:Nat):Int) (a.den:Int)=Nat.gcd (jY 1 as) a.den from rfl,Ae];exact Nat.div_le_self ..
  .rw[Um,Aw]
   rfl
 .rintro _ ⟨x,rfl⟩;refine⟨aL (by simpa using rl) (by decide),comp_map frR (λr=>.int (r.num*((jY 1 rs/r.den:Nat):Int))) rs (λr hr N M hN=>?_) ?_⟩
  .have b2:Bd (r.den:Nat):=LQ hB (W1 (uc rs Nat.one_pos) ((rF rs).2 r hr));refine⟨⟨qp r,b2⟩,⟨hn r hr,JL ?_ hB⟩,?_⟩
   .rw[Ae];exact Nat.div_le_self ..
   .rw[Ae];exact hN
  .have:(tops (jY 1 rs) rs).map T.int=rs.map (λr=>.int (r.num*((jY 1 rs/r.den:Nat):Int))):=by unfold tops;rw[XG];rfl
   rw[this]at q;exact q
def qH(l:List Nat):Bool:=decide (1<=l.length)&&decide (l.length<=8)&&l.all λc=>decide (97<=c)&&decide (c<=122)
abbrev Wd(n:Str):Prop:=qH n.cps.toList=true
theorem Wd.len{n:Str}(h:Wd n):1<=n.length/\n.length<=8:=by
 unfold Wd qH at h;simp only[UV,decide_eq_true_eq,Array.length_toList]at h;exact h.1
theorem zH(c d:Nat):(!decide ((⟨#[d]⟩ : Str).cps.toList<(⟨#[c]⟩ : Str).cps.toList))=decide (c<=d):=by
 have:((⟨#[d]⟩ : Str).cps.toList<(⟨#[c]⟩ : Str).cps.toList)↔d<c:=by
  show[d]<[c]↔d<c;constructor
  .intro h;cases h with
   |rel h=>exact h
   |cons h=>cases h
  .exact λh=>.rel h
 rw[show decide ((⟨#[d]⟩ : Str).cps.toList<(⟨#[c]⟩ : Str).cps.toList)=decide (d<c)from decide_eq_decide.mpr this];by_cases h:c<=d
 .rw[Zs h,Zp (UX h)];rfl
 .rw[Zp h,Zs (Nat.lt_of_not_le h)];rfl
def pY:ST:=λts q=>∃n:Str,ts=[.str n]/\Wd n/\q (.fz (.bl true))
theorem Mq(T:Tx D)(F:Fu gb lV f fd):FT 1 f fd eE pY:=by
 refine F.okT Al λah A outer s H E hr nd=>?_;refine⟨_,(bB (cu (QW.qt (d7 (bW (bY (jN .str (qv 0) T.bO T.TJ boot_str))) (dj (bW (rN Ce Ce bA (bV O2 T.jW WV (bw (qv 0) bx)) (Jw T.sG λ_=>.int _))))))
  (bD (bK gk))
  bL)
  (bD (bK (bV (Gi rfl) T.Qk boot_all (bw (dh (bC lV) pA pA ["sign"] (U9 (qv 0)) (fZ (i:=0)) cI (Ku HF HF j4 (qv 0) j4)) bx))))),?_⟩
 rintro _ R ⟨n,rfl,hw,q⟩;obtain⟨l1,l8⟩:=hw.len;refine⟨aL l8 (by decide),swT (Zs (by lia)) (swF (by rw[Zs (show((n.length:Nat):Int)<=8 by lia)];rfl) ⟨by rw[ak];exact aL l8 (by decide),comp_map (λc=>.str ⟨#[c]⟩) (λc=>.bl (decide (97<=c)&&decide (c<=122))) n.cps.toList (λc _ N M hN=>?_) ⟨n.cps.toList.map λc=>decide (97<=c)&&decide (c<=122),by rw[XG];rfl,?_⟩⟩)⟩
 .have e1:(!decide ((⟨#[c]⟩ : Str).cps.toList<("a":Str).cps.toList))=decide (97<=c):=by rw[show("a":Str)=⟨#[97]⟩from by decide +kernel];exact zH 97 c
  have e2:(!decide (("z":Str).cps.toList<(⟨#[c]⟩ : Str).cps.toList))=decide (c<=122):=by rw[show("z":Str)=⟨#[122]⟩from by decide +kernel];exact zH c 122
  refine sw2 (λh=>?_) λh=>?_
  .rw[<- e1,h,<- e2]at hN;exact hN
  .rw[<- e1,h]at hN;exact hN
 .have:((n.cps.toList.map λc=>decide (97<=c)&&decide (c<=122)).all λb=>b)=true:=by
   unfold Wd qH at hw;rw[UV]at hw;rw[List.all_map];exact hw.2
  rw[<- this]at q;exact q
def oH:ST:=λts q=>∃(n:Str)(r:Rat),ts=[.str n,frR r]/\Wd n/\q (.fz .non)
theorem DP(cC:gT 1 gb eE pY)(gZ:gT 2 lu iM nJ)(F:Fu kO ql f fd):FT 3 f fd iw oH:=by
 refine F.okT Dv λah A outer s H E hr nd=>?_;refine⟨_,(bB (cu (bW (bY (bF cC (bw (qv 0) bx))))
  (bD fB)
  bL)
  (bD (cu (bW (bY (bF gZ (bw (qv 1) bx))))
  (bD fB)
  bL))),?_⟩
 rintro _ R ⟨n,r,rfl,hw,q⟩;exact⟨_,rfl,hw,_,rfl,q⟩
def jr:ST:=λts q=>∃n:Str,ts=[.str n]/\Wd n/\q (.fz .non)
theorem uV(cC:gT 1 gb eE pY)(F:Fu gM jK f fd):FT 2 f fd dI jr:=by
 refine F.okT u5 λah A outer s H E hr nd=>?_;refine⟨_,(bD (cu (bW (bY (bF cC (bw (qv 0) bx))))
  (bD fB)
  bL)),?_⟩
 rintro _ R ⟨n,rfl,hw,q⟩;exact⟨_,rfl,hw,q⟩
def Ch(r:Rat):Prop:=0<=r/\r<=1/\Bd (r.den:Nat)
theorem Ch.bq{r:Rat}(h:Ch r):Bq r:=by
 have h0:=Rat.num_nonneg.mpr h.1;have h1:=(Rat.le_iff r 1).mp h.2.1;exact⟨JL (by have:r.num*((1:Rat).den:Int)<=(1:Rat).num*(r.den:Int):=h1;simp at this;omega) h.2.2,h.2.2⟩
theorem bq0:Bq 0:=⟨Nat.two_pow_pos 8000,Nat.one_lt_two_pow (by decide)⟩
theorem bq1:Bq 1:=⟨Nat.one_lt_two_pow (by decide),Nat.one_lt_two_pow (by decide)⟩
def lG:ST:=λts q=>∃r:Rat,ts=[frR r]/\Ch r/\q (.fz .non)
theorem zf(T:Tx D)(gZ:gT 2 lu iM nJ)(m6:gT 1 v7 pD Ca)(F:Fu ji mJ f fd):FT 3 f fd fL lG:=by
 refine F.okT yQ λah A outer s H E hr nd=>?_;refine⟨_,(bD (cu (QW.qt (d7 (bW (bY (bF gZ (bw (qv 0) bx)))) (d7 (bY (bF m6 (bw (qv 0) (bw (wU T.wO T.uo) bx)))) (dj (bY (bF m6 (bw (wU T.Lh T.Ci) (bw (qv 0) bx))))))))
  (bD fB)
  bL)),?_⟩
 rintro _ R ⟨r,rfl,hc,q⟩;refine⟨_,rfl,r,0,rfl,hc.bq,bq0,?_⟩;rw[Zp (Rat.not_lt.mpr hc.1)];refine⟨1,r,rfl,bq1,hc.bq,?_⟩;rw[Zp (Rat.not_lt.mpr hc.2.1)];exact q
def Ea(rs:List Rat):Rat:=rs.foldr (· + ·) 0
theorem Kp{B:Nat}(hB:B≠0):∀{rs:List Rat},(∀r∈rs,r.den ∣ B)->Rat.divInt (tops B rs).sum B=Ea rs
 |[],_=>by show Rat.divInt 0 _=0;exact Rat.zero_divInt _
 |r::rs,h=>by
  have ih:=Kp hB (rs:=rs) λx hx=>h x (aH _ hx);have lS:((B:Nat):Int)≠0:=by lia
  obtain⟨m,hm⟩:=h r (aO ..);show Rat.divInt (r.num*((B/r.den:Nat):Int)+(tops B rs).sum) B=r+Ea rs;have e1:r+Ea rs=Rat.divInt (r.num*B+(tops B rs).sum*r.den) (r.den*B):=by rw[<- UT _ _ (qp r) lS,rd,ih]
  rw[e1];refine(VU lS (pU (qp r) lS)).mpr ?_;have:B/r.den=m:=by rw[hm];exact Nat.mul_div_cancel_left _ r.den_pos
  rw[this,hm];simp only[Int.natCast_mul]
  grind
def JB:ST:=λts q=>∃rs:List Rat,ts=[.lst (rs.map frR)]/\rs.length<=1000/\(∀r∈rs,Bd r.num)/\Bd (jY 1 rs:Nat)/\q (.fz (frR (Ea rs)))
theorem Us(T:Tx D)(Jp:gT 2 Cp tO Jt)(lO:gT 2 vR pG Am)(F:Fu Ad Gh f fd):FT 3 f fd rH JB:=by
 refine F.okT Ug λah A outer s H E hr nd=>?_;refine⟨_,(bB (bU 1 (bF Jp (bw (qv 0) bx)))
  (bD (bK (bF lO (bw (bV (Ib rfl) T.PK boot_sum (bw (bG (qv 1) bA) bx)) (bw (bG (qv 1) bA) bx)))))),?_⟩
 rintro _ R ⟨rs,rfl,rl,hn,hB,q⟩;have hp:=uc rs Nat.one_pos;have hz:((jY 1 rs:Nat):Int)≠0:=by lia
 refine⟨rs,rfl,rl,hn,hB,_,rfl,_,_,rfl,hz,hB,λx y l=>?_⟩;rw[uz l hz,Kp (VW hp) (rF rs).2];exact q
abbrev wyT(p:Str×Rat):T:=.tup [.str p.1,frR p.2]
def qT:ST:=λts q=>∃ps:List (Str×Rat),ts=[.lst (ps.map wyT)]/\ps.length<=1000/\(∀p∈ps,Wd p.1/\Ch p.2)/\Bd (jY 1 (ps.map (·.2)):Nat)/\Ea (ps.map (·.2))=1/\q (.fz .non)
theorem Ba(T:Tx D)(d9:gT 2 gM dI jr)(gF:gT 3 ji fL lG)(Ji:gT 3 Ad rH JB)(F:Fu m5 kY f fd):FT 4 f fd iR qT:=by
 refine F.okT Ax λah A outer s H E hr nd=>?_;refine⟨_,(bB (iQ (dY (qv 0)) (jo (n:=2) (bT (cA (n:=99) 1) (bT (cA (n:=99) 2) gq)))
  (bB (jV (bF d9 (bw (qv 1) bx)))
  (bD (jV (bF gF (bw (qv 2) bx))))))
  (bD (cu (cD (mO hr.units) (bF Ji (bw (dh (bC kY) oN oN ["pair"] (dY (qv 0)) (fZ (i:=0)) cI (bG (qv 0) bA)) bx)) (wU T.Lh T.Ci))
  (bD fB)
  bL))),?_⟩
 rintro _ R ⟨ps,rfl,pl,hp,hB,hs,q⟩;refine kZ wyT ps (λ_ o=>∃x y,o=[.fz (.lst (ps.map wyT)),x,y]) ⟨_,_,rfl⟩ ?_ ?_
 .rintro as a bs _ e ⟨x,y,rfl⟩;obtain⟨h1,h2⟩:=hp a (e ▸ by simp);exact⟨rfl,_,rfl,h1,_,rfl,h2,_,_,rfl⟩
 .rintro _ ⟨x,y,rfl⟩;refine⟨aL (by simpa using pl) (by decide),comp_map wyT (λp=>frR p.2) ps (λp _ N M hN=>hN) ⟨ps.map (·.2),by rw[XG];rfl,by simpa using pl,λr hr=>?_,hB,?_⟩⟩
  .obtain⟨p,h8,rfl⟩:=YV.mp hr;exact(hp p h8).2.bq.1
  .rw[hs];exact q
def addW(ws:List (Str×Rat))(p:Str×Rat):List (Str×Rat):=if(ws.any λx=>decide (x.1=p.1))=true then ws.map (λx=>if x.1=p.1 then(x.1,x.2+p.2)else x)else ws++[p]
def jf(ps:List (Str×Rat)):List (Str×Rat):=ps.foldl addW []
abbrev wKs(ws:List (Str×Rat)):List Key:=ws.map λx=>.inr x.1
abbrev wTs(ws:List (Str×Rat)):List T:=ws.map λx=>frR x.2
theorem aam(ws:List (Str×Rat))(n:Str):Bk (wKs ws) (.inr n)=ws.any λx=>decide (x.1=n):=by
 unfold Bk;rw[List.any_map]
 congr 1
 funext x
 exact decide_eq_decide.mpr ⟨λz=>Sum.inr.inj z,λz=>ZH Sum.inr z⟩
theorem LR(n:Str):∀ws:List (Str×Rat),j9 (wKs ws) (wTs ws) (.inr n)=(ws.find? λx=>decide (x.1=n)).map λx=>frR x.2
 |[]=>rfl
 |x::ws=>by
  show(if(Sum.inr x.1:Key)=.inr n then some (frR x.2)else j9 (wKs ws) (wTs ws) (.inr n))=_;by_cases h:x.1=n
  .rw[ZY (ZH Sum.inr h),UP (p:=λx:Str×Rat=>decide (x.1=n)) (Zs h)];rfl
  .rw[ZZ λz=>h (Sum.inr.inj z),UK (p:=λx:Str×Rat=>decide (x.1=n)) (by show ¬decide (x.1=n)=true;rw[Zp h];decide),LR n ws]
def uU(ws:List (Str×Rat))(n:Str):Rat:=((ws.find? λx=>decide (x.1=n)).map (·.2)).getD 0
theorem Xj(ws:List (Str×Rat))(n:Str):((j9 (wKs ws) (wTs ws) (.inr n)).getD (frR 0))=frR (uU ws n):=by
 rw[LR];unfold uU;cases(ws.find? λx=>decide (x.1=n))<;>rfl
theorem Qg{ws:List (Str×Rat)}{n:Str}(nd:(ws.map (·.1)).Nodup){x:Str×Rat}(hx:x∈ws)(e:x.1=n):(ws.find? λy=>decide (y.1=n))=some x:=by
 induction ws with
 |nil=>cases hx
 |cons y ws ih =>
  obtain⟨n1,n2⟩:=List.nodup_cons.mp nd;rcases YU.mp hx with rfl|z
  .exact UP (p:=λy:Str×Rat=>decide (y.1=n)) (Zs e)
  .rw[UK (p:=λy:Str×Rat=>decide (y.1=n)) (by show ¬decide (y.1=n)=true;rw[Zp λw=>n1 (YV.mpr ⟨x,z,e.trans w.symm⟩)];decide)];exact ih n2 z
theorem ac5(ws:List (Str×Rat))(p:Str×Rat)(nd:(ws.map (·.1)).Nodup):kpK (wKs ws) (.inr p.1)=wKs (addW ws p)/\kpT (wKs ws) (wTs ws) (.inr p.1) (frR (uU ws p.1+p.2))=wTs (addW ws p):=by
 unfold kpK kpT addW;rw[aam];by_cases h:(ws.any λx=>decide (x.1=p.1))=true
 .rw[ZY h,ZY h,ZY h];refine⟨by simp only[wKs,XG];refine WP λx _=>?_;show(Sum.inr x.1:Key)=.inr (if x.1=p.1 then(x.1,x.2+p.2)else x).1;split<;>rfl,?_⟩
  clear h
  rw[show wTs (ws.map λx=>if x.1=p.1 then(x.1,x.2+p.2)else x)=ws.map ((λx=>frR x.2) ∘ λx=>if x.1=p.1 then(x.1,x.2+p.2)else x)from XG]
  suffices H:∀(us:List (Str×Rat)),(∀x∈us,x.1=p.1->x.2=uU ws p.1)->List.zipWith (λ(k:Key)x=>if k=.inr p.1 then frR (uU ws p.1+p.2)else x) (wKs us) (wTs us)=us.map ((λx=>frR x.2) ∘ λx=>if x.1=p.1 then(x.1,x.2+p.2)else x)from H ws λx hx e=>by
   unfold uU;rw[Qg nd hx e];rfl
  intro us
  induction us with
  |nil=>intro _;rfl
  |cons x us ih =>
   intro H;show List.zipWith _ (Sum.inr x.1::wKs us) (frR x.2::wTs us)=_;rw[List.zipWith_cons_cons,ih λy hy=>H y (aH _ hy),List.map_cons]
   congr 1
   by_cases e:x.1=p.1
   .rw[ZY (ZH Sum.inr e)];show _=frR (if x.1=p.1 then(x.1,x.2+p.2)else x).2;rw[ZY e,H x (aO ..) e]
   .rw[ZZ λz=>e (Sum.inr.inj z)];show _=frR (if x.1=p.1 then(x.1,x.2+p.2)else x).2;rw[ZZ e]
 .rw[ZZ h,ZZ h,ZZ h];have n0:uU ws p.1=0:=by
   unfold uU;rw[List.find?_eq_none.mpr λx hx z=>h (List.any_eq_true.mpr ⟨x,hx,z⟩)];rfl
  rw[n0,Rat.zero_add];simp only[wKs,wTs,bf];exact⟨rfl,rfl⟩
theorem Qh{α:Type}[DecidableEq α]{ws:List (α×Rat)}{p:α×Rat}(nd:(ws.map (·.1)).Nodup):((if(ws.any λx=>decide (x.1=p.1))=true then ws.map (λx=>if x.1=p.1 then(x.1,x.2+p.2)else x)else ws++[p]).map (·.1)).Nodup:=by
 by_cases h:(ws.any λx=>decide (x.1=p.1))=true
 .rw[ZY h,XG];rw[show ws.map ((λx=>x.1) ∘ λx=>if x.1=p.1 then(x.1,x.2+p.2)else x)=ws.map (·.1)from WP λx _=>by show(if x.1=p.1 then(x.1,x.2+p.2)else x).1=x.1;split<;>rfl];exact nd
 .rw[ZZ h,bf];refine List.nodup_append.mpr ⟨nd,by simp,λa ha b hb z=>h ?_⟩;obtain⟨x,hx,rfl⟩:=YV.mp ha;rw[List.map_singleton,YR]at hb;exact List.any_eq_true.mpr ⟨x,hx,Zs (z.trans hb)⟩
theorem YX{ws:List (Str×Rat)}{p:Str×Rat}(nd:(ws.map (·.1)).Nodup):((addW ws p).map (·.1)).Nodup:=Qh nd
theorem R3(as bs:List (Str×Rat)):jf (as++bs)=bs.foldl addW (jf as):=List.foldl_append ..
theorem K6(ps:List (Str×Rat)):((jf ps).map (·.1)).Nodup:=by
 suffices H:∀(ps ws:List (Str×Rat)),(ws.map (·.1)).Nodup->((ps.foldl addW ws).map (·.1)).Nodup from H ps [] .nil
 intro ps
 induction ps with
 |nil=>exact λ_ h=>h
 |cons p ps ih=>exact λws h=>ih _ (YX h)
theorem Ge(ps:List (Str×Rat)):(jf ps).length<=ps.length:=by
 suffices H:∀(ps ws:List (Str×Rat)),(ps.foldl addW ws).length<=ws.length+ps.length from by simpa[jf]using H ps []
 intro ps
 induction ps with
 |nil=>exact λ_=>aF _
 |cons p ps ih =>
  intro ws;have h1:(addW ws p).length<=ws.length+1:=by
   unfold addW;split
   .rw[ak];exact Xs _
   .rw[aA,List.length_singleton];exact aF _
  have:=ih (addW ws p);rw[List.foldl_cons,List.length_cons];lia
def Zw(ps:List (Str×Rat)):Prop:=∀as a bs,ps=as++a::bs->Bq (uU (jf as) a.1)/\Bq a.2/\Bd (((uU (jf as) a.1).den:Int)*a.2.den)
def vM(ps:List (Str×Rat)):List (Str×Rat):=(jf ps).filter λp=>!decide (p.2=0)
def sY:ST:=λts q=>∃ps:List (Str×Rat),ts=[.lst (ps.map wyT)]/\ps.length<=1000/\Zw ps/\q (.l1 ((vM ps).map wyT))
theorem CV(T:Tx D)(Mr:gT 3 Gy vG Qc)(F:Fu mD kj f fd):FT 4 f fd iG sY:=by
 refine F.okT Bh λah A outer s H E hr nd=>?_;refine⟨_,(bB (mq 1 zG)
  (bB (iQ (dY (qv 0)) (jo (n:=2) (bT (cA (n:=99) 2) (bT (cA (n:=99) 3) gq)))
  (bD (zT 1 (lJ hr) (bF Mr (bw (Qj 1 (lJ hr) (qv 2) (wU T.wO T.uo)) (bw (qv 3) bx))) (qv 2))))
  (bD (Wv 1 (bC kj) uE ["pairs","chances","?room","chance"] ["room"] (fZ (i:=0)) (Qf (cD (mO hr.units) (wW (lJ hr) (qv 2) (qv 0)) (wU T.wO T.uo))) (fK (bw (qv 0) (bw (wW (lJ hr) (qv 2) (qv 0)) bx))))))),?_⟩
 rintro _ R ⟨ps,rfl,pl,hb,q⟩;refine kZ wyT ps (λas o=>∃x y,o=[.fz (.lst (ps.map wyT)),.d1 (wKs (jf as)) (wTs (jf as)),x,y]) ⟨_,_,rfl⟩ ?_ ?_
 .rintro as a bs _ e ⟨x,y,rfl⟩;obtain⟨h1,h2,h3⟩:=hb as a bs e;refine⟨rfl,_,rfl,uU (jf as) a.1,a.2,ZH (λt=>[t,frR a.2]) (Xj (jf as) a.1),h1,h2,h3,_,rfl,?_,.fz (.str a.1),.fz (frR a.2),?_⟩
  .have:=Ge as;have:as.length<=ps.length:=by rw[e];simp
   rw[ak];exact Y3 (show _<=1000 by lia) (by decide)
  .obtain⟨k1,k2⟩:=ac5 (jf as) a (K6 as);rw[show jf (as++[a])=addW (jf as) a from by rw[R3];rfl,<- k1,<- k2]
   rfl
 .rintro _ ⟨x,y,rfl⟩;have jl:=Ge ps;refine⟨by rw[ak];exact aL (show _<=1000 by exact aL jl pl) (by decide),?_⟩;dsimp only;rw[show(wKs (jf ps)).map kT=(jf ps).map λp=>.str p.1 from XG];refine nO (λp=>.str p.1) (λp=>!decide (p.2=0)) wyT (jf ps) (λp hp N M hN hM=>?_) ?_
  rotate_left
  .exact q
  have ev:j9 (wKs (jf ps)) (wTs (jf ps)) (.inr p.1)=some (frR p.2):=by rw[LR,Qg (K6 ps) hp rfl];rfl
  refine⟨_,_,rfl,ev,?_⟩;have ez:(decide (p.2.num=0)&&decide ((p.2.den:Int)=1))=decide (p.2=0):=by
   by_cases z:p.2=0
   .rw[z];decide
   .rw[Zp z,Zp λy=>z (Rat.num_eq_zero.mp y)];rfl
  refine sw2 (λh=>⟨_,_,rfl,ev,hN ?_⟩) λh=>hM ?_
  .rw[<- h];exact ZH (λb=>!b) ez.symm
  .rw[<- h];exact ZH (λb=>!b) ez.symm
abbrev qw:Θ:=["name","pay","leads"]
abbrev drT(C:Addr)(n:Str)(p:Rat)(ws:List (Str×Rat)):T:=.ins C qw [.str n,frR p,.lst (ws.map wyT)]
def Gs(D:Adr):SI:=λC ks ts as R=>∃(n:Str)(p:Rat),ks=[]/\ts=[]/\Fam D C/\as=[.str n,frR p]/\Wd n/\R qw [.str n,frR p,.lst []]
theorem Gv(T:Tx D)(iU:gT 3 kO iw oH)(F:Fun K wL vK tW f fd):dO P w K mg base CX0 4 f fd iY (spI K (Gs D)):=by
 refine F.okI HD (λC ks ts as R hP=>by obtain⟨n,p,_,_,_,e,_⟩:=hP;exact e ▸ rfl) (by decide) λah A outer s H E hr nd=>?_;refine⟨_,(bB (jV (bF iU (bw (qv 1) (bw (qv 2) bx))))
  (bB (nR (Fm:=Fam D) 0 (λC h=>⟨T.cl C h,T.v8 C h⟩) (qv 1))
  (bB (nR (Fm:=Fam D) 0 (λC h=>⟨T.cl C h,T.Uq C h⟩) (qv 2))
  (bD (nR (Fm:=Fam D) 0 (λC h=>⟨T.cl C h,T.vW C h⟩) (fG bx)))))),?_⟩
 rintro a dx C _ _ _ R ⟨n,p,rfl,rfl,hC,rfl,hw,q⟩;exact⟨_,_,rfl,hw,⟨hC,by decide⟩,⟨hC,by decide⟩,⟨hC,by decide⟩,_,_,rfl,q⟩
theorem Uk(D:Adr):Fam D D.Sure:=by simp[Fam]
theorem Qz(D:Adr):Fam D D.Mixed:=by simp[Fam]
theorem Tn(D:Adr):Fam D D.Toss:=by simp[Fam]
theorem Tc(D:Adr):Fam D D.Even:=by simp[Fam]
theorem gA(D:Adr):Fam D D.Hall:=by simp[Fam]
def Pr(D:Adr):SI:=λC ks ts as R=>∃(n m:Str)(p:Rat),ks=[]/\ts=[]/\Fam D C/\as=[.str n,frR p,.str m]/\Wd n/\Wd m/\R qw [.str n,frR p,.lst ([(m,1)].map wyT)]
theorem HY(T:Tx D)(jy:OkI P w K mg base CX0 4 D.Door_init iY (spI K (Gs D)))(d9:gT 2 gM dI jr)(F:Fun K wj wV rZ f fd):dO P w K mg base CX0 5 f fd jA (spI K (Pr D)):=by
 refine F.okI H_ (λC ks ts as R hP=>by obtain⟨n,p,_,_,_,_,e,_⟩:=hP;exact e ▸ rfl) (by decide) λah A outer s H E hr nd=>?_;refine⟨_,(bB (zy 0 T.vo jy T.Uj (bw (qv 1) (bw (qv 2) bx)))
  (bB (jV (bF d9 (bw (qv 3) bx)))
  (bD (nR (Fm:=Fam D) 0 (λC h=>⟨T.cl C h,T.vW C h⟩) (fG (bw (fK (bw (qv 3) (bw (wU T.Lh T.Ci) bx))) bx)))))),?_⟩
 rintro a dx C _ _ _ R ⟨n,m,p,rfl,rfl,hC,rfl,hw,hm,q⟩;exact⟨_,_,rfl,rfl,hC,rfl,hw,_,rfl,hm,⟨hC,by decide⟩,_,_,rfl,q⟩
structure Prs(ps:List (Str×Rat)):Prop where
 few:ps.length<=1000
 ok:∀p∈ps,Wd p.1/\Ch p.2
 bd:Bd (jY 1 (ps.map (·.2)):Nat)
 one:Ea (ps.map (·.2))=1
 jb:Zw ps
def wY(D:Adr):SI:=λC ks ts as R=>∃(n:Str)(p:Rat)(ps:List (Str×Rat)),ks=[]/\ts=[]/\Fam D C/\as=[.str n,frR p,.lst (ps.map wyT)]/\Wd n/\Prs ps/\R qw [.str n,frR p,.lst ((vM ps).map wyT)]
theorem Dy(T:Tx D)(jy:OkI P w K mg base CX0 4 D.Door_init iY (spI K (Gs D)))(oA:gT 4 m5 iR qT)(oO:gT 4 mD iG sY)(F:Fun K uJ uF p7 f fd):dO P w K mg base CX0 5 f fd gj (spI K (wY D)):=by
 refine F.okI Eo (λC ks ts as R hP=>by obtain⟨n,p,_,_,_,_,e,_⟩:=hP;exact e ▸ rfl) (by decide) λah A outer s H E hr nd=>?_;refine⟨_,(bB (zy 0 T.vo jy T.Uj (bw (qv 1) (bw (qv 2) bx)))
  (bB (jV (bF oA (bw (qv 3) bx)))
  (bD (nR (Fm:=Fam D) 0 (λC h=>⟨T.cl C h,T.vW C h⟩) (bF oO (bw (qv 3) bx)))))),?_⟩
 rintro a dx C _ _ _ R ⟨n,p,ps,rfl,rfl,hC,rfl,hw,h,q⟩;exact⟨_,_,rfl,rfl,hC,rfl,hw,_,rfl,h.few,h.ok,h.bd,h.one,_,rfl,h.few,h.jb,⟨hC,by decide⟩,_,_,rfl,q⟩
def O8(D:Adr):SI:=λC ks ts as R=>∃(n x y:Str)(p c:Rat),ks=[]/\ts=[]/\Fam D C/\as=[.str n,frR p,frR c,.str x,.str y]/\Wd n/\Ch c/\Prs [(x,c),(y,1-c)]/\R qw [.str n,frR p,.lst ((vM [(x,c),(y,1-c)]).map wyT)]
theorem Je(T:Tx D)(iU:gT 3 kO iw oH)(gF:gT 3 ji fL lG)(G7:gT 3 Cz qP Lj)(eN:OkI P w K mg base CX0 5 D.Mixed_init gj (spI K (wY D)))(F:Fun K wg vg sZ f fd):dO P w K mg base CX0 6 f fd jU (spI K (O8 D)):=by
 refine F.okI Hi (λC ks ts as R hP=>by obtain⟨n,_,_,p,_,_,_,_,e,_⟩:=hP;exact e ▸ rfl) (by decide) λah A outer s H E hr nd=>?_;refine⟨_,(bB (jV (bF iU (bw (qv 1) (bw (qv 2) bx))))
  (bB (jV (bF gF (bw (qv 3) bx)))
  (bD (zy 0 T.uK eN T.Ja (bw (qv 1) (bw (qv 2) (bw (fG (bw (fK (bw (qv 4) (bw (qv 3) bx))) (bw (fK (bw (qv 5) (bw (bF G7 (bw (wU T.Lh T.Ci) (bw (qv 3) bx))) bx))) bx))) bx))))))),?_⟩
 rintro a dx C _ _ _ R ⟨n,x,y,p,c,rfl,rfl,hC,rfl,hw,hc,h,q⟩;refine⟨_,_,rfl,hw,_,rfl,hc,1,c,rfl,bq1,hc.bq,?_,n,p,_,rfl,rfl,hC,rfl,hw,h,_,_,rfl,q⟩;rw[show(((1:Rat).den:Nat):Int)*(c.den:Int)=(c.den:Int)from Int.one_mul _];exact hc.2.2
def even(aT:Θ):List (Str×Rat):=aT.map λr=>(r,mkRat 1 aT.length)
theorem aaX{n:Nat}(h:0<n):frR (mkRat 1 n)=.tup [.int 1,.int (n:Nat)]:=by
 have:mkRat 1 n=⟨1,n,by exact VW h,by show Nat.Coprime 1 n;exact Nat.coprime_one_left n⟩:=by
  rw[Rat.mk_eq_divInt];rfl
 rw[this]
def Og(D:Adr):SI:=λC ks ts as R=>∃(n:Str)(p:Rat)(aT:Θ),ks=[]/\ts=[]/\Fam D C/\as=[.str n,frR p,.lst (aT.map T.str)]/\Wd n/\Prs (even aT)/\R qw [.str n,frR p,.lst ((vM (even aT)).map wyT)]
theorem HW(T:Tx D)(eN:OkI P w K mg base CX0 5 D.Mixed_init gj (spI K (wY D)))(F:Fun K wu vY nF f fd):dO P w K mg base CX0 6 f fd jC (spI K (Og D)):=by
 refine F.okI Hq (λC ks ts as R hP=>by obtain⟨n,p,_,_,_,_,e,_⟩:=hP;exact e ▸ rfl) (by decide) λah A outer s H E hr nd=>?_;refine⟨_,(bD (zy 0 T.uK eN T.Ja (bw (qv 1) (bw (qv 2) (bw (dh (bC nF) rG rG ["room"] (mQ (qv 3)) (fZ (i:=0)) cI (fK (bw (qv 0) (bw (fK (bw bA (bw (bV jZ T.jW WV (bw (qv 4) bx)) bx))) bx)))) bx))))),?_⟩;rintro a dx C _ _ _ R ⟨n,p,aT,rfl,rfl,hC,rfl,hw,h,q⟩;have hl:aT.length<=1000:=by have:=h.few;rwa[even,ak]at this
 refine⟨by rw[ak];exact aL hl (by decide),comp_map L2.T.str (λr=>wyT (r,mkRat 1 aT.length)) aT (λr hr N M hN=>?_) ⟨n,p,even aT,rfl,rfl,hC,?_,hw,h,_,_,rfl,q⟩⟩
 .rw[show wyT (r,mkRat 1 aT.length)=.tup [.str r,frR (mkRat 1 aT.length)]from rfl,aaX (List.length_pos_of_mem hr),<- ak (f:=L2.T.str)]at hN;exact hN
 .unfold even;rw[XG]
  rfl
def vA(D:Adr):ST:=λts q=>∃(C:Addr)(n:Str)(p:Rat)(ws:List (Str×Rat)),ts=[drT C n p ws]/\Fam D C/\q (.l1 (ws.map wyT))
theorem Hv(T:Tx D)(F:Fun K vO xq rT f fd):FT 1 f fd jP (vA D):=by
 refine F.okT Ik λah A outer s H E hr nd=>?_;refine⟨_,(bD (bK (lW W_ T.rA boot_list (bw (gG (Fm:=Fam D) (λC h=>⟨T.cl C h,T.vW C h⟩) (qv 0)) bx)))),?_⟩;rintro _ R ⟨C,n,p,ws,rfl,hC,q⟩;exact⟨hC,_,rfl,q⟩
structure cF where
 name:Str
 pay:Rat
 ways:List (Nat×Rat)
abbrev nwT(p:Nat×Rat):T:=.tup [.int (p.1:Nat),frR p.2]
abbrev ofT(o:cF):T:=.tup [.str o.name,frR o.pay,.lst (o.ways.map nwT)]
abbrev cM:Θ:=["share","numbers","offered"]
abbrev nmK(ns:Θ):List Key:=ns.map Sum.inr
abbrev nmT(ns:Θ):List T:=(List.range ns.length).map λk:Nat=>.int k
abbrev hlT(D:Adr)(s:Rat)(ns:Θ)(off:List (List cF)):T:=.ins D.Hall cM [frR s,.dct (nmK ns) (nmT ns),.lst (off.map λds=>.lst (ds.map ofT))]
def rY:ST:=λts q=>∃r:Rat,ts=[frR r]/\0<=r/\r<1/\Bq r/\q (.fz .non)
theorem Bb(T:Tx D)(gZ:gT 2 lu iM nJ)(m6:gT 1 v7 pD Ca)(F:Fu lZ oK f fd):FT 3 f fd iH rY:=by
 refine F.okT Ar λah A outer s H E hr nd=>?_;refine⟨_,(bD (cu (QW.qt (d7 (bW (bY (bF gZ (bw (qv 0) bx)))) (d7 (bY (bF m6 (bw (qv 0) (bw (wU T.wO T.uo) bx)))) (dj (bW (bY (bF m6 (bw (qv 0) (bw (wU T.Lh T.Ci) bx)))))))))
  (bD fB)
  bL)),?_⟩
 rintro _ R ⟨r,rfl,h0,h1,hb,q⟩;refine⟨_,rfl,r,0,rfl,hb,bq0,?_⟩;rw[Zp (Rat.not_lt.mpr h0)];refine⟨r,1,rfl,hb,bq1,?_⟩;rw[Zs h1];exact q
theorem Wc(ns:Θ)(n:Str)(h:n∉ns):Bk (nmK ns) (.inr n)=false:=by
 unfold Bk;rw[List.any_map];exact List.any_eq_false.mpr λx hx z=>h ((Sum.inr.inj (of_decide_eq_true z)) ▸ hx)
theorem Jq{α:Type}(n:Str):∀(ns:Θ)(ts:List α),n∉ns->j9 (nmK ns) ts (.inr n)=none
 |[],_,_=>rfl
 |_::_,[],_=>rfl
 |m::ns,t::ts,h=>by
  show(if(Sum.inr m:Key)=.inr n then some t else j9 (nmK ns) ts (.inr n))=none;rw[ZZ λz=>h (by rw[Sum.inr.inj z];exact aO ..)];exact Jq n ns ts λz=>h (aH _ z)
theorem Ip{α:Type}{n:Str} : ∀{ns:Θ}{ts:List α}{k:Nat}{t:α},ns.Nodup->ns[k]?=some n->ts[k]?=some t->j9 (nmK ns) ts (.inr n)=some t
 |[],_,_,_,_,e,_=>by cases e
 |m::ns,[],_,_,_,_,e=>by cases e
 |m::ns,u::ts,k,t,nd,e1,e2=>by
  obtain⟨n1,n2⟩:=List.nodup_cons.mp nd;show(if(Sum.inr m:Key)=.inr n then some u else j9 (nmK ns) ts (.inr n))=some t;cases k with
  |zero=>cases e1;cases e2;exact ZY rfl
  |succ k =>
   have gX:ns[k]?=some n:=by simpa using e1
   rw[ZZ λ(z:(Sum.inr m:Key)=.inr n)=>n1 (by rw[Sum.inr.inj z];exact aB gX)];exact Ip n2 gX (by simpa using e2)
theorem abm(ns:Θ)(n:Str)(h:n∉ns):kpK (nmK ns) (.inr n)=nmK (ns++[n])/\kpT (nmK ns) (nmT ns) (.inr n) (.int (ns.length:Nat))=nmT (ns++[n]):=by
 unfold kpK kpT;rw[Wc ns n h];refine⟨by rw[ZZ (by decide)];simp[nmK],?_⟩;rw[ZZ (by decide)];simp only[nmT,aA,List.length_singleton,List.range_succ,bf,List.map_singleton]
structure NWk(ns:Θ)(us:List (Nat×Rat)):Prop where
 few:us.length<=1000
 lt:∀p∈us,p.1<ns.length
abbrev z8(ns:Θ)(us:List (Nat×Rat)):List (Str×Rat):=us.map λp=>(ns.getD p.1 ⟨#[]⟩,p.2)
def pI(D:Adr):ST:=λts q=>∃(C:Addr)(n:Str)(p:Rat)(ns:Θ)(us:List (Nat×Rat)),ts=[drT C n p (z8 ns us),.dct (nmK ns) (nmT ns)]/\c7 D C/\ns.Nodup/\NWk ns us/\q (.l1 (us.map nwT))
theorem yp(T:Tx D)(rJ:gI 1 D.Door_ways jP (vA D))(F:Fu j7 lA f fd):FT 2 f fd gw (pI D):=by
 refine F.okT xJ λah A outer s H E hr nd=>?_;refine⟨_,(bB (mq 2 (fG bx))
  (bB (iQ (dY (QE.any λC(hC:c7 D C)=>k_ (qv 0) (T.cl C hC.fam) (T.GQ C hC) rJ (KS:=qw))) (jo (n:=2) (bT (cA (n:=99) 3) (bT (cA (n:=99) 4) gq)))
  (bB (cu (xT (lJ hr) (qv 3) (qv 1))
  (bD fB)
  bL)
  (bD (xP 2 (fK (bw (wW (lJ hr) (qv 1) (qv 3)) (bw (qv 4) bx)))))))
  (bD (wH 2)))),?_⟩
 rintro _ R ⟨C,n,p,ns,us,rfl,hC,nd,hu,q⟩;refine⟨C,hC,⟨rfl,rfl⟩,C,n,p,_,rfl,hC.fam,?_⟩;show tU _ _ _ (List.map wyT (z8 ns us)) _;rw[show(z8 ns us).map wyT=us.map λp=>wyT (ns.getD p.1 ⟨#[]⟩,p.2)from XG];refine kZ (λp=>wyT (ns.getD p.1 ⟨#[]⟩,p.2)) us (λas o=>∃x y,o=[.fz (drT C n p (z8 ns us)),.fz (.dct (nmK ns) (nmT ns)),.l1 (as.map nwT),x,y]) ⟨_,_,rfl⟩ ?_ ?_
 .rintro as a bs _ e ⟨x,y,rfl⟩;have lt:=hu.lt a (e ▸ by simp);have al:as.length<us.length:=by rw[e];simp
  have few:=hu.few;have en:ns[a.1]?=some (ns.getD a.1 ⟨#[]⟩):=by rw[au,aj lt];rfl
  have ev:j9 (nmK ns) (nmT ns) (.inr (ns.getD a.1 ⟨#[]⟩))=some (.int (a.1:Nat)):=Ip nd en (by rw[aq,WG lt];rfl);refine⟨rfl,_,rfl,?_⟩;rw[ev];refine⟨_,_,rfl,ev,by rw[ak];exact Y3 (show _<=1000 by exact aL (Y2 al) few) (by decide),.fz (.str (ns.getD a.1 ⟨#[]⟩)),.fz (frR a.2),?_⟩;rw[bf]
  rfl
 .rintro _ ⟨x,y,rfl⟩;exact q
structure Made where
 cls:Addr
 of:cF
abbrev mdT(ns:Θ)(m:Made):T:=drT m.cls m.of.name m.of.pay (z8 ns m.of.ways)
structure Mds(D:Adr)(ns:Θ)(ds:List Made):Prop where
 few:ds.length<=1000
 cls:∀m∈ds,c7 D m.cls
 ways:∀m∈ds,NWk ns m.of.ways
 nd:(ds.map λm=>m.of.name).Nodup
theorem Xm(ns:Θ)(n:Str)(h:n∉ns):kpK (nmK ns) (.inr n)=nmK (ns++[n])/\kpT (nmK ns) (ns.map λ_=>L2.T.bl true) (.inr n) (.bl true)=(ns++[n]).map λ_=>L2.T.bl true:=by
 unfold kpK kpT;rw[Wc ns n h];refine⟨by rw[ZZ (by decide)];simp[nmK],?_⟩;rw[ZZ (by decide)];simp
structure Zd(D:Adr)(ns:Θ)(b5:List (List Made)):Prop where
 len:b5.length=ns.length
 few:ns.length<=1000
 wd:∀n∈ns,Wd n
 nd:ns.Nodup
 mds:∀ds∈b5,Mds D ns ds
abbrev offs(b5:List (List Made)):List (List cF):=b5.map λds=>ds.map λm=>m.of
structure Df(ns:Θ)(off:List (List cF)):Prop where
 len:off.length=ns.length
 few:ns.length<=1000
 fews:∀ds∈off,ds.length<=1000
def lK(D:Adr):ST:=λts q=>∃(s:Rat)(ns:Θ)(off:List (List cF)),ts=[hlT D s ns off]/\q (.fz (.int (ns.length:Nat)))
theorem Jk(T:Tx D)(F:Fun K qu pJ nU f fd):FT 1 f fd eU (lK D):=by
 refine F.okT vV λah A outer s H E hr nd=>?_;refine⟨_,(bD (bK (bV G3 T.jW WV (bw (gG (Fm:=Fam D) (λC h=>⟨T.cl C h,T.gY C h⟩) (qv 0)) bx)))),?_⟩;rintro _ R ⟨s,ns,off,rfl,q⟩;refine⟨gA D,_,rfl,?_⟩;rw[<- ak (f:=(Sum.inr:Str->Key))]at q;exact q
def oG(D:Adr):ST:=λts q=>∃(s:Rat)(ns:Θ)(off:List (List cF))(k:Nat),ts=[hlT D s ns off,.int k]/\k<ns.length/\q (.fz .non)
theorem DN(T:Tx D)(cQ:gT 1 iK fP jx)(dD:gI 1 D.Hall_size eU (lK D))(F:Fun K gW gO fX f fd):FT 2 f fd bZ (oG D):=by
 refine F.okT jt λah A outer s H E hr nd=>?_;refine⟨_,(bD (cu (QW.qt (d7 (bW (bY (bF cQ (bw (qv 1) bx)))) (dj (bW (rN Ce Fd bA (qv 1) (k_ (qv 0) T.cR T.jM dD (KS:=cM)))))))
  (bD fB)
  bL)),?_⟩
 rintro _ R ⟨s,ns,off,k,rfl,hk,q⟩;refine⟨_,_,rfl,rfl,⟨rfl,rfl⟩,_,_,_,rfl,?_⟩;show sw (!decide ((k:Int)<(ns.length:Nat))) _ _;rw[Zs (show(k:Int)<(ns.length:Nat)by lia)];exact q
def yg(D:Adr):ST:=λts q=>∃(s:Rat)(ns:Θ)(off:List (List cF))(k:Nat)(ds:List cF),ts=[hlT D s ns off,.int k]/\Df ns off/\off[k]?=some ds/\q (.l1 (ds.map ofT))
theorem fj{α:Type}{l:List α}{h:α->T}{k:Nat}{a:α}(e:l[k]?=some a):ixT (l.map h) (k:Nat)=some (h a):=by
 show nth (l.map h) k=_;rw[uT,aq,e];rfl
theorem QL(T:Tx D)(cX:gI 2 D.Hall_check_room bZ (oG D))(F:Fun K jO jE eX f fd):FT 3 f fd cZ (yg D):=by
 refine F.okT mF λah A outer s H E hr nd=>?_;refine⟨_,(bB (jV (nu (qv 0) T.cR T.fu cX (bw (qv 1) bx) (KS:=cM)))
  (bD (bK (dh (bC eX) f9 f9 ["name","pay","numbered"] (mQ (bG (gG (Fm:=Fam D) (λC h=>⟨T.cl C h,T.j5 C h⟩) (qv 0)) (qv 1))) (jo (n:=3) (bT (fZ (i:=0)) (bT (fZ (i:=1)) (bT (fZ (i:=2)) gq)))) cI (fK (bw (qv 0) (bw (qv 1) (bw (lW Ak T.rA boot_list (bw (qv 2) bx)) bx)))))))),?_⟩
 rintro _ R ⟨s,ns,off,k,ds,rfl,h,e,q⟩;have lk:k<ns.length:=by rw[<- h.len];exact(ao.mp e).1
 refine⟨⟨rfl,rfl⟩,s,ns,off,k,rfl,lk,gA D,_,rfl,.lst (ds.map ofT),fj (h:=λds=>L2.T.lst (ds.map ofT)) e,by rw[ak];exact aL (h.fews ds (aB e)) (by decide),comp_map ofT ofT ds (λo _ N M hN=>⟨rfl,hN⟩) q⟩
abbrev rmZ(p:Str×List T):T:=.tup [.str p.1,.scr p.2]
def yL:ST:=λts q=>∃ee:List (Str×List T),ts=[.scr (ee.map rmZ)]/\ee.length<=1000/\(∀p∈ee,Wd p.1)/\(ee.map (·.1)).Nodup/\q (.d1 (nmK (ee.map (·.1))) (nmT (ee.map (·.1))))
theorem JM(T:Tx D)(cC:gT 1 gb eE pY)(F:Fu ou pL f fd):FT 2 f fd je yL:=by
 refine F.okT Ej λah A outer s H E hr nd=>?_;refine⟨_,(bB (mq 1 zG)
  (bB (iQ (mQ (qv 0)) (cA (n:=99) 2)
  (bB (bU 3 (bG (qv 2) bA))
  (bB (cu (QW.qt (d7 (bW (bY (bF cC (bw (qv 3) bx)))) (dj (Cj 1 (T3 (lJ hr) (qv 3) (qv 1))))))
  (bD fB)
  bL)
  (bD (zT 1 (lJ hr) (ZL 1 (bV G3 T.jW WV (bw (qv 1) bx))) (qv 3))))))
  (bD (wH 1)))),?_⟩
 rintro _ R ⟨ee,rfl,rl,hw,nd,q⟩;refine kZ rmZ ee (λas o=>∃x y,o=[.fz (.scr (ee.map rmZ)),.d1 (nmK (as.map (·.1))) (nmT (as.map (·.1))),x,y]) ⟨_,_,rfl⟩ ?_ ?_
 .rintro as a bs _ e ⟨x,y,rfl⟩;have na:a.1∉as.map (·.1):=by
   rw[e,bf,List.map_cons]at nd;exact λz=>(List.nodup_append.mp nd).2.2 a.1 z a.1 (aO ..) rfl
  have al:as.length<=ee.length:=by rw[e];simp
  refine⟨_,rfl,hw a (e ▸ by simp),_,rfl,?_⟩;rw[Jq a.1 _ _ na];refine⟨trivial,_,rfl,by rw[ak,ak];exact Y3 (show _<=1000 by exact aL al rl) (by decide),.fz (rmZ a),.fz (.str a.1),?_⟩;obtain⟨k1,k2⟩:=abm (as.map (·.1)) a.1 na;rw[bf,List.map_singleton,<- k1,<- k2];simp only[ak]
  rfl
 .rintro _ ⟨x,y,rfl⟩;exact q
def Cu(D:Adr):ST:=λts q=>∃(ns:Θ)(ds:List Made),ts=[.scr (ds.map (mdT ns)),.dct (nmK ns) (nmT ns)]/\ns.Nodup/\Mds D ns ds/\q (.l1 (ds.map λm=>ofT m.of))
theorem M_(T:Tx D)(lE:gT 2 j7 gw (pI D))(F:Fu pO tG f fd):FT 3 f fd jJ (Cu D):=by
 refine F.okT GR λah A outer s H E hr nd=>?_;refine⟨_,(bB (mq 2 zG)
  (bB (mq 3 (fG bx))
  (bB (iQ (mQ (qv 0)) (cA (n:=99) 4)
  (bB (cu (Cj 2 (T3 (lJ hr) (gG (Fm:=Fam D) (λC h=>⟨T.cl C h,T.v8 C h⟩) (qv 4)) (qv 2)))
  (bD fB)
  bL)
  (bB (zT 2 (lJ hr) gk (gG (Fm:=Fam D) (λC h=>⟨T.cl C h,T.v8 C h⟩) (qv 4)))
  (bD (xP 3 (fK (bw (gG (Fm:=Fam D) (λC h=>⟨T.cl C h,T.v8 C h⟩) (qv 4)) (bw (gG (Fm:=Fam D) (λC h=>⟨T.cl C h,T.Uq C h⟩) (qv 4)) (bw (bF lE (bw (qv 4) (bw (qv 1) bx))) bx)))))))))
  (bD (wH 3))))),?_⟩
 rintro _ R ⟨ns,ds,rfl,nd,hd,q⟩;refine kZ (mdT ns) ds (λas o=>∃x,o=[.fz (.scr (ds.map (mdT ns))),.fz (.dct (nmK ns) (nmT ns)),.d1 (nmK (as.map λm=>m.of.name)) ((as.map λm=>m.of.name).map λ_=>.bl true),.l1 (as.map λm=>ofT m.of),x]) ⟨_,rfl⟩ ?_ ?_
 .rintro as a bs _ e ⟨x,rfl⟩;have na:a.of.name∉as.map λm=>m.of.name:=by
   have nd:=hd.nd;rw[e,bf,List.map_cons]at nd;exact λz=>(List.nodup_append.mp nd).2.2 _ z _ (aO ..) rfl
  have al:as.length<ds.length:=by rw[e];simp
  have few:=hd.few;have ma:a∈ds:=e ▸ by simp
  have hc:=hd.cls a ma;refine⟨hc.fam,_,rfl,_,rfl,?_⟩;rw[Jq _ _ _ na];refine⟨hc.fam,_,rfl,_,rfl,by rw[ak,ak];exact Y3 (show _<=1000 by exact aL (Y2 al) few) (by decide),hc.fam,_,rfl,hc.fam,_,rfl,_,_,_,ns,a.of.ways,rfl,hc,nd,hd.ways a ma,by rw[ak];exact Y3 (show _<=1000 by exact aL (Y2 al) few) (by decide),.fz (mdT ns a),?_⟩;obtain⟨k1,k2⟩:=Xm (as.map λm=>m.of.name) a.of.name na;rw[show(as++[a]).map (λm=>m.of.name)=as.map (λm=>m.of.name)++[a.of.name]from bf,<- k1,<- k2,bf]
  rfl
 .rintro _ ⟨x,rfl⟩;exact q
abbrev V8(ns:Θ)(b5:List (List Made)):List T:=(ns.zip b5).map λp=>rmZ (p.1,p.2.map (mdT ns))
def Jv(D:Adr):SI:=λC ks ts as R=>∃(s:Rat)(ns:Θ)(b5:List (List Made)),C=D.Hall/\ks=[]/\ts=[]/\as=[frR s,.scr (V8 ns b5)]/\0<=s/\s<1/\Bq s/\Zd D ns b5/\R cM [frR s,.dct (nmK ns) (nmT ns),.lst ((offs b5).map λds=>.lst (ds.map ofT))]
theorem Eb(T:Tx D)(oM:gT 3 lZ iH rY)(pQ:gT 2 ou je yL)(qO:gT 3 pO jJ (Cu D))(F:Fun K wR wz n_ f fd):dO P w K mg base CX0 4 f fd jR (spI K (Jv D)):=by
 refine F.okI Iu (λC ks ts as R hP=>by obtain⟨n,p,_,_,_,_,e,_⟩:=hP;exact e ▸ rfl) (by decide) λah A outer s H E hr nd=>?_;refine⟨_,(bB (jV (bF oM (bw (qv 1) bx)))
  (bB (nR (Fm:=Fam D) 0 (λC h=>⟨T.cl C h,T.CQ C h⟩) (qv 1))
  (bB (nR (Fm:=Fam D) 0 (λC h=>⟨T.cl C h,T.gY C h⟩) (bF pQ (bw (qv 2) bx)))
  (bD (nR (Fm:=Fam D) 0 (λC h=>⟨T.cl C h,T.j5 C h⟩) (dh (bC n_) sH sH ["room"] (mQ (qv 2)) (fZ (i:=0)) cI (bF qO (bw (bG (qv 0) bA) (bw (XR (Fm:=Fam D) 1 (λC h=>⟨T.cl C h,T.gY C h⟩)) bx))))))))),?_⟩
 rintro a dx C _ _ _ R ⟨s,ns,b5,rfl,rfl,rfl,rfl,s0,s1,sb,h,q⟩;have z1:(ns.zip b5).map (·.1)=ns:=List.map_fst_zip (by have:=h.len;exact X9 (Eq.symm this));have z2:(ns.zip b5).map (·.2)=b5:=List.map_snd_zip (by have:=h.len;exact X9 this);have zl:(ns.zip b5).length=ns.length:=by rw[WU,h.len,WS]
 have hf:=gA D;have few:=h.few;refine⟨_,rfl,s0,s1,sb,⟨hf,by decide⟩,(ns.zip b5).map λp=>(p.1,p.2.map (mdT ns)),by rw[XG];rfl,by rw[ak,zl];exact few,λp hp=>?_,?_,⟨hf,by decide⟩,?_⟩
 .obtain⟨x,hx,rfl⟩:=YV.mp hp;exact h.wd x.1 (z1 ▸ YV.mpr ⟨x,hx,rfl⟩)
 .rw[XG];exact z1.symm ▸ h.nd
 .rw[show((ns.zip b5).map λp=>(p.1,p.2.map (mdT ns))).map (·.1)=ns from List.map_map.trans z1];refine⟨by rw[ak,zl];exact aL few (by decide),comp_map (λp=>rmZ (p.1,p.2.map (mdT ns))) (λp=>.lst (p.2.map λm=>ofT m.of)) (ns.zip b5) (λp hp N M hN=>?_) ⟨⟨hf,by decide⟩,_,_,rfl,?_⟩⟩
  .exact⟨hf,_,rfl,ns,p.2,rfl,h.nd,h.mds p.2 (z2 ▸ YV.mpr ⟨p,hp,rfl⟩),hN⟩
  .have:(ns.zip b5).map (λp=>L2.T.lst (p.2.map λm=>ofT m.of))=(offs b5).map λds=>.lst (ds.map ofT):=by
    rw[show(offs b5).map (λds=>L2.T.lst (ds.map ofT))=b5.map λds=>.lst (ds.map λm=>ofT m.of)from by simp[offs,XG,Function.comp_def]]
    conv=>rhs;rw[<- z2,XG]
    rfl
   rw[<- this]at q;exact q
def wdT:L2.T->Option Bool
 |.str n=>if n.length<=1000 then some (qH n.cps.toList)else none
 |.int _=>some false
 |.bl _=>some false
 |.non=>some false
 |.lst _=>some false
 |.tup _=>some false
 |_=>none
def lq:ST:=λts q=>∃t:L2.T,ts=[t]/\oT (wdT t) λb=>q (.fz (.bl b))
theorem K_(T:Tx D)(F:Fu gb lV f fd):FT 1 f fd eE lq:=by
 refine F.okT Al λah A outer s H E hr nd=>?_;refine⟨_,(bB (cu (QW.qt (d7 (bW (bY (jN .str (qv 0) T.bO T.TJ boot_str))) (dj (bW (rN Ce Ce bA (bV O2 T.jW WV (bw (qv 0) bx)) (Jw T.sG λ_=>.int _))))))
  (bD (bK gk))
  bL)
  (bD (bK (bV (Gi rfl) T.Qk boot_all (bw (dh (bC lV) pA pA ["sign"] (U9 (qv 0)) (fZ (i:=0)) cI (Ku HF HF j4 (qv 0) j4)) bx))))),?_⟩
 rintro _ R ⟨t,rfl,h⟩;obtain⟨b,e,q⟩:=CT h;cases t with
 |str n =>
  have e:(if n.length<=1000 then some (qH n.cps.toList)else none)=some b:=e;by_cases l:n.length<=1000
  .rw[ZY l]at e;cases e;have ln:n.cps.toList.length=n.length:=Array.length_toList;refine⟨aL l (by decide),?_⟩;unfold qH at q;rw[ln]at q;refine swD (λh1=>?_) λh1=>?_
   .rw[Zs (show 1<=n.length by lia),Bool.true_and]at q;refine sw2 (λh2=>?_) λh2=>⟨by rw[ak,ln];exact aL l (by decide),comp_map (λc=>.str ⟨#[c]⟩) (λc=>.bl (decide (97<=c)&&decide (c<=122))) n.cps.toList (λc _ N M hN=>?_) ⟨n.cps.toList.map λc=>decide (97<=c)&&decide (c<=122),by rw[XG];rfl,?_⟩⟩
    .have h2:¬((n.length:Nat):Int)<=8:=λz=>by rw[Zs z]at h2;cases h2
     rw[Zp (show ¬n.length<=8 by lia),Bool.false_and]at q;exact q
    .have e1:(!decide ((⟨#[c]⟩ : Str).cps.toList<("a":Str).cps.toList))=decide (97<=c):=by rw[show("a":Str)=⟨#[97]⟩from by decide +kernel];exact zH 97 c
     have e2:(!decide (("z":Str).cps.toList<(⟨#[c]⟩ : Str).cps.toList))=decide (c<=122):=by rw[show("z":Str)=⟨#[122]⟩from by decide +kernel];exact zH c 122
     refine sw2 (λh=>?_) λh=>?_
     .rw[<- e1,h,<- e2]at hN;exact hN
     .rw[<- e1,h]at hN;exact hN
    .have h2:((n.length:Nat):Int)<=8:=Decidable.byContradiction λz=>by rw[Zp z]at h2;cases h2
     rw[Zs (show n.length<=8 by lia),Bool.true_and]at q;show R (.fz (.bl ((n.cps.toList.map λc=>decide (97<=c)&&decide (c<=122)).all λb=>b)));rw[show((n.cps.toList.map λc=>decide (97<=c)&&decide (c<=122)).all λb=>b)=n.cps.toList.all λc=>decide (97<=c)&&decide (c<=122)from List.all_map];exact q
   .rw[Zp (show ¬1<=n.length by lia)]at q;exact q
  .rw[ZZ l]at e;cases e
 |int _=>cases e;exact q
 |bl _=>cases e;exact q
 |non=>cases e;exact q
 |lst _=>cases e;exact q
 |tup _=>cases e;exact q
 |_=>cases e
theorem CN(T:Tx D)(F:Fun K rR tX oX f fd):dO P w K mg base CX0 1 f fd gC (Qp D.NoRoom "room"):=by
 refine F.okB Ao ?_ ?_
 .rintro _ _ _ _ ⟨a,v,rfl,_⟩;rfl
 .rintro ah A outer s H _ Q E hr ⟨a,v,rfl,ha,q⟩;refine⟨_,(Fb (PSB.mk (jk (JN T.ib_HallError T.xi_NoRoom (by rfl) T.nH (cW (pv 0) (cW Ir jc)))))
   (Lb (PSB.mk (O6 (pv 0) (pv 1) rfl)))),?_⟩
  exact⟨_,rfl,a,[_],rfl,ha,by decide,_,rfl,_,rfl,a,D.NoRoom,rfl,ha,T.xs_NoRoom,T.qY,q⟩
inductive RmX(n:Nat):L2.T->Prop
 |kind {t:L2.T} : isW t=some false->RmX n t
 |far {k:Int} : ¬(0<=k/\k<n)->RmX n (.int k)
def mY(D:Adr):SX:=λts R z=>∃(s:Rat)(ns:Θ)(off:List (List cF))(t:L2.T),ts=[hlT D s ns off,t]/\((∃k:Nat,t=.int k/\k<ns.length/\R (.fz .non))\/(RmX ns.length t/\z D.NoRoom ["room"] [t]))
theorem Dc(T:Tx D)(cQ:gT 1 iK fP jx)(dD:gI 1 D.Hall_size eU (lK D))(iu:OkI P w K mg base CX0 1 D.NoRoom_init gC (Qp D.NoRoom "room"))(F:Fun K gW gO fX f fd):dO P w K mg base (CXO P w) 3 f fd bZ (spX K (mY D)):=by
 refine F.okTX jt λah A outer s H E hr nd=>?_;refine⟨_,(bD (cu (QW.qt (d7 (bW (bY (bF cQ (bw (qv 1) bx)))) (dj (bW (rN Ce Fd bA (qv 1) (k_ (qv 0) T.cR T.jM dD (KS:=cM)))))))
  (bD (Bp rfl T.Bw T.xi_NoRoom iu (qv 1)))
  bL)),?_⟩
 rintro _ R Z ⟨s,ns,off,t,rfl,h⟩;rcases h with⟨k,rfl,hk,q⟩|⟨h,q⟩
 .refine⟨_,_,rfl,rfl,⟨rfl,rfl⟩,_,_,_,rfl,?_⟩;show sw (!decide ((k:Int)<(ns.length:Nat))) _ _;rw[Zs (show(k:Int)<(ns.length:Nat)by lia)];exact q
 .cases h with
  |kind e=>exact⟨_,_,rfl,e,q⟩
  |@far k e =>
   refine⟨_,_,rfl,rfl,?_⟩;refine swD (λh0=>⟨⟨rfl,rfl⟩,_,_,_,rfl,?_⟩) λh0=>q;refine swT ?_ q;rw[Zp (λz=>e ⟨h0,z⟩)];rfl
theorem CW(T:Tx D)(F:Fun K rE tY oR f fd):dO P w K mg base CX0 1 f fd iJ (Qp D.NoDoor "door"):=by
 refine F.okB Bo ?_ ?_
 .rintro _ _ _ _ ⟨a,v,rfl,_⟩;rfl
 .rintro ah A outer s H _ Q E hr ⟨a,v,rfl,ha,q⟩;refine⟨_,(Fb (PSB.mk (jk (JN T.ib_HallError T.xi_NoDoor (by rfl) T.nH (cW (pv 0) (cW Ir jc)))))
   (Lb (PSB.mk (O6 (pv 0) (pv 1) rfl)))),?_⟩
  exact⟨_,rfl,a,[_],rfl,ha,by decide,_,rfl,_,rfl,a,D.NoDoor,rfl,ha,T.xs_NoDoor,T.su,q⟩
def kE(D:Adr):ST:=λts q=>∃(s:Rat)(ns:Θ)(off:List (List cF)),ts=[hlT D s ns off]/\q (.l1 (ns.map L2.T.str))
theorem DQ(T:Tx D)(F:Fun K uH uG pW f fd):FT 1 f fd ig (kE D):=by
 refine F.okT Ds λah A outer s H E hr nd=>?_;refine⟨_,(bD (bK (lW (VJ rfl) T.rA boot_list (bw (gG (Fm:=Fam D) (λC h=>⟨T.cl C h,T.gY C h⟩) (qv 0)) bx)))),?_⟩;rintro _ R ⟨s,ns,off,rfl,q⟩;refine⟨gA D,_,rfl,?_⟩;show R (.l1 ((nmK ns).map kyT));rw[show(nmK ns).map kyT=ns.map L2.T.str by rw[XG];rfl];exact q
def Il(ns:Θ)(t:L2.T):Prop:=oT (wdT t) λb=>b=true->∃n,t=.str n/\n∉ns
def xg(D:Adr):ST:=λts q=>∃(s:Rat)(ns:Θ)(off:List (List cF))(n:Str)(k:Nat),ts=[hlT D s ns off,.str n]/\Wd n/\ns.Nodup/\ns[k]?=some n/\q (.fz (.int (k:Nat)))
theorem afy{n:Str}(h:Wd n):wdT (.str n)=some true:=by
 show(if n.length<=1000 then some (qH n.cps.toList)else none)=_;rw[ZY (aL h.len.2 (by decide)),show qH n.cps.toList=true from h]
theorem abf{ns:Θ}{k:Nat}(h:k<ns.length):(nmT ns)[k]?=some (.int (k:Nat)):=by
 rw[aq,WG h];rfl
theorem T4(T:Tx D)(cC:gT 1 gb eE lq)(F:Fun K oh oW lM f fd):FT 2 f fd eV (xg D):=by
 refine F.okT uN λah A outer s H E hr nd=>?_;refine⟨_,(bB (cu (QW.qt (d7 (bW (bY (bF cC (bw (qv 1) bx)))) (dj (xT (lJ hr) (qv 1) (gG (Fm:=Fam D) (λC h=>⟨T.cl C h,T.gY C h⟩) (qv 0))))))
  (bD fB)
  bL)
  (bD (bK (wW (lJ hr) (gG (Fm:=Fam D) (λC h=>⟨T.cl C h,T.gY C h⟩) (qv 0)) (qv 1))))),?_⟩
 rintro _ R ⟨s,ns,off,n,k,rfl,hw,nd,ek,q⟩;have lk:=(ao.mp ek).1;have ev:=Ip nd ek (abf lk);refine⟨_,rfl,fQ (afy hw) ⟨gA D,_,rfl,_,rfl,?_⟩⟩;rw[ev];exact⟨gA D,_,rfl,_,_,rfl,ev,q⟩
def Fz(D:Adr):SX:=λts R z=>∃(s:Rat)(ns:Θ)(off:List (List cF))(t:L2.T),ts=[hlT D s ns off,t]/\Il ns t/\z D.NoRoom ["room"] [t]
theorem Q6(T:Tx D)(cC:gT 1 gb eE lq)(iu:OkI P w K mg base CX0 1 D.NoRoom_init gC (Qp D.NoRoom "room"))(F:Fun K oh oW lM f fd):dO P w K mg base (CXO P w) 3 f fd eV (spX K (Fz D)):=by
 refine F.okTX uN λah A outer s H E hr nd=>?_;refine⟨_,(bB (cu (QW.qt (d7 (bW (bY (bF cC (bw (qv 1) bx)))) (dj (xT (lJ hr) (qv 1) (gG (Fm:=Fam D) (λC h=>⟨T.cl C h,T.gY C h⟩) (qv 0))))))
  (bD (Bp rfl T.Bw T.xi_NoRoom iu (qv 1)))
  bL)
  (bD (bK (wW (lJ hr) (gG (Fm:=Fam D) (λC h=>⟨T.cl C h,T.gY C h⟩) (qv 0)) (qv 1))))),?_⟩
 rintro _ R Z ⟨s,ns,off,t,rfl,h,q⟩;obtain⟨b,e,hb⟩:=CT h;refine⟨_,rfl,fQ e ?_⟩;cases b with
 |false=>exact q
 |true =>
  obtain⟨n,rfl,hn⟩:=hb rfl;refine⟨gA D,_,rfl,_,rfl,?_⟩;rw[Jq n ns _ hn];exact q
theorem eZ:∀ns:Θ,DG (ns.map PyData.str)=ns.map L2.T.str
 |[]=>rfl
 |n::ns=>by show ofD (.str n)::DG (ns.map PyData.str)=_;rw[eZ ns];rfl
theorem lX{n:Str}(h:Wd n):PyData.strOk n=true:=by
 unfold PyData.strOk;rw[<- Array.all_toList];unfold Wd qH at h;simp only[UV,VZ,decide_eq_true_eq]at h;rw[VZ];intro c hc;have:=h.2 c hc;exact Zs (by lia)
theorem JW:∀ns:Θ,(∀n∈ns,Wd n)->PyData.canLayAll0 (ns.map PyData.str)=true
 |[],_=>by rfl
 |n::ns,h=>by
  rw[List.map_cons];unfold PyData.canLayAll0 PyData.canLay0;rw[JW ns λm hm=>h m (.tail _ hm),lX (h n (.head _))]
  rfl
theorem Km:∀ns:Θ,PyData.depthAll (ns.map PyData.str)=0
 |[]=>by rfl
 |n::ns=>by
  rw[List.map_cons];unfold PyData.depthAll PyData.depth;rw[Km ns]
  rfl
theorem dZ{ns:Θ}(h:∀n∈ns,Wd n):SeqAt.shaped (.list (ns.map PyData.str))=true:=by
 unfold SeqAt.shaped PyData.canLay0 PyData.depth;rw[JW ns h,Km]
 rfl
theorem qm{n:Str}(h:PyData.strOk n=true):SeqAt.shaped (.str n)=true:=by
 unfold SeqAt.shaped PyData.canLay0 PyData.depth;rw[h]
 rfl
theorem zF(a b:Str):PyData.eqv (.str a) (.str b)=decide (a=b):=by
 unfold PyData.eqv;by_cases h:a=b
 .subst h;simp
 .simp[h]
theorem vH(n:Str):∀ns:Θ,((ns.map PyData.str).any λy=>PyData.eqv y (.str n))=decide (n∈ns)
 |[]=>by simp
 |m::ns=>by
  rw[List.map_cons,List.any_cons,vH n ns,zF];by_cases h:m=n
  .subst h;simp
  .by_cases h2:n∈ns
   .simp[h2]
   .have:n∉m::ns:=λz=>(YU.mp z).elim (λe=>h e.symm) h2;simp[h,h2,this]
theorem afW{n:Str}(h:wdT (.str n)=some true):Wd n:=by
 by_cases l:n.length<=1000
 .rw[show wdT (.str n)=some (qH n.cps.toList)from ZY l]at h;exact Option.some.inj h
 .rw[show wdT (.str n)=none from ZZ l]at h;cases h
def Bg(D:Adr):ST:=λts q=>∃(s:Rat)(ns:Θ)(off:List (List cF))(k:Nat)(ds:List cF)(n:Str)(j:Nat),ts=[hlT D s ns off,.int (k:Nat),.str n]/\Df ns off/\off[k]?=some ds/\(∀n∈ds.map (·.name),Wd n)/\Wd n/\(ds.map (·.name)).Nodup/\(ds.map (·.name))[j]?=some n/\q (.fz (.int (j:Nat)))
theorem M9(T:Tx D)(cC:gT 1 gb eE lq)(cX:gI 2 D.Hall_check_room bZ (oG D))(F:Fun K lB lC gK f fd):FT 3 f fd dG (Bg D):=by
 refine F.okT jm λah A outer s H E hr nd=>?_;refine⟨_,(bB (jV (nu (qv 0) T.cR T.fu cX (bw (qv 1) bx) (KS:=cM)))
  (bB (zJ (bC gK) iI iI ["offer"] (dY (bG (gG (Fm:=Fam D) (λC h=>⟨T.cl C h,T.j5 C h⟩) (qv 0)) (qv 1))) (fZ (i:=0)) cI (bG (qv 0) bA) (kh (i:=3) jm.nd rfl (Or.inl rfl)))
  (bB (cu (QW.qt (d7 (bW (bY (bF cC (bw (qv 2) bx)))) (dj (cD (Nv hr.units) (qv 2) (qv 3) (hm:=by rfl)))))
  (bD fB)
  bL)
  (bD (bK (Oo hr.units (qv 3) (bw (qv 2) bx))))))),?_⟩
 rintro _ R ⟨s,ns,off,k,ds,n,j,rfl,h,e,ws,hw,nd,ej,q⟩;have lk:k<ns.length:=by rw[<- h.len];exact(ao.mp e).1
 have em:ds.map (λo=>L2.T.str o.name)=(ds.map (·.name)).map L2.T.str:=by rw[XG];rfl
 refine⟨⟨rfl,rfl⟩,s,ns,off,k,rfl,lk,gA D,_,rfl,.lst (ds.map ofT),fj (h:=λds=>L2.T.lst (ds.map ofT)) e,by rw[ak];exact aL (h.fews ds (aB e)) (by decide),comp_map ofT (λo=>.str o.name) ds (λo _ N M hN=>hN) ?_⟩;rw[em];generalize hc:ds.map (·.name)=cs at nd ej ws;refine⟨_,rfl,fQ (afy hw) ⟨.str n,cs.map PyData.str,rfl,ZH L2.T.lst (eZ cs).symm,qm (lX hw),dZ ws,?_⟩⟩;rw[vH,Zs (aB ej)];have ll:(cs.map L2.T.str).length<=sizeLine:=by rw[ak,<- hc,ak];exact aL (h.fews ds (aB e)) (by decide)
 refine⟨cs.map PyData.str,.str n,j,(eZ cs).symm,rfl,dZ ws,qm (lX hw),ll,⟨.str n,by rw[aq,ej];rfl,by rw[zF,Zs rfl]⟩,λi x hi ex=>?_,q⟩;rw[aq]at ex;cases ei:cs[i]? with
 |none=>rw[ei]at ex;cases ex
 |some m =>
  rw[ei]at ex;cases ex;rw[zF,Zp λz=>by
   subst z;have:=wM nd ei ej;lia]
def rK(D:Adr):SX:=λts R z=>∃(s:Rat)(ns:Θ)(off:List (List cF))(t u:L2.T),ts=[hlT D s ns off,t,u]/\Df ns off/\((RmX ns.length t/\z D.NoRoom ["room"] [t])\/∃(k:Nat)(ds:List cF),t=.int (k:Nat)/\off[k]?=some ds/\(∀n∈ds.map (·.name),Wd n)/\Il (ds.map (·.name)) u/\z D.NoDoor ["door"] [u])
theorem Kz(T:Tx D)(cC:gT 1 gb eE lq)(dN:OkI P w K mg base (CXO P w) 3 D.Hall_check_room bZ (spX K (mY D)))(oF:OkI P w K mg base CX0 1 D.NoDoor_init iJ (Qp D.NoDoor "door"))(F:Fun K lB lC gK f fd):dO P w K mg base (CXO P w) 4 f fd dG (spX K (rK D)):=by
 refine F.okTX jm λah A outer s H E hr nd=>?_;refine⟨_,(bB (tK (qv 0) T.cR T.fu dN (bw (qv 1) bx) (KS:=cM))
  (bB (zJ (bC gK) iI iI ["offer"] (dY (bG (gG (Fm:=Fam D) (λC h=>⟨T.cl C h,T.j5 C h⟩) (qv 0)) (qv 1))) (fZ (i:=0)) cI (bG (qv 0) bA) (kh (i:=3) jm.nd rfl (Or.inl rfl)))
  (bB (cu (QW.qt (d7 (bW (bY (bF cC (bw (qv 2) bx)))) (dj (cD (Nv hr.units) (qv 2) (qv 3) (hm:=by rfl)))))
  (bD (Bp rfl T.Jy T.xi_NoDoor oF (qv 2)))
  bL)
  (bD (bK (Oo hr.units (qv 3) (bw (qv 2) bx))))))),?_⟩
 rintro _ R Z ⟨s,ns,off,t,u,rfl,h,hc⟩;refine⟨⟨rfl,rfl⟩,s,ns,off,t,rfl,?_⟩;rcases hc with⟨ht,q⟩|⟨k,ds,rfl,e,ws,hn,q⟩
 .exact .inr ⟨ht,q⟩
 have lk:k<ns.length:=by rw[<- h.len];exact(ao.mp e).1
 have em:ds.map (λo=>L2.T.str o.name)=(ds.map (·.name)).map L2.T.str:=by rw[XG];rfl
 refine .inl ⟨k,rfl,lk,gA D,_,rfl,.lst (ds.map ofT),fj (h:=λds=>L2.T.lst (ds.map ofT)) e,by rw[ak];exact aL (h.fews ds (aB e)) (by decide),comp_map ofT (λo=>.str o.name) ds (λo _ N M hN=>hN) ?_⟩;rw[em];obtain⟨b,eb,hb⟩:=CT hn;refine⟨_,rfl,fQ eb ?_⟩;cases b with
 |false=>exact q
 |true =>
  obtain⟨n,rfl,hm⟩:=hb rfl;refine⟨.str n,_,rfl,ZH L2.T.lst (eZ _).symm,qm (lX (afW eb)),dZ ws,?_⟩;rw[vH,Zp hm];exact q
def Cd(D:Adr):SX:=λts R z=>∃(s:Rat)(ns:Θ)(off:List (List cF))(t:L2.T),ts=[hlT D s ns off,t]/\RmX ns.length t/\z D.NoRoom ["room"] [t]
theorem Mw(T:Tx D)(dN:OkI P w K mg base (CXO P w) 3 D.Hall_check_room bZ (spX K (mY D)))(F:Fun K jO jE eX f fd):dO P w K mg base (CXO P w) 4 f fd cZ (spX K (Cd D)):=by
 refine F.okTX mF λah A outer s H E hr nd=>?_;refine⟨_,(bB (tK (qv 0) T.cR T.fu dN (bw (qv 1) bx) (KS:=cM))
  (bD (bK (dh (bC eX) f9 f9 ["name","pay","numbered"] (mQ (bG (gG (Fm:=Fam D) (λC h=>⟨T.cl C h,T.j5 C h⟩) (qv 0)) (qv 1))) (jo (n:=3) (bT (fZ (i:=0)) (bT (fZ (i:=1)) (bT (fZ (i:=2)) gq)))) cI (fK (bw (qv 0) (bw (qv 1) (bw (lW Ak T.rA boot_list (bw (qv 2) bx)) bx)))))))),?_⟩
 rintro _ R Z ⟨s,ns,off,t,rfl,ht,q⟩;exact⟨⟨rfl,rfl⟩,s,ns,off,t,rfl,.inr ⟨ht,q⟩⟩
theorem dX{i:Int}(h:i.natAbs<18446744073709551616):Bd i:=aR h (aL (by decide:18446744073709551616<=2^64) (Nat.pow_le_pow_right (by decide) (by decide)))
abbrev scT(ns:List Int):T:=.scr (ns.map T.int)
def Hr:ST:=λts q=>∃(ns:List Int)(k:Nat),ts=[scT ns,.int (k:Nat)]/\ns.length<=100/\q (.fz (.int (ns.getD k 0)))
theorem ur{α β:Type}(h:α->β)(l:List α)(lo hi:Option Int):jL (l.map h) lo hi=(jL l lo hi).map h:=by unfold jL;rw[ak,List.map_take,List.map_drop]
theorem Xf{α:Type}(l:List α)(k:Nat):jL l (some (k:Int)) (some ((k:Int)+1))=(l.drop k).take 1:=by
 unfold jL HT.sIx;show List.take ((if(k:Int)+1<0 then _ else min ((k:Int)+1).toNat l.length)-(if(k:Int)<0 then _ else min (k:Int).toNat l.length)) (List.drop (if(k:Int)<0 then _ else min (k:Int).toNat l.length) l)=_;rw[ZZ (by lia),ZZ (Int.not_lt_of_ge (XU _))];by_cases h:k<l.length
 .rw[show min ((k:Int)+1).toNat l.length=k+1 by lia,show min (k:Int).toNat l.length=k by lia,show k+1-k=1 by exact UU _ _]
 .rw[show min (k:Int).toNat l.length=l.length by lia,List.drop_length,UQ (WJ h),List.take_nil,List.take_nil]
theorem Wx(F:Fu zM Ls f fd):FT 1 f fd ug Hr:=by
 refine F.okT Xd λah A outer s H E hr nd=>?_;refine⟨_,(bD (bK (bG (bI cN (gD (qv 0) (gR (qv 1)) (gR (bI cN (qv 1) bA))) (fG (bw bA bx))) bA))),?_⟩;rintro _ R ⟨ns,k,rfl,hl,q⟩;have e:jL (ns.map L2.T.int) (some (k:Int)) (some ((k:Int)+1))=((ns.drop k).take 1).map L2.T.int:=by rw[ur,Xf]
 refine⟨?_,.int (ns.getD k 0),?_,q⟩
 .show(jL (ns.map L2.T.int) (some (k:Int)) (some ((k:Int)+1))).length+1<=sizeLine;rw[e,ak,aY];exact aL (show _<=2 by lia) (by decide)
 .show ixT (jL (ns.map L2.T.int) (some (k:Int)) (some ((k:Int)+1))++[L2.T.int 0]) 0=_;rw[e];by_cases h:k<ns.length
  .rw[UR h,List.take_succ_cons,au,aj h]
   rfl
  .rw[UQ (WJ h),au,aM (WJ h)]
   rfl
def strN(c:Int):Nat->Int×Int
 |0=>((c%1999999973+31)*765432101%1999999973,if c<0\/10^18<=c then(c.natAbs:Int)else 0)
 |k+1=>(((strN c k).1*((strN c k).1%65521+40487)+7*(k:Int)+5)%1999999973,(strN c k).2.fdiv 1000000)
def strm(c:Int)(k:Nat):Int:=if 0<(strN c k).2 then(strN c k).2%1000000 else(strN c (k+1)).1
theorem Pb(c:Int):∀k,0<=(strN c k).1/\(strN c k).1<1999999973
 |0=>⟨Z3 _ (by decide),YY _ (by decide)⟩
 |_+1=>⟨Z3 _ (by decide),YY _ (by decide)⟩
theorem vU(c:Int)(k:Nat):0<=strm c k/\strm c k<2000000000:=by
 unfold strm;have:=Pb c (k+1);split<;>lia
abbrev qM(c:Int)(n:Nat):List Int:=(List.range n).map (strm c)
def um:ST:=λts q=>∃(c:Int)(n:Nat),ts=[.int c,.int (n:Nat)]/\n<=1000/\q (.l1 ((qM c n).map T.int))
theorem RD(T:Tx D)(F:Fu pF z_ f fd):FT 1 f fd j_ um:=by
 refine F.okT RK λah A outer s H E hr nd=>?_;refine⟨_,(bB (mq 2 (fG bx))
  (bB (bU 3 (bI cG (bI gJ (bI cN (bI cG (qv 0) bA) bA) bA) bA))
  (bB (bU 4 bA)
  (bB (cu (QW.qt (d7 (cD Fd (qv 0) bA) (dj (cD Zy (qv 0) (bI CJ bA bA)))))
  (bD (bU 4 (bV Cy T.Ko boot_abs (bw (qv 0) bx))))
  bL)
  (bB (iQ (dB T.fW (bw (qv 1) bx)) (cA (n:=99) 5)
  (bB (bU 3 (bI cG (bI cN (bI cN (bI gJ (qv 3) (bI cN (bI cG (qv 3) bA) bA)) (bI gJ bA (qv 5))) bA) bA))
  (bB (xP 2 (bG (fG (bw (qv 3) (bw (bI cG (qv 4) bA) bx))) (lW abw T.Te boot_int (bw (jD Qi (qv 4) bA) bx))))
  (bD (bU 4 (bI lH (qv 4) bA))))))
  (bD (wH 2))))))),?_⟩
 rintro _ R ⟨c,n,rfl,hn,q⟩;refine sq4 (λo=>o=[.fz (.int c),.fz (.int (n:Nat)),.l1 [],.fz (.int (strN c 0).1),.fz (.int (strN c 0).2),.und]) ?_ λY go=>?_
 .rintro _ rfl;refine⟨⟨by lia,by lia⟩,?_⟩;refine jG (λk o=>∃x,o=[.fz (.int c),.fz (.int (n:Nat)),.l1 ((qM c k).map L2.T.int),.fz (.int (strN c k).1),.fz (.int (strN c k).2),x]) ⟨_,rfl⟩ ?_ ?_
  .rintro k _ hk ⟨x,rfl⟩;have b:=Pb c k;refine⟨by decide,⟨dX (by lia),dX (by lia)⟩,⟨dX (by decide),dX (by lia)⟩,by decide,by decide,.int (strm c k),?_,?_,⟨by decide,dX (by decide)⟩,.fz (.int k),?_⟩
   .by_cases h:0<(strN c k).2
    .rw[Zs h];unfold strm;rw[ZY h]
     rfl
    .rw[Zp h];unfold strm;rw[ZZ h]
     rfl
   .rw[ak,ak,X1];exact aR (show k<1001 by lia) (by decide)
   .rw[show qM c (k+1)=qM c k++[strm c k]by simp[qM,List.range_succ],bf]
    rfl
  .rintro _ ⟨x,rfl⟩;exact q
 .refine⟨by decide,⟨dX (by lia),dX (by decide)⟩,by decide,?_⟩;refine swD (λh=>go _ ?_) λh=>⟨⟨by decide,by decide,by decide⟩,swD (λh'=>go _ ?_) λh'=>go _ ?_⟩
  .show _=[_,_,_,_,OT.fz (L2.T.int (if c<0\/10^18<=c then(c.natAbs:Int)else 0)),_];rw[ZY (.inl h)]
   rfl
  .show _=[_,_,_,_,OT.fz (L2.T.int (if c<0\/10^18<=c then(c.natAbs:Int)else 0)),_];rw[ZY (.inr h')]
   rfl
  .show _=[_,_,_,_,OT.fz (L2.T.int (if c<0\/10^18<=c then(c.natAbs:Int)else 0)),_];rw[ZZ (λz=>z.elim h h')]
   rfl
def Mj:ST:=λts q=>∃a b:Int,ts=[.int a,.int b]/\q (.fz (.int (Int.gcd a b)))
theorem aa0(T:Tx D)(F:Fu G4 R8 f fd):FT 1 f fd xV Mj:=by
 refine F.okT SQ λah A outer s H E hr nd=>?_;refine⟨_,(bB (IW (bV RQ T.Tv boot_sorted (bw (fG (bw (bV Cy T.Ko boot_abs (bw (qv 0) bx)) (bw (bV Cy T.Ko boot_abs (bw (qv 1) bx)) bx))) bx)) (abu (n:=2) rfl (bT (cA (n:=99) 2) (bT (cA (n:=99) 3) gq))))
  (bB (JZ (cD Qi (qv 2) bA)
  (bD (aae 2 3 rfl SQ.nd (by decide) (bw (bI cG (qv 3) (qv 2)) (bw (qv 2) bx)))))
  (bD (bK (qv 3))))),?_⟩
 rintro _ R ⟨a,b,rfl,q⟩;refine⟨[(a.natAbs:Int),(b.natAbs:Int)],rfl,by simp,λms pm so=>?_⟩;obtain⟨l,h,rfl,hg⟩ : ∃l h:Nat,ms=[(l:Int),(h:Int)]/\Nat.gcd l h=Int.gcd a b:=by
  have ln:=pm.length_eq
  match ms,ln with
  |[x,y],_ =>
   have hx:x=(a.natAbs:Int)\/x=(b.natAbs:Int):=by simpa using pm.subset (aO ..)
   rcases hx with rfl|rfl
   .have:=(List.perm_cons _).mp pm;have:=List.perm_singleton.mp this;cases this;exact⟨_,_,rfl,rfl⟩
   .have:=(List.perm_cons _).mp (pm.trans (List.Perm.swap _ _ _));have:=List.perm_singleton.mp this;cases this;exact⟨_,_,rfl,Nat.gcd_comm _ _⟩
 refine⟨rfl,λm o=>∃(l h:Nat),o=[.fz (.int a),.fz (.int b),.fz (.int l),.fz (.int h)]/\Nat.gcd l h=Int.gcd a b/\m=l,⟨_,_,_,rfl,hg,rfl⟩,?_⟩;rintro m _ ⟨l,h,rfl,hg,rfl⟩;refine swD (λhl=>?_) λhl=>?_
 .refine⟨λo=>o=[.fz (.int a),.fz (.int b),.fz (.int ((h%m:Nat):Int)),.fz (.int m)],?_,?_⟩
  .rintro _ rfl;exact⟨h%m,Nat.mod_lt _ (by lia),h%m,m,rfl,(Nat.gcd_rec m h).symm.trans hg,rfl⟩
  .exact⟨hl,by rw[Int.natCast_emod];rfl⟩
 .have:m=0:=by lia
  subst this;rw[Nat.gcd_zero_left]at hg;rw[<- hg]at q;exact q
def pq:ST:=λts q=>∃a b:Int,ts=[.int a,.int b]/\0<b/\Bd b/\q (.fz (frR (Rat.divInt a b)))
def Qu(c:Nat):Bool:=decide (97<=c)&&decide (c<=122)
def ltL:List Nat:=(Str.ofString "abcdefghijklmnopqrstuvwxyz").cps.toList
theorem aad:∀i:Fin 26,nth ltL i.val=some (97+i.val):=by decide +kernel
theorem Uh{i:Int}(h0:0<=i)(h1:i<26):ixT ltL i=some (97+i.toNat):=by
 obtain⟨k,rfl⟩:=Int.eq_ofNat_of_zero_le h0;exact aad ⟨k,by lia⟩
theorem Ma{n:Nat}(h:n<26):Qu (97+n)=true:=by
 unfold Qu;rw[Zs (show 97<=97+n by exact XW _ _),Zs (show 97+n<=122 by lia)];rfl
theorem m_(x:Str):x.cps.toList.length=x.length:=Array.length_toList
theorem vm(x y:Str):(x++y).cps.toList=x.cps.toList++y.cps.toList:=by
 show(x.cps++y.cps).toList=_;rw[Array.toList_append]
theorem Ou(x y:Str):(x++y).length=x.length+y.length:=by
 show(x.cps++y.cps).size=_;rw[Array.size_append];rfl
theorem Bx{x:Str}{n:Nat} : (jd x none (some (n:Int))).cps.toList=x.cps.toList.take n:=by
 unfold jd;have hl:x.cps.toList.length=x.length:=Array.length_toList;show((x.cps.toList.drop 0).take (HT.sIx x.length x.length (some (n:Int))-0))=_;rw[HT.uf,List.drop_zero,Nat.sub_zero,<- hl];rw[List.take_eq_take_iff];lia
theorem V3{x:Str}(h:x.cps.toList.all Qu=true)(lo:1<=x.length)(hi:x.length<=8):Wd x:=by
 unfold Wd qH;rw[m_,Zs lo,Zs hi];exact h
structure Nms(ns:Θ)(n:Nat):Prop where
 len:ns.length=n
 nd:ns.Nodup
 wd:∀x∈ns,Wd x
theorem X4{R:Nat->Str->Prop}{n:Nat}{ns:Θ}(h:∀(i:Nat)x,ns[i]?=some x->R i x)(l:ns.length=n)(u:∀i j x,i<j->j<n->R i x->R j x->False):ns.Nodup:=by
 unfold List.Nodup;rw[List.pairwise_iff_getElem];intro i j hi hj ij e;exact u i j ns[i] ij (l ▸ hj) (h i _ (aj hi)) (by rw[e];exact h j _ (aj hj))
theorem Fo:∀(ys:Θ)(acc:Array Nat),(ys.foldl (λacc p=>acc++(Str.ofString "").cps++p.cps) acc).toList=acc.toList++(ys.map λy=>y.cps.toList).flatten
 |[],acc=>by simp
 |y::ys,acc=>by
  have e0:(Str.ofString "").cps = #[]:=by decide +kernel
  rw[List.foldl_cons,Fo ys,e0,Array.append_empty,Array.toList_append,List.map_cons,List.flatten_cons,XT]
theorem glue(ys:Θ):(Txt.join (Str.ofString "") ys).cps.toList=(ys.map λy=>y.cps.toList).flatten:=by
 show((ys.drop 1).foldl (λacc p=>acc++(Str.ofString "").cps++p.cps) (ys.headD Str.empty).cps).toList=_;rw[Fo];cases ys with
 |nil=>rfl
 |cons y ys=>rfl
theorem abh{c d:RT}{x y z:RS}{E:DT}{o:List OT}(b:Bool)(h:∀q:Bool->Prop,q b->abR c d o q)(hq:sw b (x { E with nx:=z E } o) (y { E with nx:=z E } o)):g8 (Uz (abR c d) x y) z E o:=h (λk=>sw k (x { E with nx:=z E } o) (y { E with nx:=z E } o)) hq
structure QSB(X:Cx)(st:Stmt)(r:RS):Prop where
 out:QS X st r
structure TF(X:Cx)(ss:List Stmt)(r:RS):Prop where
 out:QSs X ss r
theorem jX{X:Cx}{st:Stmt}{r:RS}(h:QS X st r):QSB X st r:=⟨h⟩
theorem Ks{X:Cx}{st:Stmt}{a:RS}(h:QSB X st a):TF X [st] a:=⟨bD h.out⟩
theorem d8{X:Cx}{st:Stmt}{g5:List Stmt}{a b:RS}(h1:QSB X st a)(h2:TF X g5 b):TF X (st::g5) (g8 a b):=⟨bB h1.out h2.out⟩
theorem Im{X:Cx}{e:Expr}{re:RE}{pos:Pos}(i:Nat){x:Str}{ar:Pos}(hN:X.N.Nodup)(hx:Loc X.env.scope x)(he:QEB X e re)(hi:X.N[i]?=some x:=by rfl)(hs:swapsWith e (some (.Name x ar)) pos.line X.env=pure false:=by rfl)(hf:qi X x:=by first|exact .inl rfl|exact .inr rfl|assumption):QSB X (.Assign [.Name x ar] e pos) (abv i re):=⟨bU (i:=i) (hN:=hN) (hx:=hx) (he:=he.out) (hi:=hi) (hs:=hs) (hf:=hf)⟩
theorem Oa{X:Cx}{a b:Expr}{ra rb:RE}{pos:Pos}(ha:QEB X a ra)(hb:QEB X b rb)(hs:GK b:=by exact λ_ _=>rfl):QEB X (.Subscript a b pos) (rOp gIx ra rb):=⟨bG ha.out hb.out hs⟩
theorem NZ{x:Str}{a b:Nat}(ab:a<=b)(h:b<=x.length):(jd x (some (a:Int)) (some (b:Int))).cps.toList=(x.cps.toList.drop a).take (b-a):=by
 unfold jd;show((x.cps.toList.drop (HT.sIx x.length 0 (some (a:Int)))).take (HT.sIx x.length x.length (some (b:Int))-HT.sIx x.length 0 (some (a:Int))))=_;rw[HT.uf,HT.uf,Nat.min_eq_left h,Nat.min_eq_left (aL ab h)]
def nm3(b:List Nat)(at_ m:Nat)(x0 st:Int)(i:Nat)(x:Str):Prop:=x.cps.toList=b.take at_++(97+((x0+i*st)%26).toNat)::(b.drop at_).take m
def nm4(b:List Nat)(x0:Int)(r i:Nat)(x:Str):Prop:=(i<8/\x.cps.toList=b.take (i+1))\/(8<=i/\x.cps.toList=(97+((x0+(1+((i-8:Nat):Int)))%26).toNat)::b.take r)
theorem YS{b:List Nat}{at_ m:Nat}{x0 st:Int}{i j:Nat}{x:Str}(hs:st∈[(1:Int),3,5,7,9,11,15,17,19,21,23,25])(ij:i<j)(hj:j<26)(h1:nm3 b at_ m x0 st i x)(h2:nm3 b at_ m x0 st j x):False:=by
 have e:=h1.symm.trans h2;have e:=List.append_cancel_left e;injection e with e _;simp only[YU,List.mem_nil_iff,or_false]at hs;rcases hs with rfl|rfl|rfl|rfl|rfl|rfl|rfl|rfl|rfl|rfl|rfl|rfl<;>omega
theorem abJ{b:List Nat}{at_ m:Nat}{x0 st:Int}{i:Nat}{x:Str}(hb:b.all Qu=true)(ha:at_<=4)(hm:m<=3)(h:nm3 b at_ m x0 st i x):Wd x:=by
 have l:=m_ x;rw[h,aA,List.length_cons,aY,aY,UY]at l;refine V3 ?_ (by lia) (by omega);rw[h,VZ];rw[VZ]at hb;intro d hd;rcases Y1.mp hd with hd|hd
 .exact hb d (VY hd)
 .rcases YU.mp hd with rfl|hd
  .exact Ma (by lia)
  .exact hb d (List.mem_of_mem_drop (VY hd))
theorem YH{b:List Nat}{x0:Int}{r i j:Nat}{x:Str}(bl:b.length=8)(b0:b.head?=some (97+(x0%26).toNat))(ij:i<j)(hj:j<26)(h1:nm4 b x0 r i x)(h2:nm4 b x0 r j x):False:=by
 match b,bl,b0 with
 |z::b,bl,b0 =>
 cases b0;rcases h1 with⟨i8,h1⟩|⟨i8,h1⟩<;>rcases h2 with⟨j8,h2⟩|⟨j8,h2⟩
 .have e:=ZH List.length (h1.symm.trans h2);rw[aY,aY]at e;lia
 .have e:=h1.symm.trans h2;rw[List.take_succ_cons]at e;injection e with e _;omega
 .lia
 .have e:=h1.symm.trans h2;injection e with e _;omega
theorem abd{b:List Nat}{x0:Int}{r i:Nat}{x:Str}(bl:b.length=8)(hb:b.all Qu=true)(hr:r<=6)(h:nm4 b x0 r i x):Wd x:=by
 have l:=m_ x;rw[VZ]at hb;rcases h with⟨i8,h⟩|⟨i8,h⟩
 .rw[h,aY]at l;refine V3 ?_ (by lia) (by lia);rw[h,VZ];exact λd hd=>hb d (VY hd)
 .rw[h,List.length_cons,aY]at l;refine V3 ?_ (by lia) (by lia);rw[h,VZ];intro d hd;rcases YU.mp hd with rfl|hd
  .exact Ma (by omega)
  .exact hb d (VY hd)
theorem Wk{R:Nat->Str->Prop}{n:Nat}{ns:Θ}(l:ns.length=n)(h:∀(i:Nat)x,ns[i]?=some x->R i x)(u:∀i j x,i<j->j<n->R i x->R j x->False)(w:∀i x,R i x->Wd x):Nms ns n:=⟨l,X4 h l u,λx hx=>by
 obtain⟨i,hi⟩:=aV hx;exact w i x (h i x hi)⟩
def Far(ns:Θ)(n:Nat):Prop:=∀x y t,ns[n-1]?=some x->y∈ns->t≠[]->y.cps.toList=x.cps.toList++t->False
theorem TX{R:Nat->Str->Prop}{n:Nat}{ns:Θ}(l:ns.length=n)(h:∀(i:Nat)x,ns[i]?=some x->R i x)(u:∀i x y t,i<=n-1->R (n-1) x->R i y->t≠[]->y.cps.toList=x.cps.toList++t->False):Far ns n:=λx y t ex hy ht e=>by
 obtain⟨i,hi⟩:=aV hy;have li:=(ao.mp hi).1;exact u i x y t (by lia) (h _ _ ex) (h _ _ hi) ht e
theorem GZ{x y:Str}{t:List Nat}(ht:t≠[])(e:y.cps.toList=x.cps.toList++t)(l:y.cps.toList.length<=x.cps.toList.length):False:=by
 rw[e,aA]at l;exact ht (List.length_eq_zero_iff.mp (by lia))
theorem YB{b:List Nat}{at_ m i j:Nat}{x0 st:Int}{x y:Str}{t:List Nat}(hx:nm3 b at_ m x0 st j x)(hy:nm3 b at_ m x0 st i y)(ht:t≠[])(e:y.cps.toList=x.cps.toList++t):False:=by
 refine GZ ht e ?_;unfold nm3 at hx hy;rw[hx,hy];simp
theorem Yo{b:List Nat}{x0:Int}{r i j:Nat}{x y:Str}{t:List Nat}(b0:b.head?=some (97+(x0%26).toNat))(ij:i<=j)(hj:j<26)(hx:nm4 b x0 r j x)(hy:nm4 b x0 r i y)(ht:t≠[])(e:y.cps.toList=x.cps.toList++t):False:=by
 rcases hx with⟨j8,hx⟩|⟨j8,hx⟩<;>rcases hy with⟨i8,hy⟩|⟨i8,hy⟩
 .refine GZ ht e ?_;rw[hx,hy,aY,aY];omega
 .lia
 .rw[hx,hy]at e
  match b,b0 with
  |z::b,b0 =>
  cases b0;rw[List.take_succ_cons]at e;injection e with e _;omega
 .refine GZ ht e ?_;rw[hx,hy];simp
def J_:ST:=λts q=>∃(c:Int)(n:Nat),ts=[.int c,.int (n:Nat)]/\n<=26/\∀ns:Θ,Nms ns n->Far ns n->q (.l1 (ns.map T.str))
theorem dz{c:Int}{n k:Nat}(h:k<n:=by decide):ixT ((qM c n).map T.int) (k:Nat)=some (.int (strm c k)):=by
 show nth ((qM c n).map T.int) k=_;rw[uT,aq,aq,WG h];rfl
theorem aey(i:Int)(h:0<=i/\i<12):∃sv:Int,ixT [L2.T.int 1,L2.T.int 3,L2.T.int 5,L2.T.int 7,L2.T.int 9,L2.T.int 11,L2.T.int 15,L2.T.int 17,L2.T.int 19,L2.T.int 21,L2.T.int 23,L2.T.int 25] i=some (.int sv)/\sv∈[(1:Int),3,5,7,9,11,15,17,19,21,23,25]:=by
 obtain⟨k,rfl⟩:=Int.eq_ofNat_of_zero_le h.1;have hk:k<12:=by omega
 refine⟨[(1:Int),3,5,7,9,11,15,17,19,21,23,25][k],?_,aU _⟩;show nth ([(1:Int),3,5,7,9,11,15,17,19,21,23,25].map L2.T.int) k=_;rw[uT,aq,aj (by exact hk)];rfl
theorem VB(T:Tx D)(jH:gT 1 pF j_ um)(F:Fu Av ux f fd):FT 2 f fd qW J_:=by
 refine F.okT Bt λah A outer s H E hr nd=>?_;refine⟨_,(TF.out (d8 (jX (bU 2 j4))
  (d8 (jX (bU 3 (bF jH (bw (qv 0) (bw bA bx)))))
  (d8 (jX (bU 4 (Xu j4 (bw (dh (bC ux) vQ vQ ["_law_x"] (dY (gD (qv 3) jF (gR bA))) (fZ (i:=0)) cI (bG (qv 3) (bI cG (qv 0) bA))) bx))))
  (d8 (jX (cu (cD (go_eq hr.units) (bI cG (qv 0) bA) bA)
  (bB (zJ (bC ux) vQ ["_law_cell_here","_law_many","_law_letters","_law_xs","_law_stem","_law_at","_law_step","_law_found","?_law_k","_law_rest","_law_sign"] ["_law_k"] (Q5 T.fW (bw bA (bw (qv 1) bx))) (fZ (i:=0)) cI (bI cN (bG (qv 3) (bI cG (bI cN (bG (qv 4) bA) (qv 0)) bA)) (gD (qv 5) jF (gR (bI cG (bG (qv 4) bA) bA)))) (kh (i:=9) Bt.nd rfl (Or.inl rfl)))
  (bD (bK (bI cN (dh (bC ux) vQ ["_law_cell_here","_law_many","_law_letters","_law_xs","_law_stem","_law_at","_law_step","_law_found","?_law_k","_law_rest","_law_sign"] ["_law_k"] (dB T.fW (bw (bV (WT rfl) T.ae6 boot_min (bw (qv 1) (bw bA bx))) bx)) (fZ (i:=0)) cI (gD (qv 5) jF (gR (bI cN (qv 0) bA)))) (gD (qv 9) jF (gR (bV (YG rfl) T.aci boot_max (bw bA (bw (bI Hz (qv 1) bA) bx)))))))))
  bL))
  (d8 (jX (bU 5 (bI cG (bG (qv 3) bA) bA)))
  (d8 (Im 6 Bt.nd (Or.inl rfl) (Oa (vp (cg dH (cg dH (cg dH (cg dH (cg dH (cg dH (cg dH (cg dH (cg dH (cg dH (cg dH (cg dH uh))))))))))))) (tL cG (tL lH (pR (bG (qv 3) bA)) dH) dH)))
  (d8 (jX (mq 7 (fG bx)))
  (d8 (jX (iQ (dB T.fW (bw (qv 1) bx)) (cA (n:=99) 8)
  (bB (bU 10 (bG (qv 2) (bI cG (bI cN (bG (qv 3) bA) (bI gJ (qv 8) (qv 6))) bA)))
  (bD (xP 7 (bI cN (bI cN (gD (qv 4) jF (gR (qv 5))) (qv 10)) (gD (qv 4) (gR (qv 5)) (gR (bI cN (qv 5) (bI cG (bI lH (bG (qv 3) bA) bA) bA))))))))))
  (Ks (jX (wH 7)))))))))))),?_⟩
 rintro _ R ⟨c,n,rfl,hn,q⟩;refine⟨c,10,rfl,by decide,?_⟩;have sl:∀k,0<=strm c k/\strm c k<2000000000:=vU c;have lL:(Str.ofString "abcdefghijklmnopqrstuvwxyz").length<=sizeLine:=aL (show _<=1000 by decide +kernel) (by decide);have rl:(rng 0 n).length<=sizeLine:=by rw[rng,ak,X1];exact aL hn (by decide)
 have e0:(Str.ofString "").length=0:=by decide +kernel
 have ec:jL ((qM c 10).map L2.T.int) none (some 8)=[0,1,2,3,4,5,6,7].map λk=>L2.T.int (strm c k):=rfl;dsimp only[frz];show(jL ((qM c 10).map L2.T.int) none (some 8)).length<=sizeLine/\pC _ _ _ _ (jL ((qM c 10).map L2.T.int) none (some 8)) _;rw[ec];refine⟨show 8<=sizeLine by decide,comp_map (λk=>L2.T.int (strm c k)) (λk=>.str ⟨#[97+(strm c k%26).toNat]⟩) [0,1,2,3,4,5,6,7] (λk _ N M hN=>⟨by decide,lL,_,Uh (Z3 _ (by decide)) (YY _ (by decide)),hN⟩) ⟨[0,1,2,3,4,5,6,7].map λk=>⟨#[97+(strm c k%26).toNat]⟩,rfl,?_,?_⟩⟩
 .rw[e0,Nat.mul_zero,Nat.add_zero];exact(show 8<=sizeLine by decide)
 have bc:(Txt.join (Str.ofString "") ([0,1,2,3,4,5,6,7].map λk=>(⟨#[97+(strm c k%26).toNat]⟩ : Str))).cps.toList=[0,1,2,3,4,5,6,7].map λk=>97+(strm c k%26).toNat:=by
  rw[glue];rfl
 have bl:(Txt.join (Str.ofString "") ([0,1,2,3,4,5,6,7].map λk=>(⟨#[97+(strm c k%26).toNat]⟩ : Str))).length=8:=by rw[<- m_,bc];rfl
 have ba:([0,1,2,3,4,5,6,7].map λk=>97+(strm c k%26).toNat).all Qu=true:=by
  rw[VZ];intro d hd;obtain⟨x,_,rfl⟩:=YV.mp hd;exact Ma (by lia)
 have b0:(Txt.join (Str.ofString "") ([0,1,2,3,4,5,6,7].map λk=>(⟨#[97+(strm c k%26).toNat]⟩ : Str))).cps.toList.head?=some (97+(strm c 0%26).toNat):=by rw[bc];rfl
 rw[<- bc]at ba;generalize Txt.join (Str.ofString "") ([0,1,2,3,4,5,6,7].map λk=>(⟨#[97+(strm c k%26).toNat]⟩ : Str))=sm at bl ba b0 ⊢
 clear bc
 have sml:sm.cps.toList.length=8:=(m_ sm).trans bl;have z16:(16:Nat)<=sizeLine:=by decide
 refine⟨by decide,swD (λh1=>?_) λh1=>?_⟩
 .have s9:=sl 9;have s0:=sl 0;obtain⟨r,er,gd⟩ : ∃r:Nat,strm c 9%7=r/\r<=6:=⟨(strm c 9%7).toNat,by lia,by lia⟩;have t1:(jd sm none (some (r:Int))).length<=6:=by rw[<- m_,Bx,aY];lia
  have t3:∀d:Nat,({ cps:=#[d] } : Str).length=1:=λ_=>rfl;refine⟨⟨by exact XZ (by decide),by exact VV (by decide),by lia,by lia⟩,?_⟩;have e1:(((n:Nat):Int)-1).toNat=n-1:=by lia
  show(rng 1 (((n:Nat):Int)-1).toNat).length<=sizeLine/\pC _ _ _ _ (rng 1 (((n:Nat):Int)-1).toNat) _;rw[e1];refine⟨by rw[rng,ak,X1];exact aL (show _<=26 by exact aL (Nat.sub_le _ _) hn) (by decide),comp_map (λk:Nat=>.int (1+(k:Int))) (λk=>.str (⟨#[97+((strm c 0+(1+(k:Int)))%26).toNat]⟩++jd sm none (some (r:Int)))) (List.range (n-1)) (λk hk N M hN=>?_) ?_⟩
  .refine⟨_,dz (k:=0),by decide,lL,_,Uh (Z3 _ (by decide)) (YY _ (by decide)),?_⟩;refine⟨_,dz (k:=9),by decide,?_⟩;dsimp only[frz];rw[er];exact⟨by exact aL (X9 bl) (by decide),by rw[t3];lia,hN⟩
  have e2:(if(8:Int)<(n:Nat)then(8:Int)else(n:Nat))=((min n 8:Nat):Int):=by split<;>lia
  have e3:(if(0:Int)<((n:Nat):Int)-8 then((n:Nat):Int)-8 else 0)=((n-8:Nat):Int):=by split<;>lia
  show(-(2^62)<=(if(8:Int)<(n:Nat)then(8:Int)else(n:Nat))/\(if(8:Int)<(n:Nat)then(8:Int)else(n:Nat))<2^62)/\(rng 0 (if(8:Int)<(n:Nat)then(8:Int)else(n:Nat)).toNat).length<=sizeLine/\pC _ _ _ _ (rng 0 (if(8:Int)<(n:Nat)then(8:Int)else(n:Nat)).toNat) _;rw[e2,Int.toNat_natCast];refine⟨⟨by lia,by lia⟩,by rw[rng,ak,X1];exact aL (show _<=8 by exact Nat.min_le_right _ _) (by decide),nZ (λk=>.str (jd sm none (some ((k+1:Nat):Int)))) (min n 8) (λk hk N M hN=>⟨by exact aL (X9 bl) (by decide),hN⟩) ?_⟩;have ez:jL ((List.range (n-1)).map λk:Nat=>L2.T.str (⟨#[97+((strm c 0+(1+(k:Int)))%26).toNat]⟩++jd sm none (some (r:Int)))) none (some ((n-8:Nat):Int))=(((List.range (n-1)).map λk:Nat=>(⟨#[97+((strm c 0+(1+(k:Int)))%26).toNat]⟩++jd sm none (some (r:Int)):Str)).take (n-8)).map L2.T.str:=by
   rw[List.map_take,XG];unfold jL;rw[HT.uf];show List.take (min (n-8) _-0) (List.drop 0 _)=_;rw[List.drop_zero,Nat.sub_zero,<- List.take_eq_take_min]
   rfl
  show(List.map _ (List.range (min n 8))).length+(jL ((List.range (n-1)).map λk:Nat=>L2.T.str (⟨#[97+((strm c 0+(1+(k:Int)))%26).toNat]⟩++jd sm none (some (r:Int)))) none (some (if(0:Int)<((n:Nat):Int)-8 then((n:Nat):Int)-8 else 0))).length<=sizeLine/\R (.l1 (List.map _ (List.range (min n 8))++jL ((List.range (n-1)).map λk:Nat=>L2.T.str (⟨#[97+((strm c 0+(1+(k:Int)))%26).toNat]⟩++jd sm none (some (r:Int)))) none (some (if(0:Int)<((n:Nat):Int)-8 then((n:Nat):Int)-8 else 0))));rw[e3,ez];refine⟨by rw[ak,X1,ak,aY];exact aL (show _<=40 by omega) (by decide),?_⟩;have eq:(List.range (min n 8)).map (λk=>L2.T.str (jd sm none (some ((k+1:Nat):Int))))=((List.range (min n 8)).map λk:Nat=>jd sm none (some ((k+1:Nat):Int))).map L2.T.str:=by rw[XG];rfl
  rw[eq,<- bf];have bt:∀(i:Nat)x,((List.range (min n 8)).map (λk:Nat=>jd sm none (some ((k+1:Nat):Int)))++((List.range (n-1)).map λk:Nat=>(⟨#[97+((strm c 0+(1+(k:Int)))%26).toNat]⟩++jd sm none (some (r:Int)):Str)).take (n-8))[i]?=some x->nm4 sm.cps.toList (strm c 0) r i x:=λi x e=>by
   by_cases hi:i<min n 8
   .rw[aD (by rw[ak,X1];exact hi),aq,WG hi]at e;cases e;exact .inl ⟨by lia,Bx⟩
   .rw[aC (by rw[ak,X1];exact WJ hi),ak,X1,VQ]at e;by_cases h2:i-min n 8<n-8
    .rw[ZY h2,aq,WG (by lia)]at e;cases e;refine .inr ⟨by lia,?_⟩;rw[vm,Bx,show i-min n 8=i-8 by lia];rfl
    .rw[ZZ h2]at e;cases e
  have nl:((List.range (min n 8)).map (λk:Nat=>jd sm none (some ((k+1:Nat):Int)))++((List.range (n-1)).map λk:Nat=>(⟨#[97+((strm c 0+(1+(k:Int)))%26).toNat]⟩++jd sm none (some (r:Int)):Str)).take (n-8)).length=n:=by rw[aA,ak,X1,aY,ak,X1];lia
  exact q _ (Wk nl bt (λi j x ij hj h1 h2=>YH sml b0 ij (aR hj hn) h1 h2) λi x h=>abd sml ba gd h) (TX nl bt λi x y t ij hx hy ht e=>Yo b0 ij (by lia) hx hy ht e)
 .have s8:=sl 8;obtain⟨ap,eap,jv⟩ : ∃ap:Nat,strm c 8%4=ap/\ap<=3:=⟨(strm c 8%4).toNat,by lia,by lia⟩;obtain⟨sv,es,hs⟩:=aey ((strm c 8).fdiv 4%12) (by lia);refine⟨_,dz (k:=8),by decide,?_⟩;dsimp only[frz];rw[eap];refine⟨_,dz (k:=8),⟨by decide,dX (by decide)⟩,by decide,_,es,⟨by lia,by lia⟩,?_⟩;obtain⟨m,em,hm⟩ : ∃m:Nat,(strm c 8).fdiv 48%4=m/\m<=3:=⟨((strm c 8).fdiv 48%4).toNat,by lia,by lia⟩;have t1:(jd sm none (some (ap:Int))).length<=3:=by rw[<- m_,Bx,aY];lia
  have e2:(jd sm (some (ap:Int)) (some ((ap:Int)+(m:Nat)))).cps.toList=(sm.cps.toList.drop ap).take m:=by
   have:=NZ (x:=sm) (a:=ap) (b:=ap+m) (XW _ _) (by lia);rw[show ap+m-ap=m by exact UU _ _]at this;rw[<- this];rfl
  have t2:(jd sm (some (ap:Int)) (some ((ap:Int)+(m:Nat)))).length<=3:=by rw[<- m_,e2,aY];lia
  have t3:∀d:Nat,({ cps:=#[d] } : Str).length=1:=λ_=>rfl;have sb:sv.natAbs<26:=by simp only[YU,List.mem_nil_iff,or_false]at hs;omega
  have s9:=sl 9;refine jG (λk o=>∃(x8 eI:OT),o=[.fz (.int c),.fz (.int (n:Nat)),.fz (.str (Str.ofString "abcdefghijklmnopqrstuvwxyz")),.fz (.lst ((qM c 10).map L2.T.int)),.fz (.str sm),.fz (.int (ap:Nat)),.fz (.int sv),.l1 (((List.range k).map λi:Nat=>jd sm none (some (ap:Int))++⟨#[97+((strm c 9+(i:Int)*sv)%26).toNat]⟩++jd sm (some (ap:Int)) (some ((ap:Int)+(m:Nat)))).map L2.T.str),x8,.und,eI]) ⟨_,_,rfl⟩ ?_ ?_
  .rintro k _ hk ⟨x8,eI,rfl⟩;refine⟨_,dz (k:=9),⟨dX (by lia),dX (Nat.lt_trans sb (by decide))⟩,by decide,lL,_,Uh (Z3 _ (by decide)) (YY _ (by decide)),?_⟩;refine⟨by exact aL (X9 bl) (by decide),by rw[t3];lia,.int (strm c 8),dz (k:=8),⟨by decide,dX (by decide)⟩,by decide,?_⟩;dsimp only[frz];rw[em];refine⟨by exact aL (X9 bl) (by decide),by rw[Ou,t3];lia,by rw[ak,ak,X1];exact aR (show k<27 by lia) (by decide),.fz (.int (k:Nat)),.fz (.str ⟨#[97+((strm c 9+(k:Int)*sv)%26).toNat]⟩),?_⟩;rw[List.range_succ,bf,bf]
   rfl
  .rintro _ ⟨x8,eI,rfl⟩;rw[show((n:Nat):Int).toNat=n from Int.toNat_natCast n];have bt:∀(k:Nat)x,((List.range n).map λi:Nat=>jd sm none (some (ap:Int))++⟨#[97+((strm c 9+(i:Int)*sv)%26).toNat]⟩++jd sm (some (ap:Int)) (some ((ap:Int)+(m:Nat))))[k]?=some x->nm3 sm.cps.toList ap m (strm c 9) sv k x:=λi x e=>by
    rw[aq]at e;have li:i<n:=Nat.lt_of_not_le λz=>by rw[aM (by rw[X1];exact z)]at e;cases e
    rw[WG li]at e;cases e;unfold nm3;rw[vm,vm,Bx,e2,XT];rfl
   have nl:((List.range n).map λi:Nat=>jd sm none (some (ap:Int))++⟨#[97+((strm c 9+(i:Int)*sv)%26).toNat]⟩++jd sm (some (ap:Int)) (some ((ap:Int)+(m:Nat)))).length=n:=by rw[ak,X1]
   exact q _ (Wk nl bt (λi j x ij hj h1 h2=>YS hs ij (aR hj hn) h1 h2) λi x h=>abJ ba (aL jv (by decide)) hm h) (TX nl bt λi x y t ij hx hy ht e=>YB hx hy ht e)
theorem div_pos{a b:Int}(hb:0<b):(Rat.divInt a b).den<=b.toNat/\(Rat.divInt a b).num.natAbs<=a.natAbs:=by
 have l:=Bj (t:=a) (b:=b) (c:=(Int.gcd a b:Nat)) (X0 hb) (by have:=m9 (a:=a) (b:=b) (X0 hb);exact X0 this) (by lia) (Int.mul_pos (m9 (X0 hb)) hb);have e:=uz l (X0 hb);injection e with e;injection e with e1 e2;injection e2 with e2 _;injection e1 with e1;injection e2 with e2;have h1:=l.lx;have h2:=l.ly;have h3:=l.pos;have e1:a.fdiv ((Int.gcd a b:Nat):Int)=(Rat.divInt a b).num:=e1;have e2:b.fdiv ((Int.gcd a b:Nat):Int)=((Rat.divInt a b).den:Nat):=e2;rw[e1]at h1;rw[e2]at h2 h3;omega
theorem Lw{a b:Int}(ha:0<=a)(h:a<b):0<=Rat.divInt a b/\Rat.divInt a b<1:=by
 have hb:0<b:=by exact Int.lt_of_le_of_lt ha h
 refine⟨Rat.divInt_nonneg ha (XZ hb),?_⟩;have e:Rat.divInt a b=(a:Rat)/(b:Rat):=Rat.divInt_eq_div a b;rw[e];have gv:(0:Rat)<(b:Rat):=by exact_mod_cast hb
 rw[Rat.div_lt_iff gv,Rat.one_mul]
 exact_mod_cast h
structure LD where
 sort:Nat
 pay:Rat
 prs:List (Nat×Rat)
theorem zU{α:Type}(l:List α){n:Nat} : jL l none (some (n:Int))=l.take n:=by
 unfold jL;show(l.drop 0).take (HT.sIx l.length l.length (some (n:Int))-0)=_;rw[HT.uf,List.drop_zero,Nat.sub_zero];rw[List.take_eq_take_iff];lia
theorem OD{a b:Int}(hb:0<b):(Rat.divInt a b).den ∣ b.toNat:=by
 have l:=Bj (t:=a) (b:=b) (c:=(Int.gcd a b:Nat)) (X0 hb) (by have:=m9 (a:=a) (b:=b) (X0 hb);exact X0 this) (by lia) (Int.mul_pos (m9 (X0 hb)) hb);have e:=uz l (X0 hb);injection e with e;injection e with _ e2;injection e2 with e2 _;injection e2 with e2;have e2:b.fdiv ((Int.gcd a b:Nat):Int)=((Rat.divInt a b).den:Nat):=e2;have d:((Int.gcd a b:Nat):Int) ∣ b:=Int.gcd_dvd_right a b;rw[Int.fdiv_eq_ediv_of_dvd d]at e2;obtain⟨x,hx⟩:=d;have g0:=m9 (a:=a) (b:=b) (X0 hb);rw[Int.ediv_eq_of_eq_mul_right (X0 g0) hx]at e2;exact Int.natCast_dvd_natCast.mp ⟨(Int.gcd a b:Nat),by rw[<- e2,Int.toNat_of_nonneg (XZ hb),Int.mul_comm];exact hx⟩
theorem Pz{S:Int}(hS:S≠0):∀ws:List Int,Ea (ws.map λw=>Rat.divInt w S)=Rat.divInt ws.sum S
 |[]=>by show(0:Rat)=Rat.divInt 0 S;rw[Rat.zero_divInt]
 |w::ws=>by
  show Rat.divInt w S+Ea (ws.map λw=>Rat.divInt w S)=Rat.divInt (w+ws.sum) S;rw[Pz hS ws,UT _ _ hS hS];refine(VU (pU hS hS) hS).mpr ?_
  grind
theorem one_sub{a b:Int}(hb:b≠0):1-Rat.divInt a b=Rat.divInt (b-a) b:=by
 rw[show(1:Rat)=Rat.divInt 1 1 from rfl,Rat.divInt_sub_divInt _ _ (by decide) hb,Int.one_mul,Int.mul_one]
theorem Nm:∀{ws:List Int},(∀w∈ws,0<=w)->0<=ws.sum
 |[],_=>by decide
 |w::ws,h=>by
  have:=h w (aO ..);have:=Nm (ws:=ws) λx hx=>h x (aH _ hx);rw[List.sum_cons];lia
theorem T8{b:Int} : ∀{ws:List Int},(∀w∈ws,w<=b)->ws.sum<=b*ws.length
 |[],_=>by simp
 |w::ws,h=>by
  have:=h w (aO ..);have:=T8 (ws:=ws) λx hx=>h x (aH _ hx);rw[List.sum_cons,List.length_cons];have:b*((ws.length+1:Nat):Int)=b*ws.length+b:=by grind
  lia
structure LDk(m:Nat)(d:LD):Prop where
 few:d.prs.length<=8
 lt:∀x∈d.prs,x.1<m
 nn:∀x∈d.prs,0<=x.2
 one:Ea (d.prs.map (·.2))=1
 dn:∃q:Nat,0<q/\q<=4000/\∀x∈d.prs,x.2.den ∣ q
def dw(ws:List (Nat×Rat))(x:Nat->Rat):Rat:=(ws.map λw=>w.2*x w.1).sum
theorem jh(w:Nat×Rat)(ws:List (Nat×Rat))(x:Nat->Rat):dw (w::ws) x=w.2*x w.1+dw ws x:=rfl
theorem Rb(Fw:gT 1 G4 xV Mj)(F:Fu lU z7 f fd):FT 2 f fd jw pq:=by
 refine F.okT Rx λah A outer s H E hr nd=>?_;refine⟨_,(bB (bU 2 (bF Fw (bw (qv 0) (bw (qv 1) bx))))
  (bD (bK (fK (bw (bI lH (qv 0) (qv 2)) (bw (bI lH (qv 1) (qv 2)) bx)))))),?_⟩
 rintro _ R ⟨a,b,rfl,hb,hd,q⟩;have nb:b≠0:=by exact X0 hb
 have g0:=m9 (a:=a) nb;have g1:=N5 (a:=a) nb hd;refine⟨_,_,rfl,⟨by exact X0 g0,g1⟩,⟨by exact X0 g0,g1⟩,?_⟩;have l:=Bj (t:=a) nb (c:=(Int.gcd a b:Nat)) (X0 g0) (by lia) (Int.mul_pos g0 hb);rw[<- uz l nb]at q;exact q
theorem ZR{ws:List Int}(h:∀w∈ws,0<=w){w:Int}(m:w∈ws)(p:0<w):0<ws.sum:=by
 induction ws with
 |nil=>cases m
 |cons v ws ih =>
  rw[List.sum_cons];have h0:=h v (aO ..);have h1:=Nm λx hx=>h x (aH _ hx);rcases YU.mp m with rfl|m
  .lia
  .have:=ih (λx hx=>h x (aH _ hx)) m;lia
structure LX where
 pay:Rat
 sort:Nat
 rs:List Nat
 ws:List Int
abbrev lxT(d:LX):T:=.tup [frR d.pay,.int (d.sort:Nat),.lst (d.rs.map λr:Nat=>.int (r:Nat)),.lst (d.ws.map T.int)]
structure LxK(m:Nat)(d:LX):Prop where
 s4:d.sort<4
 len:d.ws.length=d.rs.length
 pos:0<d.rs.length
 few:d.rs.length<=8
 lt:∀r∈d.rs,r<m
 nn:∀w∈d.ws,0<=w/\w<=60
 sum:0<d.ws.sum
 one:d.sort=0->d.rs.length=1
 two:d.sort=1->d.rs.length=2
 alike:d.sort=0\/d.sort=2->∀w∈d.ws,w=1
def O1:ST:=λts q=>∃(c:Int)(j m:Nat),ts=[.int c,.int (j:Nat),.int (m:Nat)]/\j<=1000/\0<m/\m<=1000/\∀d:LX,LxK m d->q (.fz (lxT d))
theorem WY(T:Tx D)(jH:gT 1 pF j_ um)(gH:gT 2 lU jw pq)(F:Fu Gk yu f fd):FT 3 f fd vD O1:=by
 refine F.okT zP λah A outer s H E hr nd=>?_;refine⟨_,(bB (bU 3 (bF jH (bw (bI cN (qv 0) (bI gJ (bI gJ bA (qv 1)) (qv 1))) (bw bA bx))))
  (bB (bU 4 (bI cG (bG (qv 3) bA) bA))
  (bB (bU 5 (bF gH (bw (bI Hz (bI cG (bG (qv 3) bA) bA) bA) (bw (bI cN bA (bI cG (bG (qv 3) bA) bA)) bx))))
  (bB (cu (cD (go_eq hr.units) (bI cG (bI lH (bG (qv 3) bA) bA) bA) bA)
  (bD (bU 5 (bF gH (bw (bI Hz (bI cG (bI gJ (bI gJ (bG (qv 3) bA) (bG (qv 3) bA)) (bG (qv 3) bA)) (bI gJ bA (bI CJ bA bA))) (bI CJ bA bA)) (bw (bI cN bA (bI cG (bI gJ (bG (qv 3) bA) (bG (qv 3) bA)) (bI CJ bA bA))) bx)))))
  bL)
  (bB (bU 6 (bG (fG (bw bA (bw bA (bw (bI cN bA (bI cG (bG (qv 3) bA) bA)) (bw (bI cN bA (bI cG (bG (qv 3) bA) bA)) bx))))) (qv 4)))
  (bB (zJ (bC yu) u_ u_ ["_law_k"] (dB T.fW (bw (qv 6) bx)) (fZ (i:=0)) cI (bI cG (bG (qv 4) (bI cN bA (qv 0))) (qv 3)) (kh (i:=7) zP.nd rfl (Or.inl rfl)))
  (bB (U7 (bC yu) u_ u_ ["_law_k"] (dB T.fW (bw (qv 6) bx)) (fZ (i:=0)) cI (bI cG (bG (qv 4) (bI cN bA (qv 0))) (bG (fG (bw bA (bw bA bx))) (bI cG (bG (qv 4) bA) bA))) (kh (i:=8) zP.nd rfl (Or.inl rfl)))
  (bB (cu (QW.qt (d7 (cD (go_eq hr.units) (qv 4) bA) (dj (cD (go_eq hr.units) (qv 4) bA))))
  (bD (U7 (bC yu) u_ u_ ["_law_room"] (dY (qv 7)) (fZ (i:=0)) cI bA (kh (i:=8) zP.nd rfl (Or.inl rfl))))
  bL)
  (bB (cu (Cj 8 (cD (go_eq hr.units) (bV (Ib rfl) T.PK boot_sum (bw (qv 8) bx)) bA))
  (bD (abn 8 bA (bI cG (bG (qv 3) bA) (qv 6))))
  bL)
  (bD (Mx 8 (bK (fK (bw (qv 5) (bw (qv 4) (bw (qv 7) (bw (qv 8) bx))))))))))))))))),?_⟩
 rintro _ R ⟨c,j,m,rfl,hj,m0,m1,q⟩;have mz:(0:Int)<(m:Nat):=by lia
 refine sq4 (λo=>∃(cc:Int)(so:Nat)(p:Rat),o=[.fz (.int c),.fz (.int (j:Nat)),.fz (.int (m:Nat)),.fz (.lst ((qM cc 22).map L2.T.int)),.fz (.int (so:Nat)),.fz (frR p),.und,.und,.und]/\so<4) ?_ λY go=>?_
 rotate_left
 .refine⟨⟨dX (by decide),dX (by omega)⟩,⟨dX (by omega),dX (by omega)⟩,_,22,rfl,by decide,?_⟩;dsimp only[frz];generalize c+48271*(j:Int)*(j:Int)=cc;have sl:∀k,0<=strm cc k/\strm cc k<2000000000:=vU cc;have x0:=sl 0;have x1:=sl 1;have x2:=sl 2;have x3:=sl 3;have x4:=sl 4;obtain⟨so,eso,hso⟩ : ∃so:Nat,strm cc 0%4=(so:Nat)/\so<4:=⟨(strm cc 0%4).toNat,by lia,by lia⟩;refine⟨_,dz (k:=0),by decide,?_⟩;dsimp only[frz];rw[eso];refine⟨_,dz (k:=1),by decide,_,dz (k:=2),by decide,_,_,rfl,by lia,dX (by lia),_,dz (k:=20),⟨by decide,dX (by decide)⟩,by decide,swD (λh=>?_) λh=>go _ ⟨cc,so,_,rfl,hso⟩⟩;have b12:strm cc 1*strm cc 2<4000000000000000000/\0<=strm cc 1*strm cc 2:=⟨Int.lt_of_le_of_lt (Int.mul_le_mul (show strm cc 1<=1999999999 by lia) (show strm cc 2<=1999999999 by lia) x2.1 (by decide)) (by decide),Int.mul_nonneg x1.1 x2.1⟩;have b25:Bd (10^25):=Y3 (aF _) (by decide +kernel);refine⟨_,dz (k:=1),_,dz (k:=2),⟨dX (by lia),dX (by lia)⟩,_,dz (k:=3),⟨dX (by lia),dX (by lia)⟩,⟨by decide,by decide,by decide⟩,⟨dX (by decide),b25⟩,by decide,⟨by decide,by decide,by decide⟩,_,dz (k:=2),_,dz (k:=4),⟨dX (by lia),dX (by lia)⟩,⟨by decide,by decide,by decide⟩,by decide,_,_,rfl,?_,?_,go _ ⟨cc,so,_,rfl,hso⟩⟩
  .have:=Z3 (strm cc 2*strm cc 4) (show(10:Int)^Int.toNat 15≠0 by decide);omega
  .have:=Z3 (strm cc 2*strm cc 4) (show(10:Int)^Int.toNat 15≠0 by decide);have:=YY (strm cc 2*strm cc 4) (show(0:Int)<(10:Int)^Int.toNat 15 by decide);have e:(10:Int)^Int.toNat 15=1000000000000000:=by decide
   rw[e]at *;exact dX (by lia)
 rintro _ ⟨cc,so,p,rfl,s4⟩;have sl:∀k,0<=strm cc k/\strm cc k<2000000000:=vU cc;obtain⟨rm,rml,rme⟩ : ∃rm:Nat->Nat,(∀k,rm k<m)/\∀k,strm cc k%(m:Nat)=(rm k:Nat):=⟨λk=>(strm cc k%(m:Nat)).toNat,λk=>by
  have:=YY (strm cc k) mz;have:=Z3 (strm cc k) (show((m:Nat):Int)≠0 by exact X0 mz);show(strm cc k%(m:Nat)).toNat<m;lia,λk=>by
  have:=Z3 (strm cc k) (show((m:Nat):Int)≠0 by exact X0 mz);show _=((strm cc k%(m:Nat)).toNat:Int);lia⟩
 have x3:=sl 3;have x20:=sl 20;obtain⟨n,en,n0,n8,n1,n2⟩ : ∃n:Nat,ixT [L2.T.int 1,L2.T.int 2,L2.T.int (1+strm cc 3%8),L2.T.int (1+strm cc 3%8)] (so:Nat)=some (.int (n:Nat))/\0<n/\n<=8/\(so=0->n=1)/\(so=1->n=2):=by
  have e8:1+strm cc 3%8=(((1+strm cc 3%8).toNat:Nat):Int):=by lia
  obtain rfl|rfl|rfl|rfl:so=0\/so=1\/so=2\/so=3:=by lia
  .exact⟨1,rfl,by exact Nat.succ_pos _,by exact Nat.le_add_left _ _,by lia,by lia⟩
  .exact⟨2,rfl,by exact Nat.succ_pos _,by exact Nat.le_add_left _ _,by lia,by lia⟩
  .exact⟨(1+strm cc 3%8).toNat,by rw[<- e8];rfl,by lia,by lia,by lia,by lia⟩
  .exact⟨(1+strm cc 3%8).toNat,by rw[<- e8];rfl,by lia,by lia,by lia,by lia⟩
 obtain⟨dd,ed,d1⟩ : ∃dd:Int,ixT [L2.T.int 4,L2.T.int 60] (strm cc 20%2)=some (.int dd)/\(dd=4\/dd=60):=by
  obtain e|e:strm cc 20%2=0\/strm cc 20%2=1:=by lia
  .exact⟨4,by rw[e];rfl,.inl rfl⟩
  .exact⟨60,by rw[e];rfl,.inr rfl⟩
 have ln:(rng 0 n).length<=sizeLine:=by rw[rng,ak,X1];exact aL n8 (by decide)
 refine sq4 (λo=>∃(ws:List Int),o=[.fz (.int c),.fz (.int (j:Nat)),.fz (.int (m:Nat)),.fz (.lst ((qM cc 22).map L2.T.int)),.fz (.int (so:Nat)),.fz (frR p),.fz (.int (n:Nat)),.fz (.lst ((List.range n).map λk=>.int (rm (4+k):Nat))),.l1 (ws.map L2.T.int)]/\ws.length=n/\(∀w∈ws,0<=w/\w<60)/\(so=0\/so=2->∀w∈ws,w=1)) ?_ λY go=>?_
 .rintro _ ⟨ws,rfl,wl,wn,wa⟩;have x21:=sl 21;obtain⟨z,ez,hz⟩ : ∃z:Nat,strm cc 21%((n:Nat):Int)=(z:Nat)/\z<n:=⟨(strm cc 21%(n:Nat)).toNat,by have:=Z3 (strm cc 21) (show((n:Nat):Int)≠0 by lia);lia,by have:=YY (strm cc 21) (show(0:Int)<(n:Nat)by lia);lia⟩;have lr:((List.range n).map λk=>rm (4+k)).length=n:=by rw[ak,X1]
  have er:((List.range n).map λk=>rm (4+k)).map (λr:Nat=>L2.T.int (r:Nat))=(List.range n).map λk=>L2.T.int (rm (4+k):Nat):=by rw[XG];rfl
  have aE:∀vs:List Int,vs.length=n->(∀w∈vs,0<=w/\w<=60)->0<vs.sum->(so=0\/so=2->∀w∈vs,w=1)->R (.fz (.tup [frR p,.int (so:Nat),.lst ((List.range n).map λk=>.int (rm (4+k):Nat)),.lst (vs.map L2.T.int)])):=λvs vl vn v0 va=>by
   have:=q ⟨p,so,(List.range n).map λk=>rm (4+k),vs⟩ ⟨s4,by rw[lr];exact vl,by rw[lr];exact n0,by rw[lr];exact n8,λr hr=>by
    obtain⟨k,_,rfl⟩:=YV.mp hr;exact rml _,vn,v0,λh=>by rw[lr];exact n1 h,λh=>by rw[lr];exact n2 h,va⟩
   rw[<- er];exact this
  have wn':∀w∈ws,0<=w/\w<=60:=λw hw=>by have:=wn w hw;lia
  refine⟨ws,rfl,swD (λh=>?_) λh=>aE ws wl wn' (by have:=Nm λw hw=>(wn w hw).1;lia) wa⟩;refine⟨_,dz (k:=21),by lia,z,?_,?_⟩
  .show ixN (ws.map L2.T.int).length (strm cc 21%((n:Nat):Int))=some z;rw[ez];unfold ixN;rw[ak,wl,ZY (XU _),ZY (by lia)]
   rfl
  .have es:(ws.map L2.T.int).set z (.int 1)=(ws.set z 1).map L2.T.int:=by rw[List.map_set]
   dsimp only[frz];rw[es];refine aE _ (by rw[X2];exact wl) (λw hw=>?_) (ZR (λw hw=>?_) (aB (WZ (by lia))) (by decide)) λk w hw=>?_
   .rcases List.mem_or_eq_of_mem_set hw with y|rfl
    .exact wn' w y
    .decide
   .rcases List.mem_or_eq_of_mem_set hw with y|rfl
    .exact(wn w y).1
    .decide
   .rcases List.mem_or_eq_of_mem_set hw with y|rfl
    .exact wa k w y
    .rfl
 .refine⟨.int (strm cc 3),dz (k:=3),by decide,.int (strm cc 3),dz (k:=3),by decide,.int (n:Nat),en,⟨by lia,by lia⟩,ln,nZ (λk=>.int (rm (4+k):Nat)) n (λk hk N M hN=>?_) ?_⟩
  .refine⟨_,dz (k:=4+k) (by lia),mz,?_⟩;rw[rme];exact hN
  refine⟨⟨by lia,by lia⟩,ln,nZ (λk=>.int (strm cc (12+k)%dd)) n (λk hk N M hN=>?_) ?_⟩
  .exact⟨_,dz (k:=12+k) (by lia),_,dz (k:=20),by decide,_,ed,by rcases d1 with rfl|rfl<;>decide,hN⟩
  have em:(List.range n).map (λk=>L2.T.int (strm cc (12+k)%dd))=((List.range n).map λk=>strm cc (12+k)%dd).map L2.T.int:=by rw[XG];rfl
  have e1:(List.range n).map (λ_=>L2.T.int 1)=((List.range n).map λ_=>(1:Int)).map L2.T.int:=by rw[XG];rfl
  have g1:=go _ ⟨(List.range n).map λ_=>(1:Int),rfl,by rw[ak,X1],λw hw=>by
   obtain⟨_,_,rfl⟩:=YV.mp hw;decide,λ_ w hw=>by
   obtain⟨_,_,rfl⟩:=YV.mp hw;rfl⟩
  rw[<- e1]at g1;have lrm:((List.range n).map λk=>L2.T.int (rm (4+k):Nat)).length<=sizeLine:=by rw[ak,X1];exact aL n8 (by decide)
  have d0:0<dd/\dd<=60:=by lia
  rw[em];by_cases h0:so=0\/so=2
  .rcases h0 with rfl|rfl
   .exact⟨lrm,comp_map (λk=>L2.T.int (rm (4+k):Nat)) (λ_=>.int 1) (List.range n) (λk _ N M hN=>hN) g1⟩
   .exact⟨lrm,comp_map (λk=>L2.T.int (rm (4+k):Nat)) (λ_=>.int 1) (List.range n) (λk _ N M hN=>hN) g1⟩
  .refine swF (Zp (by lia)) (swF (Zp (by lia)) (go _ ⟨_,rfl,by rw[ak,X1],λw hw=>?_,λh=>absurd h h0⟩));obtain⟨k,_,rfl⟩:=YV.mp hw;have:=Z3 (strm cc (12+k)) (show dd≠0 by lia);have:=YY (strm cc (12+k)) d0.1;lia
structure RX where
 doors:List (Str×LX)
 out:Str
abbrev dnT(p:Str×LX):T:=.tup [.str p.1,lxT p.2]
abbrev rxT(r:RX):T:=.tup [.lst (r.doors.map dnT),.str r.out]
structure RxK(m:Nat)(r:RX):Prop where
 few:r.doors.length<=6
 nd:(r.doors.map (·.1)).Nodup
 no:r.out∉r.doors.map (·.1)
 wd:∀p∈r.doors,Wd p.1
 wo:Wd r.out
 ok:∀p∈r.doors,LxK m p.2
structure Vs(s:Rat):Prop where
 lo:0<=s
 hi:s<1
 num:s.num.natAbs<=100
 den:s.den<=100
theorem Xr{α:Type}(l:List α){n:Nat}(h:n<=l.length):jL l (some (n:Int)) none=l.drop n:=by
 unfold jL;rw[HT.uf,Nat.min_eq_left h];exact aK (by rw[UY];exact aF _)
theorem Nms.rot{ns:Θ}{n k:Nat}(h:Nms ns n):Nms (ns.drop k++ns.take k) n:=by
 have pm:(ns.drop k++ns.take k).Perm ns:=List.perm_append_comm.trans (by rw[List.take_append_drop]);exact⟨pm.length_eq.trans h.len,pm.nodup_iff.mpr h.nd,λx hx=>h.wd x (pm.mem_iff.mp hx)⟩
def Kv:ST:=λts q=>∃ns:List Int,ts=[scT ns]/\ns.length<=100/\∀(s:Rat)(nm:Θ)(rs:List RX),Vs s->rs.length<=12->Nms nm (rs.length+1)->Far nm (rs.length+1)->(∀r∈rs,RxK rs.length r)->q (.fz (.tup [frR s,.lst (nm.map L2.T.str),.lst (rs.map rxT)]))
theorem Ub(T:Tx D)(qj:gT 1 zM ug Hr)(jH:gT 1 pF j_ um)(gH:gT 2 lU jw pq)(vL:gT 2 Av qW J_)(Lx:gT 3 Gk vD O1)(F:Fu BL IV f fd):FT 4 f fd sI Kv:=by
 refine F.okT Vg λah A outer s H E hr nd=>?_;refine⟨_,(bB (bU 1 (bF jH (bw (bF qj (bw (qv 0) (bw bA bx))) (bw bA bx))))
  (bB (bU 2 (bG (fG (bw bA (bw bA (bw bA (bw bA (bw bA (bw bA bx))))))) (bI cG (bF qj (bw (qv 0) (bw bA bx))) bA)))
  (bB (bU 3 (bI cN bA (bI cG (bG (qv 1) bA) bA)))
  (bB (bU 4 (bF gH (bw (bI cG (bG (qv 1) bA) (qv 3)) (bw (qv 3) bx))))
  (bB (mq 5 (fG bx))
  (bB (bU 6 bA)
  (bB (iQ (dB T.fW (bw (qv 2) bx)) (cA (n:=99) 7)
  (bB (bU 8 (bI cG (bG (qv 1) (qv 7)) (bG (fG (bw bA (bw bA bx))) (bI lH (qv 2) bA))))
  (bB (cu (QW.qt (T_ (cD (go_eq hr.units) (bI cG (bG (qv 1) bA) bA) bA) (Oc (cD (go_eq hr.units) (bI cG (bG (qv 1) bA) (qv 2)) (qv 7)))))
  (bD (bU 8 bA))
  bL)
  (bB (bU 9 (bF vL (bw (bG (qv 1) (bI cN bA (qv 7))) (bw bA bx))))
  (bB (cu (cD (go_eq hr.units) (bI cG (bG (qv 1) bA) bA) bA)
  (bB (bU 9 (bF vL (bw (bG (qv 1) bA) (bw bA bx))))
  (bD (bU 9 (bI cN (gD (qv 9) (gR (bI cG (qv 7) bA)) jF) (gD (qv 9) jF (gR (bI cG (qv 7) bA)))))))
  bL)
  (bB (mq 10 (fG bx))
  (bB (iQ (dY (gD (qv 9) jF (gR (qv 8)))) (cA (n:=99) 11)
  (bB (xP 10 (fK (bw (qv 11) (bw (bF Lx (bw (bF qj (bw (qv 0) (bw (bI cN bA (qv 6)) bx))) (bw (qv 6) (bw (qv 2) bx)))) bx))))
  (bD (bU 6 (bI cN (qv 6) bA)))))
  (bD (Mx 10 (xP 5 (fK (bw (qv 10) (bw (bG (qv 9) bA) bx)))))))))))))
  (bD (Mx 5 (bK (fK (bw (qv 4) (bw (bF vL (bw (bF qj (bw (qv 0) (bw bA bx))) (bw (bI cN (qv 2) bA) bx))) (bw (qv 5) bx)))))))))))))),?_⟩
 rintro _ R ⟨ns,rfl,nl,q⟩;refine sq6 (λo=>∃(c:Int)(m:Nat)(b:Int)(s:Rat),o=[.fz (scT ns),.fz (.lst ((qM c 30).map L2.T.int)),.fz (.int (m:Nat)),.fz (.int b),.fz (frR s),.l1 [],.fz (.int 0),.und,.und,.und,.und,.und]/\m<=12/\Vs s) ?_ λY go=>?_
 rotate_left
 .refine⟨ns,1,rfl,nl,_,30,rfl,by decide,ns,0,rfl,nl,by decide,?_⟩;dsimp only[frz];generalize ns.getD 1 0=c;generalize ns.getD 0 0=c0;obtain⟨m,em,hm⟩ : ∃m:Nat,ixT [L2.T.int 0,L2.T.int 1,L2.T.int 2,L2.T.int 3,L2.T.int 4,L2.T.int 12] (c0%6)=some (.int (m:Nat))/\m<=12:=by
   obtain e|e|e|e|e|e:c0%6=0\/c0%6=1\/c0%6=2\/c0%6=3\/c0%6=4\/c0%6=5:=by lia
   .exact⟨0,by rw[e];rfl,by decide⟩
   .exact⟨1,by rw[e];rfl,by decide⟩
   .exact⟨2,by rw[e];rfl,by decide⟩
   .exact⟨3,by rw[e];rfl,by decide⟩
   .exact⟨4,by rw[e];rfl,by decide⟩
   .exact⟨12,by rw[e];rfl,by decide⟩
  have x27:=vU c 27;have b0:(0:Int)<1+strm c 27%100:=by lia
  refine⟨_,em,_,dz (k:=27),by decide,_,dz (k:=28),b0,_,_,rfl,b0,dX (by lia),go _ ⟨c,m,_,_,rfl,hm,?_⟩⟩;have b1:1+strm c 27%100<=100:=by lia
  generalize 1+strm c 27%100=b at b0 b1;have a0:=Z3 (strm c 28) (show b≠0 by exact X0 b0);have a1:=YY (strm c 28) b0;generalize strm c 28%b=a at a0 a1;obtain⟨z1,z2⟩:=div_pos (a:=a) b0;obtain⟨y1,y2⟩:=Lw a0 a1;exact⟨y1,y2,by lia,by lia⟩
 rintro _ ⟨c,m,b,s,rfl,hm,hs⟩;have sl:∀k,0<=strm c k/\strm c k<2000000000:=vU c;have d12:Int.fdiv ((m:Nat):Int) 12=((m:Nat):Int)/12:=Int.fdiv_eq_ediv_of_nonneg _ (by decide);obtain⟨d,ed,d1⟩ : ∃d:Int,ixT [L2.T.int 4,L2.T.int 3] (Int.fdiv (m:Nat) 12)=some (.int d)/\(d=4\/d=3):=by
  by_cases h:m<12
  .exact⟨4,by rw[d12,show((m:Nat):Int)/12=0 by lia];rfl,.inl rfl⟩
  .exact⟨3,by rw[d12,show((m:Nat):Int)/12=1 by lia];rfl,.inr rfl⟩
 refine⟨⟨by lia,by lia⟩,?_⟩;show tU _ _ _ (rng 0 m) _;refine jG (λk o=>∃(rs:List RX)(j:Nat)(x7 x8 x9 eI d6:OT),o=[.fz (scT ns),.fz (.lst ((qM c 30).map L2.T.int)),.fz (.int (m:Nat)),.fz (.int b),.fz (frR s),.l1 (rs.map rxT),.fz (.int (j:Nat)),x7,x8,x9,eI,d6]/\rs.length=k/\j<=6*k/\∀r∈rs,RxK m r) ⟨[],0,_,_,_,_,_,rfl,rfl,by exact aF _,λ_ z=>(nomatch z)⟩ ?_ ?_
 .rintro k _ hk ⟨rs,j,x7,x8,x9,eI,d6,rfl,rl,hj,hr⟩;dsimp only[hName];refine sq2 (λo=>∃sz:Nat,o=[.fz (scT ns),.fz (.lst ((qM c 30).map L2.T.int)),.fz (.int (m:Nat)),.fz (.int b),.fz (frR s),.l1 (rs.map rxT),.fz (.int (j:Nat)),.fz (.int (k:Nat)),.fz (.int (sz:Nat)),x9,eI,d6]/\sz<=6) ?_ λY go=>?_
  rotate_left
  .have xk:=sl k;refine⟨_,dz (k:=k) (by lia),⟨by decide,dX (by decide)⟩,_,ed,by lia,?_⟩;have z0:=Z3 (strm c k) (show d≠0 by lia);have z1:=YY (strm c k) (show 0<d by lia);dsimp only;refine abh (decide (strm c 26%9=0)&&decide (strm c 25%((m:Nat):Int)=(k:Nat))) (λq hq=>?_) ?_
   .refine⟨_,dz (k:=26),by decide,?_⟩;refine swD (λh=>?_) λh=>?_
    .rw[Zs h,Bool.true_and]at hq;exact⟨_,dz (k:=25),by lia,hq⟩
    .rw[Zp h,Bool.false_and]at hq;exact hq
   .refine sw2 (λ_=>go _ ⟨6,rfl,aF _⟩) λ_=>go _ ⟨(strm c k%d).toNat,?_,by lia⟩;rw[show(((strm c k%d).toNat:Nat):Int)=strm c k%d by exact Int.toNat_of_nonneg z0]
    rfl
  rintro _ ⟨sz,rfl,hsz⟩;refine sq2 (λo=>∃nm:Θ,o=[.fz (scT ns),.fz (.lst ((qM c 30).map L2.T.int)),.fz (.int (m:Nat)),.fz (.int b),.fz (frR s),.l1 (rs.map rxT),.fz (.int (j:Nat)),.fz (.int (k:Nat)),.fz (.int (sz:Nat)),.fz (.lst (nm.map L2.T.str)),eI,d6]/\Nms nm 7) ?_ λY go=>?_
  rotate_left
  .refine⟨_,dz (k:=12+k) (by lia),strm c (12+k),7,rfl,by decide,λnm hn _=>⟨_,dz (k:=29),by decide,swD (λh=>⟨_,dz (k:=12),strm c 12,7,rfl,by decide,λnm hn _=>⟨by decide,by decide,?_⟩⟩) λh=>go _ ⟨nm,rfl,hn⟩⟩⟩;have ek:(k:Int)%7=((k%7:Nat):Int):=by lia
   have e1:jL (nm.map L2.T.str) (some ((k:Int)%7)) none=(nm.drop (k%7)).map L2.T.str:=by rw[ek,ur,Xr nm (by rw[hn.len];exact Y2 (Nat.mod_lt _ (by decide)))]
   have e2:jL (nm.map L2.T.str) none (some ((k:Int)%7))=(nm.take (k%7)).map L2.T.str:=by rw[ek,ur,zU]
   refine⟨by rw[e1,e2,ak,ak,UY,aY,hn.len];exact aL (show _<=14 by lia) (by decide),?_⟩;have:=go _ ⟨_,rfl,hn.rot (k:=k%7)⟩;rw[bf,<- e1,<- e2]at this;exact this
  rintro _ ⟨nm,rfl,hn⟩;have e3:jL (nm.map L2.T.str) none (some (sz:Int))=(nm.take sz).map L2.T.str:=by rw[ur,zU]
  have n6:∃x,nm[6]?=some x:=⟨_,aj (by rw[hn.len];decide)⟩;obtain⟨x6,e6⟩:=n6;have ko:(nm.take sz).Nodup/\x6∉nm.take sz/\(nm.take sz).length<=6/\(∀x∈nm.take sz,Wd x)/\Wd x6:=by
   refine⟨hn.nd.sublist (UZ ..),λh=>?_,by rw[aY];lia,λx hx=>hn.wd x (VY hx),hn.wd x6 (aB e6)⟩;obtain⟨i,hi⟩:=aV h;have li:=(ao.mp hi).1;rw[aY]at li;rw[VQ,ZY (by lia)]at hi;have:=wM hn.nd hi e6;lia
  obtain⟨t1,t2,t3,t4,t5⟩:=ko;show tU _ _ _ (jL (nm.map L2.T.str) none (some (sz:Int))) _;rw[e3];generalize nm.take sz=tk at t1 t2 t3 t4;refine kZ L2.T.str tk (λas o=>∃(ds:List (Str×LX))(j':Nat)(d6:OT),o=[.fz (scT ns),.fz (.lst ((qM c 30).map L2.T.int)),.fz (.int (m:Nat)),.fz (.int b),.fz (frR s),.l1 (rs.map rxT),.fz (.int (j':Nat)),.fz (.int (k:Nat)),.fz (.int (sz:Nat)),.fz (.lst (nm.map L2.T.str)),.l1 (ds.map dnT),d6]/\ds.map (·.1)=as/\(∀p∈ds,LxK m p.2)/\j'=j+as.length) ⟨[],j,_,rfl,rfl,λ_ z=>(nomatch z),rfl⟩ ?_ ?_
  .rintro as a bs _ ea ⟨ds,j',d6,rfl,eM,hd,ej⟩;have al:as.length<6:=by rw[ea,aA,List.length_cons]at t3;lia
   have dl:ds.length=as.length:=by rw[<- eM,ak]
   refine⟨ns,3+j',rfl,nl,_,j',m,rfl,by lia,by lia,by exact aL hm (by decide),λd bg=>⟨by rw[ak];exact aR (show _<7 by lia) (by decide),ds++[(a,d)],j'+1,.fz (.str a),?_,by rw[bf,eM];rfl,λp hp=>?_,by rw[aA,ej];rfl⟩⟩
   .rw[bf]
    rfl
   .rcases Y1.mp hp with z|z
    .exact hd p z
    .cases YR.mp z;exact bg
  .rintro _ ⟨ds,j',d6,rfl,eM,hd,ej⟩;have dl:ds.length=tk.length:=by rw[<- eM,ak]
   refine⟨_,fj (h:=L2.T.str) (k:=6) e6,by rw[ak];exact aR (show _<13 by lia) (by decide),rs++[⟨ds,x6⟩],j',.fz (.int (k:Nat)),.fz (.int (sz:Nat)),.fz (.lst (nm.map L2.T.str)),.fz (.lst (ds.map dnT)),d6,?_,by rw[aA,rl];rfl,by lia,λr gd=>?_⟩
   .rw[bf]
    rfl
   .rcases Y1.mp gd with z|z
    .exact hr r z
    .cases YR.mp z;exact⟨by show ds.length<=6;exact aL (X9 dl) t3,eM ▸ t1,eM ▸ t2,λp hp=>t4 _ (eM ▸ YV.mpr ⟨p,hp,rfl⟩),t5,hd⟩
 .rintro _ ⟨rs,j,x7,x8,x9,eI,d6,rfl,rl,hj,hr⟩;refine⟨ns,2,rfl,nl,_,m+1,rfl,by lia,λnm hn hf=>?_⟩;exact q s nm rs hs (aL (X9 rl) hm) (by rw[rl];exact hn) (by rw[rl];exact hf) (by rw[rl];exact hr)
def oJ(ws:List (Nat×Rat))(p:Nat×Rat):List (Nat×Rat):=if(ws.any λx=>decide (x.1=p.1))=true then ws.map (λx=>if x.1=p.1 then(x.1,x.2+p.2)else x)else ws++[p]
def qF(ps:List (Nat×Rat)):List (Nat×Rat):=ps.foldl oJ []
def mZ(ps:List (Nat×Rat)):List (Nat×Rat):=(qF ps).filter λp=>!decide (p.2=0)
abbrev nmP(ns:Θ)(p:Nat×Rat):Str×Rat:=(ns.getD p.1 ⟨#[]⟩,p.2)
theorem Jm{ns:Θ}(nd:ns.Nodup){i j:Nat}(hi:i<ns.length)(hj:j<ns.length):(ns.getD i ⟨#[]⟩=ns.getD j ⟨#[]⟩)↔i=j:=by
 constructor
 .intro h;rw[au,au,aj hi,aj hj]at h;rcases Nat.lt_trichotomy i j with l|l|l
  .exact absurd h ((List.pairwise_iff_getElem.mp nd) i j hi hj l)
  .exact l
  .exact absurd h.symm ((List.pairwise_iff_getElem.mp nd) j i hj hi l)
 .intro h;rw[h]
theorem abz{ns:Θ}(nd:ns.Nodup){ws:List (Nat×Rat)}{p:Nat×Rat}(hw:∀w∈ws,w.1<ns.length)(hp:p.1<ns.length):addW (ws.map (nmP ns)) (nmP ns p)=(oJ ws p).map (nmP ns):=by
 have an:((ws.map (nmP ns)).any λx=>decide (x.1=(nmP ns p).1))=ws.any λx=>decide (x.1=p.1):=by
  rw[List.any_map];refine Bool.eq_iff_iff.mpr ⟨λh=>?_,λh=>?_⟩
  .obtain⟨x,hx,e⟩:=List.any_eq_true.mp h;exact List.any_eq_true.mpr ⟨x,hx,Zs ((Jm nd (hw x hx) hp).mp (of_decide_eq_true e))⟩
  .obtain⟨x,hx,e⟩:=List.any_eq_true.mp h;exact List.any_eq_true.mpr ⟨x,hx,Zs ((Jm nd (hw x hx) hp).mpr (of_decide_eq_true e))⟩
 unfold addW oJ;rw[an];split
 .rw[XG,XG];refine WP λx hx=>?_;show(if(nmP ns x).1=(nmP ns p).1 then _ else _)=nmP ns (if x.1=p.1 then _ else _);by_cases e:x.1=p.1
  .rw[ZY e,ZY ((Jm nd (hw x hx) hp).mpr e)]
  .rw[ZZ e,ZZ λz=>e ((Jm nd (hw x hx) hp).mp z)]
 .rw[bf];rfl
theorem zA{ws:List (Nat×Rat)}{p w:Nat×Rat}(h:w∈oJ ws p):(w∈ws/\w.1≠p.1)\/w=p\/∃x∈ws,x.1=p.1/\w=(x.1,x.2+p.2):=by
 unfold oJ at h;split at h
 .obtain⟨x,hx,rfl⟩:=YV.mp h;by_cases e:x.1=p.1
  .rw[ZY e];exact .inr (.inr ⟨x,hx,e,rfl⟩)
  .rw[ZZ e];exact .inl ⟨hx,e⟩
 .rename_i n
  rcases Y1.mp h with z|z
  .exact .inl ⟨z,λe=>n (List.any_eq_true.mpr ⟨w,z,Zs e⟩)⟩
  .exact .inr (.inl (YR.mp z))
theorem Oz{ns:Θ}(nd:ns.Nodup){ps:List (Nat×Rat)}(h:∀p∈ps,p.1<ns.length):jf (ps.map (nmP ns))=(qF ps).map (nmP ns):=by
 suffices H:∀(ps ws:List (Nat×Rat)),(∀p∈ps,p.1<ns.length)->(∀w∈ws,w.1<ns.length)->(ps.map (nmP ns)).foldl addW (ws.map (nmP ns))=(ps.foldl oJ ws).map (nmP ns)from H ps [] h λ_ z=>(nomatch z)
 intro ps
 induction ps with
 |nil=>exact λ_ _ _=>rfl
 |cons p ps ih =>
  intro ws hp hw;rw[List.map_cons,List.foldl_cons,List.foldl_cons,abz nd hw (hp p (aO ..))];refine ih _ (λq hq=>hp q (aH _ hq)) λw hm=>?_;rcases zA hm with⟨z,_⟩|rfl|⟨x,hx,_,rfl⟩
  .exact hw w z
  .exact hp w (aO ..)
  .exact hw x hx
theorem Xz{ns:Θ}(nd:ns.Nodup){ps:List (Nat×Rat)}(h:∀p∈ps,p.1<ns.length):vM (ps.map (nmP ns))=(mZ ps).map (nmP ns):=by
 unfold vM mZ;rw[Oz nd h,List.filter_map]
 rfl
theorem Gm{r:Rat}{q:Nat}(hq:0<q):r.den ∣ q↔∃x:Int,r=Rat.divInt x q:=by
 constructor
 .rintro⟨k,rfl⟩;refine⟨r.num*k,?_⟩;have hk:((k:Nat):Int)≠0:=λz=>by rw[show k=0 by lia]at hq;lia
  conv=>lhs;rw[<- rd r]
  refine(VU (qp r) (by push_cast;exact pU (qp r) hk)).mpr ?_
  push_cast
  grind
 .rintro⟨x,rfl⟩;have:=OD (a:=x) (b:=(q:Nat)) (by lia);exact this
theorem Tf{a b:Rat}{q:Nat}(hq:0<q)(ha:a.den ∣ q)(hb:b.den ∣ q):(a+b).den ∣ q:=by
 obtain⟨x,rfl⟩:=(Gm hq).mp ha;obtain⟨y,rfl⟩:=(Gm hq).mp hb;have h0:((q:Nat):Int)≠0:=by lia
 refine(Gm hq).mpr ⟨x+y,?_⟩;rw[UT _ _ h0 h0];refine(VU (pU h0 h0) h0).mpr ?_
 grind
structure JnI(m q:Nat)(as ws:List (Nat×Rat)):Prop where
 nd:(ws.map (·.1)).Nodup
 lt:∀w∈ws,w.1<m
 nn:∀w∈ws,0<=w.2
 dn:∀w∈ws,w.2.den ∣ q
 sum:∀y:Nat->Rat,dw ws y=dw as y
 few:ws.length<=as.length
theorem Mv(as bs:List (Nat×Rat))(y:Nat->Rat):dw (as++bs) y=dw as y+dw bs y:=by
 induction as with
 |nil=>show dw bs y=0+_;rw[Rat.zero_add]
 |cons a as ih=>rw[List.cons_append,jh,jh,ih,Rat.add_assoc]
theorem R5(p:Nat×Rat)(y:Nat->Rat):dw [p] y=p.2*y p.1:=by rw[jh];show _+0=_;rw[Rat.add_zero]
theorem aaB{ws:List (Nat×Rat)}{p:Nat×Rat}(nd:(ws.map (·.1)).Nodup)(y:Nat->Rat):dw (oJ ws p) y=dw ws y+p.2*y p.1:=by
 unfold oJ;split
 .rename_i h
  induction ws with
  |nil=>cases h
  |cons x ws ih =>
   obtain⟨n1,n2⟩:=List.nodup_cons.mp nd;rw[List.map_cons,jh,jh];by_cases e:x.1=p.1
   .rw[ZY e];have rest:ws.map (λx=>if x.1=p.1 then(x.1,x.2+p.2)else x)=ws:=by
     conv=>rhs;rw[<- List.map_id ws]
     refine WP λz hz=>?_;rw[ZZ λw=>n1 (YV.mpr ⟨z,hz,w.trans e.symm⟩)]
     rfl
    rw[rest,<- e];show(x.2+p.2)*y x.1+dw ws y=_
    grind
   .rw[ZZ e,ih n2 (by
     rw[List.any_cons,Zp e,Bool.false_or]at h;exact h)]
    grind
 .rw[Mv,R5]
theorem aaY{ws:List (Nat×Rat)}{p:Nat×Rat}(nd:(ws.map (·.1)).Nodup):((oJ ws p).map (·.1)).Nodup:=Qh nd
theorem YL{m q:Nat}(hq:0<q){as ws:List (Nat×Rat)}{p:Nat×Rat}(hp:p.1<m/\0<=p.2/\p.2.den ∣ q)(h:JnI m q as ws):JnI m q (as++[p]) (oJ ws p):=by
 refine⟨aaY h.nd,λw hw=>?_,λw hw=>?_,λw hw=>?_,λy=>by rw[aaB h.nd,h.sum,Mv,R5],?_⟩
 .rcases zA hw with⟨z,_⟩|rfl|⟨x,hx,_,rfl⟩
  .exact h.lt w z
  .exact hp.1
  .exact h.lt x hx
 .rcases zA hw with⟨z,_⟩|rfl|⟨x,hx,_,rfl⟩
  .exact h.nn w z
  .exact hp.2.1
  .have:=h.nn x hx;have:=hp.2.1;show 0<=x.2+p.2
   grind
 .rcases zA hw with⟨z,_⟩|rfl|⟨x,hx,_,rfl⟩
  .exact h.dn w z
  .exact hp.2.2
  .exact Tf hq (h.dn x hx) hp.2.2
 .have:=h.few;unfold oJ;split
  .rw[ak,aA];exact aL this (XW _ _)
  .rw[aA,aA];simp;omega
theorem Fx{m q:Nat}(hq:0<q):∀{ps:List (Nat×Rat)},(∀p∈ps,p.1<m/\0<=p.2/\p.2.den ∣ q)->JnI m q ps (qF ps):=by
 intro ps h
 suffices H:∀(ps as ws:List (Nat×Rat)),(∀p∈ps,p.1<m/\0<=p.2/\p.2.den ∣ q)->JnI m q as ws->JnI m q (as++ps) (ps.foldl oJ ws)from H ps [] [] h ⟨.nil,λ_ z=>(nomatch z),λ_ z=>(nomatch z),λ_ z=>(nomatch z),λ_=>rfl,aF _⟩
 intro ps
 induction ps with
 |nil=>intro as ws _ h;rw[List.append_nil];exact h
 |cons p ps ih =>
  intro as ws hp h;have:=ih (as++[p]) (oJ ws p) (λx hx=>hp x (aH _ hx)) (YL hq (hp p (aO ..)) h);rw[XT]at this;exact this
theorem xX(y:Nat->Rat):∀ws:List (Nat×Rat),dw (ws.filter λp=>!decide (p.2=0)) y=dw ws y
 |[]=>rfl
 |w::ws=>by
  by_cases e:w.2=0
  .rw[List.filter_cons_of_neg (by rw[Zs e];decide),xX y ws,jh,e,Rat.zero_mul,Rat.zero_add]
  .rw[List.filter_cons_of_pos (by rw[Zp e];rfl),jh,jh,xX y ws]
theorem Yt{m q:Nat}(hq:0<q){ps:List (Nat×Rat)}(h:∀p∈ps,p.1<m/\0<=p.2/\p.2.den ∣ q):JnI m q ps (mZ ps):=by
 have j:=Fx hq h;have sub:∀w∈mZ ps,w∈qF ps:=λw hw=>(List.mem_filter.mp hw).1;refine⟨(List.filter_sublist.map _).nodup j.nd,λw hw=>j.lt w (sub w hw),λw hw=>j.nn w (sub w hw),λw hw=>j.dn w (sub w hw),λy=>?_,aL (List.length_filter_le ..) j.few⟩;unfold mZ;rw[xX,j.sum]
theorem yw{w:Nat×Rat} : ∀{ws:List (Nat×Rat)},(∀w∈ws,0<=w.2)->w∈ws->w.2<=dw ws λ_=>1
 |[],_,h=>by cases h
 |x::ws,nn,h=>by
  rw[jh];have n0:∀ws:List (Nat×Rat),(∀w∈ws,0<=w.2)->0<=dw ws λ_=>1:=λws=>by
   induction ws with
   |nil=>intro _;exact Rat.le_refl
   |cons y ws ih =>
    intro h;rw[jh];have:=h y (aO ..);have:=ih λw hw=>h w (aH _ hw)
    grind
  rcases YU.mp h with rfl|z
  .have:=n0 ws λw hw=>nn w (aH _ hw)
   grind
  .have:=yw (ws:=ws) (λw hw=>nn w (aH _ hw)) z;have:=nn x (aO ..)
   grind
theorem HB:∀ps:List (Nat×Rat),(dw ps λ_=>1)=Ea (ps.map (·.2))
 |[]=>rfl
 |p::ps=>by
  rw[jh,HB ps,Rat.mul_one]
  rfl
theorem LDk.all{m:Nat}{d:LD}(h:LDk m d):∃q:Nat,0<q/\q<=4000/\∀p∈d.prs,p.1<m/\0<=p.2/\p.2.den ∣ q:=by
 obtain⟨q,q0,q1,hq⟩:=h.dn;exact⟨q,q0,q1,λp hp=>⟨h.lt p hp,h.nn p hp,hq p hp⟩⟩
theorem Vr{q:Nat}{r:Rat}(q0:0<q)(q1:q<=4000)(h0:0<=r)(h1:r<=1)(hd:r.den ∣ q):Ch r:=⟨h0,h1,dX (by have:=W1 q0 hd;lia)⟩
theorem LDk.prsOk{m:Nat}{d:LD}{ns:Θ}(h:LDk m d)(hn:Nms ns m):Prs (d.prs.map (nmP ns)):=by
 obtain⟨q,q0,q1,hq⟩:=h.all;have le1:∀p∈d.prs,p.2<=1:=λp hp=>by
  rw[<- h.one,<- HB];exact yw h.nn hp
 have few:=h.few;have m2:(d.prs.map (nmP ns)).map (·.2)=d.prs.map (·.2):=by rw[XG];rfl
 refine⟨by rw[ak];exact aL few (by decide),λp hp=>?_,?_,by rw[m2];exact h.one,λas a bs e=>?_⟩
 .obtain⟨x,hx,rfl⟩:=YV.mp hp;obtain⟨x1,x2,x3⟩:=hq x hx;have lx:x.1<ns.length:=by rw[hn.len];exact x1
  refine⟨hn.wd _ ?_,Vr q0 q1 x2 (le1 x hx) x3⟩;show ns.getD x.1 ⟨#[]⟩∈ns;rw[au,aj lx];exact aU lx
 .rw[m2];have:=Bv (d.prs.map (·.2)) (n:=1) (m:=q) (Nat.one_dvd _) λr hr=>by
   obtain⟨x,hx,rfl⟩:=YV.mp hr;exact(hq x hx).2.2
  have:=W1 q0 this;exact dX (by lia)
 .obtain⟨g3,bs',e0,rfl,e2⟩:=List.map_eq_append_iff.mp e;obtain⟨a',cs',rfl,rfl,rfl⟩:=List.map_eq_cons_iff.mp e2;have sub:∀p∈g3,p∈d.prs:=λp hp=>e0 ▸ VX _ hp;have ha:=hq a' (e0 ▸ aP _ (aO ..));have ca:Ch a'.2:=Vr q0 q1 ha.2.1 (le1 a' (e0 ▸ aP _ (aO ..))) ha.2.2;have j:=Fx q0 (ps:=g3) (m:=m) λp hp=>hq p (sub p hp);rw[Oz hn.nd λp hp=>by rw[hn.len];exact(hq p (sub p hp)).1];have cn:Ch (uU ((qF g3).map (nmP ns)) (nmP ns a').1):=by
   unfold uU;cases ef:((qF g3).map (nmP ns)).find? λx=>decide (x.1=(nmP ns a').1)with
   |none=>exact⟨Rat.le_refl,by show(0:Rat)<=1;decide,dX (by decide)⟩
   |some x =>
    obtain⟨y,hy,rfl⟩:=YV.mp (List.mem_of_find?_eq_some ef);refine Vr q0 q1 (j.nn y hy) ?_ (j.dn y hy);have l1:=yw j.nn hy;rw[j.sum]at l1;have l2:=h.one;rw[<- HB,e0,Mv]at l2;have l3:0<=dw (a'::cs') λ_=>1:=by
     have:∀ws:List (Nat×Rat),(∀w∈ws,0<=w.2)->0<=dw ws λ_=>1:=λws=>by
      induction ws with
      |nil=>intro _;exact Rat.le_refl
      |cons y ws ih =>
       intro h;rw[jh];have:=h y (aO ..);have:=ih λw hw=>h w (aH _ hw)
       grind
     exact this _ λw hw=>h.nn w (e0 ▸ aP _ hw)
    show y.2<=1
    grind
  refine⟨cn.bq,ca.bq,?_⟩;have:=cn.2.2;have:=W1 q0 ha.2.2;have mh:(uU ((qF g3).map (nmP ns)) (nmP ns a').1).den<=4000:=by
   unfold uU;cases ef:((qF g3).map (nmP ns)).find? λx=>decide (x.1=(nmP ns a').1)with
   |none=>exact Up rfl
   |some x =>
    obtain⟨y,hy,rfl⟩:=YV.mp (List.mem_of_find?_eq_some ef);have:=W1 q0 (j.dn y hy);exact aL this q1
  refine dX ?_;rw[Int.natAbs_mul,Int.natAbs_natCast,Int.natAbs_natCast];exact Y3 (Nat.mul_le_mul mh (show a'.2.den<=4000 by exact aL this q1)) (by decide)
def clsOf(D:Adr):Nat->Addr
 |0=>D.Sure
 |1=>D.Toss
 |2=>D.Even
 |_=>D.Mixed
abbrev W7(t:Str)(d:LD):cF:=⟨t,d.pay,mZ d.prs⟩
abbrev Ab(D:Adr)(t:Str)(d:LD):Made:=⟨clsOf D d.sort,W7 t d⟩
theorem JK(D:Adr):∀k,c7 D (clsOf D k)
 |0=>by unfold c7 clsOf;simp
 |1=>by unfold c7 clsOf;simp
 |2=>by unfold c7 clsOf;simp
 |_+3=>by unfold c7 clsOf;simp
abbrev prX(d:LX):List (Nat×Rat):=(d.rs.zip d.ws).map λx=>(x.1,Rat.divInt x.2 d.ws.sum)
abbrev ldX(d:LX):LD:=⟨d.sort,d.pay,prX d⟩
theorem LxK.top{m:Nat}{d:LX}(h:LxK m d):d.ws.sum<=480:=by
 have:=T8 (b:=60) (ws:=d.ws) λw hw=>(h.nn w hw).2;have:=h.len;have:=h.few;lia
theorem LxK.ld{m:Nat}{d:LX}(h:LxK m d):LDk m (ldX d):=by
 have s0:=h.sum;have m2:(d.rs.zip d.ws).map (λx=>x.2)=d.ws:=List.map_snd_zip (by rw[h.len];exact aF _);refine⟨by rw[ak,WU];have:=h.few;lia,λx hx=>?_,λx hx=>?_,?_,d.ws.sum.toNat,by lia,by have:=h.top;lia,λx hx=>?_⟩
 .obtain⟨r,hr,rfl⟩:=YV.mp hx;exact h.lt _ (VT hr).1
 .obtain⟨r,hr,rfl⟩:=YV.mp hx;exact Rat.divInt_nonneg (h.nn _ (VT hr).2).1 (XZ s0)
 .rw[XG,show((λx:Nat×Rat=>x.2) ∘ λx:Nat×Int=>(x.1,Rat.divInt x.2 d.ws.sum))=(λw=>Rat.divInt w d.ws.sum) ∘ λx:Nat×Int=>x.2 from rfl,<- XG,m2,Pz (X0 s0)];have e:=one_sub (a:=d.ws.sum) (b:=d.ws.sum) (X0 s0);rw[Int.sub_self,Rat.zero_divInt]at e
  grind
 .obtain⟨r,hr,rfl⟩:=YV.mp hx;exact OD s0
theorem La:∀n:Nat,(List.replicate n (1:Int)).sum=(n:Nat)
 |0=>rfl
 |n+1=>by rw[List.replicate_succ,List.sum_cons,La n];lia
def K4(D:Adr):ST:=λts q=>∃(t:Str)(d:LX)(ns:Θ)(n m:Nat),ts=[.str t,lxT d,.lst (ns.map T.str)]/\Wd t/\Nms ns n/\m<=n/\LxK m d/\q (.fz (mdT ns (Ab D t (ldX d))))
theorem Sd(T:Tx D)(gH:gT 2 lU jw pq)(qX:OkI P w K mg base CX0 5 D.Sure_init jA (spI K (Pr D)))(eN:OkI P w K mg base CX0 5 D.Mixed_init gj (spI K (wY D)))(sX:OkI P w K mg base CX0 6 D.Toss_init jU (spI K (O8 D)))(qZ:OkI P w K mg base CX0 6 D.Even_init jC (spI K (Og D)))(F:Fu C_ uy f fd):FT 8 f fd qU (K4 D):=by
 refine F.okT Vm λah A outer s H E hr nd=>?_;refine⟨_,(bB (IW (qv 1) (jo (n:=4) (bT (cA (n:=99) 5) (bT (cA (n:=99) 6) (bT (cA (n:=99) 7) (bT (cA (n:=99) 8) gq))))))
  (bB (bU 3 (dh (bC uy) qy qy ["_law_room"] (dY (qv 7)) (fZ (i:=0)) cI (bG (qv 3) (qv 0))))
  (bB (bU 4 (dh (bC uy) qy qy ["_law_weight"] (dY (qv 8)) (fZ (i:=0)) cI (bF gH (bw (qv 0) (bw (bV (Ib rfl) T.PK boot_sum (bw (qv 9) bx)) bx)))))
  (bB (cu (cD (go_eq hr.units) (qv 6) bA)
  (bD (bK (zE T.X6 qX T.aat (bw (qv 0) (bw (qv 5) (bw (bG (qv 3) bA) bx))))))
  bL)
  (bB (cu (cD (go_eq hr.units) (qv 6) bA)
  (bD (bK (zE T.Wt sX T.aaI (bw (qv 0) (bw (qv 5) (bw (bG (qv 4) bA) (bw (bG (qv 3) bA) (bw (bG (qv 3) bA) bx))))))))
  bL)
  (bB (cu (cD (go_eq hr.units) (qv 6) bA)
  (bD (bK (zE T.Xk qZ T.aaJ (bw (qv 0) (bw (qv 5) (bw (qv 3) bx))))))
  bL)
  (bD (bK (zE T.Wg eN T.Ja (bw (qv 0) (bw (qv 5) (bw (dh (bC uy) qy qy ["_law_k"] (dB T.fW (bw (bV jZ T.jW WV (bw (qv 3) bx)) bx)) (fZ (i:=0)) cI (fK (bw (bG (qv 4) (qv 0)) (bw (bG (qv 5) (qv 0)) bx)))) bx)))))))))))),?_⟩
 rintro _ R ⟨t,d,ns,n,m,rfl,wt,hn,mn,hd,q⟩;have hd:LxK n d:={ hd with lt:=λr hr=>aR (hd.lt r hr) mn };have hl:=hd.ld;have few:=hd.few;have s0:=hd.sum;have top:=hd.top;have er:∀r∈d.rs,ixT (ns.map L2.T.str) (r:Nat)=some (.str (ns.getD r ⟨#[]⟩)):=λr gd=>by
  have lp:r<ns.length:=by rw[hn.len];exact hd.lt r gd
  exact fj (by rw[aj lp,au,aj lp];rfl)
 have pk:=hl.prsOk hn;have wk:=Xz hn.nd (ps:=prX d) λp hp=>by rw[hn.len];exact hl.lt p hp
 have rl:d.rs.length<=sizeLine:=aL few (by decide);have wl:=hd.len;refine⟨rfl,by rw[ak];exact rl,comp_map (λr:Nat=>.int (r:Nat)) (λr=>.str (ns.getD r ⟨#[]⟩)) d.rs (λr gd N M hN=>⟨_,er r gd,hN⟩) ?_⟩;refine⟨by rw[ak,wl];exact rl,comp_map L2.T.int (λw=>frR (Rat.divInt w d.ws.sum)) d.ws (λw hw N M hN=>⟨d.ws,rfl,_,_,rfl,s0,dX (by omega),hN⟩) ?_⟩;obtain⟨pay,so,rs,ws⟩:=d;have s4:=hd.s4;have h1:=hd.one;have h2:=hd.two;have ha:=hd.alike;dsimp only at *;obtain rfl|rfl|rfl|rfl:so=0\/so=1\/so=2\/so=3:=by lia
 .obtain⟨r,rfl⟩:=List.length_eq_one_iff.mp (h1 rfl);obtain⟨v,rfl⟩:=List.length_eq_one_iff.mp wl;have:=ha (.inl rfl) v (YR.mpr rfl);subst this;have ep:prX ⟨pay,0,[r],[1]⟩=[(r,1)]:=by
   show[(r,Rat.divInt 1 ([1] : List Int).sum)]=_;rw[show Rat.divInt 1 ([1] : List Int).sum=1 by decide +kernel]
  have e1:mZ [(r,(1:Rat))]=[(r,1)]:=by simp[mZ,qF,oJ]
  have q':R (.fz (drT D.Sure t pay ([(r,1)].map (nmP ns)))):=by rw[<- e1,<- ep];exact q
  have pk':=pk.ok (nmP ns (r,1)) (by rw[ep];exact YR.mpr rfl);exact⟨_,rfl,t,_,pay,rfl,rfl,Uk D,rfl,wt,pk'.1,q'⟩
 .match rs,ws,h2 rfl,wl with
  |[a,b],[x,y],_,_ =>
  have es:([x,y] : List Int).sum=x+y:=by show x+(y+0)=_;lia
  have ec:1-Rat.divInt x ([x,y] : List Int).sum=Rat.divInt y ([x,y] : List Int).sum:=by
   rw[one_sub (X0 s0),es]
   congr 1
   lia
  have ep:prX ⟨pay,1,[a,b],[x,y]⟩=[(a,Rat.divInt x ([x,y] : List Int).sum),(b,1-Rat.divInt x ([x,y] : List Int).sum)]:=by rw[ec];rfl
  rw[ep]at pk;rw[ep]at wk;have q':R (.fz (drT D.Toss t pay (vM ([(a,Rat.divInt x ([x,y] : List Int).sum),(b,1-Rat.divInt x ([x,y] : List Int).sum)].map (nmP ns))))):=by rw[wk,<- ep];exact q
  exact⟨_,rfl,_,rfl,_,rfl,t,_,_,pay,_,rfl,rfl,Tn D,rfl,wt,(pk.ok (nmP ns (a,Rat.divInt x ([x,y] : List Int).sum)) (aO ..)).2,pk,q'⟩
 .have ew:ws=List.replicate rs.length 1:=List.eq_replicate_iff.mpr ⟨wl,ha (.inr rfl)⟩;have es:ws.sum=(rs.length:Nat):=by rw[ew];exact La _
  have r0:0<rs.length:=hd.pos;have ep:prX ⟨pay,2,rs,ws⟩=rs.map λr=>(r,mkRat 1 rs.length):=by
   show((rs.zip ws).map λx=>(x.1,Rat.divInt x.2 ws.sum))=_;rw[es,ew];refine List.ext_getElem (by simp) λi h1 h2=>?_;simp[Rat.divInt_ofNat]
  have ev:even (rs.map λr=>ns.getD r ⟨#[]⟩)=(prX ⟨pay,2,rs,ws⟩).map (nmP ns):=by
   rw[ep];unfold even;simp[Function.comp_def]
  have q':R (.fz (drT D.Even t pay (vM ((prX ⟨pay,2,rs,ws⟩).map (nmP ns))))):=by rw[wk];exact q
  refine⟨t,pay,rs.map λr=>ns.getD r ⟨#[]⟩,rfl,rfl,Tc D,?_,wt,by rw[ev];exact pk,by rw[ev];exact q'⟩;rw[XG]
  rfl
 .have q':R (.fz (drT D.Mixed t pay (vM ((prX ⟨pay,3,rs,ws⟩).map (nmP ns))))):=by rw[wk];exact q
  have lt:(rs.map λr=>L2.T.str (ns.getD r ⟨#[]⟩)).length=rs.length:=ak ..;have em:(List.range rs.length).map (λk=>wyT (nmP ns (rs.getD k 0,Rat.divInt (ws.getD k 0) ws.sum)))=((prX ⟨pay,3,rs,ws⟩).map (nmP ns)).map wyT:=by
   refine List.ext_getElem? λk=>?_;by_cases hk:k<rs.length
   .have k1:rs[k]?=some (rs.getD k 0):=by rw[au,aj hk];rfl
    have k2:ws[k]?=some (ws.getD k 0):=by rw[au,aj (show k<ws.length from wl ▸ hk)];rfl
    have h2:(rs.zip ws)[k]?=some (rs.getD k 0,ws.getD k 0):=List.getElem?_zip_eq_some.mpr ⟨k1,k2⟩;rw[aq,WG hk,aq,aq,aq,h2]
    rfl
   .have zl:(rs.zip ws).length<=k:=by rw[WU];lia
    rw[aM (by rw[ak,X1];exact WJ hk),aM (by rw[ak,ak,ak];exact zl)]
  refine⟨⟨by rw[lt];lia,by rw[lt];lia⟩,by rw[rng,ak,X1,lt];exact rl,?_⟩;refine nZ (λk=>wyT (nmP ns (rs.getD k 0,Rat.divInt (ws.getD k 0) ws.sum))) _ (λk hk N M hN=>?_) ?_
  .rw[lt]at hk;have k1:rs[k]?=some (rs.getD k 0):=by rw[au,aj hk];rfl
   have k2:ws[k]?=some (ws.getD k 0):=by rw[au,aj (wl ▸ hk)];rfl
   exact⟨_,fj (h:=λr=>L2.T.str (ns.getD r ⟨#[]⟩)) k1,_,fj (h:=λw=>frR (Rat.divInt w ws.sum)) k2,hN⟩
  .exact⟨t,pay,_,rfl,rfl,Qz D,ZH (λl=>[L2.T.str t,frR pay,.lst l]) (show List.map _ (List.range _)=_ by rw[lt];exact em),wt,pk,q'⟩
def qJ(ws:List (Nat×Int))(p:Nat×Int):List (Nat×Int):=if(ws.any λx=>decide (x.1=p.1))=true then ws.map (λx=>if x.1=p.1 then(x.1,x.2+p.2)else x)else ws++[p]
def i_(ps:List (Nat×Int)):List (Nat×Int):=ps.foldl qJ []
abbrev iKs(ws:List (Nat×Int)):List Key:=ws.map λx=>.inl (x.1:Nat)
abbrev iTs(ws:List (Nat×Int)):List T:=ws.map λx=>L2.T.int x.2
theorem ZJ(ws:List (Nat×Int))(n:Nat):Bk (iKs ws) (.inl (n:Nat))=ws.any λx=>decide (x.1=n):=by
 unfold Bk;rw[List.any_map]
 congr 1
 funext x
 exact decide_eq_decide.mpr ⟨λz=>Int.ofNat.inj (Sum.inl.inj z),λz=>ZH (λn:Nat=>(Sum.inl (n:Int):Key)) z⟩
theorem Vq(n:Nat):∀ws:List (Nat×Int),j9 (iKs ws) (iTs ws) (.inl (n:Nat))=(ws.find? λx=>decide (x.1=n)).map λx=>L2.T.int x.2
 |[]=>rfl
 |x::ws=>by
  show(if(Sum.inl ((x.1:Nat):Int):Key)=.inl (n:Nat)then some (L2.T.int x.2)else j9 (iKs ws) (iTs ws) (.inl (n:Nat)))=_;by_cases h:x.1=n
  .rw[ZY (ZH (λn:Nat=>(Sum.inl (n:Int):Key)) h),UP (p:=λx:Nat×Int=>decide (x.1=n)) (Zs h)];rfl
  .rw[ZZ (show ¬(Sum.inl ((x.1:Nat):Int):Key)=.inl (n:Nat)from λz=>h (Int.ofNat.inj (Sum.inl.inj z))),UK (p:=λx:Nat×Int=>decide (x.1=n)) (by show ¬decide (x.1=n)=true;rw[Zp h];decide),Vq n ws]
def G6(ws:List (Nat×Int))(n:Nat):Int:=((ws.find? λx=>decide (x.1=n)).map (·.2)).getD 0
theorem U4(ws:List (Nat×Int))(n:Nat):((j9 (iKs ws) (iTs ws) (.inl (n:Nat))).getD (L2.T.int 0))=L2.T.int (G6 ws n):=by
 rw[Vq];unfold G6;cases(ws.find? λx=>decide (x.1=n))<;>rfl
theorem Vo{ws:List (Nat×Int)}{n:Nat}(nd:(ws.map (·.1)).Nodup){x:Nat×Int}(hx:x∈ws)(e:x.1=n):(ws.find? λy=>decide (y.1=n))=some x:=by
 induction ws with
 |nil=>cases hx
 |cons y ws ih =>
  obtain⟨n1,n2⟩:=List.nodup_cons.mp nd;rcases YU.mp hx with rfl|z
  .exact UP (p:=λy:Nat×Int=>decide (y.1=n)) (Zs e)
  .rw[UK (p:=λy:Nat×Int=>decide (y.1=n)) (by show ¬decide (y.1=n)=true;rw[Zp λw=>n1 (YV.mpr ⟨x,z,e.trans w.symm⟩)];decide)];exact ih n2 z
theorem aaq(ws:List (Nat×Int))(p:Nat×Int)(nd:(ws.map (·.1)).Nodup):kpK (iKs ws) (.inl (p.1:Nat))=iKs (qJ ws p)/\kpT (iKs ws) (iTs ws) (.inl (p.1:Nat)) (.int (G6 ws p.1+p.2))=iTs (qJ ws p):=by
 unfold kpK kpT qJ;rw[ZJ];by_cases h:(ws.any λx=>decide (x.1=p.1))=true
 .rw[ZY h,ZY h,ZY h];refine⟨by simp only[iKs,XG];refine WP λx _=>?_;show(Sum.inl ((x.1:Nat):Int):Key)=.inl ((if x.1=p.1 then(x.1,x.2+p.2)else x).1:Nat);split<;>rfl,?_⟩
  clear h
  rw[show iTs (ws.map λx=>if x.1=p.1 then(x.1,x.2+p.2)else x)=ws.map ((λx=>L2.T.int x.2) ∘ λx=>if x.1=p.1 then(x.1,x.2+p.2)else x)from XG]
  suffices H:∀(us:List (Nat×Int)),(∀x∈us,x.1=p.1->x.2=G6 ws p.1)->List.zipWith (λ(k:Key)x=>if k=.inl (p.1:Nat)then L2.T.int (G6 ws p.1+p.2)else x) (iKs us) (iTs us)=us.map ((λx=>L2.T.int x.2) ∘ λx=>if x.1=p.1 then(x.1,x.2+p.2)else x)from H ws λx hx e=>by
   unfold G6;rw[Vo nd hx e];rfl
  intro us
  induction us with
  |nil=>intro _;rfl
  |cons x us ih =>
   intro H;show List.zipWith _ ((Sum.inl ((x.1:Nat):Int):Key)::iKs us) (L2.T.int x.2::iTs us)=_;rw[List.zipWith_cons_cons,ih λy hy=>H y (aH _ hy),List.map_cons]
   congr 1
   by_cases e:x.1=p.1
   .rw[ZY (ZH (λn:Nat=>(Sum.inl (n:Int):Key)) e)];show _=L2.T.int (if x.1=p.1 then(x.1,x.2+p.2)else x).2;rw[ZY e,H x (aO ..) e]
   .rw[ZZ (show ¬(Sum.inl ((x.1:Nat):Int):Key)=.inl (p.1:Nat)from λz=>e (Int.ofNat.inj (Sum.inl.inj z)))];show _=L2.T.int (if x.1=p.1 then(x.1,x.2+p.2)else x).2;rw[ZZ e]
 .rw[ZZ h,ZZ h,ZZ h];have n0:G6 ws p.1=0:=by
   unfold G6;rw[List.find?_eq_none.mpr λx hx z=>h (List.any_eq_true.mpr ⟨x,hx,z⟩)];rfl
  rw[n0,Int.zero_add];simp only[iKs,iTs,bf];exact⟨rfl,rfl⟩
theorem Yd{ws:List (Nat×Int)}{p:Nat×Int}(nd:(ws.map (·.1)).Nodup):((qJ ws p).map (·.1)).Nodup:=by
 unfold qJ;by_cases h:(ws.any λx=>decide (x.1=p.1))=true
 .rw[ZY h,XG];rw[show ws.map ((λx=>x.1) ∘ λx=>if x.1=p.1 then(x.1,x.2+p.2)else x)=ws.map (·.1)from WP λx _=>by show(if x.1=p.1 then(x.1,x.2+p.2)else x).1=x.1;split<;>rfl];exact nd
 .rw[ZZ h,bf];refine List.nodup_append.mpr ⟨nd,by simp,λa ha b hb z=>h ?_⟩;obtain⟨x,hx,rfl⟩:=YV.mp ha;rw[List.map_singleton,YR]at hb;exact List.any_eq_true.mpr ⟨x,hx,Zs (z.trans hb)⟩
theorem RW(as bs:List (Nat×Int)):i_ (as++bs)=bs.foldl qJ (i_ as):=List.foldl_append ..
theorem SN(ps:List (Nat×Int)):((i_ ps).map (·.1)).Nodup:=by
 suffices H:∀(ps ws:List (Nat×Int)),(ws.map (·.1)).Nodup->((ps.foldl qJ ws).map (·.1)).Nodup from H ps [] .nil
 intro ps
 induction ps with
 |nil=>exact λ_ h=>h
 |cons p ps ih=>exact λws h=>ih _ (Yd h)
theorem Fi(ps:List (Nat×Int)):(i_ ps).length<=ps.length:=by
 suffices H:∀(ps ws:List (Nat×Int)),(ps.foldl qJ ws).length<=ws.length+ps.length from by simpa[i_]using H ps []
 intro ps
 induction ps with
 |nil=>exact λ_=>aF _
 |cons p ps ih =>
  intro ws;have h1:(qJ ws p).length<=ws.length+1:=by
   unfold qJ;split
   .rw[ak];exact Xs _
   .rw[aA,List.length_singleton];exact aF _
  have:=ih (qJ ws p);rw[List.foldl_cons,List.length_cons];lia
theorem R_{ps:List (Nat×Int)}(h:∀p∈ps,0<=p.2):∀p∈i_ ps,0<=p.2:=by
 suffices H:∀(ps ws:List (Nat×Int)),(∀p∈ps,0<=p.2)->(∀p∈ws,0<=p.2)->∀p∈ps.foldl qJ ws,0<=p.2 from H ps [] h λ_ z=>(nomatch z)
 intro ps
 induction ps with
 |nil=>exact λ_ _ h=>h
 |cons p ps ih =>
  intro ws hp hw;refine ih _ (λq hq=>hp q (aH _ hq)) λq hq=>?_;have p0:=hp p (aO ..);unfold qJ at hq;split at hq
  .obtain⟨x,hx,rfl⟩:=YV.mp hq;have:=hw x hx;split
   .show 0<=x.2+p.2;lia
   .exact this
  .rcases Y1.mp hq with z|z
   .exact hw q z
   .rw[YR.mp z];exact p0
theorem div_add{a b B:Int}(hB:B≠0):Rat.divInt a B+Rat.divInt b B=Rat.divInt (a+b) B:=by
 rw[UT _ _ hB hB];refine(VU (pU hB hB) hB).mpr ?_
 grind
abbrev ovI(B:Int)(p:Nat×Int):Nat×Rat:=(p.1,Rat.divInt p.2 B)
theorem aax{B:Int}(hB:B≠0)(ws:List (Nat×Int))(p:Nat×Int):oJ (ws.map (ovI B)) (ovI B p)=(qJ ws p).map (ovI B):=by
 unfold oJ qJ;rw[List.any_map];show(if(ws.any λx=>decide (x.1=p.1))=true then _ else _)=_;split
 .rw[XG,XG];refine WP λx _=>?_;show(if x.1=p.1 then(x.1,Rat.divInt x.2 B+Rat.divInt p.2 B)else(x.1,Rat.divInt x.2 B))=ovI B (if x.1=p.1 then _ else _);split
  .rw[div_add hB]
  .rfl
 .rw[bf];rfl
theorem Wu{B:Int}(hB:B≠0)(ps:List (Nat×Int)):qF (ps.map (ovI B))=(i_ ps).map (ovI B):=by
 suffices H:∀(ps ws:List (Nat×Int)),(ps.map (ovI B)).foldl oJ (ws.map (ovI B))=(ps.foldl qJ ws).map (ovI B)from H ps []
 intro ps
 induction ps with
 |nil=>exact λ_=>rfl
 |cons p ps ih=>intro ws;rw[List.map_cons,List.foldl_cons,List.foldl_cons,aax hB,ih]
theorem Xg{B:Int}(hB:0<B){ps:List (Nat×Int)}(h:∀p∈ps,0<=p.2):mZ (ps.map (ovI B))=((i_ ps).filter λp=>decide (0<p.2)).map (ovI B):=by
 unfold mZ;rw[Wu (X0 hB),List.filter_map]
 congr 1
 refine List.filter_congr λp hp=>?_;have nn:=R_ h p hp;show(!decide (Rat.divInt p.2 B=0))=decide (0<p.2);by_cases z:p.2=0
 .rw[z,Rat.zero_divInt];rfl
 .rw[Zp (λy=>z (by rw[<- Rat.zero_divInt B]at y;have:=(VU (X0 hB) (X0 hB)).mp y;rw[Int.zero_mul]at this;exact(Int.mul_eq_zero.mp this).resolve_right (X0 hB))),Zs (by lia)];rfl
def OJ:ST:=λts q=>∃(rs:List Nat)(ws:List Int),ts=[.lst (rs.map λr:Nat=>.int (r:Nat)),.lst (ws.map T.int)]/\ws.length=rs.length/\rs.length<=1000/\(∀w∈ws,0<=w)/\0<ws.sum/\ws.sum<=100000/\q (.l1 ((mZ ((rs.zip ws).map λp=>(p.1,Rat.divInt p.2 ws.sum))).map nwT))
theorem Yl(T:Tx D)(gH:gT 2 lU jw pq)(F:Fu Ig Ih f fd):FT 3 f fd vI OJ:=by
 refine F.okT Wz λah A outer s H E hr nd=>?_;refine⟨_,(bB (mq 2 zG)
  (bB (iQ (dB T.fW (bw (bV jZ T.jW WV (bw (qv 0) bx)) bx)) (cA (n:=99) 3)
  (bD (zT 2 (lJ hr) (bI cN (Qj 2 (lJ hr) (bG (qv 0) (qv 3)) bA) (bG (qv 1) (qv 3))) (bG (qv 0) (qv 3)))))
  (bB (bU 4 (bV (Ib rfl) T.PK boot_sum (bw (qv 1) bx)))
  (bD (WR 2 (bC Ih) MP MP ["_law_room","_law_weight"] (jo (n:=2) (bT (fZ (i:=0)) (bT (fZ (i:=1)) gq))) (Qf (cD Qi (qv 1) bA)) (fK (bw (qv 0) (bw (bF gH (bw (qv 1) (bw (qv 6) bx))) bx)))))))),?_⟩
 rintro _ R ⟨rs,ws,rfl,wl,rl,wn,w0,w1,q⟩;have ll:(rs.map λr:Nat=>L2.T.int (r:Nat)).length=rs.length:=ak ..;have zl:(rs.zip ws).length=rs.length:=by rw[WU,wl,WS]
 have nn:∀p∈rs.zip ws,0<=p.2:=λp hp=>wn _ (VT hp).2;refine⟨⟨by rw[ll];lia,by rw[ll];lia⟩,jG (λk o=>∃x,o=[.fz (.lst (rs.map λr:Nat=>.int (r:Nat))),.fz (.lst (ws.map L2.T.int)),.d1 (iKs (i_ ((rs.zip ws).take k))) (iTs (i_ ((rs.zip ws).take k))),x,.und]) ⟨_,rfl⟩ ?_ ?_⟩
 .rintro k _ hk ⟨x,rfl⟩;have hk:k<rs.length:=by rw[<- ll];exact hk
  have k1:rs[k]?=some (rs[k]):=aj hk;have k2:ws[k]?=some (ws[k]'(wl ▸ hk)):=aj (wl ▸ hk);have kz:(rs.zip ws).take (k+1)=(rs.zip ws).take k++[(rs[k],ws[k]'(wl ▸ hk))]:=by
   rw[List.take_succ_eq_append_getElem (zl ▸ hk),WH]
  refine⟨_,fj (h:=λr:Nat=>L2.T.int (r:Nat)) k1,_,rfl,?_⟩;dsimp only[frz];rw[show(j9 (iKs (i_ ((rs.zip ws).take k))) (iTs (i_ ((rs.zip ws).take k))) (.inl ((rs[k] : Nat):Int))).getD (L2.T.int 0)=.int (G6 (i_ ((rs.zip ws).take k)) rs[k])from U4 _ _];refine⟨_,fj (h:=L2.T.int) k2,_,fj (h:=λr:Nat=>L2.T.int (r:Nat)) k1,_,rfl,?_,.fz (.int (k:Nat)),?_⟩
  .have:=Fi ((rs.zip ws).take k);rw[aY]at this;rw[ak];exact Y3 (show _<=1000 by lia) (by decide)
  .obtain⟨a1,a2⟩:=aaq (i_ ((rs.zip ws).take k)) (rs[k],ws[k]'(wl ▸ hk)) (SN _);rw[kz,show i_ ((rs.zip ws).take k++[(rs[k],ws[k]'(wl ▸ hk))])=qJ (i_ ((rs.zip ws).take k)) (rs[k],ws[k]'(wl ▸ hk))from by rw[RW];rfl,<- a1,<- a2]
   rfl
 .rintro _ ⟨x,rfl⟩;rw[show((rs.map λr:Nat=>L2.T.int (r:Nat)).length:Int).toNat=rs.length by rw[ll];rfl,<- zl,List.take_length];have jl:=Fi (rs.zip ws);have ez:((iKs (i_ (rs.zip ws))).zip (iTs (i_ (rs.zip ws)))).map (λp=>L2.T.tup [kT p.1,p.2])=(i_ (rs.zip ws)).map λp=>.tup [.int (p.1:Nat),.int p.2]:=by
   rw[List.zip_map',XG]
   rfl
  refine⟨ws,rfl,?_⟩;show List.length _<=sizeLine/\pC _ _ _ _ (((iKs (i_ (rs.zip ws))).zip (iTs (i_ (rs.zip ws)))).map λp=>L2.T.tup [kT p.1,p.2]) _;rw[ez];refine⟨by rw[ak];exact aL (show _<=1000 by lia) (by decide),nO (λp:Nat×Int=>.tup [.int (p.1:Nat),.int p.2]) (λp=>decide (0<p.2)) (λp=>nwT (ovI ws.sum p)) (i_ (rs.zip ws)) (λp hp N M hN hM=>⟨rfl,sw2 (λh=>⟨_,_,rfl,w0,dX (by omega),hN h⟩) hM⟩) ?_⟩;rw[show(rs.zip ws).map (λp=>(p.1,Rat.divInt p.2 ws.sum))=(rs.zip ws).map (ovI ws.sum)from rfl,Xg w0 nn,XG]at q;exact q
theorem tD{α:Type}{g:α->PyData}(h:∀x,PyData.canLay0 (g x)=true):∀xs:List α,PyData.canLayAll0 (xs.map g)=true
 |[]=>rfl
 |x::xs=>by rw[List.map_cons];unfold PyData.canLayAll0;rw[tD h xs,h x];rfl
theorem pX{α:Type}{g:α->PyData}{n:Nat}(h:∀x,PyData.depth (g x)<=n):∀xs:List α,PyData.depthAll (xs.map g)<=n
 |[]=>aZ _
 |x::xs=>by
  rw[List.map_cons];unfold PyData.depthAll;have:=pX h xs;have:=h x;lia
theorem pB{α:Type}{g:α->PyData}{h:α->T}(e:∀x,h x=ofD (g x)):∀xs:List α,xs.map h=DG (xs.map g)
 |[]=>rfl
 |x::xs=>by rw[List.map_cons,List.map_cons,pB e xs,e x];rfl
theorem Kh{α:Type}[DecidableEq α]{g:α->PyData}(h:∀x y,PyData.eqv (g x) (g y)=decide (x=y)):∀xs ys:List α,PyData.eqvAll (xs.map g) (ys.map g)=decide (xs=ys)
 |[],[]=>rfl
 |[],_::_=>rfl
 |_::_,[]=>rfl
 |x::xs,y::ys=>by
  rw[List.map_cons,List.map_cons];unfold PyData.eqvAll;rw[h,Kh h xs ys,<- Bool.decide_and];exact decide_eq_decide.mpr ⟨λz=>by rw[z.1,z.2],λz=>List.cons.inj z⟩
structure EqD{α:Type}[DecidableEq α](h:α->T)(g:α->PyData):Prop where
 of:∀x,h x=ofD (g x)
 lay:∀x,PyData.canLay0 (g x)=true
 dep:∀x,PyData.depth (g x)<=60
 eqv:∀x y,PyData.eqv (g x) (g y)=decide (x=y)
theorem EqD.lst{α:Type}[DecidableEq α]{h:α->T}{g:α->PyData}(E:EqD h g)(xs:List α):SeqAt.shaped (.list (xs.map g))=true:=by
 have h1:PyData.canLay0 (.list (xs.map g))=true:=by unfold PyData.canLay0;exact tD E.lay xs
 have h2:PyData.depth (.list (xs.map g))<=64:=by unfold PyData.depth;have:=pX E.dep xs;lia
 unfold SeqAt.shaped;rw[h1,Zs h2];rfl
theorem EqD.gEq{α:Type}[DecidableEq α]{h:α->T}{g:α->PyData}(E:EqD h g){neg:Bool}{a c:List α}{q:OT->Prop}(hq:q (.fz (.bl (xr neg (decide (a=c)))))):gEq neg (.lst (a.map h)) (.lst (c.map h)) q:=by
 refine⟨.list (a.map g),.list (c.map g),ZH L2.T.lst (pB E.of a),ZH L2.T.lst (pB E.of c),E.lst a,E.lst c,?_⟩;unfold PyData.eqv;rw[Kh E.eqv];exact hq
def wN:ST:=λts q=>∃i:Int,ts=[.int i]/\q (.fz (.bl true))
theorem Uu(T:Tx D)(F:Fu rO Hl f fd):FT 1 f fd mG wN:=by
 refine F.okT Sq λah A outer s H E hr nd=>?_;refine⟨_,(bD (bK (oE (jN .int (qv 0) T.bO T.Te boot_int) (uR (T7 (jN .bool (qv 0) T.bO T.Tg boot_bool)))))),?_⟩;rintro _ R ⟨i,rfl,q⟩;exact q
def nQ:ST:=λts q=>∃r:Rat,ts=[frR r]/\q (.fz (.bl true))
theorem KY(T:Tx D)(jg:gT 1 rO mG wN)(Fw:gT 1 G4 xV Mj)(F:Fu lg uP f fd):FT 2 f fd iD nQ:=by
 refine F.okT Li λah A outer s H E hr nd=>?_;refine⟨_,(bB (cu (QW.qt (d7 (bW (bY (jN .tuple (qv 0) T.bO T.zK boot_tuple))) (dj (cD (mO hr.units) (bV jZ T.jW WV (bw (qv 0) bx)) bA))))
  (bD (bK gk))
  bL)
  (bB (cu (QW.qt (d7 (bW (bY (bF jg (bw (bG (qv 0) bA) bx)))) (dj (bW (bY (bF jg (bw (bG (qv 0) bA) bx)))))))
  (bD (bK gk))
  bL)
  (bD (bK (oE (jD Qi (bG (qv 0) bA) bA) (uR (jD (go_eq hr.units) (bF Fw (bw (bG (qv 0) bA) (bw (bG (qv 0) bA) bx))) bA))))))),?_⟩
 rintro _ R ⟨r,rfl,q⟩;have:=r.den_pos;refine⟨_,rfl,_,rfl,swT (Zs (by lia)) ⟨_,_,rfl,?_⟩⟩;rw[show Int.gcd r.num r.den=1 from r.reduced];exact q
abbrev qL(p:Str×LX):cF:=W7 p.1 (ldX p.2)
def Nk:ST:=λts q=>∃(m:Nat)(ds:List (Str×LX)),ts=[.lst (ds.map dnT)]/\ds.length<=1000/\(∀p∈ds,LxK m p.2)/\q (.l1 (ds.map λp=>ofT (qL p)))
theorem abT(T:Tx D)(NK:gT 3 Ig vI OJ)(F:Fu Gg Ox f fd):FT 4 f fd xK Nk:=by
 refine F.okT aaF λah A outer s H E hr nd=>?_;refine⟨_,(bD (bK (dh (bC Ox) Vu Vu ["_law_name","_law_door_here"] (dY (qv 0)) (jo (n:=2) (bT (fZ (i:=0)) (bT (fZ (i:=1)) gq))) cI (fK (bw (qv 0) (bw (bG (qv 1) bA) (bw (bF NK (bw (bG (qv 1) bA) (bw (bG (qv 1) bA) bx))) bx))))))),?_⟩;rintro _ R ⟨m,ds,rfl,dl,hd,q⟩;refine⟨by rw[ak];exact aL dl (by decide),comp_map dnT (λp=>ofT (qL p)) ds (λp hp N M hN=>?_) q⟩;have h:=hd p hp;have:=h.few;have:=h.top;exact⟨rfl,p.2.rs,p.2.ws,rfl,h.len,by lia,λw hw=>(h.nn w hw).1,h.sum,by exact Int.le_trans this (by decide),hN⟩
def Vf:ST:=λts q=>∃p:Nat×Rat,ts=[nwT p]/\q (.fz (.bl true))
theorem ZM(T:Tx D)(jg:gT 1 rO mG wN)(gU:gT 2 lg iD nQ)(F:Fu Nh Vn f fd):FT 3 f fd z6 Vf:=by
 refine F.okT ZS λah A outer s H E hr nd=>?_;refine⟨_,(bD (bK (oE (jN .tuple (qv 0) T.bO T.zK boot_tuple) (oE (jD (go_eq hr.units) (bV jZ T.jW WV (bw (qv 0) bx)) bA) (oE (bF jg (bw (bG (qv 0) bA) bx)) (uR (bF gU (bw (bG (qv 0) bA) bx)))))))),?_⟩;rintro _ R ⟨p,rfl,q⟩;exact⟨_,rfl,_,rfl,q⟩
def frD(r:Rat):PyData:=.tuple [.int r.num,.int r.den]
def nwD(p:Nat×Rat):PyData:=.tuple [.int (p.1:Nat),frD p.2]
def zp(o:cF):PyData:=.tuple [.str o.name,frD o.pay,.list (o.ways.map nwD)]
theorem kW{α:Type}{g:α->PyData}(h:∀x,PyData.eqv (g x) (g x)=true):∀xs:List α,PyData.eqvAll (xs.map g) (xs.map g)=true
 |[]=>rfl
 |x::xs=>by rw[List.map_cons];unfold PyData.eqvAll;rw[h x,kW h xs];rfl
theorem Ui(r:Rat):PyData.eqv (frD r) (frD r)=true:=by simp[frD,PyData.eqv,PyData.eqvAll]
theorem aaw(p:Nat×Rat):PyData.eqv (nwD p) (nwD p)=true:=by simp[nwD,PyData.eqv,PyData.eqvAll,Ui]
theorem acd(o:cF):PyData.eqv (zp o) (zp o)=true:=by
 simp[zp,PyData.eqv,PyData.eqvAll,Ui,kW aaw]
theorem Sv(r:Rat):PyData.canLay0 (frD r)=true:=by simp[frD,PyData.canLay0,PyData.canLayAll0]
theorem ace(p:Nat×Rat):PyData.canLay0 (nwD p)=true:=by simp[nwD,PyData.canLay0,PyData.canLayAll0,Sv]
theorem lay_of{o:cF}(h:Wd o.name):PyData.canLay0 (zp o)=true:=by
 simp[zp,PyData.canLay0,PyData.canLayAll0,Sv,tD ace,lX h]
theorem Uv(r:Rat):PyData.depth (frD r)<=1:=by simp[frD,PyData.depth,PyData.depthAll]
theorem aby(p:Nat×Rat):PyData.depth (nwD p)<=2:=by
 have:=Uv p.2;simp only[nwD,PyData.depth,PyData.depthAll];lia
theorem abo(o:cF):PyData.depth (zp o)<=4:=by
 have:=Uv o.pay;have:=pX aby o.ways;simp only[zp,PyData.depth,PyData.depthAll];lia
def vd:ST:=λts q=>∃os:List cF,ts=[.lst (os.map ofT),.lst (os.map ofT)]/\os.length<=1000/\(∀o∈os,Wd o.name/\o.ways.length<=1000)/\q (.fz (.bl true))
theorem abt(p:Nat×Rat):nwT p=ofD (nwD p):=rfl
theorem V5(o:cF):ofT o=ofD (zp o):=by
 show L2.T.tup [.str o.name,frR o.pay,.lst (o.ways.map nwT)]=.tup [.str o.name,frR o.pay,.lst (DG (o.ways.map nwD))];rw[pB abt]
theorem Aa{os:List cF}(h:∀o∈os,Wd o.name):SeqAt.shaped (.list (os.map zp))=true:=by
 have h1:PyData.canLayAll0 (os.map zp)=true:=by
  induction os with
  |nil=>rfl
  |cons o os ih =>
   rw[List.map_cons];unfold PyData.canLayAll0;rw[lay_of (h o (aO ..)),ih λx hx=>h x (aH _ hx)];rfl
 have h2:=pX abo os;unfold SeqAt.shaped PyData.canLay0 PyData.depth;rw[h1,Zs (by lia)];rfl
theorem XS{os:List cF}(h:∀o∈os,Wd o.name){q:OT->Prop}(hq:q (.fz (.bl true))):gEq false (.lst (os.map ofT)) (.lst (os.map ofT)) q:=by
 refine⟨.list (os.map zp),.list (os.map zp),ZH L2.T.lst (pB V5 os),ZH L2.T.lst (pB V5 os),Aa h,Aa h,?_⟩;unfold PyData.eqv;rw[kW acd];exact hq
theorem Nt(T:Tx D)(gU:gT 2 lg iD nQ)(Sx:gT 3 Nh z6 Vf)(F:Fu ud wQ f fd):FT 4 f fd lR vd:=by
 refine F.okT Ru λah A outer s H E hr nd=>?_;refine⟨_,(bB (cu (QW.qt (d7 (bW (bY (jN .list (qv 0) T.bO T.rA boot_list))) (dj (cD (mO hr.units) (bV jZ T.jW WV (bw (qv 0) bx)) (bV jZ T.jW WV (bw (qv 1) bx))))))
  (bD (bK gk))
  bL)
  (bB (iQ (dY (qv 0)) (cA (n:=99) 2)
  (bB (cu (QW.qt (d7 (bW (bY (jN .tuple (qv 2) T.bO T.zK boot_tuple))) (d7 (cD (mO hr.units) (bV jZ T.jW WV (bw (qv 2) bx)) bA) (dj (bW (bY (jN .str (bG (qv 2) bA) T.bO T.TJ boot_str)))))))
  (bD (bK gk))
  bL)
  (bB (cu (QW.qt (d7 (bW (bY (bF gU (bw (bG (qv 2) bA) bx)))) (dj (bW (bY (jN .list (bG (qv 2) bA) T.bO T.rA boot_list))))))
  (bD (bK gk))
  bL)
  (bD (cu (bW (bY (bV (Gi rfl) T.Qk boot_all (bw (dh (bC wQ) BR BR ["_law_way_here"] (dY (bG (qv 2) bA)) (fZ (i:=0)) cI (bF Sx (bw (qv 0) bx))) bx))))
  (bD (bK gk))
  bL)))))
  (bD (bK (jD (go_eq hr.units) (qv 0) (qv 1)))))),?_⟩
 rintro _ R ⟨os,rfl,ol,ho,q⟩;refine swF (by rw[Zs rfl];rfl) (kZ ofT os (λas o=>∃x,o=[.fz (.lst (os.map ofT)),.fz (.lst (os.map ofT)),x]) ⟨_,rfl⟩ ?_ ?_)
 .rintro as a bs _ e ⟨x,rfl⟩;obtain⟨wa,la⟩:=ho a (e ▸ by simp);refine⟨a.pay,rfl,by rw[ak];exact aL la (by decide),comp_map nwT (λ_=>.bl true) a.ways (λp _ N M hN=>⟨p,rfl,hN⟩) ⟨a.ways.map λ_=>true,by rw[XG];rfl,?_⟩⟩;show sw (!((a.ways.map λ_=>true).all λb=>b)) _ _;rw[show((a.ways.map λ_=>true).all λb=>b)=true by simp];exact⟨_,rfl⟩
 .rintro _ ⟨x,rfl⟩;exact XS (λo h=>(ho o h).1) q
theorem Ss:EqD L2.T.bl PyData.bool:=⟨λ_=>rfl,λ_=>rfl,λ_=>aZ _,λx y=>by cases x<;>cases y<;>rfl⟩
def Gj(D:Adr):ST:=λts q=>∃(C:Addr)(ks:Θ)(us:List L2.T)(n:Int),ts=[.exc C ks us,.int n]/\((C=D.NoRoom/\n=6)\/(C=D.NoDoor/\n=7))/\q (.fz (.bl true))
theorem X3(T:Tx D)(F:Fu zN Hy f fd):FT 1 f fd uq (Gj D):=by
 refine F.okT Y5 λah A outer s H E hr nd=>?_;refine⟨_,(bB (bU 2 (fG (bw (lN (qv 0) T.bO T.NT) (bw (lN (qv 0) T.bO T.Ur) (bw (lN (qv 0) T.bO T.Mt) bx)))))
  (bB (bU 2 (bI cN (qv 2) (fG (bw (lN (qv 0) T.bO T.Qx) (bw (lN (qv 0) T.bO T.Sy) (bw (lN (qv 0) T.bO T.WL) bx))))))
  (bB (bU 2 (bI cN (qv 2) (fG (bw (lN (qv 0) T.bO T.Bw) (bw (lN (qv 0) T.bO T.Jy) (bw (lN (qv 0) T.bO T.VF) bx))))))
  (bD (bK (oE (W8 (qv 0) T.bO T.Jb (by rfl)) (uR (jD (go_eq hr.units) (qv 2) (dh (bC Hy) Ms Ms ["_law_k"] (dB T.fW (bw bA bx)) (fZ (i:=0)) cI (jD (go_eq hr.units) (qv 0) (qv 2))))))))))),?_⟩
 rintro _ R ⟨C,ks,us,n,rfl,h,q⟩;have rg9:(rng 0 9).length<=sizeLine:=by decide
 rcases h with⟨rfl,rfl⟩|⟨rfl,rfl⟩
 .have x:=T.xk_NoRoom;refine⟨x,fQ T.ki_NoRoom_NoNumber ⟨x,fQ T.ki_NoRoom_NoName ⟨x,fQ T.ki_NoRoom_NoChance ⟨x,fQ T.ki_NoRoom_NoShare ⟨x,fQ T.ki_NoRoom_NoText ⟨x,fQ T.ki_NoRoom_NoRow ⟨by decide,?_⟩⟩⟩⟩⟩⟩⟩;refine⟨x,fQ T.ki_NoRoom_NoRoom ⟨x,fQ T.ki_NoRoom_NoDoor ⟨x,fQ T.ki_NoRoom_NoPlan ⟨by decide,?_⟩⟩⟩⟩;refine⟨x,fQ T.ki_NoRoom_ValueError ?_⟩;refine⟨⟨by decide,by decide⟩,rg9,nZ (λk=>.bl (decide ((k:Int)=6))) 9 (λk _ N M hN=>hN) ?_⟩;exact Ss.gEq (a:=[false,false,false,false,false,false,true,false,false]) (c:=(List.range 9).map λk:Nat=>decide ((k:Int)=6)) q
 .have x:=T.xk_NoDoor;refine⟨x,fQ T.ki_NoDoor_NoNumber ⟨x,fQ T.ki_NoDoor_NoName ⟨x,fQ T.ki_NoDoor_NoChance ⟨x,fQ T.ki_NoDoor_NoShare ⟨x,fQ T.ki_NoDoor_NoText ⟨x,fQ T.ki_NoDoor_NoRow ⟨by decide,?_⟩⟩⟩⟩⟩⟩⟩;refine⟨x,fQ T.ki_NoDoor_NoRoom ⟨x,fQ T.ki_NoDoor_NoDoor ⟨x,fQ T.ki_NoDoor_NoPlan ⟨by decide,?_⟩⟩⟩⟩;refine⟨x,fQ T.ki_NoDoor_ValueError ?_⟩;refine⟨⟨by decide,by decide⟩,rg9,nZ (λk=>.bl (decide ((k:Int)=7))) 9 (λk _ N M hN=>hN) ?_⟩;exact Ss.gEq (a:=[false,false,false,false,false,false,false,true,false]) (c:=(List.range 9).map λk:Nat=>decide ((k:Int)=7)) q
def FN(D:Adr):SX:=λts R z=>∃(s:Rat)(ns:Θ)(off:List (List cF))(w:Nat)(t u:L2.T),ts=[hlT D s ns off,.int (w:Nat),t,u]/\Df ns off/\((w<2/\RmX ns.length t/\z D.NoRoom ["room"] [t])\/(w=2/\Il ns u/\z D.NoRoom ["room"] [u]))
theorem RM(T:Tx D)(mU:OkI P w K mg base (CXO P w) 4 D.Hall_offers cZ (spX K (Cd D)))(fM:OkI P w K mg base (CXO P w) 4 D.Hall_door_at dG (spX K (rK D)))(oY:OkI P w K mg base (CXO P w) 3 D.Hall_place eV (spX K (Fz D)))(F:Fu zX Ia f fd):dO P w K mg base (CXO P w) 5 f fd sS (spX K (FN D)):=by
 refine F.okTX Vw λah A outer s H E hr nd=>?_;refine⟨_,(bD (cu (cD (go_eq hr.units) (qv 1) bA)
  (bD (tK (qv 0) T.cR T.jQ mU (bw (qv 2) bx) (KS:=cM)))
  (bD (cu (cD (go_eq hr.units) (qv 1) bA)
  (bD (tK (qv 0) T.cR T.lF fM (bw (qv 2) (bw (qv 3) bx)) (KS:=cM)))
  (bD (tK (qv 0) T.cR T.kJ oY (bw (qv 3) bx) (KS:=cM))))))),?_⟩
 rintro _ R Z ⟨s,ns,off,w,t,u,rfl,h,hc⟩;rcases hc with⟨w2,ht,q⟩|⟨rfl,hu,q⟩
 .obtain rfl|rfl:w=0\/w=1:=by lia
  .exact⟨⟨rfl,rfl⟩,s,ns,off,t,rfl,ht,q⟩
  .exact⟨⟨rfl,rfl⟩,s,ns,off,t,u,rfl,h,.inl ⟨ht,q⟩⟩
 .exact⟨⟨rfl,rfl⟩,s,ns,off,u,rfl,hu,q⟩
def EqT(t:L2.T):Prop:=∀q:OT->Prop,q (.fz (.bl true))->gEq false t t q
def zZ(D:Adr):ST:=λts q=>∃(s:Rat)(ns:Θ)(off:List (List cF))(w:Nat)(t u:L2.T),ts=[hlT D s ns off,.int (w:Nat),t,u]/\Df ns off/\((w<2/\RmX ns.length t/\EqT t)\/(w=2/\Il ns u/\EqT u))/\q (.fz (.bl true))
theorem Nf(T:Tx D)(Cv:afB P w K mg base 5 zX sS (FN D))(yh:gT 1 zN uq (Gj D))(F:Fu uX yt f fd):FT 6 f fd mV (zZ D):=by
 refine F.okT zW λah A outer s H E hr nd=>?_;refine⟨_,(bB (bU 4 xH)
  (bB (W4 5 4 zW.nd Cv hr.md T.nH T.yG T.yC (λ_ _=>(bw (qv 0) (bw (qv 1) (bw (qv 2) (bw (qv 3) bx))))))
  (bB (cu (QW.qt (d7 (cD Z0 (qv 4) xH) (dj (bW (bY (bF yh (bw (qv 4) (bw bA bx))))))))
  (bD (bK gk))
  bL)
  (bB (cu (cD (go_eq hr.units) (qv 1) bA)
  (bD (bK (jD (go_eq hr.units) (GX (qv 4)) (qv 3))))
  bL)
  (bD (bK (jD (go_eq hr.units) (GX (qv 4)) (qv 2)))))))),?_⟩
 rintro _ R ⟨s,ns,off,w,t,u,rfl,h,hc,q⟩;refine⟨s,ns,off,w,t,u,rfl,h,?_⟩;have fl:rQ K D.NoRoom/\hasDictIn K D.NoRoom=true/\bN K D.NoRoom "room":=⟨T.xk_NoRoom,T.hd_NoRoom,T.qY⟩;rcases hc with⟨w2,ht,et⟩|⟨rfl,hu,eu⟩
 .refine .inl ⟨w2,ht,⟨Up rfl,rfl,T.sm_NoRoom⟩,_,_,_,_,rfl,.inl ⟨rfl,rfl⟩,swF (Zp (by lia)) ⟨fl,fQ rfl (et _ q)⟩⟩
 .exact .inr ⟨rfl,hu,⟨Up rfl,rfl,T.sm_NoRoom⟩,_,_,_,_,rfl,.inl ⟨rfl,rfl⟩,fl,fQ rfl (eu _ q)⟩
def Af(D:Adr):ST:=λts q=>∃(s:Rat)(ns:Θ)(off:List (List cF))(k:Nat)(ds:List cF)(u:L2.T),ts=[hlT D s ns off,.int (k:Nat),u]/\Df ns off/\off[k]?=some ds/\(∀n∈ds.map (·.name),Wd n)/\Il (ds.map (·.name)) u/\EqT u/\q (.fz (.bl true))
theorem Lq(T:Tx D)(fM:OkI P w K mg base (CXO P w) 4 D.Hall_door_at dG (spX K (rK D)))(yh:gT 1 zN uq (Gj D))(F:Fu u0 xM f fd):FT 6 f fd mH (Af D):=by
 refine F.okT BZ λah A outer s H E hr nd=>?_;refine⟨_,(bB (bU 3 xH)
  (bB (Yy 4 3 BZ.nd (λ_ _=>(qv 0)) T.cR T.lF fM hr.md T.nH T.yG T.yC (λ_ _=>(bw (qv 1) (bw (qv 2) bx))) (KS:=cM))
  (bD (bK (oE (jD Yk (qv 3) xH) (oE (bF yh (bw (qv 3) (bw bA bx))) (uR (jD (go_eq hr.units) (GX (qv 3)) (qv 2))))))))),?_⟩
 rintro _ R ⟨s,ns,off,k,ds,u,rfl,h,e,ws,hu,eu,q⟩;have fl:rQ K D.NoDoor/\hasDictIn K D.NoDoor=true/\bN K D.NoDoor "door":=⟨T.xk_NoDoor,T.hd_NoDoor,T.su⟩;refine⟨⟨rfl,rfl⟩,s,ns,off,_,u,rfl,h,.inr ⟨k,ds,rfl,e,ws,hu,⟨Up rfl,rfl,T.sm_NoDoor⟩,?_⟩⟩;exact⟨_,_,_,_,rfl,.inr ⟨rfl,rfl⟩,fl,fQ rfl (eu _ q)⟩
structure StH(D:Adr)(s:Rat)(ns:Θ)(off:List (List cF))(rs:List RX)(x:Str):Prop where
 h:Df ns off
 o:off=rs.map λr=>r.doors.map qL
 ok:∃m,∀r∈rs,RxK m r
 wx:Wd x
 nx:x∉ns
 far:∀y∈ns,∀t,t≠[]->y.cps.toList=x.cps.toList++t->False
 len:ns.length=rs.length
 few:rs.length<=12
theorem zR(i:Int):EqT (.int i):=λq h=>by show q (.fz (.bl (xr false (decide (i=i)))));rw[Zs rfl];exact h
theorem vP(i:Str):EqT (.str i):=λq h=>by show q (.fz (.bl (xr false (decide (i=i)))));rw[Zs rfl];exact h
theorem abA(i:Bool):EqT (.bl i):=λq h=>by show q (.fz (.bl (xr false (decide (i=i)))));rw[Zs rfl];exact h
theorem Py:EqT .non:=λq h=>h
theorem Nb{t:L2.T}(d:PyData)(n:eqS t t=none)(e:t=ofD d)(s:SeqAt.shaped d=true)(v:PyData.eqv d d=true):EqT t:=λq h=>by
 unfold gEq;rw[n];exact⟨d,d,e,e,s,s,by rw[v];exact h⟩
theorem aeD{k n:Nat}(e:k=n)(c:Int):∃t,ixT [L2.T.int (-1),.int (k:Nat),.bl true,.non,.str (Str.ofString "0"),.int ((k:Nat)+(10:Int)^Int.toNat 20),.lst [.int 0],.tup [.int 0]] (c%8)=some t/\RmX n t/\EqT t:=by
 subst e;obtain e|e|e|e|e|e|e|e:c%8=0\/c%8=1\/c%8=2\/c%8=3\/c%8=4\/c%8=5\/c%8=6\/c%8=7:=by lia
 .exact⟨_,by rw[e];rfl,.far (by omega),zR _⟩
 .exact⟨_,by rw[e];rfl,.far (by lia),zR _⟩
 .exact⟨_,by rw[e];rfl,.kind rfl,abA _⟩
 .exact⟨_,by rw[e];rfl,.kind rfl,Py⟩
 .exact⟨_,by rw[e];rfl,.kind rfl,vP _⟩
 .have:(0:Int)<(10:Int)^Int.toNat 20:=by decide
  exact⟨_,by rw[e];rfl,.far (by lia),zR _⟩
 .exact⟨_,by rw[e];rfl,.kind rfl,Nb (.list [.int 0]) rfl rfl rfl rfl⟩
 .exact⟨_,by rw[e];rfl,.kind rfl,Nb (.tuple [.int 0]) rfl rfl rfl rfl⟩
theorem w6{ns:Θ}{y:Str}(l:y.length<=1000)(h:y∉ns):Il ns (.str y):=fQ (show wdT (.str y)=some (qH y.cps.toList)from ZY l) λ_=>⟨y,rfl,h⟩
theorem vN{ns:Θ}{t:L2.T}(e:wdT t=some false):Il ns t:=fQ e λz=>(nomatch z)
def NnT(t:L2.T):Prop:=∃d,t=ofD d/\SeqAt.shaped d=true/\∀nm:Θ,((nm.map PyData.str).any λy=>PyData.eqv y d)=false->Il nm t
theorem PX{y:Str}(l:y.length<=1000)(s:PyData.strOk y=true):NnT (.str y):=⟨.str y,rfl,qm s,λnm h=>w6 l (by rw[vH]at h;exact of_decide_eq_false h)⟩
theorem Iw{t:L2.T}(d:PyData)(e:t=ofD d)(s:SeqAt.shaped d=true)(w:wdT t=some false):NnT t:=⟨d,e,s,λ_ _=>vN w⟩
theorem Rk{x y:Str}(a:PyData.strOk x=true)(b:PyData.strOk y=true):PyData.strOk (x++y)=true:=by
 unfold PyData.strOk at *;rw[<- Array.all_toList]at *;rw[vm,List.all_append,a,b];rfl
theorem abr{ns:Θ}{x:Str}(wx:Wd x)(nx:x∉ns)(far:∀y∈ns,∀t,t≠[]->y.cps.toList=x.cps.toList++t->False){c:Int}(h0:0<=c/\c<6):∃t,ixT [L2.T.str x,.str (Str.ofString ""),.str (x++Str.ofString "aaaaaa"),.int 0,.non,.lst [.str (Str.ofString "a")]] c=some t/\Il ns t/\EqT t/\NnT t:=by
 have l8:=wx.len.2;have l14:(x++Str.ofString "aaaaaa").length<=1000:=by rw[Ou,show(Str.ofString "aaaaaa").length=6 by decide +kernel];lia
 obtain e|e|e|e|e|e:c=0\/c=1\/c=2\/c=3\/c=4\/c=5:=by lia
 .exact⟨_,by rw[e];rfl,w6 (aL l8 (by decide)) nx,vP _,PX (aL l8 (by decide)) (lX wx)⟩
 .exact⟨_,by rw[e];rfl,vN (by decide +kernel),vP _,Iw (.str (Str.ofString "")) rfl (by decide +kernel) (by decide +kernel)⟩
 .refine⟨_,by rw[e];rfl,w6 l14 (λz=>far _ z (Str.ofString "aaaaaa").cps.toList (by decide +kernel) (vm _ _)),vP _,PX l14 (Rk (lX wx) (by decide +kernel))⟩
 .exact⟨_,by rw[e];rfl,vN rfl,zR _,Iw (.int 0) rfl rfl rfl⟩
 .exact⟨_,by rw[e];rfl,vN rfl,Py,Iw .none rfl rfl rfl⟩
 .exact⟨_,by rw[e];rfl,vN rfl,Nb (.list [.str (Str.ofString "a")]) rfl rfl (by decide +kernel) (by decide +kernel),Iw (.list [.str (Str.ofString "a")]) rfl (by decide +kernel) rfl⟩
def vB(D:Adr):ST:=λts q=>∃(s:Rat)(ns:Θ)(off:List (List cF))(rs:List RX)(x:Str)(c:Int),ts=[hlT D s ns off,.int c,.str x,.lst (rs.map rxT)]/\StH D s ns off rs x/\q (.fz (.bl true))
theorem Jh(T:Tx D)(pH:gT 6 uX mV (zZ D))(uw:gT 6 u0 mH (Af D))(F:Fu qe nY f fd):FT 7 f fd jB (vB D):=by
 refine F.okT pZ λah A outer s H E hr nd=>?_;refine⟨_,(TF.out (d8 (jX (bU 4 (bV jZ T.jW WV (bw (qv 3) bx))))
  (d8 (Im 5 pZ.nd (Or.inl rfl) (Oa (vp (cg (pR (TQ bA)) (cg (Gb 4) (cg (pR gk) (cg (pR xH) (cg (pR j4) (cg (tL cN (Gb 4) (tL CJ dH dH)) (cg (vp (cg dH uh)) (cg (WM (cg dH uh)) uh))))))))) (tL cG (Gb 1) dH)))
  (d8 (jX (cu (QW.qt (d7 (bW (bY (bF pH (bw (qv 0) (bw bA (bw (qv 5) (bw j4 bx))))))) (dj (bW (bY (bF pH (bw (qv 0) (bw bA (bw (qv 5) (bw j4 bx))))))))))
  (bD (bK gk))
  bL))
  (d8 (Im 6 pZ.nd (Or.inl rfl) (Oa (vp (cg (Gb 2) (cg (pR j4) (cg (tL cN (Gb 2) (pR j4)) (cg dH (cg (pR xH) (cg (vp (cg (pR j4) uh)) uh))))))) (tL cG (tL lH (Gb 1) dH) dH)))
  (d8 (jX (cu (bW (bY (bF pH (bw (qv 0) (bw bA (bw bA (bw (qv 6) bx)))))))
  (bD (bK gk))
  bL))
  (d8 (jX (iQ (dB T.fW (bw (qv 4) bx)) (cA (n:=99) 7)
  (bB (cu (bW (bY (bF uw (bw (qv 0) (bw (qv 7) (bw (bG (bG (qv 3) (qv 7)) bA) bx))))))
  (bD (bK gk))
  bL)
  (bD (cu (QW.qt (T_ (cD (Nv hr.units) (qv 6) (dh (bC nY) tH tH ["_law_name","_law_door_here"] (dY (bG (bG (qv 3) (qv 7)) bA)) (jo (n:=2) (bT (fZ (i:=0)) (bT (fZ (i:=1)) gq))) cI (qv 0)) (hm:=by rfl)) (Oc (bW (bY (bF uw (bw (qv 0) (bw (qv 7) (bw (qv 6) bx)))))))))
  (bD (bK gk))
  bL)))))
  (Ks (jX (bK gk)))))))))),?_⟩
 rintro _ R ⟨s,ns,off,rs,x,c,rfl,h,q⟩;have lr:(rs.map rxT).length=rs.length:=ak ..;obtain⟨t1,e1,r1,q1⟩:=aeD (k:=(rs.map rxT).length) (n:=ns.length) (by rw[lr,h.len]) c;obtain⟨t2,e2,r2,q2,n2⟩:=abr h.wx h.nx h.far (c:=c.fdiv 8%6) (by lia);refine⟨⟨by decide,by decide,by decide⟩,by decide,t1,e1,s,ns,off,0,t1,_,rfl,h.h,.inl ⟨by decide,r1,q1⟩,s,ns,off,1,t1,_,rfl,h.h,.inl ⟨by decide,r1,q1⟩,?_⟩;have l8:=h.wx.len.2;refine⟨by rw[show(Str.ofString "aaaaaa").length=6 by decide +kernel];exact aL (show _<=14 by exact Nat.add_le_add_right l8 _) (by decide),⟨by decide,dX (by decide)⟩,by decide,t2,e2,s,ns,off,2,_,t2,rfl,h.h,.inr ⟨rfl,r2,q2⟩,?_⟩;obtain⟨m,ok⟩:=h.ok;have few:=h.few;refine⟨⟨by lia,by omega⟩,jG (λk o=>∃x7,o=[.fz (hlT D s ns off),.fz (.int c),.fz (.str x),.fz (.lst (rs.map rxT)),.fz (.int ((rs.map rxT).length:Nat)),.fz t1,.fz t2,x7]) ⟨_,rfl⟩ ?_ ?_⟩
 .rintro k _ hk ⟨x7,rfl⟩;have hk:k<rs.length:=by rw[<- lr];exact hk
  have er:=aj hk;have hx:=ok _ (aB er);generalize rs[k]=r at er hx;have eo:off[k]?=some (r.doors.map qL):=by rw[h.o,aq,er];rfl
  have en:(r.doors.map qL).map (·.name)=r.doors.map (·.1):=by rw[XG];rfl
  have wn:∀n∈(r.doors.map qL).map (·.name),Wd n:=λn hn=>by
   rw[en]at hn;obtain⟨p,hp,rfl⟩:=YV.mp hn;exact hx.wd p hp
  have lo:=hx.wo.len.2;have fw:=hx.few;refine⟨_,fj (h:=rxT) er,s,ns,off,k,_,.str r.out,rfl,h.h,eo,wn,w6 (aL lo (by decide)) (by rw[en];exact hx.no),vP _,?_⟩;obtain⟨d,ed,sd,hd⟩:=n2;have hd:=hd (r.doors.map (·.1));refine⟨_,fj (h:=rxT) er,by rw[ak];exact aL (show _<=6 by omega) (by decide),comp_map dnT (λp=>.str p.1) r.doors (λp _ N M hN=>⟨rfl,hN⟩) ⟨d,(r.doors.map (·.1)).map PyData.str,ed,?_,sd,?_,?_⟩⟩
  .show L2.T.lst _=.lst (DG _);rw[eZ,XG]
   rfl
  .exact dZ λn hn=>by
    obtain⟨p,hp,rfl⟩:=YV.mp hn;exact hx.wd p hp
  .revert hd
   generalize((r.doors.map (·.1)).map PyData.str).any (λy=>PyData.eqv y d)=b;intro hd;cases b with
   |true=>exact⟨_,rfl⟩
   |false=>exact⟨s,ns,off,k,_,t2,rfl,h.h,eo,wn,by rw[en];exact hd rfl,q2,_,rfl⟩
 .rintro _ ⟨x7,rfl⟩;exact q
structure HlX(D:Adr)(s:Rat)(ns:Θ)(off:List (List cF))(rs:List RX)(nm:Θ):Prop where
 h:Df ns off
 o:off=rs.map λr=>r.doors.map qL
 ok:∃m,∀r∈rs,RxK m r
 nm:nm.take rs.length=ns
 nd:ns.Nodup
 wd:∀n∈ns,Wd n
 len:ns.length=rs.length
 few:rs.length<=12
theorem wI(a:Θ):PyData.eqv (.list (a.map .str)) (.list (a.map .str))=true:=by
 unfold PyData.eqv;exact kW (g:=PyData.str) (λx=>by rw[zF,Zs rfl]) a
theorem Q8(ps:List (Nat×Rat)):(qF ps).length<=ps.length:=by
 suffices H:∀(ps ws:List (Nat×Rat)),(ps.foldl oJ ws).length<=ws.length+ps.length from by simpa[qF]using H ps []
 intro ps
 induction ps with
 |nil=>exact λ_=>aF _
 |cons p ps ih =>
  intro ws;have h1:(oJ ws p).length<=ws.length+1:=by
   unfold oJ;split
   .rw[ak];exact Xs _
   .rw[aA,List.length_singleton];exact aF _
  have:=ih (oJ ws p);rw[List.foldl_cons,List.length_cons];lia
theorem Rt(ps:List (Nat×Rat)):(mZ ps).length<=ps.length:=aL (List.length_filter_le ..) (Q8 ps)
def EY(D:Adr):ST:=λts q=>∃(s:Rat)(ns:Θ)(off:List (List cF))(rs:List RX)(nm:Θ),ts=[hlT D s ns off,.lst (nm.map L2.T.str),.lst (rs.map rxT)]/\HlX D s ns off rs nm/\nm.length<=1000/\q (.fz (.bl true))
theorem Qq(T:Tx D)(jg:gT 1 rO mG wN)(dD:gI 1 D.Hall_size eU (lK D))(gQ:gI 1 D.Hall_names ig (kE D))(gP:gI 2 D.Hall_place eV (xg D))(iy:gI 3 D.Hall_offers cZ (yg D))(lY:gI 3 D.Hall_door_at dG (Bg D))(o_:gT 4 ud lR vd)(FW:gT 4 Gg xK Nk)(F:Fu BJ Iz f fd):FT 5 f fd rW (EY D):=by
 refine F.okT Vl λah A outer s H E hr nd=>?_;refine⟨_,(bB (bU 3 (bV jZ T.jW WV (bw (qv 2) bx)))
  (bB (bU 4 (k_ (qv 0) T.cR T.oU gQ (KS:=cM)))
  (bB (cu (QW.qt (d7 (bW (bY (bF jg (bw (k_ (qv 0) T.cR T.jM dD (KS:=cM)) bx)))) (d7 (cD (mO hr.units) (k_ (qv 0) T.cR T.jM dD (KS:=cM)) (qv 3)) (d7 (bW (bY (jN .list (qv 4) T.bO T.rA boot_list))) (dj (cD (mO hr.units) (qv 4) (gD (qv 1) jF (gR (qv 3)))))))))
  (bD (bK gk))
  bL)
  (bB (iQ (dB T.fW (bw (qv 3) bx)) (cA (n:=99) 5)
  (bB (IW (bG (qv 2) (qv 5)) (jo (n:=2) (bT (cA (n:=99) 7) (bT (cA (n:=99) 8) gq))))
  (bB (cu (QW.qt (d7 (bW (bY (bF jg (bw (nu (qv 0) T.cR T.kJ gP (bw (bG (qv 1) (qv 5)) bx) (KS:=cM)) bx)))) (dj (cD (mO hr.units) (nu (qv 0) T.cR T.kJ gP (bw (bG (qv 1) (qv 5)) bx) (KS:=cM)) (qv 5)))))
  (bD (bK gk))
  bL)
  (bB (cu (bW (bY (bF o_ (bw (nu (qv 0) T.cR T.jQ iy (bw (qv 5) bx) (KS:=cM)) (bw (bF FW (bw (qv 7) bx)) bx)))))
  (bD (bK gk))
  bL)
  (bD (iQ (dB T.fW (bw (bV jZ T.jW WV (bw (qv 7) bx)) bx)) (cA (n:=99) 6)
  (bB (bU 9 (nu (qv 0) T.cR T.lF lY (bw (qv 5) (bw (bG (bG (qv 7) (qv 6)) bA) bx)) (KS:=cM)))
  (bD (cu (QW.qt (d7 (bW (bY (bF jg (bw (qv 9) bx)))) (dj (cD (mO hr.units) (qv 9) (qv 6)))))
  (bD (bK gk))
  bL)))))))))
  (bD (bK gk)))))),?_⟩
 rintro _ R ⟨s,ns,off,rs,nm,rfl,h,nl,q⟩;have lr:(rs.map rxT).length=rs.length:=ak ..;have few:=h.few;have ec:jL (nm.map L2.T.str) none (some (((rs.map rxT).length:Nat):Int))=ns.map L2.T.str:=by rw[lr,ur,zU,h.nm]
 refine sq3 (λo=>o=[.fz (hlT D s ns off),.fz (.lst (nm.map L2.T.str)),.fz (.lst (rs.map rxT)),.fz (.int ((rs.map rxT).length:Nat)),.fz (.lst (ns.map L2.T.str)),.und,.und,.und,.und,.und]) ?_ λY go=>?_
 rotate_left
 .refine⟨⟨rfl,rfl⟩,s,ns,off,rfl,⟨rfl,rfl⟩,s,ns,off,rfl,_,rfl,⟨rfl,rfl⟩,s,ns,off,rfl,swF (by rw[Zs (by rw[lr,h.len])];rfl) ?_⟩;refine⟨.list (ns.map .str),.list (ns.map .str),ZH L2.T.lst (eZ ns).symm,(ZH L2.T.lst ec).trans (ZH L2.T.lst (eZ ns).symm),dZ h.wd,dZ h.wd,?_⟩;rw[wI];exact go _ rfl
 rintro _ rfl;obtain⟨m,ok⟩:=h.ok;refine⟨⟨by lia,by lia⟩,jG (λk o=>∃x5 x6 x7 x8 x9,o=[.fz (hlT D s ns off),.fz (.lst (nm.map L2.T.str)),.fz (.lst (rs.map rxT)),.fz (.int ((rs.map rxT).length:Nat)),.fz (.lst (ns.map L2.T.str)),x5,x6,x7,x8,x9]) ⟨_,_,_,_,_,rfl⟩ ?_ ?_⟩
 .rintro k _ hk ⟨x5,x6,x7,x8,x9,rfl⟩;have hk:k<rs.length:=by rw[<- lr];exact hk
  have er:=aj hk;have hx:=ok _ (aB er);generalize rs[k]=r at er hx;have kn:k<ns.length:=by rw[h.len];exact hk
  have en:=aj kn;have wn:=h.wd _ (aB en);generalize ns[k]=n at en wn;have enm:nm[k]?=some n:=by
   rw[<- h.nm,VQ,ZY hk]at en;exact en
  have eo:off[k]?=some (r.doors.map qL):=by rw[h.o,aq,er];rfl
  have ed:(r.doors.map qL).map (·.name)=r.doors.map (·.1):=by rw[XG];rfl
  have wd:∀n∈(r.doors.map qL).map (·.name),Wd n:=λn hn=>by
   rw[ed]at hn;obtain⟨p,hp,rfl⟩:=YV.mp hn;exact hx.wd p hp
  have fw:=hx.few;have dl:(r.doors.map dnT).length=r.doors.length:=ak ..;refine⟨_,fj (h:=rxT) er,rfl,?_⟩;refine⟨⟨rfl,rfl⟩,_,fj (h:=L2.T.str) enm,s,ns,off,n,k,rfl,wn,h.nd,en,_,rfl,⟨rfl,rfl⟩,_,fj (h:=L2.T.str) enm,s,ns,off,n,k,rfl,wn,h.nd,en,swF (by rw[Zs rfl];rfl) ?_⟩;have fy:∀o∈r.doors.map qL,Wd o.name/\o.ways.length<=1000:=λo ho=>by
   obtain⟨p,hp,rfl⟩:=YV.mp ho;refine⟨hx.wd p hp,?_⟩;have h1:=(hx.ok p hp).few;show(mZ (prX p.2)).length<=1000;have h3:(mZ (prX p.2)).length<=(prX p.2).length:=Rt _;have h4:(prX p.2).length<=8:=by rw[ak,WU];lia
   lia
  refine⟨⟨rfl,rfl⟩,s,ns,off,k,_,rfl,h.h,eo,m,r.doors,rfl,by exact aL fw (by decide),hx.ok,r.doors.map qL,?_,by rw[ak];exact aL fw (by decide),fy,?_⟩
  .rw[XG]
   rfl
  refine⟨⟨by rw[dl];lia,by rw[dl];lia⟩,jG (λj o=>∃x6 x9,o=[.fz (hlT D s ns off),.fz (.lst (nm.map L2.T.str)),.fz (.lst (rs.map rxT)),.fz (.int ((rs.map rxT).length:Nat)),.fz (.lst (ns.map L2.T.str)),.fz (.int (k:Nat)),x6,.fz (.lst (r.doors.map dnT)),.fz (.str r.out),x9]) ⟨_,_,rfl⟩ ?_ ?_⟩
  .rintro j _ hj ⟨x6,x9,rfl⟩;have hj:j<r.doors.length:=by rw[<- dl];exact hj
   have ej:=aj hj;generalize r.doors[j]=p at ej;have e2:((r.doors.map qL).map (·.name))[j]?=some p.1:=by rw[ed,aq,ej];rfl
   refine⟨⟨rfl,rfl⟩,_,fj (h:=dnT) ej,s,ns,off,k,_,p.1,j,rfl,h.h,eo,wd,hx.wd p (aB ej),by rw[ed];exact hx.nd,e2,_,rfl,swF (by rw[Zs rfl];rfl) ⟨_,_,rfl⟩⟩
  .rintro _ ⟨x6,x9,rfl⟩;exact⟨_,_,_,_,_,rfl⟩
 .rintro _ ⟨x5,x6,x7,x8,x9,rfl⟩;exact q
abbrev ofZ(o:cF):L2.T:=.tup [.str o.name,frR o.pay,.scr (o.ways.map nwT)]
abbrev hlZ(D:Adr)(s:Rat)(ns:Θ)(off:List (List cF)):L2.T:=.ins D.Hall cM [frR s,.dct (nmK ns) (nmT ns),.scr (off.map λds=>.scr (ds.map ofZ))]
theorem tu{α:Type}(f g:α->L2.T)(h:∀a,icT (f a)=g a):∀l:List α,t_ (l.map f)=l.map g
 |[]=>by rfl
 |a::l=>by rw[List.map_cons,List.map_cons];unfold t_;rw[h a,tu f g h l]
theorem Ul(s:Rat):icT (frR s)=frR s:=by rfl
theorem ZX(p:Nat×Rat):icT (nwT p)=nwT p:=by rfl
theorem abI(o:cF):icT (ofT o)=ofZ o:=by
 show L2.T.tup [.str o.name,icT (frR o.pay),.scr (t_ (o.ways.map nwT))]=_;rw[Ul,tu nwT nwT ZX]
theorem RL(n:Θ):t_ (nmT n)=nmT n:=tu (λk:Nat=>L2.T.int (k:Nat)) (λk:Nat=>L2.T.int (k:Nat)) (λ_=>by rfl) _
theorem aa8(D:Adr)(s:Rat)(ns:Θ)(off:List (List cF)):icT (hlT D s ns off)=hlZ D s ns off:=by
 show L2.T.ins D.Hall cM [icT (frR s),.dct (nmK ns) (t_ (nmT ns)),.scr (t_ (off.map λds=>.lst (ds.map ofT)))]=_;rw[Ul,RL,tu (λds:List cF=>L2.T.lst (ds.map ofT)) (λds=>.scr (ds.map ofZ)) λds=>by show L2.T.scr (t_ (ds.map ofT))=_;rw[tu ofT ofZ abI]]
theorem M7:∀os:List cF,mC (os.map ofT)=true
 |[]=>by rfl
 |o::os=>by
  rw[List.map_cons];unfold mC;rw[M7 os];have w:∀us:List (Nat×Rat),mC (us.map nwT)=true:=λus=>by
   induction us with
   |nil=>rfl
   |cons u us ih=>rw[List.map_cons];unfold mC;rw[ih];rfl
  show(nsT (.str o.name)&&(nsT (frR o.pay)&&(mC (o.ways.map nwT)&&true))&&true)=true;rw[w];rfl
def uD(D:Adr):ST:=λts q=>∃(s:Rat)(ns:Θ)(off:List (List cF)),ts=[hlZ D s ns off]/\q (.fz (.int (ns.length:Nat)))
theorem El(T:Tx D)(F:Fun K qu pJ nU f fd):FT 1 f fd eU (uD D):=by
 refine F.okT vV λah A outer s H E hr nd=>?_;refine⟨_,(bD (bK (bV G3 T.jW WV (bw (gG (Fm:=Fam D) (λC h=>⟨T.cl C h,T.gY C h⟩) (qv 0)) bx)))),?_⟩;rintro _ R ⟨s,ns,off,rfl,q⟩;refine⟨gA D,_,rfl,?_⟩;rw[<- ak (f:=(Sum.inr:Str->Key))]at q;exact q
def sW(D:Adr):ST:=λts q=>∃(s:Rat)(ns:Θ)(off:List (List cF))(k:Nat),ts=[hlZ D s ns off,.int k]/\k<ns.length/\q (.fz .non)
theorem Br(T:Tx D)(cQ:gT 1 iK fP jx)(dD:gI 1 D.Hall_size eU (uD D))(F:Fun K gW gO fX f fd):FT 2 f fd bZ (sW D):=by
 refine F.okT jt λah A outer s H E hr nd=>?_;refine⟨_,(bD (cu (QW.qt (d7 (bW (bY (bF cQ (bw (qv 1) bx)))) (dj (bW (rN Ce Fd bA (qv 1) (k_ (qv 0) T.cR T.jM dD (KS:=cM)))))))
  (bD fB)
  bL)),?_⟩
 rintro _ R ⟨s,ns,off,k,rfl,hk,q⟩;refine⟨_,_,rfl,rfl,⟨rfl,rfl⟩,_,_,_,rfl,?_⟩;show sw (!decide ((k:Int)<(ns.length:Nat))) _ _;rw[Zs (show(k:Int)<(ns.length:Nat)by lia)];exact q
def sy(D:Adr):ST:=λts q=>∃(s:Rat)(ns:Θ)(off:List (List cF))(k:Nat)(ds:List cF),ts=[hlZ D s ns off,.int k]/\Df ns off/\off[k]?=some ds/\q (.l1 (ds.map ofT))
theorem Lg(T:Tx D)(cX:gI 2 D.Hall_check_room bZ (sW D))(F:Fun K jO jE eX f fd):FT 3 f fd cZ (sy D):=by
 refine F.okT mF λah A outer s H E hr nd=>?_;refine⟨_,(bB (jV (nu (qv 0) T.cR T.fu cX (bw (qv 1) bx) (KS:=cM)))
  (bD (bK (dh (bC eX) f9 f9 ["name","pay","numbered"] (mQ (bG (gG (Fm:=Fam D) (λC h=>⟨T.cl C h,T.j5 C h⟩) (qv 0)) (qv 1))) (jo (n:=3) (bT (fZ (i:=0)) (bT (fZ (i:=1)) (bT (fZ (i:=2)) gq)))) cI (fK (bw (qv 0) (bw (qv 1) (bw (lW Ak T.rA boot_list (bw (qv 2) bx)) bx)))))))),?_⟩
 rintro _ R ⟨s,ns,off,k,ds,rfl,h,e,q⟩;have lk:k<ns.length:=by rw[<- h.len];exact(ao.mp e).1
 refine⟨⟨rfl,rfl⟩,s,ns,off,k,rfl,lk,gA D,_,rfl,.scr (ds.map ofZ),fj (h:=λds=>L2.T.scr (ds.map ofZ)) e,by rw[ak];exact aL (h.fews ds (aB e)) (by decide),comp_map ofZ ofT ds (λo _ N M hN=>⟨rfl,hN⟩) q⟩
theorem O7:∀ts:List L2.T,yO (ts.map .fz)=ts
 |[]=>by rfl
 |t::ts=>by rw[List.map_cons];unfold yO;rw[O7 ts];rfl
theorem K8{α:Type}(f:α->OW):∀l:List α,yO (l.map f)=l.map λa=>icW (f a)
 |[]=>by rfl
 |a::l=>by rw[List.map_cons];unfold yO;rw[K8 f l];rfl
abbrev mdD(D:Adr)(nm:Θ)(q:Str×LX):L2.T:=mdT nm (Ab D q.1 (ldX q.2))
def hw(D:Adr)(nm:Θ)(p:Str×RX):OW:=.tup [.fz (.str p.1),.lst ((p.2.doors.map (mdD D nm)).map .fz)]
def hws(D:Adr)(nm:Θ)(rs:List RX)(i:Nat):OW:=.lst (((nm.zip rs).take i).map (hw D nm))
theorem aa9(D:Adr)(nm:Θ)(p:Str×RX):icW (hw D nm p)=rmZ (p.1,p.2.doors.map (mdD D nm)):=by
 show L2.T.tup [.str p.1,.scr (yO ((p.2.doors.map (mdD D nm)).map .fz))]=_;rw[O7]
abbrev aap(D:Adr)(rs:List RX):List (List Made):=rs.map λr=>r.doors.map λq=>Ab D q.1 (ldX q.2)
theorem LxK.lk{m:Nat}{d:LX}(h:LxK m d)(n:Str):(W7 n (ldX d)).ways.length<=8/\∀p∈(W7 n (ldX d)).ways,p.1<m:=by
 have lk:=h.ld;obtain⟨qq,q0,q1,hq⟩:=lk.all;have j:=Yt q0 hq;have:=j.few;have:=lk.few;exact⟨by show(mZ (ldX d).prs).length<=8;lia,λw hw=>j.lt w hw⟩
theorem Ve{D:Adr}{nm:Θ}{rs:List RX}(hn:Nms nm (rs.length+1))(b9:rs.length<=12)(bj:∀r∈rs,RxK rs.length r):Zd D (nm.take rs.length) (aap D rs):=by
 have tl:(nm.take rs.length).length=rs.length:=by rw[aY,hn.len];lia
 refine⟨by rw[tl,ak],by lia,λn h=>hn.wd n (VY h),hn.nd.sublist (UZ ..),λds hd=>?_⟩;obtain⟨r,hr,rfl⟩:=YV.mp hd;have h:=bj r hr;refine⟨by rw[ak];have:=h.few;exact aL this (by decide),λy hy=>?_,λy hy=>?_,?_⟩
 .obtain⟨p,_,rfl⟩:=YV.mp hy;exact JK D _
 .obtain⟨p,hp,rfl⟩:=YV.mp hy;obtain⟨a,b⟩:=(h.ok p hp).lk p.1;exact⟨aL a (by decide),λw hw=>by rw[tl];exact b w hw⟩
 .rw[XG];exact h.nd
theorem aaH{D:Adr}{nm:Θ}{rs:List RX}(hn:Nms nm (rs.length+1))(bj:∀r∈rs,RxK rs.length r):icW (hws D nm rs rs.length)=.scr (V8 (nm.take rs.length) (aap D rs)):=by
 have lz:(nm.zip rs).length=rs.length:=by rw[WU,hn.len];lia
 unfold hws;rw[aK (by rw[lz];exact aF _)];show L2.T.scr (yO ((nm.zip rs).map (hw D nm)))=_;rw[K8]
 congr 1
 refine List.ext_getElem (by simp[hn.len]) λi h1 h2=>?_;rw[ak,lz]at h1;have tl:(nm.take rs.length).length=rs.length:=by rw[aY,hn.len];lia
 rw[US,US,WH,WH,US,aa9];rw[List.getElem_take];show rmZ (_,_)=rmZ (_,(_:List Made).map _);rw[XG];refine ZH (λx=>rmZ (_,x)) (WP λq hq=>?_);have lt:=((bj _ (aU h1)).ok q hq).lk q.1;show mdT nm _=mdT (nm.take rs.length) _;show drT _ _ _ (z8 nm _)=drT _ _ _ (z8 (nm.take rs.length) _);refine ZH _ (WP λw hw=>?_);rw[show(nm.take rs.length).getD w.1 ⟨#[]⟩=nm.getD w.1 ⟨#[]⟩by rw[au,au,VQ,ZY (lt.2 w hw)]]
theorem aan{s:Rat}(hs:Vs s):Bq s:=⟨dX (by have:=hs.num;exact Y3 this (by decide)),dX (by have:=hs.den;omega)⟩
abbrev jT(rs:List RX):List (List cF):=rs.map λr=>r.doors.map qL
theorem aaQ(D:Adr)(rs:List RX):offs (aap D rs)=jT rs:=by
 show(rs.map λr=>r.doors.map λq=>Ab D q.1 (ldX q.2)).map (λds=>ds.map λm=>m.of)=_;rw[XG];refine WP λr _=>?_;show(r.doors.map λq=>Ab D q.1 (ldX q.2)).map (λm=>m.of)=_;rw[XG]
 rfl
theorem afT{s:Rat}(ns:Θ)(off:List (List cF)):mC [frR s,.dct (nmK ns) (nmT ns),.lst (off.map λds=>.lst (ds.map ofT))]=true:=by
 have a:∀l:List Nat,mC (l.map λk:Nat=>L2.T.int (k:Nat))=true:=λl=>by
  induction l with
  |nil=>rfl
  |cons u us ih=>rw[List.map_cons];unfold mC;rw[ih];rfl
 have b:∀l:List (List cF),mC (l.map λds=>L2.T.lst (ds.map ofT))=true:=λl=>by
  induction l with
  |nil=>rfl
  |cons u us ih =>
   rw[List.map_cons];unfold mC;rw[ih];show(mC (u.map ofT)&&true)=true;rw[M7];rfl
 show(true&&(mC (nmT ns)&&(mC (off.map λds=>L2.T.lst (ds.map ofT))&&true)))=true;rw[show mC (nmT ns)=true from a _,b];rfl
theorem U0{nm:Θ}{rs:List RX}(hn:Nms nm (rs.length+1))(b9:rs.length<=12)(bj:∀r∈rs,RxK rs.length r):Df (nm.take rs.length) (jT rs):=by
 have tl:(nm.take rs.length).length=rs.length:=by rw[aY,hn.len];lia
 refine⟨by rw[tl,ak],by lia,λds hd=>?_⟩;obtain⟨r,hr,rfl⟩:=YV.mp hd;rw[ak];have:=(bj r hr).few;exact aL this (by decide)
theorem acC{D:Adr}{s:Rat}{nm:Θ}{rs:List RX}(hn:Nms nm (rs.length+1))(b9:rs.length<=12)(bj:∀r∈rs,RxK rs.length r):HlX D s (nm.take rs.length) (jT rs) rs nm :=
 ⟨U0 hn b9 bj,rfl,⟨_,bj⟩,rfl,hn.nd.sublist (UZ ..),λn h=>hn.wd n (VY h),by rw[aY,hn.len];lia,b9⟩
theorem P0:∀ts:List L2.T,zc (ts.map .fz)=ts
 |[]=>by rfl
 |t::ts=>by rw[List.map_cons];unfold zc;rw[P0 ts];rfl
theorem KR{α:Type}(f:α->OW)(g:α->L2.T)(h:∀a,frW (f a)=g a):∀l:List α,zc (l.map f)=l.map g
 |[]=>by rfl
 |a::l=>by rw[List.map_cons,List.map_cons];unfold zc;rw[h a,KR f g h l]
abbrev frH(D:Adr)(nm:Θ)(p:Str×RX):L2.T:=.tup [.str p.1,.lst (p.2.doors.map (mdD D nm))]
theorem aaO(D:Adr)(nm:Θ)(p:Str×RX):frW (hw D nm p)=frH D nm p:=by
 show L2.T.tup [.str p.1,.lst (zc ((p.2.doors.map (mdD D nm)).map .fz))]=_;rw[P0]
theorem SJ{D:Adr}{nm:Θ}{rs:List RX}(hn:Nms nm (rs.length+1)):frW (hws D nm rs rs.length)=.lst ((nm.zip rs).map (frH D nm)):=by
 have lz:(nm.zip rs).length=rs.length:=by rw[WU,hn.len];lia
 unfold hws;rw[aK (by rw[lz];exact aF _)];show L2.T.lst (zc ((nm.zip rs).map (hw D nm)))=_;rw[KR (hw D nm) (frH D nm) (aaO D nm)]
theorem Oh{α β:Type} : ∀(a:List α)(b:List β),(a.zip b).map Prod.fst=a.take b.length
 |[],_=>by simp
 |_::_,[]=>rfl
 |x::a,y::b=>by rw[List.zip_cons_cons,List.map_cons,Oh a b];rfl
theorem aek(nm:Θ)(rs:List RX):jL (nm.map L2.T.str) none (some ((rs.length:Nat):Int))=(nm.take rs.length).map L2.T.str:=by rw[ur,zU]
abbrev VD(nm:Θ)(rs:List RX):L2.T:=.lst (.lst ((nm.take rs.length).map L2.T.str)::(jT rs).map λds=>.lst (ds.map ofT))
def hwE(nm:Θ)(rs:List RX):OW:=.lst ((nm.zip rs).map λp=>.tup [.fz (.str p.1),.lst []])
structure afV(K:Frag)(H4 H5:Hp)(l:Addr)(xs:Β):Prop where
 keep:Same H4 H5
 at_:H5 l=some (.lst xs)
 few:xs.length<=1000
 it:∀(j:Nat)(x:V),xs[j]?=some x->∃(p:Addr)(x1 x2:V)(w:Addr)(zs:Β),x=V.ref p/\(∀H:Hp,(∀b u,H5 b=some u->(∀zs,u≠.lst zs)->H b=some u)->SqT K H p [x1,x2,.ref w])/\H5 w=some (.lst zs)/\w≠l/\H4 w=none/\zs.length<=1000
abbrev Zz(K:Frag):TS:=Ft (aaG (tOp (aev K) (Cg 11) (tC (.int 2))) (vq (abk (vq (tC (.int 0)) (vq (abk (vq (tC (.int 1)) (vq (tC (.int 1)) Dk))) Dk))) Dk))
theorem Xi{K:Frag}{H4 H5:Hp}{l:Addr}{xs:Β}(h:afV K H4 H5 l xs){σ:L2.St}(ls:11<σ.length){D:Ends}(nx:∀σ' H',σ'.length=σ.length->(∀j,j<9->σ'[j]?=σ[j]?)->Same H4 H'->D.nx σ' H') :
  ∃W:Nat->Nat->L2.St->Hp->Prop,(∃m,W 0 m σ H5)/\∀i m σ H,W i m σ H->((Itl K l).stop i H/\D.nx σ H)\/((Itl K l).go i H/\∃N:L2.St->Hp->Prop,(∀σ' H',N σ' H'->∃m',m'<m/\W (i+1) m' σ' H')/\∀x H',(Itl K l).yld i H x H'->o7 11 x σ H' λσ2 H2=>Zz K { D with nx:=N,ct:=N,bk:=D.nx } σ2 H2):=by
 refine⟨λi m σ' H'=>σ'.length=σ.length/\(∀j,j<9->σ'[j]?=σ[j]?)/\Same H4 H'/\(∀b u,H5 b=some u->(∀zs,u≠.lst zs)->H' b=some u)/\H' l=some (.lst xs)/\(∀w zs,H5 w=some (.lst zs)->w≠l->H4 w=none->∃g4,H' w=some (.lst g4)/\g4.length<=zs.length+i)/\i<=xs.length/\m=xs.length-i,⟨_,rfl,λ_ _=>rfl,h.keep,λ_ _ e _=>e,h.at_,λw zs e _ _=>⟨zs,e,aF _⟩,aZ _,rfl⟩,?_⟩;rintro i m σ' H' ⟨sl,se,keep,nn,el,ww,il,rfl⟩;have few:=h.few;by_cases e:i=xs.length
 .exact .inl ⟨⟨xs,SqL.of el,by exact X9 (Eq.symm e)⟩,nx σ' H' sl se keep⟩
 have hi:i<xs.length:=by exact Nat.lt_of_le_of_ne il e
 refine .inr ⟨⟨xs,_,SqL.of el,aj hi⟩,_,λσ2 H2 z=>⟨xs.length-(i+1),by lia,z⟩,?_⟩;rintro x _ ⟨rfl,hx⟩;obtain⟨p,x1,x2,w,zs,rfl,tp,ew,nl,n4,zl⟩:=h.it i x (hx xs (SqL.of el));obtain⟨g4,ew',zl'⟩:=ww w zs ew nl n4;refine⟨.ref p,by rw[WZ (by rw[sl];exact ls)],p,[x1,x2,.ref w],2,.ref w,rfl,rfl,tp _ nn,rfl,w,g4,rfl,ew',(show 2<=sizeLine by decide),λp1 H6 S6 n6 e6=>⟨(show 2<=sizeLine by decide),λp2 H7 S7 n7 e7=>⟨.ref p2,g4,rfl,(S6.trans S7) _ _ ew',Y3 (show _<=3000 by lia) (by decide),?_⟩⟩⟩;have S:=S6.trans S7;have nw:∀{b:Addr}{u:HO},H4 b=some u->b≠w:=λe z=>by rw[z,n4]at e;cases e
 refine⟨by rw[X2,sl],λj hj=>by rw[Wp (by lia),se j hj],λb u e=>(bM (nw e)).trans (S _ _ (keep _ _ e)),λb u e n=>(bM λz=>?_).trans (S _ _ (nn b u e n)),(bM (Ne.symm nl)).trans (S _ _ el),λw2 zs2 e2 l2 n2=>?_,hi,rfl⟩
 .rw[z,ew]at e;cases e;exact n _ rfl
 .by_cases c:w2=w
  .subst c;rw[ew]at e2;cases e2;exact⟨_,bQ,by rw[aA,List.length_singleton];lia⟩
  .obtain⟨zs3,a,b⟩:=ww w2 zs2 e2 l2 n2;exact⟨zs3,(bM c).trans (S _ _ a),by lia⟩
theorem aen{K:Frag}{H4 G:Hp}{ob:Addr->Obj}{v:V}{os:List cF}(f1:os.length<=1000)(f2:∀o∈os,o.ways.length<=1000)(E:Same (ice (isL H4) ob H4) G)(n:NR K (λ_=>False) (ice (isL H4) ob H4) G v (.l1 (os.map ofT)))(fz:∀b,isL H4 b->G b=ice (isL H4) ob H4 b):∃l xs,v=.ref l/\afV K H4 (mrg (isL H4) H4 G) l xs:=by
 obtain⟨B,nb,l,xs,e,rfl,el,r⟩:=n;cases e;have nl4:H4 l=none:=by
  have n:=nb l (YR.mpr rfl);by_cases z:isL H4 l
  .obtain⟨xs,q⟩:=z;rw[mR ⟨xs,q⟩ q]at n;cases n
  .rw[jj z]at n;exact n
 have nS:¬isL H4 l:=λ⟨_,z⟩=>by rw[nl4]at z;cases z
 have keep:Same H4 (mrg (isL H4) H4 G):=λb u e=>by
  by_cases z:isL H4 b
  .rw[j6 z];exact e
  .rw[cB z];exact E b u ((jj z).trans e)
 have r2:=bJ.thaw (S:=isL H4) (H:=H4) (ob:=ob) KC (λb z=>(b_ λy=>by
  rcases y with y|y
  .exact y
  .rw[YR.mp y]at z;exact nS z).trans (fz b z)) (M7 os) r
 generalize eF:hd (isL H4) (mrg (isL H4) H4 (hd (λb=>False\/b∈[l]) G))=F at r2;have fF:∀b u,F b=some u->¬isL H4 b/\b≠l/\mrg (isL H4) H4 G b=some u:=λb u e=>by
  rw[<- eF]at e;obtain⟨nz,e⟩:=cL e;rw[cB nz]at e;obtain⟨n2,e⟩:=cL e;exact⟨nz,λz=>n2 (.inr (YR.mpr z)),by rw[cB nz];exact e⟩
 have xl:xs.length=os.length:=by rw[r2.len,ak]
 refine⟨l,xs,rfl,keep,by rw[cB nS];exact el,by rw[xl];exact f1,λj x ex=>?_⟩;have hj:j<os.length:=by rw[<- xl];exact(ao.mp ex).1
 obtain⟨y,ey,ry⟩:=r2.at_ (i:=j) (t:=ofT os[j]) (by rw[aq,aj hj];rfl);rw[ex]at ey;cases ey;obtain⟨p,ys,rfl,ep,rr⟩:=ry.tupI;cases rr with
 |@cons x1 _ _ _ a rr=>cases rr with
 |@cons x2 _ _ _ b rr=>cases rr with
 |cons c rr =>
  cases rr;obtain⟨w,zs,rfl,ew,rz⟩:=c.lstI;obtain⟨m1,m2,m3⟩:=fF w _ ew;refine⟨p,x1,x2,w,zs,rfl,λH hH=>?_,m3,m2,?_,by rw[rz.len,ak];exact f2 _ (aU hj)⟩
  .rcases ep with(e|⟨o,e⟩)|e
   .exact .inl (.inl (hH _ _ (fF _ _ e).2.2 λ_ z=>nomatch z))
   .exact .inl (.inr ⟨o,hH _ _ (fF _ _ e).2.2 λ_ z=>nomatch z⟩)
   .exact .inr e
  .cases e4:H4 w with
   |none=>rfl
   |some u =>
    have:=keep _ _ e4;rw[m3]at this;cases this;exact absurd ⟨_,e4⟩ m1
theorem V0{K:Frag}{F H:Hp}{ts:List L2.T}{ys:Β}{A:Φ}(r:Ros K F H ys (ts.map .fz) A):A=[]:=by
 induction ts generalizing ys A with
 |nil=>cases r;rfl
 |cons t ts ih =>
  cases r with
  |cons a b =>
   have:=ih b;subst this;cases a with
   |fz a=>rfl
theorem Np{K:Frag}{F H:Hp}{x:V}{D:Adr}{nm:Θ}{p:Str×RX}{A:Φ}(h:Ro K F H x (hw D nm p) A):∃q d ys,x=.ref q/\A=[d]/\F q=some (.tup [.str p.1,.ref d])/\H d=some (.lst ys):=by
 cases h with
 |tup e r=>cases r with
 |cons a r=>cases r with
 |cons b r =>
  cases r;cases a with
  |fz a =>
   cases a;cases b with
   |@lst d ys _ A e2 r2 =>
    have:=V0 r2;subst this;exact⟨_,d,ys,rfl,rfl,e,e2⟩
theorem afF{K:Frag}{F H:Hp}{D:Adr}{nm:Θ}{l:List (Str×RX)}{xs:Β}{A:Φ}{i:Nat}{p:Str×RX}(h:Ros K F H xs (l.map (hw D nm)) A)(e:l[i]?=some p):∃q d ys,xs[i]?=some (.ref q)/\A[i]?=some d/\F q=some (.tup [.str p.1,.ref d])/\H d=some (.lst ys):=by
 induction l generalizing xs A i with
 |nil=>cases e
 |cons p l ih =>
  cases h with
  |cons a t =>
   obtain⟨q,d,ys,rfl,rfl,e1,e2⟩:=Np a;cases i with
   |zero=>cases e;exact⟨q,d,ys,rfl,rfl,e1,e2⟩
   |succ i =>
    obtain⟨q,d,ys,a1,a2,a3,a4⟩:=ih t (i:=i) (by simpa using e);exact⟨q,d,ys,by simpa using a1,by simpa using a2,a3,a4⟩
theorem ac8{K:Frag}{F H F2 H2:Hp}{D:Adr}{nm:Θ}{l:List (Str×RX)}{xs:Β}{A:Φ}(h:Ros K F H xs (l.map (hw D nm)) A)(S:Same F F2)(c:∀d∈A,H2 d=some (.lst [])):Ros K F2 H2 xs (l.map λp=>.tup [.fz (.str p.1),.lst []]) A:=by
 induction l generalizing xs A with
 |nil=>cases h;exact .nil
 |cons p l ih =>
  cases h with
  |cons a t =>
   obtain⟨q,d,ys,rfl,rfl,e1,e2⟩:=Np a;exact .cons (.tup (S _ _ e1) (.cons (.fz (.str _)) (.cons (.lst (c d (aO ..)) .nil) .nil))) (ih t λb hb=>c b (aH _ hb))
theorem SR.agr{K:Frag}{own:zk}{H:Hp}{σ σ':L2.St}{o:List OT}(h:SR K own H σ o)(l:σ'.length=σ.length)(e:∀(j:Nat)x,o[j]?=some x->x≠.und->σ'[j]?=σ[j]?):SR K own H σ' o:=⟨by rw[l];exact h.len,λi x ei=>by
 have s:=h.sl i x ei;cases x with
 |und=>exact s
 |_=>rw[e i _ ei (by intro z;cases z)];exact s,h.out,h.dis⟩
theorem aag{K:Frag}{F H:Hp}{D:Adr}{nm:Θ}{l:List (Str×RX)}{xs:Β}{A:Φ}(h:Ros K F H xs (l.map (hw D nm)) A):A.length=l.length:=by
 induction l generalizing xs A with
 |nil=>cases h;rfl
 |cons p l ih =>
  cases h with
  |cons a t =>
   obtain⟨q,d,ys,rfl,rfl,e1,e2⟩:=Np a;rw[aA,ih t,List.length_singleton,List.length_cons];exact Nat.add_comm _ _
def o10(ns:List Int)(s:Rat)(nm:Θ)(rs:List RX)(hd k d5 k7 x y z:OT):List OT:=[.fz (scT ns),.fz (.int (rs.length:Nat)),hd,k,d5,k7,.fz (frR s),.fz (.lst (nm.map L2.T.str)),.fz (.lst (rs.map rxT)),x,y,z]
abbrev Wn(K:Frag)(D:Adr):TE:=λσ H Q=>∃C,gB D C/\zV C (Str.ofString "offers") (spF (L2.spT K (sy D))) (Cg 4) (vq (λσ H Q=>∃C,h_ D C/\zV C (Str.ofString "place") (L2.spT K (xg D)) (Cg 4) (vq (Cg 9) Dk) σ H Q) Dk) σ H Q
theorem YZ{K:Frag}{D:Adr}{Z:XK}{own:zk}{H1:Hp}{σ:L2.St}{ns:List Int}{s:Rat}{nm:Θ}{rs:List RX}{k:OT}{bg:OT}{E:DT}{Dd:Ends}(hn:Nms nm (rs.length+1))(b9:rs.length<=12)(bj:∀r∈rs,RxK rs.length r)
 (h:SR K own H1 σ (o10 ns s nm rs (.ow (hws D nm rs rs.length)) k (.fz (hlT D s (nm.take rs.length) (jT rs))) bg .und .und .und))(L:Lnk K Z (hd (Ow own) H1) E Dd)
 (go:E.nx (o10 ns s nm rs (.ow (hwE nm rs)) k (.fz (hlT D s (nm.take rs.length) (jT rs))) bg .und .und .und)) :
  aaL (V9 K (tM (Cg 2))) (Zb 2 (Tj (o7 9) (Tj (o7 10) acT))) (Yw (Ft (adK (Cg 10))) (aaL (V9 K (tM (Wn K D))) (o7 11) (Zz K))) Dd σ H1:=by
 have lz:(nm.zip rs).length=rs.length:=by rw[WU,hn.len];lia
 have tl:(nm.take rs.length).length=rs.length:=by rw[aY,hn.len];lia
 have fm:σ.length=12:=by rw[<- h.len];rfl
 obtain⟨u,e2,nd,r⟩:=h.ow (i:=2) (w:=hws D nm rs rs.length) rfl;obtain⟨v4,e4,r4⟩:=h.get (i:=4) rfl;generalize eO:own 2=O at nd r;have r:Ro K (hd (Ow own) H1) H1 u (.lst ((nm.zip rs).map (hw D nm))) O:=by
  have:hws D nm rs rs.length=.lst ((nm.zip rs).map (hw D nm)):=by unfold hws;rw[aK (by rw[lz];exact aF _)]
  rw[this]at r;exact r
 obtain⟨a4,jS,fs4,rfl,c4,d4,l4,q4⟩:=r4.insI;cases r with
 |@lst t xs _ A et rr =>
 obtain⟨nt,ndA⟩:=List.nodup_cons.mp nd;have gV:∀{b:Addr}{u:HO},hd (Ow own) H1 b=some u->H1 b=some u/\b∉t::A:=λ{b u}e=>by
  obtain⟨n,e⟩:=cL e;exact⟨e,λz=>n ⟨2,by rw[eO];exact z⟩⟩
 have xl:xs.length=rs.length:=by rw[Ros.len rr,ak,lz]
 have al:A.length=rs.length:=by rw[aag rr,lz]
 have S3':∀{H':Hp},(∀b u,b∉t::A->H1 b=some u->H' b=some u)->Same (hd (Ow own) H1) H':=λk b u e=>k b u (gV e).2 (gV e).1;have ok:=U0 hn b9 bj;refine Zt (t:=Cg 2) ⟨_,e2,t,rfl,⟨xs,SqL.of et⟩,?_⟩;refine⟨λi m σ' H'=>σ'.length=σ.length/\(∀j,j<9->σ'[j]?=σ[j]?)/\(∀b u,b∉t::A->H1 b=some u->H' b=some u)/\H' t=some (.lst xs)/\(∀(j:Nat)d,A[j]?=some d->(∃ys,H' d=some (.lst ys))/\(j<i->H' d=some (.lst [])))/\i<=xs.length/\m=xs.length-i,⟨_,rfl,λ_ _=>rfl,λ_ _ _ e=>e,et,λj d e=>⟨rr.isl d (aB e),λz=>absurd z (Nat.not_lt_zero _)⟩,aZ _,rfl⟩,?_⟩;rintro i m σ' H' ⟨sl,se,keep,iP,cl,il,rfl⟩;by_cases e:i=xs.length
 .refine .inl ⟨⟨xs,SqL.of iP,by exact X9 (Eq.symm e)⟩,?_⟩;have h2:=SR.agr h sl λj x ej nx=>se j (by
   refine Nat.lt_of_not_le λz=>nx ?_;have lj:j<12:=(ao.mp ej).1;obtain rfl|rfl|rfl:j=9\/j=10\/j=11:=by lia
   all_goals exact(Option.some.inj ej).symm)
  have S:Same (hd (Ow own) H1) (hd (Ow own) H'):=λb u e=>by
   obtain⟨n,e1⟩:=cL e;exact(b_ n).trans (keep b u (gV e).2 e1)
  obtain⟨h3,_⟩:=h2.chg (i:=2) (x:=.ow (hws D nm rs rs.length)) rfl (H':=H') (y:=.ow (hwE nm rs)) (λb u n e=>keep b u (by rw[<- eO];exact n) e) ⟨.ref t,by rw[se 2 (by decide),e2];rfl,by rw[eO];exact nd,by
   rw[eO];exact .lst iP (ac8 rr S λd hd=>by
    obtain⟨j,ej⟩:=aV hd;have lj:=(ao.mp ej).1;exact(cl j d ej).2 (by lia))⟩
  exact L.nx own H' σ' _ go S h3
 have hi:i<xs.length:=by exact Nat.lt_of_le_of_ne il e
 have gl:i<rs.length:=by exact aR hi (X9 xl)
 have fb:i<nm.length:=by rw[hn.len];exact Nat.lt_add_right _ gl
 refine .inr ⟨⟨xs,_,SqL.of iP,aj hi⟩,_,λσ2 H2 z=>⟨xs.length-(i+1),by lia,z⟩,?_⟩;rintro x H' ⟨rfl,hx⟩;have ez:(nm.zip rs)[i]?=some (nm[i],rs[i]):=by rw[aj (by rw[lz];exact gl),WH]
 obtain⟨q,d,ys,ex,ed,eq,_⟩:=afF rr ez;have hx:=hx xs (SqL.of iP);rw[ex]at hx;cases hx;obtain⟨eq1,nq⟩:=gV eq;obtain⟨yd,eM⟩:=(cl i d ed).1;have dA:d∈A:=aB ed;have td:t≠d:=λz=>nt (z ▸ dA);have k3:∀b u,b∉t::A->H1 b=some u->upd H' d (.lst []) b=some u:=λb u n e=>(bM λz=>n (by rw[z];exact aH _ dA)).trans (keep b u n e);have S3:=S3' k3;have en:(nm.take rs.length)[i]?=some nm[i]:=by rw[VQ,ZY gl,aj fb]
 have eo:(jT rs)[i]?=some (rs[i].doors.map qL):=by rw[aq,aj gl];rfl
 have z4:((σ'.set 9 (some (.str nm[i]))).set 10 (some (.ref d)))[4]?=some (some (.ref a4)):=by rw[Wp (by decide),Wp (by decide),se 4 (by decide),e4]
 have z9:((σ'.set 9 (some (.str nm[i]))).set 10 (some (.ref d)))[9]?=some (some (.str nm[i])):=by rw[Wp (by decide),WZ (by rw[sl,fm];decide)]
 refine⟨q,_,rfl,keep _ _ nq eq1,rfl,_,_,rfl,_,_,rfl,rfl,?_⟩;refine⟨.ref d,by rw[WZ (by rw[X2,sl,fm];decide)],d,yd,rfl,eM,?_⟩;refine Zt (t:=Wn K D) ?_;have cH:=k3 _ _ (gV c4).2 (gV c4).1;refine⟨D.Hall,rfl,.ref a4,z4,a4,jS,_,rfl,cH,m7 (KS:=cM) (by decide +kernel),D.Hall,rfl,.ref a4,z4,a4,jS,_,rfl,cH,m7 (KS:=cM) (by decide +kernel),.str nm[i],z9,?_⟩;refine⟨[hlT D s (nm.take rs.length) (jT rs),.str nm[i]],λx=>x=.fz (.int (i:Nat)),.cons (r4.same S3) (.cons (.str _) .nil),⟨s,_,_,nm[i],i,rfl,hn.wd _ (aU fb),hn.nd.sublist (UZ ..),en,rfl⟩,λH4 v x rx S4 n4=>?_⟩;subst rx;obtain⟨B,_,_,u,e,ru⟩:=n4;cases e;cases ru;refine⟨isL H4,KC,λob=>⟨[icT (hlT D s (nm.take rs.length) (jT rs)),.int (i:Nat)],λx=>x=.l1 ((rs[i].doors.map qL).map ofT),.cons (Rep.ice (S3.trans S4) r4) (.cons (.int _) .nil),⟨s,_,_,i,_,by rw[aa8],ok,eo,rfl⟩,λG v x rx SG nG fz=>?_⟩⟩;subst rx;have rm:rs[i]∈rs:=aU gl;obtain⟨l,ys,rfl,N⟩:=aen (by rw[ak];have:=(bj _ rm).few;exact aL this (by decide)) (λo ho=>by
  obtain⟨p,hp,rfl⟩:=YV.mp ho;exact aL (((bj _ rm).ok p hp).lk p.1).1 (by decide)) SG nG fz
 refine⟨l,rfl,⟨ys,SqL.of N.at_⟩,Xi N (by rw[X2,X2,sl,fm];decide) λσ3 H6 sl3 se3 k6=>⟨?_,λj hj=>?_,λb u n e=>k6 _ _ (S4 _ _ (k3 b u n e)),k6 _ _ (S4 _ _ ((bM td).trans iP)),λj d' ej=>?_,hi,rfl⟩⟩
 .rw[sl3,X2,X2,sl]
 .rw[se3 j hj,Wp (by lia),Wp (VW hj),se j hj]
 .by_cases c:d'=d
  .subst c;have z:H6 d'=some (.lst []):=k6 _ _ (S4 _ _ bQ);exact⟨⟨_,z⟩,λ_=>z⟩
  .obtain⟨⟨yy,ey⟩,f⟩:=cl j d' ej;have up:∀{u:HO},H' d'=some u->H6 d'=some u:=λe=>k6 _ _ (S4 _ _ ((bM c).trans e));refine⟨⟨yy,up ey⟩,λlj=>up (f ?_)⟩;refine Nat.lt_of_le_of_ne (Nat.le_of_lt_succ lj) λz=>c ?_;rw[z,ed]at ej;exact(Option.some.inj ej).symm
theorem names10{K:Frag}{D:Adr}{Z:XK}{own:zk}{H1:Hp}{σ:L2.St}{o:List OT}{s:Rat}{nn:Θ}{off:List (List cF)}{E:DT}{Dd:Ends}(few:nn.length<=1000)
 (h:SR K own H1 σ o)(eo:o[4]?=some (.fz (hlT D s nn off)))(L:Lnk K Z (hd (Ow own) H1) E Dd)(go:E.nx o) :
  Ft (aaG (λσ H Q=>∃C,iz D C/\zV C (Str.ofString "names") (L2.spT K (kE D)) (Cg 4) Dk σ H Q) (vq (tC (.str (Str.ofString "a"))) Dk)) Dd σ H1:=by
 obtain⟨v4,e4,r4⟩:=h.get (i:=4) eo;obtain⟨a4,jS,fs4,rfl,c4,d4,l4,q4⟩:=r4.insI;refine⟨D.Hall,rfl,.ref a4,e4,a4,jS,_,rfl,(cL c4).2,m7 (KS:=cM) (by decide +kernel),[hlT D s nn off],λx=>x=.l1 (nn.map L2.T.str),.cons (r4.same cj) .nil,⟨s,nn,off,rfl,rfl⟩,λH2 v x rx S2 n2=>?_⟩;subst rx;obtain⟨B,nb,l,xs,e,rfl,el,r⟩:=n2;cases e;have nl:=nb l (YR.mpr rfl);have S:Same H1 (upd H2 l (.lst (xs++[.str (Str.ofString "a")]))):=λb u e=>(bM λz=>by rw[z,nl]at e;cases e).trans (S2 _ _ e);refine⟨l,xs,rfl,el,.str (Str.ofString "a"),xs,rfl,el,Y3 (show _<=1000 by rw[r.len,ak];exact few) (by decide),?_⟩;exact L.nx own _ σ o go (bR S) (h.same S)
theorem Ys(nm:Θ)(rs:List RX) : [L2.T.lst ((nm.take rs.length).map L2.T.str)]++(List.range rs.length).map (λk=>L2.T.lst (((jT rs).getD k []).map ofT))=.lst ((nm.take rs.length).map L2.T.str)::(jT rs).map λds=>.lst (ds.map ofT):=by
 have e:(List.range rs.length).map (λk=>L2.T.lst (((jT rs).getD k []).map ofT))=(jT rs).map λds=>.lst (ds.map ofT):=by
  refine List.ext_getElem (by simp) λi h1 h2=>?_;rw[ak,X1]at h1;rw[US,US,List.getElem_range,au,aj (by rw[ak];exact h1)]
  rfl
 rw[e];rfl
theorem ad6{D:Adr}{s:Rat}{nm:Θ}{rs:List RX}(hn:Nms nm (rs.length+1))(hf:Far nm (rs.length+1))(b9:rs.length<=12)(bj:∀r∈rs,RxK rs.length r)(lt:rs.length<nm.length):StH D s (nm.take rs.length) (jT rs) rs nm[rs.length]:=by
 refine⟨U0 hn b9 bj,rfl,⟨_,bj⟩,hn.wd _ (aU lt),λz=>?_,λy hy t ht e=>hf nm[rs.length] y t (aj lt) (VY hy) ht e,by rw[aY,hn.len];lia,b9⟩;obtain⟨j,hj⟩:=aV z;have lj:=(ao.mp hj).1;rw[aY]at lj;rw[VQ,ZY (by lia)]at hj;have:=wM hn.nd hj (aj lt);lia
theorem Vd{c:RT}{a b k:RS}{E:DT}{o:List OT}{i:Nat}{w:OW}{t:L2.T}(e:slot o i=.ow w)(et:frW w=t)(h:c (o.set i (.fz t)) λx=>sw x (a { E with nx:=k E } o) (b { E with nx:=k E } o)):g8 (Uz (Cw i c) a b) k E o:=by
 show Cw i c o λx=>sw x (a { E with nx:=k E } o) (b { E with nx:=k E } o);unfold Cw;rw[e];subst et;exact h
theorem Yr{c:RT}{a b:RS}{E:DT}{o:List OT}{i:Nat}{w:OW}{t:L2.T}(e:slot o i=.ow w)(et:frW w=t)(h:c (o.set i (.fz t)) λx=>sw x (a E o) (b E o)):Uz (Cw i c) a b E o:=by
 show Cw i c o λx=>sw x (a E o) (b E o);unfold Cw;rw[e];subst et;exact h
theorem sh1{x y:RS}{E:DT}{o:List OT}(J:List OT->Prop)(h:∀Y:List OT->Prop,(∀o',J o'->Y o')->g8 x (λ_=>Y) E o)(k:∀o',J o'->y E o'):g8 x y E o:=h (y E) k
def SM:ST:=λts q=>∃ns:List Int,ts=[scT ns]/\ns.length<=63/\q (.fz (.bl true))
theorem abg(T:Tx D)(qj:gT 1 zM ug Hr)(Ij:gT 4 BL sI Kv)(Jc:gT 8 C_ qU (K4 D))(rD:OkI P w K mg base CX0 4 D.Hall_init jR (spI K (Jv D)))(gU:gT 2 lg iD nQ)(zO:gT 5 BJ rW (EY D))(gQ:gI 1 D.Hall_names ig (kE D))(iy:gI 3 D.Hall_offers cZ (yg D))(mX:gI 3 D.Hall_offers cZ (sy D))(gP:gI 2 D.Hall_place eV (xg D))(sE:gT 7 qe jB (vB D))(o_:gT 4 ud lR vd)(FW:gT 4 Gg xK Nk)(F:Fu N6 uI f fd):FT 9 f fd IK SM:=by
 refine F.okT Iv λah A outer s H E hr nd=>?_;refine⟨_,(bB (IW (bF Ij (bw (qv 0) bx)) (jo (n:=3) (bT (cA (n:=99) 6) (bT (cA (n:=99) 7) (bT (cA (n:=99) 8) gq)))))
  (bB (bU 1 (bV jZ T.jW WV (bw (qv 8) bx)))
  (bB (mq 2 (aai (fG bx)))
  (bB (iQ (dB T.fW (bw (qv 1) bx)) (cA (n:=99) 3)
  (bD (Ob 2 (Kl (bG (qv 7) (qv 3)) (dh (bC uI) yM ["_law_script","_law_many","_law_handed","_law_k","_law_hall","_law_held","_law_share","_law_names_here","_law_rooms_here","?_law_name","_law_doors","_law_offer"] ["_law_name","_law_door_here"] (dY (bG (bG (qv 8) (qv 3)) bA)) (jo (n:=2) (bT (fZ (i:=0)) (bT (fZ (i:=1)) gq))) cI (bF Jc (bw (qv 0) (bw (qv 1) (bw (qv 9) bx)))))))))
  (bB (bU 4 (Uy 6 2 T.Y7 rD hr.md (by rfl) T.acf))
  (bB (cu (QW.qt (d7 (bW (bY (bF gU (bw (gG (Fm:=Fam D) (λC h=>⟨T.cl C h,T.CQ C h⟩) (qv 4)) bx)))) (d7 (cD (mO hr.units) (gG (Fm:=Fam D) (λC h=>⟨T.cl C h,T.CQ C h⟩) (qv 4)) (qv 6)) (dj (bW (bY (bF zO (bw (qv 4) (bw (qv 7) (bw (qv 8) bx))))))))))
  (bD (bK gk))
  bL)
  (bB (cu (Cj 2 (cD (mO hr.units) (dh (bC uI) yM ["_law_script","_law_many","_law_handed","_law_k","_law_hall","_law_held","_law_share","_law_names_here","_law_rooms_here","?_law_name","?_law_doors","_law_offer"] ["_law_name","_law_doors"] (dY (qv 2)) (jo (n:=2) (bT (fZ (i:=0)) (bT (fZ (i:=1)) gq))) cI (qv 0)) (gD (qv 7) jF (gR (qv 1)))))
  (bD (bK gk))
  bL)
  (bB (iQ (dB T.fW (bw (qv 1) bx)) (cA (n:=99) 3)
  (bD (cu (Cj 2 (cD (mO hr.units) (dh (bC uI) yM yM ["_law_door_here"] (dY (bG (bG (qv 2) (qv 3)) bA)) (fZ (i:=0)) cI (gG (Fm:=Fam D) (λC h=>⟨T.cl C h,T.v8 C h⟩) (qv 0))) (dh (bC uI) yM ["_law_script","_law_many","_law_handed","_law_k","_law_hall","_law_held","_law_share","_law_names_here","_law_rooms_here","?_law_name","_law_doors","_law_offer"] ["_law_name","_law_door_here"] (dY (bG (bG (qv 8) (qv 3)) bA)) (jo (n:=2) (bT (fZ (i:=0)) (bT (fZ (i:=1)) gq))) cI (qv 0))))
  (bD (bK gk))
  bL)))
  (bB (bU 5 (bI cN (fG (bw (k_ (qv 4) T.cR T.oU gQ (KS:=cM)) bx)) (dh (bC uI) yM ["_law_script","_law_many","_law_handed","?_law_k","_law_hall","_law_held","_law_share","_law_names_here","_law_rooms_here","_law_name","_law_doors","_law_offer"] ["_law_k"] (dB T.fW (bw (qv 1) bx)) (fZ (i:=0)) cI (nu (qv 5) T.cR T.jQ iy (bw (qv 0) bx) (KS:=cM)))))
  (bB (aem (jk (Gp (PE.any λC(hC:iz D C)=>(FZ (pv 4) (T.cl C hC.fam) (T.Dz C hC) gQ hr.md)) (cW Ir jc))))
  (bB (aem (Mu PassesOwn.never rfl (zB ((pv 2)).mono) (Xe (n:=2) rfl (Bu (kh (i:=9) Iv.nd rfl (Or.inl rfl)) (Bu (kh (i:=10) Iv.nd rfl (Or.inl rfl)) Oq)))
     (zY (jk (ab2 (pv 10)))
     (m8 (Mu PassesOwn.never rfl (zB ((PE.any λC(hC:gB D C)=>(B_ (pv 4) (T.cl C hC.fam) (T.Cr C hC) (OkI.iced mX) hr.md (cW (PE.any λC(hC:h_ D C)=>(B_ (pv 4) (T.cl C hC.fam) (T.D_ C hC) gP hr.md (cW (pv 9) jc))) jc)))).mono) (kh (i:=11) Iv.nd rfl (Or.inl rfl))
      (m8 (jk (Gp (Zg Vt (pv 11) Ah (λ_ _=>rfl)) (cW (Pn (cW Ah (cW (Pn (cW Ah (cW Ah jc))) jc))) jc)))))))))
  (bB (Ob 2 (Kl j4 (fG bx)))
  (bB (cu (bW (bY (bF sE (bw (qv 4) (bw (bF qj (bw (qv 0) (bw bA bx))) (bw (bG (qv 7) (qv 1)) (bw (qv 8) bx)))))))
  (bD (bK gk))
  bL)
  (bB (cu (QW.qt (d7 (bW (bY (bF zO (bw (qv 4) (bw (qv 7) (bw (qv 8) bx)))))) (dj (cD (mO hr.units) (bG (qv 5) bA) (gD (qv 7) jF (gR (qv 1)))))))
  (bD (bK gk))
  bL)
  (bD (bK (bV (Gi rfl) T.Qk boot_all (bw (dh (bC uI) yM ["_law_script","_law_many","_law_handed","?_law_k","_law_hall","_law_held","_law_share","_law_names_here","_law_rooms_here","_law_name","_law_doors","_law_offer"] ["_law_k"] (dB T.fW (bw (qv 1) bx)) (fZ (i:=0)) cI (bF o_ (bw (bG (qv 6) (bI cN bA (qv 0))) (bw (bF FW (bw (bG (bG (qv 9) (qv 0)) bA) bx)) bx)))) bx)))))))))))))))))),?_⟩
 rintro _ R ⟨ns,rfl,nl,qR⟩;refine⟨ns,rfl,by exact aL nl (by decide),λs nm rs hs b9 hn hf bj=>?_⟩;have lz:(nm.zip rs).length=rs.length:=by rw[WU,hn.len];lia
 have lm:(rs.map rxT).length=rs.length:=ak ..;refine⟨rfl,by rw[lm];lia,?_⟩;rw[lm];refine jG (n:=rs.length) (λi o=>∃k,Y6 k=true/\o=o10 ns s nm rs (.ow (hws D nm rs i)) k .und .und .und .und .und) ⟨_,rfl,rfl⟩ ?_ ?_
 .rintro i _ hi ⟨k,_,rfl⟩;have gl:i<nm.length:=by rw[hn.len];exact Nat.lt_add_right _ hi
  have rm:rs[i]∈rs:=aU hi;have ew:hws D nm rs (i+1)=.lst (((nm.zip rs).take i).map (hw D nm)++[hw D nm (nm[i],rs[i])]):=by
   unfold hws;rw[List.take_succ,aj (by rw[lz];exact hi),WH,bf]
   rfl
  refine⟨Y3 (show _<=1000 by rw[ak,aY];lia) (by decide),.str nm[i],fj (aj gl),rxT rs[i],fj (aj hi),aL (show _<=1000 by rw[ak];have:=(bj _ rm).few;exact aL this (by decide)) (by decide),comp_map dnT (mdD D nm) rs[i].doors (λq hq N M hN=>?_) ?_⟩
  .exact⟨rfl,q.1,q.2,nm,rs.length+1,rs.length,rfl,(bj _ rm).wd q hq,hn,by exact Xs _,(bj _ rm).ok q hq,hN⟩
  .exact⟨.fz (.int (i:Nat)),rfl,by rw[ew];rfl⟩
 rintro _ ⟨k,kb,rfl⟩;have hi:icW (hws D nm rs rs.length)=_:=aaH (D:=D) hn bj;refine⟨by show(true&&(true&&(true&&(Y6 k&&true))))=true;rw[kb];rfl,?_⟩;refine⟨s,_,_,rfl,rfl,rfl,by rw[hi],hs.lo,hs.hi,aan hs,Ve hn b9 bj,afT _ _,?_⟩;rw[aaQ];have HX:HlX D s (nm.take rs.length) (jT rs) rs nm:=acC hn b9 bj;dsimp only;show g8 (Uz (rOr _ _) _ _) _ _ (o10 ns s nm rs (.ow (hws D nm rs rs.length)) k (.fz (hlT D s (nm.take rs.length) (jT rs))) .und .und .und .und);refine sh1 (λo=>o=o10 ns s nm rs (.ow (hws D nm rs rs.length)) k (.fz (hlT D s (nm.take rs.length) (jT rs))) .und .und .und .und) (λY go=>?_) ?_
 .refine⟨gA D,_,rfl,s,rfl,gA D,_,rfl,swF (by rw[Zs rfl,Zs rfl];rfl) ⟨s,_,_,rs,nm,rfl,HX,by rw[hn.len];lia,go _ rfl⟩⟩
 rintro _ rfl;refine sh1 (λo=>o=o10 ns s nm rs (.ow (hws D nm rs rs.length)) k (.fz (hlT D s (nm.take rs.length) (jT rs))) .und .und .und .und) (λY go=>?_) ?_
 .refine Vd (o:=o10 ns s nm rs (.ow (hws D nm rs rs.length)) k (.fz (hlT D s (nm.take rs.length) (jT rs))) .und .und .und .und) (i:=2) (by rfl) (SJ hn) ?_;have z1:(nm.zip rs).map (λp=>L2.T.str p.1)=(nm.take rs.length).map L2.T.str:=by
   rw[show(λp:Str×RX=>L2.T.str p.1)=L2.T.str ∘ Prod.fst from rfl,<- XG,Oh]
  refine⟨aL (show _<=1000 by rw[ak];lia) (by decide),comp_map (frH D nm) (λp=>.str p.1) (nm.zip rs) (λp _ N M hN=>⟨rfl,hN⟩) ?_⟩;rw[z1];refine⟨.list ((nm.take rs.length).map .str),.list ((nm.take rs.length).map .str),ZH L2.T.lst (eZ _).symm,?_,dZ HX.wd,dZ HX.wd,?_⟩
  .exact(ZH L2.T.lst (aek nm rs)).trans (ZH L2.T.lst (eZ _).symm)
  rw[wI];exact go _ rfl
 rintro _ rfl;refine sh1 (λo=>∃k,o=o10 ns s nm rs (.ow (hws D nm rs rs.length)) k (.fz (hlT D s (nm.take rs.length) (jT rs))) .und .und .und .und) (λY go=>?_) ?_
 .refine⟨⟨by lia,by lia⟩,jG (n:=rs.length) (λi o=>∃k,o=o10 ns s nm rs (.ow (hws D nm rs rs.length)) k (.fz (hlT D s (nm.take rs.length) (jT rs))) .und .und .und .und) ⟨_,rfl⟩ ?_ go⟩;rintro i _ hi ⟨k,rfl⟩;refine Yr (o:=o10 ns s nm rs (.ow (hws D nm rs rs.length)) (.fz (.int (i:Nat))) (.fz (hlT D s (nm.take rs.length) (jT rs))) .und .und .und .und) (i:=2) (by rfl) (SJ hn) ?_;have er:=aj hi;have ez:(nm.zip rs)[i]?=some (nm[i]'(by rw[hn.len];exact Nat.lt_add_right _ hi),rs[i]):=by rw[aj (by rw[lz];exact hi),WH]
  have rm:rs[i]∈rs:=aU hi;have l6:=(bj _ rm).few;refine⟨_,fj (h:=frH D nm) ez,aL (show _<=1000 by rw[ak];show rs[i].doors.length<=1000;exact aL l6 (by decide)) (by decide),comp_map (mdD D nm) (λq=>.str q.1) rs[i].doors (λq _ N M hN=>⟨(JK D _).fam,_,rfl,hN⟩) ?_⟩;refine⟨_,fj (h:=rxT) er,aL (show _<=1000 by rw[ak];exact aL l6 (by decide)) (by decide),comp_map dnT (λq=>.str q.1) rs[i].doors (λq _ N M hN=>⟨rfl,hN⟩) ?_⟩;have en:rs[i].doors.map (λq=>L2.T.str q.1)=(rs[i].doors.map (·.1)).map L2.T.str:=by rw[XG];rfl
  rw[en];have sh:SeqAt.shaped (.list ((rs[i].doors.map (·.1)).map PyData.str))=true:=dZ λn ia=>by
   obtain⟨q,hq,rfl⟩:=YV.mp ia;exact(bj _ rm).wd q hq
  refine⟨.list ((rs[i].doors.map (·.1)).map .str),.list ((rs[i].doors.map (·.1)).map .str),ZH L2.T.lst (eZ _).symm,ZH L2.T.lst (eZ _).symm,sh,sh,?_⟩;rw[wI];exact⟨_,rfl⟩
 rintro _ ⟨k,rfl⟩;have ok:=HX.h;have tl:(nm.take rs.length).length=rs.length:=HX.len;refine sh1 (λo=>o=o10 ns s nm rs (.ow (hws D nm rs rs.length)) k (.fz (hlT D s (nm.take rs.length) (jT rs))) (.fz (VD nm rs)) .und .und .und) (λY go=>?_) ?_
 .refine⟨⟨rfl,rfl⟩,s,_,_,rfl,⟨by lia,by lia⟩,aL (show _<=1000 by rw[rng,ak,X1];exact aL b9 (by decide)) (by decide),nZ (λk=>L2.T.lst (((jT rs).getD k []).map ofT)) rs.length (λi hi N M hN=>?_) ?_⟩
  .have eo:(jT rs)[i]?=some ((jT rs).getD i []):=by
    rw[au,aj (by rw[ak];exact hi)];rfl
   exact⟨⟨rfl,rfl⟩,s,_,_,i,_,rfl,ok,eo,hN⟩
  .refine⟨aL (show _<=1000 by rw[ak,X1];show 1+_<=1000;lia) (by decide),?_⟩;exact go _ (ZH (λx=>o10 ns s nm rs (.ow (hws D nm rs rs.length)) k (.fz (hlT D s (nm.take rs.length) (jT rs))) (.fz (.lst x)) .und .und .und) (Ys nm rs))
 rintro _ rfl;refine sh1 (λo=>o=o10 ns s nm rs (.ow (hws D nm rs rs.length)) k (.fz (hlT D s (nm.take rs.length) (jT rs))) (.fz (VD nm rs)) .und .und .und) (λY go=>?_) ?_
 .intro own H1 σ Dd h L;exact names10 (by rw[tl];exact aL b9 (by decide)) h rfl L (go _ rfl)
 rintro _ rfl;refine sh1 (λo=>o=o10 ns s nm rs (.ow (hwE nm rs)) k (.fz (hlT D s (nm.take rs.length) (jT rs))) (.fz (VD nm rs)) .und .und .und) (λY go=>?_) ?_
 .intro own H1 σ Dd h L;exact YZ hn b9 bj h L (go _ rfl)
 rintro _ rfl;refine⟨Y3 (show _<=1000 by rw[ak,lz];exact aL b9 (by decide)) (by decide),?_⟩;have lt:rs.length<nm.length:=by rw[hn.len];exact Nat.lt_succ_self _
 refine⟨ns,62,rfl,by exact aL nl (by decide),.str nm[rs.length],fj (aj lt),s,_,_,rs,_,_,rfl,ad6 hn hf b9 bj lt,?_⟩;refine⟨s,_,_,rs,nm,rfl,HX,by rw[hn.len];lia,_,rfl,.list ((nm.take rs.length).map .str),.list ((nm.take rs.length).map .str),ZH L2.T.lst (eZ _).symm,(ZH L2.T.lst (aek nm rs)).trans (ZH L2.T.lst (eZ _).symm),dZ HX.wd,dZ HX.wd,?_⟩;rw[wI];refine⟨⟨by lia,by lia⟩,aL (show _<=1000 by rw[rng,ak,X1];exact aL b9 (by decide)) (by decide),nZ (λ_=>.bl true) rs.length (λi hi N M hN=>?_) ⟨(List.range rs.length).map λ_=>true,by rw[XG];rfl,?_⟩⟩
 .have er:=aj hi;have rm:rs[i]∈rs:=aU hi;have l6:=(bj _ rm).few;refine⟨.lst ((rs[i].doors.map qL).map ofT),?_,rxT rs[i],fj er,rs.length,rs[i].doors,rfl,by exact aL l6 (by decide),(bj _ rm).ok,rs[i].doors.map qL,?_,by rw[ak];exact aL l6 (by decide),λo ho=>?_,hN⟩
  .rw[show(1:Int)+(i:Nat)=((i+1:Nat):Int)by lia];show nth _ (i+1)=_;rw[uT,List.getElem?_cons_succ,aq,aq,er]
   rfl
  .rw[XG];rfl
  .obtain⟨q,hq,rfl⟩:=YV.mp ho;exact⟨(bj _ rm).wd q hq,aL (((bj _ rm).ok q hq).lk q.1).1 (by decide)⟩
 .show R (.fz (.bl (((List.range rs.length).map λ_=>true).all λb=>b)));rw[show((List.range rs.length).map λ_=>true).all (λb=>b)=true by simp];exact qR
end
theorem aao{K:Frag}{vs:Β}{H:Hp}{Q:VK}{E:XK}(h:Pu K vs H Q E):spT K SM vs H Q E:=by
 obtain⟨a,ns,rfl,hs,hl,_,hQ⟩:=h;refine⟨[scT ns],λx=>x=.fz (.bl true),.cons (.scr hs (yr ns)) .nil,⟨ns,rfl,hl,rfl⟩,?_⟩;rintro H' v _ rfl _ ⟨B,_,_,u,e,r⟩;cases e;cases r;exact hQ H'
theorem law_fn{l:PySem.W.OpenLaw}{w:World}{K:Frag}{mg:Str->Ψ}(T0:∃D,Txt K mg D)(base:Heap)(f:Addr)(fd:FuncData)(F:Fun K N6 N6 uI f fd) :
  dO l.prog w K mg base CX0 9 f fd IK (Pu K):=by
 obtain⟨D,T⟩:=T0
 letI:Bs:=⟨l.prog,w,K,mg,base⟩
 have o {k:Nat}{n:Str}{st:Stmt}{ps:Θ}{sp:Sp} (h:eY K mg n st ps) (g:∀{f fd},Fun K n n st f fd->dO l.prog w K mg base CX0 k f fd ps sp):OkF l.prog w K mg base k n ps sp:=h.ok λ_ _=>g;have i {X:CXT}{k:Nat}{n m:Str}{st:Stmt}{ps:Θ}{f:Addr}{sp:Sp} (h:o8 K n m st ps f) (g:∀{fd},Fun K n m st f fd->dO l.prog w K mg base X k f fd ps sp):OkI l.prog w K mg base X k f ps sp:=h.ok λ_=>g;have x {k:Nat}{n:Str}{st:Stmt}{ps:Θ}{sp:Sp} (h:eY K mg n st ps) (g:∀{f fd},Fun K n n st f fd->dO l.prog w K mg base (CXO l.prog w) k f fd ps sp):OkX l.prog w K mg base k n ps sp:=h.okX λ_ _=>g;have cQ:=o T.NQ (Ld T);have iT:=o T.Rp (Ny T);have lO:=o T.Yp (S8 T cQ iT);have Mr:=o T.aaW (YF lO);have G7:=o T.YW (TY lO);have m6:=o T.Ww (VP);have gZ:=o T.Nz (Kf T cQ iT);have Jp:=o T.Yj (Ud iT);have cC:=o T.Er (Mq T);have iU:=o T.Ii (DP cC gZ);have d9:=o T.wJ (uV cC);have gF:=o T.BX (zf T gZ m6);have Ji:=o T.f_total (Us T Jp lO);have oA:=o T.Ei (Ba T d9 gF Ji);have oO:=o T.Dj (CV T Mr);have jy:=i T.Ie (Gv T iU);have qX:=i T.GD (HY T jy d9);have eN:=i T.Dm (Dy T jy oA oO);have sX:=i T.Jf (Je T iU gF G7 eN);have qZ:=i T.Hu (HW T eN);have rJ:=i T.Gu (Hv T);have oM:=o T.Dh (Bb T gZ m6);have lE:=o T.zq (yp T rJ);have dD:=i T.w5 (Jk T);have cX:=i T.jq (DN T cQ dD);have iy:=i T.mW (QL T cX);have pQ:=o T.Hj (JM T cC);have qO:=o T.Jr (M_ T lE);have rD:=i T.Gz (Eb T oM pQ qO);have cC:=o T.Er (K_ T);have iu:=i T.Ck (CN T);have dN:=i T.jq (Dc T cQ dD iu);have oF:=i T.Ag (CW T);have gQ:=i T.Dg (DQ T);have gP:=i T.uL (T4 T cC);have oY:=i T.uL (Q6 T cC iu);have lY:=i T.qI (M9 T cC cX);have fM:=i T.qI (Kz T cC dN oF);have mU:=i T.mW (Mw T dN);have qj:=o T.aak (Wx);have jH:=o T.VL (RD T);have Fw:=o T.adz (aa0 T);have vL:=o T.W9 (VB T jH);have gH:=o T.T6 (Rb Fw);have Lx:=o T.ZG (WY T jH gH);have Ij:=o T.Yu (Ub T qj jH gH vL Lx);have Jc:=o T.Y4 (Sd T gH qX eN sX qZ);have NK:=o T.Z_ (Yl T gH);have jg:=o T.Za (Uu T);have gU:=o T.Mi (KY T jg Fw);have FW:=o T.adt (abT T NK);have Sx:=o T.adW (ZM T jg gU);have o_:=o T.VH (Nt T gU Sx);have yh:=o T.abU (X3 T);have Cv:=x T.Yn (RM T mU fM oY);have pH:=o T.Qs (Nf T Cv yh);have uw:=o T.Rr (Lq T fM yh);have sE:=o T.Kg (Jh T pH uw);have zO:=o T.Yq (Qq T jg dD gQ gP iy lY o_ FW);have Hs:=i T.w5 (El T);have uZ:=i T.jq (Br T cQ Hs);have mX:=i T.mW (Lg T uZ);exact(abg T qj Ij Jc rD gU zO gQ iy mX gP sE o_ FW F).imp λ_ _ _ _ h=>aao h
end K10
end
open PySem PySem.W PyProof.Rows L2
set_option maxRecDepth 100000 in
set_option maxHeartbeats 0 in
theorem PySem.Challenge.cw_chancehall_k10_a_hall_holds : PySem.Challenge.rw_chancehall_k10_a_hall.Holds := by
 w_on
 refine holds_law H10.wsd λke=>?_;refine holds_open (q:=H10.qv) (loose:=[]) (XP:=XL H10.qv []) (YP:=InK H10.KH) H10.left (InK.of H10.asK) InK.keeps H10.hX XL.keeps (by rfl) (by rfl) (by rfl) H10.hR (by rfl) ke (by decide +kernel) ⟨rfl,rfl,rfl,rfl,rfl,by decide +kernel⟩ ?hw ?hc
 (case hw=>w_witness2)
 k_fill
 refine L2.adv (l:=PySem.Challenge.rw_chancehall_k10_a_hall) (k:=9) (x := "_law_script") rfl rfl ⟨rfl,by decide,by decide⟩ (λw h Y=>(show(H10.KH w.params).In h from Y)) ?F
 case F =>
  intro w mg fa h KX G e9;refine⟨K10.uI,?_,λbase f fd F=>K10.law_fn ?T base f fd F⟩
  .exact q_f
  case T =>
   refine⟨⟨31,44,56,68,80,92,111,130,149,168,307,385,406,425,444,461,185,186,266,273,280,287,294,299,304,368,375,403,422,441,458,127,146⟩,⟨q_c,q_c,q_c,q_c,q_c,q_c,q_c,q_c,q_c,q_c,q_c,q_c,q_c,q_c,q_c,q_c,q_c,q_c,by k_is,by k_is,q_g,q_t,q_t,q_M,q_4,q_m,q_m,q_m,q_m,q_m,q_m,q_n,q_n,q_n,q_n,q_n,q_n,q_4,q_m,q_n,q_n,q_n,q_n,q_n,q_n,q_M,q_4,q_m,q_n,q_n,q_n,q_n,q_n,q_n,q_M,q_4,q_m,q_n,q_n,q_n,q_n,q_n,q_n,q_M,q_4,q_m,q_n,q_n,q_n,q_n,q_n,q_n,q_M,q_4,q_m,q_n,q_n,q_n,q_n,q_n,q_n,q_E,q_S,q_5,by k_is,by k_is,q_n,by kit_is,by kit_is,by kit_is,by kit_is,by kit_is,by kit_is,by kit_is,by kit_is,by kit_is,by kit_is,q_E,q_S,q_5,by k_is,by k_is,q_n,by kit_is,by kit_is,by kit_is,by kit_is,by kit_is,by kit_is,by kit_is,by kit_is,by kit_is,by kit_is,q_b,q_h,q_h,q_h,q_h,q_h,q_h,q_h,q_B,q_h,q_h,q_h,q_B,q_h,q_h,q_h,q_h,q_h,q_z,q_z,q_z,q_z,q_z,q_z,q_z,q_z,q_z,q_z,q_z,q_z,q_z,q_z,q_z,q_f,q_f,q_f,q_f,q_f,q_f,q_f,q_f,q_f,q_f,q_f,q_f,q_f,q_f,q_f,q_f,q_f,q_f,q_f,q_f,q_f,q_f,q_f,q_f,q_f,q_f,q_f,q_f,q_f,q_f,q_f,q_f,q_f,q_f,q_f,q_f,q_f,q_f,q_f⟩⟩
#print axioms PySem.Challenge.cw_chancehall_k10_a_hall_holds
