import PyProof.Rows.All
import Wide.All
import OpenK.AllK
import Wide.FinOn
import Lean
import PyProof.EqAt
import PyProof.EqKinds
import PyProof.TupleCall
import PyProof.EqLayable
import KE.KIntText
import PyProof.EnumMake
import PyProof.EnumStmt
import PyProof.EnumFor
import PyProof.Rows.EnumRows
import PyProof.ExcInit
import PyProof.ExcClass2
import PyProof.InstStoreFacts
import KE.KRevIter
import KE.KItemsList
import PySem.Challenge.RW_chancehall_k57_a_run
def aj := @List.getElem?_eq_getElem
def ak := @List.length_map
def ao := @List.getElem?_eq_some_iff
def aq := @List.getElem?_map
def au := @List.getD_eq_getElem?_getD
def aA := @List.length_append
def aB := @List.mem_of_getElem?
def aC := @List.getElem?_append_right
def aD := @List.getElem?_append_left
def aF := @Nat.le_refl
def aG := @PySem.Heap.get?_push_of_some
def aH := @List.mem_cons_of_mem
def aJ := @PySem.Heap.lt_size
def aK := @List.take_of_length_le
def aL := @Nat.le_trans
def aM := @List.length_replicate
def aN := @List.mem_cons_self
def aO := @List.take_length
def aP := @List.mem_append_right
def aQ := @Nat.ne_of_lt
def aR := @Nat.lt_of_lt_of_le
def aU := @List.getElem_mem
def aV := @List.getElem?_of_mem
def aW := @Int.fmod_eq_emod_of_nonneg
def aX := @PySem.Heap.get?_push_size
def aY := @List.size_toArray
def aZ := @List.length_take
def bh := @Nat.zero_le
def bA := @List.map_append
def bC := @Bool.false_ne_true
open PySem.W (Frag instObj methodObj hideAll hideAll_get of_hideAll lookIn plainGet hasDictIn findIn handedIn plainGet_of findObj_own isFn plainOver takerIn set_plain looks_clsIn makesIn typeIn emptyDict looks_findIn keepIn specialIn takesIn mroIn kitOne kia_one kitx_list kitx_tuple callWith_K methodCall_KW codeIn nsIn mg_of excIn isNs_of_in clsIn looks_mroIn KitX readsIn findCls method_cls cls_value notCls nsOkIn)
section
open PySem PySem.Spec PyProof.Rows
abbrev Γ:=List (List ((Int×Int)×List (Nat×Int×Int)))
abbrev Δ:=List ((Int×Int)×List (Nat×Int×Int))
abbrev Θ:=List (Nat×Int×Int)
abbrev Φ:=List (Int×Int)
abbrev Ψ:=List (Addr×Obj)
abbrev Ω:=List Value
abbrev Ξ:=List Str
abbrev Β:=List Addr
abbrev Ε:=Option Value
abbrev Ζ:=Option Addr
abbrev Η:=Int×Int
abbrev Ι:=Value->Shared->Prop
def Zs:=@decide_eq_true
def Zp:=@decide_eq_false
def ZZ:=@if_neg
def ZY:=@if_pos
def ZU:=@wpAny_bind
def ZT:=@wpAny_pure
def ZH:=@congrArg
def Z3:=@Int.emod_nonneg
def YY:=@Int.emod_lt_of_pos
def YV:=@List.mem_map
def YU:=@List.mem_cons
def YR:=@List.mem_singleton
def Y1:=@List.mem_append
def Y2:=@Nat.le_of_lt
def Y3:=@Nat.lt_of_le_of_lt
def Xs:=@Nat.le_succ
def XZ:=@Int.mul_pos
def XY:=@Int.le_of_lt
def XX:=@Nat.lt_of_le_of_ne
def XW:=@Bool.false_eq_true
def XV:=@Rat.intCast_mul
def XU:=@Nat.pow_le_pow_right
def XT:=@Int.natAbs_natCast
def XG:=@Nat.le_add_right
def X1:=@Nat.lt_irrefl
def X2:=@Int.natCast_nonneg
def X9:=@List.append_assoc
end
set_option Elab.async false
set_option linter.all false
set_option maxRecDepth 100000
set_option maxHeartbeats 4000000
namespace L2.Once
open PySem PySem.W
def z:Pos:=⟨0,0,0,0⟩
noncomputable def tE:Obj:=⟨.type "tuple",none,.seq ⟨[]⟩ 0,⟨[]⟩⟩
noncomputable def fE:Obj:=⟨.none,none,.fields ⟨[]⟩,⟨[]⟩⟩
noncomputable def tN(t:Nat)(l:Ξ):Obj:=⟨.type "tuple",none,.seq ⟨(l.zipIdx t).map λx=>.str x.1 x.2⟩ 0,⟨[]⟩⟩
noncomputable def cO(n q:Str)(t:Nat)(l a f:Int)(r u:Nat):Obj:=⟨.type "code",none,.fields ⟨[.str n t,.str q (t+1),.str "/claim/cut.py" (t+2),.int l 0,.int a 0,.int 0 0,.int 0 0,.int f 0,.ref r,.bool true,.int 181 0,.ref (r+1),.none,.ref (r+2),.ref (r+3),.ref (r+4),.int u 0,.int l 0,.str "/claim/cut.py" (u+1)]⟩,⟨[]⟩⟩
def o11:Obj:={ cls:=.type "tuple",data:=.seq #[] }
def o12:Obj:={ cls:=.none,data:=.fields #[] }
def o13:Obj:={ cls:=.type "code",data:=.fields #[.str "<module>" 182,.str "<module>" 183,.str "/claim/cut.py" 184,.int 1 0,.int 0 0,.int 0 0,.int 0 0,.int 0 0,.ref 11,.bool false,.int 181 0,.ref 12,.none,.none,.none,.none,.int 185 0,.int 1 0,.str "/claim/cut.py" 186] }
def o14:Obj:={ cls:=.type "frame",slots:=#[some (.ref 13),some (.ref 3),some (.ref 3),none,some (.str "__main__" 164),none,some (.ref 0)] }
noncomputable def cP(n q:Str)(t:Nat)(l a f:Int)(r u:Nat):Obj:=⟨.type "code",none,.fields ⟨[.str n t,.str q (t+1),.str "/claim/cut.py" (t+2),.int l 0,.int a 0,.int 0 0,.int 0 0,.int f 0,.ref r,.bool true,.int 181 0,.ref (r+1),.none,.none,.none,.ref (r+2),.int u 0,.int l 0,.str "/claim/cut.py" (u+1)]⟩,⟨[]⟩⟩
noncomputable def dE(P:Params)(x:Str)(t:Nat)(v:Value):DictEntry:=⟨PyData.keyHash P x,.str x t,v⟩
abbrev lf(o:Obj):BT:=.node o .nil .nil
noncomputable def tr(P:Params):BT:=.node (boot_o_0 P)
 (.node (boot_o_1 P) (.node (boot_o_3 P) (lf (boot_o_7 P)) (lf o11)) (.node (boot_o_5 P) (lf (boot_o_9 P)) (lf o13)))
 (.node (boot_o_2 P) (.node (boot_o_4 P) (lf (boot_o_8 P)) (lf o12)) (.node (boot_o_6 P) (lf (boot_o_10 P)) (lf o14)))
noncomputable def S0(w:World)(os:OsState):Shared:=⟨boot_heap w.params,Array.mk [],boot_drawn,boot_toks,os⟩
noncomputable def Sa(w:World)(os:OsState):Shared:=⟨⟨Array.mk [boot_o_0 w.params,boot_o_1 w.params,boot_o_2 w.params,boot_o_3 w.params,boot_o_4 w.params,boot_o_5 w.params,boot_o_6 w.params,boot_o_7 w.params,boot_o_8 w.params,boot_o_9 w.params,boot_o_10 w.params,o11,o12,o13,o14],{}⟩,Array.mk [],{},187,os⟩
noncomputable def Sb(w:World)(os:OsState):SharedT:=⟨tr w.params,15,{},⟨[]⟩,{},187,os⟩
def env(p:Program):Env:={ scope:=p.main.scope,locals:=mainNs,globals:=mainNs,cells:=[],code:=.ref 13,frame:=some 14 }
def cE(p:Program):Code:=.body (behindTheImports p) (env p)
abbrev ann:Ε:=some (.ref 6)
abbrev B:List Frame:=[topFrame z]
theorem size(w:World):((boot_heap w.params).isNs mainGlobals&&(Array.mk [] : Array GenState).size==0,(boot_heap w.params).objs.size,(boot_heap w.params).nsMap mainGlobals "__annotations__")=(true,11,ann):=by
 rw[Fast.te8920871248978507458];kernel_rfl
def lu(p:Program)(w:World)(M:Nat)(S:SharedT)(l:List Stmt)(q:Pos)(G:Shared->Prop):Prop:=∃s,topRun treeTable p w 11 ann M S.abs (restOf l (env p) (cE p) q B)=some s/\G s
theorem lu.cut{p:Program}{w:World}{n M:Nat}{S S':SharedT}{l1 l2:List Stmt}{q q':Pos}{G:Shared->Prop}(h:segRunT treeTable p w 11 ann 1 n S (piecesOf l1 (env p) (cE p) q B)=some (.next,S',cE p,q'))(k:lu p w M S' l2 q' G):lu p w (n+M) S (l1++l2) q G :=
 let⟨s,a,b⟩:=k
 ⟨s,piece_app (segRun_of h) a,b⟩
theorem lu.cutAt{p:Program}{w:World}{n m M:Nat}{S S':SharedT}{l:List Stmt}{q q':Pos}{G:Shared->Prop}(h:segRunT treeTable p w 11 ann 1 n S (piecesOf (l.take m) (env p) (cE p) q B)=some (.next,S',cE p,q'))(k:lu p w M S' (l.drop m) q' G):lu p w (n+M) S l q G:=by
 have:=lu.cut h k;rwa[List.take_append_drop]at this
def Good{α:Type}(p q:Program)(loose:Ξ)(Xt:Shared->Bool)(Yf:Shared->α)(Ya:World->α)(g0:Bool)(w:World)(s:Shared):Prop :=
 (staticsOk (importedModules p.main.body) (boot_heap w.params) s.heap&&namesBound p s.heap&&gensDone s&&laidKept (boot_heap w.params) s.heap,openSeen q loose (importedModules p.main.body) Xt g0 s,Yf s)=(true,openGood q loose,Ya w)
theorem lu.last{p q:Program}{loose:Ξ}{Xt:Shared->Bool}{α:Type}{Yf:Shared->α}{Ya:World->α}{g0:Bool}{w:World}{n k:Nat}{S:SharedT}{l:List Stmt}{q0 e:Pos}
 (big:(segRunT treeTable p w 11 ann 1 n S (piecesOf l (env p) (cE p) q0 B)).map (λr =>
    (r.1,r.2.2.1,r.2.2.2,(topRun treeTable p w 11 ann k r.2.1.abs ⟨doneF .next,cE p,e,B⟩).map λs =>
     (staticsOk (importedModules p.main.body) (boot_heap w.params) s.heap&&namesBound p s.heap&&gensDone s&&laidKept (boot_heap w.params) s.heap,openSeen q loose (importedModules p.main.body) Xt g0 s,Yf s))) =
   some (.next,cE p,e,some (true,openGood q loose,Ya w))):lu p w (n+k) S l q0 (Good p q loose Xt Yf Ya g0 w):=by
 obtain⟨⟨f,sT,c,ps⟩,r1,r2⟩:=Option.map_eq_some_iff.mp big;obtain⟨rfl,rfl,rfl,r3⟩ : f=.next/\c=cE p/\ps=e/\_:=by simpa only[Prod.mk.injEq]using r2
 obtain⟨s,t1,t2⟩:=Option.map_eq_some_iff.mp r3;have q1:=piece_app (rest:=[]) (segRun_of r1) (piece_nil t1);rw[List.append_nil]at q1;exact⟨s,q1,t2⟩
theorem Px{p q:Program}{loose:Ξ}{Xt:Shared->Bool}{α:Type}{Yf:Shared->α}{Ya:World->α}{N:Nat}{g0:Bool}{a b M:Nat}
 (open_:∀w:World,(fencedOpening treeTable p w N).map (λs=>(s.heap,s.gens,s.drawn,s.toks))=some (boot_heap w.params,Array.mk [],boot_drawn,boot_toks))
 (pre:∀w:World,(λos=>topGo treeTable p w 11 ann a (S0 w os) (topStub p))=λos=>some (Sa w os,⟨denote treeTable (cE p),cE p,z,B⟩))
 (block:∀w:World,(λos=>segRun treeTable p w 11 ann 1 b (Sa w os) (blockOf (behindTheImports p) (env p) (cE p) z B))=λos=>some (.next,(Sb w os).abs,cE p,z))
 (ends:∀(w:World)(os:OsState),lu p w M (Sb w os) (behindTheImports p) z (Good p q loose Xt Yf Ya g0 w))
 (le:Nat.ble (a+(b+M)) N=true):LeftO p q loose Xt Yf Ya N g0:=λw=>by
 obtain⟨⟨h,gs,d,ks,os⟩,e1,e2⟩:=Option.map_eq_some_iff.mp (open_ w);obtain⟨rfl,rfl,rfl,rfl⟩ : h=boot_heap w.params/\gs=Array.mk []/\d=boot_drawn/\ks=boot_toks:=by simpa using e2
 obtain⟨z1,z2,z3⟩ : _/\_/\_:=by simpa only[Prod.mk.injEq]using size w
 obtain⟨s,q1,t2⟩:=ends w os;obtain⟨l1,l2,l3⟩ : _/\_/\_:=by simpa only[Good,Prod.mk.injEq]using t2
 have q2:=go_top (congrFun (pre w) os) (piece_block (congrFun (block w) os) q1);have q3:=topRun_mono (N-(a+(b+M))) _ _ _ _ q2;rw[show a+(b+M)+(N-(a+(b+M)))=N by have:=Nat.le_of_ble_eq_true le;omega]at q3;have t:topFrom treeTable p w N ⟨boot_heap w.params,Array.mk [],boot_drawn,boot_toks,os⟩=some s:=by
  unfold topFrom;dsimp only;rw[z1,z2,z3,show topRun treeTable p w 11 ann N ⟨boot_heap w.params,Array.mk [],boot_drawn,boot_toks,os⟩ (topStub p)=some s from q3];show(match staticsOk (importedModules p.main.body) (boot_heap w.params) s.heap&&namesBound p s.heap&&gensDone s&&laidKept (boot_heap w.params) s.heap with|true=>_|false=>_)=_;rw[l1]
 unfold openEnds;rw[e1];show(topFrom treeTable p w N _).map _=_;rw[t];exact ZH some (Prod.ext l2 l3)
end L2.Once
namespace L2
open PySem
def gK(s:Stmt):Arguments:=match s with
 |.FunctionDef _ a _ _ _ _ _ _ _ _=>a
 |_=>{ posonlyargs:=[],args:=[],vararg:=none,kwonlyargs:=[],kw_defaults:=[],kwarg:=none,defaults:=[] }
def eZ(s:Stmt):List Stmt:=match s with
 |.FunctionDef _ _ b _ _ _ _ _ _ _=>b
 |_=>[]
def bN(s:Stmt):Scope:=match s with
 |.FunctionDef _ _ _ _ _ _ sc _ _ _=>sc
 |_=>{ kind:=.function,names:=[],isGenerator:=false,isCoroutine:=false }
end L2
namespace K57
open PySem L2
def top(i:Nat):Stmt:=PySem.Challenge.pw_chancehall_k57_a_run.main.body.getD i (.Pass ⟨0,0,0,0⟩)
def fP(i j:Nat):Stmt:=match top i with|.ClassDef _ _ _ b _ _ _ _ _ _ _=>b.getD j (.Pass ⟨0,0,0,0⟩)|_=>.Pass ⟨0,0,0,0⟩
end K57
namespace H57
open PySem PySem.W L2 L2.Once K57
noncomputable section
noncomputable abbrev p:Program:=PySem.Challenge.pw_chancehall_k57_a_run
noncomputable section
noncomputable def wA:Obj:=⟨.type "builtin_function_or_method",none,.fields ⟨[.builtin "type.__prepare__",.type "type"]⟩,⟨[]⟩⟩
noncomputable def wB(n:Nat):Obj:=⟨.type "builtin_function_or_method",none,.fields ⟨[.builtin "object.__init_subclass__",.ref n]⟩,⟨[]⟩⟩
noncomputable def wC(n:Str)(t l r u:Nat):Obj:=⟨.type "code",none,.fields ⟨[.str n t,.str n (t+1),.str "/claim/cut.py" (t+2),.int l 0,.int 0 0,.int 0 0,.int 0 0,.int 0 0,.ref r,.bool false,.int 181 0,.ref (r+1),.none,.none,.none,.none,.int u 0,.int l 0,.str "/claim/cut.py" (u+1)]⟩,⟨[]⟩⟩
noncomputable def wF(c d:Nat)(n:Str)(t:Nat):Obj:=⟨.type "frame",none,.plain,⟨[some (.ref c),some (.ref 3),some (.ref d),none,some (.str n t),none,some (.ref 0)]⟩⟩
noncomputable def wG(t n:Nat):Obj:=⟨.type "getset_descriptor",none,.fields ⟨[.str "__weakref__" t,.ref n,.builtin "ExceptionGroup.__weakref__",.none]⟩,⟨[]⟩⟩
noncomputable def wK(n:Str)(b m:Ω)(d:Nat)(s:Ω)(o:Ε)(t u:Nat)(x:String):Obj:=⟨.type "type",none,.cls ⟨n,b,m,d,n,true,[],s,false,none,false⟩,⟨[o,none,some (.str n t),some (.str n u),some (.builtin x),some (.bool true)]⟩⟩
noncomputable def wS(n:Nat):Obj:=⟨.type "super",none,.fields ⟨[.ref n,.ref n,.ref n]⟩,⟨[]⟩⟩
noncomputable def wT(n:Nat):Obj:=⟨.type "tuple",none,.seq ⟨[.ref n]⟩ 0,⟨[]⟩⟩
noncomputable def fO(n q:Str)(s:Stmt)(m:Value)(c:Nat):Obj:=⟨.type "function",none,.func (fnOf n q (gK s) (eZ s) (bN s) .none .none .none m none (.ref c) .none),⟨[]⟩⟩
noncomputable def fT(n q:Str)(s:Stmt):Obj:=⟨.none,none,.func { fnOf n q (gK s) (eZ s) (bN s) .none .none .none .none none .none .none with globals:=0,builtins:=0 },⟨[]⟩⟩
def adl(P:Params):Obj:=⟨(.type "dict"),none,(.dict ⟨dE P "__name__" 165 (.str "law_chancehall_k57_a_run" 779)::dE P "__doc__" 166 .none::dE P "__package__" 167 .none::dE P "__loader__" 168 (.builtin "__main__.__loader__#opaque")::dE P "__spec__" 169 .none::dE P "__annotations__" 170 (.ref 6)::dE P "__builtins__" 171 (.ref 4)::dE P "__file__" 173 (.str "/claim/cut.py" 172)::dE P "__cached__" 174 .none::dE P "_wall" 193 (.ref 21)::dE P "HallError" 213 (.ref 31)::dE P "NoNumber" 229 (.ref 44)::dE P "NoName" 245 (.ref 56)::dE P "NoChance" 261 (.ref 68)::dE P "NoShare" 277 (.ref 80)::dE P "NoText" 293 (.ref 92)::dE P "NoRow" 318 (.ref 111)::dE P "NoRoom" 343 (.ref 130)::dE P "NoDoor" 368 (.ref 149)::dE P "NoPlan" 393 (.ref 168)::dE P "is_whole" 402 (.ref 177)::dE P "divisor" 413 (.ref 184)::dE P "NOUGHT" 418 (.ref 185)::dE P "ONE" 421 (.ref 186)::dE P "ratio" 430 (.ref 193)::dE P "is_ratio" 439 (.ref 200)::dE P "plus" 447 (.ref 207)::dE P "under" 455 (.ref 214)::dE P "parted" 462 (.ref 221)::dE P "level" 470 (.ref 226)::dE P "total" 478 (.ref 233)::dE P "fits" 488 (.ref 240)::dE P "check_plan" 498 (.ref 247)::dE P "chosen_doors" 506 (.ref 252)::dE P "edges_of" 519 (.ref 259)::dE P "room_behind" 525 (.ref 264)::dE P "paid_along" 537 (.ref 271)::dE P "run_of" 543 (.ref 276)::dE P "LONGEST_WORD" 547 (.int 8 546)::dE P "is_word" 553 (.ref 281)::dE P "check_head" 563 (.ref 288)::dE P "check_room_name" 570 (.ref 295)::dE P "check_chance" 577 (.ref 302)::dE P "check_pairs" 583 (.ref 307)::dE P "joined_ways" 589 (.ref 312)::dE P "Door" 636 (.ref 343)::dE P "Mixed" 663 (.ref 364)::dE P "check_share" 672 (.ref 373)::dE P "numbers_of" 682 (.ref 380)::dE P "numbered_ways" 693 (.ref 387)::dE P "offers_of" 704 (.ref 394)::dE P "Hall" 778 (.ref 449)::dE P "_law_cell" 788 (.ref 460)::dE P "_law_stream" 800 (.ref 467)::dE P "_law_gcd" 810 (.ref 474)::dE P "_law_lowest" 819 (.ref 481)::dE P "_law_whole" 826 (.ref 488)::dE P "_law_fraction" 833 (.ref 495)::dE P "_law_only" 839 (.ref 500)::dE P "_law_words" 845 (.ref 505)::dE P "_law_doors" 861 (.ref 512)::dE P "_law_drawn" 867 (.ref 517)::dE P "_law_chances" 873 (.ref 522)::dE P "_law_built" 879 (.ref 527)::dE P "_law_plan" 890 (.ref 534)::dE P "_law_plus" 898 (.ref 541)::dE P "_law_times" 906 (.ref 548)::dE P "_law_number" 913 (.ref 555)::dE P "_law_led" 925 (.ref 562)::dE P "_law_due" 943 (.ref 569)::dE P "_law_is" 952 (.ref 576)::dE P "_law_refused" 965 (.ref 583)::[]⟩ 72),⟨[]⟩⟩
noncomputable def Z2:Obj:=⟨.none,none,(.fields ⟨(.int 1 0)::(.int 0 0)::(.ref 20)::(.int 5 0)::(.int 0 0)::(.ref 27)::(.int 7 0)::(.int 0 0)::(.ref 40)::(.int 9 0)::(.int 0 0)::(.ref 52)::(.int 11 0)::(.int 0 0)::(.ref 64)::(.int 13 0)::(.int 0 0)::(.ref 76)::(.int 15 0)::(.int 0 0)::(.ref 88)::(.int 17 0)::(.int 0 0)::(.ref 100)::(.int 22 0)::(.int 0 0)::(.ref 119)::(.int 27 0)::(.int 0 0)::(.ref 138)::(.int 32 0)::(.int 0 0)::(.ref 157)::(.int 38 0)::(.int 0 0)::(.ref 176)::(.int 40 0)::(.int 0 0)::(.ref 183)::(.int 51 0)::(.int 0 0)::(.ref 192)::(.int 60 0)::(.int 0 0)::(.ref 199)::(.int 68 0)::(.int 0 0)::(.ref 206)::(.int 70 0)::(.int 0 0)::(.ref 213)::(.int 72 0)::(.int 0 0)::(.ref 220)::(.int 75 0)::(.int 0 0)::(.ref 225)::(.int 80 0)::(.int 0 0)::(.ref 232)::(.int 84 0)::(.int 0 0)::(.ref 239)::(.int 88 0)::(.int 0 0)::(.ref 246)::(.int 96 0)::(.int 0 0)::(.ref 251)::(.int 99 0)::(.int 0 0)::(.ref 258)::(.int 106 0)::(.int 0 0)::(.ref 263)::(.int 109 0)::(.int 0 0)::(.ref 270)::(.int 117 0)::(.int 0 0)::(.ref 275)::(.int 132 0)::(.int 0 0)::(.ref 280)::(.int 137 0)::(.int 0 0)::(.ref 287)::(.int 142 0)::(.int 0 0)::(.ref 294)::(.int 145 0)::(.int 0 0)::(.ref 301)::(.int 148 0)::(.int 0 0)::(.ref 306)::(.int 154 0)::(.int 0 0)::(.ref 311)::(.int 159 0)::(.int 0 0)::(.ref 318)::(.int 172 0)::(.int 0 0)::(.ref 353)::(.int 179 0)::(.int 0 0)::(.ref 372)::(.int 182 0)::(.int 0 0)::(.ref 379)::(.int 190 0)::(.int 0 0)::(.ref 386)::(.int 197 0)::(.int 0 0)::(.ref 393)::(.int 206 0)::(.int 0 0)::(.ref 400)::(.int 236 0)::(.int 0 0)::(.ref 459)::(.int 238 0)::(.int 0 0)::(.ref 466)::(.int 249 0)::(.int 0 0)::(.ref 473)::(.int 254 0)::(.int 0 0)::(.ref 480)::(.int 257 0)::(.int 0 0)::(.ref 487)::(.int 259 0)::(.int 0 0)::(.ref 494)::(.int 265 0)::(.int 0 0)::(.ref 499)::(.int 270 0)::(.int 0 0)::(.ref 504)::(.int 274 0)::(.int 0 0)::(.ref 511)::(.int 287 0)::(.int 0 0)::(.ref 516)::(.int 293 0)::(.int 0 0)::(.ref 521)::(.int 296 0)::(.int 0 0)::(.ref 526)::(.int 306 0)::(.int 0 0)::(.ref 533)::(.int 315 0)::(.int 0 0)::(.ref 540)::(.int 317 0)::(.int 0 0)::(.ref 547)::(.int 319 0)::(.int 0 0)::(.ref 554)::(.int 323 0)::(.int 0 0)::(.ref 561)::(.int 331 0)::(.int 0 0)::(.ref 568)::(.int 344 0)::(.int 0 0)::(.ref 575)::(.int 353 0)::(.int 0 0)::(.ref 582)::[]⟩),⟨[]⟩⟩
def q21:Obj:=(fO "_wall" "_wall" (top 0) (.str "__main__" 164) 20)
noncomputable def q22:Obj:=⟨(.type "tuple"),none,(.seq ⟨(.type "ValueError")::[]⟩ 0),⟨[]⟩⟩
def q23:Obj:=wA
def q24(P:Params):Obj:=⟨(.type "dict"),none,(.dict ⟨dE P "__module__" 203 (.str "chancehall.errors" 194)::dE P "__qualname__" 205 (.str "HallError" 204)::dE P "__firstlineno__" 207 (.int 5 206)::dE P "__static_attributes__" 208 (.ref 29)::[]⟩ 4),⟨[]⟩⟩
def q27:Obj:=(wC "HallError" 198 5 25 201)
def q28:Obj:=(wF 27 24 "chancehall.errors" 194)
def q30(P:Params):Obj:=⟨(.type "dict"),none,(.dict ⟨dE P "__module__" 203 (.str "chancehall.errors" 194)::dE P "__firstlineno__" 207 (.int 5 206)::dE P "__static_attributes__" 208 (.ref 29)::dE P "__weakref__" 210 (.ref 32)::dE P "__doc__" 211 .none::[]⟩ 3),⟨[]⟩⟩
def q31:Obj:=(wK "HallError" [(.type "ValueError")] [(.ref 31),(.type "ValueError"),(.type "Exception"),(.type "BaseException"),(.type "object")] 30 [(.ref 44),(.ref 56),(.ref 68),(.ref 80),(.ref 92),(.ref 111),(.ref 130),(.ref 149),(.ref 168)] (some (.ref 22)) 196 204 "ValueError.__new__")
def q32:Obj:=(wG 209 31)
def q33:Obj:=(wS 31)
def q34:Obj:=(wB 31)
def q35:Obj:=(wT 31)
def q36:Obj:=wA
def q37(P:Params):Obj:=⟨(.type "dict"),none,(.dict ⟨dE P "__module__" 221 (.str "chancehall.errors" 194)::dE P "__qualname__" 223 (.str "NoNumber" 222)::dE P "__firstlineno__" 225 (.int 7 224)::dE P "__static_attributes__" 226 (.ref 42)::[]⟩ 4),⟨[]⟩⟩
def q40:Obj:=(wC "NoNumber" 216 7 38 219)
def q41:Obj:=(wF 40 37 "chancehall.errors" 194)
def q43(P:Params):Obj:=⟨(.type "dict"),none,(.dict ⟨dE P "__module__" 221 (.str "chancehall.errors" 194)::dE P "__firstlineno__" 225 (.int 7 224)::dE P "__static_attributes__" 226 (.ref 42)::dE P "__doc__" 227 .none::[]⟩ 2),⟨[]⟩⟩
def q44:Obj:=(wK "NoNumber" [(.ref 31)] [(.ref 44),(.ref 31),(.type "ValueError"),(.type "Exception"),(.type "BaseException"),(.type "object")] 43 [] (some (.ref 35)) 214 222 "ValueError.__new__")
def q45:Obj:=(wS 44)
def q46:Obj:=(wB 44)
def q47:Obj:=(wT 31)
def q48:Obj:=wA
def q49(P:Params):Obj:=⟨(.type "dict"),none,(.dict ⟨dE P "__module__" 237 (.str "chancehall.errors" 194)::dE P "__qualname__" 239 (.str "NoName" 238)::dE P "__firstlineno__" 241 (.int 9 240)::dE P "__static_attributes__" 242 (.ref 54)::[]⟩ 4),⟨[]⟩⟩
def q52:Obj:=(wC "NoName" 232 9 50 235)
def q53:Obj:=(wF 52 49 "chancehall.errors" 194)
def q55(P:Params):Obj:=⟨(.type "dict"),none,(.dict ⟨dE P "__module__" 237 (.str "chancehall.errors" 194)::dE P "__firstlineno__" 241 (.int 9 240)::dE P "__static_attributes__" 242 (.ref 54)::dE P "__doc__" 243 .none::[]⟩ 2),⟨[]⟩⟩
def q56:Obj:=(wK "NoName" [(.ref 31)] [(.ref 56),(.ref 31),(.type "ValueError"),(.type "Exception"),(.type "BaseException"),(.type "object")] 55 [] (some (.ref 47)) 230 238 "ValueError.__new__")
def q57:Obj:=(wS 56)
def q58:Obj:=(wB 56)
def q59:Obj:=(wT 31)
def q60:Obj:=wA
def q61(P:Params):Obj:=⟨(.type "dict"),none,(.dict ⟨dE P "__module__" 253 (.str "chancehall.errors" 194)::dE P "__qualname__" 255 (.str "NoChance" 254)::dE P "__firstlineno__" 257 (.int 11 256)::dE P "__static_attributes__" 258 (.ref 66)::[]⟩ 4),⟨[]⟩⟩
def q64:Obj:=(wC "NoChance" 248 11 62 251)
def q65:Obj:=(wF 64 61 "chancehall.errors" 194)
def q67(P:Params):Obj:=⟨(.type "dict"),none,(.dict ⟨dE P "__module__" 253 (.str "chancehall.errors" 194)::dE P "__firstlineno__" 257 (.int 11 256)::dE P "__static_attributes__" 258 (.ref 66)::dE P "__doc__" 259 .none::[]⟩ 2),⟨[]⟩⟩
def q68:Obj:=(wK "NoChance" [(.ref 31)] [(.ref 68),(.ref 31),(.type "ValueError"),(.type "Exception"),(.type "BaseException"),(.type "object")] 67 [] (some (.ref 59)) 246 254 "ValueError.__new__")
def q69:Obj:=(wS 68)
def q70:Obj:=(wB 68)
def q71:Obj:=(wT 31)
def q72:Obj:=wA
def q73(P:Params):Obj:=⟨(.type "dict"),none,(.dict ⟨dE P "__module__" 269 (.str "chancehall.errors" 194)::dE P "__qualname__" 271 (.str "NoShare" 270)::dE P "__firstlineno__" 273 (.int 13 272)::dE P "__static_attributes__" 274 (.ref 78)::[]⟩ 4),⟨[]⟩⟩
def q76:Obj:=(wC "NoShare" 264 13 74 267)
def q77:Obj:=(wF 76 73 "chancehall.errors" 194)
def q79(P:Params):Obj:=⟨(.type "dict"),none,(.dict ⟨dE P "__module__" 269 (.str "chancehall.errors" 194)::dE P "__firstlineno__" 273 (.int 13 272)::dE P "__static_attributes__" 274 (.ref 78)::dE P "__doc__" 275 .none::[]⟩ 2),⟨[]⟩⟩
def q80:Obj:=(wK "NoShare" [(.ref 31)] [(.ref 80),(.ref 31),(.type "ValueError"),(.type "Exception"),(.type "BaseException"),(.type "object")] 79 [] (some (.ref 71)) 262 270 "ValueError.__new__")
def q81:Obj:=(wS 80)
def q82:Obj:=(wB 80)
def q83:Obj:=(wT 31)
def q84:Obj:=wA
def q85(P:Params):Obj:=⟨(.type "dict"),none,(.dict ⟨dE P "__module__" 285 (.str "chancehall.errors" 194)::dE P "__qualname__" 287 (.str "NoText" 286)::dE P "__firstlineno__" 289 (.int 15 288)::dE P "__static_attributes__" 290 (.ref 90)::[]⟩ 4),⟨[]⟩⟩
def q88:Obj:=(wC "NoText" 280 15 86 283)
def q89:Obj:=(wF 88 85 "chancehall.errors" 194)
def q91(P:Params):Obj:=⟨(.type "dict"),none,(.dict ⟨dE P "__module__" 285 (.str "chancehall.errors" 194)::dE P "__firstlineno__" 289 (.int 15 288)::dE P "__static_attributes__" 290 (.ref 90)::dE P "__doc__" 291 .none::[]⟩ 2),⟨[]⟩⟩
def q92:Obj:=(wK "NoText" [(.ref 31)] [(.ref 92),(.ref 31),(.type "ValueError"),(.type "Exception"),(.type "BaseException"),(.type "object")] 91 [] (some (.ref 83)) 278 286 "ValueError.__new__")
def q93:Obj:=(wS 92)
def q94:Obj:=(wB 92)
def q95:Obj:=(wT 31)
def q96:Obj:=wA
def q97(P:Params):Obj:=⟨(.type "dict"),none,(.dict ⟨dE P "__module__" 301 (.str "chancehall.errors" 194)::dE P "__qualname__" 303 (.str "NoRow" 302)::dE P "__firstlineno__" 305 (.int 17 304)::dE P "__init__" 313 (.ref 108)::dE P "__static_attributes__" 315 (.ref 109)::[]⟩ 5),⟨[]⟩⟩
noncomputable def q99:Obj:=⟨.none,none,(.fields ⟨(.int 19 0)::(.int 4 0)::(.ref 107)::[]⟩),⟨[]⟩⟩
def adU:Obj:=(wC "NoRow" 296 17 98 299)
def adq:Obj:=(wF 100 97 "chancehall.errors" 194)
def abu:Obj:=(cO "__init__" "NoRow.__init__" 306 19 2 3 102 311)
def abI:Obj:=(fO "__init__" "NoRow.__init__" (fP 8 0) (.str "chancehall.errors" 194) 107)
def acS(P:Params):Obj:=⟨(.type "dict"),none,(.dict ⟨dE P "__module__" 301 (.str "chancehall.errors" 194)::dE P "__firstlineno__" 305 (.int 17 304)::dE P "__init__" 313 (.ref 108)::dE P "__static_attributes__" 315 (.ref 109)::dE P "__doc__" 316 .none::[]⟩ 2),⟨[]⟩⟩
def ac9:Obj:=(wK "NoRow" [(.ref 31)] [(.ref 111),(.ref 31),(.type "ValueError"),(.type "Exception"),(.type "BaseException"),(.type "object")] 110 [] (some (.ref 95)) 294 302 "ValueError.__new__")
def adK:Obj:=(wS 111)
def ad7:Obj:=(wB 111)
def acw:Obj:=(wT 31)
def ad0:Obj:=wA
def aeb(P:Params):Obj:=⟨(.type "dict"),none,(.dict ⟨dE P "__module__" 326 (.str "chancehall.errors" 194)::dE P "__qualname__" 328 (.str "NoRoom" 327)::dE P "__firstlineno__" 330 (.int 22 329)::dE P "__init__" 338 (.ref 127)::dE P "__static_attributes__" 340 (.ref 128)::[]⟩ 5),⟨[]⟩⟩
noncomputable def adH:Obj:=⟨.none,none,(.fields ⟨(.int 24 0)::(.int 4 0)::(.ref 126)::[]⟩),⟨[]⟩⟩
def adJ:Obj:=(wC "NoRoom" 321 22 117 324)
def adw:Obj:=(wF 119 116 "chancehall.errors" 194)
def abL:Obj:=(cO "__init__" "NoRoom.__init__" 331 24 2 3 121 336)
def aaj:Obj:=(fO "__init__" "NoRoom.__init__" (fP 9 0) (.str "chancehall.errors" 194) 126)
def acA(P:Params):Obj:=⟨(.type "dict"),none,(.dict ⟨dE P "__module__" 326 (.str "chancehall.errors" 194)::dE P "__firstlineno__" 330 (.int 22 329)::dE P "__init__" 338 (.ref 127)::dE P "__static_attributes__" 340 (.ref 128)::dE P "__doc__" 341 .none::[]⟩ 2),⟨[]⟩⟩
def ab7:Obj:=(wK "NoRoom" [(.ref 31)] [(.ref 130),(.ref 31),(.type "ValueError"),(.type "Exception"),(.type "BaseException"),(.type "object")] 129 [] (some (.ref 114)) 319 327 "ValueError.__new__")
def adA:Obj:=(wS 130)
def ad5:Obj:=(wB 130)
def aad:Obj:=(wT 31)
def adD:Obj:=wA
def adn(P:Params):Obj:=⟨(.type "dict"),none,(.dict ⟨dE P "__module__" 351 (.str "chancehall.errors" 194)::dE P "__qualname__" 353 (.str "NoDoor" 352)::dE P "__firstlineno__" 355 (.int 27 354)::dE P "__init__" 363 (.ref 146)::dE P "__static_attributes__" 365 (.ref 147)::[]⟩ 5),⟨[]⟩⟩
noncomputable def adM:Obj:=⟨.none,none,(.fields ⟨(.int 29 0)::(.int 4 0)::(.ref 145)::[]⟩),⟨[]⟩⟩
def aed:Obj:=(wC "NoDoor" 346 27 136 349)
def adQ:Obj:=(wF 138 135 "chancehall.errors" 194)
def abZ:Obj:=(cO "__init__" "NoDoor.__init__" 356 29 2 3 140 361)
def aaR:Obj:=(fO "__init__" "NoDoor.__init__" (fP 10 0) (.str "chancehall.errors" 194) 145)
def aaw(P:Params):Obj:=⟨(.type "dict"),none,(.dict ⟨dE P "__module__" 351 (.str "chancehall.errors" 194)::dE P "__firstlineno__" 355 (.int 27 354)::dE P "__init__" 363 (.ref 146)::dE P "__static_attributes__" 365 (.ref 147)::dE P "__doc__" 366 .none::[]⟩ 2),⟨[]⟩⟩
def aau:Obj:=(wK "NoDoor" [(.ref 31)] [(.ref 149),(.ref 31),(.type "ValueError"),(.type "Exception"),(.type "BaseException"),(.type "object")] 148 [] (some (.ref 133)) 344 352 "ValueError.__new__")
def adE:Obj:=(wS 149)
def adk:Obj:=(wB 149)
def aaV:Obj:=(wT 31)
def adh:Obj:=wA
def aec(P:Params):Obj:=⟨(.type "dict"),none,(.dict ⟨dE P "__module__" 376 (.str "chancehall.errors" 194)::dE P "__qualname__" 378 (.str "NoPlan" 377)::dE P "__firstlineno__" 380 (.int 32 379)::dE P "__init__" 388 (.ref 165)::dE P "__static_attributes__" 390 (.ref 166)::[]⟩ 5),⟨[]⟩⟩
noncomputable def adt:Obj:=⟨.none,none,(.fields ⟨(.int 34 0)::(.int 4 0)::(.ref 164)::[]⟩),⟨[]⟩⟩
def adG:Obj:=(wC "NoPlan" 371 32 155 374)
def adu:Obj:=(wF 157 154 "chancehall.errors" 194)
def aa6:Obj:=(cO "__init__" "NoPlan.__init__" 381 34 2 3 159 386)
def acr:Obj:=(fO "__init__" "NoPlan.__init__" (fP 11 0) (.str "chancehall.errors" 194) 164)
def acQ(P:Params):Obj:=⟨(.type "dict"),none,(.dict ⟨dE P "__module__" 376 (.str "chancehall.errors" 194)::dE P "__firstlineno__" 380 (.int 32 379)::dE P "__init__" 388 (.ref 165)::dE P "__static_attributes__" 390 (.ref 166)::dE P "__doc__" 391 .none::[]⟩ 2),⟨[]⟩⟩
def acP:Obj:=(wK "NoPlan" [(.ref 31)] [(.ref 168),(.ref 31),(.type "ValueError"),(.type "Exception"),(.type "BaseException"),(.type "object")] 167 [] (some (.ref 152)) 369 377 "ValueError.__new__")
def adF:Obj:=(wS 168)
def ad2:Obj:=(wB 168)
def abB:Obj:=(fO "is_whole" "is_whole" (top 13) (.str "chancehall.wholes" 394) 176)
def aaq:Obj:=(tN 406 ["one", "other", "left", "right", "rest"])
def abY:Obj:=(fO "divisor" "divisor" (top 14) (.str "chancehall.wholes" 394) 183)
noncomputable def abM:Obj:=⟨(.type "tuple"),none,(.seq ⟨(.int 0 416)::(.int 1 417)::[]⟩ 0),⟨[]⟩⟩
noncomputable def acM:Obj:=⟨(.type "tuple"),none,(.seq ⟨(.int 1 419)::(.int 1 420)::[]⟩ 0),⟨[]⟩⟩
def aao:Obj:=(fO "ratio" "ratio" (top 18) (.str "chancehall.ratios" 414) 192)
def aa0:Obj:=(fO "is_ratio" "is_ratio" (top 19) (.str "chancehall.ratios" 414) 199)
def ac2:Obj:=(fO "plus" "plus" (top 20) (.str "chancehall.ratios" 414) 206)
def abm:Obj:=(fO "under" "under" (top 21) (.str "chancehall.ratios" 414) 213)
def abn:Obj:=(fO "parted" "parted" (top 22) (.str "chancehall.ratios" 414) 220)
def aas:Obj:=(fO "level" "level" (top 24) (.str "chancehall.levels" 463) 225)
def aa7:Obj:=(fO "total" "total" (top 25) (.str "chancehall.levels" 463) 232)
def acv:Obj:=(fO "fits" "fits" (top 27) (.str "chancehall.plans" 479) 239)
def aaf:Obj:=(cO "check_plan" "check_plan" 489 88 2 3 241 496)
def aac:Obj:=(fO "check_plan" "check_plan" (top 28) (.str "chancehall.plans" 479) 246)
def aaY:Obj:=(cP "chosen_doors" "chosen_doors" 501 96 2 3 248 504)
def ach:Obj:=(fO "chosen_doors" "chosen_doors" (top 30) (.str "chancehall.worths" 499) 251)
def aaD:Obj:=(tN 512 ["offer", "edges", "reached", "room", "chance"])
def aaX:Obj:=(fO "edges_of" "edges_of" (top 32) (.str "chancehall.runs" 507) 258)
def aaK:Obj:=(cP "room_behind" "room_behind" 520 106 2 3 260 523)
def abO:Obj:=(fO "room_behind" "room_behind" (top 33) (.str "chancehall.runs" 507) 263)
def aaT:Obj:=(tN 529 ["share", "pays", "leveled", "top", "bottom", "pay"])
def acD:Obj:=(cO "paid_along" "paid_along" 526 109 2 3 265 535)
def aaU:Obj:=(fO "paid_along" "paid_along" (top 34) (.str "chancehall.runs" 507) 270)
def abk:Obj:=(fO "run_of" "run_of" (top 35) (.str "chancehall.runs" 507) 275)
def abW:Obj:=(fO "is_word" "is_word" (top 38) (.str "chancehall.words" 544) 280)
def abT:Obj:=(cO "check_head" "check_head" 556 137 2 3 282 561)
def aal:Obj:=(fO "check_head" "check_head" (top 40) (.str "chancehall.doors" 554) 287)
def adS:Obj:=(fT "check_room_name" "check_room_name" (top 41))
def aak:Obj:=(cO "check_room_name" "check_room_name" 564 142 1 3 289 568)
def aaQ:Obj:=(fO "check_room_name" "check_room_name" (top 41) (.str "chancehall.doors" 554) 294)
def abQ:Obj:=(cO "check_chance" "check_chance" 571 145 1 3 296 575)
def ac6:Obj:=(fO "check_chance" "check_chance" (top 42) (.str "chancehall.doors" 554) 301)
def aap:Obj:=(cP "check_pairs" "check_pairs" 578 148 1 3 303 581)
def abx:Obj:=(fO "check_pairs" "check_pairs" (top 43) (.str "chancehall.doors" 554) 306)
def aa4:Obj:=(cP "joined_ways" "joined_ways" 584 154 1 3 308 587)
def acZ:Obj:=(fO "joined_ways" "joined_ways" (top 44) (.str "chancehall.doors" 554) 311)
def adV:Obj:=wA
def adC(P:Params):Obj:=⟨(.type "dict"),none,(.dict ⟨dE P "__module__" 597 (.str "chancehall.doors" 554)::dE P "__qualname__" 599 (.str "Door" 598)::dE P "__firstlineno__" 601 (.int 159 600)::dE P "__init__" 610 (.ref 326)::dE P "ways" 617 (.ref 333)::dE P "chance_to" 625 (.ref 340)::dE P "__static_attributes__" 629 (.ref 341)::[]⟩ 7),⟨[]⟩⟩
noncomputable def aeh:Obj:=⟨.none,none,(.fields ⟨(.int 161 0)::(.int 4 0)::(.ref 325)::(.int 167 0)::(.int 4 0)::(.ref 332)::(.int 170 0)::(.int 4 0)::(.ref 339)::[]⟩),⟨[]⟩⟩
def adN:Obj:=(wC "Door" 592 159 316 595)
def adT:Obj:=(wF 318 315 "chancehall.doors" 554)
def abh:Obj:=(cO "__init__" "Door.__init__" 602 161 3 3 320 608)
def ac8:Obj:=(fO "__init__" "Door.__init__" (fP 45 0) (.str "chancehall.doors" 554) 325)
def aaN:Obj:=(fO "ways" "Door.ways" (fP 45 1) (.str "chancehall.doors" 554) 332)
def aaG:Obj:=(cO "chance_to" "Door.chance_to" 618 170 2 3 334 623)
def aby:Obj:=(fO "chance_to" "Door.chance_to" (fP 45 2) (.str "chancehall.doors" 554) 339)
def Z5(P:Params):Obj:=⟨(.type "dict"),none,(.dict ⟨dE P "__module__" 597 (.str "chancehall.doors" 554)::dE P "__firstlineno__" 601 (.int 159 600)::dE P "__init__" 610 (.ref 326)::dE P "ways" 617 (.ref 333)::dE P "chance_to" 625 (.ref 340)::dE P "__static_attributes__" 629 (.ref 341)::dE P "__dict__" 631 (.ref 344)::dE P "__weakref__" 633 (.ref 345)::dE P "__doc__" 634 .none::[]⟩ 4),⟨[]⟩⟩
def acf:Obj:=(wK "Door" [(.type "object")] [(.ref 343),(.type "object")] 342 [(.ref 364)] none 590 598 "object.__new__")
noncomputable def acV:Obj:=⟨(.type "getset_descriptor"),none,(.fields ⟨(.str "__dict__" 630)::(.ref 343)::(.builtin "function.__dict__")::(.builtin "function.__dict__#set")::[]⟩),⟨[]⟩⟩
def aa3:Obj:=(wG 632 343)
def aeg:Obj:=(wS 343)
def adb:Obj:=(wB 343)
def acX:Obj:=(wT 343)
def ad6:Obj:=wA
def adg(P:Params):Obj:=⟨(.type "dict"),none,(.dict ⟨dE P "__module__" 644 (.str "chancehall.doors" 554)::dE P "__qualname__" 646 (.str "Mixed" 645)::dE P "__firstlineno__" 648 (.int 172 647)::dE P "__init__" 658 (.ref 361)::dE P "__static_attributes__" 660 (.ref 362)::[]⟩ 5),⟨[]⟩⟩
noncomputable def adZ:Obj:=⟨.none,none,(.fields ⟨(.int 174 0)::(.int 4 0)::(.ref 360)::[]⟩),⟨[]⟩⟩
def adx:Obj:=(wC "Mixed" 639 172 351 642)
def ad9:Obj:=(wF 353 350 "chancehall.doors" 554)
def aaO:Obj:=(cO "__init__" "Mixed.__init__" 649 174 4 3 355 656)
def abg:Obj:=(fO "__init__" "Mixed.__init__" (fP 46 0) (.str "chancehall.doors" 554) 360)
def abP(P:Params):Obj:=⟨(.type "dict"),none,(.dict ⟨dE P "__module__" 644 (.str "chancehall.doors" 554)::dE P "__firstlineno__" 648 (.int 172 647)::dE P "__init__" 658 (.ref 361)::dE P "__static_attributes__" 660 (.ref 362)::dE P "__doc__" 661 .none::[]⟩ 2),⟨[]⟩⟩
def abD:Obj:=(wK "Mixed" [(.ref 343)] [(.ref 364),(.ref 343),(.type "object")] 363 [] (some (.ref 348)) 637 645 "object.__new__")
def adX:Obj:=(wS 364)
def adz:Obj:=(wB 364)
def acR:Obj:=(cO "check_share" "check_share" 666 179 1 3 367 670)
def abG:Obj:=(fO "check_share" "check_share" (top 48) (.str "chancehall.halls" 664) 372)
def aan:Obj:=(cO "numbers_of" "numbers_of" 673 182 1 3 374 680)
def acY:Obj:=(fO "numbers_of" "numbers_of" (top 49) (.str "chancehall.halls" 664) 379)
def ac1:Obj:=(tN 686 ["door", "numbers", "numbered", "name", "chance"])
def aaA:Obj:=(cO "numbered_ways" "numbered_ways" 683 190 2 3 381 691)
def aaI:Obj:=(fO "numbered_ways" "numbered_ways" (top 50) (.str "chancehall.halls" 664) 386)
def acL:Obj:=(tN 697 ["doors", "numbers", "taken", "told", "door"])
def aaH:Obj:=(cO "offers_of" "offers_of" 694 197 2 3 388 702)
def abv:Obj:=(fO "offers_of" "offers_of" (top 51) (.str "chancehall.halls" 664) 393)
def adi:Obj:=wA
def ade(P:Params):Obj:=⟨(.type "dict"),none,(.dict ⟨dE P "__module__" 712 (.str "chancehall.halls" 664)::dE P "__qualname__" 714 (.str "Hall" 713)::dE P "__firstlineno__" 716 (.int 206 715)::dE P "__init__" 722 (.ref 406)::dE P "size" 729 (.ref 413)::dE P "names" 736 (.ref 420)::dE P "place" 744 (.ref 427)::dE P "check_room" 752 (.ref 434)::dE P "door_at" 761 (.ref 441)::dE P "offers" 767 (.ref 446)::dE P "__static_attributes__" 771 (.ref 447)::[]⟩ 11),⟨[]⟩⟩
noncomputable def aef:Obj:=⟨.none,none,(.fields ⟨(.int 208 0)::(.int 4 0)::(.ref 405)::(.int 214 0)::(.int 4 0)::(.ref 412)::(.int 217 0)::(.int 4 0)::(.ref 419)::(.int 220 0)::(.int 4 0)::(.ref 426)::(.int 225 0)::(.int 4 0)::(.ref 433)::(.int 229 0)::(.int 4 0)::(.ref 440)::(.int 232 0)::(.int 4 0)::(.ref 445)::[]⟩),⟨[]⟩⟩
def aee:Obj:=(wC "Hall" 707 206 398 710)
def adf:Obj:=(wF 400 397 "chancehall.halls" 664)
def acB:Obj:=(cP "__init__" "Hall.__init__" 717 208 3 3 402 720)
def ac0:Obj:=(fO "__init__" "Hall.__init__" (fP 52 0) (.str "chancehall.halls" 664) 405)
def acI:Obj:=(fO "size" "Hall.size" (fP 52 1) (.str "chancehall.halls" 664) 412)
def ab1:Obj:=(fO "names" "Hall.names" (fP 52 2) (.str "chancehall.halls" 664) 419)
def ab0:Obj:=(fO "place" "Hall.place" (fP 52 3) (.str "chancehall.halls" 664) 426)
def adI:Obj:=(fT "check_room" "Hall.check_room" (fP 52 4))
def acn:Obj:=(cO "check_room" "Hall.check_room" 745 225 2 3 428 750)
def aa1:Obj:=(fO "check_room" "Hall.check_room" (fP 52 4) (.str "chancehall.halls" 664) 433)
def abj:Obj:=(cO "door_at" "Hall.door_at" 753 229 3 3 435 759)
def aa8:Obj:=(fO "door_at" "Hall.door_at" (fP 52 5) (.str "chancehall.halls" 664) 440)
def acE:Obj:=(cP "offers" "Hall.offers" 762 232 2 3 442 765)
def acd:Obj:=(fO "offers" "Hall.offers" (fP 52 6) (.str "chancehall.halls" 664) 445)
def ada(P:Params):Obj:=⟨(.type "dict"),none,(.dict ⟨dE P "__module__" 712 (.str "chancehall.halls" 664)::dE P "__firstlineno__" 716 (.int 206 715)::dE P "__init__" 722 (.ref 406)::dE P "size" 729 (.ref 413)::dE P "names" 736 (.ref 420)::dE P "place" 744 (.ref 427)::dE P "check_room" 752 (.ref 434)::dE P "door_at" 761 (.ref 441)::dE P "offers" 767 (.ref 446)::dE P "__static_attributes__" 771 (.ref 447)::dE P "__dict__" 773 (.ref 450)::dE P "__weakref__" 775 (.ref 451)::dE P "__doc__" 776 .none::[]⟩ 4),⟨[]⟩⟩
def acF:Obj:=(wK "Hall" [(.type "object")] [(.ref 449),(.type "object")] 448 [] none 705 713 "object.__new__")
noncomputable def acJ:Obj:=⟨(.type "getset_descriptor"),none,(.fields ⟨(.str "__dict__" 772)::(.ref 449)::(.builtin "function.__dict__")::(.builtin "function.__dict__#set")::[]⟩),⟨[]⟩⟩
def abz:Obj:=(wG 774 449)
def ad1:Obj:=(wS 449)
def adY:Obj:=(wB 449)
def abl:Obj:=(cO "_law_cell" "_law_cell" 781 236 2 3 454 786)
def abw:Obj:=(fO "_law_cell" "_law_cell" (top 54) (.str "law_chancehall_k57_a_run" 779) 459)
def aae:Obj:=(tN 792 ["_law_cell_here", "_law_many", "_law_found", "_law_number_here", "_law_digits", "_law_k"])
def abF:Obj:=(cO "_law_stream" "_law_stream" 789 238 2 3 461 798)
def aaL:Obj:=(fO "_law_stream" "_law_stream" (top 55) (.str "law_chancehall_k57_a_run" 779) 466)
def abE:Obj:=(tN 804 ["_law_one", "_law_other", "_law_low", "_law_high"])
def abV:Obj:=(cO "_law_gcd" "_law_gcd" 801 249 2 3 468 808)
def abC:Obj:=(fO "_law_gcd" "_law_gcd" (top 56) (.str "law_chancehall_k57_a_run" 779) 473)
def aaJ:Obj:=(tN 814 ["_law_top", "_law_bottom", "_law_common"])
def aaF:Obj:=(cO "_law_lowest" "_law_lowest" 811 254 2 3 475 817)
def aa2:Obj:=(fO "_law_lowest" "_law_lowest" (top 57) (.str "law_chancehall_k57_a_run" 779) 480)
def Z4:Obj:=(cO "_law_whole" "_law_whole" 820 257 1 3 482 824)
def ab5:Obj:=(fO "_law_whole" "_law_whole" (top 58) (.str "law_chancehall_k57_a_run" 779) 487)
def acz:Obj:=(cO "_law_fraction" "_law_fraction" 827 259 1 3 489 831)
def abX:Obj:=(fO "_law_fraction" "_law_fraction" (top 59) (.str "law_chancehall_k57_a_run" 779) 494)
def abp:Obj:=(cP "_law_only" "_law_only" 834 265 2 3 496 837)
def abf:Obj:=(fO "_law_only" "_law_only" (top 60) (.str "law_chancehall_k57_a_run" 779) 499)
def Z0:Obj:=(cP "_law_words" "_law_words" 840 270 2 3 501 843)
def abK:Obj:=(fO "_law_words" "_law_words" (top 61) (.str "law_chancehall_k57_a_run" 779) 504)
def Z1:Obj:=(tN 849 ["_law_cell_here", "_law_k", "_law_many", "_law_xs", "_law_doors_here", "_law_j", "_law_ways", "_law_i", "_law_room", "_law_pay"])
def aaM:Obj:=(cO "_law_doors" "_law_doors" 846 274 3 3 506 859)
def ab4:Obj:=(fO "_law_doors" "_law_doors" (top 62) (.str "law_chancehall_k57_a_run" 779) 511)
def aci:Obj:=(cP "_law_drawn" "_law_drawn" 862 287 3 3 513 865)
def aco:Obj:=(fO "_law_drawn" "_law_drawn" (top 63) (.str "law_chancehall_k57_a_run" 779) 516)
def acC:Obj:=(cP "_law_chances" "_law_chances" 868 293 1 3 518 871)
def abq:Obj:=(fO "_law_chances" "_law_chances" (top 64) (.str "law_chancehall_k57_a_run" 779) 521)
def abr:Obj:=(cP "_law_built" "_law_built" 874 296 3 3 523 877)
def ab8:Obj:=(fO "_law_built" "_law_built" (top 65) (.str "law_chancehall_k57_a_run" 779) 526)
def aax:Obj:=(tN 883 ["_law_cell_here", "_law_rooms", "_law_xs", "_law_plan_here", "_law_k"])
def ace:Obj:=(cO "_law_plan" "_law_plan" 880 306 2 3 528 888)
def abN:Obj:=(fO "_law_plan" "_law_plan" (top 66) (.str "law_chancehall_k57_a_run" 779) 533)
def acG:Obj:=(cO "_law_plus" "_law_plus" 891 315 2 3 535 896)
def acN:Obj:=(fO "_law_plus" "_law_plus" (top 67) (.str "law_chancehall_k57_a_run" 779) 540)
def ac3:Obj:=(cO "_law_times" "_law_times" 899 317 2 3 542 904)
def aaS:Obj:=(fO "_law_times" "_law_times" (top 68) (.str "law_chancehall_k57_a_run" 779) 547)
def abH:Obj:=(cO "_law_number" "_law_number" 907 319 1 3 549 911)
def acO:Obj:=(fO "_law_number" "_law_number" (top 69) (.str "law_chancehall_k57_a_run" 779) 554)
def acK:Obj:=(tN 917 ["_law_ways", "_law_number_here", "_law_rest", "_law_ahead", "_law_room", "_law_chance"])
def abS:Obj:=(cO "_law_led" "_law_led" 914 323 2 3 556 923)
def abt:Obj:=(fO "_law_led" "_law_led" (top 70) (.str "law_chancehall_k57_a_run" 779) 561)
def ac7:Obj:=(tN 929 ["_law_share", "_law_rooms", "_law_plan_here", "_law_start", "_law_numbers", "_law_steps", "_law_paid", "_law_factor", "_law_room", "_law_number_here", "_law_pay", "_law_ways"])
def ab6:Obj:=(cO "_law_due" "_law_due" 926 331 5 3 563 941)
def ZW:Obj:=(fO "_law_due" "_law_due" (top 71) (.str "law_chancehall_k57_a_run" 779) 568)
def acT:Obj:=(tN 947 ["_law_found", "_law_due_here", "_law_step"])
def aag:Obj:=(fO "_law_is" "_law_is" (top 72) (.str "law_chancehall_k57_a_run" 779) 575)
def aaB:Obj:=(tN 956 ["_law_hall", "_law_plan_here", "_law_start", "_law_at", "_law_room", "_law_refused_here", "_law_e"])
def abd:Obj:=(cO "_law_refused" "_law_refused" 953 353 5 3 577 963)
def abJ:Obj:=(fO "_law_refused" "_law_refused" (top 73) (.str "law_chancehall_k57_a_run" 779) 582)
def tr1(P:Params):BT:=(.node (boot_o_0 P) (.node (boot_o_1 P) (.node (adl P) (.node (boot_o_7 P) (.node tE (.node q31 (.node fE (.node aaj (.node aaD (lf aaM) .nil) (lf ac1)) (.node (fT "ratio" "ratio" (top 18)) (.node adT (lf (cO "_law_is" "_law_is" 944 344 2 3 570 950)) .nil) (lf (tN 768 ["numbers", "offered", "share"])))) (.node q95 (.node tE (.node abT (lf fE) .nil) (lf fE)) (.node fE (lf tE) (lf (fT "_law_lowest" "_law_lowest" (top 57)))))) (.node q47 (.node (q79 P) (.node tE (.node aaU (lf ab8) .nil) (lf aef)) (.node ac2 (lf fE) (lf aae))) (.node ac9 (.node (fT "is_whole" "is_whole" (top 13)) (.node tE (lf tE) .nil) (lf tE)) (.node (cO "fits" "fits" 481 84 2 3 234 486) (lf tE) (lf abX))))) (.node q23 (.node fE (.node q71 (.node (adn P) (.node aaK (lf fE) .nil) (lf tE)) (.node (cO "is_ratio" "is_ratio" 431 60 1 3 194 437) (.node tE (lf abJ) .nil) (lf fE))) (.node fE (.node (acQ P) (.node aaQ (lf (tN 910 ["_law_cell_here"])) .nil) (lf (tN 740 ["self", "name"]))) (.node (fT "total" "total" (top 25)) (lf (fT "__init__" "Mixed.__init__" (fP 46 0))) (lf Z4)))) (.node (q55 P) (.node fE (.node adk (.node (fT "is_word" "is_word" (top 38)) (lf tE) .nil) (lf tE)) (.node tE (lf acf) (lf tE))) (.node adJ (.node (cO "divisor" "divisor" 403 40 2 3 178 411) (.node aa4 (lf (fT "_law_due" "_law_due" (top 71))) .nil) (lf (fT "door_at" "Hall.door_at" (fP 52 5)))) (.node aac (lf fE) (lf (fT "_law_words" "_law_words" (top 61)))))))) (.node o11 (.node (fT "_wall" "_wall" (top 0)) (.node q35 (.node (q67 P) (.node adA (.node aaX (lf (fT "_law_drawn" "_law_drawn" (top 63))) .nil) (lf aaI)) (.node fE (.node tE (lf aaB) .nil) (lf abz))) (.node q99 (.node (fT "__init__" "NoPlan.__init__" (fP 11 0)) (.node (tN 567 ["room"]) (lf ac3) .nil) (lf (cO "names" "Hall.names" 730 217 1 3 414 734))) (.node tE (lf tE) (lf fE)))) (.node fE (.node q83 (.node (tN 364 ["door"]) (.node (cP "run_of" "run_of" 538 117 4 3 272 541) (lf tE) .nil) (lf fE)) (.node tE (lf aaG) (lf aaL))) (.node ad0 (.node fE (.node abx (lf tE) .nil) (lf tE)) (.node (tN 492 ["hall", "plan", "room", "thing"]) (lf (fT "check_share" "check_share" (top 48))) (lf abp))))) (.node q27 (.node (q43 P) (.node fE (.node adQ (.node aaT (lf tE) .nil) (lf tE)) (.node (tN 443 ["one", "other"]) (lf (fT "ways" "Door.ways" (fP 45 1))) (lf abl))) (.node abu (.node tE (.node tE (lf acO) .nil) (lf ab0)) (.node fE (lf (abP P)) (lf (tN 830 ["_law_found"]))))) (.node q59 (.node (q91 P) (.node tE (.node fE (lf (fT "_law_plus" "_law_plus" (top 67))) .nil) (lf (fT "size" "Hall.size" (fP 52 1)))) (.node (fT "parted" "parted" (top 22)) (lf adb) (lf tE))) (.node (tN 334 ["self", "room"]) (.node tE (.node (adC P) (lf fE) .nil) (lf fE)) (.node aaY (lf aan) (lf fE))))))) (.node (boot_o_5 P) (.node (boot_o_9 P) (.node (tN 190 ["k"]) (.node q33 (.node q65 (.node (acA P) (.node (fT "edges_of" "edges_of" (top 32)) (lf tE) .nil) (lf (fT "numbered_ways" "numbered_ways" (top 50)))) (.node aao (.node fE (lf tE) .nil) (lf acF))) (.node (q97 P) (.node (tN 384 ["self", "room"]) (.node tE (lf tE) .nil) (lf tE)) (.node (cP "level" "level" 465 75 1 3 222 468) (lf adx) (lf aa2)))) (.node (q49 P) (.node q81 (.node abZ (.node fE (lf fE) .nil) (lf adf)) (.node fE (lf tE) (lf (fT "_law_stream" "_law_stream" (top 55))))) (.node ad7 (.node abB (.node (fT "check_pairs" "check_pairs" (top 43)) (lf abS) .nil) (lf acn)) (.node tE (lf (tN 669 ["share"])) (lf fE))))) (.node tE (.node q41 (.node (q73 P) (.node adM (.node tE (lf acC) .nil) (lf aaH)) (.node tE (lf (tN 614 ["self"])) (lf tE))) (.node tE (.node adF (.node fE (lf (fT "_law_number" "_law_number" (top 69))) .nil) (lf (fT "place" "Hall.place" (fP 52 3)))) (.node aa7 (lf abg) (lf tE)))) (.node q57 (.node q89 (.node adh (.node abW (lf (tN 894 ["_law_one", "_law_other"])) .nil) (lf (tN 726 ["self"]))) (.node (tN 459 ["one"]) (lf aa3) (lf abV))) (.node tE (.node abM (.node tE (lf ZW) .nil) (lf aa8)) (.node fE (lf tE) (lf abK)))))) (.node o13 (.node q21 (.node (q37 P) (.node q69 (.node aad (.node fE (lf aco) .nil) (lf fE)) (.node tE (.node abh (lf (fT "_law_refused" "_law_refused" (top 73))) .nil) (lf adY))) (.node adq (.node acr (.node adS (lf tE) .nil) (lf tE)) (.node (tN 474 ["fractions", "leveled"]) (lf (tN 652 ["self", "name", "pay", "pairs"])) (lf tE)))) (.node q53 (.node (q85 P) (.node aau (.node tE (lf ace) .nil) (lf acB)) (.node (cO "under" "under" 448 70 2 3 208 453) (lf (tN 626 ["leads", "name", "pay"])) (lf fE))) (.node tE (.node tE (.node fE (lf ac7) .nil) (lf (tN 756 ["self", "room", "name"]))) (.node (fT "check_plan" "check_plan" (top 28)) (lf abG) (lf tE))))) (.node tE (.node q45 (.node q77 (.node fE (.node (fT "paid_along" "paid_along" (top 34)) (lf (fT "_law_built" "_law_built" (top 65))) .nil) (lf (ade P))) (.node (fT "plus" "plus" (top 20)) (lf aaN) (lf tE))) (.node (tN 314 ["row"]) (.node (tN 399 ["thing"]) (.node abQ (lf fE) .nil) (lf fE)) (.node tE (lf adX) (lf (fT "_law_fraction" "_law_fraction" (top 59)))))) (.node (q61 P) (.node q93 (.node adG (.node tE (lf acN) .nil) (lf acI)) (.node abn (lf ad6) (lf aaJ))) (.node (fT "__init__" "NoRoom.__init__" (fP 9 0)) (.node (tN 425 ["top", "bottom", "common"]) (.node aeh (lf tE) .nil) (lf acE)) (.node tE (lf tE) (lf tE)))))))) (.node (boot_o_2 P) (.node (boot_o_4 P) (.node (boot_o_8 P) (.node fE (.node q32 (.node q64 (.node (tN 339 ["room"]) (.node tE (lf ab4) .nil) (lf tE)) (.node (cO "ratio" "ratio" 422 51 2 3 187 428) (.node tE (lf aag) .nil) (lf (ada P)))) (.node q96 (.node fE (.node aal (lf (tN 902 ["_law_one", "_law_other"])) .nil) (lf (tN 733 ["self"]))) (.node (fT "level" "level" (top 24)) (lf adZ) (lf aaF)))) (.node q48 (.node q80 (.node (fT "__init__" "NoDoor.__init__" (fP 10 0)) (.node tE (lf tE) .nil) (lf aee)) (.node tE (lf (tN 621 ["self", "room"])) (lf tE))) (.node adK (.node (cO "is_whole" "is_whole" 396 38 1 3 171 400) (.node fE (lf (fT "_law_led" "_law_led" (top 70))) .nil) (lf adI)) (.node acv (lf fE) (lf tE))))) (.node (q24 P) (.node q40 (.node q72 (.node tE (.node abO (lf (fT "_law_chances" "_law_chances" (top 64))) .nil) (lf (fT "offers_of" "offers_of" (top 51)))) (.node aa0 (lf fE) (lf (tN 784 ["_law_script", "_law_k"])))) (.node (tN 309 ["self", "row"]) (.node acP (.node tE (lf tE) .nil) (lf tE)) (.node (cO "total" "total" 471 80 1 3 227 476) (lf aaO) (lf ab5)))) (.node q56 (.node q88 (.node aaV (.node (cP "is_word" "is_word" 548 132 1 3 277 551) (lf fE) .nil) (lf fE)) (.node fE (lf acV) (lf (fT "_law_gcd" "_law_gcd" (top 56))))) (.node adw (.node abY (.node acZ (lf ab6) .nil) (lf abj)) (.node tE (lf (tN 676 ["rooms", "numbers", "room", "name"])) (lf Z0)))))) (.node Z2 (.node (cO "_wall" "_wall" 187 1 1 3 15 191) (.node q36 (.node q68 (.node ad5 (.node tE (lf aci) .nil) (lf tE)) (.node (tN 434 ["thing", "top", "bottom"]) (.node (fT "__init__" "Door.__init__" (fP 45 0)) (lf tE) .nil) (lf ad1))) (.node adU (.node aa6 (.node tE (lf aaS) .nil) (lf ab1)) (.node fE (lf fE) (lf (tN 823 ["_law_found"]))))) (.node q52 (.node q84 (.node (aaw P) (.node abk (lf (fT "_law_plan" "_law_plan" (top 66))) .nil) (lf (fT "__init__" "Hall.__init__" (fP 52 0)))) (.node (fT "under" "under" (top 21)) (lf aby) (lf tE))) (.node (aeb P) (.node aaq (.node tE (lf fE) .nil) (lf fE)) (.node tE (lf acR) (lf abf))))) (.node q28 (.node q44 (.node q76 (.node tE (.node tE (lf fE) .nil) (lf adi)) (.node tE (lf (cO "ways" "Door.ways" 611 167 1 3 327 615)) (lf abw))) (.node abI (.node fE (.node (fT "check_chance" "check_chance" (top 42)) (lf tE) .nil) (lf tE)) (.node (tN 484 ["thing", "many"]) (lf abD) (lf tE)))) (.node q60 (.node q92 (.node adt (.node (tN 559 ["name", "pay"]) (lf acG) .nil) (lf (cO "size" "Hall.size" 723 214 1 3 407 727))) (.node (cO "parted" "parted" 456 72 1 3 215 460) (lf acX) (lf fE))) (.node tE (.node fE (.node tE (lf acT) .nil) (lf (fT "offers" "Hall.offers" (fP 52 6)))) (.node ach (lf acY) (lf Z1))))))) (.node (boot_o_6 P) (.node (boot_o_10 P) (.node tE (.node q34 (.node tE (.node ab7 (.node (cO "edges_of" "edges_of" 509 99 1 3 253 517) (lf fE) .nil) (lf aaA)) (.node tE (.node (tN 605 ["self", "name", "pay"]) (lf fE) .nil) (lf acJ))) (.node tE (.node tE (.node fE (lf (fT "_law_times" "_law_times" (top 68))) .nil) (lf (fT "names" "Hall.names" (fP 52 2)))) (.node aas (lf ad9) (lf tE)))) (.node tE (.node q82 (.node aaR (.node (fT "run_of" "run_of" (top 35)) (lf aax) .nil) (lf tE)) (.node (tN 451 ["one", "other"]) (lf (fT "chance_to" "Door.chance_to" (fP 45 2))) (lf abF))) (.node acw (.node tE (.node aap (lf abt) .nil) (lf aa1)) (.node fE (lf tE) (lf (fT "_law_only" "_law_only" (top 60))))))) (.node fE (.node tE (.node tE (.node aed (.node fE (lf abq) .nil) (lf abv)) (.node fE (lf tE) (lf (fT "_law_cell" "_law_cell" (top 54))))) (.node (fT "__init__" "NoRow.__init__" (fP 8 0)) (.node ad2 (.node (tN 574 ["chance"]) (lf abH) .nil) (lf (cO "place" "Hall.place" 737 220 2 3 421 742))) (.node tE (lf (tN 659 ["leads"])) (lf fE)))) (.node q58 (.node tE (.node (aec P) (.node tE (lf tE) .nil) (lf tE)) (.node tE (lf aeg) (lf abC))) (.node fE (.node acM (.node adV (lf tE) .nil) (lf tE)) (.node (fT "chosen_doors" "chosen_doors" (top 30)) (lf (fT "numbers_of" "numbers_of" (top 49))) (lf tE)))))) (.node o14 (.node q22 (.node tE (.node q70 (.node adD (.node (fT "room_behind" "room_behind" (top 33)) (lf tE) .nil) (lf acL)) (.node (fT "is_ratio" "is_ratio" (top 19)) (.node ac8 (lf abd) .nil) (lf tE))) (.node tE (.node (tN 389 ["room"]) (.node aak (lf fE) .nil) (lf fE)) (.node tE (lf tE) (lf (fT "_law_whole" "_law_whole" (top 58)))))) (.node tE (.node tE (.node adE (.node fE (lf abN) .nil) (lf ac0)) (.node abm (lf (Z5 P)) (lf abE))) (.node adH (.node (fT "divisor" "divisor" (top 14)) (.node (fT "joined_ways" "joined_ways" (top 44)) (lf tE) .nil) (lf tE)) (.node aaf (lf tE) (lf fE))))) (.node (q30 P) (.node q46 (.node tE (.node (tN 359 ["self", "door"]) (.node acD (lf abr) .nil) (lf tE)) (.node (cO "plus" "plus" 440 68 2 3 201 445) (lf tE) (lf fE))) (.node (acS P) (.node tE (.node ac6 (lf acK) .nil) (lf (tN 748 ["self", "room"]))) (.node (fT "fits" "fits" (top 27)) (lf adz) (lf acz)))) (.node tE (.node q94 (.node adu (.node (fT "check_head" "check_head" (top 40)) (lf tE) .nil) (lf tE)) (.node tE (lf (adg P)) (lf tE))) (.node abL (.node tE (.node adN (lf (fT "_law_is" "_law_is" (top 72))) .nil) (lf acd)) (.node fE (lf fE) (lf (fT "_law_doors" "_law_doors" (top 62)))))))))))
def S1(w:World)(os:OsState):SharedT:=⟨tr1 w.params,584,{},⟨[]⟩,{},966,os⟩
noncomputable def e1:Pos:=⟨353,0,359,124⟩
def KH:Params->Frag:=λP=>(
 (nat_lit 2,(boot_o_2 P))::(nat_lit 3,⟨(.type "dict"),none,(.dict ⟨dE P "__name__" 165 (.str "law_chancehall_k57_a_run" 779)::dE P "__doc__" 166 .none::dE P "__package__" 167 .none::dE P "__loader__" 168 (.builtin "__main__.__loader__#opaque")::dE P "__spec__" 169 .none::dE P "__annotations__" 170 (.ref 6)::dE P "__builtins__" 171 (.ref 4)::dE P "__file__" 173 (.str "/claim/cut.py" 172)::dE P "__cached__" 174 .none::dE P "_wall" 193 (.ref 21)::dE P "HallError" 213 (.ref 31)::dE P "NoNumber" 229 (.ref 44)::dE P "NoName" 245 (.ref 56)::dE P "NoChance" 261 (.ref 68)::dE P "NoShare" 277 (.ref 80)::dE P "NoText" 293 (.ref 92)::dE P "NoRow" 318 (.ref 111)::dE P "NoRoom" 343 (.ref 130)::dE P "NoDoor" 368 (.ref 149)::dE P "NoPlan" 393 (.ref 168)::dE P "is_whole" 402 (.ref 177)::dE P "divisor" 413 (.ref 184)::dE P "NOUGHT" 418 (.ref 185)::dE P "ONE" 421 (.ref 186)::dE P "ratio" 430 (.ref 193)::dE P "is_ratio" 439 (.ref 200)::dE P "plus" 447 (.ref 207)::dE P "under" 455 (.ref 214)::dE P "parted" 462 (.ref 221)::dE P "level" 470 (.ref 226)::dE P "total" 478 (.ref 233)::dE P "fits" 488 (.ref 240)::dE P "check_plan" 498 (.ref 247)::dE P "chosen_doors" 506 (.ref 252)::dE P "edges_of" 519 (.ref 259)::dE P "room_behind" 525 (.ref 264)::dE P "paid_along" 537 (.ref 271)::dE P "run_of" 543 (.ref 276)::dE P "LONGEST_WORD" 547 (.int 8 546)::dE P "is_word" 553 (.ref 281)::dE P "check_head" 563 (.ref 288)::dE P "check_room_name" 570 (.ref 295)::dE P "check_chance" 577 (.ref 302)::dE P "check_pairs" 583 (.ref 307)::dE P "joined_ways" 589 (.ref 312)::dE P "Door" 636 (.ref 343)::dE P "Mixed" 663 (.ref 364)::dE P "check_share" 672 (.ref 373)::dE P "numbers_of" 682 (.ref 380)::dE P "numbered_ways" 693 (.ref 387)::dE P "offers_of" 704 (.ref 394)::dE P "Hall" 778 (.ref 449)::dE P "_law_cell" 788 (.ref 460)::dE P "_law_stream" 800 (.ref 467)::dE P "_law_gcd" 810 (.ref 474)::dE P "_law_lowest" 819 (.ref 481)::dE P "_law_whole" 826 (.ref 488)::dE P "_law_fraction" 833 (.ref 495)::dE P "_law_only" 839 (.ref 500)::dE P "_law_words" 845 (.ref 505)::dE P "_law_doors" 861 (.ref 512)::dE P "_law_drawn" 867 (.ref 517)::dE P "_law_chances" 873 (.ref 522)::dE P "_law_built" 879 (.ref 527)::dE P "_law_plan" 890 (.ref 534)::dE P "_law_plus" 898 (.ref 541)::dE P "_law_times" 906 (.ref 548)::dE P "_law_number" 913 (.ref 555)::dE P "_law_led" 925 (.ref 562)::dE P "_law_due" 943 (.ref 569)::dE P "_law_is" 952 (.ref 576)::dE P "_law_refused" 965 (.ref 583)::dE P "_law_bad_plan" 976 (.ref 590)::dE P "law" 982 (.ref 595)::[]⟩ 74),⟨[]⟩⟩)::(nat_lit 15,tE)::(nat_lit 17,(tN 190 ["k"]))::(nat_lit 18,tE)::(nat_lit 20,(cO "_wall" "_wall" 187 1 1 3 15 191))::(nat_lit 21,q21)::(nat_lit 22,q22)::(nat_lit 29,tE)::(nat_lit 30,(q30 P))::(nat_lit 31,q31)::(nat_lit 32,q32)::(nat_lit 35,q35)::(nat_lit 42,tE)::(nat_lit 43,(q43 P))::(nat_lit 44,q44)::(nat_lit 47,q47)::(nat_lit 54,tE)::(nat_lit 55,(q55 P))::(nat_lit 56,q56)::(nat_lit 59,q59)::(nat_lit 66,tE)::(nat_lit 67,(q67 P))::(nat_lit 68,q68)::(nat_lit 71,q71)::(nat_lit 78,tE)::(nat_lit 79,(q79 P))::(nat_lit 80,q80)::(nat_lit 83,q83)::(nat_lit 90,tE)::(nat_lit 91,(q91 P))::(nat_lit 92,q92)::(nat_lit 95,q95)::(nat_lit 102,tE)::(nat_lit 104,(tN 309 ["self", "row"]))::(nat_lit 105,tE)::(nat_lit 107,abu)::(nat_lit 108,abI)::(nat_lit 109,(tN 314 ["row"]))::(nat_lit 110,(acS P))::(nat_lit 111,ac9)::(nat_lit 114,acw)::(nat_lit 121,tE)::(nat_lit 123,(tN 334 ["self", "room"]))::(nat_lit 124,tE)::(nat_lit 126,abL)::(nat_lit 127,aaj)::(nat_lit 128,(tN 339 ["room"]))::(nat_lit 129,(acA P))::(nat_lit 130,ab7)::(nat_lit 133,aad)::(nat_lit 140,tE)::(nat_lit 142,(tN 359 ["self", "door"]))::(nat_lit 143,tE)::(nat_lit 145,abZ)::(nat_lit 146,aaR)::(nat_lit 147,(tN 364 ["door"]))::(nat_lit 148,(aaw P))::(nat_lit 149,aau)::(nat_lit 152,aaV)::(nat_lit 159,tE)::(nat_lit 161,(tN 384 ["self", "room"]))::(nat_lit 162,tE)::(nat_lit 164,aa6)::(nat_lit 165,acr)::(nat_lit 166,(tN 389 ["room"]))::(nat_lit 167,(acQ P))::(nat_lit 168,acP)::(nat_lit 171,tE)::(nat_lit 173,(tN 399 ["thing"]))::(nat_lit 174,tE)::(nat_lit 176,(cO "is_whole" "is_whole" 396 38 1 3 171 400))::(nat_lit 177,abB)::(nat_lit 178,tE)::(nat_lit 180,aaq)::(nat_lit 181,tE)::(nat_lit 183,(cO "divisor" "divisor" 403 40 2 3 178 411))::(nat_lit 184,abY)::(nat_lit 185,abM)::(nat_lit 186,acM)::(nat_lit 187,tE)::(nat_lit 189,(tN 425 ["top", "bottom", "common"]))::(nat_lit 190,tE)::(nat_lit 192,(cO "ratio" "ratio" 422 51 2 3 187 428))::(nat_lit 193,aao)::(nat_lit 194,tE)::(nat_lit 196,(tN 434 ["thing", "top", "bottom"]))::(nat_lit 197,tE)::(nat_lit 199,(cO "is_ratio" "is_ratio" 431 60 1 3 194 437))::(nat_lit 200,aa0)::(nat_lit 201,tE)::(nat_lit 203,(tN 443 ["one", "other"]))::(nat_lit 204,tE)::(nat_lit 206,(cO "plus" "plus" 440 68 2 3 201 445))::(nat_lit 207,ac2)::(nat_lit 208,tE)::(nat_lit 210,(tN 451 ["one", "other"]))::(nat_lit 211,tE)::(nat_lit 213,(cO "under" "under" 448 70 2 3 208 453))::(nat_lit 214,abm)::(nat_lit 215,tE)::(nat_lit 217,(tN 459 ["one"]))::(nat_lit 218,tE)::(nat_lit 220,(cO "parted" "parted" 456 72 1 3 215 460))::(nat_lit 221,abn)::(nat_lit 222,tE)::(nat_lit 225,(cP "level" "level" 465 75 1 3 222 468))::(nat_lit 226,aas)::(nat_lit 227,tE)::(nat_lit 229,(tN 474 ["fractions", "leveled"]))::(nat_lit 230,tE)::(nat_lit 232,(cO "total" "total" 471 80 1 3 227 476))::(nat_lit 233,aa7)::(nat_lit 234,tE)::(nat_lit 236,(tN 484 ["thing", "many"]))::(nat_lit 237,tE)::(nat_lit 239,(cO "fits" "fits" 481 84 2 3 234 486))::(nat_lit 240,acv)::(nat_lit 241,tE)::(nat_lit 243,(tN 492 ["hall", "plan", "room", "thing"]))::(nat_lit 244,tE)::(nat_lit 246,aaf)::(nat_lit 247,aac)::(nat_lit 248,tE)::(nat_lit 251,aaY)::(nat_lit 252,ach)::(nat_lit 253,tE)::(nat_lit 255,aaD)::(nat_lit 256,tE)::(nat_lit 258,(cO "edges_of" "edges_of" 509 99 1 3 253 517))::(nat_lit 259,aaX)::(nat_lit 260,tE)::(nat_lit 263,aaK)::(nat_lit 264,abO)::(nat_lit 265,tE)::(nat_lit 267,aaT)::(nat_lit 268,tE)::(nat_lit 270,acD)::(nat_lit 271,aaU)::(nat_lit 272,tE)::(nat_lit 275,(cP "run_of" "run_of" 538 117 4 3 272 541))::(nat_lit 276,abk)::(nat_lit 277,tE)::(nat_lit 280,(cP "is_word" "is_word" 548 132 1 3 277 551))::(nat_lit 281,abW)::(nat_lit 282,tE)::(nat_lit 284,(tN 559 ["name", "pay"]))::(nat_lit 285,tE)::(nat_lit 287,abT)::(nat_lit 288,aal)::(nat_lit 289,tE)::(nat_lit 291,(tN 567 ["room"]))::(nat_lit 292,tE)::(nat_lit 294,aak)::(nat_lit 295,aaQ)::(nat_lit 296,tE)::(nat_lit 298,(tN 574 ["chance"]))::(nat_lit 299,tE)::(nat_lit 301,abQ)::(nat_lit 302,ac6)::(nat_lit 303,tE)::(nat_lit 306,aap)::(nat_lit 307,abx)::(nat_lit 308,tE)::(nat_lit 311,aa4)::(nat_lit 312,acZ)::(nat_lit 320,tE)::(nat_lit 322,(tN 605 ["self", "name", "pay"]))::(nat_lit 323,tE)::(nat_lit 325,abh)::(nat_lit 326,ac8)::(nat_lit 327,tE)::(nat_lit 329,(tN 614 ["self"]))::(nat_lit 330,tE)::(nat_lit 332,(cO "ways" "Door.ways" 611 167 1 3 327 615))::(nat_lit 333,aaN)::(nat_lit 334,tE)::(nat_lit 336,(tN 621 ["self", "room"]))::(nat_lit 337,tE)::(nat_lit 339,aaG)::(nat_lit 340,aby)::(nat_lit 341,(tN 626 ["leads", "name", "pay"]))::(nat_lit 342,(Z5 P))::(nat_lit 343,acf)::(nat_lit 344,acV)::(nat_lit 345,aa3)::(nat_lit 348,acX)::(nat_lit 355,tE)::(nat_lit 357,(tN 652 ["self", "name", "pay", "pairs"]))::(nat_lit 358,tE)::(nat_lit 360,aaO)::(nat_lit 361,abg)::(nat_lit 362,(tN 659 ["leads"]))::(nat_lit 363,(abP P))::(nat_lit 364,abD)::(nat_lit 367,tE)::(nat_lit 369,(tN 669 ["share"]))::(nat_lit 370,tE)::(nat_lit 372,acR)::(nat_lit 373,abG)::(nat_lit 374,tE)::(nat_lit 376,(tN 676 ["rooms", "numbers", "room", "name"]))::(nat_lit 377,tE)::(nat_lit 379,aan)::(nat_lit 380,acY)::(nat_lit 381,tE)::(nat_lit 383,ac1)::(nat_lit 384,tE)::(nat_lit 386,aaA)::(nat_lit 387,aaI)::(nat_lit 388,tE)::(nat_lit 390,acL)::(nat_lit 391,tE)::(nat_lit 393,aaH)::(nat_lit 394,abv)::(nat_lit 402,tE)::(nat_lit 405,acB)::(nat_lit 406,ac0)::(nat_lit 407,tE)::(nat_lit 409,(tN 726 ["self"]))::(nat_lit 410,tE)::(nat_lit 412,(cO "size" "Hall.size" 723 214 1 3 407 727))::(nat_lit 413,acI)::(nat_lit 414,tE)::(nat_lit 416,(tN 733 ["self"]))::(nat_lit 417,tE)::(nat_lit 419,(cO "names" "Hall.names" 730 217 1 3 414 734))::(nat_lit 420,ab1)::(nat_lit 421,tE)::(nat_lit 423,(tN 740 ["self", "name"]))::(nat_lit 424,tE)::(nat_lit 426,(cO "place" "Hall.place" 737 220 2 3 421 742))::(nat_lit 427,ab0)::(nat_lit 428,tE)::(nat_lit 430,(tN 748 ["self", "room"]))::(nat_lit 431,tE)::(nat_lit 433,acn)::(nat_lit 434,aa1)::(nat_lit 435,tE)::(nat_lit 437,(tN 756 ["self", "room", "name"]))::(nat_lit 438,tE)::(nat_lit 440,abj)::(nat_lit 441,aa8)::(nat_lit 442,tE)::(nat_lit 445,acE)::(nat_lit 446,acd)::(nat_lit 447,(tN 768 ["numbers", "offered", "share"]))::(nat_lit 448,(ada P))::(nat_lit 449,acF)::(nat_lit 450,acJ)::(nat_lit 451,abz)::(nat_lit 454,tE)::(nat_lit 456,(tN 784 ["_law_script", "_law_k"]))::(nat_lit 457,tE)::(nat_lit 459,abl)::(nat_lit 460,abw)::(nat_lit 461,tE)::(nat_lit 463,aae)::(nat_lit 464,tE)::(nat_lit 466,abF)::(nat_lit 467,aaL)::(nat_lit 468,tE)::(nat_lit 470,abE)::(nat_lit 471,tE)::(nat_lit 473,abV)::(nat_lit 474,abC)::(nat_lit 475,tE)::(nat_lit 477,aaJ)::(nat_lit 478,tE)::(nat_lit 480,aaF)::(nat_lit 481,aa2)::(nat_lit 482,tE)::(nat_lit 484,(tN 823 ["_law_found"]))::(nat_lit 485,tE)::(nat_lit 487,Z4)::(nat_lit 488,ab5)::(nat_lit 489,tE)::(nat_lit 491,(tN 830 ["_law_found"]))::(nat_lit 492,tE)::(nat_lit 494,acz)::(nat_lit 495,abX)::(nat_lit 496,tE)::(nat_lit 499,abp)::(nat_lit 500,abf)::(nat_lit 501,tE)::(nat_lit 504,Z0)::(nat_lit 505,abK)::(nat_lit 506,tE)::(nat_lit 508,Z1)::(nat_lit 509,tE)::(nat_lit 511,aaM)::(nat_lit 512,ab4)::(nat_lit 513,tE)::(nat_lit 516,aci)::(nat_lit 517,aco)::(nat_lit 518,tE)::(nat_lit 521,acC)::(nat_lit 522,abq)::(nat_lit 523,tE)::(nat_lit 526,abr)::(nat_lit 527,ab8)::(nat_lit 528,tE)::(nat_lit 530,aax)::(nat_lit 531,tE)::(nat_lit 533,ace)::(nat_lit 534,abN)::(nat_lit 535,tE)::(nat_lit 537,(tN 894 ["_law_one", "_law_other"]))::(nat_lit 538,tE)::(nat_lit 540,acG)::(nat_lit 541,acN)::(nat_lit 542,tE)::(nat_lit 544,(tN 902 ["_law_one", "_law_other"]))::(nat_lit 545,tE)::(nat_lit 547,ac3)::(nat_lit 548,aaS)::(nat_lit 549,tE)::(nat_lit 551,(tN 910 ["_law_cell_here"]))::(nat_lit 552,tE)::(nat_lit 554,abH)::(nat_lit 555,acO)::(nat_lit 556,tE)::(nat_lit 558,acK)::(nat_lit 559,tE)::(nat_lit 561,abS)::(nat_lit 562,abt)::(nat_lit 563,tE)::(nat_lit 565,ac7)::(nat_lit 566,tE)::(nat_lit 568,ab6)::(nat_lit 569,ZW)::(nat_lit 570,tE)::(nat_lit 572,acT)::(nat_lit 573,tE)::(nat_lit 575,(cO "_law_is" "_law_is" 944 344 2 3 570 950))::(nat_lit 576,aag)::(nat_lit 577,tE)::(nat_lit 579,aaB)::(nat_lit 580,tE)::(nat_lit 582,abd)::(nat_lit 583,abJ)::(nat_lit 584,tE)::(nat_lit 586,(tN 969 ["_law_plan_here", "_law_cell_here", "_law_at", "_law_way", "_law_bad"]))::(nat_lit 587,tE)::(nat_lit 589,(cO "_law_bad_plan" "_law_bad_plan" 966 360 2 3 584 974))::(nat_lit 590,(fO "_law_bad_plan" "_law_bad_plan" (top 74) (.str "law_chancehall_k57_a_run" 779) 589))::(nat_lit 591,tE)::(nat_lit 594,(cP "law" "law" 977 371 1 3 591 980))::(nat_lit 595,(fO "law" "law" (top 75) (.str "law_chancehall_k57_a_run" 779) 594))::([] : List (Nat×Obj)))
noncomputable abbrev asH:List Nat:=[2,3,15,17,18,20,21,22,29,30,31,32,35,42,43,44,47,54,55,56,59,66,67,68,71,78,79,80,83,90,91,92,95,102,104,105,107,108,109,110,111,114,121,123,124,126,127,128,129,130,133,140,142,143,145,146,147,148,149,152,159,161,162,164,165,166,167,168,171,173,174,176,177,178,180,181,183,184,185,186,187,189,190,192,193,194,196,197,199,200,201,203,204,206,207,208,210,211,213,214,215,217,218,220,221,222,225,226,227,229,230,232,233,234,236,237,239,240,241,243,244,246,247,248,251,252,253,255,256,258,259,260,263,264,265,267,268,270,271,272,275,276,277,280,281,282,284,285,287,288,289,291,292,294,295,296,298,299,301,302,303,306,307,308,311,312,320,322,323,325,326,327,329,330,332,333,334,336,337,339,340,341,342,343,344,345,348,355,357,358,360,361,362,363,364,367,369,370,372,373,374,376,377,379,380,381,383,384,386,387,388,390,391,393,394,402,405,406,407,409,410,412,413,414,416,417,419,420,421,423,424,426,427,428,430,431,433,434,435,437,438,440,441,442,445,446,447,448,449,450,451,454,456,457,459,460,461,463,464,466,467,468,470,471,473,474,475,477,478,480,481,482,484,485,487,488,489,491,492,494,495,496,499,500,501,504,505,506,508,509,511,512,513,516,517,518,521,522,523,526,527,528,530,531,533,534,535,537,538,540,541,542,544,545,547,548,549,551,552,554,555,556,558,559,561,562,563,565,566,568,569,570,572,573,575,576,577,579,580,582,583,584,586,587,589,590,591,594,595]
end
def qv:Program:=view p [0,2,3,4,5,6,7,8,9,10,11,13,14,16,17,18,19,20,21,22,24,25,27,28,30,32,33,34,35,37,38,40,41,42,43,44,45,46,48,49,50,51,52,54,55,56,57,58,59,60,61,62,63,64,65,66,67,68,69,70,71,72,73,74,75]
noncomputable abbrev R:RowW:=PySem.Challenge.rw_chancehall_k57_a_run.row.toRowW
def Xt(s:Shared):Bool:=xlAt qv [] s&&recOk R.records s
noncomputable def e:Pos:=⟨371,0,390,106⟩
set_option maxHeartbeats 0
theorem wsd:PySem.Challenge.rw_chancehall_k57_a_run.wellSaid=true:=by kernel_rfl
theorem asK:∀P,asH=(KH P).map (·.1):=λ_=>by kernel_rfl
theorem pre(w:World):(λos=>topGo treeTable p w 11 ann 12 (S0 w os) (topStub p))=λos=>some (Sa w os,⟨denote treeTable (cE p),cE p,z,B⟩):=by
 rw[Fast.te15667345088766844465,Fast.te14364793385576792824,Fast.te11892475500146522536];kernel_rfl
theorem block(w:World):(λos=>segRun treeTable p w 11 ann 1 1 (Sa w os) (blockOf (behindTheImports p) (env p) (cE p) z B))=λos=>some (.next,(Sb w os).abs,cE p,z):=by
 rw[Fast.te14374325043358763698,Fast.te14364793385576792824];kernel_rfl
theorem Z_(w:World):(λos=>segRunT treeTable p w 11 ann 1 30000 (Sb w os) (piecesOf ((behindTheImports p).take 74) (env p) (cE p) z B))=λos=>some (.next,S1 w os,cE p,e1):=by
 rw[Fast.te10110043849684766642,Fast.te14364793385576792824];kernel_rfl
theorem big(w:World):(λos=>(segRunT treeTable p w 11 ann 1 50000 (S1 w os) (piecesOf ((behindTheImports p).drop 74) (env p) (cE p) e1 B)).map λr =>
  (r.1,r.2.2.1,r.2.2.2,(topRun treeTable p w 11 ann 2 r.2.1.abs ⟨doneF .next,cE p,e,B⟩).map λs =>
   (staticsOk (importedModules p.main.body) (boot_heap w.params) s.heap&&namesBound p s.heap&&gensDone s&&laidKept (boot_heap w.params) s.heap,openSeen qv [] (importedModules p.main.body) Xt true s,asH.map s.heap.get?))) =
  λ_=>some (.next,cE p,e,some (true,openGood qv [],(KH w.params).map λp=>some p.2)):=by
 rw[Fast.te10110043849684766642,Fast.te14364793385576792824,Fast.te14082659384304107361,Fast.te4187177175401517315,Fast.te5923862056798008813];kernel_rfl
theorem left:LeftO p qv [] Xt (λs=>asH.map s.heap.get?) (λw=>(KH w.params).map λp=>some p.2) 200000 :=
 Px (boot_open rfl rfl λ_=>rfl) pre block (λw os=>lu.cutAt (congrFun (Z_ w) os) (lu.last (congrFun (big w) os))) rfl
theorem hX(s:Shared)(h:Xt s=true):XL qv [] (s.heap.nsMap mainGlobals) s.heap:=xl_of s (Bool.and_eq_true_iff.mp h).1
theorem hR(s:Shared)(h:Xt s=true):RecFacts R.records s.heap:=recFacts_of (Bool.and_eq_true_iff.mp h).2
end
end H57
namespace L2
open PySem PySem.Spec PyProof.Rows
noncomputable abbrev Key:=Sum Int Str
noncomputable def vB:Key->Value->Bool
 |.inl k,v=>Value.isInt k v
 |.inr x,v=>Value.isStrOf x v
noncomputable def ad4(w:World):Key->Int
 |.inl k=>hashInt k
 |.inr x=>hashStr w x
theorem eG:∀{k:Key}{v:Value},vB k v=true->(∃i t,k=Sum.inl i/\v=Value.int i t)\/(∃x t,k=Sum.inr x/\v=Value.str x t)
 |.inl i,v,h=>by
  obtain⟨t,e⟩:=Value.isInt_shape (k:=i) (v:=v) h;exact .inl ⟨i,t,rfl,e⟩
 |.inr x,v,h=>by
  obtain⟨t,e⟩:=Value.isStrOf_shape (x:=x) (v:=v) h;exact .inr ⟨x,t,rfl,e⟩
theorem Qt(i:Int)(t:Tok):vB (.inl i) (.int i t)=true:=by simp[vB,Value.isInt]
theorem Pr(x:Str)(t:Tok):vB (.inr x) (.str x t)=true:=by simp[vB,Value.isStrOf]
theorem ZP(a b:Int):decide ((Sum.inl a:Key)=Sum.inl b)=(a==b):=by
 by_cases e:a=b
 .subst e;simp
 .have h:¬(Sum.inl a:Key)=Sum.inl b:=λq=>e (Sum.inl.inj q);rw[Zp h];exact(beq_eq_false_iff_ne.mpr e).symm
theorem Ze(a b:Str):decide ((Sum.inr a:Key)=Sum.inr b)=decide (a=b):=by
 by_cases e:a=b
 .subst e;simp
 .have h:¬(Sum.inr a:Key)=Sum.inr b:=λq=>e (Sum.inr.inj q);rw[Zp h,Zp e]
theorem Zw(a:Int)(b:Str):decide ((Sum.inl a:Key)=Sum.inr b)=false:=Zp (λq=>nomatch q)
theorem Zu(a:Str)(b:Int):decide ((Sum.inr a:Key)=Sum.inl b)=false:=Zp (λq=>nomatch q)
noncomputable def fY(prog:Program)(w:World):PySem.KeyKind prog w Key where
 is:=vB
 hash:=ad4 w
 inj:=λv a b ha hb=>by
  rcases eG ha with⟨i,t,rfl,rfl⟩|⟨x,t,rfl,rfl⟩
  .rcases eG hb with⟨j,u,rfl,e⟩|⟨y,u,rfl,e⟩
   .injection e with e1 _;rw[e1]
   .exact nomatch e
  .rcases eG hb with⟨j,u,rfl,e⟩|⟨y,u,rfl,e⟩
   .exact nomatch e
   .injection e with e1 _;rw[e1]
 byValue:=λk v h=>by
  rcases eG h with⟨i,t,rfl,rfl⟩|⟨x,t,rfl,rfl⟩<;>rfl
 pyHash:=λhv h=>by
  rcases eG hv with⟨i,t,rfl,rfl⟩|⟨x,t,rfl,rfl⟩
  .exact wpAny_pyHash_int h
  .exact wpAny_pyHash_str h
 eqBool:=λhu hv h=>by
  rcases eG hu with⟨i,t,rfl,rfl⟩|⟨x,t,rfl,rfl⟩
  .rcases eG hv with⟨j,u,rfl,rfl⟩|⟨y,u,rfl,rfl⟩
   .rw[ZP]at h;exact wpAny_eqBool_int h
   .rw[Zw]at h;exact SeqAt.EqAt.int_str i t y u _ _ _ _ h
  .rcases eG hv with⟨j,u,rfl,rfl⟩|⟨y,u,rfl,rfl⟩
   .rw[Zu]at h;exact SeqAt.EqAt.str_int x t j u _ _ _ _ h
   .rw[Ze]at h;exact wpAny_eqBool_str h
 «strs»:=λk x t v h=>by
  rcases eG h with⟨i,u,rfl,e⟩|⟨y,u,rfl,e⟩
  .exact nomatch e
  .injection e with e1 _;subst e1;cases v<;>rfl
theorem Ir(prog:Program)(w:World)(i:Int)(t:Tok):(fY prog w).is (.inl i) (.int i t)=true:=Qt i t
theorem Ig(prog:Program)(w:World)(x:Str)(t:Tok):(fY prog w).is (.inr x) (.str x t)=true:=Pr x t
inductive V where
 |non|bl (b:Bool)|int (i:Int)|str (x:Str)|byt (b:Array UInt8)|flt (b:UInt64)|ref (a:Addr)|ty (n:String)
 deriving DecidableEq
noncomputable abbrev Κ:=List V
noncomputable def RelV:V->Value->Prop
 |.non,u=>u=Value.none
 |.bl b,u=>u=Value.bool b
 |.int i,u=>∃t,u=Value.int i t
 |.str x,u=>∃t,u=Value.str x t
 |.byt b,u=>∃t,u=Value.bytes b t
 |.flt b,u=>∃t,u=Value.float b t
 |.ref a,u=>u=Value.ref a
 |.ty n,u=>u=Value.type n
noncomputable abbrev Vals:Κ->Ω->Prop:=Paired RelV
theorem Vals.length{xs:Κ}{us:Ω}(r:Vals xs us):xs.length=us.length:=Paired.length r
theorem Vals.get:∀{xs:Κ}{us:Ω}{i:Nat}{x:V},Vals xs us->xs[i]?=some x->∃u,us[i]?=some u/\RelV x u
 |_,_,_,_,.nil,e=>by simp at e
 |_,_,0,_,.cons r _,e=>by simp at e;subst e;exact⟨_,rfl,r⟩
 |_,_,i+1,x,.cons _ t,e=>by
  obtain⟨u,h1,h2⟩:=Vals.get (i:=i) (x:=x) t (by simpa using e);exact⟨u,by simpa using h1,h2⟩
theorem Vals.set{x:V}{u:Value}(r:RelV x u):∀{xs:Κ}{us:Ω}(i:Nat),Vals xs us->Vals (xs.set i x) (us.set i u)
 |_,_,_,.nil=>.nil
 |_,_,0,.cons _ t=>.cons r t
 |_,_,i+1,.cons q t=>.cons q (Vals.set r i t)
theorem Vals.append:∀{xs ys:Κ}{us ws:Ω},Vals xs us->Vals ys ws->Vals (xs++ys) (us++ws)
 |_,_,_,_,.nil,s=>s
 |_,_,_,_,.cons r t,s=>.cons r (Vals.append t s)
theorem Vals.take:∀{xs:Κ}{us:Ω}(n:Nat),Vals xs us->Vals (xs.take n) (us.take n)
 |_,_,0,_=>.nil
 |_,_,_+1,.nil=>.nil
 |_,_,n+1,.cons r t=>.cons r (Vals.take n t)
theorem Vals.drop:∀{xs:Κ}{us:Ω}(n:Nat),Vals xs us->Vals (xs.drop n) (us.drop n)
 |_,_,0,r=>r
 |_,_,_+1,.nil=>.nil
 |_,_,n+1,.cons _ t=>Vals.drop n t
noncomputable def qZ:Option V->Ε->Prop
 |some v,some u=>RelV v u
 |none,none=>True
 |_,_=>False
noncomputable def KV{κ:Type} : List (κ×V)->List (κ×Value)->Prop:=Paired λ(p:κ×V)(q:κ×Value)=>p.1=q.1/\RelV p.2 q.2
noncomputable def kV:Key->V
 |.inl i=>.int i
 |.inr x=>.str x
inductive HO where
  |lst (xs:Κ)
  |tup (xs:Κ)
  |dK (kvs:List (Key×V))
  |set (S:Int->Bool) (n:Nat)
  |ins (C dx:Addr) (fs:List (Str×V))
  |own (x:Addr)
  |xd (fs:List (Str×V))
  |met (f x:Addr)
  |rng (lo hi:Int)
  |frz (o:Obj) (u:HO)
  |tbl (ps:Array Value)
  |ext (φ:Heap->Prop)
noncomputable abbrev Hp:=Addr->Option HO
noncomputable def upd(H:Hp)(a:Addr)(o:HO):Hp:=λb=>if b=a then some o else H b
theorem bI{H:Hp}{a:Addr}{o:HO} : upd H a o a=some o:=by unfold upd;rw[ZY rfl]
theorem bL{H:Hp}{a b:Addr}{o:HO}(h:b≠a):upd H a o b=H b:=by unfold upd;rw[ZZ h]
theorem tQ{H:Hp}{a:Addr}{o u:HO} : upd (upd H a o) a u=upd H a u:=by
 funext b;unfold upd;split<;>rfl
theorem d7{H:Hp}{a b:Addr}{o u:HO}(h:H a=some o)(h':H b=some u)(d:o≠u):a≠b:=by
 intro e;subst e;rw[h]at h';exact d (Option.some.inj h')
theorem bK{H:Hp}{a b:Addr}{o:HO}(h:H a=some o)(h':H b=none):a≠b:=by
 intro e;subst e;rw[h]at h';cases h'
section
variable(P:Program)(w:World)
noncomputable def cV(H:Hp)(h:Heap)(a:Addr):HO->Prop
 |.lst xs=>xs.length<=sizeLine/\∃(its:Ω)(n:Nat),Vals xs its/\h.get? a=some { cls:=.type "list",data:=.seq its.toArray n }
 |.tup xs=>xs.length<=sizeLine/\∃its:Ω,Vals xs its/\IsTup h a its.toArray
 |.dK kvs=>kvs.length<=sizeLine/\(a==sysModules)=false/\∃vs,KV kvs vs/\h.DictOf (fY P w) a vs
 |.set S n=>h.SetOf (intKind P w) a S n
 |.ins C dx fs=>H dx=some (.own a)/\fs.length<=1000/\dx≠a/\h.get? a=some (instObj C dx) /\
   ∃mA,h.Ns1 dx mA/\(∀f,qZ (fs.lookup f) (mA f))/\PySem.Within mA (fs.map (·.1))
 |.own _=>∃o,h.get? a=some o
 |.xd fs=>∃mA,h.Ns1 a mA/\∀f,qZ (fs.lookup f) (mA f)
 |.rng lo hi=>∃t u v,h.get? a=some { cls:=.type "range",data:=.fields #[.int lo t,.int hi u,.int 1 v] }
 |.frz o u=>h.get? a=some o/\cV H h a u
 |.tbl ps=>h.get? a=some { cls:=.none,data:=.fields ps }
 |.met f x=>h.get? a=some (methodObj (.ref f) (.ref x))
 |.ext φ=>φ h/\(∃o,h.get? a=some o)/\∀h1 h2:Heap,φ h1->(∀o,h1.get? a=some o->h2.get? a=some o)->φ h2
noncomputable def HOk(H:Hp)(h:Heap):Prop:=∀a o,H a=some o->cV P w H h a o
end
section
variable{P:Program}{w:World}{H H':Hp}{h h':Heap}{a:Addr}{o:HO}
theorem cV.lt(x:cV P w H h a o):a<h.objs.size:=by
 cases o with
 |lst xs=>obtain⟨_,_,_,_,e⟩:=x;exact aJ e
 |tup xs=>obtain⟨_,_,_,p⟩:=x;exact p.lt
 |dK kvs=>obtain⟨_,_,_,_,o,_,_,e,_⟩:=x;exact aJ e
 |set S n=>obtain⟨o,_,_,_,e,_⟩:=x;exact aJ e
 |ins C dx fs=>obtain⟨_,_,_,e,_⟩:=x;exact aJ e
 |own y=>obtain⟨_,e⟩:=x;exact aJ e
 |xd fs=>obtain⟨_,⟨_,_,_,e,_⟩,_⟩:=x;exact aJ e
 |rng lo hi=>obtain⟨_,_,_,e⟩:=x;exact aJ e
 |frz ob u=>obtain⟨e,_⟩:=x;exact aJ e
 |tbl ps=>exact aJ (show h.get? a=some _ from x)
 |met f y=>exact aJ (show h.get? a=some _ from x)
 |ext φ=>obtain⟨_,⟨_,e⟩,_⟩:=x;exact aJ e
theorem cV.stay(x:cV P w H h a o)(k:∀b u,(b=a\/H b=some (.own a))->h.get? b=some u->h'.get? b=some u)
 (ho:∀b,H b=some (.own a)->H' b=some (.own a))(ht:∀b xs,H b=some (.tup xs)->H' b=some (.tup xs)):cV P w H' h' a o:=by
 induction o with
 |lst xs=>obtain⟨z,its,n,r,e⟩:=x;exact⟨z,its,n,r,k _ _ (.inl rfl) e⟩
 |tup xs=>obtain⟨z,its,r,ob,e,c⟩:=x;exact⟨z,its,r,ob,k _ _ (.inl rfl) e,c⟩
 |dK kvs=>obtain⟨z,y,vs,r,ob,es,ep,e,c⟩:=x;exact⟨z,y,vs,r,ob,es,ep,k _ _ (.inl rfl) e,c⟩
 |set S n=>obtain⟨ob,es,ep,t,e,c⟩:=x;exact⟨ob,es,ep,t,k _ _ (.inl rfl) e,c⟩
 |ins C dx fs =>
  obtain⟨d,z,ne,e,mA,⟨od,es,ep,e2,c⟩,r⟩:=x;exact⟨ho _ d,z,ne,k _ _ (.inl rfl) e,mA,⟨od,es,ep,k _ _ (.inr d) e2,c⟩,r⟩
 |own y=>obtain⟨ob,e⟩:=x;exact⟨ob,k _ _ (.inl rfl) e⟩
 |xd fs=>obtain⟨mA,⟨od,es,ep,e,c⟩,r⟩:=x;exact⟨mA,⟨od,es,ep,k _ _ (.inl rfl) e,c⟩,r⟩
 |rng lo hi=>obtain⟨t,u,v,e⟩:=x;exact⟨t,u,v,k _ _ (.inl rfl) e⟩
 |frz ob u ih=>obtain⟨e,q⟩:=x;exact⟨k _ _ (.inl rfl) e,ih q⟩
 |tbl ps =>
  have e:h.get? a=some { cls:=.none,data:=.fields ps }:=x;show h'.get? a=some { cls:=.none,data:=.fields ps };exact k a _ (.inl rfl) e
 |met f y =>
  have e:h.get? a=some (methodObj (.ref f) (.ref y)):=x;show h'.get? a=some (methodObj (.ref f) (.ref y));exact k a _ (.inl rfl) e
 |ext φ=>obtain⟨p,⟨o,e⟩,st⟩:=x;exact⟨st _ _ p λo q=>k _ _ (.inl rfl) q,⟨o,k _ _ (.inl rfl) e⟩,st⟩
theorem HOk.lt(x:HOk P w H h)(e:H a=some o):a<h.objs.size:=(x a o e).lt
theorem HOk.fresh(x:HOk P w H h)(e:h.objs.size<=a):H a=none:=by
 cases q:H a with
 |none=>rfl
 |some u=>exact absurd (aR (x.lt q) e) (X1 _)
theorem HOk.kept(x:HOk P w H h)(k:∀b u,h.get? b=some u->h'.get? b=some u):HOk P w H h':=λa o e =>
 (x a o e).stay (λb u _ q=>k b u q) (λ_ q=>q) λ_ _ q=>q
theorem HOk.laid(x:HOk P w H h)(k:∀b u,h.get? b=some u->h'.get? b=some u)(hp:h.objs.size<=a)(new:cV P w (upd H a o) h' a o):HOk P w (upd H a o) h':=λb u e=>by
 have hn:=x.fresh hp;by_cases hb:b=a
 .subst hb;rw[bI]at e;cases e;exact new
 .rw[bL hb]at e;exact(x b u e).stay (λc v _ q=>k c v q) (λc q=>by rw[bL (bK q hn)];exact q) λc xs q=>by rw[bL (bK q hn)];exact q
end
noncomputable def Rd(H:Hp)(a:Addr)(u:HO):Prop:=H a=some u\/∃o,H a=some (.frz o u)
theorem Rd.of{H:Hp}{a:Addr}{u:HO}(h:H a=some u):Rd H a u:=.inl h
theorem Rd.ok{P:Program}{w:World}{H:Hp}{h:Heap}{a:Addr}{u:HO}(r:Rd H a u)(x:HOk P w H h):cV P w H h a u:=by
 rcases r with r|⟨o,r⟩
 .exact x a u r
 .obtain⟨_,q⟩:=x a _ r;exact q
noncomputable def Mut:Option HO->Prop
 |some (.lst _)=>True
 |some (.dK _)=>True
 |some (.set _ _)=>True
 |some (.ins _ _ _)=>True
 |some (.ext _)=>True
 |_=>False
section
variable{P:Program}{w:World}{H:Hp}{h h':Heap}{x e:Addr}{o':HO}
theorem HOk.write(ok:HOk P w H h)(mu:Mut (H x))(he:e=x\/H e=some (.own x))(k:∀b u,b≠e->h.get? b=some u->h'.get? b=some u)(heo:∃u,h'.get? e=some u)
 (new:cV P w (upd H x o') h' x o'):HOk P w (upd H x o') h':=λb u q=>by
 have nown:∀c y,H c=some (.own y)->c≠x:=λc y r z=>by subst z;rw[r]at mu;exact mu
 have ntup:∀c xs,H c=some (.tup xs)->c≠x:=λc xs r z=>by subst z;rw[r]at mu;exact mu
 by_cases hb:b=x
 .subst hb;rw[bI]at q;cases q;exact new
 .rw[bL hb]at q;by_cases hbe:b=e
  .have q':H b=some (.own x):=by
    rcases he with z|z
    .exact absurd (hbe.trans z) hb
    .rw[hbe];exact z
   rw[q]at q';cases q';obtain⟨v,hv⟩:=heo;exact⟨v,by rw[hbe];exact hv⟩
  .refine(ok b u q).stay (λc v hc r=>k c v ?_ r) (λc r=>by rw[bL (nown c b r)];exact r) λc xs r=>by rw[bL (ntup c xs r)];exact r
   rcases hc with rfl|hc
   .exact hbe
   .rintro rfl;rcases he with z|z
    .exact nown c b hc z
    .rw[hc]at z;cases z;exact hb rfl
end
structure Un(fs ex:Β)(H H':Hp)(h h':Heap):Prop where
 keep:∀b o,h.get? b=some o->H b=none->b∉fs->b∉ex->h'.get? b=some o
 slot:∀b o,h.get? b=some o->H b=none->b∈fs->b∉ex->∃sl,h'.get? b=some { o with slots:=sl }
 free:∀b o,h.get? b=some o->H b=none->b∉ex->H' b=none
 there:∀b o,h.get? b=some o->b∉ex->∃o',h'.get? b=some o'
 tups:∀b xs,H b=some (.tup xs)->H' b=some (.tup xs)
 frzs:∀b o u,H b=some (.frz o u)->H' b=some (.frz o u)
 tbls:∀b ps,H b=some (.tbl ps)->∃more,H' b=some (.tbl (ps++more))
section
variable{fs fs' ex ex':Β}{H H1 H2:Hp}{h h1 h2 h':Heap}{a x e:Addr}{o:HO}
theorem Un.any(u:Un fs ex H H1 h h1){b:Addr}{ob:Obj}(q:h.get? b=some ob)(n:H b=none)(hx:b∉ex):∃sl,h1.get? b=some { ob with slots:=sl }:=by
 by_cases hb:b∈fs
 .exact u.slot b ob q n hb hx
 .exact⟨ob.slots,u.keep b ob q n hb hx⟩
theorem Un.kept(k:∀b u,h.get? b=some u->h'.get? b=some u):Un fs ex H H h h' :=
 ⟨λb ob q _ _ _=>k b ob q,λb ob q _ _ _=>⟨ob.slots,k b ob q⟩,λ_ _ _ n _=>n,λb ob q _=>⟨ob,k b ob q⟩,λ_ _ q=>q,λ_ _ _ q=>q,λ_ ps q=>⟨#[],by rw[q];simp⟩⟩
theorem Un.refl:Un fs ex H H h h:=Un.kept λ_ _ q=>q
theorem Un.laid(k:∀b u,h.get? b=some u->h'.get? b=some u)(hp:h.objs.size<=a)(hn:H a=none):Un fs ex H (upd H a o) h h' where
 keep:=λb u q _ _ _=>k b u q
 slot:=λb u q _ _ _=>⟨u.slots,k b u q⟩
 free:=λb u q n _=>by rw[bL (aQ (aR (aJ q) hp))];exact n
 there:=λb u q _=>⟨u,k b u q⟩
 tups:=λb xs q=>by rw[bL (bK q hn)];exact q
 frzs:=λb u xs q=>by rw[bL (bK q hn)];exact q
 tbls:=λb ps q=>⟨#[],by rw[bL (bK q hn),q];simp⟩
theorem Un.write(mu:Mut (H x))(he:e=x\/H e=some (.own x))(k:∀b u,b≠e->h.get? b=some u->h'.get? b=some u)(heo:∃u,h'.get? e=some u):Un fs ex H (upd H x o) h h':=by
 have hx:∀b,H b=none->b≠x:=λb n z=>by subst z;rw[n]at mu;exact mu
 have hb:∀b,H b=none->b≠e:=λb n z=>by
  subst z;rcases he with r|r
  .exact hx b n r
  .rw[n]at r;cases r
 have hm:∀b u,H b=some u->¬Mut (some u)->b≠x:=λb u q nm z=>by subst z;rw[q]at mu;exact nm mu
 refine⟨λb u q n _ _=>k b u (hb b n) q,λb u q n _ _=>⟨u.slots,k b u (hb b n) q⟩,λb u q n _=>by rw[bL (hx b n)];exact n,λb u q _=>?_,
  λb xs q=>by rw[bL (hm b _ q λz=>z)];exact q,λb u xs q=>by rw[bL (hm b _ q λz=>z)];exact q,λb ps q=>⟨#[],by rw[bL (hm b _ q λz=>z),q];simp⟩⟩
 by_cases hbe:b=e
 .subst hbe;exact heo
 .exact⟨u,k b u hbe q⟩
end
noncomputable def trk(h:Heap)(H:Hp):Β:=(List.range h.objs.size).filter λa=>(H a).isSome
noncomputable def G3(h:Heap)(H:Hp):Heap:=hideAll h (trk h H)
theorem Qe(h:Heap)(H:Hp):(G3 h H).objs.size=h.objs.size:=PySem.W.hideAll_size _ _
theorem Ux{h:Heap}{H:Hp}{b:Addr}{o:Obj}(e:h.get? b=some o)(n:H b=none):(G3 h H).get? b=some o :=
 hideAll_get _ e λhm=>by
  have q:(H b).isSome=true:=(List.mem_filter.mp hm).2;rw[n]at q;simp at q
theorem WT{h:Heap}{H:Hp}{b:Addr}{o:Obj}(e:(G3 h H).get? b=some o):h.get? b=some o/\H b=none:=by
 have e':h.get? b=some o:=of_hideAll (trk h H) e;refine⟨e',?_⟩;cases q:H b with
 |none=>rfl
 |some x =>
  have hm:b∈trk h H:=List.mem_filter.mpr ⟨List.mem_range.mpr (aJ e'),by simp[q]⟩;have z:(G3 h H).get? b=none:=PySem.W.hideAll_none (trk h H) hm;rw[z]at e;cases e
noncomputable def Xj(g h:Heap)(L:Addr):Ψ:=(List.range h.objs.size).filterMap λa=>if a=L\/(g.get? a).isSome=true then none else(h.get? a).map λo=>(a,o)
noncomputable def rest(g h:Heap)(L d:Addr):Ψ:=(Xj g h L).filter λp=>decide (p.1≠d)
structure Mod(K:Frag)(mg:Str->Ε)(base:Heap):Prop where
 kin:K.In base
 glob:base.Ns mainGlobals mg
 blt:∃mb,base.Ns builtinsNs mb/\∀x:Str,x ≠ "__name__" -> mb x=bootBuiltins x
 nolimit:base.NoLimit
structure Cx where
 prog:Program
 w:World
 K:Frag
 mg:Str->Ε
 base:Heap
 A:Around
 N:Ξ
 s₀:Shared
 H₀:Hp
 env:Env
 outer:List Env
 stack:List Env
 ex:Β
 fn:Str->Bool
 calm:Bool
 pn:Ψ
 xe:Ι
noncomputable def frs(l:List Env):Β:=l.filterMap (·.frame)
noncomputable abbrev Cx.fs(X:Cx):Β:=frs X.outer
noncomputable def Vis(sc:Scope)(x:Str):Prop:=sc.names.lookup x=some .local\/sc.names.lookup x=some .cell\/sc.names.lookup x=some .free
noncomputable def Loc(sc:Scope)(x:Str):Prop:=sc.names.lookup x=some .local\/sc.names.lookup x=some .cell
noncomputable def Look(env:Env)(h:Heap)(m:Str->Ε)(x:Str)(u:Value):Prop :=
 (env.kindOf x=some .local/\m x=some u)\/((env.kindOf x=some .cell\/env.kindOf x=some .free)/\∃c,env.cells.lookup x=some c/\h.IsCell c (some u))
structure Cx.Ok(X:Cx):Prop where
 mod:Mod X.K X.mg X.base
 kind:X.env.scope.kind=.function
 glob:X.env.globals=mainGlobals
 blt:X.env.builtins=builtinsNs
 above:X.s₀.heap.objs.size<=X.env.locals
 inj:∀x y c,X.env.cells.lookup x=some c->X.env.cells.lookup y=some c->x=y
 has:∀x,(X.env.kindOf x=some .cell\/X.env.kindOf x=some .free)->∃c,X.env.cells.lookup x=some c
 cab:∀x c,X.fn x=true->X.env.cells.lookup x=some c->X.s₀.heap.objs.size<=c
 hd:X.calm=true->X.A.handled=none
 frames:X.A.frames=some X.stack
 stk:X.stack=X.outer\/(X.stack=X.env::X.outer/\X.env.frame=some X.env.locals)
 exf:∀b∈X.ex,b≠X.env.locals/\∀x c,X.env.cells.lookup x=some c->c≠b
 bs:∀b o,X.base.get? b=some o->X.s₀.heap.get? b=some o/\X.H₀ b=none
 bsz:X.base.objs.size<=X.s₀.heap.objs.size
 noex:∀b o,X.base.get? b=some o->b∉X.ex
 exfs:∀b∈X.ex,b∉X.fs
 funs:X.s₀.heap.FunFrames X.base X.outer
 frf:∀b∈X.fs,X.H₀ b=none
structure Inv(X:Cx)(pins:Ψ)(σ:List (Option V))(H:Hp)(s:Shared):Prop where
 ok:X.Ok
 os:s.os=X.s₀.os
 bare:AllBare s.gens
 base:Un X.fs X.ex X.H₀ H X.s₀.heap s.heap
 loc:∃m,s.heap.Ns X.env.locals m/\∀(i:Nat)(x:Str)(v:V),X.N[i]?=some x->σ[i]?=some (some v)->Vis X.env.scope x->∃u,RelV v u/\Look X.env s.heap m x u
 cell:∀x c,X.env.cells.lookup x=some c->∃v,s.heap.IsCell c v
 free:H X.env.locals=none
 freeC:∀x c,X.env.cells.lookup x=some c->H c=none
 pin:∀p∈X.pn++pins,s.heap.get? p.1=some p.2/\H p.1=none/\p.1≠X.env.locals/\p.1∉X.fs/\∀v,p.2.data≠.cell v
 hok:HOk X.prog X.w H s.heap
 len:σ.length=X.N.length
section
variable{X:Cx}{pins:Ψ}{σ:List (Option V)}{H H':Hp}{s:Shared}{h':Heap}
theorem Cx.Ok.nofr(ok:X.Ok){b:Addr}{o:Obj}(e:X.base.get? b=some o):b∉X.fs:=λhb=>by
 have:=(ok.funs.mem hb).1;rw[e]at this;cases this
theorem Inv.bs(I:Inv X pins σ H s):∀b o,X.base.get? b=some o->s.heap.get? b=some o/\H b=none:=λb o e =>
 ⟨I.base.keep b o (I.ok.bs b o e).1 (I.ok.bs b o e).2 (I.ok.nofr e) (I.ok.noex b o e),I.base.free b o (I.ok.bs b o e).1 (I.ok.bs b o e).2 (I.ok.noex b o e)⟩
theorem Inv.bk(I:Inv X pins σ H s):∀b o,X.base.get? b=some o->s.heap.get? b=some o:=λb o e=>(I.bs b o e).1
theorem Inv.mod(I:Inv X pins σ H s):Mod X.K X.mg X.base:=I.ok.mod
theorem Inv.kIn(I:Inv X pins σ H s):X.K.In s.heap:=I.ok.mod.kin.keeps I.bk
theorem Inv.fr(I:Inv X pins σ H s):∃m,Fr X.base X.env.locals s.heap m :=
 let⟨m,hn,_⟩:=I.loc
 ⟨m,hn,I.bk,aL I.ok.bsz I.ok.above⟩
theorem Inv.lt(I:Inv X pins σ H s):X.env.locals<s.heap.objs.size:=by obtain⟨_,hn,_⟩:=I.loc;exact hn.lt
theorem Inv.sz(I:Inv X pins σ H s):X.s₀.heap.objs.size<=s.heap.objs.size:=aL I.ok.above (Y2 I.lt)
theorem Inv.nofs(I:Inv X pins σ H s){a:Addr}(h:s.heap.objs.size<=a):a∉X.fs:=λhb=>by
 obtain⟨_,o,ho,_⟩:=I.ok.funs.mem hb;exact absurd (aR (aJ ho) (aL I.sz h)) (X1 _)
theorem Inv.cne(I:Inv X pins σ H s):∀x c,X.env.cells.lookup x=some c->c≠X.env.locals:=λx c e z=>by
 obtain⟨v,o,ho,hd⟩:=I.cell x c e;obtain⟨m,⟨o',es,ep,ho',hd',_⟩,_⟩:=I.loc;rw[z,ho']at ho;cases ho;rw[hd']at hd;cases hd
theorem Inv.funs(I:Inv X pins σ H s):s.heap.FunFrames X.base X.outer:=by
 have all:∀(l:List Env),(∀b∈frs l,b∈X.fs)->X.s₀.heap.FunFrames X.base l->s.heap.FunFrames X.base l:=by
  intro l
  induction l with
  |nil=>intro _ _;trivial
  |cons env r ih =>
   intro hs hl;obtain⟨hk,⟨L,o,hf,hn,ho,hd⟩,hr⟩:=hl;have hL:L∈X.fs:=hs L (by unfold frs;rw[List.filterMap_cons,hf];exact aN);obtain⟨sl,e⟩:=I.base.slot L o ho (I.ok.frf L hL) hL λz=>I.ok.exfs L z hL;exact⟨hk,⟨L,_,hf,hn,e,hd⟩,ih (λb hb=>hs b (by unfold frs;rw[List.filterMap_cons,hf];exact aH _ hb)) hr⟩
 exact all X.outer (λ_ hb=>hb) I.ok.funs
theorem Inv.stack(I:Inv X pins σ H s):s.heap.FunFrames X.base X.stack:=by
 rcases I.ok.stk with e|⟨e,hf⟩
 .rw[e];exact I.funs
 .rw[e];obtain⟨m,hn,_⟩:=I.loc;refine .cons (by rw[I.ok.kind];decide) hf hn ?_ I.funs;exact Heap.get?_none_of_le (aL I.ok.bsz I.ok.above)
theorem Inv.stkSub(I:Inv X pins σ H s):∀b∈frs X.stack,b∈X.env.locals::X.fs:=λb hb=>by
 rcases I.ok.stk with e|⟨e,hf⟩
 .rw[e]at hb;exact aH _ hb
 .rw[e]at hb;unfold frs at hb;rw[List.filterMap_cons,hf]at hb;exact hb
theorem Inv.stkFree(I:Inv X pins σ H s):∀b∈frs X.stack,H b=none:=λb hb=>by
 rcases YU.mp (I.stkSub b hb)with e|hb
 .rw[e];exact I.free
 .obtain⟨_,o,ho,_⟩:=I.ok.funs.mem hb;exact I.base.free b o ho (I.ok.frf b hb) λz=>I.ok.exfs b z hb
theorem Inv.step{g':Array GenState}{t':Nat}{d':Drawn}{ch:Β}(I:Inv X pins σ H s)
 (hch:∀b∈ch,(b∈X.ex\/X.s₀.heap.objs.size<=b)/\b≠X.env.locals/\(∀x c,X.env.cells.lookup x=some c->c≠b)/\∀p∈X.pn++pins,p.1≠b)
 (keep:∀b o,b≠X.env.locals->b∉X.fs->b∉ch->s.heap.get? b=some o->H b=none->h'.get? b=some o)
 (slot:∀b o,b≠X.env.locals->b∈X.fs->b∉ch->s.heap.get? b=some o->H b=none->∃sl,h'.get? b=some { o with slots:=sl })(free:∀b o,b∉ch->s.heap.get? b=some o->H b=none->H' b=none)
 (there:∀b o,b∉ch->s.heap.get? b=some o->∃o',h'.get? b=some o')
 (tups:∀b xs,H b=some (.tup xs)->H' b=some (.tup xs))(frzs:∀b o u,H b=some (.frz o u)->H' b=some (.frz o u))(tbls:∀b ps,H b=some (.tbl ps)->∃more,H' b=some (.tbl (ps++more)))
 (ns:∀m,s.heap.Ns X.env.locals m->h'.Ns X.env.locals m)(hok:HOk X.prog X.w H' h')(hg:AllBare g') :
  Inv X pins σ H' { s with heap:=h',gens:=g',drawn:=d',toks:=t' }:=by
 have neL:∀b o,X.s₀.heap.get? b=some o->b≠X.env.locals:=λb o e=>aQ (aR (aJ e) I.ok.above);have neC:∀b o,X.s₀.heap.get? b=some o->b∉X.ex->b∉ch:=λb o e hx hb=>by
  rcases(hch b hb).1 with z|z
  .exact hx z
  .exact absurd (aR (aJ e) z) (X1 _)
 have cellK:∀x c,X.env.cells.lookup x=some c->∀v,s.heap.IsCell c v->h'.IsCell c v:=λx c e v ⟨o,ho,hd⟩=>by
  have nch:c∉ch:=λz=>(hch c z).2.2.1 x c e rfl;by_cases hc:c∈X.fs
  .obtain⟨sl,q⟩:=slot c o (I.cne x c e) hc nch ho (I.freeC x c e);exact⟨_,q,hd⟩
  .exact⟨o,keep c o (I.cne x c e) hc nch ho (I.freeC x c e),hd⟩
 refine⟨I.ok,I.os,hg,⟨λb o e n hb hx=>?_,λb o e n hb hx=>?_,λb o e n hx=>?_,λb o e hx=>?_,λb xs e=>tups b xs (I.base.tups b xs e),λb o xs e=>frzs b o xs (I.base.frzs b o xs e),λb ps e=>?_⟩,?_,λx c e=>?_,?_,λx c e=>?_,λp hp=>?_,hok,I.len⟩
 .exact keep b o (neL b o e) hb (neC b o e hx) (I.base.keep b o e n hb hx) (I.base.free b o e n hx)
 .obtain⟨sl,e1⟩:=I.base.slot b o e n hb hx;obtain⟨sl',e2⟩:=slot b _ (neL b o e) hb (neC b o e hx) e1 (I.base.free b o e n hx);exact⟨sl',e2⟩
 .obtain⟨o',e1⟩:=I.base.there b o e hx;exact free b o' (neC b o e hx) e1 (I.base.free b o e n hx)
 .obtain⟨o',e1⟩:=I.base.there b o e hx;exact there b o' (neC b o e hx) e1
 .obtain⟨m1,e1⟩:=I.base.tbls b ps e;obtain⟨m2,e2⟩:=tbls b _ e1;exact⟨m1++m2,by rw[e2,Array.append_assoc]⟩
 .obtain⟨m,hn,hl⟩:=I.loc;refine⟨m,ns m hn,λi x v e1 e2 e3=>?_⟩;obtain⟨u,r,l⟩:=hl i x v e1 e2 e3;refine⟨u,r,?_⟩;rcases l with l|⟨k,c,e,z⟩
  .exact .inl l
  .exact .inr ⟨k,c,e,cellK x c e _ z⟩
 .obtain⟨v,z⟩:=I.cell x c e;exact⟨v,cellK x c e v z⟩
 .obtain⟨m,⟨o,_,_,ho,_⟩,_⟩:=I.loc;exact free _ o (λz=>(hch _ z).2.1 rfl) ho I.free
 .obtain⟨v,o,ho,hd⟩:=I.cell x c e;exact free c o (λz=>(hch c z).2.2.1 x c e rfl) ho (I.freeC x c e)
 .obtain⟨e,n,ne,nf,d⟩:=I.pin p hp;have nch:p.1∉ch:=λz=>(hch p.1 z).2.2.2 p hp rfl;exact⟨keep p.1 p.2 ne nf nch e n,free p.1 p.2 nch e n,ne,nf,d⟩
theorem Inv.un{t':Nat}(I:Inv X pins σ H s)(u:Un X.fs [] H H' s.heap h')(hok:HOk X.prog X.w H' h'):Inv X pins σ H' { s with heap:=h',toks:=t' }:=by
 obtain⟨m,⟨o,es,ep,ho,r⟩,_⟩:=id I.loc;obtain⟨sl,hL⟩:=u.any ho I.free (by simp);exact I.step (g':=s.gens) (d':=s.drawn) (ch:=[]) (λ_ z=>nomatch z) (λb o _ hb _ e n=>u.keep b o e n hb (by simp)) (λb o _ hb _ e n=>u.slot b o e n hb (by simp)) (λb o _ e n=>u.free b o e n (by simp)) (λb o _ e=>u.there b o e (by simp)) u.tups u.frzs u.tbls (λm' hm=>by
  obtain⟨o',es',ep',ho',r'⟩:=hm;rw[ho]at ho';cases ho';exact⟨_,es',ep',hL,r'⟩) hok I.bare
theorem Inv.call{g':Array GenState}{t':Nat}{d':Drawn}{ch:Β}(I:Inv X pins σ H s)(u:Un (frs X.stack) ch H H' s.heap h')(hok:HOk X.prog X.w H' h')(hg:AllBare g')
 (hch:∀b∈ch,(b∈X.ex\/X.s₀.heap.objs.size<=b)/\b≠X.env.locals/\(∀x c,X.env.cells.lookup x=some c->c≠b)/\∀p∈X.pn++pins,p.1≠b) :
  Inv X pins σ H' { s with heap:=h',gens:=g',drawn:=d',toks:=t' }:=by
 obtain⟨m,⟨o,es,ep,ho,r⟩,_⟩:=id I.loc;obtain⟨sl,hL⟩:=u.any ho I.free λz=>(hch _ z).2.1 rfl;exact I.step (ch:=ch) hch (λb o hL hb hc e n=>u.keep b o e n (λz=>(YU.mp (I.stkSub b z)).elim hL hb) hc) (λb o _ _ hc e n=>u.any e n hc) (λb o hc e n=>u.free b o e n hc) (λb o hc e=>u.there b o e hc) u.tups u.frzs u.tbls (λm' hm=>by
  obtain⟨o',es',ep',ho',r'⟩:=hm;rw[ho]at ho';cases ho';exact⟨_,es',ep',hL,r'⟩) hok hg
theorem Inv.turned{t':Nat}{it:Addr}(I:Inv X pins σ H s)(k:∀b o,b≠it->s.heap.get? b=some o->h'.get? b=some o)(hn:H it=none)(hL:it≠X.env.locals)
 (h1:it∈X.ex\/X.s₀.heap.objs.size<=it)(h2:∀x c,X.env.cells.lookup x=some c->c≠it)(h3:∀p∈X.pn++pins,p.1≠it):Inv X pins σ H { s with heap:=h',toks:=t' }:=by
 have nit:∀b u,H b=some u->b≠it:=λb u e z=>by rw[z,hn]at e;cases e
 refine I.step (g':=s.gens) (d':=s.drawn) (ch:=[it]) (λb hb=>?_) (λb o _ _ hc e _=>k b o (λz=>hc (by simp[z])) e) (λb o _ _ hc e _=>⟨o.slots,k b o (λz=>hc (by simp[z])) e⟩) (λ_ _ _ _ n=>n)
  (λb o hc e=>⟨o,k b o (λz=>hc (by simp[z])) e⟩) (λ_ _ e=>e) (λ_ _ _ e=>e) (λb ps e=>⟨#[],by rw[e];simp⟩) (λm hm=>?_) (λb u e=>?_) I.bare
 .have e:b=it:=by simpa using hb
  subst e;exact⟨h1,hL,h2,h3⟩
 .obtain⟨o,es,ep,ho,r⟩:=hm;exact⟨o,es,ep,k _ o (Ne.symm hL) ho,r⟩
 .refine(I.hok b u e).stay (λc v hc q=>k c v ?_ q) (λ_ q=>q) λ_ _ q=>q;rcases hc with z|z
  .rw[z];exact nit b u e
  .exact nit c _ z
theorem Inv.tok(I:Inv X pins σ H s)(t:Nat):Inv X pins σ H { s with toks:=t }:=I.un (h':=s.heap) (t':=t) Un.refl I.hok
theorem Inv.kept{t':Nat}(I:Inv X pins σ H s)(k:∀b u,s.heap.get? b=some u->h'.get? b=some u):Inv X pins σ H { s with heap:=h',toks:=t' }:=I.un (Un.kept k) (I.hok.kept k)
theorem Inv.laid{a:Addr}{o:HO}{t':Nat}(I:Inv X pins σ H s)(k:∀b u,s.heap.get? b=some u->h'.get? b=some u)(hp:s.heap.objs.size<=a)(new:cV X.prog X.w (upd H a o) h' a o) :
  Inv X pins σ (upd H a o) { s with heap:=h',toks:=t' }:=I.un (Un.laid k hp (I.hok.fresh hp)) (I.hok.laid k hp new)
theorem Inv.write{x e:Addr}{o:HO}{t':Nat}(I:Inv X pins σ H s)(mu:Mut (H x))(he:e=x\/H e=some (.own x))(k:∀b u,b≠e->s.heap.get? b=some u->h'.get? b=some u)(heo:∃u,h'.get? e=some u)
 (new:cV X.prog X.w (upd H x o) h' x o):Inv X pins σ (upd H x o) { s with heap:=h',toks:=t' }:=I.un (Un.write mu he k heo) (I.hok.write mu he k heo new)
theorem Inv.pins_of{pins':Ψ}(I:Inv X pins σ H s)(h:∀p∈pins',s.heap.get? p.1=some p.2/\H p.1=none/\p.1≠X.env.locals/\p.1∉X.fs/\∀v,p.2.data≠.cell v):Inv X pins' σ H s :=
 ⟨I.ok,I.os,I.bare,I.base,I.loc,I.cell,I.free,I.freeC,λp hp=>(Y1.mp hp).elim (λz=>I.pin p (List.mem_append_left _ z)) (h p),I.hok,I.len⟩
theorem pH{N:Ξ}(hN:N.Nodup){i j:Nat}{x:Str}(a:N[i]?=some x)(b:N[j]?=some x):i=j:=by
 obtain⟨h1,e1⟩:=ao.mp a;obtain⟨h2,e2⟩:=ao.mp b;exact(List.getElem_inj hN).mp (e1.trans e2.symm)
theorem PN{M:Model}{A:Around}{E:Ι}{i:Nat}{x:Str}{v:V}{u:Value}{Q:Unit->Shared->Prop}(I:Inv X pins σ H s)(hN:X.N.Nodup)(hi:X.N[i]?=some x)(hx:Loc X.env.scope x)(r:RelV v u)
 (h:∀s',Inv X pins (σ.set i (some v)) H s'->(∃a,Heap.SameBut a s.heap s'.heap/\(a=X.env.locals\/X.env.cells.lookup x=some a))->Q () s')(hf:X.fn x=true\/X.env.scope.names.lookup x=some .local):wpAny M A (storeName X.env x u) Q E s:=by
 obtain⟨m,hn,hl⟩:=id I.loc;have hcls:(X.env.scope.kind == .class || (X.env.scope.kind == .module&&X.env.locals != X.env.globals))=false:=by rw[I.ok.kind];rfl
 have hiσ:i<σ.length:=by rw[I.len];exact(ao.mp hi).1
 have cne:=I.cne;have tracked:∀{a:Addr}{h':Heap},(∃o,s.heap.get? a=some o/\H a=none)->Heap.SameBut a s.heap h'->HOk X.prog X.w H h':=λ{a h'}ha hs b ob e=>by
  obtain⟨_,_,hfree⟩:=ha;refine(I.hok b ob e).stay (λc w' hc q=>(hs.2 c ?_).trans q) (λ_ q=>q) λ_ _ q=>q;rintro rfl;rcases hc with rfl|hc
  .rw[hfree]at e;cases e
  .rw[hfree]at hc;cases hc
 rcases hx with hk|hk
 .refine wpAny_storeName_local hk hn (λh' hn' hs=>?_) hcls;obtain⟨oL,_,_,hoL,_⟩:=id hn;refine h _ ⟨I.ok,I.os,I.bare,⟨λb o e n hb hx=>?_,λb o e n hb hx=>?_,I.base.free,λb o e hx=>?_,I.base.tups,I.base.frzs,I.base.tbls⟩,⟨_,hn',λj y v' e1 e2 e3=>?_⟩,λy c e=>?_,I.free,I.freeC,λp hp=>?_,tracked ⟨oL,hoL,I.free⟩ hs,by simpa using I.len⟩ ⟨_,hs,.inl rfl⟩
  .exact(hs.2 b (aQ (aR (aJ e) I.ok.above))).trans (I.base.keep b o e n hb hx)
  .obtain⟨sl,e1⟩:=I.base.slot b o e n hb hx;exact⟨sl,(hs.2 b (aQ (aR (aJ e) I.ok.above))).trans e1⟩
  .obtain⟨o',e1⟩:=I.base.there b o e hx;exact⟨o',(hs.2 b (aQ (aR (aJ e) I.ok.above))).trans e1⟩
  .by_cases hj:j=i
   .subst hj;rw[hi]at e1;cases e1;rw[List.getElem?_set_self hiσ]at e2;cases e2;exact⟨u,r,.inl ⟨hk,by simp⟩⟩
   .rw[List.getElem?_set_ne (Ne.symm hj)]at e2;obtain⟨u',r',q⟩:=hl j y v' e1 e2 e3;refine⟨u',r',?_⟩;rcases q with⟨k,e⟩|⟨k,c,e,z⟩
    .refine .inl ⟨k,?_⟩;have:y≠x:=λe=>hj (pH hN e1 (e ▸ hi));simp[this,e]
    .exact .inr ⟨k,c,e,z.sameBut hs (cne y c e)⟩
  .obtain⟨w',z⟩:=I.cell y c e;exact⟨w',z.sameBut hs (cne y c e)⟩
  .obtain⟨e,n,ne,nf,d⟩:=I.pin p hp;exact⟨(hs.2 p.1 ne).trans e,n,ne,nf,d⟩
 .have hfn:X.fn x=true:=by
   rcases hf with z|z
   .exact z
   .rw[z]at hk;cases hk
  obtain⟨c,hc⟩:=I.ok.has x (.inl hk);obtain⟨w',z⟩:=I.cell x c hc;refine wpAny_storeName_cell I.ok.kind hk hc z (λh' hc' hs=>?_);obtain⟨oc,hoc,hocd⟩:=id z;refine h { s with heap:=h' } ⟨I.ok,I.os,I.bare,⟨λb o e n hb hx=>?_,λb o e n hb hx=>?_,I.base.free,λb o e hx=>?_,I.base.tups,I.base.frzs,I.base.tbls⟩,⟨m,hn.sameBut hs (Ne.symm (cne x c hc)),λj y v' e1 e2 e3=>?_⟩,λy c' e=>?_,I.free,I.freeC,λp hp=>?_,tracked ⟨oc,hoc,I.freeC x c hc⟩ hs,by simpa using I.len⟩ ⟨c,hs,.inr hc⟩
  .exact(hs.2 b (aQ (aR (aJ e) (I.ok.cab x c hfn hc)))).trans (I.base.keep b o e n hb hx)
  .obtain⟨sl,e1⟩:=I.base.slot b o e n hb hx;exact⟨sl,(hs.2 b (aQ (aR (aJ e) (I.ok.cab x c hfn hc)))).trans e1⟩
  .obtain⟨o',e1⟩:=I.base.there b o e hx;exact⟨o',(hs.2 b (aQ (aR (aJ e) (I.ok.cab x c hfn hc)))).trans e1⟩
  .by_cases hj:j=i
   .subst hj;rw[hi]at e1;cases e1;rw[List.getElem?_set_self hiσ]at e2;cases e2;exact⟨u,r,.inr ⟨.inl hk,c,hc,hc'⟩⟩
   .rw[List.getElem?_set_ne (Ne.symm hj)]at e2;obtain⟨u',r',q⟩:=hl j y v' e1 e2 e3;refine⟨u',r',?_⟩;rcases q with q|⟨k,c',e,z'⟩
    .exact .inl q
    .refine .inr ⟨k,c',e,z'.sameBut hs ?_⟩;rintro rfl;exact hj (pH hN e1 (I.ok.inj _ _ _ e hc ▸ hi))
  .by_cases hcc:c'=c
   .subst hcc;exact⟨_,hc'⟩
   .obtain⟨w2,z2⟩:=I.cell y c' e;exact⟨w2,z2.sameBut hs hcc⟩
  .obtain⟨e,n,ne,nf,d⟩:=I.pin p hp;refine⟨(hs.2 p.1 ?_).trans e,n,ne,nf,d⟩;intro q;rw[q,hoc]at e;have q':oc=p.2:=Option.some.inj e;exact d w' (by rw[<- q'];exact hocd)
theorem qO{M:Model}{A:Around}{E:Ι}{i:Nat}{x:Str}{v:V}{u:Value}{Q:Unit->Shared->Prop}(I:Inv X pins σ H s)(hN:X.N.Nodup)(hi:X.N[i]?=some x)(hx:Loc X.env.scope x)(r:RelV v u)
 (h:∀s',Inv X pins (σ.set i (some v)) H s'->Q () s')(hf:X.fn x=true\/X.env.scope.names.lookup x=some .local:=by first|exact .inl rfl|exact .inr rfl|assumption):wpAny M A (storeName X.env x u) Q E s :=
 PN I hN hi hx r (λs' I' _=>h s' I') hf
theorem Inv.call'{s':Shared}{ch:Β}(I:Inv X pins σ H s)(ho:s'.os=s.os)(u:Un (frs X.stack) ch H H' s.heap s'.heap)(hok:HOk X.prog X.w H' s'.heap)(hg:AllBare s'.gens)
 (hch:∀b∈ch,(b∈X.ex\/X.s₀.heap.objs.size<=b)/\b≠X.env.locals/\(∀x c,X.env.cells.lookup x=some c->c≠b)/\∀p∈X.pn++pins,p.1≠b):Inv X pins σ H' s':=by
 obtain⟨h',g',d',t',o'⟩:=s';have e:o'=s.os:=ho;subst e;exact I.call (g':=g') (t':=t') (d':=d') u hok hg hch
end
noncomputable abbrev XK:=Value->Ζ->Hp->Prop
noncomputable abbrev St:=List (Option V)
noncomputable abbrev VK:=V->Hp->Prop
noncomputable abbrev TE:=St->Hp->VK->Prop
noncomputable abbrev TT:=St->Hp->(Bool->Hp->Prop)->Prop
noncomputable abbrev TA:=St->Hp->(Κ->Hp->Prop)->Prop
structure Ends where
 nx:St->Hp->Prop
 rt:VK
 bk:St->Hp->Prop:=λ_ _=>False
 ct:St->Hp->Prop:=λ_ _=>False
noncomputable abbrev TS:=Ends->St->Hp->Prop
noncomputable def EP(X:Cx)(pins:Ψ)(σ:St)(Q:VK)(u:Value)(s':Shared):Prop:=∃v H',Inv X pins σ H' s'/\RelV v u/\Q v H'
noncomputable def TP(X:Cx)(pins:Ψ)(σ:St)(Q:Bool->Hp->Prop)(b:Bool)(s':Shared):Prop:=∃H',Inv X pins σ H' s'/\Q b H'
noncomputable def AP(X:Cx)(pins:Ψ)(σ:St)(Q:Κ->Hp->Prop)(us:Ω)(s':Shared):Prop:=∃vs H',Inv X pins σ H' s'/\Vals vs us/\Q vs H'
noncomputable def SP(X:Cx)(pins:Ψ)(D:Ends)(f:Flow)(s':Shared):Prop :=
 match f with
 |.next=>∃σ' H',Inv X pins σ' H' s'/\D.nx σ' H'
 |.brk=>∃σ' H',Inv X pins σ' H' s'/\D.bk σ' H'
 |.cont=>∃σ' H',Inv X pins σ' H' s'/\D.ct σ' H'
 |.ret u=>∃v σ' H',Inv X pins σ' H' s'/\RelV v u/\D.rt v H'
noncomputable def PE(X:Cx)(e:Expr)(t:TE):Prop :=
 ∀(pins:Ψ)(s:Shared)(σ:St)(H:Hp)(Q:VK),Inv X pins σ H s->t σ H Q->wpAny (model X.prog X.w) X.A (eval e X.env) (EP X pins σ Q) X.xe s
noncomputable def PT(X:Cx)(e:Expr)(t:TT):Prop :=
 ∀(pins:Ψ)(s:Shared)(σ:St)(H:Hp)(Q:Bool->Hp->Prop),Inv X pins σ H s->t σ H Q->wpAny (model X.prog X.w) X.A (isTrue e X.env (eval e X.env)) (TP X pins σ Q) X.xe s
noncomputable def PW(X:Cx)(e:Expr)(t:TT):Prop :=
 ∀(whole:Sem Value)(pins:Ψ)(s:Shared)(σ:St)(H:Hp)(Q:Bool->Hp->Prop),Inv X pins σ H s->t σ H Q->wpAny (model X.prog X.w) X.A (isTrue e X.env whole) (TP X pins σ Q) X.xe s
theorem PW.pt{X:Cx}{e:Expr}{t:TT}(h:PW X e t):PT X e t:=h _
noncomputable def PA(X:Cx)(es:List Expr)(t:TA):Prop :=
 ∀(pos:Pos)(pins:Ψ)(s:Shared)(σ:St)(H:Hp)(Q:Κ->Hp->Prop),Inv X pins σ H s->t σ H Q->wpAny (model X.prog X.w) X.A (spliced (backTo pos (starEach es X.env))) (AP X pins σ Q) X.xe s
noncomputable def PS(X:Cx)(st:Stmt)(t:TS):Prop :=
 ∀(pins:Ψ)(s:Shared)(σ:St)(H:Hp)(D:Ends),Inv X pins σ H s->t D σ H->wpAny (model X.prog X.w) X.A (exec st X.env) (SP X pins D) X.xe s
noncomputable def PSs(X:Cx)(st:List Stmt)(t:TS):Prop :=
 ∀(pins:Ψ)(s:Shared)(σ:St)(H:Hp)(D:Ends),Inv X pins σ H s->t D σ H->wpAny (model X.prog X.w) X.A (execs st X.env) (SP X pins D) X.xe s
theorem thn{α:Type}{t:Sem α}{Q Q':α->Shared->Prop}{M:Model}{A:Around}{E:Ι}{s:Shared}(h:wpAny M A t Q E s)(hQ:∀a s,Q a s->Q' a s):wpAny M A t Q' E s:=wpAny_mono h hQ λ_ _ x=>x
section
variable{X:Cx}
noncomputable def Iz(i:Nat):TE:=λσ H Q=>∃v,σ[i]?=some (some v)/\Q v H
noncomputable def tC(v:V):TE:=λ_ H Q=>Q v H
theorem ZM{i:Nat}{x:Str}{pos:Pos}(hN:X.N[i]?=some x)(hv:Vis X.env.scope x)(hd:(x==("__debug__" : Str))=false:=by decide)(hcd:(x==("__classdict__" : Str))=false:=by decide):PE X (.Name x pos) (Iz i):=by
 intro pins s σ H Q I h;obtain⟨v,e,h⟩:=h;obtain⟨m,hn,hl⟩:=I.loc;obtain⟨u,r,l⟩:=hl i x v hN e hv;have fin:EP X pins σ Q u s:=⟨v,H,I,r,h⟩;rcases l with⟨hk,hm⟩|⟨hk,c,hc,hcell⟩
 .exact wpAny_Name (wpAny_loadName_local I.ok.kind hk hn hm fin) hd
 .rcases hk with hk|hk
  .exact wpAny_Name (wpAny_loadName_cell I.ok.kind hk hc hcell fin) hd
  .exact wpAny_Name (wpAny_loadName_free I.ok.kind hk hc hcell fin hcd) hd
theorem bG{i j pos} : PE X (.Constant (.int i) j pos) (tC (.int i)):=λ_ _ _ H _ I h=>wpAny_Constant_int ⟨.int i,H,I.tok _,⟨_,rfl⟩,h⟩
theorem mF{b j pos} : PE X (.Constant (.bool b) j pos) (tC (.bl b)):=λ_ _ _ H _ I h=>Constant_bool ⟨.bl b,H,I,rfl,h⟩
theorem gZ{j pos} : PE X (.Constant .none j pos) (tC .non):=λ_ _ _ H _ I h=>Constant_none ⟨.non,H,I,rfl,h⟩
theorem jL{x j pos} : PE X (.Constant (.str x) j pos) (tC (.str x)):=λ_ _ _ H _ I h=>Calls.Constant_str ⟨.str x,H,I.tok _,⟨_,rfl⟩,h⟩
noncomputable def Gl(X:Cx)(x:Str):Prop:=X.env.kindOf x=some .globalImplicit
theorem lH{E:Ι}{pins:Ψ}{s:Shared}{σ:St}{H:Hp}{x:Str}{u:Value}{pos:Pos}{Q:Ι}(I:Inv X pins σ H s)(hg:Gl X x)(hm:X.mg x=some u)(h:Q u s)
 (hd:(x==("__debug__" : Str))=false:=by decide):wpAny (model X.prog X.w) X.A (eval (.Name x pos) X.env) Q E s :=
 Calls.Name_function_global I.ok.kind hg (Calls.loadGlobal_global (by rw[I.ok.glob];exact I.mod.glob.keeps I.bk) hm h) hd
theorem wW{E:Ι}{pins:Ψ}{s:Shared}{σ:St}{H:Hp}{x:Str}{u:Value}{pos:Pos}{Q:Ι}(I:Inv X pins σ H s)(hg:Gl X x)(hm:X.mg x=none)(hv:bootBuiltins x=some u)(h:Q u s)
 (hn:x ≠ "__name__" := by decide)(hd:(x==("__debug__" : Str))=false:=by decide):wpAny (model X.prog X.w) X.A (eval (.Name x pos) X.env) Q E s:=by
 obtain⟨mb,h1,h2⟩:=I.mod.blt;exact Calls.Name_function_global I.ok.kind hg (Calls.loadGlobal_builtin (by rw[I.ok.glob];exact I.mod.glob.keeps I.bk) hm (by rw[I.ok.blt];exact h1.keeps I.bk) ((h2 x hn).trans hv) h) hd
theorem FJ{x:Str}{v:V}{u:Value}{pos:Pos}(hg:Gl X x)(hm:X.mg x=some u)(r:RelV v u)(hd:(x==("__debug__" : Str))=false:=by decide):PE X (.Name x pos) (tC v) :=
 λ_ _ _ H _ I h=>lH I hg hm ⟨v,H,I,r,h⟩ hd
theorem iz{x:Str}{v:V}{u:Value}{pos:Pos}(hg:Gl X x)(hm:X.mg x=none)(hv:bootBuiltins x=some u)(r:RelV v u)(hn:x ≠ "__name__" := by decide)(hd:(x==("__debug__" : Str))=false:=by decide):PE X (.Name x pos) (tC v) :=
 λ_ _ _ H _ I h=>wW I hg hm hv ⟨v,H,I,r,h⟩ hn hd
variable{a b:Expr}{ta tb:TE}{pos:Pos}
noncomputable def PC(X:Cx)(op:CmpOp)(a b:Expr)(t:TE):Prop :=
 ∀(pins:Ψ)(s:Shared)(σ:St)(H:Hp)(Q:VK),Inv X pins σ H s->t σ H Q ->
  wpAny (model X.prog X.w) X.A (eval a X.env) (λv s₁=>wpAny (model X.prog X.w) X.A (eval b X.env) (λu s₂=>wpAny (model X.prog X.w) X.A (compareOp op v u) (EP X pins σ Q) X.xe s₂) X.xe s₁) X.xe s
noncomputable def tB(t:TE):TT:=λσ H Q=>t σ H λx H1=>∃c,x=.bl c/\Q c H1
theorem Mp{op:CmpOp}{t:TE}(h:PC X op a b t)(h1:behindInMarks op b=false:=by rfl):PT X (.Compare a [op] [b] pos) (tB t):=by
 intro pins s σ H Q I hw;refine wpAny_isTrue_Compare1 (thn (h pins s σ H _ I hw) λv s1 h1=>thn h1 λu s2 h2=>thn h2 λc s3 hP=>?_) h1;obtain⟨x,H1,I1,r1,q1⟩:=hP;obtain⟨d,rfl,q⟩:=q1;cases r1;exact wpAny_truthy_bool ⟨H1,I1,q⟩
variable{tA tB':TT}{rest:List Expr}
noncomputable def ZD(t u:TT):TT:=λσ H Q=>t σ H λc H1=>if c=true then u σ H1 Q else Q false H1
noncomputable def tOr(t u:TT):TT:=λσ H Q=>t σ H λc H1=>if c=true then Q true H1 else u σ H1 Q
noncomputable def X_(t:TT):TT:=λσ H Q=>t σ H λc H1=>Q (!c) H1
theorem pw_or1(ha:PT X a tA):PW X (.BoolOp .Or [a] pos) tA:=by
 intro wh pins s σ H Q I h;refine isTrue_or (thn (ha pins s σ H Q I h) λc s1 e=>?_);cases c with
 |false=>exact isTrue_or_nil e
 |true=>exact e
theorem pw_or(ha:PT X a tA)(hb:PW X (.BoolOp .Or (b::rest) pos) tB'):PW X (.BoolOp .Or (a::b::rest) pos) (tOr tA tB'):=by
 intro wh pins s σ H Q I h;refine isTrue_or (thn (ha pins s σ H _ I h) λc s1 hP=>?_);obtain⟨H1,I1,q1⟩:=hP;cases c with
 |true=>exact⟨H1,I1,q1⟩
 |false=>exact hb wh pins s1 σ H1 Q I1 q1
theorem cT(ha:PT X a tA):PT X (.UnaryOp .Not a pos) (X_ tA):=by
 intro pins s σ H Q I h;exact isTrue_not (ha pins s σ H (λc H1=>Q (!c) H1) I h)
noncomputable def O2(ta tb:TE):TE:=λσ H Q=>ta σ H λx H1=>∃c,x=.bl c/\if c=true then tb σ H1 Q else Q (.bl false) H1
noncomputable def ZJ(ta tb:TE):TE:=λσ H Q=>ta σ H λx H1=>∃c,x=.bl c/\if c=true then Q (.bl true) H1 else tb σ H1 Q
noncomputable def NP(ta:TE):TE:=λσ H Q=>ta σ H λx H1=>∃c,x=.bl c/\Q (.bl (!c)) H1
theorem sW{op}{t:TE}(h:PE X a t):PE X (.BoolOp op [a] pos) t:=λpins s σ H Q I hw=>BoolOp_one (h pins s σ H Q I hw)
theorem nQ(ha:PE X a ta)(hb:PE X (.BoolOp .And (b::rest) pos) tb):PE X (.BoolOp .And (a::b::rest) pos) (O2 ta tb):=by
 intro pins s σ H Q I h;refine BoolOp_and (thn (ha pins s σ H _ I h) λv s1 hP=>?_);obtain⟨x,H1,I1,r1,q1⟩:=hP;obtain⟨c,rfl,q1⟩:=q1;cases r1;refine wpAny_truthy_bool ?_;cases c with
 |true=>exact hb pins s1 σ H1 Q I1 q1
 |false=>exact⟨.bl false,H1,I1,rfl,q1⟩
theorem SN(ha:PE X a ta):PE X (.UnaryOp .Not a pos) (NP ta):=by
 intro pins s σ H Q I h;refine UnaryOp_ (thn (ha pins s σ H _ I h) λv s1 hP=>?_);obtain⟨x,H1,I1,r1,q1⟩:=hP;obtain⟨c,rfl,q1⟩:=q1;cases r1;exact not_of (wpAny_truthy_bool ⟨.bl (!c),H1,I1,rfl,q1⟩)
noncomputable def tIf(t:TT)(ta tb:TE):TE:=λσ H Q=>t σ H λc H1=>if c=true then ta σ H1 Q else tb σ H1 Q
theorem Jo{c:Expr}(hc:PT X c tA)(ha:PE X a ta)(hb:PE X b tb):PE X (.IfExp c a b pos) (tIf tA ta tb):=by
 intro pins s σ H Q I h;refine wpAny_IfExp (thn (hc pins s σ H _ I h) λd s1 hP=>?_);obtain⟨H1,I1,q1⟩:=hP;cases d with
 |true=>exact ha pins s1 σ H1 Q I1 q1
 |false=>exact hb pins s1 σ H1 Q I1 q1
end
noncomputable def SqL(K:Frag)(H:Hp)(a:Addr)(xs:Κ):Prop :=
 Rd H a (.lst xs) \/
  ∃(o:Obj)(its:Array Value)(n:Nat),K.lookup a=some o/\o.cls=.type "list" /\ o.dict=none/\o.data=.seq its n/\its.size<=sizeLine/\Vals xs its.toList
noncomputable def SqT(K:Frag)(H:Hp)(a:Addr)(xs:Κ):Prop :=
 Rd H a (.tup xs) \/
  ∃(o:Obj)(its:Array Value)(n:Nat),K.lookup a=some o/\o.cls=.type "tuple" /\ o.data=.seq its n/\its.size<=sizeLine/\Vals xs its.toList
noncomputable def adO:Value->Option V
 |.none=>some .non
 |.bool b=>some (.bl b)
 |.int i _=>some (.int i)
 |.str x _=>some (.str x)
 |.bytes b _=>some (.byt b)
 |.float b _=>some (.flt b)
 |.ref a=>some (.ref a)
 |.type n=>some (.ty n)
 |_=>none
theorem RelV.abs{x:V}{u:Value}(r:RelV x u):adO u=some x:=by
 cases x with
 |non=>cases r;rfl
 |bl _=>cases r;rfl
 |int _=>obtain⟨t,rfl⟩:=r;rfl
 |str _=>obtain⟨t,rfl⟩:=r;rfl
 |byt _=>obtain⟨t,rfl⟩:=r;rfl
 |flt _=>obtain⟨t,rfl⟩:=r;rfl
 |ref _=>cases r;rfl
 |ty _=>cases r;rfl
theorem RelV.inj{x y:V}{u:Value}(r:RelV x u)(q:RelV y u):x=y:=Option.some.inj (r.abs.symm.trans q.abs)
theorem Vals.inj:∀{xs ys:Κ}{us:Ω},Vals xs us->Vals ys us->xs=ys
 |_,_,_,.nil,.nil=>rfl
 |_,_,_,.cons r t,.cons r' t'=>by rw[r.inj r',Vals.inj t t']
section
variable{X:Cx}{pins:Ψ}{σ:St}{H:Hp}{s:Shared}{a:Addr}{xs ys:Κ}
theorem SqL.of{K:Frag}(h:H a=some (.lst xs)):SqL K H a xs:=.inl (.inl h)
theorem SqT.of{K:Frag}(h:H a=some (.tup xs)):SqT K H a xs:=.inl (.inl h)
theorem Inv.list(I:Inv X pins σ H s)(h:SqL X.K H a xs):∃its:Ω,Vals xs its/\PlainL s.heap a its.toArray/\xs.length<=sizeLine:=by
 rcases h with h|⟨o,its,n,hk,hc,hd,hs,hz,r⟩
 .obtain⟨z,its,n,r,e⟩:=h.ok I.hok;exact⟨its,r,⟨_,n,e,rfl,rfl,rfl⟩,z⟩
 .refine⟨its.toList,r,⟨o,n,I.kIn a o hk,hc,hd,by simpa using hs⟩,?_⟩;have e:=r.length;simp only[Array.length_toList]at e;exact aL (Nat.le_of_eq e) hz
theorem Inv.tuple(I:Inv X pins σ H s)(h:SqT X.K H a xs):∃its:Ω,Vals xs its/\IsTup s.heap a its.toArray/\xs.length<=sizeLine:=by
 rcases h with h|⟨o,its,n,hk,hc,hs,hz,r⟩
 .obtain⟨z,its,r,p⟩:=h.ok I.hok;exact⟨its,r,p,z⟩
 .refine⟨its.toList,r,⟨o,I.kIn a o hk,hc,n,by simpa using hs⟩,?_⟩;have e:=r.length;simp only[Array.length_toList]at e;exact aL (Nat.le_of_eq e) hz
theorem Inv.list_inj(I:Inv X pins σ H s)(h:SqL X.K H a xs)(h':SqL X.K H a ys):xs=ys:=by
 obtain⟨its,r,⟨o,n,e,_,_,d⟩,_⟩:=I.list h;obtain⟨its',r',⟨o',n',e',_,_,d'⟩,_⟩:=I.list h';rw[e]at e';cases e';rw[d]at d';injection d' with d1 _;have:its=its':=by simpa using ZH Array.toList d1
 subst this;exact r.inj r'
end
noncomputable abbrev Cx.wish(X:Cx)(E:Ι):Cx:={ X with xe:=E }
noncomputable abbrev Cx.nox(X:Cx):Cx:=X.wish λ_ _=>False
theorem Cx.Ok.wish{X:Cx}(ok:X.Ok)(E:Ι):(X.wish E).Ok :=
 ⟨ok.mod,ok.kind,ok.glob,ok.blt,ok.above,ok.inj,ok.has,ok.cab,ok.hd,ok.frames,ok.stk,ok.exf,ok.bs,ok.bsz,ok.noex,ok.exfs,ok.funs,ok.frf⟩
theorem Cx.Ok.unwish{X:Cx}{E:Ι}(ok:(X.wish E).Ok):X.Ok :=
 ⟨ok.mod,ok.kind,ok.glob,ok.blt,ok.above,ok.inj,ok.has,ok.cab,ok.hd,ok.frames,ok.stk,ok.exf,ok.bs,ok.bsz,ok.noex,ok.exfs,ok.funs,ok.frf⟩
section
variable{X:Cx}{pins:Ψ}{σ:St}{H:Hp}{s:Shared}{E:Ι}
theorem Inv.wish(I:Inv X pins σ H s)(E:Ι):Inv (X.wish E) pins σ H s:=⟨I.ok.wish E,I.os,I.bare,I.base,I.loc,I.cell,I.free,I.freeC,I.pin,I.hok,I.len⟩
theorem Inv.unwish(I:Inv (X.wish E) pins σ H s):Inv X pins σ H s:=⟨I.ok.unwish,I.os,I.bare,I.base,I.loc,I.cell,I.free,I.freeC,I.pin,I.hok,I.len⟩
theorem SP.unwish{D:Ends}{f:Flow}{s':Shared}(h:SP (X.wish E) pins D f s'):SP X pins D f s':=by
 cases f with
 |next=>obtain⟨σ',H',I,q⟩:=h;exact⟨σ',H',I.unwish,q⟩
 |brk=>obtain⟨σ',H',I,q⟩:=h;exact⟨σ',H',I.unwish,q⟩
 |cont=>obtain⟨σ',H',I,q⟩:=h;exact⟨σ',H',I.unwish,q⟩
 |ret u=>obtain⟨v,σ',H',I,r,q⟩:=h;exact⟨v,σ',H',I.unwish,r,q⟩
theorem PSs.nox{st:List Stmt}{t:TS}(h:PSs X.nox st t):PSs X st t:=λpins s σ H D I hw =>
 wpAny_mono (h pins s σ H D (I.wish _) hw) (λ_ _ q=>q.unwish) λ_ _ z=>False.elim z
end
section
variable{X:Cx}{st:Stmt}{rest:List Stmt}{t u:TS}{e:Expr}{te:TE}{pos:Pos}
noncomputable def Nz:TS:=λD σ H=>D.nx σ H
noncomputable def ux(t u:TS):TS:=λD σ H=>t { D with nx:=u D } σ H
theorem cG:PSs X [] Nz:=λ_ _ σ H _ I h=>wpAny_execs_nil ⟨σ,H,I,h⟩
theorem bH(h1:PS X st t)(h2:PSs X rest u):PSs X (st::rest) (ux t u):=by
 intro pins s σ H D I h;refine wpAny_execs_cons (thn (h1 pins s σ H { D with nx:=u D } I h) λf s1 q=>?_);cases f with
 |next =>
  obtain⟨σ',H',I',q⟩:=q;exact h2 pins s1 σ' H' D I' q
 |ret v=>exact q
 |brk=>exact q
 |cont=>exact q
theorem bM(h1:PS X st t):PSs X [st] t:=by
 intro pins s σ H D I h;refine wpAny_execs_cons (thn (h1 pins s σ H D I h) λf s1 q=>?_);cases f with
 |next=>exact wpAny_execs_nil q
 |ret v=>exact q
 |brk=>exact q
 |cont=>exact q
noncomputable def Zj:TS:=λD σ H=>D.bk σ H
theorem QZ:PS X (.Break pos) Zj:=λ_ _ σ H _ I h=>wpAny_Break ⟨σ,H,I,h⟩
theorem Inv.quiet{pins:Ψ}{σ:St}{H:Hp}{s:Shared}(I:Inv X pins σ H s):interactive X.env=false:=by simp[interactive,I.ok.kind]
noncomputable def Nf(te:TE):TS:=λD σ H=>te σ H λ_ H1=>D.nx σ H1
theorem dh(he:PE X e te)(hs:swapsWith e none pos.line X.env=pure false:=by rfl):PS X (.Expr e pos) (Nf te):=by
 intro pins s σ H D I h;exact wpAny_Expr_any (thn (he pins s σ H _ I h) λv s1 hP=>by obtain⟨x,H1,I1,r1,q1⟩:=hP;exact⟨σ,H1,I1,q1⟩) I.quiet hs
noncomputable def Uu(te:TE):TS:=λD σ H=>te σ H D.rt
theorem b_(he:PE X e te):PS X (.Return (some e) pos) (Uu te):=by
 intro pins s σ H D I h;exact wpAny_Return_some (thn (he pins s σ H _ I h) λv s1 hP=>by obtain⟨x,H1,I1,r1,q1⟩:=hP;exact⟨x,σ,H1,I1,r1,q1⟩)
noncomputable def Vv:TS:=λD _ H=>D.rt .non H
noncomputable def Tt(c:TT)(t u:TS):TS:=λD σ H=>c σ H λb H1=>if b=true then t D σ H1 else u D σ H1
theorem dB{c:Expr}{a b:List Stmt}{tc:TT}(hc:PT X c tc)(ha:PSs X a t)(hb:PSs X b u):PS X (.If c a b pos) (Tt tc t u):=by
 intro pins s σ H D I h;refine wpAny_If (thn (hc pins s σ H _ I h) λd s1 hP=>?_);obtain⟨H1,I1,q1⟩:=hP;cases d with
 |true=>exact ha pins s1 σ H1 D I1 q1
 |false=>exact hb pins s1 σ H1 D I1 q1
noncomputable def Zd:TS:=λ_ _ _=>False
theorem mO:PS X st Zd:=λ_ _ _ _ _ _ h=>h.elim
end
noncomputable abbrev TG:=V->St->Hp->(St->Hp->Prop)->Prop
noncomputable abbrev TGs:=Κ->St->Hp->(St->Hp->Prop)->Prop
noncomputable def PG(X:Cx)(target:Expr)(t:TG):Prop :=
 ∀(pins:Ψ)(s:Shared)(σ:St)(H:Hp)(v:V)(u:Value)(Q:St->Hp->Prop),Inv X pins σ H s->RelV v u->t v σ H Q ->
  wpAny (model X.prog X.w) X.A (assign target X.env u) (λ_ s'=>∃σ' H',Inv X pins σ' H' s'/\Q σ' H') X.xe s
noncomputable def PGs(X:Cx)(ts:List Expr)(t:TGs):Prop :=
 ∀(pins:Ψ)(s:Shared)(σ:St)(H:Hp)(vs:Κ)(us:Ω)(Q:St->Hp->Prop),Inv X pins σ H s->Vals vs us->t vs σ H Q ->
  wpAny (model X.prog X.w) X.A (assignInOrder ((assignEach ts X.env).map (·.2)) us) (λ_ s'=>∃σ' H',Inv X pins σ' H' s'/\Q σ' H') X.xe s
noncomputable abbrev adW:=V->V->V->Hp->(Hp->Prop)->Prop
section
variable{X:Cx}{pos:Pos}
noncomputable def cu(i:Nat):TG:=λv σ H Q=>Q (σ.set i (some v)) H
theorem cF{i:Nat}{x:Str}(hN:X.N.Nodup)(hi:X.N[i]?=some x)(hx:Loc X.env.scope x)(hf:X.fn x=true\/X.env.scope.names.lookup x=some .local:=by first|exact .inl rfl|exact .inr rfl|assumption):PG X (.Name x pos) (cu i):=by
 intro pins s σ H v u Q I r h;exact wpAny_assign_Name (qO I hN hi hx r (λs' I'=>⟨_,H,I',h⟩) hf)
noncomputable def Xi:TGs:=λvs σ H Q=>vs=[]/\Q σ H
noncomputable def Nx(t:TG)(u:TGs):TGs:=λvs σ H Q=>∃v r,vs=v::r/\t v σ H λσ' H'=>u r σ' H' Q
theorem eN:PGs X [] Xi:=by
 intro pins s σ H vs us Q I r h;obtain⟨e,h⟩:=h;subst e;cases r;exact assignInOrder_nil ⟨σ,H,I,h⟩
theorem cC{e:Expr}{es:List Expr}{t:TG}{u:TGs}(h1:PG X e t)(h2:PGs X es u)
 (hs:(assignEach (e::es) X.env).map (·.2)=assign e X.env::(assignEach es X.env).map (·.2):=by rfl):PGs X (e::es) (Nx t u):=by
 intro pins s σ H vs us Q I r h;obtain⟨v,vr,e1,h⟩:=h;subst e1;cases r with
 |cons r rr =>
  rw[hs];refine assignInOrder_cons (thn (h1 pins s σ H _ _ _ I r h) λ_ s1 hP=>?_);obtain⟨σ1,H1,I1,q1⟩:=hP;exact h2 pins s1 σ1 H1 _ _ Q I1 rr q1
noncomputable def Xh(K:Frag)(n:Nat)(t:TGs):TG:=λv σ H Q=>∃a xs,v=.ref a/\SqT K H a xs/\xs.length=n/\t xs σ H Q
theorem Y4{es:List Expr}{k:Nat}{t:TGs}{n:Nat}(hc:X.calm=true)(h:PGs X es t)
 (hn:(assignEach es X.env).length=n:=by rfl)(hst:(assignEach es X.env).findIdx? (·.1)=none:=by rfl):PG X (.Tuple es k pos) (Xh X.K n t):=by
 intro pins s σ H v u Q I r hw;obtain⟨a,xs,e1,hq,hl,hw⟩:=hw;subst e1;cases r;obtain⟨its,rv,ht,hz⟩:=I.tuple hq;refine assign_Tuple_tuple (I.ok.hd hc) ht (by simp[hn,<- hl,rv.length]) hst λh' hx=>?_;have I1:Inv X pins σ H { s with heap:=h' }:=I.kept (t':=s.toks) λb o e=>hx b o (aQ (aJ e)) e;exact h pins _ σ H xs _ Q I1 (by simpa using rv) hw
noncomputable def ZF(to ti:TE)(t:adW):TG:=λv σ H Q=>to σ H λo H1=>ti σ H1 λi H2=>t o i v H2 λH3=>Q σ H3
noncomputable def Fz(te:TE)(g:TG):TS:=λD σ H=>te σ H λx H1=>g x σ H1 D.nx
theorem Bx{tg e:Expr}{te:TE}{g:TG}(he:PE X e te)(hg:PG X tg g)(hs:swapsWithSole [tg] e pos.line X.env=pure false:=by rfl)(hw:swappedStores [tg] e X.env=pure none:=by rfl)
 (h1:(assignEach [tg] X.env).map (·.2)=[assign tg X.env]:=by rfl):PS X (.Assign [tg] e pos) (Fz te g):=by
 intro pins s σ H D I h;refine wpAny_Assign_stores (thn (he pins s σ H _ I h) λv s1 hP=>?_) hs hw;obtain⟨x,H1,I1,r1,q1⟩:=hP;rw[h1];exact thn (hg pins s1 σ H1 x v _ I1 r1 q1) λ_ s2 q=>q
theorem bU{i:Nat}{x:Str}{e:Expr}{te:TE}{pos':Pos}(hN:X.N.Nodup)(hi:X.N[i]?=some x)(hx:Loc X.env.scope x)(he:PE X e te)(hs:swapsWith e (some (.Name x pos')) pos.line X.env=pure false:=by rfl)(hf:X.fn x=true\/X.env.scope.names.lookup x=some .local:=by first|exact .inl rfl|exact .inr rfl|assumption) :
  PS X (.Assign [.Name x pos'] e pos) (Fz te (cu i)):=by
 intro pins s σ H D I h;refine wpAny_Assign_Name (thn (he pins s σ H _ I h) λv s1 hP=>?_) hs;obtain⟨y,H1,I1,r1,q1⟩:=hP;exact qO I1 hN hi hx r1 (λs2 I2=>⟨_,H1,I2,q1⟩) hf
noncomputable def X6(i j:Nat)(ta:TA):TS:=λD σ H=>ta σ H λvs H1=>∃v w,vs=[v,w]/\D.nx ((σ.set i (some v)).set j (some w)) H1
theorem YX{i j:Nat}{x y:Str}{a b:Expr}{ta:TA}{px py pt:Pos}{kt k2 pt2}(hc:X.calm=true)(hN:X.N.Nodup)(hi:X.N[i]?=some x)(hj:X.N[j]?=some y)(hij:i≠j)
 (hx:X.env.scope.names.lookup x=some .local)(hy:X.env.scope.names.lookup y=some .local)(ha:PA X [a,b] ta)
 (hw:swappedStores [.Tuple [.Name x px,.Name y py] kt pt] (.Tuple [a,b] k2 pt2) X.env=pure (some [x,y]))
 (hs:swapsWithSole [.Tuple [.Name x px,.Name y py] kt pt] (.Tuple [a,b] k2 pt2) pos.line X.env=pure false:=by rfl) :
  PS X (.Assign [.Tuple [.Name x px,.Name y py] kt pt] (.Tuple [a,b] k2 pt2) pos) (X6 i j ta):=by
 intro pins s σ H D I h;rw[exec_Assign_arm];refine ZU (wpAny_standAt ?_);rw[hs];refine ZU (ZT ?_);rw[ZZ (by decide)];refine ZU (Tuple_ (thn (ha _ pins s σ H _ I h) λus s1 hP=>?_));obtain⟨vs,H1,I1,r1,q1⟩:=hP;obtain⟨v,w,e1,q1⟩:=q1;subst e1;obtain⟨u1,u2,rfl,rv,rw'⟩ : ∃u1 u2,us=[u1,u2]/\RelV v u1/\RelV w u2:=by
  cases r1 with
  |cons p q =>
   cases q with
   |cons p' q' =>
    cases q';exact⟨_,_,rfl,p,p'⟩
 refine wpAny_newObj_type ?_ (by show 2<=sizeLine;decide);have I2:Inv X pins σ H1 { s1 with heap:=s1.heap.push { cls:=.type "tuple",data:=.seq [u1,u2].toArray } }:=I1.kept (t':=s1.toks) λb o e=>aG _ e;rw[hw];refine ZU (ZT ?_);show wpAny (model X.prog X.w) X.A (do rule "assign.swapped-stores"; let items <- unpackItems (.ref s1.heap.objs.size) 2 none;assignInOrder [λv=>bindName X.env y v,λv=>bindName X.env x v] items.reverse;pure Flow.next) _ _ _;refine ZU (wpAny_rule (ZU (unpackItems_tuple (items:=#[u1,u2]) (I.ok.hd hc) (IsTup.new s1.heap _) λh' hx'=>?_)));have I3:=I2.kept (h':=h') (t':=s1.toks) λb o e=>hx' b o (aQ (aJ e)) e;show wpAny _ _ (assignInOrder [λv=>bindName X.env y v,λv=>bindName X.env x v] [u2,u1] >>= λ_=>pure Flow.next) _ _ _;refine ZU (assignInOrder_cons (wpAny_bindName (qO I3 hN hj (.inl hy) rw' (λs2 I4=>?_) (.inr hy))));refine assignInOrder_cons (wpAny_bindName (qO I4 hN hi (.inl hx) rv (λs3 I5=>assignInOrder_nil (ZT ?_)) (.inr hx)));rw[List.set_comm _ _ (Ne.symm hij)]at I5;exact⟨_,H1,I5,q1⟩
end
section
variable{X:Cx}{pos:Pos}
noncomputable def Uw(c:TT)(tb:TS):TS:=λD σ H=>∃W:Nat->St->Hp->Prop,(∃m,W m σ H)/\∀m σ H,W m σ H ->
 c σ H λb H1=>if b=true then ∃N:St->Hp->Prop,(∀σ' H',N σ' H'->∃m',m'<m/\W m' σ' H')/\tb { D with nx:=N,ct:=N,bk:=D.nx } σ H1 else D.nx σ H1
theorem I_{c:Expr}{body:List Stmt}{tc:TT}{tb:TS}(hp:PassesOwn (model X.prog X.w) X.A X.env X.xe)(hc:PT X c tc)(hb:PSs X body tb):PS X (.While c body [] pos) (Uw tc tb):=by
 intro pins s σ H D I h;obtain⟨W,⟨m0,w0⟩,turn⟩:=h;refine wpAny_While (codeAny_whileLoop (λn s'=>∃σ' H',Inv X pins σ' H' s'/\W n σ' H') ?_ m0 ⟨σ,H,I,w0⟩);rintro n s1 ⟨σ1,H1,I1,w1⟩;refine wpAny_passesOwn hp (thn (hc pins s1 σ1 H1 _ I1 (turn n σ1 H1 w1)) λb s2 hP=>?_);obtain⟨H2,I2,q2⟩:=hP;cases b with
 |true =>
  obtain⟨N,hN,q2⟩:=q2;rw[ZY rfl];refine wpAny_passesOwn hp (thn (hb pins s2 σ1 H2 _ I2 q2) λf s3 q3=>?_);cases f with
  |next =>
   obtain⟨σ3,H3,I3,n3⟩:=q3;obtain⟨m',hm,w3⟩:=hN σ3 H3 n3;exact⟨m',hm,σ3,H3,I3,w3⟩
  |cont =>
   obtain⟨σ3,H3,I3,n3⟩:=q3;obtain⟨m',hm,w3⟩:=hN σ3 H3 n3;exact⟨m',hm,σ3,H3,I3,w3⟩
  |brk=>exact q3
  |ret v=>exact q3
 |false =>
  rw[ZZ bC];exact wpAny_execs_nil ⟨σ1,H2,I2,q2⟩
end
structure It where
 go:Nat->Hp->Prop
 yld:Nat->Hp->V->Hp->Prop
 stop:Nat->Hp->Prop
noncomputable def yK(X:Cx)(pins:Ψ)(H:Hp)(b:Addr):Prop :=
 H b=none/\b≠X.env.locals/\b∉X.fs/\(b∈X.ex\/X.s₀.heap.objs.size<=b)/\(∀x c,X.env.cells.lookup x=some c->c≠b)/\∀p∈X.pn++pins,p.1≠b
theorem Inv.fpOk{X:Cx}{pins:Ψ}{σ:St}{H H':Hp}{s:Shared}{b:Addr}(I:Inv X pins σ H s)(hb:s.heap.objs.size<=b)(hn:H' b=none):yK X pins H' b:=by
 refine⟨hn,Nat.ne_of_gt (aR I.lt hb),I.nofs hb,.inr (aL I.sz hb),λx c e z=>?_,λp hp z=>?_⟩
 .obtain⟨v,q⟩:=I.cell x c e;exact absurd (aR q.lt (by rw[z];exact hb)) (X1 _)
 .exact absurd (aR (aJ (I.pin p hp).1) (by rw[z];exact hb)) (X1 _)
structure Turn(P:Program)(w:World)(K:Frag)(tg:Expr)(J:It)(fp:Β)(it:Addr)(tn:Nat->Heap->Prop):Prop where
 mem:it∈fp
 obj:∀i h,tn i h->∀b∈fp,∃o,h.get? b=some o/\∀v,o.data≠.cell v
 keep:∀i h h',tn i h->(∀b∈fp,∀o,h.get? b=some o->h'.get? b=some o)->tn i h'
 item:∀(X:Cx),X.prog=P->X.w=w->X.K=K->X.calm=true->∀(i:Nat)(pins:Ψ)(s:Shared)(σ:St)(H:Hp)(E:Ι),Inv X pins σ H s->(∀b∈fp,yK X pins H b)->tn i s.heap->J.go i H ->
  wpAny (model P w) X.A (pyNext (.ref it)) (λr s1=>∃u,r=some u /\
   wpAny (model P w) X.A (letOwnedTupleGo tg (.ref it) u) (λ_ s2=>∃x H',Inv X pins σ H' s2/\RelV x u/\J.yld i H x H'/\tn (i+1) s2.heap/\∀b∈fp,H' b=none) E s1) E s
 done:∀(X:Cx),X.prog=P->X.w=w->X.K=K->X.calm=true->∀(i:Nat)(pins:Ψ)(s:Shared)(σ:St)(H:Hp)(E:Ι),Inv X pins σ H s->(∀b∈fp,yK X pins H b)->tn i s.heap->J.stop i H ->
  wpAny (model P w) X.A (pyNext (.ref it)) (λr s1=>r=none/\Inv X pins σ H s1) E s
 self:∀(A:Around)(i:Nat)(s:Shared)(Q:Ι)(E:Ι),tn i s.heap->Q (.ref it) s->wpAny (model P w) A (pyIter (.ref it)) Q E s
noncomputable abbrev TI:=St->Hp->(It->Hp->Prop)->Prop
noncomputable def PIE(X:Cx)(pins:Ψ)(σ:St)(tg:Expr)(R:It->Hp->Prop)(itv:Value)(s2:Shared):Prop :=
 ∃(it:Addr)(fp:Β)(tn:Nat->Heap->Prop)(J:It)(H':Hp),itv=.ref it/\Inv X pins σ H' s2/\Turn X.prog X.w X.K tg J fp it tn/\tn 0 s2.heap/\(∀b∈fp,yK X pins H' b)/\R J H'
noncomputable def PI(X:Cx)(tg iter:Expr)(wi:TI):Prop :=
 ∀(pins:Ψ)(s:Shared)(σ:St)(H:Hp)(R:It->Hp->Prop),Inv X pins σ H s->wi σ H R ->
  wpAny (model X.prog X.w) X.A (eval iter X.env) (λv s1=>wpAny (model X.prog X.w) X.A (pyIter v) (PIE X pins σ tg R) X.xe s1) X.xe s
theorem Jd{M:Model}{A:Around}{E:Ι}{s:Shared}{tg:Expr}{it:Addr}{u:Value}{o:Obj}{n:String}{vs:Array Value}{Q:Unit->Shared->Prop}(ho:s.heap.get? it=some o)(hc:o.cls=.type n)(hd:o.data=.fields vs)
   (hn : ["enumerate", "zip", "dict_itemiterator", "dict_reverseitemiterator", "odict_iterator", "itertools.zip_longest", "itertools.pairwise"].contains n=false)(hQ:Q () s):wpAny M A (letOwnedTupleGo tg (.ref it) u) Q E s:=by
  unfold letOwnedTupleGo;cases tg<;>first
    |exact ZT hQ
    |(cases u<;>first
        |exact ZT hQ
        | (refine ZU (wpAny_load ho ?_)
           rw[hc,hd];show wpAny M A (if(["enumerate", "zip", "dict_itemiterator", "dict_reverseitemiterator", "odict_iterator", "itertools.zip_longest", "itertools.pairwise"].contains n&&vs[0]?==some (rawInt _))=true then _ else _) Q E s;rw[ZZ (by intro h;rw[hn,Bool.false_and]at h;cases h)];exact ZT hQ))
noncomputable def Itl(K:Frag)(a:Addr):It :=
 ⟨λi H=>∃xs x,SqL K H a xs/\xs[i]?=some x,λi H x H'=>H'=H/\∀xs,SqL K H a xs->xs[i]?=some x,λi H=>∃xs,SqL K H a xs/\xs.length<=i⟩
noncomputable def Itr(lo:Int)(n:Nat):It:=⟨λi _=>i<n,λi H x H'=>H'=H/\x=.int (lo+i),λi _=>n<=i⟩
theorem Py{P:Program}{w:World}{K:Frag}{tg:Expr}(a it:Addr):Turn P w K tg (Itl K a) [it] it (λi h=>h.IsListIter it a i) where
 mem:=by simp
 obj:=λi h st b hb=>by
  have e:b=it:=by simpa using hb
  subst e;obtain⟨o,e,c,d⟩:=st;exact⟨o,e,λv z=>by rw[d]at z;cases z⟩
 keep:=λi h h' st k=>st.at λo e=>k it (by simp) o e
 item:=by
  intro X hP hw hK hc i pins s σ H E I hf st hg;subst hP hw hK;obtain⟨xs,x,hq,hx⟩:=hg;obtain⟨its,rv,p,hz⟩:=I.list hq;obtain⟨u,hu,ru⟩:=rv.get hx;obtain⟨f0,f1,f2,f3,f4,f5⟩:=hf it (by simp);refine wpAny_pyNext_list_item st p.isList (x:=u) (by simpa using hu) λh' st' sb=>?_;have I1:Inv X pins σ H { s with heap:=h' }:=I.turned (t':=s.toks) (λb o hb e=>(sb.2 b hb).trans e) f0 f1 f3 f4 f5;obtain⟨o,e,c,d⟩:=id st';exact⟨u,rfl,Jd (s:={ s with heap:=h' }) e c d (by decide) ⟨x,H,I1,ru,⟨rfl,λys hy=>by rw[I.list_inj hy hq];exact hx⟩,st',λb hb=>(hf b hb).1⟩⟩
 done:=by
  intro X hP hw hK hc i pins s σ H E I hf st hg;subst hP hw hK;obtain⟨xs,hq,hx⟩:=hg;obtain⟨its,rv,p,hz⟩:=I.list hq;obtain⟨f0,f1,f2,f3,f4,f5⟩:=hf it (by simp);have hl:=rv.length;exact wpAny_pyNext_list_end (I.ok.hd hc) st p.isList (by simp;lia) λh' eb=>⟨rfl,I.turned (t':=s.toks) (λb o hb e=>eb b o hb e) f0 f1 f3 f4 f5⟩
 self:=λ_ _ _ _ _ st h=>wpAny_pyIter_listiter st h
theorem Lz{P:Program}{w:World}{K:Frag}{tg:Expr}(it:Addr)(lo:Int)(n:Nat):Turn P w K tg (Itr lo n) [it] it (λi h=>IsRangeIter h it (lo+(i:Nat)*1) ((n:Int)-(i:Nat)) 1) where
 mem:=by simp
 obj:=λi h st b hb=>by
  have e:b=it:=by simpa using hb
  subst e;exact⟨_,st,λv z=>by
   have z':Data.fields _=Data.cell v:=z;cases z'⟩
 keep:=λi h h' st k=>k it (by simp) _ st
 item:=by
  intro X hP hw hK hc i pins s σ H E I hf st hg;subst hP hw hK;obtain⟨f0,f1,f2,f3,f4,f5⟩:=hf it (by simp);have W:=Walks.range (prog:=X.prog) (w:=X.w) (I.ok.hd hc) it lo 1 n;refine W.item i s _ _ hg st λv h' tk hv st' kk=>?_;obtain⟨t,rfl⟩:=hv;have I1:Inv X pins σ H { s with heap:=h',toks:=tk }:=I.turned (λb o hb e=>kk b o (by simpa using hb) e) f0 f1 f3 f4 f5;refine⟨_,rfl,Jd (s:={ s with heap:=h',toks:=tk }) (n := "range_iterator") st' rfl rfl (by decide) ⟨.int (lo+i),H,I1,⟨t,?_⟩,⟨rfl,rfl⟩,st',λb hb=>(hf b hb).1⟩⟩;rw[Int.mul_one]
 done:=by
  intro X hP hw hK hc i pins s σ H E I hf st hg;subst hP hw hK;obtain⟨f0,f1,f2,f3,f4,f5⟩:=hf it (by simp);exact wpAny_pyNext_range_end (I.ok.hd hc) st (by have:n<=i:=hg;lia) λh' eb=>⟨rfl,I.turned (t':=s.toks) (λb o hb e=>eb b o hb e) f0 f1 f3 f4 f5⟩
 self:=λ_ _ _ _ _ st h=>wpAny_pyIter_rangeiter st h
section
variable{X:Cx}{tg:Expr}
noncomputable def Ef(K:Frag)(tl:TE):TI:=λσ H R=>tl σ H λx H1=>∃a,x=.ref a/\(∃xs,SqL K H1 a xs)/\R (Itl K a) H1
theorem dD{l:Expr}{tl:TE}(hl:PE X l tl):PI X tg l (Ef X.K tl):=by
 intro pins s σ H R I h;refine thn (hl pins s σ H _ I h) λv s1 hP=>?_;obtain⟨x,H1,I1,r1,q1⟩:=hP;obtain⟨a,e,⟨xs,hq⟩,q⟩:=q1;subst e;cases r1;obtain⟨its,rv,p,hz⟩:=I1.list hq;refine wpAny_pyIter_list p.isList ?_;refine⟨s1.heap.objs.size,[s1.heap.objs.size],_,_,H1,rfl,I1.kept (t':=s1.toks) λb o e=>aG _ e,Py a _,⟨_,aX _ rfl,rfl,rfl⟩,λb hb=>?_,q⟩;have e:b=s1.heap.objs.size:=by simpa using hb
 subst e;exact I1.fpOk (aF _) (I1.hok.fresh (aF _))
theorem Vw{pins:Ψ}{σ:St}{H:Hp}{s:Shared}{R:It->Hp->Prop}{E:Ι}{lo hi:Int}{t u v:Tok}{tk:Nat}(I:Inv X pins σ H s)(h1 : -(2^62)<=lo)(h2:lo<2^62)(h3 : -(2^62)<=hi)(h4:hi<2^62)
 (q:R (Itr lo (hi-lo).toNat) H):wpAny (model X.prog X.w) X.A (pyIter (.ref s.heap.objs.size)) (PIE X pins σ tg R) E { s with heap:=s.heap.push { cls:=.type "range",data:=.fields #[.int lo t,.int hi u,.int 1 v] },toks:=tk }:=by
 refine wpAny_pyIter_range (IsRange.new ..) (small_one h1 h2 h3 h4) ?_;have I1:Inv X pins σ H { s with heap:=s.heap.push { cls:=.type "range",data:=.fields #[.int lo t,.int hi u,.int 1 v] },toks:=tk }:=I.kept λb o e=>aG _ e;refine⟨(s.heap.push { cls:=.type "range",data:=.fields #[.int lo t,.int hi u,.int 1 v] }).objs.size,[(s.heap.push { cls:=.type "range",data:=.fields #[.int lo t,.int hi u,.int 1 v] }).objs.size],_,_,H,rfl,
  I1.kept (t':=tk) λb o e=>aG _ e,Lz _ lo (hi-lo).toNat,?_,λb hb=>?_,q⟩
 .have e1:lo+((0:Nat):Int)*1=lo:=by simp
  have e2:(((hi-lo).toNat:Nat):Int)-((0:Nat):Int)=Builtin.Range.rangeSize lo hi 1:=by rw[rangeSize_one];split<;>lia
  show IsRangeIter _ _ (lo+((0:Nat):Int)*1) ((((hi-lo).toNat:Nat):Int)-((0:Nat):Int)) 1;rw[e1,e2];exact aX _ rfl
 .have e:b=(s.heap.push { cls:=.type "range",data:=.fields #[.int lo t,.int hi u,.int 1 v] }).objs.size:=by simpa using hb
  subst e;exact I1.fpOk (aF _) (I1.hok.fresh (aF _))
noncomputable def Oq(ta:TA):TI:=λσ H R=>ta σ H λvs H1=>∃j:Int,vs=[.int j]/\-(2^62)<=j/\j<2^62/\R (Itr 0 j.toNat) H1
theorem gP{a:Expr}{ta:TA}{p pos:Pos}(hg:Gl X "range")(hm:X.mg "range" = none)(ha:PA X [a] ta)(hs:starEach [a] X.env=[(false,eval a X.env)]:=by rfl):PI X tg (.Call (.Name "range" p) [a] [] pos) (Oq ta):=by
 intro pins s σ H R I h;refine Call_ (wW I hg hm boot_range (PyProof.Rows.callWith_type1 (thn (ha pos pins s σ H _ I h) λus s1 hP=>?_) hs rfl));obtain⟨vs,H1,I1,r1,q1⟩:=hP;obtain⟨j,e,q1,q2,q⟩:=q1;subst e;cases r1 with
 |cons r rr =>
  cases rr;obtain⟨t,rfl⟩:=r;exact call_range_1 (Vw I1 (XY (by decide)) (Int.lt_of_not_ge (by decide)) q1 q2 (by simpa using q))
noncomputable def Lq(wi:TI)(g:TG)(tb:TS):TS:=λD σ H=>wi σ H λJ H1=>∃W:Nat->Nat->St->Hp->Prop,(∃m,W 0 m σ H1)/\∀i m σ H,W i m σ H ->
 (J.stop i H/\D.nx σ H)\/(J.go i H/\∃N:St->Hp->Prop,(∀σ' H',N σ' H'->∃m',m'<m/\W (i+1) m' σ' H')/\∀x H',J.yld i H x H'->g x σ H' λσ2 H2=>tb { D with nx:=N,ct:=N,bk:=D.nx } σ2 H2)
noncomputable def zT(fp:Β)(h:Heap):Ψ:=fp.filterMap λb=>(h.get? b).map λo=>(b,o)
theorem lW{fp:Β}{h:Heap}{b:Addr}{o:Obj}(hb:b∈fp)(e:h.get? b=some o):(b,o)∈zT fp h:=List.mem_filterMap.mpr ⟨b,hb,by rw[e];rfl⟩
theorem Pg{fp:Β}{h:Heap}{p:Addr×Obj}(hp:p∈zT fp h):p.1∈fp/\h.get? p.1=some p.2:=by
 obtain⟨b,hb,e⟩:=List.mem_filterMap.mp hp;cases q:h.get? b with
 |none=>rw[q]at e;cases e
 |some o =>
  rw[q]at e;have e':(b,o)=p:=Option.some.inj e;subst e';exact⟨hb,q⟩
theorem Inv.pinned{pins:Ψ}{σ:St}{H:Hp}{s:Shared}{fp:Β}(I:Inv X pins σ H s)(hf:∀b∈fp,yK X pins H b)(ho:∀b∈fp,∃o,s.heap.get? b=some o/\∀v,o.data≠.cell v):Inv X (pins++zT fp s.heap) σ H s :=
 I.pins_of λp hp=>(Y1.mp hp).elim (λz=>I.pin p (aP _ z)) λz=>by
  obtain⟨hb,e⟩:=Pg z;obtain⟨f0,f1,f2,_⟩:=hf p.1 hb;obtain⟨o,e',d⟩:=ho p.1 hb;rw[e]at e';cases e';exact⟨e,f0,f1,f2,d⟩
theorem Inv.unpinned{pins pl:Ψ}{σ:St}{H:Hp}{s:Shared}(I:Inv X (pins++pl) σ H s):Inv X pins σ H s:=I.pins_of λp hp=>I.pin p (aP _ (List.mem_append_left _ hp))
theorem fQ{iter:Expr}{body:List Stmt}{wi:TI}{g:TG}{tb:TS}{pos:Pos}(hp:PassesOwn (model X.prog X.w) X.A X.env X.xe)(hc:X.calm=true)(hi:PI X tg iter wi)(hg:PG X tg g)(hb:PSs X body tb)
 (hs:∀x,foldedSetIterable iter X.env x=pure x:=by intro _;rfl):PS X (.For tg iter body [] pos) (Lq wi g tb):=by
 intro pins s σ H D I h;refine wpAny_For (thn (hi pins s σ H _ I h) λv s1 h1=>thn h1 λitv s2 h2=>?_) hs;obtain⟨it,fp,tn,J,H2,e,I2,T,st2,f2,W,⟨m0,w0⟩,turn⟩:=h2;subst e

 have stat:∀{H':Hp},(∀b∈fp,H' b=none)->∀b∈fp,yK X pins H' b:=λhn b hb=>⟨hn b hb,(f2 b hb).2⟩;refine codeAny_forLoop_any (λn s'=>∃i σ' H',Inv X pins σ' H' s'/\tn i s'.heap/\(∀b∈fp,H' b=none)/\W i n σ' H') ?_ m0 ⟨0,σ,H2,I2,st2,λb hb=>(f2 b hb).1,w0⟩;rintro n s3 ⟨i,σ3,H3,I3,st3,fr3,w3⟩;rcases turn i n σ3 H3 w3 with⟨stop,qn⟩|⟨go,N,hN,step⟩
 .refine wpAny_passesOwn hp (thn (T.done X rfl rfl rfl hc i pins s3 σ3 H3 X.xe I3 (stat fr3) st3 stop) λr s4 hP=>?_);obtain⟨hr,I4⟩:=hP;subst hr;exact wpAny_execs_nil ⟨σ3,H3,I4,qn⟩
 .refine wpAny_passesOwn hp (thn (T.item X rfl rfl rfl hc i pins s3 σ3 H3 X.xe I3 (stat fr3) st3 go) λr s4 hP=>?_);obtain⟨u,hr,h4⟩:=hP;subst hr;refine wpAny_passesOwn hp (thn h4 λ_ s5 hP=>?_);obtain⟨x,H5,I5,r5,y5,st5,fr5⟩:=hP;have I5':=I5.pinned (stat fr5) (T.obj _ _ st5);refine wpAny_passesOwn hp (thn (hg _ s5 σ3 H5 x u _ I5' r5 (step x H5 y5)) λ_ s6 hP=>?_);obtain⟨σ6,H6,I6,q6⟩:=hP;refine wpAny_passesOwn hp (thn (hb _ s6 σ6 H6 _ I6 q6) λf s7 q7=>?_);have again:∀{σ7:St}{H7:Hp},Inv X (pins++zT fp s5.heap) σ7 H7 s7->N σ7 H7->∃m,m<n/\∃i σ' H',Inv X pins σ' H' s7/\tn i s7.heap/\(∀b∈fp,H' b=none)/\W i m σ' H':=λ{σ7 H7}I7 n7=>by
   obtain⟨m',hm,w7⟩:=hN σ7 H7 n7;refine⟨m',hm,i+1,σ7,H7,I7.unpinned,T.keep _ _ _ st5 λb hb o e=>(I7.pin (b,o) (aP _ (aP _ (lW hb e)))).1,λb hb=>?_,w7⟩;obtain⟨o,e,d⟩:=T.obj _ _ st5 b hb;exact(I7.pin (b,o) (aP _ (aP _ (lW hb e)))).2.1
  cases f with
  |next=>obtain⟨σ7,H7,I7,n7⟩:=q7;exact again I7 n7
  |cont=>obtain⟨σ7,H7,I7,n7⟩:=q7;exact again I7 n7
  |brk=>obtain⟨σ7,H7,I7,q7⟩:=q7;exact⟨σ7,H7,I7.unpinned,q7⟩
  |ret v=>obtain⟨x7,σ7,H7,I7,r7,q7⟩:=q7;exact⟨x7,σ7,H7,I7.unpinned,r7,q7⟩
end
theorem Jr{c:TT}{tb:TS}{D:Ends}{σ:St}{H:Hp}(Pv:St->Hp->Prop)(μ:St->Hp->Nat)(h0:Pv σ H)
 (hs:∀σ H,Pv σ H->c σ H λb H1=>if b=true then tb { D with nx:=λσ' H'=>Pv σ' H'/\μ σ' H'<μ σ H,ct:=λσ' H'=>Pv σ' H'/\μ σ' H'<μ σ H,bk:=D.nx } σ H1 else D.nx σ H1)
 (mono:∀σ H Q Q',(∀b H1,Q b H1->Q' b H1)->c σ H Q->c σ H Q'):Uw c tb D σ H:=by
 refine⟨λm σ H=>m=μ σ H/\Pv σ H,⟨_,rfl,h0⟩,?_⟩;rintro m σ H ⟨rfl,p⟩;refine mono σ H _ _ (λb H1 q=>?_) (hs σ H p);cases b with
 |true=>exact⟨_,λσ' H' hP=>by obtain⟨p',l⟩:=hP;exact⟨_,l,rfl,p'⟩,q⟩
 |false=>exact q
noncomputable abbrev R2:=V->V->Hp->VK->Prop
noncomputable def OpR(X:Cx)(f:Value->Value->Sem Value)(r:R2):Prop :=
 ∀(pins:Ψ)(s:Shared)(σ:St)(H:Hp)(x y:V)(v u:Value)(Q:VK),Inv X pins σ H s->RelV x v->RelV y u->r x y H Q ->
  wpAny (model X.prog X.w) X.A (f v u) (EP X pins σ Q) X.xe s
noncomputable def UnR(X:Cx)(f:Value->Sem Value)(r:V->Hp->VK->Prop):Prop :=
 ∀(pins:Ψ)(s:Shared)(σ:St)(H:Hp)(x:V)(v:Value)(Q:VK),Inv X pins σ H s->RelV x v->r x H Q ->
  wpAny (model X.prog X.w) X.A (f v) (EP X pins σ Q) X.xe s
noncomputable def d8(X:Cx)(f:Value)(r:Κ->Hp->VK->Prop):Prop :=
 ∀(pins:Ψ)(s:Shared)(σ:St)(H:Hp)(xs:Κ)(us:Ω)(Q:VK),Inv X pins σ H s->Vals xs us->r xs H Q ->
  wpAny (model X.prog X.w) X.A (call f us) (EP X pins σ Q) X.xe s
noncomputable def adp(X:Cx)(r:V->Hp->(Bool->Hp->Prop)->Prop):Prop :=
 ∀(pins:Ψ)(s:Shared)(σ:St)(H:Hp)(x:V)(v:Value)(Q:Bool->Hp->Prop),Inv X pins σ H s->RelV x v->r x H Q ->
  wpAny (model X.prog X.w) X.A (truthy v) (TP X pins σ Q) X.xe s
noncomputable def tOp(r:R2)(ta tb:TE):TE:=λσ H Q=>ta σ H λx H1=>tb σ H1 λy H2=>r x y H2 Q
noncomputable def tUn(r:V->Hp->VK->Prop)(ta:TE):TE:=λσ H Q=>ta σ H λx H1=>r x H1 Q
noncomputable def rI(C:Int->Int->Prop)(g:Int->Int->V):R2:=λx y H Q=>∃i j,x=.int i/\y=.int j/\C i j/\Q (g i j) H
noncomputable def rI0(g:Int->Int->V):R2:=λx y H Q=>∃i j,x=.int i/\y=.int j/\Q (g i j) H
noncomputable def rU(g:Int->V):V->Hp->VK->Prop:=λx H Q=>∃i,x=.int i/\Q (g i) H
section
variable{X:Cx}{a b c:Expr}{ta tb tc:TE}{pos:Pos}
theorem YT(ha:PE X a ta)(hb:PE X b tb){pins:Ψ}{s:Shared}{σ:St}{H:Hp}{R:V->V->Hp->Prop}(I:Inv X pins σ H s)
 (h:ta σ H λx H1=>tb σ H1 λy H2=>R x y H2){Q:Ι}{f:Value->Value->Sem Value}
 (hf:∀v u s2 x y H2,Inv X pins σ H2 s2->RelV x v->RelV y u->R x y H2->wpAny (model X.prog X.w) X.A (f v u) Q X.xe s2) :
  wpAny (model X.prog X.w) X.A (eval a X.env) (λv s₁=>wpAny (model X.prog X.w) X.A (eval b X.env) (λu s₂=>wpAny (model X.prog X.w) X.A (f v u) Q X.xe s₂) X.xe s₁) X.xe s:=by
 refine thn (ha pins s σ H _ I h) λv s1 hP=>?_;obtain⟨x,H1,I1,r1,q1⟩:=hP;refine thn (hb pins s1 σ H1 _ I1 q1) λu s2 hP=>?_;obtain⟨y,H2,I2,r2,q2⟩:=hP;exact hf v u s2 x y H2 I2 r1 r2 q2
theorem bR{op:Operator}{r:R2}(ho:OpR X (binaryOp op) r)(ha:PE X a ta)(hb:PE X b tb):PE X (.BinOp a op b pos) (tOp r ta tb):=by
 intro pins s σ H Q I h;exact wpAny_BinOp (YT ha hb I h λv u s2 x y H2 I2 rx ry q=>ho pins s2 σ H2 x y v u Q I2 rx ry q)
theorem Rx{op:UnaryOp}{r:V->Hp->VK->Prop}(ho:UnR X (unaryOp op) r)(ha:PE X a ta):PE X (.UnaryOp op a pos) (tUn r ta):=by
 intro pins s σ H Q I h;exact UnaryOp_ (thn (ha pins s σ H _ I h) λv s1 hP=>by obtain⟨x,H1,I1,r1,q1⟩:=hP;exact ho pins s1 σ H1 x v Q I1 r1 q1)
theorem opI{f:Value->Value->Sem Value}{C:Int->Int->Prop}{g:Int->Int->Int}
 (rule:∀(i j:Int)(t u:Tok)(s:Shared)(Q:Ι)(E:Ι),C i j->Q (.int (g i j) s.toks) { s with toks:=s.toks+1 }->wpAny (model X.prog X.w) X.A (f (.int i t) (.int j u)) Q E s) :
  OpR X f (rI C λi j=>.int (g i j)):=by
 intro pins s σ H x y v u Q I rx ry h;obtain⟨i,j,rfl,rfl,hc,q⟩:=h;obtain⟨t,rfl⟩:=rx;obtain⟨t',rfl⟩:=ry;exact rule i j t t' s _ _ hc ⟨.int (g i j),H,I.tok _,⟨_,rfl⟩,q⟩
theorem aam{f:Value->Value->Sem Value}{g:Int->Int->Int}
 (rule:∀(i j:Int)(t u:Tok)(s:Shared)(Q:Ι)(E:Ι),Q (.int (g i j) s.toks) { s with toks:=s.toks+1 }->wpAny (model X.prog X.w) X.A (f (.int i t) (.int j u)) Q E s) :
  OpR X f (rI0 λi j=>.int (g i j)):=by
 intro pins s σ H x y v u Q I rx ry h;obtain⟨i,j,rfl,rfl,q⟩:=h;obtain⟨t,rfl⟩:=rx;obtain⟨t',rfl⟩:=ry;exact rule i j t t' s _ _ ⟨.int (g i j),H,I.tok _,⟨_,rfl⟩,q⟩
theorem W2{f:Value->Value->Sem Value}{g:Int->Int->Bool}
 (rule:∀(i j:Int)(t u:Tok)(s:Shared)(Q:Ι)(E:Ι),Q (.bool (g i j)) s->wpAny (model X.prog X.w) X.A (f (.int i t) (.int j u)) Q E s) :
  OpR X f (rI0 λi j=>.bl (g i j)):=by
 intro pins s σ H x y v u Q I rx ry h;obtain⟨i,j,rfl,rfl,q⟩:=h;obtain⟨t,rfl⟩:=rx;obtain⟨t',rfl⟩:=ry;exact rule i j t t' s _ _ ⟨.bl (g i j),H,I,rfl,q⟩
noncomputable def acy(i j:Int):Prop:=0<=j/\j<=1000000/\i.natAbs<2^64
noncomputable def Zf(i j:Int):Prop:=(-(2^64)<i/\i<2^64)\/(-(2^64)<j/\j<2^64)
theorem Zf.ok{i j:Int}(h:Zf i j):IntMulOk i j:=by
 rcases h with⟨h1,h2⟩|⟨h1,h2⟩
 .exact .of_left (intBits_le_64 h1 h2)
 .exact .of_right (intBits_le_64 h1 h2)
theorem cX:OpR X (binaryOp .Add) (rI0 λi j=>.int (i+j)):=aam λ_ _ _ _ _ _ _ q=>add_int q
theorem HS:OpR X (binaryOp .Sub) (rI0 λi j=>.int (i-j)):=aam λ_ _ _ _ _ _ _ q=>sub_int q
theorem T7:OpR X (binaryOp .Mult) (rI Zf λi j=>.int (i*j)):=opI λ_ _ _ _ _ _ _ hc q=>mul_int q hc.ok
theorem dU:OpR X (binaryOp .Mod) (rI (λ_ j=>0<j) λi j=>.int (i%j)):=opI λi j _ _ _ _ _ hc q=>by
 have h1:(0:Int)<j:=hc;exact mod_int' (Int.ne_of_gt hc) (by rw[aW i (XY hc)];exact q)
theorem je:OpR X (binaryOp .Mod) (rI (λ_ j=>j≠0) λi j=>.int (i.fmod j)):=opI λ_ _ _ _ _ _ _ hc q=>mod_int' hc q
theorem Gx:OpR X (binaryOp .Pow) (rI acy λi j=>.int (i^j.toNat)):=opI λ_ _ _ _ _ _ _ hc q=>pow_int_small hc.1 hc.2.1 hc.2.2 q
theorem unI{f:Value->Sem Value}{g:Int->Int}
 (rule:∀(i:Int)(t:Tok)(s:Shared)(Q:Ι)(E:Ι),Q (.int (g i) s.toks) { s with toks:=s.toks+1 }->wpAny (model X.prog X.w) X.A (f (.int i t)) Q E s) :
  UnR X f (rU λi=>.int (g i)):=by
 intro pins s σ H x v Q I rx h;obtain⟨i,rfl,q⟩:=h;obtain⟨t,rfl⟩:=rx;exact rule i t s _ _ ⟨.int (g i),H,I.tok _,⟨_,rfl⟩,q⟩
theorem Mt:UnR X (unaryOp .USub) (rU λi=>.int (-i)):=unI λ_ _ _ _ _ q=>neg_int q
end
noncomputable def qJ:V->V->Bool
 |.non,.non=>true|.non,.int _=>true|.int _,.non=>true|.non,.bl _=>true|.bl _,.non=>true|.non,.str _=>true|.str _,.non=>true
 |.int _,.int _=>true|.bl _,.bl _=>true|.str _,.str _=>true|.byt _,.byt _=>true
 |.int _,.str _=>true|.str _,.int _=>true|.bl _,.str _=>true|.str _,.bl _=>true
 |_,_=>false
noncomputable def rEq:R2:=λx y H Q=>qJ x y=true/\Q (.bl (decide (x=y))) H
noncomputable def rNe:R2:=λx y H Q=>qJ x y=true/\Q (.bl (!decide (x=y))) H
theorem N6{i j:Int} : decide (V.int i=V.int j)=(i==j):=by
 rw[Bool.eq_iff_iff];simp
theorem Tj{i j:Bool} : decide (V.bl i=V.bl j)=(i==j):=by
 rw[Bool.eq_iff_iff];simp
theorem Nu{i j:Str} : decide (V.str i=V.str j)=(i==j):=by
 rw[Bool.eq_iff_iff];simp
theorem M_{i j:Array UInt8} : decide (V.byt i=V.byt j)=(i.toList==j.toList):=by
 rw[Bool.eq_iff_iff];cases i;cases j;simp
section
variable{X:Cx}{a b c:Expr}{ta tb tc:TE}{pos:Pos}
theorem cR{pins:Ψ}{σ:St}{H:Hp}{s:Shared}{Q:VK}{k k':Bool}(I:Inv X pins σ H s)(q:Q (.bl k) H)(e:k=k'):EP X pins σ Q (.bool k') s:=by
 subst e;exact⟨.bl k,H,I,rfl,q⟩
theorem qF:OpR X (compareOp .Eq) rEq:=by
 intro pins s σ H x y v u Q I rx ry h;obtain⟨hs,q⟩:=h;cases x with
 |non =>
  cases rx;cases y with
  |non=>cases ry;exact PySem.EqNone.eq_none_none (cR I q (by simp))
  |bl j=>cases ry;exact PySem.EqNone.eq_none_bool (cR I q (by simp))
  |int j=>obtain⟨t',rfl⟩:=ry;exact PySem.EqNone.eq_none_int (cR I q (by simp))
  |str j=>obtain⟨t',rfl⟩:=ry;exact PySem.EqNone.eq_none_str (cR I q (by simp))
  |_=>exact absurd (show false=true from hs) bC
 |bl i =>
  cases rx;cases y with
  |non=>cases ry;exact PySem.EqNone.eq_bool_none (cR I q (by simp))
  |bl j=>cases ry;exact eq_bool (cR I q Tj)
  |str j=>obtain⟨t',rfl⟩:=ry;exact PySem.EqMixed.eq_bool_str (cR I q (by simp))
  |_=>exact absurd (show false=true from hs) bC
 |int i =>
  obtain⟨t,rfl⟩:=rx;cases y with
  |non=>cases ry;exact PySem.EqNone.eq_int_none (cR I q (by simp))
  |int j=>obtain⟨t',rfl⟩:=ry;exact eq_int (cR I q N6)
  |str j=>obtain⟨t',rfl⟩:=ry;exact PySem.EqMixed.eq_int_str (cR I q (by simp))
  |_=>exact absurd (show false=true from hs) bC
 |str i =>
  obtain⟨t,rfl⟩:=rx;cases y with
  |non=>cases ry;exact PySem.EqNone.eq_str_none (cR I q (by simp))
  |bl j=>cases ry;exact PySem.EqMixed.eq_str_bool (cR I q (by simp))
  |int j=>obtain⟨t',rfl⟩:=ry;exact PySem.EqMixed.eq_str_int (cR I q (by simp))
  |str j=>obtain⟨t',rfl⟩:=ry;exact eq_str (cR I q Nu)
  |_=>exact absurd (show false=true from hs) bC
 |byt i =>
  obtain⟨t,rfl⟩:=rx;cases y with
  |byt j=>obtain⟨t',rfl⟩:=ry;exact PySem.W.eq_bytes (cR I q M_)
  |_=>exact absurd (show false=true from hs) bC
 |_=>cases y<;>exact absurd (show false=true from hs) bC
theorem El:OpR X (compareOp .NotEq) rNe:=by
 intro pins s σ H x y v u Q I rx ry h;obtain⟨hs,q⟩:=h;cases x with
 |non =>
  cases rx;cases y with
  |non=>cases ry;exact PySem.EqNone.ne_none_none (cR I q (by simp))
  |bl j=>cases ry;exact PySem.EqNone.ne_none_bool (cR I q (by simp))
  |int j=>obtain⟨t',rfl⟩:=ry;exact PySem.EqNone.ne_none_int (cR I q (by simp))
  |str j=>obtain⟨t',rfl⟩:=ry;exact PySem.EqNone.ne_none_str (cR I q (by simp))
  |_=>exact absurd (show false=true from hs) bC
 |bl i =>
  cases rx;cases y with
  |non=>cases ry;exact PySem.EqNone.ne_bool_none (cR I q (by simp))
  |bl j=>cases ry;exact ne_bool (cR I q (ZH not Tj))
  |str j=>obtain⟨t',rfl⟩:=ry;exact PySem.EqMixed.ne_bool_str (cR I q (by simp))
  |_=>exact absurd (show false=true from hs) bC
 |int i =>
  obtain⟨t,rfl⟩:=rx;cases y with
  |non=>cases ry;exact PySem.EqNone.ne_int_none (cR I q (by simp))
  |int j=>obtain⟨t',rfl⟩:=ry;exact ne_int (cR I q (ZH not N6))
  |str j=>obtain⟨t',rfl⟩:=ry;exact PySem.EqMixed.ne_int_str (cR I q (by simp))
  |_=>exact absurd (show false=true from hs) bC
 |str i =>
  obtain⟨t,rfl⟩:=rx;cases y with
  |non=>cases ry;exact PySem.EqNone.ne_str_none (cR I q (by simp))
  |bl j=>cases ry;exact PySem.EqMixed.ne_str_bool (cR I q (by simp))
  |int j=>obtain⟨t',rfl⟩:=ry;exact PySem.EqMixed.ne_str_int (cR I q (by simp))
  |str j=>obtain⟨t',rfl⟩:=ry;exact ne_str (cR I q (ZH not Nu))
  |_=>exact absurd (show false=true from hs) bC
 |byt i =>
  obtain⟨t,rfl⟩:=rx;cases y with
  |byt j=>obtain⟨t',rfl⟩:=ry;exact PySem.W.ne_bytes (cR I q (ZH not M_))
  |_=>exact absurd (show false=true from hs) bC
 |_=>cases y<;>exact absurd (show false=true from hs) bC
theorem Bc:OpR X (compareOp .Lt) (rI0 λi j=>.bl (decide (i<j))):=W2 λ_ _ _ _ _ _ _ q=>lt_int q
theorem Jm:OpR X (compareOp .LtE) (rI0 λi j=>.bl (decide (i<=j))):=W2 λ_ _ _ _ _ _ _ q=>le_int q
theorem NZ:OpR X (compareOp .Gt) (rI0 λi j=>.bl (decide (j<i))):=W2 λ_ _ _ _ _ _ _ q=>gt_int q
theorem Yb:OpR X (compareOp .GtE) (rI0 λi j=>.bl (decide (j<=i))):=W2 λ_ _ _ _ _ _ _ q=>ge_int q
theorem Hu:OpR X (compareOp .Is) (λx y H Q=>y=.non/\Q (.bl (decide (x=.non))) H):=by
 intro pins s σ H x y v u Q I rx ry h;obtain⟨rfl,q⟩:=h;cases ry;refine is_none_gen (cR I q ?_);cases x<;>first
  |(cases rx;rfl)
  |(obtain⟨t,rfl⟩:=rx;rfl)
theorem WQ:OpR X (compareOp .IsNot) (λx y H Q=>y=.non/\Q (.bl (!decide (x=.non))) H):=by
 intro pins s σ H x y v u Q I rx ry h;obtain⟨rfl,q⟩:=h;cases ry;refine isnot_none_gen (cR I q ?_);cases x<;>first
  |(cases rx;rfl)
  |(obtain⟨t,rfl⟩:=rx;rfl)
theorem cH(b:Expr){op:CmpOp}(h:op≠.In:=by decide)(h2:op≠.NotIn:=by decide):behindInMarks op b=false:=by
 have e1:(op==CmpOp.In)=false:=by cases op<;>first|rfl|exact absurd rfl h
 have e2:(op==CmpOp.NotIn)=false:=by cases op<;>first|rfl|exact absurd rfl h2
 cases b<;>simp[behindInMarks,e1,e2]
theorem h_{op:CmpOp}{r:R2}(ho:OpR X (compareOp op) r)(ha:PE X a ta)(hb:PE X b tb)(hm:behindInMarks op b=false):PE X (.Compare a [op] [b] pos) (tOp r ta tb):=by
 intro pins s σ H Q I h;exact wpAny_Compare1 (YT ha hb I h λv u s2 x y H2 I2 rx ry q=>ho pins s2 σ H2 x y v u Q I2 rx ry q) hm
noncomputable def Jx(t:TE):TT:=λσ H Q=>t σ H λx H'=>∃k,x=.bl k/\Q k H'
theorem cU{op:CmpOp}{r:R2}(ho:OpR X (compareOp op) r)(ha:PE X a ta)(hb:PE X b tb)(hm:behindInMarks op b=false):PT X (.Compare a [op] [b] pos) (Jx (tOp r ta tb)):=by
 intro pins s σ H Q I h;refine wpAny_isTrue_Compare1 (thn (ha pins s σ H _ I h) λv s1 ⟨x,H1,I1,r1,q1⟩=>thn (hb pins s1 σ H1 _ I1 q1) λu s2 ⟨y,H2,I2,r2,q2⟩ =>
  thn (ho pins s2 σ H2 x y v u _ I2 r1 r2 q2) λc s3 ⟨z,H3,I3,r3,k,e,q3⟩=>?_) hm
 subst e;cases r3;exact wpAny_truthy_bool ⟨H3,I3,q3⟩
noncomputable def zX(r r':R2)(ta tb tc:TE):TE:=λσ H Q=>ta σ H λx H1=>tb σ H1 λy H2=>r x y H2 λz H3=>∃k,z=.bl k /\
 (if k=true then tc σ H3 λw' H4=>r' y w' H4 Q else Q (.bl false) H3)
theorem Il{op op':CmpOp}{r r':R2}(ho:OpR X (compareOp op) r)(ho':OpR X (compareOp op') r')(ha:PE X a ta)(hb:PE X b tb)(hc:PE X c tc)
 (hm:lastMarks [op,op'] [b,c]=false:=by with_unfolding_all rfl):PE X (.Compare a [op,op'] [b,c] pos) (zX r r' ta tb tc):=by
 intro pins s σ H Q I h;refine Compare_chain (thn (ha pins s σ H _ I h) λv s1 ⟨x,H1,I1,r1,q1⟩=>chain_link (thn (hb pins s1 σ H1 _ I1 q1) λu s2 ⟨y,H2,I2,r2,q2⟩ =>
  thn (ho pins s2 σ H2 x y v u _ I2 r1 r2 q2) λd s3 ⟨z,H3,I3,r3,k,e,q3⟩=>?_)) hm
 subst e;cases r3;refine wpAny_truthy_bool ?_;cases k with
 |false=>exact ite_ff ⟨.bl false,H3,I3,rfl,q3⟩
 |true=>exact ite_tt (chain_last (thn (hc pins s3 σ H3 _ I3 q3) λw' s4 hP=>by obtain⟨z',H4,I4,r4,q4⟩:=hP;exact ho' pins s4 σ H4 y z' u w' Q I4 r2 r4 q4))
theorem Bp{op op':CmpOp}{r r':R2}(ho:OpR X (compareOp op) r)(ho':OpR X (compareOp op') r')(ha:PE X a ta)(hb:PE X b tb)(hc:PE X c tc)
 (hm:lastMarks [op,op'] [b,c]=false:=by with_unfolding_all rfl):PT X (.Compare a [op,op'] [b,c] pos) (Jx (zX r r' ta tb tc)):=by
 intro pins s σ H Q I h;refine isTrue_chain (thn (ha pins s σ H _ I h) λv s1 ⟨x,H1,I1,r1,q1⟩=>test_link (thn (hb pins s1 σ H1 _ I1 q1) λu s2 ⟨y,H2,I2,r2,q2⟩ =>
  thn (ho pins s2 σ H2 x y v u _ I2 r1 r2 q2) λd s3 ⟨z,H3,I3,r3,k,e,q3⟩=>?_)) hm
 subst e;cases r3;refine wpAny_truthy_bool ?_;cases k with
 |false =>
  obtain⟨k',e',q'⟩:=q3;cases e';exact ite_ff ⟨H3,I3,q'⟩
 |true =>
  refine ite_tt (test_last (thn (hc pins s3 σ H3 _ I3 q3) λw' s4 ⟨z',H4,I4,r4,q4⟩=>thn (ho' pins s4 σ H4 y z' u w' _ I4 r2 r4 q4) λd' s5 hP=>?_));obtain⟨z2,H5,I5,r5,k2,e2,q5⟩:=hP;subst e2;cases r5;exact wpAny_truthy_bool ⟨H5,I5,q5⟩
noncomputable def aav(K:Frag)(x:V)(H:Hp)(k:Bool):Prop :=
 match x with
 |.non=>k=false
 |.bl b=>k=b
 |.int i=>k=(i != 0)
 |.str y=>y.length<=sizeLine/\k=((y.length:Int) != 0)
 |.byt y=>y.size<=sizeLine/\k=((y.size:Int) != 0)
 |.ref p=>(∃xs,SqL K H p xs/\k = !xs.isEmpty)\/(∃xs,SqT K H p xs/\k = !xs.isEmpty)\/∃kvs,H p=some (.dK kvs)/\k = !kvs.isEmpty
 |_=>False
theorem K1{κ:Type}{kvs:List (κ×V)}{vs:List (κ×Value)}(r:KV kvs vs):(!vs.isEmpty) = !kvs.isEmpty:=by
 cases r<;>rfl
theorem Aj{xs:Κ}{its:Ω}(r:Vals xs its):(!its.toArray.isEmpty) = !xs.isEmpty:=by
 cases r<;>simp
theorem uQ:(sizeLine:Nat)<2^63:=by rw[sizeLine_eq];decide
theorem YL:adp X (λx H Q=>∃k,aav X.K x H k/\Q k H):=by
 intro pins s σ H x v Q I rx h;obtain⟨k,e,q⟩:=h;have hl:=uQ;have hs:sizeLine=16777216:=sizeLine_eq;cases x with
 |non =>
  cases rx;have e':k=false:=e;subst e';exact truthy_none ⟨H,I,q⟩
 |bl b =>
  cases rx;have e':k=b:=e;subst e';exact wpAny_truthy_bool ⟨H,I,q⟩
 |int i =>
  obtain⟨t,rfl⟩:=rx;have e':k=(i != 0):=e;subst e';exact PySem.P.truthy_int ⟨H,I,q⟩
 |str y =>
  obtain⟨t,rfl⟩:=rx;obtain⟨hy,e'⟩ : y.length<=sizeLine/\k=((y.length:Int) != 0):=e;subst e';exact PySem.P.truthy_str (by lia) ⟨H,I.tok _,q⟩
 |byt y =>
  obtain⟨t,rfl⟩:=rx;obtain⟨hy,e'⟩ : y.size<=sizeLine/\k=((y.size:Int) != 0):=e;subst e';exact PySem.W.truthy_bytes (aL hy (by decide)) ⟨H,I.tok _,q⟩
 |ref p =>
  cases rx;have e':(∃xs,SqL X.K H p xs/\k = !xs.isEmpty)\/(∃xs,SqT X.K H p xs/\k = !xs.isEmpty)\/∃kvs,H p=some (.dK kvs)/\k = !kvs.isEmpty:=e;rcases e' with⟨xs,hx,e'⟩|⟨xs,hx,e'⟩|⟨kvs,hx,e'⟩
  .subst e';obtain⟨its,r,pl,hz⟩:=I.list hx;have hlen:=r.length;exact wpAny_truthy_list pl.isList (by simp only[aY];lia) ⟨H,I.tok _,by rw[Aj r];exact q⟩
  .subst e';obtain⟨its,r,pl,hz⟩:=I.tuple hx;have hlen:=r.length;exact truthy_tuple pl (by simp only[aY];lia) ⟨H,I.tok _,by rw[Aj r];exact q⟩
  .subst e';obtain⟨hz,hS,vs,r,m⟩ : kvs.length<=sizeLine/\(p==sysModules)=false/\∃vs,KV kvs vs/\s.heap.DictOf (fY X.prog X.w) p vs:=I.hok p _ hx;have hlen:kvs.length=vs.length:=Paired.length r;exact wpAny_truthy_dict hS m (by lia) ⟨H,I.tok _,by rw[K1 r];exact q⟩
 |_=>exact(show False from e).elim
theorem La:OpR X (binaryOp .Add) (λx y H Q=>∃i j,x=.str i/\y=.str j/\i.length+j.length<=sizeLine/\Q (.str (i++j)) H):=by
 intro pins s σ H x y v u Q I rx ry h;obtain⟨i,j,rfl,rfl,hz,q⟩:=h;obtain⟨t,rfl⟩:=rx;obtain⟨t',rfl⟩:=ry;exact add_str (λt' tk=>⟨.str (i++j),H,I.tok _,⟨_,rfl⟩,q⟩) hz
theorem vals1{x:V}{us:Ω}(r:Vals [x] us):∃u,us=[u]/\RelV x u:=by
 cases r with
 |cons r1 r2=>cases r2;exact⟨_,rfl,r1⟩
theorem sX:d8 X (.builtin "abs") (λxs H Q=>∃i,xs=[.int i]/\Q (.int (if i<0 then -i else i)) H):=by
 intro pins s σ H xs us Q I r h;obtain⟨i,rfl,q⟩:=h;obtain⟨u,rfl,t,rfl⟩:=vals1 r;exact call_abs_int λu tk=>⟨.int (if i<0 then -i else i),H,I.tok _,⟨_,rfl⟩,q⟩
theorem Pj:d8 X (.type "int") (λxs H Q=>(∃i,xs=[.int i]/\Q (.int i) H)\/∃k,xs=[.bl k]/\Q (.int (if k then 1 else 0)) H):=by
 intro pins s σ H xs us Q I r h;rcases h with⟨i,rfl,q⟩|⟨k,rfl,q⟩
 .obtain⟨u,rfl,t,rfl⟩:=vals1 r;exact call_int_int ⟨.int i,H,I,⟨_,rfl⟩,q⟩
 .obtain⟨u,rfl,r1⟩:=vals1 r;cases r1;exact call_int_bool ⟨.int (if k then 1 else 0),H,I.tok _,⟨_,rfl⟩,q⟩
end
structure Lf(h:Heap)(x dx C:Addr)(mA:Str->Ε):Prop where
 obj:h.get? x=some (instObj C dx)
 ns:h.Ns1 dx mA
 ne:dx≠x
theorem D_{h:Heap}{dx:Addr}{mA:Str->Ε}(n:h.Ns1 dx mA):∃od,h.get? dx=some od/\∀name,lookIn name od=some (mA name):=by
 obtain⟨o,es,ep,ho,hd,hk,_,hm⟩:=n;refine⟨o,ho,λname=>?_⟩;have e:=hm name;unfold nsFind findBy at e;rw[<- Array.find?_toList]at e;unfold lookIn;rw[hd];dsimp only;split
 .rename_i y q
  rw[q]at e;exact ZH some e
 .rename_i q
  rw[q]at e;have a:es.toList.any (·.refKey)=false:=by
   rw[List.any_eq_false];intro y hy;obtain⟨z,t,hkey⟩:=hk y (Array.mem_toList_iff.mp hy);simp[DictEntry.refKey,hkey]
  have a':¬es.toList.any (·.refKey)=true:=by rw[a];exact bC
  rw[ZZ a'];exact ZH some e
theorem Lf.look{h:Heap}{x dx C:Addr}{mA:Str->Ε}(I:Lf h x dx C mA):∃od,PySem.W.InstAt h x (instObj C dx) C (some od)/\∀name,lookIn name od=some (mA name) :=
 let⟨od,ho,hl⟩:=D_ I.ns
 ⟨od,⟨I.obj,rfl,rfl,ho⟩,hl⟩
section
variable{prog:Program}{w:World}{A:Around}{E:Ι}{s:Shared}{K:Frag}{x dx C f:Addr}{mA:Str->Ε}{name:Str}{v:Value}
theorem get_map{expr:Bool}{Q:Ι}(X:K.In s.heap)(I:Lf s.heap x dx C mA)(hg:plainGet K C name=true)(hh:hasDictIn K C=true)
 (ha:findIn K (.ref C) name=some none)(hv:mA name=some v)(hv':handedIn v=true)(h:Q v { s with toks:=s.toks+1 }) :
  wpAny (model prog w) A (getAttr (.ref x) name expr) Q E s:=by
 obtain⟨od,J,hl⟩:=I.look;exact PySem.W.get_value X J (plainGet_of hg).1 (findObj_own hh ha rfl (by rw[hl,hv])) hv' h
theorem Vh{pl:Sem Bool}{Q:Value×Ω->Shared->Prop}(X:K.In s.heap)(I:Lf s.heap x dx C mA)(hg:plainGet K C name=true)
 (hf:findIn K (.ref C) name=some (some (.ref f)))(ht:isFn K (.ref f)=true)(hv:mA name=none)(h:Q (.ref f,[.ref x]) s) :
  wpAny (model prog w) A (getMethod (.ref x) name pl) Q E s:=by
 obtain⟨od,J,hl⟩:=I.look;exact PySem.W.method_fn X J (plainGet_of hg).1 (plainGet_of hg).2 hf (beq_iff_eq.mp ht) (by show(lookIn name od).map (·.isSome)=some false;rw[hl,hv];rfl) h
theorem V_{ns:Ξ}{Q:Unit->Shared->Prop}(X:K.In s.heap)(I:Lf s.heap x dx C mA)
 (hs:findIn K (.ref C) "__setattr__" = some (some (.builtin "object.__setattr__")))(hp:plainOver K C=true)(ht:takerIn K C name=some none)(hh:hasDictIn K C=true)
 (hw:PySem.Within mA ns)(hsz:ns.length<=sizeLine)
 (h:∀h',Lf h' x dx C (λy=>if y=name then some v else mA y)->Heap.SameBut dx s.heap h'->Q () { s with heap:=h',toks:=s.toks+2 }) :
  wpAny (model prog w) A (setAttr (.ref x) name v) Q E s:=by
 obtain⟨od,J,hl⟩:=I.look;refine set_plain X J hs (PySem.W.osa_open (s:={ s with toks:=s.toks+1 }) (r:=none) X J hp ht λb=>?_);obtain⟨cd,hc,hd'⟩:=PySem.W.any_some hh;have hx:s.heap.get? x=some ⟨.ref C,some dx,.plain,#[]⟩:=I.obj;refine ZU (ZT (ZU (ZU (wpAny_loadPart hx (ZU (PySem.W.Looks.here (s:={ s with toks:=s.toks+1 }) (looks_clsIn X hc) ?_))))));rw[hd'];refine ZT (a:=some dx) (ZU (ZT (ZU ?_)));refine wpAny_nsSet1 (s:={ s with toks:=s.toks+1 }) I.ns λh' hn2 hs2=>?_;obtain⟨oD,esD,epD,hoD,hdD,hcD⟩:=hn2.count (PySem.Within.cons name v hw);refine ZU (wpAny_lookBehind hoD (by rw[hdD];exact pastItsLine_dict (aL hcD (by rw[List.length_cons];exact Nat.succ_le_succ hsz))) ?_);exact ZT (h _ ⟨(hs2.2 _ (Ne.symm I.ne)).trans I.obj,hn2,I.ne⟩ hs2)
theorem Rh{R:Result->Shared->Prop}{vs:Ω}{kw:List (Str×Value)}(X:K.In s.heap)(hm:makesIn K C=true)
 (hi:findIn K (.ref C) "__init__" = some (some (.ref f)))(hf:typeIn K (.ref f)=some (.type "function"))
 (h:codeAny (model prog w) (A.under (.builtin "type.__call__" ⟨.ref C::vs,kw⟩)) (.call (.ref f) ⟨.ref (s.heap.objs.size+1)::vs,kw⟩) (PySem.W.InitBack (s.heap.objs.size+1) R)
   { s with heap:=(s.heap.push emptyDict).push (instObj C s.heap.objs.size) }) :
  codeAny (model prog w) A (.call (.ref C) ⟨vs,kw⟩) R s:=by
 obtain⟨hh,g,d,t,os⟩:=s;exact PySem.W.make_core (PySem.W.makes_of X hm) (looks_findIn X hi) (λself=>PySem.W.bind_fn X self hf) (.inl rfl) h
end
noncomputable def jq(f:Str)(v:V):List (Str×V)->List (Str×V)
 |[]=>[(f,v)]
 |(g,x)::r=>if g=f then(g,v)::r else(g,x)::jq f v r
theorem yc(f g:Str)(v:V):∀fs:List (Str×V),(jq f v fs).lookup g=if g=f then some v else fs.lookup g
 |[]=>by
  show List.lookup g [(f,v)]=_;by_cases h:g=f
  .have hb:(g==f)=true:=beq_iff_eq.mpr h;simp only[List.lookup,hb,ZY h]
  .have hb:(g==f)=false:=beq_eq_false_iff_ne.mpr h;simp only[List.lookup,hb,ZZ h]
 |(k,x)::r=>by
  have ih:=yc f g v r;rw[show jq f v ((k,x)::r)=(if k=f then(k,v)::r else(k,x)::jq f v r)from rfl];by_cases hk:k=f
  .rw[ZY hk];by_cases h:g=k
   .have hb:(g==k)=true:=beq_iff_eq.mpr h;simp only[List.lookup,hb,ZY (h.trans hk)]
   .have hb:(g==k)=false:=beq_eq_false_iff_ne.mpr h;simp only[List.lookup,hb,ZZ (λe:g=f=>h (e.trans hk.symm))]
  .rw[ZZ hk];by_cases h:g=k
   .have hb:(g==k)=true:=beq_iff_eq.mpr h;simp only[List.lookup,hb,ZZ (λe:g=f=>hk (h.symm.trans e))]
   .have hb:(g==k)=false:=beq_eq_false_iff_ne.mpr h;simp only[List.lookup,hb];exact ih
theorem wX(f:Str)(v:V):∀fs:List (Str×V),f∈(jq f v fs).map (·.1)/\∀g,g∈fs.map (·.1)->g∈(jq f v fs).map (·.1)
 |[]=>⟨by simp[jq],λg h=>by simp at h⟩
 |(k,x)::r=>by
  obtain⟨i1,i2⟩:=wX f v r;rw[show jq f v ((k,x)::r)=(if k=f then(k,v)::r else(k,x)::jq f v r)from rfl];by_cases hk:k=f
  .rw[ZY hk];subst hk;exact⟨by simp,λg h=>by simpa using h⟩
  .rw[ZZ hk];refine⟨?_,λg h=>?_⟩
   .rw[List.map_cons];exact aH _ i1
   .rw[List.map_cons]at h ⊢;rcases YU.mp h with e|e
    .exact YU.mpr (.inl e)
    .exact aH _ (i2 g e)
theorem yp(f:Str)(v:V):∀fs:List (Str×V),(jq f v fs).length<=fs.length+1
 |[]=>by simp[jq]
 |(k,x)::r=>by
  have ih:=yp f v r;rw[show jq f v ((k,x)::r)=(if k=f then(k,v)::r else(k,x)::jq f v r)from rfl];by_cases hk:k=f
  .rw[ZY hk,List.length_cons,List.length_cons];exact Xs _
  .rw[ZZ hk,List.length_cons,List.length_cons];exact Nat.succ_le_succ ih
theorem qZ.some_of{v:V}{o:Ε}(r:qZ (some v) o):∃u,o=some u/\RelV v u:=by
 cases o with
 |none=>exact(show False from r).elim
 |some u=>exact⟨u,rfl,r⟩
theorem qZ.none_of{o:Ε}(r:qZ none o):o=none:=by
 cases o with
 |none=>rfl
 |some u=>exact(show False from r).elim
theorem DR{v:V}{u:Value}(r:RelV v u):handedIn u=true:=by
 cases v with
 |non=>cases(show u=Value.none from r);rfl
 |bl b=>cases(show u=Value.bool b from r);rfl
 |int i=>obtain⟨t,e⟩:=(show ∃t,u=Value.int i t from r);cases e;rfl
 |str x=>obtain⟨t,e⟩:=(show ∃t,u=Value.str x t from r);cases e;rfl
 |byt b=>obtain⟨t,e⟩:=(show ∃t,u=Value.bytes b t from r);cases e;rfl
 |flt b=>obtain⟨t,e⟩:=(show ∃t,u=Value.float b t from r);cases e;rfl
 |ref a=>cases(show u=Value.ref a from r);rfl
 |ty n=>cases(show u=Value.type n from r);rfl
section
variable{P:Program}{w:World}{H H':Hp}{h h':Heap}{a C dx:Addr}{fs fs':List (Str×V)}
theorem yM(hok:HOk P w H h)(e:H a=some (.ins C dx fs)):∃mA,Lf h a dx C mA/\(∀f,qZ (fs.lookup f) (mA f))/\PySem.Within mA (fs.map (·.1))/\fs.length<=1000/\H dx=some (.own a):=by
 obtain⟨d,z,ne,ob,mA,n,r,q⟩:=(show cV P w H h a (.ins C dx fs)from hok a _ e);exact⟨mA,⟨ob,n,ne⟩,r,q,z,d⟩
end
structure Cls(K:Frag)(C:Addr):Prop where
 pg:plainGet K C Str.empty=true
 hd:hasDictIn K C=true
 po:plainOver K C=true
 sa:findIn K (.ref C) "__setattr__" = some (some (.builtin "object.__setattr__"))
theorem Cls.get{K:Frag}{C:Addr}(c:Cls K C)(f:Str):plainGet K C f=true:=c.pg
noncomputable def dj(K:Frag)(C:Addr)(f:Str):Prop:=findIn K (.ref C) f=some none
theorem dj.taker{K:Frag}{C:Addr}{f:Str}(n:dj K C f):takerIn K C f=some none:=by
 unfold takerIn;rw[show findIn K (.ref C) f=some none from n]
 rfl
structure Meth(K:Frag)(C:Addr)(m:Str)(f:Addr):Prop where
 at_:findIn K (.ref C) m=some (some (.ref f))
 fn:isFn K (.ref f)=true
 kp:keepIn K (.ref f)=true
section
variable{X:Cx}{pins:Ψ}{σ:St}{H:Hp}{s:Shared}{a C dx:Addr}{fs:List (Str×V)}{f:Str}{v:V}{A:Around}{E:Ι}
theorem Mg{b:Bool}{Q:Ι}(I:Inv X pins σ H s)(e:H a=some (.ins C dx fs))(c:Cls X.K C)(n:dj X.K C f)(l:fs.lookup f=some v)
 (h:∀u s',Inv X pins σ H s'->RelV v u->Q u s'):wpAny (model X.prog X.w) A (getAttr (.ref a) f b) Q E s:=by
 obtain⟨mA,O,r,_,_,_⟩:=yM I.hok e;obtain⟨u,hu,ru⟩:=qZ.some_of (v:=v) (o:=mA f) (by rw[<- l];exact r f);exact get_map I.kIn O (c.get f) c.hd n hu (DR ru) (h u _ (I.tok _) ru)
theorem uN{m:Str}{g:Addr}{pl:Sem Bool}{Q:Value×Ω->Shared->Prop}(I:Inv X pins σ H s)(e:H a=some (.ins C dx fs))(c:Cls X.K C)(k:Meth X.K C m g)(l:fs.lookup m=none)
 (h:Q (.ref g,[.ref a]) s):wpAny (model X.prog X.w) A (getMethod (.ref a) m pl) Q E s:=by
 obtain⟨mA,O,r,_,_,_⟩:=yM I.hok e;have hn:mA m=none:=qZ.none_of (by rw[<- l];exact r m);exact Vh I.kIn O (c.get m) k.at_ k.fn hn h
theorem K9{y:V}{u:Value}{Q:Unit->Shared->Prop}(I:Inv X pins σ H s)(e:H a=some (.ins C dx fs))(c:Cls X.K C)(n:dj X.K C f)(hl:fs.length<1000)(ry:RelV y u)
 (h:∀s',Inv X pins σ (upd H a (.ins C dx (jq f y fs))) s'->Q () s'):wpAny (model X.prog X.w) A (setAttr (.ref a) f u) Q E s:=by
 obtain⟨mA,O,r,wi,_,ho⟩:=yM I.hok e;have hz:(fs.map (·.1)).length<=sizeLine:=by rw[ak,sizeLine_eq];exact aL (Y2 hl) (by decide)
 refine V_ I.kIn O c.sa c.po n.taker c.hd wi hz λh' O' sb=>h _ ?_;have hd:∃o,h'.get? dx=some o:=by obtain⟨o,_,_,e',_⟩:=O'.ns;exact⟨o,e'⟩
 refine I.write (x:=a) (e:=dx) (by rw[e];exact True.intro) (.inr ho) (λb q hb z=>(sb.2 b hb).trans z) hd ?_;refine⟨by rw[bL O.ne];exact ho,?_,O.ne,O'.obj,_,O'.ns,λg=>?_,λg hg=>?_⟩
 .have:=yp f y fs;lia
 .show qZ ((jq f y fs).lookup g) (if g=f then some u else mA g);rw[yc];by_cases q:g=f
  .rw[ZY q,ZY q];exact ry
  .rw[ZZ q,ZZ q];exact r g
 .by_cases q:g=f
  .rw[q];exact(wX f y fs).1
  .refine(wX f y fs).2 g (wi g λz=>hg ?_);show(if g=f then some u else mA g)=none;rw[ZZ q];exact z
theorem Inv.made(I:Inv X pins σ H s):Inv X pins σ (upd (upd H s.heap.objs.size (.own (s.heap.objs.size+1))) (s.heap.objs.size+1) (.ins C s.heap.objs.size []))
  { s with heap:=(s.heap.push emptyDict).push (instObj C s.heap.objs.size) }:=by
 have e1:(s.heap.push emptyDict).get? s.heap.objs.size=some emptyDict:=aX s.heap rfl;have e2:((s.heap.push emptyDict).push (instObj C s.heap.objs.size)).get? (s.heap.objs.size+1)=some (instObj C s.heap.objs.size):=by
  have:=aX (s.heap.push emptyDict) (o:=instObj C s.heap.objs.size) rfl;rwa[Heap.size_push]at this
 have e3:(s.heap.push emptyDict).Ns s.heap.objs.size (λ_=>none):=⟨emptyDict,#[],_,e1,rfl,(λe he=>absurd he (by simp)),λ_=>rfl⟩;have I1:=I.laid (a:=s.heap.objs.size) (o:=.own (s.heap.objs.size+1)) (h':=s.heap.push emptyDict) (t':=s.toks) (λb u q=>aG _ q) (aF _) ⟨_,e1⟩;refine I1.laid (a:=s.heap.objs.size+1) (o:=.ins C s.heap.objs.size []) (t':=s.toks) (λb u q=>aG _ q) (Nat.le_of_eq (Heap.size_push _ _)) ?_;have ne:s.heap.objs.size≠s.heap.objs.size+1:=aQ (Nat.lt_succ_self _);refine⟨by rw[bL ne,bI],bh _,ne,e2,λ_=>none,(Heap.Ns1.of_empty e3).at λo q=>aG _ q,λ_=>True.intro,λy hy=>absurd rfl hy⟩
theorem Np{prog:Program}{w:World}{env:Env}{e:Expr}{f:Str}{pos:Pos}{s:Shared}{Q:Ι}(hb:attributeBase e f env (eval e env)=eval e env)
 (h:wpAny (model prog w) A (eval e env) (λo s₁=>wpAny (model prog w) A (getAttr o f true) Q E s₁) E s):wpAny (model prog w) A (eval (.Attribute e f pos) env) Q E s :=
 Attribute_any_ h (by rw[arm_eval_Attribute,hb])
end
noncomputable def Q5(K:Frag)(ta:TE)(f:Str):TE:=λσ H Q=>ta σ H λx H1=>∃a C dx fs v,x=.ref a/\H1 a=some (.ins C dx fs)/\Cls K C/\dj K C f/\fs.lookup f=some v/\Q v H1
noncomputable def Wo(K:Frag)(ta tv:TE)(f:Str):TS:=λD σ H=>tv σ H λy H1=>ta σ H1 λx H2=>∃a C dx fs,x=.ref a/\H2 a=some (.ins C dx fs)/\Cls K C/\dj K C f/\fs.length<1000 /\
 D.nx σ (upd H2 a (.ins C dx (jq f y fs)))
section
variable{X:Cx}{o e value:Expr}{f:Str}{pos pos' tpos:Pos}{ta tv:TE}
theorem pX(he:PE X e ta)(hb:attributeBase e f X.env (eval e X.env)=eval e X.env):PE X (.Attribute e f pos) (Q5 X.K ta f):=by
 intro pins s σ H Q I h;refine Np hb (thn (he pins s σ H _ I h) λu s1 h=>?_);obtain⟨x,H1,I1,rx,a,C,dx,fs,v,rfl,ea,c,n,l,q⟩:=h;obtain rfl:u=Value.ref a:=rx;exact Mg I1 ea c n l λu' s2 I2 ru=>⟨v,H1,I2,ru,q⟩
theorem uW(ha:PE X o ta)(hv:PE X value tv)(hs:swapsWith value (some (.Attribute o f pos')) pos.line X.env=pure false):PS X (.Assign [.Attribute o f pos'] value pos) (Wo X.K ta tv f):=by
 intro pins s σ H D I h;refine plainObj_wpAny_Assign_Attribute (thn (hv pins s σ H _ I h) λu s1 ⟨y,H1,I1,ry,q⟩=>thn (ha pins s1 σ H1 _ I1 q) λov s2 h=>?_) hs;obtain⟨x,H2,I2,rx,a,C,dx,fs,rfl,ea,c,n,l,q2⟩:=h;obtain rfl:ov=Value.ref a:=rx;exact K9 I2 ea c n l ry λs3 I3=>⟨σ,_,I3,q2⟩
end
section
variable{X:Cx}{pins:Ψ}{σ:St}{H:Hp}{s:Shared}{A:Around}{E:Ι}{Q:Ι}{c:Value}{b:Bool}
inductive xW(K:Frag)(H:Hp):V->Value->Prop where
 |non:xW K H .non (.type "NoneType")
 |bl (x:Bool):xW K H (.bl x) (.type "bool")
 |int (i:Int):xW K H (.int i) (.type "int")
 |str (x:Str):xW K H (.str x) (.type "str")
 |flt (x:UInt64):xW K H (.flt x) (.type "float")
 |lst {a:Addr}{xs:Κ} (e:H a=some (.lst xs)):xW K H (.ref a) (.type "list")
 |frz {a:Addr}{o:Obj}{xs:Κ} (e:H a=some (.frz o (.lst xs))):xW K H (.ref a) (.type "list")
 |tup {a:Addr}{xs:Κ} (e:H a=some (.tup xs)):xW K H (.ref a) (.type "tuple")
 |dK {a:Addr}{kvs:List (Key×V)} (e:H a=some (.dK kvs)):xW K H (.ref a) (.type "dict")
 |ins {a C dx:Addr}{fs:List (Str×V)} (e:H a=some (.ins C dx fs)) (cl:Cls K C) (ha:findIn K (.ref C) "__class__" = some (some (.builtin "object.__class__")))
   (hn:specialIn K (.builtin "object.__class__") "__get__" = some (some (.builtin "getset_descriptor.__get__"))) (htk:takesIn K (.builtin "object.__class__")=some true)
   (hm:mroIn K C (.type "object")=some true):xW K H (.ref a) (.ref C)
theorem Qx{x:V}{u t:Value}(I:Inv X pins σ H s)(rx:RelV x u)(ty:xW X.K H x t)(e:kitOne X.K t c=some b)(h:∀tk,Q (.bool b) { s with toks:=tk }) :
  wpAny (model X.prog X.w) A (call (.builtin "isinstance") [u,c]) Q E s:=by
 cases ty with
 |non=>cases(show u=Value.none from rx);exact kia_one PySem.W.kitx_none I.kIn True.intro e (λz=>nomatch z) h
 |bl y=>cases(show u=Value.bool y from rx);exact kia_one PySem.W.kitx_bool I.kIn True.intro e (λz=>nomatch z) h
 |int i=>obtain⟨t,q⟩:=(show ∃t,u=Value.int i t from rx);cases q;exact kia_one PySem.W.kitx_int I.kIn True.intro e (λz=>nomatch z) h
 |str y=>obtain⟨t,q⟩:=(show ∃t,u=Value.str y t from rx);cases q;exact kia_one PySem.W.kitx_str I.kIn True.intro e (λz=>nomatch z) h
 |flt y=>obtain⟨t,q⟩:=(show ∃t,u=Value.float y t from rx);cases q;exact kia_one PySem.W.kitx_float I.kIn True.intro e (λz=>nomatch z) h
 |@lst a xs ea =>
  cases(show u=Value.ref a from rx);obtain⟨_,_,n,_,h1⟩:=(show cV X.prog X.w H s.heap a (.lst xs)from I.hok a _ ea);exact kia_one kitx_list I.kIn ⟨_,h1,rfl⟩ e (λz=>nomatch z) h
 |@frz a ob xs ea =>
  cases(show u=Value.ref a from rx);obtain⟨_,_,_,n,_,h1⟩:=(show cV X.prog X.w H s.heap a (.frz ob (.lst xs))from I.hok a _ ea);exact kia_one kitx_list I.kIn ⟨_,h1,rfl⟩ e (λz=>nomatch z) h
 |@tup a xs ea =>
  cases(show u=Value.ref a from rx);obtain⟨_,_,_,p⟩:=(show cV X.prog X.w H s.heap a (.tup xs)from I.hok a _ ea);obtain⟨o,h1,h2,_⟩:=p;exact kia_one kitx_tuple I.kIn ⟨o,h1,h2⟩ e (λz=>nomatch z) h
 |@dK a kvs ea =>
  cases(show u=Value.ref a from rx);obtain⟨_,_,vs,_,p⟩:=(show cV X.prog X.w H s.heap a (.dK kvs)from I.hok a _ ea);obtain⟨o,es,ep,h1,h2,_⟩:=p;exact kia_one PySem.W.kitx_dict I.kIn ⟨o,h1,h2.1⟩ e (λz=>nomatch z) h
 |@ins a C dx fs ea cl ha hn htk hm =>
  cases(show u=Value.ref a from rx);obtain⟨mA,O,_⟩:=yM I.hok ea;obtain⟨od,J,_⟩:=O.look;exact kia_one (PySem.W.kitx_own (cl.get _) cl.hd ha hn htk hm) I.kIn J e (λz=>nomatch z) h
end
structure eU(k:Nat)(A:Around):Prop where
 hd:A.handled=none
 dp:A.depth+3*k+5<recursionLimit
 un:A.units+16*k+200<cLine
theorem eU.mono{j k:Nat}{A:Around}(r:eU k A)(h:j<=k):eU j A:=⟨r.hd,by have:=r.dp;lia,by have:=r.un;lia⟩
theorem eU.md{k n:Nat}{A:Around}(h:eU n A)(e:k<=n:=by decide):eU k A:=h.mono e
theorem eU.deeper{k:Nat}{A:Around}(r:eU (k+1) A)(env:Env):eU k (A.deeper env) :=
 ⟨r.hd,by have:=r.dp;show A.depth+1+3*k+5<_;lia,by have:=r.un;show A.units+3+16*k+200<_;lia⟩
theorem Mr{A:Around}{C:Addr}{us:Ω}{kw:List (Str×Value)} : (A.under (.builtin "type.__call__" ⟨.ref C::us,kw⟩)).depth=A.depth+1:=by
 first|rfl|simp[Around.under,Code.weight,Code.isCreation,Code.isGuard,Code.isCaller,Code.frames,Code.isFrame,guardIds]
theorem Ks{A:Around}{C:Addr}{us:Ω}{kw:List (Str×Value)} : (A.under (.builtin "type.__call__" ⟨.ref C::us,kw⟩)).units=A.units+1:=by
 first|rfl|simp[Around.under,Code.cUnits,Code.frames,Code.isFrame]
theorem eU.make{k:Nat}{A:Around}(r:eU (k+1) A)(C:Addr)(us:Ω)(kw:List (Str×Value)):eU k (A.under (.builtin "type.__call__" ⟨.ref C::us,kw⟩)) :=
 ⟨r.hd,by have:=r.dp;rw[Mr];lia,by have:=r.un;rw[Ks];lia⟩
theorem eU.depth{k:Nat}{A:Around}(r:eU k A):A.depth<recursionLimit:=by have:=r.dp;lia
theorem eU.units{k:Nat}{A:Around}(r:eU k A):A.units+64<cLine:=by have:=r.un;lia
theorem eU.units0{k:Nat}{A:Around}(r:eU k A):A.units<cLine:=by have:=r.un;lia
noncomputable def xU:TA:=λ_ H Q=>Q [] H
noncomputable def uh(ta:TE)(tr:TA):TA:=λσ H Q=>ta σ H λx H1=>tr σ H1 λxs H2=>Q (x::xs) H2
section
variable{X:Cx}{e:Expr}{es:List Expr}{te:TE}{t:TA}{pos:Pos}
theorem bF:PA X [] xU:=λ_ _ _ _ H Q I h=>Calls.spliced_nil ⟨[],H,I,.nil,h⟩
theorem bD(ha:PE X e te)(hr:PA X es t)(hs:starEach (e::es) X.env=(false,eval e X.env)::starEach es X.env:=by rfl):PA X (e::es) (uh te t):=by
 intro pos pins s σ H Q I h;rw[hs];show wpAny _ _ (spliced ((false,eval e X.env)::backTo pos (starEach es X.env))) _ _ s;refine Calls.spliced_cons (thn (ha pins s σ H _ I h) λu s1 hP=>?_);obtain⟨x,H1,I1,r1,q1⟩:=hP;exact thn (hr pos pins s1 σ H1 _ I1 q1) λus s2 hP=>by obtain⟨xs,H2,I2,r2,q2⟩:=hP;exact⟨x::xs,H2,I2,.cons r1 r2,q2⟩
noncomputable def V3(t:TA):TE:=λσ H Q=>t σ H λxs H1=>xs.length<=sizeLine/\∀p,H1 p=none->Q (.ref p) (upd H1 p (.tup xs))
noncomputable def Rz(t:TA):TE:=λσ H Q=>t σ H λxs H1=>xs.length<=sizeLine/\∀p,H1 p=none->Q (.ref p) (upd H1 p (.lst xs))
theorem oh{x1}(h:PA X es t):PE X (.Tuple es x1 pos) (V3 t):=by
 intro pins s σ H Q I hq;refine wpAny_Tuple_spliced (thn (h pos pins s σ H _ I hq) λus s1 ⟨xs,H1,I1,r,z,q⟩=>⟨by rw[<- r.length];exact z,?_⟩);have hf:H1 s1.heap.objs.size=none:=I1.hok.fresh (aF _);refine⟨.ref s1.heap.objs.size,upd H1 s1.heap.objs.size (.tup xs),I1.laid (t':=s1.toks) (λb u e=>aG _ e) (aF _) ?_,rfl,q _ hf⟩;exact⟨z,us,r,⟨_,aX _ rfl,rfl,_,rfl⟩⟩
theorem pR(h:PA X es t):PE X (.List es pos) (Rz t):=by
 intro pins s σ H Q I hq;refine wpAny_List_spliced (thn (h pos pins s σ H _ I hq) λus s1 ⟨xs,H1,I1,r,z,q⟩=>⟨by rw[<- r.length];exact z,?_⟩);have hf:H1 s1.heap.objs.size=none:=I1.hok.fresh (aF _);refine⟨.ref s1.heap.objs.size,upd H1 s1.heap.objs.size (.lst xs),I1.laid (t':=s1.toks) (λb u e=>aG _ e) (aF _) ?_,rfl,q _ hf⟩;exact⟨z,us,0,r,aX _ rfl⟩
end
noncomputable abbrev Sp:=Κ->Hp->VK->XK->Prop
noncomputable abbrev CXT:=List Env->Hp->Shared->XK->Value->Shared->Prop
structure Kv(P:Program)(w:World)(K:Frag)(mg:Str->Ε)(base:Heap)(A:Around)(outer:List Env)(s:Shared)(H:Hp):Prop where
 frames:A.frames=some outer
 mod:Mod K mg base
 bs:∀b o,base.get? b=some o->s.heap.get? b=some o/\H b=none
 bsz:base.objs.size<=s.heap.objs.size
 funs:s.heap.FunFrames base outer
 frf:∀b∈frs outer,H b=none
 hok:HOk P w H s.heap
 bare:AllBare s.gens
noncomputable def CE(outer:List Env)(P:Program)(w:World)(H:Hp)(s:Shared)(Q:VK)(u:Value)(s':Shared):Prop :=
 ∃v H',s'.os=s.os/\AllBare s'.gens/\Un (frs outer) [] H H' s.heap s'.heap/\HOk P w H' s'.heap/\RelV v u/\Q v H'
noncomputable def CR(CX:CXT)(outer:List Env)(P:Program)(w:World)(H:Hp)(s:Shared)(Q:VK)(E:XK)(r:Result)(s':Shared):Prop :=
 match r with
 |.ok (.ret u)=>CE outer P w H s Q u s'
 |.ok _=>False
 |.error e=>CX outer H s E e s'
structure cD(P:Program)(w:World)(K:Frag)(mg:Str->Ε)(base:Heap)(CX:CXT)(k:Nat)(f:Addr)(fd:FuncData)(ps:Ξ)(sp:Sp):Prop where
 len:∀vs H Q E,sp vs H Q E->vs.length=ps.length
 run:∀(A:Around)(outer:List Env)(s:Shared)(H:Hp)(args:Args)(us:Ω)(vs:Κ)(Q:VK)(E:XK),eU k A->Kv P w K mg base A outer s H->BindsTo s fd args (ps.zip us)->Vals vs us->sp vs H Q E ->
  codeAny (model P w) A (.call (.ref f) args) (CR CX outer P w H s Q E) s
theorem cD.imp{P:Program}{w:World}{K:Frag}{mg:Str->Ε}{base:Heap}{CX:CXT}{k:Nat}{f:Addr}{fd:FuncData}{ps:Ξ}{sp sp':Sp}(F:cD P w K mg base CX k f fd ps sp)
 (h:∀vs H Q E,sp' vs H Q E->sp vs H Q E):cD P w K mg base CX k f fd ps sp' :=
 ⟨λvs H Q E q=>F.len vs H Q E (h _ _ _ _ q),λA outer s H args us vs Q E hr he hb hv hs=>F.run A outer s H args us vs Q E hr he hb hv (h _ _ _ _ hs)⟩
theorem Kv.make{P:Program}{w:World}{K:Frag}{mg:Str->Ε}{base:Heap}{A:Around}{outer:List Env}{s:Shared}{H:Hp}(e:Kv P w K mg base A outer s H)(C:Addr)(us:Ω)(kw:List (Str×Value)) :
  Kv P w K mg base (A.under (.builtin "type.__call__" ⟨.ref C::us,kw⟩)) outer s H:=⟨by first|exact e.frames|(simpa[Around.under,Code.envs,Code.isFrame,pushEnvs]using e.frames),e.mod,e.bs,e.bsz,e.funs,e.frf,e.hok,e.bare⟩
section
variable{X:Cx}{pins:Ψ}{σ:St}{H:Hp}{s s':Shared}
theorem Inv.env0(I:Inv X pins σ H s):Kv X.prog X.w X.K X.mg X.base X.A X.stack s H :=
 ⟨I.ok.frames,I.ok.mod,I.bs,aL I.ok.bsz I.sz,I.stack,I.stkFree,I.hok,I.bare⟩
theorem Inv.after{Q:VK}{u:Value}(I:Inv X pins σ H s)(h:CE X.stack X.prog X.w H s Q u s'):EP X pins σ Q u s':=by
 obtain⟨v,H',os,bare,un,hok,r,q⟩:=h;obtain⟨hh,g,d,t,os'⟩:=s';obtain rfl:os'=s.os:=os;exact⟨v,H',I.call (h':=hh) (g':=g) (d':=d) (t':=t) (ch:=[]) un hok bare (λb z=>absurd z (by simp)),r,q⟩
end
noncomputable def abe(sp:Sp)(dvs:Κ)(E:XK)(t:TA):TE:=λσ H Q=>t σ H λvs H1=>sp (vs++dvs) H1 Q E
noncomputable def Yh(C:Addr)(m:Str)(sp:Sp)(dvs:Κ)(E:XK)(ta:TE)(t:TA):TE:=λσ H Q=>ta σ H λx H1=>∃a dx fs,x=.ref a/\H1 a=some (.ins C dx fs)/\fs.lookup m=none /\
 t σ H1 λvs H2=>sp (x::(vs++dvs)) H2 Q E
noncomputable def Binds(K:Frag)(fd:FuncData)(ps:Ξ)(ds:Ω):Prop :=
 ∀(s:Shared)(us:Ω),K.In s.heap->(us++ds).length=ps.length->BindsTo s fd ⟨us,[]⟩ (ps.zip (us++ds))
theorem Binds.all{K:Frag}{fd:FuncData}{ps:Ξ}(h:∀us:Ω,us.length=ps.length->bindArgs fd ⟨us,[]⟩=pure (ps.zip us)):Binds K fd ps []:=λs us _ hl=>by
 rw[List.append_nil]at hl ⊢;exact .of_eq (h us hl)
noncomputable def Passes(CX:CXT)(X:Cx)(E:XK):Prop:=∀(pins:Ψ)(σ:St)(H:Hp)(s:Shared)(e:Value)(s':Shared),Inv X pins σ H s->CX X.stack H s E e s'->X.xe e s'
section
variable{X:Cx}{CX:CXT}{k:Nat}{f C:Addr}{fd:FuncData}{ps:Ξ}{sp:Sp}{dvs:Κ}{ds:Ω}{E:XK}{x m:Str}{p pos apos:Pos}{e o:Expr}{es:List Expr}{ta:TE}{t:TA}
theorem KZ{pins:Ψ}{σ:St}{H:Hp}{s:Shared}{Q:VK}{us:Ω}{vs:Κ}(F:cD X.prog X.w X.K X.mg X.base CX k f fd ps sp)(hr:eU k X.A)(hb:Binds X.K fd ps ds)(hd:Vals dvs ds)(hx:Passes CX X E)
 (I:Inv X pins σ H s)(r:Vals vs us)(h:sp (vs++dvs) H Q E):wpAny (model X.prog X.w) X.A (call (.ref f) us) (EP X pins σ Q) X.xe s:=by
 have r2:Vals (vs++dvs) (us++ds):=r.append hd;have hl:(us++ds).length=ps.length:=by rw[<- r2.length];exact F.len _ _ _ _ h
 refine wpAny_call (codeAny_mono (F.run X.A X.stack s H ⟨us,[]⟩ (us++ds) (vs++dvs) Q E hr I.env0 (hb s us I.kIn hl) r2 h) λr s' hq=>?_);cases r with
 |error e=>exact hx pins σ H s e s' I hq
 |ok fl =>
  cases fl with
  |ret u=>exact I.after hq
  |next=>exact False.elim hq
  |brk=>exact False.elim hq
  |cont=>exact False.elim hq
theorem Xa(F:cD X.prog X.w X.K X.mg X.base CX k f fd ps sp)(hr:eU k X.A)(hg:Gl X x)(hm:X.mg x=some (.ref f))(hk:keepIn X.K (.ref f)=true)(hb:Binds X.K fd ps ds)(hd:Vals dvs ds)(hx:Passes CX X E)
 (ha:PA X (e::es) t)(hdb:(x==("__debug__" : Str))=false:=by decide)(he:starEach (e::es) X.env=(false,eval e X.env)::starEach es X.env:=by rfl)(hpl:(backTo pos (starEach es X.env)).any (·.1)=false:=by rfl) :
  PE X (.Call (.Name x p) (e::es) [] pos) (abe sp dvs E t):=by
 intro pins s σ H Q I h;refine wpAny_Call_Name_kw (lH I hg hm ?_ hdb);refine callWith_K (h₀:=X.base) I.ok.mod.kin hk (thn (ha pos pins s σ H _ I h) λus s1 ⟨vs,H1,I1,r,q⟩=>⟨I1.kIn,?_⟩) he hpl;exact KZ F hr hb hd hx I1 r q
theorem Xy{pl:Sem Bool}(he:PE X o ta)(c:Cls X.K C)(hm:Meth X.K C m f)(F:cD X.prog X.w X.K X.mg X.base CX k f fd ps sp)(hr:eU k X.A)(hb:Binds X.K fd ps ds)(hd:Vals dvs ds)(hx:Passes CX X E)(ha:PA X (e::es) t)
 (hst:starEach (e::es) X.env=(false,eval e X.env)::starEach es X.env:=by rfl)(hpl:(backTo pos (starEach es X.env)).any (·.1)=false:=by rfl)
 (ht:eval (.Call (.Attribute o m apos) (e::es) [] pos) X.env=(do
   let ov <- eval o X.env
   standAt apos.atName
   let(f,first) <- holding [ov] (getMethod ov m pl)
   callWith pos f first (backTo pos (starEach (e::es) X.env)) (backToKw pos (keywordEach [] X.env))):=by rfl) :
  PE X (.Call (.Attribute o m apos) (e::es) [] pos) (Yh C m sp dvs E ta t):=by
 intro pins s σ H Q I h;refine methodCall_KW (pl:=pl) (thn (he pins s σ H _ I h) λu s1 hP=>?_) ht;obtain⟨x,H1,I1,rx,a,dx,fs,ex,ea,l,q⟩:=hP;subst ex;obtain rfl:u=Value.ref a:=rx;refine uN I1 ea c hm l ?_;refine callWith_K (first:=[.ref a]) (h₀:=X.base) I.ok.mod.kin hm.kp (thn (ha pos pins s1 σ H1 _ I1 q) λus s2 ⟨vs,H2,I2,r,q2⟩=>⟨I2.kIn,?_⟩) hst hpl;exact KZ (us:=.ref a::us) (vs:=.ref a::vs) F hr hb hd hx I2 (.cons rfl r) q2
theorem Ub{pl:Sem Bool}(he:PE X o ta)(c:Cls X.K C)(hm:Meth X.K C m f)(F:cD X.prog X.w X.K X.mg X.base CX k f fd ps sp)(hr:eU k X.A)(hb:Binds X.K fd ps ds)(hd:Vals dvs ds)(hx:Passes CX X E)
 (ht:eval (.Call (.Attribute o m apos) [] [] pos) X.env=(do
   let ov <- eval o X.env
   standAt apos.atName
   let(f,first) <- holding [ov] (getMethod ov m pl)
   callWith pos f first (backTo pos (starEach [] X.env)) (backToKw pos (keywordEach [] X.env))):=by rfl) :
  PE X (.Call (.Attribute o m apos) [] [] pos) (Yh C m sp dvs E ta xU):=by
 intro pins s σ H Q I h;refine methodCall_KW (pl:=pl) (thn (he pins s σ H _ I h) λu s1 hP=>?_) ht;obtain⟨x,H1,I1,rx,a,dx,fs,ex,ea,l,q⟩:=hP;subst ex;obtain rfl:u=Value.ref a:=rx;refine uN I1 ea c hm l ?_;exact PySem.W.callWith_K0 (first:=[.ref a]) I1.kIn hm.kp (KZ (us:=[.ref a]) (vs:=[.ref a]) F hr hb hd hx I1 (.cons rfl .nil) q)
structure Mk(K:Frag)(C f:Addr):Prop where
 makes:makesIn K C=true
 init:findIn K (.ref C) "__init__" = some (some (.ref f))
 fn:isFn K (.ref f)=true
 kp:keepIn K (.ref C)=true
end
structure bV(N P:Ξ)(sc:Scope):Prop where
 kind:sc.kind=.function
 co:sc.isCoroutine=false
 gen:sc.isGenerator=false
 nd:N.Nodup
 pre:N.take P.length=P
 par:∀x∈P,sc.names.lookup x=some .local\/sc.names.lookup x=some .cell
 nofree:∀y∈sc.names,y.2≠.free
theorem Ep{kindOf:Str->Option NameKind}{x:Str} : ∀{binds:List (Str×Value)}{m:Str->Ε},(∀v,(x,v)∉binds)->bindL kindOf binds m x=m x
 |[],_,_=>rfl
 |(n,v)::r,m,h=>by
  unfold bindL;rw[Ep λw hw=>h w (aH _ hw)];split
  .have:x≠n:=by rintro rfl;exact h v aN
   simp[this]
  .rfl
theorem Eo{kindOf:Str->Option NameKind}{x:Str} : ∀{binds:List (Str×Value)}{m:Str->Ε},(∀v,(x,v)∉binds)->bindC kindOf binds m x=m x
 |[],_,_=>rfl
 |(n,v)::r,m,h=>by
  unfold bindC;rw[Eo λw hw=>h w (aH _ hw)];split
  .rfl
  .have:x≠n:=by rintro rfl;exact h v aN
   simp[this]
theorem Dl{kindOf:Str->Option NameKind}{x:Str}{v:Value} : ∀{P:Ξ}{vs:Ω}{i:Nat}{m:Str->Ε},P.Nodup->P[i]?=some x->vs[i]?=some v->kindOf x=some .local ->
  bindL kindOf (P.zip vs) m x=some v
 |[],_,_,_,_,h,_,_=>by simp at h
 |_::_,[],_,_,_,_,h,_=>by simp at h
 |p::P,w::vs,0,m,nd,h1,h2,hk=>by
  simp at h1 h2;subst h1;subst h2;show bindL kindOf ((p,w)::P.zip vs) m p=_;unfold bindL;rw[Ep λv hv=>(List.nodup_cons.mp nd).1 (List.of_mem_zip hv).1,ZY hk];simp
 |p::P,w::vs,i+1,m,nd,h1,h2,hk=>by
  show bindL kindOf ((p,w)::P.zip vs) m x=_;unfold bindL;exact Dl (i:=i) (List.nodup_cons.mp nd).2 (by simpa using h1) (by simpa using h2) hk
theorem DK{kindOf:Str->Option NameKind}{x:Str}{v:Value} : ∀{P:Ξ}{vs:Ω}{i:Nat}{m:Str->Ε},P.Nodup->P[i]?=some x->vs[i]?=some v->kindOf x≠some .local ->
  bindC kindOf (P.zip vs) m x=some v
 |[],_,_,_,_,h,_,_=>by simp at h
 |_::_,[],_,_,_,_,h,_=>by simp at h
 |p::P,w::vs,0,m,nd,h1,h2,hk=>by
  simp at h1 h2;subst h1;subst h2;show bindC kindOf ((p,w)::P.zip vs) m p=_;unfold bindC;rw[Eo λv hv=>(List.nodup_cons.mp nd).1 (List.of_mem_zip hv).1,ZZ hk];simp
 |p::P,w::vs,i+1,m,nd,h1,h2,hk=>by
  show bindC kindOf ((p,w)::P.zip vs) m x=_;unfold bindC;exact DK (i:=i) (List.nodup_cons.mp nd).2 (by simpa using h1) (by simpa using h2) hk
noncomputable def start(N:Ξ)(vs:Κ):St:=vs.map some++List.replicate (N.length-vs.length) none
noncomputable def Bw(CX:CXT)(P:Program)(w:World)(K:Frag)(mg:Str->Ε)(base:Heap)(N:Ξ)(qual:Str)(scope:Scope)(f:Addr)(cd:Value)(A:Around)(outer:List Env)(s:Shared)(H:Hp)(E:XK):Cx where
 prog:=P
 w:=w
 K:=K
 mg:=mg
 base:=base
 A:=A.deeper (envOfC qual scope s.heap.objs.size f cd)
 N:=N
 s₀:=s
 H₀:=H
 env:=envOfC qual scope s.heap.objs.size f cd
 outer:=outer
 stack:=envOfC qual scope s.heap.objs.size f cd::outer
 ex:=[]
 calm:=true
 fn:=λ_=>true
 pn:=[]
 xe:=λe s'=>wpAny (model P w) (A.deeper (envOfC qual scope s.heap.objs.size f cd)) (leaving (envOfC qual scope s.heap.objs.size f cd) e) (λ_ s''=>CX outer H s E e s'') (λe' s''=>CX outer H s E e' s'') s'
theorem Im{sc:Scope}{n:Nat}{x:Str}(h:sc.names.lookup x=some .cell):∃c,(cellsFrom n sc.names []).lookup x=some c:=by
 have q:=PySem.W.cellsFrom_some sc.names n [] (.inl h);exact Option.isSome_iff_exists.mp q
theorem O9{CX:CXT}{P:Program}{w:World}{K:Frag}{mg:Str->Ε}{base:Heap}{N ps:Ξ}{qual:Str}{scope:Scope}{f:Addr}{cd:Value}{A:Around}{outer:List Env}{s s1:Shared}{H:Hp}{E:XK}{us:Ω}{vs:Κ}
 (S:bV N ps scope)(hd:A.handled=none)(e0:Kv P w K mg base A outer s H)(hl:vs.length=ps.length)(r:Vals vs us)
 (x:InCallC s s.heap.objs.size (bindL (envOfC qual scope s.heap.objs.size f cd).kindOf (ps.zip us) λ_=>none) (cellsFrom (s.heap.objs.size+1) scope.names []) (bindC (envOfC qual scope s.heap.objs.size f cd).kindOf (ps.zip us) λ_=>none) s1) :
  Inv (Bw CX P w K mg base N qual scope f cd A outer s H E) [] (start N vs) H s1:=by
 have hpl:ps.length<=N.length:=by have:=ZH List.length S.pre;rw[aZ]at this;lia
 obtain⟨h1,tk,rfl,hk⟩:=x.done;have noA:∀b:Addr,b∉(Bw CX P w K mg base N qual scope f cd A outer s H E).ex:=λb z=>absurd (show b∈([] : Β)from z) (by simp);refine⟨⟨e0.mod,S.kind,rfl,rfl,aF _,λy z c h1 h2=>?_,λy hy=>?_,λy c _ h=>?_,λ_=>hd,Around.frames_deeper e0.frames,.inr ⟨rfl,rfl⟩,λb z=>absurd z (noA b),e0.bs,e0.bsz,λb _ _=>noA b,λb z=>absurd z (noA b),e0.funs,e0.frf⟩,
  rfl,e0.bare,Un.kept hk,⟨_,x.toInCall.ns,λi y v h1 h2 h3=>?_⟩,λy c h=>⟨_,x.cell y c h⟩,e0.hok.fresh (aF _),λy c h=>?_,λp hp=>absurd (show p∈([] : Ψ)from hp) (by simp),e0.hok.kept hk,?_⟩
 .exact name_of_addr x.apart (PySem.mem_of_lookup h1) (PySem.mem_of_lookup h2)
 .have hy:scope.names.lookup y=some .cell\/scope.names.lookup y=some .free:=hy;rcases hy with hy|hy
  .exact Im hy
  .exact absurd rfl (S.nofree _ (PySem.mem_of_lookup hy))
 .exact Y2 (x.above y c (PySem.mem_of_lookup h))
 .have hi:i<vs.length:=by
   unfold start at h2;by_cases hi:i<vs.length
   .exact hi
   .rw[aC (by simpa using hi)]at h2;rw[List.getElem?_replicate]at h2;split at h2<;>cases h2
  have ha:vs[i]?=some v:=by
   unfold start at h2;rw[aD (by simpa using hi),aq]at h2;cases e:vs[i]? with
   |none=>rw[e]at h2;cases h2
   |some a=>rw[e]at h2;cases h2;rfl
  obtain⟨u,hu,rv⟩:=r.get ha;have hp:ps[i]?=some y:=by
   rw[<- S.pre,List.getElem?_take_of_lt (aR hi (Nat.le_of_eq hl))];exact h1
  have ndP:ps.Nodup:=by rw[<- S.pre];exact S.nd.sublist (List.take_sublist _ _)
  refine⟨u,rv,?_⟩;rcases S.par y (aB hp)with k|k
  .exact .inl ⟨k,Dl ndP hp hu k⟩
  .obtain⟨c,e⟩:=Im (n:=s.heap.objs.size+1) k;refine .inr ⟨.inl k,c,e,?_⟩;have q:=x.cell y c e;rw[DK ndP hp hu (by show scope.names.lookup y≠_;rw[k];decide)]at q;exact q
 .exact e0.hok.fresh (Y2 (x.above y c (PySem.mem_of_lookup h)))
 .unfold start;show _=N.length;rw[aA,ak,aM];lia
theorem Yp{CX:CXT}{P:Program}{w:World}{K:Frag}{mg:Str->Ε}{base:Heap}{k:Nat}{f:Addr}{name qual:Str}{params:Arguments}{body:List Stmt}{scope:Scope}{dV kV doc pm cdv ct oc:Value}{an od:Ζ}
 {osl:Array (Ε)}{N ps:Ξ}{sp:Sp}(lk:K.lookup f=some ⟨oc,od,.func (PySem.W.fnOf name qual params body scope dV kV doc pm an cdv ct),osl⟩)(hcd:codeIn K cdv qual=true)(S:bV N ps scope)
 (len:∀vs H Q E,sp vs H Q E->vs.length=ps.length)
 (hbody:∀(A:Around)(outer:List Env)(s:Shared)(H:Hp)(vs:Κ)(Q:VK)(E:XK),eU k (A.deeper (envOfC qual scope s.heap.objs.size f cdv))->sp vs H Q E ->
   ∃t,PSs (Bw CX P w K mg base N qual scope f cdv A outer s H E) body t/\t { nx:=λ_ H'=>Q .non H',rt:=Q } (start N vs) H) :
  cD P w K mg base CX (k+1) f (PySem.W.fnOf name qual params body scope dV kV doc pm an cdv ct) ps sp:=by
 refine⟨len,λA outer s H args us vs Q E hr e0 hb r hsp=>?_⟩;have hl:=len _ _ _ _ hsp;have KX:K.In s.heap:=e0.mod.kin.keeps λb o e=>(e0.bs b o e).1;have lim:s.heap.NoLimit:=e0.mod.nolimit.keeps λb o e=>(e0.bs b o e).1;have hkind:∀y∈ps.zip us,scope.names.lookup y.1=some .local\/(scope.names.lookup y.1=some .cell/\((cellsFrom (s.heap.objs.size+1) scope.names []).lookup y.1).isSome=true):=λ⟨n,v⟩ hy=>by
  rcases S.par n (List.of_mem_zip hy).1 with q|q
  .exact .inl q
  .exact .inr ⟨q,PySem.W.cellsFrom_some _ _ _ (.inl q)⟩
 refine codeAny_call_function hr.depth (KX _ _ lk) rfl S.co S.gen rfl (PySem.W.codeRec_of KX hcd) (hb _ _ _ _ ?_);refine wpAny_newFunctionEnv_cells S.kind hkind λenv he s1 x=>?_;subst he;refine⟨lim.keeps x.toInCall.keep,codeAny_func ?_⟩;obtain⟨t,ht,hq⟩:=hbody A outer s H vs Q E (hr.deeper _) hsp;have I:Inv (Bw CX P w K mg base N qual scope f cdv A outer s H E) [] (start N vs) H s1:=O9 S hr.hd e0 hl r x;refine wpAny_mono (ht [] s1 (start N vs) H _ I hq) (λfl s' hs=>?_) λe s' hs=>hs;have fin:∀{σ':St}{H':Hp}{v:V}{u:Value},Inv (Bw CX P w K mg base N qual scope f cdv A outer s H E) [] σ' H' s'->RelV v u->Q v H'->CE outer P w H s Q u s' :=
  λ{σ' H' v u}J rv q=>⟨v,H',J.os,J.bare,J.base,J.hok,rv,q⟩
 cases fl with
 |ret u =>
  obtain⟨v,σ',H',J,rv,q⟩:=hs;exact fin J rv q
 |next =>
  obtain⟨σ',H',J,q⟩:=hs;exact fin (v:=V.non) (u:=Value.none) J rfl q
 |brk =>
  obtain⟨_,_,_,q⟩:=hs;exact False.elim q
 |cont =>
  obtain⟨_,_,_,q⟩:=hs;exact False.elim q
section
variable{X:Cx}{x:Str}{p pos:Pos}{e:Expr}{es:List Expr}{t:TA}{id T:String}{r:Κ->Hp->VK->Prop}
noncomputable def tCB(r:Κ->Hp->VK->Prop)(t:TA):TE:=λσ H Q=>t σ H λvs H1=>r vs H1 Q
theorem bW(hc:d8 X (.builtin id) r)(hg:Gl X x)(hm:X.mg x=none)(hv:bootBuiltins x=some (.builtin id))(ha:PA X (e::es) t)(hn:x ≠ "__name__" := by decide)(hdb:(x==("__debug__" : Str))=false:=by decide)
 (he:starEach (e::es) X.env=(false,eval e X.env)::starEach es X.env:=by rfl)(hpl:(backTo pos (starEach es X.env)).any (·.1)=false:=by rfl):PE X (.Call (.Name x p) (e::es) [] pos) (tCB r t):=by
 intro pins s σ H Q I h;refine wpAny_Call_Name_kw (wW I hg hm hv ?_ hn hdb);exact PyProof.Rows.callWith_builtin1 (thn (ha pos pins s σ H _ I h) λus s1 hP=>by obtain⟨vs,H1,I1,r1,q1⟩:=hP;exact hc pins s1 σ H1 vs us Q I1 r1 q1) he hpl
theorem fV(hc:d8 X (.type T) r)(hg:Gl X x)(hm:X.mg x=none)(hv:bootBuiltins x=some (.type T))(ha:PA X (e::es) t)(hn:x ≠ "__name__" := by decide)(hdb:(x==("__debug__" : Str))=false:=by decide)
 (he:starEach (e::es) X.env=(false,eval e X.env)::starEach es X.env:=by rfl)(hpl:(backTo pos (starEach es X.env)).any (·.1)=false:=by rfl):PE X (.Call (.Name x p) (e::es) [] pos) (tCB r t):=by
 intro pins s σ H Q I h;refine wpAny_Call_Name_kw (wW I hg hm hv ?_ hn hdb);exact PyProof.Rows.callWith_type1 (thn (ha pos pins s σ H _ I h) λus s1 hP=>by obtain⟨vs,H1,I1,r1,q1⟩:=hP;exact hc pins s1 σ H1 vs us Q I1 r1 q1) he hpl
end
end L2
namespace HT
open PySem PyProof.Rows
section
variable{prog:Program}{w:World}{A:Around}{E:Ι}{s:Shared}
noncomputable def sIx(n d:Nat):Option Int->Nat
 |none=>d
 |some v=>if v<0 then(v+(n:Int)).toNat else min v.toNat n
theorem tH(n d k:Nat):sIx n d (some (k:Int))=min k n:=by
 show(if(k:Int)<0 then((k:Int)+(n:Int)).toNat else min (k:Int).toNat n)=min k n;rw[ZZ (Int.not_lt_of_ge (X2 _)),Int.toNat_natCast]
end
end HT
namespace L2
open PySem PySem.Spec PyProof.Rows
noncomputable abbrev TO:=St->Hp->(Option Int->Hp->Prop)->Prop
noncomputable def PO(X:Cx)(e:Option Expr)(t:TO):Prop :=
 ∀(pins:Ψ)(s:Shared)(σ:St)(H:Hp)(Q:Option Int->Hp->Prop),Inv X pins σ H s->t σ H Q ->
  wpAny (model X.prog X.w) X.A (evalPart e X.env) (λu s'=>∃o H',Inv X pins σ H' s'/\IsPart u o/\Q o H') X.xe s
noncomputable def zp:TO:=λ_ H Q=>Q none H
noncomputable def Ow(t:TE):TO:=λσ H Q=>t σ H λx H1=>∃i,x=.int i/\Q (some i) H1
theorem intsAre_of{ns:List Int} : ∀{us:Ω},Vals (ns.map V.int) us->IntsAre us ns:=by
 induction ns with
 |nil=>intro us r;rw[List.map_nil]at r;cases r;exact .nil
 |cons n ns ih =>
  intro us r;rw[List.map_cons]at r;cases r with
  |cons r1 r2 =>
   obtain⟨t,e⟩:=r1;subst e;exact .cons n t (ih r2)
section
variable{X:Cx}{e:Expr}{te:TE}{lo hi:Option Expr}{tl th:TO}{pos p2:Pos}
theorem G_:PO X none zp:=by
 intro pins s σ H Q I h;rw[evalPart_none];exact ZT ⟨none,H,I,.none,h⟩
theorem qg(h:PE X e te):PO X (some e) (Ow te):=by
 intro pins s σ H Q I hw;rw[evalPart_some];refine thn (h pins s σ H _ I hw) λu s1 hP=>?_;obtain⟨x,H1,I1,r1,q1⟩:=hP;obtain⟨i,rfl,q⟩:=q1;obtain⟨t,rfl⟩:=r1;exact⟨some i,H1,I1,.int i t,q⟩
noncomputable def SlR(X:Cx)(r:V->Option Int->Option Int->Hp->VK->Prop):Prop :=
 ∀(pins:Ψ)(s:Shared)(σ:St)(H:Hp)(x:V)(v vl vu:Value)(lo hi:Option Int)(sl:Addr)(Q:VK),Inv X pins σ H s->RelV x v->s.heap.IsSliceOf sl vl vu .none->IsPart vl lo->IsPart vu hi->r x lo hi H Q ->
  ∃T id,typeLookup (.type T) "__getitem__" = pure (some (.builtin id))/\s.TypeIs v T/\wpAny (model X.prog X.w) X.A (getItem v (.ref sl)) (EP X pins σ Q) X.xe s
noncomputable def tSl(r:V->Option Int->Option Int->Hp->VK->Prop)(te:TE)(tl th:TO):TE:=λσ H Q=>te σ H λx H1=>tl σ H1 λl H2=>th σ H2 λu H3=>r x l u H3 Q
theorem rH{r:V->Option Int->Option Int->Hp->VK->Prop}(hr:SlR X r)(he:PE X e te)(hl:PO X lo tl)(hu:PO X hi th):PE X (.Subscript e (.Slice lo hi none p2) pos) (tSl r te tl th):=by
 intro pins s σ H Q I h;refine Subscript_ (thn (he pins s σ H _ I h) λv s1 hP=>?_);obtain⟨x,H1,I1,r1,q1⟩:=hP;refine wpAny_Slice (thn (hl pins s1 σ H1 _ I1 q1) λvl s2 ⟨l,H2,I2,pl,q2⟩=>thn (hu pins s2 σ H2 _ I2 q2) λvu s3 hP=>?_);obtain⟨u,H3,I3,pu,q3⟩:=hP;rw[evalPart_none];refine ZT ?_;have I4:Inv X pins σ H3 { s3 with heap:=s3.heap.push { cls:=.type "slice",data:=.fields #[vl,vu,.none] } }:=I3.kept (t':=s3.toks) λb ob q=>aG _ q;obtain⟨T,id,hT,ht,hg⟩:=hr pins { s3 with heap:=s3.heap.push { cls:=.type "slice",data:=.fields #[vl,vu,.none] } } σ H3 x v vl vu l u s3.heap.objs.size Q I4 r1 (Heap.IsSliceOf.new ..) pl pu q3;show wpAny (model X.prog X.w) X.A (subscriptTail e (.Slice lo hi none p2) v (.ref s3.heap.objs.size)) (EP X pins σ Q) X.xe { s3 with heap:=s3.heap.push { cls:=.type "slice",data:=.fields #[vl,vu,.none] } };exact tail_any (ops:=[.ref s3.heap.objs.size,v]) ht hT hg (by with_unfolding_all rfl)
noncomputable def qb(xs:Κ)(lo hi:Option Int):Κ:=(xs.drop (HT.sIx xs.length 0 lo)).take (HT.sIx xs.length xs.length hi-HT.sIx xs.length 0 lo)
theorem yh(xs:Κ)(lo hi:Option Int):(qb xs lo hi).length<=xs.length:=by
 unfold qb;rw[aZ,List.length_drop];lia
end
noncomputable def ixN(n:Nat)(i:Int):Option Nat:=if 0<=i then(if i<n then some i.toNat else none)else if -(n:Int)<=i then some (i+n).toNat else none
noncomputable def atI{α:Type}(xs:List α)(i:Int):Option α:=(ixN xs.length i).bind λj=>xs[j]?
theorem XD{n:Nat}{i:Int}{j:Nat}(h:ixN n i=some j):seqIndex? i n=some j/\j<n/\-(n:Int)<=i/\i<n:=by
 unfold ixN at h;by_cases h0:0<=i
 .rw[ZY h0]at h;by_cases h1:i<n
  .rw[ZY h1]at h;have e:i.toNat=j:=Option.some.inj h;exact⟨by rw[seqIndex_of h0 h1,e],by lia,by lia,h1⟩
  .rw[ZZ h1]at h;cases h
 .rw[ZZ h0]at h;by_cases h1 : -(n:Int)<=i
  .rw[ZY h1]at h;have e:(i+n).toNat=j:=Option.some.inj h;exact⟨by rw[seqIndex_neg (Int.lt_of_not_ge h0) h1,e],by lia,h1,by lia⟩
  .rw[ZZ h1]at h;cases h
theorem Hj{α:Type}{xs:List α}{i:Int}{v:α}(h:atI xs i=some v):∃j,seqIndex? i xs.length=some j/\xs[j]?=some v/\j<xs.length/\-(xs.length:Int)<=i/\i<xs.length:=by
 unfold atI at h;cases e:ixN xs.length i with
 |none=>rw[e]at h;cases h
 |some j =>
  rw[e]at h;obtain⟨h1,h2,h3,h4⟩:=XD e;exact⟨j,h1,h,h2,h3,h4⟩
theorem cg{α:Type}{xs:List α}{j:Nat}{v:α}(h:xs[j]?=some v):atI xs (j:Int)=some v:=by
 have hj:j<xs.length:=(ao.mp h).1;have e:ixN xs.length (j:Int)=some j:=by
  unfold ixN;rw[ZY (X2 _),ZY (by lia)];simp
 unfold atI;rw[e];exact h
noncomputable def Wa(b:Expr):Prop:=∀o i,subscripted b false o i=operate [o,i] (getItem o i)
noncomputable def IxR(X:Cx)(r:R2):Prop :=
 ∀(value slice:Expr)(pins:Ψ)(s:Shared)(σ:St)(H:Hp)(x y:V)(v u:Value)(Q:VK),Inv X pins σ H s->RelV x v->RelV y u->r x y H Q ->
  subscripted slice false v u=operate [v,u] (getItem v u)->wpAny (model X.prog X.w) X.A (subscriptTail value slice v u) (EP X pins σ Q) X.xe s
noncomputable def MtR(X:Cx)(id:String)(r:V->Κ->Hp->VK->Prop):Prop :=
 ∀(pins:Ψ)(s:Shared)(σ:St)(H:Hp)(x:V)(xs:Κ)(v:Value)(us:Ω)(Q:VK),Inv X pins σ H s->RelV x v->Vals xs us->r x xs H Q ->
  wpAny (model X.prog X.w) X.A (call (.builtin id) (v::us)) (EP X pins σ Q) X.xe s
section
variable{X:Cx}{a b:Expr}{ta tb:TE}{pos:Pos}
theorem bT{r:R2}(hr:IxR X r)(ha:PE X a ta)(hb:PE X b tb)(hs:Wa b):PE X (.Subscript a b pos) (tOp r ta tb):=by
 intro pins s σ H Q I h;exact Subscript_ (YT ha hb I h λv u s2 x y H2 I2 rx ry q=>hr a b pins s2 σ H2 x y v u Q I2 rx ry q (hs _ _))
noncomputable def W8(K:Frag):R2:=λx y H Q=>∃p xs i v,x=.ref p/\y=.int i/\SqL K H p xs/\atI xs i=some v/\Q v H
noncomputable def JF(K:Frag):R2:=λx y H Q=>∃p xs i v,x=.ref p/\y=.int i/\SqT K H p xs/\atI xs i=some v/\Q v H
noncomputable def Wy:R2:=λx y H Q=>∃z i c,x=.str z/\y=.int i/\z.length<=sizeLine/\atI z.cps.toList i=some c/\Q (.str ⟨#[c]⟩) H
theorem V0:IxR X (W8 X.K):=by
 intro value slice pins s σ H x y v u Q I rx ry h hs;obtain⟨p,xs,i,z,rfl,rfl,hq,he,q⟩:=h;cases rx;obtain⟨t,rfl⟩:=ry;obtain⟨its,r,pl,hz⟩:=I.list hq;obtain⟨j,h1,h2,h3,h4,h5⟩:=Hj he;obtain⟨w,ew,rw'⟩:=r.get h2;have hl:=r.length;have hn:=uQ;have fin:EP X pins σ Q w s:=⟨z,H,I,rw',q⟩;by_cases h0:0<=i
 .have hj:i.toNat=j:=by
   rw[seqIndex_of h0 h5]at h1;exact Option.some.inj h1
  exact item_listR pl.isList h0 (by lia) (by rw[hj];simpa using ew) fin hs
 .have hj:(i+(its.toArray.size:Int)).toNat=j:=by
   rw[seqIndex_neg (Int.lt_of_not_ge h0) h4]at h1;rw[aY,<- hl];exact Option.some.inj h1
  exact subscriptTail_builtinR (x:=w) pl.isList.typeIs slot_list_getitem.lookup
   (wpAny_getItem_list_neg (Q:=λr s'=>r=w/\EP X pins σ Q r s') pl.isList (Int.lt_of_not_ge h0) (by rw[aY]<;>lia) (by lia) (by rw[hj];simpa using ew) ⟨rfl,fin⟩) hs
theorem gA:IxR X (JF X.K):=by
 intro value slice pins s σ H x y v u Q I rx ry h hs;obtain⟨p,xs,i,z,rfl,rfl,hq,he,q⟩:=h;cases rx;obtain⟨t,rfl⟩:=ry;obtain⟨its,r,pl,hz⟩:=I.tuple hq;obtain⟨j,h1,h2,h3,h4,h5⟩:=Hj he;obtain⟨w,ew,rw'⟩:=r.get h2;have hl:=r.length;have hn:=uQ;have fin:EP X pins σ Q w s:=⟨z,H,I,rw',q⟩;exact subscriptTail_builtinR (x:=w) pl.typeIs slot_tuple_getitem.lookup
  (getItem_tuple (j:=j) (Q:=λr s'=>r=w/\EP X pins σ Q r s') pl (by lia) (by lia) (by rw[aY,<- hl];exact h1) (by simpa using ew) ⟨rfl,fin⟩) hs
theorem K_:IxR X Wy:=by
 intro value slice pins s σ H x y v u Q I rx ry h hs;obtain⟨z,i,c,rfl,rfl,hz,he,q⟩:=h;obtain⟨t,rfl⟩:=rx;obtain⟨t',rfl⟩:=ry;obtain⟨j,h1,h2,h3,h4,h5⟩:=Hj he;have hl:z.cps.toList.length=z.length:=by simp[Str.length]
 rw[hl]at h1 h4 h5;have hn:=uQ;exact tail_any (typeIs_str s z t) slot_str_getitem.lookup (getItem_str (c:=c) (by
  have e1:decide (i < -(2^63:Int))=false:=Zp (by lia);have e2:decide (i>=2^63)=false:=Zp (by lia);rw[e1,e2,Bool.or_false]) (by rw[h1];simpa using h2) ⟨.str ⟨#[c]⟩,H,I.tok _,⟨_,rfl⟩,q⟩) hs
theorem Inv.lst{pins:Ψ}{σ:St}{H:Hp}{s:Shared}{p:Addr}{xs:Κ}(I:Inv X pins σ H s)(h:H p=some (.lst xs)) :
  ∃(its:Ω)(n:Nat),Vals xs its/\s.heap.get? p=some { cls:=.type "list",data:=.seq its.toArray n }/\xs.length<=sizeLine:=by
 obtain⟨z,its,n,r,e⟩:=I.hok p _ h;exact⟨its,n,r,e,z⟩
noncomputable def R8:V->V->V->Hp->(Hp->Prop)->Prop:=λo i v H Q=>∃p xs k j,o=.ref p/\i=.int k/\H p=some (.lst xs)/\ixN xs.length k=some j/\Q (upd H p (.lst (xs.set j v)))
theorem Fv(lo hi:Option Int)(n:Nat):(sliceBounds lo hi none n).1=((HT.sIx n 0 lo:Nat):Int)/\(sliceBounds lo hi none n).2.1=((HT.sIx n n hi:Nat):Int)/\(sliceBounds lo hi none n).2.2=1:=by
 refine⟨?_,?_,rfl⟩
 .cases lo with
  |none=>simp[sliceBounds,HT.sIx]
  |some i =>
   simp only[sliceBounds,HT.sIx,Option.getD_none,show(1:Int)>0 by decide,if_true];by_cases h:i<0
   .simp only[h,if_true]<;>lia
   .simp only[h,if_false]<;>lia
 .cases hi with
  |none=>simp[sliceBounds,HT.sIx]
  |some i =>
   simp only[sliceBounds,HT.sIx,Option.getD_none,show(1:Int)>0 by decide,if_true];by_cases h:i<0
   .simp only[h,if_true]<;>lia
   .simp only[h,if_false]<;>lia
theorem CP(its:Ω)(lo hi:Option Int):slicePick its.toArray lo hi none=((its.drop (HT.sIx its.length 0 lo)).take (HT.sIx its.length its.length hi-HT.sIx its.length 0 lo)).toArray:=by
 obtain⟨h1,h2,h3⟩:=Fv lo hi its.toArray.size;unfold slicePick;rw[h1,h2,h3];simp only[sliceRange_one,pick_run,aY]<;>rfl
noncomputable def W6(K:Frag):V->Option Int->Option Int->Hp->VK->Prop:=λx lo hi H Q=>∃a xs,x=.ref a/\SqL K H a xs/\∀p,H p=none->Q (.ref p) (upd H p (.lst (qb xs lo hi)))
theorem Hi:SlR X (W6 X.K):=by
 intro pins s σ H x v vl vu lo hi sl Q I rx hs pl pu h;obtain⟨a,xs,rfl,hx,q⟩:=h;cases rx;obtain⟨its,r,ht,hz⟩:=I.list hx;have hlen:=r.length;refine⟨"list",_,slot_list_getitem.lookup,ht.isList.typeIs,?_⟩;refine wpAny_getItem_list_slice ht.isList hs pl pu .none (by simp) ?_ (by rw[aY]<;>lia);rw[CP,<- hlen];refine⟨.ref s.heap.objs.size,_,I.laid (t':=s.toks) (o:=.lst (qb xs lo hi)) (λb ob q=>aG _ q) (aF _) ?_,rfl,q _ (I.hok.fresh (aF _))⟩;exact⟨aL (yh xs lo hi) hz,_,0,(r.drop (HT.sIx xs.length 0 lo)).take (HT.sIx xs.length xs.length hi-HT.sIx xs.length 0 lo),aX _ rfl⟩
noncomputable def m9:V->Bool
 |.non=>true
 |.bl _=>true
 |.int _=>true
 |.str _=>true
 |_=>false
noncomputable def eqV:V->V->Bool
 |.non,.non=>true
 |.bl a,.bl b=>a==b
 |.bl a,.int b=>(if a then 1 else 0)==b
 |.int a,.bl b=>a==(if b then 1 else 0)
 |.int a,.int b=>a==b
 |.str a,.str b=>a==b
 |_,_=>false
theorem Yz{A:Around}{s:Shared}{y x:V}{u v:Value}(ry:RelV y u)(rx:RelV x v)(fy:m9 y=true)(fx:m9 x=true):SeqAt.EqAt A s u v (eqV y x):=by
 cases y with
 |non =>
  cases ry;cases x with
  |non=>cases rx;exact SeqAt.EqAt.same _
  |bl b=>cases rx;exact SeqAt.EqAt.none_bool b
  |int b=>obtain⟨t,rfl⟩:=rx;exact SeqAt.EqAt.none_int b t
  |str b=>obtain⟨t,rfl⟩:=rx;exact SeqAt.EqAt.none_str b t
  |_=>exact absurd (show false=true from fx) bC
 |bl a =>
  cases ry;cases x with
  |non=>cases rx;exact SeqAt.EqAt.bool_none a
  |bl b=>cases rx;exact SeqAt.EqAt.bool_bool a b
  |int b=>obtain⟨t,rfl⟩:=rx;exact SeqAt.EqAt.bool_int a b t
  |str b=>obtain⟨t,rfl⟩:=rx;exact SeqAt.EqAt.bool_str a b t
  |_=>exact absurd (show false=true from fx) bC
 |int a =>
  obtain⟨t',rfl⟩:=ry;cases x with
  |non=>cases rx;exact SeqAt.EqAt.int_none a t'
  |bl b=>cases rx;exact SeqAt.EqAt.int_bool a t' b
  |int b=>obtain⟨t,rfl⟩:=rx;exact SeqAt.EqAt.int_int a t' b t
  |str b=>obtain⟨t,rfl⟩:=rx;exact SeqAt.EqAt.int_str a t' b t
  |_=>exact absurd (show false=true from fx) bC
 |str a =>
  obtain⟨t',rfl⟩:=ry;cases x with
  |non=>cases rx;exact SeqAt.EqAt.str_none a t'
  |bl b=>cases rx;exact SeqAt.EqAt.str_bool a t' b
  |int b=>obtain⟨t,rfl⟩:=rx;exact SeqAt.EqAt.str_int a t' b t
  |str b=>obtain⟨t,rfl⟩:=rx;exact SeqAt.EqAt.str_str a t' b t
  |_=>exact absurd (show false=true from fx) bC
 |_=>exact absurd (show false=true from fy) bC
theorem p8:d8 X (.builtin "len") (λxs H Q=>∃p ys,xs=[.ref p]/\(SqL X.K H p ys\/SqT X.K H p ys)/\Q (.int ys.length) H):=by
 intro pins s σ H xs us Q I r h;obtain⟨p,ys,rfl,hq,q⟩:=h;obtain⟨u,rfl,rx⟩:=vals1 r;cases rx;have hn:=uQ;rcases hq with hq|hq
 .obtain⟨its,r',pl,hz⟩:=I.list hq;have hlen:=r'.length;exact Calls.call_len_list pl.isList (by simp only[aY]<;>lia) ⟨.int ys.length,H,I.tok _,⟨s.toks+1,by rw[aY,hlen]⟩,q⟩
 .obtain⟨its,r',pl,hz⟩:=I.tuple hq;have hlen:=r'.length;exact len_tuple pl (by simp only[aY]<;>lia) ⟨.int ys.length,H,I.tok _,⟨s.toks+1,by rw[aY,hlen]⟩,q⟩
theorem Fw:d8 X (.builtin "len") (λxs H Q=>∃z,xs=[.str z]/\z.length<=sizeLine/\Q (.int z.length) H):=by
 intro pins s σ H xs us Q I r h;obtain⟨z,rfl,hz,q⟩:=h;obtain⟨u,rfl,t,rfl⟩:=vals1 r;have hn:=uQ;exact len_str (by lia) ⟨.int z.length,H,I.tok _,⟨_,rfl⟩,q⟩
theorem d8.or{f:Value}{r r':Κ->Hp->VK->Prop}(h:d8 X f r)(h':d8 X f r'):d8 X f (λxs H Q=>r xs H Q\/r' xs H Q):=by
 intro pins s σ H xs us Q I rs q;rcases q with q|q
 .exact h pins s σ H xs us Q I rs q
 .exact h' pins s σ H xs us Q I rs q
theorem Ew:d8 X (.type "list") (λxs H Q=>∃p ys,xs=[.ref p]/\(SqL X.K H p ys\/SqT X.K H p ys)/\∀l,H l=none->Q (.ref l) (upd H l (.lst ys))):=by
 intro pins s σ H xs us Q I r h;obtain⟨p,ys,rfl,hq,q⟩:=h;obtain⟨u,rfl,rx⟩:=vals1 r;cases rx;have fin:∀(its:Ω),Vals ys its->ys.length<=sizeLine->∀(h':Heap)(c':Nat),(∀b o',s.heap.get? b=some o'->h'.get? b=some o') ->
   h'.get? s.heap.objs.size=some { cls:=.type "list",dict:=none,data:=.seq its.toArray c',slots:=#[] }->EP X pins σ Q (.ref s.heap.objs.size) { s with heap:=h' }:=λits r' hz h' c' kp e =>
  ⟨.ref s.heap.objs.size,_,I.laid (t':=s.toks) kp (aF _) (show cV X.prog X.w _ h' _ (.lst ys)from⟨hz,its,c',r',e⟩),rfl,q _ (I.hok.fresh (aF _))⟩
 rcases hq with hq|hq
 .obtain⟨its,r',pl,hz⟩:=I.list hq;have hlen:=r'.length;obtain⟨o,ho,hc,n,hd⟩:=pl.isList;exact call_list_seq p (.inl rfl) ho hc hd (λh' c' kp e=>fin its r' hz h' c' kp e) (by simp only[aY]<;>lia)
 .obtain⟨its,r',pl,hz⟩:=I.tuple hq;have hlen:=r'.length;obtain⟨o,ho,hc,n,hd⟩:=pl;exact call_list_seq p (.inr rfl) ho hc hd (λh' c' kp e=>fin its r' hz h' c' kp e) (by simp only[aY]<;>lia)
theorem CZ:d8 X (.type "tuple") (λxs H Q=>∃p ys,xs=[.ref p]/\((SqL X.K H p ys/\∀l,H l=none->Q (.ref l) (upd H l (.tup ys)))\/(SqT X.K H p ys/\Q (.ref p) H))):=by
 intro pins s σ H xs us Q I r h;obtain⟨p,ys,rfl,h⟩:=h;obtain⟨u,rfl,rx⟩:=vals1 r;cases rx;rcases h with⟨hq,q⟩|⟨hq,q⟩
 .obtain⟨its,r',pl,hz⟩:=I.list hq;have hlen:=r'.length;refine call_tuple_list pl.isList (λh' kp=>?_) (by simp only[aY]<;>lia);have I1:Inv X pins σ H { s with heap:=h' }:=I.kept (t':=s.toks) kp;have I2:Inv X pins σ (upd H h'.objs.size (.tup ys)) { s with heap:=h'.push { cls:=.type "tuple",data:=.seq its.toArray } } :=
   I1.laid (t':=s.toks) (λb o e=>aG _ e) (aF _) (show cV X.prog X.w _ _ _ (.tup ys)from⟨hz,its,r',IsTup.new _ _⟩)
  exact⟨.ref h'.objs.size,_,I2,rfl,q _ (I1.hok.fresh (aF _))⟩
 .obtain⟨its,r',pl,hz⟩:=I.tuple hq;exact call_tuple_same pl ⟨.ref p,H,I,rfl,q⟩
noncomputable def tyV(K:Frag)(T:String)(x:V)(H:Hp):Prop:=match x with
 |.str _=>T = "str"
 |.int _=>T = "int"
 |.ref p=>(T = "list" /\ ∃xs,SqL K H p xs)\/(T = "tuple" /\ ∃o,K.lookup p=some o/\o.cls=.type "tuple" /\ o.dict=none) \/
   (T = "dict" /\ (∃kvs,H p=some (.dK kvs)))\/(T = "set" /\ ∃S n,H p=some (.set S n))
 |_=>False
theorem ZQ{pins:Ψ}{σ:St}{H:Hp}{s:Shared}{T:String}{x:V}{v:Value}(I:Inv X pins σ H s)(r:RelV x v)(ty:tyV X.K T x H) :
  s.TypeIs v T/\∀a,v=.ref a->∃ob,s.heap.get? a=some ob/\ob.dict=none:=by
 cases x with
 |str z =>
  obtain⟨t,rfl⟩:=r;cases(show T = "str" from ty);exact⟨typeIs_str s z t,λ_ e=>nomatch e⟩
 |int i =>
  obtain⟨t,rfl⟩:=r;cases(show T = "int" from ty);exact⟨typeIs_int s i t,λ_ e=>nomatch e⟩
 |ref p =>
  cases r;rcases ty with⟨rfl,xs,hq⟩|⟨rfl,o,hk,hc,hd⟩|⟨rfl,hk⟩|⟨rfl,S,n,hk⟩
  .obtain⟨its,_,pl,_⟩:=I.list hq;refine⟨pl.isList.typeIs,λa e=>?_⟩;cases e;obtain⟨o,n,e,c,hd,_⟩:=pl;exact⟨o,e,hd⟩
  .refine⟨⟨o,I.kIn p o hk,hc⟩,λa e=>?_⟩;cases e;exact⟨o,I.kIn _ o hk,hd⟩
  .have z:∃o,s.heap.get? p=some o/\o.ExactDict:=by
    obtain⟨kvs,hk⟩:=hk;obtain⟨_,_,_,_,o,_,_,e,ex,_⟩:=I.hok p _ hk;exact⟨o,e,ex⟩
   obtain⟨o,e,ex⟩:=z;refine⟨⟨o,e,ex.1⟩,λa e2=>?_⟩;cases e2;exact⟨o,e,ex.2.1⟩
  .obtain⟨o,_,_,_,e,ex,_⟩:=I.hok p _ hk;refine⟨⟨o,e,ex.1⟩,λa e2=>?_⟩;cases e2;exact⟨o,e,ex.2.1⟩
 |_=>exact False.elim ty
noncomputable def tBM(K:Frag)(T:String)(r:V->Κ->Hp->VK->Prop)(to:TE)(t:TA):TE:=λσ H Q=>to σ H λx H1=>tyV K T x H1/\t σ H1 λxs H2=>r x xs H2 Q
variable{o e:Expr}{es:List Expr}{to:TE}{t:TA}{name:Str}{apos cpos:Pos}{T id:String}{r:V->Κ->Hp->VK->Prop}
theorem ab2(pa:PlainAttrs T)(slot:Slot T name id)(hty:typeOf (.builtin id)=pure (.type "method_descriptor"))(hm:MtR X id r)(ho:PE X o to)(ha:PA X (e::es) t)
 (hbase:attributeBase o name X.env (eval o X.env)=eval o X.env:=by rfl)
 (hfew:((backTo cpos (starEach (e::es) X.env)).all (λx=>!x.1)&&(backToKw cpos (keywordEach [] X.env)).all (λx=>x.1.isSome)
   && decide ((e::es).length+([] : List Keyword).length+(if([] : List Keyword).isEmpty then 0 else 1)<30))=true:=by rfl)
 (hline:(apos.endLine==cpos.line)=true:=by rfl)(hs:starEach (e::es) X.env=(false,eval e X.env)::starEach es X.env:=by rfl)(hplain:(backTo cpos (starEach es X.env)).any (·.1)=false:=by rfl) :
  PE X (.Call (.Attribute o name apos) (e::es) [] cpos) (tBM X.K T r to t):=by
 intro pins s σ H Q I h;refine wpAny_Call_method_late hbase hfew hline rfl (thn (ho pins s σ H _ I h) λv s1 hP=>?_);obtain⟨x,H1,I1,r1,ty,q1⟩:=hP;obtain⟨h1,h2⟩:=ZQ I1 r1 ty;refine⟨T,id,pa,slot,hty,h1,h2,?_⟩;have hA:=ha cpos pins s1 σ H1 _ I1 q1;rw[hs]at hA ⊢;refine Calls.callWith_builtin (by show(false || (backTo cpos (starEach es X.env)).any (·.1))=false;rw[hplain]<;>rfl) (Calls.evalArgs_plain ?_);exact thn hA λus s2 hP=>by obtain⟨vs,H2,I2,r2,q2⟩:=hP;exact hm pins s2 σ H2 x vs v us Q I2 r1 r2 q2

end
noncomputable def MtM(X:Cx)(id:String)(r:V->Κ->Hp->VK->Prop):Prop :=
 ∀(pins:Ψ)(s:Shared)(σ:St)(H:Hp)(x:V)(xs:Κ)(v:Value)(us:Ω)(Q:VK),Inv X pins σ H s->RelV x v->Vals xs us->r x xs H Q ->
  wpAny (model X.prog X.w) X.A (call (.builtin id) (v::us)) (EP X pins σ Q) X.xe s
theorem Vals.one:∀{x:V}{us:Ω},Vals [x] us->∃u,us=[u]/\RelV x u
 |_,_,.cons r .nil=>⟨_,rfl,r⟩
theorem Vals.two{x y:V}{us:Ω}(h:Vals [x,y] us):∃u v,us=[u,v]/\RelV x u/\RelV y v:=by
 cases h with|cons r t=>cases t with|cons q t=>cases t;exact⟨_,_,rfl,r,q⟩
theorem Vals.eraseIdx:∀{xs:Κ}{us:Ω}(i:Nat),Vals xs us->Vals (xs.eraseIdx i) (us.eraseIdx i)
 |_,_,_,.nil=>.nil
 |_,_,0,.cons _ t=>t
 |_,_,i+1,.cons r t=>.cons r (Vals.eraseIdx i t)
theorem Ec{α:Type} : ∀(l:List α)(i:Nat),(l.eraseIdx i).length<=l.length
 |[],_=>aF _
 |_::_,0=>Xs _
 |_::r,i+1=>Nat.succ_le_succ (Ec r i)
section
variable{X:Cx}{pins:Ψ}{σ:St}{H:Hp}{s:Shared}{l b:Addr}{xs ys zs:Κ}
theorem Inv.lset{its its':Ω}{n:Nat}{f:Array Value->Array Value}{t':Nat}(I:Inv X pins σ H s)(hH:H l=some (.lst xs))
 (e:s.heap.get? l=some { cls:=.type "list",data:=.seq its.toArray n })(hf:f its.toArray=its'.toArray)(hv:Vals ys its')(hz:ys.length<=sizeLine) :
  Inv X pins σ (upd H l (.lst ys)) { s with heap:=s.heap.update l (Obj.mapSeq f),toks:=t' }:=by
 have q:=PySem.IsL.update e f;rw[hf]at q;refine I.write (x:=l) (e:=l) (by rw[hH];exact trivial) (.inl rfl) (λb' u hb hu=>(Heap.get?_update_other s.heap (Obj.mapSeq f) (Ne.symm hb)).trans hu) ⟨_,q⟩ ?_;exact⟨hz,its',_,hv,q⟩
theorem Inv.lnew{its:Ω}{t':Nat}(I:Inv X pins σ H s)(hv:Vals ys its)(hz:ys.length<=sizeLine) :
  Inv X pins σ (upd H s.heap.objs.size (.lst ys)) { s with heap:=s.heap.push { cls:=.type "list",data:=.seq its.toArray },toks:=t' } :=
 I.laid (λ_ _ q=>aG _ q) (aF _) ⟨hz,its,0,hv,aX _ rfl⟩
theorem Inv.fresh(I:Inv X pins σ H s):H s.heap.objs.size=none:=I.hok.fresh (aF _)
theorem Inv.lstM(I:Inv X pins σ H s)(hH:H l=some (.lst xs)):xs.length<=sizeLine/\∃(its:Ω)(n:Nat),Vals xs its/\xs.length=its.length/\s.heap.get? l=some { cls:=.type "list",data:=.seq its.toArray n }:=by
 obtain⟨z,its,n,r,e⟩:=I.hok l _ hH;exact⟨z,its,n,r,r.length,e⟩
end
section
variable{X:Cx}
noncomputable def Xc:V->Κ->Hp->VK->Prop:=λx vs H Q=>∃l xs y,x=.ref l/\vs=[y]/\H l=some (.lst xs)/\xs.length<sizeLine/\Q .non (upd H l (.lst (xs++[y])))
theorem Dz:MtM X "list.append" Xc:=by
 intro pins s σ H x vs v us Q I rx rv h;obtain⟨l,xs,y,rfl,rfl,hH,hz,q⟩:=h;cases rx;obtain⟨u,rfl,ru⟩:=rv.one;obtain⟨z,its,n,r,hl,e⟩:=I.lstM hH;refine call_meets F.slot_list_append ⟨_,e,rfl⟩ F.entry_list_append (F.args_list_append_2 _ _) (PySem.list_append l its.toArray n u (by rw[aY];lia)) ⟨e,?_⟩;refine⟨.non,_,I.lset (its':=its++[u]) hH e (by simp) (r.append (.cons ru .nil)) ?_,rfl,q⟩;rw[aA,List.length_singleton];exact hz
noncomputable def Wz:R2:=λx y H Q=>∃l b xs zs,x=.ref l/\y=.ref b/\H l=some (.lst xs)/\H b=some (.lst zs)/\xs.length+zs.length<=sizeLine/\∀p,H p=none->Q (.ref p) (upd H p (.lst (xs++zs)))
theorem RG:OpR X (binaryOp .Add) Wz:=by
 intro pins s σ H x y v u Q I rx ry h;obtain⟨l,b,xs,zs,rfl,rfl,hH,hB,hz,q⟩:=h;cases rx;cases ry;obtain⟨z,its,n,r,hl,e⟩:=I.lstM hH;obtain⟨z2,its2,n2,r2,hl2,e2⟩:=I.lstM hB;refine PySem.P.add_list e e2 ?_ (by rw[aY,aY];lia);have ea:its.toArray++its2.toArray=(its++its2).toArray:=by simp
 rw[ea];exact⟨.ref _,_,I.lnew (t':=s.toks) (r.append r2) (by rw[aA];omega),rfl,q _ I.fresh⟩
theorem vK{pins:Ψ}{s:Shared}{σ:St}{H:Hp}{l:Addr}{xs:Κ}{i:Int}{t:Tok}{k:Nat}{Q:Unit->Shared->Prop}(I:Inv X pins σ H s)(hH:H l=some (.lst xs))
 (h1 : -(2^63)<=i)(h2:i<2^63)(hk:seqIndex? i xs.length=some k)(h:∀s',Inv X pins σ (upd H l (.lst (xs.eraseIdx k))) s'->Q () s') :
  wpAny (model X.prog X.w) X.A (delItem (.ref l) (.int i t)) Q X.xe s:=by
 obtain⟨z,its,n,r,hl,e⟩:=I.lstM hH;refine PySem.P.delItem_list (k:=k) e (fitsIndex_both h1 h2) (by rw[aY,<- hl];exact hk) (h _ ?_) (by rw[aY];lia);refine I.lset (its':=its.eraseIdx k) (t':=s.toks) hH e ?_ (r.eraseIdx k) ?_
 .show its.toArray.eraseIdxIfInBounds k=(its.eraseIdx k).toArray;rw[List.eraseIdxIfInBounds_toArray]
 .have:=Ec xs k;exact aL this z
end
end L2
namespace Att
open PySem PySem.W PySem.Calls PyProof.Rows
theorem yE{P:Params}{h:Heap} : ∀(ns:List Int)(vs:Ω),WellAll P h vs (ns.map WData.int)->IntsAre vs ns:=by
 intro ns
 induction ns with
 |nil =>
  intro vs w;rw[List.map_nil]at w;cases w;exact .nil
 |cons n ns ih =>
  intro vs w;rw[List.map_cons]at w;cases w with
  |cons a b =>
   cases a;exact .cons _ _ (ih _ b)
theorem QD{l:OpenLaw}{n:Nat}(hn:l.most=some n){P:Params}{h:Heap}{args:List WData}{vals:Ω}
 (hpre:l.row.toRowW.claim.pre args=true)(hwl:WellAll P h vals args) :
  ∃a vs ns,vals=[Value.ref a]/\args=[WData.list (ns.map WData.int)]/\h.get? a=some { cls:=.type "list",data:=.seq vs.toArray }/\IntsAre vs ns/\ns.length<=n:=by
 have hsh:WShape.hasAll [] args [.list .int]=true:=(pre_splitW hpre).1;have hc:l.pre.holds [] { args:=args }=true:=(pre_splitW hpre).2;obtain⟨d,r,rfl,h1,h2⟩:=hasAllW_cons hsh;obtain rfl:=hasAllW_nil h2;obtain⟨xs,rfl,h3⟩:=hasW_list h1;obtain⟨ns,rfl⟩:=items_int h3;have hlen:ns.length<=n:=by
  unfold OpenLaw.pre at hc;have h4:(WTm.not (.lt (.lit (.int (n:Int))) (.len (.arg 0)))).holds [] { args:=[.list (ns.map .int)] }=true:=by
   have h4:=(holds_andW hc).1;rw[hn]at h4;exact h4
  have h5:=condW_of h4 (w_not (w_lt w_lit (w_len_list (w_arg rfl))));rw[ak]at h5;refine Nat.le_of_not_lt λq=>?_;have q':(n:Int)<((ns.length:Nat):Int):=by omega
  first
   |(rw[Zs q']at h5;exact absurd h5 (by decide))
   |(simp at h5;omega)
 cases hwl with
 |cons w1 w2 =>
  cases w2;cases w1 with
  |list ho hall=>exact⟨_,_,ns,rfl,rfl,ho,yE ns _ hall,hlen⟩
theorem Pu(l:OpenLaw)(args:List WData):l.row.toRowW.claim.post args (.bool true) args=true :=
 postW_of (r:=l.row.toRowW) (X:=(true==true))
  (show WShape.has [] (.bool true) .bool=true by first|rfl|decide|simp[WShape.has,WShape.arms,WShape.armsAll])
  (show(WTm.eq .res (.lit (.bool true))).value [] { args:=args,res:=some (.bool true),after:=args }=some (.bool (true==true))from w_eq_bool (w_res rfl) w_lit) rfl
theorem Jg{l:OpenLaw}{n:Nat}{q:Program}{loose:Ξ}{XP:(Str->Ε)->Heap->Prop}{YP:World->Heap->Prop}{d:DefRec}
 (hn:l.most=some n)(hdf:d.params.defaults=[])
 (call:∀(w:World)(s₀ s₁:Shared)(mg mb:Str->Ε)(fa:Addr)(o:Obj)(pm cd doc:Value)(a:Addr)(vs:Ω)(ns:List Int),
   Ground q loose [] XP w s₀ mg mb s₁.heap->YP w s₁.heap ->
   s₁.heap.get? fa=some o->o.data=.func (docDef d.name d.params d.body d.scope pm cd doc)->s₁.heap.CodeRec cd d.name->mg d.name=some (.ref fa) ->
   s₁.heap.get? a=some { cls:=.type "list",data:=.seq vs.toArray }->IntsAre vs ns->ns.length<=n->s₁.gens = #[] ->
   codeAny (model l.prog w) callerA (.call (.ref fa) ⟨[.ref a],[]⟩) (λr s'=>r=.ok (.ret (.bool true))/\OldK s₁.heap s'.heap/\s'.os=s₁.os/\AllBare s'.gens) s₁) :
  WalkO q loose XP YP l.row.toRowW d [] (λf vs=>PySem.call f vs):=by
 intro w s₀ s₁ mg mb G Y fa o pm cd doc dV kV ho hd hcd hD hmg hg args vals as hpre hlay hrd hwl hlo;obtain rfl:dV=.none:=Dflts.none hD hdf;obtain rfl:kV=.none:=Dflts.noKw hD;obtain⟨a,vs,ns,rfl,rfl,hobj,hints,hlen⟩:=QD hn hpre hwl;refine enter_call (codeAny_mono (call w s₀ s₁ mg mb fa o pm cd doc a vs ns G Y ho (fd_plain hd) hcd hmg hobj hints hlen hg) λr s' hq=>?_);obtain⟨rfl,h2,h3,h4⟩:=hq;exact⟨.inl ⟨.bool true,.bool true,[],rfl,λ_=>rfl,.bool true,Pu l _,λ_=>⟨List.Pairwise.nil,λ_ hm=>(nomatch hm)⟩⟩,h2,h3,h4⟩
end Att
namespace L2
open PySem PySem.Spec PyProof.Rows
theorem xG:∀{vs:Ω}{ns:List Int},IntsAre vs ns->Vals (ns.map V.int) vs
 |_,_,.nil=>.nil
 |_,_,.cons n t h=>.cons ⟨t,rfl⟩ (xG h)
noncomputable def Only(H:Hp):Prop:=∀b,H b=none\/∃o xs,H b=some (.frz o (.lst xs))
theorem Rq{P:Program}{w:World}{K:Frag}{mg mb:Str->Ε}{CX:CXT}{k:Nat}{fa a:Addr}{fd:FuncData}{x:Str}{sp:Sp}{s₁:Shared}{vs:Ω}{ns:List Int}
 (KX:K.In s₁.heap)(hns:s₁.heap.Ns mainGlobals mg)(hb:s₁.heap.Ns builtinsNs mb)(hbb:∀x:Str,x ≠ "__name__" -> mb x=bootBuiltins x)(hlim:s₁.heap.NoLimit)(hg:s₁.gens = #[])
 (ha:s₁.heap.get? a=some { cls:=.type "list",data:=.seq vs.toArray })(hi:IntsAre vs ns)(hl:ns.length<=sizeLine)(hr:eU k callerA)
 (F:∀base:Heap,K.In base->base.Ns mainGlobals mg->cD P w K mg base CX k fa fd [x] sp)(hbind:∀(s:Shared)(u:Value),BindsTo s fd ⟨[u],[]⟩ [(x,u)])
 (hsp:∀H:Hp,Only H->SqL K H a (ns.map V.int)->sp [.ref a] H (λv _=>v=.bl true) λ_ _ _=>False)
 (hCX:∀H e s',CX [] H s₁ (λ_ _ _=>False) e s'->False) :
  codeAny (model P w) callerA (.call (.ref fa) ⟨[.ref a],[]⟩) (λr s'=>r=.ok (.ret (.bool true))/\OldK s₁.heap s'.heap/\s'.os=s₁.os/\AllBare s'.gens) s₁:=by
 have rv:=xG hi;have lenV:=hi.length

 have core:∀H:Hp,Only H->SqL K H a (ns.map V.int)->HOk P w H s₁.heap->(∀b,H b≠none->b=a)->(H a≠none->K.lookup a=none) ->
   codeAny (model P w) callerA (.call (.ref fa) ⟨[.ref a],[]⟩) (λr s'=>r=.ok (.ret (.bool true))/\OldK s₁.heap s'.heap/\s'.os=s₁.os/\AllBare s'.gens) s₁:=by
  intro H hO hS hok hA hK;have base_of:∀{b:Addr}{o:Obj},s₁.heap.get? b=some o->H b=none->(G3 s₁.heap H).get? b=some o:=λe n=>Ux e n;have noA:∀{b:Addr}{o:Obj}{es:Array DictEntry}{ep:Nat},s₁.heap.get? b=some o->o.data=.dict es ep->H b=none:=λ{b o es ep}e d=>by
   cases q:H b with
   |none=>rfl
   |some u =>
    have e':b=a:=hA b (by rw[q];simp);subst e';rw[ha]at e;cases e;have d':Data.seq vs.toArray _=Data.dict es ep:=d;cases d'
  have nsK:∀{b:Addr}{m:Str->Ε},s₁.heap.Ns b m->(G3 s₁.heap H).Ns b m:=λ{b m}⟨o,es,ep,e,d,r⟩=>⟨o,es,ep,base_of e (noA e d),d,r⟩;have hKb:K.In (G3 s₁.heap H):=λb o e=>base_of (KX b o e) (by
   cases q:H b with
   |none=>rfl
   |some u =>
    have e':b=a:=hA b (by rw[q];simp);subst e';rw[hK (by rw[q];simp)]at e;cases e)
  have hM:Mod K mg (G3 s₁.heap H):=⟨hKb,nsK hns,⟨mb,nsK hb,hbb⟩,let⟨mc,h1,h2⟩:=hlim;⟨mc,nsK h1,h2⟩⟩;have e0:Kv P w K mg (G3 s₁.heap H) callerA [] s₁ H:=⟨rfl,hM,λb o e=>WT e,Nat.le_of_eq (Qe _ _),trivial,λb hb=>absurd (show b∈([] : Β)from hb) (by simp),hok,.of_eq hg⟩;refine codeAny_mono ((F _ hKb (nsK hns)).run callerA [] s₁ H ⟨[.ref a],[]⟩ [.ref a] [.ref a] _ _ hr e0 (hbind s₁ (.ref a)) (.cons rfl .nil) (hsp H hO hS)) λr s' h=>?_;cases r with
  |error e=>exact(hCX H e s' h).elim
  |ok fl =>
   cases fl with
   |next=>exact False.elim h
   |brk=>exact False.elim h
   |cont=>exact False.elim h
   |ret u =>
    obtain⟨v,H',os,bare,un,hok',r',q⟩:=h;have q':v=.bl true:=q;subst q';obtain rfl:u=Value.bool true:=r';refine⟨rfl,OldK.of_keep λb o e=>?_,os,bare⟩;cases q:H b with
    |none=>exact un.keep b o e q (by intro z;exact absurd (show b∈([] : Β)from z) (by simp)) (by simp)
    |some u =>
     rcases hO b with z|⟨ob,xs,z⟩
     .rw[q]at z;cases z
     .have z2:=un.frzs b ob _ z;obtain⟨e1,_⟩:=hok b _ z;obtain⟨e2,_⟩:=hok' b _ z2;rw[e]at e1;cases e1;exact e2
 cases hk:K.lookup a with
 |some o =>

  have e:=KX a o hk;rw[ha]at e;cases e;refine core (λ_=>none) (λ_=>.inl rfl) (.inr ⟨_,vs.toArray,_,hk,rfl,rfl,rfl,by rw[aY,lenV];exact hl,by simpa using rv⟩) (λb u z=>by have z':(none:Option HO)=some u:=z;cases z') (λb z=>absurd rfl z) λz=>absurd rfl z
 |none =>
  refine core (λb=>if b=a then some (.frz { cls:=.type "list",data:=.seq vs.toArray } (.lst (ns.map V.int)))else none) (λb=>?_) (.inl (.inr ⟨{ cls:=.type "list",data:=.seq vs.toArray },ZY rfl⟩)) (λb u z=>?_) (λb z=>?_) λ_=>hk
  .by_cases hb:b=a
   .exact .inr ⟨_,_,ZY hb⟩
   .exact .inl (ZZ hb)
  .by_cases hb:b=a
   .have z':=(ZY hb).symm.trans z;cases z';subst hb;exact⟨ha,by rw[ak];exact hl,vs,_,rv,ha⟩
   .have z':=(ZZ hb).symm.trans z;cases z'
  .by_cases hb:b=a
   .exact hb
   .exact absurd (ZZ hb) z
noncomputable abbrev KOf{K:Frag}{h:Heap}(_:K.In h):Frag:=K
theorem Ny{l:PySem.W.OpenLaw}{n k:Nat}{q:Program}{loose:Ξ}{XP:(Str->Ε)->Heap->Prop}{YP:World->Heap->Prop}{d:DefRec}{K:Params->Frag}{CX:World->CXT}{sp:World->Sp}{x:Str}
 (hn:l.most=some n)(hn2:n<=sizeLine)(hdf:d.params.defaults=[])(hr:eU k callerA)
 (hY:∀(w:World)(h:Heap),YP w h->(K w.params).In h)
 (F:∀(w:World)(mg:Str->Ε)(fa:Addr)(h:Heap),(K w.params).In h->h.Ns mainGlobals mg->mg d.name=some (.ref fa) ->
   ∃fd:FuncData,(∀(s:Shared)(u:Value),BindsTo s fd ⟨[u],[]⟩ [(x,u)]) /\
    ∀base:Heap,(K w.params).In base->base.Ns mainGlobals mg->cD l.prog w (K w.params) mg base (CX w) k fa fd [x] (sp w))
 (hsp:∀(w:World)(H:Hp)(a:Addr)(ns:List Int),ns.length<=n->Only H->SqL (K w.params) H a (ns.map V.int)->sp w [.ref a] H (λv _=>v=.bl true) λ_ _ _=>False)
 (hCX:∀(w:World)(H:Hp)(s:Shared)(e:Value)(s':Shared),CX w [] H s (λ_ _ _=>False) e s'->False) :
  PySem.W.WalkO q loose XP YP l.row.toRowW d [] (λf vs=>PySem.call f vs):=by
 refine Att.Jg hn hdf λw s₀ s₁ mg mb fa o pm cd doc a vs ns G Y ho hd hcd hmg hobj hints hlen hg=>?_;have KX:=hY w _ Y;obtain⟨fd,hb,hF⟩:=F w mg fa _ KX G.T.g hmg;exact Rq KX G.T.g G.T.b G.T.builtins G.T.nolimit hg hobj hints (aL hlen hn2) hr hF hb (λH hO hS=>hsp w H a ns hlen hO hS) λH e s'=>hCX w H s₁ e s'
end L2

namespace L2
open PySem PySem.Spec PyProof.Rows
noncomputable abbrev CX0:CXT:=λ_ _ _ _ _ _=>False
noncomputable abbrev E0:XK:=λ_ _ _=>False
theorem O7{X:Cx} : Passes CX0 X E0:=λ_ _ _ _ _ _ _ h=>h.elim
structure Fun(K:Frag)(x qual:Str)(st:Stmt)(f:Addr)(fd:FuncData):Prop where
 ex:∃(oc:Value)(od:Ζ)(kV doc pm:Value)(an:Ζ)(cdv ct:Value)(osl:Array (Ε)),
  fd=PySem.W.fnOf x qual (gK st) (eZ st) (bN st) .none kV doc pm an cdv ct/\K.lookup f=some ⟨oc,od,.func fd,osl⟩/\codeIn K cdv qual=true
 kp:keepIn K (.ref f)=true
section
variable{P:Program}{w:World}{K:Frag}{mg:Str->Ε}{base:Heap}
theorem Fun.ok{x qual:Str}{st:Stmt}{f:Addr}{fd:FuncData}{N ps:Ξ}{k:Nat}{sp:Sp}(F:Fun K x qual st f fd)(S:bV N ps (bN st))(len:∀vs H Q E,sp vs H Q E->vs.length=ps.length)
 (hbody:∀(cdv:Value)(A:Around)(outer:List Env)(s:Shared)(H:Hp)(vs:Κ)(Q:VK)(E:XK),eU k (A.deeper (envOfC qual (bN st) s.heap.objs.size f cdv))->sp vs H Q E ->
   ∃t,PSs (Bw CX0 P w K mg base N qual (bN st) f cdv A outer s H E).nox (eZ st) t/\t { nx:=λ_ H'=>Q .non H',rt:=Q } (start N vs) H):cD P w K mg base CX0 (k+1) f fd ps sp:=by
 obtain⟨oc,od,kV,doc,pm,an,cdv,ct,osl,rfl,lk,hcd⟩:=F.ex;refine Yp lk hcd S len λA outer s H vs Q E hr hsp=>?_;obtain⟨t,h,q⟩:=hbody cdv A outer s H vs Q E hr hsp;exact⟨t,h.nox,q⟩
theorem Ti{x qual:Str}{st:Stmt}{f:Addr}{oc:Value}{od an:Ζ}{osl:Array (Ε)}{kV doc pm cdv ct:Value}(l:K.lookup f=some ⟨oc,od,.func (PySem.W.fnOf x qual (gK st) (eZ st) (bN st) .none kV doc pm an cdv ct),osl⟩)
 (c:codeIn K cdv qual=true)(k:keepIn K (.ref f)=true):Fun K x qual st f (PySem.W.fnOf x qual (gK st) (eZ st) (bN st) .none kV doc pm an cdv ct):=⟨⟨oc,od,kV,doc,pm,an,cdv,ct,osl,rfl,l,c⟩,k⟩
end
theorem qC{A:Around}{k:Nat}(hr:eU k A):A.units+1<cLine:=Y3 (Nat.add_le_add_left (by decide:1<=64) _) hr.units
section
variable{X:Cx}
noncomputable def Zt(sc:Scope)(x:Str):Bool:=(sc.names.lookup x).any λk=>k == .local || k == .cell || k == .free
theorem Y7{sc:Scope}{x:Str}(h:Zt sc x=true):Vis sc x:=by
 unfold Zt at h;unfold Vis;cases e:sc.names.lookup x with
 |none=>rw[e]at h;cases h
 |some k=>rw[e]at h;cases k<;>first|exact .inl rfl|exact .inr (.inl rfl)|exact .inr (.inr rfl)|cases h
theorem pv(i:Nat){x:Str}{pos:Pos}(hN:X.N[i]?=some x:=by rfl)(hv:Zt X.env.scope x=true:=by rfl)(hd:(x==("__debug__" : Str))=false:=by decide)
 (hcd:(x==("__classdict__" : Str))=false:=by decide):PE X (.Name x pos) (Iz i):=ZM hN (Y7 hv) hd hcd
end
theorem Wk{c A B:Prop}[Decidable c](h1:c->A)(h2:¬c->B):if c then A else B:=by
 by_cases h:c
 .rw[ZY h];exact h1 h
 .rw[ZZ h];exact h2 h
noncomputable def Same(H H':Hp):Prop:=∀b o,H b=some o->H' b=some o
theorem Same.refl(H:Hp):Same H H:=λ_ _ h=>h
theorem Same.trans{H H1 H2:Hp}(a:Same H H1)(b:Same H1 H2):Same H H2:=λc o h=>b c o (a c o h)
theorem Same.free{H H':Hp}(e:Same H H'){l:Addr}(h:H' l=Option.none):H l=Option.none:=by
 cases q:H l with
 |none=>rfl
 |some o =>
  rw[e l o q]at h;cases h
noncomputable def Bd(i:Int):Prop:=i.natAbs<2^8000
theorem Bd.log2{i:Int}(h:Bd i):i.natAbs.log2<8000:=by
 by_cases h0:i.natAbs=0
 .rw[h0,Nat.log2_zero];exact Nat.succ_pos _
 .exact(Nat.log2_lt h0).mpr h
theorem Bd.bits{i:Int}(h:Bd i):Builtin.Int.intBits i<=2^20:=by
 have e:(2:Nat)^20=1048576:=by decide
 have:=h.log2;unfold Builtin.Int.intBits;split
 .exact bh _
 .lia
section
variable{X:Cx}
theorem cJ:OpR X (binaryOp .Mult) (rI (λi j=>Bd i/\Bd j) λi j=>.int (i*j)):=opI λ_ _ _ _ _ _ _ hc q=>mul_int q (.of_bits hc.1.bits hc.2.bits)
theorem dY:OpR X (binaryOp .FloorDiv) (rI (λ_ j=>j≠0/\Bd j) λi j=>.int (i.fdiv j)):=opI λ_ _ _ _ _ _ _ hc q=>floordiv_int hc.1 q (.inl (PyProof.noPylong_of_log2 (by have:=hc.2.log2;exact Nat.lt_trans this (by decide))))
theorem Kd:d8 X (.builtin "isinstance") (λxs H Q=>∃x c cv t b,xs=[x,c]/\((∃T,c=.ty T/\cv=Value.type T)\/∃C,c=.ref C/\cv=Value.ref C)/\xW X.K H x t/\kitOne X.K t cv=some b/\Q (.bl b) H):=by
 intro pins s σ H xs us Q I r h;obtain⟨x,c,cv,t,b,rfl,rc,ty,e,q⟩:=h;obtain⟨u,v,rfl,ru,rv⟩:=r.two;have e2:v=cv:=by
  rcases rc with⟨T,rfl,rfl⟩|⟨T,rfl,rfl⟩
  .exact rv
  .exact rv
 subst e2;exact Qx I ru ty e λtk=>⟨.bl b,H,I.tok _,rfl,q⟩
theorem Jb:d8 X (.builtin "sorted") (λxs H Q=>∃l ns,xs=[.ref l]/\SqL X.K H l (ns.map V.int)/\ns.length<64/\∀(ms:List Int)p,H p=none->ms.Perm ns->ms.Pairwise (· <= ·)->Q (.ref p) (upd H p (.lst (ms.map V.int)))):=by
 intro pins s σ H xs us Q I r h;obtain⟨l,ns,rfl,hl,h64,q⟩:=h;obtain⟨u,rfl,ru⟩:=r.one;cases ru;obtain⟨its,rv,p,hz⟩:=I.list hl;have hI:=intsAre_of rv;have hlen:its.length=ns.length:=by have:=rv.length;simpa using this.symm
 refine sorted_ints (vs:=its) p.isList hI (Y3 (Nat.le_of_eq hlen) h64) λout ns' a1 a2 a3=>?_;obtain⟨e,he⟩:=sortedAll_at s.heap its out;have hfr:H (s.heap.objs.size+1)=none:=I.hok.fresh (Xs _);refine⟨.ref _,_,I.laid (a:=s.heap.objs.size+1) (o:=.lst (ns'.map V.int)) (t':=s.toks) (λb u e=>sortedAll_old e) (Xs _) ?_,rfl,q ns' _ hfr a2 a3⟩;refine⟨?_,out.toList,e,xG a1,he⟩;rw[ak,a2.length_eq];rw[ak]at hz;exact hz
end
section
variable{prog:Program}{w:World}{A:Around}{E:Ι}{s:Shared}
theorem Dq{it t:Addr}{items:Array Value}(hne:t≠it):∀(n i:Nat)(s:Shared)(Q:Ω->Shared->Prop),s.heap.IsListIter it t i->PlainL s.heap t items->i+n<=items.size ->
  (∀h',h'.IsListIter it t (i+n)->Heap.SameBut it s.heap h'->Q ((items.toList.drop i).take n) { s with heap:=h' })->wpAny (model prog w) A (draw (.ref it) n) Q E s
 |0,i,s,Q,hit,_,_,hQ=>by
  show wpAny _ _ (pure []) Q E s;exact ZT (by simpa using hQ s.heap hit (Heap.SameBut.refl ..))
 |n+1,i,s,Q,hit,ht,hle,hQ=>by
  have hlt:i<items.size:=by lia
  show wpAny _ _ (pyNext (.ref it) >>= _) Q E s;refine ZU (wpAny_pyNext_list_item hit ht.isList (x:=items[i]) (by simp[hlt]) λh₁ hit₁ hs₁=>?_);have ht₁:PlainL h₁ t items:=by
   obtain⟨o,k,e,r⟩:=ht;exact⟨o,k,(hs₁.2 t hne).trans e,r⟩
  refine ZU (wpAny_holding (Dq hne n (i+1) _ _ hit₁ ht₁ (by lia) λh₂ hit₂ hs₂=>ZT ?_));have hd:items.toList.drop i=items[i]::items.toList.drop (i+1):=by simp[List.drop_eq_getElem_cons,hlt]
  have:=hQ h₂ (by rw[show i+(n+1)=i+1+n by lia];exact hit₂) (hs₁.trans hs₂);rw[hd,List.take_succ_cons]at this;exact this
theorem wU{t:Addr}{items:Array Value}{Q:Ω->Shared->Prop}(hh:A.handled=none)(ht:PlainL s.heap t items)
 (hQ:∀h',Heap.ExtBut s.heap.objs.size s.heap h'->Q items.toList { s with heap:=h' }):wpAny (model prog w) A (unpackItems (.ref t) items.size none) Q E s:=by
 have hlt:t≠s.heap.objs.size:=by obtain⟨o,_,ho,_⟩:=ht;exact aQ (aJ ho)
 unfold unpackItems;refine ZU ?_
 .unfold notIterableAtAll;refine ZU (wpAny_specialOf ht.isList.typeIs slot_list_iter.lookup ?_);refine ZT ?_;simp only[XW,if_false];refine ZU (wpAny_holding (wpAny_pyIter_list ht.isList ?_));have ht0:PlainL (s.heap.push { cls:=.type "list_iterator",data:=.fields #[.ref t,.int 0 0] }) t items:=by
   obtain⟨o,k,e,r⟩:=ht;exact⟨o,k,aG _ e,r⟩
  refine ZU (wpAny_holding (Dq hlt items.size 0 _ _ ⟨_,aX _ rfl,rfl,rfl⟩ ht0 (by lia) λh₁ hit₁ hs₁=>?_));have hall:List.take items.size (List.drop 0 items.toList)=items.toList:=by
   rw[List.drop_zero];exact aK (by simp)
  rw[hall];rw[ZZ (by simp)];have ht₁:PlainL h₁ t items:=by
   obtain⟨o,k,e,r⟩:=ht0;exact⟨o,k,(hs₁.2 t hlt).trans e,r⟩
  refine ZU (wpAny_holding (wpAny_pyNext_list_end hh hit₁ ht₁.isList (by simp) λh₂ he₂=>?_));simp only[Option.isSome_none,XW,if_false];refine ZT (hQ h₂ λb o hb e=>he₂ b o hb (hs₁.extBut b o hb (aG _ e)))
theorem wN{env:Env}{elts:List Expr}{x1}{pos:Pos}{t:Addr}{items:Array Value}{Q:Unit->Shared->Prop}(hh:A.handled=none)(ht:PlainL s.heap t items)
 (hn:(assignEach elts env).length=items.size)(hstar:(assignEach elts env).findIdx? (·.1)=none)
 (h:∀h',Heap.ExtBut s.heap.objs.size s.heap h'->wpAny (model prog w) A (assignInOrder ((assignEach elts env).map (·.2)) items.toList) Q E { s with heap:=h' }) :
  wpAny (model prog w) A (assign (.Tuple elts x1 pos) env (.ref t)) Q E s:=by
 rw[assign_Tuple];refine ZU (wpAny_standAt ?_);unfold unpack;rw[hn,hstar];exact ZU (wpAny_holding (wU hh ht h))
end
section
variable{X:Cx}{pos:Pos}
noncomputable def acq(K:Frag)(n:Nat)(t:TGs):TG:=λv σ H Q=>∃a xs,v=.ref a/\SqL K H a xs/\xs.length=n/\t xs σ H Q
theorem Xr{es:List Expr}{k:Nat}{t:TGs}{n:Nat}(hc:X.calm=true)(h:PGs X es t)
 (hn:(assignEach es X.env).length=n:=by rfl)(hst:(assignEach es X.env).findIdx? (·.1)=none:=by rfl):PG X (.Tuple es k pos) (acq X.K n t):=by
 intro pins s σ H v u Q I r hw;obtain⟨a,xs,e1,hq,hl,hw⟩:=hw;subst e1;cases r;obtain⟨its,rv,ht,hz⟩:=I.list hq;refine wN (I.ok.hd hc) ht (by simp[hn,<- hl,rv.length]) hst λh' hx=>?_;have I1:Inv X pins σ H { s with heap:=h' }:=I.kept (t':=s.toks) λb o e=>hx b o (aQ (aJ e)) e;exact h pins _ σ H xs _ Q I1 (by simpa using rv) hw
end
theorem cV.btw{P:Program}{w:World}{H H2 H':Hp}{h h':Heap}{a:Addr}{o:HO}(x:cV P w H h a o)(y:cV P w H' h' a o)(s1:Same H H2):cV P w H2 h' a o:=by
 induction o with
 |ins C dx fs=>exact⟨s1 dx _ x.1,y.2⟩
 |frz ob u ih=>exact⟨y.1,ih x.2 y.2⟩
 |_=>exact y
noncomputable def Plus(H H2:Hp):Prop:=Same H H2/\∀a o,H2 a=some o->H a=some o\/(∃xs,o=.tup xs)\/∃xs,o=.lst xs
theorem Plus.refl(H:Hp):Plus H H:=⟨Same.refl H,λ_ _ e=>.inl e⟩
theorem Plus.tup{H H1:Hp}{p:Addr}{xs:Κ}(h:Plus H H1)(hp:H1 p=none):Plus H (upd H1 p (.tup xs)):=by
 refine⟨λb o e=>?_,λa o e=>?_⟩
 .rw[bL (bK (h.1 b o e) hp)];exact h.1 b o e
 .by_cases z:a=p
  .subst z;rw[bI]at e;cases e;exact .inr (.inl ⟨xs,rfl⟩)
  .rw[bL z]at e;exact h.2 a o e
theorem cD.forget{P:Program}{w:World}{K:Frag}{mg:Str->Ε}{base:Heap}{CX:CXT}{k:Nat}{f:Addr}{fd:FuncData}{ps:Ξ}{sp sp':Sp}(F:cD P w K mg base CX k f fd ps sp)
 (hs:∀vs H Q E,sp' vs H Q E->∃Q',sp vs H Q' E/\∀v H',Q' v H'->∃H2,Plus H H2/\Same H2 H'/\Q v H2):cD P w K mg base CX k f fd ps sp':=by
 refine⟨λvs H Q E h=>?_,λA outer s H args us vs Q E hr e0 hb r h=>?_⟩
 .obtain⟨Q',h',_⟩:=hs vs H Q E h;exact F.len vs H Q' E h'
 obtain⟨Q',h',hq⟩:=hs vs H Q E h;refine codeAny_mono (F.run A outer s H args us vs _ E hr e0 hb r h') λres s' hs=>?_;cases res with
 |error e=>exact hs
 |ok fl =>
  cases fl with
  |ret u =>
   obtain⟨v,H',ho,hbr,un,hok,rv,q'⟩:=hs;obtain⟨H2,⟨s1,cl⟩,s2,q⟩:=hq v H' q';have fr:∀b,H' b=none->H2 b=none:=λb e=>s2.free e;refine⟨v,H2,ho,hbr,⟨un.keep,un.slot,λb o e n hx=>fr b (un.free b o e n hx),un.there,λb xs e=>s1 b _ e,λb o u e=>s1 b _ e,λb ps e=>⟨#[],by rw[s1 b _ e];simp⟩⟩,λa o e=>?_,rv,q⟩;have z:=hok a o (s2 a o e);rcases cl a o e with c|⟨xs,rfl⟩|⟨xs,rfl⟩
   .exact(e0.hok a o c).btw z s1
   .exact z
   .exact z
  |next=>exact hs
  |brk=>exact hs
  |cont=>exact hs
theorem cD.clean{P:Program}{w:World}{K:Frag}{mg:Str->Ε}{base:Heap}{CX:CXT}{k:Nat}{f:Addr}{fd:FuncData}{ps:Ξ}{sp sp':Sp}(F:cD P w K mg base CX k f fd ps sp)
 (h:∀vs H Q E,sp' vs H Q E->sp vs H (λv H'=>Same H H'/\Q v H) E):cD P w K mg base CX k f fd ps sp' :=
 F.forget λvs H Q E hs=>⟨_,h vs H Q E hs,λv H' hP=>by obtain⟨s,q⟩:=hP;exact⟨H,Plus.refl H,s,q⟩⟩
theorem Same.upd{H:Hp}{p:Addr}{o:HO}(hp:H p=none):Same H (upd H p o):=λb u e=>by
 rw[bL (bK e hp)];exact e
theorem cD.cleanP{P:Program}{w:World}{K:Frag}{mg:Str->Ε}{base:Heap}{CX:CXT}{k:Nat}{f:Addr}{fd:FuncData}{ps:Ξ}{sp sp':Sp}(F:cD P w K mg base CX k f fd ps sp)
 (h:∀vs H Q E,sp' vs H Q E->sp vs H (λv H'=>Same H H'/\∃p xs,H' p=some (.tup xs)/\H p=none/\Q v (upd H p (.tup xs))) E):cD P w K mg base CX k f fd ps sp' :=
 F.forget λvs H Q E hs=>⟨_,h vs H Q E hs,λv H' ⟨s,p,xs,e,z,q⟩=>by
  refine⟨_,(Plus.refl H).tup (xs:=xs) z,λb o y=>?_,q⟩;by_cases c:b=p
  .subst c;rw[bI]at y;cases y;exact e
  .rw[bL c]at y;exact s b o y⟩
section
variable{X:Cx}
theorem IxR.imp{r r':R2}(h:IxR X r)(i:∀x y H Q,r' x y H Q->r x y H Q):IxR X r':=by
 intro b pos pins s σ H x y v u Q I rx ry q hs;exact h _ _ _ _ _ _ _ _ _ _ _ I rx ry (i _ _ _ _ q) hs
noncomputable def OJ:R2:=λx y H Q=>∃p xs i v,x=.ref p/\y=.int i/\H p=some (.tup xs)/\atI xs i=some v/\Q v H
noncomputable def N8:R2:=λx y H Q=>∃p xs i v,x=.ref p/\y=.int i/\H p=some (.lst xs)/\atI xs i=some v/\Q v H
theorem cA:IxR X OJ:=gA.imp λx y H Q hP=>by obtain⟨p,xs,i,v,a,b,c,d⟩:=hP;exact⟨p,xs,i,v,a,b,.of c,d⟩
theorem bZ:IxR X N8:=V0.imp λx y H Q hP=>by obtain⟨p,xs,i,v,a,b,c,d⟩:=hP;exact⟨p,xs,i,v,a,b,.of c,d⟩
theorem fD{α:Type}{x:α}{xs:List α} : atI (x::xs) 0=some x:=cg (j:=0) rfl
theorem dX{α:Type}{x y:α}{xs:List α} : atI (x::y::xs) 1=some y:=cg (j:=1) rfl
theorem d8.imp{f:Value}{r r':Κ->Hp->VK->Prop}(h:d8 X f r)(i:∀xs H Q,r' xs H Q->r xs H Q):d8 X f r':=λpins s σ H xs us Q I rx q=>h pins s σ H xs us Q I rx (i _ _ _ q)
noncomputable def Ni:Κ->Hp->VK->Prop:=λxs H Q=>∃p ys,xs=[.ref p]/\H p=some (.tup ys)/\Q (.int ys.length) H
noncomputable def Nb:Κ->Hp->VK->Prop:=λxs H Q=>∃p ys,xs=[.ref p]/\H p=some (.lst ys)/\Q (.int ys.length) H
theorem xR:d8 X (.builtin "len") Ni:=p8.imp λxs H Q hP=>by obtain⟨p,ys,a,b,c⟩:=hP;exact⟨p,ys,a,.inr (.of b),c⟩
theorem d9:d8 X (.builtin "len") Nb:=p8.imp λxs H Q hP=>by obtain⟨p,ys,a,b,c⟩:=hP;exact⟨p,ys,a,.inl (.of b),c⟩
noncomputable def tyS(H:Hp):V->Option String
 |.non=>some "NoneType"
 |.bl _=>some "bool"
 |.int _=>some "int"
 |.str _=>some "str"
 |.ref a=>match H a with
  |some (.lst _)=>some "list"
  |some (.tup _)=>some "tuple"
  |some (.dK _)=>some "dict"
  |_=>none
 |_=>none
theorem ZG{K:Frag}{H:Hp}{x:V}{t:String}(h:tyS H x=some t):xW K H x (.type t):=by
 cases x with
 |non=>cases h;exact .non
 |bl=>cases h;exact .bl _
 |int=>cases h;exact .int _
 |str=>cases h;exact .str _
 |byt=>cases h
 |flt=>cases h
 |ty=>cases h
 |ref a =>
  have h:(match H a with
   |some (.lst _)=>some "list"
   |some (.tup _)=>some "tuple"
   |some (.dK _)=>some "dict"
   |_=>none)=some t:=h
  split at h
  .cases h;exact .lst (by assumption)
  .cases h;exact .tup (by assumption)
  .cases h;exact .dK (by assumption)
  .cases h
noncomputable def Lh(t T:String):Bool:=(t==T) || (t == "bool" && T == "int")
theorem N5{K:Frag}{t T:String}(ht:t∈["NoneType", "bool", "int", "str", "list", "tuple", "dict"])(hT:T∈["bool", "int", "str", "list", "tuple", "dict"]):kitOne K (.type t) (.type T)=some (Lh t T):=by
 simp only[YU,List.not_mem_nil,or_false]at ht hT;rcases ht with rfl|rfl|rfl|rfl|rfl|rfl|rfl<;>rcases hT with rfl|rfl|rfl|rfl|rfl|rfl<;>with_unfolding_all rfl
theorem K3{H:Hp}{x:V}{t:String}(h:tyS H x=some t):t∈["NoneType", "bool", "int", "str", "list", "tuple", "dict"]:=by
 cases x with
 |non=>cases h;decide
 |bl=>cases h;decide
 |int=>cases h;decide
 |str=>cases h;decide
 |byt=>cases h
 |flt=>cases h
 |ty=>cases h
 |ref a =>
  have h:(match H a with
   |some (.lst _)=>some "list"
   |some (.tup _)=>some "tuple"
   |some (.dK _)=>some "dict"
   |_=>none)=some t:=h
  split at h<;>cases h<;>decide
noncomputable def Wu:Κ->Hp->VK->Prop:=λxs H Q=>∃x T t,xs=[x,.ty T]/\T∈["bool", "int", "str", "list", "tuple", "dict"]/\tyS H x=some t/\Q (.bl (Lh t T)) H
theorem gk:d8 X (.builtin "isinstance") Wu:=Kd.imp λxs H Q hP=>by obtain⟨x,T,t,a,b,c,d⟩:=hP;exact⟨x,.ty T,.type T,.type t,_,a,.inl ⟨T,rfl,rfl⟩,ZG c,N5 (K3 c) b,d⟩
theorem PG.imp{e:Expr}{t t':TG}(h:PG X e t)(i:∀v σ H Q,t' v σ H Q->t v σ H Q):PG X e t':=λpins s σ H v u Q I r q=>h pins s σ H v u Q I r (i _ _ _ _ q)
noncomputable def Mx(n:Nat)(t:TGs):TG:=λv σ H Q=>∃a xs,v=.ref a/\H a=some (.tup xs)/\xs.length=n/\t xs σ H Q
noncomputable def Ng(n:Nat)(t:TGs):TG:=λv σ H Q=>∃a xs,v=.ref a/\H a=some (.lst xs)/\xs.length=n/\t xs σ H Q
theorem fj{es:List Expr}{k:Nat}{t:TGs}{n:Nat}{pos:Pos}(hc:X.calm=true)(h:PGs X es t)(hn:(assignEach es X.env).length=n:=by rfl)(hst:(assignEach es X.env).findIdx? (·.1)=none:=by rfl):PG X (.Tuple es k pos) (Mx n t) :=
 (Y4 hc h hn hst).imp λv σ H Q hP=>by obtain⟨a,xs,e1,e2,e3⟩:=hP;exact⟨a,xs,e1,.of e2,e3⟩
theorem VR{es:List Expr}{k:Nat}{t:TGs}{n:Nat}{pos:Pos}(hc:X.calm=true)(h:PGs X es t)(hn:(assignEach es X.env).length=n:=by rfl)(hst:(assignEach es X.env).findIdx? (·.1)=none:=by rfl):PG X (.Tuple es k pos) (Ng n t) :=
 (Xr hc h hn hst).imp λv σ H Q hP=>by obtain⟨a,xs,e1,e2,e3⟩:=hP;exact⟨a,xs,e1,.of e2,e3⟩
noncomputable def M8:Κ->Hp->VK->Prop:=λxs H Q=>∃l ns,xs=[.ref l]/\H l=some (.lst (ns.map V.int))/\ns.length<64/\∀(ms:List Int)p,H p=none->ms.Perm ns->ms.Pairwise (· <= ·)->Q (.ref p) (upd H p (.lst (ms.map V.int)))
theorem QL:d8 X (.builtin "sorted") M8:=Jb.imp λxs H Q hP=>by obtain⟨l,ns,a,b,c⟩:=hP;exact⟨l,ns,a,.of b,c⟩
theorem HY{H:Hp} : tyS H .non=some "NoneType" := rfl
theorem KY{H:Hp}{b:Bool} : tyS H (.bl b)=some "bool" := rfl
theorem wD{H:Hp}{i:Int} : tyS H (.int i)=some "int" := rfl
theorem EY{H:Hp}{x:Str} : tyS H (.str x)=some "str" := rfl
theorem GR{H:Hp}{p:Addr}{xs:Κ}(h:H p=some (.tup xs)):tyS H (.ref p)=some "tuple" := by
 show(match H p with
   |some (.lst _)=>some "list"
   |some (.tup _)=>some "tuple"
   |some (.dK _)=>some "dict"
   |_=>none)=_
 rw[h]
theorem nG{H:Hp}{p:Addr}{xs:Κ}(h:H p=some (.lst xs)):tyS H (.ref p)=some "list" := by
 show(match H p with
   |some (.lst _)=>some "list"
   |some (.tup _)=>some "tuple"
   |some (.dK _)=>some "dict"
   |_=>none)=_
 rw[h]
noncomputable def SJ:V->Option Bool
 |.bl b=>some b
 |.int i=>some (i != 0)
 |.non=>some false
 |_=>none
theorem Ws{K:Frag}{x:V}{H:Hp}{k:Bool}(h:SJ x=some k):aav K x H k:=by
 cases x<;>cases h<;>rfl
noncomputable def Wc(ta:TE):TT:=λσ H Q=>ta σ H λx H'=>∃k,SJ x=some k/\Q k H'
theorem cQ{a:Expr}{ta:TE}(ha:PE X a ta)(he:∀whole,isTrue a X.env whole=(do let v <- whole;standAt a.pos;holding [v] (truthy v))):PT X a (Wc ta):=by
 intro pins s σ H Q I h;exact isTrue_plain (thn (ha pins s σ H _ I h) λv s1 hP=>by obtain⟨x,H1,I1,r1,k,e,q1⟩:=hP;exact YL pins s1 σ H1 x v Q I1 r1 ⟨k,Ws e,q1⟩) (he _)
end
noncomputable def OkF(P:Program)(w:World)(K:Frag)(mg:Str->Ε)(base:Heap)(k:Nat)(x:Str)(ps:Ξ)(sp:Sp):Prop :=
 ∃f fd,cD P w K mg base CX0 k f fd ps sp/\Binds K fd ps []/\mg x=some (.ref f)/\keepIn K (.ref f)=true
noncomputable def dG(K:Frag)(mg:Str->Ε)(x:Str)(st:Stmt)(ps:Ξ):Prop :=
 ∃f fd,Fun K x x st f fd/\(∀us:Ω,us.length=ps.length->bindArgs fd ⟨us,[]⟩=pure (ps.zip us))/\mg x=some (.ref f)
theorem dG.ok{P:Program}{w:World}{K:Frag}{mg:Str->Ε}{base:Heap}{k:Nat}{x:Str}{st:Stmt}{ps:Ξ}{sp:Sp}(h:dG K mg x st ps)
 (hf:∀f fd,Fun K x x st f fd->cD P w K mg base CX0 k f fd ps sp):OkF P w K mg base k x ps sp:=by
 obtain⟨f,fd,a,b,c⟩:=h;exact⟨f,fd,hf f fd a,.all b,c,a.kp⟩
theorem Xg{K:Frag}{h:Heap}{mg:Str->Ε}{x:Str}{st:Stmt}{ps:Ξ}{f:Addr}{oc:Value}{od an:Ζ}{osl:Array (Ε)}{kV doc pm cdv ct:Value}(X:K.In h)(G:h.Ns mainGlobals mg)
 (a:nsIn K mainGlobals x=some (some (.ref f)))(l:K.lookup f=some ⟨oc,od,.func (PySem.W.fnOf x x (gK st) (eZ st) (bN st) .none kV doc pm an cdv ct),osl⟩)
 (c:codeIn K cdv x=true)(k:keepIn K (.ref f)=true)
 (hb:∀(kV doc pm:Value)(an:Ζ)(cdv ct:Value)(us:Ω),us.length=ps.length->bindArgs (PySem.W.fnOf x x (gK st) (eZ st) (bN st) .none kV doc pm an cdv ct) ⟨us,[]⟩=pure (ps.zip us)):dG K mg x st ps :=
 ⟨f,_,Ti l c k,hb kV doc pm an cdv ct,mg_of X G a⟩
noncomputable def Nk(K:Frag):Sp:=λvs H Q _=>∃(a:Addr)(ns:List Int),vs=[.ref a]/\SqL K H a (ns.map V.int)/\ns.length<=63/\Only H/\∀H',Q (.bl true) H'
theorem acW{l:PySem.W.OpenLaw}{k:Nat}{x:Str}{q:Program}{loose:Ξ}{XP:(Str->Ε)->Heap->Prop}{YP:World->Heap->Prop}{d:DefRec}{K:Params->Frag}(hn:l.most=some 63)(hdf:d.params.defaults=[])
 (hr:eU k callerA)(hY:∀(w:World)(h:Heap),YP w h->(K w.params).In h)
 (F:∀(w:World)(mg:Str->Ε)(fa:Addr)(h:Heap),(K w.params).In h->h.Ns mainGlobals mg->mg d.name=some (.ref fa) ->
   ∃st,dG (K w.params) mg d.name st [x]/\∀(base:Heap)(f:Addr)(fd:FuncData),Fun (K w.params) d.name d.name st f fd->cD l.prog w (K w.params) mg base CX0 k f fd [x] (Nk (K w.params))) :
  PySem.W.WalkO q loose XP YP l.row.toRowW d [] (λf vs=>PySem.call f vs):=by
 refine L2.Ny (n:=63) (k:=k) (x:=x) (CX:=λ_=>CX0) (sp:=λw=>Nk (K w.params)) hn (by decide) hdf hr hY (λw mg fa h KX G hmg=>?_) (λ_ _ a ns hl hO hS=>⟨a,ns,rfl,hS,hl,hO,λ_=>rfl⟩) λ_ _ _ _ _ z=>z;obtain⟨st,⟨f,fd,hf,hb,hm⟩,ok⟩:=F w mg fa h KX G hmg;rw[hm]at hmg;have e:f=fa:=by injection hmg with z;injection z
 subst e;exact⟨fd,λs u=>.of_eq (hb [u] rfl),λbase _ _=>ok base f fd hf⟩
section
variable{X:Cx}{p pos:Pos}{e:Expr}{es:List Expr}{t:TA}{x:Str}{k:Nat}{ps:Ξ}{sp:Sp}
noncomputable def Hl(sp:Sp)(t:TA):TE:=λσ H Q=>t σ H λvs H1=>sp vs H1 Q E0
theorem bO(G:OkF X.prog X.w X.K X.mg X.base k x ps sp)(hr:eU k X.A)(hg:Gl X x)(ha:PA X (e::es) t)(hdb:(x==("__debug__" : Str))=false:=by decide)
 (he:starEach (e::es) X.env=(false,eval e X.env)::starEach es X.env:=by rfl)(hpl:(backTo pos (starEach es X.env)).any (·.1)=false:=by rfl):PE X (.Call (.Name x p) (e::es) [] pos) (Hl sp t):=by
 obtain⟨f,fd,F,b,hm,kp⟩:=G;intro pins s σ H Q I h;refine Xa F hr hg hm kp b .nil O7 ha hdb he hpl pins s σ H Q I ?_;show t σ H λvs H1=>sp (vs++[]) H1 Q E0;simp only[List.append_nil];exact h
end
theorem Ie(a:Int):(if a<0 then -a else a)=((a.natAbs:Nat):Int):=by split<;>omega
theorem RT{ms:List Int}{x y:Int}(h:ms.Perm [x,y]):ms=[x,y]\/ms=[y,x]:=by
 match ms,h.length_eq with
 |[l,k],_ =>
  have h1:l∈[x,y]:=h.mem_iff.mp (by simp);simp only[YU,List.not_mem_nil,or_false]at h1;rcases h1 with rfl|rfl
  .have h2:=(List.perm_cons l).mp h;have h3:=h2.mem_iff.mp (aN);simp only[YU,List.not_mem_nil,or_false]at h3;exact .inl (by rw[h3])
  .have h2:=(List.perm_cons l).mp (h.trans (List.Perm.swap ..));have h3:=h2.mem_iff.mp (aN);simp only[YU,List.not_mem_nil,or_false]at h3;exact .inr (by rw[h3])
theorem vX(a b:Nat):Int.fmod (a:Int) (b:Int)=((a%b:Nat):Int):=by
 rw[aW _ (X2 b)];rfl
theorem mZ(a:Int){b:Int}(h:0<b):Int.fdiv a b=a/b:=Int.fdiv_eq_ediv_of_nonneg a (XY h)
theorem Vs(a:Int){b:Int}(h:0<b):Int.fmod a b=a%b:=aW a (XY h)
theorem Bd.div{a b:Int}(h:Bd a)(hb:0<b):Bd (a/b):=by
 unfold Bd at *;refine Y3 ?_ h;have e:=Int.mul_ediv_add_emod a b;have r0:=Z3 a (show b≠0 by exact Int.ne_of_gt hb);have r1:=YY a hb;generalize a/b=q at *;generalize a%b=r at *;rcases(by lia:q=0\/1<=q\/q <= -1)with z|z|z
 .subst z;simp
 .have:=Int.mul_le_mul_of_nonneg_right (show 1<=b by lia) (show 0<=q by lia);lia
 .have h1:b*(q+1)<=1*(q+1):=Int.mul_le_mul_of_nonpos_right (show 1<=b by lia) (show q+1<=0 by lia);rw[Int.mul_add]at h1;omega
noncomputable def TrD(h base:Heap)(e:Addr)(cls:Value)(d:Ζ)(fl:Value):Prop :=
 ∃oe vs T oT ts,h.get? e=some oe/\(oe.cls=cls/\oe.dict=d)/\oe.data=.fields vs/\vs[1]?=some (.ref T)/\base.get? T=none/\T≠e/\h.get? T=some oT/\oT.data=.fields ts/\ts[3]?=some fl
noncomputable def pP(base:Heap)(l:List Env)(e:Addr)(cls:Value)(d:Ζ)(fl:Value)(h:Heap):Prop :=
 base.StaysIn h/\base.get? e=none/\h.FunFrames base l/\TrD h base e cls d fl
theorem pP.first{base h:Heap}{l:List Env}{e:Addr}{cls fl:Value}{d:Ζ}(x:pP base l e cls d fl h):∃oe vs,h.get? e=some oe/\oe.cls=cls/\oe.dict=d/\oe.data=.fields vs :=
 by obtain⟨_,_,_,oe,vs,_,_,_,he,hc,hd,_⟩:=x;exact⟨oe,vs,he,hc.1,hc.2,hd⟩
section
variable{M:Model}{A:Around}{E:Ι}{s:Shared}{base:Heap}{env:Env}{outer l:List Env}{L e:Addr}{cls:Value}{d:Ζ}{Q:Unit->Shared->Prop}
theorem Bj(o:Obj)(f:Array Value->Array Value):(Obj.mapFields f o).dict=o.dict:=by
 unfold Obj.mapFields;split<;>rfl
theorem UW{oe:Obj}{vs:Array Value}{head:Value}{hadNext:Bool}(hfr:A.frames=some (env::outer))(hl:s.heap.FunFrames base (env::outer))(hf:env.frame=some L)(he:s.heap.get? e=some oe)
 (hkb:base.StaysIn s.heap)(hen:base.get? e=none)(hd:oe.data=.fields vs)(hsz:1<vs.size)(h:∀h',pP base (env::outer) e oe.cls oe.dict (rawInt L) h'->s.heap.UpToSlots h'->Q () { s with heap:=h' }) :
  wpAny M A (do let a <- frameOf env;let pl <- entryPlaceOf L hadNext;let b <- EntryCells.newEntry head a .none (rawInt L) .none pl;setField (.ref e) 1 b) Q E s:=by
 have nofr:e∉(env::outer).filterMap (·.frame):=λz=>by
  obtain⟨_,o,ho,hnf⟩:=hl.mem z;rw[he]at ho;cases ho;exact hnf vs hd
 refine ZU (wpAny_frameOf_fun hfr hl hf λg hg=>ZU (wpAny_entryPlaceOf λpl hpl=>?_));unfold EntryCells.newEntry newFields;refine ZU (wpAny_newObj_type ?_ (hpl.sizeOk5 _ _ _ _ _));have eg:g.get? e=some oe:=(hg.2.1 e nofr).trans he;have kg:base.StaysIn g:=λb o q=>(hg.2.1 b λz=>by rw[(hl.mem z).1]at q;cases q).trans (hkb b o q);generalize ho':({ cls:=.type "traceback",dict:=none,data:=.fields ([head,.ref L,.none,rawInt L,.none]++(if pl.isEmpty then List.replicate 6 Value.none else pl)).toArray } : Obj)=ot;have nTe:g.objs.size≠e:=Nat.ne_of_gt (aJ eg);have e2:(g.push ot).get? e=some oe:=aG _ eg;refine wpAny_setField e2 hd hsz (h _ ?_ ?_)
 all_goals
  have d3:=Obj.data_mapFields hd (·.setIfInBounds 1 (Value.ref g.objs.size));have e3:=Heap.get?_update_self (Obj.mapFields (·.setIfInBounds 1 (Value.ref g.objs.size))) e2 (Obj.isFreed_of_fields d3);have keep:∀b o,b≠e->g.get? b=some o->((g.push ot).update e (Obj.mapFields (·.setIfInBounds 1 (Value.ref g.objs.size)))).get? b=some o:=λb o nb q=>by
   rw[Heap.get?_update_other _ _ (Ne.symm nb)];exact aG _ q
  have nr:∀b o,s.heap.get? b=some o->(∀ws,o.data≠.fields ws)->b≠e:=λb o q nf z=>by
   rw[z,he]at q;cases q;exact nf vs hd
 .refine⟨λb o q=>keep b o (λz=>by rw[z,hen]at q;cases q) (kg b o q),hen,hl.of_keeps λb o q nf=>?_,?_⟩
  .obtain⟨sl,z⟩:=hg.2.2 b o q;exact⟨_,keep b _ (nr b o q nf) z,rfl⟩
  .refine⟨_,_,g.objs.size,ot,_,e3,⟨Obj.cls_mapFields _ _,Bj _ _⟩,d3,by simp[hsz],kg.fresh,nTe,?_,by rw[<- ho'],?_⟩
   .rw[Heap.get?_update_other _ _ (Ne.symm nTe)];exact aX g (by rw[<- ho'];rfl)
   .first|(simp;done)|(rcases hpl with rfl|⟨_,_,_,_,_,_,_,rfl⟩<;>simp)
 .intro b o q nf;obtain⟨sl,z⟩:=hg.2.2 b o q;exact⟨sl,keep b _ (nr b o q nf) z⟩
theorem Ls{oe:Obj}{vs:Array Value}(hfr:A.frames=some (env::outer))(hl:s.heap.FunFrames base (env::outer))(hf:env.frame=some L)(he:s.heap.get? e=some oe)
 (hkb:base.StaysIn s.heap)(hen:base.get? e=none)(hd:oe.data=.fields vs)(h1:vs[1]?=some .none)(h:∀h',pP base (env::outer) e oe.cls oe.dict (rawInt L) h'->s.heap.UpToSlots h'->Q () { s with heap:=h' }) :
  wpAny M A (noteFrame (.ref e) env) Q E s:=by
 unfold noteFrame;simp only[hf];refine ZU (wpAny_field he hd h1 ?_);rw[ZZ (by decide)];exact UW hfr hl hf he hkb hen hd (Array.getElem?_eq_some_iff.mp h1).1 h
theorem Ei(hfr:A.frames=some (env::outer))(hf:env.frame=some L)(x:pP base (env::outer) e cls d .none s.heap)
 (h:∀h',pP base (env::outer) e cls d (rawInt L) h'->s.heap.UpToSlots h'->Q () { s with heap:=h' }):wpAny M A (noteFrame (.ref e) env) Q E s:=by
 obtain⟨hkb,hen,hl,oe,vs,T,oT,ts,he,⟨hc,hdd⟩,hd,h1,nT,nTe,hT,hdT,h3⟩:=x;subst hc hdd;unfold noteFrame;simp only[hf];refine ZU (wpAny_field he hd h1 ?_);rw[ZY (show(Value.ref T != Value.none)=true from by simp)];refine ZU (wpAny_field hT hdT h3 ?_);rw[ZZ (show ¬((Value.none==rawInt L)=true)from by simp[rawInt])];refine ZU (wpAny_setField hT hdT (Array.getElem?_eq_some_iff.mp h3).1 ?_);have other:∀b,b≠T->(s.heap.update T (Obj.mapFields (·.setIfInBounds 3 Value.none))).get? b=s.heap.get? b:=λb hb=>Heap.get?_update_other _ _ (Ne.symm hb);have nr:∀b o,s.heap.get? b=some o->(∀ws,o.data≠.fields ws)->b≠T:=λb o q nf z=>by
  rw[z,hT]at q;cases q;exact nf ts hdT
 refine UW (s:={ s with heap:=_ }) hfr (hl.of_keeps λb o q nf=>⟨o,(other b (nr b o q nf)).trans q,rfl⟩) hf ((other e (Ne.symm nTe)).trans he)
  (λb o q=>(other b λz=>by rw[z,nT]at q;cases q).trans (hkb b o q)) hen hd (Array.getElem?_eq_some_iff.mp h1).1 λh' y up=>h h' y λb o q nf=>up b o ((other b (nr b o q nf)).trans q) nf
theorem O4{fl:Value}(x:pP base l e cls d fl s.heap)(h:∀h',pP base l e cls d .none h'->s.heap.UpToSlots h'->Q () { s with heap:=h' }):wpAny M A (setFlight (.ref e) none) Q E s:=by
 obtain⟨hkb,hen,hl,oe,vs,T,oT,ts,he,hc,hd,h1,nT,nTe,hT,hdT,h3⟩:=x;have z3:3<ts.size:=(Array.getElem?_eq_some_iff.mp h3).1;have other:∀b,b≠T->(s.heap.update T (Obj.mapFields (·.setIfInBounds 3 ((none:Ζ).elim Value.none λf=>rawInt f)))).get? b=s.heap.get? b:=λb hb=>Heap.get?_update_other _ _ (Ne.symm hb);have nr:∀b o,s.heap.get? b=some o->(∀ws,o.data≠.fields ws)->b≠T:=λb o q nf z=>by
  rw[z,hT]at q;cases q;exact nf ts hdT
 unfold setFlight;refine ZU (wpAny_field he hd h1 ?_);rw[ZY (show(Value.ref T != Value.none)=true from by simp)];refine wpAny_setField hT hdT z3 (h _ ⟨λb o q=>(other b λz=>by rw[z,nT]at q;cases q).trans (hkb b o q),hen,hl.of_keeps λb o q nf=>⟨o,(other b (nr b o q nf)).trans q,rfl⟩,?_⟩ λb o q nf=>⟨o.slots,(other b (nr b o q nf)).trans q⟩);exact⟨oe,vs,T,_,_,(other e (Ne.symm nTe)).trans he,hc,hd,h1,nT,nTe,Heap.get?_update_self _ hT (Obj.isFreed_of_fields (Obj.data_mapFields hdT _)),Obj.data_mapFields hdT _,by simp[z3]⟩
theorem pP.pop{fl:Value}{h:Heap}(x:pP base (env::outer) e cls d fl h):pP base outer e cls d fl h:=⟨x.1,x.2.1,x.2.2.1.2.2,x.2.2.2⟩
theorem Rj(hfr:A.frames=some (env::outer))(hf:env.frame=some L)(x:pP base (env::outer) e cls d .none s.heap)
 (h:∀h',pP base outer e cls d .none h'->s.heap.UpToSlots h'->Q () { s with heap:=h' }):wpAny M A (leaving env (.ref e)) Q E s:=by
 unfold leaving;exact ZU (Ei hfr hf x λh1 y up=>O4 y λh2 z up2=>h h2 z.pop (up.trans up2))
theorem Dv{h0:Heap}{oe:Obj}{vs:Array Value}(hfr:A.frames=some (env::outer))(hf:env.frame=some L)(hkb:base.StaysIn h0)(hl:h0.FunFrames base (env::outer))(keeps:∀b o,h0.get? b=some o->s.heap.get? b=some o)
 (new:h0.get? e=none)(he:s.heap.get? e=some oe)(hd:oe.data=.fields vs)(h1:vs[1]?=some .none)
 (h:∀h',pP base outer e oe.cls oe.dict .none h'->s.heap.UpToSlots h'->Q () { s with heap:=h' }):wpAny M A (leaving env (.ref e)) Q E s:=by
 have hen:base.get? e=none:=by
  cases q:base.get? e with
  |none=>rfl
  |some o=>have:=hkb e o q;rw[new]at this;cases this
 unfold leaving;exact ZU (Ls hfr (hl.of_keeps λb o q _=>⟨o,keeps b o q,rfl⟩) hf he (λb o q=>keeps b o (hkb b o q)) hen hd h1 λh1 y up=>O4 y λh2 z up2=>h h2 z.pop (up.trans up2))
end
theorem cV.there{P:Program}{w:World}{H:Hp}{h:Heap}{a:Addr}{o:HO}(x:cV P w H h a o):∃ob,h.get? a=some ob:=by
 cases o with
 |lst xs=>obtain⟨_,_,_,_,e⟩:=x;exact⟨_,e⟩
 |tup xs=>obtain⟨_,_,_,o,e,_⟩:=x;exact⟨_,e⟩
 |dK kvs=>obtain⟨_,_,_,_,o,_,_,e,_⟩:=x;exact⟨_,e⟩
 |set S n=>obtain⟨o,_,_,_,e,_⟩:=x;exact⟨_,e⟩
 |ins C dx fs=>obtain⟨_,_,_,e,_⟩:=x;exact⟨_,e⟩
 |own y=>exact x
 |xd fs=>obtain⟨_,⟨_,_,_,e,_⟩,_⟩:=x;exact⟨_,e⟩
 |rng lo hi=>obtain⟨_,_,_,e⟩:=x;exact⟨_,e⟩
 |frz ob u=>obtain⟨e,_⟩:=x;exact⟨_,e⟩
 |tbl ps=>exact⟨_,(show h.get? a=some _ from x)⟩
 |met f y=>exact⟨_,(show h.get? a=some _ from x)⟩
 |ext φ=>obtain⟨_,e,_⟩:=x;exact e
structure Fly(P:Program)(w:World)(l:List Env)(H:Hp)(s:Shared)(a:Addr)(C:Value)(H':Hp)(s':Shared)(B:Heap)(d:Ζ):Prop where
 os:s'.os=s.os
 bare:AllBare s'.gens
 new:s.heap.get? a=none
 un:Un (frs l) [] H H' s.heap s'.heap
 hok:HOk P w H' s'.heap
 frf:∀b∈frs l,H' b=none
 fl:pP B l a C d .none s'.heap
 cov:∀b o,s'.heap.get? b=some o->b∉frs l->((∃u,s.heap.get? b=some u)\/∃u,H' b=some u)->B.get? b=some o
section
variable{P:Program}{w:World}{l:List Env}{H H':Hp}{s s':Shared}{a:Addr}{C:Value}{B:Heap}{d:Ζ}{h':Heap}
theorem Fly.trk(F:Fly P w l H s a C H' s' B d){b:Addr}{u:HO}{o:Obj}(e:H' b=some u)(q:s'.heap.get? b=some o):B.get? b=some o :=
 F.cov b o q (λz=>by rw[F.frf b z]at e;cases e) (.inr ⟨u,e⟩)
theorem Fly.hok'(F:Fly P w l H s a C H' s' B d)(k:∀b o,B.get? b=some o->h'.get? b=some o):HOk P w H' h':=λb u e =>
 (F.hok b u e).stay (λc v hc q=>k c v (by
  rcases hc with z|z
  .subst z;exact F.trk e q
  .exact F.trk z q)) (λ_ q=>q) λ_ _ q=>q
theorem Fly.un'(F:Fly P w l H s a C H' s' B d)(k:∀b o,B.get? b=some o->h'.get? b=some o)(up:s'.heap.UpToSlots h'):Un (frs l) [] H H' s.heap h':=by
 have nf:∀b∈frs l,∀o,s'.heap.get? b=some o->∀vs,o.data≠.fields vs:=λb hb o e=>by
  obtain⟨_,o',e',d⟩:=F.fl.2.2.1.mem hb;rw[e]at e';cases e';exact d
 refine⟨λb o q n hb hx=>k b o (F.cov b o (F.un.keep b o q n hb hx) hb (.inl ⟨o,q⟩)),λb o q n hb hx=>?_,F.un.free,λb o q hx=>?_,F.un.tups,F.un.frzs,F.un.tbls⟩
 .obtain⟨sl,e⟩:=F.un.slot b o q n hb hx;obtain⟨sl',e'⟩:=up b _ e (nf b hb _ e);exact⟨sl',e'⟩
 .obtain⟨o',e⟩:=F.un.there b o q hx;by_cases hb:b∈frs l
  .obtain⟨sl',e'⟩:=up b _ e (nf b hb _ e);exact⟨_,e'⟩
  .exact⟨o',k b o' (F.cov b o' e hb (.inl ⟨o,q⟩))⟩
end
section
variable{X:Cx}{pins:Ψ}{σ:List (Option V)}{H H':Hp}{s s':Shared}{a:Addr}{C:Value}{B:Heap}{d:Ζ}{h':Heap}
theorem Inv.flown(I:Inv X pins σ H s)(F:Fly X.prog X.w X.stack H s a C H' s' B d)(k:∀b o,B.get? b=some o->h'.get? b=some o)(up:s'.heap.UpToSlots h'):Inv X pins σ H' { s' with heap:=h' } :=
 I.call' (s':={ s' with heap:=h' }) (ch:=[]) F.os (F.un' k up) (F.hok' k) F.bare λ_ z=>nomatch z
theorem Inv.old(I:Inv X pins σ H s)(hx:X.ex=[]){b:Addr}{o:Obj}(e:X.s₀.heap.get? b=some o):(∃u,s.heap.get? b=some u)/\b≠X.env.locals:=by
 obtain⟨u,q⟩:=I.base.there b o e (by rw[hx];simp);exact⟨⟨u,q⟩,aQ (aR (aJ e) I.ok.above)⟩
theorem Inv.nostk(I:Inv X pins σ H s){b:Addr}(h1:b≠X.env.locals)(h2:b∉X.fs):b∉frs X.stack:=λz=>by
 rcases YU.mp (I.stkSub b z)with e|e
 .exact h1 e
 .exact h2 e
theorem Inv.flyOut(I:Inv X pins σ H s)(hx:X.ex=[])(F:Fly X.prog X.w X.stack H s a C H' s' B d)(fl:pP B X.outer a C d .none h')(up:s'.heap.UpToSlots h') :
  Fly X.prog X.w X.outer X.H₀ X.s₀ a C H' { s' with heap:=h' } B d:=by
 have J:=I.flown F fl.1 up;refine⟨J.os,J.bare,?_,by have:=J.base;rw[hx]at this;exact this,J.hok,λb hb=>?_,fl,λb o e hb hc=>?_⟩
 .cases q:X.s₀.heap.get? a with
  |none=>rfl
  |some o =>
   obtain⟨⟨u,z⟩,_⟩:=I.old hx q;rw[F.new]at z;cases z
 .obtain⟨_,o,ho,_⟩:=I.ok.funs.mem hb;exact J.base.free b o ho (I.ok.frf b hb) λz=>I.ok.exfs b z hb
 .rcases hc with⟨u,q⟩|⟨u,q⟩
  .obtain⟨⟨v,z⟩,n⟩:=I.old hx q;obtain⟨o',e'⟩:=F.un.there b v z (by simp);have y:=F.cov b o' e' (I.nostk n hb) (.inl ⟨v,z⟩);have e2:=fl.1 b o' y;rw[show({ s' with heap:=h' } : Shared).heap.get? b=h'.get? b from rfl,e2]at e;cases e;exact y
  .obtain⟨o',e'⟩:=(F.hok b u q).there;have y:=F.trk q e';have e2:=fl.1 b o' y;rw[show({ s' with heap:=h' } : Shared).heap.get? b=h'.get? b from rfl,e2]at e;cases e;exact y
theorem Inv.flyNew(I:Inv X pins σ H s)(hx:X.ex=[]){h1:Heap}{t:Nat}(keeps:∀b o,s.heap.get? b=some o->h1.get? b=some o)(new:s.heap.get? a=none)(hB:B=hideAll s.heap (frs X.stack))(fl:pP B X.outer a C d .none h')(up:h1.UpToSlots h') :
  Fly X.prog X.w X.outer X.H₀ X.s₀ a C H { s with heap:=h',toks:=t } B d:=by
 have inB:∀b o,s.heap.get? b=some o->b∉frs X.stack->B.get? b=some o:=λb o e n=>by rw[hB];exact hideAll_get _ e n
 have trk:∀b u o,H b=some u->s.heap.get? b=some o->B.get? b=some o:=λb u o e q=>inB b o q λz=>by
  rw[I.stkFree b z]at e;cases e
 have up2:s.heap.UpToSlots h':=(Heap.UpToSlots.of_keeps keeps).trans up;have nf:∀b∈frs X.stack,∀o,s.heap.get? b=some o->∀vs,o.data≠.fields vs:=λb hb o e=>by
  obtain⟨_,o',e',d⟩:=I.stack.mem hb;rw[e]at e';cases e';exact d
 have hok:HOk X.prog X.w H h':=λb u e=>(I.hok b u e).stay (λc v hc q=>fl.1 c v (by
  rcases hc with z|z
  .subst z;exact trk c u v e q
  .exact trk c _ v z q)) (λ_ q=>q) λ_ _ q=>q
 have un:Un (frs X.stack) [] H H s.heap h':=by
  refine⟨λb o q n hb _=>fl.1 b o (inB b o q hb),λb o q n hb _=>up2 b o q (nf b hb o q),λ_ _ _ n _=>n,λb o q _=>?_,λ_ _ q=>q,λ_ _ _ q=>q,λ_ ps q=>⟨#[],by rw[q];simp⟩⟩;by_cases hb:b∈frs X.stack
  .obtain⟨sl,e⟩:=up2 b o q (nf b hb o q);exact⟨_,e⟩
  .exact⟨o,fl.1 b o (inB b o q hb)⟩
 have J:Inv X pins σ H { s with heap:=h',toks:=t }:=I.call' (s':={ s with heap:=h',toks:=t }) (ch:=[]) rfl un hok I.bare λ_ z=>nomatch z
 refine⟨J.os,J.bare,?_,by have:=J.base;rw[hx]at this;exact this,J.hok,λb hb=>?_,fl,λb o e hb hc=>?_⟩
 .cases q:X.s₀.heap.get? a with
  |none=>rfl
  |some o =>
   obtain⟨⟨u,z⟩,_⟩:=I.old hx q;rw[new]at z;cases z
 .obtain⟨_,o,ho,_⟩:=I.ok.funs.mem hb;exact J.base.free b o ho (I.ok.frf b hb) λz=>I.ok.exfs b z hb
 .rcases hc with⟨u,q⟩|⟨u,q⟩
  .obtain⟨⟨v,z⟩,n⟩:=I.old hx q;have y:=inB b v z (I.nostk n hb);have e2:=fl.1 b v y;rw[show({ s with heap:=h',toks:=t } : Shared).heap.get? b=h'.get? b from rfl,e2]at e;cases e;exact y
  .obtain⟨o',e'⟩:=(I.hok b u q).there;have y:=trk b u o' q e';have e2:=fl.1 b o' y;rw[show({ s with heap:=h',toks:=t } : Shared).heap.get? b=h'.get? b from rfl,e2]at e;cases e;exact y
end
noncomputable def CXO(P:Program)(w:World):CXT:=λl H s E e s'=>∃a C d H' B,e=.ref a/\Fly P w l H s a C H' s' B d/\E C d H'
noncomputable def BZ(X:Cx)(Ex:Value->Ζ->L2.St->Hp->Prop):Prop :=
 ∀pins σ H s a C H' s' B d,Inv X pins σ H s->Fly X.prog X.w X.stack H s a C H' s' B d->Ex C d σ H'->X.xe (.ref a) s'
noncomputable def Yk(X:Cx)(Ex:Value->Ζ->L2.St->Hp->Prop):Prop :=
 ∀pins σ H s a C vs h1,Inv X pins σ H s->Heap.MadeExcOf s.heap h1 a C vs->Ex C none σ H->X.xe (.ref a) { s with heap:=h1 }
section
variable{P:Program}{w:World}{K:Frag}{mg:Str->Ε}{base:Heap}{N:Ξ}{qual:Str}{scope:Scope}{f:Addr}{cd:Value}{A:Around}{outer:List Env}{s:Shared}{H:Hp}{E:XK}
theorem j6:BZ (Bw (CXO P w) P w K mg base N qual scope f cd A outer s H E) (λC d _ H'=>E C d H'):=by
 intro pins σ H1 s1 a C H' s' B d I F q;show wpAny _ _ (leaving _ (.ref a)) _ _ _;refine Rj (outer:=outer) I.ok.frames rfl F.fl λh' fl up=>?_;exact⟨a,C,d,H',B,rfl,I.flyOut rfl F fl up,q⟩
theorem sS:Yk (Bw (CXO P w) P w K mg base N qual scope f cd A outer s H E) (λC d _ H'=>E C d H'):=by
 intro pins σ H1 s1 a C vs h1 I M q;show wpAny _ _ (leaving _ (.ref a)) _ _ _;have hin:∀env∈(envOfC qual scope s.heap.objs.size f cd::outer),∀b,env.frame=some b->b∈frs (envOfC qual scope s.heap.objs.size f cd::outer):=λenv he b hb=>List.mem_filterMap.mpr ⟨env,he,hb⟩;obtain⟨t,he,_,_⟩:=M.there;refine Dv (base:=hideAll s1.heap (frs (envOfC qual scope s.heap.objs.size f cd::outer))) (h0:=s1.heap) (outer:=outer) I.ok.frames rfl (λb o q=>of_hideAll _ q) (PySem.W.funFrames_hide I.stack hin) M.keeps M.new he rfl rfl λh' fl up=>?_;exact⟨a,C,none,H1,_,rfl,I.flyNew rfl M.keeps M.new rfl fl up,q⟩
end
section
variable{P:Program}{w:World}{K:Frag}{mg:Str->Ε}{base:Heap}
theorem Fun.okX{x qual:Str}{st:Stmt}{f:Addr}{fd:FuncData}{N ps:Ξ}{k:Nat}{sp:Sp}(F:Fun K x qual st f fd)(S:bV N ps (bN st))(len:∀vs H Q E,sp vs H Q E->vs.length=ps.length)
 (hbody:∀(cdv:Value)(A:Around)(outer:List Env)(s:Shared)(H:Hp)(vs:Κ)(Q:VK)(E:XK),eU k (A.deeper (envOfC qual (bN st) s.heap.objs.size f cdv))->sp vs H Q E ->
   ∃t,PSs (Bw (CXO P w) P w K mg base N qual (bN st) f cdv A outer s H E) (eZ st) t/\t { nx:=λ_ H'=>Q .non H',rt:=Q } (L2.start N vs) H):cD P w K mg base (CXO P w) (k+1) f fd ps sp:=by
 obtain⟨oc,od,kV,doc,pm,an,cdv,ct,osl,rfl,lk,hcd⟩:=F.ex;exact Yp lk hcd S len λA outer s H vs Q E hr hsp=>hbody cdv A outer s H vs Q E hr hsp
noncomputable def OkX(P:Program)(w:World)(K:Frag)(mg:Str->Ε)(base:Heap)(k:Nat)(x:Str)(ps:Ξ)(sp:Sp):Prop :=
 ∃f fd,cD P w K mg base (CXO P w) k f fd ps sp/\Binds K fd ps []/\mg x=some (.ref f)/\keepIn K (.ref f)=true
theorem dG.okX{k:Nat}{x:Str}{st:Stmt}{ps:Ξ}{sp:Sp}(h:dG K mg x st ps)
 (hf:∀f fd,Fun K x x st f fd->cD P w K mg base (CXO P w) k f fd ps sp):OkX P w K mg base k x ps sp:=by
 obtain⟨f,fd,a,b,c⟩:=h;exact⟨f,fd,hf f fd a,.all b,c,a.kp⟩
end
section
variable{X:Cx}{p pos:Pos}{e:Expr}{es:List Expr}{t:TA}{x:Str}{k:Nat}{ps:Ξ}{sp:Sp}{Ex:Value->Ζ->L2.St->Hp->Prop}
noncomputable def xu(sp:Sp)(Ex:Value->Ζ->L2.St->Hp->Prop)(t:TA):TE:=λσ H Q=>t σ H λvs H1=>sp vs H1 Q λC d H'=>Ex C d σ H'
theorem iY(G:OkX X.prog X.w X.K X.mg X.base k x ps sp)(hr:eU k X.A)(hg:Gl X x)(hx:BZ X Ex)(ha:PA X (e::es) t)(hdb:(x==("__debug__" : Str))=false:=by decide)
 (he:starEach (e::es) X.env=(false,eval e X.env)::starEach es X.env:=by rfl)(hpl:(backTo pos (starEach es X.env)).any (·.1)=false:=by rfl):PE X (.Call (.Name x p) (e::es) [] pos) (xu sp Ex t):=by
 obtain⟨f,fd,F,hb,hm,kp⟩:=G;intro pins s σ H Q I h;refine wpAny_Call_Name_kw (lH I hg hm ?_ hdb);refine callWith_K (h₀:=X.base) I.ok.mod.kin kp (thn (ha pos pins s σ H _ I h) λus s1 ⟨vs,H1,I1,r,q⟩=>⟨I1.kIn,?_⟩) he hpl;have hl:us.length=ps.length:=by rw[<- r.length];exact F.len _ _ _ _ q
 have hb':=hb s1 us I1.kIn (by simpa using hl);simp only[List.append_nil]at hb';refine wpAny_call (codeAny_mono (F.run X.A X.stack s1 H1 ⟨us,[]⟩ us vs Q _ hr I1.env0 hb' r q) λr s' hq=>?_);cases r with
 |error e =>
  obtain⟨a,C,d,H',B,rfl,Fl,q'⟩:=hq;exact hx pins σ H1 s1 a C H' s' B d I1 Fl q'
 |ok fl =>
  cases fl with
  |ret u=>exact I1.after hq
  |next=>exact False.elim hq
  |brk=>exact False.elim hq
  |cont=>exact False.elim hq
end
abbrev bmV:Ω:=[.type "ValueError",.type "Exception",.type "BaseException",.type "object"]
noncomputable def Jz(K:Frag)(C:Addr):Prop:=excIn K C bmV "ValueError.__new__" = true
theorem Oa{K:Frag}{h:Heap}{C:Addr}(X:K.In h)(q:Jz K C):∃bm N nm qn bs hdct sn sub ab col dd k0 k1 k2 k3 k5 mN,h.get? C=some (excClassObj nm qn C N bs bm hdct sn sub ab col dd k0 k1 k2 k3 k5 "ValueError.__new__") /\
  h.Ns N mN/\mN "__init__" = none/\OwnTail h bmV bm:=by
 unfold Jz excIn at q;split at q
 .rename_i dd cd sl ho
  split at q
  .rename_i C' bm k0 k1 k2 k3 n k5 hm hs
   simp only[Bool.and_eq_true,beq_iff_eq,Bool.not_eq_true']at q;obtain⟨⟨⟨⟨⟨rfl,rfl⟩,hdel⟩,ht⟩,hok⟩,hni⟩:=q;obtain⟨nm,bs,mro,ns,qn,hd,sn,sub,ab,col,del⟩:=cd;dsimp only at hm hdel hok hni;subst hm hdel;have hsl:sl = #[k0,k1,k2,k3,some (.builtin "ValueError.__new__"),k5]:=by
    obtain⟨l⟩:=sl;simp only at hs;rw[hs]
   subst hsl;exact⟨bm,ns,nm,qn,bs,hd,sn,sub,ab,col,dd,k0,k1,k2,k3,k5,_,X _ _ ho,.of_isNs (isNs_of_in X hok),PySem.W.nsMap_none_of_in X hok hni,PySem.W.tail_of_in X ht⟩
  .cases q
 .cases q
section
variable{X:Cx}{x:Str}{np cpos pos:Pos}{e₀:Expr}{rest:List Expr}{ta:TA}{C:Addr}{Ex:Value->Ζ->L2.St->Hp->Prop}
noncomputable def Gq(C:Addr)(Ex:Value->Ζ->L2.St->Hp->Prop)(ta:TA):TS:=λ_ σ H=>ta σ H λvs H1=>vs.length<=sizeLine/\Ex (.ref C) none σ H1
theorem rE(hc:X.calm=true)(hg:Gl X x)(hm:X.mg x=some (.ref C))(q:Jz X.K C)(hx:Yk X Ex)(ha:PA X (e₀::rest) ta)(hd:(x==("__debug__" : Str))=false:=by decide)
 (he:starEach (e₀::rest) X.env=(false,eval e₀ X.env)::starEach rest X.env:=by rfl)(hplain:(backTo cpos (starEach rest X.env)).any (·.1)=false:=by rfl) :
  PS X (.Raise (some (.Call (.Name x np) (e₀::rest) [] cpos)) none pos) (Gq C Ex ta):=by
 intro pins s σ H D I h;obtain⟨tl,N,nm,qn,bs,hdct,sn,sub,ab,col,dd,k0,k1,k2,k3,k5,mN,hC,hN,hni,T⟩:=Oa I.ok.mod.kin q;have FB:=PySem.F.excBase_ValueError;refine wpAny_Raise_call_subT (C:=C) (nm:=nm) (q:=qn) (N:=N) (bs:=bs) (bm:=tl) (hdct:=hdct) (sn:=sn) (sub:=sub) (ab:=ab) (col:=col) (dd:=dd) (k0:=k0) (k1:=k1) (k2:=k2) (k3:=k3) (k5:=k5)
  FB (mN:=mN) (T.hasType FB.hasBase) (I.ok.hd hc) (by rw[he];show(false || (backTo cpos (starEach rest X.env)).any (·.1))=false;rw[hplain];rfl) hni (lH I hg hm ⟨rfl,?_⟩ hd)
 have h2:=ha cpos pins s σ H _ I h;rw[he]at h2 ⊢;exact Calls.evalArgs_plain (wpAny_mono h2 (λus s₂ hP=>by obtain⟨vs,H1,I1,r,hl,ex⟩:=hP;exact⟨rfl,by rw[<- r.length];exact hl,I1.bk _ _ hC,hN.keeps I1.bk,T.keeps I1.bk,λh' e M=>hx pins σ H1 s₂ e _ us h' I1 M ex⟩) λ_ _ y=>y)
end
noncomputable abbrev Cx.tryc(X:Cx)(pn:Ψ)(E:Ι):Cx:={ X with pn:=pn,xe:=E }
noncomputable abbrev Cx.marked(X:Cx)(a:Addr)(E:Ι):Cx:={ X with A:=X.A.mark (some (.ref a)),calm:=false,xe:=E }
section
variable{X:Cx}{pins pins' pn:Ψ}{σ:L2.St}{H H':Hp}{s:Shared}{E:Ι}{a:Addr}
theorem Cx.Ok.tryc(ok:X.Ok):(X.tryc pn E).Ok:=⟨ok.mod,ok.kind,ok.glob,ok.blt,ok.above,ok.inj,ok.has,ok.cab,ok.hd,ok.frames,ok.stk,ok.exf,ok.bs,ok.bsz,ok.noex,ok.exfs,ok.funs,ok.frf⟩
theorem Cx.Ok.untry(ok:(X.tryc pn E).Ok):X.Ok:=⟨ok.mod,ok.kind,ok.glob,ok.blt,ok.above,ok.inj,ok.has,ok.cab,ok.hd,ok.frames,ok.stk,ok.exf,ok.bs,ok.bsz,ok.noex,ok.exfs,ok.funs,ok.frf⟩
theorem Inv.tryc(I:Inv X pins σ H s):Inv (X.tryc (X.pn++pins) E) [] σ H s:=⟨I.ok.tryc,I.os,I.bare,I.base,I.loc,I.cell,I.free,I.freeC,λp hp=>I.pin p (by simpa using hp),I.hok,I.len⟩
theorem Inv.untry(I:Inv (X.tryc (X.pn++pins) E) pins' σ H s):Inv X pins σ H s:=⟨I.ok.untry,I.os,I.bare,I.base,I.loc,I.cell,I.free,I.freeC,λp hp=>I.pin p (List.mem_append_left _ hp),I.hok,I.len⟩
theorem Cx.Ok.marked(ok:X.Ok):(X.marked a E).Ok:=⟨ok.mod,ok.kind,ok.glob,ok.blt,ok.above,ok.inj,ok.has,ok.cab,λz=>(nomatch z),ok.frames,ok.stk,ok.exf,ok.bs,ok.bsz,ok.noex,ok.exfs,ok.funs,ok.frf⟩
theorem Inv.marked(I:Inv X pins σ H s):Inv (X.marked a E) pins σ H s:=⟨I.ok.marked,I.os,I.bare,I.base,I.loc,I.cell,I.free,I.freeC,I.pin,I.hok,I.len⟩
theorem Inv.unmarked(ok:X.Ok)(I:Inv (X.marked a E) pins σ H s):Inv X pins σ H s:=⟨ok,I.os,I.bare,I.base,I.loc,I.cell,I.free,I.freeC,I.pin,I.hok,I.len⟩
theorem Inv.track{o:HO}(I:Inv X pins σ H s)(hn:H a=none)(ha:X.s₀.heap.get? a=none)(hL:a≠X.env.locals)(hC:∀x c,X.env.cells.lookup x=some c->c≠a)(hp:∀p∈X.pn++pins,p.1≠a)
 (ok:cV X.prog X.w (upd H a o) s.heap a o):Inv X pins σ (upd H a o) s:=by
 have ne:∀b u,H b=some u->b≠a:=λb u e=>bK e hn;have ne0:∀b u,X.s₀.heap.get? b=some u->b≠a:=λb u e z=>by rw[z,ha]at e;cases e
 refine⟨I.ok,I.os,I.bare,⟨I.base.keep,I.base.slot,λb ob e n hx=>by rw[bL (ne0 b ob e)];exact I.base.free b ob e n hx,I.base.there,λb xs e=>?_,λb ob u e=>?_,λb ps e=>?_⟩,I.loc,I.cell,by rw[bL hL.symm];exact I.free,λx c e=>by rw[bL (hC x c e)];exact I.freeC x c e,λp q=>?_,λb u e=>?_,I.len⟩
 .have z:=I.base.tups b xs e;rw[bL (ne b _ z)];exact z
 .have z:=I.base.frzs b ob u e;rw[bL (ne b _ z)];exact z
 .obtain⟨m,z⟩:=I.base.tbls b ps e;exact⟨m,by rw[bL (ne b _ z)];exact z⟩
 .obtain⟨h1,h2,h3⟩:=I.pin p q;exact⟨h1,by rw[bL (hp p q)];exact h2,h3⟩
 .by_cases z:b=a
  .subst z;rw[bI]at e;cases e;exact ok
  .rw[bL z]at e;exact(I.hok b u e).stay (λ_ _ _ q=>q) (λc q=>by rw[bL (ne c _ q)];exact q) λc xs q=>by rw[bL (ne c _ q)];exact q
theorem Inv.unname{M:Model}{A:Around}{E:Ι}{i:Nat}{n:Str}{pos:Pos}{Q:Unit->Shared->Prop}(I:Inv X pins σ H s)(hN:X.N.Nodup)(hi:X.N[i]?=some n)(hk:X.env.scope.names.lookup n=some .local)
 (h:∀s',Inv X pins (σ.set i none) H s'->Q () s'):wpAny M A (do bindName X.env n .none;unbindBehindTheSuite X.env n pos) Q E s:=by
 obtain⟨m,hn,hl⟩:=id I.loc;have hcls:(X.env.scope.kind == .class || (X.env.scope.kind == .module&&X.env.locals != X.env.globals))=false:=by rw[I.ok.kind];rfl
 have cne:=I.cne;have hiσ:i<σ.length:=by rw[I.len];exact(ao.mp hi).1
 refine wpAny_nameGoes_keeps hk hn hcls λh' v hn' hs=>?_;have hok:HOk X.prog X.w H h':=λb ob e=>(I.hok b ob e).stay (λc w' hc q=>(hs.2 c (by
  rintro rfl;rcases hc with rfl|hc
  .rw[I.free]at e;cases e
  .rw[I.free]at hc;cases hc)).trans q) (λ_ q=>q) λ_ _ q=>q
 refine h _ ⟨I.ok,I.os,I.bare,⟨λb o e n' hb hx=>?_,λb o e n' hb hx=>?_,I.base.free,λb o e hx=>?_,I.base.tups,I.base.frzs,I.base.tbls⟩,⟨_,hn',λj y v' e1 e2 e3=>?_⟩,λy c e=>?_,I.free,I.freeC,λp hp=>?_,hok,by simpa using I.len⟩
 .exact(hs.2 b (aQ (aR (aJ e) I.ok.above))).trans (I.base.keep b o e n' hb hx)
 .obtain⟨sl,e1⟩:=I.base.slot b o e n' hb hx;exact⟨sl,(hs.2 b (aQ (aR (aJ e) I.ok.above))).trans e1⟩
 .obtain⟨o',e1⟩:=I.base.there b o e hx;exact⟨o',(hs.2 b (aQ (aR (aJ e) I.ok.above))).trans e1⟩
 .by_cases hj:j=i
  .subst hj;rw[List.getElem?_set_self hiσ]at e2;cases e2
  .rw[List.getElem?_set_ne (Ne.symm hj)]at e2;obtain⟨u',r',q⟩:=hl j y v' e1 e2 e3;refine⟨u',r',?_⟩;rcases q with⟨k,e⟩|⟨k,c,e,z⟩
   .refine .inl ⟨k,?_⟩;have:y≠n:=λe=>hj (pH hN e1 (e ▸ hi));simp[this,e]
   .exact .inr ⟨k,c,e,z.sameBut hs (cne y c e)⟩
 .obtain⟨w',z⟩:=I.cell y c e;exact⟨w',z.sameBut hs (cne y c e)⟩
 .obtain⟨e,n',ne,nf,d⟩:=I.pin p hp;exact⟨(hs.2 p.1 ne).trans e,n',ne,nf,d⟩
end
noncomputable def XO(a C:Addr)(d:Ζ):HO:=.ext λh=>∃o,h.get? a=some o/\o.cls=.ref C/\o.dict=d/\∃vs,o.data=.fields vs
theorem Ij{M:Model}{A:Around}{E:Ι}{K:Frag}{h:Heap}{g:Array GenState}{d:Drawn}{t:Nat}{os:OsState}{a C D:Addr}{oe:Obj}{Q:Bool->Shared->Prop}{b:Bool}(X:K.In h)
 (qD:mroIn K D (.type "BaseException")=some true)(tyD:typeIn K (.ref D)=some (.type "type"))(he:h.get? a=some oe)(hc:oe.cls=.ref C)(qS:mroIn K C (.ref D)=some b)
 (hq:Q b ⟨h,g,d,t,os⟩):wpAny M A (excMatches (.ref a) (.ref D)) Q E ⟨h,g,d,t,os⟩:=by
 have l1:PySem.W.Looks M h (isInstance (.ref D) (.type "tuple")) false:=(PySem.W.looks_typeIn X tyD).andThen (PySem.W.Looks.of_pure tc_notTuple);have l2:PySem.W.Looks M h (isType (.ref D)) true:=by
  obtain⟨cdD,hcD,_⟩:=Option.bind_eq_some_iff.mp qD;unfold clsIn at hcD;split at hcD
  .rename_i c' d' cd' sl' ho
   intro A' Q' E' s' k q;unfold isType loadHead;exact ZU (wpAny_loadPart (k _ _ (X _ _ ho)) (ZT q))
  .cases hcD
 have l3:PySem.W.Looks M h (isSubtype (.ref D) (.type "BaseException")) true:=looks_mroIn X qD;have l4:PySem.W.Looks M h (isSubtype (.ref C) (.ref D)) b:=looks_mroIn X qS;have l5:PySem.W.Looks M h (typeOf (.ref a)) (.ref C):=by
  intro A' Q' E' s' k q;rw[<- hc]at q;unfold typeOf;exact ZU (wpAny_loadPart (k _ _ he) (ZT q))
 unfold excMatches;refine ZU (l1.at ?_);simp only[XW,if_false];refine ZU (ZT ?_);simp only[List.forIn_cons,List.forIn_nil];unfold isExcClass;refine ZU (ZU (ZU (ZU (l2.at ?_))));simp only[if_true];refine l3.at ?_;simp only[Bool.not_true,XW,if_false];refine ZT (ZT (ZU (l5.at ?_)));refine ZU (ZU (ZU (l4.at ?_)));cases b with
 |true =>
  simp only[if_true];exact ZT (ZT (ZT hq))
 |false =>
  simp only[XW,if_false];exact ZT (ZT (ZT hq))
section
variable{X:Cx}{pos hpos np:Pos}{body suite:List Stmt}{b₀:Stmt}{n Dn:Str}{D:Addr}{i:Nat}{tb:(Value->Ζ->L2.St->Hp->Prop)->TS}{th:TS}
noncomputable def Ends.unset(R:Ends)(i:Nat):Ends:={ nx:=λσ H=>R.nx (σ.set i none) H,rt:=R.rt,bk:=λσ H=>R.bk (σ.set i none) H,ct:=λσ H=>R.ct (σ.set i none) H }
noncomputable def Gw(K:Frag)(D:Addr)(i:Nat)(tb:(Value->Ζ->L2.St->Hp->Prop)->TS)(th:TS):TS:=λR σ H =>
 ∃Ex:Value->Ζ->L2.St->Hp->Prop,tb Ex R σ H/\∀C' d σ' H',Ex C' d σ' H'->∃C,C'=.ref C/\mroIn K C (.ref D)=some true /\
  ∀a,H' a=none->th (R.unset i) (σ'.set i (some (.ref a))) (upd H' a (XO a C d))
theorem Um(hN:X.N.Nodup)(hi:X.N[i]?=some n)(hln:X.env.scope.names.lookup n=some .local)(hgD:Gl X Dn)(hmD:X.mg Dn=some (.ref D))(qD:mroIn X.K D (.type "BaseException")=some true)
 (tyD:typeIn X.K (.ref D)=some (.type "type"))(hst:X.stack=X.env::X.outer)(hfr:X.env.frame=some X.env.locals)(hex:X.ex=[])
 (hb:∀pn' E' Ex,BZ (X.tryc pn' E') Ex->PSs (X.tryc pn' E') body (tb Ex))(hh:∀a E',PSs (X.marked a E') (b₀::suite) th)(hdb:(Dn==("__debug__" : Str))=false:=by decide) :
  PS X (.Try body [.ExceptHandler (some (.Name Dn np)) (some n) (b₀::suite) hpos] [] [] pos) (Gw X.K D i tb th):=by
 intro pins s σ H R I h;obtain⟨Ex,h1,h2⟩:=h;refine wpAny_Try_except ?_;have ends:∀{Y:Cx}{pn:Ψ}{f:Flow}{s':Shared},(∀{σ':L2.St}{H':Hp},Inv Y pn σ' H' s'->Inv X pins σ' H' s')->SP Y pn R f s'->SP X pins R f s':=λ{Y pn f s'}k q=>by
  cases f with
  |next=>obtain⟨σ',H',J,z⟩:=q;exact⟨σ',H',k J,z⟩
  |brk=>obtain⟨σ',H',J,z⟩:=q;exact⟨σ',H',k J,z⟩
  |cont=>obtain⟨σ',H',J,z⟩:=q;exact⟨σ',H',k J,z⟩
  |ret u=>obtain⟨v,σ',H',J,z⟩:=q;exact⟨v,σ',H',k J,z⟩
 refine wpAny_mono (hb (X.pn++pins) _ Ex ?_ [] s σ H R I.tryc h1) (λf s1 q=>?_) λ_ _ z=>z
 rotate_left
 .have q':=ends (λJ=>J.untry) q;cases f with
  |next=>exact wpAny_execs_nil q'
  |brk=>exact q'
  |cont=>exact q'
  |ret u=>exact q'
 intro pins' σ1 H1 s1 a C' H' s' B d J F ex;have J0:Inv X pins σ1 H1 s1:=J.untry;obtain⟨C,rfl,qS,k⟩:=h2 C' d σ1 H' ex;have F0:Fly X.prog X.w X.stack H1 s1 a (.ref C) H' s' B d:=F;have fl0:pP B (X.env::X.outer) a (.ref C) d .none s'.heap:=by rw[<- hst];exact F0.fl
 show wpAny _ _ (noteFrame (.ref a) X.env) _ _ _;refine Ei (outer:=X.outer) (L:=X.env.locals) (I.ok.frames.trans (by rw[hst])) hfr fl0 λh₄ hheld₄ sm₄=>?_;refine O4 hheld₄ λh₅ fl₅ sm₅=>?_;have J5:Inv X pins σ1 H' { s' with heap:=h₅ }:=J0.flown F0 fl₅.1 (sm₄.trans sm₅);obtain⟨oe,vs,he,hcls,_,hd⟩:=fl₅.first;refine wpAny_handleBy_cons (codeAny_handlers_test ?_) (by intro q;cases q);refine lH (X:=X.marked a (λ_ _=>False)) J5.marked hgD hmD ?_ hdb;refine Ij (K:=X.K) J5.kIn qD tyD he hcls qS ?_;show codeAny _ _ _ _ _;refine codeAny_handlers_suite_as ?_;refine O4 fl₅ λh₆ fl₆ sm₆=>?_;have J6:Inv X pins σ1 H' { s' with heap:=h₆ }:=J0.flown F0 fl₆.1 ((sm₄.trans sm₅).trans sm₆);obtain⟨oe6,vs6,he6,hcls6,hda,hd6⟩:=fl₆.first;have na:H' a=none:=by
  cases q:H' a with
  |none=>rfl
  |some u =>
   obtain⟨o',e'⟩:=(F0.hok a u q).there;have y:=F0.trk q e';rw[F0.fl.2.1]at y;cases y
 have ns:X.s₀.heap.get? a=none:=by
  cases q:X.s₀.heap.get? a with
  |none=>rfl
  |some o =>
   obtain⟨⟨u,z⟩,_⟩:=J0.old hex q;rw[F0.new]at z;cases z
 have nL:a≠X.env.locals:=λz=>by
  obtain⟨m,⟨o,es,ep,e,dd,_⟩,_⟩:=J6.loc;rw[<- z]at e;have e':h₆.get? a=some o:=e;rw[he6]at e';cases e';rw[hd6]at dd;cases dd
 have nC:∀x c,X.env.cells.lookup x=some c->c≠a:=λx c e z=>by
  obtain⟨v,o,e',dd⟩:=J6.cell x c e;rw[z]at e';have e2:h₆.get? a=some o:=e';rw[he6]at e2;cases e2;rw[hd6]at dd;cases dd
 have nP:∀p∈X.pn++pins,p.1≠a:=λp hp z=>by
  have:=(J0.pin p hp).1;rw[z,F0.new]at this;cases this
 have okx:cV X.prog X.w (upd H' a (XO a C d)) h₆ a (XO a C d):=⟨⟨oe6,he6,hcls6,hda,vs6,hd6⟩,⟨oe6,he6⟩,λg1 g2 ⟨o,e1,e2⟩ kk=>⟨o,kk o e1,e2⟩⟩;have J7:Inv X pins σ1 (upd H' a (XO a C d)) { s' with heap:=h₆ }:=J6.track na ns nL nC nP okx;refine qO (X:=X.marked a (λ_ _=>False)) J7.marked hN hi (.inl hln) (v:=.ref a) rfl (λs8 J8=>?_) (.inr hln);have J8':Inv X pins (σ1.set i (some (.ref a))) (upd H' a (XO a C d)) s8:=J8.unmarked I.ok;refine wpAny_mono (hh a _ pins s8 _ _ _ J8'.marked (k a na)) (λf s9 q=>?_) λ_ _ z=>z;cases f with
 |next =>
  obtain⟨σ',H2,J9,z⟩:=q;exact(J9.unmarked I.ok).unname hN hi hln λs10 J10=>⟨_,_,J10,z⟩
 |brk =>
  obtain⟨σ',H2,J9,z⟩:=q;exact(J9.unmarked I.ok).unname hN hi hln λs10 J10=>⟨_,_,J10,z⟩
 |cont =>
  obtain⟨σ',H2,J9,z⟩:=q;exact(J9.unmarked I.ok).unname hN hi hln λs10 J10=>⟨_,_,J10,z⟩
 |ret u =>
  obtain⟨v,σ',H2,J9,rv,z⟩:=q;exact(J9.unmarked I.ok).unname hN hi hln λs10 J10=>⟨v,_,_,J10,rv,z⟩
end
structure uw(K:Frag)(C:Addr):Prop where
 ga:findIn K (.ref C) "__getattribute__" = some (some (.builtin "BaseException.__getattribute__"))
 gn:findIn K (.ref C) "__getattr__" = some none
 cl:findIn K (.ref C) "__class__" = some (some (.builtin "object.__class__"))
 mo:mroIn K C (.type "object")=some true
 mb:mroIn K C (.type "BaseException")=some true
section
variable{prog:Program}{w:World}{A:Around}{E:Ι}{h:Heap}{g:Array GenState}{d:Drawn}{t:Nat}{os:OsState}{a C:Addr}{o:Obj}{K:Frag}
theorem gD{M:Model}(hx:h.get? a=some o)(hc:o.cls=.ref C):PySem.W.Looks M h (typeOf (.ref a)) (.ref C):=by
 intro A' Q' E' s' k q;rw[<- hc]at q;unfold typeOf;exact ZU (wpAny_loadPart (k _ _ hx) (ZT q))
theorem Dc{R:Result->Shared->Prop}(X:K.In h)(T:uw K C)(hx:h.get? a=some o)(hc:o.cls=.ref C)(hq:R (.ok (.ret (.ref C))) ⟨h,g,d,t,os⟩) :
  codeAny (model prog w) A (.call (.builtin "getset_descriptor.__get__") ⟨[.builtin "object.__class__",.ref a,.ref C],[]⟩) R ⟨h,g,d,t,os⟩:=by
 have hT5:(⟨h,g,d,t,os⟩ : Shared).TypeIs (.builtin "object.__class__") "getset_descriptor" := F.typeOf_object_class;have LT:=gD (M:=model prog w) hx hc;have LO:PySem.W.Looks (model prog w) h (isSubtype (.ref C) (.type (".".intercalate ("object.__class__".cutAt '.').dropLast))) true:=by
  rw[F.owner_object_class];exact looks_mroIn X T.mo
 refine codeAny_call_builtin F.slot_gs_get.plain F.entry_gs_get (F.slot_gs_get.check _ _ _ _ _ _ _ _ hT5 (F.args_gs_get _ _ _) ?_)
 repeat (any_goals (first|assumption|with_reducible refine LT.at ?_|with_reducible refine LO.at ?_|(with_reducible refine wpAny_loadPart_at hx ?_;rw[hc])|wp_step))
 refine⟨Code.quiet_builtin _ (by decide +kernel),codeAny_builtin F.entry_object_class ?_⟩
 repeat (any_goals (first|assumption|with_reducible refine LT.at ?_|(with_reducible refine wpAny_loadPart_at hx ?_;rw[hc])|wp_step))
theorem yI{tk:Tok}{Q:Fin->Shared->Prop}(X:K.In h)(T:uw K C)(hx:h.get? a=some o)(hc:o.cls=.ref C)(hq:Q (.done (.ret (.ref C))) ⟨h,g,d,t,os⟩) :
  wpAny (model prog w) A (Builtin.«object.__getattribute__» ⟨[.ref a,.str "__class__" tk],[]⟩) Q E ⟨h,g,d,t,os⟩:=by
 have hT5:(⟨h,g,d,t,os⟩ : Shared).TypeIs (.builtin "object.__class__") "getset_descriptor" := F.typeOf_object_class;have f5:=F.typeOf_object_class;have f6:=F.slot_gs_get.lookup;have f7:=F.slot_gs_set.lookup;have LT:=gD (M:=model prog w) hx hc;have LC:=looks_findIn (M:=model prog w) X T.cl
 repeat (any_goals (first|assumption|with_reducible refine LT.at ?_|with_reducible refine LC.at ?_|(with_reducible refine wpAny_loadPart_at hx ?_;rw[hc])|wp_step))
 refine Dc X T hx hc ?_
 repeat (any_goals (first|assumption|wp_step))
theorem v8{M:Model}{nameV:Value}{Q:Unit->Shared->Prop}(X:K.In h)(T:uw K C)(hx:h.get? a=some o)(hc:o.cls=.ref C)(hq:Q () ⟨h,g,d,t,os⟩) :
  wpAny M A (checkBuiltinCall "BaseException.__getattribute__" ⟨[.ref a,nameV],[]⟩) Q E ⟨h,g,d,t,os⟩:=by
 have hk:builtinKind "BaseException.__getattribute__" = some .slot:=by decide +kernel
 have hsplit:splitId "BaseException.__getattribute__" = some ("BaseException", "__getattribute__"):=by decide +kernel
 have ha:=F.args_bexc_ga (.ref a) nameV;have LT:=gD (M:=M) hx hc;have LB:=looks_mroIn (M:=M) X T.mb;simp only[checkBuiltinCall,hk,hsplit];refine ZU ?_;unfold isInstance
 repeat (first|with_reducible refine LT.at ?_|with_reducible refine LB.at ?_|(with_reducible refine wpAny_loadPart_at hx ?_;rw[hc])|wp_step)
 exact hq
theorem GC{tk:Tok}{Q:Ι}(X:K.In h)(T:uw K C)(hx:h.get? a=some o)(hc:o.cls=.ref C)(hq:Q (.ref C) ⟨h,g,d,t,os⟩) :
  wpAny (model prog w) A (getAttrBy (.ref a) (.str "__class__" tk) false) Q E ⟨h,g,d,t,os⟩:=by
 have f3:=F.excAttr_ValueError.ga.bind (.ref a);have hx2:(Value.builtin "BaseException.__getattribute__" == Value.builtin "object.__getattribute__")=false:=by decide +kernel
 have hx1:(onTheHeap (Value.ref C)&&Value.builtin "BaseException.__getattribute__" == Value.builtin "object.__getattribute__")=false:=by rw[hx2];exact Bool.and_false _
 have LT:=gD (M:=model prog w) hx hc;have LG:=looks_findIn (M:=model prog w) X T.ga;have LN:=looks_findIn (M:=model prog w) X T.gn
 repeat (any_goals (first|assumption|with_reducible refine LT.at ?_|with_reducible refine LG.at ?_|with_reducible refine LN.at ?_|(with_reducible refine wpAny_loadPart_at hx ?_;rw[hc])|wp_step))
 refine codeAny_call_builtin F.excAttr_ValueError.ga.plain F.entry_bexc_ga (v8 X T hx hc (yI X T hx hc ?_))
 repeat (any_goals (first|assumption|wp_step))
theorem Bq{Q:Ε->Shared->Prop}(X:K.In h)(T:uw K C)(hx:h.get? a=some o)(hc:o.cls=.ref C)(hq:Q (some (.ref C)) ⟨h,g,d,t+1,os⟩) :
  wpAny (model prog w) A (getAttr? (.ref a) "__class__") Q E ⟨h,g,d,t,os⟩:=by
 unfold getAttr? getAttrBy?
 repeat (any_goals (first|assumption|with_reducible apply GC X T hx hc|wp_step))
end
noncomputable def xM(cells:List (Str×Addr)):List (Str×NameKind)->List (Str×Addr)->List (Str×Addr)
 |[],acc=>acc
 |(n,k)::r,acc=>xM cells r (if k == .free then(n,(cells.lookup n).getD 0)::acc else acc)
theorem Kw{scope:Scope}{env:Env}(h:∀y∈scope.names,y.2=.free->∃c,env.cells.lookup y.1=some c):closureFor scope env=pure (xM env.cells scope.names []):=by
 unfold closureFor;have go:∀(l:List (Str×NameKind))(acc:List (Str×Addr)),(∀y∈l,y.2=.free->∃c,env.cells.lookup y.1=some c) ->
   (forIn l acc (λ(x:Str×NameKind)(r:List (Str×Addr))=>if(x.2==NameKind.free)=true then(do let a <- cellOf env x.1;pure (ForInStep.yield ((x.1,a)::r)))else pure (ForInStep.yield r)):Sem (List (Str×Addr)))=pure (xM env.cells l acc):=by
  intro l
  induction l with
  |nil=>intro acc _;rfl
  |cons y r ih =>
   intro acc hy;obtain⟨n,k⟩:=y;rw[List.forIn_cons];by_cases hk:k=.free
   .subst hk;obtain⟨c,hc⟩:=hy (n,.free) aN rfl;have e1:cellOf env n=pure c:=by unfold cellOf;rw[show env.cells.lookup n=some c from hc]
    simp only[beq_self_eq_true,if_true,e1,pure_bind];rw[ih _ λz hz=>hy z (aH _ hz)];show pure _=pure (xM env.cells r (if(NameKind.free==NameKind.free)=true then(n,(env.cells.lookup n).getD 0)::acc else acc));rw[show env.cells.lookup n=some c from hc]
    rfl
   .have hb:(k==NameKind.free)=false:=by simpa using hk
    simp only[hb,XW,if_false,pure_bind];rw[ih _ λz hz=>hy z (aH _ hz)];show pure _=pure (xM env.cells r (if(k==NameKind.free)=true then(n,(env.cells.lookup n).getD 0)::acc else acc));rw[hb]
    rfl
 have e:=go scope.names [] h;show(forIn scope.names [] (λ(x:Str×NameKind)(r:List (Str×Addr))=>if(x.2==NameKind.free)=true then(do let a <- cellOf env x.1;pure (ForInStep.yield ((x.1,a)::r)))else pure (ForInStep.yield r)):Sem (List (Str×Addr))) >>= (λcs=>pure cs)=_;rw[e]
 rfl
theorem Ih{cells:List (Str×Addr)} : ∀{names:List (Str×NameKind)}{acc:List (Str×Addr)}{x:Str}{c:Addr},(∀y∈names,y.2=.free->∃c,cells.lookup y.1=some c)->(x,c)∈xM cells names acc->(x,c)∈acc\/cells.lookup x=some c
 |[],_,_,_,_,h=>.inl h
 |(n,k)::r,acc,x,c,hf,h=>by
  unfold xM at h;rcases Ih (λy hy=>hf y (aH _ hy)) h with z|z
  .by_cases hk:k=.free
   .subst hk;simp only[beq_self_eq_true,if_true]at z;rcases YU.mp z with e|e
    .obtain⟨c',hc'⟩:=hf (n,.free) aN rfl;cases e;rw[show cells.lookup n=some c' from hc'];exact .inr rfl
    .exact .inl e
   .have hb:(k==NameKind.free)=false:=by simpa using hk
    simp only[hb,XW,if_false]at z;exact .inl z
  .exact .inr z
theorem JK{cells:List (Str×Addr)} : ∀{names:List (Str×NameKind)}{acc:List (Str×Addr)}{x:Str},((x,NameKind.free)∈names\/∃c,(x,c)∈acc)->∃c,(x,c)∈xM cells names acc
 |[],_,_,h=>by
  rcases h with h|h
  .cases h
  .exact h
 |(n,k)::r,acc,x,h=>by
  unfold xM;refine JK ?_;rcases h with h|⟨c,h⟩
  .rcases YU.mp h with e|e
   .cases e;exact .inr ⟨_,by simp only[beq_self_eq_true,if_true];exact aN⟩
   .exact .inl e
  .refine .inr ⟨c,?_⟩;split
   .exact aH _ h
   .exact h
theorem mK{α:Type}{x:Str}{c:α} : ∀{l:List (Str×α)},(x,c)∈l->∃c',l.lookup x=some c'
 |(y,d)::r,h=>by
  rw[List.lookup_cons];cases hb:x==y with
  |true=>exact⟨d,rfl⟩
  |false =>
   rcases YU.mp h with e|e
   .cases e;simp at hb
   .exact mK e
section
variable{X:Cx}{elt iter:Expr}{x:Str}{px pos:Pos}{scope:Scope}{wi:TI}{te:TE}
theorem Inv.nostk'{pins:Ψ}{σ:L2.St}{H:Hp}{s:Shared}(I:Inv X pins σ H s){b:Addr}(h1:b≠X.env.locals)(h2:b∉X.fs):b∉frs X.stack:=λz=>by
 rcases YU.mp (I.stkSub b z)with e|e
 .exact h1 e
 .exact h2 e
theorem wI{env:Env} : ∀{names:List (Str×NameKind)}{y:Str},(names.map λ(n,k)=>if(k==NameKind.free&&env.scope.kind == .function&&env.kindOf n==some .cell)then(n,NameKind.cell)else(n,k)).lookup y=some .cell \/
  (names.map λ(n,k)=>if(k==NameKind.free&&env.scope.kind == .function&&env.kindOf n==some .cell)then(n,NameKind.cell)else(n,k)).lookup y=some .free->(∀z∈names,z.2≠.cell)->(y,NameKind.free)∈names
 |[],y,h,_=>by rcases h with h|h<;>cases h
 |(n,k)::r,y,h,hc=>by
  have ih:=@wI env r y;simp only[List.map_cons]at h;by_cases hcond:(k==NameKind.free&&env.scope.kind == .function&&env.kindOf n==some .cell)=true
  .rw[ZY hcond]at h;simp only[List.lookup_cons]at h;cases hb:y==n with
   |true =>
    have hk:k=.free:=by
     simp only[Bool.and_eq_true,beq_iff_eq]at hcond;exact hcond.1.1
    have:y=n:=by simpa using hb
    subst this hk;exact aN
   |false =>
    rw[hb]at h;exact aH _ (ih h λz hz=>hc z (aH _ hz))
  .rw[ZZ hcond]at h;simp only[List.lookup_cons]at h;cases hb:y==n with
   |true =>
    rw[hb]at h;have:y=n:=by simpa using hb
    subst this;rcases h with h|h
    .exact absurd (Option.some.inj h) (hc (y,k) aN)
    .have:k=.free:=Option.some.inj h;subst this;exact aN
   |false =>
    rw[hb]at h;exact aH _ (ih h λz hz=>hc z (aH _ hz))
end
section
variable{X:Cx}
theorem qp{x:Str}{D:Addr}{pos:Pos}(hg:Gl X x)(hm:X.mg x=some (.ref D))(hd:(x==("__debug__" : Str))=false:=by decide):PE X (.Name x pos) (tC (.ref D)):=FJ hg hm rfl hd
theorem R7{K:Frag}{a C:Addr}(T:uw K C):KitX K (.ref a) (.ref C) (λh=>∃o,h.get? a=some o/\o.cls=.ref C) where
 ty:=λM h _ hP=>by obtain⟨o,e,c⟩:=hP;exact gD e c
 it:=λM h Y _=>by
  obtain⟨cdD,hcD,_⟩:=Option.bind_eq_some_iff.mp T.mo;unfold clsIn at hcD;split at hcD
  .rename_i c' d' cd' sl' ho
   intro A' Q' E' s' k q;unfold isType loadHead;exact ZU (wpAny_loadPart (k _ _ (Y _ _ ho)) (ZT q))
  .cases hcD
 ne:=λh tp dd its n sl Y htp=>by
  obtain⟨cdD,hcD,_⟩:=Option.bind_eq_some_iff.mp T.mo;refine Bool.eq_false_iff.mpr λq=>?_;have e:C=tp:=Value.ref.inj (beq_iff_eq.mp q);subst e;unfold clsIn at hcD;split at hcD
  .rename_i c' d' cd' sl' ho
   have z:=(Y _ _ ho).symm.trans htp;cases z
  .cases hcD
 ca:=λ{prog w A E Q s}Y ⟨o,e,c⟩ k=>by
  obtain⟨h,g,d,t,os⟩:=s;exact Bq Y T e c k
noncomputable def Yn(K:Frag):Κ->Hp->VK->Prop:=λxs H Q=>∃a C d c cv b,xs=[.ref a,c]/\H a=some (XO a C d)/\((∃T,c=.ty T/\cv=Value.type T)\/∃D,c=.ref D/\cv=Value.ref D)/\uw K C/\kitOne K (.ref C) cv=some b/\Q (.bl b) H
theorem QV:d8 X (.builtin "isinstance") (Yn X.K):=by
 intro pins s σ H xs us Q I r h;obtain⟨a,C,d,c,cv,b,rfl,ha,rc,T,e,q⟩:=h;obtain⟨u,v,rfl,ru,rv⟩:=r.two;cases ru;have e2:v=cv:=by
  rcases rc with⟨T,rfl,rfl⟩|⟨T,rfl,rfl⟩
  .exact rv
  .exact rv
 subst e2;obtain⟨⟨o,e1,e2,_⟩,_⟩:=I.hok a _ ha;exact kia_one (R7 T) I.kIn ⟨o,e1,e2⟩ e (λz=>nomatch z) λtk=>⟨.bl b,H,I.tok _,rfl,q⟩
noncomputable def Zg(neg:Bool):R2:=λx y H Q=>∃b,y=.bl b/\Q (.bl (if neg then !decide (x=.bl b)else decide (x=.bl b))) H
noncomputable def eqF:Κ->Κ->Bool
 |[],[]=>true
 |x::xs,y::ys=>eqV x y&&eqF xs ys
 |_,_=>false
theorem w5:∀(xs ys:Κ),(((List.range (min xs.length ys.length)).all λj=>eqV (xs.getD j .non) (ys.getD j .non))&&(xs.length==ys.length))=eqF xs ys
 |[],[]=>rfl
 |[],y::ys=>by simp[eqF]
 |x::xs,[]=>by simp[eqF]
 |x::xs,y::ys=>by
  have ih:=w5 xs ys;unfold eqF;rw[<- ih];have e:min (x::xs).length (y::ys).length=min xs.length ys.length+1:=by simp only[List.length_cons];lia
  rw[e,List.range_succ_eq_map,List.all_cons,List.all_map];have e2:((x::xs).length==(y::ys).length)=(xs.length==ys.length):=by simp
  rw[e2];simp only[List.getD_cons_zero,Function.comp_def,List.getD_cons_succ,Bool.and_assoc]
theorem Iw{xs:Κ}(f:xs.all m9=true){j:Nat}{x:V}(e:xs[j]?=some x):m9 x=true:=List.all_eq_true.mp f x (aB e)
theorem Tg{A:Around}{s:Shared}{xs ys:Κ}{us ws:Ω}(ru:Vals xs us)(rw':Vals ys ws)(fx:xs.all m9=true)(fy:ys.all m9=true)(j:Nat)(h1:j<us.toArray.size)(h2:j<ws.toArray.size) :
  SeqAt.EqAt A s us.toArray[j] ws.toArray[j] (eqV (xs.getD j .non) (ys.getD j .non)):=by
 have l1:=ru.length;have l2:=rw'.length;simp only[aY]at h1 h2;have g1:xs[j]?=some (xs.getD j .non):=by rw[au,aj (by lia)];rfl
 have g2:ys[j]?=some (ys.getD j .non):=by rw[au,aj (by lia)];rfl
 obtain⟨u,e1,r1⟩:=ru.get g1;obtain⟨v,e2,r2⟩:=rw'.get g2;have e1':us.toArray[j]=u:=by simp only[List.getElem_toArray];exact(ao.mp e1).2
 have e2':ws.toArray[j]=v:=by simp only[List.getElem_toArray];exact(ao.mp e2).2
 rw[e1',e2'];exact Yz r1 r2 (Iw fx g1) (Iw fy g2)
noncomputable def eqH(H:Hp)(x y:V):Option Bool :=
 match x,y with
 |.ref a,.ref b=>match H a,H b with
  |some (.tup xs),some (.tup ys)=>if xs.all m9&&ys.all m9 then some (eqF xs ys)else none
  |some (.lst xs),some (.lst ys)=>if xs.all m9&&ys.all m9 then some (eqF xs ys)else none
  |some (.lst _),some (.tup _)=>some false
  |some (.tup _),some (.lst _)=>some false
  |_,_=>none
 |.ref a,y=>if m9 y then(match H a with
  |some (.tup _)=>some false
  |some (.lst _)=>some false
  |_=>none)else none
 |x,.ref b=>if m9 x then(match H b with
  |some (.tup _)=>some false
  |some (.lst _)=>some false
  |_=>none)else none
 |x,y=>if qJ x y then some (decide (x=y))else none
noncomputable def W4:R2:=λx y H Q=>∃k,eqH H x y=some k/\Q (.bl k) H
theorem Inv.tupIs{pins:Ψ}{σ:L2.St}{H:Hp}{s:Shared}{a:Addr}{xs:Κ}(I:Inv X pins σ H s)(h:H a=some (.tup xs)):∃its,Vals xs its/\IsTup s.heap a its.toArray/\s.heap.IsTuple a its.toArray:=by
 obtain⟨its,rv,ht,_⟩:=I.tuple (SqT.of h);exact⟨its,rv,ht,ht⟩
theorem Inv.lstIs{pins:Ψ}{σ:L2.St}{H:Hp}{s:Shared}{a:Addr}{xs:Κ}(I:Inv X pins σ H s)(h:H a=some (.lst xs)):∃its,Vals xs its/\s.heap.IsList a its.toArray:=by
 obtain⟨its,rv,ht,_⟩:=I.list (SqL.of h);exact⟨its,rv,ht.isList⟩
theorem yq{A:Around}{s:Shared}{xs ys:Κ}{us ws:Ω}(ru:Vals xs us)(rw':Vals ys ws)(f:(xs.all m9&&ys.all m9)=true)(j:Nat)(h1:j<us.toArray.size)(h2:j<ws.toArray.size) :
  SeqAt.EqAt A s us.toArray[j] ws.toArray[j] (eqV (xs.getD j .non) (ys.getD j .non)):=by
 rw[Bool.and_eq_true]at f;exact Tg ru rw' f.1 f.2 j h1 h2
theorem YS(hu:X.A.units<cLine):OpR X (compareOp .Eq) W4:=by
 intro pins s σ H x y v u Q I rx ry h;obtain⟨k,e,q⟩:=h;have scl:qJ x y=true->k=decide (x=y)->wpAny (model X.prog X.w) X.A (compareOp .Eq v u) (λv s'=>∃x H',Inv X pins σ H' s'/\RelV x v/\Q x H') X.xe s:=λhs he=>qF pins s σ H x y v u Q I rx ry ⟨hs,he ▸ q⟩;unfold eqH at e;split at e
 .rename_i a b
  cases rx;cases ry;split at e
  .rename_i xs ys ha hb
   split at e
   .rename_i f
    obtain⟨us,ru,iu⟩:=I.tupIs ha;obtain⟨ws,rw',iw⟩:=I.tupIs hb;injection e with e;refine SeqAt.RcAt.tuples iu.2 iw.2 hu (λj h1 h2=>yq ru rw' f j h1 h2) _ _ _ _ ⟨.bl k,H,I,?_,q⟩;have:=w5 xs ys;rw[ru.length,rw'.length]at this;simp only[aY];rw[this,e];rfl
   .cases e
  .rename_i xs ys ha hb
   split at e
   .rename_i f
    obtain⟨us,ru,iu⟩:=I.lstIs ha;obtain⟨ws,rw',iw⟩:=I.lstIs hb;injection e with e;have hr:=w5 xs ys;rw[ru.length,rw'.length]at hr;by_cases hl:us.length=ws.length
    .refine SeqAt.RcAt.lists iu iw (by simp only[aY];exact hl) hu (λj h1 h2=>yq ru rw' f j h1 h2) _ _ _ _ ⟨.bl k,H,I,?_,q⟩;rw[hl,Nat.min_self,beq_self_eq_true,Bool.and_true]at hr;simp only[aY];rw[hl,hr,e];rfl
    .have hf:(us.length==ws.length)=false:=beq_eq_false_iff_ne.mpr hl;rw[hf,Bool.and_false]at hr;refine SeqAt.RcAt.lists_lengths iu iw (by simp only[aY];simp[hl]) hu _ _ _ _ ⟨.bl k,H,I,?_,q⟩;rw[<- e,<- hr];rfl
   .cases e
  .rename_i xs ys ha hb
   obtain⟨us,ru,iu⟩:=I.lstIs ha;obtain⟨ws,rw',iw⟩:=I.tupIs hb;injection e with e;exact SeqAt.RcAt.list_tuple iu iw.2 hu _ _ _ _ ⟨.bl k,H,I,by rw[<- e];rfl,q⟩
  .rename_i xs ys ha hb
   obtain⟨us,ru,iu⟩:=I.tupIs ha;obtain⟨ws,rw',iw⟩:=I.lstIs hb;injection e with e;exact SeqAt.RcAt.tuple_list iu.2 iw hu _ _ _ _ ⟨.bl k,H,I,by rw[<- e];rfl,q⟩
  .cases e
 .rename_i a hne
  cases rx;split at e
  .rename_i f
   split at e
   .rename_i ys hb
    obtain⟨us,ru,iu⟩:=I.tupIs hb;injection e with e;cases y with
    |non=>cases ry;exact SeqAt.RcAt.tuple_none iu.2 hu _ _ _ _ ⟨.bl k,H,I,by rw[<- e];rfl,q⟩
    |bl b=>cases ry;exact SeqAt.RcAt.tuple_bool b iu.2 hu _ _ _ _ ⟨.bl k,H,I,by rw[<- e];rfl,q⟩
    |int b=>obtain⟨t,rfl⟩:=ry;exact SeqAt.RcAt.tuple_int b t iu.2 hu _ _ _ _ ⟨.bl k,H,I,by rw[<- e];rfl,q⟩
    |str b=>obtain⟨t,rfl⟩:=ry;exact SeqAt.RcAt.tuple_str b t iu.2 hu _ _ _ _ ⟨.bl k,H,I,by rw[<- e];rfl,q⟩
    |_=>exact absurd (show false=true from f) bC
   .rename_i ys hb
    obtain⟨us,ru,iu⟩:=I.lstIs hb;injection e with e;cases y with
    |non=>cases ry;exact SeqAt.RcAt.list_none iu hu _ _ _ _ ⟨.bl k,H,I,by rw[<- e];rfl,q⟩
    |bl b=>cases ry;exact SeqAt.RcAt.list_bool b iu hu _ _ _ _ ⟨.bl k,H,I,by rw[<- e];rfl,q⟩
    |int b=>obtain⟨t,rfl⟩:=ry;exact SeqAt.RcAt.list_int b t iu hu _ _ _ _ ⟨.bl k,H,I,by rw[<- e];rfl,q⟩
    |str b=>obtain⟨t,rfl⟩:=ry;exact SeqAt.RcAt.list_str b t iu hu _ _ _ _ ⟨.bl k,H,I,by rw[<- e];rfl,q⟩
    |_=>exact absurd (show false=true from f) bC
   .cases e
  .cases e
 .rename_i b hne
  cases ry;split at e
  .rename_i f
   split at e
   .rename_i ys hb
    obtain⟨us,ru,iu⟩:=I.tupIs hb;injection e with e;cases x with
    |non=>cases rx;exact SeqAt.RcAt.none_tuple iu.2 hu _ _ _ _ ⟨.bl k,H,I,by rw[<- e];rfl,q⟩
    |bl b=>cases rx;exact SeqAt.RcAt.bool_tuple b iu.2 hu _ _ _ _ ⟨.bl k,H,I,by rw[<- e];rfl,q⟩
    |int b=>obtain⟨t,rfl⟩:=rx;exact SeqAt.RcAt.int_tuple b t iu.2 hu _ _ _ _ ⟨.bl k,H,I,by rw[<- e];rfl,q⟩
    |str b=>obtain⟨t,rfl⟩:=rx;exact SeqAt.RcAt.str_tuple b t iu.2 hu _ _ _ _ ⟨.bl k,H,I,by rw[<- e];rfl,q⟩
    |_=>exact absurd (show false=true from f) bC
   .rename_i ys hb
    obtain⟨us,ru,iu⟩:=I.lstIs hb;injection e with e;cases x with
    |non=>cases rx;exact SeqAt.RcAt.none_list iu hu _ _ _ _ ⟨.bl k,H,I,by rw[<- e];rfl,q⟩
    |bl b=>cases rx;exact SeqAt.RcAt.bool_list b iu hu _ _ _ _ ⟨.bl k,H,I,by rw[<- e];rfl,q⟩
    |int b=>obtain⟨t,rfl⟩:=rx;exact SeqAt.RcAt.int_list b t iu hu _ _ _ _ ⟨.bl k,H,I,by rw[<- e];rfl,q⟩
    |str b=>obtain⟨t,rfl⟩:=rx;exact SeqAt.RcAt.str_list b t iu hu _ _ _ _ ⟨.bl k,H,I,by rw[<- e];rfl,q⟩
    |_=>exact absurd (show false=true from f) bC
   .cases e
  .cases e
 .split at e
  .rename_i hs
   injection e with e;exact scl hs e.symm
  .cases e
theorem Nj:BZ X (λ_ _ _ _=>False):=λ_ _ _ _ _ _ _ _ _ _ _ _ z=>z.elim
noncomputable def IsX(H:Hp)(a C:Addr):Prop:=∃d,H a=some (XO a C d)
noncomputable def Tp(C D:Addr)(b:Bool):Κ->Hp->VK->Prop:=λxs H Q=>∃a,xs=[.ref a,.ref D]/\IsX H a C/\Q (.bl b) H
noncomputable def Tn(C:Addr)(T:String)(b:Bool):Κ->Hp->VK->Prop:=λxs H Q=>∃a,xs=[.ref a,.ty T]/\IsX H a C/\Q (.bl b) H
theorem yH:bootBuiltins "ValueError" = some (.type "ValueError"):=by decide +kernel
end
noncomputable def Mj(tk tv:TE):TE:=λσ H Q=>∀p,H p=none->tk σ (upd H p (.dK [])) λx H1=>∃i,x=.int i/\tv σ H1 λy H2=>H2 p=some (.dK [])/\Q (.ref p) (upd H2 p (.dK [(.inl i,y)]))
open PySem.SeqAt in
section
variable{X:Cx}
structure PEB(X:Cx)(e:Expr)(t:TE):Prop where
 out:PE X e t
structure PAB(X:Cx)(es:List Expr)(t:TA):Prop where
 out:PA X es t
structure PSB(X:Cx)(st:Stmt)(t:TS):Prop where
 out:PS X st t
structure Wb(X:Cx)(b:List Stmt)(t:TS):Prop where
 out:PSs X b t
theorem uZ{i j pos} : PEB X (.Constant (.int i) j pos) (tC (.int i)):=⟨bG⟩
theorem V9{es:List Expr}{t:TA}{pos:Pos}(h:PAB X es t):PEB X (.List es pos) (Rz t):=⟨pR h.out⟩
theorem Ww:PAB X [] xU:=⟨bF⟩
theorem JR{c:Const}{k:Nat}{p:Pos}{es:List Expr}{te:TE}{t:TA}(ha:PEB X (.Constant c k p) te)(hr:PAB X es t):PAB X (.Constant c k p::es) (uh te t):=⟨bD ha.out hr.out rfl⟩
theorem cZ{st:Stmt}{rest:List Stmt}{t u:TS}(h1:PSB X st t)(h2:Wb X rest u):Wb X (st::rest) (ux t u):=⟨bH h1.out h2.out⟩
end
section
variable{P:Program}{w:World}{K:Frag}{mg:Str->Ε}{base:Heap}
theorem Fun.okB{x qual:Str}{st:Stmt}{f:Addr}{fd:FuncData}{N ps:Ξ}{k:Nat}{sp:Sp}(F:Fun K x qual st f fd)(S:bV N ps (bN st))(len:∀vs H Q E,sp vs H Q E->vs.length=ps.length)
 (hbody:∀(cdv:Value)(A:Around)(outer:List Env)(s:Shared)(H:Hp)(vs:Κ)(Q:VK)(E:XK),eU k (A.deeper (envOfC qual (bN st) s.heap.objs.size f cdv))->sp vs H Q E ->
   ∃t,Wb (Bw CX0 P w K mg base N qual (bN st) f cdv A outer s H E).nox (eZ st) t/\t { nx:=λ_ H'=>Q .non H',rt:=Q } (L2.start N vs) H):cD P w K mg base CX0 (k+1) f fd ps sp :=
 F.ok S len λcdv A outer s H vs Q E hr hsp=>let⟨t,h1,h2⟩:=hbody cdv A outer s H vs Q E hr hsp;⟨t,h1.out,h2⟩
end
mutual
inductive Shows(H:Hp):V->PyData->Prop
 |non:Shows H .non .none
 |bl (b:Bool):Shows H (.bl b) (.bool b)
 |int (i:Int):Shows H (.int i) (.int i)
 |str (x:Str):Shows H (.str x) (.str x)
 |lst {a:Addr}{xs:Κ}{ds:List PyData} : H a=some (.lst xs)->dw H xs ds->Shows H (.ref a) (.list ds)
 |tup {a:Addr}{xs:Κ}{ds:List PyData} : H a=some (.tup xs)->dw H xs ds->Shows H (.ref a) (.tuple ds)
inductive dw(H:Hp):Κ->List PyData->Prop
 |nil:dw H [] []
 |cons {x:V}{xs:Κ}{d:PyData}{ds:List PyData} : Shows H x d->dw H xs ds->dw H (x::xs) (d::ds)
end
mutual
theorem Shows.same{H H':Hp}(S:Same H H'):∀{x:V}{d:PyData},Shows H x d->Shows H' x d
 |_,_,.non=>.non
 |_,_,.bl b=>.bl b
 |_,_,.int i=>.int i
 |_,_,.str x=>.str x
 |_,_,.lst e h=>.lst (S _ _ e) (dw.same S h)
 |_,_,.tup e h=>.tup (S _ _ e) (dw.same S h)
theorem dw.same{H H':Hp}(S:Same H H'):∀{xs:Κ}{ds:List PyData},dw H xs ds->dw H' xs ds
 |_,_,.nil=>.nil
 |_,_,.cons h t=>.cons (Shows.same S h) (dw.same S t)
end
theorem dw.ints(H:Hp):∀ns:List Int,dw H (ns.map V.int) (ns.map PyData.int)
 |[]=>.nil
 |n::ns=>.cons (.int n) (dw.ints H ns)
section
variable{X:Cx}{pins:Ψ}{σ:L2.St}{H:Hp}{s:Shared}
mutual
theorem Inv.reads(I:Inv X pins σ H s):∀{x:V}{d:PyData}{v:Value},Shows H x d->RelV x v->∃as,Reads s.heap v d as
 |_,_,_,.non,r=>by cases r;exact⟨_,.none⟩
 |_,_,_,.bl b,r=>by cases r;exact⟨_,.bool b⟩
 |_,_,_,.int i,r=>by obtain⟨t,rfl⟩:=r;exact⟨_,.int i t⟩
 |_,_,_,.str x,r=>by obtain⟨t,rfl⟩:=r;exact⟨_,.str x t⟩
 |_,_,_,.lst e h,r=>by
  cases r;obtain⟨its,rv,⟨o,ho,hc,n,hd⟩⟩:=I.lstIs e;obtain⟨as,q⟩:=Inv.readsAll I h rv;exact⟨_,.list ho hc hd q⟩
 |_,_,_,.tup e h,r=>by
  cases r;obtain⟨its,rv,_,⟨o,ho,hc,n,hd⟩⟩:=I.tupIs e;obtain⟨as,q⟩:=Inv.readsAll I h rv;exact⟨_,.tuple ho hc hd q⟩
theorem Inv.readsAll(I:Inv X pins σ H s):∀{xs:Κ}{ds:List PyData}{vs:Ω},dw H xs ds->Vals xs vs->∃as,ReadsAll s.heap vs ds as
 |_,_,_,.nil,r=>by cases r;exact⟨_,.nil⟩
 |_,_,_,.cons h t,r=>by
  cases r with
  |cons r1 r2 =>
   obtain⟨a,q1⟩:=Inv.reads I h r1;obtain⟨b,q2⟩:=Inv.readsAll I t r2;exact⟨_,.cons q1 q2⟩
end
noncomputable def R_(neg:Bool):R2:=λx y H Q=>∃d e,Shows H x d/\Shows H y e/\SeqAt.shaped d=true/\SeqAt.shaped e=true/\Q (.bl (if neg then !PyData.eqv d e else PyData.eqv d e)) H
theorem RQ(hu:X.A.units+64<cLine):OpR X (compareOp .Eq) (R_ false):=by
 intro pins s σ H x y v u Q I rx ry h;obtain⟨d,e,hd,he,sd,se,q⟩:=h;obtain⟨as,ra⟩:=I.reads hd rx;obtain⟨bs,rb⟩:=I.reads he ry;exact SeqAt.compareEq_shaped ra rb sd se hu ⟨.bl _,H,I,rfl,q⟩
theorem YD(hu:X.A.units+64<cLine):OpR X (compareOp .NotEq) (R_ true):=by
 intro pins s σ H x y v u Q I rx ry h;obtain⟨d,e,hd,he,sd,se,q⟩:=h;obtain⟨as,ra⟩:=I.reads hd rx;obtain⟨bs,rb⟩:=I.reads he ry;exact SeqAt.compareNe_shaped ra rb sd se hu ⟨.bl _,H,I,rfl,q⟩
noncomputable def Ot:Κ->Hp->VK->Prop:=λxs H Q=>∃(l:Addr)(ns:List Int),xs=[.ref l]/\H l=some (.lst (ns.map V.int))/\Q (.int ns.sum) H
theorem Di(hc:X.calm=true):d8 X (.builtin "sum") Ot:=by
 intro pins s σ H xs us Q I r h;obtain⟨l,ns,rfl,hl,q⟩:=h;obtain⟨u,rfl,ru⟩:=r.one;cases ru;obtain⟨its,rv,p⟩:=I.lstIs hl;have hI:=intsAre_of rv;obtain⟨xs,e⟩:=hI.allInts.items;have hn:=hI.numsOf;rw[show its=its.toArray.toList from rfl,e,nums_intItems]at hn;rw[e]at p;refine sum_intListG (I.ok.hd hc) p λh' tk t' k=>⟨.int ns.sum,H,I.kept k,?_,q⟩;rw[preSum_eq,aK (by simp),hn];exact⟨_,rfl⟩
noncomputable def R5:Κ->Hp->VK->Prop:=λxs H Q=>∃(l:Addr)(ns:List Int),xs=[.ref l]/\H l=some (.lst (ns.map V.int))/\0<ns.length/\∀M,M∈ns->(∀a,a∈ns->a<=M)->Q (.int M) H
noncomputable def T3:Κ->Hp->VK->Prop:=λxs H Q=>∃(l:Addr)(ns:List Int),xs=[.ref l]/\H l=some (.lst (ns.map V.int))/\0<ns.length/\∀M,M∈ns->(∀a,a∈ns->M<=a)->Q (.int M) H
noncomputable def Yw(te ts:TE):TE:=λσ H Q=>te σ H λx H1=>ts σ H1 λy H2=>y=.int (-1)/\∃a xs,x=.ref a/\H2 a=some (.lst xs)/\∀p,H2 p=none->Q (.ref p) (upd H2 p (.lst xs.reverse))
end
section
variable{K:Frag}{tl:TE}{ta:TA}{g:TG}{tb:TS}{D:Ends}{σ:L2.St}{H:Hp}
theorem PJ(h:tl σ H λx H1=>∃a xs,x=.ref a/\H1 a=some (.lst xs)/\∃J:Nat->L2.St->Hp->Prop,J 0 σ H1 /\
   (∀k x σ' H',xs[k]?=some x->J k σ' H'->H' a=some (.lst xs)->g x σ' H' λσ2 H2=>tb { D with nx:=λσ3 H3=>H3 a=some (.lst xs)/\J (k+1) σ3 H3,ct:=λσ3 H3=>H3 a=some (.lst xs)/\J (k+1) σ3 H3,bk:=D.nx } σ2 H2) /\
   ∀σ' H',J xs.length σ' H'->H' a=some (.lst xs)->D.nx σ' H')(hm:∀(P Q:V->Hp->Prop),(∀x H',P x H'->Q x H')->tl σ H P->tl σ H Q):Lq (Ef K tl) g tb D σ H:=by
 refine hm _ _ ?_ h;rintro x H1 ⟨a,xs,rfl,hx,J,j0,step,fin⟩;refine⟨a,rfl,⟨xs,.of hx⟩,λk m σ' H'=>k<=xs.length/\m=xs.length-k/\H' a=some (.lst xs)/\J k σ' H',⟨_,bh _,rfl,hx,j0⟩,?_⟩;rintro k m σ' H' ⟨hk,rfl,hx',j⟩;by_cases e:k=xs.length
 .subst e;exact .inl ⟨⟨xs,.of hx',aF _⟩,fin σ' H' j hx'⟩
 .have hlt:k<xs.length:=by exact XX hk e
  have e1:xs[k]?=some xs[k]:=aj hlt;refine .inr ⟨⟨xs,_,.of hx',e1⟩,λσ3 H3=>H3 a=some (.lst xs)/\J (k+1) σ3 H3,λσ3 H3 ⟨z1,z2⟩=>⟨xs.length-(k+1),by omega,by exact hlt,rfl,z1,z2⟩,?_⟩;rintro x H'' ⟨rfl,y⟩;exact step k x σ' H'' (y xs (.of hx')) j hx'
theorem O_(h:ta σ H λvs H1=>∃n:Nat,vs=[.int n]/\n<2^61/\∃J:Nat->L2.St->Hp->Prop,J 0 σ H1 /\
   (∀(k:Nat)σ' H',k<n->J k σ' H'->g (.int k) σ' H' λσ2 H2=>tb { D with nx:=J (k+1),ct:=J (k+1),bk:=D.nx } σ2 H2)/\∀σ' H',J n σ' H'->D.nx σ' H')
 (hm:∀(P Q:Κ->Hp->Prop),(∀x H',P x H'->Q x H')->ta σ H P->ta σ H Q):Lq (Oq ta) g tb D σ H:=by
 refine hm _ _ ?_ h;rintro x H1 ⟨n,rfl,hn,J,j0,step,fin⟩;refine⟨n,rfl,by lia,by lia,?_⟩;rw[Int.toNat_natCast];refine⟨λk m σ' H'=>k<=n/\m=n-k/\J k σ' H',⟨_,bh _,rfl,j0⟩,?_⟩;rintro k m σ' H' ⟨hk,rfl,j⟩;by_cases e:k=n
 .subst e;exact .inl ⟨aF _,fin σ' H' j⟩
 .have hlt:k<n:=by exact XX hk e
  refine .inr ⟨hlt,J (k+1),λσ3 H3 z=>⟨n-(k+1),by omega,by exact hlt,rfl,z⟩,?_⟩;rintro x H'' ⟨rfl,rfl⟩;rw[Int.zero_add];exact step k σ' H'' hlt j
end
section
variable{X:Cx}
noncomputable def tM(t:TE):TE:=λσ H Q=>∃R:VK,t σ H R/\∀x H',R x H'->Q x H'
noncomputable def tMA(t:TA):TA:=λσ H Q=>∃R:Κ->Hp->Prop,t σ H R/\∀x H',R x H'->Q x H'
theorem PE.mono{a:Expr}{t:TE}(h:PE X a t):PE X a (tM t):=λpins s σ H Q I ⟨R,h1,h2⟩ =>
 thn (h pins s σ H R I h1) λv s' hP=>by obtain⟨x,H',I',r,q⟩:=hP;exact⟨x,H',I',r,h2 x H' q⟩
theorem PA.mono{es:List Expr}{t:TA}(h:PA X es t):PA X es (tMA t):=λpos pins s σ H Q I ⟨R,h1,h2⟩ =>
 thn (h pos pins s σ H R I h1) λv s' hP=>by obtain⟨x,H',I',r,q⟩:=hP;exact⟨x,H',I',r,h2 x H' q⟩
theorem PE.imp{a:Expr}{t t':TE}(h:PE X a t)(i:∀σ H Q,t' σ H Q->t σ H Q):PE X a t':=λpins s σ H Q I q=>h pins s σ H Q I (i σ H Q q)
theorem Yl{t:TE}{σ:L2.St}{H:Hp}{Q:VK}(h:t σ H Q):tM t σ H Q:=⟨Q,h,λ_ _ q=>q⟩
theorem d_{K:Frag}{tl:TE}{g:TG}{tb:TS}{D:Ends}{σ:L2.St}{H:Hp}(h:tl σ H λx H1=>∃a xs,x=.ref a/\H1 a=some (.lst xs)/\∃J:Nat->L2.St->Hp->Prop,J 0 σ H1 /\
   (∀k x σ' H',xs[k]?=some x->J k σ' H'->H' a=some (.lst xs)->g x σ' H' λσ2 H2=>tb { D with nx:=λσ3 H3=>H3 a=some (.lst xs)/\J (k+1) σ3 H3,ct:=λσ3 H3=>H3 a=some (.lst xs)/\J (k+1) σ3 H3,bk:=D.nx } σ2 H2) /\
   ∀σ' H',J xs.length σ' H'->H' a=some (.lst xs)->D.nx σ' H'):Lq (Ef K (tM tl)) g tb D σ H :=
 PJ (Yl h) λ_ _ i hP=>by obtain⟨R,a,b⟩:=hP;exact⟨R,a,λx H' q=>i x H' (b x H' q)⟩
theorem lU{ta:TA}{g:TG}{tb:TS}{D:Ends}{σ:L2.St}{H:Hp}(h:ta σ H λvs H1=>∃n:Nat,vs=[.int n]/\n<2^61/\∃J:Nat->L2.St->Hp->Prop,J 0 σ H1 /\
   (∀(k:Nat)σ' H',k<n->J k σ' H'->g (.int k) σ' H' λσ2 H2=>tb { D with nx:=J (k+1),ct:=J (k+1),bk:=D.nx } σ2 H2)/\∀σ' H',J n σ' H'->D.nx σ' H'):Lq (Oq (tMA ta)) g tb D σ H :=
 O_ (ta:=tMA ta) ⟨_,h,λ_ _ q=>q⟩ λ_ _ i hP=>by obtain⟨R,a,b⟩:=hP;exact⟨R,a,λx H' q=>i x H' (b x H' q)⟩
noncomputable def WM(to:TE)(t:TA):TE:=λσ H Q=>to σ H λx H1=>∃l xs,x=.ref l/\H1 l=some (.lst xs)/\t σ H1 λvs H2=>∃y ys,vs=[y]/\H2 l=some (.lst ys)/\ys.length<sizeLine/\Q .non (upd H2 l (.lst (ys++[y])))
theorem kY{o e:Expr}{to:TE}{t:TA}{apos cpos:Pos}(ho:PE X o to)(ha:PA X [e] t)(hb:attributeBase o "append" X.env (eval o X.env)=eval o X.env:=by rfl)
 (hf:((backTo cpos (starEach [e] X.env)).all (λx=>!x.1)&&(backToKw cpos (keywordEach [] X.env)).all (λx=>x.1.isSome)&&decide ([e].length+([] : List Keyword).length+(if([] : List Keyword).isEmpty then 0 else 1)<30))=true:=by rfl)
 (hl:(apos.endLine==cpos.line)=true:=by rfl)(hs:starEach [e] X.env=(false,eval e X.env)::starEach [] X.env:=by rfl)(hp:(backTo cpos (starEach [] X.env)).any (·.1)=false:=by rfl) :
  PE X (.Call (.Attribute o "append" apos) [e] [] cpos) (WM to t):=by
 refine(ab2 PySem.F.plainAttrs_list PySem.F.slot_list_append PySem.F.type_list_append Dz ho.mono ha.mono hb hf hl hs hp).imp λσ H Q h=>?_;refine⟨_,h,?_⟩;rintro x H1 ⟨l,xs,rfl,hx,h2⟩;refine⟨.inl ⟨rfl,_,SqL.of hx⟩,_,h2,?_⟩;rintro vs H2 ⟨y,ys,rfl,hy,hz,q⟩;exact⟨l,ys,y,rfl,rfl,hy,hz,q⟩
noncomputable def YJ(to:TE):TE:=λσ H Q=>to σ H λx H1=>∃l xs,x=.ref l/\H1 l=some (.lst xs)/\Q .non (upd H1 l (.lst []))
noncomputable def Hv:Κ->Hp->VK->Prop:=λxs H Q=>∃p ys,xs=[.ref p]/\H p=some (.lst ys)/\∀l,H l=none->Q (.ref l) (upd H l (.lst ys))
theorem uX:d8 X (.type "list") Hv:=Ew.imp λxs H Q hP=>by obtain⟨p,ys,a,b,c⟩:=hP;exact⟨p,ys,a,.inl (.of b),c⟩
end
mutual
theorem Ly:∀ns:List Int,PyData.canLayAll0 (ns.map PyData.int)=true
 |[]=>rfl
 |n::ns=>by
  rw[List.map_cons];unfold PyData.canLayAll0;rw[Ly ns];rfl
end
noncomputable def frD(f:Η):PyData:=.tuple [.int f.1,.int f.2]
inductive FL(H:Hp):Κ->Φ->Prop
 |nil:FL H [] []
 |cons {p:Addr}{f:Η}{xs:Κ}{fs:Φ} : H p=some (.tup [.int f.1,.int f.2])->FL H xs fs->FL H (.ref p::xs) (f::fs)
theorem FL.imp{H H':Hp}(h:∀p a b,H p=some (.tup [.int a,.int b])->H' p=some (.tup [.int a,.int b])):∀{xs:Κ}{fs:Φ},FL H xs fs->FL H' xs fs
 |_,_,.nil=>.nil
 |_,_,.cons e t=>.cons (h _ _ _ e) (FL.imp h t)
theorem FL.same{H H':Hp}(S:Same H H'){xs:Κ}{fs:Φ}(h:FL H xs fs):FL H' xs fs:=h.imp λp _ _ e=>S p _ e
theorem FL.append{H:Hp} : ∀{xs ys:Κ}{fs gs:Φ},FL H xs fs->FL H ys gs->FL H (xs++ys) (fs++gs)
 |_,_,_,_,.nil,h=>h
 |_,_,_,_,.cons e t,h=>.cons e (FL.append t h)
theorem FL.one{H:Hp}{p:Addr}{a b:Int}(h:H p=some (.tup [.int a,.int b])):FL H [.ref p] [(a,b)]:=.cons (f:=(a,b)) h .nil
noncomputable def Its(x:Str):It:=⟨λi _=>i<x.cps.size,λi H v H'=>H'=H/\∃c,x.cps[i]?=some c/\v=.str ⟨#[c]⟩,λi _=>i=x.cps.size⟩
theorem Jt{P:Program}{w:World}{K:Frag}{tg:Expr}(it:Addr)(x:Str)(t:Tok)(ty:String)(hty : ["enumerate", "zip", "dict_itemiterator", "dict_reverseitemiterator", "odict_iterator", "itertools.zip_longest", "itertools.pairwise"].contains ty=false)
 (W:∀A:Around,A.handled=none->Walks P w A it [it] [it] x.cps.size (SignAt x) (λi h=>h.IsStrIter it ty x t i))
 (hself:∀(A:Around)(i:Nat)(s:Shared)(Q:Ι)(E:Ι),s.heap.IsStrIter it ty x t i->Q (.ref it) s->wpAny (model P w) A (pyIter (.ref it)) Q E s):Turn P w K tg (Its x) [it] it (λi h=>h.IsStrIter it ty x t i) where
 mem:=by simp
 obj:=λi h st b hb=>by
  have e:b=it:=by simpa using hb
  subst e;obtain⟨o,ho,_,hd⟩:=st;exact⟨o,ho,λv z=>by rw[hd]at z;cases z⟩
 keep:=λi h h' st k=>let⟨o,ho,r⟩:=st;⟨o,k it (by simp) o ho,r⟩
 item:=by
  intro X hP hw hK hc i pins s σ H E I hf st hg;subst hP hw hK;obtain⟨f0,f1,f2,f3,f4,f5⟩:=hf it (by simp);refine(W X.A (I.ok.hd hc)).item i s _ _ hg st λv h' tk hv st' kk=>?_;obtain⟨c,u,hx,rfl⟩:=hv;have I1:Inv X pins σ H { s with heap:=h',toks:=tk }:=I.turned (λb o hb e=>kk b o (by simpa using hb) e) f0 f1 f3 f4 f5;obtain⟨o,ho,hcl,hd⟩:=id st';exact⟨_,rfl,Jd (s:={ s with heap:=h',toks:=tk }) ho hcl hd hty ⟨.str ⟨#[c]⟩,H,I1,⟨u,rfl⟩,⟨rfl,c,hx,rfl⟩,st',λb hb=>(hf b hb).1⟩⟩
 done:=by
  intro X hP hw hK hc i pins s σ H E I hf st hg;subst hP hw hK;obtain⟨f0,f1,f2,f3,f4,f5⟩:=hf it (by simp);have hg':i=x.cps.size:=hg;subst hg';exact(W X.A (I.ok.hd hc)).done s _ _ st λh' tk kk=>⟨rfl,I.turned (λb o hb e=>kk b o (by simpa using hb) e) f0 f1 f3 f4 f5⟩
 self:=hself
section
variable{X:Cx}{tg:Expr}
noncomputable def aaC(te:TE):TI:=λσ H R=>te σ H λv H1=>∃x,v=.str x/\R (Its x) H1
theorem Zq{l:Expr}{tl:TE}(hl:PE X l tl):PI X tg l (aaC tl):=by
 intro pins s σ H R I h;refine thn (hl pins s σ H _ I h) λv s1 hP=>?_;obtain⟨x,H1,I1,r1,y,ey,q⟩:=hP;subst ey;obtain⟨t,rfl⟩:=r1;have fp:∀b∈[s1.heap.objs.size],yK X pins H1 b:=λb hb=>by
  have e:b=s1.heap.objs.size:=by simpa using hb
  subst e;exact I1.fpOk (aF _) (I1.hok.fresh (aF _))
 have k:∀o:Obj,Inv X pins σ H1 { s1 with heap:=s1.heap.push o }:=λo=>I1.kept (t':=s1.toks) λb ob z=>aG _ z;cases ha:y.cps.all (· < 128)
 .exact wpAny_pyIter_wide ha ⟨s1.heap.objs.size,[s1.heap.objs.size],_,Its y,H1,rfl,k _,Jt _ y t "str_iterator" (by decide) (λA hA=>Walks.strWide hA _ y t) (λA i s Q E st h=>wpAny_pyIter_striter_wide st h),⟨_,aX _ rfl,rfl,rfl⟩,fp,q⟩
 .exact wpAny_pyIter_ascii ha ⟨s1.heap.objs.size,[s1.heap.objs.size],_,Its y,H1,rfl,k _,Jt _ y t "str_ascii_iterator" (by decide) (λA hA=>Walks.strAscii hA _ y t) (λA i s Q E st h=>wpAny_pyIter_striter_ascii st h),⟨_,aX _ rfl,rfl,rfl⟩,fp,q⟩
end
noncomputable def adB(x:Str)(lo hi:Option Int):Str:=⟨((x.cps.toList.drop (HT.sIx x.length 0 lo)).take (HT.sIx x.length x.length hi-HT.sIx x.length 0 lo)).toArray⟩
noncomputable def Yv:V->Option Int->Option Int->Hp->VK->Prop:=λx lo hi H Q=>∃y,x=.str y/\y.length<=sizeLine/\Q (.str (adB y lo hi)) H
noncomputable def Mw(tk tv:TE):TE:=λσ H Q=>∀p,H p=none->tk σ (upd H p (.dK [])) λx H1=>∃i,x=.str i/\tv σ H1 λy H2=>H2 p=some (.dK [])/\Q (.ref p) (upd H2 p (.dK [(.inr i,y)]))
section
variable{X:Cx}
noncomputable def M7:R2:=λx y H Q=>∃i j,x=.str i/\y=.str j/\i.length+j.length<=sizeLine/\Q (.str (i++j)) H
theorem Xe:OpR X (binaryOp .Add) M7:=La
noncomputable def Xw:R2:=λx y H Q=>∃i j,x=.str i/\y=.str j/\Q (.bl (!decide (j.cps.toList<i.cps.toList))) H
theorem RB:OpR X (compareOp .LtE) Xw:=by
 intro pins s σ H x y v u Q I rx ry h;obtain⟨i,j,rfl,rfl,q⟩:=h;obtain⟨t,rfl⟩:=rx;obtain⟨t',rfl⟩:=ry;exact PySem.P.le_str (cR I q rfl)
noncomputable def YW(neg:Bool):R2:=λx y H Q=>∃i j,x=.str i/\y=.str j/\∃c,i=⟨#[c]⟩/\Q (.bl (if neg then !decide (c∈j.cps.toList)else decide (c∈j.cps.toList))) H
theorem OpR.imp{f:Value->Value->Sem Value}{r r':R2}(h:OpR X f r)(i:∀x y H Q,r' x y H Q->r x y H Q):OpR X f r':=λpins s σ H x y v u Q I rx ry q=>h pins s σ H x y v u Q I rx ry (i _ _ _ _ q)
noncomputable def Tr:Κ->Hp->VK->Prop:=λxs H Q=>∃x n,xs=[.str x]/\x.length<=640/\PySem.intText? x=some n/\Q (.int n) H
theorem En:∀{bs:List Bool}{us:Ω},Vals (bs.map V.bl) us->∀(i:Nat)(v:Value),us[i]?=some v->∃b,bs[i]?=some b/\v=.bool b
 |[],_,.nil,i,v,h=>by cases i<;>cases h
 |b::bs,_,.cons r t,0,v,h=>by
  rw[List.getElem?_cons_zero]at h;cases h;exact⟨b,rfl,r⟩
 |b::bs,_,.cons r t,i+1,v,h=>by
  rw[List.getElem?_cons_succ]at h;exact En t i v h
noncomputable def Oz:Κ->Hp->VK->Prop:=λxs H Q=>∃(l:Addr)(bs:List Bool),xs=[.ref l]/\H l=some (.lst (bs.map V.bl))/\Q (.bl (bs.all id)) H
theorem qz:∀bs:List Bool,((List.range bs.length).all λi=>(bs[i]?).getD true)=bs.all id
 |[]=>rfl
 |b::bs=>by
  rw[List.length_cons,List.range_succ_eq_map,List.all_cons,List.all_map,List.all_cons];have:=qz bs;simp only[Function.comp_def,List.getElem?_cons_succ,List.getElem?_cons_zero,Option.getD_some,id]at this ⊢;rw[this]
theorem Qj(hc:X.calm=true):d8 X (.builtin "all") Oz:=by
 intro pins s σ H xs us Q I r h;obtain⟨l,bs,rfl,hl,q⟩:=h;obtain⟨u,rfl,ru⟩:=r.one;cases ru;obtain⟨its,rv,p⟩:=I.lstIs hl;have hlt:l<s.heap.objs.size:=by obtain⟨_,e,_⟩:=p;exact aJ e
 refine call_all_walk (wpAny_pyIter_list p ?_);refine⟨s.heap.objs.size,[s.heap.objs.size,l],[s.heap.objs.size],its.toArray.size,_,_,λi=>(bs[i]?).getD true,rfl,Walks.list (A:=X.A.in1) (I.ok.hd hc) _ l (aQ hlt) its.toArray,
  ⟨⟨_,aX _ rfl,rfl,rfl⟩,p.push _⟩,λi v s' Q' E' hP hQ=>?_,λh' tk hk=>?_⟩
 .obtain⟨b,e,rfl⟩:=En rv i v (by simpa using hP);simp only[e,Option.getD_some]at hQ;exact wpAny_truthy_bool hQ
 .have e:((List.range its.toArray.size).all λi=>(bs[i]?).getD true)=bs.all id:=by
   rw[aY,<- rv.length,ak];exact qz bs
  refine⟨.bl (bs.all id),H,I.kept (t':=tk) λb o q=>hk b o (λhm=>?_) (aG _ q),?_,q⟩
  .rw[YR.mp hm]at q;exact X1 _ (aJ q)
  .rw[e];rfl
noncomputable def G7:V->Κ->Hp->VK->Prop:=λx vs H Q=>∃a b,x=.str a/\vs=[.str b]/\Q (.bl (decide (0+b.length<=a.length)&&Builtin.Str.subAt a b 0)) H
noncomputable def aaW:List Nat->Int
 |i::_=>(i:Int)
 |[]=>-1
noncomputable def Ra:V->Κ->Hp->VK->Prop:=λx vs H Q=>∃a b,x=.str a/\vs=[.str b]/\Q (.int (aaW (Builtin.Str.occurrences a b 0 a.length 1))) H
noncomputable def K8:V->Κ->Hp->VK->Prop:=λx vs H Q=>∃a b,x=.str a/\vs=[.str b]/\1<=b.length/\a.length<sizeLine/\∀p,H p=none->Q (.ref p) (upd H p (.lst ((Txt.split a b).map V.str)))
noncomputable def tSM(r:V->Κ->Hp->VK->Prop)(to:TE)(t:TA):TE:=λσ H Q=>to σ H λx H1=>(∃y,x=.str y)/\t σ H1 λvs H2=>r x vs H2 Q
theorem Q9{x:Str}{v:V}{pos:Pos}(hg:Gl X x)(hm:∃u,X.mg x=some u/\RelV v u)(hd:(x==("__debug__" : Str))=false:=by decide):PE X (.Name x pos) (tC v):=by
 obtain⟨u,h1,h2⟩:=hm;exact FJ hg h1 h2 hd
noncomputable def Tw:R2:=λx y H Q=>∃i n,x=.str i/\y=.int n/\i.length=1/\0<=n/\n<=1000/\∀z:Str,z.length<=n.toNat+1->Q (.str z) H
theorem zW{st:Stmt}{t:TS}(h1:PSB X st t):Wb X [st] t:=⟨bM h1.out⟩
end
theorem cD.calm{P:Program}{w:World}{K:Frag}{mg:Str->Ε}{base:Heap}{k:Nat}{f:Addr}{fd:FuncData}{ps:Ξ}{sp:Sp}(F:cD P w K mg base (CXO P w) k f fd ps sp) :
  cD P w K mg base CX0 k f fd ps (λvs H Q _=>sp vs H Q λ_ _ _=>False):=by
 refine⟨λvs H Q E h=>F.len _ _ _ _ h,λA outer s H args us vs Q E hr e0 hb r h=>?_⟩;refine codeAny_mono (F.run A outer s H args us vs Q _ hr e0 hb r h) λres s' hs=>?_;cases res with
 |error e =>
  obtain⟨_,_,_,_,_,_,_,z⟩:=hs;exact z.elim
 |ok fl =>
  cases fl with
  |ret u=>exact hs
  |next=>exact hs
  |brk=>exact hs
  |cont=>exact hs
theorem OkX.calm{P:Program}{w:World}{K:Frag}{mg:Str->Ε}{base:Heap}{k:Nat}{x:Str}{ps:Ξ}{sp:Sp}(F:OkX P w K mg base k x ps sp) :
  OkF P w K mg base k x ps (λvs H Q _=>sp vs H Q λ_ _ _=>False):=by obtain⟨f,fd,a,b⟩:=F;exact⟨f,fd,a.calm,b⟩
noncomputable def hid(y:Str):Str:=Str.ofString "?" ++ y
noncomputable def Eh(xs:Ξ)(N:Ξ):Ξ:=N.map λy=>if y∈xs then hid y else y
noncomputable def Cx.compG(X:Cx)(N':Ξ)(scope:Scope)(xs:Ξ)(C:Addr)(s₀:Shared)(H₀:Hp)(ex:Β)(pn:Ψ):Cx :=
 { X with env:=compEnvC scope (xM X.env.cells scope.names []) C X.env,N:=xs++N',s₀:=s₀,H₀:=H₀,outer:=X.stack,ex:=ex,fn:=λ_=>false,pn:=pn,xe:=λ_ _=>False }
noncomputable def PTs(X:Cx)(ifs:List Expr)(tc:TT):Prop:=∀(pins:Ψ)(s:Shared)(σ:L2.St)(H:Hp)(Q:Bool->Hp->Prop),Inv X pins σ H s->tc σ H Q ->
 wpAny (model X.prog X.w) X.A (forIn ifs true λc r=>if r=true then do let ok <- isTrue c X.env (eval c X.env);pure (ForInStep.yield ok)else pure (ForInStep.yield r)) (λb s'=>∃H',Inv X pins σ H' s'/\Q b H') X.xe s
noncomputable def Lw:TT:=λ_ H Q=>Q true H
theorem fL{X:Cx} : PTs X [] Lw:=λ_ _ _ H _ I q=>wpAny_tests_nil ⟨H,I,q⟩
theorem Om{X:Cx}{c:Expr}{tc:TT}(h:PT X c tc):PTs X [c] tc:=λpins s σ H Q I q=>wpAny_tests_one (h pins s σ H Q I q)
noncomputable def ju(wi:TI)(n:Nat)(gt:TG)(tc:TT)(te:TE):TE:=λσ H Q=>wi σ H λJ H1=>∀D,H1 D=none->∃W:Nat->Nat->Κ->Hp->Prop,(∃m,W 0 m [] (upd H1 D (.lst [])))/\∀i m ys Hc,W i m ys Hc ->
 (J.stop i Hc/\Q (.ref D) Hc)\/(J.go i Hc/\∀x H',J.yld i Hc x H'->∀pre:L2.St,pre.length=n->gt x (pre++σ) H' λσ2 H2=>∃pre':L2.St,pre'.length=n/\σ2=pre'++σ/\tc σ2 H2 λb H3 =>
  match b with
  |true=>te σ2 H3 λy H4=>ys.length<sizeLine/\H4 D=some (.lst ys)/\∃m',m'<m/\W (i+1) m' (ys++[y]) (upd H4 D (.lst (ys++[y])))
  |false=>∃m',m'<m/\W (i+1) m' ys H3)
section
variable{X:Cx}{elt iter:Expr}{pos:Pos}{scope:Scope}{wi:TI}{te:TE}
theorem zQ{use:Option (Value->Sem Unit)}{post:Ι}{Qv:VK}{pins:Ψ}{s:Shared}{σ:L2.St}{H:Hp}{pp:Pos}{xs N':Ξ}{tg:Expr}{ifs:List Expr}{gt:TG}{tc:TT}(hc:X.calm=true)(hsh:Eh xs X.N=N')(hN:(xs++N').Nodup)(hkind:scope.kind=.function)(hcell:∀y∈scope.names,y.2≠.cell)(hnames:∀y∈scope.names,y.2=.local->scope.names.lookup y.1=some .local)
 (hfree:∀y∈scope.names,y.2=.free->X.env.kindOf y.1=some .cell\/X.env.kindOf y.1=some .free)(hloc:∀y∈X.N,y∉xs->(relabel scope X.env).names.lookup y≠some .local)(hq:∀y∈X.N,y∈xs->(relabel scope X.env).names.lookup (hid y)=none)(hi:PI X tg iter wi)
 (hg:∀C s₀ H₀ ex pn,PG (X.compG N' scope xs C s₀ H₀ ex pn) tg gt)(ht:∀C s₀ H₀ ex pn,PTs (X.compG N' scope xs C s₀ H₀ ex pn) ifs tc)(he:∀C s₀ H₀ ex pn,PE (X.compG N' scope xs C s₀ H₀ ex pn) elt te)(hs:∀z,foldedSetIterable iter X.env z=pure z)(I:Inv X pins σ H s)(h:ju wi xs.length gt tc te σ H Qv)
 (endC:∀(C D:Addr)(Hc:Hp)(s6:Shared)(m:Str->Ε)(fl:Flow),s6.heap.Ns C m->Inv X pins σ Hc s6->yK X pins Hc C->Qv (.ref D) Hc->compPost (model X.prog X.w) X.A X.xe use post (.ref D) C (.ok fl) s6) :
  wpAny (model X.prog X.w) X.A (comprehension (.ListComp elt [⟨tg,iter,ifs,0⟩] scope pos) scope X.env pp (newList []) false (eval iter X.env) use) post X.xe s:=by
 have hfr:∀y∈scope.names,y.2=.free->∃c,X.env.cells.lookup y.1=some c:=λy hy e=>I.ok.has y.1 (hfree y hy e);refine wpAny_comprehension_free (use:=use) (Q:=post) rfl hs (Kw hfr) hkind hnames (thn (hi pins s σ H _ I h) λv s1 h1=>thn h1 λitv s2 h2=>?_);obtain⟨it,fp,tn,J,H2,e,I2,T,st2,f2,R⟩:=h2;subst e;have nD:H2 s2.heap.objs.size=none:=I2.hok.fresh (aF _);obtain⟨W,⟨m0,w0⟩,turn⟩:=R s2.heap.objs.size nD;refine wpAny_newObj_type ?_ (by show 0<=sizeLine;exact bh _);have I3:Inv X pins σ (upd H2 s2.heap.objs.size (.lst [])) { s2 with heap:=s2.heap.push { cls:=.type "list",dict:=none,data:=.seq ([] : Ω).toArray } }:=I2.lnew (t':=s2.toks) (ys:=[]) (its:=[]) .nil (bh _);have oldT:∀b o,s2.heap.get? b=some o->(s2.heap.push { cls:=.type "list",dict:=none,data:=.seq ([] : Ω).toArray }).get? b=some o:=λb o e=>aG _ e;generalize hs3:({ s2 with heap:=s2.heap.push { cls:=.type "list",dict:=none,data:=.seq ([] : Ω).toArray } } : Shared)=s3 at I3 ⊢;have st3:tn 0 s3.heap:=T.keep _ _ _ st2 λb _ o e=>by rw[<- hs3];exact oldT b o e
 generalize hH3:upd H2 s2.heap.objs.size (.lst [])=H3 at I3 w0;have f3:∀b∈fp,yK X pins H3 b:=λb hb=>by
  obtain⟨a1,a2⟩:=f2 b hb;refine⟨?_,a2⟩;obtain⟨o,e,_⟩:=T.obj _ _ st2 b hb;rw[<- hH3,bL (aQ (aJ e))];exact a1
 refine wpAny_newFunctionEnv hcell (by intro y hy;simp at hy) (λg hns hsb=>?_) hkind;have kg:∀b o,s3.heap.get? b=some o->g.get? b=some o:=λb o e=>(hsb.2 b (aQ (aJ e))).trans (aG _ e);have clm:∀{y:Str}{c:Addr},(xM X.env.cells scope.names []).lookup y=some c->X.env.cells.lookup y=some c:=λ{y c}e=>by
  rcases Ih hfr (PySem.mem_of_lookup e)with z|z
  .cases z
  .exact z
 have kinds:∀{y:Str},((relabel scope X.env).names.lookup y=some .cell\/(relabel scope X.env).names.lookup y=some .free)->(X.env.kindOf y=some .cell\/X.env.kindOf y=some .free)/\∃c,(xM X.env.cells scope.names []).lookup y=some c:=λ{y}e=>by
  have z:=wI e hcell;obtain⟨c,hc'⟩:=JK (cells:=X.env.cells) (acc:=[]) (.inl z);exact⟨hfree _ z rfl,mK hc'⟩
 have lt3:∀b∈fp,b<s3.heap.objs.size:=λb hb=>by
  obtain⟨o,e,_⟩:=T.obj _ _ st3 b hb;exact aJ e
 have nst:∀b∈fp,b∉frs X.stack:=λb hb=>I3.nostk' (f3 b hb).2.1 (f3 b hb).2.2.1;generalize hX:X.compG N' scope xs s3.heap.objs.size s3 H3 fp (X.pn++pins)=Y;have ok':Y.Ok:=by
  subst hX;exact⟨I3.ok.mod,hkind,I3.ok.glob,I3.ok.blt,aF _,λy z c h1 h2=>I3.ok.inj y z c (clm h1) (clm h2),λy hy=>(kinds hy).2,λ_ _ z=>(nomatch z),I3.ok.hd,I3.ok.frames,.inl rfl,
   λb hb=>⟨aQ (lt3 b hb),λy c e=>(f3 b hb).2.2.2.2.1 y c (clm e)⟩,I3.bs,aL I3.ok.bsz I3.sz,λb o e hb=>by
    rcases(f3 b hb).2.2.2.1 with z|z
    .exact I3.ok.noex b o e z
    .exact absurd (aR (aR (aJ e) I3.ok.bsz) z) (X1 _),nst,I3.stack,I3.stkFree⟩
 have J4:∀tk,Inv Y [] (List.replicate xs.length none++σ) H3 { s3 with heap:=g,toks:=tk }:=λtk=>by
  subst hX;refine⟨ok',rfl,I3.bare,Un.kept kg,⟨_,hns,λi y v e1 e2 e3=>?_⟩,λy c e=>?_,I3.hok.fresh (aF _),λy c e=>I3.freeC y c (clm e),λp hp=>?_,I3.hok.kept kg,?_⟩
  .by_cases hin:i<xs.length
   .rw[aD (by rw[aM];exact hin),List.getElem?_replicate,ZY hin]at e2;cases e2
   .obtain⟨j,rfl⟩ : ∃j,i=xs.length+j:=⟨i-xs.length,by lia⟩;have e0:N'[j]?=some y:=by
     have e1:(xs++N')[xs.length+j]?=some y:=e1;rw[aC (XG _ _)]at e1;rw[show xs.length+j-xs.length=j by exact Nat.add_sub_cancel_left _ _]at e1;exact e1
    have e2':σ[j]?=some (some v):=by
     rw[aC (by rw[aM];exact XG _ _),aM]at e2;rw[show xs.length+j-xs.length=j by exact Nat.add_sub_cancel_left _ _]at e2;exact e2
    rw[<- hsh]at e0;obtain⟨y0,e1',ey⟩ : ∃y0,X.N[j]?=some y0/\(if y0∈xs then hid y0 else y0)=y:=by
     unfold Eh at e0;rw[aq]at e0;cases hz:X.N[j]? with
     |none=>rw[hz]at e0;cases e0
     |some y0=>rw[hz]at e0;exact⟨y0,rfl,Option.some.inj e0⟩
    have e3:(relabel scope X.env).names.lookup y=some .local\/(relabel scope X.env).names.lookup y=some .cell\/(relabel scope X.env).names.lookup y=some .free:=e3;have ne:¬y0∈xs:=λz=>by
     rw[ZY z]at ey;subst ey;rw[hq y0 (aB e1') z]at e3;rcases e3 with z|z|z<;>cases z
    rw[ZZ ne]at ey;subst ey;have e3':(relabel scope X.env).names.lookup y0=some .cell\/(relabel scope X.env).names.lookup y0=some .free:=by
     rcases e3 with z|z
     .exact absurd z (hloc y0 (aB e1') ne)
     .exact z
    obtain⟨kd,c,hcl⟩:=kinds e3';obtain⟨m,_,hl⟩:=I3.loc;obtain⟨u,r,lk⟩:=hl j y0 v e1' e2' (.inr kd);refine⟨u,r,.inr ⟨e3',c,hcl,?_⟩⟩;rcases lk with⟨k1,_⟩|⟨_,c',q1,o,q2,q3⟩
    .exfalso;have k1':X.env.kindOf y0=some .local:=k1;rcases kd with k2|k2<;>rw[k1']at k2<;>cases k2
    .rw[clm hcl]at q1;cases q1;exact⟨o,kg _ _ q2,q3⟩
  .obtain⟨v,o,q2,q3⟩:=I3.cell y c (clm e);exact⟨v,o,kg _ _ q2,q3⟩
  .have hp':p∈X.pn++pins:=by simpa[Cx.compG]using hp
   obtain⟨a1,a2,a3,a4,a5⟩:=I3.pin p hp';exact⟨kg _ _ a1,a2,aQ (aJ a1),I3.nostk' a3 a4,a5⟩
  .show(List.replicate xs.length none++σ).length=(xs++N').length;have hln:N'.length=X.N.length:=by rw[<- hsh];unfold Eh;rw[ak]
   rw[aA,aM,aA,I3.len,hln]
 have fpY:∀{Hc:Hp},(∀b∈fp,Hc b=none)->∀b∈fp,yK Y [] Hc b:=λ{Hc}hn b hb=>by
  subst hX;exact⟨hn b hb,aQ (lt3 b hb),nst b hb,.inl hb,λy c e=>(f3 b hb).2.2.2.2.1 y c (clm e),λp hp=>(f3 b hb).2.2.2.2.2 p (by simpa[Cx.compG]using hp)⟩
 have loop:∀s4:Shared,s4={ s3 with heap:=g,toks:=s3.toks+([] : List (Str×Value)).length } ->
   codeAny (model X.prog X.w) X.A (.compLoop (.ListComp elt [⟨tg,iter,ifs,0⟩] scope pos) 0 (.ref it) (.ref s2.heap.objs.size) Y.env) (compPost (model X.prog X.w) X.A X.xe use post (.ref s2.heap.objs.size) s3.heap.objs.size) s4:=by
  rintro s4 rfl;have YP:Y.prog=X.prog/\Y.w=X.w/\Y.K=X.K/\Y.calm=X.calm/\Y.A=X.A/\Y.env.locals=s3.heap.objs.size:=by subst hX;exact⟨rfl,rfl,rfl,rfl,rfl,rfl⟩
  obtain⟨y1,y2,y3,y4,y5,y6⟩:=YP;have he':PE Y elt te:=by subst hX;exact he _ _ _ _ _
  have hg':PG Y tg gt:=by subst hX;exact hg _ _ _ _ _
  have ht':PTs Y ifs tc:=by subst hX;exact ht _ _ _ _ _
  have xeY:Y.xe=λ_ _=>False:=by subst hX;rfl
  have yb:∀{Hc:Hp}{w':L2.St}{pn:Ψ}{s':Shared},Inv Y pn w' Hc s'->Un (frs X.stack) fp H3 Hc s3.heap s'.heap:=λ{Hc w' pn s'}Z=>by
   have:=Z.base;subst hX;exact this
  have yos:∀{Hc:Hp}{w':L2.St}{pn:Ψ}{s':Shared},Inv Y pn w' Hc s'->s'.os=s3.os:=λ{Hc w' pn s'}Z=>by
   have:=Z.os;subst hX;exact this
  refine codeAny_loop rfl (λn s'=>∃i ys Hc,∃w':L2.St,w'.length=xs.length/\Inv Y [] (w'++σ) Hc s'/\tn i s'.heap/\(∀b∈fp,Hc b=none)/\W i n ys Hc) (λn s5 hI=>?_) m0 ⟨0,[],H3,List.replicate xs.length none,aM,J4 _,T.keep _ _ _ st3 λb _ o e=>kg b o e,λb hb=>(f3 b hb).1,w0⟩;obtain⟨i,ys,Hc,w',hw',Z,stc,frc,wc⟩:=hI;show wpAny _ _ ((compTurn (.ListComp elt [⟨tg,iter,ifs,0⟩] scope pos) 0 (.ref it) (.ref s2.heap.objs.size) Y.env).onRaise (λz=>do noteFrame z Y.env;theTreesLotGoes z)) _ _ s5;refine wpAny_noted (wpAny_noRaise ?_);rw[compTurn_list];show wpAny (model X.prog X.w) X.A _ _ _ _;rcases turn i n ys Hc wc with⟨stop,qn⟩|⟨go,step⟩
  .have hd:=T.done Y y1 y2 y3 (y4.trans hc) i [] s5 (w'++σ) Hc (λ_ _=>False) Z (fpY frc) stc stop;rw[y5]at hd;refine ZU (wpAny_standAt (ZU (thn hd λr s6 hP=>?_)));obtain⟨hr,Z6⟩:=hP;subst hr;refine ZT ?_;obtain⟨m,hn6,_⟩:=Z6.loc;rw[y6]at hn6;have u6:=yb Z6;have hok:HOk X.prog X.w Hc s6.heap:=by
    have z:=Z6.hok;rw[y1,y2]at z;exact z
   have cn:Hc s3.heap.objs.size=none:=by
    have z:=Z6.free;rw[y6]at z;exact z
   have I6:Inv X pins σ Hc s6:=I3.call' (s':=s6) (ch:=fp) (yos Z6) u6 hok Z6.bare λb hb=>⟨(f3 b hb).2.2.2.1,(f3 b hb).2.1,(f3 b hb).2.2.2.2.1,(f3 b hb).2.2.2.2.2⟩;have fC:yK X pins Hc s3.heap.objs.size:=I3.fpOk (aF _) cn;exact endC _ _ Hc s6 m _ hn6 I6 fC qn
  .have hd:=T.item Y y1 y2 y3 (y4.trans hc) i [] s5 (w'++σ) Hc (λ_ _=>False) Z (fpY frc) stc go;rw[y5]at hd;refine ZU (wpAny_standAt (ZU (thn hd λr s6 hP=>?_)));obtain⟨u,hr,h6⟩:=hP;subst hr;refine ZU (thn h6 λ_ s7 hP=>?_);obtain⟨xv,H7,Z7,r7,yl,st7,fr7⟩:=hP;have Z7':=Z7.pinned (fpY fr7) (T.obj _ _ st7);have hst:=hg' _ s7 _ H7 xv u _ Z7' r7 (step xv H7 yl w' hw');rw[y1,y2,y5,xeY]at hst;refine ZU (thn hst λ_ s8 hP=>?_);obtain⟨σ8,H8,Z8,pre,hpre,e8,q8⟩:=hP;subst e8;have hte:=ht' _ s8 _ H8 _ Z8 q8;rw[y1,y2,y5,xeY]at hte;have fin:∀{m':Nat}{ys':Κ}{H9:Hp}{s9:Shared},Inv Y ([]++zT fp s7.heap) (pre++σ) H9 s9->m'<n->W (i+1) m' ys' H9->∃m,m<n/\∃i ys Hc,∃w':L2.St,w'.length=xs.length/\Inv Y [] (w'++σ) Hc s9/\tn i s9.heap/\(∀b∈fp,Hc b=none)/\W i m ys Hc:=λ{m' ys' H9 s9}Z9 hm' w9 =>
    ⟨m',hm',i+1,ys',H9,pre,hpre,Z9.unpinned,T.keep _ _ _ st7 λb hb o e=>(Z9.pin (b,o) (aP _ (aP _ (lW hb e)))).1,λb hb=>by
     obtain⟨o,e,_⟩:=T.obj _ _ st7 b hb;exact(Z9.pin (b,o) (aP _ (aP _ (lW hb e)))).2.1,w9⟩
   refine ZU (thn hte λok s9 hP=>?_);obtain⟨H9,Z9,q9⟩:=hP;cases ok with
   |false =>
    obtain⟨m',hm',w9⟩:=q9;exact ZT ⟨rfl,fin Z9 hm' w9⟩
   |true =>
    have hel:=he' _ s9 _ H9 _ Z9 q9;rw[y1,y2,y5,xeY]at hel;refine ZU (ZU (thn hel λev s10 hP=>?_));obtain⟨yv,H10,Z10,r10,hz,hD10,m',hm',w10⟩:=hP;have hap:=Dz (X:=Y) _ s10 _ H10 (.ref s2.heap.objs.size) [yv] (.ref s2.heap.objs.size) [ev] (λ_ Hf=>Hf=upd H10 s2.heap.objs.size (.lst (ys++[yv]))) Z10 rfl (.cons r10 .nil) ⟨_,ys,yv,rfl,rfl,hD10,hz,rfl⟩;rw[y1,y2,y5,xeY]at hap;refine ZU (thn hap λav s11 hP=>?_);obtain⟨_,H11,Z11,_,e11⟩:=hP;subst e11;exact ZT (ZT ⟨rfl,fin Z11 hm' w10⟩)
 have henv:Y.env=compEnvC scope (xM X.env.cells scope.names []) s3.heap.objs.size X.env:=by subst hX;rfl
 rw[henv]at loop;exact codeAny_compStart_list (loop _ rfl) (T.self _ 0 _ _ _ (T.keep _ _ _ st3 λb _ o e=>kg b o e) (loop _ rfl))
theorem Sq{xs N':Ξ}{tg:Expr}{ifs:List Expr}{gt:TG}{tc:TT}(hc:X.calm=true)(hsh:Eh xs X.N=N')(hN:(xs++N').Nodup)(hkind:scope.kind=.function)(hcell:∀y∈scope.names,y.2≠.cell)(hnames:∀y∈scope.names,y.2=.local->scope.names.lookup y.1=some .local)
 (hfree:∀y∈scope.names,y.2=.free->X.env.kindOf y.1=some .cell\/X.env.kindOf y.1=some .free)(hloc:∀y∈X.N,y∉xs->(relabel scope X.env).names.lookup y≠some .local)(hq:∀y∈X.N,y∈xs->(relabel scope X.env).names.lookup (hid y)=none)(hi:PI X tg iter wi)
 (hg:∀C s₀ H₀ ex pn,PG (X.compG N' scope xs C s₀ H₀ ex pn) tg gt)(ht:∀C s₀ H₀ ex pn,PTs (X.compG N' scope xs C s₀ H₀ ex pn) ifs tc)(he:∀C s₀ H₀ ex pn,PE (X.compG N' scope xs C s₀ H₀ ex pn) elt te)(hs:∀z,foldedSetIterable iter X.env z=pure z:=by intro _;rfl) :
  PE X (.ListComp elt [⟨tg,iter,ifs,0⟩] scope pos) (ju wi xs.length gt tc te):=by
 intro pins s σ H Q I h;rw[eval_ListComp];exact zQ hc hsh hN hkind hcell hnames hfree hloc hq hi hg ht he hs I h λC D Hc s6 m fl hn I6 fC q=>⟨m,hn,λh' hs'=>⟨.ref D,Hc,I6.turned (it:=C) (h':=h') (t':=s6.toks) (λb o hb e=>(hs'.2 b hb).trans e) fC.1 fC.2.1 fC.2.2.2.1 fC.2.2.2.2.1 fC.2.2.2.2.2,rfl,q⟩⟩
end
section
variable{X:Cx}{k:Nat}{f C:Addr}{fd:FuncData}{ps:Ξ}{sp:Sp}{dvs:Κ}{ds:Ω}{x m:Str}{p pos apos:Pos}{e o:Expr}{es:List Expr}{ta:TE}{t:TA}{Ex:Value->Ζ->L2.St->Hp->Prop}
noncomputable def Zr(C:Addr)(sp:Sp)(dvs:Κ)(Ex:Value->Ζ->L2.St->Hp->Prop)(t:TA):TE:=λσ H Q=>t σ H λvs H1=>∀x dx,H1 x=none->H1 dx=none->dx≠x->sp (.ref x::(vs++dvs)) (upd (upd H1 dx (.own x)) x (.ins C dx [])) (λv H2=>v=.non/\Q (.ref x) H2) λC d H'=>Ex C d σ H'
theorem Ov{pins:Ψ}{σ:St}{H:Hp}{s:Shared}{Q:VK}{us:Ω}{vs:Κ}(F:cD X.prog X.w X.K X.mg X.base (CXO X.prog X.w) k f fd ps sp)(hr:eU k X.A)(hb:Binds X.K fd ps ds)(hd:Vals dvs ds)(hx:BZ X Ex)
 (I:Inv X pins σ H s)(r:Vals vs us)(h:sp (vs++dvs) H Q λC d H'=>Ex C d σ H'):wpAny (model X.prog X.w) X.A (call (.ref f) us) (EP X pins σ Q) X.xe s:=by
 have r2:Vals (vs++dvs) (us++ds):=r.append hd;have hl:(us++ds).length=ps.length:=by rw[<- r2.length];exact F.len _ _ _ _ h
 refine wpAny_call (codeAny_mono (F.run X.A X.stack s H ⟨us,[]⟩ (us++ds) (vs++dvs) Q _ hr I.env0 (hb s us I.kIn hl) r2 h) λr s' hq=>?_);cases r with
 |error e =>
  obtain⟨a,C,d,H',B,rfl,Fl,q'⟩:=hq;exact hx pins σ H s a C H' s' B d I Fl q'
 |ok fl =>
  cases fl with
  |ret u=>exact I.after hq
  |next=>exact False.elim hq
  |brk=>exact False.elim hq
  |cont=>exact False.elim hq
theorem QH{pins:Ψ}{σ:St}{H:Hp}{s:Shared}{Q:VK}{us:Ω}{vs:Κ}(M:Mk X.K C f)(F:cD X.prog X.w X.K X.mg X.base (CXO X.prog X.w) k f fd ps sp)(hr:eU (k+1) X.A)(hb:Binds X.K fd ps ds)(hd:Vals dvs ds)
 (hx:BZ X Ex)(I:Inv X pins σ H s)(r:Vals vs us)
 (h:∀x dx,H x=none->H dx=none->dx≠x->sp (.ref x::(vs++dvs)) (upd (upd H dx (.own x)) x (.ins C dx [])) (λv H2=>v=.non/\Q (.ref x) H2) λC d H'=>Ex C d σ H') :
  wpAny (model X.prog X.w) X.A (call (.ref C) us) (EP X pins σ Q) X.xe s:=by
 have hq:=h (s.heap.objs.size+1) s.heap.objs.size (I.hok.fresh (Xs _)) (I.hok.fresh (aF _)) (aQ (Nat.lt_succ_self _));have I2:=Inv.made (C:=C) I;have r2:Vals (V.ref (s.heap.objs.size+1)::(vs++dvs)) (Value.ref (s.heap.objs.size+1)::(us++ds)):=.cons rfl (r.append hd);have hl:(Value.ref (s.heap.objs.size+1)::us++ds).length=ps.length:=by
  have e:=r2.length;rw[F.len _ _ _ _ hq]at e;exact e.symm
 refine wpAny_call (Rh (f:=f) I.kIn M.makes M.init (beq_iff_eq.mp M.fn) (codeAny_mono (F.run _ X.stack _ _ ⟨Value.ref (s.heap.objs.size+1)::us,[]⟩ (Value.ref (s.heap.objs.size+1)::(us++ds)) _ _ _ (hr.make C us [])
  (I2.env0.make C us []) (hb _ (Value.ref (s.heap.objs.size+1)::us) I2.kIn hl) r2 hq) λr s' hq'=>?_))
 cases r with
 |error e =>
  obtain⟨a,C,d,H',B,rfl,Fl,q'⟩:=hq';exact hx pins σ _ _ a C H' s' B d I2 Fl q'
 |ok fl =>
  cases fl with
  |ret u =>
   obtain⟨v,H',I3,rv,ev,q3⟩:=I2.after hq';subst ev;exact⟨rv,⟨V.ref (s.heap.objs.size+1),H',I3,rfl,q3⟩⟩
  |next=>exact False.elim hq'
  |brk=>exact False.elim hq'
  |cont=>exact False.elim hq'
theorem U6(M:Mk X.K C f)(F:cD X.prog X.w X.K X.mg X.base (CXO X.prog X.w) k f fd ps sp)(hr:eU (k+1) X.A)(hg:Gl X x)(hm:X.mg x=some (.ref C))(hb:Binds X.K fd ps ds)(hd:Vals dvs ds)(hx:BZ X Ex)
 (ha:PA X (e::es) t)(hdb:(x==("__debug__" : Str))=false:=by decide)(he:starEach (e::es) X.env=(false,eval e X.env)::starEach es X.env:=by rfl)(hpl:(backTo pos (starEach es X.env)).any (·.1)=false:=by rfl) :
  PE X (.Call (.Name x p) (e::es) [] pos) (Zr C sp dvs Ex t):=by
 intro pins s σ H Q I h;refine wpAny_Call_Name_kw (lH I hg hm ?_ hdb);refine callWith_K (h₀:=X.base) I.ok.mod.kin M.kp (thn (ha pos pins s σ H _ I h) λus s1 ⟨vs,H1,I1,r,q⟩=>⟨I1.kIn,?_⟩) he hpl;exact QH M F hr hb hd hx I1 r q
end
structure DW(K:Frag)(B:Addr)(m:Str)(f:Addr):Prop where
 ga:specialIn K (.ref B) "__getattribute__" = some (some (.builtin "type.__getattribute__"))
 rd:readsIn K B (.type "type")=true
 at_:findCls K (.ref B) (.type "type") m=some (.val (.ref f))
 hd:handedIn (.ref f)=true
 kp:keepIn K (.ref f)=true
section
variable{X:Cx}{k:Nat}{f B:Addr}{fd:FuncData}{ps:Ξ}{sp:Sp}{dvs:Κ}{ds:Ω}{x m:Str}{p pos apos:Pos}{e:Expr}{es:List Expr}{t:TA}{Ex:Value->Ζ->L2.St->Hp->Prop}
theorem DW.get{pins:Ψ}{σ:L2.St}{H:Hp}{s:Shared}{pl:Sem Bool}{A:Around}{E:Ι}{Q:Value×Ω->Shared->Prop}(c:DW X.K B m f)(I:Inv X pins σ H s)(h:∀t,Q (.ref f,[]) { s with toks:=t }) :
  wpAny (model X.prog X.w) A (getMethod (.ref B) m pl) Q E s :=
 method_cls I.kIn c.ga (cls_value I.kIn c.rd c.at_ c.hd (h _))
theorem Td{pl:Sem Bool}(c:DW X.K B m f)(F:cD X.prog X.w X.K X.mg X.base (CXO X.prog X.w) k f fd ps sp)(hr:eU k X.A)(hg:Gl X x)(hm:X.mg x=some (.ref B))(hb:Binds X.K fd ps [])(hx:BZ X Ex)(ha:PA X (e::es) t)(hdb:(x==("__debug__" : Str))=false:=by decide)
 (hst:starEach (e::es) X.env=(false,eval e X.env)::starEach es X.env:=by rfl)(hpl:(backTo pos (starEach es X.env)).any (·.1)=false:=by rfl)
 (ht:eval (.Call (.Attribute (.Name x p) m apos) (e::es) [] pos) X.env=(do
   let ov <- eval (.Name x p) X.env
   standAt apos.atName
   let(f,first) <- holding [ov] (getMethod ov m pl)
   callWith pos f first (backTo pos (starEach (e::es) X.env)) (backToKw pos (keywordEach [] X.env))):=by rfl) :
  PE X (.Call (.Attribute (.Name x p) m apos) (e::es) [] pos) (xu sp Ex t):=by
 intro pins s σ H Q I h;refine methodCall_KW (pl:=pl) (lH I hg hm (c.get I λtk=>?_) hdb) ht;refine callWith_K (first:=[]) (h₀:=X.base) I.ok.mod.kin c.kp (thn (ha pos pins _ σ H _ (I.tok tk) h) λus s2 ⟨vs,H2,I2,r,q2⟩=>⟨I2.kIn,?_⟩) hst hpl;exact Ov (us:=us) (vs:=vs) F hr hb .nil hx I2 r (by rw[List.append_nil];exact q2)
end
section
variable{κ:Type}[DecidableEq κ]
noncomputable def kW(kvs:List (κ×V))(k:κ):Option V:=(kvs.find? λkv=>decide (kv.1=k)).map (·.2)
noncomputable def putK(kvs:List (κ×V))(k:κ)(v:V):List (κ×V) :=
 if(kvs.any λkv=>decide (kv.1=k))=true then kvs.map (λkv=>if kv.1=k then(kv.1,v)else kv)else kvs++[(k,v)]
theorem wM{p:κ×V}{r:List (κ×V)}{k:κ}(e:p.1=k):kW (p::r) k=some p.2:=by simp[kW,List.find?_cons,e]
theorem wL{p:κ×V}{r:List (κ×V)}{k:κ}(e:¬p.1=k):kW (p::r) k=kW r k:=by simp[kW,List.find?_cons,e]
theorem Jj(kvs:List (κ×V))(k:κ)(v:V):(putK kvs k v).length<=kvs.length+1:=by
 unfold putK;split
 .rw[ak];exact Xs _
 .rw[aA,List.length_cons,List.length_nil];exact aF _
theorem qZ.isSome_eq{o:Option V}{u:Ε}(r:qZ o u):o.isSome=u.isSome:=by
 cases o with
 |none=>cases u with
  |none=>rfl
  |some _=>exact(show False from r).elim
 |some _=>cases u with
  |none=>exact(show False from r).elim
  |some _=>rfl
theorem qZ.getD{o:Option V}{u:Ε}{d:V}{d':Value}(r:qZ o u)(rd:RelV d d'):RelV (o.getD d) (u.getD d'):=by
 cases o with
 |none=>cases u with
  |none=>exact rd
  |some _=>exact(show False from r).elim
 |some _=>cases u with
  |none=>exact(show False from r).elim
  |some _=>exact r
theorem KV.val{kvs:List (κ×V)}{vs:List (κ×Value)}(r:KV kvs vs)(k:κ):qZ (kW kvs k) (valueAt vs k):=by
 unfold KV at r
 induction r with
 |nil=>exact True.intro
 |@cons p q ps qs h t ih =>
  obtain⟨h1,h2⟩:=h;by_cases e:p.1=k
  .have e':q.1=k:=h1.symm.trans e;have b:valueAt (q::qs) k=some q.2:=by simp[valueAt,List.find?_cons,e']
   rw[wM e,b];exact h2
  .have e':¬q.1=k:=λz=>e (h1.trans z);have b:valueAt (q::qs) k=valueAt qs k:=by simp[valueAt,List.find?_cons,e']
   rw[wL e,b];exact ih
theorem KV.any{kvs:List (κ×V)}{vs:List (κ×Value)}(r:KV kvs vs)(k:κ):(kvs.any λkv=>decide (kv.1=k))=vs.any λkv=>decide (kv.1=k):=by
 unfold KV at r
 induction r with
 |nil=>rfl
 |cons h t ih=>rw[List.any_cons,List.any_cons,ih,h.1]
theorem KV.repl{kvs:List (κ×V)}{vs:List (κ×Value)}(r:KV kvs vs)(k:κ){y:V}{u:Value}(ry:RelV y u) :
  KV (kvs.map λkv=>if kv.1=k then(kv.1,y)else kv) (vs.map λkv=>if kv.1=k then(kv.1,u)else kv):=by
 unfold KV at r ⊢
 induction r with
 |nil=>exact .nil
 |@cons p q ps qs h t ih =>
  rw[List.map_cons,List.map_cons];refine .cons ?_ ih;obtain⟨h1,h2⟩:=h;by_cases e:p.1=k
  .rw[ZY e,ZY (h1.symm.trans e)];exact⟨h1,ry⟩
  .rw[ZZ e,ZZ (λz=>e (h1.trans z))];exact⟨h1,h2⟩
theorem KV.put{kvs:List (κ×V)}{vs:List (κ×Value)}(r:KV kvs vs)(k:κ){y:V}{u:Value}(ry:RelV y u):KV (putK kvs k y) (stored vs k u):=by
 unfold putK stored;rw[r.any k];by_cases e:(vs.any λkv=>decide (kv.1=k))=true
 .rw[ZY e,ZY e];exact r.repl k ry
 .rw[ZZ e,ZZ e];exact Paired.snoc r ⟨rfl,ry⟩
theorem KV.length{kvs:List (κ×V)}{vs:List (κ×Value)}(r:KV kvs vs):kvs.length=vs.length:=Paired.length r
end
theorem JD{P:Program}{w:World}{k:Key}{u:Value}(r:RelV (kV k) u):(fY P w).is k u=true:=by
 cases k with
 |inl i=>obtain⟨t,e⟩:=(show ∃t,u=Value.int i t from r);subst e;exact Ir P w i t
 |inr x=>obtain⟨t,e⟩:=(show ∃t,u=Value.str x t from r);subst e;exact Ig P w x t
section
variable{P:Program}{w:World}{H:Hp}{h:Heap}{a:Addr}
theorem abA{u:HO}(ok:HOk P w H h)(e:Rd H a u):cV P w H h a u:=e.ok ok
theorem BW{kvs:List (Key×V)}(ok:HOk P w H h)(e:Rd H a (.dK kvs)):kvs.length<=sizeLine/\(a==sysModules)=false/\∃vs,KV kvs vs/\h.DictOf (fY P w) a vs :=
 show cV P w H h a (.dK kvs)from abA ok e
theorem aar{kvs:List (Key×V)}(ok:HOk P w H h)(e:H a=some (.dK kvs)):kvs.length<=sizeLine/\(a==sysModules)=false/\∃vs,KV kvs vs/\h.DictOf (fY P w) a vs:=BW ok (.inl e)
end
noncomputable def qI(H:Hp)(a:Addr)(y:V)(r:Option V):Prop :=
 (∃kvs k,Rd H a (.dK kvs)/\y=kV k/\r=kW kvs k)\/False
noncomputable def Hz(H:Hp)(a:Addr)(y v:V)(H':Hp):Prop :=
 (∃kvs k,H a=some (.dK kvs)/\y=kV k/\kvs.length<sizeLine/\H'=upd H a (.dK (putK kvs k v)))\/False
theorem qI.k{H:Hp}{a:Addr}{kvs:List (Key×V)}{k:Key}(e:H a=some (.dK kvs)):qI H a (kV k) (kW kvs k):=.inl ⟨kvs,k,.inl e,rfl,rfl⟩
theorem Hz.k{H:Hp}{a:Addr}{kvs:List (Key×V)}{k:Key}{v:V}(e:H a=some (.dK kvs))(hl:kvs.length<sizeLine):Hz H a (kV k) v (upd H a (.dK (putK kvs k v))):=.inl ⟨kvs,k,e,rfl,hl,rfl⟩
section
variable{X:Cx}{pins:Ψ}{σ:St}{H:Hp}{s:Shared}{a:Addr}{y v:V}{u r:Value}{o:Option V}{A:Around}{E:Ι}
theorem Inv.big(I:Inv X pins σ H s):sysModules<s.heap.objs.size:=by
 have h:mainGlobals<s.heap.objs.size:=(I.mod.glob.keeps I.bk).lt;exact Nat.lt_trans (by decide) h
theorem Qc{Q:Ι}(hu:A.units+1<cLine)(I:Inv X pins σ H s)(g:qI H a y (some v))(ry:RelV y u)(h:∀w' s',Inv X pins σ H s'->RelV v w'->Q w' s') :
  wpAny (model X.prog X.w) A (getItem (.ref a) u) Q E s:=by
 rcases g with⟨kvs,k,e,ey,l⟩|hF
 .subst ey;obtain⟨z,hd,vs,rel,dd⟩:=BW I.hok e;obtain⟨w',hw,rw'⟩:=qZ.some_of (v:=v) (o:=valueAt vs k) (by rw[l];exact rel.val k);exact wpAny_getItem_of (JD ry) dd.mapOf hw (h w' _ (I.tok _) rw')
 .exact hF.elim
theorem aea{Q:Ι}(hu:A.units+1<cLine)(I:Inv X pins σ H s)(g:qI H a y o)(ry:RelV y u)(h:∀s',Inv X pins σ H s'->Q (.bool o.isSome) s') :
  wpAny (model X.prog X.w) A (compareOp .In u (.ref a)) Q E s:=by
 rcases g with⟨kvs,k,e,ey,l⟩|hF
 .subst ey;obtain⟨z,hd,vs,rel,dd⟩:=BW I.hok e;refine wpAny_in_of (JD ry) hd dd.mapOf ?_;rw[<- (rel.val k).isSome_eq,<- l];exact h _ (I.tok _)
 .exact hF.elim
theorem WR{Q:Ι}(hu:A.units+1<cLine)(I:Inv X pins σ H s)(g:qI H a y o)(ry:RelV y u)(h:∀s',Inv X pins σ H s'->Q (.bool (!o.isSome)) s') :
  wpAny (model X.prog X.w) A (compareOp .NotIn u (.ref a)) Q E s:=by
 rcases g with⟨kvs,k,e,ey,l⟩|hF
 .subst ey;obtain⟨z,hd,vs,rel,dd⟩:=BW I.hok e;refine wpAny_notIn_of (JD ry) hd dd.mapOf ?_;rw[<- (rel.val k).isSome_eq,<- l];exact h _ (I.tok _)
 .exact hF.elim
theorem Wr{h':Heap}{t':Nat}{ob:HO}(I:Inv X pins σ H s)(mu:Mut (H a))(hs:Heap.SameBut a s.heap h')(he:∃q,h'.get? a=some q)(new:cV X.prog X.w (upd H a ob) h' a ob) :
  Inv X pins σ (upd H a ob) { s with heap:=h',toks:=t' } :=
 I.write (x:=a) (e:=a) mu (.inl rfl) (λb q hb z=>(hs.2 b hb).trans z) he new
theorem ZC{P:Program}{w:World}{H':Hp}{h':Heap}{kvs:List (Key×V)}{vs:List (Key×Value)}(z:kvs.length<=sizeLine)(hd:(a==sysModules)=false)(rel:KV kvs vs)(dd:h'.DictOf (fY P w) a vs) :
  cV P w H' h' a (.dK kvs):=⟨z,hd,vs,rel,dd⟩
theorem Qa{H':Hp}{Q:Unit->Shared->Prop}(hu:A.units+1<cLine)(I:Inv X pins σ H s)(g:Hz H a y v H')(ry:RelV y u)(rv:RelV v r)(h:∀s',Inv X pins σ H' s'->Q () s') :
  wpAny (model X.prog X.w) A (setItem (.ref a) u r) Q E s:=by
 rcases g with⟨kvs,k,e,ey,l,eH⟩|hF
 .subst ey eH;obtain⟨z,hd,vs,rel,dd⟩:=aar I.hok e;have hz:vs.length<=sizeLine:=by rw[<- rel.length];exact z
  have hl:(putK kvs k v).length<=sizeLine:=by have:=Jj kvs k v;lia
  refine wpAny_setItem_pairs (hsz:=hz) (JD ry) dd λh' dd' hs=>h _ ?_;have he:∃q,h'.get? a=some q:=by obtain⟨q,_,_,hq,_⟩:=dd';exact⟨q,hq⟩
  exact Wr I (by rw[e];exact True.intro) hs he (ZC hl hd (rel.put k rv) dd')
 .exact hF.elim
end
noncomputable def acg(i:Expr):Prop:=∀ov iv,subscripted i false ov iv=operate [ov,iv] (getItem ov iv)
theorem V7{prog:Program}{w:World}{A:Around}{E:Ι}{s:Shared}{env:Env}{value slice:Expr}{pos:Pos}{T id:String}{Q:Ι}
 (hl:typeLookup (.type T) "__getitem__" = pure (some (.builtin id)))(hs:acg slice)
 (h:wpAny (model prog w) A (eval value env) (λo s₁=>wpAny (model prog w) A (eval slice env) (λi s₂=>s₂.TypeIs o T/\wpAny (model prog w) A (getItem o i) Q E s₂) E s₁) E s) :
  wpAny (model prog w) A (eval (.Subscript value slice pos) env) Q E s:=by
 refine Subscript_ (wpAny_mono h (λo s₁ h₁=>wpAny_mono h₁ (λi s₂ h₂=>?_) λ_ _ x=>x) λ_ _ x=>x);obtain⟨hT,h₂⟩:=h₂;unfold subscriptTail;refine ZU ?_;rw[getitemInPython_of_ne hT.not_modules];refine ZU (wpAny_specialOf hT hl ?_);have fin:wpAny (model prog w) A (subscripted slice false o i) (λr s₃=>wpAny (model prog w) A (letTemporaryGo value o r >>= λ_=>pure r) Q E s₃) E s₂:=by
  rw[hs o i];exact wpAny_operating (wpAny_mono h₂ (λr s₃ h₃=>ZU (wpAny_letTemporaryGo (ZT h₃))) λ_ _ x=>x)
 first
  |exact ZT (ZU fin)
  |exact ZU (ZT (ZU fin))
  |exact ZU fin
theorem Kc{X:Cx}{pins:Ψ}{σ:St}{H:Hp}{s:Shared}{a:Addr}{y:V}{o:Option V}(I:Inv X pins σ H s)(g:qI H a y o):s.TypeIs (.ref a) "dict" := by
 rcases g with⟨kvs,k,e,_,_⟩|hF
 .obtain⟨_,_,vs,_,dd⟩:=BW I.hok e;exact dd.typeIs
 .exact hF.elim
noncomputable def Ob(td ty:TE):TE:=λσ H Q=>td σ H λx H1=>ty σ H1 λy H2=>∃a v,x=.ref a/\qI H2 a y (some v)/\Q v H2
noncomputable def X8(ty td:TE):TE:=λσ H Q=>ty σ H λy H1=>td σ H1 λx H2=>∃a o,x=.ref a/\qI H2 a y o/\Q (.bl o.isSome) H2
noncomputable def yL(ty td:TE):TE:=λσ H Q=>ty σ H λy H1=>td σ H1 λx H2=>∃a o,x=.ref a/\qI H2 a y o/\Q (.bl (!o.isSome)) H2
noncomputable def Nv(td ty tv:TE):TS:=λD σ H=>tv σ H λv H1=>td σ H1 λx H2=>ty σ H2 λy H3=>∃a H4,x=.ref a/\Hz H3 a y v H4/\D.nx σ H4
section
variable{X:Cx}{o i e value:Expr}{pos pos' tpos:Pos}{td ty tv:TE}
theorem Gd(hu:X.A.units+1<cLine)(ho:PE X o td)(hi:PE X i ty)(hs:acg i):PE X (.Subscript o i pos) (Ob td ty):=by
 intro pins s σ H Q I h;refine V7 PySem.F.slot_dict_getitem.lookup hs (thn (ho pins s σ H _ I h) λu s1 ⟨x,H1,I1,rx,q1⟩=>thn (hi pins s1 σ H1 _ I1 q1) λiv s2 hP=>?_);obtain⟨y,H2,I2,ry,a,v,ex,g,q2⟩:=hP;subst ex;obtain rfl:u=Value.ref a:=rx;exact⟨Kc I2 g,Qc hu I2 g ry λw' s3 I3 rw'=>⟨v,H2,I3,rw',q2⟩⟩
theorem TQ(hu:X.A.units+1<cLine)(hi:PE X i ty)(ho:PE X o td):PC X .In i o (X8 ty td):=by
 intro pins s σ H Q I h;refine thn (hi pins s σ H _ I h) λiv s1 ⟨y,H1,I1,ry,q1⟩=>thn (ho pins s1 σ H1 _ I1 q1) λu s2 hP=>?_;obtain⟨x,H2,I2,rx,a,ov,ex,g,q2⟩:=hP;subst ex;obtain rfl:u=Value.ref a:=rx;exact aea hu I2 g ry λs3 I3=>⟨.bl ov.isSome,H2,I3,rfl,q2⟩
theorem Qo(hu:X.A.units+1<cLine)(hi:PE X i ty)(ho:PE X o td):PC X .NotIn i o (yL ty td):=by
 intro pins s σ H Q I h;refine thn (hi pins s σ H _ I h) λiv s1 ⟨y,H1,I1,ry,q1⟩=>thn (ho pins s1 σ H1 _ I1 q1) λu s2 hP=>?_;obtain⟨x,H2,I2,rx,a,ov,ex,g,q2⟩:=hP;subst ex;obtain rfl:u=Value.ref a:=rx;exact WR hu I2 g ry λs3 I3=>⟨.bl (!ov.isSome),H2,I3,rfl,q2⟩
theorem yS(hu:X.A.units+1<cLine)(ho:PE X o td)(hi:PE X i ty)(hv:PE X value tv)(hs:swapsWith value (some (.Subscript o i pos')) pos.line X.env=pure false) :
  PS X (.Assign [.Subscript o i pos'] value pos) (Nv td ty tv):=by
 intro pins s σ H D I h;refine wpAny_Assign_Subscript (thn (hv pins s σ H _ I h) λr s1 ⟨v,H1,I1,rv,q1⟩=>thn (ho pins s1 σ H1 _ I1 q1) λu s2 ⟨x,H2,I2,rx,q2⟩=>thn (hi pins s2 σ H2 _ I2 q2) λiv s3 hP=>?_) hs;obtain⟨y,H3,I3,ry,a,H4,ex,g,q3⟩:=hP;subst ex;obtain rfl:u=Value.ref a:=rx;exact Qa hu I3 g ry rv λs4 I4=>⟨σ,H4,I4,q3⟩
end
theorem Tq{P:Program}{w:World}{H:Hp}(h:Heap)(hb:sysModules<h.objs.size):cV P w H (h.push { cls:=.type "dict",data:=.dict #[] }) h.objs.size (.dK []) :=
 ⟨bh _,beq_eq_false_iff_ne.mpr (Ne.symm (aQ hb)),[],.nil,Heap.DictOf.new h⟩
noncomputable def HJ:TE:=λ_ H Q=>∀p,H p=none->Q (.ref p) (upd H p (.dK []))
section
variable{X:Cx}{pos:Pos}
theorem vA:PE X (.Dict [] [] pos) HJ:=λpins s σ H Q I h =>
 wpAny_Dict_empty ⟨.ref s.heap.objs.size,_,I.laid (a:=s.heap.objs.size) (o:=.dK []) (t':=s.toks) (λ_ _ q=>aG _ q) (aF _) (Tq s.heap I.big),rfl,h _ (I.hok.fresh (aF _))⟩
end
structure M2(X:Cx)(o:Expr)(m:Str)(apos:Pos)(e f:Expr)(cpos:Pos):Prop where
 base:attributeBase o m X.env (eval o X.env)=eval o X.env
 few:((backTo cpos (starEach [e,f] X.env)).all (λx=>!x.1)&&(backToKw cpos (keywordEach [] X.env)).all (λx=>x.1.isSome)
  && decide (([e,f] : List Expr).length+([] : List Keyword).length+(if([] : List Keyword).isEmpty then 0 else 1)<30))=true
 line:(apos.endLine==cpos.line)=true
 trees:backTo cpos (starEach [e,f] X.env)=[(false,eval e X.env),(false,eval f X.env)]
noncomputable def IsD(H:Hp)(a:Addr):Prop:=(∃kvs,Rd H a (.dK kvs))\/False
theorem Zk{X:Cx}{pins:Ψ}{σ:St}{H:Hp}{s:Shared}{a:Addr}(I:Inv X pins σ H s)(d:IsD H a) :
  s.TypeIs (.ref a) "dict" /\ (∀b,Value.ref a=.ref b->∃ob,s.heap.get? b=some ob/\ob.dict=none)/\(a==sysModules)=false:=by
 rcases d with⟨kvs,e⟩|hF
 .obtain⟨_,hd,vs,_,dd⟩:=BW I.hok e;refine⟨dd.typeIs,λb q=>?_,hd⟩;cases q;obtain⟨ob,_,_,h1,h2,_⟩:=dd;exact⟨ob,h1,h2.2.1⟩
 .exact hF.elim
section
variable{X:Cx}{pins:Ψ}{σ:St}{H:Hp}{s:Shared}{a:Addr}{y d:V}{u r:Value}{o:Option V}{A:Around}{E:Ι}
theorem Y_{Q:Ι}(hu:A.units+1<cLine)(I:Inv X pins σ H s)(g:qI H a y o)(ry:RelV y u)(rd:RelV d r)(h:∀w' s',Inv X pins σ H s'->RelV (o.getD d) w'->Q w' s') :
  wpAny (model X.prog X.w) A (call (.builtin "dict.get") [.ref a,u,r]) Q E s:=by
 rcases g with⟨kvs,k,e,ey,l⟩|hF
 .subst ey;obtain⟨z,hd,vs,rel,dd⟩:=BW I.hok e;refine call_meetsIn PySem.F.slot_dict_get dd.typeIs PySem.F.entry_dict_get (PySem.F.args_dict_get_3 _ _ _) (meets_dict_get_default (fY X.prog X.w) a (JD ry) hd r) ⟨_,dd.mapOf,h _ _ (I.tok _) ?_⟩;rw[l];exact(rel.val k).getD rd
 .exact hF.elim
end
noncomputable def FZ(td ty tx:TE):TE:=λσ H Q=>td σ H λx H1=>∃a,x=.ref a/\IsD H1 a/\ty σ H1 λy H2=>tx σ H2 λz H3=>∃o,qI H3 a y o/\Q (o.getD z) H3
section
variable{X:Cx}{o e f:Expr}{apos cpos:Pos}{td ty tx:TE}
theorem Jw(hu:X.A.units+1<cLine)(ho:PE X o td)(he:PE X e ty)(hf:PE X f tx)(m:M2 X o "get" apos e f cpos):PE X (.Call (.Attribute o "get" apos) [e,f] [] cpos) (FZ td ty tx):=by
 intro pins s σ H Q I h;refine wpAny_Call_method m.base m.few m.line PySem.F.plainAttrs_dict PySem.F.slot_dict_get PySem.F.type_dict_get (thn (ho pins s σ H _ I h) λu s1 hP=>?_);obtain⟨x,H1,I1,rx,a,ex,d,q1⟩:=hP;subst ex;obtain rfl:u=Value.ref a:=rx;obtain⟨t1,t2,_⟩:=Zk I1 d;refine⟨t1,t2,?_⟩;rw[m.trees];refine Calls.callWith_builtin rfl (Calls.evalArgs_plain (Calls.spliced_cons (thn (he pins s1 σ H1 _ I1 q1) λiv s2 ⟨y,H2,I2,ry,q2⟩ =>
  Calls.spliced_cons (thn (hf pins s2 σ H2 _ I2 q2) λfv s3 ⟨z,H3,I3,rz,ov,g,q3⟩=>Calls.spliced_nil ?_))))
 exact Y_ hu I3 g ry rz λw' s4 I4 rw'=>⟨_,H3,I4,rw',q3⟩
end
noncomputable def Itk(a:Addr)(o:Obj)(kvs:List (Key×V)):It:=⟨λi H=>H a=some (.frz o (.dK kvs))/\i<kvs.length,λi H v H'=>H'=H/\∃k y,kvs[i]?=some (k,y)/\v=kV k,λi H=>H a=some (.frz o (.dK kvs))/\i=kvs.length⟩
theorem Yd{P:Program}{w:World}{k:Key}{u:Value}(h:(fY P w).is k u=true):RelV (kV k) u:=by
 have h:vB k u=true:=h;cases k with
 |inl i =>
  cases u<;>simp[vB,Value.isInt]at h
  .subst h;exact⟨_,rfl⟩
 |inr x =>
  cases u<;>simp[vB,Value.isStrOf]at h
  .subst h;exact⟨_,rfl⟩
theorem KV.at{κ:Type}{kvs:List (κ×V)}{vs:List (κ×Value)}(r:KV kvs vs):∀{i:Nat}{k:κ}{y:V},kvs[i]?=some (k,y)->∃u,vs[i]?=some (k,u)/\RelV y u:=by
 unfold KV at r
 induction r with
 |nil=>intro i k y h;cases h
 |@cons p q ps qs h t ih =>
  intro i k y e;cases i with
  |zero =>
   rw[List.getElem?_cons_zero]at e;cases e;obtain⟨q1,q2⟩:=q;obtain⟨h1,h2⟩:=h;cases h1;exact⟨q2,rfl,h2⟩
  |succ i =>
   rw[List.getElem?_cons_succ]at e ⊢;exact ih e
theorem Pk{P:Program}{w:World}{K:Frag}{tg:Expr}(it a:Addr)(o:Obj)(kvs:List (Key×V))(vs:List (Key×Value))(ep:Nat)(rel:KV kvs vs)(hD:∀h:Heap,h.get? a=some o->h.DictAt (fY P w) a vs ep) :
  Turn P w K tg (Itk a o kvs) [it] it (λi h=>h.IsKeyIter it a i vs.length ep) where
 mem:=by simp
 obj:=λi h st b hb=>by
  have e:b=it:=by simpa using hb
  subst e;obtain⟨o,ho,_,hd⟩:=st;exact⟨o,ho,λv z=>by rw[hd]at z;cases z⟩
 keep:=λi h h' st k=>let⟨o,ho,r⟩:=st;⟨o,k it (by simp) o ho,r⟩
 item:=by
  intro X hP hw hK hc i pins s σ H E I hf st hg;subst hP hw hK;obtain⟨hg,hlt⟩:=hg;obtain⟨ho,_⟩:=(show cV X.prog X.w H s.heap a (.frz o (.dK kvs))from I.hok a _ hg);obtain⟨f0,f1,f2,f3,f4,f5⟩:=hf it (by simp);obtain⟨⟨k,y⟩,hx⟩ : ∃p,kvs[i]?=some p:=⟨kvs[i],by simp[hlt]⟩;obtain⟨u,hu,ru⟩:=rel.at hx;refine wpAny_pyNext_dict_item st (hD _ ho) hu λkey h' hkey st' sb=>?_;have I1:Inv X pins σ H { s with heap:=h' }:=I.turned (t':=s.toks) (λb ob hb e=>(sb.2 b hb).trans e) f0 f1 f3 f4 f5;obtain⟨oi,e,c,d⟩:=id st';exact⟨key,rfl,Jd (s:={ s with heap:=h' }) e c d (by decide) ⟨kV k,H,I1,Yd hkey,⟨rfl,k,y,hx,rfl⟩,st',λb hb=>(hf b hb).1⟩⟩
 done:=by
  intro X hP hw hK hc i pins s σ H E I hf st hg;subst hP hw hK;obtain⟨hg,rfl⟩:=hg;obtain⟨ho,_⟩:=(show cV X.prog X.w H s.heap a (.frz o (.dK kvs))from I.hok a _ hg);obtain⟨f0,f1,f2,f3,f4,f5⟩:=hf it (by simp);have hl:=rel.length;exact wpAny_pyNext_dict_end (I.ok.hd hc) st (hD _ ho) (by simp;exact Nat.le_of_eq (Eq.symm hl)) λh' eb=>⟨rfl,I.turned (t':=s.toks) (λb ob hb e=>eb b ob hb e) f0 f1 f3 f4 f5⟩
 self:=λ_ _ _ _ _ st h=>wpAny_pyIter_keyiter st h
section
variable{X:Cx}{tg:Expr}
noncomputable def Yc(te:TE):TI:=λσ H R=>te σ H λx H1=>∃a kvs,x=.ref a/\H1 a=some (.dK kvs)/\∀o,R (Itk a o kvs) (upd H1 a (.frz o (.dK kvs)))
theorem V1{l:Expr}{tl:TE}(hl:PE X l tl):PI X tg l (Yc tl):=by
 intro pins s σ H R I h;refine thn (hl pins s σ H _ I h) λv s1 hP=>?_;obtain⟨x,H1,I1,r1,a,kvs,ex,ha,q⟩:=hP;subst ex;cases r1;have ok:=(show cV X.prog X.w H1 s1.heap a (.dK kvs)from I1.hok a _ ha);obtain⟨z,hd,vs,rel,o,es,ep,e,ex,ed,ek,epr,en⟩:=ok;have hD:∀h:Heap,h.get? a=some o->h.DictAt (fY X.prog X.w) a vs ep:=λh e=>⟨o,es,e,ex,ed,ek,epr,en⟩;have I2:Inv X pins σ (upd H1 a (.frz o (.dK kvs))) s1:=by
  have:=I1.write (x:=a) (e:=a) (o:=.frz o (.dK kvs)) (h':=s1.heap) (t':=s1.toks) (by rw[ha];exact True.intro) (.inl rfl) (λb u hb z=>z) ⟨o,e⟩ ⟨e,z,hd,vs,rel,o,es,ep,e,ex,ed,ek,epr,en⟩;exact this
 refine wpAny_pyIter_dict hd (hD _ e) ?_;refine⟨s1.heap.objs.size,[s1.heap.objs.size],_,Itk a o kvs,_,rfl,I2.kept (t':=s1.toks) λb ob z=>aG _ z,Pk _ a o kvs vs ep rel hD,⟨_,aX _ rfl,rfl,rfl⟩,λb hb=>?_,q o⟩;have e:b=s1.heap.objs.size:=by simpa using hb
 subst e;exact I2.fpOk (aF _) (I2.hok.fresh (aF _))
noncomputable def tMG(g:TG):TG:=λv σ H Q=>∃R:L2.St->Hp->Prop,g v σ H R/\∀σ' H',R σ' H'->Q σ' H'
noncomputable def tMT(t:TT):TT:=λσ H Q=>∃R:Bool->Hp->Prop,t σ H R/\∀b H',R b H'->Q b H'
theorem PG.mono{e:Expr}{g:TG}(h:PG X e g):PG X e (tMG g):=λpins s σ H v u Q I r hP=>by obtain⟨R,h1,h2⟩:=hP;exact thn (h pins s σ H v u R I r h1) λ_ s' hP=>by obtain⟨σ',H',I',q⟩:=hP;exact⟨σ',H',I',h2 σ' H' q⟩
theorem PTs.mono{ifs:List Expr}{t:TT}(h:PTs X ifs t):PTs X ifs (tMT t):=λpins s σ H Q I hP=>by obtain⟨R,h1,h2⟩:=hP;exact thn (h pins s σ H R I h1) λb s' hP=>by obtain⟨H',I',q⟩:=hP;exact⟨H',I',h2 b H' q⟩
noncomputable def vf(n:Nat)(gt:TG)(tc:TT)(te:TE)(x:V)(σ:L2.St)(H:Hp)(Y:VK)(No:Hp->Prop):Prop:=∀pre:L2.St,pre.length=n->gt x (pre++σ) H λσ2 H2=>∃pre':L2.St,pre'.length=n/\σ2=pre'++σ/\tc σ2 H2 λb H3 =>
 match b with
 |true=>te σ2 H3 Y
 |false=>No H3
theorem vf.weak{n:Nat}{gt:TG}{tc:TT}{te:TE}{x:V}{σ:L2.St}{H:Hp}{Y Y':VK}{No No':Hp->Prop}(h:vf n gt tc te x σ H Y No)(h1:∀y H',Y y H'->Y' y H')(h2:∀H',No H'->No' H'):vf n (tMG gt) (tMT tc) (tM te) x σ H Y' No':=λpre hp =>
 ⟨_,h pre hp,λσ2 H2 ⟨pre',e1,e2,q⟩=>⟨pre',e1,e2,_,q,λb H3 z=>match b,z with
  |true,z=>⟨_,z,h1⟩
  |false,z=>h2 H3 z⟩⟩
theorem kh{K:Frag}{tl te:TE}{gt:TG}{tc:TT}{n:Nat}{σ:L2.St}{H:Hp}{Q:VK}(h:tl σ H λx H1=>∃a xs,x=.ref a/\H1 a=some (.lst xs)/\xs.length<=sizeLine/\∀D,H1 D=none->∃J:Nat->Κ->Hp->Prop,J 0 [] (upd H1 D (.lst [])) /\
   (∀k x ys Hc,xs[k]?=some x->J k ys Hc->ys.length<=k->Hc a=some (.lst xs)->vf n gt tc te x σ Hc (λy H2=>H2 D=some (.lst ys)/\H2 a=some (.lst xs)/\J (k+1) (ys++[y]) (upd H2 D (.lst (ys++[y])))) λH2=>H2 a=some (.lst xs)/\J (k+1) ys H2) /\
   ∀ys Hc,J xs.length ys Hc->ys.length<=xs.length->Q (.ref D) Hc):ju (Ef K (tM tl)) n (tMG gt) (tMT tc) (tM te) σ H Q:=by
 refine⟨_,h,?_⟩;rintro x H1 ⟨a,xs,rfl,hx,hz,rest⟩;refine⟨a,rfl,⟨xs,.of hx⟩,λD hD=>?_⟩;obtain⟨J,j0,step,fin⟩:=rest D hD;have ne:a≠D:=bK hx hD;refine⟨λk m ys Hc=>k<=xs.length/\m=xs.length-k/\ys.length<=k/\Hc a=some (.lst xs)/\J k ys Hc,⟨_,bh _,rfl,bh _,(bL ne).trans hx,j0⟩,?_⟩;rintro k m ys Hc ⟨hk,rfl,hy,hx',j⟩;by_cases e:k=xs.length
 .subst e;exact .inl ⟨⟨xs,.of hx',aF _⟩,fin ys Hc j hy⟩
 .have hlt:k<xs.length:=by exact XX hk e
  refine .inr ⟨⟨xs,_,.of hx',aj hlt⟩,?_⟩;rintro x H'' ⟨rfl,y⟩;refine(step k x ys H'' (y xs (.of hx')) j hy hx').weak ?_ ?_
  .rintro yv H2 ⟨z1,z2,z3⟩;refine⟨by lia,z1,xs.length-(k+1),by lia,by exact hlt,rfl,?_,?_,z3⟩
   .rw[aA];simp;omega
   .rw[bL ne];exact z2
  .rintro H2 ⟨z2,z3⟩;exact⟨xs.length-(k+1),by lia,by exact hlt,rfl,by exact aL hy (XG _ _),z2,z3⟩
theorem J2{tl te:TE}{gt:TG}{tc:TT}{n:Nat}{σ:L2.St}{H:Hp}{Q:VK}(h:tl σ H λx H1=>∃a kvs,x=.ref a/\H1 a=some (.dK kvs)/\kvs.length<=sizeLine/\∀o D,upd H1 a (.frz o (.dK kvs)) D=none->∃J:Nat->Κ->Hp->Prop,J 0 [] (upd (upd H1 a (.frz o (.dK kvs))) D (.lst [])) /\
   (∀i k y ys Hc,kvs[i]?=some (k,y)->J i ys Hc->ys.length<=i->Hc a=some (.frz o (.dK kvs))->vf n gt tc te (kV k) σ Hc (λy H2=>H2 D=some (.lst ys)/\H2 a=some (.frz o (.dK kvs))/\J (i+1) (ys++[y]) (upd H2 D (.lst (ys++[y])))) λH2=>H2 a=some (.frz o (.dK kvs))/\J (i+1) ys H2) /\
   ∀ys Hc,J kvs.length ys Hc->ys.length<=kvs.length->Q (.ref D) Hc):ju (Yc (tM tl)) n (tMG gt) (tMT tc) (tM te) σ H Q:=by
 refine⟨_,h,?_⟩;rintro x H1 ⟨a,kvs,rfl,hx,hz,rest⟩;refine⟨a,kvs,rfl,hx,λo D hD=>?_⟩;obtain⟨J,j0,step,fin⟩:=rest o D hD;have ne:a≠D:=bK bI hD;refine⟨λk m ys Hc=>k<=kvs.length/\m=kvs.length-k/\ys.length<=k/\Hc a=some (.frz o (.dK kvs))/\J k ys Hc,⟨_,bh _,rfl,bh _,(bL ne).trans bI,j0⟩,?_⟩;rintro k m ys Hc ⟨hk,rfl,hy,hx',j⟩;by_cases e:k=kvs.length
 .subst e;exact .inl ⟨⟨hx',rfl⟩,fin ys Hc j hy⟩
 .have hlt:k<kvs.length:=by exact XX hk e
  refine .inr ⟨⟨hx',hlt⟩,?_⟩;rintro x H'' ⟨rfl,kk,yy,hkk,rfl⟩;refine(step k kk yy ys H'' hkk j hy hx').weak ?_ ?_
  .rintro yv H2 ⟨z1,z2,z3⟩;refine⟨by lia,z1,kvs.length-(k+1),by lia,by exact hlt,rfl,?_,?_,z3⟩
   .rw[aA];simp;omega
   .rw[bL ne];exact z2
  .rintro H2 ⟨z2,z3⟩;exact⟨kvs.length-(k+1),by lia,by exact hlt,rfl,by exact aL hy (XG _ _),z2,z3⟩
end
theorem Same.tup{K:Frag}{H H':Hp}{a:Addr}{xs:Κ}(e:Same H H')(h:SqT K H a xs):SqT K H' a xs:=by
 rcases h with(h|⟨o,h⟩)|h
 .exact .inl (.inl (e _ _ h))
 .exact .inl (.inr ⟨o,e _ _ h⟩)
 .exact .inr h
theorem SqT.updO{K:Frag}{H:Hp}{a l:Addr}{xs:Κ}{o u:HO}(h:SqT K H a xs)(hl:H l=some o)(h1:∀ys,o≠.tup ys)(h2:∀ob ys,o≠.frz ob (.tup ys)):SqT K (upd H l u) a xs:=by
 rcases h with(h|⟨ob,h⟩)|h
 .exact .inl (.inl ((bL (d7 h hl (λz=>h1 xs z.symm))).trans h))
 .exact .inl (.inr ⟨ob,(bL (d7 h hl (λz=>h2 ob xs z.symm))).trans h⟩)
 .exact .inr h
mutual
inductive jg(K:Frag)(H:Hp):V->PyData->Prop
 |non:jg K H .non .none
 |bl (b:Bool):jg K H (.bl b) (.bool b)
 |int (i:Int):jg K H (.int i) (.int i)
 |str (x:Str):jg K H (.str x) (.str x)
 |lst {a:Addr}{xs:Κ}{ds:List PyData} : H a=some (.lst xs)->cN K H xs ds->jg K H (.ref a) (.list ds)
 |tup {a:Addr}{xs:Κ}{ds:List PyData} : SqT K H a xs->cN K H xs ds->jg K H (.ref a) (.tuple ds)
inductive cN(K:Frag)(H:Hp):Κ->List PyData->Prop
 |nil:cN K H [] []
 |cons {x:V}{xs:Κ}{d:PyData}{ds:List PyData} : jg K H x d->cN K H xs ds->cN K H (x::xs) (d::ds)
end
mutual
theorem jg.same{K:Frag}{H H':Hp}(S:Same H H'):∀{x:V}{d:PyData},jg K H x d->jg K H' x d
 |_,_,.non=>.non
 |_,_,.bl b=>.bl b
 |_,_,.int i=>.int i
 |_,_,.str x=>.str x
 |_,_,.lst e h=>.lst (S _ _ e) (cN.same S h)
 |_,_,.tup e h=>.tup (S.tup e) (cN.same S h)
theorem cN.same{K:Frag}{H H':Hp}(S:Same H H'):∀{xs:Κ}{ds:List PyData},cN K H xs ds->cN K H' xs ds
 |_,_,.nil=>.nil
 |_,_,.cons h t=>.cons (jg.same S h) (cN.same S t)
end
theorem cN.ints(K:Frag)(H:Hp):∀ns:List Int,cN K H (ns.map V.int) (ns.map PyData.int)
 |[]=>.nil
 |n::ns=>.cons (.int n) (cN.ints K H ns)
section
variable{X:Cx}{pins:Ψ}{σ:L2.St}{H:Hp}{s:Shared}
mutual
theorem Inv.readsK(I:Inv X pins σ H s):∀{x:V}{d:PyData}{v:Value},jg X.K H x d->RelV x v->∃as,Reads s.heap v d as
 |_,_,_,.non,r=>by cases r;exact⟨_,.none⟩
 |_,_,_,.bl b,r=>by cases r;exact⟨_,.bool b⟩
 |_,_,_,.int i,r=>by obtain⟨t,rfl⟩:=r;exact⟨_,.int i t⟩
 |_,_,_,.str x,r=>by obtain⟨t,rfl⟩:=r;exact⟨_,.str x t⟩
 |_,_,_,.lst e h,r=>by
  cases r;obtain⟨its,rv,⟨o,ho,hc,n,hd⟩⟩:=I.lstIs e;obtain⟨as,q⟩:=Inv.readsAllK I h rv;exact⟨_,.list ho hc hd q⟩
 |_,_,_,.tup e h,r=>by
  cases r;obtain⟨its,rv,⟨o,ho,hc,n,hd⟩,_⟩:=I.tuple e;obtain⟨as,q⟩:=Inv.readsAllK I h rv;exact⟨_,.tuple ho hc hd q⟩
theorem Inv.readsAllK(I:Inv X pins σ H s):∀{xs:Κ}{ds:List PyData}{vs:Ω},cN X.K H xs ds->Vals xs vs->∃as,ReadsAll s.heap vs ds as
 |_,_,_,.nil,r=>by cases r;exact⟨_,.nil⟩
 |_,_,_,.cons h t,r=>by
  cases r with
  |cons r1 r2 =>
   obtain⟨a,q1⟩:=Inv.readsK I h r1;obtain⟨b,q2⟩:=Inv.readsAllK I t r2;exact⟨_,.cons q1 q2⟩
end
noncomputable def T_(K:Frag)(neg:Bool):R2:=λx y H Q=>∃d e,jg K H x d/\jg K H y e/\SeqAt.shaped d=true/\SeqAt.shaped e=true/\Q (.bl (if neg then !PyData.eqv d e else PyData.eqv d e)) H
theorem Zh(hu:X.A.units+64<cLine):OpR X (compareOp .NotEq) (T_ X.K true):=by
 intro pins s σ H x y v u Q I rx ry h;obtain⟨d,e,hd,he,sd,se,q⟩:=h;obtain⟨as,ra⟩:=I.readsK hd rx;obtain⟨bs,rb⟩:=I.readsK he ry;exact SeqAt.compareNe_shaped ra rb sd se hu ⟨.bl _,H,I,rfl,q⟩
end
section
variable{X:Cx}
noncomputable def Od(K:Frag):Κ->Hp->VK->Prop:=λxs H Q=>∃p ys,xs=[.ref p]/\SqT K H p ys/\Q (.int ys.length) H
theorem Qi:d8 X (.builtin "len") (Od X.K):=p8.imp λxs H Q hP=>by obtain⟨p,ys,a,b,c⟩:=hP;exact⟨p,ys,a,.inr b,c⟩
noncomputable def yQ(K:Frag):Κ->Hp->VK->Prop:=λxs H Q=>∃p T ys,xs=[.ref p,.ty T]/\T∈["bool", "int", "str", "list", "tuple", "dict"]/\SqT K H p ys/\Q (.bl (Lh "tuple" T)) H
theorem J_:d8 X (.builtin "isinstance") (yQ X.K):=by
 intro pins s σ H xs us Q I r h;obtain⟨p,T,ys,rfl,hT,hp,q⟩:=h;obtain⟨u,v,rfl,ru,rv⟩:=r.two;cases ru;cases rv;obtain⟨its,rvs,⟨o,ho,hc,n,hd⟩,_⟩:=I.tuple hp;refine kia_one (kitx_tuple (a:=p)) I.kIn ⟨o,ho,hc⟩ (N5 (K:=X.K) (t := "tuple") (by decide) hT) (λz=>nomatch z) λtk=>⟨.bl _,H,I.tok _,rfl,q⟩
end
noncomputable def OkI(P:Program)(w:World)(K:Frag)(mg:Str->Ε)(base:Heap)(CX:CXT)(k:Nat)(f:Addr)(ps:Ξ)(sp:Sp):Prop:=∃fd,cD P w K mg base CX k f fd ps sp/\Binds K fd ps []
noncomputable def vC(K:Frag)(x qual:Str)(st:Stmt)(ps:Ξ)(f:Addr):Prop:=∃fd,Fun K x qual st f fd/\∀us:Ω,us.length=ps.length->bindArgs fd ⟨us,[]⟩=pure (ps.zip us)
theorem vC.ok{P:Program}{w:World}{K:Frag}{mg:Str->Ε}{base:Heap}{CX:CXT}{k:Nat}{x qual:Str}{st:Stmt}{ps:Ξ}{f:Addr}{sp:Sp}(h:vC K x qual st ps f)(hf:∀fd,Fun K x qual st f fd->cD P w K mg base CX k f fd ps sp):OkI P w K mg base CX k f ps sp :=
 by obtain⟨fd,a,b⟩:=h;exact⟨fd,hf fd a,.all b⟩
theorem VN{K:Frag}{x qual:Str}{st:Stmt}{ps:Ξ}{f:Addr}{oc:Value}{od an:Ζ}{osl:Array (Ε)}{kV doc pm cdv ct:Value}
 (l:K.lookup f=some ⟨oc,od,.func (PySem.W.fnOf x qual (gK st) (eZ st) (bN st) .none kV doc pm an cdv ct),osl⟩)(c:codeIn K cdv qual=true)(k:keepIn K (.ref f)=true)
 (hb:∀(kV doc pm:Value)(an:Ζ)(cdv ct:Value)(us:Ω),us.length=ps.length->bindArgs (PySem.W.fnOf x qual (gK st) (eZ st) (bN st) .none kV doc pm an cdv ct) ⟨us,[]⟩=pure (ps.zip us)):vC K x qual st ps f :=
 ⟨_,Ti l c k,hb kV doc pm an cdv ct⟩
section
variable{X:Cx}{k:Nat}{f C B:Addr}{ps:Ξ}{sp:Sp}{x m:Str}{p pos apos:Pos}{e o:Expr}{es:List Expr}{ta:TE}{t:TA}{Ex:Value->Ζ->L2.St->Hp->Prop}
theorem PE.any{ι:Sort _}{R:ι->Prop}{a:Expr}{ts:ι->TE}(h:∀i,R i->PE X a (ts i)):PE X a (λσ H Q=>∃i,R i/\ts i σ H Q):=λpins s σ H Q I hP=>by obtain⟨i,r,q⟩:=hP;exact h i r pins s σ H Q I q
noncomputable def Ht(C:Addr)(sp:Sp)(Ex:Value->Ζ->L2.St->Hp->Prop)(t:TA):TE:=λσ H Q=>t σ H λvs H1=>∀x dx,H1 x=none->H1 dx=none->dx≠x->sp (.ref x::vs) (upd (upd H1 dx (.own x)) x (.ins C dx [])) (λv H2=>v=.non/\Q (.ref x) H2) λE d H'=>Ex E d σ H'
theorem Km(M:Mk X.K C f)(G:OkI X.prog X.w X.K X.mg X.base (CXO X.prog X.w) k f ps sp)(hr:eU (k+1) X.A)(hg:Gl X x)(hm:X.mg x=some (.ref C))(hx:BZ X Ex)(ha:PA X (e::es) t)(hdb:(x==("__debug__" : Str))=false:=by decide)
 (he:starEach (e::es) X.env=(false,eval e X.env)::starEach es X.env:=by rfl)(hpl:(backTo pos (starEach es X.env)).any (·.1)=false:=by rfl):PE X (.Call (.Name x p) (e::es) [] pos) (Ht C sp Ex t):=by
 obtain⟨fd,F,hb⟩:=G;refine(U6 M F hr hg hm hb .nil hx ha.mono hdb he hpl).imp λσ H Q h=>⟨_,h,λvs H1 q x dx h1 h2 h3=>?_⟩;rw[List.append_nil];exact q x dx h1 h2 h3
noncomputable def BJ(C:Addr)(m:Str)(sp:Sp)(ta:TE)(t:TA):TE:=λσ H Q=>ta σ H λx H1=>∃a dx fs,x=.ref a/\H1 a=some (.ins C dx fs)/\fs.lookup m=none/\t σ H1 λvs H2=>sp (x::vs) H2 Q E0
theorem A_{pl:Sem Bool}(he:PE X o ta)(c:Cls X.K C)(hm:Meth X.K C m f)(G:OkI X.prog X.w X.K X.mg X.base CX0 k f ps sp)(hr:eU k X.A)(ha:PA X (e::es) t)
 (hst:starEach (e::es) X.env=(false,eval e X.env)::starEach es X.env:=by rfl)(hpl:(backTo pos (starEach es X.env)).any (·.1)=false:=by rfl)
 (ht:eval (.Call (.Attribute o m apos) (e::es) [] pos) X.env=(do
   let ov <- eval o X.env
   standAt apos.atName
   let(f,first) <- holding [ov] (getMethod ov m pl)
   callWith pos f first (backTo pos (starEach (e::es) X.env)) (backToKw pos (keywordEach [] X.env))):=by rfl) :
  PE X (.Call (.Attribute o m apos) (e::es) [] pos) (BJ C m sp ta t):=by
 obtain⟨fd,F,hb⟩:=G;refine(Xy (pl:=pl) he.mono c hm F hr hb .nil O7 ha.mono hst hpl ht).imp λσ H Q h=>⟨_,h,?_⟩;rintro x H1 ⟨a,dx,fs,h1,h2,h3,h4⟩;refine⟨a,dx,fs,h1,h2,h3,_,h4,λvs H2 q=>?_⟩;show sp (x::(vs++[])) H2 Q E0;rw[List.append_nil];exact q
theorem tK{pl:Sem Bool}(he:PE X o ta)(c:Cls X.K C)(hm:Meth X.K C m f)(G:OkI X.prog X.w X.K X.mg X.base CX0 k f ps sp)(hr:eU k X.A)
 (ht:eval (.Call (.Attribute o m apos) [] [] pos) X.env=(do
   let ov <- eval o X.env
   standAt apos.atName
   let(f,first) <- holding [ov] (getMethod ov m pl)
   callWith pos f first (backTo pos (starEach [] X.env)) (backToKw pos (keywordEach [] X.env))):=by rfl) :
  PE X (.Call (.Attribute o m apos) [] [] pos) (BJ C m sp ta xU):=by
 obtain⟨fd,F,hb⟩:=G;refine(Ub (pl:=pl) he.mono c hm F hr hb .nil O7 ht).imp λσ H Q h=>⟨_,h,?_⟩;rintro x H1 ⟨a,dx,fs,h1,h2,h3,h4⟩;exact⟨a,dx,fs,h1,h2,h3,h4⟩
theorem Uk{pl:Sem Bool}(c:DW X.K B m f)(G:OkI X.prog X.w X.K X.mg X.base (CXO X.prog X.w) k f ps sp)(hr:eU k X.A)(hg:Gl X x)(hm:X.mg x=some (.ref B))(hx:BZ X Ex)(ha:PA X (e::es) t)(hdb:(x==("__debug__" : Str))=false:=by decide)
 (hst:starEach (e::es) X.env=(false,eval e X.env)::starEach es X.env:=by rfl)(hpl:(backTo pos (starEach es X.env)).any (·.1)=false:=by rfl)
 (ht:eval (.Call (.Attribute (.Name x p) m apos) (e::es) [] pos) X.env=(do
   let ov <- eval (.Name x p) X.env
   standAt apos.atName
   let(f,first) <- holding [ov] (getMethod ov m pl)
   callWith pos f first (backTo pos (starEach (e::es) X.env)) (backToKw pos (keywordEach [] X.env))):=by rfl) :
  PE X (.Call (.Attribute (.Name x p) m apos) (e::es) [] pos) (xu sp Ex t):=by
 obtain⟨fd,F,hb⟩:=G;exact Td (pl:=pl) c F hr hg hm hb hx ha hdb hst hpl ht
theorem kO{D:Addr}{pos:Pos}(hg:Gl X x)(hm:X.mg x=some (.ref D))(hd:(x==("__debug__" : Str))=false:=by decide):PE X (.Name x pos) (tC (.ref D)):=FJ hg hm rfl hd
end
theorem NT{X:Cx}{K:Frag}(e:X.K=K)(hu:X.A.units+64<cLine):OpR X (compareOp .NotEq) (T_ K true):=e ▸ Zh hu
theorem Pz{h:Heap}{o ob:Obj}{b:Addr}(e:(h.push o).get? b=some ob)(hs:b≠h.objs.size):h.get? b=some ob:=by
 obtain⟨e1,e2⟩:=Heap.get?_some_iff.mp e;refine Heap.get?_some_iff.mpr ⟨?_,e2⟩;cases h;simpa[Heap.push,Array.getElem?_push,hs]using e1
section
variable{X:Cx}
noncomputable def rJoin:V->Κ->Hp->VK->Prop:=λx vs H Q=>∃a l ys,x=.str a/\vs=[.ref l]/\H l=some (.lst (ys.map V.str))/\(ys.map (·.length)).sum+ys.length*a.length<=16777216/\Q (.str (Txt.join a ys)) H
structure adR(K:Frag)(C:Addr):Prop where
 ha:findIn K (.ref C) "__class__" = some (some (.builtin "object.__class__"))
 hn:specialIn K (.builtin "object.__class__") "__get__" = some (some (.builtin "getset_descriptor.__get__"))
 tk:takesIn K (.builtin "object.__class__")=some true
 hm:mroIn K C (.type "object")=some true
noncomputable def Uo(K:Frag):Κ->Hp->VK->Prop:=λxs H Q=>∃a D C dx fs b,xs=[.ref a,.ref D]/\H a=some (.ins C dx fs)/\Cls K C/\adR K C/\kitOne K (.ref C) (.ref D)=some b/\Q (.bl b) H
noncomputable def Vx:Κ->Hp->VK->Prop:=λxs H Q=>∃i j,xs=[.int i,.int j]/\Q (.int (if j<i then j else i)) H
noncomputable def Tf:Κ->Hp->VK->Prop:=λxs H Q=>∃i j,xs=[.int i,.int j]/\Q (.int (if j>i then j else i)) H
end
section
variable{X:Cx}{elt iter:Expr}{pos:Pos}{scope:Scope}{wi:TI}{te:TE}
theorem R9{i0:Nat}{y0:Str}{py spos:Pos}{xs N':Ξ}{tg:Expr}{ifs:List Expr}{gt:TG}{tc:TT}(hc:X.calm=true)(hsh:Eh xs X.N=N')(hN:(xs++N').Nodup)(hkind:scope.kind=.function)(hcell:∀y∈scope.names,y.2≠.cell)(hnames:∀y∈scope.names,y.2=.local->scope.names.lookup y.1=some .local)
 (hfree:∀y∈scope.names,y.2=.free->X.env.kindOf y.1=some .cell\/X.env.kindOf y.1=some .free)(hloc:∀y∈X.N,y∉xs->(relabel scope X.env).names.lookup y≠some .local)(hq:∀y∈X.N,y∈xs->(relabel scope X.env).names.lookup (hid y)=none)(hi:PI X tg iter wi)
 (hg:∀C s₀ H₀ ex pn,PG (X.compG N' scope xs C s₀ H₀ ex pn) tg gt)(ht:∀C s₀ H₀ ex pn,PTs (X.compG N' scope xs C s₀ H₀ ex pn) ifs tc)(he:∀C s₀ H₀ ex pn,PE (X.compG N' scope xs C s₀ H₀ ex pn) elt te)(hgy:PG X (.Name y0 py) (cu i0))(hsw:swapsWith (.ListComp elt [⟨tg,iter,ifs,0⟩] scope pos) (some (.Name y0 py)) spos.line X.env=pure true)(hs:∀z,foldedSetIterable iter X.env z=pure z:=by intro _;rfl) :
  PS X (.Assign [.Name y0 py] (.ListComp elt [⟨tg,iter,ifs,0⟩] scope pos) spos) (Fz (ju wi xs.length gt tc te) (cu i0)):=by
 intro pins s σ H D0 I h;have h:ju wi xs.length gt tc te σ H (λx H1=>cu i0 x σ H1 D0.nx):=h;rw[exec_Assign_Name_used _ _ _ _ hsw];refine ZU (wpAny_standAt (ZU ?_));show wpAny _ X.A (comprehension (.ListComp elt [⟨tg,iter,ifs,0⟩] scope pos) scope X.env _ (newList []) false (eval iter X.env) (some (assign (.Name y0 py) X.env)) >>= λ_=>_) _ _ s;refine ZU (wpAny_mono (zQ (use:=some (assign (.Name y0 py) X.env)) (post:=λ_ s'=>SP X pins D0 .next s') hc hsh hN hkind hcell hnames hfree hloc hq hi hg ht he hs I h λC D Hc s6 m fl hn6 I6 fC qn=>?_) (λ_ s' hq=>ZT (ZT hq)) λ_ _ e=>e);obtain⟨oc,es,ep,ho,hdat,_⟩:=id hn6;have I7:=I6.pinned (fp:=[C]) (λb hb=>by rw[YR.mp hb];exact fC) λb hb=>by
  rw[YR.mp hb];exact⟨oc,ho,λv z=>by rw[hdat]at z;cases z⟩
 show wpAny _ X.A (assign (.Name y0 py) X.env _) _ _ s6;refine thn (hgy _ s6 σ Hc (.ref D) _ D0.nx I7 rfl qn) λ_ s7 hP=>?_;obtain⟨σ7,H7,Z7,q7⟩:=hP;have pn7:=Z7.pin (C,oc) (aP _ (aP _ (lW (by simp) ho)));refine⟨m,hn6.at' λo e=>?_,λh' hs'=>⟨σ7,H7,Z7.unpinned.turned (it:=C) (h':=h') (t':=s7.toks) (λb o hb e=>(hs'.2 b hb).trans e) pn7.2.1 fC.2.1 fC.2.2.2.1 fC.2.2.2.2.1 fC.2.2.2.2.2,q7⟩⟩;rw[ho]at e;cases e;exact pn7.1
theorem Ur{te:TE}{x:V}{σ:L2.St}{H:Hp}{Y:VK}{No:Hp->Prop}(h:te (some x::σ) H Y):vf 1 (cu 0) Lw te x σ H Y No:=λpre hp=>by
 obtain⟨u,rfl⟩:=List.length_eq_one_iff.mp hp;exact⟨[some x],rfl,rfl,h⟩
theorem jw{K:Frag}{tl te:TE}{σ:L2.St}{H:Hp}{Q:VK}(h:tl σ H λx H1=>∃a xs,x=.ref a/\H1 a=some (.lst xs)/\xs.length<=sizeLine/\∀D,H1 D=none->∃J:Nat->Κ->Hp->Prop,J 0 [] (upd H1 D (.lst [])) /\
   (∀k x ys Hc,xs[k]?=some x->J k ys Hc->ys.length=k->Hc a=some (.lst xs)->te (some x::σ) Hc λy H2=>H2 D=some (.lst ys)/\H2 a=some (.lst xs)/\J (k+1) (ys++[y]) (upd H2 D (.lst (ys++[y])))) /\
   ∀ys Hc,J xs.length ys Hc->ys.length=xs.length->Q (.ref D) Hc):ju (Ef K (tM tl)) 1 (tMG (cu 0)) (tMT Lw) (tM te) σ H Q:=by
 refine⟨_,h,?_⟩;rintro x H1 ⟨a,xs,rfl,hx,hz,rest⟩;refine⟨a,rfl,⟨xs,.of hx⟩,λD hD=>?_⟩;obtain⟨J,j0,step,fin⟩:=rest D hD;have ne:a≠D:=bK hx hD;refine⟨λk m ys Hc=>k<=xs.length/\m=xs.length-k/\ys.length=k/\Hc a=some (.lst xs)/\J k ys Hc,⟨_,bh _,rfl,rfl,(bL ne).trans hx,j0⟩,?_⟩;rintro k m ys Hc ⟨hk,rfl,hy,hx',j⟩;by_cases e:k=xs.length
 .subst e;exact .inl ⟨⟨xs,.of hx',aF _⟩,fin ys Hc j hy⟩
 .have hlt:k<xs.length:=by exact XX hk e
  refine .inr ⟨⟨xs,_,.of hx',aj hlt⟩,?_⟩;rintro x H'' ⟨rfl,y⟩;refine(Ur (No:=λ_=>False) (step k x ys H'' (y xs (.of hx')) j hy hx')).weak ?_ (λ_ z=>z.elim);rintro yv H2 ⟨z1,z2,z3⟩;refine⟨by lia,z1,xs.length-(k+1),by lia,by exact hlt,rfl,?_,?_,z3⟩
  .rw[aA,hy];rfl
  .rw[bL ne];exact z2
theorem Lg{te:TE}{σ:L2.St}{H:Hp}{Q:VK}{lo:Int}{n:Nat}(hn:n<=64)(rest:∀D,H D=none->∃J:Nat->Κ->Hp->Prop,J 0 [] (upd H D (.lst []))/\(∀k ys Hc,k<n->J k ys Hc->ys.length=k->te (some (.int (lo+k))::σ) Hc λy H2=>H2 D=some (.lst ys)/\J (k+1) (ys++[y]) (upd H2 D (.lst (ys++[y]))))/\∀ys Hc,J n ys Hc->ys.length=n->Q (.ref D) Hc) :
  ∀D,H D=none->∃W:Nat->Nat->Κ->Hp->Prop,(∃m,W 0 m [] (upd H D (.lst [])))/\∀i m ys Hc,W i m ys Hc->((Itr lo n).stop i Hc/\Q (.ref D) Hc)\/((Itr lo n).go i Hc/\∀x H',(Itr lo n).yld i Hc x H'->vf 1 (tMG (cu 0)) (tMT Lw) (tM te) x σ H' (λy H2=>ys.length<sizeLine/\H2 D=some (.lst ys)/\∃m',m'<m/\W (i+1) m' (ys++[y]) (upd H2 D (.lst (ys++[y])))) λH3=>∃m',m'<m/\W (i+1) m' ys H3):=by
 intro D hD;obtain⟨J,j0,step,fin⟩:=rest D hD;have hz:64<=sizeLine:=by decide
 refine⟨λk m ys Hc=>k<=n/\m=n-k/\ys.length=k/\J k ys Hc,⟨_,bh _,rfl,rfl,j0⟩,?_⟩;rintro k m ys Hc ⟨hk,rfl,hy,j⟩;by_cases e:k=n
 .subst e;exact .inl ⟨aF _,fin ys Hc j hy⟩
 .have hlt:k<n:=by exact XX hk e
  refine .inr ⟨hlt,?_⟩;rintro x H'' ⟨rfl,rfl⟩;refine(Ur (No:=λ_=>False) (step k ys H'' hlt j hy)).weak ?_ (λ_ z=>z.elim);rintro yv H2 ⟨z1,z2⟩;exact⟨by lia,z1,n-(k+1),by lia,by exact hlt,rfl,by rw[aA,hy];rfl,z2⟩
theorem rW{ta:TA}{te:TE}{σ:L2.St}{H:Hp}{Q:VK}(h:ta σ H λvs H1=>∃n:Nat,vs=[.int n]/\n<=64/\∀D,H1 D=none->∃J:Nat->Κ->Hp->Prop,J 0 [] (upd H1 D (.lst []))/\(∀(k:Nat)ys Hc,k<n->J k ys Hc->ys.length=k->te (some (.int k)::σ) Hc λy H2=>H2 D=some (.lst ys)/\J (k+1) (ys++[y]) (upd H2 D (.lst (ys++[y]))))/\∀ys Hc,J n ys Hc->ys.length=n->Q (.ref D) Hc) :
  ju (Oq (tMA ta)) 1 (tMG (cu 0)) (tMT Lw) (tM te) σ H Q:=by
 refine⟨_,h,?_⟩;rintro vs H1 ⟨n,rfl,hn,rest⟩;refine⟨n,rfl,by lia,by lia,?_⟩;rw[Int.toNat_natCast];refine Lg hn λD hD=>?_;obtain⟨J,j0,step,fin⟩:=rest D hD;exact⟨J,j0,λk ys Hc h1 h2 h3=>by rw[Int.zero_add];exact step k ys Hc h1 h2 h3,fin⟩
end
theorem cD.wild{P:Program}{w:World}{K:Frag}{mg:Str->Ε}{base:Heap}{k:Nat}{f:Addr}{fd:FuncData}{ps:Ξ}{sp:Sp}(F:cD P w K mg base CX0 k f fd ps sp):cD P w K mg base (CXO P w) k f fd ps sp:=by
 refine⟨F.len,λA outer s H args us vs Q E hr e0 hb r h=>?_⟩;refine codeAny_mono (F.run A outer s H args us vs Q E hr e0 hb r h) λres s' hs=>?_;cases res with
 |error e=>exact False.elim hs
 |ok fl =>
  cases fl with
  |ret u=>exact hs
  |next=>exact hs
  |brk=>exact hs
  |cont=>exact hs
theorem OkF.wild{P:Program}{w:World}{K:Frag}{mg:Str->Ε}{base:Heap}{k:Nat}{x:Str}{ps:Ξ}{sp:Sp}(F:OkF P w K mg base k x ps sp):OkX P w K mg base k x ps sp:=by obtain⟨f,fd,a,b⟩:=F;exact⟨f,fd,a.wild,b⟩
section
variable{X:Cx}{pins:Ψ}{σ:L2.St}{H:Hp}{s:Shared}{h':Heap}
theorem Inv.turnedL{t':Nat}{ch:Β}(I:Inv X pins σ H s)(k:∀b o,b∉ch->s.heap.get? b=some o->h'.get? b=some o)(hf:∀b∈ch,yK X pins H b):Inv X pins σ H { s with heap:=h',toks:=t' }:=by
 have nit:∀b u,H b=some u->b∉ch:=λb u e z=>by rw[(hf b z).1]at e;cases e
 refine I.step (g':=s.gens) (d':=s.drawn) (ch:=ch) (λb hb=>⟨(hf b hb).2.2.2.1,(hf b hb).2.1,(hf b hb).2.2.2.2.1,(hf b hb).2.2.2.2.2⟩) (λb o _ _ hc e _=>k b o hc e) (λb o _ _ hc e _=>⟨o.slots,k b o hc e⟩) (λ_ _ _ _ n=>n) (λb o hc e=>⟨o,k b o hc e⟩) (λ_ _ e=>e) (λ_ _ _ e=>e) (λb ps e=>⟨#[],by rw[e];simp⟩) (λm hm=>?_) (λb u e=>?_) I.bare
 .obtain⟨o,es,ep,ho,r⟩:=hm;exact⟨o,es,ep,k _ o (λz=>(hf _ z).2.1 rfl) ho,r⟩
 .refine(I.hok b u e).stay (λc v hc q=>k c v ?_ q) (λ_ q=>q) λ_ _ q=>q;rcases hc with z|z
  .rw[z];exact nit b u e
  .exact nit c _ z
end
theorem DG{h g:Heap}{a l:Addr}{i:Nat}(x:h.IsListIter a l i)(k:∀o,h.get? a=some o->g.get? a=some o):g.IsListIter a l i:=by obtain⟨o,e,r⟩:=x;exact⟨o,k o e,r⟩
theorem N7{xs:Κ}{vs:Ω} : Vals xs vs->∀{i:Nat}{x:V},xs[i]?=some x->∃u,vs[i]?=some u/\RelV x u:=by
 intro h
 induction h with
 |nil=>intro i x e;cases e
 |cons a b ih =>
  intro i x e;cases i with
  |zero=>rw[List.getElem?_cons_zero]at e;cases e;exact⟨_,rfl,a⟩
  |succ i=>rw[List.getElem?_cons_succ]at e ⊢;exact ih e
noncomputable def Ite(l:Addr):It:=⟨λi H=>∃xs,H l=some (.lst xs)/\i<xs.length,λi H v H'=>∃xs x t,H l=some (.lst xs)/\xs[i]?=some x/\H t=none/\v=.ref t/\H'=upd H t (.tup [.int i,x]),λi H=>∃xs,H l=some (.lst xs)/\xs.length<=i⟩
theorem QF{P:Program}{w:World}{K:Frag}{elts:List Expr}{x1}{pos:Pos}(e it l:Addr)(hne:e≠it) :
  Turn P w K (.Tuple elts x1 pos) (Ite l) [e,it] e (λi h=>(∃old,IsEnum h e it ((i:Nat):Int) old)/\h.IsListIter it l i) where
 mem:=by simp
 obj:=by
  rintro i h ⟨⟨old,s1⟩,⟨o4,s4,_,d4⟩⟩ b hb;simp only[YU,List.not_mem_nil,or_false]at hb;rcases hb with rfl|rfl
  .exact⟨_,s1,λv e=>by cases e⟩
  .exact⟨_,s4,λv e=>by rw[d4]at e;cases e⟩
 keep:=λi h h' ⟨⟨old,s1⟩,s4⟩ k=>⟨⟨old,k e (by simp) _ s1⟩,DG s4 (k it (by simp))⟩
 item:=by
  intro X hP hw hK hc i pins s σ H E I hf st hg;subst hP hw hK;obtain⟨⟨old,s1⟩,s4⟩:=st;obtain⟨xs,ha,lt1⟩:=hg;obtain⟨_,it1,n1,rv1,le1,g1⟩:=I.lstM ha;have ex:xs[i]?=some xs[i]:=aj lt1;obtain⟨u,hu,ru⟩:=N7 rv1 ex;refine wpAny_pyNext_enum_item s1 s4 (items:=it1.toArray) ⟨_,g1,rfl,n1,rfl⟩ (x:=u) (by simpa using hu) hne λh' a1 a3 a5 a6 a7=>⟨_,rfl,?_⟩;refine wpAny_letOwnedTupleGo_enum a1 λh2 st2 sb=>?_;have nt:H s.heap.objs.size=none:=I.fresh;have I1:=I.laid (a:=s.heap.objs.size) (o:=.tup [.int i,xs[i]]) (h':=s.heap.push { cls:=.type "tuple",data:=.seq #[.int i s.toks,u] }) (t':=s.toks+1) (λb q z=>aG _ z) (aF _)
   ⟨(by show 2<=sizeLine;decide),[.int i s.toks,u],.cons ⟨_,rfl⟩ (.cons ru .nil),_,aX _ rfl,rfl,_,rfl⟩
  have nz:e≠s.heap.objs.size:=aQ (aJ s1);have n1':it≠s.heap.objs.size:=by obtain⟨o,e,_⟩:=s4;exact aQ (aJ e)
  have fpn:∀b∈[e,it],upd H s.heap.objs.size (.tup [.int i,xs[i]]) b=none:=by
   intro b hb;have f0:=(hf b hb).1;simp only[YU,List.not_mem_nil,or_false]at hb;rcases hb with rfl|rfl
   .exact(bL nz).trans f0
   .exact(bL n1').trans f0
  have I2:=I1.turnedL (ch:=[e,it]) (h':=h2) (t':=s.toks+1) (λb ob hb z=>by
   simp only[YU,List.not_mem_nil,or_false,not_or]at hb;obtain⟨b1,b3⟩:=hb;refine(sb.2 b b1).trans ?_;by_cases hs:b=s.heap.objs.size
   .subst hs;have e2:=aX s.heap (o:={ cls:=.type "tuple",data:=.seq #[.int i s.toks,u] }) rfl;have z:(s.heap.push { cls:=.type "tuple",data:=.seq #[.int i s.toks,u] }).get? s.heap.objs.size=some ob:=z;rw[e2]at z;cases z;exact a5
   .exact a7 b _ b1 b3 (Pz z hs)) λb hb=>⟨fpn b hb,(hf b hb).2⟩
  have mv:∀c o,c≠e->h'.get? c=some o->h2.get? c=some o:=λc o n z=>(sb.2 c n).trans z;exact⟨.ref _,_,I2,rfl,⟨xs,_,_,ha,ex,nt,rfl,rfl⟩,⟨⟨_,by rw[Int.natCast_add];exact st2⟩,DG a3 λo z=>mv _ _ (λy=>hne y.symm) z⟩,fpn⟩
 done:=by
  intro X hP hw hK hc i pins s σ H E I hf st hg;subst hP hw hK;obtain⟨⟨old,s1⟩,s4⟩:=st;obtain⟨xs,ha,lt⟩:=hg;obtain⟨_,it1,n1,rv1,le1,g1⟩:=I.lstM ha;have hl:=rv1.length;refine wpAny_pyNext_enum_end (I.ok.hd hc) s1 s4 (items:=it1.toArray) ⟨_,g1,rfl,n1,rfl⟩ (by simp;lia) λh' k=>⟨rfl,I.turnedL (ch:=[e,it]) (t':=s.toks) (λb ob hb z=>?_) hf⟩;simp only[YU,List.not_mem_nil,or_false,not_or]at hb;exact k b ob hb.2 z
 self:=λ_ _ _ _ _ ⟨⟨_,s1⟩,_⟩ h=>wpAny_pyIter_enum s1 h
section
variable{X:Cx}
noncomputable def Oo(ta:TA):TI:=λσ H R=>ta σ H λvs H1=>∃a xs,vs=[.ref a]/\H1 a=some (.lst xs)/\R (Ite a) H1
theorem MN{a:Expr}{ta:TA}{elts:List Expr}{x1}{p pos tpos:Pos}(hg:Gl X "enumerate")(hm:X.mg "enumerate" = none)(ha:PA X [a] ta)(hs:starEach [a] X.env=[(false,eval a X.env)]:=by rfl) :
  PI X (.Tuple elts x1 tpos) (.Call (.Name "enumerate" p) [a] [] pos) (Oo ta):=by
 intro pins s σ H R I h;refine Call_ (wW I hg hm boot_enumerate (PyProof.Rows.callWith_type1 (thn (ha pos pins s σ H _ I h) λus s1 hP=>?_) (by rw[hs];rfl) (by rfl)));obtain⟨vs,H1,I1,r1,q1⟩:=hP;obtain⟨l1,xs,e,h1,q⟩:=q1;subst e;obtain⟨u,rfl,ru⟩:=r1.one;cases ru;obtain⟨_,it1,n1,rv1,le1,g1⟩:=I1.lstM h1;refine call_enumerate_list (items:=it1.toArray) ⟨_,g1,rfl,n1,rfl⟩ λh' a1 a2 a3 a7=>?_;refine wpAny_pyIter_enum a1 ?_;refine⟨_,[s1.heap.objs.size+1,s1.heap.objs.size],_,Ite l1,H1,rfl,I1.kept (t':=s1.toks) λb ob e=>a7 b ob e,QF _ _ l1 (Nat.succ_ne_self _),⟨⟨_,a1⟩,a2⟩,λb hb=>?_,q⟩;have hb':s1.heap.objs.size<=b:=by
  simp only[YU,List.not_mem_nil,or_false]at hb;rcases hb with z|z
  .rw[z];exact Xs _
  .rw[z];exact aF _
 exact I1.fpOk hb' (I1.hok.fresh hb')
end
theorem KR{ta:TA}{g:TG}{tb:TS}{D:Ends}{σ:L2.St}{H:Hp}(h:ta σ H λvs H1=>∃a xs,vs=[.ref a]/\H1 a=some (.lst xs)/\∃J:Nat->L2.St->Hp->Prop,J 0 σ H1 /\
   (∀(k:Nat)x σ' H' t,xs[k]?=some x->J k σ' H'->H' a=some (.lst xs)->H' t=none->g (.ref t) σ' (upd H' t (.tup [.int k,x])) λσ2 H2=>tb { D with nx:=λσ3 H3=>H3 a=some (.lst xs)/\J (k+1) σ3 H3,ct:=λσ3 H3=>H3 a=some (.lst xs)/\J (k+1) σ3 H3,bk:=D.nx } σ2 H2) /\
   ∀σ' H',J xs.length σ' H'->H' a=some (.lst xs)->D.nx σ' H'):Lq (Oo (tMA ta)) g tb D σ H:=by
 refine⟨_,h,?_⟩;rintro vs H1 ⟨a,xs,rfl,hx,J,j0,step,fin⟩;refine⟨a,xs,rfl,hx,λk m σ' H'=>k<=xs.length/\m=xs.length-k/\H' a=some (.lst xs)/\J k σ' H',⟨_,bh _,rfl,hx,j0⟩,?_⟩;rintro k m σ' H' ⟨hk,rfl,ha',j⟩;by_cases e:k=xs.length
 .subst e;exact .inl ⟨⟨xs,ha',aF _⟩,fin σ' H' j ha'⟩
 .have hlt:k<xs.length:=by exact XX hk e
  refine .inr ⟨⟨xs,ha',hlt⟩,λσ3 H3=>H3 a=some (.lst xs)/\J (k+1) σ3 H3,λσ3 H3 ⟨z1,z3⟩=>⟨xs.length-(k+1),by lia,by exact hlt,rfl,z1,z3⟩,?_⟩;rintro v H'' ⟨xs',x,t,e1,e3,e5,rfl,rfl⟩;rw[ha']at e1;cases e1;exact step k x σ' H' t e3 j ha' e5
section
variable{X:Cx}
noncomputable def ac5:Κ->Hp->VK->Prop:=λxs H Q=>∃p kvs,xs=[.ref p]/\H p=some (.dK kvs)/\Q (.int kvs.length) H
theorem Dt:d8 X (.builtin "len") ac5:=by
 intro pins s σ H xs us Q I r h;obtain⟨p,kvs,rfl,hq,q⟩:=h;obtain⟨u,rfl,rx⟩:=vals1 r;cases rx;obtain⟨z,y,vs,kv,d⟩:=(show cV X.prog X.w H s.heap p (.dK kvs)from I.hok p _ hq);have hl:=uQ;have hlen:kvs.length=vs.length:=kv.length;exact call_len_dict y d (by lia) ⟨.int kvs.length,H,I.tok _,⟨_,by rw[hlen]⟩,q⟩
theorem VP{e:Expr}{ta:TE}{f:Str}{pos:Pos}{K':Frag}(hK:X.K=K')(he:PE X e ta)(hb:attributeBase e f X.env (eval e X.env)=eval e X.env):PE X (.Attribute e f pos) (Q5 K' ta f):=hK ▸ pX he hb
theorem M5(c:Nat):∀(n:Nat)(acc:Array Nat),((List.replicate n #[c]).foldl (· ++ ·) acc).toList=acc.toList++List.replicate n c
 |0,acc=>by simp
 |n+1,acc=>by
  rw[List.replicate_succ,List.foldl_cons,M5 c n,Array.toList_append,X9]
  rfl
noncomputable def aaP:R2:=λx y H Q=>∃c n,x=.str ⟨#[c]⟩/\y=.int n/\1<=n/\n<=1000/\∀z:Str,z.cps.toList=List.replicate n.toNat c->Q (.str z) H
theorem VF:OpR X (binaryOp .Mult) aaP:=by
 intro pins s σ H x y v u Q I rx ry h;obtain⟨c,n,rfl,rfl,h0,h1,q⟩:=h;obtain⟨t,rfl⟩:=rx;obtain⟨t',rfl⟩:=ry;have hi:(⟨#[c]⟩ : Str).length=1:=rfl;have made:∀z:Str,z.cps.toList=List.replicate n.toNat c->(Made.str z).post (EP X pins σ Q) s:=λz hz=>⟨by
  have:z.length=n.toNat:=by
   show z.cps.size=_;rw[<- Array.length_toList,hz,aM]
  exact aL (show z.length<=1001 by lia) (by decide),.str z,H,I.tok _,⟨_,rfl⟩,q z hz⟩
 refine PySem.P.mul_str ?_ (λ_ _=>?_) (λ_ _=>?_) ?_
 .rw[Zp (by lia),Zp (by lia)];rfl
 .rw[hi];have:1<=(2^63-1:Int)/n:=Int.le_ediv_of_mul_le (by omega) (by lia);lia
 .rw[hi];unfold Builtin.Str.tooLong;exact Zp (by
   have:n.toNat<=1000:=by lia
   have e:1000<=sizeLine:=by decide
   lia)
 .split
  .lia
  .split
   .rename_i hc
    rw[hi]at hc;have e:n.toNat=1:=by
     simp at hc;lia
    refine⟨.str ⟨#[c]⟩,H,I,⟨t,rfl⟩,q _ ?_⟩;rw[e];rfl
   .refine made _ ?_;show((List.replicate n.toNat #[c]).foldl (· ++ ·) #[]).toList=_;rw[M5];rfl
theorem OkI.wild{P:Program}{w:World}{K:Frag}{mg:Str->Ε}{base:Heap}{k:Nat}{f:Addr}{ps:Ξ}{sp:Sp}(h:OkI P w K mg base CX0 k f ps sp):OkI P w K mg base (CXO P w) k f ps sp:=by obtain⟨fd,a,b⟩:=h;exact⟨fd,a.wild,b⟩
end
theorem yd{ta:TA}{te:TE}{gt:TG}{tc:TT}{n:Nat}{σ:L2.St}{H:Hp}{Q:VK}(h:ta σ H λvs H1=>∃a xs,vs=[.ref a]/\H1 a=some (.lst xs)/\xs.length<=64/\∀D,H1 D=none->∃J:Nat->Κ->Hp->Prop,J 0 [] (upd H1 D (.lst [])) /\
   (∀(k:Nat)x zs Hc t,xs[k]?=some x->J k zs Hc->zs.length<=k->Hc t=none->Hc a=some (.lst xs)->vf n gt tc te (.ref t) σ (upd Hc t (.tup [.int k,x])) (λv H2=>H2 D=some (.lst zs)/\H2 a=some (.lst xs)/\J (k+1) (zs++[v]) (upd H2 D (.lst (zs++[v])))) λH2=>H2 a=some (.lst xs)/\J (k+1) zs H2) /\
   ∀zs Hc,J xs.length zs Hc->zs.length<=xs.length->Q (.ref D) Hc):ju (Oo (tMA ta)) n (tMG gt) (tMT tc) (tM te) σ H Q:=by
 refine⟨_,h,?_⟩;rintro vs H1 ⟨a,xs,rfl,hx,h64,rest⟩;refine⟨a,xs,rfl,hx,λD hD=>?_⟩;obtain⟨J,j0,step,fin⟩:=rest D hD;have na:a≠D:=bK hx hD;have z64:64<=sizeLine:=by decide
 refine⟨λk m zs Hc=>k<=xs.length/\m=xs.length-k/\zs.length<=k/\Hc a=some (.lst xs)/\J k zs Hc,⟨_,bh _,rfl,bh _,(bL na).trans hx,j0⟩,?_⟩;rintro k m zs Hc ⟨hk,rfl,hz,ha',j⟩;by_cases e:k=xs.length
 .subst e;exact .inl ⟨⟨xs,ha',aF _⟩,fin zs Hc j hz⟩
 .have hlt:k<xs.length:=by exact XX hk e
  refine .inr ⟨⟨xs,ha',hlt⟩,?_⟩;rintro v H'' ⟨xs',x,t,e1,e3,e5,rfl,rfl⟩;rw[ha']at e1;cases e1;refine(step k x zs Hc t e3 j hz e5 ha').weak ?_ ?_
  .rintro yv H2 ⟨z1,z2,z4⟩;refine⟨by lia,z1,xs.length-(k+1),by lia,by exact hlt,rfl,?_,(bL na).trans z2,z4⟩;rw[aA];simp;omega
  .rintro H2 ⟨z2,z4⟩;exact⟨xs.length-(k+1),by lia,by exact hlt,rfl,by exact aL hz (XG _ _),z2,z4⟩
section
variable{prog:Program}{w:World}{A:Around}{E:Ι}{h:Heap}{g:Array GenState}{d:Drawn}{t:Nat}{os:OsState}{nm q:Str}{C N:Addr}{bs bm bmB:Ω}{hdct:Bool}{sn:Ξ}{sub:Ω}{ab:Bool}{col:Option Bool}{dd:Ζ}{k0 k1 k2 k3 k5:Ε}{B newId initId:String}
noncomputable abbrev Du(h:Heap)(C:Addr)(us:Ω):Heap:=(h.push { cls:=.type "tuple",data:=.seq us.toArray }).push { cls:=.ref C,data:=.fields #[.ref h.objs.size,.none,.none,.none,.bool false,.none] }
theorem xZ{us:Ω}(b:Addr)(o:Obj)(e:h.get? b=some o):(Du h C us).get? b=some o:=aG _ (aG _ e)
theorem Cu(F:ExcBaseFacts B newId initId bmB)(T:OwnTail h bmB bm){mN:Str->Ε}{us:Ω}{fI:Addr}{oI:Obj}{Q:Fin->Shared->Prop}(hC:h.get? C=some (excClassObj nm q C N bs bm hdct sn sub ab col dd k0 k1 k2 k3 k5 newId))(hn:h.Ns N mN)(hi:mN "__init__" = some (.ref fI))(hf:h.get? fI=some oI)(hc:oI.cls=.type "function")(hl:us.length<=sizeLine)
 (hq:wpAny (model prog w) A (call (.ref fI) (.ref (h.objs.size+1)::us)) (λr s'=>r=.none/\Q (.done (.ret (.ref (h.objs.size+1)))) s') E ⟨Du h C us,g,d,t,os⟩):wpAny (model prog w) A (Builtin.«type.__call__» ⟨.ref C::us,[]⟩) Q E ⟨h,g,d,t,os⟩:=by
 have K:=xZ (h:=h) (C:=C) (us:=us);have C1:=K _ _ hC;have T1:=T.keeps K;have at_:(Du h C us).get? (h.objs.size+1)=some { cls:=.ref C,data:=.fields #[.ref h.objs.size,.none,.none,.none,.bool false,.none] }:=by heap_get
 have isC:(Value.ref C::bm).contains (.ref C)=true:=by simp
 repeat (first|with_reducible refine wpAny_loadPart_at hC ?_|with_reducible refine wpAny_madeBy_exc hC ?_|wp_step)
 refine codeAny_call_builtin_code (Code.quiet_builtin _ F.quiet) (wpAny_check_new_subT F T hC (codeAny_exc_new_subT F T hC ?_ hl));show wpAny _ _ _ _ _ _;unfold isInstance
 repeat (first|with_reducible refine wpAny_loadPart_at at_ ?_|(with_reducible refine wpAny_isSubtype_exc C1 ?_;rw[isC])|wp_step)
 show wpAny _ _ (typeLookup (.ref C) _) _ _ _;refine wpAny_typeLookup_tail C1 (hn.keeps K) T1 F.mroIs F.init.lookup ?_;rw[hi];refine wpAny_holding (ZU ?_);unfold bindSpecial;refine ZU (wpAny_typeOf (T := "function") ⟨_,K _ _ hf,hc⟩ ?_);rw[ZY (by decide)];refine ZT (ZU (wpAny_mono hq (λr s' hP=>?_) λ_ _ x=>x));obtain⟨e,z⟩:=hP;subst e
 wp_walk
 exact z
theorem RV(F:ExcBaseFacts B newId initId bmB)(T:OwnTail h bmB bm){mN:Str->Ε}{us:Ω}{fI:Addr}{oI:Obj}{Q:Ι}(hC:h.get? C=some (excClassObj nm q C N bs bm hdct sn sub ab col dd k0 k1 k2 k3 k5 newId))(hn:h.Ns N mN)(hi:mN "__init__" = some (.ref fI))(hf:h.get? fI=some oI)(hc:oI.cls=.type "function")(hl:us.length<=sizeLine)
 (hq:wpAny (model prog w) (A.under (.builtin "type.__call__" ⟨.ref C::us,[]⟩)) (call (.ref fI) (.ref (h.objs.size+1)::us)) (λr s'=>r=.none/\Q (.ref (h.objs.size+1)) s') E ⟨Du h C us,g,d,t,os⟩):wpAny (model prog w) A (call (.ref C) us) Q E ⟨h,g,d,t,os⟩:=by
 have a1:=tc_lookup;have a2:=tc_bind (.ref C);have a3:(⟨h,g,d,t,os⟩ : Shared).TypeIs (.ref C) "type" := ⟨_,hC,rfl⟩;refine wpAny_call (codeAny_of_tree ?_);show wpAny _ _ (callAny (.ref C) _) _ _ _
 repeat (any_goals (first|assumption|with_reducible refine wpAny_loadPart_at hC ?_|wp_step))
 exact⟨rfl,codeAny_call_builtin_at (Code.quiet_builtin _ (by decide +kernel)) entry_typeCall (wpAny_check_type_call_sub hC (Cu F T hC hn hi hf hc hl hq))⟩
end
noncomputable def G5:Ω->Bool
 |.ref _::l=>G5 l
 |l=>l==bmV
theorem Lb{self:Value}{l:Ω}(h:G5 l=true):refuseLoop self "__setattr__" l=pure ():=by
 induction l with
 |nil=>cases h
 |cons x l ih =>
  cases x with
  |ref C=>rw[refuseLoop_ref];exact ih h
  |type n =>
   have e:Value.type n::l=bmV:=beq_iff_eq.mp h;rw[e];exact PySem.F.store_ValueError.passes self
  |_=>exact absurd (beq_iff_eq.mp h) (by intro z;cases z)
structure Pa(K:Frag)(C:Addr):Prop where
 cd:∃cd,clsIn K C=some cd/\cd.hasDict=true/\G5 cd.mro=true
 sa:findIn K (.ref C) "__setattr__" = some (some (.builtin "object.__setattr__"))
 mo:mroIn K C (.type "object")=some true
section
variable{prog:Program}{w:World}{A:Around}{E:Ι}{K:Frag}{s:Shared}{x C:Addr}{ox:Obj}{f:Str}{v:Value}{vs:Array Value}
theorem X5{Q:Unit->Shared->Prop}(X:K.In s.heap)(S:Pa K C)(n:dj K C f)(hx:s.heap.get? x=some ox)(hc:ox.cls=.ref C)(hd:ox.dict=none)(hv:ox.data=.fields vs)
 (hq:∀h' t',h'.Ns1 s.heap.objs.size (λy=>if y=f then some v else none)->h'.get? x=some { ox with dict:=some s.heap.objs.size }->(∀b,b≠x->b≠s.heap.objs.size->h'.get? b=s.heap.get? b)->Q () ⟨h',s.gens,s.drawn,t',s.os⟩):wpAny (model prog w) A (setAttr (.ref x) f v) Q E s:=by
 obtain⟨cd,hcd,hdi,hm⟩:=S.cd;have J:PySem.W.InstAt s.heap x ox C none:=⟨hx,hc,by unfold notCls;rw[hv],by rw[hd];trivial⟩;have SF:=PySem.F.store_object;refine set_plain X J S.sa ?_;have sub:PySem.W.Looks (model prog w) s.heap (isInstance (.ref x) (.type "object")) true:=J.type.andThen (looks_mroIn X S.mo);have lm:PySem.W.Looks (model prog w) s.heap (mroOf (.ref C)) cd.mro:=(looks_clsIn X hcd).andThen .now;generalize hs1:({ s with toks:=s.toks+1 } : Shared)=s1;have e1:s1.heap=s.heap:=by rw[<- hs1]
 rw[<- e1]at sub lm X J;refine codeAny_call_builtin SF.slot.plain SF.entry (@PySem.W.check_slot (model prog w) _ _ s1 "object.__setattr__" "object" "__setattr__" (.ref x) [.str f s.toks,v] [] _ SF.kind SF.split sub (SF.args (.ref x) (.str f s.toks) v) ?_);rw[PySem.W.osa_eq,refuse_eq];refine ZU (ZU (J.type.here (ZU (lm.here ?_))));rw[Lb hm];refine ZT (ZU (J.type.here (ZU ((looks_findIn X n).here (ZU (ZT ?_))))));have hx1:s1.heap.get? x=some ox:=by rw[e1];exact hx
 obtain⟨oc,odi,oda,osl⟩:=ox;dsimp only at hc hd hv;subst hc hd hv;refine ZU (ZT (ZU (ZU (wpAny_loadPart hx1 (ZU ((looks_clsIn X hcd).here ?_))))));rw[hdi,ZZ (by simp),ZZ (by simp[typeHasDict])];have e0:=hs1;obtain⟨hp,gg,dr,tk,os⟩:=s1;dsimp only at hx1 e1 ⊢;cases e0;have hxs:x≠s.heap.objs.size:=aQ (aJ hx);refine ZU (wpAny_alloc' (ZU (wpAny_update' (aG _ hx) (ZT ?_))));generalize hu:(s.heap.push { cls:=.type "dict",data:=.dict #[] }).update x _=hU;have q1:hU.get? s.heap.objs.size=some { cls:=.type "dict",data:=.dict #[] }:=by
  rw[<- hu];exact(Heap.get?_update_ne _ _ _ _ hxs.symm).trans (Heap.get?_push_at rfl rfl)
 have q2:hU.get? x=some { cls:=.ref C,dict:=some s.heap.objs.size,data:=.fields vs,slots:=osl }:=by
  rw[<- hu];exact Heap.get?_update_self _ (aG _ hx) rfl
 have q3:∀b,b≠x->b≠s.heap.objs.size->hU.get? b=s.heap.get? b:=λb n1 n2=>by
  rw[<- hu];exact(Heap.get?_update_ne _ _ _ _ n1).trans (Heap.get?_push_ne _ _ _ n2)
 dsimp only;unfold Builtin.ObjectAttr.storeInDict Builtin.ObjectAttr.newKeyGuard;refine ZU (ZT (ZU (wpAny_nsSet1 (Heap.Ns1.of_empty ⟨_,#[],_,q1,rfl,λ_ z=>absurd z (by simp),λ_=>rfl⟩) λh' hn hs=>?_)));obtain⟨oD,esD,epD,hoD,hdD,hcD⟩:=hn.count (Within.cons f v Within.nil);refine ZU (wpAny_lookBehind hoD (by rw[hdD];exact pastItsLine_dict (aL hcD (by rw[List.length_cons,List.length_nil,sizeLine_eq];exact Nat.le_add_left _ _))) ?_)
 wp_walk
 exact hq h' _ hn ((hs.2 x hxs).trans q2) λb n1 n2=>(hs.2 b n2).trans (q3 b n1 n2)
end
structure Ft(K:Frag)(C HE fI:Addr):Prop where
 ex:∃nm qn N bs sn sub ab col dd k0 k1 k2 k3 k5,K.lookup C=some (excClassObj nm qn C N bs (.ref HE::bmV) true sn sub ab col dd k0 k1 k2 k3 k5 "ValueError.__new__")/\nsOkIn K N=true/\nsIn K N "__init__" = some (some (.ref fI))
 he:Jz K HE
 fn:∃o,K.lookup fI=some o/\o.cls=.type "function"
 kp:keepIn K (.ref C)=true
theorem Xx{K:Frag}{h:Heap}{N:Addr}{m:Str->Ε}{n:Str}{v:Value}(X:K.In h)(G:h.Ns N m)(e:nsIn K N n=some (some v)):m n=some v:=by
 obtain⟨o,es,ep,ho,hd,_,hf⟩:=G;rw[<- hf];unfold nsIn at e;split at e
 .rename_i q
  cases(X _ _ q).symm.trans ho;cases hd;unfold nsFind findBy;rw[<- Array.find?_toList];split at e
  .rename_i en he
   cases e;rw[he];rfl
  .split at e<;>cases e
 .cases e
theorem Ft.obj{K:Frag}{h:Heap}{C HE fI:Addr}(q:Ft K C HE fI)(X:K.In h):∃nm qn N bs sn sub ab col dd k0 k1 k2 k3 k5 mN o,h.get? C=some (excClassObj nm qn C N bs (.ref HE::bmV) true sn sub ab col dd k0 k1 k2 k3 k5 "ValueError.__new__") /\
  h.Ns N mN/\mN "__init__" = some (.ref fI)/\h.get? fI=some o/\o.cls=.type "function" /\ OwnTail h bmV (.ref HE::bmV):=by
 obtain⟨nm,qn,N,bs,sn,sub,ab,col,dd,k0,k1,k2,k3,k5,l,a,b⟩:=q.ex;obtain⟨o,lo,ho⟩:=q.fn;obtain⟨bm,N',nm',qn',bs',hd',sn',sub',ab',col',dd',k0',k1',k2',k3',k5',mN',hC,hN,hi,T⟩:=Oa X q.he;exact⟨nm,qn,N,bs,sn,sub,ab,col,dd,k0,k1,k2,k3,k5,_,o,X _ _ l,.of_isNs (isNs_of_in X a),Xx X (.of_isNs (isNs_of_in X a)) b,X _ _ lo,ho,.own hC hN hi .base⟩
noncomputable abbrev JC(C t:Addr)(d:Ζ):Obj:={ cls:=.ref C,dict:=d,data:=.fields #[.ref t,.none,.none,.none,.bool false,.none] }
noncomputable def XN(a C:Addr)(d:Ζ):HO:=.ext λh=>∃t,h.get? a=some (JC C t d)
theorem T5{P:Program}{w:World}{H:Hp}{h:Heap}{a C t:Addr}{d:Ζ}(e:h.get? a=some (JC C t d)):cV P w H h a (XN a C d):=⟨⟨t,e⟩,⟨_,e⟩,λ_ _ ⟨u,z⟩ k=>⟨u,k _ z⟩⟩
theorem Ox{P:Program}{w:World}{H:Hp}{h:Heap}{a C:Addr}{d:Ζ}(e:cV P w H h a (XN a C d)):∃t,h.get? a=some (JC C t d):=e.1
theorem ZV{H:Hp}{a:Addr}{o:HO}(e:H a=some o):upd H a o=H:=by
 funext b;unfold upd;split
 .rename_i z;rw[z,e]
 .rfl
structure Vr(K:Frag)(B:Addr):Prop where
 ga:specialIn K (.ref B) "__getattribute__" = some (some (.builtin "type.__getattribute__"))
 rd:readsIn K B (.type "type")=true
 at_:findCls K (.ref B) (.type "type") "__init__" = some (.val (.builtin "ValueError.__init__"))
section
variable{X:Cx}{B C HE fI:Addr}{x:Str}{p pos apos:Pos}{e:Expr}{es:List Expr}{t:TA}{pins:Ψ}{σ:L2.St}{H:Hp}{s:Shared}
theorem init_exc{A:Around}{E:Ι}{Q:Ι}{a:Addr}{us:Ω}(I:Inv X pins σ H s)(q:Ft X.K C HE fI)(ha:H a=some (XN a C none))(hl:us.length<=sizeLine)
 (h:∀s',Inv X pins σ H s'->Q .none s'):wpAny (model X.prog X.w) A (call (.builtin "ValueError.__init__") (.ref a::us)) Q E s:=by
 obtain⟨nm,qn,N,bs,sn,sub,ab,col,dd,k0,k1,k2,k3,k5,mN,o,hC,hN,hi,hf,hfc,T⟩:=q.obj I.kIn;obtain⟨u,hx⟩:=Ox (I.hok a _ ha);have F:=PySem.F.excBase_ValueError;obtain⟨hp,gs,dr,tk,os⟩:=s;refine wpAny_call (codeAny_call_builtin F.init.plain F.initEntry (wpAny_check_init_subT F T hC hx rfl ?_))
 wp_walk
 refine h _ ?_;have e1:(hp.push { cls:=.type "tuple",data:=.seq us.toArray }).get? a=some (JC C u none):=aG _ hx;have J:=I.write (x:=a) (e:=a) (o:=XN a C none) (t':=tk) (h':=(hp.push { cls:=.type "tuple",data:=.seq us.toArray }).update a (Obj.mapFields λx=>x.setIfInBounds 0 (Value.ref hp.objs.size))) (by rw[ha];trivial) (.inl rfl)
  (λb v n z=>(Heap.get?_update_other _ _ (Ne.symm n)).trans (aG _ z)) ⟨_,Heap.get?_update_self _ e1 rfl⟩ (T5 (t:=hp.objs.size) (Heap.get?_update_self _ e1 rfl))
 rwa[ZV ha]at J
noncomputable def YH(C:Addr)(t:TA):TE:=λσ H Q=>t σ H λvs H1=>∃a ws,vs=.ref a::ws/\H1 a=some (XN a C none)/\ws.length<=sizeLine/\Q .non H1
theorem JB{pl:Sem Bool}(c:Vr X.K B)(q:Ft X.K C HE fI)(hg:Gl X x)(hm:X.mg x=some (.ref B))(ha:PA X (e::es) t)(hdb:(x==("__debug__" : Str))=false:=by decide)
 (hst:starEach (e::es) X.env=(false,eval e X.env)::starEach es X.env:=by rfl)(hpl:(backTo pos (starEach es X.env)).any (·.1)=false:=by rfl)
 (ht:eval (.Call (.Attribute (.Name x p) "__init__" apos) (e::es) [] pos) X.env=(do
   let ov <- eval (.Name x p) X.env
   standAt apos.atName
   let(f,first) <- holding [ov] (getMethod ov "__init__" pl)
   callWith pos f first (backTo pos (starEach (e::es) X.env)) (backToKw pos (keywordEach [] X.env))):=by rfl) :
  PE X (.Call (.Attribute (.Name x p) "__init__" apos) (e::es) [] pos) (YH C t):=by
 intro pins s σ H Q I h;refine methodCall_KW (pl:=pl) (lH I hg hm (method_cls I.kIn c.ga (cls_value I.kIn c.rd c.at_ (by decide) ?_)) hdb) ht;show wpAny _ _ (callWith pos (.builtin "ValueError.__init__") [] (backTo pos (starEach (e::es) X.env)) []) _ _ _;have h2:=ha pos pins _ σ H _ (I.tok (s.toks+1)) h;rw[hst]at h2 ⊢;refine PySem.W.callWith_of (P:=λ_=>True) (by show((false || (backTo pos (starEach es X.env)).any (·.1)) || false)=false;rw[hpl];rfl) (λ_ _=>⟨.machine,.inr (.inl rfl),.now⟩) (Calls.evalArgs_plain (thn h2 λus s2 ⟨vs,H2,I2,r,a,ws,e1,e2,e3,e4⟩=>⟨trivial,?_⟩));subst e1;cases r with
 |cons r1 r2 =>
  cases r1;exact init_exc I2 q e2 (by rw[<- r2.length];exact e3) λs' J=>⟨.non,H2,J,rfl,e4⟩
end
section
variable{X:Cx}{pins:Ψ}{σ:L2.St}{H:Hp}{s:Shared}{a C HE fI:Addr}{f:Str}{v:V}{A:Around}{E:Ι}
theorem QS{u:Value}{Q:Unit->Shared->Prop}(I:Inv X pins σ H s)(e:H a=some (XN a C none))(c:Pa X.K C)(n:dj X.K C f)(r:RelV v u)
 (h:∀d s',H d=none->d≠a->Inv X pins σ (upd (upd H a (XN a C (some d))) d (.xd [(f,v)])) s'->Q () s'):wpAny (model X.prog X.w) A (setAttr (.ref a) f u) Q E s:=by
 obtain⟨t,ha⟩:=Ox (I.hok a _ e);have nd:H s.heap.objs.size=none:=I.hok.fresh (aF _);have na:s.heap.objs.size≠a:=(aQ (aJ ha)).symm;refine X5 I.kIn c n ha rfl rfl rfl λh' t' hn hx ho=>h s.heap.objs.size _ nd na ?_;have J:=I.write (x:=a) (e:=a) (o:=XN a C (some s.heap.objs.size)) (t':=t') (h':=h') (by rw[e];trivial) (.inl rfl) (λb w z q=>(ho b z (aQ (aJ q))).trans q) ⟨_,hx⟩ (T5 hx);refine J.track ((bL na).trans nd) (Heap.get?_none_of_le I.sz) (Nat.ne_of_gt I.lt) (λx c q z=>?_) (λp q z=>?_) ⟨_,hn,λg=>?_⟩
 .obtain⟨w,o,q',_⟩:=I.cell x c q;rw[z]at q';exact X1 _ (aJ q')
 .have q':=(I.pin p q).1;rw[z]at q';exact X1 _ (aJ q')
 .by_cases z:g=f
  .subst z;simp[List.lookup];exact r
  .have:(g==f)=false:=by simp[z]
   simp[List.lookup,this,z]
   trivial
noncomputable def aaZ(K:Frag)(ta tv:TE)(f:Str):TS:=λD σ H=>tv σ H λy H1=>ta σ H1 λx H2=>∃a C,x=.ref a/\H2 a=some (XN a C none)/\Pa K C/\dj K C f/\∀d,H2 d=none->d≠a->D.nx σ (upd (upd H2 a (XN a C (some d))) d (.xd [(f,y)]))
theorem Oe{o value:Expr}{ta tv:TE}{pos pos':Pos}(ha:PE X o ta)(hv:PE X value tv)(hs:swapsWith value (some (.Attribute o f pos')) pos.line X.env=pure false):PS X (.Assign [.Attribute o f pos'] value pos) (aaZ X.K ta tv f):=by
 intro pins s σ H D I h;refine plainObj_wpAny_Assign_Attribute (thn (hv pins s σ H _ I h) λu s1 ⟨y,H1,I1,ry,q⟩=>thn (ha pins s1 σ H1 _ I1 q) λov s2 hP=>?_) hs;obtain⟨x,H2,I2,rx,a,C,ex,ea,c,n,q2⟩:=hP;subst ex;obtain rfl:ov=Value.ref a:=rx;exact QS I2 ea c n ry λd s3 h1 h2 I3=>⟨σ,_,I3,q2 d h1 h2⟩
theorem Inv.madeE{us:Ω}(I:Inv X pins σ H s):Inv X pins σ (upd H (s.heap.objs.size+1) (XN (s.heap.objs.size+1) C none)) { s with heap:=Du s.heap C us } :=
 I.laid (a:=s.heap.objs.size+1) (o:=XN (s.heap.objs.size+1) C none) (h':=Du s.heap C us) (t':=s.toks) xZ (Xs _) (T5 (t:=s.heap.objs.size) (by heap_get))
theorem Qw{k:Nat}{fd:FuncData}{ps:Ξ}{sp:Sp}{us:Ω}{vs:Κ}{Q:Addr->Hp->Prop}(q:Ft X.K C HE fI)(F:cD X.prog X.w X.K X.mg X.base CX0 k fI fd ps sp)(hr:eU (k+1) X.A)(hb:Binds X.K fd ps [])
 (I:Inv X pins σ H s)(r:Vals vs us)(hl:us.length<=sizeLine)(h:∀x,H x=none->sp (.ref x::vs) (upd H x (XN x C none)) (λv H2=>v=.non/\Q x H2) E0) :
  wpAny (model X.prog X.w) X.A (call (.ref C) us) (λu s'=>∃a H',u=.ref a/\X.s₀.heap.objs.size<=a/\Inv X pins σ H' s'/\Q a H') X.xe s:=by
 obtain⟨nm,qn,N,bs,sn,sub,ab,col,dd,k0,k1,k2,k3,k5,mN,o,hC,hN,hi,hf,hfc,T⟩:=q.obj I.kIn;have hq:=h (s.heap.objs.size+1) (I.hok.fresh (Xs _));have I2:=I.madeE (C:=C) (us:=us);have r2:Vals (V.ref (s.heap.objs.size+1)::vs) (Value.ref (s.heap.objs.size+1)::us):=.cons rfl r;have hl2:(Value.ref (s.heap.objs.size+1)::us++[]).length=ps.length:=by
  rw[List.append_nil,<- r2.length];exact F.len _ _ _ _ hq
 have hb':=hb _ (Value.ref (s.heap.objs.size+1)::us) I2.kIn hl2;rw[List.append_nil]at hb';have sz:=I.sz;obtain⟨hp,g,d,t,os⟩:=s;refine RV PySem.F.excBase_ValueError T hC hN hi hf hfc hl (wpAny_call (codeAny_mono (F.run _ X.stack _ _ ⟨Value.ref (hp.objs.size+1)::us,[]⟩ _ _ _ E0 (hr.make C us []) (I2.env0.make C us []) hb' r2 hq) λr s' hq'=>?_));cases r with
 |error e=>exact O7 pins σ _ _ e s' I2 hq'
 |ok fl =>
  cases fl with
  |ret u =>
   obtain⟨v,H',I3,rv,ev,q3⟩:=I2.after hq';subst ev;exact⟨rv,hp.objs.size+1,H',rfl,Nat.le_succ_of_le sz,I3,q3⟩
  |next=>exact False.elim hq'
  |brk=>exact False.elim hq'
  |cont=>exact False.elim hq'
end
noncomputable def out(H:Hp)(a:Addr):Hp:=λb=>if b=a then none else H b
theorem JV{H:Hp}{a:Addr} : out H a a=none:=by unfold out;rw[ZY rfl]
theorem rN{H:Hp}{a b:Addr}(n:b≠a):out H a b=H b:=by unfold out;rw[ZZ n]
theorem JM{H:Hp}{a b:Addr}{o:HO}(e:out H a b=some o):b≠a/\H b=some o:=by
 by_cases z:b=a
 .subst z;rw[JV]at e;cases e
 .exact⟨z,by rw[rN z]at e;exact e⟩
section
variable{X:Cx}{pins:Ψ}{σ:L2.St}{H:Hp}{s:Shared}{a C:Addr}{B h':Heap}{d:Ζ}
theorem Inv.flyMade(I:Inv X pins σ H s)(hx:X.ex=[])(e:H a=some (XN a C d))(sz:X.s₀.heap.objs.size<=a)(hB:B=hideAll (s.heap.hide a) (frs X.stack))(fl:pP B X.outer a (.ref C) d .none h')(up:s.heap.UpToSlots h') :
  Fly X.prog X.w X.outer X.H₀ X.s₀ a (.ref C) (out H a) { s with heap:=h' } B d:=by
 have inB:∀b o,b≠a->s.heap.get? b=some o->b∉frs X.stack->B.get? b=some o:=λb o n q m=>by rw[hB];exact hideAll_get _ ((Heap.hide_ne _ n).trans q) m
 have ni:∀b u,H b=some u->b∉frs X.stack:=λb u q z=>by rw[I.stkFree b z]at q;cases q
 have trk:∀b u o,b≠a->H b=some u->s.heap.get? b=some o->B.get? b=some o:=λb u o n q r=>inB b o n r (ni b u q);have na:∀b,H b=none->b≠a:=λb q z=>by rw[z,e]at q;cases q
 have nf:∀b∈frs X.stack,∀o,s.heap.get? b=some o->∀vs,o.data≠.fields vs:=λb hb o q=>by
  obtain⟨_,o',e',z⟩:=I.stack.mem hb;rw[q]at e';cases e';exact z
 have hok:HOk X.prog X.w (out H a) h':=λb u q=>by
  obtain⟨n,q⟩:=JM q;refine(I.hok b u q).stay (λc v hc r=>?_) (λc r=>?_) λc xs r=>?_
  .rcases hc with z|z
   .subst z;exact fl.1 c v (trk c u v n q r)
   .exact fl.1 c v (trk c _ v (d7 z e (by intro z;cases z)) z r)
  .rw[rN (d7 r e (by intro z;cases z))];exact r
  .rw[rN (d7 r e (by intro z;cases z))];exact r
 have un:Un (frs X.stack) [a] H (out H a) s.heap h':=by
  refine⟨λb o q n hb _=>fl.1 b o (inB b o (na b n) q hb),λb o q n hb _=>up b o q (nf b hb o q),λb o _ n _=>by rw[rN (na b n)];exact n,λb o q hb=>?_,λb xs q=>?_,λb o u q=>?_,λb ps q=>⟨#[],?_⟩⟩
  .by_cases m:b∈frs X.stack
   .obtain⟨sl,r⟩:=up b o q (nf b m o q);exact⟨_,r⟩
   .exact⟨o,fl.1 b o (inB b o (by simpa using hb) q m)⟩
  .rw[rN (d7 q e (by intro z;cases z))];exact q
  .rw[rN (d7 q e (by intro z;cases z))];exact q
  .rw[rN (d7 q e (by intro z;cases z)),q];simp
 have J:Inv X pins σ (out H a) { s with heap:=h' }:=I.call' (s':={ s with heap:=h' }) (ch:=[a]) rfl un hok I.bare λb hb=>by
  obtain rfl:b=a:=by simpa using hb
  exact⟨.inr sz,(λz=>by have:=I.free;rw[<- z,e]at this;cases this),(λx c q z=>by have:=I.freeC x c q;rw[z,e]at this;cases this),(λp hp z=>by have:=(I.pin p hp).2.1;rw[z,e]at this;cases this)⟩
 have lta:∀b o,X.s₀.heap.get? b=some o->b≠a:=λb o q z=>X1 a (aR (z ▸ aJ q) sz);refine⟨J.os,J.bare,Heap.get?_none_of_le sz,by have:=J.base;rw[hx]at this;exact this,J.hok,λb hb=>?_,fl,λb o q hb hc=>?_⟩
 .obtain⟨_,o,ho,_⟩:=I.ok.funs.mem hb;exact J.base.free b o ho (I.ok.frf b hb) λz=>I.ok.exfs b z hb
 .have fin:∀v,B.get? b=some v->B.get? b=some o:=λv y=>by
   have e2:=fl.1 b v y;rw[show({ s with heap:=h' } : Shared).heap.get? b=h'.get? b from rfl,e2]at q;cases q;exact y
  rcases hc with⟨u,r⟩|⟨u,r⟩
  .obtain⟨⟨v,z⟩,n⟩:=I.old hx r;exact fin v (inB b v (lta b u r) z (I.nostk n hb))
  .obtain⟨n,r⟩:=JM r;obtain⟨o',e'⟩:=(I.hok b u r).there;exact fin o' (trk b u o' n r e')
end
noncomputable def Vu(X:Cx)(Ex:Value->Ζ->L2.St->Hp->Prop):Prop :=
 ∀pins σ H s a C d,Inv X pins σ H s->H a=some (XN a C d)->X.s₀.heap.objs.size<=a->Ex (.ref C) d σ (out H a)->X.xe (.ref a) s
section
variable{P:Program}{w:World}{K:Frag}{mg:Str->Ε}{base:Heap}{N:Ξ}{qual:Str}{scope:Scope}{f:Addr}{cd:Value}{A:Around}{outer:List Env}{s:Shared}{H:Hp}{E:XK}
theorem wV:Vu (Bw (CXO P w) P w K mg base N qual scope f cd A outer s H E) (λC d _ H'=>E C d H'):=by
 intro pins σ H1 s1 a C d I e sz q;show wpAny _ _ (leaving _ (.ref a)) _ _ _;have hin:∀env∈(envOfC qual scope s.heap.objs.size f cd::outer),∀b,env.frame=some b->b∈frs (envOfC qual scope s.heap.objs.size f cd::outer):=λenv he b hb=>List.mem_filterMap.mpr ⟨env,he,hb⟩;obtain⟨t,ha⟩:=Ox (I.hok a _ e);have fr:(s1.heap.hide a).FunFrames base (envOfC qual scope s.heap.objs.size f cd::outer):=PySem.W.funFrames_hideAll (as:=[a]) I.stack λenv he b hb z=>by
  obtain rfl:b=a:=by simpa using hb
  have:=I.stkFree b (hin env he b z);rw[e]at this;cases this
 refine Dv (base:=hideAll (s1.heap.hide a) (frs (envOfC qual scope s.heap.objs.size f cd::outer))) (h0:=s1.heap.hide a) (outer:=outer) I.ok.frames rfl (λb o q=>of_hideAll _ q) (PySem.W.funFrames_hide fr hin) (λb o q=>Heap.of_hide q) (Heap.hide_self _ _) ha rfl rfl λh' fl up=>?_;exact⟨a,.ref C,d,out H1 a,_,rfl,I.flyMade rfl e sz rfl fl up,q⟩
end
section
variable{prog:Program}{w:World}{A:Around}{E:Ι}{s:Shared}{env:Env}{nm qn:Str}{C N:Addr}{bs bm:Ω}{hd:Bool}{sn:Ξ}{sub:Ω}{ab:Bool}{col:Option Bool}{dd:Ζ}{k0 k1 k2 k3 k5:Ε}
theorem PL{x:Sem Value}{Q:Flow->Shared->Prop}(hb:bm.contains (.type "BaseException")=true)(hh:A.handled=none)
 (h:wpAny (model prog w) A x (λv s1=>∃a t d,v=.ref a/\s1.heap.get? C=some (excClassObj nm qn C N bs bm hd sn sub ab col dd k0 k1 k2 k3 k5 "ValueError.__new__")/\s1.heap.get? a=some (JC C t d)/\E (.ref a) s1) E s):wpAny (model prog w) A (raiseStmt env (some x) none) Q E s:=by
 have hB:(Value.ref C::bm).contains (.type "BaseException")=true:=by rw[List.contains_cons,hb,Bool.or_true]
 unfold raiseStmt;refine ZU (wpAny_mono h (λv s1 z=>?_) λ_ _ z=>z);obtain⟨a,t,d,rfl,hC,ha,hE⟩:=z;obtain⟨hp,gs,dr,tk,os⟩:=s1
 repeat (first|with_reducible refine wpAny_loadPart_at ha ?_|with_reducible refine wpAny_loadPart_at hC ?_|(with_reducible refine wpAny_isSubtype_exc hC ?_;rw[hB])|wp_step)
 exact wpAny_raiseNew_none hh hE
end
section
variable{X:Cx}{x:Str}{np cpos pos:Pos}{e₀:Expr}{rest:List Expr}{ta:TA}{C HE fI:Addr}{Ex:Value->Ζ->L2.St->Hp->Prop}{k:Nat}{ps:Ξ}{sp:Sp}
noncomputable def zA(C:Addr)(sp:Sp)(Ex:Value->Ζ->L2.St->Hp->Prop)(ta:TA):TS:=λ_ σ H=>ta σ H λvs H1=>vs.length<=sizeLine/\∀a,H1 a=none->sp (.ref a::vs) (upd H1 a (XN a C none)) (λv H2=>v=.non/\∃d,H2 a=some (XN a C d)/\Ex (.ref C) d σ (out H2 a)) E0
theorem xP(hc:X.calm=true)(hg:Gl X x)(hm:X.mg x=some (.ref C))(q:Ft X.K C HE fI)(G:OkI X.prog X.w X.K X.mg X.base CX0 k fI ps sp)(hr:eU (k+1) X.A)(hx:Vu X Ex)(ha:PA X (e₀::rest) ta)(hdb:(x==("__debug__" : Str))=false:=by decide)
 (he:starEach (e₀::rest) X.env=(false,eval e₀ X.env)::starEach rest X.env:=by rfl)(hpl:(backTo cpos (starEach rest X.env)).any (·.1)=false:=by rfl) :
  PS X (.Raise (some (.Call (.Name x np) (e₀::rest) [] cpos)) none pos) (zA C sp Ex ta):=by
 obtain⟨fd,F,hb⟩:=G;intro pins s σ H D I h;obtain⟨nm,qn,N,bs,sn,sub,ab,col,dd,k0,k1,k2,k3,k5,mN,o,hC,hN,hi,hf,hfc,T⟩:=q.obj I.ok.mod.kin;rw[arm_exec_Raise];refine ZU (wpAny_standAt (PL (C:=C) (nm:=nm) (qn:=qn) (N:=N) (bs:=bs) (bm:=.ref HE::bmV) (hd:=true) (sn:=sn) (sub:=sub) (ab:=ab) (col:=col) (dd:=dd) (k0:=k0) (k1:=k1) (k2:=k2) (k3:=k3) (k5:=k5) (T.hasType (by decide)) (I.ok.hd hc) ?_));refine ZU (thn (Q:=λu s1=>∃a H' d,u=.ref a/\X.s₀.heap.objs.size<=a/\Inv X pins σ H' s1/\H' a=some (XN a C d)/\Ex (.ref C) d σ (out H' a)) ?_ λu s1 ⟨a,H',d,e1,e2,I1,e3,e4⟩=>ZU (wpAny_standAt (ZT ?_)))
 .refine wpAny_Call_Name_kw (lH I hg hm ?_ hdb);refine callWith_K (h₀:=X.base) I.ok.mod.kin q.kp (thn (ha cpos pins s σ H _ I h) λus s1 ⟨vs,H1,I1,r,hl,q1⟩=>⟨I1.kIn,?_⟩) he hpl;exact thn (Qw (Q:=λa H2=>∃d,H2 a=some (XN a C d)/\Ex (.ref C) d σ (out H2 a)) q F hr hb I1 r (by show us.length<=_;rw[<- r.length];exact hl) q1) λu s2 hP=>by obtain⟨a,H2,e1,e2,I2,d,e3,e4⟩:=hP;exact⟨a,H2,d,e1,e2,I2,e3,e4⟩
 .obtain⟨t,ht⟩:=Ox (I1.hok a _ e3);exact⟨a,t,d,e1,I1.bk _ _ hC,ht,hx pins σ H' s1 a C d I1 e3 e2 e4⟩
end
section
variable{prog:Program}{w:World}{A:Around}{E:Ι}{h:Heap}{g:Array GenState}{d:Drawn}{t:Nat}{os:OsState}{a C:Addr}{o:Obj}{od:Option Obj}{K:Frag}{f:Str}{u:Value}
theorem Mv{tk:Tok}{fl b:Bool}{Q:Ι}(X:K.In h)(T:uw K C)(J:PySem.W.InstAt h a o C od)(hx:h.get? a=some o)(hc:o.cls=.ref C)(hf:PySem.W.findObj K C od f=some (.value u))(hh:handedIn u=true)(hq:Q u ⟨h,g,d,t,os⟩) :
  wpAny (model prog w) A (getAttrBy (.ref a) (.str f tk) fl b) Q E ⟨h,g,d,t,os⟩:=by
 have f3:=F.excAttr_ValueError.ga.bind (.ref a);have n2:(Value.builtin "BaseException.__getattribute__" == Value.builtin "object.__getattribute__")=false:=by decide +kernel
 have n1:(onTheHeap (Value.ref C)&&Value.builtin "BaseException.__getattribute__" == Value.builtin "object.__getattribute__")=false:=by rw[n2];exact Bool.and_false _
 have LT:=gD (M:=model prog w) hx hc;have LG:=looks_findIn (M:=model prog w) X T.ga;have LN:=looks_findIn (M:=model prog w) X T.gn;have LF:=PySem.W.looks_find (M:=model prog w) X J hf
 repeat (any_goals (first|assumption|with_reducible refine LT.at ?_|with_reducible refine LG.at ?_|with_reducible refine LN.at ?_|(with_reducible refine wpAny_loadPart_at hx ?_;rw[hc])|wp_step))
 rw[ZZ (show ¬(b&&onTheHeap (Value.builtin "BaseException.__getattribute__"))=true from by rw[show onTheHeap (Value.builtin "BaseException.__getattribute__")=false from rfl,Bool.and_false];exact bC)]
 repeat (any_goals (first|assumption|wp_step))
 refine codeAny_call_builtin F.excAttr_ValueError.ga.plain F.entry_bexc_ga (v8 X T hx hc ?_)
 repeat (any_goals (first|assumption|with_reducible refine LT.at ?_|with_reducible refine LF.at ?_|wp_step))
 show wpAny _ _ (handedOut u) _ _ _;rw[PySem.W.handedOut_of hh];exact ZT hq
end
section
variable{X:Cx}{pins:Ψ}{σ:L2.St}{H:Hp}{s:Shared}{a d C:Addr}{fs:List (Str×V)}{f:Str}{v:V}{A:Around}{E:Ι}
theorem Qq{b:Bool}{Q:Ι}(I:Inv X pins σ H s)(e:H a=some (XO a C (some d)))(ed:H d=some (.xd fs))(c:uw X.K C)(hh:hasDictIn X.K C=true)(n:dj X.K C f)(l:fs.lookup f=some v)
 (h:∀u s',Inv X pins σ H s'->RelV v u->Q u s'):wpAny (model X.prog X.w) A (getAttr (.ref a) f b) Q E s:=by
 obtain⟨ox,hx,hc,hd,vs,hv⟩:=(I.hok a _ e).1;obtain⟨mA,hn,r⟩:=I.hok d _ ed;obtain⟨od,ho,hl⟩:=D_ hn;obtain⟨u,hu,ru⟩:=qZ.some_of (v:=v) (o:=mA f) (by rw[<- l];exact r f);have J:PySem.W.InstAt s.heap a ox C (some od):=⟨hx,hc,by unfold notCls;rw[hv],by rw[hd];exact ho⟩;have I2:=I.tok (s.toks+1);have kI:=I.kIn;obtain⟨hp,g,dr,t,os⟩:=s;unfold getAttr
 repeat (first|exact Mv kI c J hx hc (findObj_own hh n rfl (by rw[hl,hu])) (DR ru) (h u _ I2 ru)|wp_step)
noncomputable def Yi(K:Frag)(ta:TE)(f:Str):TE:=λσ H Q=>ta σ H λx H1=>∃a C d fs v,x=.ref a/\H1 a=some (XO a C (some d))/\H1 d=some (.xd fs)/\uw K C/\hasDictIn K C=true/\dj K C f/\fs.lookup f=some v/\Q v H1
theorem Wj{e:Expr}{ta:TE}{pos:Pos}(he:PE X e ta)(hb:attributeBase e f X.env (eval e X.env)=eval e X.env):PE X (.Attribute e f pos) (Yi X.K ta f):=by
 intro pins s σ H Q I h;refine Np hb (thn (he pins s σ H _ I h) λu s1 hP=>?_);obtain⟨x,H1,I1,rx,a,C,d,fs,v,ex,ea,ed,c,hd,n,l,q⟩:=hP;subst ex;obtain rfl:u=Value.ref a:=rx;exact Qq I1 ea ed c hd n l λu' s2 I2 ru=>⟨v,H1,I2,ru,q⟩
end
theorem fsc{N P:Ξ}{sc:Scope}(h1:sc.kind=.function:=by rfl)(h2:sc.isCoroutine=false:=by rfl)(h3:sc.isGenerator=false:=by rfl)(h4:N.Nodup/\(∀x∈P,sc.names.lookup x=some .local\/sc.names.lookup x=some .cell)/\∀y∈sc.names,y.2≠.free:=by decide +kernel)(h5:N.take P.length=P:=by rfl):bV N P sc:=⟨h1,h2,h3,h4.1,h5,h4.2.1,h4.2.2⟩
noncomputable abbrev CK(sc scope:Scope)(N N' xs:Ξ):Prop:=Eh xs N=N'/\(xs++N').Nodup/\(∀y∈scope.names,y.2≠.cell)/\(∀y∈scope.names,y.2=.local->scope.names.lookup y.1=some .local)/\(∀y∈scope.names,y.2=.free->sc.names.lookup y.1=some .cell\/sc.names.lookup y.1=some .free) /\
 (∀y∈N,y∉xs->(scope.names.map λ(n,k)=>if(k==NameKind.free&&sc.kind == .function&&sc.names.lookup n==some .cell)then(n,NameKind.cell)else(n,k)).lookup y≠some .local)/\∀y∈N,y∈xs->(scope.names.map λ(n,k)=>if(k==NameKind.free&&sc.kind == .function&&sc.names.lookup n==some .cell)then(n,NameKind.cell)else(n,k)).lookup (hid y)=none
section
variable{X:Cx}{elt iter tg:Expr}{pos:Pos}{scope:Scope}{wi:TI}{te:TE}{ifs:List Expr}{gt:TG}{tc:TT}
theorem pF(sc:Scope)(N N' xs:Ξ)(hi:PI X tg iter wi)(hg:∀{C s₀ H₀ ex pn},PG (X.compG N' scope xs C s₀ H₀ ex pn) tg gt)(ht:∀{C s₀ H₀ ex pn},PTs (X.compG N' scope xs C s₀ H₀ ex pn) ifs tc)(he:∀{C s₀ H₀ ex pn},PE (X.compG N' scope xs C s₀ H₀ ex pn) elt te)
 (hsc:X.env.scope=sc:=by rfl)(hNN:X.N=N:=by rfl)(hc:X.calm=true:=by rfl)(hk:scope.kind=.function:=by rfl)(h:CK sc scope N N' xs:=by decide +kernel)(hs:∀z,foldedSetIterable iter X.env z=pure z:=by intro _;rfl):PE X (.ListComp elt [⟨tg,iter,ifs,0⟩] scope pos) (ju wi xs.length (tMG gt) (tMT tc) (tM te)) :=
 by
 subst hsc hNN;exact Sq hc h.1 h.2.1 hk h.2.2.1 h.2.2.2.1 h.2.2.2.2.1 h.2.2.2.2.2.1 h.2.2.2.2.2.2 hi (λ_ _ _ _ _=>hg.mono) (λ_ _ _ _ _=>ht.mono) (λ_ _ _ _ _=>he.mono) hs
theorem Nq{i0:Nat}{y0:Str}{py spos:Pos}(sc:Scope)(N N' xs:Ξ)(hi:PI X tg iter wi)(hg:∀{C s₀ H₀ ex pn},PG (X.compG N' scope xs C s₀ H₀ ex pn) tg gt)(ht:∀{C s₀ H₀ ex pn},PTs (X.compG N' scope xs C s₀ H₀ ex pn) ifs tc)(he:∀{C s₀ H₀ ex pn},PE (X.compG N' scope xs C s₀ H₀ ex pn) elt te)(hgy:PG X (.Name y0 py) (cu i0))
 (hsc:X.env.scope=sc:=by rfl)(hNN:X.N=N:=by rfl)(hc:X.calm=true:=by rfl)(hk:scope.kind=.function:=by rfl)(h:CK sc scope N N' xs:=by decide +kernel)(hsw:swapsWith (.ListComp elt [⟨tg,iter,ifs,0⟩] scope pos) (some (.Name y0 py)) spos.line X.env=pure true:=by rfl)(hs:∀z,foldedSetIterable iter X.env z=pure z:=by intro _;rfl) :
  PS X (.Assign [.Name y0 py] (.ListComp elt [⟨tg,iter,ifs,0⟩] scope pos) spos) (Fz (ju wi xs.length (tMG gt) (tMT tc) (tM te)) (cu i0)) :=
 by
 subst hsc hNN;exact R9 hc h.1 h.2.1 hk h.2.2.1 h.2.2.2.1 h.2.2.2.2.1 h.2.2.2.2.2.1 h.2.2.2.2.2.2 hi (λ_ _ _ _ _=>hg.mono) (λ_ _ _ _ _=>ht.mono) (λ_ _ _ _ _=>he.mono) hgy hsw hs
theorem fZ{N' xs:Ξ}{C s₀ H₀ ex pn}{i:Nat}{x:Str}{p:Pos}(hN:(xs++N').Nodup:=by decide +kernel)(hi:(xs++N')[i]?=some x:=by rfl)(hx:Loc (X.compG N' scope xs C s₀ H₀ ex pn).env.scope x:=by exact Or.inl rfl)(hf:(X.compG N' scope xs C s₀ H₀ ex pn).fn x=true\/(X.compG N' scope xs C s₀ H₀ ex pn).env.scope.names.lookup x=some .local:=by exact Or.inr rfl):PG (X.compG N' scope xs C s₀ H₀ ex pn) (.Name x p) (cu i):=cF hN hi hx hf
end
theorem Jp{tl te:TE}{σ:L2.St}{H:Hp}{Q:VK}(p:Nat->Bool)(y:Str)(hl:∀R:VK,R (.str y) H->tl σ H R)(hz:y.length<=sizeLine)(he:∀(c:Nat)(Hc:Hp)(R:VK),R (.bl (p c)) Hc->te (some (.str ⟨#[c]⟩)::σ) Hc R)
 (q:∀D,H D=none->Q (.ref D) (upd H D (.lst ((y.cps.toList.map p).map V.bl)))):ju (aaC (tM tl)) 1 (tMG (cu 0)) (tMT Lw) (tM te) σ H Q:=by
 refine Yl (hl _ ⟨y,rfl,λD hD=>?_⟩);have hy:y.cps.size<=sizeLine:=hz;refine⟨λk m ys Hc=>k<=y.cps.size/\m=y.cps.size-k/\ys=((y.cps.toList.take k).map p).map V.bl/\Hc=upd H D (.lst ys),⟨_,bh _,rfl,rfl,rfl⟩,?_⟩;rintro k m ys Hc ⟨hk,rfl,rfl,rfl⟩;by_cases e:k=y.cps.size
 .subst e;refine .inl ⟨rfl,?_⟩;rw[aK (by simp)];exact q D hD
 .have hlt:k<y.cps.size:=by exact XX hk e
  refine .inr ⟨hlt,?_⟩;rintro x H'' ⟨rfl,c,hc,rfl⟩;refine(Ur (No:=λ_=>False) (he c _ (λv H2=>v=.bl (p c)/\H2=upd H D (.lst (((y.cps.toList.take k).map p).map V.bl))) ⟨rfl,rfl⟩)).weak ?_ λ_ z=>z.elim;rintro v H2 ⟨rfl,rfl⟩;refine⟨?_,bI,y.cps.size-(k+1),by lia,by exact hlt,rfl,?_,?_⟩
  .rw[ak,ak,aZ];simp only[Array.length_toList];lia
  .have e1:y.cps.toList.take (k+1)=y.cps.toList.take k++[c]:=by
    rw[List.take_succ];have:y.cps.toList[k]?=some c:=by simpa using hc
    rw[this];rfl
   rw[e1,bA,bA];rfl
  .exact tQ
theorem aa5{K:Frag}{a:Addr}{i j:Int}{d:Ζ}{n:Nat}{sl:Array (Ε)}{t u:Tok}(l:K.lookup a=some ⟨.type "tuple",d,.seq #[.int i t,.int j u] n,sl⟩):∀H,SqT K H a [.int i,.int j]:=λH=>.inr ⟨_,_,_,l,rfl,rfl,(by show 2<=sizeLine;decide),.cons ⟨_,rfl⟩ (.cons ⟨_,rfl⟩ .nil)⟩
theorem ado{K:Frag}{h:Heap}{mg:Str->Ε}{x:Str}{i:Int}{t:Tok}(X:K.In h)(G:h.Ns mainGlobals mg)(l:nsIn K mainGlobals x=some (some (.int i t))):∃u,mg x=some u/\RelV (.int i) u:=⟨_,mg_of X G l,_,rfl⟩
noncomputable def Lst:Nat->(Ω->Prop)->Prop
 |0,P=>P []
 |n+1,P=>∀a,Lst n λl=>P (a::l)
theorem Hy:∀(n:Nat){P:Ω->Prop},Lst n P->∀us:Ω,us.length=n->P us
 |0,_,h,[],_=>h
 |n+1,_,h,a::l,e=>Hy n (h a) l (Nat.succ.inj e)
section
variable{K:Frag}{h:Heap}{mg:Str->Ε}{x m qual:Str}{v:Value}{C f:Addr}{st:Stmt}{ps:Ξ}{oc:Value}{od an:Ζ}{osl:Array (Ε)}{kV doc pm cdv ct:Value}{i j:Int}{d:Ζ}{n:Nat}{sl:Array (Ε)}{t u:Tok}
theorem q_c(X:K.In h:=by assumption)(G:h.Ns mainGlobals mg:=by assumption)(e:nsIn K mainGlobals x=some (some v):=by k_is):mg x=some v:=mg_of X G e
theorem q_z(X:K.In h:=by assumption)(G:h.Ns mainGlobals mg:=by assumption)(e:nsIn K mainGlobals x=some none:=by k_is):mg x=none:=PySem.W.mg_none_of X G e
theorem q_n(e:findIn K (.ref C) x=some none:=by k_is):dj K C x:=e
theorem q_m(a:findIn K (.ref C) m=some (some (.ref f)):=by k_is)(b:isFn K (.ref f)=true:=by k_is)(c:keepIn K (.ref f)=true:=by k_is):Meth K C m f:=⟨a,b,c⟩
theorem q_M(a:makesIn K C=true:=by k_is)(b:findIn K (.ref C) "__init__" = some (some (.ref f)):=by k_is)(c:isFn K (.ref f)=true:=by k_is)(e:keepIn K (.ref C)=true:=by k_is):Mk K C f:=⟨a,b,c,e⟩
theorem q_4(a:plainGet K C Str.empty=true:=by k_is)(b:hasDictIn K C=true:=by k_is)(c:plainOver K C=true:=by k_is)(e:findIn K (.ref C) "__setattr__" = some (some (.builtin "object.__setattr__")):=by k_is):Cls K C:=⟨a,b,c,e⟩
theorem q_B(a:specialIn K (.ref C) "__getattribute__" = some (some (.builtin "type.__getattribute__")):=by k_is)(b:readsIn K C (.type "type")=true:=by k_is)(c:findCls K (.ref C) (.type "type") m=some (.val (.ref f)):=by k_is)(e:keepIn K (.ref f)=true:=by k_is):DW K C m f:=⟨a,b,c,rfl,e⟩
theorem q_x(e:excIn K C bmV "ValueError.__new__" = true:=by k_exc):Jz K C:=e
theorem q_g(X:K.In h:=by assumption)(G:h.Ns mainGlobals mg:=by assumption)(l:nsIn K mainGlobals x=some (some (.int i t)):=by k_is):∃u,mg x=some u/\RelV (.int i) u:=ado X G l
theorem q_t(l:K.lookup C=some ⟨.type "tuple",d,.seq #[.int i t,.int j u] n,sl⟩:=by k_is):∀H,SqT K H C [.int i,.int j]:=aa5 l
theorem q_f(N:Nat)(hb:∀(kV doc pm:Value)(an:Ζ)(cdv ct:Value),Lst N λus=>bindArgs (PySem.W.fnOf x x (gK st) (eZ st) (bN st) .none kV doc pm an cdv ct) ⟨us,[]⟩=pure (ps.zip us))(hN:ps.length=N:=by rfl)(X:K.In h:=by assumption)(G:h.Ns mainGlobals mg:=by assumption)
 (a:nsIn K mainGlobals x=some (some (.ref f)):=by k_is)(l:K.lookup f=some ⟨oc,od,.func (PySem.W.fnOf x x (gK st) (eZ st) (bN st) .none kV doc pm an cdv ct),osl⟩:=by k_is)
 (c:codeIn K cdv x=true:=by k_is)(k:keepIn K (.ref f)=true:=by k_is):dG K mg x st ps:=Xg X G a l c k λkV doc pm an cdv ct us e=>Hy N (hb kV doc pm an cdv ct) us (e.trans hN)
theorem q_h(N:Nat)(hb:∀(kV doc pm:Value)(an:Ζ)(cdv ct:Value),Lst N λus=>bindArgs (PySem.W.fnOf x qual (gK st) (eZ st) (bN st) .none kV doc pm an cdv ct) ⟨us,[]⟩=pure (ps.zip us))(hN:ps.length=N:=by rfl)
 (l:K.lookup f=some ⟨oc,od,.func (PySem.W.fnOf x qual (gK st) (eZ st) (bN st) .none kV doc pm an cdv ct),osl⟩:=by k_is)(c:codeIn K cdv qual=true:=by k_is)(k:keepIn K (.ref f)=true:=by k_is):vC K x qual st ps f:=VN l c k λkV doc pm an cdv ct us e=>Hy N (hb kV doc pm an cdv ct) us (e.trans hN)
end
section
variable{K:Frag}{C HE fI:Addr}{nm qn:Str}{N:Addr}{bs sub:Ω}{sn:Ξ}{ab:Bool}{col:Option Bool}{dd:Ζ}{k0 k1 k2 k3 k5:Ε}{o:Obj}{cd:ClassData}
theorem q_E(he:excIn K HE bmV "ValueError.__new__" = true:=by k_exc)(l:K.lookup C=some (excClassObj nm qn C N bs (.ref HE::bmV) true sn sub ab col dd k0 k1 k2 k3 k5 "ValueError.__new__"):=by k_is)(n1:nsOkIn K N=true:=by kernel_rfl)(n2:nsIn K N "__init__" = some (some (.ref fI)):=by k_is)
 (lf:K.lookup fI=some o:=by k_is)(hf:o.cls=.type "function" := by rfl)(kp:keepIn K (.ref C)=true:=by k_is):Ft K C HE fI:=⟨⟨nm,qn,N,bs,sn,sub,ab,col,dd,k0,k1,k2,k3,k5,l,n1,n2⟩,he,⟨o,lf,hf⟩,kp⟩
theorem q_S(a:clsIn K C=some cd:=by k_is)(b:cd.hasDict=true:=by rfl)(c:G5 cd.mro=true:=by rfl)(e:findIn K (.ref C) "__setattr__" = some (some (.builtin "object.__setattr__")):=by k_is)(m:mroIn K C (.type "object")=some true:=by k_is):Pa K C:=⟨⟨cd,a,b,c⟩,e,m⟩
theorem q_b(a:specialIn K (.ref C) "__getattribute__" = some (some (.builtin "type.__getattribute__")):=by k_is)(b:readsIn K C (.type "type")=true:=by k_is)(c:findCls K (.ref C) (.type "type") "__init__" = some (.val (.builtin "ValueError.__init__")):=by k_is):Vr K C:=⟨a,b,c⟩
theorem q_5(a:findIn K (.ref C) "__getattribute__" = some (some (.builtin "BaseException.__getattribute__")):=by k_is)(b:findIn K (.ref C) "__getattr__" = some none:=by k_is)(c:findIn K (.ref C) "__class__" = some (some (.builtin "object.__class__")):=by k_is)(e:mroIn K C (.type "object")=some true:=by k_is)(m:mroIn K C (.type "BaseException")=some true:=by k_is):uw K C:=⟨a,b,c,e,m⟩
end
section
variable{X:Cx}{k:Nat}{f C:Addr}{ps:Ξ}{sp:Sp}{m:Str}{pos apos:Pos}{e o:Expr}{es:List Expr}{ta:TE}{t:TA}{Ex:Value->Ζ->L2.St->Hp->Prop}
noncomputable def WY(C:Addr)(m:Str)(sp:Sp)(Ex:Value->Ζ->L2.St->Hp->Prop)(ta:TE)(t:TA):TE:=λσ H Q=>ta σ H λx H1=>∃a dx fs,x=.ref a/\H1 a=some (.ins C dx fs)/\fs.lookup m=none/\t σ H1 λvs H2=>sp (x::vs) H2 Q λD d H'=>Ex D d σ H'
theorem Pb{pl:Sem Bool}(he:PE X o ta)(c:Cls X.K C)(hm:Meth X.K C m f)(G:OkI X.prog X.w X.K X.mg X.base (CXO X.prog X.w) k f ps sp)(hr:eU k X.A)(hx:BZ X Ex)(ha:PA X (e::es) t)
 (hst:starEach (e::es) X.env=(false,eval e X.env)::starEach es X.env:=by rfl)(hpl:(backTo pos (starEach es X.env)).any (·.1)=false:=by rfl)
 (ht:eval (.Call (.Attribute o m apos) (e::es) [] pos) X.env=(do
   let ov <- eval o X.env
   standAt apos.atName
   let(f,first) <- holding [ov] (getMethod ov m pl)
   callWith pos f first (backTo pos (starEach (e::es) X.env)) (backToKw pos (keywordEach [] X.env))):=by rfl) :
  PE X (.Call (.Attribute o m apos) (e::es) [] pos) (WY C m sp Ex ta t):=by
 obtain⟨fd,F,hb⟩:=G;intro pins s σ H Q I h;refine methodCall_KW (pl:=pl) (thn (he pins s σ H _ I h) λu s1 hP=>?_) ht;obtain⟨x,H1,I1,rx,a,dx,fs,ex,ea,l,q⟩:=hP;subst ex;obtain rfl:u=Value.ref a:=rx;refine uN I1 ea c hm l ?_;refine callWith_K (first:=[.ref a]) (h₀:=X.base) I1.ok.mod.kin hm.kp (thn (ha pos pins _ σ H1 _ I1 q) λus s2 ⟨vs,H2,I2,r,q2⟩=>⟨I2.kIn,?_⟩) hst hpl;exact Ov (us:=.ref a::us) (vs:=.ref a::vs) F hr hb .nil hx I2 (.cons rfl r) (by rw[List.append_nil];exact q2)
theorem Vz{K':Frag}{f:Str}(hK:X.K=K')(he:PE X e ta)(hb:attributeBase e f X.env (eval e X.env)=eval e X.env):PE X (.Attribute e f pos) (Yi K' ta f):=by
 subst hK;exact Wj he hb
theorem eX{K':Frag}(hK:X.K=K'):d8 X (.builtin "isinstance") (Yn K'):=by
 subst hK;exact QV
end
section
variable{X:Cx}{es:List Expr}{t:TA}{pos:Pos}
noncomputable def ady(t:TA):TE:=λσ H Q=>t σ H λxs H1=>xs.length<=sizeLine/\∀p H',Same H1 H'->H1 p=none->H' p=some (.lst xs)->Q (.ref p) H'
noncomputable def aei(t:TA):TE:=λσ H Q=>t σ H λxs H1=>xs.length<=sizeLine/\∀p H',Same H1 H'->H1 p=none->H' p=some (.tup xs)->Q (.ref p) H'
theorem dZ(h:PA X es t):PE X (.List es pos) (ady t):=(pR h.mono).imp λσ H Q h=>⟨_,h,λxs H1 z=>⟨z.1,λp hp=>z.2 p _ (Same.upd hp) hp bI⟩⟩
theorem dO{k:Nat}(h:PA X es t):PE X (.Tuple es k pos) (aei t):=(oh h.mono).imp λσ H Q h=>⟨_,h,λxs H1 z=>⟨z.1,λp hp=>z.2 p _ (Same.upd hp) hp bI⟩⟩
noncomputable def aah:R2:=λx y H Q=>∃l b xs zs,x=.ref l/\y=.ref b/\H l=some (.lst xs)/\H b=some (.lst zs)/\xs.length+zs.length<=sizeLine/\∀p H',Same H H'->H p=none->H' p=some (.lst (xs++zs))->Q (.ref p) H'
theorem v7:OpR X (binaryOp .Add) aah:=RG.imp λx y H Q hP=>by obtain⟨l,b,xs,zs,e1,e2,h1,h2,z,q⟩:=hP;exact⟨l,b,xs,zs,e1,e2,h1,h2,z,λp hp=>q p _ (Same.upd hp) hp bI⟩
noncomputable def Y8:Κ->Hp->VK->Prop:=λxs H Q=>∃p ys,xs=[.ref p]/\H p=some (.lst ys)/\∀l H',Same H H'->H l=none->H' l=some (.lst ys)->Q (.ref l) H'
theorem mW:d8 X (.type "list") Y8:=uX.imp λxs H Q hP=>by obtain⟨p,ys,a,b,c⟩:=hP;exact⟨p,ys,a,b,λl hl=>c l _ (Same.upd hl) hl bI⟩
noncomputable def aat:Κ->Hp->VK->Prop:=λxs H Q=>∃p ys,xs=[.ref p]/\H p=some (.lst ys)/\∀l H',Same H H'->H l=none->H' l=some (.tup ys)->Q (.ref l) H'
theorem PK:d8 X (.type "tuple") aat:=CZ.imp λxs H Q hP=>by obtain⟨p,ys,a,b,c⟩:=hP;exact⟨p,ys,a,.inl ⟨.of b,λl hl=>c l _ (Same.upd hl) hl bI⟩⟩
noncomputable def ad3:V->Option Int->Option Int->Hp->VK->Prop:=λx lo hi H Q=>∃a xs,x=.ref a/\H a=some (.lst xs)/\∀p H',Same H H'->H p=none->H' p=some (.lst (qb xs lo hi))->Q (.ref p) H'
theorem Ah:SlR X ad3:=λpins s σ H x v vl vu lo hi sl Q I rx hs pl pu hP=>by obtain⟨a,xs,e,h,q⟩:=hP;exact Hi pins s σ H x v vl vu lo hi sl Q I rx hs pl pu ⟨a,xs,e,.of h,λp hp=>q p _ (Same.upd hp) hp bI⟩
end
theorem boot_reversed:bootBuiltins "reversed" = some (.type "reversed"):=by decide +kernel
noncomputable def Itv(l:Addr)(xs:Κ):It:=⟨λi H=>H l=some (.lst xs)/\i<xs.length,λi H v H'=>H'=H/\xs[xs.length-1-i]?=some v,λi H=>H l=some (.lst xs)/\i=xs.length⟩
theorem Uv{P:Program}{w:World}{K:Frag}{tg:Expr}(it a:Addr)(xs:Κ):Turn P w K tg (Itv a xs) [it] it (λi h=>i<=xs.length/\h.IsRevIter it a ((xs.length:Int)-1-i)) where
 mem:=by simp
 obj:=λi h st b hb=>by
  have e:b=it:=by simpa using hb
  subst e;obtain⟨_,o,e,c,d⟩:=st;exact⟨o,e,λv z=>by rw[d]at z;cases z⟩
 keep:=λi h h' st k=>⟨st.1,st.2.at λo e=>k it (by simp) o e⟩
 item:=by
  intro X hP hw hK hc i pins s σ H E I hf st hg;subst hP hw hK;obtain⟨hq,lt⟩:=hg;obtain⟨_,its,n1,rv,le1,g1⟩:=I.lstM hq;have ex:xs[xs.length-1-i]?=some (xs[xs.length-1-i]'(by omega)):=aj _;obtain⟨u,hu,ru⟩:=N7 rv ex;obtain⟨f0,f1,f2,f3,f4,f5⟩:=hf it (by simp);have st2:=st.2;rw[show(xs.length:Int)-1-i=((xs.length-1-i:Nat):Int)by omega]at st2;refine wpAny_pyNext_rev_item st2 (items:=its.toArray) ⟨_,g1,rfl,n1,rfl⟩ (x:=u) (by simpa using hu) λh' st' sb=>?_;have I1:Inv X pins σ H { s with heap:=h' }:=I.turned (t':=s.toks) (λb o hb e=>(sb.2 b hb).trans e) f0 f1 f3 f4 f5;obtain⟨o,e,c,d⟩:=id st';refine⟨u,rfl,Jd (s:={ s with heap:=h' }) e c d (by decide) ⟨_,H,I1,ru,⟨rfl,ex⟩,⟨by exact lt,?_⟩,λb hb=>(hf b hb).1⟩⟩;rw[show(xs.length:Int)-1-((i+1:Nat):Int)=((xs.length-1-i:Nat):Int)-1 by omega];exact st'
 done:=by
  intro X hP hw hK hc i pins s σ H E I hf st hg;subst hP hw hK;obtain⟨hq,e⟩:=hg;obtain⟨f0,f1,f2,f3,f4,f5⟩:=hf it (by simp);have st2:=st.2;rw[show(xs.length:Int)-1-i=-1 by lia]at st2;exact wpAny_pyNext_rev_end (I.ok.hd hc) st2 λh' eb=>⟨rfl,I.turned (t':=s.toks) (λb o hb e=>eb b o hb e) f0 f1 f3 f4 f5⟩
 self:=λ_ _ _ _ _ st h=>wpAny_pyIter_revIter st.2 h
section
variable{X:Cx}{tg:Expr}
noncomputable def acu(ta:TA):TI:=λσ H R=>ta σ H λvs H1=>∃a xs,vs=[.ref a]/\H1 a=some (.lst xs)/\R (Itv a xs) H1
theorem ZR{a:Expr}{ta:TA}{p pos:Pos}(hg:Gl X "reversed")(hm:X.mg "reversed" = none)(ha:PA X [a] ta)(hs:starEach [a] X.env=[(false,eval a X.env)]:=by rfl):PI X tg (.Call (.Name "reversed" p) [a] [] pos) (acu ta):=by
 intro pins s σ H R I h;refine Call_ (wW I hg hm boot_reversed (PyProof.Rows.callWith_type1 (thn (ha pos pins s σ H _ I h) λus s1 hP=>?_) (by rw[hs];rfl) (by rfl)));obtain⟨vs,H1,I1,r1,q1⟩:=hP;obtain⟨l1,xs,e,h1,q⟩:=q1;subst e;obtain⟨u,rfl,ru⟩:=r1.one;cases ru;obtain⟨_,it1,n1,rv1,le1,g1⟩:=I1.lstM h1;refine call_reversed_list (items:=it1.toArray) ⟨_,g1,rfl,n1,rfl⟩ ?_;have is:(s1.heap.push (revObj l1 ((it1.toArray.size:Int)-1))).IsRevIter s1.heap.objs.size l1 ((xs.length:Int)-1-((0:Nat):Int)):=by
  have:(it1.toArray.size:Int)-1=(xs.length:Int)-1-((0:Nat):Int):=by
   have:=rv1.length;simp;lia
  rw[this];exact⟨_,aX _ rfl,rfl,rfl⟩
 refine wpAny_pyIter_revIter is ?_;refine⟨s1.heap.objs.size,[s1.heap.objs.size],_,_,H1,rfl,I1.kept (t':=s1.toks) λb o e=>aG _ e,Uv _ l1 xs,⟨bh _,is⟩,λb hb=>?_,q⟩;have e:b=s1.heap.objs.size:=by simpa using hb
 subst e;exact I1.fpOk (aF _) (I1.hok.fresh (aF _))
end
theorem Pq{ta:TA}{g:TG}{tb:TS}{D:Ends}{σ:L2.St}{H:Hp}(h:ta σ H λvs H1=>∃a xs,vs=[.ref a]/\H1 a=some (.lst xs)/\∃J:Nat->L2.St->Hp->Prop,J 0 σ H1 /\
   (∀(k:Nat)x σ' H',xs[xs.length-1-k]?=some x->k<xs.length->J k σ' H'->H' a=some (.lst xs)->g x σ' H' λσ2 H2=>tb { D with nx:=λσ3 H3=>H3 a=some (.lst xs)/\J (k+1) σ3 H3,ct:=λσ3 H3=>H3 a=some (.lst xs)/\J (k+1) σ3 H3,bk:=D.nx } σ2 H2) /\
   ∀σ' H',J xs.length σ' H'->H' a=some (.lst xs)->D.nx σ' H'):Lq (acu (tMA ta)) g tb D σ H:=by
 refine⟨_,h,?_⟩;rintro vs H1 ⟨a,xs,rfl,hx,J,j0,step,fin⟩;refine⟨a,xs,rfl,hx,λk m σ' H'=>k<=xs.length/\m=xs.length-k/\H' a=some (.lst xs)/\J k σ' H',⟨_,bh _,rfl,hx,j0⟩,?_⟩;rintro k m σ' H' ⟨hk,rfl,ha',j⟩;by_cases e:k=xs.length
 .subst e;exact .inl ⟨⟨ha',rfl⟩,fin σ' H' j ha'⟩
 .have hlt:k<xs.length:=by exact XX hk e
  refine .inr ⟨⟨ha',hlt⟩,λσ3 H3=>H3 a=some (.lst xs)/\J (k+1) σ3 H3,λσ3 H3 ⟨z1,z3⟩=>⟨xs.length-(k+1),by lia,by exact hlt,rfl,z1,z3⟩,?_⟩;rintro v H'' ⟨rfl,e1⟩;exact step k v σ' H'' e1 hlt j ha'
noncomputable def hAdd(H:Hp)(news:List (Addr×HO)):Hp:=λb=>match news.lookup b with|some o=>some o|none=>H b
theorem Hh{H:Hp}{news:List (Addr×HO)}{b:Addr}{o:HO}(e:news.lookup b=some o):hAdd H news b=some o:=by unfold hAdd;rw[e]
theorem GF{H:Hp}{news:List (Addr×HO)}{b:Addr}(e:news.lookup b=none):hAdd H news b=H b:=by unfold hAdd;rw[e]
theorem mC{news:List (Addr×HO)}{b:Addr}{o:HO}(e:news.lookup b=some o):(b,o)∈news:=by
 induction news with
 |nil=>simp at e
 |cons p l ih =>
  rw[List.lookup_cons]at e;by_cases z:b==p.1
  .rw[z]at e;cases e;have:b=p.1:=by simpa using z
   subst this;exact aN
  .rw[Bool.eq_false_iff.mpr z]at e;exact aH _ (ih e)
theorem Ga:∀{l:List (Addr×HO)}{i:Nat}{p:Addr×HO},(l.map (·.1)).Nodup->l[i]?=some p->l.lookup p.1=some p.2
 |[],i,p,_,e=>by simp at e
 |q::l,0,p,_,e=>by
  cases e;rw[List.lookup_cons,beq_self_eq_true]
 |q::l,i+1,p,nd,e=>by
  rw[List.map_cons,List.nodup_cons]at nd;have e:l[i]?=some p:=by simpa using e
  have ne:(p.1==q.1)=false:=by
   rw[Bool.eq_false_iff];intro z;have:p.1=q.1:=by simpa using z
   exact nd.1 (by rw[<- this];exact List.mem_map_of_mem (aB e))
  rw[List.lookup_cons,ne];exact Ga nd.2 e
theorem Ea:∀as:Β,Vals (as.map V.ref) (as.map Value.ref)
 |[]=>.nil
 |a::as=>.cons rfl (Ea as)
section
variable{X:Cx}{pins:Ψ}{σ:L2.St}{H:Hp}{s:Shared}{h':Heap}
theorem Inv.laidL{news:List (Addr×HO)}{t':Nat}(I:Inv X pins σ H s)(k:∀b u,s.heap.get? b=some u->h'.get? b=some u)(hp:∀p∈news,s.heap.objs.size<=p.1)(new:∀a o,news.lookup a=some o->cV X.prog X.w (hAdd H news) h' a o) :
  Inv X pins σ (hAdd H news) { s with heap:=h',toks:=t' }:=by
 have old:∀b,b<s.heap.objs.size->hAdd H news b=H b:=λb lt=>GF (by
  cases e:news.lookup b with
  |none=>rfl
  |some o=>exact absurd (hp _ (mC e)) (Nat.not_le.mpr lt))
 have up:∀b u,H b=some u->hAdd H news b=some u:=λb u e=>(old b (I.hok.lt e)).trans e;refine I.un ⟨λb u q _ _ _=>k b u q,λb u q _ _ _=>⟨u.slots,k b u q⟩,λb u q n _=>(old b (aJ q)).trans n,λb u q _=>⟨u,k b u q⟩,λb xs q=>up b _ q,λb u xs q=>up b _ q,λb ps q=>⟨#[],by rw[up b _ q];simp⟩⟩ λb u e=>?_;cases el:news.lookup b with
 |some o' =>
  rw[Hh el]at e;cases e;exact new b _ el
 |none =>
  rw[GF el]at e;exact(I.hok b u e).stay (λc v _ q=>k c v q) (λc q=>up c _ q) λc xs q=>up c _ q
end
section
variable{X:Cx}
noncomputable def IW(v a:Addr)(h:Heap):Prop:=h.IsItemsView v a
noncomputable def Ys(te:TE):TE:=λσ H Q=>te σ H λx H1=>∃a kvs,x=.ref a/\H1 a=some (.dK kvs)/\∀v,H1 v=none->Q (.ref v) (upd H1 v (.ext (IW v a)))
theorem Q_{l:Expr}{tl:TE}{apos pos:Pos}(hl:PE X l tl)(hb:attributeBase l "items" X.env (eval l X.env)=eval l X.env:=by rfl)(hn:(apos.endLine==pos.line)=true:=by rfl):PE X (.Call (.Attribute l "items" apos) [] [] pos) (Ys tl):=by
 intro pins s σ H Q I h;refine wpAny_Call_method (T := "dict") (id := "dict.items") hb rfl hn PySem.F.plainAttrs_dict PySem.F.slot_dict_items PySem.F.type_dict_items (thn (hl pins s σ H _ I h) λv s1 hP=>?_);obtain⟨x,H1,I1,r1,a,kvs,ex,ha,q⟩:=hP;subst ex;cases r1;have ok:=(show cV X.prog X.w H1 s1.heap a (.dK kvs)from I1.hok a _ ha);obtain⟨z,hd,vs,rel,hm⟩:=ok;refine⟨hm.typeIs,hm.mapOf.noDict,?_⟩;refine method_meetsIn PySem.F.slot_dict_items PySem.F.entry_dict_items rfl (PySem.evalArgs_none ⟨rfl,hm.typeIs,PySem.F.args_dict_items_1 _,_,meets_dict_items (fY X.prog X.w) a hd,⟨vs,hm⟩,?_⟩);refine⟨.ref _,_,I1.laid (a:=s1.heap.objs.size) (o:=.ext (IW s1.heap.objs.size a)) (h':=s1.heap.push { cls:=.type "dict_items",data:=.fields #[.ref a] }) (t':=s1.toks) (λb ob z=>aG _ z) (aF _) ?_,rfl,q _ (I1.hok.fresh (aF _))⟩;refine⟨⟨_,aX _ rfl,rfl,rfl⟩,⟨_,aX _ rfl⟩,λh1 h2 ⟨o,e,c,d⟩ k=>⟨o,k o e,c,d⟩⟩
noncomputable def YG:Κ->Hp->VK->Prop:=λxs H Q=>∃v a kvs,xs=[.ref v]/\H v=some (.ext (IW v a))/\H a=some (.dK kvs)/\∀l ys H',Same H H'->H l=none->H' l=some (.lst ys)->ys.length=kvs.length->(∀(i:Nat)k y,kvs[i]?=some (k,y)->∃t,ys[i]?=some (.ref t)/\H' t=some (.tup [kV k,y]))->Q (.ref l) H'
theorem KN(hc:X.calm=true):d8 X (.type "list") YG:=by
 intro pins s σ H xs us Q I r h;obtain⟨v,a,kvs,rfl,hv,ha,q⟩:=h;obtain⟨u,rfl,ru⟩:=vals1 r;cases ru;obtain⟨iv,_⟩:=(show cV X.prog X.w H s.heap v (.ext (IW v a))from I.hok v _ hv);have ok:=(show cV X.prog X.w H s.heap a (.dK kvs)from I.hok a _ ha);obtain⟨z,hd,vs,rel,o,es,ep,e,ex,ed,ek,epr,en⟩:=ok;have hl:=rel.length;refine PySem.W.kdx_call (knd:=fY X.prog X.w) (ep:=ep) (I.ok.hd hc) iv ⟨o,es,e,ex,ed,ek,epr,en⟩ (by lia) λh' tk acc c as kp hL la G ac=>?_;have la':as.length=kvs.length:=by exact Eq.trans la (Eq.symm hl)
 have hz:∀(i:Nat)p,((as.zip kvs).map λp=>(p.1,HO.tup [kV p.2.1,p.2.2]))[i]?=some p->∃k y,as[i]?=some p.1/\kvs[i]?=some (k,y)/\p.2=.tup [kV k,y]:=λi p e=>by
  rw[aq]at e;cases e2:(as.zip kvs)[i]? with
  |none=>rw[e2]at e;cases e
  |some g =>
   rw[e2]at e;cases e;obtain⟨z1,z2⟩:=List.getElem?_zip_eq_some.mp e2;exact⟨_,_,z1,z2,rfl⟩
 have fsts:(((s.heap.objs.size,HO.lst (as.map V.ref))::(as.zip kvs).map λp=>(p.1,HO.tup [kV p.2.1,p.2.2])).map (·.1))=s.heap.objs.size::as:=by
  rw[List.map_cons,List.map_map]
  congr 1
  exact List.map_fst_zip (Nat.le_of_eq la')
 have nd:(((s.heap.objs.size,HO.lst (as.map V.ref))::(as.zip kvs).map λp=>(p.1,HO.tup [kV p.2.1,p.2.2])).map (·.1)).Nodup:=by
  rw[fsts,List.nodup_cons];exact⟨λz=>X1 _ (G.above _ z),G.rise.imp λh=>aQ h⟩
 generalize hN:(s.heap.objs.size,HO.lst (as.map V.ref))::(as.zip kvs).map (λp=>(p.1,HO.tup [kV p.2.1,p.2.2]))=news at *;have n0:news.lookup s.heap.objs.size=some (.lst (as.map V.ref)):=Ga (i:=0) (p:=(_,_)) nd (by rw[<- hN];rfl);have I1:Inv X pins σ (hAdd H news) { s with heap:=h',toks:=tk }:=I.laidL kp (λp hp=>?_) λb u el=>?_
 .have old:∀b u,H b=some u->hAdd H news b=some u:=λb u e=>by
   refine(GF ?_).trans e;cases el:news.lookup b with
   |none=>rfl
   |some w =>
    have lt:=I.hok.lt e;have m:=List.mem_map_of_mem (f:=(·.1)) (mC el);rw[fsts]at m;rcases YU.mp m with z|z
    .exact absurd lt (by rw[show b=s.heap.objs.size from z];exact X1 _)
    .exact absurd (G.above _ z) (Nat.not_lt.mpr (Y2 lt))
  refine⟨.ref _,_,I1,rfl,q s.heap.objs.size (as.map V.ref) _ old (I.hok.fresh (aF _)) (Hh n0) (by rw[ak];exact la') λi k y ek=>?_⟩;have li:i<as.length:=by rw[la'];exact(ao.mp ek).1
  refine⟨as[i],by rw[aq,aj li];rfl,Hh (Ga (i:=i+1) (p:=(as[i],.tup [kV k,y])) nd ?_)⟩;rw[<- hN,List.getElem?_cons_succ,aq,show(as.zip kvs)[i]?=some (as[i],(k,y))from List.getElem?_zip_eq_some.mpr ⟨aj li,ek⟩]
  rfl
 .have m:=List.mem_map_of_mem (f:=(·.1)) hp;rw[fsts]at m;rcases YU.mp m with z|z
  .rw[z];exact aF _
  .exact Y2 (G.above _ z)
 .have m:=mC el;rw[<- hN]at m;rcases YU.mp m with z|z
  .cases z;refine⟨by rw[ak];exact aL (Nat.le_of_eq la') z,as.map Value.ref,c,Ea as,?_⟩;rw[hL,<- ac]
  .obtain⟨i,ei⟩:=aV z;obtain⟨k,y,z1,z2,z3⟩:=hz i _ ei;obtain⟨w,hw,rw'⟩:=rel.at z2;obtain⟨key,k',x,g1,g2,g3⟩:=G.pairs i _ z1;rw[hw]at g1;cases g1;have z3:u=.tup [kV k,y]:=z3;subst z3;exact⟨(by show 2<=sizeLine;decide),[key,w],.cons (Yd g2) (.cons rw' .nil),_,g3,rfl,_,rfl⟩
noncomputable def abo:R2:=λx y H Q=>∃c n,x=.str ⟨#[c]⟩/\y=.int n/\0<=n/\n<=1000/\∀z:Str,z.cps.toList=List.replicate n.toNat c->Q (.str z) H
theorem Xo{X:Cx} : OpR X (binaryOp .Mult) abo:=by
 intro pins s σ H x y v u Q I rx ry h;obtain⟨c,n,rfl,rfl,h0,h1,q⟩:=h;by_cases e:n=0
 .subst e;obtain⟨t,rfl⟩:=rx;obtain⟨t',rfl⟩:=ry;exact PySem.P.mul_str_none (by decide) (by decide) ⟨.str Str.empty,H,I.tok _,⟨_,rfl⟩,q _ rfl⟩
 .exact VF pins s σ H _ _ v u Q I rx ry ⟨c,n,rfl,rfl,by lia,h1,q⟩
end
end L2
namespace Lv
noncomputable def Pn(bs:List Nat):Nat:=bs.foldl Nat.lcm 1
theorem uo:∀(bs:List Nat)(a m:Nat),bs.foldl Nat.lcm a ∣ m↔a ∣ m/\∀b∈bs,b ∣ m
 |[],a,m=>by simp
 |b::bs,a,m=>by
  rw[List.foldl_cons,uo bs,Nat.lcm_dvd_iff];simp only[YU,forall_eq_or_imp,and_assoc]
theorem JW{bs:List Nat}{m:Nat} : Pn bs ∣ m↔∀b∈bs,b ∣ m:=by
 unfold Pn;rw[uo];simp
theorem Q8{bs:List Nat}{b:Nat}(h:b∈bs):b ∣ Pn bs:=JW.mp (Nat.dvd_refl _) b h
theorem tZ:∀(bs:List Nat)(a:Nat),0<a->(∀b∈bs,0<b)->0<bs.foldl Nat.lcm a
 |[],a,h,_=>h
 |b::bs,a,h,hb=>tZ bs _ (Nat.lcm_pos h (hb b aN)) λc hc=>hb c (aH _ hc)
theorem RK{bs:List Nat}(h:∀b∈bs,0<b):0<Pn bs:=tZ bs 1 (by decide) h
end Lv
namespace Ac
noncomputable def lw(t b:Int):Int×Int:=(t/(Int.gcd t b:Nat),b/(Int.gcd t b:Nat))
theorem Rp{t b:Int}(hb:0<b):(0:Int)<(Int.gcd t b:Nat):=by
 have:=Int.gcd_pos_of_ne_zero_right t (show b≠0 by exact Int.ne_of_gt hb);lia
theorem fu{t b:Int}(hb:0<b):0<(lw t b).2:=Int.ediv_pos_of_pos_of_dvd hb (XY (Rp hb)) (Int.gcd_dvd_right t b)
theorem nW{t b:Int}(hb:0<b):Int.gcd (lw t b).1 (lw t b).2=1:=Int.gcd_ediv_gcd_ediv_gcd (by have:=Rp (t:=t) hb;lia)
theorem yt{t b:Int}(hb:0<b):(lw t b).1*b=t*(lw t b).2:=by
 have d1:=Int.gcd_dvd_left t b;have d2:=Int.gcd_dvd_right t b;have g0:=Rp (t:=t) hb;unfold lw;generalize hg:((Int.gcd t b:Nat):Int)=g at *;obtain⟨x,rfl⟩:=d1;obtain⟨y,rfl⟩:=d2;show g*x/g*(g*y)=g*x*(g*y/g);rw[Int.mul_ediv_cancel_left _ (Int.ne_of_gt g0),Int.mul_ediv_cancel_left _ (Int.ne_of_gt g0),Int.mul_left_comm,Int.mul_assoc]
theorem ug(t b:Int):(lw t b).1.natAbs<=t.natAbs:=Int.natAbs_ediv_le_natAbs _ _
theorem q_(t b:Int):(lw t b).2.natAbs<=b.natAbs:=Int.natAbs_ediv_le_natAbs _ _
theorem NQ{a b c:Int}(h:a ∣ b*c)(g:Int.gcd a b=1):a ∣ c:=by
 refine Int.natAbs_dvd_natAbs.mp ((show Nat.Coprime a.natAbs b.natAbs from g).dvd_of_dvd_mul_left ?_);rw[<- Int.natAbs_mul];exact Int.natAbs_dvd_natAbs.mpr h
theorem uniq{x y u v:Int}(hy:0<y)(hv:0<v)(g1:Int.gcd x y=1)(g2:Int.gcd u v=1)(e:x*v=u*y):x=u/\y=v:=by
 have d1:y ∣ v:=by
  have h:y ∣ x*v:=⟨u,by rw[e,Int.mul_comm]⟩;exact NQ h (by rw[Int.gcd_comm];exact g1)
 have d2:v ∣ y:=by
  have h:v ∣ u*y:=⟨x,by rw[<- e,Int.mul_comm]⟩;exact NQ h (by rw[Int.gcd_comm];exact g2)
 have e2:y=v:=Int.dvd_antisymm (XY hy) (XY hv) d1 d2;subst e2;exact⟨Int.eq_of_mul_eq_mul_right (Int.ne_of_gt hy) e,rfl⟩
theorem ab3{t b x y:Int}(hb:0<b)(hy:0<y)(g:Int.gcd x y=1)(e:x*b=t*y):x=(lw t b).1/\y=(lw t b).2:=by
 refine uniq hy (fu hb) g (nW hb) ?_;have h:=yt (t:=t) hb;have h1:x*(lw t b).2*b=(lw t b).1*y*b:=by
  rw[Int.mul_right_comm,e,Int.mul_right_comm _ y b,h,Int.mul_right_comm]
 exact Int.eq_of_mul_eq_mul_right (Int.ne_of_gt hb) h1
theorem YZ{W x S z o:Int}(hS:0<S)(ho:0<o)(g:Int.gcd z o=1)(e:z*((lw W S).2*(lw x S).2)=((lw W S).1*(lw x S).2+(lw x S).1*(lw W S).2)*o):z=(lw (W+x) S).1/\o=(lw (W+x) S).2:=by
  refine ab3 hS ho g ?_;have h1:=yt (t:=W) hS;have h2:=yt (t:=x) hS;have p1:=fu (t:=W) hS;have p2:=fu (t:=x) hS;generalize(lw W S).1=a at *;generalize(lw W S).2=b at *;generalize(lw x S).1=c at *;generalize(lw x S).2=d at *;have key:z*S*(b*d)=(W+x)*o*(b*d):=by
    calc z*S*(b*d)=z*(b*d)*S:=by rw[Int.mul_right_comm]
      _=(a*d+c*b)*o*S:=by rw[e]
      _=(a*S*d+c*S*b)*o:=by
        rw[Int.mul_right_comm,Int.add_mul,Int.mul_right_comm a d S,Int.mul_right_comm c b S]
      _=(W*b*d+x*d*b)*o:=by rw[h1,h2]
      _=(W+x)*o*(b*d):=by
        rw[Int.mul_assoc W,Int.mul_assoc x,Int.mul_comm d b,<- Int.add_mul,Int.mul_right_comm]
  exact Int.eq_of_mul_eq_mul_right (Int.ne_of_gt (XZ p1 p2)) key
theorem tV{t b:Int}(hb:0<b):((lw t b).1=0/\(lw t b).2=1)↔t=0:=by
 have h:=yt (t:=t) hb;have p:=fu (t:=t) hb;constructor
 .rintro⟨h1,h2⟩;rw[h1,h2]at h;lia
 .rintro rfl;have g:=nW (t:=0) hb;rw[Int.zero_mul]at h;have h0:(lw 0 b).1=0:=by
   rcases Int.mul_eq_zero.mp h with z|z
   .exact z
   .lia
  rw[h0,Int.gcd_zero_left]at g;exact⟨h0,by lia⟩
theorem aaE{t b:Int}(hb:0<b)(ht:0<=t):0<=(lw t b).1:=Int.ediv_nonneg ht (XY (Rp hb))
theorem aay{t b:Int}(hb:0<b)(ht:t<=b):(lw t b).1<=(lw t b).2:=Int.ediv_le_ediv (Rp hb) ht
section
variable{κ:Type}[DecidableEq κ]
noncomputable def look(acc:List (κ×Int))(r:κ):Int:=((acc.find? λg=>decide (g.1=r)).map (·.2)).getD 0
noncomputable def put(acc:List (κ×Int))(r:κ)(y:Int):List (κ×Int):=if(acc.any λg=>decide (g.1=r))=true then acc.map (λg=>if g.1=r then(g.1,y)else g)else acc++[(r,y)]
noncomputable def gR(gs:List (κ×Int)):List (κ×Int):=gs.foldl (λa g=>put a g.1 (look a g.1+g.2)) []
theorem wR(gs:List (κ×Int))(g:κ×Int):gR (gs++[g])=put (gR gs) g.1 (look (gR gs) g.1+g.2):=by
 unfold gR;rw[List.foldl_append];rfl
theorem O1(acc:List (κ×Int))(r:κ)(y:Int):(put acc r y).length<=acc.length+1:=by
 unfold put;split
 .rw[ak];exact Xs _
 .rw[aA];simp
theorem Rb{acc:List (κ×Int)}(h:(acc.map (·.1)).Nodup)(r:κ)(y:Int):((put acc r y).map (·.1)).Nodup:=by
 unfold put;split
 .have e:(acc.map (λg=>if g.1=r then(g.1,y)else g)).map (·.1)=acc.map (·.1):=by
   rw[List.map_map];refine List.map_congr_left λg _=>?_;show(if g.1=r then(g.1,y)else g).1=g.1;split<;>rfl
  rw[e];exact h
 .rename_i hn
  rw[bA];refine List.nodup_append.mpr ⟨h,by simp,?_⟩;intro a ha b hb e;subst e;simp only[List.map_cons,List.map_nil,YR]at hb;subst hb;obtain⟨g,hg,e⟩:=YV.mp ha;exact hn (List.any_eq_true.mpr ⟨g,hg,Zs e⟩)
theorem mC(acc:List (κ×Int))(r:κ):look acc r=0\/∃g∈acc,look acc r=g.2:=by
 unfold look;cases h:acc.find? λg=>decide (g.1=r)with
 |none=>exact .inl rfl
 |some g=>exact .inr ⟨g,List.mem_of_find?_eq_some h,rfl⟩
theorem Oi{acc:List (κ×Int)}{r:κ}{y:Int}{g:κ×Int}(h:g∈put acc r y):g.2=y\/g∈acc:=by
 unfold put at h;split at h
 .obtain⟨g',hg,e⟩:=YV.mp h;split at e
  .subst e;exact .inl rfl
  .subst e;exact .inr hg
 .rcases Y1.mp h with h|h
  .exact .inr h
  .rw[YR.mp h];exact .inl rfl
theorem Bh(gs:List (κ×Int)):(∀g∈gs,0<=g.2)->((gR gs).map (·.1)).Nodup/\(gR gs).length<=gs.length/\∀g∈gR gs,0<=g.2/\g.2<=(gs.map (·.2)).sum:=by
 suffices H:∀(n:Nat)(gs:List (κ×Int)),gs.length=n->(∀g∈gs,0<=g.2)->((gR gs).map (·.1)).Nodup/\(gR gs).length<=gs.length/\(0<=(gs.map (·.2)).sum)/\∀g∈gR gs,0<=g.2/\g.2<=(gs.map (·.2)).sum from λh=>let⟨a,b,_,c⟩:=H _ gs rfl h;⟨a,b,c⟩
 intro n
 induction n with
 |zero =>
  intro gs h _;rw[List.eq_nil_of_length_eq_zero h];exact⟨by simp[gR],by simp[gR],by simp,by simp[gR]⟩
 |succ n ih =>
  intro gs h hp;obtain⟨gs',g,rfl⟩ : ∃gs' g,gs=gs'++[g]:=⟨gs.dropLast,gs.getLast (by intro e;rw[e]at h;cases h),(List.dropLast_concat_getLast _).symm⟩;have hl:gs'.length=n:=by rw[aA]at h;simpa using h
  obtain⟨h1,h2,h3,h4⟩:=ih gs' hl λg hg=>hp g (List.mem_append_left _ hg);have hg:=hp g (aP _ (by simp));rw[wR];have hs:((gs'++[g]).map (·.2)).sum=(gs'.map (·.2)).sum+g.2:=by simp
  rw[hs];have lk:0<=look (gR gs') g.1/\look (gR gs') g.1<=(gs'.map (·.2)).sum:=by
   rcases mC (gR gs') g.1 with e|⟨u,hu,e⟩
   .rw[e];exact⟨Int.le_refl _,h3⟩
   .rw[e];exact h4 u hu
  refine⟨Rb h1 _ _,?_,by lia,λu hu=>?_⟩
  .have:=O1 (gR gs') g.1 (look (gR gs') g.1+g.2);rw[aA];simp only[List.length_cons,List.length_nil];exact aL this (Nat.succ_le_succ h2)
  .rcases Oi hu with e|hu
   .rw[e];lia
   .have:=h4 u hu;lia
theorem Mz{acc:List (κ×Int)}{r:κ}{y:Int}{g:κ×Int}(h:g∈put acc r y):g.1=r\/g.1∈acc.map (·.1):=by
 unfold put at h;split at h
 .obtain⟨g',hg,e⟩:=YV.mp h;split at e
  .subst e;exact .inr (YV.mpr ⟨g',hg,rfl⟩)
  .subst e;exact .inr (YV.mpr ⟨_,hg,rfl⟩)
 .rcases Y1.mp h with h|h
  .exact .inr (YV.mpr ⟨_,h,rfl⟩)
  .rw[YR.mp h];exact .inl rfl
theorem Vl(gs:List (κ×Int)):∀g∈gR gs,g.1∈gs.map (·.1):=by
 suffices H:∀(n:Nat)(gs:List (κ×Int)),gs.length=n->∀g∈gR gs,g.1∈gs.map (·.1)from H _ gs rfl
 intro n
 induction n with
 |zero =>
  intro gs h g hg;rw[List.eq_nil_of_length_eq_zero h]at hg;simp[gR]at hg
 |succ n ih =>
  intro gs h u hu;obtain⟨gs',g,rfl⟩ : ∃gs' g,gs=gs'++[g]:=⟨gs.dropLast,gs.getLast (by intro e;rw[e]at h;cases h),(List.dropLast_concat_getLast _).symm⟩;have hl:gs'.length=n:=by rw[aA]at h;simpa using h
  rw[wR]at hu;rw[bA];rcases Mz hu with e|e
  .rw[e];exact aP _ (by simp)
  .obtain⟨v,hv,e⟩:=YV.mp e;rw[<- e];exact List.mem_append_left _ (ih gs' hl v hv)
noncomputable def ways(gs:List (κ×Int))(S:Int):List (κ×Int×Int):=((gR gs).filter λg=>decide (0<g.2)).map λg=>(g.1,lw g.2 S)
theorem Tc{gs:List (κ×Int)}(h:∀g∈gs,0<=g.2)(S:Int):(ways gs S).length<=gs.length:=by
 unfold ways;rw[ak];exact aL (List.length_filter_le _ _) (Bh gs h).2.1
theorem TX{gs:List (κ×Int)}{S:Int}{g:κ×Int×Int}(h:g∈ways gs S):g.1∈gs.map (·.1):=by
 unfold ways at h;obtain⟨u,hu,rfl⟩:=YV.mp h;exact Vl gs u (List.mem_filter.mp hu).1
end
end Ac
namespace K57
open PySem PyProof.Rows L2
theorem Ss:qJ (.non) (.non)=true:=rfl
theorem Vp{j:Int} : qJ (.non) (.int j)=true:=rfl
theorem Vt{i:Int} : qJ (.int i) (.non)=true:=rfl
theorem U9{c:Bool} : qJ (.non) (.bl c)=true:=rfl
theorem Ug{b:Bool} : qJ (.bl b) (.non)=true:=rfl
theorem Ut{t:Str} : qJ (.non) (.str t)=true:=rfl
theorem Ud{s:Str} : qJ (.str s) (.non)=true:=rfl
theorem Ul{i:Int}{j:Int} : qJ (.int i) (.int j)=true:=rfl
theorem Rn{b:Bool}{c:Bool} : qJ (.bl b) (.bl c)=true:=rfl
theorem U0{s:Str}{t:Str} : qJ (.str s) (.str t)=true:=rfl
theorem Uj{i:Int}{t:Str} : qJ (.int i) (.str t)=true:=rfl
theorem Rf{s:Str}{j:Int} : qJ (.str s) (.int j)=true:=rfl
theorem T9{b:Bool}{t:Str} : qJ (.bl b) (.str t)=true:=rfl
theorem R4{s:Str}{c:Bool} : qJ (.str s) (.bl c)=true:=rfl
noncomputable def mI(j:Nat)(σ:L2.St)(_:Hp):Nat:=match σ.getD j none with|some (.int k)=>k.natAbs|_=>0
local macro_rules| `(tactic|walk_at "rd")=>`(tactic|simp only[ux,Tt,Uu,Vv,tOp,tUn,rU,OJ,N8,Wz,tSl,Iz,tC,Ow,rI0,rI,W6,Rz,V3,uh,xU,tCB,Hl,Jx,X_,tOr,ZD,NP,O2,ZJ,Wc,Fz,X6,cu,Xi,Nx,Mx,Ng,Ni,Nb,Wu,M8,HY,KY,wD,EY,Lh,SJ,rEq,rNe,Ss,Vp,Vt,U9,Ug,Ut,Ud,Ul,Rn,U0,Uj,Rf,T9,R4,Nz,Nf,xu,Mj,Gq,Gw,Tp,Tn,Zg,W4,Ends.unset,WM,YJ,Hv,ZF,R8,W8,R_,Ot,R5,T3,Yw,tSM,Mw,Ht,BJ,Q5,Wo,Ob,FZ,X8,yL,HJ,Nv,Uo,rJoin,Vx,Tf,tB,JF,Xh,T_,yQ,Od,M7,Xw,YW,Tr,Oz,G7,Ra,K8,Tw,zX,Yv,Wy,zp,V.str.injEq,
 L2.start,List.replicate_succ,List.replicate_zero,Nat.reduceSub,Nat.reduceAdd,List.map_cons,List.map_nil,List.length_cons,List.length_nil,List.cons_append,List.nil_append,List.append_nil,List.getElem?_cons_zero,List.getElem?_cons_succ,List.set_cons_zero,List.set_cons_succ,List.set_nil,Option.some.injEq,exists_eq_left',exists_eq_left,exists_and_left,exists_and_right,exists_eq_right,exists_eq,exists_eq',and_assoc,V.int.injEq,V.ref.injEq,V.bl.injEq,V.ty.injEq,List.cons.injEq,HO.tup.injEq,HO.lst.injEq,and_true,true_and,reduceCtorEq,fD,dX,bI,decide_true,decide_false,Bool.not_true,Bool.not_false,if_true,if_false,ite_true,ite_false,XW,YU,String.reduceEq,or_true,true_or,or_false,false_or,beq_self_eq_true,Bool.or_true,Bool.true_or,Bool.or_false,Bool.false_or,Bool.and_true,Bool.and_false,Bool.true_and,Bool.false_and,String.reduceBEq,Int.reduceToNat,Int.reducePow,Int.reduceMul,Int.reduceSub,Int.reduceAdd,Int.reduceNeg,Int.reduceLE,Int.reduceLT,Int.reduceEq,ne_eq,not_false_eq_true,not_true_eq_false,Int.cast_ofNat_Int])
open PySem.NumText
noncomputable abbrev uF:Stmt:=top 13
noncomputable abbrev fB:Ξ:=["thing"]
noncomputable abbrev fG:Str := "is_whole"
noncomputable abbrev Ky:Ξ:=["thing"]
theorem Jh:bV Ky fB (bN uF):=fsc
noncomputable abbrev xQ:Stmt:=top 14
noncomputable abbrev jF:Ξ:=["one", "other"]
noncomputable abbrev jB:Str := "divisor"
noncomputable abbrev Ph:Ξ:=["one", "other", "left", "right", "rest"]
theorem jM:bV Ph jF (bN xQ):=fsc
noncomputable abbrev Fx:Stmt:=top 18
noncomputable abbrev oZ:Ξ:=["top", "bottom"]
noncomputable abbrev oV:Str := "ratio"
noncomputable abbrev V4:Ξ:=["top", "bottom", "common"]
theorem Bb:bV V4 oZ (bN Fx):=fsc
noncomputable abbrev uR:Stmt:=top 19
noncomputable abbrev iM:Ξ:=["thing"]
noncomputable abbrev iQ:Str := "is_ratio"
noncomputable abbrev Lj:Ξ:=["thing", "top", "bottom"]
theorem rR:bV Lj iM (bN uR):=fsc
noncomputable abbrev Li:Stmt:=top 20
noncomputable abbrev wj:Ξ:=["one", "other"]
noncomputable abbrev wO:Str := "plus"
noncomputable abbrev ZL:Ξ:=["one", "other"]
theorem Wh:bV ZL wj (bN Li):=fsc
noncomputable abbrev Gv:Stmt:=top 21
noncomputable abbrev pB:Ξ:=["one", "other"]
noncomputable abbrev pI:Str := "under"
noncomputable abbrev Xu:Ξ:=["one", "other"]
theorem Rm:bV Xu pB (bN Gv):=fsc
noncomputable abbrev zN:Stmt:=top 22
noncomputable abbrev tU:Ξ:=["one"]
noncomputable abbrev tO:Str := "parted"
noncomputable abbrev Ri:Ξ:=["one"]
theorem P0:bV Ri tU (bN zN):=fsc
noncomputable abbrev zB:Stmt:=top 24
noncomputable abbrev pA:Ξ:=["fractions"]
noncomputable abbrev pG:Str := "level"
noncomputable abbrev Ol:Ξ:=["fractions", "bottom", "one"]
theorem v9:bV Ol pA (bN zB):=fsc
noncomputable abbrev HB:Stmt:=top 25
noncomputable abbrev vJ:Ξ:=["fractions"]
noncomputable abbrev vV:Str := "total"
noncomputable abbrev Xn:Ξ:=["fractions", "leveled"]
theorem Iu:bV Xn vJ (bN HB):=fsc
noncomputable abbrev Kz:Stmt:=top 27
noncomputable abbrev zy:Ξ:=["thing", "many"]
noncomputable abbrev yP:Str := "fits"
noncomputable abbrev Zo:Ξ:=["thing", "many"]
theorem V6:bV Zo zy (bN Kz):=fsc
noncomputable abbrev qy:Stmt:=top 28
noncomputable abbrev jU:Ξ:=["hall", "plan"]
noncomputable abbrev j8:Str := "check_plan"
noncomputable abbrev Gg:Ξ:=["hall", "plan", "room", "thing"]
theorem ou:bV Gg jU (bN qy):=fsc
noncomputable abbrev jr:Stmt:=top 30
noncomputable abbrev iC:Ξ:=["hall", "plan"]
noncomputable abbrev iy:Str := "chosen_doors"
noncomputable abbrev mz:Ξ:=["hall", "plan"]
theorem yw:bV mz iC (bN jr):=fsc
noncomputable abbrev uH:Stmt:=top 32
noncomputable abbrev nH:Ξ:=["offer"]
noncomputable abbrev nA:Str := "edges_of"
noncomputable abbrev KC:Ξ:=["offer", "edges", "reached", "room", "chance"]
theorem iR:bV KC nH (bN uH):=fsc
noncomputable abbrev j_:Stmt:=top 33
noncomputable abbrev jy:Ξ:=["edges", "number"]
noncomputable abbrev iW:Str := "room_behind"
noncomputable abbrev nR:Ξ:=["edges", "number", "rest"]
theorem su:bV nR jy (bN j_):=fsc
noncomputable abbrev pJ:Stmt:=top 34
noncomputable abbrev jV:Ξ:=["share", "pays"]
noncomputable abbrev j9:Str := "paid_along"
noncomputable abbrev FW:Ξ:=["share", "pays", "leveled", "top", "bottom", "pay"]
theorem eV:bV FW jV (bN pJ):=fsc
noncomputable abbrev sJ:Stmt:=top 35
noncomputable abbrev oW:Ξ:=["hall", "plan", "start", "numbers"]
noncomputable abbrev oY:Str := "run_of"
noncomputable abbrev rP:Ξ:=["hall", "plan", "start", "numbers", "chosen", "edges", "steps", "room", "number"]
theorem jK:bV rP oW (bN sJ):=fsc
noncomputable abbrev sZ:Stmt:=top 38
noncomputable abbrev jA:Ξ:=["thing"]
noncomputable abbrev jD:Str := "is_word"
noncomputable abbrev xH:Ξ:=["thing"]
theorem LQ:bV xH jA (bN sZ):=fsc
noncomputable abbrev pU:Stmt:=top 40
noncomputable abbrev jW:Ξ:=["name", "pay"]
noncomputable abbrev jZ:Str := "check_head"
noncomputable abbrev H_:Ξ:=["name", "pay"]
theorem Cm:bV H_ jW (bN pU):=fsc
noncomputable abbrev iV:Stmt:=top 41
noncomputable abbrev fM:Ξ:=["room"]
noncomputable abbrev fK:Str := "check_room_name"
noncomputable abbrev vh:Ξ:=["room"]
theorem uz:bV vh fM (bN iV):=fsc
noncomputable abbrev mL:Stmt:=top 42
noncomputable abbrev ig:Ξ:=["chance"]
noncomputable abbrev iB:Str := "check_chance"
noncomputable abbrev zL:Ξ:=["chance"]
theorem yG:bV zL ig (bN mL):=fsc
noncomputable abbrev jN:Stmt:=top 43
noncomputable abbrev i_:Ξ:=["pairs"]
noncomputable abbrev jm:Str := "check_pairs"
noncomputable abbrev nU:Ξ:=["pairs", "room", "chance"]
theorem mY:bV nU i_ (bN jN):=fsc
noncomputable abbrev j7:Stmt:=top 44
noncomputable abbrev jz:Ξ:=["pairs"]
noncomputable abbrev jl:Str := "joined_ways"
noncomputable abbrev uf:Ξ:=["pairs", "chances", "room", "chance"]
theorem jd:bV uf jz (bN j7):=fsc
noncomputable abbrev oF:Stmt:=top 48
noncomputable abbrev jo:Ξ:=["share"]
noncomputable abbrev jh:Str := "check_share"
noncomputable abbrev Cw:Ξ:=["share"]
theorem Cg:bV Cw jo (bN oF):=fsc
noncomputable abbrev qu:Stmt:=top 49
noncomputable abbrev jX:Ξ:=["rooms"]
noncomputable abbrev jT:Str := "numbers_of"
noncomputable abbrev GZ:Ξ:=["rooms", "numbers", "room", "name"]
theorem jR:bV GZ jX (bN qu):=fsc
noncomputable abbrev kZ:Stmt:=top 50
noncomputable abbrev gJ:Ξ:=["door", "numbers"]
noncomputable abbrev gG:Str := "numbered_ways"
noncomputable abbrev yF:Ξ:=["door", "numbers", "numbered", "name", "chance"]
theorem gO:bV yF gJ (bN kZ):=fsc
noncomputable abbrev qL:Stmt:=top 51
noncomputable abbrev lN:Ξ:=["doors", "numbers"]
noncomputable abbrev lB:Str := "offers_of"
noncomputable abbrev Jv:Ξ:=["doors", "numbers", "taken", "told", "door"]
theorem lC:bV Jv lN (bN qL):=fsc
noncomputable abbrev Lx:Stmt:=top 54
noncomputable abbrev tD:Ξ:=["_law_script", "_law_k"]
noncomputable abbrev tu:Str := "_law_cell"
noncomputable abbrev Zm:Ξ:=["_law_script", "_law_k"]
theorem VH:bV Zm tD (bN Lx):=fsc
noncomputable abbrev zZ:Stmt:=top 55
noncomputable abbrev lR:Ξ:=["_law_cell_here", "_law_many"]
noncomputable abbrev lQ:Str := "_law_stream"
noncomputable abbrev Vj:Ξ:=["_law_cell_here", "_law_many", "_law_found", "_law_number_here", "_law_digits", "_law_k"]
theorem iK:bV Vj lR (bN zZ):=fsc
noncomputable abbrev Vm:Stmt:=top 56
noncomputable abbrev Ao:Ξ:=["_law_one", "_law_other"]
noncomputable abbrev Bm:Str := "_law_gcd"
noncomputable abbrev abU:Ξ:=["_law_one", "_law_other", "_law_low", "_law_high"]
theorem Ib:bV abU Ao (bN Vm):=fsc
noncomputable abbrev Cj:Stmt:=top 57
noncomputable abbrev gH:Ξ:=["_law_top", "_law_bottom"]
noncomputable abbrev gC:Str := "_law_lowest"
noncomputable abbrev Rg:Ξ:=["_law_top", "_law_bottom", "_law_common"]
theorem DX:bV Rg gH (bN Cj):=fsc
noncomputable abbrev Fy:Stmt:=top 58
noncomputable abbrev qK:Ξ:=["_law_found"]
noncomputable abbrev qT:Str := "_law_whole"
noncomputable abbrev X7:Ξ:=["_law_found"]
theorem Vc:bV X7 qK (bN Fy):=fsc
noncomputable abbrev uT:Stmt:=top 59
noncomputable abbrev nq:Ξ:=["_law_found"]
noncomputable abbrev m6:Str := "_law_fraction"
noncomputable abbrev Lk:Ξ:=["_law_found"]
theorem Kl:bV Lk nq (bN uT):=fsc
noncomputable abbrev Ez:Stmt:=top 60
noncomputable abbrev yO:Ξ:=["_law_e", "_law_at"]
noncomputable abbrev yN:Str := "_law_only"
noncomputable abbrev K5:Ξ:=["_law_e", "_law_at", "_law_kinds"]
theorem yX:bV K5 yO (bN Ez):=fsc
noncomputable abbrev zm:Stmt:=top 61
noncomputable abbrev vN:Ξ:=["_law_cell_here", "_law_many"]
noncomputable abbrev vm:Str := "_law_words"
noncomputable abbrev Es:Ξ:=["_law_cell_here", "_law_many", "_law_letters", "_law_head"]
theorem Ay:bV Es vN (bN zm):=fsc
noncomputable abbrev Ho:Stmt:=top 62
noncomputable abbrev vH:Ξ:=["_law_cell_here", "_law_k", "_law_many"]
noncomputable abbrev vR:Str := "_law_doors"
noncomputable abbrev XJ:Ξ:=["_law_cell_here", "_law_k", "_law_many", "_law_xs", "_law_doors_here", "_law_j", "_law_ways", "_law_i", "_law_pay", "_law_room"]
theorem jj:bV XJ vH (bN Ho):=fsc
noncomputable abbrev yU:Stmt:=top 63
noncomputable abbrev qX:Ξ:=["_law_script", "_law_at", "_law_most"]
noncomputable abbrev sy:Str := "_law_drawn"
noncomputable abbrev GX:Ξ:=["_law_script", "_law_at", "_law_most", "_law_xs", "_law_many", "_law_bottom", "_law_rooms"]
theorem rC:bV GX qX (bN yU):=fsc
noncomputable abbrev o8:Stmt:=top 64
noncomputable abbrev mG:Ξ:=["_law_ways"]
noncomputable abbrev mH:Str := "_law_chances"
noncomputable abbrev pC:Ξ:=["_law_ways", "_law_bottom"]
theorem zR:bV pC mG (bN o8):=fsc
noncomputable abbrev yZ:Stmt:=top 65
noncomputable abbrev vL:Ξ:=["_law_share", "_law_rooms", "_law_names"]
noncomputable abbrev vY:Str := "_law_built"
noncomputable abbrev Ge:Ξ:=["_law_share", "_law_rooms", "_law_names", "_law_told", "_law_k", "_law_doors_here", "_law_j", "_law_pairs", "_law_pay", "_law_ways"]
theorem kj:bV Ge vL (bN yZ):=fsc
noncomputable abbrev Ln:Stmt:=top 66
noncomputable abbrev zq:Ξ:=["_law_cell_here", "_law_rooms"]
noncomputable abbrev zf:Str := "_law_plan"
noncomputable abbrev YM:Ξ:=["_law_cell_here", "_law_rooms", "_law_xs", "_law_plan_here", "_law_k"]
theorem zj:bV YM zq (bN Ln):=fsc
noncomputable abbrev G8:Stmt:=top 67
noncomputable abbrev qY:Ξ:=["_law_one", "_law_other"]
noncomputable abbrev qP:Str := "_law_plus"
noncomputable abbrev VL:Ξ:=["_law_one", "_law_other"]
theorem T8:bV VL qY (bN G8):=fsc
noncomputable abbrev HX:Stmt:=top 68
noncomputable abbrev vD:Ξ:=["_law_one", "_law_other"]
noncomputable abbrev vG:Str := "_law_times"
noncomputable abbrev Xk:Ξ:=["_law_one", "_law_other"]
theorem Vk:bV Xk vD (bN HX):=fsc
noncomputable abbrev Aa:Stmt:=top 69
noncomputable abbrev tG:Ξ:=["_law_cell_here"]
noncomputable abbrev tW:Str := "_law_number"
noncomputable abbrev Vg:Ξ:=["_law_cell_here"]
theorem QJ:bV Vg tG (bN Aa):=fsc
noncomputable abbrev Vq:Stmt:=top 70
noncomputable abbrev Gr:Ξ:=["_law_ways", "_law_number_here"]
noncomputable abbrev Gi:Str := "_law_led"
noncomputable abbrev aai:Ξ:=["_law_ways", "_law_number_here", "_law_rest", "_law_ahead", "_law_room", "_law_chance"]
theorem xK:bV aai Gr (bN Vq):=fsc
noncomputable abbrev Vb:Stmt:=top 71
noncomputable abbrev HD:Ξ:=["_law_share", "_law_rooms", "_law_plan_here", "_law_start", "_law_numbers"]
noncomputable abbrev Gp:Str := "_law_due"
noncomputable abbrev ZX:Ξ:=["_law_share", "_law_rooms", "_law_plan_here", "_law_start", "_law_numbers", "_law_steps", "_law_paid", "_law_factor", "_law_room", "_law_number_here", "_law_pay", "_law_ways"]
theorem lX:bV ZX HD (bN Vb):=fsc
noncomputable abbrev YF:Stmt:=top 72
noncomputable abbrev M4:Ξ:=["_law_found", "_law_due_here"]
noncomputable abbrev Og:Str := "_law_is"
noncomputable abbrev adL:Ξ:=["_law_found", "_law_due_here", "_law_step"]
theorem Yq:bV adL M4 (bN YF):=fsc
noncomputable abbrev xq:Stmt:=top 73
noncomputable abbrev pZ:Ξ:=["_law_hall", "_law_plan_here", "_law_start", "_law_at", "_law_room"]
noncomputable abbrev pQ:Str := "_law_refused"
noncomputable abbrev Qs:Ξ:=["_law_hall", "_law_plan_here", "_law_start", "_law_at", "_law_room", "_law_refused_here", "_law_e"]
theorem qd:bV Qs pZ (bN xq):=fsc
noncomputable abbrev uP:Stmt:=top 74
noncomputable abbrev m8:Ξ:=["_law_plan_here", "_law_cell_here"]
noncomputable abbrev nj:Str := "_law_bad_plan"
noncomputable abbrev Kr:Ξ:=["_law_plan_here", "_law_cell_here", "_law_at", "_law_way", "_law_bad"]
theorem nM:bV Kr m8 (bN uP):=fsc
noncomputable abbrev Io:Stmt:=top 75
noncomputable abbrev Ma:Ξ:=["_law_script"]
noncomputable abbrev Gn:Str := "law"
noncomputable abbrev Ru:Ξ:=["_law_script", "_law_names", "_law_hall", "_law_plan_here", "_law_start", "_law_numbers", "_law_due_here", "_law_handed", "_law_found", "_law_odd", "_law_share", "_law_rooms", "_law_bad", "_law_room"]
theorem jx:bV Ru Ma (bN Io):=fsc
noncomputable abbrev sU:Stmt:=fP 45 0
noncomputable abbrev lA:Ξ:=["self", "name", "pay"]
noncomputable abbrev u_:Str := "__init__"
noncomputable abbrev vO:Str := "Door.__init__"
noncomputable abbrev J3:Ξ:=["self", "name", "pay"]
theorem GQ:bV J3 lA (bN sU):=fsc
noncomputable abbrev rM:Stmt:=fP 45 1
noncomputable abbrev lO:Ξ:=["self"]
noncomputable abbrev vU:Str := "ways"
noncomputable abbrev vZ:Str := "Door.ways"
noncomputable abbrev Jc:Ξ:=["self"]
theorem HN:bV Jc lO (bN rM):=fsc
noncomputable abbrev qt:Stmt:=fP 46 0
noncomputable abbrev j4:Ξ:=["self", "name", "pay", "pairs"]
noncomputable abbrev ur:Str := "__init__"
noncomputable abbrev um:Str := "Mixed.__init__"
noncomputable abbrev Gz:Ξ:=["self", "name", "pay", "pairs"]
theorem Cp:bV Gz j4 (bN qt):=fsc
noncomputable abbrev nO:Stmt:=fP 52 0
noncomputable abbrev lD:Ξ:=["self", "share", "rooms"]
noncomputable abbrev vI:Str := "__init__"
noncomputable abbrev wH:Str := "Hall.__init__"
noncomputable abbrev rT:Ξ:=["self", "share", "rooms"]
theorem GP:bV rT lD (bN nO):=fsc
noncomputable abbrev rG:Stmt:=fP 52 1
noncomputable abbrev gF:Ξ:=["self"]
noncomputable abbrev vP:Str := "size"
noncomputable abbrev vq:Str := "Hall.size"
noncomputable abbrev Kp:Ξ:=["self"]
theorem Gk:bV Kp gF (bN rG):=fsc
noncomputable abbrev gb:Stmt:=fP 52 4
noncomputable abbrev dH:Ξ:=["self", "room"]
noncomputable abbrev iJ:Str := "check_room"
noncomputable abbrev iI:Str := "Hall.check_room"
noncomputable abbrev vo:Ξ:=["self", "room"]
theorem mX:bV vo dH (bN gb):=fsc
noncomputable abbrev j5:Stmt:=fP 52 6
noncomputable abbrev gq:Ξ:=["self", "room"]
noncomputable abbrev rB:Str := "offers"
noncomputable abbrev rF:Str := "Hall.offers"
noncomputable abbrev nZ:Ξ:=["self", "room"]
theorem Bv:bV nZ gq (bN j5):=fsc
noncomputable abbrev n_:Stmt:=fP 9 0
noncomputable abbrev iZ:Ξ:=["self", "room"]
noncomputable abbrev rZ:Str := "__init__"
noncomputable abbrev sY:Str := "NoRoom.__init__"
noncomputable abbrev CQ:Ξ:=["self", "room"]
theorem Ax:bV CQ iZ (bN n_):=fsc
noncomputable abbrev oR:Stmt:=fP 11 0
noncomputable abbrev ji:Ξ:=["self", "room"]
noncomputable abbrev sE:Str := "__init__"
noncomputable abbrev qM:Str := "NoPlan.__init__"
noncomputable abbrev CV:Ξ:=["self", "room"]
theorem Aq:bV CV ji (bN oR):=fsc
structure Adr where
 HallError:Addr
 NoNumber:Addr
 NoName:Addr
 NoChance:Addr
 NoShare:Addr
 NoText:Addr
 NoRow:Addr
 NoRoom:Addr
 NoDoor:Addr
 NoPlan:Addr
 Door:Addr
 Mixed:Addr
 Hall:Addr
 NOUGHT:Addr
 ONE:Addr
 Door_init:Addr
 Door_ways:Addr
 Mixed_init:Addr
 Hall_init:Addr
 Hall_size:Addr
 Hall_check_room:Addr
 Hall_offers:Addr
 NoRoom_init:Addr
 NoPlan_init:Addr
structure Txt(K:Frag)(mg:Str->Ε)(D:Adr):Prop where
 ZK:mg "Door" = some (.ref D.Door)
 YK:mg "Hall" = some (.ref D.Hall)
 sH:mg "HallError" = some (.ref D.HallError)
 WW:mg "Mixed" = some (.ref D.Mixed)
 rY:mg "NOUGHT" = some (.ref D.NOUGHT)
 uM:mg "NoChance" = some (.ref D.NoChance)
 Uy:mg "NoDoor" = some (.ref D.NoDoor)
 Br:mg "NoName" = some (.ref D.NoName)
 B_:mg "NoNumber" = some (.ref D.NoNumber)
 zP:mg "NoPlan" = some (.ref D.NoPlan)
 Ke:mg "NoRoom" = some (.ref D.NoRoom)
 XH:mg "NoRow" = some (.ref D.NoRow)
 QT:mg "NoShare" = some (.ref D.NoShare)
 Tv:mg "NoText" = some (.ref D.NoText)
 R6:mg "ONE" = some (.ref D.ONE)
 zH:Jz K D.NoChance
 JQ:Jz K D.NoName
 Mi:Jz K D.NoNumber
 J1:mroIn K D.HallError (.type "BaseException")=some true
 Jl:typeIn K (.ref D.HallError)=some (.type "type")
 Bo:∃u,mg "LONGEST_WORD" = some u/\RelV (.int 8) u
 o9:∀H,SqT K H D.NOUGHT [.int 0,.int 1]
 Le:∀H,SqT K H D.ONE [.int 1,.int 1]
 Rw:Cls K D.Door
 Fp:Meth K D.Door "ways" D.Door_ways
 CW:dj K D.Door "leads"
 Gs:dj K D.Door "name"
 Iv:dj K D.Door "pay"
 Te:Mk K D.Mixed D.Mixed_init
 Qf:Cls K D.Mixed
 Cv:Meth K D.Mixed "ways" D.Door_ways
 Ca:dj K D.Mixed "leads"
 CN:dj K D.Mixed "name"
 Fd:dj K D.Mixed "pay"
 W_:Mk K D.Hall D.Hall_init
 qU:Cls K D.Hall
 uU:Meth K D.Hall "check_room" D.Hall_check_room
 Bg:Meth K D.Hall "offers" D.Hall_offers
 Et:Meth K D.Hall "size" D.Hall_size
 Cz:dj K D.Hall "leads"
 Hs:dj K D.Hall "name"
 k_:dj K D.Hall "numbers"
 qG:dj K D.Hall "offered"
 I9:dj K D.Hall "pay"
 ud:dj K D.Hall "share"
 xi_NoRoom:Ft K D.NoRoom D.HallError D.NoRoom_init
 xs_NoRoom:Pa K D.NoRoom
 xk_NoRoom:uw K D.NoRoom
 hd_NoRoom:hasDictIn K D.NoRoom=true
 sm_NoRoom:mroIn K D.NoRoom (.ref D.HallError)=some true
 sG:dj K D.NoRoom "room"
 ki_NoRoom_NoChance:kitOne K (.ref D.NoRoom) (.ref D.NoChance)=some false
 ki_NoRoom_NoDoor:kitOne K (.ref D.NoRoom) (.ref D.NoDoor)=some false
 ki_NoRoom_NoName:kitOne K (.ref D.NoRoom) (.ref D.NoName)=some false
 ki_NoRoom_NoNumber:kitOne K (.ref D.NoRoom) (.ref D.NoNumber)=some false
 ki_NoRoom_NoPlan:kitOne K (.ref D.NoRoom) (.ref D.NoPlan)=some false
 ki_NoRoom_NoRoom:kitOne K (.ref D.NoRoom) (.ref D.NoRoom)=some true
 ki_NoRoom_NoRow:kitOne K (.ref D.NoRoom) (.ref D.NoRow)=some false
 ki_NoRoom_NoShare:kitOne K (.ref D.NoRoom) (.ref D.NoShare)=some false
 ki_NoRoom_NoText:kitOne K (.ref D.NoRoom) (.ref D.NoText)=some false
 ki_NoRoom_ValueError:kitOne K (.ref D.NoRoom) (.type "ValueError")=some true
 xi_NoPlan:Ft K D.NoPlan D.HallError D.NoPlan_init
 xs_NoPlan:Pa K D.NoPlan
 xk_NoPlan:uw K D.NoPlan
 hd_NoPlan:hasDictIn K D.NoPlan=true
 sm_NoPlan:mroIn K D.NoPlan (.ref D.HallError)=some true
 sO:dj K D.NoPlan "room"
 ki_NoPlan_NoChance:kitOne K (.ref D.NoPlan) (.ref D.NoChance)=some false
 ki_NoPlan_NoDoor:kitOne K (.ref D.NoPlan) (.ref D.NoDoor)=some false
 ki_NoPlan_NoName:kitOne K (.ref D.NoPlan) (.ref D.NoName)=some false
 ki_NoPlan_NoNumber:kitOne K (.ref D.NoPlan) (.ref D.NoNumber)=some false
 ki_NoPlan_NoPlan:kitOne K (.ref D.NoPlan) (.ref D.NoPlan)=some true
 ki_NoPlan_NoRoom:kitOne K (.ref D.NoPlan) (.ref D.NoRoom)=some false
 ki_NoPlan_NoRow:kitOne K (.ref D.NoPlan) (.ref D.NoRow)=some false
 ki_NoPlan_NoShare:kitOne K (.ref D.NoPlan) (.ref D.NoShare)=some false
 ki_NoPlan_NoText:kitOne K (.ref D.NoPlan) (.ref D.NoText)=some false
 ki_NoPlan_ValueError:kitOne K (.ref D.NoPlan) (.type "ValueError")=some true
 ib_HallError:Vr K D.HallError
 Gu:DW K D.Door "__init__" D.Door_init
 Gf:vC K u_ vO sU lA D.Door_init
 Fi:vC K vU vZ rM lO D.Door_ways
 C_:vC K ur um qt j4 D.Mixed_init
 FT:vC K vI wH nO lD D.Hall_init
 Hr:vC K vP vq rG gF D.Hall_size
 lY:vC K iJ iI gb dH D.Hall_check_room
 Ar:vC K rB rF j5 gq D.Hall_offers
 Am:vC K rZ sY n_ iZ D.NoRoom_init
 Al:vC K sE qM oR ji D.NoPlan_init
 GD:mg "ValueError" = none
 Ii:mg "abs" = none
 acs:mg "all" = none
 RJ:mg "bool" = none
 yr:mg "enumerate" = none
 Q0:mg "int" = none
 cB:mg "isinstance" = none
 iT:mg "len" = none
 oH:mg "list" = none
 lM:mg "range" = none
 KJ:mg "reversed" = none
 T4:mg "sorted" = none
 aa9:mg "str" = none
 Yj:mg "sum" = none
 vg:mg "tuple" = none
 Ml:dG K mg fG uF fB
 QK:dG K mg jB xQ jF
 Xl:dG K mg oV Fx oZ
 Lp:dG K mg iQ uR iM
 Y9:dG K mg wO Li wj
 WL:dG K mg pI Gv pB
 Vf:dG K mg tO zN tU
 Oc:dG K mg pG zB pA
 f_total:dG K mg vV HB vJ
 Zz:dG K mg yP Kz zy
 Fg:dG K mg j8 qy jU
 Az:dG K mg iy jr iC
 Mh:dG K mg nA uH nH
 CT:dG K mg iW j_ jy
 Gj:dG K mg j9 pJ jV
 U7:dG K mg oY sJ oW
 Qu:dG K mg jD sZ jA
 G9:dG K mg jZ pU jW
 vd:dG K mg fK iV fM
 Bs:dG K mg iB mL ig
 Dd:dG K mg jm jN i_
 Dg:dG K mg jl j7 jz
 Cy:dG K mg jh oF jo
 Hg:dG K mg jT qu jX
 yD:dG K mg gG kZ gJ
 Js:dG K mg lB qL lN
 Y6:dG K mg tu Lx tD
 Vo:dG K mg lQ zZ lR
 ac4:dG K mg Bm Vm Ao
 U5:dG K mg gC Cj gH
 Wv:dG K mg qT Fy qK
 L_:dG K mg m6 uT nq
 Yu:dG K mg yN Ez yO
 WD:dG K mg vm zm vN
 V8:dG K mg vR Ho vH
 X3:dG K mg sy yU qX
 QW:dG K mg mH o8 mG
 Xq:dG K mg vY yZ vL
 Yx:dG K mg zf Ln zq
 Xm:dG K mg qP G8 qY
 V2:dG K mg vG HX vD
 U3:dG K mg tW Aa tG
 acp:dG K mg Gi Vq Gr
 acU:dG K mg Gp Vb HD
 adv:dG K mg Og YF M4
 PX:dG K mg pQ xq pZ
 Mf:dG K mg nj uP m8
noncomputable def Fam(D:Adr)(C:Addr):Prop:=C=D.Door\/C=D.Mixed\/C=D.Hall
theorem Txt.cl{K:Frag}{mg:Str->Ε}{D:Adr}(T:Txt K mg D):∀C,Fam D C->Cls K C:=by
 rintro C (rfl|rfl|rfl)
 .exact T.Rw
 .exact T.Qf
 .exact T.qU
theorem Txt.Af{K:Frag}{mg:Str->Ε}{D:Adr}(T:Txt K mg D):∀C,Fam D C->dj K C "leads" := by
 rintro C (rfl|rfl|rfl)
 .exact T.CW
 .exact T.Ca
 .exact T.Cz
theorem Txt.yV{K:Frag}{mg:Str->Ε}{D:Adr}(T:Txt K mg D):∀C,Fam D C->dj K C "name" := by
 rintro C (rfl|rfl|rfl)
 .exact T.Gs
 .exact T.CN
 .exact T.Hs
theorem Txt.TJ{K:Frag}{mg:Str->Ε}{D:Adr}(T:Txt K mg D):∀C,Fam D C->dj K C "pay" := by
 rintro C (rfl|rfl|rfl)
 .exact T.Iv
 .exact T.Fd
 .exact T.I9
noncomputable def cM(D:Adr)(C:Addr):Prop:=C=D.Hall
theorem cM.fam{D:Adr}{C:Addr}(h:cM D C):Fam D C:=by
 unfold cM at h;unfold Fam;simp[h]
theorem Txt.m5{K:Frag}{mg:Str->Ε}{D:Adr}(T:Txt K mg D):∀C,cM D C->Meth K C "check_room" D.Hall_check_room:=by
 rintro C (rfl)
 .exact T.uU
noncomputable def dJ(D:Adr)(C:Addr):Prop:=C=D.Hall
theorem dJ.fam{D:Adr}{C:Addr}(h:dJ D C):Fam D C:=by
 unfold dJ at h;unfold Fam;simp[h]
theorem Txt.rK{K:Frag}{mg:Str->Ε}{D:Adr}(T:Txt K mg D):∀C,dJ D C->Meth K C "offers" D.Hall_offers:=by
 rintro C (rfl)
 .exact T.Bg
noncomputable def dI(D:Adr)(C:Addr):Prop:=C=D.Hall
theorem dI.fam{D:Adr}{C:Addr}(h:dI D C):Fam D C:=by
 unfold dI at h;unfold Fam;simp[h]
theorem Txt.qx{K:Frag}{mg:Str->Ε}{D:Adr}(T:Txt K mg D):∀C,dI D C->Meth K C "size" D.Hall_size:=by
 rintro C (rfl)
 .exact T.Et
noncomputable def eE(D:Adr)(C:Addr):Prop:=C=D.Door\/C=D.Mixed
theorem eE.fam{D:Adr}{C:Addr}(h:eE D C):Fam D C:=by
 unfold eE at h;unfold Fam;rcases h with h|h<;>simp[h]
theorem Txt.Gb{K:Frag}{mg:Str->Ε}{D:Adr}(T:Txt K mg D):∀C,eE D C->Meth K C "ways" D.Door_ways:=by
 rintro C (rfl|rfl)
 .exact T.Fp
 .exact T.Cv
section
variable{P:Program}{w:World}{K:Frag}{mg:Str->Ε}{base:Heap}{D:Adr}
theorem boot_abs:bootBuiltins "abs" = some (.builtin "abs"):=by decide +kernel
theorem Kf:1<=sizeLine:=by decide
theorem fH:2<=sizeLine:=by decide
theorem Xf{n:Int}(h0:0<=n)(h1:n<=1000000):acy 10 n:=⟨h0,h1,by decide⟩
theorem Zx{n:Nat}(h:n<=64):n<=sizeLine:=aL h (by decide)
theorem WK(ns:List Int)(k:Nat):atI (qb (ns.map V.int) (some (k:Int)) (some ((k:Int)+1))++[V.int 0]) 0=some (V.int (ns.getD k 0)):=by
 unfold qb;rw[show((k:Int)+1)=((k+1:Nat):Int)by lia,HT.tH,HT.tH,ak];refine cg (j:=0) ?_;by_cases h:k<ns.length
 .rw[Nat.min_eq_left (Y2 h),Nat.min_eq_left (Nat.succ_le_of_lt h)];rw[show k+1-k=1 by exact Nat.add_sub_cancel_left _ _];rw[List.drop_eq_getElem_cons (by rw[ak];exact h)];simp[List.getD,h]
 .have e1:min k ns.length=ns.length:=by lia
  have e2:min (k+1) ns.length=ns.length:=by lia
  rw[e1,e2];simp[List.getD,List.getElem?_eq_none (Nat.le_of_not_lt h)]
theorem bQ{t u:TS}{D:Ends}{σ:L2.St}{H:Hp}(h:∀u',u'=u->ux t u' D σ H):ux t u D σ H:=h u rfl
theorem Qh{a b c d:TS}{D:Ends}{σ:L2.St}{H:Hp}(h:∀d',d'=d->ux a (ux b (ux c d')) D σ H):ux a (ux b (ux c d)) D σ H:=h d rfl
theorem Zi{α:Type} : ∀{l:List α},l.length=2->∃a b,l=[a,b]
 |[a,b],_=>⟨a,b,rfl⟩
theorem eY{te:TE}{D:Ends}{σ:L2.St}{H:Hp}(h:te σ H D.rt):Uu te D σ H:=h
theorem cW{t u:TS}{D:Ends}{σ:L2.St}{H:Hp}(h:t { D with nx:=u D } σ H):ux t u D σ H:=h
theorem bY{te:TE}{g:TG}{u:TS}{D:Ends}{σ:L2.St}{H:Hp}(h:te σ H λx H1=>g x σ H1 (u D)):ux (Fz te g) u D σ H:=h
theorem iG{c:TT}{t u:TS}{D:Ends}{σ:L2.St}{H:Hp}(h:c σ H λb H1=>if b=true then t D σ H1 else u D σ H1):Tt c t u D σ H:=h
theorem Za{r:Κ->Hp->VK->Prop}{te:TE}{σ:L2.St}{H:Hp}{Q:VK}(h:te σ H λx H1=>r [x] H1 Q):tCB r (uh te xU) σ H Q:=h
noncomputable def eO:Sp:=λvs H Q _=>∃x t,vs=[x]/\tyS H x=some t/\Q (.bl (t == "int")) H
theorem IK(F:Fun K fG fG uF f fd)(T:Txt K mg D):cD P w K mg base CX0 1 f fd fB eO:=by
 refine F.ok Jh ?_ ?_
 .rintro _ _ _ _ ⟨x,t,rfl,_⟩;rfl
 .rintro cdv A outer s H _ Q E hr ⟨x,t,rfl,ht,q⟩;refine⟨_,(bM (b_ (nQ (bW gk (by rfl) T.cB boot_isinstance (bD (pv 0) (bD (iz (v:=.ty "int") (by rfl) T.Q0 boot_int rfl) bF))) (sW (SN (bW gk (by rfl) T.cB boot_isinstance (bD (pv 0) (bD (iz (v:=.ty "bool") (by rfl) T.RJ boot_bool rfl) bF)))))))),?_⟩
  walk_at "rd"
  rw[ht]
  walk_at "rd"
  have hm:=K3 ht;simp only[YU,List.not_mem_nil,or_false]at hm;rcases hm with rfl|rfl|rfl|rfl|rfl|rfl|rfl<;>simpa using q
noncomputable def zU:Sp:=λvs H Q _=>∃(a b:Int),vs=[.int a,.int b]/\Q (.int (Int.gcd a b:Nat)) H
theorem Zc(F:Fun K Bm Bm Vm f fd)(T:Txt K mg D):cD P w K mg base CX0 1 f fd Ao zU:=by
 refine cD.clean (sp:=λvs H Q _=>∃(a b:Int),vs=[.int a,.int b]/\∀H',Same H H'->Q (.int (Int.gcd a b:Nat)) H')
  (F.ok Ib (λvs H Q E h=>?_) (λcdv A outer s H vs Q E hr h=>?_)) λvs H Q E hP=>by obtain⟨a,b,h1,h4⟩:=hP;exact⟨a,b,h1,λH' S=>⟨S,h4⟩⟩
 .obtain⟨a,b,rfl,_⟩:=h
  rfl
 .obtain⟨a,b,rfl,q⟩:=h;refine⟨_,(bH (Bx (bW QL (by rfl) T.T4 boot_sorted (bD (pR (bD (bW sX (by rfl) T.Ii boot_abs (bD (pv 0) bF)) (bD (bW sX (by rfl) T.Ii boot_abs (bD (pv 1) bF)) bF))) bF)) (VR (n:=2) rfl (cC (cF (i:=2) Ib.nd rfl (Or.inl rfl)) (cC (cF (i:=3) Ib.nd rfl (Or.inl rfl)) eN))))
   (bH (I_ PassesOwn.never (cU NZ (pv 2) bG (cH _))
    (bM (YX (i:=2) (j:=3) rfl Ib.nd rfl rfl (by decide) rfl rfl (bD (bR je (pv 3) (pv 2)) (bD (pv 2) bF)) rfl)))
   (bM (b_ (pv 3))))),?_⟩
  walk_at "rd"
  refine⟨fH,λp hp=>⟨[(a.natAbs:Int),(b.natAbs:Int)],?_,(by simp),λms p1 hp1 hm hs=>?_⟩⟩
  .rw[Ie,Ie];rfl
  have S:Same H (upd (upd H p (HO.lst [V.int (if a<0 then -a else a),V.int (if b<0 then -b else b)])) p1 (HO.lst (ms.map V.int))):=(Same.upd hp).trans (Same.upd hp1);generalize upd (upd H p (HO.lst [V.int (if a<0 then -a else a),V.int (if b<0 then -b else b)])) p1 (HO.lst (ms.map V.int))=H1 at S;have hk:∃l k:Nat,ms=[(l:Int),(k:Int)]/\Nat.gcd l k=Int.gcd a b:=by
   rcases RT hm with rfl|rfl
   .exact⟨_,_,rfl,rfl⟩
   .exact⟨_,_,rfl,Nat.gcd_comm _ _⟩
  obtain⟨l,k,rfl,hg⟩:=hk
  walk_at "rd"
  refine Jr (λσ H2=>∃l k:Nat,σ=[some (.int a),some (.int b),some (.int l),some (.int k)]/\H2=H1/\Nat.gcd l k=Int.gcd a b)
   (mI 2) ⟨l,k,rfl,rfl,hg⟩ ?_ ?_
  .rintro σ H2 ⟨l,k,rfl,rfl,hg⟩
   walk_at "rd"
   by_cases hl:l=0
   .subst hl;simp only[Int.natCast_zero,Int.lt_irrefl,decide_false,XW,if_false];rw[show k=Int.gcd a b by rw[<- hg,Nat.gcd_zero_left]];exact q _ S
   .have hl':(0:Int)<l:=by lia
    rw[ZY (Zs hl')];refine⟨by exact Int.ne_of_gt hl',⟨k%l,vX _ _,l,rfl,?_⟩,?_⟩
    .rw[<- Nat.gcd_rec];exact hg
    .rw[vX];show(k%l)<l;exact Nat.mod_lt _ (Nat.pos_of_ne_zero hl)
  .intro σ H2 Q1 Q2 hq
   walk_at "rd"
   rintro⟨v,h1,i,h2,h3⟩;exact⟨v,h1,i,h2,hq _ _ h3⟩
theorem Gm{a b:Int}(h:b≠0):(0:Int)<(Int.gcd a b:Nat):=by
 have:=Int.gcd_pos_of_ne_zero_right a h;lia
theorem K6{a b:Int}(h:b≠0)(hb:Bd b):Bd (Int.gcd a b:Nat):=by
 unfold Bd at *;refine Y3 ?_ hb;rw[XT];exact Nat.le_of_dvd (by lia) (Int.gcd_dvd_natAbs_right a b)
noncomputable def iH:Sp:=λvs H Q _=>∃(a b:Int),vs=[.int a,.int b]/\Q (.int (Int.gcd a b:Nat)) H
noncomputable def adP(a b:Int)(H1:Hp)(σ:L2.St)(H:Hp):Prop:=∃(l k:Nat)(z:Option V),σ=[some (.int a),some (.int b),some (.int l),some (.int k),z]/\H=H1/\Nat.gcd l k=Int.gcd a b
theorem Mq(F:Fun K jB jB xQ f fd)(T:Txt K mg D):cD P w K mg base CX0 1 f fd jF iH:=by
 refine F.ok jM ?_ ?_
 .rintro _ _ _ _ ⟨a,b,rfl,_⟩;rfl
 .rintro cdv A outer s H _ Q E hr ⟨a,b,rfl,q⟩;refine⟨_,(bH (bU (i:=2) jM.nd rfl (Or.inl rfl) (bW sX (by rfl) T.Ii boot_abs (bD (pv 0) bF)))
   (bH (bU (i:=3) jM.nd rfl (Or.inl rfl) (bW sX (by rfl) T.Ii boot_abs (bD (pv 1) bF)))
   (bH (I_ PassesOwn.never (cU El (pv 3) bG (cH _))
    (bH (bU (i:=4) jM.nd rfl (Or.inl rfl) (bR je (pv 2) (pv 3)))
    (bH (bU (i:=2) jM.nd rfl (Or.inl rfl) (pv 3))
    (bM (bU (i:=3) jM.nd rfl (Or.inl rfl) (pv 4))))))
   (bM (b_ (pv 2)))))),?_⟩
  walk_at "rd"
  rw[Ie,Ie];refine Jr (adP a b H) (mI 3) ⟨a.natAbs,b.natAbs,none,rfl,rfl,rfl⟩ ?_ ?_
  .rintro σ H2 ⟨l,k,z,rfl,rfl,hg⟩
   walk_at "rd"
   by_cases hl:k=0
   .subst hl;rw[ZZ (by simp)];rw[show l=Int.gcd a b by rw[<- hg,Nat.gcd_zero_right]];exact q
   .have hl':¬((k:Int)=0):=by lia
    rw[ZY (by simpa using hl)];refine⟨by omega,⟨k,l%k,some (.int ((l%k:Nat):Int)),?_,rfl,?_⟩,?_⟩
    .rw[vX]
    .rw[Nat.gcd_comm,<- Nat.gcd_rec,Nat.gcd_comm];exact hg
    .rw[vX];show(l%k)<k;exact Nat.mod_lt _ (Nat.pos_of_ne_zero hl)
  .intro σ H2 Q1 Q2 hq
   walk_at "rd"
   rintro⟨v,h1,h2,h3⟩;exact⟨v,h1,h2,hq _ _ h3⟩
structure Low(t b x y:Int):Prop where
 pos:0<y
 gcd:Int.gcd x y=1
 eq:x*b=t*y
 lx:x.natAbs<=t.natAbs
 ly:y.natAbs<=b.natAbs
theorem zY{c q:Int}(h:c≠0):Int.fdiv (c*q) c=q:=by
 rw[Int.fdiv_eq_ediv_of_dvd (Int.dvd_mul_right c q),Int.mul_ediv_cancel_left _ h]
theorem Ak{c q:Int}(h:c≠0):q.natAbs<=(c*q).natAbs:=by
 rw[Int.natAbs_mul];exact Nat.le_mul_of_pos_left _ (by lia)
theorem Sy{t b c:Int}(hb:b≠0)(hc:c≠0)(hg:c.natAbs=Int.gcd t b)(hs:0<c*b):Low t b (Int.fdiv t c) (Int.fdiv b c):=by
 have d1:c ∣ t:=Int.natAbs_dvd.mp (by rw[hg];exact Int.gcd_dvd_left t b);have d2:c ∣ b:=Int.natAbs_dvd.mp (by rw[hg];exact Int.gcd_dvd_right t b);obtain⟨x,rfl⟩:=d1;obtain⟨y,rfl⟩:=d2;rw[zY hc,zY hc];refine⟨?_,?_,?_,Ak hc,Ak hc⟩
 .rw[<- Int.mul_assoc]at hs;have hp:0<c*c:=by
   rcases Int.lt_or_lt_of_ne hc with z|z
   .exact Int.mul_pos_of_neg_of_neg z z
   .exact XZ z z
  exact Int.pos_of_mul_pos_right hs hp
 .rw[Int.gcd_mul_left]at hg;have hp:0<c.natAbs:=by lia
  exact Nat.eq_of_mul_eq_mul_left hp (by rw[Nat.mul_one];exact hg.symm)
 .rw[Int.mul_left_comm,Int.mul_assoc]
noncomputable def o7:Sp:=λvs H Q _=>∃(t b:Int),vs=[.int t,.int b]/\b≠0/\Bd b/\∀p x y,Low t b x y->H p=none->Q (.ref p) (upd H p (.tup [.int x,.int y]))
theorem Vd{i:Int}(h:Bd i):Bd (-i):=by unfold Bd at *;rw[Int.natAbs_neg];exact h
theorem TF(F:Fun K oV oV Fx f fd)(T:Txt K mg D)(cL:OkF P w K mg base 1 fG fB eO)(fW:OkF P w K mg base 1 jB jF iH):cD P w K mg base CX0 2 f fd oZ o7:=by
 refine F.ok Bb ?_ ?_
 .rintro _ _ _ _ ⟨t,b,rfl,_⟩;rfl
 .rintro cdv A outer s H _ Q E hr ⟨t,b,rfl,hb,hbd,q⟩;refine⟨_,(bH (dB (PW.pt (pw_or (cT (cQ (bO cL hr.md (by rfl) (bD (pv 0) bF)) (λ_=>rfl))) (pw_or1 (cT (cQ (bO cL hr.md (by rfl) (bD (pv 1) bF)) (λ_=>rfl))))))
    (bM mO)
    cG)
   (bH (dB (cU qF (pv 1) bG (cH _))
    (bM mO)
    cG)
   (bH (bU (i:=2) Bb.nd rfl (Or.inl rfl) (bO fW hr.md (by rfl) (bD (pv 0) (bD (pv 1) bF))))
   (bH (dB (cU Bc (pv 1) bG (cH _))
    (bM (bU (i:=2) Bb.nd rfl (Or.inl rfl) (Rx Mt (pv 2))))
    cG)
   (bM (b_ (oh (bD (bR dY (pv 0) (pv 2)) (bD (bR dY (pv 1) (pv 2)) bF))))))))),?_⟩
  unfold eO iH
  walk_at "rd"
  have g0:=Gm (a:=t) hb;have g1:=K6 (a:=t) hb hbd;rw[ZZ (by simpa using hb)];refine Wk (λhn=>?_) λhn=>?_
  .rw[decide_eq_true_eq]at hn;refine⟨by omega,Vd g1,by omega,Vd g1,fH,λp hp=>q p _ _ (Sy hb (by omega) (by lia) ?_) hp⟩;exact Int.mul_pos_of_neg_of_neg (by lia) hn
  .rw[decide_eq_true_eq]at hn;refine⟨by exact Int.ne_of_gt g0,g1,by exact Int.ne_of_gt g0,g1,fH,λp hp=>q p _ _ (Sy hb (Int.ne_of_gt g0) (by lia) ?_) hp⟩;exact XZ g0 (by lia)
noncomputable def o_:Sp:=λvs H Q _=>∃(p q:Addr)(x y u v:Int),vs=[.ref p,.ref q]/\SqT K H p [.int x,.int y]/\SqT K H q [.int u,.int v]/\Bd x/\Bd y/\Bd u/\Bd v/\Q (.bl (decide (x*v<u*y))) H
theorem Ua(F:Fun K pI pI Gv f fd):cD P w K mg base CX0 1 f fd pB (o_ (K:=K)):=by
 refine F.ok Rm ?_ ?_
 .rintro _ _ _ _ ⟨p,q,x,y,u,v,rfl,_⟩;rfl
 .rintro cdv A outer s H _ Q E hr ⟨p,q,x,y,u,v,rfl,hp,hq,bx,b_y,bu,bv,k⟩;refine⟨_,(bM (b_ (h_ Bc (bR cJ (bT gA (pv 0) bG (λ_ _=>rfl)) (bT gA (pv 1) bG (λ_ _=>rfl))) (bR cJ (bT gA (pv 1) bG (λ_ _=>rfl)) (bT gA (pv 0) bG (λ_ _=>rfl))) (cH _)))),?_⟩
  walk_at "rd"
  exact⟨_,hp,_,fD,_,hq,_,dX,_,rfl,_,rfl,bx,bv,_,hq,_,fD,_,hp,_,dX,_,rfl,_,rfl,bu,b_y,k⟩
noncomputable def G6(g:Int->Int->Int):Sp:=λvs H Q _=>∃(p q:Addr)(x y u v:Int),vs=[.ref p,.ref q]/\SqT K H p [.int x,.int y]/\SqT K H q [.int u,.int v]/\Bd x/\Bd y/\Bd u/\Bd v/\0<y/\0<v/\Bd (y*v) /\
 ∀r z o,Low (g (x*v) (u*y)) (y*v) z o->H r=none->Q (.ref r) (upd H r (.tup [.int z,.int o]))
theorem XM(F:Fun K wO wO Li f fd)(lE:OkF P w K mg base 2 oV oZ o7):cD P w K mg base CX0 3 f fd wj (G6 (K:=K) λa b=>a+b):=by
 refine F.ok Wh ?_ ?_
 .rintro _ _ _ _ ⟨p,q,x,y,u,v,rfl,_⟩;rfl
 .rintro cdv A outer s H _ Q E hr ⟨p,q,x,y,u,v,rfl,hp,hq,bx,b_y,bu,bv,y0,v0,byv,k⟩;refine⟨_,(bM (b_ (bO lE hr.md (by rfl) (bD (bR cX (bR cJ (bT gA (pv 0) bG (λ_ _=>rfl)) (bT gA (pv 1) bG (λ_ _=>rfl))) (bR cJ (bT gA (pv 1) bG (λ_ _=>rfl)) (bT gA (pv 0) bG (λ_ _=>rfl)))) (bD (bR cJ (bT gA (pv 0) bG (λ_ _=>rfl)) (bT gA (pv 1) bG (λ_ _=>rfl))) bF))))),?_⟩;unfold o7
  walk_at "rd"
  exact⟨_,hp,_,fD,_,hq,_,dX,_,rfl,_,rfl,bx,bv,_,hq,_,fD,_,hp,_,dX,_,rfl,_,rfl,bu,b_y,_,hp,_,dX,_,hq,_,dX,_,rfl,_,rfl,b_y,bv,Int.ne_of_gt (XZ y0 v0),byv,λr z o l hr=>k r z o l hr⟩
noncomputable def Cr(c:Nat):Bool:=decide (c∈(Str.ofString "abcdefghijklmnopqrstuvwxyz").cps.toList)
noncomputable def kE(l:List Nat):Bool:=decide (1<=l.length)&&decide (l.length<=8)&&l.all Cr
theorem W9(c:Nat):((!decide ([c]<[97])) && !decide ([122]<[c]))=Cr c:=by
 have e:(Str.ofString "abcdefghijklmnopqrstuvwxyz").cps.toList=(List.range 26).map (97 + ·):=by decide +kernel
 have m:c∈(List.range 26).map (97 + ·)↔97<=c/\c<=122:=by
  rw[YV];constructor
  .rintro⟨i,h,rfl⟩;have:=List.mem_range.mp h;exact⟨XG ..,by lia⟩
  .exact λh=>⟨c-97,List.mem_range.mpr (by omega),by omega⟩
 have h1:([c]<[97])↔c<97:=by rw[List.cons_lt_cons_iff];simp
 have h2:([122]<[c])↔122<c:=by rw[List.cons_lt_cons_iff];simp
 unfold Cr;rw[e,decide_eq_decide.mpr m,decide_eq_decide.mpr h1,decide_eq_decide.mpr h2];by_cases a:c<97
 .rw[Zs a,Zp (p:=97<=c/\c<=122) (by lia)];rfl
 .by_cases b:122<c
  .rw[Zs b,Zp (p:=97<=c/\c<=122) (by lia)];exact Bool.and_false _
  .rw[Zp a,Zp b,Zs ⟨by exact Nat.le_of_not_lt a,by exact Nat.le_of_not_lt b⟩];rfl
noncomputable def uK:Sp:=λvs H Q _=>∃v,vs=[v]/\((∃x:Str,v=.str x/\x.length<=1000/\Q (.bl (kE x.cps.toList)) H)\/∃t,tyS H v=some t/\t ≠ "str" /\ Q (.bl false) H)
theorem Ld(F:Fun K jD jD sZ f fd)(T:Txt K mg D):cD P w K mg base CX0 1 f fd jA uK:=by
 refine cD.clean (sp:=λvs H Q _=>∃v,vs=[v]/\((∃x:Str,v=.str x/\x.length<=1000/\∀H',Same H H'->Q (.bl (kE x.cps.toList)) H')\/∃t,tyS H v=some t/\t ≠ "str" /\ ∀H',Same H H'->Q (.bl false) H'))
  (F.ok LQ (λvs H Q E h=>?_) (λcdv A outer s H vs Q E hr h=>?_)) λvs H Q E hP=>by obtain⟨v,h1,h2⟩:=hP;exact⟨v,h1,h2.imp (λhP=>by obtain⟨x,a,b,c⟩:=hP;exact⟨x,a,b,λH' S=>⟨S,c⟩⟩) λhP=>by obtain⟨t,a,b,c⟩:=hP;exact⟨t,a,b,λH' S=>⟨S,c⟩⟩⟩
 .obtain⟨v,rfl,_⟩:=h
  rfl
 .obtain⟨v,rfl,h⟩:=h;refine⟨_,(bH (dB (PW.pt (pw_or (cT (cQ (bW gk (by rfl) T.cB boot_isinstance (bD (pv 0) (bD (iz (v:=.ty "str") (by rfl) T.aa9 boot_str rfl) bF))) (λ_=>rfl))) (pw_or1 (cT (Bp Jm Jm bG (bW Fw (by rfl) T.iT PySem.boot_len (bD (pv 0) bF)) (Q9 (by rfl) T.Bo))))))
    (bM (b_ mF))
    cG)
   (bM (b_ (bW (Qj rfl) (by rfl) T.acs boot_all (bD (pF (bN sZ) xH xH ["sign"] (Zq ((pv 0)).mono) (fZ (i:=0)) fL (Il RB RB jL (pv 0) jL)) bF))))),?_⟩
  rcases h with⟨x,rfl,hx,q⟩|⟨t,ht,hne,q⟩
  .have hz:x.length<=sizeLine:=aL hx (by decide);have hl:x.cps.toList.length=x.length:=Array.length_toList;have ea:Str.ofString "a" = ⟨#[97]⟩:=by decide +kernel
   have ez:Str.ofString "z" = ⟨#[122]⟩:=by decide +kernel
   walk_at "rd"
   refine⟨hz,?_⟩;by_cases h1:1<=x.length
   .rw[ZY (Zs (by lia))];by_cases h2:x.length<=8
    .rw[ZZ (by rw[Zs (by lia)];decide)];refine Jp Cr x (λR h=>⟨_,rfl,h⟩) hz (λc Hc R h=>?_) λL hL=>⟨L,rfl,_,bI,?_⟩
     .simp only[ux,Tt,Uu,Vv,tOp,tUn,rU,OJ,N8,Wz,tSl,Iz,tC,Ow,rI0,rI,W6,Rz,V3,uh,xU,tCB,Hl,Jx,X_,tOr,ZD,NP,O2,ZJ,Wc,Fz,X6,cu,Xi,Nx,Mx,Ng,Ni,Nb,Wu,M8,HY,KY,wD,EY,Lh,SJ,rEq,rNe,Ss,Vp,Vt,U9,Ug,Ut,Ud,Ul,Rn,U0,Uj,Rf,T9,R4,Nz,Nf,xu,Mj,Gq,Gw,Tp,Tn,Zg,W4,Ends.unset,WM,YJ,Hv,ZF,R8,W8,R_,Ot,R5,T3,Yw,tSM,Mw,Ht,BJ,Q5,Wo,Ob,FZ,X8,yL,HJ,Nv,Uo,rJoin,Vx,Tf,tB,JF,Xh,T_,yQ,Od,M7,Xw,YW,Tr,Oz,G7,Ra,K8,Tw,zX,Yv,Wy,zp,V.str.injEq,L2.start,List.replicate_succ,List.replicate_zero,Nat.reduceSub,Nat.reduceAdd,List.map_cons,List.map_nil,List.length_cons,List.length_nil,List.cons_append,List.nil_append,List.append_nil,List.getElem?_cons_zero,List.getElem?_cons_succ,List.set_cons_zero,List.set_cons_succ,List.set_nil,Option.some.injEq,exists_eq_left',exists_eq_left,exists_and_left,exists_and_right,exists_eq_right,exists_eq,exists_eq',and_assoc,V.int.injEq,V.ref.injEq,V.bl.injEq,V.ty.injEq,List.cons.injEq,HO.tup.injEq,HO.lst.injEq,and_true,true_and,reduceCtorEq,fD,dX,bI,decide_true,decide_false,Bool.not_true,Bool.not_false,if_true,if_false,ite_true,ite_false,XW,YU,String.reduceEq,or_true,true_or,or_false,false_or,beq_self_eq_true,Bool.or_true,Bool.true_or,Bool.or_false,Bool.false_or,Bool.and_true,Bool.and_false,Bool.true_and,Bool.false_and,String.reduceBEq,Int.reduceToNat,Int.reducePow,Int.reduceMul,Int.reduceSub,Int.reduceAdd,Int.reduceNeg,Int.reduceLE,Int.reduceLT,Int.reduceEq,ne_eq,not_false_eq_true,not_true_eq_false,Int.cast_ofNat_Int,ea,ez];have:=W9 c;rw[<- this]at h;cases hd:(!decide ([c]<[97]))with
      |false=>rw[hd]at h;exact h
      |true=>rw[hd]at h;exact h
     .have ew:kE x.cps.toList=(x.cps.toList.map Cr).all id:=by
       unfold kE;rw[hl,Zs h1,Zs h2,List.all_map];rfl
      rw[<- ew];exact q _ (Same.upd hL)
    .rw[ZY (by rw[Zp (by lia)];rfl)];have ew:kE x.cps.toList=false:=by
      unfold kE;rw[hl,Zp h2,Bool.and_false];rfl
     rw[ew]at q;exact q _ (Same.refl _)
   .rw[ZZ (by rw[decide_eq_true_eq];lia)];have ew:kE x.cps.toList=false:=by
     unfold kE;rw[hl,Zp h1];rfl
    rw[ew]at q;exact q _ (Same.refl _)
  .simp only[ux,Tt,Uu,Vv,tOp,tUn,rU,OJ,N8,Wz,tSl,Iz,tC,Ow,rI0,rI,W6,Rz,V3,uh,xU,tCB,Hl,Jx,X_,tOr,ZD,NP,O2,ZJ,Wc,Fz,X6,cu,Xi,Nx,Mx,Ng,Ni,Nb,Wu,M8,HY,KY,wD,EY,Lh,SJ,rEq,rNe,Ss,Vp,Vt,U9,Ug,Ut,Ud,Ul,Rn,U0,Uj,Rf,T9,R4,Nz,Nf,xu,Mj,Gq,Gw,Tp,Tn,Zg,W4,Ends.unset,WM,YJ,Hv,ZF,R8,W8,R_,Ot,R5,T3,Yw,tSM,Mw,Ht,BJ,Q5,Wo,Ob,FZ,X8,yL,HJ,Nv,Uo,rJoin,Vx,Tf,tB,JF,Xh,T_,yQ,Od,M7,Xw,YW,Tr,Oz,G7,Ra,K8,Tw,zX,Yv,Wy,zp,V.str.injEq,L2.start,List.replicate_succ,List.replicate_zero,Nat.reduceSub,Nat.reduceAdd,List.map_cons,List.map_nil,List.length_cons,List.length_nil,List.cons_append,List.nil_append,List.append_nil,List.getElem?_cons_zero,List.getElem?_cons_succ,List.set_cons_zero,List.set_cons_succ,List.set_nil,Option.some.injEq,exists_eq_left',exists_eq_left,exists_and_left,exists_and_right,exists_eq_right,exists_eq,exists_eq',and_assoc,V.int.injEq,V.ref.injEq,V.bl.injEq,V.ty.injEq,List.cons.injEq,HO.tup.injEq,HO.lst.injEq,and_true,true_and,reduceCtorEq,fD,dX,bI,decide_true,decide_false,Bool.not_true,Bool.not_false,if_true,if_false,ite_true,ite_false,XW,YU,String.reduceEq,or_true,true_or,or_false,false_or,beq_self_eq_true,Bool.or_true,Bool.true_or,Bool.or_false,Bool.false_or,Bool.and_true,Bool.and_false,Bool.true_and,Bool.false_and,String.reduceBEq,Int.reduceToNat,Int.reducePow,Int.reduceMul,Int.reduceSub,Int.reduceAdd,Int.reduceNeg,Int.reduceLE,Int.reduceLT,Int.reduceEq,ne_eq,not_false_eq_true,not_true_eq_false,Int.cast_ofNat_Int,ht];rw[beq_eq_false_iff_ne.mpr hne];exact q _ (Same.refl _)
structure Fk(K:Frag)(H:Hp)(p:Addr)(x y:Int):Prop where
 at_:SqT K H p [.int x,.int y]
 pos:0<y
 gcd:Int.gcd x y=1
noncomputable def gB:Sp:=λvs H Q _=>∃p x y,vs=[.ref p]/\Fk K H p x y/\Q (.bl true) H
theorem Kh(F:Fun K iQ iQ uR f fd)(T:Txt K mg D)(cL:OkF P w K mg base 1 fG fB eO)(fW:OkF P w K mg base 1 jB jF iH):cD P w K mg base CX0 2 f fd iM (gB (K:=K)):=by
 refine F.ok rR ?_ ?_
 .rintro _ _ _ _ ⟨p,x,y,rfl,_⟩;rfl
 .rintro cdv A outer s H _ Q E hr ⟨p,x,y,rfl,hf,q⟩;have hp:=hf.at_;refine⟨_,(bH (dB (PW.pt (pw_or (cT (cQ (bW (gk.or J_) (by rfl) T.cB boot_isinstance (bD (pv 0) (bD (iz (v:=.ty "tuple") (by rfl) T.vg boot_tuple rfl) bF))) (λ_=>rfl))) (pw_or1 (cU El (bW Qi (by rfl) T.iT PySem.boot_len (bD (pv 0) bF)) bG (cH _)))))
    (bM (b_ mF))
    cG)
   (bH (bU (i:=1) rR.nd rfl (Or.inl rfl) (bT gA (pv 0) bG (λ_ _=>rfl)))
   (bH (bU (i:=2) rR.nd rfl (Or.inl rfl) (bT gA (pv 0) bG (λ_ _=>rfl)))
   (bH (dB (PW.pt (pw_or (cT (cQ (bO cL hr.md (by rfl) (bD (pv 1) bF)) (λ_=>rfl))) (pw_or1 (cT (cQ (bO cL hr.md (by rfl) (bD (pv 2) bF)) (λ_=>rfl))))))
    (bM (b_ mF))
    cG)
   (bM (b_ (nQ (h_ Yb (pv 2) bG (cH _)) (sW (h_ qF (bO fW hr.md (by rfl) (bD (pv 1) (bD (pv 2) bF))) bG (cH _)))))))))),?_⟩
  unfold eO iH
  walk_at "rd"
  refine .inr ⟨⟨_,hp⟩,_,hp,?_⟩;rw[ZZ (by simp)];refine⟨_,hp,_,fD,_,hp,_,dX,_,wD,?_⟩;rw[ZZ (by decide)];refine⟨_,wD,?_⟩;rw[ZZ (by decide)];have hy:=hf.pos;refine⟨y,rfl,?_⟩;rw[ZY (Zs (by lia))];refine⟨x,rfl,y,rfl,?_⟩;rw[hf.gcd];exact q
noncomputable def oU:Sp:=λvs H Q _=>∃(n:Str)(p:Addr)(x y:Int),vs=[.str n,.ref p]/\n.length<=1000/\kE n.cps.toList=true/\Fk K H p x y/\Q .non H
theorem CG(F:Fun K jZ jZ pU f fd)(T:Txt K mg D)(gQ:OkF P w K mg base 1 jD jA uK)(fU:OkF P w K mg base 2 iQ iM (gB (K:=K))):cD P w K mg base (CXO P w) 3 f fd jW (oU (K:=K)):=by
 refine F.okX Cm ?_ ?_
 .rintro _ _ _ _ ⟨n,p,x,y,rfl,_⟩;rfl
 .rintro cdv A outer s H _ Q E hr ⟨n,p,x,y,rfl,hn,hw,hf,q⟩;refine⟨_,(bH (dB (cT (cQ (bO gQ hr.md (by rfl) (bD (pv 0) bF)) (λ_=>rfl)))
    (bM (rE rfl (by rfl) T.Br T.JQ sS (bD jL bF)))
    cG)
   (bM (dB (cT (cQ (bO fU hr.md (by rfl) (bD (pv 1) bF)) (λ_=>rfl)))
    (bM (rE rfl (by rfl) T.B_ T.Mi sS (bD jL bF)))
    cG))),?_⟩
  unfold uK gB
  walk_at "rd"
  rw[hw];exact .inl ⟨hn,⟨x,y,hf⟩,q⟩
noncomputable def qm(D:Adr):Sp:=λvs H Q _=>∃(s dx C:Addr)(n:Str)(p:Addr)(x y:Int),vs=[.ref s,.str n,.ref p]/\H s=some (.ins C dx [])/\Fam D C/\n.length<=1000/\kE n.cps.toList=true/\Fk K H p x y /\
 ∀l,upd H s (.ins C dx [("name",.str n),("pay",.ref p)]) l=none->Q .non (upd (upd H l (.lst [])) s (.ins C dx [("name",.str n),("pay",.ref p),("leads",.ref l)]))
theorem E_(F:Fun K u_ vO sU f fd)(T:Txt K mg D)(n8:OkX P w K mg base 3 jZ jW (oU (K:=K))):cD P w K mg base (CXO P w) 4 f fd lA (qm (K:=K) D):=by
 refine F.okX GQ ?_ ?_
 .rintro _ _ _ _ ⟨s,dx,C,n,p,x,y,rfl,_⟩;rfl
 .rintro cdv A outer s H _ Q E hr ⟨o,dx,C,n,p,x,y,rfl,ho,hC,hn,hw,hf,q⟩;refine⟨_,(bH (dh (iY n8 hr.md (by rfl) j6 (bD (pv 1) (bD (pv 2) bF))))
   (bH (uW (pv 0) (pv 1) rfl)
   (bH (uW (pv 0) (pv 2) rfl)
   (bM (uW (pv 0) (pR bF) rfl))))),?_⟩
  unfold oU
  walk_at "rd"
  have cl:=T.cl C hC;refine⟨hn,hw,⟨x,y,hf⟩,C,dx,[],ho,cl,T.yV C hC,(by decide),C,dx,_,rfl,cl,T.TJ C hC,(by show 1<1000;decide),bh _,λl hl=>?_⟩;rw[tQ]at hl ⊢;have ne:o≠l:=bK bI hl;refine⟨C,dx,_,(bL ne).trans bI,cl,T.Af C hC,(by show 2<1000;decide),?_⟩;have e:upd (upd (upd H o (.ins C dx (jq "pay" (.ref p) (jq "name" (.str n) [])))) l (.lst [])) o (.ins C dx (jq "leads" (.ref l) (jq "pay" (.ref p) (jq "name" (.str n) []))))=upd (upd H l (.lst [])) o (.ins C dx [("name",.str n),("pay",.ref p),("leads",.ref l)]):=by
   funext b
   by_cases h1:b=o
   .subst h1;rw[bI,bI];rfl
   .rw[bL h1,bL h1];by_cases h2:b=l
    .subst h2;rw[bI,bI]
    .rw[bL h2,bL h2,bL h1]
  rw[e];exact q l hl
noncomputable def pK:Sp:=λvs H Q _=>∃n:Str,vs=[.str n]/\n.length<=1000/\kE n.cps.toList=true/\Q .non H
theorem uy(F:Fun K fK fK iV f fd)(T:Txt K mg D)(gQ:OkF P w K mg base 1 jD jA uK):cD P w K mg base (CXO P w) 2 f fd fM pK:=by
 refine F.okX uz ?_ ?_
 .rintro _ _ _ _ ⟨n,rfl,_⟩;rfl
 .rintro cdv A outer s H _ Q E hr ⟨n,rfl,hn,hw,q⟩;refine⟨_,(bM (dB (cT (cQ (bO gQ hr.md (by rfl) (bD (pv 0) bF)) (λ_=>rfl)))
    (bM (rE rfl (by rfl) T.Br T.JQ sS (bD jL bF)))
    cG)),?_⟩
  unfold uK
  walk_at "rd"
  rw[hw];exact .inl ⟨hn,q⟩
structure Ck(K:Frag)(H:Hp)(p:Addr)(x y:Int):Prop where
 fk:Fk K H p x y
 lo:0<=x
 hi:x<=y
 by_:Bd y
noncomputable def xO:Sp:=λvs H Q _=>∃p x y,vs=[.ref p]/\Ck K H p x y/\Q .non H
theorem yC(F:Fun K iB iB mL f fd)(T:Txt K mg D)(fU:OkF P w K mg base 2 iQ iM (gB (K:=K)))(jc:OkF P w K mg base 1 pI pB (o_ (K:=K))):cD P w K mg base (CXO P w) 3 f fd ig (xO (K:=K)):=by
 refine F.okX yG ?_ ?_
 .rintro _ _ _ _ ⟨p,x,y,rfl,_⟩;rfl
 .rintro cdv A outer s H _ Q E hr ⟨p,x,y,rfl,hc,q⟩;refine⟨_,(bM (dB (PW.pt (pw_or (cT (cQ (bO fU hr.md (by rfl) (bD (pv 0) bF)) (λ_=>rfl))) (pw_or (cQ (bO jc hr.md (by rfl) (bD (pv 0) (bD (kO (by rfl) T.rY) bF))) (λ_=>rfl)) (pw_or1 (cQ (bO jc hr.md (by rfl) (bD (kO (by rfl) T.R6) (bD (pv 0) bF))) (λ_=>rfl))))))
    (bM (rE rfl (by rfl) T.uM T.zH sS (bD jL bF)))
    cG)),?_⟩
  unfold gB o_
  walk_at "rd"
  have hy:=hc.fk.pos;have lo:=hc.lo;have hi:=hc.hi;have by_:=hc.by_;have bx:Bd x:=Y3 (by lia:x.natAbs<=y.natAbs) by_;have b0:Bd 0:=Nat.two_pow_pos 8000;have b1:Bd 1:=Nat.one_lt_two_pow (by decide);refine⟨⟨x,y,hc.fk⟩,x,y,hc.fk.at_,0,1,T.o9 H,bx,by_,b0,b1,?_⟩;rw[ZZ (by simp;omega)];refine⟨1,1,T.Le H,x,y,hc.fk.at_,b1,b1,bx,by_,?_⟩;rw[ZZ (by simp;omega)];exact q
theorem Bd.sm{i:Int}(h:i.natAbs<18446744073709551616):Bd i:=aR h (aL (by decide:18446744073709551616<=2^64) (XU (by decide) (by decide)))
noncomputable def Zv(H:Hp)(D:Adr)(s:Addr)(n:Str)(p l:Addr):Prop:=∃C dx,Fam D C/\H s=some (.ins C dx [("name",.str n),("pay",.ref p),("leads",.ref l)])
noncomputable def qe(D:Adr):Sp:=λvs H Q _=>∃(s:Addr)(n:Str)(p l:Addr)(xs:Κ),vs=[.ref s]/\Zv H D s n p l/\H l=some (.lst xs)/\xs.length<=100/\∀r,H r=none->Q (.ref r) (upd H r (.lst xs))
theorem FQ(F:Fun K vU vZ rM f fd)(T:Txt K mg D):cD P w K mg base CX0 1 f fd lO (qe D):=by
 refine F.ok HN ?_ ?_
 .rintro _ _ _ _ ⟨s,n,p,l,xs,rfl,_⟩;rfl
 .rintro cdv A outer s H _ Q E hr ⟨o,n,p,l,xs,rfl,⟨C,dx,hC,ho⟩,hl,hz,q⟩;refine⟨_,(bM (b_ (fV uX (by rfl) T.oH boot_list (bD (pX (pv 0) rfl) bF)))),?_⟩
  walk_at "rd"
  exact⟨C,dx,_,ho,T.cl C hC,T.Af C hC,_,rfl,l,rfl,xs,hl,q⟩
structure Qk(H:Hp)(xs:Κ)(ws:List (Str×Addr)):Prop where
 len:xs.length=ws.length
 at_:∀(k:Nat)(g:Str×Addr),ws[k]?=some g->∃t,xs[k]?=some (.ref t)/\H t=some (.tup [.str g.1,.ref g.2])
theorem Qk.same{H H':Hp}{xs:Κ}{ws:List (Str×Addr)}(h:Qk H xs ws)(S:Same H H'):Qk H' xs ws:=⟨h.len,λk g e=>let⟨t,a,b⟩:=h.at_ k g e;⟨t,a,S _ _ b⟩⟩
noncomputable def cell(ns:List Int)(k:Int):Int:=ns.getD k.toNat 0
noncomputable def zu(K:Frag)(a:Addr)(ns:List Int):Sp:=λvs H Q _=>∃(k:Int),vs=[.ref a,.int k]/\SqL K H a (ns.map V.int)/\ns.length<=63/\0<=k/\Q (.int (cell ns k)) H
theorem W5(F:Fun K tu tu Lx f fd)(a:Addr)(ns:List Int):cD P w K mg base CX0 1 f fd tD (zu K a ns):=by
 refine cD.clean (sp:=λvs H Q _=>∃(k:Int),vs=[.ref a,.int k]/\SqL K H a (ns.map V.int)/\ns.length<=63/\0<=k/\∀H',Same H H'->Q (.int (cell ns k)) H')
  (F.ok VH (λvs H Q E h=>?_) (λcdv A outer s H vs Q E hr h=>?_)) λvs H Q E hP=>by obtain⟨k,h1,h2,h3,h4,h5⟩:=hP;exact⟨k,h1,h2,h3,h4,λH' S=>⟨S,h5⟩⟩
 .obtain⟨k,rfl,_⟩:=h
  rfl
 .obtain⟨k,rfl,hs,hl,hk,q⟩:=h;refine⟨_,(bM (b_ (bT bZ (bR RG (rH Hi (pv 0) (qg (pv 1)) (qg (bR cX (pv 1) bG))) (pR (bD bG bF))) bG (λ_ _=>rfl)))),?_⟩
  walk_at "rd"
  refine⟨_,hs,λp hp=>⟨Kf,λp1 hp1=>?_⟩⟩;have n1:p≠p1:=bK bI hp1;refine⟨_,(bL n1).trans bI,?_,λp2 hp2=>⟨_,?_,q _ ?_⟩⟩
  .refine Zx ?_;have:=yh (ns.map V.int) (some k) (some (k+1));rw[ak]at this;lia
  .have:=WK ns k.toNat;rw[Int.toNat_of_nonneg hk]at this;exact this
  .exact((Same.upd hp).trans (Same.upd hp1)).trans (Same.upd hp2)
structure Fq(f:Η):Prop where
 pos:0<f.2
 gcd:Int.gcd f.1 f.2=1
 sa:f.1.natAbs<=10^40
 sb:f.2.natAbs<=10^40
theorem Fq.ba{f:Η}(h:Fq f):Bd f.1:=Y3 h.sa (by decide +kernel)
theorem Fq.bb{f:Η}(h:Fq f):Bd f.2:=Y3 h.sb (by decide +kernel)
noncomputable def O8(fs:Φ):List Nat:=fs.map λf=>f.2.natAbs
noncomputable def lvB(fs:Φ):Nat:=Lv.Pn (O8 fs)
noncomputable def lvT(fs:Φ):List Int:=fs.map λf=>f.1*((lvB fs:Nat)/f.2)
theorem wJ{B:Nat} : ∀(bs:List Nat)(a:Nat),0<a->(∀b∈bs,0<b/\b<=B)->bs.foldl Nat.lcm a<=a*B^bs.length
  |[],a,_,_=>by simp
  |b::bs,a,ha,hb=>by
    have h1:=hb b aN;have h2:=wJ bs (Nat.lcm a b) (Nat.lcm_pos ha h1.1) λc hc=>hb c (aH _ hc);rw[List.foldl_cons,List.length_cons,Nat.pow_succ];refine aL h2 ?_;have h3:Nat.lcm a b<=a*B:=aL (Nat.le_of_dvd (Nat.mul_pos ha h1.1) (Nat.lcm_dvd_mul a b)) (Nat.mul_le_mul_left a h1.2)
    calc Nat.lcm a b*B^bs.length<=a*B*B^bs.length:=Nat.mul_le_mul_right _ h3
      _=a*(B^bs.length*B):=by rw[Nat.mul_assoc,Nat.mul_comm B]
theorem VB{fs:Φ}(h:∀f∈fs,Fq f):∀b∈O8 fs,0<b:=λb hb=>by
 obtain⟨f,hf,rfl⟩:=YV.mp hb;have:=(h f hf).pos;omega
theorem zc{fs:Φ}(h:∀f∈fs,Fq f):0<lvB fs:=Lv.RK (VB h)
theorem Gy{fs:Φ}(h:∀f∈fs,Fq f)(hz:fs.length<=41):lvB fs<=(10^40)^41:=by
 have h1:=wJ (B:=10^40) (O8 fs) 1 (by decide) λb hb=>by
  obtain⟨f,hf,rfl⟩:=YV.mp hb;have:=(h f hf).pos;exact⟨by omega,(h f hf).sb⟩
 rw[Nat.one_mul]at h1;refine aL h1 (XU (by decide) ?_);unfold O8;rw[ak];exact hz
theorem Bk{fs:Φ}(h:∀f∈fs,Fq f)(hz:fs.length<=41):Bd (lvB fs:Nat):=by
 unfold Bd;rw[XT];exact Y3 (Gy h hz) (by decide +kernel)
theorem JZ{fs:Φ}(h:∀f∈fs,Fq f)(k:Nat):∀f∈fs.take k,Fq f:=λf hf=>h f (List.mem_of_mem_take hf)
theorem cI{α:Type}{l:List α}{k:Nat}{x:α}(h:l[k]?=some x):l.take (k+1)=l.take k++[x]:=by
 rw[List.take_succ,h];rfl
theorem UJ{fs:Φ}{k:Nat}{f:Η}(h:fs[k]?=some f):lvB (fs.take (k+1))=Nat.lcm (lvB (fs.take k)) f.2.natAbs:=by
 unfold lvB Lv.Pn O8;rw[cI h,bA,List.foldl_append];rfl
theorem Xv{n:Nat}{b:Int}(hb:0<b)(hn:0<n):Int.fdiv (n:Int) (Int.gcd (n:Int) b:Nat)*b=(Nat.lcm n b.natAbs:Nat):=by
 obtain⟨m,rfl⟩ : ∃m:Nat,b=m:=⟨b.toNat,by lia⟩;have hg:0<Nat.gcd n m:=Nat.gcd_pos_of_pos_left m hn;rw[show Int.gcd (n:Int) (m:Int)=Nat.gcd n m from rfl,XT,mZ _ (by lia),<- Int.natCast_ediv,<- Int.natCast_mul]
 congr 1
 unfold Nat.lcm;exact Nat.div_mul_right_comm (Nat.gcd_dvd_left n m) m
theorem MK{fs:Φ}{f:Η}(hf:f∈fs)(hq:Fq f):f.2 ∣ (lvB fs:Nat):=by
 have h1:f.2.natAbs ∣ lvB fs:=Lv.Q8 (YV.mpr ⟨f,hf,rfl⟩);have:=Int.natCast_dvd_natCast.mpr h1;rwa[Int.natAbs_of_nonneg (XY hq.pos)]at this
theorem Yr{fs:Φ}{f:Η}(h:∀f∈fs,Fq f)(hz:fs.length<=41)(hf:f∈fs):(f.1*((lvB fs:Nat)/f.2)).natAbs<=10^40*(10^40)^41:=by
 rw[Int.natAbs_mul];refine Nat.mul_le_mul (h f hf).sa ?_;refine aL (Int.natAbs_ediv_le_natAbs _ _) ?_;rw[XT];exact Gy h hz
inductive FLK(K:Frag)(H:Hp):Κ->Φ->Prop
 |nil:FLK K H [] []
 |cons {p:Addr}{f:Η}{xs:Κ}{fs:Φ} : SqT K H p [.int f.1,.int f.2]->FLK K H xs fs->FLK K H (.ref p::xs) (f::fs)
theorem Ry{H:Hp} : ∀{xs:Κ}{fs:Φ},FL H xs fs->FLK K H xs fs
 |_,_,.nil=>.nil
 |_,_,.cons e t=>.cons (.of e) (Ry t)
theorem FLK.imp{H H':Hp}(h:∀p a b,SqT K H p [.int a,.int b]->SqT K H' p [.int a,.int b]):∀{xs:Κ}{fs:Φ},FLK K H xs fs->FLK K H' xs fs
 |_,_,.nil=>.nil
 |_,_,.cons e t=>.cons (h _ _ _ e) (FLK.imp h t)
theorem FLK.same{H H':Hp}(S:Same H H'){xs:Κ}{fs:Φ}(h:FLK K H xs fs):FLK K H' xs fs:=h.imp λ_ _ _ e=>S.tup e
theorem FLK.length{H:Hp} : ∀{xs:Κ}{fs:Φ},FLK K H xs fs->xs.length=fs.length
 |_,_,.nil=>rfl
 |_,_,.cons _ t=>by rw[List.length_cons,List.length_cons,FLK.length t]
theorem FLK.get{H:Hp} : ∀{xs:Κ}{fs:Φ}{k:Nat}{x:V},FLK K H xs fs->xs[k]?=some x->∃p f,x=.ref p/\fs[k]?=some f/\SqT K H p [.int f.1,.int f.2]
 |_,_,_,_,.nil,h=>by simp at h
 |_,_,0,_,.cons (p:=p) (f:=f) e t,h=>by
  simp at h;exact⟨p,f,h.symm,rfl,e⟩
 |_,_,k+1,_,.cons e t,h=>by
  obtain⟨p,f,h1,h2,h3⟩:=FLK.get (k:=k) t (by simpa using h);exact⟨p,f,h1,by simpa using h2,h3⟩
theorem FLK.of{H:Hp} : ∀{xs:Κ}{fs:Φ},xs.length=fs.length->(∀(j:Nat)f,fs[j]?=some f->∃p,xs[j]?=some (V.ref p)/\SqT K H p [.int f.1,.int f.2])->FLK K H xs fs
 |[],[],_,_=>.nil
 |x::xs,f::fs,h,k=>by
  obtain⟨p,e,s⟩:=k 0 f rfl;simp at e;rw[e];exact .cons s (FLK.of (by simpa using h) λj g hg=>by
   obtain⟨p,e,s⟩:=k (j+1) g (by simpa using hg);exact⟨p,by simpa using e,s⟩)
noncomputable def wY(K:Frag):Sp:=λvs H Q _=>∃(l:Addr)(xs:Κ)(fs:Φ),vs=[.ref l]/\H l=some (.lst xs)/\FLK K H xs fs/\(∀f∈fs,Fq f)/\fs.length<=41 /\
 ∀D p,H D=none->upd H D (.lst ((lvT fs).map V.int)) p=none->Q (.ref p) (upd (upd H D (.lst ((lvT fs).map V.int))) p (.tup [.ref D,.int (lvB fs:Nat)]))
noncomputable def lJ(l:Addr)(fs:Φ)(H1:Hp)(k:Nat)(σ:L2.St)(H:Hp):Prop:=∃z,σ=[some (.ref l),some (.int (lvB (fs.take k):Nat)),z]/\H=H1
noncomputable def lK(fs:Φ)(D:Addr)(H1:Hp)(k:Nat)(ys:Κ)(H:Hp):Prop:=ys=((lvT fs).take k).map V.int/\H=upd H1 D (.lst ys)
theorem Ej(F:Fun K pG pG zB f fd)(fW:OkF P w K mg base 1 jB jF iH):cD P w K mg base CX0 2 f fd pA (wY K):=by
 refine F.ok v9 ?_ ?_
 .rintro _ _ _ _ ⟨l,xs,fs,rfl,_⟩;rfl
 .rintro cdv A outer s H _ Q E hr ⟨l,xs,fs,rfl,hl,hf,hq,hz,q⟩;refine⟨_,(bH (bU (i:=1) v9.nd rfl (Or.inr rfl) bG)
   (bH (fQ PassesOwn.never rfl (dD ((pv 0)).mono) (cF (i:=2) v9.nd rfl (Or.inl rfl))
    (bM (bU (i:=1) v9.nd rfl (Or.inr rfl) (bR cJ (bR dY (pv 1) (bO fW hr.md (by rfl) (bD (pv 1) (bD (bT (show IxR _ (JF K)from gA) (pv 2) bG (λ_ _=>rfl)) bF)))) (bT (show IxR _ (JF K)from gA) (pv 2) bG (λ_ _=>rfl))))))
   (bM (b_ (oh (bD (pF (bN zB) Ol ["fractions", "bottom", "?one"] ["one"] (dD ((pv 0)).mono) (fZ (i:=0)) fL (bR cJ (bT (show IxR _ (JF K)from gA) (pv 0) bG (λ_ _=>rfl)) (bR dY (pv 2) (bT (show IxR _ (JF K)from gA) (pv 0) bG (λ_ _=>rfl))))) (bD (pv 1) bF))))))),?_⟩
  unfold iH
  walk_at "rd"
  have hx:xs.length<=41:=by rw[hf.length];exact hz
  refine d_ ⟨_,rfl,l,xs,rfl,hl,lJ l fs H,⟨none,rfl,rfl⟩,?_,?_⟩
  .rintro k x σ' H' hk ⟨z,rfl,rfl⟩ _;obtain⟨p,g,rfl,hg,hp⟩:=hf.get hk;have hm:=aB hg;have b0:=zc (JZ hq k);have b1:=Bk (JZ hq k) (by rw[aZ];lia);have g0:=Gm (a:=((lvB (fs.take k):Nat):Int)) (b:=g.2) (Int.ne_of_gt (hq g hm).pos);have g1:=K6 (a:=((lvB (fs.take k):Nat):Int)) (b:=g.2) (Int.ne_of_gt (hq g hm).pos) (hq g hm).bb
   walk_at "rd"
   refine⟨_,hp,_,dX,_,rfl,by exact Int.ne_of_gt g0,g1,_,hp,_,dX,_,rfl,?_,(hq g hm).bb,hl,some (.ref p),?_,rfl⟩
   .rw[mZ _ g0];exact b1.div g0
   .rw[Xv (hq g hm).pos b0,<- UJ hg]
  .rintro σ' H' ⟨z,rfl,rfl⟩ _
   walk_at "rd"
   have e0:fs.take xs.length=fs:=by rw[hf.length];exact aO
   rw[e0];refine jw ⟨_,rfl,l,xs,rfl,hl,aL hx (by decide),λD hD=>⟨lK fs D H',⟨rfl,rfl⟩,?_,?_⟩⟩
   .rintro k x ys Hc hk ⟨rfl,rfl⟩ _ ha;obtain⟨p,g,rfl,hg,hp⟩:=hf.get hk;have hm:=aB hg;have hpD:SqT K (upd H' D (.lst (((lvT fs).take k).map V.int))) p [.int g.1,.int g.2]:=(Same.upd hD).tup hp
    walk_at "rd"
    refine⟨_,hpD,_,fD,_,hpD,_,dX,_,rfl,Int.ne_of_gt (hq g hm).pos,(hq g hm).bb,_,rfl,(hq g hm).ba,?_,ha,?_,tQ⟩
    .rw[mZ _ (hq g hm).pos];exact(Bk hq hz).div (hq g hm).pos
    .rw[mZ _ (hq g hm).pos];have e1:(lvT fs)[k]?=some (g.1*((lvB fs:Nat)/g.2)):=by
      unfold lvT;rw[aq,hg];rfl
     rw[cI e1,bA];rfl
   .rintro ys Hc ⟨rfl,rfl⟩ _;have e2:(lvT fs).take xs.length=lvT fs:=by
     refine aK ?_;unfold lvT;rw[ak,hf.length];exact aF _
    rw[e2];exact⟨fH,λp hp=>q D p hD hp⟩
noncomputable def vM:Sp:=λvs H Q _=>∃(l:Addr)(xs:Κ)(fs:Φ),vs=[.ref l]/\H l=some (.lst xs)/\FL H xs fs/\(∀f∈fs,Fq f)/\fs.length<=41 /\
 ∀D p,H D=none->upd H D (.lst ((lvT fs).map V.int)) p=none->Q (.ref p) (upd (upd H D (.lst ((lvT fs).map V.int))) p (.tup [.ref D,.int (lvB fs:Nat)]))
theorem RN{vs:Κ}{H:Hp}{Q:VK}{E:XK}(h:vM vs H Q E):wY K vs H Q E:=by obtain⟨l,xs,fs,a,b,c,d⟩:=h;exact⟨l,xs,fs,a,b,Ry c,d⟩
noncomputable def zJ:Sp:=λvs H Q _=>∃(l:Addr)(xs:Κ)(fs:Φ),vs=[.ref l]/\H l=some (.lst xs)/\FL H xs fs/\(∀f∈fs,Fq f)/\fs.length<=41 /\
 ∀p x y,Low (lvT fs).sum (lvB fs:Nat) x y->H p=none->Q (.ref p) (upd H p (.tup [.int x,.int y]))
theorem Q6(F:Fun K vV vV HB f fd)(T:Txt K mg D)(wu:OkF P w K mg base 2 pG pA vM)(lE:OkF P w K mg base 2 oV oZ o7):cD P w K mg base CX0 3 f fd vJ zJ:=by
 refine cD.cleanP (sp:=λvs H Q _=>∃(l:Addr)(xs:Κ)(fs:Φ),vs=[.ref l]/\H l=some (.lst xs)/\FL H xs fs/\(∀f∈fs,Fq f)/\fs.length<=41 /\
   ∀p x y H',Low (lvT fs).sum (lvB fs:Nat) x y->Same H H'->H p=none->H' p=some (.tup [.int x,.int y])->Q (.ref p) H')
  (F.ok Iu (λvs H Q E h=>?_) (λcdv A outer s H vs Q E hr h=>?_)) λvs H Q E hP=>by obtain⟨l,xs,fs,h1,h2,h3,h4,h5,h6⟩:=hP;exact⟨l,xs,fs,h1,h2,h3,h4,h5,λp x y H' l S e1 e2=>⟨S,p,_,e2,e1,h6 p x y l e1⟩⟩
 .obtain⟨l,xs,fs,rfl,_⟩:=h
  rfl
 .obtain⟨l,xs,fs,rfl,hl,hf,hq,hz,q⟩:=h;refine⟨_,(bH (bU (i:=1) Iu.nd rfl (Or.inl rfl) (bO wu hr.md (by rfl) (bD (pv 0) bF)))
   (bM (b_ (bO lE hr.md (by rfl) (bD (bW (Di rfl) (by rfl) T.Yj boot_sum (bD (bT cA (pv 1) bG (λ_ _=>rfl)) bF)) (bD (bT cA (pv 1) bG (λ_ _=>rfl)) bF)))))),?_⟩
  unfold vM o7
  walk_at "rd"
  refine⟨xs,hl,fs,hf,hq,hz,λD p hD hp=>⟨lvT fs,(bL (bK bI hp)).trans bI,?_,Bk hq hz,λp1 x y lw hp1=>?_⟩⟩
  .have:=zc hq;lia
  .have S:=(Same.upd hD (o:=.lst ((lvT fs).map V.int))).trans (Same.upd hp (o:=.tup [.ref D,.int (lvB fs:Nat)]));exact q p1 x y _ lw (S.trans (Same.upd hp1)) (S.free hp1) bI
structure Pairs(H:Hp)(xs:Κ)(ps:List (Str×Int×Int)):Prop where
 len:xs.length=ps.length
 at_:∀(k:Nat)(g:Str×Int×Int),ps[k]?=some g->∃t c:Addr,xs[k]?=some (.ref t)/\H t=some (.tup [.str g.1,.ref c])/\H c=some (.tup [.int g.2.1,.int g.2.2])
structure RW(g:Str×Int×Int):Prop where
 len:g.1.length<=1000
 wd:kE g.1.cps.toList=true
 pos:0<g.2.2
 gcd:Int.gcd g.2.1 g.2.2=1
 lo:0<=g.2.1
 hi:g.2.1<=g.2.2
 fq:Fq g.2
noncomputable def mq:Sp:=λvs H Q _=>∃(l:Addr)(xs:Κ)(ps:List (Str×Int×Int)),vs=[.ref l]/\H l=some (.lst xs)/\Pairs H xs ps/\(∀g∈ps,RW g)/\ps.length<=41/\(∀x y,Low (lvT (ps.map (·.2))).sum (lvB (ps.map (·.2)):Nat) x y->x=1/\y=1)/\∀H',Same H H'->Q .non H'
noncomputable def jP(l:Addr)(H:Hp)(_:Nat)(σ:L2.St)(H':Hp):Prop:=∃u v,σ=[some (.ref l),u,v]/\H'=H
noncomputable def jQ(D1:Addr)(ps:List (Str×Int×Int))(H:Hp)(k:Nat)(ys:Κ)(Hc:Hp):Prop:=FL H ys ((ps.map (·.2)).take k)/\Hc=upd H D1 (.lst ys)
theorem Ai(F:Fun K jm jm jN f fd)(T:Txt K mg D)(uD:OkX P w K mg base 2 fK fM pK)(yx:OkX P w K mg base 3 iB ig (xO (K:=K)))(UL:OkX P w K mg base 3 vV vJ zJ):cD P w K mg base (CXO P w) 4 f fd i_ mq:=by
 refine F.okX mY ?_ ?_
 .rintro _ _ _ _ ⟨l,xs,ps,rfl,_⟩;rfl
 .rintro cdv A outer s H _ Q E hr ⟨l,xs,ps,rfl,hl,hp,hg,hz,h1,q⟩;refine⟨_,(bH (fQ PassesOwn.leaving rfl (dD ((pv 0)).mono) (fj (n:=2) rfl (cC (cF (i:=1) mY.nd rfl (Or.inl rfl)) (cC (cF (i:=2) mY.nd rfl (Or.inl rfl)) eN)))
    (bH (dh (iY uD hr.md (by rfl) j6 (bD (pv 1) bF)))
    (bM (dh (iY yx hr.md (by rfl) j6 (bD (pv 2) bF))))))
   (bM (dB (cU (NT (K:=K) rfl hr.units) (iY UL hr.md (by rfl) j6 (bD (pF (bN jN) nU nU ["pair"] (dD ((pv 0)).mono) (fZ (i:=0)) fL (bT cA (pv 0) bG (λ_ _=>rfl))) bF)) (kO (by rfl) T.R6) (cH _))
    (bM (rE rfl (by rfl) T.uM T.zH sS (bD jL bF)))
    cG))),?_⟩
  unfold pK xO zJ
  walk_at "rd"
  refine d_ ?_
  walk_at "rd"
  refine⟨xs,hl,jP l H,⟨none,none,rfl,rfl⟩,?_,?_⟩
  .rintro k x σ' H' hk ⟨u,v,rfl,rfl⟩ _;have lk:k<ps.length:=by rw[<- hp.len];exact(ao.mp hk).1
   have e:ps[k]?=some ps[k]:=aj lk;have ok:=hg _ (aU lk);obtain⟨t,c,a,b,d⟩:=hp.at_ k _ e;rw[hk]at a;cases a;exact⟨t,rfl,_,b,rfl,_,_,rfl,_,_,rfl,rfl,_,rfl,_,rfl,ok.len,ok.wd,_,rfl,c,rfl,⟨_,_,⟨.of d,ok.pos,ok.gcd⟩,ok.lo,ok.hi,ok.fq.bb⟩,hl,_,_,rfl,rfl⟩
  .rintro σ' H' ⟨u,v,rfl,rfl⟩ _;refine jw ?_
   walk_at "rd"
   refine⟨xs,hl,by rw[hp.len];exact aL hz (by decide),λD1 hD=>⟨jQ D1 ps H',⟨.nil,rfl⟩,?_,?_⟩⟩
   .rintro k x ys Hc hk ⟨hf,rfl⟩ hy _;have lk:k<ps.length:=by rw[<- hp.len];exact(ao.mp hk).1
    have e:ps[k]?=some ps[k]:=aj lk;obtain⟨t,c,a,b,d⟩:=hp.at_ k _ e;rw[hk]at a;cases a
    walk_at "rd"
    refine⟨_,(bL (bK b hD)).trans b,_,dX,(bL (bK hl hD)).trans hl,?_,tQ⟩;rw[List.take_succ,aq,e];exact hf.append (.one d)
   .rintro ys Hc ⟨hf,rfl⟩ hy;have hk:(ps.map (·.2)).take xs.length=ps.map (·.2):=by rw[hp.len,<- ak (f:=λg:Str×Int×Int=>g.2),aO]
    rw[hk]at hf;refine⟨ys,bI,_,hf.same (Same.upd hD),?_,by rw[ak];exact hz,λp x y lo hn=>?_⟩
    .intro g hm;obtain⟨g',hm',rfl⟩:=YV.mp hm;exact(hg g' hm').fq
    .obtain⟨rfl,rfl⟩:=h1 x y lo;refine⟨_,.tup (.of bI) (cN.ints K _ [1,1]),_,.tup (T.Le _) (cN.ints K _ [1,1]),rfl,rfl,?_⟩;rw[ZZ (by decide)];exact q _ ((Same.upd hD).trans (Same.upd hn))
inductive DA(H:Hp)(S:Int):List (Key×V)->List (Str×Int)->Prop
 |nil:DA H S [] []
 |cons {n:Str}{W:Int}{c:Addr}{kvs:List (Key×V)}{acc:List (Str×Int)} (h:H c=some (.tup [.int (Ac.lw W S).1,.int (Ac.lw W S).2])) (t:DA H S kvs acc):DA H S ((.inr n,.ref c)::kvs) ((n,W)::acc)
theorem DA.imp{H H':Hp}{S:Int}(h:∀c x y,H c=some (.tup [.int x,.int y])->H' c=some (.tup [.int x,.int y])):∀{kvs:List (Key×V)}{acc:List (Str×Int)},DA H S kvs acc->DA H' S kvs acc
 |_,_,.nil=>.nil
 |_,_,.cons a t=>.cons (h _ _ _ a) (t.imp h)
theorem DA.len{H:Hp}{S:Int} : ∀{kvs:List (Key×V)}{acc:List (Str×Int)},DA H S kvs acc->kvs.length=acc.length
 |_,_,.nil=>rfl
 |_,_,.cons _ t=>ZH (· + 1) t.len
theorem DA.keys{H:Hp}{S:Int} : ∀{kvs:List (Key×V)}{acc:List (Str×Int)},DA H S kvs acc->kvs.map (·.1)=(acc.map (·.1)).map Sum.inr
 |_,_,.nil=>rfl
 |_,_,.cons _ t=>by rw[List.map_cons,List.map_cons,List.map_cons,t.keys]
theorem DA.val{H:Hp}{S:Int}(r:Str):∀{kvs:List (Key×V)}{acc:List (Str×Int)},DA H S kvs acc->(kW kvs (.inr r)=none/\Ac.look acc r=0)\/∃c,kW kvs (.inr r)=some (.ref c)/\H c=some (.tup [.int (Ac.lw (Ac.look acc r) S).1,.int (Ac.lw (Ac.look acc r) S).2])
 |_,_,.nil=>.inl ⟨rfl,rfl⟩
 |_,_,.cons (n:=n) (W:=W) (c:=c) (kvs:=kvs) (acc:=acc) h t=>by
  by_cases e:n=r
  .subst e;refine .inr ⟨c,wM rfl,?_⟩;have:Ac.look ((n,W)::acc) n=W:=by simp[Ac.look]
   rw[this];exact h
  .have e1:kW ((Sum.inr n,V.ref c)::kvs) (Sum.inr r:Key)=kW kvs (.inr r):=wL λz=>e (Sum.inr.inj z);have e2:Ac.look ((n,W)::acc) r=Ac.look acc r:=by simp[Ac.look,List.find?_cons,e]
   rw[e1,e2];exact t.val r
theorem DA.any{H:Hp}{S:Int}(r:Str):∀{kvs:List (Key×V)}{acc:List (Str×Int)},DA H S kvs acc->(kvs.any λkv=>decide (kv.1=(.inr r:Key)))=acc.any λg=>decide (g.1=r)
 |_,_,.nil=>rfl
 |_,_,.cons (n:=n) _ t=>by
  rw[List.any_cons,List.any_cons,t.any r]
  congr 1
  by_cases e:n=r
  .subst e;rw[Zs rfl,Zs rfl]
  .rw[Zp e,Zp λz=>e (Sum.inr.inj z)]
theorem DA.sets{H:Hp}{S y:Int}{c:Addr}{r:Str}(hc:H c=some (.tup [.int (Ac.lw y S).1,.int (Ac.lw y S).2])):∀{kvs:List (Key×V)}{acc:List (Str×Int)},DA H S kvs acc->DA H S (kvs.map λkv=>if kv.1=(.inr r:Key)then(kv.1,.ref c)else kv) (acc.map λg=>if g.1=r then(g.1,y)else g)
 |_,_,.nil=>.nil
 |_,_,.cons (n:=n) (W:=W) (c:=c') h t=>by
  rw[List.map_cons,List.map_cons];by_cases e:n=r
  .subst e;rw[ZY rfl,ZY rfl];exact .cons hc (t.sets hc)
  .rw[ZZ e,ZZ λz=>e (Sum.inr.inj z)];exact .cons h (t.sets hc)
theorem DA.snoc{H:Hp}{S y:Int}{c:Addr}{r:Str}(hc:H c=some (.tup [.int (Ac.lw y S).1,.int (Ac.lw y S).2])):∀{kvs:List (Key×V)}{acc:List (Str×Int)},DA H S kvs acc->DA H S (kvs++[(.inr r,.ref c)]) (acc++[(r,y)])
 |_,_,.nil=>.cons hc .nil
 |_,_,.cons h t=>.cons h (t.snoc hc)
theorem DA.put{H:Hp}{S y:Int}{c:Addr}{r:Str}{kvs:List (Key×V)}{acc:List (Str×Int)}(hc:H c=some (.tup [.int (Ac.lw y S).1,.int (Ac.lw y S).2]))(h:DA H S kvs acc):DA H S (putK kvs (.inr r) (.ref c)) (Ac.put acc r y):=by
 unfold putK Ac.put;rw[h.any r];split
 .exact h.sets hc
 .exact h.snoc hc
theorem DA.get{H:Hp}{S:Int} : ∀{kvs:List (Key×V)}{acc:List (Str×Int)}{i:Nat}{k:Key}{v:V},DA H S kvs acc->kvs[i]?=some (k,v)->∃n W c,acc[i]?=some (n,W)/\k=.inr n/\v=.ref c/\H c=some (.tup [.int (Ac.lw W S).1,.int (Ac.lw W S).2])
 |_,_,_,_,_,.nil,e=>by simp at e
 |_,_,0,_,_,.cons h _,e=>by
  rw[List.getElem?_cons_zero]at e;cases e;exact⟨_,_,_,rfl,rfl,rfl,h⟩
 |_,_,i+1,_,_,.cons _ t,e=>t.get (by rw[List.getElem?_cons_succ]at e;exact e)
theorem OD:∀{kvs:List (Key×V)}{i:Nat}{k:Key}{v:V},(kvs.map (·.1)).Nodup->kvs[i]?=some (k,v)->kW kvs k=some v
 |[],_,_,_,_,e=>by simp at e
 |p::kvs,0,k,v,_,e=>by
  rw[List.getElem?_cons_zero]at e;cases e;exact wM rfl
 |p::kvs,i+1,k,v,hn,e=>by
  rw[List.getElem?_cons_succ]at e;rw[List.map_cons,List.nodup_cons]at hn;rw[wL λz=>hn.1 (by rw[z];exact YV.mpr ⟨(k,v),aB e,rfl⟩)];exact OD hn.2 e
inductive WF(K:Frag)(H:Hp):Κ->List (Str×Int×Int)->List (Str×Addr)->Prop
 |nil:WF K H [] [] []
 |cons {t c:Addr}{n:Str}{x y:Int}{xs:Κ}{gs:List (Str×Int×Int)}{ws:List (Str×Addr)} (h1:H t=some (.tup [.str n,.ref c])) (h2:SqT K H c [.int x,.int y]) (r:WF K H xs gs ws):WF K H (.ref t::xs) ((n,x,y)::gs) ((n,c)::ws)
theorem WF.imp{H H':Hp}(h:∀t ys,H t=some (.tup ys)->H' t=some (.tup ys))(h':∀c xs,SqT K H c xs->SqT K H' c xs):∀{xs:Κ}{gs:List (Str×Int×Int)}{ws:List (Str×Addr)},WF K H xs gs ws->WF K H' xs gs ws
 |_,_,_,.nil=>.nil
 |_,_,_,.cons a b r=>.cons (h _ _ a) (h' _ _ b) (r.imp h h')
theorem WF.same{H H':Hp}(S:Same H H'){xs:Κ}{gs:List (Str×Int×Int)}{ws:List (Str×Addr)}(h:WF K H xs gs ws):WF K H' xs gs ws:=h.imp (λt ys e=>S _ _ e) λc xs e=>S.tup e
theorem WF.updL{H:Hp}{l:Addr}{ys zs:Κ}(hl:H l=some (.lst ys)){xs:Κ}{gs:List (Str×Int×Int)}{ws:List (Str×Addr)}(h:WF K H xs gs ws):WF K (upd H l (.lst zs)) xs gs ws :=
 h.imp (λt us e=>(bL (d7 e hl (by intro z;cases z))).trans e) λc xs e=>e.updO hl (by intro ys z;cases z) (by intro ob ys z;cases z)
theorem WF.len{H:Hp} : ∀{xs:Κ}{gs:List (Str×Int×Int)}{ws:List (Str×Addr)},WF K H xs gs ws->xs.length=gs.length
 |_,_,_,.nil=>rfl
 |_,_,_,.cons _ _ r=>ZH (· + 1) r.len
theorem WF.snoc{H:Hp}{t c:Addr}{n:Str}{x y:Int}(h1:H t=some (.tup [.str n,.ref c]))(h2:SqT K H c [.int x,.int y]):∀{xs:Κ}{gs:List (Str×Int×Int)}{ws:List (Str×Addr)},WF K H xs gs ws->WF K H (xs++[.ref t]) (gs++[(n,x,y)]) (ws++[(n,c)])
 |_,_,_,.nil=>.cons h1 h2 .nil
 |_,_,_,.cons a b r=>.cons a b (r.snoc h1 h2)
theorem WF.ways{H:Hp} : ∀{xs:Κ}{gs:List (Str×Int×Int)}{ws:List (Str×Addr)},WF K H xs gs ws->Qk H xs ws
 |_,_,_,.nil=>⟨rfl,λk g e=>by simp at e⟩
 |_,_,_,.cons a b r=>⟨ZH (· + 1) r.ways.len,λk g e=>by
  cases k with
  |zero =>
   rw[List.getElem?_cons_zero]at e;cases e;exact⟨_,rfl,a⟩
  |succ k =>
   rw[List.getElem?_cons_succ]at e ⊢;exact r.ways.at_ k g e⟩
noncomputable def Oj(S:Int)(acc:List (Str×Int)):List (Str×Int×Int):=(acc.filter λg=>decide (0<g.2)).map λg=>(g.1,Ac.lw g.2 S)
theorem Bu{S:Int}{acc:List (Str×Int)}{i:Nat}{n:Str}{W:Int}(h:acc[i]?=some (n,W)):Oj S (acc.take (i+1))=Oj S (acc.take i)++if 0<W then[(n,Ac.lw W S)]else[]:=by
 unfold Oj;rw[List.take_succ,h,List.filter_append,bA]
 congr 1
 show List.map _ (List.filter _ [(n,W)])=_;by_cases e:0<W
 .rw[ZY e,List.filter_cons,ZY (Zs e)];rfl
 .rw[ZZ e,List.filter_cons,ZZ (by simpa using e)];rfl
structure PW(H:Hp)(xs:Κ)(gs:List (Str×Int))(S:Int):Prop where
 len:xs.length=gs.length
 at_:∀(k:Nat)(g:Str×Int),gs[k]?=some g->∃t c:Addr,xs[k]?=some (.ref t)/\H t=some (.tup [.str g.1,.ref c])/\H c=some (.tup [.int (Ac.lw g.2 S).1,.int (Ac.lw g.2 S).2])
theorem PW.imp{H H':Hp}(h':∀t ys,H t=some (.tup ys)->H' t=some (.tup ys)){xs:Κ}{gs:List (Str×Int)}{S:Int}(h:PW H xs gs S):PW H' xs gs S:=⟨h.len,λk g e=>let⟨t,c,a,b,d⟩:=h.at_ k g e;⟨t,c,a,h' _ _ b,h' _ _ d⟩⟩
theorem PW.same{H H':Hp}{xs:Κ}{gs:List (Str×Int)}{S:Int}(h:PW H xs gs S)(T:Same H H'):PW H' xs gs S:=h.imp λ_ _ e=>T _ _ e
theorem PW.pairs{H:Hp}{xs:Κ}{gs:List (Str×Int)}{S:Int}(h:PW H xs gs S):Pairs H xs (gs.map λg=>(g.1,Ac.lw g.2 S)):=⟨by rw[h.len,ak],λk g e=>by
 rw[aq]at e;cases e0:gs[k]? with
 |none=>rw[e0]at e;cases e
 |some g0 =>
  rw[e0]at e;cases e;exact h.at_ k g0 e0⟩
structure Wt(gs:List (Str×Int))(S:Int):Prop where
 pos:0<S
 le:S<=10^20
 len:gs.length<=8
 wd:∀g∈gs,g.1.length<=1000/\kE g.1.cps.toList=true
 lo:∀g∈gs,0<=g.2
 sum:(gs.map (·.2)).sum=S
theorem Xp{i:Int}(h:i.natAbs<=10^20):Bd i:=Y3 h (by decide +kernel)
theorem Nm{gs:List (Str×Int)} : (∀g∈gs,0<=g.2)->0<=(gs.map (·.2)).sum/\∀g∈gs,g.2<=(gs.map (·.2)).sum:=by
 induction gs with
 |nil=>intro _;exact⟨by simp,by simp⟩
 |cons a gs ih =>
  intro h;obtain⟨h1,h2⟩:=ih λg hg=>h g (aH _ hg);have h0:=h a aN;rw[List.map_cons,List.sum_cons];refine⟨by lia,λg hg=>?_⟩;rcases YU.mp hg with rfl|hg
  .lia
  .have:=h2 g hg;lia
theorem Wt.hi{gs:List (Str×Int)}{S:Int}(h:Wt gs S){g:Str×Int}(hg:g∈gs):g.2<=S:=by
 rw[<- h.sum];exact(Nm h.lo).2 g hg
theorem Wt.pair{gs:List (Str×Int)}{S:Int}(h:Wt gs S){g:Str×Int}(hg:g∈gs):RW (g.1,Ac.lw g.2 S):=by
 have p:=h.pos;have l:=h.le;have lo:=h.lo g hg;have hi:=h.hi hg;have p2:=Ac.fu (t:=g.2) p;have g1:=Ac.nW (t:=g.2) p;exact⟨(h.wd g hg).1,(h.wd g hg).2,p2,g1,Ac.aaE p lo,Ac.aay p hi,p2,g1,aL (Ac.ug _ _) (aL (by lia:g.2.natAbs<=10^20) (by decide)),aL (Ac.q_ _ _) (aL (by omega:S.natAbs<=10^20) (by decide))⟩
theorem XQ(a b c d:Int):PyData.eqv (.tuple (List.map PyData.int [a,b])) (.tuple (List.map PyData.int [c,d]))=(decide (a=c)&&decide (b=d)):=by
 simp[PyData.eqv,PyData.eqvAll]
 rfl
noncomputable def xT(K:Frag):Sp:=λvs H Q _=>∃(l:Addr)(xs:Κ)(gs:List (Str×Int))(S:Int),vs=[.ref l]/\H l=some (.lst xs)/\PW H xs gs S/\Wt gs S /\
 ∀H' r ys ws,Same H H'->H r=none->H' r=some (.lst ys)->WF K H' ys (Ac.ways gs S) ws->Q (.ref r) H'
noncomputable def jJ(l d:Addr)(gs:List (Str×Int))(S:Int)(H:Hp)(k:Nat)(σ:L2.St)(H':Hp):Prop:=∃u v kvs,σ=[some (.ref l),some (.ref d),u,v]/\Same H H'/\H' d=some (.dK kvs)/\DA H' S kvs (Ac.gR (gs.take k))
noncomputable def jC(K:Frag)(acc:List (Str×Int))(S:Int)(d D1:Addr)(u:HO)(H:Hp)(i:Nat)(ys:Κ)(Hc:Hp):Prop:=Same (upd H d u) Hc/\Hc D1=some (.lst ys)/\∃ws,WF K Hc ys (Oj S (acc.take i)) ws
theorem BR(F:Fun K jl jl j7 f fd)(T:Txt K mg D)(W3:OkX P w K mg base 3 wO wj (G6 (K:=K) (· + ·))):cD P w K mg base (CXO P w) 4 f fd jz (xT K):=by
 refine F.okX jd ?_ ?_
 .rintro _ _ _ _ ⟨l,xs,gs,S,rfl,_⟩;rfl
 .rintro cdv A outer s H _ Q E hr ⟨l,xs,gs,S,rfl,hl,hp,W,q⟩;have p0:=W.pos;have sle:=W.le;refine⟨_,(bH (bU (i:=1) jd.nd rfl (Or.inr rfl) vA)
   (bH (fQ PassesOwn.leaving rfl (dD ((pv 0)).mono) (fj (n:=2) rfl (cC (cF (i:=2) jd.nd rfl (Or.inl rfl)) (cC (cF (i:=3) jd.nd rfl (Or.inl rfl)) eN)))
    (bM (yS (qC hr) (pv 1) (pv 2) (iY W3 hr.md (by rfl) j6 (bD (Jw (qC hr) (pv 1) (pv 2) (kO (by rfl) T.rY) (by first|exact⟨rfl,rfl,rfl,rfl,rfl⟩|constructor<;>rfl)) (bD (pv 3) bF))) rfl)))
   (bM (b_ (pF (bN j7) uf ["pairs", "chances", "?room", "chance"] ["room"] (V1 ((pv 1)).mono) (fZ (i:=0)) (Om (cU (NT (K:=K) rfl hr.units) (Gd (qC hr) (pv 2) (pv 0) (λ_ _=>rfl)) (kO (by rfl) T.rY) (cH _))) (oh (bD (pv 0) (bD (Gd (qC hr) (pv 2) (pv 0) (λ_ _=>rfl)) bF)))))))),?_⟩
  unfold G6
  walk_at "rd"
  refine λd hd=>d_ ?_
  walk_at "rd"
  have ld:l≠d:=bK hl hd;refine⟨xs,(bL ld).trans hl,jJ l d gs S H,⟨none,none,[],rfl,Same.upd hd,bI,.nil⟩,?_,?_⟩
  .rintro k x σ' H' hk ⟨u,v,kvs,rfl,S1,h1,da⟩ _;have lk:k<gs.length:=by rw[<- hp.len];exact(ao.mp hk).1
   have e:gs[k]?=some gs[k]:=aj lk;have hm:=aU lk;obtain⟨t,c,a,b,cc⟩:=hp.at_ k _ e;rw[hk]at a;cases a;generalize gs[k]=g at *;obtain⟨n,x⟩:=g;have wx:=W.hi hm;have wl:=W.lo _ hm;have al:=Ac.Bh (gs.take k) λg hg=>W.lo g (List.mem_of_mem_take hg);have st:((gs.take k).map (·.2)).sum<=S:=by
    have e1:gs.map (·.2)=(gs.take k).map (·.2)++(gs.drop k).map (·.2):=by rw[<- bA,List.take_append_drop]
    have e2:=(Nm (gs:=gs.drop k) λg hg=>W.lo g (List.mem_of_mem_drop hg)).1;have e3:=W.sum;rw[e1,List.sum_append]at e3;lia
   have look:0<=Ac.look (Ac.gR (gs.take k)) n/\(Ac.look (Ac.gR (gs.take k)) n).natAbs<=10^20:=by
    rcases Ac.mC (Ac.gR (gs.take k)) n with e0|⟨g,hg,e0⟩
    .rw[e0];exact⟨Int.le_refl _,by decide⟩
    .rw[e0];have:=al.2.2 g hg;lia
   obtain⟨cq,hq,sq⟩ : ∃cq,(kW kvs (.inr n)).getD (.ref D.NOUGHT)=.ref cq/\SqT K H' cq [.int (Ac.lw (Ac.look (Ac.gR (gs.take k)) n) S).1,.int (Ac.lw (Ac.look (Ac.gR (gs.take k)) n) S).2]:=by
    rcases da.val n with⟨e1,e2⟩|⟨c',e1,e2⟩
    .rw[e1,e2,((Ac.tV p0).mpr rfl).1,((Ac.tV p0).mpr rfl).2];exact⟨_,rfl,T.o9 H'⟩
    .rw[e1];exact⟨c',rfl,.of e2⟩
   walk_at "rd"
   have q1:=Ac.fu (t:=Ac.look (Ac.gR (gs.take k)) n) p0;have q2:=Ac.fu (t:=x) p0;have d1:=aL (Ac.ug (Ac.look (Ac.gR (gs.take k)) n) S) look.2;have d2:=aL (Ac.q_ (Ac.look (Ac.gR (gs.take k)) n) S) (by lia:S.natAbs<=10^20);have d3:=aL (Ac.ug x S) (by have:x<=S:=wx;have:0<=x:=wl;lia:x.natAbs<=10^20);have d4:=aL (Ac.q_ x S) (by lia:S.natAbs<=10^20);have d5:Bd ((Ac.lw (Ac.look (Ac.gR (gs.take k)) n) S).2*(Ac.lw x S).2):=by
    refine Y3 (m:=10^20*10^20) ?_ (by decide +kernel);rw[Int.natAbs_mul];exact Nat.mul_le_mul d2 d4
   have hlen:kvs.length<sizeLine:=by
    have h9:9<sizeLine:=by decide
    have:=al.2.1;have:=W.len;rw[da.len];rw[aZ]at *;lia
   refine⟨_,S1 _ _ b,rfl,_,_,rfl,_,_,rfl,rfl,.inl ⟨kvs,.inl h1⟩,_,qI.k (k:=.inr n) h1,cq,hq,c,rfl,_,_,sq,_,_,.of (S1 _ _ cc),Xp d1,Xp d2,Xp d3,Xp d4,q1,q2,d5,λr z o lo hr=>?_⟩;have rd:d≠r:=bK h1 hr;refine⟨_,Hz.k (k:=.inr n) ((bL rd).trans h1) hlen,(bL ld).trans ((bL (bK ‹H' l=some (HO.lst xs)› hr)).trans ‹H' l=some (HO.lst xs)›),_,_,_,rfl,?_,bI,?_⟩
   .intro b' o' e';rw[bL (bK e' hd),bL (bK (S1 _ _ e') hr)];exact S1 _ _ e'
   .obtain⟨ez,eo⟩:=Ac.YZ p0 lo.pos lo.gcd lo.eq;rw[cI e,Ac.wR];refine DA.put ?_ (da.imp λc' x' y' e'=>?_)
    .rw[bL rd.symm,<- ez,<- eo];exact bI
    .rw[bL (d7 e' h1 (by intro z;cases z)),bL (bK e' hr)];exact e'
  .rintro σ' H' ⟨u,v,kvs,rfl,S1,h1,da⟩ _;refine J2 ?_;have e8:gs.take xs.length=gs:=by rw[hp.len,aO]
   rw[e8]at da;have al:=Ac.Bh gs W.lo;have nd:(kvs.map (·.1)).Nodup:=by
    rw[da.keys];exact al.1.map (f:=Sum.inr) (S:=(· ≠ ·)) λa b h z=>h (Sum.inr.inj z)
   have hlen:kvs.length<=sizeLine:=by
    have h9:9<sizeLine:=by decide
    have:=al.2.1;have:=W.len;rw[da.len];lia
   walk_at "rd"
   refine⟨kvs,h1,hlen,λo D1 hD1=>⟨jC K (Ac.gR gs) S d D1 (.frz o (.dK kvs)) H',⟨Same.upd hD1,bI,[],.nil⟩,?_,?_⟩⟩
   .rintro i k y ys Hc hi ⟨S2,hD,ws,wf⟩ hy hfr pre hpre;obtain⟨u0,rfl⟩:=List.length_eq_one_iff.mp hpre;obtain⟨nm,X,c,ea,rfl,rfl,hc⟩:=da.get hi;have vv:=OD nd hi;have hcd:c≠d:=d7 hc h1 (by intro z;cases z);have hcc:Hc c=some (.tup [.int (Ac.lw X S).1,.int (Ac.lw X S).2]):=S2 _ _ ((bL hcd).trans hc)
    walk_at "rd"
    have dg:qI Hc d (kV (.inr nm)) (some (.ref c)):=.inl ⟨kvs,.inr nm,.inr ⟨o,hfr⟩,rfl,vv.symm⟩;refine⟨[some (.str nm)],rfl,rfl,_,dg,_,.tup (.of hcc) (cN.ints K _ [_,_]),_,.tup (T.o9 _) (cN.ints K _ [0,1]),rfl,rfl,?_⟩;have X0:=(al.2.2 _ (aB ea)).1;by_cases hX:X=0
    .subst hX;obtain⟨e1,e2⟩:=(Ac.tV (b:=S) p0).mpr rfl;rw[show PyData.eqv (.tuple (List.map PyData.int [(Ac.lw 0 S).1,(Ac.lw 0 S).2])) (.tuple (List.map PyData.int [0,1]))=true by rw[e1,e2];rfl];refine⟨hfr,S2,hD,ws,?_⟩;rw[Bu ea,ZZ (by decide),List.append_nil];exact wf
    .have e0:PyData.eqv (.tuple (List.map PyData.int [(Ac.lw X S).1,(Ac.lw X S).2])) (.tuple (List.map PyData.int [0,1]))=false:=by
      rw[XQ];simp only[Bool.and_eq_false_iff,decide_eq_false_iff_not];by_cases h1:(Ac.lw X S).1=0
      .exact .inr λh2=>hX ((Ac.tV p0).mp ⟨h1,h2⟩)
      .exact .inl h1
     rw[e0];refine⟨_,dg,fH,λp hp=>?_⟩;have pD:D1≠p:=bK hD hp;have pd:d≠p:=bK hfr hp;refine⟨(bL pD).trans hD,(bL pd).trans hfr,?_,bI,ws++[(nm,c)],?_⟩
     .intro b' o' e';rw[bL (bK e' hD1),bL (bK (S2 _ _ e') hp)];exact S2 _ _ e'
     .rw[Bu ea,ZY (by lia)];exact WF.updL ((bL pD).trans hD) ((wf.same (Same.upd hp)).snoc bI (.of ((bL (bK hcc hp)).trans hcc)))
   .rintro ys Hc ⟨S2,hD,ws,wf⟩ _;rw[da.len,aO]at wf;refine q _ D1 ys ws ?_ ?_ hD wf
    .intro b o' e';exact S2 _ _ ((bL (bK e' hd)).trans (S1 _ _ e'))
    .cases z:H D1 with
     |none=>rfl
     |some o' =>
      have:=(bL (H:=H') (o:=.frz o (.dK kvs)) (bK z hd)).trans (S1 _ _ z);rw[this]at hD1;cases hD1
theorem RX{gs:List (Str×Int)}{S:Int}(W:Wt gs S):∀(hs:List (Str×Int))(L:Int),(∀g∈hs,g∈gs/\(Ac.lw g.2 S).2 ∣ L)->((hs.map λg=>(Ac.lw g.2 S).1*(L/(Ac.lw g.2 S).2)).sum)*S=(hs.map (·.2)).sum*L
 |[],L,_=>by simp
 |g::hs,L,h=>by
  have ih:=RX W hs L λg hg=>h g (aH _ hg);obtain⟨hm,q,hq⟩:=h g aN;have p:=Ac.fu (t:=g.2) W.pos;have e:=Ac.yt (t:=g.2) W.pos;rw[List.map_cons,List.sum_cons,List.map_cons,List.sum_cons,Int.add_mul,Int.add_mul,ih]
  congr 1
  generalize(Ac.lw g.2 S).1=a at *;generalize(Ac.lw g.2 S).2=b at *;rw[hq,Int.mul_ediv_cancel_left _ (Int.ne_of_gt p),Int.mul_right_comm,e,Int.mul_assoc]
theorem Ro{gs:List (Str×Int)}{S:Int}(W:Wt gs S):∀x y,Low (lvT ((gs.map λg=>(g.1,Ac.lw g.2 S)).map (·.2))).sum (lvB ((gs.map λg=>(g.1,Ac.lw g.2 S)).map (·.2)):Nat) x y->x=1/\y=1:=by
 intro x y lo;have hq:∀f∈((gs.map λg=>(g.1,Ac.lw g.2 S)).map (·.2)),Fq f:=by
  intro f hf;obtain⟨u,hu,rfl⟩:=YV.mp hf;obtain⟨g,hg,rfl⟩:=YV.mp hu;exact(W.pair hg).fq
 have e0:(gs.map λg=>(g.1,Ac.lw g.2 S)).map (·.2)=gs.map λg=>Ac.lw g.2 S:=by rw[List.map_map];rfl
 have bp:=zc hq;have top:=RX W gs (lvB ((gs.map λg=>(g.1,Ac.lw g.2 S)).map (·.2)):Nat) λg hg=>⟨hg,MK (f:=Ac.lw g.2 S) (YV.mpr ⟨(g.1,Ac.lw g.2 S),YV.mpr ⟨g,hg,rfl⟩,rfl⟩) (W.pair hg).fq⟩;have e1:(lvT ((gs.map λg=>(g.1,Ac.lw g.2 S)).map (·.2))).sum=(gs.map λg=>(Ac.lw g.2 S).1*((lvB ((gs.map λg=>(g.1,Ac.lw g.2 S)).map (·.2)):Nat)/(Ac.lw g.2 S).2)).sum:=by
  unfold lvT;rw[List.map_map,List.map_map];rfl
 rw[<- e1,W.sum,Int.mul_comm S]at top;have e2:=Int.eq_of_mul_eq_mul_right (Int.ne_of_gt W.pos) top;rw[e2]at lo;have h:=lo.eq;rw[Int.mul_comm _ y]at h;have e3:x=y:=Int.eq_of_mul_eq_mul_right (by lia) h;subst e3;have g:=lo.gcd;have p:=lo.pos;rw[Int.gcd_self]at g;lia
noncomputable def Keep(s:Addr)(H H':Hp):Prop:=∀b o,b≠s->H b=some o->H' b=some o
theorem Keep.tup{s C dx:Addr}{fs:List (Str×V)}{H H':Hp}(h:Keep s H H')(hs:H s=some (.ins C dx fs)):∀t ys,H t=some (.tup ys)->H' t=some (.tup ys):=λt ys e=>h t _ (d7 e hs (by intro z;cases z)) e
theorem Keep.lst{s C dx:Addr}{fs:List (Str×V)}{H H':Hp}(h:Keep s H H')(hs:H s=some (.ins C dx fs)){t:Addr}{ys:Κ}(e:H t=some (.lst ys)):H' t=some (.lst ys):=h t _ (d7 e hs (by intro z;cases z)) e
theorem Keep.free{s r:Addr}{o:HO}{H H':Hp}(h:Keep s H H')(hr:H' r=none)(hs:H' s=some o):H r=none:=by
 cases z:H r with
 |none=>rfl
 |some u =>
  have:=h r u (bK hs hr).symm z;rw[hr]at this;cases this
theorem WF.updI{H:Hp}{o C dx:Addr}{fs:List (Str×V)}{u:HO}(ho:H o=some (.ins C dx fs)){xs:Κ}{gs:List (Str×Int×Int)}{ws:List (Str×Addr)}(h:WF K H xs gs ws):WF K (upd H o u) xs gs ws :=
 h.imp (λt us e=>(bL (d7 e ho (by intro z;cases z))).trans e) λc xs e=>e.updO ho (by intro ys z;cases z) (by intro ob ys z;cases z)
theorem PW.snoc{H:Hp}{xs:Κ}{gs:List (Str×Int)}{S:Int}(h:PW H xs gs S){t c:Addr}{g:Str×Int}(h1:H t=some (.tup [.str g.1,.ref c]))(h2:H c=some (.tup [.int (Ac.lw g.2 S).1,.int (Ac.lw g.2 S).2])):PW H (xs++[.ref t]) (gs++[g]) S:=by
 refine⟨by rw[aA,aA,h.len];rfl,λk u e=>?_⟩;by_cases hk:k<gs.length
 .rw[aD hk]at e;rw[aD (by rw[h.len];exact hk)];exact h.at_ k u e
 .rw[aC (Nat.le_of_not_lt hk)]at e;rw[aC (by rw[h.len];exact Nat.le_of_not_lt hk),h.len];have e0:k-gs.length=0:=by
   cases e1:k-gs.length with
   |zero=>rfl
   |succ m=>rw[e1]at e;simp at e
  rw[e0,List.getElem?_cons_zero]at e;cases e;rw[e0];exact⟨t,c,rfl,h1,h2⟩
structure ab9(K:Frag)(H:Hp)(s C:Addr)(n:Str)(p:Addr)(ds:List (Str×Int×Int))(ld:Addr)(ys:Κ)(ws:List (Str×Addr)):Prop where
 at_:∃dx,H s=some (.ins C dx [("name",.str n),("pay",.ref p),("leads",.ref ld)])
 hl:H ld=some (.lst ys)
 wf:WF K H ys ds ws
noncomputable def uc(K:Frag)(D:Adr):Sp:=λvs H Q _=>∃(s dx C:Addr)(n:Str)(p l:Addr)(x y:Int)(xs:Κ)(gs:List (Str×Int))(S:Int),vs=[.ref s,.str n,.ref p,.ref l]/\H s=some (.ins C dx [])/\Fam D C/\n.length<=1000/\kE n.cps.toList=true/\Fk K H p x y /\
 H l=some (.lst xs)/\PW H xs gs S/\Wt gs S/\∀H' ld ys ws,H ld=none->Keep s H H'->ab9 K H' s C n p (Ac.ways gs S) ld ys ws->Q .non H'
theorem Df(F:Fun K ur um qt f fd)(T:Txt K mg D)(qj:OkI P w K mg base (CXO P w) 4 D.Door_init lA (qm (K:=K) D))(Aw:OkX P w K mg base 4 jm i_ mq)
 (zG:OkX P w K mg base 4 jl jz (xT K)):cD P w K mg base (CXO P w) 5 f fd j4 (uc K D):=by
 refine F.okX Cp ?_ ?_
 .rintro _ _ _ _ ⟨s,dx,C,n,p,l,x,y,xs,gs,S,rfl,_⟩;rfl
 .rintro cdv A outer s H _ Q E hr ⟨o,dx,C,n,p,l,x,y,xs,gs,S,rfl,ho,hC,hn,hw,hf,hl,hp,W,q⟩;refine⟨_,(bH (dh (Uk T.Gu qj hr.md (by rfl) T.ZK j6 (bD (pv 0) (bD (pv 1) (bD (pv 2) bF)))))
   (bH (dh (iY Aw hr.md (by rfl) j6 (bD (pv 3) bF)))
   (bM (uW (pv 0) (iY zG hr.md (by rfl) j6 (bD (pv 3) bF)) rfl)))),?_⟩
  unfold qm mq xT
  walk_at "rd"
  refine⟨dx,C,ho,hC,hn,hw,⟨x,y,hf⟩,λl0 h0=>?_⟩;have ol:o≠l0:=bK bI h0;rw[bL ol.symm]at h0;have k1:Keep o H (upd (upd H l0 (.lst [])) o (.ins C dx [("name",.str n),("pay",.ref p),("leads",.ref l0)])):=λb u hb e=>(bL hb).trans ((bL (bK e h0)).trans e);have o1:upd (upd H l0 (.lst [])) o (.ins C dx [("name",.str n),("pay",.ref p),("leads",.ref l0)]) o=some (.ins C dx [("name",.str n),("pay",.ref p),("leads",.ref l0)]):=bI;generalize upd (upd H l0 (.lst [])) o (.ins C dx [("name",.str n),("pay",.ref p),("leads",.ref l0)])=H1 at k1 o1 ⊢;refine⟨xs,k1.lst ho hl,_,(hp.imp (k1.tup ho)).pairs,?_,?_,Ro W,λH2 S2=>?_⟩
  .intro g hg;obtain⟨u,hu,rfl⟩:=YV.mp hg;exact W.pair hu
  .rw[ak];exact aL W.len (by decide)
  .refine⟨xs,S2 _ _ (k1.lst ho hl),gs,S,(hp.imp (k1.tup ho)).same S2,W,λH3 r ys ws S3 hr3 hr hwf=>?_⟩;have o3:=S3 _ _ (S2 _ _ o1);refine⟨C,dx,_,o3,T.cl C hC,T.Af C hC,(by show 3<1000;decide),?_⟩;refine q _ r ys ws (k1.free (S2.free hr3) o1) (λb u hb e=>(bL hb).trans (S3 _ _ (S2 _ _ (k1 b u hb e)))) ⟨⟨dx,bI⟩,(bL (d7 hr o3 (by intro z;cases z))).trans hr,hwf.updI o3⟩
noncomputable def Lt(x:Str):Prop:=x.cps.toList.all Cr=true
structure Wd(x:Str):Prop where
 lt:Lt x
 lo:1<=x.length
 hi:x.length<=8
theorem Wd.word{x:Str}(h:Wd x):kE x.cps.toList=true:=by
 have l:=h.lt;have lo:=h.lo;have hi:=h.hi;have hl:x.cps.toList.length=x.length:=Array.length_toList;unfold Lt at l;unfold kE;rw[l,hl,Zs lo,Zs hi];rfl
noncomputable def uq(ns:Ξ)(o:Nat):List (Key×V):=(ns.zipIdx o).map λg=>(.inr g.1,.int (g.2:Nat))
noncomputable abbrev w6(ns:Ξ):List (Key×V):=uq ns 0
theorem z_{ns:Ξ}{o:Nat} : (uq ns o).length=ns.length:=by unfold uq;rw[ak,List.length_zipIdx]
theorem wQ{n:Str}{ns:Ξ}{o:Nat} : uq (n::ns) o=(.inr n,.int (o:Nat))::uq ns (o+1):=by unfold uq;rw[List.zipIdx_cons];rfl
theorem O5{n:Str} : ∀{ns:Ξ}{o:Nat},n∉ns->kW (uq ns o) (.inr n)=none
 |[],_,_=>rfl
 |a::ns,o,h=>by
  rw[wQ];have ne:¬(Sum.inr a:Key)=.inr n:=λz=>h (by injection z with z;rw[z];exact aN);unfold kW;rw[List.find?_cons,Zp ne];exact O5 λm=>h (aH _ m)
theorem Jf{n:Str} : ∀{ns:Ξ}{o k:Nat},ns.Nodup->ns[k]?=some n->kW (uq ns o) (.inr n)=some (.int ((o+k:Nat):Int))
 |[],_,_,_,h=>by simp at h
 |a::ns,o,0,_,h=>by
  rw[List.getElem?_cons_zero]at h;cases h;rw[wQ];unfold kW;rw[List.find?_cons,Zs rfl];rfl
 |a::ns,o,k+1,nd,h=>by
  rw[List.getElem?_cons_succ]at h;obtain⟨na,nd'⟩:=List.nodup_cons.mp nd;have ne:¬(Sum.inr a:Key)=.inr n:=λz=>na (by injection z with z;rw[z];exact aB h);have ih:=Jf (o:=o+1) nd' h;rw[wQ];unfold kW at ih ⊢;rw[List.find?_cons,Zp ne];rw[show o+(k+1)=o+1+k by lia];exact ih
theorem Vy{n:Str}{ns:Ξ}(h:n∉ns):putK (w6 ns) (.inr n) (.int (ns.length:Nat))=w6 (ns++[n]):=by
 have a:((w6 ns).any λkv=>decide (kv.1=.inr n))=false:=by
  rw[List.any_eq_false];intro kv hk;unfold w6 uq at hk;obtain⟨g,hg,rfl⟩:=YV.mp hk;have:g.1∈ns:=by
   have:=List.mem_map_of_mem (f:=Prod.fst) hg;rwa[List.zipIdx_map_fst]at this
  intro z;have z:(Sum.inr g.1:Key)=.inr n:=of_decide_eq_true z;injection z with z;exact h (z ▸ this)
 unfold putK;rw[a,ZZ (by decide)];unfold w6 uq;rw[List.zipIdx_append,bA,Nat.zero_add];rfl
structure MP(H:Hp)(xs:Κ)(ns:Ξ):Prop where
 len:xs.length=ns.length
 at_:∀(k:Nat)(n:Str),ns[k]?=some n->∃t v,xs[k]?=some (.ref t)/\H t=some (.tup [.str n,v])
theorem Ba{α:Type}{l:List α}{k:Nat}{a:α}(nd:l.Nodup)(e:l[k]?=some a):a∉l.take k:=by
 obtain⟨lk,rfl⟩:=ao.mp e;rw[<- List.take_append_drop k l,List.nodup_append]at nd;intro z;refine nd.2.2 _ z _ ?_ rfl;rw[List.drop_eq_getElem_cons lk];exact aN
noncomputable def mj:Sp:=λvs H Q _=>∃(p:Addr)(x y:Int),vs=[.ref p]/\Fk K H p x y/\0<=x/\x<y/\Bd x/\Bd y/\Q .non H
theorem z7(F:Fun K jh jh oF f fd)(T:Txt K mg D)(fU:OkF P w K mg base 2 iQ iM (gB (K:=K)))(jc:OkF P w K mg base 1 pI pB (o_ (K:=K))):cD P w K mg base CX0 3 f fd jo (mj (K:=K)):=by
 refine F.ok Cg ?_ ?_
 .rintro _ _ _ _ ⟨p,x,y,rfl,_⟩;rfl
 .rintro cdv A outer s H _ Q E hr ⟨p,x,y,rfl,fk,x0,xy,bx,b_y,q⟩;refine⟨_,(bM (dB (PW.pt (pw_or (cT (cQ (bO fU hr.md (by rfl) (bD (pv 0) bF)) (λ_=>rfl))) (pw_or (cQ (bO jc hr.md (by rfl) (bD (pv 0) (bD (kO (by rfl) T.rY) bF))) (λ_=>rfl)) (pw_or1 (cT (cQ (bO jc hr.md (by rfl) (bD (pv 0) (bD (kO (by rfl) T.R6) bF))) (λ_=>rfl)))))))
    (bM mO)
    cG)),?_⟩
  unfold gB o_
  walk_at "rd"
  have hy:=fk.pos;have b0:Bd 0:=Nat.two_pow_pos 8000;have b1:Bd 1:=Nat.one_lt_two_pow (by decide);refine⟨⟨x,y,fk⟩,x,y,fk.at_,0,1,T.o9 H,bx,b_y,b0,b1,?_⟩;rw[ZZ (by simp;omega)];refine⟨x,y,fk.at_,1,1,T.Le H,bx,b_y,b1,b1,?_⟩;rw[ZZ (by simp;omega)];exact q
noncomputable def nY:Sp:=λvs H Q _=>∃(l:Addr)(xs:Κ)(rs:Ξ),vs=[.ref l]/\H l=some (.lst xs)/\MP H xs rs/\rs.Nodup/\(∀g∈rs,Wd g)/\rs.length<=20 /\
 ∀d H',Same H H'->H d=none->H' d=some (.dK (w6 rs))->Q (.ref d) H'
noncomputable def nJ(l d:Addr)(rs:Ξ)(H:Hp)(k:Nat)(σ:L2.St)(H':Hp):Prop:=∃u v,σ=[some (.ref l),some (.ref d),u,v]/\Same H H'/\H' d=some (.dK (w6 (rs.take k)))
theorem Cq(F:Fun K jT jT qu f fd)(T:Txt K mg D)(gQ:OkF P w K mg base 1 jD jA uK):cD P w K mg base CX0 2 f fd jX nY:=by
 refine F.ok jR ?_ ?_
 .rintro _ _ _ _ ⟨l,xs,rs,rfl,_⟩;rfl
 .rintro cdv A outer s H _ Q E hr ⟨l,xs,rs,rfl,hl,ra,nd,wd,n20,q⟩;refine⟨_,(bH (bU (i:=1) jR.nd rfl (Or.inl rfl) vA)
   (bH (fQ PassesOwn.never rfl (dD ((pv 0)).mono) (cF (i:=2) jR.nd rfl (Or.inl rfl))
    (bH (bU (i:=3) jR.nd rfl (Or.inl rfl) (bT cA (pv 2) bG (λ_ _=>rfl)))
    (bH (dB (PW.pt (pw_or (cT (cQ (bO gQ hr.md (by rfl) (bD (pv 3) bF)) (λ_=>rfl))) (pw_or1 (Mp (TQ (qC hr) (pv 3) (pv 1))))))
     (bM mO)
     cG)
    (bM (yS (qC hr) (pv 1) (pv 3) (bW Dt (by rfl) T.iT PySem.boot_len (bD (pv 1) bF)) rfl)))))
   (bM (b_ (pv 1))))),?_⟩
  unfold uK
  walk_at "rd"
  refine λd hd=>d_ ?_
  walk_at "rd"
  have ld:l≠d:=bK hl hd;refine⟨xs,(bL ld).trans hl,nJ l d rs H,⟨none,none,rfl,Same.upd hd,bI⟩,?_,?_⟩
  .rintro k x σ' H' hk ⟨u,v,rfl,S1,h1⟩ hl';have lk:k<rs.length:=by rw[<- ra.len];exact(ao.mp hk).1
   have e:rs[k]?=some rs[k]:=aj lk;have hm:=aU lk;obtain⟨t,dv,a,b⟩:=ra.at_ k _ e;rw[hk]at a;cases a;have hw:=wd _ hm;have no:rs[k]∉rs.take k:=by exact Ba nd e
   generalize rs[k]=n at *
   walk_at "rd"
   have l9:=hw.hi;refine⟨_,S1 _ _ b,_,fD,.inl ⟨n,rfl,aL l9 (by decide),?_⟩⟩;rw[ZZ (by rw[hw.word];decide)];refine⟨_,qI.k (k:=.inr n) h1,?_⟩;rw[O5 no,ZZ (by decide)];have hlen:(w6 (rs.take k)).length<sizeLine:=by
    have h9:21<sizeLine:=by decide
    rw[z_,aZ];lia
   refine⟨d,_,rfl,h1,_,Hz.k (k:=.inr n) h1 hlen,(bL ld).trans hl',_,_,rfl,λb' o' e'=>(bL (bK e' hd)).trans (S1 _ _ e'),?_⟩;rw[bI,z_,Vy no,cI e]
  .rintro σ' H' ⟨u,v,rfl,S1,h1⟩ _;rw[ra.len,aO]at h1
   walk_at "rd"
   exact q d H' S1 hd h1
structure NWs(ns:Ξ)(H:Hp)(zs:Κ)(ws:List (Str×Addr)):Prop where
 len:zs.length=ws.length
 at_:∀(k:Nat)(g:Str×Addr),ws[k]?=some g->∃t i,zs[k]?=some (.ref t)/\ns[i]?=some g.1/\H t=some (.tup [.int (i:Nat),.ref g.2])
theorem NWs.imp{ns:Ξ}{H H':Hp}{zs:Κ}{ws:List (Str×Addr)}(h':∀t ys,H t=some (.tup ys)->H' t=some (.tup ys))(h:NWs ns H zs ws):NWs ns H' zs ws:=⟨h.len,λk g e=>let⟨t,i,a,b,c⟩:=h.at_ k g e;⟨t,i,a,b,h' _ _ c⟩⟩
theorem NWs.snoc{ns:Ξ}{H:Hp}{zs:Κ}{ws:List (Str×Addr)}{t:Addr}{i:Nat}{g:Str×Addr}(h:NWs ns H zs ws)(hi:ns[i]?=some g.1)(ht:H t=some (.tup [.int (i:Nat),.ref g.2])):NWs ns H (zs++[.ref t]) (ws++[g]):=by
 refine⟨by rw[aA,aA,h.len];rfl,λk g' e=>?_⟩;by_cases hk:k<ws.length
 .rw[aD hk]at e;obtain⟨t',i',a,b,c⟩:=h.at_ k g' e;exact⟨t',i',by rw[aD (by rw[h.len];exact hk)];exact a,b,c⟩
 .rw[aC (Nat.le_of_not_lt hk)]at e;have e0:k-ws.length=0:=by
   have:=(ao.mp e).1;simp at this;omega
  rw[e0]at e;cases e;refine⟨t,i,?_,hi,ht⟩;rw[aC (by rw[h.len];exact Nat.le_of_not_lt hk),h.len,e0];rfl
noncomputable def jE(D:Adr):Sp:=λvs H Q _=>∃(s n C dx p l:Addr)(nm:Str)(xs:Κ)(ws:List (Str×Addr))(ns:Ξ),vs=[.ref s,.ref n]/\eE D C/\H s=some (.ins C dx [("name",.str nm),("pay",.ref p),("leads",.ref l)])/\H l=some (.lst xs)/\Qk H xs ws/\ws.length<=100/\H n=some (.dK (w6 ns))/\ns.Nodup/\(∀g∈ws,g.1∈ns) /\
 ∀r H' zs,Same H H'->H r=none->H' r=some (.lst zs)->NWs ns H' zs ws->Q (.ref r) H'
noncomputable def nwJ(s n r:Addr)(ns:Ξ)(ws:List (Str×Addr))(H:Hp)(k:Nat)(σ:L2.St)(H':Hp):Prop:=∃u v zs,σ=[some (.ref s),some (.ref n),some (.ref r),u,v]/\Same H H'/\H' r=some (.lst zs)/\NWs ns H' zs (ws.take k)
theorem xV(F:Fun K gG gG kZ f fd)(T:Txt K mg D)(rO:OkI P w K mg base CX0 1 D.Door_ways lO (qe D)):cD P w K mg base CX0 2 f fd gJ (jE D):=by
 refine F.ok gO ?_ ?_
 .rintro _ _ _ _ ⟨d,n,C,dx,p,l,nm,xs,ws,ns,rfl,_⟩;rfl
 .rintro cdv A outer s H _ Q E hr ⟨d,n,C,dx,p,l,nm,xs,ws,ns,rfl,hC,hs,hl,hw,n100,hn,nd,hin,q⟩;refine⟨_,(bH (bU (i:=2) gO.nd rfl (Or.inl rfl) (pR bF))
   (bH (fQ PassesOwn.never rfl (dD ((PE.any λC(hC:eE D C)=>(tK (pv 0) (T.cl C hC.fam) (T.Gb C hC) rO hr.md))).mono) (fj (n:=2) rfl (cC (cF (i:=3) gO.nd rfl (Or.inl rfl)) (cC (cF (i:=4) gO.nd rfl (Or.inl rfl)) eN)))
    (bH (dB (Mp (Qo (qC hr) (pv 3) (pv 1)))
     (bM mO)
     cG)
    (bM (dh (kY (pv 2) (bD (oh (bD (Gd (qC hr) (pv 1) (pv 3) (λ_ _=>rfl)) (bD (pv 4) bF))) bF))))))
   (bM (b_ (pv 2))))),?_⟩
  unfold qe
  walk_at "rd"
  refine⟨by decide,λr hrn=>d_ ?_⟩
  walk_at "rd"
  have sr:∀{b o},H b=some o->(upd H r (.lst [])) b=some o:=λ{b o}e=>(bL (bK e hrn)).trans e;refine⟨C,hC,dx,_,sr hs,rfl,nm,p,l,⟨C,dx,hC.fam,sr hs⟩,xs,sr hl,by rw[hw.len];exact n100,λr2 hr2=>⟨nwJ d n r ns ws H,?_,?_,?_⟩⟩
  .have rr:r≠r2:=bK bI hr2;refine⟨none,none,[],rfl,λb o e=>(bL (bK (sr e) hr2)).trans (sr e),(bL rr).trans bI,rfl,λk g e=>by simp at e⟩
  .rintro k x σ' H' hk ⟨u,v,zs,rfl,S1,h1,nw⟩ hx;have lk:k<ws.length:=by rw[<- hw.len];exact(ao.mp hk).1
   have e:ws[k]?=some ws[k]:=aj lk;have hm:=hin _ (aU lk);obtain⟨t,a,b⟩:=hw.at_ k _ e;rw[hk]at a;cases a;generalize ws[k]=g at *;obtain⟨m,c⟩:=g;obtain⟨i,hi⟩:=aV hm
   walk_at "rd"
   have rr:r≠r2:=bK bI hr2;have vl:kW (w6 ns) (.inr m)=some (.int ((0+i:Nat):Int)):=Jf nd hi;have dg:qI H' n (kV (.inr m)) (some (.int ((0+i:Nat):Int))):=vl ▸ qI.k (k:=.inr m) (S1 _ _ hn);refine⟨_,S1 _ _ b,rfl,_,_,rfl,_,_,rfl,rfl,_,dg,?_⟩;rw[ZZ (by simp)];refine⟨⟨_,h1⟩,_,dg,fH,λp hp=>?_⟩;have rp:r≠p:=bK h1 hp;have zl:zs.length<sizeLine:=by
    have h9:101<sizeLine:=by decide
    rw[nw.len,aZ];lia
   refine⟨zs,(bL rp).trans h1,zl,(bL rr.symm).trans ((bL (bK hx hp)).trans hx),_,_,_,rfl,λb' o' e'=>(bL (bK e' hrn)).trans ((bL (bK (S1 _ _ e') hp)).trans (S1 _ _ e')),bI,?_⟩;rw[cI e];refine(nw.imp λt ys e'=>?_).snoc hi ?_
   .rw[bL (d7 e' h1 (by intro z;cases z)),bL (bK e' hp)];exact e'
   .rw[bL rp.symm,bI,Nat.zero_add]
  .rintro σ' H' ⟨u,v,zs,rfl,S1,h1,nw⟩ hx;rw[hw.len,aO]at nw
   walk_at "rd"
   exact q r H' zs S1 hrn h1 nw
noncomputable def del(as:Β)(H:Hp):Hp:=λb=>if b∈as then none else H b
theorem dW{as:Β}{H:Hp}{b:Addr}{o:HO}(h:b∉as)(e:H b=some o):del as H b=some o:=by unfold del;rw[ZZ h];exact e
theorem lZ{as:Β}{H:Hp}{b:Addr}{o:HO}(e:del as H b=some o):b∉as/\H b=some o:=by
 unfold del at e;split at e
 .cases e
 .exact⟨by assumption,e⟩
theorem pq{as:Β}{H:Hp} : Same (del as H) H:=λb o e=>(lZ e).2
theorem mV{as:Β}{H H':Hp}(h:∀b o,b∉as->H b=some o->H' b=some o):Same (del as H) (del as H'):=λb o e=>let⟨a,c⟩:=lZ e;dW a (h b o a c)
structure Dr where
 nm:Str
 p:Addr
 ws:List (Str×Addr)
noncomputable def Uz(D:Adr)(H:Hp)(s:Addr)(g:Dr):Prop:=∃C dx l xs,eE D C/\H s=some (.ins C dx [("name",.str g.nm),("pay",.ref g.p),("leads",.ref l)])/\H l=some (.lst xs)/\Qk H xs g.ws/\g.ws.length<=100
theorem Uz.same{H H':Hp}{s:Addr}{g:Dr}(S:Same H H')(h:Uz D H s g):Uz D H' s g:=by obtain⟨C,dx,l,xs,a,b,c,d,e⟩:=h;exact⟨C,dx,l,xs,a,S _ _ b,S _ _ c,d.same S,e⟩
structure t_(D:Adr)(H:Hp)(xs:Κ)(gs:List Dr):Prop where
 len:xs.length=gs.length
 at_:∀(k:Nat)(g:Dr),gs[k]?=some g->∃s,xs[k]?=some (.ref s)/\Uz D H s g
theorem t_.same{H H':Hp}{xs:Κ}{gs:List Dr}(S:Same H H')(h:t_ D H xs gs):t_ D H' xs gs:=⟨h.len,λk g e=>let⟨s,a,b⟩:=h.at_ k g e;⟨s,a,b.same S⟩⟩
structure m_(ns:Ξ)(H:Hp)(zs:Κ)(gs:List Dr):Prop where
 len:zs.length=gs.length
 at_:∀(k:Nat)(g:Dr),gs[k]?=some g->∃t r ys,zs[k]?=some (.ref t)/\H t=some (.tup [.str g.nm,.ref g.p,.ref r])/\H r=some (.lst ys)/\NWs ns H ys g.ws
theorem m_.same{ns:Ξ}{H H':Hp}{zs:Κ}{gs:List Dr}(S:Same H H')(h:m_ ns H zs gs):m_ ns H' zs gs:=⟨h.len,λk g e=>let⟨t,r,ys,a,b,c,d⟩:=h.at_ k g e;⟨t,r,ys,a,S _ _ b,S _ _ c,d.imp λ_ _ z=>S _ _ z⟩⟩
theorem m_.snoc{ns:Ξ}{H:Hp}{zs ys:Κ}{gs:List Dr}{t r:Addr}{g:Dr}(h:m_ ns H zs gs)(ht:H t=some (.tup [.str g.nm,.ref g.p,.ref r]))(hr:H r=some (.lst ys))(hn:NWs ns H ys g.ws):m_ ns H (zs++[.ref t]) (gs++[g]):=by
 refine⟨by rw[aA,aA,h.len];rfl,λk g' e=>?_⟩;by_cases hk:k<gs.length
 .rw[aD hk]at e;obtain⟨t',r',ys',a,b⟩:=h.at_ k g' e;exact⟨t',r',ys',by rw[aD (by rw[h.len];exact hk)];exact a,b⟩
 .rw[aC (Nat.le_of_not_lt hk)]at e;have e0:k-gs.length=0:=by
   have:=(ao.mp e).1;simp at this;omega
  rw[e0]at e;cases e;refine⟨t,r,ys,?_,ht,hr,hn⟩;rw[aC (by rw[h.len];exact Nat.le_of_not_lt hk),h.len,e0];rfl
noncomputable def Av(ns:Ξ):List (Key×V):=ns.map λn=>(.inr n,.bl true)
theorem Wm{n:Str}{ns:Ξ}(h:n∉ns):kW (Av ns) (.inr n)=none:=by
 unfold kW;rw[List.find?_eq_none.mpr]
 .rfl
 .intro kv hk z;unfold Av at hk;obtain⟨m,hm,rfl⟩:=YV.mp hk;have z:(Sum.inr m:Key)=.inr n:=of_decide_eq_true z;injection z with z;exact h (z ▸ hm)
theorem RP{n:Str}{ns:Ξ}(h:n∉ns):putK (Av ns) (.inr n) (.bl true)=Av (ns++[n]):=by
 have a:((Av ns).any λkv=>decide (kv.1=.inr n))=false:=by
  rw[List.any_eq_false];intro kv hk z;unfold Av at hk;obtain⟨m,hm,rfl⟩:=YV.mp hk;have z:(Sum.inr m:Key)=.inr n:=of_decide_eq_true z;injection z with z;exact h (z ▸ hm)
 unfold putK;rw[a,ZZ (by decide)];unfold Av;rw[bA];rfl
noncomputable def MF(H:Hp)(as:Β):Prop:=∀a∈as,∃u,H a=some u/\∀ys,u≠.tup ys
noncomputable def pN(D:Adr):Sp:=λvs H Q _=>∃(l n:Addr)(xs:Κ)(gs:List Dr)(ns:Ξ),vs=[.ref l,.ref n]/\H l=some (.lst xs)/\t_ D H xs gs/\gs.length<=100/\(gs.map (·.nm)).Nodup/\H n=some (.dK (w6 ns))/\ns.Nodup/\(∀g∈gs,∀z∈g.ws,z.1∈ns) /\
 ∀r H' zs,Same H H'->H r=none->H' r=some (.lst zs)->(∀as,MF H as->m_ ns (del as H') zs gs)->Q (.ref r) H'
noncomputable def oJ(l n d r:Addr)(ns:Ξ)(gs:List Dr)(H:Hp)(k:Nat)(σ:L2.St)(H':Hp):Prop:=∃u zs,σ=[some (.ref l),some (.ref n),some (.ref d),some (.ref r),u]/\Same H H'/\H' d=some (.dK (Av ((gs.take k).map (·.nm))))/\H' r=some (.lst zs)/\∀as,MF H as->m_ ns (del (d::r::as) H') zs (gs.take k)
theorem Ia(F:Fun K lB lB qL f fd)(T:Txt K mg D)(lg:OkF P w K mg base 2 gG gJ (jE D)):cD P w K mg base CX0 3 f fd lN (pN D):=by
 refine F.ok lC ?_ ?_
 .rintro _ _ _ _ ⟨l,n,xs,gs,ns,rfl,_⟩;rfl
 .rintro cdv A outer s H _ Q E hr ⟨l,n,xs,gs,ns,rfl,hl,dr,n100,ndg,hn,nd,hin,q⟩;refine⟨_,(bH (bU (i:=2) lC.nd rfl (Or.inl rfl) vA)
   (bH (bU (i:=3) lC.nd rfl (Or.inl rfl) (pR bF))
   (bH (fQ PassesOwn.never rfl (dD ((pv 0)).mono) (cF (i:=4) lC.nd rfl (Or.inl rfl))
    (bH (dB (Mp (TQ (qC hr) (pX (pv 4) rfl) (pv 2)))
     (bM mO)
     cG)
    (bH (yS (qC hr) (pv 2) (pX (pv 4) rfl) mF rfl)
    (bM (dh (kY (pv 3) (bD (oh (bD (pX (pv 4) rfl) (bD (pX (pv 4) rfl) (bD (bO lg hr.md (by rfl) (bD (pv 4) (bD (pv 1) bF))) bF)))) bF)))))))
   (bM (b_ (pv 3)))))),?_⟩
  unfold jE
  walk_at "rd"
  refine λd hd=>⟨by decide,λr hrn=>d_ ?_⟩
  walk_at "rd"
  have dr0:d≠r:=bK bI hrn;have hrn':H r=none:=(bL dr0.symm).symm.trans hrn;have st:Same H (upd (upd H d (.dK [])) r (.lst [])):=λb o e=>(bL (bK e hrn')).trans ((bL (bK e hd)).trans e);refine⟨xs,st _ _ hl,oJ l n d r ns gs H,⟨none,[],rfl,st,(bL dr0).trans bI,bI,λas _=>⟨rfl,λk g e=>by simp at e⟩⟩,?_,?_⟩
  .rintro k x σ' H' hk ⟨u,zs,rfl,S1,h1,h2,of_⟩ hx;have lk:k<gs.length:=by rw[<- dr.len];exact(ao.mp hk).1
   have e:gs[k]?=some gs[k]:=aj lk;have hm:=hin _ (aU lk);obtain⟨t,a,b⟩:=dr.at_ k _ e;rw[hk]at a;cases a;have no:gs[k].nm∉(gs.take k).map (·.nm):=by
    rw[List.map_take];exact Ba ndg (by rw[aq,e];rfl)
   generalize gs[k]=g at *;obtain⟨C,dx,ll,ys,hC,hs,hll,hw,w100⟩:=b.same S1
   walk_at "rd"
   refine⟨C,dx,_,hs,T.cl C hC.fam,T.yV C hC.fam,_,rfl,_,qI.k (k:=.inr g.nm) h1,?_⟩;rw[Wm no,ZZ (by decide)];have hlen:(Av ((gs.take k).map (·.nm))).length<sizeLine:=by
    have h9:101<sizeLine:=by decide
    unfold Av;rw[ak,ak,aZ];lia
   have up:∀{b o},b≠d->H' b=some o->upd H' d (.dK (putK (Av ((gs.take k).map (·.nm))) (.inr g.nm) (.bl true))) b=some o:=λ{b o}h e=>(bL h).trans e;have td:t≠d:=d7 hs h1 (by intro z;cases z);have ld:ll≠d:=d7 hll h1 (by intro z;cases z);have nd_:n≠d:=bK hn hd;refine⟨C,dx,_,hs,T.cl C hC.fam,T.yV C hC.fam,_,rfl,_,Hz.k (k:=.inr g.nm) h1 hlen,⟨zs,up dr0.symm h2⟩,C,dx,_,up td hs,T.cl C hC.fam,T.yV C hC.fam,_,rfl,C,dx,_,up td hs,T.cl C hC.fam,T.TJ C hC.fam,_,rfl,C,hC,dx,g.p,ll,⟨g.nm,up td hs⟩,ys,up ld hll,g.ws,⟨hw.len,λk g e=>let⟨t,a,b⟩:=hw.at_ k g e;⟨t,a,up (d7 b h1 (by intro z;cases z)) b⟩⟩,w100,ns,up nd_ (S1 _ _ hn),nd,hm,?_⟩;intro r3 H3 z3 S3 f3 e3 w3;refine⟨by decide,λp hp=>?_⟩;have lr:l≠r:=bK hl hrn';have ld0:l≠d:=bK hl hd;have a1:=S3 _ _ (up dr0.symm h2);have a2:=S3 d _ bI;have rp:r≠p:=bK a1 hp;have dp:d≠p:=bK a2 hp;have a3:=S3 _ _ (up ld0 hx);have zl:zs.length<sizeLine:=by
    have h9:101<sizeLine:=by decide
    rw[(of_ [] (by intro a ha;cases ha)).len,aZ];lia
   have r3p:r3≠p:=bK e3 hp;refine⟨zs,(bL rp).trans a1,zl,(bL lr).trans ((bL (bK a3 hp)).trans a3),_,_,rfl,λb o e'=>?_,?_,bI,?_⟩
   .have c:=S3 _ _ (up (bK e' hd) (S1 _ _ e'));rw[bL (bK e' hrn'),bL (bK c hp)];exact c
   .rw[bL dr0,bL dp,a2,RP no,cI e,bA];rfl
   .intro as has;have r3n:r3∉d::r::as:=by
     simp only[YU,not_or];refine⟨λz=>(by rw[z,bI]at f3;cases f3),λz=>(by rw[z,up dr0.symm h2]at f3;cases f3),λz=>?_⟩;obtain⟨u,hu,_⟩:=has _ z;rw[up (bK hu hd) (S1 _ _ hu)]at f3;cases f3
    have asp:∀a∈as,∃u,H3 a=some u/\∀ys,u≠.tup ys:=λa ha=>let⟨u,hu,n⟩:=has a ha;⟨u,S3 _ _ (up (bK hu hd) (S1 _ _ hu)),n⟩;have pn:p∉d::r::as:=by
     simp only[YU,not_or];exact⟨dp.symm,rp.symm,λz=>let⟨u,hu,_⟩:=asp _ z;bK hu hp rfl⟩
    have u2:∀{b o},b∉d::r::as->(upd H3 p (.tup [.str g.nm,.ref g.p,.ref r3])) b=some o->del (d::r::as) (upd (upd H3 p (.tup [.str g.nm,.ref g.p,.ref r3])) r (.lst (zs++[.ref p]))) b=some o:=λ{b o}h e=>dW h ((bL (by simp only[YU,not_or]at h;exact h.2.1)).trans e);rw[cI e];refine((of_ as has).same λb o e'=>?_).snoc (u2 pn bI) (u2 r3n ((bL r3p).trans e3)) (w3.imp λt ys e'=>?_)
    .obtain⟨b1,b2⟩:=lZ e';have c:=S3 _ _ (up (by simp only[YU,not_or]at b1;exact b1.1) b2);exact u2 b1 ((bL (bK c hp)).trans c)
    .refine u2 ?_ ((bL (bK e' hp)).trans e');simp only[YU,not_or];exact⟨d7 e' a2 (by intro z;cases z),d7 e' a1 (by intro z;cases z),λz=>let⟨u,hu,n⟩:=asp _ z;n _ (Option.some.inj (hu.symm.trans e'))⟩
  .rintro σ' H' ⟨u,zs,rfl,S1,h1,h2,of_⟩ hx;rw[dr.len,aO]at of_
   walk_at "rd"
   exact q r H' zs S1 hrn' h2 λas has=>(of_ as has).same λb o e=>let⟨a,c⟩:=lZ e;dW (λz=>a (aH _ (aH _ z))) c
structure jH(D:Adr)(H:Hp)(xs:Κ)(rms:List (Str×List Dr)):Prop where
 len:xs.length=rms.length
 at_:∀(k:Nat)(g:Str×List Dr),rms[k]?=some g->∃t l ys,xs[k]?=some (.ref t)/\H t=some (.tup [.str g.1,.ref l])/\H l=some (.lst ys)/\t_ D H ys g.2
theorem jH.rooms{H:Hp}{xs:Κ}{rms:List (Str×List Dr)}(h:jH D H xs rms):MP H xs (rms.map (·.1)):=⟨by rw[h.len,ak],λk n e=>by
 rw[aq]at e;cases e0:rms[k]? with
 |none=>rw[e0]at e;cases e
 |some g =>
  rw[e0]at e;cases e;obtain⟨t,l,ys,a,b,_⟩:=h.at_ k g e0;exact⟨t,_,a,b⟩⟩
theorem jH.same{H H':Hp}{xs:Κ}{rms:List (Str×List Dr)}(S:Same H H')(h:jH D H xs rms):jH D H' xs rms:=⟨h.len,λk g e=>let⟨t,l,ys,a,b,c,d⟩:=h.at_ k g e;⟨t,l,ys,a,S _ _ b,S _ _ c,d.same S⟩⟩
structure rD(ns:Ξ)(H:Hp)(zs:Κ)(gss:List (List Dr)):Prop where
 len:zs.length=gss.length
 at_:∀(k:Nat)(gs:List Dr),gss[k]?=some gs->∃l ys,zs[k]?=some (.ref l)/\H l=some (.lst ys)/\m_ ns H ys gs
theorem rD.same{ns:Ξ}{H H':Hp}{zs:Κ}{gss:List (List Dr)}(S:Same H H')(h:rD ns H zs gss):rD ns H' zs gss:=⟨h.len,λk g e=>let⟨l,ys,a,b,c⟩:=h.at_ k g e;⟨l,ys,a,S _ _ b,c.same S⟩⟩
theorem rD.snoc{ns:Ξ}{H:Hp}{zs ys:Κ}{gss:List (List Dr)}{l:Addr}{gs:List Dr}(h:rD ns H zs gss)(hl:H l=some (.lst ys))(ho:m_ ns H ys gs):rD ns H (zs++[.ref l]) (gss++[gs]):=by
 refine⟨by rw[aA,aA,h.len];rfl,λk g' e=>?_⟩;by_cases hk:k<gss.length
 .rw[aD hk]at e;obtain⟨l',ys',a,b⟩:=h.at_ k g' e;exact⟨l',ys',by rw[aD (by rw[h.len];exact hk)];exact a,b⟩
 .rw[aC (Nat.le_of_not_lt hk)]at e;have e0:k-gss.length=0:=by
   have:=(ao.mp e).1;simp at this;omega
  rw[e0]at e;cases e;refine⟨l,ys,?_,hl,ho⟩;rw[aC (by rw[h.len];exact Nat.le_of_not_lt hk),h.len,e0];rfl
theorem wZ{H:Hp}{o b C0 dx0:Addr}{u:HO}(ho:H o=some (.ins C0 dx0 []))(e:H b=some u)(n:u≠.ins C0 dx0 []):del [o] H b=some u:=dW (by simp only[YR];exact d7 e ho n) e
theorem jH.off{H:Hp}{o C0 dx0:Addr}{xs:Κ}{rms:List (Str×List Dr)}(ho:H o=some (.ins C0 dx0 []))(h:jH D H xs rms):jH D (del [o] H) xs rms:=⟨h.len,λk g e=>by
 obtain⟨t,l,ys,a,b,c,d⟩:=h.at_ k g e;refine⟨t,l,ys,a,wZ ho b (by intro z;cases z),wZ ho c (by intro z;cases z),d.len,λk g e=>?_⟩;obtain⟨s,a,C,dx,l,xs,h1,h2,h3,h4,h5⟩:=d.at_ k g e;exact⟨s,a,C,dx,l,xs,h1,wZ ho h2 (by intro z;injection z with _ _ z;cases z),wZ ho h3 (by intro z;cases z),⟨h4.len,λk g e=>let⟨t,a,b⟩:=h4.at_ k g e;⟨t,a,wZ ho b (by intro z;cases z)⟩⟩,h5⟩⟩
structure JH(rms:List (Str×List Dr)):Prop where
 len:rms.length<=20
 nd:(rms.map (·.1)).Nodup
 wd:∀g∈rms,Wd g.1
 few:∀g∈rms,g.2.length<=100
 dn:∀g∈rms,(g.2.map (·.nm)).Nodup
 to_:∀g∈rms,∀d∈g.2,∀z∈d.ws,z.1∈rms.map (·.1)
noncomputable def gY(D:Adr)(H:Hp)(a p:Addr)(rms:List (Str×List Dr)):Prop:=∃dx n l zs,H a=some (.ins D.Hall dx [("share",.ref p),("numbers",.ref n),("offered",.ref l)])/\H n=some (.dK (w6 (rms.map (·.1))))/\H l=some (.lst zs)/\rD (rms.map (·.1)) H zs (rms.map (·.2))
theorem gY.same{H H':Hp}{a p:Addr}{rms:List (Str×List Dr)}(S:Same H H')(h:gY D H a p rms):gY D H' a p rms:=by obtain⟨dx,n,l,zs,b,c,d,e⟩:=h;exact⟨dx,n,l,zs,S _ _ b,S _ _ c,S _ _ d,e.same S⟩
inductive qR(K:Frag)(D:Adr)(vs:Κ)(H:Hp)(Q:VK):Prop
 |mk (o dx p l:Addr) (x y:Int) (xs:Κ) (rms:List (Str×List Dr)) (h0:vs=[.ref o,.ref p,.ref l]) (h1:H o=some (.ins D.Hall dx [])) (h2:Fk K H p x y) (h3:0<=x) (h4:x<y) (h5:Bd x) (h6:Bd y) (h7:H l=some (.lst xs)) (h8:jH D H xs rms) (h9:JH rms) (h10:∀H',Keep o H H'->gY D H' o p rms->Q .non H'):qR K D vs H Q
noncomputable def uY(K:Frag)(D:Adr):Sp:=λvs H Q _=>qR K D vs H Q
noncomputable def hJ(o D1:Addr)(rms:List (Str×List Dr))(H:Hp)(k:Nat)(zs:Κ)(H':Hp):Prop:=Same H H'/\H' D1=some (.lst zs)/\rD (rms.map (·.1)) (del [o,D1] H') zs ((rms.take k).map (·.2))
theorem Fo(F:Fun K vI wH nO f fd)(T:Txt K mg D)(oO:OkF P w K mg base 3 jh jo (mj (K:=K)))(ql:OkF P w K mg base 2 jT jX nY)(rA:OkF P w K mg base 3 lB lN (pN D)):cD P w K mg base CX0 4 f fd lD (uY K D):=by
 refine F.ok GP ?_ ?_
 .rintro _ _ _ _ ⟨o,dx,p,l,x,y,xs,rms,rfl,_⟩;rfl
 .rintro cdv A outer s H _ Q E hr ⟨o,dx,p,l,x,y,xs,rms,rfl,ho,fk,x0,xy,bx,b_y,hl,hR,ok,q⟩;refine⟨_,(bH (dh (bO oO hr.md (by rfl) (bD (pv 1) bF)))
   (bH (uW (pv 0) (pv 1) rfl)
   (bH (uW (pv 0) (bO ql hr.md (by rfl) (bD (pv 2) bF)) rfl)
   (bM (uW (pv 0) (pF (bN nO) rT rT ["room"] (dD ((pv 2)).mono) (fZ (i:=0)) fL (bO rA hr.md (by rfl) (bD (bT cA (pv 0) bG (λ_ _=>rfl)) (bD (VP (K':=K) rfl (pv 1) rfl) bF)))) rfl))))),?_⟩
  unfold mj nY pN
  walk_at "rd"
  have hR0:=hR.off ho;have hl0:del [o] H l=some (.lst xs):=wZ ho hl (by intro z;cases z);have S1:∀u,Same (del [o] H) (upd H o u):=λu b v e=>by
   obtain⟨b1,b2⟩:=lZ e;exact(bL (by simpa using b1)).trans b2
  have cl:=T.qU;refine⟨x,y,fk,x0,xy,bx,b_y,D.Hall,dx,[],ho,cl,T.ud,(by show 0<1000;decide),xs,S1 _ _ _ hl0,_,(hR0.same (S1 _)).rooms,ok.nd,λg hg=>?_,by rw[ak];exact ok.len,λd H2 S2 f2 e2=>?_⟩
  .obtain⟨g',hg',rfl⟩:=YV.mp hg;exact ok.wd g' hg'
  have od:d≠o:=λz=>by rw[z,bI]at f2;cases f2
  refine⟨D.Hall,dx,_,S2 _ _ bI,cl,T.k_,(by show 1<1000;decide),jw ?_⟩;have S3:∀u,Same (del [o] H) (upd H2 o u):=λu b v e=>(bL (by have:=(lZ e).1;simpa using this)).trans (S2 _ _ (S1 _ _ _ e))
  walk_at "rd"
  have hz9:21<sizeLine:=by decide
  have n20:=ok.len;refine⟨xs,S3 _ _ _ hl0,by rw[hR.len];exact aL n20 (by decide),λD1 hD1=>?_⟩;have eo:upd H2 o (.ins D.Hall dx (jq "numbers" (.ref d) (jq "share" (.ref p) []))) o=some (.ins D.Hall dx [("share",.ref p),("numbers",.ref d)]):=bI;have ed:upd H2 o (.ins D.Hall dx (jq "numbers" (.ref d) (jq "share" (.ref p) []))) d=some (.dK (w6 (rms.map (·.1)))):=(bL od).trans e2;have S4:=S3 (.ins D.Hall dx (jq "numbers" (.ref d) (jq "share" (.ref p) [])));generalize upd H2 o (.ins D.Hall dx (jq "numbers" (.ref d) (jq "share" (.ref p) [])))=H3 at eo ed S4 hD1 ⊢;have oD:o≠D1:=bK eo hD1;refine⟨hJ o D1 rms H3,⟨Same.upd hD1,bI,rfl,λk g e=>by simp at e⟩,?_,?_⟩
  .rintro k x1 ys Hc hk ⟨S5,h5,of_⟩ hy hlc;have lk:k<rms.length:=by rw[<- hR.len];exact(ao.mp hk).1
   have e:rms[k]?=some rms[k]:=aj lk;have hm:=aU lk;obtain⟨t,ll,ds,a,b,c,dd⟩:=(hR0.same (S4.trans S5)).at_ k _ e;rw[hk]at a;cases a;generalize rms[k]=g at *;refine⟨t,rfl,_,b,_,dX,D.Hall,dx,_,S5 _ _ eo,cl,T.k_,_,rfl,ll,rfl,d,rfl,ds,c,g.2,dd,ok.few g hm,ok.dn g hm,_,S5 _ _ ed,ok.nd,ok.to_ g hm,?_⟩;intro r H4 zs S6 f6 e6 o6;have h4:=S6 _ _ h5;have ho4:=S6 _ _ (S5 _ _ eo);refine⟨h4,S6 _ _ hlc,λb v e'=>?_,bI,?_⟩
   .exact(bL (bK e' hD1)).trans (S6 _ _ (S5 _ _ e'))
   .have ee:del [o,D1] (upd H4 D1 (.lst (ys++[.ref r])))=del [o,D1] H4:=by
     funext b
     unfold del;split
     .rfl
     .rename_i hb
      exact bL (by simp at hb;exact hb.2)
    rw[ee,cI e,bA];refine(of_.same (mV λb v _ e'=>S6 _ _ e')).snoc (dW ?_ e6) (o6 [o,D1] ?_)
    .simp only[YU,List.not_mem_nil,or_false,not_or];exact⟨λz=>(by rw[z,S5 _ _ eo]at f6;cases f6),λz=>(by rw[z,h5]at f6;cases f6)⟩
    .intro a ha;simp only[YU,List.not_mem_nil,or_false]at ha;rcases ha with rfl|rfl
     .exact⟨_,S5 _ _ eo,by intro ys z;cases z⟩
     .exact⟨_,h5,by intro ys z;cases z⟩
  .rintro ys Hc ⟨S5,h5,of_⟩ hy;rw[hR.len,aO]at of_;refine⟨D.Hall,dx,_,S5 _ _ eo,cl,T.qG,(by show 2<1000;decide),q _ (λb v nb e=>?_) ⟨dx,d,D1,ys,bI,(bL (λz=>od (by rw[z]))).trans (S5 _ _ ed),(bL oD.symm).trans h5,of_.same λb v e=>?_⟩⟩
   .exact(bL nb).trans (S5 _ _ (S4 _ _ (dW (by simpa using nb) e)))
   .obtain⟨b1,b2⟩:=lZ e;exact(bL (by simp at b1;exact b1.1)).trans b2
noncomputable def gU(D:Adr):Sp:=λvs H Q _=>∃(o p:Addr)(rms:List (Str×List Dr)),vs=[.ref o]/\gY D H o p rms/\Q (.int rms.length) H
theorem Gh(F:Fun K vP vq rG f fd)(T:Txt K mg D):cD P w K mg base CX0 1 f fd gF (gU D):=by
 refine F.ok Gk ?_ ?_
 .rintro _ _ _ _ ⟨o,p,rms,rfl,_⟩;rfl
 .rintro cdv A outer s H _ Q E hr ⟨o,p,rms,rfl,⟨dx,n,l,zs,ho,hn,hl,of_⟩,q⟩;refine⟨_,(bM (b_ (bW Dt (by rfl) T.iT PySem.boot_len (bD (pX (pv 0) rfl) bF)))),?_⟩
  walk_at "rd"
  refine⟨D.Hall,dx,_,ho,T.qU,T.k_,_,rfl,n,_,rfl,hn,?_⟩;rw[z_,ak];exact q
noncomputable def oG(D:Adr):Sp:=λvs H Q _=>∃(o p:Addr)(k:Nat)(rms:List (Str×List Dr)),vs=[.ref o,.int k]/\gY D H o p rms/\k<rms.length/\Q .non H
theorem uL(F:Fun K iJ iI gb f fd)(T:Txt K mg D)(cL:OkF P w K mg base 1 fG fB eO)(eF:OkI P w K mg base CX0 1 D.Hall_size gF (gU D)): cD P w K mg base CX0 2 f fd dH (oG D):=by
 refine F.ok mX ?_ ?_
 .rintro _ _ _ _ ⟨o,p,k,rms,rfl,_⟩;rfl
 .rintro cdv A outer s H _ Q E hr ⟨o,p,k,rms,rfl,hh,lk,q⟩;refine⟨_,(bM (dB (PW.pt (pw_or (cT (cQ (bO cL hr.md (by rfl) (bD (pv 1) bF)) (λ_=>rfl))) (pw_or1 (cT (Bp Jm Bc bG (pv 1) (PE.any λC(hC:dI D C)=>(tK (pv 0) (T.cl C hC.fam) (T.qx C hC) eF hr.md)))))))
    (bM mO)
    cG)),?_⟩
  unfold eO gU
  walk_at "rd"
  obtain⟨dx,n,l,zs,ho,hn,hl,of_⟩:=hh;rw[ZY (by simp)];refine⟨D.Hall,(by unfold dI;simp),dx,_,ho,rfl,p,rms,⟨dx,n,l,zs,ho,hn,hl,of_⟩,?_⟩;rw[ZZ (by simp;omega)];exact q
noncomputable def fJ(D1:Addr)(ns:Ξ)(gs:List Dr)(H:Hp)(k:Nat)(zs:Κ)(H':Hp):Prop:=Same H H'/\H' D1=some (.lst zs)/\∀as,MF H as->m_ ns (del (D1::as) H') zs (gs.take k)
noncomputable def mU(D:Adr):Sp:=λvs H Q _=>∃(o p:Addr)(k:Nat)(rms:List (Str×List Dr))(g:Str×List Dr),vs=[.ref o,.int k]/\gY D H o p rms/\rms[k]?=some g/\g.2.length<=100/\(∀d∈g.2,d.ws.length<=100) /\
 ∀r H' zs,Same H H'->H r=none->H' r=some (.lst zs)->(∀as,MF H as->m_ (rms.map (·.1)) (del as H') zs g.2)->Q (.ref r) H'
theorem BL(F:Fun K rB rF j5 f fd)(T:Txt K mg D)(jt:OkI P w K mg base CX0 2 D.Hall_check_room dH (oG D)): cD P w K mg base CX0 3 f fd gq (mU D):=by
 refine F.ok Bv ?_ ?_
 .rintro _ _ _ _ ⟨o,p,k,rms,g,rfl,_⟩;rfl
 .rintro cdv A outer s H _ Q E hr ⟨o,p,k,rms,g,rfl,hh,hg,g100,w100,q⟩;refine⟨_,(bH (dh (PE.any λC(hC:cM D C)=>(A_ (pv 0) (T.cl C hC.fam) (T.m5 C hC) jt hr.md (bD (pv 1) bF))))
   (bM (b_ (pF (bN j5) nZ nZ ["name", "pay", "numbered"] (dD ((bT bZ (pX (pv 0) rfl) (pv 1) (λ_ _=>rfl))).mono) (fj (n:=3) rfl (cC (fZ (i:=0)) (cC (fZ (i:=1)) (cC (fZ (i:=2)) eN)))) fL (oh (bD (pv 0) (bD (pv 1) (bD (fV uX (by rfl) T.oH boot_list (bD (pv 2) bF)) bF)))))))),?_⟩
  unfold oG
  walk_at "rd"
  obtain⟨dx,n,l,zs,ho,hn,hl,of_⟩:=hh;have lk:=(ao.mp hg).1;refine⟨D.Hall,(by unfold cM;simp),dx,_,ho,rfl,p,k,rfl,rms,⟨dx,n,l,zs,ho,hn,hl,of_⟩,lk,kh ?_⟩;obtain⟨ll,ys,a,b,c⟩:=of_.at_ k g.2 (by rw[aq,hg];rfl);have z9:101<sizeLine:=by decide
  walk_at "rd"
  refine⟨D.Hall,dx,_,ho,T.qU,T.qG,_,rfl,l,rfl,zs,hl,_,cg a,ll,rfl,ys,b,by rw[c.len];exact aL g100 (by decide),λD1 hD=>?_⟩;refine⟨fJ D1 (rms.map (·.1)) g.2 H,⟨Same.upd hD,bI,λas _=>⟨rfl,λk g e=>by simp at e⟩⟩,?_,?_⟩
  .rintro i x1 zs1 Hc hi ⟨S5,h5,o5⟩ hy hlc pre hpre;have li:i<g.2.length:=by rw[<- c.len];exact(ao.mp hi).1
   have e:g.2[i]?=some g.2[i]:=aj li;have hm:=w100 _ (aU li);obtain⟨t,r,ws,ea,eb,ec,ed⟩:=(c.same S5).at_ i _ e;rw[hi]at ea;cases ea;generalize g.2[i]=d at *;obtain⟨u1,u2,u3,rfl⟩ : ∃a b c,pre=[a,b,c]:=by
    match pre,hpre with
    |[a,b,c],_=>exact⟨a,b,c,rfl⟩
   walk_at "rd"
   refine⟨_,eb,rfl,_,_,rfl,_,_,rfl,_,_,rfl,rfl,[_,_,_],rfl,rfl,?_⟩;refine⟨r,rfl,ws,ec,λl1 hl1=>⟨by decide,λp1 hp1=>?_⟩⟩;have lp:l1≠p1:=bK bI hp1;have hp1':Hc p1=none:=(bL lp.symm).symm.trans hp1;have S6:Same Hc (upd (upd Hc l1 (.lst ws)) p1 (.tup [.str d.nm,.ref d.p,.ref l1])):=(Same.upd hl1).trans (Same.upd hp1);have e6:upd (upd Hc l1 (.lst ws)) p1 (.tup [.str d.nm,.ref d.p,.ref l1]) l1=some (.lst ws):=(bL lp).trans bI;have e7:upd (upd Hc l1 (.lst ws)) p1 (.tup [.str d.nm,.ref d.p,.ref l1]) p1=some (.tup [.str d.nm,.ref d.p,.ref l1]):=bI;generalize upd (upd Hc l1 (.lst ws)) p1 (.tup [.str d.nm,.ref d.p,.ref l1])=H7 at S6 e6 e7 ⊢;refine⟨S6 _ _ h5,S6 _ _ hlc,λb v e'=>(bL (bK e' hD)).trans (S6 _ _ (S5 _ _ e')),bI,λas has=>?_⟩;have nin:∀{b},Hc b=none->b∉D1::as:=λ{b}hb=>by
    simp only[YU,not_or];exact⟨λz=>(by rw[z,h5]at hb;cases hb),λz=>let⟨u,hu,_⟩:=has _ z;bK (S5 _ _ hu) hb rfl⟩
   have u2:∀{b o},b∉D1::as->H7 b=some o->del (D1::as) (upd H7 D1 (.lst (zs1++[.ref p1]))) b=some o:=λ{b o}h e=>dW h ((bL (by simp only[YU,not_or]at h;exact h.1)).trans e);rw[cI e];refine((o5 as has).same λb v e'=>?_).snoc (u2 (nin hp1') e7) (u2 (nin hl1) e6) (ed.imp λt us e'=>u2 ?_ (S6 _ _ e'))
   .obtain⟨b1,b2⟩:=lZ e';exact u2 b1 (S6 _ _ b2)
   .simp only[YU,not_or];exact⟨d7 e' h5 (by intro z;cases z),λz=>let⟨u,hu,n⟩:=has _ z;n _ (Option.some.inj ((S5 _ _ hu).symm.trans e'))⟩
  .rintro zs1 Hc ⟨S5,h5,o5⟩ _;rw[c.len,aO]at o5;exact q D1 Hc zs1 S5 hD h5 λas has=>(o5 as has).same λb o e=>let⟨a,c⟩:=lZ e;dW (λz=>a (aH _ z)) c
noncomputable def mD(C:Addr):Sp:=λvs H Q _=>∃a v,vs=[.ref a,v]/\H a=some (XN a C none)/\∀d,H d=none->d≠a->Q .non (upd (upd H a (XN a C (some d))) d (.xd [("room",v)]))
theorem zK(F:Fun K sE qM oR f fd)(T:Txt K mg D):cD P w K mg base CX0 1 f fd ji (mD D.NoPlan):=by
 refine F.okB Aq ?_ ?_
 .rintro _ _ _ _ ⟨a,v,rfl,_⟩;rfl
 .rintro cdv A outer s H _ Q E hr ⟨a,v,rfl,ha,q⟩;refine⟨_,(cZ (PSB.mk (dh (JB T.ib_HallError T.xi_NoPlan (by rfl) T.sH (bD (pv 0) (bD jL bF)))))
   (zW (PSB.mk (Oe (pv 0) (pv 1) rfl)))),?_⟩
  exact⟨_,rfl,a,[_],rfl,ha,by decide,_,rfl,_,rfl,a,D.NoPlan,rfl,ha,T.xs_NoPlan,T.sO,q⟩
theorem Ag(F:Fun K rZ sY n_ f fd)(T:Txt K mg D):cD P w K mg base CX0 1 f fd iZ (mD D.NoRoom):=by
 refine F.okB Ax ?_ ?_
 .rintro _ _ _ _ ⟨a,v,rfl,_⟩;rfl
 .rintro cdv A outer s H _ Q E hr ⟨a,v,rfl,ha,q⟩;refine⟨_,(cZ (PSB.mk (dh (JB T.ib_HallError T.xi_NoRoom (by rfl) T.sH (bD (pv 0) (bD jL bF)))))
   (zW (PSB.mk (Oe (pv 0) (pv 1) rfl)))),?_⟩
  exact⟨_,rfl,a,[_],rfl,ha,by decide,_,rfl,_,rfl,a,D.NoRoom,rfl,ha,T.xs_NoRoom,T.sG,q⟩
theorem Kg{H H':Hp}(S:Same H H'){v:V}{t:String}(h:tyS H v=some t):tyS H' v=some t:=by
 cases v with
 |ref a =>
  have h:(match H a with
   |some (.lst _)=>some "list"
   |some (.tup _)=>some "tuple"
   |some (.dK _)=>some "dict"
   |_=>none)=some t:=h
  show(match H' a with
   |some (.lst _)=>some "list"
   |some (.tup _)=>some "tuple"
   |some (.dK _)=>some "dict"
   |_=>none)=some t
  split at h
  .rename_i e;rw[S a _ e];exact h
  .rename_i e;rw[S a _ e];exact h
  .rename_i e;rw[S a _ e];exact h
  .cases h
 |_=>exact h
noncomputable def rQ(n:Nat):V->Prop|.int k=>0<=k/\k<n|_=>False
noncomputable def Odd(H:Hp)(v:V):Prop:=∃t,tyS H v=some t
theorem Odd.same{H H':Hp}{v:V}(h:Odd H v)(S:Same H H'):Odd H' v:=h.imp λ_ z=>Kg S z
theorem Q7{H:Hp}{v:V}{t:String}(h:tyS H v=some t)(n:∀k,v≠.int k):(t == "int")=false:=by
 cases v with
 |int k=>exact absurd rfl (n k)
 |ref a =>
  unfold tyS at h;dsimp only at h;split at h<;>cases h<;>rfl
 |_=>cases h<;>rfl
theorem XF{H:Hp}{a d:Addr}{o o' x:HO}(n:H a=none)(e:d≠a):out (upd (upd (upd H a o) a o') d x) a=upd H d x:=by
 funext b
 by_cases z:b=a
 .subst z;rw[JV,bL (Ne.symm e),n]
 .rw[rN z];by_cases y:b=d
  .subst y;rw[bI,bI]
  .rw[bL y,bL z,bL z,bL y]
theorem BK{C:Addr}{E:XK}{v:V}{t:TA}{R:Ends}{σ:L2.St}{H:Hp}(ht:∀Q:Κ->Hp->Prop,Q [v] H->t σ H Q)(e:∀d,H d=none->E (.ref C) (some d) (upd H d (.xd [("room",v)]))):zA C (mD C) (λC d _ H'=>E C d H') t R σ H :=
 ht _ ⟨(show 1<=sizeLine by decide),λa ha=>⟨a,v,rfl,bI,λd hd da=>⟨rfl,some d,(bL (Ne.symm da)).trans bI,(by rw[XF ha da];exact e d (by rw[bL da]at hd;exact hd))⟩⟩⟩
noncomputable def Dw(D:Adr):Sp:=λvs H Q E=>∃(o p:Addr)(v:V)(rms:List (Str×List Dr)),vs=[.ref o,v]/\gY D H o p rms/\Odd H v/\(rQ rms.length v->Q .non H)/\(¬rQ rms.length v->∀d,H d=none->E (.ref D.NoRoom) (some d) (upd H d (.xd [("room",v)])))
theorem BX(F:Fun K iJ iI gb f fd)(T:Txt K mg D)(cL:OkF P w K mg base 1 fG fB eO)(eF:OkI P w K mg base CX0 1 D.Hall_size gF (gU D))(oA:OkI P w K mg base CX0 1 D.NoRoom_init iZ (mD D.NoRoom)):cD P w K mg base (CXO P w) 3 f fd dH (Dw D):=by
 refine F.okX mX ?_ ?_
 .rintro _ _ _ _ ⟨o,p,v,rms,rfl,_⟩;rfl
 .rintro cdv A outer s H _ Q E hr ⟨o,p,v,rms,rfl,hh,ov,q,e⟩;refine⟨_,(bM (dB (PW.pt (pw_or (cT (cQ (bO cL hr.md (by rfl) (bD (pv 1) bF)) (λ_=>rfl))) (pw_or1 (cT (Bp Jm Bc bG (pv 1) (PE.any λC(hC:dI D C)=>(tK (pv 0) (T.cl C hC.fam) (T.qx C hC) eF hr.md)))))))
    (bM (xP rfl (by rfl) T.Ke T.xi_NoRoom oA hr.md wV (bD (pv 1) bF)))
    cG)),?_⟩
  unfold eO gU
  walk_at "rd"
  have no:¬rQ rms.length v->zA D.NoRoom (mD D.NoRoom) (λC d x H'=>E C d H') (uh (Iz 1) xU) { nx:=λx H'=>Q V.non H',rt:=Q } [some (V.ref o),some v] H:=λz=>BK (λQ r=>⟨_,rfl,r⟩) (e z);by_cases iv:∃k,v=.int k
  .obtain⟨k,rfl⟩:=iv;refine⟨_,rfl,?_⟩;rw[ZZ (by decide)];refine⟨k,rfl,?_⟩;by_cases k0:0<=k
   .rw[ZY (Zs k0)];have hI:=hh;obtain⟨dx,n,l,zs,ho,hn,hl,of_⟩:=hI;refine⟨D.Hall,(by unfold dI;simp),dx,_,ho,rfl,p,rms,hh,k,rfl,?_⟩;by_cases k1:k<rms.length
    .rw[ZZ (by simp[k1])];exact q ⟨k0,k1⟩
    .rw[ZY (by simp[k1])];exact no λz=>k1 z.2
   .rw[ZZ (by simp[k0])];exact no λz=>k0 z.1
  .obtain⟨t,et⟩:=ov;refine⟨t,et,?_⟩;rw[Q7 et λk z=>iv ⟨k,z⟩];exact no λz=>by
    cases v with
    |int k=>exact iv ⟨k,rfl⟩
    |_=>exact z
structure xg(rms:List (Str×List Dr)):Prop where
 len:rms.length<=20
 few:∀g∈rms,g.2.length<=100
 ways:∀g∈rms,∀d∈g.2,d.ws.length<=100
noncomputable def pY(v:V)(m:Nat):Bool:=if m=0 then decide (v=.non)else match v with
 |.int i=>decide (0<=i)&&decide (i<m)
 |_=>false
noncomputable def NK:Sp:=λvs H Q _=>∃(v:V)(m:Nat),vs=[v,.int m]/\Odd H v/\Q (.bl (pY v m)) H
theorem XS(F:Fun K yP yP Kz f fd)(T:Txt K mg D)(cL:OkF P w K mg base 1 fG fB eO):cD P w K mg base CX0 2 f fd zy NK:=by
 refine F.ok V6 ?_ ?_
 .rintro _ _ _ _ ⟨v,m,rfl,_⟩;rfl
 .rintro cdv A outer s H _ Q E hr ⟨v,m,rfl,⟨t,ot⟩,q⟩;refine⟨_,(bH (dB (cU qF (pv 1) bG (cH _))
    (bM (b_ (h_ Hu (pv 0) gZ (cH _))))
    cG)
   (bM (b_ (nQ (bO cL hr.md (by rfl) (bD (pv 0) bF)) (sW (Il Jm Bc bG (pv 0) (pv 1))))))),?_⟩
  unfold pY at q;refine bQ λR1 hR1=>?_;refine cW ⟨_,rfl,rfl,decide (m=0),ZH V.bl (decide_eq_decide.mpr ?_),?_⟩
  .constructor
   .intro z;injection z with z;lia
   .intro z;rw[z];rfl
  by_cases m0:m=0
  .rw[ZY m0]at q;rw[Zs m0];exact⟨_,rfl,rfl,q⟩
  .rw[ZZ m0]at q;rw[Zp m0];show R1 _ _ _;subst hR1;refine eY ⟨_,rfl,v,t,rfl,ot,_,rfl,?_⟩;by_cases iv:∃k,v=.int k
   .obtain⟨k,rfl⟩:=iv;cases ot;rw[ZY (by decide)];have q:Q (V.bl (decide (0<=k)&&decide (k<m))) H:=q;refine⟨_,rfl,0,k,rfl,rfl,decide (0<=k),rfl,?_⟩;by_cases k0:0<=k
    .rw[Zs k0]at q ⊢;exact⟨_,rfl,_,_,rfl,rfl,q⟩
    .rw[Zp k0]at q ⊢;exact q
   .rw[Q7 ot λk z=>iv ⟨k,z⟩];cases v with
    |int k=>exact absurd ⟨k,rfl⟩ iv
    |_=>exact q
theorem nG{H:Hp}{a:Addr}{xs:Κ}(h:H a=some (.lst xs)):tyS H (.ref a)=some "list" := by
 unfold tyS;dsimp only;rw[h]
noncomputable def dnR(rms:List (Str×List Dr))(k:Nat):Nat:=((rms[k]?).map (·.2.length)).getD 0
noncomputable def zO(D:Adr):Sp:=λvs H Q E=>∃(o p:Addr)(v:V)(rms:List (Str×List Dr)),vs=[.ref o,v]/\gY D H o p rms/\xg rms/\Odd H v /\
 ((∃(l:Addr)(xs:Κ),v=.ref l/\H l=some (.lst xs)/\xs.length=rms.length/\(∀x∈xs,Odd H x) /\
   (((∀k x,xs[k]?=some x->pY x (dnR rms k)=true)/\∀H',Same H H'->Q (.bl true) H')
   \/ ∃(k:Nat)(x:V),xs[k]?=some x/\pY x (dnR rms k)=false/\(∀j y,j<k->xs[j]?=some y->pY y (dnR rms j)=true)/\∀d H',Same H H'->H d=none->H' d=some (.xd [("room",.int (k:Nat))])->E (.ref D.NoPlan) (some d) H'))
 \/ ((∀l xs,v=.ref l->H l=some (.lst xs)->xs.length≠rms.length)/\∀d H',Same H H'->H d=none->H' d=some (.xd [("room",.non)])->E (.ref D.NoPlan) (some d) H'))
theorem Uq{H:Hp}{v:V}(h:tyS H v=some "list"):∃l xs,v=.ref l/\H l=some (.lst xs):=by
 cases v with
 |ref a =>
  unfold tyS at h;dsimp only at h;split at h
  .rename_i e;exact⟨a,_,rfl,e⟩
  all_goals first|cases h;done|exact absurd (Option.some.inj h) (by decide)
 |_=>first|cases h;done|exact absurd (Option.some.inj h) (by decide)
theorem Ae(F:Fun K j8 j8 qy f fd)(T:Txt K mg D)(Ms:OkF P w K mg base 2 yP zy NK)(eF:OkI P w K mg base CX0 1 D.Hall_size gF (gU D))(fX:OkI P w K mg base CX0 3 D.Hall_offers gq (mU D))(jO:OkI P w K mg base CX0 1 D.NoPlan_init ji (mD D.NoPlan)):cD P w K mg base (CXO P w) 4 f fd jU (zO D):=by
 refine F.okX ou ?_ ?_
 .rintro _ _ _ _ ⟨o,p,v,rms,rfl,_⟩;rfl
 .rintro cdv A outer s H _ Q E hr ⟨o,p,v,rms,rfl,hh,few,⟨ty,ov⟩,cs⟩;have hI:=hh;obtain⟨dx,nn,ll,zs0,ho,hn,hll,of_⟩:=hI;refine⟨_,(bH (dB (PW.pt (pw_or (cT (cQ (bW gk (by rfl) T.cB boot_isinstance (bD (pv 1) (bD (iz (v:=.ty "list") (by rfl) T.oH boot_list rfl) bF))) (λ_=>rfl))) (pw_or1 (cU El (bW d9 (by rfl) T.iT PySem.boot_len (bD (pv 1) bF)) (PE.any λC(hC:dI D C)=>(tK (pv 0) (T.cl C hC.fam) (T.qx C hC) eF hr.md)) (cH _)))))
    (bM (xP rfl (by rfl) T.zP T.xi_NoPlan jO hr.md wV (bD gZ bF)))
    cG)
   (bH (fQ PassesOwn.leaving rfl (MN (by rfl) T.yr (bD (pv 1) bF).mono) (fj (n:=2) rfl (cC (cF (i:=2) ou.nd rfl (Or.inl rfl)) (cC (cF (i:=3) ou.nd rfl (Or.inl rfl)) eN)))
    (bM (dB (cT (cQ (bO Ms hr.md (by rfl) (bD (pv 3) (bD (bW d9 (by rfl) T.iT PySem.boot_len (bD (PE.any λC(hC:dJ D C)=>(A_ (pv 0) (T.cl C hC.fam) (T.rK C hC) fX hr.md (bD (pv 2) bF))) bF)) bF))) (λ_=>rfl)))
     (bM (xP rfl (by rfl) T.zP T.xi_NoPlan jO hr.md wV (bD (pv 2) bF)))
     cG)))
   (bM (b_ mF)))),?_⟩
  refine bQ λR1 hR1=>?_;have no:∀(k:V)(ta:TA)(R:Ends)(σ:L2.St)(H1:Hp),Same H H1->(∀Q:Κ->Hp->Prop,Q [k] H1->ta σ H1 Q)->(∀d H',Same H H'->H d=none->H' d=some (.xd [("room",k)])->E (.ref D.NoPlan) (some d) H')->zA D.NoPlan (mD D.NoPlan) (λC d x H'=>E C d H') ta R σ H1:=λk ta R σ H1 S ht e=>BK ht λd hd=>e d _ (S.trans (Same.upd hd)) (Same.free S hd) bI;refine cW ⟨_,rfl,v,_,ty,rfl,by simp,ov,_,rfl,?_⟩;dsimp only;have rf:Same H H:=λ_ _ z=>z;by_cases tl:ty = "list"
  .subst tl;obtain⟨l,xs,rfl,hl⟩:=Uq ov;rw[ZZ (by decide)];refine⟨_,rfl,l,xs,rfl,hl,D.Hall,(by unfold dI;simp),_,rfl,o,dx,_,rfl,ho,rfl,o,p,rms,rfl,hh,rfl,!decide (xs.length=rms.length),?_,?_⟩
   .exact ZH (λb=>V.bl (!b)) (decide_eq_decide.mpr ⟨λz=>by injection z with z;lia,λz=>by rw[z]⟩)
   rcases cs with⟨l',xs',e1,hl',ln,ox,cs⟩|⟨nl,e⟩
   .cases e1;rw[hl]at hl';cases hl';rw[Zs ln];show R1 _ _ _;subst hR1;refine bQ λR1 hR1=>?_;refine cW (KR ⟨_,rfl,l,xs,rfl,hl,λk σ H'=>∃u1 u2,σ=[some (.ref o),some (.ref l),u1,u2]/\Same H H'/\∀j x,j<k->xs[j]?=some x->pY x (dnR rms j)=true,⟨none,none,rfl,rf,λj x z=>absurd z (Nat.not_lt_zero _)⟩,?_,?_⟩)
    .rintro k x σ' H' t hk ⟨u1,u2,rfl,S1,fit⟩ hl' ht;have S2:Same H' (upd H' t (.tup [.int k,x])):=Same.upd ht;have e2:upd H' t (.tup [.int k,x]) t=some (.tup [.int k,x]):=bI;generalize upd H' t (.tup [.int k,x])=H2 at S2 e2 ⊢;have SS:=S1.trans S2;have lk:k<rms.length:=by rw[<- ln];exact(ao.mp hk).1
     have eg:rms[k]?=some rms[k]:=aj lk;have gm:=aU lk;have dk:dnR rms k=rms[k].2.length:=by unfold dnR;rw[eg];rfl
     have hl2:=S2 _ _ hl';refine⟨t,_,rfl,e2,rfl,_,_,rfl,_,_,rfl,rfl,_,rfl,D.Hall,(by unfold dJ;simp),_,rfl,o,dx,_,rfl,SS _ _ ho,rfl,_,rfl,o,p,k,rms,rms[k],rfl,hh.same SS,eg,few.few _ gm,few.ways _ gm,λr H3 zs S3 f3 h3 of3=>⟨r,zs,rfl,h3,x,rms[k].2.length,by rw[(of3 [] (λ_ z=>by cases z)).len],(ox x (aB hk)).same (SS.trans S3),pY x (dnR rms k),by rw[dk];rfl,?_⟩⟩;have S13:=SS.trans S3;have go:pY x (dnR rms k)=true->H3 l=some (.lst xs)/\∃v1 v2,[some (V.ref o),some (V.ref l),some (V.int (k:Nat)),some x]=[some (.ref o),some (.ref l),v1,v2]/\Same H H3/\∀j x,j<k+1->xs[j]?=some x->pY x (dnR rms j)=true:=λz=>⟨S3 _ _ hl2,_,_,rfl,S13,λj y hj ey=>by
      by_cases e:j=k
      .subst e;rw[hk]at ey;cases ey;exact z
      .exact fit j y (XX (Nat.le_of_lt_succ hj) e) ey⟩
     rcases cs with⟨al,q⟩|⟨k0,x0,ek0,nf,bf,e⟩
     .have z:=al k x hk;rw[z]at go ⊢;exact go rfl
     .by_cases kk:k=k0
      .subst kk;rw[hk]at ek0;cases ek0;rw[nf];dsimp only;rw[ZY (show(!false)=true from rfl)];exact no (.int (k:Nat)) (uh (Iz 2) xU) _ _ _ S13 (λQ r=>⟨_,rfl,r⟩) e
      .by_cases kl:k<k0
       .have z:=bf k x kl hk;rw[z]at go ⊢;exact go rfl
       .have:=fit k0 x0 (by lia) ek0;rw[nf]at this;cases this
    .rintro σ' H' ⟨u1,u2,rfl,S1,fit⟩ _;subst hR1;rcases cs with⟨al,q⟩|⟨k0,x0,ek0,nf,bf,e⟩
     .exact q _ S1
     .have:=fit k0 x0 (ao.mp ek0).1 ek0;rw[nf]at this;cases this
   .rw[Zp (nl l xs rfl hl)];rw[ZY (show(!false)=true from rfl)];exact no .non (uh (tC .non) xU) _ _ _ rf (λQ r=>r) e
  .rw[ZY (by simp[Lh,tl])];rw[ZY rfl];rcases cs with⟨l',xs',rfl,hl',_⟩|⟨nl,e⟩
   .rw[nG hl']at ov;exact absurd (Option.some.inj ov).symm tl
   .exact no .non (uh (tC .non) xU) _ _ _ rf (λQ r=>r) e
noncomputable def stV:Option Nat->V
 |some k=>.int (k:Nat)
 |none=>.non
noncomputable def vl(f:Η):Rat:=(f.1:Rat)/(f.2:Rat)
theorem dR{x:Int}(h:0<x):(x:Rat)≠0:=λz=>by
 have:=Rat.intCast_inj.mp (z.trans Rat.intCast_zero.symm);lia
theorem Ye{x y:Η}(hx:0<x.2)(hy:0<y.2)(h:x.1*y.2=y.1*x.2):vl x=vl y:=by
 have e:(x.1:Rat)*(y.2:Rat)=(y.1:Rat)*(x.2:Rat):=by rw[<- XV,<- XV,h]
 have:=dR hx;have:=dR hy;unfold vl
 grind
theorem Vn{x y:Η}(hx:0<x.2)(hy:0<y.2)(h:vl x=vl y):x.1*y.2=y.1*x.2:=by
 have h1:=dR hx;have h2:=dR hy;unfold vl at h;refine Rat.intCast_inj.mp ?_;rw[XV,XV]
 grind
theorem Low.vl{t b x y:Int}(h:Low t b x y)(hb:0<b):vl (x,y)=vl (t,b):=Ye h.pos hb h.eq
theorem Va{x y u v:Int}(hy:0<y)(hv:0<v):vl (x*v+u*y,y*v)=vl (x,y)+vl (u,v):=by
 have:=dR hy;have:=dR hv;show((x*v+u*y:Int):Rat)/((y*v:Int):Rat)=(x:Rat)/(y:Rat)+(u:Rat)/(v:Rat);rw[Rat.intCast_add,XV,XV,XV]
 grind
theorem Ce(x:Int):vl (x,1)=(x:Rat):=by
 show(x:Rat)/((1:Int):Rat)=x;rw[Rat.intCast_one]
 grind
noncomputable def Bn(n:Nat)(x:Int):Prop:=x.natAbs<=10^n
theorem Bn.up{a b:Nat}{x:Int}(h:Bn a x)(l:a<=b):Bn b x:=aL h (XU (by decide) l)
theorem Bn.mul{a b:Nat}{x y:Int}(h:Bn a x)(g:Bn b y):Bn (a+b) (x*y):=by
 unfold Bn;rw[Int.natAbs_mul,Nat.pow_add];exact Nat.mul_le_mul h g
theorem Bn.add{a:Nat}{x y:Int}(h:Bn a x)(g:Bn a y):Bn (a+1) (x+y):=by
 have h:x.natAbs<=10^a:=h;have g:y.natAbs<=10^a:=g;unfold Bn;rw[Nat.pow_succ];omega
theorem Bn.bd{n:Nat}{x:Int}(h:Bn n x)(l:n<=2400):Bd x:=Y3 (h.up l) (by decide +kernel)
structure Ik(K:Frag)(H:Hp)(t:Addr)(f:Η)(cs:Θ):Prop where
 ex:∃(nm:Str)(p r:Addr)(ys:Κ),H t=some (.tup [.str nm,.ref p,.ref r])/\H p=some (.tup [.int f.1,.int f.2])/\H r=some (.lst ys)/\ys.length=cs.length/\∀(k:Nat)c,cs[k]?=some c->∃tt a,ys[k]?=some (.ref tt)/\H tt=some (.tup [.int (c.1:Nat),.ref a])/\SqT K H a [.int c.2.1,.int c.2.2]
theorem Ik.same{H H':Hp}{t:Addr}{f:Η}{cs:Θ}(h:Ik K H t f cs)(S:Same H H'):Ik K H' t f cs:=by
 obtain⟨nm,p,r,ys,a,b,c,d,e⟩:=h.ex;refine⟨nm,p,r,ys,S _ _ a,S _ _ b,S _ _ c,d,λk z ez=>?_⟩;obtain⟨tt,a2,x1,x2,x3⟩:=e k z ez;exact⟨tt,a2,x1,S _ _ x2,S.tup x3⟩
noncomputable def chF(cs:Θ):Φ:=cs.map (·.2)
noncomputable def Rk(cs:Θ)(g:Nat->Rat):Rat:=(cs.map λc=>vl c.2*g c.1).sum
structure Ed(n:Nat)(f:Η)(cs:Θ):Prop where
 pay:0<f.2/\Bn 40 f.1/\Bn 40 f.2
 few:cs.length<=41
 ch:∀c∈cs,c.1<n/\Fq c.2
 lv:Bn 60 (lvB (chF cs):Nat)
inductive Ko(K:Frag)(D:Adr)(vs:Κ)(H:Hp)(Q:VK):Prop
 |mk (o p t lv T:Addr) (rms:List (Str×List Dr)) (s f:Η) (cs:Θ) (Ts:List Int) (W:Int) (h0:vs=[.ref o,.ref t,.ref lv]) (h1:gY D H o p rms) (h2:H p=some (.tup [.int s.1,.int s.2])) (h3:0<s.2) (h4:Bn 40 s.1) (h5:Bn 40 s.2) (h6:Ik K H t f cs) (h7:Ed Ts.length f cs) (h8:H lv=some (.tup [.ref T,.int W])) (h9:H T=some (.lst (Ts.map V.int))) (h10:0<W) (h11:Bn 600 W) (h12:(∀x∈Ts,Bn 640 x)) (h13:∀r z y H',Same H H'->H r=none->H' r=some (.tup [.int z,.int y])->0<y->Bn 830 z->Bn 140 y->vl (z,y)=vl f*(W:Rat)+vl s*Rk cs (λr=>(Ts.getD r 0:Rat))->Q (.ref r) H'):Ko K D vs H Q
structure DrN(K:Frag)(H:Hp)(ns:Ξ)(d:Dr)(f:Η)(cs:Θ):Prop where
 pay:H d.p=some (.tup [.int f.1,.int f.2])
 len:d.ws.length=cs.length
 at_:∀(k:Nat)g c,d.ws[k]?=some g->cs[k]?=some c->ns[c.1]?=some g.1/\SqT K H g.2 [.int c.2.1,.int c.2.2]
theorem DrN.same{H H':Hp}{ns:Ξ}{d:Dr}{f:Η}{cs:Θ}(h:DrN K H ns d f cs)(S:Same H H'):DrN K H' ns d f cs:=⟨S _ _ h.pay,h.len,λk g c e1 e2=>⟨(h.at_ k g c e1 e2).1,S.tup (h.at_ k g c e1 e2).2⟩⟩
theorem pH{ns:Ξ}(nd:ns.Nodup){i j:Nat}{n:Str}(h1:ns[i]?=some n)(h2:ns[j]?=some n):i=j:=by
 exact(List.getElem?_inj (ao.mp h1).1 nd).mp (h1.trans h2.symm)
theorem m_.offN{ns:Ξ}(nd:ns.Nodup){H:Hp}{zs:Κ}{gs:List Dr}(h:m_ ns H zs gs){k:Nat}{d:Dr}(e:gs[k]?=some d){f:Η}{cs:Θ}(hd:DrN K H ns d f cs):∃t,zs[k]?=some (.ref t)/\Ik K H t f cs:=by
 obtain⟨t,r,ys,a,b,c,w⟩:=h.at_ k d e;refine⟨t,a,d.nm,d.p,r,ys,b,hd.pay,c,by rw[w.len,hd.len],λj g eg=>?_⟩;have lj:j<d.ws.length:=by rw[hd.len];exact(ao.mp eg).1
 have ew:d.ws[j]?=some d.ws[j]:=aj lj;obtain⟨tt,i,x1,x2,x3⟩:=w.at_ j _ ew;obtain⟨y1,y2⟩:=hd.at_ j _ g ew eg;cases pH nd x2 y1;exact⟨tt,_,x1,x3,y2⟩
structure QM(K:Frag)(H:Hp)(ns:Ξ)(n:Nat)(gs:List Dr)(fcs:Δ):Prop where
 len:gs.length=fcs.length
 at_:∀(k:Nat)d fc,gs[k]?=some d->fcs[k]?=some fc->DrN K H ns d fc.1 fc.2/\Ed n fc.1 fc.2
structure Dy(K:Frag)(D:Adr)(H:Hp)(o:Addr)(s:Η)(fcss:Γ):Prop where
 ex:∃(p:Addr)(rms:List (Str×List Dr)),gY D H o p rms/\xg rms/\(rms.map (·.1)).Nodup/\H p=some (.tup [.int s.1,.int s.2])/\fcss.length=rms.length/\∀(k:Nat)g fcs,rms[k]?=some g->fcss[k]?=some fcs->QM K H (rms.map (·.1)) fcss.length g.2 fcs
 s0:0<s.2
 b1:Bn 40 s.1
 b2:Bn 40 s.2
 n12:fcss.length<=12
theorem QM.same{H H':Hp}{ns:Ξ}{n:Nat}{gs:List Dr}{fcs:Δ}(S:Same H H')(h:QM K H ns n gs fcs):QM K H' ns n gs fcs:=⟨h.len,λk d fc e1 e2=>⟨(h.at_ k d fc e1 e2).1.same S,(h.at_ k d fc e1 e2).2⟩⟩
theorem Dy.same{H H':Hp}{o:Addr}{s:Η}{fcss:Γ}(S:Same H H')(h:Dy K D H o s fcss):Dy K D H' o s fcss:=by
 obtain⟨p,rms,a,b,c,d,e,f⟩:=h.ex;exact⟨⟨p,rms,a.same S,b,c,S _ _ d,e,λk g fcs e1 e2=>(f k g fcs e1 e2).same S⟩,h.s0,h.b1,h.b2,h.n12⟩
theorem jY{α:Type}{l:List α}{a b:α}{k:Nat}(h:(l++[a])[k]?=some b):(k<l.length/\l[k]?=some b)\/(k=l.length/\b=a):=by
 by_cases hk:k<l.length
 .rw[aD hk]at h;exact .inl ⟨hk,h⟩
 .have hl:=(ao.mp h).1;rw[aA,List.length_cons,List.length_nil]at hl;have e:k=l.length:=by lia
  subst e;rw[aC (aF _),Nat.sub_self]at h;cases h;exact .inr ⟨rfl,rfl⟩
theorem m7{as:Β}{H:Hp}{a:Addr}{u:HO}(h:a∈as):del as (upd H a u)=del as H:=by
 funext b
 unfold del;split
 .rfl
 .rename_i hb
  exact bL λz=>hb (z ▸ h)
theorem g_{H H':Hp}{p:Addr}{o:HO}(hp:H p=none)(S:Same H H'):Same H (upd H' p o):=λb u hb=>by
 rw[bL (bK hb hp)];exact S b u hb
theorem Same.sql{K:Frag}{H H':Hp}{a:Addr}{xs:Κ}(S:Same H H')(h:SqL K H a xs):SqL K H' a xs:=by
 rcases h with(h|⟨o,h⟩)|h
 .exact .inl (.inl (S _ _ h))
 .exact .inl (.inr ⟨o,S _ _ h⟩)
 .exact .inr h
theorem yR{α:Type} : ∀{l:List α},l.length=2->∃a b,l=[a,b]
 |[a,b],_=>⟨a,b,rfl⟩
theorem kJ{a b c:Rat}(p:0<c):a<=b/c↔a*c<=b:=by rw[<- Rat.not_lt,Rat.div_lt_iff p,Rat.not_lt]
theorem vQ{a b c:Rat}(p:0<c):b/c<=a↔b<=a*c:=by rw[<- Rat.not_lt,Rat.lt_div_iff p,Rat.not_lt]
noncomputable def IsI(q:Rat):Prop:=∃z:Int,q=(z:Rat)
theorem IsI.add{p q:Rat}(h:IsI p)(g:IsI q):IsI (p+q):=by
 obtain⟨a,rfl⟩:=h;obtain⟨b,rfl⟩:=g;exact⟨a+b,(Rat.intCast_add a b).symm⟩
theorem Er{f:Η}{N:Nat}(h0:0<f.2)(h:f.2 ∣ (N:Int)):IsI (vl f*((N:Int):Rat)):=by
 obtain⟨d,e⟩:=h;refine⟨f.1*d,?_⟩;have:=dR h0;rw[e,XV,XV];unfold vl
 grind
theorem uO{g:Η}{N:Nat}(h0:0<g.2)(hg:Int.gcd g.1 g.2=1)(h:IsI (vl g*((N:Int):Rat))):g.2 ∣ (N:Int):=by
 obtain⟨z,e⟩:=h;have h1:=dR h0;have e2:g.1*(N:Int)=z*g.2:=by
  refine Rat.intCast_inj.mp ?_;rw[XV,XV,<- e];unfold vl
  grind
 have c:Nat.Coprime g.2.natAbs g.1.natAbs:=by rw[Nat.coprime_comm];exact hg
 have d:g.2.natAbs ∣ g.1.natAbs*N:=by
  have:g.2.natAbs ∣ (g.1*(N:Int)).natAbs:=Int.natAbs_dvd_natAbs.mpr ⟨z,by rw[e2,Int.mul_comm]⟩;rwa[Int.natAbs_mul,XT]at this
 exact Int.natAbs_dvd.mp (Int.natCast_dvd_natCast.mpr (c.dvd_of_dvd_mul_left d))
noncomputable def Wn(B q:Rat):Prop:=-B<=q/\q<=B
theorem Yg{f:Η}{B:Nat}(h0:0<f.2)(h:f.1.natAbs<=B*f.2.natAbs):Wn ((B:Int):Rat) (vl f):=by
 have p:(0:Rat)<(f.2:Rat):=Rat.intCast_pos.mpr h0;have e:((f.2.natAbs:Nat):Int)=f.2:=by exact Int.natAbs_of_nonneg (XY h0)
 have h':((f.1.natAbs:Nat):Int)<=(B:Int)*f.2:=by rw[<- e,<- Int.natCast_mul];exact Int.ofNat_le.mpr h
 unfold vl;constructor
 .rw[kJ p,<- Rat.intCast_neg,<- XV,Rat.intCast_le_intCast,Int.neg_mul];lia
 .rw[vQ p,<- XV,Rat.intCast_le_intCast];lia
theorem Nh{f:Η}{B:Nat}(h0:0<f.2)(h:Wn ((B:Int):Rat) (vl f)):f.1.natAbs<=B*f.2.natAbs:=by
 have p:(0:Rat)<(f.2:Rat):=Rat.intCast_pos.mpr h0;have e:((f.2.natAbs:Nat):Int)=f.2:=by exact Int.natAbs_of_nonneg (XY h0)
 unfold vl at h;obtain⟨h1,h2⟩:=h;rw[kJ p,<- Rat.intCast_neg,<- XV,Rat.intCast_le_intCast,Int.neg_mul]at h1;rw[vQ p,<- XV,Rat.intCast_le_intCast]at h2;have:((f.1.natAbs:Nat):Int)<=((B*f.2.natAbs:Nat):Int):=by rw[Int.natCast_mul,e];omega
 exact Int.ofNat_le.mp this
theorem Wn.add{A B p q:Rat}(h:Wn A p)(g:Wn B q):Wn (A+B) (p+q):=by
 obtain⟨a,b⟩:=h;obtain⟨c,d⟩:=g;exact⟨by grind,by grind⟩
noncomputable abbrev FC:=Η×Θ
noncomputable def pick(fcss:List (List FC))(pl:List (Option Nat)):List (Option FC):=List.zipWith (λfcs o=>o.bind λj=>fcs[j]?) fcss pl
noncomputable def Qm(fcss:List (List FC))(pl:List (Option Nat)):Prop:=pl.length=fcss.length/\∀(k:Nat)fcs o,fcss[k]?=some fcs->pl[k]?=some o->(o=none->fcs=[])/\∀j,o=some j->j<fcs.length
theorem Ci{fcss:List (List FC)}{pl:List (Option Nat)}(h:Qm fcss pl):(pick fcss pl).length=fcss.length:=by
 unfold pick;rw[List.length_zipWith,h.1,Nat.min_self]
theorem FP{fcss:List (List FC)}{pl:List (Option Nat)}{k:Nat}{fcs:List FC}{o:Option Nat}(h:Qm fcss pl)(e1:fcss[k]?=some fcs)(e2:pl[k]?=some o):(o=none/\(pick fcss pl)[k]?=some none)\/∃j fc,o=some j/\fcs[j]?=some fc/\(pick fcss pl)[k]?=some (some fc):=by
 have e:(pick fcss pl)[k]?=some (o.bind λj=>fcs[j]?):=by
  unfold pick;rw[List.getElem?_zipWith,e1,e2]
 obtain⟨_,b⟩:=h.2 k fcs o e1 e2;cases o with
 |none=>exact .inl ⟨rfl,e⟩
 |some j =>
  have lj:=b j rfl;refine .inr ⟨j,fcs[j],rfl,aj lj,?_⟩;rw[e];show some (fcs[j]?)=_;rw[aj lj]
theorem wk{fcss:List (List FC)}{pl:List (Option Nat)}{fc:FC}(h:some fc∈pick fcss pl):∃fcs∈fcss,fc∈fcs:=by
 obtain⟨k,hk⟩:=aV h;unfold pick at hk;rw[List.getElem?_zipWith]at hk;cases e1:fcss[k]? with
 |none=>rw[e1]at hk;cases hk
 |some fcs =>
  rw[e1]at hk;cases e2:pl[k]? with
  |none=>rw[e2]at hk;cases hk
  |some o =>
   rw[e2]at hk;have hk:=Option.some.inj hk;cases o with
   |none=>cases hk
   |some j=>exact⟨fcs,aB e1,aB hk⟩
structure Chs(K:Frag)(n:Nat)(H:Hp)(zs:Κ)(cs:List (Option FC)):Prop where
 len:zs.length=cs.length
 at_:∀(k:Nat)c,cs[k]?=some c->(c=none/\zs[k]?=some .non)\/∃(t:Addr)(fc:FC),c=some fc/\zs[k]?=some (.ref t)/\Ik K H t fc.1 fc.2/\Ed n fc.1 fc.2
theorem Chs.same{n:Nat}{H H':Hp}{zs:Κ}{cs:List (Option FC)}(h:Chs K n H zs cs)(S:Same H H'):Chs K n H' zs cs:=⟨h.len,λk c e=>by
 rcases h.at_ k c e with z|⟨t,fc,a1,a2,a3,a4⟩
 .exact .inl z
 .exact .inr ⟨t,fc,a1,a2,a3.same S,a4⟩⟩
theorem yd{ta:TA}{te:TE}{gt:TG}{tc:TT}{n:Nat}{σ:L2.St}{H:Hp}{Q:VK}(h:ta σ H λvs H1=>∃a xs,vs=[.ref a]/\H1 a=some (.lst xs)/\xs.length<=64/\∀D,H1 D=none->∃J:Nat->Κ->Hp->Prop,J 0 [] (upd H1 D (.lst [])) /\
   (∀(k:Nat)x zs Hc t,xs[k]?=some x->J k zs Hc->zs.length<=k->Hc t=none->Hc a=some (.lst xs)->vf n gt tc te (.ref t) σ (upd Hc t (.tup [.int k,x])) (λv H2=>H2 D=some (.lst zs)/\H2 a=some (.lst xs)/\J (k+1) (zs++[v]) (upd H2 D (.lst (zs++[v])))) λH2=>H2 a=some (.lst xs)/\J (k+1) zs H2) /\
   ∀zs Hc,J xs.length zs Hc->zs.length<=xs.length->Q (.ref D) Hc):ju (Oo (tMA ta)) n (tMG gt) (tMT tc) (tM te) σ H Q:=by
 refine⟨_,h,?_⟩;rintro vs H1 ⟨a,xs,rfl,hx,h64,rest⟩;refine⟨a,xs,rfl,hx,λD hD=>?_⟩;obtain⟨J,j0,step,fin⟩:=rest D hD;have na:a≠D:=bK hx hD;have z64:64<=sizeLine:=by decide
 refine⟨λk m zs Hc=>k<=xs.length/\m=xs.length-k/\zs.length<=k/\Hc a=some (.lst xs)/\J k zs Hc,⟨_,bh _,rfl,bh _,(bL na).trans hx,j0⟩,?_⟩;rintro k m zs Hc ⟨hk,rfl,hz,ha',j⟩;by_cases e:k=xs.length
 .subst e;exact .inl ⟨⟨xs,ha',aF _⟩,fin zs Hc j hz⟩
 .have hlt:k<xs.length:=by exact XX hk e
  refine .inr ⟨⟨xs,ha',hlt⟩,?_⟩;rintro v H'' ⟨xs',x,t,e1,e3,e5,rfl,rfl⟩;rw[ha']at e1;cases e1;refine(step k x zs Hc t e3 j hz e5 ha').weak ?_ ?_
  .rintro yv H2 ⟨z1,z2,z4⟩;refine⟨by lia,z1,xs.length-(k+1),by lia,by exact hlt,rfl,?_,(bL na).trans z2,z4⟩;rw[aA];simp;omega
  .rintro H2 ⟨z2,z4⟩;exact⟨xs.length-(k+1),by lia,by exact hlt,rfl,by exact aL hz (XG _ _),z2,z4⟩
noncomputable def RM(K:Frag)(D:Adr):Sp:=λvs H Q _=>∃(o lp:Addr)(s:Η)(fcss:List (List FC))(pl:List (Option Nat)),vs=[.ref o,.ref lp]/\Dy K D H o s fcss/\H lp=some (.lst (pl.map stV))/\Qm fcss pl /\
 ∀l zs H',Same H H'->H l=none->H' l=some (.lst zs)->Chs K fcss.length H' zs (pick fcss pl)->Q (.ref l) H'
theorem yu(F:Fun K iy iy jr f fd)(T:Txt K mg D)(fX:OkI P w K mg base CX0 3 D.Hall_offers gq (mU D)):cD P w K mg base CX0 4 f fd iC (RM K D):=by
 refine F.ok yw ?_ ?_
 .rintro _ _ _ _ ⟨o,lp,s,fcss,pl,rfl,_⟩;rfl
 .rintro cdv A outer s H _ Q E hr ⟨o,lp,sh,fcss,pl,rfl,hn,hlp,fit,q⟩;obtain⟨p,rms,hh,few,nd,hp,fcl,dn⟩:=hn.ex;have n12:=hn.n12;have pll:=fit.1;obtain⟨dx,nn,ll,zs0,ho,_,_,_⟩:=id hh;refine⟨_,(bM (b_ (pF (bN jr) mz mz ["room", "door"] (MN (by rfl) T.yr (bD (pv 1) bF).mono) (fj (n:=2) rfl (cC (fZ (i:=0)) (cC (fZ (i:=1)) eN))) fL (Jo (cU Hu (pv 1) gZ (cH _)) gZ (bT bZ (PE.any λC(hC:dJ D C)=>(A_ (pv 2) (T.cl C hC.fam) (T.rK C hC) fX hr.md (bD (pv 0) bF))) (pv 1) (λ_ _=>rfl)))))),?_⟩;refine eY (yd ⟨_,rfl,lp,_,rfl,hlp,by rw[ak];lia,λD1 g1=>⟨λk zs Hc=>Same H Hc/\Hc D1=some (.lst zs)/\Chs K fcss.length (del [D1] Hc) zs ((pick fcss pl).take k),⟨Same.upd g1,bI,rfl,λk c e=>by simp at e⟩,?_,?_⟩⟩)
  .rintro k x zs Hc t hx ⟨S1,h1,ch⟩ zl ft hlp';have lk:k<pl.length:=by have:=(ao.mp hx).1;rwa[ak]at this
   have eo:pl[k]?=some pl[k]:=aj lk;have ef:fcss[k]?=some (fcss[k]'(aR lk (Nat.le_of_eq pll))):=aj _;have eg:rms[k]?=some (rms[k]'(by lia)):=aj _;have gm:rms[k]'(by lia)∈rms:=aU _;have dn:=dn k _ _ eg ef;have gf:=few.few _ gm;have gw:=few.ways _ gm;have pa:=FP fit ef eo;rw[aq,eo]at hx;cases hx;generalize rms[k]'(by lia)=g at *;generalize fcss[k]'(aR lk (Nat.le_of_eq pll))=fcs at *;generalize pl[k]=po at *;have S2:Same Hc (upd Hc t (.tup [.int k,stV po])):=Same.upd ft;have e2:upd Hc t (.tup [.int k,stV po]) t=some (.tup [.int k,stV po]):=bI;generalize upd Hc t (.tup [.int k,stV po])=H1 at S2 e2 ⊢;have SH:=S1.trans S2;have zk:zs.length=k:=by rw[ch.len,aZ,Ci fit];omega
   have fin:∀(v:V)(H2:Hp)(c:Option FC),Same H1 H2->(pick fcss pl)[k]?=some c->((c=none/\v=.non)\/∃(t:Addr)(fc:FC),c=some fc/\v=.ref t/\Ik K (del [D1] H2) t fc.1 fc.2/\Ed fcss.length fc.1 fc.2)->H2 D1=some (.lst zs)/\H2 lp=some (.lst (pl.map stV))/\Same H (upd H2 D1 (.lst (zs++[v])))/\upd H2 D1 (.lst (zs++[v])) D1=some (.lst (zs++[v]))/\Chs K fcss.length (del [D1] (upd H2 D1 (.lst (zs++[v])))) (zs++[v]) ((pick fcss pl).take (k+1)):=λv H2 c S3 ec cv=>by
    refine⟨S3 _ _ (S2 _ _ h1),S3 _ _ (S2 _ _ hlp'),λb u e=>(bL (bK e g1)).trans (S3 _ _ (SH _ _ e)),bI,?_⟩;rw[m7 (YR.mpr rfl)];have ch:=ch.same (H':=del [D1] H2) (mV λb o _ e=>S3 _ _ (S2 _ _ e));rw[cI ec];have ll:=ch.len;refine⟨by rw[aA,aA,ll];rfl,λi c' e=>?_⟩;rcases jY e with⟨a1,a2⟩|⟨a1,a2⟩
    .rcases ch.at_ i c' a2 with⟨z1,z2⟩|⟨t,fc,z1,z2,z3⟩
     .exact .inl ⟨z1,by rw[aD (by lia)];exact z2⟩
     .exact .inr ⟨t,fc,z1,by rw[aD (by lia)];exact z2,z3⟩
    .subst a2;have e:∀v:V,(zs++[v])[i]?=some v:=λv=>by rw[aC (by lia),show i-zs.length=0 by omega];rfl
     rcases cv with⟨z1,z2⟩|⟨t,fc,z1,z2,z3⟩
     .exact .inl ⟨z1,by rw[e,z2]⟩
     .exact .inr ⟨t,fc,z1,by rw[e,z2],z3⟩
   intro pre hpre;obtain⟨u,v,rfl⟩:=yR hpre;refine⟨t,_,rfl,e2,rfl,_,_,rfl,_,_,rfl,rfl,[_,_],rfl,rfl,?_⟩;rcases pa with⟨rfl,ep⟩|⟨j,fc,rfl,ej,ep⟩
   .exact⟨_,rfl,rfl,true,ZH V.bl (Zs rfl),fin .non H1 none (λ_ _ z=>z) ep (.inl ⟨rfl,rfl⟩)⟩
   .refine⟨_,rfl,rfl,false,ZH V.bl (Zp λz=>by cases z),D.Hall,(by unfold dJ;simp),_,rfl,o,dx,_,rfl,SH _ _ ho,rfl,_,rfl,o,p,k,rms,g,rfl,hh.same SH,eg,gf,gw,λr H4 os S4 f4 h4 of4=>?_⟩;have lj:j<g.2.length:=by rw[dn.len];exact(ao.mp ej).1
    have ed:g.2[j]?=some g.2[j]:=aj lj;obtain⟨dN,dF⟩:=dn.at_ j _ _ ed ej;have SD:Same H (del [D1] H4):=λb u e=>dW (by simp only[YR];exact bK e g1) (S4 _ _ (SH _ _ e));obtain⟨tt,et,oN⟩:=(of4 [D1] (by intro a ha;rw[YR.mp ha];exact⟨_,S2 _ _ h1,λys z=>by cases z⟩)).offN nd ed (dN.same SD);exact⟨_,rfl,r,_,(j:Nat),_,rfl,rfl,h4,cg (j:=j) et,fin (.ref tt) H4 (some fc) S4 ep (.inr ⟨tt,fc,rfl,rfl,oN,dF⟩)⟩
  .rintro zs Hc ⟨S1,h1,ch⟩ zl;rw[ak,pll,aK (by rw[Ci fit];exact aF _)]at ch;exact q D1 zs Hc S1 g1 h1 (ch.same pq)
structure yJ{α β:Type}(R:α->β->Prop)(xs:List α)(ys:List β):Prop where
 len:xs.length=ys.length
 at_:∀(k:Nat)(x:α)(y:β),xs[k]?=some x->ys[k]?=some y->R x y
theorem yJ.imp{α β:Type}{R S:α->β->Prop}{xs:List α}{ys:List β}(h:yJ R xs ys)(i:∀x y,R x y->S x y):yJ S xs ys:=⟨h.len,λk x y a b=>i x y (h.at_ k x y a b)⟩
theorem yJ.nil{α β:Type}{R:α->β->Prop} : yJ R [] []:=⟨rfl,λk x y a=>by simp at a⟩
theorem yJ.snoc{α β:Type}{R:α->β->Prop}{xs:List α}{ys:List β}{x:α}{y:β}(h:yJ R xs ys)(r:R x y):yJ R (xs++[x]) (ys++[y]):=by
 have l:=h.len;refine⟨by rw[aA,aA,l];rfl,λk u v a b=>?_⟩;rcases jY a with⟨a1,a2⟩|⟨a1,a2⟩<;>rcases jY b with⟨b1,b2⟩|⟨b1,b2⟩
 .exact h.at_ k u v a2 b2
 .lia
 .lia
 .subst a2;subst b2;exact r
noncomputable def nsJ{α:Type}(R:Hp->V->α->Prop)(D1:Addr)(tgt:List α)(H:Hp)(k:Nat)(ys:Κ)(H':Hp):Prop:=Same H H'/\H' D1=some (.lst ys)/\yJ (R (del [D1] H')) ys (tgt.take k)
theorem Dk{α:Type}{K:Frag}{i:Nat}{te:TE}{σ:L2.St}{H:Hp}{Q:VK}{a:Addr}{xs:Κ}(R:Hp->V->α->Prop)(tgt:List α)(mono:∀{H H':Hp}{v:V}{t:α},Same H H'->R H v t->R H' v t)(hσ:σ[i]?=some (some (.ref a)))(ha:H a=some (.lst xs))(l:xs.length=tgt.length)(sz:tgt.length<=sizeLine)
 (hb:∀(k:Nat)x t Hc D1 ys(R':VK),xs[k]?=some x->tgt[k]?=some t->Same H Hc->Hc D1=some (.lst ys)->(∀y H2,Same Hc H2->R (del [D1] H2) y t->R' y H2)->te (some x::σ) Hc R')
 (q:∀D Hc ys,Same H Hc->H D=none->Hc D=some (.lst ys)->yJ (R (del [D] Hc)) ys tgt->Q (.ref D) Hc):ju (Ef K (tM (Iz i))) 1 (tMG (cu 0)) (tMT Lw) (tM te) σ H Q:=by
 refine jw ⟨_,hσ,a,xs,rfl,ha,by exact aL (Nat.le_of_eq l) sz,λD1 hD=>⟨nsJ R D1 tgt H,⟨Same.upd hD,bI,.nil⟩,λk x ys Hc hk ⟨S1,h1,a1⟩ hy hc=>?_,λys Hc ⟨S1,h1,a1⟩ hy=>?_⟩⟩
 .have lk:k<tgt.length:=by rw[<- l];exact(ao.mp hk).1
  refine hb k x _ Hc D1 ys _ hk (aj lk) S1 h1 λy H2 S2 r=>⟨S2 _ _ h1,S2 _ _ hc,λb o z=>(bL (bK z hD)).trans (S2 _ _ (S1 _ _ z)),bI,?_⟩;rw[m7 (by simp),cI (aj lk)];exact(a1.imp λ_ _ z=>mono (mV λb o _ e=>S2 _ _ e) z).snoc r
 .rw[l,aO]at a1;exact q D1 Hc ys S1 hD h1 a1
noncomputable def pW(rms:List (Str×List Dr))(H:Hp)(v:V)(r:Option V):Prop :=
 (∃(l:Addr)(xs:Κ),v=.ref l/\H l=some (.lst xs)/\xs.length=rms.length/\(∀x∈xs,Odd H x) /\
  ((r=none/\∀k x,xs[k]?=some x->pY x (dnR rms k)=true)
  \/ ∃(k:Nat)(x:V),r=some (.int (k:Nat))/\xs[k]?=some x/\pY x (dnR rms k)=false/\∀j y,j<k->xs[j]?=some y->pY y (dnR rms j)=true))
 \/ (r=some .non/\∀l xs,v=.ref l->H l=some (.lst xs)->xs.length≠rms.length)
theorem Qn{o p:Addr}{v:V}{rms:List (Str×List Dr)}{r:Option V}{H:Hp}{Q:VK}{E:XK}(hh:gY D H o p rms)(few:xg rms)(ov:Odd H v)(h:pW rms H v r)(q:r=none->∀H',Same H H'->Q (.bl true) H')(e:∀u,r=some u->∀d H',Same H H'->H d=none->H' d=some (.xd [("room",u)])->E (.ref D.NoPlan) (some d) H'):zO D [.ref o,v] H Q E:=by
 refine⟨o,p,v,rms,rfl,hh,few,ov,?_⟩;rcases h with⟨l,xs,a1,a2,a3,a4,a5⟩|⟨e1,nl⟩
 .refine .inl ⟨l,xs,a1,a2,a3,a4,?_⟩;rcases a5 with⟨e1,al⟩|⟨k,x,e1,b1,b2,b3⟩
  .exact .inl ⟨al,q e1⟩
  .exact .inr ⟨k,x,b1,b2,b3,e _ e1⟩
 .exact .inr ⟨nl,e _ e1⟩
theorem KQ{te:TE}{g:TG}{D:Ends}{σ:L2.St}{H:Hp}(h:te σ H λx H1=>g x σ H1 D.nx):Fz te g D σ H:=h
noncomputable def oK(cs:Θ)(m:Nat):Rat:=Rk (cs.take m) λ_=>1
theorem DP{cs:Θ}{m:Nat}{c:Nat×Int×Int}(e:cs[m]?=some c):oK cs (m+1)=oK cs m+vl c.2:=by
 unfold oK;rw[cI e];unfold Rk;rw[bA,List.sum_append];show _+(vl c.2*1+0)=_
 grind
structure Jy(n M:Nat)(cs:Θ):Prop where
 M0:0<M
 M9:M<=10^6
 few:cs.length<=41
 one:oK cs cs.length=1
 ch:∀c∈cs,c.1<n/\0<c.2.2/\c.2.2 ∣ (M:Int)/\0<=c.2.1/\c.2.1<=c.2.2
structure qW(H:Hp)(l:Addr)(cs:Θ):Prop where
 ex:∃ys,H l=some (.lst ys)/\ys.length=cs.length/\∀(i:Nat)c,cs[i]?=some c->∃tt a g,ys[i]?=some (.ref tt)/\H tt=some (.tup [.int (c.1:Nat),.ref a])/\H a=some (.tup [.int g.1,.int g.2])/\0<g.2/\Bd g.1/\Bd g.2/\vl g=oK cs (i+1)
theorem qW.same{H H':Hp}{l:Addr}{cs:Θ}(h:qW H l cs)(S:Same H H'):qW H' l cs:=by
 obtain⟨ys,a,b,c⟩:=h.ex;refine⟨ys,S _ _ a,b,λi d e=>?_⟩;obtain⟨tt,p,g,x1,x2,x3,x4⟩:=c i d e;exact⟨tt,p,g,x1,S _ _ x2,S _ _ x3,x4⟩
noncomputable def Ja(K:Frag):Sp:=λvs H Q _=>∃(t:Addr)(f:Η)(cs:Θ)(n M:Nat),vs=[.ref t]/\Ik K H t f cs/\Jy n M cs/\∀l H',Same H H'->H l=none->qW H' l cs->Q (.ref l) H'
noncomputable def edJ(K:Frag)(t l:Addr)(M:Nat)(cs:Θ)(H:Hp)(k:Nat)(σ:L2.St)(H':Hp):Prop:=∃(a:Addr)(g:Η)(u v:Option V)(ys:Κ),σ=[some (.ref t),some (.ref l),some (.ref a),u,v]/\Same H H'/\SqT K H' a [.int g.1,.int g.2]/\0<g.2/\Int.gcd g.1 g.2=1/\g.2 ∣ (M:Int)/\Wn (((k:Nat):Int):Rat) (vl g)/\vl g=oK cs k/\H' l=some (.lst ys)/\ys.length=k/\∀(i:Nat)c,i<k->cs[i]?=some c->∃tt a g,ys[i]?=some (.ref tt)/\H' tt=some (.tup [.int (c.1:Nat),.ref a])/\H' a=some (.tup [.int g.1,.int g.2])/\0<g.2/\Bd g.1/\Bd g.2/\vl g=oK cs (i+1)
theorem JL(F:Fun K nA nA uH f fd)(T:Txt K mg D)(Ey:OkF P w K mg base 3 wO wj (G6 (K:=K) λa b=>a+b)):cD P w K mg base CX0 4 f fd nH (Ja K):=by
 refine F.ok iR ?_ ?_
 .rintro _ _ _ _ ⟨t,f,cs,n,M,rfl,_⟩;rfl
 .rintro cdv A outer s H _ Q E hr ⟨t,f,cs,n,M,rfl,of,dE,q⟩;obtain⟨nm,pp,rr,ys,o1,o2,o3,o4,o5⟩:=of.ex;refine⟨_,(bH (bU (i:=1) iR.nd rfl (Or.inl rfl) (dZ bF))
   (bH (bU (i:=2) iR.nd rfl (Or.inl rfl) (kO (by rfl) T.rY))
   (bH (fQ PassesOwn.never rfl (dD ((bT cA (pv 0) bG (λ_ _=>rfl))).mono) (fj (n:=2) rfl (cC (cF (i:=3) iR.nd rfl (Or.inl rfl)) (cC (cF (i:=4) iR.nd rfl (Or.inl rfl)) eN)))
    (bH (bU (i:=2) iR.nd rfl (Or.inl rfl) (bO Ey hr.md (by rfl) (bD (pv 2) (bD (pv 4) bF))))
    (bM (dh (kY (pv 1) (bD (dO (bD (pv 3) (bD (pv 2) bF))) bF))))))
   (bM (b_ (pv 1)))))),?_⟩
  refine bQ λR1 hR1=>?_;refine bY ⟨bh _,λl H1 S1 f1 h1=>?_⟩;subst hR1;refine bQ λR1 hR1=>?_;refine bY ?_;subst hR1;dsimp only[cu,L2.start,List.set_cons_succ,List.set_cons_zero];refine bQ λR1 hR1=>?_;refine cW (d_ ⟨_,rfl,t,_,2,_,rfl,rfl,S1 _ _ o1,cg (j:=2) rfl,rr,ys,rfl,S1 _ _ o3,edJ K t l M cs H,⟨D.NOUGHT,(0,1),none,none,[],rfl,S1,T.o9 _,by decide,by decide,Int.one_dvd _,Yg (by decide) (by decide),?_,h1,rfl,λi c z=>by lia⟩,?_,?_⟩)
  .show vl (0,1)=0;exact(Ce 0).trans Rat.intCast_zero
  .rintro k x σ' H2 hy ⟨a,g,u,v,zs,rfl,S2,sq,g0,g1,gM,gw,gv,hl,zl,za⟩ hrr;have lk:k<cs.length:=by rw[<- o4];exact(ao.mp hy).1
   have ek:=aj lk;obtain⟨tt,b,x1,x2,x3⟩:=o5 k _ ek;rw[hy]at x1;cases x1;have hc:=dE.ch _ (aU lk);have sn:=DP ek;obtain⟨c,ec⟩ : ∃c,cs[k]=c:=⟨_,rfl⟩;rw[ec]at hc sn x2 x3 ek;obtain⟨c1,c2,c3,c4,c5⟩:=hc;have M9:=dE.M9;have M0:=dE.M0;have few:=dE.few;have q1:=Int.le_of_dvd (by lia) c3;have q2:=Int.le_of_dvd (Int.lt_of_lt_of_le c2 q1) gM;have q3:=Nh g0 gw;have q4:=Nat.mul_le_mul (show k<=41 by exact aL (Y2 lk) few) (show g.2.natAbs<=10^6 by lia);have q5:=XZ g0 c2;have q6:(g.2*c.2.2).natAbs<=10^6*10^6:=by
    rw[Int.natAbs_mul];exact Nat.mul_le_mul (by lia) (by lia)
   refine⟨tt,_,rfl,S2 _ _ x2,rfl,_,_,rfl,_,_,rfl,rfl,?_⟩;dsimp only[List.set_cons_succ,List.set_cons_zero];refine bQ λR2 hR2=>?_;refine bY ⟨_,rfl,_,rfl,a,b,g.1,g.2,c.2.1,c.2.2,rfl,sq,S2.tup x3,Bd.sm (by lia),Bd.sm (by lia),Bd.sm (by lia),Bd.sm (by lia),g0,c2,Bd.sm (Y3 q6 (by decide)),λr z o lw f3=>?_⟩;have S3:Same H2 (upd H2 r (.tup [.int z,.int o])):=Same.upd f3;have e3:upd H2 r (.tup [.int z,.int o]) r=_:=bI;generalize upd H2 r (.tup [.int z,.int o])=H3 at S3 e3 ⊢;have vz:vl (z,o)=oK cs (k+1):=by rw[sn,<- gv,lw.vl q5,Va g0 c2]
   have wz:Wn (((k+1:Nat):Int):Rat) (vl (z,o)):=by
    have w1:Wn 1 (vl c.2):=by
     have p:(0:Rat)<(c.2.2:Rat):=Rat.intCast_pos.mpr c2;unfold vl;have a1:(0:Rat)<=(c.2.1:Rat)/(c.2.2:Rat):=by rw[kJ p,Rat.zero_mul];exact Rat.intCast_nonneg.mpr c4
     have a2:(c.2.1:Rat)/(c.2.2:Rat)<=1:=by rw[vQ p,Rat.one_mul,Rat.intCast_le_intCast];exact c5
     exact⟨by grind,a2⟩
    have e2:(((k+1:Nat):Int):Rat)=(((k:Nat):Int):Rat)+1:=by rw[Int.natCast_add k 1,Rat.intCast_add];rfl
    rw[vz,sn,<- gv,e2];exact gw.add w1
   have dz:o ∣ (M:Int):=uO lw.pos lw.gcd (by
    rw[vz,sn,<- gv,Rat.add_mul];exact(Er g0 gM).add (Er (f:=c.2) c2 c3))
   have o0:=lw.pos;have q7:=Int.le_of_dvd (Int.lt_of_lt_of_le g0 q2) dz;have q8:z.natAbs<=(k+1)*o.natAbs:=Nh (f:=(z,o)) lw.pos wz;have q9:=Nat.mul_le_mul (show k+1<=41 by lia) (show o.natAbs<=10^6 by lia);subst hR2;dsimp only[cu,List.set_cons_succ,List.set_cons_zero];refine⟨_,rfl,l,zs,rfl,S3 _ _ hl,_,rfl,_,rfl,fH,λt4 H4 S4 f4 h4=>⟨_,_,rfl,S4 _ _ (S3 _ _ hl),by rw[zl];exact aR (show k<64 by lia) (by decide),?_⟩⟩;have f0:H l=none:=f1;have S24:=S3.trans S4;have SH:=g_ (o:=.lst (zs++[.ref t4])) f0 (S2.trans S24);have nt:∀{p:Addr}{us:Κ},H4 p=some (.tup us)->upd H4 l (.lst (zs++[.ref t4])) p=some (.tup us):=λ{p us}e=>(bL (d7 e (S24 _ _ hl) (by intro z;cases z))).trans e;have eT:=nt (S4 _ _ e3);refine⟨SH _ _ o3,r,(z,o),_,_,_,rfl,SH,.of eT,lw.pos,lw.gcd,dz,wz,vz,bI,by rw[aA,zl];rfl,λi d hi e=>?_⟩;by_cases y:i=k
   .subst y;rw[ek]at e;cases e;exact⟨t4,r,(z,o),by rw[aC (Nat.le_of_eq zl),zl,Nat.sub_self];rfl,nt h4,eT,lw.pos,Bd.sm (by show z.natAbs<_;lia),Bd.sm (by show o.natAbs<_;lia),vz⟩
   .obtain⟨t5,a5,g5,y1,y2,y3,y4⟩:=za i d (XX (Nat.le_of_lt_succ hi) y) e;exact⟨t5,a5,g5,by rw[aD (by lia)];exact y1,nt (S24 _ _ y2),nt (S24 _ _ y3),y4⟩
  .rintro σ' H2 ⟨a,g,u,v,zs,rfl,S2,sq,g0,g1,gM,gw,gv,hl,zl,za⟩ hrr;subst hR1;dsimp only;exact eY ⟨_,rfl,q l H2 S2 f1 ⟨zs,hl,by rw[zl,o4],λi c e=>za i c (by rw[o4];exact(ao.mp e).1) e⟩⟩
noncomputable def Dj:Sp:=λvs H Q _=>∃(p:Addr)(a b:Int),vs=[.ref p]/\H p=some (.tup [.int a,.int b])/\0<b/\Bd b /\
 ∀q r,H r=none->upd H r (.tup [.int (a%b),.int b]) q=none->Q (.ref q) (upd (upd H r (.tup [.int (a%b),.int b])) q (.tup [.int (a/b),.ref r]))
theorem QB(F:Fun K tO tO zN f fd):cD P w K mg base CX0 1 f fd tU Dj:=by
 refine F.ok P0 ?_ ?_
 .rintro _ _ _ _ ⟨p,a,b,rfl,_⟩;rfl
 .rintro cdv A outer s H _ Q E hr ⟨p,a,b,rfl,hp,hb,hbd,q⟩;refine⟨_,(bM (b_ (oh (bD (bR dY (bT cA (pv 0) bG (λ_ _=>rfl)) (bT cA (pv 0) bG (λ_ _=>rfl))) (bD (oh (bD (bR je (bT cA (pv 0) bG (λ_ _=>rfl)) (bT cA (pv 0) bG (λ_ _=>rfl))) (bD (bT cA (pv 0) bG (λ_ _=>rfl)) bF))) bF))))),?_⟩
  walk_at "rd"
  simp only[hp]
  walk_at "rd"
  rw[mZ _ hb,Vs _ hb];exact⟨by exact Int.ne_of_gt hb,hbd,by exact Int.ne_of_gt hb,fH,λr hr=>⟨fH,λp1 hp1=>q p1 r hr hp1⟩⟩
noncomputable def Cd(cs:Θ)(q:Rat)(r:Nat):Prop:=∃(i:Nat)(c:Nat×Int×Int),cs[i]?=some c/\r=c.1/\q<oK cs (i+1)/\∀j,j<=i->oK cs j<=q
noncomputable def rbJ(D1:Addr)(cs:Θ)(q:Rat)(H:Hp)(k:Nat)(ys:Κ)(H':Hp):Prop:=Same H H'/\H' D1=some (.lst ys)/\((ys=[]/\∀j,j<=k->oK cs j<=q)\/∃r zs,ys=.int (r:Nat)::zs/\Cd cs q r)
noncomputable def xY:Sp:=λvs H Q _=>∃(l p:Addr)(x y:Int)(cs:Θ)(n M:Nat),vs=[.ref l,.ref p]/\qW H l cs/\Jy n M cs/\H p=some (.tup [.int x,.int y])/\0<y/\Bd y/\∀r H',Same H H'->Cd cs (vl (x%y,y)) r->Q (.int (r:Nat)) H'
theorem BP(F:Fun K iW iW j_ f fd)(T:Txt K mg D)(Bt:OkF P w K mg base 1 tO tU Dj)(jc:OkF P w K mg base 1 pI pB (o_ (K:=K))):cD P w K mg base CX0 2 f fd jy xY:=by
 refine F.ok su ?_ ?_
 .rintro _ _ _ _ ⟨l,p,x,y,cs,n,M,rfl,_⟩;rfl
 .rintro cdv A outer s H _ Q E hr ⟨l,p,x,y,cs,n,M,rfl,ed,dE,hp,y0,b_y,q⟩;refine⟨_,(bH (bU (i:=2) su.nd rfl (Or.inr rfl) (bT cA (bO Bt hr.md (by rfl) (bD (pv 1) bF)) bG (λ_ _=>rfl)))
   (bM (b_ (bT bZ (pF (bN j_) nR nR ["room", "reached"] (dD ((pv 0)).mono) (fj (n:=2) rfl (cC (fZ (i:=0)) (cC (fZ (i:=1)) eN))) (Om (cQ (bO jc hr.md (by rfl) (bD (pv 4) (bD (pv 1) bF))) (λ_=>rfl))) (pv 0)) bG (λ_ _=>rfl))))),?_⟩
  refine bQ λR1 hR1=>?_;refine bY ⟨_,rfl,p,x,y,rfl,hp,y0,b_y,λr1 a1 fa fr=>⟨r1,_,1,_,rfl,rfl,bI,dX,?_⟩⟩;have S1:Same H (upd (upd H a1 (.tup [.int (x%y),.int y])) r1 (.tup [.int (x/y),.ref a1])):=(Same.upd fa).trans (Same.upd fr);have h2:=Same.upd fr (o:=.tup [.int (x/y),.ref a1]) _ _ (bI (H:=H) (a:=a1) (o:=.tup [.int (x%y),.int y]));generalize upd (upd H a1 (.tup [.int (x%y),.int y])) r1 (.tup [.int (x/y),.ref a1])=H1 at S1 h2 ⊢;subst hR1;dsimp only[cu,L2.start,List.set_cons_succ,List.set_cons_zero];obtain⟨ys,e1,e2,e3⟩:=(ed.same S1).ex;have few:=dE.few;have m0:=Z3 x (Int.ne_of_gt y0);have m1:=YY x y0;refine eY (kh ⟨_,rfl,l,ys,rfl,e1,by rw[e2];exact aL few (by decide),λD1 f1=>⟨rbJ D1 cs (vl (x%y,y)) H1,⟨Same.upd f1,bI,.inl ⟨rfl,λj hj=>?_⟩⟩,?_,?_⟩⟩)
  .have:j=0:=by exact Nat.eq_zero_of_le_zero hj
   subst this;show(0:Rat)<=_;unfold vl;rw[kJ (Rat.intCast_pos.mpr y0),Rat.zero_mul];exact Rat.intCast_nonneg.mpr m0
  .rintro k x' ys' Hc hk ⟨S2,h3,js⟩ hy hlc;have lk:k<cs.length:=by rw[<- e2];exact(ao.mp hk).1
   have ek:=aj lk;obtain⟨tt,a,g,x1,x2,x3,x4,x5,x6,x7⟩:=e3 k _ ek;rw[hk]at x1;cases x1;intro pre hpre;obtain⟨u,v,rfl⟩:=yR hpre;refine⟨tt,_,rfl,S2 _ _ x2,rfl,_,_,rfl,_,_,rfl,rfl,[_,_],rfl,rfl,?_⟩;refine⟨_,rfl,_,rfl,a1,a,x%y,y,g.1,g.2,rfl,.of (S2 _ _ h2),.of (S2 _ _ x3),Y3 (by lia) b_y,b_y,x5,x6,?_⟩;have iff:decide (x%y*g.2<g.1*y)=true↔vl (x%y,y)<oK cs (k+1):=by
    rw[<- x7,decide_eq_true_iff];unfold vl;have p1:(0:Rat)<(y:Rat):=Rat.intCast_pos.mpr y0;have p2:(0:Rat)<(g.2:Rat):=Rat.intCast_pos.mpr x4;have e:(g.1:Rat)/(g.2:Rat)*(y:Rat)=((g.1:Rat)*(y:Rat))/(g.2:Rat):=by grind
    rw[Rat.div_lt_iff p1,e,Rat.lt_div_iff p2,<- XV,<- XV,Rat.intCast_lt_intCast]
   refine⟨decide (x%y*g.2<g.1*y),rfl,?_⟩;by_cases z:vl (x%y,y)<oK cs (k+1)
   .rw[iff.mpr z];refine⟨_,rfl,h3,hlc,λb o e=>(bL (bK e f1)).trans (S2 _ _ e),bI,.inr ?_⟩;rcases js with⟨rfl,al⟩|⟨r,zs,rfl,ld⟩
    .exact⟨_,[],rfl,k,_,ek,rfl,z,al⟩
    .exact⟨r,zs++[_],rfl,ld⟩
   .rw[Bool.eq_false_iff.mpr λw=>z (iff.mp w)];refine⟨hlc,S2,h3,?_⟩;rcases js with⟨rfl,al⟩|js
    .refine .inl ⟨rfl,λj hj=>?_⟩;by_cases e:j<=k
     .exact al j e
     .have:j=k+1:=by lia
      subst this;exact Rat.not_lt.mp z
    .exact .inr js
  .rintro ys' Hc ⟨S2,h3,js⟩ hy;rcases js with⟨rfl,al⟩|⟨r,zs,rfl,ld⟩
   .exfalso;have:=al _ (aF _);rw[e2,dE.one]at this;unfold vl at this;rw[kJ (Rat.intCast_pos.mpr y0),Rat.one_mul,Rat.intCast_le_intCast]at this;lia
   .exact⟨D1,_,0,_,rfl,rfl,h3,fD,q r Hc (S1.trans S2) ld⟩
noncomputable def sV(s:Rat):Φ->Rat
 |[]=>0
 |f::fs=>vl f+s*sV s fs
noncomputable def jG(s:Η):List Int->Int×Int
 |[]=>(0,1)
 |t::ts=>(t*((jG s ts).2*s.2)+(jG s ts).1*s.1,(jG s ts).2*s.2)
theorem Ad{s:Η}(s2:0<s.2):∀{ts:List Int},0<(jG s ts).2
 |[]=>(by decide:(0:Int)<1)
 |_::_=>XZ (Ad s2) s2
theorem HW{s:Η}(s2:0<s.2)(s1:s.2<=100):∀{ts:List Int},(jG s ts).2.natAbs<=100^ts.length
 |[]=>(by decide:(1:Int).natAbs<=100^0)
 |_::ts=>by
  show((jG s ts).2*s.2).natAbs<=100^(ts.length+1);rw[Int.natAbs_mul,Nat.pow_succ];exact Nat.mul_le_mul (HW s2 s1) (by omega)
theorem TY{s:Η}{B:Nat}(s0:0<=s.1)(s3:s.1<=s.2)(s2:0<s.2)(s1:s.2<=100):∀{ts:List Int},(∀t∈ts,t.natAbs<=B)->(jG s ts).1.natAbs<=ts.length*B*100^ts.length
 |[],_=>by show(0:Int).natAbs<=_;exact bh _
 |t::ts,h=>by
  have ih:=TY s0 s3 s2 s1 (ts:=ts) λu hu=>h u (aH _ hu);have bb:=HW s2 s1 (ts:=ts);show(t*((jG s ts).2*s.2)+(jG s ts).1*s.1).natAbs<=(ts.length+1)*B*100^(ts.length+1);refine aL (Int.natAbs_add_le _ _) ?_;rw[Int.natAbs_mul,Int.natAbs_mul,Int.natAbs_mul,Nat.pow_succ];have a1:=Nat.mul_le_mul (h t aN) (Nat.mul_le_mul bb (show s.2.natAbs<=100 by lia));have a2:=Nat.mul_le_mul ih (show s.1.natAbs<=100 by lia);refine aL (Nat.add_le_add a1 a2) (Nat.le_of_eq ?_);rw[Nat.succ_mul,Nat.add_mul,Nat.mul_assoc,Nat.add_comm]
theorem O6{s:Η}{W:Rat}(s2:0<s.2):∀{ts:List Int}{fs:Φ},ts.length=fs.length->(∀(i:Nat)t f,ts[i]?=some t->fs[i]?=some f->(t:Rat)=W*vl f)->vl (jG s ts)=W*sV (vl s) fs
 |[],[],_,_=>by
  show vl (0,1)=W*0;rw[Ce 0,Rat.intCast_zero]
  grind
 |t::ts,f::fs,h,g=>by
  have ih:=O6 s2 (ts:=ts) (fs:=fs) (by simpa using h) λi u v a b=>g (i+1) u v (by simpa using a) (by simpa using b);have g0:=g 0 t f rfl rfl;have p:=Ad s2 (ts:=ts);have n1:=dR p;have n2:=dR s2;show vl (t*((jG s ts).2*s.2)+(jG s ts).1*s.1,(jG s ts).2*s.2)=W*(vl f+vl s*sV (vl s) fs);have e:vl (t*((jG s ts).2*s.2)+(jG s ts).1*s.1,(jG s ts).2*s.2)=(t:Rat)+vl (jG s ts)*vl s:=by
   show((t*((jG s ts).2*s.2)+(jG s ts).1*s.1:Int):Rat)/(((jG s ts).2*s.2:Int):Rat)=(t:Rat)+((jG s ts).1:Rat)/((jG s ts).2:Rat)*((s.1:Rat)/(s.2:Rat));rw[Rat.intCast_add,XV,XV,XV]
   grind
  rw[e,ih,g0]
  grind
noncomputable def MJ(K:Frag):Sp:=λvs H Q _=>∃(p l:Addr)(s:Η)(xs:Κ)(fs:Φ),vs=[.ref p,.ref l]/\H p=some (.tup [.int s.1,.int s.2])/\0<=s.1/\s.1<=s.2/\0<s.2/\s.2<=100/\H l=some (.lst xs)/\FLK K H xs fs/\(∀f∈fs,Fq f)/\fs.length<=41 /\
 ∀r z o H',Same H H'->H r=none->H' r=some (.tup [.int z,.int o])->0<o->Int.gcd z o=1->vl (z,o)=sV (vl s) fs->Q (.ref r) H'
noncomputable def pdJ(p l t a:Addr)(s:Η)(ts:List Int)(H:Hp)(k:Nat)(σ:L2.St)(H':Hp):Prop:=∃u:Option V,σ=[some (.ref p),some (.ref l),some (.ref t),some (.int (jG s (ts.drop (ts.length-k))).1),some (.int (jG s (ts.drop (ts.length-k))).2),u]/\H'=H
theorem CJ(F:Fun K j9 j9 pJ f fd)(T:Txt K mg D)(wu:OkF P w K mg base 2 pG pA (wY K))(lE:OkF P w K mg base 2 oV oZ o7):cD P w K mg base CX0 3 f fd jV (MJ K):=by
 refine F.ok eV ?_ ?_
 .rintro _ _ _ _ ⟨p,l,s,xs,fs,rfl,_⟩;rfl
 .rintro cdv A outer s H _ Q E hr ⟨p,l,sh,xs,fs,rfl,hp,s0,s1,s2,s3,hl,fl,fq,f41,q⟩;refine⟨_,(bH (bU (i:=2) eV.nd rfl (Or.inl rfl) (bO wu hr.md (by rfl) (bD (pv 1) bF)))
   (bH (bU (i:=3) eV.nd rfl (Or.inl rfl) bG)
   (bH (bU (i:=4) eV.nd rfl (Or.inl rfl) bG)
   (bH (fQ PassesOwn.never rfl (ZR (by rfl) T.KJ (bD (bT cA (pv 2) bG (λ_ _=>rfl)) bF).mono) (cF (i:=5) eV.nd rfl (Or.inl rfl))
    (bH (bU (i:=4) eV.nd rfl (Or.inl rfl) (bR cJ (pv 4) (bT cA (pv 0) bG (λ_ _=>rfl))))
    (bM (bU (i:=3) eV.nd rfl (Or.inl rfl) (bR cX (bR cJ (pv 5) (pv 4)) (bR cJ (pv 3) (bT cA (pv 0) bG (λ_ _=>rfl))))))))
   (bM (b_ (bO lE hr.md (by rfl) (bD (pv 3) (bD (bR cJ (pv 4) (bT cA (pv 2) bG (λ_ _=>rfl))) bF))))))))),?_⟩
  refine bQ λR1 hR1=>?_;refine bY ⟨_,rfl,l,xs,fs,rfl,hl,fl,fq,f41,λD2 p2 f2 g2=>?_⟩;have S2:Same H (upd (upd H D2 (.lst ((lvT fs).map V.int))) p2 (.tup [.ref D2,.int (lvB fs:Nat)])):=(Same.upd f2).trans (Same.upd g2);have k1:=Same.upd g2 (o:=.tup [.ref D2,.int (lvB fs:Nat)]) _ _ (bI (H:=H) (a:=D2) (o:=.lst ((lvT fs).map V.int)));have k2:upd (upd H D2 (.lst ((lvT fs).map V.int))) p2 (.tup [.ref D2,.int (lvB fs:Nat)]) p2=_:=bI;generalize upd (upd H D2 (.lst ((lvT fs).map V.int))) p2 (.tup [.ref D2,.int (lvB fs:Nat)])=H2 at S2 k1 k2 ⊢;subst hR1;dsimp only[cu,L2.start,List.set_cons_succ,List.set_cons_zero];refine bQ λR1 hR1=>?_;refine bY ?_;subst hR1;dsimp only[cu,List.set_cons_succ,List.set_cons_zero];refine bQ λR1 hR1=>?_;refine bY ?_;subst hR1;dsimp only[cu,List.set_cons_succ,List.set_cons_zero];refine bQ λR1 hR1=>?_;have lT:(lvT fs).length=fs.length:=by unfold lvT;rw[ak]
  have hT:∀t∈lvT fs,t.natAbs<=10^40*(10^40)^41:=λt ht=>by
   obtain⟨f,hf,rfl⟩:=YV.mp ht;exact Yr fq f41 hf
  have bB:∀{t:Int},t.natAbs<=10^40*(10^40)^41->Bd t:=λh=>Y3 h (by decide +kernel);have Bk:Bd ((lvB fs:Nat):Int):=by
   unfold Bd;rw[XT];exact Y3 (Gy fq f41) (by decide +kernel)
  have bd:∀n,Bd (jG sh ((lvT fs).drop n)).1/\Bd (jG sh ((lvT fs).drop n)).2:=λn=>by
   have l41:((lvT fs).drop n).length<=41:=by rw[List.length_drop,lT];exact aL (Nat.sub_le _ _) f41
   have c2:100^((lvT fs).drop n).length<=100^41:=XU (by decide) l41;exact⟨Y3 (aL (TY s0 s1 s2 s3 λt ht=>hT t (List.mem_of_mem_drop ht)) (Nat.mul_le_mul (Nat.mul_le_mul_right _ l41) c2)) (by decide +kernel),Y3 (aL (HW s2 s3) c2) (by decide +kernel)⟩
  refine cW (Pq ⟨_,rfl,p2,_,0,_,rfl,rfl,k2,fD,D2,_,rfl,k1,pdJ p l p2 D2 sh (lvT fs) H2,⟨none,?_,rfl⟩,?_,?_⟩)
  .rw[Nat.sub_zero,List.drop_length];rfl
  .rintro k x σ' H' hx hk ⟨u,rfl,rfl⟩ hD;rw[ak]at hx hk;rw[show(lvT fs).length-1-k=(lvT fs).length-(k+1)by lia]at hx;have lt:(lvT fs).length-(k+1)<(lvT fs).length:=by omega
   rw[aq,aj lt]at hx;cases hx;have ed:=List.drop_eq_getElem_cons lt;rw[show(lvT fs).length-(k+1)+1=(lvT fs).length-k by lia]at ed;have bt:=hT _ (aU lt);have b1:=bd ((lvT fs).length-k);have b2:=bd ((lvT fs).length-(k+1));rw[ed]at b2;refine bY ⟨_,rfl,_,rfl,p,_,1,_,rfl,rfl,S2 _ _ hp,dX,_,_,rfl,rfl,⟨b1.2,Bd.sm (by omega)⟩,?_⟩;dsimp only[cu,List.set_cons_succ,List.set_cons_zero];refine⟨_,rfl,_,rfl,_,_,rfl,rfl,⟨bB bt,b2.2⟩,_,rfl,_,rfl,p,_,0,_,rfl,rfl,S2 _ _ hp,fD,_,_,rfl,rfl,⟨b1.1,Bd.sm (by lia)⟩,_,_,rfl,rfl,hD,some (.int (lvT fs)[(lvT fs).length-(k+1)]),?_,rfl⟩;dsimp only[cu,List.set_cons_succ,List.set_cons_zero];rw[ed]
   rfl
  .rintro σ' H' ⟨u,rfl,rfl⟩ hD;subst hR1;dsimp only;rw[ak,Nat.sub_self,List.drop_zero];have b0:=bd 0;rw[List.drop_zero]at b0;have W0:=zc fq;have p0:=Ad s2 (ts:=lvT fs);have bw:((jG sh (lvT fs)).2*((lvB fs:Nat):Int)).natAbs<2^8000:=by
    rw[Int.natAbs_mul,XT];have c1:=HW s2 s3 (ts:=lvT fs);have c2:100^(lvT fs).length<=100^41:=XU (by decide) (by rw[lT];exact f41);exact Y3 (Nat.mul_le_mul (aL c1 c2) (Gy fq f41)) (by decide +kernel)
   have pw:=XZ p0 (show(0:Int)<(lvB fs:Nat)by lia);refine eY ⟨_,rfl,_,rfl,_,rfl,p2,_,1,_,rfl,rfl,k2,dX,_,_,rfl,rfl,⟨b0.2,Bk⟩,_,_,rfl,Int.ne_of_gt pw,bw,λr z o lw hr=>?_⟩;refine q r z o _ (S2.trans (Same.upd hr)) (S2.free hr) bI lw.pos lw.gcd ?_;rw[lw.vl pw];have v:=O6 (W:=(((lvB fs:Nat):Int):Rat)) s2 (ts:=lvT fs) (fs:=fs) lT λi t f a b=>?_
   .have n1:=dR p0;have n2:=dR (show(0:Int)<(lvB fs:Nat)by lia);unfold vl at v ⊢;rw[XV];generalize sV _ fs=y at *
    grind
   .unfold lvT at a;rw[aq,b]at a;have a:f.1*(((lvB fs:Nat):Int)/f.2)=t:=Option.some.inj a;have m:=aB b;have d:=Int.mul_ediv_cancel' (MK m (fq f m));have n1:=dR (fq f m).pos;rw[<- a,XV];have e:(((lvB fs:Nat):Int):Rat)=(f.2:Rat)*(((((lvB fs:Nat):Int)/f.2:Int)):Rat):=by rw[<- XV,d]
    rw[e];unfold vl;generalize(((((lvB fs:Nat):Int)/f.2:Int)):Rat)=y
    grind
inductive Run(cs:List (Option FC))(st:Nat):List Rat->List Nat->Nat->Prop
 |nil:Run cs st [] [] st
 |snoc {qs:List Rat}{vs:List Nat}{r r':Nat}{q:Rat}{fc:FC} : Run cs st qs vs r->cs[r]?=some (some fc)->Cd fc.2 q r'->Run cs st (qs++[q]) (vs++[r]) r'
noncomputable def tY(cs:List (Option FC))(r:Nat):Int×Int:=((cs.getD r none).map (·.1)).getD (0,1)
structure iD(H:Hp)(ys:Κ)(vs:List Nat)(pl:List (Option Nat))(cs:List (Option FC)):Prop where
 len:ys.length=vs.length
 at_:∀(i:Nat)r,vs[i]?=some r->∃(t a:Addr)(j:Nat)(fc:FC),ys[i]?=some (.ref t)/\H t=some (.tup [.int (r:Nat),.int (j:Nat),.ref a])/\pl[r]?=some (some j)/\cs[r]?=some (some fc)/\H a=some (.tup [.int fc.1.1,.int fc.1.2])
theorem iD.imp{H H':Hp}{ys:Κ}{vs:List Nat}{pl:List (Option Nat)}{cs:List (Option FC)}(h:iD H ys vs pl cs)(T:∀p us,H p=some (.tup us)->H' p=some (.tup us)):iD H' ys vs pl cs:=⟨h.len,λi r e=>by
 obtain⟨t,a,j,fc,x1,x2,x3,x4,x5⟩:=h.at_ i r e;exact⟨t,a,j,fc,x1,T _ _ x2,x3,x4,T _ _ x5⟩⟩
theorem iD.snoc{H:Hp}{ys:Κ}{vs:List Nat}{pl:List (Option Nat)}{cs:List (Option FC)}(h:iD H ys vs pl cs){t a:Addr}{r j:Nat}{fc:FC}(h1:H t=some (.tup [.int (r:Nat),.int (j:Nat),.ref a]))(h2:pl[r]?=some (some j))(h3:cs[r]?=some (some fc))(h4:H a=some (.tup [.int fc.1.1,.int fc.1.2])):iD H (ys++[.ref t]) (vs++[r]) pl cs:=by
 have l:=h.len;refine⟨by rw[aA,aA,l];rfl,λi r' e=>?_⟩;rcases jY e with⟨a1,a2⟩|⟨a1,a2⟩
 .obtain⟨t',a',j',fc',x1,x2⟩:=h.at_ i r' a2;exact⟨t',a',j',fc',by rw[aD (by lia)];exact x1,x2⟩
 .subst a2;exact⟨t,a,j,fc,by rw[aC (by lia),show i-ys.length=0 by lia];rfl,h1,h2,h3,h4⟩
noncomputable def mQ(H:Hp)(xs:Κ)(ns:Φ):Prop:=xs.length=ns.length/\∀(i:Nat)f,ns[i]?=some f->∃a,xs[i]?=some (.ref a)/\H a=some (.tup [.int f.1,.int f.2])/\0<f.2/\Bd f.2
noncomputable def G4(f:Η):Rat:=vl (f.1%f.2,f.2)
structure Ran(H:Hp)(t:Addr)(s:Η)(cs:List (Option FC))(pl:List (Option Nat))(st:Nat)(ns:Φ):Prop where
 ex:∃(ls pd:Addr)(ys:Κ)(vs:List Nat)(z o:Int)(e k:Nat),H t=some (.tup [.ref ls,.ref pd,.int (e:Nat)])/\H ls=some (.lst ys)/\iD H ys vs pl cs/\H pd=some (.tup [.int z,.int o])/\0<o/\Int.gcd z o=1/\vl (z,o)=sV (vl s) (vs.map (tY cs))/\k<=ns.length/\Run cs st ((ns.map G4).take k) vs e/\(k=ns.length\/cs[e]?=some none)
theorem Ran.same{H H':Hp}{t:Addr}{s:Η}{cs:List (Option FC)}{pl:List (Option Nat)}{st:Nat}{ns:Φ}(h:Ran H t s cs pl st ns)(S:Same H H'):Ran H' t s cs pl st ns:=by
 obtain⟨ls,pd,ys,vs,z,o,e,k,a1,a2,a3,a4,a5⟩:=h.ex;exact⟨ls,pd,ys,vs,z,o,e,k,S _ _ a1,S _ _ a2,a3.imp λp us e=>S _ _ e,S _ _ a4,a5⟩
noncomputable def Sh(s:Η)(fcss:List (List FC)):Prop:=0<=s.1/\s.1<=s.2/\0<s.2/\s.2<=100/\∀fcs∈fcss,∀fc∈fcs,Fq fc.1/\∃M,Jy fcss.length M fc.2
theorem VG{H:Hp}{xs:Κ}{fs:Φ}(h:yJ (λv f=>∃a,v=V.ref a/\SqT K H a [.int f.1,.int f.2]) xs fs):FLK K H xs fs:=FLK.of h.len λj f e=>by
 have lj:j<xs.length:=by rw[h.len];exact(ao.mp e).1
 obtain⟨a,b,c⟩:=h.at_ j _ f (aj lj) e;exact⟨a,by rw[aj lj,b],c⟩
noncomputable def Lr(K:Frag)(D:Adr):Sp:=λvs H Q E=>∃(o p ln:Addr)(v sv:V)(rms:List (Str×List Dr))(r:Option V),vs=[.ref o,v,sv,.ref ln]/\gY D H o p rms/\xg rms/\Odd H v/\Odd H sv/\pW rms H v r /\
 (r=none->rQ rms.length sv->∃(s:Η)(fcss:List (List FC))(l:Addr)(pl:List (Option Nat))(st:Nat)(xs:Κ)(ns:Φ),v=.ref l/\H l=some (.lst (pl.map stV))/\Qm fcss pl/\Dy K D H o s fcss/\H p=some (.tup [.int s.1,.int s.2])/\Sh s fcss/\sv=.int (st:Nat)/\st<fcss.length/\H ln=some (.lst xs)/\mQ H xs ns/\ns.length<=40 /\
  ∀t H',Same H H'->H t=none->(∀ls zs,H' t=some (.tup (.ref ls::zs))->H ls=none)->Ran H' t s (pick fcss pl) pl st ns->Q (.ref t) H') /\
 (r=none->¬rQ rms.length sv->∀d H',Same H H'->H d=none->H' d=some (.xd [("room",sv)])->E (.ref D.NoRoom) (some d) H') /\
 ∀u,r=some u->∀d H',Same H H'->H d=none->H' d=some (.xd [("room",u)])->E (.ref D.NoPlan) (some d) H'
theorem Ql(F:Fun K oY oY sJ f fd)(T:Txt K mg D)(oM:OkX P w K mg base 4 j8 jU (zO D))(uJ:OkI P w K mg base (CXO P w) 3 D.Hall_check_room dH (Dw D))(mJ:OkF P w K mg base 4 iy iC (RM K D))(uV:OkF P w K mg base 4 nA nH (Ja K))(n6:OkF P w K mg base 2 iW jy xY)(pL:OkF P w K mg base 3 j9 jV (MJ K)):cD P w K mg base (CXO P w) 5 f fd oW (Lr K D):=by
 refine F.okX jK ?_ ?_
 .rintro _ _ _ _ ⟨o,p,ln,v,sv,rms,r,rfl,_⟩;rfl
 .rintro cdv A outer s H _ Q E hr ⟨o,p,ln,v,sv,rms,r,rfl,hh,few,ov,os,pi,q0,e1,e2⟩;have hI:=hh;obtain⟨dx,nn,ll,zs0,ho,_,_,_⟩:=hI;refine⟨_,(bH (dh (iY oM hr.md (by rfl) j6 (bD (pv 0) (bD (pv 1) bF))))
   (bH (dh (PE.any λC(hC:cM D C)=>(Pb (pv 0) (T.cl C hC.fam) (T.m5 C hC) uJ hr.md j6 (bD (pv 2) bF))))
   (bH (bU (i:=4) jK.nd rfl (Or.inl rfl) (bO mJ hr.md (by rfl) (bD (pv 0) (bD (pv 1) bF))))
   (bH (Nq (bN sJ) rP rP ["offer"] (dD ((pv 4)).mono) (fZ (i:=0)) fL (Jo (cU Hu (pv 0) gZ (cH _)) gZ (bO uV hr.md (by rfl) (bD (pv 0) bF))) (cF (i:=5) jK.nd rfl (Or.inl rfl)))
   (bH (bU (i:=6) jK.nd rfl (Or.inl rfl) (dZ bF))
   (bH (bU (i:=7) jK.nd rfl (Or.inl rfl) (pv 2))
   (bH (fQ PassesOwn.leaving rfl (dD ((pv 3)).mono) (cF (i:=8) jK.nd rfl (Or.inl rfl))
    (bH (dB (cU Hu (bT bZ (pv 4) (pv 7) (λ_ _=>rfl)) gZ (cH _))
     (bM QZ)
     cG)
    (bH (dh (kY (pv 6) (bD (dO (bD (pv 7) (bD (bT bZ (pv 1) (pv 7) (λ_ _=>rfl)) (bD (bT cA (bT bZ (pv 4) (pv 7) (λ_ _=>rfl)) bG (λ_ _=>rfl)) bF)))) bF)))
    (bM (bU (i:=7) jK.nd rfl (Or.inl rfl) (bO n6 hr.md (by rfl) (bD (bT bZ (pv 5) (pv 7) (λ_ _=>rfl)) (bD (pv 8) bF))))))))
   (bM (b_ (dO (bD (pv 6) (bD (bO pL hr.md (by rfl) (bD (pX (pv 0) rfl) (bD (pF (bN sJ) rP rP ["step"] (dD ((pv 6)).mono) (fZ (i:=0)) fL (bT cA (pv 0) bG (λ_ _=>rfl))) bF))) (bD (pv 7) bF))))))))))))),?_⟩
  refine bQ λR1 hR1=>?_;refine cW ⟨_,rfl,_,rfl,?_⟩;dsimp only[xU];refine Qn hh few ov pi (λer H1 S1=>?_) λu e d H' S hd hx=>e2 u e d H' S hd hx;subst hR1;refine bQ λR1 hR1=>?_;refine cW ?_;refine⟨D.Hall,(by unfold cM;simp),_,rfl,o,dx,_,rfl,S1 _ _ ho,rfl,_,rfl,o,p,sv,rms,rfl,hh.same S1,os.same S1,λrn=>?_,λrn d hd=>e1 er rn d _ (S1.trans (Same.upd hd)) (S1.free hd) bI⟩;obtain⟨sh,fcss,l,pl,st,xs,ns,rfl,hl,ft,hn,hp,⟨s0,s1,s2,s3,dE⟩,rfl,stn,hln,na,n40,q⟩:=q0 er rn;have cl:=Ci ft;have n12:=hn.n12;show R1 _ _ _;subst hR1;refine bQ λR1 hR1=>?_;refine bY ⟨_,rfl,_,rfl,o,l,sh,fcss,pl,rfl,hn.same S1,S1 _ _ hl,ft,λlc zs H2 S2 f2 h2 ch=>?_⟩;have S02:=S1.trans S2;have zl:=ch.len;subst hR1;dsimp only[cu,L2.start,List.set_cons_succ,List.set_cons_zero];refine bQ λR1 hR1=>?_;refine bY (Dk (λH v c=>(c=none/\v=V.non)\/∃le fc,c=some fc/\v=V.ref le/\qW H le fc.2) (pick fcss pl) (λS z=>?_) rfl h2 zl (by rw[cl];exact aL n12 (by decide)) (λk x c Hc D1 ys R' hx hc Sc h1 r'=>?_) λle H3 ys S3 f3 h3 al=>?_)
  .rcases z with z|⟨a,fc,x1,x2,x3⟩
   .exact .inl z
   .exact .inr ⟨a,fc,x1,x2,x3.same S⟩
  .rcases ch.at_ k c hc with⟨rfl,ez⟩|⟨tt,fc,rfl,ez,of,_⟩
   .rw[hx]at ez;cases ez;exact⟨_,rfl,rfl,true,rfl,r' _ Hc (λ_ _ z=>z) (.inl ⟨rfl,rfl⟩)⟩
   .rw[hx]at ez;cases ez;obtain⟨fcs,m1,m2⟩:=wk (aB hc);obtain⟨_,M,dM⟩:=dE fcs m1 fc m2;refine⟨_,rfl,rfl,false,ZH V.bl (Zp (by intro z;cases z)),_,rfl,tt,fc.1,fc.2,_,M,rfl,of.same Sc,dM,λle' H' S' f' ed=>r' _ H' S' (.inr ⟨le',fc,rfl,rfl,?_⟩)⟩;obtain⟨us,u1,u2,u3⟩:=ed.ex;have nD:∀{b:Addr},b≠D1->b∉[D1]:=λn z=>n (YR.mp z);have hD:=S' _ _ h1;refine⟨us,dW (nD (bK h1 f').symm) u1,u2,λi d e=>?_⟩;obtain⟨t5,a5,g5,y1,y2,y3,y4⟩:=u3 i d e;exact⟨t5,a5,g5,y1,dW (nD (d7 y2 hD (by intro z;cases z))) y2,dW (nD (d7 y3 hD (by intro z;cases z))) y3,y4⟩
  have S03:=S02.trans S3;have al:yJ (λ(v:V)(c:Option FC)=>(c=none/\v=V.non)\/∃le fc,c=some fc/\v=V.ref le/\qW H3 le fc.2) ys (pick fcss pl):=al.imp λv c z=>by
   rcases z with z|⟨a,fc,x1,x2,x3⟩
   .exact .inl z
   .exact .inr ⟨a,fc,x1,x2,x3.same pq⟩
  have ch:=ch.same S3;have h2:=S3 _ _ h2;subst hR1;dsimp only[cu,List.set_cons_succ,List.set_cons_zero];refine bQ λR1 hR1=>?_;refine bY ⟨bh _,λls H4 S4 f4 h4=>?_⟩;subst hR1;dsimp only[cu,List.set_cons_succ,List.set_cons_zero];refine bQ λR1 hR1=>?_;refine bY ⟨_,rfl,?_⟩;subst hR1;dsimp only[cu,List.set_cons_succ,List.set_cons_zero];refine bQ λR1 hR1=>?_;have fq:∀fc,some fc∈pick fcss pl->Fq fc.1:=λfc hf=>by
   obtain⟨fcs,m1,m2⟩:=wk hf;exact(dE fcs m1 fc m2).1
  have fin:∀(u8:Option V)(zs:Κ)(vs:List Nat)(r k:Nat)H9,Same H3 H9->H9 ls=some (.lst zs)->iD H9 zs vs pl (pick fcss pl)->Run (pick fcss pl) st ((ns.map G4).take k) vs r->vs.length<=k->k<=ns.length->(k=ns.length\/(pick fcss pl)[r]?=some none)->R1 { nx:=λx H'=>Q V.non H',rt:=Q } [some (.ref o),some (.ref l),some (.int (st:Nat)),some (.ref ln),some (.ref lc),some (.ref le),some (.ref ls),some (.int (r:Nat)),u8] H9:=λu8 zs vs r k H9 S9 h9 sa rn' vk kn ke=>by
   subst hR1;have SH:=S03.trans S9;have pr:∀(i:Nat)v,vs[i]?=some v->∃fc,(pick fcss pl)[v]?=some (some fc)/\tY (pick fcss pl) v=fc.1:=λi v e=>by
    obtain⟨t,a,j,fc,_,_,_,x4,_⟩:=sa.at_ i v e;refine⟨fc,x4,?_⟩;unfold tY;rw[au,x4];rfl
   refine eY ⟨_,rfl,_,rfl,o,D.Hall,dx,_,_,rfl,SH _ _ ho,T.qU,T.ud,rfl,?_⟩;refine Dk (λH v f=>∃a,v=V.ref a/\SqT K H a [.int f.1,.int f.2]) (vs.map (tY (pick fcss pl))) (λS z=>?_) rfl h9 (by rw[ak];exact sa.len) (by rw[ak];exact aL vk (aL kn (aL n40 (by decide)))) (λi x t Hc D1 ys' R' hx ht Sc h1 r'=>?_) λlp H5 ys' S5 f5 h5 al'=>?_
   .obtain⟨a,e,h⟩:=z;exact⟨a,e,S.tup h⟩
   .rw[aq]at ht;cases ev:vs[i]? with
    |none=>rw[ev]at ht;cases ht
    |some v =>
     rw[ev]at ht;cases ht;obtain⟨t,a,j,fc,x1,x2,x3,x4,x5⟩:=sa.at_ i v ev;rw[hx]at x1;cases x1;obtain⟨fc',y1,y2⟩:=pr i v ev;rw[x4]at y1;cases y1;rw[y2]at r';exact⟨_,rfl,t,_,2,_,rfl,rfl,Sc _ _ x2,cg (j:=2) rfl,r' _ Hc (λ_ _ z=>z) ⟨a,rfl,.of (dW (by
      simp only[YR];exact d7 (Sc _ _ x5) h1 (by intro z;cases z)) (Sc _ _ x5))⟩⟩
   .have fl:FLK K H5 ys' (vs.map (tY (pick fcss pl))):=(VG al').same pq;refine⟨p,lp,sh,ys',vs.map (tY (pick fcss pl)),rfl,S5 _ _ (SH _ _ hp),s0,s1,s2,s3,h5,fl,λg hg=>?_,by rw[ak];lia,λpd z o' H6 S6 f6 h6 o0 gc vv=>⟨_,rfl,(show 3<=sizeLine by decide),λt H7 S7 f7 h7=>?_⟩⟩
    .obtain⟨v,hv,rfl⟩:=YV.mp hg;obtain⟨i,ei⟩:=aV hv;obtain⟨fc,y1,y2⟩:=pr i v ei;rw[y2];exact fq fc (aB y1)
    .have S97:=S5.trans (S6.trans S7);exact q t H7 (SH.trans S97) (SH.free (S5.free (S6.free f7))) (λls' zs' e=>by rw[h7]at e;cases e;exact S03.free f4) ⟨ls,pd,zs,vs,z,o',r,k,h7,S97 _ _ h9,sa.imp λp us e=>S97 _ _ e,S7 _ _ h6,o0,gc,vv,kn,rn',ke⟩
  refine cW (d_ ⟨_,rfl,ln,xs,rfl,(S03.trans S4) _ _ hln,λk σ H'=>∃(u8:Option V)(zs:Κ)(vs:List Nat)(r:Nat),σ=[some (.ref o),some (.ref l),some (.int (st:Nat)),some (.ref ln),some (.ref lc),some (.ref le),some (.ref ls),some (.int (r:Nat)),u8]/\Same H3 H'/\H' ls=some (.lst zs)/\iD H' zs vs pl (pick fcss pl)/\Run (pick fcss pl) st ((ns.map G4).take k) vs r/\vs.length<=k/\r<fcss.length,⟨none,[],[],st,rfl,S4,h4,⟨rfl,λi r e=>by simp at e⟩,.nil,aF _,stn⟩,?_,?_⟩)
  .rintro k x σ' H5 hx ⟨u8,zs',vs,r,rfl,S5,h5,sa,rn',vk,rl⟩ hln5;have lk:k<ns.length:=by rw[<- na.1];exact(ao.mp hx).1
   have en:=aj lk;obtain⟨an,x1,x2,x3,x4⟩:=na.2 k _ en;rw[hx]at x1;cases x1;have SH:=S03.trans S5;have lc':r<(pick fcss pl).length:=by rw[cl];exact rl
   have ec:=aj lc';have lo:=aj (show r<pl.length by rw[ft.1];exact rl);have lfc:=aj rl;have hz:=ch.at_ r _ ec;have pa:=FP ft lfc lo;dsimp only[cu,List.set_cons_succ,List.set_cons_zero];refine bQ λR2 hR2=>?_;have h2':=S5 _ _ h2;rcases hz with⟨e0,ez⟩|⟨tt,fc,e0,ez,of,_⟩
   .refine cW (iG ⟨_,rfl,_,rfl,lc,zs,(r:Nat),_,rfl,rfl,h2',cg (j:=r) ez,rfl,true,rfl,?_⟩);exact fin _ zs' vs r k H5 S5 h5 sa rn' vk (Y2 lk) (.inr (by rw[ec,e0]))
   .refine cW (iG ⟨_,rfl,_,rfl,lc,zs,(r:Nat),_,rfl,rfl,h2',cg (j:=r) ez,rfl,false,ZH V.bl (Zp (by intro z;cases z)),?_⟩);show R2 _ _ _;subst hR2;obtain⟨j,ej,ep⟩ : ∃j,pl[r]?=some (some j)/\(pick fcss pl)[r]?=some (some fc):=by
     have ep:(pick fcss pl)[r]?=some (some fc):=by rw[ec,e0]
     rcases pa with⟨_,z⟩|⟨j,fc',z1,_,z2⟩
     .rw[ep]at z;cases z
     .exact⟨j,by rw[lo,z1],ep⟩
    obtain⟨nm,pp,rr,us,o1,o2,_⟩:=of.ex;obtain⟨fcs,m1,m2⟩:=wk (aB ep);obtain⟨_,M,dM⟩:=dE fcs m1 fc m2;have ly:r<ys.length:=by rw[al.len,cl];exact rl
    obtain⟨le',hle⟩ : ∃le',ys[r]?=some (.ref le')/\qW H3 le' fc.2:=by
     have ey:=aj ly;rcases al.at_ r _ _ ey ep with⟨z,_⟩|⟨le',fc',z1,z2,z3⟩
     .cases z
     .cases z1;exact⟨le',by rw[ey,z2],z3⟩
    have z3:zs'.length=vs.length:=sa.len;refine cW ⟨_,rfl,ls,zs',rfl,h5,_,rfl,_,rfl,_,rfl,l,_,(r:Nat),_,rfl,rfl,SH _ _ hl,cg (j:=r) (by rw[aq,ej];rfl),_,rfl,_,rfl,lc,zs,(r:Nat),_,rfl,rfl,h2',cg (j:=r) ez,tt,_,1,_,rfl,rfl,S5 _ _ o1,dX,(show 3<=sizeLine by decide),λt6 H6 S6 f6 h6=>⟨_,_,rfl,S6 _ _ h5,aR (show zs'.length<64 by lia) (by decide),?_⟩⟩;have S36:=S5.trans S6;have h7:upd H6 ls (.lst (zs'++[.ref t6])) ls=_:=bI;have S7:=g_ (o:=.lst (zs'++[.ref t6])) f4 S36;have nt:∀p us,H6 p=some (.tup us)->upd H6 ls (.lst (zs'++[.ref t6])) p=some (.tup us):=λp us e=>(bL (d7 e (S6 _ _ h5) (by intro z;cases z))).trans e;have sa':=((sa.imp λp us e=>S6 _ _ e).snoc h6 ej ep (S36 _ _ o2)).imp nt;generalize upd H6 ls (.lst (zs'++[.ref t6]))=H7 at h7 S7 sa' ⊢;have S07:=S03.trans S7;dsimp only;refine KQ ⟨_,rfl,_,rfl,le,ys,(r:Nat),_,rfl,rfl,S7 _ _ h3,cg (j:=r) hle.1,_,rfl,le',an,_,_,fc.2,_,M,rfl,hle.2.same S7,dM,S07 _ _ x2,x3,x4,λr' H8 S8 ld=>?_⟩;have S38:=S7.trans S8;obtain⟨i,c,i1,i2,_⟩:=id ld;refine⟨S03.trans S38 _ _ hln,_,_,_,r',rfl,S38,S8 _ _ h7,sa'.imp λp us e=>S8 _ _ e,?_,by rw[aA];simp;omega,by rw[i2];exact(dM.ch c (aB i1)).1⟩;rw[cI (show(ns.map G4)[k]?=some (G4 ns[k])by rw[aq,en];rfl)];exact .snoc rn' ep ld
  .rintro σ' H5 ⟨u8,zs',vs,r,rfl,S5,h5,sa,rn',vk,rl⟩ hln5;rw[na.1]at rn' vk;exact fin _ zs' vs r ns.length H5 S5 h5 sa rn' vk (aF _) (.inl rfl)
noncomputable def tR:Sp:=λvs H Q _=>∃(c:Int)(n:Nat),vs=[.int c,.int n]/\n<=100/\∀(l:Addr)(xs:List Int)H',Same H H'->H l=none->H' l=some (.lst (xs.map V.int))->xs.length=n->(∀x∈xs,0<=x/\x<2000000000)->Q (.ref l) H'
noncomputable def jS(c:Int)(n:Nat)(p:Addr)(H:Hp)(k:Nat)(σ:L2.St)(H':Hp):Prop:=∃(xs:List Int)(m d:Int)(v:Option V),σ=[some (.int c),some (.int n),some (.ref p),some (.int m),some (.int d),v]/\(0<=m/\m<1999999973)/\0<=d/\xs.length=k/\(∀x∈xs,0<=x/\x<2000000000)/\Same H H'/\H' p=some (.lst (xs.map V.int))
theorem Qy(F:Fun K lQ lQ zZ f fd)(T:Txt K mg D):cD P w K mg base CX0 1 f fd lR tR:=by
 refine F.ok iK ?_ ?_
 .rintro _ _ _ _ ⟨c,n,rfl,_⟩;rfl
 .rintro cdv A outer s H _ Q E hr ⟨c,n,rfl,hn,q⟩;refine⟨_,(bH (bU (i:=2) iK.nd rfl (Or.inl rfl) (pR bF))
   (bH (bU (i:=3) iK.nd rfl (Or.inl rfl) (bR dU (bR T7 (bR cX (bR dU (pv 0) bG) bG) bG) bG))
   (bH (bU (i:=4) iK.nd rfl (Or.inl rfl) bG)
   (bH (dB (PW.pt (pw_or (cU Bc (pv 0) bG (cH _)) (pw_or1 (cU Yb (pv 0) (bR Gx bG bG) (cH _)))))
    (bM (bU (i:=4) iK.nd rfl (Or.inl rfl) (bW sX (by rfl) T.Ii boot_abs (bD (pv 0) bF))))
    cG)
   (bH (fQ PassesOwn.never rfl (gP (by rfl) T.lM (bD (pv 1) bF).mono) (cF (i:=5) iK.nd rfl (Or.inl rfl))
    (bH (bU (i:=3) iK.nd rfl (Or.inl rfl) (bR dU (bR cX (bR cX (bR cJ (pv 3) (bR cX (bR dU (pv 3) bG) bG)) (bR cJ bG (pv 5))) bG) bG))
    (bH (dh (kY (pv 2) (bD (bT bZ (pR (bD (pv 3) (bD (bR dU (pv 4) bG) bF))) (fV Pj (by rfl) T.Q0 boot_int (bD (h_ NZ (pv 4) bG (cH _)) bF)) (λ_ _=>rfl)) bF)))
    (bM (bU (i:=4) iK.nd rfl (Or.inl rfl) (bR dY (pv 4) bG))))))
   (bM (b_ (pv 2)))))))),?_⟩
  refine Qh λR0 hR0=>?_
  walk_at "rd"
  refine⟨bh _,λp hp=>⟨.inr (by constructor<;>decide),?_⟩⟩;have m0:0<=(c%1999999973+31)*765432101%1999999973/\(c%1999999973+31)*765432101%1999999973<1999999973:=⟨Z3 _ (by decide),YY _ (by decide)⟩;generalize(c%1999999973+31)*765432101%1999999973=m at m0 ⊢;have a0:0<=(if c<0 then -c else c):=by split<;>lia
  subst hR0;refine bQ λR hR=>?_;have loop:∀d0:Int,0<=d0->R { nx:=λ_ H'=>Q .non H',rt:=Q } [some (.int c),some (.int n),some (.ref p),some (.int m),some (.int d0),none] (upd H p (.lst [])):=by
   intro d0 a0;subst hR;have go:∀d:Int,0<=d->jS c n p H 0 [some (.int c),some (.int n),some (.ref p),some (.int m),some (.int d),none] (upd H p (.lst [])):=λd hd=>⟨[],m,d,none,rfl,m0,hd,rfl,(by simp),Same.upd hp,bI⟩;have fin:∀(σ':L2.St)(H':Hp),jS c n p H n σ' H'->∃v,σ'[2]?=some (some v)/\Q v H':=by
    rintro σ' H' ⟨xs,m,d,v,rfl,_,_,h1,h2,h3,h4⟩;exact⟨_,rfl,q p xs H' h3 hp h4 h1 h2⟩
   refine lU ?_
   walk_at "rd"
   refine⟨n,rfl,Y3 hn (by decide),jS c n p H,go _ a0,?_,fin⟩;rintro k σ' H' hk ⟨xs,m,d,v,rfl,hm,hd,h1,h2,h3,h4⟩
   walk_at "rd"
   have b1:Bd m:=Bd.sm (by lia);have b2:Bd (m%65521+40487):=Bd.sm (by lia);have b3:Bd (k:Int):=Bd.sm (by lia);have nx:0<=(m*(m%65521+40487)+7*k+5)%1999999973/\(m*(m%65521+40487)+7*k+5)%1999999973<1999999973:=⟨Z3 _ (by decide),YY _ (by decide)⟩;generalize(m*(m%65521+40487)+7*(k:Int)+5)%1999999973=z at nx ⊢;refine⟨b1,b2,Bd.sm (by decide),b3,⟨_,h4⟩,(by decide),λr hq=>.inr ?_⟩;have pr:p≠r:=bK h4 hq;have dd:0<=d.fdiv 1000000:=by rw[Int.fdiv_eq_ediv_of_nonneg _ (by decide)];lia
   have fin:∀x:Int,0<=x/\x<2000000000->jS c n p H (k+1) [some (.int c),some (.int n),some (.ref p),some (.int z),some (.int (d.fdiv 1000000)),some (.int k)] (upd (upd H' r (.lst [.int z,.int (d%1000000)])) p (.lst (xs.map V.int++[.int x]))):=by
    intro x hx;refine⟨xs++[x],z,_,_,rfl,nx,dd,by simp[h1],?_,?_,?_⟩
    .intro y hy;rcases Y1.mp hy with hy|hy
     .exact h2 y hy
     .rw[YR.mp hy];exact hx
    .intro b o hb;have bp:b≠p:=bK hb hp;have br:b≠r:=bK (h3 b o hb) hq;rw[bL bp,bL br];exact h3 b o hb
    .rw[bA];exact bI
   by_cases h0:0<d
   .rw[ZY (Zs h0)];exact⟨_,dX,_,(bL pr).trans h4,by rw[ak,h1];exact aR hk (aL hn (by decide)),Bd.sm (by decide),fin _ (by lia)⟩
   .rw[ZZ (by simp;exact Int.le_of_not_gt h0)];exact⟨_,fD,_,(bL pr).trans h4,by rw[ak,h1];exact aR hk (aL hn (by decide)),Bd.sm (by decide),fin _ (by lia)⟩
  clear hR
  walk_at "rd"
  refine Wk (λ_=>loop _ a0) λ_=>⟨Xf (by decide) (by decide),Wk (λ_=>loop _ a0) λ_=>loop 0 (by decide)⟩
noncomputable def iU:Sp:=λvs H Q _=>∃(a b:Int),vs=[.int a,.int b]/\0<b/\Bd b/\∀p,H p=none->Q (.ref p) (upd H p (.tup [.int (Ac.lw a b).1,.int (Ac.lw a b).2]))
theorem Qg(F:Fun K gC gC Cj f fd)(Dp:OkF P w K mg base 1 Bm Ao zU):cD P w K mg base CX0 2 f fd gH iU:=by
 refine F.ok DX ?_ ?_
 .rintro _ _ _ _ ⟨a,b,rfl,_⟩;rfl
 .rintro cdv A outer s H _ Q E hr ⟨a,b,rfl,hb,hbd,q⟩;refine⟨_,(bH (bU (i:=2) DX.nd rfl (Or.inl rfl) (bO Dp hr.md (by rfl) (bD (pv 0) (bD (pv 1) bF))))
   (bM (b_ (oh (bD (bR dY (pv 0) (pv 2)) (bD (bR dY (pv 1) (pv 2)) bF)))))),?_⟩
  have g0:=Gm (a:=a) (b:=b) (Int.ne_of_gt hb);have g1:=K6 (a:=a) (b:=b) (Int.ne_of_gt hb) hbd;unfold zU
  walk_at "rd"
  rw[mZ _ g0,mZ _ g0];exact⟨by exact Int.ne_of_gt g0,g1,by exact Int.ne_of_gt g0,g1,fH,q⟩
noncomputable def zM:Sp:=λvs H Q _=>∃(p q:Addr)(x y u v:Int),vs=[.ref p,.ref q]/\H p=some (.tup [.int x,.int y])/\H q=some (.tup [.int u,.int v])/\Bd x/\Bd y/\Bd u/\Bd v/\0<y/\0<v/\Bd (y*v) /\
 ∀r H',Same H H'->H r=none->H' r=some (.tup [.int (Ac.lw (x*v+u*y) (y*v)).1,.int (Ac.lw (x*v+u*y) (y*v)).2])->Q (.ref r) H'
theorem Ve(F:Fun K qP qP G8 f fd)(cY:OkF P w K mg base 2 gC gH iU):cD P w K mg base CX0 3 f fd qY zM:=by
 refine F.ok T8 ?_ ?_
 .rintro _ _ _ _ ⟨p,q,x,y,u,v,rfl,_⟩;rfl
 .rintro cdv A outer s H _ Q E hr ⟨p,q,x,y,u,v,rfl,hp,hq,bx,b_y,bu,bv,y0,v0,byv,k⟩;refine⟨_,(bM (b_ (bO cY hr.md (by rfl) (bD (bR cX (bR cJ (bT cA (pv 0) bG (λ_ _=>rfl)) (bT cA (pv 1) bG (λ_ _=>rfl))) (bR cJ (bT cA (pv 1) bG (λ_ _=>rfl)) (bT cA (pv 0) bG (λ_ _=>rfl)))) (bD (bR cJ (bT cA (pv 0) bG (λ_ _=>rfl)) (bT cA (pv 1) bG (λ_ _=>rfl))) bF))))),?_⟩;exact eY ⟨_,rfl,p,_,0,_,rfl,rfl,hp,fD,_,rfl,q,_,1,_,rfl,rfl,hq,dX,x,v,rfl,rfl,⟨bx,bv⟩,_,rfl,q,_,0,_,rfl,rfl,hq,fD,_,rfl,p,_,1,_,rfl,rfl,hp,dX,u,y,rfl,rfl,⟨bu,b_y⟩,_,_,rfl,rfl,_,rfl,p,_,1,_,rfl,rfl,hp,dX,_,rfl,q,_,1,_,rfl,rfl,hq,dX,y,v,rfl,rfl,⟨b_y,bv⟩,_,_,rfl,XZ y0 v0,byv,λr hr=>k r _ (Same.upd hr) hr bI⟩
noncomputable def DN:Sp:=λvs H Q _=>∃(p q:Addr)(x y u v:Int),vs=[.ref p,.ref q]/\H p=some (.tup [.int x,.int y])/\H q=some (.tup [.int u,.int v])/\Bd x/\Bd y/\Bd u/\Bd v/\0<y/\0<v/\Bd (y*v) /\
 ∀r H',Same H H'->H r=none->H' r=some (.tup [.int (Ac.lw (x*u) (y*v)).1,.int (Ac.lw (x*u) (y*v)).2])->Q (.ref r) H'
theorem Qp(F:Fun K vG vG HX f fd)(cY:OkF P w K mg base 2 gC gH iU):cD P w K mg base CX0 3 f fd vD DN:=by
 refine F.ok Vk ?_ ?_
 .rintro _ _ _ _ ⟨p,q,x,y,u,v,rfl,_⟩;rfl
 .rintro cdv A outer s H _ Q E hr ⟨p,q,x,y,u,v,rfl,hp,hq,bx,b_y,bu,bv,y0,v0,byv,k⟩;refine⟨_,(bM (b_ (bO cY hr.md (by rfl) (bD (bR cJ (bT cA (pv 0) bG (λ_ _=>rfl)) (bT cA (pv 1) bG (λ_ _=>rfl))) (bD (bR cJ (bT cA (pv 0) bG (λ_ _=>rfl)) (bT cA (pv 1) bG (λ_ _=>rfl))) bF))))),?_⟩;exact eY ⟨_,rfl,p,_,0,_,rfl,rfl,hp,fD,_,rfl,q,_,0,_,rfl,rfl,hq,fD,x,u,rfl,rfl,⟨bx,bu⟩,_,rfl,p,_,1,_,rfl,rfl,hp,dX,_,rfl,q,_,1,_,rfl,rfl,hq,dX,y,v,rfl,rfl,⟨b_y,bv⟩,_,_,rfl,XZ y0 v0,byv,λr hr=>k r _ (Same.upd hr) hr bI⟩
noncomputable def DQ:Sp:=λvs H Q _=>∃c:Int,vs=[.int c]/\∀p x y H',Same H H'->H p=none->H' p=some (.tup [.int x,.int y])->0<y->Int.gcd x y=1->x.natAbs<=10^21->y<=1000->Q (.ref p) H'
theorem QC(F:Fun K tW tW Aa f fd)(T:Txt K mg D)(cY:OkF P w K mg base 2 gC gH iU):cD P w K mg base CX0 3 f fd tG DQ:=by
 refine F.ok QJ ?_ ?_
 .rintro _ _ _ _ ⟨c,rfl,_⟩;rfl
 .rintro cdv A outer s H _ Q E hr ⟨c,rfl,q⟩;refine⟨_,(bH (dB (cU qF (bR dU (pv 0) bG) bG (cH _))
    (bM (b_ (bO cY hr.md (by rfl) (bD (bR HS (bR dU (bR dY (pv 0) bG) (bR cJ bG (bR Gx bG bG))) (bR Gx bG bG)) (bD (bR cX bG (bR dU (bR dU (bR T7 (bR dY (pv 0) bG) bG) bG) bG)) bF)))))
    cG)
   (bM (b_ (bO cY hr.md (by rfl) (bD (bR HS (bR dU (bR dY (pv 0) bG) bG) bG) (bD (bR cX bG (bR dU (bR dY (pv 0) bG) bG)) bF)))))),?_⟩
  unfold iU
  walk_at "rd"
  have big:Bd 100000000000000000000:=by unfold Bd;decide +kernel
  have go:∀(a b:Int),0<b->a.natAbs<=10^20->b<=1000->∀p,H p=none->Q (.ref p) (upd H p (.tup [.int (Ac.lw a b).1,.int (Ac.lw a b).2])):=λa b b0 ha hb p hp=>by
   have h1:=Ac.ug a b;have h2:=Ac.q_ a b;have h3:=Ac.fu (t:=a) b0;exact q p _ _ _ (Same.upd hp) hp bI h3 (Ac.nW b0) (aL h1 (aL ha (by decide))) (by lia)
  refine Wk (λ_=>?_) λ_=>?_
  .exact⟨Bd.sm (by decide),Xf (by decide) (by decide),Bd.sm (by decide),big,Xf (by decide) (by decide),Bd.sm (by decide),.inr (by constructor<;>decide),by omega,Bd.sm (by omega),go _ _ (by omega) (by omega) (by lia)⟩
  .exact⟨Bd.sm (by decide),Bd.sm (by decide),by lia,Bd.sm (by lia),go _ _ (by lia) (by omega) (by lia)⟩
noncomputable def chL(ws:List (Nat×Int))(S:Int):Θ:=ws.map λg=>(g.1,Ac.lw g.2 S)
structure xX(H:Hp)(l:Addr)(ws:List (Nat×Int)):Prop where
 ex:∃ys,H l=some (.lst ys)/\ys.length=ws.length/\∀(i:Nat)g,ws[i]?=some g->∃t,ys[i]?=some (.ref t)/\H t=some (.tup [.int (g.1:Nat),.int g.2])
theorem xX.same{H H':Hp}{l:Addr}{ws:List (Nat×Int)}(h:xX H l ws)(S:Same H H'):xX H' l ws:=by
 obtain⟨ys,a,b,c⟩:=h.ex;refine⟨ys,S _ _ a,b,λi g e=>?_⟩;obtain⟨t,x1,x2⟩:=c i g e;exact⟨t,x1,S _ _ x2⟩
structure abR(H:Hp)(l:Addr)(cs:Θ):Prop where
 ex:∃ys,H l=some (.lst ys)/\ys.length=cs.length/\∀(i:Nat)c,cs[i]?=some c->∃t a,ys[i]?=some (.ref t)/\H t=some (.tup [.int (c.1:Nat),.ref a])/\H a=some (.tup [.int c.2.1,.int c.2.2])
noncomputable def uG:Sp:=λvs H Q _=>∃(l:Addr)(ws:List (Nat×Int))(S:Int),vs=[.ref l]/\xX H l ws/\ws.length<=40/\(ws.map (·.2)).sum=S/\0<S/\Bd S/\∀l' H',Same H H'->H l'=none->abR H' l' (chL ws S)->Q (.ref l') H'
theorem LK(F:Fun K mH mH o8 f fd)(T:Txt K mg D)(cY:OkF P w K mg base 2 gC gH iU):cD P w K mg base CX0 3 f fd mG uG:=by
 refine F.ok zR ?_ ?_
 .rintro _ _ _ _ ⟨l,ws,S,rfl,_⟩;rfl
 .rintro cdv A outer s H _ Q E hr ⟨l,ws,S,rfl,hw,w40,sm,S0,bS,q⟩;obtain⟨ys,hl,yl,ya⟩:=hw.ex;refine⟨_,(bH (bU (i:=1) zR.nd rfl (Or.inr rfl) (bW (Di rfl) (by rfl) T.Yj boot_sum (bD (pF (bN o8) pC pC ["_law_room", "_law_weight"] (dD ((pv 0)).mono) (fj (n:=2) rfl (cC (fZ (i:=0)) (cC (fZ (i:=1)) eN))) fL (pv 1)) bF)))
   (bM (b_ (pF (bN o8) pC pC ["_law_room", "_law_weight"] (dD ((pv 0)).mono) (fj (n:=2) rfl (cC (fZ (i:=0)) (cC (fZ (i:=1)) eN))) fL (dO (bD (pv 0) (bD (bO cY hr.md (by rfl) (bD (pv 1) (bD (pv 3) bF))) bF))))))),?_⟩
  refine bQ λR1 hR1=>?_;refine bY (Za (kh ⟨_,rfl,l,ys,rfl,hl,by rw[yl];exact aL w40 (by decide),λD1 f1=>⟨λk zs Hc=>Same H Hc/\Hc D1=some (.lst zs)/\zs=(ws.take k).map λg=>V.int g.2,⟨Same.upd f1,bI,rfl⟩,?_,?_⟩⟩))
  .rintro k x zs Hc hk ⟨S1,h1,rfl⟩ hz hlc;have lk:k<ws.length:=by rw[<- yl];exact(ao.mp hk).1
   have ek:=aj lk;obtain⟨t,x1,x2⟩:=ya k _ ek;rw[hk]at x1;cases x1;intro pre hpre;obtain⟨u,v,rfl⟩:=yR hpre;refine⟨t,_,rfl,S1 _ _ x2,rfl,_,_,rfl,_,_,rfl,rfl,[_,_],rfl,rfl,⟨_,rfl,h1,hlc,λb o e=>(bL (bK e f1)).trans (S1 _ _ e),bI,?_⟩⟩;rw[cI ek,bA]
   rfl
  .rintro zs Hc ⟨S1,h1,rfl⟩ hz;rw[yl,aO]at h1;refine⟨D1,ws.map (·.2),rfl,?_,?_⟩
   .rw[h1,List.map_map];rfl
   .rw[sm];subst hR1;dsimp only[cu,L2.start,List.set_cons_succ,List.set_cons_zero];have hl:=S1 _ _ hl;refine eY (kh ⟨_,rfl,l,ys,rfl,hl,by rw[yl];exact aL w40 (by decide),λD2 f2=>⟨λk zs H'=>Same Hc H'/\H' D2=some (.lst zs)/\zs.length=k/\∀(i:Nat)c,i<k->(chL ws S)[i]?=some c->∃t a,zs[i]?=some (.ref t)/\H' t=some (.tup [.int (c.1:Nat),.ref a])/\H' a=some (.tup [.int c.2.1,.int c.2.2]),⟨Same.upd f2,bI,rfl,λi c z=>by lia⟩,?_,?_⟩⟩)
    .rintro k x zs H2 hk ⟨S2,h2,zl,za⟩ hz hlc;have lk:k<ws.length:=by rw[<- yl];exact(ao.mp hk).1
     have ek:=aj lk;obtain⟨t,x1,x2⟩:=ya k _ ek;rw[hk]at x1;cases x1;intro pre hpre;obtain⟨u,v,rfl⟩:=yR hpre;refine⟨t,_,rfl,S2 _ _ (S1 _ _ x2),rfl,_,_,rfl,_,_,rfl,rfl,[_,_],rfl,rfl,⟨_,rfl,_,rfl,_,rfl,_,_,rfl,S0,bS,λp hp=>?_⟩⟩;have S3:Same H2 (upd H2 p (.tup [.int (Ac.lw ws[k].2 S).1,.int (Ac.lw ws[k].2 S).2])):=Same.upd hp;have e3:upd H2 p (.tup [.int (Ac.lw ws[k].2 S).1,.int (Ac.lw ws[k].2 S).2]) p=_:=bI;generalize upd H2 p (.tup [.int (Ac.lw ws[k].2 S).1,.int (Ac.lw ws[k].2 S).2])=H3 at S3 e3 ⊢;refine⟨fH,λt4 H4 S4 f4 h4=>?_⟩;have S24:=S3.trans S4;have nt:∀p us,H4 p=some (.tup us)->upd H4 D2 (.lst (zs++[.ref t4])) p=some (.tup us):=λp us e=>(bL (d7 e (S24 _ _ h2) (by intro z;cases z))).trans e;refine⟨S24 _ _ h2,S24 _ _ hlc,λb o e=>(bL (bK e f2)).trans (S24 _ _ (S2 _ _ e)),bI,by rw[aA,zl];rfl,λi c hi e=>?_⟩;by_cases y:i=k
     .subst y;unfold chL at e;rw[aq,ek]at e;cases e;exact⟨t4,p,by rw[aC (by omega),zl,Nat.sub_self];rfl,nt _ _ h4,nt _ _ (S4 _ _ e3)⟩
     .obtain⟨t5,a5,y1,y2,y3⟩:=za i c (XX (Nat.le_of_lt_succ hi) y) e;exact⟨t5,a5,by rw[aD (by lia)];exact y1,nt _ _ (S24 _ _ y2),nt _ _ (S24 _ _ y3)⟩
    .rintro zs H2 ⟨S2,h2,zl,za⟩ hz;have cl:(chL ws S).length=ys.length:=by unfold chL;rw[ak,yl]
     exact q D2 H2 (S1.trans S2) (S1.free f2) ⟨zs,h2,by rw[zl,cl],λi c e=>za i c (by rw[<- cl];exact(ao.mp e).1) e⟩
theorem zx{t b:Int}(hb:0<b):vl (Ac.lw t b)=vl (t,b):=Ye (Ac.fu hb) hb (Ac.yt hb)
noncomputable def Sg:Sp:=λvs H Q _=>∃(l p:Addr)(ws:List (Nat×Int))(S x y:Int)(n M:Nat),vs=[.ref l,.ref p]/\xX H l ws/\ws.length<=40/\(ws.map (·.2)).sum=S/\0<S/\Bd S/\Jy n M (chL ws S)/\H p=some (.tup [.int x,.int y])/\0<y/\Bd y/\∀r H',Same H H'->Cd (chL ws S) (vl (x%y,y)) r->Q (.int (r:Nat)) H'
noncomputable def ldJ(l p:Addr)(x y:Int)(M:Nat)(cs:Θ)(H:Hp)(k:Nat)(σ:L2.St)(H':Hp):Prop:=∃(a:Addr)(g:Η)(u v:Option V),σ=[some (.ref l),some (.ref p),some (.int (x%y)),some (.ref a),u,v]/\Same H H'/\H' a=some (.tup [.int g.1,.int g.2])/\0<g.2/\Int.gcd g.1 g.2=1/\g.2 ∣ (M:Int)/\Wn (((k:Nat):Int):Rat) (vl g)/\vl g=oK cs k/\∀j,j<=k->oK cs j<=vl (x%y,y)
theorem Zb(F:Fun K Gi Gi Vq f fd)(T:Txt K mg D)(lV:OkF P w K mg base 3 mH mG uG)(tL:OkF P w K mg base 3 qP qY zM):cD P w K mg base CX0 4 f fd Gr Sg:=by
 refine F.ok xK ?_ ?_
 .rintro _ _ _ _ ⟨l,p,ws,S,x,y,n,M,rfl,_⟩;rfl
 .rintro cdv A outer s H _ Q E hr ⟨l,p,ws,S,x,y,n,M,rfl,hw,w40,sm,S0,bS,dE,hp,y0,b_y,q⟩;have m0:=Z3 x (Int.ne_of_gt y0);have m1:=YY x y0;have M9:=dE.M9;have M0:=dE.M0;have few:=dE.few;refine⟨_,(bH (bU (i:=2) xK.nd rfl (Or.inl rfl) (bR je (bT cA (pv 1) bG (λ_ _=>rfl)) (bT cA (pv 1) bG (λ_ _=>rfl))))
   (bH (bU (i:=3) xK.nd rfl (Or.inl rfl) (dO (bD bG (bD bG bF))))
   (bH (fQ PassesOwn.never rfl (dD ((bO lV hr.md (by rfl) (bD (pv 0) bF))).mono) (fj (n:=2) rfl (cC (cF (i:=4) xK.nd rfl (Or.inl rfl)) (cC (cF (i:=5) xK.nd rfl (Or.inl rfl)) eN)))
    (bH (bU (i:=3) xK.nd rfl (Or.inl rfl) (bO tL hr.md (by rfl) (bD (pv 3) (bD (pv 5) bF))))
    (bM (dB (cU Bc (bR cJ (pv 2) (bT cA (pv 3) bG (λ_ _=>rfl))) (bR cJ (bT cA (pv 3) bG (λ_ _=>rfl)) (bT cA (pv 1) bG (λ_ _=>rfl))) (cH _))
     (bM (b_ (pv 4)))
     cG))))
   (bM (b_ gZ))))),?_⟩
  refine bQ λR1 hR1=>?_;refine bY ⟨_,rfl,p,_,0,_,rfl,rfl,hp,fD,_,rfl,p,_,1,_,rfl,rfl,hp,dX,x,y,rfl,rfl,by exact Int.ne_of_gt y0,?_⟩;subst hR1;dsimp only[cu,L2.start,List.set_cons_succ,List.set_cons_zero];rw[aW _ (XY y0)];refine bQ λR1 hR1=>?_;refine bY ⟨fH,λa0 H1 S1 f1 h1=>?_⟩;subst hR1;dsimp only[cu,List.set_cons_succ,List.set_cons_zero];refine bQ λR1 hR1=>?_;refine cW (d_ ⟨_,rfl,l,ws,S,rfl,hw.same S1,w40,sm,S0,bS,λlc H2 S2 f2 ch=>?_⟩);obtain⟨ys,e1,e2,e3⟩:=ch.ex;have S02:=S1.trans S2;refine⟨lc,ys,rfl,e1,ldJ l p x y M (chL ws S) H2,⟨a0,(0,1),none,none,rfl,λ_ _ z=>z,S2 _ _ h1,by decide,by decide,Int.one_dvd _,Yg (by decide) (by decide),(Ce 0).trans Rat.intCast_zero,λj hj=>?_⟩,?_,?_⟩
  .have:j=0:=by exact Nat.eq_zero_of_le_zero hj
   subst this;show(0:Rat)<=_;unfold vl;rw[kJ (Rat.intCast_pos.mpr y0),Rat.zero_mul];exact Rat.intCast_nonneg.mpr m0
  .rintro k x' σ' H3 hk ⟨a,g,u,v,rfl,S3,ha,g0,g1,gM,gw,gv,gj⟩ hlc;have lk:k<(chL ws S).length:=by rw[<- e2];exact(ao.mp hk).1
   have ek:=aj lk;obtain⟨tt,b,x1,x2,x3⟩:=e3 k _ ek;rw[hk]at x1;cases x1;have hc:=dE.ch _ (aU lk);have sn:=DP ek;obtain⟨c,ec⟩ : ∃c,(chL ws S)[k]=c:=⟨_,rfl⟩;rw[ec]at hc sn x2 x3 ek;obtain⟨c1,c2,c3,c4,c5⟩:=hc;have q1:=Int.le_of_dvd (by lia) c3;have q2:=Int.le_of_dvd (Int.lt_of_lt_of_le c2 q1) gM;have q3:=Nh g0 gw;have q4:=Nat.mul_le_mul (show k<=41 by exact aL (Y2 lk) few) (show g.2.natAbs<=10^6 by lia);have q5:=XZ g0 c2;have q6:(g.2*c.2.2).natAbs<=10^6*10^6:=by
    rw[Int.natAbs_mul];exact Nat.mul_le_mul (by lia) (by lia)
   refine⟨tt,_,rfl,S3 _ _ x2,rfl,_,_,rfl,_,_,rfl,rfl,?_⟩;dsimp only[List.set_cons_succ,List.set_cons_zero];refine bQ λR2 hR2=>?_;refine bY ⟨_,rfl,_,rfl,a,b,g.1,g.2,c.2.1,c.2.2,rfl,ha,S3 _ _ x3,Bd.sm (by lia),Bd.sm (by lia),Bd.sm (by lia),Bd.sm (by lia),g0,c2,Bd.sm (Y3 q6 (by decide)),λr H4 S4 f4 h4=>?_⟩;have p0:=Ac.fu (t:=g.1*c.2.2+c.2.1*g.2) q5;have pg:=Ac.nW (t:=g.1*c.2.2+c.2.1*g.2) q5;have vz:vl (Ac.lw (g.1*c.2.2+c.2.1*g.2) (g.2*c.2.2))=oK (chL ws S) (k+1):=by rw[sn,<- gv,zx q5,Va g0 c2]
   generalize Ac.lw (g.1*c.2.2+c.2.1*g.2) (g.2*c.2.2)=z at *;have wz:Wn (((k+1:Nat):Int):Rat) (vl z):=by
    have w1:Wn 1 (vl c.2):=by
     have p:(0:Rat)<(c.2.2:Rat):=Rat.intCast_pos.mpr c2;unfold vl;have a1:(0:Rat)<=(c.2.1:Rat)/(c.2.2:Rat):=by rw[kJ p,Rat.zero_mul];exact Rat.intCast_nonneg.mpr c4
     have a2:(c.2.1:Rat)/(c.2.2:Rat)<=1:=by rw[vQ p,Rat.one_mul,Rat.intCast_le_intCast];exact c5
     exact⟨by grind,a2⟩
    have e2:(((k+1:Nat):Int):Rat)=(((k:Nat):Int):Rat)+1:=by rw[Int.natCast_add k 1,Rat.intCast_add];rfl
    rw[vz,sn,<- gv,e2];exact gw.add w1
   have dz:z.2 ∣ (M:Int):=uO p0 pg (by
    rw[vz,sn,<- gv,Rat.add_mul];exact(Er g0 gM).add (Er (f:=c.2) c2 c3))
   have q7:=Int.le_of_dvd (Int.lt_of_lt_of_le g0 q2) dz;have q8:=Nh p0 wz;have q9:=Nat.mul_le_mul (show k+1<=41 by lia) (show z.2.natAbs<=10^6 by lia);have iff:decide (x%y*z.2<z.1*y)=true↔vl (x%y,y)<oK (chL ws S) (k+1):=by
    rw[<- vz,decide_eq_true_iff];unfold vl;have p1:(0:Rat)<(y:Rat):=Rat.intCast_pos.mpr y0;have p2:(0:Rat)<(z.2:Rat):=Rat.intCast_pos.mpr p0;have e:(z.1:Rat)/(z.2:Rat)*(y:Rat)=((z.1:Rat)*(y:Rat))/(z.2:Rat):=by grind
    rw[Rat.div_lt_iff p1,e,Rat.lt_div_iff p2,<- XV,<- XV,Rat.intCast_lt_intCast]
   subst hR2;dsimp only[cu,List.set_cons_succ,List.set_cons_zero];have S24:=S3.trans S4;refine iG ⟨_,rfl,_,rfl,r,_,1,_,rfl,rfl,h4,dX,_,_,rfl,rfl,⟨Y3 (by lia) b_y,Bd.sm (by lia)⟩,_,rfl,r,_,0,_,rfl,rfl,h4,fD,_,rfl,p,_,1,_,rfl,rfl,S24 _ _ (S02 _ _ hp),dX,_,_,rfl,rfl,⟨Bd.sm (by lia),b_y⟩,_,_,rfl,rfl,decide (x%y*z.2<z.1*y),rfl,?_⟩;by_cases lt:vl (x%y,y)<oK (chL ws S) (k+1)
   .rw[iff.mpr lt];exact⟨_,rfl,q c.1 H4 (S02.trans S24) ⟨k,c,ek,rfl,lt,gj⟩⟩
   .rw[Bool.eq_false_iff.mpr λw=>lt (iff.mp w)];refine⟨S24 _ _ e1,r,z,_,_,rfl,S24,h4,p0,pg,dz,wz,vz,λj hj=>?_⟩;by_cases e:j<=k
    .exact gj j e
    .have:j=k+1:=by lia
     subst this;exact Rat.not_lt.mp lt
  .rintro σ' H3 ⟨a,g,u,v,rfl,S3,ha,g0,g1,gM,gw,gv,gj⟩ hlc;exfalso;have:=gj _ (aF _);rw[e2,dE.one]at this;unfold vl at this;rw[kJ (Rat.intCast_pos.mpr y0),Rat.one_mul,Rat.intCast_le_intCast]at this;lia
noncomputable def nK(n:Nat):Key:=.inl (n:Int)
noncomputable def eK(ws:List (Nat×Int)):List (Key×V):=ws.map λg=>(nK g.1,.int g.2)
theorem FN{a b:Nat} : nK a=nK b↔a=b:=⟨λh=>by unfold nK at h;injection h with h;lia,λh=>by rw[h]⟩
theorem RZ{r:Nat} : ∀{ws:List (Nat×Int)},(kW (eK ws) (nK r)).getD (.int 0)=.int (Ac.look ws r)
 |[]=>rfl
 |g::ws=>by
  by_cases e:g.1=r
  .have h1:kW (eK (g::ws)) (nK r)=some (.int g.2):=wM (by rw[<- e]);have h2:Ac.look (g::ws) r=g.2:=by
    unfold Ac.look;rw[List.find?_cons_of_pos (by simpa using e)];rfl
   rw[h1,h2];rfl
  .have h1:kW (eK (g::ws)) (nK r)=kW (eK ws) (nK r):=wL λz=>e (FN.mp z);have h2:Ac.look (g::ws) r=Ac.look ws r:=by
    unfold Ac.look;rw[List.find?_cons_of_neg (by simpa using e)]
   rw[h1,h2];exact RZ
theorem ZS{r:Nat}{y:Int}{ws:List (Nat×Int)} : putK (eK ws) (nK r) (.int y)=eK (Ac.put ws r y):=by
 unfold putK Ac.put eK;have e:((ws.map λg=>((nK g.1:Key),V.int g.2)).any λkv=>decide (kv.1=nK r))=ws.any λg=>decide (g.1=r):=by
  rw[List.any_map]
  congr 1
  funext g
  exact decide_eq_decide.mpr FN
 rw[e];split
 .rw[List.map_map,List.map_map];refine List.map_congr_left λg _=>?_;show(if nK g.1=nK r then(nK g.1,V.int y)else(nK g.1,V.int g.2))=_;by_cases z:g.1=r
  .rw[ZY (FN.mpr z)];show _=(nK (if g.1=r then(g.1,y)else g).1,V.int (if g.1=r then(g.1,y)else g).2);rw[ZY z]
  .rw[ZZ λw=>z (FN.mp w)];show _=(nK (if g.1=r then(g.1,y)else g).1,V.int (if g.1=r then(g.1,y)else g).2);rw[ZZ z]
 .rw[bA];rfl
structure vp(n:Nat)(f:Η)(ws:List (Nat×Int)):Prop where
 f0:0<f.2
 fg:Int.gcd f.1 f.2=1
 fa:f.1.natAbs<=10^30
 fb:f.2<=1000
 ne:0<ws.length
 few:ws.length<=3
 nd:(ws.map (·.1)).Nodup
 at_:∀g∈ws,g.1<n/\1<=g.2/\g.2<=18
structure DD(n:Nat)(H:Hp)(d:Addr):Prop where
 ex:∃(p l:Addr)(f:Η)(ws:List (Nat×Int)),H d=some (.tup [.ref p,.ref l])/\H p=some (.tup [.int f.1,.int f.2])/\xX H l ws/\vp n f ws
theorem DD.same{n:Nat}{H H':Hp}{d:Addr}(h:DD n H d)(S:Same H H'):DD n H' d:=by
 obtain⟨p,l,f,ws,a,b,c,e⟩:=h.ex;exact⟨p,l,f,ws,S _ _ a,S _ _ b,c.same S,e⟩
structure RD(n:Nat)(H:Hp)(xs:Κ)(dss:List (Β)):Prop where
 len:xs.length=dss.length
 at_:∀(k:Nat)(ds:Β),dss[k]?=some ds->∃l,xs[k]?=some (.ref l)/\H l=some (.lst (ds.map V.ref))/\∀d∈ds,DD n H d
theorem RD.same{n:Nat}{H H':Hp}{xs:Κ}{dss:List (Β)}(h:RD n H xs dss)(S:Same H H'):RD n H' xs dss:=⟨h.len,λk ds e=>let⟨l,a,b,c⟩:=h.at_ k ds e;⟨l,a,S _ _ b,λd hd=>(c d hd).same S⟩⟩
noncomputable def DDs(n:Nat)(H0:Hp)(l:Β)(H:Hp)(ds:Β):Prop:=∀Ds:Β,(∀b∈Ds,∃zs,H0 b=some (.lst zs))->∀d∈ds,DD n (del (l++Ds) H) d
noncomputable def JN:Sp:=λvs H Q _=>∃(c:Int)(k n:Nat),vs=[.int c,.int k,.int n]/\1<=n/\n<=12/\k<=12/\∀l(ds:Β)H',Same H H'->H l=none->H' l=some (.lst (ds.map V.ref))->ds.length<=3->DDs n H [] H' ds->Q (.ref l) H'
theorem QX(F:Fun K vR vR Ho f fd)(T:Txt K mg D)(jf:OkF P w K mg base 1 lQ lR tR)(cY:OkF P w K mg base 2 gC gH iU):cD P w K mg base CX0 3 f fd vH JN:=by
 refine F.ok jj ?_ ?_
 .rintro _ _ _ _ ⟨c,k,n,rfl,_⟩;rfl
 .rintro cdv A outer s H _ Q E hr ⟨c,k,n,rfl,n1,n12,k12,q⟩;have z9:100<sizeLine:=by decide
  refine⟨_,(bH (bU (i:=3) jj.nd rfl (Or.inl rfl) (bO jf hr.md (by rfl) (bD (bR cX (pv 0) (bR cJ (bR cJ bG (pv 1)) (pv 1))) (bD bG bF))))
   (bH (bU (i:=4) jj.nd rfl (Or.inl rfl) (dZ bF))
   (bH (fQ PassesOwn.never rfl (gP (by rfl) T.lM (bD (bT bZ (PEB.out (V9 (JR uZ (JR uZ (JR uZ (JR uZ (JR uZ Ww))))))) (bR dU (bT bZ (pv 3) bG (λ_ _=>rfl)) bG) (λ_ _=>rfl)) bF).mono) (cF (i:=5) jj.nd rfl (Or.inl rfl))
    (bH (bU (i:=6) jj.nd rfl (Or.inl rfl) vA)
    (bH (fQ PassesOwn.never rfl (gP (by rfl) T.lM (bD (bR cX bG (bR dU (bT bZ (pv 3) (bR cX bG (pv 5)) (λ_ _=>rfl)) bG)) bF).mono) (cF (i:=7) jj.nd rfl (Or.inl rfl))
     (bH (bU (i:=9) jj.nd rfl (Or.inl rfl) (bR je (bT bZ (pv 3) (bR cX (bR cX bG (bR cJ bG (pv 5))) (pv 7)) (λ_ _=>rfl)) (pv 2)))
     (bM (yS (qC hr) (pv 6) (pv 9) (bR cX (bR cX (Jw (qC hr) (pv 6) (pv 9) bG (by first|exact⟨rfl,rfl,rfl,rfl,rfl⟩|constructor<;>rfl)) bG) (bR dU (bT bZ (pv 3) (bR cX (bR cX bG (bR cJ bG (pv 5))) (pv 7)) (λ_ _=>rfl)) bG)) rfl))))
    (bH (bU (i:=8) jj.nd rfl (Or.inl rfl) (bO cY hr.md (by rfl) (bD (bR HS (bR dU (bT bZ (pv 3) (bR cX bG (pv 5)) (λ_ _=>rfl)) bG) bG) (bD (bR cX bG (bR dU (bT bZ (pv 3) (bR cX bG (pv 5)) (λ_ _=>rfl)) bG)) bF))))
    (bH (dB (cU qF (bR dU (bT bZ (pv 3) bG (λ_ _=>rfl)) bG) bG (cH _))
     (bM (bU (i:=8) jj.nd rfl (Or.inl rfl) (bO cY hr.md (by rfl) (bD (bR HS (bR cJ (bR cJ (bT bZ (pv 3) (bR cX bG (pv 5)) (λ_ _=>rfl)) (bT bZ (pv 3) bG (λ_ _=>rfl))) (bT bZ (pv 3) bG (λ_ _=>rfl))) (bR Gx bG bG)) (bD (bR cX bG (bR dU (bT bZ (pv 3) (bR cX bG (pv 5)) (λ_ _=>rfl)) bG)) bF)))))
     cG)
    (bM (dh (kY (pv 4) (bD (dO (bD (pv 8) (bD (fV (KN rfl) (by rfl) T.oH boot_list (bD (Q_ (pv 6)) bF)) bF))) bF)))))))))
   (bM (b_ (pv 4)))))),?_⟩
  refine bQ λR1 hR1=>?_;refine bY ⟨_,rfl,_,rfl,_,_,rfl,rfl,⟨Bd.sm (by decide),Bd.sm (by omega)⟩,_,rfl,_,_,rfl,rfl,⟨Bd.sm (by omega),Bd.sm (by omega)⟩,_,_,rfl,rfl,_,30,rfl,by decide,λlx xs H1 S1 f1 h1 xl xb=>?_⟩;subst hR1;dsimp only[cu,L2.start,List.set_cons_succ,List.set_cons_zero];refine bQ λR1 hR1=>?_;refine bY ⟨bh _,λl H2 S2 f2 h2=>?_⟩;subst hR1;dsimp only[cu,List.set_cons_succ,List.set_cons_zero];refine bQ λR1 hR1=>?_;have gt:∀i,i<30->∃x:Int,(xs.map V.int)[i]?=some (.int x)/\0<=x/\x<2000000000:=λi hi=>by
   have li:i<xs.length:=by lia
   exact⟨xs[i],by rw[aq,aj li];rfl,xb _ (aU li)⟩
  obtain⟨x0,g0,g0',g0''⟩:=gt 0 (by decide);obtain⟨m,em,m3⟩ : ∃m:Nat,atI [V.int 1,V.int 2,V.int 3,V.int 2,V.int 0] (x0%5)=some (.int (m:Nat))/\m<=3:=by
   obtain e|e|e|e|e:x0%5=0\/x0%5=1\/x0%5=2\/x0%5=3\/x0%5=4:=by lia
   .exact⟨1,by rw[e];exact cg (j:=0) rfl,by decide⟩
   .exact⟨2,by rw[e];exact cg (j:=1) rfl,by decide⟩
   .exact⟨3,by rw[e];exact cg (j:=2) rfl,by decide⟩
   .exact⟨2,by rw[e];exact cg (j:=3) rfl,by decide⟩
   .exact⟨0,by rw[e];exact cg (j:=4) rfl,by decide⟩
  have h1':=h1;have h1:=S2 _ _ h1;refine cW (lU ⟨(show 5<=sizeLine by decide),λpl fpl=>⟨_,rfl,lx,_,0,_,rfl,rfl,Same.upd fpl _ _ h1,cg (j:=0) g0,x0,5,rfl,rfl,(show(0:Int)<5 by decide),pl,_,_,_,rfl,rfl,bI,em,m,rfl,by exact Y3 m3 (by decide),λj σ H'=>∃(u5 u6 u7 u8 u9:Option V)(ds:Β),σ=[some (.int c),some (.int k),some (.int n),some (.ref lx),some (.ref l),u5,u6,u7,u8,u9]/\Same H1 H'/\H' l=some (.lst (ds.map V.ref))/\ds.length=j/\DDs n H [l] H' ds,⟨none,none,none,none,none,[],rfl,S2.trans (Same.upd fpl),Same.upd fpl _ _ h2,rfl,λ_ _ d hd=>by simp at hd⟩,?_,?_⟩⟩)
  .rintro j σ' H3 hj ⟨u5,u6,u7,u8,u9,ds,rfl,S3,h3,dl,dd⟩;dsimp only[cu,List.set_cons_succ,List.set_cons_zero];refine bQ λR2 hR2=>?_;refine bY λd fd'=>?_;subst hR2;dsimp only[cu,List.set_cons_succ,List.set_cons_zero];have at_:∀(t:Nat)(e:Int),t<30->e=(t:Int)->∃x:Int,atI (xs.map V.int) e=some (.int x)/\0<=x/\x<2000000000:=λt e ht he=>by
    obtain⟨x,a,b⟩:=gt t ht;exact⟨x,by rw[he];exact cg a,b⟩
   have hx3:∀{H9:Hp},Same H3 H9->H9 lx=some (.lst (xs.map V.int)):=λS9=>S9 _ _ (S3 _ _ h1');obtain⟨x1,a1,a1',a1''⟩:=at_ (1+j) (1+(j:Int)) (by lia) (by lia);have bj:Bd (j:Int):=Bd.sm (by lia);have S4:Same H3 (upd H3 d (.dK [])):=Same.upd fd';refine bQ λR2 hR2=>?_;refine cW (lU ⟨_,rfl,_,rfl,_,_,rfl,rfl,lx,_,_,_,rfl,rfl,hx3 S4,a1,_,_,rfl,rfl,(show(0:Int)<3 by decide),_,_,rfl,rfl,(1+x1%3).toNat,by rw[Int.toNat_of_nonneg (by lia)],by lia,λi σ H'=>∃(u7 u9:Option V)(ws:List (Nat×Int)),σ=[some (.int c),some (.int k),some (.int n),some (.ref lx),some (.ref l),some (.int j),some (.ref d),u7,u8,u9]/\Same H3 H'/\H' d=some (.dK (eK ws))/\(ws.map (·.1)).Nodup/\ws.length<=i/\(0<i->0<ws.length)/\∀g∈ws,g.1<n/\1<=g.2/\g.2<=6*i,⟨u7,u9,[],rfl,S4,bI,List.nodup_nil,aF _,λz=>by omega,by simp⟩,?_,?_⟩)
   .rintro i σ' H5 hi ⟨u7,u9,ws,rfl,S5,h5,nd,wl,w0,wb⟩;have i3:i<3:=by lia
    obtain⟨xr,b1,b2,b3⟩:=at_ (4+3*j+i) (4+3*(j:Int)+(i:Int)) (by lia) (by lia);obtain⟨xw,c1,c2,c3⟩:=at_ (13+3*j+i) (13+3*(j:Int)+(i:Int)) (by lia) (by lia);have r0:0<=xr%(n:Int):=Z3 _ (by lia);have r1:xr%(n:Int)<n:=YY _ (by lia);obtain⟨r,er⟩ : ∃r:Nat,xr%(n:Int)=(r:Nat):=⟨(xr%(n:Int)).toNat,by lia⟩;have bi:Bd (i:Int):=Bd.sm (by lia);dsimp only[cu,List.set_cons_succ,List.set_cons_zero];refine bQ λR3 hR3=>?_;refine bY ⟨_,rfl,_,rfl,_,_,rfl,rfl,⟨Bd.sm (by decide),bj⟩,_,_,rfl,rfl,_,rfl,_,_,rfl,rfl,lx,_,_,_,rfl,rfl,hx3 S5,b1,_,rfl,_,_,rfl,rfl,by lia,?_⟩;subst hR3;dsimp only[cu,List.set_cons_succ,List.set_cons_zero];rw[aW _ (X2 _),er];have kd:∀v:V,Hz H5 d (.int (r:Nat)) v (upd H5 d (.dK (putK (eK ws) (nK r) v))):=λv=>Hz.k (k:=nK r) h5 (by unfold eK;rw[ak];lia);refine⟨_,rfl,d,rfl,.inl ⟨_,.of h5⟩,_,rfl,_,qI.k (k:=nK r) h5,_,_,RZ,rfl,_,rfl,_,rfl,_,_,rfl,rfl,⟨Bd.sm (by decide),bj⟩,_,_,rfl,rfl,_,rfl,_,_,rfl,rfl,lx,_,_,_,rfl,rfl,hx3 S5,c1,_,_,rfl,rfl,(show(0:Int)<6 by decide),_,_,rfl,rfl,_,rfl,_,rfl,d,_,rfl,kd _,?_⟩;rw[ZS];have vb:1<=Ac.look ws r+1+xw%6/\Ac.look ws r+1+xw%6<=6*((i+1:Nat):Int):=by
     rcases Ac.mC ws r with z|⟨g,hg,z⟩
     .rw[z];lia
     .have:=wb g hg;rw[z];lia
    refine⟨_,_,Ac.put ws r (Ac.look ws r+1+xw%6),rfl,g_ fd' S5,bI,Ac.Rb nd _ _,aL (Ac.O1 _ _ _) (Nat.succ_le_succ wl),λ_=>?_,λg hg=>?_⟩
    .unfold Ac.put;split
     .rename_i z
      obtain⟨g,hg,_⟩:=List.any_eq_true.mp z;rw[ak];exact List.length_pos_of_mem hg
     .rw[aA];simp
    .have h1:g.1<n:=by
      rcases Ac.Mz hg with z|z
      .rw[z];lia
      .obtain⟨g',hg',e⟩:=YV.mp z;rw[<- e];exact(wb g' hg').1
     rcases Ac.Oi hg with z|z
     .rw[z];exact⟨h1,vb⟩
     .have:=wb g z;exact⟨h1,this.2.1,by lia⟩
   .rintro σ' H5 ⟨u7,u9,ws,rfl,S5,h5,nd,wl,w0,wb⟩;subst hR2;dsimp only;obtain⟨x22,d1,d2,d3⟩:=at_ (22+j) (22+(j:Int)) (by lia) (by lia);obtain⟨x25,e1,e2,e3⟩:=at_ (25+j) (25+(j:Int)) (by lia) (by lia);obtain⟨x28,p1,p2,p3⟩:=at_ 28 28 (Nat.lt_of_not_le (by decide)) rfl;obtain⟨x29,t1,t2,t3⟩:=at_ 29 29 (Nat.lt_succ_self _) rfl;have i3:(1+x1%3).toNat<=3:=by lia
    have ok:∀f:Int×Int,0<f.2->Int.gcd f.1 f.2=1->f.1.natAbs<=10^30->f.2<=1000->vp n f ws:=λf h1 h2 h3 h4=>⟨h1,h2,h3,h4,w0 (by lia),by exact aL wl i3,nd,λg hg=>by have:=wb g hg;exact⟨this.1,this.2.1,by lia⟩⟩;have l25:0<1+x25%4:=by lia
    refine bQ λR3 hR3=>?_;refine bY ⟨_,rfl,_,rfl,_,_,rfl,rfl,lx,_,_,_,rfl,rfl,hx3 S5,d1,_,_,rfl,rfl,(show(0:Int)<25 by decide),_,_,rfl,rfl,_,rfl,_,rfl,_,_,rfl,rfl,lx,_,_,_,rfl,rfl,hx3 S5,e1,_,_,rfl,rfl,(show(0:Int)<4 by decide),_,_,rfl,rfl,_,_,rfl,l25,Bd.sm (by lia),λpp hpp=>?_⟩;have S6:Same H5 (upd H5 pp (.tup [.int (Ac.lw (x22%25-12) (1+x25%4)).1,.int (Ac.lw (x22%25-12) (1+x25%4)).2])):=Same.upd hpp;have e6:upd H5 pp (.tup [.int (Ac.lw (x22%25-12) (1+x25%4)).1,.int (Ac.lw (x22%25-12) (1+x25%4)).2]) pp=_:=bI;have ok6:vp n (Ac.lw (x22%25-12) (1+x25%4)) ws:=by
     have h1:=Ac.ug (x22%25-12) (1+x25%4);have h2:=Ac.q_ (x22%25-12) (1+x25%4);have h3:=Ac.fu (t:=x22%25-12) l25;exact ok _ h3 (Ac.nW l25) (by lia) (by lia)
    generalize upd H5 pp (.tup [.int (Ac.lw (x22%25-12) (1+x25%4)).1,.int (Ac.lw (x22%25-12) (1+x25%4)).2])=H6 at S6 e6 ⊢;subst hR3;dsimp only[cu,List.set_cons_succ,List.set_cons_zero];refine bQ λR3 hR3=>?_;have fin:∀(pp:Addr)(f:Η)H6,Same H5 H6->H6 pp=some (.tup [.int f.1,.int f.2])->vp n f ws->R3 { nx:=λσ H'=>∃(u5 u6 u7 u8 u9:Option V)(ds:Β),σ=[some (.int c),some (.int k),some (.int n),some (.ref lx),some (.ref l),u5,u6,u7,u8,u9]/\Same H1 H'/\H' l=some (.lst (ds.map V.ref))/\ds.length=j+1/\DDs n H [l] H' ds,rt:=Q,bk:=R1 { nx:=λx H'=>Q V.non H',rt:=Q },ct:=λσ H'=>∃(u5 u6 u7 u8 u9:Option V)(ds:Β),σ=[some (.int c),some (.int k),some (.int n),some (.ref lx),some (.ref l),u5,u6,u7,u8,u9]/\Same H1 H'/\H' l=some (.lst (ds.map V.ref))/\ds.length=j+1/\DDs n H [l] H' ds } [some (.int c),some (.int k),some (.int n),some (.ref lx),some (.ref l),some (.int j),some (.ref d),u7,some (.ref pp),u9] H6:=λpp f H6 S6 hpp ok=>by
     subst hR3;have S36:=S5.trans S6;refine⟨_,rfl,l,_,rfl,S36 _ _ h3,_,rfl,_,rfl,d,_,rfl,S6 _ _ h5,λv fv=>?_⟩;have Sv:Same H6 (upd H6 v (.ext (IW v d))):=Same.upd fv;have nv:d≠v:=bK (S6 _ _ h5) fv;refine⟨v,d,eK ws,rfl,bI,Sv _ _ (S6 _ _ h5),λlw ys H7 S7 f7 h7 yl ya=>⟨fH,λdn H8 S8 f8 h8=>?_⟩⟩;have S68:=Sv.trans (S7.trans S8);have S38:=S36.trans S68;have l8:=S38 _ _ h3;refine⟨_,_,rfl,l8,by rw[ak];lia,?_⟩;refine⟨_,_,_,_,_,ds++[dn],rfl,λb u e=>(bL (bK e f2)).trans (S38 _ _ (S3 _ _ e)),by rw[bI,bA];rfl,by rw[aA,dl];rfl,λDs hD d' hd'=>?_⟩;have nl:∀{b:Addr}{us:Κ},H8 b=some (.tup us)->b∉[l]++Ds:=λ{b us}e z=>by
      rcases YU.mp z with z|z
      .rw[z,l8]at e;cases e
      .obtain⟨zs,hz⟩:=hD b z;rw[S38 _ _ (S3 _ _ (S1 _ _ hz))]at e;cases e
     have nlw:lw∉[l]++Ds:=λz=>by
      rcases YU.mp z with z|z
      .have:=Sv _ _ (S36 _ _ h3);rw[z]at f7;rw[f7]at this;cases this
      .obtain⟨zs,hz⟩:=hD _ z;have:=Sv _ _ (S36 _ _ (S3 _ _ (S1 _ _ hz)));rw[f7]at this;cases this
     rw[m7 (by simp)];rcases Y1.mp hd' with z|z
     .exact(dd Ds hD d' z).same (mV λb o _ e=>S38 _ _ e)
     .rw[YR.mp z];refine⟨pp,lw,f,ws,dW (nl h8) h8,dW (nl (S68 _ _ hpp)) (S68 _ _ hpp),⟨ys,dW nlw (S8 _ _ h7),by rw[yl];unfold eK;rw[ak],λi g e=>?_⟩,ok⟩;obtain⟨t,y1,y2⟩:=ya i (nK g.1) (.int g.2) (by unfold eK;rw[aq,e];rfl);have y3:=S8 _ _ y2;exact⟨t,y1,dW (nl y3) y3⟩
    refine cW (iG ⟨_,rfl,lx,_,_,_,rfl,rfl,hx3 (S5.trans S6),p1,_,_,rfl,rfl,(show(0:Int)<6 by decide),rfl,decide (x28%6=1),ZH V.bl (decide_eq_decide.mpr ⟨λz=>by injection z,λz=>by show V.int (x28%6)=_;rw[z]⟩),?_⟩);by_cases z6:x28%6=1
    .rw[Zs z6];have l10:0<1+x25%1000:=by lia
     have q1:=Nat.mul_le_mul (Nat.mul_le_mul (show x22.natAbs<=2*10^9 by lia) (show x29.natAbs<=2*10^9 by lia)) (show x28.natAbs<=2*10^9 by lia);rw[<- Int.natAbs_mul,<- Int.natAbs_mul]at q1;have q2:=Nat.mul_le_mul (show x22.natAbs<=2*10^9 by lia) (show x29.natAbs<=2*10^9 by lia);rw[<- Int.natAbs_mul]at q2;refine⟨_,rfl,_,rfl,_,_,rfl,rfl,lx,_,_,_,rfl,rfl,hx3 (S5.trans S6),d1,_,rfl,lx,_,_,_,rfl,rfl,hx3 (S5.trans S6),t1,_,_,rfl,rfl,⟨Bd.sm (by lia),Bd.sm (by lia)⟩,_,rfl,lx,_,_,_,rfl,rfl,hx3 (S5.trans S6),p1,_,_,rfl,rfl,⟨Bd.sm (Y3 q2 (by decide)),Bd.sm (by lia)⟩,_,_,rfl,rfl,Xf (by decide) (by decide),_,_,rfl,rfl,_,rfl,_,rfl,_,_,rfl,rfl,lx,_,_,_,rfl,rfl,hx3 (S5.trans S6),e1,_,_,rfl,rfl,(show(0:Int)<1000 by decide),_,_,rfl,rfl,_,_,rfl,l10,Bd.sm (by lia),λp7 h7=>?_⟩;have b1:=Ac.ug (x22*x29*x28-10^27) (1+x25%1000);have b2:=Ac.q_ (x22*x29*x28-10^27) (1+x25%1000);have b3:=Ac.fu (t:=x22*x29*x28-10^27) l10;exact fin p7 (Ac.lw (x22*x29*x28-10^27) (1+x25%1000)) _ (S6.trans (Same.upd h7)) bI (ok _ b3 (Ac.nW l10) (by lia) (by lia))
    .rw[Zp z6];exact fin pp _ H6 S6 e6 ok6
  .rintro σ' H3 ⟨u5,u6,u7,u8,u9,ds,rfl,S3,h3,dl,dd⟩;subst hR1;dsimp only;exact eY ⟨_,rfl,q l ds H3 (S1.trans S3) (S1.free f2) h3 (aL (Nat.le_of_eq dl) m3) λDs hD d hd=>(dd Ds hD d hd).same λb o e=>let⟨a,c⟩:=lZ e;dW (λz=>a (aH _ z)) c⟩
noncomputable def QG(dss:List (Β))(ps:List (Option Nat)):Prop:=ps.length=dss.length/\∀(k:Nat)ds o,dss[k]?=some ds->ps[k]?=some o->pY (stV o) ds.length=true
noncomputable def Ek:Sp:=λvs H Q _=>∃(c:Int)(r:Addr)(xs:Κ)(n:Nat)(dss:List (Β)),vs=[.int c,.ref r]/\H r=some (.lst xs)/\RD n H xs dss/\dss.length<=12/\(∀ds∈dss,ds.length<=100)/\∀l ps H',Same H H'->H l=none->H' l=some (.lst (ps.map stV))->QG dss ps->Q (.ref l) H'
theorem S_{k m:Nat}(h:k<m):pY (stV (some k)) m=true:=by
 unfold pY;rw[ZZ (by lia)];show(decide ((0:Int)<=(k:Nat))&&decide (((k:Nat):Int)<m))=true;rw[Zs (X2 _),Zs (by lia)];rfl
theorem PB(F:Fun K zf zf Ln f fd)(T:Txt K mg D)(jf:OkF P w K mg base 1 lQ lR tR):cD P w K mg base CX0 2 f fd zq Ek:=by
 refine F.ok zj ?_ ?_
 .rintro _ _ _ _ ⟨c,r,xs,n,dss,rfl,_⟩;rfl
 .rintro cdv A outer s H _ Q E hr ⟨c,r,xs,n,dss,rfl,hr',rd,n12,dm,q⟩;have xl:=rd.len;have z9:100<sizeLine:=by decide
  refine⟨_,(bH (bU (i:=2) zj.nd rfl (Or.inl rfl) (bO jf hr.md (by rfl) (bD (pv 0) (bD (bW d9 (by rfl) T.iT PySem.boot_len (bD (pv 1) bF)) bF))))
   (bH (bU (i:=3) zj.nd rfl (Or.inl rfl) (dZ bF))
   (bH (fQ PassesOwn.never rfl (gP (by rfl) T.lM (bD (bW d9 (by rfl) T.iT PySem.boot_len (bD (pv 1) bF)) bF).mono) (cF (i:=4) zj.nd rfl (Or.inl rfl))
    (bM (dB (cU qF (bW d9 (by rfl) T.iT PySem.boot_len (bD (bT bZ (pv 1) (pv 4) (λ_ _=>rfl)) bF)) bG (cH _))
     (bM (dh (kY (pv 3) (bD gZ bF))))
     (bM (dh (kY (pv 3) (bD (bR je (bT bZ (pv 2) (pv 4) (λ_ _=>rfl)) (bW d9 (by rfl) T.iT PySem.boot_len (bD (bT bZ (pv 1) (pv 4) (λ_ _=>rfl)) bF))) bF)))))))
   (bM (b_ (pv 3)))))),?_⟩
  refine bQ λR1 hR1=>?_;refine bY ⟨_,rfl,_,rfl,r,xs,rfl,hr',c,dss.length,by rw[xl],by exact aL n12 (by decide),λl ys H1 S1 fl hl ln hx=>?_⟩;subst hR1;refine bQ λR1 hR1=>?_;refine bY ⟨bh _,λD1 H2 S2 f2 h2=>?_⟩;subst hR1;refine bQ λR1 hR1=>?_;have S12:=S1.trans S2;have g1:=Same.free S1 f2;dsimp only[cu,L2.start];refine cW (lU ⟨_,rfl,r,xs,rfl,S12 _ _ hr',dss.length,by rw[xl],by exact Y3 n12 (by decide),λk σ H'=>∃u ps,σ=[some (.int c),some (.ref r),some (.ref l),some (.ref D1),u]/\Same H H'/\H' l=some (.lst (ys.map V.int))/\H' D1=some (.lst (ps.map stV))/\QG (dss.take k) ps,⟨none,[],rfl,S12,S2 _ _ hl,h2,rfl,λk ds o e=>by cases e⟩,?_,?_⟩)
  .rintro k σ' H' hk ⟨u,ps,rfl,S3,hl3,h3,pf⟩;have ek:dss[k]?=some dss[k]:=aj hk;obtain⟨ld,ex,hld,dd⟩:=rd.at_ k _ ek;have dk:=dm _ (aU hk);have plen:ps.length=k:=by rw[pf.1,aZ];lia
   have hld3:=S3 _ _ hld;have fin:∀(o:Option Nat)(H4:Hp),Same H' H4->pY (stV o) dss[k].length=true->∃u' ps',[some (V.int c),some (V.ref r),some (V.ref l),some (V.ref D1),some (V.int (k:Nat))]=[some (.int c),some (.ref r),some (.ref l),some (.ref D1),u']/\Same H (upd H4 D1 (.lst (ps.map stV++[stV o])))/\upd H4 D1 (.lst (ps.map stV++[stV o])) l=some (.lst (ys.map V.int))/\upd H4 D1 (.lst (ps.map stV++[stV o])) D1=some (.lst (ps'.map stV))/\QG (dss.take (k+1)) ps':=λo H4 S4 ft=>by
    have nl:l≠D1:=bK hl f2;refine⟨_,ps++[o],rfl,λb u e=>(bL (bK e g1)).trans (S4 _ _ (S3 _ _ e)),(bL nl).trans (S4 _ _ hl3),by rw[bI,bA];rfl,?_,λj ds o' e1 e2=>?_⟩
    .rw[aA,plen,aZ];show k+1=_;lia
    .rw[cI ek]at e1;have l1:(dss.take k).length=k:=by rw[aZ];lia
     by_cases jk:j<k
     .rw[aD (by lia)]at e1 e2;exact pf.2 j ds o' e1 e2
     .have:j=k:=by
       have:=(ao.mp e1).1;rw[aA,l1]at this;simp at this;lia
      subst this;rw[aC (Nat.le_of_eq l1),l1,Nat.sub_self]at e1;rw[aC (Nat.le_of_eq plen),plen,Nat.sub_self]at e2;cases e1;cases e2;exact ft
   refine iG ⟨_,rfl,_,rfl,r,xs,(k:Nat),_,rfl,rfl,S3 _ _ hr',cg (j:=k) ex,ld,_,rfl,hld3,rfl,decide (dss[k].length=0),?_,?_⟩
   .rw[ak];exact ZH V.bl (decide_eq_decide.mpr ⟨λz=>by injection z with z;lia,λz=>by rw[z];rfl⟩)
   by_cases d0:dss[k].length=0
   .rw[Zs d0];exact⟨_,rfl,D1,_,rfl,h3,_,_,rfl,h3,by rw[ak];lia,fin none H' (λ_ _ z=>z) (by rw[d0];rfl)⟩
   .rw[Zp d0];have lk:k<ys.length:=by lia
    have ey:(ys.map V.int)[k]?=some (.int ys[k]):=by rw[aq,aj lk];rfl
    have m0:0<=ys[k]%(dss[k].length:Int):=Z3 _ (by lia);have m1:ys[k]%(dss[k].length:Int)<dss[k].length:=YY _ (by lia);have em:ys[k].fmod ((dss[k].map V.ref).length:Nat)=((ys[k]%(dss[k].length:Int)).toNat:Nat):=by rw[ak,aW _ (X2 _)];lia
    refine⟨_,rfl,D1,_,rfl,h3,_,rfl,_,rfl,l,_,(k:Nat),_,rfl,rfl,hl3,cg (j:=k) ey,_,rfl,_,rfl,r,xs,(k:Nat),_,rfl,rfl,S3 _ _ hr',cg (j:=k) ex,ld,_,rfl,hld3,_,_,rfl,rfl,by rw[ak];lia,_,_,rfl,h3,by rw[ak];lia,?_⟩;dsimp only;rw[em];exact fin (some _) H' (λ_ _ z=>z) (S_ (by lia))
  .rintro σ' H' ⟨u,ps,rfl,S3,hl3,h3,pf⟩;rw[aO]at pf;subst hR1;exact⟨_,rfl,q D1 ps H' S3 g1 h3 pf⟩
noncomputable def ltL:List Nat:=(Str.ofString "abcdefghijklmnopqrstuvwxyz").cps.toList
theorem VD:ltL.length=26:=by decide +kernel
theorem Wx:∀a b:Fin 26,ltL[a.val]?=ltL[b.val]?->a=b:=by decide +kernel
theorem Yt{a b:Int}{c:Nat}(a0:0<=a)(a1:a<26)(b0:0<=b)(b1:b<26)(ha:ltL[a.toNat]?=some c)(hb:ltL[b.toNat]?=some c):a=b:=by
 have:=Wx ⟨a.toNat,by lia⟩ ⟨b.toNat,by lia⟩ (ha.trans hb.symm);have:=ZH Fin.val this;simp only at this;lia
theorem Rv{a:Int}(a0:0<=a)(a1:a<26):∃c,atI (Str.ofString "abcdefghijklmnopqrstuvwxyz").cps.toList a=some c/\ltL[a.toNat]?=some c/\Cr c=true:=by
 obtain⟨k,rfl⟩:=Int.eq_ofNat_of_zero_le a0;have h:k<ltL.length:=by rw[VD];lia
 exact⟨ltL[k],cg (aj h),aj h,Zs (aU h)⟩
noncomputable def rJ(R:Nat->Str->Prop)(D:Addr)(H:Hp)(k:Nat)(ys:Κ)(Hc:Hp):Prop:=∃ss:Ξ,ys=ss.map V.str/\ss.length=k/\(∀i x,ss[i]?=some x->R i x)/\Hc=upd H D (.lst ys)
theorem rJ.next{R:Nat->Str->Prop}{D:Addr}{H:Hp}{k:Nat}{ys:Κ}{Hc:Hp}(h:rJ R D H k ys Hc){x:Str}(h0:R k x):rJ R D H (k+1) (ys++[.str x]) (upd Hc D (.lst (ys++[.str x]))):=by
 obtain⟨ws,rfl,rfl,ha,rfl⟩:=h;refine⟨ws++[x],by rw[bA];rfl,by rw[aA];rfl,λi y hy=>?_,tQ⟩;by_cases hi:i<ws.length
 .rw[aD hi]at hy;exact ha i y hy
 .have hl:=(ao.mp hy).1;rw[aA]at hl;have hl:i<ws.length+1:=hl;have e:i=ws.length:=by lia
  subst e;rw[aC (aF _),Nat.sub_self]at hy;cases hy;exact h0
theorem rJ.at_{R:Nat->Str->Prop}{D:Addr}{H:Hp}{k:Nat}{ys:Κ}{Hc:Hp}(h:rJ R D H k ys Hc):Hc D=some (.lst ys):=by
 obtain⟨ws,rfl,hl,ha,rfl⟩:=h;exact bI
theorem WX{R:Nat->Str->Prop}{ss:Ξ}(h:∀i x,ss[i]?=some x->R i x)(u:∀i j x,i<j->j<ss.length->R i x->R j x->False):ss.Nodup:=by
 unfold List.Nodup;rw[List.pairwise_iff_getElem];intro i j hi hj ij e;exact u i j ss[i] ij hj (h i _ (aj hi)) (by rw[e];exact h j _ (aj hj))
theorem abb{R:Nat->Str->Prop}{P:Str->Prop}{ss:Ξ}(h:∀i x,ss[i]?=some x->R i x)(u:∀i x,i<ss.length->R i x->P x):∀x∈ss,P x:=λx hx=>by
 obtain⟨i,hi⟩:=aV hx;exact u i x (ao.mp hi).1 (h i x hi)
noncomputable def nm2(b:List Nat)(at_:Nat)(x0 st:Int)(i:Nat)(x:Str):Prop:=∃c,ltL[((x0+st*i)%26).toNat]?=some c/\Cr c=true/\x.cps.toList=b.take at_++c::b.drop at_
theorem Xb{b:List Nat}{at_:Nat}{x0 st:Int}{i j:Nat}{x:Str}(hs:st=1\/st=3\/st=5\/st=7\/st=9\/st=11)(ij:i<j)(hj:j<13)(h1:nm2 b at_ x0 st i x)(h2:nm2 b at_ x0 st j x):False:=by
 obtain⟨c,a1,_,e1⟩:=h1;obtain⟨d,a2,_,e2⟩:=h2;have e:=e1.symm.trans e2;have e:=List.append_cancel_left e;injection e with e _;subst e;have:=Yt (Z3 _ (by decide)) (YY _ (by decide)) (Z3 _ (by decide)) (YY _ (by decide)) a1 a2;rcases hs with rfl|rfl|rfl|rfl|rfl|rfl<;>lia
theorem Fe(x:Str):x.cps.toList.length=x.length:=Array.length_toList
theorem Zn{b:List Nat}{at_:Nat}{x0 st:Int}{i:Nat}{x:Str}(hb:b.all Cr=true)(hl:b.length<=7)(h:nm2 b at_ x0 st i x):Wd x:=by
 obtain⟨c,_,hc,e⟩:=h;have l:=Fe x;rw[e,aA,List.length_cons,aZ,List.length_drop]at l;refine⟨?_,by lia,by omega⟩;unfold Lt;rw[e,List.all_eq_true];rw[List.all_eq_true]at hb;intro d hd;rcases Y1.mp hd with hd|hd
 .exact hb d (List.mem_of_mem_take hd)
 .rcases YU.mp hd with rfl|hd
  .exact hc
  .exact hb d (List.mem_of_mem_drop hd)
noncomputable def JX:Sp:=λvs H Q _=>∃(c:Int)(n:Nat),vs=[.int c,.int n]/\n<=12/\∀(l:Addr)(xs:Ξ)H',Same H H'->H l=none->H' l=some (.lst (xs.map V.str))->xs.length=n->(∀x∈xs,Wd x)->xs.Nodup->Q (.ref l) H'
theorem U8(F:Fun K vm vm zm f fd)(T:Txt K mg D):cD P w K mg base CX0 1 f fd vN JX:=by
 refine F.ok Ay ?_ ?_
 .rintro _ _ _ _ ⟨c,n,rfl,_⟩;rfl
 .rintro cdv A outer s H _ Q E hr ⟨c,n,rfl,hn,q⟩;have z1000:1000<=sizeLine:=by decide
  have lL:(Str.ofString "abcdefghijklmnopqrstuvwxyz").length<=sizeLine:=aL (show(Str.ofString "abcdefghijklmnopqrstuvwxyz").length<=1000 by decide +kernel) z1000;refine⟨_,(bH (bU (i:=2) Ay.nd rfl (Or.inr rfl) jL)
   (bH (bU (i:=3) Ay.nd rfl (Or.inr rfl) (bR Xo (bT K_ (pv 2) (bR dU (bR dY (pv 0) bG) bG) (λ_ _=>rfl)) (bR dU (bR dY (pv 0) bG) bG)))
   (bM (b_ (pF (bN zm) Es Es ["_law_k"] (gP (by rfl) T.lM (bD (pv 1) bF).mono) (fZ (i:=0)) fL (bR Xe (pv 4) (bT K_ (pv 3) (bR dU (bR cX (pv 1) (bR cJ bG (pv 0))) bG) (λ_ _=>rfl)))))))),?_⟩
  obtain⟨a,ea⟩ : ∃a,c.fdiv 26%26=a:=⟨_,rfl⟩;obtain⟨b,eb⟩ : ∃b,c.fdiv 676%3=b:=⟨_,rfl⟩;have a0:0<=a/\a<26:=by lia
  have b0:0<=b/\b<3:=by lia
  obtain⟨h1,e1,g1,lc1⟩:=Rv a0.1 a0.2;refine bY ?_;dsimp only[cu,L2.start,List.set_cons_succ,List.set_cons_zero];refine bQ λR1 hR1=>?_;refine bY ⟨_,rfl,_,rfl,_,_,rfl,rfl,⟨by decide,Bd.sm (by decide)⟩,_,_,rfl,rfl,(show(0:Int)<26 by decide),_,_,h1,rfl,rfl,lL,by rw[ea];exact e1,_,rfl,_,_,rfl,rfl,⟨by decide,Bd.sm (by decide)⟩,_,_,rfl,rfl,(show(0:Int)<3 by decide),h1,b,rfl,by rw[<- eb],b0.1,by lia,λz hz=>?_⟩;subst hR1;dsimp only[cu,List.set_cons_succ,List.set_cons_zero];refine rW ?_;have zl:=Fe z;rw[hz,aM]at zl;have za:z.cps.toList.all Cr=true:=by
   rw[hz,List.all_eq_true];intro d hd;rw[(List.mem_replicate.mp hd).2];exact lc1
  refine⟨_,rfl,n,rfl,by exact aL hn (by decide),λD2 hD2=>⟨rJ (nm2 z.cps.toList z.length c 5) D2 H,⟨[],rfl,rfl,by simp,rfl⟩,?_,?_⟩⟩
  .rintro k ys Hc hk j hy;obtain⟨d,e2,g2,lc2⟩:=Rv (a:=(c+5*(k:Int))%26) (Z3 _ (by decide)) (YY _ (by decide));refine⟨_,rfl,_,rfl,_,rfl,_,rfl,_,_,rfl,rfl,⟨Bd.sm (by decide),Bd.sm (by lia)⟩,_,_,rfl,rfl,_,_,rfl,rfl,(show(0:Int)<26 by decide),_,_,d,rfl,rfl,lL,e2,_,_,rfl,rfl,aL (show z.length+1<=1000 by lia) z1000,⟨j.at_,j.next ⟨d,g2,lc2,?_⟩⟩⟩;rw[<- Fe z,aO,List.drop_length];exact Array.toList_append
  .rintro ys Hc ⟨ss,rfl,hsl,hss,rfl⟩ hy;exact q D2 ss _ (Same.upd hD2) hD2 bI hsl (abb hss λi x hi h=>Zn za (by rw[hz,aM];lia) h) (WX hss λi j x ij hj h1 h2=>Xb (.inr (.inr (.inl rfl))) ij (by lia) h1 h2)
structure Wf(most:Nat)(H0 H:Hp)(p r:Addr)(x y:Int)(xs:Κ)(dss:List (Β)):Prop where
 sm:Same H0 H
 hp:H p=some (.tup [.int x,.int y])
 x0:0<=x
 xy:x<y
 y1:y<=100
 gc:Int.gcd x y=1
 hr:H r=some (.lst xs)
 rd:RD dss.length H xs dss
 n1:1<=dss.length
 nm:dss.length<=most
 d3:∀ds∈dss,ds.length<=3
noncomputable def Bf(K:Frag)(a:Addr)(ns:List Int):Sp:=λvs H Q _=>∃(at_ most:Nat),vs=[.ref a,.int at_,.int most]/\SqL K H a (ns.map V.int)/\ns.length<=63/\1<=most/\most<=12/\at_<=100/\∀t p r x y xs dss H',Wf most H H' p r x y xs dss->H' t=some (.tup [.ref p,.ref r])->Q (.ref t) H'
theorem Sx(F:Fun K sy sy yU f fd)(T:Txt K mg D)(a:Addr)(ns:List Int)(mR:OkF P w K mg base 1 tu tD (zu K a ns))(jf:OkF P w K mg base 1 lQ lR tR)(cY:OkF P w K mg base 2 gC gH iU)(Hw:OkF P w K mg base 3 vR vH JN):cD P w K mg base CX0 4 f fd qX (Bf K a ns):=by
 refine F.ok rC ?_ ?_
 .rintro _ _ _ _ ⟨c,n,rfl,_⟩;rfl
 .rintro cdv A outer s H _ Q E hr ⟨at_,most,rfl,hs,n63,m1,m12,a100,q⟩;refine⟨_,(bH (bU (i:=3) rC.nd rfl (Or.inl rfl) (bO jf hr.md (by rfl) (bD (bO mR hr.md (by rfl) (bD (pv 0) (bD (pv 1) bF))) (bD bG bF))))
   (bH (bU (i:=4) rC.nd rfl (Or.inr rfl) (bR cX bG (bR je (bT bZ (pv 3) bG (λ_ _=>rfl)) (pv 2))))
   (bH (bU (i:=5) rC.nd rfl (Or.inl rfl) (bR cX bG (bR je (bT bZ (pv 3) bG (λ_ _=>rfl)) (bT bZ (dZ (bD bG (bD bG bF))) (bR dU (bT bZ (pv 3) bG (λ_ _=>rfl)) bG) (λ_ _=>rfl)))))
   (bH (Nq (bN yU) GX GX ["_law_k"] (gP (by rfl) T.lM (bD (pv 4) bF).mono) (fZ (i:=0)) fL (bO Hw hr.md (by rfl) (bD (bO mR hr.md (by rfl) (bD (pv 1) (bD (bR cX (bR cX (pv 2) bG) (pv 0)) bF))) (bD (pv 0) (bD (pv 5) bF)))) (cF (i:=6) rC.nd rfl (Or.inl rfl)))
   (bM (b_ (dO (bD (bO cY hr.md (by rfl) (bD (bR je (bT bZ (pv 3) bG (λ_ _=>rfl)) (pv 5)) (bD (pv 5) bF))) (bD (pv 6) bF))))))))),?_⟩
  refine bQ λR1 hR1=>?_;refine bY ⟨_,rfl,_,rfl,_,rfl,hs,n63,by exact X2 _,_,4,rfl,by decide,λl ys H1 S1 fl hl ln hx=>?_⟩;obtain⟨a1,b,c,e,rfl⟩ : ∃a b c e,ys=[a,b,c,e]:=by
   match ys,ln with
   |[a,b,c,e],_=>exact⟨a,b,c,e,rfl⟩
  subst hR1;dsimp only[cu,L2.start,List.set_cons_succ,List.set_cons_zero];refine bQ λR1 hR1=>?_;refine bY ⟨_,rfl,l,_,0,_,rfl,rfl,hl,fD,_,rfl,a1,most,rfl,rfl,by lia,1,_,rfl,rfl,?_⟩;obtain⟨n,en,n1,nm⟩ : ∃n:Nat,1+a1.fmod most=n/\1<=n/\n<=most:=by
   have h1:0<=a1.fmod most:=by rw[aW _ (X2 _)];exact Z3 _ (by lia)
   have h2:a1.fmod most<most:=by rw[aW _ (X2 _)];exact YY _ (by lia)
   exact⟨(1+a1.fmod most).toNat,by omega,by omega,by omega⟩
  subst hR1;dsimp only[cu,List.set_cons_succ,List.set_cons_zero];rw[en];refine bQ λR1 hR1=>?_;obtain⟨md,ed,m0,m1'⟩ : ∃md:Int,atI [V.int 12,V.int 100] (c%2)=some (.int md)/\0<md/\md<=100:=by
   obtain z|z:c%2=0\/c%2=1:=by lia
   .exact⟨12,by rw[z];exact cg (j:=0) rfl,by decide,by decide⟩
   .exact⟨100,by rw[z];exact cg (j:=1) rfl,by decide,by decide⟩
  refine bY ⟨_,rfl,l,_,1,_,rfl,rfl,hl,dX,by decide,λp1 H2 S2 f2 h2=>?_⟩;have hl2:=S2 _ _ hl;refine⟨_,rfl,l,_,2,_,rfl,rfl,hl2,cg (j:=2) rfl,c,2,rfl,rfl,(show(0:Int)<2 by decide),p1,_,_,_,rfl,rfl,h2,ed,b,md,rfl,rfl,by exact Int.ne_of_gt m0,1,_,rfl,rfl,?_⟩;obtain⟨t,et,t0,t1⟩ : ∃t:Int,1+b.fmod md=t/\1<=t/\t<=100:=⟨_,rfl,by rw[aW _ (XY m0)];have:=Z3 b (b:=md) (Int.ne_of_gt m0);lia,by rw[aW _ (XY m0)];have:=YY b (b:=md) m0;lia⟩;subst hR1;dsimp only[cu,List.set_cons_succ,List.set_cons_zero];rw[et];refine bQ λR1 hR1=>?_;refine bY (rW ⟨_,rfl,n,rfl,by lia,λD1 hD1=>⟨λk ys Hc=>∃dss:List (Β),dss.length=k/\Same H2 Hc/\Hc D1=some (.lst ys)/\RD n (del [D1] Hc) ys dss/\∀ds∈dss,ds.length<=3,⟨[],rfl,Same.upd hD1,bI,⟨rfl,λk ds z=>by simp at z⟩,by simp⟩,?_,?_⟩⟩)
  .rintro k ys Hc hk ⟨dss,dl,S3,h3,rd,d3⟩ hy;have SS:=S1.trans (S2.trans S3);refine⟨_,rfl,_,rfl,_,_,rfl,rfl,_,rfl,_,_,rfl,rfl,_,rfl,Same.sql SS hs,n63,by lia,_,rfl,_,rfl,_,k,n,rfl,n1,by exact aL nm m12,by lia,λl' ds H4 S4 f4 h4 d4 dd=>?_⟩;have h34:=S4 _ _ h3;have nl:l'∉[D1]:=λz=>by
    rw[YR.mp z,h3]at f4;cases f4
   refine⟨h34,dss++[ds],by rw[aA,dl];rfl,g_ hD1 (S3.trans S4),bI,?_,λds' hd=>?_⟩
   .rw[m7 (by simp)];refine⟨by rw[aA,aA,rd.len];rfl,λj ds' ej=>?_⟩;have rd4:=rd.same (mV (H':=H4) λb o _ e=>S4 _ _ e);by_cases jk:j<dss.length
    .rw[aD jk]at ej;obtain⟨l9,x1,x2⟩:=rd4.at_ j ds' ej;exact⟨l9,by rw[aD (by rw[rd.len];exact jk)];exact x1,x2⟩
    .have lj:=(ao.mp ej).1;rw[aA]at lj;have lj:j<dss.length+1:=lj;have:j=dss.length:=by lia
     subst this;rw[aC (aF _),Nat.sub_self]at ej;cases ej;exact⟨l',by rw[<- rd.len,aC (aF _),Nat.sub_self];rfl,dW nl h4,λd hd=>dd [D1] (λb z=>by rw[YR.mp z];exact⟨_,h3⟩) d hd⟩
   .rcases Y1.mp hd with z|z
    .exact d3 ds' z
    .rw[YR.mp z];exact d4
  .rintro ys Hc ⟨dss,dl,S3,h3,rd,d3⟩ hy;have rd:=rd.same pq;subst hR1;dsimp only[cu,List.set_cons_succ,List.set_cons_zero];have f0:0<=e.fmod t:=by rw[aW _ (by lia)];exact Z3 _ (by omega)
   have f1:e.fmod t<t:=by rw[aW _ (by lia)];exact YY _ (by omega)
   refine eY ⟨_,rfl,l,_,3,_,rfl,rfl,(S2.trans S3) _ _ hl,cg (j:=3) rfl,_,rfl,e,t,rfl,rfl,by omega,_,rfl,_,t,rfl,by exact Int.lt_of_le_of_lt f0 f1,Bd.sm (by omega),λp hp=>⟨_,rfl,fH,λt9 H9 S9 f9 h9=>?_⟩⟩;have y0:=Ac.fu (t:=e.fmod t) (b:=t) (Int.lt_of_le_of_lt f0 f1);have yg:=Ac.nW (t:=e.fmod t) (b:=t) (Int.lt_of_le_of_lt f0 f1);have ye:=Ac.yt (t:=e.fmod t) (b:=t) (Int.lt_of_le_of_lt f0 f1);have y2:=Ac.q_ (e.fmod t) t;generalize(Ac.lw (e.fmod t) t).1=x at *;generalize(Ac.lw (e.fmod t) t).2=y at *;have Sp:=(Same.upd hp).trans S9;subst dl;refine q t9 p D1 x y ys dss H9 ⟨S1.trans (S2.trans (S3.trans Sp)),S9 _ _ bI,?_,?_,by lia,yg,Sp _ _ h3,rd.same Sp,n1,nm,d3⟩ h9
   .refine Int.not_lt.mp λz=>?_;have h1:x*t<0:=Int.mul_neg_of_neg_of_pos z (Int.lt_of_le_of_lt f0 f1);have h2:0<=e.fmod t*y:=Int.mul_nonneg f0 (XY y0);lia
   .refine Int.not_le.mp λz=>?_;have h1:y*t<=x*t:=Int.mul_le_mul_of_nonneg_right z (Int.le_trans f0 (XY f1));have h2:e.fmod t*y<t*y:=Int.mul_lt_mul_of_pos_right f1 y0;rw[Int.mul_comm y t]at h1;omega
theorem WF.keys{H:Hp} : ∀{xs:Κ}{gs:List (Str×Int×Int)}{ws:List (Str×Addr)},WF K H xs gs ws->ws.map (·.1)=gs.map (·.1)
 |_,_,_,.nil=>rfl
 |_,_,_,.cons _ _ r=>by rw[List.map_cons,List.map_cons,r.keys]
noncomputable def qH(ns:Ξ)(ws:List (Nat×Int)):List (Str×Int):=ws.map λg=>(ns.getD g.1 Str.empty,g.2)
noncomputable abbrev gW(ws:List (Nat×Int)):Int:=(ws.map (·.2)).sum
structure vW(K:Frag)(n:Nat)(ns:Ξ)(H H':Hp)(d:Addr)(g:Dr):Prop where
 ex:∃(p lp:Addr)(f:Η)(ws:List (Nat×Int))(xs:Κ),H d=some (.tup [.ref p,.ref lp])/\H p=some (.tup [.int f.1,.int f.2])/\xX H lp ws/\vp n f ws/\ns.length=n/\g.p=p/\WF K H' xs (Ac.ways (qH ns ws) (gW ws)) g.ws
theorem vW.on{n:Nat}{ns:Ξ}{H H' H2:Hp}{d:Addr}{g:Dr}(S:Same H' H2)(h:vW K n ns H H' d g):vW K n ns H H2 d g:=by
 obtain⟨p,lp,f,ws,xs,a1,a2,a3,a4,a5,a6,b⟩:=h.ex;exact⟨p,lp,f,ws,xs,a1,a2,a3,a4,a5,a6,b.same S⟩
theorem vW.up{n:Nat}{ns:Ξ}{H H' H2:Hp}{d:Addr}{g:Dr}(S:Same H H2)(h:vW K n ns H H' d g):vW K n ns H2 H' d g:=by
 obtain⟨p,lp,f,ws,xs,a1,a2,a3,a4,a5,a6,b⟩:=h.ex;exact⟨p,lp,f,ws,xs,S _ _ a1,S _ _ a2,a3.same S,a4,a5,a6,b⟩
theorem Eu{n:Nat}{f:Η}{ns:Ξ}{ws:List (Nat×Int)}(h:vp n f ws):∀z∈qH ns ws,0<z.2:=λz hz=>by
 unfold qH at hz;obtain⟨g,hg,rfl⟩:=YV.mp hz;have:=(h.at_ g hg).2.1;show 0<g.2;lia
theorem IV{n:Nat}{f:Η}{ns:Ξ}{ws:List (Nat×Int)}(h:vp n f ws)(ln:ns.length=n):∀z∈qH ns ws,z.1∈ns:=λz hz=>by
 unfold qH at hz;obtain⟨g,hg,rfl⟩:=YV.mp hz;have:=(h.at_ g hg).1;show ns.getD g.1 Str.empty∈ns;rw[au,aj (by lia)];exact aU _
theorem vW.few{n:Nat}{ns:Ξ}{H H':Hp}{d:Addr}{g:Dr}(h:vW K n ns H H' d g):g.ws.length<=8/\∀z∈g.ws,z.1∈ns:=by
 obtain⟨p,lp,f,ws,xs,a1,a2,a3,a4,a5,a6,b⟩:=h.ex;have lo:∀z∈qH ns ws,0<=z.2:=λz hz=>XY (Eu a4 z hz);have k:=b.keys;constructor
 .have e1:=ZH List.length k;rw[ak,ak]at e1;have e2:=Ac.Tc lo (gW ws);have e3:(qH ns ws).length=ws.length:=ak ..;have:=a4.few;lia
 .intro z hz;have hz:=List.mem_map_of_mem (f:=(·.1)) hz;rw[k]at hz;obtain⟨v,hv,e⟩:=YV.mp hz;obtain⟨u,hu,e'⟩:=YV.mp (Ac.TX hv);rw[<- e,<- e'];exact IV a4 a5 u hu
structure qN(K:Frag)(n:Nat)(ns:Ξ)(H H':Hp)(ds:Β)(gs:List Dr):Prop where
 len:gs.length=ds.length
 at_:∀(j:Nat)(d:Addr)(g:Dr),ds[j]?=some d->gs[j]?=some g->vW K n ns H H' d g
theorem qN.on{n:Nat}{ns:Ξ}{H H' H2:Hp}{ds:Β}{gs:List Dr}(S:Same H' H2)(h:qN K n ns H H' ds gs):qN K n ns H H2 ds gs:=⟨h.len,λj d g e1 e2=>(h.at_ j d g e1 e2).on S⟩
theorem qN.up{n:Nat}{ns:Ξ}{H H' H2:Hp}{ds:Β}{gs:List Dr}(S:Same H H2)(h:qN K n ns H H' ds gs):qN K n ns H2 H' ds gs:=⟨h.len,λj d g e1 e2=>(h.at_ j d g e1 e2).up S⟩
theorem qN.mem{n:Nat}{ns:Ξ}{H H':Hp}{ds:Β}{gs:List Dr}(h:qN K n ns H H' ds gs){g:Dr}(hg:g∈gs):∃d,vW K n ns H H' d g:=by
 obtain⟨j,hj⟩:=aV hg;have lj:j<ds.length:=by rw[<- h.len];exact(ao.mp hj).1
 exact⟨_,h.at_ j _ g (aj lj) hj⟩
theorem qN.snoc{n:Nat}{ns:Ξ}{H H':Hp}{ds:Β}{gs:List Dr}{d:Addr}{g:Dr}(h:qN K n ns H H' ds gs)(hd:vW K n ns H H' d g):qN K n ns H H' (ds++[d]) (gs++[g]):=by
 have l:=h.len;refine⟨by rw[aA,aA,l];rfl,λj d' g' e1 e2=>?_⟩;rcases jY e1 with⟨a,b⟩|⟨a,b⟩<;>rcases jY e2 with⟨c,e⟩|⟨c,e⟩
 .exact h.at_ j d' g' b e
 .lia
 .lia
 .subst b;subst e;exact hd
theorem t_.snoc{H:Hp}{xs:Κ}{gs:List Dr}{s:Addr}{g:Dr}(h:t_ D H xs gs)(hs:Uz D H s g):t_ D H (xs++[.ref s]) (gs++[g]):=by
 have l:=h.len;refine⟨by rw[aA,aA,l];rfl,λk g' e=>?_⟩;rcases jY e with⟨a,b⟩|⟨a,b⟩
 .obtain⟨s',c,d⟩:=h.at_ k g' b;exact⟨s',by rw[aD (by lia)];exact c,d⟩
 .subst b;exact⟨s,by rw[aC (by lia),l,a,Nat.sub_self];rfl,hs⟩
theorem jH.snoc{H:Hp}{xs ys:Κ}{rms:List (Str×List Dr)}{t l:Addr}{g:Str×List Dr}(h:jH D H xs rms)(ht:H t=some (.tup [.str g.1,.ref l]))(hl:H l=some (.lst ys))(hd:t_ D H ys g.2):jH D H (xs++[.ref t]) (rms++[g]):=by
 have le:=h.len;refine⟨by rw[aA,aA,le];rfl,λk g' e=>?_⟩;rcases jY e with⟨a,b⟩|⟨a,b⟩
 .obtain⟨t',l',ys',c,d⟩:=h.at_ k g' b;exact⟨t',l',ys',by rw[aD (by lia)];exact c,d⟩
 .subst b;exact⟨t,l,ys,by rw[aC (by lia),le,a,Nat.sub_self];rfl,ht,hl,hd⟩
structure lq(K:Frag)(n:Nat)(H:Hp)(dss:List (Β))(rms:List (Str×List Dr)):Prop where
 len:rms.length=dss.length
 at_:∀(j:Nat)(ds:Β)(g:Str×List Dr),dss[j]?=some ds->rms[j]?=some g->qN K n (rms.map (·.1)) H H ds g.2
theorem lq.same{n:Nat}{H H':Hp}{dss:List (Β)}{rms:List (Str×List Dr)}(h:lq K n H dss rms)(S:Same H H'):lq K n H' dss rms:=⟨h.len,λj ds g e1 e2=>((h.at_ j ds g e1 e2).on S).up S⟩
theorem vK{as:Β}{H:Hp}(hls:∀l∈as,∃zs,H l=some (.lst zs)){b:Addr}{u:HO}(nu:∀zs,u≠.lst zs)(e:H b=some u):del as H b=some u:=dW (λz=>by
 obtain⟨zs,hz⟩:=hls b z;rw[hz]at e;injection e with e;exact nu zs e.symm) e
theorem WF.off{as:Β}{H:Hp}(hls:∀l∈as,∃zs,H l=some (.lst zs)){xs:Κ}{gs:List (Str×Int×Int)}{ws:List (Str×Addr)}(h:WF K H xs gs ws):WF K (del as H) xs gs ws:=by
 refine h.imp (λt ys e=>vK hls (by intro z y;cases y) e) λc xs e=>?_;rcases e with(e|⟨o,e⟩)|e
 .exact .inl (.inl (vK hls (by intro z y;cases y) e))
 .exact .inl (.inr ⟨o,vK hls (by intro z y;cases y) e⟩)
 .exact .inr e
theorem WF.get{H:Hp} : ∀{xs:Κ}{gs:List (Str×Int×Int)}{ws:List (Str×Addr)}{k:Nat}{g:Str×Addr},WF K H xs gs ws->ws[k]?=some g->∃x,gs[k]?=some (g.1,x)/\SqT K H g.2 [.int x.1,.int x.2]
 |_,_,_,_,_,.nil,e=>by simp at e
 |_,_,_,0,_,.cons (x:=x) (y:=y) h1 h2 r,e=>by
  rw[List.getElem?_cons_zero]at e;cases e;exact⟨(x,y),rfl,h2⟩
 |_,_,_,k+1,_,.cons h1 h2 r,e=>by
  rw[List.getElem?_cons_succ]at e ⊢;exact r.get e
theorem WF.len2{H:Hp} : ∀{xs:Κ}{gs:List (Str×Int×Int)}{ws:List (Str×Addr)},WF K H xs gs ws->ws.length=gs.length
 |_,_,_,.nil=>rfl
 |_,_,_,.cons _ _ r=>ZH (· + 1) r.len2
theorem aaz{u S:Int}(hS:0<S)(u0:0<=u)(u1:u<=S):0<=(Ac.lw u S).1/\(Ac.lw u S).1<=(Ac.lw u S).2:=by
 have p:=Ac.fu (t:=u) hS;have e:=Ac.yt (t:=u) hS;generalize(Ac.lw u S).1=x at *;generalize(Ac.lw u S).2=y at *;constructor
 .refine Int.not_lt.mp λz=>?_;have h1:x*S<0:=Int.mul_neg_of_neg_of_pos z hS;have h2:0<=u*y:=Int.mul_nonneg u0 (XY p);lia
 .refine Int.not_lt.mp λz=>?_;have h1:y*S<x*S:=Int.mul_lt_mul_of_pos_right z hS;have h2:u*y<=S*y:=Int.mul_le_mul_of_nonneg_right u1 (XY p);have h3:S*y=y*S:=Int.mul_comm ..;lia
theorem Nt:∀{gs acc:List (Str×Int)},((acc++gs).map (·.1)).Nodup->gs.foldl (λa g=>Ac.put a g.1 (Ac.look a g.1+g.2)) acc=acc++gs
 |[],acc,_=>(List.append_nil _).symm
 |g::gs,acc,nd=>by
  have n0:g.1∉acc.map (·.1):=λz=>by
   rw[bA,List.nodup_append]at nd;exact nd.2.2 _ z g.1 (by simp) rfl
  have e1:Ac.look acc g.1=0:=by
   unfold Ac.look;rw[List.find?_eq_none.mpr λx hx=>by simpa using λz:x.1=g.1=>n0 (z ▸ List.mem_map_of_mem hx)]
   rfl
  have e2:Ac.put acc g.1 g.2=acc++[g]:=by
   unfold Ac.put;rw[ZZ];intro z;obtain⟨x,hx,e⟩:=List.any_eq_true.mp z;have e:x.1=g.1:=of_decide_eq_true e;exact n0 (e ▸ List.mem_map_of_mem hx)
  rw[List.foldl_cons,e1,Int.zero_add,e2,Nt (by rw[X9];exact nd),X9]
  rfl
theorem TV{gs:List (Str×Int)}{S:Int}(nd:(gs.map (·.1)).Nodup)(lo:∀g∈gs,0<g.2):Ac.ways gs S=gs.map λg=>(g.1,Ac.lw g.2 S):=by
 unfold Ac.ways Ac.gR;rw[Nt (acc:=[]) nd,List.nil_append,List.filter_eq_self.mpr λg hg=>Zs (lo g hg)]
theorem XC{n:Nat}{f:Η}{ns:Ξ}{ws:List (Nat×Int)}(h:vp n f ws)(ln:ns.length=n)(nd:ns.Nodup):((qH ns ws).map (·.1)).Nodup:=by
 unfold qH;rw[List.map_map];have a:=h.nd;have hb:∀r∈ws.map (·.1),r<n:=λr hr=>by
  obtain⟨g,hg,rfl⟩:=YV.mp hr;exact(h.at_ g hg).1
 have e:ws.map ((·.1) ∘ λg:Nat×Int=>(ns.getD g.1 Str.empty,g.2))=(ws.map (·.1)).map λr=>ns.getD r Str.empty:=by rw[List.map_map];rfl
 rw[e];generalize ws.map (·.1)=rs at a hb;unfold List.Nodup at *;rw[List.pairwise_map];refine a.imp_of_mem λ{x y}hx hy ne z=>ne ?_;have lx:=hb x hx;have ly:=hb y hy;have e1:=aj (l:=ns) (i:=x) (by lia);have e2:=aj (l:=ns) (i:=y) (by lia);rw[au,au,e1,e2]at z;exact pH nd e1 (by rw[e2];exact ZH some z.symm)
theorem I8{S:Int}(hS:0<S):∀{ws:List (Nat×Int)},Rk (chL ws S) (λ_=>1)=((gW ws:Int):Rat)/(S:Rat)
 |[]=>by
  show(0:Rat)=((0:Int):Rat)/(S:Rat);rw[Rat.intCast_zero]
  grind
 |g::ws=>by
  show vl (Ac.lw g.2 S)*1+Rk (chL ws S) (λ_=>1)=(((g.2+gW ws:Int)):Rat)/(S:Rat);rw[I8 hS,zx hS,Rat.intCast_add];have:=dR hS;unfold vl
  grind
theorem Je{ws:List (Nat×Int)}(lo:∀g∈ws,0<=g.2):0<=gW ws/\∀g∈ws,g.2<=gW ws:=by
 induction ws with
 |nil=>exact⟨by decide,by simp⟩
 |cons a ws ih =>
  have h:=ih λg hg=>lo g (aH _ hg);have a0:=lo a aN;have e:gW (a::ws)=a.2+gW ws:=rfl;refine⟨by lia,λg hg=>?_⟩;rcases YU.mp hg with z|z
  .rw[z];omega
  .have:=h.2 g z;lia
theorem Xz{ws:List (Nat×Int)}{b:Int}(hi:∀g∈ws,g.2<=b):gW ws<=b*ws.length:=by
 induction ws with
 |nil=>show(0:Int)<=b*((0:Nat):Int);lia
 |cons a ws ih =>
  have h:=ih λg hg=>hi g (aH _ hg);have a0:=hi a aN;have e:gW (a::ws)=a.2+gW ws:=rfl;rw[e,List.length_cons,Int.natCast_add,Int.mul_add];lia
theorem vp.sum{n:Nat}{f:Η}{ws:List (Nat×Int)}(h:vp n f ws):0<gW ws/\gW ws<=54:=by
 have lo:∀g∈ws,0<=g.2:=λg hg=>by have:=(h.at_ g hg).2.1;lia
 have h1:=Je lo;have h2:=Xz λg hg=>(h.at_ g hg).2.2;have h3:=h.few;have h4:=h.ne;have h5:=h1.2 _ (aU h4);have h6:=(h.at_ _ (aU h4)).2.1;lia
theorem vp.door{n:Nat}{f:Η}{ws:List (Nat×Int)}(h:vp n f ws):Jy n (gW ws).toNat (chL ws (gW ws)):=by
 obtain⟨S0,S1⟩:=h.sum;have lo:∀g∈ws,0<=g.2:=λg hg=>by have:=(h.at_ g hg).2.1;lia
 have l:(chL ws (gW ws)).length=ws.length:=ak ..;refine⟨by lia,by lia,by rw[l];have:=h.few;exact aL this (by decide),?_,λc hc=>?_⟩
 .unfold oK;rw[aO,I8 S0];have:=dR S0
  grind
 .unfold chL at hc;obtain⟨g,hg,rfl⟩:=YV.mp hc;exact⟨(h.at_ g hg).1,Ac.fu S0,by rw[Int.toNat_of_nonneg (XY S0)];exact Int.ediv_dvd_of_dvd (Int.gcd_dvd_right g.2 _),aaz S0 (lo g hg) ((Je lo).2 g hg)⟩
structure Bl(n:Nat)(H:Hp)(d:Addr)(fc:Η×Θ):Prop where
 ex:∃(p lp:Addr)(ws:List (Nat×Int)),H d=some (.tup [.ref p,.ref lp])/\H p=some (.tup [.int fc.1.1,.int fc.1.2])/\xX H lp ws/\vp n fc.1 ws/\fc.2=chL ws (gW ws)
theorem Bl.same{n:Nat}{H H':Hp}{d:Addr}{fc:Η×Θ}(h:Bl n H d fc)(S:Same H H'):Bl n H' d fc:=by
 obtain⟨p,lp,ws,a,b,c,e,f⟩:=h.ex;exact⟨p,lp,ws,S _ _ a,S _ _ b,c.same S,e,f⟩
structure Eb(fc:Η×Θ):Prop where
 fq:Fq fc.1
theorem vW.fc{n:Nat}{ns:Ξ}{H:Hp}{d:Addr}{g:Dr}(h:vW K n ns H H d g)(nd:ns.Nodup)(ln:ns.length=n):∃fc:Η×Θ,DrN K H ns g fc.1 fc.2/\Ed n fc.1 fc.2/\Bl n H d fc/\Eb fc:=by
 obtain⟨p,lp,f,ws,xs,a1,a2,a3,a4,a5,a6,b⟩:=h.ex;obtain⟨S0,S1⟩:=a4.sum;have dE:=a4.door;have fq:Fq f:=⟨a4.f0,a4.fg,aL a4.fa (by decide),by
  have h1:=a4.fb;have h2:=a4.f0;have:(10:Nat)^3<=10^40:=by decide
  omega⟩
 have wl:=b.len2;rw[TV (XC a4 ln nd) (Eu a4)]at b wl;have nl:(qH ns ws).length=ws.length:=ak ..;have cl:(chL ws (gW ws)).length=ws.length:=ak ..;rw[ak,nl]at wl;refine⟨(f,chL ws (gW ws)),⟨by rw[a6];exact a2,by rw[wl,cl],λk u c e1 e2=>?_⟩,⟨⟨fq.pos,fq.sa,fq.sb⟩,dE.few,λc hc=>?_,?_⟩,⟨p,lp,ws,a1,a2,a3,a4,rfl⟩,⟨fq⟩⟩
 .obtain⟨z,ez,hz⟩:=b.get e1;rw[aq]at ez;unfold qH at ez;unfold chL at e2;rw[aq]at ez e2;cases ew:ws[k]? with
  |none=>rw[ew]at e2;cases e2
  |some v =>
   rw[ew]at e2 ez;cases e2;have ez:=Option.some.inj ez;have e3:ns.getD v.1 Str.empty=u.1:=ZH Prod.fst ez;have e4:Ac.lw v.2 (gW ws)=z:=ZH Prod.snd ez;have lv:=(a4.at_ v (aB ew)).1;rw[<- e4]at hz;refine⟨?_,hz⟩;rw[<- e3,au,aj (show v.1<ns.length by lia)];rfl
 .have h1:=dE.ch c hc;unfold chL at hc;obtain⟨v,hv,rfl⟩:=YV.mp hc;have b1:=Ac.ug v.2 (gW ws);have b2:=Ac.q_ v.2 (gW ws);have:=a4.at_ v hv;have:(10:Nat)^3<=10^40:=by decide
  exact⟨h1.1,Ac.fu S0,Ac.nW S0,by show(Ac.lw v.2 (gW ws)).1.natAbs<=_;lia,by show(Ac.lw v.2 (gW ws)).2.natAbs<=_;omega⟩
 .have dv:lvB (chF (chL ws (gW ws))) ∣ (gW ws).natAbs:=Lv.JW.mpr λc hc=>by
   unfold O8 chF at hc;obtain⟨f,hf,rfl⟩:=YV.mp hc;obtain⟨c2,hc2,rfl⟩:=YV.mp hf;have:=(dE.ch c2 hc2).2.2.1;rw[Int.toNat_of_nonneg (XY S0)]at this;exact Int.natAbs_dvd_natAbs.mpr this
  have le:=Nat.le_of_dvd (by omega) dv;unfold Bn;rw[XT];show lvB (chF (chL ws (gW ws)))<=_;have:(10:Nat)^3<=10^60:=by decide
  omega
theorem qQ{α β:Type} : ∀{l:List α}{P:Nat->α->β->Prop},(∀k a,l[k]?=some a->∃b,P k a b)->∃m:List β,m.length=l.length/\∀k a b,l[k]?=some a->m[k]?=some b->P k a b
 |[],_,_=>⟨[],rfl,λk a b e=>by simp at e⟩
 |a::l,P,h=>by
  obtain⟨b,hb⟩:=h 0 a rfl;obtain⟨m,lm,hm⟩:=qQ (l:=l) (P:=λk=>P (k+1)) λk a e=>h (k+1) a e;refine⟨b::m,ZH (· + 1) lm,λk a' b' e1 e2=>?_⟩;cases k with
  |zero =>
   cases e1;cases e2;exact hb
  |succ k=>exact hm k a' b' e1 e2
theorem qN.fcs{n:Nat}{ns:Ξ}{H:Hp}{ds:Β}{gs:List Dr}(h:qN K n ns H H ds gs)(nd:ns.Nodup)(ln:ns.length=n):∃fcs:Δ,QM K H ns n gs fcs/\fcs.length=ds.length/\∀(k:Nat)d fc,ds[k]?=some d->fcs[k]?=some fc->Bl n H d fc/\Eb fc:=by
 obtain⟨m,lm,hm⟩:=qQ (l:=ds) (P:=λk d(fc:Η×Θ)=>∀g,gs[k]?=some g->DrN K H ns g fc.1 fc.2/\Ed n fc.1 fc.2/\Bl n H d fc/\Eb fc) λk d e=>by
  have lk:k<gs.length:=by rw[h.len];exact(ao.mp e).1
  obtain⟨fc,p⟩:=(h.at_ k d _ e (aj lk)).fc nd ln;exact⟨fc,λg eg=>by rw[aj lk]at eg;cases eg;exact p⟩
 refine⟨m,⟨by rw[h.len,lm],λk d fc e1 e2=>?_⟩,lm,λk d fc e1 e2=>?_⟩
 .have lk:k<ds.length:=by rw[<- lm];exact(ao.mp e2).1
  obtain⟨a,b,_⟩:=hm k _ fc (aj lk) e2 d e1;exact⟨a,b⟩
 .have lk:k<gs.length:=by rw[h.len];exact(ao.mp e1).1
  exact(hm k d fc e1 e2 _ (aj lk)).2.2
structure Yo(n:Nat)(H:Hp)(ds:Β)(fcs:Δ):Prop where
 len:fcs.length=ds.length
 at_:∀(j:Nat)d fc,ds[j]?=some d->fcs[j]?=some fc->Bl n H d fc
structure uE(H:Hp)(r:Addr)(fcss:Γ):Prop where
 ex:∃xs,H r=some (.lst xs)/\xs.length=fcss.length/\∀(k:Nat)fcs,fcss[k]?=some fcs->∃l ds,xs[k]?=some (.ref l)/\H l=some (.lst (ds.map V.ref))/\ds.length<=64/\Yo fcss.length H ds fcs
theorem uE.same{H H':Hp}{r:Addr}{fcss:Γ}(S:Same H H')(h:uE H r fcss):uE H' r fcss:=by
 obtain⟨xs,a,b,c⟩:=h.ex;refine⟨xs,S _ _ a,b,λk fcs e=>?_⟩;obtain⟨l,ds,d1,d2,d3,d4⟩:=c k fcs e;exact⟨l,ds,d1,S _ _ d2,d3,d4.len,λj d fc e1 e2=>(d4.at_ j d fc e1 e2).same S⟩
theorem SX{n m:Nat}{H:Hp}{o p r:Addr}{x y:Int}{xs:Κ}{dss:List (Β)}{rms:List (Str×List Dr)}(hh:gY D H o p rms)(ok:JH rms)(hi:lq K n H dss rms)(hp:H p=some (.tup [.int x,.int y]))(x0:0<=x)(xy:x<y)(y1:y<=100)(hr:H r=some (.lst xs))(rd:RD n H xs dss)(ld:dss.length=n)(n12:n<=12)(dm:∀ds∈dss,ds.length<=m)(m3:m<=6) :
  ∃fcss,fcss.length=n/\Dy K D H o (x,y) fcss/\uE H r fcss/\∀fcs∈fcss,fcs.length<=m/\∀fc∈fcs,Eb fc:=by
 have rl:rms.length=n:=by rw[hi.len,ld]
 have b:∀z:Int,0<=z->z<=100->Bn 40 z:=λz h1 h2=>by unfold Bn;lia
 have fw:∀g∈rms,∀d∈g.2,d.ws.length<=100:=λg hg d hd=>by
  obtain⟨j,hj⟩:=aV hg;have lj:j<dss.length:=by rw[<- hi.len];exact(ao.mp hj).1
  obtain⟨_,z⟩:=(hi.at_ j _ g (aj lj) hj).mem hd;exact aL z.few.1 (by decide)
 obtain⟨fcss,fl,hf⟩:=qQ (l:=rms) (P:=λk g(fcs:Δ)=>QM K H (rms.map (·.1)) n g.2 fcs/\(∃l ds,xs[k]?=some (.ref l)/\H l=some (.lst (ds.map V.ref))/\ds.length<=64/\Yo n H ds fcs)/\fcs.length<=m/\∀fc∈fcs,Eb fc) λk g eg=>by
  have lk:k<n:=by rw[<- rl];exact(ao.mp eg).1
  have ed:dss[k]?=some (dss[k]'(by lia)):=aj _;have ri:=hi.at_ k _ _ ed eg;obtain⟨l,a1,a2,_⟩:=rd.at_ k _ ed;obtain⟨fcs,d1,d2,d3⟩:=ri.fcs ok.nd (by rw[ak,rl]);have dl:=dm _ (aB ed);refine⟨fcs,d1,⟨l,_,a1,a2,by lia,d2,λj d fc e1 e2=>(d3 j d fc e1 e2).1⟩,by exact aL (Nat.le_of_eq d2) dl,λfc hfc=>?_⟩;obtain⟨j,ej⟩:=aV hfc;have lj:j<(dss[k]'(by lia)).length:=by rw[<- d2];exact(ao.mp ej).1
  exact(d3 j _ fc (aj lj) ej).2
 have fn:fcss.length=n:=by rw[fl,rl]
 refine⟨fcss,fn,⟨⟨p,rms,hh,⟨ok.len,ok.few,fw⟩,ok.nd,hp,by rw[fl],λk g fcs e1 e2=>by rw[fn];exact(hf k g fcs e1 e2).1⟩,by show 0<y;exact Int.lt_of_le_of_lt x0 xy,b _ x0 (by show x<=100;exact Int.le_trans (XY xy) y1),b _ (by show 0<=y;exact Int.le_trans x0 (XY xy)) y1,by exact aL (Nat.le_of_eq fn) n12⟩,⟨xs,hr,by rw[rd.len,ld,fn],λk fcs e=>?_⟩,λfcs hfc=>?_⟩
 .have lk:k<rms.length:=by rw[<- fl];exact(ao.mp e).1
  rw[fn];exact(hf k _ fcs (aj lk) e).2.1
 .obtain⟨k,e⟩:=aV hfc;have lk:k<rms.length:=by rw[<- fl];exact(ao.mp e).1
  exact(hf k _ fcs (aj lk) e).2.2
noncomputable def bJ(D1:Addr)(gs:List (Str×Int))(S:Int)(H:Hp)(k:Nat)(ys:Κ)(H':Hp):Prop:=Same H H'/\H' D1=some (.lst ys)/\PW H' ys (gs.take k) S
theorem PW.snocT{H:Hp}{xs:Κ}{gs:List (Str×Int)}{S x:Int}{m:Str}{t c:Addr}(h:PW H xs gs S)(ht:H t=some (.tup [.str m,.ref c]))(hc:H c=some (.tup [.int (Ac.lw x S).1,.int (Ac.lw x S).2])):PW H (xs++[.ref t]) (gs++[(m,x)]) S:=by
 refine⟨by rw[aA,aA,h.len];rfl,λk g' e=>?_⟩;by_cases hk:k<gs.length
 .rw[aD hk]at e;obtain⟨t',c',a,b⟩:=h.at_ k g' e;exact⟨t',c',by rw[aD (by rw[h.len];exact hk)];exact a,b⟩
 .rw[aC (Nat.le_of_not_lt hk)]at e;have e0:k-gs.length=0:=by
   have:=(ao.mp e).1;simp at this;omega
  rw[e0]at e;cases e;refine⟨t,c,?_,ht,hc⟩;rw[aC (by rw[h.len];exact Nat.le_of_not_lt hk),h.len,e0];rfl
noncomputable def JT:Ξ:=(Str.ofString "gdab").cps.toList.map λc=>⟨#[c]⟩
theorem Ui:JT.Nodup:=by decide +kernel
theorem Vi:∀t∈JT,t.length<=1000/\kE t.cps.toList=true:=by decide +kernel
theorem T6{j:Nat}(h:j<4):∃c,atI (Str.ofString "gdab").cps.toList (j:Int)=some c/\JT[j]?=some ⟨#[c]⟩:=by
 have l:(Str.ofString "gdab").cps.toList.length=4:=by decide +kernel
 have e:=aj (l:=(Str.ofString "gdab").cps.toList) (i:=j) (aR h (by decide));exact⟨_,cg e,by unfold JT;rw[aq,e];rfl⟩
theorem X4{n:Nat}{f:Η}{ns:Ξ}{ws:List (Nat×Int)}(h:vp n f ws)(ln:ns.length=n)(wd:∀x∈ns,Wd x):Wt (qH ns ws) (gW ws):=by
 obtain⟨W0,W1⟩:=h.sum;refine⟨W0,by exact Int.le_trans W1 (by decide),?_,λg hg=>?_,λg hg=>XY (Eu h g hg),?_⟩
 .have:=h.few;have e:(qH ns ws).length=ws.length:=ak ..;lia
 .have w:=wd _ (IV h ln g hg);exact⟨aL w.hi (by decide),w.word⟩
 .unfold qH;rw[List.map_map];rfl
inductive Em(K:Frag)(D:Adr)(vs:Κ)(H:Hp)(Q:VK):Prop
 |mk (p r l0:Addr) (x y:Int) (xs:Κ) (dss:List (Β)) (ns:Ξ) (h0:vs=[.ref p,.ref r,.ref l0]) (h1:H p=some (.tup [.int x,.int y])) (h2:0<=x) (h3:x<y) (h4:y<=100) (h5:Int.gcd x y=1) (h6:H r=some (.lst xs)) (h7:RD dss.length H xs dss) (h8:dss.length<=12) (h9:∀ds∈dss,ds.length<=3) (h10:H l0=some (.lst (ns.map V.str))) (h11:ns.length=dss.length) (h12:∀x∈ns,Wd x) (h13:ns.Nodup)
  (h14:∀(o:Addr)(H':Hp)(rms:List (Str×List Dr)),Same H H'->H o=none->gY D H' o p rms->JH rms->lq K dss.length H' dss rms->Q (.ref o) H'):Em K D vs H Q
noncomputable def Ji(K:Frag)(D:Adr):Sp:=λvs H Q _=>Em K D vs H Q
theorem Rt(F:Fun K vY vY yZ f fd)(T:Txt K mg D)(lV:OkF P w K mg base 3 mH mG uG)(oE:OkI P w K mg base (CXO P w) 5 D.Mixed_init j4 (uc K D))(GK:OkI P w K mg base (CXO P w) 4 D.Hall_init lD (uY K D)):cD P w K mg base CX0 8 f fd vL (Ji K D):=by
 refine F.ok kj ?_ ?_
 .rintro _ _ _ _ ⟨p,r,l0,x,y,xs,dss,ns,rfl,_⟩;rfl
 .rintro cdv A outer s H _ Q E hr ⟨p,r,l0,x,y,xs,dss,ns,rfl,hp,x0,xy,y1,gx,hrm,rd,n12,hm,hl0,lns,wns,nns,q⟩;refine⟨_,(bH (bU (i:=3) kj.nd rfl (Or.inl rfl) (dZ bF))
   (bH (fQ PassesOwn.never rfl (gP (by rfl) T.lM (bD (bW d9 (by rfl) T.iT PySem.boot_len (bD (pv 1) bF)) bF).mono) (cF (i:=4) kj.nd rfl (Or.inl rfl))
    (bH (bU (i:=5) kj.nd rfl (Or.inl rfl) (dZ bF))
    (bH (fQ PassesOwn.never rfl (gP (by rfl) T.lM (bD (bW d9 (by rfl) T.iT PySem.boot_len (bD (bT bZ (pv 1) (pv 4) (λ_ _=>rfl)) bF)) bF).mono) (cF (i:=6) kj.nd rfl (Or.inl rfl))
     (bH (Bx (bT bZ (bT bZ (pv 1) (pv 4) (λ_ _=>rfl)) (pv 6) (λ_ _=>rfl)) (fj (n:=2) rfl (cC (cF (i:=8) kj.nd rfl (Or.inl rfl)) (cC (cF (i:=9) kj.nd rfl (Or.inl rfl)) eN))))
     (bH (Nq (bN yZ) Ge Ge ["_law_room", "_law_chance"] (dD ((bO lV hr.md (by rfl) (bD (pv 9) bF))).mono) (fj (n:=2) rfl (cC (fZ (i:=0)) (cC (fZ (i:=1)) eN))) fL (dO (bD (bT bZ (pv 4) (pv 0) (λ_ _=>rfl)) (bD (pv 1) bF))) (cF (i:=7) kj.nd rfl (Or.inl rfl)))
     (bM (dh (kY (pv 5) (bD (Km T.Te oE hr.md (by rfl) T.WW Nj (bD (bT K_ jL (pv 6) (λ_ _=>rfl)) (bD (pv 8) (bD (pv 7) bF)))) bF)))))))
    (bM (dh (kY (pv 3) (bD (dO (bD (bT bZ (pv 2) (pv 4) (λ_ _=>rfl)) (bD (pv 5) bF))) bF)))))))
   (bM (b_ (Km T.W_ GK hr.md (by rfl) T.YK Nj (bD (pv 0) (bD (pv 3) bF))))))),?_⟩
  have z9:100<sizeLine:=by decide
  have lx:xs.length=dss.length:=rd.len;have lG:(Str.ofString "gdab").length<=sizeLine:=aL (show(Str.ofString "gdab").length<=100 by decide +kernel) (Y2 z9);have mk:∀{G:Hp}{C s dx:Addr},G s=none->G dx=none->¬dx=s->Same G (upd (upd G dx (.own s)) s (.ins C dx [])):=λ{G C s dx}h1 h2 h3 b o e=>by
   rw[bL (bK e h1),bL (bK e h2)];exact e
  refine bQ λR1 hR1=>?_;refine bY ⟨bh _,λD1 H1 S1 f1 h1=>?_⟩;subst hR1;dsimp only[cu,L2.start,List.set_cons_succ,List.set_cons_zero];refine bQ λR1 hR1=>?_;refine cW (lU ⟨_,rfl,r,xs,rfl,S1 _ _ hrm,dss.length,by rw[lx],by exact Y3 n12 (by decide),λk σ H'=>∃(u4 u5 u6 u7 u8 u9:Option V)(zs:Κ)(rms:List (Str×List Dr)),σ=[some (.ref p),some (.ref r),some (.ref l0),some (.ref D1),u4,u5,u6,u7,u8,u9]/\Same H H'/\H' D1=some (.lst zs)/\jH D (del [D1] H') zs rms/\rms.map (·.1)=ns.take k/\(∀g∈rms,(g.2.map (·.nm)).Nodup)/\∀(j:Nat)(ds:Β)(g:Str×List Dr),dss[j]?=some ds->rms[j]?=some g->qN K dss.length ns H (del [D1] H') ds g.2,⟨none,none,none,none,none,none,[],[],rfl,S1,h1,⟨rfl,λk g e=>by simp at e⟩,rfl,by simp,λj ds g _ e=>by simp at e⟩,?_,?_⟩)
  .rintro k σ' H2 hk ⟨u4,u5,u6,u7,u8,u9,zs,rms,rfl,S2,hD,hR,hn,hd,hi⟩;have ed:dss[k]?=some dss[k]:=aj hk;have em:=aU hk;have en:ns[k]?=some (ns[k]'(by lia)):=aj _;generalize dss[k]=ds at ed em;generalize ns[k]'(by lia)=nk at en;have dm:=hm ds em;obtain⟨lk,ek,hlk,dd⟩:=rd.at_ k ds ed;dsimp only[cu,List.set_cons_succ,List.set_cons_zero];refine bQ λR2 hR2=>?_;refine bY ⟨bh _,λD2 H3 S3 f3 h3=>?_⟩;subst hR2;dsimp only[cu,List.set_cons_succ,List.set_cons_zero];have S03:=S2.trans S3;refine bQ λR2 hR2=>?_;refine cW (lU ⟨_,rfl,_,rfl,r,xs,_,_,rfl,rfl,S03 _ _ hrm,cg ek,lk,_,rfl,S03 _ _ hlk,ds.length,by rw[ak],by exact Y3 dm (by decide),λj σ H'=>∃(u6 u7 u8 u9:Option V)(zs2:Κ)(gs:List Dr),σ=[some (.ref p),some (.ref r),some (.ref l0),some (.ref D1),some (.int (k:Nat)),some (.ref D2),u6,u7,u8,u9]/\Same H2 H'/\H' D2=some (.lst zs2)/\t_ D (del [D1,D2] H') zs2 gs/\gs.map (·.nm)=JT.take j/\qN K dss.length ns H (del [D1,D2] H') (ds.take j) gs,⟨u6,u7,u8,u9,[],[],rfl,S3,h3,⟨rfl,λk g e=>by simp at e⟩,rfl,⟨rfl,λj d g _ e=>by simp at e⟩⟩,?_,?_⟩)
   .rintro j σ' H4 hj ⟨u6,u7,u8,u9,zs2,gs,rfl,S4,h4,dr,gn,ri⟩;have e2:ds[j]?=some ds[j]:=aj hj;generalize ds[j]=d at e2;obtain⟨p1,lp,f,ws,a1,a2,a3,a4⟩:=(dd d (aB e2)).ex;obtain⟨W0,W1⟩:=a4.sum;have w3:=a4.few;obtain⟨cj,ej,ej'⟩:=T6 (j:=j) (by lia);have S04:=S2.trans S4;dsimp only[cu,List.set_cons_succ,List.set_cons_zero];refine bQ λR3 hR3=>?_;refine bY ⟨_,rfl,_,rfl,r,xs,_,_,rfl,rfl,S04 _ _ hrm,cg ek,_,rfl,lk,_,_,_,rfl,rfl,S04 _ _ hlk,cg (by rw[aq,e2];rfl),d,_,rfl,S04 _ _ a1,rfl,_,_,rfl,_,_,rfl,rfl,?_⟩;subst hR3;dsimp only[cu,List.set_cons_succ,List.set_cons_zero];refine bQ λR3 hR3=>?_;refine bY (kh ⟨_,rfl,lp,ws,_,rfl,a3.same S04,by exact aL w3 (by decide),rfl,W0,(show Bd (gW ws)from Bd.sm (by omega)),λlc H5 S5 f5 ch=>?_⟩);obtain⟨cs,c1,c2,c3⟩:=ch.ex;have cl:(chL ws (gW ws)).length=ws.length:=ak ..;have nl:(qH ns ws).length=ws.length:=ak ..;refine⟨lc,cs,rfl,c1,by rw[c2,cl];exact aL w3 (by decide),λD3 hD3=>⟨bJ D3 (qH ns ws) (gW ws) H5,⟨Same.upd hD3,bI,rfl,λk g e=>by simp at e⟩,?_,?_⟩⟩
    .rintro i v ys Hc hi' ⟨S6,h6,pw⟩ hy hlc pre hpre;obtain⟨u1,u2,rfl⟩:=Zi hpre;have li:i<ws.length:=by rw[<- cl,<- c2];exact(ao.mp hi').1
     have ew:ws[i]?=some ws[i]:=aj li;have wm:=(a4.at_ _ (aU li)).1;generalize ws[i]=v0 at ew wm;obtain⟨tt,c,x1,x2,x3⟩:=c3 i (v0.1,Ac.lw v0.2 (gW ws)) (by unfold chL;rw[aq,ew];rfl);rw[hi']at x1;cases x1;have eg:(qH ns ws)[i]?=some (ns.getD v0.1 Str.empty,v0.2):=by unfold qH;rw[aq,ew];rfl
     have ev:ns[v0.1]?=some (ns.getD v0.1 Str.empty):=by rw[au,aj (by lia)];rfl
     have SS:=S04.trans (S5.trans S6);refine⟨_,_,rfl,S6 _ _ x2,rfl,⟨_,_,rfl,_,_,rfl,rfl,[_,_],rfl,rfl,⟨_,rfl,_,rfl,l0,_,_,_,rfl,rfl,SS _ _ hl0,cg (by rw[aq,ev];rfl),_,rfl,fH,λp7 H7 S7 f7 h7=>?_⟩⟩⟩;have h67:=S7 _ _ h6;refine⟨h67,S7 _ _ hlc,g_ hD3 (S6.trans S7),bI,?_⟩;rw[cI eg];have tp:∀t ys',H7 t=some (.tup ys')->upd H7 D3 (.lst (ys++[.ref p7])) t=some (.tup ys'):=λt ys' e=>(bL (d7 e h67 (by intro z;cases z))).trans e;exact(pw.imp λt ys e=>tp _ _ (S7 _ _ e)).snocT (c:=c) (tp _ _ h7) (tp _ _ (S7 _ _ (S6 _ _ x3)))
    .rintro ys Hc ⟨S6,h6,pw⟩ hy;rw[c2,cl,<- nl,aO]at pw;subst hR3;have S46:=S5.trans S6;have zl:=dr.len;have gl:gs.length=j:=by
      have:=ri.len;rw[aZ]at this;lia
     have tw:=Vi _ (aB ej');refine⟨_,rfl,D2,zs2,rfl,S46 _ _ h4,_,rfl,_,_,cj,rfl,rfl,lG,ej,_,rfl,_,rfl,λo dx g1 g2 g3=>?_⟩;have mk':=mk (C:=D.Mixed) g1 g2 g3;refine⟨o,dx,D.Mixed,⟨#[cj]⟩,p1,D3,f.1,f.2,ys,_,_,rfl,bI,by unfold Fam;simp,tw.1,tw.2,⟨.inl (.inl (mk' _ _ ((S04.trans S46) _ _ a2))),a4.f0,a4.fg⟩,mk' _ _ h6,pw.same mk',X4 a4 lns wns,λH8 ld ys8 us f8 kp d1=>⟨rfl,?_⟩⟩;have S68:Same Hc H8:=λb u e=>kp b u (bK e g1) (mk' b u e);have S48:=S46.trans S68;have h48:=S48 _ _ h4;have hD8:=S48 _ _ (S4 _ _ hD);refine⟨_,_,rfl,h48,by lia,?_⟩;have hls:∀l∈[D1,D2],∃zs,H8 l=some (.lst zs):=λl hl=>by
      simp only[YU,List.not_mem_nil,or_false]at hl;rcases hl with rfl|rfl
      .exact⟨_,hD8⟩
      .exact⟨_,h48⟩
     have nw:∀b,Hc b=none->b∉[D1,D2]:=λb hb z=>by
      simp only[YU,List.not_mem_nil,or_false]at z;rcases z with rfl|rfl
      .rw[S46 _ _ (S4 _ _ hD)]at hb;cases hb
      .rw[S46 _ _ h4]at hb;cases hb
     obtain⟨dx',hs⟩:=d1.at_;have wo:=d1.wf.off hls;have st:Same (del [D1,D2] H4) (del [D1,D2] H8):=mV λb o _ e=>S48 _ _ e;have di:vW K dss.length ns H (del [D1,D2] H8) d ⟨⟨#[cj]⟩,p1,us⟩:=⟨p1,lp,f,ws,ys8,a1,a2,a3,a4,lns,rfl,wo⟩;refine⟨_,_,_,_,_,gs++[⟨⟨#[cj]⟩,p1,us⟩],rfl,g_ f3 (S4.trans S48),bI,?_,?_,?_⟩
     .rw[m7 (by simp)];exact(dr.same st).snoc ⟨D.Mixed,dx',ld,ys8,by unfold eE;simp,dW (nw _ g1) hs,dW (nw _ (mk'.free f8)) d1.hl,wo.ways,aL di.few.1 (by decide)⟩
     .rw[bA,gn,cI ej'];rfl
     .rw[m7 (by simp),cI e2];exact(ri.on st).snoc di
   .rintro σ' Hc ⟨u6,u7,u8,u9,zs2,gs,rfl,S4,h4,dr,gn,ri⟩;rw[aO]at ri;have nts:(gs.map (·.nm)).Nodup:=by rw[gn];exact Ui.sublist (List.take_sublist _ _)
    subst hR2;dsimp only;have rk:rms.length=k:=by
     have:=ZH List.length hn;rw[ak,aZ]at this;lia
    have zl:=hR.len;have S04:=S2.trans S4;have hDc:Hc D1=some (.lst zs):=S4 _ _ hD;refine⟨_,rfl,D1,zs,rfl,hDc,_,rfl,_,rfl,l0,_,_,_,rfl,rfl,S04 _ _ hl0,cg (by rw[aq,en];rfl),_,rfl,fH,λt2 H5 S5 g2 h5=>⟨_,zs,rfl,S5 _ _ hDc,by lia,?_⟩⟩;have n12':D1≠D2:=bK hD f3;have n1:D1≠t2:=bK hDc g2;have st:Same (del [D1] H2) (del [D1] H5):=mV λb o _ e=>S5 _ _ (S4 _ _ e);have s2:Same (del [D1,D2] Hc) (del [D1] H5):=λb o e=>by
     obtain⟨a,e⟩:=lZ e;exact dW (by simp at a ⊢;exact a.1) (S5 _ _ e)
    refine⟨_,_,_,_,_,_,zs++[.ref t2],rms++[(nk,gs)],rfl,g_ f1 (S04.trans S5),bI,?_,?_,?_,?_⟩
    .rw[m7 (by simp)];exact(hR.same st).snoc (dW (by simp;exact n1.symm) h5) (dW (by simp;exact n12'.symm) (S5 _ _ h4)) (dr.same s2)
    .rw[bA,hn,cI en];rfl
    .intro g hg;rcases Y1.mp hg with hg|hg
     .exact hd g hg
     .rw[YR.mp hg];exact nts
    .intro j ds' g h1 h2;rw[m7 (by simp)];rcases jY h2 with⟨_,b⟩|⟨a,rfl⟩
     .exact(hi j ds' g h1 b).on st
     .rw[a,rk,ed]at h1;cases h1;exact ri.on s2
  .rintro σ' H2 ⟨u4,u5,u6,u7,u8,u9,zs,rms,rfl,S2,hD,hR,hn,hd,hi⟩;subst hR1;dsimp only;refine eY ⟨_,rfl,_,rfl,λo dx g1 g2 g3=>?_⟩;have SM:=mk (C:=D.Hall) g1 g2 g3;rw[aK (Nat.le_of_eq lns)]at hn;have rl:rms.length=dss.length:=by rw[<- lns,<- hn,ak]
   have ri:∀g∈rms,∃ds∈dss,qN K dss.length ns H (del [D1] H2) ds g.2:=λg hg=>by
    obtain⟨j,hj⟩:=aV hg;have lj:j<dss.length:=by have:=(ao.mp hj).1;exact aR this (Nat.le_of_eq rl)
    exact⟨_,aU lj,hi j _ g (aj lj) hj⟩
   have ok:JH rms:=by
    refine⟨by lia,by rw[hn];exact nns,λg hg=>wns _ (by rw[<- hn];exact List.mem_map_of_mem hg),λg hg=>?_,hd,λg hg d hd' z hz=>?_⟩
    .obtain⟨ds,h1,h2⟩:=ri g hg;have:=hm ds h1;have:=h2.len;lia
    .obtain⟨ds,h1,h2⟩:=ri g hg;obtain⟨_,h3⟩:=h2.mem hd';rw[hn];exact h3.few.2 z hz
   refine⟨o,dx,p,D1,x,y,zs,rms,rfl,bI,⟨.inl (.inl (SM _ _ (S2 _ _ hp))),by exact Int.lt_of_le_of_lt x0 xy,gx⟩,x0,xy,Bd.sm (by lia),Bd.sm (by omega),SM _ _ hD,(hR.same pq).same SM,ok,λH5 kp hh=>⟨rfl,?_⟩⟩;have SS:Same H2 H5:=λb u e=>kp b u (bK e g1) (SM b u e);refine q o H5 rms (S2.trans SS) (Same.free S2 g1) hh ok ⟨rl,λj ds g h1 h2=>?_⟩;rw[hn];exact((hi j ds g h1 h2).on (pq.trans SS)).up (S2.trans SS)
noncomputable def Ju(s:Rat):Nat->Rat
 |0=>1
 |n+1=>s*Ju s n
theorem zF{s:Rat}{f:Η} : ∀{fs:Φ},sV s (fs++[f])=sV s fs+Ju s fs.length*vl f
 |[]=>by
  show vl f+s*0=0+1*vl f
  grind
 |g::fs=>by
  show vl g+s*sV s (fs++[f])=vl g+s*sV s fs+s*Ju s fs.length*vl f;rw[zF]
  grind
theorem Dm{s:Rat} : ∀{n:Nat},Ju s (n+1)=Ju s n*s
 |0=>by show s*1=1*s;grind
 |n+1=>by
  show s*Ju s (n+1)=s*Ju s n*s;rw[Dm]
  grind
theorem Us{x y u v:Int}(y0:0<y)(v0:0<v):vl (Ac.lw (x*v+u*y) (y*v))=vl (x,y)+vl (u,v):=by
 rw[zx (XZ y0 v0)];unfold vl;show((x*v+u*y:Int):Rat)/((y*v:Int):Rat)=(x:Rat)/(y:Rat)+(u:Rat)/(v:Rat);rw[Rat.intCast_add,XV,XV,XV];have:=dR y0;have:=dR v0
 grind
theorem DY{x y u v:Int}(y0:0<y)(v0:0<v):vl (Ac.lw (x*u) (y*v))=vl (x,y)*vl (u,v):=by
 rw[zx (XZ y0 v0)];unfold vl;show((x*u:Int):Rat)/((y*v:Int):Rat)=(x:Rat)/(y:Rat)*((u:Rat)/(v:Rat));rw[XV,XV];have:=dR y0;have:=dR v0
 grind
structure Yy(H:Hp)(pd fa:Addr)(s:Rat)(fs:Φ):Prop where
 ex:∃x y fx fy:Int,H pd=some (.tup [.int x,.int y])/\0<y/\Int.gcd x y=1/\vl (x,y)=sV s fs/\Bn (63*fs.length) y/\Bn (64*fs.length+40) x/\H fa=some (.tup [.int fx,.int fy])/\0<fy/\vl (fx,fy)=Ju s fs.length/\Bn (2*fs.length) fx/\Bn (2*fs.length) fy
noncomputable def Uh:Sp:=λvs H Q _=>∃(p r l ln:Addr)(s:Η)(fcss:List (List FC))(pl:List (Option Nat))(st:Nat)(xs:Κ)(ns:Φ),vs=[.ref p,.ref r,.ref l,.int (st:Nat),.ref ln]/\H p=some (.tup [.int s.1,.int s.2])/\Sh s fcss/\uE H r fcss/\H l=some (.lst (pl.map stV))/\Qm fcss pl/\st<fcss.length/\fcss.length<=12/\H ln=some (.lst xs)/\mQ H xs ns/\ns.length<=30 /\
 ∀t H',Same H H'->H t=none->Ran H' t s (pick fcss pl) pl st ns->Q (.ref t) H'
theorem YQ(F:Fun K Gp Gp Vb f fd)(T:Txt K mg D)(tL:OkF P w K mg base 3 qP qY zM)(yW:OkF P w K mg base 3 vG vD DN)(SQ:OkF P w K mg base 4 Gi Gr Sg):cD P w K mg base CX0 5 f fd HD Uh:=by
 refine F.ok lX ?_ ?_
 .rintro _ _ _ _ ⟨p,r,l,ln,s,fcss,pl,st,xs,ns,rfl,_⟩;rfl
 .rintro cdv A outer s H _ Q E hr ⟨p,r,l,ln,sh,fcss,pl,st,xs,ns,rfl,hp,hE,rl,hl,ft,stn,n12,hln,na,n30,q⟩;refine⟨_,(bH (bU (i:=5) lX.nd rfl (Or.inl rfl) (dZ bF))
   (bH (bU (i:=6) lX.nd rfl (Or.inl rfl) (dO (bD bG (bD bG bF))))
   (bH (bU (i:=7) lX.nd rfl (Or.inl rfl) (dO (bD bG (bD bG bF))))
   (bH (bU (i:=8) lX.nd rfl (Or.inl rfl) (pv 3))
   (bH (fQ PassesOwn.never rfl (dD ((pv 4)).mono) (cF (i:=9) lX.nd rfl (Or.inl rfl))
    (bM (dB (cU NZ (bW d9 (by rfl) T.iT PySem.boot_len (bD (bT bZ (pv 1) (pv 8) (λ_ _=>rfl)) bF)) bG (cH _))
     (bH (Bx (bT bZ (bT bZ (pv 1) (pv 8) (λ_ _=>rfl)) (bT bZ (pv 2) (pv 8) (λ_ _=>rfl)) (λ_ _=>rfl)) (fj (n:=2) rfl (cC (cF (i:=10) lX.nd rfl (Or.inl rfl)) (cC (cF (i:=11) lX.nd rfl (Or.inl rfl)) eN))))
     (bH (dh (kY (pv 5) (bD (dO (bD (pv 8) (bD (bT bZ (pv 2) (pv 8) (λ_ _=>rfl)) (bD (pv 10) bF)))) bF)))
     (bH (bU (i:=6) lX.nd rfl (Or.inl rfl) (bO tL hr.md (by rfl) (bD (pv 6) (bD (bO yW hr.md (by rfl) (bD (pv 7) (bD (pv 10) bF))) bF))))
     (bH (bU (i:=7) lX.nd rfl (Or.inl rfl) (bO yW hr.md (by rfl) (bD (pv 7) (bD (pv 0) bF))))
     (bM (bU (i:=8) lX.nd rfl (Or.inl rfl) (bO SQ hr.md (by rfl) (bD (pv 11) (bD (pv 9) bF)))))))))
     cG)))
   (bM (b_ (dO (bD (pv 5) (bD (pv 6) (bD (pv 8) bF))))))))))),?_⟩
  obtain⟨s0,s1,s2,s3,dE⟩:=hE;obtain⟨xr,r1,r2,r3⟩:=rl.ex;have b2s:Bn 2 sh.2:=by unfold Bn;lia
  have b1s:Bn 2 sh.1:=by unfold Bn;lia
  refine bQ λR1 hR1=>?_;refine bY ⟨bh _,λls H1 S1 f1 h1=>?_⟩;subst hR1;dsimp only[cu,L2.start,List.set_cons_succ,List.set_cons_zero];refine bQ λR1 hR1=>?_;refine bY ⟨fH,λpd H2 S2 f2 h2=>?_⟩;subst hR1;dsimp only[cu,List.set_cons_succ,List.set_cons_zero];refine bQ λR1 hR1=>?_;refine bY ⟨fH,λfa H3 S3 f3 h3=>?_⟩;subst hR1;dsimp only[cu,List.set_cons_succ,List.set_cons_zero];refine bQ λR1 hR1=>?_;refine bY ⟨_,rfl,?_⟩;subst hR1;dsimp only[cu,List.set_cons_succ,List.set_cons_zero];refine bQ λR1 hR1=>?_;have S03:=S1.trans (S2.trans S3);refine cW (d_ ⟨_,rfl,ln,xs,rfl,S03 _ _ hln,λk σ H'=>∃(u9 u10 u11:Option V)(pd fa:Addr)(zs:Κ)(vs:List Nat)(rm k':Nat),σ=[some (.ref p),some (.ref r),some (.ref l),some (.int (st:Nat)),some (.ref ln),some (.ref ls),some (.ref pd),some (.ref fa),some (.int (rm:Nat)),u9,u10,u11]/\Same H H'/\H' ls=some (.lst zs)/\iD H' zs vs pl (pick fcss pl)/\Yy H' pd fa (vl sh) (vs.map (tY (pick fcss pl)))/\rm<fcss.length/\k'<=k/\vs.length<=k'/\Run (pick fcss pl) st ((ns.map G4).take k') vs rm/\(k'=k\/(pick fcss pl)[rm]?=some none),⟨none,none,none,pd,fa,[],[],st,0,rfl,S03,(S2.trans S3) _ _ h1,⟨rfl,λi r e=>by simp at e⟩,⟨0,1,1,1,S3 _ _ h2,by decide,by decide,(Ce 0).trans Rat.intCast_zero,(show Bn 0 1 by unfold Bn;decide),(show Bn 40 0 by unfold Bn;decide),h3,by decide,(Ce 1).trans Rat.intCast_one,(show Bn 0 1 by unfold Bn;decide),(show Bn 0 1 by unfold Bn;decide)⟩,stn,aF _,aF _,.nil,.inl rfl⟩,?_,?_⟩)
  .rintro k x σ' H4 hx ⟨u9,u10,u11,pd,fa,zs,vs,rm,k',rfl,S4,h4,sa,pa,rl',kk,vk,rn,ke⟩ hln4;have lk:k<ns.length:=by rw[<- na.1];exact(ao.mp hx).1
   have en:=aj lk;obtain⟨an,x1,x2,x3,x4⟩:=na.2 k _ en;rw[hx]at x1;cases x1;have lo:=aj (show rm<pl.length by rw[ft.1];exact rl');have lfc:=aj rl';have pk:=FP ft lfc lo;have fz:=ft.2 rm _ _ lfc lo;have mf:=aU rl';obtain⟨lk',ds,q1,q2,q3,q4⟩:=r3 rm _ lfc;dsimp only[cu,List.set_cons_succ,List.set_cons_zero];refine iG ⟨_,rfl,_,rfl,r,xr,(rm:Nat),_,rfl,rfl,S4 _ _ r1,cg (j:=rm) q1,lk',_,rfl,S4 _ _ q2,_,_,rfl,rfl,decide ((0:Int)<((ds.map V.ref).length:Nat)),rfl,?_⟩;generalize fcss[rm]=fcs at *;generalize pl[rm]'(by rw[ft.1];exact rl')=o at *;rcases pk with⟨rfl,pz⟩|⟨j,fc,rfl,ej,pz⟩
   .have d0:ds.length=0:=by rw[<- q4.len,fz.1 rfl];rfl
    rw[ak,d0,Zp (by decide)];exact⟨hln4,_,_,_,pd,fa,zs,vs,rm,k',rfl,S4,h4,sa,pa,rl',by exact aL kk (XG _ _),vk,rn,.inr pz⟩
   .have lj:=(ao.mp ej).1;have ljd:j<ds.length:=by rw[<- q4.len];exact lj
    have ke:k'=k:=by
     rcases ke with z|z
     .exact z
     .rw[pz]at z;cases z
    subst ke;rw[ak,Zs (by lia),ZY rfl];have edj:=aj ljd;obtain⟨p1,lp,ws,y1,y2,y3,y4,y5⟩:=(q4.at_ j _ fc edj ej).ex;generalize ds[j]=d at *;obtain⟨W0,W1⟩:=y4.sum;have dM:=y4.door;have w3:=y4.few;have b1f:Bn 30 fc.1.1:=y4.fa;have b2f:Bn 3 fc.1.2:=by have:=y4.fb;have:=y4.f0;unfold Bn;lia
    obtain⟨x,y,fx,fy,c1,c2,c3,c4,c5,c6,c7,c8,c9,c10,c11⟩:=pa.ex;rw[ak]at c5 c6 c9 c10 c11;have m30:vs.length<30:=by lia
    have zl:zs.length=vs.length:=sa.len;refine bQ λR2 hR2=>?_;refine bY ⟨_,rfl,_,rfl,r,xr,(rm:Nat),_,rfl,rfl,S4 _ _ r1,cg (j:=rm) q1,_,rfl,_,rfl,l,_,(rm:Nat),_,rfl,rfl,S4 _ _ hl,cg (j:=rm) (by rw[aq,lo];rfl),lk',_,(j:Nat),_,rfl,rfl,S4 _ _ q2,cg (j:=j) (by rw[aq,edj];rfl),d,_,rfl,S4 _ _ y1,rfl,_,_,rfl,_,_,rfl,rfl,?_⟩;subst hR2;dsimp only[cu,List.set_cons_succ,List.set_cons_zero];refine bQ λR2 hR2=>?_;refine cW ⟨_,rfl,ls,zs,rfl,h4,_,rfl,_,rfl,_,rfl,l,_,(rm:Nat),_,rfl,rfl,S4 _ _ hl,cg (j:=rm) (by rw[aq,lo];rfl),_,rfl,(show 3<=sizeLine by decide),λt6 H6 S6 f6 h6=>⟨_,_,rfl,S6 _ _ h4,aR (show zs.length<64 by lia) (by decide),?_⟩⟩;have S46:=S4.trans S6;have h7:upd H6 ls (.lst (zs++[.ref t6])) ls=_:=bI;have S7:=g_ (o:=.lst (zs++[.ref t6])) f1 S46;have nt:∀p us,H6 p=some (.tup us)->upd H6 ls (.lst (zs++[.ref t6])) p=some (.tup us):=λp us e=>(bL (d7 e (S6 _ _ h4) (by intro z;cases z))).trans e;have sa':=((sa.imp λp us e=>S6 _ _ e).snoc h6 lo pz (S46 _ _ y2)).imp nt;have c1:=nt _ _ (S6 _ _ c1);have c7:=nt _ _ (S6 _ _ c7);generalize upd H6 ls (.lst (zs++[.ref t6]))=H7 at h7 S7 sa' c1 c7 ⊢;have up:∀{e e':Nat}{z:Int},Bn e z->e<=e'->Bn e' z:=λh l=>h.up l;have v1:=c11.mul b2f;have v0:=XZ c8 y4.f0;have u1:=c10.mul b1f;have g1:=Ac.ug (fx*fc.1.1) (fy*fc.1.2);have g2:=Ac.q_ (fx*fc.1.1) (fy*fc.1.2);have g3:=Ac.fu (t:=fx*fc.1.1) v0;have g4:=DY (x:=fx) (u:=fc.1.1) c8 y4.f0;subst hR2;dsimp only;refine bQ λR2 hR2=>?_;refine bY ⟨_,rfl,_,rfl,_,rfl,fa,p1,fx,fy,fc.1.1,fc.1.2,rfl,c7,S7 _ _ y2,c10.bd (by lia),c11.bd (by lia),b1f.bd (by decide),b2f.bd (by decide),c8,y4.f0,v1.bd (by lia),λr8 H8 S8 f8 h8=>?_⟩;generalize Ac.lw (fx*fc.1.1) (fy*fc.1.2)=uv at g1 g2 g3 g4 h8;obtain⟨u,v⟩:=uv;have g1:Bn (2*vs.length+30) u:=aL g1 u1;have g2:Bn (2*vs.length+3) v:=aL g2 v1;have yv:=c5.mul g2;have yv0:=XZ c2 g3;have t1:=(((c6.mul g2).up (show _<=64*vs.length+103 by lia)).add ((g1.mul c5).up (show _<=64*vs.length+103 by lia)));have g5:=Ac.ug (x*v+u*y) (y*v);have g6:=Ac.q_ (x*v+u*y) (y*v);have g7:=Ac.fu (t:=x*v+u*y) yv0;have g8:=Ac.nW (t:=x*v+u*y) yv0;have g9:=Us (x:=x) (u:=u) c2 g3;refine⟨pd,r8,x,y,u,v,rfl,S8 _ _ c1,h8,c6.bd (by lia),c5.bd (by lia),g1.bd (by lia),g2.bd (by lia),c2,g3,yv.bd (by lia),λr9 H9 S9 f9 h9=>?_⟩;generalize Ac.lw (x*v+u*y) (y*v)=xy' at g5 g6 g7 g8 g9 h9;obtain⟨x',y'⟩:=xy';have g5:Bn (64*vs.length+104) x':=aL g5 t1;have g6:=aL g6 yv;subst hR2;dsimp only[cu,List.set_cons_succ,List.set_cons_zero];have S79:=S8.trans S9;have S09:=S7.trans S79;have v2:=c11.mul b2s;have v2':=XZ c8 s2;have u2:=c10.mul b1s;have k1:=Ac.ug (fx*sh.1) (fy*sh.2);have k2:=Ac.q_ (fx*sh.1) (fy*sh.2);have k3:=Ac.fu (t:=fx*sh.1) v2';have k4:=DY (x:=fx) (u:=sh.1) c8 s2;refine bQ λR2 hR2=>?_;refine bY ⟨_,rfl,_,rfl,fa,p,fx,fy,sh.1,sh.2,rfl,S79 _ _ c7,S09 _ _ hp,c10.bd (by lia),c11.bd (by lia),b1s.bd (by decide),b2s.bd (by decide),c8,s2,v2.bd (by lia),λr10 H10 S10 f10 h10=>?_⟩;generalize Ac.lw (fx*sh.1) (fy*sh.2)=uv at k1 k2 k3 k4 h10;obtain⟨fx',fy'⟩:=uv;subst hR2;dsimp only[cu,List.set_cons_succ,List.set_cons_zero];have S010:=S09.trans S10;refine KQ ⟨_,rfl,_,rfl,lp,an,ws,gW ws,ns[k'].1,ns[k'].2,fcss.length,_,rfl,y3.same S010,by exact aL w3 (by decide),rfl,W0,Bd.sm (by lia),dM,S010 _ _ x2,x3,x4,λr' H11 S11 ld=>?_⟩;have S711:=S79.trans (S10.trans S11);have S011:=S7.trans S711;obtain⟨i,c,i1,i2,_⟩:=id ld;have ep:(vs++[rm]).map (tY (pick fcss pl))=vs.map (tY (pick fcss pl))++[fc.1]:=by
     rw[bA];show _++[tY (pick fcss pl) rm]=_;unfold tY;rw[au,pz];rfl
    refine⟨S011 _ _ hln,_,_,_,r9,r10,_,vs++[rm],r',k'+1,rfl,S011,S711 _ _ h7,sa'.imp λp us e=>S711 _ _ e,?_,by rw[i2];exact(dM.ch c (aB i1)).1,aF _,by rw[aA];simp;omega,?_,.inl rfl⟩
    .have el:(vs.map (tY (pick fcss pl))++[fc.1]).length=vs.length+1:=by rw[aA,ak];rfl
     rw[ep];refine⟨x',y',fx',fy',(S10.trans S11) _ _ h9,g7,g8,?_,?_,?_,S11 _ _ h10,k3,?_,?_,?_⟩
     .rw[zF,g9,c4,g4,c9,ak]
     .rw[el];exact Bn.up g6 (by lia)
     .rw[el];exact Bn.up g5 (by lia)
     .rw[el,Dm,k4,c9]
     .rw[el];exact Bn.up (aL k1 u2) (by lia)
     .rw[el];exact Bn.up (aL k2 v2) (by lia)
    .rw[cI (show(ns.map G4)[k']?=some (G4 ns[k'])by rw[aq,en];rfl)];exact .snoc rn pz (by rw[y5];exact ld)
  .rintro σ' H4 ⟨u9,u10,u11,pd,fa,zs,vs,rm,k',rfl,S4,h4,sa,pa,rl',kk,vk,rn,ke⟩ hln4;rw[na.1]at kk ke;subst hR1;obtain⟨x,y,fx,fy,p1,p2,p3,p4,_⟩:=pa.ex;dsimp only;refine eY ⟨_,rfl,_,rfl,_,rfl,(show 3<=sizeLine by decide),λt H5 S5 f5 h5=>?_⟩;exact q t H5 (S4.trans S5) (S4.free f5) ⟨ls,pd,zs,vs,x,y,rm,k',h5,S5 _ _ h4,sa.imp λp us e=>S5 _ _ e,S5 _ _ p1,p2,p3,p4,kk,rn,ke⟩
theorem nF{α:Type}{g:α->PyData}(h:∀x,PyData.canLay0 (g x)=true):∀xs:List α,PyData.canLayAll0 (xs.map g)=true
 |[]=>rfl
 |x::xs=>by rw[List.map_cons];unfold PyData.canLayAll0;rw[nF h xs,h x];rfl
theorem qw{α:Type}{g:α->PyData}{n:Nat}(h:∀x,PyData.depth (g x)<=n):∀xs:List α,PyData.depthAll (xs.map g)<=n
 |[]=>bh _
 |x::xs=>by
  rw[List.map_cons];unfold PyData.depthAll;have:=qw h xs;have:=h x;lia
noncomputable def stD:Option Nat->PyData
 |some d=>.int (d:Nat)
 |none=>.none
theorem wg{H:Hp} : ∀{pl:List (Option Nat)},dw H (pl.map stV) (pl.map stD)
 |[]=>.nil
 |none::pl=>.cons .non wg
 |some d::pl=>.cons (.int _) wg
theorem UG{x y:Η}(a0:0<x.2)(a1:Int.gcd x.1 x.2=1)(b0:0<y.2)(e:vl x=vl y):x.2 ∣ y.2:=by
 have e3:((y.2.natAbs:Nat):Int)=y.2:=by exact Int.natAbs_of_nonneg (XY b0)
 have:=uO (N:=y.2.natAbs) a0 a1 ⟨y.1,by
  rw[e3,e];have:=dR b0;unfold vl
  grind⟩
 rwa[e3]at this
theorem V5{x y u v:Int}(a0:0<y)(a1:Int.gcd x y=1)(b0:0<v)(b1:Int.gcd u v=1)(e:vl (x,y)=vl (u,v)):x=u/\y=v:=by
 have d1:y ∣ v:=UG (x:=(x,y)) (y:=(u,v)) a0 a1 b0 e;have d2:v ∣ y:=UG (x:=(u,v)) (y:=(x,y)) b0 b1 a0 e.symm;have e2:y=v:=Int.le_antisymm (Int.le_of_dvd b0 d1) (Int.le_of_dvd a0 d2);subst e2;have c:x*y=u*y:=Vn (x:=(x,y)) (y:=(u,y)) a0 a0 e;exact⟨Int.eq_of_mul_eq_mul_right (Int.ne_of_gt a0) c,rfl⟩
theorem Cd.uniq{cs:Θ}{q:Rat}{r r':Nat}(h:Cd cs q r)(g:Cd cs q r'):r=r':=by
 obtain⟨i,c,a1,rfl,a3,a4⟩:=h;obtain⟨j,d,b1,rfl,b3,b4⟩:=g;have no:∀{i j:Nat},q<oK cs (i+1)->(∀k,k<=j->oK cs k<=q)->¬i<j:=λ{i j}h1 h2 l=>by
  have:=h2 (i+1) l
  grind
 have n1:=no a3 b4;have n2:=no b3 a4;have:i=j:=by lia
 subst this;rw[a1]at b1;cases b1
 rfl
theorem Run.uniq{cs:List (Option FC)}{st:Nat}{qs:List Rat}{vs:List Nat}{r:Nat}(h:Run cs st qs vs r):∀{vs':List Nat}{r':Nat},Run cs st qs vs' r'->vs=vs'/\r=r':=by
 induction h with
 |nil =>
  intro vs' r' g;generalize eq:([] : List Rat)=qs at g;cases g with
  |nil=>exact⟨rfl,rfl⟩
  |snoc a b c=>simp at eq
 |@snoc qs vs r r1 q fc a b c ih =>
  intro vs' r' g;generalize eq:qs++[q]=qs' at g;cases g with
  |nil=>simp at eq
  |@snoc qs2 vs2 r2 r3 q2 fc2 a2 b2 c2 =>
   obtain⟨e1,e2⟩:=List.append_inj' eq rfl;subst e1;cases e2;obtain⟨e3,e4⟩:=ih a2;subst e3;subst e4;rw[b]at b2;cases b2;exact⟨rfl,c.uniq c2⟩
theorem Run.part{cs:List (Option FC)}{st:Nat}{qs:List Rat}{vs:List Nat}{r:Nat}(h:Run cs st qs vs r):∀{k:Nat},k<qs.length->∃vs1 r1 fc,Run cs st (qs.take k) vs1 r1/\cs[r1]?=some (some fc):=by
 induction h with
 |nil =>
  intro k hk;simp at hk
 |@snoc qs vs r r1 q fc a b c ih =>
  intro k hk;by_cases e:k<qs.length
  .obtain⟨vs1,r1,fc1,x1,x2⟩:=ih e;exact⟨vs1,r1,fc1,by rw[List.take_append_of_le_length (Y2 e)];exact x1,x2⟩
  .rw[aA]at hk;have hk:k<qs.length+1:=hk;have:k=qs.length:=by lia
   subst this;exact⟨vs,r,fc,by rw[List.take_append_of_le_length (aF _),aO];exact a,b⟩
theorem Ip{cs:List (Option FC)}{st k j:Nat}{qs:List Rat}{vs vs':List Nat}{r r':Nat}(h:Run cs st (qs.take k) vs r)(g:Run cs st (qs.take j) vs' r')(l:k=qs.length\/cs[r]?=some none)(lj:j<=qs.length):¬k<j:=λz=>by
 obtain⟨vs1,r1,fc,x1,x2⟩:=g.part (k:=k) (by rw[aZ];lia);rw[List.take_take,Nat.min_eq_left (Y2 z)]at x1;obtain⟨e1,e2⟩:=h.uniq x1;subst e2;rcases l with l|l
 .lia
 .rw[x2]at l;cases l
theorem XR{cs:List (Option FC)}{st k j:Nat}{qs:List Rat}{vs vs':List Nat}{r r':Nat}(h:Run cs st (qs.take k) vs r)(g:Run cs st (qs.take j) vs' r')(l:k=qs.length\/cs[r]?=some none)(l':j=qs.length\/cs[r']?=some none)(lk:k<=qs.length)(lj:j<=qs.length):vs=vs'/\r=r':=by
 have n1:=Ip h g l lj;have n2:=Ip g h l' lk;have:k=j:=by lia
 subst this;exact h.uniq g
noncomputable def Ab(pl:List (Option Nat))(cs:List (Option FC))(r:Nat):PyData:=.tuple [.int (r:Nat),.int (((pl.getD r none).getD 0:Nat)),.tuple [.int (tY cs r).1,.int (tY cs r).2]]
noncomputable def Y5(pl:List (Option Nat))(cs:List (Option FC))(vs:List Nat)(z o:Int)(e:Nat):PyData:=.tuple [.list (vs.map (Ab pl cs)),.tuple [.int z,.int o],.int (e:Nat)]
theorem sI{H:Hp} : ∀{xs:Κ}{ds:List PyData},xs.length=ds.length->(∀(k:Nat)x d,xs[k]?=some x->ds[k]?=some d->Shows H x d)->dw H xs ds
 |[],[],_,_=>.nil
 |x::xs,d::ds,l,h=>.cons (h 0 x d rfl rfl) (sI (Nat.succ.inj l) λk x' d' e1 e2=>h (k+1) x' d' e1 e2)
theorem iD.shows{H:Hp}{ys:Κ}{vs:List Nat}{pl:List (Option Nat)}{cs:List (Option FC)}(h:iD H ys vs pl cs):dw H ys (vs.map (Ab pl cs)):=by
 refine sI (by rw[ak,h.len]) λk x d e1 e2=>?_;rw[aq]at e2;cases ev:vs[k]? with
 |none=>rw[ev]at e2;cases e2
 |some r =>
  rw[ev]at e2;cases e2;obtain⟨t,a,j,fc,x1,x2,x3,x4,x5⟩:=h.at_ k r ev;rw[e1]at x1;cases x1;have p1:(pl.getD r none).getD 0=j:=by rw[au,x3];rfl
  have p2:tY cs r=fc.1:=by unfold tY;rw[au,x4];rfl
  unfold Ab;rw[p1,p2];exact .tup x2 (.cons (.int _) (.cons (.int _) (.cons (.tup x5 (.cons (.int _) (.cons (.int _) .nil))) .nil)))
theorem Ran.shows{H:Hp}{a b:Addr}{s:Η}{cs:List (Option FC)}{pl:List (Option Nat)}{st:Nat}{ns:Φ}(ha:Ran H a s cs pl st ns)(hb:Ran H b s cs pl st ns):∃d,Shows H (.ref a) d/\Shows H (.ref b) d/\SeqAt.shaped d=true/\PyData.eqv d d=true:=by
 obtain⟨ls,pd,ys,vs,z,o,e,k,a1,a2,a3,a4,a5,a6,a7,a8,a9,a10⟩:=ha.ex;obtain⟨ls',pd',ys',vs',z',o',e',k',b1,b2,b3,b4,b5,b6,b7,b8,b9,b10⟩:=hb.ex;have l:(ns.map G4).length=ns.length:=ak ..;obtain⟨rfl,rfl⟩:=XR a9 b9 (by rw[l];exact a10) (by rw[l];exact b10) (by rw[l];exact a8) (by rw[l];exact b8);obtain⟨rfl,rfl⟩:=V5 a5 a6 b5 b6 (a7.trans b7.symm);have c1:PyData.canLayAll0 (vs.map (Ab pl cs))=true:=nF (λr=>rfl) vs;have c0:PyData.canLay0 (Y5 pl cs vs z o e)=true:=by
  show(PyData.canLayAll0 (vs.map (Ab pl cs))&&_)=true;rw[c1];rfl
 have d1:=qw (n:=2) (g:=Ab pl cs) (λr=>aF _) vs;have d0:PyData.depth (Y5 pl cs vs z o e)<=64:=by
  show max (PyData.depthAll (vs.map (Ab pl cs))+1) (PyData.depthAll [PyData.tuple [.int z,.int o],.int (e:Nat)])+1<=64;have:PyData.depthAll [PyData.tuple [.int z,.int o],.int (e:Nat)]=1:=rfl;lia
 refine⟨Y5 pl cs vs z o e,.tup a1 (.cons (.lst a2 a3.shows) (.cons (.tup a4 (.cons (.int _) (.cons (.int _) .nil))) (.cons (.int _) .nil))),.tup b1 (.cons (.lst b2 b3.shows) (.cons (.tup b4 (.cons (.int _) (.cons (.int _) .nil))) (.cons (.int _) .nil))),?_,PySem.SeqAt.eqv_refl _ c0⟩;unfold SeqAt.shaped;rw[c0,Zs d0];rfl
theorem Sw(F:Fun K qT qT Fy f fd)(T:Txt K mg D):cD P w K mg base CX0 1 f fd qK eO:=by
 refine F.ok Vc ?_ ?_
 .rintro _ _ _ _ ⟨x,t,rfl,_⟩;rfl
 .rintro cdv A outer s H _ Q E hr ⟨x,t,rfl,ht,q⟩;refine⟨_,(bM (b_ (nQ (bW gk (by rfl) T.cB boot_isinstance (bD (pv 0) (bD (iz (v:=.ty "int") (by rfl) T.Q0 boot_int rfl) bF))) (sW (SN (bW gk (by rfl) T.cB boot_isinstance (bD (pv 0) (bD (iz (v:=.ty "bool") (by rfl) T.RJ boot_bool rfl) bF)))))))),?_⟩
  walk_at "rd"
  rw[ht]
  walk_at "rd"
  have hm:=K3 ht;simp only[YU,List.not_mem_nil,or_false]at hm;rcases hm with rfl|rfl|rfl|rfl|rfl|rfl|rfl<;>simpa using q
noncomputable def yj:Sp:=λvs H Q _=>∃(p:Addr)(a b:Int),vs=[.ref p]/\H p=some (.tup [.int a,.int b])/\Q (.bl (decide (0<b)&&decide (Int.gcd a b=1))) H
theorem Jk(F:Fun K m6 m6 uT f fd)(T:Txt K mg D)(lF:OkF P w K mg base 1 qT qK eO)(Dp:OkF P w K mg base 1 Bm Ao zU):cD P w K mg base CX0 2 f fd nq yj:=by
 refine F.ok Kl ?_ ?_
 .rintro _ _ _ _ ⟨p,a,b,rfl,_⟩;rfl
 .rintro cdv A outer s H _ Q E hr ⟨p,a,b,rfl,hp,q⟩;refine⟨_,(bH (dB (PW.pt (pw_or (cT (cQ (bW gk (by rfl) T.cB boot_isinstance (bD (pv 0) (bD (iz (v:=.ty "tuple") (by rfl) T.vg boot_tuple rfl) bF))) (λ_=>rfl))) (pw_or1 (cU El (bW xR (by rfl) T.iT PySem.boot_len (bD (pv 0) bF)) bG (cH _)))))
    (bM (b_ mF))
    cG)
   (bH (dB (PW.pt (pw_or (cT (cQ (bO lF hr.md (by rfl) (bD (bT cA (pv 0) bG (λ_ _=>rfl)) bF)) (λ_=>rfl))) (pw_or1 (cT (cQ (bO lF hr.md (by rfl) (bD (bT cA (pv 0) bG (λ_ _=>rfl)) bF)) (λ_=>rfl))))))
    (bM (b_ mF))
    cG)
   (bM (b_ (nQ (h_ NZ (bT cA (pv 0) bG (λ_ _=>rfl)) bG (cH _)) (sW (h_ qF (bO Dp hr.md (by rfl) (bD (bT cA (pv 0) bG (λ_ _=>rfl)) (bD (bT cA (pv 0) bG (λ_ _=>rfl)) bF))) bG (cH _)))))))),?_⟩
  unfold eO zU
  walk_at "rd"
  simp only[hp,GR hp]
  walk_at "rd"
  by_cases hb:0<b
  .simp only[hb,decide_true,if_true,Bool.true_and]at q ⊢;have e:decide (((Int.gcd a b:Nat):Int)=1)=decide (Int.gcd a b=1):=by
    by_cases z:Int.gcd a b=1
    .rw[z];rfl
    .rw[Zp z,Zp (by lia)]
   rw[e];exact q
  .simpa[hb]using q
noncomputable def KD(n:Nat)(H:Hp)(v:V):Prop:=Odd H v/\∀l xs,v=.ref l->H l=some (.lst xs)->xs.length≠n
theorem KD.same{n:Nat}{H H':Hp}{v:V}(h:KD n H v)(S:Same H H'):KD n H' v:=by
 obtain⟨⟨t,et⟩,nl⟩:=h;refine⟨⟨t,Kg S et⟩,λl xs e hl=>?_⟩;subst e;by_cases z:∃o,H l=some o
 .obtain⟨o,ho⟩:=z;have:=S _ _ ho;rw[hl]at this;cases this;exact nl l xs rfl ho
 .cases eo:H l with
  |none =>
   unfold tyS at et;dsimp only at et;rw[eo]at et;cases et
  |some o=>exact absurd ⟨o,eo⟩ z
theorem M6{n:Nat}{H:Hp}{l:Addr}{xs:Κ}(h:H l=some (.lst xs))(nl:xs.length≠n):KD n H (.ref l):=⟨⟨_,nG h⟩,λl' xs' e h'=>by
 cases e;rw[h]at h';cases h';exact nl⟩
theorem N_{n:Nat}{H:Hp}{l:Addr}{xs:Κ}(h:H l=some (.tup xs)):KD n H (.ref l):=⟨⟨"tuple",by unfold tyS;dsimp only;rw[h]⟩,λl' xs' e h'=>by
 cases e;rw[h]at h';cases h'⟩
theorem Ka{ys:Κ}{n:Nat}(h:n<=ys.length):qb ys (some (n:Int)) none=ys.drop n:=by
 unfold qb;rw[HT.tH,Nat.min_eq_left h];exact aK (by rw[List.length_drop];exact aF _)
theorem uI{t u:TT}{σ:L2.St}{H:Hp}{Q:Bool->Hp->Prop}(h:t σ H λc H1=>if c=true then Q true H1 else u σ H1 Q):tOr t u σ H Q:=h
theorem Nr{a b:Prop}(h:b):if(!true)=true then a else b:=h
theorem K7{a b:Prop}(h:a):if true=true then a else b:=h
theorem if_not{a b:Prop}(h:b):if false=true then a else b:=h
noncomputable def Ou(D:Adr):Sp:=λvs H Q _=>∃(a d C:Addr)(n:Int),vs=[.ref a,.int n]/\H a=some (XO a C (some d))/\(C=D.NoRoom/\n=6\/C=D.NoPlan/\n=8)/\∀H',Same H H'->Q (.bl true) H'
theorem Xd(F:Fun K yN yN Ez f fd)(T:Txt K mg D):cD P w K mg base CX0 1 f fd yO (Ou D):=by
 refine F.ok yX ?_ ?_
 .rintro _ _ _ _ ⟨a,d,C,n,rfl,_⟩;rfl
 .rintro cdv A outer s H _ Q E hr ⟨a,d,C,n,rfl,ha,hC,q⟩;obtain⟨xk,kv,b0,b1,b2,b3,b4,b5,b6,b7,b8,k0,k1,k2,k3,k4,k5,k6,k7,k8,eb⟩ : uw K C/\kitOne K (.ref C) (.type "ValueError")=some true/\∃b0 b1 b2 b3 b4 b5 b6 b7 b8:Bool,kitOne K (.ref C) (.ref D.NoNumber)=some b0/\kitOne K (.ref C) (.ref D.NoName)=some b1/\kitOne K (.ref C) (.ref D.NoChance)=some b2/\kitOne K (.ref C) (.ref D.NoShare)=some b3/\kitOne K (.ref C) (.ref D.NoText)=some b4/\kitOne K (.ref C) (.ref D.NoRow)=some b5/\kitOne K (.ref C) (.ref D.NoRoom)=some b6/\kitOne K (.ref C) (.ref D.NoDoor)=some b7/\kitOne K (.ref C) (.ref D.NoPlan)=some b8/\eqF [.bl b0,.bl b1,.bl b2,.bl b3,.bl b4,.bl b5,.bl b6,.bl b7,.bl b8] ((List.range 9).map λi:Nat=>V.bl (decide ((i:Int)=n)))=true:=by
   rcases hC with⟨rfl,rfl⟩|⟨rfl,rfl⟩
   .exact⟨T.xk_NoRoom,T.ki_NoRoom_ValueError,_,_,_,_,_,_,_,_,_,T.ki_NoRoom_NoNumber,T.ki_NoRoom_NoName,T.ki_NoRoom_NoChance,T.ki_NoRoom_NoShare,T.ki_NoRoom_NoText,T.ki_NoRoom_NoRow,T.ki_NoRoom_NoRoom,T.ki_NoRoom_NoDoor,T.ki_NoRoom_NoPlan,rfl⟩
   .exact⟨T.xk_NoPlan,T.ki_NoPlan_ValueError,_,_,_,_,_,_,_,_,_,T.ki_NoPlan_NoNumber,T.ki_NoPlan_NoName,T.ki_NoPlan_NoChance,T.ki_NoPlan_NoShare,T.ki_NoPlan_NoText,T.ki_NoPlan_NoRow,T.ki_NoPlan_NoRoom,T.ki_NoPlan_NoDoor,T.ki_NoPlan_NoPlan,rfl⟩
  have l3:3<=sizeLine:=by decide
  refine⟨_,(bH (bU (i:=2) yX.nd rfl (Or.inl rfl) (dZ (bD (bW (eX (K':=K) rfl) (by rfl) T.cB boot_isinstance (bD (pv 0) (bD (qp (by rfl) T.B_) bF))) (bD (bW (eX (K':=K) rfl) (by rfl) T.cB boot_isinstance (bD (pv 0) (bD (qp (by rfl) T.Br) bF))) (bD (bW (eX (K':=K) rfl) (by rfl) T.cB boot_isinstance (bD (pv 0) (bD (qp (by rfl) T.uM) bF))) bF)))))
   (bH (bU (i:=2) yX.nd rfl (Or.inl rfl) (bR v7 (pv 2) (dZ (bD (bW (eX (K':=K) rfl) (by rfl) T.cB boot_isinstance (bD (pv 0) (bD (qp (by rfl) T.QT) bF))) (bD (bW (eX (K':=K) rfl) (by rfl) T.cB boot_isinstance (bD (pv 0) (bD (qp (by rfl) T.Tv) bF))) (bD (bW (eX (K':=K) rfl) (by rfl) T.cB boot_isinstance (bD (pv 0) (bD (qp (by rfl) T.XH) bF))) bF))))))
   (bH (bU (i:=2) yX.nd rfl (Or.inl rfl) (bR v7 (pv 2) (dZ (bD (bW (eX (K':=K) rfl) (by rfl) T.cB boot_isinstance (bD (pv 0) (bD (qp (by rfl) T.Ke) bF))) (bD (bW (eX (K':=K) rfl) (by rfl) T.cB boot_isinstance (bD (pv 0) (bD (qp (by rfl) T.Uy) bF))) (bD (bW (eX (K':=K) rfl) (by rfl) T.cB boot_isinstance (bD (pv 0) (bD (qp (by rfl) T.zP) bF))) bF))))))
   (bM (b_ (nQ (bW (eX (K':=K) rfl) (by rfl) T.cB boot_isinstance (bD (pv 0) (bD (iz (v:=.ty "ValueError") (by rfl) T.GD yH rfl) bF))) (sW (h_ (YS hr.units0) (pv 2) (pF (bN Ez) K5 K5 ["_law_k"] (gP (by rfl) T.lM (bD bG bF).mono) (fZ (i:=0)) fL (h_ qF (pv 0) (pv 2) (cH _))) (cH _))))))))),?_⟩
  refine bQ λR1 hR1=>?_;refine bY ⟨_,rfl,a,C,some d,_,_,b0,rfl,ha,.inr ⟨_,rfl,rfl⟩,xk,k0,_,rfl,a,C,some d,_,_,b1,rfl,ha,.inr ⟨_,rfl,rfl⟩,xk,k1,_,rfl,a,C,some d,_,_,b2,rfl,ha,.inr ⟨_,rfl,rfl⟩,xk,k2,l3,λp1 H1 S1 f1 h1=>?_⟩;subst hR1;dsimp only[cu,L2.start,List.set_cons_succ,List.set_cons_zero];refine bQ λR1 hR1=>?_;have ha:=S1 _ _ ha;refine bY ⟨_,rfl,_,rfl,a,C,some d,_,_,b3,rfl,ha,.inr ⟨_,rfl,rfl⟩,xk,k3,_,rfl,a,C,some d,_,_,b4,rfl,ha,.inr ⟨_,rfl,rfl⟩,xk,k4,_,rfl,a,C,some d,_,_,b5,rfl,ha,.inr ⟨_,rfl,rfl⟩,xk,k5,l3,λp2 H2 S2 f2 h2=>⟨p1,p2,_,_,rfl,rfl,S2 _ _ h1,h2,(show 6<=sizeLine by decide),λp3 H3 S3 f3 h3=>?_⟩⟩;subst hR1;dsimp only[cu,List.set_cons_succ,List.set_cons_zero];refine bQ λR1 hR1=>?_;have ha:=S3 _ _ (S2 _ _ ha);refine bY ⟨_,rfl,_,rfl,a,C,some d,_,_,b6,rfl,ha,.inr ⟨_,rfl,rfl⟩,xk,k6,_,rfl,a,C,some d,_,_,b7,rfl,ha,.inr ⟨_,rfl,rfl⟩,xk,k7,_,rfl,a,C,some d,_,_,b8,rfl,ha,.inr ⟨_,rfl,rfl⟩,xk,k8,l3,λp4 H4 S4 f4 h4=>⟨p3,p4,_,_,rfl,rfl,S4 _ _ h3,h4,(show 9<=sizeLine by decide),λp5 H5 S5 f5 h5=>?_⟩⟩;subst hR1;dsimp only[cu,List.set_cons_succ,List.set_cons_zero];have ha:=S5 _ _ (S4 _ _ ha);have SS:=S1.trans (S2.trans (S3.trans (S4.trans S5)));refine eY ⟨_,rfl,a,C,some d,_,_,true,rfl,ha,.inl ⟨_,rfl,rfl⟩,xk,kv,true,rfl,?_⟩;rw[ZY rfl];refine⟨_,rfl,rW ⟨9,rfl,by decide,λD1 hD1=>⟨λk ys Hc=>ys=(List.range k).map (λi:Nat=>V.bl (decide ((i:Int)=n)))/\Hc=upd H5 D1 (.lst ys),⟨rfl,rfl⟩,?_,?_⟩⟩⟩
  .rintro k ys Hc hk ⟨rfl,rfl⟩ hy;refine⟨_,rfl,_,rfl,rfl,?_⟩;have e:decide (V.int (k:Int)=V.int n)=decide ((k:Int)=n):=decide_eq_decide.mpr ⟨λz=>by injection z,λz=>by rw[z]⟩;dsimp only;rw[e];exact⟨bI,by rw[List.range_succ,bA];rfl,tQ⟩
  .rintro ys Hc ⟨rfl,rfl⟩ hy;refine⟨true,?_,q _ (SS.trans (Same.upd hD1))⟩;have e1:upd H5 D1 (.lst ((List.range 9).map λi:Nat=>V.bl (decide ((i:Int)=n)))) p5=some (.lst [.bl b0,.bl b1,.bl b2,.bl b3,.bl b4,.bl b5,.bl b6,.bl b7,.bl b8]):=(bL (bK h5 hD1)).trans h5;have e2:upd H5 D1 (.lst ((List.range 9).map λi:Nat=>V.bl (decide ((i:Int)=n)))) D1=some (.lst ((List.range 9).map λi:Nat=>V.bl (decide ((i:Int)=n)))):=bI;unfold eqH;dsimp only;rw[e1,e2];dsimp only;rw[eb]
   rfl
noncomputable def Ym(K:Frag):Sp:=λvs H Q _=>∃(a b:Addr)(s:Η)(cs:List (Option FC))(pl:List (Option Nat))(st:Nat)(ns:Φ),vs=[.ref a,.ref b]/\Ran H a s cs pl st ns/\Ran H b s cs pl st ns/\(∀fc,some fc∈cs->0<fc.1.2/\Int.gcd fc.1.1 fc.1.2=1)/\∀H',Same H H'->Q (.bl true) H'
theorem acH(F:Fun K Og Og YF f fd)(T:Txt K mg D)(lF:OkF P w K mg base 1 qT qK eO)(pO:OkF P w K mg base 2 m6 nq yj):cD P w K mg base CX0 3 f fd M4 (Ym K):=by
 refine F.ok Yq ?_ ?_
 .rintro _ _ _ _ ⟨a,b,s,cs,pl,st,ns,rfl,_⟩;rfl
 .rintro cdv A outer s H _ Q E hr ⟨a,b,s,cs,pl,st,ns,rfl,ha,hb,fr,q⟩;obtain⟨dd,sa,sb,sd,de⟩:=ha.shows hb;obtain⟨ls,pd,ys,vs,z,o,e,k,a1,a2,a3,a4,a5,a6,a7,a8,a9,a10⟩:=ha.ex;refine⟨_,(bH (dB (PW.pt (pw_or (cT (cQ (bW gk (by rfl) T.cB boot_isinstance (bD (pv 0) (bD (iz (v:=.ty "tuple") (by rfl) T.vg boot_tuple rfl) bF))) (λ_=>rfl))) (pw_or (cU El (bW xR (by rfl) T.iT PySem.boot_len (bD (pv 0) bF)) bG (cH _)) (pw_or1 (cT (cQ (bW gk (by rfl) T.cB boot_isinstance (bD (bT cA (pv 0) bG (λ_ _=>rfl)) (bD (iz (v:=.ty "list") (by rfl) T.oH boot_list rfl) bF))) (λ_=>rfl)))))))
    (bM (b_ mF))
    cG)
   (bH (fQ PassesOwn.never rfl (dD ((bT cA (pv 0) bG (λ_ _=>rfl))).mono) (cF (i:=2) Yq.nd rfl (Or.inl rfl))
    (bH (dB (PW.pt (pw_or (cT (cQ (bW gk (by rfl) T.cB boot_isinstance (bD (pv 2) (bD (iz (v:=.ty "tuple") (by rfl) T.vg boot_tuple rfl) bF))) (λ_=>rfl))) (pw_or (cU El (bW xR (by rfl) T.iT PySem.boot_len (bD (pv 2) bF)) bG (cH _)) (pw_or1 (cT (cQ (bO pO hr.md (by rfl) (bD (bT cA (pv 2) bG (λ_ _=>rfl)) bF)) (λ_=>rfl)))))))
     (bM (b_ mF))
     cG)
    (bM (dB (PW.pt (pw_or (cT (cQ (bO lF hr.md (by rfl) (bD (bT cA (pv 2) bG (λ_ _=>rfl)) bF)) (λ_=>rfl))) (pw_or1 (cT (cQ (bO lF hr.md (by rfl) (bD (bT cA (pv 2) bG (λ_ _=>rfl)) bF)) (λ_=>rfl))))))
     (bM (b_ mF))
     cG))))
   (bM (b_ (nQ (bO pO hr.md (by rfl) (bD (bT cA (pv 0) bG (λ_ _=>rfl)) bF)) (nQ (bO lF hr.md (by rfl) (bD (bT cA (pv 0) bG (λ_ _=>rfl)) bF)) (sW (h_ (RQ hr.units) (pv 0) (pv 1) (cH _))))))))),?_⟩
  refine bQ λR1 hR1=>?_;refine cW (iG (uI ⟨_,rfl,_,_, "tuple",rfl,by simp,GR a1,true,rfl,?_⟩));refine Nr ?_;refine uI ⟨_,rfl,a,_,rfl,a1,rfl,false,rfl,?_⟩;refine if_not ?_;refine⟨_,rfl,a,_,0,_,rfl,rfl,a1,fD,_,_, "list",rfl,by simp,nG a2,true,rfl,?_⟩;show R1 _ _ _;subst hR1;refine bQ λR1 hR1=>?_;refine cW (d_ ⟨_,rfl,a,_,0,_,rfl,rfl,a1,fD,ls,ys,rfl,a2,λk σ H'=>∃u,σ=[some (.ref a),some (.ref b),u]/\Same H H',⟨none,rfl,λ_ _ z=>z⟩,?_,?_⟩)
  .rintro i x σ' H3 hx ⟨u,rfl,S3⟩ hl3;have li:i<vs.length:=by rw[<- a3.len];exact(ao.mp hx).1
   obtain⟨t,aa,j,fc,x1,x2,x3,x4,x5⟩:=a3.at_ i _ (aj li);rw[hx]at x1;cases x1;have x2:=S3 _ _ x2;have x5:=S3 _ _ x5;obtain⟨f0,fg⟩:=fr fc (aB x4);dsimp only[cu,List.set_cons_succ,List.set_cons_zero];refine bQ λR2 hR2=>?_;refine cW (iG (uI ⟨_,rfl,_,_, "tuple",rfl,by simp,GR x2,true,rfl,?_⟩));refine Nr ?_;refine uI ⟨_,rfl,t,_,rfl,x2,rfl,false,rfl,?_⟩;refine if_not ?_;refine⟨_,rfl,t,_,2,_,rfl,rfl,x2,cg (j:=2) rfl,aa,_,_,rfl,x5,true,by rw[Zs f0,Zs fg];rfl,?_⟩;show R2 _ _ _;subst hR2;refine iG (uI ⟨_,rfl,t,_,0,_,rfl,rfl,x2,fD,_, "int",rfl,rfl,true,rfl,?_⟩);refine Nr ?_;exact⟨_,rfl,t,_,1,_,rfl,rfl,x2,dX,_, "int",rfl,rfl,true,rfl,hl3,_,rfl,S3⟩
  .rintro σ' H3 ⟨u,rfl,S3⟩ hl3;subst hR1;dsimp only;refine eY ⟨_,rfl,a,_,1,_,rfl,rfl,S3 _ _ a1,dX,pd,_,_,rfl,S3 _ _ a4,true,by rw[Zs a5,Zs a6];rfl,?_⟩;rw[ZY rfl];refine⟨_,rfl,a,_,2,_,rfl,rfl,S3 _ _ a1,cg (j:=2) rfl,_, "int",rfl,rfl,true,rfl,?_⟩;rw[ZY rfl];refine⟨_,rfl,_,rfl,dd,dd,Shows.same S3 sa,Shows.same S3 sb,sd,sd,?_⟩;show Q (.bl (PyData.eqv dd dd)) H3;rw[de];exact q H3 S3
structure Tells(H:Hp)(v:V):Prop where
 ex:∃d,Shows H v d/\SeqAt.shaped d=true/\PyData.eqv d d=true
theorem Tells.same{H H':Hp}{v:V}(h:Tells H v)(S:Same H H'):Tells H' v:=by obtain⟨d,a,b⟩:=h.ex;exact⟨d,Shows.same S a,b⟩
theorem pW.same{rms:List (Str×List Dr)}{H H':Hp}{v:V}{r:Option V}(h:pW rms H v r)(ov:Odd H v)(S:Same H H'):pW rms H' v r:=by
 rcases h with⟨l,xs,a1,a2,a3,a4,a5⟩|⟨e1,nl⟩
 .exact .inl ⟨l,xs,a1,S _ _ a2,a3,λx hx=>(a4 x hx).same S,a5⟩
 .exact .inr ⟨e1,(KD.same ⟨ov,nl⟩ S).2⟩
noncomputable def Ue(K:Frag)(D:Adr):Sp:=λvs H Q _=>∃(o p:Addr)(v sv rv:V)(n:Int)(rms:List (Str×List Dr))(r:Option V),vs=[.ref o,v,sv,.int n,rv]/\gY D H o p rms/\xg rms/\Odd H v/\Odd H sv/\pW rms H v r/\(r=none/\¬rQ rms.length sv/\n=6/\rv=sv\/r=some rv/\n=8)/\Tells H rv/\∀H',Same H H'->Q (.bl true) H'
theorem Mu(F:Fun K pQ pQ xq f fd)(T:Txt K mg D)(tX:OkX P w K mg base 5 oY oW (Lr K D))(Ku:OkF P w K mg base 1 yN yO (Ou D)):cD P w K mg base CX0 6 f fd pZ (Ue K D):=by
 refine F.ok qd ?_ ?_
 .rintro _ _ _ _ ⟨o,p,v,sv,rv,n,rms,r,rfl,_⟩;rfl
 .rintro cdv A outer s H _ Q E hr ⟨o,p,v,sv,rv,n,rms,r,rfl,hh,few,ov,os,pi,hc,tl,q⟩;refine⟨_,(bH (bU (i:=5) qd.nd rfl (Or.inl rfl) gZ)
   (bH (Um (i:=6) qd.nd rfl rfl (by rfl) T.sH T.J1 T.Jl rfl rfl rfl (λ_ _ _ HF=>(bM (dh (iY tX hr.md (by rfl) HF (bD (pv 0) (bD (pv 1) (bD (pv 2) (bD (dZ (bD (dO (bD bG (bD bG bF))) bF)) bF))))))))
    (λ_ _=>(bM (bU (i:=5) qd.nd rfl (Or.inl rfl) (pv 6)))))
   (bM (b_ (nQ (h_ WQ (pv 5) gZ (cH _)) (nQ (bO Ku hr.md (by rfl) (bD (pv 5) (bD (pv 3) bF))) (sW (h_ (RQ hr.units) (Vz (K':=K) rfl (pv 5) rfl) (pv 4) (cH _))))))))),?_⟩
  refine bY ?_;dsimp only[cu,L2.start,List.set_cons_succ,List.set_cons_zero];refine bQ λR1 hR1=>?_;refine cW ⟨λC d σ H'=>∃c,C=.ref c/\(c=D.NoRoom/\n=6\/c=D.NoPlan/\n=8)/\σ=[some (.ref o),some v,some sv,some (.int n),some rv,some .non,none]/\∃d',d=some d'/\Same H H'/\H' d'=some (.xd [("room",rv)]),?_,?_⟩
  .refine⟨_,rfl,_,rfl,_,rfl,fH,λp1 H1 S1 f1 h1=>⟨Kf,λp2 H2 S2 f2 h2=>?_⟩⟩;have SS:=S1.trans S2;refine⟨o,p,p2,v,sv,rms,r,rfl,hh.same SS,few,ov.same SS,os.same SS,pi.same ov SS,λer rn=>?_,λer rn d H' S hd hx=>?_,λu er d H' S hd hx=>?_⟩
   .rcases hc with⟨_,z,_⟩|⟨z,_⟩
    .exact absurd rn z
    .rw[er]at z;cases z
   .rcases hc with⟨_,_,z,rfl⟩|⟨z,_⟩
    .exact⟨_,rfl,.inl ⟨rfl,z⟩,rfl,d,rfl,SS.trans S,hx⟩
    .rw[er]at z;cases z
   .rcases hc with⟨z,_⟩|⟨z,z8⟩
    .rw[er]at z;cases z
    .rw[er]at z;cases z;exact⟨_,rfl,.inr ⟨rfl,z8⟩,rfl,d,rfl,SS.trans S,hx⟩
  .rintro _ _ σ' H' ⟨c,rfl,hcl,rfl,d,rfl,S,hx⟩;obtain⟨sm,xk,hd,no⟩ : mroIn K c (.ref D.HallError)=some true/\uw K c/\hasDictIn K c=true/\dj K c "room" := by
    rcases hcl with⟨rfl,_⟩|⟨rfl,_⟩
    .exact⟨T.sm_NoRoom,T.xk_NoRoom,T.hd_NoRoom,T.sG⟩
    .exact⟨T.sm_NoPlan,T.xk_NoPlan,T.hd_NoPlan,T.sO⟩
   refine⟨c,rfl,sm,λa ha=>?_⟩;have S1:Same H' (upd H' a (XO a c (some d))):=Same.upd ha;have hX:upd H' a (XO a c (some d)) a=some (XO a c (some d)):=bI;generalize upd H' a (XO a c (some d))=H1 at S1 hX ⊢;have SS:=S.trans S1;subst hR1;refine KQ ⟨_,rfl,?_⟩;dsimp only[cu,Ends.unset,List.set_cons_succ,List.set_cons_zero];refine eY ⟨_,rfl,rfl,true,by rw[Zp (by intro z;cases z)];rfl,?_⟩;rw[ZY rfl];refine⟨_,rfl,_,rfl,a,d,c,n,rfl,hX,hcl,λH2 S2=>⟨true,rfl,?_⟩⟩;rw[ZY rfl];obtain⟨dd,s1,s2,s3⟩:=(tl.same (SS.trans S2)).ex;refine⟨_,rfl,a,c,d,_,rv,rfl,S2 _ _ hX,S2 _ _ (S1 _ _ hx),xk,hd,no,rfl,_,rfl,dd,dd,s1,s1,s2,s2,?_⟩;show Q (.bl (PyData.eqv dd dd)) H2;rw[s3];exact q H2 (SS.trans S2)
noncomputable def LR(x:V):Prop:=x=.bl true\/x=.int 3\/x=.int (-1)\/x=.str "0"
theorem LR.fit{x:V}{m:Nat}(h:LR x)(m3:m<=3):pY x m=false:=by
 unfold pY;by_cases z:m=0
 .rw[ZY z];rcases h with rfl|rfl|rfl|rfl<;>rfl
 .rw[ZZ z];rcases h with rfl|rfl|rfl|rfl
  .rfl
  .show(decide ((0:Int)<=3)&&decide ((3:Int)<m))=false;rw[Zp (show ¬(3:Int)<m by lia),Bool.and_false]
  .rfl
  .rfl
theorem LR.odd{H:Hp}{x:V}(h:LR x):Odd H x:=by
 rcases h with rfl|rfl|rfl|rfl<;>exact⟨_,rfl⟩
theorem Qd{ys:Κ}{n:Nat}(h:n<=ys.length):qb ys none (some (n:Int))=ys.take n:=by
 unfold qb;rw[HT.tH,Nat.min_eq_left h];show((ys.drop 0).take (n-0))=_;rw[List.drop_zero,Nat.sub_zero]
noncomputable def Tz:Sp:=λvs H Q _=>∃(l:Addr)(c:Int)(pl:List (Option Nat)),vs=[.ref l,.int c]/\H l=some (.lst (pl.map stV))/\1<=pl.length/\pl.length<=12/\∀t H' v w,Same H H'->H' t=some (.tup [v,w])->Odd H' v->((w=.non/\KD pl.length H' v)\/∃(k:Nat)(l2:Addr)(ys:Κ)(x:V),w=.int (k:Nat)/\v=.ref l2/\H' l2=some (.lst ys)/\ys.length=pl.length/\k<pl.length/\ys=(pl.map stV).take k++x::(pl.map stV).drop (k+1)/\LR x)->Q (.ref t) H'
theorem YB(F:Fun K nj nj uP f fd)(T:Txt K mg D):cD P w K mg base CX0 1 f fd m8 Tz:=by
 refine F.ok nM ?_ ?_
 .rintro _ _ _ _ ⟨l,c,pl,rfl,_⟩;rfl
 .rintro cdv A outer s H _ Q E hr ⟨l,c,pl,rfl,hl,n1,n12,q⟩;have ml:(pl.map stV).length=pl.length:=ak ..;refine⟨_,(bH (bU (i:=2) nM.nd rfl (Or.inl rfl) (bR je (bR dY (pv 1) bG) (bW d9 (by rfl) T.iT PySem.boot_len (bD (pv 0) bF))))
   (bH (bU (i:=3) nM.nd rfl (Or.inl rfl) (bR dU (pv 1) bG))
   (bH (dB (cU qF (pv 3) bG (cH _))
    (bM (b_ (dO (bD (fV PK (by rfl) T.vg boot_tuple (bD (pv 0) bF)) (bD gZ bF)))))
    cG)
   (bH (dB (cU qF (pv 3) bG (cH _))
    (bM (b_ (dO (bD (rH Ah (pv 0) (qg bG) G_) (bD gZ bF)))))
    cG)
   (bH (dB (cU qF (pv 3) bG (cH _))
    (bM (b_ (dO (bD (bR v7 (pv 0) (dZ (bD gZ bF))) (bD gZ bF)))))
    cG)
   (bH (bU (i:=4) nM.nd rfl (Or.inl rfl) (bT bZ (dZ (bD mF (bD bG (bD (Rx Mt bG) (bD jL bF))))) (bR dU (bR dY (pv 1) bG) bG) (λ_ _=>rfl)))
   (bM (b_ (dO (bD (bR v7 (bR v7 (rH Ah (pv 0) G_ (qg (pv 2))) (dZ (bD (pv 4) bF))) (rH Ah (pv 0) (qg (bR cX (pv 2) bG)) G_)) (bD (pv 2) bF))))))))))),?_⟩
  obtain⟨k,ek,kl⟩ : ∃k:Nat,(c.fdiv 5).fmod ((pl.map stV).length:Nat)=k/\k<pl.length:=by
   rw[ml,aW _ (X2 _)];have h0:0<=c.fdiv 5%(pl.length:Int):=Z3 _ (by lia);have h1:c.fdiv 5%(pl.length:Int)<pl.length:=YY _ (by lia);exact⟨(c.fdiv 5%(pl.length:Int)).toNat,by lia,by lia⟩
  refine bQ λR1 hR1=>?_;refine bY ⟨_,rfl,_,_,rfl,rfl,⟨by decide,Bd.sm (by decide)⟩,_,rfl,l,_,rfl,hl,_,_,rfl,rfl,by lia,?_⟩;subst hR1;dsimp only[cu,L2.start,List.set_cons_succ,List.set_cons_zero];rw[ek];refine bQ λR1 hR1=>?_;refine bY ⟨_,rfl,_,_,rfl,rfl,(show(0:Int)<5 by decide),?_⟩;subst hR1;dsimp only[cu,List.set_cons_succ,List.set_cons_zero];refine bQ λR1 hR1=>?_;refine cW (iG ⟨_,rfl,rfl,decide (c%5=0),ZH V.bl (decide_eq_decide.mpr ⟨λz=>by injection z,λz=>by rw[z]⟩),?_⟩);by_cases w0:c%5=0
  .rw[Zs w0];refine K7 ?_;exact eY ⟨_,rfl,l,_,rfl,hl,λp1 H1 S1 f1 h1=>⟨fH,λt H2 S2 f2 h2=>q t H2 _ _ (S1.trans S2) h2 (N_ (n:=0) (S2 _ _ h1)).1 (.inl ⟨rfl,N_ (S2 _ _ h1)⟩)⟩⟩
  rw[Zp w0];show R1 _ _ _;subst hR1;refine bQ λR1 hR1=>?_;refine cW (iG ⟨_,rfl,rfl,decide (c%5=1),ZH V.bl (decide_eq_decide.mpr ⟨λz=>by injection z,λz=>by rw[z]⟩),?_⟩);by_cases w1:c%5=1
  .rw[Zs w1];refine K7 ?_;refine eY ⟨_,rfl,_,rfl,l,_,rfl,hl,λp1 H1 S1 f1 h1=>⟨fH,λt H2 S2 f2 h2=>?_⟩⟩;have b:=M6 (n:=pl.length) (S2 _ _ h1) (by
    rw[show(1:Int)=((1:Nat):Int)from rfl,Ka (by rw[ml];omega),List.length_drop,ml];lia)
   exact q t H2 _ _ (S1.trans S2) h2 b.1 (.inl ⟨rfl,b⟩)
  rw[Zp w1];show R1 _ _ _;subst hR1;refine bQ λR1 hR1=>?_;refine cW (iG ⟨_,rfl,rfl,decide (c%5=2),ZH V.bl (decide_eq_decide.mpr ⟨λz=>by injection z,λz=>by rw[z]⟩),?_⟩);by_cases w2:c%5=2
  .rw[Zs w2];refine K7 ?_;refine eY ⟨_,rfl,Kf,λp0 H0 S0 f0 h0=>⟨l,p0,_,_,rfl,rfl,S0 _ _ hl,h0,aL (show(pl.map stV).length+1<=100 by lia) (by decide),λp1 H1 S1 f1 h1=>⟨fH,λt H2 S2 f2 h2=>?_⟩⟩⟩;have b:=M6 (n:=pl.length) (S2 _ _ h1) (by
    rw[aA,ml];show pl.length+1≠_;exact Nat.ne_of_gt (Nat.lt_succ_self _))
   exact q t H2 _ _ (S0.trans (S1.trans S2)) h2 b.1 (.inl ⟨rfl,b⟩)
  rw[Zp w2];show R1 _ _ _;subst hR1;obtain⟨x,ex,ox⟩ : ∃x,atI [V.bl true,V.int 3,V.int (-1),V.str "0"] (c.fdiv 20%4)=some x/\LR x:=by
   obtain z|z|z|z:c.fdiv 20%4=0\/c.fdiv 20%4=1\/c.fdiv 20%4=2\/c.fdiv 20%4=3:=by lia
   .exact⟨_,by rw[z];exact cg (j:=0) rfl,.inl rfl⟩
   .exact⟨_,by rw[z];exact cg (j:=1) rfl,.inr (.inl rfl)⟩
   .exact⟨_,by rw[z];exact cg (j:=2) rfl,.inr (.inr (.inl rfl))⟩
   .exact⟨_,by rw[z];exact cg (j:=3) rfl,.inr (.inr (.inr rfl))⟩
  refine bQ λR1 hR1=>?_;refine bY ⟨_,rfl,(show 4<=sizeLine by decide),λp0 H0 S0 f0 h0=>⟨_,rfl,_,_,rfl,rfl,⟨by decide,Bd.sm (by decide)⟩,_,_,rfl,rfl,(show(0:Int)<4 by decide),p0,_,_,_,rfl,rfl,h0,ex,?_⟩⟩;subst hR1;dsimp only[cu,List.set_cons_succ,List.set_cons_zero];refine eY ⟨_,rfl,_,rfl,_,rfl,l,_,rfl,S0 _ _ hl,λp1 H1 S1 f1 h1=>?_⟩;have sz:∀{a b:Nat},a<=20->b<=20->a+b<=sizeLine:=λ{a b}h1 h2=>aL (show a+b<=40 by lia) (by decide);rw[Qd (by lia)]at h1;have tl:((pl.map stV).take k).length<=12:=by rw[aZ];lia
  refine⟨_,rfl,Kf,λp2 H2 S2 f2 h2=>⟨p1,p2,_,_,rfl,rfl,S2 _ _ h1,h2,sz (aL tl (by decide)) (show 1<=20 by decide),λp3 H3 S3 f3 h3=>⟨_,rfl,_,rfl,_,_,rfl,rfl,_,rfl,l,_,rfl,(S0.trans (S1.trans (S2.trans S3))) _ _ hl,λp4 H4 S4 f4 h4=>?_⟩⟩⟩;rw[show((k:Nat):Int)+1=((k+1:Nat):Int)from rfl,Ka (by lia)]at h4;have dl:((pl.map stV).drop (k+1)).length<=12:=by rw[List.length_drop];omega
  refine⟨p3,p4,_,_,rfl,rfl,S4 _ _ h3,h4,sz (by rw[aA];simp;lia) (aL dl (by decide)),λp5 H5 S5 f5 h5=>⟨_,rfl,fH,λt H6 S6 f6 h6=>?_⟩⟩;have e5:=S6 _ _ h5;exact q t H6 _ _ (S0.trans (S1.trans (S2.trans (S3.trans (S4.trans (S5.trans S6)))))) h6 ⟨_,nG e5⟩ (.inr ⟨k,p5,_,x,rfl,rfl,e5,by rw[aA,aA,aZ,List.length_drop,ml];simp;lia,kl,by rw[X9];rfl,ox⟩)
theorem lq.few{n:Nat}{H:Hp}{dss:List (Β)}{rms:List (Str×List Dr)}(h:lq K n H dss rms)(ok:JH rms):xg rms:=by
 refine⟨ok.len,ok.few,λg hg d hd=>?_⟩;obtain⟨j,hj⟩:=aV hg;have lj:j<dss.length:=by rw[<- h.len];exact(ao.mp hj).1
 obtain⟨_,z⟩:=(h.at_ j _ g (aj lj) hj).mem hd;exact aL z.few.1 (by decide)
theorem lq.dn{n:Nat}{H:Hp}{dss:List (Β)}{rms:List (Str×List Dr)}(h:lq K n H dss rms){k:Nat}{ds:Β}(e:dss[k]?=some ds):dnR rms k=ds.length:=by
 have lk:k<rms.length:=by rw[h.len];exact(ao.mp e).1
 unfold dnR;rw[aj lk];exact(h.at_ k _ _ e (aj lk)).len
theorem lq.fits{n:Nat}{H:Hp}{dss:List (Β)}{rms:List (Str×List Dr)}(h:lq K n H dss rms){ps:List (Option Nat)}(pf:QG dss ps){l:Addr}{H':Hp}(hl:H' l=some (.lst (ps.map stV))):pW rms H' (.ref l) none:=by
 refine .inl ⟨l,_,rfl,hl,by rw[ak,pf.1,h.len],λx hx=>?_,.inl ⟨rfl,λk x e=>?_⟩⟩
 .obtain⟨o,_,rfl⟩:=YV.mp hx;cases o<;>exact⟨_,rfl⟩
 .rw[aq]at e;cases eo:ps[k]? with
  |none=>rw[eo]at e;cases e
  |some o =>
   rw[eo]at e;cases e;have lk:k<dss.length:=by rw[<- pf.1];exact(ao.mp eo).1
   rw[h.dn (aj lk)];exact pf.2 k _ o (aj lk) eo
theorem W7{n:Nat}{H:Hp}{r:Addr}{xs:Κ}{dss:List (Β)}{fcss:List (List FC)}{ps:List (Option Nat)}(pf:QG dss ps)(rml:uE H r fcss)(hr:H r=some (.lst xs))(rd:RD n H xs dss)(ld:dss.length=fcss.length):Qm fcss ps:=by
 obtain⟨xs',hr',xl,xa⟩:=rml.ex;rw[hr]at hr';cases hr';refine⟨by rw[pf.1,ld],λk fcs o e1 e2=>?_⟩;have lk:k<dss.length:=by rw[ld];exact(ao.mp e1).1
 have ek:dss[k]?=some dss[k]:=aj lk;have f:=pf.2 k _ o ek e2;obtain⟨l,ds,c1,c2,c3,c4⟩:=xa k fcs e1;obtain⟨l',d1,d2,_⟩:=rd.at_ k _ ek;rw[c1]at d1;cases d1;rw[c2]at d2;have dl:ds.length=dss[k].length:=by
  have:=ZH List.length (HO.lst.inj (Option.some.inj d2));rwa[ak,ak]at this
 have fl:=c4.len;rw[<- dl,<- fl]at f;unfold pY at f;refine⟨λe=>?_,λj e=>?_⟩
 .subst e;by_cases z:fcs.length=0
  .exact List.eq_nil_of_length_eq_zero z
  .rw[ZZ z]at f;cases f
 .subst e;by_cases z:fcs.length=0
  .rw[ZY z]at f;exact absurd (of_decide_eq_true f) (λw=>by cases w)
  .rw[ZZ z]at f;have f:(decide ((0:Int)<=(j:Nat))&&decide (((j:Nat):Int)<(fcs.length:Nat)))=true:=f;have:=of_decide_eq_true (Bool.and_eq_true_iff.mp f).2;omega
noncomputable def Oh(K:Frag)(D:Adr):Sp:=λvs H Q _=>Lr K D vs H Q λ_ _ _=>False
theorem mQ.imp{H H':Hp}{xs:Κ}{ns:Φ}(h:mQ H xs ns)(T:∀p us,H p=some (.tup us)->H' p=some (.tup us)):mQ H' xs ns:=⟨h.1,λi f e=>let⟨a,x1,x2,x3⟩:=h.2 i f e;⟨a,x1,T _ _ x2,x3⟩⟩
theorem mQ.snoc{H:Hp}{xs:Κ}{ns:Φ}{a:Addr}{f:Η}(h:mQ H xs ns)(ha:H a=some (.tup [.int f.1,.int f.2]))(f0:0<f.2)(fb:Bd f.2):mQ H (xs++[.ref a]) (ns++[f]):=by
 have l:=h.1;refine⟨by rw[aA,aA,l];rfl,λi g e=>?_⟩;rcases jY e with⟨z,b⟩|⟨z,b⟩
 .obtain⟨a',x1,x2⟩:=h.2 i g b;exact⟨a',by rw[aD (by lia)];exact x1,x2⟩
 .subst b;exact⟨a,by rw[aC (by lia),l,z,Nat.sub_self];rfl,ha,f0,fb⟩
theorem mQ.shows{H:Hp}{xs:Κ}{ns:Φ}(h:mQ H xs ns):dw H xs (ns.map frD):=sI (by rw[ak,h.1]) λk x d e1 e2=>by
 rw[aq]at e2;cases ev:ns[k]? with
 |none=>rw[ev]at e2;cases e2
 |some f =>
  rw[ev]at e2;cases e2;obtain⟨a,x1,x2,_⟩:=h.2 k f ev;rw[e1]at x1;cases x1;exact .tup x2 (.cons (.int _) (.cons (.int _) .nil))
theorem Run.len{cs:List (Option FC)}{st:Nat}{qs:List Rat}{vs:List Nat}{r:Nat}(h:Run cs st qs vs r):vs.length=qs.length:=by
 induction h with
 |nil=>rfl
 |snoc a b c ih=>rw[aA,aA,ih];rfl
theorem xJ{H:Hp}{i:Int} : Tells H (.int i):=⟨_,.int _,rfl,PySem.SeqAt.eqv_refl _ rfl⟩
theorem VJ{H:Hp} : Tells H (.str "0"):=⟨_,.str _,by decide +kernel,PySem.SeqAt.eqv_refl _ (by decide +kernel)⟩
noncomputable def zV(pl:List (Option Nat))(fs:Φ):PyData:=.list [.list (pl.map stD),.list (fs.map frD)]
theorem U_(pl:List (Option Nat))(fs:Φ):SeqAt.shaped (zV pl fs)=true/\PyData.eqv (zV pl fs) (zV pl fs)=true:=by
 have c1:PyData.canLayAll0 (pl.map stD)=true:=nF (λo=>by cases o<;>rfl) pl;have c2:PyData.canLayAll0 (fs.map frD)=true:=nF (λo=>rfl) fs;have c0:PyData.canLay0 (zV pl fs)=true:=by
  show(PyData.canLayAll0 (pl.map stD)&&(PyData.canLayAll0 (fs.map frD)&&true))=true;rw[c1,c2];rfl
 have d1:=qw (n:=2) (g:=stD) (λo=>by cases o<;>exact bh _) pl;have d2:=qw (n:=2) (g:=frD) (λo=>by show(1:Nat)<=2;decide) fs;have d0:PyData.depth (zV pl fs)<=64:=by
  show max (PyData.depthAll (pl.map stD)+1) (max (PyData.depthAll (fs.map frD)+1) 0)+1<=64;lia
 refine⟨?_,PySem.SeqAt.eqv_refl _ c0⟩;unfold SeqAt.shaped;rw[c0,Zs d0];rfl
theorem YC{H:Hp}{r:Addr}{x y:Int}{fcss:List (List FC)}(x0:0<=x)(xy:x<y)(y1:y<=100)(rl:uE H r fcss)(dm:∀fcs∈fcss,fcs.length<=3/\∀fc∈fcs,Eb fc):Sh (x,y) fcss:=by
 refine⟨x0,by show x<=y;exact XY xy,by show 0<y;exact Int.lt_of_le_of_lt x0 xy,y1,λfcs h1 fc h2=>⟨((dm fcs h1).2 fc h2).fq,?_⟩⟩;obtain⟨xs,_,_,c⟩:=rl.ex;obtain⟨k,ek⟩:=aV h1;obtain⟨l,ds,_,_,_,rm⟩:=c k fcs ek;obtain⟨j,ej⟩:=aV h2;have lj:j<ds.length:=by rw[<- rm.len];exact(ao.mp ej).1
 obtain⟨_,_,ws,_,_,_,e1,e2⟩:=(rm.at_ j _ fc (aj lj) ej).ex;rw[e2];exact⟨_,e1.door⟩
theorem Zy{n:Nat}{H H':Hp}{dss:List (Β)}{rms:List (Str×List Dr)}(hi:lq K n H dss rms){pl:List (Option Nat)}(pf:QG dss pl)(d3:∀ds∈dss,ds.length<=3){k:Nat}{l2:Addr}{ys:Κ}{x:V}(e:H' l2=some (.lst ys))(yl:ys.length=pl.length)(kl:k<pl.length)(ey:ys=(pl.map stV).take k++x::(pl.map stV).drop (k+1))(ox:LR x):pW rms H' (.ref l2) (some (.int (k:Nat))):=by
 have ml:(pl.map stV).length=pl.length:=ak ..;have tl:((pl.map stV).take k).length=k:=by rw[aZ];lia
 have ek:ys[k]?=some x:=by rw[ey,aC (Nat.le_of_eq tl),tl,Nat.sub_self];rfl
 have lk:k<dss.length:=by rw[<- pf.1];exact kl
 have ov:∀z∈pl.map stV,Odd H' z:=λz hz=>by
  obtain⟨o,_,rfl⟩:=YV.mp hz;cases o<;>exact⟨_,rfl⟩
 refine .inl ⟨l2,ys,rfl,e,by rw[yl,pf.1,hi.len],λz hz=>?_,.inr ⟨k,x,rfl,ek,?_,λj z hj ez=>?_⟩⟩
 .rw[ey]at hz;rcases Y1.mp hz with hz|hz
  .exact ov z (List.mem_of_mem_take hz)
  .rcases YU.mp hz with hz|hz
   .rw[hz];exact ox.odd
   .exact ov z (List.mem_of_mem_drop hz)
 .rw[hi.dn (aj lk)];exact ox.fit (d3 _ (aU lk))
 .have lj:j<dss.length:=by exact Nat.lt_trans hj lk
  rw[hi.dn (aj lj)];rw[ey,aD (by lia),List.getElem?_take_of_lt hj,aq]at ez;have lp:j<pl.length:=by exact Nat.lt_trans hj kl
  rw[aj lp]at ez;cases ez;exact pf.2 j _ _ (aj lj) (aj lp)
theorem Y0(F:Fun K Gn Gn Io f fd)(T:Txt K mg D)(Wi:∀a ns,OkF P w K mg base 1 tu tD (zu K a ns))(Rr:∀a ns,OkF P w K mg base 4 sy qX (Bf K a ns))(GJ:OkF P w K mg base 1 vm vN JX)(Fb:OkF P w K mg base 8 vY vL (Ji K D))(K4:OkF P w K mg base 2 zf zq Ek)(zE:OkF P w K mg base 3 tW tG DQ)(U4:OkF P w K mg base 5 Gp HD Uh)(Jq:OkF P w K mg base 5 oY oW (Oh K D))(Wq:OkF P w K mg base 3 Og M4 (Ym K))(Kq:OkF P w K mg base 1 nj m8 Tz)(oX:OkF P w K mg base 6 pQ pZ (Ue K D)):cD P w K mg base CX0 9 f fd Ma (Nk K):=by
 refine F.okB jx ?_ ?_
 .rintro _ _ _ _ ⟨a,ns,rfl,_⟩;rfl
 .rintro cdv A outer s H _ Q E hr ⟨a,ns,rfl,hs,hl,_,hQ⟩;have mR:=Wi a ns;have Fj:=Rr a ns;refine⟨_,(cZ (PSB.mk (Bx (bO Fj hr.md (by rfl) (bD (pv 0) (bD bG (bD bG bF)))) (fj (n:=2) rfl (cC (cF (i:=10) jx.nd rfl (Or.inl rfl)) (cC (cF (i:=11) jx.nd rfl (Or.inl rfl)) eN)))))
   (cZ (PSB.mk (bU (i:=1) jx.nd rfl (Or.inl rfl) (bO GJ hr.md (by rfl) (bD (bO mR hr.md (by rfl) (bD (pv 0) (bD bG bF))) (bD (bW d9 (by rfl) T.iT PySem.boot_len (bD (pv 11) bF)) bF)))))
   (cZ (PSB.mk (bU (i:=2) jx.nd rfl (Or.inl rfl) (bO Fb hr.md (by rfl) (bD (pv 10) (bD (pv 11) (bD (pv 1) bF))))))
   (cZ (PSB.mk (bU (i:=3) jx.nd rfl (Or.inl rfl) (bO K4 hr.md (by rfl) (bD (bO mR hr.md (by rfl) (bD (pv 0) (bD bG bF))) (bD (pv 11) bF)))))
   (cZ (PSB.mk (bU (i:=4) jx.nd rfl (Or.inl rfl) (bR je (bO mR hr.md (by rfl) (bD (pv 0) (bD bG bF))) (bW d9 (by rfl) T.iT PySem.boot_len (bD (pv 11) bF)))))
   (cZ (PSB.mk (Nq (bN Io) Ru Ru ["_law_cell_here"] (dD ((rH Hi (pv 0) (qg bG) (qg bG))).mono) (fZ (i:=0)) fL (bO zE hr.md (by rfl) (bD (pv 0) bF)) (cF (i:=5) jx.nd rfl (Or.inl rfl))))
   (cZ (PSB.mk (bU (i:=6) jx.nd rfl (Or.inl rfl) (bO U4 hr.md (by rfl) (bD (pv 10) (bD (pv 11) (bD (pv 3) (bD (pv 4) (bD (pv 5) bF))))))))
   (cZ (PSB.mk (bU (i:=7) jx.nd rfl (Or.inl rfl) (dZ (bD (fV mW (by rfl) T.oH boot_list (bD (pv 3) bF)) (bD (fV mW (by rfl) T.oH boot_list (bD (pv 5) bF)) bF)))))
   (cZ (PSB.mk (bU (i:=8) jx.nd rfl (Or.inl rfl) (bO Jq hr.md (by rfl) (bD (pv 2) (bD (bT bZ (pv 7) bG (λ_ _=>rfl)) (bD (pv 4) (bD (bT bZ (pv 7) bG (λ_ _=>rfl)) bF)))))))
   (cZ (PSB.mk (dB (PW.pt (pw_or (cU (YD hr.units) (pv 7) (dZ (bD (pv 3) (bD (pv 5) bF))) (cH _)) (pw_or1 (cT (cQ (bO Wq hr.md (by rfl) (bD (pv 8) (bD (pv 6) bF))) (λ_=>rfl))))))
    (bM (b_ mF))
    cG))
   (cZ (PSB.mk (dh (kY (bT cA (pv 8) bG (λ_ _=>rfl)) (bD (dO (bD bG (bD bG (bD (dO (bD bG (bD bG bF))) bF)))) bF))))
   (cZ (PSB.mk (bU (i:=9) jx.nd rfl (Or.inl rfl) (bT bZ (dZ (bD (Rx Mt bG) (bD (bW d9 (by rfl) T.iT PySem.boot_len (bD (pv 11) bF)) (bD mF (bD gZ (bD jL (bD (dZ (bD bG bF)) bF))))))) (bR dU (bO mR hr.md (by rfl) (bD (pv 0) (bD bG bF))) bG) (λ_ _=>rfl))))
   (cZ (PSB.mk (Bx (bO Kq hr.md (by rfl) (bD (pv 3) (bD (bO mR hr.md (by rfl) (bD (pv 0) (bD bG bF))) bF))) (fj (n:=2) rfl (cC (cF (i:=12) jx.nd rfl (Or.inl rfl)) (cC (cF (i:=13) jx.nd rfl (Or.inl rfl)) eN)))))
   (cZ (PSB.mk (dB (PW.pt (pw_or (cT (cQ (bO oX hr.md (by rfl) (bD (pv 2) (bD (fV mW (by rfl) T.oH boot_list (bD (pv 3) bF)) (bD (pv 9) (bD bG (bD (pv 9) bF)))))) (λ_=>rfl))) (pw_or1 (cT (cQ (bO oX hr.md (by rfl) (bD (pv 2) (bD (pv 12) (bD (pv 9) (bD bG (bD (pv 13) bF)))))) (λ_=>rfl))))))
    (bM (b_ mF))
    cG))
   (cZ (PSB.mk (dB (cT (cQ (bO oX hr.md (by rfl) (bD (pv 2) (bD (pv 12) (bD (pv 4) (bD bG (bD (pv 13) bF)))))) (λ_=>rfl)))
    (bM (b_ mF))
    cG))
   (zW (PSB.mk (b_ (bO Wq hr.md (by rfl) (bD (bO Jq hr.md (by rfl) (bD (pv 2) (bD (fV mW (by rfl) T.oH boot_list (bD (pv 3) bF)) (bD (pv 4) (bD (fV mW (by rfl) T.oH boot_list (bD (pv 5) bF)) bF))))) (bD (pv 6) bF))))))))))))))))))))),?_⟩
  have z9:100<sizeLine:=by decide
  refine bQ λR1 hR1=>?_;refine bY ⟨_,rfl,0,4,rfl,hs,hl,by decide,by decide,by decide,λt ps r x y xs dss H1 dr ht=>⟨t,_,rfl,ht,rfl,_,_,rfl,_,_,rfl,rfl,?_⟩⟩;obtain⟨S1,hp,x0,xy,y1,gx,hr1,rd,n1,n4,d3⟩:=dr;have xl:xs.length=dss.length:=rd.len;subst hR1;dsimp only[cu,L2.start,List.set_cons_succ,List.set_cons_zero];refine bQ λR1 hR1=>?_;refine bY ⟨_,rfl,5,rfl,Same.sql S1 hs,hl,by decide,_,rfl,r,xs,rfl,hr1,_,dss.length,by rw[xl],by exact aL n4 (by decide),λl0 nms H2 S2 f2 h2 nl nw nd=>?_⟩;have S02:=S1.trans S2;subst hR1;dsimp only[cu,List.set_cons_succ,List.set_cons_zero];refine bQ λR1 hR1=>?_;refine bY ⟨_,rfl,_,rfl,_,rfl,ps,r,l0,x,y,xs,dss,nms,rfl,S2 _ _ hp,x0,xy,y1,gx,S2 _ _ hr1,rd.same S2,by exact aL n4 (by decide),d3,h2,nl,nw,nd,λo H3 rms S3 fo hh ok hi=>?_⟩;have S13:=S2.trans S3;have S03:=S1.trans S13;have hp:=S13 _ _ hp;have hr3:=S13 _ _ hr1;have rd:=rd.same S13;obtain⟨fcss,fn,hn,rml,dmm⟩:=SX (m:=3) hh ok hi hp x0 xy y1 hr3 rd rfl (aL n4 (by decide)) d3 (by decide);have hE:=YC x0 xy y1 rml dmm;have few:=hi.few ok;have rl:rms.length=dss.length:=hi.len;subst hR1;dsimp only[cu,List.set_cons_succ,List.set_cons_zero];refine bQ λR1 hR1=>?_;refine bY ⟨_,rfl,6,rfl,Same.sql S03 hs,hl,by decide,_,rfl,_,r,xs,dss.length,dss,rfl,hr3,rd,by exact aL n4 (by decide),λds h=>(by have:=d3 ds h;exact aL this (by decide)),λl pl H4 S4 f4 h4 pf=>?_⟩;have S04:=S03.trans S4;have hp:=S4 _ _ hp;have hr4:=S4 _ _ hr3;have rd:=rd.same S4;have hh:=hh.same S4;have hi:=hi.same S4;have hn:=hn.same S4;have rml:=rml.same S4;have ft:=W7 pf rml hr4 rd (Eq.symm fn);have pll:pl.length=dss.length:=pf.1;subst hR1;dsimp only[cu,List.set_cons_succ,List.set_cons_zero];refine bQ λR1 hR1=>?_;obtain⟨st,est,stn⟩ : ∃st:Nat,(cell ns 7).fmod (xs.length:Nat)=st/\st<dss.length:=by
   rw[xl,aW _ (X2 _)];have h0:0<=cell ns 7%(dss.length:Int):=Z3 _ (by lia);have h1:cell ns 7%(dss.length:Int)<dss.length:=YY _ (by lia);exact⟨(cell ns 7%(dss.length:Int)).toNat,by lia,by lia⟩
  refine bY ⟨_,rfl,7,rfl,Same.sql S04 hs,hl,by decide,_,rfl,r,xs,rfl,hr4,_,_,rfl,rfl,by lia,?_⟩;subst hR1;dsimp only[cu,List.set_cons_succ,List.set_cons_zero];rw[est];refine bQ λR1 hR1=>?_;have cl:(qb (ns.map V.int) (some 10) (some 40)).length<=30:=by
   unfold qb;rw[aZ];have e1:HT.sIx (ns.map V.int).length 0 (some 10)=min 10 (ns.map V.int).length:=HT.tH ..;have e2:HT.sIx (ns.map V.int).length (ns.map V.int).length (some 40)=min 40 (ns.map V.int).length:=HT.tH ..;rw[e1,e2];omega
  have ci:∀v∈qb (ns.map V.int) (some 10) (some 40),∃i,v=V.int i:=λv hv=>by
   unfold qb at hv;obtain⟨i,_,rfl⟩:=YV.mp (List.mem_of_mem_drop (List.mem_of_mem_take hv));exact⟨i,rfl⟩
  refine bY (jw ⟨_,rfl,_,rfl,_,rfl,a,_,rfl,Same.sql S04 hs,λpc hpc=>?_⟩);have Sc:Same H4 (upd H4 pc (.lst (qb (ns.map V.int) (some 10) (some 40)))):=Same.upd hpc;have ec:upd H4 pc (.lst (qb (ns.map V.int) (some 10) (some 40))) pc=_:=bI;generalize upd H4 pc (.lst (qb (ns.map V.int) (some 10) (some 40)))=H5 at Sc ec ⊢;generalize qb (ns.map V.int) (some 10) (some 40)=cv at cl ci ec ⊢;refine⟨pc,cv,rfl,ec,by exact aL cl (by decide),λD1 hD1=>⟨λk ys Hc=>∃fs,fs.length=k/\Same H5 Hc/\Hc D1=some (.lst ys)/\mQ Hc ys fs,⟨[],rfl,Same.upd hD1,bI,rfl,λi f e=>by simp at e⟩,?_,?_⟩⟩
  .rintro k v ys Hc hk ⟨fs,fl,Sd,hd,na⟩ hy hc;obtain⟨i,rfl⟩:=ci v (aB hk);refine⟨_,rfl,i,rfl,λp9 z o H9 S9 f9 h9 o0 gc zb ob=>?_⟩;have hd9:=S9 _ _ hd;have tp:∀p us,H9 p=some (.tup us)->upd H9 D1 (.lst (ys++[.ref p9])) p=some (.tup us):=λp us e=>(bL (d7 e hd9 (by intro z;cases z))).trans e;exact⟨hd9,S9 _ _ hc,fs++[(z,o)],by rw[aA,fl];rfl,g_ hD1 (Sd.trans S9),bI,((na.imp λp us e=>S9 _ _ e).snoc (f:=(z,o)) h9 o0 (Bd.sm (by show o.natAbs<_;lia))).imp tp⟩
  .rintro ys H6 ⟨fs,fl,Sd,hd,na⟩ hy;have S46:=Sc.trans Sd;have S06:=S04.trans S46;have hp:=S46 _ _ hp;have hr6:=S46 _ _ hr4;have hh:=hh.same S46;have hi:=hi.same S46;have hn:=hn.same S46;have rml:=rml.same S46;have h4:=S46 _ _ h4;subst hR1;dsimp only[cu,List.set_cons_succ,List.set_cons_zero];refine bQ λR1 hR1=>?_;refine bY ⟨_,rfl,_,rfl,_,rfl,_,rfl,_,rfl,ps,r,l,D1,(x,y),fcss,pl,st,ys,fs,rfl,hp,hE,rml,h4,ft,by lia,by lia,hd,na,by exact aL (Nat.le_of_eq fl) cl,λtd H7 S7 f7 rn7=>?_⟩;have S67:=S7;have fr:∀fc,some fc∈pick fcss pl->0<fc.1.2/\Int.gcd fc.1.1 fc.1.2=1:=λfc hf=>by
    obtain⟨fcs,m1,m2⟩:=wk hf;have:=(hE.2.2.2.2 fcs m1 fc m2).1;exact⟨this.pos,this.gcd⟩
   have call:∀(q1 q2:Addr)(Hx:Hp)(Q:VK)(E:XK),Same H6 Hx->Hx q1=some (.lst (pl.map stV))->Hx q2=some (.lst ys)->(∀t H',Same Hx H'->Hx t=none->(∀ls zs,H' t=some (.tup (.ref ls::zs))->Hx ls=none)->Ran H' t (x,y) (pick fcss pl) pl st fs->Q (.ref t) H')->Oh K D [.ref o,.ref q1,.int (st:Nat),.ref q2] Hx Q E:=λq1 q2 Hx Q E S h1 h2 qq=>⟨o,ps,q2,.ref q1,.int (st:Nat),rms,none,rfl,hh.same S,few,⟨_,nG h1⟩,⟨_,rfl⟩,hi.fits pf h1,λ_ _=>⟨(x,y),fcss,q1,pl,st,ys,fs,rfl,h1,ft,hn.same S,S _ _ hp,hE,rfl,by lia,h2,na.imp λp us e=>S _ _ e,by lia,qq⟩,λ_ rn=>absurd (show rQ rms.length (.int (st:Nat))from⟨by exact X2 _,by lia⟩) rn,λu e=>by cases e⟩;subst hR1;dsimp only[cu,List.set_cons_succ,List.set_cons_zero];refine bQ λR1 hR1=>?_;refine bY ⟨_,rfl,l,_,rfl,S67 _ _ h4,λq1 H8 S8 f8 h8=>⟨_,rfl,D1,_,rfl,S8 _ _ (S67 _ _ hd),λq2 H9 S9 f9 h9=>⟨fH,λhd9 H10 S10 f10 h10=>?_⟩⟩⟩;have S610:=S67.trans (S8.trans (S9.trans S10));have h8:=S10 _ _ (S9 _ _ h8);have h9:=S10 _ _ h9;have rn7:=rn7.same (S8.trans (S9.trans S10));subst hR1;dsimp only[cu,List.set_cons_succ,List.set_cons_zero];refine bQ λR1 hR1=>?_;refine bY ⟨_,rfl,_,rfl,hd9,_,0,_,rfl,rfl,h10,fD,_,rfl,_,rfl,hd9,_,1,_,rfl,rfl,h10,dX,call q1 q2 H10 _ (λ_ _ _=>False) S610 h8 h9 λtf H11 S11 f11 fr11 rn11=>?_⟩;have S611:=S610.trans S11;subst hR1;dsimp only[cu,List.set_cons_succ,List.set_cons_zero];refine bQ λR1 hR1=>?_;have two:=U_ pl fs;refine cW (iG (uI ⟨_,rfl,_,rfl,_,rfl,fH,λle H12 S12 f12 h12=>?_⟩));have S612:=S611.trans S12;have S1012:=S11.trans S12;refine⟨zV pl fs,zV pl fs,.lst (S1012 _ _ h10) (.cons (.lst (S1012 _ _ h8) wg) (.cons (.lst (S1012 _ _ h9) (na.imp λp us e=>S612 _ _ e).shows) .nil)),.lst h12 (.cons (.lst (S612 _ _ h4) wg) (.cons (.lst (S612 _ _ hd) (na.imp λp us e=>S612 _ _ e).shows) .nil)),two.1,two.1,false,ZH V.bl (by rw[ZY rfl,two.2];rfl),?_⟩;refine if_not ?_;refine⟨_,rfl,_,rfl,tf,td,(x,y),pick fcss pl,pl,st,fs,rfl,rn11.same S12,rn7.same S1012,fr,λH13 S13=>⟨true,rfl,?_⟩⟩;show R1 _ _ _;subst hR1;refine bQ λR1 hR1=>?_;obtain⟨ls,pd,ys',vs',z',o',e',k',b1,b2,b3,b4,b5,b6,b7,b8,b9,b10⟩:=rn11.ex;have yl:ys'.length<=30:=by
    rw[b3.len,b9.len,aZ];lia
   have S1113:=S12.trans S13;refine cW ⟨_,rfl,tf,_,0,_,rfl,rfl,S1113 _ _ b1,fD,ls,ys',rfl,S1113 _ _ b2,fH,λp14 H14 S14 f14 h14=>⟨(show 3<=sizeLine by decide),λp15 H15 S15 f15 h15=>⟨_,_,rfl,S15 _ _ (S14 _ _ (S1113 _ _ b2)),by exact Y3 yl (by decide),?_⟩⟩⟩;have S1016:=g_ (o:=.lst (ys'++[.ref p15])) (fr11 ls _ b1) (S11.trans (S1113.trans (S14.trans S15)));generalize upd H15 ls (.lst (ys'++[.ref p15]))=H16 at S1016 ⊢;have S616:=S610.trans S1016;have rn7:=rn7.same S1016
   clear b1 b2 b3 b4 b5 b6 b7 b8 b9 b10 rn11 S1113 S14 S15 S12 S13 S1012 S612 S611 S11
   subst hR1;dsimp only;refine bQ λR1 hR1=>?_;refine bY ⟨_,rfl,_,rfl,r,xs,rfl,S616 _ _ hr6,Kf,λp17 H17 S17 f17 h17=>⟨(show 6<=sizeLine by decide),λp18 H18 S18 f18 h18=>?_⟩⟩;obtain⟨sv,eo,osv,nsv,tsv⟩ : ∃sv,atI [V.int (-1),V.int (xs.length:Nat),V.bl true,V.non,V.str "0",V.ref p17] (cell ns 8%6)=some sv/\Odd H18 sv/\¬rQ rms.length sv/\Tells H18 sv:=by
    obtain z|z|z|z|z|z:cell ns 8%6=0\/cell ns 8%6=1\/cell ns 8%6=2\/cell ns 8%6=3\/cell ns 8%6=4\/cell ns 8%6=5:=by lia
    .exact⟨_,by rw[z];exact cg (j:=0) rfl,⟨_,rfl⟩,λh=>by have:=h.1;lia,xJ⟩
    .exact⟨_,by rw[z];exact cg (j:=1) rfl,⟨_,rfl⟩,λh=>by have:=h.2;lia,xJ⟩
    .exact⟨.bl true,by rw[z];exact cg (j:=2) rfl,⟨_,rfl⟩,λh=>h,⟨_,.bl _,rfl,PySem.SeqAt.eqv_refl _ rfl⟩⟩
    .exact⟨.non,by rw[z];exact cg (j:=3) rfl,⟨_,rfl⟩,λh=>h,⟨_,.non,rfl,PySem.SeqAt.eqv_refl _ rfl⟩⟩
    .exact⟨.str "0",by rw[z];exact cg (j:=4) rfl,⟨_,rfl⟩,λh=>h,VJ⟩
    .exact⟨.ref p17,by rw[z];exact cg (j:=5) rfl,⟨_,nG (S18 _ _ h17)⟩,λh=>h,⟨_,.lst (S18 _ _ h17) (.cons (.int _) .nil),rfl,PySem.SeqAt.eqv_refl _ rfl⟩⟩
   have S618:=S616.trans (S17.trans S18);have rn7:=rn7.same (S17.trans S18);have hs18:=Same.sql (S06.trans S618) hs;refine⟨_,rfl,8,rfl,hs18,hl,by decide,_,_,rfl,rfl,(show(0:Int)<6 by decide),p18,_,_,_,rfl,rfl,h18,eo,?_⟩;subst hR1;dsimp only[cu,List.set_cons_succ,List.set_cons_zero];refine bQ λR1 hR1=>?_;refine bY ⟨_,rfl,_,rfl,9,rfl,hs18,hl,by decide,l,_,pl,rfl,S618 _ _ h4,by lia,by lia,λtb H19 bv bw S19 h19 obv cs=>⟨tb,_,rfl,h19,rfl,_,_,rfl,_,_,rfl,rfl,?_⟩⟩;obtain⟨pr,tbw⟩ : pW rms H19 bv (some bw)/\Tells H19 bw:=by
    rcases cs with⟨rfl,bd⟩|⟨k,l2,zs,x',rfl,rfl,c1,c2,c3,c4,c5⟩
    .exact⟨.inr ⟨rfl,λl xs e h=>by rw[rl,<- pll];exact bd.2 l xs e h⟩,⟨_,.non,rfl,PySem.SeqAt.eqv_refl _ rfl⟩⟩
    .exact⟨Zy hi pf d3 c1 c2 c3 c4 c5,xJ⟩
   have S619:=S618.trans S19;have rn7:=rn7.same S19;subst hR1;refine bQ λR1 hR1=>?_;refine cW (iG (uI ⟨_,rfl,_,rfl,l,_,rfl,S619 _ _ h4,λq5 H20 S20 f20 h20=>⟨_,rfl,_,rfl,o,ps,.ref q5,sv,sv,6,rms,none,rfl,(hh.same S619).same S20,few,⟨_,nG h20⟩,(osv.same S19).same S20,hi.fits pf h20,.inl ⟨rfl,nsv,rfl,rfl⟩,(tsv.same S19).same S20,λH21 S21=>⟨true,rfl,?_⟩⟩⟩));have S1921:=S20.trans S21;refine Nr ?_;refine⟨_,rfl,_,rfl,_,rfl,_,rfl,o,ps,bv,sv,bw,8,rms,some bw,rfl,(hh.same S619).same S1921,few,obv.same S1921,(osv.same S19).same S1921,pr.same obv S1921,.inr ⟨rfl,rfl⟩,tbw.same S1921,λH22 S22=>⟨true,rfl,?_⟩⟩;have S1922:=S1921.trans S22;show R1 _ _ _;subst hR1;refine bQ λR1 hR1=>?_;refine cW (iG ⟨_,rfl,_,rfl,_,rfl,_,rfl,o,ps,bv,.int (st:Nat),bw,8,rms,some bw,rfl,(hh.same S619).same S1922,few,obv.same S1922,⟨_,rfl⟩,pr.same obv S1922,.inr ⟨rfl,rfl⟩,tbw.same S1922,λH23 S23=>⟨true,rfl,?_⟩⟩);have S1923:=S1922.trans S23;have S623:=S619.trans S1923;show R1 _ _ _;subst hR1;refine eY ⟨_,rfl,_,rfl,l,_,rfl,S623 _ _ h4,λq6 H24 S24 f24 h24=>⟨_,rfl,_,rfl,D1,_,rfl,S24 _ _ (S623 _ _ hd),λq7 H25 S25 f25 h25=>call q6 q7 H25 _ (λ_ _ _=>False) (S623.trans (S24.trans S25)) (S25 _ _ h24) h25 λtf2 H26 S26 f26 _ rn26=>⟨_,rfl,tf2,td,(x,y),pick fcss pl,pl,st,fs,rfl,rn26,rn7.same (S1923.trans (S24.trans (S25.trans S26))),fr,λH27 _=>hQ H27⟩⟩⟩
end
theorem law_fn{l:PySem.W.OpenLaw}{w:World}{K:Frag}{mg:Str->Ε}(T0:∃D,Txt K mg D)(base:Heap)(f:Addr)(fd:FuncData)(F:Fun K Gn Gn Io f fd) :
  cD l.prog w K mg base CX0 9 f fd Ma (Nk K):=by
 obtain⟨D,T⟩:=T0;have o {k:Nat}{n:Str}{st:Stmt}{ps:Ξ}{sp:Sp} (h:dG K mg n st ps) (g:∀f fd,Fun K n n st f fd->cD l.prog w K mg base CX0 k f fd ps sp):OkF l.prog w K mg base k n ps sp:=h.ok g;have x {k:Nat}{n:Str}{st:Stmt}{ps:Ξ}{sp:Sp} (h:dG K mg n st ps) (g:∀f fd,Fun K n n st f fd->cD l.prog w K mg base (CXO l.prog w) k f fd ps sp):OkX l.prog w K mg base k n ps sp:=h.okX g;have i {X:CXT}{k:Nat}{n m:Str}{st:Stmt}{ps:Ξ}{f:Addr}{sp:Sp} (h:vC K n m st ps f) (g:∀fd,Fun K n m st f fd->cD l.prog w K mg base X k f fd ps sp):OkI l.prog w K mg base X k f ps sp:=h.ok g;have mR:∀a ns,OkF l.prog w K mg base 1 tu tD (zu K a ns):=λa ns=>T.Y6.ok λ_ _ F=>W5 F a ns;have cL:=o T.Ml λ_ _ F=>IK F T;have Dp:=o T.ac4 λ_ _ F=>Zc F T;have fW:=o T.QK λ_ _ F=>Mq F T;have lE:=o T.Xl λ_ _ F=>TF F T cL fW;have jc:=o T.WL λ_ _ F=>Ua F;have Ey:=o T.Y9 λ_ _ F=>XM F lE;have gQ:=o T.Qu λ_ _ F=>Ld F T;have fU:=o T.Lp λ_ _ F=>Kh F T cL fW;have n8:=x T.G9 λ_ _ F=>CG F T gQ fU;have Hq:=x T.vd λ_ _ F=>uy F T gQ;have Qz:=x T.Bs λ_ _ F=>yC F T fU jc;have qj:=i T.Gf λ_ F=>E_ F T n8;have rO:=i T.Fi λ_ F=>FQ F T;have Uc:=o T.Oc λ_ _ F=>Ej F fW;have wu:OkF l.prog w K mg base 2 pG pA vM:=T.Oc.ok λ_ _ F=>(Ej F fW).imp λ_ _ _ _ h=>RN h;have Wg:=o T.f_total λ_ _ F=>Q6 F T wu lE;have RL:=x T.Dd λ_ _ F=>Ai F T Hq Qz Wg.wild;have P_:=x T.Dg λ_ _ F=>BR F T Ey.wild;have oE:=i T.C_ λ_ F=>Df F T qj RL P_;have oO:=o T.Cy λ_ _ F=>z7 F T fU jc;have ql:=o T.Hg λ_ _ F=>Cq F T gQ;have lg:=o T.yD λ_ _ F=>xV F T rO;have rA:=o T.Js λ_ _ F=>Ia F T lg;have JG:=i T.FT λ_ F=>Fo F T oO ql rA;have eF:=i T.Hr λ_ F=>Gh F T;have jt:=i T.lY λ_ F=>uL F T cL eF;have fX:=i T.Ar λ_ F=>BL F T jt;have jO:=i T.Al λ_ F=>zK F T;have oA:=i T.Am λ_ F=>Ag F T;have Dh:=i T.lY λ_ F=>BX F T cL eF oA;have Ms:=o T.Zz λ_ _ F=>XS F T cL;have oM:=x T.Fg λ_ _ F=>Ae F T Ms eF fX jO;have mJ:=o T.Az λ_ _ F=>yu F T fX;have uV:=o T.Mh λ_ _ F=>JL F T Ey;have Bt:=o T.Vf λ_ _ F=>QB F;have n6:=o T.CT λ_ _ F=>BP F T Bt jc;have pL:=o T.Gj λ_ _ F=>CJ F T Uc lE;have tX:=x T.U7 λ_ _ F=>Ql F T oM Dh mJ uV n6 pL;have jf:=o T.Vo λ_ _ F=>Qy F T;have cY:=o T.U5 λ_ _ F=>Qg F Dp;have tL:=o T.Xm λ_ _ F=>Ve F cY;have yW:=o T.V2 λ_ _ F=>Qp F cY;have zE:=o T.U3 λ_ _ F=>QC F T cY;have lV:=o T.QW λ_ _ F=>LK F T cY;have SQ:=o T.acp λ_ _ F=>Zb F T lV tL;have Hw:=o T.V8 λ_ _ F=>QX F T jf cY;have K4:=o T.Yx λ_ _ F=>PB F T jf;have GJ:=o T.WD λ_ _ F=>U8 F T;have Fj:∀a ns,OkF l.prog w K mg base 4 sy qX (Bf K a ns):=λa ns=>T.X3.ok λ_ _ F=>Sx F T a ns (mR a ns) jf cY Hw;have Fb:=o T.Xq λ_ _ F=>Rt F T lV oE JG.wild;have U4:=o T.acU λ_ _ F=>YQ F T tL yW SQ;have lF:=o T.Wv λ_ _ F=>Sw F T;have pO:=o T.L_ λ_ _ F=>Jk F T lF Dp;have Ku:=o T.Yu λ_ _ F=>Xd F T;have Wq:=o T.adv λ_ _ F=>acH F T lF pO;have oX:=o T.PX λ_ _ F=>Mu F T tX Ku;have acj:=o T.Mf λ_ _ F=>YB F T;exact Y0 F T mR Fj GJ Fb K4 zE U4 tX.calm Wq acj oX
end K57
open PySem PySem.W PyProof.Rows
set_option maxRecDepth 100000 in
set_option maxHeartbeats 0 in
theorem PySem.Challenge.cw_chancehall_k57_a_run_holds : PySem.Challenge.rw_chancehall_k57_a_run.Holds := by
 w_on
 refine holds_law H57.wsd λsaid=>?_;refine holds_open (q:=H57.qv) (loose:=[]) (XP:=XL H57.qv []) (YP:=InK H57.KH) H57.left (InK.of H57.asK) InK.keeps H57.hX XL.keeps (by rfl) (by rfl) (by rfl) H57.hR (by rfl) said (by decide +kernel) ⟨rfl,rfl,rfl,rfl,rfl,by decide +kernel⟩ ?hw ?hc
 (case hw=>w_witness2)
 k_fill
 refine L2.acW (l:=PySem.Challenge.rw_chancehall_k57_a_run) (k:=9) (x := "_law_script") rfl rfl ⟨rfl,by decide,by decide⟩ (λw h Y=>(show(H57.KH w.params).In h from Y)) ?F
 case F =>
  intro w mg fa h KX G hmg;refine⟨K57.Io,?_,λbase f fd F=>K57.law_fn ?T base f fd F⟩
  .exact L2.q_f 1 λ_ _ _ _ _ _ _=>rfl
  case T =>
   refine⟨⟨31,44,56,68,80,92,111,130,149,168,343,364,449,185,186,326,333,361,406,413,434,446,127,165⟩,⟨L2.q_c,L2.q_c,L2.q_c,L2.q_c,L2.q_c,L2.q_c,L2.q_c,L2.q_c,L2.q_c,L2.q_c,L2.q_c,L2.q_c,L2.q_c,L2.q_c,L2.q_c,L2.q_x,L2.q_x,L2.q_x,by k_is,by k_is,L2.q_g,L2.q_t,L2.q_t,L2.q_4,L2.q_m,L2.q_n,L2.q_n,L2.q_n,L2.q_M,L2.q_4,L2.q_m,L2.q_n,L2.q_n,L2.q_n,L2.q_M,L2.q_4,L2.q_m,L2.q_m,L2.q_m,L2.q_n,L2.q_n,L2.q_n,L2.q_n,L2.q_n,L2.q_n,L2.q_E,L2.q_S,L2.q_5,by k_is,by k_is,L2.q_n,by kit_is,by kit_is,by kit_is,by kit_is,by kit_is,by kit_is,by kit_is,by kit_is,by kit_is,by kit_is,L2.q_E,L2.q_S,L2.q_5,by k_is,by k_is,L2.q_n,by kit_is,by kit_is,by kit_is,by kit_is,by kit_is,by kit_is,by kit_is,by kit_is,by kit_is,by kit_is,L2.q_b,L2.q_B,L2.q_h 3 λ_ _ _ _ _ _ _ _ _=>rfl,L2.q_h 1 λ_ _ _ _ _ _ _=>rfl,L2.q_h 4 λ_ _ _ _ _ _ _ _ _ _=>rfl,L2.q_h 3 λ_ _ _ _ _ _ _ _ _=>rfl,L2.q_h 1 λ_ _ _ _ _ _ _=>rfl,L2.q_h 2 λ_ _ _ _ _ _ _ _=>rfl,L2.q_h 2 λ_ _ _ _ _ _ _ _=>rfl,L2.q_h 2 λ_ _ _ _ _ _ _ _=>rfl,L2.q_h 2 λ_ _ _ _ _ _ _ _=>rfl,L2.q_z,L2.q_z,L2.q_z,L2.q_z,L2.q_z,L2.q_z,L2.q_z,L2.q_z,L2.q_z,L2.q_z,L2.q_z,L2.q_z,L2.q_z,L2.q_z,L2.q_z,L2.q_f 1 λ_ _ _ _ _ _ _=>rfl,L2.q_f 2 λ_ _ _ _ _ _ _ _=>rfl,L2.q_f 2 λ_ _ _ _ _ _ _ _=>rfl,L2.q_f 1 λ_ _ _ _ _ _ _=>rfl,L2.q_f 2 λ_ _ _ _ _ _ _ _=>rfl,L2.q_f 2 λ_ _ _ _ _ _ _ _=>rfl,L2.q_f 1 λ_ _ _ _ _ _ _=>rfl,L2.q_f 1 λ_ _ _ _ _ _ _=>rfl,L2.q_f 1 λ_ _ _ _ _ _ _=>rfl,L2.q_f 2 λ_ _ _ _ _ _ _ _=>rfl,L2.q_f 2 λ_ _ _ _ _ _ _ _=>rfl,L2.q_f 2 λ_ _ _ _ _ _ _ _=>rfl,L2.q_f 1 λ_ _ _ _ _ _ _=>rfl,L2.q_f 2 λ_ _ _ _ _ _ _ _=>rfl,L2.q_f 2 λ_ _ _ _ _ _ _ _=>rfl,L2.q_f 4 λ_ _ _ _ _ _ _ _ _ _=>rfl,L2.q_f 1 λ_ _ _ _ _ _ _=>rfl,L2.q_f 2 λ_ _ _ _ _ _ _ _=>rfl,L2.q_f 1 λ_ _ _ _ _ _ _=>rfl,L2.q_f 1 λ_ _ _ _ _ _ _=>rfl,L2.q_f 1 λ_ _ _ _ _ _ _=>rfl,L2.q_f 1 λ_ _ _ _ _ _ _=>rfl,L2.q_f 1 λ_ _ _ _ _ _ _=>rfl,L2.q_f 1 λ_ _ _ _ _ _ _=>rfl,L2.q_f 2 λ_ _ _ _ _ _ _ _=>rfl,L2.q_f 2 λ_ _ _ _ _ _ _ _=>rfl,L2.q_f 2 λ_ _ _ _ _ _ _ _=>rfl,L2.q_f 2 λ_ _ _ _ _ _ _ _=>rfl,L2.q_f 2 λ_ _ _ _ _ _ _ _=>rfl,L2.q_f 2 λ_ _ _ _ _ _ _ _=>rfl,L2.q_f 1 λ_ _ _ _ _ _ _=>rfl,L2.q_f 1 λ_ _ _ _ _ _ _=>rfl,L2.q_f 2 λ_ _ _ _ _ _ _ _=>rfl,L2.q_f 2 λ_ _ _ _ _ _ _ _=>rfl,L2.q_f 3 λ_ _ _ _ _ _ _ _ _=>rfl,L2.q_f 3 λ_ _ _ _ _ _ _ _ _=>rfl,L2.q_f 1 λ_ _ _ _ _ _ _=>rfl,L2.q_f 3 λ_ _ _ _ _ _ _ _ _=>rfl,L2.q_f 2 λ_ _ _ _ _ _ _ _=>rfl,L2.q_f 2 λ_ _ _ _ _ _ _ _=>rfl,L2.q_f 2 λ_ _ _ _ _ _ _ _=>rfl,L2.q_f 1 λ_ _ _ _ _ _ _=>rfl,L2.q_f 2 λ_ _ _ _ _ _ _ _=>rfl,L2.q_f 5 λ_ _ _ _ _ _ _ _ _ _ _=>rfl,L2.q_f 2 λ_ _ _ _ _ _ _ _=>rfl,L2.q_f 5 λ_ _ _ _ _ _ _ _ _ _ _=>rfl,L2.q_f 2 λ_ _ _ _ _ _ _ _=>rfl⟩⟩
#print axioms PySem.Challenge.cw_chancehall_k57_a_run_holds
