import PyProof.Rows.All
import Wide.All
import OpenK.AllK
import Wide.FinOn
import Lean
import PyProof.EqAt
import PyProof.EqKinds
import PyProof.TupleCall
import PyProof.EqLayable
import KE.KIntText
import PyProof.EnumMake
import PyProof.EnumStmt
import PyProof.EnumFor
import PyProof.Rows.EnumRows
import PyProof.ExcInit
import PyProof.ExcClass2
import PyProof.InstStoreFacts
import KE.KLam
import KE.KNestM
import KE.KRevIter
import KE.KItemsList
import PySem.Challenge.RW_chancehall_k58_whole_mean_of_runs
def aj := @List.getElem?_eq_getElem
def ak := @List.length_map
def ao := @List.getElem?_eq_some_iff
def aq := @List.getElem?_map
def au := @List.getD_eq_getElem?_getD
def aA := @List.length_append
def aB := @List.mem_of_getElem?
def aC := @List.getElem?_append_right
def aD := @List.getElem?_append_left
def aF := @Nat.le_refl
def aG := @PySem.Heap.get?_push_of_some
def aH := @List.mem_cons_of_mem
def aJ := @PySem.Heap.lt_size
def aK := @List.take_of_length_le
def aM := @Nat.le_trans
def aN := @List.length_replicate
def aO := @List.mem_cons_self
def aP := @List.take_length
def aQ := @List.mem_append_right
def aR := @Nat.ne_of_lt
def aU := @Nat.lt_of_lt_of_le
def aV := @List.getElem_mem
def aW := @List.getElem?_of_mem
def aX := @Int.fmod_eq_emod_of_nonneg
def aY := @PySem.Heap.get?_push_size
def aZ := @List.size_toArray
def bf := @List.length_take
def bh := @Nat.zero_le
def bA := @List.map_append
def bC := @Bool.false_ne_true
open PySem.W (Frag instObj methodObj hideAll hideAll_size hideAll_get of_hideAll hideAll_none lookIn plainGet hasDictIn findIn handedIn plainGet_of isFn plainOver takerIn makesIn emptyDict keepIn specialIn takesIn mroIn kitOne kia_one kitx_list kitx_tuple callWith_K methodCall_KW codeIn nsIn mg_of excIn readsIn findCls envX kla_obj codeHdIn codeHd_of_K tabObj)
section
open PySem PySem.Spec PyProof.Rows
abbrev Γ:=List (List ((Int×Int)×List (Nat×Int×Int)))
abbrev Δ:=List ((Int×Int)×List (Nat×Int×Int))
abbrev Θ:=List (Nat×Int×Int)
abbrev Φ:=List (List (Int×Int))
abbrev Ψ:=List (Int×Int)
abbrev Ω:=List (Addr×Obj)
abbrev Ξ:=List Value
abbrev Β:=List Str
abbrev Ε:=List Addr
abbrev Ζ:=Option Value
abbrev Η:=Option Addr
abbrev Ι:=Int×Int
abbrev Κ:=Value->Shared->Prop
def Zs:=@decide_eq_true
def Zp:=@decide_eq_false
def ZZ:=@if_neg
def ZY:=@if_pos
def ZU:=@wpAny_bind
def ZT:=@wpAny_pure
def ZH:=@congrArg
def Z3:=@Int.emod_nonneg
def YY:=@Int.emod_lt_of_pos
def YV:=@List.mem_map
def YU:=@List.mem_cons
def YR:=@List.mem_singleton
def Y1:=@List.mem_append
def Y2:=@Nat.le_of_lt
def Y3:=@Nat.lt_of_le_of_lt
def Xs:=@Nat.le_succ
def XZ:=@Int.mul_pos
def XY:=@Int.le_of_lt
def XX:=@Nat.lt_of_le_of_ne
def XW:=@Bool.false_eq_true
def XV:=@List.mem_replicate
def XU:=@Rat.intCast_mul
def XT:=@Nat.pow_le_pow_right
def XG:=@Int.natAbs_natCast
def X1:=@Nat.lt_succ_self
def X2:=@Nat.le_add_right
def X9:=@Nat.lt_irrefl
def Wp:=@Int.natCast_nonneg
def WZ:=@List.append_assoc
end
set_option Elab.async false
set_option linter.all false
set_option maxRecDepth 100000
set_option maxHeartbeats 4000000
namespace L2.Once
open PySem PySem.W
def z:Pos:=⟨0,0,0,0⟩
noncomputable def tE:Obj:=⟨.type "tuple",none,.seq ⟨[]⟩ 0,⟨[]⟩⟩
noncomputable def fE:Obj:=⟨.none,none,.fields ⟨[]⟩,⟨[]⟩⟩
noncomputable def tN(t:Nat)(l:Β):Obj:=⟨.type "tuple",none,.seq ⟨(l.zipIdx t).map λx=>.str x.1 x.2⟩ 0,⟨[]⟩⟩
noncomputable def cO(n q:Str)(t:Nat)(l a f:Int)(r u:Nat):Obj:=⟨.type "code",none,.fields ⟨[.str n t,.str q (t+1),.str "/claim/cut.py" (t+2),.int l 0,.int a 0,.int 0 0,.int 0 0,.int f 0,.ref r,.bool true,.int 181 0,.ref (r+1),.none,.ref (r+2),.ref (r+3),.ref (r+4),.int u 0,.int l 0,.str "/claim/cut.py" (u+1)]⟩,⟨[]⟩⟩
def o11:Obj:={ cls:=.type "tuple",data:=.seq #[] }
def o12:Obj:={ cls:=.none,data:=.fields #[] }
def o13:Obj:={ cls:=.type "code",data:=.fields #[.str "<module>" 182,.str "<module>" 183,.str "/claim/cut.py" 184,.int 1 0,.int 0 0,.int 0 0,.int 0 0,.int 0 0,.ref 11,.bool false,.int 181 0,.ref 12,.none,.none,.none,.none,.int 185 0,.int 1 0,.str "/claim/cut.py" 186] }
def o14:Obj:={ cls:=.type "frame",slots:=#[some (.ref 13),some (.ref 3),some (.ref 3),none,some (.str "__main__" 164),none,some (.ref 0)] }
noncomputable def cP(n q:Str)(t:Nat)(l a f:Int)(r u:Nat):Obj:=⟨.type "code",none,.fields ⟨[.str n t,.str q (t+1),.str "/claim/cut.py" (t+2),.int l 0,.int a 0,.int 0 0,.int 0 0,.int f 0,.ref r,.bool true,.int 181 0,.ref (r+1),.none,.none,.none,.ref (r+2),.int u 0,.int l 0,.str "/claim/cut.py" (u+1)]⟩,⟨[]⟩⟩
noncomputable def dE(P:Params)(x:Str)(t:Nat)(v:Value):DictEntry:=⟨PyData.keyHash P x,.str x t,v⟩
abbrev lf(o:Obj):BT:=.node o .nil .nil
noncomputable def tr(P:Params):BT:=.node (boot_o_0 P)
 (.node (boot_o_1 P) (.node (boot_o_3 P) (lf (boot_o_7 P)) (lf o11)) (.node (boot_o_5 P) (lf (boot_o_9 P)) (lf o13)))
 (.node (boot_o_2 P) (.node (boot_o_4 P) (lf (boot_o_8 P)) (lf o12)) (.node (boot_o_6 P) (lf (boot_o_10 P)) (lf o14)))
noncomputable def S0(w:World)(os:OsState):Shared:=⟨boot_heap w.params,Array.mk [],boot_drawn,boot_toks,os⟩
noncomputable def Sa(w:World)(os:OsState):Shared:=⟨⟨Array.mk [boot_o_0 w.params,boot_o_1 w.params,boot_o_2 w.params,boot_o_3 w.params,boot_o_4 w.params,boot_o_5 w.params,boot_o_6 w.params,boot_o_7 w.params,boot_o_8 w.params,boot_o_9 w.params,boot_o_10 w.params,o11,o12,o13,o14],{}⟩,Array.mk [],{},187,os⟩
noncomputable def Sb(w:World)(os:OsState):SharedT:=⟨tr w.params,15,{},⟨[]⟩,{},187,os⟩
def env(p:Program):Env:={ scope:=p.main.scope,locals:=mainNs,globals:=mainNs,cells:=[],code:=.ref 13,frame:=some 14 }
def cE(p:Program):Code:=.body (behindTheImports p) (env p)
abbrev ann:Ζ:=some (.ref 6)
abbrev B:List Frame:=[topFrame z]
theorem size(w:World):((boot_heap w.params).isNs mainGlobals&&(Array.mk [] : Array GenState).size==0,(boot_heap w.params).objs.size,(boot_heap w.params).nsMap mainGlobals "__annotations__")=(true,11,ann):=by
 rw[Fast.te8920871248978507458];kernel_rfl
def mz(p:Program)(w:World)(M:Nat)(S:SharedT)(l:List Stmt)(q:Pos)(G:Shared->Prop):Prop:=∃s,topRun treeTable p w 11 ann M S.abs (restOf l (env p) (cE p) q B)=some s/\G s
theorem mz.cut{p:Program}{w:World}{n M:Nat}{S S':SharedT}{l1 l2:List Stmt}{q q':Pos}{G:Shared->Prop}(h:segRunT treeTable p w 11 ann 1 n S (piecesOf l1 (env p) (cE p) q B)=some (.next,S',cE p,q'))(k:mz p w M S' l2 q' G):mz p w (n+M) S (l1++l2) q G :=
 let⟨s,a,b⟩:=k
 ⟨s,piece_app (segRun_of h) a,b⟩
theorem mz.cutAt{p:Program}{w:World}{n m M:Nat}{S S':SharedT}{l:List Stmt}{q q':Pos}{G:Shared->Prop}(h:segRunT treeTable p w 11 ann 1 n S (piecesOf (l.take m) (env p) (cE p) q B)=some (.next,S',cE p,q'))(k:mz p w M S' (l.drop m) q' G):mz p w (n+M) S l q G:=by
 have:=mz.cut h k;rwa[List.take_append_drop]at this
def Good{α:Type}(p q:Program)(loose:Β)(Xt:Shared->Bool)(Yf:Shared->α)(Ya:World->α)(g0:Bool)(w:World)(s:Shared):Prop :=
 (staticsOk (importedModules p.main.body) (boot_heap w.params) s.heap&&namesBound p s.heap&&gensDone s&&laidKept (boot_heap w.params) s.heap,openSeen q loose (importedModules p.main.body) Xt g0 s,Yf s)=(true,openGood q loose,Ya w)
theorem mz.last{p q:Program}{loose:Β}{Xt:Shared->Bool}{α:Type}{Yf:Shared->α}{Ya:World->α}{g0:Bool}{w:World}{n k:Nat}{S:SharedT}{l:List Stmt}{q0 e:Pos}
 (big:(segRunT treeTable p w 11 ann 1 n S (piecesOf l (env p) (cE p) q0 B)).map (λr =>
    (r.1,r.2.2.1,r.2.2.2,(topRun treeTable p w 11 ann k r.2.1.abs ⟨doneF .next,cE p,e,B⟩).map λs =>
     (staticsOk (importedModules p.main.body) (boot_heap w.params) s.heap&&namesBound p s.heap&&gensDone s&&laidKept (boot_heap w.params) s.heap,openSeen q loose (importedModules p.main.body) Xt g0 s,Yf s))) =
   some (.next,cE p,e,some (true,openGood q loose,Ya w))):mz p w (n+k) S l q0 (Good p q loose Xt Yf Ya g0 w):=by
 obtain⟨⟨f,sT,c,ps⟩,r1,r2⟩:=Option.map_eq_some_iff.mp big;obtain⟨rfl,rfl,rfl,r3⟩ : f=.next/\c=cE p/\ps=e/\_:=by simpa only[Prod.mk.injEq]using r2
 obtain⟨s,t1,t2⟩:=Option.map_eq_some_iff.mp r3;have q1:=piece_app (rest:=[]) (segRun_of r1) (piece_nil t1);rw[List.append_nil]at q1;exact⟨s,q1,t2⟩
theorem Qw{p q:Program}{loose:Β}{Xt:Shared->Bool}{α:Type}{Yf:Shared->α}{Ya:World->α}{N:Nat}{g0:Bool}{a b M:Nat}
 (open_:∀w:World,(fencedOpening treeTable p w N).map (λs=>(s.heap,s.gens,s.drawn,s.toks))=some (boot_heap w.params,Array.mk [],boot_drawn,boot_toks))
 (pre:∀w:World,(λos=>topGo treeTable p w 11 ann a (S0 w os) (topStub p))=λos=>some (Sa w os,⟨denote treeTable (cE p),cE p,z,B⟩))
 (block:∀w:World,(λos=>segRun treeTable p w 11 ann 1 b (Sa w os) (blockOf (behindTheImports p) (env p) (cE p) z B))=λos=>some (.next,(Sb w os).abs,cE p,z))
 (ends:∀(w:World)(os:OsState),mz p w M (Sb w os) (behindTheImports p) z (Good p q loose Xt Yf Ya g0 w))
 (le:Nat.ble (a+(b+M)) N=true):LeftO p q loose Xt Yf Ya N g0:=λw=>by
 obtain⟨⟨h,gs,d,ks,os⟩,e1,e2⟩:=Option.map_eq_some_iff.mp (open_ w);obtain⟨rfl,rfl,rfl,rfl⟩ : h=boot_heap w.params/\gs=Array.mk []/\d=boot_drawn/\ks=boot_toks:=by simpa using e2
 obtain⟨z1,z2,z3⟩ : _/\_/\_:=by simpa only[Prod.mk.injEq]using size w
 obtain⟨s,q1,t2⟩:=ends w os;obtain⟨l1,l2,l3⟩ : _/\_/\_:=by simpa only[Good,Prod.mk.injEq]using t2
 have q2:=go_top (congrFun (pre w) os) (piece_block (congrFun (block w) os) q1);have q3:=topRun_mono (N-(a+(b+M))) _ _ _ _ q2;rw[show a+(b+M)+(N-(a+(b+M)))=N by have:=Nat.le_of_ble_eq_true le;omega]at q3;have t:topFrom treeTable p w N ⟨boot_heap w.params,Array.mk [],boot_drawn,boot_toks,os⟩=some s:=by
  unfold topFrom;dsimp only;rw[z1,z2,z3,show topRun treeTable p w 11 ann N ⟨boot_heap w.params,Array.mk [],boot_drawn,boot_toks,os⟩ (topStub p)=some s from q3];show(match staticsOk (importedModules p.main.body) (boot_heap w.params) s.heap&&namesBound p s.heap&&gensDone s&&laidKept (boot_heap w.params) s.heap with|true=>_|false=>_)=_;rw[l1]
 unfold openEnds;rw[e1];show(topFrom treeTable p w N _).map _=_;rw[t];exact ZH some (Prod.ext l2 l3)
end L2.Once
namespace L2
open PySem
def fM(s:Stmt):Arguments:=match s with
 |.FunctionDef _ a _ _ _ _ _ _ _ _=>a
 |_=>{ posonlyargs:=[],args:=[],vararg:=none,kwonlyargs:=[],kw_defaults:=[],kwarg:=none,defaults:=[] }
def dU(s:Stmt):List Stmt:=match s with
 |.FunctionDef _ _ b _ _ _ _ _ _ _=>b
 |_=>[]
def bM(s:Stmt):Scope:=match s with
 |.FunctionDef _ _ _ _ _ _ sc _ _ _=>sc
 |_=>{ kind:=.function,names:=[],isGenerator:=false,isCoroutine:=false }
end L2
namespace K58
open PySem L2
def top(i:Nat):Stmt:=PySem.Challenge.pw_chancehall_k58_whole_mean_of_runs.main.body.getD i (.Pass ⟨0,0,0,0⟩)
def iK(i j:Nat):Stmt:=match top i with|.ClassDef _ _ _ b _ _ _ _ _ _ _=>b.getD j (.Pass ⟨0,0,0,0⟩)|_=>.Pass ⟨0,0,0,0⟩
end K58
namespace H58
open PySem PySem.W L2 L2.Once K58
noncomputable section
noncomputable abbrev p:Program:=PySem.Challenge.pw_chancehall_k58_whole_mean_of_runs
noncomputable section
noncomputable def wA:Obj:=⟨.type "builtin_function_or_method",none,.fields ⟨[.builtin "type.__prepare__",.type "type"]⟩,⟨[]⟩⟩
noncomputable def wB(n:Nat):Obj:=⟨.type "builtin_function_or_method",none,.fields ⟨[.builtin "object.__init_subclass__",.ref n]⟩,⟨[]⟩⟩
noncomputable def wC(n:Str)(t l r u:Nat):Obj:=⟨.type "code",none,.fields ⟨[.str n t,.str n (t+1),.str "/claim/cut.py" (t+2),.int l 0,.int 0 0,.int 0 0,.int 0 0,.int 0 0,.ref r,.bool false,.int 181 0,.ref (r+1),.none,.none,.none,.none,.int u 0,.int l 0,.str "/claim/cut.py" (u+1)]⟩,⟨[]⟩⟩
noncomputable def wF(c d:Nat)(n:Str)(t:Nat):Obj:=⟨.type "frame",none,.plain,⟨[some (.ref c),some (.ref 3),some (.ref d),none,some (.str n t),none,some (.ref 0)]⟩⟩
noncomputable def wG(t n:Nat):Obj:=⟨.type "getset_descriptor",none,.fields ⟨[.str "__weakref__" t,.ref n,.builtin "ExceptionGroup.__weakref__",.none]⟩,⟨[]⟩⟩
noncomputable def wK(n:Str)(b m:Ξ)(d:Nat)(s:Ξ)(o:Ζ)(t u:Nat)(x:String):Obj:=⟨.type "type",none,.cls ⟨n,b,m,d,n,true,[],s,false,none,false⟩,⟨[o,none,some (.str n t),some (.str n u),some (.builtin x),some (.bool true)]⟩⟩
noncomputable def wS(n:Nat):Obj:=⟨.type "super",none,.fields ⟨[.ref n,.ref n,.ref n]⟩,⟨[]⟩⟩
noncomputable def wT(n:Nat):Obj:=⟨.type "tuple",none,.seq ⟨[.ref n]⟩ 0,⟨[]⟩⟩
noncomputable def fO(n q:Str)(s:Stmt)(m:Value)(c:Nat):Obj:=⟨.type "function",none,.func (fnOf n q (fM s) (dU s) (bM s) .none .none .none m none (.ref c) .none),⟨[]⟩⟩
noncomputable def fT(n q:Str)(s:Stmt):Obj:=⟨.none,none,.func { fnOf n q (fM s) (dU s) (bM s) .none .none .none .none none .none .none with globals:=0,builtins:=0 },⟨[]⟩⟩
def adN(P:Params):Obj:=⟨(.type "dict"),none,(.dict ⟨dE P "__name__" 165 (.str "law_chancehall_k58_whole_mean_of_runs" 791)::dE P "__doc__" 166 .none::dE P "__package__" 167 .none::dE P "__loader__" 168 (.builtin "__main__.__loader__#opaque")::dE P "__spec__" 169 .none::dE P "__annotations__" 170 (.ref 6)::dE P "__builtins__" 171 (.ref 4)::dE P "__file__" 173 (.str "/claim/cut.py" 172)::dE P "__cached__" 174 .none::dE P "_wall" 193 (.ref 21)::dE P "HallError" 213 (.ref 31)::dE P "NoNumber" 229 (.ref 44)::dE P "NoName" 245 (.ref 56)::dE P "NoChance" 261 (.ref 68)::dE P "NoShare" 277 (.ref 80)::dE P "NoRoom" 302 (.ref 99)::dE P "NoPlan" 327 (.ref 118)::dE P "is_whole" 336 (.ref 127)::dE P "divisor" 347 (.ref 134)::dE P "NOUGHT" 352 (.ref 135)::dE P "ONE" 355 (.ref 136)::dE P "ratio" 364 (.ref 143)::dE P "is_ratio" 373 (.ref 150)::dE P "plus" 381 (.ref 157)::dE P "times" 389 (.ref 164)::dE P "over" 397 (.ref 171)::dE P "under" 405 (.ref 178)::dE P "parted" 412 (.ref 185)::dE P "level" 420 (.ref 190)::dE P "total" 428 (.ref 197)::dE P "fits" 438 (.ref 204)::dE P "check_plan" 448 (.ref 211)::dE P "behind_door" 454 (.ref 216)::dE P "raised_look" 464 (.ref 223)::dE P "chosen_doors" 472 (.ref 228)::dE P "edges_of" 485 (.ref 235)::dE P "room_behind" 491 (.ref 240)::dE P "paid_along" 503 (.ref 247)::dE P "run_of" 509 (.ref 252)::dE P "LONGEST_WORD" 513 (.int 8 512)::dE P "is_word" 519 (.ref 257)::dE P "check_head" 529 (.ref 264)::dE P "check_room_name" 536 (.ref 271)::dE P "check_chance" 543 (.ref 278)::dE P "check_pairs" 549 (.ref 283)::dE P "joined_ways" 555 (.ref 288)::dE P "Door" 602 (.ref 319)::dE P "Mixed" 629 (.ref 340)::dE P "check_share" 638 (.ref 349)::dE P "numbers_of" 648 (.ref 356)::dE P "numbered_ways" 659 (.ref 363)::dE P "offers_of" 670 (.ref 370)::dE P "Hall" 744 (.ref 425)::dE P "MOST" 748 (.int 40 747)::dE P "check_many" 755 (.ref 436)::dE P "lowered" 763 (.ref 443)::dE P "plan_round" 769 (.ref 448)::dE P "rounds_behind" 779 (.ref 455)::dE P "plan_rounds" 790 (.ref 462)::dE P "_law_cell" 800 (.ref 469)::dE P "_law_stream" 812 (.ref 476)::dE P "_law_gcd" 822 (.ref 483)::dE P "_law_lowest" 831 (.ref 490)::dE P "_law_whole" 838 (.ref 497)::dE P "_law_fraction" 845 (.ref 504)::dE P "_law_words" 851 (.ref 509)::dE P "_law_doors" 857 (.ref 514)::dE P "_law_built" 863 (.ref 519)::dE P "_law_plan" 874 (.ref 526)::dE P "_law_plus" 882 (.ref 533)::dE P "_law_times" 890 (.ref 540)::dE P "_law_round" 907 (.ref 547)::[]⟩ 72),⟨[]⟩⟩
noncomputable def abR:Obj:=⟨.none,none,(.fields ⟨(.int 1 0)::(.int 0 0)::(.ref 20)::(.int 5 0)::(.int 0 0)::(.ref 27)::(.int 7 0)::(.int 0 0)::(.ref 40)::(.int 9 0)::(.int 0 0)::(.ref 52)::(.int 11 0)::(.int 0 0)::(.ref 64)::(.int 13 0)::(.int 0 0)::(.ref 76)::(.int 15 0)::(.int 0 0)::(.ref 88)::(.int 20 0)::(.int 0 0)::(.ref 107)::(.int 26 0)::(.int 0 0)::(.ref 126)::(.int 28 0)::(.int 0 0)::(.ref 133)::(.int 39 0)::(.int 0 0)::(.ref 142)::(.int 48 0)::(.int 0 0)::(.ref 149)::(.int 56 0)::(.int 0 0)::(.ref 156)::(.int 58 0)::(.int 0 0)::(.ref 163)::(.int 60 0)::(.int 0 0)::(.ref 170)::(.int 62 0)::(.int 0 0)::(.ref 177)::(.int 64 0)::(.int 0 0)::(.ref 184)::(.int 67 0)::(.int 0 0)::(.ref 189)::(.int 72 0)::(.int 0 0)::(.ref 196)::(.int 76 0)::(.int 0 0)::(.ref 203)::(.int 80 0)::(.int 0 0)::(.ref 210)::(.int 87 0)::(.int 0 0)::(.ref 215)::(.int 90 0)::(.int 0 0)::(.ref 222)::(.int 94 0)::(.int 0 0)::(.ref 227)::(.int 97 0)::(.int 0 0)::(.ref 234)::(.int 104 0)::(.int 0 0)::(.ref 239)::(.int 107 0)::(.int 0 0)::(.ref 246)::(.int 115 0)::(.int 0 0)::(.ref 251)::(.int 130 0)::(.int 0 0)::(.ref 256)::(.int 135 0)::(.int 0 0)::(.ref 263)::(.int 140 0)::(.int 0 0)::(.ref 270)::(.int 143 0)::(.int 0 0)::(.ref 277)::(.int 146 0)::(.int 0 0)::(.ref 282)::(.int 152 0)::(.int 0 0)::(.ref 287)::(.int 157 0)::(.int 0 0)::(.ref 294)::(.int 170 0)::(.int 0 0)::(.ref 329)::(.int 177 0)::(.int 0 0)::(.ref 348)::(.int 180 0)::(.int 0 0)::(.ref 355)::(.int 188 0)::(.int 0 0)::(.ref 362)::(.int 195 0)::(.int 0 0)::(.ref 369)::(.int 204 0)::(.int 0 0)::(.ref 376)::(.int 235 0)::(.int 0 0)::(.ref 435)::(.int 238 0)::(.int 0 0)::(.ref 442)::(.int 240 0)::(.int 0 0)::(.ref 447)::(.int 244 0)::(.int 0 0)::(.ref 454)::(.int 249 0)::(.int 0 0)::(.ref 461)::(.int 255 0)::(.int 0 0)::(.ref 468)::(.int 257 0)::(.int 0 0)::(.ref 475)::(.int 268 0)::(.int 0 0)::(.ref 482)::(.int 273 0)::(.int 0 0)::(.ref 489)::(.int 276 0)::(.int 0 0)::(.ref 496)::(.int 278 0)::(.int 0 0)::(.ref 503)::(.int 284 0)::(.int 0 0)::(.ref 508)::(.int 288 0)::(.int 0 0)::(.ref 513)::(.int 301 0)::(.int 0 0)::(.ref 518)::(.int 310 0)::(.int 0 0)::(.ref 525)::(.int 319 0)::(.int 0 0)::(.ref 532)::(.int 321 0)::(.int 0 0)::(.ref 539)::(.int 323 0)::(.int 0 0)::(.ref 546)::[]⟩),⟨[]⟩⟩
def q21:Obj:=(fO "_wall" "_wall" (top 0) (.str "__main__" 164) 20)
noncomputable def q22:Obj:=⟨(.type "tuple"),none,(.seq ⟨(.type "ValueError")::[]⟩ 0),⟨[]⟩⟩
def q23:Obj:=wA
def q24(P:Params):Obj:=⟨(.type "dict"),none,(.dict ⟨dE P "__module__" 203 (.str "chancehall.errors" 194)::dE P "__qualname__" 205 (.str "HallError" 204)::dE P "__firstlineno__" 207 (.int 5 206)::dE P "__static_attributes__" 208 (.ref 29)::[]⟩ 4),⟨[]⟩⟩
def q27:Obj:=(wC "HallError" 198 5 25 201)
def q28:Obj:=(wF 27 24 "chancehall.errors" 194)
def q30(P:Params):Obj:=⟨(.type "dict"),none,(.dict ⟨dE P "__module__" 203 (.str "chancehall.errors" 194)::dE P "__firstlineno__" 207 (.int 5 206)::dE P "__static_attributes__" 208 (.ref 29)::dE P "__weakref__" 210 (.ref 32)::dE P "__doc__" 211 .none::[]⟩ 3),⟨[]⟩⟩
def q31:Obj:=(wK "HallError" [(.type "ValueError")] [(.ref 31),(.type "ValueError"),(.type "Exception"),(.type "BaseException"),(.type "object")] 30 [(.ref 44),(.ref 56),(.ref 68),(.ref 80),(.ref 99),(.ref 118)] (some (.ref 22)) 196 204 "ValueError.__new__")
def q32:Obj:=(wG 209 31)
def q33:Obj:=(wS 31)
def q34:Obj:=(wB 31)
def q35:Obj:=(wT 31)
def q36:Obj:=wA
def q37(P:Params):Obj:=⟨(.type "dict"),none,(.dict ⟨dE P "__module__" 221 (.str "chancehall.errors" 194)::dE P "__qualname__" 223 (.str "NoNumber" 222)::dE P "__firstlineno__" 225 (.int 7 224)::dE P "__static_attributes__" 226 (.ref 42)::[]⟩ 4),⟨[]⟩⟩
def q40:Obj:=(wC "NoNumber" 216 7 38 219)
def q41:Obj:=(wF 40 37 "chancehall.errors" 194)
def q43(P:Params):Obj:=⟨(.type "dict"),none,(.dict ⟨dE P "__module__" 221 (.str "chancehall.errors" 194)::dE P "__firstlineno__" 225 (.int 7 224)::dE P "__static_attributes__" 226 (.ref 42)::dE P "__doc__" 227 .none::[]⟩ 2),⟨[]⟩⟩
def q44:Obj:=(wK "NoNumber" [(.ref 31)] [(.ref 44),(.ref 31),(.type "ValueError"),(.type "Exception"),(.type "BaseException"),(.type "object")] 43 [] (some (.ref 35)) 214 222 "ValueError.__new__")
def q45:Obj:=(wS 44)
def q46:Obj:=(wB 44)
def q47:Obj:=(wT 31)
def q48:Obj:=wA
def q49(P:Params):Obj:=⟨(.type "dict"),none,(.dict ⟨dE P "__module__" 237 (.str "chancehall.errors" 194)::dE P "__qualname__" 239 (.str "NoName" 238)::dE P "__firstlineno__" 241 (.int 9 240)::dE P "__static_attributes__" 242 (.ref 54)::[]⟩ 4),⟨[]⟩⟩
def q52:Obj:=(wC "NoName" 232 9 50 235)
def q53:Obj:=(wF 52 49 "chancehall.errors" 194)
def q55(P:Params):Obj:=⟨(.type "dict"),none,(.dict ⟨dE P "__module__" 237 (.str "chancehall.errors" 194)::dE P "__firstlineno__" 241 (.int 9 240)::dE P "__static_attributes__" 242 (.ref 54)::dE P "__doc__" 243 .none::[]⟩ 2),⟨[]⟩⟩
def q56:Obj:=(wK "NoName" [(.ref 31)] [(.ref 56),(.ref 31),(.type "ValueError"),(.type "Exception"),(.type "BaseException"),(.type "object")] 55 [] (some (.ref 47)) 230 238 "ValueError.__new__")
def q57:Obj:=(wS 56)
def q58:Obj:=(wB 56)
def q59:Obj:=(wT 31)
def q60:Obj:=wA
def q61(P:Params):Obj:=⟨(.type "dict"),none,(.dict ⟨dE P "__module__" 253 (.str "chancehall.errors" 194)::dE P "__qualname__" 255 (.str "NoChance" 254)::dE P "__firstlineno__" 257 (.int 11 256)::dE P "__static_attributes__" 258 (.ref 66)::[]⟩ 4),⟨[]⟩⟩
def q64:Obj:=(wC "NoChance" 248 11 62 251)
def q65:Obj:=(wF 64 61 "chancehall.errors" 194)
def q67(P:Params):Obj:=⟨(.type "dict"),none,(.dict ⟨dE P "__module__" 253 (.str "chancehall.errors" 194)::dE P "__firstlineno__" 257 (.int 11 256)::dE P "__static_attributes__" 258 (.ref 66)::dE P "__doc__" 259 .none::[]⟩ 2),⟨[]⟩⟩
def q68:Obj:=(wK "NoChance" [(.ref 31)] [(.ref 68),(.ref 31),(.type "ValueError"),(.type "Exception"),(.type "BaseException"),(.type "object")] 67 [] (some (.ref 59)) 246 254 "ValueError.__new__")
def q69:Obj:=(wS 68)
def q70:Obj:=(wB 68)
def q71:Obj:=(wT 31)
def q72:Obj:=wA
def q73(P:Params):Obj:=⟨(.type "dict"),none,(.dict ⟨dE P "__module__" 269 (.str "chancehall.errors" 194)::dE P "__qualname__" 271 (.str "NoShare" 270)::dE P "__firstlineno__" 273 (.int 13 272)::dE P "__static_attributes__" 274 (.ref 78)::[]⟩ 4),⟨[]⟩⟩
def q76:Obj:=(wC "NoShare" 264 13 74 267)
def q77:Obj:=(wF 76 73 "chancehall.errors" 194)
def q79(P:Params):Obj:=⟨(.type "dict"),none,(.dict ⟨dE P "__module__" 269 (.str "chancehall.errors" 194)::dE P "__firstlineno__" 273 (.int 13 272)::dE P "__static_attributes__" 274 (.ref 78)::dE P "__doc__" 275 .none::[]⟩ 2),⟨[]⟩⟩
def q80:Obj:=(wK "NoShare" [(.ref 31)] [(.ref 80),(.ref 31),(.type "ValueError"),(.type "Exception"),(.type "BaseException"),(.type "object")] 79 [] (some (.ref 71)) 262 270 "ValueError.__new__")
def q81:Obj:=(wS 80)
def q82:Obj:=(wB 80)
def q83:Obj:=(wT 31)
def q84:Obj:=wA
def q85(P:Params):Obj:=⟨(.type "dict"),none,(.dict ⟨dE P "__module__" 285 (.str "chancehall.errors" 194)::dE P "__qualname__" 287 (.str "NoRoom" 286)::dE P "__firstlineno__" 289 (.int 15 288)::dE P "__init__" 297 (.ref 96)::dE P "__static_attributes__" 299 (.ref 97)::[]⟩ 5),⟨[]⟩⟩
noncomputable def q87:Obj:=⟨.none,none,(.fields ⟨(.int 17 0)::(.int 4 0)::(.ref 95)::[]⟩),⟨[]⟩⟩
def q88:Obj:=(wC "NoRoom" 280 15 86 283)
def q89:Obj:=(wF 88 85 "chancehall.errors" 194)
def q95:Obj:=(cO "__init__" "NoRoom.__init__" 290 17 2 3 90 295)
def q96:Obj:=(fO "__init__" "NoRoom.__init__" (iK 7 0) (.str "chancehall.errors" 194) 95)
def q98(P:Params):Obj:=⟨(.type "dict"),none,(.dict ⟨dE P "__module__" 285 (.str "chancehall.errors" 194)::dE P "__firstlineno__" 289 (.int 15 288)::dE P "__init__" 297 (.ref 96)::dE P "__static_attributes__" 299 (.ref 97)::dE P "__doc__" 300 .none::[]⟩ 2),⟨[]⟩⟩
def q99:Obj:=(wK "NoRoom" [(.ref 31)] [(.ref 99),(.ref 31),(.type "ValueError"),(.type "Exception"),(.type "BaseException"),(.type "object")] 98 [] (some (.ref 83)) 278 286 "ValueError.__new__")
def adD:Obj:=(wS 99)
def adz:Obj:=(wB 99)
def aaw:Obj:=(wT 31)
def adl:Obj:=wA
def adX(P:Params):Obj:=⟨(.type "dict"),none,(.dict ⟨dE P "__module__" 310 (.str "chancehall.errors" 194)::dE P "__qualname__" 312 (.str "NoPlan" 311)::dE P "__firstlineno__" 314 (.int 20 313)::dE P "__init__" 322 (.ref 115)::dE P "__static_attributes__" 324 (.ref 116)::[]⟩ 5),⟨[]⟩⟩
noncomputable def adM:Obj:=⟨.none,none,(.fields ⟨(.int 22 0)::(.int 4 0)::(.ref 114)::[]⟩),⟨[]⟩⟩
def ad0:Obj:=(wC "NoPlan" 305 20 105 308)
def adV:Obj:=(wF 107 104 "chancehall.errors" 194)
def abd:Obj:=(cO "__init__" "NoPlan.__init__" 315 22 2 3 109 320)
def acJ:Obj:=(fO "__init__" "NoPlan.__init__" (iK 8 0) (.str "chancehall.errors" 194) 114)
def ac3(P:Params):Obj:=⟨(.type "dict"),none,(.dict ⟨dE P "__module__" 310 (.str "chancehall.errors" 194)::dE P "__firstlineno__" 314 (.int 20 313)::dE P "__init__" 322 (.ref 115)::dE P "__static_attributes__" 324 (.ref 116)::dE P "__doc__" 325 .none::[]⟩ 2),⟨[]⟩⟩
def acZ:Obj:=(wK "NoPlan" [(.ref 31)] [(.ref 118),(.ref 31),(.type "ValueError"),(.type "Exception"),(.type "BaseException"),(.type "object")] 117 [] (some (.ref 102)) 303 311 "ValueError.__new__")
def adA:Obj:=(wS 118)
def adT:Obj:=(wB 118)
def acz:Obj:=(fO "is_whole" "is_whole" (top 10) (.str "chancehall.wholes" 328) 126)
def aaA:Obj:=(tN 340 ["one", "other", "left", "right", "rest"])
def aaD:Obj:=(fO "divisor" "divisor" (top 11) (.str "chancehall.wholes" 328) 133)
noncomputable def acu:Obj:=⟨(.type "tuple"),none,(.seq ⟨(.int 0 350)::(.int 1 351)::[]⟩ 0),⟨[]⟩⟩
noncomputable def acB:Obj:=⟨(.type "tuple"),none,(.seq ⟨(.int 1 353)::(.int 1 354)::[]⟩ 0),⟨[]⟩⟩
def aaY:Obj:=(fO "ratio" "ratio" (top 15) (.str "chancehall.ratios" 348) 142)
def acU:Obj:=(fO "is_ratio" "is_ratio" (top 16) (.str "chancehall.ratios" 348) 149)
def abq:Obj:=(fO "plus" "plus" (top 17) (.str "chancehall.ratios" 348) 156)
def acS:Obj:=(fO "times" "times" (top 18) (.str "chancehall.ratios" 348) 163)
def ab8:Obj:=(fO "over" "over" (top 19) (.str "chancehall.ratios" 348) 170)
def acP:Obj:=(fO "under" "under" (top 20) (.str "chancehall.ratios" 348) 177)
def acN:Obj:=(fO "parted" "parted" (top 21) (.str "chancehall.ratios" 348) 184)
def abL:Obj:=(fO "level" "level" (top 23) (.str "chancehall.levels" 413) 189)
def acF:Obj:=(fO "total" "total" (top 24) (.str "chancehall.levels" 413) 196)
def ab4:Obj:=(fO "fits" "fits" (top 26) (.str "chancehall.plans" 429) 203)
def aaP:Obj:=(cO "check_plan" "check_plan" 439 80 2 3 205 446)
def ab2:Obj:=(fO "check_plan" "check_plan" (top 27) (.str "chancehall.plans" 429) 210)
def aa1:Obj:=(cP "behind_door" "behind_door" 449 87 2 3 212 452)
def ab1:Obj:=(fO "behind_door" "behind_door" (top 28) (.str "chancehall.plans" 429) 215)
def acI:Obj:=(tN 458 ["hall", "offer", "leveled", "behind"])
def aco:Obj:=(cO "raised_look" "raised_look" 455 90 3 3 217 462)
def aa4:Obj:=(fO "raised_look" "raised_look" (top 29) (.str "chancehall.plans" 429) 222)
def aay:Obj:=(cP "chosen_doors" "chosen_doors" 467 94 2 3 224 470)
def ac0:Obj:=(fO "chosen_doors" "chosen_doors" (top 31) (.str "chancehall.worths" 465) 227)
def aaB:Obj:=(tN 478 ["offer", "edges", "reached", "room", "chance"])
def aaL:Obj:=(fO "edges_of" "edges_of" (top 33) (.str "chancehall.runs" 473) 234)
def aaG:Obj:=(cP "room_behind" "room_behind" 486 104 2 3 236 489)
def acv:Obj:=(fO "room_behind" "room_behind" (top 34) (.str "chancehall.runs" 473) 239)
def acO:Obj:=(tN 495 ["share", "pays", "leveled", "top", "bottom", "pay"])
def ab3:Obj:=(cO "paid_along" "paid_along" 492 107 2 3 241 501)
def acr:Obj:=(fO "paid_along" "paid_along" (top 35) (.str "chancehall.runs" 473) 246)
def aa7:Obj:=(fO "run_of" "run_of" (top 36) (.str "chancehall.runs" 473) 251)
def aaM:Obj:=(fO "is_word" "is_word" (top 39) (.str "chancehall.words" 510) 256)
def abg:Obj:=(cO "check_head" "check_head" 522 135 2 3 258 527)
def abx:Obj:=(fO "check_head" "check_head" (top 41) (.str "chancehall.doors" 520) 263)
def ad3:Obj:=(fT "check_room_name" "check_room_name" (top 42))
def acL:Obj:=(cO "check_room_name" "check_room_name" 530 140 1 3 265 534)
def aat:Obj:=(fO "check_room_name" "check_room_name" (top 42) (.str "chancehall.doors" 520) 270)
def aaK:Obj:=(cO "check_chance" "check_chance" 537 143 1 3 272 541)
def acf:Obj:=(fO "check_chance" "check_chance" (top 43) (.str "chancehall.doors" 520) 277)
def abT:Obj:=(cP "check_pairs" "check_pairs" 544 146 1 3 279 547)
def abj:Obj:=(fO "check_pairs" "check_pairs" (top 44) (.str "chancehall.doors" 520) 282)
def abH:Obj:=(cP "joined_ways" "joined_ways" 550 152 1 3 284 553)
def abn:Obj:=(fO "joined_ways" "joined_ways" (top 45) (.str "chancehall.doors" 520) 287)
def adK:Obj:=wA
def adu(P:Params):Obj:=⟨(.type "dict"),none,(.dict ⟨dE P "__module__" 563 (.str "chancehall.doors" 520)::dE P "__qualname__" 565 (.str "Door" 564)::dE P "__firstlineno__" 567 (.int 157 566)::dE P "__init__" 576 (.ref 302)::dE P "ways" 583 (.ref 309)::dE P "chance_to" 591 (.ref 316)::dE P "__static_attributes__" 595 (.ref 317)::[]⟩ 7),⟨[]⟩⟩
noncomputable def adO:Obj:=⟨.none,none,(.fields ⟨(.int 159 0)::(.int 4 0)::(.ref 301)::(.int 165 0)::(.int 4 0)::(.ref 308)::(.int 168 0)::(.int 4 0)::(.ref 315)::[]⟩),⟨[]⟩⟩
def adh:Obj:=(wC "Door" 558 157 292 561)
def adL:Obj:=(wF 294 291 "chancehall.doors" 520)
def aa2:Obj:=(cO "__init__" "Door.__init__" 568 159 3 3 296 574)
def acE:Obj:=(fO "__init__" "Door.__init__" (iK 46 0) (.str "chancehall.doors" 520) 301)
def acM:Obj:=(fO "ways" "Door.ways" (iK 46 1) (.str "chancehall.doors" 520) 308)
def aaV:Obj:=(cO "chance_to" "Door.chance_to" 584 168 2 3 310 589)
def aaI:Obj:=(fO "chance_to" "Door.chance_to" (iK 46 2) (.str "chancehall.doors" 520) 315)
def ac4(P:Params):Obj:=⟨(.type "dict"),none,(.dict ⟨dE P "__module__" 563 (.str "chancehall.doors" 520)::dE P "__firstlineno__" 567 (.int 157 566)::dE P "__init__" 576 (.ref 302)::dE P "ways" 583 (.ref 309)::dE P "chance_to" 591 (.ref 316)::dE P "__static_attributes__" 595 (.ref 317)::dE P "__dict__" 597 (.ref 320)::dE P "__weakref__" 599 (.ref 321)::dE P "__doc__" 600 .none::[]⟩ 4),⟨[]⟩⟩
def acK:Obj:=(wK "Door" [(.type "object")] [(.ref 319),(.type "object")] 318 [(.ref 340)] none 556 564 "object.__new__")
noncomputable def aaW:Obj:=⟨(.type "getset_descriptor"),none,(.fields ⟨(.str "__dict__" 596)::(.ref 319)::(.builtin "function.__dict__")::(.builtin "function.__dict__#set")::[]⟩),⟨[]⟩⟩
def acp:Obj:=(wG 598 319)
def adF:Obj:=(wS 319)
def adI:Obj:=(wB 319)
def abX:Obj:=(wT 319)
def adG:Obj:=wA
def adZ(P:Params):Obj:=⟨(.type "dict"),none,(.dict ⟨dE P "__module__" 610 (.str "chancehall.doors" 520)::dE P "__qualname__" 612 (.str "Mixed" 611)::dE P "__firstlineno__" 614 (.int 170 613)::dE P "__init__" 624 (.ref 337)::dE P "__static_attributes__" 626 (.ref 338)::[]⟩ 5),⟨[]⟩⟩
noncomputable def adE:Obj:=⟨.none,none,(.fields ⟨(.int 172 0)::(.int 4 0)::(.ref 336)::[]⟩),⟨[]⟩⟩
def adR:Obj:=(wC "Mixed" 605 170 327 608)
def adw:Obj:=(wF 329 326 "chancehall.doors" 520)
def abk:Obj:=(cO "__init__" "Mixed.__init__" 615 172 4 3 331 622)
def acQ:Obj:=(fO "__init__" "Mixed.__init__" (iK 47 0) (.str "chancehall.doors" 520) 336)
def aaT(P:Params):Obj:=⟨(.type "dict"),none,(.dict ⟨dE P "__module__" 610 (.str "chancehall.doors" 520)::dE P "__firstlineno__" 614 (.int 170 613)::dE P "__init__" 624 (.ref 337)::dE P "__static_attributes__" 626 (.ref 338)::dE P "__doc__" 627 .none::[]⟩ 2),⟨[]⟩⟩
def aaQ:Obj:=(wK "Mixed" [(.ref 319)] [(.ref 340),(.ref 319),(.type "object")] 339 [] (some (.ref 324)) 603 611 "object.__new__")
def adW:Obj:=(wS 340)
def adJ:Obj:=(wB 340)
def ach:Obj:=(cO "check_share" "check_share" 632 177 1 3 343 636)
def abP:Obj:=(fO "check_share" "check_share" (top 49) (.str "chancehall.halls" 630) 348)
def ac2:Obj:=(cO "numbers_of" "numbers_of" 639 180 1 3 350 646)
def aaH:Obj:=(fO "numbers_of" "numbers_of" (top 50) (.str "chancehall.halls" 630) 355)
def acC:Obj:=(tN 652 ["door", "numbers", "numbered", "name", "chance"])
def acg:Obj:=(cO "numbered_ways" "numbered_ways" 649 188 2 3 357 657)
def acH:Obj:=(fO "numbered_ways" "numbered_ways" (top 51) (.str "chancehall.halls" 630) 362)
def aaN:Obj:=(tN 663 ["doors", "numbers", "taken", "told", "door"])
def aau:Obj:=(cO "offers_of" "offers_of" 660 195 2 3 364 668)
def acY:Obj:=(fO "offers_of" "offers_of" (top 52) (.str "chancehall.halls" 630) 369)
def adn:Obj:=wA
def adH(P:Params):Obj:=⟨(.type "dict"),none,(.dict ⟨dE P "__module__" 678 (.str "chancehall.halls" 630)::dE P "__qualname__" 680 (.str "Hall" 679)::dE P "__firstlineno__" 682 (.int 204 681)::dE P "__init__" 688 (.ref 382)::dE P "size" 695 (.ref 389)::dE P "names" 702 (.ref 396)::dE P "place" 710 (.ref 403)::dE P "check_room" 718 (.ref 410)::dE P "door_at" 727 (.ref 417)::dE P "offers" 733 (.ref 422)::dE P "__static_attributes__" 737 (.ref 423)::[]⟩ 11),⟨[]⟩⟩
noncomputable def adY:Obj:=⟨.none,none,(.fields ⟨(.int 206 0)::(.int 4 0)::(.ref 381)::(.int 212 0)::(.int 4 0)::(.ref 388)::(.int 215 0)::(.int 4 0)::(.ref 395)::(.int 218 0)::(.int 4 0)::(.ref 402)::(.int 223 0)::(.int 4 0)::(.ref 409)::(.int 227 0)::(.int 4 0)::(.ref 416)::(.int 230 0)::(.int 4 0)::(.ref 421)::[]⟩),⟨[]⟩⟩
def adi:Obj:=(wC "Hall" 673 204 374 676)
def ado:Obj:=(wF 376 373 "chancehall.halls" 630)
def abQ:Obj:=(cP "__init__" "Hall.__init__" 683 206 3 3 378 686)
def abw:Obj:=(fO "__init__" "Hall.__init__" (iK 53 0) (.str "chancehall.halls" 630) 381)
def acj:Obj:=(fO "size" "Hall.size" (iK 53 1) (.str "chancehall.halls" 630) 388)
def abI:Obj:=(fO "names" "Hall.names" (iK 53 2) (.str "chancehall.halls" 630) 395)
def abW:Obj:=(fO "place" "Hall.place" (iK 53 3) (.str "chancehall.halls" 630) 402)
def ad1:Obj:=(fT "check_room" "Hall.check_room" (iK 53 4))
def acR:Obj:=(cO "check_room" "Hall.check_room" 711 223 2 3 404 716)
def adb:Obj:=(fO "check_room" "Hall.check_room" (iK 53 4) (.str "chancehall.halls" 630) 409)
def acq:Obj:=(cO "door_at" "Hall.door_at" 719 227 3 3 411 725)
def abe:Obj:=(fO "door_at" "Hall.door_at" (iK 53 5) (.str "chancehall.halls" 630) 416)
def abo:Obj:=(cP "offers" "Hall.offers" 728 230 2 3 418 731)
def abU:Obj:=(fO "offers" "Hall.offers" (iK 53 6) (.str "chancehall.halls" 630) 421)
def aaX(P:Params):Obj:=⟨(.type "dict"),none,(.dict ⟨dE P "__module__" 678 (.str "chancehall.halls" 630)::dE P "__firstlineno__" 682 (.int 204 681)::dE P "__init__" 688 (.ref 382)::dE P "size" 695 (.ref 389)::dE P "names" 702 (.ref 396)::dE P "place" 710 (.ref 403)::dE P "check_room" 718 (.ref 410)::dE P "door_at" 727 (.ref 417)::dE P "offers" 733 (.ref 422)::dE P "__static_attributes__" 737 (.ref 423)::dE P "__dict__" 739 (.ref 426)::dE P "__weakref__" 741 (.ref 427)::dE P "__doc__" 742 .none::[]⟩ 4),⟨[]⟩⟩
def aci:Obj:=(wK "Hall" [(.type "object")] [(.ref 425),(.type "object")] 424 [] none 671 679 "object.__new__")
noncomputable def aa8:Obj:=⟨(.type "getset_descriptor"),none,(.fields ⟨(.str "__dict__" 738)::(.ref 425)::(.builtin "function.__dict__")::(.builtin "function.__dict__#set")::[]⟩),⟨[]⟩⟩
def aa6:Obj:=(wG 740 425)
def adB:Obj:=(wS 425)
def ady:Obj:=(wB 425)
def acX:Obj:=(cO "check_many" "check_many" 749 235 1 3 430 753)
def ab5:Obj:=(fO "check_many" "check_many" (top 56) (.str "chancehall.rounds" 745) 435)
def acs:Obj:=(fO "lowered" "lowered" (top 57) (.str "chancehall.rounds" 745) 442)
def abV:Obj:=(cP "plan_round" "plan_round" 764 240 3 3 444 767)
def ace:Obj:=(fO "plan_round" "plan_round" (top 58) (.str "chancehall.rounds" 745) 447)
def ade:Obj:=(cO "rounds_behind" "rounds_behind" 770 244 3 3 449 777)
def abY:Obj:=(fO "rounds_behind" "rounds_behind" (top 59) (.str "chancehall.rounds" 745) 454)
def acn:Obj:=(cO "plan_rounds" "plan_rounds" 780 249 3 3 456 788)
def abb:Obj:=(fO "plan_rounds" "plan_rounds" (top 60) (.str "chancehall.rounds" 745) 461)
def abN:Obj:=(cO "_law_cell" "_law_cell" 793 255 2 3 463 798)
def acD:Obj:=(fO "_law_cell" "_law_cell" (top 62) (.str "law_chancehall_k58_whole_mean_of_runs" 791) 468)
def aby:Obj:=(tN 804 ["_law_cell_here", "_law_many", "_law_found", "_law_number", "_law_digits", "_law_k"])
def ac6:Obj:=(cO "_law_stream" "_law_stream" 801 257 2 3 470 810)
def abh:Obj:=(fO "_law_stream" "_law_stream" (top 63) (.str "law_chancehall_k58_whole_mean_of_runs" 791) 475)
def aar:Obj:=(tN 816 ["_law_one", "_law_other", "_law_low", "_law_high"])
def ac8:Obj:=(cO "_law_gcd" "_law_gcd" 813 268 2 3 477 820)
def abS:Obj:=(fO "_law_gcd" "_law_gcd" (top 64) (.str "law_chancehall_k58_whole_mean_of_runs" 791) 482)
def abv:Obj:=(tN 826 ["_law_top", "_law_bottom", "_law_common"])
def aaF:Obj:=(cO "_law_lowest" "_law_lowest" 823 273 2 3 484 829)
def aaO:Obj:=(fO "_law_lowest" "_law_lowest" (top 65) (.str "law_chancehall_k58_whole_mean_of_runs" 791) 489)
def ada:Obj:=(cO "_law_whole" "_law_whole" 832 276 1 3 491 836)
def abO:Obj:=(fO "_law_whole" "_law_whole" (top 66) (.str "law_chancehall_k58_whole_mean_of_runs" 791) 496)
def abf:Obj:=(cO "_law_fraction" "_law_fraction" 839 278 1 3 498 843)
def abl:Obj:=(fO "_law_fraction" "_law_fraction" (top 67) (.str "law_chancehall_k58_whole_mean_of_runs" 791) 503)
def aav:Obj:=(cP "_law_words" "_law_words" 846 284 2 3 505 849)
def acT:Obj:=(fO "_law_words" "_law_words" (top 68) (.str "law_chancehall_k58_whole_mean_of_runs" 791) 508)
def aaz:Obj:=(cP "_law_doors" "_law_doors" 852 288 4 3 510 855)
def abF:Obj:=(fO "_law_doors" "_law_doors" (top 69) (.str "law_chancehall_k58_whole_mean_of_runs" 791) 513)
def aaS:Obj:=(cP "_law_built" "_law_built" 858 301 3 3 515 861)
def abM:Obj:=(fO "_law_built" "_law_built" (top 70) (.str "law_chancehall_k58_whole_mean_of_runs" 791) 518)
def abC:Obj:=(tN 867 ["_law_cell_here", "_law_rooms", "_law_xs", "_law_plan_here", "_law_k"])
def acA:Obj:=(cO "_law_plan" "_law_plan" 864 310 2 3 520 872)
def aaR:Obj:=(fO "_law_plan" "_law_plan" (top 71) (.str "law_chancehall_k58_whole_mean_of_runs" 791) 525)
def abG:Obj:=(cO "_law_plus" "_law_plus" 875 319 2 3 527 880)
def acV:Obj:=(fO "_law_plus" "_law_plus" (top 72) (.str "law_chancehall_k58_whole_mean_of_runs" 791) 532)
def abp:Obj:=(cO "_law_times" "_law_times" 883 321 2 3 534 888)
def abK:Obj:=(fO "_law_times" "_law_times" (top 73) (.str "law_chancehall_k58_whole_mean_of_runs" 791) 539)
def aa0:Obj:=(tN 894 ["_law_share", "_law_rooms", "_law_plan_here", "_law_worths", "_law_found", "_law_k", "_law_worth", "_law_pay", "_law_ways", "_law_room", "_law_chance"])
def abu:Obj:=(cO "_law_round" "_law_round" 891 323 4 3 541 905)
def abm:Obj:=(fO "_law_round" "_law_round" (top 74) (.str "law_chancehall_k58_whole_mean_of_runs" 791) 546)
def tr1(P:Params):BT:=(.node (boot_o_0 P) (.node (boot_o_1 P) (.node (adN P) (.node (boot_o_7 P) (.node tE (.node q31 (.node fE (.node acz (.node (fT "is_word" "is_word" (top 39)) (lf fE) .nil) (lf tE)) (.node tE (lf acK) (lf abV))) (.node q95 (.node fE (.node abH (lf aa0) .nil) (lf (fT "door_at" "Hall.door_at" (iK 53 5)))) (.node aa4 (lf fE) (lf aar)))) (.node q47 (.node (q79 P) (.node aaY (.node aat (lf tE) .nil) (lf (tN 706 ["self", "name"]))) (.node (tN 442 ["hall", "plan", "room", "thing"]) (lf (fT "__init__" "Mixed.__init__" (iK 47 0))) (lf tE))) (.node (tN 318 ["self", "room"]) (.node tE (lf tE) (lf fE)) (.node aaG (lf tE) (lf (fT "_law_whole" "_law_whole" (top 66))))))) (.node q23 (.node fE (.node q71 (.node acu (.node abg (lf abM) .nil) (lf fE)) (.node fE (lf tE) (lf abY))) (.node adl (.node (tN 393 ["one", "other"]) (lf adL) (lf (tN 734 ["numbers", "offered", "share"]))) (.node aaB (lf acC) (lf tE)))) (.node (q55 P) (.node q87 (.node tE (.node tE (lf fE) .nil) (lf tE)) (.node aa1 (lf tE) (lf fE))) (.node adA (.node (fT "parted" "parted" (top 21)) (lf fE) (lf (tN 759 ["raised", "bottom"]))) (.node acr (lf adY) (lf abf)))))) (.node o11 (.node (fT "_wall" "_wall" (top 0)) (.node q35 (.node (q67 P) (.node tE (.node fE (lf tE) .nil) (lf (fT "size" "Hall.size" (iK 53 1)))) (.node (fT "total" "total" (top 24)) (lf adI) (lf (tN 773 ["first", "many", "follow", "told"])))) (.node q99 (.node (cO "times" "times" 382 58 2 3 158 387) (.node (adu P) (lf abm) .nil) (lf fE)) (.node aay (lf ac2) (lf abS)))) (.node fE (.node q83 (.node tE (.node tE (lf (fT "_law_plus" "_law_plus" (top 72))) .nil) (lf abW)) (.node ab2 (lf (aaT P)) (lf (fT "_law_cell" "_law_cell" (top 62))))) (.node acJ (.node tE (lf (fT "ways" "Door.ways" (iK 46 1))) (lf acX)) (.node acO (lf tE) (lf fE))))) (.node q27 (.node (q43 P) (.node fE (.node (tN 359 ["top", "bottom", "common"]) (.node (tN 533 ["room"]) (lf tE) .nil) (lf (cO "names" "Hall.names" 696 215 1 3 390 700))) (.node (cO "fits" "fits" 431 76 2 3 198 436) (lf tE) (lf (tN 786 ["hall", "chosen"])))) (.node ad0 (.node ab8 (lf tE) (lf aa6)) (.node aaL (lf acH) (lf tE)))) (.node q59 (.node fE (.node (fT "plus" "plus" (top 17)) (.node abj (lf abp) .nil) (lf tE)) (.node acI (lf (fT "check_share" "check_share" (top 49))) (lf ac6))) (.node (tN 333 ["thing"]) (.node fE (lf aaV) (lf acs)) (.node (cP "run_of" "run_of" 504 115 4 3 248 507) (lf fE) (lf (fT "_law_words" "_law_words" (top 68))))))))) (.node (boot_o_5 P) (.node (boot_o_9 P) (.node (tN 190 ["k"]) (.node q33 (.node q65 (.node fE (.node aaM (lf aaz) .nil) (lf (tN 692 ["self"]))) (.node (tN 424 ["fractions", "leveled"]) (lf acp) (lf tE))) (.node (tN 298 ["room"]) (.node tE (.node tE (lf (fT "_law_round" "_law_round" (top 74))) .nil) (lf abe)) (.node fE (lf tE) (lf (fT "_law_gcd" "_law_gcd" (top 64)))))) (.node (q49 P) (.node q81 (.node fE (.node fE (lf (tN 878 ["_law_one", "_law_other"])) .nil) (lf (fT "place" "Hall.place" (iK 53 3)))) (.node (fT "check_plan" "check_plan" (top 27)) (lf acQ) (lf (tN 796 ["_law_script", "_law_k"])))) (.node (fT "__init__" "NoPlan.__init__" (iK 8 0)) (.node (cO "under" "under" 398 62 2 3 172 403) (lf (tN 580 ["self"])) (lf tE)) (.node tE (lf aau) (lf abO))))) (.node tE (.node q41 (.node (q73 P) (.node tE (.node tE (lf fE) .nil) (lf tE)) (.node tE (lf adR) (lf fE))) (.node tE (.node (fT "over" "over" (top 19)) (lf fE) (lf aci)) (.node (fT "edges_of" "edges_of" (top 33)) (lf (fT "numbered_ways" "numbered_ways" (top 51))) (lf aaF)))) (.node q57 (.node q89 (.node (tN 377 ["one", "other"]) (.node (fT "check_pairs" "check_pairs" (top 44)) (lf tE) .nil) (lf acR)) (.node tE (lf (tN 635 ["share"])) (lf tE))) (.node tE (.node acN (lf tE) (lf (fT "lowered" "lowered" (top 57)))) (.node fE (lf ado) (lf tE)))))) (.node o13 (.node q21 (.node (q37 P) (.node q69 (.node (cO "divisor" "divisor" 337 28 2 3 128 345) (.node tE (lf (fT "_law_built" "_law_built" (top 70))) .nil) (lf acj)) (.node acF (lf adG) (lf (fT "rounds_behind" "rounds_behind" (top 59))))) (.node adz (.node tE (lf adO) (lf abo)) (.node tE (lf tE) (lf fE)))) (.node q53 (.node (q85 P) (.node (cO "is_ratio" "is_ratio" 365 48 1 3 144 371) (.node aaK (lf acV) .nil) (lf fE)) (.node fE (lf adW) (lf acD))) (.node (ac3 P) (.node (tN 409 ["one"]) (lf acM) (lf tE)) (.node (fT "paid_along" "paid_along" (top 35)) (lf (adH P)) (lf tE))))) (.node tE (.node q45 (.node q77 (.node (fT "ratio" "ratio" (top 15)) (.node ad3 (lf acA) .nil) (lf tE)) (.node tE (lf (tN 618 ["self", "name", "pay", "pairs"])) (lf acn))) (.node tE (.node fE (lf aa2) (lf ady)) (.node fE (lf fE) (lf (tN 835 ["_law_found"]))))) (.node (q61 P) (.node tE (.node abq (.node fE (lf tE) .nil) (lf (tN 722 ["self", "room", "name"]))) (.node (fT "raised_look" "raised_look" (top 29)) (lf abP) (lf tE))) (.node (fT "is_whole" "is_whole" (top 10)) (.node (cP "level" "level" 415 67 1 3 186 418) (lf (tN 592 ["leads", "name", "pay"])) (lf fE)) (.node tE (lf abQ) (lf acT)))))))) (.node (boot_o_2 P) (.node (boot_o_4 P) (.node (boot_o_8 P) (.node fE (.node q32 (.node q64 (.node tE (.node (cP "is_word" "is_word" 514 130 1 3 253 517) (lf (fT "_law_doors" "_law_doors" (top 69))) .nil) (lf fE)) (.node fE (lf aaW) (lf ace))) (.node q96 (.node (tN 385 ["one", "other"]) (.node abn (lf tE) .nil) (lf acq)) (.node tE (lf (tN 642 ["rooms", "numbers", "room", "name"])) (lf tE)))) (.node q48 (.node q80 (.node tE (.node tE (lf fE) .nil) (lf tE)) (.node tE (lf abk) (lf fE))) (.node tE (.node (fT "under" "under" (top 20)) (lf fE) (lf (tN 752 ["many"]))) (.node acv (lf (fT "offers_of" "offers_of" (top 52))) (lf ada))))) (.node (q24 P) (.node q40 (.node q72 (.node acB (.node abx (lf tE) .nil) (lf (tN 699 ["self"]))) (.node (tN 434 ["thing", "many"]) (lf adE) (lf tE))) (.node (adX P) (.node tE (lf tE) (lf (aaX P))) (.node tE (lf tE) (lf (fT "_law_lowest" "_law_lowest" (top 65)))))) (.node q56 (.node q88 (.node fE (.node fE (lf (tN 886 ["_law_one", "_law_other"])) .nil) (lf ad1)) (.node ab1 (lf fE) (lf aby))) (.node adT (.node (cO "parted" "parted" 406 64 1 3 179 410) (lf (tN 587 ["self", "room"])) (lf tE)) (.node tE (lf adi) (lf abl)))))) (.node abR (.node (cO "_wall" "_wall" 187 1 1 3 15 191) (.node q36 (.node q68 (.node (fT "divisor" "divisor" (top 11)) (.node (tN 525 ["name", "pay"]) (lf fE) .nil) (lf (cO "size" "Hall.size" 689 212 1 3 383 693))) (.node (cO "total" "total" 421 72 1 3 191 426) (lf abX) (lf tE))) (.node adD (.node acS (lf tE) (lf (fT "offers" "Hall.offers" (iK 53 6)))) (.node ac0 (lf aaH) (lf tE)))) (.node q52 (.node q84 (.node (fT "is_ratio" "is_ratio" (top 16)) (.node (fT "check_chance" "check_chance" (top 43)) (lf abG) .nil) (lf tE)) (.node tE (lf aaQ) (lf abN))) (.node (tN 323 ["room"]) (.node fE (lf (cO "ways" "Door.ways" 577 165 1 3 303 581)) (lf ab5)) (.node tE (lf adn) (lf (tN 842 ["_law_found"])))))) (.node q28 (.node q44 (.node q76 (.node tE (.node tE (lf (fT "_law_plan" "_law_plan" (top 71))) .nil) (lf abI)) (.node ab4 (lf fE) (lf (fT "plan_rounds" "plan_rounds" (top 60))))) (.node adV (.node tE (lf (fT "__init__" "Door.__init__" (iK 46 0))) (lf adB)) (.node tE (lf tE) (lf fE)))) (.node q60 (.node (tN 293 ["self", "room"]) (.node (cO "plus" "plus" 374 56 2 3 151 379) (.node tE (lf abK) .nil) (lf fE)) (.node tE (lf ach) (lf abh))) (.node tE (.node (fT "level" "level" (top 23)) (lf aaI) (lf tE)) (.node aa7 (lf (fT "__init__" "Hall.__init__" (iK 53 0))) (lf aav))))))) (.node (boot_o_6 P) (.node (boot_o_10 P) (.node tE (.node q34 (.node tE (.node aaA (.node tE (lf abF) .nil) (lf tE)) (.node tE (lf adF) (lf fE))) (.node (q98 P) (.node (fT "times" "times" (top 18)) (.node adK (lf abu) .nil) (lf tE)) (.node (fT "chosen_doors" "chosen_doors" (top 31)) (lf (fT "numbers_of" "numbers_of" (top 50))) (lf ac8)))) (.node tE (.node q82 (.node (tN 368 ["thing", "top", "bottom"]) (.node (tN 540 ["chance"]) (lf tE) .nil) (lf (cO "place" "Hall.place" 703 218 2 3 397 708))) (.node aaP (lf (tN 625 ["leads"])) (lf tE))) (.node abd (.node acP (lf tE) (lf (fT "check_many" "check_many" (top 56)))) (.node fE (lf acY) (lf tE))))) (.node fE (.node tE (.node tE (.node fE (.node fE (lf abC) .nil) (lf (fT "names" "Hall.names" (iK 53 2)))) (.node (fT "fits" "fits" (top 26)) (lf adw) (lf (tN 783 ["hall", "plan", "many"])))) (.node adM (.node (cO "over" "over" 390 60 2 3 165 395) (lf (tN 571 ["self", "name", "pay"])) (lf aa8)) (.node (cO "edges_of" "edges_of" 475 97 1 3 229 483) (lf acg) (lf aaO)))) (.node q58 (.node tE (.node tE (.node abT (lf (fT "_law_times" "_law_times" (top 73))) .nil) (lf adb)) (.node fE (lf tE) (lf (fT "_law_stream" "_law_stream" (top 63))))) (.node fE (.node tE (lf (fT "chance_to" "Door.chance_to" (iK 46 2))) (lf (cO "lowered" "lowered" 756 238 2 3 437 761))) (.node (fT "run_of" "run_of" (top 36)) (lf tE) (lf fE)))))) (.node o14 (.node q22 (.node tE (.node q70 (.node aaD (.node (fT "check_head" "check_head" (top 41)) (lf aaS) .nil) (lf tE)) (.node tE (lf (adZ P)) (lf ade))) (.node aaw (.node fE (lf adh) (lf abU)) (.node fE (lf fE) (lf abv)))) (.node tE (.node tE (.node acU (.node acf (lf tE) .nil) (lf (tN 714 ["self", "room"]))) (.node (fT "behind_door" "behind_door" (top 28)) (lf adJ) (lf tE))) (.node acZ (.node tE (lf tE) (lf fE)) (.node ab3 (lf tE) (lf (fT "_law_fraction" "_law_fraction" (top 67))))))) (.node (q30 P) (.node q46 (.node tE (.node (cO "ratio" "ratio" 356 39 2 3 137 362) (.node acL (lf aaR) .nil) (lf fE)) (.node fE (lf tE) (lf abb))) (.node fE (.node (tN 401 ["one", "other"]) (lf acE) (lf tE)) (.node (fT "room_behind" "room_behind" (top 34)) (lf aaN) (lf tE)))) (.node tE (.node (fT "__init__" "NoRoom.__init__" (iK 7 0)) (.node tE (.node (fT "joined_ways" "joined_ways" (top 45)) (lf fE) .nil) (lf tE)) (.node aco (lf tE) (lf fE))) (.node (cO "is_whole" "is_whole" 330 26 1 3 121 334) (.node abL (lf (ac4 P)) (lf (fT "plan_round" "plan_round" (top 58)))) (.node fE (lf abw) (lf tE)))))))))
def S1(w:World)(os:OsState):SharedT:=⟨tr1 w.params,548,{},⟨[]⟩,{},908,os⟩
noncomputable def e1:Pos:=⟨323,0,333,21⟩
def KH:Params->Frag:=λP=>(
 (nat_lit 2,(boot_o_2 P))::(nat_lit 3,⟨(.type "dict"),none,(.dict ⟨dE P "__name__" 165 (.str "law_chancehall_k58_whole_mean_of_runs" 791)::dE P "__doc__" 166 .none::dE P "__package__" 167 .none::dE P "__loader__" 168 (.builtin "__main__.__loader__#opaque")::dE P "__spec__" 169 .none::dE P "__annotations__" 170 (.ref 6)::dE P "__builtins__" 171 (.ref 4)::dE P "__file__" 173 (.str "/claim/cut.py" 172)::dE P "__cached__" 174 .none::dE P "_wall" 193 (.ref 21)::dE P "HallError" 213 (.ref 31)::dE P "NoNumber" 229 (.ref 44)::dE P "NoName" 245 (.ref 56)::dE P "NoChance" 261 (.ref 68)::dE P "NoShare" 277 (.ref 80)::dE P "NoRoom" 302 (.ref 99)::dE P "NoPlan" 327 (.ref 118)::dE P "is_whole" 336 (.ref 127)::dE P "divisor" 347 (.ref 134)::dE P "NOUGHT" 352 (.ref 135)::dE P "ONE" 355 (.ref 136)::dE P "ratio" 364 (.ref 143)::dE P "is_ratio" 373 (.ref 150)::dE P "plus" 381 (.ref 157)::dE P "times" 389 (.ref 164)::dE P "over" 397 (.ref 171)::dE P "under" 405 (.ref 178)::dE P "parted" 412 (.ref 185)::dE P "level" 420 (.ref 190)::dE P "total" 428 (.ref 197)::dE P "fits" 438 (.ref 204)::dE P "check_plan" 448 (.ref 211)::dE P "behind_door" 454 (.ref 216)::dE P "raised_look" 464 (.ref 223)::dE P "chosen_doors" 472 (.ref 228)::dE P "edges_of" 485 (.ref 235)::dE P "room_behind" 491 (.ref 240)::dE P "paid_along" 503 (.ref 247)::dE P "run_of" 509 (.ref 252)::dE P "LONGEST_WORD" 513 (.int 8 512)::dE P "is_word" 519 (.ref 257)::dE P "check_head" 529 (.ref 264)::dE P "check_room_name" 536 (.ref 271)::dE P "check_chance" 543 (.ref 278)::dE P "check_pairs" 549 (.ref 283)::dE P "joined_ways" 555 (.ref 288)::dE P "Door" 602 (.ref 319)::dE P "Mixed" 629 (.ref 340)::dE P "check_share" 638 (.ref 349)::dE P "numbers_of" 648 (.ref 356)::dE P "numbered_ways" 659 (.ref 363)::dE P "offers_of" 670 (.ref 370)::dE P "Hall" 744 (.ref 425)::dE P "MOST" 748 (.int 40 747)::dE P "check_many" 755 (.ref 436)::dE P "lowered" 763 (.ref 443)::dE P "plan_round" 769 (.ref 448)::dE P "rounds_behind" 779 (.ref 455)::dE P "plan_rounds" 790 (.ref 462)::dE P "_law_cell" 800 (.ref 469)::dE P "_law_stream" 812 (.ref 476)::dE P "_law_gcd" 822 (.ref 483)::dE P "_law_lowest" 831 (.ref 490)::dE P "_law_whole" 838 (.ref 497)::dE P "_law_fraction" 845 (.ref 504)::dE P "_law_words" 851 (.ref 509)::dE P "_law_doors" 857 (.ref 514)::dE P "_law_built" 863 (.ref 519)::dE P "_law_plan" 874 (.ref 526)::dE P "_law_plus" 882 (.ref 533)::dE P "_law_times" 890 (.ref 540)::dE P "_law_round" 907 (.ref 547)::dE P "_law_numbers" 919 (.ref 554)::dE P "law" 925 (.ref 559)::[]⟩ 74),⟨[]⟩⟩)::(nat_lit 15,tE)::(nat_lit 17,(tN 190 ["k"]))::(nat_lit 18,tE)::(nat_lit 20,(cO "_wall" "_wall" 187 1 1 3 15 191))::(nat_lit 21,q21)::(nat_lit 22,q22)::(nat_lit 29,tE)::(nat_lit 30,(q30 P))::(nat_lit 31,q31)::(nat_lit 32,q32)::(nat_lit 35,q35)::(nat_lit 42,tE)::(nat_lit 43,(q43 P))::(nat_lit 44,q44)::(nat_lit 47,q47)::(nat_lit 54,tE)::(nat_lit 55,(q55 P))::(nat_lit 56,q56)::(nat_lit 59,q59)::(nat_lit 66,tE)::(nat_lit 67,(q67 P))::(nat_lit 68,q68)::(nat_lit 71,q71)::(nat_lit 78,tE)::(nat_lit 79,(q79 P))::(nat_lit 80,q80)::(nat_lit 83,q83)::(nat_lit 90,tE)::(nat_lit 92,(tN 293 ["self", "room"]))::(nat_lit 93,tE)::(nat_lit 95,q95)::(nat_lit 96,q96)::(nat_lit 97,(tN 298 ["room"]))::(nat_lit 98,(q98 P))::(nat_lit 99,q99)::(nat_lit 102,aaw)::(nat_lit 109,tE)::(nat_lit 111,(tN 318 ["self", "room"]))::(nat_lit 112,tE)::(nat_lit 114,abd)::(nat_lit 115,acJ)::(nat_lit 116,(tN 323 ["room"]))::(nat_lit 117,(ac3 P))::(nat_lit 118,acZ)::(nat_lit 121,tE)::(nat_lit 123,(tN 333 ["thing"]))::(nat_lit 124,tE)::(nat_lit 126,(cO "is_whole" "is_whole" 330 26 1 3 121 334))::(nat_lit 127,acz)::(nat_lit 128,tE)::(nat_lit 130,aaA)::(nat_lit 131,tE)::(nat_lit 133,(cO "divisor" "divisor" 337 28 2 3 128 345))::(nat_lit 134,aaD)::(nat_lit 135,acu)::(nat_lit 136,acB)::(nat_lit 137,tE)::(nat_lit 139,(tN 359 ["top", "bottom", "common"]))::(nat_lit 140,tE)::(nat_lit 142,(cO "ratio" "ratio" 356 39 2 3 137 362))::(nat_lit 143,aaY)::(nat_lit 144,tE)::(nat_lit 146,(tN 368 ["thing", "top", "bottom"]))::(nat_lit 147,tE)::(nat_lit 149,(cO "is_ratio" "is_ratio" 365 48 1 3 144 371))::(nat_lit 150,acU)::(nat_lit 151,tE)::(nat_lit 153,(tN 377 ["one", "other"]))::(nat_lit 154,tE)::(nat_lit 156,(cO "plus" "plus" 374 56 2 3 151 379))::(nat_lit 157,abq)::(nat_lit 158,tE)::(nat_lit 160,(tN 385 ["one", "other"]))::(nat_lit 161,tE)::(nat_lit 163,(cO "times" "times" 382 58 2 3 158 387))::(nat_lit 164,acS)::(nat_lit 165,tE)::(nat_lit 167,(tN 393 ["one", "other"]))::(nat_lit 168,tE)::(nat_lit 170,(cO "over" "over" 390 60 2 3 165 395))::(nat_lit 171,ab8)::(nat_lit 172,tE)::(nat_lit 174,(tN 401 ["one", "other"]))::(nat_lit 175,tE)::(nat_lit 177,(cO "under" "under" 398 62 2 3 172 403))::(nat_lit 178,acP)::(nat_lit 179,tE)::(nat_lit 181,(tN 409 ["one"]))::(nat_lit 182,tE)::(nat_lit 184,(cO "parted" "parted" 406 64 1 3 179 410))::(nat_lit 185,acN)::(nat_lit 186,tE)::(nat_lit 189,(cP "level" "level" 415 67 1 3 186 418))::(nat_lit 190,abL)::(nat_lit 191,tE)::(nat_lit 193,(tN 424 ["fractions", "leveled"]))::(nat_lit 194,tE)::(nat_lit 196,(cO "total" "total" 421 72 1 3 191 426))::(nat_lit 197,acF)::(nat_lit 198,tE)::(nat_lit 200,(tN 434 ["thing", "many"]))::(nat_lit 201,tE)::(nat_lit 203,(cO "fits" "fits" 431 76 2 3 198 436))::(nat_lit 204,ab4)::(nat_lit 205,tE)::(nat_lit 207,(tN 442 ["hall", "plan", "room", "thing"]))::(nat_lit 208,tE)::(nat_lit 210,aaP)::(nat_lit 211,ab2)::(nat_lit 212,tE)::(nat_lit 215,aa1)::(nat_lit 216,ab1)::(nat_lit 217,tE)::(nat_lit 219,acI)::(nat_lit 220,tE)::(nat_lit 222,aco)::(nat_lit 223,aa4)::(nat_lit 224,tE)::(nat_lit 227,aay)::(nat_lit 228,ac0)::(nat_lit 229,tE)::(nat_lit 231,aaB)::(nat_lit 232,tE)::(nat_lit 234,(cO "edges_of" "edges_of" 475 97 1 3 229 483))::(nat_lit 235,aaL)::(nat_lit 236,tE)::(nat_lit 239,aaG)::(nat_lit 240,acv)::(nat_lit 241,tE)::(nat_lit 243,acO)::(nat_lit 244,tE)::(nat_lit 246,ab3)::(nat_lit 247,acr)::(nat_lit 248,tE)::(nat_lit 251,(cP "run_of" "run_of" 504 115 4 3 248 507))::(nat_lit 252,aa7)::(nat_lit 253,tE)::(nat_lit 256,(cP "is_word" "is_word" 514 130 1 3 253 517))::(nat_lit 257,aaM)::(nat_lit 258,tE)::(nat_lit 260,(tN 525 ["name", "pay"]))::(nat_lit 261,tE)::(nat_lit 263,abg)::(nat_lit 264,abx)::(nat_lit 265,tE)::(nat_lit 267,(tN 533 ["room"]))::(nat_lit 268,tE)::(nat_lit 270,acL)::(nat_lit 271,aat)::(nat_lit 272,tE)::(nat_lit 274,(tN 540 ["chance"]))::(nat_lit 275,tE)::(nat_lit 277,aaK)::(nat_lit 278,acf)::(nat_lit 279,tE)::(nat_lit 282,abT)::(nat_lit 283,abj)::(nat_lit 284,tE)::(nat_lit 287,abH)::(nat_lit 288,abn)::(nat_lit 296,tE)::(nat_lit 298,(tN 571 ["self", "name", "pay"]))::(nat_lit 299,tE)::(nat_lit 301,aa2)::(nat_lit 302,acE)::(nat_lit 303,tE)::(nat_lit 305,(tN 580 ["self"]))::(nat_lit 306,tE)::(nat_lit 308,(cO "ways" "Door.ways" 577 165 1 3 303 581))::(nat_lit 309,acM)::(nat_lit 310,tE)::(nat_lit 312,(tN 587 ["self", "room"]))::(nat_lit 313,tE)::(nat_lit 315,aaV)::(nat_lit 316,aaI)::(nat_lit 317,(tN 592 ["leads", "name", "pay"]))::(nat_lit 318,(ac4 P))::(nat_lit 319,acK)::(nat_lit 320,aaW)::(nat_lit 321,acp)::(nat_lit 324,abX)::(nat_lit 331,tE)::(nat_lit 333,(tN 618 ["self", "name", "pay", "pairs"]))::(nat_lit 334,tE)::(nat_lit 336,abk)::(nat_lit 337,acQ)::(nat_lit 338,(tN 625 ["leads"]))::(nat_lit 339,(aaT P))::(nat_lit 340,aaQ)::(nat_lit 343,tE)::(nat_lit 345,(tN 635 ["share"]))::(nat_lit 346,tE)::(nat_lit 348,ach)::(nat_lit 349,abP)::(nat_lit 350,tE)::(nat_lit 352,(tN 642 ["rooms", "numbers", "room", "name"]))::(nat_lit 353,tE)::(nat_lit 355,ac2)::(nat_lit 356,aaH)::(nat_lit 357,tE)::(nat_lit 359,acC)::(nat_lit 360,tE)::(nat_lit 362,acg)::(nat_lit 363,acH)::(nat_lit 364,tE)::(nat_lit 366,aaN)::(nat_lit 367,tE)::(nat_lit 369,aau)::(nat_lit 370,acY)::(nat_lit 378,tE)::(nat_lit 381,abQ)::(nat_lit 382,abw)::(nat_lit 383,tE)::(nat_lit 385,(tN 692 ["self"]))::(nat_lit 386,tE)::(nat_lit 388,(cO "size" "Hall.size" 689 212 1 3 383 693))::(nat_lit 389,acj)::(nat_lit 390,tE)::(nat_lit 392,(tN 699 ["self"]))::(nat_lit 393,tE)::(nat_lit 395,(cO "names" "Hall.names" 696 215 1 3 390 700))::(nat_lit 396,abI)::(nat_lit 397,tE)::(nat_lit 399,(tN 706 ["self", "name"]))::(nat_lit 400,tE)::(nat_lit 402,(cO "place" "Hall.place" 703 218 2 3 397 708))::(nat_lit 403,abW)::(nat_lit 404,tE)::(nat_lit 406,(tN 714 ["self", "room"]))::(nat_lit 407,tE)::(nat_lit 409,acR)::(nat_lit 410,adb)::(nat_lit 411,tE)::(nat_lit 413,(tN 722 ["self", "room", "name"]))::(nat_lit 414,tE)::(nat_lit 416,acq)::(nat_lit 417,abe)::(nat_lit 418,tE)::(nat_lit 421,abo)::(nat_lit 422,abU)::(nat_lit 423,(tN 734 ["numbers", "offered", "share"]))::(nat_lit 424,(aaX P))::(nat_lit 425,aci)::(nat_lit 426,aa8)::(nat_lit 427,aa6)::(nat_lit 430,tE)::(nat_lit 432,(tN 752 ["many"]))::(nat_lit 433,tE)::(nat_lit 435,acX)::(nat_lit 436,ab5)::(nat_lit 437,tE)::(nat_lit 439,(tN 759 ["raised", "bottom"]))::(nat_lit 440,tE)::(nat_lit 442,(cO "lowered" "lowered" 756 238 2 3 437 761))::(nat_lit 443,acs)::(nat_lit 444,tE)::(nat_lit 447,abV)::(nat_lit 448,ace)::(nat_lit 449,tE)::(nat_lit 451,(tN 773 ["first", "many", "follow", "told"]))::(nat_lit 452,tE)::(nat_lit 454,ade)::(nat_lit 455,abY)::(nat_lit 456,tE)::(nat_lit 458,(tN 783 ["hall", "plan", "many"]))::(nat_lit 459,(tN 786 ["hall", "chosen"]))::(nat_lit 461,acn)::(nat_lit 462,abb)::(nat_lit 463,tE)::(nat_lit 465,(tN 796 ["_law_script", "_law_k"]))::(nat_lit 466,tE)::(nat_lit 468,abN)::(nat_lit 469,acD)::(nat_lit 470,tE)::(nat_lit 472,aby)::(nat_lit 473,tE)::(nat_lit 475,ac6)::(nat_lit 476,abh)::(nat_lit 477,tE)::(nat_lit 479,aar)::(nat_lit 480,tE)::(nat_lit 482,ac8)::(nat_lit 483,abS)::(nat_lit 484,tE)::(nat_lit 486,abv)::(nat_lit 487,tE)::(nat_lit 489,aaF)::(nat_lit 490,aaO)::(nat_lit 491,tE)::(nat_lit 493,(tN 835 ["_law_found"]))::(nat_lit 494,tE)::(nat_lit 496,ada)::(nat_lit 497,abO)::(nat_lit 498,tE)::(nat_lit 500,(tN 842 ["_law_found"]))::(nat_lit 501,tE)::(nat_lit 503,abf)::(nat_lit 504,abl)::(nat_lit 505,tE)::(nat_lit 508,aav)::(nat_lit 509,acT)::(nat_lit 510,tE)::(nat_lit 513,aaz)::(nat_lit 514,abF)::(nat_lit 515,tE)::(nat_lit 518,aaS)::(nat_lit 519,abM)::(nat_lit 520,tE)::(nat_lit 522,abC)::(nat_lit 523,tE)::(nat_lit 525,acA)::(nat_lit 526,aaR)::(nat_lit 527,tE)::(nat_lit 529,(tN 878 ["_law_one", "_law_other"]))::(nat_lit 530,tE)::(nat_lit 532,abG)::(nat_lit 533,acV)::(nat_lit 534,tE)::(nat_lit 536,(tN 886 ["_law_one", "_law_other"]))::(nat_lit 537,tE)::(nat_lit 539,abp)::(nat_lit 540,abK)::(nat_lit 541,tE)::(nat_lit 543,aa0)::(nat_lit 544,tE)::(nat_lit 546,abu)::(nat_lit 547,abm)::(nat_lit 548,tE)::(nat_lit 550,(tN 911 ["_law_code", "_law_steps", "_law_parts", "_law_shift", "_law_found", "_law_k"]))::(nat_lit 551,tE)::(nat_lit 553,(cO "_law_numbers" "_law_numbers" 908 334 4 3 548 917))::(nat_lit 554,(fO "_law_numbers" "_law_numbers" (top 75) (.str "law_chancehall_k58_whole_mean_of_runs" 791) 553))::(nat_lit 555,tE)::(nat_lit 558,(cP "law" "law" 920 340 1 3 555 923))::(nat_lit 559,(fO "law" "law" (top 76) (.str "law_chancehall_k58_whole_mean_of_runs" 791) 558))::([] : List (Nat×Obj)))
noncomputable abbrev asH:List Nat:=[2,3,15,17,18,20,21,22,29,30,31,32,35,42,43,44,47,54,55,56,59,66,67,68,71,78,79,80,83,90,92,93,95,96,97,98,99,102,109,111,112,114,115,116,117,118,121,123,124,126,127,128,130,131,133,134,135,136,137,139,140,142,143,144,146,147,149,150,151,153,154,156,157,158,160,161,163,164,165,167,168,170,171,172,174,175,177,178,179,181,182,184,185,186,189,190,191,193,194,196,197,198,200,201,203,204,205,207,208,210,211,212,215,216,217,219,220,222,223,224,227,228,229,231,232,234,235,236,239,240,241,243,244,246,247,248,251,252,253,256,257,258,260,261,263,264,265,267,268,270,271,272,274,275,277,278,279,282,283,284,287,288,296,298,299,301,302,303,305,306,308,309,310,312,313,315,316,317,318,319,320,321,324,331,333,334,336,337,338,339,340,343,345,346,348,349,350,352,353,355,356,357,359,360,362,363,364,366,367,369,370,378,381,382,383,385,386,388,389,390,392,393,395,396,397,399,400,402,403,404,406,407,409,410,411,413,414,416,417,418,421,422,423,424,425,426,427,430,432,433,435,436,437,439,440,442,443,444,447,448,449,451,452,454,455,456,458,459,461,462,463,465,466,468,469,470,472,473,475,476,477,479,480,482,483,484,486,487,489,490,491,493,494,496,497,498,500,501,503,504,505,508,509,510,513,514,515,518,519,520,522,523,525,526,527,529,530,532,533,534,536,537,539,540,541,543,544,546,547,548,550,551,553,554,555,558,559]
def KHT(P:Params):Frag:=KH P++[(nat_lit 457,fE)]
abbrev asT:List Nat:=asH++[457]
end
def qv:Program:=view p [0,2,3,4,5,6,7,8,10,11,13,14,15,16,17,18,19,20,21,23,24,26,27,28,29,31,33,34,35,36,38,39,41,42,43,44,45,46,47,49,50,51,52,53,55,56,57,58,59,60,62,63,64,65,66,67,68,69,70,71,72,73,74,75,76]
noncomputable abbrev R:RowW:=PySem.Challenge.rw_chancehall_k58_whole_mean_of_runs.row.toRowW
def Xt(s:Shared):Bool:=xlAt qv [] s&&recOk R.records s
noncomputable def e:Pos:=⟨340,0,366,72⟩
set_option maxHeartbeats 0
theorem wsd:PySem.Challenge.rw_chancehall_k58_whole_mean_of_runs.wellSaid=true:=by kernel_rfl
theorem asK:∀P,asT=(KHT P).map (·.1):=λ_=>by kernel_rfl
theorem pre(w:World):(λos=>topGo treeTable p w 11 ann 12 (S0 w os) (topStub p))=λos=>some (Sa w os,⟨denote treeTable (cE p),cE p,z,B⟩):=by
 rw[Fast.te15667345088766844465,Fast.te14364793385576792824,Fast.te11892475500146522536];kernel_rfl
theorem block(w:World):(λos=>segRun treeTable p w 11 ann 1 1 (Sa w os) (blockOf (behindTheImports p) (env p) (cE p) z B))=λos=>some (.next,(Sb w os).abs,cE p,z):=by
 rw[Fast.te14374325043358763698,Fast.te14364793385576792824];kernel_rfl
theorem ab0(w:World):(λos=>segRunT treeTable p w 11 ann 1 30000 (Sb w os) (piecesOf ((behindTheImports p).take 75) (env p) (cE p) z B))=λos=>some (.next,S1 w os,cE p,e1):=by
 rw[Fast.te10110043849684766642,Fast.te14364793385576792824];kernel_rfl
theorem big(w:World):(λos=>(segRunT treeTable p w 11 ann 1 50000 (S1 w os) (piecesOf ((behindTheImports p).drop 75) (env p) (cE p) e1 B)).map λr =>
  (r.1,r.2.2.1,r.2.2.2,(topRun treeTable p w 11 ann 2 r.2.1.abs ⟨doneF .next,cE p,e,B⟩).map λs =>
   (staticsOk (importedModules p.main.body) (boot_heap w.params) s.heap&&namesBound p s.heap&&gensDone s&&laidKept (boot_heap w.params) s.heap,openSeen qv [] (importedModules p.main.body) Xt true s,asT.map s.heap.get?))) =
  λ_=>some (.next,cE p,e,some (true,openGood qv [],(KHT w.params).map λp=>some p.2)):=by
 rw[Fast.te10110043849684766642,Fast.te14364793385576792824,Fast.te14082659384304107361,Fast.te4187177175401517315,Fast.te5923862056798008813];kernel_rfl
theorem left:LeftO p qv [] Xt (λs=>asT.map s.heap.get?) (λw=>(KHT w.params).map λp=>some p.2) 200000 :=
 Qw (boot_open rfl rfl λ_=>rfl) pre block (λw os=>mz.cutAt (congrFun (ab0 w) os) (mz.last (congrFun (big w) os))) rfl
theorem hX(s:Shared)(h:Xt s=true):XL qv [] (s.heap.nsMap mainGlobals) s.heap:=xl_of s (Bool.and_eq_true_iff.mp h).1
theorem hR(s:Shared)(h:Xt s=true):RecFacts R.records s.heap:=recFacts_of (Bool.and_eq_true_iff.mp h).2
end
end H58
namespace L2
open PySem PySem.Spec PyProof.Rows
noncomputable abbrev Key:=Sum Int Str
noncomputable def w6:Key->Value->Bool
 |.inl k,v=>Value.isInt k v
 |.inr x,v=>Value.isStrOf x v
noncomputable def adf(w:World):Key->Int
 |.inl k=>hashInt k
 |.inr x=>hashStr w x
theorem eX:∀{k:Key}{v:Value},w6 k v=true->(∃i t,k=Sum.inl i/\v=Value.int i t)\/(∃x t,k=Sum.inr x/\v=Value.str x t)
 |.inl i,v,h=>by
  obtain⟨t,e⟩:=Value.isInt_shape (k:=i) (v:=v) h;exact .inl ⟨i,t,rfl,e⟩
 |.inr x,v,h=>by
  obtain⟨t,e⟩:=Value.isStrOf_shape (x:=x) (v:=v) h;exact .inr ⟨x,t,rfl,e⟩
theorem Pq(i:Int)(t:Tok):w6 (.inl i) (.int i t)=true:=by simp[w6,Value.isInt]
theorem Q5(x:Str)(t:Tok):w6 (.inr x) (.str x t)=true:=by simp[w6,Value.isStrOf]
theorem YZ(a b:Int):decide ((Sum.inl a:Key)=Sum.inl b)=(a==b):=by
 by_cases e:a=b
 .subst e;simp
 .have h:¬(Sum.inl a:Key)=Sum.inl b:=λq=>e (Sum.inl.inj q);rw[Zp h];exact(beq_eq_false_iff_ne.mpr e).symm
theorem Zu(a b:Str):decide ((Sum.inr a:Key)=Sum.inr b)=decide (a=b):=by
 by_cases e:a=b
 .subst e;simp
 .have h:¬(Sum.inr a:Key)=Sum.inr b:=λq=>e (Sum.inr.inj q);rw[Zp h,Zp e]
theorem aaf(a:Int)(b:Str):decide ((Sum.inl a:Key)=Sum.inr b)=false:=Zp (λq=>nomatch q)
theorem ZR(a:Str)(b:Int):decide ((Sum.inr a:Key)=Sum.inl b)=false:=Zp (λq=>nomatch q)
noncomputable def fL(prog:Program)(w:World):PySem.KeyKind prog w Key where
 is:=w6
 hash:=adf w
 inj:=λv a b ha hb=>by
  rcases eX ha with⟨i,t,rfl,rfl⟩|⟨x,t,rfl,rfl⟩
  .rcases eX hb with⟨j,u,rfl,e⟩|⟨y,u,rfl,e⟩
   .injection e with e1 _;rw[e1]
   .exact nomatch e
  .rcases eX hb with⟨j,u,rfl,e⟩|⟨y,u,rfl,e⟩
   .exact nomatch e
   .injection e with e1 _;rw[e1]
 byValue:=λk v h=>by
  rcases eX h with⟨i,t,rfl,rfl⟩|⟨x,t,rfl,rfl⟩<;>rfl
 pyHash:=λhv h=>by
  rcases eX hv with⟨i,t,rfl,rfl⟩|⟨x,t,rfl,rfl⟩
  .exact wpAny_pyHash_int h
  .exact wpAny_pyHash_str h
 eqBool:=λhu hv h=>by
  rcases eX hu with⟨i,t,rfl,rfl⟩|⟨x,t,rfl,rfl⟩
  .rcases eX hv with⟨j,u,rfl,rfl⟩|⟨y,u,rfl,rfl⟩
   .rw[YZ]at h;exact wpAny_eqBool_int h
   .rw[aaf]at h;exact SeqAt.EqAt.int_str i t y u _ _ _ _ h
  .rcases eX hv with⟨j,u,rfl,rfl⟩|⟨y,u,rfl,rfl⟩
   .rw[ZR]at h;exact SeqAt.EqAt.str_int x t j u _ _ _ _ h
   .rw[Zu]at h;exact wpAny_eqBool_str h
 «strs»:=λk x t v h=>by
  rcases eX h with⟨i,u,rfl,e⟩|⟨y,u,rfl,e⟩
  .exact nomatch e
  .injection e with e1 _;subst e1;cases v<;>rfl
theorem JH(prog:Program)(w:World)(i:Int)(t:Tok):(fL prog w).is (.inl i) (.int i t)=true:=Pq i t
theorem Ji(prog:Program)(w:World)(x:Str)(t:Tok):(fL prog w).is (.inr x) (.str x t)=true:=Q5 x t
inductive V where
 |non|bl (b:Bool)|int (i:Int)|str (x:Str)|byt (b:Array UInt8)|flt (b:UInt64)|ref (a:Addr)|ty (n:String)
 deriving DecidableEq
noncomputable abbrev Μ:=List V
noncomputable def RelV:V->Value->Prop
 |.non,u=>u=Value.none
 |.bl b,u=>u=Value.bool b
 |.int i,u=>∃t,u=Value.int i t
 |.str x,u=>∃t,u=Value.str x t
 |.byt b,u=>∃t,u=Value.bytes b t
 |.flt b,u=>∃t,u=Value.float b t
 |.ref a,u=>u=Value.ref a
 |.ty n,u=>u=Value.type n
noncomputable abbrev Vals:Μ->Ξ->Prop:=Paired RelV
theorem Vals.length{xs:Μ}{us:Ξ}(r:Vals xs us):xs.length=us.length:=Paired.length r
theorem Vals.get:∀{xs:Μ}{us:Ξ}{i:Nat}{x:V},Vals xs us->xs[i]?=some x->∃u,us[i]?=some u/\RelV x u
 |_,_,_,_,.nil,e=>by simp at e
 |_,_,0,_,.cons r _,e=>by simp at e;subst e;exact⟨_,rfl,r⟩
 |_,_,i+1,x,.cons _ t,e=>by
  obtain⟨u,h1,h2⟩:=Vals.get (i:=i) (x:=x) t (by simpa using e);exact⟨u,by simpa using h1,h2⟩
theorem Vals.set{x:V}{u:Value}(r:RelV x u):∀{xs:Μ}{us:Ξ}(i:Nat),Vals xs us->Vals (xs.set i x) (us.set i u)
 |_,_,_,.nil=>.nil
 |_,_,0,.cons _ t=>.cons r t
 |_,_,i+1,.cons q t=>.cons q (Vals.set r i t)
theorem Vals.append:∀{xs ys:Μ}{us ws:Ξ},Vals xs us->Vals ys ws->Vals (xs++ys) (us++ws)
 |_,_,_,_,.nil,s=>s
 |_,_,_,_,.cons r t,s=>.cons r (Vals.append t s)
theorem Vals.take:∀{xs:Μ}{us:Ξ}(n:Nat),Vals xs us->Vals (xs.take n) (us.take n)
 |_,_,0,_=>.nil
 |_,_,_+1,.nil=>.nil
 |_,_,n+1,.cons r t=>.cons r (Vals.take n t)
theorem Vals.drop:∀{xs:Μ}{us:Ξ}(n:Nat),Vals xs us->Vals (xs.drop n) (us.drop n)
 |_,_,0,r=>r
 |_,_,_+1,.nil=>.nil
 |_,_,n+1,.cons _ t=>Vals.drop n t
noncomputable def tZ:Option V->Ζ->Prop
 |some v,some u=>RelV v u
 |none,none=>True
 |_,_=>False
noncomputable def KV{κ:Type} : List (κ×V)->List (κ×Value)->Prop:=Paired λ(p:κ×V)(q:κ×Value)=>p.1=q.1/\RelV p.2 q.2
noncomputable def kV:Key->V
 |.inl i=>.int i
 |.inr x=>.str x
inductive HO where
  |lst (xs:Μ)
  |tup (xs:Μ)
  |dK (kvs:List (Key×V))
  |set (S:Int->Bool) (n:Nat)
  |ins (C dx:Addr) (fs:List (Str×V))
  |own (x:Addr)
  |xd (fs:List (Str×V))
  |met (f x:Addr)
  |rng (lo hi:Int)
  |frz (o:Obj) (u:HO)
  |tbl (ps:Array Value)
  |ext (φ:Heap->Prop)
noncomputable abbrev Hp:=Addr->Option HO
noncomputable def upd(H:Hp)(a:Addr)(o:HO):Hp:=λb=>if b=a then some o else H b
theorem bG{H:Hp}{a:Addr}{o:HO} : upd H a o a=some o:=by unfold upd;rw[ZY rfl]
theorem bL{H:Hp}{a b:Addr}{o:HO}(h:b≠a):upd H a o b=H b:=by unfold upd;rw[ZZ h]
theorem vB{H:Hp}{a:Addr}{o u:HO} : upd (upd H a o) a u=upd H a u:=by
 funext b;unfold upd;split<;>rfl
theorem fH{H:Hp}{a b:Addr}{o u:HO}(h:H a=some o)(h':H b=some u)(d:o≠u):a≠b:=by
 intro e;subst e;rw[h]at h';exact d (Option.some.inj h')
theorem bH{H:Hp}{a b:Addr}{o:HO}(h:H a=some o)(h':H b=none):a≠b:=by
 intro e;subst e;rw[h]at h';cases h'
section
variable(P:Program)(w:World)
noncomputable def dh(H:Hp)(h:Heap)(a:Addr):HO->Prop
 |.lst xs=>xs.length<=sizeLine/\∃(its:Ξ)(n:Nat),Vals xs its/\h.get? a=some { cls:=.type "list",data:=.seq its.toArray n }
 |.tup xs=>xs.length<=sizeLine/\∃its:Ξ,Vals xs its/\IsTup h a its.toArray
 |.dK kvs=>kvs.length<=sizeLine/\(a==sysModules)=false/\∃vs,KV kvs vs/\h.DictOf (fL P w) a vs
 |.set S n=>h.SetOf (intKind P w) a S n
 |.ins C dx fs=>H dx=some (.own a)/\fs.length<=1000/\dx≠a/\h.get? a=some (instObj C dx) /\
   ∃mA,h.Ns1 dx mA/\(∀f,tZ (fs.lookup f) (mA f))/\PySem.Within mA (fs.map (·.1))
 |.own _=>∃o,h.get? a=some o
 |.xd fs=>∃mA,h.Ns1 a mA/\∀f,tZ (fs.lookup f) (mA f)
 |.rng lo hi=>∃t u v,h.get? a=some { cls:=.type "range",data:=.fields #[.int lo t,.int hi u,.int 1 v] }
 |.frz o u=>h.get? a=some o/\dh H h a u
 |.tbl ps=>h.get? a=some { cls:=.none,data:=.fields ps }
 |.met f x=>h.get? a=some (methodObj (.ref f) (.ref x))
 |.ext φ=>φ h/\(∃o,h.get? a=some o)/\∀h1 h2:Heap,φ h1->(∀o,h1.get? a=some o->h2.get? a=some o)->φ h2
noncomputable def HOk(H:Hp)(h:Heap):Prop:=∀a o,H a=some o->dh P w H h a o
end
section
variable{P:Program}{w:World}{H H':Hp}{h h':Heap}{a:Addr}{o:HO}
theorem dh.lt(x:dh P w H h a o):a<h.objs.size:=by
 cases o with
 |lst xs=>obtain⟨_,_,_,_,e⟩:=x;exact aJ e
 |tup xs=>obtain⟨_,_,_,p⟩:=x;exact p.lt
 |dK kvs=>obtain⟨_,_,_,_,o,_,_,e,_⟩:=x;exact aJ e
 |set S n=>obtain⟨o,_,_,_,e,_⟩:=x;exact aJ e
 |ins C dx fs=>obtain⟨_,_,_,e,_⟩:=x;exact aJ e
 |own y=>obtain⟨_,e⟩:=x;exact aJ e
 |xd fs=>obtain⟨_,⟨_,_,_,e,_⟩,_⟩:=x;exact aJ e
 |rng lo hi=>obtain⟨_,_,_,e⟩:=x;exact aJ e
 |frz ob u=>obtain⟨e,_⟩:=x;exact aJ e
 |tbl ps=>exact aJ (show h.get? a=some _ from x)
 |met f y=>exact aJ (show h.get? a=some _ from x)
 |ext φ=>obtain⟨_,⟨_,e⟩,_⟩:=x;exact aJ e
theorem dh.stay(x:dh P w H h a o)(k:∀b u,(b=a\/H b=some (.own a))->h.get? b=some u->h'.get? b=some u)
 (ho:∀b,H b=some (.own a)->H' b=some (.own a))(ht:∀b xs,H b=some (.tup xs)->H' b=some (.tup xs)):dh P w H' h' a o:=by
 induction o with
 |lst xs=>obtain⟨z,its,n,r,e⟩:=x;exact⟨z,its,n,r,k _ _ (.inl rfl) e⟩
 |tup xs=>obtain⟨z,its,r,ob,e,c⟩:=x;exact⟨z,its,r,ob,k _ _ (.inl rfl) e,c⟩
 |dK kvs=>obtain⟨z,y,vs,r,ob,es,ep,e,c⟩:=x;exact⟨z,y,vs,r,ob,es,ep,k _ _ (.inl rfl) e,c⟩
 |set S n=>obtain⟨ob,es,ep,t,e,c⟩:=x;exact⟨ob,es,ep,t,k _ _ (.inl rfl) e,c⟩
 |ins C dx fs =>
  obtain⟨d,z,ne,e,mA,⟨od,es,ep,e2,c⟩,r⟩:=x;exact⟨ho _ d,z,ne,k _ _ (.inl rfl) e,mA,⟨od,es,ep,k _ _ (.inr d) e2,c⟩,r⟩
 |own y=>obtain⟨ob,e⟩:=x;exact⟨ob,k _ _ (.inl rfl) e⟩
 |xd fs=>obtain⟨mA,⟨od,es,ep,e,c⟩,r⟩:=x;exact⟨mA,⟨od,es,ep,k _ _ (.inl rfl) e,c⟩,r⟩
 |rng lo hi=>obtain⟨t,u,v,e⟩:=x;exact⟨t,u,v,k _ _ (.inl rfl) e⟩
 |frz ob u ih=>obtain⟨e,q⟩:=x;exact⟨k _ _ (.inl rfl) e,ih q⟩
 |tbl ps =>
  have e:h.get? a=some { cls:=.none,data:=.fields ps }:=x;show h'.get? a=some { cls:=.none,data:=.fields ps };exact k a _ (.inl rfl) e
 |met f y =>
  have e:h.get? a=some (methodObj (.ref f) (.ref y)):=x;show h'.get? a=some (methodObj (.ref f) (.ref y));exact k a _ (.inl rfl) e
 |ext φ=>obtain⟨p,⟨o,e⟩,st⟩:=x;exact⟨st _ _ p λo q=>k _ _ (.inl rfl) q,⟨o,k _ _ (.inl rfl) e⟩,st⟩
theorem HOk.lt(x:HOk P w H h)(e:H a=some o):a<h.objs.size:=(x a o e).lt
theorem HOk.fresh(x:HOk P w H h)(e:h.objs.size<=a):H a=none:=by
 cases q:H a with
 |none=>rfl
 |some u=>exact absurd (aU (x.lt q) e) (X9 _)
theorem HOk.kept(x:HOk P w H h)(k:∀b u,h.get? b=some u->h'.get? b=some u):HOk P w H h':=λa o e =>
 (x a o e).stay (λb u _ q=>k b u q) (λ_ q=>q) λ_ _ q=>q
theorem HOk.laid(x:HOk P w H h)(k:∀b u,h.get? b=some u->h'.get? b=some u)(hp:h.objs.size<=a)(new:dh P w (upd H a o) h' a o):HOk P w (upd H a o) h':=λb u e=>by
 have hn:=x.fresh hp;by_cases hb:b=a
 .subst hb;rw[bG]at e;cases e;exact new
 .rw[bL hb]at e;exact(x b u e).stay (λc v _ q=>k c v q) (λc q=>by rw[bL (bH q hn)];exact q) λc xs q=>by rw[bL (bH q hn)];exact q
end
noncomputable def Rd(H:Hp)(a:Addr)(u:HO):Prop:=H a=some u\/∃o,H a=some (.frz o u)
theorem Rd.of{H:Hp}{a:Addr}{u:HO}(h:H a=some u):Rd H a u:=.inl h
theorem Rd.ok{P:Program}{w:World}{H:Hp}{h:Heap}{a:Addr}{u:HO}(r:Rd H a u)(x:HOk P w H h):dh P w H h a u:=by
 rcases r with r|⟨o,r⟩
 .exact x a u r
 .obtain⟨_,q⟩:=x a _ r;exact q
noncomputable def Mut:Option HO->Prop
 |some (.lst _)=>True
 |some (.dK _)=>True
 |some (.set _ _)=>True
 |some (.ins _ _ _)=>True
 |some (.ext _)=>True
 |_=>False
section
variable{P:Program}{w:World}{H:Hp}{h h':Heap}{x e:Addr}{o':HO}
theorem HOk.write(ok:HOk P w H h)(mu:Mut (H x))(he:e=x\/H e=some (.own x))(k:∀b u,b≠e->h.get? b=some u->h'.get? b=some u)(heo:∃u,h'.get? e=some u)
 (new:dh P w (upd H x o') h' x o'):HOk P w (upd H x o') h':=λb u q=>by
 have nown:∀c y,H c=some (.own y)->c≠x:=λc y r z=>by subst z;rw[r]at mu;exact mu
 have ntup:∀c xs,H c=some (.tup xs)->c≠x:=λc xs r z=>by subst z;rw[r]at mu;exact mu
 by_cases hb:b=x
 .subst hb;rw[bG]at q;cases q;exact new
 .rw[bL hb]at q;by_cases hbe:b=e
  .have q':H b=some (.own x):=by
    rcases he with z|z
    .exact absurd (hbe.trans z) hb
    .rw[hbe];exact z
   rw[q]at q';cases q';obtain⟨v,hv⟩:=heo;exact⟨v,by rw[hbe];exact hv⟩
  .refine(ok b u q).stay (λc v hc r=>k c v ?_ r) (λc r=>by rw[bL (nown c b r)];exact r) λc xs r=>by rw[bL (ntup c xs r)];exact r
   rcases hc with rfl|hc
   .exact hbe
   .rintro rfl;rcases he with z|z
    .exact nown c b hc z
    .rw[hc]at z;cases z;exact hb rfl
end
structure Un(fs ex:Ε)(H H':Hp)(h h':Heap):Prop where
 keep:∀b o,h.get? b=some o->H b=none->b∉fs->b∉ex->h'.get? b=some o
 slot:∀b o,h.get? b=some o->H b=none->b∈fs->b∉ex->∃sl,h'.get? b=some { o with slots:=sl }
 free:∀b o,h.get? b=some o->H b=none->b∉ex->H' b=none
 there:∀b o,h.get? b=some o->b∉ex->∃o',h'.get? b=some o'
 tups:∀b xs,H b=some (.tup xs)->H' b=some (.tup xs)
 frzs:∀b o u,H b=some (.frz o u)->H' b=some (.frz o u)
 tbls:∀b ps,H b=some (.tbl ps)->∃more,H' b=some (.tbl (ps++more))
section
variable{fs fs' ex ex':Ε}{H H1 H2:Hp}{h h1 h2 h':Heap}{a x e:Addr}{o:HO}
theorem Un.any(u:Un fs ex H H1 h h1){b:Addr}{ob:Obj}(q:h.get? b=some ob)(n:H b=none)(hx:b∉ex):∃sl,h1.get? b=some { ob with slots:=sl }:=by
 by_cases hb:b∈fs
 .exact u.slot b ob q n hb hx
 .exact⟨ob.slots,u.keep b ob q n hb hx⟩
theorem Un.kept(k:∀b u,h.get? b=some u->h'.get? b=some u):Un fs ex H H h h' :=
 ⟨λb ob q _ _ _=>k b ob q,λb ob q _ _ _=>⟨ob.slots,k b ob q⟩,λ_ _ _ n _=>n,λb ob q _=>⟨ob,k b ob q⟩,λ_ _ q=>q,λ_ _ _ q=>q,λ_ ps q=>⟨#[],by rw[q];simp⟩⟩
theorem Un.refl:Un fs ex H H h h:=Un.kept λ_ _ q=>q
theorem Un.laid(k:∀b u,h.get? b=some u->h'.get? b=some u)(hp:h.objs.size<=a)(hn:H a=none):Un fs ex H (upd H a o) h h' where
 keep:=λb u q _ _ _=>k b u q
 slot:=λb u q _ _ _=>⟨u.slots,k b u q⟩
 free:=λb u q n _=>by rw[bL (aR (aU (aJ q) hp))];exact n
 there:=λb u q _=>⟨u,k b u q⟩
 tups:=λb xs q=>by rw[bL (bH q hn)];exact q
 frzs:=λb u xs q=>by rw[bL (bH q hn)];exact q
 tbls:=λb ps q=>⟨#[],by rw[bL (bH q hn),q];simp⟩
theorem Un.write(mu:Mut (H x))(he:e=x\/H e=some (.own x))(k:∀b u,b≠e->h.get? b=some u->h'.get? b=some u)(heo:∃u,h'.get? e=some u):Un fs ex H (upd H x o) h h':=by
 have hx:∀b,H b=none->b≠x:=λb n z=>by subst z;rw[n]at mu;exact mu
 have hb:∀b,H b=none->b≠e:=λb n z=>by
  subst z;rcases he with r|r
  .exact hx b n r
  .rw[n]at r;cases r
 have hm:∀b u,H b=some u->¬Mut (some u)->b≠x:=λb u q nm z=>by subst z;rw[q]at mu;exact nm mu
 refine⟨λb u q n _ _=>k b u (hb b n) q,λb u q n _ _=>⟨u.slots,k b u (hb b n) q⟩,λb u q n _=>by rw[bL (hx b n)];exact n,λb u q _=>?_,
  λb xs q=>by rw[bL (hm b _ q λz=>z)];exact q,λb u xs q=>by rw[bL (hm b _ q λz=>z)];exact q,λb ps q=>⟨#[],by rw[bL (hm b _ q λz=>z),q];simp⟩⟩
 by_cases hbe:b=e
 .subst hbe;exact heo
 .exact⟨u,k b u hbe q⟩
end
noncomputable def trk(h:Heap)(H:Hp):Ε:=(List.range h.objs.size).filter λa=>(H a).isSome
noncomputable def uT(h:Heap)(H:Hp):Heap:=hideAll h (trk h H)
theorem FN(h:Heap)(H:Hp):(uT h H).objs.size=h.objs.size:=hideAll_size _ _
theorem Ka{h:Heap}{H:Hp}{b:Addr}{o:Obj}(e:h.get? b=some o)(n:H b=none):(uT h H).get? b=some o :=
 hideAll_get _ e λhm=>by
  have q:(H b).isSome=true:=(List.mem_filter.mp hm).2;rw[n]at q;simp at q
theorem Ny{h:Heap}{H:Hp}{b:Addr}{o:Obj}(e:(uT h H).get? b=some o):h.get? b=some o/\H b=none:=by
 have e':h.get? b=some o:=of_hideAll (trk h H) e;refine⟨e',?_⟩;cases q:H b with
 |none=>rfl
 |some x =>
  have hm:b∈trk h H:=List.mem_filter.mpr ⟨List.mem_range.mpr (aJ e'),by simp[q]⟩;have z:(uT h H).get? b=none:=hideAll_none (trk h H) hm;rw[z]at e;cases e
noncomputable def Xp(g h:Heap)(L:Addr):Ω:=(List.range h.objs.size).filterMap λa=>if a=L\/(g.get? a).isSome=true then none else(h.get? a).map λo=>(a,o)
noncomputable def rest(g h:Heap)(L d:Addr):Ω:=(Xp g h L).filter λp=>decide (p.1≠d)
structure Mod(K:Frag)(mg:Str->Ζ)(base:Heap):Prop where
 kin:K.In base
 glob:base.Ns mainGlobals mg
 blt:∃mb,base.Ns builtinsNs mb/\∀x:Str,x ≠ "__name__" -> mb x=bootBuiltins x
 nolimit:base.NoLimit
structure Cx where
 prog:Program
 w:World
 K:Frag
 mg:Str->Ζ
 base:Heap
 A:Around
 N:Β
 s₀:Shared
 H₀:Hp
 env:Env
 outer:List Env
 stack:List Env
 ex:Ε
 fn:Str->Bool
 calm:Bool
 pn:Ω
 xe:Κ
noncomputable def frs(l:List Env):Ε:=l.filterMap (·.frame)
noncomputable abbrev Cx.fs(X:Cx):Ε:=frs X.outer
noncomputable def Vis(sc:Scope)(x:Str):Prop:=sc.names.lookup x=some .local\/sc.names.lookup x=some .cell\/sc.names.lookup x=some .free
noncomputable def Loc(sc:Scope)(x:Str):Prop:=sc.names.lookup x=some .local\/sc.names.lookup x=some .cell
noncomputable def Look(env:Env)(h:Heap)(m:Str->Ζ)(x:Str)(u:Value):Prop :=
 (env.kindOf x=some .local/\m x=some u)\/((env.kindOf x=some .cell\/env.kindOf x=some .free)/\∃c,env.cells.lookup x=some c/\h.IsCell c (some u))
structure Cx.Ok(X:Cx):Prop where
 mod:Mod X.K X.mg X.base
 kind:X.env.scope.kind=.function
 glob:X.env.globals=mainGlobals
 blt:X.env.builtins=builtinsNs
 above:X.s₀.heap.objs.size<=X.env.locals
 inj:∀x y c,X.env.cells.lookup x=some c->X.env.cells.lookup y=some c->x=y
 has:∀x,(X.env.kindOf x=some .cell\/X.env.kindOf x=some .free)->∃c,X.env.cells.lookup x=some c
 cab:∀x c,X.fn x=true->X.env.cells.lookup x=some c->X.s₀.heap.objs.size<=c
 hd:X.calm=true->X.A.handled=none
 frames:X.A.frames=some X.stack
 stk:X.stack=X.outer\/(X.stack=X.env::X.outer/\X.env.frame=some X.env.locals)
 exf:∀b∈X.ex,b≠X.env.locals/\∀x c,X.env.cells.lookup x=some c->c≠b
 bs:∀b o,X.base.get? b=some o->X.s₀.heap.get? b=some o/\X.H₀ b=none
 bsz:X.base.objs.size<=X.s₀.heap.objs.size
 noex:∀b o,X.base.get? b=some o->b∉X.ex
 exfs:∀b∈X.ex,b∉X.fs
 funs:X.s₀.heap.FunFrames X.base X.outer
 frf:∀b∈X.fs,X.H₀ b=none
structure Inv(X:Cx)(pins:Ω)(σ:List (Option V))(H:Hp)(s:Shared):Prop where
 ok:X.Ok
 os:s.os=X.s₀.os
 bare:AllBare s.gens
 base:Un X.fs X.ex X.H₀ H X.s₀.heap s.heap
 loc:∃m,s.heap.Ns X.env.locals m/\∀(i:Nat)(x:Str)(v:V),X.N[i]?=some x->σ[i]?=some (some v)->Vis X.env.scope x->∃u,RelV v u/\Look X.env s.heap m x u
 cell:∀x c,X.env.cells.lookup x=some c->∃v,s.heap.IsCell c v
 free:H X.env.locals=none
 freeC:∀x c,X.env.cells.lookup x=some c->H c=none
 pin:∀p∈X.pn++pins,s.heap.get? p.1=some p.2/\H p.1=none/\p.1≠X.env.locals/\p.1∉X.fs/\∀v,p.2.data≠.cell v
 hok:HOk X.prog X.w H s.heap
 len:σ.length=X.N.length
section
variable{X:Cx}{pins:Ω}{σ:List (Option V)}{H H':Hp}{s:Shared}{h':Heap}
theorem Cx.Ok.nofr(ok:X.Ok){b:Addr}{o:Obj}(e:X.base.get? b=some o):b∉X.fs:=λhb=>by
 have:=(ok.funs.mem hb).1;rw[e]at this;cases this
theorem Inv.bs(I:Inv X pins σ H s):∀b o,X.base.get? b=some o->s.heap.get? b=some o/\H b=none:=λb o e =>
 ⟨I.base.keep b o (I.ok.bs b o e).1 (I.ok.bs b o e).2 (I.ok.nofr e) (I.ok.noex b o e),I.base.free b o (I.ok.bs b o e).1 (I.ok.bs b o e).2 (I.ok.noex b o e)⟩
theorem Inv.bk(I:Inv X pins σ H s):∀b o,X.base.get? b=some o->s.heap.get? b=some o:=λb o e=>(I.bs b o e).1
theorem Inv.mod(I:Inv X pins σ H s):Mod X.K X.mg X.base:=I.ok.mod
theorem Inv.kIn(I:Inv X pins σ H s):X.K.In s.heap:=I.ok.mod.kin.keeps I.bk
theorem Inv.fr(I:Inv X pins σ H s):∃m,Fr X.base X.env.locals s.heap m :=
 let⟨m,hn,_⟩:=I.loc
 ⟨m,hn,I.bk,aM I.ok.bsz I.ok.above⟩
theorem Inv.lt(I:Inv X pins σ H s):X.env.locals<s.heap.objs.size:=by obtain⟨_,hn,_⟩:=I.loc;exact hn.lt
theorem Inv.sz(I:Inv X pins σ H s):X.s₀.heap.objs.size<=s.heap.objs.size:=aM I.ok.above (Y2 I.lt)
theorem Inv.nofs(I:Inv X pins σ H s){a:Addr}(h:s.heap.objs.size<=a):a∉X.fs:=λhb=>by
 obtain⟨_,o,ho,_⟩:=I.ok.funs.mem hb;exact absurd (aU (aJ ho) (aM I.sz h)) (X9 _)
theorem Inv.cne(I:Inv X pins σ H s):∀x c,X.env.cells.lookup x=some c->c≠X.env.locals:=λx c e z=>by
 obtain⟨v,o,ho,hd⟩:=I.cell x c e;obtain⟨m,⟨o',es,ep,ho',hd',_⟩,_⟩:=I.loc;rw[z,ho']at ho;cases ho;rw[hd']at hd;cases hd
theorem Inv.funs(I:Inv X pins σ H s):s.heap.FunFrames X.base X.outer:=by
 have all:∀(l:List Env),(∀b∈frs l,b∈X.fs)->X.s₀.heap.FunFrames X.base l->s.heap.FunFrames X.base l:=by
  intro l
  induction l with
  |nil=>intro _ _;trivial
  |cons env r ih =>
   intro hs hl;obtain⟨hk,⟨L,o,hf,hn,ho,hd⟩,hr⟩:=hl;have hL:L∈X.fs:=hs L (by unfold frs;rw[List.filterMap_cons,hf];exact aO);obtain⟨sl,e⟩:=I.base.slot L o ho (I.ok.frf L hL) hL λz=>I.ok.exfs L z hL;exact⟨hk,⟨L,_,hf,hn,e,hd⟩,ih (λb hb=>hs b (by unfold frs;rw[List.filterMap_cons,hf];exact aH _ hb)) hr⟩
 exact all X.outer (λ_ hb=>hb) I.ok.funs
theorem Inv.stack(I:Inv X pins σ H s):s.heap.FunFrames X.base X.stack:=by
 rcases I.ok.stk with e|⟨e,hf⟩
 .rw[e];exact I.funs
 .rw[e];obtain⟨m,hn,_⟩:=I.loc;refine .cons (by rw[I.ok.kind];decide) hf hn ?_ I.funs;exact Heap.get?_none_of_le (aM I.ok.bsz I.ok.above)
theorem Inv.stkSub(I:Inv X pins σ H s):∀b∈frs X.stack,b∈X.env.locals::X.fs:=λb hb=>by
 rcases I.ok.stk with e|⟨e,hf⟩
 .rw[e]at hb;exact aH _ hb
 .rw[e]at hb;unfold frs at hb;rw[List.filterMap_cons,hf]at hb;exact hb
theorem Inv.stkFree(I:Inv X pins σ H s):∀b∈frs X.stack,H b=none:=λb hb=>by
 rcases YU.mp (I.stkSub b hb)with e|hb
 .rw[e];exact I.free
 .obtain⟨_,o,ho,_⟩:=I.ok.funs.mem hb;exact I.base.free b o ho (I.ok.frf b hb) λz=>I.ok.exfs b z hb
theorem Inv.step{g':Array GenState}{t':Nat}{d':Drawn}{ch:Ε}(I:Inv X pins σ H s)
 (hch:∀b∈ch,(b∈X.ex\/X.s₀.heap.objs.size<=b)/\b≠X.env.locals/\(∀x c,X.env.cells.lookup x=some c->c≠b)/\∀p∈X.pn++pins,p.1≠b)
 (keep:∀b o,b≠X.env.locals->b∉X.fs->b∉ch->s.heap.get? b=some o->H b=none->h'.get? b=some o)
 (slot:∀b o,b≠X.env.locals->b∈X.fs->b∉ch->s.heap.get? b=some o->H b=none->∃sl,h'.get? b=some { o with slots:=sl })(free:∀b o,b∉ch->s.heap.get? b=some o->H b=none->H' b=none)
 (there:∀b o,b∉ch->s.heap.get? b=some o->∃o',h'.get? b=some o')
 (tups:∀b xs,H b=some (.tup xs)->H' b=some (.tup xs))(frzs:∀b o u,H b=some (.frz o u)->H' b=some (.frz o u))(tbls:∀b ps,H b=some (.tbl ps)->∃more,H' b=some (.tbl (ps++more)))
 (ns:∀m,s.heap.Ns X.env.locals m->h'.Ns X.env.locals m)(hok:HOk X.prog X.w H' h')(hg:AllBare g') :
  Inv X pins σ H' { s with heap:=h',gens:=g',drawn:=d',toks:=t' }:=by
 have neL:∀b o,X.s₀.heap.get? b=some o->b≠X.env.locals:=λb o e=>aR (aU (aJ e) I.ok.above);have neC:∀b o,X.s₀.heap.get? b=some o->b∉X.ex->b∉ch:=λb o e hx hb=>by
  rcases(hch b hb).1 with z|z
  .exact hx z
  .exact absurd (aU (aJ e) z) (X9 _)
 have cellK:∀x c,X.env.cells.lookup x=some c->∀v,s.heap.IsCell c v->h'.IsCell c v:=λx c e v ⟨o,ho,hd⟩=>by
  have nch:c∉ch:=λz=>(hch c z).2.2.1 x c e rfl;by_cases hc:c∈X.fs
  .obtain⟨sl,q⟩:=slot c o (I.cne x c e) hc nch ho (I.freeC x c e);exact⟨_,q,hd⟩
  .exact⟨o,keep c o (I.cne x c e) hc nch ho (I.freeC x c e),hd⟩
 refine⟨I.ok,I.os,hg,⟨λb o e n hb hx=>?_,λb o e n hb hx=>?_,λb o e n hx=>?_,λb o e hx=>?_,λb xs e=>tups b xs (I.base.tups b xs e),λb o xs e=>frzs b o xs (I.base.frzs b o xs e),λb ps e=>?_⟩,?_,λx c e=>?_,?_,λx c e=>?_,λp hp=>?_,hok,I.len⟩
 .exact keep b o (neL b o e) hb (neC b o e hx) (I.base.keep b o e n hb hx) (I.base.free b o e n hx)
 .obtain⟨sl,e1⟩:=I.base.slot b o e n hb hx;obtain⟨sl',e2⟩:=slot b _ (neL b o e) hb (neC b o e hx) e1 (I.base.free b o e n hx);exact⟨sl',e2⟩
 .obtain⟨o',e1⟩:=I.base.there b o e hx;exact free b o' (neC b o e hx) e1 (I.base.free b o e n hx)
 .obtain⟨o',e1⟩:=I.base.there b o e hx;exact there b o' (neC b o e hx) e1
 .obtain⟨m1,e1⟩:=I.base.tbls b ps e;obtain⟨m2,e2⟩:=tbls b _ e1;exact⟨m1++m2,by rw[e2,Array.append_assoc]⟩
 .obtain⟨m,hn,hl⟩:=I.loc;refine⟨m,ns m hn,λi x v e1 e2 e3=>?_⟩;obtain⟨u,r,l⟩:=hl i x v e1 e2 e3;refine⟨u,r,?_⟩;rcases l with l|⟨k,c,e,z⟩
  .exact .inl l
  .exact .inr ⟨k,c,e,cellK x c e _ z⟩
 .obtain⟨v,z⟩:=I.cell x c e;exact⟨v,cellK x c e v z⟩
 .obtain⟨m,⟨o,_,_,ho,_⟩,_⟩:=I.loc;exact free _ o (λz=>(hch _ z).2.1 rfl) ho I.free
 .obtain⟨v,o,ho,hd⟩:=I.cell x c e;exact free c o (λz=>(hch c z).2.2.1 x c e rfl) ho (I.freeC x c e)
 .obtain⟨e,n,ne,nf,d⟩:=I.pin p hp;have nch:p.1∉ch:=λz=>(hch p.1 z).2.2.2 p hp rfl;exact⟨keep p.1 p.2 ne nf nch e n,free p.1 p.2 nch e n,ne,nf,d⟩
theorem Inv.un{t':Nat}(I:Inv X pins σ H s)(u:Un X.fs [] H H' s.heap h')(hok:HOk X.prog X.w H' h'):Inv X pins σ H' { s with heap:=h',toks:=t' }:=by
 obtain⟨m,⟨o,es,ep,ho,r⟩,_⟩:=id I.loc;obtain⟨sl,hL⟩:=u.any ho I.free (by simp);exact I.step (g':=s.gens) (d':=s.drawn) (ch:=[]) (λ_ z=>nomatch z) (λb o _ hb _ e n=>u.keep b o e n hb (by simp)) (λb o _ hb _ e n=>u.slot b o e n hb (by simp)) (λb o _ e n=>u.free b o e n (by simp)) (λb o _ e=>u.there b o e (by simp)) u.tups u.frzs u.tbls (λm' hm=>by
  obtain⟨o',es',ep',ho',r'⟩:=hm;rw[ho]at ho';cases ho';exact⟨_,es',ep',hL,r'⟩) hok I.bare
theorem Inv.call{g':Array GenState}{t':Nat}{d':Drawn}{ch:Ε}(I:Inv X pins σ H s)(u:Un (frs X.stack) ch H H' s.heap h')(hok:HOk X.prog X.w H' h')(hg:AllBare g')
 (hch:∀b∈ch,(b∈X.ex\/X.s₀.heap.objs.size<=b)/\b≠X.env.locals/\(∀x c,X.env.cells.lookup x=some c->c≠b)/\∀p∈X.pn++pins,p.1≠b) :
  Inv X pins σ H' { s with heap:=h',gens:=g',drawn:=d',toks:=t' }:=by
 obtain⟨m,⟨o,es,ep,ho,r⟩,_⟩:=id I.loc;obtain⟨sl,hL⟩:=u.any ho I.free λz=>(hch _ z).2.1 rfl;exact I.step (ch:=ch) hch (λb o hL hb hc e n=>u.keep b o e n (λz=>(YU.mp (I.stkSub b z)).elim hL hb) hc) (λb o _ _ hc e n=>u.any e n hc) (λb o hc e n=>u.free b o e n hc) (λb o hc e=>u.there b o e hc) u.tups u.frzs u.tbls (λm' hm=>by
  obtain⟨o',es',ep',ho',r'⟩:=hm;rw[ho]at ho';cases ho';exact⟨_,es',ep',hL,r'⟩) hok hg
theorem Inv.turned{t':Nat}{it:Addr}(I:Inv X pins σ H s)(k:∀b o,b≠it->s.heap.get? b=some o->h'.get? b=some o)(hn:H it=none)(hL:it≠X.env.locals)
 (h1:it∈X.ex\/X.s₀.heap.objs.size<=it)(h2:∀x c,X.env.cells.lookup x=some c->c≠it)(h3:∀p∈X.pn++pins,p.1≠it):Inv X pins σ H { s with heap:=h',toks:=t' }:=by
 have nit:∀b u,H b=some u->b≠it:=λb u e z=>by rw[z,hn]at e;cases e
 refine I.step (g':=s.gens) (d':=s.drawn) (ch:=[it]) (λb hb=>?_) (λb o _ _ hc e _=>k b o (λz=>hc (by simp[z])) e) (λb o _ _ hc e _=>⟨o.slots,k b o (λz=>hc (by simp[z])) e⟩) (λ_ _ _ _ n=>n)
  (λb o hc e=>⟨o,k b o (λz=>hc (by simp[z])) e⟩) (λ_ _ e=>e) (λ_ _ _ e=>e) (λb ps e=>⟨#[],by rw[e];simp⟩) (λm hm=>?_) (λb u e=>?_) I.bare
 .have e:b=it:=by simpa using hb
  subst e;exact⟨h1,hL,h2,h3⟩
 .obtain⟨o,es,ep,ho,r⟩:=hm;exact⟨o,es,ep,k _ o (Ne.symm hL) ho,r⟩
 .refine(I.hok b u e).stay (λc v hc q=>k c v ?_ q) (λ_ q=>q) λ_ _ q=>q;rcases hc with z|z
  .rw[z];exact nit b u e
  .exact nit c _ z
theorem Inv.tok(I:Inv X pins σ H s)(t:Nat):Inv X pins σ H { s with toks:=t }:=I.un (h':=s.heap) (t':=t) Un.refl I.hok
theorem Inv.kept{t':Nat}(I:Inv X pins σ H s)(k:∀b u,s.heap.get? b=some u->h'.get? b=some u):Inv X pins σ H { s with heap:=h',toks:=t' }:=I.un (Un.kept k) (I.hok.kept k)
theorem Inv.laid{a:Addr}{o:HO}{t':Nat}(I:Inv X pins σ H s)(k:∀b u,s.heap.get? b=some u->h'.get? b=some u)(hp:s.heap.objs.size<=a)(new:dh X.prog X.w (upd H a o) h' a o) :
  Inv X pins σ (upd H a o) { s with heap:=h',toks:=t' }:=I.un (Un.laid k hp (I.hok.fresh hp)) (I.hok.laid k hp new)
theorem Inv.write{x e:Addr}{o:HO}{t':Nat}(I:Inv X pins σ H s)(mu:Mut (H x))(he:e=x\/H e=some (.own x))(k:∀b u,b≠e->s.heap.get? b=some u->h'.get? b=some u)(heo:∃u,h'.get? e=some u)
 (new:dh X.prog X.w (upd H x o) h' x o):Inv X pins σ (upd H x o) { s with heap:=h',toks:=t' }:=I.un (Un.write mu he k heo) (I.hok.write mu he k heo new)
theorem Inv.pins_of{pins':Ω}(I:Inv X pins σ H s)(h:∀p∈pins',s.heap.get? p.1=some p.2/\H p.1=none/\p.1≠X.env.locals/\p.1∉X.fs/\∀v,p.2.data≠.cell v):Inv X pins' σ H s :=
 ⟨I.ok,I.os,I.bare,I.base,I.loc,I.cell,I.free,I.freeC,λp hp=>(Y1.mp hp).elim (λz=>I.pin p (List.mem_append_left _ z)) (h p),I.hok,I.len⟩
theorem rP{N:Β}(hN:N.Nodup){i j:Nat}{x:Str}(a:N[i]?=some x)(b:N[j]?=some x):i=j:=by
 obtain⟨h1,e1⟩:=ao.mp a;obtain⟨h2,e2⟩:=ao.mp b;exact(List.getElem_inj hN).mp (e1.trans e2.symm)
theorem Q9{M:Model}{A:Around}{E:Κ}{i:Nat}{x:Str}{v:V}{u:Value}{Q:Unit->Shared->Prop}(I:Inv X pins σ H s)(hN:X.N.Nodup)(hi:X.N[i]?=some x)(hx:Loc X.env.scope x)(r:RelV v u)
 (h:∀s',Inv X pins (σ.set i (some v)) H s'->(∃a,Heap.SameBut a s.heap s'.heap/\(a=X.env.locals\/X.env.cells.lookup x=some a))->Q () s')(hf:X.fn x=true\/X.env.scope.names.lookup x=some .local):wpAny M A (storeName X.env x u) Q E s:=by
 obtain⟨m,hn,hl⟩:=id I.loc;have hcls:(X.env.scope.kind == .class || (X.env.scope.kind == .module&&X.env.locals != X.env.globals))=false:=by rw[I.ok.kind];rfl
 have hiσ:i<σ.length:=by rw[I.len];exact(ao.mp hi).1
 have cne:=I.cne;have tracked:∀{a:Addr}{h':Heap},(∃o,s.heap.get? a=some o/\H a=none)->Heap.SameBut a s.heap h'->HOk X.prog X.w H h':=λ{a h'}ha hs b ob e=>by
  obtain⟨_,_,hfree⟩:=ha;refine(I.hok b ob e).stay (λc w' hc q=>(hs.2 c ?_).trans q) (λ_ q=>q) λ_ _ q=>q;rintro rfl;rcases hc with rfl|hc
  .rw[hfree]at e;cases e
  .rw[hfree]at hc;cases hc
 rcases hx with hk|hk
 .refine wpAny_storeName_local hk hn (λh' hn' hs=>?_) hcls;obtain⟨oL,_,_,hoL,_⟩:=id hn;refine h _ ⟨I.ok,I.os,I.bare,⟨λb o e n hb hx=>?_,λb o e n hb hx=>?_,I.base.free,λb o e hx=>?_,I.base.tups,I.base.frzs,I.base.tbls⟩,⟨_,hn',λj y v' e1 e2 e3=>?_⟩,λy c e=>?_,I.free,I.freeC,λp hp=>?_,tracked ⟨oL,hoL,I.free⟩ hs,by simpa using I.len⟩ ⟨_,hs,.inl rfl⟩
  .exact(hs.2 b (aR (aU (aJ e) I.ok.above))).trans (I.base.keep b o e n hb hx)
  .obtain⟨sl,e1⟩:=I.base.slot b o e n hb hx;exact⟨sl,(hs.2 b (aR (aU (aJ e) I.ok.above))).trans e1⟩
  .obtain⟨o',e1⟩:=I.base.there b o e hx;exact⟨o',(hs.2 b (aR (aU (aJ e) I.ok.above))).trans e1⟩
  .by_cases hj:j=i
   .subst hj;rw[hi]at e1;cases e1;rw[List.getElem?_set_self hiσ]at e2;cases e2;exact⟨u,r,.inl ⟨hk,by simp⟩⟩
   .rw[List.getElem?_set_ne (Ne.symm hj)]at e2;obtain⟨u',r',q⟩:=hl j y v' e1 e2 e3;refine⟨u',r',?_⟩;rcases q with⟨k,e⟩|⟨k,c,e,z⟩
    .refine .inl ⟨k,?_⟩;have:y≠x:=λe=>hj (rP hN e1 (e ▸ hi));simp[this,e]
    .exact .inr ⟨k,c,e,z.sameBut hs (cne y c e)⟩
  .obtain⟨w',z⟩:=I.cell y c e;exact⟨w',z.sameBut hs (cne y c e)⟩
  .obtain⟨e,n,ne,nf,d⟩:=I.pin p hp;exact⟨(hs.2 p.1 ne).trans e,n,ne,nf,d⟩
 .have hfn:X.fn x=true:=by
   rcases hf with z|z
   .exact z
   .rw[z]at hk;cases hk
  obtain⟨c,hc⟩:=I.ok.has x (.inl hk);obtain⟨w',z⟩:=I.cell x c hc;refine wpAny_storeName_cell I.ok.kind hk hc z (λh' hc' hs=>?_);obtain⟨oc,hoc,hocd⟩:=id z;refine h { s with heap:=h' } ⟨I.ok,I.os,I.bare,⟨λb o e n hb hx=>?_,λb o e n hb hx=>?_,I.base.free,λb o e hx=>?_,I.base.tups,I.base.frzs,I.base.tbls⟩,⟨m,hn.sameBut hs (Ne.symm (cne x c hc)),λj y v' e1 e2 e3=>?_⟩,λy c' e=>?_,I.free,I.freeC,λp hp=>?_,tracked ⟨oc,hoc,I.freeC x c hc⟩ hs,by simpa using I.len⟩ ⟨c,hs,.inr hc⟩
  .exact(hs.2 b (aR (aU (aJ e) (I.ok.cab x c hfn hc)))).trans (I.base.keep b o e n hb hx)
  .obtain⟨sl,e1⟩:=I.base.slot b o e n hb hx;exact⟨sl,(hs.2 b (aR (aU (aJ e) (I.ok.cab x c hfn hc)))).trans e1⟩
  .obtain⟨o',e1⟩:=I.base.there b o e hx;exact⟨o',(hs.2 b (aR (aU (aJ e) (I.ok.cab x c hfn hc)))).trans e1⟩
  .by_cases hj:j=i
   .subst hj;rw[hi]at e1;cases e1;rw[List.getElem?_set_self hiσ]at e2;cases e2;exact⟨u,r,.inr ⟨.inl hk,c,hc,hc'⟩⟩
   .rw[List.getElem?_set_ne (Ne.symm hj)]at e2;obtain⟨u',r',q⟩:=hl j y v' e1 e2 e3;refine⟨u',r',?_⟩;rcases q with q|⟨k,c',e,z'⟩
    .exact .inl q
    .refine .inr ⟨k,c',e,z'.sameBut hs ?_⟩;rintro rfl;exact hj (rP hN e1 (I.ok.inj _ _ _ e hc ▸ hi))
  .by_cases hcc:c'=c
   .subst hcc;exact⟨_,hc'⟩
   .obtain⟨w2,z2⟩:=I.cell y c' e;exact⟨w2,z2.sameBut hs hcc⟩
  .obtain⟨e,n,ne,nf,d⟩:=I.pin p hp;refine⟨(hs.2 p.1 ?_).trans e,n,ne,nf,d⟩;intro q;rw[q,hoc]at e;have q':oc=p.2:=Option.some.inj e;exact d w' (by rw[<- q'];exact hocd)
theorem wW{M:Model}{A:Around}{E:Κ}{i:Nat}{x:Str}{v:V}{u:Value}{Q:Unit->Shared->Prop}(I:Inv X pins σ H s)(hN:X.N.Nodup)(hi:X.N[i]?=some x)(hx:Loc X.env.scope x)(r:RelV v u)
 (h:∀s',Inv X pins (σ.set i (some v)) H s'->Q () s')(hf:X.fn x=true\/X.env.scope.names.lookup x=some .local:=by first|exact .inl rfl|exact .inr rfl|assumption):wpAny M A (storeName X.env x u) Q E s :=
 Q9 I hN hi hx r (λs' I' _=>h s' I') hf
theorem Inv.call'{s':Shared}{ch:Ε}(I:Inv X pins σ H s)(ho:s'.os=s.os)(u:Un (frs X.stack) ch H H' s.heap s'.heap)(hok:HOk X.prog X.w H' s'.heap)(hg:AllBare s'.gens)
 (hch:∀b∈ch,(b∈X.ex\/X.s₀.heap.objs.size<=b)/\b≠X.env.locals/\(∀x c,X.env.cells.lookup x=some c->c≠b)/\∀p∈X.pn++pins,p.1≠b):Inv X pins σ H' s':=by
 obtain⟨h',g',d',t',o'⟩:=s';have e:o'=s.os:=ho;subst e;exact I.call (g':=g') (t':=t') (d':=d') u hok hg hch
end
noncomputable abbrev XK:=Value->Η->Hp->Prop
noncomputable abbrev St:=List (Option V)
noncomputable abbrev VK:=V->Hp->Prop
noncomputable abbrev TE:=St->Hp->VK->Prop
noncomputable abbrev TT:=St->Hp->(Bool->Hp->Prop)->Prop
noncomputable abbrev TA:=St->Hp->(Μ->Hp->Prop)->Prop
structure Ends where
 nx:St->Hp->Prop
 rt:VK
 bk:St->Hp->Prop:=λ_ _=>False
 ct:St->Hp->Prop:=λ_ _=>False
noncomputable abbrev TS:=Ends->St->Hp->Prop
noncomputable def EP(X:Cx)(pins:Ω)(σ:St)(Q:VK)(u:Value)(s':Shared):Prop:=∃v H',Inv X pins σ H' s'/\RelV v u/\Q v H'
noncomputable def TP(X:Cx)(pins:Ω)(σ:St)(Q:Bool->Hp->Prop)(b:Bool)(s':Shared):Prop:=∃H',Inv X pins σ H' s'/\Q b H'
noncomputable def AP(X:Cx)(pins:Ω)(σ:St)(Q:Μ->Hp->Prop)(us:Ξ)(s':Shared):Prop:=∃vs H',Inv X pins σ H' s'/\Vals vs us/\Q vs H'
noncomputable def SP(X:Cx)(pins:Ω)(D:Ends)(f:Flow)(s':Shared):Prop :=
 match f with
 |.next=>∃σ' H',Inv X pins σ' H' s'/\D.nx σ' H'
 |.brk=>∃σ' H',Inv X pins σ' H' s'/\D.bk σ' H'
 |.cont=>∃σ' H',Inv X pins σ' H' s'/\D.ct σ' H'
 |.ret u=>∃v σ' H',Inv X pins σ' H' s'/\RelV v u/\D.rt v H'
noncomputable def PE(X:Cx)(e:Expr)(t:TE):Prop :=
 ∀(pins:Ω)(s:Shared)(σ:St)(H:Hp)(Q:VK),Inv X pins σ H s->t σ H Q->wpAny (model X.prog X.w) X.A (eval e X.env) (EP X pins σ Q) X.xe s
noncomputable def PT(X:Cx)(e:Expr)(t:TT):Prop :=
 ∀(pins:Ω)(s:Shared)(σ:St)(H:Hp)(Q:Bool->Hp->Prop),Inv X pins σ H s->t σ H Q->wpAny (model X.prog X.w) X.A (isTrue e X.env (eval e X.env)) (TP X pins σ Q) X.xe s
noncomputable def PW(X:Cx)(e:Expr)(t:TT):Prop :=
 ∀(whole:Sem Value)(pins:Ω)(s:Shared)(σ:St)(H:Hp)(Q:Bool->Hp->Prop),Inv X pins σ H s->t σ H Q->wpAny (model X.prog X.w) X.A (isTrue e X.env whole) (TP X pins σ Q) X.xe s
theorem PW.pt{X:Cx}{e:Expr}{t:TT}(h:PW X e t):PT X e t:=h _
noncomputable def PA(X:Cx)(es:List Expr)(t:TA):Prop :=
 ∀(pos:Pos)(pins:Ω)(s:Shared)(σ:St)(H:Hp)(Q:Μ->Hp->Prop),Inv X pins σ H s->t σ H Q->wpAny (model X.prog X.w) X.A (spliced (backTo pos (starEach es X.env))) (AP X pins σ Q) X.xe s
noncomputable def PS(X:Cx)(st:Stmt)(t:TS):Prop :=
 ∀(pins:Ω)(s:Shared)(σ:St)(H:Hp)(D:Ends),Inv X pins σ H s->t D σ H->wpAny (model X.prog X.w) X.A (exec st X.env) (SP X pins D) X.xe s
noncomputable def PSs(X:Cx)(st:List Stmt)(t:TS):Prop :=
 ∀(pins:Ω)(s:Shared)(σ:St)(H:Hp)(D:Ends),Inv X pins σ H s->t D σ H->wpAny (model X.prog X.w) X.A (execs st X.env) (SP X pins D) X.xe s
theorem thn{α:Type}{t:Sem α}{Q Q':α->Shared->Prop}{M:Model}{A:Around}{E:Κ}{s:Shared}(h:wpAny M A t Q E s)(hQ:∀a s,Q a s->Q' a s):wpAny M A t Q' E s:=wpAny_mono h hQ λ_ _ x=>x
section
variable{X:Cx}
noncomputable def Qf(i:Nat):TE:=λσ H Q=>∃v,σ[i]?=some (some v)/\Q v H
noncomputable def tC(v:V):TE:=λ_ H Q=>Q v H
theorem Y7{i:Nat}{x:Str}{pos:Pos}(hN:X.N[i]?=some x)(hv:Vis X.env.scope x)(hd:(x==("__debug__" : Str))=false:=by decide)(hcd:(x==("__classdict__" : Str))=false:=by decide):PE X (.Name x pos) (Qf i):=by
 intro pins s σ H Q I h;obtain⟨v,e,h⟩:=h;obtain⟨m,hn,hl⟩:=I.loc;obtain⟨u,r,l⟩:=hl i x v hN e hv;have fin:EP X pins σ Q u s:=⟨v,H,I,r,h⟩;rcases l with⟨hk,hm⟩|⟨hk,c,hc,hcell⟩
 .exact wpAny_Name (wpAny_loadName_local I.ok.kind hk hn hm fin) hd
 .rcases hk with hk|hk
  .exact wpAny_Name (wpAny_loadName_cell I.ok.kind hk hc hcell fin) hd
  .exact wpAny_Name (wpAny_loadName_free I.ok.kind hk hc hcell fin hcd) hd
theorem bI{i j pos} : PE X (.Constant (.int i) j pos) (tC (.int i)):=λ_ _ _ H _ I h=>wpAny_Constant_int ⟨.int i,H,I.tok _,⟨_,rfl⟩,h⟩
theorem v8{b j pos} : PE X (.Constant (.bool b) j pos) (tC (.bl b)):=λ_ _ _ H _ I h=>Constant_bool ⟨.bl b,H,I,rfl,h⟩
theorem nY{j pos} : PE X (.Constant .none j pos) (tC .non):=λ_ _ _ H _ I h=>Constant_none ⟨.non,H,I,rfl,h⟩
theorem pA{x j pos} : PE X (.Constant (.str x) j pos) (tC (.str x)):=λ_ _ _ H _ I h=>Calls.Constant_str ⟨.str x,H,I.tok _,⟨_,rfl⟩,h⟩
noncomputable def Gl(X:Cx)(x:Str):Prop:=X.env.kindOf x=some .globalImplicit
theorem qH{E:Κ}{pins:Ω}{s:Shared}{σ:St}{H:Hp}{x:Str}{u:Value}{pos:Pos}{Q:Κ}(I:Inv X pins σ H s)(hg:Gl X x)(hm:X.mg x=some u)(h:Q u s)
 (hd:(x==("__debug__" : Str))=false:=by decide):wpAny (model X.prog X.w) X.A (eval (.Name x pos) X.env) Q E s :=
 Calls.Name_function_global I.ok.kind hg (Calls.loadGlobal_global (by rw[I.ok.glob];exact I.mod.glob.keeps I.bk) hm h) hd
theorem uG{E:Κ}{pins:Ω}{s:Shared}{σ:St}{H:Hp}{x:Str}{u:Value}{pos:Pos}{Q:Κ}(I:Inv X pins σ H s)(hg:Gl X x)(hm:X.mg x=none)(hv:bootBuiltins x=some u)(h:Q u s)
 (hn:x ≠ "__name__" := by decide)(hd:(x==("__debug__" : Str))=false:=by decide):wpAny (model X.prog X.w) X.A (eval (.Name x pos) X.env) Q E s:=by
 obtain⟨mb,h1,h2⟩:=I.mod.blt;exact Calls.Name_function_global I.ok.kind hg (Calls.loadGlobal_builtin (by rw[I.ok.glob];exact I.mod.glob.keeps I.bk) hm (by rw[I.ok.blt];exact h1.keeps I.bk) ((h2 x hn).trans hv) h) hd
theorem N7{x:Str}{v:V}{u:Value}{pos:Pos}(hg:Gl X x)(hm:X.mg x=some u)(r:RelV v u)(hd:(x==("__debug__" : Str))=false:=by decide):PE X (.Name x pos) (tC v) :=
 λ_ _ _ H _ I h=>qH I hg hm ⟨v,H,I,r,h⟩ hd
theorem lD{x:Str}{v:V}{u:Value}{pos:Pos}(hg:Gl X x)(hm:X.mg x=none)(hv:bootBuiltins x=some u)(r:RelV v u)(hn:x ≠ "__name__" := by decide)(hd:(x==("__debug__" : Str))=false:=by decide):PE X (.Name x pos) (tC v) :=
 λ_ _ _ H _ I h=>uG I hg hm hv ⟨v,H,I,r,h⟩ hn hd
variable{a b:Expr}{ta tb:TE}{pos:Pos}
noncomputable def PC(X:Cx)(op:CmpOp)(a b:Expr)(t:TE):Prop :=
 ∀(pins:Ω)(s:Shared)(σ:St)(H:Hp)(Q:VK),Inv X pins σ H s->t σ H Q ->
  wpAny (model X.prog X.w) X.A (eval a X.env) (λv s₁=>wpAny (model X.prog X.w) X.A (eval b X.env) (λu s₂=>wpAny (model X.prog X.w) X.A (compareOp op v u) (EP X pins σ Q) X.xe s₂) X.xe s₁) X.xe s
noncomputable def tB(t:TE):TT:=λσ H Q=>t σ H λx H1=>∃c,x=.bl c/\Q c H1
theorem KZ{op:CmpOp}{t:TE}(h:PC X op a b t)(h1:behindInMarks op b=false:=by rfl):PT X (.Compare a [op] [b] pos) (tB t):=by
 intro pins s σ H Q I hw;refine wpAny_isTrue_Compare1 (thn (h pins s σ H _ I hw) λv s1 h1=>thn h1 λu s2 h2=>thn h2 λc s3 hP=>?_) h1;obtain⟨x,H1,I1,r1,q1⟩:=hP;obtain⟨d,rfl,q⟩:=q1;cases r1;exact wpAny_truthy_bool ⟨H1,I1,q⟩
variable{tA tB':TT}{rest:List Expr}
noncomputable def YL(t u:TT):TT:=λσ H Q=>t σ H λc H1=>if c=true then u σ H1 Q else Q false H1
noncomputable def tOr(t u:TT):TT:=λσ H Q=>t σ H λc H1=>if c=true then Q true H1 else u σ H1 Q
noncomputable def Yd(t:TT):TT:=λσ H Q=>t σ H λc H1=>Q (!c) H1
theorem pw_or1(ha:PT X a tA):PW X (.BoolOp .Or [a] pos) tA:=by
 intro wh pins s σ H Q I h;refine isTrue_or (thn (ha pins s σ H Q I h) λc s1 e=>?_);cases c with
 |false=>exact isTrue_or_nil e
 |true=>exact e
theorem pw_or(ha:PT X a tA)(hb:PW X (.BoolOp .Or (b::rest) pos) tB'):PW X (.BoolOp .Or (a::b::rest) pos) (tOr tA tB'):=by
 intro wh pins s σ H Q I h;refine isTrue_or (thn (ha pins s σ H _ I h) λc s1 hP=>?_);obtain⟨H1,I1,q1⟩:=hP;cases c with
 |true=>exact⟨H1,I1,q1⟩
 |false=>exact hb wh pins s1 σ H1 Q I1 q1
theorem dJ(ha:PT X a tA):PT X (.UnaryOp .Not a pos) (Yd tA):=by
 intro pins s σ H Q I h;exact isTrue_not (ha pins s σ H (λc H1=>Q (!c) H1) I h)
noncomputable def OJ(ta tb:TE):TE:=λσ H Q=>ta σ H λx H1=>∃c,x=.bl c/\if c=true then tb σ H1 Q else Q (.bl false) H1
noncomputable def ZJ(ta tb:TE):TE:=λσ H Q=>ta σ H λx H1=>∃c,x=.bl c/\if c=true then Q (.bl true) H1 else tb σ H1 Q
noncomputable def Nz(ta:TE):TE:=λσ H Q=>ta σ H λx H1=>∃c,x=.bl c/\Q (.bl (!c)) H1
theorem Bf{op}{t:TE}(h:PE X a t):PE X (.BoolOp op [a] pos) t:=λpins s σ H Q I hw=>BoolOp_one (h pins s σ H Q I hw)
theorem Aa(ha:PE X a ta)(hb:PE X (.BoolOp .And (b::rest) pos) tb):PE X (.BoolOp .And (a::b::rest) pos) (OJ ta tb):=by
 intro pins s σ H Q I h;refine BoolOp_and (thn (ha pins s σ H _ I h) λv s1 hP=>?_);obtain⟨x,H1,I1,r1,q1⟩:=hP;obtain⟨c,rfl,q1⟩:=q1;cases r1;refine wpAny_truthy_bool ?_;cases c with
 |true=>exact hb pins s1 σ H1 Q I1 q1
 |false=>exact⟨.bl false,H1,I1,rfl,q1⟩
theorem Uo(ha:PE X a ta):PE X (.UnaryOp .Not a pos) (Nz ta):=by
 intro pins s σ H Q I h;refine UnaryOp_ (thn (ha pins s σ H _ I h) λv s1 hP=>?_);obtain⟨x,H1,I1,r1,q1⟩:=hP;obtain⟨c,rfl,q1⟩:=q1;cases r1;exact not_of (wpAny_truthy_bool ⟨.bl (!c),H1,I1,rfl,q1⟩)
noncomputable def tIf(t:TT)(ta tb:TE):TE:=λσ H Q=>t σ H λc H1=>if c=true then ta σ H1 Q else tb σ H1 Q
theorem wM{c:Expr}(hc:PT X c tA)(ha:PE X a ta)(hb:PE X b tb):PE X (.IfExp c a b pos) (tIf tA ta tb):=by
 intro pins s σ H Q I h;refine wpAny_IfExp (thn (hc pins s σ H _ I h) λd s1 hP=>?_);obtain⟨H1,I1,q1⟩:=hP;cases d with
 |true=>exact ha pins s1 σ H1 Q I1 q1
 |false=>exact hb pins s1 σ H1 Q I1 q1
end
noncomputable def SqL(K:Frag)(H:Hp)(a:Addr)(xs:Μ):Prop :=
 Rd H a (.lst xs) \/
  ∃(o:Obj)(its:Array Value)(n:Nat),K.lookup a=some o/\o.cls=.type "list" /\ o.dict=none/\o.data=.seq its n/\its.size<=sizeLine/\Vals xs its.toList
noncomputable def SqT(K:Frag)(H:Hp)(a:Addr)(xs:Μ):Prop :=
 Rd H a (.tup xs) \/
  ∃(o:Obj)(its:Array Value)(n:Nat),K.lookup a=some o/\o.cls=.type "tuple" /\ o.data=.seq its n/\its.size<=sizeLine/\Vals xs its.toList
noncomputable def adq:Value->Option V
 |.none=>some .non
 |.bool b=>some (.bl b)
 |.int i _=>some (.int i)
 |.str x _=>some (.str x)
 |.bytes b _=>some (.byt b)
 |.float b _=>some (.flt b)
 |.ref a=>some (.ref a)
 |.type n=>some (.ty n)
 |_=>none
theorem RelV.abs{x:V}{u:Value}(r:RelV x u):adq u=some x:=by
 cases x with
 |non=>cases r;rfl
 |bl _=>cases r;rfl
 |int _=>obtain⟨t,rfl⟩:=r;rfl
 |str _=>obtain⟨t,rfl⟩:=r;rfl
 |byt _=>obtain⟨t,rfl⟩:=r;rfl
 |flt _=>obtain⟨t,rfl⟩:=r;rfl
 |ref _=>cases r;rfl
 |ty _=>cases r;rfl
theorem RelV.inj{x y:V}{u:Value}(r:RelV x u)(q:RelV y u):x=y:=Option.some.inj (r.abs.symm.trans q.abs)
theorem Vals.inj:∀{xs ys:Μ}{us:Ξ},Vals xs us->Vals ys us->xs=ys
 |_,_,_,.nil,.nil=>rfl
 |_,_,_,.cons r t,.cons r' t'=>by rw[r.inj r',Vals.inj t t']
section
variable{X:Cx}{pins:Ω}{σ:St}{H:Hp}{s:Shared}{a:Addr}{xs ys:Μ}
theorem SqL.of{K:Frag}(h:H a=some (.lst xs)):SqL K H a xs:=.inl (.inl h)
theorem SqT.of{K:Frag}(h:H a=some (.tup xs)):SqT K H a xs:=.inl (.inl h)
theorem Inv.list(I:Inv X pins σ H s)(h:SqL X.K H a xs):∃its:Ξ,Vals xs its/\PlainL s.heap a its.toArray/\xs.length<=sizeLine:=by
 rcases h with h|⟨o,its,n,hk,hc,hd,hs,hz,r⟩
 .obtain⟨z,its,n,r,e⟩:=h.ok I.hok;exact⟨its,r,⟨_,n,e,rfl,rfl,rfl⟩,z⟩
 .refine⟨its.toList,r,⟨o,n,I.kIn a o hk,hc,hd,by simpa using hs⟩,?_⟩;have e:=r.length;simp only[Array.length_toList]at e;exact aM (Nat.le_of_eq e) hz
theorem Inv.tuple(I:Inv X pins σ H s)(h:SqT X.K H a xs):∃its:Ξ,Vals xs its/\IsTup s.heap a its.toArray/\xs.length<=sizeLine:=by
 rcases h with h|⟨o,its,n,hk,hc,hs,hz,r⟩
 .obtain⟨z,its,r,p⟩:=h.ok I.hok;exact⟨its,r,p,z⟩
 .refine⟨its.toList,r,⟨o,I.kIn a o hk,hc,n,by simpa using hs⟩,?_⟩;have e:=r.length;simp only[Array.length_toList]at e;exact aM (Nat.le_of_eq e) hz
theorem Inv.list_inj(I:Inv X pins σ H s)(h:SqL X.K H a xs)(h':SqL X.K H a ys):xs=ys:=by
 obtain⟨its,r,⟨o,n,e,_,_,d⟩,_⟩:=I.list h;obtain⟨its',r',⟨o',n',e',_,_,d'⟩,_⟩:=I.list h';rw[e]at e';cases e';rw[d]at d';injection d' with d1 _;have:its=its':=by simpa using ZH Array.toList d1
 subst this;exact r.inj r'
end
noncomputable abbrev Cx.wish(X:Cx)(E:Κ):Cx:={ X with xe:=E }
noncomputable abbrev Cx.nox(X:Cx):Cx:=X.wish λ_ _=>False
theorem Cx.Ok.wish{X:Cx}(ok:X.Ok)(E:Κ):(X.wish E).Ok :=
 ⟨ok.mod,ok.kind,ok.glob,ok.blt,ok.above,ok.inj,ok.has,ok.cab,ok.hd,ok.frames,ok.stk,ok.exf,ok.bs,ok.bsz,ok.noex,ok.exfs,ok.funs,ok.frf⟩
theorem Cx.Ok.unwish{X:Cx}{E:Κ}(ok:(X.wish E).Ok):X.Ok :=
 ⟨ok.mod,ok.kind,ok.glob,ok.blt,ok.above,ok.inj,ok.has,ok.cab,ok.hd,ok.frames,ok.stk,ok.exf,ok.bs,ok.bsz,ok.noex,ok.exfs,ok.funs,ok.frf⟩
section
variable{X:Cx}{pins:Ω}{σ:St}{H:Hp}{s:Shared}{E:Κ}
theorem Inv.wish(I:Inv X pins σ H s)(E:Κ):Inv (X.wish E) pins σ H s:=⟨I.ok.wish E,I.os,I.bare,I.base,I.loc,I.cell,I.free,I.freeC,I.pin,I.hok,I.len⟩
theorem Inv.unwish(I:Inv (X.wish E) pins σ H s):Inv X pins σ H s:=⟨I.ok.unwish,I.os,I.bare,I.base,I.loc,I.cell,I.free,I.freeC,I.pin,I.hok,I.len⟩
theorem SP.unwish{D:Ends}{f:Flow}{s':Shared}(h:SP (X.wish E) pins D f s'):SP X pins D f s':=by
 cases f with
 |next=>obtain⟨σ',H',I,q⟩:=h;exact⟨σ',H',I.unwish,q⟩
 |brk=>obtain⟨σ',H',I,q⟩:=h;exact⟨σ',H',I.unwish,q⟩
 |cont=>obtain⟨σ',H',I,q⟩:=h;exact⟨σ',H',I.unwish,q⟩
 |ret u=>obtain⟨v,σ',H',I,r,q⟩:=h;exact⟨v,σ',H',I.unwish,r,q⟩
theorem PSs.nox{st:List Stmt}{t:TS}(h:PSs X.nox st t):PSs X st t:=λpins s σ H D I hw =>
 wpAny_mono (h pins s σ H D (I.wish _) hw) (λ_ _ q=>q.unwish) λ_ _ z=>False.elim z
end
section
variable{X:Cx}{st:Stmt}{rest:List Stmt}{t u:TS}{e:Expr}{te:TE}{pos:Pos}
noncomputable def MJ:TS:=λD σ H=>D.nx σ H
noncomputable def uL(t u:TS):TS:=λD σ H=>t { D with nx:=u D } σ H
theorem cN:PSs X [] MJ:=λ_ _ σ H _ I h=>wpAny_execs_nil ⟨σ,H,I,h⟩
theorem bK(h1:PS X st t)(h2:PSs X rest u):PSs X (st::rest) (uL t u):=by
 intro pins s σ H D I h;refine wpAny_execs_cons (thn (h1 pins s σ H { D with nx:=u D } I h) λf s1 q=>?_);cases f with
 |next =>
  obtain⟨σ',H',I',q⟩:=q;exact h2 pins s1 σ' H' D I' q
 |ret v=>exact q
 |brk=>exact q
 |cont=>exact q
theorem bN(h1:PS X st t):PSs X [st] t:=by
 intro pins s σ H D I h;refine wpAny_execs_cons (thn (h1 pins s σ H D I h) λf s1 q=>?_);cases f with
 |next=>exact wpAny_execs_nil q
 |ret v=>exact q
 |brk=>exact q
 |cont=>exact q
noncomputable def Z_:TS:=λD σ H=>D.bk σ H
theorem Vy:PS X (.Break pos) Z_:=λ_ _ σ H _ I h=>wpAny_Break ⟨σ,H,I,h⟩
theorem Inv.quiet{pins:Ω}{σ:St}{H:Hp}{s:Shared}(I:Inv X pins σ H s):interactive X.env=false:=by simp[interactive,I.ok.kind]
noncomputable def Nr(te:TE):TS:=λD σ H=>te σ H λ_ H1=>D.nx σ H1
theorem cY(he:PE X e te)(hs:swapsWith e none pos.line X.env=pure false:=by rfl):PS X (.Expr e pos) (Nr te):=by
 intro pins s σ H D I h;exact wpAny_Expr_any (thn (he pins s σ H _ I h) λv s1 hP=>by obtain⟨x,H1,I1,r1,q1⟩:=hP;exact⟨σ,H1,I1,q1⟩) I.quiet hs
noncomputable def Ur(te:TE):TS:=λD σ H=>te σ H D.rt
theorem cD(he:PE X e te):PS X (.Return (some e) pos) (Ur te):=by
 intro pins s σ H D I h;exact wpAny_Return_some (thn (he pins s σ H _ I h) λv s1 hP=>by obtain⟨x,H1,I1,r1,q1⟩:=hP;exact⟨x,σ,H1,I1,r1,q1⟩)
noncomputable def Va:TS:=λD _ H=>D.rt .non H
noncomputable def Vi(c:TT)(t u:TS):TS:=λD σ H=>c σ H λb H1=>if b=true then t D σ H1 else u D σ H1
theorem eF{c:Expr}{a b:List Stmt}{tc:TT}(hc:PT X c tc)(ha:PSs X a t)(hb:PSs X b u):PS X (.If c a b pos) (Vi tc t u):=by
 intro pins s σ H D I h;refine wpAny_If (thn (hc pins s σ H _ I h) λd s1 hP=>?_);obtain⟨H1,I1,q1⟩:=hP;cases d with
 |true=>exact ha pins s1 σ H1 D I1 q1
 |false=>exact hb pins s1 σ H1 D I1 q1
noncomputable def Y6:TS:=λ_ _ _=>False
theorem jE:PS X st Y6:=λ_ _ _ _ _ _ h=>h.elim
end
noncomputable abbrev TG:=V->St->Hp->(St->Hp->Prop)->Prop
noncomputable abbrev TGs:=Μ->St->Hp->(St->Hp->Prop)->Prop
noncomputable def PG(X:Cx)(target:Expr)(t:TG):Prop :=
 ∀(pins:Ω)(s:Shared)(σ:St)(H:Hp)(v:V)(u:Value)(Q:St->Hp->Prop),Inv X pins σ H s->RelV v u->t v σ H Q ->
  wpAny (model X.prog X.w) X.A (assign target X.env u) (λ_ s'=>∃σ' H',Inv X pins σ' H' s'/\Q σ' H') X.xe s
noncomputable def PGs(X:Cx)(ts:List Expr)(t:TGs):Prop :=
 ∀(pins:Ω)(s:Shared)(σ:St)(H:Hp)(vs:Μ)(us:Ξ)(Q:St->Hp->Prop),Inv X pins σ H s->Vals vs us->t vs σ H Q ->
  wpAny (model X.prog X.w) X.A (assignInOrder ((assignEach ts X.env).map (·.2)) us) (λ_ s'=>∃σ' H',Inv X pins σ' H' s'/\Q σ' H') X.xe s
noncomputable abbrev adv:=V->V->V->Hp->(Hp->Prop)->Prop
section
variable{X:Cx}{pos:Pos}
noncomputable def cB(i:Nat):TG:=λv σ H Q=>Q (σ.set i (some v)) H
theorem cH{i:Nat}{x:Str}(hN:X.N.Nodup)(hi:X.N[i]?=some x)(hx:Loc X.env.scope x)(hf:X.fn x=true\/X.env.scope.names.lookup x=some .local:=by first|exact .inl rfl|exact .inr rfl|assumption):PG X (.Name x pos) (cB i):=by
 intro pins s σ H v u Q I r h;exact wpAny_assign_Name (wW I hN hi hx r (λs' I'=>⟨_,H,I',h⟩) hf)
noncomputable def Wr:TGs:=λvs σ H Q=>vs=[]/\Q σ H
noncomputable def Pb(t:TG)(u:TGs):TGs:=λvs σ H Q=>∃v r,vs=v::r/\t v σ H λσ' H'=>u r σ' H' Q
theorem fK:PGs X [] Wr:=by
 intro pins s σ H vs us Q I r h;obtain⟨e,h⟩:=h;subst e;cases r;exact assignInOrder_nil ⟨σ,H,I,h⟩
theorem cG{e:Expr}{es:List Expr}{t:TG}{u:TGs}(h1:PG X e t)(h2:PGs X es u)
 (hs:(assignEach (e::es) X.env).map (·.2)=assign e X.env::(assignEach es X.env).map (·.2):=by rfl):PGs X (e::es) (Pb t u):=by
 intro pins s σ H vs us Q I r h;obtain⟨v,vr,e1,h⟩:=h;subst e1;cases r with
 |cons r rr =>
  rw[hs];refine assignInOrder_cons (thn (h1 pins s σ H _ _ _ I r h) λ_ s1 hP=>?_);obtain⟨σ1,H1,I1,q1⟩:=hP;exact h2 pins s1 σ1 H1 _ _ Q I1 rr q1
noncomputable def Wj(K:Frag)(n:Nat)(t:TGs):TG:=λv σ H Q=>∃a xs,v=.ref a/\SqT K H a xs/\xs.length=n/\t xs σ H Q
theorem ZX{es:List Expr}{k:Nat}{t:TGs}{n:Nat}(hc:X.calm=true)(h:PGs X es t)
 (hn:(assignEach es X.env).length=n:=by rfl)(hst:(assignEach es X.env).findIdx? (·.1)=none:=by rfl):PG X (.Tuple es k pos) (Wj X.K n t):=by
 intro pins s σ H v u Q I r hw;obtain⟨a,xs,e1,hq,hl,hw⟩:=hw;subst e1;cases r;obtain⟨its,rv,ht,hz⟩:=I.tuple hq;refine assign_Tuple_tuple (I.ok.hd hc) ht (by simp[hn,<- hl,rv.length]) hst λh' hx=>?_;have I1:Inv X pins σ H { s with heap:=h' }:=I.kept (t':=s.toks) λb o e=>hx b o (aR (aJ e)) e;exact h pins _ σ H xs _ Q I1 (by simpa using rv) hw
noncomputable def ZS(to ti:TE)(t:adv):TG:=λv σ H Q=>to σ H λo H1=>ti σ H1 λi H2=>t o i v H2 λH3=>Q σ H3
noncomputable def Eh(te:TE)(g:TG):TS:=λD σ H=>te σ H λx H1=>g x σ H1 D.nx
theorem KD{tg e:Expr}{te:TE}{g:TG}(he:PE X e te)(hg:PG X tg g)(hs:swapsWithSole [tg] e pos.line X.env=pure false:=by rfl)(hw:swappedStores [tg] e X.env=pure none:=by rfl)
 (h1:(assignEach [tg] X.env).map (·.2)=[assign tg X.env]:=by rfl):PS X (.Assign [tg] e pos) (Eh te g):=by
 intro pins s σ H D I h;refine wpAny_Assign_stores (thn (he pins s σ H _ I h) λv s1 hP=>?_) hs hw;obtain⟨x,H1,I1,r1,q1⟩:=hP;rw[h1];exact thn (hg pins s1 σ H1 x v _ I1 r1 q1) λ_ s2 q=>q
theorem bZ{i:Nat}{x:Str}{e:Expr}{te:TE}{pos':Pos}(hN:X.N.Nodup)(hi:X.N[i]?=some x)(hx:Loc X.env.scope x)(he:PE X e te)(hs:swapsWith e (some (.Name x pos')) pos.line X.env=pure false:=by rfl)(hf:X.fn x=true\/X.env.scope.names.lookup x=some .local:=by first|exact .inl rfl|exact .inr rfl|assumption) :
  PS X (.Assign [.Name x pos'] e pos) (Eh te (cB i)):=by
 intro pins s σ H D I h;refine wpAny_Assign_Name (thn (he pins s σ H _ I h) λv s1 hP=>?_) hs;obtain⟨y,H1,I1,r1,q1⟩:=hP;exact wW I1 hN hi hx r1 (λs2 I2=>⟨_,H1,I2,q1⟩) hf
noncomputable def Wa(i j:Nat)(ta:TA):TS:=λD σ H=>ta σ H λvs H1=>∃v w,vs=[v,w]/\D.nx ((σ.set i (some v)).set j (some w)) H1
theorem Zg{i j:Nat}{x y:Str}{a b:Expr}{ta:TA}{px py pt:Pos}{kt k2 pt2}(hc:X.calm=true)(hN:X.N.Nodup)(hi:X.N[i]?=some x)(hj:X.N[j]?=some y)(hij:i≠j)
 (hx:X.env.scope.names.lookup x=some .local)(hy:X.env.scope.names.lookup y=some .local)(ha:PA X [a,b] ta)
 (hw:swappedStores [.Tuple [.Name x px,.Name y py] kt pt] (.Tuple [a,b] k2 pt2) X.env=pure (some [x,y]))
 (hs:swapsWithSole [.Tuple [.Name x px,.Name y py] kt pt] (.Tuple [a,b] k2 pt2) pos.line X.env=pure false:=by rfl) :
  PS X (.Assign [.Tuple [.Name x px,.Name y py] kt pt] (.Tuple [a,b] k2 pt2) pos) (Wa i j ta):=by
 intro pins s σ H D I h;rw[exec_Assign_arm];refine ZU (wpAny_standAt ?_);rw[hs];refine ZU (ZT ?_);rw[ZZ (by decide)];refine ZU (Tuple_ (thn (ha _ pins s σ H _ I h) λus s1 hP=>?_));obtain⟨vs,H1,I1,r1,q1⟩:=hP;obtain⟨v,w,e1,q1⟩:=q1;subst e1;obtain⟨u1,u2,rfl,rv,rw'⟩ : ∃u1 u2,us=[u1,u2]/\RelV v u1/\RelV w u2:=by
  cases r1 with
  |cons p q =>
   cases q with
   |cons p' q' =>
    cases q';exact⟨_,_,rfl,p,p'⟩
 refine wpAny_newObj_type ?_ (by show 2<=sizeLine;decide);have I2:Inv X pins σ H1 { s1 with heap:=s1.heap.push { cls:=.type "tuple",data:=.seq [u1,u2].toArray } }:=I1.kept (t':=s1.toks) λb o e=>aG _ e;rw[hw];refine ZU (ZT ?_);show wpAny (model X.prog X.w) X.A (do rule "assign.swapped-stores"; let items <- unpackItems (.ref s1.heap.objs.size) 2 none;assignInOrder [λv=>bindName X.env y v,λv=>bindName X.env x v] items.reverse;pure Flow.next) _ _ _;refine ZU (wpAny_rule (ZU (unpackItems_tuple (items:=#[u1,u2]) (I.ok.hd hc) (IsTup.new s1.heap _) λh' hx'=>?_)));have I3:=I2.kept (h':=h') (t':=s1.toks) λb o e=>hx' b o (aR (aJ e)) e;show wpAny _ _ (assignInOrder [λv=>bindName X.env y v,λv=>bindName X.env x v] [u2,u1] >>= λ_=>pure Flow.next) _ _ _;refine ZU (assignInOrder_cons (wpAny_bindName (wW I3 hN hj (.inl hy) rw' (λs2 I4=>?_) (.inr hy))));refine assignInOrder_cons (wpAny_bindName (wW I4 hN hi (.inl hx) rv (λs3 I5=>assignInOrder_nil (ZT ?_)) (.inr hx)));rw[List.set_comm _ _ (Ne.symm hij)]at I5;exact⟨_,H1,I5,q1⟩
end
section
variable{X:Cx}{pos:Pos}
noncomputable def Td(c:TT)(tb:TS):TS:=λD σ H=>∃W:Nat->St->Hp->Prop,(∃m,W m σ H)/\∀m σ H,W m σ H ->
 c σ H λb H1=>if b=true then ∃N:St->Hp->Prop,(∀σ' H',N σ' H'->∃m',m'<m/\W m' σ' H')/\tb { D with nx:=N,ct:=N,bk:=D.nx } σ H1 else D.nx σ H1
theorem zX{c:Expr}{body:List Stmt}{tc:TT}{tb:TS}(hp:PassesOwn (model X.prog X.w) X.A X.env X.xe)(hc:PT X c tc)(hb:PSs X body tb):PS X (.While c body [] pos) (Td tc tb):=by
 intro pins s σ H D I h;obtain⟨W,⟨m0,w0⟩,turn⟩:=h;refine wpAny_While (codeAny_whileLoop (λn s'=>∃σ' H',Inv X pins σ' H' s'/\W n σ' H') ?_ m0 ⟨σ,H,I,w0⟩);rintro n s1 ⟨σ1,H1,I1,w1⟩;refine wpAny_passesOwn hp (thn (hc pins s1 σ1 H1 _ I1 (turn n σ1 H1 w1)) λb s2 hP=>?_);obtain⟨H2,I2,q2⟩:=hP;cases b with
 |true =>
  obtain⟨N,hN,q2⟩:=q2;rw[ZY rfl];refine wpAny_passesOwn hp (thn (hb pins s2 σ1 H2 _ I2 q2) λf s3 q3=>?_);cases f with
  |next =>
   obtain⟨σ3,H3,I3,n3⟩:=q3;obtain⟨m',hm,w3⟩:=hN σ3 H3 n3;exact⟨m',hm,σ3,H3,I3,w3⟩
  |cont =>
   obtain⟨σ3,H3,I3,n3⟩:=q3;obtain⟨m',hm,w3⟩:=hN σ3 H3 n3;exact⟨m',hm,σ3,H3,I3,w3⟩
  |brk=>exact q3
  |ret v=>exact q3
 |false =>
  rw[ZZ bC];exact wpAny_execs_nil ⟨σ1,H2,I2,q2⟩
end
structure It where
 go:Nat->Hp->Prop
 yld:Nat->Hp->V->Hp->Prop
 stop:Nat->Hp->Prop
noncomputable def yZ(X:Cx)(pins:Ω)(H:Hp)(b:Addr):Prop :=
 H b=none/\b≠X.env.locals/\b∉X.fs/\(b∈X.ex\/X.s₀.heap.objs.size<=b)/\(∀x c,X.env.cells.lookup x=some c->c≠b)/\∀p∈X.pn++pins,p.1≠b
theorem Inv.fpOk{X:Cx}{pins:Ω}{σ:St}{H H':Hp}{s:Shared}{b:Addr}(I:Inv X pins σ H s)(hb:s.heap.objs.size<=b)(hn:H' b=none):yZ X pins H' b:=by
 refine⟨hn,Nat.ne_of_gt (aU I.lt hb),I.nofs hb,.inr (aM I.sz hb),λx c e z=>?_,λp hp z=>?_⟩
 .obtain⟨v,q⟩:=I.cell x c e;exact absurd (aU q.lt (by rw[z];exact hb)) (X9 _)
 .exact absurd (aU (aJ (I.pin p hp).1) (by rw[z];exact hb)) (X9 _)
structure Turn(P:Program)(w:World)(K:Frag)(tg:Expr)(J:It)(fp:Ε)(it:Addr)(tn:Nat->Heap->Prop):Prop where
 mem:it∈fp
 obj:∀i h,tn i h->∀b∈fp,∃o,h.get? b=some o/\∀v,o.data≠.cell v
 keep:∀i h h',tn i h->(∀b∈fp,∀o,h.get? b=some o->h'.get? b=some o)->tn i h'
 item:∀(X:Cx),X.prog=P->X.w=w->X.K=K->X.calm=true->∀(i:Nat)(pins:Ω)(s:Shared)(σ:St)(H:Hp)(E:Κ),Inv X pins σ H s->(∀b∈fp,yZ X pins H b)->tn i s.heap->J.go i H ->
  wpAny (model P w) X.A (pyNext (.ref it)) (λr s1=>∃u,r=some u /\
   wpAny (model P w) X.A (letOwnedTupleGo tg (.ref it) u) (λ_ s2=>∃x H',Inv X pins σ H' s2/\RelV x u/\J.yld i H x H'/\tn (i+1) s2.heap/\∀b∈fp,H' b=none) E s1) E s
 done:∀(X:Cx),X.prog=P->X.w=w->X.K=K->X.calm=true->∀(i:Nat)(pins:Ω)(s:Shared)(σ:St)(H:Hp)(E:Κ),Inv X pins σ H s->(∀b∈fp,yZ X pins H b)->tn i s.heap->J.stop i H ->
  wpAny (model P w) X.A (pyNext (.ref it)) (λr s1=>r=none/\Inv X pins σ H s1) E s
 self:∀(A:Around)(i:Nat)(s:Shared)(Q:Κ)(E:Κ),tn i s.heap->Q (.ref it) s->wpAny (model P w) A (pyIter (.ref it)) Q E s
noncomputable abbrev TI:=St->Hp->(It->Hp->Prop)->Prop
noncomputable def PIE(X:Cx)(pins:Ω)(σ:St)(tg:Expr)(R:It->Hp->Prop)(itv:Value)(s2:Shared):Prop :=
 ∃(it:Addr)(fp:Ε)(tn:Nat->Heap->Prop)(J:It)(H':Hp),itv=.ref it/\Inv X pins σ H' s2/\Turn X.prog X.w X.K tg J fp it tn/\tn 0 s2.heap/\(∀b∈fp,yZ X pins H' b)/\R J H'
noncomputable def PI(X:Cx)(tg iter:Expr)(wi:TI):Prop :=
 ∀(pins:Ω)(s:Shared)(σ:St)(H:Hp)(R:It->Hp->Prop),Inv X pins σ H s->wi σ H R ->
  wpAny (model X.prog X.w) X.A (eval iter X.env) (λv s1=>wpAny (model X.prog X.w) X.A (pyIter v) (PIE X pins σ tg R) X.xe s1) X.xe s
theorem Ju{M:Model}{A:Around}{E:Κ}{s:Shared}{tg:Expr}{it:Addr}{u:Value}{o:Obj}{n:String}{vs:Array Value}{Q:Unit->Shared->Prop}(ho:s.heap.get? it=some o)(hc:o.cls=.type n)(hd:o.data=.fields vs)
   (hn : ["enumerate", "zip", "dict_itemiterator", "dict_reverseitemiterator", "odict_iterator", "itertools.zip_longest", "itertools.pairwise"].contains n=false)(hQ:Q () s):wpAny M A (letOwnedTupleGo tg (.ref it) u) Q E s:=by
  unfold letOwnedTupleGo;cases tg<;>first
    |exact ZT hQ
    |(cases u<;>first
        |exact ZT hQ
        | (refine ZU (wpAny_load ho ?_)
           rw[hc,hd];show wpAny M A (if(["enumerate", "zip", "dict_itemiterator", "dict_reverseitemiterator", "odict_iterator", "itertools.zip_longest", "itertools.pairwise"].contains n&&vs[0]?==some (rawInt _))=true then _ else _) Q E s;rw[ZZ (by intro h;rw[hn,Bool.false_and]at h;cases h)];exact ZT hQ))
noncomputable def Itl(K:Frag)(a:Addr):It :=
 ⟨λi H=>∃xs x,SqL K H a xs/\xs[i]?=some x,λi H x H'=>H'=H/\∀xs,SqL K H a xs->xs[i]?=some x,λi H=>∃xs,SqL K H a xs/\xs.length<=i⟩
noncomputable def Itr(lo:Int)(n:Nat):It:=⟨λi _=>i<n,λi H x H'=>H'=H/\x=.int (lo+i),λi _=>n<=i⟩
theorem PB{P:Program}{w:World}{K:Frag}{tg:Expr}(a it:Addr):Turn P w K tg (Itl K a) [it] it (λi h=>h.IsListIter it a i) where
 mem:=by simp
 obj:=λi h st b hb=>by
  have e:b=it:=by simpa using hb
  subst e;obtain⟨o,e,c,d⟩:=st;exact⟨o,e,λv z=>by rw[d]at z;cases z⟩
 keep:=λi h h' st k=>st.at λo e=>k it (by simp) o e
 item:=by
  intro X hP hw hK hc i pins s σ H E I hf st hg;subst hP hw hK;obtain⟨xs,x,hq,hx⟩:=hg;obtain⟨its,rv,p,hz⟩:=I.list hq;obtain⟨u,hu,ru⟩:=rv.get hx;obtain⟨f0,f1,f2,f3,f4,f5⟩:=hf it (by simp);refine wpAny_pyNext_list_item st p.isList (x:=u) (by simpa using hu) λh' st' sb=>?_;have I1:Inv X pins σ H { s with heap:=h' }:=I.turned (t':=s.toks) (λb o hb e=>(sb.2 b hb).trans e) f0 f1 f3 f4 f5;obtain⟨o,e,c,d⟩:=id st';exact⟨u,rfl,Ju (s:={ s with heap:=h' }) e c d (by decide) ⟨x,H,I1,ru,⟨rfl,λys hy=>by rw[I.list_inj hy hq];exact hx⟩,st',λb hb=>(hf b hb).1⟩⟩
 done:=by
  intro X hP hw hK hc i pins s σ H E I hf st hg;subst hP hw hK;obtain⟨xs,hq,hx⟩:=hg;obtain⟨its,rv,p,hz⟩:=I.list hq;obtain⟨f0,f1,f2,f3,f4,f5⟩:=hf it (by simp);have hl:=rv.length;exact wpAny_pyNext_list_end (I.ok.hd hc) st p.isList (by simp;lia) λh' eb=>⟨rfl,I.turned (t':=s.toks) (λb o hb e=>eb b o hb e) f0 f1 f3 f4 f5⟩
 self:=λ_ _ _ _ _ st h=>wpAny_pyIter_listiter st h
theorem KR{P:Program}{w:World}{K:Frag}{tg:Expr}(it:Addr)(lo:Int)(n:Nat):Turn P w K tg (Itr lo n) [it] it (λi h=>IsRangeIter h it (lo+(i:Nat)*1) ((n:Int)-(i:Nat)) 1) where
 mem:=by simp
 obj:=λi h st b hb=>by
  have e:b=it:=by simpa using hb
  subst e;exact⟨_,st,λv z=>by
   have z':Data.fields _=Data.cell v:=z;cases z'⟩
 keep:=λi h h' st k=>k it (by simp) _ st
 item:=by
  intro X hP hw hK hc i pins s σ H E I hf st hg;subst hP hw hK;obtain⟨f0,f1,f2,f3,f4,f5⟩:=hf it (by simp);have W:=Walks.range (prog:=X.prog) (w:=X.w) (I.ok.hd hc) it lo 1 n;refine W.item i s _ _ hg st λv h' tk hv st' kk=>?_;obtain⟨t,rfl⟩:=hv;have I1:Inv X pins σ H { s with heap:=h',toks:=tk }:=I.turned (λb o hb e=>kk b o (by simpa using hb) e) f0 f1 f3 f4 f5;refine⟨_,rfl,Ju (s:={ s with heap:=h',toks:=tk }) (n := "range_iterator") st' rfl rfl (by decide) ⟨.int (lo+i),H,I1,⟨t,?_⟩,⟨rfl,rfl⟩,st',λb hb=>(hf b hb).1⟩⟩;rw[Int.mul_one]
 done:=by
  intro X hP hw hK hc i pins s σ H E I hf st hg;subst hP hw hK;obtain⟨f0,f1,f2,f3,f4,f5⟩:=hf it (by simp);exact wpAny_pyNext_range_end (I.ok.hd hc) st (by have:n<=i:=hg;lia) λh' eb=>⟨rfl,I.turned (t':=s.toks) (λb o hb e=>eb b o hb e) f0 f1 f3 f4 f5⟩
 self:=λ_ _ _ _ _ st h=>wpAny_pyIter_rangeiter st h
section
variable{X:Cx}{tg:Expr}
noncomputable def Fg(K:Frag)(tl:TE):TI:=λσ H R=>tl σ H λx H1=>∃a,x=.ref a/\(∃xs,SqL K H1 a xs)/\R (Itl K a) H1
theorem dD{l:Expr}{tl:TE}(hl:PE X l tl):PI X tg l (Fg X.K tl):=by
 intro pins s σ H R I h;refine thn (hl pins s σ H _ I h) λv s1 hP=>?_;obtain⟨x,H1,I1,r1,q1⟩:=hP;obtain⟨a,e,⟨xs,hq⟩,q⟩:=q1;subst e;cases r1;obtain⟨its,rv,p,hz⟩:=I1.list hq;refine wpAny_pyIter_list p.isList ?_;refine⟨s1.heap.objs.size,[s1.heap.objs.size],_,_,H1,rfl,I1.kept (t':=s1.toks) λb o e=>aG _ e,PB a _,⟨_,aY _ rfl,rfl,rfl⟩,λb hb=>?_,q⟩;have e:b=s1.heap.objs.size:=by simpa using hb
 subst e;exact I1.fpOk (aF _) (I1.hok.fresh (aF _))
theorem U6{pins:Ω}{σ:St}{H:Hp}{s:Shared}{R:It->Hp->Prop}{E:Κ}{lo hi:Int}{t u v:Tok}{tk:Nat}(I:Inv X pins σ H s)(h1 : -(2^62)<=lo)(h2:lo<2^62)(h3 : -(2^62)<=hi)(h4:hi<2^62)
 (q:R (Itr lo (hi-lo).toNat) H):wpAny (model X.prog X.w) X.A (pyIter (.ref s.heap.objs.size)) (PIE X pins σ tg R) E { s with heap:=s.heap.push { cls:=.type "range",data:=.fields #[.int lo t,.int hi u,.int 1 v] },toks:=tk }:=by
 refine wpAny_pyIter_range (IsRange.new ..) (small_one h1 h2 h3 h4) ?_;have I1:Inv X pins σ H { s with heap:=s.heap.push { cls:=.type "range",data:=.fields #[.int lo t,.int hi u,.int 1 v] },toks:=tk }:=I.kept λb o e=>aG _ e;refine⟨(s.heap.push { cls:=.type "range",data:=.fields #[.int lo t,.int hi u,.int 1 v] }).objs.size,[(s.heap.push { cls:=.type "range",data:=.fields #[.int lo t,.int hi u,.int 1 v] }).objs.size],_,_,H,rfl,
  I1.kept (t':=tk) λb o e=>aG _ e,KR _ lo (hi-lo).toNat,?_,λb hb=>?_,q⟩
 .have e1:lo+((0:Nat):Int)*1=lo:=by simp
  have e2:(((hi-lo).toNat:Nat):Int)-((0:Nat):Int)=Builtin.Range.rangeSize lo hi 1:=by rw[rangeSize_one];split<;>lia
  show IsRangeIter _ _ (lo+((0:Nat):Int)*1) ((((hi-lo).toNat:Nat):Int)-((0:Nat):Int)) 1;rw[e1,e2];exact aY _ rfl
 .have e:b=(s.heap.push { cls:=.type "range",data:=.fields #[.int lo t,.int hi u,.int 1 v] }).objs.size:=by simpa using hb
  subst e;exact I1.fpOk (aF _) (I1.hok.fresh (aF _))
noncomputable def N8(ta:TA):TI:=λσ H R=>ta σ H λvs H1=>∃j:Int,vs=[.int j]/\-(2^62)<=j/\j<2^62/\R (Itr 0 j.toNat) H1
theorem d9{a:Expr}{ta:TA}{p pos:Pos}(hg:Gl X "range")(hm:X.mg "range" = none)(ha:PA X [a] ta)(hs:starEach [a] X.env=[(false,eval a X.env)]:=by rfl):PI X tg (.Call (.Name "range" p) [a] [] pos) (N8 ta):=by
 intro pins s σ H R I h;refine Call_ (uG I hg hm boot_range (PyProof.Rows.callWith_type1 (thn (ha pos pins s σ H _ I h) λus s1 hP=>?_) hs rfl));obtain⟨vs,H1,I1,r1,q1⟩:=hP;obtain⟨j,e,q1,q2,q⟩:=q1;subst e;cases r1 with
 |cons r rr =>
  cases rr;obtain⟨t,rfl⟩:=r;exact call_range_1 (U6 I1 (XY (by decide)) (Int.lt_of_not_ge (by decide)) q1 q2 (by simpa using q))
noncomputable def Mf(wi:TI)(g:TG)(tb:TS):TS:=λD σ H=>wi σ H λJ H1=>∃W:Nat->Nat->St->Hp->Prop,(∃m,W 0 m σ H1)/\∀i m σ H,W i m σ H ->
 (J.stop i H/\D.nx σ H)\/(J.go i H/\∃N:St->Hp->Prop,(∀σ' H',N σ' H'->∃m',m'<m/\W (i+1) m' σ' H')/\∀x H',J.yld i H x H'->g x σ H' λσ2 H2=>tb { D with nx:=N,ct:=N,bk:=D.nx } σ2 H2)
noncomputable def Ar(fp:Ε)(h:Heap):Ω:=fp.filterMap λb=>(h.get? b).map λo=>(b,o)
theorem ni{fp:Ε}{h:Heap}{b:Addr}{o:Obj}(hb:b∈fp)(e:h.get? b=some o):(b,o)∈Ar fp h:=List.mem_filterMap.mpr ⟨b,hb,by rw[e];rfl⟩
theorem Q6{fp:Ε}{h:Heap}{p:Addr×Obj}(hp:p∈Ar fp h):p.1∈fp/\h.get? p.1=some p.2:=by
 obtain⟨b,hb,e⟩:=List.mem_filterMap.mp hp;cases q:h.get? b with
 |none=>rw[q]at e;cases e
 |some o =>
  rw[q]at e;have e':(b,o)=p:=Option.some.inj e;subst e';exact⟨hb,q⟩
theorem Inv.pinned{pins:Ω}{σ:St}{H:Hp}{s:Shared}{fp:Ε}(I:Inv X pins σ H s)(hf:∀b∈fp,yZ X pins H b)(ho:∀b∈fp,∃o,s.heap.get? b=some o/\∀v,o.data≠.cell v):Inv X (pins++Ar fp s.heap) σ H s :=
 I.pins_of λp hp=>(Y1.mp hp).elim (λz=>I.pin p (aQ _ z)) λz=>by
  obtain⟨hb,e⟩:=Q6 z;obtain⟨f0,f1,f2,_⟩:=hf p.1 hb;obtain⟨o,e',d⟩:=ho p.1 hb;rw[e]at e';cases e';exact⟨e,f0,f1,f2,d⟩
theorem Inv.unpinned{pins pl:Ω}{σ:St}{H:Hp}{s:Shared}(I:Inv X (pins++pl) σ H s):Inv X pins σ H s:=I.pins_of λp hp=>I.pin p (aQ _ (List.mem_append_left _ hp))
theorem fD{iter:Expr}{body:List Stmt}{wi:TI}{g:TG}{tb:TS}{pos:Pos}(hp:PassesOwn (model X.prog X.w) X.A X.env X.xe)(hc:X.calm=true)(hi:PI X tg iter wi)(hg:PG X tg g)(hb:PSs X body tb)
 (hs:∀x,foldedSetIterable iter X.env x=pure x:=by intro _;rfl):PS X (.For tg iter body [] pos) (Mf wi g tb):=by
 intro pins s σ H D I h;refine wpAny_For (thn (hi pins s σ H _ I h) λv s1 h1=>thn h1 λitv s2 h2=>?_) hs;obtain⟨it,fp,tn,J,H2,e,I2,T,st2,f2,W,⟨m0,w0⟩,turn⟩:=h2;subst e

 have stat:∀{H':Hp},(∀b∈fp,H' b=none)->∀b∈fp,yZ X pins H' b:=λhn b hb=>⟨hn b hb,(f2 b hb).2⟩;refine codeAny_forLoop_any (λn s'=>∃i σ' H',Inv X pins σ' H' s'/\tn i s'.heap/\(∀b∈fp,H' b=none)/\W i n σ' H') ?_ m0 ⟨0,σ,H2,I2,st2,λb hb=>(f2 b hb).1,w0⟩;rintro n s3 ⟨i,σ3,H3,I3,st3,fr3,w3⟩;rcases turn i n σ3 H3 w3 with⟨stop,qn⟩|⟨go,N,hN,step⟩
 .refine wpAny_passesOwn hp (thn (T.done X rfl rfl rfl hc i pins s3 σ3 H3 X.xe I3 (stat fr3) st3 stop) λr s4 hP=>?_);obtain⟨hr,I4⟩:=hP;subst hr;exact wpAny_execs_nil ⟨σ3,H3,I4,qn⟩
 .refine wpAny_passesOwn hp (thn (T.item X rfl rfl rfl hc i pins s3 σ3 H3 X.xe I3 (stat fr3) st3 go) λr s4 hP=>?_);obtain⟨u,hr,h4⟩:=hP;subst hr;refine wpAny_passesOwn hp (thn h4 λ_ s5 hP=>?_);obtain⟨x,H5,I5,r5,y5,st5,fr5⟩:=hP;have I5':=I5.pinned (stat fr5) (T.obj _ _ st5);refine wpAny_passesOwn hp (thn (hg _ s5 σ3 H5 x u _ I5' r5 (step x H5 y5)) λ_ s6 hP=>?_);obtain⟨σ6,H6,I6,q6⟩:=hP;refine wpAny_passesOwn hp (thn (hb _ s6 σ6 H6 _ I6 q6) λf s7 q7=>?_);have again:∀{σ7:St}{H7:Hp},Inv X (pins++Ar fp s5.heap) σ7 H7 s7->N σ7 H7->∃m,m<n/\∃i σ' H',Inv X pins σ' H' s7/\tn i s7.heap/\(∀b∈fp,H' b=none)/\W i m σ' H':=λ{σ7 H7}I7 n7=>by
   obtain⟨m',hm,w7⟩:=hN σ7 H7 n7;refine⟨m',hm,i+1,σ7,H7,I7.unpinned,T.keep _ _ _ st5 λb hb o e=>(I7.pin (b,o) (aQ _ (aQ _ (ni hb e)))).1,λb hb=>?_,w7⟩;obtain⟨o,e,d⟩:=T.obj _ _ st5 b hb;exact(I7.pin (b,o) (aQ _ (aQ _ (ni hb e)))).2.1
  cases f with
  |next=>obtain⟨σ7,H7,I7,n7⟩:=q7;exact again I7 n7
  |cont=>obtain⟨σ7,H7,I7,n7⟩:=q7;exact again I7 n7
  |brk=>obtain⟨σ7,H7,I7,q7⟩:=q7;exact⟨σ7,H7,I7.unpinned,q7⟩
  |ret v=>obtain⟨x7,σ7,H7,I7,r7,q7⟩:=q7;exact⟨x7,σ7,H7,I7.unpinned,r7,q7⟩
end
theorem Jt{c:TT}{tb:TS}{D:Ends}{σ:St}{H:Hp}(Pv:St->Hp->Prop)(μ:St->Hp->Nat)(h0:Pv σ H)
 (hs:∀σ H,Pv σ H->c σ H λb H1=>if b=true then tb { D with nx:=λσ' H'=>Pv σ' H'/\μ σ' H'<μ σ H,ct:=λσ' H'=>Pv σ' H'/\μ σ' H'<μ σ H,bk:=D.nx } σ H1 else D.nx σ H1)
 (mono:∀σ H Q Q',(∀b H1,Q b H1->Q' b H1)->c σ H Q->c σ H Q'):Td c tb D σ H:=by
 refine⟨λm σ H=>m=μ σ H/\Pv σ H,⟨_,rfl,h0⟩,?_⟩;rintro m σ H ⟨rfl,p⟩;refine mono σ H _ _ (λb H1 q=>?_) (hs σ H p);cases b with
 |true=>exact⟨_,λσ' H' hP=>by obtain⟨p',l⟩:=hP;exact⟨_,l,rfl,p'⟩,q⟩
 |false=>exact q
noncomputable abbrev R2:=V->V->Hp->VK->Prop
noncomputable def OpR(X:Cx)(f:Value->Value->Sem Value)(r:R2):Prop :=
 ∀(pins:Ω)(s:Shared)(σ:St)(H:Hp)(x y:V)(v u:Value)(Q:VK),Inv X pins σ H s->RelV x v->RelV y u->r x y H Q ->
  wpAny (model X.prog X.w) X.A (f v u) (EP X pins σ Q) X.xe s
noncomputable def UnR(X:Cx)(f:Value->Sem Value)(r:V->Hp->VK->Prop):Prop :=
 ∀(pins:Ω)(s:Shared)(σ:St)(H:Hp)(x:V)(v:Value)(Q:VK),Inv X pins σ H s->RelV x v->r x H Q ->
  wpAny (model X.prog X.w) X.A (f v) (EP X pins σ Q) X.xe s
noncomputable def fY(X:Cx)(f:Value)(r:Μ->Hp->VK->Prop):Prop :=
 ∀(pins:Ω)(s:Shared)(σ:St)(H:Hp)(xs:Μ)(us:Ξ)(Q:VK),Inv X pins σ H s->Vals xs us->r xs H Q ->
  wpAny (model X.prog X.w) X.A (call f us) (EP X pins σ Q) X.xe s
noncomputable def adS(X:Cx)(r:V->Hp->(Bool->Hp->Prop)->Prop):Prop :=
 ∀(pins:Ω)(s:Shared)(σ:St)(H:Hp)(x:V)(v:Value)(Q:Bool->Hp->Prop),Inv X pins σ H s->RelV x v->r x H Q ->
  wpAny (model X.prog X.w) X.A (truthy v) (TP X pins σ Q) X.xe s
noncomputable def tOp(r:R2)(ta tb:TE):TE:=λσ H Q=>ta σ H λx H1=>tb σ H1 λy H2=>r x y H2 Q
noncomputable def tUn(r:V->Hp->VK->Prop)(ta:TE):TE:=λσ H Q=>ta σ H λx H1=>r x H1 Q
noncomputable def rI(C:Int->Int->Prop)(g:Int->Int->V):R2:=λx y H Q=>∃i j,x=.int i/\y=.int j/\C i j/\Q (g i j) H
noncomputable def rI0(g:Int->Int->V):R2:=λx y H Q=>∃i j,x=.int i/\y=.int j/\Q (g i j) H
noncomputable def rU(g:Int->V):V->Hp->VK->Prop:=λx H Q=>∃i,x=.int i/\Q (g i) H
section
variable{X:Cx}{a b c:Expr}{ta tb tc:TE}{pos:Pos}
theorem aao(ha:PE X a ta)(hb:PE X b tb){pins:Ω}{s:Shared}{σ:St}{H:Hp}{R:V->V->Hp->Prop}(I:Inv X pins σ H s)
 (h:ta σ H λx H1=>tb σ H1 λy H2=>R x y H2){Q:Κ}{f:Value->Value->Sem Value}
 (hf:∀v u s2 x y H2,Inv X pins σ H2 s2->RelV x v->RelV y u->R x y H2->wpAny (model X.prog X.w) X.A (f v u) Q X.xe s2) :
  wpAny (model X.prog X.w) X.A (eval a X.env) (λv s₁=>wpAny (model X.prog X.w) X.A (eval b X.env) (λu s₂=>wpAny (model X.prog X.w) X.A (f v u) Q X.xe s₂) X.xe s₁) X.xe s:=by
 refine thn (ha pins s σ H _ I h) λv s1 hP=>?_;obtain⟨x,H1,I1,r1,q1⟩:=hP;refine thn (hb pins s1 σ H1 _ I1 q1) λu s2 hP=>?_;obtain⟨y,H2,I2,r2,q2⟩:=hP;exact hf v u s2 x y H2 I2 r1 r2 q2
theorem bY{op:Operator}{r:R2}(ho:OpR X (binaryOp op) r)(ha:PE X a ta)(hb:PE X b tb):PE X (.BinOp a op b pos) (tOp r ta tb):=by
 intro pins s σ H Q I h;exact wpAny_BinOp (aao ha hb I h λv u s2 x y H2 I2 rx ry q=>ho pins s2 σ H2 x y v u Q I2 rx ry q)
theorem YG{op:UnaryOp}{r:V->Hp->VK->Prop}(ho:UnR X (unaryOp op) r)(ha:PE X a ta):PE X (.UnaryOp op a pos) (tUn r ta):=by
 intro pins s σ H Q I h;exact UnaryOp_ (thn (ha pins s σ H _ I h) λv s1 hP=>by obtain⟨x,H1,I1,r1,q1⟩:=hP;exact ho pins s1 σ H1 x v Q I1 r1 q1)
theorem opI{f:Value->Value->Sem Value}{C:Int->Int->Prop}{g:Int->Int->Int}
 (rule:∀(i j:Int)(t u:Tok)(s:Shared)(Q:Κ)(E:Κ),C i j->Q (.int (g i j) s.toks) { s with toks:=s.toks+1 }->wpAny (model X.prog X.w) X.A (f (.int i t) (.int j u)) Q E s) :
  OpR X f (rI C λi j=>.int (g i j)):=by
 intro pins s σ H x y v u Q I rx ry h;obtain⟨i,j,rfl,rfl,hc,q⟩:=h;obtain⟨t,rfl⟩:=rx;obtain⟨t',rfl⟩:=ry;exact rule i j t t' s _ _ hc ⟨.int (g i j),H,I.tok _,⟨_,rfl⟩,q⟩
theorem abZ{f:Value->Value->Sem Value}{g:Int->Int->Int}
 (rule:∀(i j:Int)(t u:Tok)(s:Shared)(Q:Κ)(E:Κ),Q (.int (g i j) s.toks) { s with toks:=s.toks+1 }->wpAny (model X.prog X.w) X.A (f (.int i t) (.int j u)) Q E s) :
  OpR X f (rI0 λi j=>.int (g i j)):=by
 intro pins s σ H x y v u Q I rx ry h;obtain⟨i,j,rfl,rfl,q⟩:=h;obtain⟨t,rfl⟩:=rx;obtain⟨t',rfl⟩:=ry;exact rule i j t t' s _ _ ⟨.int (g i j),H,I.tok _,⟨_,rfl⟩,q⟩
theorem Ye{f:Value->Value->Sem Value}{g:Int->Int->Bool}
 (rule:∀(i j:Int)(t u:Tok)(s:Shared)(Q:Κ)(E:Κ),Q (.bool (g i j)) s->wpAny (model X.prog X.w) X.A (f (.int i t) (.int j u)) Q E s) :
  OpR X f (rI0 λi j=>.bl (g i j)):=by
 intro pins s σ H x y v u Q I rx ry h;obtain⟨i,j,rfl,rfl,q⟩:=h;obtain⟨t,rfl⟩:=rx;obtain⟨t',rfl⟩:=ry;exact rule i j t t' s _ _ ⟨.bl (g i j),H,I,rfl,q⟩
noncomputable def abz(i j:Int):Prop:=0<=j/\j<=1000000/\i.natAbs<2^64
noncomputable def ZC(i j:Int):Prop:=(-(2^64)<i/\i<2^64)\/(-(2^64)<j/\j<2^64)
theorem ZC.ok{i j:Int}(h:ZC i j):IntMulOk i j:=by
 rcases h with⟨h1,h2⟩|⟨h1,h2⟩
 .exact .of_left (intBits_le_64 h1 h2)
 .exact .of_right (intBits_le_64 h1 h2)
theorem dW:OpR X (binaryOp .Add) (rI0 λi j=>.int (i+j)):=abZ λ_ _ _ _ _ _ _ q=>add_int q
theorem LR:OpR X (binaryOp .Sub) (rI0 λi j=>.int (i-j)):=abZ λ_ _ _ _ _ _ _ q=>sub_int q
theorem Zv:OpR X (binaryOp .Mult) (rI ZC λi j=>.int (i*j)):=opI λ_ _ _ _ _ _ _ hc q=>mul_int q hc.ok
theorem h_:OpR X (binaryOp .Mod) (rI (λ_ j=>0<j) λi j=>.int (i%j)):=opI λi j _ _ _ _ _ hc q=>by
 have h1:(0:Int)<j:=hc;exact mod_int' (Int.ne_of_gt hc) (by rw[aX i (XY hc)];exact q)
theorem lU:OpR X (binaryOp .Mod) (rI (λ_ j=>j≠0) λi j=>.int (i.fmod j)):=opI λ_ _ _ _ _ _ _ hc q=>mod_int' hc q
theorem TX:OpR X (binaryOp .Pow) (rI abz λi j=>.int (i^j.toNat)):=opI λ_ _ _ _ _ _ _ hc q=>pow_int_small hc.1 hc.2.1 hc.2.2 q
theorem unI{f:Value->Sem Value}{g:Int->Int}
 (rule:∀(i:Int)(t:Tok)(s:Shared)(Q:Κ)(E:Κ),Q (.int (g i) s.toks) { s with toks:=s.toks+1 }->wpAny (model X.prog X.w) X.A (f (.int i t)) Q E s) :
  UnR X f (rU λi=>.int (g i)):=by
 intro pins s σ H x v Q I rx h;obtain⟨i,rfl,q⟩:=h;obtain⟨t,rfl⟩:=rx;exact rule i t s _ _ ⟨.int (g i),H,I.tok _,⟨_,rfl⟩,q⟩
theorem VG:UnR X (unaryOp .USub) (rU λi=>.int (-i)):=unI λ_ _ _ _ _ q=>neg_int q
end
noncomputable def sE:V->V->Bool
 |.non,.non=>true|.non,.int _=>true|.int _,.non=>true|.non,.bl _=>true|.bl _,.non=>true|.non,.str _=>true|.str _,.non=>true
 |.int _,.int _=>true|.bl _,.bl _=>true|.str _,.str _=>true|.byt _,.byt _=>true
 |.int _,.str _=>true|.str _,.int _=>true|.bl _,.str _=>true|.str _,.bl _=>true
 |_,_=>false
noncomputable def rEq:R2:=λx y H Q=>sE x y=true/\Q (.bl (decide (x=y))) H
noncomputable def rNe:R2:=λx y H Q=>sE x y=true/\Q (.bl (!decide (x=y))) H
theorem Pa{i j:Int} : decide (V.int i=V.int j)=(i==j):=by
 rw[Bool.eq_iff_iff];simp
theorem SJ{i j:Bool} : decide (V.bl i=V.bl j)=(i==j):=by
 rw[Bool.eq_iff_iff];simp
theorem Ol{i j:Str} : decide (V.str i=V.str j)=(i==j):=by
 rw[Bool.eq_iff_iff];simp
theorem Nv{i j:Array UInt8} : decide (V.byt i=V.byt j)=(i.toList==j.toList):=by
 rw[Bool.eq_iff_iff];cases i;cases j;simp
section
variable{X:Cx}{a b c:Expr}{ta tb tc:TE}{pos:Pos}
theorem cT{pins:Ω}{σ:St}{H:Hp}{s:Shared}{Q:VK}{k k':Bool}(I:Inv X pins σ H s)(q:Q (.bl k) H)(e:k=k'):EP X pins σ Q (.bool k') s:=by
 subst e;exact⟨.bl k,H,I,rfl,q⟩
theorem Eu:OpR X (compareOp .Eq) rEq:=by
 intro pins s σ H x y v u Q I rx ry h;obtain⟨hs,q⟩:=h;cases x with
 |non =>
  cases rx;cases y with
  |non=>cases ry;exact PySem.EqNone.eq_none_none (cT I q (by simp))
  |bl j=>cases ry;exact PySem.EqNone.eq_none_bool (cT I q (by simp))
  |int j=>obtain⟨t',rfl⟩:=ry;exact PySem.EqNone.eq_none_int (cT I q (by simp))
  |str j=>obtain⟨t',rfl⟩:=ry;exact PySem.EqNone.eq_none_str (cT I q (by simp))
  |_=>exact absurd (show false=true from hs) bC
 |bl i =>
  cases rx;cases y with
  |non=>cases ry;exact PySem.EqNone.eq_bool_none (cT I q (by simp))
  |bl j=>cases ry;exact eq_bool (cT I q SJ)
  |str j=>obtain⟨t',rfl⟩:=ry;exact PySem.EqMixed.eq_bool_str (cT I q (by simp))
  |_=>exact absurd (show false=true from hs) bC
 |int i =>
  obtain⟨t,rfl⟩:=rx;cases y with
  |non=>cases ry;exact PySem.EqNone.eq_int_none (cT I q (by simp))
  |int j=>obtain⟨t',rfl⟩:=ry;exact eq_int (cT I q Pa)
  |str j=>obtain⟨t',rfl⟩:=ry;exact PySem.EqMixed.eq_int_str (cT I q (by simp))
  |_=>exact absurd (show false=true from hs) bC
 |str i =>
  obtain⟨t,rfl⟩:=rx;cases y with
  |non=>cases ry;exact PySem.EqNone.eq_str_none (cT I q (by simp))
  |bl j=>cases ry;exact PySem.EqMixed.eq_str_bool (cT I q (by simp))
  |int j=>obtain⟨t',rfl⟩:=ry;exact PySem.EqMixed.eq_str_int (cT I q (by simp))
  |str j=>obtain⟨t',rfl⟩:=ry;exact eq_str (cT I q Ol)
  |_=>exact absurd (show false=true from hs) bC
 |byt i =>
  obtain⟨t,rfl⟩:=rx;cases y with
  |byt j=>obtain⟨t',rfl⟩:=ry;exact PySem.W.eq_bytes (cT I q Nv)
  |_=>exact absurd (show false=true from hs) bC
 |_=>cases y<;>exact absurd (show false=true from hs) bC
theorem Fw:OpR X (compareOp .NotEq) rNe:=by
 intro pins s σ H x y v u Q I rx ry h;obtain⟨hs,q⟩:=h;cases x with
 |non =>
  cases rx;cases y with
  |non=>cases ry;exact PySem.EqNone.ne_none_none (cT I q (by simp))
  |bl j=>cases ry;exact PySem.EqNone.ne_none_bool (cT I q (by simp))
  |int j=>obtain⟨t',rfl⟩:=ry;exact PySem.EqNone.ne_none_int (cT I q (by simp))
  |str j=>obtain⟨t',rfl⟩:=ry;exact PySem.EqNone.ne_none_str (cT I q (by simp))
  |_=>exact absurd (show false=true from hs) bC
 |bl i =>
  cases rx;cases y with
  |non=>cases ry;exact PySem.EqNone.ne_bool_none (cT I q (by simp))
  |bl j=>cases ry;exact ne_bool (cT I q (ZH not SJ))
  |str j=>obtain⟨t',rfl⟩:=ry;exact PySem.EqMixed.ne_bool_str (cT I q (by simp))
  |_=>exact absurd (show false=true from hs) bC
 |int i =>
  obtain⟨t,rfl⟩:=rx;cases y with
  |non=>cases ry;exact PySem.EqNone.ne_int_none (cT I q (by simp))
  |int j=>obtain⟨t',rfl⟩:=ry;exact ne_int (cT I q (ZH not Pa))
  |str j=>obtain⟨t',rfl⟩:=ry;exact PySem.EqMixed.ne_int_str (cT I q (by simp))
  |_=>exact absurd (show false=true from hs) bC
 |str i =>
  obtain⟨t,rfl⟩:=rx;cases y with
  |non=>cases ry;exact PySem.EqNone.ne_str_none (cT I q (by simp))
  |bl j=>cases ry;exact PySem.EqMixed.ne_str_bool (cT I q (by simp))
  |int j=>obtain⟨t',rfl⟩:=ry;exact PySem.EqMixed.ne_str_int (cT I q (by simp))
  |str j=>obtain⟨t',rfl⟩:=ry;exact ne_str (cT I q (ZH not Ol))
  |_=>exact absurd (show false=true from hs) bC
 |byt i =>
  obtain⟨t,rfl⟩:=rx;cases y with
  |byt j=>obtain⟨t',rfl⟩:=ry;exact PySem.W.ne_bytes (cT I q (ZH not Nv))
  |_=>exact absurd (show false=true from hs) bC
 |_=>cases y<;>exact absurd (show false=true from hs) bC
theorem Kp:OpR X (compareOp .Lt) (rI0 λi j=>.bl (decide (i<j))):=Ye λ_ _ _ _ _ _ _ q=>lt_int q
theorem Ax:OpR X (compareOp .LtE) (rI0 λi j=>.bl (decide (i<=j))):=Ye λ_ _ _ _ _ _ _ q=>le_int q
theorem U9:OpR X (compareOp .Gt) (rI0 λi j=>.bl (decide (j<i))):=Ye λ_ _ _ _ _ _ _ q=>gt_int q
theorem Yr:OpR X (compareOp .GtE) (rI0 λi j=>.bl (decide (j<=i))):=Ye λ_ _ _ _ _ _ _ q=>ge_int q
theorem yd:OpR X (compareOp .Is) (λx y H Q=>y=.non/\Q (.bl (decide (x=.non))) H):=by
 intro pins s σ H x y v u Q I rx ry h;obtain⟨rfl,q⟩:=h;cases ry;refine is_none_gen (cT I q ?_);cases x<;>first
  |(cases rx;rfl)
  |(obtain⟨t,rfl⟩:=rx;rfl)
theorem Yk:OpR X (compareOp .IsNot) (λx y H Q=>y=.non/\Q (.bl (!decide (x=.non))) H):=by
 intro pins s σ H x y v u Q I rx ry h;obtain⟨rfl,q⟩:=h;cases ry;refine isnot_none_gen (cT I q ?_);cases x<;>first
  |(cases rx;rfl)
  |(obtain⟨t,rfl⟩:=rx;rfl)
theorem cV(b:Expr){op:CmpOp}(h:op≠.In:=by decide)(h2:op≠.NotIn:=by decide):behindInMarks op b=false:=by
 have e1:(op==CmpOp.In)=false:=by cases op<;>first|rfl|exact absurd rfl h
 have e2:(op==CmpOp.NotIn)=false:=by cases op<;>first|rfl|exact absurd rfl h2
 cases b<;>simp[behindInMarks,e1,e2]
theorem oV{op:CmpOp}{r:R2}(ho:OpR X (compareOp op) r)(ha:PE X a ta)(hb:PE X b tb)(hm:behindInMarks op b=false):PE X (.Compare a [op] [b] pos) (tOp r ta tb):=by
 intro pins s σ H Q I h;exact wpAny_Compare1 (aao ha hb I h λv u s2 x y H2 I2 rx ry q=>ho pins s2 σ H2 x y v u Q I2 rx ry q) hm
noncomputable def JT(t:TE):TT:=λσ H Q=>t σ H λx H'=>∃k,x=.bl k/\Q k H'
theorem cX{op:CmpOp}{r:R2}(ho:OpR X (compareOp op) r)(ha:PE X a ta)(hb:PE X b tb)(hm:behindInMarks op b=false):PT X (.Compare a [op] [b] pos) (JT (tOp r ta tb)):=by
 intro pins s σ H Q I h;refine wpAny_isTrue_Compare1 (thn (ha pins s σ H _ I h) λv s1 ⟨x,H1,I1,r1,q1⟩=>thn (hb pins s1 σ H1 _ I1 q1) λu s2 ⟨y,H2,I2,r2,q2⟩ =>
  thn (ho pins s2 σ H2 x y v u _ I2 r1 r2 q2) λc s3 ⟨z,H3,I3,r3,k,e,q3⟩=>?_) hm
 subst e;cases r3;exact wpAny_truthy_bool ⟨H3,I3,q3⟩
noncomputable def Av(r r':R2)(ta tb tc:TE):TE:=λσ H Q=>ta σ H λx H1=>tb σ H1 λy H2=>r x y H2 λz H3=>∃k,z=.bl k /\
 (if k=true then tc σ H3 λw' H4=>r' y w' H4 Q else Q (.bl false) H3)
theorem J5{op op':CmpOp}{r r':R2}(ho:OpR X (compareOp op) r)(ho':OpR X (compareOp op') r')(ha:PE X a ta)(hb:PE X b tb)(hc:PE X c tc)
 (hm:lastMarks [op,op'] [b,c]=false:=by with_unfolding_all rfl):PE X (.Compare a [op,op'] [b,c] pos) (Av r r' ta tb tc):=by
 intro pins s σ H Q I h;refine Compare_chain (thn (ha pins s σ H _ I h) λv s1 ⟨x,H1,I1,r1,q1⟩=>chain_link (thn (hb pins s1 σ H1 _ I1 q1) λu s2 ⟨y,H2,I2,r2,q2⟩ =>
  thn (ho pins s2 σ H2 x y v u _ I2 r1 r2 q2) λd s3 ⟨z,H3,I3,r3,k,e,q3⟩=>?_)) hm
 subst e;cases r3;refine wpAny_truthy_bool ?_;cases k with
 |false=>exact ite_ff ⟨.bl false,H3,I3,rfl,q3⟩
 |true=>exact ite_tt (chain_last (thn (hc pins s3 σ H3 _ I3 q3) λw' s4 hP=>by obtain⟨z',H4,I4,r4,q4⟩:=hP;exact ho' pins s4 σ H4 y z' u w' Q I4 r2 r4 q4))
theorem Bm{op op':CmpOp}{r r':R2}(ho:OpR X (compareOp op) r)(ho':OpR X (compareOp op') r')(ha:PE X a ta)(hb:PE X b tb)(hc:PE X c tc)
 (hm:lastMarks [op,op'] [b,c]=false:=by with_unfolding_all rfl):PT X (.Compare a [op,op'] [b,c] pos) (JT (Av r r' ta tb tc)):=by
 intro pins s σ H Q I h;refine isTrue_chain (thn (ha pins s σ H _ I h) λv s1 ⟨x,H1,I1,r1,q1⟩=>test_link (thn (hb pins s1 σ H1 _ I1 q1) λu s2 ⟨y,H2,I2,r2,q2⟩ =>
  thn (ho pins s2 σ H2 x y v u _ I2 r1 r2 q2) λd s3 ⟨z,H3,I3,r3,k,e,q3⟩=>?_)) hm
 subst e;cases r3;refine wpAny_truthy_bool ?_;cases k with
 |false =>
  obtain⟨k',e',q'⟩:=q3;cases e';exact ite_ff ⟨H3,I3,q'⟩
 |true =>
  refine ite_tt (test_last (thn (hc pins s3 σ H3 _ I3 q3) λw' s4 ⟨z',H4,I4,r4,q4⟩=>thn (ho' pins s4 σ H4 y z' u w' _ I4 r2 r4 q4) λd' s5 hP=>?_));obtain⟨z2,H5,I5,r5,k2,e2,q5⟩:=hP;subst e2;cases r5;exact wpAny_truthy_bool ⟨H5,I5,q5⟩
noncomputable def aa9(K:Frag)(x:V)(H:Hp)(k:Bool):Prop :=
 match x with
 |.non=>k=false
 |.bl b=>k=b
 |.int i=>k=(i != 0)
 |.str y=>y.length<=sizeLine/\k=((y.length:Int) != 0)
 |.byt y=>y.size<=sizeLine/\k=((y.size:Int) != 0)
 |.ref p=>(∃xs,SqL K H p xs/\k = !xs.isEmpty)\/(∃xs,SqT K H p xs/\k = !xs.isEmpty)\/∃kvs,H p=some (.dK kvs)/\k = !kvs.isEmpty
 |_=>False
theorem Mw{κ:Type}{kvs:List (κ×V)}{vs:List (κ×Value)}(r:KV kvs vs):(!vs.isEmpty) = !kvs.isEmpty:=by
 cases r<;>rfl
theorem z8{xs:Μ}{its:Ξ}(r:Vals xs its):(!its.toArray.isEmpty) = !xs.isEmpty:=by
 cases r<;>simp
theorem uV:(sizeLine:Nat)<2^63:=by rw[sizeLine_eq];decide
theorem Zn:adS X (λx H Q=>∃k,aa9 X.K x H k/\Q k H):=by
 intro pins s σ H x v Q I rx h;obtain⟨k,e,q⟩:=h;have hl:=uV;have hs:sizeLine=16777216:=sizeLine_eq;cases x with
 |non =>
  cases rx;have e':k=false:=e;subst e';exact truthy_none ⟨H,I,q⟩
 |bl b =>
  cases rx;have e':k=b:=e;subst e';exact wpAny_truthy_bool ⟨H,I,q⟩
 |int i =>
  obtain⟨t,rfl⟩:=rx;have e':k=(i != 0):=e;subst e';exact PySem.P.truthy_int ⟨H,I,q⟩
 |str y =>
  obtain⟨t,rfl⟩:=rx;obtain⟨hy,e'⟩ : y.length<=sizeLine/\k=((y.length:Int) != 0):=e;subst e';exact PySem.P.truthy_str (by lia) ⟨H,I.tok _,q⟩
 |byt y =>
  obtain⟨t,rfl⟩:=rx;obtain⟨hy,e'⟩ : y.size<=sizeLine/\k=((y.size:Int) != 0):=e;subst e';exact PySem.W.truthy_bytes (aM hy (by decide)) ⟨H,I.tok _,q⟩
 |ref p =>
  cases rx;have e':(∃xs,SqL X.K H p xs/\k = !xs.isEmpty)\/(∃xs,SqT X.K H p xs/\k = !xs.isEmpty)\/∃kvs,H p=some (.dK kvs)/\k = !kvs.isEmpty:=e;rcases e' with⟨xs,hx,e'⟩|⟨xs,hx,e'⟩|⟨kvs,hx,e'⟩
  .subst e';obtain⟨its,r,pl,hz⟩:=I.list hx;have hlen:=r.length;exact wpAny_truthy_list pl.isList (by simp only[aZ];lia) ⟨H,I.tok _,by rw[z8 r];exact q⟩
  .subst e';obtain⟨its,r,pl,hz⟩:=I.tuple hx;have hlen:=r.length;exact truthy_tuple pl (by simp only[aZ];lia) ⟨H,I.tok _,by rw[z8 r];exact q⟩
  .subst e';obtain⟨hz,hS,vs,r,m⟩ : kvs.length<=sizeLine/\(p==sysModules)=false/\∃vs,KV kvs vs/\s.heap.DictOf (fL X.prog X.w) p vs:=I.hok p _ hx;have hlen:kvs.length=vs.length:=Paired.length r;exact wpAny_truthy_dict hS m (by lia) ⟨H,I.tok _,by rw[Mw r];exact q⟩
 |_=>exact(show False from e).elim
theorem Lz:OpR X (binaryOp .Add) (λx y H Q=>∃i j,x=.str i/\y=.str j/\i.length+j.length<=sizeLine/\Q (.str (i++j)) H):=by
 intro pins s σ H x y v u Q I rx ry h;obtain⟨i,j,rfl,rfl,hz,q⟩:=h;obtain⟨t,rfl⟩:=rx;obtain⟨t',rfl⟩:=ry;exact add_str (λt' tk=>⟨.str (i++j),H,I.tok _,⟨_,rfl⟩,q⟩) hz
theorem vals1{x:V}{us:Ξ}(r:Vals [x] us):∃u,us=[u]/\RelV x u:=by
 cases r with
 |cons r1 r2=>cases r2;exact⟨_,rfl,r1⟩
theorem rG:fY X (.builtin "abs") (λxs H Q=>∃i,xs=[.int i]/\Q (.int (if i<0 then -i else i)) H):=by
 intro pins s σ H xs us Q I r h;obtain⟨i,rfl,q⟩:=h;obtain⟨u,rfl,t,rfl⟩:=vals1 r;exact call_abs_int λu tk=>⟨.int (if i<0 then -i else i),H,I.tok _,⟨_,rfl⟩,q⟩
theorem Qj:fY X (.type "int") (λxs H Q=>(∃i,xs=[.int i]/\Q (.int i) H)\/∃k,xs=[.bl k]/\Q (.int (if k then 1 else 0)) H):=by
 intro pins s σ H xs us Q I r h;rcases h with⟨i,rfl,q⟩|⟨k,rfl,q⟩
 .obtain⟨u,rfl,t,rfl⟩:=vals1 r;exact call_int_int ⟨.int i,H,I,⟨_,rfl⟩,q⟩
 .obtain⟨u,rfl,r1⟩:=vals1 r;cases r1;exact call_int_bool ⟨.int (if k then 1 else 0),H,I.tok _,⟨_,rfl⟩,q⟩
end
structure MF(h:Heap)(x dx C:Addr)(mA:Str->Ζ):Prop where
 obj:h.get? x=some (instObj C dx)
 ns:h.Ns1 dx mA
 ne:dx≠x
theorem Q_{h:Heap}{dx:Addr}{mA:Str->Ζ}(n:h.Ns1 dx mA):∃od,h.get? dx=some od/\∀name,lookIn name od=some (mA name):=by
 obtain⟨o,es,ep,ho,hd,hk,_,hm⟩:=n;refine⟨o,ho,λname=>?_⟩;have e:=hm name;unfold nsFind findBy at e;rw[<- Array.find?_toList]at e;unfold lookIn;rw[hd];dsimp only;split
 .rename_i y q
  rw[q]at e;exact ZH some e
 .rename_i q
  rw[q]at e;have a:es.toList.any (·.refKey)=false:=by
   rw[List.any_eq_false];intro y hy;obtain⟨z,t,hkey⟩:=hk y (Array.mem_toList_iff.mp hy);simp[DictEntry.refKey,hkey]
  have a':¬es.toList.any (·.refKey)=true:=by rw[a];exact bC
  rw[ZZ a'];exact ZH some e
theorem MF.look{h:Heap}{x dx C:Addr}{mA:Str->Ζ}(I:MF h x dx C mA):∃od,PySem.W.InstAt h x (instObj C dx) C (some od)/\∀name,lookIn name od=some (mA name) :=
 let⟨od,ho,hl⟩:=Q_ I.ns
 ⟨od,⟨I.obj,rfl,rfl,ho⟩,hl⟩
section
variable{prog:Program}{w:World}{A:Around}{E:Κ}{s:Shared}{K:Frag}{x dx C f:Addr}{mA:Str->Ζ}{name:Str}{v:Value}
theorem get_map{expr:Bool}{Q:Κ}(X:K.In s.heap)(I:MF s.heap x dx C mA)(hg:plainGet K C name=true)(hh:hasDictIn K C=true)
 (ha:findIn K (.ref C) name=some none)(hv:mA name=some v)(hv':handedIn v=true)(h:Q v { s with toks:=s.toks+1 }) :
  wpAny (model prog w) A (getAttr (.ref x) name expr) Q E s:=by
 obtain⟨od,J,hl⟩:=I.look;exact PySem.W.get_value X J (plainGet_of hg).1 (PySem.W.findObj_own hh ha rfl (by rw[hl,hv])) hv' h
theorem RG{pl:Sem Bool}{Q:Value×Ξ->Shared->Prop}(X:K.In s.heap)(I:MF s.heap x dx C mA)(hg:plainGet K C name=true)
 (hf:findIn K (.ref C) name=some (some (.ref f)))(ht:isFn K (.ref f)=true)(hv:mA name=none)(h:Q (.ref f,[.ref x]) s) :
  wpAny (model prog w) A (getMethod (.ref x) name pl) Q E s:=by
 obtain⟨od,J,hl⟩:=I.look;exact PySem.W.method_fn X J (plainGet_of hg).1 (plainGet_of hg).2 hf (beq_iff_eq.mp ht) (by show(lookIn name od).map (·.isSome)=some false;rw[hl,hv];rfl) h
theorem W8{ns:Β}{Q:Unit->Shared->Prop}(X:K.In s.heap)(I:MF s.heap x dx C mA)
 (hs:findIn K (.ref C) "__setattr__" = some (some (.builtin "object.__setattr__")))(hp:plainOver K C=true)(ht:takerIn K C name=some none)(hh:hasDictIn K C=true)
 (hw:PySem.Within mA ns)(hsz:ns.length<=sizeLine)
 (h:∀h',MF h' x dx C (λy=>if y=name then some v else mA y)->Heap.SameBut dx s.heap h'->Q () { s with heap:=h',toks:=s.toks+2 }) :
  wpAny (model prog w) A (setAttr (.ref x) name v) Q E s:=by
 obtain⟨od,J,hl⟩:=I.look;refine PySem.W.set_plain X J hs (PySem.W.osa_open (s:={ s with toks:=s.toks+1 }) (r:=none) X J hp ht λb=>?_);obtain⟨cd,hc,hd'⟩:=PySem.W.any_some hh;have hx:s.heap.get? x=some ⟨.ref C,some dx,.plain,#[]⟩:=I.obj;refine ZU (ZT (ZU (ZU (wpAny_loadPart hx (ZU (PySem.W.Looks.here (s:={ s with toks:=s.toks+1 }) (PySem.W.looks_clsIn X hc) ?_))))));rw[hd'];refine ZT (a:=some dx) (ZU (ZT (ZU ?_)));refine wpAny_nsSet1 (s:={ s with toks:=s.toks+1 }) I.ns λh' hn2 hs2=>?_;obtain⟨oD,esD,epD,hoD,hdD,hcD⟩:=hn2.count (PySem.Within.cons name v hw);refine ZU (wpAny_lookBehind hoD (by rw[hdD];exact pastItsLine_dict (aM hcD (by rw[List.length_cons];exact Nat.succ_le_succ hsz))) ?_);exact ZT (h _ ⟨(hs2.2 _ (Ne.symm I.ne)).trans I.obj,hn2,I.ne⟩ hs2)
theorem T6{R:Result->Shared->Prop}{vs:Ξ}{kw:List (Str×Value)}(X:K.In s.heap)(hm:makesIn K C=true)
 (hi:findIn K (.ref C) "__init__" = some (some (.ref f)))(hf:PySem.W.typeIn K (.ref f)=some (.type "function"))
 (h:codeAny (model prog w) (A.under (.builtin "type.__call__" ⟨.ref C::vs,kw⟩)) (.call (.ref f) ⟨.ref (s.heap.objs.size+1)::vs,kw⟩) (PySem.W.InitBack (s.heap.objs.size+1) R)
   { s with heap:=(s.heap.push emptyDict).push (instObj C s.heap.objs.size) }) :
  codeAny (model prog w) A (.call (.ref C) ⟨vs,kw⟩) R s:=by
 obtain⟨hh,g,d,t,os⟩:=s;exact PySem.W.make_core (PySem.W.makes_of X hm) (PySem.W.looks_findIn X hi) (λself=>PySem.W.bind_fn X self hf) (.inl rfl) h
end
noncomputable def j5(f:Str)(v:V):List (Str×V)->List (Str×V)
 |[]=>[(f,v)]
 |(g,x)::r=>if g=f then(g,v)::r else(g,x)::j5 f v r
theorem yG(f g:Str)(v:V):∀fs:List (Str×V),(j5 f v fs).lookup g=if g=f then some v else fs.lookup g
 |[]=>by
  show List.lookup g [(f,v)]=_;by_cases h:g=f
  .have hb:(g==f)=true:=beq_iff_eq.mpr h;simp only[List.lookup,hb,ZY h]
  .have hb:(g==f)=false:=beq_eq_false_iff_ne.mpr h;simp only[List.lookup,hb,ZZ h]
 |(k,x)::r=>by
  have ih:=yG f g v r;rw[show j5 f v ((k,x)::r)=(if k=f then(k,v)::r else(k,x)::j5 f v r)from rfl];by_cases hk:k=f
  .rw[ZY hk];by_cases h:g=k
   .have hb:(g==k)=true:=beq_iff_eq.mpr h;simp only[List.lookup,hb,ZY (h.trans hk)]
   .have hb:(g==k)=false:=beq_eq_false_iff_ne.mpr h;simp only[List.lookup,hb,ZZ (λe:g=f=>h (e.trans hk.symm))]
  .rw[ZZ hk];by_cases h:g=k
   .have hb:(g==k)=true:=beq_iff_eq.mpr h;simp only[List.lookup,hb,ZZ (λe:g=f=>hk (h.symm.trans e))]
   .have hb:(g==k)=false:=beq_eq_false_iff_ne.mpr h;simp only[List.lookup,hb];exact ih
theorem xX(f:Str)(v:V):∀fs:List (Str×V),f∈(j5 f v fs).map (·.1)/\∀g,g∈fs.map (·.1)->g∈(j5 f v fs).map (·.1)
 |[]=>⟨by simp[j5],λg h=>by simp at h⟩
 |(k,x)::r=>by
  obtain⟨i1,i2⟩:=xX f v r;rw[show j5 f v ((k,x)::r)=(if k=f then(k,v)::r else(k,x)::j5 f v r)from rfl];by_cases hk:k=f
  .rw[ZY hk];subst hk;exact⟨by simp,λg h=>by simpa using h⟩
  .rw[ZZ hk];refine⟨?_,λg h=>?_⟩
   .rw[List.map_cons];exact aH _ i1
   .rw[List.map_cons]at h ⊢;rcases YU.mp h with e|e
    .exact YU.mpr (.inl e)
    .exact aH _ (i2 g e)
theorem yK(f:Str)(v:V):∀fs:List (Str×V),(j5 f v fs).length<=fs.length+1
 |[]=>by simp[j5]
 |(k,x)::r=>by
  have ih:=yK f v r;rw[show j5 f v ((k,x)::r)=(if k=f then(k,v)::r else(k,x)::j5 f v r)from rfl];by_cases hk:k=f
  .rw[ZY hk,List.length_cons,List.length_cons];exact Xs _
  .rw[ZZ hk,List.length_cons,List.length_cons];exact Nat.succ_le_succ ih
theorem tZ.some_of{v:V}{o:Ζ}(r:tZ (some v) o):∃u,o=some u/\RelV v u:=by
 cases o with
 |none=>exact(show False from r).elim
 |some u=>exact⟨u,rfl,r⟩
theorem tZ.none_of{o:Ζ}(r:tZ none o):o=none:=by
 cases o with
 |none=>rfl
 |some u=>exact(show False from r).elim
theorem P_{v:V}{u:Value}(r:RelV v u):handedIn u=true:=by
 cases v with
 |non=>cases(show u=Value.none from r);rfl
 |bl b=>cases(show u=Value.bool b from r);rfl
 |int i=>obtain⟨t,e⟩:=(show ∃t,u=Value.int i t from r);cases e;rfl
 |str x=>obtain⟨t,e⟩:=(show ∃t,u=Value.str x t from r);cases e;rfl
 |byt b=>obtain⟨t,e⟩:=(show ∃t,u=Value.bytes b t from r);cases e;rfl
 |flt b=>obtain⟨t,e⟩:=(show ∃t,u=Value.float b t from r);cases e;rfl
 |ref a=>cases(show u=Value.ref a from r);rfl
 |ty n=>cases(show u=Value.type n from r);rfl
section
variable{P:Program}{w:World}{H H':Hp}{h h':Heap}{a C dx:Addr}{fs fs':List (Str×V)}
theorem zJ(hok:HOk P w H h)(e:H a=some (.ins C dx fs)):∃mA,MF h a dx C mA/\(∀f,tZ (fs.lookup f) (mA f))/\PySem.Within mA (fs.map (·.1))/\fs.length<=1000/\H dx=some (.own a):=by
 obtain⟨d,z,ne,ob,mA,n,r,q⟩:=(show dh P w H h a (.ins C dx fs)from hok a _ e);exact⟨mA,⟨ob,n,ne⟩,r,q,z,d⟩
end
structure Cls(K:Frag)(C:Addr):Prop where
 pg:plainGet K C Str.empty=true
 hd:hasDictIn K C=true
 po:plainOver K C=true
 sa:findIn K (.ref C) "__setattr__" = some (some (.builtin "object.__setattr__"))
theorem Cls.get{K:Frag}{C:Addr}(c:Cls K C)(f:Str):plainGet K C f=true:=c.pg
noncomputable def d7(K:Frag)(C:Addr)(f:Str):Prop:=findIn K (.ref C) f=some none
theorem d7.taker{K:Frag}{C:Addr}{f:Str}(n:d7 K C f):takerIn K C f=some none:=by
 unfold takerIn;rw[show findIn K (.ref C) f=some none from n]
 rfl
structure Meth(K:Frag)(C:Addr)(m:Str)(f:Addr):Prop where
 at_:findIn K (.ref C) m=some (some (.ref f))
 fn:isFn K (.ref f)=true
 kp:keepIn K (.ref f)=true
section
variable{X:Cx}{pins:Ω}{σ:St}{H:Hp}{s:Shared}{a C dx:Addr}{fs:List (Str×V)}{f:Str}{v:V}{A:Around}{E:Κ}
theorem Mu{b:Bool}{Q:Κ}(I:Inv X pins σ H s)(e:H a=some (.ins C dx fs))(c:Cls X.K C)(n:d7 X.K C f)(l:fs.lookup f=some v)
 (h:∀u s',Inv X pins σ H s'->RelV v u->Q u s'):wpAny (model X.prog X.w) A (getAttr (.ref a) f b) Q E s:=by
 obtain⟨mA,O,r,_,_,_⟩:=zJ I.hok e;obtain⟨u,hu,ru⟩:=tZ.some_of (v:=v) (o:=mA f) (by rw[<- l];exact r f);exact get_map I.kIn O (c.get f) c.hd n hu (P_ ru) (h u _ (I.tok _) ru)
theorem Ba{m:Str}{g:Addr}{pl:Sem Bool}{Q:Value×Ξ->Shared->Prop}(I:Inv X pins σ H s)(e:H a=some (.ins C dx fs))(c:Cls X.K C)(k:Meth X.K C m g)(l:fs.lookup m=none)
 (h:Q (.ref g,[.ref a]) s):wpAny (model X.prog X.w) A (getMethod (.ref a) m pl) Q E s:=by
 obtain⟨mA,O,r,_,_,_⟩:=zJ I.hok e;have hn:mA m=none:=tZ.none_of (by rw[<- l];exact r m);exact RG I.kIn O (c.get m) k.at_ k.fn hn h
theorem K7{y:V}{u:Value}{Q:Unit->Shared->Prop}(I:Inv X pins σ H s)(e:H a=some (.ins C dx fs))(c:Cls X.K C)(n:d7 X.K C f)(hl:fs.length<1000)(ry:RelV y u)
 (h:∀s',Inv X pins σ (upd H a (.ins C dx (j5 f y fs))) s'->Q () s'):wpAny (model X.prog X.w) A (setAttr (.ref a) f u) Q E s:=by
 obtain⟨mA,O,r,wi,_,ho⟩:=zJ I.hok e;have hz:(fs.map (·.1)).length<=sizeLine:=by rw[ak,sizeLine_eq];exact aM (Y2 hl) (by decide)
 refine W8 I.kIn O c.sa c.po n.taker c.hd wi hz λh' O' sb=>h _ ?_;have hd:∃o,h'.get? dx=some o:=by obtain⟨o,_,_,e',_⟩:=O'.ns;exact⟨o,e'⟩
 refine I.write (x:=a) (e:=dx) (by rw[e];exact True.intro) (.inr ho) (λb q hb z=>(sb.2 b hb).trans z) hd ?_;refine⟨by rw[bL O.ne];exact ho,?_,O.ne,O'.obj,_,O'.ns,λg=>?_,λg hg=>?_⟩
 .have:=yK f y fs;lia
 .show tZ ((j5 f y fs).lookup g) (if g=f then some u else mA g);rw[yG];by_cases q:g=f
  .rw[ZY q,ZY q];exact ry
  .rw[ZZ q,ZZ q];exact r g
 .by_cases q:g=f
  .rw[q];exact(xX f y fs).1
  .refine(xX f y fs).2 g (wi g λz=>hg ?_);show(if g=f then some u else mA g)=none;rw[ZZ q];exact z
theorem Inv.made(I:Inv X pins σ H s):Inv X pins σ (upd (upd H s.heap.objs.size (.own (s.heap.objs.size+1))) (s.heap.objs.size+1) (.ins C s.heap.objs.size []))
  { s with heap:=(s.heap.push emptyDict).push (instObj C s.heap.objs.size) }:=by
 have e1:(s.heap.push emptyDict).get? s.heap.objs.size=some emptyDict:=aY s.heap rfl;have e2:((s.heap.push emptyDict).push (instObj C s.heap.objs.size)).get? (s.heap.objs.size+1)=some (instObj C s.heap.objs.size):=by
  have:=aY (s.heap.push emptyDict) (o:=instObj C s.heap.objs.size) rfl;rwa[Heap.size_push]at this
 have e3:(s.heap.push emptyDict).Ns s.heap.objs.size (λ_=>none):=⟨emptyDict,#[],_,e1,rfl,(λe he=>absurd he (by simp)),λ_=>rfl⟩;have I1:=I.laid (a:=s.heap.objs.size) (o:=.own (s.heap.objs.size+1)) (h':=s.heap.push emptyDict) (t':=s.toks) (λb u q=>aG _ q) (aF _) ⟨_,e1⟩;refine I1.laid (a:=s.heap.objs.size+1) (o:=.ins C s.heap.objs.size []) (t':=s.toks) (λb u q=>aG _ q) (Nat.le_of_eq (Heap.size_push _ _)) ?_;have ne:s.heap.objs.size≠s.heap.objs.size+1:=aR (X1 _);refine⟨by rw[bL ne,bG],bh _,ne,e2,λ_=>none,(Heap.Ns1.of_empty e3).at λo q=>aG _ q,λ_=>True.intro,λy hy=>absurd rfl hy⟩
theorem XM{prog:Program}{w:World}{env:Env}{e:Expr}{f:Str}{pos:Pos}{s:Shared}{Q:Κ}(hb:attributeBase e f env (eval e env)=eval e env)
 (h:wpAny (model prog w) A (eval e env) (λo s₁=>wpAny (model prog w) A (getAttr o f true) Q E s₁) E s):wpAny (model prog w) A (eval (.Attribute e f pos) env) Q E s :=
 Attribute_any_ h (by rw[arm_eval_Attribute,hb])
end
noncomputable def Tn(K:Frag)(ta:TE)(f:Str):TE:=λσ H Q=>ta σ H λx H1=>∃a C dx fs v,x=.ref a/\H1 a=some (.ins C dx fs)/\Cls K C/\d7 K C f/\fs.lookup f=some v/\Q v H1
noncomputable def Xz(K:Frag)(ta tv:TE)(f:Str):TS:=λD σ H=>tv σ H λy H1=>ta σ H1 λx H2=>∃a C dx fs,x=.ref a/\H2 a=some (.ins C dx fs)/\Cls K C/\d7 K C f/\fs.length<1000 /\
 D.nx σ (upd H2 a (.ins C dx (j5 f y fs)))
section
variable{X:Cx}{o e value:Expr}{f:Str}{pos pos' tpos:Pos}{ta tv:TE}
theorem o_(he:PE X e ta)(hb:attributeBase e f X.env (eval e X.env)=eval e X.env):PE X (.Attribute e f pos) (Tn X.K ta f):=by
 intro pins s σ H Q I h;refine XM hb (thn (he pins s σ H _ I h) λu s1 h=>?_);obtain⟨x,H1,I1,rx,a,C,dx,fs,v,rfl,ea,c,n,l,q⟩:=h;obtain rfl:u=Value.ref a:=rx;exact Mu I1 ea c n l λu' s2 I2 ru=>⟨v,H1,I2,ru,q⟩
theorem uI(ha:PE X o ta)(hv:PE X value tv)(hs:swapsWith value (some (.Attribute o f pos')) pos.line X.env=pure false):PS X (.Assign [.Attribute o f pos'] value pos) (Xz X.K ta tv f):=by
 intro pins s σ H D I h;refine plainObj_wpAny_Assign_Attribute (thn (hv pins s σ H _ I h) λu s1 ⟨y,H1,I1,ry,q⟩=>thn (ha pins s1 σ H1 _ I1 q) λov s2 h=>?_) hs;obtain⟨x,H2,I2,rx,a,C,dx,fs,rfl,ea,c,n,l,q2⟩:=h;obtain rfl:ov=Value.ref a:=rx;exact K7 I2 ea c n l ry λs3 I3=>⟨σ,_,I3,q2⟩
end
section
variable{X:Cx}{pins:Ω}{σ:St}{H:Hp}{s:Shared}{A:Around}{E:Κ}{Q:Κ}{c:Value}{b:Bool}
inductive yj(K:Frag)(H:Hp):V->Value->Prop where
 |non:yj K H .non (.type "NoneType")
 |bl (x:Bool):yj K H (.bl x) (.type "bool")
 |int (i:Int):yj K H (.int i) (.type "int")
 |str (x:Str):yj K H (.str x) (.type "str")
 |flt (x:UInt64):yj K H (.flt x) (.type "float")
 |lst {a:Addr}{xs:Μ} (e:H a=some (.lst xs)):yj K H (.ref a) (.type "list")
 |frz {a:Addr}{o:Obj}{xs:Μ} (e:H a=some (.frz o (.lst xs))):yj K H (.ref a) (.type "list")
 |tup {a:Addr}{xs:Μ} (e:H a=some (.tup xs)):yj K H (.ref a) (.type "tuple")
 |dK {a:Addr}{kvs:List (Key×V)} (e:H a=some (.dK kvs)):yj K H (.ref a) (.type "dict")
 |ins {a C dx:Addr}{fs:List (Str×V)} (e:H a=some (.ins C dx fs)) (cl:Cls K C) (ha:findIn K (.ref C) "__class__" = some (some (.builtin "object.__class__")))
   (hn:specialIn K (.builtin "object.__class__") "__get__" = some (some (.builtin "getset_descriptor.__get__"))) (htk:takesIn K (.builtin "object.__class__")=some true)
   (hm:mroIn K C (.type "object")=some true):yj K H (.ref a) (.ref C)
theorem PX{x:V}{u t:Value}(I:Inv X pins σ H s)(rx:RelV x u)(ty:yj X.K H x t)(e:kitOne X.K t c=some b)(h:∀tk,Q (.bool b) { s with toks:=tk }) :
  wpAny (model X.prog X.w) A (call (.builtin "isinstance") [u,c]) Q E s:=by
 cases ty with
 |non=>cases(show u=Value.none from rx);exact kia_one PySem.W.kitx_none I.kIn True.intro e (λz=>nomatch z) h
 |bl y=>cases(show u=Value.bool y from rx);exact kia_one PySem.W.kitx_bool I.kIn True.intro e (λz=>nomatch z) h
 |int i=>obtain⟨t,q⟩:=(show ∃t,u=Value.int i t from rx);cases q;exact kia_one PySem.W.kitx_int I.kIn True.intro e (λz=>nomatch z) h
 |str y=>obtain⟨t,q⟩:=(show ∃t,u=Value.str y t from rx);cases q;exact kia_one PySem.W.kitx_str I.kIn True.intro e (λz=>nomatch z) h
 |flt y=>obtain⟨t,q⟩:=(show ∃t,u=Value.float y t from rx);cases q;exact kia_one PySem.W.kitx_float I.kIn True.intro e (λz=>nomatch z) h
 |@lst a xs ea =>
  cases(show u=Value.ref a from rx);obtain⟨_,_,n,_,h1⟩:=(show dh X.prog X.w H s.heap a (.lst xs)from I.hok a _ ea);exact kia_one kitx_list I.kIn ⟨_,h1,rfl⟩ e (λz=>nomatch z) h
 |@frz a ob xs ea =>
  cases(show u=Value.ref a from rx);obtain⟨_,_,_,n,_,h1⟩:=(show dh X.prog X.w H s.heap a (.frz ob (.lst xs))from I.hok a _ ea);exact kia_one kitx_list I.kIn ⟨_,h1,rfl⟩ e (λz=>nomatch z) h
 |@tup a xs ea =>
  cases(show u=Value.ref a from rx);obtain⟨_,_,_,p⟩:=(show dh X.prog X.w H s.heap a (.tup xs)from I.hok a _ ea);obtain⟨o,h1,h2,_⟩:=p;exact kia_one kitx_tuple I.kIn ⟨o,h1,h2⟩ e (λz=>nomatch z) h
 |@dK a kvs ea =>
  cases(show u=Value.ref a from rx);obtain⟨_,_,vs,_,p⟩:=(show dh X.prog X.w H s.heap a (.dK kvs)from I.hok a _ ea);obtain⟨o,es,ep,h1,h2,_⟩:=p;exact kia_one PySem.W.kitx_dict I.kIn ⟨o,h1,h2.1⟩ e (λz=>nomatch z) h
 |@ins a C dx fs ea cl ha hn htk hm =>
  cases(show u=Value.ref a from rx);obtain⟨mA,O,_⟩:=zJ I.hok ea;obtain⟨od,J,_⟩:=O.look;exact kia_one (PySem.W.kitx_own (cl.get _) cl.hd ha hn htk hm) I.kIn J e (λz=>nomatch z) h
end
structure eN(k:Nat)(A:Around):Prop where
 hd:A.handled=none
 dp:A.depth+3*k+5<recursionLimit
 un:A.units+16*k+200<cLine
theorem eN.mono{j k:Nat}{A:Around}(r:eN k A)(h:j<=k):eN j A:=⟨r.hd,by have:=r.dp;lia,by have:=r.un;lia⟩
theorem eN.md{k n:Nat}{A:Around}(h:eN n A)(e:k<=n:=by decide):eN k A:=h.mono e
theorem eN.deeper{k:Nat}{A:Around}(r:eN (k+1) A)(env:Env):eN k (A.deeper env) :=
 ⟨r.hd,by have:=r.dp;show A.depth+1+3*k+5<_;lia,by have:=r.un;show A.units+3+16*k+200<_;lia⟩
theorem K5{A:Around}{C:Addr}{us:Ξ}{kw:List (Str×Value)} : (A.under (.builtin "type.__call__" ⟨.ref C::us,kw⟩)).depth=A.depth+1:=by
 first|rfl|simp[Around.under,Code.weight,Code.isCreation,Code.isGuard,Code.isCaller,Code.frames,Code.isFrame,guardIds]
theorem KQ{A:Around}{C:Addr}{us:Ξ}{kw:List (Str×Value)} : (A.under (.builtin "type.__call__" ⟨.ref C::us,kw⟩)).units=A.units+1:=by
 first|rfl|simp[Around.under,Code.cUnits,Code.frames,Code.isFrame]
theorem eN.make{k:Nat}{A:Around}(r:eN (k+1) A)(C:Addr)(us:Ξ)(kw:List (Str×Value)):eN k (A.under (.builtin "type.__call__" ⟨.ref C::us,kw⟩)) :=
 ⟨r.hd,by have:=r.dp;rw[K5];lia,by have:=r.un;rw[KQ];lia⟩
theorem eN.depth{k:Nat}{A:Around}(r:eN k A):A.depth<recursionLimit:=by have:=r.dp;lia
theorem eN.units{k:Nat}{A:Around}(r:eN k A):A.units+64<cLine:=by have:=r.un;lia
noncomputable def Ei:TA:=λ_ H Q=>Q [] H
noncomputable def CT(ta:TE)(tr:TA):TA:=λσ H Q=>ta σ H λx H1=>tr σ H1 λxs H2=>Q (x::xs) H2
section
variable{X:Cx}{e:Expr}{es:List Expr}{te:TE}{t:TA}{pos:Pos}
theorem bF:PA X [] Ei:=λ_ _ _ _ H Q I h=>Calls.spliced_nil ⟨[],H,I,.nil,h⟩
theorem bD(ha:PE X e te)(hr:PA X es t)(hs:starEach (e::es) X.env=(false,eval e X.env)::starEach es X.env:=by rfl):PA X (e::es) (CT te t):=by
 intro pos pins s σ H Q I h;rw[hs];show wpAny _ _ (spliced ((false,eval e X.env)::backTo pos (starEach es X.env))) _ _ s;refine Calls.spliced_cons (thn (ha pins s σ H _ I h) λu s1 hP=>?_);obtain⟨x,H1,I1,r1,q1⟩:=hP;exact thn (hr pos pins s1 σ H1 _ I1 q1) λus s2 hP=>by obtain⟨xs,H2,I2,r2,q2⟩:=hP;exact⟨x::xs,H2,I2,.cons r1 r2,q2⟩
noncomputable def WQ(t:TA):TE:=λσ H Q=>t σ H λxs H1=>xs.length<=sizeLine/\∀p,H1 p=none->Q (.ref p) (upd H1 p (.tup xs))
noncomputable def Vh(t:TA):TE:=λσ H Q=>t σ H λxs H1=>xs.length<=sizeLine/\∀p,H1 p=none->Q (.ref p) (upd H1 p (.lst xs))
theorem oY{x1}(h:PA X es t):PE X (.Tuple es x1 pos) (WQ t):=by
 intro pins s σ H Q I hq;refine wpAny_Tuple_spliced (thn (h pos pins s σ H _ I hq) λus s1 ⟨xs,H1,I1,r,z,q⟩=>⟨by rw[<- r.length];exact z,?_⟩);have hf:H1 s1.heap.objs.size=none:=I1.hok.fresh (aF _);refine⟨.ref s1.heap.objs.size,upd H1 s1.heap.objs.size (.tup xs),I1.laid (t':=s1.toks) (λb u e=>aG _ e) (aF _) ?_,rfl,q _ hf⟩;exact⟨z,us,r,⟨_,aY _ rfl,rfl,_,rfl⟩⟩
theorem qP(h:PA X es t):PE X (.List es pos) (Vh t):=by
 intro pins s σ H Q I hq;refine wpAny_List_spliced (thn (h pos pins s σ H _ I hq) λus s1 ⟨xs,H1,I1,r,z,q⟩=>⟨by rw[<- r.length];exact z,?_⟩);have hf:H1 s1.heap.objs.size=none:=I1.hok.fresh (aF _);refine⟨.ref s1.heap.objs.size,upd H1 s1.heap.objs.size (.lst xs),I1.laid (t':=s1.toks) (λb u e=>aG _ e) (aF _) ?_,rfl,q _ hf⟩;exact⟨z,us,0,r,aY _ rfl⟩
end
noncomputable abbrev Sp:=Μ->Hp->VK->XK->Prop
noncomputable abbrev CXT:=List Env->Hp->Shared->XK->Value->Shared->Prop
structure Bu(P:Program)(w:World)(K:Frag)(mg:Str->Ζ)(base:Heap)(A:Around)(outer:List Env)(s:Shared)(H:Hp):Prop where
 frames:A.frames=some outer
 mod:Mod K mg base
 bs:∀b o,base.get? b=some o->s.heap.get? b=some o/\H b=none
 bsz:base.objs.size<=s.heap.objs.size
 funs:s.heap.FunFrames base outer
 frf:∀b∈frs outer,H b=none
 hok:HOk P w H s.heap
 bare:AllBare s.gens
noncomputable def CE(outer:List Env)(P:Program)(w:World)(H:Hp)(s:Shared)(Q:VK)(u:Value)(s':Shared):Prop :=
 ∃v H',s'.os=s.os/\AllBare s'.gens/\Un (frs outer) [] H H' s.heap s'.heap/\HOk P w H' s'.heap/\RelV v u/\Q v H'
noncomputable def CR(CX:CXT)(outer:List Env)(P:Program)(w:World)(H:Hp)(s:Shared)(Q:VK)(E:XK)(r:Result)(s':Shared):Prop :=
 match r with
 |.ok (.ret u)=>CE outer P w H s Q u s'
 |.ok _=>False
 |.error e=>CX outer H s E e s'
structure cC(P:Program)(w:World)(K:Frag)(mg:Str->Ζ)(base:Heap)(CX:CXT)(k:Nat)(f:Addr)(fd:FuncData)(ps:Β)(sp:Sp):Prop where
 len:∀vs H Q E,sp vs H Q E->vs.length=ps.length
 run:∀(A:Around)(outer:List Env)(s:Shared)(H:Hp)(args:Args)(us:Ξ)(vs:Μ)(Q:VK)(E:XK),eN k A->Bu P w K mg base A outer s H->BindsTo s fd args (ps.zip us)->Vals vs us->sp vs H Q E ->
  codeAny (model P w) A (.call (.ref f) args) (CR CX outer P w H s Q E) s
theorem cC.imp{P:Program}{w:World}{K:Frag}{mg:Str->Ζ}{base:Heap}{CX:CXT}{k:Nat}{f:Addr}{fd:FuncData}{ps:Β}{sp sp':Sp}(F:cC P w K mg base CX k f fd ps sp)
 (h:∀vs H Q E,sp' vs H Q E->sp vs H Q E):cC P w K mg base CX k f fd ps sp' :=
 ⟨λvs H Q E q=>F.len vs H Q E (h _ _ _ _ q),λA outer s H args us vs Q E hr he hb hv hs=>F.run A outer s H args us vs Q E hr he hb hv (h _ _ _ _ hs)⟩
theorem Bu.make{P:Program}{w:World}{K:Frag}{mg:Str->Ζ}{base:Heap}{A:Around}{outer:List Env}{s:Shared}{H:Hp}(e:Bu P w K mg base A outer s H)(C:Addr)(us:Ξ)(kw:List (Str×Value)) :
  Bu P w K mg base (A.under (.builtin "type.__call__" ⟨.ref C::us,kw⟩)) outer s H:=⟨by first|exact e.frames|(simpa[Around.under,Code.envs,Code.isFrame,pushEnvs]using e.frames),e.mod,e.bs,e.bsz,e.funs,e.frf,e.hok,e.bare⟩
section
variable{X:Cx}{pins:Ω}{σ:St}{H:Hp}{s s':Shared}
theorem Inv.env0(I:Inv X pins σ H s):Bu X.prog X.w X.K X.mg X.base X.A X.stack s H :=
 ⟨I.ok.frames,I.ok.mod,I.bs,aM I.ok.bsz I.sz,I.stack,I.stkFree,I.hok,I.bare⟩
theorem Inv.after{Q:VK}{u:Value}(I:Inv X pins σ H s)(h:CE X.stack X.prog X.w H s Q u s'):EP X pins σ Q u s':=by
 obtain⟨v,H',os,bare,un,hok,r,q⟩:=h;obtain⟨hh,g,d,t,os'⟩:=s';obtain rfl:os'=s.os:=os;exact⟨v,H',I.call (h':=hh) (g':=g) (d':=d) (t':=t) (ch:=[]) un hok bare (λb z=>absurd z (by simp)),r,q⟩
end
noncomputable def acy(sp:Sp)(dvs:Μ)(E:XK)(t:TA):TE:=λσ H Q=>t σ H λvs H1=>sp (vs++dvs) H1 Q E
noncomputable def Ys(C:Addr)(m:Str)(sp:Sp)(dvs:Μ)(E:XK)(ta:TE)(t:TA):TE:=λσ H Q=>ta σ H λx H1=>∃a dx fs,x=.ref a/\H1 a=some (.ins C dx fs)/\fs.lookup m=none /\
 t σ H1 λvs H2=>sp (x::(vs++dvs)) H2 Q E
noncomputable def Binds(K:Frag)(fd:FuncData)(ps:Β)(ds:Ξ):Prop :=
 ∀(s:Shared)(us:Ξ),K.In s.heap->(us++ds).length=ps.length->BindsTo s fd ⟨us,[]⟩ (ps.zip (us++ds))
theorem Binds.all{K:Frag}{fd:FuncData}{ps:Β}(h:∀us:Ξ,us.length=ps.length->bindArgs fd ⟨us,[]⟩=pure (ps.zip us)):Binds K fd ps []:=λs us _ hl=>by
 rw[List.append_nil]at hl ⊢;exact .of_eq (h us hl)
noncomputable def Passes(CX:CXT)(X:Cx)(E:XK):Prop:=∀(pins:Ω)(σ:St)(H:Hp)(s:Shared)(e:Value)(s':Shared),Inv X pins σ H s->CX X.stack H s E e s'->X.xe e s'
section
variable{X:Cx}{CX:CXT}{k:Nat}{f C:Addr}{fd:FuncData}{ps:Β}{sp:Sp}{dvs:Μ}{ds:Ξ}{E:XK}{x m:Str}{p pos apos:Pos}{e o:Expr}{es:List Expr}{ta:TE}{t:TA}
theorem Iv{pins:Ω}{σ:St}{H:Hp}{s:Shared}{Q:VK}{us:Ξ}{vs:Μ}(F:cC X.prog X.w X.K X.mg X.base CX k f fd ps sp)(hr:eN k X.A)(hb:Binds X.K fd ps ds)(hd:Vals dvs ds)(hx:Passes CX X E)
 (I:Inv X pins σ H s)(r:Vals vs us)(h:sp (vs++dvs) H Q E):wpAny (model X.prog X.w) X.A (call (.ref f) us) (EP X pins σ Q) X.xe s:=by
 have r2:Vals (vs++dvs) (us++ds):=r.append hd;have hl:(us++ds).length=ps.length:=by rw[<- r2.length];exact F.len _ _ _ _ h
 refine wpAny_call (codeAny_mono (F.run X.A X.stack s H ⟨us,[]⟩ (us++ds) (vs++dvs) Q E hr I.env0 (hb s us I.kIn hl) r2 h) λr s' hq=>?_);cases r with
 |error e=>exact hx pins σ H s e s' I hq
 |ok fl =>
  cases fl with
  |ret u=>exact I.after hq
  |next=>exact False.elim hq
  |brk=>exact False.elim hq
  |cont=>exact False.elim hq
theorem Wi(F:cC X.prog X.w X.K X.mg X.base CX k f fd ps sp)(hr:eN k X.A)(hg:Gl X x)(hm:X.mg x=some (.ref f))(hk:keepIn X.K (.ref f)=true)(hb:Binds X.K fd ps ds)(hd:Vals dvs ds)(hx:Passes CX X E)
 (ha:PA X (e::es) t)(hdb:(x==("__debug__" : Str))=false:=by decide)(he:starEach (e::es) X.env=(false,eval e X.env)::starEach es X.env:=by rfl)(hpl:(backTo pos (starEach es X.env)).any (·.1)=false:=by rfl) :
  PE X (.Call (.Name x p) (e::es) [] pos) (acy sp dvs E t):=by
 intro pins s σ H Q I h;refine wpAny_Call_Name_kw (qH I hg hm ?_ hdb);refine callWith_K (h₀:=X.base) I.ok.mod.kin hk (thn (ha pos pins s σ H _ I h) λus s1 ⟨vs,H1,I1,r,q⟩=>⟨I1.kIn,?_⟩) he hpl;exact Iv F hr hb hd hx I1 r q
theorem XH{pl:Sem Bool}(he:PE X o ta)(c:Cls X.K C)(hm:Meth X.K C m f)(F:cC X.prog X.w X.K X.mg X.base CX k f fd ps sp)(hr:eN k X.A)(hb:Binds X.K fd ps ds)(hd:Vals dvs ds)(hx:Passes CX X E)(ha:PA X (e::es) t)
 (hst:starEach (e::es) X.env=(false,eval e X.env)::starEach es X.env:=by rfl)(hpl:(backTo pos (starEach es X.env)).any (·.1)=false:=by rfl)
 (ht:eval (.Call (.Attribute o m apos) (e::es) [] pos) X.env=(do
   let ov <- eval o X.env
   standAt apos.atName
   let(f,first) <- holding [ov] (getMethod ov m pl)
   callWith pos f first (backTo pos (starEach (e::es) X.env)) (backToKw pos (keywordEach [] X.env))):=by rfl) :
  PE X (.Call (.Attribute o m apos) (e::es) [] pos) (Ys C m sp dvs E ta t):=by
 intro pins s σ H Q I h;refine methodCall_KW (pl:=pl) (thn (he pins s σ H _ I h) λu s1 hP=>?_) ht;obtain⟨x,H1,I1,rx,a,dx,fs,ex,ea,l,q⟩:=hP;subst ex;obtain rfl:u=Value.ref a:=rx;refine Ba I1 ea c hm l ?_;refine callWith_K (first:=[.ref a]) (h₀:=X.base) I.ok.mod.kin hm.kp (thn (ha pos pins s1 σ H1 _ I1 q) λus s2 ⟨vs,H2,I2,r,q2⟩=>⟨I2.kIn,?_⟩) hst hpl;exact Iv (us:=.ref a::us) (vs:=.ref a::vs) F hr hb hd hx I2 (.cons rfl r) q2
theorem U_{pl:Sem Bool}(he:PE X o ta)(c:Cls X.K C)(hm:Meth X.K C m f)(F:cC X.prog X.w X.K X.mg X.base CX k f fd ps sp)(hr:eN k X.A)(hb:Binds X.K fd ps ds)(hd:Vals dvs ds)(hx:Passes CX X E)
 (ht:eval (.Call (.Attribute o m apos) [] [] pos) X.env=(do
   let ov <- eval o X.env
   standAt apos.atName
   let(f,first) <- holding [ov] (getMethod ov m pl)
   callWith pos f first (backTo pos (starEach [] X.env)) (backToKw pos (keywordEach [] X.env))):=by rfl) :
  PE X (.Call (.Attribute o m apos) [] [] pos) (Ys C m sp dvs E ta Ei):=by
 intro pins s σ H Q I h;refine methodCall_KW (pl:=pl) (thn (he pins s σ H _ I h) λu s1 hP=>?_) ht;obtain⟨x,H1,I1,rx,a,dx,fs,ex,ea,l,q⟩:=hP;subst ex;obtain rfl:u=Value.ref a:=rx;refine Ba I1 ea c hm l ?_;exact PySem.W.callWith_K0 (first:=[.ref a]) I1.kIn hm.kp (Iv (us:=[.ref a]) (vs:=[.ref a]) F hr hb hd hx I1 (.cons rfl .nil) q)
structure Mk(K:Frag)(C f:Addr):Prop where
 makes:makesIn K C=true
 init:findIn K (.ref C) "__init__" = some (some (.ref f))
 fn:isFn K (.ref f)=true
 kp:keepIn K (.ref C)=true
end
structure bV(N P:Β)(sc:Scope):Prop where
 kind:sc.kind=.function
 co:sc.isCoroutine=false
 gen:sc.isGenerator=false
 nd:N.Nodup
 pre:N.take P.length=P
 par:∀x∈P,sc.names.lookup x=some .local\/sc.names.lookup x=some .cell
 nofree:∀y∈sc.names,y.2≠.free
theorem Fe{kindOf:Str->Option NameKind}{x:Str} : ∀{binds:List (Str×Value)}{m:Str->Ζ},(∀v,(x,v)∉binds)->bindL kindOf binds m x=m x
 |[],_,_=>rfl
 |(n,v)::r,m,h=>by
  unfold bindL;rw[Fe λw hw=>h w (aH _ hw)];split
  .have:x≠n:=by rintro rfl;exact h v aO
   simp[this]
  .rfl
theorem Fv{kindOf:Str->Option NameKind}{x:Str} : ∀{binds:List (Str×Value)}{m:Str->Ζ},(∀v,(x,v)∉binds)->bindC kindOf binds m x=m x
 |[],_,_=>rfl
 |(n,v)::r,m,h=>by
  unfold bindC;rw[Fv λw hw=>h w (aH _ hw)];split
  .rfl
  .have:x≠n:=by rintro rfl;exact h v aO
   simp[this]
theorem FJ{kindOf:Str->Option NameKind}{x:Str}{v:Value} : ∀{P:Β}{vs:Ξ}{i:Nat}{m:Str->Ζ},P.Nodup->P[i]?=some x->vs[i]?=some v->kindOf x=some .local ->
  bindL kindOf (P.zip vs) m x=some v
 |[],_,_,_,_,h,_,_=>by simp at h
 |_::_,[],_,_,_,_,h,_=>by simp at h
 |p::P,w::vs,0,m,nd,h1,h2,hk=>by
  simp at h1 h2;subst h1;subst h2;show bindL kindOf ((p,w)::P.zip vs) m p=_;unfold bindL;rw[Fe λv hv=>(List.nodup_cons.mp nd).1 (List.of_mem_zip hv).1,ZY hk];simp
 |p::P,w::vs,i+1,m,nd,h1,h2,hk=>by
  show bindL kindOf ((p,w)::P.zip vs) m x=_;unfold bindL;exact FJ (i:=i) (List.nodup_cons.mp nd).2 (by simpa using h1) (by simpa using h2) hk
theorem Eo{kindOf:Str->Option NameKind}{x:Str}{v:Value} : ∀{P:Β}{vs:Ξ}{i:Nat}{m:Str->Ζ},P.Nodup->P[i]?=some x->vs[i]?=some v->kindOf x≠some .local ->
  bindC kindOf (P.zip vs) m x=some v
 |[],_,_,_,_,h,_,_=>by simp at h
 |_::_,[],_,_,_,_,h,_=>by simp at h
 |p::P,w::vs,0,m,nd,h1,h2,hk=>by
  simp at h1 h2;subst h1;subst h2;show bindC kindOf ((p,w)::P.zip vs) m p=_;unfold bindC;rw[Fv λv hv=>(List.nodup_cons.mp nd).1 (List.of_mem_zip hv).1,ZZ hk];simp
 |p::P,w::vs,i+1,m,nd,h1,h2,hk=>by
  show bindC kindOf ((p,w)::P.zip vs) m x=_;unfold bindC;exact Eo (i:=i) (List.nodup_cons.mp nd).2 (by simpa using h1) (by simpa using h2) hk
noncomputable def start(N:Β)(vs:Μ):St:=vs.map some++List.replicate (N.length-vs.length) none
noncomputable def Cj(CX:CXT)(P:Program)(w:World)(K:Frag)(mg:Str->Ζ)(base:Heap)(N:Β)(qual:Str)(scope:Scope)(f:Addr)(cd:Value)(A:Around)(outer:List Env)(s:Shared)(H:Hp)(E:XK):Cx where
 prog:=P
 w:=w
 K:=K
 mg:=mg
 base:=base
 A:=A.deeper (envOfC qual scope s.heap.objs.size f cd)
 N:=N
 s₀:=s
 H₀:=H
 env:=envOfC qual scope s.heap.objs.size f cd
 outer:=outer
 stack:=envOfC qual scope s.heap.objs.size f cd::outer
 ex:=[]
 calm:=true
 fn:=λ_=>true
 pn:=[]
 xe:=λe s'=>wpAny (model P w) (A.deeper (envOfC qual scope s.heap.objs.size f cd)) (leaving (envOfC qual scope s.heap.objs.size f cd) e) (λ_ s''=>CX outer H s E e s'') (λe' s''=>CX outer H s E e' s'') s'
theorem Kc{sc:Scope}{n:Nat}{x:Str}(h:sc.names.lookup x=some .cell):∃c,(cellsFrom n sc.names []).lookup x=some c:=by
 have q:=PySem.W.cellsFrom_some sc.names n [] (.inl h);exact Option.isSome_iff_exists.mp q
theorem Ph{CX:CXT}{P:Program}{w:World}{K:Frag}{mg:Str->Ζ}{base:Heap}{N ps:Β}{qual:Str}{scope:Scope}{f:Addr}{cd:Value}{A:Around}{outer:List Env}{s s1:Shared}{H:Hp}{E:XK}{us:Ξ}{vs:Μ}
 (S:bV N ps scope)(hd:A.handled=none)(e0:Bu P w K mg base A outer s H)(hl:vs.length=ps.length)(r:Vals vs us)
 (x:InCallC s s.heap.objs.size (bindL (envOfC qual scope s.heap.objs.size f cd).kindOf (ps.zip us) λ_=>none) (cellsFrom (s.heap.objs.size+1) scope.names []) (bindC (envOfC qual scope s.heap.objs.size f cd).kindOf (ps.zip us) λ_=>none) s1) :
  Inv (Cj CX P w K mg base N qual scope f cd A outer s H E) [] (start N vs) H s1:=by
 have hpl:ps.length<=N.length:=by have:=ZH List.length S.pre;rw[bf]at this;lia
 obtain⟨h1,tk,rfl,hk⟩:=x.done;have noA:∀b:Addr,b∉(Cj CX P w K mg base N qual scope f cd A outer s H E).ex:=λb z=>absurd (show b∈([] : Ε)from z) (by simp);refine⟨⟨e0.mod,S.kind,rfl,rfl,aF _,λy z c h1 h2=>?_,λy hy=>?_,λy c _ h=>?_,λ_=>hd,Around.frames_deeper e0.frames,.inr ⟨rfl,rfl⟩,λb z=>absurd z (noA b),e0.bs,e0.bsz,λb _ _=>noA b,λb z=>absurd z (noA b),e0.funs,e0.frf⟩,
  rfl,e0.bare,Un.kept hk,⟨_,x.toInCall.ns,λi y v h1 h2 h3=>?_⟩,λy c h=>⟨_,x.cell y c h⟩,e0.hok.fresh (aF _),λy c h=>?_,λp hp=>absurd (show p∈([] : Ω)from hp) (by simp),e0.hok.kept hk,?_⟩
 .exact name_of_addr x.apart (PySem.mem_of_lookup h1) (PySem.mem_of_lookup h2)
 .have hy:scope.names.lookup y=some .cell\/scope.names.lookup y=some .free:=hy;rcases hy with hy|hy
  .exact Kc hy
  .exact absurd rfl (S.nofree _ (PySem.mem_of_lookup hy))
 .exact Y2 (x.above y c (PySem.mem_of_lookup h))
 .have hi:i<vs.length:=by
   unfold start at h2;by_cases hi:i<vs.length
   .exact hi
   .rw[aC (by simpa using hi)]at h2;rw[List.getElem?_replicate]at h2;split at h2<;>cases h2
  have ha:vs[i]?=some v:=by
   unfold start at h2;rw[aD (by simpa using hi),aq]at h2;cases e:vs[i]? with
   |none=>rw[e]at h2;cases h2
   |some a=>rw[e]at h2;cases h2;rfl
  obtain⟨u,hu,rv⟩:=r.get ha;have hp:ps[i]?=some y:=by
   rw[<- S.pre,List.getElem?_take_of_lt (aU hi (Nat.le_of_eq hl))];exact h1
  have ndP:ps.Nodup:=by rw[<- S.pre];exact S.nd.sublist (List.take_sublist _ _)
  refine⟨u,rv,?_⟩;rcases S.par y (aB hp)with k|k
  .exact .inl ⟨k,FJ ndP hp hu k⟩
  .obtain⟨c,e⟩:=Kc (n:=s.heap.objs.size+1) k;refine .inr ⟨.inl k,c,e,?_⟩;have q:=x.cell y c e;rw[Eo ndP hp hu (by show scope.names.lookup y≠_;rw[k];decide)]at q;exact q
 .exact e0.hok.fresh (Y2 (x.above y c (PySem.mem_of_lookup h)))
 .unfold start;show _=N.length;rw[aA,ak,aN];lia
theorem Vb{CX:CXT}{P:Program}{w:World}{K:Frag}{mg:Str->Ζ}{base:Heap}{k:Nat}{f:Addr}{name qual:Str}{params:Arguments}{body:List Stmt}{scope:Scope}{dV kV doc pm cdv ct oc:Value}{an od:Η}
 {osl:Array (Ζ)}{N ps:Β}{sp:Sp}(lk:K.lookup f=some ⟨oc,od,.func (PySem.W.fnOf name qual params body scope dV kV doc pm an cdv ct),osl⟩)(hcd:codeIn K cdv qual=true)(S:bV N ps scope)
 (len:∀vs H Q E,sp vs H Q E->vs.length=ps.length)
 (hbody:∀(A:Around)(outer:List Env)(s:Shared)(H:Hp)(vs:Μ)(Q:VK)(E:XK),eN k (A.deeper (envOfC qual scope s.heap.objs.size f cdv))->sp vs H Q E ->
   ∃t,PSs (Cj CX P w K mg base N qual scope f cdv A outer s H E) body t/\t { nx:=λ_ H'=>Q .non H',rt:=Q } (start N vs) H) :
  cC P w K mg base CX (k+1) f (PySem.W.fnOf name qual params body scope dV kV doc pm an cdv ct) ps sp:=by
 refine⟨len,λA outer s H args us vs Q E hr e0 hb r hsp=>?_⟩;have hl:=len _ _ _ _ hsp;have KX:K.In s.heap:=e0.mod.kin.keeps λb o e=>(e0.bs b o e).1;have lim:s.heap.NoLimit:=e0.mod.nolimit.keeps λb o e=>(e0.bs b o e).1;have hkind:∀y∈ps.zip us,scope.names.lookup y.1=some .local\/(scope.names.lookup y.1=some .cell/\((cellsFrom (s.heap.objs.size+1) scope.names []).lookup y.1).isSome=true):=λ⟨n,v⟩ hy=>by
  rcases S.par n (List.of_mem_zip hy).1 with q|q
  .exact .inl q
  .exact .inr ⟨q,PySem.W.cellsFrom_some _ _ _ (.inl q)⟩
 refine codeAny_call_function hr.depth (KX _ _ lk) rfl S.co S.gen rfl (PySem.W.codeRec_of KX hcd) (hb _ _ _ _ ?_);refine wpAny_newFunctionEnv_cells S.kind hkind λenv he s1 x=>?_;subst he;refine⟨lim.keeps x.toInCall.keep,codeAny_func ?_⟩;obtain⟨t,ht,hq⟩:=hbody A outer s H vs Q E (hr.deeper _) hsp;have I:Inv (Cj CX P w K mg base N qual scope f cdv A outer s H E) [] (start N vs) H s1:=Ph S hr.hd e0 hl r x;refine wpAny_mono (ht [] s1 (start N vs) H _ I hq) (λfl s' hs=>?_) λe s' hs=>hs;have fin:∀{σ':St}{H':Hp}{v:V}{u:Value},Inv (Cj CX P w K mg base N qual scope f cdv A outer s H E) [] σ' H' s'->RelV v u->Q v H'->CE outer P w H s Q u s' :=
  λ{σ' H' v u}J rv q=>⟨v,H',J.os,J.bare,J.base,J.hok,rv,q⟩
 cases fl with
 |ret u =>
  obtain⟨v,σ',H',J,rv,q⟩:=hs;exact fin J rv q
 |next =>
  obtain⟨σ',H',J,q⟩:=hs;exact fin (v:=V.non) (u:=Value.none) J rfl q
 |brk =>
  obtain⟨_,_,_,q⟩:=hs;exact False.elim q
 |cont =>
  obtain⟨_,_,_,q⟩:=hs;exact False.elim q
section
variable{X:Cx}{x:Str}{p pos:Pos}{e:Expr}{es:List Expr}{t:TA}{id T:String}{r:Μ->Hp->VK->Prop}
noncomputable def tCB(r:Μ->Hp->VK->Prop)(t:TA):TE:=λσ H Q=>t σ H λvs H1=>r vs H1 Q
theorem cF(hc:fY X (.builtin id) r)(hg:Gl X x)(hm:X.mg x=none)(hv:bootBuiltins x=some (.builtin id))(ha:PA X (e::es) t)(hn:x ≠ "__name__" := by decide)(hdb:(x==("__debug__" : Str))=false:=by decide)
 (he:starEach (e::es) X.env=(false,eval e X.env)::starEach es X.env:=by rfl)(hpl:(backTo pos (starEach es X.env)).any (·.1)=false:=by rfl):PE X (.Call (.Name x p) (e::es) [] pos) (tCB r t):=by
 intro pins s σ H Q I h;refine wpAny_Call_Name_kw (uG I hg hm hv ?_ hn hdb);exact PyProof.Rows.callWith_builtin1 (thn (ha pos pins s σ H _ I h) λus s1 hP=>by obtain⟨vs,H1,I1,r1,q1⟩:=hP;exact hc pins s1 σ H1 vs us Q I1 r1 q1) he hpl
theorem qd(hc:fY X (.type T) r)(hg:Gl X x)(hm:X.mg x=none)(hv:bootBuiltins x=some (.type T))(ha:PA X (e::es) t)(hn:x ≠ "__name__" := by decide)(hdb:(x==("__debug__" : Str))=false:=by decide)
 (he:starEach (e::es) X.env=(false,eval e X.env)::starEach es X.env:=by rfl)(hpl:(backTo pos (starEach es X.env)).any (·.1)=false:=by rfl):PE X (.Call (.Name x p) (e::es) [] pos) (tCB r t):=by
 intro pins s σ H Q I h;refine wpAny_Call_Name_kw (uG I hg hm hv ?_ hn hdb);exact PyProof.Rows.callWith_type1 (thn (ha pos pins s σ H _ I h) λus s1 hP=>by obtain⟨vs,H1,I1,r1,q1⟩:=hP;exact hc pins s1 σ H1 vs us Q I1 r1 q1) he hpl
end
end L2
namespace HT
open PySem PyProof.Rows
section
variable{prog:Program}{w:World}{A:Around}{E:Κ}{s:Shared}
noncomputable def sIx(n d:Nat):Option Int->Nat
 |none=>d
 |some v=>if v<0 then(v+(n:Int)).toNat else min v.toNat n
theorem Ov(n d k:Nat):sIx n d (some (k:Int))=min k n:=by
 show(if(k:Int)<0 then((k:Int)+(n:Int)).toNat else min (k:Int).toNat n)=min k n;rw[ZZ (Int.not_lt_of_ge (Wp _)),Int.toNat_natCast]
end
end HT
namespace L2
open PySem PySem.Spec PyProof.Rows
noncomputable abbrev TO:=St->Hp->(Option Int->Hp->Prop)->Prop
noncomputable def PO(X:Cx)(e:Option Expr)(t:TO):Prop :=
 ∀(pins:Ω)(s:Shared)(σ:St)(H:Hp)(Q:Option Int->Hp->Prop),Inv X pins σ H s->t σ H Q ->
  wpAny (model X.prog X.w) X.A (evalPart e X.env) (λu s'=>∃o H',Inv X pins σ H' s'/\IsPart u o/\Q o H') X.xe s
noncomputable def Ip:TO:=λ_ H Q=>Q none H
noncomputable def Oc(t:TE):TO:=λσ H Q=>t σ H λx H1=>∃i,x=.int i/\Q (some i) H1
theorem intsAre_of{ns:List Int} : ∀{us:Ξ},Vals (ns.map V.int) us->IntsAre us ns:=by
 induction ns with
 |nil=>intro us r;rw[List.map_nil]at r;cases r;exact .nil
 |cons n ns ih =>
  intro us r;rw[List.map_cons]at r;cases r with
  |cons r1 r2 =>
   obtain⟨t,e⟩:=r1;subst e;exact .cons n t (ih r2)
section
variable{X:Cx}{e:Expr}{te:TE}{lo hi:Option Expr}{tl th:TO}{pos p2:Pos}
theorem O1(h:PE X e te):PO X (some e) (Oc te):=by
 intro pins s σ H Q I hw;rw[evalPart_some];refine thn (h pins s σ H _ I hw) λu s1 hP=>?_;obtain⟨x,H1,I1,r1,q1⟩:=hP;obtain⟨i,rfl,q⟩:=q1;obtain⟨t,rfl⟩:=r1;exact⟨some i,H1,I1,.int i t,q⟩
noncomputable def SlR(X:Cx)(r:V->Option Int->Option Int->Hp->VK->Prop):Prop :=
 ∀(pins:Ω)(s:Shared)(σ:St)(H:Hp)(x:V)(v vl vu:Value)(lo hi:Option Int)(sl:Addr)(Q:VK),Inv X pins σ H s->RelV x v->s.heap.IsSliceOf sl vl vu .none->IsPart vl lo->IsPart vu hi->r x lo hi H Q ->
  ∃T id,typeLookup (.type T) "__getitem__" = pure (some (.builtin id))/\s.TypeIs v T/\wpAny (model X.prog X.w) X.A (getItem v (.ref sl)) (EP X pins σ Q) X.xe s
noncomputable def tSl(r:V->Option Int->Option Int->Hp->VK->Prop)(te:TE)(tl th:TO):TE:=λσ H Q=>te σ H λx H1=>tl σ H1 λl H2=>th σ H2 λu H3=>r x l u H3 Q
theorem SQ{r:V->Option Int->Option Int->Hp->VK->Prop}(hr:SlR X r)(he:PE X e te)(hl:PO X lo tl)(hu:PO X hi th):PE X (.Subscript e (.Slice lo hi none p2) pos) (tSl r te tl th):=by
 intro pins s σ H Q I h;refine Subscript_ (thn (he pins s σ H _ I h) λv s1 hP=>?_);obtain⟨x,H1,I1,r1,q1⟩:=hP;refine wpAny_Slice (thn (hl pins s1 σ H1 _ I1 q1) λvl s2 ⟨l,H2,I2,pl,q2⟩=>thn (hu pins s2 σ H2 _ I2 q2) λvu s3 hP=>?_);obtain⟨u,H3,I3,pu,q3⟩:=hP;rw[evalPart_none];refine ZT ?_;have I4:Inv X pins σ H3 { s3 with heap:=s3.heap.push { cls:=.type "slice",data:=.fields #[vl,vu,.none] } }:=I3.kept (t':=s3.toks) λb ob q=>aG _ q;obtain⟨T,id,hT,ht,hg⟩:=hr pins { s3 with heap:=s3.heap.push { cls:=.type "slice",data:=.fields #[vl,vu,.none] } } σ H3 x v vl vu l u s3.heap.objs.size Q I4 r1 (Heap.IsSliceOf.new ..) pl pu q3;show wpAny (model X.prog X.w) X.A (subscriptTail e (.Slice lo hi none p2) v (.ref s3.heap.objs.size)) (EP X pins σ Q) X.xe { s3 with heap:=s3.heap.push { cls:=.type "slice",data:=.fields #[vl,vu,.none] } };exact tail_any (ops:=[.ref s3.heap.objs.size,v]) ht hT hg (by with_unfolding_all rfl)
noncomputable def Pz(xs:Μ)(lo hi:Option Int):Μ:=(xs.drop (HT.sIx xs.length 0 lo)).take (HT.sIx xs.length xs.length hi-HT.sIx xs.length 0 lo)
theorem yI(xs:Μ)(lo hi:Option Int):(Pz xs lo hi).length<=xs.length:=by
 unfold Pz;rw[bf,List.length_drop];lia
end
noncomputable def ixN(n:Nat)(i:Int):Option Nat:=if 0<=i then(if i<n then some i.toNat else none)else if -(n:Int)<=i then some (i+n).toNat else none
noncomputable def atI{α:Type}(xs:List α)(i:Int):Option α:=(ixN xs.length i).bind λj=>xs[j]?
theorem V7{n:Nat}{i:Int}{j:Nat}(h:ixN n i=some j):seqIndex? i n=some j/\j<n/\-(n:Int)<=i/\i<n:=by
 unfold ixN at h;by_cases h0:0<=i
 .rw[ZY h0]at h;by_cases h1:i<n
  .rw[ZY h1]at h;have e:i.toNat=j:=Option.some.inj h;exact⟨by rw[seqIndex_of h0 h1,e],by lia,by lia,h1⟩
  .rw[ZZ h1]at h;cases h
 .rw[ZZ h0]at h;by_cases h1 : -(n:Int)<=i
  .rw[ZY h1]at h;have e:(i+n).toNat=j:=Option.some.inj h;exact⟨by rw[seqIndex_neg (Int.lt_of_not_ge h0) h1,e],by lia,h1,by lia⟩
  .rw[ZZ h1]at h;cases h
theorem GC{α:Type}{xs:List α}{i:Int}{v:α}(h:atI xs i=some v):∃j,seqIndex? i xs.length=some j/\xs[j]?=some v/\j<xs.length/\-(xs.length:Int)<=i/\i<xs.length:=by
 unfold atI at h;cases e:ixN xs.length i with
 |none=>rw[e]at h;cases h
 |some j =>
  rw[e]at h;obtain⟨h1,h2,h3,h4⟩:=V7 e;exact⟨j,h1,h,h2,h3,h4⟩
theorem b_{α:Type}{xs:List α}{j:Nat}{v:α}(h:xs[j]?=some v):atI xs (j:Int)=some v:=by
 have hj:j<xs.length:=(ao.mp h).1;have e:ixN xs.length (j:Int)=some j:=by
  unfold ixN;rw[ZY (Wp _),ZY (by lia)];simp
 unfold atI;rw[e];exact h
theorem Jh{α:Type}(xs:List α)(v:α):atI (xs++[v]) (-1)=some v:=by
 have hl:(xs++[v]).length=xs.length+1:=by simp
 have e:ixN (xs++[v]).length (-1)=some xs.length:=by
  unfold ixN;rw[hl,ZZ (by decide),ZY (by lia)]
  congr 1
  lia
 unfold atI;rw[e];show(xs++[v])[xs.length]?=some v;simp
noncomputable def Ng(b:Expr):Prop:=∀o i,subscripted b false o i=operate [o,i] (getItem o i)
noncomputable def IxR(X:Cx)(r:R2):Prop :=
 ∀(value slice:Expr)(pins:Ω)(s:Shared)(σ:St)(H:Hp)(x y:V)(v u:Value)(Q:VK),Inv X pins σ H s->RelV x v->RelV y u->r x y H Q ->
  subscripted slice false v u=operate [v,u] (getItem v u)->wpAny (model X.prog X.w) X.A (subscriptTail value slice v u) (EP X pins σ Q) X.xe s
noncomputable def MtR(X:Cx)(id:String)(r:V->Μ->Hp->VK->Prop):Prop :=
 ∀(pins:Ω)(s:Shared)(σ:St)(H:Hp)(x:V)(xs:Μ)(v:Value)(us:Ξ)(Q:VK),Inv X pins σ H s->RelV x v->Vals xs us->r x xs H Q ->
  wpAny (model X.prog X.w) X.A (call (.builtin id) (v::us)) (EP X pins σ Q) X.xe s
section
variable{X:Cx}{a b:Expr}{ta tb:TE}{pos:Pos}
theorem bU{r:R2}(hr:IxR X r)(ha:PE X a ta)(hb:PE X b tb)(hs:Ng b):PE X (.Subscript a b pos) (tOp r ta tb):=by
 intro pins s σ H Q I h;exact Subscript_ (aao ha hb I h λv u s2 x y H2 I2 rx ry q=>hr a b pins s2 σ H2 x y v u Q I2 rx ry q (hs _ _))
noncomputable def Yj(K:Frag):R2:=λx y H Q=>∃p xs i v,x=.ref p/\y=.int i/\SqL K H p xs/\atI xs i=some v/\Q v H
noncomputable def Kl(K:Frag):R2:=λx y H Q=>∃p xs i v,x=.ref p/\y=.int i/\SqT K H p xs/\atI xs i=some v/\Q v H
noncomputable def V6:R2:=λx y H Q=>∃z i c,x=.str z/\y=.int i/\z.length<=sizeLine/\atI z.cps.toList i=some c/\Q (.str ⟨#[c]⟩) H
theorem V2:IxR X (Yj X.K):=by
 intro value slice pins s σ H x y v u Q I rx ry h hs;obtain⟨p,xs,i,z,rfl,rfl,hq,he,q⟩:=h;cases rx;obtain⟨t,rfl⟩:=ry;obtain⟨its,r,pl,hz⟩:=I.list hq;obtain⟨j,h1,h2,h3,h4,h5⟩:=GC he;obtain⟨w,ew,rw'⟩:=r.get h2;have hl:=r.length;have hn:=uV;have fin:EP X pins σ Q w s:=⟨z,H,I,rw',q⟩;by_cases h0:0<=i
 .have hj:i.toNat=j:=by
   rw[seqIndex_of h0 h5]at h1;exact Option.some.inj h1
  exact item_listR pl.isList h0 (by lia) (by rw[hj];simpa using ew) fin hs
 .have hj:(i+(its.toArray.size:Int)).toNat=j:=by
   rw[seqIndex_neg (Int.lt_of_not_ge h0) h4]at h1;rw[aZ,<- hl];exact Option.some.inj h1
  exact subscriptTail_builtinR (x:=w) pl.isList.typeIs slot_list_getitem.lookup
   (wpAny_getItem_list_neg (Q:=λr s'=>r=w/\EP X pins σ Q r s') pl.isList (Int.lt_of_not_ge h0) (by rw[aZ]<;>lia) (by lia) (by rw[hj];simpa using ew) ⟨rfl,fin⟩) hs
theorem gU:IxR X (Kl X.K):=by
 intro value slice pins s σ H x y v u Q I rx ry h hs;obtain⟨p,xs,i,z,rfl,rfl,hq,he,q⟩:=h;cases rx;obtain⟨t,rfl⟩:=ry;obtain⟨its,r,pl,hz⟩:=I.tuple hq;obtain⟨j,h1,h2,h3,h4,h5⟩:=GC he;obtain⟨w,ew,rw'⟩:=r.get h2;have hl:=r.length;have hn:=uV;have fin:EP X pins σ Q w s:=⟨z,H,I,rw',q⟩;exact subscriptTail_builtinR (x:=w) pl.typeIs slot_tuple_getitem.lookup
  (getItem_tuple (j:=j) (Q:=λr s'=>r=w/\EP X pins σ Q r s') pl (by lia) (by lia) (by rw[aZ,<- hl];exact h1) (by simpa using ew) ⟨rfl,fin⟩) hs
theorem Ky:IxR X V6:=by
 intro value slice pins s σ H x y v u Q I rx ry h hs;obtain⟨z,i,c,rfl,rfl,hz,he,q⟩:=h;obtain⟨t,rfl⟩:=rx;obtain⟨t',rfl⟩:=ry;obtain⟨j,h1,h2,h3,h4,h5⟩:=GC he;have hl:z.cps.toList.length=z.length:=by simp[Str.length]
 rw[hl]at h1 h4 h5;have hn:=uV;exact tail_any (typeIs_str s z t) slot_str_getitem.lookup (getItem_str (c:=c) (by
  have e1:decide (i < -(2^63:Int))=false:=Zp (by lia);have e2:decide (i>=2^63)=false:=Zp (by lia);rw[e1,e2,Bool.or_false]) (by rw[h1];simpa using h2) ⟨.str ⟨#[c]⟩,H,I.tok _,⟨_,rfl⟩,q⟩) hs
theorem Inv.lst{pins:Ω}{σ:St}{H:Hp}{s:Shared}{p:Addr}{xs:Μ}(I:Inv X pins σ H s)(h:H p=some (.lst xs)) :
  ∃(its:Ξ)(n:Nat),Vals xs its/\s.heap.get? p=some { cls:=.type "list",data:=.seq its.toArray n }/\xs.length<=sizeLine:=by
 obtain⟨z,its,n,r,e⟩:=I.hok p _ h;exact⟨its,n,r,e,z⟩
noncomputable def Vn:V->V->V->Hp->(Hp->Prop)->Prop:=λo i v H Q=>∃p xs k j,o=.ref p/\i=.int k/\H p=some (.lst xs)/\ixN xs.length k=some j/\Q (upd H p (.lst (xs.set j v)))
theorem Gp(lo hi:Option Int)(n:Nat):(sliceBounds lo hi none n).1=((HT.sIx n 0 lo:Nat):Int)/\(sliceBounds lo hi none n).2.1=((HT.sIx n n hi:Nat):Int)/\(sliceBounds lo hi none n).2.2=1:=by
 refine⟨?_,?_,rfl⟩
 .cases lo with
  |none=>simp[sliceBounds,HT.sIx]
  |some i =>
   simp only[sliceBounds,HT.sIx,Option.getD_none,show(1:Int)>0 by decide,if_true];by_cases h:i<0
   .simp only[h,if_true]<;>lia
   .simp only[h,if_false]<;>lia
 .cases hi with
  |none=>simp[sliceBounds,HT.sIx]
  |some i =>
   simp only[sliceBounds,HT.sIx,Option.getD_none,show(1:Int)>0 by decide,if_true];by_cases h:i<0
   .simp only[h,if_true]<;>lia
   .simp only[h,if_false]<;>lia
theorem DW(its:Ξ)(lo hi:Option Int):slicePick its.toArray lo hi none=((its.drop (HT.sIx its.length 0 lo)).take (HT.sIx its.length its.length hi-HT.sIx its.length 0 lo)).toArray:=by
 obtain⟨h1,h2,h3⟩:=Gp lo hi its.toArray.size;unfold slicePick;rw[h1,h2,h3];simp only[sliceRange_one,pick_run,aZ]<;>rfl
noncomputable def Wq(K:Frag):V->Option Int->Option Int->Hp->VK->Prop:=λx lo hi H Q=>∃a xs,x=.ref a/\SqL K H a xs/\∀p,H p=none->Q (.ref p) (upd H p (.lst (Pz xs lo hi)))
theorem Xv:SlR X (Wq X.K):=by
 intro pins s σ H x v vl vu lo hi sl Q I rx hs pl pu h;obtain⟨a,xs,rfl,hx,q⟩:=h;cases rx;obtain⟨its,r,ht,hz⟩:=I.list hx;have hlen:=r.length;refine⟨"list",_,slot_list_getitem.lookup,ht.isList.typeIs,?_⟩;refine wpAny_getItem_list_slice ht.isList hs pl pu .none (by simp) ?_ (by rw[aZ]<;>lia);rw[DW,<- hlen];refine⟨.ref s.heap.objs.size,_,I.laid (t':=s.toks) (o:=.lst (Pz xs lo hi)) (λb ob q=>aG _ q) (aF _) ?_,rfl,q _ (I.hok.fresh (aF _))⟩;exact⟨aM (yI xs lo hi) hz,_,0,(r.drop (HT.sIx xs.length 0 lo)).take (HT.sIx xs.length xs.length hi-HT.sIx xs.length 0 lo),aY _ rfl⟩
noncomputable def Fp:V->Bool
 |.non=>true
 |.bl _=>true
 |.int _=>true
 |.str _=>true
 |_=>false
noncomputable def eqV:V->V->Bool
 |.non,.non=>true
 |.bl a,.bl b=>a==b
 |.bl a,.int b=>(if a then 1 else 0)==b
 |.int a,.bl b=>a==(if b then 1 else 0)
 |.int a,.int b=>a==b
 |.str a,.str b=>a==b
 |_,_=>false
theorem qu:fY X (.builtin "len") (λxs H Q=>∃p ys,xs=[.ref p]/\(SqL X.K H p ys\/SqT X.K H p ys)/\Q (.int ys.length) H):=by
 intro pins s σ H xs us Q I r h;obtain⟨p,ys,rfl,hq,q⟩:=h;obtain⟨u,rfl,rx⟩:=vals1 r;cases rx;have hn:=uV;rcases hq with hq|hq
 .obtain⟨its,r',pl,hz⟩:=I.list hq;have hlen:=r'.length;exact Calls.call_len_list pl.isList (by simp only[aZ]<;>lia) ⟨.int ys.length,H,I.tok _,⟨s.toks+1,by rw[aZ,hlen]⟩,q⟩
 .obtain⟨its,r',pl,hz⟩:=I.tuple hq;have hlen:=r'.length;exact len_tuple pl (by simp only[aZ]<;>lia) ⟨.int ys.length,H,I.tok _,⟨s.toks+1,by rw[aZ,hlen]⟩,q⟩
theorem Hx:fY X (.builtin "len") (λxs H Q=>∃z,xs=[.str z]/\z.length<=sizeLine/\Q (.int z.length) H):=by
 intro pins s σ H xs us Q I r h;obtain⟨z,rfl,hz,q⟩:=h;obtain⟨u,rfl,t,rfl⟩:=vals1 r;have hn:=uV;exact len_str (by lia) ⟨.int z.length,H,I.tok _,⟨_,rfl⟩,q⟩
theorem fY.or{f:Value}{r r':Μ->Hp->VK->Prop}(h:fY X f r)(h':fY X f r'):fY X f (λxs H Q=>r xs H Q\/r' xs H Q):=by
 intro pins s σ H xs us Q I rs q;rcases q with q|q
 .exact h pins s σ H xs us Q I rs q
 .exact h' pins s σ H xs us Q I rs q
theorem Hg:fY X (.type "list") (λxs H Q=>∃p ys,xs=[.ref p]/\(SqL X.K H p ys\/SqT X.K H p ys)/\∀l,H l=none->Q (.ref l) (upd H l (.lst ys))):=by
 intro pins s σ H xs us Q I r h;obtain⟨p,ys,rfl,hq,q⟩:=h;obtain⟨u,rfl,rx⟩:=vals1 r;cases rx;have fin:∀(its:Ξ),Vals ys its->ys.length<=sizeLine->∀(h':Heap)(c':Nat),(∀b o',s.heap.get? b=some o'->h'.get? b=some o') ->
   h'.get? s.heap.objs.size=some { cls:=.type "list",dict:=none,data:=.seq its.toArray c',slots:=#[] }->EP X pins σ Q (.ref s.heap.objs.size) { s with heap:=h' }:=λits r' hz h' c' kp e =>
  ⟨.ref s.heap.objs.size,_,I.laid (t':=s.toks) kp (aF _) (show dh X.prog X.w _ h' _ (.lst ys)from⟨hz,its,c',r',e⟩),rfl,q _ (I.hok.fresh (aF _))⟩
 rcases hq with hq|hq
 .obtain⟨its,r',pl,hz⟩:=I.list hq;have hlen:=r'.length;obtain⟨o,ho,hc,n,hd⟩:=pl.isList;exact call_list_seq p (.inl rfl) ho hc hd (λh' c' kp e=>fin its r' hz h' c' kp e) (by simp only[aZ]<;>lia)
 .obtain⟨its,r',pl,hz⟩:=I.tuple hq;have hlen:=r'.length;obtain⟨o,ho,hc,n,hd⟩:=pl;exact call_list_seq p (.inr rfl) ho hc hd (λh' c' kp e=>fin its r' hz h' c' kp e) (by simp only[aZ]<;>lia)
noncomputable def tyV(K:Frag)(T:String)(x:V)(H:Hp):Prop:=match x with
 |.str _=>T = "str"
 |.int _=>T = "int"
 |.ref p=>(T = "list" /\ ∃xs,SqL K H p xs)\/(T = "tuple" /\ ∃o,K.lookup p=some o/\o.cls=.type "tuple" /\ o.dict=none) \/
   (T = "dict" /\ (∃kvs,H p=some (.dK kvs)))\/(T = "set" /\ ∃S n,H p=some (.set S n))
 |_=>False
theorem Zz{pins:Ω}{σ:St}{H:Hp}{s:Shared}{T:String}{x:V}{v:Value}(I:Inv X pins σ H s)(r:RelV x v)(ty:tyV X.K T x H) :
  s.TypeIs v T/\∀a,v=.ref a->∃ob,s.heap.get? a=some ob/\ob.dict=none:=by
 cases x with
 |str z =>
  obtain⟨t,rfl⟩:=r;cases(show T = "str" from ty);exact⟨typeIs_str s z t,λ_ e=>nomatch e⟩
 |int i =>
  obtain⟨t,rfl⟩:=r;cases(show T = "int" from ty);exact⟨typeIs_int s i t,λ_ e=>nomatch e⟩
 |ref p =>
  cases r;rcases ty with⟨rfl,xs,hq⟩|⟨rfl,o,hk,hc,hd⟩|⟨rfl,hk⟩|⟨rfl,S,n,hk⟩
  .obtain⟨its,_,pl,_⟩:=I.list hq;refine⟨pl.isList.typeIs,λa e=>?_⟩;cases e;obtain⟨o,n,e,c,hd,_⟩:=pl;exact⟨o,e,hd⟩
  .refine⟨⟨o,I.kIn p o hk,hc⟩,λa e=>?_⟩;cases e;exact⟨o,I.kIn _ o hk,hd⟩
  .have z:∃o,s.heap.get? p=some o/\o.ExactDict:=by
    obtain⟨kvs,hk⟩:=hk;obtain⟨_,_,_,_,o,_,_,e,ex,_⟩:=I.hok p _ hk;exact⟨o,e,ex⟩
   obtain⟨o,e,ex⟩:=z;refine⟨⟨o,e,ex.1⟩,λa e2=>?_⟩;cases e2;exact⟨o,e,ex.2.1⟩
  .obtain⟨o,_,_,_,e,ex,_⟩:=I.hok p _ hk;refine⟨⟨o,e,ex.1⟩,λa e2=>?_⟩;cases e2;exact⟨o,e,ex.2.1⟩
 |_=>exact False.elim ty
noncomputable def tBM(K:Frag)(T:String)(r:V->Μ->Hp->VK->Prop)(to:TE)(t:TA):TE:=λσ H Q=>to σ H λx H1=>tyV K T x H1/\t σ H1 λxs H2=>r x xs H2 Q
variable{o e:Expr}{es:List Expr}{to:TE}{t:TA}{name:Str}{apos cpos:Pos}{T id:String}{r:V->Μ->Hp->VK->Prop}
theorem aax(pa:PlainAttrs T)(slot:Slot T name id)(hty:typeOf (.builtin id)=pure (.type "method_descriptor"))(hm:MtR X id r)(ho:PE X o to)(ha:PA X (e::es) t)
 (hbase:attributeBase o name X.env (eval o X.env)=eval o X.env:=by rfl)
 (hfew:((backTo cpos (starEach (e::es) X.env)).all (λx=>!x.1)&&(backToKw cpos (keywordEach [] X.env)).all (λx=>x.1.isSome)
   && decide ((e::es).length+([] : List Keyword).length+(if([] : List Keyword).isEmpty then 0 else 1)<30))=true:=by rfl)
 (hline:(apos.endLine==cpos.line)=true:=by rfl)(hs:starEach (e::es) X.env=(false,eval e X.env)::starEach es X.env:=by rfl)(hplain:(backTo cpos (starEach es X.env)).any (·.1)=false:=by rfl) :
  PE X (.Call (.Attribute o name apos) (e::es) [] cpos) (tBM X.K T r to t):=by
 intro pins s σ H Q I h;refine wpAny_Call_method_late hbase hfew hline rfl (thn (ho pins s σ H _ I h) λv s1 hP=>?_);obtain⟨x,H1,I1,r1,ty,q1⟩:=hP;obtain⟨h1,h2⟩:=Zz I1 r1 ty;refine⟨T,id,pa,slot,hty,h1,h2,?_⟩;have hA:=ha cpos pins s1 σ H1 _ I1 q1;rw[hs]at hA ⊢;refine Calls.callWith_builtin (by show(false || (backTo cpos (starEach es X.env)).any (·.1))=false;rw[hplain]<;>rfl) (Calls.evalArgs_plain ?_);exact thn hA λus s2 hP=>by obtain⟨vs,H2,I2,r2,q2⟩:=hP;exact hm pins s2 σ H2 x vs v us Q I2 r1 r2 q2

end
noncomputable def MtM(X:Cx)(id:String)(r:V->Μ->Hp->VK->Prop):Prop :=
 ∀(pins:Ω)(s:Shared)(σ:St)(H:Hp)(x:V)(xs:Μ)(v:Value)(us:Ξ)(Q:VK),Inv X pins σ H s->RelV x v->Vals xs us->r x xs H Q ->
  wpAny (model X.prog X.w) X.A (call (.builtin id) (v::us)) (EP X pins σ Q) X.xe s
theorem Vals.one:∀{x:V}{us:Ξ},Vals [x] us->∃u,us=[u]/\RelV x u
 |_,_,.cons r .nil=>⟨_,rfl,r⟩
theorem Vals.two{x y:V}{us:Ξ}(h:Vals [x,y] us):∃u v,us=[u,v]/\RelV x u/\RelV y v:=by
 cases h with|cons r t=>cases t with|cons q t=>cases t;exact⟨_,_,rfl,r,q⟩
theorem Vals.eraseIdx:∀{xs:Μ}{us:Ξ}(i:Nat),Vals xs us->Vals (xs.eraseIdx i) (us.eraseIdx i)
 |_,_,_,.nil=>.nil
 |_,_,0,.cons _ t=>t
 |_,_,i+1,.cons r t=>.cons r (Vals.eraseIdx i t)
theorem Vals.rep{xs:Μ}{us:Ξ}(h:Vals xs us):∀k:Nat,Vals (List.replicate k xs).flatten (List.replicate k us).flatten
 |0=>.nil
 |k+1=>by
  rw[List.replicate_succ,List.replicate_succ,List.flatten_cons,List.flatten_cons];exact Vals.append h (Vals.rep h k)
theorem Fy{α:Type} : ∀(l:List α)(i:Nat),(l.eraseIdx i).length<=l.length
 |[],_=>aF _
 |_::_,0=>Xs _
 |_::r,i+1=>Nat.succ_le_succ (Fy r i)
theorem foldl_rep(its:Ξ):∀(k:Nat)(acc:Ξ),
  List.foldl (λx1 x2=>x1++x2) acc.toArray (List.replicate k its.toArray)=(acc++(List.replicate k its).flatten).toArray
 |0,acc=>by simp
 |k+1,acc=>by
  have e:acc.toArray++its.toArray=(acc++its).toArray:=by simp
  have e2:(acc++its)++(List.replicate k its).flatten=acc++(List.replicate (k+1) its).flatten:=by
   rw[List.replicate_succ,List.flatten_cons,WZ]
  rw[<- e2,<- foldl_rep its k (acc++its),<- e,List.replicate_succ,List.foldl_cons]
section
variable{X:Cx}{pins:Ω}{σ:St}{H:Hp}{s:Shared}{l b:Addr}{xs ys zs:Μ}
theorem Inv.lset{its its':Ξ}{n:Nat}{f:Array Value->Array Value}{t':Nat}(I:Inv X pins σ H s)(hH:H l=some (.lst xs))
 (e:s.heap.get? l=some { cls:=.type "list",data:=.seq its.toArray n })(hf:f its.toArray=its'.toArray)(hv:Vals ys its')(hz:ys.length<=sizeLine) :
  Inv X pins σ (upd H l (.lst ys)) { s with heap:=s.heap.update l (Obj.mapSeq f),toks:=t' }:=by
 have q:=PySem.IsL.update e f;rw[hf]at q;refine I.write (x:=l) (e:=l) (by rw[hH];exact trivial) (.inl rfl) (λb' u hb hu=>(Heap.get?_update_other s.heap (Obj.mapSeq f) (Ne.symm hb)).trans hu) ⟨_,q⟩ ?_;exact⟨hz,its',_,hv,q⟩
theorem Inv.lnew{its:Ξ}{t':Nat}(I:Inv X pins σ H s)(hv:Vals ys its)(hz:ys.length<=sizeLine) :
  Inv X pins σ (upd H s.heap.objs.size (.lst ys)) { s with heap:=s.heap.push { cls:=.type "list",data:=.seq its.toArray },toks:=t' } :=
 I.laid (λ_ _ q=>aG _ q) (aF _) ⟨hz,its,0,hv,aY _ rfl⟩
theorem Inv.fresh(I:Inv X pins σ H s):H s.heap.objs.size=none:=I.hok.fresh (aF _)
theorem Inv.lstM(I:Inv X pins σ H s)(hH:H l=some (.lst xs)):xs.length<=sizeLine/\∃(its:Ξ)(n:Nat),Vals xs its/\xs.length=its.length/\s.heap.get? l=some { cls:=.type "list",data:=.seq its.toArray n }:=by
 obtain⟨z,its,n,r,e⟩:=I.hok l _ hH;exact⟨z,its,n,r,r.length,e⟩
theorem SN{n:Nat}(h:n<=sizeLine):Builtin.List.listTooLong n=false:=by
 unfold Builtin.List.listTooLong;exact Zp (Nat.not_lt_of_le h)
end
section
variable{X:Cx}
noncomputable def Wg:V->Μ->Hp->VK->Prop:=λx vs H Q=>∃l xs y,x=.ref l/\vs=[y]/\H l=some (.lst xs)/\xs.length<sizeLine/\Q .non (upd H l (.lst (xs++[y])))
theorem Es:MtM X "list.append" Wg:=by
 intro pins s σ H x vs v us Q I rx rv h;obtain⟨l,xs,y,rfl,rfl,hH,hz,q⟩:=h;cases rx;obtain⟨u,rfl,ru⟩:=rv.one;obtain⟨z,its,n,r,hl,e⟩:=I.lstM hH;refine call_meets F.slot_list_append ⟨_,e,rfl⟩ F.entry_list_append (F.args_list_append_2 _ _) (PySem.list_append l its.toArray n u (by rw[aZ];lia)) ⟨e,?_⟩;refine⟨.non,_,I.lset (its':=its++[u]) hH e (by simp) (r.append (.cons ru .nil)) ?_,rfl,q⟩;rw[aA,List.length_singleton];exact hz
noncomputable def X5:R2:=λx y H Q=>∃l b xs zs,x=.ref l/\y=.ref b/\H l=some (.lst xs)/\H b=some (.lst zs)/\xs.length+zs.length<=sizeLine/\∀p,H p=none->Q (.ref p) (upd H p (.lst (xs++zs)))
theorem YS:OpR X (binaryOp .Add) X5:=by
 intro pins s σ H x y v u Q I rx ry h;obtain⟨l,b,xs,zs,rfl,rfl,hH,hB,hz,q⟩:=h;cases rx;cases ry;obtain⟨z,its,n,r,hl,e⟩:=I.lstM hH;obtain⟨z2,its2,n2,r2,hl2,e2⟩:=I.lstM hB;refine PySem.P.add_list e e2 ?_ (by rw[aZ,aZ];lia);have ea:its.toArray++its2.toArray=(its++its2).toArray:=by simp
 rw[ea];exact⟨.ref _,_,I.lnew (t':=s.toks) (r.append r2) (by rw[aA];omega),rfl,q _ I.fresh⟩
noncomputable def adt:R2:=λx y H Q=>∃l k xs,x=.ref l/\y=.int k/\H l=some (.lst xs)/\-(2^63)<=k/\k<2^63/\xs.length*k.toNat<=sizeLine /\
 ∀p,H p=none->Q (.ref p) (upd H p (.lst (List.replicate k.toNat xs).flatten))
theorem len_rep{α:Type}(xs:List α)(k:Nat):(List.replicate k xs).flatten.length=k*xs.length:=by
 induction k with
 |zero=>simp
 |succ k ih=>rw[List.replicate_succ,List.flatten_cons,aA,ih,Nat.succ_mul,Nat.add_comm]
theorem Zk:OpR X (binaryOp .Mult) adt:=by
 intro pins s σ H x y v u Q I rx ry h;obtain⟨l,k,xs,rfl,rfl,hH,h1,h2,hz,q⟩:=h;cases rx;obtain⟨t,rfl⟩:=ry;obtain⟨z,its,n,r,hl,e⟩:=I.lstM hH;have hlen:its.toArray.size*k.toNat<=sizeLine:=by rw[aZ,<- hl];exact hz
 have hcap:¬its.toArray.size*k.toNat>(2^63-1)/8:=by
  have:(sizeLine:Nat)<=(2^63-1)/8:=by decide
  lia
 have hfit:¬(!Builtin.List.listFitsIndex k)=true:=by
  rw[fitsIndex_both h1 h2];exact bC
 have hlong:¬Builtin.List.listTooLong (its.toArray.size*k.toNat)=true:=by
  rw[SN hlen];exact bC
 have hnew:List.foldl (λx1 x2=>x1++x2) #[] (List.replicate (if its.toArray.isEmpty=true then 0 else k.toNat) its.toArray)=(List.replicate k.toNat its).flatten.toArray:=by
  have f0:∀m:Nat,List.foldl (λx1 x2=>x1++x2) #[] (List.replicate m its.toArray)=(List.replicate m its).flatten.toArray:=λm=>by
   have:=foldl_rep its m [];rw[List.nil_append]at this;exact this
  rw[f0];cases its with
  |nil=>simp
  |cons a r'=>rw[ZZ (by simp)]
 refine wpAny_binaryOp_repeat_ref (T := "list") (U := "int") (by decide) ⟨_,e,rfl⟩ (λs'=>typeIs_int s' k t) noFill_list_mul F.fills_int_mul F.slot_int_rmul repeat_list F.slot_int_index.lookup
  (call_meets F.slot_int_rmul (typeIs_int s k t) F.entry_int_rmul (F.args_int_rmul_2 _ _) (int___rmul___int_list k t l its.toArray n)
   ⟨e,rfl,⟨_,e,rfl⟩,call_meets F.slot_list_mul ⟨_,e,rfl⟩ F.entry_list_mul (F.args_list_mul_2 _ _) (AutoListH.list___mul___list_int_3 l its.toArray n k t hfit hcap hlong) ⟨e,?_⟩⟩)
 rw[hnew];exact⟨.ref _,_,I.lnew (t':=s.toks) (r.rep k.toNat) (by rw[len_rep,Nat.mul_comm];exact hz),rfl,q _ I.fresh⟩
theorem vV{pins:Ω}{s:Shared}{σ:St}{H:Hp}{l:Addr}{xs:Μ}{i:Int}{t:Tok}{k:Nat}{Q:Unit->Shared->Prop}(I:Inv X pins σ H s)(hH:H l=some (.lst xs))
 (h1 : -(2^63)<=i)(h2:i<2^63)(hk:seqIndex? i xs.length=some k)(h:∀s',Inv X pins σ (upd H l (.lst (xs.eraseIdx k))) s'->Q () s') :
  wpAny (model X.prog X.w) X.A (delItem (.ref l) (.int i t)) Q X.xe s:=by
 obtain⟨z,its,n,r,hl,e⟩:=I.lstM hH;refine PySem.P.delItem_list (k:=k) e (fitsIndex_both h1 h2) (by rw[aZ,<- hl];exact hk) (h _ ?_) (by rw[aZ];lia);refine I.lset (its':=its.eraseIdx k) (t':=s.toks) hH e ?_ (r.eraseIdx k) ?_
 .show its.toArray.eraseIdxIfInBounds k=(its.eraseIdx k).toArray;rw[List.eraseIdxIfInBounds_toArray]
 .have:=Fy xs k;exact aM this z
end
end L2
namespace Att
open PySem PySem.W PySem.Calls PyProof.Rows
theorem zp{P:Params}{h:Heap} : ∀(ns:List Int)(vs:Ξ),WellAll P h vs (ns.map WData.int)->IntsAre vs ns:=by
 intro ns
 induction ns with
 |nil =>
  intro vs w;rw[List.map_nil]at w;cases w;exact .nil
 |cons n ns ih =>
  intro vs w;rw[List.map_cons]at w;cases w with
  |cons a b =>
   cases a;exact .cons _ _ (ih _ b)
theorem QZ{l:OpenLaw}{n:Nat}(hn:l.most=some n){P:Params}{h:Heap}{args:List WData}{vals:Ξ}
 (hpre:l.row.toRowW.claim.pre args=true)(hwl:WellAll P h vals args) :
  ∃a vs ns,vals=[Value.ref a]/\args=[WData.list (ns.map WData.int)]/\h.get? a=some { cls:=.type "list",data:=.seq vs.toArray }/\IntsAre vs ns/\ns.length<=n:=by
 have hsh:WShape.hasAll [] args [.list .int]=true:=(pre_splitW hpre).1;have hc:l.pre.holds [] { args:=args }=true:=(pre_splitW hpre).2;obtain⟨d,r,rfl,h1,h2⟩:=hasAllW_cons hsh;obtain rfl:=hasAllW_nil h2;obtain⟨xs,rfl,h3⟩:=hasW_list h1;obtain⟨ns,rfl⟩:=items_int h3;have hlen:ns.length<=n:=by
  unfold OpenLaw.pre at hc;have h4:(WTm.not (.lt (.lit (.int (n:Int))) (.len (.arg 0)))).holds [] { args:=[.list (ns.map .int)] }=true:=by
   have h4:=(holds_andW hc).1;rw[hn]at h4;exact h4
  have h5:=condW_of h4 (w_not (w_lt w_lit (w_len_list (w_arg rfl))));rw[ak]at h5;refine Nat.le_of_not_lt λq=>?_;have q':(n:Int)<((ns.length:Nat):Int):=by omega
  first
   |(rw[Zs q']at h5;exact absurd h5 (by decide))
   |(simp at h5;omega)
 cases hwl with
 |cons w1 w2 =>
  cases w2;cases w1 with
  |list ho hall=>exact⟨_,_,ns,rfl,rfl,ho,zp ns _ hall,hlen⟩
theorem QJ(l:OpenLaw)(args:List WData):l.row.toRowW.claim.post args (.bool true) args=true :=
 postW_of (r:=l.row.toRowW) (X:=(true==true))
  (show WShape.has [] (.bool true) .bool=true by first|rfl|decide|simp[WShape.has,WShape.arms,WShape.armsAll])
  (show(WTm.eq .res (.lit (.bool true))).value [] { args:=args,res:=some (.bool true),after:=args }=some (.bool (true==true))from w_eq_bool (w_res rfl) w_lit) rfl
theorem yQ{l:OpenLaw}{n:Nat}{q:Program}{loose:Β}{XP:(Str->Ζ)->Heap->Prop}{YP:World->Heap->Prop}{d:DefRec}
 (hn:l.most=some n)(hdf:d.params.defaults=[])
 (call:∀(w:World)(s₀ s₁:Shared)(mg mb:Str->Ζ)(fa:Addr)(o:Obj)(pm cd doc:Value)(a:Addr)(vs:Ξ)(ns:List Int),
   Ground q loose [] XP w s₀ mg mb s₁.heap->YP w s₁.heap ->
   s₁.heap.get? fa=some o->o.data=.func (docDef d.name d.params d.body d.scope pm cd doc)->s₁.heap.CodeRec cd d.name->mg d.name=some (.ref fa) ->
   s₁.heap.get? a=some { cls:=.type "list",data:=.seq vs.toArray }->IntsAre vs ns->ns.length<=n->s₁.gens = #[] ->
   codeAny (model l.prog w) callerA (.call (.ref fa) ⟨[.ref a],[]⟩) (λr s'=>r=.ok (.ret (.bool true))/\OldK s₁.heap s'.heap/\s'.os=s₁.os/\AllBare s'.gens) s₁) :
  WalkO q loose XP YP l.row.toRowW d [] (λf vs=>PySem.call f vs):=by
 intro w s₀ s₁ mg mb G Y fa o pm cd doc dV kV ho hd hcd hD hmg hg args vals as hpre hlay hrd hwl hlo;obtain rfl:dV=.none:=Dflts.none hD hdf;obtain rfl:kV=.none:=Dflts.noKw hD;obtain⟨a,vs,ns,rfl,rfl,hobj,hints,hlen⟩:=QZ hn hpre hwl;refine enter_call (codeAny_mono (call w s₀ s₁ mg mb fa o pm cd doc a vs ns G Y ho (fd_plain hd) hcd hmg hobj hints hlen hg) λr s' hq=>?_);obtain⟨rfl,h2,h3,h4⟩:=hq;exact⟨.inl ⟨.bool true,.bool true,[],rfl,λ_=>rfl,.bool true,QJ l _,λ_=>⟨List.Pairwise.nil,λ_ hm=>(nomatch hm)⟩⟩,h2,h3,h4⟩
end Att
namespace L2
open PySem PySem.Spec PyProof.Rows
theorem tR:∀{vs:Ξ}{ns:List Int},IntsAre vs ns->Vals (ns.map V.int) vs
 |_,_,.nil=>.nil
 |_,_,.cons n t h=>.cons ⟨t,rfl⟩ (tR h)
noncomputable def Only(H:Hp):Prop:=∀b,H b=none\/∃o xs,H b=some (.frz o (.lst xs))
theorem Ru{P:Program}{w:World}{K:Frag}{mg mb:Str->Ζ}{CX:CXT}{k:Nat}{fa a:Addr}{fd:FuncData}{x:Str}{sp:Sp}{s₁:Shared}{vs:Ξ}{ns:List Int}
 (KX:K.In s₁.heap)(hns:s₁.heap.Ns mainGlobals mg)(hb:s₁.heap.Ns builtinsNs mb)(hbb:∀x:Str,x ≠ "__name__" -> mb x=bootBuiltins x)(hlim:s₁.heap.NoLimit)(hg:s₁.gens = #[])
 (ha:s₁.heap.get? a=some { cls:=.type "list",data:=.seq vs.toArray })(hi:IntsAre vs ns)(hl:ns.length<=sizeLine)(hr:eN k callerA)
 (F:∀base:Heap,K.In base->base.Ns mainGlobals mg->cC P w K mg base CX k fa fd [x] sp)(hbind:∀(s:Shared)(u:Value),BindsTo s fd ⟨[u],[]⟩ [(x,u)])
 (hsp:∀H:Hp,Only H->SqL K H a (ns.map V.int)->sp [.ref a] H (λv _=>v=.bl true) λ_ _ _=>False)
 (hCX:∀H e s',CX [] H s₁ (λ_ _ _=>False) e s'->False) :
  codeAny (model P w) callerA (.call (.ref fa) ⟨[.ref a],[]⟩) (λr s'=>r=.ok (.ret (.bool true))/\OldK s₁.heap s'.heap/\s'.os=s₁.os/\AllBare s'.gens) s₁:=by
 have rv:=tR hi;have lenV:=hi.length

 have core:∀H:Hp,Only H->SqL K H a (ns.map V.int)->HOk P w H s₁.heap->(∀b,H b≠none->b=a)->(H a≠none->K.lookup a=none) ->
   codeAny (model P w) callerA (.call (.ref fa) ⟨[.ref a],[]⟩) (λr s'=>r=.ok (.ret (.bool true))/\OldK s₁.heap s'.heap/\s'.os=s₁.os/\AllBare s'.gens) s₁:=by
  intro H hO hS hok hA hK;have base_of:∀{b:Addr}{o:Obj},s₁.heap.get? b=some o->H b=none->(uT s₁.heap H).get? b=some o:=λe n=>Ka e n;have noA:∀{b:Addr}{o:Obj}{es:Array DictEntry}{ep:Nat},s₁.heap.get? b=some o->o.data=.dict es ep->H b=none:=λ{b o es ep}e d=>by
   cases q:H b with
   |none=>rfl
   |some u =>
    have e':b=a:=hA b (by rw[q];simp);subst e';rw[ha]at e;cases e;have d':Data.seq vs.toArray _=Data.dict es ep:=d;cases d'
  have nsK:∀{b:Addr}{m:Str->Ζ},s₁.heap.Ns b m->(uT s₁.heap H).Ns b m:=λ{b m}⟨o,es,ep,e,d,r⟩=>⟨o,es,ep,base_of e (noA e d),d,r⟩;have hKb:K.In (uT s₁.heap H):=λb o e=>base_of (KX b o e) (by
   cases q:H b with
   |none=>rfl
   |some u =>
    have e':b=a:=hA b (by rw[q];simp);subst e';rw[hK (by rw[q];simp)]at e;cases e)
  have hM:Mod K mg (uT s₁.heap H):=⟨hKb,nsK hns,⟨mb,nsK hb,hbb⟩,let⟨mc,h1,h2⟩:=hlim;⟨mc,nsK h1,h2⟩⟩;have e0:Bu P w K mg (uT s₁.heap H) callerA [] s₁ H:=⟨rfl,hM,λb o e=>Ny e,Nat.le_of_eq (FN _ _),trivial,λb hb=>absurd (show b∈([] : Ε)from hb) (by simp),hok,.of_eq hg⟩;refine codeAny_mono ((F _ hKb (nsK hns)).run callerA [] s₁ H ⟨[.ref a],[]⟩ [.ref a] [.ref a] _ _ hr e0 (hbind s₁ (.ref a)) (.cons rfl .nil) (hsp H hO hS)) λr s' h=>?_;cases r with
  |error e=>exact(hCX H e s' h).elim
  |ok fl =>
   cases fl with
   |next=>exact False.elim h
   |brk=>exact False.elim h
   |cont=>exact False.elim h
   |ret u =>
    obtain⟨v,H',os,bare,un,hok',r',q⟩:=h;have q':v=.bl true:=q;subst q';obtain rfl:u=Value.bool true:=r';refine⟨rfl,OldK.of_keep λb o e=>?_,os,bare⟩;cases q:H b with
    |none=>exact un.keep b o e q (by intro z;exact absurd (show b∈([] : Ε)from z) (by simp)) (by simp)
    |some u =>
     rcases hO b with z|⟨ob,xs,z⟩
     .rw[q]at z;cases z
     .have z2:=un.frzs b ob _ z;obtain⟨e1,_⟩:=hok b _ z;obtain⟨e2,_⟩:=hok' b _ z2;rw[e]at e1;cases e1;exact e2
 cases hk:K.lookup a with
 |some o =>

  have e:=KX a o hk;rw[ha]at e;cases e;refine core (λ_=>none) (λ_=>.inl rfl) (.inr ⟨_,vs.toArray,_,hk,rfl,rfl,rfl,by rw[aZ,lenV];exact hl,by simpa using rv⟩) (λb u z=>by have z':(none:Option HO)=some u:=z;cases z') (λb z=>absurd rfl z) λz=>absurd rfl z
 |none =>
  refine core (λb=>if b=a then some (.frz { cls:=.type "list",data:=.seq vs.toArray } (.lst (ns.map V.int)))else none) (λb=>?_) (.inl (.inr ⟨{ cls:=.type "list",data:=.seq vs.toArray },ZY rfl⟩)) (λb u z=>?_) (λb z=>?_) λ_=>hk
  .by_cases hb:b=a
   .exact .inr ⟨_,_,ZY hb⟩
   .exact .inl (ZZ hb)
  .by_cases hb:b=a
   .have z':=(ZY hb).symm.trans z;cases z';subst hb;exact⟨ha,by rw[ak];exact hl,vs,_,rv,ha⟩
   .have z':=(ZZ hb).symm.trans z;cases z'
  .by_cases hb:b=a
   .exact hb
   .exact absurd (ZZ hb) z
noncomputable abbrev KOf{K:Frag}{h:Heap}(_:K.In h):Frag:=K
theorem Wb{l:PySem.W.OpenLaw}{n k:Nat}{q:Program}{loose:Β}{XP:(Str->Ζ)->Heap->Prop}{YP:World->Heap->Prop}{d:DefRec}{K:Params->Frag}{CX:World->CXT}{sp:World->Sp}{x:Str}
 (hn:l.most=some n)(hn2:n<=sizeLine)(hdf:d.params.defaults=[])(hr:eN k callerA)
 (hY:∀(w:World)(h:Heap),YP w h->(K w.params).In h)
 (F:∀(w:World)(mg:Str->Ζ)(fa:Addr)(h:Heap),(K w.params).In h->h.Ns mainGlobals mg->mg d.name=some (.ref fa) ->
   ∃fd:FuncData,(∀(s:Shared)(u:Value),BindsTo s fd ⟨[u],[]⟩ [(x,u)]) /\
    ∀base:Heap,(K w.params).In base->base.Ns mainGlobals mg->cC l.prog w (K w.params) mg base (CX w) k fa fd [x] (sp w))
 (hsp:∀(w:World)(H:Hp)(a:Addr)(ns:List Int),ns.length<=n->Only H->SqL (K w.params) H a (ns.map V.int)->sp w [.ref a] H (λv _=>v=.bl true) λ_ _ _=>False)
 (hCX:∀(w:World)(H:Hp)(s:Shared)(e:Value)(s':Shared),CX w [] H s (λ_ _ _=>False) e s'->False) :
  PySem.W.WalkO q loose XP YP l.row.toRowW d [] (λf vs=>PySem.call f vs):=by
 refine Att.yQ hn hdf λw s₀ s₁ mg mb fa o pm cd doc a vs ns G Y ho hd hcd hmg hobj hints hlen hg=>?_;have KX:=hY w _ Y;obtain⟨fd,hb,hF⟩:=F w mg fa _ KX G.T.g hmg;exact Ru KX G.T.g G.T.b G.T.builtins G.T.nolimit hg hobj hints (aM hlen hn2) hr hF hb (λH hO hS=>hsp w H a ns hlen hO hS) λH e s'=>hCX w H s₁ e s'
end L2

namespace L2
open PySem PySem.Spec PyProof.Rows
noncomputable abbrev CX0:CXT:=λ_ _ _ _ _ _=>False
noncomputable abbrev E0:XK:=λ_ _ _=>False
theorem M7{X:Cx} : Passes CX0 X E0:=λ_ _ _ _ _ _ _ h=>h.elim
structure Fun(K:Frag)(x qual:Str)(st:Stmt)(f:Addr)(fd:FuncData):Prop where
 ex:∃(oc:Value)(od:Η)(kV doc pm:Value)(an:Η)(cdv ct:Value)(osl:Array (Ζ)),
  fd=PySem.W.fnOf x qual (fM st) (dU st) (bM st) .none kV doc pm an cdv ct/\K.lookup f=some ⟨oc,od,.func fd,osl⟩/\codeIn K cdv qual=true
 kp:keepIn K (.ref f)=true
section
variable{P:Program}{w:World}{K:Frag}{mg:Str->Ζ}{base:Heap}
theorem Fun.ok{x qual:Str}{st:Stmt}{f:Addr}{fd:FuncData}{N ps:Β}{k:Nat}{sp:Sp}(F:Fun K x qual st f fd)(S:bV N ps (bM st))(len:∀vs H Q E,sp vs H Q E->vs.length=ps.length)
 (hbody:∀(cdv:Value)(A:Around)(outer:List Env)(s:Shared)(H:Hp)(vs:Μ)(Q:VK)(E:XK),eN k (A.deeper (envOfC qual (bM st) s.heap.objs.size f cdv))->sp vs H Q E ->
   ∃t,PSs (Cj CX0 P w K mg base N qual (bM st) f cdv A outer s H E).nox (dU st) t/\t { nx:=λ_ H'=>Q .non H',rt:=Q } (start N vs) H):cC P w K mg base CX0 (k+1) f fd ps sp:=by
 obtain⟨oc,od,kV,doc,pm,an,cdv,ct,osl,rfl,lk,hcd⟩:=F.ex;refine Vb lk hcd S len λA outer s H vs Q E hr hsp=>?_;obtain⟨t,h,q⟩:=hbody cdv A outer s H vs Q E hr hsp;exact⟨t,h.nox,q⟩
theorem Kz{x qual:Str}{st:Stmt}{f:Addr}{oc:Value}{od an:Η}{osl:Array (Ζ)}{kV doc pm cdv ct:Value}(l:K.lookup f=some ⟨oc,od,.func (PySem.W.fnOf x qual (fM st) (dU st) (bM st) .none kV doc pm an cdv ct),osl⟩)
 (c:codeIn K cdv qual=true)(k:keepIn K (.ref f)=true):Fun K x qual st f (PySem.W.fnOf x qual (fM st) (dU st) (bM st) .none kV doc pm an cdv ct):=⟨⟨oc,od,kV,doc,pm,an,cdv,ct,osl,rfl,l,c⟩,k⟩
end
theorem qW{A:Around}{k:Nat}(hr:eN k A):A.units+1<cLine:=Y3 (Nat.add_le_add_left (by decide:1<=64) _) hr.units
section
variable{X:Cx}
noncomputable def ZV(sc:Scope)(x:Str):Bool:=(sc.names.lookup x).any λk=>k == .local || k == .cell || k == .free
theorem Z4{sc:Scope}{x:Str}(h:ZV sc x=true):Vis sc x:=by
 unfold ZV at h;unfold Vis;cases e:sc.names.lookup x with
 |none=>rw[e]at h;cases h
 |some k=>rw[e]at h;cases k<;>first|exact .inl rfl|exact .inr (.inl rfl)|exact .inr (.inr rfl)|cases h
theorem pv(i:Nat){x:Str}{pos:Pos}(hN:X.N[i]?=some x:=by rfl)(hv:ZV X.env.scope x=true:=by rfl)(hd:(x==("__debug__" : Str))=false:=by decide)
 (hcd:(x==("__classdict__" : Str))=false:=by decide):PE X (.Name x pos) (Qf i):=Y7 hN (Z4 hv) hd hcd
end
theorem ZM{c A B:Prop}[Decidable c](h1:c->A)(h2:¬c->B):if c then A else B:=by
 by_cases h:c
 .rw[ZY h];exact h1 h
 .rw[ZZ h];exact h2 h
noncomputable def Same(H H':Hp):Prop:=∀b o,H b=some o->H' b=some o
theorem Same.refl(H:Hp):Same H H:=λ_ _ h=>h
theorem Same.trans{H H1 H2:Hp}(a:Same H H1)(b:Same H1 H2):Same H H2:=λc o h=>b c o (a c o h)
theorem Same.free{H H':Hp}(e:Same H H'){l:Addr}(h:H' l=Option.none):H l=Option.none:=by
 cases q:H l with
 |none=>rfl
 |some o =>
  rw[e l o q]at h;cases h
noncomputable def Bd(i:Int):Prop:=i.natAbs<2^8000
theorem Bd.log2{i:Int}(h:Bd i):i.natAbs.log2<8000:=by
 by_cases h0:i.natAbs=0
 .rw[h0,Nat.log2_zero];exact Nat.succ_pos _
 .exact(Nat.log2_lt h0).mpr h
theorem Bd.bits{i:Int}(h:Bd i):Builtin.Int.intBits i<=2^20:=by
 have e:(2:Nat)^20=1048576:=by decide
 have:=h.log2;unfold Builtin.Int.intBits;split
 .exact bh _
 .lia
section
variable{X:Cx}
theorem cL:OpR X (binaryOp .Mult) (rI (λi j=>Bd i/\Bd j) λi j=>.int (i*j)):=opI λ_ _ _ _ _ _ _ hc q=>mul_int q (.of_bits hc.1.bits hc.2.bits)
theorem fV:OpR X (binaryOp .FloorDiv) (rI (λ_ j=>j≠0/\Bd j) λi j=>.int (i.fdiv j)):=opI λ_ _ _ _ _ _ _ hc q=>floordiv_int hc.1 q (.inl (PyProof.noPylong_of_log2 (by have:=hc.2.log2;exact Nat.lt_trans this (by decide))))
theorem Jk:fY X (.builtin "isinstance") (λxs H Q=>∃x c cv t b,xs=[x,c]/\((∃T,c=.ty T/\cv=Value.type T)\/∃C,c=.ref C/\cv=Value.ref C)/\yj X.K H x t/\kitOne X.K t cv=some b/\Q (.bl b) H):=by
 intro pins s σ H xs us Q I r h;obtain⟨x,c,cv,t,b,rfl,rc,ty,e,q⟩:=h;obtain⟨u,v,rfl,ru,rv⟩:=r.two;have e2:v=cv:=by
  rcases rc with⟨T,rfl,rfl⟩|⟨T,rfl,rfl⟩
  .exact rv
  .exact rv
 subst e2;exact PX I ru ty e λtk=>⟨.bl b,H,I.tok _,rfl,q⟩
theorem J0:fY X (.builtin "sorted") (λxs H Q=>∃l ns,xs=[.ref l]/\SqL X.K H l (ns.map V.int)/\ns.length<64/\∀(ms:List Int)p,H p=none->ms.Perm ns->ms.Pairwise (· <= ·)->Q (.ref p) (upd H p (.lst (ms.map V.int)))):=by
 intro pins s σ H xs us Q I r h;obtain⟨l,ns,rfl,hl,h64,q⟩:=h;obtain⟨u,rfl,ru⟩:=r.one;cases ru;obtain⟨its,rv,p,hz⟩:=I.list hl;have hI:=intsAre_of rv;have hlen:its.length=ns.length:=by have:=rv.length;simpa using this.symm
 refine sorted_ints (vs:=its) p.isList hI (Y3 (Nat.le_of_eq hlen) h64) λout ns' a1 a2 a3=>?_;obtain⟨e,he⟩:=sortedAll_at s.heap its out;have hfr:H (s.heap.objs.size+1)=none:=I.hok.fresh (Xs _);refine⟨.ref _,_,I.laid (a:=s.heap.objs.size+1) (o:=.lst (ns'.map V.int)) (t':=s.toks) (λb u e=>sortedAll_old e) (Xs _) ?_,rfl,q ns' _ hfr a2 a3⟩;refine⟨?_,out.toList,e,tR a1,he⟩;rw[ak,a2.length_eq];rw[ak]at hz;exact hz
end
section
variable{prog:Program}{w:World}{A:Around}{E:Κ}{s:Shared}
theorem Et{it t:Addr}{items:Array Value}(hne:t≠it):∀(n i:Nat)(s:Shared)(Q:Ξ->Shared->Prop),s.heap.IsListIter it t i->PlainL s.heap t items->i+n<=items.size ->
  (∀h',h'.IsListIter it t (i+n)->Heap.SameBut it s.heap h'->Q ((items.toList.drop i).take n) { s with heap:=h' })->wpAny (model prog w) A (draw (.ref it) n) Q E s
 |0,i,s,Q,hit,_,_,hQ=>by
  show wpAny _ _ (pure []) Q E s;exact ZT (by simpa using hQ s.heap hit (Heap.SameBut.refl ..))
 |n+1,i,s,Q,hit,ht,hle,hQ=>by
  have hlt:i<items.size:=by lia
  show wpAny _ _ (pyNext (.ref it) >>= _) Q E s;refine ZU (wpAny_pyNext_list_item hit ht.isList (x:=items[i]) (by simp[hlt]) λh₁ hit₁ hs₁=>?_);have ht₁:PlainL h₁ t items:=by
   obtain⟨o,k,e,r⟩:=ht;exact⟨o,k,(hs₁.2 t hne).trans e,r⟩
  refine ZU (wpAny_holding (Et hne n (i+1) _ _ hit₁ ht₁ (by lia) λh₂ hit₂ hs₂=>ZT ?_));have hd:items.toList.drop i=items[i]::items.toList.drop (i+1):=by simp[List.drop_eq_getElem_cons,hlt]
  have:=hQ h₂ (by rw[show i+(n+1)=i+1+n by lia];exact hit₂) (hs₁.trans hs₂);rw[hd,List.take_succ_cons]at this;exact this
theorem yD{t:Addr}{items:Array Value}{Q:Ξ->Shared->Prop}(hh:A.handled=none)(ht:PlainL s.heap t items)
 (hQ:∀h',Heap.ExtBut s.heap.objs.size s.heap h'->Q items.toList { s with heap:=h' }):wpAny (model prog w) A (unpackItems (.ref t) items.size none) Q E s:=by
 have hlt:t≠s.heap.objs.size:=by obtain⟨o,_,ho,_⟩:=ht;exact aR (aJ ho)
 unfold unpackItems;refine ZU ?_
 .unfold notIterableAtAll;refine ZU (wpAny_specialOf ht.isList.typeIs slot_list_iter.lookup ?_);refine ZT ?_;simp only[XW,if_false];refine ZU (wpAny_holding (wpAny_pyIter_list ht.isList ?_));have ht0:PlainL (s.heap.push { cls:=.type "list_iterator",data:=.fields #[.ref t,.int 0 0] }) t items:=by
   obtain⟨o,k,e,r⟩:=ht;exact⟨o,k,aG _ e,r⟩
  refine ZU (wpAny_holding (Et hlt items.size 0 _ _ ⟨_,aY _ rfl,rfl,rfl⟩ ht0 (by lia) λh₁ hit₁ hs₁=>?_));have hall:List.take items.size (List.drop 0 items.toList)=items.toList:=by
   rw[List.drop_zero];exact aK (by simp)
  rw[hall];rw[ZZ (by simp)];have ht₁:PlainL h₁ t items:=by
   obtain⟨o,k,e,r⟩:=ht0;exact⟨o,k,(hs₁.2 t hlt).trans e,r⟩
  refine ZU (wpAny_holding (wpAny_pyNext_list_end hh hit₁ ht₁.isList (by simp) λh₂ he₂=>?_));simp only[Option.isSome_none,XW,if_false];refine ZT (hQ h₂ λb o hb e=>he₂ b o hb (hs₁.extBut b o hb (aG _ e)))
theorem vf{env:Env}{elts:List Expr}{x1}{pos:Pos}{t:Addr}{items:Array Value}{Q:Unit->Shared->Prop}(hh:A.handled=none)(ht:PlainL s.heap t items)
 (hn:(assignEach elts env).length=items.size)(hstar:(assignEach elts env).findIdx? (·.1)=none)
 (h:∀h',Heap.ExtBut s.heap.objs.size s.heap h'->wpAny (model prog w) A (assignInOrder ((assignEach elts env).map (·.2)) items.toList) Q E { s with heap:=h' }) :
  wpAny (model prog w) A (assign (.Tuple elts x1 pos) env (.ref t)) Q E s:=by
 rw[assign_Tuple];refine ZU (wpAny_standAt ?_);unfold unpack;rw[hn,hstar];exact ZU (wpAny_holding (yD hh ht h))
end
section
variable{X:Cx}{pos:Pos}
noncomputable def ab9(K:Frag)(n:Nat)(t:TGs):TG:=λv σ H Q=>∃a xs,v=.ref a/\SqL K H a xs/\xs.length=n/\t xs σ H Q
theorem XQ{es:List Expr}{k:Nat}{t:TGs}{n:Nat}(hc:X.calm=true)(h:PGs X es t)
 (hn:(assignEach es X.env).length=n:=by rfl)(hst:(assignEach es X.env).findIdx? (·.1)=none:=by rfl):PG X (.Tuple es k pos) (ab9 X.K n t):=by
 intro pins s σ H v u Q I r hw;obtain⟨a,xs,e1,hq,hl,hw⟩:=hw;subst e1;cases r;obtain⟨its,rv,ht,hz⟩:=I.list hq;refine vf (I.ok.hd hc) ht (by simp[hn,<- hl,rv.length]) hst λh' hx=>?_;have I1:Inv X pins σ H { s with heap:=h' }:=I.kept (t':=s.toks) λb o e=>hx b o (aR (aJ e)) e;exact h pins _ σ H xs _ Q I1 (by simpa using rv) hw
end
theorem dh.btw{P:Program}{w:World}{H H2 H':Hp}{h h':Heap}{a:Addr}{o:HO}(x:dh P w H h a o)(y:dh P w H' h' a o)(s1:Same H H2):dh P w H2 h' a o:=by
 induction o with
 |ins C dx fs=>exact⟨s1 dx _ x.1,y.2⟩
 |frz ob u ih=>exact⟨y.1,ih x.2 y.2⟩
 |_=>exact y
noncomputable def Plus(H H2:Hp):Prop:=Same H H2/\∀a o,H2 a=some o->H a=some o\/(∃xs,o=.tup xs)\/∃xs,o=.lst xs
theorem Plus.refl(H:Hp):Plus H H:=⟨Same.refl H,λ_ _ e=>.inl e⟩
theorem Plus.tup{H H1:Hp}{p:Addr}{xs:Μ}(h:Plus H H1)(hp:H1 p=none):Plus H (upd H1 p (.tup xs)):=by
 refine⟨λb o e=>?_,λa o e=>?_⟩
 .rw[bL (bH (h.1 b o e) hp)];exact h.1 b o e
 .by_cases z:a=p
  .subst z;rw[bG]at e;cases e;exact .inr (.inl ⟨xs,rfl⟩)
  .rw[bL z]at e;exact h.2 a o e
theorem cC.forget{P:Program}{w:World}{K:Frag}{mg:Str->Ζ}{base:Heap}{CX:CXT}{k:Nat}{f:Addr}{fd:FuncData}{ps:Β}{sp sp':Sp}(F:cC P w K mg base CX k f fd ps sp)
 (hs:∀vs H Q E,sp' vs H Q E->∃Q',sp vs H Q' E/\∀v H',Q' v H'->∃H2,Plus H H2/\Same H2 H'/\Q v H2):cC P w K mg base CX k f fd ps sp':=by
 refine⟨λvs H Q E h=>?_,λA outer s H args us vs Q E hr e0 hb r h=>?_⟩
 .obtain⟨Q',h',_⟩:=hs vs H Q E h;exact F.len vs H Q' E h'
 obtain⟨Q',h',hq⟩:=hs vs H Q E h;refine codeAny_mono (F.run A outer s H args us vs _ E hr e0 hb r h') λres s' hs=>?_;cases res with
 |error e=>exact hs
 |ok fl =>
  cases fl with
  |ret u =>
   obtain⟨v,H',ho,hbr,un,hok,rv,q'⟩:=hs;obtain⟨H2,⟨s1,cl⟩,s2,q⟩:=hq v H' q';have fr:∀b,H' b=none->H2 b=none:=λb e=>s2.free e;refine⟨v,H2,ho,hbr,⟨un.keep,un.slot,λb o e n hx=>fr b (un.free b o e n hx),un.there,λb xs e=>s1 b _ e,λb o u e=>s1 b _ e,λb ps e=>⟨#[],by rw[s1 b _ e];simp⟩⟩,λa o e=>?_,rv,q⟩;have z:=hok a o (s2 a o e);rcases cl a o e with c|⟨xs,rfl⟩|⟨xs,rfl⟩
   .exact(e0.hok a o c).btw z s1
   .exact z
   .exact z
  |next=>exact hs
  |brk=>exact hs
  |cont=>exact hs
theorem cC.clean{P:Program}{w:World}{K:Frag}{mg:Str->Ζ}{base:Heap}{CX:CXT}{k:Nat}{f:Addr}{fd:FuncData}{ps:Β}{sp sp':Sp}(F:cC P w K mg base CX k f fd ps sp)
 (h:∀vs H Q E,sp' vs H Q E->sp vs H (λv H'=>Same H H'/\Q v H) E):cC P w K mg base CX k f fd ps sp' :=
 F.forget λvs H Q E hs=>⟨_,h vs H Q E hs,λv H' hP=>by obtain⟨s,q⟩:=hP;exact⟨H,Plus.refl H,s,q⟩⟩
theorem Same.upd{H:Hp}{p:Addr}{o:HO}(hp:H p=none):Same H (upd H p o):=λb u e=>by
 rw[bL (bH e hp)];exact e
theorem cC.cleanP{P:Program}{w:World}{K:Frag}{mg:Str->Ζ}{base:Heap}{CX:CXT}{k:Nat}{f:Addr}{fd:FuncData}{ps:Β}{sp sp':Sp}(F:cC P w K mg base CX k f fd ps sp)
 (h:∀vs H Q E,sp' vs H Q E->sp vs H (λv H'=>Same H H'/\∃p xs,H' p=some (.tup xs)/\H p=none/\Q v (upd H p (.tup xs))) E):cC P w K mg base CX k f fd ps sp' :=
 F.forget λvs H Q E hs=>⟨_,h vs H Q E hs,λv H' ⟨s,p,xs,e,z,q⟩=>by
  refine⟨_,(Plus.refl H).tup (xs:=xs) z,λb o y=>?_,q⟩;by_cases c:b=p
  .subst c;rw[bG]at y;cases y;exact e
  .rw[bL c]at y;exact s b o y⟩
section
variable{X:Cx}
theorem IxR.imp{r r':R2}(h:IxR X r)(i:∀x y H Q,r' x y H Q->r x y H Q):IxR X r':=by
 intro b pos pins s σ H x y v u Q I rx ry q hs;exact h _ _ _ _ _ _ _ _ _ _ _ I rx ry (i _ _ _ _ q) hs
noncomputable def Oa:R2:=λx y H Q=>∃p xs i v,x=.ref p/\y=.int i/\H p=some (.tup xs)/\atI xs i=some v/\Q v H
noncomputable def Jo:R2:=λx y H Q=>∃p xs i v,x=.ref p/\y=.int i/\H p=some (.lst xs)/\atI xs i=some v/\Q v H
theorem cg:IxR X Oa:=gU.imp λx y H Q hP=>by obtain⟨p,xs,i,v,a,b,c,d⟩:=hP;exact⟨p,xs,i,v,a,b,.of c,d⟩
theorem cu:IxR X Jo:=V2.imp λx y H Q hP=>by obtain⟨p,xs,i,v,a,b,c,d⟩:=hP;exact⟨p,xs,i,v,a,b,.of c,d⟩
theorem fZ{α:Type}{x:α}{xs:List α} : atI (x::xs) 0=some x:=b_ (j:=0) rfl
theorem dj{α:Type}{x y:α}{xs:List α} : atI (x::y::xs) 1=some y:=b_ (j:=1) rfl
theorem fY.imp{f:Value}{r r':Μ->Hp->VK->Prop}(h:fY X f r)(i:∀xs H Q,r' xs H Q->r xs H Q):fY X f r':=λpins s σ H xs us Q I rx q=>h pins s σ H xs us Q I rx (i _ _ _ q)
noncomputable def Oi:Μ->Hp->VK->Prop:=λxs H Q=>∃p ys,xs=[.ref p]/\H p=some (.tup ys)/\Q (.int ys.length) H
noncomputable def O6:Μ->Hp->VK->Prop:=λxs H Q=>∃p ys,xs=[.ref p]/\H p=some (.lst ys)/\Q (.int ys.length) H
theorem Ep:fY X (.builtin "len") Oi:=qu.imp λxs H Q hP=>by obtain⟨p,ys,a,b,c⟩:=hP;exact⟨p,ys,a,.inr (.of b),c⟩
theorem fW:fY X (.builtin "len") O6:=qu.imp λxs H Q hP=>by obtain⟨p,ys,a,b,c⟩:=hP;exact⟨p,ys,a,.inl (.of b),c⟩
noncomputable def tyS(H:Hp):V->Option String
 |.non=>some "NoneType"
 |.bl _=>some "bool"
 |.int _=>some "int"
 |.str _=>some "str"
 |.ref a=>match H a with
  |some (.lst _)=>some "list"
  |some (.tup _)=>some "tuple"
  |some (.dK _)=>some "dict"
  |_=>none
 |_=>none
theorem aac{K:Frag}{H:Hp}{x:V}{t:String}(h:tyS H x=some t):yj K H x (.type t):=by
 cases x with
 |non=>cases h;exact .non
 |bl=>cases h;exact .bl _
 |int=>cases h;exact .int _
 |str=>cases h;exact .str _
 |byt=>cases h
 |flt=>cases h
 |ty=>cases h
 |ref a =>
  have h:(match H a with
   |some (.lst _)=>some "list"
   |some (.tup _)=>some "tuple"
   |some (.dK _)=>some "dict"
   |_=>none)=some t:=h
  split at h
  .cases h;exact .lst (by assumption)
  .cases h;exact .tup (by assumption)
  .cases h;exact .dK (by assumption)
  .cases h
noncomputable def Pr(t T:String):Bool:=(t==T) || (t == "bool" && T == "int")
theorem NQ{K:Frag}{t T:String}(ht:t∈["NoneType", "bool", "int", "str", "list", "tuple", "dict"])(hT:T∈["bool", "int", "str", "list", "tuple", "dict"]):kitOne K (.type t) (.type T)=some (Pr t T):=by
 simp only[YU,List.not_mem_nil,or_false]at ht hT;rcases ht with rfl|rfl|rfl|rfl|rfl|rfl|rfl<;>rcases hT with rfl|rfl|rfl|rfl|rfl|rfl<;>with_unfolding_all rfl
theorem K3{H:Hp}{x:V}{t:String}(h:tyS H x=some t):t∈["NoneType", "bool", "int", "str", "list", "tuple", "dict"]:=by
 cases x with
 |non=>cases h;decide
 |bl=>cases h;decide
 |int=>cases h;decide
 |str=>cases h;decide
 |byt=>cases h
 |flt=>cases h
 |ty=>cases h
 |ref a =>
  have h:(match H a with
   |some (.lst _)=>some "list"
   |some (.tup _)=>some "tuple"
   |some (.dK _)=>some "dict"
   |_=>none)=some t:=h
  split at h<;>cases h<;>decide
noncomputable def Wo:Μ->Hp->VK->Prop:=λxs H Q=>∃x T t,xs=[x,.ty T]/\T∈["bool", "int", "str", "list", "tuple", "dict"]/\tyS H x=some t/\Q (.bl (Pr t T)) H
theorem iQ:fY X (.builtin "isinstance") Wo:=Jk.imp λxs H Q hP=>by obtain⟨x,T,t,a,b,c,d⟩:=hP;exact⟨x,.ty T,.type T,.type t,_,a,.inl ⟨T,rfl,rfl⟩,aac c,NQ (K3 c) b,d⟩
theorem PG.imp{e:Expr}{t t':TG}(h:PG X e t)(i:∀v σ H Q,t' v σ H Q->t v σ H Q):PG X e t':=λpins s σ H v u Q I r q=>h pins s σ H v u Q I r (i _ _ _ _ q)
noncomputable def Np(n:Nat)(t:TGs):TG:=λv σ H Q=>∃a xs,v=.ref a/\H a=some (.tup xs)/\xs.length=n/\t xs σ H Q
noncomputable def Ox(n:Nat)(t:TGs):TG:=λv σ H Q=>∃a xs,v=.ref a/\H a=some (.lst xs)/\xs.length=n/\t xs σ H Q
theorem gB{es:List Expr}{k:Nat}{t:TGs}{n:Nat}{pos:Pos}(hc:X.calm=true)(h:PGs X es t)(hn:(assignEach es X.env).length=n:=by rfl)(hst:(assignEach es X.env).findIdx? (·.1)=none:=by rfl):PG X (.Tuple es k pos) (Np n t) :=
 (ZX hc h hn hst).imp λv σ H Q hP=>by obtain⟨a,xs,e1,e2,e3⟩:=hP;exact⟨a,xs,e1,.of e2,e3⟩
theorem WM{es:List Expr}{k:Nat}{t:TGs}{n:Nat}{pos:Pos}(hc:X.calm=true)(h:PGs X es t)(hn:(assignEach es X.env).length=n:=by rfl)(hst:(assignEach es X.env).findIdx? (·.1)=none:=by rfl):PG X (.Tuple es k pos) (Ox n t) :=
 (XQ hc h hn hst).imp λv σ H Q hP=>by obtain⟨a,xs,e1,e2,e3⟩:=hP;exact⟨a,xs,e1,.of e2,e3⟩
noncomputable def Nh:Μ->Hp->VK->Prop:=λxs H Q=>∃l ns,xs=[.ref l]/\H l=some (.lst (ns.map V.int))/\ns.length<64/\∀(ms:List Int)p,H p=none->ms.Perm ns->ms.Pairwise (· <= ·)->Q (.ref p) (upd H p (.lst (ms.map V.int)))
theorem Qu:fY X (.builtin "sorted") Nh:=J0.imp λxs H Q hP=>by obtain⟨l,ns,a,b,c⟩:=hP;exact⟨l,ns,a,.of b,c⟩
theorem Gx{H:Hp} : tyS H .non=some "NoneType" := rfl
theorem KY{H:Hp}{b:Bool} : tyS H (.bl b)=some "bool" := rfl
theorem wZ{H:Hp}{i:Int} : tyS H (.int i)=some "int" := rfl
theorem GD{H:Hp}{x:Str} : tyS H (.str x)=some "str" := rfl
theorem M4{H:Hp}{p:Addr}{xs:Μ}(h:H p=some (.tup xs)):tyS H (.ref p)=some "tuple" := by
 show(match H p with
   |some (.lst _)=>some "list"
   |some (.tup _)=>some "tuple"
   |some (.dK _)=>some "dict"
   |_=>none)=_
 rw[h]
theorem Il{H:Hp}{p:Addr}{xs:Μ}(h:H p=some (.lst xs)):tyS H (.ref p)=some "list" := by
 show(match H p with
   |some (.lst _)=>some "list"
   |some (.tup _)=>some "tuple"
   |some (.dK _)=>some "dict"
   |_=>none)=_
 rw[h]
noncomputable def U5:V->Option Bool
 |.bl b=>some b
 |.int i=>some (i != 0)
 |.non=>some false
 |_=>none
theorem Yg{K:Frag}{x:V}{H:Hp}{k:Bool}(h:U5 x=some k):aa9 K x H k:=by
 cases x<;>cases h<;>rfl
noncomputable def V4(ta:TE):TT:=λσ H Q=>ta σ H λx H'=>∃k,U5 x=some k/\Q k H'
theorem dB{a:Expr}{ta:TE}(ha:PE X a ta)(he:∀whole,isTrue a X.env whole=(do let v <- whole;standAt a.pos;holding [v] (truthy v))):PT X a (V4 ta):=by
 intro pins s σ H Q I h;exact isTrue_plain (thn (ha pins s σ H _ I h) λv s1 hP=>by obtain⟨x,H1,I1,r1,k,e,q1⟩:=hP;exact Zn pins s1 σ H1 x v Q I1 r1 ⟨k,Yg e,q1⟩) (he _)
end
noncomputable def OkF(P:Program)(w:World)(K:Frag)(mg:Str->Ζ)(base:Heap)(k:Nat)(x:Str)(ps:Β)(sp:Sp):Prop :=
 ∃f fd,cC P w K mg base CX0 k f fd ps sp/\Binds K fd ps []/\mg x=some (.ref f)/\keepIn K (.ref f)=true
noncomputable def dw(K:Frag)(mg:Str->Ζ)(x:Str)(st:Stmt)(ps:Β):Prop :=
 ∃f fd,Fun K x x st f fd/\(∀us:Ξ,us.length=ps.length->bindArgs fd ⟨us,[]⟩=pure (ps.zip us))/\mg x=some (.ref f)
theorem dw.ok{P:Program}{w:World}{K:Frag}{mg:Str->Ζ}{base:Heap}{k:Nat}{x:Str}{st:Stmt}{ps:Β}{sp:Sp}(h:dw K mg x st ps)
 (hf:∀f fd,Fun K x x st f fd->cC P w K mg base CX0 k f fd ps sp):OkF P w K mg base k x ps sp:=by
 obtain⟨f,fd,a,b,c⟩:=h;exact⟨f,fd,hf f fd a,.all b,c,a.kp⟩
theorem Xu{K:Frag}{h:Heap}{mg:Str->Ζ}{x:Str}{st:Stmt}{ps:Β}{f:Addr}{oc:Value}{od an:Η}{osl:Array (Ζ)}{kV doc pm cdv ct:Value}(X:K.In h)(G:h.Ns mainGlobals mg)
 (a:nsIn K mainGlobals x=some (some (.ref f)))(l:K.lookup f=some ⟨oc,od,.func (PySem.W.fnOf x x (fM st) (dU st) (bM st) .none kV doc pm an cdv ct),osl⟩)
 (c:codeIn K cdv x=true)(k:keepIn K (.ref f)=true)
 (hb:∀(kV doc pm:Value)(an:Η)(cdv ct:Value)(us:Ξ),us.length=ps.length->bindArgs (PySem.W.fnOf x x (fM st) (dU st) (bM st) .none kV doc pm an cdv ct) ⟨us,[]⟩=pure (ps.zip us)):dw K mg x st ps :=
 ⟨f,_,Kz l c k,hb kV doc pm an cdv ct,mg_of X G a⟩
section
variable{X:Cx}{p pos:Pos}{e:Expr}{es:List Expr}{t:TA}{x:Str}{k:Nat}{ps:Β}{sp:Sp}
noncomputable def Ai(sp:Sp)(t:TA):TE:=λσ H Q=>t σ H λvs H1=>sp vs H1 Q E0
theorem bO(G:OkF X.prog X.w X.K X.mg X.base k x ps sp)(hr:eN k X.A)(hg:Gl X x)(ha:PA X (e::es) t)(hdb:(x==("__debug__" : Str))=false:=by decide)
 (he:starEach (e::es) X.env=(false,eval e X.env)::starEach es X.env:=by rfl)(hpl:(backTo pos (starEach es X.env)).any (·.1)=false:=by rfl):PE X (.Call (.Name x p) (e::es) [] pos) (Ai sp t):=by
 obtain⟨f,fd,F,b,hm,kp⟩:=G;intro pins s σ H Q I h;refine Wi F hr hg hm kp b .nil M7 ha hdb he hpl pins s σ H Q I ?_;show t σ H λvs H1=>sp (vs++[]) H1 Q E0;simp only[List.append_nil];exact h
end
theorem G5(a:Int):(if a<0 then -a else a)=((a.natAbs:Nat):Int):=by split<;>omega
theorem Vc{ms:List Int}{x y:Int}(h:ms.Perm [x,y]):ms=[x,y]\/ms=[y,x]:=by
 match ms,h.length_eq with
 |[l,k],_ =>
  have h1:l∈[x,y]:=h.mem_iff.mp (by simp);simp only[YU,List.not_mem_nil,or_false]at h1;rcases h1 with rfl|rfl
  .have h2:=(List.perm_cons l).mp h;have h3:=h2.mem_iff.mp (aO);simp only[YU,List.not_mem_nil,or_false]at h3;exact .inl (by rw[h3])
  .have h2:=(List.perm_cons l).mp (h.trans (List.Perm.swap ..));have h3:=h2.mem_iff.mp (aO);simp only[YU,List.not_mem_nil,or_false]at h3;exact .inr (by rw[h3])
theorem vH(a b:Nat):Int.fmod (a:Int) (b:Int)=((a%b:Nat):Int):=by
 rw[aX _ (Wp b)];rfl
theorem nq(a:Int){b:Int}(h:0<b):Int.fdiv a b=a/b:=Int.fdiv_eq_ediv_of_nonneg a (XY h)
theorem Uy(a:Int){b:Int}(h:0<b):Int.fmod a b=a%b:=aX a (XY h)
theorem Bd.div{a b:Int}(h:Bd a)(hb:0<b):Bd (a/b):=by
 unfold Bd at *;refine Y3 ?_ h;have e:=Int.mul_ediv_add_emod a b;have r0:=Z3 a (show b≠0 by exact Int.ne_of_gt hb);have r1:=YY a hb;generalize a/b=q at *;generalize a%b=r at *;rcases(by lia:q=0\/1<=q\/q <= -1)with z|z|z
 .subst z;simp
 .have:=Int.mul_le_mul_of_nonneg_right (show 1<=b by lia) (show 0<=q by lia);lia
 .have h1:b*(q+1)<=1*(q+1):=Int.mul_le_mul_of_nonpos_right (show 1<=b by lia) (show q+1<=0 by lia);rw[Int.mul_add]at h1;omega
noncomputable def TrD(h base:Heap)(e:Addr)(cls:Value)(d:Η)(fl:Value):Prop :=
 ∃oe vs T oT ts,h.get? e=some oe/\(oe.cls=cls/\oe.dict=d)/\oe.data=.fields vs/\vs[1]?=some (.ref T)/\base.get? T=none/\T≠e/\h.get? T=some oT/\oT.data=.fields ts/\ts[3]?=some fl
noncomputable def u_(base:Heap)(l:List Env)(e:Addr)(cls:Value)(d:Η)(fl:Value)(h:Heap):Prop :=
 base.StaysIn h/\base.get? e=none/\h.FunFrames base l/\TrD h base e cls d fl
section
variable{M:Model}{A:Around}{E:Κ}{s:Shared}{base:Heap}{env:Env}{outer l:List Env}{L e:Addr}{cls:Value}{d:Η}{Q:Unit->Shared->Prop}
theorem Ab(o:Obj)(f:Array Value->Array Value):(Obj.mapFields f o).dict=o.dict:=by
 unfold Obj.mapFields;split<;>rfl
theorem Rm{oe:Obj}{vs:Array Value}{head:Value}{hadNext:Bool}(hfr:A.frames=some (env::outer))(hl:s.heap.FunFrames base (env::outer))(hf:env.frame=some L)(he:s.heap.get? e=some oe)
 (hkb:base.StaysIn s.heap)(hen:base.get? e=none)(hd:oe.data=.fields vs)(hsz:1<vs.size)(h:∀h',u_ base (env::outer) e oe.cls oe.dict (rawInt L) h'->s.heap.UpToSlots h'->Q () { s with heap:=h' }) :
  wpAny M A (do let a <- frameOf env;let pl <- entryPlaceOf L hadNext;let b <- EntryCells.newEntry head a .none (rawInt L) .none pl;setField (.ref e) 1 b) Q E s:=by
 have nofr:e∉(env::outer).filterMap (·.frame):=λz=>by
  obtain⟨_,o,ho,hnf⟩:=hl.mem z;rw[he]at ho;cases ho;exact hnf vs hd
 refine ZU (wpAny_frameOf_fun hfr hl hf λg hg=>ZU (wpAny_entryPlaceOf λpl hpl=>?_));unfold EntryCells.newEntry newFields;refine ZU (wpAny_newObj_type ?_ (hpl.sizeOk5 _ _ _ _ _));have eg:g.get? e=some oe:=(hg.2.1 e nofr).trans he;have kg:base.StaysIn g:=λb o q=>(hg.2.1 b λz=>by rw[(hl.mem z).1]at q;cases q).trans (hkb b o q);generalize ho':({ cls:=.type "traceback",dict:=none,data:=.fields ([head,.ref L,.none,rawInt L,.none]++(if pl.isEmpty then List.replicate 6 Value.none else pl)).toArray } : Obj)=ot;have nTe:g.objs.size≠e:=Nat.ne_of_gt (aJ eg);have e2:(g.push ot).get? e=some oe:=aG _ eg;refine wpAny_setField e2 hd hsz (h _ ?_ ?_)
 all_goals
  have d3:=Obj.data_mapFields hd (·.setIfInBounds 1 (Value.ref g.objs.size));have e3:=Heap.get?_update_self (Obj.mapFields (·.setIfInBounds 1 (Value.ref g.objs.size))) e2 (Obj.isFreed_of_fields d3);have keep:∀b o,b≠e->g.get? b=some o->((g.push ot).update e (Obj.mapFields (·.setIfInBounds 1 (Value.ref g.objs.size)))).get? b=some o:=λb o nb q=>by
   rw[Heap.get?_update_other _ _ (Ne.symm nb)];exact aG _ q
  have nr:∀b o,s.heap.get? b=some o->(∀ws,o.data≠.fields ws)->b≠e:=λb o q nf z=>by
   rw[z,he]at q;cases q;exact nf vs hd
 .refine⟨λb o q=>keep b o (λz=>by rw[z,hen]at q;cases q) (kg b o q),hen,hl.of_keeps λb o q nf=>?_,?_⟩
  .obtain⟨sl,z⟩:=hg.2.2 b o q;exact⟨_,keep b _ (nr b o q nf) z,rfl⟩
  .refine⟨_,_,g.objs.size,ot,_,e3,⟨Obj.cls_mapFields _ _,Ab _ _⟩,d3,by simp[hsz],kg.fresh,nTe,?_,by rw[<- ho'],?_⟩
   .rw[Heap.get?_update_other _ _ (Ne.symm nTe)];exact aY g (by rw[<- ho'];rfl)
   .first|(simp;done)|(rcases hpl with rfl|⟨_,_,_,_,_,_,_,rfl⟩<;>simp)
 .intro b o q nf;obtain⟨sl,z⟩:=hg.2.2 b o q;exact⟨sl,keep b _ (nr b o q nf) z⟩
theorem Mq{oe:Obj}{vs:Array Value}(hfr:A.frames=some (env::outer))(hl:s.heap.FunFrames base (env::outer))(hf:env.frame=some L)(he:s.heap.get? e=some oe)
 (hkb:base.StaysIn s.heap)(hen:base.get? e=none)(hd:oe.data=.fields vs)(h1:vs[1]?=some .none)(h:∀h',u_ base (env::outer) e oe.cls oe.dict (rawInt L) h'->s.heap.UpToSlots h'->Q () { s with heap:=h' }) :
  wpAny M A (noteFrame (.ref e) env) Q E s:=by
 unfold noteFrame;simp only[hf];refine ZU (wpAny_field he hd h1 ?_);rw[ZZ (by decide)];exact Rm hfr hl hf he hkb hen hd (Array.getElem?_eq_some_iff.mp h1).1 h
theorem Qy(hfr:A.frames=some (env::outer))(hf:env.frame=some L)(x:u_ base (env::outer) e cls d .none s.heap)
 (h:∀h',u_ base (env::outer) e cls d (rawInt L) h'->s.heap.UpToSlots h'->Q () { s with heap:=h' }):wpAny M A (noteFrame (.ref e) env) Q E s:=by
 obtain⟨hkb,hen,hl,oe,vs,T,oT,ts,he,⟨hc,hdd⟩,hd,h1,nT,nTe,hT,hdT,h3⟩:=x;subst hc hdd;unfold noteFrame;simp only[hf];refine ZU (wpAny_field he hd h1 ?_);rw[ZY (show(Value.ref T != Value.none)=true from by simp)];refine ZU (wpAny_field hT hdT h3 ?_);rw[ZZ (show ¬((Value.none==rawInt L)=true)from by simp[rawInt])];refine ZU (wpAny_setField hT hdT (Array.getElem?_eq_some_iff.mp h3).1 ?_);have other:∀b,b≠T->(s.heap.update T (Obj.mapFields (·.setIfInBounds 3 Value.none))).get? b=s.heap.get? b:=λb hb=>Heap.get?_update_other _ _ (Ne.symm hb);have nr:∀b o,s.heap.get? b=some o->(∀ws,o.data≠.fields ws)->b≠T:=λb o q nf z=>by
  rw[z,hT]at q;cases q;exact nf ts hdT
 refine Rm (s:={ s with heap:=_ }) hfr (hl.of_keeps λb o q nf=>⟨o,(other b (nr b o q nf)).trans q,rfl⟩) hf ((other e (Ne.symm nTe)).trans he)
  (λb o q=>(other b λz=>by rw[z,nT]at q;cases q).trans (hkb b o q)) hen hd (Array.getElem?_eq_some_iff.mp h1).1 λh' y up=>h h' y λb o q nf=>up b o ((other b (nr b o q nf)).trans q) nf
theorem Yu{fl:Value}(x:u_ base l e cls d fl s.heap)(h:∀h',u_ base l e cls d .none h'->s.heap.UpToSlots h'->Q () { s with heap:=h' }):wpAny M A (setFlight (.ref e) none) Q E s:=by
 obtain⟨hkb,hen,hl,oe,vs,T,oT,ts,he,hc,hd,h1,nT,nTe,hT,hdT,h3⟩:=x;have z3:3<ts.size:=(Array.getElem?_eq_some_iff.mp h3).1;have other:∀b,b≠T->(s.heap.update T (Obj.mapFields (·.setIfInBounds 3 ((none:Η).elim Value.none λf=>rawInt f)))).get? b=s.heap.get? b:=λb hb=>Heap.get?_update_other _ _ (Ne.symm hb);have nr:∀b o,s.heap.get? b=some o->(∀ws,o.data≠.fields ws)->b≠T:=λb o q nf z=>by
  rw[z,hT]at q;cases q;exact nf ts hdT
 unfold setFlight;refine ZU (wpAny_field he hd h1 ?_);rw[ZY (show(Value.ref T != Value.none)=true from by simp)];refine wpAny_setField hT hdT z3 (h _ ⟨λb o q=>(other b λz=>by rw[z,nT]at q;cases q).trans (hkb b o q),hen,hl.of_keeps λb o q nf=>⟨o,(other b (nr b o q nf)).trans q,rfl⟩,?_⟩ λb o q nf=>⟨o.slots,(other b (nr b o q nf)).trans q⟩);exact⟨oe,vs,T,_,_,(other e (Ne.symm nTe)).trans he,hc,hd,h1,nT,nTe,Heap.get?_update_self _ hT (Obj.isFreed_of_fields (Obj.data_mapFields hdT _)),Obj.data_mapFields hdT _,by simp[z3]⟩
theorem u_.pop{fl:Value}{h:Heap}(x:u_ base (env::outer) e cls d fl h):u_ base outer e cls d fl h:=⟨x.1,x.2.1,x.2.2.1.2.2,x.2.2.2⟩
theorem Ua(hfr:A.frames=some (env::outer))(hf:env.frame=some L)(x:u_ base (env::outer) e cls d .none s.heap)
 (h:∀h',u_ base outer e cls d .none h'->s.heap.UpToSlots h'->Q () { s with heap:=h' }):wpAny M A (leaving env (.ref e)) Q E s:=by
 unfold leaving;exact ZU (Qy hfr hf x λh1 y up=>Yu y λh2 z up2=>h h2 z.pop (up.trans up2))
theorem P0{h0:Heap}{oe:Obj}{vs:Array Value}(hfr:A.frames=some (env::outer))(hf:env.frame=some L)(hkb:base.StaysIn h0)(hl:h0.FunFrames base (env::outer))(keeps:∀b o,h0.get? b=some o->s.heap.get? b=some o)
 (new:h0.get? e=none)(he:s.heap.get? e=some oe)(hd:oe.data=.fields vs)(h1:vs[1]?=some .none)
 (h:∀h',u_ base outer e oe.cls oe.dict .none h'->s.heap.UpToSlots h'->Q () { s with heap:=h' }):wpAny M A (leaving env (.ref e)) Q E s:=by
 have hen:base.get? e=none:=by
  cases q:base.get? e with
  |none=>rfl
  |some o=>have:=hkb e o q;rw[new]at this;cases this
 unfold leaving;exact ZU (Mq hfr (hl.of_keeps λb o q _=>⟨o,keeps b o q,rfl⟩) hf he (λb o q=>keeps b o (hkb b o q)) hen hd h1 λh1 y up=>Yu y λh2 z up2=>h h2 z.pop (up.trans up2))
end
theorem dh.there{P:Program}{w:World}{H:Hp}{h:Heap}{a:Addr}{o:HO}(x:dh P w H h a o):∃ob,h.get? a=some ob:=by
 cases o with
 |lst xs=>obtain⟨_,_,_,_,e⟩:=x;exact⟨_,e⟩
 |tup xs=>obtain⟨_,_,_,o,e,_⟩:=x;exact⟨_,e⟩
 |dK kvs=>obtain⟨_,_,_,_,o,_,_,e,_⟩:=x;exact⟨_,e⟩
 |set S n=>obtain⟨o,_,_,_,e,_⟩:=x;exact⟨_,e⟩
 |ins C dx fs=>obtain⟨_,_,_,e,_⟩:=x;exact⟨_,e⟩
 |own y=>exact x
 |xd fs=>obtain⟨_,⟨_,_,_,e,_⟩,_⟩:=x;exact⟨_,e⟩
 |rng lo hi=>obtain⟨_,_,_,e⟩:=x;exact⟨_,e⟩
 |frz ob u=>obtain⟨e,_⟩:=x;exact⟨_,e⟩
 |tbl ps=>exact⟨_,(show h.get? a=some _ from x)⟩
 |met f y=>exact⟨_,(show h.get? a=some _ from x)⟩
 |ext φ=>obtain⟨_,e,_⟩:=x;exact e
structure Fly(P:Program)(w:World)(l:List Env)(H:Hp)(s:Shared)(a:Addr)(C:Value)(H':Hp)(s':Shared)(B:Heap)(d:Η):Prop where
 os:s'.os=s.os
 bare:AllBare s'.gens
 new:s.heap.get? a=none
 un:Un (frs l) [] H H' s.heap s'.heap
 hok:HOk P w H' s'.heap
 frf:∀b∈frs l,H' b=none
 fl:u_ B l a C d .none s'.heap
 cov:∀b o,s'.heap.get? b=some o->b∉frs l->((∃u,s.heap.get? b=some u)\/∃u,H' b=some u)->B.get? b=some o
section
variable{P:Program}{w:World}{l:List Env}{H H':Hp}{s s':Shared}{a:Addr}{C:Value}{B:Heap}{d:Η}{h':Heap}
theorem Fly.trk(F:Fly P w l H s a C H' s' B d){b:Addr}{u:HO}{o:Obj}(e:H' b=some u)(q:s'.heap.get? b=some o):B.get? b=some o :=
 F.cov b o q (λz=>by rw[F.frf b z]at e;cases e) (.inr ⟨u,e⟩)
theorem Fly.hok'(F:Fly P w l H s a C H' s' B d)(k:∀b o,B.get? b=some o->h'.get? b=some o):HOk P w H' h':=λb u e =>
 (F.hok b u e).stay (λc v hc q=>k c v (by
  rcases hc with z|z
  .subst z;exact F.trk e q
  .exact F.trk z q)) (λ_ q=>q) λ_ _ q=>q
theorem Fly.un'(F:Fly P w l H s a C H' s' B d)(k:∀b o,B.get? b=some o->h'.get? b=some o)(up:s'.heap.UpToSlots h'):Un (frs l) [] H H' s.heap h':=by
 have nf:∀b∈frs l,∀o,s'.heap.get? b=some o->∀vs,o.data≠.fields vs:=λb hb o e=>by
  obtain⟨_,o',e',d⟩:=F.fl.2.2.1.mem hb;rw[e]at e';cases e';exact d
 refine⟨λb o q n hb hx=>k b o (F.cov b o (F.un.keep b o q n hb hx) hb (.inl ⟨o,q⟩)),λb o q n hb hx=>?_,F.un.free,λb o q hx=>?_,F.un.tups,F.un.frzs,F.un.tbls⟩
 .obtain⟨sl,e⟩:=F.un.slot b o q n hb hx;obtain⟨sl',e'⟩:=up b _ e (nf b hb _ e);exact⟨sl',e'⟩
 .obtain⟨o',e⟩:=F.un.there b o q hx;by_cases hb:b∈frs l
  .obtain⟨sl',e'⟩:=up b _ e (nf b hb _ e);exact⟨_,e'⟩
  .exact⟨o',k b o' (F.cov b o' e hb (.inl ⟨o,q⟩))⟩
end
section
variable{X:Cx}{pins:Ω}{σ:List (Option V)}{H H':Hp}{s s':Shared}{a:Addr}{C:Value}{B:Heap}{d:Η}{h':Heap}
theorem Inv.flown(I:Inv X pins σ H s)(F:Fly X.prog X.w X.stack H s a C H' s' B d)(k:∀b o,B.get? b=some o->h'.get? b=some o)(up:s'.heap.UpToSlots h'):Inv X pins σ H' { s' with heap:=h' } :=
 I.call' (s':={ s' with heap:=h' }) (ch:=[]) F.os (F.un' k up) (F.hok' k) F.bare λ_ z=>nomatch z
theorem Inv.old(I:Inv X pins σ H s)(hx:X.ex=[]){b:Addr}{o:Obj}(e:X.s₀.heap.get? b=some o):(∃u,s.heap.get? b=some u)/\b≠X.env.locals:=by
 obtain⟨u,q⟩:=I.base.there b o e (by rw[hx];simp);exact⟨⟨u,q⟩,aR (aU (aJ e) I.ok.above)⟩
theorem Inv.nostk(I:Inv X pins σ H s){b:Addr}(h1:b≠X.env.locals)(h2:b∉X.fs):b∉frs X.stack:=λz=>by
 rcases YU.mp (I.stkSub b z)with e|e
 .exact h1 e
 .exact h2 e
theorem Inv.flyOut(I:Inv X pins σ H s)(hx:X.ex=[])(F:Fly X.prog X.w X.stack H s a C H' s' B d)(fl:u_ B X.outer a C d .none h')(up:s'.heap.UpToSlots h') :
  Fly X.prog X.w X.outer X.H₀ X.s₀ a C H' { s' with heap:=h' } B d:=by
 have J:=I.flown F fl.1 up;refine⟨J.os,J.bare,?_,by have:=J.base;rw[hx]at this;exact this,J.hok,λb hb=>?_,fl,λb o e hb hc=>?_⟩
 .cases q:X.s₀.heap.get? a with
  |none=>rfl
  |some o =>
   obtain⟨⟨u,z⟩,_⟩:=I.old hx q;rw[F.new]at z;cases z
 .obtain⟨_,o,ho,_⟩:=I.ok.funs.mem hb;exact J.base.free b o ho (I.ok.frf b hb) λz=>I.ok.exfs b z hb
 .rcases hc with⟨u,q⟩|⟨u,q⟩
  .obtain⟨⟨v,z⟩,n⟩:=I.old hx q;obtain⟨o',e'⟩:=F.un.there b v z (by simp);have y:=F.cov b o' e' (I.nostk n hb) (.inl ⟨v,z⟩);have e2:=fl.1 b o' y;rw[show({ s' with heap:=h' } : Shared).heap.get? b=h'.get? b from rfl,e2]at e;cases e;exact y
  .obtain⟨o',e'⟩:=(F.hok b u q).there;have y:=F.trk q e';have e2:=fl.1 b o' y;rw[show({ s' with heap:=h' } : Shared).heap.get? b=h'.get? b from rfl,e2]at e;cases e;exact y
theorem Inv.flyNew(I:Inv X pins σ H s)(hx:X.ex=[]){h1:Heap}{t:Nat}(keeps:∀b o,s.heap.get? b=some o->h1.get? b=some o)(new:s.heap.get? a=none)(hB:B=hideAll s.heap (frs X.stack))(fl:u_ B X.outer a C d .none h')(up:h1.UpToSlots h') :
  Fly X.prog X.w X.outer X.H₀ X.s₀ a C H { s with heap:=h',toks:=t } B d:=by
 have inB:∀b o,s.heap.get? b=some o->b∉frs X.stack->B.get? b=some o:=λb o e n=>by rw[hB];exact hideAll_get _ e n
 have trk:∀b u o,H b=some u->s.heap.get? b=some o->B.get? b=some o:=λb u o e q=>inB b o q λz=>by
  rw[I.stkFree b z]at e;cases e
 have up2:s.heap.UpToSlots h':=(Heap.UpToSlots.of_keeps keeps).trans up;have nf:∀b∈frs X.stack,∀o,s.heap.get? b=some o->∀vs,o.data≠.fields vs:=λb hb o e=>by
  obtain⟨_,o',e',d⟩:=I.stack.mem hb;rw[e]at e';cases e';exact d
 have hok:HOk X.prog X.w H h':=λb u e=>(I.hok b u e).stay (λc v hc q=>fl.1 c v (by
  rcases hc with z|z
  .subst z;exact trk c u v e q
  .exact trk c _ v z q)) (λ_ q=>q) λ_ _ q=>q
 have un:Un (frs X.stack) [] H H s.heap h':=by
  refine⟨λb o q n hb _=>fl.1 b o (inB b o q hb),λb o q n hb _=>up2 b o q (nf b hb o q),λ_ _ _ n _=>n,λb o q _=>?_,λ_ _ q=>q,λ_ _ _ q=>q,λ_ ps q=>⟨#[],by rw[q];simp⟩⟩;by_cases hb:b∈frs X.stack
  .obtain⟨sl,e⟩:=up2 b o q (nf b hb o q);exact⟨_,e⟩
  .exact⟨o,fl.1 b o (inB b o q hb)⟩
 have J:Inv X pins σ H { s with heap:=h',toks:=t }:=I.call' (s':={ s with heap:=h',toks:=t }) (ch:=[]) rfl un hok I.bare λ_ z=>nomatch z
 refine⟨J.os,J.bare,?_,by have:=J.base;rw[hx]at this;exact this,J.hok,λb hb=>?_,fl,λb o e hb hc=>?_⟩
 .cases q:X.s₀.heap.get? a with
  |none=>rfl
  |some o =>
   obtain⟨⟨u,z⟩,_⟩:=I.old hx q;rw[new]at z;cases z
 .obtain⟨_,o,ho,_⟩:=I.ok.funs.mem hb;exact J.base.free b o ho (I.ok.frf b hb) λz=>I.ok.exfs b z hb
 .rcases hc with⟨u,q⟩|⟨u,q⟩
  .obtain⟨⟨v,z⟩,n⟩:=I.old hx q;have y:=inB b v z (I.nostk n hb);have e2:=fl.1 b v y;rw[show({ s with heap:=h',toks:=t } : Shared).heap.get? b=h'.get? b from rfl,e2]at e;cases e;exact y
  .obtain⟨o',e'⟩:=(I.hok b u q).there;have y:=trk b u o' q e';have e2:=fl.1 b o' y;rw[show({ s with heap:=h',toks:=t } : Shared).heap.get? b=h'.get? b from rfl,e2]at e;cases e;exact y
end
noncomputable def CXO(P:Program)(w:World):CXT:=λl H s E e s'=>∃a C d H' B,e=.ref a/\Fly P w l H s a C H' s' B d/\E C d H'
noncomputable def HB(X:Cx)(Ex:Value->Η->L2.St->Hp->Prop):Prop :=
 ∀pins σ H s a C H' s' B d,Inv X pins σ H s->Fly X.prog X.w X.stack H s a C H' s' B d->Ex C d σ H'->X.xe (.ref a) s'
noncomputable def Yz(X:Cx)(Ex:Value->Η->L2.St->Hp->Prop):Prop :=
 ∀pins σ H s a C vs h1,Inv X pins σ H s->Heap.MadeExcOf s.heap h1 a C vs->Ex C none σ H->X.xe (.ref a) { s with heap:=h1 }
section
variable{P:Program}{w:World}{K:Frag}{mg:Str->Ζ}{base:Heap}{N:Β}{qual:Str}{scope:Scope}{f:Addr}{cd:Value}{A:Around}{outer:List Env}{s:Shared}{H:Hp}{E:XK}
theorem lY:HB (Cj (CXO P w) P w K mg base N qual scope f cd A outer s H E) (λC d _ H'=>E C d H'):=by
 intro pins σ H1 s1 a C H' s' B d I F q;show wpAny _ _ (leaving _ (.ref a)) _ _ _;refine Ua (outer:=outer) I.ok.frames rfl F.fl λh' fl up=>?_;exact⟨a,C,d,H',B,rfl,I.flyOut rfl F fl up,q⟩
theorem pU:Yz (Cj (CXO P w) P w K mg base N qual scope f cd A outer s H E) (λC d _ H'=>E C d H'):=by
 intro pins σ H1 s1 a C vs h1 I M q;show wpAny _ _ (leaving _ (.ref a)) _ _ _;have hin:∀env∈(envOfC qual scope s.heap.objs.size f cd::outer),∀b,env.frame=some b->b∈frs (envOfC qual scope s.heap.objs.size f cd::outer):=λenv he b hb=>List.mem_filterMap.mpr ⟨env,he,hb⟩;obtain⟨t,he,_,_⟩:=M.there;refine P0 (base:=hideAll s1.heap (frs (envOfC qual scope s.heap.objs.size f cd::outer))) (h0:=s1.heap) (outer:=outer) I.ok.frames rfl (λb o q=>of_hideAll _ q) (PySem.W.funFrames_hide I.stack hin) M.keeps M.new he rfl rfl λh' fl up=>?_;exact⟨a,C,none,H1,_,rfl,I.flyNew rfl M.keeps M.new rfl fl up,q⟩
end
section
variable{P:Program}{w:World}{K:Frag}{mg:Str->Ζ}{base:Heap}
theorem Fun.okX{x qual:Str}{st:Stmt}{f:Addr}{fd:FuncData}{N ps:Β}{k:Nat}{sp:Sp}(F:Fun K x qual st f fd)(S:bV N ps (bM st))(len:∀vs H Q E,sp vs H Q E->vs.length=ps.length)
 (hbody:∀(cdv:Value)(A:Around)(outer:List Env)(s:Shared)(H:Hp)(vs:Μ)(Q:VK)(E:XK),eN k (A.deeper (envOfC qual (bM st) s.heap.objs.size f cdv))->sp vs H Q E ->
   ∃t,PSs (Cj (CXO P w) P w K mg base N qual (bM st) f cdv A outer s H E) (dU st) t/\t { nx:=λ_ H'=>Q .non H',rt:=Q } (L2.start N vs) H):cC P w K mg base (CXO P w) (k+1) f fd ps sp:=by
 obtain⟨oc,od,kV,doc,pm,an,cdv,ct,osl,rfl,lk,hcd⟩:=F.ex;exact Vb lk hcd S len λA outer s H vs Q E hr hsp=>hbody cdv A outer s H vs Q E hr hsp
noncomputable def OkX(P:Program)(w:World)(K:Frag)(mg:Str->Ζ)(base:Heap)(k:Nat)(x:Str)(ps:Β)(sp:Sp):Prop :=
 ∃f fd,cC P w K mg base (CXO P w) k f fd ps sp/\Binds K fd ps []/\mg x=some (.ref f)/\keepIn K (.ref f)=true
theorem dw.okX{k:Nat}{x:Str}{st:Stmt}{ps:Β}{sp:Sp}(h:dw K mg x st ps)
 (hf:∀f fd,Fun K x x st f fd->cC P w K mg base (CXO P w) k f fd ps sp):OkX P w K mg base k x ps sp:=by
 obtain⟨f,fd,a,b,c⟩:=h;exact⟨f,fd,hf f fd a,.all b,c,a.kp⟩
end
section
variable{X:Cx}{p pos:Pos}{e:Expr}{es:List Expr}{t:TA}{x:Str}{k:Nat}{ps:Β}{sp:Sp}{Ex:Value->Η->L2.St->Hp->Prop}
noncomputable def xY(sp:Sp)(Ex:Value->Η->L2.St->Hp->Prop)(t:TA):TE:=λσ H Q=>t σ H λvs H1=>sp vs H1 Q λC d H'=>Ex C d σ H'
theorem jU(G:OkX X.prog X.w X.K X.mg X.base k x ps sp)(hr:eN k X.A)(hg:Gl X x)(hx:HB X Ex)(ha:PA X (e::es) t)(hdb:(x==("__debug__" : Str))=false:=by decide)
 (he:starEach (e::es) X.env=(false,eval e X.env)::starEach es X.env:=by rfl)(hpl:(backTo pos (starEach es X.env)).any (·.1)=false:=by rfl):PE X (.Call (.Name x p) (e::es) [] pos) (xY sp Ex t):=by
 obtain⟨f,fd,F,hb,hm,kp⟩:=G;intro pins s σ H Q I h;refine wpAny_Call_Name_kw (qH I hg hm ?_ hdb);refine callWith_K (h₀:=X.base) I.ok.mod.kin kp (thn (ha pos pins s σ H _ I h) λus s1 ⟨vs,H1,I1,r,q⟩=>⟨I1.kIn,?_⟩) he hpl;have hl:us.length=ps.length:=by rw[<- r.length];exact F.len _ _ _ _ q
 have hb':=hb s1 us I1.kIn (by simpa using hl);simp only[List.append_nil]at hb';refine wpAny_call (codeAny_mono (F.run X.A X.stack s1 H1 ⟨us,[]⟩ us vs Q _ hr I1.env0 hb' r q) λr s' hq=>?_);cases r with
 |error e =>
  obtain⟨a,C,d,H',B,rfl,Fl,q'⟩:=hq;exact hx pins σ H1 s1 a C H' s' B d I1 Fl q'
 |ok fl =>
  cases fl with
  |ret u=>exact I1.after hq
  |next=>exact False.elim hq
  |brk=>exact False.elim hq
  |cont=>exact False.elim hq
end
abbrev bmV:Ξ:=[.type "ValueError",.type "Exception",.type "BaseException",.type "object"]
noncomputable def Mj(K:Frag)(C:Addr):Prop:=excIn K C bmV "ValueError.__new__" = true
theorem V3{K:Frag}{h:Heap}{C:Addr}(X:K.In h)(q:Mj K C):∃bm N nm qn bs hdct sn sub ab col dd k0 k1 k2 k3 k5 mN,h.get? C=some (excClassObj nm qn C N bs bm hdct sn sub ab col dd k0 k1 k2 k3 k5 "ValueError.__new__") /\
  h.Ns N mN/\mN "__init__" = none/\OwnTail h bmV bm:=by
 unfold Mj excIn at q;split at q
 .rename_i dd cd sl ho
  split at q
  .rename_i C' bm k0 k1 k2 k3 n k5 hm hs
   simp only[Bool.and_eq_true,beq_iff_eq,Bool.not_eq_true']at q;obtain⟨⟨⟨⟨⟨rfl,rfl⟩,hdel⟩,ht⟩,hok⟩,hni⟩:=q;obtain⟨nm,bs,mro,ns,qn,hd,sn,sub,ab,col,del⟩:=cd;dsimp only at hm hdel hok hni;subst hm hdel;have hsl:sl = #[k0,k1,k2,k3,some (.builtin "ValueError.__new__"),k5]:=by
    obtain⟨l⟩:=sl;simp only at hs;rw[hs]
   subst hsl;exact⟨bm,ns,nm,qn,bs,hd,sn,sub,ab,col,dd,k0,k1,k2,k3,k5,_,X _ _ ho,.of_isNs (PySem.W.isNs_of_in X hok),PySem.W.nsMap_none_of_in X hok hni,PySem.W.tail_of_in X ht⟩
  .cases q
 .cases q
section
variable{X:Cx}{x:Str}{np cpos pos:Pos}{e₀:Expr}{rest:List Expr}{ta:TA}{C:Addr}{Ex:Value->Η->L2.St->Hp->Prop}
noncomputable def G_(C:Addr)(Ex:Value->Η->L2.St->Hp->Prop)(ta:TA):TS:=λ_ σ H=>ta σ H λvs H1=>vs.length<=sizeLine/\Ex (.ref C) none σ H1
theorem pP(hc:X.calm=true)(hg:Gl X x)(hm:X.mg x=some (.ref C))(q:Mj X.K C)(hx:Yz X Ex)(ha:PA X (e₀::rest) ta)(hd:(x==("__debug__" : Str))=false:=by decide)
 (he:starEach (e₀::rest) X.env=(false,eval e₀ X.env)::starEach rest X.env:=by rfl)(hplain:(backTo cpos (starEach rest X.env)).any (·.1)=false:=by rfl) :
  PS X (.Raise (some (.Call (.Name x np) (e₀::rest) [] cpos)) none pos) (G_ C Ex ta):=by
 intro pins s σ H D I h;obtain⟨tl,N,nm,qn,bs,hdct,sn,sub,ab,col,dd,k0,k1,k2,k3,k5,mN,hC,hN,hni,T⟩:=V3 I.ok.mod.kin q;have FB:=PySem.F.excBase_ValueError;refine wpAny_Raise_call_subT (C:=C) (nm:=nm) (q:=qn) (N:=N) (bs:=bs) (bm:=tl) (hdct:=hdct) (sn:=sn) (sub:=sub) (ab:=ab) (col:=col) (dd:=dd) (k0:=k0) (k1:=k1) (k2:=k2) (k3:=k3) (k5:=k5)
  FB (mN:=mN) (T.hasType FB.hasBase) (I.ok.hd hc) (by rw[he];show(false || (backTo cpos (starEach rest X.env)).any (·.1))=false;rw[hplain];rfl) hni (qH I hg hm ⟨rfl,?_⟩ hd)
 have h2:=ha cpos pins s σ H _ I h;rw[he]at h2 ⊢;exact Calls.evalArgs_plain (wpAny_mono h2 (λus s₂ hP=>by obtain⟨vs,H1,I1,r,hl,ex⟩:=hP;exact⟨rfl,by rw[<- r.length];exact hl,I1.bk _ _ hC,hN.keeps I1.bk,T.keeps I1.bk,λh' e M=>hx pins σ H1 s₂ e _ us h' I1 M ex⟩) λ_ _ y=>y)
end
noncomputable def XO(a C:Addr)(d:Η):HO:=.ext λh=>∃o,h.get? a=some o/\o.cls=.ref C/\o.dict=d/\∃vs,o.data=.fields vs
section
variable{X:Cx}{pos hpos np:Pos}{body suite:List Stmt}{b₀:Stmt}{n Dn:Str}{D:Addr}{i:Nat}{tb:(Value->Η->L2.St->Hp->Prop)->TS}{th:TS}
noncomputable def Ends.unset(R:Ends)(i:Nat):Ends:={ nx:=λσ H=>R.nx (σ.set i none) H,rt:=R.rt,bk:=λσ H=>R.bk (σ.set i none) H,ct:=λσ H=>R.ct (σ.set i none) H }
noncomputable def Lx(K:Frag)(D:Addr)(i:Nat)(tb:(Value->Η->L2.St->Hp->Prop)->TS)(th:TS):TS:=λR σ H =>
 ∃Ex:Value->Η->L2.St->Hp->Prop,tb Ex R σ H/\∀C' d σ' H',Ex C' d σ' H'->∃C,C'=.ref C/\mroIn K C (.ref D)=some true /\
  ∀a,H' a=none->th (R.unset i) (σ'.set i (some (.ref a))) (upd H' a (XO a C d))
end
noncomputable def xV(cells:List (Str×Addr)):List (Str×NameKind)->List (Str×Addr)->List (Str×Addr)
 |[],acc=>acc
 |(n,k)::r,acc=>xV cells r (if k == .free then(n,(cells.lookup n).getD 0)::acc else acc)
theorem Le{scope:Scope}{env:Env}(h:∀y∈scope.names,y.2=.free->∃c,env.cells.lookup y.1=some c):closureFor scope env=pure (xV env.cells scope.names []):=by
 unfold closureFor;have go:∀(l:List (Str×NameKind))(acc:List (Str×Addr)),(∀y∈l,y.2=.free->∃c,env.cells.lookup y.1=some c) ->
   (forIn l acc (λ(x:Str×NameKind)(r:List (Str×Addr))=>if(x.2==NameKind.free)=true then(do let a <- cellOf env x.1;pure (ForInStep.yield ((x.1,a)::r)))else pure (ForInStep.yield r)):Sem (List (Str×Addr)))=pure (xV env.cells l acc):=by
  intro l
  induction l with
  |nil=>intro acc _;rfl
  |cons y r ih =>
   intro acc hy;obtain⟨n,k⟩:=y;rw[List.forIn_cons];by_cases hk:k=.free
   .subst hk;obtain⟨c,hc⟩:=hy (n,.free) aO rfl;have e1:cellOf env n=pure c:=by unfold cellOf;rw[show env.cells.lookup n=some c from hc]
    simp only[beq_self_eq_true,if_true,e1,pure_bind];rw[ih _ λz hz=>hy z (aH _ hz)];show pure _=pure (xV env.cells r (if(NameKind.free==NameKind.free)=true then(n,(env.cells.lookup n).getD 0)::acc else acc));rw[show env.cells.lookup n=some c from hc]
    rfl
   .have hb:(k==NameKind.free)=false:=by simpa using hk
    simp only[hb,XW,if_false,pure_bind];rw[ih _ λz hz=>hy z (aH _ hz)];show pure _=pure (xV env.cells r (if(k==NameKind.free)=true then(n,(env.cells.lookup n).getD 0)::acc else acc));rw[hb]
    rfl
 have e:=go scope.names [] h;show(forIn scope.names [] (λ(x:Str×NameKind)(r:List (Str×Addr))=>if(x.2==NameKind.free)=true then(do let a <- cellOf env x.1;pure (ForInStep.yield ((x.1,a)::r)))else pure (ForInStep.yield r)):Sem (List (Str×Addr))) >>= (λcs=>pure cs)=_;rw[e]
 rfl
theorem Jg{cells:List (Str×Addr)} : ∀{names:List (Str×NameKind)}{acc:List (Str×Addr)}{x:Str}{c:Addr},(∀y∈names,y.2=.free->∃c,cells.lookup y.1=some c)->(x,c)∈xV cells names acc->(x,c)∈acc\/cells.lookup x=some c
 |[],_,_,_,_,h=>.inl h
 |(n,k)::r,acc,x,c,hf,h=>by
  unfold xV at h;rcases Jg (λy hy=>hf y (aH _ hy)) h with z|z
  .by_cases hk:k=.free
   .subst hk;simp only[beq_self_eq_true,if_true]at z;rcases YU.mp z with e|e
    .obtain⟨c',hc'⟩:=hf (n,.free) aO rfl;cases e;rw[show cells.lookup n=some c' from hc'];exact .inr rfl
    .exact .inl e
   .have hb:(k==NameKind.free)=false:=by simpa using hk
    simp only[hb,XW,if_false]at z;exact .inl z
  .exact .inr z
theorem Jm{cells:List (Str×Addr)} : ∀{names:List (Str×NameKind)}{acc:List (Str×Addr)}{x:Str},((x,NameKind.free)∈names\/∃c,(x,c)∈acc)->∃c,(x,c)∈xV cells names acc
 |[],_,_,h=>by
  rcases h with h|h
  .cases h
  .exact h
 |(n,k)::r,acc,x,h=>by
  unfold xV;refine Jm ?_;rcases h with h|⟨c,h⟩
  .rcases YU.mp h with e|e
   .cases e;exact .inr ⟨_,by simp only[beq_self_eq_true,if_true];exact aO⟩
   .exact .inl e
  .refine .inr ⟨c,?_⟩;split
   .exact aH _ h
   .exact h
theorem nG{α:Type}{x:Str}{c:α} : ∀{l:List (Str×α)},(x,c)∈l->∃c',l.lookup x=some c'
 |(y,d)::r,h=>by
  rw[List.lookup_cons];cases hb:x==y with
  |true=>exact⟨d,rfl⟩
  |false =>
   rcases YU.mp h with e|e
   .cases e;simp at hb
   .exact nG e
section
variable{X:Cx}{elt iter:Expr}{x:Str}{px pos:Pos}{scope:Scope}{wi:TI}{te:TE}
theorem Inv.nostk'{pins:Ω}{σ:L2.St}{H:Hp}{s:Shared}(I:Inv X pins σ H s){b:Addr}(h1:b≠X.env.locals)(h2:b∉X.fs):b∉frs X.stack:=λz=>by
 rcases YU.mp (I.stkSub b z)with e|e
 .exact h1 e
 .exact h2 e
theorem vX{env:Env} : ∀{names:List (Str×NameKind)}{y:Str},(names.map λ(n,k)=>if(k==NameKind.free&&env.scope.kind == .function&&env.kindOf n==some .cell)then(n,NameKind.cell)else(n,k)).lookup y=some .cell \/
  (names.map λ(n,k)=>if(k==NameKind.free&&env.scope.kind == .function&&env.kindOf n==some .cell)then(n,NameKind.cell)else(n,k)).lookup y=some .free->(∀z∈names,z.2≠.cell)->(y,NameKind.free)∈names
 |[],y,h,_=>by rcases h with h|h<;>cases h
 |(n,k)::r,y,h,hc=>by
  have ih:=@vX env r y;simp only[List.map_cons]at h;by_cases hcond:(k==NameKind.free&&env.scope.kind == .function&&env.kindOf n==some .cell)=true
  .rw[ZY hcond]at h;simp only[List.lookup_cons]at h;cases hb:y==n with
   |true =>
    have hk:k=.free:=by
     simp only[Bool.and_eq_true,beq_iff_eq]at hcond;exact hcond.1.1
    have:y=n:=by simpa using hb
    subst this hk;exact aO
   |false =>
    rw[hb]at h;exact aH _ (ih h λz hz=>hc z (aH _ hz))
  .rw[ZZ hcond]at h;simp only[List.lookup_cons]at h;cases hb:y==n with
   |true =>
    rw[hb]at h;have:y=n:=by simpa using hb
    subst this;rcases h with h|h
    .exact absurd (Option.some.inj h) (hc (y,k) aO)
    .have:k=.free:=Option.some.inj h;subst this;exact aO
   |false =>
    rw[hb]at h;exact aH _ (ih h λz hz=>hc z (aH _ hz))
end
section
variable{X:Cx}
noncomputable def YT(neg:Bool):R2:=λx y H Q=>∃b,y=.bl b/\Q (.bl (if neg then !decide (x=.bl b)else decide (x=.bl b))) H
noncomputable def eqF:Μ->Μ->Bool
 |[],[]=>true
 |x::xs,y::ys=>eqV x y&&eqF xs ys
 |_,_=>false
noncomputable def eqH(H:Hp)(x y:V):Option Bool :=
 match x,y with
 |.ref a,.ref b=>match H a,H b with
  |some (.tup xs),some (.tup ys)=>if xs.all Fp&&ys.all Fp then some (eqF xs ys)else none
  |some (.lst xs),some (.lst ys)=>if xs.all Fp&&ys.all Fp then some (eqF xs ys)else none
  |some (.lst _),some (.tup _)=>some false
  |some (.tup _),some (.lst _)=>some false
  |_,_=>none
 |.ref a,y=>if Fp y then(match H a with
  |some (.tup _)=>some false
  |some (.lst _)=>some false
  |_=>none)else none
 |x,.ref b=>if Fp x then(match H b with
  |some (.tup _)=>some false
  |some (.lst _)=>some false
  |_=>none)else none
 |x,y=>if sE x y then some (decide (x=y))else none
noncomputable def aai:R2:=λx y H Q=>∃k,eqH H x y=some k/\Q (.bl k) H
theorem Inv.tupIs{pins:Ω}{σ:L2.St}{H:Hp}{s:Shared}{a:Addr}{xs:Μ}(I:Inv X pins σ H s)(h:H a=some (.tup xs)):∃its,Vals xs its/\IsTup s.heap a its.toArray/\s.heap.IsTuple a its.toArray:=by
 obtain⟨its,rv,ht,_⟩:=I.tuple (SqT.of h);exact⟨its,rv,ht,ht⟩
theorem Inv.lstIs{pins:Ω}{σ:L2.St}{H:Hp}{s:Shared}{a:Addr}{xs:Μ}(I:Inv X pins σ H s)(h:H a=some (.lst xs)):∃its,Vals xs its/\s.heap.IsList a its.toArray:=by
 obtain⟨its,rv,ht,_⟩:=I.list (SqL.of h);exact⟨its,rv,ht.isList⟩
theorem Nt:HB X (λ_ _ _ _=>False):=λ_ _ _ _ _ _ _ _ _ _ _ _ z=>z.elim
noncomputable def IsX(H:Hp)(a C:Addr):Prop:=∃d,H a=some (XO a C d)
noncomputable def VL(C D:Addr)(b:Bool):Μ->Hp->VK->Prop:=λxs H Q=>∃a,xs=[.ref a,.ref D]/\IsX H a C/\Q (.bl b) H
noncomputable def Rq(C:Addr)(T:String)(b:Bool):Μ->Hp->VK->Prop:=λxs H Q=>∃a,xs=[.ref a,.ty T]/\IsX H a C/\Q (.bl b) H
end
noncomputable def Lr(tk tv:TE):TE:=λσ H Q=>∀p,H p=none->tk σ (upd H p (.dK [])) λx H1=>∃i,x=.int i/\tv σ H1 λy H2=>H2 p=some (.dK [])/\Q (.ref p) (upd H2 p (.dK [(.inl i,y)]))
open PySem.SeqAt in
section
variable{X:Cx}
structure PEB(X:Cx)(e:Expr)(t:TE):Prop where
 out:PE X e t
structure PAB(X:Cx)(es:List Expr)(t:TA):Prop where
 out:PA X es t
structure PSB(X:Cx)(st:Stmt)(t:TS):Prop where
 out:PS X st t
structure Xl(X:Cx)(b:List Stmt)(t:TS):Prop where
 out:PSs X b t
theorem gA{i j pos} : PEB X (.Constant (.int i) j pos) (tC (.int i)):=⟨bI⟩
theorem GJ{es:List Expr}{t:TA}{pos:Pos}(h:PAB X es t):PEB X (.List es pos) (Vh t):=⟨qP h.out⟩
theorem Gk:PAB X [] Ei:=⟨bF⟩
theorem nj{c:Const}{k:Nat}{p:Pos}{es:List Expr}{te:TE}{t:TA}(ha:PEB X (.Constant c k p) te)(hr:PAB X es t):PAB X (.Constant c k p::es) (CT te t):=⟨bD ha.out hr.out rfl⟩
theorem Ww{i:Nat}{x:Str}{e:Expr}{te:TE}{pos pos':Pos}(hN:X.N.Nodup)(hi:X.N[i]?=some x)(hx:Loc X.env.scope x)(he:PEB X e te)(hs:swapsWith e (some (.Name x pos')) pos.line X.env=pure false:=by rfl)(hf:X.fn x=true\/X.env.scope.names.lookup x=some .local:=by first|exact .inl rfl|exact .inr rfl|assumption) :
  PSB X (.Assign [.Name x pos'] e pos) (Eh te (cB i)):=⟨bZ hN hi hx he.out hs hf⟩
theorem cU{st:Stmt}{rest:List Stmt}{t u:TS}(h1:PSB X st t)(h2:Xl X rest u):Xl X (st::rest) (uL t u):=⟨bK h1.out h2.out⟩
end
section
variable{P:Program}{w:World}{K:Frag}{mg:Str->Ζ}{base:Heap}
theorem Fun.okB{x qual:Str}{st:Stmt}{f:Addr}{fd:FuncData}{N ps:Β}{k:Nat}{sp:Sp}(F:Fun K x qual st f fd)(S:bV N ps (bM st))(len:∀vs H Q E,sp vs H Q E->vs.length=ps.length)
 (hbody:∀(cdv:Value)(A:Around)(outer:List Env)(s:Shared)(H:Hp)(vs:Μ)(Q:VK)(E:XK),eN k (A.deeper (envOfC qual (bM st) s.heap.objs.size f cdv))->sp vs H Q E ->
   ∃t,Xl (Cj CX0 P w K mg base N qual (bM st) f cdv A outer s H E).nox (dU st) t/\t { nx:=λ_ H'=>Q .non H',rt:=Q } (L2.start N vs) H):cC P w K mg base CX0 (k+1) f fd ps sp :=
 F.ok S len λcdv A outer s H vs Q E hr hsp=>let⟨t,h1,h2⟩:=hbody cdv A outer s H vs Q E hr hsp;⟨t,h1.out,h2⟩
end
mutual
inductive Shows(H:Hp):V->PyData->Prop
 |non:Shows H .non .none
 |bl (b:Bool):Shows H (.bl b) (.bool b)
 |int (i:Int):Shows H (.int i) (.int i)
 |str (x:Str):Shows H (.str x) (.str x)
 |lst {a:Addr}{xs:Μ}{ds:List PyData} : H a=some (.lst xs)->dZ H xs ds->Shows H (.ref a) (.list ds)
 |tup {a:Addr}{xs:Μ}{ds:List PyData} : H a=some (.tup xs)->dZ H xs ds->Shows H (.ref a) (.tuple ds)
inductive dZ(H:Hp):Μ->List PyData->Prop
 |nil:dZ H [] []
 |cons {x:V}{xs:Μ}{d:PyData}{ds:List PyData} : Shows H x d->dZ H xs ds->dZ H (x::xs) (d::ds)
end
mutual
theorem Shows.same{H H':Hp}(S:Same H H'):∀{x:V}{d:PyData},Shows H x d->Shows H' x d
 |_,_,.non=>.non
 |_,_,.bl b=>.bl b
 |_,_,.int i=>.int i
 |_,_,.str x=>.str x
 |_,_,.lst e h=>.lst (S _ _ e) (dZ.same S h)
 |_,_,.tup e h=>.tup (S _ _ e) (dZ.same S h)
theorem dZ.same{H H':Hp}(S:Same H H'):∀{xs:Μ}{ds:List PyData},dZ H xs ds->dZ H' xs ds
 |_,_,.nil=>.nil
 |_,_,.cons h t=>.cons (Shows.same S h) (dZ.same S t)
end
theorem dZ.ints(H:Hp):∀ns:List Int,dZ H (ns.map V.int) (ns.map PyData.int)
 |[]=>.nil
 |n::ns=>.cons (.int n) (dZ.ints H ns)
section
variable{X:Cx}{pins:Ω}{σ:L2.St}{H:Hp}{s:Shared}
mutual
theorem Inv.reads(I:Inv X pins σ H s):∀{x:V}{d:PyData}{v:Value},Shows H x d->RelV x v->∃as,Reads s.heap v d as
 |_,_,_,.non,r=>by cases r;exact⟨_,.none⟩
 |_,_,_,.bl b,r=>by cases r;exact⟨_,.bool b⟩
 |_,_,_,.int i,r=>by obtain⟨t,rfl⟩:=r;exact⟨_,.int i t⟩
 |_,_,_,.str x,r=>by obtain⟨t,rfl⟩:=r;exact⟨_,.str x t⟩
 |_,_,_,.lst e h,r=>by
  cases r;obtain⟨its,rv,⟨o,ho,hc,n,hd⟩⟩:=I.lstIs e;obtain⟨as,q⟩:=Inv.readsAll I h rv;exact⟨_,.list ho hc hd q⟩
 |_,_,_,.tup e h,r=>by
  cases r;obtain⟨its,rv,_,⟨o,ho,hc,n,hd⟩⟩:=I.tupIs e;obtain⟨as,q⟩:=Inv.readsAll I h rv;exact⟨_,.tuple ho hc hd q⟩
theorem Inv.readsAll(I:Inv X pins σ H s):∀{xs:Μ}{ds:List PyData}{vs:Ξ},dZ H xs ds->Vals xs vs->∃as,ReadsAll s.heap vs ds as
 |_,_,_,.nil,r=>by cases r;exact⟨_,.nil⟩
 |_,_,_,.cons h t,r=>by
  cases r with
  |cons r1 r2 =>
   obtain⟨a,q1⟩:=Inv.reads I h r1;obtain⟨b,q2⟩:=Inv.readsAll I t r2;exact⟨_,.cons q1 q2⟩
end
noncomputable def Wz(neg:Bool):R2:=λx y H Q=>∃d e,Shows H x d/\Shows H y e/\SeqAt.shaped d=true/\SeqAt.shaped e=true/\Q (.bl (if neg then !PyData.eqv d e else PyData.eqv d e)) H
theorem Z0(hu:X.A.units+64<cLine):OpR X (compareOp .Eq) (Wz false):=by
 intro pins s σ H x y v u Q I rx ry h;obtain⟨d,e,hd,he,sd,se,q⟩:=h;obtain⟨as,ra⟩:=I.reads hd rx;obtain⟨bs,rb⟩:=I.reads he ry;exact SeqAt.compareEq_shaped ra rb sd se hu ⟨.bl _,H,I,rfl,q⟩
noncomputable def O_:Μ->Hp->VK->Prop:=λxs H Q=>∃(l:Addr)(ns:List Int),xs=[.ref l]/\H l=some (.lst (ns.map V.int))/\Q (.int ns.sum) H
theorem Fd(hc:X.calm=true):fY X (.builtin "sum") O_:=by
 intro pins s σ H xs us Q I r h;obtain⟨l,ns,rfl,hl,q⟩:=h;obtain⟨u,rfl,ru⟩:=r.one;cases ru;obtain⟨its,rv,p⟩:=I.lstIs hl;have hI:=intsAre_of rv;obtain⟨xs,e⟩:=hI.allInts.items;have hn:=hI.numsOf;rw[show its=its.toArray.toList from rfl,e,nums_intItems]at hn;rw[e]at p;refine sum_intListG (I.ok.hd hc) p λh' tk t' k=>⟨.int ns.sum,H,I.kept k,?_,q⟩;rw[preSum_eq,aK (by simp),hn];exact⟨_,rfl⟩
noncomputable def UW:Μ->Hp->VK->Prop:=λxs H Q=>∃(l:Addr)(ns:List Int),xs=[.ref l]/\H l=some (.lst (ns.map V.int))/\0<ns.length/\∀M,M∈ns->(∀a,a∈ns->a<=M)->Q (.int M) H
noncomputable def Rf:Μ->Hp->VK->Prop:=λxs H Q=>∃(l:Addr)(ns:List Int),xs=[.ref l]/\H l=some (.lst (ns.map V.int))/\0<ns.length/\∀M,M∈ns->(∀a,a∈ns->M<=a)->Q (.int M) H
noncomputable def YJ(te ts:TE):TE:=λσ H Q=>te σ H λx H1=>ts σ H1 λy H2=>y=.int (-1)/\∃a xs,x=.ref a/\H2 a=some (.lst xs)/\∀p,H2 p=none->Q (.ref p) (upd H2 p (.lst xs.reverse))
end
section
variable{K:Frag}{tl:TE}{ta:TA}{g:TG}{tb:TS}{D:Ends}{σ:L2.St}{H:Hp}
theorem Py(h:tl σ H λx H1=>∃a xs,x=.ref a/\H1 a=some (.lst xs)/\∃J:Nat->L2.St->Hp->Prop,J 0 σ H1 /\
   (∀k x σ' H',xs[k]?=some x->J k σ' H'->H' a=some (.lst xs)->g x σ' H' λσ2 H2=>tb { D with nx:=λσ3 H3=>H3 a=some (.lst xs)/\J (k+1) σ3 H3,ct:=λσ3 H3=>H3 a=some (.lst xs)/\J (k+1) σ3 H3,bk:=D.nx } σ2 H2) /\
   ∀σ' H',J xs.length σ' H'->H' a=some (.lst xs)->D.nx σ' H')(hm:∀(P Q:V->Hp->Prop),(∀x H',P x H'->Q x H')->tl σ H P->tl σ H Q):Mf (Fg K tl) g tb D σ H:=by
 refine hm _ _ ?_ h;rintro x H1 ⟨a,xs,rfl,hx,J,j0,step,fin⟩;refine⟨a,rfl,⟨xs,.of hx⟩,λk m σ' H'=>k<=xs.length/\m=xs.length-k/\H' a=some (.lst xs)/\J k σ' H',⟨_,bh _,rfl,hx,j0⟩,?_⟩;rintro k m σ' H' ⟨hk,rfl,hx',j⟩;by_cases e:k=xs.length
 .subst e;exact .inl ⟨⟨xs,.of hx',aF _⟩,fin σ' H' j hx'⟩
 .have hlt:k<xs.length:=by exact XX hk e
  have e1:xs[k]?=some xs[k]:=aj hlt;refine .inr ⟨⟨xs,_,.of hx',e1⟩,λσ3 H3=>H3 a=some (.lst xs)/\J (k+1) σ3 H3,λσ3 H3 ⟨z1,z2⟩=>⟨xs.length-(k+1),by omega,by exact hlt,rfl,z1,z2⟩,?_⟩;rintro x H'' ⟨rfl,y⟩;exact step k x σ' H'' (y xs (.of hx')) j hx'
theorem Pu(h:ta σ H λvs H1=>∃n:Nat,vs=[.int n]/\n<2^61/\∃J:Nat->L2.St->Hp->Prop,J 0 σ H1 /\
   (∀(k:Nat)σ' H',k<n->J k σ' H'->g (.int k) σ' H' λσ2 H2=>tb { D with nx:=J (k+1),ct:=J (k+1),bk:=D.nx } σ2 H2)/\∀σ' H',J n σ' H'->D.nx σ' H')
 (hm:∀(P Q:Μ->Hp->Prop),(∀x H',P x H'->Q x H')->ta σ H P->ta σ H Q):Mf (N8 ta) g tb D σ H:=by
 refine hm _ _ ?_ h;rintro x H1 ⟨n,rfl,hn,J,j0,step,fin⟩;refine⟨n,rfl,by lia,by lia,?_⟩;rw[Int.toNat_natCast];refine⟨λk m σ' H'=>k<=n/\m=n-k/\J k σ' H',⟨_,bh _,rfl,j0⟩,?_⟩;rintro k m σ' H' ⟨hk,rfl,j⟩;by_cases e:k=n
 .subst e;exact .inl ⟨aF _,fin σ' H' j⟩
 .have hlt:k<n:=by exact XX hk e
  refine .inr ⟨hlt,J (k+1),λσ3 H3 z=>⟨n-(k+1),by omega,by exact hlt,rfl,z⟩,?_⟩;rintro x H'' ⟨rfl,rfl⟩;rw[Int.zero_add];exact step k σ' H'' hlt j
end
section
variable{X:Cx}
noncomputable def tM(t:TE):TE:=λσ H Q=>∃R:VK,t σ H R/\∀x H',R x H'->Q x H'
noncomputable def tMA(t:TA):TA:=λσ H Q=>∃R:Μ->Hp->Prop,t σ H R/\∀x H',R x H'->Q x H'
theorem PE.mono{a:Expr}{t:TE}(h:PE X a t):PE X a (tM t):=λpins s σ H Q I ⟨R,h1,h2⟩ =>
 thn (h pins s σ H R I h1) λv s' hP=>by obtain⟨x,H',I',r,q⟩:=hP;exact⟨x,H',I',r,h2 x H' q⟩
theorem PA.mono{es:List Expr}{t:TA}(h:PA X es t):PA X es (tMA t):=λpos pins s σ H Q I ⟨R,h1,h2⟩ =>
 thn (h pos pins s σ H R I h1) λv s' hP=>by obtain⟨x,H',I',r,q⟩:=hP;exact⟨x,H',I',r,h2 x H' q⟩
theorem PE.imp{a:Expr}{t t':TE}(h:PE X a t)(i:∀σ H Q,t' σ H Q->t σ H Q):PE X a t':=λpins s σ H Q I q=>h pins s σ H Q I (i σ H Q q)
theorem Yq{t:TE}{σ:L2.St}{H:Hp}{Q:VK}(h:t σ H Q):tM t σ H Q:=⟨Q,h,λ_ _ q=>q⟩
theorem gC{K:Frag}{tl:TE}{g:TG}{tb:TS}{D:Ends}{σ:L2.St}{H:Hp}(h:tl σ H λx H1=>∃a xs,x=.ref a/\H1 a=some (.lst xs)/\∃J:Nat->L2.St->Hp->Prop,J 0 σ H1 /\
   (∀k x σ' H',xs[k]?=some x->J k σ' H'->H' a=some (.lst xs)->g x σ' H' λσ2 H2=>tb { D with nx:=λσ3 H3=>H3 a=some (.lst xs)/\J (k+1) σ3 H3,ct:=λσ3 H3=>H3 a=some (.lst xs)/\J (k+1) σ3 H3,bk:=D.nx } σ2 H2) /\
   ∀σ' H',J xs.length σ' H'->H' a=some (.lst xs)->D.nx σ' H'):Mf (Fg K (tM tl)) g tb D σ H :=
 Py (Yq h) λ_ _ i hP=>by obtain⟨R,a,b⟩:=hP;exact⟨R,a,λx H' q=>i x H' (b x H' q)⟩
theorem gQ{ta:TA}{g:TG}{tb:TS}{D:Ends}{σ:L2.St}{H:Hp}(h:ta σ H λvs H1=>∃n:Nat,vs=[.int n]/\n<2^61/\∃J:Nat->L2.St->Hp->Prop,J 0 σ H1 /\
   (∀(k:Nat)σ' H',k<n->J k σ' H'->g (.int k) σ' H' λσ2 H2=>tb { D with nx:=J (k+1),ct:=J (k+1),bk:=D.nx } σ2 H2)/\∀σ' H',J n σ' H'->D.nx σ' H'):Mf (N8 (tMA ta)) g tb D σ H :=
 Pu (ta:=tMA ta) ⟨_,h,λ_ _ q=>q⟩ λ_ _ i hP=>by obtain⟨R,a,b⟩:=hP;exact⟨R,a,λx H' q=>i x H' (b x H' q)⟩
noncomputable def Ws(to:TE)(t:TA):TE:=λσ H Q=>to σ H λx H1=>∃l xs,x=.ref l/\H1 l=some (.lst xs)/\t σ H1 λvs H2=>∃y ys,vs=[y]/\H2 l=some (.lst ys)/\ys.length<sizeLine/\Q .non (upd H2 l (.lst (ys++[y])))
theorem kY{o e:Expr}{to:TE}{t:TA}{apos cpos:Pos}(ho:PE X o to)(ha:PA X [e] t)(hb:attributeBase o "append" X.env (eval o X.env)=eval o X.env:=by rfl)
 (hf:((backTo cpos (starEach [e] X.env)).all (λx=>!x.1)&&(backToKw cpos (keywordEach [] X.env)).all (λx=>x.1.isSome)&&decide ([e].length+([] : List Keyword).length+(if([] : List Keyword).isEmpty then 0 else 1)<30))=true:=by rfl)
 (hl:(apos.endLine==cpos.line)=true:=by rfl)(hs:starEach [e] X.env=(false,eval e X.env)::starEach [] X.env:=by rfl)(hp:(backTo cpos (starEach [] X.env)).any (·.1)=false:=by rfl) :
  PE X (.Call (.Attribute o "append" apos) [e] [] cpos) (Ws to t):=by
 refine(aax PySem.F.plainAttrs_list PySem.F.slot_list_append PySem.F.type_list_append Es ho.mono ha.mono hb hf hl hs hp).imp λσ H Q h=>?_;refine⟨_,h,?_⟩;rintro x H1 ⟨l,xs,rfl,hx,h2⟩;refine⟨.inl ⟨rfl,_,SqL.of hx⟩,_,h2,?_⟩;rintro vs H2 ⟨y,ys,rfl,hy,hz,q⟩;exact⟨l,ys,y,rfl,rfl,hy,hz,q⟩
noncomputable def YQ(to:TE):TE:=λσ H Q=>to σ H λx H1=>∃l xs,x=.ref l/\H1 l=some (.lst xs)/\Q .non (upd H1 l (.lst []))
noncomputable def GZ:Μ->Hp->VK->Prop:=λxs H Q=>∃p ys,xs=[.ref p]/\H p=some (.lst ys)/\∀l,H l=none->Q (.ref l) (upd H l (.lst ys))
theorem uM:fY X (.type "list") GZ:=Hg.imp λxs H Q hP=>by obtain⟨p,ys,a,b,c⟩:=hP;exact⟨p,ys,a,.inl (.of b),c⟩
end
mutual
theorem Mx:∀ns:List Int,PyData.canLayAll0 (ns.map PyData.int)=true
 |[]=>rfl
 |n::ns=>by
  rw[List.map_cons];unfold PyData.canLayAll0;rw[Mx ns];rfl
end
noncomputable def frD(f:Ι):PyData:=.tuple [.int f.1,.int f.2]
inductive FL(H:Hp):Μ->Ψ->Prop
 |nil:FL H [] []
 |cons {p:Addr}{f:Ι}{xs:Μ}{fs:Ψ} : H p=some (.tup [.int f.1,.int f.2])->FL H xs fs->FL H (.ref p::xs) (f::fs)
theorem FL.imp{H H':Hp}(h:∀p a b,H p=some (.tup [.int a,.int b])->H' p=some (.tup [.int a,.int b])):∀{xs:Μ}{fs:Ψ},FL H xs fs->FL H' xs fs
 |_,_,.nil=>.nil
 |_,_,.cons e t=>.cons (h _ _ _ e) (FL.imp h t)
theorem FL.same{H H':Hp}(S:Same H H'){xs:Μ}{fs:Ψ}(h:FL H xs fs):FL H' xs fs:=h.imp λp _ _ e=>S p _ e
theorem FL.append{H:Hp} : ∀{xs ys:Μ}{fs gs:Ψ},FL H xs fs->FL H ys gs->FL H (xs++ys) (fs++gs)
 |_,_,_,_,.nil,h=>h
 |_,_,_,_,.cons e t,h=>.cons e (FL.append t h)
theorem FL.one{H:Hp}{p:Addr}{a b:Int}(h:H p=some (.tup [.int a,.int b])):FL H [.ref p] [(a,b)]:=.cons (f:=(a,b)) h .nil
noncomputable def Its(x:Str):It:=⟨λi _=>i<x.cps.size,λi H v H'=>H'=H/\∃c,x.cps[i]?=some c/\v=.str ⟨#[c]⟩,λi _=>i=x.cps.size⟩
theorem J1{P:Program}{w:World}{K:Frag}{tg:Expr}(it:Addr)(x:Str)(t:Tok)(ty:String)(hty : ["enumerate", "zip", "dict_itemiterator", "dict_reverseitemiterator", "odict_iterator", "itertools.zip_longest", "itertools.pairwise"].contains ty=false)
 (W:∀A:Around,A.handled=none->Walks P w A it [it] [it] x.cps.size (SignAt x) (λi h=>h.IsStrIter it ty x t i))
 (hself:∀(A:Around)(i:Nat)(s:Shared)(Q:Κ)(E:Κ),s.heap.IsStrIter it ty x t i->Q (.ref it) s->wpAny (model P w) A (pyIter (.ref it)) Q E s):Turn P w K tg (Its x) [it] it (λi h=>h.IsStrIter it ty x t i) where
 mem:=by simp
 obj:=λi h st b hb=>by
  have e:b=it:=by simpa using hb
  subst e;obtain⟨o,ho,_,hd⟩:=st;exact⟨o,ho,λv z=>by rw[hd]at z;cases z⟩
 keep:=λi h h' st k=>let⟨o,ho,r⟩:=st;⟨o,k it (by simp) o ho,r⟩
 item:=by
  intro X hP hw hK hc i pins s σ H E I hf st hg;subst hP hw hK;obtain⟨f0,f1,f2,f3,f4,f5⟩:=hf it (by simp);refine(W X.A (I.ok.hd hc)).item i s _ _ hg st λv h' tk hv st' kk=>?_;obtain⟨c,u,hx,rfl⟩:=hv;have I1:Inv X pins σ H { s with heap:=h',toks:=tk }:=I.turned (λb o hb e=>kk b o (by simpa using hb) e) f0 f1 f3 f4 f5;obtain⟨o,ho,hcl,hd⟩:=id st';exact⟨_,rfl,Ju (s:={ s with heap:=h',toks:=tk }) ho hcl hd hty ⟨.str ⟨#[c]⟩,H,I1,⟨u,rfl⟩,⟨rfl,c,hx,rfl⟩,st',λb hb=>(hf b hb).1⟩⟩
 done:=by
  intro X hP hw hK hc i pins s σ H E I hf st hg;subst hP hw hK;obtain⟨f0,f1,f2,f3,f4,f5⟩:=hf it (by simp);have hg':i=x.cps.size:=hg;subst hg';exact(W X.A (I.ok.hd hc)).done s _ _ st λh' tk kk=>⟨rfl,I.turned (λb o hb e=>kk b o (by simpa using hb) e) f0 f1 f3 f4 f5⟩
 self:=hself
section
variable{X:Cx}{tg:Expr}
noncomputable def aaZ(te:TE):TI:=λσ H R=>te σ H λv H1=>∃x,v=.str x/\R (Its x) H1
theorem Zc{l:Expr}{tl:TE}(hl:PE X l tl):PI X tg l (aaZ tl):=by
 intro pins s σ H R I h;refine thn (hl pins s σ H _ I h) λv s1 hP=>?_;obtain⟨x,H1,I1,r1,y,ey,q⟩:=hP;subst ey;obtain⟨t,rfl⟩:=r1;have fp:∀b∈[s1.heap.objs.size],yZ X pins H1 b:=λb hb=>by
  have e:b=s1.heap.objs.size:=by simpa using hb
  subst e;exact I1.fpOk (aF _) (I1.hok.fresh (aF _))
 have k:∀o:Obj,Inv X pins σ H1 { s1 with heap:=s1.heap.push o }:=λo=>I1.kept (t':=s1.toks) λb ob z=>aG _ z;cases ha:y.cps.all (· < 128)
 .exact wpAny_pyIter_wide ha ⟨s1.heap.objs.size,[s1.heap.objs.size],_,Its y,H1,rfl,k _,J1 _ y t "str_iterator" (by decide) (λA hA=>Walks.strWide hA _ y t) (λA i s Q E st h=>wpAny_pyIter_striter_wide st h),⟨_,aY _ rfl,rfl,rfl⟩,fp,q⟩
 .exact wpAny_pyIter_ascii ha ⟨s1.heap.objs.size,[s1.heap.objs.size],_,Its y,H1,rfl,k _,J1 _ y t "str_ascii_iterator" (by decide) (λA hA=>Walks.strAscii hA _ y t) (λA i s Q E st h=>wpAny_pyIter_striter_ascii st h),⟨_,aY _ rfl,rfl,rfl⟩,fp,q⟩
end
noncomputable def ad2(x:Str)(lo hi:Option Int):Str:=⟨((x.cps.toList.drop (HT.sIx x.length 0 lo)).take (HT.sIx x.length x.length hi-HT.sIx x.length 0 lo)).toArray⟩
noncomputable def ZQ:V->Option Int->Option Int->Hp->VK->Prop:=λx lo hi H Q=>∃y,x=.str y/\y.length<=sizeLine/\Q (.str (ad2 y lo hi)) H
noncomputable def K_(tk tv:TE):TE:=λσ H Q=>∀p,H p=none->tk σ (upd H p (.dK [])) λx H1=>∃i,x=.str i/\tv σ H1 λy H2=>H2 p=some (.dK [])/\Q (.ref p) (upd H2 p (.dK [(.inr i,y)]))
section
variable{X:Cx}
noncomputable def MK:R2:=λx y H Q=>∃i j,x=.str i/\y=.str j/\i.length+j.length<=sizeLine/\Q (.str (i++j)) H
theorem Xb:OpR X (binaryOp .Add) MK:=Lz
noncomputable def Yi:R2:=λx y H Q=>∃i j,x=.str i/\y=.str j/\Q (.bl (!decide (j.cps.toList<i.cps.toList))) H
theorem Vu:OpR X (compareOp .LtE) Yi:=by
 intro pins s σ H x y v u Q I rx ry h;obtain⟨i,j,rfl,rfl,q⟩:=h;obtain⟨t,rfl⟩:=rx;obtain⟨t',rfl⟩:=ry;exact PySem.P.le_str (cT I q rfl)
noncomputable def YK(neg:Bool):R2:=λx y H Q=>∃i j,x=.str i/\y=.str j/\∃c,i=⟨#[c]⟩/\Q (.bl (if neg then !decide (c∈j.cps.toList)else decide (c∈j.cps.toList))) H
noncomputable def RL:Μ->Hp->VK->Prop:=λxs H Q=>∃x n,xs=[.str x]/\x.length<=640/\PySem.intText? x=some n/\Q (.int n) H
theorem Ew:∀{bs:List Bool}{us:Ξ},Vals (bs.map V.bl) us->∀(i:Nat)(v:Value),us[i]?=some v->∃b,bs[i]?=some b/\v=.bool b
 |[],_,.nil,i,v,h=>by cases i<;>cases h
 |b::bs,_,.cons r t,0,v,h=>by
  rw[List.getElem?_cons_zero]at h;cases h;exact⟨b,rfl,r⟩
 |b::bs,_,.cons r t,i+1,v,h=>by
  rw[List.getElem?_cons_succ]at h;exact Ew t i v h
noncomputable def N6:Μ->Hp->VK->Prop:=λxs H Q=>∃(l:Addr)(bs:List Bool),xs=[.ref l]/\H l=some (.lst (bs.map V.bl))/\Q (.bl (bs.all id)) H
theorem qZ:∀bs:List Bool,((List.range bs.length).all λi=>(bs[i]?).getD true)=bs.all id
 |[]=>rfl
 |b::bs=>by
  rw[List.length_cons,List.range_succ_eq_map,List.all_cons,List.all_map,List.all_cons];have:=qZ bs;simp only[Function.comp_def,List.getElem?_cons_succ,List.getElem?_cons_zero,Option.getD_some,id]at this ⊢;rw[this]
theorem Qh(hc:X.calm=true):fY X (.builtin "all") N6:=by
 intro pins s σ H xs us Q I r h;obtain⟨l,bs,rfl,hl,q⟩:=h;obtain⟨u,rfl,ru⟩:=r.one;cases ru;obtain⟨its,rv,p⟩:=I.lstIs hl;have hlt:l<s.heap.objs.size:=by obtain⟨_,e,_⟩:=p;exact aJ e
 refine call_all_walk (wpAny_pyIter_list p ?_);refine⟨s.heap.objs.size,[s.heap.objs.size,l],[s.heap.objs.size],its.toArray.size,_,_,λi=>(bs[i]?).getD true,rfl,Walks.list (A:=X.A.in1) (I.ok.hd hc) _ l (aR hlt) its.toArray,
  ⟨⟨_,aY _ rfl,rfl,rfl⟩,p.push _⟩,λi v s' Q' E' hP hQ=>?_,λh' tk hk=>?_⟩
 .obtain⟨b,e,rfl⟩:=Ew rv i v (by simpa using hP);simp only[e,Option.getD_some]at hQ;exact wpAny_truthy_bool hQ
 .have e:((List.range its.toArray.size).all λi=>(bs[i]?).getD true)=bs.all id:=by
   rw[aZ,<- rv.length,ak];exact qZ bs
  refine⟨.bl (bs.all id),H,I.kept (t':=tk) λb o q=>hk b o (λhm=>?_) (aG _ q),?_,q⟩
  .rw[YR.mp hm]at q;exact X9 _ (aJ q)
  .rw[e];rfl
noncomputable def HX:V->Μ->Hp->VK->Prop:=λx vs H Q=>∃a b,x=.str a/\vs=[.str b]/\Q (.bl (decide (0+b.length<=a.length)&&Builtin.Str.subAt a b 0)) H
noncomputable def aaE:List Nat->Int
 |i::_=>(i:Int)
 |[]=>-1
noncomputable def Tp:V->Μ->Hp->VK->Prop:=λx vs H Q=>∃a b,x=.str a/\vs=[.str b]/\Q (.int (aaE (Builtin.Str.occurrences a b 0 a.length 1))) H
noncomputable def K9:V->Μ->Hp->VK->Prop:=λx vs H Q=>∃a b,x=.str a/\vs=[.str b]/\1<=b.length/\a.length<sizeLine/\∀p,H p=none->Q (.ref p) (upd H p (.lst ((Txt.split a b).map V.str)))
noncomputable def tSM(r:V->Μ->Hp->VK->Prop)(to:TE)(t:TA):TE:=λσ H Q=>to σ H λx H1=>(∃y,x=.str y)/\t σ H1 λvs H2=>r x vs H2 Q
theorem Js{x:Str}{v:V}{pos:Pos}(hg:Gl X x)(hm:∃u,X.mg x=some u/\RelV v u)(hd:(x==("__debug__" : Str))=false:=by decide):PE X (.Name x pos) (tC v):=by
 obtain⟨u,h1,h2⟩:=hm;exact N7 hg h1 h2 hd
noncomputable def Rv:R2:=λx y H Q=>∃i n,x=.str i/\y=.int n/\i.length=1/\0<=n/\n<=1000/\∀z:Str,z.length<=n.toNat+1->Q (.str z) H
theorem W5{a b:Expr}{ta tb:TE}{pos:Pos}(ha:PEB X a ta)(hb:PE X b tb)(hs:Ng b):PEB X (.Subscript a b pos) (tOp Jo ta tb):=⟨bU cu ha.out hb hs⟩
theorem Rk{st:Stmt}{t:TS}(h1:PSB X st t):Xl X [st] t:=⟨bN h1.out⟩
end
theorem cC.calm{P:Program}{w:World}{K:Frag}{mg:Str->Ζ}{base:Heap}{k:Nat}{f:Addr}{fd:FuncData}{ps:Β}{sp:Sp}(F:cC P w K mg base (CXO P w) k f fd ps sp) :
  cC P w K mg base CX0 k f fd ps (λvs H Q _=>sp vs H Q λ_ _ _=>False):=by
 refine⟨λvs H Q E h=>F.len _ _ _ _ h,λA outer s H args us vs Q E hr e0 hb r h=>?_⟩;refine codeAny_mono (F.run A outer s H args us vs Q _ hr e0 hb r h) λres s' hs=>?_;cases res with
 |error e =>
  obtain⟨_,_,_,_,_,_,_,z⟩:=hs;exact z.elim
 |ok fl =>
  cases fl with
  |ret u=>exact hs
  |next=>exact hs
  |brk=>exact hs
  |cont=>exact hs
theorem OkX.calm{P:Program}{w:World}{K:Frag}{mg:Str->Ζ}{base:Heap}{k:Nat}{x:Str}{ps:Β}{sp:Sp}(F:OkX P w K mg base k x ps sp) :
  OkF P w K mg base k x ps (λvs H Q _=>sp vs H Q λ_ _ _=>False):=by obtain⟨f,fd,a,b⟩:=F;exact⟨f,fd,a.calm,b⟩
noncomputable def hid(y:Str):Str:=Str.ofString "?" ++ y
noncomputable def En(xs:Β)(N:Β):Β:=N.map λy=>if y∈xs then hid y else y
noncomputable def Cx.compG(X:Cx)(N':Β)(scope:Scope)(xs:Β)(C:Addr)(s₀:Shared)(H₀:Hp)(ex:Ε)(pn:Ω):Cx :=
 { X with env:=compEnvC scope (xV X.env.cells scope.names []) C X.env,N:=xs++N',s₀:=s₀,H₀:=H₀,outer:=X.stack,ex:=ex,fn:=λ_=>false,pn:=pn,xe:=λ_ _=>False }
noncomputable def PTs(X:Cx)(ifs:List Expr)(tc:TT):Prop:=∀(pins:Ω)(s:Shared)(σ:L2.St)(H:Hp)(Q:Bool->Hp->Prop),Inv X pins σ H s->tc σ H Q ->
 wpAny (model X.prog X.w) X.A (forIn ifs true λc r=>if r=true then do let ok <- isTrue c X.env (eval c X.env);pure (ForInStep.yield ok)else pure (ForInStep.yield r)) (λb s'=>∃H',Inv X pins σ H' s'/\Q b H') X.xe s
noncomputable def Lg:TT:=λ_ H Q=>Q true H
theorem eU{X:Cx} : PTs X [] Lg:=λ_ _ _ H _ I q=>wpAny_tests_nil ⟨H,I,q⟩
theorem O8{X:Cx}{c:Expr}{tc:TT}(h:PT X c tc):PTs X [c] tc:=λpins s σ H Q I q=>wpAny_tests_one (h pins s σ H Q I q)
noncomputable def iJ(wi:TI)(n:Nat)(gt:TG)(tc:TT)(te:TE):TE:=λσ H Q=>wi σ H λJ H1=>∀D,H1 D=none->∃W:Nat->Nat->Μ->Hp->Prop,(∃m,W 0 m [] (upd H1 D (.lst [])))/\∀i m ys Hc,W i m ys Hc ->
 (J.stop i Hc/\Q (.ref D) Hc)\/(J.go i Hc/\∀x H',J.yld i Hc x H'->∀pre:L2.St,pre.length=n->gt x (pre++σ) H' λσ2 H2=>∃pre':L2.St,pre'.length=n/\σ2=pre'++σ/\tc σ2 H2 λb H3 =>
  match b with
  |true=>te σ2 H3 λy H4=>ys.length<sizeLine/\H4 D=some (.lst ys)/\∃m',m'<m/\W (i+1) m' (ys++[y]) (upd H4 D (.lst (ys++[y])))
  |false=>∃m',m'<m/\W (i+1) m' ys H3)
section
variable{X:Cx}{elt iter:Expr}{pos:Pos}{scope:Scope}{wi:TI}{te:TE}
theorem BX{use:Option (Value->Sem Unit)}{post:Κ}{Qv:VK}{pins:Ω}{s:Shared}{σ:L2.St}{H:Hp}{pp:Pos}{xs N':Β}{tg:Expr}{ifs:List Expr}{gt:TG}{tc:TT}(hc:X.calm=true)(hsh:En xs X.N=N')(hN:(xs++N').Nodup)(hkind:scope.kind=.function)(hcell:∀y∈scope.names,y.2≠.cell)(hnames:∀y∈scope.names,y.2=.local->scope.names.lookup y.1=some .local)
 (hfree:∀y∈scope.names,y.2=.free->X.env.kindOf y.1=some .cell\/X.env.kindOf y.1=some .free)(hloc:∀y∈X.N,y∉xs->(relabel scope X.env).names.lookup y≠some .local)(hq:∀y∈X.N,y∈xs->(relabel scope X.env).names.lookup (hid y)=none)(hi:PI X tg iter wi)
 (hg:∀C s₀ H₀ ex pn,PG (X.compG N' scope xs C s₀ H₀ ex pn) tg gt)(ht:∀C s₀ H₀ ex pn,PTs (X.compG N' scope xs C s₀ H₀ ex pn) ifs tc)(he:∀C s₀ H₀ ex pn,PE (X.compG N' scope xs C s₀ H₀ ex pn) elt te)(hs:∀z,foldedSetIterable iter X.env z=pure z)(I:Inv X pins σ H s)(h:iJ wi xs.length gt tc te σ H Qv)
 (endC:∀(C D:Addr)(Hc:Hp)(s6:Shared)(m:Str->Ζ)(fl:Flow),s6.heap.Ns C m->Inv X pins σ Hc s6->yZ X pins Hc C->Qv (.ref D) Hc->compPost (model X.prog X.w) X.A X.xe use post (.ref D) C (.ok fl) s6) :
  wpAny (model X.prog X.w) X.A (comprehension (.ListComp elt [⟨tg,iter,ifs,0⟩] scope pos) scope X.env pp (newList []) false (eval iter X.env) use) post X.xe s:=by
 have hfr:∀y∈scope.names,y.2=.free->∃c,X.env.cells.lookup y.1=some c:=λy hy e=>I.ok.has y.1 (hfree y hy e);refine wpAny_comprehension_free (use:=use) (Q:=post) rfl hs (Le hfr) hkind hnames (thn (hi pins s σ H _ I h) λv s1 h1=>thn h1 λitv s2 h2=>?_);obtain⟨it,fp,tn,J,H2,e,I2,T,st2,f2,R⟩:=h2;subst e;have nD:H2 s2.heap.objs.size=none:=I2.hok.fresh (aF _);obtain⟨W,⟨m0,w0⟩,turn⟩:=R s2.heap.objs.size nD;refine wpAny_newObj_type ?_ (by show 0<=sizeLine;exact bh _);have I3:Inv X pins σ (upd H2 s2.heap.objs.size (.lst [])) { s2 with heap:=s2.heap.push { cls:=.type "list",dict:=none,data:=.seq ([] : Ξ).toArray } }:=I2.lnew (t':=s2.toks) (ys:=[]) (its:=[]) .nil (bh _);have oldT:∀b o,s2.heap.get? b=some o->(s2.heap.push { cls:=.type "list",dict:=none,data:=.seq ([] : Ξ).toArray }).get? b=some o:=λb o e=>aG _ e;generalize hs3:({ s2 with heap:=s2.heap.push { cls:=.type "list",dict:=none,data:=.seq ([] : Ξ).toArray } } : Shared)=s3 at I3 ⊢;have st3:tn 0 s3.heap:=T.keep _ _ _ st2 λb _ o e=>by rw[<- hs3];exact oldT b o e
 generalize hH3:upd H2 s2.heap.objs.size (.lst [])=H3 at I3 w0;have f3:∀b∈fp,yZ X pins H3 b:=λb hb=>by
  obtain⟨a1,a2⟩:=f2 b hb;refine⟨?_,a2⟩;obtain⟨o,e,_⟩:=T.obj _ _ st2 b hb;rw[<- hH3,bL (aR (aJ e))];exact a1
 refine wpAny_newFunctionEnv hcell (by intro y hy;simp at hy) (λg hns hsb=>?_) hkind;have kg:∀b o,s3.heap.get? b=some o->g.get? b=some o:=λb o e=>(hsb.2 b (aR (aJ e))).trans (aG _ e);have clm:∀{y:Str}{c:Addr},(xV X.env.cells scope.names []).lookup y=some c->X.env.cells.lookup y=some c:=λ{y c}e=>by
  rcases Jg hfr (PySem.mem_of_lookup e)with z|z
  .cases z
  .exact z
 have kinds:∀{y:Str},((relabel scope X.env).names.lookup y=some .cell\/(relabel scope X.env).names.lookup y=some .free)->(X.env.kindOf y=some .cell\/X.env.kindOf y=some .free)/\∃c,(xV X.env.cells scope.names []).lookup y=some c:=λ{y}e=>by
  have z:=vX e hcell;obtain⟨c,hc'⟩:=Jm (cells:=X.env.cells) (acc:=[]) (.inl z);exact⟨hfree _ z rfl,nG hc'⟩
 have lt3:∀b∈fp,b<s3.heap.objs.size:=λb hb=>by
  obtain⟨o,e,_⟩:=T.obj _ _ st3 b hb;exact aJ e
 have nst:∀b∈fp,b∉frs X.stack:=λb hb=>I3.nostk' (f3 b hb).2.1 (f3 b hb).2.2.1;generalize hX:X.compG N' scope xs s3.heap.objs.size s3 H3 fp (X.pn++pins)=Y;have ok':Y.Ok:=by
  subst hX;exact⟨I3.ok.mod,hkind,I3.ok.glob,I3.ok.blt,aF _,λy z c h1 h2=>I3.ok.inj y z c (clm h1) (clm h2),λy hy=>(kinds hy).2,λ_ _ z=>(nomatch z),I3.ok.hd,I3.ok.frames,.inl rfl,
   λb hb=>⟨aR (lt3 b hb),λy c e=>(f3 b hb).2.2.2.2.1 y c (clm e)⟩,I3.bs,aM I3.ok.bsz I3.sz,λb o e hb=>by
    rcases(f3 b hb).2.2.2.1 with z|z
    .exact I3.ok.noex b o e z
    .exact absurd (aU (aU (aJ e) I3.ok.bsz) z) (X9 _),nst,I3.stack,I3.stkFree⟩
 have J4:∀tk,Inv Y [] (List.replicate xs.length none++σ) H3 { s3 with heap:=g,toks:=tk }:=λtk=>by
  subst hX;refine⟨ok',rfl,I3.bare,Un.kept kg,⟨_,hns,λi y v e1 e2 e3=>?_⟩,λy c e=>?_,I3.hok.fresh (aF _),λy c e=>I3.freeC y c (clm e),λp hp=>?_,I3.hok.kept kg,?_⟩
  .by_cases hin:i<xs.length
   .rw[aD (by rw[aN];exact hin),List.getElem?_replicate,ZY hin]at e2;cases e2
   .obtain⟨j,rfl⟩ : ∃j,i=xs.length+j:=⟨i-xs.length,by lia⟩;have e0:N'[j]?=some y:=by
     have e1:(xs++N')[xs.length+j]?=some y:=e1;rw[aC (X2 _ _)]at e1;rw[show xs.length+j-xs.length=j by exact Nat.add_sub_cancel_left _ _]at e1;exact e1
    have e2':σ[j]?=some (some v):=by
     rw[aC (by rw[aN];exact X2 _ _),aN]at e2;rw[show xs.length+j-xs.length=j by exact Nat.add_sub_cancel_left _ _]at e2;exact e2
    rw[<- hsh]at e0;obtain⟨y0,e1',ey⟩ : ∃y0,X.N[j]?=some y0/\(if y0∈xs then hid y0 else y0)=y:=by
     unfold En at e0;rw[aq]at e0;cases hz:X.N[j]? with
     |none=>rw[hz]at e0;cases e0
     |some y0=>rw[hz]at e0;exact⟨y0,rfl,Option.some.inj e0⟩
    have e3:(relabel scope X.env).names.lookup y=some .local\/(relabel scope X.env).names.lookup y=some .cell\/(relabel scope X.env).names.lookup y=some .free:=e3;have ne:¬y0∈xs:=λz=>by
     rw[ZY z]at ey;subst ey;rw[hq y0 (aB e1') z]at e3;rcases e3 with z|z|z<;>cases z
    rw[ZZ ne]at ey;subst ey;have e3':(relabel scope X.env).names.lookup y0=some .cell\/(relabel scope X.env).names.lookup y0=some .free:=by
     rcases e3 with z|z
     .exact absurd z (hloc y0 (aB e1') ne)
     .exact z
    obtain⟨kd,c,hcl⟩:=kinds e3';obtain⟨m,_,hl⟩:=I3.loc;obtain⟨u,r,lk⟩:=hl j y0 v e1' e2' (.inr kd);refine⟨u,r,.inr ⟨e3',c,hcl,?_⟩⟩;rcases lk with⟨k1,_⟩|⟨_,c',q1,o,q2,q3⟩
    .exfalso;have k1':X.env.kindOf y0=some .local:=k1;rcases kd with k2|k2<;>rw[k1']at k2<;>cases k2
    .rw[clm hcl]at q1;cases q1;exact⟨o,kg _ _ q2,q3⟩
  .obtain⟨v,o,q2,q3⟩:=I3.cell y c (clm e);exact⟨v,o,kg _ _ q2,q3⟩
  .have hp':p∈X.pn++pins:=by simpa[Cx.compG]using hp
   obtain⟨a1,a2,a3,a4,a5⟩:=I3.pin p hp';exact⟨kg _ _ a1,a2,aR (aJ a1),I3.nostk' a3 a4,a5⟩
  .show(List.replicate xs.length none++σ).length=(xs++N').length;have hln:N'.length=X.N.length:=by rw[<- hsh];unfold En;rw[ak]
   rw[aA,aN,aA,I3.len,hln]
 have fpY:∀{Hc:Hp},(∀b∈fp,Hc b=none)->∀b∈fp,yZ Y [] Hc b:=λ{Hc}hn b hb=>by
  subst hX;exact⟨hn b hb,aR (lt3 b hb),nst b hb,.inl hb,λy c e=>(f3 b hb).2.2.2.2.1 y c (clm e),λp hp=>(f3 b hb).2.2.2.2.2 p (by simpa[Cx.compG]using hp)⟩
 have loop:∀s4:Shared,s4={ s3 with heap:=g,toks:=s3.toks+([] : List (Str×Value)).length } ->
   codeAny (model X.prog X.w) X.A (.compLoop (.ListComp elt [⟨tg,iter,ifs,0⟩] scope pos) 0 (.ref it) (.ref s2.heap.objs.size) Y.env) (compPost (model X.prog X.w) X.A X.xe use post (.ref s2.heap.objs.size) s3.heap.objs.size) s4:=by
  rintro s4 rfl;have YP:Y.prog=X.prog/\Y.w=X.w/\Y.K=X.K/\Y.calm=X.calm/\Y.A=X.A/\Y.env.locals=s3.heap.objs.size:=by subst hX;exact⟨rfl,rfl,rfl,rfl,rfl,rfl⟩
  obtain⟨y1,y2,y3,y4,y5,y6⟩:=YP;have he':PE Y elt te:=by subst hX;exact he _ _ _ _ _
  have hg':PG Y tg gt:=by subst hX;exact hg _ _ _ _ _
  have ht':PTs Y ifs tc:=by subst hX;exact ht _ _ _ _ _
  have xeY:Y.xe=λ_ _=>False:=by subst hX;rfl
  have yb:∀{Hc:Hp}{w':L2.St}{pn:Ω}{s':Shared},Inv Y pn w' Hc s'->Un (frs X.stack) fp H3 Hc s3.heap s'.heap:=λ{Hc w' pn s'}Z=>by
   have:=Z.base;subst hX;exact this
  have yos:∀{Hc:Hp}{w':L2.St}{pn:Ω}{s':Shared},Inv Y pn w' Hc s'->s'.os=s3.os:=λ{Hc w' pn s'}Z=>by
   have:=Z.os;subst hX;exact this
  refine codeAny_loop rfl (λn s'=>∃i ys Hc,∃w':L2.St,w'.length=xs.length/\Inv Y [] (w'++σ) Hc s'/\tn i s'.heap/\(∀b∈fp,Hc b=none)/\W i n ys Hc) (λn s5 hI=>?_) m0 ⟨0,[],H3,List.replicate xs.length none,aN,J4 _,T.keep _ _ _ st3 λb _ o e=>kg b o e,λb hb=>(f3 b hb).1,w0⟩;obtain⟨i,ys,Hc,w',hw',Z,stc,frc,wc⟩:=hI;show wpAny _ _ ((compTurn (.ListComp elt [⟨tg,iter,ifs,0⟩] scope pos) 0 (.ref it) (.ref s2.heap.objs.size) Y.env).onRaise (λz=>do noteFrame z Y.env;theTreesLotGoes z)) _ _ s5;refine wpAny_noted (wpAny_noRaise ?_);rw[compTurn_list];show wpAny (model X.prog X.w) X.A _ _ _ _;rcases turn i n ys Hc wc with⟨stop,qn⟩|⟨go,step⟩
  .have hd:=T.done Y y1 y2 y3 (y4.trans hc) i [] s5 (w'++σ) Hc (λ_ _=>False) Z (fpY frc) stc stop;rw[y5]at hd;refine ZU (wpAny_standAt (ZU (thn hd λr s6 hP=>?_)));obtain⟨hr,Z6⟩:=hP;subst hr;refine ZT ?_;obtain⟨m,hn6,_⟩:=Z6.loc;rw[y6]at hn6;have u6:=yb Z6;have hok:HOk X.prog X.w Hc s6.heap:=by
    have z:=Z6.hok;rw[y1,y2]at z;exact z
   have cn:Hc s3.heap.objs.size=none:=by
    have z:=Z6.free;rw[y6]at z;exact z
   have I6:Inv X pins σ Hc s6:=I3.call' (s':=s6) (ch:=fp) (yos Z6) u6 hok Z6.bare λb hb=>⟨(f3 b hb).2.2.2.1,(f3 b hb).2.1,(f3 b hb).2.2.2.2.1,(f3 b hb).2.2.2.2.2⟩;have fC:yZ X pins Hc s3.heap.objs.size:=I3.fpOk (aF _) cn;exact endC _ _ Hc s6 m _ hn6 I6 fC qn
  .have hd:=T.item Y y1 y2 y3 (y4.trans hc) i [] s5 (w'++σ) Hc (λ_ _=>False) Z (fpY frc) stc go;rw[y5]at hd;refine ZU (wpAny_standAt (ZU (thn hd λr s6 hP=>?_)));obtain⟨u,hr,h6⟩:=hP;subst hr;refine ZU (thn h6 λ_ s7 hP=>?_);obtain⟨xv,H7,Z7,r7,yl,st7,fr7⟩:=hP;have Z7':=Z7.pinned (fpY fr7) (T.obj _ _ st7);have hst:=hg' _ s7 _ H7 xv u _ Z7' r7 (step xv H7 yl w' hw');rw[y1,y2,y5,xeY]at hst;refine ZU (thn hst λ_ s8 hP=>?_);obtain⟨σ8,H8,Z8,pre,hpre,e8,q8⟩:=hP;subst e8;have hte:=ht' _ s8 _ H8 _ Z8 q8;rw[y1,y2,y5,xeY]at hte;have fin:∀{m':Nat}{ys':Μ}{H9:Hp}{s9:Shared},Inv Y ([]++Ar fp s7.heap) (pre++σ) H9 s9->m'<n->W (i+1) m' ys' H9->∃m,m<n/\∃i ys Hc,∃w':L2.St,w'.length=xs.length/\Inv Y [] (w'++σ) Hc s9/\tn i s9.heap/\(∀b∈fp,Hc b=none)/\W i m ys Hc:=λ{m' ys' H9 s9}Z9 hm' w9 =>
    ⟨m',hm',i+1,ys',H9,pre,hpre,Z9.unpinned,T.keep _ _ _ st7 λb hb o e=>(Z9.pin (b,o) (aQ _ (aQ _ (ni hb e)))).1,λb hb=>by
     obtain⟨o,e,_⟩:=T.obj _ _ st7 b hb;exact(Z9.pin (b,o) (aQ _ (aQ _ (ni hb e)))).2.1,w9⟩
   refine ZU (thn hte λok s9 hP=>?_);obtain⟨H9,Z9,q9⟩:=hP;cases ok with
   |false =>
    obtain⟨m',hm',w9⟩:=q9;exact ZT ⟨rfl,fin Z9 hm' w9⟩
   |true =>
    have hel:=he' _ s9 _ H9 _ Z9 q9;rw[y1,y2,y5,xeY]at hel;refine ZU (ZU (thn hel λev s10 hP=>?_));obtain⟨yv,H10,Z10,r10,hz,hD10,m',hm',w10⟩:=hP;have hap:=Es (X:=Y) _ s10 _ H10 (.ref s2.heap.objs.size) [yv] (.ref s2.heap.objs.size) [ev] (λ_ Hf=>Hf=upd H10 s2.heap.objs.size (.lst (ys++[yv]))) Z10 rfl (.cons r10 .nil) ⟨_,ys,yv,rfl,rfl,hD10,hz,rfl⟩;rw[y1,y2,y5,xeY]at hap;refine ZU (thn hap λav s11 hP=>?_);obtain⟨_,H11,Z11,_,e11⟩:=hP;subst e11;exact ZT (ZT ⟨rfl,fin Z11 hm' w10⟩)
 have henv:Y.env=compEnvC scope (xV X.env.cells scope.names []) s3.heap.objs.size X.env:=by subst hX;rfl
 rw[henv]at loop;exact codeAny_compStart_list (loop _ rfl) (T.self _ 0 _ _ _ (T.keep _ _ _ st3 λb _ o e=>kg b o e) (loop _ rfl))
theorem R4{xs N':Β}{tg:Expr}{ifs:List Expr}{gt:TG}{tc:TT}(hc:X.calm=true)(hsh:En xs X.N=N')(hN:(xs++N').Nodup)(hkind:scope.kind=.function)(hcell:∀y∈scope.names,y.2≠.cell)(hnames:∀y∈scope.names,y.2=.local->scope.names.lookup y.1=some .local)
 (hfree:∀y∈scope.names,y.2=.free->X.env.kindOf y.1=some .cell\/X.env.kindOf y.1=some .free)(hloc:∀y∈X.N,y∉xs->(relabel scope X.env).names.lookup y≠some .local)(hq:∀y∈X.N,y∈xs->(relabel scope X.env).names.lookup (hid y)=none)(hi:PI X tg iter wi)
 (hg:∀C s₀ H₀ ex pn,PG (X.compG N' scope xs C s₀ H₀ ex pn) tg gt)(ht:∀C s₀ H₀ ex pn,PTs (X.compG N' scope xs C s₀ H₀ ex pn) ifs tc)(he:∀C s₀ H₀ ex pn,PE (X.compG N' scope xs C s₀ H₀ ex pn) elt te)(hs:∀z,foldedSetIterable iter X.env z=pure z:=by intro _;rfl) :
  PE X (.ListComp elt [⟨tg,iter,ifs,0⟩] scope pos) (iJ wi xs.length gt tc te):=by
 intro pins s σ H Q I h;rw[eval_ListComp];exact BX hc hsh hN hkind hcell hnames hfree hloc hq hi hg ht he hs I h λC D Hc s6 m fl hn I6 fC q=>⟨m,hn,λh' hs'=>⟨.ref D,Hc,I6.turned (it:=C) (h':=h') (t':=s6.toks) (λb o hb e=>(hs'.2 b hb).trans e) fC.1 fC.2.1 fC.2.2.2.1 fC.2.2.2.2.1 fC.2.2.2.2.2,rfl,q⟩⟩
end
section
variable{X:Cx}{k:Nat}{f C:Addr}{fd:FuncData}{ps:Β}{sp:Sp}{dvs:Μ}{ds:Ξ}{x m:Str}{p pos apos:Pos}{e o:Expr}{es:List Expr}{ta:TE}{t:TA}{Ex:Value->Η->L2.St->Hp->Prop}
noncomputable def ZW(C:Addr)(sp:Sp)(dvs:Μ)(Ex:Value->Η->L2.St->Hp->Prop)(t:TA):TE:=λσ H Q=>t σ H λvs H1=>∀x dx,H1 x=none->H1 dx=none->dx≠x->sp (.ref x::(vs++dvs)) (upd (upd H1 dx (.own x)) x (.ins C dx [])) (λv H2=>v=.non/\Q (.ref x) H2) λC d H'=>Ex C d σ H'
theorem WX{pins:Ω}{σ:St}{H:Hp}{s:Shared}{Q:VK}{us:Ξ}{vs:Μ}(F:cC X.prog X.w X.K X.mg X.base (CXO X.prog X.w) k f fd ps sp)(hr:eN k X.A)(hb:Binds X.K fd ps ds)(hd:Vals dvs ds)(hx:HB X Ex)
 (I:Inv X pins σ H s)(r:Vals vs us)(h:sp (vs++dvs) H Q λC d H'=>Ex C d σ H'):wpAny (model X.prog X.w) X.A (call (.ref f) us) (EP X pins σ Q) X.xe s:=by
 have r2:Vals (vs++dvs) (us++ds):=r.append hd;have hl:(us++ds).length=ps.length:=by rw[<- r2.length];exact F.len _ _ _ _ h
 refine wpAny_call (codeAny_mono (F.run X.A X.stack s H ⟨us,[]⟩ (us++ds) (vs++dvs) Q _ hr I.env0 (hb s us I.kIn hl) r2 h) λr s' hq=>?_);cases r with
 |error e =>
  obtain⟨a,C,d,H',B,rfl,Fl,q'⟩:=hq;exact hx pins σ H s a C H' s' B d I Fl q'
 |ok fl =>
  cases fl with
  |ret u=>exact I.after hq
  |next=>exact False.elim hq
  |brk=>exact False.elim hq
  |cont=>exact False.elim hq
theorem Qx{pins:Ω}{σ:St}{H:Hp}{s:Shared}{Q:VK}{us:Ξ}{vs:Μ}(M:Mk X.K C f)(F:cC X.prog X.w X.K X.mg X.base (CXO X.prog X.w) k f fd ps sp)(hr:eN (k+1) X.A)(hb:Binds X.K fd ps ds)(hd:Vals dvs ds)
 (hx:HB X Ex)(I:Inv X pins σ H s)(r:Vals vs us)
 (h:∀x dx,H x=none->H dx=none->dx≠x->sp (.ref x::(vs++dvs)) (upd (upd H dx (.own x)) x (.ins C dx [])) (λv H2=>v=.non/\Q (.ref x) H2) λC d H'=>Ex C d σ H') :
  wpAny (model X.prog X.w) X.A (call (.ref C) us) (EP X pins σ Q) X.xe s:=by
 have hq:=h (s.heap.objs.size+1) s.heap.objs.size (I.hok.fresh (Xs _)) (I.hok.fresh (aF _)) (aR (X1 _));have I2:=Inv.made (C:=C) I;have r2:Vals (V.ref (s.heap.objs.size+1)::(vs++dvs)) (Value.ref (s.heap.objs.size+1)::(us++ds)):=.cons rfl (r.append hd);have hl:(Value.ref (s.heap.objs.size+1)::us++ds).length=ps.length:=by
  have e:=r2.length;rw[F.len _ _ _ _ hq]at e;exact e.symm
 refine wpAny_call (T6 (f:=f) I.kIn M.makes M.init (beq_iff_eq.mp M.fn) (codeAny_mono (F.run _ X.stack _ _ ⟨Value.ref (s.heap.objs.size+1)::us,[]⟩ (Value.ref (s.heap.objs.size+1)::(us++ds)) _ _ _ (hr.make C us [])
  (I2.env0.make C us []) (hb _ (Value.ref (s.heap.objs.size+1)::us) I2.kIn hl) r2 hq) λr s' hq'=>?_))
 cases r with
 |error e =>
  obtain⟨a,C,d,H',B,rfl,Fl,q'⟩:=hq';exact hx pins σ _ _ a C H' s' B d I2 Fl q'
 |ok fl =>
  cases fl with
  |ret u =>
   obtain⟨v,H',I3,rv,ev,q3⟩:=I2.after hq';subst ev;exact⟨rv,⟨V.ref (s.heap.objs.size+1),H',I3,rfl,q3⟩⟩
  |next=>exact False.elim hq'
  |brk=>exact False.elim hq'
  |cont=>exact False.elim hq'
theorem Te(M:Mk X.K C f)(F:cC X.prog X.w X.K X.mg X.base (CXO X.prog X.w) k f fd ps sp)(hr:eN (k+1) X.A)(hg:Gl X x)(hm:X.mg x=some (.ref C))(hb:Binds X.K fd ps ds)(hd:Vals dvs ds)(hx:HB X Ex)
 (ha:PA X (e::es) t)(hdb:(x==("__debug__" : Str))=false:=by decide)(he:starEach (e::es) X.env=(false,eval e X.env)::starEach es X.env:=by rfl)(hpl:(backTo pos (starEach es X.env)).any (·.1)=false:=by rfl) :
  PE X (.Call (.Name x p) (e::es) [] pos) (ZW C sp dvs Ex t):=by
 intro pins s σ H Q I h;refine wpAny_Call_Name_kw (qH I hg hm ?_ hdb);refine callWith_K (h₀:=X.base) I.ok.mod.kin M.kp (thn (ha pos pins s σ H _ I h) λus s1 ⟨vs,H1,I1,r,q⟩=>⟨I1.kIn,?_⟩) he hpl;exact Qx M F hr hb hd hx I1 r q
end
structure Ey(K:Frag)(B:Addr)(m:Str)(f:Addr):Prop where
 ga:specialIn K (.ref B) "__getattribute__" = some (some (.builtin "type.__getattribute__"))
 rd:readsIn K B (.type "type")=true
 at_:findCls K (.ref B) (.type "type") m=some (.val (.ref f))
 hd:handedIn (.ref f)=true
 kp:keepIn K (.ref f)=true
section
variable{X:Cx}{k:Nat}{f B:Addr}{fd:FuncData}{ps:Β}{sp:Sp}{dvs:Μ}{ds:Ξ}{x m:Str}{p pos apos:Pos}{e:Expr}{es:List Expr}{t:TA}{Ex:Value->Η->L2.St->Hp->Prop}
theorem Ey.get{pins:Ω}{σ:L2.St}{H:Hp}{s:Shared}{pl:Sem Bool}{A:Around}{E:Κ}{Q:Value×Ξ->Shared->Prop}(c:Ey X.K B m f)(I:Inv X pins σ H s)(h:∀t,Q (.ref f,[]) { s with toks:=t }) :
  wpAny (model X.prog X.w) A (getMethod (.ref B) m pl) Q E s :=
 PySem.W.method_cls I.kIn c.ga (PySem.W.cls_value I.kIn c.rd c.at_ c.hd (h _))
theorem Ti{pl:Sem Bool}(c:Ey X.K B m f)(F:cC X.prog X.w X.K X.mg X.base (CXO X.prog X.w) k f fd ps sp)(hr:eN k X.A)(hg:Gl X x)(hm:X.mg x=some (.ref B))(hb:Binds X.K fd ps [])(hx:HB X Ex)(ha:PA X (e::es) t)(hdb:(x==("__debug__" : Str))=false:=by decide)
 (hst:starEach (e::es) X.env=(false,eval e X.env)::starEach es X.env:=by rfl)(hpl:(backTo pos (starEach es X.env)).any (·.1)=false:=by rfl)
 (ht:eval (.Call (.Attribute (.Name x p) m apos) (e::es) [] pos) X.env=(do
   let ov <- eval (.Name x p) X.env
   standAt apos.atName
   let(f,first) <- holding [ov] (getMethod ov m pl)
   callWith pos f first (backTo pos (starEach (e::es) X.env)) (backToKw pos (keywordEach [] X.env))):=by rfl) :
  PE X (.Call (.Attribute (.Name x p) m apos) (e::es) [] pos) (xY sp Ex t):=by
 intro pins s σ H Q I h;refine methodCall_KW (pl:=pl) (qH I hg hm (c.get I λtk=>?_) hdb) ht;refine callWith_K (first:=[]) (h₀:=X.base) I.ok.mod.kin c.kp (thn (ha pos pins _ σ H _ (I.tok tk) h) λus s2 ⟨vs,H2,I2,r,q2⟩=>⟨I2.kIn,?_⟩) hst hpl;exact WX (us:=us) (vs:=vs) F hr hb .nil hx I2 r (by rw[List.append_nil];exact q2)
end
section
variable{κ:Type}[DecidableEq κ]
noncomputable def mj(kvs:List (κ×V))(k:κ):Option V:=(kvs.find? λkv=>decide (kv.1=k)).map (·.2)
noncomputable def putK(kvs:List (κ×V))(k:κ)(v:V):List (κ×V) :=
 if(kvs.any λkv=>decide (kv.1=k))=true then kvs.map (λkv=>if kv.1=k then(kv.1,v)else kv)else kvs++[(k,v)]
theorem wg{p:κ×V}{r:List (κ×V)}{k:κ}(e:p.1=k):mj (p::r) k=some p.2:=by simp[mj,List.find?_cons,e]
theorem vq{p:κ×V}{r:List (κ×V)}{k:κ}(e:¬p.1=k):mj (p::r) k=mj r k:=by simp[mj,List.find?_cons,e]
theorem Ja(kvs:List (κ×V))(k:κ)(v:V):(putK kvs k v).length<=kvs.length+1:=by
 unfold putK;split
 .rw[ak];exact Xs _
 .rw[aA,List.length_cons,List.length_nil];exact aF _
theorem tZ.isSome_eq{o:Option V}{u:Ζ}(r:tZ o u):o.isSome=u.isSome:=by
 cases o with
 |none=>cases u with
  |none=>rfl
  |some _=>exact(show False from r).elim
 |some _=>cases u with
  |none=>exact(show False from r).elim
  |some _=>rfl
theorem tZ.getD{o:Option V}{u:Ζ}{d:V}{d':Value}(r:tZ o u)(rd:RelV d d'):RelV (o.getD d) (u.getD d'):=by
 cases o with
 |none=>cases u with
  |none=>exact rd
  |some _=>exact(show False from r).elim
 |some _=>cases u with
  |none=>exact(show False from r).elim
  |some _=>exact r
theorem KV.val{kvs:List (κ×V)}{vs:List (κ×Value)}(r:KV kvs vs)(k:κ):tZ (mj kvs k) (valueAt vs k):=by
 unfold KV at r
 induction r with
 |nil=>exact True.intro
 |@cons p q ps qs h t ih =>
  obtain⟨h1,h2⟩:=h;by_cases e:p.1=k
  .have e':q.1=k:=h1.symm.trans e;have b:valueAt (q::qs) k=some q.2:=by simp[valueAt,List.find?_cons,e']
   rw[wg e,b];exact h2
  .have e':¬q.1=k:=λz=>e (h1.trans z);have b:valueAt (q::qs) k=valueAt qs k:=by simp[valueAt,List.find?_cons,e']
   rw[vq e,b];exact ih
theorem KV.any{kvs:List (κ×V)}{vs:List (κ×Value)}(r:KV kvs vs)(k:κ):(kvs.any λkv=>decide (kv.1=k))=vs.any λkv=>decide (kv.1=k):=by
 unfold KV at r
 induction r with
 |nil=>rfl
 |cons h t ih=>rw[List.any_cons,List.any_cons,ih,h.1]
theorem KV.repl{kvs:List (κ×V)}{vs:List (κ×Value)}(r:KV kvs vs)(k:κ){y:V}{u:Value}(ry:RelV y u) :
  KV (kvs.map λkv=>if kv.1=k then(kv.1,y)else kv) (vs.map λkv=>if kv.1=k then(kv.1,u)else kv):=by
 unfold KV at r ⊢
 induction r with
 |nil=>exact .nil
 |@cons p q ps qs h t ih =>
  rw[List.map_cons,List.map_cons];refine .cons ?_ ih;obtain⟨h1,h2⟩:=h;by_cases e:p.1=k
  .rw[ZY e,ZY (h1.symm.trans e)];exact⟨h1,ry⟩
  .rw[ZZ e,ZZ (λz=>e (h1.trans z))];exact⟨h1,h2⟩
theorem KV.put{kvs:List (κ×V)}{vs:List (κ×Value)}(r:KV kvs vs)(k:κ){y:V}{u:Value}(ry:RelV y u):KV (putK kvs k y) (stored vs k u):=by
 unfold putK stored;rw[r.any k];by_cases e:(vs.any λkv=>decide (kv.1=k))=true
 .rw[ZY e,ZY e];exact r.repl k ry
 .rw[ZZ e,ZZ e];exact Paired.snoc r ⟨rfl,ry⟩
theorem KV.length{kvs:List (κ×V)}{vs:List (κ×Value)}(r:KV kvs vs):kvs.length=vs.length:=Paired.length r
end
theorem J6{P:Program}{w:World}{k:Key}{u:Value}(r:RelV (kV k) u):(fL P w).is k u=true:=by
 cases k with
 |inl i=>obtain⟨t,e⟩:=(show ∃t,u=Value.int i t from r);subst e;exact JH P w i t
 |inr x=>obtain⟨t,e⟩:=(show ∃t,u=Value.str x t from r);subst e;exact Ji P w x t
section
variable{P:Program}{w:World}{H:Hp}{h:Heap}{a:Addr}
theorem abJ{u:HO}(ok:HOk P w H h)(e:Rd H a u):dh P w H h a u:=e.ok ok
theorem Dd{kvs:List (Key×V)}(ok:HOk P w H h)(e:Rd H a (.dK kvs)):kvs.length<=sizeLine/\(a==sysModules)=false/\∃vs,KV kvs vs/\h.DictOf (fL P w) a vs :=
 show dh P w H h a (.dK kvs)from abJ ok e
theorem acW{kvs:List (Key×V)}(ok:HOk P w H h)(e:H a=some (.dK kvs)):kvs.length<=sizeLine/\(a==sysModules)=false/\∃vs,KV kvs vs/\h.DictOf (fL P w) a vs:=Dd ok (.inl e)
end
noncomputable def rB(H:Hp)(a:Addr)(y:V)(r:Option V):Prop :=
 (∃kvs k,Rd H a (.dK kvs)/\y=kV k/\r=mj kvs k)\/False
noncomputable def Hv(H:Hp)(a:Addr)(y v:V)(H':Hp):Prop :=
 (∃kvs k,H a=some (.dK kvs)/\y=kV k/\kvs.length<sizeLine/\H'=upd H a (.dK (putK kvs k v)))\/False
theorem rB.k{H:Hp}{a:Addr}{kvs:List (Key×V)}{k:Key}(e:H a=some (.dK kvs)):rB H a (kV k) (mj kvs k):=.inl ⟨kvs,k,.inl e,rfl,rfl⟩
theorem Hv.k{H:Hp}{a:Addr}{kvs:List (Key×V)}{k:Key}{v:V}(e:H a=some (.dK kvs))(hl:kvs.length<sizeLine):Hv H a (kV k) v (upd H a (.dK (putK kvs k v))):=.inl ⟨kvs,k,e,rfl,hl,rfl⟩
section
variable{X:Cx}{pins:Ω}{σ:St}{H:Hp}{s:Shared}{a:Addr}{y v:V}{u r:Value}{o:Option V}{A:Around}{E:Κ}
theorem Inv.big(I:Inv X pins σ H s):sysModules<s.heap.objs.size:=by
 have h:mainGlobals<s.heap.objs.size:=(I.mod.glob.keeps I.bk).lt;exact Nat.lt_trans (by decide) h
theorem Qd{Q:Κ}(hu:A.units+1<cLine)(I:Inv X pins σ H s)(g:rB H a y (some v))(ry:RelV y u)(h:∀w' s',Inv X pins σ H s'->RelV v w'->Q w' s') :
  wpAny (model X.prog X.w) A (getItem (.ref a) u) Q E s:=by
 rcases g with⟨kvs,k,e,ey,l⟩|hF
 .subst ey;obtain⟨z,hd,vs,rel,dd⟩:=Dd I.hok e;obtain⟨w',hw,rw'⟩:=tZ.some_of (v:=v) (o:=valueAt vs k) (by rw[l];exact rel.val k);exact wpAny_getItem_of (J6 ry) dd.mapOf hw (h w' _ (I.tok _) rw')
 .exact hF.elim
theorem adC{Q:Κ}(hu:A.units+1<cLine)(I:Inv X pins σ H s)(g:rB H a y o)(ry:RelV y u)(h:∀s',Inv X pins σ H s'->Q (.bool o.isSome) s') :
  wpAny (model X.prog X.w) A (compareOp .In u (.ref a)) Q E s:=by
 rcases g with⟨kvs,k,e,ey,l⟩|hF
 .subst ey;obtain⟨z,hd,vs,rel,dd⟩:=Dd I.hok e;refine wpAny_in_of (J6 ry) hd dd.mapOf ?_;rw[<- (rel.val k).isSome_eq,<- l];exact h _ (I.tok _)
 .exact hF.elim
theorem V5{Q:Κ}(hu:A.units+1<cLine)(I:Inv X pins σ H s)(g:rB H a y o)(ry:RelV y u)(h:∀s',Inv X pins σ H s'->Q (.bool (!o.isSome)) s') :
  wpAny (model X.prog X.w) A (compareOp .NotIn u (.ref a)) Q E s:=by
 rcases g with⟨kvs,k,e,ey,l⟩|hF
 .subst ey;obtain⟨z,hd,vs,rel,dd⟩:=Dd I.hok e;refine wpAny_notIn_of (J6 ry) hd dd.mapOf ?_;rw[<- (rel.val k).isSome_eq,<- l];exact h _ (I.tok _)
 .exact hF.elim
theorem XC{h':Heap}{t':Nat}{ob:HO}(I:Inv X pins σ H s)(mu:Mut (H a))(hs:Heap.SameBut a s.heap h')(he:∃q,h'.get? a=some q)(new:dh X.prog X.w (upd H a ob) h' a ob) :
  Inv X pins σ (upd H a ob) { s with heap:=h',toks:=t' } :=
 I.write (x:=a) (e:=a) mu (.inl rfl) (λb q hb z=>(hs.2 b hb).trans z) he new
theorem aaq{P:Program}{w:World}{H':Hp}{h':Heap}{kvs:List (Key×V)}{vs:List (Key×Value)}(z:kvs.length<=sizeLine)(hd:(a==sysModules)=false)(rel:KV kvs vs)(dd:h'.DictOf (fL P w) a vs) :
  dh P w H' h' a (.dK kvs):=⟨z,hd,vs,rel,dd⟩
theorem Px{H':Hp}{Q:Unit->Shared->Prop}(hu:A.units+1<cLine)(I:Inv X pins σ H s)(g:Hv H a y v H')(ry:RelV y u)(rv:RelV v r)(h:∀s',Inv X pins σ H' s'->Q () s') :
  wpAny (model X.prog X.w) A (setItem (.ref a) u r) Q E s:=by
 rcases g with⟨kvs,k,e,ey,l,eH⟩|hF
 .subst ey eH;obtain⟨z,hd,vs,rel,dd⟩:=acW I.hok e;have hz:vs.length<=sizeLine:=by rw[<- rel.length];exact z
  have hl:(putK kvs k v).length<=sizeLine:=by have:=Ja kvs k v;lia
  refine wpAny_setItem_pairs (hsz:=hz) (J6 ry) dd λh' dd' hs=>h _ ?_;have he:∃q,h'.get? a=some q:=by obtain⟨q,_,_,hq,_⟩:=dd';exact⟨q,hq⟩
  exact XC I (by rw[e];exact True.intro) hs he (aaq hl hd (rel.put k rv) dd')
 .exact hF.elim
end
noncomputable def acG(i:Expr):Prop:=∀ov iv,subscripted i false ov iv=operate [ov,iv] (getItem ov iv)
theorem Wk{prog:Program}{w:World}{A:Around}{E:Κ}{s:Shared}{env:Env}{value slice:Expr}{pos:Pos}{T id:String}{Q:Κ}
 (hl:typeLookup (.type T) "__getitem__" = pure (some (.builtin id)))(hs:acG slice)
 (h:wpAny (model prog w) A (eval value env) (λo s₁=>wpAny (model prog w) A (eval slice env) (λi s₂=>s₂.TypeIs o T/\wpAny (model prog w) A (getItem o i) Q E s₂) E s₁) E s) :
  wpAny (model prog w) A (eval (.Subscript value slice pos) env) Q E s:=by
 refine Subscript_ (wpAny_mono h (λo s₁ h₁=>wpAny_mono h₁ (λi s₂ h₂=>?_) λ_ _ x=>x) λ_ _ x=>x);obtain⟨hT,h₂⟩:=h₂;unfold subscriptTail;refine ZU ?_;rw[getitemInPython_of_ne hT.not_modules];refine ZU (wpAny_specialOf hT hl ?_);have fin:wpAny (model prog w) A (subscripted slice false o i) (λr s₃=>wpAny (model prog w) A (letTemporaryGo value o r >>= λ_=>pure r) Q E s₃) E s₂:=by
  rw[hs o i];exact wpAny_operating (wpAny_mono h₂ (λr s₃ h₃=>ZU (wpAny_letTemporaryGo (ZT h₃))) λ_ _ x=>x)
 first
  |exact ZT (ZU fin)
  |exact ZU (ZT (ZU fin))
  |exact ZU fin
theorem JN{X:Cx}{pins:Ω}{σ:St}{H:Hp}{s:Shared}{a:Addr}{y:V}{o:Option V}(I:Inv X pins σ H s)(g:rB H a y o):s.TypeIs (.ref a) "dict" := by
 rcases g with⟨kvs,k,e,_,_⟩|hF
 .obtain⟨_,_,vs,_,dd⟩:=Dd I.hok e;exact dd.typeIs
 .exact hF.elim
noncomputable def Oq(td ty:TE):TE:=λσ H Q=>td σ H λx H1=>ty σ H1 λy H2=>∃a v,x=.ref a/\rB H2 a y (some v)/\Q v H2
noncomputable def X_(ty td:TE):TE:=λσ H Q=>ty σ H λy H1=>td σ H1 λx H2=>∃a o,x=.ref a/\rB H2 a y o/\Q (.bl o.isSome) H2
noncomputable def zu(ty td:TE):TE:=λσ H Q=>ty σ H λy H1=>td σ H1 λx H2=>∃a o,x=.ref a/\rB H2 a y o/\Q (.bl (!o.isSome)) H2
noncomputable def Oz(td ty tv:TE):TS:=λD σ H=>tv σ H λv H1=>td σ H1 λx H2=>ty σ H2 λy H3=>∃a H4,x=.ref a/\Hv H3 a y v H4/\D.nx σ H4
section
variable{X:Cx}{o i e value:Expr}{pos pos' tpos:Pos}{td ty tv:TE}
theorem H_(hu:X.A.units+1<cLine)(ho:PE X o td)(hi:PE X i ty)(hs:acG i):PE X (.Subscript o i pos) (Oq td ty):=by
 intro pins s σ H Q I h;refine Wk PySem.F.slot_dict_getitem.lookup hs (thn (ho pins s σ H _ I h) λu s1 ⟨x,H1,I1,rx,q1⟩=>thn (hi pins s1 σ H1 _ I1 q1) λiv s2 hP=>?_);obtain⟨y,H2,I2,ry,a,v,ex,g,q2⟩:=hP;subst ex;obtain rfl:u=Value.ref a:=rx;exact⟨JN I2 g,Qd hu I2 g ry λw' s3 I3 rw'=>⟨v,H2,I3,rw',q2⟩⟩
theorem Ul(hu:X.A.units+1<cLine)(hi:PE X i ty)(ho:PE X o td):PC X .In i o (X_ ty td):=by
 intro pins s σ H Q I h;refine thn (hi pins s σ H _ I h) λiv s1 ⟨y,H1,I1,ry,q1⟩=>thn (ho pins s1 σ H1 _ I1 q1) λu s2 hP=>?_;obtain⟨x,H2,I2,rx,a,ov,ex,g,q2⟩:=hP;subst ex;obtain rfl:u=Value.ref a:=rx;exact adC hu I2 g ry λs3 I3=>⟨.bl ov.isSome,H2,I3,rfl,q2⟩
theorem Pn(hu:X.A.units+1<cLine)(hi:PE X i ty)(ho:PE X o td):PC X .NotIn i o (zu ty td):=by
 intro pins s σ H Q I h;refine thn (hi pins s σ H _ I h) λiv s1 ⟨y,H1,I1,ry,q1⟩=>thn (ho pins s1 σ H1 _ I1 q1) λu s2 hP=>?_;obtain⟨x,H2,I2,rx,a,ov,ex,g,q2⟩:=hP;subst ex;obtain rfl:u=Value.ref a:=rx;exact V5 hu I2 g ry λs3 I3=>⟨.bl (!ov.isSome),H2,I3,rfl,q2⟩
theorem zx(hu:X.A.units+1<cLine)(ho:PE X o td)(hi:PE X i ty)(hv:PE X value tv)(hs:swapsWith value (some (.Subscript o i pos')) pos.line X.env=pure false) :
  PS X (.Assign [.Subscript o i pos'] value pos) (Oz td ty tv):=by
 intro pins s σ H D I h;refine wpAny_Assign_Subscript (thn (hv pins s σ H _ I h) λr s1 ⟨v,H1,I1,rv,q1⟩=>thn (ho pins s1 σ H1 _ I1 q1) λu s2 ⟨x,H2,I2,rx,q2⟩=>thn (hi pins s2 σ H2 _ I2 q2) λiv s3 hP=>?_) hs;obtain⟨y,H3,I3,ry,a,H4,ex,g,q3⟩:=hP;subst ex;obtain rfl:u=Value.ref a:=rx;exact Px hu I3 g ry rv λs4 I4=>⟨σ,H4,I4,q3⟩
end
theorem Rr{P:Program}{w:World}{H:Hp}(h:Heap)(hb:sysModules<h.objs.size):dh P w H (h.push { cls:=.type "dict",data:=.dict #[] }) h.objs.size (.dK []) :=
 ⟨bh _,beq_eq_false_iff_ne.mpr (Ne.symm (aR hb)),[],.nil,Heap.DictOf.new h⟩
noncomputable def Hu:TE:=λ_ H Q=>∀p,H p=none->Q (.ref p) (upd H p (.dK []))
section
variable{X:Cx}{pos:Pos}
theorem vp:PE X (.Dict [] [] pos) Hu:=λpins s σ H Q I h =>
 wpAny_Dict_empty ⟨.ref s.heap.objs.size,_,I.laid (a:=s.heap.objs.size) (o:=.dK []) (t':=s.toks) (λ_ _ q=>aG _ q) (aF _) (Rr s.heap I.big),rfl,h _ (I.hok.fresh (aF _))⟩
end
structure M2(X:Cx)(o:Expr)(m:Str)(apos:Pos)(e f:Expr)(cpos:Pos):Prop where
 base:attributeBase o m X.env (eval o X.env)=eval o X.env
 few:((backTo cpos (starEach [e,f] X.env)).all (λx=>!x.1)&&(backToKw cpos (keywordEach [] X.env)).all (λx=>x.1.isSome)
  && decide (([e,f] : List Expr).length+([] : List Keyword).length+(if([] : List Keyword).isEmpty then 0 else 1)<30))=true
 line:(apos.endLine==cpos.line)=true
 trees:backTo cpos (starEach [e,f] X.env)=[(false,eval e X.env),(false,eval f X.env)]
noncomputable def IsD(H:Hp)(a:Addr):Prop:=(∃kvs,Rd H a (.dK kvs))\/False
theorem ZL{X:Cx}{pins:Ω}{σ:St}{H:Hp}{s:Shared}{a:Addr}(I:Inv X pins σ H s)(d:IsD H a) :
  s.TypeIs (.ref a) "dict" /\ (∀b,Value.ref a=.ref b->∃ob,s.heap.get? b=some ob/\ob.dict=none)/\(a==sysModules)=false:=by
 rcases d with⟨kvs,e⟩|hF
 .obtain⟨_,hd,vs,_,dd⟩:=Dd I.hok e;refine⟨dd.typeIs,λb q=>?_,hd⟩;cases q;obtain⟨ob,_,_,h1,h2,_⟩:=dd;exact⟨ob,h1,h2.2.1⟩
 .exact hF.elim
section
variable{X:Cx}{pins:Ω}{σ:St}{H:Hp}{s:Shared}{a:Addr}{y d:V}{u r:Value}{o:Option V}{A:Around}{E:Κ}
theorem Ze{Q:Κ}(hu:A.units+1<cLine)(I:Inv X pins σ H s)(g:rB H a y o)(ry:RelV y u)(rd:RelV d r)(h:∀w' s',Inv X pins σ H s'->RelV (o.getD d) w'->Q w' s') :
  wpAny (model X.prog X.w) A (call (.builtin "dict.get") [.ref a,u,r]) Q E s:=by
 rcases g with⟨kvs,k,e,ey,l⟩|hF
 .subst ey;obtain⟨z,hd,vs,rel,dd⟩:=Dd I.hok e;refine call_meetsIn PySem.F.slot_dict_get dd.typeIs PySem.F.entry_dict_get (PySem.F.args_dict_get_3 _ _ _) (meets_dict_get_default (fL X.prog X.w) a (J6 ry) hd r) ⟨_,dd.mapOf,h _ _ (I.tok _) ?_⟩;rw[l];exact(rel.val k).getD rd
 .exact hF.elim
end
noncomputable def Gj(td ty tx:TE):TE:=λσ H Q=>td σ H λx H1=>∃a,x=.ref a/\IsD H1 a/\ty σ H1 λy H2=>tx σ H2 λz H3=>∃o,rB H3 a y o/\Q (o.getD z) H3
section
variable{X:Cx}{o e f:Expr}{apos cpos:Pos}{td ty tx:TE}
theorem J8(hu:X.A.units+1<cLine)(ho:PE X o td)(he:PE X e ty)(hf:PE X f tx)(m:M2 X o "get" apos e f cpos):PE X (.Call (.Attribute o "get" apos) [e,f] [] cpos) (Gj td ty tx):=by
 intro pins s σ H Q I h;refine wpAny_Call_method m.base m.few m.line PySem.F.plainAttrs_dict PySem.F.slot_dict_get PySem.F.type_dict_get (thn (ho pins s σ H _ I h) λu s1 hP=>?_);obtain⟨x,H1,I1,rx,a,ex,d,q1⟩:=hP;subst ex;obtain rfl:u=Value.ref a:=rx;obtain⟨t1,t2,_⟩:=ZL I1 d;refine⟨t1,t2,?_⟩;rw[m.trees];refine Calls.callWith_builtin rfl (Calls.evalArgs_plain (Calls.spliced_cons (thn (he pins s1 σ H1 _ I1 q1) λiv s2 ⟨y,H2,I2,ry,q2⟩ =>
  Calls.spliced_cons (thn (hf pins s2 σ H2 _ I2 q2) λfv s3 ⟨z,H3,I3,rz,ov,g,q3⟩=>Calls.spliced_nil ?_))))
 exact Ze hu I3 g ry rz λw' s4 I4 rw'=>⟨_,H3,I4,rw',q3⟩
end
noncomputable def Itk(a:Addr)(o:Obj)(kvs:List (Key×V)):It:=⟨λi H=>H a=some (.frz o (.dK kvs))/\i<kvs.length,λi H v H'=>H'=H/\∃k y,kvs[i]?=some (k,y)/\v=kV k,λi H=>H a=some (.frz o (.dK kvs))/\i=kvs.length⟩
theorem Yw{P:Program}{w:World}{k:Key}{u:Value}(h:(fL P w).is k u=true):RelV (kV k) u:=by
 have h:w6 k u=true:=h;cases k with
 |inl i =>
  cases u<;>simp[w6,Value.isInt]at h
  .subst h;exact⟨_,rfl⟩
 |inr x =>
  cases u<;>simp[w6,Value.isStrOf]at h
  .subst h;exact⟨_,rfl⟩
theorem KV.at{κ:Type}{kvs:List (κ×V)}{vs:List (κ×Value)}(r:KV kvs vs):∀{i:Nat}{k:κ}{y:V},kvs[i]?=some (k,y)->∃u,vs[i]?=some (k,u)/\RelV y u:=by
 unfold KV at r
 induction r with
 |nil=>intro i k y h;cases h
 |@cons p q ps qs h t ih =>
  intro i k y e;cases i with
  |zero =>
   rw[List.getElem?_cons_zero]at e;cases e;obtain⟨q1,q2⟩:=q;obtain⟨h1,h2⟩:=h;cases h1;exact⟨q2,rfl,h2⟩
  |succ i =>
   rw[List.getElem?_cons_succ]at e ⊢;exact ih e
theorem Qs{P:Program}{w:World}{K:Frag}{tg:Expr}(it a:Addr)(o:Obj)(kvs:List (Key×V))(vs:List (Key×Value))(ep:Nat)(rel:KV kvs vs)(hD:∀h:Heap,h.get? a=some o->h.DictAt (fL P w) a vs ep) :
  Turn P w K tg (Itk a o kvs) [it] it (λi h=>h.IsKeyIter it a i vs.length ep) where
 mem:=by simp
 obj:=λi h st b hb=>by
  have e:b=it:=by simpa using hb
  subst e;obtain⟨o,ho,_,hd⟩:=st;exact⟨o,ho,λv z=>by rw[hd]at z;cases z⟩
 keep:=λi h h' st k=>let⟨o,ho,r⟩:=st;⟨o,k it (by simp) o ho,r⟩
 item:=by
  intro X hP hw hK hc i pins s σ H E I hf st hg;subst hP hw hK;obtain⟨hg,hlt⟩:=hg;obtain⟨ho,_⟩:=(show dh X.prog X.w H s.heap a (.frz o (.dK kvs))from I.hok a _ hg);obtain⟨f0,f1,f2,f3,f4,f5⟩:=hf it (by simp);obtain⟨⟨k,y⟩,hx⟩ : ∃p,kvs[i]?=some p:=⟨kvs[i],by simp[hlt]⟩;obtain⟨u,hu,ru⟩:=rel.at hx;refine wpAny_pyNext_dict_item st (hD _ ho) hu λkey h' hkey st' sb=>?_;have I1:Inv X pins σ H { s with heap:=h' }:=I.turned (t':=s.toks) (λb ob hb e=>(sb.2 b hb).trans e) f0 f1 f3 f4 f5;obtain⟨oi,e,c,d⟩:=id st';exact⟨key,rfl,Ju (s:={ s with heap:=h' }) e c d (by decide) ⟨kV k,H,I1,Yw hkey,⟨rfl,k,y,hx,rfl⟩,st',λb hb=>(hf b hb).1⟩⟩
 done:=by
  intro X hP hw hK hc i pins s σ H E I hf st hg;subst hP hw hK;obtain⟨hg,rfl⟩:=hg;obtain⟨ho,_⟩:=(show dh X.prog X.w H s.heap a (.frz o (.dK kvs))from I.hok a _ hg);obtain⟨f0,f1,f2,f3,f4,f5⟩:=hf it (by simp);have hl:=rel.length;exact wpAny_pyNext_dict_end (I.ok.hd hc) st (hD _ ho) (by simp;exact Nat.le_of_eq (Eq.symm hl)) λh' eb=>⟨rfl,I.turned (t':=s.toks) (λb ob hb e=>eb b ob hb e) f0 f1 f3 f4 f5⟩
 self:=λ_ _ _ _ _ st h=>wpAny_pyIter_keyiter st h
section
variable{X:Cx}{tg:Expr}
noncomputable def Yy(te:TE):TI:=λσ H R=>te σ H λx H1=>∃a kvs,x=.ref a/\H1 a=some (.dK kvs)/\∀o,R (Itk a o kvs) (upd H1 a (.frz o (.dK kvs)))
theorem V_{l:Expr}{tl:TE}(hl:PE X l tl):PI X tg l (Yy tl):=by
 intro pins s σ H R I h;refine thn (hl pins s σ H _ I h) λv s1 hP=>?_;obtain⟨x,H1,I1,r1,a,kvs,ex,ha,q⟩:=hP;subst ex;cases r1;have ok:=(show dh X.prog X.w H1 s1.heap a (.dK kvs)from I1.hok a _ ha);obtain⟨z,hd,vs,rel,o,es,ep,e,ex,ed,ek,epr,en⟩:=ok;have hD:∀h:Heap,h.get? a=some o->h.DictAt (fL X.prog X.w) a vs ep:=λh e=>⟨o,es,e,ex,ed,ek,epr,en⟩;have I2:Inv X pins σ (upd H1 a (.frz o (.dK kvs))) s1:=by
  have:=I1.write (x:=a) (e:=a) (o:=.frz o (.dK kvs)) (h':=s1.heap) (t':=s1.toks) (by rw[ha];exact True.intro) (.inl rfl) (λb u hb z=>z) ⟨o,e⟩ ⟨e,z,hd,vs,rel,o,es,ep,e,ex,ed,ek,epr,en⟩;exact this
 refine wpAny_pyIter_dict hd (hD _ e) ?_;refine⟨s1.heap.objs.size,[s1.heap.objs.size],_,Itk a o kvs,_,rfl,I2.kept (t':=s1.toks) λb ob z=>aG _ z,Qs _ a o kvs vs ep rel hD,⟨_,aY _ rfl,rfl,rfl⟩,λb hb=>?_,q o⟩;have e:b=s1.heap.objs.size:=by simpa using hb
 subst e;exact I2.fpOk (aF _) (I2.hok.fresh (aF _))
noncomputable def tMG(g:TG):TG:=λv σ H Q=>∃R:L2.St->Hp->Prop,g v σ H R/\∀σ' H',R σ' H'->Q σ' H'
noncomputable def tMT(t:TT):TT:=λσ H Q=>∃R:Bool->Hp->Prop,t σ H R/\∀b H',R b H'->Q b H'
theorem PG.mono{e:Expr}{g:TG}(h:PG X e g):PG X e (tMG g):=λpins s σ H v u Q I r hP=>by obtain⟨R,h1,h2⟩:=hP;exact thn (h pins s σ H v u R I r h1) λ_ s' hP=>by obtain⟨σ',H',I',q⟩:=hP;exact⟨σ',H',I',h2 σ' H' q⟩
theorem PTs.mono{ifs:List Expr}{t:TT}(h:PTs X ifs t):PTs X ifs (tMT t):=λpins s σ H Q I hP=>by obtain⟨R,h1,h2⟩:=hP;exact thn (h pins s σ H R I h1) λb s' hP=>by obtain⟨H',I',q⟩:=hP;exact⟨H',I',h2 b H' q⟩
noncomputable def sO(n:Nat)(gt:TG)(tc:TT)(te:TE)(x:V)(σ:L2.St)(H:Hp)(Y:VK)(No:Hp->Prop):Prop:=∀pre:L2.St,pre.length=n->gt x (pre++σ) H λσ2 H2=>∃pre':L2.St,pre'.length=n/\σ2=pre'++σ/\tc σ2 H2 λb H3 =>
 match b with
 |true=>te σ2 H3 Y
 |false=>No H3
theorem sO.weak{n:Nat}{gt:TG}{tc:TT}{te:TE}{x:V}{σ:L2.St}{H:Hp}{Y Y':VK}{No No':Hp->Prop}(h:sO n gt tc te x σ H Y No)(h1:∀y H',Y y H'->Y' y H')(h2:∀H',No H'->No' H'):sO n (tMG gt) (tMT tc) (tM te) x σ H Y' No':=λpre hp =>
 ⟨_,h pre hp,λσ2 H2 ⟨pre',e1,e2,q⟩=>⟨pre',e1,e2,_,q,λb H3 z=>match b,z with
  |true,z=>⟨_,z,h1⟩
  |false,z=>h2 H3 z⟩⟩
theorem oK{K:Frag}{tl te:TE}{gt:TG}{tc:TT}{n:Nat}{σ:L2.St}{H:Hp}{Q:VK}(h:tl σ H λx H1=>∃a xs,x=.ref a/\H1 a=some (.lst xs)/\xs.length<=sizeLine/\∀D,H1 D=none->∃J:Nat->Μ->Hp->Prop,J 0 [] (upd H1 D (.lst [])) /\
   (∀k x ys Hc,xs[k]?=some x->J k ys Hc->ys.length<=k->Hc a=some (.lst xs)->sO n gt tc te x σ Hc (λy H2=>H2 D=some (.lst ys)/\H2 a=some (.lst xs)/\J (k+1) (ys++[y]) (upd H2 D (.lst (ys++[y])))) λH2=>H2 a=some (.lst xs)/\J (k+1) ys H2) /\
   ∀ys Hc,J xs.length ys Hc->ys.length<=xs.length->Q (.ref D) Hc):iJ (Fg K (tM tl)) n (tMG gt) (tMT tc) (tM te) σ H Q:=by
 refine⟨_,h,?_⟩;rintro x H1 ⟨a,xs,rfl,hx,hz,rest⟩;refine⟨a,rfl,⟨xs,.of hx⟩,λD hD=>?_⟩;obtain⟨J,j0,step,fin⟩:=rest D hD;have ne:a≠D:=bH hx hD;refine⟨λk m ys Hc=>k<=xs.length/\m=xs.length-k/\ys.length<=k/\Hc a=some (.lst xs)/\J k ys Hc,⟨_,bh _,rfl,bh _,(bL ne).trans hx,j0⟩,?_⟩;rintro k m ys Hc ⟨hk,rfl,hy,hx',j⟩;by_cases e:k=xs.length
 .subst e;exact .inl ⟨⟨xs,.of hx',aF _⟩,fin ys Hc j hy⟩
 .have hlt:k<xs.length:=by exact XX hk e
  refine .inr ⟨⟨xs,_,.of hx',aj hlt⟩,?_⟩;rintro x H'' ⟨rfl,y⟩;refine(step k x ys H'' (y xs (.of hx')) j hy hx').weak ?_ ?_
  .rintro yv H2 ⟨z1,z2,z3⟩;refine⟨by lia,z1,xs.length-(k+1),by lia,by exact hlt,rfl,?_,?_,z3⟩
   .rw[aA];simp;omega
   .rw[bL ne];exact z2
  .rintro H2 ⟨z2,z3⟩;exact⟨xs.length-(k+1),by lia,by exact hlt,rfl,by exact aM hy (X2 _ _),z2,z3⟩
theorem JR{tl te:TE}{gt:TG}{tc:TT}{n:Nat}{σ:L2.St}{H:Hp}{Q:VK}(h:tl σ H λx H1=>∃a kvs,x=.ref a/\H1 a=some (.dK kvs)/\kvs.length<=sizeLine/\∀o D,upd H1 a (.frz o (.dK kvs)) D=none->∃J:Nat->Μ->Hp->Prop,J 0 [] (upd (upd H1 a (.frz o (.dK kvs))) D (.lst [])) /\
   (∀i k y ys Hc,kvs[i]?=some (k,y)->J i ys Hc->ys.length<=i->Hc a=some (.frz o (.dK kvs))->sO n gt tc te (kV k) σ Hc (λy H2=>H2 D=some (.lst ys)/\H2 a=some (.frz o (.dK kvs))/\J (i+1) (ys++[y]) (upd H2 D (.lst (ys++[y])))) λH2=>H2 a=some (.frz o (.dK kvs))/\J (i+1) ys H2) /\
   ∀ys Hc,J kvs.length ys Hc->ys.length<=kvs.length->Q (.ref D) Hc):iJ (Yy (tM tl)) n (tMG gt) (tMT tc) (tM te) σ H Q:=by
 refine⟨_,h,?_⟩;rintro x H1 ⟨a,kvs,rfl,hx,hz,rest⟩;refine⟨a,kvs,rfl,hx,λo D hD=>?_⟩;obtain⟨J,j0,step,fin⟩:=rest o D hD;have ne:a≠D:=bH bG hD;refine⟨λk m ys Hc=>k<=kvs.length/\m=kvs.length-k/\ys.length<=k/\Hc a=some (.frz o (.dK kvs))/\J k ys Hc,⟨_,bh _,rfl,bh _,(bL ne).trans bG,j0⟩,?_⟩;rintro k m ys Hc ⟨hk,rfl,hy,hx',j⟩;by_cases e:k=kvs.length
 .subst e;exact .inl ⟨⟨hx',rfl⟩,fin ys Hc j hy⟩
 .have hlt:k<kvs.length:=by exact XX hk e
  refine .inr ⟨⟨hx',hlt⟩,?_⟩;rintro x H'' ⟨rfl,kk,yy,hkk,rfl⟩;refine(step k kk yy ys H'' hkk j hy hx').weak ?_ ?_
  .rintro yv H2 ⟨z1,z2,z3⟩;refine⟨by lia,z1,kvs.length-(k+1),by lia,by exact hlt,rfl,?_,?_,z3⟩
   .rw[aA];simp;omega
   .rw[bL ne];exact z2
  .rintro H2 ⟨z2,z3⟩;exact⟨kvs.length-(k+1),by lia,by exact hlt,rfl,by exact aM hy (X2 _ _),z2,z3⟩
end
theorem Same.tup{K:Frag}{H H':Hp}{a:Addr}{xs:Μ}(e:Same H H')(h:SqT K H a xs):SqT K H' a xs:=by
 rcases h with(h|⟨o,h⟩)|h
 .exact .inl (.inl (e _ _ h))
 .exact .inl (.inr ⟨o,e _ _ h⟩)
 .exact .inr h
theorem SqT.updO{K:Frag}{H:Hp}{a l:Addr}{xs:Μ}{o u:HO}(h:SqT K H a xs)(hl:H l=some o)(h1:∀ys,o≠.tup ys)(h2:∀ob ys,o≠.frz ob (.tup ys)):SqT K (upd H l u) a xs:=by
 rcases h with(h|⟨ob,h⟩)|h
 .exact .inl (.inl ((bL (fH h hl (λz=>h1 xs z.symm))).trans h))
 .exact .inl (.inr ⟨ob,(bL (fH h hl (λz=>h2 ob xs z.symm))).trans h⟩)
 .exact .inr h
mutual
inductive jY(K:Frag)(H:Hp):V->PyData->Prop
 |non:jY K H .non .none
 |bl (b:Bool):jY K H (.bl b) (.bool b)
 |int (i:Int):jY K H (.int i) (.int i)
 |str (x:Str):jY K H (.str x) (.str x)
 |lst {a:Addr}{xs:Μ}{ds:List PyData} : H a=some (.lst xs)->cM K H xs ds->jY K H (.ref a) (.list ds)
 |tup {a:Addr}{xs:Μ}{ds:List PyData} : SqT K H a xs->cM K H xs ds->jY K H (.ref a) (.tuple ds)
inductive cM(K:Frag)(H:Hp):Μ->List PyData->Prop
 |nil:cM K H [] []
 |cons {x:V}{xs:Μ}{d:PyData}{ds:List PyData} : jY K H x d->cM K H xs ds->cM K H (x::xs) (d::ds)
end
mutual
theorem jY.same{K:Frag}{H H':Hp}(S:Same H H'):∀{x:V}{d:PyData},jY K H x d->jY K H' x d
 |_,_,.non=>.non
 |_,_,.bl b=>.bl b
 |_,_,.int i=>.int i
 |_,_,.str x=>.str x
 |_,_,.lst e h=>.lst (S _ _ e) (cM.same S h)
 |_,_,.tup e h=>.tup (S.tup e) (cM.same S h)
theorem cM.same{K:Frag}{H H':Hp}(S:Same H H'):∀{xs:Μ}{ds:List PyData},cM K H xs ds->cM K H' xs ds
 |_,_,.nil=>.nil
 |_,_,.cons h t=>.cons (jY.same S h) (cM.same S t)
end
theorem cM.ints(K:Frag)(H:Hp):∀ns:List Int,cM K H (ns.map V.int) (ns.map PyData.int)
 |[]=>.nil
 |n::ns=>.cons (.int n) (cM.ints K H ns)
section
variable{X:Cx}{pins:Ω}{σ:L2.St}{H:Hp}{s:Shared}
mutual
theorem Inv.readsK(I:Inv X pins σ H s):∀{x:V}{d:PyData}{v:Value},jY X.K H x d->RelV x v->∃as,Reads s.heap v d as
 |_,_,_,.non,r=>by cases r;exact⟨_,.none⟩
 |_,_,_,.bl b,r=>by cases r;exact⟨_,.bool b⟩
 |_,_,_,.int i,r=>by obtain⟨t,rfl⟩:=r;exact⟨_,.int i t⟩
 |_,_,_,.str x,r=>by obtain⟨t,rfl⟩:=r;exact⟨_,.str x t⟩
 |_,_,_,.lst e h,r=>by
  cases r;obtain⟨its,rv,⟨o,ho,hc,n,hd⟩⟩:=I.lstIs e;obtain⟨as,q⟩:=Inv.readsAllK I h rv;exact⟨_,.list ho hc hd q⟩
 |_,_,_,.tup e h,r=>by
  cases r;obtain⟨its,rv,⟨o,ho,hc,n,hd⟩,_⟩:=I.tuple e;obtain⟨as,q⟩:=Inv.readsAllK I h rv;exact⟨_,.tuple ho hc hd q⟩
theorem Inv.readsAllK(I:Inv X pins σ H s):∀{xs:Μ}{ds:List PyData}{vs:Ξ},cM X.K H xs ds->Vals xs vs->∃as,ReadsAll s.heap vs ds as
 |_,_,_,.nil,r=>by cases r;exact⟨_,.nil⟩
 |_,_,_,.cons h t,r=>by
  cases r with
  |cons r1 r2 =>
   obtain⟨a,q1⟩:=Inv.readsK I h r1;obtain⟨b,q2⟩:=Inv.readsAllK I t r2;exact⟨_,.cons q1 q2⟩
end
noncomputable def TJ(K:Frag)(neg:Bool):R2:=λx y H Q=>∃d e,jY K H x d/\jY K H y e/\SeqAt.shaped d=true/\SeqAt.shaped e=true/\Q (.bl (if neg then !PyData.eqv d e else PyData.eqv d e)) H
theorem Zt(hu:X.A.units+64<cLine):OpR X (compareOp .NotEq) (TJ X.K true):=by
 intro pins s σ H x y v u Q I rx ry h;obtain⟨d,e,hd,he,sd,se,q⟩:=h;obtain⟨as,ra⟩:=I.readsK hd rx;obtain⟨bs,rb⟩:=I.readsK he ry;exact SeqAt.compareNe_shaped ra rb sd se hu ⟨.bl _,H,I,rfl,q⟩
end
section
variable{X:Cx}
noncomputable def NT(K:Frag):Μ->Hp->VK->Prop:=λxs H Q=>∃p ys,xs=[.ref p]/\SqT K H p ys/\Q (.int ys.length) H
theorem QB:fY X (.builtin "len") (NT X.K):=qu.imp λxs H Q hP=>by obtain⟨p,ys,a,b,c⟩:=hP;exact⟨p,ys,a,.inr b,c⟩
noncomputable def zG(K:Frag):Μ->Hp->VK->Prop:=λxs H Q=>∃p T ys,xs=[.ref p,.ty T]/\T∈["bool", "int", "str", "list", "tuple", "dict"]/\SqT K H p ys/\Q (.bl (Pr "tuple" T)) H
theorem Jr:fY X (.builtin "isinstance") (zG X.K):=by
 intro pins s σ H xs us Q I r h;obtain⟨p,T,ys,rfl,hT,hp,q⟩:=h;obtain⟨u,v,rfl,ru,rv⟩:=r.two;cases ru;cases rv;obtain⟨its,rvs,⟨o,ho,hc,n,hd⟩,_⟩:=I.tuple hp;refine kia_one (kitx_tuple (a:=p)) I.kIn ⟨o,ho,hc⟩ (NQ (K:=X.K) (t := "tuple") (by decide) hT) (λz=>nomatch z) λtk=>⟨.bl _,H,I.tok _,rfl,q⟩
end
noncomputable def OkI(P:Program)(w:World)(K:Frag)(mg:Str->Ζ)(base:Heap)(CX:CXT)(k:Nat)(f:Addr)(ps:Β)(sp:Sp):Prop:=∃fd,cC P w K mg base CX k f fd ps sp/\Binds K fd ps []
noncomputable def zm(K:Frag)(x qual:Str)(st:Stmt)(ps:Β)(f:Addr):Prop:=∃fd,Fun K x qual st f fd/\∀us:Ξ,us.length=ps.length->bindArgs fd ⟨us,[]⟩=pure (ps.zip us)
theorem zm.ok{P:Program}{w:World}{K:Frag}{mg:Str->Ζ}{base:Heap}{CX:CXT}{k:Nat}{x qual:Str}{st:Stmt}{ps:Β}{f:Addr}{sp:Sp}(h:zm K x qual st ps f)(hf:∀fd,Fun K x qual st f fd->cC P w K mg base CX k f fd ps sp):OkI P w K mg base CX k f ps sp :=
 by obtain⟨fd,a,b⟩:=h;exact⟨fd,hf fd a,.all b⟩
theorem W_{K:Frag}{x qual:Str}{st:Stmt}{ps:Β}{f:Addr}{oc:Value}{od an:Η}{osl:Array (Ζ)}{kV doc pm cdv ct:Value}
 (l:K.lookup f=some ⟨oc,od,.func (PySem.W.fnOf x qual (fM st) (dU st) (bM st) .none kV doc pm an cdv ct),osl⟩)(c:codeIn K cdv qual=true)(k:keepIn K (.ref f)=true)
 (hb:∀(kV doc pm:Value)(an:Η)(cdv ct:Value)(us:Ξ),us.length=ps.length->bindArgs (PySem.W.fnOf x qual (fM st) (dU st) (bM st) .none kV doc pm an cdv ct) ⟨us,[]⟩=pure (ps.zip us)):zm K x qual st ps f :=
 ⟨_,Kz l c k,hb kV doc pm an cdv ct⟩
section
variable{X:Cx}{k:Nat}{f C B:Addr}{ps:Β}{sp:Sp}{x m:Str}{p pos apos:Pos}{e o:Expr}{es:List Expr}{ta:TE}{t:TA}{Ex:Value->Η->L2.St->Hp->Prop}
theorem PE.any{ι:Sort _}{R:ι->Prop}{a:Expr}{ts:ι->TE}(h:∀i,R i->PE X a (ts i)):PE X a (λσ H Q=>∃i,R i/\ts i σ H Q):=λpins s σ H Q I hP=>by obtain⟨i,r,q⟩:=hP;exact h i r pins s σ H Q I q
noncomputable def Ia(C:Addr)(sp:Sp)(Ex:Value->Η->L2.St->Hp->Prop)(t:TA):TE:=λσ H Q=>t σ H λvs H1=>∀x dx,H1 x=none->H1 dx=none->dx≠x->sp (.ref x::vs) (upd (upd H1 dx (.own x)) x (.ins C dx [])) (λv H2=>v=.non/\Q (.ref x) H2) λE d H'=>Ex E d σ H'
theorem J7(M:Mk X.K C f)(G:OkI X.prog X.w X.K X.mg X.base (CXO X.prog X.w) k f ps sp)(hr:eN (k+1) X.A)(hg:Gl X x)(hm:X.mg x=some (.ref C))(hx:HB X Ex)(ha:PA X (e::es) t)(hdb:(x==("__debug__" : Str))=false:=by decide)
 (he:starEach (e::es) X.env=(false,eval e X.env)::starEach es X.env:=by rfl)(hpl:(backTo pos (starEach es X.env)).any (·.1)=false:=by rfl):PE X (.Call (.Name x p) (e::es) [] pos) (Ia C sp Ex t):=by
 obtain⟨fd,F,hb⟩:=G;refine(Te M F hr hg hm hb .nil hx ha.mono hdb he hpl).imp λσ H Q h=>⟨_,h,λvs H1 q x dx h1 h2 h3=>?_⟩;rw[List.append_nil];exact q x dx h1 h2 h3
noncomputable def BZ(C:Addr)(m:Str)(sp:Sp)(ta:TE)(t:TA):TE:=λσ H Q=>ta σ H λx H1=>∃a dx fs,x=.ref a/\H1 a=some (.ins C dx fs)/\fs.lookup m=none/\t σ H1 λvs H2=>sp (x::vs) H2 Q E0
theorem wO{pl:Sem Bool}(he:PE X o ta)(c:Cls X.K C)(hm:Meth X.K C m f)(G:OkI X.prog X.w X.K X.mg X.base CX0 k f ps sp)(hr:eN k X.A)(ha:PA X (e::es) t)
 (hst:starEach (e::es) X.env=(false,eval e X.env)::starEach es X.env:=by rfl)(hpl:(backTo pos (starEach es X.env)).any (·.1)=false:=by rfl)
 (ht:eval (.Call (.Attribute o m apos) (e::es) [] pos) X.env=(do
   let ov <- eval o X.env
   standAt apos.atName
   let(f,first) <- holding [ov] (getMethod ov m pl)
   callWith pos f first (backTo pos (starEach (e::es) X.env)) (backToKw pos (keywordEach [] X.env))):=by rfl) :
  PE X (.Call (.Attribute o m apos) (e::es) [] pos) (BZ C m sp ta t):=by
 obtain⟨fd,F,hb⟩:=G;refine(XH (pl:=pl) he.mono c hm F hr hb .nil M7 ha.mono hst hpl ht).imp λσ H Q h=>⟨_,h,?_⟩;rintro x H1 ⟨a,dx,fs,h1,h2,h3,h4⟩;refine⟨a,dx,fs,h1,h2,h3,_,h4,λvs H2 q=>?_⟩;show sp (x::(vs++[])) H2 Q E0;rw[List.append_nil];exact q
theorem tD{pl:Sem Bool}(he:PE X o ta)(c:Cls X.K C)(hm:Meth X.K C m f)(G:OkI X.prog X.w X.K X.mg X.base CX0 k f ps sp)(hr:eN k X.A)
 (ht:eval (.Call (.Attribute o m apos) [] [] pos) X.env=(do
   let ov <- eval o X.env
   standAt apos.atName
   let(f,first) <- holding [ov] (getMethod ov m pl)
   callWith pos f first (backTo pos (starEach [] X.env)) (backToKw pos (keywordEach [] X.env))):=by rfl) :
  PE X (.Call (.Attribute o m apos) [] [] pos) (BZ C m sp ta Ei):=by
 obtain⟨fd,F,hb⟩:=G;refine(U_ (pl:=pl) he.mono c hm F hr hb .nil M7 ht).imp λσ H Q h=>⟨_,h,?_⟩;rintro x H1 ⟨a,dx,fs,h1,h2,h3,h4⟩;exact⟨a,dx,fs,h1,h2,h3,h4⟩
theorem Ue{pl:Sem Bool}(c:Ey X.K B m f)(G:OkI X.prog X.w X.K X.mg X.base (CXO X.prog X.w) k f ps sp)(hr:eN k X.A)(hg:Gl X x)(hm:X.mg x=some (.ref B))(hx:HB X Ex)(ha:PA X (e::es) t)(hdb:(x==("__debug__" : Str))=false:=by decide)
 (hst:starEach (e::es) X.env=(false,eval e X.env)::starEach es X.env:=by rfl)(hpl:(backTo pos (starEach es X.env)).any (·.1)=false:=by rfl)
 (ht:eval (.Call (.Attribute (.Name x p) m apos) (e::es) [] pos) X.env=(do
   let ov <- eval (.Name x p) X.env
   standAt apos.atName
   let(f,first) <- holding [ov] (getMethod ov m pl)
   callWith pos f first (backTo pos (starEach (e::es) X.env)) (backToKw pos (keywordEach [] X.env))):=by rfl) :
  PE X (.Call (.Attribute (.Name x p) m apos) (e::es) [] pos) (xY sp Ex t):=by
 obtain⟨fd,F,hb⟩:=G;exact Ti (pl:=pl) c F hr hg hm hb hx ha hdb hst hpl ht
theorem iW{D:Addr}{pos:Pos}(hg:Gl X x)(hm:X.mg x=some (.ref D))(hd:(x==("__debug__" : Str))=false:=by decide):PE X (.Name x pos) (tC (.ref D)):=N7 hg hm rfl hd
end
theorem Hl{X:Cx}{K:Frag}(e:X.K=K)(hu:X.A.units+64<cLine):OpR X (compareOp .NotEq) (TJ K true):=e ▸ Zt hu
noncomputable def Itp(a:Addr)(o:Obj)(kvs:List (Key×V)):It:=⟨λi H=>H a=some (.frz o (.dK kvs))/\i<kvs.length,λi H v H'=>∃k y t,kvs[i]?=some (k,y)/\H t=none/\v=.ref t/\H'=upd H t (.tup [kV k,y]),λi H=>H a=some (.frz o (.dK kvs))/\i=kvs.length⟩
theorem Ah:entryFor table "dict_itemiterator.__iter__" = some Builtin.«dict_keyiterator.__iter__»:=entryFor_alias (id' := "dict_keyiterator.__iter__") (by kernel_rfl) rfl (by decide +kernel) (by kernel_rfl)
theorem Ld{P:Program}{w:World}{A:Around}{E:Κ}{s:Shared}{it d:Addr}{i n ep:Nat}{ok ov:Value}{Q:Κ}(st:IsItemIter s.heap it d i n ep ok ov)(q:Q (.ref it) s):wpAny (model P w) A (pyIter (.ref it)) Q E s:=by
 have ty:s.TypeIs (.ref it) "dict_itemiterator" := ⟨_,st,rfl⟩;exact wpAny_pyIter_slot ty F.slot_dict_itemiterator_iter (wpAny_call_entry F.slot_dict_itemiterator_iter ty Ah (ZT ⟨_,rfl, "dict_itemiterator",_,ty,F.slot_dict_itemiterator_next.lookup,q⟩) (F.args_dict_itemiterator_iter_1 _))
theorem yp{h:Heap}{o ob:Obj}{b:Addr}(e:(h.push o).get? b=some ob)(hs:b≠h.objs.size):h.get? b=some ob:=by
 obtain⟨e1,e2⟩:=Heap.get?_some_iff.mp e;refine Heap.get?_some_iff.mpr ⟨?_,e2⟩;cases h;simpa[Heap.push,Array.getElem?_push,hs]using e1
theorem Kw{P:Program}{w:World}{K:Frag}{elts:List Expr}{x1}{pos:Pos}(it a:Addr)(o:Obj)(kvs:List (Key×V))(vs:List (Key×Value))(ep:Nat)(rel:KV kvs vs)(hD:∀h:Heap,h.get? a=some o->h.DictAt (fL P w) a vs ep) :
  Turn P w K (.Tuple elts x1 pos) (Itp a o kvs) [it] it (λi h=>∃ok ov,IsItemIter h it a i vs.length ep ok ov) where
 mem:=by simp
 obj:=by
  rintro i h ⟨ok,ov,st⟩ b hb;have e:b=it:=by simpa using hb
  subst e;exact⟨_,st,λv z=>by cases z⟩
 keep:=λi h h' ⟨ok,ov,st⟩ k=>⟨ok,ov,k it (by simp) _ st⟩
 item:=by
  intro X hP hw hK hc i pins s σ H E I hf st hg;subst hP hw hK;obtain⟨ok,ov,st⟩:=st;obtain⟨hg,hlt⟩:=hg;obtain⟨ho,_⟩:=(show dh X.prog X.w H s.heap a (.frz o (.dK kvs))from I.hok a _ hg);obtain⟨f0,f1,f2,f3,f4,f5⟩:=hf it (by simp);obtain⟨⟨k,y⟩,hx⟩ : ∃p,kvs[i]?=some p:=⟨kvs[i],by simp[hlt]⟩;obtain⟨u,hu,ru⟩:=rel.at hx;refine wpAny_pyNext_items_item st (hD _ ho) hu λkey h' hkey out ht hz hk=>⟨_,rfl,?_⟩;refine wpAny_letOwnedTupleGo_items out λh2 st2 sb=>?_;have nt:H s.heap.objs.size=none:=I.fresh;have ne:it≠s.heap.objs.size:=aR (aJ st);have I1:=I.laid (a:=s.heap.objs.size) (o:=.tup [kV k,y]) (h':=s.heap.push { cls:=.type "tuple",data:=.seq #[key,u] }) (t':=s.toks) (λb q z=>aG _ z) (aF _)
   ⟨(by show 2<=sizeLine;decide),[key,u],.cons (Yw hkey) (.cons ru .nil),_,aY _ rfl,rfl,_,rfl⟩
  have I2:=I1.turned (it:=it) (h':=h2) (t':=s.toks) (λb ob hb e=>by
   refine(sb.2 b hb).trans ?_;by_cases hs:b=s.heap.objs.size
   .subst hs;have e2:=aY s.heap (o:={ cls:=.type "tuple",data:=.seq #[key,u] }) rfl;have e:(s.heap.push { cls:=.type "tuple",data:=.seq #[key,u] }).get? s.heap.objs.size=some ob:=e;rw[e2]at e;cases e;exact ht
   .exact hk b _ hb (yp e hs)) ((bL ne).trans f0) f1 f3 f4 f5
  exact⟨.ref _,_,I2,rfl,⟨k,y,_,hx,nt,rfl,rfl⟩,⟨_,_,st2⟩,λb hb=>by
   have e:b=it:=by simpa using hb
   subst e;exact(bL ne).trans f0⟩
 done:=by
  intro X hP hw hK hc i pins s σ H E I hf st hg;subst hP hw hK;obtain⟨ok,ov,st⟩:=st;obtain⟨hg,rfl⟩:=hg;obtain⟨ho,_⟩:=(show dh X.prog X.w H s.heap a (.frz o (.dK kvs))from I.hok a _ hg);obtain⟨f0,f1,f2,f3,f4,f5⟩:=hf it (by simp);have hl:=rel.length;exact wpAny_pyNext_items_end (I.ok.hd hc) st (hD _ ho) (by simp;exact Nat.le_of_eq (Eq.symm hl)) λh' eb=>⟨rfl,I.turned (t':=s.toks) (λb ob hb e=>eb b ob hb e) f0 f1 f3 f4 f5⟩
 self:=λ_ _ _ _ _ ⟨_,_,st⟩ h=>Ld st h
section
variable{X:Cx}
noncomputable def Ui(te:TE):TI:=λσ H R=>te σ H λx H1=>∃a kvs,x=.ref a/\H1 a=some (.dK kvs)/\∀o,R (Itp a o kvs) (upd H1 a (.frz o (.dK kvs)))
theorem T3{l:Expr}{tl:TE}{elts:List Expr}{x1}{tpos apos pos:Pos}(hl:PE X l tl)(hb:attributeBase l "items" X.env (eval l X.env)=eval l X.env)(hn:(apos.endLine==pos.line)=true):PI X (.Tuple elts x1 tpos) (.Call (.Attribute l "items" apos) [] [] pos) (Ui tl):=by
 intro pins s σ H R I h;refine wpAny_Call_method (T := "dict") (id := "dict.items") hb rfl hn PySem.F.plainAttrs_dict PySem.F.slot_dict_items PySem.F.type_dict_items (thn (hl pins s σ H _ I h) λv s1 hP=>?_);obtain⟨x,H1,I1,r1,a,kvs,ex,ha,q⟩:=hP;subst ex;cases r1;have ok:=(show dh X.prog X.w H1 s1.heap a (.dK kvs)from I1.hok a _ ha);obtain⟨z,hd,vs,rel,o,es,ep,e,ex,ed,ek,epr,en⟩:=ok;have hD:∀h:Heap,h.get? a=some o->h.DictAt (fL X.prog X.w) a vs ep:=λh e=>⟨o,es,e,ex,ed,ek,epr,en⟩;have I2:Inv X pins σ (upd H1 a (.frz o (.dK kvs))) s1:=by
  have:=I1.write (x:=a) (e:=a) (o:=.frz o (.dK kvs)) (h':=s1.heap) (t':=s1.toks) (by rw[ha];exact True.intro) (.inl rfl) (λb u hb z=>z) ⟨o,e⟩ ⟨e,z,hd,vs,rel,o,es,ep,e,ex,ed,ek,epr,en⟩;exact this
 have hm:s1.heap.DictOf (fL X.prog X.w) a vs:=⟨o,es,ep,e,ex,ed,ek,epr,en⟩;refine⟨hm.typeIs,hm.mapOf.noDict,?_⟩;refine method_meetsIn PySem.F.slot_dict_items PySem.F.entry_dict_items rfl (PySem.evalArgs_none ⟨rfl,hm.typeIs,PySem.F.args_dict_items_1 _,_,meets_dict_items (fL X.prog X.w) a hd,⟨vs,hm⟩,?_⟩);have I3:Inv X pins σ (upd H1 a (.frz o (.dK kvs))) { s1 with heap:=s1.heap.push { cls:=.type "dict_items",data:=.fields #[.ref a] } }:=I2.kept (t':=s1.toks) λb ob z=>aG _ z;refine wpAny_pyIter_items ⟨_,aY _ rfl,rfl,rfl⟩ (hD _ (aG _ e)) ?_;refine⟨_,[_],_,Itp a o kvs,_,rfl,I3.kept (t':=s1.toks) λb ob z=>aG _ z,Kw _ a o kvs vs ep rel hD,⟨_,_,aY _ rfl⟩,λb hb=>?_,q o⟩;rw[YR.mp hb];exact I3.fpOk (aF _) (I3.hok.fresh (aF _))
theorem IV{tl te:TE}{gt:TG}{tc:TT}{n:Nat}{σ:L2.St}{H:Hp}{Q:VK}(h:tl σ H λx H1=>∃a kvs,x=.ref a/\H1 a=some (.dK kvs)/\kvs.length<=sizeLine/\∀o D,upd H1 a (.frz o (.dK kvs)) D=none->∃J:Nat->Μ->Hp->Prop,J 0 [] (upd (upd H1 a (.frz o (.dK kvs))) D (.lst [])) /\
   (∀i k y ys Hc t,kvs[i]?=some (k,y)->J i ys Hc->ys.length<=i->Hc t=none->Hc a=some (.frz o (.dK kvs))->sO n gt tc te (.ref t) σ (upd Hc t (.tup [kV k,y])) (λy H2=>H2 D=some (.lst ys)/\H2 a=some (.frz o (.dK kvs))/\J (i+1) (ys++[y]) (upd H2 D (.lst (ys++[y])))) λH2=>H2 a=some (.frz o (.dK kvs))/\J (i+1) ys H2) /\
   ∀ys Hc,J kvs.length ys Hc->ys.length<=kvs.length->Q (.ref D) Hc):iJ (Ui (tM tl)) n (tMG gt) (tMT tc) (tM te) σ H Q:=by
 refine⟨_,h,?_⟩;rintro x H1 ⟨a,kvs,rfl,hx,hz,rest⟩;refine⟨a,kvs,rfl,hx,λo D hD=>?_⟩;obtain⟨J,j0,step,fin⟩:=rest o D hD;have ne:a≠D:=bH bG hD;refine⟨λk m ys Hc=>k<=kvs.length/\m=kvs.length-k/\ys.length<=k/\Hc a=some (.frz o (.dK kvs))/\J k ys Hc,⟨_,bh _,rfl,bh _,(bL ne).trans bG,j0⟩,?_⟩;rintro k m ys Hc ⟨hk,rfl,hy,hx',j⟩;by_cases e:k=kvs.length
 .subst e;exact .inl ⟨⟨hx',rfl⟩,fin ys Hc j hy⟩
 .have hlt:k<kvs.length:=by exact XX hk e
  refine .inr ⟨⟨hx',hlt⟩,?_⟩;rintro x H'' ⟨kk,yy,t,hkk,ht,rfl,rfl⟩;refine(step k kk yy ys Hc t hkk j hy ht hx').weak ?_ ?_
  .rintro yv H2 ⟨z1,z2,z3⟩;refine⟨by lia,z1,kvs.length-(k+1),by lia,by exact hlt,rfl,?_,?_,z3⟩
   .rw[aA];simp;omega
   .rw[bL ne];exact z2
  .rintro H2 ⟨z2,z3⟩;exact⟨kvs.length-(k+1),by lia,by exact hlt,rfl,by exact aM hy (X2 _ _),z2,z3⟩
end
section
variable{X:Cx}
noncomputable def rJoin:V->Μ->Hp->VK->Prop:=λx vs H Q=>∃a l ys,x=.str a/\vs=[.ref l]/\H l=some (.lst (ys.map V.str))/\(ys.map (·.length)).sum+ys.length*a.length<=16777216/\Q (.str (Txt.join a ys)) H
structure adU(K:Frag)(C:Addr):Prop where
 ha:findIn K (.ref C) "__class__" = some (some (.builtin "object.__class__"))
 hn:specialIn K (.builtin "object.__class__") "__get__" = some (some (.builtin "getset_descriptor.__get__"))
 tk:takesIn K (.builtin "object.__class__")=some true
 hm:mroIn K C (.type "object")=some true
noncomputable def T9(K:Frag):Μ->Hp->VK->Prop:=λxs H Q=>∃a D C dx fs b,xs=[.ref a,.ref D]/\H a=some (.ins C dx fs)/\Cls K C/\adU K C/\kitOne K (.ref C) (.ref D)=some b/\Q (.bl b) H
noncomputable def Vf:Μ->Hp->VK->Prop:=λxs H Q=>∃i j,xs=[.int i,.int j]/\Q (.int (if j<i then j else i)) H
noncomputable def RZ:Μ->Hp->VK->Prop:=λxs H Q=>∃i j,xs=[.int i,.int j]/\Q (.int (if j>i then j else i)) H
end
section
variable{X:Cx}{elt iter:Expr}{pos:Pos}{scope:Scope}{wi:TI}{te:TE}
theorem Rw{i0:Nat}{y0:Str}{py spos:Pos}{xs N':Β}{tg:Expr}{ifs:List Expr}{gt:TG}{tc:TT}(hc:X.calm=true)(hsh:En xs X.N=N')(hN:(xs++N').Nodup)(hkind:scope.kind=.function)(hcell:∀y∈scope.names,y.2≠.cell)(hnames:∀y∈scope.names,y.2=.local->scope.names.lookup y.1=some .local)
 (hfree:∀y∈scope.names,y.2=.free->X.env.kindOf y.1=some .cell\/X.env.kindOf y.1=some .free)(hloc:∀y∈X.N,y∉xs->(relabel scope X.env).names.lookup y≠some .local)(hq:∀y∈X.N,y∈xs->(relabel scope X.env).names.lookup (hid y)=none)(hi:PI X tg iter wi)
 (hg:∀C s₀ H₀ ex pn,PG (X.compG N' scope xs C s₀ H₀ ex pn) tg gt)(ht:∀C s₀ H₀ ex pn,PTs (X.compG N' scope xs C s₀ H₀ ex pn) ifs tc)(he:∀C s₀ H₀ ex pn,PE (X.compG N' scope xs C s₀ H₀ ex pn) elt te)(hgy:PG X (.Name y0 py) (cB i0))(hsw:swapsWith (.ListComp elt [⟨tg,iter,ifs,0⟩] scope pos) (some (.Name y0 py)) spos.line X.env=pure true)(hs:∀z,foldedSetIterable iter X.env z=pure z:=by intro _;rfl) :
  PS X (.Assign [.Name y0 py] (.ListComp elt [⟨tg,iter,ifs,0⟩] scope pos) spos) (Eh (iJ wi xs.length gt tc te) (cB i0)):=by
 intro pins s σ H D0 I h;have h:iJ wi xs.length gt tc te σ H (λx H1=>cB i0 x σ H1 D0.nx):=h;rw[exec_Assign_Name_used _ _ _ _ hsw];refine ZU (wpAny_standAt (ZU ?_));show wpAny _ X.A (comprehension (.ListComp elt [⟨tg,iter,ifs,0⟩] scope pos) scope X.env _ (newList []) false (eval iter X.env) (some (assign (.Name y0 py) X.env)) >>= λ_=>_) _ _ s;refine ZU (wpAny_mono (BX (use:=some (assign (.Name y0 py) X.env)) (post:=λ_ s'=>SP X pins D0 .next s') hc hsh hN hkind hcell hnames hfree hloc hq hi hg ht he hs I h λC D Hc s6 m fl hn6 I6 fC qn=>?_) (λ_ s' hq=>ZT (ZT hq)) λ_ _ e=>e);obtain⟨oc,es,ep,ho,hdat,_⟩:=id hn6;have I7:=I6.pinned (fp:=[C]) (λb hb=>by rw[YR.mp hb];exact fC) λb hb=>by
  rw[YR.mp hb];exact⟨oc,ho,λv z=>by rw[hdat]at z;cases z⟩
 show wpAny _ X.A (assign (.Name y0 py) X.env _) _ _ s6;refine thn (hgy _ s6 σ Hc (.ref D) _ D0.nx I7 rfl qn) λ_ s7 hP=>?_;obtain⟨σ7,H7,Z7,q7⟩:=hP;have pn7:=Z7.pin (C,oc) (aQ _ (aQ _ (ni (by simp) ho)));refine⟨m,hn6.at' λo e=>?_,λh' hs'=>⟨σ7,H7,Z7.unpinned.turned (it:=C) (h':=h') (t':=s7.toks) (λb o hb e=>(hs'.2 b hb).trans e) pn7.2.1 fC.2.1 fC.2.2.2.1 fC.2.2.2.2.1 fC.2.2.2.2.2,q7⟩⟩;rw[ho]at e;cases e;exact pn7.1
theorem Ut{te:TE}{x:V}{σ:L2.St}{H:Hp}{Y:VK}{No:Hp->Prop}(h:te (some x::σ) H Y):sO 1 (cB 0) Lg te x σ H Y No:=λpre hp=>by
 obtain⟨u,rfl⟩:=List.length_eq_one_iff.mp hp;exact⟨[some x],rfl,rfl,h⟩
theorem mJ{K:Frag}{tl te:TE}{σ:L2.St}{H:Hp}{Q:VK}(h:tl σ H λx H1=>∃a xs,x=.ref a/\H1 a=some (.lst xs)/\xs.length<=sizeLine/\∀D,H1 D=none->∃J:Nat->Μ->Hp->Prop,J 0 [] (upd H1 D (.lst [])) /\
   (∀k x ys Hc,xs[k]?=some x->J k ys Hc->ys.length=k->Hc a=some (.lst xs)->te (some x::σ) Hc λy H2=>H2 D=some (.lst ys)/\H2 a=some (.lst xs)/\J (k+1) (ys++[y]) (upd H2 D (.lst (ys++[y])))) /\
   ∀ys Hc,J xs.length ys Hc->ys.length=xs.length->Q (.ref D) Hc):iJ (Fg K (tM tl)) 1 (tMG (cB 0)) (tMT Lg) (tM te) σ H Q:=by
 refine⟨_,h,?_⟩;rintro x H1 ⟨a,xs,rfl,hx,hz,rest⟩;refine⟨a,rfl,⟨xs,.of hx⟩,λD hD=>?_⟩;obtain⟨J,j0,step,fin⟩:=rest D hD;have ne:a≠D:=bH hx hD;refine⟨λk m ys Hc=>k<=xs.length/\m=xs.length-k/\ys.length=k/\Hc a=some (.lst xs)/\J k ys Hc,⟨_,bh _,rfl,rfl,(bL ne).trans hx,j0⟩,?_⟩;rintro k m ys Hc ⟨hk,rfl,hy,hx',j⟩;by_cases e:k=xs.length
 .subst e;exact .inl ⟨⟨xs,.of hx',aF _⟩,fin ys Hc j hy⟩
 .have hlt:k<xs.length:=by exact XX hk e
  refine .inr ⟨⟨xs,_,.of hx',aj hlt⟩,?_⟩;rintro x H'' ⟨rfl,y⟩;refine(Ut (No:=λ_=>False) (step k x ys H'' (y xs (.of hx')) j hy hx')).weak ?_ (λ_ z=>z.elim);rintro yv H2 ⟨z1,z2,z3⟩;refine⟨by lia,z1,xs.length-(k+1),by lia,by exact hlt,rfl,?_,?_,z3⟩
  .rw[aA,hy];rfl
  .rw[bL ne];exact z2
theorem KC{te:TE}{σ:L2.St}{H:Hp}{Q:VK}{lo:Int}{n:Nat}(hn:n<=64)(rest:∀D,H D=none->∃J:Nat->Μ->Hp->Prop,J 0 [] (upd H D (.lst []))/\(∀k ys Hc,k<n->J k ys Hc->ys.length=k->te (some (.int (lo+k))::σ) Hc λy H2=>H2 D=some (.lst ys)/\J (k+1) (ys++[y]) (upd H2 D (.lst (ys++[y]))))/\∀ys Hc,J n ys Hc->ys.length=n->Q (.ref D) Hc) :
  ∀D,H D=none->∃W:Nat->Nat->Μ->Hp->Prop,(∃m,W 0 m [] (upd H D (.lst [])))/\∀i m ys Hc,W i m ys Hc->((Itr lo n).stop i Hc/\Q (.ref D) Hc)\/((Itr lo n).go i Hc/\∀x H',(Itr lo n).yld i Hc x H'->sO 1 (tMG (cB 0)) (tMT Lg) (tM te) x σ H' (λy H2=>ys.length<sizeLine/\H2 D=some (.lst ys)/\∃m',m'<m/\W (i+1) m' (ys++[y]) (upd H2 D (.lst (ys++[y])))) λH3=>∃m',m'<m/\W (i+1) m' ys H3):=by
 intro D hD;obtain⟨J,j0,step,fin⟩:=rest D hD;have hz:64<=sizeLine:=by decide
 refine⟨λk m ys Hc=>k<=n/\m=n-k/\ys.length=k/\J k ys Hc,⟨_,bh _,rfl,rfl,j0⟩,?_⟩;rintro k m ys Hc ⟨hk,rfl,hy,j⟩;by_cases e:k=n
 .subst e;exact .inl ⟨aF _,fin ys Hc j hy⟩
 .have hlt:k<n:=by exact XX hk e
  refine .inr ⟨hlt,?_⟩;rintro x H'' ⟨rfl,rfl⟩;refine(Ut (No:=λ_=>False) (step k ys H'' hlt j hy)).weak ?_ (λ_ z=>z.elim);rintro yv H2 ⟨z1,z2⟩;exact⟨by lia,z1,n-(k+1),by lia,by exact hlt,rfl,by rw[aA,hy];rfl,z2⟩
theorem yP{ta:TA}{te:TE}{σ:L2.St}{H:Hp}{Q:VK}(h:ta σ H λvs H1=>∃n:Nat,vs=[.int n]/\n<=64/\∀D,H1 D=none->∃J:Nat->Μ->Hp->Prop,J 0 [] (upd H1 D (.lst []))/\(∀(k:Nat)ys Hc,k<n->J k ys Hc->ys.length=k->te (some (.int k)::σ) Hc λy H2=>H2 D=some (.lst ys)/\J (k+1) (ys++[y]) (upd H2 D (.lst (ys++[y]))))/\∀ys Hc,J n ys Hc->ys.length=n->Q (.ref D) Hc) :
  iJ (N8 (tMA ta)) 1 (tMG (cB 0)) (tMT Lg) (tM te) σ H Q:=by
 refine⟨_,h,?_⟩;rintro vs H1 ⟨n,rfl,hn,rest⟩;refine⟨n,rfl,by lia,by lia,?_⟩;rw[Int.toNat_natCast];refine KC hn λD hD=>?_;obtain⟨J,j0,step,fin⟩:=rest D hD;exact⟨J,j0,λk ys Hc h1 h2 h3=>by rw[Int.zero_add];exact step k ys Hc h1 h2 h3,fin⟩
end
theorem cC.wild{P:Program}{w:World}{K:Frag}{mg:Str->Ζ}{base:Heap}{k:Nat}{f:Addr}{fd:FuncData}{ps:Β}{sp:Sp}(F:cC P w K mg base CX0 k f fd ps sp):cC P w K mg base (CXO P w) k f fd ps sp:=by
 refine⟨F.len,λA outer s H args us vs Q E hr e0 hb r h=>?_⟩;refine codeAny_mono (F.run A outer s H args us vs Q E hr e0 hb r h) λres s' hs=>?_;cases res with
 |error e=>exact False.elim hs
 |ok fl =>
  cases fl with
  |ret u=>exact hs
  |next=>exact hs
  |brk=>exact hs
  |cont=>exact hs
theorem OkF.wild{P:Program}{w:World}{K:Frag}{mg:Str->Ζ}{base:Heap}{k:Nat}{x:Str}{ps:Β}{sp:Sp}(F:OkF P w K mg base k x ps sp):OkX P w K mg base k x ps sp:=by obtain⟨f,fd,a,b⟩:=F;exact⟨f,fd,a.wild,b⟩
section
variable{X:Cx}{pins:Ω}{σ:L2.St}{H:Hp}{s:Shared}{h':Heap}
theorem Inv.turnedL{t':Nat}{ch:Ε}(I:Inv X pins σ H s)(k:∀b o,b∉ch->s.heap.get? b=some o->h'.get? b=some o)(hf:∀b∈ch,yZ X pins H b):Inv X pins σ H { s with heap:=h',toks:=t' }:=by
 have nit:∀b u,H b=some u->b∉ch:=λb u e z=>by rw[(hf b z).1]at e;cases e
 refine I.step (g':=s.gens) (d':=s.drawn) (ch:=ch) (λb hb=>⟨(hf b hb).2.2.2.1,(hf b hb).2.1,(hf b hb).2.2.2.2.1,(hf b hb).2.2.2.2.2⟩) (λb o _ _ hc e _=>k b o hc e) (λb o _ _ hc e _=>⟨o.slots,k b o hc e⟩) (λ_ _ _ _ n=>n) (λb o hc e=>⟨o,k b o hc e⟩) (λ_ _ e=>e) (λ_ _ _ e=>e) (λb ps e=>⟨#[],by rw[e];simp⟩) (λm hm=>?_) (λb u e=>?_) I.bare
 .obtain⟨o,es,ep,ho,r⟩:=hm;exact⟨o,es,ep,k _ o (λz=>(hf _ z).2.1 rfl) ho,r⟩
 .refine(I.hok b u e).stay (λc v hc q=>k c v ?_ q) (λ_ q=>q) λ_ _ q=>q;rcases hc with z|z
  .rw[z];exact nit b u e
  .exact nit c _ z
end
noncomputable def Itz(a b:Addr):It:=⟨λi H=>∃xs ys,H a=some (.lst xs)/\H b=some (.lst ys)/\i<xs.length/\i<ys.length,λi H v H'=>∃xs ys x y t,H a=some (.lst xs)/\H b=some (.lst ys)/\xs[i]?=some x/\ys[i]?=some y/\H t=none/\v=.ref t/\H'=upd H t (.tup [x,y]),λi H=>∃xs ys,H a=some (.lst xs)/\H b=some (.lst ys)/\(xs.length<=i\/ys.length<=i)⟩
theorem mZ{h g:Heap}{a l:Addr}{i:Nat}(x:h.IsListIter a l i)(k:∀o,h.get? a=some o->g.get? a=some o):g.IsListIter a l i:=by obtain⟨o,e,r⟩:=x;exact⟨o,k o e,r⟩
theorem zV{xs:Μ}{vs:Ξ} : Vals xs vs->∀{i:Nat}{x:V},xs[i]?=some x->∃u,vs[i]?=some u/\RelV x u:=by
 intro h
 induction h with
 |nil=>intro i x e;cases e
 |cons a b ih =>
  intro i x e;cases i with
  |zero=>rw[List.getElem?_cons_zero]at e;cases e;exact⟨_,rfl,a⟩
  |succ i=>rw[List.getElem?_cons_succ]at e ⊢;exact ih e
theorem RV{P:Program}{w:World}{K:Frag}{elts:List Expr}{x1}{pos:Pos}(z TI TO i1 i2 l1 l2:Addr)(D:ZipApart z TI TO i1 i2 l1 l2) :
  Turn P w K (.Tuple elts x1 pos) (Itz l1 l2) [z,TI,TO,i1,i2] z (λi h=>IsZip h z TI TO .none/\IsPair h TI (.ref i1) (.ref i2)/\(∃p q,IsPair h TO p q)/\h.IsListIter i1 l1 i/\h.IsListIter i2 l2 i) where
 mem:=by simp
 obj:=by
  rintro i h ⟨s1,s2,⟨p,q,s3⟩,⟨o4,s4,_,d4⟩,⟨o5,s5,_,d5⟩⟩ b hb;simp only[YU,List.not_mem_nil,or_false]at hb;rcases hb with rfl|rfl|rfl|rfl|rfl
  .exact⟨_,s1,λv e=>by cases e⟩
  .exact⟨_,s2,λv e=>by cases e⟩
  .exact⟨_,s3,λv e=>by cases e⟩
  .exact⟨_,s4,λv e=>by rw[d4]at e;cases e⟩
  .exact⟨_,s5,λv e=>by rw[d5]at e;cases e⟩
 keep:=λi h h' ⟨s1,s2,⟨p,q,s3⟩,s4,s5⟩ k=>⟨k z (by simp) _ s1,k TI (by simp) _ s2,⟨p,q,k TO (by simp) _ s3⟩,mZ s4 (k i1 (by simp)),mZ s5 (k i2 (by simp))⟩
 item:=by
  intro X hP hw hK hc i pins s σ H E I hf st hg;subst hP hw hK;obtain⟨s1,s2,⟨p,q,s3⟩,s4,s5⟩:=st;obtain⟨xs,ys,ha,hb,lt1,lt2⟩:=hg;obtain⟨_,it1,n1,rv1,le1,g1⟩:=I.lstM ha;obtain⟨_,it2,n2,rv2,le2,g2⟩:=I.lstM hb;have ex:xs[i]?=some xs[i]:=aj lt1;have ey:ys[i]?=some ys[i]:=aj lt2;obtain⟨u,hu,ru⟩:=zV rv1 ex;obtain⟨v,hv,rv⟩:=zV rv2 ey;refine wpAny_pyNext_zip_item D s1 s2 s3 s4 s5 (xs:=it1.toArray) (ys:=it2.toArray) ⟨_,g1,rfl,n1,rfl⟩ ⟨_,g2,rfl,n2,rfl⟩ (x:=u) (y:=v) (by simpa using hu) (by simpa using hv) λh' a1 a2 a3 a4 a5 a6 a7=>⟨_,rfl,?_⟩;refine wpAny_letOwnedTupleGo_zip a1 λh2 st2 sb=>?_;have nt:H s.heap.objs.size=none:=I.fresh;have I1:=I.laid (a:=s.heap.objs.size) (o:=.tup [xs[i],ys[i]]) (h':=s.heap.push { cls:=.type "tuple",data:=.seq #[u,v] }) (t':=s.toks) (λb q z=>aG _ z) (aF _)
   ⟨(by show 2<=sizeLine;decide),[u,v],.cons ru (.cons rv .nil),_,aY _ rfl,rfl,_,rfl⟩
  have nz:z≠s.heap.objs.size:=aR (aJ s1);have nO:TO≠s.heap.objs.size:=aR (aJ s3);have nI:TI≠s.heap.objs.size:=aR (aJ s2);have n1':i1≠s.heap.objs.size:=by obtain⟨o,e,_⟩:=s4;exact aR (aJ e)
  have n2':i2≠s.heap.objs.size:=by obtain⟨o,e,_⟩:=s5;exact aR (aJ e)
  have fpn:∀b∈[z,TI,TO,i1,i2],upd H s.heap.objs.size (.tup [xs[i],ys[i]]) b=none:=by
   intro b hb;have f0:=(hf b hb).1;simp only[YU,List.not_mem_nil,or_false]at hb;rcases hb with rfl|rfl|rfl|rfl|rfl
   .exact(bL nz).trans f0
   .exact(bL nI).trans f0
   .exact(bL nO).trans f0
   .exact(bL n1').trans f0
   .exact(bL n2').trans f0
  have I2:=I1.turnedL (ch:=[z,TO,i1,i2]) (h':=h2) (t':=s.toks) (λb ob hb e=>by
   simp only[YU,List.not_mem_nil,or_false,not_or]at hb;obtain⟨b1,b2,b3,b4⟩:=hb;refine(sb.2 b b1).trans ?_;by_cases hs:b=s.heap.objs.size
   .subst hs;have e2:=aY s.heap (o:={ cls:=.type "tuple",data:=.seq #[u,v] }) rfl;have e:(s.heap.push { cls:=.type "tuple",data:=.seq #[u,v] }).get? s.heap.objs.size=some ob:=e;rw[e2]at e;cases e;exact a5
   .exact a7 b _ b1 b2 b3 b4 (yp e hs)) λb hb=>by
    have hb':b∈[z,TI,TO,i1,i2]:=by
     simp only[YU,List.not_mem_nil,or_false]at hb ⊢;rcases hb with h|h|h|h<;>simp[h]
    exact⟨fpn b hb',(hf b hb').2⟩
  have mv:∀c o,c≠z->h'.get? c=some o->h2.get? c=some o:=λc o n e=>(sb.2 c n).trans e;exact⟨.ref _,_,I2,rfl,⟨xs,ys,_,_,_,ha,hb,ex,ey,nt,rfl,rfl⟩,⟨st2,mv _ _ D.TIz (a7 _ _ D.TIz D.TITO D.TIi1 D.TIi2 s2),⟨_,_,mv _ _ D.TOz a2⟩,mZ a3 λo e=>mv _ _ D.i1z e,mZ a4 λo e=>mv _ _ D.i2z e⟩,fpn⟩
 done:=by
  intro X hP hw hK hc i pins s σ H E I hf st hg;subst hP hw hK;obtain⟨s1,s2,⟨p,q,s3⟩,s4,s5⟩:=st;obtain⟨xs,ys,ha,hb,lt⟩:=hg;obtain⟨_,it1,n1,rv1,le1,g1⟩:=I.lstM ha;obtain⟨_,it2,n2,rv2,le2,g2⟩:=I.lstM hb;refine wpAny_pyNext_zip_end (I.ok.hd hc) D s1 s2 s3 s4 s5 (xs:=it1.toArray) (ys:=it2.toArray) ⟨_,g1,rfl,n1,rfl⟩ ⟨_,g2,rfl,n2,rfl⟩ (by simp;lia) λh' k=>⟨rfl,I.turnedL (ch:=[z,TO,i1,i2]) (t':=s.toks) (λb ob hb e=>?_) λb hb=>?_⟩
  .simp only[YU,List.not_mem_nil,or_false,not_or]at hb;exact k b ob hb.1 hb.2.1 hb.2.2.1 hb.2.2.2 e
  .exact hf b (by
    simp only[YU,List.not_mem_nil,or_false]at hb ⊢;rcases hb with h|h|h|h<;>simp[h])
 self:=λ_ _ _ _ _ ⟨s1,_⟩ h=>wpAny_pyIter_zip s1 h
section
variable{X:Cx}
theorem QD(n l1 l2:Nat)(h1:l1<n)(h2:l2<n):ZipApart (n+4) (n+2) (n+3) n (n+1) l1 l2:=by
 constructor<;>first|exact aR (by omega)|exact Nat.ne_of_gt (by lia)
theorem X6(n b:Nat)(h:b=n+4\/b=n+2\/b=n+3\/b=n\/b=n+1):n<=b:=by lia
theorem boot_zip:bootBuiltins "zip" = some (.type "zip"):=by decide +kernel
noncomputable def abt(ta:TA):TI:=λσ H R=>ta σ H λvs H1=>∃a b xs ys,vs=[.ref a,.ref b]/\H1 a=some (.lst xs)/\H1 b=some (.lst ys)/\R (Itz a b) H1
theorem Z2{a b:Expr}{ta:TA}{elts:List Expr}{x1}{p pos tpos:Pos}(hg:Gl X "zip")(hm:X.mg "zip" = none)(ha:PA X [a,b] ta)(hs:starEach [a,b] X.env=[(false,eval a X.env),(false,eval b X.env)]:=by rfl)(hs2:starEach [b] X.env=[(false,eval b X.env)]:=by rfl) :
  PI X (.Tuple elts x1 tpos) (.Call (.Name "zip" p) [a,b] [] pos) (abt ta):=by
 intro pins s σ H R I h;refine Call_ (uG I hg hm boot_zip (PyProof.Rows.callWith_type1 (thn (ha pos pins s σ H _ I h) λus s1 hP=>?_) (by rw[hs,hs2]) (by rw[hs2];rfl)));obtain⟨vs,H1,I1,r1,q1⟩:=hP;obtain⟨l1,l2,xs,ys,e,h1,h2,q⟩:=q1;subst e;obtain⟨u,v,rfl,ru,rv⟩:=r1.two;cases ru;cases rv;obtain⟨_,it1,n1,rv1,le1,g1⟩:=I1.lstM h1;obtain⟨_,it2,n2,rv2,le2,g2⟩:=I1.lstM h2;have z1:=aJ g1;have z2:=aJ g2;refine call_zip_2 (xs:=it1.toArray) (ys:=it2.toArray) ⟨_,g1,rfl,n1,rfl⟩ ⟨_,g2,rfl,n2,rfl⟩ λh' a1 a2 a3 a4 a5 a6 a7=>?_;refine wpAny_pyIter_zip a1 ?_;refine⟨_,[s1.heap.objs.size+4,s1.heap.objs.size+2,s1.heap.objs.size+3,s1.heap.objs.size,s1.heap.objs.size+1],_,Itz l1 l2,H1,rfl,I1.kept (t':=s1.toks) λb ob e=>a7 b ob e,RV _ _ _ _ _ l1 l2 (QD _ _ _ z1 z2),⟨a1,a2,⟨_,_,a3⟩,a4,a5⟩,λb hb=>?_,q⟩;have hb':s1.heap.objs.size<=b:=by
  simp only[YU,List.not_mem_nil,or_false]at hb;exact X6 _ _ hb
 exact I1.fpOk hb' (I1.hok.fresh hb')
end
theorem K1{ta:TA}{te:TE}{gt:TG}{tc:TT}{n:Nat}{σ:L2.St}{H:Hp}{Q:VK}(h:ta σ H λvs H1=>∃a b xs ys,vs=[.ref a,.ref b]/\H1 a=some (.lst xs)/\H1 b=some (.lst ys)/\xs.length=ys.length/\xs.length<=64/\∀D,H1 D=none->∃J:Nat->Μ->Hp->Prop,J 0 [] (upd H1 D (.lst [])) /\
   (∀k x y zs Hc t,xs[k]?=some x->ys[k]?=some y->J k zs Hc->zs.length<=k->Hc t=none->Hc a=some (.lst xs)->Hc b=some (.lst ys)->sO n gt tc te (.ref t) σ (upd Hc t (.tup [x,y])) (λv H2=>H2 D=some (.lst zs)/\H2 a=some (.lst xs)/\H2 b=some (.lst ys)/\J (k+1) (zs++[v]) (upd H2 D (.lst (zs++[v])))) λH2=>H2 a=some (.lst xs)/\H2 b=some (.lst ys)/\J (k+1) zs H2) /\
   ∀zs Hc,J xs.length zs Hc->zs.length<=xs.length->Q (.ref D) Hc):iJ (abt (tMA ta)) n (tMG gt) (tMT tc) (tM te) σ H Q:=by
 refine⟨_,h,?_⟩;rintro vs H1 ⟨a,b,xs,ys,rfl,hx,hy,hl,h64,rest⟩;refine⟨a,b,xs,ys,rfl,hx,hy,λD hD=>?_⟩;obtain⟨J,j0,step,fin⟩:=rest D hD;have na:a≠D:=bH hx hD;have nb:b≠D:=bH hy hD;have z64:64<=sizeLine:=by decide
 refine⟨λk m zs Hc=>k<=xs.length/\m=xs.length-k/\zs.length<=k/\Hc a=some (.lst xs)/\Hc b=some (.lst ys)/\J k zs Hc,⟨_,bh _,rfl,bh _,(bL na).trans hx,(bL nb).trans hy,j0⟩,?_⟩;rintro k m zs Hc ⟨hk,rfl,hz,ha',hb',j⟩;by_cases e:k=xs.length
 .subst e;exact .inl ⟨⟨xs,ys,ha',hb',.inl (aF _)⟩,fin zs Hc j hz⟩
 .have hlt:k<xs.length:=by exact XX hk e
  refine .inr ⟨⟨xs,ys,ha',hb',hlt,by exact aU hlt (Nat.le_of_eq hl)⟩,?_⟩;rintro v H'' ⟨xs',ys',x,y,t,e1,e2,e3,e4,e5,rfl,rfl⟩;rw[ha']at e1;rw[hb']at e2;cases e1;cases e2;refine(step k x y zs Hc t e3 e4 j hz e5 ha' hb').weak ?_ ?_
  .rintro yv H2 ⟨z1,z2,z3,z4⟩;refine⟨by lia,z1,xs.length-(k+1),by lia,by exact hlt,rfl,?_,(bL na).trans z2,(bL nb).trans z3,z4⟩;rw[aA];simp;omega
  .rintro H2 ⟨z2,z3,z4⟩;exact⟨xs.length-(k+1),by lia,by exact hlt,rfl,by exact aM hz (X2 _ _),z2,z3,z4⟩
noncomputable def Ite(l:Addr):It:=⟨λi H=>∃xs,H l=some (.lst xs)/\i<xs.length,λi H v H'=>∃xs x t,H l=some (.lst xs)/\xs[i]?=some x/\H t=none/\v=.ref t/\H'=upd H t (.tup [.int i,x]),λi H=>∃xs,H l=some (.lst xs)/\xs.length<=i⟩
theorem QS{P:Program}{w:World}{K:Frag}{elts:List Expr}{x1}{pos:Pos}(e it l:Addr)(hne:e≠it) :
  Turn P w K (.Tuple elts x1 pos) (Ite l) [e,it] e (λi h=>(∃old,IsEnum h e it ((i:Nat):Int) old)/\h.IsListIter it l i) where
 mem:=by simp
 obj:=by
  rintro i h ⟨⟨old,s1⟩,⟨o4,s4,_,d4⟩⟩ b hb;simp only[YU,List.not_mem_nil,or_false]at hb;rcases hb with rfl|rfl
  .exact⟨_,s1,λv e=>by cases e⟩
  .exact⟨_,s4,λv e=>by rw[d4]at e;cases e⟩
 keep:=λi h h' ⟨⟨old,s1⟩,s4⟩ k=>⟨⟨old,k e (by simp) _ s1⟩,mZ s4 (k it (by simp))⟩
 item:=by
  intro X hP hw hK hc i pins s σ H E I hf st hg;subst hP hw hK;obtain⟨⟨old,s1⟩,s4⟩:=st;obtain⟨xs,ha,lt1⟩:=hg;obtain⟨_,it1,n1,rv1,le1,g1⟩:=I.lstM ha;have ex:xs[i]?=some xs[i]:=aj lt1;obtain⟨u,hu,ru⟩:=zV rv1 ex;refine wpAny_pyNext_enum_item s1 s4 (items:=it1.toArray) ⟨_,g1,rfl,n1,rfl⟩ (x:=u) (by simpa using hu) hne λh' a1 a3 a5 a6 a7=>⟨_,rfl,?_⟩;refine wpAny_letOwnedTupleGo_enum a1 λh2 st2 sb=>?_;have nt:H s.heap.objs.size=none:=I.fresh;have I1:=I.laid (a:=s.heap.objs.size) (o:=.tup [.int i,xs[i]]) (h':=s.heap.push { cls:=.type "tuple",data:=.seq #[.int i s.toks,u] }) (t':=s.toks+1) (λb q z=>aG _ z) (aF _)
   ⟨(by show 2<=sizeLine;decide),[.int i s.toks,u],.cons ⟨_,rfl⟩ (.cons ru .nil),_,aY _ rfl,rfl,_,rfl⟩
  have nz:e≠s.heap.objs.size:=aR (aJ s1);have n1':it≠s.heap.objs.size:=by obtain⟨o,e,_⟩:=s4;exact aR (aJ e)
  have fpn:∀b∈[e,it],upd H s.heap.objs.size (.tup [.int i,xs[i]]) b=none:=by
   intro b hb;have f0:=(hf b hb).1;simp only[YU,List.not_mem_nil,or_false]at hb;rcases hb with rfl|rfl
   .exact(bL nz).trans f0
   .exact(bL n1').trans f0
  have I2:=I1.turnedL (ch:=[e,it]) (h':=h2) (t':=s.toks+1) (λb ob hb z=>by
   simp only[YU,List.not_mem_nil,or_false,not_or]at hb;obtain⟨b1,b3⟩:=hb;refine(sb.2 b b1).trans ?_;by_cases hs:b=s.heap.objs.size
   .subst hs;have e2:=aY s.heap (o:={ cls:=.type "tuple",data:=.seq #[.int i s.toks,u] }) rfl;have z:(s.heap.push { cls:=.type "tuple",data:=.seq #[.int i s.toks,u] }).get? s.heap.objs.size=some ob:=z;rw[e2]at z;cases z;exact a5
   .exact a7 b _ b1 b3 (yp z hs)) λb hb=>⟨fpn b hb,(hf b hb).2⟩
  have mv:∀c o,c≠e->h'.get? c=some o->h2.get? c=some o:=λc o n z=>(sb.2 c n).trans z;exact⟨.ref _,_,I2,rfl,⟨xs,_,_,ha,ex,nt,rfl,rfl⟩,⟨⟨_,by rw[Int.natCast_add];exact st2⟩,mZ a3 λo z=>mv _ _ (λy=>hne y.symm) z⟩,fpn⟩
 done:=by
  intro X hP hw hK hc i pins s σ H E I hf st hg;subst hP hw hK;obtain⟨⟨old,s1⟩,s4⟩:=st;obtain⟨xs,ha,lt⟩:=hg;obtain⟨_,it1,n1,rv1,le1,g1⟩:=I.lstM ha;have hl:=rv1.length;refine wpAny_pyNext_enum_end (I.ok.hd hc) s1 s4 (items:=it1.toArray) ⟨_,g1,rfl,n1,rfl⟩ (by simp;lia) λh' k=>⟨rfl,I.turnedL (ch:=[e,it]) (t':=s.toks) (λb ob hb z=>?_) hf⟩;simp only[YU,List.not_mem_nil,or_false,not_or]at hb;exact k b ob hb.2 z
 self:=λ_ _ _ _ _ ⟨⟨_,s1⟩,_⟩ h=>wpAny_pyIter_enum s1 h
section
variable{X:Cx}
noncomputable def NP(ta:TA):TI:=λσ H R=>ta σ H λvs H1=>∃a xs,vs=[.ref a]/\H1 a=some (.lst xs)/\R (Ite a) H1
theorem Nu{a:Expr}{ta:TA}{elts:List Expr}{x1}{p pos tpos:Pos}(hg:Gl X "enumerate")(hm:X.mg "enumerate" = none)(ha:PA X [a] ta)(hs:starEach [a] X.env=[(false,eval a X.env)]:=by rfl) :
  PI X (.Tuple elts x1 tpos) (.Call (.Name "enumerate" p) [a] [] pos) (NP ta):=by
 intro pins s σ H R I h;refine Call_ (uG I hg hm boot_enumerate (PyProof.Rows.callWith_type1 (thn (ha pos pins s σ H _ I h) λus s1 hP=>?_) (by rw[hs];rfl) (by rfl)));obtain⟨vs,H1,I1,r1,q1⟩:=hP;obtain⟨l1,xs,e,h1,q⟩:=q1;subst e;obtain⟨u,rfl,ru⟩:=r1.one;cases ru;obtain⟨_,it1,n1,rv1,le1,g1⟩:=I1.lstM h1;refine call_enumerate_list (items:=it1.toArray) ⟨_,g1,rfl,n1,rfl⟩ λh' a1 a2 a3 a7=>?_;refine wpAny_pyIter_enum a1 ?_;refine⟨_,[s1.heap.objs.size+1,s1.heap.objs.size],_,Ite l1,H1,rfl,I1.kept (t':=s1.toks) λb ob e=>a7 b ob e,QS _ _ l1 (Nat.succ_ne_self _),⟨⟨_,a1⟩,a2⟩,λb hb=>?_,q⟩;have hb':s1.heap.objs.size<=b:=by
  simp only[YU,List.not_mem_nil,or_false]at hb;rcases hb with z|z
  .rw[z];exact Xs _
  .rw[z];exact aF _
 exact I1.fpOk hb' (I1.hok.fresh hb')
end
theorem K6{ta:TA}{g:TG}{tb:TS}{D:Ends}{σ:L2.St}{H:Hp}(h:ta σ H λvs H1=>∃a xs,vs=[.ref a]/\H1 a=some (.lst xs)/\∃J:Nat->L2.St->Hp->Prop,J 0 σ H1 /\
   (∀(k:Nat)x σ' H' t,xs[k]?=some x->J k σ' H'->H' a=some (.lst xs)->H' t=none->g (.ref t) σ' (upd H' t (.tup [.int k,x])) λσ2 H2=>tb { D with nx:=λσ3 H3=>H3 a=some (.lst xs)/\J (k+1) σ3 H3,ct:=λσ3 H3=>H3 a=some (.lst xs)/\J (k+1) σ3 H3,bk:=D.nx } σ2 H2) /\
   ∀σ' H',J xs.length σ' H'->H' a=some (.lst xs)->D.nx σ' H'):Mf (NP (tMA ta)) g tb D σ H:=by
 refine⟨_,h,?_⟩;rintro vs H1 ⟨a,xs,rfl,hx,J,j0,step,fin⟩;refine⟨a,xs,rfl,hx,λk m σ' H'=>k<=xs.length/\m=xs.length-k/\H' a=some (.lst xs)/\J k σ' H',⟨_,bh _,rfl,hx,j0⟩,?_⟩;rintro k m σ' H' ⟨hk,rfl,ha',j⟩;by_cases e:k=xs.length
 .subst e;exact .inl ⟨⟨xs,ha',aF _⟩,fin σ' H' j ha'⟩
 .have hlt:k<xs.length:=by exact XX hk e
  refine .inr ⟨⟨xs,ha',hlt⟩,λσ3 H3=>H3 a=some (.lst xs)/\J (k+1) σ3 H3,λσ3 H3 ⟨z1,z3⟩=>⟨xs.length-(k+1),by lia,by exact hlt,rfl,z1,z3⟩,?_⟩;rintro v H'' ⟨xs',x,t,e1,e3,e5,rfl,rfl⟩;rw[ha']at e1;cases e1;exact step k x σ' H' t e3 j ha' e5
section
variable{X:Cx}
noncomputable def abB:Μ->Hp->VK->Prop:=λxs H Q=>∃p kvs,xs=[.ref p]/\H p=some (.dK kvs)/\Q (.int kvs.length) H
theorem E_:fY X (.builtin "len") abB:=by
 intro pins s σ H xs us Q I r h;obtain⟨p,kvs,rfl,hq,q⟩:=h;obtain⟨u,rfl,rx⟩:=vals1 r;cases rx;obtain⟨z,y,vs,kv,d⟩:=(show dh X.prog X.w H s.heap p (.dK kvs)from I.hok p _ hq);have hl:=uV;have hlen:kvs.length=vs.length:=kv.length;exact call_len_dict y d (by lia) ⟨.int kvs.length,H,I.tok _,⟨_,by rw[hlen]⟩,q⟩
theorem X3{e:Expr}{ta:TE}{f:Str}{pos:Pos}{K':Frag}(hK:X.K=K')(he:PE X e ta)(hb:attributeBase e f X.env (eval e X.env)=eval e X.env):PE X (.Attribute e f pos) (Tn K' ta f):=hK ▸ o_ he hb
theorem Oo(c:Nat):∀(n:Nat)(acc:Array Nat),((List.replicate n #[c]).foldl (· ++ ·) acc).toList=acc.toList++List.replicate n c
 |0,acc=>by simp
 |n+1,acc=>by
  rw[List.replicate_succ,List.foldl_cons,Oo c n,Array.toList_append,WZ]
  rfl
noncomputable def abr:R2:=λx y H Q=>∃c n,x=.str ⟨#[c]⟩/\y=.int n/\1<=n/\n<=1000/\∀z:Str,z.cps.toList=List.replicate n.toNat c->Q (.str z) H
theorem X7:OpR X (binaryOp .Mult) abr:=by
 intro pins s σ H x y v u Q I rx ry h;obtain⟨c,n,rfl,rfl,h0,h1,q⟩:=h;obtain⟨t,rfl⟩:=rx;obtain⟨t',rfl⟩:=ry;have hi:(⟨#[c]⟩ : Str).length=1:=rfl;have made:∀z:Str,z.cps.toList=List.replicate n.toNat c->(Made.str z).post (EP X pins σ Q) s:=λz hz=>⟨by
  have:z.length=n.toNat:=by
   show z.cps.size=_;rw[<- Array.length_toList,hz,aN]
  exact aM (show z.length<=1001 by lia) (by decide),.str z,H,I.tok _,⟨_,rfl⟩,q z hz⟩
 refine PySem.P.mul_str ?_ (λ_ _=>?_) (λ_ _=>?_) ?_
 .rw[Zp (by lia),Zp (by lia)];rfl
 .rw[hi];have:1<=(2^63-1:Int)/n:=Int.le_ediv_of_mul_le (by omega) (by lia);lia
 .rw[hi];unfold Builtin.Str.tooLong;exact Zp (by
   have:n.toNat<=1000:=by lia
   have e:1000<=sizeLine:=by decide
   lia)
 .split
  .lia
  .split
   .rename_i hc
    rw[hi]at hc;have e:n.toNat=1:=by
     simp at hc;lia
    refine⟨.str ⟨#[c]⟩,H,I,⟨t,rfl⟩,q _ ?_⟩;rw[e];rfl
   .refine made _ ?_;show((List.replicate n.toNat #[c]).foldl (· ++ ·) #[]).toList=_;rw[Oo];rfl
theorem OkI.wild{P:Program}{w:World}{K:Frag}{mg:Str->Ζ}{base:Heap}{k:Nat}{f:Addr}{ps:Β}{sp:Sp}(h:OkI P w K mg base CX0 k f ps sp):OkI P w K mg base (CXO P w) k f ps sp:=by obtain⟨fd,a,b⟩:=h;exact⟨fd,a.wild,b⟩
end
section
variable{X:Cx}{p pos:Pos}{e:Expr}{es:List Expr}{t:TA}{tv:TE}{x:Str}{k:Nat}{ps:Β}{sp:Sp}{f:Addr}
noncomputable def YH(f:Addr)(sp:Sp)(tv:TE)(t:TA):TE:=λσ H Q=>tv σ H λv H0=>v=.ref f/\t σ H0 λvs H1=>sp vs H1 Q E0
end
theorem yJ{ta:TA}{te:TE}{gt:TG}{tc:TT}{n:Nat}{σ:L2.St}{H:Hp}{Q:VK}(h:ta σ H λvs H1=>∃a xs,vs=[.ref a]/\H1 a=some (.lst xs)/\xs.length<=64/\∀D,H1 D=none->∃J:Nat->Μ->Hp->Prop,J 0 [] (upd H1 D (.lst [])) /\
   (∀(k:Nat)x zs Hc t,xs[k]?=some x->J k zs Hc->zs.length<=k->Hc t=none->Hc a=some (.lst xs)->sO n gt tc te (.ref t) σ (upd Hc t (.tup [.int k,x])) (λv H2=>H2 D=some (.lst zs)/\H2 a=some (.lst xs)/\J (k+1) (zs++[v]) (upd H2 D (.lst (zs++[v])))) λH2=>H2 a=some (.lst xs)/\J (k+1) zs H2) /\
   ∀zs Hc,J xs.length zs Hc->zs.length<=xs.length->Q (.ref D) Hc):iJ (NP (tMA ta)) n (tMG gt) (tMT tc) (tM te) σ H Q:=by
 refine⟨_,h,?_⟩;rintro vs H1 ⟨a,xs,rfl,hx,h64,rest⟩;refine⟨a,xs,rfl,hx,λD hD=>?_⟩;obtain⟨J,j0,step,fin⟩:=rest D hD;have na:a≠D:=bH hx hD;have z64:64<=sizeLine:=by decide
 refine⟨λk m zs Hc=>k<=xs.length/\m=xs.length-k/\zs.length<=k/\Hc a=some (.lst xs)/\J k zs Hc,⟨_,bh _,rfl,bh _,(bL na).trans hx,j0⟩,?_⟩;rintro k m zs Hc ⟨hk,rfl,hz,ha',j⟩;by_cases e:k=xs.length
 .subst e;exact .inl ⟨⟨xs,ha',aF _⟩,fin zs Hc j hz⟩
 .have hlt:k<xs.length:=by exact XX hk e
  refine .inr ⟨⟨xs,ha',hlt⟩,?_⟩;rintro v H'' ⟨xs',x,t,e1,e3,e5,rfl,rfl⟩;rw[ha']at e1;cases e1;refine(step k x zs Hc t e3 j hz e5 ha').weak ?_ ?_
  .rintro yv H2 ⟨z1,z2,z4⟩;refine⟨by lia,z1,xs.length-(k+1),by lia,by exact hlt,rfl,?_,(bL na).trans z2,z4⟩;rw[aA];simp;omega
  .rintro H2 ⟨z2,z4⟩;exact⟨xs.length-(k+1),by lia,by exact hlt,rfl,by exact aM hz (X2 _ _),z2,z4⟩
noncomputable def out(H:Hp)(a:Addr):Hp:=λb=>if b=a then none else H b
theorem fsc{N P:Β}{sc:Scope}(h1:sc.kind=.function:=by rfl)(h2:sc.isCoroutine=false:=by rfl)(h3:sc.isGenerator=false:=by rfl)(h4:N.Nodup/\(∀x∈P,sc.names.lookup x=some .local\/sc.names.lookup x=some .cell)/\∀y∈sc.names,y.2≠.free:=by decide +kernel)(h5:N.take P.length=P:=by rfl):bV N P sc:=⟨h1,h2,h3,h4.1,h5,h4.2.1,h4.2.2⟩
noncomputable abbrev CK(sc scope:Scope)(N N' xs:Β):Prop:=En xs N=N'/\(xs++N').Nodup/\(∀y∈scope.names,y.2≠.cell)/\(∀y∈scope.names,y.2=.local->scope.names.lookup y.1=some .local)/\(∀y∈scope.names,y.2=.free->sc.names.lookup y.1=some .cell\/sc.names.lookup y.1=some .free) /\
 (∀y∈N,y∉xs->(scope.names.map λ(n,k)=>if(k==NameKind.free&&sc.kind == .function&&sc.names.lookup n==some .cell)then(n,NameKind.cell)else(n,k)).lookup y≠some .local)/\∀y∈N,y∈xs->(scope.names.map λ(n,k)=>if(k==NameKind.free&&sc.kind == .function&&sc.names.lookup n==some .cell)then(n,NameKind.cell)else(n,k)).lookup (hid y)=none
section
variable{X:Cx}{elt iter tg:Expr}{pos:Pos}{scope:Scope}{wi:TI}{te:TE}{ifs:List Expr}{gt:TG}{tc:TT}
theorem n6(sc:Scope)(N N' xs:Β)(hi:PI X tg iter wi)(hg:∀{C s₀ H₀ ex pn},PG (X.compG N' scope xs C s₀ H₀ ex pn) tg gt)(ht:∀{C s₀ H₀ ex pn},PTs (X.compG N' scope xs C s₀ H₀ ex pn) ifs tc)(he:∀{C s₀ H₀ ex pn},PE (X.compG N' scope xs C s₀ H₀ ex pn) elt te)
 (hsc:X.env.scope=sc:=by rfl)(hNN:X.N=N:=by rfl)(hc:X.calm=true:=by rfl)(hk:scope.kind=.function:=by rfl)(h:CK sc scope N N' xs:=by decide +kernel)(hs:∀z,foldedSetIterable iter X.env z=pure z:=by intro _;rfl):PE X (.ListComp elt [⟨tg,iter,ifs,0⟩] scope pos) (iJ wi xs.length (tMG gt) (tMT tc) (tM te)) :=
 by
 subst hsc hNN;exact R4 hc h.1 h.2.1 hk h.2.2.1 h.2.2.2.1 h.2.2.2.2.1 h.2.2.2.2.2.1 h.2.2.2.2.2.2 hi (λ_ _ _ _ _=>hg.mono) (λ_ _ _ _ _=>ht.mono) (λ_ _ _ _ _=>he.mono) hs
theorem Ni{i0:Nat}{y0:Str}{py spos:Pos}(sc:Scope)(N N' xs:Β)(hi:PI X tg iter wi)(hg:∀{C s₀ H₀ ex pn},PG (X.compG N' scope xs C s₀ H₀ ex pn) tg gt)(ht:∀{C s₀ H₀ ex pn},PTs (X.compG N' scope xs C s₀ H₀ ex pn) ifs tc)(he:∀{C s₀ H₀ ex pn},PE (X.compG N' scope xs C s₀ H₀ ex pn) elt te)(hgy:PG X (.Name y0 py) (cB i0))
 (hsc:X.env.scope=sc:=by rfl)(hNN:X.N=N:=by rfl)(hc:X.calm=true:=by rfl)(hk:scope.kind=.function:=by rfl)(h:CK sc scope N N' xs:=by decide +kernel)(hsw:swapsWith (.ListComp elt [⟨tg,iter,ifs,0⟩] scope pos) (some (.Name y0 py)) spos.line X.env=pure true:=by rfl)(hs:∀z,foldedSetIterable iter X.env z=pure z:=by intro _;rfl) :
  PS X (.Assign [.Name y0 py] (.ListComp elt [⟨tg,iter,ifs,0⟩] scope pos) spos) (Eh (iJ wi xs.length (tMG gt) (tMT tc) (tM te)) (cB i0)) :=
 by
 subst hsc hNN;exact Rw hc h.1 h.2.1 hk h.2.2.1 h.2.2.2.1 h.2.2.2.2.1 h.2.2.2.2.2.1 h.2.2.2.2.2.2 hi (λ_ _ _ _ _=>hg.mono) (λ_ _ _ _ _=>ht.mono) (λ_ _ _ _ _=>he.mono) hgy hsw hs
theorem fQ{N' xs:Β}{C s₀ H₀ ex pn}{i:Nat}{x:Str}{p:Pos}(hN:(xs++N').Nodup:=by decide +kernel)(hi:(xs++N')[i]?=some x:=by rfl)(hx:Loc (X.compG N' scope xs C s₀ H₀ ex pn).env.scope x:=by exact Or.inl rfl)(hf:(X.compG N' scope xs C s₀ H₀ ex pn).fn x=true\/(X.compG N' scope xs C s₀ H₀ ex pn).env.scope.names.lookup x=some .local:=by exact Or.inr rfl):PG (X.compG N' scope xs C s₀ H₀ ex pn) (.Name x p) (cB i):=cH hN hi hx hf
end
theorem JZ{tl te:TE}{σ:L2.St}{H:Hp}{Q:VK}(p:Nat->Bool)(y:Str)(hl:∀R:VK,R (.str y) H->tl σ H R)(hz:y.length<=sizeLine)(he:∀(c:Nat)(Hc:Hp)(R:VK),R (.bl (p c)) Hc->te (some (.str ⟨#[c]⟩)::σ) Hc R)
 (q:∀D,H D=none->Q (.ref D) (upd H D (.lst ((y.cps.toList.map p).map V.bl)))):iJ (aaZ (tM tl)) 1 (tMG (cB 0)) (tMT Lg) (tM te) σ H Q:=by
 refine Yq (hl _ ⟨y,rfl,λD hD=>?_⟩);have hy:y.cps.size<=sizeLine:=hz;refine⟨λk m ys Hc=>k<=y.cps.size/\m=y.cps.size-k/\ys=((y.cps.toList.take k).map p).map V.bl/\Hc=upd H D (.lst ys),⟨_,bh _,rfl,rfl,rfl⟩,?_⟩;rintro k m ys Hc ⟨hk,rfl,rfl,rfl⟩;by_cases e:k=y.cps.size
 .subst e;refine .inl ⟨rfl,?_⟩;rw[aK (by simp)];exact q D hD
 .have hlt:k<y.cps.size:=by exact XX hk e
  refine .inr ⟨hlt,?_⟩;rintro x H'' ⟨rfl,c,hc,rfl⟩;refine(Ut (No:=λ_=>False) (he c _ (λv H2=>v=.bl (p c)/\H2=upd H D (.lst (((y.cps.toList.take k).map p).map V.bl))) ⟨rfl,rfl⟩)).weak ?_ λ_ z=>z.elim;rintro v H2 ⟨rfl,rfl⟩;refine⟨?_,bG,y.cps.size-(k+1),by lia,by exact hlt,rfl,?_,?_⟩
  .rw[ak,ak,bf];simp only[Array.length_toList];lia
  .have e1:y.cps.toList.take (k+1)=y.cps.toList.take k++[c]:=by
    rw[List.take_succ];have:y.cps.toList[k]?=some c:=by simpa using hc
    rw[this];rfl
   rw[e1,bA,bA];rfl
  .exact vB
theorem ac5{K:Frag}{a:Addr}{i j:Int}{d:Η}{n:Nat}{sl:Array (Ζ)}{t u:Tok}(l:K.lookup a=some ⟨.type "tuple",d,.seq #[.int i t,.int j u] n,sl⟩):∀H,SqT K H a [.int i,.int j]:=λH=>.inr ⟨_,_,_,l,rfl,rfl,(by show 2<=sizeLine;decide),.cons ⟨_,rfl⟩ (.cons ⟨_,rfl⟩ .nil)⟩
theorem adP{K:Frag}{h:Heap}{mg:Str->Ζ}{x:Str}{i:Int}{t:Tok}(X:K.In h)(G:h.Ns mainGlobals mg)(l:nsIn K mainGlobals x=some (some (.int i t))):∃u,mg x=some u/\RelV (.int i) u:=⟨_,mg_of X G l,_,rfl⟩
noncomputable def Lst:Nat->(Ξ->Prop)->Prop
 |0,P=>P []
 |n+1,P=>∀a,Lst n λl=>P (a::l)
theorem zy:∀(n:Nat){P:Ξ->Prop},Lst n P->∀us:Ξ,us.length=n->P us
 |0,_,h,[],_=>h
 |n+1,_,h,a::l,e=>zy n (h a) l (Nat.succ.inj e)
section
variable{K:Frag}{h:Heap}{mg:Str->Ζ}{x m qual:Str}{v:Value}{C f:Addr}{st:Stmt}{ps:Β}{oc:Value}{od an:Η}{osl:Array (Ζ)}{kV doc pm cdv ct:Value}{i j:Int}{d:Η}{n:Nat}{sl:Array (Ζ)}{t u:Tok}
theorem q_c(X:K.In h:=by assumption)(G:h.Ns mainGlobals mg:=by assumption)(e:nsIn K mainGlobals x=some (some v):=by k_is):mg x=some v:=mg_of X G e
theorem q_z(X:K.In h:=by assumption)(G:h.Ns mainGlobals mg:=by assumption)(e:nsIn K mainGlobals x=some none:=by k_is):mg x=none:=PySem.W.mg_none_of X G e
theorem q_n(e:findIn K (.ref C) x=some none:=by k_is):d7 K C x:=e
theorem q_m(a:findIn K (.ref C) m=some (some (.ref f)):=by k_is)(b:isFn K (.ref f)=true:=by k_is)(c:keepIn K (.ref f)=true:=by k_is):Meth K C m f:=⟨a,b,c⟩
theorem q_M(a:makesIn K C=true:=by k_is)(b:findIn K (.ref C) "__init__" = some (some (.ref f)):=by k_is)(c:isFn K (.ref f)=true:=by k_is)(e:keepIn K (.ref C)=true:=by k_is):Mk K C f:=⟨a,b,c,e⟩
theorem q_4(a:plainGet K C Str.empty=true:=by k_is)(b:hasDictIn K C=true:=by k_is)(c:plainOver K C=true:=by k_is)(e:findIn K (.ref C) "__setattr__" = some (some (.builtin "object.__setattr__")):=by k_is):Cls K C:=⟨a,b,c,e⟩
theorem q_B(a:specialIn K (.ref C) "__getattribute__" = some (some (.builtin "type.__getattribute__")):=by k_is)(b:readsIn K C (.type "type")=true:=by k_is)(c:findCls K (.ref C) (.type "type") m=some (.val (.ref f)):=by k_is)(e:keepIn K (.ref f)=true:=by k_is):Ey K C m f:=⟨a,b,c,rfl,e⟩
theorem q_x(e:excIn K C bmV "ValueError.__new__" = true:=by k_exc):Mj K C:=e
theorem q_g(X:K.In h:=by assumption)(G:h.Ns mainGlobals mg:=by assumption)(l:nsIn K mainGlobals x=some (some (.int i t)):=by k_is):∃u,mg x=some u/\RelV (.int i) u:=adP X G l
theorem q_t(l:K.lookup C=some ⟨.type "tuple",d,.seq #[.int i t,.int j u] n,sl⟩:=by k_is):∀H,SqT K H C [.int i,.int j]:=ac5 l
theorem q_f(N:Nat)(hb:∀(kV doc pm:Value)(an:Η)(cdv ct:Value),Lst N λus=>bindArgs (PySem.W.fnOf x x (fM st) (dU st) (bM st) .none kV doc pm an cdv ct) ⟨us,[]⟩=pure (ps.zip us))(hN:ps.length=N:=by rfl)(X:K.In h:=by assumption)(G:h.Ns mainGlobals mg:=by assumption)
 (a:nsIn K mainGlobals x=some (some (.ref f)):=by k_is)(l:K.lookup f=some ⟨oc,od,.func (PySem.W.fnOf x x (fM st) (dU st) (bM st) .none kV doc pm an cdv ct),osl⟩:=by k_is)
 (c:codeIn K cdv x=true:=by k_is)(k:keepIn K (.ref f)=true:=by k_is):dw K mg x st ps:=Xu X G a l c k λkV doc pm an cdv ct us e=>zy N (hb kV doc pm an cdv ct) us (e.trans hN)
theorem q_h(N:Nat)(hb:∀(kV doc pm:Value)(an:Η)(cdv ct:Value),Lst N λus=>bindArgs (PySem.W.fnOf x qual (fM st) (dU st) (bM st) .none kV doc pm an cdv ct) ⟨us,[]⟩=pure (ps.zip us))(hN:ps.length=N:=by rfl)
 (l:K.lookup f=some ⟨oc,od,.func (PySem.W.fnOf x qual (fM st) (dU st) (bM st) .none kV doc pm an cdv ct),osl⟩:=by k_is)(c:codeIn K cdv qual=true:=by k_is)(k:keepIn K (.ref f)=true:=by k_is):zm K x qual st ps f:=W_ l c k λkV doc pm an cdv ct us e=>zy N (hb kV doc pm an cdv ct) us (e.trans hN)
end
section
variable{X:Cx}{es:List Expr}{t:TA}{pos:Pos}
noncomputable def adg(t:TA):TE:=λσ H Q=>t σ H λxs H1=>xs.length<=sizeLine/\∀p H',Same H1 H'->H1 p=none->H' p=some (.lst xs)->Q (.ref p) H'
noncomputable def adx(t:TA):TE:=λσ H Q=>t σ H λxs H1=>xs.length<=sizeLine/\∀p H',Same H1 H'->H1 p=none->H' p=some (.tup xs)->Q (.ref p) H'
theorem jz(h:PA X es t):PE X (.List es pos) (adg t):=(qP h.mono).imp λσ H Q h=>⟨_,h,λxs H1 z=>⟨z.1,λp hp=>z.2 p _ (Same.upd hp) hp bG⟩⟩
theorem iz{k:Nat}(h:PA X es t):PE X (.Tuple es k pos) (adx t):=(oY h.mono).imp λσ H Q h=>⟨_,h,λxs H1 z=>⟨z.1,λp hp=>z.2 p _ (Same.upd hp) hp bG⟩⟩
noncomputable def aae:Μ->Hp->VK->Prop:=λxs H Q=>∃p ys,xs=[.ref p]/\H p=some (.lst ys)/\∀l H',Same H H'->H l=none->H' l=some (.lst ys)->Q (.ref l) H'
theorem CJ:fY X (.type "list") aae:=uM.imp λxs H Q hP=>by obtain⟨p,ys,a,b,c⟩:=hP;exact⟨p,ys,a,b,λl hl=>c l _ (Same.upd hl) hl bG⟩
end
noncomputable def OkL(P:Program)(w:World)(K:Frag)(mg:Str->Ζ)(base:Heap)(k:Nat)(f:Addr)(ps:Β)(sp:Sp):Prop :=
 ∃fd o,cC P w K mg base CX0 k f fd ps sp/\Binds K fd ps []/\base.get? f=some o/\o.data=.func fd
theorem XJ{M:Model}{f:Addr}{o:Obj}{fd:FuncData}(hd:o.data=.func fd)(h:Heap)(e:h.get? f=some o):∃k,(k=Keeper.frame\/k=Keeper.machine\/k=Keeper.boundFrame)/\PySem.W.Looks M h (keeperOf (.ref f)) k:=by
 refine⟨.frame,.inl rfl,(PySem.W.Looks.ld (part:=none) e).andThen ?_⟩;rw[hd];exact .now
section
variable{X:Cx}{p pos:Pos}{e:Expr}{es:List Expr}{t:TA}{tv:TE}{x:Str}{k:Nat}{ps:Β}{sp:Sp}{f:Addr}
theorem VJ(G:OkL X.prog X.w X.K X.mg X.base k f ps sp)(hr:eN k X.A)(hv:PE X (.Name x p) tv)(ha:PA X (e::es) t)
 (he:starEach (e::es) X.env=(false,eval e X.env)::starEach es X.env:=by rfl)(hpl:(backTo pos (starEach es X.env)).any (·.1)=false:=by rfl):PE X (.Call (.Name x p) (e::es) [] pos) (YH f sp tv t):=by
 obtain⟨fd,o,F,b,ho,hd⟩:=G;intro pins s σ H Q I h;refine wpAny_Call_Name_kw (thn (hv pins s σ H _ I h) ?_);rintro u s0 ⟨v,H0,I0,r0,rfl,q0⟩;cases r0;have ar:wpAny (model X.prog X.w) X.A (spliced (backTo pos (starEach (e::es) X.env))) (λus s1=>s1.heap.get? f=some o/\wpAny (model X.prog X.w) X.A (call (.ref f) ([]++us)) (EP X pins σ Q) X.xe s1) X.xe s0:=by
  refine thn (ha pos pins s0 σ H0 _ I0 q0) ?_;rintro us s1 ⟨vs,H1,I1,r,q⟩;refine⟨I1.bk f o ho,Iv F hr b .nil M7 I1 r ?_⟩;rw[List.append_nil];exact q
 rw[he]at ar ⊢;exact PySem.W.callWith_of (P:=λh=>h.get? f=some o) (by show((false || (backTo pos (starEach es X.env)).any (·.1)) || false)=false;rw[hpl];rfl) (XJ hd) (PySem.Calls.evalArgs_plain ar)
end
noncomputable def cxL(P:Program)(w:World)(K:Frag)(mg:Str->Ζ)(base:Heap)(N:Β)(qual:Str)(scope:Scope)(f:Addr)(cd:Value)(cl:List (Str×Addr))(A:Around)(outer:List Env)(s:Shared)(H:Hp)(E:XK):Cx where
 prog:=P
 w:=w
 K:=K
 mg:=mg
 base:=base
 A:=A.deeper (envX qual scope s.heap.objs.size f cd cl)
 N:=N
 s₀:=s
 H₀:=H
 env:=envX qual scope s.heap.objs.size f cd cl
 outer:=outer
 stack:=envX qual scope s.heap.objs.size f cd cl::outer
 ex:=[]
 calm:=true
 fn:=λ_=>false
 pn:=[]
 xe:=λe s'=>wpAny (model P w) (A.deeper (envX qual scope s.heap.objs.size f cd cl)) (leaving (envX qual scope s.heap.objs.size f cd cl) e) (λ_ s''=>CX0 outer H s E e s'') (λe' s''=>CX0 outer H s E e' s'') s'
inductive tY(base:Heap)(scope:Scope):List (Str×Addr)->Μ->Prop where
 |nil:tY base scope [] []
 |cons {x:Str}{c:Addr}{v:V}{u:Value}{cl:List (Str×Addr)}{vs:Μ} : scope.names.lookup x=some .free->base.IsCell c (some u)->RelV v u->cl.lookup x=none->(∀y,(y,c)∉cl)->tY base scope cl vs->tY base scope ((x,c)::cl) (v::vs)
theorem tY.len{base:Heap}{scope:Scope}{cl:List (Str×Addr)}{vs:Μ}(h:tY base scope cl vs):cl.length=vs.length:=by
 induction h with
 |nil=>rfl
 |cons _ _ _ _ _ _ ih=>simp[ih]
theorem tY.at{base:Heap}{scope:Scope}{cl:List (Str×Addr)}{vs:Μ}(h:tY base scope cl vs){i:Nat}{x:Str}{v:V}(e:(cl.map (·.1))[i]?=some x)(ev:(vs.map some)[i]?=some (some v)):scope.names.lookup x=some .free/\∃c u,cl.lookup x=some c/\base.IsCell c (some u)/\RelV v u:=by
 induction h generalizing i with
 |nil=>simp at e
 |@cons y c v0 u cl vs k1 k2 k3 k4 k5 _ ih =>
  cases i with
  |zero =>
   simp at e ev;subst e;subst ev;exact⟨k1,c,u,by simp[List.lookup],k2,k3⟩
  |succ j =>
   simp at e ev;obtain⟨q1,c',u',q2,q3,q4⟩:=ih (i:=j) (by simpa using e) (by simpa using ev);refine⟨q1,c',u',?_,q3,q4⟩;have ne:(x==y)=false:=by
    cases z:x==y with
    |false=>rfl
    |true=>rw[beq_iff_eq.mp z,k4]at q2;cases q2
   rw[List.lookup_cons,ne];exact q2
theorem tY.cells{base:Heap}{scope:Scope}{cl:List (Str×Addr)}{vs:Μ}(h:tY base scope cl vs){x:Str}{c:Addr}(e:cl.lookup x=some c):∃u,base.IsCell c (some u):=by
 induction h with
 |nil=>cases e
 |@cons y c0 v0 u cl vs k1 k2 k3 k4 k5 _ ih =>
  rw[List.lookup_cons]at e;split at e
  .cases e;exact⟨u,k2⟩
  .exact ih e
theorem sJ{cl:List (Str×Addr)}{x:Str}{c:Addr}(e:cl.lookup x=some c):(x,c)∈cl:=PySem.mem_of_lookup e
theorem tY.inj{base:Heap}{scope:Scope}{cl:List (Str×Addr)}{vs:Μ}(h:tY base scope cl vs){x y:Str}{c:Addr}(e:cl.lookup x=some c)(e':cl.lookup y=some c):x=y:=by
 induction h with
 |nil=>cases e
 |@cons z c0 v0 u cl vs k1 k2 k3 k4 k5 _ ih =>
  rw[List.lookup_cons]at e e';cases a:x==z<;>cases b:y==z<;>rw[a]at e<;>rw[b]at e'
  .exact ih e e'
  .cases e';exact absurd (sJ e) (k5 _)
  .cases e;exact absurd (sJ e') (k5 _)
  .rw[beq_iff_eq.mp a,beq_iff_eq.mp b]
theorem Lp{P:Program}{w:World}{K:Frag}{mg:Str->Ζ}{base:Heap}{x:Str}{qual:Str}{scope:Scope}{f:Addr}{cd:Value}{cl:List (Str×Addr)}{frees:Μ}{A:Around}{outer:List Env}{s:Shared}{H:Hp}{E:XK}{u:Value}{v:V}{h₁:Heap}{tk:Tok}
 (hk:scope.kind=.function)(hcell:∀y∈scope.names,y.2≠.cell)(hx:scope.names.lookup x=some .local)(hfree:∀y,scope.names.lookup y=some .free->∃c,cl.lookup y=some c)(hs:tY base scope cl frees)
 (hd:A.handled=none)(e0:Bu P w K mg base A outer s H)(r:RelV v u)
 (hns:h₁.Ns s.heap.objs.size (λy=>[(x,u)].reverse.lookup y))(hkp:∀b o,s.heap.get? b=some o->h₁.get? b=some o) :
  Inv (cxL P w K mg base (x::cl.map (·.1)) qual scope f cd cl A outer s H E) [] (some v::frees.map some) H { s with heap:=h₁,toks:=tk }:=by
 have noA:∀b:Addr,b∉(cxL P w K mg base (x::cl.map (·.1)) qual scope f cd cl A outer s H E).ex:=λb z=>absurd (show b∈([] : Ε)from z) (by simp);have cb:∀c u,base.IsCell c (some u)->h₁.IsCell c (some u)/\H c=none:=λc u hP=>by obtain⟨o,ho,hd⟩:=hP;exact⟨⟨o,hkp _ _ (e0.bs _ _ ho).1,hd⟩,(e0.bs _ _ ho).2⟩
 refine⟨⟨e0.mod,hk,rfl,rfl,aF _,λy z c h1 h2=>hs.inj h1 h2,λy hy=>?_,(λy c h=>nomatch h),λ_=>hd,Around.frames_deeper e0.frames,.inr ⟨rfl,rfl⟩,λb z=>absurd z (noA b),e0.bs,e0.bsz,λb _ _=>noA b,λb z=>absurd z (noA b),e0.funs,e0.frf⟩,
  rfl,e0.bare,Un.kept hkp,⟨_,hns,λi y v' h1 h2 h3=>?_⟩,λy c h=>?_,e0.hok.fresh (aF _),λy c h=>?_,λp hp=>absurd (show p∈([] : Ω)from hp) (by simp),e0.hok.kept hkp,?_⟩
 .rcases hy with hy|hy
  .exact absurd rfl (hcell _ (PySem.mem_of_lookup hy))
  .exact hfree y hy
 .cases i with
  |zero =>
   have h1:some x=some y:=h1;have h2:some (some v)=some (some v'):=h2;cases h1;cases h2;exact⟨u,r,.inl ⟨hx,by show[(x,u)].lookup x=some u;simp[List.lookup]⟩⟩
  |succ j =>
   have h1:(cl.map (·.1))[j]?=some y:=h1;have h2:(frees.map some)[j]?=some (some v'):=h2;obtain⟨q1,c,u',q2,q3,q4⟩:=hs.at h1 h2;exact⟨u',q4,.inr ⟨.inr q1,c,q2,(cb c u' q3).1⟩⟩
 .obtain⟨u',q⟩:=hs.cells h;exact⟨_,(cb c u' q).1⟩
 .obtain⟨u',q⟩:=hs.cells h;exact(cb c u' q).2
 .show _=(x::cl.map (·.1)).length;simp[hs.len]
theorem Zj{P:Program}{w:World}{K:Frag}{mg:Str->Ζ}{base:Heap}{k:Nat}{f c':Addr}{name qual:Str}{params:Arguments}{body:Expr}{scope:Scope}{cl:List (Str×Addr)}{pm ctv:Value}{x:Str}{frees:Μ}{sp:Sp}
 (ho:base.get? f=some (kla_obj name qual params body scope cl pm c' ctv))(hcr:base.CodeRec (.ref c') qual)
 (hk:scope.kind=.function)(hco:scope.isCoroutine=false)(hgen:scope.isGenerator=false)(hcell:∀y∈scope.names,y.2≠.cell)(hx:scope.names.lookup x=some .local)(hfree:∀y,scope.names.lookup y=some .free->∃c,cl.lookup y=some c)(hs:tY base scope cl frees)
 (len:∀vs H Q E,sp vs H Q E->vs.length=1)
 (hbody:∀(A:Around)(outer:List Env)(s:Shared)(H:Hp)(v:V)(Q:VK)(E:XK),eN k (A.deeper (envX qual scope s.heap.objs.size f (.ref c') cl))->sp [v] H Q E ->
   ∃t,PE (cxL P w K mg base (x::cl.map (·.1)) qual scope f (.ref c') cl A outer s H E) body t/\t (some v::frees.map some) H Q) :
  cC P w K mg base CX0 (k+1) f (PySem.W.kla_fn name qual params body scope cl pm (.ref c') ctv) [x] sp:=by
 refine⟨λvs H Q E h=>len vs H Q E h,λA outer s H args us vs Q E hr e0 hb r hsp=>?_⟩;have hl:=len _ _ _ _ hsp;obtain⟨v,rfl⟩ : ∃v,vs=[v]:=by
  cases vs with
  |nil=>cases hl
  |cons v t=>cases t with
   |nil=>exact⟨v,rfl⟩
   |cons _ _=>cases hl
 obtain⟨u,rfl,rv⟩ : ∃u,us=[u]/\RelV v u:=by
  cases r with
  |cons a t=>cases t;exact⟨_,rfl,a⟩
 have lim:s.heap.NoLimit:=e0.mod.nolimit.keeps λb o e=>(e0.bs b o e).1;obtain⟨c2,oc,ws,tk,e2,hoc,hdc,hq⟩:=hcr;refine PySem.W.kla_callFunE hr.depth (e0.bs _ _ ho).1 rfl hco hgen rfl ⟨c2,oc,ws,tk,e2,(e0.bs _ _ hoc).1,hdc,hq⟩ (hb _ _ _ _ ?_);refine wpAny_newFunctionEnv hcell (λy hy=>?_) (λh₁ hns hsb=>?_) hk
 .have hy:y∈[(x,u)]:=hy;rw[YR.mp hy];exact hx
 have hkp:∀b o,s.heap.get? b=some o->h₁.get? b=some o:=λb o e=>hsb.extBut b o (aR (aJ e)) (aG _ e);refine⟨lim.keeps hkp,PySem.W.kla_codeExpr ?_⟩;obtain⟨t,ht,hq⟩:=hbody A outer s H v Q E (hr.deeper _) hsp;have I:=Lp (f:=f) (cd:=.ref c') (qual:=qual) (E:=E) (tk:=s.toks+[(x,u)].length) hk hcell hx hfree hs hr.hd e0 rv hns hkp;exact wpAny_mono (ht [] _ _ H _ I hq) (λu' s' hP=>by obtain⟨v',H',J,rv',q⟩:=hP;exact⟨v',H',J.os,J.bare,J.base,J.hok,rv',q⟩) λe s' hs=>hs
noncomputable def BK(c:Addr)(qual:Str):HO:=.ext λh=>∃o vs t,h.get? c=some o/\o.data=.fields vs/\vs[1]?=some (.str qual t)
noncomputable def Ls(f:Addr)(mkO:Value->Obj):HO:=.ext λh=>∃ctv,h.get? f=some (mkO ctv)
noncomputable def trip(pos:Pos)(c:Addr):Array Value:=#[rawInt pos.line,rawInt pos.col,.ref c]
noncomputable def yM(Pt:Addr)(pos:Pos)(qual:Str)(H:Hp):Η->Prop
 |none=>H Pt=some (.tbl #[])
 |some c=>H Pt=some (.tbl (trip pos c))/\H c=some (BK c qual)
noncomputable def adp(Pt:Addr)(pos:Pos)(qual:Str)(mkO:Addr->Value->Obj):TE:=λσ H Q=>∃oc,yM Pt pos qual H oc /\
 ∀f c H',H f=none->f≠c->(oc=none->H c=none)->(∀c0,oc=some c0->c=c0)->yM Pt pos qual H' (some c)->H' f=some (Ls f (mkO c))->(∀b,b≠Pt->b≠c->b≠f->H' b=H b)->Q (.ref f) H'
theorem JQ{P:Program}{w:World}{H:Hp}{h:Heap}{c:Addr}{q:Str}(r:h.CodeRec (.ref c) q):dh P w H h c (BK c q):=by
 obtain⟨c2,o,vs,t,e,ho,hd,hv⟩:=r;cases e;exact⟨⟨o,vs,t,ho,hd,hv⟩,⟨o,ho⟩,λh1 h2 ⟨o,vs,t,a,b,d⟩ k=>⟨o,vs,t,k o a,b,d⟩⟩
theorem Q0{P:Program}{w:World}{H:Hp}{h:Heap}{c:Addr}{q:Str}(r:dh P w H h c (BK c q)):h.CodeRec (.ref c) q:=by
 obtain⟨⟨o,vs,t,ho,hd,hv⟩,_⟩:=r;exact⟨c,o,vs,t,rfl,ho,hd,hv⟩
theorem Om{P:Program}{w:World}{H:Hp}{h:Heap}{f:Addr}{mkO:Value->Obj}{ctv:Value}(e:h.get? f=some (mkO ctv)):dh P w H h f (Ls f mkO) :=
 ⟨⟨ctv,e⟩,⟨_,e⟩,λh1 h2 ⟨c,a⟩ k=>⟨c,k _ a⟩⟩
section
variable{X:Cx}{params:Arguments}{body:Expr}{scope:Scope}{pos:Pos}{c0 Pt:Addr}{cl:List (Str×Addr)}
theorem aak(hB:X.base.BuiltinsAt X.mg Pt)(hcode:X.env.code=.ref c0)(hC:codeHdIn X.K c0 Pt=true)(hcl:closureFor scope X.env=pure cl)(hdef:defaultsOf params X.env=([],[]):=by rfl) :
  PE X (.Lambda params body scope pos) (adp Pt pos (X.env.qual ++ "<lambda>") λc ctv=>kla_obj "<lambda>" (X.env.qual ++ "<lambda>") params body scope cl ((X.mg "__name__").getD .none) c ctv):=by
 intro pins s σ H Q I h;obtain⟨oc,la,q⟩:=h;have hg:s.heap.Ns mainGlobals X.mg:=I.ok.mod.glob.keeps I.bk;have C:PySem.W.CodeHd s.heap c0 Pt:=codeHd_of_K I.kIn hC;obtain⟨bm,ob,b1,b2,b3,b4,b5,b6⟩:=hB;have hb:s.heap.BuiltinsAt X.mg Pt:=⟨bm,ob,b1,b2,b3,b4,I.bk _ _ b5,b6⟩;refine PySem.W.kla_eval hdef ?_;cases oc with
 |none =>
  have hP:s.heap.get? Pt=some (tabObj #[]):=I.hok Pt _ la;have hgP:mainGlobals≠Pt:=λz=>by
   obtain⟨o,es,ep,e,hd,_⟩:=hg;rw[z,hP]at e;cases e;cases hd
  refine PySem.W.kla_makeFunction hcl I.ok.glob hg hcode C hP trivial rfl hgP hb λc' ctv h' tk hx hge hlt hrec htb=>?_;generalize eo:kla_obj "<lambda>" (X.env.qual ++ "<lambda>") params body scope cl ((X.mg "__name__").getD .none) c' ctv=ob';have hf:(h'.push ob').get? h'.objs.size=some ob':=aY _ (by rw[<- eo];rfl);have hps:∀{b:Addr}{o:Obj},h'.get? b=some o->(h'.push ob').get? b=some o:=λe=>aG _ e;have lo:∀{b:Addr}{o:Obj},s.heap.get? b=some o->b≠c'/\b≠h'.objs.size:=λe=>have z:=aU (aJ e) hge;⟨aR z,aR (Nat.lt_trans z hlt)⟩;have lH:∀{b:Addr}{u:HO},H b=some u->b≠c'/\b≠h'.objs.size:=λe=>have z:=aU (I.hok.lt e) hge;⟨aR z,aR (Nat.lt_trans z hlt)⟩;have ptn:Pt≠c'/\Pt≠h'.objs.size:=lo hP;have cf:c'≠h'.objs.size:=aR hlt
  let H':Hp:=upd (upd (upd H Pt (.tbl (trip pos c'))) c' (BK c' (X.env.qual ++ "<lambda>"))) h'.objs.size (Ls h'.objs.size λctv=>kla_obj "<lambda>" (X.env.qual ++ "<lambda>") params body scope cl ((X.mg "__name__").getD .none) c' ctv)
  have eP:H' Pt=some (.tbl (trip pos c')):=(bL ptn.2).trans ((bL ptn.1).trans bG);have ec:H' c'=some (BK c' (X.env.qual ++ "<lambda>")):=(bL cf).trans bG;have ef:H' h'.objs.size=some (Ls h'.objs.size λctv=>kla_obj "<lambda>" (X.env.qual ++ "<lambda>") params body scope cl ((X.mg "__name__").getD .none) c' ctv):=bG;have eo':∀b,b≠Pt->b≠c'->b≠h'.objs.size->H' b=H b:=λb n1 n2 n3=>(bL n3).trans ((bL n2).trans (bL n1));have np:∀{b:Addr}{u:HO},H b=some u->(∀ps,u≠.tbl ps)->b≠Pt:=λe n z=>by rw[z,la]at e;cases e;exact n _ rfl
  have n0:∀{b:Addr},H b=none->b≠Pt:=λe z=>by rw[z,la]at e;cases e
  have un:Un (frs X.stack) [] H H' s.heap (h'.push ob'):=by
   refine⟨λb o e n _ _=>hps (hx b o (n0 n) e),λb o e n _ _=>⟨o.slots,hps (hx b o (n0 n) e)⟩,λb o e n _=>?_,λb o e _=>?_,λb xs e=>?_,λb o u e=>?_,λb ps e=>?_⟩
   .rw[eo' b (n0 n) (lo e).1 (lo e).2];exact n
   .by_cases z:b=Pt
    .subst z;exact⟨_,hps htb⟩
    .exact⟨o,hps (hx b o z e)⟩
   .rw[eo' b (np e (λ_ z=>by cases z)) (lH e).1 (lH e).2];exact e
   .rw[eo' b (np e (λ_ z=>by cases z)) (lH e).1 (lH e).2];exact e
   .by_cases z:b=Pt
    .subst z;rw[la]at e;cases e;exact⟨trip pos c',by rw[eP];simp⟩
    .rw[eo' b z (lH e).1 (lH e).2];exact⟨#[],by rw[e];simp⟩
  have hok:HOk X.prog X.w H' (h'.push ob'):=by
   intro b u e;by_cases z1:b=h'.objs.size
   .subst z1;rw[ef]at e;cases e;exact Om (ctv:=ctv) (by rw[eo];exact hf)
   by_cases z2:b=c'
   .subst z2;rw[ec]at e;cases e;obtain⟨c2,oc,vs,t,e2,ho,hd,hv⟩:=hrec;exact JQ ⟨c2,oc,vs,t,e2,hps ho,hd,hv⟩
   by_cases z3:b=Pt
   .subst z3;rw[eP]at e;cases e;exact hps htb
   .rw[eo' b z3 z2 z1]at e;refine(I.hok b u e).stay (λd o hd r=>?_) (λd r=>?_) λd xs r=>?_
    .refine hps (hx d o (λz=>?_) r);rcases hd with rfl|hd
     .exact z3 z
     .exact np hd (λ_ z=>by cases z) z
    .rw[eo' d (np r (λ_ z=>by cases z)) (lH r).1 (lH r).2];exact r
    .rw[eo' d (np r (λ_ z=>by cases z)) (lH r).1 (lH r).2];exact r
  have J:Inv X pins σ H' { s with heap:=h'.push ob',toks:=tk }:=I.call (g':=s.gens) (d':=s.drawn) (t':=tk) (ch:=[]) un hok I.bare λb z=>nomatch z
  subst eo;refine⟨.ref h'.objs.size,H',J,rfl,q h'.objs.size c' H' ?_ cf.symm (λ_=>?_) (λc0 z=>nomatch z) ⟨eP,ec⟩ ef eo'⟩
  .cases z:H h'.objs.size with
   |none=>rfl
   |some u=>exact absurd rfl (lH z).2
  .cases z:H c' with
   |none=>rfl
   |some u=>exact absurd rfl (lH z).1
 |some c =>
  obtain⟨la1,la2⟩:=la;have hP:s.heap.get? Pt=some (tabObj (trip pos c)):=I.hok Pt _ la1;refine PySem.W.kla_makeFunctionHit (cv:=.ref c) hcl I.ok.glob hg hcode C hP (by simp[TriplesOk,trip,rawInt]) (by simp[codeAmong,trip,rawInt]) hb λctv h' tk hk hsz=>?_;generalize eo:kla_obj "<lambda>" (X.env.qual ++ "<lambda>") params body scope cl ((X.mg "__name__").getD .none) c ctv=ob';have hf:(h'.push ob').get? h'.objs.size=some ob':=aY _ (by rw[<- eo];rfl);have hps:∀b o,s.heap.get? b=some o->(h'.push ob').get? b=some o:=λb o e=>aG _ (hk b o e);have hn:H h'.objs.size=none:=I.hok.fresh hsz;have cf:c≠h'.objs.size:=bH la2 hn;have un:Un (frs X.stack) [] H (upd H h'.objs.size (Ls h'.objs.size λctv=>kla_obj "<lambda>" (X.env.qual ++ "<lambda>") params body scope cl ((X.mg "__name__").getD .none) c ctv)) s.heap (h'.push ob'):=Un.laid hps hsz hn;have hok:=I.hok.laid (a:=h'.objs.size) (o:=Ls h'.objs.size λctv=>kla_obj "<lambda>" (X.env.qual ++ "<lambda>") params body scope cl ((X.mg "__name__").getD .none) c ctv) hps hsz (Om (ctv:=ctv) (by rw[eo];exact hf));have J:=I.call (g':=s.gens) (d':=s.drawn) (t':=tk) (ch:=[]) un hok I.bare λb z=>nomatch z
  subst eo;exact⟨.ref h'.objs.size,_,J,rfl,q h'.objs.size c _ hn cf.symm (λz=>nomatch z) (λc0 z=>by cases z;rfl) ⟨(bL (bH la1 hn)).trans la1,(bL cf).trans la2⟩ bG λb _ _ n=>bL n⟩
end
noncomputable def wo(as:Ε)(H:Hp):Hp:=λb=>if b∈as then none else H b
theorem rN{as:Ε}{H:Hp}{b:Addr}(h:b∉as):wo as H b=H b:=by unfold wo;rw[ZZ h]
theorem Cw{as:Ε}{H:Hp}{b:Addr}(h:b∈as):wo as H b=none:=by unfold wo;rw[ZY h]
theorem zO{as:Ε}{H:Hp}{b:Addr}{u:HO}(e:wo as H b=some u):b∉as/\H b=some u:=by
 by_cases h:b∈as
 .rw[Cw h]at e;cases e
 .rw[rN h]at e;exact⟨h,e⟩
theorem tW{as:Ε}{H:Hp}{b:Addr}(e:H b=none):wo as H b=none:=by
 unfold wo;split
 .rfl
 .exact e
theorem tU{as:Ε}{H:Hp} : Same (wo as H) H:=λb o e=>(zO e).2
noncomputable def JM(base h:Heap)(L:Ε):Heap:=hideAll h ((List.range h.objs.size).filter λb=>!(base.get? b).isSome && !decide (b∈L))
theorem Kr{base h:Heap}{L:Ε} : (JM base h L).objs.size=h.objs.size:=hideAll_size _ _
theorem tL{base h:Heap}{L:Ε}{b:Addr}{o:Obj}(e:h.get? b=some o)(k:(base.get? b).isSome=true\/b∈L):(JM base h L).get? b=some o:=by
 refine hideAll_get _ e λz=>?_;have:=(List.mem_filter.mp z).2;rcases k with k|k<;>simp[k]at this
theorem Jw{base h:Heap}{L:Ε}{b:Addr}{o:Obj}(e:(JM base h L).get? b=some o):h.get? b=some o/\((base.get? b).isSome=true\/b∈L):=by
 have e':h.get? b=some o:=of_hideAll _ e;refine⟨e',?_⟩;cases k:(base.get? b).isSome with
 |true=>exact .inl rfl
 |false =>
  by_cases m:b∈L
  .exact .inr m
  .have:(JM base h L).get? b=none:=hideAll_none _ (List.mem_filter.mpr ⟨List.mem_range.mpr (aJ e'),by simp[k,m]⟩);rw[this]at e;cases e
noncomputable def U3(Pt:Addr)(pos:Pos)(qual:Str)(mkO:Addr->Value->Obj)(js:List Nat)(spR:Μ->Addr->Sp)(ta:TA):TE:=λσ H Q=>ta σ H λvs H1=>∃(f c:Addr)(frees:Μ),H1 f=some (Ls f (mkO c))/\f≠c/\yM Pt pos qual H1 (some c)/\(js.map λj=>σ[j]?)=frees.map (λv=>some (some v)) /\
 spR frees f vs (wo [Pt,c,f] H1) (λv H'=>∀H'',(∀b,b≠Pt->b≠c->H'' b=H' b)->yM Pt pos qual H'' (some c)->H' Pt=none->H' c=none->H' f=none->Q v H'') E0
section
variable{X:Cx}
theorem N_{pins:Ω}{σ:St}{H:Hp}{s:Shared}{scope:Scope}{B:Heap}(I:Inv X pins σ H s):∀{cl:List (Str×Addr)}{js:List Nat}{frees:Μ},(js.map λj=>σ[j]?)=frees.map (λv=>some (some v))->(js.map λj=>X.N[j]?)=cl.map (λq=>some q.1) ->
  (∀q∈cl,X.env.kindOf q.1=some .cell/\X.env.cells.lookup q.1=some q.2/\scope.names.lookup q.1=some .free)->(cl.map (·.1)).Nodup->(∀q∈cl,∀o,s.heap.get? q.2=some o->B.get? q.2=some o)->tY B scope cl frees
 |[],js,frees,h1,h2,_,_,_=>by
  cases js with
  |nil=>cases frees with
   |nil=>exact .nil
   |cons _ _=>cases h1
  |cons _ _=>cases h2
 |(x,c)::cl,js,frees,h1,h2,h3,h4,h5=>by
  cases js with
  |nil=>cases h2
  |cons j js =>
   cases frees with
   |nil=>cases h1
   |cons v frees =>
    simp only[List.map_cons,List.cons.injEq]at h1 h2;obtain⟨k1,k2,k3⟩:=h3 (x,c) aO;obtain⟨m,hn,hl⟩:=I.loc;obtain⟨u,r,l⟩:=hl j x v h2.1 h1.1 (.inr (.inl k1));have q:∃c',X.env.cells.lookup x=some c'/\s.heap.IsCell c' (some u):=by
     rcases l with⟨z,_⟩|⟨_,z⟩
     .rw[show X.env.kindOf x=some .cell from k1]at z;cases z
     .exact z
    obtain⟨c',e1,o,ho,hd⟩:=q;rw[show X.env.cells.lookup x=some c from k2]at e1;cases e1;have nd:=List.nodup_cons.mp h4;have nl:cl.lookup x=none:=by
     cases e:cl.lookup x with
     |none=>rfl
     |some c2=>exact absurd (YV.mpr ⟨(x,c2),sJ e,rfl⟩) nd.1
    refine .cons k3 ⟨o,h5 _ aO o ho,hd⟩ r nl (λy hy=>?_) (N_ I h1.2 h2.2 (λq hq=>h3 q (aH _ hq)) nd.2 λq hq=>h5 q (aH _ hq));obtain⟨_,e2,_⟩:=h3 (y,c) (aH _ hy);have:=I.ok.inj x y c k2 e2;subst this;exact nd.1 (YV.mpr ⟨(x,c),hy,rfl⟩)
variable{p pos pos':Pos}{e:Expr}{es:List Expr}{t:TA}{x y:Str}{k kL:Nat}{ps:Β}{Pt fR:Addr}{fd:FuncData}{params:Arguments}{body:Expr}{scope:Scope}{cl:List (Str×Addr)}{js:List Nat}{spL:Μ->Sp}{spR:Μ->Addr->Sp}{qual:Str}{pm:Value}
theorem Lq(hg:Gl X x)(hm:X.mg x=some (.ref fR))(hk:keepIn X.K (.ref fR)=true)(hb:Binds X.K fd ps [])(hr:eN k X.A)
 (F:∀base' frees f,OkL X.prog X.w X.K X.mg base' kL f [y] (spL frees)->cC X.prog X.w X.K X.mg base' CX0 k fR fd ps (spR frees f))
 (L:∀base' frees f c ctv,base'.get? f=some (kla_obj "<lambda>" qual params body scope cl pm c ctv)->base'.CodeRec (.ref c) qual->tY base' scope cl frees->OkL X.prog X.w X.K X.mg base' kL f [y] (spL frees))
 (hj:(js.map λj=>X.N[j]?)=cl.map (λq=>some q.1))(hcl:∀q∈cl,X.env.kindOf q.1=some .cell/\X.env.cells.lookup q.1=some q.2/\scope.names.lookup q.1=some .free)(nd:(cl.map (·.1)).Nodup)(hfn:∀q∈cl,X.fn q.1=true)
 (ha:PA X (e::es) t)(hdb:(x==("__debug__" : Str))=false:=by decide)
 (he:starEach (e::es) X.env=(false,eval e X.env)::starEach es X.env:=by rfl)(hpl:(backTo pos' (starEach es X.env)).any (·.1)=false:=by rfl) :
  PE X (.Call (.Name x p) (e::es) [] pos') (U3 Pt pos qual (λc ctv=>kla_obj "<lambda>" qual params body scope cl pm c ctv) js spR t):=by
 intro pins s σ H Q I h;refine wpAny_Call_Name_kw (qH I hg hm ?_ hdb);refine callWith_K (h₀:=X.base) I.ok.mod.kin hk (thn (ha pos' pins s σ H _ I h) ?_) he hpl;rintro us s1 ⟨vs,H1,J,r,f,c,frees,hf,nfc,⟨la1,la2⟩,hfr,q⟩;refine⟨J.kIn,?_⟩;obtain⟨ctv,of_⟩:=(J.hok f _ hf).1;have rc:s1.heap.CodeRec (.ref c) qual:=Q0 (J.hok c _ la2);obtain⟨_,oc,ws,tw,ez,hoc,hdc,hqc⟩:=rc;cases ez;have hP:s1.heap.get? Pt=some (tabObj (trip pos c)):=J.hok Pt _ la1;have ncp:c≠Pt:=fH la2 la1 (by intro z;cases z);have nfp:f≠Pt:=fH hf la1 (by intro z;cases z)
 let Lk:Ε:=f::c::cl.map (·.2)
 let B:=JM X.base s1.heap Lk
 let Hn:=wo [Pt,c,f] H1
 have hnO:∀{b:Addr}{u:HO},H1 b=some u->(∀ps,u≠.tbl ps)->(∀φ,u≠.ext φ)->Hn b=some u:=λ{b u}e n1 n2=>(rN (by
  intro z;simp only[YU,List.not_mem_nil,or_false]at z;rcases z with z|z|z<;>subst z
  .rw[la1]at e;cases e;exact n1 _ rfl
  .rw[la2]at e;cases e;exact n2 _ rfl
  .rw[hf]at e;cases e;exact n2 _ rfl)).trans e
 have bB:∀b o,X.base.get? b=some o->B.get? b=some o:=λb o e=>tL (J.bk b o e) (.inl (by rw[e];rfl));have mod:Mod X.K X.mg B:=by
  obtain⟨m1,m2,⟨mb,m3,m4⟩,m5⟩:=J.ok.mod;exact⟨m1.keeps bB,m2.keeps bB,⟨mb,m3.keeps bB,m4⟩,m5.keeps bB⟩
 have cellIn:∀q∈cl,H1 q.2=none/\X.s₀.heap.objs.size<=q.2/\q.2≠X.env.locals:=λq hq=>by
  obtain⟨_,z,_⟩:=hcl q hq;exact⟨J.freeC _ _ z,J.ok.cab _ _ (hfn q hq) z,J.cne _ _ z⟩
 have bs:∀b o,B.get? b=some o->s1.heap.get? b=some o/\Hn b=none:=λb o e=>by
  obtain⟨e1,k⟩:=Jw e;refine⟨e1,?_⟩;rcases k with k|k
  .obtain⟨o',ho'⟩:=Option.isSome_iff_exists.mp k;exact tW (J.bs b o' ho').2
  .rcases YU.mp k with rfl|k
   .exact Cw (by simp)
   .rcases YU.mp k with rfl|k
    .exact Cw (by simp)
    .obtain⟨q,hq,rfl⟩:=YV.mp k;exact tW (cellIn q hq).1
 have stk:∀b∈frs X.stack,B.get? b=none:=λb hb'=>by
  cases z:B.get? b with
  |none=>rfl
  |some o =>
   have fr:=J.stkFree b hb';rcases(Jw z).2 with k|k
   .have:=(J.stack.mem hb').1;rw[this]at k;cases k
   .rcases YU.mp k with rfl|k
    .rw[hf]at fr;cases fr
    .rcases YU.mp k with rfl|k
     .rw[la2]at fr;cases fr
     .obtain⟨q,hq,rfl⟩:=YV.mp k;obtain⟨_,z1,z2⟩:=cellIn q hq;rcases YU.mp (J.stkSub _ hb')with w|w
      .exact absurd w z2
      .obtain⟨_,o',ho',_⟩:=J.ok.funs.mem w;exact absurd (aU (aJ ho') z1) (X9 _)
 have funs:s1.heap.FunFrames B X.stack:=by
  have all:∀(l:List Env),(∀b∈frs l,B.get? b=none)->s1.heap.FunFrames X.base l->s1.heap.FunFrames B l:=by
   intro l
   induction l with
   |nil=>intro _ _;trivial
   |cons env r ih =>
    intro hs hl;obtain⟨hk',⟨L',o,hf',hn,ho,hd⟩,hr'⟩:=hl;exact⟨hk',⟨L',o,hf',hs L' (by unfold frs;rw[List.filterMap_cons,hf'];exact aO),ho,hd⟩,ih (λb hb'=>hs b (by unfold frs;rw[List.filterMap_cons,hf'];exact aH _ hb')) hr'⟩
  exact all X.stack stk J.stack
 have hok:HOk X.prog X.w Hn s1.heap:=λb u e=>by
  obtain⟨nb,e'⟩:=zO e;exact(J.hok b u e').stay (λ_ _ _ z=>z) (λd z=>hnO z (λ_ w=>by cases w) λ_ w=>by cases w) λd xs z=>hnO z (λ_ w=>by cases w) λ_ w=>by cases w
 have e0:Bu X.prog X.w X.K X.mg B X.A X.stack s1 Hn:=⟨J.ok.frames,mod,bs,by rw[Kr];exact aF _,funs,λb z=>tW (J.stkFree b z),hok,J.bare⟩;have G:=F B frees f (L B frees f c ctv (tL of_ (.inr aO)) ⟨c,oc,ws,tw,rfl,tL hoc (.inr (aH _ aO)),hdc,hqc⟩
  (N_ J hfr hj hcl nd λq hq o ho=>tL ho (.inr (aH _ (aH _ (YV.mpr ⟨q,hq,rfl⟩))))))
 have hl:us.length=ps.length:=by rw[<- r.length];exact G.len _ _ _ _ q
 have hbb:=hb s1 us J.kIn (by rw[List.append_nil];exact hl);rw[List.append_nil]at hbb;refine wpAny_call (codeAny_mono (G.run X.A X.stack s1 Hn ⟨[]++us,[]⟩ us vs _ E0 hr e0 hbb r q) ?_);intro res s' hq;cases res with
 |error e=>exact hq.elim
 |ok fl =>
  cases fl with
  |next=>exact False.elim hq
  |brk=>exact False.elim hq
  |cont=>exact False.elim hq
  |ret u =>
   obtain⟨v,H',os,bare,un,hok',rv,q'⟩:=hq;have np:Pt∉frs X.stack:=λz=>by have:=J.stkFree _ z;rw[la1]at this;cases this
   have nc:c∉frs X.stack:=λz=>by have:=J.stkFree _ z;rw[la2]at this;cases this
   have hnP:Hn Pt=none:=Cw (by simp);have hnC:Hn c=none:=Cw (by simp);have kP:=un.keep Pt _ hP hnP np (by simp);have kC:=un.keep c _ hoc hnC nc (by simp);have fP:=un.free Pt _ hP hnP (by simp);have fC:=un.free c _ hoc hnC (by simp)
   let H'':Hp:=upd (upd H' Pt (.tbl (trip pos c))) c (BK c qual)
   have eP:H'' Pt=some (.tbl (trip pos c)):=(bL ncp.symm).trans bG;have eC:H'' c=some (BK c qual):=bG;have eO:∀b,b≠Pt->b≠c->H'' b=H' b:=λb n1 n2=>(bL n2).trans (bL n1);have no:∀{b:Addr}{u:HO},H' b=some u->b≠Pt/\b≠c:=λe=>⟨(λz=>by rw[z,fP]at e;cases e),(λz=>by rw[z,fC]at e;cases e)⟩;have n0:∀{b:Addr},H1 b=none->b≠Pt/\b≠c:=λe=>⟨(λz=>by rw[z,la1]at e;cases e),(λz=>by rw[z,la2]at e;cases e)⟩;have un':Un (frs X.stack) [] H1 H'' s1.heap s'.heap:=by
    refine⟨λb o e n=>un.keep b o e (tW n),λb o e n=>un.slot b o e (tW n),λb o e n z=>?_,un.there,λb xs e=>?_,λb o u e=>?_,λb ps e=>?_⟩
    .rw[eO b (n0 n).1 (n0 n).2];exact un.free b o e (tW n) z
    .have:=un.tups b xs (hnO e (λ_ w=>by cases w) λ_ w=>by cases w);rw[eO b (no this).1 (no this).2];exact this
    .have:=un.frzs b o u (hnO e (λ_ w=>by cases w) λ_ w=>by cases w);rw[eO b (no this).1 (no this).2];exact this
    .by_cases z:b=Pt
     .subst z;rw[la1]at e;cases e;exact⟨#[],by rw[eP];simp⟩
     .obtain⟨more,this⟩:=un.tbls b ps ((rN (by
       intro w;simp only[YU,List.not_mem_nil,or_false]at w;rcases w with w|w|w
       .exact z w
       .subst w;rw[la2]at e;cases e
       .subst w;rw[hf]at e;cases e)).trans e)
      exact⟨more,by rw[eO b (no this).1 (no this).2];exact this⟩
   have hok'':HOk X.prog X.w H'' s'.heap:=λb u e=>by
    by_cases z1:b=c
    .subst z1;rw[eC]at e;cases e;exact JQ ⟨_,oc,ws,tw,rfl,kC,hdc,hqc⟩
    by_cases z2:b=Pt
    .subst z2;rw[eP]at e;cases e;exact kP
    rw[eO b z2 z1]at e;exact(hok' b u e).stay (λ_ _ _ z=>z) (λd z=>by rw[eO d (no z).1 (no z).2];exact z) λd xs z=>by rw[eO d (no z).1 (no z).2];exact z
   exact⟨v,H'',J.call' os un' hok'' bare (λb z=>nomatch z),rv,q' H'' eO ⟨eP,eC⟩ fP fC (un.free f _ of_ (Cw (by simp)) (by simp))⟩
end
noncomputable def Ry(Pt:Addr)(H:Hp):Prop:=∀b,b≠Pt->H b=none\/∃o xs,H b=some (.frz o (.lst xs))
theorem PK{P:Program}{w:World}{K:Frag}{mg mb:Str->Ζ}{CX:CXT}{k:Nat}{fa a c0 Pt:Addr}{fd:FuncData}{x:Str}{sp:Sp}{s₁:Shared}{vs:Ξ}{ns:List Int}
 (KX:K.In s₁.heap)(hP:s₁.heap.get? Pt=some (tabObj #[]))(hKP:K.lookup Pt=none)(hC:codeHdIn K c0 Pt=true)(hB:s₁.heap.BuiltinsAt mg Pt)
 (hns:s₁.heap.Ns mainGlobals mg)(hb:s₁.heap.Ns builtinsNs mb)(hbb:∀x:Str,x ≠ "__name__" -> mb x=bootBuiltins x)(hlim:s₁.heap.NoLimit)(hg:s₁.gens = #[])
 (ha:s₁.heap.get? a=some { cls:=.type "list",data:=.seq vs.toArray })(hi:IntsAre vs ns)(hl:ns.length<=sizeLine)(hr:eN k callerA)
 (F:∀base:Heap,K.In base->base.Ns mainGlobals mg->base.BuiltinsAt mg Pt->cC P w K mg base CX k fa fd [x] sp)(hbind:∀(s:Shared)(u:Value),BindsTo s fd ⟨[u],[]⟩ [(x,u)])
 (hsp:∀H:Hp,Ry Pt H->H Pt=some (.tbl #[])->SqL K H a (ns.map V.int)->sp [.ref a] H (λv _=>v=.bl true) λ_ _ _=>False)
 (hCX:∀H e s',CX [] H s₁ (λ_ _ _=>False) e s'->False) :
  codeAny (model P w) callerA (.call (.ref fa) ⟨[.ref a],[]⟩) (λr s'=>r=.ok (.ret (.bool true))/\OldK s₁.heap s'.heap/\s'.os=s₁.os/\AllBare s'.gens) s₁:=by
 have rv:=tR hi;have lenV:=hi.length;have nPa:a≠Pt:=λz=>by rw[z,hP]at ha;cases ha
 have core:∀H:Hp,Ry Pt H->H Pt=some (.tbl #[])->SqL K H a (ns.map V.int)->HOk P w H s₁.heap->(∀b,H b≠none->b=a\/b=Pt)->(H a≠none->K.lookup a=none) ->
   codeAny (model P w) callerA (.call (.ref fa) ⟨[.ref a],[]⟩) (λr s'=>r=.ok (.ret (.bool true))/\OldK s₁.heap s'.heap/\s'.os=s₁.os/\AllBare s'.gens) s₁:=by
  intro H hO hT hS hok hA hK;have base_of:∀{b:Addr}{o:Obj},s₁.heap.get? b=some o->H b=none->(uT s₁.heap H).get? b=some o:=λe n=>Ka e n;have noA:∀{b:Addr}{o:Obj}{es:Array DictEntry}{ep:Nat},s₁.heap.get? b=some o->o.data=.dict es ep->H b=none:=λ{b o es ep}e d=>by
   cases q:H b with
   |none=>rfl
   |some u =>
    rcases hA b (by rw[q];simp)with e'|e'
    .subst e';rw[ha]at e;cases e;have d':Data.seq vs.toArray _=Data.dict es ep:=d;cases d'
    .subst e';rw[hP]at e;cases e;cases d
  have nsK:∀{b:Addr}{m:Str->Ζ},s₁.heap.Ns b m->(uT s₁.heap H).Ns b m:=λ{b m}h=>by
   obtain⟨o,es,ep,e,d,r⟩:=h;exact⟨o,es,ep,base_of e (noA e d),d,r⟩
  have hKb:K.In (uT s₁.heap H):=λb o e=>base_of (KX b o e) (by
   cases q:H b with
   |none=>rfl
   |some u =>
    rcases hA b (by rw[q];simp)with e'|e'
    .subst e';rw[hK (by rw[q];simp)]at e;cases e
    .subst e';rw[hKP]at e;cases e)
  have hBb:(uT s₁.heap H).BuiltinsAt mg Pt:=by
   obtain⟨bm,o,b1,b2,b3,b4,b5,b6,b7⟩:=hB;refine⟨bm,o,b1,b2,b3,b4,base_of b5 ?_,b6,b7⟩;cases q:H bm with
   |none=>rfl
   |some u =>
    rcases hA bm (by rw[q];simp)with e'|e'
    .subst e';rw[ha]at b5;cases b5;injection b6 with z;exact absurd z (by decide)
    .exact absurd e' b4
  have hM:Mod K mg (uT s₁.heap H):=⟨hKb,nsK hns,⟨mb,nsK hb,hbb⟩,by obtain⟨mc,h1,h2⟩:=hlim;exact⟨mc,nsK h1,h2⟩⟩;have e0:Bu P w K mg (uT s₁.heap H) callerA [] s₁ H:=⟨rfl,hM,λb o e=>Ny e,Nat.le_of_eq (FN _ _),trivial,λb hb=>absurd (show b∈([] : Ε)from hb) (by simp),hok,.of_eq hg⟩;refine codeAny_mono ((F _ hKb (nsK hns) hBb).run callerA [] s₁ H ⟨[.ref a],[]⟩ [.ref a] [.ref a] _ _ hr e0 (hbind s₁ (.ref a)) (.cons rfl .nil) (hsp H hO hT hS)) λr s' h=>?_;cases r with
  |error e=>exact(hCX H e s' h).elim
  |ok fl =>
   cases fl with
   |next=>exact False.elim h
   |brk=>exact False.elim h
   |cont=>exact False.elim h
   |ret u =>
    obtain⟨v,H',os,bare,un,hok',r',q⟩:=h;have q':v=.bl true:=q;subst q';obtain rfl:u=Value.bool true:=r';have kp:∀b o,b≠Pt->s₁.heap.get? b=some o->s'.heap.get? b=some o:=λb o n e=>by
     cases q:H b with
     |none=>exact un.keep b o e q (by intro z;exact absurd (show b∈([] : Ε)from z) (by simp)) (by simp)
     |some u =>
      rcases hO b n with z|⟨ob,xs,z⟩
      .rw[q]at z;cases z
      .have z2:=un.frzs b ob _ z;obtain⟨e1,_⟩:=hok b _ z;obtain⟨e2,_⟩:=hok' b _ z2;rw[e]at e1;cases e1;exact e2
    obtain⟨more,hm⟩:=un.tbls Pt _ hT;have hP':s'.heap.get? Pt=some (tabObj (#[]++more)):=hok' Pt _ hm;refine⟨rfl,⟨λb o e=>?_,λb o e=>?_⟩,os,bare⟩
    .by_cases z:b=Pt
     .subst z;rw[hP]at e;cases e;exact .inr (.inl ⟨((codeHd_of_K KX hC).tab hP).isCodeTable,rfl,#[],more,rfl,hP'⟩)
     .exact .inl (kp b o z e)
    .by_cases z:b=Pt
     .subst z;exact⟨_,hP'⟩
     .exact⟨o,kp b o z e⟩
 cases hk:K.lookup a with
 |some o =>
  have e:=KX a o hk;rw[ha]at e;cases e;refine core (λb=>if b=Pt then some (.tbl #[])else none) (λb n=>.inl (ZZ n)) (ZY rfl) (.inr ⟨_,vs.toArray,_,hk,rfl,rfl,rfl,by rw[aZ,lenV];exact hl,by simpa using rv⟩) (λb u z=>?_) (λb z=>?_) λz=>absurd (ZZ nPa) z
  .by_cases hb:b=Pt
   .have z':=(ZY hb).symm.trans z;cases z';subst hb;exact hP
   .have z':=(ZZ hb).symm.trans z;cases z'
  .by_cases hb:b=Pt
   .exact .inr hb
   .exact absurd (ZZ hb) z
 |none =>
  refine core (λb=>if b=a then some (.frz { cls:=.type "list",data:=.seq vs.toArray } (.lst (ns.map V.int)))else if b=Pt then some (.tbl #[])else none) (λb n=>?_) ((ZZ nPa.symm).trans (ZY rfl)) (.inl (.inr ⟨{ cls:=.type "list",data:=.seq vs.toArray },ZY rfl⟩)) (λb u z=>?_) (λb z=>?_) λ_=>hk
  .by_cases hb:b=a
   .exact .inr ⟨_,_,ZY hb⟩
   .exact .inl ((ZZ hb).trans (ZZ n))
  .by_cases hb:b=a
   .have z':=(ZY hb).symm.trans z;cases z';subst hb;exact⟨ha,by rw[ak];exact hl,vs,_,rv,ha⟩
   .by_cases hb':b=Pt
    .have z':=((ZZ hb).trans (ZY hb')).symm.trans z;cases z';subst hb';exact hP
    .have z':=((ZZ hb).trans (ZZ hb')).symm.trans z;cases z'
  .by_cases hb:b=a
   .exact .inl hb
   .by_cases hb':b=Pt
    .exact .inr hb'
    .exact absurd ((ZZ hb).trans (ZZ hb')) z
noncomputable def GK(K:Frag)(Pt:Addr):Sp:=λvs H Q _=>∃(a:Addr)(ns:List Int),vs=[.ref a]/\SqL K H a (ns.map V.int)/\ns.length<=63/\Ry Pt H/\H Pt=some (.tbl #[])/\∀H',Q (.bl true) H'
theorem Z1{l:PySem.W.OpenLaw}{k:Nat}{x:Str}{q:Program}{loose:Β}{XP:(Str->Ζ)->Heap->Prop}{YP:World->Heap->Prop}{d:DefRec}{K:Params->Frag}(Pt:Addr)(c0:Addr)(hn:l.most=some 63)(hdf:d.params.defaults=[])
 (hr:eN k callerA)(hY:∀(w:World)(h:Heap),YP w h->(K w.params).In h/\h.get? Pt=some (tabObj #[]))(hKP:∀w:World,(K w.params).lookup Pt=none)(hC:∀w:World,codeHdIn (K w.params) c0 Pt=true)
 (F:∀(w:World)(mg:Str->Ζ)(fa:Addr)(h:Heap),(K w.params).In h->h.Ns mainGlobals mg->mg d.name=some (.ref fa) ->
   ∃st,dw (K w.params) mg d.name st [x]/\∀(base:Heap)(f:Addr)(fd:FuncData),base.BuiltinsAt mg Pt->Fun (K w.params) d.name d.name st f fd->cC l.prog w (K w.params) mg base CX0 k f fd [x] (GK (K w.params) Pt)) :
  PySem.W.WalkO q loose XP YP l.row.toRowW d [] (λf vs=>PySem.call f vs):=by
 refine Att.yQ hn hdf λw s₀ s₁ mg mb fa o pm cd doc a vs ns G Y ho hd hcd hmg hobj hints hlen hg=>?_;obtain⟨KX,hP⟩:=hY w _ Y;obtain⟨st,⟨f,fd,hf,hb,hm⟩,ok⟩:=F w mg fa _ KX G.T.g hmg;rw[hm]at hmg;have e:f=fa:=by injection hmg with z;injection z
 subst e;have C:=codeHd_of_K KX (hC w);obtain⟨bm,ob,b1,b2,b3,b4,b5,b6⟩:=G.T.bmain;have hB:s₁.heap.BuiltinsAt mg Pt:=by
  refine⟨bm,ob,b1,b2,λz=>?_,λz=>?_,b3,b4,b5,b6⟩
  .obtain⟨o',es,ep,e,d',_⟩:=G.T.g;rw[z,e]at b3;cases b3;rw[d']at b6;cases b6
  .rw[z,hP]at b3;cases b3;cases b4
 exact PK (sp:=GK (K w.params) Pt) KX hP (hKP w) (hC w) hB G.T.g G.T.b G.T.builtins G.T.nolimit hg hobj hints (aM hlen (by decide)) hr (λbase _ _ hB=>ok base f fd hB hf) (λs u=>.of_eq (hb [u] rfl)) (λH hO hT hS=>⟨a,ns,rfl,hS,hlen,hO,hT,λ_=>rfl⟩) λH e s' z=>z
noncomputable def WL(K:Frag)(mg:Str->Ζ)(x:Str)(st:Stmt)(ps:Β)(Pt:Addr):Prop :=
 ∃f fd c,Fun K x x st f fd/\(∀us:Ξ,us.length=ps.length->bindArgs fd ⟨us,[]⟩=pure (ps.zip us))/\mg x=some (.ref f)/\fd.code=.ref c/\codeHdIn K c Pt=true
section
variable{P:Program}{w:World}{K:Frag}{mg:Str->Ζ}{base:Heap}
theorem WL.okX{k:Nat}{x:Str}{st:Stmt}{ps:Β}{sp:Sp}{Pt:Addr}(h:WL K mg x st ps Pt)
 (hf:∀f fd c,Fun K x x st f fd->fd.code=.ref c->codeHdIn K c Pt=true->cC P w K mg base (CXO P w) k f fd ps sp):OkX P w K mg base k x ps sp:=by
 obtain⟨f,fd,c,a,b,d,e,g⟩:=h;exact⟨f,fd,hf f fd c a e g,.all b,d,a.kp⟩
theorem Fun.okXc{x qual:Str}{st:Stmt}{f:Addr}{fd:FuncData}{N ps:Β}{k:Nat}{sp:Sp}{c0:Addr}(F:Fun K x qual st f fd)(hc:fd.code=.ref c0)(S:bV N ps (bM st))(len:∀vs H Q E,sp vs H Q E->vs.length=ps.length)
 (hbody:∀(A:Around)(outer:List Env)(s:Shared)(H:Hp)(vs:Μ)(Q:VK)(E:XK),eN k (A.deeper (envOfC qual (bM st) s.heap.objs.size f (.ref c0)))->sp vs H Q E ->
   ∃t,PSs (Cj (CXO P w) P w K mg base N qual (bM st) f (.ref c0) A outer s H E) (dU st) t/\t { nx:=λ_ H'=>Q .non H',rt:=Q } (L2.start N vs) H):cC P w K mg base (CXO P w) (k+1) f fd ps sp:=by
 obtain⟨oc,od,kV,doc,pm,an,cdv,ct,osl,rfl,lk,hcd⟩:=F.ex;have hc:cdv=.ref c0:=hc;subst hc;exact Vb lk hcd S len λA outer s H vs Q E hr hsp=>hbody A outer s H vs Q E hr hsp
theorem q_C{h:Heap}{x:Str}{st:Stmt}{ps:Β}{f c0 Pt:Addr}{oc:Value}{od an:Η}{osl:Array (Ζ)}{kV doc pm ct:Value}(N:Nat)(hb:∀(kV doc pm:Value)(an:Η)(cdv ct:Value),Lst N λus=>bindArgs (PySem.W.fnOf x x (fM st) (dU st) (bM st) .none kV doc pm an cdv ct) ⟨us,[]⟩=pure (ps.zip us))(hN:ps.length=N:=by rfl)(X:K.In h:=by assumption)(G:h.Ns mainGlobals mg:=by assumption)
 (a:nsIn K mainGlobals x=some (some (.ref f)):=by k_is)(l:K.lookup f=some ⟨oc,od,.func (PySem.W.fnOf x x (fM st) (dU st) (bM st) .none kV doc pm an (.ref c0) ct),osl⟩:=by k_is)
 (c:codeIn K (.ref c0) x=true:=by k_is)(k:keepIn K (.ref f)=true:=by k_is)(z:codeHdIn K c0 Pt=true:=by kernel_rfl):WL K mg x st ps Pt :=
 ⟨f,_,c0,Kz l c k,λus e=>zy N (hb kV doc pm an (.ref c0) ct) us (e.trans hN),mg_of X G a,rfl,z⟩
noncomputable def spF(Pt:Addr)(sp:Sp):Sp:=λvs H Q _=>∃(G:Hp)(t:Array Value),G Pt=none/\H=upd G Pt (.tbl t)/\sp vs G (λv G'=>G' Pt=none->Q v (upd G' Pt (.tbl t))) E0
theorem cC.frame{k:Nat}{f:Addr}{fd:FuncData}{ps:Β}{sp:Sp}(Pt:Addr)(F:cC P w K mg base CX0 k f fd ps sp):cC P w K mg base CX0 k f fd ps (spF Pt sp):=by
 refine⟨λvs H Q E h=>?_,λA outer s H args us vs Q E hr e0 hb r h=>?_⟩
 .obtain⟨G,t,_,_,z⟩:=h;exact F.len vs G _ E0 z
 obtain⟨G,t,g0,rfl,z⟩:=h;have eP:upd G Pt (.tbl t) Pt=some (.tbl t):=bG;have eO:∀b,b≠Pt->upd G Pt (.tbl t) b=G b:=λb n=>bL n;have hP:s.heap.get? Pt=some (tabObj t):=e0.hok Pt _ eP;have no:∀{b:Addr}{u:HO},G b=some u->b≠Pt:=λe z=>by rw[z,g0]at e;cases e
 have non:∀{b:Addr},upd G Pt (.tbl t) b=none->G b=none:=λ{b}e=>by
  by_cases z:b=Pt
  .rw[z];exact g0
  .rw[<- eO b z];exact e
 have e1:Bu P w K mg base A outer s G:=⟨e0.frames,e0.mod,λb o e=>⟨(e0.bs b o e).1,non (e0.bs b o e).2⟩,e0.bsz,e0.funs,λb hb=>non (e0.frf b hb),λb u e=>by
  have e':upd G Pt (.tbl t) b=some u:=(eO b (no e)).trans e;refine(e0.hok b u e').stay (λ_ _ _ z=>z) (λd z=>?_) λd xs z=>?_
  .rw[eO d (λw=>by rw[w,eP]at z;cases z)]at z;exact z
  .rw[eO d (λw=>by rw[w,eP]at z;cases z)]at z;exact z,e0.bare⟩
 refine codeAny_mono (F.run A outer s G args us vs _ E0 hr e1 hb r z) λres s' hs=>?_;cases res with
 |error e=>exact hs.elim
 |ok fl =>
  cases fl with
  |next=>exact False.elim hs
  |brk=>exact False.elim hs
  |cont=>exact False.elim hs
  |ret u =>
   obtain⟨v,H',os,bare,un,hok,rv,q⟩:=hs;have nP:Pt∉frs outer:=λz=>by have:=e0.frf _ z;rw[eP]at this;cases this
   have kP:=un.keep Pt _ hP g0 nP (by simp);have fP:=un.free Pt _ hP g0 (by simp);have no':∀{b:Addr}{u:HO},H' b=some u->b≠Pt:=λe z=>by rw[z,fP]at e;cases e
   have eP':upd H' Pt (.tbl t) Pt=some (.tbl t):=bG;have eO':∀b,b≠Pt->upd H' Pt (.tbl t) b=H' b:=λb n=>bL n;have back:∀{b:Addr}{u:HO},upd G Pt (.tbl t) b=some u->(∀ps,u≠.tbl ps)->G b=some u:=λ{b u}e n=>by
    rw[eO b (λw=>by rw[w,eP]at e;cases e;exact n _ rfl)]at e;exact e
   refine⟨v,upd H' Pt (.tbl t),os,bare,⟨λb o e n=>un.keep b o e (non n),λb o e n=>un.slot b o e (non n),λb o e n z=>?_,un.there,λb xs e=>?_,λb o u e=>?_,λb ps e=>?_⟩,λb u e=>?_,rv,q fP⟩
   .rw[eO' b (λw=>by rw[w,eP]at n;cases n)];exact un.free b o e (non n) z
   .have:=un.tups b xs (back e (λ_ w=>by cases w));rw[eO' b (no' this)];exact this
   .have:=un.frzs b o u (back e (λ_ w=>by cases w));rw[eO' b (no' this)];exact this
   .by_cases z:b=Pt
    .subst z;rw[eP]at e;cases e;exact⟨#[],by rw[eP'];simp⟩
    .rw[eO b z]at e;obtain⟨more,this⟩:=un.tbls b ps e;exact⟨more,by rw[eO' b z];exact this⟩
   .by_cases z:b=Pt
    .subst z;rw[eP']at e;cases e;exact kP
    .rw[eO' b z]at e;exact(hok b u e).stay (λ_ _ _ z=>z) (λd z=>(eO' d (no' z)).trans z) λd xs z=>(eO' d (no' z)).trans z
theorem OkF.frame{k:Nat}{x:Str}{ps:Β}{sp:Sp}(Pt:Addr)(G:OkF P w K mg base k x ps sp):OkF P w K mg base k x ps (spF Pt sp):=by
 obtain⟨f,fd,F,b,hm,kp⟩:=G;exact⟨f,fd,F.frame Pt,b,hm,kp⟩
end
theorem Sv{K:Frag}{a:Addr}{o:Obj}{h:Heap}(X:Frag.In (K++[(a,o)]) h)(hk:K.lookup a=none):K.In h/\h.get? a=some o:=by
 refine⟨λb u e=>X b u ?_,X a o ?_⟩
 .rw[List.lookup_append,e];rfl
 .rw[List.lookup_append,hk];simp[List.lookup]
theorem boot_reversed:bootBuiltins "reversed" = some (.type "reversed"):=by decide +kernel
noncomputable def Itv(l:Addr)(xs:Μ):It:=⟨λi H=>H l=some (.lst xs)/\i<xs.length,λi H v H'=>H'=H/\xs[xs.length-1-i]?=some v,λi H=>H l=some (.lst xs)/\i=xs.length⟩
theorem Sx{P:Program}{w:World}{K:Frag}{tg:Expr}(it a:Addr)(xs:Μ):Turn P w K tg (Itv a xs) [it] it (λi h=>i<=xs.length/\h.IsRevIter it a ((xs.length:Int)-1-i)) where
 mem:=by simp
 obj:=λi h st b hb=>by
  have e:b=it:=by simpa using hb
  subst e;obtain⟨_,o,e,c,d⟩:=st;exact⟨o,e,λv z=>by rw[d]at z;cases z⟩
 keep:=λi h h' st k=>⟨st.1,st.2.at λo e=>k it (by simp) o e⟩
 item:=by
  intro X hP hw hK hc i pins s σ H E I hf st hg;subst hP hw hK;obtain⟨hq,lt⟩:=hg;obtain⟨_,its,n1,rv,le1,g1⟩:=I.lstM hq;have ex:xs[xs.length-1-i]?=some (xs[xs.length-1-i]'(by omega)):=aj _;obtain⟨u,hu,ru⟩:=zV rv ex;obtain⟨f0,f1,f2,f3,f4,f5⟩:=hf it (by simp);have st2:=st.2;rw[show(xs.length:Int)-1-i=((xs.length-1-i:Nat):Int)by omega]at st2;refine wpAny_pyNext_rev_item st2 (items:=its.toArray) ⟨_,g1,rfl,n1,rfl⟩ (x:=u) (by simpa using hu) λh' st' sb=>?_;have I1:Inv X pins σ H { s with heap:=h' }:=I.turned (t':=s.toks) (λb o hb e=>(sb.2 b hb).trans e) f0 f1 f3 f4 f5;obtain⟨o,e,c,d⟩:=id st';refine⟨u,rfl,Ju (s:={ s with heap:=h' }) e c d (by decide) ⟨_,H,I1,ru,⟨rfl,ex⟩,⟨by exact lt,?_⟩,λb hb=>(hf b hb).1⟩⟩;rw[show(xs.length:Int)-1-((i+1:Nat):Int)=((xs.length-1-i:Nat):Int)-1 by omega];exact st'
 done:=by
  intro X hP hw hK hc i pins s σ H E I hf st hg;subst hP hw hK;obtain⟨hq,e⟩:=hg;obtain⟨f0,f1,f2,f3,f4,f5⟩:=hf it (by simp);have st2:=st.2;rw[show(xs.length:Int)-1-i=-1 by lia]at st2;exact wpAny_pyNext_rev_end (I.ok.hd hc) st2 λh' eb=>⟨rfl,I.turned (t':=s.toks) (λb o hb e=>eb b o hb e) f0 f1 f3 f4 f5⟩
 self:=λ_ _ _ _ _ st h=>wpAny_pyIter_revIter st.2 h
section
variable{X:Cx}{tg:Expr}
noncomputable def aa5(ta:TA):TI:=λσ H R=>ta σ H λvs H1=>∃a xs,vs=[.ref a]/\H1 a=some (.lst xs)/\R (Itv a xs) H1
theorem Zq{a:Expr}{ta:TA}{p pos:Pos}(hg:Gl X "reversed")(hm:X.mg "reversed" = none)(ha:PA X [a] ta)(hs:starEach [a] X.env=[(false,eval a X.env)]:=by rfl):PI X tg (.Call (.Name "reversed" p) [a] [] pos) (aa5 ta):=by
 intro pins s σ H R I h;refine Call_ (uG I hg hm boot_reversed (PyProof.Rows.callWith_type1 (thn (ha pos pins s σ H _ I h) λus s1 hP=>?_) (by rw[hs];rfl) (by rfl)));obtain⟨vs,H1,I1,r1,q1⟩:=hP;obtain⟨l1,xs,e,h1,q⟩:=q1;subst e;obtain⟨u,rfl,ru⟩:=r1.one;cases ru;obtain⟨_,it1,n1,rv1,le1,g1⟩:=I1.lstM h1;refine call_reversed_list (items:=it1.toArray) ⟨_,g1,rfl,n1,rfl⟩ ?_;have is:(s1.heap.push (revObj l1 ((it1.toArray.size:Int)-1))).IsRevIter s1.heap.objs.size l1 ((xs.length:Int)-1-((0:Nat):Int)):=by
  have:(it1.toArray.size:Int)-1=(xs.length:Int)-1-((0:Nat):Int):=by
   have:=rv1.length;simp;lia
  rw[this];exact⟨_,aY _ rfl,rfl,rfl⟩
 refine wpAny_pyIter_revIter is ?_;refine⟨s1.heap.objs.size,[s1.heap.objs.size],_,_,H1,rfl,I1.kept (t':=s1.toks) λb o e=>aG _ e,Sx _ l1 xs,⟨bh _,is⟩,λb hb=>?_,q⟩;have e:b=s1.heap.objs.size:=by simpa using hb
 subst e;exact I1.fpOk (aF _) (I1.hok.fresh (aF _))
end
theorem Qk{ta:TA}{g:TG}{tb:TS}{D:Ends}{σ:L2.St}{H:Hp}(h:ta σ H λvs H1=>∃a xs,vs=[.ref a]/\H1 a=some (.lst xs)/\∃J:Nat->L2.St->Hp->Prop,J 0 σ H1 /\
   (∀(k:Nat)x σ' H',xs[xs.length-1-k]?=some x->k<xs.length->J k σ' H'->H' a=some (.lst xs)->g x σ' H' λσ2 H2=>tb { D with nx:=λσ3 H3=>H3 a=some (.lst xs)/\J (k+1) σ3 H3,ct:=λσ3 H3=>H3 a=some (.lst xs)/\J (k+1) σ3 H3,bk:=D.nx } σ2 H2) /\
   ∀σ' H',J xs.length σ' H'->H' a=some (.lst xs)->D.nx σ' H'):Mf (aa5 (tMA ta)) g tb D σ H:=by
 refine⟨_,h,?_⟩;rintro vs H1 ⟨a,xs,rfl,hx,J,j0,step,fin⟩;refine⟨a,xs,rfl,hx,λk m σ' H'=>k<=xs.length/\m=xs.length-k/\H' a=some (.lst xs)/\J k σ' H',⟨_,bh _,rfl,hx,j0⟩,?_⟩;rintro k m σ' H' ⟨hk,rfl,ha',j⟩;by_cases e:k=xs.length
 .subst e;exact .inl ⟨⟨ha',rfl⟩,fin σ' H' j ha'⟩
 .have hlt:k<xs.length:=by exact XX hk e
  refine .inr ⟨⟨ha',hlt⟩,λσ3 H3=>H3 a=some (.lst xs)/\J (k+1) σ3 H3,λσ3 H3 ⟨z1,z3⟩=>⟨xs.length-(k+1),by lia,by exact hlt,rfl,z1,z3⟩,?_⟩;rintro v H'' ⟨rfl,e1⟩;exact step k v σ' H'' e1 hlt j ha'
theorem vD{news:List (Addr×HO)}{b:Addr}{o:HO}(e:news.lookup b=some o):(b,o)∈news:=by
 induction news with
 |nil=>simp at e
 |cons p l ih =>
  rw[List.lookup_cons]at e;by_cases z:b==p.1
  .rw[z]at e;cases e;have:b=p.1:=by simpa using z
   subst this;exact aO
  .rw[Bool.eq_false_iff.mpr z]at e;exact aH _ (ih e)
section
variable{X:Cx}
noncomputable def abA:R2:=λx y H Q=>∃c n,x=.str ⟨#[c]⟩/\y=.int n/\0<=n/\n<=1000/\∀z:Str,z.cps.toList=List.replicate n.toNat c->Q (.str z) H
theorem Xw{X:Cx} : OpR X (binaryOp .Mult) abA:=by
 intro pins s σ H x y v u Q I rx ry h;obtain⟨c,n,rfl,rfl,h0,h1,q⟩:=h;by_cases e:n=0
 .subst e;obtain⟨t,rfl⟩:=rx;obtain⟨t',rfl⟩:=ry;exact PySem.P.mul_str_none (by decide) (by decide) ⟨.str Str.empty,H,I.tok _,⟨_,rfl⟩,q _ rfl⟩
 .exact X7 pins s σ H _ _ v u Q I rx ry ⟨c,n,rfl,rfl,by lia,h1,q⟩
end
end L2
namespace Lv
noncomputable def QV(bs:List Nat):Nat:=bs.foldl Nat.lcm 1
theorem ur:∀(bs:List Nat)(a m:Nat),bs.foldl Nat.lcm a ∣ m↔a ∣ m/\∀b∈bs,b ∣ m
 |[],a,m=>by simp
 |b::bs,a,m=>by
  rw[List.foldl_cons,ur bs,Nat.lcm_dvd_iff];simp only[YU,forall_eq_or_imp,and_assoc]
theorem vU{bs:List Nat}{m:Nat} : QV bs ∣ m↔∀b∈bs,b ∣ m:=by
 unfold QV;rw[ur];simp
theorem CW{bs:List Nat}{b:Nat}(h:b∈bs):b ∣ QV bs:=vU.mp (Nat.dvd_refl _) b h
theorem um:∀(bs:List Nat)(a:Nat),0<a->(∀b∈bs,0<b)->0<bs.foldl Nat.lcm a
 |[],a,h,_=>h
 |b::bs,a,h,hb=>um bs _ (Nat.lcm_pos h (hb b aO)) λc hc=>hb c (aH _ hc)
theorem Jp{bs:List Nat}(h:∀b∈bs,0<b):0<QV bs:=um bs 1 (by decide) h
end Lv
namespace Ac
noncomputable def lw(t b:Int):Int×Int:=(t/(Int.gcd t b:Nat),b/(Int.gcd t b:Nat))
theorem Us{t b:Int}(hb:0<b):(0:Int)<(Int.gcd t b:Nat):=by
 have:=Int.gcd_pos_of_ne_zero_right t (show b≠0 by exact Int.ne_of_gt hb);lia
theorem dX{t b:Int}(hb:0<b):0<(lw t b).2:=Int.ediv_pos_of_pos_of_dvd hb (XY (Us hb)) (Int.gcd_dvd_right t b)
theorem pN{t b:Int}(hb:0<b):Int.gcd (lw t b).1 (lw t b).2=1:=Int.gcd_ediv_gcd_ediv_gcd (by have:=Us (t:=t) hb;lia)
theorem vC{t b:Int}(hb:0<b):(lw t b).1*b=t*(lw t b).2:=by
 have d1:=Int.gcd_dvd_left t b;have d2:=Int.gcd_dvd_right t b;have g0:=Us (t:=t) hb;unfold lw;generalize hg:((Int.gcd t b:Nat):Int)=g at *;obtain⟨x,rfl⟩:=d1;obtain⟨y,rfl⟩:=d2;show g*x/g*(g*y)=g*x*(g*y/g);rw[Int.mul_ediv_cancel_left _ (Int.ne_of_gt g0),Int.mul_ediv_cancel_left _ (Int.ne_of_gt g0),Int.mul_left_comm,Int.mul_assoc]
theorem Cz(t b:Int):(lw t b).1.natAbs<=t.natAbs:=Int.natAbs_ediv_le_natAbs _ _
theorem vO(t b:Int):(lw t b).2.natAbs<=b.natAbs:=Int.natAbs_ediv_le_natAbs _ _
theorem Ob{a b c:Int}(h:a ∣ b*c)(g:Int.gcd a b=1):a ∣ c:=by
 refine Int.natAbs_dvd_natAbs.mp ((show Nat.Coprime a.natAbs b.natAbs from g).dvd_of_dvd_mul_left ?_);rw[<- Int.natAbs_mul];exact Int.natAbs_dvd_natAbs.mpr h
theorem uniq{x y u v:Int}(hy:0<y)(hv:0<v)(g1:Int.gcd x y=1)(g2:Int.gcd u v=1)(e:x*v=u*y):x=u/\y=v:=by
 have d1:y ∣ v:=by
  have h:y ∣ x*v:=⟨u,by rw[e,Int.mul_comm]⟩;exact Ob h (by rw[Int.gcd_comm];exact g1)
 have d2:v ∣ y:=by
  have h:v ∣ u*y:=⟨x,by rw[<- e,Int.mul_comm]⟩;exact Ob h (by rw[Int.gcd_comm];exact g2)
 have e2:y=v:=Int.dvd_antisymm (XY hy) (XY hv) d1 d2;subst e2;exact⟨Int.eq_of_mul_eq_mul_right (Int.ne_of_gt hy) e,rfl⟩
theorem aaU{t b x y:Int}(hb:0<b)(hy:0<y)(g:Int.gcd x y=1)(e:x*b=t*y):x=(lw t b).1/\y=(lw t b).2:=by
 refine uniq hy (dX hb) g (pN hb) ?_;have h:=vC (t:=t) hb;have h1:x*(lw t b).2*b=(lw t b).1*y*b:=by
  rw[Int.mul_right_comm,e,Int.mul_right_comm _ y b,h,Int.mul_right_comm]
 exact Int.eq_of_mul_eq_mul_right (Int.ne_of_gt hb) h1
theorem ZP{W x S z o:Int}(hS:0<S)(ho:0<o)(g:Int.gcd z o=1)(e:z*((lw W S).2*(lw x S).2)=((lw W S).1*(lw x S).2+(lw x S).1*(lw W S).2)*o):z=(lw (W+x) S).1/\o=(lw (W+x) S).2:=by
  refine aaU hS ho g ?_;have h1:=vC (t:=W) hS;have h2:=vC (t:=x) hS;have p1:=dX (t:=W) hS;have p2:=dX (t:=x) hS;generalize(lw W S).1=a at *;generalize(lw W S).2=b at *;generalize(lw x S).1=c at *;generalize(lw x S).2=d at *;have key:z*S*(b*d)=(W+x)*o*(b*d):=by
    calc z*S*(b*d)=z*(b*d)*S:=by rw[Int.mul_right_comm]
      _=(a*d+c*b)*o*S:=by rw[e]
      _=(a*S*d+c*S*b)*o:=by
        rw[Int.mul_right_comm,Int.add_mul,Int.mul_right_comm a d S,Int.mul_right_comm c b S]
      _=(W*b*d+x*d*b)*o:=by rw[h1,h2]
      _=(W+x)*o*(b*d):=by
        rw[Int.mul_assoc W,Int.mul_assoc x,Int.mul_comm d b,<- Int.add_mul,Int.mul_right_comm]
  exact Int.eq_of_mul_eq_mul_right (Int.ne_of_gt (XZ p1 p2)) key
theorem tG{t b:Int}(hb:0<b):((lw t b).1=0/\(lw t b).2=1)↔t=0:=by
 have h:=vC (t:=t) hb;have p:=dX (t:=t) hb;constructor
 .rintro⟨h1,h2⟩;rw[h1,h2]at h;lia
 .rintro rfl;have g:=pN (t:=0) hb;rw[Int.zero_mul]at h;have h0:(lw 0 b).1=0:=by
   rcases Int.mul_eq_zero.mp h with z|z
   .exact z
   .lia
  rw[h0,Int.gcd_zero_left]at g;exact⟨h0,by lia⟩
theorem ab6{t b:Int}(hb:0<b)(ht:0<=t):0<=(lw t b).1:=Int.ediv_nonneg ht (XY (Us hb))
theorem aaJ{t b:Int}(hb:0<b)(ht:t<=b):(lw t b).1<=(lw t b).2:=Int.ediv_le_ediv (Us hb) ht
section
variable{κ:Type}[DecidableEq κ]
noncomputable def look(acc:List (κ×Int))(r:κ):Int:=((acc.find? λg=>decide (g.1=r)).map (·.2)).getD 0
noncomputable def put(acc:List (κ×Int))(r:κ)(y:Int):List (κ×Int):=if(acc.any λg=>decide (g.1=r))=true then acc.map (λg=>if g.1=r then(g.1,y)else g)else acc++[(r,y)]
noncomputable def iC(gs:List (κ×Int)):List (κ×Int):=gs.foldl (λa g=>put a g.1 (look a g.1+g.2)) []
theorem xM(gs:List (κ×Int))(g:κ×Int):iC (gs++[g])=put (iC gs) g.1 (look (iC gs) g.1+g.2):=by
 unfold iC;rw[List.foldl_append];rfl
theorem M_(acc:List (κ×Int))(r:κ)(y:Int):(put acc r y).length<=acc.length+1:=by
 unfold put;split
 .rw[ak];exact Xs _
 .rw[aA];simp
theorem Vr{acc:List (κ×Int)}(h:(acc.map (·.1)).Nodup)(r:κ)(y:Int):((put acc r y).map (·.1)).Nodup:=by
 unfold put;split
 .have e:(acc.map (λg=>if g.1=r then(g.1,y)else g)).map (·.1)=acc.map (·.1):=by
   rw[List.map_map];refine List.map_congr_left λg _=>?_;show(if g.1=r then(g.1,y)else g).1=g.1;split<;>rfl
  rw[e];exact h
 .rename_i hn
  rw[bA];refine List.nodup_append.mpr ⟨h,by simp,?_⟩;intro a ha b hb e;subst e;simp only[List.map_cons,List.map_nil,YR]at hb;subst hb;obtain⟨g,hg,e⟩:=YV.mp ha;exact hn (List.any_eq_true.mpr ⟨g,hg,Zs e⟩)
theorem vD(acc:List (κ×Int))(r:κ):look acc r=0\/∃g∈acc,look acc r=g.2:=by
 unfold look;cases h:acc.find? λg=>decide (g.1=r)with
 |none=>exact .inl rfl
 |some g=>exact .inr ⟨g,List.mem_of_find?_eq_some h,rfl⟩
theorem Og{acc:List (κ×Int)}{r:κ}{y:Int}{g:κ×Int}(h:g∈put acc r y):g.2=y\/g∈acc:=by
 unfold put at h;split at h
 .obtain⟨g',hg,e⟩:=YV.mp h;split at e
  .subst e;exact .inl rfl
  .subst e;exact .inr hg
 .rcases Y1.mp h with h|h
  .exact .inr h
  .rw[YR.mp h];exact .inl rfl
theorem Cv(gs:List (κ×Int)):(∀g∈gs,0<=g.2)->((iC gs).map (·.1)).Nodup/\(iC gs).length<=gs.length/\∀g∈iC gs,0<=g.2/\g.2<=(gs.map (·.2)).sum:=by
 suffices H:∀(n:Nat)(gs:List (κ×Int)),gs.length=n->(∀g∈gs,0<=g.2)->((iC gs).map (·.1)).Nodup/\(iC gs).length<=gs.length/\(0<=(gs.map (·.2)).sum)/\∀g∈iC gs,0<=g.2/\g.2<=(gs.map (·.2)).sum from λh=>let⟨a,b,_,c⟩:=H _ gs rfl h;⟨a,b,c⟩
 intro n
 induction n with
 |zero =>
  intro gs h _;rw[List.eq_nil_of_length_eq_zero h];exact⟨by simp[iC],by simp[iC],by simp,by simp[iC]⟩
 |succ n ih =>
  intro gs h hp;obtain⟨gs',g,rfl⟩ : ∃gs' g,gs=gs'++[g]:=⟨gs.dropLast,gs.getLast (by intro e;rw[e]at h;cases h),(List.dropLast_concat_getLast _).symm⟩;have hl:gs'.length=n:=by rw[aA]at h;simpa using h
  obtain⟨h1,h2,h3,h4⟩:=ih gs' hl λg hg=>hp g (List.mem_append_left _ hg);have hg:=hp g (aQ _ (by simp));rw[xM];have hs:((gs'++[g]).map (·.2)).sum=(gs'.map (·.2)).sum+g.2:=by simp
  rw[hs];have lk:0<=look (iC gs') g.1/\look (iC gs') g.1<=(gs'.map (·.2)).sum:=by
   rcases vD (iC gs') g.1 with e|⟨u,hu,e⟩
   .rw[e];exact⟨Int.le_refl _,h3⟩
   .rw[e];exact h4 u hu
  refine⟨Vr h1 _ _,?_,by lia,λu hu=>?_⟩
  .have:=M_ (iC gs') g.1 (look (iC gs') g.1+g.2);rw[aA];simp only[List.length_cons,List.length_nil];exact aM this (Nat.succ_le_succ h2)
  .rcases Og hu with e|hu
   .rw[e];lia
   .have:=h4 u hu;lia
theorem Nf{acc:List (κ×Int)}{r:κ}{y:Int}{g:κ×Int}(h:g∈put acc r y):g.1=r\/g.1∈acc.map (·.1):=by
 unfold put at h;split at h
 .obtain⟨g',hg,e⟩:=YV.mp h;split at e
  .subst e;exact .inr (YV.mpr ⟨g',hg,rfl⟩)
  .subst e;exact .inr (YV.mpr ⟨_,hg,rfl⟩)
 .rcases Y1.mp h with h|h
  .exact .inr (YV.mpr ⟨_,h,rfl⟩)
  .rw[YR.mp h];exact .inl rfl
theorem T_(gs:List (κ×Int)):∀g∈iC gs,g.1∈gs.map (·.1):=by
 suffices H:∀(n:Nat)(gs:List (κ×Int)),gs.length=n->∀g∈iC gs,g.1∈gs.map (·.1)from H _ gs rfl
 intro n
 induction n with
 |zero =>
  intro gs h g hg;rw[List.eq_nil_of_length_eq_zero h]at hg;simp[iC]at hg
 |succ n ih =>
  intro gs h u hu;obtain⟨gs',g,rfl⟩ : ∃gs' g,gs=gs'++[g]:=⟨gs.dropLast,gs.getLast (by intro e;rw[e]at h;cases h),(List.dropLast_concat_getLast _).symm⟩;have hl:gs'.length=n:=by rw[aA]at h;simpa using h
  rw[xM]at hu;rw[bA];rcases Nf hu with e|e
  .rw[e];exact aQ _ (by simp)
  .obtain⟨v,hv,e⟩:=YV.mp e;rw[<- e];exact List.mem_append_left _ (ih gs' hl v hv)
noncomputable def ways(gs:List (κ×Int))(S:Int):List (κ×Int×Int):=((iC gs).filter λg=>decide (0<g.2)).map λg=>(g.1,lw g.2 S)
theorem Ve{gs:List (κ×Int)}(h:∀g∈gs,0<=g.2)(S:Int):(ways gs S).length<=gs.length:=by
 unfold ways;rw[ak];exact aM (List.length_filter_le _ _) (Cv gs h).2.1
theorem Um{gs:List (κ×Int)}{S:Int}{g:κ×Int×Int}(h:g∈ways gs S):g.1∈gs.map (·.1):=by
 unfold ways at h;obtain⟨u,hu,rfl⟩:=YV.mp h;exact T_ gs u (List.mem_filter.mp hu).1
end
end Ac
namespace K58
open PySem PyProof.Rows L2
theorem V0:sE (.non) (.non)=true:=rfl
theorem T5{j:Int} : sE (.non) (.int j)=true:=rfl
theorem Ud{i:Int} : sE (.int i) (.non)=true:=rfl
theorem RM{c:Bool} : sE (.non) (.bl c)=true:=rfl
theorem UL{b:Bool} : sE (.bl b) (.non)=true:=rfl
theorem VN{t:Str} : sE (.non) (.str t)=true:=rfl
theorem Vp{s:Str} : sE (.str s) (.non)=true:=rfl
theorem RT{i:Int}{j:Int} : sE (.int i) (.int j)=true:=rfl
theorem RQ{b:Bool}{c:Bool} : sE (.bl b) (.bl c)=true:=rfl
theorem R6{s:Str}{t:Str} : sE (.str s) (.str t)=true:=rfl
theorem RB{i:Int}{t:Str} : sE (.int i) (.str t)=true:=rfl
theorem VH{s:Str}{j:Int} : sE (.str s) (.int j)=true:=rfl
theorem Ra{b:Bool}{t:Str} : sE (.bl b) (.str t)=true:=rfl
theorem SX{s:Str}{c:Bool} : sE (.str s) (.bl c)=true:=rfl
noncomputable def mI(j:Nat)(σ:L2.St)(_:Hp):Nat:=match σ.getD j none with|some (.int k)=>k.natAbs|_=>0
local macro_rules| `(tactic|walk_at "rd")=>`(tactic|simp only[uL,Vi,Ur,Va,tOp,tUn,rU,Oa,Jo,X5,tSl,Qf,tC,Oc,rI0,rI,Wq,Vh,WQ,CT,Ei,tCB,Ai,JT,Yd,tOr,YL,Nz,OJ,ZJ,V4,Eh,Wa,cB,Wr,Pb,Np,Ox,Oi,O6,Wo,Nh,Gx,KY,wZ,GD,Pr,U5,rEq,rNe,V0,T5,Ud,RM,UL,VN,Vp,RT,RQ,R6,RB,VH,Ra,SX,MJ,Nr,xY,Lr,G_,Lx,VL,Rq,YT,aai,Ends.unset,Ws,YQ,GZ,ZS,Vn,Yj,Wz,O_,UW,Rf,YJ,tSM,K_,Ia,BZ,Tn,Xz,Oq,Gj,X_,zu,Hu,Oz,T9,rJoin,Vf,RZ,tB,Kl,Wj,TJ,zG,NT,MK,Yi,YK,RL,N6,HX,Tp,K9,Rv,Av,ZQ,V6,Ip,V.str.injEq,
 L2.start,List.replicate_succ,List.replicate_zero,Nat.reduceSub,Nat.reduceAdd,List.map_cons,List.map_nil,List.length_cons,List.length_nil,List.cons_append,List.nil_append,List.append_nil,List.getElem?_cons_zero,List.getElem?_cons_succ,List.set_cons_zero,List.set_cons_succ,List.set_nil,Option.some.injEq,exists_eq_left',exists_eq_left,exists_and_left,exists_and_right,exists_eq_right,exists_eq,exists_eq',and_assoc,V.int.injEq,V.ref.injEq,V.bl.injEq,V.ty.injEq,List.cons.injEq,HO.tup.injEq,HO.lst.injEq,and_true,true_and,reduceCtorEq,fZ,dj,bG,decide_true,decide_false,Bool.not_true,Bool.not_false,if_true,if_false,ite_true,ite_false,XW,YU,String.reduceEq,or_true,true_or,or_false,false_or,beq_self_eq_true,Bool.or_true,Bool.true_or,Bool.or_false,Bool.false_or,Bool.and_true,Bool.and_false,Bool.true_and,Bool.false_and,String.reduceBEq,Int.reduceToNat,Int.reducePow,Int.reduceMul,Int.reduceSub,Int.reduceAdd,Int.reduceNeg,Int.reduceLE,Int.reduceLT,Int.reduceEq,ne_eq,not_false_eq_true,not_true_eq_false,Int.cast_ofNat_Int])
open PySem.NumText
noncomputable abbrev uZ:Stmt:=top 10
noncomputable abbrev eZ:Β:=["thing"]
noncomputable abbrev eG:Str := "is_whole"
noncomputable abbrev LK:Β:=["thing"]
theorem JC:bV LK eZ (bM uZ):=fsc
noncomputable abbrev yE:Stmt:=top 11
noncomputable abbrev ig:Β:=["one", "other"]
noncomputable abbrev g_:Str := "divisor"
noncomputable abbrev QH:Β:=["one", "other", "left", "right", "rest"]
theorem kj:bV QH ig (bM yE):=fsc
noncomputable abbrev Io:Stmt:=top 15
noncomputable abbrev iY:Β:=["top", "bottom"]
noncomputable abbrev iR:Str := "ratio"
noncomputable abbrev Yl:Β:=["top", "bottom", "common"]
theorem Cp:bV Yl iY (bM Io):=fsc
noncomputable abbrev uP:Stmt:=top 16
noncomputable abbrev jo:Β:=["thing"]
noncomputable abbrev jl:Str := "is_ratio"
noncomputable abbrev Li:Β:=["thing", "top", "bottom"]
theorem sU:bV Li jo (bM uP):=fsc
noncomputable abbrev Kv:Stmt:=top 17
noncomputable abbrev qJ:Β:=["one", "other"]
noncomputable abbrev qK:Str := "plus"
noncomputable abbrev aad:Β:=["one", "other"]
theorem Wh:bV aad qJ (bM Kv):=fsc
noncomputable abbrev Ht:Stmt:=top 18
noncomputable abbrev vN:Β:=["one", "other"]
noncomputable abbrev vR:Str := "times"
noncomputable abbrev Yh:Β:=["one", "other"]
theorem Rj:bV Yh vN (bM Ht):=fsc
noncomputable abbrev Lh:Stmt:=top 19
noncomputable abbrev zF:Β:=["one", "other"]
noncomputable abbrev zN:Str := "over"
noncomputable abbrev ZG:Β:=["one", "other"]
theorem Yc:bV ZG zF (bM Lh):=fsc
noncomputable abbrev Gu:Stmt:=top 20
noncomputable abbrev qb:Β:=["one", "other"]
noncomputable abbrev qg:Str := "under"
noncomputable abbrev Xh:Β:=["one", "other"]
theorem TY:bV Xh qb (bM Gu):=fsc
noncomputable abbrev Ay:Stmt:=top 21
noncomputable abbrev tO:Β:=["one"]
noncomputable abbrev tX:Str := "parted"
noncomputable abbrev Rh:Β:=["one"]
theorem Qi:bV Rh tO (bM Ay):=fsc
noncomputable abbrev vA:Stmt:=top 23
noncomputable abbrev iZ:Β:=["fractions"]
noncomputable abbrev gW:Str := "level"
noncomputable abbrev O9:Β:=["fractions", "bottom", "one"]
theorem vg:bV O9 iZ (bM vA):=fsc
noncomputable abbrev FZ:Stmt:=top 24
noncomputable abbrev vZ:Β:=["fractions"]
noncomputable abbrev xu:Str := "total"
noncomputable abbrev WK:Β:=["fractions", "leveled"]
theorem J_:bV WK vZ (bM FZ):=fsc
noncomputable abbrev Mr:Stmt:=top 26
noncomputable abbrev zW:Β:=["thing", "many"]
noncomputable abbrev zP:Str := "fits"
noncomputable abbrev Y0:Β:=["thing", "many"]
theorem Xr:bV Y0 zW (bM Mr):=fsc
noncomputable abbrev qD:Stmt:=top 27
noncomputable abbrev iT:Β:=["hall", "plan"]
noncomputable abbrev i_:Str := "check_plan"
noncomputable abbrev Gh:Β:=["hall", "plan", "room", "thing"]
theorem pK:bV Gh iT (bM qD):=fsc
noncomputable abbrev jd:Stmt:=top 28
noncomputable abbrev jZ:Β:=["offer", "tops"]
noncomputable abbrev jN:Str := "behind_door"
noncomputable abbrev iM:Β:=["offer", "tops", "leveled"]
theorem rD:bV iM jZ (bM jd):=fsc
noncomputable abbrev pG:Stmt:=top 29
noncomputable abbrev jL:Β:=["hall", "offer", "leveled"]
noncomputable abbrev jA:Str := "raised_look"
noncomputable abbrev Dg:Β:=["hall", "offer", "leveled", "behind"]
theorem sG:bV Dg jL (bM pG):=fsc
noncomputable abbrev j6:Stmt:=top 31
noncomputable abbrev gG:Β:=["hall", "plan"]
noncomputable abbrev gF:Str := "chosen_doors"
noncomputable abbrev nQ:Β:=["hall", "plan"]
theorem zf:bV nQ gG (bM j6):=fsc
noncomputable abbrev uQ:Stmt:=top 33
noncomputable abbrev oM:Β:=["offer"]
noncomputable abbrev oF:Str := "edges_of"
noncomputable abbrev Ks:Β:=["offer", "edges", "reached", "room", "chance"]
theorem jr:bV Ks oM (bM uQ):=fsc
noncomputable abbrev lO:Stmt:=top 34
noncomputable abbrev jR:Β:=["edges", "number"]
noncomputable abbrev jT:Str := "room_behind"
noncomputable abbrev oX:Β:=["edges", "number", "rest"]
theorem sy:bV oX jR (bM lO):=fsc
noncomputable abbrev qp:Stmt:=top 35
noncomputable abbrev lR:Β:=["share", "pays"]
noncomputable abbrev lV:Str := "paid_along"
noncomputable abbrev Iu:Β:=["share", "pays", "leveled", "top", "bottom", "pay"]
theorem fj:bV Iu lR (bM qp):=fsc
noncomputable abbrev rY:Stmt:=top 36
noncomputable abbrev tH:Β:=["hall", "plan", "start", "numbers"]
noncomputable abbrev tK:Str := "run_of"
noncomputable abbrev rR:Β:=["hall", "plan", "start", "numbers", "chosen", "edges", "steps", "room", "number"]
theorem j_:bV rR tH (bM rY):=fsc
noncomputable abbrev tV:Stmt:=top 39
noncomputable abbrev kO:Β:=["thing"]
noncomputable abbrev k_:Str := "is_word"
noncomputable abbrev xR:Β:=["thing"]
theorem Lj:bV xR kO (bM tV):=fsc
noncomputable abbrev qF:Stmt:=top 41
noncomputable abbrev lN:Β:=["name", "pay"]
noncomputable abbrev lC:Str := "check_head"
noncomputable abbrev G6:Β:=["name", "pay"]
theorem Ef:bV G6 lN (bM qF):=fsc
noncomputable abbrev jH:Stmt:=top 42
noncomputable abbrev gb:Β:=["room"]
noncomputable abbrev gq:Str := "check_room_name"
noncomputable abbrev wI:Β:=["room"]
theorem uX:bV wI gb (bM jH):=fsc
noncomputable abbrev oh:Stmt:=top 43
noncomputable abbrev je:Β:=["chance"]
noncomputable abbrev jg:Str := "check_chance"
noncomputable abbrev Bw:Β:=["chance"]
theorem zc:bV Bw je (bM oh):=fsc
noncomputable abbrev lF:Stmt:=top 44
noncomputable abbrev ju:Β:=["pairs"]
noncomputable abbrev j4:Str := "check_pairs"
noncomputable abbrev pF:Β:=["pairs", "room", "chance"]
theorem ou:bV pF ju (bM lF):=fsc
noncomputable abbrev lA:Stmt:=top 45
noncomputable abbrev jG:Β:=["pairs"]
noncomputable abbrev jM:Str := "joined_ways"
noncomputable abbrev ud:Β:=["pairs", "chances", "room", "chance"]
theorem jO:bV ud jG (bM lA):=fsc
noncomputable abbrev pO:Stmt:=top 49
noncomputable abbrev jW:Β:=["share"]
noncomputable abbrev jF:Str := "check_share"
noncomputable abbrev DP:Β:=["share"]
theorem CG:bV DP jW (bM pO):=fsc
noncomputable abbrev qQ:Stmt:=top 50
noncomputable abbrev lM:Β:=["rooms"]
noncomputable abbrev lQ:Str := "numbers_of"
noncomputable abbrev FT:Β:=["rooms", "numbers", "room", "name"]
theorem lX:bV FT lM (bM qQ):=fsc
noncomputable abbrev mF:Stmt:=top 51
noncomputable abbrev iD:Β:=["door", "numbers"]
noncomputable abbrev iH:Str := "numbered_ways"
noncomputable abbrev yX:Β:=["door", "numbers", "numbered", "name", "chance"]
theorem iG:bV yX iD (bM mF):=fsc
noncomputable abbrev sZ:Stmt:=top 52
noncomputable abbrev mV:Β:=["doors", "numbers"]
noncomputable abbrev mK:Str := "offers_of"
noncomputable abbrev Jz:Β:=["doors", "numbers", "taken", "told", "door"]
theorem mX:bV Jz mV (bM sZ):=fsc
noncomputable abbrev qU:Stmt:=top 56
noncomputable abbrev lu:Β:=["many"]
noncomputable abbrev lW:Str := "check_many"
noncomputable abbrev FW:Β:=["many"]
theorem DR:bV FW lu (bM qU):=fsc
noncomputable abbrev yq:Stmt:=top 57
noncomputable abbrev qt:Β:=["raised", "bottom"]
noncomputable abbrev qN:Str := "lowered"
noncomputable abbrev PJ:Β:=["raised", "bottom"]
theorem K4:bV PJ qt (bM yq):=fsc
noncomputable abbrev jV:Stmt:=top 58
noncomputable abbrev gH:Β:=["hall", "chosen", "ahead"]
noncomputable abbrev gJ:Str := "plan_round"
noncomputable abbrev jw:Β:=["hall", "chosen", "ahead", "leveled", "raised"]
theorem pI:bV jw gH (bM jV):=fsc
noncomputable abbrev mC:Stmt:=top 59
noncomputable abbrev kI:Β:=["first", "many", "follow"]
noncomputable abbrev kJ:Str := "rounds_behind"
noncomputable abbrev yR:Β:=["first", "many", "follow", "told"]
theorem pX:bV yR kI (bM mC):=fsc
noncomputable abbrev gP:Stmt:=top 60
noncomputable abbrev iu:Β:=["hall", "plan", "many"]
noncomputable abbrev fU:Str := "plan_rounds"
noncomputable abbrev DG:Β:=["hall", "plan", "many", "chosen"]
theorem rZ:bV DG iu (bM gP):=fsc
noncomputable abbrev KJ:Stmt:=top 62
noncomputable abbrev vo:Β:=["_law_script", "_law_k"]
noncomputable abbrev wL:Str := "_law_cell"
noncomputable abbrev aal:Β:=["_law_script", "_law_k"]
theorem V8:bV aal vo (bM KJ):=fsc
noncomputable abbrev BL:Stmt:=top 63
noncomputable abbrev m7:Β:=["_law_cell_here", "_law_many"]
noncomputable abbrev m8:Str := "_law_stream"
noncomputable abbrev RX:Β:=["_law_cell_here", "_law_many", "_law_found", "_law_number", "_law_digits", "_law_k"]
theorem jj:bV RX m7 (bM BL):=fsc
noncomputable abbrev Tg:Stmt:=top 64
noncomputable abbrev Bj:Β:=["_law_one", "_law_other"]
noncomputable abbrev Aj:Str := "_law_gcd"
noncomputable abbrev abD:Β:=["_law_one", "_law_other", "_law_low", "_law_high"]
theorem Gr:bV abD Bj (bM Tg):=fsc
noncomputable abbrev BP:Stmt:=top 65
noncomputable abbrev jt:Β:=["_law_top", "_law_bottom"]
noncomputable abbrev jq:Str := "_law_lowest"
noncomputable abbrev VF:Β:=["_law_top", "_law_bottom", "_law_common"]
theorem Ft:bV VF jt (bM BP):=fsc
noncomputable abbrev IK:Stmt:=top 66
noncomputable abbrev xq:Β:=["_law_found"]
noncomputable abbrev wJ:Str := "_law_whole"
noncomputable abbrev Xo:Β:=["_law_found"]
theorem RN:bV Xo xq (bM IK):=fsc
noncomputable abbrev uK:Stmt:=top 67
noncomputable abbrev oU:Β:=["_law_found"]
noncomputable abbrev oR:Str := "_law_fraction"
noncomputable abbrev Mv:Β:=["_law_found"]
theorem I_:bV Mv oU (bM uK):=fsc
noncomputable abbrev zB:Stmt:=top 68
noncomputable abbrev vG:Β:=["_law_cell_here", "_law_many"]
noncomputable abbrev xg:Str := "_law_words"
noncomputable abbrev Hw:Β:=["_law_cell_here", "_law_many", "_law_letters", "_law_head"]
theorem Bb:bV Hw vG (bM zB):=fsc
noncomputable abbrev zT:Stmt:=top 69
noncomputable abbrev vd:Β:=["_law_cell_here", "_law_k", "_law_many", "_law_parts"]
noncomputable abbrev xG:Str := "_law_doors"
noncomputable abbrev MN:Β:=["_law_cell_here", "_law_k", "_law_many", "_law_parts", "_law_xs", "_law_doors_here", "_law_j", "_law_ways", "_law_i", "_law_pay", "_law_room"]
theorem jx:bV MN vd (bM zT):=fsc
noncomputable abbrev zU:Stmt:=top 70
noncomputable abbrev wV:Β:=["_law_share", "_law_rooms", "_law_names"]
noncomputable abbrev vQ:Str := "_law_built"
noncomputable abbrev Ie:Β:=["_law_share", "_law_rooms", "_law_names", "_law_told", "_law_k", "_law_doors_here", "_law_j", "_law_pay", "_law_ways"]
theorem nU:bV Ie wV (bM zU):=fsc
noncomputable abbrev KN:Stmt:=top 71
noncomputable abbrev zR:Β:=["_law_cell_here", "_law_rooms"]
noncomputable abbrev zQ:Str := "_law_plan"
noncomputable abbrev Za:Β:=["_law_cell_here", "_law_rooms", "_law_xs", "_law_plan_here", "_law_k"]
theorem zH:bV Za zR (bM KN):=fsc
noncomputable abbrev Ge:Stmt:=top 72
noncomputable abbrev sW:Β:=["_law_one", "_law_other"]
noncomputable abbrev sS:Str := "_law_plus"
noncomputable abbrev W4:Β:=["_law_one", "_law_other"]
theorem S_:bV W4 sW (bM Ge):=fsc
noncomputable abbrev Bt:Stmt:=top 73
noncomputable abbrev pZ:Β:=["_law_one", "_law_other"]
noncomputable abbrev pQ:Str := "_law_times"
noncomputable abbrev Ri:Β:=["_law_one", "_law_other"]
theorem Qp:bV Ri pZ (bM Bt):=fsc
noncomputable abbrev GR:Stmt:=top 74
noncomputable abbrev wX:Β:=["_law_share", "_law_rooms", "_law_plan_here", "_law_worths"]
noncomputable abbrev vY:Str := "_law_round"
noncomputable abbrev Wf:Β:=["_law_share", "_law_rooms", "_law_plan_here", "_law_worths", "_law_found", "_law_k", "_law_worth", "_law_pay", "_law_ways", "_law_room", "_law_chance"]
theorem iV:bV Wf wX (bM GR):=fsc
noncomputable abbrev yw:Stmt:=top 75
noncomputable abbrev qM:Β:=["_law_code", "_law_steps", "_law_parts", "_law_shift"]
noncomputable abbrev qx:Str := "_law_numbers"
noncomputable abbrev Qo:Β:=["_law_code", "_law_steps", "_law_parts", "_law_shift", "_law_found", "_law_k"]
theorem qw:bV Qo qM (bM yw):=fsc
noncomputable abbrev Em:Stmt:=top 76
noncomputable abbrev LC:Β:=["_law_script"]
noncomputable abbrev G4:Str := "law"
noncomputable abbrev NK:Β:=["_law_script", "_law_xs", "_law_at", "_law_parts", "_law_steps", "_law_many", "_law_rooms", "_law_bottom", "_law_share", "_law_hall", "_law_plan_here", "_law_start", "_law_rows", "_law_due", "_law_k", "_law_paid", "_law_code", "_law_told", "_law_found"]
theorem d8:bV NK LC (bM Em):=fsc
noncomputable abbrev rK:Stmt:=iK 46 0
noncomputable abbrev mL:Β:=["self", "name", "pay"]
noncomputable abbrev wN:Str := "__init__"
noncomputable abbrev wQ:Str := "Door.__init__"
noncomputable abbrev JV:Β:=["self", "name", "pay"]
theorem Im:bV JV mL (bM rK):=fsc
noncomputable abbrev rO:Stmt:=iK 46 1
noncomputable abbrev mQ:Β:=["self"]
noncomputable abbrev wU:Str := "ways"
noncomputable abbrev v9:Str := "Door.ways"
noncomputable abbrev Kf:Β:=["self"]
theorem Gf:bV Kf mQ (bM rO):=fsc
noncomputable abbrev qL:Stmt:=iK 47 0
noncomputable abbrev lE:Β:=["self", "name", "pay", "pairs"]
noncomputable abbrev uf:Str := "__init__"
noncomputable abbrev ug:Str := "Mixed.__init__"
noncomputable abbrev Gq:Β:=["self", "name", "pay", "pairs"]
theorem DX:bV Gq lE (bM qL):=fsc
noncomputable abbrev oH:Stmt:=iK 53 0
noncomputable abbrev mO:Β:=["self", "share", "rooms"]
noncomputable abbrev vK:Str := "__init__"
noncomputable abbrev vP:Str := "Hall.__init__"
noncomputable abbrev rH:Β:=["self", "share", "rooms"]
theorem Gd:bV rH mO (bM oH):=fsc
noncomputable abbrev rQ:Stmt:=iK 53 1
noncomputable abbrev iI:Β:=["self"]
noncomputable abbrev wj:Str := "size"
noncomputable abbrev wH:Str := "Hall.size"
noncomputable abbrev I8:Β:=["self"]
theorem HN:bV I8 iI (bM rQ):=fsc
noncomputable abbrev jD:Stmt:=iK 53 4
noncomputable abbrev dY:Β:=["self", "room"]
noncomputable abbrev nR:Str := "check_room"
noncomputable abbrev nH:Str := "Hall.check_room"
noncomputable abbrev vJ:Β:=["self", "room"]
theorem uR:bV vJ dY (bM jD):=fsc
noncomputable abbrev lg:Stmt:=iK 53 6
noncomputable abbrev iw:Β:=["self", "room"]
noncomputable abbrev tu:Str := "offers"
noncomputable abbrev rW:Str := "Hall.offers"
noncomputable abbrev pL:Β:=["self", "room"]
theorem Ag:bV pL iw (bM lg):=fsc
structure Adr where
 NoNumber:Addr
 NoName:Addr
 NoChance:Addr
 Door:Addr
 Mixed:Addr
 Hall:Addr
 NOUGHT:Addr
 ONE:Addr
 Door_init:Addr
 Door_ways:Addr
 Mixed_init:Addr
 Hall_init:Addr
 Hall_size:Addr
 Hall_check_room:Addr
 Hall_offers:Addr
 T_plan_rounds:Addr
structure Txt(K:Frag)(mg:Str->Ζ)(D:Adr):Prop where
 Zh:mg "Door" = some (.ref D.Door)
 Zy:mg "Hall" = some (.ref D.Hall)
 WD:mg "Mixed" = some (.ref D.Mixed)
 nF:mg "NOUGHT" = some (.ref D.NOUGHT)
 Bc:mg "NoChance" = some (.ref D.NoChance)
 JW:mg "NoName" = some (.ref D.NoName)
 Bl:mg "NoNumber" = some (.ref D.NoNumber)
 R7:mg "ONE" = some (.ref D.ONE)
 Ad:Mj K D.NoChance
 Jl:Mj K D.NoName
 B_:Mj K D.NoNumber
 Am:∃u,mg "LONGEST_WORD" = some u/\RelV (.int 8) u
 Z5:∃u,mg "MOST" = some u/\RelV (.int 40) u
 kW:∀H,SqT K H D.NOUGHT [.int 0,.int 1]
 Ms:∀H,SqT K H D.ONE [.int 1,.int 1]
 TV:Cls K D.Door
 Hs:Meth K D.Door "ways" D.Door_ways
 DN:d7 K D.Door "leads"
 Hq:d7 K D.Door "name"
 Jq:d7 K D.Door "pay"
 Vo:Mk K D.Mixed D.Mixed_init
 Qg:Cls K D.Mixed
 Di:Meth K D.Mixed "ways" D.Door_ways
 Df:d7 K D.Mixed "leads"
 Dk:d7 K D.Mixed "name"
 Ij:d7 K D.Mixed "pay"
 W3:Mk K D.Hall D.Hall_init
 p8:Cls K D.Hall
 uz:Meth K D.Hall "check_room" D.Hall_check_room
 zZ:Meth K D.Hall "offers" D.Hall_offers
 IW:Meth K D.Hall "size" D.Hall_size
 Dp:d7 K D.Hall "leads"
 Hj:d7 K D.Hall "name"
 mG:d7 K D.Hall "numbers"
 qX:d7 K D.Hall "offered"
 JX:d7 K D.Hall "pay"
 pJ:d7 K D.Hall "share"
 HF:Ey K D.Door "__init__" D.Door_init
 Iw:zm K wN wQ rK mL D.Door_init
 Gz:zm K wU v9 rO mQ D.Door_ways
 Ea:zm K uf ug qL lE D.Mixed_init
 Hr:zm K vK vP oH mO D.Hall_init
 HD:zm K wj wH rQ iI D.Hall_size
 uD:zm K nR nH jD dY D.Hall_check_room
 Bq:zm K tu rW lg iw D.Hall_offers
 Jx:mg "abs" = none
 acd:mg "all" = none
 RJ:mg "bool" = none
 yN:mg "enumerate" = none
 Tf:mg "int" = none
 dG:mg "isinstance" = none
 lZ:mg "len" = none
 xP:mg "list" = none
 jf:mg "range" = none
 K8:mg "reversed" = none
 Rx:mg "sorted" = none
 aaC:mg "str" = none
 Yt:mg "sum" = none
 GQ:mg "tuple" = none
 abE:mg "zip" = none
 Ma:dw K mg eG uZ eZ
 QL:dw K mg g_ yE ig
 Wy:dw K mg iR Io iY
 Lf:dw K mg jl uP jo
 Zw:dw K mg qK Kv qJ
 W9:dw K mg vR Ht vN
 Y_:dw K mg zN Lh zF
 Xa:dw K mg qg Gu qb
 Ux:dw K mg tX Ay tO
 G7:dw K mg gW vA iZ
 f_total:dw K mg xu FZ vZ
 Zm:dw K mg zP Mr zW
 Gw:dw K mg i_ qD iT
 Dy:dw K mg jN jd jZ
 Dq:dw K mg jA pG jL
 BW:dw K mg gF j6 gG
 La:dw K mg oF uQ oM
 Dl:dw K mg jT lO jR
 Hy:dw K mg lV qp lR
 Vt:dw K mg tK rY tH
 Q8:dw K mg k_ tV kO
 Ib:dw K mg lC qF lN
 wD:dw K mg gq jH gb
 Br:dw K mg jg oh je
 Ed:dw K mg j4 lF ju
 Eb:dw K mg jM lA jG
 Dt:dw K mg jF pO jW
 Hi:dw K mg lQ qQ lM
 yW:dw K mg iH mF iD
 Je:dw K mg mK sZ mV
 HS:dw K mg lW qU lu
 QF:dw K mg qN yq qt
 GF:dw K mg gJ jV gH
 yU:dw K mg kJ mC kI
 Dw:WL K mg fU gP iu D.T_plan_rounds
 YM:dw K mg wL KJ vo
 Sh:dw K mg m8 BL m7
 aa3:dw K mg Aj Tg Bj
 T8:dw K mg jq BP jt
 Wc:dw K mg wJ IK xq
 Lb:dw K mg oR uK oU
 Xm:dw K mg xg zB vG
 Xk:dw K mg xG zT vd
 Wx:dw K mg vQ zU wV
 Zo:dw K mg zQ KN zR
 X8:dw K mg sS Ge sW
 Tq:dw K mg pQ Bt pZ
 Xx:dw K mg vY GR wX
 PN:dw K mg qx yw qM
noncomputable def Fam(D:Adr)(C:Addr):Prop:=C=D.Door\/C=D.Mixed\/C=D.Hall
theorem Txt.cl{K:Frag}{mg:Str->Ζ}{D:Adr}(T:Txt K mg D):∀C,Fam D C->Cls K C:=by
 rintro C (rfl|rfl|rfl)
 .exact T.TV
 .exact T.Qg
 .exact T.p8
theorem Txt.Bg{K:Frag}{mg:Str->Ζ}{D:Adr}(T:Txt K mg D):∀C,Fam D C->d7 K C "leads" := by
 rintro C (rfl|rfl|rfl)
 .exact T.DN
 .exact T.Df
 .exact T.Dp
theorem Txt.zA{K:Frag}{mg:Str->Ζ}{D:Adr}(T:Txt K mg D):∀C,Fam D C->d7 K C "name" := by
 rintro C (rfl|rfl|rfl)
 .exact T.Hq
 .exact T.Dk
 .exact T.Hj
theorem Txt.U0{K:Frag}{mg:Str->Ζ}{D:Adr}(T:Txt K mg D):∀C,Fam D C->d7 K C "pay" := by
 rintro C (rfl|rfl|rfl)
 .exact T.Jq
 .exact T.Ij
 .exact T.JX
noncomputable def cQ(D:Adr)(C:Addr):Prop:=C=D.Hall
theorem cQ.fam{D:Adr}{C:Addr}(h:cQ D C):Fam D C:=by
 unfold cQ at h;unfold Fam;simp[h]
theorem Txt.nC{K:Frag}{mg:Str->Ζ}{D:Adr}(T:Txt K mg D):∀C,cQ D C->Meth K C "check_room" D.Hall_check_room:=by
 rintro C (rfl)
 .exact T.uz
noncomputable def dO(D:Adr)(C:Addr):Prop:=C=D.Hall
theorem dO.fam{D:Adr}{C:Addr}(h:dO D C):Fam D C:=by
 unfold dO at h;unfold Fam;simp[h]
theorem Txt.su{K:Frag}{mg:Str->Ζ}{D:Adr}(T:Txt K mg D):∀C,dO D C->Meth K C "offers" D.Hall_offers:=by
 rintro C (rfl)
 .exact T.zZ
noncomputable def dH(D:Adr)(C:Addr):Prop:=C=D.Hall
theorem dH.fam{D:Adr}{C:Addr}(h:dH D C):Fam D C:=by
 unfold dH at h;unfold Fam;simp[h]
theorem Txt.qT{K:Frag}{mg:Str->Ζ}{D:Adr}(T:Txt K mg D):∀C,dH D C->Meth K C "size" D.Hall_size:=by
 rintro C (rfl)
 .exact T.IW
noncomputable def eY(D:Adr)(C:Addr):Prop:=C=D.Door\/C=D.Mixed
theorem eY.fam{D:Adr}{C:Addr}(h:eY D C):Fam D C:=by
 unfold eY at h;unfold Fam;rcases h with h|h<;>simp[h]
theorem Txt.Ii{K:Frag}{mg:Str->Ζ}{D:Adr}(T:Txt K mg D):∀C,eY D C->Meth K C "ways" D.Door_ways:=by
 rintro C (rfl|rfl)
 .exact T.Hs
 .exact T.Di
section
variable{P:Program}{w:World}{K:Frag}{mg:Str->Ζ}{base:Heap}{D:Adr}
theorem boot_abs:bootBuiltins "abs" = some (.builtin "abs"):=by decide +kernel
theorem Uc:1<=sizeLine:=by decide
theorem jm:2<=sizeLine:=by decide
theorem ac9{n:Int}(h0:0<=n)(h1:n<=1000000):abz 10 n:=⟨h0,h1,by decide⟩
theorem ZK{n:Nat}(h:n<=64):n<=sizeLine:=aM h (by decide)
theorem Xi(ns:List Int)(k:Nat):atI (Pz (ns.map V.int) (some (k:Int)) (some ((k:Int)+1))++[V.int 0]) 0=some (V.int (ns.getD k 0)):=by
 unfold Pz;rw[show((k:Int)+1)=((k+1:Nat):Int)by lia,HT.Ov,HT.Ov,ak];refine b_ (j:=0) ?_;by_cases h:k<ns.length
 .rw[Nat.min_eq_left (Y2 h),Nat.min_eq_left (Nat.succ_le_of_lt h)];rw[show k+1-k=1 by exact Nat.add_sub_cancel_left _ _];rw[List.drop_eq_getElem_cons (by rw[ak];exact h)];simp[List.getD,h]
 .have e1:min k ns.length=ns.length:=by lia
  have e2:min (k+1) ns.length=ns.length:=by lia
  rw[e1,e2];simp[List.getD,List.getElem?_eq_none (Nat.le_of_not_lt h)]
theorem bQ{t u:TS}{D:Ends}{σ:L2.St}{H:Hp}(h:∀u',u'=u->uL t u' D σ H):uL t u D σ H:=h u rfl
theorem Pk{a b c d:TS}{D:Ends}{σ:L2.St}{H:Hp}(h:∀d',d'=d->uL a (uL b (uL c d')) D σ H):uL a (uL b (uL c d)) D σ H:=h d rfl
theorem G3{α:Type} : ∀{l:List α},l.length=2->∃a b,l=[a,b]
 |[a,b],_=>⟨a,b,rfl⟩
theorem fG{te:TE}{D:Ends}{σ:L2.St}{H:Hp}(h:te σ H D.rt):Ur te D σ H:=h
theorem cZ{t u:TS}{D:Ends}{σ:L2.St}{H:Hp}(h:t { D with nx:=u D } σ H):uL t u D σ H:=h
theorem cA{te:TE}{g:TG}{u:TS}{D:Ends}{σ:L2.St}{H:Hp}(h:te σ H λx H1=>g x σ H1 (u D)):uL (Eh te g) u D σ H:=h
theorem rC{c:TT}{t u:TS}{D:Ends}{σ:L2.St}{H:Hp}(h:c σ H λb H1=>if b=true then t D σ H1 else u D σ H1):Vi c t u D σ H:=h
theorem YX{r:Μ->Hp->VK->Prop}{te:TE}{σ:L2.St}{H:Hp}{Q:VK}(h:te σ H λx H1=>r [x] H1 Q):tCB r (CT te Ei) σ H Q:=h
noncomputable def eE:Sp:=λvs H Q _=>∃x t,vs=[x]/\tyS H x=some t/\Q (.bl (t == "int")) H
theorem Jf(F:Fun K eG eG uZ f fd)(T:Txt K mg D):cC P w K mg base CX0 1 f fd eZ eE:=by
 refine F.ok JC ?_ ?_
 .rintro _ _ _ _ ⟨x,t,rfl,_⟩;rfl
 .rintro cdv A outer s H _ Q E hr ⟨x,t,rfl,ht,q⟩;refine⟨_,(bN (cD (Aa (cF iQ (by rfl) T.dG boot_isinstance (bD (pv 0) (bD (lD (v:=.ty "int") (by rfl) T.Tf boot_int rfl) bF))) (Bf (Uo (cF iQ (by rfl) T.dG boot_isinstance (bD (pv 0) (bD (lD (v:=.ty "bool") (by rfl) T.RJ boot_bool rfl) bF)))))))),?_⟩
  walk_at "rd"
  rw[ht]
  walk_at "rd"
  have hm:=K3 ht;simp only[YU,List.not_mem_nil,or_false]at hm;rcases hm with rfl|rfl|rfl|rfl|rfl|rfl|rfl<;>simpa using q
noncomputable def Cg:Sp:=λvs H Q _=>∃(a b:Int),vs=[.int a,.int b]/\Q (.int (Int.gcd a b:Nat)) H
theorem Y5(F:Fun K Aj Aj Tg f fd)(T:Txt K mg D):cC P w K mg base CX0 1 f fd Bj Cg:=by
 refine cC.clean (sp:=λvs H Q _=>∃(a b:Int),vs=[.int a,.int b]/\∀H',Same H H'->Q (.int (Int.gcd a b:Nat)) H')
  (F.ok Gr (λvs H Q E h=>?_) (λcdv A outer s H vs Q E hr h=>?_)) λvs H Q E hP=>by obtain⟨a,b,h1,h4⟩:=hP;exact⟨a,b,h1,λH' S=>⟨S,h4⟩⟩
 .obtain⟨a,b,rfl,_⟩:=h
  rfl
 .obtain⟨a,b,rfl,q⟩:=h;refine⟨_,(bK (KD (cF Qu (by rfl) T.Rx boot_sorted (bD (qP (bD (cF rG (by rfl) T.Jx boot_abs (bD (pv 0) bF)) (bD (cF rG (by rfl) T.Jx boot_abs (bD (pv 1) bF)) bF))) bF)) (WM (n:=2) rfl (cG (cH (i:=2) Gr.nd rfl (Or.inl rfl)) (cG (cH (i:=3) Gr.nd rfl (Or.inl rfl)) fK))))
   (bK (zX PassesOwn.never (cX U9 (pv 2) bI (cV _))
    (bN (Zg (i:=2) (j:=3) rfl Gr.nd rfl rfl (by decide) rfl rfl (bD (bY lU (pv 3) (pv 2)) (bD (pv 2) bF)) rfl)))
   (bN (cD (pv 3))))),?_⟩
  walk_at "rd"
  refine⟨jm,λp hp=>⟨[(a.natAbs:Int),(b.natAbs:Int)],?_,(by simp),λms p1 hp1 hm hs=>?_⟩⟩
  .rw[G5,G5];rfl
  have S:Same H (upd (upd H p (HO.lst [V.int (if a<0 then -a else a),V.int (if b<0 then -b else b)])) p1 (HO.lst (ms.map V.int))):=(Same.upd hp).trans (Same.upd hp1);generalize upd (upd H p (HO.lst [V.int (if a<0 then -a else a),V.int (if b<0 then -b else b)])) p1 (HO.lst (ms.map V.int))=H1 at S;have hk:∃l k:Nat,ms=[(l:Int),(k:Int)]/\Nat.gcd l k=Int.gcd a b:=by
   rcases Vc hm with rfl|rfl
   .exact⟨_,_,rfl,rfl⟩
   .exact⟨_,_,rfl,Nat.gcd_comm _ _⟩
  obtain⟨l,k,rfl,hg⟩:=hk
  walk_at "rd"
  refine Jt (λσ H2=>∃l k:Nat,σ=[some (.int a),some (.int b),some (.int l),some (.int k)]/\H2=H1/\Nat.gcd l k=Int.gcd a b)
   (mI 2) ⟨l,k,rfl,rfl,hg⟩ ?_ ?_
  .rintro σ H2 ⟨l,k,rfl,rfl,hg⟩
   walk_at "rd"
   by_cases hl:l=0
   .subst hl;simp only[Int.natCast_zero,Int.lt_irrefl,decide_false,XW,if_false];rw[show k=Int.gcd a b by rw[<- hg,Nat.gcd_zero_left]];exact q _ S
   .have hl':(0:Int)<l:=by lia
    rw[ZY (Zs hl')];refine⟨by exact Int.ne_of_gt hl',⟨k%l,vH _ _,l,rfl,?_⟩,?_⟩
    .rw[<- Nat.gcd_rec];exact hg
    .rw[vH];show(k%l)<l;exact Nat.mod_lt _ (Nat.pos_of_ne_zero hl)
  .intro σ H2 Q1 Q2 hq
   walk_at "rd"
   rintro⟨v,h1,i,h2,h3⟩;exact⟨v,h1,i,h2,hq _ _ h3⟩
theorem Gb{a b:Int}(h:b≠0):(0:Int)<(Int.gcd a b:Nat):=by
 have:=Int.gcd_pos_of_ne_zero_right a h;lia
theorem Lw{a b:Int}(h:b≠0)(hb:Bd b):Bd (Int.gcd a b:Nat):=by
 unfold Bd at *;refine Y3 ?_ hb;rw[XG];exact Nat.le_of_dvd (by lia) (Int.gcd_dvd_natAbs_right a b)
noncomputable def gj:Sp:=λvs H Q _=>∃(a b:Int),vs=[.int a,.int b]/\Q (.int (Int.gcd a b:Nat)) H
noncomputable def adQ(a b:Int)(H1:Hp)(σ:L2.St)(H:Hp):Prop:=∃(l k:Nat)(z:Option V),σ=[some (.int a),some (.int b),some (.int l),some (.int k),z]/\H=H1/\Nat.gcd l k=Int.gcd a b
theorem LQ(F:Fun K g_ g_ yE f fd)(T:Txt K mg D):cC P w K mg base CX0 1 f fd ig gj:=by
 refine F.ok kj ?_ ?_
 .rintro _ _ _ _ ⟨a,b,rfl,_⟩;rfl
 .rintro cdv A outer s H _ Q E hr ⟨a,b,rfl,q⟩;refine⟨_,(bK (bZ (i:=2) kj.nd rfl (Or.inl rfl) (cF rG (by rfl) T.Jx boot_abs (bD (pv 0) bF)))
   (bK (bZ (i:=3) kj.nd rfl (Or.inl rfl) (cF rG (by rfl) T.Jx boot_abs (bD (pv 1) bF)))
   (bK (zX PassesOwn.never (cX Fw (pv 3) bI (cV _))
    (bK (bZ (i:=4) kj.nd rfl (Or.inl rfl) (bY lU (pv 2) (pv 3)))
    (bK (bZ (i:=2) kj.nd rfl (Or.inl rfl) (pv 3))
    (bN (bZ (i:=3) kj.nd rfl (Or.inl rfl) (pv 4))))))
   (bN (cD (pv 2)))))),?_⟩
  walk_at "rd"
  rw[G5,G5];refine Jt (adQ a b H) (mI 3) ⟨a.natAbs,b.natAbs,none,rfl,rfl,rfl⟩ ?_ ?_
  .rintro σ H2 ⟨l,k,z,rfl,rfl,hg⟩
   walk_at "rd"
   by_cases hl:k=0
   .subst hl;rw[ZZ (by simp)];rw[show l=Int.gcd a b by rw[<- hg,Nat.gcd_zero_right]];exact q
   .have hl':¬((k:Int)=0):=by lia
    rw[ZY (by simpa using hl)];refine⟨by omega,⟨k,l%k,some (.int ((l%k:Nat):Int)),?_,rfl,?_⟩,?_⟩
    .rw[vH]
    .rw[Nat.gcd_comm,<- Nat.gcd_rec,Nat.gcd_comm];exact hg
    .rw[vH];show(l%k)<k;exact Nat.mod_lt _ (Nat.pos_of_ne_zero hl)
  .intro σ H2 Q1 Q2 hq
   walk_at "rd"
   rintro⟨v,h1,h2,h3⟩;exact⟨v,h1,h2,hq _ _ h3⟩
structure Low(t b x y:Int):Prop where
 pos:0<y
 gcd:Int.gcd x y=1
 eq:x*b=t*y
 lx:x.natAbs<=t.natAbs
 ly:y.natAbs<=b.natAbs
theorem Aw{c q:Int}(h:c≠0):Int.fdiv (c*q) c=q:=by
 rw[Int.fdiv_eq_ediv_of_dvd (Int.dvd_mul_right c q),Int.mul_ediv_cancel_left _ h]
theorem Bx{c q:Int}(h:c≠0):q.natAbs<=(c*q).natAbs:=by
 rw[Int.natAbs_mul];exact Nat.le_mul_of_pos_left _ (by lia)
theorem U4{t b c:Int}(hb:b≠0)(hc:c≠0)(hg:c.natAbs=Int.gcd t b)(hs:0<c*b):Low t b (Int.fdiv t c) (Int.fdiv b c):=by
 have d1:c ∣ t:=Int.natAbs_dvd.mp (by rw[hg];exact Int.gcd_dvd_left t b);have d2:c ∣ b:=Int.natAbs_dvd.mp (by rw[hg];exact Int.gcd_dvd_right t b);obtain⟨x,rfl⟩:=d1;obtain⟨y,rfl⟩:=d2;rw[Aw hc,Aw hc];refine⟨?_,?_,?_,Bx hc,Bx hc⟩
 .rw[<- Int.mul_assoc]at hs;have hp:0<c*c:=by
   rcases Int.lt_or_lt_of_ne hc with z|z
   .exact Int.mul_pos_of_neg_of_neg z z
   .exact XZ z z
  exact Int.pos_of_mul_pos_right hs hp
 .rw[Int.gcd_mul_left]at hg;have hp:0<c.natAbs:=by lia
  exact Nat.eq_of_mul_eq_mul_left hp (by rw[Nat.mul_one];exact hg.symm)
 .rw[Int.mul_left_comm,Int.mul_assoc]
noncomputable def jc:Sp:=λvs H Q _=>∃(t b:Int),vs=[.int t,.int b]/\b≠0/\Bd b/\∀p x y,Low t b x y->H p=none->Q (.ref p) (upd H p (.tup [.int x,.int y]))
theorem TF{i:Int}(h:Bd i):Bd (-i):=by unfold Bd at *;rw[Int.natAbs_neg];exact h
theorem Uh(F:Fun K iR iR Io f fd)(T:Txt K mg D)(cR:OkF P w K mg base 1 eG eZ eE)(gO:OkF P w K mg base 1 g_ ig gj):cC P w K mg base CX0 2 f fd iY jc:=by
 refine F.ok Cp ?_ ?_
 .rintro _ _ _ _ ⟨t,b,rfl,_⟩;rfl
 .rintro cdv A outer s H _ Q E hr ⟨t,b,rfl,hb,hbd,q⟩;refine⟨_,(bK (eF (PW.pt (pw_or (dJ (dB (bO cR hr.md (by rfl) (bD (pv 0) bF)) (λ_=>rfl))) (pw_or1 (dJ (dB (bO cR hr.md (by rfl) (bD (pv 1) bF)) (λ_=>rfl))))))
    (bN jE)
    cN)
   (bK (eF (cX Eu (pv 1) bI (cV _))
    (bN jE)
    cN)
   (bK (bZ (i:=2) Cp.nd rfl (Or.inl rfl) (bO gO hr.md (by rfl) (bD (pv 0) (bD (pv 1) bF))))
   (bK (eF (cX Kp (pv 1) bI (cV _))
    (bN (bZ (i:=2) Cp.nd rfl (Or.inl rfl) (YG VG (pv 2))))
    cN)
   (bN (cD (oY (bD (bY fV (pv 0) (pv 2)) (bD (bY fV (pv 1) (pv 2)) bF))))))))),?_⟩
  unfold eE gj
  walk_at "rd"
  have g0:=Gb (a:=t) hb;have g1:=Lw (a:=t) hb hbd;rw[ZZ (by simpa using hb)];refine ZM (λhn=>?_) λhn=>?_
  .rw[decide_eq_true_eq]at hn;refine⟨by omega,TF g1,by omega,TF g1,jm,λp hp=>q p _ _ (U4 hb (by omega) (by lia) ?_) hp⟩;exact Int.mul_pos_of_neg_of_neg (by lia) hn
  .rw[decide_eq_true_eq]at hn;refine⟨by exact Int.ne_of_gt g0,g1,by exact Int.ne_of_gt g0,g1,jm,λp hp=>q p _ _ (U4 hb (Int.ne_of_gt g0) (by lia) ?_) hp⟩;exact XZ g0 (by lia)
noncomputable def pW:Sp:=λvs H Q _=>∃(p q:Addr)(x y u v:Int),vs=[.ref p,.ref q]/\SqT K H p [.int x,.int y]/\SqT K H q [.int u,.int v]/\Bd x/\Bd y/\Bd u/\Bd v/\Q (.bl (decide (x*v<u*y))) H
theorem R8(F:Fun K qg qg Gu f fd):cC P w K mg base CX0 1 f fd qb (pW (K:=K)):=by
 refine F.ok TY ?_ ?_
 .rintro _ _ _ _ ⟨p,q,x,y,u,v,rfl,_⟩;rfl
 .rintro cdv A outer s H _ Q E hr ⟨p,q,x,y,u,v,rfl,hp,hq,bx,b_y,bu,bv,k⟩;refine⟨_,(bN (cD (oV Kp (bY cL (bU gU (pv 0) bI (λ_ _=>rfl)) (bU gU (pv 1) bI (λ_ _=>rfl))) (bY cL (bU gU (pv 1) bI (λ_ _=>rfl)) (bU gU (pv 0) bI (λ_ _=>rfl))) (cV _)))),?_⟩
  walk_at "rd"
  exact⟨_,hp,_,fZ,_,hq,_,dj,_,rfl,_,rfl,bx,bv,_,hq,_,fZ,_,hp,_,dj,_,rfl,_,rfl,bu,b_y,k⟩
noncomputable def xZ(g:Int->Int->Int):Sp:=λvs H Q _=>∃(p q:Addr)(x y u v:Int),vs=[.ref p,.ref q]/\SqT K H p [.int x,.int y]/\SqT K H q [.int u,.int v]/\Bd x/\Bd y/\Bd u/\Bd v/\0<y/\0<v/\Bd (y*v) /\
 ∀r z o,Low (g (x*v) (u*y)) (y*v) z o->H r=none->Q (.ref r) (upd H r (.tup [.int z,.int o]))
theorem Xg(F:Fun K qK qK Kv f fd)(gR:OkF P w K mg base 2 iR iY jc):cC P w K mg base CX0 3 f fd qJ (xZ (K:=K) λa b=>a+b):=by
 refine F.ok Wh ?_ ?_
 .rintro _ _ _ _ ⟨p,q,x,y,u,v,rfl,_⟩;rfl
 .rintro cdv A outer s H _ Q E hr ⟨p,q,x,y,u,v,rfl,hp,hq,bx,b_y,bu,bv,y0,v0,byv,k⟩;refine⟨_,(bN (cD (bO gR hr.md (by rfl) (bD (bY dW (bY cL (bU gU (pv 0) bI (λ_ _=>rfl)) (bU gU (pv 1) bI (λ_ _=>rfl))) (bY cL (bU gU (pv 1) bI (λ_ _=>rfl)) (bU gU (pv 0) bI (λ_ _=>rfl)))) (bD (bY cL (bU gU (pv 0) bI (λ_ _=>rfl)) (bU gU (pv 1) bI (λ_ _=>rfl))) bF))))),?_⟩;unfold jc
  walk_at "rd"
  exact⟨_,hp,_,fZ,_,hq,_,dj,_,rfl,_,rfl,bx,bv,_,hq,_,fZ,_,hp,_,dj,_,rfl,_,rfl,bu,b_y,_,hp,_,dj,_,hq,_,dj,_,rfl,_,rfl,b_y,bv,Int.ne_of_gt (XZ y0 v0),byv,λr z o l hr=>k r z o l hr⟩
noncomputable def Dh(c:Nat):Bool:=decide (c∈(Str.ofString "abcdefghijklmnopqrstuvwxyz").cps.toList)
noncomputable def mq(l:List Nat):Bool:=decide (1<=l.length)&&decide (l.length<=8)&&l.all Dh
theorem Yo(c:Nat):((!decide ([c]<[97])) && !decide ([122]<[c]))=Dh c:=by
 have e:(Str.ofString "abcdefghijklmnopqrstuvwxyz").cps.toList=(List.range 26).map (97 + ·):=by decide +kernel
 have m:c∈(List.range 26).map (97 + ·)↔97<=c/\c<=122:=by
  rw[YV];constructor
  .rintro⟨i,h,rfl⟩;have:=List.mem_range.mp h;exact⟨X2 ..,by lia⟩
  .exact λh=>⟨c-97,List.mem_range.mpr (by omega),by omega⟩
 have h1:([c]<[97])↔c<97:=by rw[List.cons_lt_cons_iff];simp
 have h2:([122]<[c])↔122<c:=by rw[List.cons_lt_cons_iff];simp
 unfold Dh;rw[e,decide_eq_decide.mpr m,decide_eq_decide.mpr h1,decide_eq_decide.mpr h2];by_cases a:c<97
 .rw[Zs a,Zp (p:=97<=c/\c<=122) (by lia)];rfl
 .by_cases b:122<c
  .rw[Zs b,Zp (p:=97<=c/\c<=122) (by lia)];exact Bool.and_false _
  .rw[Zp a,Zp b,Zs ⟨by exact Nat.le_of_not_lt a,by exact Nat.le_of_not_lt b⟩];rfl
noncomputable def uy:Sp:=λvs H Q _=>∃v,vs=[v]/\((∃x:Str,v=.str x/\x.length<=1000/\Q (.bl (mq x.cps.toList)) H)\/∃t,tyS H v=some t/\t ≠ "str" /\ Q (.bl false) H)
theorem Ml(F:Fun K k_ k_ tV f fd)(T:Txt K mg D):cC P w K mg base CX0 1 f fd kO uy:=by
 refine cC.clean (sp:=λvs H Q _=>∃v,vs=[v]/\((∃x:Str,v=.str x/\x.length<=1000/\∀H',Same H H'->Q (.bl (mq x.cps.toList)) H')\/∃t,tyS H v=some t/\t ≠ "str" /\ ∀H',Same H H'->Q (.bl false) H'))
  (F.ok Lj (λvs H Q E h=>?_) (λcdv A outer s H vs Q E hr h=>?_)) λvs H Q E hP=>by obtain⟨v,h1,h2⟩:=hP;exact⟨v,h1,h2.imp (λhP=>by obtain⟨x,a,b,c⟩:=hP;exact⟨x,a,b,λH' S=>⟨S,c⟩⟩) λhP=>by obtain⟨t,a,b,c⟩:=hP;exact⟨t,a,b,λH' S=>⟨S,c⟩⟩⟩
 .obtain⟨v,rfl,_⟩:=h
  rfl
 .obtain⟨v,rfl,h⟩:=h;refine⟨_,(bK (eF (PW.pt (pw_or (dJ (dB (cF iQ (by rfl) T.dG boot_isinstance (bD (pv 0) (bD (lD (v:=.ty "str") (by rfl) T.aaC boot_str rfl) bF))) (λ_=>rfl))) (pw_or1 (dJ (Bm Ax Ax bI (cF Hx (by rfl) T.lZ PySem.boot_len (bD (pv 0) bF)) (Js (by rfl) T.Am))))))
    (bN (cD v8))
    cN)
   (bN (cD (cF (Qh rfl) (by rfl) T.acd boot_all (bD (n6 (bM tV) xR xR ["sign"] (Zc ((pv 0)).mono) (fQ (i:=0)) eU (J5 Vu Vu pA (pv 0) pA)) bF))))),?_⟩
  rcases h with⟨x,rfl,hx,q⟩|⟨t,ht,hne,q⟩
  .have hz:x.length<=sizeLine:=aM hx (by decide);have hl:x.cps.toList.length=x.length:=Array.length_toList;have ea:Str.ofString "a" = ⟨#[97]⟩:=by decide +kernel
   have ez:Str.ofString "z" = ⟨#[122]⟩:=by decide +kernel
   walk_at "rd"
   refine⟨hz,?_⟩;by_cases h1:1<=x.length
   .rw[ZY (Zs (by lia))];by_cases h2:x.length<=8
    .rw[ZZ (by rw[Zs (by lia)];decide)];refine JZ Dh x (λR h=>⟨_,rfl,h⟩) hz (λc Hc R h=>?_) λL hL=>⟨L,rfl,_,bG,?_⟩
     .simp only[uL,Vi,Ur,Va,tOp,tUn,rU,Oa,Jo,X5,tSl,Qf,tC,Oc,rI0,rI,Wq,Vh,WQ,CT,Ei,tCB,Ai,JT,Yd,tOr,YL,Nz,OJ,ZJ,V4,Eh,Wa,cB,Wr,Pb,Np,Ox,Oi,O6,Wo,Nh,Gx,KY,wZ,GD,Pr,U5,rEq,rNe,V0,T5,Ud,RM,UL,VN,Vp,RT,RQ,R6,RB,VH,Ra,SX,MJ,Nr,xY,Lr,G_,Lx,VL,Rq,YT,aai,Ends.unset,Ws,YQ,GZ,ZS,Vn,Yj,Wz,O_,UW,Rf,YJ,tSM,K_,Ia,BZ,Tn,Xz,Oq,Gj,X_,zu,Hu,Oz,T9,rJoin,Vf,RZ,tB,Kl,Wj,TJ,zG,NT,MK,Yi,YK,RL,N6,HX,Tp,K9,Rv,Av,ZQ,V6,Ip,V.str.injEq,L2.start,List.replicate_succ,List.replicate_zero,Nat.reduceSub,Nat.reduceAdd,List.map_cons,List.map_nil,List.length_cons,List.length_nil,List.cons_append,List.nil_append,List.append_nil,List.getElem?_cons_zero,List.getElem?_cons_succ,List.set_cons_zero,List.set_cons_succ,List.set_nil,Option.some.injEq,exists_eq_left',exists_eq_left,exists_and_left,exists_and_right,exists_eq_right,exists_eq,exists_eq',and_assoc,V.int.injEq,V.ref.injEq,V.bl.injEq,V.ty.injEq,List.cons.injEq,HO.tup.injEq,HO.lst.injEq,and_true,true_and,reduceCtorEq,fZ,dj,bG,decide_true,decide_false,Bool.not_true,Bool.not_false,if_true,if_false,ite_true,ite_false,XW,YU,String.reduceEq,or_true,true_or,or_false,false_or,beq_self_eq_true,Bool.or_true,Bool.true_or,Bool.or_false,Bool.false_or,Bool.and_true,Bool.and_false,Bool.true_and,Bool.false_and,String.reduceBEq,Int.reduceToNat,Int.reducePow,Int.reduceMul,Int.reduceSub,Int.reduceAdd,Int.reduceNeg,Int.reduceLE,Int.reduceLT,Int.reduceEq,ne_eq,not_false_eq_true,not_true_eq_false,Int.cast_ofNat_Int,ea,ez];have:=Yo c;rw[<- this]at h;cases hd:(!decide ([c]<[97]))with
      |false=>rw[hd]at h;exact h
      |true=>rw[hd]at h;exact h
     .have ew:mq x.cps.toList=(x.cps.toList.map Dh).all id:=by
       unfold mq;rw[hl,Zs h1,Zs h2,List.all_map];rfl
      rw[<- ew];exact q _ (Same.upd hL)
    .rw[ZY (by rw[Zp (by lia)];rfl)];have ew:mq x.cps.toList=false:=by
      unfold mq;rw[hl,Zp h2,Bool.and_false];rfl
     rw[ew]at q;exact q _ (Same.refl _)
   .rw[ZZ (by rw[decide_eq_true_eq];lia)];have ew:mq x.cps.toList=false:=by
     unfold mq;rw[hl,Zp h1];rfl
    rw[ew]at q;exact q _ (Same.refl _)
  .simp only[uL,Vi,Ur,Va,tOp,tUn,rU,Oa,Jo,X5,tSl,Qf,tC,Oc,rI0,rI,Wq,Vh,WQ,CT,Ei,tCB,Ai,JT,Yd,tOr,YL,Nz,OJ,ZJ,V4,Eh,Wa,cB,Wr,Pb,Np,Ox,Oi,O6,Wo,Nh,Gx,KY,wZ,GD,Pr,U5,rEq,rNe,V0,T5,Ud,RM,UL,VN,Vp,RT,RQ,R6,RB,VH,Ra,SX,MJ,Nr,xY,Lr,G_,Lx,VL,Rq,YT,aai,Ends.unset,Ws,YQ,GZ,ZS,Vn,Yj,Wz,O_,UW,Rf,YJ,tSM,K_,Ia,BZ,Tn,Xz,Oq,Gj,X_,zu,Hu,Oz,T9,rJoin,Vf,RZ,tB,Kl,Wj,TJ,zG,NT,MK,Yi,YK,RL,N6,HX,Tp,K9,Rv,Av,ZQ,V6,Ip,V.str.injEq,L2.start,List.replicate_succ,List.replicate_zero,Nat.reduceSub,Nat.reduceAdd,List.map_cons,List.map_nil,List.length_cons,List.length_nil,List.cons_append,List.nil_append,List.append_nil,List.getElem?_cons_zero,List.getElem?_cons_succ,List.set_cons_zero,List.set_cons_succ,List.set_nil,Option.some.injEq,exists_eq_left',exists_eq_left,exists_and_left,exists_and_right,exists_eq_right,exists_eq,exists_eq',and_assoc,V.int.injEq,V.ref.injEq,V.bl.injEq,V.ty.injEq,List.cons.injEq,HO.tup.injEq,HO.lst.injEq,and_true,true_and,reduceCtorEq,fZ,dj,bG,decide_true,decide_false,Bool.not_true,Bool.not_false,if_true,if_false,ite_true,ite_false,XW,YU,String.reduceEq,or_true,true_or,or_false,false_or,beq_self_eq_true,Bool.or_true,Bool.true_or,Bool.or_false,Bool.false_or,Bool.and_true,Bool.and_false,Bool.true_and,Bool.false_and,String.reduceBEq,Int.reduceToNat,Int.reducePow,Int.reduceMul,Int.reduceSub,Int.reduceAdd,Int.reduceNeg,Int.reduceLE,Int.reduceLT,Int.reduceEq,ne_eq,not_false_eq_true,not_true_eq_false,Int.cast_ofNat_Int,ht];rw[beq_eq_false_iff_ne.mpr hne];exact q _ (Same.refl _)
structure Fk(K:Frag)(H:Hp)(p:Addr)(x y:Int):Prop where
 at_:SqT K H p [.int x,.int y]
 pos:0<y
 gcd:Int.gcd x y=1
noncomputable def gZ:Sp:=λvs H Q _=>∃p x y,vs=[.ref p]/\Fk K H p x y/\Q (.bl true) H
theorem Jb(F:Fun K jl jl uP f fd)(T:Txt K mg D)(cR:OkF P w K mg base 1 eG eZ eE)(gO:OkF P w K mg base 1 g_ ig gj):cC P w K mg base CX0 2 f fd jo (gZ (K:=K)):=by
 refine F.ok sU ?_ ?_
 .rintro _ _ _ _ ⟨p,x,y,rfl,_⟩;rfl
 .rintro cdv A outer s H _ Q E hr ⟨p,x,y,rfl,hf,q⟩;have hp:=hf.at_;refine⟨_,(bK (eF (PW.pt (pw_or (dJ (dB (cF (iQ.or Jr) (by rfl) T.dG boot_isinstance (bD (pv 0) (bD (lD (v:=.ty "tuple") (by rfl) T.GQ boot_tuple rfl) bF))) (λ_=>rfl))) (pw_or1 (cX Fw (cF QB (by rfl) T.lZ PySem.boot_len (bD (pv 0) bF)) bI (cV _)))))
    (bN (cD v8))
    cN)
   (bK (bZ (i:=1) sU.nd rfl (Or.inl rfl) (bU gU (pv 0) bI (λ_ _=>rfl)))
   (bK (bZ (i:=2) sU.nd rfl (Or.inl rfl) (bU gU (pv 0) bI (λ_ _=>rfl)))
   (bK (eF (PW.pt (pw_or (dJ (dB (bO cR hr.md (by rfl) (bD (pv 1) bF)) (λ_=>rfl))) (pw_or1 (dJ (dB (bO cR hr.md (by rfl) (bD (pv 2) bF)) (λ_=>rfl))))))
    (bN (cD v8))
    cN)
   (bN (cD (Aa (oV Yr (pv 2) bI (cV _)) (Bf (oV Eu (bO gO hr.md (by rfl) (bD (pv 1) (bD (pv 2) bF))) bI (cV _)))))))))),?_⟩
  unfold eE gj
  walk_at "rd"
  refine .inr ⟨⟨_,hp⟩,_,hp,?_⟩;rw[ZZ (by simp)];refine⟨_,hp,_,fZ,_,hp,_,dj,_,wZ,?_⟩;rw[ZZ (by decide)];refine⟨_,wZ,?_⟩;rw[ZZ (by decide)];have hy:=hf.pos;refine⟨y,rfl,?_⟩;rw[ZY (Zs (by lia))];refine⟨x,rfl,y,rfl,?_⟩;rw[hf.gcd];exact q
noncomputable def pH:Sp:=λvs H Q _=>∃(n:Str)(p:Addr)(x y:Int),vs=[.str n,.ref p]/\n.length<=1000/\mq n.cps.toList=true/\Fk K H p x y/\Q .non H
theorem Ec(F:Fun K lC lC qF f fd)(T:Txt K mg D)(iB:OkF P w K mg base 1 k_ kO uy)(gk:OkF P w K mg base 2 jl jo (gZ (K:=K))):cC P w K mg base (CXO P w) 3 f fd lN (pH (K:=K)):=by
 refine F.okX Ef ?_ ?_
 .rintro _ _ _ _ ⟨n,p,x,y,rfl,_⟩;rfl
 .rintro cdv A outer s H _ Q E hr ⟨n,p,x,y,rfl,hn,hw,hf,q⟩;refine⟨_,(bK (eF (dJ (dB (bO iB hr.md (by rfl) (bD (pv 0) bF)) (λ_=>rfl)))
    (bN (pP rfl (by rfl) T.JW T.Jl pU (bD pA bF)))
    cN)
   (bN (eF (dJ (dB (bO gk hr.md (by rfl) (bD (pv 1) bF)) (λ_=>rfl)))
    (bN (pP rfl (by rfl) T.Bl T.B_ pU (bD pA bF)))
    cN))),?_⟩
  unfold uy gZ
  walk_at "rd"
  rw[hw];exact .inl ⟨hn,⟨x,y,hf⟩,q⟩
noncomputable def qG(D:Adr):Sp:=λvs H Q _=>∃(s dx C:Addr)(n:Str)(p:Addr)(x y:Int),vs=[.ref s,.str n,.ref p]/\H s=some (.ins C dx [])/\Fam D C/\n.length<=1000/\mq n.cps.toList=true/\Fk K H p x y /\
 ∀l,upd H s (.ins C dx [("name",.str n),("pay",.ref p)]) l=none->Q .non (upd (upd H l (.lst [])) s (.ins C dx [("name",.str n),("pay",.ref p),("leads",.ref l)]))
theorem GX(F:Fun K wN wQ rK f fd)(T:Txt K mg D)(pB:OkX P w K mg base 3 lC lN (pH (K:=K))):cC P w K mg base (CXO P w) 4 f fd mL (qG (K:=K) D):=by
 refine F.okX Im ?_ ?_
 .rintro _ _ _ _ ⟨s,dx,C,n,p,x,y,rfl,_⟩;rfl
 .rintro cdv A outer s H _ Q E hr ⟨o,dx,C,n,p,x,y,rfl,ho,hC,hn,hw,hf,q⟩;refine⟨_,(bK (cY (jU pB hr.md (by rfl) lY (bD (pv 1) (bD (pv 2) bF))))
   (bK (uI (pv 0) (pv 1) rfl)
   (bK (uI (pv 0) (pv 2) rfl)
   (bN (uI (pv 0) (qP bF) rfl))))),?_⟩
  unfold pH
  walk_at "rd"
  have cl:=T.cl C hC;refine⟨hn,hw,⟨x,y,hf⟩,C,dx,[],ho,cl,T.zA C hC,(by decide),C,dx,_,rfl,cl,T.U0 C hC,(by show 1<1000;decide),bh _,λl hl=>?_⟩;rw[vB]at hl ⊢;have ne:o≠l:=bH bG hl;refine⟨C,dx,_,(bL ne).trans bG,cl,T.Bg C hC,(by show 2<1000;decide),?_⟩;have e:upd (upd (upd H o (.ins C dx (j5 "pay" (.ref p) (j5 "name" (.str n) [])))) l (.lst [])) o (.ins C dx (j5 "leads" (.ref l) (j5 "pay" (.ref p) (j5 "name" (.str n) []))))=upd (upd H l (.lst [])) o (.ins C dx [("name",.str n),("pay",.ref p),("leads",.ref l)]):=by
   funext b
   by_cases h1:b=o
   .subst h1;rw[bG,bG];rfl
   .rw[bL h1,bL h1];by_cases h2:b=l
    .subst h2;rw[bG,bG]
    .rw[bL h2,bL h2,bL h1]
  rw[e];exact q l hl
noncomputable def qy:Sp:=λvs H Q _=>∃n:Str,vs=[.str n]/\n.length<=1000/\mq n.cps.toList=true/\Q .non H
theorem uH(F:Fun K gq gq jH f fd)(T:Txt K mg D)(iB:OkF P w K mg base 1 k_ kO uy):cC P w K mg base (CXO P w) 2 f fd gb qy:=by
 refine F.okX uX ?_ ?_
 .rintro _ _ _ _ ⟨n,rfl,_⟩;rfl
 .rintro cdv A outer s H _ Q E hr ⟨n,rfl,hn,hw,q⟩;refine⟨_,(bN (eF (dJ (dB (bO iB hr.md (by rfl) (bD (pv 0) bF)) (λ_=>rfl)))
    (bN (pP rfl (by rfl) T.JW T.Jl pU (bD pA bF)))
    cN)),?_⟩
  unfold uy
  walk_at "rd"
  rw[hw];exact .inl ⟨hn,q⟩
structure Ck(K:Frag)(H:Hp)(p:Addr)(x y:Int):Prop where
 fk:Fk K H p x y
 lo:0<=x
 hi:x<=y
 by_:Bd y
noncomputable def xU:Sp:=λvs H Q _=>∃p x y,vs=[.ref p]/\Ck K H p x y/\Q .non H
theorem yV(F:Fun K jg jg oh f fd)(T:Txt K mg D)(gk:OkF P w K mg base 2 jl jo (gZ (K:=K)))(jy:OkF P w K mg base 1 qg qb (pW (K:=K))):cC P w K mg base (CXO P w) 3 f fd je (xU (K:=K)):=by
 refine F.okX zc ?_ ?_
 .rintro _ _ _ _ ⟨p,x,y,rfl,_⟩;rfl
 .rintro cdv A outer s H _ Q E hr ⟨p,x,y,rfl,hc,q⟩;refine⟨_,(bN (eF (PW.pt (pw_or (dJ (dB (bO gk hr.md (by rfl) (bD (pv 0) bF)) (λ_=>rfl))) (pw_or (dB (bO jy hr.md (by rfl) (bD (pv 0) (bD (iW (by rfl) T.nF) bF))) (λ_=>rfl)) (pw_or1 (dB (bO jy hr.md (by rfl) (bD (iW (by rfl) T.R7) (bD (pv 0) bF))) (λ_=>rfl))))))
    (bN (pP rfl (by rfl) T.Bc T.Ad pU (bD pA bF)))
    cN)),?_⟩
  unfold gZ pW
  walk_at "rd"
  have hy:=hc.fk.pos;have lo:=hc.lo;have hi:=hc.hi;have by_:=hc.by_;have bx:Bd x:=Y3 (by lia:x.natAbs<=y.natAbs) by_;have b0:Bd 0:=Nat.two_pow_pos 8000;have b1:Bd 1:=Nat.one_lt_two_pow (by decide);refine⟨⟨x,y,hc.fk⟩,x,y,hc.fk.at_,0,1,T.kW H,bx,by_,b0,b1,?_⟩;rw[ZZ (by simp;omega)];refine⟨1,1,T.Ms H,x,y,hc.fk.at_,b1,b1,bx,by_,?_⟩;rw[ZZ (by simp;omega)];exact q
theorem Bd.sm{i:Int}(h:i.natAbs<18446744073709551616):Bd i:=aU h (aM (by decide:18446744073709551616<=2^64) (XT (by decide) (by decide)))
noncomputable def Zf(H:Hp)(D:Adr)(s:Addr)(n:Str)(p l:Addr):Prop:=∃C dx,Fam D C/\H s=some (.ins C dx [("name",.str n),("pay",.ref p),("leads",.ref l)])
noncomputable def qC(D:Adr):Sp:=λvs H Q _=>∃(s:Addr)(n:Str)(p l:Addr)(xs:Μ),vs=[.ref s]/\Zf H D s n p l/\H l=some (.lst xs)/\xs.length<=100/\∀r,H r=none->Q (.ref r) (upd H r (.lst xs))
theorem Gy(F:Fun K wU v9 rO f fd)(T:Txt K mg D):cC P w K mg base CX0 1 f fd mQ (qC D):=by
 refine F.ok Gf ?_ ?_
 .rintro _ _ _ _ ⟨s,n,p,l,xs,rfl,_⟩;rfl
 .rintro cdv A outer s H _ Q E hr ⟨o,n,p,l,xs,rfl,⟨C,dx,hC,ho⟩,hl,hz,q⟩;refine⟨_,(bN (cD (qd uM (by rfl) T.xP boot_list (bD (o_ (pv 0) rfl) bF)))),?_⟩
  walk_at "rd"
  exact⟨C,dx,_,ho,T.cl C hC,T.Bg C hC,_,rfl,l,rfl,xs,hl,q⟩
structure Qc(H:Hp)(xs:Μ)(ws:List (Str×Addr)):Prop where
 len:xs.length=ws.length
 at_:∀(k:Nat)(g:Str×Addr),ws[k]?=some g->∃t,xs[k]?=some (.ref t)/\H t=some (.tup [.str g.1,.ref g.2])
theorem Qc.same{H H':Hp}{xs:Μ}{ws:List (Str×Addr)}(h:Qc H xs ws)(S:Same H H'):Qc H' xs ws:=⟨h.len,λk g e=>let⟨t,a,b⟩:=h.at_ k g e;⟨t,a,S _ _ b⟩⟩
noncomputable def cell(ns:List Int)(k:Int):Int:=ns.getD k.toNat 0
noncomputable def Hz(K:Frag)(a:Addr)(ns:List Int):Sp:=λvs H Q _=>∃(k:Int),vs=[.ref a,.int k]/\SqL K H a (ns.map V.int)/\ns.length<=63/\0<=k/\Q (.int (cell ns k)) H
theorem XF(F:Fun K wL wL KJ f fd)(a:Addr)(ns:List Int):cC P w K mg base CX0 1 f fd vo (Hz K a ns):=by
 refine cC.clean (sp:=λvs H Q _=>∃(k:Int),vs=[.ref a,.int k]/\SqL K H a (ns.map V.int)/\ns.length<=63/\0<=k/\∀H',Same H H'->Q (.int (cell ns k)) H')
  (F.ok V8 (λvs H Q E h=>?_) (λcdv A outer s H vs Q E hr h=>?_)) λvs H Q E hP=>by obtain⟨k,h1,h2,h3,h4,h5⟩:=hP;exact⟨k,h1,h2,h3,h4,λH' S=>⟨S,h5⟩⟩
 .obtain⟨k,rfl,_⟩:=h
  rfl
 .obtain⟨k,rfl,hs,hl,hk,q⟩:=h;refine⟨_,(bN (cD (bU cu (bY YS (SQ Xv (pv 0) (O1 (pv 1)) (O1 (bY dW (pv 1) bI))) (qP (bD bI bF))) bI (λ_ _=>rfl)))),?_⟩
  walk_at "rd"
  refine⟨_,hs,λp hp=>⟨Uc,λp1 hp1=>?_⟩⟩;have n1:p≠p1:=bH bG hp1;refine⟨_,(bL n1).trans bG,?_,λp2 hp2=>⟨_,?_,q _ ?_⟩⟩
  .refine ZK ?_;have:=yI (ns.map V.int) (some k) (some (k+1));rw[ak]at this;lia
  .have:=Xi ns k.toNat;rw[Int.toNat_of_nonneg hk]at this;exact this
  .exact((Same.upd hp).trans (Same.upd hp1)).trans (Same.upd hp2)
structure Fq(f:Ι):Prop where
 pos:0<f.2
 gcd:Int.gcd f.1 f.2=1
 sa:f.1.natAbs<=10^40
 sb:f.2.natAbs<=10^40
theorem Fq.ba{f:Ι}(h:Fq f):Bd f.1:=Y3 h.sa (by decide +kernel)
theorem Fq.bb{f:Ι}(h:Fq f):Bd f.2:=Y3 h.sb (by decide +kernel)
noncomputable def Qt(fs:Ψ):List Nat:=fs.map λf=>f.2.natAbs
noncomputable def lvB(fs:Ψ):Nat:=Lv.QV (Qt fs)
noncomputable def lvT(fs:Ψ):List Int:=fs.map λf=>f.1*((lvB fs:Nat)/f.2)
theorem wY{B:Nat} : ∀(bs:List Nat)(a:Nat),0<a->(∀b∈bs,0<b/\b<=B)->bs.foldl Nat.lcm a<=a*B^bs.length
  |[],a,_,_=>by simp
  |b::bs,a,ha,hb=>by
    have h1:=hb b aO;have h2:=wY bs (Nat.lcm a b) (Nat.lcm_pos ha h1.1) λc hc=>hb c (aH _ hc);rw[List.foldl_cons,List.length_cons,Nat.pow_succ];refine aM h2 ?_;have h3:Nat.lcm a b<=a*B:=aM (Nat.le_of_dvd (Nat.mul_pos ha h1.1) (Nat.lcm_dvd_mul a b)) (Nat.mul_le_mul_left a h1.2)
    calc Nat.lcm a b*B^bs.length<=a*B*B^bs.length:=Nat.mul_le_mul_right _ h3
      _=a*(B^bs.length*B):=by rw[Nat.mul_assoc,Nat.mul_comm B]
theorem Tw{fs:Ψ}(h:∀f∈fs,Fq f):∀b∈Qt fs,0<b:=λb hb=>by
 obtain⟨f,hf,rfl⟩:=YV.mp hb;have:=(h f hf).pos;omega
theorem wu{fs:Ψ}(h:∀f∈fs,Fq f):0<lvB fs:=Lv.Jp (Tw h)
theorem Af{fs:Ψ}(h:∀f∈fs,Fq f)(hz:fs.length<=41):lvB fs<=(10^40)^41:=by
 have h1:=wY (B:=10^40) (Qt fs) 1 (by decide) λb hb=>by
  obtain⟨f,hf,rfl⟩:=YV.mp hb;have:=(h f hf).pos;exact⟨by omega,(h f hf).sb⟩
 rw[Nat.one_mul]at h1;refine aM h1 (XT (by decide) ?_);unfold Qt;rw[ak];exact hz
theorem Gn{fs:Ψ}(h:∀f∈fs,Fq f)(hz:fs.length<=41):Bd (lvB fs:Nat):=by
 unfold Bd;rw[XG];exact Y3 (Af h hz) (by decide +kernel)
theorem cJ{α:Type}{l:List α}{k:Nat}{x:α}(h:l[k]?=some x):l.take (k+1)=l.take k++[x]:=by
 rw[List.take_succ,h];rfl
theorem Uu{fs:Ψ}{k:Nat}{f:Ι}(h:fs[k]?=some f):lvB (fs.take (k+1))=Nat.lcm (lvB (fs.take k)) f.2.natAbs:=by
 unfold lvB Lv.QV Qt;rw[cJ h,bA,List.foldl_append];rfl
theorem V9{n:Nat}{b:Int}(hb:0<b)(hn:0<n):Int.fdiv (n:Int) (Int.gcd (n:Int) b:Nat)*b=(Nat.lcm n b.natAbs:Nat):=by
 obtain⟨m,rfl⟩ : ∃m:Nat,b=m:=⟨b.toNat,by lia⟩;have hg:0<Nat.gcd n m:=Nat.gcd_pos_of_pos_left m hn;rw[show Int.gcd (n:Int) (m:Int)=Nat.gcd n m from rfl,XG,nq _ (by lia),<- Int.natCast_ediv,<- Int.natCast_mul]
 congr 1
 unfold Nat.lcm;exact Nat.div_mul_right_comm (Nat.gcd_dvd_left n m) m
theorem HJ{fs:Ψ}{f:Ι}(hf:f∈fs)(hq:Fq f):f.2 ∣ (lvB fs:Nat):=by
 have h1:f.2.natAbs ∣ lvB fs:=Lv.CW (YV.mpr ⟨f,hf,rfl⟩);have:=Int.natCast_dvd_natCast.mpr h1;rwa[Int.natAbs_of_nonneg (XY hq.pos)]at this
theorem Y9{fs:Ψ}{f:Ι}(h:∀f∈fs,Fq f)(hz:fs.length<=41)(hf:f∈fs):(f.1*((lvB fs:Nat)/f.2)).natAbs<=10^40*(10^40)^41:=by
 rw[Int.natAbs_mul];refine Nat.mul_le_mul (h f hf).sa ?_;refine aM (Int.natAbs_ediv_le_natAbs _ _) ?_;rw[XG];exact Af h hz
inductive FLK(K:Frag)(H:Hp):Μ->Ψ->Prop
 |nil:FLK K H [] []
 |cons {p:Addr}{f:Ι}{xs:Μ}{fs:Ψ} : SqT K H p [.int f.1,.int f.2]->FLK K H xs fs->FLK K H (.ref p::xs) (f::fs)
theorem Ub{H:Hp} : ∀{xs:Μ}{fs:Ψ},FL H xs fs->FLK K H xs fs
 |_,_,.nil=>.nil
 |_,_,.cons e t=>.cons (.of e) (Ub t)
theorem FLK.imp{H H':Hp}(h:∀p a b,SqT K H p [.int a,.int b]->SqT K H' p [.int a,.int b]):∀{xs:Μ}{fs:Ψ},FLK K H xs fs->FLK K H' xs fs
 |_,_,.nil=>.nil
 |_,_,.cons e t=>.cons (h _ _ _ e) (FLK.imp h t)
theorem FLK.same{H H':Hp}(S:Same H H'){xs:Μ}{fs:Ψ}(h:FLK K H xs fs):FLK K H' xs fs:=h.imp λ_ _ _ e=>S.tup e
theorem FLK.updL{H:Hp}{l:Addr}{ys zs:Μ}(hl:H l=some (.lst ys)){xs:Μ}{fs:Ψ}(h:FLK K H xs fs):FLK K (upd H l (.lst zs)) xs fs:=h.imp λ_ _ _ e=>e.updO hl (λ_ z=>by cases z) λ_ _ z=>by cases z
theorem FLK.length{H:Hp} : ∀{xs:Μ}{fs:Ψ},FLK K H xs fs->xs.length=fs.length
 |_,_,.nil=>rfl
 |_,_,.cons _ t=>by rw[List.length_cons,List.length_cons,FLK.length t]
theorem FLK.get{H:Hp} : ∀{xs:Μ}{fs:Ψ}{k:Nat}{x:V},FLK K H xs fs->xs[k]?=some x->∃p f,x=.ref p/\fs[k]?=some f/\SqT K H p [.int f.1,.int f.2]
 |_,_,_,_,.nil,h=>by simp at h
 |_,_,0,_,.cons (p:=p) (f:=f) e t,h=>by
  simp at h;exact⟨p,f,h.symm,rfl,e⟩
 |_,_,k+1,_,.cons e t,h=>by
  obtain⟨p,f,h1,h2,h3⟩:=FLK.get (k:=k) t (by simpa using h);exact⟨p,f,h1,by simpa using h2,h3⟩
theorem FLK.append{H:Hp} : ∀{xs ys:Μ}{fs gs:Ψ},FLK K H xs fs->FLK K H ys gs->FLK K H (xs++ys) (fs++gs)
 |_,_,_,_,.nil,h=>h
 |_,_,_,_,.cons e t,h=>.cons e (FLK.append t h)
theorem FLK.of{H:Hp} : ∀{xs:Μ}{fs:Ψ},xs.length=fs.length->(∀(j:Nat)f,fs[j]?=some f->∃p,xs[j]?=some (V.ref p)/\SqT K H p [.int f.1,.int f.2])->FLK K H xs fs
 |[],[],_,_=>.nil
 |x::xs,f::fs,h,k=>by
  obtain⟨p,e,s⟩:=k 0 f rfl;simp at e;rw[e];exact .cons s (FLK.of (by simpa using h) λj g hg=>by
   obtain⟨p,e,s⟩:=k (j+1) g (by simpa using hg);exact⟨p,by simpa using e,s⟩)
noncomputable def ql(K:Frag):Sp:=λvs H Q _=>∃(l:Addr)(xs:Μ)(fs:Ψ),vs=[.ref l]/\H l=some (.lst xs)/\FLK K H xs fs/\(∀f∈fs,Fq f)/\fs.length<=41 /\
 ∀D p,H D=none->upd H D (.lst ((lvT fs).map V.int)) p=none->Q (.ref p) (upd (upd H D (.lst ((lvT fs).map V.int))) p (.tup [.ref D,.int (lvB fs:Nat)]))
noncomputable def lJ(l:Addr)(fs:Ψ)(H1:Hp)(k:Nat)(σ:L2.St)(H:Hp):Prop:=∃z,σ=[some (.ref l),some (.int (lvB (fs.take k):Nat)),z]/\H=H1
noncomputable def lK(fs:Ψ)(D:Addr)(H1:Hp)(k:Nat)(ys:Μ)(H:Hp):Prop:=ys=((lvT fs).take k).map V.int/\H=upd H1 D (.lst ys)
structure Fz(f:Ι):Prop where
 pos:0<f.2
 ba:Bd f.1
 bb:Bd f.2
theorem Fq.fz{f:Ι}(h:Fq f):Fz f:=⟨h.pos,h.ba,h.bb⟩
theorem Ir{fs:Ψ}(h:∀f∈fs,Fz f):0<lvB fs:=Lv.Jp λb hb=>by
 obtain⟨f,hf,rfl⟩:=YV.mp hb;have:=(h f hf).pos;omega
theorem UG{fs:Ψ}(h:∀f∈fs,Fz f)(b:Bd (lvB fs:Nat))(k:Nat):0<lvB (fs.take k)/\Bd (lvB (fs.take k):Nat):=by
 refine⟨Ir λf hf=>h f (List.mem_of_mem_take hf),?_⟩;have dv:lvB (fs.take k) ∣ lvB fs:=Lv.vU.mpr λc hc=>by
  obtain⟨f,hf,rfl⟩:=YV.mp hc;exact Lv.CW (YV.mpr ⟨f,List.mem_of_mem_take hf,rfl⟩)
 have le:=Nat.le_of_dvd (Ir h) dv;unfold Bd at b ⊢;rw[XG]at b ⊢;exact Y3 le b
noncomputable def Fo(K:Frag):Sp:=λvs H Q _=>∃(l:Addr)(xs:Μ)(fs:Ψ),vs=[.ref l]/\H l=some (.lst xs)/\FLK K H xs fs/\(∀f∈fs,Fz f)/\fs.length<=41/\Bd (lvB fs:Nat) /\
 ∀D p,H D=none->upd H D (.lst ((lvT fs).map V.int)) p=none->Q (.ref p) (upd (upd H D (.lst ((lvT fs).map V.int))) p (.tup [.ref D,.int (lvB fs:Nat)]))
theorem Fb(F:Fun K gW gW vA f fd)(gO:OkF P w K mg base 1 g_ ig gj):cC P w K mg base CX0 2 f fd iZ (Fo K):=by
 refine F.ok vg ?_ ?_
 .rintro _ _ _ _ ⟨l,xs,fs,rfl,_⟩;rfl
 .rintro cdv A outer s H _ Q E hr ⟨l,xs,fs,rfl,hl,hf,hq,hz,hB,q⟩;refine⟨_,(bK (bZ (i:=1) vg.nd rfl (Or.inr rfl) bI)
   (bK (fD PassesOwn.never rfl (dD ((pv 0)).mono) (cH (i:=2) vg.nd rfl (Or.inl rfl))
    (bN (bZ (i:=1) vg.nd rfl (Or.inr rfl) (bY cL (bY fV (pv 1) (bO gO hr.md (by rfl) (bD (pv 1) (bD (bU (show IxR _ (Kl K)from gU) (pv 2) bI (λ_ _=>rfl)) bF)))) (bU (show IxR _ (Kl K)from gU) (pv 2) bI (λ_ _=>rfl))))))
   (bN (cD (oY (bD (n6 (bM vA) O9 ["fractions", "bottom", "?one"] ["one"] (dD ((pv 0)).mono) (fQ (i:=0)) eU (bY cL (bU (show IxR _ (Kl K)from gU) (pv 0) bI (λ_ _=>rfl)) (bY fV (pv 2) (bU (show IxR _ (Kl K)from gU) (pv 0) bI (λ_ _=>rfl))))) (bD (pv 1) bF))))))),?_⟩
  unfold gj
  walk_at "rd"
  have hx:xs.length<=41:=by rw[hf.length];exact hz
  refine gC ⟨_,rfl,l,xs,rfl,hl,lJ l fs H,⟨none,rfl,rfl⟩,?_,?_⟩
  .rintro k x σ' H' hk ⟨z,rfl,rfl⟩ _;obtain⟨p,g,rfl,hg,hp⟩:=hf.get hk;have hm:=aB hg;obtain⟨b0,b1⟩:=UG hq hB k;have g0:=Gb (a:=((lvB (fs.take k):Nat):Int)) (b:=g.2) (Int.ne_of_gt (hq g hm).pos);have g1:=Lw (a:=((lvB (fs.take k):Nat):Int)) (b:=g.2) (Int.ne_of_gt (hq g hm).pos) (hq g hm).bb
   walk_at "rd"
   refine⟨_,hp,_,dj,_,rfl,by exact Int.ne_of_gt g0,g1,_,hp,_,dj,_,rfl,?_,(hq g hm).bb,hl,some (.ref p),?_,rfl⟩
   .rw[nq _ g0];exact b1.div g0
   .rw[V9 (hq g hm).pos b0,<- Uu hg]
  .rintro σ' H' ⟨z,rfl,rfl⟩ _
   walk_at "rd"
   have e0:fs.take xs.length=fs:=by rw[hf.length];exact aP
   rw[e0];refine mJ ⟨_,rfl,l,xs,rfl,hl,aM hx (by decide),λD hD=>⟨lK fs D H',⟨rfl,rfl⟩,?_,?_⟩⟩
   .rintro k x ys Hc hk ⟨rfl,rfl⟩ _ ha;obtain⟨p,g,rfl,hg,hp⟩:=hf.get hk;have hm:=aB hg;have hpD:SqT K (upd H' D (.lst (((lvT fs).take k).map V.int))) p [.int g.1,.int g.2]:=(Same.upd hD).tup hp
    walk_at "rd"
    refine⟨_,hpD,_,fZ,_,hpD,_,dj,_,rfl,Int.ne_of_gt (hq g hm).pos,(hq g hm).bb,_,rfl,(hq g hm).ba,?_,ha,?_,vB⟩
    .rw[nq _ (hq g hm).pos];exact hB.div (hq g hm).pos
    .rw[nq _ (hq g hm).pos];have e1:(lvT fs)[k]?=some (g.1*((lvB fs:Nat)/g.2)):=by
      unfold lvT;rw[aq,hg];rfl
     rw[cJ e1,bA];rfl
   .rintro ys Hc ⟨rfl,rfl⟩ _;have e2:(lvT fs).take xs.length=lvT fs:=by
     refine aK ?_;unfold lvT;rw[ak,hf.length];exact aF _
    rw[e2];exact⟨jm,λp hp=>q D p hD hp⟩
theorem EY(F:Fun K gW gW vA f fd)(gO:OkF P w K mg base 1 g_ ig gj):cC P w K mg base CX0 2 f fd iZ (ql K) :=
 (Fb F gO).imp λvs H Q E h=>by
  obtain⟨l,xs,fs,a,b,c,d,e,q⟩:=h;exact⟨l,xs,fs,a,b,c,λf hf=>(d f hf).fz,e,Gn d e,q⟩
noncomputable def vW:Sp:=λvs H Q _=>∃(l:Addr)(xs:Μ)(fs:Ψ),vs=[.ref l]/\H l=some (.lst xs)/\FL H xs fs/\(∀f∈fs,Fq f)/\fs.length<=41 /\
 ∀D p,H D=none->upd H D (.lst ((lvT fs).map V.int)) p=none->Q (.ref p) (upd (upd H D (.lst ((lvT fs).map V.int))) p (.tup [.ref D,.int (lvB fs:Nat)]))
theorem Rn{vs:Μ}{H:Hp}{Q:VK}{E:XK}(h:vW vs H Q E):ql K vs H Q E:=by obtain⟨l,xs,fs,a,b,c,d⟩:=h;exact⟨l,xs,fs,a,b,Ub c,d⟩
noncomputable def Bs:Sp:=λvs H Q _=>∃(l:Addr)(xs:Μ)(fs:Ψ),vs=[.ref l]/\H l=some (.lst xs)/\FL H xs fs/\(∀f∈fs,Fq f)/\fs.length<=41 /\
 ∀p x y,Low (lvT fs).sum (lvB fs:Nat) x y->H p=none->Q (.ref p) (upd H p (.tup [.int x,.int y]))
theorem Uv(F:Fun K xu xu FZ f fd)(T:Txt K mg D)(mH:OkF P w K mg base 2 gW iZ vW)(gR:OkF P w K mg base 2 iR iY jc):cC P w K mg base CX0 3 f fd vZ Bs:=by
 refine cC.cleanP (sp:=λvs H Q _=>∃(l:Addr)(xs:Μ)(fs:Ψ),vs=[.ref l]/\H l=some (.lst xs)/\FL H xs fs/\(∀f∈fs,Fq f)/\fs.length<=41 /\
   ∀p x y H',Low (lvT fs).sum (lvB fs:Nat) x y->Same H H'->H p=none->H' p=some (.tup [.int x,.int y])->Q (.ref p) H')
  (F.ok J_ (λvs H Q E h=>?_) (λcdv A outer s H vs Q E hr h=>?_)) λvs H Q E hP=>by obtain⟨l,xs,fs,h1,h2,h3,h4,h5,h6⟩:=hP;exact⟨l,xs,fs,h1,h2,h3,h4,h5,λp x y H' l S e1 e2=>⟨S,p,_,e2,e1,h6 p x y l e1⟩⟩
 .obtain⟨l,xs,fs,rfl,_⟩:=h
  rfl
 .obtain⟨l,xs,fs,rfl,hl,hf,hq,hz,q⟩:=h;refine⟨_,(bK (bZ (i:=1) J_.nd rfl (Or.inl rfl) (bO mH hr.md (by rfl) (bD (pv 0) bF)))
   (bN (cD (bO gR hr.md (by rfl) (bD (cF (Fd rfl) (by rfl) T.Yt boot_sum (bD (bU cg (pv 1) bI (λ_ _=>rfl)) bF)) (bD (bU cg (pv 1) bI (λ_ _=>rfl)) bF)))))),?_⟩
  unfold vW jc
  walk_at "rd"
  refine⟨xs,hl,fs,hf,hq,hz,λD p hD hp=>⟨lvT fs,(bL (bH bG hp)).trans bG,?_,Gn hq hz,λp1 x y lw hp1=>?_⟩⟩
  .have:=wu hq;lia
  .have S:=(Same.upd hD (o:=.lst ((lvT fs).map V.int))).trans (Same.upd hp (o:=.tup [.ref D,.int (lvB fs:Nat)]));exact q p1 x y _ lw (S.trans (Same.upd hp1)) (S.free hp1) bG
structure Pairs(H:Hp)(xs:Μ)(ps:List (Str×Int×Int)):Prop where
 len:xs.length=ps.length
 at_:∀(k:Nat)(g:Str×Int×Int),ps[k]?=some g->∃t c:Addr,xs[k]?=some (.ref t)/\H t=some (.tup [.str g.1,.ref c])/\H c=some (.tup [.int g.2.1,.int g.2.2])
structure V1(g:Str×Int×Int):Prop where
 len:g.1.length<=1000
 wd:mq g.1.cps.toList=true
 pos:0<g.2.2
 gcd:Int.gcd g.2.1 g.2.2=1
 lo:0<=g.2.1
 hi:g.2.1<=g.2.2
 fq:Fq g.2
noncomputable def m9:Sp:=λvs H Q _=>∃(l:Addr)(xs:Μ)(ps:List (Str×Int×Int)),vs=[.ref l]/\H l=some (.lst xs)/\Pairs H xs ps/\(∀g∈ps,V1 g)/\ps.length<=41/\(∀x y,Low (lvT (ps.map (·.2))).sum (lvB (ps.map (·.2)):Nat) x y->x=1/\y=1)/\∀H',Same H H'->Q .non H'
noncomputable def jP(l:Addr)(H:Hp)(_:Nat)(σ:L2.St)(H':Hp):Prop:=∃u v,σ=[some (.ref l),u,v]/\H'=H
noncomputable def jQ(D1:Addr)(ps:List (Str×Int×Int))(H:Hp)(k:Nat)(ys:Μ)(Hc:Hp):Prop:=FL H ys ((ps.map (·.2)).take k)/\Hc=upd H D1 (.lst ys)
theorem Ca(F:Fun K j4 j4 lF f fd)(T:Txt K mg D)(uY:OkX P w K mg base 2 gq gb qy)(yS:OkX P w K mg base 3 jg je (xU (K:=K)))(Vw:OkX P w K mg base 3 xu vZ Bs):cC P w K mg base (CXO P w) 4 f fd ju m9:=by
 refine F.okX ou ?_ ?_
 .rintro _ _ _ _ ⟨l,xs,ps,rfl,_⟩;rfl
 .rintro cdv A outer s H _ Q E hr ⟨l,xs,ps,rfl,hl,hp,hg,hz,h1,q⟩;refine⟨_,(bK (fD PassesOwn.leaving rfl (dD ((pv 0)).mono) (gB (n:=2) rfl (cG (cH (i:=1) ou.nd rfl (Or.inl rfl)) (cG (cH (i:=2) ou.nd rfl (Or.inl rfl)) fK)))
    (bK (cY (jU uY hr.md (by rfl) lY (bD (pv 1) bF)))
    (bN (cY (jU yS hr.md (by rfl) lY (bD (pv 2) bF))))))
   (bN (eF (cX (Hl (K:=K) rfl hr.units) (jU Vw hr.md (by rfl) lY (bD (n6 (bM lF) pF pF ["pair"] (dD ((pv 0)).mono) (fQ (i:=0)) eU (bU cg (pv 0) bI (λ_ _=>rfl))) bF)) (iW (by rfl) T.R7) (cV _))
    (bN (pP rfl (by rfl) T.Bc T.Ad pU (bD pA bF)))
    cN))),?_⟩
  unfold qy xU Bs
  walk_at "rd"
  refine gC ?_
  walk_at "rd"
  refine⟨xs,hl,jP l H,⟨none,none,rfl,rfl⟩,?_,?_⟩
  .rintro k x σ' H' hk ⟨u,v,rfl,rfl⟩ _;have lk:k<ps.length:=by rw[<- hp.len];exact(ao.mp hk).1
   have e:ps[k]?=some ps[k]:=aj lk;have ok:=hg _ (aV lk);obtain⟨t,c,a,b,d⟩:=hp.at_ k _ e;rw[hk]at a;cases a;exact⟨t,rfl,_,b,rfl,_,_,rfl,_,_,rfl,rfl,_,rfl,_,rfl,ok.len,ok.wd,_,rfl,c,rfl,⟨_,_,⟨.of d,ok.pos,ok.gcd⟩,ok.lo,ok.hi,ok.fq.bb⟩,hl,_,_,rfl,rfl⟩
  .rintro σ' H' ⟨u,v,rfl,rfl⟩ _;refine mJ ?_
   walk_at "rd"
   refine⟨xs,hl,by rw[hp.len];exact aM hz (by decide),λD1 hD=>⟨jQ D1 ps H',⟨.nil,rfl⟩,?_,?_⟩⟩
   .rintro k x ys Hc hk ⟨hf,rfl⟩ hy _;have lk:k<ps.length:=by rw[<- hp.len];exact(ao.mp hk).1
    have e:ps[k]?=some ps[k]:=aj lk;obtain⟨t,c,a,b,d⟩:=hp.at_ k _ e;rw[hk]at a;cases a
    walk_at "rd"
    refine⟨_,(bL (bH b hD)).trans b,_,dj,(bL (bH hl hD)).trans hl,?_,vB⟩;rw[List.take_succ,aq,e];exact hf.append (.one d)
   .rintro ys Hc ⟨hf,rfl⟩ hy;have hk:(ps.map (·.2)).take xs.length=ps.map (·.2):=by rw[hp.len,<- ak (f:=λg:Str×Int×Int=>g.2),aP]
    rw[hk]at hf;refine⟨ys,bG,_,hf.same (Same.upd hD),?_,by rw[ak];exact hz,λp x y lo hn=>?_⟩
    .intro g hm;obtain⟨g',hm',rfl⟩:=YV.mp hm;exact(hg g' hm').fq
    .obtain⟨rfl,rfl⟩:=h1 x y lo;refine⟨_,.tup (.of bG) (cM.ints K _ [1,1]),_,.tup (T.Ms _) (cM.ints K _ [1,1]),rfl,rfl,?_⟩;rw[ZZ (by decide)];exact q _ ((Same.upd hD).trans (Same.upd hn))
inductive DA(H:Hp)(S:Int):List (Key×V)->List (Str×Int)->Prop
 |nil:DA H S [] []
 |cons {n:Str}{W:Int}{c:Addr}{kvs:List (Key×V)}{acc:List (Str×Int)} (h:H c=some (.tup [.int (Ac.lw W S).1,.int (Ac.lw W S).2])) (t:DA H S kvs acc):DA H S ((.inr n,.ref c)::kvs) ((n,W)::acc)
theorem DA.imp{H H':Hp}{S:Int}(h:∀c x y,H c=some (.tup [.int x,.int y])->H' c=some (.tup [.int x,.int y])):∀{kvs:List (Key×V)}{acc:List (Str×Int)},DA H S kvs acc->DA H' S kvs acc
 |_,_,.nil=>.nil
 |_,_,.cons a t=>.cons (h _ _ _ a) (t.imp h)
theorem DA.len{H:Hp}{S:Int} : ∀{kvs:List (Key×V)}{acc:List (Str×Int)},DA H S kvs acc->kvs.length=acc.length
 |_,_,.nil=>rfl
 |_,_,.cons _ t=>ZH (· + 1) t.len
theorem DA.keys{H:Hp}{S:Int} : ∀{kvs:List (Key×V)}{acc:List (Str×Int)},DA H S kvs acc->kvs.map (·.1)=(acc.map (·.1)).map Sum.inr
 |_,_,.nil=>rfl
 |_,_,.cons _ t=>by rw[List.map_cons,List.map_cons,List.map_cons,t.keys]
theorem DA.val{H:Hp}{S:Int}(r:Str):∀{kvs:List (Key×V)}{acc:List (Str×Int)},DA H S kvs acc->(mj kvs (.inr r)=none/\Ac.look acc r=0)\/∃c,mj kvs (.inr r)=some (.ref c)/\H c=some (.tup [.int (Ac.lw (Ac.look acc r) S).1,.int (Ac.lw (Ac.look acc r) S).2])
 |_,_,.nil=>.inl ⟨rfl,rfl⟩
 |_,_,.cons (n:=n) (W:=W) (c:=c) (kvs:=kvs) (acc:=acc) h t=>by
  by_cases e:n=r
  .subst e;refine .inr ⟨c,wg rfl,?_⟩;have:Ac.look ((n,W)::acc) n=W:=by simp[Ac.look]
   rw[this];exact h
  .have e1:mj ((Sum.inr n,V.ref c)::kvs) (Sum.inr r:Key)=mj kvs (.inr r):=vq λz=>e (Sum.inr.inj z);have e2:Ac.look ((n,W)::acc) r=Ac.look acc r:=by simp[Ac.look,List.find?_cons,e]
   rw[e1,e2];exact t.val r
theorem DA.any{H:Hp}{S:Int}(r:Str):∀{kvs:List (Key×V)}{acc:List (Str×Int)},DA H S kvs acc->(kvs.any λkv=>decide (kv.1=(.inr r:Key)))=acc.any λg=>decide (g.1=r)
 |_,_,.nil=>rfl
 |_,_,.cons (n:=n) _ t=>by
  rw[List.any_cons,List.any_cons,t.any r]
  congr 1
  by_cases e:n=r
  .subst e;rw[Zs rfl,Zs rfl]
  .rw[Zp e,Zp λz=>e (Sum.inr.inj z)]
theorem DA.sets{H:Hp}{S y:Int}{c:Addr}{r:Str}(hc:H c=some (.tup [.int (Ac.lw y S).1,.int (Ac.lw y S).2])):∀{kvs:List (Key×V)}{acc:List (Str×Int)},DA H S kvs acc->DA H S (kvs.map λkv=>if kv.1=(.inr r:Key)then(kv.1,.ref c)else kv) (acc.map λg=>if g.1=r then(g.1,y)else g)
 |_,_,.nil=>.nil
 |_,_,.cons (n:=n) (W:=W) (c:=c') h t=>by
  rw[List.map_cons,List.map_cons];by_cases e:n=r
  .subst e;rw[ZY rfl,ZY rfl];exact .cons hc (t.sets hc)
  .rw[ZZ e,ZZ λz=>e (Sum.inr.inj z)];exact .cons h (t.sets hc)
theorem DA.snoc{H:Hp}{S y:Int}{c:Addr}{r:Str}(hc:H c=some (.tup [.int (Ac.lw y S).1,.int (Ac.lw y S).2])):∀{kvs:List (Key×V)}{acc:List (Str×Int)},DA H S kvs acc->DA H S (kvs++[(.inr r,.ref c)]) (acc++[(r,y)])
 |_,_,.nil=>.cons hc .nil
 |_,_,.cons h t=>.cons h (t.snoc hc)
theorem DA.put{H:Hp}{S y:Int}{c:Addr}{r:Str}{kvs:List (Key×V)}{acc:List (Str×Int)}(hc:H c=some (.tup [.int (Ac.lw y S).1,.int (Ac.lw y S).2]))(h:DA H S kvs acc):DA H S (putK kvs (.inr r) (.ref c)) (Ac.put acc r y):=by
 unfold putK Ac.put;rw[h.any r];split
 .exact h.sets hc
 .exact h.snoc hc
theorem DA.get{H:Hp}{S:Int} : ∀{kvs:List (Key×V)}{acc:List (Str×Int)}{i:Nat}{k:Key}{v:V},DA H S kvs acc->kvs[i]?=some (k,v)->∃n W c,acc[i]?=some (n,W)/\k=.inr n/\v=.ref c/\H c=some (.tup [.int (Ac.lw W S).1,.int (Ac.lw W S).2])
 |_,_,_,_,_,.nil,e=>by simp at e
 |_,_,0,_,_,.cons h _,e=>by
  rw[List.getElem?_cons_zero]at e;cases e;exact⟨_,_,_,rfl,rfl,rfl,h⟩
 |_,_,i+1,_,_,.cons _ t,e=>t.get (by rw[List.getElem?_cons_succ]at e;exact e)
theorem Nq:∀{kvs:List (Key×V)}{i:Nat}{k:Key}{v:V},(kvs.map (·.1)).Nodup->kvs[i]?=some (k,v)->mj kvs k=some v
 |[],_,_,_,_,e=>by simp at e
 |p::kvs,0,k,v,_,e=>by
  rw[List.getElem?_cons_zero]at e;cases e;exact wg rfl
 |p::kvs,i+1,k,v,hn,e=>by
  rw[List.getElem?_cons_succ]at e;rw[List.map_cons,List.nodup_cons]at hn;rw[vq λz=>hn.1 (by rw[z];exact YV.mpr ⟨(k,v),aB e,rfl⟩)];exact Nq hn.2 e
inductive WF(K:Frag)(H:Hp):Μ->List (Str×Int×Int)->List (Str×Addr)->Prop
 |nil:WF K H [] [] []
 |cons {t c:Addr}{n:Str}{x y:Int}{xs:Μ}{gs:List (Str×Int×Int)}{ws:List (Str×Addr)} (h1:H t=some (.tup [.str n,.ref c])) (h2:SqT K H c [.int x,.int y]) (r:WF K H xs gs ws):WF K H (.ref t::xs) ((n,x,y)::gs) ((n,c)::ws)
theorem WF.imp{H H':Hp}(h:∀t ys,H t=some (.tup ys)->H' t=some (.tup ys))(h':∀c xs,SqT K H c xs->SqT K H' c xs):∀{xs:Μ}{gs:List (Str×Int×Int)}{ws:List (Str×Addr)},WF K H xs gs ws->WF K H' xs gs ws
 |_,_,_,.nil=>.nil
 |_,_,_,.cons a b r=>.cons (h _ _ a) (h' _ _ b) (r.imp h h')
theorem WF.same{H H':Hp}(S:Same H H'){xs:Μ}{gs:List (Str×Int×Int)}{ws:List (Str×Addr)}(h:WF K H xs gs ws):WF K H' xs gs ws:=h.imp (λt ys e=>S _ _ e) λc xs e=>S.tup e
theorem WF.updL{H:Hp}{l:Addr}{ys zs:Μ}(hl:H l=some (.lst ys)){xs:Μ}{gs:List (Str×Int×Int)}{ws:List (Str×Addr)}(h:WF K H xs gs ws):WF K (upd H l (.lst zs)) xs gs ws :=
 h.imp (λt us e=>(bL (fH e hl (by intro z;cases z))).trans e) λc xs e=>e.updO hl (by intro ys z;cases z) (by intro ob ys z;cases z)
theorem WF.len{H:Hp} : ∀{xs:Μ}{gs:List (Str×Int×Int)}{ws:List (Str×Addr)},WF K H xs gs ws->xs.length=gs.length
 |_,_,_,.nil=>rfl
 |_,_,_,.cons _ _ r=>ZH (· + 1) r.len
theorem WF.snoc{H:Hp}{t c:Addr}{n:Str}{x y:Int}(h1:H t=some (.tup [.str n,.ref c]))(h2:SqT K H c [.int x,.int y]):∀{xs:Μ}{gs:List (Str×Int×Int)}{ws:List (Str×Addr)},WF K H xs gs ws->WF K H (xs++[.ref t]) (gs++[(n,x,y)]) (ws++[(n,c)])
 |_,_,_,.nil=>.cons h1 h2 .nil
 |_,_,_,.cons a b r=>.cons a b (r.snoc h1 h2)
theorem WF.ways{H:Hp} : ∀{xs:Μ}{gs:List (Str×Int×Int)}{ws:List (Str×Addr)},WF K H xs gs ws->Qc H xs ws
 |_,_,_,.nil=>⟨rfl,λk g e=>by simp at e⟩
 |_,_,_,.cons a b r=>⟨ZH (· + 1) r.ways.len,λk g e=>by
  cases k with
  |zero =>
   rw[List.getElem?_cons_zero]at e;cases e;exact⟨_,rfl,a⟩
  |succ k =>
   rw[List.getElem?_cons_succ]at e ⊢;exact r.ways.at_ k g e⟩
noncomputable def Nk(S:Int)(acc:List (Str×Int)):List (Str×Int×Int):=(acc.filter λg=>decide (0<g.2)).map λg=>(g.1,Ac.lw g.2 S)
theorem z_{S:Int}{acc:List (Str×Int)}{i:Nat}{n:Str}{W:Int}(h:acc[i]?=some (n,W)):Nk S (acc.take (i+1))=Nk S (acc.take i)++if 0<W then[(n,Ac.lw W S)]else[]:=by
 unfold Nk;rw[List.take_succ,h,List.filter_append,bA]
 congr 1
 show List.map _ (List.filter _ [(n,W)])=_;by_cases e:0<W
 .rw[ZY e,List.filter_cons,ZY (Zs e)];rfl
 .rw[ZZ e,List.filter_cons,ZZ (by simpa using e)];rfl
structure PW(H:Hp)(xs:Μ)(gs:List (Str×Int))(S:Int):Prop where
 len:xs.length=gs.length
 at_:∀(k:Nat)(g:Str×Int),gs[k]?=some g->∃t c:Addr,xs[k]?=some (.ref t)/\H t=some (.tup [.str g.1,.ref c])/\H c=some (.tup [.int (Ac.lw g.2 S).1,.int (Ac.lw g.2 S).2])
theorem PW.imp{H H':Hp}(h':∀t ys,H t=some (.tup ys)->H' t=some (.tup ys)){xs:Μ}{gs:List (Str×Int)}{S:Int}(h:PW H xs gs S):PW H' xs gs S:=⟨h.len,λk g e=>let⟨t,c,a,b,d⟩:=h.at_ k g e;⟨t,c,a,h' _ _ b,h' _ _ d⟩⟩
theorem PW.same{H H':Hp}{xs:Μ}{gs:List (Str×Int)}{S:Int}(h:PW H xs gs S)(T:Same H H'):PW H' xs gs S:=h.imp λ_ _ e=>T _ _ e
theorem PW.pairs{H:Hp}{xs:Μ}{gs:List (Str×Int)}{S:Int}(h:PW H xs gs S):Pairs H xs (gs.map λg=>(g.1,Ac.lw g.2 S)):=⟨by rw[h.len,ak],λk g e=>by
 rw[aq]at e;cases e0:gs[k]? with
 |none=>rw[e0]at e;cases e
 |some g0 =>
  rw[e0]at e;cases e;exact h.at_ k g0 e0⟩
structure Wt(gs:List (Str×Int))(S:Int):Prop where
 pos:0<S
 le:S<=10^20
 len:gs.length<=8
 wd:∀g∈gs,g.1.length<=1000/\mq g.1.cps.toList=true
 lo:∀g∈gs,0<=g.2
 sum:(gs.map (·.2)).sum=S
theorem XR{i:Int}(h:i.natAbs<=10^20):Bd i:=Y3 h (by decide +kernel)
theorem Ot{gs:List (Str×Int)} : (∀g∈gs,0<=g.2)->0<=(gs.map (·.2)).sum/\∀g∈gs,g.2<=(gs.map (·.2)).sum:=by
 induction gs with
 |nil=>intro _;exact⟨by simp,by simp⟩
 |cons a gs ih =>
  intro h;obtain⟨h1,h2⟩:=ih λg hg=>h g (aH _ hg);have h0:=h a aO;rw[List.map_cons,List.sum_cons];refine⟨by lia,λg hg=>?_⟩;rcases YU.mp hg with rfl|hg
  .lia
  .have:=h2 g hg;lia
theorem Wt.hi{gs:List (Str×Int)}{S:Int}(h:Wt gs S){g:Str×Int}(hg:g∈gs):g.2<=S:=by
 rw[<- h.sum];exact(Ot h.lo).2 g hg
theorem Wt.pair{gs:List (Str×Int)}{S:Int}(h:Wt gs S){g:Str×Int}(hg:g∈gs):V1 (g.1,Ac.lw g.2 S):=by
 have p:=h.pos;have l:=h.le;have lo:=h.lo g hg;have hi:=h.hi hg;have p2:=Ac.dX (t:=g.2) p;have g1:=Ac.pN (t:=g.2) p;exact⟨(h.wd g hg).1,(h.wd g hg).2,p2,g1,Ac.ab6 p lo,Ac.aaJ p hi,p2,g1,aM (Ac.Cz _ _) (aM (by lia:g.2.natAbs<=10^20) (by decide)),aM (Ac.vO _ _) (aM (by omega:S.natAbs<=10^20) (by decide))⟩
theorem WW(a b c d:Int):PyData.eqv (.tuple (List.map PyData.int [a,b])) (.tuple (List.map PyData.int [c,d]))=(decide (a=c)&&decide (b=d)):=by
 simp[PyData.eqv,PyData.eqvAll]
 rfl
noncomputable def yh(K:Frag):Sp:=λvs H Q _=>∃(l:Addr)(xs:Μ)(gs:List (Str×Int))(S:Int),vs=[.ref l]/\H l=some (.lst xs)/\PW H xs gs S/\Wt gs S /\
 ∀H' r ys ws,Same H H'->H r=none->H' r=some (.lst ys)->WF K H' ys (Ac.ways gs S) ws->Q (.ref r) H'
noncomputable def jJ(l d:Addr)(gs:List (Str×Int))(S:Int)(H:Hp)(k:Nat)(σ:L2.St)(H':Hp):Prop:=∃u v kvs,σ=[some (.ref l),some (.ref d),u,v]/\Same H H'/\H' d=some (.dK kvs)/\DA H' S kvs (Ac.iC (gs.take k))
noncomputable def jC(K:Frag)(acc:List (Str×Int))(S:Int)(d D1:Addr)(u:HO)(H:Hp)(i:Nat)(ys:Μ)(Hc:Hp):Prop:=Same (upd H d u) Hc/\Hc D1=some (.lst ys)/\∃ws,WF K Hc ys (Nk S (acc.take i)) ws
theorem Cu(F:Fun K jM jM lA f fd)(T:Txt K mg D)(XD:OkX P w K mg base 3 qK qJ (xZ (K:=K) (· + ·))):cC P w K mg base (CXO P w) 4 f fd jG (yh K):=by
 refine F.okX jO ?_ ?_
 .rintro _ _ _ _ ⟨l,xs,gs,S,rfl,_⟩;rfl
 .rintro cdv A outer s H _ Q E hr ⟨l,xs,gs,S,rfl,hl,hp,W,q⟩;have p0:=W.pos;have sle:=W.le;refine⟨_,(bK (bZ (i:=1) jO.nd rfl (Or.inr rfl) vp)
   (bK (fD PassesOwn.leaving rfl (dD ((pv 0)).mono) (gB (n:=2) rfl (cG (cH (i:=2) jO.nd rfl (Or.inl rfl)) (cG (cH (i:=3) jO.nd rfl (Or.inl rfl)) fK)))
    (bN (zx (qW hr) (pv 1) (pv 2) (jU XD hr.md (by rfl) lY (bD (J8 (qW hr) (pv 1) (pv 2) (iW (by rfl) T.nF) (by first|exact⟨rfl,rfl,rfl,rfl,rfl⟩|constructor<;>rfl)) (bD (pv 3) bF))) rfl)))
   (bN (cD (n6 (bM lA) ud ["pairs", "chances", "?room", "chance"] ["room"] (V_ ((pv 1)).mono) (fQ (i:=0)) (O8 (cX (Hl (K:=K) rfl hr.units) (H_ (qW hr) (pv 2) (pv 0) (λ_ _=>rfl)) (iW (by rfl) T.nF) (cV _))) (oY (bD (pv 0) (bD (H_ (qW hr) (pv 2) (pv 0) (λ_ _=>rfl)) bF)))))))),?_⟩
  unfold xZ
  walk_at "rd"
  refine λd hd=>gC ?_
  walk_at "rd"
  have ld:l≠d:=bH hl hd;refine⟨xs,(bL ld).trans hl,jJ l d gs S H,⟨none,none,[],rfl,Same.upd hd,bG,.nil⟩,?_,?_⟩
  .rintro k x σ' H' hk ⟨u,v,kvs,rfl,S1,h1,da⟩ _;have lk:k<gs.length:=by rw[<- hp.len];exact(ao.mp hk).1
   have e:gs[k]?=some gs[k]:=aj lk;have hm:=aV lk;obtain⟨t,c,a,b,cc⟩:=hp.at_ k _ e;rw[hk]at a;cases a;generalize gs[k]=g at *;obtain⟨n,x⟩:=g;have wx:=W.hi hm;have wl:=W.lo _ hm;have al:=Ac.Cv (gs.take k) λg hg=>W.lo g (List.mem_of_mem_take hg);have st:((gs.take k).map (·.2)).sum<=S:=by
    have e1:gs.map (·.2)=(gs.take k).map (·.2)++(gs.drop k).map (·.2):=by rw[<- bA,List.take_append_drop]
    have e2:=(Ot (gs:=gs.drop k) λg hg=>W.lo g (List.mem_of_mem_drop hg)).1;have e3:=W.sum;rw[e1,List.sum_append]at e3;lia
   have look:0<=Ac.look (Ac.iC (gs.take k)) n/\(Ac.look (Ac.iC (gs.take k)) n).natAbs<=10^20:=by
    rcases Ac.vD (Ac.iC (gs.take k)) n with e0|⟨g,hg,e0⟩
    .rw[e0];exact⟨Int.le_refl _,by decide⟩
    .rw[e0];have:=al.2.2 g hg;lia
   obtain⟨cq,hq,sq⟩ : ∃cq,(mj kvs (.inr n)).getD (.ref D.NOUGHT)=.ref cq/\SqT K H' cq [.int (Ac.lw (Ac.look (Ac.iC (gs.take k)) n) S).1,.int (Ac.lw (Ac.look (Ac.iC (gs.take k)) n) S).2]:=by
    rcases da.val n with⟨e1,e2⟩|⟨c',e1,e2⟩
    .rw[e1,e2,((Ac.tG p0).mpr rfl).1,((Ac.tG p0).mpr rfl).2];exact⟨_,rfl,T.kW H'⟩
    .rw[e1];exact⟨c',rfl,.of e2⟩
   walk_at "rd"
   have q1:=Ac.dX (t:=Ac.look (Ac.iC (gs.take k)) n) p0;have q2:=Ac.dX (t:=x) p0;have d1:=aM (Ac.Cz (Ac.look (Ac.iC (gs.take k)) n) S) look.2;have d2:=aM (Ac.vO (Ac.look (Ac.iC (gs.take k)) n) S) (by lia:S.natAbs<=10^20);have d3:=aM (Ac.Cz x S) (by have:x<=S:=wx;have:0<=x:=wl;lia:x.natAbs<=10^20);have d4:=aM (Ac.vO x S) (by lia:S.natAbs<=10^20);have d5:Bd ((Ac.lw (Ac.look (Ac.iC (gs.take k)) n) S).2*(Ac.lw x S).2):=by
    refine Y3 (m:=10^20*10^20) ?_ (by decide +kernel);rw[Int.natAbs_mul];exact Nat.mul_le_mul d2 d4
   have hlen:kvs.length<sizeLine:=by
    have h9:9<sizeLine:=by decide
    have:=al.2.1;have:=W.len;rw[da.len];rw[bf]at *;lia
   refine⟨_,S1 _ _ b,rfl,_,_,rfl,_,_,rfl,rfl,.inl ⟨kvs,.inl h1⟩,_,rB.k (k:=.inr n) h1,cq,hq,c,rfl,_,_,sq,_,_,.of (S1 _ _ cc),XR d1,XR d2,XR d3,XR d4,q1,q2,d5,λr z o lo hr=>?_⟩;have rd:d≠r:=bH h1 hr;refine⟨_,Hv.k (k:=.inr n) ((bL rd).trans h1) hlen,(bL ld).trans ((bL (bH ‹H' l=some (HO.lst xs)› hr)).trans ‹H' l=some (HO.lst xs)›),_,_,_,rfl,?_,bG,?_⟩
   .intro b' o' e';rw[bL (bH e' hd),bL (bH (S1 _ _ e') hr)];exact S1 _ _ e'
   .obtain⟨ez,eo⟩:=Ac.ZP p0 lo.pos lo.gcd lo.eq;rw[cJ e,Ac.xM];refine DA.put ?_ (da.imp λc' x' y' e'=>?_)
    .rw[bL rd.symm,<- ez,<- eo];exact bG
    .rw[bL (fH e' h1 (by intro z;cases z)),bL (bH e' hr)];exact e'
  .rintro σ' H' ⟨u,v,kvs,rfl,S1,h1,da⟩ _;refine JR ?_;have e8:gs.take xs.length=gs:=by rw[hp.len,aP]
   rw[e8]at da;have al:=Ac.Cv gs W.lo;have nd:(kvs.map (·.1)).Nodup:=by
    rw[da.keys];exact al.1.map (f:=Sum.inr) (S:=(· ≠ ·)) λa b h z=>h (Sum.inr.inj z)
   have hlen:kvs.length<=sizeLine:=by
    have h9:9<sizeLine:=by decide
    have:=al.2.1;have:=W.len;rw[da.len];lia
   walk_at "rd"
   refine⟨kvs,h1,hlen,λo D1 hD1=>⟨jC K (Ac.iC gs) S d D1 (.frz o (.dK kvs)) H',⟨Same.upd hD1,bG,[],.nil⟩,?_,?_⟩⟩
   .rintro i k y ys Hc hi ⟨S2,hD,ws,wf⟩ hy hfr pre hpre;obtain⟨u0,rfl⟩:=List.length_eq_one_iff.mp hpre;obtain⟨nm,X,c,ea,rfl,rfl,hc⟩:=da.get hi;have vv:=Nq nd hi;have hcd:c≠d:=fH hc h1 (by intro z;cases z);have hcc:Hc c=some (.tup [.int (Ac.lw X S).1,.int (Ac.lw X S).2]):=S2 _ _ ((bL hcd).trans hc)
    walk_at "rd"
    have dg:rB Hc d (kV (.inr nm)) (some (.ref c)):=.inl ⟨kvs,.inr nm,.inr ⟨o,hfr⟩,rfl,vv.symm⟩;refine⟨[some (.str nm)],rfl,rfl,_,dg,_,.tup (.of hcc) (cM.ints K _ [_,_]),_,.tup (T.kW _) (cM.ints K _ [0,1]),rfl,rfl,?_⟩;have X0:=(al.2.2 _ (aB ea)).1;by_cases hX:X=0
    .subst hX;obtain⟨e1,e2⟩:=(Ac.tG (b:=S) p0).mpr rfl;rw[show PyData.eqv (.tuple (List.map PyData.int [(Ac.lw 0 S).1,(Ac.lw 0 S).2])) (.tuple (List.map PyData.int [0,1]))=true by rw[e1,e2];rfl];refine⟨hfr,S2,hD,ws,?_⟩;rw[z_ ea,ZZ (by decide),List.append_nil];exact wf
    .have e0:PyData.eqv (.tuple (List.map PyData.int [(Ac.lw X S).1,(Ac.lw X S).2])) (.tuple (List.map PyData.int [0,1]))=false:=by
      rw[WW];simp only[Bool.and_eq_false_iff,decide_eq_false_iff_not];by_cases h1:(Ac.lw X S).1=0
      .exact .inr λh2=>hX ((Ac.tG p0).mp ⟨h1,h2⟩)
      .exact .inl h1
     rw[e0];refine⟨_,dg,jm,λp hp=>?_⟩;have pD:D1≠p:=bH hD hp;have pd:d≠p:=bH hfr hp;refine⟨(bL pD).trans hD,(bL pd).trans hfr,?_,bG,ws++[(nm,c)],?_⟩
     .intro b' o' e';rw[bL (bH e' hD1),bL (bH (S2 _ _ e') hp)];exact S2 _ _ e'
     .rw[z_ ea,ZY (by lia)];exact WF.updL ((bL pD).trans hD) ((wf.same (Same.upd hp)).snoc bG (.of ((bL (bH hcc hp)).trans hcc)))
   .rintro ys Hc ⟨S2,hD,ws,wf⟩ _;rw[da.len,aP]at wf;refine q _ D1 ys ws ?_ ?_ hD wf
    .intro b o' e';exact S2 _ _ ((bL (bH e' hd)).trans (S1 _ _ e'))
    .cases z:H D1 with
     |none=>rfl
     |some o' =>
      have:=(bL (H:=H') (o:=.frz o (.dK kvs)) (bH z hd)).trans (S1 _ _ z);rw[this]at hD1;cases hD1
theorem RK{gs:List (Str×Int)}{S:Int}(W:Wt gs S):∀(hs:List (Str×Int))(L:Int),(∀g∈hs,g∈gs/\(Ac.lw g.2 S).2 ∣ L)->((hs.map λg=>(Ac.lw g.2 S).1*(L/(Ac.lw g.2 S).2)).sum)*S=(hs.map (·.2)).sum*L
 |[],L,_=>by simp
 |g::hs,L,h=>by
  have ih:=RK W hs L λg hg=>h g (aH _ hg);obtain⟨hm,q,hq⟩:=h g aO;have p:=Ac.dX (t:=g.2) W.pos;have e:=Ac.vC (t:=g.2) W.pos;rw[List.map_cons,List.sum_cons,List.map_cons,List.sum_cons,Int.add_mul,Int.add_mul,ih]
  congr 1
  generalize(Ac.lw g.2 S).1=a at *;generalize(Ac.lw g.2 S).2=b at *;rw[hq,Int.mul_ediv_cancel_left _ (Int.ne_of_gt p),Int.mul_right_comm,e,Int.mul_assoc]
theorem VR{gs:List (Str×Int)}{S:Int}(W:Wt gs S):∀x y,Low (lvT ((gs.map λg=>(g.1,Ac.lw g.2 S)).map (·.2))).sum (lvB ((gs.map λg=>(g.1,Ac.lw g.2 S)).map (·.2)):Nat) x y->x=1/\y=1:=by
 intro x y lo;have hq:∀f∈((gs.map λg=>(g.1,Ac.lw g.2 S)).map (·.2)),Fq f:=by
  intro f hf;obtain⟨u,hu,rfl⟩:=YV.mp hf;obtain⟨g,hg,rfl⟩:=YV.mp hu;exact(W.pair hg).fq
 have e0:(gs.map λg=>(g.1,Ac.lw g.2 S)).map (·.2)=gs.map λg=>Ac.lw g.2 S:=by rw[List.map_map];rfl
 have bp:=wu hq;have top:=RK W gs (lvB ((gs.map λg=>(g.1,Ac.lw g.2 S)).map (·.2)):Nat) λg hg=>⟨hg,HJ (f:=Ac.lw g.2 S) (YV.mpr ⟨(g.1,Ac.lw g.2 S),YV.mpr ⟨g,hg,rfl⟩,rfl⟩) (W.pair hg).fq⟩;have e1:(lvT ((gs.map λg=>(g.1,Ac.lw g.2 S)).map (·.2))).sum=(gs.map λg=>(Ac.lw g.2 S).1*((lvB ((gs.map λg=>(g.1,Ac.lw g.2 S)).map (·.2)):Nat)/(Ac.lw g.2 S).2)).sum:=by
  unfold lvT;rw[List.map_map,List.map_map];rfl
 rw[<- e1,W.sum,Int.mul_comm S]at top;have e2:=Int.eq_of_mul_eq_mul_right (Int.ne_of_gt W.pos) top;rw[e2]at lo;have h:=lo.eq;rw[Int.mul_comm _ y]at h;have e3:x=y:=Int.eq_of_mul_eq_mul_right (by lia) h;subst e3;have g:=lo.gcd;have p:=lo.pos;rw[Int.gcd_self]at g;lia
noncomputable def Keep(s:Addr)(H H':Hp):Prop:=∀b o,b≠s->H b=some o->H' b=some o
theorem Keep.tup{s C dx:Addr}{fs:List (Str×V)}{H H':Hp}(h:Keep s H H')(hs:H s=some (.ins C dx fs)):∀t ys,H t=some (.tup ys)->H' t=some (.tup ys):=λt ys e=>h t _ (fH e hs (by intro z;cases z)) e
theorem Keep.lst{s C dx:Addr}{fs:List (Str×V)}{H H':Hp}(h:Keep s H H')(hs:H s=some (.ins C dx fs)){t:Addr}{ys:Μ}(e:H t=some (.lst ys)):H' t=some (.lst ys):=h t _ (fH e hs (by intro z;cases z)) e
theorem Keep.free{s r:Addr}{o:HO}{H H':Hp}(h:Keep s H H')(hr:H' r=none)(hs:H' s=some o):H r=none:=by
 cases z:H r with
 |none=>rfl
 |some u =>
  have:=h r u (bH hs hr).symm z;rw[hr]at this;cases this
theorem WF.updI{H:Hp}{o C dx:Addr}{fs:List (Str×V)}{u:HO}(ho:H o=some (.ins C dx fs)){xs:Μ}{gs:List (Str×Int×Int)}{ws:List (Str×Addr)}(h:WF K H xs gs ws):WF K (upd H o u) xs gs ws :=
 h.imp (λt us e=>(bL (fH e ho (by intro z;cases z))).trans e) λc xs e=>e.updO ho (by intro ys z;cases z) (by intro ob ys z;cases z)
theorem PW.snoc{H:Hp}{xs:Μ}{gs:List (Str×Int)}{S:Int}(h:PW H xs gs S){t c:Addr}{g:Str×Int}(h1:H t=some (.tup [.str g.1,.ref c]))(h2:H c=some (.tup [.int (Ac.lw g.2 S).1,.int (Ac.lw g.2 S).2])):PW H (xs++[.ref t]) (gs++[g]) S:=by
 refine⟨by rw[aA,aA,h.len];rfl,λk u e=>?_⟩;by_cases hk:k<gs.length
 .rw[aD hk]at e;rw[aD (by rw[h.len];exact hk)];exact h.at_ k u e
 .rw[aC (Nat.le_of_not_lt hk)]at e;rw[aC (by rw[h.len];exact Nat.le_of_not_lt hk),h.len];have e0:k-gs.length=0:=by
   cases e1:k-gs.length with
   |zero=>rfl
   |succ m=>rw[e1]at e;simp at e
  rw[e0,List.getElem?_cons_zero]at e;cases e;rw[e0];exact⟨t,c,rfl,h1,h2⟩
structure ac7(K:Frag)(H:Hp)(s C:Addr)(n:Str)(p:Addr)(ds:List (Str×Int×Int))(ld:Addr)(ys:Μ)(ws:List (Str×Addr)):Prop where
 at_:∃dx,H s=some (.ins C dx [("name",.str n),("pay",.ref p),("leads",.ref ld)])
 hl:H ld=some (.lst ys)
 wf:WF K H ys ds ws
noncomputable def uw(K:Frag)(D:Adr):Sp:=λvs H Q _=>∃(s dx C:Addr)(n:Str)(p l:Addr)(x y:Int)(xs:Μ)(gs:List (Str×Int))(S:Int),vs=[.ref s,.str n,.ref p,.ref l]/\H s=some (.ins C dx [])/\Fam D C/\n.length<=1000/\mq n.cps.toList=true/\Fk K H p x y /\
 H l=some (.lst xs)/\PW H xs gs S/\Wt gs S/\∀H' ld ys ws,H ld=none->Keep s H H'->ac7 K H' s C n p (Ac.ways gs S) ld ys ws->Q .non H'
theorem Dm(F:Fun K uf ug qL f fd)(T:Txt K mg D)(qm:OkI P w K mg base (CXO P w) 4 D.Door_init mL (qG (K:=K) D))(Dc:OkX P w K mg base 4 j4 ju m9)
 (BJ:OkX P w K mg base 4 jM jG (yh K)):cC P w K mg base (CXO P w) 5 f fd lE (uw K D):=by
 refine F.okX DX ?_ ?_
 .rintro _ _ _ _ ⟨s,dx,C,n,p,l,x,y,xs,gs,S,rfl,_⟩;rfl
 .rintro cdv A outer s H _ Q E hr ⟨o,dx,C,n,p,l,x,y,xs,gs,S,rfl,ho,hC,hn,hw,hf,hl,hp,W,q⟩;refine⟨_,(bK (cY (Ue T.HF qm hr.md (by rfl) T.Zh lY (bD (pv 0) (bD (pv 1) (bD (pv 2) bF)))))
   (bK (cY (jU Dc hr.md (by rfl) lY (bD (pv 3) bF)))
   (bN (uI (pv 0) (jU BJ hr.md (by rfl) lY (bD (pv 3) bF)) rfl)))),?_⟩
  unfold qG m9 yh
  walk_at "rd"
  refine⟨dx,C,ho,hC,hn,hw,⟨x,y,hf⟩,λl0 h0=>?_⟩;have ol:o≠l0:=bH bG h0;rw[bL ol.symm]at h0;have k1:Keep o H (upd (upd H l0 (.lst [])) o (.ins C dx [("name",.str n),("pay",.ref p),("leads",.ref l0)])):=λb u hb e=>(bL hb).trans ((bL (bH e h0)).trans e);have o1:upd (upd H l0 (.lst [])) o (.ins C dx [("name",.str n),("pay",.ref p),("leads",.ref l0)]) o=some (.ins C dx [("name",.str n),("pay",.ref p),("leads",.ref l0)]):=bG;generalize upd (upd H l0 (.lst [])) o (.ins C dx [("name",.str n),("pay",.ref p),("leads",.ref l0)])=H1 at k1 o1 ⊢;refine⟨xs,k1.lst ho hl,_,(hp.imp (k1.tup ho)).pairs,?_,?_,VR W,λH2 S2=>?_⟩
  .intro g hg;obtain⟨u,hu,rfl⟩:=YV.mp hg;exact W.pair hu
  .rw[ak];exact aM W.len (by decide)
  .refine⟨xs,S2 _ _ (k1.lst ho hl),gs,S,(hp.imp (k1.tup ho)).same S2,W,λH3 r ys ws S3 hr3 hr hwf=>?_⟩;have o3:=S3 _ _ (S2 _ _ o1);refine⟨C,dx,_,o3,T.cl C hC,T.Bg C hC,(by show 3<1000;decide),?_⟩;refine q _ r ys ws (k1.free (S2.free hr3) o1) (λb u hb e=>(bL hb).trans (S3 _ _ (S2 _ _ (k1 b u hb e)))) ⟨⟨dx,bG⟩,(bL (fH hr o3 (by intro z;cases z))).trans hr,hwf.updI o3⟩
noncomputable def Lt(x:Str):Prop:=x.cps.toList.all Dh=true
structure Wd(x:Str):Prop where
 lt:Lt x
 lo:1<=x.length
 hi:x.length<=8
theorem Wd.word{x:Str}(h:Wd x):mq x.cps.toList=true:=by
 have l:=h.lt;have lo:=h.lo;have hi:=h.hi;have hl:x.cps.toList.length=x.length:=Array.length_toList;unfold Lt at l;unfold mq;rw[l,hl,Zs lo,Zs hi];rfl
noncomputable def uh(ns:Β)(o:Nat):List (Key×V):=(ns.zipIdx o).map λg=>(.inr g.1,.int (g.2:Nat))
noncomputable abbrev xK(ns:Β):List (Key×V):=uh ns 0
theorem Bo{ns:Β}{o:Nat} : (uh ns o).length=ns.length:=by unfold uh;rw[ak,List.length_zipIdx]
theorem xQ{n:Str}{ns:Β}{o:Nat} : uh (n::ns) o=(.inr n,.int (o:Nat))::uh ns (o+1):=by unfold uh;rw[List.zipIdx_cons];rfl
theorem Od{n:Str} : ∀{ns:Β}{o:Nat},n∉ns->mj (uh ns o) (.inr n)=none
 |[],_,_=>rfl
 |a::ns,o,h=>by
  rw[xQ];have ne:¬(Sum.inr a:Key)=.inr n:=λz=>h (by injection z with z;rw[z];exact aO);unfold mj;rw[List.find?_cons,Zp ne];exact Od λm=>h (aH _ m)
theorem Jj{n:Str} : ∀{ns:Β}{o k:Nat},ns.Nodup->ns[k]?=some n->mj (uh ns o) (.inr n)=some (.int ((o+k:Nat):Int))
 |[],_,_,_,h=>by simp at h
 |a::ns,o,0,_,h=>by
  rw[List.getElem?_cons_zero]at h;cases h;rw[xQ];unfold mj;rw[List.find?_cons,Zs rfl];rfl
 |a::ns,o,k+1,nd,h=>by
  rw[List.getElem?_cons_succ]at h;obtain⟨na,nd'⟩:=List.nodup_cons.mp nd;have ne:¬(Sum.inr a:Key)=.inr n:=λz=>na (by injection z with z;rw[z];exact aB h);have ih:=Jj (o:=o+1) nd' h;rw[xQ];unfold mj at ih ⊢;rw[List.find?_cons,Zp ne];rw[show o+(k+1)=o+1+k by lia];exact ih
theorem T4{n:Str}{ns:Β}(h:n∉ns):putK (xK ns) (.inr n) (.int (ns.length:Nat))=xK (ns++[n]):=by
 have a:((xK ns).any λkv=>decide (kv.1=.inr n))=false:=by
  rw[List.any_eq_false];intro kv hk;unfold xK uh at hk;obtain⟨g,hg,rfl⟩:=YV.mp hk;have:g.1∈ns:=by
   have:=List.mem_map_of_mem (f:=Prod.fst) hg;rwa[List.zipIdx_map_fst]at this
  intro z;have z:(Sum.inr g.1:Key)=.inr n:=of_decide_eq_true z;injection z with z;exact h (z ▸ this)
 unfold putK;rw[a,ZZ (by decide)];unfold xK uh;rw[List.zipIdx_append,bA,Nat.zero_add];rfl
structure Nj(H:Hp)(xs:Μ)(ns:Β):Prop where
 len:xs.length=ns.length
 at_:∀(k:Nat)(n:Str),ns[k]?=some n->∃t v,xs[k]?=some (.ref t)/\H t=some (.tup [.str n,v])
theorem Cy{α:Type}{l:List α}{k:Nat}{a:α}(nd:l.Nodup)(e:l[k]?=some a):a∉l.take k:=by
 obtain⟨lk,rfl⟩:=ao.mp e;rw[<- List.take_append_drop k l,List.nodup_append]at nd;intro z;refine nd.2.2 _ z _ ?_ rfl;rw[List.drop_eq_getElem_cons lk];exact aO
noncomputable def oA:Sp:=λvs H Q _=>∃(p:Addr)(x y:Int),vs=[.ref p]/\Fk K H p x y/\0<=x/\x<y/\Bd x/\Bd y/\Q .non H
theorem Ak(F:Fun K jF jF pO f fd)(T:Txt K mg D)(gk:OkF P w K mg base 2 jl jo (gZ (K:=K)))(jy:OkF P w K mg base 1 qg qb (pW (K:=K))):cC P w K mg base CX0 3 f fd jW (oA (K:=K)):=by
 refine F.ok CG ?_ ?_
 .rintro _ _ _ _ ⟨p,x,y,rfl,_⟩;rfl
 .rintro cdv A outer s H _ Q E hr ⟨p,x,y,rfl,fk,x0,xy,bx,b_y,q⟩;refine⟨_,(bN (eF (PW.pt (pw_or (dJ (dB (bO gk hr.md (by rfl) (bD (pv 0) bF)) (λ_=>rfl))) (pw_or (dB (bO jy hr.md (by rfl) (bD (pv 0) (bD (iW (by rfl) T.nF) bF))) (λ_=>rfl)) (pw_or1 (dJ (dB (bO jy hr.md (by rfl) (bD (pv 0) (bD (iW (by rfl) T.R7) bF))) (λ_=>rfl)))))))
    (bN jE)
    cN)),?_⟩
  unfold gZ pW
  walk_at "rd"
  have hy:=fk.pos;have b0:Bd 0:=Nat.two_pow_pos 8000;have b1:Bd 1:=Nat.one_lt_two_pow (by decide);refine⟨⟨x,y,fk⟩,x,y,fk.at_,0,1,T.kW H,bx,b_y,b0,b1,?_⟩;rw[ZZ (by simp;omega)];refine⟨x,y,fk.at_,1,1,T.Ms H,bx,b_y,b1,b1,?_⟩;rw[ZZ (by simp;omega)];exact q
noncomputable def pq:Sp:=λvs H Q _=>∃(l:Addr)(xs:Μ)(rs:Β),vs=[.ref l]/\H l=some (.lst xs)/\Nj H xs rs/\rs.Nodup/\(∀g∈rs,Wd g)/\rs.length<=20 /\
 ∀d H',Same H H'->H d=none->H' d=some (.dK (xK rs))->Q (.ref d) H'
noncomputable def nJ(l d:Addr)(rs:Β)(H:Hp)(k:Nat)(σ:L2.St)(H':Hp):Prop:=∃u v,σ=[some (.ref l),some (.ref d),u,v]/\Same H H'/\H' d=some (.dK (xK (rs.take k)))
theorem Ej(F:Fun K lQ lQ qQ f fd)(T:Txt K mg D)(iB:OkF P w K mg base 1 k_ kO uy):cC P w K mg base CX0 2 f fd lM pq:=by
 refine F.ok lX ?_ ?_
 .rintro _ _ _ _ ⟨l,xs,rs,rfl,_⟩;rfl
 .rintro cdv A outer s H _ Q E hr ⟨l,xs,rs,rfl,hl,ra,nd,wd,n20,q⟩;refine⟨_,(bK (bZ (i:=1) lX.nd rfl (Or.inl rfl) vp)
   (bK (fD PassesOwn.never rfl (dD ((pv 0)).mono) (cH (i:=2) lX.nd rfl (Or.inl rfl))
    (bK (bZ (i:=3) lX.nd rfl (Or.inl rfl) (bU cg (pv 2) bI (λ_ _=>rfl)))
    (bK (eF (PW.pt (pw_or (dJ (dB (bO iB hr.md (by rfl) (bD (pv 3) bF)) (λ_=>rfl))) (pw_or1 (KZ (Ul (qW hr) (pv 3) (pv 1))))))
     (bN jE)
     cN)
    (bN (zx (qW hr) (pv 1) (pv 3) (cF E_ (by rfl) T.lZ PySem.boot_len (bD (pv 1) bF)) rfl)))))
   (bN (cD (pv 1))))),?_⟩
  unfold uy
  walk_at "rd"
  refine λd hd=>gC ?_
  walk_at "rd"
  have ld:l≠d:=bH hl hd;refine⟨xs,(bL ld).trans hl,nJ l d rs H,⟨none,none,rfl,Same.upd hd,bG⟩,?_,?_⟩
  .rintro k x σ' H' hk ⟨u,v,rfl,S1,h1⟩ hl';have lk:k<rs.length:=by rw[<- ra.len];exact(ao.mp hk).1
   have e:rs[k]?=some rs[k]:=aj lk;have hm:=aV lk;obtain⟨t,dv,a,b⟩:=ra.at_ k _ e;rw[hk]at a;cases a;have hw:=wd _ hm;have no:rs[k]∉rs.take k:=by exact Cy nd e
   generalize rs[k]=n at *
   walk_at "rd"
   have l9:=hw.hi;refine⟨_,S1 _ _ b,_,fZ,.inl ⟨n,rfl,aM l9 (by decide),?_⟩⟩;rw[ZZ (by rw[hw.word];decide)];refine⟨_,rB.k (k:=.inr n) h1,?_⟩;rw[Od no,ZZ (by decide)];have hlen:(xK (rs.take k)).length<sizeLine:=by
    have h9:21<sizeLine:=by decide
    rw[Bo,bf];lia
   refine⟨d,_,rfl,h1,_,Hv.k (k:=.inr n) h1 hlen,(bL ld).trans hl',_,_,rfl,λb' o' e'=>(bL (bH e' hd)).trans (S1 _ _ e'),?_⟩;rw[bG,Bo,T4 no,cJ e]
  .rintro σ' H' ⟨u,v,rfl,S1,h1⟩ _;rw[ra.len,aP]at h1
   walk_at "rd"
   exact q d H' S1 hd h1
structure NWs(ns:Β)(H:Hp)(zs:Μ)(ws:List (Str×Addr)):Prop where
 len:zs.length=ws.length
 at_:∀(k:Nat)(g:Str×Addr),ws[k]?=some g->∃t i,zs[k]?=some (.ref t)/\ns[i]?=some g.1/\H t=some (.tup [.int (i:Nat),.ref g.2])
theorem NWs.imp{ns:Β}{H H':Hp}{zs:Μ}{ws:List (Str×Addr)}(h':∀t ys,H t=some (.tup ys)->H' t=some (.tup ys))(h:NWs ns H zs ws):NWs ns H' zs ws:=⟨h.len,λk g e=>let⟨t,i,a,b,c⟩:=h.at_ k g e;⟨t,i,a,b,h' _ _ c⟩⟩
theorem NWs.snoc{ns:Β}{H:Hp}{zs:Μ}{ws:List (Str×Addr)}{t:Addr}{i:Nat}{g:Str×Addr}(h:NWs ns H zs ws)(hi:ns[i]?=some g.1)(ht:H t=some (.tup [.int (i:Nat),.ref g.2])):NWs ns H (zs++[.ref t]) (ws++[g]):=by
 refine⟨by rw[aA,aA,h.len];rfl,λk g' e=>?_⟩;by_cases hk:k<ws.length
 .rw[aD hk]at e;obtain⟨t',i',a,b,c⟩:=h.at_ k g' e;exact⟨t',i',by rw[aD (by rw[h.len];exact hk)];exact a,b,c⟩
 .rw[aC (Nat.le_of_not_lt hk)]at e;have e0:k-ws.length=0:=by
   have:=(ao.mp e).1;simp at this;omega
  rw[e0]at e;cases e;refine⟨t,i,?_,hi,ht⟩;rw[aC (by rw[h.len];exact Nat.le_of_not_lt hk),h.len,e0];rfl
noncomputable def kZ(D:Adr):Sp:=λvs H Q _=>∃(s n C dx p l:Addr)(nm:Str)(xs:Μ)(ws:List (Str×Addr))(ns:Β),vs=[.ref s,.ref n]/\eY D C/\H s=some (.ins C dx [("name",.str nm),("pay",.ref p),("leads",.ref l)])/\H l=some (.lst xs)/\Qc H xs ws/\ws.length<=100/\H n=some (.dK (xK ns))/\ns.Nodup/\(∀g∈ws,g.1∈ns) /\
 ∀r H' zs,Same H H'->H r=none->H' r=some (.lst zs)->NWs ns H' zs ws->Q (.ref r) H'
noncomputable def nwJ(s n r:Addr)(ns:Β)(ws:List (Str×Addr))(H:Hp)(k:Nat)(σ:L2.St)(H':Hp):Prop:=∃u v zs,σ=[some (.ref s),some (.ref n),some (.ref r),u,v]/\Same H H'/\H' r=some (.lst zs)/\NWs ns H' zs (ws.take k)
theorem yt(F:Fun K iH iH mF f fd)(T:Txt K mg D)(rT:OkI P w K mg base CX0 1 D.Door_ways mQ (qC D)):cC P w K mg base CX0 2 f fd iD (kZ D):=by
 refine F.ok iG ?_ ?_
 .rintro _ _ _ _ ⟨d,n,C,dx,p,l,nm,xs,ws,ns,rfl,_⟩;rfl
 .rintro cdv A outer s H _ Q E hr ⟨d,n,C,dx,p,l,nm,xs,ws,ns,rfl,hC,hs,hl,hw,n100,hn,nd,hin,q⟩;refine⟨_,(bK (bZ (i:=2) iG.nd rfl (Or.inl rfl) (qP bF))
   (bK (fD PassesOwn.never rfl (dD ((PE.any λC(hC:eY D C)=>(tD (pv 0) (T.cl C hC.fam) (T.Ii C hC) rT hr.md))).mono) (gB (n:=2) rfl (cG (cH (i:=3) iG.nd rfl (Or.inl rfl)) (cG (cH (i:=4) iG.nd rfl (Or.inl rfl)) fK)))
    (bK (eF (KZ (Pn (qW hr) (pv 3) (pv 1)))
     (bN jE)
     cN)
    (bN (cY (kY (pv 2) (bD (oY (bD (H_ (qW hr) (pv 1) (pv 3) (λ_ _=>rfl)) (bD (pv 4) bF))) bF))))))
   (bN (cD (pv 2))))),?_⟩
  unfold qC
  walk_at "rd"
  refine⟨by decide,λr hrn=>gC ?_⟩
  walk_at "rd"
  have sr:∀{b o},H b=some o->(upd H r (.lst [])) b=some o:=λ{b o}e=>(bL (bH e hrn)).trans e;refine⟨C,hC,dx,_,sr hs,rfl,nm,p,l,⟨C,dx,hC.fam,sr hs⟩,xs,sr hl,by rw[hw.len];exact n100,λr2 hr2=>⟨nwJ d n r ns ws H,?_,?_,?_⟩⟩
  .have rr:r≠r2:=bH bG hr2;refine⟨none,none,[],rfl,λb o e=>(bL (bH (sr e) hr2)).trans (sr e),(bL rr).trans bG,rfl,λk g e=>by simp at e⟩
  .rintro k x σ' H' hk ⟨u,v,zs,rfl,S1,h1,nw⟩ hx;have lk:k<ws.length:=by rw[<- hw.len];exact(ao.mp hk).1
   have e:ws[k]?=some ws[k]:=aj lk;have hm:=hin _ (aV lk);obtain⟨t,a,b⟩:=hw.at_ k _ e;rw[hk]at a;cases a;generalize ws[k]=g at *;obtain⟨m,c⟩:=g;obtain⟨i,hi⟩:=aW hm
   walk_at "rd"
   have rr:r≠r2:=bH bG hr2;have vl:mj (xK ns) (.inr m)=some (.int ((0+i:Nat):Int)):=Jj nd hi;have dg:rB H' n (kV (.inr m)) (some (.int ((0+i:Nat):Int))):=vl ▸ rB.k (k:=.inr m) (S1 _ _ hn);refine⟨_,S1 _ _ b,rfl,_,_,rfl,_,_,rfl,rfl,_,dg,?_⟩;rw[ZZ (by simp)];refine⟨⟨_,h1⟩,_,dg,jm,λp hp=>?_⟩;have rp:r≠p:=bH h1 hp;have zl:zs.length<sizeLine:=by
    have h9:101<sizeLine:=by decide
    rw[nw.len,bf];lia
   refine⟨zs,(bL rp).trans h1,zl,(bL rr.symm).trans ((bL (bH hx hp)).trans hx),_,_,_,rfl,λb' o' e'=>(bL (bH e' hrn)).trans ((bL (bH (S1 _ _ e') hp)).trans (S1 _ _ e')),bG,?_⟩;rw[cJ e];refine(nw.imp λt ys e'=>?_).snoc hi ?_
   .rw[bL (fH e' h1 (by intro z;cases z)),bL (bH e' hp)];exact e'
   .rw[bL rp.symm,bG,Nat.zero_add]
  .rintro σ' H' ⟨u,v,zs,rfl,S1,h1,nw⟩ hx;rw[hw.len,aP]at nw
   walk_at "rd"
   exact q r H' zs S1 hrn h1 nw
noncomputable def del(as:Ε)(H:Hp):Hp:=λb=>if b∈as then none else H b
theorem cW{as:Ε}{H:Hp}{b:Addr}{o:HO}(h:b∉as)(e:H b=some o):del as H b=some o:=by unfold del;rw[ZZ h];exact e
theorem j9{as:Ε}{H:Hp}{b:Addr}{o:HO}(e:del as H b=some o):b∉as/\H b=some o:=by
 unfold del at e;split at e
 .cases e
 .exact⟨by assumption,e⟩
theorem jK{as:Ε}{H:Hp} : Same (del as H) H:=λb o e=>(j9 e).2
theorem nZ{as:Ε}{H H':Hp}(h:∀b o,b∉as->H b=some o->H' b=some o):Same (del as H) (del as H'):=λb o e=>let⟨a,c⟩:=j9 e;cW a (h b o a c)
structure Dr where
 nm:Str
 p:Addr
 ws:List (Str×Addr)
noncomputable def RP(D:Adr)(H:Hp)(s:Addr)(g:Dr):Prop:=∃C dx l xs,eY D C/\H s=some (.ins C dx [("name",.str g.nm),("pay",.ref g.p),("leads",.ref l)])/\H l=some (.lst xs)/\Qc H xs g.ws/\g.ws.length<=100
theorem RP.same{H H':Hp}{s:Addr}{g:Dr}(S:Same H H')(h:RP D H s g):RP D H' s g:=by obtain⟨C,dx,l,xs,a,b,c,d,e⟩:=h;exact⟨C,dx,l,xs,a,S _ _ b,S _ _ c,d.same S,e⟩
structure uq(D:Adr)(H:Hp)(xs:Μ)(gs:List Dr):Prop where
 len:xs.length=gs.length
 at_:∀(k:Nat)(g:Dr),gs[k]?=some g->∃s,xs[k]?=some (.ref s)/\RP D H s g
theorem uq.same{H H':Hp}{xs:Μ}{gs:List Dr}(S:Same H H')(h:uq D H xs gs):uq D H' xs gs:=⟨h.len,λk g e=>let⟨s,a,b⟩:=h.at_ k g e;⟨s,a,b.same S⟩⟩
structure oG(ns:Β)(H:Hp)(zs:Μ)(gs:List Dr):Prop where
 len:zs.length=gs.length
 at_:∀(k:Nat)(g:Dr),gs[k]?=some g->∃t r ys,zs[k]?=some (.ref t)/\H t=some (.tup [.str g.nm,.ref g.p,.ref r])/\H r=some (.lst ys)/\NWs ns H ys g.ws
theorem oG.same{ns:Β}{H H':Hp}{zs:Μ}{gs:List Dr}(S:Same H H')(h:oG ns H zs gs):oG ns H' zs gs:=⟨h.len,λk g e=>let⟨t,r,ys,a,b,c,d⟩:=h.at_ k g e;⟨t,r,ys,a,S _ _ b,S _ _ c,d.imp λ_ _ z=>S _ _ z⟩⟩
theorem oG.snoc{ns:Β}{H:Hp}{zs ys:Μ}{gs:List Dr}{t r:Addr}{g:Dr}(h:oG ns H zs gs)(ht:H t=some (.tup [.str g.nm,.ref g.p,.ref r]))(hr:H r=some (.lst ys))(hn:NWs ns H ys g.ws):oG ns H (zs++[.ref t]) (gs++[g]):=by
 refine⟨by rw[aA,aA,h.len];rfl,λk g' e=>?_⟩;by_cases hk:k<gs.length
 .rw[aD hk]at e;obtain⟨t',r',ys',a,b⟩:=h.at_ k g' e;exact⟨t',r',ys',by rw[aD (by rw[h.len];exact hk)];exact a,b⟩
 .rw[aC (Nat.le_of_not_lt hk)]at e;have e0:k-gs.length=0:=by
   have:=(ao.mp e).1;simp at this;omega
  rw[e0]at e;cases e;refine⟨t,r,ys,?_,ht,hr,hn⟩;rw[aC (by rw[h.len];exact Nat.le_of_not_lt hk),h.len,e0];rfl
noncomputable def Cm(ns:Β):List (Key×V):=ns.map λn=>(.inr n,.bl true)
theorem Wv{n:Str}{ns:Β}(h:n∉ns):mj (Cm ns) (.inr n)=none:=by
 unfold mj;rw[List.find?_eq_none.mpr]
 .rfl
 .intro kv hk z;unfold Cm at hk;obtain⟨m,hm,rfl⟩:=YV.mp hk;have z:(Sum.inr m:Key)=.inr n:=of_decide_eq_true z;injection z with z;exact h (z ▸ hm)
theorem Vx{n:Str}{ns:Β}(h:n∉ns):putK (Cm ns) (.inr n) (.bl true)=Cm (ns++[n]):=by
 have a:((Cm ns).any λkv=>decide (kv.1=.inr n))=false:=by
  rw[List.any_eq_false];intro kv hk z;unfold Cm at hk;obtain⟨m,hm,rfl⟩:=YV.mp hk;have z:(Sum.inr m:Key)=.inr n:=of_decide_eq_true z;injection z with z;exact h (z ▸ hm)
 unfold putK;rw[a,ZZ (by decide)];unfold Cm;rw[bA];rfl
noncomputable def Oe(H:Hp)(as:Ε):Prop:=∀a∈as,∃u,H a=some u/\∀ys,u≠.tup ys
noncomputable def qO(D:Adr):Sp:=λvs H Q _=>∃(l n:Addr)(xs:Μ)(gs:List Dr)(ns:Β),vs=[.ref l,.ref n]/\H l=some (.lst xs)/\uq D H xs gs/\gs.length<=100/\(gs.map (·.nm)).Nodup/\H n=some (.dK (xK ns))/\ns.Nodup/\(∀g∈gs,∀z∈g.ws,z.1∈ns) /\
 ∀r H' zs,Same H H'->H r=none->H' r=some (.lst zs)->(∀as,Oe H as->oG ns (del as H') zs gs)->Q (.ref r) H'
noncomputable def oJ(l n d r:Addr)(ns:Β)(gs:List Dr)(H:Hp)(k:Nat)(σ:L2.St)(H':Hp):Prop:=∃u zs,σ=[some (.ref l),some (.ref n),some (.ref d),some (.ref r),u]/\Same H H'/\H' d=some (.dK (Cm ((gs.take k).map (·.nm))))/\H' r=some (.lst zs)/\∀as,Oe H as->oG ns (del (d::r::as) H') zs (gs.take k)
theorem Ho(F:Fun K mK mK sZ f fd)(T:Txt K mg D)(mD:OkF P w K mg base 2 iH iD (kZ D)):cC P w K mg base CX0 3 f fd mV (qO D):=by
 refine F.ok mX ?_ ?_
 .rintro _ _ _ _ ⟨l,n,xs,gs,ns,rfl,_⟩;rfl
 .rintro cdv A outer s H _ Q E hr ⟨l,n,xs,gs,ns,rfl,hl,dr,n100,ndg,hn,nd,hin,q⟩;refine⟨_,(bK (bZ (i:=2) mX.nd rfl (Or.inl rfl) vp)
   (bK (bZ (i:=3) mX.nd rfl (Or.inl rfl) (qP bF))
   (bK (fD PassesOwn.never rfl (dD ((pv 0)).mono) (cH (i:=4) mX.nd rfl (Or.inl rfl))
    (bK (eF (KZ (Ul (qW hr) (o_ (pv 4) rfl) (pv 2)))
     (bN jE)
     cN)
    (bK (zx (qW hr) (pv 2) (o_ (pv 4) rfl) v8 rfl)
    (bN (cY (kY (pv 3) (bD (oY (bD (o_ (pv 4) rfl) (bD (o_ (pv 4) rfl) (bD (bO mD hr.md (by rfl) (bD (pv 4) (bD (pv 1) bF))) bF)))) bF)))))))
   (bN (cD (pv 3)))))),?_⟩
  unfold kZ
  walk_at "rd"
  refine λd hd=>⟨by decide,λr hrn=>gC ?_⟩
  walk_at "rd"
  have dr0:d≠r:=bH bG hrn;have hrn':H r=none:=(bL dr0.symm).symm.trans hrn;have st:Same H (upd (upd H d (.dK [])) r (.lst [])):=λb o e=>(bL (bH e hrn')).trans ((bL (bH e hd)).trans e);refine⟨xs,st _ _ hl,oJ l n d r ns gs H,⟨none,[],rfl,st,(bL dr0).trans bG,bG,λas _=>⟨rfl,λk g e=>by simp at e⟩⟩,?_,?_⟩
  .rintro k x σ' H' hk ⟨u,zs,rfl,S1,h1,h2,of_⟩ hx;have lk:k<gs.length:=by rw[<- dr.len];exact(ao.mp hk).1
   have e:gs[k]?=some gs[k]:=aj lk;have hm:=hin _ (aV lk);obtain⟨t,a,b⟩:=dr.at_ k _ e;rw[hk]at a;cases a;have no:gs[k].nm∉(gs.take k).map (·.nm):=by
    rw[List.map_take];exact Cy ndg (by rw[aq,e];rfl)
   generalize gs[k]=g at *;obtain⟨C,dx,ll,ys,hC,hs,hll,hw,w100⟩:=b.same S1
   walk_at "rd"
   refine⟨C,dx,_,hs,T.cl C hC.fam,T.zA C hC.fam,_,rfl,_,rB.k (k:=.inr g.nm) h1,?_⟩;rw[Wv no,ZZ (by decide)];have hlen:(Cm ((gs.take k).map (·.nm))).length<sizeLine:=by
    have h9:101<sizeLine:=by decide
    unfold Cm;rw[ak,ak,bf];lia
   have up:∀{b o},b≠d->H' b=some o->upd H' d (.dK (putK (Cm ((gs.take k).map (·.nm))) (.inr g.nm) (.bl true))) b=some o:=λ{b o}h e=>(bL h).trans e;have td:t≠d:=fH hs h1 (by intro z;cases z);have ld:ll≠d:=fH hll h1 (by intro z;cases z);have nd_:n≠d:=bH hn hd;refine⟨C,dx,_,hs,T.cl C hC.fam,T.zA C hC.fam,_,rfl,_,Hv.k (k:=.inr g.nm) h1 hlen,⟨zs,up dr0.symm h2⟩,C,dx,_,up td hs,T.cl C hC.fam,T.zA C hC.fam,_,rfl,C,dx,_,up td hs,T.cl C hC.fam,T.U0 C hC.fam,_,rfl,C,hC,dx,g.p,ll,⟨g.nm,up td hs⟩,ys,up ld hll,g.ws,⟨hw.len,λk g e=>let⟨t,a,b⟩:=hw.at_ k g e;⟨t,a,up (fH b h1 (by intro z;cases z)) b⟩⟩,w100,ns,up nd_ (S1 _ _ hn),nd,hm,?_⟩;intro r3 H3 z3 S3 f3 e3 w3;refine⟨by decide,λp hp=>?_⟩;have lr:l≠r:=bH hl hrn';have ld0:l≠d:=bH hl hd;have a1:=S3 _ _ (up dr0.symm h2);have a2:=S3 d _ bG;have rp:r≠p:=bH a1 hp;have dp:d≠p:=bH a2 hp;have a3:=S3 _ _ (up ld0 hx);have zl:zs.length<sizeLine:=by
    have h9:101<sizeLine:=by decide
    rw[(of_ [] (by intro a ha;cases ha)).len,bf];lia
   have r3p:r3≠p:=bH e3 hp;refine⟨zs,(bL rp).trans a1,zl,(bL lr).trans ((bL (bH a3 hp)).trans a3),_,_,rfl,λb o e'=>?_,?_,bG,?_⟩
   .have c:=S3 _ _ (up (bH e' hd) (S1 _ _ e'));rw[bL (bH e' hrn'),bL (bH c hp)];exact c
   .rw[bL dr0,bL dp,a2,Vx no,cJ e,bA];rfl
   .intro as has;have r3n:r3∉d::r::as:=by
     simp only[YU,not_or];refine⟨λz=>(by rw[z,bG]at f3;cases f3),λz=>(by rw[z,up dr0.symm h2]at f3;cases f3),λz=>?_⟩;obtain⟨u,hu,_⟩:=has _ z;rw[up (bH hu hd) (S1 _ _ hu)]at f3;cases f3
    have asp:∀a∈as,∃u,H3 a=some u/\∀ys,u≠.tup ys:=λa ha=>let⟨u,hu,n⟩:=has a ha;⟨u,S3 _ _ (up (bH hu hd) (S1 _ _ hu)),n⟩;have pn:p∉d::r::as:=by
     simp only[YU,not_or];exact⟨dp.symm,rp.symm,λz=>let⟨u,hu,_⟩:=asp _ z;bH hu hp rfl⟩
    have u2:∀{b o},b∉d::r::as->(upd H3 p (.tup [.str g.nm,.ref g.p,.ref r3])) b=some o->del (d::r::as) (upd (upd H3 p (.tup [.str g.nm,.ref g.p,.ref r3])) r (.lst (zs++[.ref p]))) b=some o:=λ{b o}h e=>cW h ((bL (by simp only[YU,not_or]at h;exact h.2.1)).trans e);rw[cJ e];refine((of_ as has).same λb o e'=>?_).snoc (u2 pn bG) (u2 r3n ((bL r3p).trans e3)) (w3.imp λt ys e'=>?_)
    .obtain⟨b1,b2⟩:=j9 e';have c:=S3 _ _ (up (by simp only[YU,not_or]at b1;exact b1.1) b2);exact u2 b1 ((bL (bH c hp)).trans c)
    .refine u2 ?_ ((bL (bH e' hp)).trans e');simp only[YU,not_or];exact⟨fH e' a2 (by intro z;cases z),fH e' a1 (by intro z;cases z),λz=>let⟨u,hu,n⟩:=asp _ z;n _ (Option.some.inj (hu.symm.trans e'))⟩
  .rintro σ' H' ⟨u,zs,rfl,S1,h1,h2,of_⟩ hx;rw[dr.len,aP]at of_
   walk_at "rd"
   exact q r H' zs S1 hrn' h2 λas has=>(of_ as has).same λb o e=>let⟨a,c⟩:=j9 e;cW (λz=>a (aH _ (aH _ z))) c
structure j8(D:Adr)(H:Hp)(xs:Μ)(rms:List (Str×List Dr)):Prop where
 len:xs.length=rms.length
 at_:∀(k:Nat)(g:Str×List Dr),rms[k]?=some g->∃t l ys,xs[k]?=some (.ref t)/\H t=some (.tup [.str g.1,.ref l])/\H l=some (.lst ys)/\uq D H ys g.2
theorem j8.rooms{H:Hp}{xs:Μ}{rms:List (Str×List Dr)}(h:j8 D H xs rms):Nj H xs (rms.map (·.1)):=⟨by rw[h.len,ak],λk n e=>by
 rw[aq]at e;cases e0:rms[k]? with
 |none=>rw[e0]at e;cases e
 |some g =>
  rw[e0]at e;cases e;obtain⟨t,l,ys,a,b,_⟩:=h.at_ k g e0;exact⟨t,_,a,b⟩⟩
theorem j8.same{H H':Hp}{xs:Μ}{rms:List (Str×List Dr)}(S:Same H H')(h:j8 D H xs rms):j8 D H' xs rms:=⟨h.len,λk g e=>let⟨t,l,ys,a,b,c,d⟩:=h.at_ k g e;⟨t,l,ys,a,S _ _ b,S _ _ c,d.same S⟩⟩
structure rM(ns:Β)(H:Hp)(zs:Μ)(gss:List (List Dr)):Prop where
 len:zs.length=gss.length
 at_:∀(k:Nat)(gs:List Dr),gss[k]?=some gs->∃l ys,zs[k]?=some (.ref l)/\H l=some (.lst ys)/\oG ns H ys gs
theorem rM.same{ns:Β}{H H':Hp}{zs:Μ}{gss:List (List Dr)}(S:Same H H')(h:rM ns H zs gss):rM ns H' zs gss:=⟨h.len,λk g e=>let⟨l,ys,a,b,c⟩:=h.at_ k g e;⟨l,ys,a,S _ _ b,c.same S⟩⟩
theorem rM.snoc{ns:Β}{H:Hp}{zs ys:Μ}{gss:List (List Dr)}{l:Addr}{gs:List Dr}(h:rM ns H zs gss)(hl:H l=some (.lst ys))(ho:oG ns H ys gs):rM ns H (zs++[.ref l]) (gss++[gs]):=by
 refine⟨by rw[aA,aA,h.len];rfl,λk g' e=>?_⟩;by_cases hk:k<gss.length
 .rw[aD hk]at e;obtain⟨l',ys',a,b⟩:=h.at_ k g' e;exact⟨l',ys',by rw[aD (by rw[h.len];exact hk)];exact a,b⟩
 .rw[aC (Nat.le_of_not_lt hk)]at e;have e0:k-gss.length=0:=by
   have:=(ao.mp e).1;simp at this;omega
  rw[e0]at e;cases e;refine⟨l,ys,?_,hl,ho⟩;rw[aC (by rw[h.len];exact Nat.le_of_not_lt hk),h.len,e0];rfl
theorem xO{H:Hp}{o b C0 dx0:Addr}{u:HO}(ho:H o=some (.ins C0 dx0 []))(e:H b=some u)(n:u≠.ins C0 dx0 []):del [o] H b=some u:=cW (by simp only[YR];exact fH e ho n) e
theorem j8.off{H:Hp}{o C0 dx0:Addr}{xs:Μ}{rms:List (Str×List Dr)}(ho:H o=some (.ins C0 dx0 []))(h:j8 D H xs rms):j8 D (del [o] H) xs rms:=⟨h.len,λk g e=>by
 obtain⟨t,l,ys,a,b,c,d⟩:=h.at_ k g e;refine⟨t,l,ys,a,xO ho b (by intro z;cases z),xO ho c (by intro z;cases z),d.len,λk g e=>?_⟩;obtain⟨s,a,C,dx,l,xs,h1,h2,h3,h4,h5⟩:=d.at_ k g e;exact⟨s,a,C,dx,l,xs,h1,xO ho h2 (by intro z;injection z with _ _ z;cases z),xO ho h3 (by intro z;cases z),⟨h4.len,λk g e=>let⟨t,a,b⟩:=h4.at_ k g e;⟨t,a,xO ho b (by intro z;cases z)⟩⟩,h5⟩⟩
structure Jd(rms:List (Str×List Dr)):Prop where
 len:rms.length<=20
 nd:(rms.map (·.1)).Nodup
 wd:∀g∈rms,Wd g.1
 few:∀g∈rms,g.2.length<=100
 dn:∀g∈rms,(g.2.map (·.nm)).Nodup
 to_:∀g∈rms,∀d∈g.2,∀z∈d.ws,z.1∈rms.map (·.1)
noncomputable def ji(D:Adr)(H:Hp)(a p:Addr)(rms:List (Str×List Dr)):Prop:=∃dx n l zs,H a=some (.ins D.Hall dx [("share",.ref p),("numbers",.ref n),("offered",.ref l)])/\H n=some (.dK (xK (rms.map (·.1))))/\H l=some (.lst zs)/\rM (rms.map (·.1)) H zs (rms.map (·.2))
theorem ji.same{H H':Hp}{a p:Addr}{rms:List (Str×List Dr)}(S:Same H H')(h:ji D H a p rms):ji D H' a p rms:=by obtain⟨dx,n,l,zs,b,c,d,e⟩:=h;exact⟨dx,n,l,zs,S _ _ b,S _ _ c,S _ _ d,e.same S⟩
inductive sY(K:Frag)(D:Adr)(vs:Μ)(H:Hp)(Q:VK):Prop
 |mk (o dx p l:Addr) (x y:Int) (xs:Μ) (rms:List (Str×List Dr)) (h0:vs=[.ref o,.ref p,.ref l]) (h1:H o=some (.ins D.Hall dx [])) (h2:Fk K H p x y) (h3:0<=x) (h4:x<y) (h5:Bd x) (h6:Bd y) (h7:H l=some (.lst xs)) (h8:j8 D H xs rms) (h9:Jd rms) (h10:∀H',Keep o H H'->ji D H' o p rms->Q .non H'):sY K D vs H Q
noncomputable def wR(K:Frag)(D:Adr):Sp:=λvs H Q _=>sY K D vs H Q
noncomputable def hJ(o D1:Addr)(rms:List (Str×List Dr))(H:Hp)(k:Nat)(zs:Μ)(H':Hp):Prop:=Same H H'/\H' D1=some (.lst zs)/\rM (rms.map (·.1)) (del [o,D1] H') zs ((rms.take k).map (·.2))
theorem G9(F:Fun K vK vP oH f fd)(T:Txt K mg D)(o8:OkF P w K mg base 3 jF jW (oA (K:=K)))(qR:OkF P w K mg base 2 lQ lM pq)(sH:OkF P w K mg base 3 mK mV (qO D)):cC P w K mg base CX0 4 f fd mO (wR K D):=by
 refine F.ok Gd ?_ ?_
 .rintro _ _ _ _ ⟨o,dx,p,l,x,y,xs,rms,rfl,_⟩;rfl
 .rintro cdv A outer s H _ Q E hr ⟨o,dx,p,l,x,y,xs,rms,rfl,ho,fk,x0,xy,bx,b_y,hl,hR,ok,q⟩;refine⟨_,(bK (cY (bO o8 hr.md (by rfl) (bD (pv 1) bF)))
   (bK (uI (pv 0) (pv 1) rfl)
   (bK (uI (pv 0) (bO qR hr.md (by rfl) (bD (pv 2) bF)) rfl)
   (bN (uI (pv 0) (n6 (bM oH) rH rH ["room"] (dD ((pv 2)).mono) (fQ (i:=0)) eU (bO sH hr.md (by rfl) (bD (bU cg (pv 0) bI (λ_ _=>rfl)) (bD (X3 (K':=K) rfl (pv 1) rfl) bF)))) rfl))))),?_⟩
  unfold oA pq qO
  walk_at "rd"
  have hR0:=hR.off ho;have hl0:del [o] H l=some (.lst xs):=xO ho hl (by intro z;cases z);have S1:∀u,Same (del [o] H) (upd H o u):=λu b v e=>by
   obtain⟨b1,b2⟩:=j9 e;exact(bL (by simpa using b1)).trans b2
  have cl:=T.p8;refine⟨x,y,fk,x0,xy,bx,b_y,D.Hall,dx,[],ho,cl,T.pJ,(by show 0<1000;decide),xs,S1 _ _ _ hl0,_,(hR0.same (S1 _)).rooms,ok.nd,λg hg=>?_,by rw[ak];exact ok.len,λd H2 S2 f2 e2=>?_⟩
  .obtain⟨g',hg',rfl⟩:=YV.mp hg;exact ok.wd g' hg'
  have od:d≠o:=λz=>by rw[z,bG]at f2;cases f2
  refine⟨D.Hall,dx,_,S2 _ _ bG,cl,T.mG,(by show 1<1000;decide),mJ ?_⟩;have S3:∀u,Same (del [o] H) (upd H2 o u):=λu b v e=>(bL (by have:=(j9 e).1;simpa using this)).trans (S2 _ _ (S1 _ _ _ e))
  walk_at "rd"
  have hz9:21<sizeLine:=by decide
  have n20:=ok.len;refine⟨xs,S3 _ _ _ hl0,by rw[hR.len];exact aM n20 (by decide),λD1 hD1=>?_⟩;have eo:upd H2 o (.ins D.Hall dx (j5 "numbers" (.ref d) (j5 "share" (.ref p) []))) o=some (.ins D.Hall dx [("share",.ref p),("numbers",.ref d)]):=bG;have ed:upd H2 o (.ins D.Hall dx (j5 "numbers" (.ref d) (j5 "share" (.ref p) []))) d=some (.dK (xK (rms.map (·.1)))):=(bL od).trans e2;have S4:=S3 (.ins D.Hall dx (j5 "numbers" (.ref d) (j5 "share" (.ref p) [])));generalize upd H2 o (.ins D.Hall dx (j5 "numbers" (.ref d) (j5 "share" (.ref p) [])))=H3 at eo ed S4 hD1 ⊢;have oD:o≠D1:=bH eo hD1;refine⟨hJ o D1 rms H3,⟨Same.upd hD1,bG,rfl,λk g e=>by simp at e⟩,?_,?_⟩
  .rintro k x1 ys Hc hk ⟨S5,h5,of_⟩ hy hlc;have lk:k<rms.length:=by rw[<- hR.len];exact(ao.mp hk).1
   have e:rms[k]?=some rms[k]:=aj lk;have hm:=aV lk;obtain⟨t,ll,ds,a,b,c,dd⟩:=(hR0.same (S4.trans S5)).at_ k _ e;rw[hk]at a;cases a;generalize rms[k]=g at *;refine⟨t,rfl,_,b,_,dj,D.Hall,dx,_,S5 _ _ eo,cl,T.mG,_,rfl,ll,rfl,d,rfl,ds,c,g.2,dd,ok.few g hm,ok.dn g hm,_,S5 _ _ ed,ok.nd,ok.to_ g hm,?_⟩;intro r H4 zs S6 f6 e6 o6;have h4:=S6 _ _ h5;have ho4:=S6 _ _ (S5 _ _ eo);refine⟨h4,S6 _ _ hlc,λb v e'=>?_,bG,?_⟩
   .exact(bL (bH e' hD1)).trans (S6 _ _ (S5 _ _ e'))
   .have ee:del [o,D1] (upd H4 D1 (.lst (ys++[.ref r])))=del [o,D1] H4:=by
     funext b
     unfold del;split
     .rfl
     .rename_i hb
      exact bL (by simp at hb;exact hb.2)
    rw[ee,cJ e,bA];refine(of_.same (nZ λb v _ e'=>S6 _ _ e')).snoc (cW ?_ e6) (o6 [o,D1] ?_)
    .simp only[YU,List.not_mem_nil,or_false,not_or];exact⟨λz=>(by rw[z,S5 _ _ eo]at f6;cases f6),λz=>(by rw[z,h5]at f6;cases f6)⟩
    .intro a ha;simp only[YU,List.not_mem_nil,or_false]at ha;rcases ha with rfl|rfl
     .exact⟨_,S5 _ _ eo,by intro ys z;cases z⟩
     .exact⟨_,h5,by intro ys z;cases z⟩
  .rintro ys Hc ⟨S5,h5,of_⟩ hy;rw[hR.len,aP]at of_;refine⟨D.Hall,dx,_,S5 _ _ eo,cl,T.qX,(by show 2<1000;decide),q _ (λb v nb e=>?_) ⟨dx,d,D1,ys,bG,(bL (λz=>od (by rw[z]))).trans (S5 _ _ ed),(bL oD.symm).trans h5,of_.same λb v e=>?_⟩⟩
   .exact(bL nb).trans (S5 _ _ (S4 _ _ (cW (by simpa using nb) e)))
   .obtain⟨b1,b2⟩:=j9 e;exact(bL (by simp at b1;exact b1.1)).trans b2
noncomputable def jX(D:Adr):Sp:=λvs H Q _=>∃(o p:Addr)(rms:List (Str×List Dr)),vs=[.ref o]/\ji D H o p rms/\Q (.int rms.length) H
theorem GP(F:Fun K wj wH rQ f fd)(T:Txt K mg D):cC P w K mg base CX0 1 f fd iI (jX D):=by
 refine F.ok HN ?_ ?_
 .rintro _ _ _ _ ⟨o,p,rms,rfl,_⟩;rfl
 .rintro cdv A outer s H _ Q E hr ⟨o,p,rms,rfl,⟨dx,n,l,zs,ho,hn,hl,of_⟩,q⟩;refine⟨_,(bN (cD (cF E_ (by rfl) T.lZ PySem.boot_len (bD (o_ (pv 0) rfl) bF)))),?_⟩
  walk_at "rd"
  refine⟨D.Hall,dx,_,ho,T.p8,T.mG,_,rfl,n,_,rfl,hn,?_⟩;rw[Bo,ak];exact q
noncomputable def lB(D:Adr):Sp:=λvs H Q _=>∃(o p:Addr)(k:Nat)(rms:List (Str×List Dr)),vs=[.ref o,.int k]/\ji D H o p rms/\k<rms.length/\Q .non H
theorem uN(F:Fun K nR nH jD f fd)(T:Txt K mg D)(cR:OkF P w K mg base 1 eG eZ eE)(eV:OkI P w K mg base CX0 1 D.Hall_size iI (jX D)): cC P w K mg base CX0 2 f fd dY (lB D):=by
 refine F.ok uR ?_ ?_
 .rintro _ _ _ _ ⟨o,p,k,rms,rfl,_⟩;rfl
 .rintro cdv A outer s H _ Q E hr ⟨o,p,k,rms,rfl,hh,lk,q⟩;refine⟨_,(bN (eF (PW.pt (pw_or (dJ (dB (bO cR hr.md (by rfl) (bD (pv 1) bF)) (λ_=>rfl))) (pw_or1 (dJ (Bm Ax Kp bI (pv 1) (PE.any λC(hC:dH D C)=>(tD (pv 0) (T.cl C hC.fam) (T.qT C hC) eV hr.md)))))))
    (bN jE)
    cN)),?_⟩
  unfold eE jX
  walk_at "rd"
  obtain⟨dx,n,l,zs,ho,hn,hl,of_⟩:=hh;rw[ZY (by simp)];refine⟨D.Hall,(by unfold dH;simp),dx,_,ho,rfl,p,rms,⟨dx,n,l,zs,ho,hn,hl,of_⟩,?_⟩;rw[ZZ (by simp;omega)];exact q
noncomputable def fJ(D1:Addr)(ns:Β)(gs:List Dr)(H:Hp)(k:Nat)(zs:Μ)(H':Hp):Prop:=Same H H'/\H' D1=some (.lst zs)/\∀as,Oe H as->oG ns (del (D1::as) H') zs (gs.take k)
noncomputable def nM(D:Adr):Sp:=λvs H Q _=>∃(o p:Addr)(k:Nat)(rms:List (Str×List Dr))(g:Str×List Dr),vs=[.ref o,.int k]/\ji D H o p rms/\rms[k]?=some g/\g.2.length<=100/\(∀d∈g.2,d.ws.length<=100) /\
 ∀r H' zs,Same H H'->H r=none->H' r=some (.lst zs)->(∀as,Oe H as->oG (rms.map (·.1)) (del as H') zs g.2)->Q (.ref r) H'
theorem zY(F:Fun K tu rW lg f fd)(T:Txt K mg D)(dR:OkI P w K mg base CX0 2 D.Hall_check_room dY (lB D)): cC P w K mg base CX0 3 f fd iw (nM D):=by
 refine F.ok Ag ?_ ?_
 .rintro _ _ _ _ ⟨o,p,k,rms,g,rfl,_⟩;rfl
 .rintro cdv A outer s H _ Q E hr ⟨o,p,k,rms,g,rfl,hh,hg,g100,w100,q⟩;refine⟨_,(bK (cY (PE.any λC(hC:cQ D C)=>(wO (pv 0) (T.cl C hC.fam) (T.nC C hC) dR hr.md (bD (pv 1) bF))))
   (bN (cD (n6 (bM lg) pL pL ["name", "pay", "numbered"] (dD ((bU cu (o_ (pv 0) rfl) (pv 1) (λ_ _=>rfl))).mono) (gB (n:=3) rfl (cG (fQ (i:=0)) (cG (fQ (i:=1)) (cG (fQ (i:=2)) fK)))) eU (oY (bD (pv 0) (bD (pv 1) (bD (qd uM (by rfl) T.xP boot_list (bD (pv 2) bF)) bF)))))))),?_⟩
  unfold lB
  walk_at "rd"
  obtain⟨dx,n,l,zs,ho,hn,hl,of_⟩:=hh;have lk:=(ao.mp hg).1;refine⟨D.Hall,(by unfold cQ;simp),dx,_,ho,rfl,p,k,rfl,rms,⟨dx,n,l,zs,ho,hn,hl,of_⟩,lk,oK ?_⟩;obtain⟨ll,ys,a,b,c⟩:=of_.at_ k g.2 (by rw[aq,hg];rfl);have z9:101<sizeLine:=by decide
  walk_at "rd"
  refine⟨D.Hall,dx,_,ho,T.p8,T.qX,_,rfl,l,rfl,zs,hl,_,b_ a,ll,rfl,ys,b,by rw[c.len];exact aM g100 (by decide),λD1 hD=>?_⟩;refine⟨fJ D1 (rms.map (·.1)) g.2 H,⟨Same.upd hD,bG,λas _=>⟨rfl,λk g e=>by simp at e⟩⟩,?_,?_⟩
  .rintro i x1 zs1 Hc hi ⟨S5,h5,o5⟩ hy hlc pre hpre;have li:i<g.2.length:=by rw[<- c.len];exact(ao.mp hi).1
   have e:g.2[i]?=some g.2[i]:=aj li;have hm:=w100 _ (aV li);obtain⟨t,r,ws,ea,eb,ec,ed⟩:=(c.same S5).at_ i _ e;rw[hi]at ea;cases ea;generalize g.2[i]=d at *;obtain⟨u1,u2,u3,rfl⟩ : ∃a b c,pre=[a,b,c]:=by
    match pre,hpre with
    |[a,b,c],_=>exact⟨a,b,c,rfl⟩
   walk_at "rd"
   refine⟨_,eb,rfl,_,_,rfl,_,_,rfl,_,_,rfl,rfl,[_,_,_],rfl,rfl,?_⟩;refine⟨r,rfl,ws,ec,λl1 hl1=>⟨by decide,λp1 hp1=>?_⟩⟩;have lp:l1≠p1:=bH bG hp1;have hp1':Hc p1=none:=(bL lp.symm).symm.trans hp1;have S6:Same Hc (upd (upd Hc l1 (.lst ws)) p1 (.tup [.str d.nm,.ref d.p,.ref l1])):=(Same.upd hl1).trans (Same.upd hp1);have e6:upd (upd Hc l1 (.lst ws)) p1 (.tup [.str d.nm,.ref d.p,.ref l1]) l1=some (.lst ws):=(bL lp).trans bG;have e7:upd (upd Hc l1 (.lst ws)) p1 (.tup [.str d.nm,.ref d.p,.ref l1]) p1=some (.tup [.str d.nm,.ref d.p,.ref l1]):=bG;generalize upd (upd Hc l1 (.lst ws)) p1 (.tup [.str d.nm,.ref d.p,.ref l1])=H7 at S6 e6 e7 ⊢;refine⟨S6 _ _ h5,S6 _ _ hlc,λb v e'=>(bL (bH e' hD)).trans (S6 _ _ (S5 _ _ e')),bG,λas has=>?_⟩;have nin:∀{b},Hc b=none->b∉D1::as:=λ{b}hb=>by
    simp only[YU,not_or];exact⟨λz=>(by rw[z,h5]at hb;cases hb),λz=>let⟨u,hu,_⟩:=has _ z;bH (S5 _ _ hu) hb rfl⟩
   have u2:∀{b o},b∉D1::as->H7 b=some o->del (D1::as) (upd H7 D1 (.lst (zs1++[.ref p1]))) b=some o:=λ{b o}h e=>cW h ((bL (by simp only[YU,not_or]at h;exact h.1)).trans e);rw[cJ e];refine((o5 as has).same λb v e'=>?_).snoc (u2 (nin hp1') e7) (u2 (nin hl1) e6) (ed.imp λt us e'=>u2 ?_ (S6 _ _ e'))
   .obtain⟨b1,b2⟩:=j9 e';exact u2 b1 (S6 _ _ b2)
   .simp only[YU,not_or];exact⟨fH e' h5 (by intro z;cases z),λz=>let⟨u,hu,n⟩:=has _ z;n _ (Option.some.inj ((S5 _ _ hu).symm.trans e'))⟩
  .rintro zs1 Hc ⟨S5,h5,o5⟩ _;rw[c.len,aP]at o5;exact q D1 Hc zs1 S5 hD h5 λas has=>(o5 as has).same λb o e=>let⟨a,c⟩:=j9 e;cW (λz=>a (aH _ z)) c
theorem VB{H H':Hp}(S:Same H H'){v:V}{t:String}(h:tyS H v=some t):tyS H' v=some t:=by
 cases v with
 |ref a =>
  have h:(match H a with
   |some (.lst _)=>some "list"
   |some (.tup _)=>some "tuple"
   |some (.dK _)=>some "dict"
   |_=>none)=some t:=h
  show(match H' a with
   |some (.lst _)=>some "list"
   |some (.tup _)=>some "tuple"
   |some (.dK _)=>some "dict"
   |_=>none)=some t
  split at h
  .rename_i e;rw[S a _ e];exact h
  .rename_i e;rw[S a _ e];exact h
  .rename_i e;rw[S a _ e];exact h
  .cases h
 |_=>exact h
noncomputable def Odd(H:Hp)(v:V):Prop:=∃t,tyS H v=some t
theorem Odd.same{H H':Hp}{v:V}(h:Odd H v)(S:Same H H'):Odd H' v:=h.imp λ_ z=>VB S z
theorem Sw{H:Hp}{v:V}{t:String}(h:tyS H v=some t)(n:∀k,v≠.int k):(t == "int")=false:=by
 cases v with
 |int k=>exact absurd rfl (n k)
 |ref a =>
  unfold tyS at h;dsimp only at h;split at h<;>cases h<;>rfl
 |_=>cases h<;>rfl
structure xH(rms:List (Str×List Dr)):Prop where
 len:rms.length<=20
 few:∀g∈rms,g.2.length<=100
 ways:∀g∈rms,∀d∈g.2,d.ws.length<=100
noncomputable def Gm(v:V)(m:Nat):Bool:=if m=0 then decide (v=.non)else match v with
 |.int i=>decide (0<=i)&&decide (i<m)
 |_=>false
noncomputable def Nm:Sp:=λvs H Q _=>∃(v:V)(m:Nat),vs=[v,.int m]/\Odd H v/\Q (.bl (Gm v m)) H
theorem Xn(F:Fun K zP zP Mr f fd)(T:Txt K mg D)(cR:OkF P w K mg base 1 eG eZ eE):cC P w K mg base CX0 2 f fd zW Nm:=by
 refine F.ok Xr ?_ ?_
 .rintro _ _ _ _ ⟨v,m,rfl,_⟩;rfl
 .rintro cdv A outer s H _ Q E hr ⟨v,m,rfl,⟨t,ot⟩,q⟩;refine⟨_,(bK (eF (cX Eu (pv 1) bI (cV _))
    (bN (cD (oV yd (pv 0) nY (cV _))))
    cN)
   (bN (cD (Aa (bO cR hr.md (by rfl) (bD (pv 0) bF)) (Bf (J5 Ax Kp bI (pv 0) (pv 1))))))),?_⟩
  unfold Gm at q;refine bQ λR1 hR1=>?_;refine cZ ⟨_,rfl,rfl,decide (m=0),ZH V.bl (decide_eq_decide.mpr ?_),?_⟩
  .constructor
   .intro z;injection z with z;lia
   .intro z;rw[z];rfl
  by_cases m0:m=0
  .rw[ZY m0]at q;rw[Zs m0];exact⟨_,rfl,rfl,q⟩
  .rw[ZZ m0]at q;rw[Zp m0];show R1 _ _ _;subst hR1;refine fG ⟨_,rfl,v,t,rfl,ot,_,rfl,?_⟩;by_cases iv:∃k,v=.int k
   .obtain⟨k,rfl⟩:=iv;cases ot;rw[ZY (by decide)];have q:Q (V.bl (decide (0<=k)&&decide (k<m))) H:=q;refine⟨_,rfl,0,k,rfl,rfl,decide (0<=k),rfl,?_⟩;by_cases k0:0<=k
    .rw[Zs k0]at q ⊢;exact⟨_,rfl,_,_,rfl,rfl,q⟩
    .rw[Zp k0]at q ⊢;exact q
   .rw[Sw ot λk z=>iv ⟨k,z⟩];cases v with
    |int k=>exact absurd ⟨k,rfl⟩ iv
    |_=>exact q
theorem Il{H:Hp}{a:Addr}{xs:Μ}(h:H a=some (.lst xs)):tyS H (.ref a)=some "list" := by
 unfold tyS;dsimp only;rw[h]
noncomputable def dnR(rms:List (Str×List Dr))(k:Nat):Nat:=((rms[k]?).map (·.2.length)).getD 0
noncomputable def zE(D:Adr):Sp:=λvs H Q _=>∃(o p l:Addr)(rms:List (Str×List Dr))(xs:Μ),vs=[.ref o,.ref l]/\ji D H o p rms/\xH rms/\H l=some (.lst xs)/\xs.length=rms.length/\(∀k x,xs[k]?=some x->Odd H x/\Gm x (dnR rms k)=true)/\∀H',Same H H'->Q (.bl true) H'
theorem Dz(F:Fun K i_ i_ qD f fd)(T:Txt K mg D)(Mz:OkF P w K mg base 2 zP zW Nm)(eV:OkI P w K mg base CX0 1 D.Hall_size iI (jX D))(gK:OkI P w K mg base CX0 3 D.Hall_offers iw (nM D)):cC P w K mg base CX0 4 f fd iT (zE D):=by
 refine F.ok pK ?_ ?_
 .rintro _ _ _ _ ⟨o,p,l,rms,xs,rfl,_⟩;rfl
 .rintro cdv A outer s H _ Q E hr ⟨o,p,l,rms,xs,rfl,hh,few,hl,ln,al,q⟩;have hI:=hh;obtain⟨dx,nn,ll,zs0,ho,hn,hll,of_⟩:=hI;have rf:Same H H:=λ_ _ z=>z;refine⟨_,(bK (eF (PW.pt (pw_or (dJ (dB (cF iQ (by rfl) T.dG boot_isinstance (bD (pv 1) (bD (lD (v:=.ty "list") (by rfl) T.xP boot_list rfl) bF))) (λ_=>rfl))) (pw_or1 (cX Fw (cF fW (by rfl) T.lZ PySem.boot_len (bD (pv 1) bF)) (PE.any λC(hC:dH D C)=>(tD (pv 0) (T.cl C hC.fam) (T.qT C hC) eV hr.md)) (cV _)))))
    (bN jE)
    cN)
   (bK (fD PassesOwn.never rfl (Nu (by rfl) T.yN (bD (pv 1) bF).mono) (gB (n:=2) rfl (cG (cH (i:=2) pK.nd rfl (Or.inl rfl)) (cG (cH (i:=3) pK.nd rfl (Or.inl rfl)) fK)))
    (bN (eF (dJ (dB (bO Mz hr.md (by rfl) (bD (pv 3) (bD (cF fW (by rfl) T.lZ PySem.boot_len (bD (PE.any λC(hC:dO D C)=>(wO (pv 0) (T.cl C hC.fam) (T.su C hC) gK hr.md (bD (pv 2) bF))) bF)) bF))) (λ_=>rfl)))
     (bN jE)
     cN)))
   (bN (cD v8)))),?_⟩
  refine bQ λR1 hR1=>?_;refine cZ ⟨_,rfl,.ref l,_, "list",rfl,by simp,Il hl,true,rfl,_,rfl,l,xs,rfl,hl,D.Hall,(by unfold dH;simp),_,rfl,o,dx,_,rfl,ho,rfl,o,p,rms,rfl,hh,rfl,false,ZH (λb=>V.bl (!b)) (Zs (by rw[ln])),?_⟩;show R1 _ _ _;subst hR1;refine bQ λR1 hR1=>?_;refine cZ (K6 ⟨_,rfl,l,xs,rfl,hl,λk σ H'=>∃u1 u2,σ=[some (.ref o),some (.ref l),u1,u2]/\Same H H',⟨none,none,rfl,rf⟩,?_,?_⟩)
  .rintro k x σ' H' t hk ⟨u1,u2,rfl,S1⟩ hl' ht;have S2:Same H' (upd H' t (.tup [.int k,x])):=Same.upd ht;have e2:upd H' t (.tup [.int k,x]) t=some (.tup [.int k,x]):=bG;generalize upd H' t (.tup [.int k,x])=H2 at S2 e2 ⊢;have SS:=S1.trans S2;have lk:k<rms.length:=by rw[<- ln];exact(ao.mp hk).1
   have eg:rms[k]?=some rms[k]:=aj lk;have gm:=aV lk;have dk:dnR rms k=rms[k].2.length:=by unfold dnR;rw[eg];rfl
   obtain⟨ox,fx⟩:=al k x hk;refine⟨t,_,rfl,e2,rfl,_,_,rfl,_,_,rfl,rfl,_,rfl,D.Hall,(by unfold dO;simp),_,rfl,o,dx,_,rfl,SS _ _ ho,rfl,_,rfl,o,p,k,rms,rms[k],rfl,hh.same SS,eg,few.few _ gm,few.ways _ gm,λr H3 zs S3 f3 h3 of3=>⟨r,zs,rfl,h3,x,rms[k].2.length,by rw[(of3 [] (λ_ z=>by cases z)).len],ox.same (SS.trans S3),true,by rw[<- dk,fx];rfl,?_⟩⟩;exact⟨S3 _ _ (S2 _ _ hl'),_,_,rfl,SS.trans S3⟩
  .rintro σ' H' ⟨u1,u2,rfl,S1⟩ _;subst hR1;exact q _ S1
noncomputable def stV:Option Nat->V
 |some k=>.int (k:Nat)
 |none=>.non
noncomputable def vl(f:Ι):Rat:=(f.1:Rat)/(f.2:Rat)
theorem cI{x:Int}(h:0<x):(x:Rat)≠0:=λz=>by
 have:=Rat.intCast_inj.mp (z.trans Rat.intCast_zero.symm);lia
theorem Uz{x y:Ι}(hx:0<x.2)(hy:0<y.2)(h:x.1*y.2=y.1*x.2):vl x=vl y:=by
 have e:(x.1:Rat)*(y.2:Rat)=(y.1:Rat)*(x.2:Rat):=by rw[<- XU,<- XU,h]
 have:=cI hx;have:=cI hy;unfold vl
 grind
theorem JL{x y:Ι}(hx:0<x.2)(hy:0<y.2)(h:vl x=vl y):x.1*y.2=y.1*x.2:=by
 have h1:=cI hx;have h2:=cI hy;unfold vl at h;refine Rat.intCast_inj.mp ?_;rw[XU,XU]
 grind
theorem Low.vl{t b x y:Int}(h:Low t b x y)(hb:0<b):vl (x,y)=vl (t,b):=Uz h.pos hb h.eq
theorem Mp{x y u v:Int}(hy:0<y)(hv:0<v):vl (x*u,y*v)=vl (x,y)*vl (u,v):=by
 have:=cI hy;have:=cI hv;show((x*u:Int):Rat)/((y*v:Int):Rat)=(x:Rat)/(y:Rat)*((u:Rat)/(v:Rat));rw[XU,XU]
 grind
theorem YW{x y u v:Int}(hy:0<y)(hu:0<u)(hv:0<v):vl (x*v,y*u)=vl (x,y)/vl (u,v):=by
 have:=cI hy;have:=cI hv;have:=cI hu;show((x*v:Int):Rat)/((y*u:Int):Rat)=(x:Rat)/(y:Rat)/((u:Rat)/(v:Rat));rw[XU,XU]
 grind
theorem Ro{x y u v:Int}(hy:0<y)(hv:0<v):vl (x*v+u*y,y*v)=vl (x,y)+vl (u,v):=by
 have:=cI hy;have:=cI hv;show((x*v+u*y:Int):Rat)/((y*v:Int):Rat)=(x:Rat)/(y:Rat)+(u:Rat)/(v:Rat);rw[Rat.intCast_add,XU,XU,XU]
 grind
theorem oE(x:Int):vl (x,1)=(x:Rat):=by
 show(x:Rat)/((1:Int):Rat)=x;rw[Rat.intCast_one]
 grind
noncomputable def Bn(n:Nat)(x:Int):Prop:=x.natAbs<=10^n
theorem Bn.up{a b:Nat}{x:Int}(h:Bn a x)(l:a<=b):Bn b x:=aM h (XT (by decide) l)
theorem Bn.mul{a b:Nat}{x y:Int}(h:Bn a x)(g:Bn b y):Bn (a+b) (x*y):=by
 unfold Bn;rw[Int.natAbs_mul,Nat.pow_add];exact Nat.mul_le_mul h g
theorem Bn.add{a:Nat}{x y:Int}(h:Bn a x)(g:Bn a y):Bn (a+1) (x+y):=by
 have h:x.natAbs<=10^a:=h;have g:y.natAbs<=10^a:=g;unfold Bn;rw[Nat.pow_succ];omega
theorem Bn.bd{n:Nat}{x:Int}(h:Bn n x)(l:n<=2400):Bd x:=Y3 (h.up l) (by decide +kernel)
theorem Bn.lx{n:Nat}{t b x y:Int}(h:Bn n t)(l:Low t b x y):Bn n x:=aM l.lx h
theorem Bn.ly{n:Nat}{t b x y:Int}(h:Bn n b)(l:Low t b x y):Bn n y:=aM l.ly h
noncomputable def Jc:Sp:=λvs H Q _=>∃(p q:Addr)(x y u v:Int),vs=[.ref p,.ref q]/\H p=some (.tup [.int x,.int y])/\H q=some (.tup [.int u,.int v])/\Bd x/\Bd y/\Bd u/\Bd v/\0<y/\0<v/\Bd (y*v) /\
 ∀r z o H',Same H H'->H r=none->H' r=some (.tup [.int z,.int o])->Low (x*u) (y*v) z o->Q (.ref r) H'
theorem Tt(F:Fun K vR vR Ht f fd)(gR:OkF P w K mg base 2 iR iY jc):cC P w K mg base CX0 3 f fd vN Jc:=by
 refine F.ok Rj ?_ ?_
 .rintro _ _ _ _ ⟨p,q,x,y,u,v,rfl,_⟩;rfl
 .rintro cdv A outer s H _ Q E hr ⟨p,q,x,y,u,v,rfl,hp,hq,bx,b_y,bu,bv,y0,v0,byv,k⟩;refine⟨_,(bN (cD (bO gR hr.md (by rfl) (bD (bY cL (bU cg (pv 0) bI (λ_ _=>rfl)) (bU cg (pv 1) bI (λ_ _=>rfl))) (bD (bY cL (bU cg (pv 0) bI (λ_ _=>rfl)) (bU cg (pv 1) bI (λ_ _=>rfl))) bF))))),?_⟩;exact fG ⟨_,rfl,p,_,0,_,rfl,rfl,hp,fZ,_,rfl,q,_,0,_,rfl,rfl,hq,fZ,x,u,rfl,rfl,⟨bx,bu⟩,_,rfl,p,_,1,_,rfl,rfl,hp,dj,_,rfl,q,_,1,_,rfl,rfl,hq,dj,y,v,rfl,rfl,⟨b_y,bv⟩,_,_,rfl,Int.ne_of_gt (XZ y0 v0),byv,λr z o l hr=>k r z o _ (Same.upd hr) hr bG l⟩
noncomputable def M5:Sp:=λvs H Q _=>∃(p q:Addr)(x y u v:Int),vs=[.ref p,.ref q]/\H p=some (.tup [.int x,.int y])/\H q=some (.tup [.int u,.int v])/\Bd x/\Bd y/\Bd u/\Bd v/\0<y/\0<u/\Bd (y*u) /\
 ∀r z o H',Same H H'->H r=none->H' r=some (.tup [.int z,.int o])->Low (x*v) (y*u) z o->Q (.ref r) H'
theorem Yb(F:Fun K zN zN Lh f fd)(gR:OkF P w K mg base 2 iR iY jc):cC P w K mg base CX0 3 f fd zF M5:=by
 refine F.ok Yc ?_ ?_
 .rintro _ _ _ _ ⟨p,q,x,y,u,v,rfl,_⟩;rfl
 .rintro cdv A outer s H _ Q E hr ⟨p,q,x,y,u,v,rfl,hp,hq,bx,b_y,bu,bv,y0,v0,byv,k⟩;refine⟨_,(bN (cD (bO gR hr.md (by rfl) (bD (bY cL (bU cg (pv 0) bI (λ_ _=>rfl)) (bU cg (pv 1) bI (λ_ _=>rfl))) (bD (bY cL (bU cg (pv 0) bI (λ_ _=>rfl)) (bU cg (pv 1) bI (λ_ _=>rfl))) bF))))),?_⟩;exact fG ⟨_,rfl,p,_,0,_,rfl,rfl,hp,fZ,_,rfl,q,_,1,_,rfl,rfl,hq,dj,x,v,rfl,rfl,⟨bx,bv⟩,_,rfl,p,_,1,_,rfl,rfl,hp,dj,_,rfl,q,_,0,_,rfl,rfl,hq,fZ,y,u,rfl,rfl,⟨b_y,bu⟩,_,_,rfl,Int.ne_of_gt (XZ y0 v0),byv,λr z o l hr=>k r z o _ (Same.upd hr) hr bG l⟩
theorem YC{sp:Sp}{te:TE}{t:TA}{σ:L2.St}{H:Hp}{Q:VK}(h:te σ H λx H1=>t σ H1 λxs H2=>sp (x::xs) H2 Q E0):Ai sp (CT te t) σ H Q:=h
structure zq(K:Frag)(H:Hp)(t:Addr)(f:Ι)(cs:Θ):Prop where
 ex:∃(nm:Str)(p r:Addr)(ys:Μ),H t=some (.tup [.str nm,.ref p,.ref r])/\H p=some (.tup [.int f.1,.int f.2])/\H r=some (.lst ys)/\ys.length=cs.length/\∀(k:Nat)c,cs[k]?=some c->∃tt a,ys[k]?=some (.ref tt)/\H tt=some (.tup [.int (c.1:Nat),.ref a])/\SqT K H a [.int c.2.1,.int c.2.2]
theorem zq.same{H H':Hp}{t:Addr}{f:Ι}{cs:Θ}(h:zq K H t f cs)(S:Same H H'):zq K H' t f cs:=by
 obtain⟨nm,p,r,ys,a,b,c,d,e⟩:=h.ex;refine⟨nm,p,r,ys,S _ _ a,S _ _ b,S _ _ c,d,λk z ez=>?_⟩;obtain⟨tt,a2,x1,x2,x3⟩:=e k z ez;exact⟨tt,a2,x1,S _ _ x2,S.tup x3⟩
noncomputable def chF(cs:Θ):Ψ:=cs.map (·.2)
noncomputable def Ke(cs:Θ)(Ts:List Int):Int:=(List.zipWith (λp c=>p*Ts.getD c.1 0) (lvT (chF cs)) cs).sum
noncomputable def Fj(K:Frag):Sp:=λvs H Q _=>∃(t T:Addr)(f:Ι)(cs:Θ)(Ts:List Int),vs=[.ref t,.ref T]/\zq K H t f cs/\H T=some (.lst (Ts.map V.int))/\cs.length<=41/\(∀c∈cs,c.1<Ts.length/\Fq c.2)/\(∀x∈Ts,Bd x) /\
 ∀r z o H',Same H H'->H r=none->H' r=some (.tup [.int z,.int o])->Low (Ke cs Ts) (lvB (chF cs):Nat) z o->Q (.ref r) H'
theorem Tz{α β γ:Type}{g:α->β->γ}{xs:List α}{ys:List β}{k:Nat}{x:α}{y:β}(h1:xs[k]?=some x)(h2:ys[k]?=some y):(List.zipWith g xs ys)[k]?=some (g x y):=by
 rw[List.getElem?_zipWith,h1,h2]
theorem Vd{fs:Ψ}(h:∀f∈fs,Fq f)(hz:fs.length<=41):Bn 1640 (lvB fs:Nat):=by
 have:=Af h hz;rw[<- Nat.pow_mul]at this;unfold Bn;rw[XG];exact this
theorem Zd{fs:Ψ}(h:∀f∈fs,Fq f)(hz:fs.length<=41):∀x∈lvT fs,Bn 1680 x:=λx hx=>by
 obtain⟨f,hf,rfl⟩:=YV.mp hx;have b:Bn 1640 (((lvB fs:Nat):Int)/f.2):=aM (Int.natAbs_ediv_le_natAbs _ _) (Vd h hz);exact Bn.mul (a:=40) (b:=1640) (h f hf).sa b
theorem Ae(F:Fun K jN jN jd f fd)(T:Txt K mg D)(mH:OkF P w K mg base 2 gW iZ (ql K))(gR:OkF P w K mg base 2 iR iY jc):cC P w K mg base CX0 3 f fd jZ (Fj K):=by
 refine F.ok rD ?_ ?_
 .rintro _ _ _ _ ⟨t,T,f,cs,Ts,rfl,_⟩;rfl
 .rintro cdv A outer s H _ Q E hr ⟨t,Ta,f,cs,Ts,rfl,of,hT,l41,hc,bT,q⟩;obtain⟨nm,p,r,ys,ht,hp,hr',yl,ya⟩:=of.ex;have z9:100<sizeLine:=by decide
  have cl:(chF cs).length=cs.length:=ak ..;have fq:∀f∈chF cs,Fq f:=λf hf=>by
   obtain⟨c,hc',rfl⟩:=YV.mp hf;exact(hc c hc').2
  refine⟨_,(bK (bZ (i:=2) rD.nd rfl (Or.inl rfl) (bO mH hr.md (by rfl) (bD (n6 (bM jd) iM iM ["room", "chance"] (dD ((bU cg (pv 0) bI (λ_ _=>rfl))).mono) (gB (n:=2) rfl (cG (fQ (i:=0)) (cG (fQ (i:=1)) fK))) eU (pv 1)) bF)))
   (bN (cD (bO gR hr.md (by rfl) (bD (cF (Fd rfl) (by rfl) T.Yt boot_sum (bD (n6 (bM jd) iM iM ["part", "way"] (Z2 (by rfl) T.abE (bD (bU cg (pv 2) bI (λ_ _=>rfl)) (bD (bU cg (pv 0) bI (λ_ _=>rfl)) bF)).mono) (gB (n:=2) rfl (cG (fQ (i:=0)) (cG (fQ (i:=1)) fK))) eU (bY cL (pv 0) (bU cu (pv 3) (bU cg (pv 1) bI (λ_ _=>rfl)) (λ_ _=>rfl)))) bF)) (bD (bU cg (pv 2) bI (λ_ _=>rfl)) bF)))))),?_⟩
  refine bQ λR1 hR1=>?_;refine cA (YC (oK ⟨_,rfl,t,_,2,_,rfl,rfl,ht,b_ (j:=2) rfl,r,ys,rfl,hr',by lia,λD1 gD=>⟨λk zs Hc=>Same H Hc/\Hc D1=some (.lst zs)/\FLK K H zs ((chF cs).take k),⟨Same.upd gD,bG,.nil⟩,?_,?_⟩⟩))
  .rintro k v zs Hc hk ⟨S1,h1,fl⟩ hz hc' pre hpre;obtain⟨w1,w2,rfl⟩:=G3 hpre;have lk:k<cs.length:=by rw[<- yl];exact(ao.mp hk).1
   have ec:cs[k]?=some cs[k]:=aj lk;obtain⟨tt,a,e1,e2,e3⟩:=ya k _ ec;rw[hk]at e1;cases e1;have en:(chF cs)[k]?=some cs[k].2:=by unfold chF;rw[aq,ec];rfl
   refine⟨tt,_,rfl,S1 _ _ e2,rfl,_,_,rfl,_,_,rfl,rfl,[_,_],rfl,rfl,_,rfl,h1,hc',λb o z=>(bL (bH z gD)).trans (S1 _ _ z),bG,?_⟩;rw[cJ en];exact fl.append (.cons e3 .nil)
  rintro zs H1 ⟨S1,h1,fl⟩ hz;rw[yl,<- cl,aP]at fl;refine⟨D1,zs,chF cs,rfl,h1,fl.same S1,fq,by exact aM (Nat.le_of_eq cl) l41,λD2 p2 f2 g2=>?_⟩;have S2:Same H1 (upd (upd H1 D2 (.lst ((lvT (chF cs)).map V.int))) p2 (.tup [.ref D2,.int (lvB (chF cs):Nat)])):=(Same.upd f2).trans (Same.upd g2);have k1:=Same.upd g2 (o:=.tup [.ref D2,.int (lvB (chF cs):Nat)]) _ _ (bG (H:=H1) (a:=D2) (o:=.lst ((lvT (chF cs)).map V.int)));have k2:upd (upd H1 D2 (.lst ((lvT (chF cs)).map V.int))) p2 (.tup [.ref D2,.int (lvB (chF cs):Nat)]) p2=_:=bG;generalize upd (upd H1 D2 (.lst ((lvT (chF cs)).map V.int))) p2 (.tup [.ref D2,.int (lvB (chF cs):Nat)])=H2 at S2 k1 k2 ⊢;have SS:=S1.trans S2;have tl:(lvT (chF cs)).length=cs.length:=by unfold lvT;rw[ak,cl]
  dsimp only[cB,L2.start];subst hR1;refine fG (YC (YX (K1 ⟨_,rfl,p2,_,0,_,rfl,rfl,k2,fZ,_,rfl,t,_,2,_,rfl,rfl,SS _ _ ht,b_ (j:=2) rfl,D2,r,_,ys,rfl,k1,SS _ _ hr',by rw[ak,tl,yl],by rw[ak,tl];exact aM l41 (by decide),λD3 g3=>⟨λk zs Hc=>Same H2 Hc/\Hc D3=some (.lst zs)/\zs=(((List.zipWith (λp c=>p*Ts.getD c.1 0) (lvT (chF cs)) cs).take k).map V.int),⟨Same.upd g3,bG,rfl⟩,?_,?_⟩⟩)))
  .rintro k x y zs Hc t2 hx hy ⟨S3,h3,rfl⟩ hz ht2 ha hb pre hpre;obtain⟨w1,w2,rfl⟩:=G3 hpre;have lk:k<cs.length:=by rw[<- yl];exact(ao.mp hy).1
   have ec:cs[k]?=some cs[k]:=aj lk;obtain⟨tt,a,e1,e2,e3⟩:=ya k _ ec;rw[hy]at e1;cases e1;have el:(lvT (chF cs))[k]?=some ((lvT (chF cs))[k]'(by lia)):=aj _;rw[aq,el]at hx;cases hx;have S4:Same Hc (upd Hc t2 (.tup [.int ((lvT (chF cs))[k]'(by lia)),.ref tt])):=Same.upd ht2;have k4:upd Hc t2 (.tup [.int ((lvT (chF cs))[k]'(by lia)),.ref tt]) t2=_:=bG;generalize upd Hc t2 (.tup [.int ((lvT (chF cs))[k]'(by lia)),.ref tt])=H4 at S4 k4 ⊢;have S24:=SS.trans (S3.trans S4);have cm:=hc _ (aV lk);have lt:cs[k].1<Ts.length:=cm.1;have eT:(Ts.map V.int)[cs[k].1]?=some (.int (Ts.getD cs[k].1 0)):=by rw[aq,aj lt,au,aj lt];rfl
   have bt:Bd (Ts.getD cs[k].1 0):=bT _ (by rw[au,aj lt];exact aV lt);have bl:Bd ((lvT (chF cs))[k]'(by lia)):=(Zd fq (aM (Nat.le_of_eq cl) l41) _ (aV _)).bd (by decide);refine⟨t2,_,rfl,k4,rfl,_,_,rfl,_,_,rfl,rfl,[_,_],rfl,rfl,_,rfl,_,rfl,_,rfl,tt,_,0,_,rfl,rfl,S24 _ _ e2,fZ,Ta,_,_,_,rfl,rfl,S24 _ _ hT,b_ (j:=cs[k].1) eT,_,_,rfl,rfl,⟨bl,bt⟩,S4 _ _ h3,S4 _ _ ha,S4 _ _ hb,λb o z=>(bL (bH z g3)).trans (S4 _ _ (S3 _ _ z)),bG,?_⟩;rw[cJ (Tz (g:=λp(c:Nat×Int×Int)=>p*Ts.getD c.1 0) el ec),bA];rfl
  .rintro zs Hc ⟨S3,h3,ez⟩ hz;rw[ak,tl,aK (by rw[List.length_zipWith];exact Nat.min_le_right _ _)]at ez;subst ez;have b0:=wu fq;exact⟨D3,_,rfl,h3,_,rfl,p2,_,1,_,rfl,rfl,S3 _ _ k2,dj,Ke cs Ts,(lvB (chF cs):Nat),rfl,by lia,(Vd fq (aM (Nat.le_of_eq cl) l41)).bd (by decide),λr z o l hr=>q r z o _ (SS.trans (S3.trans (Same.upd hr))) (Same.free (SS.trans S3) hr) bG l⟩
noncomputable def iU(cs:Θ)(g:Nat->Rat):Rat:=(cs.map λc=>vl c.2*g c.1).sum
theorem Oj{B:Int}(hB:0<B){Ts:List Int} : ∀{cs:Θ},(∀c∈cs,0<c.2.2/\c.2.2 ∣ B)->(((List.zipWith (λp(c:Nat×Int×Int)=>p*Ts.getD c.1 0) (cs.map λc=>c.2.1*(B/c.2.2)) cs).sum:Int):Rat)=(B:Rat)*iU cs λr=>(Ts.getD r 0:Rat)
 |[],_=>by
  show((0:Int):Rat)=(B:Rat)*0;rw[Rat.intCast_zero,Rat.mul_zero]
 |c::cs,h=>by
  have ih:=Oj hB (Ts:=Ts) (cs:=cs) λc hc=>h c (aH _ hc);obtain⟨c0,d,e⟩:=h c aO;rw[List.map_cons,List.zipWith_cons_cons,List.sum_cons,Rat.intCast_add,ih];show _=(B:Rat)*(vl c.2*(Ts.getD c.1 0:Rat)+iU cs λr=>(Ts.getD r 0:Rat));have e2:B/c.2.2=d:=by rw[e,Int.mul_ediv_cancel_left _ (Int.ne_of_gt c0)]
  rw[e2,e,XU,XU,XU];have:=cI c0;unfold vl
  grind
theorem Ym{cs:Θ}{Ts:List Int}{z o:Int}(fq:∀f∈chF cs,Fq f)(l:Low (Ke cs Ts) (lvB (chF cs):Nat) z o):vl (z,o)=iU cs λr=>(Ts.getD r 0:Rat):=by
 have b0:(0:Int)<(lvB (chF cs):Nat):=by have:=wu fq;lia
 rw[l.vl b0];have e:Ke cs Ts=(List.zipWith (λp(c:Nat×Int×Int)=>p*Ts.getD c.1 0) (cs.map λc=>c.2.1*(((lvB (chF cs):Nat):Int)/c.2.2)) cs).sum:=by
  unfold Ke lvT
  congr 2
  show(cs.map (·.2)).map _=_;rw[List.map_map];rfl
 have:=Oj b0 (Ts:=Ts) (cs:=cs) λc hc=>⟨(fq c.2 (YV.mpr ⟨c,hc,rfl⟩)).pos,HJ (YV.mpr ⟨c,hc,rfl⟩) (fq c.2 (YV.mpr ⟨c,hc,rfl⟩))⟩;show((Ke cs Ts:Int):Rat)/(((lvB (chF cs):Nat):Int):Rat)=_;rw[e,this];have:=cI b0
 grind
theorem Sq{a:Nat} : ∀{l:List Int},(∀x∈l,Bn a x)->l.sum.natAbs<=l.length*10^a
 |[],_=>by simp
 |x::l,h=>by
  have h1:=Sq (l:=l) λy hy=>h y (aH _ hy);have h2:x.natAbs<=10^a:=h x aO;rw[List.sum_cons,List.length_cons,Nat.add_mul,Nat.one_mul];omega
theorem W7{a b:Nat}{cs:Θ}{Ts:List Int}(h1:∀x∈lvT (chF cs),Bn a x)(h2:∀x∈Ts,Bn b x)(l:cs.length<=100):Bn (a+b+2) (Ke cs Ts):=by
 have h:∀x∈List.zipWith (λp(c:Nat×Int×Int)=>p*Ts.getD c.1 0) (lvT (chF cs)) cs,Bn (a+b) x:=λx hx=>by
  obtain⟨k,hk⟩:=aW hx;rw[List.getElem?_zipWith]at hk;cases e1:(lvT (chF cs))[k]? with
  |none=>rw[e1]at hk;cases hk
  |some p =>
   cases e2:cs[k]? with
   |none=>rw[e1,e2]at hk;cases hk
   |some c =>
    rw[e1,e2]at hk;cases hk;refine Bn.mul (h1 p (aB e1)) ?_;rw[au];cases e3:Ts[c.1]? with
    |none=>exact bh _
    |some x=>exact h2 x (aB e3)
 have hs:=Sq h;unfold Bn Ke;rw[Nat.pow_add _ (a+b) 2,Nat.mul_comm];refine aM hs (Nat.mul_le_mul_right _ ?_);rw[List.length_zipWith];lia
structure uo(n:Nat)(f:Ι)(cs:Θ):Prop where
 pay:0<f.2/\Bn 40 f.1/\Bn 40 f.2
 few:cs.length<=41
 ch:∀c∈cs,c.1<n/\Fq c.2
 lv:Bn 60 (lvB (chF cs):Nat)
theorem uo.fq{n:Nat}{f:Ι}{cs:Θ}(h:uo n f cs):∀f∈chF cs,Fq f:=λf hf=>by
 obtain⟨c,hc,rfl⟩:=YV.mp hf;exact(h.ch c hc).2
theorem uo.tops{n:Nat}{f:Ι}{cs:Θ}(h:uo n f cs):∀x∈lvT (chF cs),Bn 100 x:=λx hx=>by
 obtain⟨g,hg,rfl⟩:=YV.mp hx;have b:Bn 60 (((lvB (chF cs):Nat):Int)/g.2):=aM (Int.natAbs_ediv_le_natAbs _ _) h.lv;exact Bn.mul (a:=40) (b:=60) (h.fq g hg).sa b
inductive yF(K:Frag)(D:Adr)(vs:Μ)(H:Hp)(Q:VK):Prop
 |mk (o p t lv T:Addr) (rms:List (Str×List Dr)) (s f:Ι) (cs:Θ) (Ts:List Int) (W:Int) (h0:vs=[.ref o,.ref t,.ref lv]) (h1:ji D H o p rms) (h2:H p=some (.tup [.int s.1,.int s.2])) (h3:0<s.2) (h4:Bn 40 s.1) (h5:Bn 40 s.2) (h6:zq K H t f cs) (h7:uo Ts.length f cs) (h8:H lv=some (.tup [.ref T,.int W])) (h9:H T=some (.lst (Ts.map V.int))) (h10:0<W) (h11:Bn 600 W) (h12:(∀x∈Ts,Bn 640 x)) (h13:∀r z y H',Same H H'->H r=none->H' r=some (.tup [.int z,.int y])->0<y->Bn 830 z->Bn 140 y->vl (z,y)=vl f*(W:Rat)+vl s*iU cs (λr=>(Ts.getD r 0:Rat))->Q (.ref r) H'):yF K D vs H Q
noncomputable def Er(K:Frag)(D:Adr):Sp:=λvs H Q _=>yF K D vs H Q
theorem Cq(F:Fun K jA jA pG f fd)(T:Txt K mg D)(D_:OkF P w K mg base 3 jN jZ (Fj K))(Nb:OkF P w K mg base 3 vR vN Jc)(yu:OkF P w K mg base 3 qK qJ (xZ (K:=K) λa b=>a+b)):cC P w K mg base CX0 4 f fd jL (Er K D):=by
 refine F.ok sG ?_ ?_
 .rintro _ _ _ _ ⟨o,p,t,lv,T,rms,s,f,cs,Ts,W,rfl,_⟩;rfl
 .rintro cdv A outer s H _ Q E hr ⟨o,p,t,lv,Ta,rms,sh,f,cs,Ts,W,rfl,hh,hp,s0,b1,b2,of,df,hlv,hT,w0,bW,bT,q⟩;have hI:=hh;obtain⟨dx,nn,ll,zs0,ho,_,_,_⟩:=hI;have fq:=df.fq;refine⟨_,(bK (bZ (i:=3) sG.nd rfl (Or.inl rfl) (bO D_ hr.md (by rfl) (bD (pv 1) (bD (bU cg (pv 2) bI (λ_ _=>rfl)) bF))))
   (bN (cD (bO yu hr.md (by rfl) (bD (bO Nb hr.md (by rfl) (bD (bU cg (pv 1) bI (λ_ _=>rfl)) (bD (iz (bD (bU cg (pv 2) bI (λ_ _=>rfl)) (bD bI bF))) bF))) (bD (bO Nb hr.md (by rfl) (bD (o_ (pv 0) rfl) (bD (pv 3) bF))) bF)))))),?_⟩
  refine bQ λR1 hR1=>?_;refine cA ⟨_,rfl,_,rfl,lv,_,0,_,rfl,rfl,hlv,fZ,t,Ta,f,cs,Ts,rfl,of,hT,df.few,df.ch,λx hx=>(bT x hx).bd (by decide),λr1 z1 o1 H1 S1 f1 h1 l1=>?_⟩;have v1:=Ym fq l1;have bz1:Bn 742 z1:=(W7 (a:=100) (b:=640) df.tops bT (by have:=df.few;exact aM this (by decide))).lx l1;have bo1:Bn 60 o1:=df.lv.ly l1;have p1:=l1.pos;subst hR1;dsimp only[cB,L2.start];obtain⟨nm,pp,rr,ys,ht,hpp,_,_,_⟩:=of.ex;obtain⟨f0,bf1,bf2⟩:=df.pay;refine fG ⟨_,rfl,t,_,1,_,rfl,rfl,S1 _ _ ht,dj,_,rfl,lv,_,1,_,rfl,rfl,S1 _ _ hlv,dj,jm,λu2 H2 S2 f2 h2=>⟨pp,u2,f.1,f.2,W,1,rfl,S2 _ _ (S1 _ _ hpp),h2,bf1.bd (by decide),bf2.bd (by decide),bW.bd (by decide),Bd.sm (by decide),f0,by decide,by rw[Int.mul_one];exact bf2.bd (by decide),λr3 z3 o3 H3 S3 f3 h3 l3=>?_⟩⟩;rw[Int.mul_one]at l3;have bz3:Bn 640 z3:=(Bn.mul bf1 bW).lx l3;have bo3:Bn 40 o3:=bf2.ly l3;have p3:=l3.pos;have v3:vl (z3,o3)=vl f*(W:Rat):=by
   rw[l3.vl f0];have:=Mp (x:=f.1) (y:=f.2) (u:=W) (v:=1) f0 (by decide);rw[Int.mul_one]at this;rw[this,oE]
  have S13:=S1.trans (S2.trans S3);refine⟨_,rfl,o,D.Hall,dx,_,.ref p,rfl,S13 _ _ ho,T.p8,T.pJ,rfl,_,rfl,p,r1,sh.1,sh.2,z1,o1,rfl,S13 _ _ hp,S3 _ _ (S2 _ _ h1),b1.bd (by decide),b2.bd (by decide),bz1.bd (by decide),bo1.bd (by decide),s0,p1,(Bn.mul b2 bo1).bd (by decide),λr4 z4 o4 H4 S4 f4 h4 l4=>?_⟩;have bz4:Bn 782 z4:=(Bn.mul b1 bz1).lx l4;have bo4:Bn 100 o4:=(Bn.mul b2 bo1).ly l4;have p4:=l4.pos;have v4:vl (z4,o4)=vl sh*iU cs λr=>(Ts.getD r 0:Rat):=by
   rw[l4.vl (XZ s0 p1),Mp s0 p1,v1]
  have S14:=S13.trans S4;refine⟨r3,r4,z3,o3,z4,o4,rfl,.of (S4 _ _ h3),.of h4,bz3.bd (by decide),bo3.bd (by decide),bz4.bd (by decide),bo4.bd (by decide),p3,p4,(Bn.mul bo3 bo4).bd (by decide),λr5 z5 o5 l5 f5=>?_⟩;have bt:Bn 823 (z3*o4+z4*o3):=Bn.add (a:=822) ((Bn.mul bz3 bo4).up (by decide)) (Bn.mul bz4 bo3);refine q r5 z5 o5 _ (S14.trans (Same.upd f5)) (Same.free S14 f5) bG l5.pos ((bt.lx l5).up (by decide)) ((Bn.mul bo3 bo4).ly l5) ?_;rw[l5.vl (XZ p3 p4),Ro p3 p4,v3,v4]
structure DrN(K:Frag)(H:Hp)(ns:Β)(d:Dr)(f:Ι)(cs:Θ):Prop where
 pay:H d.p=some (.tup [.int f.1,.int f.2])
 len:d.ws.length=cs.length
 at_:∀(k:Nat)g c,d.ws[k]?=some g->cs[k]?=some c->ns[c.1]?=some g.1/\SqT K H g.2 [.int c.2.1,.int c.2.2]
theorem DrN.same{H H':Hp}{ns:Β}{d:Dr}{f:Ι}{cs:Θ}(h:DrN K H ns d f cs)(S:Same H H'):DrN K H' ns d f cs:=⟨S _ _ h.pay,h.len,λk g c e1 e2=>⟨(h.at_ k g c e1 e2).1,S.tup (h.at_ k g c e1 e2).2⟩⟩
theorem rP{ns:Β}(nd:ns.Nodup){i j:Nat}{n:Str}(h1:ns[i]?=some n)(h2:ns[j]?=some n):i=j:=by
 exact(List.getElem?_inj (ao.mp h1).1 nd).mp (h1.trans h2.symm)
theorem oG.offN{ns:Β}(nd:ns.Nodup){H:Hp}{zs:Μ}{gs:List Dr}(h:oG ns H zs gs){k:Nat}{d:Dr}(e:gs[k]?=some d){f:Ι}{cs:Θ}(hd:DrN K H ns d f cs):∃t,zs[k]?=some (.ref t)/\zq K H t f cs:=by
 obtain⟨t,r,ys,a,b,c,w⟩:=h.at_ k d e;refine⟨t,a,d.nm,d.p,r,ys,b,hd.pay,c,by rw[w.len,hd.len],λj g eg=>?_⟩;have lj:j<d.ws.length:=by rw[hd.len];exact(ao.mp eg).1
 have ew:d.ws[j]?=some d.ws[j]:=aj lj;obtain⟨tt,i,x1,x2,x3⟩:=w.at_ j _ ew;obtain⟨y1,y2⟩:=hd.at_ j _ g ew eg;cases rP nd x2 y1;exact⟨tt,_,x1,x3,y2⟩
noncomputable def wq(fs:Ψ)(r:Nat):Rat:=vl (fs.getD r (0,1))
noncomputable def ux(s f:Ι)(cs:Θ)(fs:Ψ):Rat:=vl f+vl s*iU cs (wq fs)
theorem O7{W:Rat}{g h:Nat->Rat} : ∀{cs:Θ},(∀c∈cs,g c.1=W*h c.1)->iU cs g=W*iU cs h
 |[],_=>by
  show(0:Rat)=W*0;rw[Rat.mul_zero]
 |c::cs,e=>by
  have ih:=O7 (cs:=cs) λc hc=>e c (aH _ hc);show vl c.2*g c.1+iU cs g=W*(vl c.2*h c.1+iU cs h);rw[ih,e c aO]
  grind
structure QM(K:Frag)(H:Hp)(ns:Β)(n:Nat)(gs:List Dr)(fcs:Δ):Prop where
 len:gs.length=fcs.length
 at_:∀(k:Nat)d fc,gs[k]?=some d->fcs[k]?=some fc->DrN K H ns d fc.1 fc.2/\uo n fc.1 fc.2
theorem iy{H H':Hp}{p:Addr}{o:HO}(hp:H p=none)(S:Same H H'):Same H (upd H' p o):=λb u hb=>by
 rw[bL (bH hb hp)];exact S b u hb
theorem Same.sql{K:Frag}{H H':Hp}{a:Addr}{xs:Μ}(S:Same H H')(h:SqL K H a xs):SqL K H' a xs:=by
 rcases h with(h|⟨o,h⟩)|h
 .exact .inl (.inl (S _ _ h))
 .exact .inl (.inr ⟨o,S _ _ h⟩)
 .exact .inr h
theorem O5{α:Type} : ∀{l:List α},l.length=2->∃a b,l=[a,b]
 |[a,b],_=>⟨a,b,rfl⟩
theorem n_{a b c:Rat}(p:0<c):a<=b/c↔a*c<=b:=by rw[<- Rat.not_lt,Rat.div_lt_iff p,Rat.not_lt]
theorem qj{a b c:Rat}(p:0<c):b/c<=a↔b<=a*c:=by rw[<- Rat.not_lt,Rat.lt_div_iff p,Rat.not_lt]
noncomputable def IsI(q:Rat):Prop:=∃z:Int,q=(z:Rat)
theorem IsI.add{p q:Rat}(h:IsI p)(g:IsI q):IsI (p+q):=by
 obtain⟨a,rfl⟩:=h;obtain⟨b,rfl⟩:=g;exact⟨a+b,(Rat.intCast_add a b).symm⟩
theorem IsI.mul{p q:Rat}(h:IsI p)(g:IsI q):IsI (p*q):=by
 obtain⟨a,rfl⟩:=h;obtain⟨b,rfl⟩:=g;exact⟨a*b,(XU a b).symm⟩
theorem CV{f:Ι}{N:Nat}(h0:0<f.2)(h:f.2 ∣ (N:Int)):IsI (vl f*((N:Int):Rat)):=by
 obtain⟨d,e⟩:=h;refine⟨f.1*d,?_⟩;have:=cI h0;rw[e,XU,XU];unfold vl
 grind
theorem uF{g:Ι}{N:Nat}(h0:0<g.2)(hg:Int.gcd g.1 g.2=1)(h:IsI (vl g*((N:Int):Rat))):g.2 ∣ (N:Int):=by
 obtain⟨z,e⟩:=h;have h1:=cI h0;have e2:g.1*(N:Int)=z*g.2:=by
  refine Rat.intCast_inj.mp ?_;rw[XU,XU,<- e];unfold vl
  grind
 have c:Nat.Coprime g.2.natAbs g.1.natAbs:=by rw[Nat.coprime_comm];exact hg
 have d:g.2.natAbs ∣ g.1.natAbs*N:=by
  have:g.2.natAbs ∣ (g.1*(N:Int)).natAbs:=Int.natAbs_dvd_natAbs.mpr ⟨z,by rw[e2,Int.mul_comm]⟩;rwa[Int.natAbs_mul,XG]at this
 exact Int.natAbs_dvd.mp (Int.natCast_dvd_natCast.mpr (c.dvd_of_dvd_mul_left d))
structure Vm(s:Ι)(L:Nat)(fc:Ι×Θ):Prop where
 f0:0<fc.1.2
 pay:fc.1.2 ∣ (L:Int)
 big:fc.1.1.natAbs<=10^30
 few:fc.2.length<=41
 ch:∀c∈fc.2,0<c.2.2/\s.2*c.2.2 ∣ (L:Int)/\0<=c.2.1/\c.2.1<=c.2.2
noncomputable def yx(L k:Nat)(fs:Ψ):Prop:=∀f∈fs,0<f.2/\Int.gcd f.1 f.2=1/\f.2 ∣ ((L^k:Nat):Int)/\f.1.natAbs<=10^30*42^k*f.2.natAbs
noncomputable def Wn(B q:Rat):Prop:=-B<=q/\q<=B
theorem Oh{f:Ι}{B:Nat}(h0:0<f.2)(h:f.1.natAbs<=B*f.2.natAbs):Wn ((B:Int):Rat) (vl f):=by
 have p:(0:Rat)<(f.2:Rat):=Rat.intCast_pos.mpr h0;have e:((f.2.natAbs:Nat):Int)=f.2:=by exact Int.natAbs_of_nonneg (XY h0)
 have h':((f.1.natAbs:Nat):Int)<=(B:Int)*f.2:=by rw[<- e,<- Int.natCast_mul];exact Int.ofNat_le.mpr h
 unfold vl;constructor
 .rw[n_ p,<- Rat.intCast_neg,<- XU,Rat.intCast_le_intCast,Int.neg_mul];lia
 .rw[qj p,<- XU,Rat.intCast_le_intCast];lia
theorem Rg{f:Ι}{B:Nat}(h0:0<f.2)(h:Wn ((B:Int):Rat) (vl f)):f.1.natAbs<=B*f.2.natAbs:=by
 have p:(0:Rat)<(f.2:Rat):=Rat.intCast_pos.mpr h0;have e:((f.2.natAbs:Nat):Int)=f.2:=by exact Int.natAbs_of_nonneg (XY h0)
 unfold vl at h;obtain⟨h1,h2⟩:=h;rw[n_ p,<- Rat.intCast_neg,<- XU,Rat.intCast_le_intCast,Int.neg_mul]at h1;rw[qj p,<- XU,Rat.intCast_le_intCast]at h2;have:((f.1.natAbs:Nat):Int)<=((B*f.2.natAbs:Nat):Int):=by rw[Int.natCast_mul,e];omega
 exact Int.ofNat_le.mp this
theorem Wn.add{A B p q:Rat}(h:Wn A p)(g:Wn B q):Wn (A+B) (p+q):=by
 obtain⟨a,b⟩:=h;obtain⟨c,d⟩:=g;exact⟨by grind,by grind⟩
theorem Wn.part{B c q:Rat}(h:Wn B q)(c0:0<=c)(c1:c<=1):Wn B (c*q):=by
 obtain⟨a,b⟩:=h;have B0:0<=B:=by
  have:=Rat.le_trans a b
  grind
 have k1:=Rat.mul_le_mul_of_nonneg_left a c0;have k2:=Rat.mul_le_mul_of_nonneg_left b c0;have k3:=Rat.mul_le_mul_of_nonneg_right c1 B0;rw[Rat.one_mul]at k3;refine⟨?_,Rat.le_trans k2 k3⟩;have : -B<=c * -B:=by
  rw[Rat.mul_neg];exact Rat.neg_le_neg k3
 exact Rat.le_trans this k1
theorem Vv{B:Rat}{G:Nat->Rat}(hG:∀r,Wn B (G r)):∀{cs:Θ},(∀c∈cs,0<c.2.2/\0<=c.2.1/\c.2.1<=c.2.2)->Wn (((cs.length:Nat):Rat)*B) (iU cs G)
 |[],_=>by
  show Wn (((0:Nat):Rat)*B) 0;rw[show((0:Nat):Rat)=0 from rfl,Rat.zero_mul];exact⟨by grind,by grind⟩
 |c::cs,h=>by
  obtain⟨a,b,d⟩:=h c aO;have p:(0:Rat)<(c.2.2:Rat):=Rat.intCast_pos.mpr a;have c0:0<=vl c.2:=by
   unfold vl;rw[n_ p,Rat.zero_mul];exact Rat.intCast_nonneg.mpr b
  have c1:vl c.2<=1:=by
   unfold vl;rw[qj p,Rat.one_mul,Rat.intCast_le_intCast];exact d
  have ih:=Vv hG (cs:=cs) λc hc=>h c (aH _ hc);have:=((hG c.1).part c0 c1).add ih;show Wn _ (vl c.2*G c.1+iU cs G);rw[List.length_cons,show((cs.length+1:Nat):Rat)=(cs.length:Rat)+1 from by rw[Rat.natCast_add];rfl];have e:((cs.length:Rat)+1)*B=B+(cs.length:Rat)*B:=by grind
  rw[e];exact this
theorem O4{x:Rat}{G:Nat->Rat} : ∀{cs:Θ},(∀c∈cs,IsI (vl c.2*G c.1*x))->IsI (iU cs G*x)
 |[],_=>⟨0,by show(0:Rat)*x=_;rw[Rat.zero_mul];rfl⟩
 |c::cs,h=>by
  have ih:=O4 (cs:=cs) λc hc=>h c (aH _ hc);show IsI ((vl c.2*G c.1+iU cs G)*x);rw[Rat.add_mul];exact(h c aO).add ih
theorem yx.wq{L k:Nat}{fs:Ψ}(h:yx L k fs)(r:Nat):IsI (wq fs r*(((L^k:Nat):Int):Rat))/\Wn (((10^30*42^k:Nat):Int):Rat) (wq fs r):=by
 unfold K58.wq;cases e:fs[r]? with
 |none =>
  rw[au,e];have z:vl (0,1)=0:=by
   show((0:Int):Rat)/((1:Int):Rat)=0;rw[Rat.intCast_zero];grind
  show IsI (vl (0,1)*_)/\Wn _ (vl (0,1));refine⟨by rw[z,Rat.zero_mul];exact⟨0,rfl⟩,Oh (by decide) (bh _)⟩
 |some f =>
  rw[au,e];obtain⟨a,b,c,d⟩:=h f (aB e);exact⟨CV a c,Oh a d⟩
theorem Xq{s:Ι}{L k:Nat}{fc:Ι×Θ}{fs:Ψ}(s0:0<=s.1)(s1:s.1<=s.2)(s2:0<s.2)(d:Vm s L fc)(h:yx L k fs):IsI (ux s fc.1 fc.2 fs*(((L^(k+1):Nat):Int):Rat))/\Wn (((10^30*42^(k+1):Nat):Int):Rat) (ux s fc.1 fc.2 fs):=by
 have eL:(((L^(k+1):Nat):Int):Rat)=((L:Int):Rat)*(((L^k:Nat):Int):Rat):=by rw[Nat.pow_succ,Int.natCast_mul,XU,Rat.mul_comm]
 have p:(0:Rat)<(s.2:Rat):=Rat.intCast_pos.mpr s2;have q0:0<=vl s:=by
  unfold vl;rw[n_ p,Rat.zero_mul];exact Rat.intCast_nonneg.mpr s0
 have q1:vl s<=1:=by
  unfold vl;rw[qj p,Rat.one_mul,Rat.intCast_le_intCast];exact s1
 unfold ux;constructor
 .rw[Rat.add_mul];refine IsI.add ?_ ?_
  .rw[eL,<- Rat.mul_assoc];exact(CV d.f0 d.pay).mul ⟨_,rfl⟩
  .have e:vl s*iU fc.2 (K58.wq fs)*(((L^(k+1):Nat):Int):Rat)=iU fc.2 (K58.wq fs)*(vl s*(((L:Int):Rat)*(((L^k:Nat):Int):Rat))):=by rw[eL];grind
   rw[e];refine O4 λc hc=>?_;obtain⟨c0,dv,_⟩:=d.ch c hc;have e2:vl c.2*K58.wq fs c.1*(vl s*(((L:Int):Rat)*(((L^k:Nat):Int):Rat)))=(vl (s.1*c.2.1,s.2*c.2.2)*((L:Int):Rat))*(K58.wq fs c.1*(((L^k:Nat):Int):Rat)):=by
    rw[Mp s2 c0];grind
   rw[e2];exact(CV (f:=(s.1*c.2.1,s.2*c.2.2)) (XZ s2 c0) dv).mul (h.wq c.1).1
 .have w1:Wn (((10^30:Nat):Int):Rat) (vl fc.1):=Oh d.f0 (aM d.big (Nat.le_mul_of_pos_right _ (by have:=d.f0;omega)));have w2:=(Vv (λr=>(h.wq r).2) (cs:=fc.2) λc hc=>let⟨a,_,b,e⟩:=d.ch c hc;⟨a,b,e⟩).part q0 q1;have w:=w1.add w2;have le:(((10^30:Nat):Int):Rat)+((fc.2.length:Nat):Rat)*(((10^30*42^k:Nat):Int):Rat)<=(((10^30*42^(k+1):Nat):Int):Rat):=by
   rw[show((fc.2.length:Nat):Rat)=(((fc.2.length:Nat):Int):Rat)from rfl,<- XU,<- Rat.intCast_add,Rat.intCast_le_intCast,<- Int.natCast_mul,<- Int.natCast_add];refine Int.ofNat_le.mpr ?_;have h1:fc.2.length*(10^30*42^k)<=41*(10^30*42^k):=Nat.mul_le_mul_right _ d.few;have h2:10^30*1<=10^30*42^k:=Nat.mul_le_mul_left _ (Nat.pos_of_ne_zero (by simp));have e:10^30*42^(k+1)=10^30*42^k*42:=(Nat.mul_assoc (10^30) (42^k) 42).symm;rw[e];generalize 10^30*42^k=x at *;generalize fc.2.length*x=u at *;lia
  exact⟨Rat.le_trans (Rat.neg_le_neg le) w.1,Rat.le_trans w.2 le⟩
noncomputable def Ly:V->Prop|.int k=>0<=k/\k<=40|_=>False
noncomputable def Ou(D:Adr):Sp:=λvs H Q E=>∃v,vs=[v]/\Odd H v/\(Ly v->Q .non H)/\(¬Ly v->E (.ref D.NoNumber) none H)
theorem Dv(F:Fun K lW lW qU f fd)(T:Txt K mg D)(cR:OkF P w K mg base 1 eG eZ eE):cC P w K mg base (CXO P w) 2 f fd lu (Ou D):=by
 refine F.okX DR ?_ ?_
 .rintro _ _ _ _ ⟨v,rfl,_⟩;rfl
 .rintro cdv A outer s H _ Q E hr ⟨v,rfl,ov,q,e⟩;refine⟨_,(bN (eF (PW.pt (pw_or (dJ (dB (bO cR hr.md (by rfl) (bD (pv 0) bF)) (λ_=>rfl))) (pw_or1 (dJ (Bm Ax Ax bI (pv 0) (Js (by rfl) T.Z5))))))
    (bN (pP rfl (by rfl) T.Bl T.B_ pU (bD pA bF)))
    cN)),?_⟩
  unfold eE
  walk_at "rd"
  have no:¬Ly v->1<=sizeLine/\E (Value.ref D.NoNumber) none H:=λz=>⟨by decide,e z⟩;by_cases iv:∃k,v=.int k
  .obtain⟨k,rfl⟩:=iv;refine⟨_,rfl,?_⟩;rw[ZZ (by decide)];refine⟨k,rfl,?_⟩;by_cases k0:0<=k
   .rw[ZY (Zs k0)];refine⟨k,rfl,?_⟩;by_cases k1:k<=40
    .rw[ZZ (by simp[k1])];exact q ⟨k0,k1⟩
    .rw[ZY (by simp[k1])];exact no λz=>k1 z.2
   .rw[ZZ (by simp[k0])];exact no λz=>k0 z.1
  .obtain⟨t,et⟩:=ov;refine⟨t,et,?_⟩;rw[Sw et λk z=>iv ⟨k,z⟩];exact no λz=>by
    cases v with
    |int k=>exact iv ⟨k,rfl⟩
    |_=>exact z
noncomputable def Vj(D:Adr):Sp:=λvs H Q _=>∃(v:V)(W:Int),vs=[v,.int W]/\((v=.non/\Q (.ref D.NOUGHT) H)\/∃(p:Addr)(z y:Int),v=.ref p/\H p=some (.tup [.int z,.int y])/\0<y/\Bd z/\Bd y/\0<W/\Bd W/\Bd (y*W) /\
 ∀r a b H',Same H H'->H r=none->H' r=some (.tup [.int a,.int b])->Low z (y*W) a b->Q (.ref r) H')
theorem Kq(F:Fun K qN qN yq f fd)(T:Txt K mg D)(aag:OkF P w K mg base 3 zN zF M5):cC P w K mg base CX0 4 f fd qt (Vj D):=by
 refine F.ok K4 ?_ ?_
 .rintro _ _ _ _ ⟨v,W,rfl,_⟩;rfl
 .rintro cdv A outer s H _ Q E hr ⟨v,W,rfl,c⟩;refine⟨_,(bN (cD (wM (cX yd (pv 0) nY (cV _)) (iW (by rfl) T.nF) (bO aag hr.md (by rfl) (bD (pv 0) (bD (iz (bD (pv 1) (bD bI bF))) bF)))))),?_⟩;rcases c with⟨rfl,q⟩|⟨p,z,y,rfl,hp,y0,bz,b_y,w0,bW,byW,q⟩
  .exact fG ⟨_,rfl,rfl,true,ZH V.bl (Zs rfl),q⟩
  .refine fG ⟨_,rfl,rfl,false,ZH V.bl (Zp (λz=>by cases z)),_,rfl,_,rfl,jm,λr1 H1 S1 f1 h1=>⟨p,r1,z,y,W,1,rfl,S1 _ _ hp,h1,bz,b_y,bW,Bd.sm (by decide),y0,w0,byW,λr a b H2 S2 f2 h2 l=>?_⟩⟩;rw[Int.mul_one]at l;exact q r a b H2 (S1.trans S2) (Same.free S1 f2) h2 l
theorem d_{α:Type}{l:List α}{a b:α}{k:Nat}(h:(l++[a])[k]?=some b):(k<l.length/\l[k]?=some b)\/(k=l.length/\b=a):=by
 by_cases hk:k<l.length
 .rw[aD hk]at h;exact .inl ⟨hk,h⟩
 .have hl:=(ao.mp h).1;rw[aA,List.length_cons,List.length_nil]at hl;have e:k=l.length:=by lia
  subst e;rw[aC (aF _),Nat.sub_self]at h;cases h;exact .inr ⟨rfl,rfl⟩
theorem mU{as:Ε}{H:Hp}{a:Addr}{u:HO}(h:a∈as):del as (upd H a u)=del as H:=by
 funext b
 unfold del;split
 .rfl
 .rename_i hb
  exact bL λz=>hb (z ▸ h)
theorem OD{fs:Ψ}{f:Ι}(hf:f∈fs)(h0:0<f.2):f.2 ∣ (lvB fs:Nat):=by
 have h1:f.2.natAbs ∣ lvB fs:=Lv.CW (YV.mpr ⟨f,hf,rfl⟩);have:=Int.natCast_dvd_natCast.mpr h1;rwa[Int.natAbs_of_nonneg (XY h0)]at this
theorem Zx{fs:Ψ}(fz:∀f∈fs,Fz f){r:Nat}(lr:r<fs.length):((lvT fs).getD r 0:Rat)=(((lvB fs:Nat):Int):Rat)*wq fs r:=by
 have e:fs[r]?=some fs[r]:=aj lr;have q:=fz _ (aV lr);unfold wq lvT;rw[au,au,aq,e];show((fs[r].1*(((lvB fs:Nat):Int)/fs[r].2):Int):Rat)=(((lvB fs:Nat):Int):Rat)*vl fs[r];obtain⟨d,ed⟩:=OD (aV lr) q.pos;have:=cI q.pos;have e2:((lvB fs:Nat):Int)/fs[r].2=d:=by rw[ed,Int.mul_ediv_cancel_left _ (Int.ne_of_gt q.pos)]
 rw[e2,ed,XU,XU];unfold vl
 grind
structure Y4(fs:Ψ):Prop where
 fz:∀f∈fs,Fz f
 few:fs.length<=12
 lv:Bn 480 (lvB fs:Nat)
 tops:∀x∈lvT fs,Bn 640 x
structure vI(K:Frag)(D:Adr)(H:Hp)(o:Addr)(s:Ι)(fcss:Γ):Prop where
 ex:∃(p:Addr)(rms:List (Str×List Dr)),ji D H o p rms/\xH rms/\(rms.map (·.1)).Nodup/\H p=some (.tup [.int s.1,.int s.2])/\fcss.length=rms.length/\∀(k:Nat)g fcs,rms[k]?=some g->fcss[k]?=some fcs->QM K H (rms.map (·.1)) fcss.length g.2 fcs
 s0:0<s.2
 b1:Bn 40 s.1
 b2:Bn 40 s.2
 n12:fcss.length<=12
theorem QM.same{H H':Hp}{ns:Β}{n:Nat}{gs:List Dr}{fcs:Δ}(S:Same H H')(h:QM K H ns n gs fcs):QM K H' ns n gs fcs:=⟨h.len,λk d fc e1 e2=>⟨(h.at_ k d fc e1 e2).1.same S,(h.at_ k d fc e1 e2).2⟩⟩
theorem vI.same{H H':Hp}{o:Addr}{s:Ι}{fcss:Γ}(S:Same H H')(h:vI K D H o s fcss):vI K D H' o s fcss:=by
 obtain⟨p,rms,a,b,c,d,e,f⟩:=h.ex;exact⟨⟨p,rms,a.same S,b,c,S _ _ d,e,λk g fcs e1 e2=>(f k g fcs e1 e2).same S⟩,h.s0,h.b1,h.b2,h.n12⟩
structure Rds(K:Frag)(H:Hp)(ls:Ε)(fss:Φ):Prop where
 len:ls.length=fss.length
 nd:ls.Nodup
 at_:∀(k:Nat)l fs,ls[k]?=some l->fss[k]?=some fs->∃zs,H l=some (.lst zs)/\FLK K H zs fs
theorem Rds.same{H H':Hp}{ls:Ε}{fss:Φ}(S:Same H H')(h:Rds K H ls fss):Rds K H' ls fss:=⟨h.len,h.nd,λk l fs e1 e2=>by
 obtain⟨zs,a,b⟩:=h.at_ k l fs e1 e2;exact⟨zs,S _ _ a,b.same S⟩⟩
theorem Rds.off{H:Hp}{ls:Ε}{fss:Φ}{t:Addr}{ys zs:Μ}(h:Rds K H ls fss)(ht:H t=some (.lst ys))(n:t∉ls):Rds K (upd H t (.lst zs)) ls fss:=⟨h.len,h.nd,λk l fs e1 e2=>by
 obtain⟨zs,a,b⟩:=h.at_ k l fs e1 e2;exact⟨zs,(bL λz=>n (by rw[<- z];exact aB e1)).trans a,b.updL ht⟩⟩
theorem Rds.snoc{H:Hp}{ls:Ε}{fss:Φ}{l:Addr}{zs:Μ}{fs:Ψ}(h:Rds K H ls fss)(n:l∉ls)(hl:H l=some (.lst zs))(fl:FLK K H zs fs):Rds K H (ls++[l]) (fss++[fs]):=by
 refine⟨by rw[aA,aA,h.len];rfl,?_,λk l' fs' e1 e2=>?_⟩
 .rw[List.nodup_append];refine⟨h.nd,by simp,λa ha b hb z=>?_⟩;rw[YR.mp hb]at z;exact n (z ▸ ha)
 .have ll:=h.len;rcases d_ e1 with⟨a1,a2⟩|⟨a1,a2⟩<;>rcases d_ e2 with⟨c1,c2⟩|⟨c1,c2⟩
  .exact h.at_ k l' fs' a2 c2
  .lia
  .lia
  .subst a2;subst c2;exact⟨zs,hl,fl⟩
structure zM(N:Ψ->Ψ->Prop)(fs0:Ψ)(L:Nat)(fss:Φ):Prop where
 first:fss[0]?=some fs0
 next:∀(k:Nat)fs gs,fss[k]?=some fs->fss[k+1]?=some gs->N fs gs
 ok:∀(k:Nat)fs,fss[k]?=some fs->yx L k fs/\fs.length=fs0.length
structure Vk(s:Ι)(fcss:Γ)(L:Nat):Prop where
 s0:0<=s.1
 s1:s.1<=s.2
 s2:0<s.2
 L0:0<L
 d:∀fcs∈fcss,∀fc∈fcs,Vm s L fc
theorem yx.bd{L k m:Nat}{fs:Ψ}(h:yx L k fs)(L0:0<L)(hk:k<=m)(m40:m<=40)(hm:L^m<=10^480)(few:fs.length<=12):Y4 fs:=by
 have le:L^k<=10^480:=aM (XT L0 hk) hm;have p0:0<L^k:=Nat.pow_pos L0;have f42:42^k<=10^66:=aM (XT (by decide) (aM hk m40)) (by decide +kernel);have fz0:∀f∈fs,f.2.natAbs<=10^480/\f.2.natAbs ∣ L^k:=λf hf=>by
  obtain⟨a,b,c,d⟩:=h f hf;have c':f.2.natAbs ∣ L^k:=by
   have:=Int.natAbs_dvd_natAbs.mpr c;rwa[XG]at this
  exact⟨aM (Nat.le_of_dvd p0 c') le,c'⟩
 have top:∀f∈fs,f.1.natAbs<=10^96*f.2.natAbs:=λf hf=>by
  obtain⟨a,b,c,d⟩:=h f hf;refine aM d (Nat.mul_le_mul_right _ ?_);have:(10:Nat)^30*42^k<=10^30*10^66:=Nat.mul_le_mul_left _ f42;rw[<- Nat.pow_add]at this;exact this
 have fz:∀f∈fs,Fz f:=λf hf=>by
  obtain⟨a,b,c,d⟩:=h f hf;obtain⟨e,_⟩:=fz0 f hf;have b2:Bn 480 f.2:=e;have b1:Bn 576 f.1:=aM (top f hf) (by
   have:(10:Nat)^96*f.2.natAbs<=10^96*10^480:=Nat.mul_le_mul_left _ e;rw[<- Nat.pow_add]at this;exact this)
  exact⟨a,b1.bd (by decide),b2.bd (by decide)⟩
 have lv:lvB fs ∣ L^k:=Lv.vU.mpr λc hc=>by
  obtain⟨f,hf,rfl⟩:=YV.mp hc;exact(fz0 f hf).2
 have lvl:lvB fs<=10^480:=aM (Nat.le_of_dvd p0 lv) le;refine⟨fz,few,by unfold Bn;rw[XG];exact lvl,λx hx=>?_⟩;obtain⟨f,hf,rfl⟩:=YV.mp hx;have dv:=OD hf (fz f hf).pos;obtain⟨q,eq⟩:=dv;have p:=(fz f hf).pos;have e2:((lvB fs:Nat):Int)/f.2=q:=by rw[eq,Int.mul_ediv_cancel_left _ (Int.ne_of_gt p)]
 show Bn 640 (f.1*(((lvB fs:Nat):Int)/f.2));rw[e2];have h1:f.1.natAbs*q.natAbs<=10^96*f.2.natAbs*q.natAbs:=Nat.mul_le_mul_right _ (top f hf);have h2:f.2.natAbs*q.natAbs=lvB fs:=by
  have:=ZH Int.natAbs eq;rw[XG,Int.natAbs_mul]at this;exact this.symm
 rw[Nat.mul_assoc,h2]at h1;have h3:(10:Nat)^96*lvB fs<=10^96*10^480:=Nat.mul_le_mul_left _ lvl;rw[<- Nat.pow_add]at h3;unfold Bn;rw[Int.natAbs_mul];exact aM h1 (aM h3 (XT (by decide) (by decide)))
structure ac1(I:Hp->Prop)(N:Ψ->Ψ->Prop)(n L:Nat):Prop where
 same:∀H H',Same H H'->I H->I H'
 ok:∀k fs gs,yx L k fs->fs.length=n->N fs gs->yx L (k+1) gs/\gs.length=n
noncomputable def Qa(K:Frag)(I:Hp->Prop)(N:Ψ->Ψ->Prop)(n:Nat):Sp:=λvs H Q _=>∃(la:Addr)(xs:Μ)(fs:Ψ),vs=[.ref la]/\I H/\H la=some (.lst xs)/\FLK K H xs fs/\Y4 fs/\fs.length=n /\
 ∀r H' zs gs,Same H H'->H r=none->H' r=some (.lst zs)->FLK K H' zs gs->N fs gs->Q (.ref r) H'
noncomputable def CQ(K:Frag)(spF:Sp)(f:Addr):Sp:=λvs H Q _=>∃(l0:Addr)(many L:Nat)(fs0:Ψ)(I:Hp->Prop)(N:Ψ->Ψ->Prop)(xs0:Μ),vs=[.ref l0,.int many,.ref f]/\many<=40/\I H/\ac1 I N fs0.length L/\(∀vs H Q E,Qa K I N fs0.length vs H Q E->spF vs H Q E)/\0<L/\L^many<=10^480/\fs0.length<=12/\yx L 0 fs0/\H l0=some (.lst xs0)/\FLK K H xs0 fs0 /\
 ∀t ls fss H',Same H H'->H t=none->(∀l∈ls,H l=none)->t∉l0::ls->H' t=some (.lst ((l0::ls).map V.ref))->Rds K H' (l0::ls) fss->fss.length=many+1->zM N fs0 L fss->Q (.ref t) H'
theorem R5{n:Nat}(h:1<=n):ixN n (-1)=some (n-1):=by
 unfold ixN;rw[ZZ (Int.not_le_of_gt (by decide)),ZY (by lia)]
 congr 1
 lia
theorem Jh{xs:Μ}{x:V} : atI (xs++[x]) (-1)=some x:=by
 unfold atI;rw[aA,List.length_singleton,R5 (Nat.le_add_left _ _)];show(xs++[x])[xs.length+1-1]?=some x;rw[Nat.add_sub_cancel,aC (aF _),Nat.sub_self];rfl
theorem xW{fr fo:Addr}{fd:FuncData}{spF:Sp}(F:Fun K kJ kJ mC fr fd)(T:Txt K mg D)(VD:OkL P w K mg base 6 fo ["ahead"] spF):cC P w K mg base CX0 7 fr fd kI (CQ K spF fo):=by
 refine F.ok pX ?_ ?_
 .rintro _ _ _ _ ⟨l0,many,L,fs0,I,N,xs0,rfl,_⟩;rfl
 .rintro cdv A outer s H _ Q E hr ⟨l0,many,L,fs0,I,N,xs0,rfl,m40,hI,st,imp,L0,hm,n12,r0,hl0,fl0,q⟩;have z9:101<sizeLine:=by decide
  refine⟨_,(bK (bZ (i:=3) pX.nd rfl (Or.inl rfl) (jz (bD (pv 0) bF)))
   (bK (zX PassesOwn.never (cX Ax (cF fW (by rfl) T.lZ PySem.boot_len (bD (pv 3) bF)) (pv 1) (cV _))
    (bN (cY (kY (pv 3) (bD (VJ VD hr.md (pv 2) (bD (bU cu (pv 3) (YG VG bI) (λ_ _=>rfl)) bF)) bF)))))
   (bN (cD (pv 3))))),?_⟩
  refine cA ⟨_,rfl,Uc,λt H1 S1 f1 h1=>?_⟩;dsimp only[cB,L2.start];have nt0:t≠l0:=(bH hl0 f1).symm;refine bQ λR1 hR1=>?_;refine cZ ⟨λm σ H'=>∃(ls:Ε)(fss:Φ),m=many+1-fss.length/\σ=[some (.ref l0),some (.int many),some (.ref fo),some (.ref t)]/\Same H H'/\(∀l∈ls,H l=none)/\t∉l0::ls/\H' t=some (.lst ((l0::ls).map V.ref))/\Rds K H' (l0::ls) fss/\fss.length<=many+1/\zM N fs0 L fss,⟨many,[],[fs0],by simp,rfl,S1,by simp,by simpa using nt0,h1,⟨rfl,by simp,λk l fs e1 e2=>?_⟩,by simp,⟨rfl,λk fs gs _ e=>by simp at e,λk fs e=>?_⟩⟩,?_⟩
  .have k0:k=0:=by have:=(ao.mp e1).1;simp at this;exact this
   subst k0;cases e1;cases e2;exact⟨xs0,S1 _ _ hl0,fl0.same S1⟩
  .have k0:k=0:=by have:=(ao.mp e).1;simp at this;exact this
   subst k0;cases e;exact⟨r0,rfl⟩
  .rintro m σ H' ⟨ls,fss,rfl,rfl,S,new,nt,ht,rd,le,ro⟩;have ll:=rd.len;refine⟨_,rfl,t,_,rfl,ht,_,rfl,_,_,rfl,rfl,decide (fss.length<=many),?_,?_⟩
   .refine ZH V.bl (decide_eq_decide.mpr ?_);rw[ak,ll];lia
   by_cases c:fss.length<=many
   .rw[Zs c];have f0:0<fss.length:=by rw[<- ll];simp
    obtain⟨lx,la,el,ela⟩ : ∃lx la,l0::ls=lx++[la]/\(l0::ls)[fss.length-1]?=some la:=by
     have:(l0::ls)≠[]:=by simp
     refine⟨(l0::ls).dropLast,(l0::ls).getLast this,(List.dropLast_concat_getLast this).symm,?_⟩;rw[<- ll,<- List.getLast?_eq_getElem?,List.getLast?_eq_some_getLast this]
    have ef:fss[fss.length-1]?=some (fss[fss.length-1]'(by lia)):=aj _;obtain⟨zs,hz,flz⟩:=rd.at_ _ la _ ela ef;obtain⟨rok,rl⟩:=ro.ok _ _ ef;have rb:=rok.bd L0 (m:=many) (aM (Nat.sub_le _ _) c) m40 hm (aM (Nat.le_of_eq rl) n12);generalize fss[fss.length-1]'(by lia)=fs at *;have aL:atI ((l0::ls).map V.ref) (-1)=some (.ref la):=by rw[el,bA];exact Jh
    refine⟨λσ' H''=>∃(ls':Ε)(fss':Φ),fss'.length=fss.length+1/\σ'=[some (.ref l0),some (.int many),some (.ref fo),some (.ref t)]/\Same H H''/\(∀l∈ls',H l=none)/\t∉l0::ls'/\H'' t=some (.lst ((l0::ls').map V.ref))/\Rds K H'' (l0::ls') fss'/\zM N fs0 L fss',?_,?_⟩
    .rintro σ' H'' ⟨ls',fss',a1,a2,a3,a4,a5,a6,a7,a8⟩;exact⟨_,(by lia),ls',fss',rfl,a2,a3,a4,a5,a6,a7,by lia,a8⟩
    refine⟨_,rfl,t,_,rfl,ht,_,rfl,rfl,_,rfl,1,rfl,t,_,_,_,rfl,rfl,ht,aL,imp _ _ _ _ ⟨la,zs,fs,rfl,st.same _ _ S hI,hz,flz,rb,rl,λr H3 ys gs S3 f3 h3 fl3 nx=>?_⟩⟩;have ht3:=S3 _ _ ht;have nrl:r∉l0::ls:=λz=>by
     obtain⟨k,hk⟩:=aW z;have lk:k<fss.length:=by rw[<- ll];exact(ao.mp hk).1
     obtain⟨zs',a,_⟩:=rd.at_ k r _ hk (aj lk);rw[f3]at a;cases a
    have nrt:t≠r:=bH ht f3;have ntt:t∉l0::(ls++[r]):=λz=>by
     rw[<- List.cons_append]at z;rcases Y1.mp z with z|z
     .exact nt z
     .exact nrt (YR.mp z)
    refine⟨_,_,rfl,ht3,by rw[ak,ll];lia,ls++[r],fss++[gs],by simp,rfl,λb u e=>(bL (bH e f1)).trans (S3 _ _ (S _ _ e)),λl hl=>?_,ntt,by rw[bG,<- List.cons_append,bA];rfl,?_,?_⟩
    .rcases Y1.mp hl with hl|hl
     .exact new l hl
     .rw[YR.mp hl];exact Same.free S f3
    .rw[<- List.cons_append];refine Rds.off ((rd.same S3).snoc nrl h3 fl3) ht3 ?_;rw[List.cons_append];exact ntt
    .refine⟨by rw[aD f0];exact ro.first,λk fs' gs' e1 e2=>?_,λk fs' e=>?_⟩
     .rcases d_ e2 with⟨c1,c2⟩|⟨c1,c2⟩
      .rw[aD (Nat.lt_trans (X1 _) c1)]at e1;exact ro.next k fs' gs' e1 c2
      .rw[aD (by lia)]at e1;have:k=fss.length-1:=by lia
       rw[this,ef]at e1;cases e1;subst c2;exact nx
     .rcases d_ e with⟨c1,c2⟩|⟨c1,c2⟩
      .exact ro.ok k fs' c2
      .subst c2;have:=st.ok _ _ _ rok rl nx;rw[show fss.length-1+1=k by lia]at this;exact this
   .rw[Zp c];show R1 _ _ _;subst hR1;exact⟨_,rfl,q t ls fss H' S f1 new nt ht rd (by lia) ro⟩
noncomputable abbrev FC:=Ι×Θ
noncomputable def pick(fcss:List (List FC))(pl:List (Option Nat)):List (Option FC):=List.zipWith (λfcs o=>o.bind λj=>fcs[j]?) fcss pl
noncomputable def L_(fcss:List (List FC))(pl:List (Option Nat)):Prop:=pl.length=fcss.length/\∀(k:Nat)fcs o,fcss[k]?=some fcs->pl[k]?=some o->(o=none->fcs=[])/\∀j,o=some j->j<fcs.length
theorem pY{fcss:List (List FC)}{pl:List (Option Nat)}(h:L_ fcss pl):(pick fcss pl).length=fcss.length:=by
 unfold pick;rw[List.length_zipWith,h.1,Nat.min_self]
theorem HY{fcss:List (List FC)}{pl:List (Option Nat)}{k:Nat}{fcs:List FC}{o:Option Nat}(h:L_ fcss pl)(e1:fcss[k]?=some fcs)(e2:pl[k]?=some o):(o=none/\(pick fcss pl)[k]?=some none)\/∃j fc,o=some j/\fcs[j]?=some fc/\(pick fcss pl)[k]?=some (some fc):=by
 have e:(pick fcss pl)[k]?=some (o.bind λj=>fcs[j]?):=by
  unfold pick;rw[List.getElem?_zipWith,e1,e2]
 obtain⟨_,b⟩:=h.2 k fcs o e1 e2;cases o with
 |none=>exact .inl ⟨rfl,e⟩
 |some j =>
  have lj:=b j rfl;refine .inr ⟨j,fcs[j],rfl,aj lj,?_⟩;rw[e];show some (fcs[j]?)=_;rw[aj lj]
theorem nA{fcss:List (List FC)}{pl:List (Option Nat)}{fc:FC}(h:some fc∈pick fcss pl):∃fcs∈fcss,fc∈fcs:=by
 obtain⟨k,hk⟩:=aW h;unfold pick at hk;rw[List.getElem?_zipWith]at hk;cases e1:fcss[k]? with
 |none=>rw[e1]at hk;cases hk
 |some fcs =>
  rw[e1]at hk;cases e2:pl[k]? with
  |none=>rw[e2]at hk;cases hk
  |some o =>
   rw[e2]at hk;have hk:=Option.some.inj hk;cases o with
   |none=>cases hk
   |some j=>exact⟨fcs,aB e1,aB hk⟩
noncomputable def qY(s:Ι)(cs:List (Option FC))(fs gs:Ψ):Prop :=
 gs.length=cs.length/\∀(k:Nat)c g,cs[k]?=some c->gs[k]?=some g->0<g.2/\Int.gcd g.1 g.2=1/\(c=none->g=(0,1))/\∀fc,c=some fc->vl g=ux s fc.1 fc.2 fs
theorem qY.ok{s:Ι}{L k:Nat}{cs:List (Option FC)}{fs gs:Ψ}(s0:0<=s.1)(s1:s.1<=s.2)(s2:0<s.2)(d:∀fc,some fc∈cs->Vm s L fc)(n:qY s cs fs gs)(h:yx L k fs):yx L (k+1) gs:=by
 intro g hg;obtain⟨j,hj⟩:=aW hg;have lj:j<cs.length:=by rw[<- n.1];exact(ao.mp hj).1
 obtain⟨g0,g1,z,nz⟩:=n.2 j _ g (aj lj) hj;have m:=aV lj;generalize cs[j]=c at *;cases c with
 |none =>
  have:=z rfl;subst this;exact⟨g0,g1,Int.one_dvd _,bh _⟩
 |some fc =>
  have ev:=nz fc rfl;obtain⟨a,b⟩:=Xq s0 s1 s2 (d fc m) h;rw[<- ev]at a b;exact⟨g0,g1,uF g0 g1 a,Rg g0 b⟩
structure Chs(K:Frag)(n:Nat)(H:Hp)(zs:Μ)(cs:List (Option FC)):Prop where
 len:zs.length=cs.length
 at_:∀(k:Nat)c,cs[k]?=some c->(c=none/\zs[k]?=some .non)\/∃(t:Addr)(fc:FC),c=some fc/\zs[k]?=some (.ref t)/\zq K H t fc.1 fc.2/\uo n fc.1 fc.2
theorem Chs.same{n:Nat}{H H':Hp}{zs:Μ}{cs:List (Option FC)}(h:Chs K n H zs cs)(S:Same H H'):Chs K n H' zs cs:=⟨h.len,λk c e=>by
 rcases h.at_ k c e with z|⟨t,fc,a1,a2,a3,a4⟩
 .exact .inl z
 .exact .inr ⟨t,fc,a1,a2,a3.same S,a4⟩⟩
theorem yJ{ta:TA}{te:TE}{gt:TG}{tc:TT}{n:Nat}{σ:L2.St}{H:Hp}{Q:VK}(h:ta σ H λvs H1=>∃a xs,vs=[.ref a]/\H1 a=some (.lst xs)/\xs.length<=64/\∀D,H1 D=none->∃J:Nat->Μ->Hp->Prop,J 0 [] (upd H1 D (.lst [])) /\
   (∀(k:Nat)x zs Hc t,xs[k]?=some x->J k zs Hc->zs.length<=k->Hc t=none->Hc a=some (.lst xs)->sO n gt tc te (.ref t) σ (upd Hc t (.tup [.int k,x])) (λv H2=>H2 D=some (.lst zs)/\H2 a=some (.lst xs)/\J (k+1) (zs++[v]) (upd H2 D (.lst (zs++[v])))) λH2=>H2 a=some (.lst xs)/\J (k+1) zs H2) /\
   ∀zs Hc,J xs.length zs Hc->zs.length<=xs.length->Q (.ref D) Hc):iJ (NP (tMA ta)) n (tMG gt) (tMT tc) (tM te) σ H Q:=by
 refine⟨_,h,?_⟩;rintro vs H1 ⟨a,xs,rfl,hx,h64,rest⟩;refine⟨a,xs,rfl,hx,λD hD=>?_⟩;obtain⟨J,j0,step,fin⟩:=rest D hD;have na:a≠D:=bH hx hD;have z64:64<=sizeLine:=by decide
 refine⟨λk m zs Hc=>k<=xs.length/\m=xs.length-k/\zs.length<=k/\Hc a=some (.lst xs)/\J k zs Hc,⟨_,bh _,rfl,bh _,(bL na).trans hx,j0⟩,?_⟩;rintro k m zs Hc ⟨hk,rfl,hz,ha',j⟩;by_cases e:k=xs.length
 .subst e;exact .inl ⟨⟨xs,ha',aF _⟩,fin zs Hc j hz⟩
 .have hlt:k<xs.length:=by exact XX hk e
  refine .inr ⟨⟨xs,ha',hlt⟩,?_⟩;rintro v H'' ⟨xs',x,t,e1,e3,e5,rfl,rfl⟩;rw[ha']at e1;cases e1;refine(step k x zs Hc t e3 j hz e5 ha').weak ?_ ?_
  .rintro yv H2 ⟨z1,z2,z4⟩;refine⟨by lia,z1,xs.length-(k+1),by lia,by exact hlt,rfl,?_,(bL na).trans z2,z4⟩;rw[aA];simp;omega
  .rintro H2 ⟨z2,z4⟩;exact⟨xs.length-(k+1),by lia,by exact hlt,rfl,by exact aM hz (X2 _ _),z2,z4⟩
noncomputable def Mg(K:Frag)(D:Adr):Sp:=λvs H Q _=>∃(o lp:Addr)(s:Ι)(fcss:List (List FC))(pl:List (Option Nat)),vs=[.ref o,.ref lp]/\vI K D H o s fcss/\H lp=some (.lst (pl.map stV))/\L_ fcss pl /\
 ∀l zs H',Same H H'->H l=none->H' l=some (.lst zs)->Chs K fcss.length H' zs (pick fcss pl)->Q (.ref l) H'
theorem zj(F:Fun K gF gF j6 f fd)(T:Txt K mg D)(gK:OkI P w K mg base CX0 3 D.Hall_offers iw (nM D)):cC P w K mg base CX0 4 f fd gG (Mg K D):=by
 refine F.ok zf ?_ ?_
 .rintro _ _ _ _ ⟨o,lp,s,fcss,pl,rfl,_⟩;rfl
 .rintro cdv A outer s H _ Q E hr ⟨o,lp,sh,fcss,pl,rfl,hn,hlp,fit,q⟩;obtain⟨p,rms,hh,few,nd,hp,fcl,dn⟩:=hn.ex;have n12:=hn.n12;have pll:=fit.1;obtain⟨dx,nn,ll,zs0,ho,_,_,_⟩:=id hh;refine⟨_,(bN (cD (n6 (bM j6) nQ nQ ["room", "door"] (Nu (by rfl) T.yN (bD (pv 1) bF).mono) (gB (n:=2) rfl (cG (fQ (i:=0)) (cG (fQ (i:=1)) fK))) eU (wM (cX yd (pv 1) nY (cV _)) nY (bU cu (PE.any λC(hC:dO D C)=>(wO (pv 2) (T.cl C hC.fam) (T.su C hC) gK hr.md (bD (pv 0) bF))) (pv 1) (λ_ _=>rfl)))))),?_⟩;refine fG (yJ ⟨_,rfl,lp,_,rfl,hlp,by rw[ak];lia,λD1 g1=>⟨λk zs Hc=>Same H Hc/\Hc D1=some (.lst zs)/\Chs K fcss.length (del [D1] Hc) zs ((pick fcss pl).take k),⟨Same.upd g1,bG,rfl,λk c e=>by simp at e⟩,?_,?_⟩⟩)
  .rintro k x zs Hc t hx ⟨S1,h1,ch⟩ zl ft hlp';have lk:k<pl.length:=by have:=(ao.mp hx).1;rwa[ak]at this
   have eo:pl[k]?=some pl[k]:=aj lk;have ef:fcss[k]?=some (fcss[k]'(aU lk (Nat.le_of_eq pll))):=aj _;have eg:rms[k]?=some (rms[k]'(by lia)):=aj _;have gm:rms[k]'(by lia)∈rms:=aV _;have dn:=dn k _ _ eg ef;have gf:=few.few _ gm;have gw:=few.ways _ gm;have pa:=HY fit ef eo;rw[aq,eo]at hx;cases hx;generalize rms[k]'(by lia)=g at *;generalize fcss[k]'(aU lk (Nat.le_of_eq pll))=fcs at *;generalize pl[k]=po at *;have S2:Same Hc (upd Hc t (.tup [.int k,stV po])):=Same.upd ft;have e2:upd Hc t (.tup [.int k,stV po]) t=some (.tup [.int k,stV po]):=bG;generalize upd Hc t (.tup [.int k,stV po])=H1 at S2 e2 ⊢;have SH:=S1.trans S2;have zk:zs.length=k:=by rw[ch.len,bf,pY fit];omega
   have fin:∀(v:V)(H2:Hp)(c:Option FC),Same H1 H2->(pick fcss pl)[k]?=some c->((c=none/\v=.non)\/∃(t:Addr)(fc:FC),c=some fc/\v=.ref t/\zq K (del [D1] H2) t fc.1 fc.2/\uo fcss.length fc.1 fc.2)->H2 D1=some (.lst zs)/\H2 lp=some (.lst (pl.map stV))/\Same H (upd H2 D1 (.lst (zs++[v])))/\upd H2 D1 (.lst (zs++[v])) D1=some (.lst (zs++[v]))/\Chs K fcss.length (del [D1] (upd H2 D1 (.lst (zs++[v])))) (zs++[v]) ((pick fcss pl).take (k+1)):=λv H2 c S3 ec cv=>by
    refine⟨S3 _ _ (S2 _ _ h1),S3 _ _ (S2 _ _ hlp'),λb u e=>(bL (bH e g1)).trans (S3 _ _ (SH _ _ e)),bG,?_⟩;rw[mU (YR.mpr rfl)];have ch:=ch.same (H':=del [D1] H2) (nZ λb o _ e=>S3 _ _ (S2 _ _ e));rw[cJ ec];have ll:=ch.len;refine⟨by rw[aA,aA,ll];rfl,λi c' e=>?_⟩;rcases d_ e with⟨a1,a2⟩|⟨a1,a2⟩
    .rcases ch.at_ i c' a2 with⟨z1,z2⟩|⟨t,fc,z1,z2,z3⟩
     .exact .inl ⟨z1,by rw[aD (by lia)];exact z2⟩
     .exact .inr ⟨t,fc,z1,by rw[aD (by lia)];exact z2,z3⟩
    .subst a2;have e:∀v:V,(zs++[v])[i]?=some v:=λv=>by rw[aC (by lia),show i-zs.length=0 by omega];rfl
     rcases cv with⟨z1,z2⟩|⟨t,fc,z1,z2,z3⟩
     .exact .inl ⟨z1,by rw[e,z2]⟩
     .exact .inr ⟨t,fc,z1,by rw[e,z2],z3⟩
   intro pre hpre;obtain⟨u,v,rfl⟩:=O5 hpre;refine⟨t,_,rfl,e2,rfl,_,_,rfl,_,_,rfl,rfl,[_,_],rfl,rfl,?_⟩;rcases pa with⟨rfl,ep⟩|⟨j,fc,rfl,ej,ep⟩
   .exact⟨_,rfl,rfl,true,ZH V.bl (Zs rfl),fin .non H1 none (λ_ _ z=>z) ep (.inl ⟨rfl,rfl⟩)⟩
   .refine⟨_,rfl,rfl,false,ZH V.bl (Zp λz=>by cases z),D.Hall,(by unfold dO;simp),_,rfl,o,dx,_,rfl,SH _ _ ho,rfl,_,rfl,o,p,k,rms,g,rfl,hh.same SH,eg,gf,gw,λr H4 os S4 f4 h4 of4=>?_⟩;have lj:j<g.2.length:=by rw[dn.len];exact(ao.mp ej).1
    have ed:g.2[j]?=some g.2[j]:=aj lj;obtain⟨dN,dF⟩:=dn.at_ j _ _ ed ej;have SD:Same H (del [D1] H4):=λb u e=>cW (by simp only[YR];exact bH e g1) (S4 _ _ (SH _ _ e));obtain⟨tt,et,oN⟩:=(of4 [D1] (by intro a ha;rw[YR.mp ha];exact⟨_,S2 _ _ h1,λys z=>by cases z⟩)).offN nd ed (dN.same SD);exact⟨_,rfl,r,_,(j:Nat),_,rfl,rfl,h4,b_ (j:=j) et,fin (.ref tt) H4 (some fc) S4 ep (.inr ⟨tt,fc,rfl,rfl,oN,dF⟩)⟩
  .rintro zs Hc ⟨S1,h1,ch⟩ zl;rw[ak,pll,aK (by rw[pY fit];exact aF _)]at ch;exact q D1 zs Hc S1 g1 h1 (ch.same jK)
structure xT{α β:Type}(R:α->β->Prop)(xs:List α)(ys:List β):Prop where
 len:xs.length=ys.length
 at_:∀(k:Nat)(x:α)(y:β),xs[k]?=some x->ys[k]?=some y->R x y
theorem xT.imp{α β:Type}{R S:α->β->Prop}{xs:List α}{ys:List β}(h:xT R xs ys)(i:∀x y,R x y->S x y):xT S xs ys:=⟨h.len,λk x y a b=>i x y (h.at_ k x y a b)⟩
theorem xT.nil{α β:Type}{R:α->β->Prop} : xT R [] []:=⟨rfl,λk x y a=>by simp at a⟩
theorem xT.snoc{α β:Type}{R:α->β->Prop}{xs:List α}{ys:List β}{x:α}{y:β}(h:xT R xs ys)(r:R x y):xT R (xs++[x]) (ys++[y]):=by
 have l:=h.len;refine⟨by rw[aA,aA,l];rfl,λk u v a b=>?_⟩;rcases d_ a with⟨a1,a2⟩|⟨a1,a2⟩<;>rcases d_ b with⟨b1,b2⟩|⟨b1,b2⟩
 .exact h.at_ k u v a2 b2
 .lia
 .lia
 .subst a2;subst b2;exact r
noncomputable def nsJ{α:Type}(R:Hp->V->α->Prop)(D1:Addr)(tgt:List α)(H:Hp)(k:Nat)(ys:Μ)(H':Hp):Prop:=Same H H'/\H' D1=some (.lst ys)/\xT (R (del [D1] H')) ys (tgt.take k)
theorem qe{α:Type}{K:Frag}{i:Nat}{te:TE}{σ:L2.St}{H:Hp}{Q:VK}{a:Addr}{xs:Μ}(R:Hp->V->α->Prop)(tgt:List α)(mono:∀{H H':Hp}{v:V}{t:α},Same H H'->R H v t->R H' v t)(hσ:σ[i]?=some (some (.ref a)))(ha:H a=some (.lst xs))(l:xs.length=tgt.length)(sz:tgt.length<=sizeLine)
 (hb:∀(k:Nat)x t Hc D1 ys(R':VK),xs[k]?=some x->tgt[k]?=some t->Same H Hc->Hc D1=some (.lst ys)->(∀y H2,Same Hc H2->R (del [D1] H2) y t->R' y H2)->te (some x::σ) Hc R')
 (q:∀D Hc ys,Same H Hc->H D=none->Hc D=some (.lst ys)->xT (R (del [D] Hc)) ys tgt->Q (.ref D) Hc):iJ (Fg K (tM (Qf i))) 1 (tMG (cB 0)) (tMT Lg) (tM te) σ H Q:=by
 refine mJ ⟨_,hσ,a,xs,rfl,ha,by exact aM (Nat.le_of_eq l) sz,λD1 hD=>⟨nsJ R D1 tgt H,⟨Same.upd hD,bG,.nil⟩,λk x ys Hc hk ⟨S1,h1,a1⟩ hy hc=>?_,λys Hc ⟨S1,h1,a1⟩ hy=>?_⟩⟩
 .have lk:k<tgt.length:=by rw[<- l];exact(ao.mp hk).1
  refine hb k x _ Hc D1 ys _ hk (aj lk) S1 h1 λy H2 S2 r=>⟨S2 _ _ h1,S2 _ _ hc,λb o z=>(bL (bH z hD)).trans (S2 _ _ (S1 _ _ z)),bG,?_⟩;rw[mU (by simp),cJ (aj lk)];exact(a1.imp λ_ _ z=>mono (nZ λb o _ e=>S2 _ _ e) z).snoc r
 .rw[l,aP]at a1;exact q D1 Hc ys S1 hD h1 a1
noncomputable def pR(K:Frag)(D:Adr):Sp:=λvs H Q _=>∃(o lc la:Addr)(s:Ι)(zs xs:Μ)(fs:Ψ)(fcss:List (List FC))(cs:List (Option FC)),vs=[.ref o,.ref lc,.ref la]/\vI K D H o s fcss/\H lc=some (.lst zs)/\Chs K fcss.length H zs cs/\cs.length=fcss.length/\H la=some (.lst xs)/\FLK K H xs fs/\Y4 fs/\fs.length=fcss.length /\
 ∀r H' ys gs,Same H H'->H r=none->H' r=some (.lst ys)->FLK K H' ys gs->qY s cs fs gs->Q (.ref r) H'
noncomputable def Rz(sh:Ι)(fs:Ψ)(W:Int)(H:Hp)(v:V)(c:Option FC):Prop:=(c=none/\v=.non)\/∃(r:Addr)(z y:Int)(fc:FC),c=some fc/\v=.ref r/\H r=some (.tup [.int z,.int y])/\0<y/\Bn 830 z/\Bn 140 y/\vl (z,y)=ux sh fc.1 fc.2 fs*(W:Rat)
noncomputable def Rp(K:Frag)(sh:Ι)(fs:Ψ)(H:Hp)(v:V)(c:Option FC):Prop:=∃(a:Addr)(g:Ι),v=.ref a/\SqT K H a [.int g.1,.int g.2]/\0<g.2/\Int.gcd g.1 g.2=1/\(c=none->g=(0,1))/\∀fc,c=some fc->vl g=ux sh fc.1 fc.2 fs
theorem M6{sh:Ι}{fs:Ψ}{H:Hp} : ∀{ws:Μ}{cs:List (Option FC)},xT (Rp K sh fs H) ws cs->∃gs,FLK K H ws gs/\qY sh cs fs gs
 |[],[],_=>⟨[],.nil,rfl,λk c g e=>by simp at e⟩
 |[],_::_,h=>by have:=h.len;simp at this
 |_::_,[],h=>by have:=h.len;simp at this
 |w::ws,c::cs,h=>by
  obtain⟨gs,fl,n1,n2⟩:=M6 (ws:=ws) (cs:=cs) ⟨by have:=h.len;simpa using this,λk x y a b=>h.at_ (k+1) x y a b⟩;obtain⟨a,g,rfl,hv,r⟩:=h.at_ 0 w c rfl rfl;refine⟨g::gs,.cons hv fl,by rw[List.length_cons,List.length_cons,n1],λk c' g' e1 e2=>?_⟩;cases k with
  |zero=>cases e1;cases e2;exact r
  |succ k=>exact n2 k c' g' e1 e2
theorem DQ(F:Fun K gJ gJ jV f fd)(T:Txt K mg D)(mH:OkF P w K mg base 2 gW iZ (Fo K))(Dj:OkF P w K mg base 4 jA jL (Er K D))(Q7:OkF P w K mg base 4 qN qt (Vj D)):cC P w K mg base CX0 5 f fd gH (pR K D):=by
 refine F.ok pI ?_ ?_
 .rintro _ _ _ _ ⟨o,lc,la,s,zs,xs,fs,fcss,cs,rfl,_⟩;rfl
 .rintro cdv A outer s H _ Q E hr ⟨o,lc,la,sh,zs,xs,fs,fcss,cs,rfl,hn,hlc,ch,csl,hla,fl,rb,fn,q⟩;obtain⟨p,rms,hh,few,nd,hp,fcl,dn⟩:=hn.ex;have s0:=hn.s0;have b1:=hn.b1;have b2:=hn.b2;have n12:=hn.n12;have z9:101<sizeLine:=by decide
  refine⟨_,(bK (bZ (i:=3) pI.nd rfl (Or.inr rfl) (bO mH hr.md (by rfl) (bD (pv 2) bF)))
   (bK (Ni (bM jV) jw jw ["offer"] (dD ((pv 1)).mono) (fQ (i:=0)) eU (wM (cX yd (pv 0) nY (cV _)) nY (bO Dj hr.md (by rfl) (bD (pv 1) (bD (pv 0) (bD (pv 4) bF))))) (cH (i:=4) pI.nd rfl (Or.inl rfl)))
   (bN (cD (n6 (bM jV) jw jw ["one"] (dD ((pv 4)).mono) (fQ (i:=0)) eU (bO Q7 hr.md (by rfl) (bD (pv 0) (bD (bU cg (pv 4) bI (λ_ _=>rfl)) bF)))))))),?_⟩
  refine bQ λR1 hR1=>?_;refine cA ⟨_,rfl,la,xs,fs,rfl,hla,fl,rb.fz,by have:=rb.few;exact aM this (by decide),rb.lv.bd (by decide),λD2 p2 f2 g2=>?_⟩;have S2:Same H (upd (upd H D2 (.lst ((lvT fs).map V.int))) p2 (.tup [.ref D2,.int (lvB fs:Nat)])):=(Same.upd f2).trans (Same.upd g2);have k1:=Same.upd g2 (o:=.tup [.ref D2,.int (lvB fs:Nat)]) _ _ (bG (H:=H) (a:=D2) (o:=.lst ((lvT fs).map V.int)));have k2:upd (upd H D2 (.lst ((lvT fs).map V.int))) p2 (.tup [.ref D2,.int (lvB fs:Nat)]) p2=_:=bG;generalize upd (upd H D2 (.lst ((lvT fs).map V.int))) p2 (.tup [.ref D2,.int (lvB fs:Nat)])=H2 at S2 k1 k2 ⊢;have W0:(0:Int)<(lvB fs:Nat):=by have:=Ir rb.fz;lia
  have bW:=rb.lv;have bT:=rb.tops;have lT:(lvT fs).length=fs.length:=by unfold lvT;rw[ak]
  have vT:∀r,r<fs.length->((lvT fs).getD r 0:Rat)=(((lvB fs:Nat):Int):Rat)*wq fs r:=λr lr=>Zx rb.fz lr;generalize hW:((lvB fs:Nat):Int)=W at *;generalize lvT fs=Ts at *;have WR:(0:Rat)<(W:Rat):=Rat.intCast_pos.mpr W0;subst hR1;dsimp only[cB,L2.start];refine bQ λR1 hR1=>?_;refine cA (qe (Rz sh fs W) cs (λS z=>?_) rfl (S2 _ _ hlc) ch.len (by lia) (λk x c Hc D3 ys R' hx hc Sc h3 r'=>?_) λD3 H3 ys S3 g3 h3 al=>?_)
  .rcases z with z|⟨r,z,y,fc,a1,a2,a3,a4⟩
   .exact .inl z
   .exact .inr ⟨r,z,y,fc,a1,a2,S _ _ a3,a4⟩
  .rcases ch.at_ k c hc with⟨rfl,e⟩|⟨t,fc,rfl,e,oN,dF⟩
   .rw[hx]at e;cases e;exact⟨_,rfl,rfl,true,ZH V.bl (Zs rfl),r' .non Hc (λ_ _ z=>z) (.inl ⟨rfl,rfl⟩)⟩
   .rw[hx]at e;cases e;have S05:=S2.trans Sc;have dF':=dF;rw[<- fn,<- lT]at dF';refine⟨_,rfl,rfl,false,ZH V.bl (Zp λz=>by cases z),_,rfl,_,rfl,_,rfl,o,p,t,p2,D2,rms,sh,fc.1,fc.2,Ts,W,rfl,hh.same S05,S05 _ _ hp,s0,b1,b2,oN.same S05,dF',Sc _ _ k2,Sc _ _ k1,W0,bW.up (by decide),bT,λr7 z7 o7 H7 S7 f7 h7 y0 bz b_y v7=>?_⟩;have n7:r7∉[D3]:=by
     simp only[YR];exact(bH h3 f7).symm
    refine r' _ H7 S7 (.inr ⟨r7,z7,o7,fc,rfl,rfl,cW n7 h7,y0,bz,b_y,?_⟩);rw[v7,O7 (W:=(W:Rat)) (h:=wq fs) λc hc=>vT c.1 (by rw[fn];exact(dF.ch c hc).1)];unfold ux
    grind
  subst hR1;dsimp only[cB,List.set_cons_succ,List.set_cons_zero];refine fG (qe (Rp K sh fs) cs (λS z=>?_) rfl h3 al.len (by lia) (λk x c Hc D4 ws R' hx hc Sc h4 r'=>?_) λD4 H4 ws S4 g4 h4 al4=>?_)
  .obtain⟨a,g,a1,a2,a3⟩:=z;exact⟨a,g,a1,Same.tup S a2,a3⟩
  .have kk2:=Sc _ _ (S3 _ _ k2);rcases al.at_ k x c hx hc with⟨rfl,rfl⟩|⟨r,z,y,fc,rfl,rfl,hr',y0,bz,b_y,v⟩
   .exact⟨_,rfl,_,rfl,p2,_,1,_,rfl,rfl,kk2,dj,.non,W,rfl,.inl ⟨rfl,r' _ Hc (λ_ _ z=>z) ⟨D.NOUGHT,(0,1),rfl,T.kW _,by decide,by decide,λ_=>rfl,λfc z=>by cases z⟩⟩⟩
   .refine⟨_,rfl,_,rfl,p2,_,1,_,rfl,rfl,kk2,dj,.ref r,W,rfl,.inr ⟨r,z,y,rfl,Sc _ _ (jK _ _ hr'),y0,bz.bd (by decide),b_y.bd (by decide),W0,bW.bd (by decide),(Bn.mul b_y bW).bd (by decide),λr8 a b H7 S7 f7 h7 l=>?_⟩⟩;have n8:r8∉[D4]:=by
     simp only[YR];exact(bH h4 f7).symm
    refine r' _ H7 S7 ⟨r8,(a,b),rfl,.of (cW n8 h7),l.pos,l.gcd,(λz=>by cases z),λfc' e=>?_⟩;cases e;have h1:=l.vl (XZ y0 W0);have h2:=YW (x:=z) (y:=y) (u:=W) (v:=1) y0 W0 (by decide);rw[Int.mul_one]at h2;have Wn:=cI W0;rw[h1,h2,oE,v]
    grind
  .obtain⟨gs,fl4,nx⟩:=M6 al4;exact q D4 H4 ws gs (S2.trans (S3.trans S4)) (Same.free (S2.trans S3) g4) h4 (fl4.same jK) nx
theorem yg{te:TE}{g:TG}{D:Ends}{σ:L2.St}{H:Hp}(h:te σ H λx H1=>g x σ H1 D.nx):Eh te g D σ H:=h
noncomputable def rA(cs:Θ)(m:Nat):Rat:=iU (cs.take m) λ_=>1
theorem QK{cs:Θ}{m:Nat}{c:Nat×Int×Int}(e:cs[m]?=some c):rA cs (m+1)=rA cs m+vl c.2:=by
 unfold rA;rw[cJ e];unfold iU;rw[bA,List.sum_append];show _+(vl c.2*1+0)=_
 grind
structure Pg(n M:Nat)(cs:Θ):Prop where
 M0:0<M
 M9:M<=10^6
 few:cs.length<=41
 one:rA cs cs.length=1
 ch:∀c∈cs,c.1<n/\0<c.2.2/\c.2.2 ∣ (M:Int)/\0<=c.2.1/\c.2.1<=c.2.2
structure sI(H:Hp)(l:Addr)(cs:Θ):Prop where
 ex:∃ys,H l=some (.lst ys)/\ys.length=cs.length/\∀(i:Nat)c,cs[i]?=some c->∃tt a g,ys[i]?=some (.ref tt)/\H tt=some (.tup [.int (c.1:Nat),.ref a])/\H a=some (.tup [.int g.1,.int g.2])/\0<g.2/\Bd g.1/\Bd g.2/\vl g=rA cs (i+1)
theorem sI.same{H H':Hp}{l:Addr}{cs:Θ}(h:sI H l cs)(S:Same H H'):sI H' l cs:=by
 obtain⟨ys,a,b,c⟩:=h.ex;refine⟨ys,S _ _ a,b,λi d e=>?_⟩;obtain⟨tt,p,g,x1,x2,x3,x4⟩:=c i d e;exact⟨tt,p,g,x1,S _ _ x2,S _ _ x3,x4⟩
noncomputable def Kg(K:Frag):Sp:=λvs H Q _=>∃(t:Addr)(f:Ι)(cs:Θ)(n M:Nat),vs=[.ref t]/\zq K H t f cs/\Pg n M cs/\∀l H',Same H H'->H l=none->sI H' l cs->Q (.ref l) H'
noncomputable def edJ(K:Frag)(t l:Addr)(M:Nat)(cs:Θ)(H:Hp)(k:Nat)(σ:L2.St)(H':Hp):Prop:=∃(a:Addr)(g:Ι)(u v:Option V)(ys:Μ),σ=[some (.ref t),some (.ref l),some (.ref a),u,v]/\Same H H'/\SqT K H' a [.int g.1,.int g.2]/\0<g.2/\Int.gcd g.1 g.2=1/\g.2 ∣ (M:Int)/\Wn (((k:Nat):Int):Rat) (vl g)/\vl g=rA cs k/\H' l=some (.lst ys)/\ys.length=k/\∀(i:Nat)c,i<k->cs[i]?=some c->∃tt a g,ys[i]?=some (.ref tt)/\H' tt=some (.tup [.int (c.1:Nat),.ref a])/\H' a=some (.tup [.int g.1,.int g.2])/\0<g.2/\Bd g.1/\Bd g.2/\vl g=rA cs (i+1)
theorem J9(F:Fun K oF oF uQ f fd)(T:Txt K mg D)(yu:OkF P w K mg base 3 qK qJ (xZ (K:=K) λa b=>a+b)):cC P w K mg base CX0 4 f fd oM (Kg K):=by
 refine F.ok jr ?_ ?_
 .rintro _ _ _ _ ⟨t,f,cs,n,M,rfl,_⟩;rfl
 .rintro cdv A outer s H _ Q E hr ⟨t,f,cs,n,M,rfl,of,dE,q⟩;obtain⟨nm,pp,rr,ys,o1,o2,o3,o4,o5⟩:=of.ex;refine⟨_,(bK (bZ (i:=1) jr.nd rfl (Or.inl rfl) (jz bF))
   (bK (bZ (i:=2) jr.nd rfl (Or.inl rfl) (iW (by rfl) T.nF))
   (bK (fD PassesOwn.never rfl (dD ((bU cg (pv 0) bI (λ_ _=>rfl))).mono) (gB (n:=2) rfl (cG (cH (i:=3) jr.nd rfl (Or.inl rfl)) (cG (cH (i:=4) jr.nd rfl (Or.inl rfl)) fK)))
    (bK (bZ (i:=2) jr.nd rfl (Or.inl rfl) (bO yu hr.md (by rfl) (bD (pv 2) (bD (pv 4) bF))))
    (bN (cY (kY (pv 1) (bD (iz (bD (pv 3) (bD (pv 2) bF))) bF))))))
   (bN (cD (pv 1)))))),?_⟩
  refine bQ λR1 hR1=>?_;refine cA ⟨bh _,λl H1 S1 f1 h1=>?_⟩;subst hR1;refine bQ λR1 hR1=>?_;refine cA ?_;subst hR1;dsimp only[cB,L2.start,List.set_cons_succ,List.set_cons_zero];refine bQ λR1 hR1=>?_;refine cZ (gC ⟨_,rfl,t,_,2,_,rfl,rfl,S1 _ _ o1,b_ (j:=2) rfl,rr,ys,rfl,S1 _ _ o3,edJ K t l M cs H,⟨D.NOUGHT,(0,1),none,none,[],rfl,S1,T.kW _,by decide,by decide,Int.one_dvd _,Oh (by decide) (by decide),?_,h1,rfl,λi c z=>by lia⟩,?_,?_⟩)
  .show vl (0,1)=0;exact(oE 0).trans Rat.intCast_zero
  .rintro k x σ' H2 hy ⟨a,g,u,v,zs,rfl,S2,sq,g0,g1,gM,gw,gv,hl,zl,za⟩ hrr;have lk:k<cs.length:=by rw[<- o4];exact(ao.mp hy).1
   have ek:=aj lk;obtain⟨tt,b,x1,x2,x3⟩:=o5 k _ ek;rw[hy]at x1;cases x1;have hc:=dE.ch _ (aV lk);have sn:=QK ek;obtain⟨c,ec⟩ : ∃c,cs[k]=c:=⟨_,rfl⟩;rw[ec]at hc sn x2 x3 ek;obtain⟨c1,c2,c3,c4,c5⟩:=hc;have M9:=dE.M9;have M0:=dE.M0;have few:=dE.few;have q1:=Int.le_of_dvd (by lia) c3;have q2:=Int.le_of_dvd (Int.lt_of_lt_of_le c2 q1) gM;have q3:=Rg g0 gw;have q4:=Nat.mul_le_mul (show k<=41 by exact aM (Y2 lk) few) (show g.2.natAbs<=10^6 by lia);have q5:=XZ g0 c2;have q6:(g.2*c.2.2).natAbs<=10^6*10^6:=by
    rw[Int.natAbs_mul];exact Nat.mul_le_mul (by lia) (by lia)
   refine⟨tt,_,rfl,S2 _ _ x2,rfl,_,_,rfl,_,_,rfl,rfl,?_⟩;dsimp only[List.set_cons_succ,List.set_cons_zero];refine bQ λR2 hR2=>?_;refine cA ⟨_,rfl,_,rfl,a,b,g.1,g.2,c.2.1,c.2.2,rfl,sq,S2.tup x3,Bd.sm (by lia),Bd.sm (by lia),Bd.sm (by lia),Bd.sm (by lia),g0,c2,Bd.sm (Y3 q6 (by decide)),λr z o lw f3=>?_⟩;have S3:Same H2 (upd H2 r (.tup [.int z,.int o])):=Same.upd f3;have e3:upd H2 r (.tup [.int z,.int o]) r=_:=bG;generalize upd H2 r (.tup [.int z,.int o])=H3 at S3 e3 ⊢;have vz:vl (z,o)=rA cs (k+1):=by rw[sn,<- gv,lw.vl q5,Ro g0 c2]
   have wz:Wn (((k+1:Nat):Int):Rat) (vl (z,o)):=by
    have w1:Wn 1 (vl c.2):=by
     have p:(0:Rat)<(c.2.2:Rat):=Rat.intCast_pos.mpr c2;unfold vl;have a1:(0:Rat)<=(c.2.1:Rat)/(c.2.2:Rat):=by rw[n_ p,Rat.zero_mul];exact Rat.intCast_nonneg.mpr c4
     have a2:(c.2.1:Rat)/(c.2.2:Rat)<=1:=by rw[qj p,Rat.one_mul,Rat.intCast_le_intCast];exact c5
     exact⟨by grind,a2⟩
    have e2:(((k+1:Nat):Int):Rat)=(((k:Nat):Int):Rat)+1:=by rw[Int.natCast_add k 1,Rat.intCast_add];rfl
    rw[vz,sn,<- gv,e2];exact gw.add w1
   have dz:o ∣ (M:Int):=uF lw.pos lw.gcd (by
    rw[vz,sn,<- gv,Rat.add_mul];exact(CV g0 gM).add (CV (f:=c.2) c2 c3))
   have o0:=lw.pos;have q7:=Int.le_of_dvd (Int.lt_of_lt_of_le g0 q2) dz;have q8:z.natAbs<=(k+1)*o.natAbs:=Rg (f:=(z,o)) lw.pos wz;have q9:=Nat.mul_le_mul (show k+1<=41 by lia) (show o.natAbs<=10^6 by lia);subst hR2;dsimp only[cB,List.set_cons_succ,List.set_cons_zero];refine⟨_,rfl,l,zs,rfl,S3 _ _ hl,_,rfl,_,rfl,jm,λt4 H4 S4 f4 h4=>⟨_,_,rfl,S4 _ _ (S3 _ _ hl),by rw[zl];exact aU (show k<64 by lia) (by decide),?_⟩⟩;have f0:H l=none:=f1;have S24:=S3.trans S4;have SH:=iy (o:=.lst (zs++[.ref t4])) f0 (S2.trans S24);have nt:∀{p:Addr}{us:Μ},H4 p=some (.tup us)->upd H4 l (.lst (zs++[.ref t4])) p=some (.tup us):=λ{p us}e=>(bL (fH e (S24 _ _ hl) (by intro z;cases z))).trans e;have eT:=nt (S4 _ _ e3);refine⟨SH _ _ o3,r,(z,o),_,_,_,rfl,SH,.of eT,lw.pos,lw.gcd,dz,wz,vz,bG,by rw[aA,zl];rfl,λi d hi e=>?_⟩;by_cases y:i=k
   .subst y;rw[ek]at e;cases e;exact⟨t4,r,(z,o),by rw[aC (Nat.le_of_eq zl),zl,Nat.sub_self];rfl,nt h4,eT,lw.pos,Bd.sm (by show z.natAbs<_;lia),Bd.sm (by show o.natAbs<_;lia),vz⟩
   .obtain⟨t5,a5,g5,y1,y2,y3,y4⟩:=za i d (XX (Nat.le_of_lt_succ hi) y) e;exact⟨t5,a5,g5,by rw[aD (by lia)];exact y1,nt (S24 _ _ y2),nt (S24 _ _ y3),y4⟩
  .rintro σ' H2 ⟨a,g,u,v,zs,rfl,S2,sq,g0,g1,gM,gw,gv,hl,zl,za⟩ hrr;subst hR1;dsimp only;exact fG ⟨_,rfl,q l H2 S2 f1 ⟨zs,hl,by rw[zl,o4],λi c e=>za i c (by rw[o4];exact(ao.mp e).1) e⟩⟩
noncomputable def Fx:Sp:=λvs H Q _=>∃(p:Addr)(a b:Int),vs=[.ref p]/\H p=some (.tup [.int a,.int b])/\0<b/\Bd b /\
 ∀q r,H r=none->upd H r (.tup [.int (a%b),.int b]) q=none->Q (.ref q) (upd (upd H r (.tup [.int (a%b),.int b])) q (.tup [.int (a/b),.ref r]))
theorem Ql(F:Fun K tX tX Ay f fd):cC P w K mg base CX0 1 f fd tO Fx:=by
 refine F.ok Qi ?_ ?_
 .rintro _ _ _ _ ⟨p,a,b,rfl,_⟩;rfl
 .rintro cdv A outer s H _ Q E hr ⟨p,a,b,rfl,hp,hb,hbd,q⟩;refine⟨_,(bN (cD (oY (bD (bY fV (bU cg (pv 0) bI (λ_ _=>rfl)) (bU cg (pv 0) bI (λ_ _=>rfl))) (bD (oY (bD (bY lU (bU cg (pv 0) bI (λ_ _=>rfl)) (bU cg (pv 0) bI (λ_ _=>rfl))) (bD (bU cg (pv 0) bI (λ_ _=>rfl)) bF))) bF))))),?_⟩
  walk_at "rd"
  simp only[hp]
  walk_at "rd"
  rw[nq _ hb,Uy _ hb];exact⟨by exact Int.ne_of_gt hb,hbd,by exact Int.ne_of_gt hb,jm,λr hr=>⟨jm,λp1 hp1=>q p1 r hr hp1⟩⟩
noncomputable def oO(cs:Θ)(q:Rat)(r:Nat):Prop:=∃(i:Nat)(c:Nat×Int×Int),cs[i]?=some c/\r=c.1/\q<rA cs (i+1)/\∀j,j<=i->rA cs j<=q
noncomputable def rbJ(D1:Addr)(cs:Θ)(q:Rat)(H:Hp)(k:Nat)(ys:Μ)(H':Hp):Prop:=Same H H'/\H' D1=some (.lst ys)/\((ys=[]/\∀j,j<=k->rA cs j<=q)\/∃r zs,ys=.int (r:Nat)::zs/\oO cs q r)
noncomputable def yO:Sp:=λvs H Q _=>∃(l p:Addr)(x y:Int)(cs:Θ)(n M:Nat),vs=[.ref l,.ref p]/\sI H l cs/\Pg n M cs/\H p=some (.tup [.int x,.int y])/\0<y/\Bd y/\∀r H',Same H H'->oO cs (vl (x%y,y)) r->Q (.int (r:Nat)) H'
theorem Cr(F:Fun K jT jT lO f fd)(T:Txt K mg D)(BR:OkF P w K mg base 1 tX tO Fx)(jy:OkF P w K mg base 1 qg qb (pW (K:=K))):cC P w K mg base CX0 2 f fd jR yO:=by
 refine F.ok sy ?_ ?_
 .rintro _ _ _ _ ⟨l,p,x,y,cs,n,M,rfl,_⟩;rfl
 .rintro cdv A outer s H _ Q E hr ⟨l,p,x,y,cs,n,M,rfl,ed,dE,hp,y0,b_y,q⟩;refine⟨_,(bK (bZ (i:=2) sy.nd rfl (Or.inr rfl) (bU cg (bO BR hr.md (by rfl) (bD (pv 1) bF)) bI (λ_ _=>rfl)))
   (bN (cD (bU cu (n6 (bM lO) oX oX ["room", "reached"] (dD ((pv 0)).mono) (gB (n:=2) rfl (cG (fQ (i:=0)) (cG (fQ (i:=1)) fK))) (O8 (dB (bO jy hr.md (by rfl) (bD (pv 4) (bD (pv 1) bF))) (λ_=>rfl))) (pv 0)) bI (λ_ _=>rfl))))),?_⟩
  refine bQ λR1 hR1=>?_;refine cA ⟨_,rfl,p,x,y,rfl,hp,y0,b_y,λr1 a1 fa fr=>⟨r1,_,1,_,rfl,rfl,bG,dj,?_⟩⟩;have S1:Same H (upd (upd H a1 (.tup [.int (x%y),.int y])) r1 (.tup [.int (x/y),.ref a1])):=(Same.upd fa).trans (Same.upd fr);have h2:=Same.upd fr (o:=.tup [.int (x/y),.ref a1]) _ _ (bG (H:=H) (a:=a1) (o:=.tup [.int (x%y),.int y]));generalize upd (upd H a1 (.tup [.int (x%y),.int y])) r1 (.tup [.int (x/y),.ref a1])=H1 at S1 h2 ⊢;subst hR1;dsimp only[cB,L2.start,List.set_cons_succ,List.set_cons_zero];obtain⟨ys,e1,e2,e3⟩:=(ed.same S1).ex;have few:=dE.few;have m0:=Z3 x (Int.ne_of_gt y0);have m1:=YY x y0;refine fG (oK ⟨_,rfl,l,ys,rfl,e1,by rw[e2];exact aM few (by decide),λD1 f1=>⟨rbJ D1 cs (vl (x%y,y)) H1,⟨Same.upd f1,bG,.inl ⟨rfl,λj hj=>?_⟩⟩,?_,?_⟩⟩)
  .have:j=0:=by exact Nat.eq_zero_of_le_zero hj
   subst this;show(0:Rat)<=_;unfold vl;rw[n_ (Rat.intCast_pos.mpr y0),Rat.zero_mul];exact Rat.intCast_nonneg.mpr m0
  .rintro k x' ys' Hc hk ⟨S2,h3,js⟩ hy hlc;have lk:k<cs.length:=by rw[<- e2];exact(ao.mp hk).1
   have ek:=aj lk;obtain⟨tt,a,g,x1,x2,x3,x4,x5,x6,x7⟩:=e3 k _ ek;rw[hk]at x1;cases x1;intro pre hpre;obtain⟨u,v,rfl⟩:=O5 hpre;refine⟨tt,_,rfl,S2 _ _ x2,rfl,_,_,rfl,_,_,rfl,rfl,[_,_],rfl,rfl,?_⟩;refine⟨_,rfl,_,rfl,a1,a,x%y,y,g.1,g.2,rfl,.of (S2 _ _ h2),.of (S2 _ _ x3),Y3 (by lia) b_y,b_y,x5,x6,?_⟩;have iff:decide (x%y*g.2<g.1*y)=true↔vl (x%y,y)<rA cs (k+1):=by
    rw[<- x7,decide_eq_true_iff];unfold vl;have p1:(0:Rat)<(y:Rat):=Rat.intCast_pos.mpr y0;have p2:(0:Rat)<(g.2:Rat):=Rat.intCast_pos.mpr x4;have e:(g.1:Rat)/(g.2:Rat)*(y:Rat)=((g.1:Rat)*(y:Rat))/(g.2:Rat):=by grind
    rw[Rat.div_lt_iff p1,e,Rat.lt_div_iff p2,<- XU,<- XU,Rat.intCast_lt_intCast]
   refine⟨decide (x%y*g.2<g.1*y),rfl,?_⟩;by_cases z:vl (x%y,y)<rA cs (k+1)
   .rw[iff.mpr z];refine⟨_,rfl,h3,hlc,λb o e=>(bL (bH e f1)).trans (S2 _ _ e),bG,.inr ?_⟩;rcases js with⟨rfl,al⟩|⟨r,zs,rfl,ld⟩
    .exact⟨_,[],rfl,k,_,ek,rfl,z,al⟩
    .exact⟨r,zs++[_],rfl,ld⟩
   .rw[Bool.eq_false_iff.mpr λw=>z (iff.mp w)];refine⟨hlc,S2,h3,?_⟩;rcases js with⟨rfl,al⟩|js
    .refine .inl ⟨rfl,λj hj=>?_⟩;by_cases e:j<=k
     .exact al j e
     .have:j=k+1:=by lia
      subst this;exact Rat.not_lt.mp z
    .exact .inr js
  .rintro ys' Hc ⟨S2,h3,js⟩ hy;rcases js with⟨rfl,al⟩|⟨r,zs,rfl,ld⟩
   .exfalso;have:=al _ (aF _);rw[e2,dE.one]at this;unfold vl at this;rw[n_ (Rat.intCast_pos.mpr y0),Rat.one_mul,Rat.intCast_le_intCast]at this;lia
   .exact⟨D1,_,0,_,rfl,rfl,h3,fZ,q r Hc (S1.trans S2) ld⟩
noncomputable def sV(s:Rat):Ψ->Rat
 |[]=>0
 |f::fs=>vl f+s*sV s fs
noncomputable def kh(s:Ι):List Int->Int×Int
 |[]=>(0,1)
 |t::ts=>(t*((kh s ts).2*s.2)+(kh s ts).1*s.1,(kh s ts).2*s.2)
theorem Ao{s:Ι}(s2:0<s.2):∀{ts:List Int},0<(kh s ts).2
 |[]=>(by decide:(0:Int)<1)
 |_::_=>XZ (Ao s2) s2
theorem Ik{s:Ι}(s2:0<s.2)(s1:s.2<=100):∀{ts:List Int},(kh s ts).2.natAbs<=100^ts.length
 |[]=>(by decide:(1:Int).natAbs<=100^0)
 |_::ts=>by
  show((kh s ts).2*s.2).natAbs<=100^(ts.length+1);rw[Int.natAbs_mul,Nat.pow_succ];exact Nat.mul_le_mul (Ik s2 s1) (by omega)
theorem TQ{s:Ι}{B:Nat}(s0:0<=s.1)(s3:s.1<=s.2)(s2:0<s.2)(s1:s.2<=100):∀{ts:List Int},(∀t∈ts,t.natAbs<=B)->(kh s ts).1.natAbs<=ts.length*B*100^ts.length
 |[],_=>by show(0:Int).natAbs<=_;exact bh _
 |t::ts,h=>by
  have ih:=TQ s0 s3 s2 s1 (ts:=ts) λu hu=>h u (aH _ hu);have bb:=Ik s2 s1 (ts:=ts);show(t*((kh s ts).2*s.2)+(kh s ts).1*s.1).natAbs<=(ts.length+1)*B*100^(ts.length+1);refine aM (Int.natAbs_add_le _ _) ?_;rw[Int.natAbs_mul,Int.natAbs_mul,Int.natAbs_mul,Nat.pow_succ];have a1:=Nat.mul_le_mul (h t aO) (Nat.mul_le_mul bb (show s.2.natAbs<=100 by lia));have a2:=Nat.mul_le_mul ih (show s.1.natAbs<=100 by lia);refine aM (Nat.add_le_add a1 a2) (Nat.le_of_eq ?_);rw[Nat.succ_mul,Nat.add_mul,Nat.mul_assoc,Nat.add_comm]
theorem O2{s:Ι}{W:Rat}(s2:0<s.2):∀{ts:List Int}{fs:Ψ},ts.length=fs.length->(∀(i:Nat)t f,ts[i]?=some t->fs[i]?=some f->(t:Rat)=W*vl f)->vl (kh s ts)=W*sV (vl s) fs
 |[],[],_,_=>by
  show vl (0,1)=W*0;rw[oE 0,Rat.intCast_zero]
  grind
 |t::ts,f::fs,h,g=>by
  have ih:=O2 s2 (ts:=ts) (fs:=fs) (by simpa using h) λi u v a b=>g (i+1) u v (by simpa using a) (by simpa using b);have g0:=g 0 t f rfl rfl;have p:=Ao s2 (ts:=ts);have n1:=cI p;have n2:=cI s2;show vl (t*((kh s ts).2*s.2)+(kh s ts).1*s.1,(kh s ts).2*s.2)=W*(vl f+vl s*sV (vl s) fs);have e:vl (t*((kh s ts).2*s.2)+(kh s ts).1*s.1,(kh s ts).2*s.2)=(t:Rat)+vl (kh s ts)*vl s:=by
   show((t*((kh s ts).2*s.2)+(kh s ts).1*s.1:Int):Rat)/(((kh s ts).2*s.2:Int):Rat)=(t:Rat)+((kh s ts).1:Rat)/((kh s ts).2:Rat)*((s.1:Rat)/(s.2:Rat));rw[Rat.intCast_add,XU,XU,XU]
   grind
  rw[e,ih,g0]
  grind
noncomputable def N5(K:Frag):Sp:=λvs H Q _=>∃(p l:Addr)(s:Ι)(xs:Μ)(fs:Ψ),vs=[.ref p,.ref l]/\H p=some (.tup [.int s.1,.int s.2])/\0<=s.1/\s.1<=s.2/\0<s.2/\s.2<=100/\H l=some (.lst xs)/\FLK K H xs fs/\(∀f∈fs,Fq f)/\fs.length<=41 /\
 ∀r z o H',Same H H'->H r=none->H' r=some (.tup [.int z,.int o])->0<o->Int.gcd z o=1->vl (z,o)=sV (vl s) fs->Q (.ref r) H'
noncomputable def pdJ(p l t a:Addr)(s:Ι)(ts:List Int)(H:Hp)(k:Nat)(σ:L2.St)(H':Hp):Prop:=∃u:Option V,σ=[some (.ref p),some (.ref l),some (.ref t),some (.int (kh s (ts.drop (ts.length-k))).1),some (.int (kh s (ts.drop (ts.length-k))).2),u]/\H'=H
theorem Du(F:Fun K lV lV qp f fd)(T:Txt K mg D)(mH:OkF P w K mg base 2 gW iZ (ql K))(gR:OkF P w K mg base 2 iR iY jc):cC P w K mg base CX0 3 f fd lR (N5 K):=by
 refine F.ok fj ?_ ?_
 .rintro _ _ _ _ ⟨p,l,s,xs,fs,rfl,_⟩;rfl
 .rintro cdv A outer s H _ Q E hr ⟨p,l,sh,xs,fs,rfl,hp,s0,s1,s2,s3,hl,fl,fq,f41,q⟩;refine⟨_,(bK (bZ (i:=2) fj.nd rfl (Or.inl rfl) (bO mH hr.md (by rfl) (bD (pv 1) bF)))
   (bK (bZ (i:=3) fj.nd rfl (Or.inl rfl) bI)
   (bK (bZ (i:=4) fj.nd rfl (Or.inl rfl) bI)
   (bK (fD PassesOwn.never rfl (Zq (by rfl) T.K8 (bD (bU cg (pv 2) bI (λ_ _=>rfl)) bF).mono) (cH (i:=5) fj.nd rfl (Or.inl rfl))
    (bK (bZ (i:=4) fj.nd rfl (Or.inl rfl) (bY cL (pv 4) (bU cg (pv 0) bI (λ_ _=>rfl))))
    (bN (bZ (i:=3) fj.nd rfl (Or.inl rfl) (bY dW (bY cL (pv 5) (pv 4)) (bY cL (pv 3) (bU cg (pv 0) bI (λ_ _=>rfl))))))))
   (bN (cD (bO gR hr.md (by rfl) (bD (pv 3) (bD (bY cL (pv 4) (bU cg (pv 2) bI (λ_ _=>rfl))) bF))))))))),?_⟩
  refine bQ λR1 hR1=>?_;refine cA ⟨_,rfl,l,xs,fs,rfl,hl,fl,fq,f41,λD2 p2 f2 g2=>?_⟩;have S2:Same H (upd (upd H D2 (.lst ((lvT fs).map V.int))) p2 (.tup [.ref D2,.int (lvB fs:Nat)])):=(Same.upd f2).trans (Same.upd g2);have k1:=Same.upd g2 (o:=.tup [.ref D2,.int (lvB fs:Nat)]) _ _ (bG (H:=H) (a:=D2) (o:=.lst ((lvT fs).map V.int)));have k2:upd (upd H D2 (.lst ((lvT fs).map V.int))) p2 (.tup [.ref D2,.int (lvB fs:Nat)]) p2=_:=bG;generalize upd (upd H D2 (.lst ((lvT fs).map V.int))) p2 (.tup [.ref D2,.int (lvB fs:Nat)])=H2 at S2 k1 k2 ⊢;subst hR1;dsimp only[cB,L2.start,List.set_cons_succ,List.set_cons_zero];refine bQ λR1 hR1=>?_;refine cA ?_;subst hR1;dsimp only[cB,List.set_cons_succ,List.set_cons_zero];refine bQ λR1 hR1=>?_;refine cA ?_;subst hR1;dsimp only[cB,List.set_cons_succ,List.set_cons_zero];refine bQ λR1 hR1=>?_;have lT:(lvT fs).length=fs.length:=by unfold lvT;rw[ak]
  have hT:∀t∈lvT fs,t.natAbs<=10^40*(10^40)^41:=λt ht=>by
   obtain⟨f,hf,rfl⟩:=YV.mp ht;exact Y9 fq f41 hf
  have bB:∀{t:Int},t.natAbs<=10^40*(10^40)^41->Bd t:=λh=>Y3 h (by decide +kernel);have Gn:Bd ((lvB fs:Nat):Int):=by
   unfold Bd;rw[XG];exact Y3 (Af fq f41) (by decide +kernel)
  have bd:∀n,Bd (kh sh ((lvT fs).drop n)).1/\Bd (kh sh ((lvT fs).drop n)).2:=λn=>by
   have l41:((lvT fs).drop n).length<=41:=by rw[List.length_drop,lT];exact aM (Nat.sub_le _ _) f41
   have c2:100^((lvT fs).drop n).length<=100^41:=XT (by decide) l41;exact⟨Y3 (aM (TQ s0 s1 s2 s3 λt ht=>hT t (List.mem_of_mem_drop ht)) (Nat.mul_le_mul (Nat.mul_le_mul_right _ l41) c2)) (by decide +kernel),Y3 (aM (Ik s2 s3) c2) (by decide +kernel)⟩
  refine cZ (Qk ⟨_,rfl,p2,_,0,_,rfl,rfl,k2,fZ,D2,_,rfl,k1,pdJ p l p2 D2 sh (lvT fs) H2,⟨none,?_,rfl⟩,?_,?_⟩)
  .rw[Nat.sub_zero,List.drop_length];rfl
  .rintro k x σ' H' hx hk ⟨u,rfl,rfl⟩ hD;rw[ak]at hx hk;rw[show(lvT fs).length-1-k=(lvT fs).length-(k+1)by lia]at hx;have lt:(lvT fs).length-(k+1)<(lvT fs).length:=by omega
   rw[aq,aj lt]at hx;cases hx;have ed:=List.drop_eq_getElem_cons lt;rw[show(lvT fs).length-(k+1)+1=(lvT fs).length-k by lia]at ed;have bt:=hT _ (aV lt);have b1:=bd ((lvT fs).length-k);have b2:=bd ((lvT fs).length-(k+1));rw[ed]at b2;refine cA ⟨_,rfl,_,rfl,p,_,1,_,rfl,rfl,S2 _ _ hp,dj,_,_,rfl,rfl,⟨b1.2,Bd.sm (by omega)⟩,?_⟩;dsimp only[cB,List.set_cons_succ,List.set_cons_zero];refine⟨_,rfl,_,rfl,_,_,rfl,rfl,⟨bB bt,b2.2⟩,_,rfl,_,rfl,p,_,0,_,rfl,rfl,S2 _ _ hp,fZ,_,_,rfl,rfl,⟨b1.1,Bd.sm (by lia)⟩,_,_,rfl,rfl,hD,some (.int (lvT fs)[(lvT fs).length-(k+1)]),?_,rfl⟩;dsimp only[cB,List.set_cons_succ,List.set_cons_zero];rw[ed]
   rfl
  .rintro σ' H' ⟨u,rfl,rfl⟩ hD;subst hR1;dsimp only;rw[ak,Nat.sub_self,List.drop_zero];have b0:=bd 0;rw[List.drop_zero]at b0;have W0:=wu fq;have p0:=Ao s2 (ts:=lvT fs);have bw:((kh sh (lvT fs)).2*((lvB fs:Nat):Int)).natAbs<2^8000:=by
    rw[Int.natAbs_mul,XG];have c1:=Ik s2 s3 (ts:=lvT fs);have c2:100^(lvT fs).length<=100^41:=XT (by decide) (by rw[lT];exact f41);exact Y3 (Nat.mul_le_mul (aM c1 c2) (Af fq f41)) (by decide +kernel)
   have pw:=XZ p0 (show(0:Int)<(lvB fs:Nat)by lia);refine fG ⟨_,rfl,_,rfl,_,rfl,p2,_,1,_,rfl,rfl,k2,dj,_,_,rfl,rfl,⟨b0.2,Gn⟩,_,_,rfl,Int.ne_of_gt pw,bw,λr z o lw hr=>?_⟩;refine q r z o _ (S2.trans (Same.upd hr)) (S2.free hr) bG lw.pos lw.gcd ?_;rw[lw.vl pw];have v:=O2 (W:=(((lvB fs:Nat):Int):Rat)) s2 (ts:=lvT fs) (fs:=fs) lT λi t f a b=>?_
   .have n1:=cI p0;have n2:=cI (show(0:Int)<(lvB fs:Nat)by lia);unfold vl at v ⊢;rw[XU];generalize sV _ fs=y at *
    grind
   .unfold lvT at a;rw[aq,b]at a;have a:f.1*(((lvB fs:Nat):Int)/f.2)=t:=Option.some.inj a;have m:=aB b;have d:=Int.mul_ediv_cancel' (HJ m (fq f m));have n1:=cI (fq f m).pos;rw[<- a,XU];have e:(((lvB fs:Nat):Int):Rat)=(f.2:Rat)*(((((lvB fs:Nat):Int)/f.2:Int)):Rat):=by rw[<- XU,d]
    rw[e];unfold vl;generalize(((((lvB fs:Nat):Int)/f.2:Int)):Rat)=y
    grind
inductive Run(cs:List (Option FC))(st:Nat):List Rat->List Nat->Nat->Prop
 |nil:Run cs st [] [] st
 |snoc {qs:List Rat}{vs:List Nat}{r r':Nat}{q:Rat}{fc:FC} : Run cs st qs vs r->cs[r]?=some (some fc)->oO fc.2 q r'->Run cs st (qs++[q]) (vs++[r]) r'
noncomputable def uW(cs:List (Option FC))(r:Nat):Int×Int:=((cs.getD r none).map (·.1)).getD (0,1)
structure mW(H:Hp)(ys:Μ)(vs:List Nat)(pl:List (Option Nat))(cs:List (Option FC)):Prop where
 len:ys.length=vs.length
 at_:∀(i:Nat)r,vs[i]?=some r->∃(t a:Addr)(j:Nat)(fc:FC),ys[i]?=some (.ref t)/\H t=some (.tup [.int (r:Nat),.int (j:Nat),.ref a])/\pl[r]?=some (some j)/\cs[r]?=some (some fc)/\H a=some (.tup [.int fc.1.1,.int fc.1.2])
theorem mW.imp{H H':Hp}{ys:Μ}{vs:List Nat}{pl:List (Option Nat)}{cs:List (Option FC)}(h:mW H ys vs pl cs)(T:∀p us,H p=some (.tup us)->H' p=some (.tup us)):mW H' ys vs pl cs:=⟨h.len,λi r e=>by
 obtain⟨t,a,j,fc,x1,x2,x3,x4,x5⟩:=h.at_ i r e;exact⟨t,a,j,fc,x1,T _ _ x2,x3,x4,T _ _ x5⟩⟩
theorem mW.snoc{H:Hp}{ys:Μ}{vs:List Nat}{pl:List (Option Nat)}{cs:List (Option FC)}(h:mW H ys vs pl cs){t a:Addr}{r j:Nat}{fc:FC}(h1:H t=some (.tup [.int (r:Nat),.int (j:Nat),.ref a]))(h2:pl[r]?=some (some j))(h3:cs[r]?=some (some fc))(h4:H a=some (.tup [.int fc.1.1,.int fc.1.2])):mW H (ys++[.ref t]) (vs++[r]) pl cs:=by
 have l:=h.len;refine⟨by rw[aA,aA,l];rfl,λi r' e=>?_⟩;rcases d_ e with⟨a1,a2⟩|⟨a1,a2⟩
 .obtain⟨t',a',j',fc',x1,x2⟩:=h.at_ i r' a2;exact⟨t',a',j',fc',by rw[aD (by lia)];exact x1,x2⟩
 .subst a2;exact⟨t,a,j,fc,by rw[aC (by lia),show i-ys.length=0 by lia];rfl,h1,h2,h3,h4⟩
noncomputable def jh(H:Hp)(xs:Μ)(ns:Ψ):Prop:=xs.length=ns.length/\∀(i:Nat)f,ns[i]?=some f->∃a,xs[i]?=some (.ref a)/\H a=some (.tup [.int f.1,.int f.2])/\0<f.2/\Bd f.2
noncomputable def C_(f:Ι):Rat:=vl (f.1%f.2,f.2)
structure Ran(H:Hp)(t:Addr)(s:Ι)(cs:List (Option FC))(pl:List (Option Nat))(st:Nat)(ns:Ψ):Prop where
 ex:∃(ls pd:Addr)(ys:Μ)(vs:List Nat)(z o:Int)(e k:Nat),H t=some (.tup [.ref ls,.ref pd,.int (e:Nat)])/\H ls=some (.lst ys)/\mW H ys vs pl cs/\H pd=some (.tup [.int z,.int o])/\0<o/\Int.gcd z o=1/\vl (z,o)=sV (vl s) (vs.map (uW cs))/\k<=ns.length/\Run cs st ((ns.map C_).take k) vs e/\(k=ns.length\/cs[e]?=some none)
noncomputable def Yp(s:Ι)(fcss:List (List FC)):Prop:=0<=s.1/\s.1<=s.2/\0<s.2/\s.2<=100/\∀fcs∈fcss,∀fc∈fcs,Fq fc.1/\∃M,Pg fcss.length M fc.2
theorem Xy{H:Hp}{xs:Μ}{fs:Ψ}(h:xT (λv f=>∃a,v=V.ref a/\SqT K H a [.int f.1,.int f.2]) xs fs):FLK K H xs fs:=FLK.of h.len λj f e=>by
 have lj:j<xs.length:=by rw[h.len];exact(ao.mp e).1
 obtain⟨a,b,c⟩:=h.at_ j _ f (aj lj) e;exact⟨a,by rw[aj lj,b],c⟩
noncomputable def Wm(rms:List (Str×List Dr))(pl:List (Option Nat)):Prop:=pl.length=rms.length/\∀k x,(pl.map stV)[k]?=some x->Gm x (dnR rms k)=true
theorem J2{o p l:Addr}{rms:List (Str×List Dr)}{pl:List (Option Nat)}{H:Hp}{Q:VK}{E:XK}(hh:ji D H o p rms)(few:xH rms)(hl:H l=some (.lst (pl.map stV)))(h:Wm rms pl)(q:∀H',Same H H'->Q (.bl true) H'):zE D [.ref o,.ref l] H Q E:=by
 refine⟨o,p,l,rms,_,rfl,hh,few,hl,by rw[ak];exact h.1,λk x e=>⟨?_,h.2 k x e⟩,q⟩;obtain⟨c,_,rfl⟩:=YV.mp (aB e);cases c<;>exact⟨_,rfl⟩
noncomputable def Uk(K:Frag)(D:Adr):Sp:=λvs H Q _=>∃(o p l ln:Addr)(rms:List (Str×List Dr))(s:Ι)(fcss:List (List FC))(pl:List (Option Nat))(st:Nat)(xs:Μ)(ns:Ψ),vs=[.ref o,.ref l,.int (st:Nat),.ref ln]/\ji D H o p rms/\xH rms/\Wm rms pl/\st<rms.length/\H l=some (.lst (pl.map stV))/\L_ fcss pl/\vI K D H o s fcss/\H p=some (.tup [.int s.1,.int s.2])/\Yp s fcss/\st<fcss.length/\H ln=some (.lst xs)/\jh H xs ns/\ns.length<=40 /\
  ∀t H',Same H H'->H t=none->Ran H' t s (pick fcss pl) pl st ns->Q (.ref t) H'
theorem Qm(F:Fun K tK tK rY f fd)(T:Txt K mg D)(mY:OkF P w K mg base 4 i_ iT (zE D))(dR:OkI P w K mg base CX0 2 D.Hall_check_room dY (lB D))(fX:OkF P w K mg base 4 gF gG (Mg K D))(uO:OkF P w K mg base 4 oF oM (Kg K))(oW:OkF P w K mg base 2 jT jR yO)(qz:OkF P w K mg base 3 lV lR (N5 K)):cC P w K mg base CX0 5 f fd tH (Uk K D):=by
 refine F.ok j_ ?_ ?_
 .rintro _ _ _ _ ⟨o,p,l,ln,rms,s,fcss,pl,st,xs,ns,rfl,_⟩;rfl
 .rintro cdv A outer s H _ Q E hr ⟨o,p,l,ln,rms,sh,fcss,pl,st,xs,ns,rfl,hh,few,fr,str,hl,ft,hn,hp,⟨s0,s1,s2,s3,dE⟩,stn,hln,na,n40,q⟩;obtain⟨dx,nn,ll,zs0,ho,_,_,_⟩:=id hh;refine⟨_,(bK (cY (bO mY hr.md (by rfl) (bD (pv 0) (bD (pv 1) bF))))
   (bK (cY (PE.any λC(hC:cQ D C)=>(wO (pv 0) (T.cl C hC.fam) (T.nC C hC) dR hr.md (bD (pv 2) bF))))
   (bK (bZ (i:=4) j_.nd rfl (Or.inl rfl) (bO fX hr.md (by rfl) (bD (pv 0) (bD (pv 1) bF))))
   (bK (Ni (bM rY) rR rR ["offer"] (dD ((pv 4)).mono) (fQ (i:=0)) eU (wM (cX yd (pv 0) nY (cV _)) nY (bO uO hr.md (by rfl) (bD (pv 0) bF))) (cH (i:=5) j_.nd rfl (Or.inl rfl)))
   (bK (bZ (i:=6) j_.nd rfl (Or.inl rfl) (jz bF))
   (bK (bZ (i:=7) j_.nd rfl (Or.inl rfl) (pv 2))
   (bK (fD PassesOwn.never rfl (dD ((pv 3)).mono) (cH (i:=8) j_.nd rfl (Or.inl rfl))
    (bK (eF (cX yd (bU cu (pv 4) (pv 7) (λ_ _=>rfl)) nY (cV _))
     (bN Vy)
     cN)
    (bK (cY (kY (pv 6) (bD (iz (bD (pv 7) (bD (bU cu (pv 1) (pv 7) (λ_ _=>rfl)) (bD (bU cg (bU cu (pv 4) (pv 7) (λ_ _=>rfl)) bI (λ_ _=>rfl)) bF)))) bF)))
    (bN (bZ (i:=7) j_.nd rfl (Or.inl rfl) (bO oW hr.md (by rfl) (bD (bU cu (pv 5) (pv 7) (λ_ _=>rfl)) (bD (pv 8) bF))))))))
   (bN (cD (iz (bD (pv 6) (bD (bO qz hr.md (by rfl) (bD (o_ (pv 0) rfl) (bD (n6 (bM rY) rR rR ["step"] (dD ((pv 6)).mono) (fQ (i:=0)) eU (bU cg (pv 0) bI (λ_ _=>rfl))) bF))) (bD (pv 7) bF))))))))))))),?_⟩
  refine bQ λR1 hR1=>?_;refine cZ ⟨_,rfl,_,rfl,?_⟩;dsimp only[Ei];refine J2 hh few hl fr λH1 S1=>?_;subst hR1;refine bQ λR1 hR1=>?_;refine cZ ?_;refine⟨D.Hall,(by unfold cQ;simp),_,rfl,o,dx,_,rfl,S1 _ _ ho,rfl,_,rfl,o,p,st,rms,rfl,hh.same S1,str,?_⟩;have cl:=pY ft;have n12:=hn.n12;show R1 _ _ _;subst hR1;refine bQ λR1 hR1=>?_;refine cA ⟨_,rfl,_,rfl,o,l,sh,fcss,pl,rfl,hn.same S1,S1 _ _ hl,ft,λlc zs H2 S2 f2 h2 ch=>?_⟩;have S02:=S1.trans S2;have zl:=ch.len;subst hR1;dsimp only[cB,L2.start,List.set_cons_succ,List.set_cons_zero];refine bQ λR1 hR1=>?_;refine cA (qe (λH v c=>(c=none/\v=V.non)\/∃le fc,c=some fc/\v=V.ref le/\sI H le fc.2) (pick fcss pl) (λS z=>?_) rfl h2 zl (by rw[cl];exact aM n12 (by decide)) (λk x c Hc D1 ys R' hx hc Sc h1 r'=>?_) λle H3 ys S3 f3 h3 al=>?_)
  .rcases z with z|⟨a,fc,x1,x2,x3⟩
   .exact .inl z
   .exact .inr ⟨a,fc,x1,x2,x3.same S⟩
  .rcases ch.at_ k c hc with⟨rfl,ez⟩|⟨tt,fc,rfl,ez,of,_⟩
   .rw[hx]at ez;cases ez;exact⟨_,rfl,rfl,true,rfl,r' _ Hc (λ_ _ z=>z) (.inl ⟨rfl,rfl⟩)⟩
   .rw[hx]at ez;cases ez;obtain⟨fcs,m1,m2⟩:=nA (aB hc);obtain⟨_,M,dM⟩:=dE fcs m1 fc m2;refine⟨_,rfl,rfl,false,ZH V.bl (Zp (by intro z;cases z)),_,rfl,tt,fc.1,fc.2,_,M,rfl,of.same Sc,dM,λle' H' S' f' ed=>r' _ H' S' (.inr ⟨le',fc,rfl,rfl,?_⟩)⟩;obtain⟨us,u1,u2,u3⟩:=ed.ex;have nD:∀{b:Addr},b≠D1->b∉[D1]:=λn z=>n (YR.mp z);have hD:=S' _ _ h1;refine⟨us,cW (nD (bH h1 f').symm) u1,u2,λi d e=>?_⟩;obtain⟨t5,a5,g5,y1,y2,y3,y4⟩:=u3 i d e;exact⟨t5,a5,g5,y1,cW (nD (fH y2 hD (by intro z;cases z))) y2,cW (nD (fH y3 hD (by intro z;cases z))) y3,y4⟩
  have S03:=S02.trans S3;have al:xT (λ(v:V)(c:Option FC)=>(c=none/\v=V.non)\/∃le fc,c=some fc/\v=V.ref le/\sI H3 le fc.2) ys (pick fcss pl):=al.imp λv c z=>by
   rcases z with z|⟨a,fc,x1,x2,x3⟩
   .exact .inl z
   .exact .inr ⟨a,fc,x1,x2,x3.same jK⟩
  have ch:=ch.same S3;have h2:=S3 _ _ h2;subst hR1;dsimp only[cB,List.set_cons_succ,List.set_cons_zero];refine bQ λR1 hR1=>?_;refine cA ⟨bh _,λls H4 S4 f4 h4=>?_⟩;subst hR1;dsimp only[cB,List.set_cons_succ,List.set_cons_zero];refine bQ λR1 hR1=>?_;refine cA ⟨_,rfl,?_⟩;subst hR1;dsimp only[cB,List.set_cons_succ,List.set_cons_zero];refine bQ λR1 hR1=>?_;have fq:∀fc,some fc∈pick fcss pl->Fq fc.1:=λfc hf=>by
   obtain⟨fcs,m1,m2⟩:=nA hf;exact(dE fcs m1 fc m2).1
  have fin:∀(u8:Option V)(zs:Μ)(vs:List Nat)(r k:Nat)H9,Same H3 H9->H9 ls=some (.lst zs)->mW H9 zs vs pl (pick fcss pl)->Run (pick fcss pl) st ((ns.map C_).take k) vs r->vs.length<=k->k<=ns.length->(k=ns.length\/(pick fcss pl)[r]?=some none)->R1 { nx:=λx H'=>Q V.non H',rt:=Q } [some (.ref o),some (.ref l),some (.int (st:Nat)),some (.ref ln),some (.ref lc),some (.ref le),some (.ref ls),some (.int (r:Nat)),u8] H9:=λu8 zs vs r k H9 S9 h9 sa rn' vk kn ke=>by
   subst hR1;have SH:=S03.trans S9;have pr:∀(i:Nat)v,vs[i]?=some v->∃fc,(pick fcss pl)[v]?=some (some fc)/\uW (pick fcss pl) v=fc.1:=λi v e=>by
    obtain⟨t,a,j,fc,_,_,_,x4,_⟩:=sa.at_ i v e;refine⟨fc,x4,?_⟩;unfold uW;rw[au,x4];rfl
   refine fG ⟨_,rfl,_,rfl,o,D.Hall,dx,_,_,rfl,SH _ _ ho,T.p8,T.pJ,rfl,?_⟩;refine qe (λH v f=>∃a,v=V.ref a/\SqT K H a [.int f.1,.int f.2]) (vs.map (uW (pick fcss pl))) (λS z=>?_) rfl h9 (by rw[ak];exact sa.len) (by rw[ak];exact aM vk (aM kn (aM n40 (by decide)))) (λi x t Hc D1 ys' R' hx ht Sc h1 r'=>?_) λlp H5 ys' S5 f5 h5 al'=>?_
   .obtain⟨a,e,h⟩:=z;exact⟨a,e,S.tup h⟩
   .rw[aq]at ht;cases ev:vs[i]? with
    |none=>rw[ev]at ht;cases ht
    |some v =>
     rw[ev]at ht;cases ht;obtain⟨t,a,j,fc,x1,x2,x3,x4,x5⟩:=sa.at_ i v ev;rw[hx]at x1;cases x1;obtain⟨fc',y1,y2⟩:=pr i v ev;rw[x4]at y1;cases y1;rw[y2]at r';exact⟨_,rfl,t,_,2,_,rfl,rfl,Sc _ _ x2,b_ (j:=2) rfl,r' _ Hc (λ_ _ z=>z) ⟨a,rfl,.of (cW (by
      simp only[YR];exact fH (Sc _ _ x5) h1 (by intro z;cases z)) (Sc _ _ x5))⟩⟩
   .have fl:FLK K H5 ys' (vs.map (uW (pick fcss pl))):=(Xy al').same jK;refine⟨p,lp,sh,ys',vs.map (uW (pick fcss pl)),rfl,S5 _ _ (SH _ _ hp),s0,s1,s2,s3,h5,fl,λg hg=>?_,by rw[ak];lia,λpd z o' H6 S6 f6 h6 o0 gc vv=>⟨_,rfl,(show 3<=sizeLine by decide),λt H7 S7 f7 h7=>?_⟩⟩
    .obtain⟨v,hv,rfl⟩:=YV.mp hg;obtain⟨i,ei⟩:=aW hv;obtain⟨fc,y1,y2⟩:=pr i v ei;rw[y2];exact fq fc (aB y1)
    .have S97:=S5.trans (S6.trans S7);exact q t H7 (SH.trans S97) (SH.free (S5.free (S6.free f7))) ⟨ls,pd,zs,vs,z,o',r,k,h7,S97 _ _ h9,sa.imp λp us e=>S97 _ _ e,S7 _ _ h6,o0,gc,vv,kn,rn',ke⟩
  refine cZ (gC ⟨_,rfl,ln,xs,rfl,(S03.trans S4) _ _ hln,λk σ H'=>∃(u8:Option V)(zs:Μ)(vs:List Nat)(r:Nat),σ=[some (.ref o),some (.ref l),some (.int (st:Nat)),some (.ref ln),some (.ref lc),some (.ref le),some (.ref ls),some (.int (r:Nat)),u8]/\Same H3 H'/\H' ls=some (.lst zs)/\mW H' zs vs pl (pick fcss pl)/\Run (pick fcss pl) st ((ns.map C_).take k) vs r/\vs.length<=k/\r<fcss.length,⟨none,[],[],st,rfl,S4,h4,⟨rfl,λi r e=>by simp at e⟩,.nil,aF _,stn⟩,?_,?_⟩)
  .rintro k x σ' H5 hx ⟨u8,zs',vs,r,rfl,S5,h5,sa,rn',vk,rl⟩ hln5;have lk:k<ns.length:=by rw[<- na.1];exact(ao.mp hx).1
   have en:=aj lk;obtain⟨an,x1,x2,x3,x4⟩:=na.2 k _ en;rw[hx]at x1;cases x1;have SH:=S03.trans S5;have lc':r<(pick fcss pl).length:=by rw[cl];exact rl
   have ec:=aj lc';have lo:=aj (show r<pl.length by rw[ft.1];exact rl);have lfc:=aj rl;have hz:=ch.at_ r _ ec;have pa:=HY ft lfc lo;dsimp only[cB,List.set_cons_succ,List.set_cons_zero];refine bQ λR2 hR2=>?_;have h2':=S5 _ _ h2;rcases hz with⟨e0,ez⟩|⟨tt,fc,e0,ez,of,_⟩
   .refine cZ (rC ⟨_,rfl,_,rfl,lc,zs,(r:Nat),_,rfl,rfl,h2',b_ (j:=r) ez,rfl,true,rfl,?_⟩);exact fin _ zs' vs r k H5 S5 h5 sa rn' vk (Y2 lk) (.inr (by rw[ec,e0]))
   .refine cZ (rC ⟨_,rfl,_,rfl,lc,zs,(r:Nat),_,rfl,rfl,h2',b_ (j:=r) ez,rfl,false,ZH V.bl (Zp (by intro z;cases z)),?_⟩);show R2 _ _ _;subst hR2;obtain⟨j,ej,ep⟩ : ∃j,pl[r]?=some (some j)/\(pick fcss pl)[r]?=some (some fc):=by
     have ep:(pick fcss pl)[r]?=some (some fc):=by rw[ec,e0]
     rcases pa with⟨_,z⟩|⟨j,fc',z1,_,z2⟩
     .rw[ep]at z;cases z
     .exact⟨j,by rw[lo,z1],ep⟩
    obtain⟨nm,pp,rr,us,o1,o2,_⟩:=of.ex;obtain⟨fcs,m1,m2⟩:=nA (aB ep);obtain⟨_,M,dM⟩:=dE fcs m1 fc m2;have ly:r<ys.length:=by rw[al.len,cl];exact rl
    obtain⟨le',hle⟩ : ∃le',ys[r]?=some (.ref le')/\sI H3 le' fc.2:=by
     have ey:=aj ly;rcases al.at_ r _ _ ey ep with⟨z,_⟩|⟨le',fc',z1,z2,z3⟩
     .cases z
     .cases z1;exact⟨le',by rw[ey,z2],z3⟩
    have z3:zs'.length=vs.length:=sa.len;refine cZ ⟨_,rfl,ls,zs',rfl,h5,_,rfl,_,rfl,_,rfl,l,_,(r:Nat),_,rfl,rfl,SH _ _ hl,b_ (j:=r) (by rw[aq,ej];rfl),_,rfl,_,rfl,lc,zs,(r:Nat),_,rfl,rfl,h2',b_ (j:=r) ez,tt,_,1,_,rfl,rfl,S5 _ _ o1,dj,(show 3<=sizeLine by decide),λt6 H6 S6 f6 h6=>⟨_,_,rfl,S6 _ _ h5,aU (show zs'.length<64 by lia) (by decide),?_⟩⟩;have S36:=S5.trans S6;have h7:upd H6 ls (.lst (zs'++[.ref t6])) ls=_:=bG;have S7:=iy (o:=.lst (zs'++[.ref t6])) f4 S36;have nt:∀p us,H6 p=some (.tup us)->upd H6 ls (.lst (zs'++[.ref t6])) p=some (.tup us):=λp us e=>(bL (fH e (S6 _ _ h5) (by intro z;cases z))).trans e;have sa':=((sa.imp λp us e=>S6 _ _ e).snoc h6 ej ep (S36 _ _ o2)).imp nt;generalize upd H6 ls (.lst (zs'++[.ref t6]))=H7 at h7 S7 sa' ⊢;have S07:=S03.trans S7;dsimp only;refine yg ⟨_,rfl,_,rfl,le,ys,(r:Nat),_,rfl,rfl,S7 _ _ h3,b_ (j:=r) hle.1,_,rfl,le',an,_,_,fc.2,_,M,rfl,hle.2.same S7,dM,S07 _ _ x2,x3,x4,λr' H8 S8 ld=>?_⟩;have S38:=S7.trans S8;obtain⟨i,c,i1,i2,_⟩:=id ld;refine⟨S03.trans S38 _ _ hln,_,_,_,r',rfl,S38,S8 _ _ h7,sa'.imp λp us e=>S8 _ _ e,?_,by rw[aA];simp;omega,by rw[i2];exact(dM.ch c (aB i1)).1⟩;rw[cJ (show(ns.map C_)[k]?=some (C_ ns[k])by rw[aq,en];rfl)];exact .snoc rn' ep ld
  .rintro σ' H5 ⟨u8,zs',vs,r,rfl,S5,h5,sa,rn',vk,rl⟩ hln5;rw[na.1]at rn' vk;exact fin _ zs' vs r ns.length H5 S5 h5 sa rn' vk (aF _) (.inl rfl)
noncomputable def T7:Expr:=match dU gP with
 |[_,_,_,.Return (some (.Call _ [_,_,l] _ _)) _]=>l
 |_=>.Name "x" ⟨0,0,0,0⟩
noncomputable def Zb:Arguments:=match T7 with|.Lambda a _ _ _=>a|_=>fM gP
noncomputable def aam:Expr:=match T7 with|.Lambda _ b _ _=>b|_=>T7
noncomputable def Uj:Scope:=match T7 with|.Lambda _ _ c _=>c|_=>bM gP
noncomputable def lamP:Pos:=match T7 with|.Lambda _ _ _ p=>p|_=>⟨0,0,0,0⟩
noncomputable abbrev Qq:Str:=(fU ++ ".<locals>.") ++ "<lambda>"
noncomputable def CZ(K:Frag)(D:Adr)(frees:Μ):Sp:=λvs H Q E=>vs.length=1/\pR K D (frees++vs) H Q E
theorem Y8{k0:Nat}(j7:∀base,OkF P w K mg base 5 gJ gH (pR K D)){base':Heap}{frees:Μ}{f c c1 c2:Addr}{ctv pm:Value}(ho:base'.get? f=some (kla_obj "<lambda>" Qq Zb aam Uj [("hall",c2),("chosen",c1)] pm c ctv))(hc:base'.CodeRec (.ref c) Qq)(hs:tY base' Uj [("hall",c2),("chosen",c1)] frees):OkL P w K mg base' 6 f ["ahead"] (CZ K D frees):=by
 refine⟨_,_,Zj ho hc rfl rfl rfl (by decide +kernel) rfl (λy hy=>?_) hs (λvs H Q E h=>h.1) (λA outer s H v Q E hr h=>?_),.all (λus e=>?_),ho,rfl⟩
 .have:∀y∈Uj.names,y.2=.free->y.1 = "hall" \/ y.1 = "chosen" := by decide +kernel
  rcases this _ (PySem.mem_of_lookup hy) rfl with h|h
  .obtain rfl:y = "hall" := h;exact⟨c2,rfl⟩
  .obtain rfl:y = "chosen" := h;exact⟨c1,rfl⟩
 .obtain⟨_,h⟩:=h;cases hs with
  |@cons _ _ vm _ _ _ _ _ _ _ _ hs =>
   cases hs with
   |@cons _ _ vh _ _ _ _ _ _ _ _ hs =>
    cases hs;refine⟨_,bO (j7 base') hr.md (by rfl) (bD (pv 1) (bD (pv 2) (bD (pv 0) bF))),?_⟩;exact⟨_,rfl,_,rfl,_,rfl,h⟩
 .match us,e with
  |[_],_=>rfl
noncomputable def YF(u:HO):Prop:=(∃xs,u=.lst xs)\/(∃xs,u=.tup xs)\/∃o xs,u=.frz o (.tup xs)
noncomputable def Bk(H H':Hp):Prop:=∀b u,YF u->H b=some u->H' b=some u
theorem Sg{H H':Hp}{a:Addr}{xs:Μ}(h:SqT K H a xs)(S:Bk H H'):SqT K H' a xs:=by
 rcases h with(h|⟨o,h⟩)|h
 .exact .inl (.inl (S _ _ (.inr (.inl ⟨_,rfl⟩)) h))
 .exact .inl (.inr ⟨o,S _ _ (.inr (.inr ⟨_,_,rfl⟩)) h⟩)
 .exact .inr h
theorem zq.flat{H H':Hp}{t:Addr}{f:Ι}{cs:Θ}(h:zq K H t f cs)(S:Bk H H'):zq K H' t f cs:=by
 obtain⟨nm,p,r,ys,a,b,c,d,e⟩:=h.ex;have T:∀{b:Addr}{xs:Μ},H b=some (.tup xs)->H' b=some (.tup xs):=λz=>S _ _ (.inr (.inl ⟨_,rfl⟩)) z;refine⟨nm,p,r,ys,T a,T b,S _ _ (.inl ⟨_,rfl⟩) c,d,λk z ez=>?_⟩;obtain⟨tt,a2,x1,x2,x3⟩:=e k z ez;exact⟨tt,a2,x1,T x2,Sg x3 S⟩
theorem Chs.flat{n:Nat}{H H':Hp}{zs:Μ}{cs:List (Option FC)}(h:Chs K n H zs cs)(S:Bk H H'):Chs K n H' zs cs:=⟨h.len,λk c e=>by
 rcases h.at_ k c e with z|⟨t,fc,a1,a2,a3,a4⟩
 .exact .inl z
 .exact .inr ⟨t,fc,a1,a2,a3.flat S,a4⟩⟩
theorem Vl{Pt:Addr}{pos:Pos}{qual:Str}{H:Hp}{oc:Η}(h:yM Pt pos qual H oc):Bk H (wo (Pt::oc.toList) H):=λb u fu e=>by
 refine(rN λz=>?_).trans e;rcases YU.mp z with z|z
 .have:∃t,H Pt=some (.tbl t):=by
   cases oc with
   |none=>exact⟨_,h⟩
   |some c=>exact⟨_,h.1⟩
  obtain⟨t,ht⟩:=this;rw[z,ht]at e;cases e;rcases fu with⟨_,z⟩|⟨_,z⟩|⟨_,_,z⟩<;>cases z
 .cases oc with
  |none=>cases z
  |some c0 =>
   rw[YR.mp z,h.2]at e;cases e;rcases fu with⟨_,z⟩|⟨_,z⟩|⟨_,_,z⟩<;>cases z
noncomputable def uJ(K:Frag)(D:Adr):Sp:=λvs H Q _=>∃(o p lp:Addr)(rms:List (Str×List Dr))(many L:Nat)(s:Ι)(fcss:List (List FC))(pl:List (Option Nat))(oc:Η),vs=[.ref o,.ref lp,.int many]/\ji D H o p rms/\xH rms/\Wm rms pl/\many<=40/\H lp=some (.lst (pl.map stV))/\L_ fcss pl/\yM D.T_plan_rounds lamP Qq H oc/\vI K D (wo (D.T_plan_rounds::oc.toList) H) o s fcss/\Vk s fcss L/\L^many<=10^480 /\
   ∀t ls fss H' c,Same (wo (D.T_plan_rounds::oc.toList) H) (wo [D.T_plan_rounds,c] H')->yM D.T_plan_rounds lamP Qq H' (some c)->(∀c0,oc=some c0->c=c0)->H t=none->(∀l∈ls,H l=none)->t∉ls->H' t=some (.lst (ls.map V.ref))->Rds K (wo [D.T_plan_rounds,c] H') ls fss->fss.length=many+1->zM (qY s (pick fcss pl)) (List.replicate fcss.length (0,1)) L fss->Q (.ref t) H'
theorem Ci{f c0:Addr}{fd:FuncData}(F:Fun K fU fU gP f fd)(hc:fd.code=.ref c0)(hC:codeHdIn K c0 D.T_plan_rounds=true)(T:Txt K mg D)(hB:base.BuiltinsAt mg D.T_plan_rounds)(j7:∀base,OkF P w K mg base 5 gJ gH (pR K D))(DK:OkX P w K mg base 4 i_ iT (zE D))(o9:OkX P w K mg base 2 lW lu (Ou D))(fX:OkF P w K mg base 4 gF gG (Mg K D))(eV:OkI P w K mg base CX0 1 D.Hall_size iI (jX D)):cC P w K mg base (CXO P w) 8 f fd iu (uJ K D):=by
 obtain⟨fR,fdR,FR,bR,mR⟩:=T.yU;refine F.okXc hc rZ (λvs H Q E h=>?_) (λA outer s H vs Q E hr h=>?_)
 .obtain⟨o,p,lp,rms,many,L,s,fcss,pl,oc,rfl,_⟩:=h
  rfl
 .obtain⟨o,p,lp,rms,many,L,sh,fcss,pl,oc,rfl,hh,few,fr0,m40,hlp,fit,la,hn,hL,hm,q⟩:=h;refine⟨_,(bK (cY (jU DK hr.md (by rfl) lY (bD (L2.pv 0) (bD (L2.pv 1) bF))))
   (bK (cY (jU o9 hr.md (by rfl) lY (bD (L2.pv 2) bF)))
   (bK (bZ (i:=3) rZ.nd rfl (Or.inr rfl) (bO fX hr.md (by rfl) (bD (L2.pv 0) (bD (L2.pv 1) bF))))
   (bN (cD (Lq (Pt:=D.T_plan_rounds) (pos:=lamP) (qual:=Qq) (pm:=(mg "__name__").getD .none) (params:=Zb) (body:=aam) (scope:=Uj) (cl:=[("hall",s.heap.objs.size+1),("chosen",s.heap.objs.size+1+1)]) (js:=[0,3]) (spL:=CZ K D) (spR:=λfrees f=>CQ K (CZ K D frees) f) (by rfl) mR FR.kp (.all bR) hr.md (λbase' frees f V=>xW FR T V) (λbase' frees f c ctv ho hc hs=>Y8 (k0:=0) j7 ho hc hs) (by rfl) (λq hq=>by
     rcases YU.mp hq with rfl|hq
     .exact⟨rfl,rfl,rfl⟩
     .rw[YR.mp hq];exact⟨rfl,rfl,rfl⟩) (by simp;decide) (λq hq=>rfl)
    (bD (bY Zk (jz (bD (iW (by rfl) T.nF) bF)) (PE.any λC(hC:dH D C)=>(tD (L2.pv 0) (T.cl C hC.fam) (T.qT C hC) eV hr.md))) (bD (L2.pv 2) (bD (aak (params:=Zb) (body:=aam) (scope:=Uj) (pos:=lamP) hB rfl hC (by rfl)) bF))))))))),?_⟩
  refine bQ λR1 hR1=>?_;refine cZ ⟨_,rfl,_,rfl,?_⟩;dsimp only[Ei];refine J2 hh few hlp fr0 λH1 S1=>?_;subst hR1;refine bQ λR1 hR1=>?_;refine cZ ⟨_,rfl,.int many,rfl,⟨_,rfl⟩,λ_=>?_,λnm=>absurd ⟨by exact Wp _,by lia⟩ nm⟩;have z9:101<sizeLine:=by decide
  subst hR1;dsimp only;refine bQ λR1 hR1=>?_;refine cA ⟨_,rfl,_,rfl,o,lp,sh,fcss,pl,rfl,(hn.same tU).same S1,S1 _ _ hlp,fit,λlc zs H2 S12 f2 h2 ch=>?_⟩;have S2:=S1.trans S12;subst hR1;dsimp only[cB,L2.start,List.set_cons_succ,List.set_cons_zero];obtain⟨p',rms',hh',few',nd,hp,fcl,dn⟩:=hn.ex;have hh2:=(hh'.same tU).same S2;obtain⟨dx,nn,ll,zs0,ho,_,_,_⟩:=id hh2;have r20:=few'.len;have fr:(List.replicate rms'.length [V.ref D.NOUGHT]).flatten=List.replicate fcss.length (.ref D.NOUGHT):=by rw[<- fcl,List.flatten_replicate_singleton]
  refine fG ⟨Uc,λp1 Hn Sn fn hn1=>⟨D.Hall,(by unfold dH;simp),_,rfl,o,dx,_,rfl,Sn _ _ ho,rfl,o,p',rms',rfl,hh2.same Sn,p1,_,_,rfl,rfl,hn1,by lia,by lia,?_,λl0 g0=>?_⟩⟩
  .show 1*_<=_;lia
  rw[Int.toNat_natCast,fr];have S23:Same H2 (upd Hn l0 (.lst (List.replicate fcss.length (.ref D.NOUGHT)))):=Sn.trans (Same.upd g0);have k0:upd Hn l0 (.lst (List.replicate fcss.length (.ref D.NOUGHT))) l0=some (.lst (List.replicate fcss.length (.ref D.NOUGHT))):=bG;have fl0:H l0=none:=Same.free (S2.trans Sn) g0;generalize upd Hn l0 (.lst (List.replicate fcss.length (.ref D.NOUGHT)))=H3 at S23 k0 ⊢;have S2:=S2.trans S23;have ch:=ch.same S23;have h2:=S23 _ _ h2;have la3:yM D.T_plan_rounds lamP Qq H3 oc:=by
   cases oc with
   |none=>exact S2 _ _ la
   |some c=>exact⟨S2 _ _ la.1,S2 _ _ la.2⟩
  have fla:=Vl la3;refine⟨_,rfl,oc,la3,λf4 c H4 ff fc c1 c2 la4 hf eo=>⟨f4,c,[.ref o,.ref lc],hf,fc,la4,rfl,?_⟩⟩;have S3:Same (wo (D.T_plan_rounds::oc.toList) H3) (wo [D.T_plan_rounds,c,f4] H4):=λb u e=>by
   obtain⟨nb,e'⟩:=zO e;have n1:b≠D.T_plan_rounds:=λz=>nb (by rw[z];exact aO);have n2:b≠c:=λz=>by
    cases oc with
    |none=>rw[z,c1 rfl]at e';cases e'
    |some c0=>exact nb (by rw[z,c2 c0 rfl];simp)
   have n3:b≠f4:=λz=>by rw[z,ff]at e';cases e'
   rw[rN (by simp;exact⟨n1,n2,n3⟩),eo b n1 n2 n3];exact e'
  have S23:Same (wo (D.T_plan_rounds::oc.toList) H) (wo (D.T_plan_rounds::oc.toList) H3):=λb u e=>by
   obtain⟨nb,e'⟩:=zO e;rw[rN nb];exact S2 _ _ e'
  have SS:=S23.trans S3;have in3:∀{b:Addr}{xs:Μ},H3 b=some (.lst xs)->wo [D.T_plan_rounds,c,f4] H4 b=some (.lst xs):=λe=>S3 _ _ (fla _ _ (.inl ⟨_,rfl⟩) e);have flk:∀n,FLK K (wo [D.T_plan_rounds,c,f4] H4) (List.replicate n (.ref D.NOUGHT)) (List.replicate n (0,1)):=λn=>by
   induction n with
   |zero=>exact .nil
   |succ n ih=>exact .cons (T.kW _) ih
  have rl:(List.replicate fcss.length ((0,1):Ι)).length=fcss.length:=aN;have pl':=pY fit;refine⟨l0,many,L,List.replicate fcss.length (0,1),λH=>vI K D H o sh fcss/\H lc=some (.lst zs)/\Chs K fcss.length H zs (pick fcss pl),qY sh (pick fcss pl),_,rfl,m40,⟨hn.same SS,in3 h2,(ch.flat fla).same S3⟩,⟨λH H' S z=>⟨z.1.same S,S _ _ z.2.1,z.2.2.same S⟩,λk fs gs rok ln nx=>⟨nx.ok hL.s0 hL.s1 hL.s2 (λfc m=>by
    obtain⟨fcs,a,b⟩:=nA m;exact hL.d fcs a fc b) rok,by rw[nx.1,pl',rl]⟩⟩,λvs H Q E z=>?_,hL.L0,hm,by rw[rl];exact hn.n12,λf hf=>?_,in3 k0,flk _,λt ls fss H5 S5 ft new nt ht rd len ro H6 e6 la6 n1 n2 n3=>?_⟩
  .obtain⟨la',xs,fs,rfl,⟨i1,i2,i3⟩,hla,fl,rb,ln,q'⟩:=z;exact⟨rfl,o,lc,la',sh,zs,xs,fs,fcss,_,rfl,i1,i2,i3,pl',hla,fl,rb,by rw[ln,rl],q'⟩
  .rw[(XV.mp hf).2];exact⟨by decide,by decide,Int.one_dvd _,bh _⟩
  have S56:Same H5 (wo [D.T_plan_rounds,c] H6):=λb u e=>by
   have a1:b≠D.T_plan_rounds:=λz=>by rw[z,n1]at e;cases e
   have a2:b≠c:=λz=>by rw[z,n2]at e;cases e
   rw[rN (by simp;exact⟨a1,a2⟩),e6 b a1 a2];exact e
  have un:∀b u,H5 b=some u->wo [D.T_plan_rounds,c,f4] H4 b=none->H b=none:=λb u e z=>by
   have a1:b≠D.T_plan_rounds:=λz=>by rw[z,n1]at e;cases e
   have a2:b≠c:=λz=>by rw[z,n2]at e;cases e
   have a3:b≠f4:=λz=>by rw[z,n3]at e;cases e
   rw[rN (by simp;exact⟨a1,a2,a3⟩),eo b a1 a2 a3]at z;exact Same.free S2 z
  refine q t (l0::ls) fss H6 c (SS.trans (S5.trans S56)) la6 c2 (un t _ ht ft) (λl hl=>?_) nt (tU _ _ (S56 _ _ ht)) (rd.same S56) len ro;rcases YU.mp hl with rfl|hl'
  .exact fl0
  .obtain⟨k,hk⟩:=aW hl;have lk:k<fss.length:=by rw[<- rd.len];exact(ao.mp hk).1
   obtain⟨zs,a,_⟩:=rd.at_ k l _ hk (aj lk);exact un l _ a (new l hl')
noncomputable def tQ:Sp:=λvs H Q _=>∃(c:Int)(n:Nat),vs=[.int c,.int n]/\n<=100/\∀(l:Addr)(xs:List Int)H',Same H H'->H l=none->H' l=some (.lst (xs.map V.int))->xs.length=n->(∀x∈xs,0<=x/\x<2000000000)->Q (.ref l) H'
noncomputable def jS(c:Int)(n:Nat)(p:Addr)(H:Hp)(k:Nat)(σ:L2.St)(H':Hp):Prop:=∃(xs:List Int)(m d:Int)(v:Option V),σ=[some (.int c),some (.int n),some (.ref p),some (.int m),some (.int d),v]/\(0<=m/\m<1999999973)/\0<=d/\xs.length=k/\(∀x∈xs,0<=x/\x<2000000000)/\Same H H'/\H' p=some (.lst (xs.map V.int))
theorem Qe(F:Fun K m8 m8 BL f fd)(T:Txt K mg D):cC P w K mg base CX0 1 f fd m7 tQ:=by
 refine F.ok jj ?_ ?_
 .rintro _ _ _ _ ⟨c,n,rfl,_⟩;rfl
 .rintro cdv A outer s H _ Q E hr ⟨c,n,rfl,hn,q⟩;refine⟨_,(bK (bZ (i:=2) jj.nd rfl (Or.inl rfl) (qP bF))
   (bK (bZ (i:=3) jj.nd rfl (Or.inl rfl) (bY h_ (bY Zv (bY dW (bY h_ (pv 0) bI) bI) bI) bI))
   (bK (bZ (i:=4) jj.nd rfl (Or.inl rfl) bI)
   (bK (eF (PW.pt (pw_or (cX Kp (pv 0) bI (cV _)) (pw_or1 (cX Yr (pv 0) (bY TX bI bI) (cV _)))))
    (bN (bZ (i:=4) jj.nd rfl (Or.inl rfl) (cF rG (by rfl) T.Jx boot_abs (bD (pv 0) bF))))
    cN)
   (bK (fD PassesOwn.never rfl (d9 (by rfl) T.jf (bD (pv 1) bF).mono) (cH (i:=5) jj.nd rfl (Or.inl rfl))
    (bK (bZ (i:=3) jj.nd rfl (Or.inl rfl) (bY h_ (bY dW (bY dW (bY cL (pv 3) (bY dW (bY h_ (pv 3) bI) bI)) (bY cL bI (pv 5))) bI) bI))
    (bK (cY (kY (pv 2) (bD (bU cu (qP (bD (pv 3) (bD (bY h_ (pv 4) bI) bF))) (qd Qj (by rfl) T.Tf boot_int (bD (oV U9 (pv 4) bI (cV _)) bF)) (λ_ _=>rfl)) bF)))
    (bN (bZ (i:=4) jj.nd rfl (Or.inl rfl) (bY fV (pv 4) bI))))))
   (bN (cD (pv 2)))))))),?_⟩
  refine Pk λR0 hR0=>?_
  walk_at "rd"
  refine⟨bh _,λp hp=>⟨.inr (by constructor<;>decide),?_⟩⟩;have m0:0<=(c%1999999973+31)*765432101%1999999973/\(c%1999999973+31)*765432101%1999999973<1999999973:=⟨Z3 _ (by decide),YY _ (by decide)⟩;generalize(c%1999999973+31)*765432101%1999999973=m at m0 ⊢;have a0:0<=(if c<0 then -c else c):=by split<;>lia
  subst hR0;refine bQ λR hR=>?_;have loop:∀d0:Int,0<=d0->R { nx:=λ_ H'=>Q .non H',rt:=Q } [some (.int c),some (.int n),some (.ref p),some (.int m),some (.int d0),none] (upd H p (.lst [])):=by
   intro d0 a0;subst hR;have go:∀d:Int,0<=d->jS c n p H 0 [some (.int c),some (.int n),some (.ref p),some (.int m),some (.int d),none] (upd H p (.lst [])):=λd hd=>⟨[],m,d,none,rfl,m0,hd,rfl,(by simp),Same.upd hp,bG⟩;have fin:∀(σ':L2.St)(H':Hp),jS c n p H n σ' H'->∃v,σ'[2]?=some (some v)/\Q v H':=by
    rintro σ' H' ⟨xs,m,d,v,rfl,_,_,h1,h2,h3,h4⟩;exact⟨_,rfl,q p xs H' h3 hp h4 h1 h2⟩
   refine gQ ?_
   walk_at "rd"
   refine⟨n,rfl,Y3 hn (by decide),jS c n p H,go _ a0,?_,fin⟩;rintro k σ' H' hk ⟨xs,m,d,v,rfl,hm,hd,h1,h2,h3,h4⟩
   walk_at "rd"
   have b1:Bd m:=Bd.sm (by lia);have b2:Bd (m%65521+40487):=Bd.sm (by lia);have b3:Bd (k:Int):=Bd.sm (by lia);have nx:0<=(m*(m%65521+40487)+7*k+5)%1999999973/\(m*(m%65521+40487)+7*k+5)%1999999973<1999999973:=⟨Z3 _ (by decide),YY _ (by decide)⟩;generalize(m*(m%65521+40487)+7*(k:Int)+5)%1999999973=z at nx ⊢;refine⟨b1,b2,Bd.sm (by decide),b3,⟨_,h4⟩,(by decide),λr hq=>.inr ?_⟩;have pr:p≠r:=bH h4 hq;have dd:0<=d.fdiv 1000000:=by rw[Int.fdiv_eq_ediv_of_nonneg _ (by decide)];lia
   have fin:∀x:Int,0<=x/\x<2000000000->jS c n p H (k+1) [some (.int c),some (.int n),some (.ref p),some (.int z),some (.int (d.fdiv 1000000)),some (.int k)] (upd (upd H' r (.lst [.int z,.int (d%1000000)])) p (.lst (xs.map V.int++[.int x]))):=by
    intro x hx;refine⟨xs++[x],z,_,_,rfl,nx,dd,by simp[h1],?_,?_,?_⟩
    .intro y hy;rcases Y1.mp hy with hy|hy
     .exact h2 y hy
     .rw[YR.mp hy];exact hx
    .intro b o hb;have bp:b≠p:=bH hb hp;have br:b≠r:=bH (h3 b o hb) hq;rw[bL bp,bL br];exact h3 b o hb
    .rw[bA];exact bG
   by_cases h0:0<d
   .rw[ZY (Zs h0)];exact⟨_,dj,_,(bL pr).trans h4,by rw[ak,h1];exact aU hk (aM hn (by decide)),Bd.sm (by decide),fin _ (by lia)⟩
   .rw[ZZ (by simp;exact Int.le_of_not_gt h0)];exact⟨_,fZ,_,(bL pr).trans h4,by rw[ak,h1];exact aU hk (aM hn (by decide)),Bd.sm (by decide),fin _ (by lia)⟩
  clear hR
  walk_at "rd"
  refine ZM (λ_=>loop _ a0) λ_=>⟨ac9 (by decide) (by decide),ZM (λ_=>loop _ a0) λ_=>loop 0 (by decide)⟩
noncomputable def m6:Sp:=λvs H Q _=>∃(a b:Int),vs=[.int a,.int b]/\0<b/\Bd b/\∀p,H p=none->Q (.ref p) (upd H p (.tup [.int (Ac.lw a b).1,.int (Ac.lw a b).2]))
theorem PL(F:Fun K jq jq BP f fd)(Ek:OkF P w K mg base 1 Aj Bj Cg):cC P w K mg base CX0 2 f fd jt m6:=by
 refine F.ok Ft ?_ ?_
 .rintro _ _ _ _ ⟨a,b,rfl,_⟩;rfl
 .rintro cdv A outer s H _ Q E hr ⟨a,b,rfl,hb,hbd,q⟩;refine⟨_,(bK (bZ (i:=2) Ft.nd rfl (Or.inl rfl) (bO Ek hr.md (by rfl) (bD (pv 0) (bD (pv 1) bF))))
   (bN (cD (oY (bD (bY fV (pv 0) (pv 2)) (bD (bY fV (pv 1) (pv 2)) bF)))))),?_⟩
  have g0:=Gb (a:=a) (b:=b) (Int.ne_of_gt hb);have g1:=Lw (a:=a) (b:=b) (Int.ne_of_gt hb) hbd;unfold Cg
  walk_at "rd"
  rw[nq _ g0,nq _ g0];exact⟨by exact Int.ne_of_gt g0,g1,by exact Int.ne_of_gt g0,g1,jm,q⟩
noncomputable def Al:Sp:=λvs H Q _=>∃(p q:Addr)(x y u v:Int),vs=[.ref p,.ref q]/\H p=some (.tup [.int x,.int y])/\H q=some (.tup [.int u,.int v])/\Bd x/\Bd y/\Bd u/\Bd v/\0<y/\0<v/\Bd (y*v) /\
 ∀r H',Same H H'->H r=none->H' r=some (.tup [.int (Ac.lw (x*v+u*y) (y*v)).1,.int (Ac.lw (x*v+u*y) (y*v)).2])->Q (.ref r) H'
theorem Tj(F:Fun K sS sS Ge f fd)(dI:OkF P w K mg base 2 jq jt m6):cC P w K mg base CX0 3 f fd sW Al:=by
 refine F.ok S_ ?_ ?_
 .rintro _ _ _ _ ⟨p,q,x,y,u,v,rfl,_⟩;rfl
 .rintro cdv A outer s H _ Q E hr ⟨p,q,x,y,u,v,rfl,hp,hq,bx,b_y,bu,bv,y0,v0,byv,k⟩;refine⟨_,(bN (cD (bO dI hr.md (by rfl) (bD (bY dW (bY cL (bU cg (pv 0) bI (λ_ _=>rfl)) (bU cg (pv 1) bI (λ_ _=>rfl))) (bY cL (bU cg (pv 1) bI (λ_ _=>rfl)) (bU cg (pv 0) bI (λ_ _=>rfl)))) (bD (bY cL (bU cg (pv 0) bI (λ_ _=>rfl)) (bU cg (pv 1) bI (λ_ _=>rfl))) bF))))),?_⟩;exact fG ⟨_,rfl,p,_,0,_,rfl,rfl,hp,fZ,_,rfl,q,_,1,_,rfl,rfl,hq,dj,x,v,rfl,rfl,⟨bx,bv⟩,_,rfl,q,_,0,_,rfl,rfl,hq,fZ,_,rfl,p,_,1,_,rfl,rfl,hp,dj,u,y,rfl,rfl,⟨bu,b_y⟩,_,_,rfl,rfl,_,rfl,p,_,1,_,rfl,rfl,hp,dj,_,rfl,q,_,1,_,rfl,rfl,hq,dj,y,v,rfl,rfl,⟨b_y,bv⟩,_,_,rfl,XZ y0 v0,byv,λr hr=>k r _ (Same.upd hr) hr bG⟩
noncomputable def xJ:Sp:=λvs H Q _=>∃(p q:Addr)(x y u v:Int),vs=[.ref p,.ref q]/\H p=some (.tup [.int x,.int y])/\H q=some (.tup [.int u,.int v])/\Bd x/\Bd y/\Bd u/\Bd v/\0<y/\0<v/\Bd (y*v) /\
 ∀r H',Same H H'->H r=none->H' r=some (.tup [.int (Ac.lw (x*u) (y*v)).1,.int (Ac.lw (x*u) (y*v)).2])->Q (.ref r) H'
theorem QC(F:Fun K pQ pQ Bt f fd)(dI:OkF P w K mg base 2 jq jt m6):cC P w K mg base CX0 3 f fd pZ xJ:=by
 refine F.ok Qp ?_ ?_
 .rintro _ _ _ _ ⟨p,q,x,y,u,v,rfl,_⟩;rfl
 .rintro cdv A outer s H _ Q E hr ⟨p,q,x,y,u,v,rfl,hp,hq,bx,b_y,bu,bv,y0,v0,byv,k⟩;refine⟨_,(bN (cD (bO dI hr.md (by rfl) (bD (bY cL (bU cg (pv 0) bI (λ_ _=>rfl)) (bU cg (pv 1) bI (λ_ _=>rfl))) (bD (bY cL (bU cg (pv 0) bI (λ_ _=>rfl)) (bU cg (pv 1) bI (λ_ _=>rfl))) bF))))),?_⟩;exact fG ⟨_,rfl,p,_,0,_,rfl,rfl,hp,fZ,_,rfl,q,_,0,_,rfl,rfl,hq,fZ,x,u,rfl,rfl,⟨bx,bu⟩,_,rfl,p,_,1,_,rfl,rfl,hp,dj,_,rfl,q,_,1,_,rfl,rfl,hq,dj,y,v,rfl,rfl,⟨b_y,bv⟩,_,_,rfl,XZ y0 v0,byv,λr hr=>k r _ (Same.upd hr) hr bG⟩
noncomputable def chL(ws:List (Nat×Int))(S:Int):Θ:=ws.map λg=>(g.1,Ac.lw g.2 S)
structure vM(H:Hp)(l:Addr)(cs:Θ):Prop where
 ex:∃ys,H l=some (.lst ys)/\ys.length=cs.length/\∀(i:Nat)c,cs[i]?=some c->∃t a,ys[i]?=some (.ref t)/\H t=some (.tup [.int (c.1:Nat),.ref a])/\H a=some (.tup [.int c.2.1,.int c.2.2])
theorem vM.same{H H':Hp}{l:Addr}{cs:Θ}(h:vM H l cs)(S:Same H H'):vM H' l cs:=by
 obtain⟨ys,a,b,c⟩:=h.ex;refine⟨ys,S _ _ a,b,λi g e=>?_⟩;obtain⟨t,a,x1,x2,x3⟩:=c i g e;exact⟨t,a,x1,S _ _ x2,S _ _ x3⟩
noncomputable def nK(n:Nat):Key:=.inl (n:Int)
noncomputable def eK(ws:List (Nat×Int)):List (Key×V):=ws.map λg=>(nK g.1,.int g.2)
theorem Ig{a b:Nat} : nK a=nK b↔a=b:=⟨λh=>by unfold nK at h;injection h with h;lia,λh=>by rw[h]⟩
theorem Uw{r:Nat} : ∀{ws:List (Nat×Int)},(mj (eK ws) (nK r)).getD (.int 0)=.int (Ac.look ws r)
 |[]=>rfl
 |g::ws=>by
  by_cases e:g.1=r
  .have h1:mj (eK (g::ws)) (nK r)=some (.int g.2):=wg (by rw[<- e]);have h2:Ac.look (g::ws) r=g.2:=by
    unfold Ac.look;rw[List.find?_cons_of_pos (by simpa using e)];rfl
   rw[h1,h2];rfl
  .have h1:mj (eK (g::ws)) (nK r)=mj (eK ws) (nK r):=vq λz=>e (Ig.mp z);have h2:Ac.look (g::ws) r=Ac.look ws r:=by
    unfold Ac.look;rw[List.find?_cons_of_neg (by simpa using e)]
   rw[h1,h2];exact Uw
theorem ZD{r:Nat}{y:Int}{ws:List (Nat×Int)} : putK (eK ws) (nK r) (.int y)=eK (Ac.put ws r y):=by
 unfold putK Ac.put eK;have e:((ws.map λg=>((nK g.1:Key),V.int g.2)).any λkv=>decide (kv.1=nK r))=ws.any λg=>decide (g.1=r):=by
  rw[List.any_map]
  congr 1
  funext g
  exact decide_eq_decide.mpr Ig
 rw[e];split
 .rw[List.map_map,List.map_map];refine List.map_congr_left λg _=>?_;show(if nK g.1=nK r then(nK g.1,V.int y)else(nK g.1,V.int g.2))=_;by_cases z:g.1=r
  .rw[ZY (Ig.mpr z)];show _=(nK (if g.1=r then(g.1,y)else g).1,V.int (if g.1=r then(g.1,y)else g).2);rw[ZY z]
  .rw[ZZ λw=>z (Ig.mp w)];show _=(nK (if g.1=r then(g.1,y)else g).1,V.int (if g.1=r then(g.1,y)else g).2);rw[ZZ z]
 .rw[bA];rfl
noncomputable def ChV(H:Hp)(ys:Μ)(cs:Θ):Prop:=ys.length=cs.length/\∀(i:Nat)c,cs[i]?=some c->∃t a,ys[i]?=some (.ref t)/\H t=some (.tup [.int (c.1:Nat),.ref a])/\H a=some (.tup [.int c.2.1,.int c.2.2])
theorem ChV.imp{H H':Hp}{ys:Μ}{cs:Θ}(h:ChV H ys cs)(T:∀p us,H p=some (.tup us)->H' p=some (.tup us)):ChV H' ys cs:=⟨h.1,λi c e=>let⟨t,a,x1,x2,x3⟩:=h.2 i c e;⟨t,a,x1,T _ _ x2,T _ _ x3⟩⟩
theorem ChV.snoc{H:Hp}{ys:Μ}{cs:Θ}{t a:Addr}{c:Nat×Int×Int}(h:ChV H ys cs)(ht:H t=some (.tup [.int (c.1:Nat),.ref a]))(ha:H a=some (.tup [.int c.2.1,.int c.2.2])):ChV H (ys++[.ref t]) (cs++[c]):=by
 have l:=h.1;refine⟨by rw[aA,aA,l];rfl,λi g e=>?_⟩;rcases d_ e with⟨z,b⟩|⟨z,b⟩
 .obtain⟨t',a',x1,x2⟩:=h.2 i g b;exact⟨t',a',by rw[aD (by lia)];exact x1,x2⟩
 .subst b;exact⟨t,a,by rw[aC (by lia),l,z,Nat.sub_self];rfl,ht,ha⟩
noncomputable abbrev c7(ws:List (Nat×Int)):Int:=(ws.map (·.2)).sum
theorem JK{r:Nat}{y:Int} : ∀{ws:List (Nat×Int)},(ws.map (·.1)).Nodup->c7 (Ac.put ws r y)=c7 ws+(y-Ac.look ws r)
 |[],_=>by
  show y+0=0+(y-0);lia
 |a::as,nd=>by
  rw[List.map_cons,List.nodup_cons]at nd;have ih:=JK (r:=r) (y:=y) nd.2;have e0:c7 (a::as)=a.2+c7 as:=rfl;by_cases e:a.1=r
  .have e1:Ac.put (a::as) r y=(a.1,y)::as:=by
    unfold Ac.put;rw[List.any_cons,Zs e,Bool.true_or,ZY rfl,List.map_cons,ZY e]
    congr 1
    have:as.map (λg=>if g.1=r then(g.1,y)else g)=as.map id:=List.map_congr_left λg hg=>ZZ λ(z:g.1=r)=>nd.1 (YV.mpr ⟨g,hg,z.trans e.symm⟩);rw[this,List.map_id]
   have e2:Ac.look (a::as) r=a.2:=by
    unfold Ac.look;rw[List.find?_cons,Zs e];rfl
   have e3:c7 ((a.1,y)::as)=y+c7 as:=rfl;rw[e1,e2,e3,e0];lia
  .have e1:Ac.put (a::as) r y=a::Ac.put as r y:=by
    unfold Ac.put;rw[List.any_cons,Zp e,Bool.false_or];split
    .rw[List.map_cons,ZZ e]
    .rfl
   have e2:Ac.look (a::as) r=Ac.look as r:=by
    unfold Ac.look;rw[List.find?_cons,Zp e]
   have e3:c7 (a::Ac.put as r y)=a.2+c7 (Ac.put as r y):=rfl;rw[e1,e2,e3,e0,ih];lia
structure wk(q n:Nat)(f:Ι)(ws:List (Nat×Int)):Prop where
 f0:0<f.2
 fg:Int.gcd f.1 f.2=1
 fa:f.1.natAbs<=10^30
 fb:f.2<=1000
 q1:1<=q
 q6:q<=6
 few:ws.length<=6
 nd:(ws.map (·.1)).Nodup
 par:c7 ws=q
 at_:∀g∈ws,g.1<n/\1<=g.2/\g.2<=6
structure DD(q n:Nat)(H:Hp)(d:Addr):Prop where
 ex:∃(p l:Addr)(f:Ι)(ws:List (Nat×Int)),H d=some (.tup [.ref p,.ref l])/\H p=some (.tup [.int f.1,.int f.2])/\vM H l (chL ws (c7 ws))/\wk q n f ws
theorem DD.same{q n:Nat}{H H':Hp}{d:Addr}(h:DD q n H d)(S:Same H H'):DD q n H' d:=by
 obtain⟨p,l,f,ws,a,b,c,e⟩:=h.ex;exact⟨p,l,f,ws,S _ _ a,S _ _ b,c.same S,e⟩
structure RD(q n:Nat)(H:Hp)(xs:Μ)(dss:List (Ε)):Prop where
 len:xs.length=dss.length
 at_:∀(k:Nat)(ds:Ε),dss[k]?=some ds->∃l,xs[k]?=some (.ref l)/\H l=some (.lst (ds.map V.ref))/\∀d∈ds,DD q n H d
theorem RD.same{q n:Nat}{H H':Hp}{xs:Μ}{dss:List (Ε)}(h:RD q n H xs dss)(S:Same H H'):RD q n H' xs dss:=⟨h.len,λk ds e=>let⟨l,a,b,c⟩:=h.at_ k ds e;⟨l,a,S _ _ b,λd hd=>(c d hd).same S⟩⟩
noncomputable def DDs(q n:Nat)(H0:Hp)(l:Ε)(H:Hp)(ds:Ε):Prop:=∀Ds:Ε,(∀b∈Ds,∃zs,H0 b=some (.lst zs))->∀d∈ds,DD q n (del (l++Ds) H) d
noncomputable def Ko:Sp:=λvs H Q _=>∃(c:Int)(k n q:Nat),vs=[.int c,.int k,.int n,.int q]/\1<=n/\n<=12/\1<=q/\q<=6/\k<=12/\∀l(ds:Ε)H',Same H H'->H l=none->H' l=some (.lst (ds.map V.ref))->ds.length<=3->DDs q n H [] H' ds->Q (.ref l) H'
theorem Ss(F:Fun K xG xG zT f fd)(T:Txt K mg D)(jB:OkF P w K mg base 1 m8 m7 tQ)(dI:OkF P w K mg base 2 jq jt m6):cC P w K mg base CX0 3 f fd vd Ko:=by
 refine F.ok jx ?_ ?_
 .rintro _ _ _ _ ⟨c,k,n,q,rfl,_⟩;rfl
 .rintro cdv A outer s H _ Q E hr ⟨c,k,n,q,rfl,n1,n12,q1,q6,k12,qq⟩;have z9:100<sizeLine:=by decide
  refine⟨_,(bK (bZ (i:=4) jx.nd rfl (Or.inl rfl) (bO jB hr.md (by rfl) (bD (bY dW (pv 0) (bY cL (bY cL bI (pv 1)) (pv 1))) (bD bI bF))))
   (bK (bZ (i:=5) jx.nd rfl (Or.inl rfl) (jz bF))
   (bK (fD PassesOwn.never rfl (d9 (by rfl) T.jf (bD (bU cu (PEB.out (GJ (nj gA (nj gA (nj gA (nj gA (nj gA Gk))))))) (bY h_ (bU cu (pv 4) bI (λ_ _=>rfl)) bI) (λ_ _=>rfl)) bF).mono) (cH (i:=6) jx.nd rfl (Or.inl rfl))
    (bK (bZ (i:=7) jx.nd rfl (Or.inl rfl) vp)
    (bK (fD PassesOwn.never rfl (d9 (by rfl) T.jf (bD (pv 3) bF).mono) (cH (i:=8) jx.nd rfl (Or.inl rfl))
     (bK (bZ (i:=10) jx.nd rfl (Or.inl rfl) (bY lU (bU cu (pv 4) (bY dW (bY dW bI (bY cL bI (pv 6))) (pv 8)) (λ_ _=>rfl)) (pv 2)))
     (bN (zx (qW hr) (pv 7) (pv 10) (bY dW (J8 (qW hr) (pv 7) (pv 10) bI (by first|exact⟨rfl,rfl,rfl,rfl,rfl⟩|constructor<;>rfl)) bI) rfl))))
    (bK (bZ (i:=9) jx.nd rfl (Or.inl rfl) (bO dI hr.md (by rfl) (bD (bY LR (bY h_ (bU cu (pv 4) (bY dW bI (pv 6)) (λ_ _=>rfl)) bI) bI) (bD (bY dW bI (bY h_ (bU cu (pv 4) (bY dW bI (pv 6)) (λ_ _=>rfl)) bI)) bF))))
    (bK (eF (cX Eu (bY h_ (bU cu (pv 4) bI (λ_ _=>rfl)) bI) bI (cV _))
     (bN (bZ (i:=9) jx.nd rfl (Or.inl rfl) (bO dI hr.md (by rfl) (bD (bY LR (bY cL (bY cL (bU cu (pv 4) (bY dW bI (pv 6)) (λ_ _=>rfl)) (bU cu (pv 4) bI (λ_ _=>rfl))) (bU cu (pv 4) bI (λ_ _=>rfl))) (bY TX bI bI)) (bD (bY dW bI (bY h_ (bU cu (pv 4) (bY dW bI (pv 6)) (λ_ _=>rfl)) bI)) bF)))))
     cN)
    (bN (cY (kY (pv 5) (bD (iz (bD (pv 9) (bD (n6 (bM zT) MN ["_law_cell_here", "_law_k", "_law_many", "_law_parts", "_law_xs", "_law_doors_here", "_law_j", "_law_ways", "_law_i", "_law_pay", "?_law_room"] ["_law_room", "_law_weight"] (T3 ((pv 7)).mono rfl rfl) (gB (n:=2) rfl (cG (fQ (i:=0)) (cG (fQ (i:=1)) fK))) eU (iz (bD (pv 0) (bD (bO dI hr.md (by rfl) (bD (pv 1) (bD (pv 5) bF))) bF)))) bF))) bF)))))))))
   (bN (cD (pv 5)))))),?_⟩
  refine bQ λR1 hR1=>?_;refine cA ⟨_,rfl,_,rfl,_,_,rfl,rfl,⟨Bd.sm (by decide),Bd.sm (by omega)⟩,_,rfl,_,_,rfl,rfl,⟨Bd.sm (by omega),Bd.sm (by omega)⟩,_,_,rfl,rfl,_,30,rfl,by decide,λlx xs H1 S1 f1 h1 xl xb=>?_⟩;subst hR1;dsimp only[cB,L2.start,List.set_cons_succ,List.set_cons_zero];refine bQ λR1 hR1=>?_;refine cA ⟨bh _,λl H2 S2 f2 h2=>?_⟩;subst hR1;dsimp only[cB,List.set_cons_succ,List.set_cons_zero];refine bQ λR1 hR1=>?_;have gt:∀i,i<30->∃x:Int,(xs.map V.int)[i]?=some (.int x)/\0<=x/\x<2000000000:=λi hi=>by
   have li:i<xs.length:=by lia
   exact⟨xs[i],by rw[aq,aj li];rfl,xb _ (aV li)⟩
  obtain⟨x0,g0,g0',g0''⟩:=gt 0 (by decide);obtain⟨m,em,m3⟩ : ∃m:Nat,atI [V.int 1,V.int 2,V.int 3,V.int 2,V.int 0] (x0%5)=some (.int (m:Nat))/\m<=3:=by
   obtain e|e|e|e|e:x0%5=0\/x0%5=1\/x0%5=2\/x0%5=3\/x0%5=4:=by lia
   .exact⟨1,by rw[e];exact b_ (j:=0) rfl,by decide⟩
   .exact⟨2,by rw[e];exact b_ (j:=1) rfl,by decide⟩
   .exact⟨3,by rw[e];exact b_ (j:=2) rfl,by decide⟩
   .exact⟨2,by rw[e];exact b_ (j:=3) rfl,by decide⟩
   .exact⟨0,by rw[e];exact b_ (j:=4) rfl,by decide⟩
  have h1':=h1;have h1:=S2 _ _ h1;refine cZ (gQ ⟨(show 5<=sizeLine by decide),λpl fpl=>⟨_,rfl,lx,_,0,_,rfl,rfl,Same.upd fpl _ _ h1,b_ (j:=0) g0,x0,5,rfl,rfl,(show(0:Int)<5 by decide),pl,_,_,_,rfl,rfl,bG,em,m,rfl,by exact Y3 m3 (by decide),λj σ H'=>∃(u5 u6 u7 u8 u9:Option V)(ds:Ε),σ=[some (.int c),some (.int k),some (.int n),some (.int q),some (.ref lx),some (.ref l),u5,u6,u7,u8,u9]/\Same H1 H'/\H' l=some (.lst (ds.map V.ref))/\ds.length=j/\DDs q n H [l] H' ds,⟨none,none,none,none,none,[],rfl,S2.trans (Same.upd fpl),Same.upd fpl _ _ h2,rfl,λ_ _ d hd=>by simp at hd⟩,?_,?_⟩⟩)
  .rintro j σ' H3 hj ⟨u5,u6,u7,u8,u9,ds,rfl,S3,h3,dl,dd⟩;dsimp only[cB,List.set_cons_succ,List.set_cons_zero];refine bQ λR2 hR2=>?_;refine cA λd fd'=>?_;subst hR2;dsimp only[cB,List.set_cons_succ,List.set_cons_zero];have at_:∀(t:Nat)(e:Int),t<30->e=(t:Int)->∃x:Int,atI (xs.map V.int) e=some (.int x)/\0<=x/\x<2000000000:=λt e ht he=>by
    obtain⟨x,a,b⟩:=gt t ht;exact⟨x,by rw[he];exact b_ a,b⟩
   have hx3:∀{H9:Hp},Same H3 H9->H9 lx=some (.lst (xs.map V.int)):=λS9=>S9 _ _ (S3 _ _ h1');have bj:Bd (j:Int):=Bd.sm (by lia);have S4:Same H3 (upd H3 d (.dK [])):=Same.upd fd';refine bQ λR2 hR2=>?_;refine cZ (gQ ⟨_,rfl,q,rfl,by exact Y3 q6 (by decide),λi σ H'=>∃(u7 u9:Option V)(ws:List (Nat×Int)),σ=[some (.int c),some (.int k),some (.int n),some (.int q),some (.ref lx),some (.ref l),some (.int j),some (.ref d),u7,u8,u9]/\Same H3 H'/\H' d=some (.dK (eK ws))/\(ws.map (·.1)).Nodup/\ws.length<=i/\c7 ws=i/\∀g∈ws,g.1<n/\1<=g.2/\g.2<=i,⟨u7,u9,[],rfl,S4,bG,List.nodup_nil,aF _,rfl,by simp⟩,?_,?_⟩)
   .rintro i σ' H5 hi ⟨u7,u9,ws,rfl,S5,h5,nd,wl,w0,wb⟩;have i3:i<6:=by exact aU hi q6
    obtain⟨xr,b1,b2,b3⟩:=at_ (1+6*j+i) (1+6*(j:Int)+(i:Int)) (by lia) (by lia);have r0:0<=xr%(n:Int):=Z3 _ (by lia);have r1:xr%(n:Int)<n:=YY _ (by lia);obtain⟨r,er⟩ : ∃r:Nat,xr%(n:Int)=(r:Nat):=⟨(xr%(n:Int)).toNat,by lia⟩;have bi:Bd (i:Int):=Bd.sm (by lia);dsimp only[cB,List.set_cons_succ,List.set_cons_zero];refine bQ λR3 hR3=>?_;refine cA ⟨_,rfl,_,rfl,_,_,rfl,rfl,⟨Bd.sm (by decide),bj⟩,_,_,rfl,rfl,_,rfl,_,_,rfl,rfl,lx,_,_,_,rfl,rfl,hx3 S5,b1,_,rfl,_,_,rfl,rfl,by lia,?_⟩;subst hR3;dsimp only[cB,List.set_cons_succ,List.set_cons_zero];rw[aX _ (Wp _),er];have kd:∀v:V,Hv H5 d (.int (r:Nat)) v (upd H5 d (.dK (putK (eK ws) (nK r) v))):=λv=>Hv.k (k:=nK r) h5 (by unfold eK;rw[ak];lia);refine⟨_,rfl,d,rfl,.inl ⟨_,.of h5⟩,_,rfl,_,rB.k (k:=nK r) h5,_,_,Uw,rfl,_,rfl,_,rfl,d,_,rfl,kd _,?_⟩;rw[ZD];have vb:1<=Ac.look ws r+1/\Ac.look ws r+1<=((i+1:Nat):Int):=by
     rcases Ac.vD ws r with z|⟨g,hg,z⟩
     .rw[z];lia
     .have:=wb g hg;rw[z];lia
    refine⟨_,_,Ac.put ws r (Ac.look ws r+1),rfl,iy fd' S5,bG,Ac.Vr nd _ _,aM (Ac.M_ _ _ _) (Nat.succ_le_succ wl),by rw[JK nd,w0];lia,λg hg=>?_⟩
    .have h1:g.1<n:=by
      rcases Ac.Nf hg with z|z
      .rw[z];lia
      .obtain⟨g',hg',e⟩:=YV.mp z;rw[<- e];exact(wb g' hg').1
     rcases Ac.Og hg with z|z
     .rw[z];exact⟨h1,vb⟩
     .have:=wb g z;exact⟨h1,this.2.1,by lia⟩
   .rintro σ' H5 ⟨u7,u9,ws,rfl,S5,h5,nd,wl,w0,wb⟩;subst hR2;dsimp only;obtain⟨x22,d1,d2,d3⟩:=at_ (22+j) (22+(j:Int)) (by lia) (by lia);obtain⟨x25,e1,e2,e3⟩:=at_ (25+j) (25+(j:Int)) (by lia) (by lia);obtain⟨x28,p1,p2,p3⟩:=at_ 28 28 (Nat.lt_of_not_le (by decide)) rfl;obtain⟨x29,t1,t2,t3⟩:=at_ 29 29 (X1 _) rfl;have ok:∀f:Int×Int,0<f.2->Int.gcd f.1 f.2=1->f.1.natAbs<=10^30->f.2<=1000->wk q n f ws:=λf h1 h2 h3 h4=>⟨h1,h2,h3,h4,q1,q6,by exact aM wl q6,nd,w0,λg hg=>by have:=wb g hg;exact⟨this.1,this.2.1,by lia⟩⟩;have l25:0<1+x25%4:=by lia
    refine bQ λR3 hR3=>?_;refine cA ⟨_,rfl,_,rfl,_,_,rfl,rfl,lx,_,_,_,rfl,rfl,hx3 S5,d1,_,_,rfl,rfl,(show(0:Int)<25 by decide),_,_,rfl,rfl,_,rfl,_,rfl,_,_,rfl,rfl,lx,_,_,_,rfl,rfl,hx3 S5,e1,_,_,rfl,rfl,(show(0:Int)<4 by decide),_,_,rfl,rfl,_,_,rfl,l25,Bd.sm (by lia),λpp hpp=>?_⟩;have S6:Same H5 (upd H5 pp (.tup [.int (Ac.lw (x22%25-12) (1+x25%4)).1,.int (Ac.lw (x22%25-12) (1+x25%4)).2])):=Same.upd hpp;have e6:upd H5 pp (.tup [.int (Ac.lw (x22%25-12) (1+x25%4)).1,.int (Ac.lw (x22%25-12) (1+x25%4)).2]) pp=_:=bG;have ok6:wk q n (Ac.lw (x22%25-12) (1+x25%4)) ws:=by
     have h1:=Ac.Cz (x22%25-12) (1+x25%4);have h2:=Ac.vO (x22%25-12) (1+x25%4);have h3:=Ac.dX (t:=x22%25-12) l25;exact ok _ h3 (Ac.pN l25) (by lia) (by lia)
    generalize upd H5 pp (.tup [.int (Ac.lw (x22%25-12) (1+x25%4)).1,.int (Ac.lw (x22%25-12) (1+x25%4)).2])=H6 at S6 e6 ⊢;subst hR3;dsimp only[cB,List.set_cons_succ,List.set_cons_zero];refine bQ λR3 hR3=>?_;have fin:∀(pp:Addr)(f:Ι)H6,Same H5 H6->H6 pp=some (.tup [.int f.1,.int f.2])->wk q n f ws->R3 { nx:=λσ H'=>∃(u5 u6 u7 u8 u9:Option V)(ds:Ε),σ=[some (.int c),some (.int k),some (.int n),some (.int q),some (.ref lx),some (.ref l),u5,u6,u7,u8,u9]/\Same H1 H'/\H' l=some (.lst (ds.map V.ref))/\ds.length=j+1/\DDs q n H [l] H' ds,rt:=Q,bk:=R1 { nx:=λx H'=>Q V.non H',rt:=Q },ct:=λσ H'=>∃(u5 u6 u7 u8 u9:Option V)(ds:Ε),σ=[some (.int c),some (.int k),some (.int n),some (.int q),some (.ref lx),some (.ref l),u5,u6,u7,u8,u9]/\Same H1 H'/\H' l=some (.lst (ds.map V.ref))/\ds.length=j+1/\DDs q n H [l] H' ds } [some (.int c),some (.int k),some (.int n),some (.int q),some (.ref lx),some (.ref l),some (.int j),some (.ref d),u7,some (.ref pp),u9] H6:=λpp f H6 S6 hpp ok=>by
     subst hR3;have S36:=S5.trans S6;have h6:=S6 _ _ h5;have kl:(eK ws).length=ws.length:=ak ..;refine⟨_,rfl,l,_,rfl,S36 _ _ h3,_,rfl,?_⟩;refine IV ⟨_,rfl,d,eK ws,rfl,h6,by rw[kl];lia,λo D1 gD=>?_⟩;have Sf:Same H3 (upd H6 d (.frz o (.dK (eK ws)))):=iy fd' S36;have hpf:upd H6 d (.frz o (.dK (eK ws))) pp=_:=(bL (fH hpp h6 (by intro z;cases z))).trans hpp;generalize upd H6 d (.frz o (.dK (eK ws)))=Hf at Sf hpf gD ⊢;refine⟨λi ys Hc=>Same Hf Hc/\Hc D1=some (.lst ys)/\ChV (del [D1] Hc) ys ((chL ws (c7 ws)).take i),⟨Same.upd gD,bG,rfl,λi c e=>by simp at e⟩,?_,?_⟩
     .rintro i kk y ys Hc t hi ⟨S7,hD,cv⟩ hy ht hfr pre hpre;obtain⟨w1,w2,rfl⟩:=G3 hpre;unfold eK at hi;rw[aq]at hi;cases ew:ws[i]? with
      |none=>rw[ew]at hi;cases hi
      |some g =>
       rw[ew]at hi;cases hi;have S8:Same Hc (upd Hc t (.tup [kV (nK g.1),.int g.2])):=Same.upd ht;have h8:upd Hc t (.tup [kV (nK g.1),.int g.2]) t=some (.tup [.int (g.1:Nat),.int g.2]):=bG;generalize upd Hc t (.tup [kV (nK g.1),.int g.2])=H8 at S8 h8 ⊢;refine⟨_,_,rfl,h8,rfl,⟨_,_,rfl,_,_,rfl,rfl,[_,_],rfl,rfl,⟨_,rfl,_,rfl,_,rfl,g.2,q,rfl,by lia,Bd.sm (by lia),λp9 f9=>⟨jm,λt9 H9 S9 f9' h9=>?_⟩⟩⟩⟩;have S89:=(Same.upd f9 (o:=.tup [.int (Ac.lw g.2 q).1,.int (Ac.lw g.2 q).2])).trans S9;have h89:=S9 _ _ (bG (H:=H8) (a:=p9) (o:=.tup [.int (Ac.lw g.2 q).1,.int (Ac.lw g.2 q).2]));have SC:=S8.trans S89;have hD9:=SC _ _ hD;have nD:∀{b:Addr}{us:Μ},H9 b=some (.tup us)->b∉[D1]:=λ{b us}e z=>by
        rw[YR.mp z,hD9]at e;cases e
       refine⟨hD9,SC _ _ hfr,iy gD (S7.trans SC),bG,?_⟩;rw[mU (by simp),cJ (show(chL ws (c7 ws))[i]?=some (g.1,Ac.lw g.2 q)by unfold chL;rw[aq,ew,w0];rfl)];exact(cv.imp λp us e=>let⟨a,e⟩:=j9 e;cW a (SC _ _ e)).snoc (c:=(g.1,Ac.lw g.2 q)) (cW (nD h9) h9) (cW (nD h89) h89)
     .rintro ys H7 ⟨S7,h7,cv⟩ hy;rw[kl,aK (by unfold chL;rw[ak];exact aF _)]at cv;have S37:=Sf.trans S7;have hp7:=S7 _ _ hpf;refine⟨jm,λdn H8 S8 f8 h8=>?_⟩;have S38:=S37.trans S8;have l8:=S38 _ _ h3;refine⟨_,_,rfl,l8,by rw[ak];lia,?_⟩;refine⟨_,_,_,_,_,ds++[dn],rfl,λb u e=>(bL (bH e f2)).trans (S38 _ _ (S3 _ _ e)),by rw[bG,bA];rfl,by rw[aA,dl];rfl,λDs hD d' hd'=>?_⟩;have nl:∀{b:Addr}{us:Μ},H8 b=some (.tup us)->b∉[l]++Ds:=λ{b us}e z=>by
       rcases YU.mp z with z|z
       .rw[z,l8]at e;cases e
       .obtain⟨zs,hz⟩:=hD b z;rw[S38 _ _ (S3 _ _ (S1 _ _ hz))]at e;cases e
      have nlw:D1∉[l]++Ds:=λz=>by
       rcases YU.mp z with z|z
       .have:=Sf _ _ h3;rw[z]at gD;rw[gD]at this;cases this
       .obtain⟨zs,hz⟩:=hD _ z;have:=Sf _ _ (S3 _ _ (S1 _ _ hz));rw[gD]at this;cases this
      rw[mU (by simp)];rcases Y1.mp hd' with z|z
      .exact(dd Ds hD d' z).same (nZ λb o _ e=>S38 _ _ e)
      .rw[YR.mp z];refine⟨pp,D1,f,ws,cW (nl h8) h8,cW (nl (S8 _ _ hp7)) (S8 _ _ hp7),⟨ys,cW nlw (S8 _ _ h7),cv.imp λp us e=>?_⟩,ok⟩;have e:=S8 _ _ (j9 e).2;exact cW (nl e) e
    refine cZ (rC ⟨_,rfl,lx,_,_,_,rfl,rfl,hx3 (S5.trans S6),p1,_,_,rfl,rfl,(show(0:Int)<6 by decide),rfl,decide (x28%6=1),ZH V.bl (decide_eq_decide.mpr ⟨λz=>by injection z,λz=>by show V.int (x28%6)=_;rw[z]⟩),?_⟩);by_cases z6:x28%6=1
    .rw[Zs z6];have l10:0<1+x25%1000:=by lia
     have q1:=Nat.mul_le_mul (Nat.mul_le_mul (show x22.natAbs<=2*10^9 by lia) (show x29.natAbs<=2*10^9 by lia)) (show x28.natAbs<=2*10^9 by lia);rw[<- Int.natAbs_mul,<- Int.natAbs_mul]at q1;have q2:=Nat.mul_le_mul (show x22.natAbs<=2*10^9 by lia) (show x29.natAbs<=2*10^9 by lia);rw[<- Int.natAbs_mul]at q2;refine⟨_,rfl,_,rfl,_,_,rfl,rfl,lx,_,_,_,rfl,rfl,hx3 (S5.trans S6),d1,_,rfl,lx,_,_,_,rfl,rfl,hx3 (S5.trans S6),t1,_,_,rfl,rfl,⟨Bd.sm (by lia),Bd.sm (by lia)⟩,_,rfl,lx,_,_,_,rfl,rfl,hx3 (S5.trans S6),p1,_,_,rfl,rfl,⟨Bd.sm (Y3 q2 (by decide)),Bd.sm (by lia)⟩,_,_,rfl,rfl,ac9 (by decide) (by decide),_,_,rfl,rfl,_,rfl,_,rfl,_,_,rfl,rfl,lx,_,_,_,rfl,rfl,hx3 (S5.trans S6),e1,_,_,rfl,rfl,(show(0:Int)<1000 by decide),_,_,rfl,rfl,_,_,rfl,l10,Bd.sm (by lia),λp7 h7=>?_⟩;have b1:=Ac.Cz (x22*x29*x28-10^27) (1+x25%1000);have b2:=Ac.vO (x22*x29*x28-10^27) (1+x25%1000);have b3:=Ac.dX (t:=x22*x29*x28-10^27) l10;exact fin p7 (Ac.lw (x22*x29*x28-10^27) (1+x25%1000)) _ (S6.trans (Same.upd h7)) bG (ok _ b3 (Ac.pN l10) (by lia) (by lia))
    .rw[Zp z6];exact fin pp _ H6 S6 e6 ok6
  .rintro σ' H3 ⟨u5,u6,u7,u8,u9,ds,rfl,S3,h3,dl,dd⟩;subst hR1;dsimp only;exact fG ⟨_,rfl,qq l ds H3 (S1.trans S3) (S1.free f2) h3 (aM (Nat.le_of_eq dl) m3) λDs hD d hd=>(dd Ds hD d hd).same λb o e=>let⟨a,c⟩:=j9 e;cW (λz=>a (aH _ z)) c⟩
noncomputable def U7(dss:List (Ε))(ps:List (Option Nat)):Prop:=ps.length=dss.length/\∀(k:Nat)ds o,dss[k]?=some ds->ps[k]?=some o->Gm (stV o) ds.length=true
noncomputable def FP:Sp:=λvs H Q _=>∃(c:Int)(r:Addr)(xs:Μ)(q n:Nat)(dss:List (Ε)),vs=[.int c,.ref r]/\H r=some (.lst xs)/\RD q n H xs dss/\dss.length<=12/\(∀ds∈dss,ds.length<=100)/\∀l ps H',Same H H'->H l=none->H' l=some (.lst (ps.map stV))->U7 dss ps->Q (.ref l) H'
theorem Tc{k m:Nat}(h:k<m):Gm (stV (some k)) m=true:=by
 unfold Gm;rw[ZZ (by lia)];show(decide ((0:Int)<=(k:Nat))&&decide (((k:Nat):Int)<m))=true;rw[Zs (Wp _),Zs (by lia)];rfl
theorem QW(F:Fun K zQ zQ KN f fd)(T:Txt K mg D)(jB:OkF P w K mg base 1 m8 m7 tQ):cC P w K mg base CX0 2 f fd zR FP:=by
 refine F.ok zH ?_ ?_
 .rintro _ _ _ _ ⟨c,r,xs,q,n,dss,rfl,_⟩;rfl
 .rintro cdv A outer s H _ Q E hr ⟨c,r,xs,q,n,dss,rfl,hr',rd,n12,dm,qq⟩;have xl:=rd.len;have z9:100<sizeLine:=by decide
  refine⟨_,(bK (bZ (i:=2) zH.nd rfl (Or.inl rfl) (bO jB hr.md (by rfl) (bD (pv 0) (bD (cF fW (by rfl) T.lZ PySem.boot_len (bD (pv 1) bF)) bF))))
   (bK (bZ (i:=3) zH.nd rfl (Or.inl rfl) (jz bF))
   (bK (fD PassesOwn.never rfl (d9 (by rfl) T.jf (bD (cF fW (by rfl) T.lZ PySem.boot_len (bD (pv 1) bF)) bF).mono) (cH (i:=4) zH.nd rfl (Or.inl rfl))
    (bN (eF (cX Eu (cF fW (by rfl) T.lZ PySem.boot_len (bD (bU cu (pv 1) (pv 4) (λ_ _=>rfl)) bF)) bI (cV _))
     (bN (cY (kY (pv 3) (bD nY bF))))
     (bN (cY (kY (pv 3) (bD (bY lU (bU cu (pv 2) (pv 4) (λ_ _=>rfl)) (cF fW (by rfl) T.lZ PySem.boot_len (bD (bU cu (pv 1) (pv 4) (λ_ _=>rfl)) bF))) bF)))))))
   (bN (cD (pv 3)))))),?_⟩
  refine bQ λR1 hR1=>?_;refine cA ⟨_,rfl,_,rfl,r,xs,rfl,hr',c,dss.length,by rw[xl],by exact aM n12 (by decide),λl ys H1 S1 fl hl ln hx=>?_⟩;subst hR1;refine bQ λR1 hR1=>?_;refine cA ⟨bh _,λD1 H2 S2 f2 h2=>?_⟩;subst hR1;refine bQ λR1 hR1=>?_;have S12:=S1.trans S2;have g1:=Same.free S1 f2;dsimp only[cB,L2.start];refine cZ (gQ ⟨_,rfl,r,xs,rfl,S12 _ _ hr',dss.length,by rw[xl],by exact Y3 n12 (by decide),λk σ H'=>∃u ps,σ=[some (.int c),some (.ref r),some (.ref l),some (.ref D1),u]/\Same H H'/\H' l=some (.lst (ys.map V.int))/\H' D1=some (.lst (ps.map stV))/\U7 (dss.take k) ps,⟨none,[],rfl,S12,S2 _ _ hl,h2,rfl,λk ds o e=>by cases e⟩,?_,?_⟩)
  .rintro k σ' H' hk ⟨u,ps,rfl,S3,hl3,h3,pf⟩;have ek:dss[k]?=some dss[k]:=aj hk;obtain⟨ld,ex,hld,dd⟩:=rd.at_ k _ ek;have dk:=dm _ (aV hk);have plen:ps.length=k:=by rw[pf.1,bf];lia
   have hld3:=S3 _ _ hld;have fin:∀(o:Option Nat)(H4:Hp),Same H' H4->Gm (stV o) dss[k].length=true->∃u' ps',[some (V.int c),some (V.ref r),some (V.ref l),some (V.ref D1),some (V.int (k:Nat))]=[some (.int c),some (.ref r),some (.ref l),some (.ref D1),u']/\Same H (upd H4 D1 (.lst (ps.map stV++[stV o])))/\upd H4 D1 (.lst (ps.map stV++[stV o])) l=some (.lst (ys.map V.int))/\upd H4 D1 (.lst (ps.map stV++[stV o])) D1=some (.lst (ps'.map stV))/\U7 (dss.take (k+1)) ps':=λo H4 S4 ft=>by
    have nl:l≠D1:=bH hl f2;refine⟨_,ps++[o],rfl,λb u e=>(bL (bH e g1)).trans (S4 _ _ (S3 _ _ e)),(bL nl).trans (S4 _ _ hl3),by rw[bG,bA];rfl,?_,λj ds o' e1 e2=>?_⟩
    .rw[aA,plen,bf];show k+1=_;lia
    .rw[cJ ek]at e1;have l1:(dss.take k).length=k:=by rw[bf];lia
     by_cases jk:j<k
     .rw[aD (by lia)]at e1 e2;exact pf.2 j ds o' e1 e2
     .have:j=k:=by
       have:=(ao.mp e1).1;rw[aA,l1]at this;simp at this;lia
      subst this;rw[aC (Nat.le_of_eq l1),l1,Nat.sub_self]at e1;rw[aC (Nat.le_of_eq plen),plen,Nat.sub_self]at e2;cases e1;cases e2;exact ft
   refine rC ⟨_,rfl,_,rfl,r,xs,(k:Nat),_,rfl,rfl,S3 _ _ hr',b_ (j:=k) ex,ld,_,rfl,hld3,rfl,decide (dss[k].length=0),?_,?_⟩
   .rw[ak];exact ZH V.bl (decide_eq_decide.mpr ⟨λz=>by injection z with z;lia,λz=>by rw[z];rfl⟩)
   by_cases d0:dss[k].length=0
   .rw[Zs d0];exact⟨_,rfl,D1,_,rfl,h3,_,_,rfl,h3,by rw[ak];lia,fin none H' (λ_ _ z=>z) (by rw[d0];rfl)⟩
   .rw[Zp d0];have lk:k<ys.length:=by lia
    have ey:(ys.map V.int)[k]?=some (.int ys[k]):=by rw[aq,aj lk];rfl
    have m0:0<=ys[k]%(dss[k].length:Int):=Z3 _ (by lia);have m1:ys[k]%(dss[k].length:Int)<dss[k].length:=YY _ (by lia);have em:ys[k].fmod ((dss[k].map V.ref).length:Nat)=((ys[k]%(dss[k].length:Int)).toNat:Nat):=by rw[ak,aX _ (Wp _)];lia
    refine⟨_,rfl,D1,_,rfl,h3,_,rfl,_,rfl,l,_,(k:Nat),_,rfl,rfl,hl3,b_ (j:=k) ey,_,rfl,_,rfl,r,xs,(k:Nat),_,rfl,rfl,S3 _ _ hr',b_ (j:=k) ex,ld,_,rfl,hld3,_,_,rfl,rfl,by rw[ak];lia,_,_,rfl,h3,by rw[ak];lia,?_⟩;dsimp only;rw[em];exact fin (some _) H' (λ_ _ z=>z) (Tc (by lia))
  .rintro σ' H' ⟨u,ps,rfl,S3,hl3,h3,pf⟩;rw[aP]at pf;subst hR1;exact⟨_,rfl,qq D1 ps H' S3 g1 h3 pf⟩
noncomputable def ltL:List Nat:=(Str.ofString "abcdefghijklmnopqrstuvwxyz").cps.toList
theorem XS:ltL.length=26:=by decide +kernel
theorem W2:∀a b:Fin 26,ltL[a.val]?=ltL[b.val]?->a=b:=by decide +kernel
theorem aap{a b:Int}{c:Nat}(a0:0<=a)(a1:a<26)(b0:0<=b)(b1:b<26)(ha:ltL[a.toNat]?=some c)(hb:ltL[b.toNat]?=some c):a=b:=by
 have:=W2 ⟨a.toNat,by lia⟩ ⟨b.toNat,by lia⟩ (ha.trans hb.symm);have:=ZH Fin.val this;simp only at this;lia
theorem Sy{a:Int}(a0:0<=a)(a1:a<26):∃c,atI (Str.ofString "abcdefghijklmnopqrstuvwxyz").cps.toList a=some c/\ltL[a.toNat]?=some c/\Dh c=true:=by
 obtain⟨k,rfl⟩:=Int.eq_ofNat_of_zero_le a0;have h:k<ltL.length:=by rw[XS];lia
 exact⟨ltL[k],b_ (aj h),aj h,Zs (aV h)⟩
noncomputable def rJ(R:Nat->Str->Prop)(D:Addr)(H:Hp)(k:Nat)(ys:Μ)(Hc:Hp):Prop:=∃ss:Β,ys=ss.map V.str/\ss.length=k/\(∀i x,ss[i]?=some x->R i x)/\Hc=upd H D (.lst ys)
theorem rJ.next{R:Nat->Str->Prop}{D:Addr}{H:Hp}{k:Nat}{ys:Μ}{Hc:Hp}(h:rJ R D H k ys Hc){x:Str}(h0:R k x):rJ R D H (k+1) (ys++[.str x]) (upd Hc D (.lst (ys++[.str x]))):=by
 obtain⟨ws,rfl,rfl,ha,rfl⟩:=h;refine⟨ws++[x],by rw[bA];rfl,by rw[aA];rfl,λi y hy=>?_,vB⟩;by_cases hi:i<ws.length
 .rw[aD hi]at hy;exact ha i y hy
 .have hl:=(ao.mp hy).1;rw[aA]at hl;have hl:i<ws.length+1:=hl;have e:i=ws.length:=by lia
  subst e;rw[aC (aF _),Nat.sub_self]at hy;cases hy;exact h0
theorem rJ.at_{R:Nat->Str->Prop}{D:Addr}{H:Hp}{k:Nat}{ys:Μ}{Hc:Hp}(h:rJ R D H k ys Hc):Hc D=some (.lst ys):=by
 obtain⟨ws,rfl,hl,ha,rfl⟩:=h;exact bG
theorem Xc{R:Nat->Str->Prop}{ss:Β}(h:∀i x,ss[i]?=some x->R i x)(u:∀i j x,i<j->j<ss.length->R i x->R j x->False):ss.Nodup:=by
 unfold List.Nodup;rw[List.pairwise_iff_getElem];intro i j hi hj ij e;exact u i j ss[i] ij hj (h i _ (aj hi)) (by rw[e];exact h j _ (aj hj))
theorem aas{R:Nat->Str->Prop}{P:Str->Prop}{ss:Β}(h:∀i x,ss[i]?=some x->R i x)(u:∀i x,i<ss.length->R i x->P x):∀x∈ss,P x:=λx hx=>by
 obtain⟨i,hi⟩:=aW hx;exact u i x (ao.mp hi).1 (h i x hi)
noncomputable def nm2(b:List Nat)(at_:Nat)(x0 st:Int)(i:Nat)(x:Str):Prop:=∃c,ltL[((x0+st*i)%26).toNat]?=some c/\Dh c=true/\x.cps.toList=b.take at_++c::b.drop at_
theorem Xj{b:List Nat}{at_:Nat}{x0 st:Int}{i j:Nat}{x:Str}(hs:st=1\/st=3\/st=5\/st=7\/st=9\/st=11)(ij:i<j)(hj:j<13)(h1:nm2 b at_ x0 st i x)(h2:nm2 b at_ x0 st j x):False:=by
 obtain⟨c,a1,_,e1⟩:=h1;obtain⟨d,a2,_,e2⟩:=h2;have e:=e1.symm.trans e2;have e:=List.append_cancel_left e;injection e with e _;subst e;have:=aap (Z3 _ (by decide)) (YY _ (by decide)) (Z3 _ (by decide)) (YY _ (by decide)) a1 a2;rcases hs with rfl|rfl|rfl|rfl|rfl|rfl<;>lia
theorem Ih(x:Str):x.cps.toList.length=x.length:=Array.length_toList
theorem Zi{b:List Nat}{at_:Nat}{x0 st:Int}{i:Nat}{x:Str}(hb:b.all Dh=true)(hl:b.length<=7)(h:nm2 b at_ x0 st i x):Wd x:=by
 obtain⟨c,_,hc,e⟩:=h;have l:=Ih x;rw[e,aA,List.length_cons,bf,List.length_drop]at l;refine⟨?_,by lia,by omega⟩;unfold Lt;rw[e,List.all_eq_true];rw[List.all_eq_true]at hb;intro d hd;rcases Y1.mp hd with hd|hd
 .exact hb d (List.mem_of_mem_take hd)
 .rcases YU.mp hd with rfl|hd
  .exact hc
  .exact hb d (List.mem_of_mem_drop hd)
noncomputable def JF:Sp:=λvs H Q _=>∃(c:Int)(n:Nat),vs=[.int c,.int n]/\n<=12/\∀(l:Addr)(xs:Β)H',Same H H'->H l=none->H' l=some (.lst (xs.map V.str))->xs.length=n->(∀x∈xs,Wd x)->xs.Nodup->Q (.ref l) H'
theorem R9(F:Fun K xg xg zB f fd)(T:Txt K mg D):cC P w K mg base CX0 1 f fd vG JF:=by
 refine F.ok Bb ?_ ?_
 .rintro _ _ _ _ ⟨c,n,rfl,_⟩;rfl
 .rintro cdv A outer s H _ Q E hr ⟨c,n,rfl,hn,q⟩;have z1000:1000<=sizeLine:=by decide
  have lL:(Str.ofString "abcdefghijklmnopqrstuvwxyz").length<=sizeLine:=aM (show(Str.ofString "abcdefghijklmnopqrstuvwxyz").length<=1000 by decide +kernel) z1000;refine⟨_,(bK (bZ (i:=2) Bb.nd rfl (Or.inr rfl) pA)
   (bK (bZ (i:=3) Bb.nd rfl (Or.inr rfl) (bY Xw (bU Ky (pv 2) (bY h_ (bY fV (pv 0) bI) bI) (λ_ _=>rfl)) (bY h_ (bY fV (pv 0) bI) bI)))
   (bN (cD (n6 (bM zB) Hw Hw ["_law_k"] (d9 (by rfl) T.jf (bD (pv 1) bF).mono) (fQ (i:=0)) eU (bY Xb (pv 4) (bU Ky (pv 3) (bY h_ (bY dW (pv 1) (bY cL bI (pv 0))) bI) (λ_ _=>rfl)))))))),?_⟩
  obtain⟨a,ea⟩ : ∃a,c.fdiv 26%26=a:=⟨_,rfl⟩;obtain⟨b,eb⟩ : ∃b,c.fdiv 676%3=b:=⟨_,rfl⟩;have a0:0<=a/\a<26:=by lia
  have b0:0<=b/\b<3:=by lia
  obtain⟨h1,e1,g1,lc1⟩:=Sy a0.1 a0.2;refine cA ?_;dsimp only[cB,L2.start,List.set_cons_succ,List.set_cons_zero];refine bQ λR1 hR1=>?_;refine cA ⟨_,rfl,_,rfl,_,_,rfl,rfl,⟨by decide,Bd.sm (by decide)⟩,_,_,rfl,rfl,(show(0:Int)<26 by decide),_,_,h1,rfl,rfl,lL,by rw[ea];exact e1,_,rfl,_,_,rfl,rfl,⟨by decide,Bd.sm (by decide)⟩,_,_,rfl,rfl,(show(0:Int)<3 by decide),h1,b,rfl,by rw[<- eb],b0.1,by lia,λz hz=>?_⟩;subst hR1;dsimp only[cB,List.set_cons_succ,List.set_cons_zero];refine yP ?_;have zl:=Ih z;rw[hz,aN]at zl;have za:z.cps.toList.all Dh=true:=by
   rw[hz,List.all_eq_true];intro d hd;rw[(XV.mp hd).2];exact lc1
  refine⟨_,rfl,n,rfl,by exact aM hn (by decide),λD2 hD2=>⟨rJ (nm2 z.cps.toList z.length c 5) D2 H,⟨[],rfl,rfl,by simp,rfl⟩,?_,?_⟩⟩
  .rintro k ys Hc hk j hy;obtain⟨d,e2,g2,lc2⟩:=Sy (a:=(c+5*(k:Int))%26) (Z3 _ (by decide)) (YY _ (by decide));refine⟨_,rfl,_,rfl,_,rfl,_,rfl,_,_,rfl,rfl,⟨Bd.sm (by decide),Bd.sm (by lia)⟩,_,_,rfl,rfl,_,_,rfl,rfl,(show(0:Int)<26 by decide),_,_,d,rfl,rfl,lL,e2,_,_,rfl,rfl,aM (show z.length+1<=1000 by lia) z1000,⟨j.at_,j.next ⟨d,g2,lc2,?_⟩⟩⟩;rw[<- Ih z,aP,List.drop_length];exact Array.toList_append
  .rintro ys Hc ⟨ss,rfl,hsl,hss,rfl⟩ hy;exact q D2 ss _ (Same.upd hD2) hD2 bG hsl (aas hss λi x hi h=>Zi za (by rw[hz,aN];lia) h) (Xc hss λi j x ij hj h1 h2=>Xj (.inr (.inr (.inl rfl))) ij (by lia) h1 h2)
theorem WF.keys{H:Hp} : ∀{xs:Μ}{gs:List (Str×Int×Int)}{ws:List (Str×Addr)},WF K H xs gs ws->ws.map (·.1)=gs.map (·.1)
 |_,_,_,.nil=>rfl
 |_,_,_,.cons _ _ r=>by rw[List.map_cons,List.map_cons,r.keys]
noncomputable def q_(ns:Β)(ws:List (Nat×Int)):List (Str×Int):=ws.map λg=>(ns.getD g.1 Str.empty,g.2)
structure vL(K:Frag)(q n:Nat)(ns:Β)(H H':Hp)(d:Addr)(g:Dr):Prop where
 ex:∃(p lp:Addr)(f:Ι)(ws:List (Nat×Int))(xs:Μ),H d=some (.tup [.ref p,.ref lp])/\H p=some (.tup [.int f.1,.int f.2])/\vM H lp (chL ws (c7 ws))/\wk q n f ws/\ns.length=n/\g.p=p/\WF K H' xs (Ac.ways (q_ ns ws) (c7 ws)) g.ws
theorem vL.on{q n:Nat}{ns:Β}{H H' H2:Hp}{d:Addr}{g:Dr}(S:Same H' H2)(h:vL K q n ns H H' d g):vL K q n ns H H2 d g:=by
 obtain⟨p,lp,f,ws,xs,a1,a2,a3,a4,a5,a6,b⟩:=h.ex;exact⟨p,lp,f,ws,xs,a1,a2,a3,a4,a5,a6,b.same S⟩
theorem vL.up{q n:Nat}{ns:Β}{H H' H2:Hp}{d:Addr}{g:Dr}(S:Same H H2)(h:vL K q n ns H H' d g):vL K q n ns H2 H' d g:=by
 obtain⟨p,lp,f,ws,xs,a1,a2,a3,a4,a5,a6,b⟩:=h.ex;exact⟨p,lp,f,ws,xs,S _ _ a1,S _ _ a2,a3.same S,a4,a5,a6,b⟩
theorem Gi{q n:Nat}{f:Ι}{ns:Β}{ws:List (Nat×Int)}(h:wk q n f ws):∀z∈q_ ns ws,0<z.2:=λz hz=>by
 unfold q_ at hz;obtain⟨g,hg,rfl⟩:=YV.mp hz;have:=(h.at_ g hg).2.1;show 0<g.2;lia
theorem JG{q n:Nat}{f:Ι}{ns:Β}{ws:List (Nat×Int)}(h:wk q n f ws)(ln:ns.length=n):∀z∈q_ ns ws,z.1∈ns:=λz hz=>by
 unfold q_ at hz;obtain⟨g,hg,rfl⟩:=YV.mp hz;have:=(h.at_ g hg).1;show ns.getD g.1 Str.empty∈ns;rw[au,aj (by lia)];exact aV _
theorem vL.few{q n:Nat}{ns:Β}{H H':Hp}{d:Addr}{g:Dr}(h:vL K q n ns H H' d g):g.ws.length<=8/\∀z∈g.ws,z.1∈ns:=by
 obtain⟨p,lp,f,ws,xs,a1,a2,a3,a4,a5,a6,b⟩:=h.ex;have lo:∀z∈q_ ns ws,0<=z.2:=λz hz=>XY (Gi a4 z hz);have k:=b.keys;constructor
 .have e1:=ZH List.length k;rw[ak,ak]at e1;have e2:=Ac.Ve lo (c7 ws);have e3:(q_ ns ws).length=ws.length:=ak ..;have:=a4.few;lia
 .intro z hz;have hz:=List.mem_map_of_mem (f:=(·.1)) hz;rw[k]at hz;obtain⟨v,hv,e⟩:=YV.mp hz;obtain⟨u,hu,e'⟩:=YV.mp (Ac.Um hv);rw[<- e,<- e'];exact JG a4 a5 u hu
structure sX(K:Frag)(q n:Nat)(ns:Β)(H H':Hp)(ds:Ε)(gs:List Dr):Prop where
 len:gs.length=ds.length
 at_:∀(j:Nat)(d:Addr)(g:Dr),ds[j]?=some d->gs[j]?=some g->vL K q n ns H H' d g
theorem sX.on{q n:Nat}{ns:Β}{H H' H2:Hp}{ds:Ε}{gs:List Dr}(S:Same H' H2)(h:sX K q n ns H H' ds gs):sX K q n ns H H2 ds gs:=⟨h.len,λj d g e1 e2=>(h.at_ j d g e1 e2).on S⟩
theorem sX.up{q n:Nat}{ns:Β}{H H' H2:Hp}{ds:Ε}{gs:List Dr}(S:Same H H2)(h:sX K q n ns H H' ds gs):sX K q n ns H2 H' ds gs:=⟨h.len,λj d g e1 e2=>(h.at_ j d g e1 e2).up S⟩
theorem sX.mem{q n:Nat}{ns:Β}{H H':Hp}{ds:Ε}{gs:List Dr}(h:sX K q n ns H H' ds gs){g:Dr}(hg:g∈gs):∃d,vL K q n ns H H' d g:=by
 obtain⟨j,hj⟩:=aW hg;have lj:j<ds.length:=by rw[<- h.len];exact(ao.mp hj).1
 exact⟨_,h.at_ j _ g (aj lj) hj⟩
theorem sX.snoc{q n:Nat}{ns:Β}{H H':Hp}{ds:Ε}{gs:List Dr}{d:Addr}{g:Dr}(h:sX K q n ns H H' ds gs)(hd:vL K q n ns H H' d g):sX K q n ns H H' (ds++[d]) (gs++[g]):=by
 have l:=h.len;refine⟨by rw[aA,aA,l];rfl,λj d' g' e1 e2=>?_⟩;rcases d_ e1 with⟨a,b⟩|⟨a,b⟩<;>rcases d_ e2 with⟨c,e⟩|⟨c,e⟩
 .exact h.at_ j d' g' b e
 .lia
 .lia
 .subst b;subst e;exact hd
theorem uq.snoc{H:Hp}{xs:Μ}{gs:List Dr}{s:Addr}{g:Dr}(h:uq D H xs gs)(hs:RP D H s g):uq D H (xs++[.ref s]) (gs++[g]):=by
 have l:=h.len;refine⟨by rw[aA,aA,l];rfl,λk g' e=>?_⟩;rcases d_ e with⟨a,b⟩|⟨a,b⟩
 .obtain⟨s',c,d⟩:=h.at_ k g' b;exact⟨s',by rw[aD (by lia)];exact c,d⟩
 .subst b;exact⟨s,by rw[aC (by lia),l,a,Nat.sub_self];rfl,hs⟩
theorem j8.snoc{H:Hp}{xs ys:Μ}{rms:List (Str×List Dr)}{t l:Addr}{g:Str×List Dr}(h:j8 D H xs rms)(ht:H t=some (.tup [.str g.1,.ref l]))(hl:H l=some (.lst ys))(hd:uq D H ys g.2):j8 D H (xs++[.ref t]) (rms++[g]):=by
 have le:=h.len;refine⟨by rw[aA,aA,le];rfl,λk g' e=>?_⟩;rcases d_ e with⟨a,b⟩|⟨a,b⟩
 .obtain⟨t',l',ys',c,d⟩:=h.at_ k g' b;exact⟨t',l',ys',by rw[aD (by lia)];exact c,d⟩
 .subst b;exact⟨t,l,ys,by rw[aC (by lia),le,a,Nat.sub_self];rfl,ht,hl,hd⟩
structure rE(K:Frag)(q n:Nat)(H:Hp)(dss:List (Ε))(rms:List (Str×List Dr)):Prop where
 len:rms.length=dss.length
 at_:∀(j:Nat)(ds:Ε)(g:Str×List Dr),dss[j]?=some ds->rms[j]?=some g->sX K q n (rms.map (·.1)) H H ds g.2
theorem vV{as:Ε}{H:Hp}(hls:∀l∈as,∃zs,H l=some (.lst zs)){b:Addr}{u:HO}(nu:∀zs,u≠.lst zs)(e:H b=some u):del as H b=some u:=cW (λz=>by
 obtain⟨zs,hz⟩:=hls b z;rw[hz]at e;injection e with e;exact nu zs e.symm) e
theorem WF.off{as:Ε}{H:Hp}(hls:∀l∈as,∃zs,H l=some (.lst zs)){xs:Μ}{gs:List (Str×Int×Int)}{ws:List (Str×Addr)}(h:WF K H xs gs ws):WF K (del as H) xs gs ws:=by
 refine h.imp (λt ys e=>vV hls (by intro z y;cases y) e) λc xs e=>?_;rcases e with(e|⟨o,e⟩)|e
 .exact .inl (.inl (vV hls (by intro z y;cases y) e))
 .exact .inl (.inr ⟨o,vV hls (by intro z y;cases y) e⟩)
 .exact .inr e
theorem WF.get{H:Hp} : ∀{xs:Μ}{gs:List (Str×Int×Int)}{ws:List (Str×Addr)}{k:Nat}{g:Str×Addr},WF K H xs gs ws->ws[k]?=some g->∃x,gs[k]?=some (g.1,x)/\SqT K H g.2 [.int x.1,.int x.2]
 |_,_,_,_,_,.nil,e=>by simp at e
 |_,_,_,0,_,.cons (x:=x) (y:=y) h1 h2 r,e=>by
  rw[List.getElem?_cons_zero]at e;cases e;exact⟨(x,y),rfl,h2⟩
 |_,_,_,k+1,_,.cons h1 h2 r,e=>by
  rw[List.getElem?_cons_succ]at e ⊢;exact r.get e
theorem WF.len2{H:Hp} : ∀{xs:Μ}{gs:List (Str×Int×Int)}{ws:List (Str×Addr)},WF K H xs gs ws->ws.length=gs.length
 |_,_,_,.nil=>rfl
 |_,_,_,.cons _ _ r=>ZH (· + 1) r.len2
theorem Yv{u S:Int}(hS:0<S)(u0:0<=u)(u1:u<=S):0<=(Ac.lw u S).1/\(Ac.lw u S).1<=(Ac.lw u S).2:=by
 have p:=Ac.dX (t:=u) hS;have e:=Ac.vC (t:=u) hS;generalize(Ac.lw u S).1=x at *;generalize(Ac.lw u S).2=y at *;constructor
 .refine Int.not_lt.mp λz=>?_;have h1:x*S<0:=Int.mul_neg_of_neg_of_pos z hS;have h2:0<=u*y:=Int.mul_nonneg u0 (XY p);lia
 .refine Int.not_lt.mp λz=>?_;have h1:y*S<x*S:=Int.mul_lt_mul_of_pos_right z hS;have h2:u*y<=S*y:=Int.mul_le_mul_of_nonneg_right u1 (XY p);have h3:S*y=y*S:=Int.mul_comm ..;lia
theorem zK{t b:Int}(hb:0<b):vl (Ac.lw t b)=vl (t,b):=Uz (Ac.dX hb) hb (Ac.vC hb)
theorem M8:∀{gs acc:List (Str×Int)},((acc++gs).map (·.1)).Nodup->gs.foldl (λa g=>Ac.put a g.1 (Ac.look a g.1+g.2)) acc=acc++gs
 |[],acc,_=>(List.append_nil _).symm
 |g::gs,acc,nd=>by
  have n0:g.1∉acc.map (·.1):=λz=>by
   rw[bA,List.nodup_append]at nd;exact nd.2.2 _ z g.1 (by simp) rfl
  have e1:Ac.look acc g.1=0:=by
   unfold Ac.look;rw[List.find?_eq_none.mpr λx hx=>by simpa using λz:x.1=g.1=>n0 (z ▸ List.mem_map_of_mem hx)]
   rfl
  have e2:Ac.put acc g.1 g.2=acc++[g]:=by
   unfold Ac.put;rw[ZZ];intro z;obtain⟨x,hx,e⟩:=List.any_eq_true.mp z;have e:x.1=g.1:=of_decide_eq_true e;exact n0 (e ▸ List.mem_map_of_mem hx)
  rw[List.foldl_cons,e1,Int.zero_add,e2,M8 (by rw[WZ];exact nd),WZ]
  rfl
theorem Tv{gs:List (Str×Int)}{S:Int}(nd:(gs.map (·.1)).Nodup)(lo:∀g∈gs,0<g.2):Ac.ways gs S=gs.map λg=>(g.1,Ac.lw g.2 S):=by
 unfold Ac.ways Ac.iC;rw[M8 (acc:=[]) nd,List.nil_append,List.filter_eq_self.mpr λg hg=>Zs (lo g hg)]
theorem X4{q n:Nat}{f:Ι}{ns:Β}{ws:List (Nat×Int)}(h:wk q n f ws)(ln:ns.length=n)(nd:ns.Nodup):((q_ ns ws).map (·.1)).Nodup:=by
 unfold q_;rw[List.map_map];have a:=h.nd;have hb:∀r∈ws.map (·.1),r<n:=λr hr=>by
  obtain⟨g,hg,rfl⟩:=YV.mp hr;exact(h.at_ g hg).1
 have e:ws.map ((·.1) ∘ λg:Nat×Int=>(ns.getD g.1 Str.empty,g.2))=(ws.map (·.1)).map λr=>ns.getD r Str.empty:=by rw[List.map_map];rfl
 rw[e];generalize ws.map (·.1)=rs at a hb;unfold List.Nodup at *;rw[List.pairwise_map];refine a.imp_of_mem λ{x y}hx hy ne z=>ne ?_;have lx:=hb x hx;have ly:=hb y hy;have e1:=aj (l:=ns) (i:=x) (by lia);have e2:=aj (l:=ns) (i:=y) (by lia);rw[au,au,e1,e2]at z;exact rP nd e1 (by rw[e2];exact ZH some z.symm)
theorem Cd{S:Int}(hS:0<S):∀{ws:List (Nat×Int)},iU (chL ws S) (λ_=>1)=((c7 ws:Int):Rat)/(S:Rat)
 |[]=>by
  show(0:Rat)=((0:Int):Rat)/(S:Rat);rw[Rat.intCast_zero]
  grind
 |g::ws=>by
  show vl (Ac.lw g.2 S)*1+iU (chL ws S) (λ_=>1)=(((g.2+c7 ws:Int)):Rat)/(S:Rat);rw[Cd hS,zK hS,Rat.intCast_add];have:=cI hS;unfold vl
  grind
theorem CP{ws:List (Nat×Int)}(lo:∀g∈ws,0<=g.2):0<=c7 ws/\∀g∈ws,g.2<=c7 ws:=by
 induction ws with
 |nil=>exact⟨by decide,by simp⟩
 |cons a ws ih =>
  have h:=ih λg hg=>lo g (aH _ hg);have a0:=lo a aO;have e:c7 (a::ws)=a.2+c7 ws:=rfl;refine⟨by lia,λg hg=>?_⟩;rcases YU.mp hg with z|z
  .rw[z];omega
  .have:=h.2 g z;lia
theorem wk.sum{q n:Nat}{f:Ι}{ws:List (Nat×Int)}(h:wk q n f ws):0<c7 ws/\c7 ws<=54:=by
 have:=h.q1;have:=h.q6;rw[h.par];lia
theorem wk.door{q n:Nat}{f:Ι}{ws:List (Nat×Int)}(h:wk q n f ws):Pg n (c7 ws).toNat (chL ws (c7 ws)):=by
 obtain⟨S0,S1⟩:=h.sum;have lo:∀g∈ws,0<=g.2:=λg hg=>by have:=(h.at_ g hg).2.1;lia
 have l:(chL ws (c7 ws)).length=ws.length:=ak ..;refine⟨by lia,by lia,by rw[l];have:=h.few;exact aM this (by decide),?_,λc hc=>?_⟩
 .unfold rA;rw[aP,Cd S0];have:=cI S0
  grind
 .unfold chL at hc;obtain⟨g,hg,rfl⟩:=YV.mp hc;exact⟨(h.at_ g hg).1,Ac.dX S0,by rw[Int.toNat_of_nonneg (XY S0)];exact Int.ediv_dvd_of_dvd (Int.gcd_dvd_right g.2 _),Yv S0 (lo g hg) ((CP lo).2 g hg)⟩
structure Aq(q n:Nat)(H:Hp)(d:Addr)(fc:Ι×Θ):Prop where
 ex:∃(p lp:Addr)(ws:List (Nat×Int)),H d=some (.tup [.ref p,.ref lp])/\H p=some (.tup [.int fc.1.1,.int fc.1.2])/\vM H lp (chL ws (c7 ws))/\wk q n fc.1 ws/\fc.2=chL ws (c7 ws)
theorem Aq.same{q n:Nat}{H H':Hp}{d:Addr}{fc:Ι×Θ}(h:Aq q n H d fc)(S:Same H H'):Aq q n H' d fc:=by
 obtain⟨p,lp,ws,a,b,c,e,f⟩:=h.ex;exact⟨p,lp,ws,S _ _ a,S _ _ b,c.same S,e,f⟩
structure Ce(q:Nat)(fc:Ι×Θ):Prop where
 fq:Fq fc.1
 fb:fc.1.2<=1000
 few:fc.2.length<=6
 fa:fc.1.1.natAbs<=10^30
 wy:∃ws:List (Nat×Int),fc.2=chL ws q/\c7 ws=q/\∀g∈ws,0<=g.2
theorem vL.fc{q n:Nat}{ns:Β}{H:Hp}{d:Addr}{g:Dr}(h:vL K q n ns H H d g)(nd:ns.Nodup)(ln:ns.length=n):∃fc:Ι×Θ,DrN K H ns g fc.1 fc.2/\uo n fc.1 fc.2/\Aq q n H d fc/\Ce q fc:=by
 obtain⟨p,lp,f,ws,xs,a1,a2,a3,a4,a5,a6,b⟩:=h.ex;obtain⟨S0,S1⟩:=a4.sum;have dE:=a4.door;have fq:Fq f:=⟨a4.f0,a4.fg,aM a4.fa (by decide),by
  have h1:=a4.fb;have h2:=a4.f0;have:(10:Nat)^3<=10^40:=by decide
  omega⟩
 have wl:=b.len2;rw[Tv (X4 a4 ln nd) (Gi a4)]at b wl;have nl:(q_ ns ws).length=ws.length:=ak ..;have cl:(chL ws (c7 ws)).length=ws.length:=ak ..;rw[ak,nl]at wl;refine⟨(f,chL ws (c7 ws)),⟨by rw[a6];exact a2,by rw[wl,cl],λk u c e1 e2=>?_⟩,⟨⟨fq.pos,fq.sa,fq.sb⟩,dE.few,λc hc=>?_,?_⟩,⟨p,lp,ws,a1,a2,a3,a4,rfl⟩,⟨fq,a4.fb,by rw[cl];exact a4.few,a4.fa,ws,by rw[a4.par],a4.par,λg hg=>by have:=(a4.at_ g hg).2.1;lia⟩⟩
 .obtain⟨z,ez,hz⟩:=b.get e1;rw[aq]at ez;unfold q_ at ez;unfold chL at e2;rw[aq]at ez e2;cases ew:ws[k]? with
  |none=>rw[ew]at e2;cases e2
  |some v =>
   rw[ew]at e2 ez;cases e2;have ez:=Option.some.inj ez;have e3:ns.getD v.1 Str.empty=u.1:=ZH Prod.fst ez;have e4:Ac.lw v.2 (c7 ws)=z:=ZH Prod.snd ez;have lv:=(a4.at_ v (aB ew)).1;rw[<- e4]at hz;refine⟨?_,hz⟩;rw[<- e3,au,aj (show v.1<ns.length by lia)];rfl
 .have h1:=dE.ch c hc;unfold chL at hc;obtain⟨v,hv,rfl⟩:=YV.mp hc;have b1:=Ac.Cz v.2 (c7 ws);have b2:=Ac.vO v.2 (c7 ws);have:=a4.at_ v hv;have:(10:Nat)^3<=10^40:=by decide
  exact⟨h1.1,Ac.dX S0,Ac.pN S0,by show(Ac.lw v.2 (c7 ws)).1.natAbs<=_;lia,by show(Ac.lw v.2 (c7 ws)).2.natAbs<=_;omega⟩
 .have dv:lvB (chF (chL ws (c7 ws))) ∣ (c7 ws).natAbs:=Lv.vU.mpr λc hc=>by
   unfold Qt chF at hc;obtain⟨f,hf,rfl⟩:=YV.mp hc;obtain⟨c2,hc2,rfl⟩:=YV.mp hf;have:=(dE.ch c2 hc2).2.2.1;rw[Int.toNat_of_nonneg (XY S0)]at this;exact Int.natAbs_dvd_natAbs.mpr this
  have le:=Nat.le_of_dvd (by omega) dv;unfold Bn;rw[XG];show lvB (chF (chL ws (c7 ws)))<=_;have:(10:Nat)^3<=10^60:=by decide
  omega
theorem rF{α β:Type} : ∀{l:List α}{P:Nat->α->β->Prop},(∀k a,l[k]?=some a->∃b,P k a b)->∃m:List β,m.length=l.length/\∀k a b,l[k]?=some a->m[k]?=some b->P k a b
 |[],_,_=>⟨[],rfl,λk a b e=>by simp at e⟩
 |a::l,P,h=>by
  obtain⟨b,hb⟩:=h 0 a rfl;obtain⟨m,lm,hm⟩:=rF (l:=l) (P:=λk=>P (k+1)) λk a e=>h (k+1) a e;refine⟨b::m,ZH (· + 1) lm,λk a' b' e1 e2=>?_⟩;cases k with
  |zero =>
   cases e1;cases e2;exact hb
  |succ k=>exact hm k a' b' e1 e2
theorem sX.fcs{q n:Nat}{ns:Β}{H:Hp}{ds:Ε}{gs:List Dr}(h:sX K q n ns H H ds gs)(nd:ns.Nodup)(ln:ns.length=n):∃fcs:Δ,QM K H ns n gs fcs/\fcs.length=ds.length/\∀(k:Nat)d fc,ds[k]?=some d->fcs[k]?=some fc->Aq q n H d fc/\Ce q fc:=by
 obtain⟨m,lm,hm⟩:=rF (l:=ds) (P:=λk d(fc:Ι×Θ)=>∀g,gs[k]?=some g->DrN K H ns g fc.1 fc.2/\uo n fc.1 fc.2/\Aq q n H d fc/\Ce q fc) λk d e=>by
  have lk:k<gs.length:=by rw[h.len];exact(ao.mp e).1
  obtain⟨fc,p⟩:=(h.at_ k d _ e (aj lk)).fc nd ln;exact⟨fc,λg eg=>by rw[aj lk]at eg;cases eg;exact p⟩
 refine⟨m,⟨by rw[h.len,lm],λk d fc e1 e2=>?_⟩,lm,λk d fc e1 e2=>?_⟩
 .have lk:k<ds.length:=by rw[<- lm];exact(ao.mp e2).1
  obtain⟨a,b,_⟩:=hm k _ fc (aj lk) e2 d e1;exact⟨a,b⟩
 .have lk:k<gs.length:=by rw[h.len];exact(ao.mp e1).1
  exact(hm k d fc e1 e2 _ (aj lk)).2.2
structure Yx(q n:Nat)(H:Hp)(ds:Ε)(fcs:Δ):Prop where
 len:fcs.length=ds.length
 at_:∀(j:Nat)d fc,ds[j]?=some d->fcs[j]?=some fc->Aq q n H d fc
structure uE(q:Nat)(H:Hp)(r:Addr)(fcss:Γ):Prop where
 ex:∃xs,H r=some (.lst xs)/\xs.length=fcss.length/\∀(k:Nat)fcs,fcss[k]?=some fcs->∃l ds,xs[k]?=some (.ref l)/\H l=some (.lst (ds.map V.ref))/\ds.length<=64/\Yx q fcss.length H ds fcs
theorem uE.same{q:Nat}{H H':Hp}{r:Addr}{fcss:Γ}(S:Same H H')(h:uE q H r fcss):uE q H' r fcss:=by
 obtain⟨xs,a,b,c⟩:=h.ex;refine⟨xs,S _ _ a,b,λk fcs e=>?_⟩;obtain⟨l,ds,d1,d2,d3,d4⟩:=c k fcs e;exact⟨l,ds,d1,S _ _ d2,d3,d4.len,λj d fc e1 e2=>(d4.at_ j d fc e1 e2).same S⟩
theorem UJ{q n m:Nat}{H:Hp}{o p r:Addr}{x y:Int}{xs:Μ}{dss:List (Ε)}{rms:List (Str×List Dr)}(hh:ji D H o p rms)(ok:Jd rms)(hi:rE K q n H dss rms)(hp:H p=some (.tup [.int x,.int y]))(x0:0<=x)(xy:x<y)(y1:y<=100)(hr:H r=some (.lst xs))(rd:RD q n H xs dss)(ld:dss.length=n)(n12:n<=12)(dm:∀ds∈dss,ds.length<=m)(m3:m<=6) :
  ∃fcss,fcss.length=n/\vI K D H o (x,y) fcss/\uE q H r fcss/\∀fcs∈fcss,fcs.length<=m/\∀fc∈fcs,Ce q fc:=by
 have rl:rms.length=n:=by rw[hi.len,ld]
 have b:∀z:Int,0<=z->z<=100->Bn 40 z:=λz h1 h2=>by unfold Bn;lia
 have fw:∀g∈rms,∀d∈g.2,d.ws.length<=100:=λg hg d hd=>by
  obtain⟨j,hj⟩:=aW hg;have lj:j<dss.length:=by rw[<- hi.len];exact(ao.mp hj).1
  obtain⟨_,z⟩:=(hi.at_ j _ g (aj lj) hj).mem hd;exact aM z.few.1 (by decide)
 obtain⟨fcss,fl,hf⟩:=rF (l:=rms) (P:=λk g(fcs:Δ)=>QM K H (rms.map (·.1)) n g.2 fcs/\(∃l ds,xs[k]?=some (.ref l)/\H l=some (.lst (ds.map V.ref))/\ds.length<=64/\Yx q n H ds fcs)/\fcs.length<=m/\∀fc∈fcs,Ce q fc) λk g eg=>by
  have lk:k<n:=by rw[<- rl];exact(ao.mp eg).1
  have ed:dss[k]?=some (dss[k]'(by lia)):=aj _;have ri:=hi.at_ k _ _ ed eg;obtain⟨l,a1,a2,_⟩:=rd.at_ k _ ed;obtain⟨fcs,d1,d2,d3⟩:=ri.fcs ok.nd (by rw[ak,rl]);have dl:=dm _ (aB ed);refine⟨fcs,d1,⟨l,_,a1,a2,by lia,d2,λj d fc e1 e2=>(d3 j d fc e1 e2).1⟩,by exact aM (Nat.le_of_eq d2) dl,λfc hfc=>?_⟩;obtain⟨j,ej⟩:=aW hfc;have lj:j<(dss[k]'(by lia)).length:=by rw[<- d2];exact(ao.mp ej).1
  exact(d3 j _ fc (aj lj) ej).2
 have fn:fcss.length=n:=by rw[fl,rl]
 refine⟨fcss,fn,⟨⟨p,rms,hh,⟨ok.len,ok.few,fw⟩,ok.nd,hp,by rw[fl],λk g fcs e1 e2=>by rw[fn];exact(hf k g fcs e1 e2).1⟩,by show 0<y;exact Int.lt_of_le_of_lt x0 xy,b _ x0 (by show x<=100;exact Int.le_trans (XY xy) y1),b _ (by show 0<=y;exact Int.le_trans x0 (XY xy)) y1,by exact aM (Nat.le_of_eq fn) n12⟩,⟨xs,hr,by rw[rd.len,ld,fn],λk fcs e=>?_⟩,λfcs hfc=>?_⟩
 .have lk:k<rms.length:=by rw[<- fl];exact(ao.mp e).1
  rw[fn];exact(hf k _ fcs (aj lk) e).2.1
 .obtain⟨k,e⟩:=aW hfc;have lk:k<rms.length:=by rw[<- fl];exact(ao.mp e).1
  exact(hf k _ fcs (aj lk) e).2.2
noncomputable def bJ(D1:Addr)(gs:List (Str×Int))(S:Int)(H:Hp)(k:Nat)(ys:Μ)(H':Hp):Prop:=Same H H'/\H' D1=some (.lst ys)/\PW H' ys (gs.take k) S
theorem PW.snocT{H:Hp}{xs:Μ}{gs:List (Str×Int)}{S x:Int}{m:Str}{t c:Addr}(h:PW H xs gs S)(ht:H t=some (.tup [.str m,.ref c]))(hc:H c=some (.tup [.int (Ac.lw x S).1,.int (Ac.lw x S).2])):PW H (xs++[.ref t]) (gs++[(m,x)]) S:=by
 refine⟨by rw[aA,aA,h.len];rfl,λk g' e=>?_⟩;by_cases hk:k<gs.length
 .rw[aD hk]at e;obtain⟨t',c',a,b⟩:=h.at_ k g' e;exact⟨t',c',by rw[aD (by rw[h.len];exact hk)];exact a,b⟩
 .rw[aC (Nat.le_of_not_lt hk)]at e;have e0:k-gs.length=0:=by
   have:=(ao.mp e).1;simp at this;omega
  rw[e0]at e;cases e;refine⟨t,c,?_,ht,hc⟩;rw[aC (by rw[h.len];exact Nat.le_of_not_lt hk),h.len,e0];rfl
noncomputable def JD:Β:=(Str.ofString "gdab").cps.toList.map λc=>⟨#[c]⟩
theorem Uq:JD.Nodup:=by decide +kernel
theorem Vs:∀t∈JD,t.length<=1000/\mq t.cps.toList=true:=by decide +kernel
theorem Vg{j:Nat}(h:j<4):∃c,atI (Str.ofString "gdab").cps.toList (j:Int)=some c/\JD[j]?=some ⟨#[c]⟩:=by
 have l:(Str.ofString "gdab").cps.toList.length=4:=by decide +kernel
 have e:=aj (l:=(Str.ofString "gdab").cps.toList) (i:=j) (aU h (by decide));exact⟨_,b_ e,by unfold JD;rw[aq,e];rfl⟩
theorem Xd{q n:Nat}{f:Ι}{ns:Β}{ws:List (Nat×Int)}(h:wk q n f ws)(ln:ns.length=n)(wd:∀x∈ns,Wd x):Wt (q_ ns ws) (c7 ws):=by
 obtain⟨W0,W1⟩:=h.sum;refine⟨W0,by exact Int.le_trans W1 (by decide),?_,λg hg=>?_,λg hg=>XY (Gi h g hg),?_⟩
 .have:=h.few;have e:(q_ ns ws).length=ws.length:=ak ..;lia
 .have w:=wd _ (JG h ln g hg);exact⟨aM w.hi (by decide),w.word⟩
 .unfold q_;rw[List.map_map];rfl
inductive Fi(K:Frag)(D:Adr)(vs:Μ)(H:Hp)(Q:VK):Prop
 |mk (q:Nat) (p r l0:Addr) (x y:Int) (xs:Μ) (dss:List (Ε)) (ns:Β) (h0:vs=[.ref p,.ref r,.ref l0]) (h1:H p=some (.tup [.int x,.int y])) (h2:0<=x) (h3:x<y) (h4:y<=100) (h5:Int.gcd x y=1) (h6:H r=some (.lst xs)) (h7:RD q dss.length H xs dss) (h8:dss.length<=12) (h9:∀ds∈dss,ds.length<=3) (h10:H l0=some (.lst (ns.map V.str))) (h11:ns.length=dss.length) (h12:∀x∈ns,Wd x) (h13:ns.Nodup)
  (h14:∀(o:Addr)(H':Hp)(rms:List (Str×List Dr)),Same H H'->H o=none->ji D H' o p rms->Jd rms->rE K q dss.length H' dss rms->Q (.ref o) H'):Fi K D vs H Q
noncomputable def I9(K:Frag)(D:Adr):Sp:=λvs H Q _=>Fi K D vs H Q
theorem Rb(F:Fun K vQ vQ zU f fd)(T:Txt K mg D)(pC:OkI P w K mg base (CXO P w) 5 D.Mixed_init lE (uw K D))(Gv:OkI P w K mg base (CXO P w) 4 D.Hall_init mO (wR K D)):cC P w K mg base CX0 8 f fd wV (I9 K D):=by
 refine F.ok nU ?_ ?_
 .rintro _ _ _ _ ⟨q,p,r,l0,x,y,xs,dss,ns,rfl,_⟩;rfl
 .rintro cdv A outer s H _ Q E hr ⟨q,p,r,l0,x,y,xs,dss,ns,rfl,hp,x0,xy,y1,gx,hrm,rd,n12,hm,hl0,lns,wns,nns,qq⟩;refine⟨_,(bK (bZ (i:=3) nU.nd rfl (Or.inl rfl) (jz bF))
   (bK (fD PassesOwn.never rfl (d9 (by rfl) T.jf (bD (cF fW (by rfl) T.lZ PySem.boot_len (bD (pv 1) bF)) bF).mono) (cH (i:=4) nU.nd rfl (Or.inl rfl))
    (bK (bZ (i:=5) nU.nd rfl (Or.inl rfl) (jz bF))
    (bK (fD PassesOwn.never rfl (d9 (by rfl) T.jf (bD (cF fW (by rfl) T.lZ PySem.boot_len (bD (bU cu (pv 1) (pv 4) (λ_ _=>rfl)) bF)) bF).mono) (cH (i:=6) nU.nd rfl (Or.inl rfl))
     (bK (KD (bU cu (bU cu (pv 1) (pv 4) (λ_ _=>rfl)) (pv 6) (λ_ _=>rfl)) (gB (n:=2) rfl (cG (cH (i:=7) nU.nd rfl (Or.inl rfl)) (cG (cH (i:=8) nU.nd rfl (Or.inl rfl)) fK))))
     (bN (cY (kY (pv 5) (bD (J7 T.Vo pC hr.md (by rfl) T.WD Nt (bD (bU Ky pA (pv 6) (λ_ _=>rfl)) (bD (pv 7) (bD (n6 (bM zU) Ie Ie ["_law_room", "_law_chance"] (dD ((pv 8)).mono) (gB (n:=2) rfl (cG (fQ (i:=0)) (cG (fQ (i:=1)) fK))) eU (iz (bD (bU cu (pv 4) (pv 0) (λ_ _=>rfl)) (bD (pv 1) bF)))) bF)))) bF))))))
    (bN (cY (kY (pv 3) (bD (iz (bD (bU cu (pv 2) (pv 4) (λ_ _=>rfl)) (bD (pv 5) bF))) bF)))))))
   (bN (cD (J7 T.W3 Gv hr.md (by rfl) T.Zy Nt (bD (pv 0) (bD (pv 3) bF))))))),?_⟩
  have z9:100<sizeLine:=by decide
  have lx:xs.length=dss.length:=rd.len;have lG:(Str.ofString "gdab").length<=sizeLine:=aM (show(Str.ofString "gdab").length<=100 by decide +kernel) (Y2 z9);have mk:∀{G:Hp}{C s dx:Addr},G s=none->G dx=none->¬dx=s->Same G (upd (upd G dx (.own s)) s (.ins C dx [])):=λ{G C s dx}h1 h2 h3 b o e=>by
   rw[bL (bH e h1),bL (bH e h2)];exact e
  refine bQ λR1 hR1=>?_;refine cA ⟨bh _,λD1 H1 S1 f1 h1=>?_⟩;subst hR1;dsimp only[cB,L2.start,List.set_cons_succ,List.set_cons_zero];refine bQ λR1 hR1=>?_;refine cZ (gQ ⟨_,rfl,r,xs,rfl,S1 _ _ hrm,dss.length,by rw[lx],by exact Y3 n12 (by decide),λk σ H'=>∃(u4 u5 u6 u7 u8:Option V)(zs:Μ)(rms:List (Str×List Dr)),σ=[some (.ref p),some (.ref r),some (.ref l0),some (.ref D1),u4,u5,u6,u7,u8]/\Same H H'/\H' D1=some (.lst zs)/\j8 D (del [D1] H') zs rms/\rms.map (·.1)=ns.take k/\(∀g∈rms,(g.2.map (·.nm)).Nodup)/\∀(j:Nat)(ds:Ε)(g:Str×List Dr),dss[j]?=some ds->rms[j]?=some g->sX K q dss.length ns H (del [D1] H') ds g.2,⟨none,none,none,none,none,[],[],rfl,S1,h1,⟨rfl,λk g e=>by simp at e⟩,rfl,by simp,λj ds g _ e=>by simp at e⟩,?_,?_⟩)
  .rintro k σ' H2 hk ⟨u4,u5,u6,u7,u8,zs,rms,rfl,S2,hD,hR,hn,hd,hi⟩;have ed:dss[k]?=some dss[k]:=aj hk;have em:=aV hk;have en:ns[k]?=some (ns[k]'(by lia)):=aj _;generalize dss[k]=ds at ed em;generalize ns[k]'(by lia)=nk at en;have dm:=hm ds em;obtain⟨lk,ek,hlk,dd⟩:=rd.at_ k ds ed;dsimp only[cB,List.set_cons_succ,List.set_cons_zero];refine bQ λR2 hR2=>?_;refine cA ⟨bh _,λD2 H3 S3 f3 h3=>?_⟩;subst hR2;dsimp only[cB,List.set_cons_succ,List.set_cons_zero];have S03:=S2.trans S3;refine bQ λR2 hR2=>?_;refine cZ (gQ ⟨_,rfl,_,rfl,r,xs,_,_,rfl,rfl,S03 _ _ hrm,b_ ek,lk,_,rfl,S03 _ _ hlk,ds.length,by rw[ak],by exact Y3 dm (by decide),λj σ H'=>∃(u6 u7 u8:Option V)(zs2:Μ)(gs:List Dr),σ=[some (.ref p),some (.ref r),some (.ref l0),some (.ref D1),some (.int (k:Nat)),some (.ref D2),u6,u7,u8]/\Same H2 H'/\H' D2=some (.lst zs2)/\uq D (del [D1,D2] H') zs2 gs/\gs.map (·.nm)=JD.take j/\sX K q dss.length ns H (del [D1,D2] H') (ds.take j) gs,⟨u6,u7,u8,[],[],rfl,S3,h3,⟨rfl,λk g e=>by simp at e⟩,rfl,⟨rfl,λj d g _ e=>by simp at e⟩⟩,?_,?_⟩)
   .rintro j σ' H4 hj ⟨u6,u7,u8,zs2,gs,rfl,S4,h4,dr,gn,ri⟩;have e2:ds[j]?=some ds[j]:=aj hj;generalize ds[j]=d at e2;obtain⟨p1,lp,f,ws,a1,a2,a3,a4⟩:=(dd d (aB e2)).ex;obtain⟨W0,W1⟩:=a4.sum;have w3:=a4.few;obtain⟨cj,ej,ej'⟩:=Vg (j:=j) (by lia);have S04:=S2.trans S4;dsimp only[cB,List.set_cons_succ,List.set_cons_zero];refine bQ λR3 hR3=>?_;refine cA ⟨_,rfl,_,rfl,r,xs,_,_,rfl,rfl,S04 _ _ hrm,b_ ek,_,rfl,lk,_,_,_,rfl,rfl,S04 _ _ hlk,b_ (by rw[aq,e2];rfl),d,_,rfl,S04 _ _ a1,rfl,_,_,rfl,_,_,rfl,rfl,?_⟩;subst hR3;dsimp only[cB,List.set_cons_succ,List.set_cons_zero];have tw:=Vs _ (aB ej');refine⟨_,rfl,D2,zs2,rfl,h4,_,rfl,_,_,cj,rfl,rfl,lG,ej,_,rfl,?_⟩;obtain⟨cs,c1,c2,c3⟩:=(a3.same S04).ex;have cl:(chL ws (c7 ws)).length=ws.length:=ak ..;have nl:(q_ ns ws).length=ws.length:=ak ..;refine oK ⟨_,rfl,lp,cs,rfl,c1,by rw[c2,cl];exact aM w3 (by decide),λD3 hD3=>⟨bJ D3 (q_ ns ws) (c7 ws) H4,⟨Same.upd hD3,bG,rfl,λk g e=>by simp at e⟩,?_,?_⟩⟩
    .rintro i v ys Hc hi' ⟨S6,h6,pw⟩ hy hlc pre hpre;obtain⟨u1,u2,rfl⟩:=G3 hpre;have li:i<ws.length:=by rw[<- cl,<- c2];exact(ao.mp hi').1
     have ew:ws[i]?=some ws[i]:=aj li;have wm:=(a4.at_ _ (aV li)).1;generalize ws[i]=v0 at ew wm;obtain⟨tt,c,x1,x2,x3⟩:=c3 i (v0.1,Ac.lw v0.2 (c7 ws)) (by unfold chL;rw[aq,ew];rfl);rw[hi']at x1;cases x1;have eg:(q_ ns ws)[i]?=some (ns.getD v0.1 Str.empty,v0.2):=by unfold q_;rw[aq,ew];rfl
     have ev:ns[v0.1]?=some (ns.getD v0.1 Str.empty):=by rw[au,aj (by lia)];rfl
     have SS:=S04.trans S6;refine⟨_,_,rfl,S6 _ _ x2,rfl,⟨_,_,rfl,_,_,rfl,rfl,[_,_],rfl,rfl,⟨_,rfl,_,rfl,l0,_,_,_,rfl,rfl,SS _ _ hl0,b_ (by rw[aq,ev];rfl),_,rfl,jm,λp7 H7 S7 f7 h7=>?_⟩⟩⟩;have h67:=S7 _ _ h6;refine⟨h67,S7 _ _ hlc,iy hD3 (S6.trans S7),bG,?_⟩;rw[cJ eg];have tp:∀t ys',H7 t=some (.tup ys')->upd H7 D3 (.lst (ys++[.ref p7])) t=some (.tup ys'):=λt ys' e=>(bL (fH e h67 (by intro z;cases z))).trans e;exact(pw.imp λt ys e=>tp _ _ (S7 _ _ e)).snocT (c:=c) (tp _ _ h7) (tp _ _ (S7 _ _ (S6 _ _ x3)))
    .rintro ys Hc ⟨S6,h6,pw⟩ hy;rw[c2,cl,<- nl,aP]at pw;have S46:=S6;have zl:=dr.len;have gl:gs.length=j:=by
      have:=ri.len;rw[bf]at this;lia
     refine λo dx g1 g2 g3=>?_;have mk':=mk (C:=D.Mixed) g1 g2 g3;refine⟨o,dx,D.Mixed,⟨#[cj]⟩,p1,D3,f.1,f.2,ys,_,_,rfl,bG,by unfold Fam;simp,tw.1,tw.2,⟨.inl (.inl (mk' _ _ ((S04.trans S46) _ _ a2))),a4.f0,a4.fg⟩,mk' _ _ h6,pw.same mk',Xd a4 lns wns,λH8 ld ys8 us f8 kp d1=>⟨rfl,?_⟩⟩;have S68:Same Hc H8:=λb u e=>kp b u (bH e g1) (mk' b u e);have S48:=S46.trans S68;have h48:=S48 _ _ h4;have hD8:=S48 _ _ (S4 _ _ hD);refine⟨_,_,rfl,h48,by lia,?_⟩;have hls:∀l∈[D1,D2],∃zs,H8 l=some (.lst zs):=λl hl=>by
      simp only[YU,List.not_mem_nil,or_false]at hl;rcases hl with rfl|rfl
      .exact⟨_,hD8⟩
      .exact⟨_,h48⟩
     have nw:∀b,Hc b=none->b∉[D1,D2]:=λb hb z=>by
      simp only[YU,List.not_mem_nil,or_false]at z;rcases z with rfl|rfl
      .rw[S46 _ _ (S4 _ _ hD)]at hb;cases hb
      .rw[S46 _ _ h4]at hb;cases hb
     obtain⟨dx',hs⟩:=d1.at_;have wo:=d1.wf.off hls;have st:Same (del [D1,D2] H4) (del [D1,D2] H8):=nZ λb o _ e=>S48 _ _ e;have di:vL K q dss.length ns H (del [D1,D2] H8) d ⟨⟨#[cj]⟩,p1,us⟩:=⟨p1,lp,f,ws,ys8,a1,a2,a3,a4,lns,rfl,wo⟩;refine⟨_,_,_,_,gs++[⟨⟨#[cj]⟩,p1,us⟩],rfl,iy f3 (S4.trans S48),bG,?_,?_,?_⟩
     .rw[mU (by simp)];exact(dr.same st).snoc ⟨D.Mixed,dx',ld,ys8,by unfold eY;simp,cW (nw _ g1) hs,cW (nw _ (mk'.free f8)) d1.hl,wo.ways,aM di.few.1 (by decide)⟩
     .rw[bA,gn,cJ ej'];rfl
     .rw[mU (by simp),cJ e2];exact(ri.on st).snoc di
   .rintro σ' Hc ⟨u6,u7,u8,zs2,gs,rfl,S4,h4,dr,gn,ri⟩;rw[aP]at ri;have nts:(gs.map (·.nm)).Nodup:=by rw[gn];exact Uq.sublist (List.take_sublist _ _)
    subst hR2;dsimp only;have rk:rms.length=k:=by
     have:=ZH List.length hn;rw[ak,bf]at this;lia
    have zl:=hR.len;have S04:=S2.trans S4;have hDc:Hc D1=some (.lst zs):=S4 _ _ hD;refine⟨_,rfl,D1,zs,rfl,hDc,_,rfl,_,rfl,l0,_,_,_,rfl,rfl,S04 _ _ hl0,b_ (by rw[aq,en];rfl),_,rfl,jm,λt2 H5 S5 g2 h5=>⟨_,zs,rfl,S5 _ _ hDc,by lia,?_⟩⟩;have n12':D1≠D2:=bH hD f3;have n1:D1≠t2:=bH hDc g2;have st:Same (del [D1] H2) (del [D1] H5):=nZ λb o _ e=>S5 _ _ (S4 _ _ e);have s2:Same (del [D1,D2] Hc) (del [D1] H5):=λb o e=>by
     obtain⟨a,e⟩:=j9 e;exact cW (by simp at a ⊢;exact a.1) (S5 _ _ e)
    refine⟨_,_,_,_,_,zs++[.ref t2],rms++[(nk,gs)],rfl,iy f1 (S04.trans S5),bG,?_,?_,?_,?_⟩
    .rw[mU (by simp)];exact(hR.same st).snoc (cW (by simp;exact n1.symm) h5) (cW (by simp;exact n12'.symm) (S5 _ _ h4)) (dr.same s2)
    .rw[bA,hn,cJ en];rfl
    .intro g hg;rcases Y1.mp hg with hg|hg
     .exact hd g hg
     .rw[YR.mp hg];exact nts
    .intro j ds' g h1 h2;rw[mU (by simp)];rcases d_ h2 with⟨_,b⟩|⟨a,rfl⟩
     .exact(hi j ds' g h1 b).on st
     .rw[a,rk,ed]at h1;cases h1;exact ri.on s2
  .rintro σ' H2 ⟨u4,u5,u6,u7,u8,zs,rms,rfl,S2,hD,hR,hn,hd,hi⟩;subst hR1;dsimp only;refine fG ⟨_,rfl,_,rfl,λo dx g1 g2 g3=>?_⟩;have SM:=mk (C:=D.Hall) g1 g2 g3;rw[aK (Nat.le_of_eq lns)]at hn;have rl:rms.length=dss.length:=by rw[<- lns,<- hn,ak]
   have ri:∀g∈rms,∃ds∈dss,sX K q dss.length ns H (del [D1] H2) ds g.2:=λg hg=>by
    obtain⟨j,hj⟩:=aW hg;have lj:j<dss.length:=by have:=(ao.mp hj).1;exact aU this (Nat.le_of_eq rl)
    exact⟨_,aV lj,hi j _ g (aj lj) hj⟩
   have ok:Jd rms:=by
    refine⟨by lia,by rw[hn];exact nns,λg hg=>wns _ (by rw[<- hn];exact List.mem_map_of_mem hg),λg hg=>?_,hd,λg hg d hd' z hz=>?_⟩
    .obtain⟨ds,h1,h2⟩:=ri g hg;have:=hm ds h1;have:=h2.len;lia
    .obtain⟨ds,h1,h2⟩:=ri g hg;obtain⟨_,h3⟩:=h2.mem hd';rw[hn];exact h3.few.2 z hz
   refine⟨o,dx,p,D1,x,y,zs,rms,rfl,bG,⟨.inl (.inl (SM _ _ (S2 _ _ hp))),by exact Int.lt_of_le_of_lt x0 xy,gx⟩,x0,xy,Bd.sm (by lia),Bd.sm (by omega),SM _ _ hD,(hR.same jK).same SM,ok,λH5 kp hh=>⟨rfl,?_⟩⟩;have SS:Same H2 H5:=λb u e=>kp b u (bH e g1) (SM b u e);refine qq o H5 rms (S2.trans SS) (Same.free S2 g1) hh ok ⟨rl,λj ds g h1 h2=>?_⟩;rw[hn];exact((hi j ds g h1 h2).on (jK.trans SS)).up (S2.trans SS)
theorem jh.imp{H H':Hp}{xs:Μ}{ns:Ψ}(h:jh H xs ns)(T:∀p us,H p=some (.tup us)->H' p=some (.tup us)):jh H' xs ns:=⟨h.1,λi f e=>let⟨a,x1,x2,x3⟩:=h.2 i f e;⟨a,x1,T _ _ x2,x3⟩⟩
theorem jh.snoc{H:Hp}{xs:Μ}{ns:Ψ}{a:Addr}{f:Ι}(h:jh H xs ns)(ha:H a=some (.tup [.int f.1,.int f.2]))(f0:0<f.2)(fb:Bd f.2):jh H (xs++[.ref a]) (ns++[f]):=by
 have l:=h.1;refine⟨by rw[aA,aA,l];rfl,λi g e=>?_⟩;rcases d_ e with⟨z,b⟩|⟨z,b⟩
 .obtain⟨a',x1,x2⟩:=h.2 i g b;exact⟨a',by rw[aD (by lia)];exact x1,x2⟩
 .subst b;exact⟨a,by rw[aC (by lia),l,z,Nat.sub_self];rfl,ha,f0,fb⟩
noncomputable def NxP(s:Ι)(fs:Ψ)(c:Option FC)(g:Ι):Prop:=0<g.2/\Int.gcd g.1 g.2=1/\(c=none->g=(0,1))/\∀fc,c=some fc->vl g=ux s fc.1 fc.2 fs
theorem QG{cs:Θ}{i:Nat}{c:Nat×Int×Int}{h:Nat->Rat}(e:cs[i]?=some c):iU (cs.take (i+1)) h=iU (cs.take i) h+vl c.2*h c.1:=by
 rw[cJ e];unfold iU;rw[bA,List.sum_append];show _+(vl c.2*h c.1+0)=_
 grind
theorem Bp{x y u v:Int}(y0:0<y)(v0:0<v):vl (Ac.lw (x*v+u*y) (y*v))=vl (x,y)+vl (u,v):=by
 rw[zK (XZ y0 v0)];unfold vl;show((x*v+u*y:Int):Rat)/((y*v:Int):Rat)=(x:Rat)/(y:Rat)+(u:Rat)/(v:Rat);rw[Rat.intCast_add,XU,XU,XU];have:=cI y0;have:=cI v0
 grind
theorem yc{x y u v:Int}(y0:0<y)(v0:0<v):vl (Ac.lw (x*u) (y*v))=vl (x,y)*vl (u,v):=by
 rw[zK (XZ y0 v0)];unfold vl;show((x*u:Int):Rat)/((y*v:Int):Rat)=(x:Rat)/(y:Rat)*((u:Rat)/(v:Rat));rw[XU,XU];have:=cI y0;have:=cI v0
 grind
theorem Bn.lw1{n:Nat}{t b:Int}(h:Bn n t):Bn n (Ac.lw t b).1:=aM (Ac.Cz t b) h
theorem Bn.lw2{n:Nat}{t b:Int}(h:Bn n b):Bn n (Ac.lw t b).2:=aM (Ac.vO t b) h
theorem Bn.sum{m n:Nat}{x y u v:Int}(hx:Bn m x)(hy:Bn m y)(hu:Bn n u)(hv:Bn n v):Bn (m+n+1) (x*v+u*y):=(hx.mul hv).add ((hu.mul hy).up (by lia))
noncomputable def rdJ(p r l lw lf:Addr)(sh:Ι)(cs:List (Option FC))(fs:Ψ)(H:Hp)(k:Nat)(σ:L2.St)(H':Hp):Prop:=∃(u5 u6 u7 u8 u9 u10:Option V)(ys:Μ)(gs:Ψ),σ=[some (.ref p),some (.ref r),some (.ref l),some (.ref lw),some (.ref lf),u5,u6,u7,u8,u9,u10]/\Same H H'/\H' lf=some (.lst ys)/\jh H' ys gs/\gs.length=k/\∀(j:Nat)c g,cs[j]?=some c->gs[j]?=some g->NxP sh fs c g
noncomputable def Kd:Sp:=λvs H Q _=>∃(q:Nat)(p r l lw:Addr)(s:Ι)(fcss:List (List FC))(pl:List (Option Nat))(xs:Μ)(fs:Ψ),vs=[.ref p,.ref r,.ref l,.ref lw]/\H p=some (.tup [.int s.1,.int s.2])/\0<=s.1/\s.1<=s.2/\0<s.2/\s.2<=100/\uE q H r fcss/\H l=some (.lst (pl.map stV))/\L_ fcss pl/\fcss.length<=12/\H lw=some (.lst xs)/\jh H xs fs/\fs.length=fcss.length/\(∀f∈fs,Bn 200 f.1/\Bn 200 f.2) /\
 ∀t H' ys gs,Same H H'->H t=none->H' t=some (.lst ys)->jh H' ys gs->qY s (pick fcss pl) fs gs->Q (.ref t) H'
theorem Ug(F:Fun K vY vY GR f fd)(T:Txt K mg D)(qI:OkF P w K mg base 3 sS sW Al)(m_:OkF P w K mg base 3 pQ pZ xJ):cC P w K mg base CX0 4 f fd wX Kd:=by
 refine F.ok iV ?_ ?_
 .rintro _ _ _ _ ⟨q,p,r,l,lw,s,fcss,pl,xs,fs,rfl,_⟩;rfl
 .rintro cdv A outer s H _ Q E hr ⟨q,p,r,l,lw,sh,fcss,pl,xs,fs,rfl,hp,s0,s1,s2,s3,rl,hl,ft,n12,hlw,na,fl,fb,qq⟩;obtain⟨xr,r1,r2,r3⟩:=rl.ex;have cl:=pY ft;have z9:100<sizeLine:=by decide
  have b1s:Bn 2 sh.1:=by unfold Bn;lia
  have b2s:Bn 2 sh.2:=by unfold Bn;lia
  refine⟨_,(bK (bZ (i:=4) iV.nd rfl (Or.inl rfl) (jz bF))
   (bK (fD PassesOwn.never rfl (d9 (by rfl) T.jf (bD (cF fW (by rfl) T.lZ PySem.boot_len (bD (pv 1) bF)) bF).mono) (cH (i:=5) iV.nd rfl (Or.inl rfl))
    (bK (bZ (i:=6) iV.nd rfl (Or.inl rfl) (iz (bD bI (bD bI bF))))
    (bK (eF (cX Yk (bU cu (pv 2) (pv 5) (λ_ _=>rfl)) nY (cV _))
     (bK (KD (bU cu (bU cu (pv 1) (pv 5) (λ_ _=>rfl)) (bU cu (pv 2) (pv 5) (λ_ _=>rfl)) (λ_ _=>rfl)) (gB (n:=2) rfl (cG (cH (i:=7) iV.nd rfl (Or.inl rfl)) (cG (cH (i:=8) iV.nd rfl (Or.inl rfl)) fK))))
     (bK (fD PassesOwn.never rfl (dD ((pv 8)).mono) (gB (n:=2) rfl (cG (cH (i:=9) iV.nd rfl (Or.inl rfl)) (cG (cH (i:=10) iV.nd rfl (Or.inl rfl)) fK)))
      (bN (bZ (i:=6) iV.nd rfl (Or.inl rfl) (bO qI hr.md (by rfl) (bD (pv 6) (bD (bO m_ hr.md (by rfl) (bD (pv 10) (bD (bU cu (pv 3) (pv 9) (λ_ _=>rfl)) bF))) bF))))))
     (bN (bZ (i:=6) iV.nd rfl (Or.inl rfl) (bO qI hr.md (by rfl) (bD (pv 7) (bD (bO m_ hr.md (by rfl) (bD (pv 0) (bD (pv 6) bF))) bF)))))))
     cN)
    (bN (cY (kY (pv 4) (bD (pv 6) bF)))))))
   (bN (cD (pv 4))))),?_⟩
  refine bQ λR1 hR1=>?_;refine cA ⟨bh _,λlf H1 S1 f1 h1=>?_⟩;subst hR1;dsimp only[cB,L2.start,List.set_cons_succ,List.set_cons_zero];refine bQ λR1 hR1=>?_;refine cZ (gQ ⟨_,rfl,r,xr,rfl,S1 _ _ r1,fcss.length,by rw[r2],by exact Y3 n12 (by decide),rdJ p r l lw lf sh (pick fcss pl) fs H,⟨none,none,none,none,none,none,[],[],rfl,S1,h1,⟨rfl,λi f e=>by simp at e⟩,rfl,λj c g _ e=>by simp at e⟩,?_,?_⟩)
  .rintro k σ' H2 hk ⟨u5,u6,u7,u8,u9,u10,ys,gs,rfl,S2,h2,na2,gl,nx⟩;have lo:=aj (show k<pl.length by rw[ft.1];exact hk);have lfc:=aj hk;have pk:=HY ft lfc lo;obtain⟨lk',ds,q1,q2,q3,q4⟩:=r3 k _ lfc;dsimp only[cB,List.set_cons_succ,List.set_cons_zero];refine bQ λR2 hR2=>?_;refine cA ⟨jm,λw0 H3 S3 f3 h3=>?_⟩;subst hR2;dsimp only[cB,List.set_cons_succ,List.set_cons_zero];refine bQ λR2 hR2=>?_;have fin:∀(u7 u8 u9 u10:Option V)(a:Addr)(g:Ι)(c:Option FC)H4,Same H3 H4->H4 a=some (.tup [.int g.1,.int g.2])->Bd g.2->(pick fcss pl)[k]?=some c->NxP sh fs c g->R2 { nx:=rdJ p r l lw lf sh (pick fcss pl) fs H (k+1),rt:=Q,bk:=R1 { nx:=λx H'=>Q V.non H',rt:=Q },ct:=rdJ p r l lw lf sh (pick fcss pl) fs H (k+1) } [some (.ref p),some (.ref r),some (.ref l),some (.ref lw),some (.ref lf),some (.int (k:Nat)),some (.ref a),u7,u8,u9,u10] H4:=λu7 u8 u9 u10 a g c H4 S4 ha bg ec ng=>by
    subst hR2;have S24:=S3.trans S4;have h4:=S24 _ _ h2;have nt:∀p us,H4 p=some (.tup us)->upd H4 lf (.lst (ys++[.ref a])) p=some (.tup us):=λp us e=>(bL (fH e h4 (by intro z;cases z))).trans e;refine⟨_,rfl,lf,ys,rfl,h4,_,rfl,_,_,rfl,h4,by rw[na2.1,gl];exact aU (show k<64 by lia) (by decide),_,_,_,_,_,_,_,gs++[g],rfl,iy f1 (S2.trans S24),bG,((na2.imp λp us e=>S24 _ _ e).snoc ha ng.1 bg).imp nt,by rw[aA,gl];rfl,λj c' g' e1 e2=>?_⟩;rcases d_ e2 with⟨z,b⟩|⟨z,b⟩
    .exact nx j c' g' e1 b
    .subst b;rw[z,gl,ec]at e1;cases e1;exact ng
   have S03:=S2.trans S3;rcases pk with⟨e0,pz⟩|⟨j,fc,e0,ej,pz⟩
   .refine cZ (rC ⟨_,rfl,_,rfl,l,_,(k:Nat),_,rfl,rfl,S03 _ _ hl,b_ (j:=k) (by rw[aq,lo,e0];rfl),rfl,false,rfl,?_⟩);exact fin _ _ _ _ w0 (0,1) none H3 (λ_ _ z=>z) h3 (Bd.sm (by decide)) pz ⟨by decide,by decide,λ_=>rfl,λfc z=>by cases z⟩
   .refine cZ (rC ⟨_,rfl,_,rfl,l,_,(k:Nat),_,rfl,rfl,S03 _ _ hl,b_ (j:=k) (by rw[aq,lo,e0];rfl),rfl,true,ZH (λb=>V.bl (!b)) (Zp (by intro z;cases z)),?_⟩);dsimp only;rw[ZY rfl];have lj:=(ao.mp ej).1;have ljd:j<ds.length:=by rw[<- q4.len];exact lj
    have edj:=aj ljd;obtain⟨p1,lp,ws,y1,y2,y3,y4,y5⟩:=(q4.at_ j _ fc edj ej).ex;obtain⟨cs',c1,c2,c3⟩:=y3.ex;rw[<- y5]at c2 c3;have few:=y4.few;have wl:fc.2.length=ws.length:=by rw[y5];exact ak ..
    have dE:=y4.door;rw[<- y5]at dE;obtain⟨W0,W1⟩:=y4.sum;refine bQ λR3 hR3=>?_;refine cA ⟨_,rfl,_,rfl,r,xr,(k:Nat),_,rfl,rfl,S03 _ _ r1,b_ (j:=k) q1,_,rfl,_,rfl,l,_,(k:Nat),_,rfl,rfl,S03 _ _ hl,b_ (j:=k) (by rw[aq,lo,e0];rfl),lk',_,(j:Nat),_,rfl,rfl,S03 _ _ q2,b_ (j:=j) (by rw[aq,edj];rfl),_,_,rfl,S03 _ _ y1,rfl,_,_,rfl,_,_,rfl,rfl,?_⟩;subst hR3;dsimp only[cB,List.set_cons_succ,List.set_cons_zero];refine bQ λR3 hR3=>?_;refine cZ (gC ⟨_,rfl,lp,cs',rfl,S03 _ _ c1,λi σ H'=>∃(u9 u10:Option V)(a:Addr)(g:Ι),σ=[some (.ref p),some (.ref r),some (.ref l),some (.ref lw),some (.ref lf),some (.int (k:Nat)),some (.ref a),some (.ref p1),some (.ref lp),u9,u10]/\Same H3 H'/\H' a=some (.tup [.int g.1,.int g.2])/\0<g.2/\Bn (203*i+1) g.1/\Bn (203*i+1) g.2/\vl g=iU (fc.2.take i) (wq fs),⟨u9,u10,w0,(0,1),rfl,λ_ _ z=>z,h3,by decide,(show Bn 1 0 by unfold Bn;decide),(show Bn 1 1 by unfold Bn;decide),(oE 0).trans Rat.intCast_zero⟩,?_,?_⟩)
    .rintro i x σ' H4 hx ⟨u9,u10,a,g,rfl,S4,ha,g0,gb1,gb2,gv⟩ hlp4;have li:i<fc.2.length:=by rw[<- c2];exact(ao.mp hx).1
     have ec:=aj li;obtain⟨tt,b,x1,x2,x3⟩:=c3 i _ ec;rw[hx]at x1;cases x1;have cm:=aV li;have bn:=QG (h:=wq fs) ec;generalize fc.2[i]=c at *;have dc:=dE.ch c cm;have S04:=S03.trans S4;have lr:c.1<fs.length:=by rw[fl];exact dc.1
     have er:=aj lr;have mr:=aV lr;have wr:wq fs c.1=vl fs[c.1]:=by unfold wq;rw[au,er];rfl
     obtain⟨aw,v1,v2,v3,v4⟩:=na.2 c.1 _ er;generalize fs[c.1]=fw at *;obtain⟨bw1,bw2⟩:=fb fw mr;have q9:=Int.le_of_dvd (by lia) dc.2.2.1;have bc1:Bn 2 c.2.1:=by unfold Bn;lia
     have bc2:Bn 2 c.2.2:=by unfold Bn;lia
     have t1:=bc1.mul bw1;have t2:=bc2.mul bw2;have ltp:=Ac.dX (t:=c.2.1*fw.1) (XZ dc.2.1 v3);have lt1:=t1.lw1 (b:=c.2.2*fw.2);have lt2:=t2.lw2 (t:=c.2.1*fw.1);have ltv:=yc (x:=c.2.1) (u:=fw.1) dc.2.1 v3;dsimp only[cB,List.set_cons_succ,List.set_cons_zero];refine⟨tt,_,rfl,S04 _ _ x2,rfl,_,_,rfl,_,_,rfl,rfl,?_⟩;dsimp only[List.set_cons_succ,List.set_cons_zero];refine yg ⟨_,rfl,_,rfl,_,rfl,_,rfl,lw,xs,(c.1:Nat),_,rfl,rfl,S04 _ _ hlw,b_ (j:=c.1) v1,b,aw,c.2.1,c.2.2,fw.1,fw.2,rfl,S04 _ _ x3,S04 _ _ v2,bc1.bd (by decide),bc2.bd (by decide),bw1.bd (by decide),bw2.bd (by decide),dc.2.1,v3,t2.bd (by decide),λrt H5 S5 f5 h5=>?_⟩;generalize Ac.lw (c.2.1*fw.1) (c.2.2*fw.2)=z at *;have y9:203*i+1+203<=2400:=by lia
     refine⟨a,rt,g.1,g.2,z.1,z.2,rfl,S5 _ _ ha,h5,gb1.bd (by lia),gb2.bd (by lia),lt1.bd (by decide),lt2.bd (by decide),g0,ltp,(gb2.mul lt2).bd (aM (Xs _) y9),λr6 H6 S6 f6 h6=>?_⟩;have S36:=S4.trans (S5.trans S6);refine⟨S03.trans S36 _ _ c1,_,_,r6,_,rfl,S36,h6,Ac.dX (XZ g0 ltp),((Bn.sum gb1 gb2 lt1 lt2).lw1).up (by lia),((gb2.mul lt2).lw2).up (by lia),?_⟩;rw[Bp g0 ltp,bn,wr];show vl g+vl z=_;rw[gv,ltv]
    .rintro σ' H4 ⟨u9,u10,a,g,rfl,S4,ha,g0,gb1,gb2,gv⟩ hlp4;rw[c2,aP]at gv;rw[c2,wl]at gb1 gb2;subst hR3;dsimp only;have S04:=S03.trans S4;have fz:=y4.fa;have fz2:=y4.fb;have fz0:=y4.f0;have bp1:Bn 30 fc.1.1:=fz;have bp2:Bn 30 fc.1.2:=by unfold Bn;lia
     have g1':Bn 1300 g.1:=gb1.up (by lia);have g2':Bn 1300 g.2:=gb2.up (by lia);have t1:=b1s.mul g1';have t2:=b2s.mul g2';have ltp:=Ac.dX (t:=sh.1*g.1) (XZ s2 g0);have lt1:=t1.lw1 (b:=sh.2*g.2);have lt2:=t2.lw2 (t:=sh.1*g.1);have ltv:=yc (x:=sh.1) (u:=g.1) s2 g0;refine yg ⟨_,rfl,_,rfl,_,rfl,p,a,sh.1,sh.2,g.1,g.2,rfl,S04 _ _ hp,ha,b1s.bd (by decide),b2s.bd (by decide),g1'.bd (by decide),g2'.bd (by decide),s2,g0,t2.bd (by decide),λrt H5 S5 f5 h5=>?_⟩;generalize Ac.lw (sh.1*g.1) (sh.2*g.2)=z at *;have S35:=S4.trans S5;refine⟨p1,rt,fc.1.1,fc.1.2,z.1,z.2,rfl,S03.trans S35 _ _ y2,h5,bp1.bd (by decide),bp2.bd (by decide),lt1.bd (by decide),lt2.bd (by decide),fz0,ltp,(bp2.mul lt2).bd (by decide),λr6 H6 S6 f6 h6=>?_⟩;have pz0:=XZ fz0 ltp;refine fin _ _ _ _ r6 _ (some fc) H6 (S35.trans S6) h6 (((bp2.mul lt2).lw2).bd (by decide)) pz ⟨Ac.dX pz0,Ac.pN pz0,(λe=>by cases e),λfc' e=>?_⟩;cases e;rw[Bp fz0 ltp];unfold ux;rw[<- gv];show vl fc.1+vl z=_;rw[ltv]
  .rintro σ' H2 ⟨u5,u6,u7,u8,u9,u10,ys,gs,rfl,S2,h2,na2,gl,nx⟩;subst hR1;dsimp only;exact fG ⟨_,rfl,qq lf H2 ys gs S2 f1 h2 na2 ⟨by rw[gl,cl],λk c g e1 e2=>nx k c g e1 e2⟩⟩
noncomputable def t_(q:Nat):Nat->Nat->List Rat
 |0,_=>[]
 |n+1,c=>vl (((c%q:Nat):Int),(q:Int))::t_ q n (c/q)
theorem El{q:Nat} : ∀{n c:Nat},t_ q (n+1) c=t_ q n c++[vl (((c/q^n%q:Nat):Int),(q:Int))]
 |0,c=>by
  show[_]=[]++[_];rw[Nat.pow_zero,Nat.div_one];rfl
 |n+1,c=>by
  have ih:=El (q:=q) (n:=n) (c:=c/q);show _::t_ q (n+1) (c/q)=_::(t_ q n (c/q)++_);rw[ih,Nat.div_div_eq_div_mul,Nat.pow_succ,Nat.mul_comm q]
theorem W6{d z:Int}{q:Nat}(d0:0<=d)(d1:d<q):C_ (Ac.lw (d+z*q) q)=vl (d,(q:Int)):=by
 have q0:(0:Int)<q:=by exact Int.lt_of_le_of_lt d0 d1
 have e:=Ac.vC (t:=d+z*q) q0;have p:=Ac.dX (t:=d+z*q) q0;generalize Ac.lw (d+z*q) q=f at *;unfold C_;refine Uz p q0 ?_;have e2:=Int.mul_ediv_add_emod f.1 f.2;have h0:=Z3 f.1 (Int.ne_of_gt p);have h1:=YY f.1 p;generalize f.1%f.2=m at *;generalize f.1/f.2=k at *;have e3:(f.2*k+m)*q=(d+z*q)*f.2:=by rw[e2];exact e
 have e4:m*q-d*f.2=(z-k)*(q*f.2):=by grind
 have b1:m*q<q*f.2:=by rw[Int.mul_comm];exact Int.mul_lt_mul_of_pos_left h1 q0
 have b2:0<=m*q:=Int.mul_nonneg h0 (XY q0);have b3:d*f.2<q*f.2:=Int.mul_lt_mul_of_pos_right d1 p;have b4:0<=d*f.2:=Int.mul_nonneg d0 (XY p);have b5:0<(q:Int)*f.2:=XZ q0 p;have zk:z-k=0:=by
  generalize(q:Int)*f.2=N at *;rcases Int.lt_trichotomy (z-k) 0 with y|y|y
  .have:(z-k)*N <= -1*N:=Int.mul_le_mul_of_nonneg_right (by lia) (XY b5);lia
  .exact y
  .have:1*N<=(z-k)*N:=Int.mul_le_mul_of_nonneg_right (by lia) (XY b5);lia
 rw[zk,Int.zero_mul]at e4;show m*q=d*f.2;omega
noncomputable def A_:Sp:=λvs H Q _=>∃(c n q:Nat)(z:Int),vs=[.int c,.int n,.int q,.int z]/\n<=12/\1<=q/\q<=6/\∀t H' ys fs,Same H H'->H t=none->H' t=some (.lst ys)->jh H' ys fs->fs.length=n->fs.map C_=t_ q n c->Q (.ref t) H'
theorem Mh(F:Fun K qx qx yw f fd)(T:Txt K mg D)(dI:OkF P w K mg base 2 jq jt m6):cC P w K mg base CX0 3 f fd qM A_:=by
 refine F.ok qw ?_ ?_
 .rintro _ _ _ _ ⟨c,n,q,z,rfl,_⟩;rfl
 .rintro cdv A outer s H _ Q E hr ⟨c,n,q,z,rfl,n12,q1,q6,qq⟩;have z9:100<sizeLine:=by decide
  have bq:Bd (q:Int):=Bd.sm (by omega);refine⟨_,(bK (bZ (i:=4) qw.nd rfl (Or.inl rfl) (jz bF))
   (bK (fD PassesOwn.never rfl (d9 (by rfl) T.jf (bD (pv 1) bF).mono) (cH (i:=5) qw.nd rfl (Or.inl rfl))
    (bK (cY (kY (pv 4) (bD (bO dI hr.md (by rfl) (bD (bY dW (bY lU (pv 0) (pv 2)) (bY cL (bY LR (bY h_ (bY fV (pv 3) (bY dW (pv 5) bI)) bI) bI) (pv 2))) (bD (pv 2) bF))) bF)))
    (bN (bZ (i:=0) qw.nd rfl (Or.inl rfl) (bY fV (pv 0) (pv 2))))))
   (bN (cD (pv 4))))),?_⟩
  refine bQ λR1 hR1=>?_;refine cA ⟨bh _,λl H1 S1 f1 h1=>?_⟩;subst hR1;dsimp only[cB,L2.start,List.set_cons_succ,List.set_cons_zero];refine bQ λR1 hR1=>?_;refine cZ (gQ ⟨_,rfl,n,rfl,by exact Y3 n12 (by decide),λk σ H'=>∃(u:Option V)(ys:Μ)(fs:Ψ),σ=[some (.int ((c/q^k:Nat):Nat)),some (.int n),some (.int q),some (.int z),some (.ref l),u]/\Same H H'/\H' l=some (.lst ys)/\jh H' ys fs/\fs.length=k/\fs.map C_=t_ q k c,⟨none,[],[],by rw[Nat.pow_zero,Nat.div_one];rfl,S1,h1,⟨rfl,λi f e=>by simp at e⟩,rfl,rfl⟩,?_,?_⟩)
  .rintro k σ' H2 hk ⟨u,ys,fs,rfl,S2,h2,na,fl,fe⟩;dsimp only[cB,List.set_cons_succ,List.set_cons_zero];refine bQ λR2 hR2=>?_;refine cZ ⟨_,rfl,l,ys,rfl,h2,_,rfl,_,rfl,_,_,rfl,rfl,by lia,_,rfl,_,rfl,_,_,rfl,rfl,_,_,rfl,rfl,⟨by lia,Bd.sm (by omega)⟩,_,_,rfl,rfl,(show(0:Int)<7 by decide),_,_,rfl,rfl,_,rfl,_,_,rfl,rfl,⟨Bd.sm (by omega),bq⟩,_,_,rfl,rfl,_,rfl,_,_,rfl,by lia,bq,λp fp=>?_⟩;have em:((c/q^k:Nat):Int).fmod (q:Int)=((c/q^k%q:Nat):Int):=by rw[aX _ (Wp _)];rfl
   have ed:((c/q^k:Nat):Int).fdiv (q:Int)=((c/q^(k+1):Nat):Int):=by
    rw[Int.fdiv_eq_ediv_of_nonneg _ (Wp _),Nat.pow_succ,<- Nat.div_div_eq_div_mul];rfl
   have m1:c/q^k%q<q:=Nat.mod_lt _ (aU (X1 _) q1);rw[em];have S3:=Same.upd fp (o:=.tup [.int (Ac.lw (((c/q^k%q:Nat):Int)+(z.fdiv ((k:Int)+1)%7-3)*q) q).1,.int (Ac.lw (((c/q^k%q:Nat):Int)+(z.fdiv ((k:Int)+1)%7-3)*q) q).2]);have h3:upd H2 p (.tup [.int (Ac.lw (((c/q^k%q:Nat):Int)+(z.fdiv ((k:Int)+1)%7-3)*q) q).1,.int (Ac.lw (((c/q^k%q:Nat):Int)+(z.fdiv ((k:Int)+1)%7-3)*q) q).2]) p=_:=bG;generalize upd H2 p (.tup [.int (Ac.lw (((c/q^k%q:Nat):Int)+(z.fdiv ((k:Int)+1)%7-3)*q) q).1,.int (Ac.lw (((c/q^k%q:Nat):Int)+(z.fdiv ((k:Int)+1)%7-3)*q) q).2])=H3 at S3 h3 ⊢;have rs:=W6 (d:=((c/q^k%q:Nat):Int)) (z:=z.fdiv ((k:Int)+1)%7-3) (q:=q) (Wp _) (by lia);have lp:=Ac.dX (t:=((c/q^k%q:Nat):Int)+(z.fdiv ((k:Int)+1)%7-3)*q) (show(0:Int)<q by lia);have lb:=Ac.vO (((c/q^k%q:Nat):Int)+(z.fdiv ((k:Int)+1)%7-3)*q) q;generalize Ac.lw (((c/q^k%q:Nat):Int)+(z.fdiv ((k:Int)+1)%7-3)*q) q=g at *;have h23:=S3 _ _ h2;have nt:∀b us,H3 b=some (.tup us)->upd H3 l (.lst (ys++[.ref p])) b=some (.tup us):=λb us e=>(bL (fH e h23 (by intro z;cases z))).trans e;refine⟨_,_,rfl,h23,by rw[na.1,fl];lia,?_⟩;subst hR2;dsimp only;refine yg (⟨_,rfl,_,rfl,_,_,rfl,rfl,⟨by lia,bq⟩,?_⟩);dsimp only[cB,List.set_cons_succ,List.set_cons_zero];rw[ed];refine⟨_,_,fs++[g],rfl,iy f1 (S2.trans S3),bG,((na.imp λp us e=>S3 _ _ e).snoc h3 lp (Bd.sm (by lia))).imp nt,by rw[aA,fl];rfl,?_⟩;rw[bA,fe,El];show _++[C_ g]=_;rw[rs]
  .rintro σ' H2 ⟨u,ys,fs,rfl,S2,h2,na,fl,fe⟩;subst hR1;dsimp only;exact fG ⟨_,rfl,qq l H2 ys fs S2 f1 h2 na fl fe⟩
theorem Ku{x y:Ι}(a0:0<x.2)(a1:Int.gcd x.1 x.2=1)(b0:0<y.2)(e:vl x=vl y):x.2 ∣ y.2:=by
 have e3:((y.2.natAbs:Nat):Int)=y.2:=by exact Int.natAbs_of_nonneg (XY b0)
 have:=uF (N:=y.2.natAbs) a0 a1 ⟨y.1,by
  rw[e3,e];have:=cI b0;unfold vl
  grind⟩
 rwa[e3]at this
theorem MP{x y u v:Int}(a0:0<y)(a1:Int.gcd x y=1)(b0:0<v)(b1:Int.gcd u v=1)(e:vl (x,y)=vl (u,v)):x=u/\y=v:=by
 have d1:y ∣ v:=Ku (x:=(x,y)) (y:=(u,v)) a0 a1 b0 e;have d2:v ∣ y:=Ku (x:=(u,v)) (y:=(x,y)) b0 b1 a0 e.symm;have e2:y=v:=Int.le_antisymm (Int.le_of_dvd b0 d1) (Int.le_of_dvd a0 d2);subst e2;have c:x*y=u*y:=JL (x:=(x,y)) (y:=(u,y)) a0 a0 e;exact⟨Int.eq_of_mul_eq_mul_right (Int.ne_of_gt a0) c,rfl⟩
theorem oO.uniq{cs:Θ}{q:Rat}{r r':Nat}(h:oO cs q r)(g:oO cs q r'):r=r':=by
 obtain⟨i,c,a1,rfl,a3,a4⟩:=h;obtain⟨j,d,b1,rfl,b3,b4⟩:=g;have no:∀{i j:Nat},q<rA cs (i+1)->(∀k,k<=j->rA cs k<=q)->¬i<j:=λ{i j}h1 h2 l=>by
  have:=h2 (i+1) l
  grind
 have n1:=no a3 b4;have n2:=no b3 a4;have:i=j:=by lia
 subst this;rw[a1]at b1;cases b1
 rfl
noncomputable def fB(f:Nat->Rat):Nat->Rat
 |0=>0
 |n+1=>fB f n+f n
theorem gY{f g:Nat->Rat} : ∀{n:Nat},(∀d,d<n->f d=g d)->fB f n=fB g n
 |0,_=>rfl
 |n+1,h=>by
  show fB f n+f n=fB g n+g n;rw[gY λd hd=>h d (Nat.lt_add_right _ hd),h n (X1 _)]
theorem kE{x:Rat} : ∀{n:Nat},fB (λ_=>x) n=((n:Int):Rat)*x
 |0=>by
  show(0:Rat)=((0:Int):Rat)*x;rw[Rat.intCast_zero,Rat.zero_mul]
 |n+1=>by
  show fB (λ_=>x) n+x=(((n:Int)+1:Int):Rat)*x;rw[kE,Rat.intCast_add,Rat.intCast_one]
  grind
theorem w5{f g:Nat->Rat}{a b:Rat} : ∀{n:Nat},fB (λd=>a*f d+b*g d) n=a*fB f n+b*fB g n
 |0=>by
  show(0:Rat)=a*0+b*0
  grind
 |n+1=>by
  show fB (λd=>a*f d+b*g d) n+(a*f n+b*g n)=a*(fB f n+f n)+b*(fB g n+g n);rw[w5]
  grind
theorem Bh{f:Nat->Rat}{a:Nat} : ∀{b:Nat},fB f (a+b)=fB f a+fB (λd=>f (a+d)) b
 |0=>by
  show fB f a=fB f a+0
  grind
 |b+1=>by
  show fB f (a+b)+f (a+b)=fB f a+(fB (λd=>f (a+d)) b+f (a+b));rw[Bh]
  grind
theorem Jy{f:Nat->Rat}{q:Nat} : ∀{m:Nat},fB f (q*m)=fB (λd=>fB (λc=>f (d+q*c)) m) q
 |0=>by
  show(0:Rat)=fB (λd=>0) q;rw[kE,Rat.mul_zero]
 |m+1=>by
  have ih:=Jy (f:=f) (q:=q) (m:=m);have e:=w5 (f:=λd=>fB (λc=>f (d+q*c)) m) (g:=λd=>f (d+q*m)) (a:=1) (b:=1) (n:=q);have e2:fB (λd=>f (q*m+d)) q=fB (λd=>f (d+q*m)) q:=gY λd _=>by rw[Nat.add_comm]
  have e3:fB (λd=>fB (λc=>f (d+q*c)) (m+1)) q=fB (λd=>1*fB (λc=>f (d+q*c)) m+1*f (d+q*m)) q:=gY λd _=>by
   show fB (λc=>f (d+q*c)) m+f (d+q*m)=_
   grind
  rw[Nat.mul_succ,Bh,ih,e2,e3,e]
  grind
noncomputable def acw(ws:List (Nat×Int))(d:Int)(r:Nat):Prop:=∃(i:Nat)(g:Nat×Int),ws[i]?=some g/\r=g.1/\c7 (ws.take i)<=d/\d<c7 (ws.take (i+1))
theorem NZ{ws:List (Nat×Int)}(h:∀g∈ws,0<=g.2):0<=c7 ws:=(CP h).1
theorem FQ{h:Nat->Rat} : ∀{ws:List (Nat×Int)}{r:Nat->Nat},(∀g∈ws,0<=g.2)->(∀d:Nat,(d:Int)<c7 ws->acw ws d (r d))->fB (λd=>h (r d)) (c7 ws).toNat=(ws.map λg=>(g.2:Rat)*h g.1).sum
 |[],_,_,_=>rfl
 |g::ws,r,w0,hl=>by
  have g0:=w0 g aO;have w0':∀g∈ws,0<=g.2:=λv hv=>w0 v (aH _ hv);have s0:=NZ w0';have e0:c7 (g::ws)=g.2+c7 ws:=rfl;have tk:∀i,c7 ((g::ws).take (i+1))=g.2+c7 (ws.take i):=λi=>rfl;have t0:∀i,0<=c7 (ws.take i):=λi=>NZ λv hv=>w0' v (List.mem_of_mem_take hv);have en:(c7 (g::ws)).toNat=g.2.toNat+(c7 ws).toNat:=by rw[e0];lia
  have a1:fB (λd=>h (r d)) g.2.toNat=fB (λ_=>h g.1) g.2.toNat:=gY λd hd=>by
   obtain⟨i,v,x1,x2,x3,x4⟩:=hl d (by rw[e0];lia);cases i with
   |zero =>
    cases x1;rw[x2]
   |succ i =>
    rw[tk]at x3;have:=t0 i;lia
  have a2:=FQ (h:=h) (ws:=ws) (r:=λd=>r (g.2.toNat+d)) w0' λd hd=>by
   obtain⟨i,v,x1,x2,x3,x4⟩:=hl (g.2.toNat+d) (by rw[e0];lia);rw[tk]at x4;cases i with
   |zero =>
    have:c7 (ws.take 0)=0:=rfl;lia
   |succ i =>
    rw[tk]at x3;exact⟨i,v,x1,x2,by lia,by lia⟩
  rw[en,Bh,a1,kE,a2,Int.toNat_of_nonneg g0]
  rfl
theorem QT{ws:List (Nat×Int)}{q:Nat}(q1:1<=q)(i:Nat):rA (chL ws q) i=((c7 (ws.take i):Int):Rat)/((q:Int):Rat):=by
 unfold rA chL;rw[<- List.map_take];exact Cd (by lia)
theorem ab7{ws:List (Nat×Int)}{q d r:Nat}(q1:1<=q)(h:oO (chL ws q) (vl ((d:Int),(q:Int))) r):acw ws d r:=by
 obtain⟨i,c,x1,x2,x3,x4⟩:=h;have q0:(0:Rat)<((q:Int):Rat):=Rat.intCast_pos.mpr (by lia);have x5:=x4 i (aF _);rw[QT q1]at x3 x5;unfold vl at x3 x5;rw[Rat.div_lt_iff q0,Rat.div_mul_cancel (by grind),Rat.intCast_lt_intCast]at x3;rw[qj q0,Rat.div_mul_cancel (by grind),Rat.intCast_le_intCast]at x5;unfold chL at x1;rw[aq]at x1;cases e:ws[i]? with
 |none=>rw[e]at x1;cases x1
 |some g =>
  rw[e]at x1;cases x1;exact⟨i,g,e,x2,x5,x3⟩
theorem Pj{h:Nat->Rat}{ws:List (Nat×Int)}{q:Nat}(q1:1<=q):((q:Int):Rat)*iU (chL ws q) h=(ws.map λg=>(g.2:Rat)*h g.1).sum:=by
 induction ws with
 |nil =>
  show _*(0:Rat)=0
  grind
 |cons g ws ih =>
  show((q:Int):Rat)*(vl (Ac.lw g.2 q)*h g.1+iU (chL ws q) h)=(g.2:Rat)*h g.1+(ws.map λg=>(g.2:Rat)*h g.1).sum;rw[<- ih,zK (by lia)];have:=cI (show(0:Int)<(q:Int)by lia);unfold vl
  grind
theorem Mi{h:Nat->Rat}{ws:List (Nat×Int)}{q:Nat}{r:Nat->Nat}(q1:1<=q)(w0:∀g∈ws,0<=g.2)(par:c7 ws=q)(hl:∀d,d<q->oO (chL ws q) (vl ((d:Int),(q:Int))) (r d)):fB (λd=>h (r d)) q=((q:Int):Rat)*iU (chL ws q) h:=by
 have:=FQ (h:=h) (r:=r) w0 λd hd=>ab7 q1 (hl d (by lia));rw[par,Int.toNat_natCast]at this;rw[this,Pj q1]
inductive Goes(cs:List (Option FC))(s:Rat):Nat->List Rat->Rat->Prop
 |nil {st:Nat} : Goes cs s st [] 0
 |stop {st:Nat}{qs:List Rat} : cs[st]?=some none->Goes cs s st qs 0
 |step {st r:Nat}{q x:Rat}{qs:List Rat}{fc:FC} : cs[st]?=some (some fc)->oO fc.2 q r->Goes cs s r qs x->Goes cs s st (q::qs) (vl fc.1+s*x)
theorem Run.cons{cs:List (Option FC)}{st e:Nat}{qs:List Rat}{vs:List Nat}(h:Run cs st qs vs e):∀{q:Rat}{qs':List Rat},qs=q::qs'->∃fc r vs',cs[st]?=some (some fc)/\oO fc.2 q r/\vs=st::vs'/\Run cs r qs' vs' e:=by
 induction h with
 |nil=>intro q qs' z;cases z
 |@snoc qs vs r r' q fc a b c ih =>
  intro q0 qs0 z;cases qs with
  |nil =>
   cases z;generalize eq:([] : List Rat)=ls at a;cases a with
   |nil=>exact⟨fc,r',[],b,c,rfl,.nil⟩
   |snoc a b c=>simp at eq
  |cons q1 qs1 =>
   rw[List.cons_append]at z;cases z;obtain⟨fc1,r1,vs1,y1,y2,rfl,y4⟩:=ih rfl;exact⟨fc1,r1,vs1++[r],y1,y2,rfl,.snoc y4 b c⟩
theorem Run.len{cs:List (Option FC)}{st:Nat}{qs:List Rat}{vs:List Nat}{r:Nat}(h:Run cs st qs vs r):vs.length=qs.length:=by
 induction h with
 |nil=>rfl
 |snoc a b c ih=>rw[aA,aA,ih];rfl
theorem JB{cs:List (Option FC)}{s:Rat} : ∀{k:Nat}{qs:List Rat}{vs:List Nat}{st e:Nat},k<=qs.length->Run cs st (qs.take k) vs e->(k=qs.length\/cs[e]?=some none)->Goes cs s st qs (sV s (vs.map (uW cs)))
 |0,qs,vs,st,e,_,rn,le=>by
  rw[List.take_zero]at rn;generalize eq:([] : List Rat)=ls at rn;cases rn with
  |nil =>
   rcases le with l|l
   .rw[List.eq_nil_of_length_eq_zero l.symm];exact .nil
   .exact .stop l
  |snoc a b c=>simp at eq
 |k+1,[],_,_,_,lk,_,_=>absurd lk (Nat.not_succ_le_zero _)
 |k+1,q::qs,vs,st,e,lk,rn,le=>by
  obtain⟨fc,r,vs',y1,y2,rfl,y4⟩:=rn.cons (qs':=qs.take k) rfl;have lk:k+1<=qs.length+1:=lk;have:=JB (s:=s) (Nat.le_of_succ_le_succ lk) y4 (le.imp (λz=>by have z:k+1=qs.length+1:=z;lia) id);have pr:uW cs st=fc.1:=by unfold uW;rw[au,y1];rfl
  show Goes cs s st (q::qs) (vl (uW cs st)+s*sV s (vs'.map (uW cs)));rw[pr];exact .step y1 y2 this
noncomputable def uc(cs:List (Option FC))(s:Rat):Nat->Nat->Rat
 |0,_=>0
 |n+1,st=>match cs[st]? with
  |some (some fc)=>vl fc.1+s*iU fc.2 (uc cs s n)
  |_=>0
theorem ZF{m:Nat}{P:Nat->Rat->Prop}(h:∀c,c<m->∃y,P c y):∃f:Nat->Rat,∀c,c<m->P c (f c) :=
 ⟨λc=>if z:c<m then(h c z).choose else 0,λc z=>by
  show P c (if z:c<m then(h c z).choose else 0);rw[dif_pos z];exact(h c z).choose_spec⟩
theorem Xf{q n d c:Nat}(q1:1<=q)(dq:d<q):t_ q (n+1) (d+q*c)=vl ((d:Int),(q:Int))::t_ q n c:=by
 have e1:(d+q*c)%q=d:=by rw[Nat.add_mul_mod_self_left,Nat.mod_eq_of_lt dq]
 have e2:(d+q*c)/q=c:=by rw[Nat.add_mul_div_left _ _ (aU (X1 _) q1),Nat.div_eq_of_lt dq,Nat.zero_add]
 show vl ((((d+q*c)%q:Nat):Int),(q:Int))::t_ q n ((d+q*c)/q)=_;rw[e1,e2]
theorem Ow{cs:List (Option FC)}{s:Rat}{q:Nat}(q1:1<=q)(hd:∀fc,some fc∈cs->∃ws:List (Nat×Int),fc.2=chL ws q/\c7 ws=q/\∀g∈ws,0<=g.2):∀{n st:Nat}{x:Nat->Rat},(∀c,c<q^n->Goes cs s st (t_ q n c) (x c))->fB x (q^n)=(((q^n:Nat):Int):Rat)*uc cs s n st
 |0,st,x,h=>by
  have h0:=h 0 (Nat.zero_lt_one);have:x 0=0:=by
   generalize x 0=y at h0;cases h0<;>rfl
  show(0:Rat)+x 0=_*0;rw[this]
  grind
 |n+1,st,x,h=>by
  have p1:0<q^(n+1):=Nat.pow_pos (aU (X1 _) q1);have p0:0<q^n:=Nat.pow_pos (aU (X1 _) q1);have lt:∀{d c:Nat},d<q->c<q^n->d+q*c<q^(n+1):=λ{d c}hd hc=>by
   rw[Nat.pow_succ,Nat.mul_comm (q^n) q];have:=Nat.mul_le_mul_left q (show c+1<=q^n from hc);rw[Nat.mul_add]at this;omega
  have hh:∀d c,d<q->c<q^n->Goes cs s st (vl ((d:Int),(q:Int))::t_ q n c) (x (d+q*c)):=λd c hd hc=>by
   rw[<- Xf q1 hd];exact h _ (lt hd hc)
  match ec:cs[st]? with
  |none =>
   exfalso;have:=hh 0 0 (aU (X1 _) q1) p0;generalize x (0+q*0)=y at this;cases this with
   |stop a=>rw[ec]at a;cases a
   |step a b c=>rw[ec]at a;cases a
  |some none =>
   have z:∀c,c<q^(n+1)->x c=0:=λc hc=>by
    have:=h c hc;generalize x c=y at this;generalize t_ q (n+1) c=l at this;cases this with
    |nil=>rfl
    |stop a=>rfl
    |step a b c=>rw[ec]at a;cases a
   rw[gY (g:=λ_=>0) z,kE];show _=_*(match cs[st]? with|some (some fc)=>vl fc.1+s*iU fc.2 (uc cs s n)|_=>0);rw[ec]
  |some (some fc) =>
   obtain⟨ws,e1,e2,e3⟩:=hd fc (aB ec);have inv:∀d c,d<q->c<q^n->∃r y,oO fc.2 (vl ((d:Int),(q:Int))) r/\Goes cs s r (t_ q n c) y/\x (d+q*c)=vl fc.1+s*y:=λd c hd hc=>by
    have:=hh d c hd hc;generalize x (d+q*c)=y at this;cases this with
    |stop a=>rw[ec]at a;cases a
    |@step _ r _ y _ _ a b c=>rw[ec]at a;cases a;exact⟨r,y,b,c,rfl⟩
   have rr:∀d,d<q->∃r,oO fc.2 (vl ((d:Int),(q:Int))) r/\fB (λc=>x (d+q*c)) (q^n)=(((q^n:Nat):Int):Rat)*(vl fc.1+s*uc cs s n r):=λd dq=>by
    obtain⟨r,y0,l0,_⟩:=inv d 0 dq p0;obtain⟨y,hy⟩:=ZF (m:=q^n) (P:=λc y=>Goes cs s r (t_ q n c) y/\x (d+q*c)=vl fc.1+s*y) λc hc=>by
     obtain⟨r',y,l1,g,e⟩:=inv d c dq hc;rw[l1.uniq l0]at g;exact⟨y,g,e⟩
    refine⟨r,l0,?_⟩;have ih:=Ow q1 hd λc hc=>(hy c hc).1;rw[gY (g:=λc=>vl fc.1*(λ_=>1) c+s*y c) λc hc=>by rw[(hy c hc).2];grind,w5,kE,ih]
    grind
   obtain⟨r,hr⟩ : ∃r:Nat->Nat,∀d,d<q->oO fc.2 (vl ((d:Int),(q:Int))) (r d)/\fB (λc=>x (d+q*c)) (q^n)=(((q^n:Nat):Int):Rat)*(vl fc.1+s*uc cs s n (r d)) :=
    ⟨λd=>if z:d<q then(rr d z).choose else 0,λd z=>by
     show oO fc.2 _ (if z:d<q then(rr d z).choose else 0)/\fB _ _=_*(_+_*uc cs s n (if z:d<q then(rr d z).choose else 0));rw[dif_pos z];exact(rr d z).choose_spec⟩
   have pm:=Mi (h:=uc cs s n) (r:=r) q1 e3 e2 λd hd'=>by rw[<- e1];exact(hr d hd').1
   have ep:(((q^(n+1):Nat):Int):Rat)=(((q^n:Nat):Int):Rat)*((q:Int):Rat):=by rw[Nat.pow_succ,Int.natCast_mul,XU]
   have ev:uc cs s (n+1) st=vl fc.1+s*iU fc.2 (uc cs s n):=by
    show(match cs[st]? with|some (some fc)=>vl fc.1+s*iU fc.2 (uc cs s n)|_=>0)=_;rw[ec]
   rw[ev,ep,Nat.pow_succ,Nat.mul_comm (q^n) q,Jy,gY (g:=λd=>((((q^n:Nat):Int):Rat)*vl fc.1)*(λ_=>1) d+((((q^n:Nat):Int):Rat)*s)*(λd=>uc cs s n (r d)) d) λd hd'=>by rw[(hr d hd').2];grind,w5,kE,pm,e1]
   grind
theorem rE.few{q n:Nat}{H:Hp}{dss:List (Ε)}{rms:List (Str×List Dr)}(h:rE K q n H dss rms)(ok:Jd rms):xH rms:=by
 refine⟨ok.len,ok.few,λg hg d hd=>?_⟩;obtain⟨j,hj⟩:=aW hg;have lj:j<dss.length:=by rw[<- h.len];exact(ao.mp hj).1
 obtain⟨_,z⟩:=(h.at_ j _ g (aj lj) hj).mem hd;exact aM z.few.1 (by decide)
theorem rE.dn{q n:Nat}{H:Hp}{dss:List (Ε)}{rms:List (Str×List Dr)}(h:rE K q n H dss rms){k:Nat}{ds:Ε}(e:dss[k]?=some ds):dnR rms k=ds.length:=by
 have lk:k<rms.length:=by rw[h.len];exact(ao.mp e).1
 unfold dnR;rw[aj lk];exact(h.at_ k _ _ e (aj lk)).len
theorem rE.fitR{q n:Nat}{H:Hp}{dss:List (Ε)}{rms:List (Str×List Dr)}(h:rE K q n H dss rms){ps:List (Option Nat)}(pf:U7 dss ps):Wm rms ps:=by
 refine⟨by rw[pf.1,h.len],λk x e=>?_⟩;rw[aq]at e;cases eo:ps[k]? with
 |none=>rw[eo]at e;cases e
 |some o =>
  rw[eo]at e;cases e;have lk:k<dss.length:=by rw[<- pf.1];exact(ao.mp eo).1
  rw[h.dn (aj lk)];exact pf.2 k _ o (aj lk) eo
theorem Yn{q n:Nat}{H:Hp}{r:Addr}{xs:Μ}{dss:List (Ε)}{fcss:List (List FC)}{ps:List (Option Nat)}(pf:U7 dss ps)(rml:uE q H r fcss)(hr:H r=some (.lst xs))(rd:RD q n H xs dss)(ld:dss.length=fcss.length):L_ fcss ps:=by
 obtain⟨xs',hr',xl,xa⟩:=rml.ex;rw[hr]at hr';cases hr';refine⟨by rw[pf.1,ld],λk fcs o e1 e2=>?_⟩;have lk:k<dss.length:=by rw[ld];exact(ao.mp e1).1
 have ek:dss[k]?=some dss[k]:=aj lk;have f:=pf.2 k _ o ek e2;obtain⟨l,ds,c1,c2,c3,c4⟩:=xa k fcs e1;obtain⟨l',d1,d2,_⟩:=rd.at_ k _ ek;rw[c1]at d1;cases d1;rw[c2]at d2;have dl:ds.length=dss[k].length:=by
  have:=ZH List.length (HO.lst.inj (Option.some.inj d2));rwa[ak,ak]at this
 have fl:=c4.len;rw[<- dl,<- fl]at f;unfold Gm at f;refine⟨λe=>?_,λj e=>?_⟩
 .subst e;by_cases z:fcs.length=0
  .exact List.eq_nil_of_length_eq_zero z
  .rw[ZZ z]at f;cases f
 .subst e;by_cases z:fcs.length=0
  .rw[ZY z]at f;exact absurd (of_decide_eq_true f) (λw=>by cases w)
  .rw[ZZ z]at f;have f:(decide ((0:Int)<=(j:Nat))&&decide (((j:Nat):Int)<(fcs.length:Nat)))=true:=f;have:=of_decide_eq_true (Bool.and_eq_true_iff.mp f).2;omega
theorem aan{q:Nat}{H:Hp}{r:Addr}{x y:Int}{fcss:List (List FC)}(x0:0<=x)(xy:x<y)(y1:y<=100)(rl:uE q H r fcss)(dm:∀fcs∈fcss,fcs.length<=3/\∀fc∈fcs,Ce q fc):Yp (x,y) fcss:=by
 refine⟨x0,by show x<=y;exact XY xy,by show 0<y;exact Int.lt_of_le_of_lt x0 xy,y1,λfcs h1 fc h2=>⟨((dm fcs h1).2 fc h2).fq,?_⟩⟩;obtain⟨xs,_,_,c⟩:=rl.ex;obtain⟨k,ek⟩:=aW h1;obtain⟨l,ds,_,_,_,rm⟩:=c k fcs ek;obtain⟨j,ej⟩:=aW h2;have lj:j<ds.length:=by rw[<- rm.len];exact(ao.mp ej).1
 obtain⟨_,_,ws,_,_,_,e1,e2⟩:=(rm.at_ j _ fc (aj lj) ej).ex;rw[e2];exact⟨_,e1.door⟩
theorem Km:∀(l:List FC),(∀fc∈l,0<fc.1.2/\fc.1.2<=1000)->∃M:Nat,0<M/\M<=1000^l.length/\∀fc∈l,fc.1.2 ∣ (M:Int)
 |[],_=>⟨1,by decide,by decide,by simp⟩
 |fc::l,h=>by
  obtain⟨M,m0,m1,m2⟩:=Km l λz hz=>h z (aH _ hz);obtain⟨a,b⟩:=h fc aO;obtain⟨z,ez⟩ : ∃z:Nat,fc.1.2=z:=⟨fc.1.2.toNat,by lia⟩;refine⟨z*M,Nat.mul_pos (by lia) m0,?_,λv hv=>?_⟩
  .rw[List.length_cons,Nat.pow_succ,Nat.mul_comm];exact Nat.mul_le_mul m1 (by lia)
  .rw[Int.natCast_mul];rcases YU.mp hv with rfl|hv
   .rw[ez];exact Int.dvd_mul_right _ _
   .exact Int.dvd_trans (m2 v hv) (Int.dvd_mul_left _ _)
theorem Jv{m:Nat} : ∀{l:List (List FC)},(∀z∈l,z.length<=m)->l.flatten.length<=m*l.length
 |[],_=>aF _
 |a::l,h=>by
  have h1:=Jv λz hz=>h z (aH _ hz);have h2:=h a aO;rw[List.flatten_cons,aA,List.length_cons,Nat.mul_add,Nat.mul_one];lia
theorem Zr{q:Nat}{x y:Int}{fcss:List (List FC)}(fn:fcss.length<=4)(x0:0<=x)(xy:x<y)(y1:y<=100)(q1:1<=q)(q6:q<=6)(h:∀fcs∈fcss,fcs.length<=3/\∀fc∈fcs,Ce q fc):∃L,Vk (x,y) fcss L/\L<=10^39:=by
 obtain⟨M,m0,m1,hm⟩:=Km fcss.flatten λfc hf=>by
  obtain⟨fcs,a,b⟩:=List.mem_flatten.mp hf;have:=(h fcs a).2 fc b;exact⟨this.fq.pos,this.fb⟩
 obtain⟨z,rfl⟩ : ∃z:Nat,y=z:=⟨y.toNat,by lia⟩;have q0:(0:Int)<q:=by lia
 refine⟨z*q*M,⟨x0,by show x<=(z:Int);exact XY xy,by show 0<(z:Int);exact Int.lt_of_le_of_lt x0 xy,Nat.mul_pos (Nat.mul_pos (by lia) q1) m0,λfcs a fc b=>?_⟩,?_⟩
 .have dm:=(h fcs a).2 fc b;have d1:=hm fc (List.mem_flatten.mpr ⟨fcs,a,b⟩);obtain⟨ws,e1,e2,e3⟩:=dm.wy;refine⟨dm.fq.pos,?_,dm.fa,aM dm.few (by decide),λc hc=>?_⟩
  .rw[Int.natCast_mul];exact Int.dvd_trans d1 (Int.dvd_mul_left _ _)
  .rw[e1]at hc;unfold chL at hc;obtain⟨g,hg,rfl⟩:=YV.mp hc;have dq:(Ac.lw g.2 q).2 ∣ (q:Int):=Int.ediv_dvd_of_dvd (Int.gcd_dvd_right g.2 _);have gl:=(CP e3).2 g hg;rw[e2]at gl;refine⟨Ac.dX q0,?_,Yv q0 (e3 g hg) gl⟩;rw[Int.natCast_mul,Int.natCast_mul];exact Int.dvd_trans (Int.mul_dvd_mul (Int.dvd_refl _) dq) (Int.dvd_mul_right _ _)
 .have fl:=Jv (m:=3) λfcs a=>(h fcs a).1;have m2:M<=1000^12:=aM m1 (XT (by decide) (by lia));have:z*q*M<=100*6*1000^12:=Nat.mul_le_mul (Nat.mul_le_mul (by lia) q6) m2;exact aM this (by decide)
theorem Xe{fs:Ψ}{r:Nat}(h:fs.length<=r):wq fs r=0:=by
 unfold wq;rw[au,List.getElem?_eq_none h];exact(oE 0).trans Rat.intCast_zero
theorem VP{s:Ι}{cs:List (Option FC)}{k:Nat}{fs gs:Ψ}(n:qY s cs fs gs)(h:wq fs=uc cs (vl s) k):wq gs=uc cs (vl s) (k+1):=by
 funext r
 show _=(match cs[r]? with|some (some fc)=>vl fc.1+vl s*iU fc.2 (uc cs (vl s) k)|_=>0);by_cases l:r<cs.length
 .have e1:=aj l;have e2:=aj (show r<gs.length by rw[n.1];exact l);obtain⟨_,_,x3,x4⟩:=n.2 r _ _ e1 e2;have ew:wq gs r=vl (gs[r]'(by rw[n.1];exact l)):=by unfold wq;rw[au,e2];rfl
  rw[ew,e1];generalize gs[r]'(by rw[n.1];exact l)=g at *;generalize cs[r]=c at *;cases c with
  |none =>
   rw[x3 rfl];exact(oE 0).trans Rat.intCast_zero
  |some fc =>
   rw[x4 fc rfl];unfold ux;rw[h]
 .rw[Xe (by rw[n.1];exact Nat.le_of_not_lt l),List.getElem?_eq_none (Nat.le_of_not_lt l)]
theorem val_zero{s:Rat}{cs:List (Option FC)}{n:Nat} : wq (List.replicate n (0,1))=uc cs s 0:=by
 funext r
 show vl ((List.replicate n ((0:Int),(1:Int))).getD r (0,1))=0;have:(List.replicate n ((0:Int),(1:Int))).getD r (0,1)=(0,1):=by
  rw[au,List.getElem?_replicate];split<;>rfl
 rw[this];exact(oE 0).trans Rat.intCast_zero
theorem Qz{s:Ι}{cs:List (Option FC)}{fs gs hs:Ψ}(a:qY s cs fs gs)(b:qY s cs fs hs):gs=hs:=by
 refine List.ext_getElem? λr=>?_;by_cases l:r<cs.length
 .have e1:=aj l;have e2:=aj (show r<gs.length by rw[a.1];exact l);have e3:=aj (show r<hs.length by rw[b.1];exact l);obtain⟨x1,x2,x3,x4⟩:=a.2 r _ _ e1 e2;obtain⟨y1,y2,y3,y4⟩:=b.2 r _ _ e1 e3;rw[e2,e3];generalize gs[r]'(by rw[a.1];exact l)=g at *;generalize hs[r]'(by rw[b.1];exact l)=h at *;generalize cs[r]=c at *;cases c with
  |none=>rw[x3 rfl,y3 rfl]
  |some fc =>
   obtain⟨p1,p2⟩:=MP x1 x2 y1 y2 ((x4 fc rfl).trans (y4 fc rfl).symm);rw[show g=h from Prod.ext p1 p2]
 .rw[List.getElem?_eq_none (by rw[a.1];exact Nat.le_of_not_lt l),List.getElem?_eq_none (by rw[b.1];exact Nat.le_of_not_lt l)]
theorem Ez{s:Ι}(s2:0<s.2)(b1:Bn 2 s.1)(b2:Bn 2 s.2):∀{fs:Ψ},(∀f∈fs,0<f.2/\Bn 30 f.1/\Bn 3 f.2)->∃a b:Int,0<b/\Bn (5*fs.length) b/\Bn (6*fs.length+33) a/\sV (vl s) fs=vl (a,b)
 |[],_=>⟨0,1,by decide,(show Bn 0 1 by unfold Bn;decide),(show Bn 33 0 by unfold Bn;decide),((oE 0).trans Rat.intCast_zero).symm⟩
 |f::fs,h=>by
  obtain⟨a,b,b0,bb,ba,e⟩:=Ez s2 b1 b2 (fs:=fs) λg hg=>h g (aH _ hg);obtain⟨f0,fa,fb⟩:=h f aO;refine⟨f.1*(s.2*b)+s.1*a*f.2,f.2*(s.2*b),XZ f0 (XZ s2 b0),(fb.mul (b2.mul bb)).up (by rw[List.length_cons];lia),(((fa.mul (b2.mul bb)).up (b:=6*fs.length+38) (by lia)).add (((b1.mul ba).mul fb).up (by lia))).up (by rw[List.length_cons];lia),?_⟩;show vl f+vl s*sV (vl s) fs=_;rw[e];unfold vl;show(f.1:Rat)/(f.2:Rat)+(s.1:Rat)/(s.2:Rat)*((a:Rat)/(b:Rat))=((f.1*(s.2*b)+s.1*a*f.2:Int):Rat)/((f.2*(s.2*b):Int):Rat);rw[Rat.intCast_add,XU,XU,XU,XU,XU];have:=cI f0;have:=cI s2;have:=cI b0
  grind
theorem aaj{z o a b:Int}{m n:Nat}(o0:0<o)(g:Int.gcd z o=1)(b0:0<b)(ba:Bn m a)(bb:Bn n b)(e:vl (z,o)=vl (a,b)):Bn (m+n) z/\Bn n o:=by
 have d:=Int.le_of_dvd b0 (Ku (x:=(z,o)) (y:=(a,b)) o0 g b0 e);have d:o<=b:=d;have bo:Bn n o:=by unfold Bn at bb ⊢;lia
 refine⟨?_,bo⟩;have c:z*b=a*o:=JL (x:=(z,o)) (y:=(a,b)) o0 b0 e;have h:=ba.mul bo;rw[<- c]at h;unfold Bn at h ⊢;rw[Int.natAbs_mul]at h;exact aM (Nat.le_mul_of_pos_right _ (by omega)) h
theorem YB{L k:Nat}{fs:Ψ}(h:yx L k fs)(L0:0<L)(L9:L<=10^39)(k4:k<=4):∀f∈fs,Bn 200 f.1/\Bn 200 f.2:=λf hf=>by
 obtain⟨f0,_,fd,fa⟩:=h f hf;have p0:0<L^k:=Nat.pow_pos L0;have l4:L^k<=10^156:=aM (Nat.pow_le_pow_left L9 k) (by
  rw[<- Nat.pow_mul];exact XT (by decide) (by lia))
 have f2:=Int.le_of_dvd (by lia) fd;have b2:Bn 156 f.2:=by unfold Bn;lia
 have k42:42^k<=10^7:=aM (XT (by decide) k4) (by decide);have:10^30*42^k*f.2.natAbs<=10^30*10^7*10^156:=Nat.mul_le_mul (Nat.mul_le_mul_left _ k42) b2;refine⟨aM fa (aM this ?_),b2.up (by decide)⟩;rw[<- Nat.pow_add,<- Nat.pow_add];exact XT (by decide) (by decide)
theorem RW(F:Fun K wJ wJ IK f fd)(T:Txt K mg D):cC P w K mg base CX0 1 f fd xq eE:=by
 refine F.ok RN ?_ ?_
 .rintro _ _ _ _ ⟨x,t,rfl,_⟩;rfl
 .rintro cdv A outer s H _ Q E hr ⟨x,t,rfl,ht,q⟩;refine⟨_,(bN (cD (Aa (cF iQ (by rfl) T.dG boot_isinstance (bD (pv 0) (bD (lD (v:=.ty "int") (by rfl) T.Tf boot_int rfl) bF))) (Bf (Uo (cF iQ (by rfl) T.dG boot_isinstance (bD (pv 0) (bD (lD (v:=.ty "bool") (by rfl) T.RJ boot_bool rfl) bF)))))))),?_⟩
  walk_at "rd"
  rw[ht]
  walk_at "rd"
  have hm:=K3 ht;simp only[YU,List.not_mem_nil,or_false]at hm;rcases hm with rfl|rfl|rfl|rfl|rfl|rfl|rfl<;>simpa using q
noncomputable def yL:Sp:=λvs H Q _=>∃(p:Addr)(a b:Int),vs=[.ref p]/\H p=some (.tup [.int a,.int b])/\Q (.bl (decide (0<b)&&decide (Int.gcd a b=1))) H
theorem J3(F:Fun K oR oR uK f fd)(T:Txt K mg D)(zL:OkF P w K mg base 1 wJ xq eE)(Ek:OkF P w K mg base 1 Aj Bj Cg):cC P w K mg base CX0 2 f fd oU yL:=by
 refine F.ok I_ ?_ ?_
 .rintro _ _ _ _ ⟨p,a,b,rfl,_⟩;rfl
 .rintro cdv A outer s H _ Q E hr ⟨p,a,b,rfl,hp,q⟩;refine⟨_,(bK (eF (PW.pt (pw_or (dJ (dB (cF iQ (by rfl) T.dG boot_isinstance (bD (pv 0) (bD (lD (v:=.ty "tuple") (by rfl) T.GQ boot_tuple rfl) bF))) (λ_=>rfl))) (pw_or1 (cX Fw (cF Ep (by rfl) T.lZ PySem.boot_len (bD (pv 0) bF)) bI (cV _)))))
    (bN (cD v8))
    cN)
   (bK (eF (PW.pt (pw_or (dJ (dB (bO zL hr.md (by rfl) (bD (bU cg (pv 0) bI (λ_ _=>rfl)) bF)) (λ_=>rfl))) (pw_or1 (dJ (dB (bO zL hr.md (by rfl) (bD (bU cg (pv 0) bI (λ_ _=>rfl)) bF)) (λ_=>rfl))))))
    (bN (cD v8))
    cN)
   (bN (cD (Aa (oV U9 (bU cg (pv 0) bI (λ_ _=>rfl)) bI (cV _)) (Bf (oV Eu (bO Ek hr.md (by rfl) (bD (bU cg (pv 0) bI (λ_ _=>rfl)) (bD (bU cg (pv 0) bI (λ_ _=>rfl)) bF))) bI (cV _)))))))),?_⟩
  unfold eE Cg
  walk_at "rd"
  simp only[hp,M4 hp]
  walk_at "rd"
  by_cases hb:0<b
  .simp only[hb,decide_true,if_true,Bool.true_and]at q ⊢;have e:decide (((Int.gcd a b:Nat):Int)=1)=decide (Int.gcd a b=1):=by
    by_cases z:Int.gcd a b=1
    .rw[z];rfl
    .rw[Zp z,Zp (by lia)]
   rw[e];exact q
  .simpa[hb]using q
theorem yH{α:Type}{g:α->PyData}(h:∀x,PyData.canLay0 (g x)=true):∀xs:List α,PyData.canLayAll0 (xs.map g)=true
 |[]=>rfl
 |x::xs=>by rw[List.map_cons];unfold PyData.canLayAll0;rw[yH h xs,h x];rfl
theorem CN{α:Type}{g:α->PyData}{n:Nat}(h:∀x,PyData.depth (g x)<=n):∀xs:List α,PyData.depthAll (xs.map g)<=n
 |[]=>bh _
 |x::xs=>by
  rw[List.map_cons];unfold PyData.depthAll;have:=CN h xs;have:=h x;lia
theorem Vz{α:Type}{g:α->PyData}(h:∀x,PyData.canLay0 (g x)=true)(d:∀x,PyData.depth (g x)<=2)(xs:List α):SeqAt.shaped (.list (xs.map g))=true/\PyData.eqv (.list (xs.map g)) (.list (xs.map g))=true:=by
 have h1:PyData.canLay0 (.list (xs.map g))=true:=by unfold PyData.canLay0;exact yH h xs
 have h2:PyData.depth (.list (xs.map g))<=64:=by unfold PyData.depth;have:=CN d xs;lia
 refine⟨?_,PySem.SeqAt.eqv_refl _ h1⟩;unfold SeqAt.shaped;rw[h1,Zs h2];rfl
theorem YD{a b:Prop}(h:b):if(!true)=true then a else b:=h
theorem Hh{t u:TT}{σ:L2.St}{H:Hp}{Q:Bool->Hp->Prop}(h:t σ H λc H1=>if c=true then Q true H1 else u σ H1 Q):tOr t u σ H Q:=h
noncomputable def frD(f:Ι):PyData:=.tuple [.int f.1,.int f.2]
theorem FLK.shows{H:Hp} : ∀{xs:Μ}{fs:Ψ},FLK K H xs fs->cM K H xs (fs.map frD)
 |_,_,.nil=>.nil
 |_,_,.cons e t=>.cons (.tup e (.cons (.int _) (.cons (.int _) .nil))) (FLK.shows t)
theorem Tr{H:Hp}{xs:Μ}{fs:Ψ}(h:jh H xs fs):FLK K H xs fs:=FLK.of h.1 λj f e=>let⟨a,x1,x2,_⟩:=h.2 j f e;⟨a,x1,.of x2⟩
theorem if_not{a b:Prop}(h:b):if false=true then a else b:=h
theorem R_{Pt:Addr}{H:Hp}{t:Array Value}(h:H Pt=some (.tbl t)):H=upd (L2.wo [Pt] H) Pt (.tbl t):=by
 funext b
 by_cases z:b=Pt
 .rw[z,bG];exact h
 .rw[bL z,rN (by simpa using z)]
theorem Nx{H:Hp}{Pt:Addr}{t:Array Value}(h:H Pt=some (.tbl t)):Bk H (L2.wo [Pt] H):=λb u fu e=>(rN (by
 simp only[YR];intro z;rw[z,h]at e;cases e;rcases fu with⟨_,z⟩|⟨_,z⟩|⟨_,_,z⟩<;>cases z)).trans e
theorem vM.flat{H H':Hp}{l:Addr}{cs:Θ}(h:vM H l cs)(S:Bk H H'):vM H' l cs:=by
 obtain⟨ys,a,b,c⟩:=h.ex;refine⟨ys,S _ _ (.inl ⟨_,rfl⟩) a,b,λi d e=>?_⟩;obtain⟨t,p,x1,x2,x3⟩:=c i d e;exact⟨t,p,x1,S _ _ (.inr (.inl ⟨_,rfl⟩)) x2,S _ _ (.inr (.inl ⟨_,rfl⟩)) x3⟩
theorem RD.flat{q n:Nat}{H H':Hp}{xs:Μ}{dss:List (Ε)}(h:RD q n H xs dss)(S:Bk H H'):RD q n H' xs dss:=⟨h.len,λk ds e=>by
 obtain⟨l,a,b,c⟩:=h.at_ k ds e;refine⟨l,a,S _ _ (.inl ⟨_,rfl⟩) b,λd hd=>?_⟩;obtain⟨p,l,f,ws,x1,x2,x3,x4⟩:=(c d hd).ex;exact⟨p,l,f,ws,S _ _ (.inr (.inl ⟨_,rfl⟩)) x1,S _ _ (.inr (.inl ⟨_,rfl⟩)) x2,x3.flat S,x4⟩⟩
theorem Sd{G G':Hp}{Pt:Addr}{o:HO}(S:Same G G')(g:G' Pt=none):Same (upd G Pt o) (upd G' Pt o):=λb u e=>by
 by_cases z:b=Pt
 .subst z;rw[bG]at e;rw[bG];exact e
 .rw[bL z]at e;rw[bL z];exact S _ _ e
inductive RC(s:Ι)(cs:List (Option FC)):Nat->Ψ->Prop
 |zero:RC s cs 0 (List.replicate cs.length (0,1))
 |succ {k:Nat}{fs gs:Ψ} : RC s cs k fs->qY s cs fs gs->RC s cs (k+1) gs
theorem RC.len{s:Ι}{cs:List (Option FC)}{k:Nat}{fs:Ψ}(h:RC s cs k fs):fs.length=cs.length:=by
 cases h with
 |zero=>exact aN
 |succ a b=>exact b.1
theorem RC.val{s:Ι}{cs:List (Option FC)}{k:Nat}{fs:Ψ}(h:RC s cs k fs):wq fs=uc cs (vl s) k:=by
 induction h with
 |zero=>exact val_zero
 |succ a b ih=>exact VP b ih
theorem RC.ok{s:Ι}{fcss:List (List FC)}{pl:List (Option Nat)}{L k:Nat}{fs:Ψ}(hL:Vk s fcss L)(h:RC s (pick fcss pl) k fs):yx L k fs:=by
 induction h with
 |zero =>
  intro f hf;rw[(XV.mp hf).2];exact⟨by decide,by decide,Int.one_dvd _,bh _⟩
 |succ a b ih=>exact b.ok hL.s0 hL.s1 hL.s2 (λfc m=>by
   obtain⟨fcs,x1,x2⟩:=nA m;exact hL.d fcs x1 fc x2) ih
theorem RC.at_{s:Ι}{cs:List (Option FC)}{k:Nat}{fs:Ψ}(h:RC s cs k fs){fss:Φ}(h0:fss[0]?=some (List.replicate cs.length (0,1)))(hn:∀(k:Nat)fs gs,fss[k]?=some fs->fss[k+1]?=some gs->qY s cs fs gs):k<fss.length->fss[k]?=some fs:=by
 induction h with
 |zero=>exact λ_=>h0
 |@succ k fs gs a b ih =>
  intro l;have e:=aj l;have:=hn k fs _ (ih (Nat.lt_trans (X1 _) l)) e;rw[e,Qz this b]
theorem Wu(i c:Int):∃q n:Nat,atI [V.int 1,V.int 2,V.int 3,V.int 4,V.int 6] (i%5)=some (.int (q:Nat))/\1<=q/\q<=6/\∃m:Int,atI [V.int 5,V.int 5,V.int 4,V.int 3,V.int 3] (i%5)=some (.int m)/\0<m/\Bd m/\c.fmod m=(n:Nat)/\n<=4/\q^n<=36:=by
 have md:∀m:Int,0<m->∃n:Nat,c.fmod m=(n:Nat)/\(n:Int)<m:=λm m0=>by
  rw[aX _ (XY m0)];have h0:=Z3 c (b:=m) (Int.ne_of_gt m0);have h1:=YY c m0;exact⟨(c%m).toNat,by lia,by lia⟩
 have pw:∀{q n k:Nat},1<=q->n<=k->q^k<=36->q^n<=36:=λh1 h2 h3=>aM (XT h1 h2) h3;obtain e|e|e|e|e:i%5=0\/i%5=1\/i%5=2\/i%5=3\/i%5=4:=by lia
 .obtain⟨n,h1,h2⟩:=md 5 (by decide);exact⟨1,n,by rw[e];exact b_ (j:=0) rfl,by decide,by decide,5,by rw[e];exact b_ (j:=0) rfl,by decide,Bd.sm (by decide),h1,by omega,pw (k:=4) (by decide) (by omega) (by decide)⟩
 .obtain⟨n,h1,h2⟩:=md 5 (by decide);exact⟨2,n,by rw[e];exact b_ (j:=1) rfl,by decide,by decide,5,by rw[e];exact b_ (j:=1) rfl,by decide,Bd.sm (by decide),h1,by omega,pw (k:=4) (by decide) (by omega) (by decide)⟩
 .obtain⟨n,h1,h2⟩:=md 4 (by decide);exact⟨3,n,by rw[e];exact b_ (j:=2) rfl,by decide,by decide,4,by rw[e];exact b_ (j:=2) rfl,by decide,Bd.sm (by decide),h1,by omega,pw (k:=3) (by decide) (by omega) (by decide)⟩
 .obtain⟨n,h1,h2⟩:=md 3 (by decide);exact⟨4,n,by rw[e];exact b_ (j:=3) rfl,by decide,by decide,3,by rw[e];exact b_ (j:=3) rfl,by decide,Bd.sm (by decide),h1,by omega,pw (k:=2) (by decide) (by omega) (by decide)⟩
 .obtain⟨n,h1,h2⟩:=md 3 (by decide);exact⟨6,n,by rw[e];exact b_ (j:=4) rfl,by decide,by decide,3,by rw[e];exact b_ (j:=4) rfl,by decide,Bd.sm (by decide),h1,by omega,pw (k:=2) (by decide) (by omega) (by decide)⟩
theorem aah(F:Fun K G4 G4 Em f fd)(T:Txt K mg D)(WT:∀a ns,OkF P w K mg base 1 wL vo (Hz K a ns))(jB:OkF P w K mg base 1 m8 m7 tQ)(Iz:OkF P w K mg base 3 xG vd Ko)(dI:OkF P w K mg base 2 jq jt m6)(Ga:OkF P w K mg base 1 xg vG JF)(Rt:OkF P w K mg base 8 vQ wV (I9 K D))(Mt:OkF P w K mg base 2 zQ zR FP)(HW:OkF P w K mg base 4 vY wX Kd)(Bv:OkF P w K mg base 5 tK tH (Uk K D))(yC:OkF P w K mg base 3 qx qM A_)(uU:OkF P w K mg base 2 oR oU yL)(qI:OkF P w K mg base 3 sS sW Al)(m_:OkF P w K mg base 3 pQ pZ xJ)(DY:OkF P w K mg base 8 fU iu (uJ K D)):cC P w K mg base CX0 9 f fd LC (GK K D.T_plan_rounds):=by
 refine F.okB d8 ?_ ?_
 .rintro _ _ _ _ ⟨a,ns,rfl,_⟩;rfl
 .rintro cdv A outer s H _ Q E hr ⟨a,ns,rfl,hs,hl,_,hT,hQ⟩;have oZ:=WT a ns;have Gs:=Rt.frame D.T_plan_rounds;refine⟨_,(cU (PSB.mk (bZ (i:=1) d8.nd rfl (Or.inl rfl) (bO jB hr.md (by rfl) (bD (bO oZ hr.md (by rfl) (bD (pv 0) (bD bI bF))) (bD bI bF)))))
   (cU (PSB.mk (bZ (i:=2) d8.nd rfl (Or.inl rfl) (bY h_ (bO oZ hr.md (by rfl) (bD (pv 0) (bD bI bF))) bI)))
   (cU (Ww (i:=3) d8.nd rfl (Or.inr rfl) (W5 (GJ (nj gA (nj gA (nj gA (nj gA (nj gA Gk)))))) (pv 2) (λ_ _=>rfl)))
   (cU (PSB.mk (bZ (i:=4) d8.nd rfl (Or.inl rfl) (bY lU (bY fV (bO oZ hr.md (by rfl) (bD (pv 0) (bD bI bF))) bI) (bU cu (PEB.out (GJ (nj gA (nj gA (nj gA (nj gA (nj gA Gk))))))) (pv 2) (λ_ _=>rfl)))))
   (cU (PSB.mk (bZ (i:=5) d8.nd rfl (Or.inr rfl) (bY dW bI (bY h_ (bU cu (pv 1) bI (λ_ _=>rfl)) bI))))
   (cU (PSB.mk (Ni (bM Em) NK ["_law_script", "_law_xs", "_law_at", "_law_parts", "_law_steps", "_law_many", "_law_rooms", "_law_bottom", "_law_share", "_law_hall", "_law_plan_here", "_law_start", "_law_rows", "_law_due", "?_law_k", "_law_paid", "_law_code", "_law_told", "_law_found"] ["_law_k"] (d9 (by rfl) T.jf (bD (pv 5) bF).mono) (fQ (i:=0)) eU (bO Iz hr.md (by rfl) (bD (bO oZ hr.md (by rfl) (bD (pv 1) (bD (bY dW bI (pv 0)) bF))) (bD (pv 0) (bD (pv 6) (bD (pv 4) bF))))) (cH (i:=6) d8.nd rfl (Or.inl rfl))))
   (cU (PSB.mk (bZ (i:=7) d8.nd rfl (Or.inl rfl) (bY dW bI (bY lU (bU cu (pv 1) bI (λ_ _=>rfl)) (bU cu (jz (bD bI (bD bI bF))) (bY h_ (bU cu (pv 1) bI (λ_ _=>rfl)) bI) (λ_ _=>rfl))))))
   (cU (PSB.mk (bZ (i:=8) d8.nd rfl (Or.inl rfl) (bO dI hr.md (by rfl) (bD (bY lU (bU cu (pv 1) bI (λ_ _=>rfl)) (pv 7)) (bD (pv 7) bF)))))
   (cU (PSB.mk (bZ (i:=9) d8.nd rfl (Or.inl rfl) (bO Gs hr.md (by rfl) (bD (pv 8) (bD (pv 6) (bD (bO Ga hr.md (by rfl) (bD (bO oZ hr.md (by rfl) (bD (pv 0) (bD bI bF))) (bD (pv 5) bF))) bF))))))
   (cU (PSB.mk (bZ (i:=10) d8.nd rfl (Or.inl rfl) (bO Mt hr.md (by rfl) (bD (bO oZ hr.md (by rfl) (bD (pv 0) (bD bI bF))) (bD (pv 6) bF)))))
   (cU (PSB.mk (bZ (i:=11) d8.nd rfl (Or.inl rfl) (bY lU (bO oZ hr.md (by rfl) (bD (pv 0) (bD bI bF))) (pv 5))))
   (cU (PSB.mk (bZ (i:=12) d8.nd rfl (Or.inl rfl) bI))
   (cU (PSB.mk (Ni (bM Em) NK NK ["_law_room"] (dD ((pv 6)).mono) (fQ (i:=0)) eU (iz (bD bI (bD bI bF))) (cH (i:=13) d8.nd rfl (Or.inl rfl))))
   (cU (PSB.mk (fD PassesOwn.never rfl (d9 (by rfl) T.jf (bD (pv 4) bF).mono) (cH (i:=14) d8.nd rfl (Or.inl rfl))
    (bK (bZ (i:=12) d8.nd rfl (Or.inl rfl) (bY cL (pv 12) (pv 3)))
    (bN (bZ (i:=13) d8.nd rfl (Or.inl rfl) (bO HW hr.md (by rfl) (bD (pv 8) (bD (pv 6) (bD (pv 10) (bD (pv 13) bF))))))))))
   (cU (PSB.mk (bZ (i:=15) d8.nd rfl (Or.inl rfl) (iz (bD bI (bD bI bF)))))
   (cU (PSB.mk (fD PassesOwn.never rfl (d9 (by rfl) T.jf (bD (pv 12) bF).mono) (cH (i:=16) d8.nd rfl (Or.inl rfl))
    (bK (bZ (i:=18) d8.nd rfl (Or.inl rfl) (bO Bv hr.md (by rfl) (bD (pv 9) (bD (qd CJ (by rfl) T.xP boot_list (bD (pv 10) bF)) (bD (pv 11) (bD (bO yC hr.md (by rfl) (bD (pv 16) (bD (pv 4) (bD (pv 3) (bD (bO oZ hr.md (by rfl) (bD (pv 0) (bD bI bF))) bF))))) bF))))))
    (bK (eF (PW.pt (pw_or (dJ (dB (cF iQ (by rfl) T.dG boot_isinstance (bD (pv 18) (bD (lD (v:=.ty "tuple") (by rfl) T.GQ boot_tuple rfl) bF))) (λ_=>rfl))) (pw_or (cX Fw (cF Ep (by rfl) T.lZ PySem.boot_len (bD (pv 18) bF)) bI (cV _)) (pw_or1 (dJ (dB (bO uU hr.md (by rfl) (bD (bU cg (pv 18) bI (λ_ _=>rfl)) bF)) (λ_=>rfl)))))))
     (bN (cD v8))
     cN)
    (bN (bZ (i:=15) d8.nd rfl (Or.inl rfl) (bO qI hr.md (by rfl) (bD (pv 15) (bD (bU cg (pv 18) bI (λ_ _=>rfl)) bF)))))))))
   (cU (PSB.mk (bZ (i:=17) d8.nd rfl (Or.inl rfl) (bO DY hr.md (by rfl) (bD (pv 9) (bD (qd CJ (by rfl) T.xP boot_list (bD (pv 10) bF)) (bD (pv 4) bF))))))
   (cU (PSB.mk (eF (PW.pt (pw_or (dJ (dB (cF iQ (by rfl) T.dG boot_isinstance (bD (pv 17) (bD (lD (v:=.ty "list") (by rfl) T.xP boot_list rfl) bF))) (λ_=>rfl))) (pw_or (cX Fw (cF fW (by rfl) T.lZ PySem.boot_len (bD (pv 17) bF)) (bY dW (pv 4) bI) (cV _)) (pw_or1 (cX (Hl (K:=K) rfl hr.units) (bU cu (pv 17) (pv 4) (λ_ _=>rfl)) (pv 13) (cV _))))))
    (bN (cD v8))
    cN))
   (Rk (PSB.mk (cD (oV (Z0 hr.units) (pv 15) (bO m_ hr.md (by rfl) (bD (iz (bD (pv 12) (bD bI bF))) (bD (bU cu (pv 13) (pv 11) (λ_ _=>rfl)) bF))) (cV _))))))))))))))))))))))),?_⟩
  have z9:100<sizeLine:=by decide
  refine bQ λR1 hR1=>?_;refine cA ⟨_,rfl,0,rfl,hs,hl,by decide,_,4,rfl,by decide,λl ys H1 S1 fl hlx ln hx=>?_⟩;obtain⟨a1,b,c,e,rfl⟩ : ∃a b c e,ys=[a,b,c,e]:=by
   match ys,ln with
   |[a,b,c,e],_=>exact⟨a,b,c,e,rfl⟩
  subst hR1;dsimp only[cB,L2.start,List.set_cons_succ,List.set_cons_zero];refine bQ λR1 hR1=>?_;refine cA ⟨_,rfl,1,rfl,Same.sql S1 hs,hl,by decide,_,_,rfl,rfl,(show(0:Int)<5 by decide),?_⟩;subst hR1;dsimp only[cB,List.set_cons_succ,List.set_cons_zero];obtain⟨q,n,eq,q1,q6,m,em,m0,bm,en,n4,qn⟩:=Wu (cell ns 1) ((cell ns 1).fdiv 5);refine bQ λR1 hR1=>?_;refine cA ⟨(show 5<=sizeLine by decide),λp1 hp1=>⟨_,rfl,p1,_,_,_,rfl,rfl,bG,eq,?_⟩⟩;have S2:Same H1 (upd H1 p1 (.lst [.int 1,.int 2,.int 3,.int 4,.int 6])):=Same.upd hp1;generalize upd H1 p1 (.lst [.int 1,.int 2,.int 3,.int 4,.int 6])=H2 at S2 ⊢;have S02:=S1.trans S2;subst hR1;dsimp only[cB,List.set_cons_succ,List.set_cons_zero];refine bQ λR1 hR1=>?_;refine cA ⟨_,rfl,1,rfl,Same.sql S02 hs,hl,by decide,_,_,rfl,rfl,⟨by decide,Bd.sm (by decide)⟩,(show 5<=sizeLine by decide),λp2 hp2=>⟨_,rfl,p2,_,_,_,rfl,rfl,bG,em,_,_,rfl,rfl,by exact Int.ne_of_gt m0,?_⟩⟩;have S3:Same H2 (upd H2 p2 (.lst [.int 5,.int 5,.int 4,.int 3,.int 3])):=Same.upd hp2;generalize upd H2 p2 (.lst [.int 5,.int 5,.int 4,.int 3,.int 3])=H3 at S3 ⊢;have S03:=S02.trans S3;have hl3:=S3 _ _ (S2 _ _ hlx);subst hR1;dsimp only[cB,List.set_cons_succ,List.set_cons_zero];rw[en];obtain⟨m1,e1,m11,m14⟩ : ∃m1:Nat,1+a1%4=m1/\1<=m1/\m1<=4:=⟨(1+a1%4).toNat,by lia,by lia,by lia⟩;refine bQ λR1 hR1=>?_;refine cA ⟨_,rfl,l,_,0,_,rfl,rfl,hl3,fZ,a1,4,rfl,rfl,(show(0:Int)<4 by decide),1,_,rfl,rfl,?_⟩;subst hR1;dsimp only[cB,List.set_cons_succ,List.set_cons_zero];rw[e1];refine bQ λR1 hR1=>?_;refine cA (yP ⟨_,rfl,m1,rfl,by exact aM m14 (by decide),λD1 hD1=>⟨λk ys Hc=>∃dss:List (Ε),dss.length=k/\Same H3 Hc/\Hc D1=some (.lst ys)/\RD q m1 (del [D1] Hc) ys dss/\∀ds∈dss,ds.length<=3,⟨[],rfl,Same.upd hD1,bG,⟨rfl,λk ds z=>by simp at z⟩,by simp⟩,?_,?_⟩⟩)
  .rintro k ys Hc hk ⟨dss,dl,S4,h4,rd,d3⟩ hy;have SS:=S03.trans S4;refine⟨_,rfl,_,rfl,_,_,rfl,rfl,_,rfl,Same.sql SS hs,hl,by lia,_,rfl,_,rfl,_,rfl,_,k,m1,q,rfl,m11,by exact aM m14 (by decide),q1,q6,by lia,λl' ds H4 S5 f5 h5 d4 dd=>?_⟩;have h34:=S5 _ _ h4;have nl:l'∉[D1]:=λz=>by
    rw[YR.mp z,h4]at f5;cases f5
   refine⟨h34,dss++[ds],by rw[aA,dl];rfl,iy hD1 (S4.trans S5),bG,?_,λds' hd=>?_⟩
   .rw[mU (by simp)];refine⟨by rw[aA,aA,rd.len];rfl,λj ds' ej=>?_⟩;have rd4:=rd.same (nZ (H':=H4) λb o _ e=>S5 _ _ e);rcases d_ ej with⟨z,w⟩|⟨z,w⟩
    .obtain⟨l9,x1,x2⟩:=rd4.at_ j ds' w;exact⟨l9,by rw[aD (by rw[rd.len];exact(ao.mp w).1)];exact x1,x2⟩
    .subst w;exact⟨l',by rw[z,<- rd.len,aC (aF _),Nat.sub_self];rfl,cW nl h5,λd hd=>dd [D1] (λb z=>by rw[YR.mp z];exact⟨_,h4⟩) d hd⟩
   .rcases Y1.mp hd with z|z
    .exact d3 ds' z
    .rw[YR.mp z];exact d4
  rintro xs H4 ⟨dss,dl,S4,hr4,rd,d3⟩ hy;have rd:=rd.same jK;have S04:=S03.trans S4;have hl4:=S4 _ _ hl3;subst hR1;dsimp only[cB,List.set_cons_succ,List.set_cons_zero];refine bQ λR1 hR1=>?_;obtain⟨md,ed,md0,md1⟩ : ∃md:Int,atI [V.int 12,V.int 100] (c%2)=some (.int md)/\0<md/\md<=100:=by
   obtain z|z:c%2=0\/c%2=1:=by lia
   .exact⟨12,by rw[z];exact b_ (j:=0) rfl,by decide,by decide⟩
   .exact⟨100,by rw[z];exact b_ (j:=1) rfl,by decide,by decide⟩
  refine cA ⟨_,rfl,l,_,1,_,rfl,rfl,hl4,dj,by decide,λp5 H5 S5 f5 h5=>?_⟩;have hl5:=S5 _ _ hl4;refine⟨_,rfl,l,_,2,_,rfl,rfl,hl5,b_ (j:=2) rfl,c,2,rfl,rfl,(show(0:Int)<2 by decide),p5,_,_,_,rfl,rfl,h5,ed,b,md,rfl,rfl,by exact Int.ne_of_gt md0,1,_,rfl,rfl,?_⟩;obtain⟨t,et,t0,t1⟩ : ∃t:Int,1+b.fmod md=t/\1<=t/\t<=100:=⟨_,rfl,by rw[aX _ (XY md0)];have:=Z3 b (b:=md) (Int.ne_of_gt md0);lia,by rw[aX _ (XY md0)];have:=YY b (b:=md) md0;lia⟩;subst hR1;dsimp only[cB,List.set_cons_succ,List.set_cons_zero];rw[et];refine bQ λR1 hR1=>?_;refine cA ⟨_,rfl,l,_,3,_,rfl,rfl,hl5,b_ (j:=3) rfl,_,rfl,e,t,rfl,rfl,by lia,_,rfl,e.fmod t,t,rfl,by lia,Bd.sm (by omega),λps fps=>?_⟩;have f0:0<=e.fmod t:=by rw[aX _ (by lia)];exact Z3 _ (by lia)
  have f1:e.fmod t<t:=by rw[aX _ (by lia)];exact YY _ (by lia)
  have y0:=Ac.dX (t:=e.fmod t) (b:=t) (Int.lt_of_le_of_lt f0 f1);have gx:=Ac.pN (t:=e.fmod t) (b:=t) (Int.lt_of_le_of_lt f0 f1);have ye:=Ac.vC (t:=e.fmod t) (b:=t) (Int.lt_of_le_of_lt f0 f1);have y2:=Ac.vO (e.fmod t) t;have S6:=Same.upd fps (o:=.tup [.int (Ac.lw (e.fmod t) t).1,.int (Ac.lw (e.fmod t) t).2]);have hps:upd H5 ps (.tup [.int (Ac.lw (e.fmod t) t).1,.int (Ac.lw (e.fmod t) t).2]) ps=_:=bG;generalize upd H5 ps (.tup [.int (Ac.lw (e.fmod t) t).1,.int (Ac.lw (e.fmod t) t).2])=H6 at S6 hps ⊢;generalize(Ac.lw (e.fmod t) t).1=x at *;generalize(Ac.lw (e.fmod t) t).2=y at *;have x0:0<=x:=by
   refine Int.not_lt.mp λz=>?_;have h1:x*t<0:=Int.mul_neg_of_neg_of_pos z (Int.lt_of_le_of_lt f0 f1);have h2:0<=e.fmod t*y:=Int.mul_nonneg f0 (XY y0);lia
  have xy:x<y:=by
   refine Int.not_le.mp λz=>?_;have h1:y*t<=x*t:=Int.mul_le_mul_of_nonneg_right z (Int.le_trans f0 (XY f1));have h2:e.fmod t*y<t*y:=Int.mul_lt_mul_of_pos_right f1 y0;rw[Int.mul_comm y t]at h1;lia
  have y1:y<=100:=by lia
  have S46:=S5.trans S6;have S06:=S04.trans S46;subst dl
  clear y2 ye f0 f1 et ed h5 f5 hl5 hl4 hl3 em eq e1 hx hlx
  subst hR1;dsimp only[cB,List.set_cons_succ,List.set_cons_zero];refine bQ λR1 hR1=>?_;refine cA ⟨_,rfl,_,rfl,_,rfl,6,rfl,Same.sql S06 hs,hl,by decide,_,rfl,_,dss.length,rfl,by exact aM m14 (by decide),λl0 nms H7 S7 f7 h7 nl nw nd=>?_⟩;have S47:=S46.trans S7;have S07:=S06.trans S7;have hT7:=S07 _ _ hT;have sf:=Nx hT7;refine⟨L2.wo [D.T_plan_rounds] H7,_,Cw (by simp),R_ hT7,q,ps,D1,l0,x,y,xs,dss,nms,rfl,sf _ _ (.inr (.inl ⟨_,rfl⟩)) (S7 _ _ hps),x0,xy,y1,gx,sf _ _ (.inl ⟨_,rfl⟩) (S47 _ _ hr4),(rd.same S47).flat sf,by exact aM m14 (by decide),d3,sf _ _ (.inl ⟨_,rfl⟩) h7,nl,nw,nd,λo G8 rms S8 fo hh ok hi g8=>?_⟩;have hp8:=S8 _ _ (sf _ _ (.inr (.inl ⟨_,rfl⟩)) (S7 _ _ hps));have hr8:=S8 _ _ (sf _ _ (.inl ⟨_,rfl⟩) (S47 _ _ hr4));have rd8:=((rd.same S47).flat sf).same S8;obtain⟨fcss,fn,hn,rml,dmm⟩:=UJ (m:=3) hh ok hi hp8 x0 xy y1 hr8 rd8 rfl (aM m14 (by decide)) d3 (by decide);have hE:=aan x0 xy y1 rml dmm;obtain⟨L,hL,L9⟩:=Zr (aM (Nat.le_of_eq fn) m14) x0 xy y1 q1 q6 dmm;have few:=hi.few ok;have rl:rms.length=dss.length:=hi.len;have S78:Same H7 (upd G8 D.T_plan_rounds (.tbl #[])):=by
   have:=Sd (o:=.tbl #[]) S8 g8;rwa[<- R_ hT7]at this
  have G88:Same G8 (upd G8 D.T_plan_rounds (.tbl #[])):=Same.upd g8;have hT8:upd G8 D.T_plan_rounds (.tbl #[]) D.T_plan_rounds=_:=bG;generalize upd G8 D.T_plan_rounds (.tbl #[])=H8 at S78 G88 hT8 ⊢;have S08:=S07.trans S78
  clear S8 sf hT7 S78 h7 f7 S47 S46 S06 S07 S7 hr4 rd hps S5 S6 S04 S4
  subst hR1;dsimp only[cB,List.set_cons_succ,List.set_cons_zero];refine bQ λR1 hR1=>?_;refine cA ⟨_,rfl,7,rfl,Same.sql S08 hs,hl,by decide,_,rfl,_,D1,xs,q,dss.length,dss,rfl,G88 _ _ hr8,rd8.same G88,by exact aM m14 (by decide),λds h=>(by have:=d3 ds h;exact aM this (by decide)),λlp pl H9 S9 f9 h9 pf=>?_⟩;have S09:=S08.trans S9;have G89:=G88.trans S9;have ft:=Yn pf rml hr8 rd8 (Eq.symm fn);have fr:=hi.fitR pf;have cl:=pY ft;have xl:xs.length=dss.length:=rd8.len;subst hR1;dsimp only[cB,List.set_cons_succ,List.set_cons_zero];refine bQ λR1 hR1=>?_;obtain⟨st,est,stn⟩ : ∃st:Nat,(cell ns 8).fmod (dss.length:Nat)=st/\st<dss.length:=by
   rw[aX _ (Wp _)];have h0:0<=cell ns 8%(dss.length:Int):=Z3 _ (by lia);have h1:cell ns 8%(dss.length:Int)<dss.length:=YY _ (by lia);exact⟨(cell ns 8%(dss.length:Int)).toNat,by lia,by lia⟩
  refine cA ⟨_,rfl,8,rfl,Same.sql S09 hs,hl,by decide,_,rfl,_,_,rfl,rfl,by lia,?_⟩;subst hR1;dsimp only[cB,List.set_cons_succ,List.set_cons_zero];rw[est];refine bQ λR1 hR1=>?_;refine cA ?_;subst hR1;dsimp only[cB,List.set_cons_succ,List.set_cons_zero];refine bQ λR1 hR1=>?_;refine cA (qe (λH v f=>f=((0,1):Ι)/\∃a,v=V.ref a/\H a=some (.tup [.int 0,.int 1])) (List.replicate dss.length (0,1)) (λS z=>?_) rfl (G89 _ _ hr8) (by rw[aN,xl]) (by rw[aN];exact aM m14 (by decide)) (λk x c Hc D1 ys R' hx hc Sc h1 r'=>?_) λld H10 ys S10 f10 h10 al=>?_)
  .obtain⟨e,a,h⟩:=z;exact⟨e,a,h.1,S _ _ h.2⟩
  .have hc:=(XV.mp (aB hc)).2;exact⟨jm,λt H2 S2 f2 h2=>r' _ H2 S2 ⟨hc,t,rfl,cW (by simp only[YR];exact(bH h1 f2).symm) h2⟩⟩
  have na0:jh H10 ys (List.replicate (pick fcss pl).length (0,1)):=by
   rw[cl,fn];refine⟨al.len,λi f e=>?_⟩;have li:i<ys.length:=by rw[al.len];exact(ao.mp e).1
   obtain⟨e0,a,x1,x2⟩:=al.at_ i _ f (aj li) e;subst e0;exact⟨a,by rw[aj li,x1],jK _ _ x2,by decide,Bd.sm (by decide)⟩
  have S010:=S09.trans S10;have G810:=G89.trans S10;subst hR1;dsimp only[cB,List.set_cons_succ,List.set_cons_zero];refine bQ λR1 hR1=>?_;have bq:Bd (q:Int):=Bd.sm (by lia);refine cZ (gQ ⟨_,rfl,n,rfl,by exact Y3 n4 (by decide),λk σ H'=>∃(u14:Option V)(ld:Addr)(ys:Μ)(fs:Ψ),σ=[some (.ref a),some (.ref l),some (.int (cell ns 1%5)),some (.int q),some (.int n),some (.int dss.length),some (.ref D1),some (.int t),some (.ref ps),some (.ref o),some (.ref lp),some (.int st),some (.int ((q^k:Nat):Nat)),some (.ref ld),u14,none,none,none,none]/\Same H10 H'/\H' ld=some (.lst ys)/\jh H' ys fs/\RC (x,y) (pick fcss pl) k fs,⟨none,ld,ys,_,rfl,λ_ _ z=>z,h10,na0,.zero⟩,?_,?_⟩)
  .rintro k σ' H11 hk ⟨u14,ld,ys,fs,rfl,S11,h11,na,rc⟩;have qk:q^k<=36:=aM (XT q1 (Y2 hk)) qn;have eq:((q^k:Nat):Int)*(q:Int)=((q^(k+1):Nat):Int):=by rw[Nat.pow_succ,Int.natCast_mul]
   dsimp only[cB,List.set_cons_succ,List.set_cons_zero];refine bQ λR2 hR2=>?_;refine cA ⟨_,rfl,_,rfl,_,_,rfl,rfl,⟨Bd.sm (by lia),bq⟩,?_⟩;subst hR2;dsimp only[cB,List.set_cons_succ,List.set_cons_zero];rw[eq];have G811:=G810.trans S11;refine yg ⟨_,rfl,_,rfl,_,rfl,_,rfl,q,ps,D1,lp,ld,(x,y),fcss,pl,ys,fs,rfl,G811 _ _ hp8,x0,by show x<=y;exact XY xy,y0,y1,rml.same G811,(S10.trans S11) _ _ h9,ft,by lia,h11,na,by rw[rc.len,cl],YB (rc.ok hL) hL.L0 L9 (aM (Y2 hk) n4),λt' H12 ys' gs S12 f12 h12 na12 nx=>?_⟩;exact⟨_,t',ys',gs,rfl,S11.trans S12,h12,na12,.succ rc nx⟩
  rintro σ' H11 ⟨u14,ld,ys,fs,rfl,S11,h11,na,rc⟩;have S011:=S010.trans S11;have G811:=G810.trans S11;have h9:=(S10.trans S11) _ _ h9;subst hR1;dsimp only[cB,List.set_cons_succ,List.set_cons_zero];refine bQ λR1 hR1=>?_;refine cA ⟨jm,λpd H12 S12 f12 h12=>?_⟩;have S012:=S011.trans S12;have G812:=G811.trans S12;have h9:=S12 _ _ h9;have h11:=S12 _ _ h11;have na:=na.imp λp us e=>S12 _ _ e;subst hR1;dsimp only[cB,List.set_cons_succ,List.set_cons_zero];refine bQ λR1 hR1=>?_;have b1s:Bn 2 x:=by unfold Bn;lia
  have b2s:Bn 2 y:=by unfold Bn;lia
  refine cZ (gQ ⟨_,rfl,q^n,rfl,by exact Y3 qn (by decide),λi σ H'=>∃(u16 u18:Option V)(pd:Addr)(z o':Int)(xf:Nat->Rat),σ=[some (.ref a),some (.ref l),some (.int (cell ns 1%5)),some (.int q),some (.int n),some (.int dss.length),some (.ref D1),some (.int t),some (.ref ps),some (.ref o),some (.ref lp),some (.int st),some (.int ((q^n:Nat):Nat)),some (.ref ld),u14,some (.ref pd),u16,none,u18]/\Same H12 H'/\H' pd=some (.tup [.int z,.int o'])/\0<o'/\Int.gcd z o'=1/\Bn (21*i+77) z/\Bn (20*i) o'/\vl (z,o')=fB xf i/\∀d,d<i->Goes (pick fcss pl) (vl (x,y)) st (t_ q n d) (xf d),⟨none,none,pd,0,1,λ_=>0,rfl,λ_ _ z=>z,h12,by decide,by decide,(show Bn 77 0 by unfold Bn;decide),(show Bn 0 1 by unfold Bn;decide),(oE 0).trans Rat.intCast_zero,λd z=>absurd z (Nat.not_lt_zero _)⟩,?_,?_⟩)
  .rintro i σ' H13 hi' ⟨u16,u18,pd,z,o',xf,rfl,S13,h13,o0,gc,bz,bo,ev,go⟩;have G813:=G812.trans S13;dsimp only[cB,List.set_cons_succ,List.set_cons_zero];refine bQ λR2 hR2=>?_;refine cA ⟨_,rfl,_,rfl,lp,_,rfl,S13 _ _ h9,λlq H14 S14 f14 h14=>⟨_,rfl,_,rfl,_,rfl,_,rfl,_,rfl,9,rfl,Same.sql (S012.trans (S13.trans S14)) hs,hl,by decide,i,n,q,cell ns 9,rfl,by exact aM n4 (by decide),q1,q6,λtn H15 yn fs' S15 f15 h15 nan fnl fne=>?_⟩⟩;have G815:=G813.trans (S14.trans S15);refine⟨o,ps,lq,tn,rms,(x,y),fcss,pl,st,yn,fs',rfl,hh.same G815,few,fr,by lia,S15 _ _ h14,ft,hn.same G815,G815 _ _ hp8,hE,by lia,h15,nan,by lia,λtr H16 S16 f16 ran=>?_⟩;have S1316:=S14.trans (S15.trans S16);obtain⟨ls,pp,yr,vs,z',o'',e',k',a1',a2',a3',a4',a5',a6',a7',a8',a9',a10'⟩:=ran.ex;subst hR2;dsimp only[cB,List.set_cons_succ,List.set_cons_zero];refine bQ λR2 hR2=>?_;refine cZ (rC (Hh ⟨_,rfl,_,_, "tuple",rfl,by simp,M4 a1',true,rfl,?_⟩));refine YD ?_;refine Hh ⟨_,rfl,tr,_,rfl,a1',rfl,false,rfl,?_⟩;refine if_not ?_;refine⟨_,rfl,tr,_,1,_,rfl,rfl,a1',dj,pp,_,_,rfl,a4',true,by rw[Zs a5',Zs a6'];rfl,?_⟩;show R2 _ _ _;subst hR2;have ln:(fs'.map C_).length=n:=by rw[ak,fnl]
   have pays:∀f∈vs.map (uW (pick fcss pl)),0<f.2/\Bn 30 f.1/\Bn 3 f.2:=λf hf=>by
    obtain⟨v,hv,rfl⟩:=YV.mp hf;obtain⟨j,ej⟩:=aW hv;obtain⟨_,_,_,fc,_,_,_,x4,_⟩:=a3'.at_ j v ej;have pr:uW (pick fcss pl) v=fc.1:=by unfold uW;rw[au,x4];rfl
    obtain⟨fcs,m1,m2⟩:=nA (aB x4);have dm:=(dmm fcs m1).2 fc m2;have:=dm.fb;have:=dm.fq.pos;rw[pr];exact⟨dm.fq.pos,dm.fa,by unfold Bn;lia⟩
   have vl4:vs.length<=4:=by
    have:=a9'.len;rw[bf,ln]at this;lia
   have gs:=JB (s:=vl (x,y)) (by rw[ln,<- fnl];exact a8') a9' (a10'.imp (λz=>by rw[ln,<- fnl];exact z) id);rw[fne]at gs;obtain⟨pa,pb,pb0,pbb,pba,pe⟩:=Ez (s:=(x,y)) y0 b1s b2s pays;rw[ak]at pbb pba;obtain⟨bz',bo'⟩:=aaj a5' a6' pb0 (pba.up (b:=57) (by lia)) (pbb.up (b:=20) (by lia)) (a7'.trans pe);have y9:21*i+77+77+1<=2400:=by lia
   have oo:=XZ o0 a5';refine yg ⟨_,rfl,_,rfl,tr,_,1,_,rfl,rfl,a1',dj,pd,pp,z,o',z',o'',rfl,S1316 _ _ h13,a4',bz.bd (by lia),bo.bd (by lia),bz'.bd (by decide),bo'.bd (by decide),o0,a5',(bo.mul bo').bd (by lia),λr6 H17 S17 f17 h17=>?_⟩;refine⟨_,_,r6,_,_,λd=>if d=i then sV (vl (x,y)) (vs.map (uW (pick fcss pl)))else xf d,rfl,S13.trans (S1316.trans S17),h17,Ac.dX oo,Ac.pN oo,((((bz.mul bo').up (b:=21*i+97) (aF _)).add ((bz'.mul bo).up (by lia))).lw1).up (by lia),((bo.mul bo').lw2).up (by lia),?_,λd hd=>?_⟩
   .show vl (Ac.lw (z*o''+z'*o') (o'*o''))=fB _ i+(if i=i then _ else _);rw[Bp o0 a5',ev,ZY rfl,a7',gY (g:=xf) λd hd=>ZZ (aR hd)]
   .show Goes _ _ _ _ (if d=i then _ else xf d);by_cases e:d=i
    .rw[ZY e,e];exact gs
    .rw[ZZ e];exact go d (XX (Nat.le_of_lt_succ hd) e)
  rintro σ' H13 ⟨u16,u18,pd,z,o',xf,rfl,S13,h13,o0,gc,bz,bo,ev,go⟩;have S013:=S012.trans S13;have G813:=G812.trans S13;subst hR1;dsimp only[cB,List.set_cons_succ,List.set_cons_zero];refine bQ λR1 hR1=>?_;refine cA ⟨_,rfl,_,rfl,lp,_,rfl,S13 _ _ h9,λlq H14 S14 f14 h14=>⟨_,rfl,?_⟩⟩;have S014:=S013.trans S14;have G814:=G813.trans S14;have hT14:=S014 _ _ hT;have GW:Same G8 (L2.wo [D.T_plan_rounds] H14):=λb u e=>(rN (by
   simp only[YR];intro z;rw[z,g8]at e;cases e)).trans (G814 _ _ e)
  have Ln:L^n<=10^480:=aM (Nat.pow_le_pow_left L9 n) (by
   rw[<- Nat.pow_mul];exact XT (by decide) (by lia))
  refine⟨o,ps,lq,rms,n,L,(x,y),fcss,pl,none,rfl,hh.same G814,few,fr,by exact aM n4 (by decide),h14,ft,hT14,hn.same GW,hL,Ln,λtt ls fss H15 cc SW laA _ ftt fls ntt htt rdd lnn ro=>?_⟩;have fw:∀b u,YF u->H14 b=some u->H15 b=some u:=λb u fu e=>tU _ _ (SW _ _ (Nx hT14 _ _ fu e));have nW:=(na.imp λp us e=>S14 _ _ (S13 _ _ e)).imp λp us e=>fw _ _ (.inr (.inl ⟨_,rfl⟩)) e;have hld:=fw _ _ (.inl ⟨_,rfl⟩) (S14 _ _ (S13 _ _ h11));have hpd:=fw _ _ (.inr (.inl ⟨_,rfl⟩)) (S14 _ _ h13);have efs:fss[n]?=some fs:=rc.at_ (by rw[cl];exact ro.first) ro.next (by lia);have lsl:=rdd.len;have els:=aj (show n<ls.length by lia);obtain⟨zs,z1,z2⟩:=rdd.at_ n _ _ els efs;have z1:=tU _ _ z1;have z2:=z2.same tU;have two:=Vz (g:=frD) (λ_=>rfl) (λ_=>Xs 1) fs;subst hR1;dsimp only[cB,List.set_cons_succ,List.set_cons_zero];refine bQ λR1 hR1=>?_;refine cZ (rC (Hh ⟨_,rfl,_,_, "list",rfl,by simp,Il htt,true,rfl,?_⟩));refine YD ?_;refine Hh ⟨_,rfl,tt,_,rfl,htt,_,rfl,_,_,rfl,rfl,rfl,false,ZH (λb=>V.bl (!b)) (Zs (by rw[ak,lsl,lnn];rfl)),?_⟩;refine if_not ?_;refine⟨_,rfl,_,rfl,tt,_,(n:Nat),_,rfl,rfl,htt,b_ (j:=n) (by rw[aq,els];rfl),_,rfl,_,_,.lst z1 z2.shows,.lst hld (Tr nW).shows,two.1,two.1,false,ZH (λb=>V.bl (!b)) two.2,?_⟩;show R1 _ _ _;subst hR1;have ls':st<fs.length:=by rw[rc.len,cl];lia
  have ef:=aj ls';have mf:=aV ls';obtain⟨ad,d1,d2,d4,d5⟩:=nW.2 st _ ef;have wf:wq fs st=vl fs[st]:=by unfold wq;rw[au,ef];rfl
  obtain⟨bf1,bf2⟩:=YB (rc.ok hL) hL.L0 L9 n4 _ mf;generalize fs[st]=g at *;have mn:=Ow (s:=vl (x,y)) q1 (λfc hf=>by
   obtain⟨fcs,m1,m2⟩:=nA hf;exact((dmm fcs m1).2 fc m2).wy) go
  rw[<- rc.val,wf]at mn;have gp:0<1*g.2:=by lia
  have bq':Bn 2 ((q^n:Nat):Int):=by unfold Bn;lia
  refine fG ⟨_,rfl,_,rfl,jm,λtw H16 S16 f16 h16=>⟨_,rfl,_,rfl,ld,ys,(st:Nat),_,rfl,rfl,S16 _ _ hld,b_ (j:=st) d1,tw,ad,_,_,g.1,g.2,rfl,h16,S16 _ _ d2,bq'.bd (by decide),Bd.sm (by decide),bf1.bd (by decide),bf2.bd (by decide),by decide,d4,by rw[Int.one_mul];exact bf2.bd (by decide),λtm H17 S17 f17 h17=>?_⟩⟩;have vt:=yc (x:=((q^n:Nat):Int)) (y:=1) (u:=g.1) (v:=g.2) (by decide) d4;rw[oE]at vt;obtain⟨u1,u2⟩:=MP o0 gc (Ac.dX gp) (Ac.pN (t:=((q^n:Nat):Int)*g.1) gp) (by rw[ev,mn];exact vt.symm);refine⟨.tuple [.int z,.int o'],.tuple [.int z,.int o'],.tup (S17 _ _ (S16 _ _ hpd)) (.cons (.int _) (.cons (.int _) .nil)),.tup h17 (.cons (by rw[<- u1];exact .int _) (.cons (by rw[<- u2];exact .int _) .nil)),rfl,rfl,?_⟩;show Q (.bl (PyData.eqv (.tuple [.int z,.int o']) (.tuple [.int z,.int o']))) H17;rw[PySem.SeqAt.eqv_refl _ rfl];exact hQ _
end
theorem law_fn{l:PySem.W.OpenLaw}{w:World}{K:Frag}{mg:Str->Ζ}{Pt:Addr}(T0:∃D:Adr,D.T_plan_rounds=Pt/\Txt K mg D)(base:Heap)(hB:base.BuiltinsAt mg Pt)(f:Addr)(fd:FuncData)(F:Fun K G4 G4 Em f fd) :
  cC l.prog w K mg base CX0 9 f fd LC (GK K Pt):=by
 obtain⟨D,rfl,T⟩:=T0;have o {base:Heap}{k:Nat}{n:Str}{st:Stmt}{ps:Β}{sp:Sp} (h:dw K mg n st ps) (g:∀f fd,Fun K n n st f fd->cC l.prog w K mg base CX0 k f fd ps sp):OkF l.prog w K mg base k n ps sp:=h.ok g;have x {k:Nat}{n:Str}{st:Stmt}{ps:Β}{sp:Sp} (h:dw K mg n st ps) (g:∀f fd,Fun K n n st f fd->cC l.prog w K mg base (CXO l.prog w) k f fd ps sp):OkX l.prog w K mg base k n ps sp:=h.okX g;have i {X:CXT}{k:Nat}{n m:Str}{st:Stmt}{ps:Β}{f:Addr}{sp:Sp} (h:zm K n m st ps f) (g:∀fd,Fun K n m st f fd->cC l.prog w K mg base X k f fd ps sp):OkI l.prog w K mg base X k f ps sp:=h.ok g;have B_is_whole:∀base:Heap,OkF l.prog w K mg base 1 eG eZ eE:=λbase=>o T.Ma λ_ _ F=>Jf F T;have B_divisor:∀base:Heap,OkF l.prog w K mg base 1 g_ ig gj:=λbase=>o T.QL λ_ _ F=>LQ F T;have B_ratio:∀base:Heap,OkF l.prog w K mg base 2 iR iY jc:=λbase=>o T.Wy λ_ _ F=>Uh F T (B_is_whole base) (B_divisor base);have B_plus:∀base:Heap,OkF l.prog w K mg base 3 qK qJ (xZ (K:=K) λa b=>a+b):=λbase=>o T.Zw λ_ _ F=>Xg F (B_ratio base);have B_levelK:∀base:Heap,OkF l.prog w K mg base 2 gW iZ (ql K):=λbase=>o T.G7 λ_ _ F=>EY F (B_divisor base);have j7:∀base:Heap,OkF l.prog w K mg base 5 gJ gH (pR K D):=λbase=>o T.GF λ_ _ F=>DQ F T (o T.G7 λ_ _ F=>Fb F (B_divisor base)) (o T.Dq λ_ _ F=>Cq F T (o T.Dy λ_ _ F=>Ae F T (B_levelK base) (B_ratio base)) (o T.W9 λ_ _ F=>Tt F (B_ratio base)) (B_plus base)) (o T.QF λ_ _ F=>Kq F T (o T.Y_ λ_ _ F=>Yb F (B_ratio base)));have oZ:∀a ns,OkF l.prog w K mg base 1 wL vo (Hz K a ns):=λa ns=>T.YM.ok λ_ _ F=>XF F a ns;have cR:=B_is_whole base;have Ek:=o (base:=base) T.aa3 λ_ _ F=>Y5 F T;have gO:=B_divisor base;have gR:=B_ratio base;have jy:=o (base:=base) T.Xa λ_ _ F=>R8 F;have yu:=B_plus base;have iB:=o (base:=base) T.Q8 λ_ _ F=>Ml F T;have gk:=o T.Lf λ_ _ F=>Jb F T cR gO;have pB:=x T.Ib λ_ _ F=>Ec F T iB gk;have Gg:=x T.wD λ_ _ F=>uH F T iB;have Qn:=x T.Br λ_ _ F=>yV F T gk jy;have qm:=i T.Iw λ_ F=>GX F T pB;have rT:=i T.Gz λ_ F=>Gy F T;have Vq:=B_levelK base;have mH:OkF l.prog w K mg base 2 gW iZ vW:=T.G7.ok λ_ _ F=>(EY F gO).imp λ_ _ _ _ h=>Rn h;have WY:=o T.f_total λ_ _ F=>Uv F T mH gR;have U8:=x T.Ed λ_ _ F=>Ca F T Gg Qn WY.wild;have QX:=x T.Eb λ_ _ F=>Cu F T yu.wild;have pC:=i T.Ea λ_ F=>Dm F T qm U8 QX;have o8:=o T.Dt λ_ _ F=>Ak F T gk jy;have qR:=o T.Hi λ_ _ F=>Ej F T iB;have mD:=o T.yW λ_ _ F=>yt F T rT;have sH:=o T.Je λ_ _ F=>Ho F T mD;have Kh:=i T.Hr λ_ F=>G9 F T o8 qR sH;have eV:=i T.HD λ_ F=>GP F T;have dR:=i T.uD λ_ F=>uN F T cR eV;have gK:=i T.Bq λ_ F=>zY F T dR;have Mz:=o T.Zm λ_ _ F=>Xn F T cR;have mY:=o T.Gw λ_ _ F=>Dz F T Mz eV gK;have o9:=x T.HS λ_ _ F=>Dv F T cR;have fX:=o T.BW λ_ _ F=>zj F T gK;have uO:=o T.La λ_ _ F=>J9 F T yu;have BR:=o (base:=base) T.Ux λ_ _ F=>Ql F;have oW:=o T.Dl λ_ _ F=>Cr F T BR jy;have qz:=o T.Hy λ_ _ F=>Du F T Vq gR;have Bv:=o T.Vt λ_ _ F=>Qm F T mY dR fX uO oW qz;have Az:OkX l.prog w K mg base 8 fU iu (uJ K D):=T.Dw.okX λ_ _ _ F hc hC=>Ci F hc hC T hB j7 mY.wild o9 fX eV;have jB:=o (base:=base) T.Sh λ_ _ F=>Qe F T;have dI:=o T.T8 λ_ _ F=>PL F Ek;have qI:=o T.X8 λ_ _ F=>Tj F dI;have m_:=o T.Tq λ_ _ F=>QC F dI;have Iz:=o T.Xk λ_ _ F=>Ss F T jB dI;have Mt:=o T.Zo λ_ _ F=>QW F T jB;have Ga:=o (base:=base) T.Xm λ_ _ F=>R9 F T;have Gs:=o T.Wx λ_ _ F=>Rb F T pC Kh.wild;have zL:=o (base:=base) T.Wc λ_ _ F=>RW F T;have uU:=o T.Lb λ_ _ F=>J3 F T zL Ek;have HW:=o T.Xx λ_ _ F=>Ug F T qI m_;have yC:=o T.PN λ_ _ F=>Mh F T dI;exact aah F T oZ jB Iz dI Ga Gs Mt HW Bv yC uU qI m_ Az.calm
end K58
open PySem PySem.W PyProof.Rows
set_option maxRecDepth 100000 in
set_option maxHeartbeats 0 in
theorem PySem.Challenge.cw_chancehall_k58_whole_mean_of_runs_holds : PySem.Challenge.rw_chancehall_k58_whole_mean_of_runs.Holds := by
 w_on
 refine holds_law H58.wsd λsaid=>?_;refine holds_open (q:=H58.qv) (loose:=[]) (XP:=XL H58.qv []) (YP:=InK H58.KHT) H58.left (InK.of H58.asK) InK.keeps H58.hX XL.keeps (by rfl) (by rfl) (by rfl) H58.hR (by rfl) said (by decide +kernel) ⟨rfl,rfl,rfl,rfl,rfl,by decide +kernel⟩ ?hw ?hc
 (case hw=>w_witness2)
 have hkf:PySem.Challenge.rw_chancehall_k58_whole_mean_of_runs=PySem.Challenge.rw_chancehall_k58_whole_mean_of_runs/\H58.KH=H58.KH:=by
  k_fill
  exact⟨rfl,rfl⟩
 clear hkf
 refine L2.Z1 (l:=PySem.Challenge.rw_chancehall_k58_whole_mean_of_runs) (k:=9) (x := "_law_script") 457 461 rfl rfl ⟨rfl,by decide,by decide⟩ (λw h Y=>L2.Sv (K:=H58.KH w.params) (show(H58.KH w.params++[(457,L2.Once.fE)]).In h from Y) (by kernel_rfl)) (λw=>by kernel_rfl) (λw=>by kernel_rfl) ?F
 case F =>
  intro w mg fa h KX G hmg;refine⟨K58.Em,?_,λbase f fd hB F=>K58.law_fn ?T base hB f fd F⟩
  .exact L2.q_f 1 λ_ _ _ _ _ _ _=>rfl
  case T =>
   refine⟨⟨44,56,68,319,340,425,135,136,302,309,337,382,389,410,422,457⟩,rfl,⟨L2.q_c,L2.q_c,L2.q_c,L2.q_c,L2.q_c,L2.q_c,L2.q_c,L2.q_c,L2.q_x,L2.q_x,L2.q_x,L2.q_g,L2.q_g,L2.q_t,L2.q_t,L2.q_4,L2.q_m,L2.q_n,L2.q_n,L2.q_n,L2.q_M,L2.q_4,L2.q_m,L2.q_n,L2.q_n,L2.q_n,L2.q_M,L2.q_4,L2.q_m,L2.q_m,L2.q_m,L2.q_n,L2.q_n,L2.q_n,L2.q_n,L2.q_n,L2.q_n,L2.q_B,L2.q_h 3 λ_ _ _ _ _ _ _ _ _=>rfl,L2.q_h 1 λ_ _ _ _ _ _ _=>rfl,L2.q_h 4 λ_ _ _ _ _ _ _ _ _ _=>rfl,L2.q_h 3 λ_ _ _ _ _ _ _ _ _=>rfl,L2.q_h 1 λ_ _ _ _ _ _ _=>rfl,L2.q_h 2 λ_ _ _ _ _ _ _ _=>rfl,L2.q_h 2 λ_ _ _ _ _ _ _ _=>rfl,L2.q_z,L2.q_z,L2.q_z,L2.q_z,L2.q_z,L2.q_z,L2.q_z,L2.q_z,L2.q_z,L2.q_z,L2.q_z,L2.q_z,L2.q_z,L2.q_z,L2.q_z,L2.q_f 1 λ_ _ _ _ _ _ _=>rfl,L2.q_f 2 λ_ _ _ _ _ _ _ _=>rfl,L2.q_f 2 λ_ _ _ _ _ _ _ _=>rfl,L2.q_f 1 λ_ _ _ _ _ _ _=>rfl,L2.q_f 2 λ_ _ _ _ _ _ _ _=>rfl,L2.q_f 2 λ_ _ _ _ _ _ _ _=>rfl,L2.q_f 2 λ_ _ _ _ _ _ _ _=>rfl,L2.q_f 2 λ_ _ _ _ _ _ _ _=>rfl,L2.q_f 1 λ_ _ _ _ _ _ _=>rfl,L2.q_f 1 λ_ _ _ _ _ _ _=>rfl,L2.q_f 1 λ_ _ _ _ _ _ _=>rfl,L2.q_f 2 λ_ _ _ _ _ _ _ _=>rfl,L2.q_f 2 λ_ _ _ _ _ _ _ _=>rfl,L2.q_f 2 λ_ _ _ _ _ _ _ _=>rfl,L2.q_f 3 λ_ _ _ _ _ _ _ _ _=>rfl,L2.q_f 2 λ_ _ _ _ _ _ _ _=>rfl,L2.q_f 1 λ_ _ _ _ _ _ _=>rfl,L2.q_f 2 λ_ _ _ _ _ _ _ _=>rfl,L2.q_f 2 λ_ _ _ _ _ _ _ _=>rfl,L2.q_f 4 λ_ _ _ _ _ _ _ _ _ _=>rfl,L2.q_f 1 λ_ _ _ _ _ _ _=>rfl,L2.q_f 2 λ_ _ _ _ _ _ _ _=>rfl,L2.q_f 1 λ_ _ _ _ _ _ _=>rfl,L2.q_f 1 λ_ _ _ _ _ _ _=>rfl,L2.q_f 1 λ_ _ _ _ _ _ _=>rfl,L2.q_f 1 λ_ _ _ _ _ _ _=>rfl,L2.q_f 1 λ_ _ _ _ _ _ _=>rfl,L2.q_f 1 λ_ _ _ _ _ _ _=>rfl,L2.q_f 2 λ_ _ _ _ _ _ _ _=>rfl,L2.q_f 2 λ_ _ _ _ _ _ _ _=>rfl,L2.q_f 1 λ_ _ _ _ _ _ _=>rfl,L2.q_f 2 λ_ _ _ _ _ _ _ _=>rfl,L2.q_f 3 λ_ _ _ _ _ _ _ _ _=>rfl,L2.q_f 3 λ_ _ _ _ _ _ _ _ _=>rfl,L2.q_C 3 λ_ _ _ _ _ _ _ _ _=>rfl,L2.q_f 2 λ_ _ _ _ _ _ _ _=>rfl,L2.q_f 2 λ_ _ _ _ _ _ _ _=>rfl,L2.q_f 2 λ_ _ _ _ _ _ _ _=>rfl,L2.q_f 2 λ_ _ _ _ _ _ _ _=>rfl,L2.q_f 1 λ_ _ _ _ _ _ _=>rfl,L2.q_f 1 λ_ _ _ _ _ _ _=>rfl,L2.q_f 2 λ_ _ _ _ _ _ _ _=>rfl,L2.q_f 4 λ_ _ _ _ _ _ _ _ _ _=>rfl,L2.q_f 3 λ_ _ _ _ _ _ _ _ _=>rfl,L2.q_f 2 λ_ _ _ _ _ _ _ _=>rfl,L2.q_f 2 λ_ _ _ _ _ _ _ _=>rfl,L2.q_f 2 λ_ _ _ _ _ _ _ _=>rfl,L2.q_f 4 λ_ _ _ _ _ _ _ _ _ _=>rfl,L2.q_f 4 λ_ _ _ _ _ _ _ _ _ _=>rfl⟩⟩
#print axioms PySem.Challenge.cw_chancehall_k58_whole_mean_of_runs_holds
