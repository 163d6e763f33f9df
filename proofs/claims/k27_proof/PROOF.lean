import PyProof.Rows.All
import Wide.All
import OpenK.AllK
import Wide.FinOn
import Lean
import PyProof.EqAt
import PyProof.EqKinds
import PyProof.TupleCall
import PyProof.EqLayable
import KE.KIntText
import PyProof.EnumMake
import PyProof.EnumStmt
import PyProof.EnumFor
import PyProof.Rows.EnumRows
import PyProof.ExcInit
import PyProof.ExcClass2
import PyProof.InstStoreFacts
import KE.KRevIter
import PySem.Challenge.RW_chancehall_k27_whole_rising
def aj := @List.getElem?_eq_getElem
def ak := @List.length_map
def ao := @List.getElem?_eq_some_iff
def aq := @List.getElem?_map
def au := @List.getD_eq_getElem?_getD
def aA := @List.length_append
def aC := @List.mem_of_getElem?
def aD := @List.getElem?_append_right
def aF := @List.getElem?_append_left
def aG := @Nat.le_refl
def aH := @PySem.Heap.get?_push_of_some
def aJ := @List.mem_cons_of_mem
def aK := @PySem.Heap.lt_size
def aL := @Nat.le_trans
def aM := @List.getElem?_eq_none
def aN := @List.length_replicate
def aO := @List.mem_cons_self
def aP := @List.mem_append_right
def aQ := @Nat.ne_of_lt
def aR := @Nat.lt_of_lt_of_le
def aU := @List.getElem_mem
def aV := @List.getElem?_of_mem
def aW := @PySem.Heap.get?_push_size
def aX := @List.size_toArray
def aY := @List.length_take
def aZ := @Nat.zero_le
def bf := @List.map_append
def bw := @Bool.false_ne_true
open PySem.W (Frag instObj methodObj lookIn plainGet hasDictIn findIn handedIn plainGet_of isFn plainOver takerIn makesIn emptyDict keepIn specialIn takesIn mroIn kitOne kia_one kitx_list kitx_tuple callWith_K methodCall_KW codeIn nsIn mg_of excIn readsIn findCls)
section
open PySem PySem.Spec PyProof.Rows
abbrev Γ:=List (Int×Int)
abbrev Δ:=List (Addr×Obj)
abbrev Θ:=List Value
abbrev Φ:=List Str
abbrev Ψ:=List Addr
abbrev Ω:=Option Value
abbrev Ξ:=Option Addr
abbrev Β:=Int×Int
abbrev Ε:=Value->Shared->Prop
def Zs:=@decide_eq_true
def Zp:=@decide_eq_false
def ZZ:=@if_neg
def ZY:=@if_pos
def ZU:=@wpAny_bind
def ZT:=@wpAny_pure
def ZH:=@congrArg
def Z3:=@Int.emod_nonneg
def YY:=@Int.emod_lt_of_pos
def YV:=@List.mem_map
def YU:=@List.mem_cons
def YR:=@List.mem_singleton
def Y1:=@List.mem_append
def Y2:=@Nat.le_of_lt
def Y3:=@Nat.lt_of_le_of_lt
def Xs:=@Nat.le_succ
def XZ:=@Int.mul_pos
def XY:=@Int.le_of_lt
def XX:=@Nat.lt_of_le_of_ne
def XW:=@Bool.false_eq_true
def XV:=@Rat.intCast_mul
def XU:=@Nat.pow_le_pow_right
def XT:=@Int.natAbs_natCast
def XG:=@List.getElem?_replicate
def X0:=@Nat.lt_succ_self
def X1:=@Nat.le_add_right
def X2:=@Nat.lt_irrefl
def X9:=@Int.natCast_nonneg
def Wp:=@List.append_assoc
def WZ:=@Nat.not_lt_zero
def WV:=@Nat.lt_add_right
end
set_option Elab.async false
set_option linter.all false
set_option maxRecDepth 100000
set_option maxHeartbeats 4000000
namespace L2.Once
open PySem PySem.W
def z:Pos:=⟨0,0,0,0⟩
noncomputable def tE:Obj:=⟨.type "tuple",none,.seq ⟨[]⟩ 0,⟨[]⟩⟩
noncomputable def fE:Obj:=⟨.none,none,.fields ⟨[]⟩,⟨[]⟩⟩
noncomputable def tN(t:Nat)(l:Φ):Obj:=⟨.type "tuple",none,.seq ⟨(l.zipIdx t).map λx=>.str x.1 x.2⟩ 0,⟨[]⟩⟩
noncomputable def cO(n q:Str)(t:Nat)(l a f:Int)(r u:Nat):Obj:=⟨.type "code",none,.fields ⟨[.str n t,.str q (t+1),.str "/claim/cut.py" (t+2),.int l 0,.int a 0,.int 0 0,.int 0 0,.int f 0,.ref r,.bool true,.int 181 0,.ref (r+1),.none,.ref (r+2),.ref (r+3),.ref (r+4),.int u 0,.int l 0,.str "/claim/cut.py" (u+1)]⟩,⟨[]⟩⟩
def o11:Obj:={ cls:=.type "tuple",data:=.seq #[] }
def o12:Obj:={ cls:=.none,data:=.fields #[] }
def o13:Obj:={ cls:=.type "code",data:=.fields #[.str "<module>" 182,.str "<module>" 183,.str "/claim/cut.py" 184,.int 1 0,.int 0 0,.int 0 0,.int 0 0,.int 0 0,.ref 11,.bool false,.int 181 0,.ref 12,.none,.none,.none,.none,.int 185 0,.int 1 0,.str "/claim/cut.py" 186] }
def o14:Obj:={ cls:=.type "frame",slots:=#[some (.ref 13),some (.ref 3),some (.ref 3),none,some (.str "__main__" 164),none,some (.ref 0)] }
noncomputable def cP(n q:Str)(t:Nat)(l a f:Int)(r u:Nat):Obj:=⟨.type "code",none,.fields ⟨[.str n t,.str q (t+1),.str "/claim/cut.py" (t+2),.int l 0,.int a 0,.int 0 0,.int 0 0,.int f 0,.ref r,.bool true,.int 181 0,.ref (r+1),.none,.none,.none,.ref (r+2),.int u 0,.int l 0,.str "/claim/cut.py" (u+1)]⟩,⟨[]⟩⟩
noncomputable def dE(P:Params)(x:Str)(t:Nat)(v:Value):DictEntry:=⟨PyData.keyHash P x,.str x t,v⟩
abbrev lf(o:Obj):BT:=.node o .nil .nil
noncomputable def tr(P:Params):BT:=.node (boot_o_0 P)
 (.node (boot_o_1 P) (.node (boot_o_3 P) (lf (boot_o_7 P)) (lf o11)) (.node (boot_o_5 P) (lf (boot_o_9 P)) (lf o13)))
 (.node (boot_o_2 P) (.node (boot_o_4 P) (lf (boot_o_8 P)) (lf o12)) (.node (boot_o_6 P) (lf (boot_o_10 P)) (lf o14)))
noncomputable def S0(w:World)(os:OsState):Shared:=⟨boot_heap w.params,Array.mk [],boot_drawn,boot_toks,os⟩
noncomputable def Sa(w:World)(os:OsState):Shared:=⟨⟨Array.mk [boot_o_0 w.params,boot_o_1 w.params,boot_o_2 w.params,boot_o_3 w.params,boot_o_4 w.params,boot_o_5 w.params,boot_o_6 w.params,boot_o_7 w.params,boot_o_8 w.params,boot_o_9 w.params,boot_o_10 w.params,o11,o12,o13,o14],{}⟩,Array.mk [],{},187,os⟩
noncomputable def Sb(w:World)(os:OsState):SharedT:=⟨tr w.params,15,{},⟨[]⟩,{},187,os⟩
def env(p:Program):Env:={ scope:=p.main.scope,locals:=mainNs,globals:=mainNs,cells:=[],code:=.ref 13,frame:=some 14 }
def cE(p:Program):Code:=.body (behindTheImports p) (env p)
abbrev ann:Ω:=some (.ref 6)
abbrev B:List Frame:=[topFrame z]
theorem size(w:World):((boot_heap w.params).isNs mainGlobals&&(Array.mk [] : Array GenState).size==0,(boot_heap w.params).objs.size,(boot_heap w.params).nsMap mainGlobals "__annotations__")=(true,11,ann):=by
 rw[Fast.te8920871248978507458];kernel_rfl
def mU(p:Program)(w:World)(M:Nat)(S:SharedT)(l:List Stmt)(q:Pos)(G:Shared->Prop):Prop:=∃s,topRun treeTable p w 11 ann M S.abs (restOf l (env p) (cE p) q B)=some s/\G s
theorem mU.cut{p:Program}{w:World}{n M:Nat}{S S':SharedT}{l1 l2:List Stmt}{q q':Pos}{G:Shared->Prop}(h:segRunT treeTable p w 11 ann 1 n S (piecesOf l1 (env p) (cE p) q B)=some (.next,S',cE p,q'))(k:mU p w M S' l2 q' G):mU p w (n+M) S (l1++l2) q G :=
 let⟨s,a,b⟩:=k
 ⟨s,piece_app (segRun_of h) a,b⟩
theorem mU.cutAt{p:Program}{w:World}{n m M:Nat}{S S':SharedT}{l:List Stmt}{q q':Pos}{G:Shared->Prop}(h:segRunT treeTable p w 11 ann 1 n S (piecesOf (l.take m) (env p) (cE p) q B)=some (.next,S',cE p,q'))(k:mU p w M S' (l.drop m) q' G):mU p w (n+M) S l q G:=by
 have:=mU.cut h k;rwa[List.take_append_drop]at this
def Good{α:Type}(p q:Program)(loose:Φ)(Xt:Shared->Bool)(Yf:Shared->α)(Ya:World->α)(g0:Bool)(w:World)(s:Shared):Prop :=
 (staticsOk (importedModules p.main.body) (boot_heap w.params) s.heap&&namesBound p s.heap&&gensDone s&&laidKept (boot_heap w.params) s.heap,openSeen q loose (importedModules p.main.body) Xt g0 s,Yf s)=(true,openGood q loose,Ya w)
theorem mU.last{p q:Program}{loose:Φ}{Xt:Shared->Bool}{α:Type}{Yf:Shared->α}{Ya:World->α}{g0:Bool}{w:World}{n k:Nat}{S:SharedT}{l:List Stmt}{q0 e:Pos}
 (big:(segRunT treeTable p w 11 ann 1 n S (piecesOf l (env p) (cE p) q0 B)).map (λr =>
    (r.1,r.2.2.1,r.2.2.2,(topRun treeTable p w 11 ann k r.2.1.abs ⟨doneF .next,cE p,e,B⟩).map λs =>
     (staticsOk (importedModules p.main.body) (boot_heap w.params) s.heap&&namesBound p s.heap&&gensDone s&&laidKept (boot_heap w.params) s.heap,openSeen q loose (importedModules p.main.body) Xt g0 s,Yf s))) =
   some (.next,cE p,e,some (true,openGood q loose,Ya w))):mU p w (n+k) S l q0 (Good p q loose Xt Yf Ya g0 w):=by
 obtain⟨⟨f,sT,c,ps⟩,r1,r2⟩:=Option.map_eq_some_iff.mp big;obtain⟨rfl,rfl,rfl,r3⟩ : f=.next/\c=cE p/\ps=e/\_:=by simpa only[Prod.mk.injEq]using r2
 obtain⟨s,t1,t2⟩:=Option.map_eq_some_iff.mp r3;have q1:=piece_app (rest:=[]) (segRun_of r1) (piece_nil t1);rw[List.append_nil]at q1;exact⟨s,q1,t2⟩
theorem VN{p q:Program}{loose:Φ}{Xt:Shared->Bool}{α:Type}{Yf:Shared->α}{Ya:World->α}{N:Nat}{g0:Bool}{a b M:Nat}
 (open_:∀w:World,(fencedOpening treeTable p w N).map (λs=>(s.heap,s.gens,s.drawn,s.toks))=some (boot_heap w.params,Array.mk [],boot_drawn,boot_toks))
 (pre:∀w:World,(λos=>topGo treeTable p w 11 ann a (S0 w os) (topStub p))=λos=>some (Sa w os,⟨denote treeTable (cE p),cE p,z,B⟩))
 (block:∀w:World,(λos=>segRun treeTable p w 11 ann 1 b (Sa w os) (blockOf (behindTheImports p) (env p) (cE p) z B))=λos=>some (.next,(Sb w os).abs,cE p,z))
 (ends:∀(w:World)(os:OsState),mU p w M (Sb w os) (behindTheImports p) z (Good p q loose Xt Yf Ya g0 w))
 (le:Nat.ble (a+(b+M)) N=true):LeftO p q loose Xt Yf Ya N g0:=λw=>by
 obtain⟨⟨h,gs,d,ks,os⟩,e1,e2⟩:=Option.map_eq_some_iff.mp (open_ w);obtain⟨rfl,rfl,rfl,rfl⟩ : h=boot_heap w.params/\gs=Array.mk []/\d=boot_drawn/\ks=boot_toks:=by simpa using e2
 obtain⟨z1,z2,z3⟩ : _/\_/\_:=by simpa only[Prod.mk.injEq]using size w
 obtain⟨s,q1,t2⟩:=ends w os;obtain⟨l1,l2,l3⟩ : _/\_/\_:=by simpa only[Good,Prod.mk.injEq]using t2
 have q2:=go_top (congrFun (pre w) os) (piece_block (congrFun (block w) os) q1);have q3:=topRun_mono (N-(a+(b+M))) _ _ _ _ q2;rw[show a+(b+M)+(N-(a+(b+M)))=N by have:=Nat.le_of_ble_eq_true le;omega]at q3;have t:topFrom treeTable p w N ⟨boot_heap w.params,Array.mk [],boot_drawn,boot_toks,os⟩=some s:=by
  unfold topFrom;dsimp only;rw[z1,z2,z3,show topRun treeTable p w 11 ann N ⟨boot_heap w.params,Array.mk [],boot_drawn,boot_toks,os⟩ (topStub p)=some s from q3];show(match staticsOk (importedModules p.main.body) (boot_heap w.params) s.heap&&namesBound p s.heap&&gensDone s&&laidKept (boot_heap w.params) s.heap with|true=>_|false=>_)=_;rw[l1]
 unfold openEnds;rw[e1];show(topFrom treeTable p w N _).map _=_;rw[t];exact ZH some (Prod.ext l2 l3)
end L2.Once
namespace L2
open PySem
def ig(s:Stmt):Arguments:=match s with
 |.FunctionDef _ a _ _ _ _ _ _ _ _=>a
 |_=>{ posonlyargs:=[],args:=[],vararg:=none,kwonlyargs:=[],kw_defaults:=[],kwarg:=none,defaults:=[] }
def fD(s:Stmt):List Stmt:=match s with
 |.FunctionDef _ _ b _ _ _ _ _ _ _=>b
 |_=>[]
def bH(s:Stmt):Scope:=match s with
 |.FunctionDef _ _ _ _ _ _ sc _ _ _=>sc
 |_=>{ kind:=.function,names:=[],isGenerator:=false,isCoroutine:=false }
end L2
namespace K27
open PySem L2
def top(i:Nat):Stmt:=PySem.Challenge.pw_chancehall_k27_whole_rising.main.body.getD i (.Pass ⟨0,0,0,0⟩)
def fK(i j:Nat):Stmt:=match top i with|.ClassDef _ _ _ b _ _ _ _ _ _ _=>b.getD j (.Pass ⟨0,0,0,0⟩)|_=>.Pass ⟨0,0,0,0⟩
end K27
namespace H27
open PySem PySem.W L2 L2.Once K27
noncomputable section
noncomputable abbrev p:Program:=PySem.Challenge.pw_chancehall_k27_whole_rising
noncomputable section
def dR(P:Params)(x:Str)(t m:Nat):DictEntry:=dE P x t (.ref m)
noncomputable def wD(l:List DictEntry)(n:Nat):Obj:=⟨.type "dict",none,.dict ⟨l⟩ n,⟨[]⟩⟩
noncomputable def i3(a b:Nat)(c:Nat)(l:Θ):Θ:=.int a 0::.int b 0::.ref c::l
noncomputable def nd(o:Obj)(l r:BT):BT:=.node o l r
noncomputable def n1(o x:Obj):BT:=.node o (lf x) .nil
noncomputable def wA:Obj:=⟨.type "builtin_function_or_method",none,.fields ⟨[.builtin "type.__prepare__",.type "type"]⟩,⟨[]⟩⟩
noncomputable def wB(n:Nat):Obj:=⟨.type "builtin_function_or_method",none,.fields ⟨[.builtin "object.__init_subclass__",.ref n]⟩,⟨[]⟩⟩
noncomputable def wC(n:Str)(t l r u:Nat):Obj:=⟨.type "code",none,.fields ⟨[.str n t,.str n (t+1),.str "/claim/cut.py" (t+2),.int l 0,.int 0 0,.int 0 0,.int 0 0,.int 0 0,.ref r,.bool false,.int 181 0,.ref (r+1),.none,.none,.none,.none,.int u 0,.int l 0,.str "/claim/cut.py" (u+1)]⟩,⟨[]⟩⟩
noncomputable def wF(c d:Nat)(n:Str)(t:Nat):Obj:=⟨.type "frame",none,.plain,⟨[some (.ref c),some (.ref 3),some (.ref d),none,some (.str n t),none,some (.ref 0)]⟩⟩
noncomputable def wG(t n:Nat):Obj:=⟨.type "getset_descriptor",none,.fields ⟨[.str "__weakref__" t,.ref n,.builtin "ExceptionGroup.__weakref__",.none]⟩,⟨[]⟩⟩
noncomputable def wK(n:Str)(b m:Θ)(d:Nat)(s:Θ)(o:Ω)(t u:Nat)(x:String):Obj:=⟨.type "type",none,.cls ⟨n,b,m,d,n,true,[],s,false,none,false⟩,⟨[o,none,some (.str n t),some (.str n u),some (.builtin x),some (.bool true)]⟩⟩
noncomputable def wS(n:Nat):Obj:=⟨.type "super",none,.fields ⟨[.ref n,.ref n,.ref n]⟩,⟨[]⟩⟩
noncomputable def wT(n:Nat):Obj:=⟨.type "tuple",none,.seq ⟨[.ref n]⟩ 0,⟨[]⟩⟩
noncomputable def fO(n q:Str)(s:Stmt)(m:Value)(c:Nat):Obj:=⟨.type "function",none,.func (fnOf n q (ig s) (fD s) (bH s) .none .none .none m none (.ref c) .none),⟨[]⟩⟩
noncomputable def fT(n q:Str)(s:Stmt):Obj:=⟨.none,none,.func { fnOf n q (ig s) (fD s) (bH s) .none .none .none .none none .none .none with globals:=0,builtins:=0 },⟨[]⟩⟩
def alk(P:Params):Obj:=wD (dE P "__name__" 165 (.str "law_chancehall_k27_whole_rising" 993)::dE P "__doc__" 166 .none::dE P "__package__" 167 .none::dE P "__loader__" 168 (.builtin "__main__.__loader__#opaque")::dE P "__spec__" 169 .none::dR P "__annotations__" 170 6::dR P "__builtins__" 171 4::dE P "__file__" 173 (.str "/claim/cut.py" 172)::dE P "__cached__" 174 .none::dR P "_wall" 193 21::dR P "HallError" 213 31::dR P "NoNumber" 229 44::dR P "NoName" 245 56::dR P "NoChance" 261 68::dR P "NoShare" 277 80::dR P "NoRoom" 302 99::dR P "NoPlan" 327 118::dR P "is_whole" 336 127::dR P "divisor" 347 134::dR P "NOUGHT" 352 135::dR P "ONE" 355 136::dR P "ratio" 364 143::dR P "is_ratio" 373 150::dR P "plus" 381 157::dR P "minus" 389 164::dR P "times" 397 171::dR P "over" 405 178::dR P "under" 413 185::dR P "level" 421 190::dR P "total" 429 197::dR P "greatest" 438 204::dR P "fits" 448 211::dR P "check_plan" 458 218::dR P "behind_door" 464 223::dR P "raised_look" 474 230::dR P "lowest" 482 235::dR P "row_times" 488 240::dR P "row_plus" 494 245::dR P "take_step" 503 252::dR P "number_at" 511 259::dR P "fractions_of" 517 264::dR P "first_from" 527 271::dR P "go_on" 536 278::dR P "begin_row" 548 285::dR P "clear_column" 560 292::dR P "reduced" 566 297::dR P "width_of" 575 304::dR P "with_rights" 581 309::dR P "begins_of" 587 314::dR P "odd_row" 597 321::dR P "answer_of" 609 328::dR P "single_rows" 615 333::dR P "only_answer" 626 340::dR P "chosen_doors" 634 345::dR P "left_rows" 647 352::dR P "worths_of" 653 357::dR P "better_door" 664 364::dR P "mended" 670 369::dR P "mendings" 680 376::dE P "LONGEST_WORD" 684 (.int 8 683)::dR P "is_word" 690 381::dR P "check_head" 700 388::dR P "check_room_name" 707 395::dR P "check_chance" 714 402::dR P "check_pairs" 720 407::dR P "joined_ways" 726 412::dR P "Door" 773 443::dR P "Sure" 800 464::dR P "Mixed" 827 483::dR P "Toss" 855 502::dR P "Even" 877 519::dR P "check_share" 886 528::dR P "numbers_of" 896 535::dR P "numbered_ways" 907 542::dR P "offers_of" 918 549::dR P "Hall" 992 604::dR P "_law_cell" 1002 615::dR P "_law_stream" 1014 622::dR P "_law_gcd" 1024 629::dR P "_law_ratio" 1033 636::dR P "_law_is_ratio" 1041 643::dR P "_law_are_ratios" 1047 648::dR P "_law_names" 1053 653::dR P "_law_share" 1062 660::dR P "_law_pay" 1071 667::dR P "_law_door" 1077 672::dR P "_law_doors" 1083 677::dR P "_law_built" 1089 682::dR P "_law_hall" 1095 687::dR P "_law_chosen" 1106 694::dR P "_law_below" 1114 701::dR P "_law_size" 1122 708::dR P "_law_corridor" 1133 715::dR P "_law_rooms" 1141 722::dR P "_law_start" 1147 727::[]) 95
def agh:Obj:=⟨.none,none,.fields ⟨i3 1 0 20 <|i3 5 0 27 <|i3 7 0 40 <|i3 9 0 52 <|i3 11 0 64 <|i3 13 0 76 <|i3 15 0 88 <|i3 20 0 107 <|i3 26 0 126 <|i3 28 0 133 <|i3 39 0 142 <|i3 48 0 149 <|i3 56 0 156 <|i3 58 0 163 <|i3 60 0 170 <|i3 62 0 177 <|i3 64 0 184 <|i3 67 0 189 <|i3 72 0 196 <|i3 75 0 203 <|i3 82 0 210 <|i3 86 0 217 <|i3 93 0 222 <|i3 96 0 229 <|i3 100 0 234 <|i3 105 0 239 <|i3 107 0 244 <|i3 114 0 251 <|i3 123 0 258 <|i3 125 0 263 <|i3 127 0 270 <|i3 132 0 277 <|i3 135 0 284 <|i3 141 0 291 <|i3 146 0 296 <|i3 158 0 303 <|i3 162 0 308 <|i3 164 0 313 <|i3 171 0 320 <|i3 176 0 327 <|i3 181 0 332 <|i3 183 0 339 <|i3 191 0 344 <|i3 193 0 351 <|i3 200 0 356 <|i3 206 0 363 <|i3 211 0 368 <|i3 219 0 375 <|i3 229 0 380 <|i3 234 0 387 <|i3 239 0 394 <|i3 242 0 401 <|i3 245 0 406 <|i3 251 0 411 <|i3 256 0 418 <|i3 269 0 453 <|i3 275 0 472 <|i3 281 0 491 <|i3 287 0 510 <|i3 292 0 527 <|i3 295 0 534 <|i3 303 0 541 <|i3 310 0 548 <|i3 319 0 555 <|i3 349 0 614 <|i3 351 0 621 <|i3 362 0 628 <|i3 367 0 635 <|i3 370 0 642 <|i3 377 0 647 <|i3 381 0 652 <|i3 390 0 659 <|i3 394 0 666 <|i3 402 0 671 <|i3 419 0 676 <|i3 433 0 681 <|i3 443 0 686 <|i3 450 0 693 <|i3 459 0 700 <|i3 461 0 707 <|i3 468 0 714 <|i3 474 0 721 <|i3 479 0 726 <|[]⟩,⟨[]⟩⟩
def q21:Obj:=fO "_wall" "_wall" (top 0) (.str "__main__" 164) 20
noncomputable def q22:Obj:=⟨.type "tuple",none,.seq ⟨.type "ValueError"::[]⟩ 0,⟨[]⟩⟩
def q23:Obj:=wA
def q24(P:Params):Obj:=wD (dE P "__module__" 203 (.str "chancehall.errors" 194)::dE P "__qualname__" 205 (.str "HallError" 204)::dE P "__firstlineno__" 207 (.int 5 206)::dR P "__static_attributes__" 208 29::[]) 4
def q27:Obj:=wC "HallError" 198 5 25 201
def q28:Obj:=wF 27 24 "chancehall.errors" 194
def q30(P:Params):Obj:=wD (dE P "__module__" 203 (.str "chancehall.errors" 194)::dE P "__firstlineno__" 207 (.int 5 206)::dR P "__static_attributes__" 208 29::dR P "__weakref__" 210 32::dE P "__doc__" 211 .none::[]) 3
def q31:Obj:=wK "HallError" [.type "ValueError"] [.ref 31,.type "ValueError",.type "Exception",.type "BaseException",.type "object"] 30 [.ref 44,.ref 56,.ref 68,.ref 80,.ref 99,.ref 118] (some (.ref 22)) 196 204 "ValueError.__new__"
def q32:Obj:=wG 209 31
def q33:Obj:=wS 31
def q34:Obj:=wB 31
def q35:Obj:=wT 31
def q36:Obj:=wA
def q37(P:Params):Obj:=wD (dE P "__module__" 221 (.str "chancehall.errors" 194)::dE P "__qualname__" 223 (.str "NoNumber" 222)::dE P "__firstlineno__" 225 (.int 7 224)::dR P "__static_attributes__" 226 42::[]) 4
def q40:Obj:=wC "NoNumber" 216 7 38 219
def q41:Obj:=wF 40 37 "chancehall.errors" 194
def q43(P:Params):Obj:=wD (dE P "__module__" 221 (.str "chancehall.errors" 194)::dE P "__firstlineno__" 225 (.int 7 224)::dR P "__static_attributes__" 226 42::dE P "__doc__" 227 .none::[]) 2
def q44:Obj:=wK "NoNumber" [.ref 31] [.ref 44,.ref 31,.type "ValueError",.type "Exception",.type "BaseException",.type "object"] 43 [] (some (.ref 35)) 214 222 "ValueError.__new__"
def q45:Obj:=wS 44
def q46:Obj:=wB 44
def q47:Obj:=wT 31
def q48:Obj:=wA
def q49(P:Params):Obj:=wD (dE P "__module__" 237 (.str "chancehall.errors" 194)::dE P "__qualname__" 239 (.str "NoName" 238)::dE P "__firstlineno__" 241 (.int 9 240)::dR P "__static_attributes__" 242 54::[]) 4
def q52:Obj:=wC "NoName" 232 9 50 235
def q53:Obj:=wF 52 49 "chancehall.errors" 194
def q55(P:Params):Obj:=wD (dE P "__module__" 237 (.str "chancehall.errors" 194)::dE P "__firstlineno__" 241 (.int 9 240)::dR P "__static_attributes__" 242 54::dE P "__doc__" 243 .none::[]) 2
def q56:Obj:=wK "NoName" [.ref 31] [.ref 56,.ref 31,.type "ValueError",.type "Exception",.type "BaseException",.type "object"] 55 [] (some (.ref 47)) 230 238 "ValueError.__new__"
def q57:Obj:=wS 56
def q58:Obj:=wB 56
def q59:Obj:=wT 31
def q60:Obj:=wA
def q61(P:Params):Obj:=wD (dE P "__module__" 253 (.str "chancehall.errors" 194)::dE P "__qualname__" 255 (.str "NoChance" 254)::dE P "__firstlineno__" 257 (.int 11 256)::dR P "__static_attributes__" 258 66::[]) 4
def q64:Obj:=wC "NoChance" 248 11 62 251
def q65:Obj:=wF 64 61 "chancehall.errors" 194
def q67(P:Params):Obj:=wD (dE P "__module__" 253 (.str "chancehall.errors" 194)::dE P "__firstlineno__" 257 (.int 11 256)::dR P "__static_attributes__" 258 66::dE P "__doc__" 259 .none::[]) 2
def q68:Obj:=wK "NoChance" [.ref 31] [.ref 68,.ref 31,.type "ValueError",.type "Exception",.type "BaseException",.type "object"] 67 [] (some (.ref 59)) 246 254 "ValueError.__new__"
def q69:Obj:=wS 68
def q70:Obj:=wB 68
def q71:Obj:=wT 31
def q72:Obj:=wA
def q73(P:Params):Obj:=wD (dE P "__module__" 269 (.str "chancehall.errors" 194)::dE P "__qualname__" 271 (.str "NoShare" 270)::dE P "__firstlineno__" 273 (.int 13 272)::dR P "__static_attributes__" 274 78::[]) 4
def q76:Obj:=wC "NoShare" 264 13 74 267
def q77:Obj:=wF 76 73 "chancehall.errors" 194
def q79(P:Params):Obj:=wD (dE P "__module__" 269 (.str "chancehall.errors" 194)::dE P "__firstlineno__" 273 (.int 13 272)::dR P "__static_attributes__" 274 78::dE P "__doc__" 275 .none::[]) 2
def q80:Obj:=wK "NoShare" [.ref 31] [.ref 80,.ref 31,.type "ValueError",.type "Exception",.type "BaseException",.type "object"] 79 [] (some (.ref 71)) 262 270 "ValueError.__new__"
def q81:Obj:=wS 80
def q82:Obj:=wB 80
def q83:Obj:=wT 31
def q84:Obj:=wA
def q85(P:Params):Obj:=wD (dE P "__module__" 285 (.str "chancehall.errors" 194)::dE P "__qualname__" 287 (.str "NoRoom" 286)::dE P "__firstlineno__" 289 (.int 15 288)::dR P "__init__" 297 96::dR P "__static_attributes__" 299 97::[]) 5
def q87:Obj:=⟨.none,none,.fields ⟨i3 17 4 95 <|[]⟩,⟨[]⟩⟩
def q88:Obj:=wC "NoRoom" 280 15 86 283
def q89:Obj:=wF 88 85 "chancehall.errors" 194
def q95:Obj:=cO "__init__" "NoRoom.__init__" 290 17 2 3 90 295
def q96:Obj:=fO "__init__" "NoRoom.__init__" (fK 7 0) (.str "chancehall.errors" 194) 95
def q98(P:Params):Obj:=wD (dE P "__module__" 285 (.str "chancehall.errors" 194)::dE P "__firstlineno__" 289 (.int 15 288)::dR P "__init__" 297 96::dR P "__static_attributes__" 299 97::dE P "__doc__" 300 .none::[]) 2
def q99:Obj:=wK "NoRoom" [.ref 31] [.ref 99,.ref 31,.type "ValueError",.type "Exception",.type "BaseException",.type "object"] 98 [] (some (.ref 83)) 278 286 "ValueError.__new__"
def alX:Obj:=wS 99
def ak7:Obj:=wB 99
def aft:Obj:=wT 31
def akT:Obj:=wA
def alc(P:Params):Obj:=wD (dE P "__module__" 310 (.str "chancehall.errors" 194)::dE P "__qualname__" 312 (.str "NoPlan" 311)::dE P "__firstlineno__" 314 (.int 20 313)::dR P "__init__" 322 115::dR P "__static_attributes__" 324 116::[]) 5
def alA:Obj:=⟨.none,none,.fields ⟨i3 22 4 114 <|[]⟩,⟨[]⟩⟩
def alj:Obj:=wC "NoPlan" 305 20 105 308
def alD:Obj:=wF 107 104 "chancehall.errors" 194
def afU:Obj:=cO "__init__" "NoPlan.__init__" 315 22 2 3 109 320
def ajS:Obj:=fO "__init__" "NoPlan.__init__" (fK 8 0) (.str "chancehall.errors" 194) 114
def agU(P:Params):Obj:=wD (dE P "__module__" 310 (.str "chancehall.errors" 194)::dE P "__firstlineno__" 314 (.int 20 313)::dR P "__init__" 322 115::dR P "__static_attributes__" 324 116::dE P "__doc__" 325 .none::[]) 2
def afh:Obj:=wK "NoPlan" [.ref 31] [.ref 118,.ref 31,.type "ValueError",.type "Exception",.type "BaseException",.type "object"] 117 [] (some (.ref 102)) 303 311 "ValueError.__new__"
def akv:Obj:=wS 118
def alO:Obj:=wB 118
def agm:Obj:=fO "is_whole" "is_whole" (top 10) (.str "chancehall.wholes" 328) 126
def ajh:Obj:=tN 340 ["one","other","left","right","rest"]
def ajm:Obj:=fO "divisor" "divisor" (top 11) (.str "chancehall.wholes" 328) 133
noncomputable def afl:Obj:=⟨.type "tuple",none,.seq ⟨.int 0 350::.int 1 351::[]⟩ 0,⟨[]⟩⟩
noncomputable def ahi:Obj:=⟨.type "tuple",none,.seq ⟨.int 1 353::.int 1 354::[]⟩ 0,⟨[]⟩⟩
def afD:Obj:=fO "ratio" "ratio" (top 15) (.str "chancehall.ratios" 348) 142
def aju:Obj:=fO "is_ratio" "is_ratio" (top 16) (.str "chancehall.ratios" 348) 149
def ahS:Obj:=fO "plus" "plus" (top 17) (.str "chancehall.ratios" 348) 156
def ajs:Obj:=fO "minus" "minus" (top 18) (.str "chancehall.ratios" 348) 163
def ajl:Obj:=fO "times" "times" (top 19) (.str "chancehall.ratios" 348) 170
def ahd:Obj:=fO "over" "over" (top 20) (.str "chancehall.ratios" 348) 177
def agv:Obj:=fO "under" "under" (top 21) (.str "chancehall.ratios" 348) 184
def ajq:Obj:=fO "level" "level" (top 23) (.str "chancehall.levels" 414) 189
def afS:Obj:=fO "total" "total" (top 24) (.str "chancehall.levels" 414) 196
def afB:Obj:=fO "greatest" "greatest" (top 25) (.str "chancehall.levels" 414) 203
def agM:Obj:=fO "fits" "fits" (top 27) (.str "chancehall.plans" 439) 210
def ah4:Obj:=cO "check_plan" "check_plan" 449 86 2 3 212 456
def ajJ:Obj:=fO "check_plan" "check_plan" (top 28) (.str "chancehall.plans" 439) 217
def afA:Obj:=cP "behind_door" "behind_door" 459 93 2 3 219 462
def ahr:Obj:=fO "behind_door" "behind_door" (top 29) (.str "chancehall.plans" 439) 222
def aiu:Obj:=tN 468 ["hall","offer","leveled","behind"]
def aiy:Obj:=cO "raised_look" "raised_look" 465 96 3 3 224 472
def agd:Obj:=fO "raised_look" "raised_look" (top 30) (.str "chancehall.plans" 439) 229
def aiC:Obj:=fO "lowest" "lowest" (top 32) (.str "chancehall.papers" 475) 234
def ajO:Obj:=cP "row_times" "row_times" 483 105 2 3 236 486
def ahC:Obj:=fO "row_times" "row_times" (top 33) (.str "chancehall.papers" 475) 239
def af3:Obj:=cP "row_plus" "row_plus" 489 107 3 3 241 492
def afI:Obj:=fO "row_plus" "row_plus" (top 34) (.str "chancehall.papers" 475) 244
def ahc:Obj:=cO "take_step" "take_step" 495 114 2 3 246 501
def ag7:Obj:=fO "take_step" "take_step" (top 35) (.str "chancehall.papers" 475) 251
def ahy:Obj:=cO "number_at" "number_at" 504 123 2 3 253 509
def ajp:Obj:=fO "number_at" "number_at" (top 36) (.str "chancehall.papers" 475) 258
def aii:Obj:=cP "fractions_of" "fractions_of" 512 125 1 3 260 515
def agf:Obj:=fO "fractions_of" "fractions_of" (top 37) (.str "chancehall.papers" 475) 263
def ai5:Obj:=tN 521 ["leveled","place","column","row"]
def aiY:Obj:=cO "first_from" "first_from" 518 127 3 3 265 525
def aj6:Obj:=fO "first_from" "first_from" (top 38) (.str "chancehall.papers" 475) 270
def aiG:Obj:=fO "go_on" "go_on" (top 39) (.str "chancehall.papers" 475) 277
def ajV:Obj:=tN 540 ["leveled","steps","place","found","column","first"]
def ajf:Obj:=cO "begin_row" "begin_row" 537 135 5 3 279 546
def ahV:Obj:=fO "begin_row" "begin_row" (top 40) (.str "chancehall.papers" 475) 284
def ajT:Obj:=tN 552 ["leveled","steps","place","column","row","often"]
def afM:Obj:=cO "clear_column" "clear_column" 549 141 4 3 286 558
def ahe:Obj:=fO "clear_column" "clear_column" (top 41) (.str "chancehall.papers" 475) 291
def ah1:Obj:=fO "reduced" "reduced" (top 42) (.str "chancehall.papers" 475) 296
def aiH:Obj:=cO "width_of" "width_of" 569 158 1 3 298 573
def aio:Obj:=fO "width_of" "width_of" (top 44) (.str "chancehall.solving" 567) 303
def agI:Obj:=cP "with_rights" "with_rights" 576 162 2 3 305 579
def aj5:Obj:=fO "with_rights" "with_rights" (top 45) (.str "chancehall.solving" 567) 308
def ajb:Obj:=cP "begins_of" "begins_of" 582 164 2 3 310 585
def agl:Obj:=fO "begins_of" "begins_of" (top 46) (.str "chancehall.solving" 567) 313
def agq:Obj:=fO "odd_row" "odd_row" (top 47) (.str "chancehall.solving" 567) 320
def aiA:Obj:=tN 601 ["end","begins","wide","answer","row","column"]
def ait:Obj:=cO "answer_of" "answer_of" 598 176 3 3 322 607
def aht:Obj:=fO "answer_of" "answer_of" (top 48) (.str "chancehall.solving" 567) 327
def agC:Obj:=cP "single_rows" "single_rows" 610 181 1 3 329 613
def ajQ:Obj:=fO "single_rows" "single_rows" (top 49) (.str "chancehall.solving" 567) 332
def ahb:Obj:=tN 619 ["rows","rights","wide","end","begins"]
def agG:Obj:=cO "only_answer" "only_answer" 616 183 2 3 334 624
def aiS:Obj:=fO "only_answer" "only_answer" (top 50) (.str "chancehall.solving" 567) 339
def ahj:Obj:=cP "chosen_doors" "chosen_doors" 629 191 2 3 341 632
def agO:Obj:=fO "chosen_doors" "chosen_doors" (top 52) (.str "chancehall.worths" 627) 344
def ais:Obj:=tN 638 ["share","chosen","rows","room","offer","behind","chance"]
def afq:Obj:=cO "left_rows" "left_rows" 635 193 2 3 346 645
def agF:Obj:=fO "left_rows" "left_rows" (top 53) (.str "chancehall.worths" 627) 351
def ahZ:Obj:=cP "worths_of" "worths_of" 648 200 2 3 353 651
def af7:Obj:=fO "worths_of" "worths_of" (top 54) (.str "chancehall.worths" 627) 356
def aiP:Obj:=cO "better_door" "better_door" 656 206 2 3 358 662
def ajE:Obj:=fO "better_door" "better_door" (top 56) (.str "chancehall.mending" 654) 363
def aiM:Obj:=fO "mended" "mended" (top 57) (.str "chancehall.mending" 654) 368
def agj:Obj:=cO "mendings" "mendings" 671 219 2 3 370 678
def ago:Obj:=fO "mendings" "mendings" (top 58) (.str "chancehall.mending" 654) 375
def ajF:Obj:=fO "is_word" "is_word" (top 61) (.str "chancehall.words" 681) 380
def aga:Obj:=cO "check_head" "check_head" 693 234 2 3 382 698
def ajB:Obj:=fO "check_head" "check_head" (top 63) (.str "chancehall.doors" 691) 387
def alb:Obj:=fT "check_room_name" "check_room_name" (top 64)
def afk:Obj:=cO "check_room_name" "check_room_name" 701 239 1 3 389 705
def ai0:Obj:=fO "check_room_name" "check_room_name" (top 64) (.str "chancehall.doors" 691) 394
def ajA:Obj:=cO "check_chance" "check_chance" 708 242 1 3 396 712
def afK:Obj:=fO "check_chance" "check_chance" (top 65) (.str "chancehall.doors" 691) 401
def ahW:Obj:=cP "check_pairs" "check_pairs" 715 245 1 3 403 718
def aja:Obj:=fO "check_pairs" "check_pairs" (top 66) (.str "chancehall.doors" 691) 406
def afn:Obj:=cP "joined_ways" "joined_ways" 721 251 1 3 408 724
def afP:Obj:=fO "joined_ways" "joined_ways" (top 67) (.str "chancehall.doors" 691) 411
def aki:Obj:=wA
def al3(P:Params):Obj:=wD (dE P "__module__" 734 (.str "chancehall.doors" 691)::dE P "__qualname__" 736 (.str "Door" 735)::dE P "__firstlineno__" 738 (.int 256 737)::dR P "__init__" 747 426::dR P "ways" 754 433::dR P "chance_to" 762 440::dR P "__static_attributes__" 766 441::[]) 7
def alq:Obj:=⟨.none,none,.fields ⟨i3 258 4 425 <|i3 264 4 432 <|i3 267 4 439 <|[]⟩,⟨[]⟩⟩
def akZ:Obj:=wC "Door" 729 256 416 732
def alr:Obj:=wF 418 415 "chancehall.doors" 691
def agR:Obj:=cO "__init__" "Door.__init__" 739 258 3 3 420 745
def ajH:Obj:=fO "__init__" "Door.__init__" (fK 68 0) (.str "chancehall.doors" 691) 425
def afY:Obj:=fO "ways" "Door.ways" (fK 68 1) (.str "chancehall.doors" 691) 432
def ajL:Obj:=cO "chance_to" "Door.chance_to" 755 267 2 3 434 760
def ahl:Obj:=fO "chance_to" "Door.chance_to" (fK 68 2) (.str "chancehall.doors" 691) 439
def aji(P:Params):Obj:=wD (dE P "__module__" 734 (.str "chancehall.doors" 691)::dE P "__firstlineno__" 738 (.int 256 737)::dR P "__init__" 747 426::dR P "ways" 754 433::dR P "chance_to" 762 440::dR P "__static_attributes__" 766 441::dR P "__dict__" 768 444::dR P "__weakref__" 770 445::dE P "__doc__" 771 .none::[]) 4
def ahh:Obj:=wK "Door" [.type "object"] [.ref 443,.type "object"] 442 [.ref 464,.ref 483] none 727 735 "object.__new__"
noncomputable def agB:Obj:=⟨.type "getset_descriptor",none,.fields ⟨.str "__dict__" 767::.ref 443::.builtin "function.__dict__"::.builtin "function.__dict__#set"::[]⟩,⟨[]⟩⟩
def aiD:Obj:=wG 769 443
def alw:Obj:=wS 443
def ako:Obj:=wB 443
def afH:Obj:=wT 443
def ald:Obj:=wA
def al9(P:Params):Obj:=wD (dE P "__module__" 781 (.str "chancehall.doors" 691)::dE P "__qualname__" 783 (.str "Sure" 782)::dE P "__firstlineno__" 785 (.int 269 784)::dR P "__init__" 795 461::dR P "__static_attributes__" 797 462::[]) 5
def alu:Obj:=⟨.none,none,.fields ⟨i3 271 4 460 <|[]⟩,⟨[]⟩⟩
def alI:Obj:=wC "Sure" 776 269 451 779
def ak5:Obj:=wF 453 450 "chancehall.doors" 691
def afC:Obj:=cO "__init__" "Sure.__init__" 786 271 4 3 455 793
def agK:Obj:=fO "__init__" "Sure.__init__" (fK 69 0) (.str "chancehall.doors" 691) 460
def afL(P:Params):Obj:=wD (dE P "__module__" 781 (.str "chancehall.doors" 691)::dE P "__firstlineno__" 785 (.int 269 784)::dR P "__init__" 795 461::dR P "__static_attributes__" 797 462::dE P "__doc__" 798 .none::[]) 2
def ai1:Obj:=wK "Sure" [.ref 443] [.ref 464,.ref 443,.type "object"] 463 [] (some (.ref 448)) 774 782 "object.__new__"
def akq:Obj:=wS 464
def aky:Obj:=wB 464
def ahq:Obj:=wT 443
def als:Obj:=wA
def akJ(P:Params):Obj:=wD (dE P "__module__" 808 (.str "chancehall.doors" 691)::dE P "__qualname__" 810 (.str "Mixed" 809)::dE P "__firstlineno__" 812 (.int 275 811)::dR P "__init__" 822 480::dR P "__static_attributes__" 824 481::[]) 5
def alS:Obj:=⟨.none,none,.fields ⟨i3 277 4 479 <|[]⟩,⟨[]⟩⟩
def akG:Obj:=wC "Mixed" 803 275 470 806
def ak4:Obj:=wF 472 469 "chancehall.doors" 691
def aha:Obj:=cO "__init__" "Mixed.__init__" 813 277 4 3 474 820
def ajX:Obj:=fO "__init__" "Mixed.__init__" (fK 70 0) (.str "chancehall.doors" 691) 479
def ajN(P:Params):Obj:=wD (dE P "__module__" 808 (.str "chancehall.doors" 691)::dE P "__firstlineno__" 812 (.int 275 811)::dR P "__init__" 822 480::dR P "__static_attributes__" 824 481::dE P "__doc__" 825 .none::[]) 2
def aiL:Obj:=wK "Mixed" [.ref 443] [.ref 483,.ref 443,.type "object"] 482 [.ref 502,.ref 519] (some (.ref 467)) 801 809 "object.__new__"
def ak2:Obj:=wS 483
def akY:Obj:=wB 483
def aiB:Obj:=wT 483
def al1:Obj:=wA
def akM(P:Params):Obj:=wD (dE P "__module__" 835 (.str "chancehall.doors" 691)::dE P "__qualname__" 837 (.str "Toss" 836)::dE P "__firstlineno__" 839 (.int 281 838)::dR P "__init__" 851 499::dR P "__static_attributes__" 852 500::[]) 5
def al2:Obj:=⟨.none,none,.fields ⟨i3 283 4 498 <|[]⟩,⟨[]⟩⟩
def akf:Obj:=wC "Toss" 830 281 489 833
def akA:Obj:=wF 491 488 "chancehall.doors" 691
def ag2:Obj:=tN 843 ["self","name","pay","chance","room","other"]
def agg:Obj:=cO "__init__" "Toss.__init__" 840 283 6 3 493 849
def ah6:Obj:=fO "__init__" "Toss.__init__" (fK 71 0) (.str "chancehall.doors" 691) 498
def ail(P:Params):Obj:=wD (dE P "__module__" 835 (.str "chancehall.doors" 691)::dE P "__firstlineno__" 839 (.int 281 838)::dR P "__init__" 851 499::dR P "__static_attributes__" 852 500::dE P "__doc__" 853 .none::[]) 2
def ajt:Obj:=wK "Toss" [.ref 483] [.ref 502,.ref 483,.ref 443,.type "object"] 501 [] (some (.ref 486)) 828 836 "object.__new__"
def alg:Obj:=wS 502
def akt:Obj:=wB 502
def ahG:Obj:=wT 483
def aku:Obj:=wA
def aks(P:Params):Obj:=wD (dE P "__module__" 863 (.str "chancehall.doors" 691)::dE P "__qualname__" 865 (.str "Even" 864)::dE P "__firstlineno__" 867 (.int 287 866)::dR P "__init__" 873 516::dR P "__static_attributes__" 874 517::[]) 5
def akH:Obj:=⟨.none,none,.fields ⟨i3 289 4 515 <|[]⟩,⟨[]⟩⟩
def alU:Obj:=wC "Even" 858 287 508 861
def akE:Obj:=wF 510 507 "chancehall.doors" 691
def aiz:Obj:=cP "__init__" "Even.__init__" 868 289 4 3 512 871
def ah5:Obj:=fO "__init__" "Even.__init__" (fK 72 0) (.str "chancehall.doors" 691) 515
def ahv(P:Params):Obj:=wD (dE P "__module__" 863 (.str "chancehall.doors" 691)::dE P "__firstlineno__" 867 (.int 287 866)::dR P "__init__" 873 516::dR P "__static_attributes__" 874 517::dE P "__doc__" 875 .none::[]) 2
def ai2:Obj:=wK "Even" [.ref 483] [.ref 519,.ref 483,.ref 443,.type "object"] 518 [] (some (.ref 505)) 856 864 "object.__new__"
def alG:Obj:=wS 519
def alR:Obj:=wB 519
def afX:Obj:=cO "check_share" "check_share" 880 292 1 3 522 884
def aiU:Obj:=fO "check_share" "check_share" (top 74) (.str "chancehall.halls" 878) 527
def ajk:Obj:=cO "numbers_of" "numbers_of" 887 295 1 3 529 894
def afy:Obj:=fO "numbers_of" "numbers_of" (top 75) (.str "chancehall.halls" 878) 534
def ahs:Obj:=tN 900 ["door","numbers","numbered","name","chance"]
def afZ:Obj:=cO "numbered_ways" "numbered_ways" 897 303 2 3 536 905
def agr:Obj:=fO "numbered_ways" "numbered_ways" (top 76) (.str "chancehall.halls" 878) 541
def afm:Obj:=tN 911 ["doors","numbers","taken","told","door"]
def ahK:Obj:=cO "offers_of" "offers_of" 908 310 2 3 543 916
def aj1:Obj:=fO "offers_of" "offers_of" (top 77) (.str "chancehall.halls" 878) 548
def akK:Obj:=wA
def akh(P:Params):Obj:=wD (dE P "__module__" 926 (.str "chancehall.halls" 878)::dE P "__qualname__" 928 (.str "Hall" 927)::dE P "__firstlineno__" 930 (.int 319 929)::dR P "__init__" 936 561::dR P "size" 943 568::dR P "names" 950 575::dR P "place" 958 582::dR P "check_room" 966 589::dR P "door_at" 975 596::dR P "offers" 981 601::dR P "__static_attributes__" 985 602::[]) 11
def akL:Obj:=⟨.none,none,.fields ⟨i3 321 4 560 <|i3 327 4 567 <|i3 330 4 574 <|i3 333 4 581 <|i3 338 4 588 <|i3 342 4 595 <|i3 345 4 600 <|[]⟩,⟨[]⟩⟩
def ak3:Obj:=wC "Hall" 921 319 553 924
def ak8:Obj:=wF 555 552 "chancehall.halls" 878
def aie:Obj:=cP "__init__" "Hall.__init__" 931 321 3 3 557 934
def ahL:Obj:=fO "__init__" "Hall.__init__" (fK 78 0) (.str "chancehall.halls" 878) 560
def ai6:Obj:=fO "size" "Hall.size" (fK 78 1) (.str "chancehall.halls" 878) 567
def ahX:Obj:=fO "names" "Hall.names" (fK 78 2) (.str "chancehall.halls" 878) 574
def aix:Obj:=fO "place" "Hall.place" (fK 78 3) (.str "chancehall.halls" 878) 581
def akF:Obj:=fT "check_room" "Hall.check_room" (fK 78 4)
def aif:Obj:=cO "check_room" "Hall.check_room" 959 338 2 3 583 964
def ahH:Obj:=fO "check_room" "Hall.check_room" (fK 78 4) (.str "chancehall.halls" 878) 588
def ahx:Obj:=cO "door_at" "Hall.door_at" 967 342 3 3 590 973
def agP:Obj:=fO "door_at" "Hall.door_at" (fK 78 5) (.str "chancehall.halls" 878) 595
def aip:Obj:=cP "offers" "Hall.offers" 976 345 2 3 597 979
def ajv:Obj:=fO "offers" "Hall.offers" (fK 78 6) (.str "chancehall.halls" 878) 600
def agn(P:Params):Obj:=wD (dE P "__module__" 926 (.str "chancehall.halls" 878)::dE P "__firstlineno__" 930 (.int 319 929)::dR P "__init__" 936 561::dR P "size" 943 568::dR P "names" 950 575::dR P "place" 958 582::dR P "check_room" 966 589::dR P "door_at" 975 596::dR P "offers" 981 601::dR P "__static_attributes__" 985 602::dR P "__dict__" 987 605::dR P "__weakref__" 989 606::dE P "__doc__" 990 .none::[]) 4
def aiO:Obj:=wK "Hall" [.type "object"] [.ref 604,.type "object"] 603 [] none 919 927 "object.__new__"
noncomputable def agN:Obj:=⟨.type "getset_descriptor",none,.fields ⟨.str "__dict__" 986::.ref 604::.builtin "function.__dict__"::.builtin "function.__dict__#set"::[]⟩,⟨[]⟩⟩
def aj0:Obj:=wG 988 604
def ali:Obj:=wS 604
def akR:Obj:=wB 604
def af9:Obj:=cO "_law_cell" "_law_cell" 995 349 2 3 609 1000
def ai4:Obj:=fO "_law_cell" "_law_cell" (top 80) (.str "law_chancehall_k27_whole_rising" 993) 614
def ag3:Obj:=tN 1006 ["_law_cell_here","_law_many","_law_found","_law_number","_law_digits","_law_k"]
def ajG:Obj:=cO "_law_stream" "_law_stream" 1003 351 2 3 616 1012
def agV:Obj:=fO "_law_stream" "_law_stream" (top 81) (.str "law_chancehall_k27_whole_rising" 993) 621
def ahg:Obj:=tN 1018 ["_law_one","_law_other","_law_low","_law_high"]
def ajW:Obj:=cO "_law_gcd" "_law_gcd" 1015 362 2 3 623 1022
def agz:Obj:=fO "_law_gcd" "_law_gcd" (top 82) (.str "law_chancehall_k27_whole_rising" 993) 628
def af4:Obj:=tN 1028 ["_law_top","_law_bottom","_law_common"]
def aiF:Obj:=cO "_law_ratio" "_law_ratio" 1025 367 2 3 630 1031
def ajC:Obj:=fO "_law_ratio" "_law_ratio" (top 83) (.str "law_chancehall_k27_whole_rising" 993) 635
def ajI:Obj:=cO "_law_is_ratio" "_law_is_ratio" 1034 370 1 3 637 1039
def ajD:Obj:=fO "_law_is_ratio" "_law_is_ratio" (top 84) (.str "law_chancehall_k27_whole_rising" 993) 642
def alP:Obj:=fT "_law_are_ratios" "_law_are_ratios" (top 85)
def agQ:Obj:=cP "_law_are_ratios" "_law_are_ratios" 1042 377 2 3 644 1045
def ajn:Obj:=fO "_law_are_ratios" "_law_are_ratios" (top 85) (.str "law_chancehall_k27_whole_rising" 993) 647
def aiq:Obj:=cP "_law_names" "_law_names" 1048 381 2 3 649 1051
def ah3:Obj:=fO "_law_names" "_law_names" (top 86) (.str "law_chancehall_k27_whole_rising" 993) 652
def air:Obj:=tN 1057 ["_law_cell_here","_law_xs","_law_bottom"]
def aiW:Obj:=cO "_law_share" "_law_share" 1054 390 1 3 654 1060
def ag6:Obj:=fO "_law_share" "_law_share" (top 87) (.str "law_chancehall_k27_whole_rising" 993) 659
def agx:Obj:=tN 1066 ["_law_cell_here","_law_x","_law_y"]
def ag9:Obj:=cO "_law_pay" "_law_pay" 1063 394 3 3 661 1069
def afz:Obj:=fO "_law_pay" "_law_pay" (top 88) (.str "law_chancehall_k27_whole_rising" 993) 666
def ajd:Obj:=cP "_law_door" "_law_door" 1072 402 2 3 668 1075
def ag0:Obj:=fO "_law_door" "_law_door" (top 89) (.str "law_chancehall_k27_whole_rising" 993) 671
def ahQ:Obj:=cP "_law_doors" "_law_doors" 1078 419 4 3 673 1081
def aiZ:Obj:=fO "_law_doors" "_law_doors" (top 90) (.str "law_chancehall_k27_whole_rising" 993) 676
def ahp:Obj:=cP "_law_built" "_law_built" 1084 433 3 3 678 1087
def aiw:Obj:=fO "_law_built" "_law_built" (top 91) (.str "law_chancehall_k27_whole_rising" 993) 681
def agA:Obj:=cP "_law_hall" "_law_hall" 1090 443 3 3 683 1093
def afv:Obj:=fO "_law_hall" "_law_hall" (top 92) (.str "law_chancehall_k27_whole_rising" 993) 686
def ahN:Obj:=tN 1099 ["_law_cell_here","_law_rooms_here","_law_xs","_law_found","_law_k"]
def agJ:Obj:=cO "_law_chosen" "_law_chosen" 1096 450 2 3 688 1104
def ag8:Obj:=fO "_law_chosen" "_law_chosen" (top 93) (.str "law_chancehall_k27_whole_rising" 993) 693
def ai3:Obj:=cO "_law_below" "_law_below" 1107 459 2 3 695 1112
def ajR:Obj:=fO "_law_below" "_law_below" (top 94) (.str "law_chancehall_k27_whole_rising" 993) 700
def aj7:Obj:=cO "_law_size" "_law_size" 1115 461 1 3 702 1120
def aiJ:Obj:=fO "_law_size" "_law_size" (top 95) (.str "law_chancehall_k27_whole_rising" 993) 707
def agu:Obj:=tN 1126 ["_law_cell_here","_law_many","_law_pay_here","_law_found","_law_k"]
def ajY:Obj:=cO "_law_corridor" "_law_corridor" 1123 468 2 3 709 1131
def aiK:Obj:=fO "_law_corridor" "_law_corridor" (top 96) (.str "law_chancehall_k27_whole_rising" 993) 714
def agi:Obj:=cO "_law_rooms" "_law_rooms" 1134 474 1 3 716 1139
def af2:Obj:=fO "_law_rooms" "_law_rooms" (top 97) (.str "law_chancehall_k27_whole_rising" 993) 721
def aiQ:Obj:=cP "_law_start" "_law_start" 1142 479 2 3 723 1145
def ah9:Obj:=fO "_law_start" "_law_start" (top 98) (.str "law_chancehall_k27_whole_rising" 993) 726
def tr1(P:Params):BT:=nd (boot_o_0 P) (nd (boot_o_1 P) (nd (alk P) (nd (boot_o_7 P) (nd tE (nd q31 (nd fE (nd agm (n1 (tN 507 ["row","column"]) akE) (n1 fE (tN 1037 ["_law_found","_law_number"]))) (nd tE (n1 (fT "odd_row" "odd_row" (top 47)) ahX) (n1 ako fE))) (nd q95 (nd fE (n1 fE tE) (n1 (al3 P) ajd)) (nd ahr (n1 afq ali) (lf aha)))) (nd q47 (nd (q79 P) (nd afD (n1 aj6 afX) (n1 tE fE)) (nd (tN 444 ["thing","many"]) (n1 fE fE) (n1 (afL P) tE))) (nd (tN 318 ["self","room"]) (nd tE (n1 aiH (fT "__init__" "Hall.__init__" (fK 78 0))) (n1 (fT "ways" "Door.ways" (fK 68 1)) afv)) (nd ajO (n1 (fT "mended" "mended" (top 57)) tE) (lf ag2))))) (nd q23 (nd fE (nd q71 (nd afl (n1 aii ai2) (n1 (tN 704 ["room"]) agQ)) (nd fE (n1 ait tE) (n1 tE agu))) (nd akT (nd (tN 393 ["one","other"]) (n1 (fT "reduced" "reduced" (top 42)) akK) (n1 tE fE)) (nd tE (n1 fE ai4) (lf al1)))) (nd (q55 P) (nd q87 (nd tE (n1 tE afy) (n1 aja agx)) (nd tE (n1 (fT "chosen_doors" "chosen_doors" (top 52)) (fT "offers" "Hall.offers" (fK 78 6))) (n1 alS ah9))) (nd akv (nd (fT "under" "under" (top 21)) (n1 fE (cO "size" "Hall.size" 937 327 1 3 562 941)) (n1 ajL tE)) (nd fE (n1 agj fE) (lf alg)))))) (nd o11 (nd (fT "_wall" "_wall" (top 0)) (nd q35 (nd (q67 P) (nd tE (n1 ajp aiz) (n1 aga ajD)) (nd (fT "total" "total" (top 24)) (n1 fE tE) (n1 tE aj7))) (nd q99 (nd (cO "minus" "minus" 382 58 2 3 158 387) (n1 afM (fT "offers_of" "offers_of" (top 77))) (n1 alr (fT "_law_doors" "_law_doors" (top 90)))) (nd tE (n1 (fT "worths_of" "worths_of" (top 54)) (tN 998 ["_law_script","_law_k"])) (lf aiL)))) (nd fE (nd q83 (nd tE (n1 tE (tN 890 ["rooms","numbers","room","name"])) (n1 tE aiW)) (nd agM (n1 agG ahx) (n1 ahq tE))) (nd ajS (nd tE (n1 (fT "with_rights" "with_rights" (top 45)) fE) (n1 fE tE)) (nd (fT "row_plus" "row_plus" (top 34)) (n1 fE (fT "_law_gcd" "_law_gcd" (top 82))) (lf ah6))))) (nd q27 (nd (q43 P) (nd fE (nd (tN 359 ["top","bottom","common"]) (n1 ai5 fE) (n1 ai0 (fT "_law_names" "_law_names" (top 86)))) (nd (cO "greatest" "greatest" 430 75 1 3 198 436) (n1 (fT "single_rows" "single_rows" (top 49)) akF) (n1 (fT "__init__" "Sure.__init__" (fK 69 0)) aiK))) (nd alj (nd ajl (n1 fE ak3) (n1 tE tE)) (nd aiC (n1 aiP tE) (lf akf)))) (nd q59 (nd fE (nd (fT "plus" "plus" (top 17)) (n1 (fT "begin_row" "begin_row" (top 40)) tE) (n1 afn afz)) (nd tE (n1 fE (agn P)) (lf fE))) (nd (tN 333 ["thing"]) (nd fE (n1 tE (tN 947 ["self"])) (n1 ahh (fT "_law_below" "_law_below" (top 94)))) (nd ahc (n1 (fT "is_word" "is_word" (top 61)) aiF) (lf (aks P)))))))) (nd (boot_o_5 P) (nd (boot_o_9 P) (nd (tN 190 ["k"]) (nd q33 (nd q65 (nd fE (n1 (fT "number_at" "number_at" (top 36)) fE) (n1 tE (fT "_law_is_ratio" "_law_is_ratio" (top 84)))) (nd (tN 425 ["fractions","leveled"]) (n1 agq fE) (n1 ald tE))) (nd (tN 298 ["room"]) (nd tE (n1 tE afm) (n1 alq tE)) (nd fE (n1 tE tE) (lf (tN 823 ["leads"]))))) (nd (q49 P) (nd q81 (nd fE (n1 fE tE) (n1 ajA tE)) (nd (fT "fits" "fits" (top 27)) (n1 tE tE) (n1 akq agi))) (nd (fT "__init__" "NoPlan.__init__" (fK 8 0)) (nd (cO "over" "over" 398 62 2 3 172 403) (n1 tE ahL) (n1 afY fE)) (nd tE (n1 aiM ahg) (lf (fT "__init__" "Toss.__init__" (fK 71 0))))))) (nd tE (nd q41 (nd (q73 P) (nd tE (n1 tE alR) (n1 alb tE)) (nd tE (n1 tE (tN 962 ["self","room"])) (n1 (tN 789 ["self","name","pay","room"]) (fT "_law_corridor" "_law_corridor" (top 96))))) (nd tE (nd (fT "times" "times" (top 19)) (n1 ah1 tE) (n1 agR ahp)) (nd (fT "lowest" "lowest" (top 32)) (n1 tE fE) (lf tE)))) (nd q57 (nd q89 (nd (tN 377 ["one","other"]) (n1 ajV fE) (n1 fE (fT "_law_pay" "_law_pay" (top 88)))) (nd ah4 (n1 agO ajv) (lf ak4))) (nd tE (nd agv (n1 ajb tE) (n1 (tN 763 ["leads","name","pay"]) (tN 1110 ["_law_one","_law_other"]))) (nd tE (n1 tE tE) (lf ahG)))))) (nd o13 (nd q21 (nd (q37 P) (nd q69 (nd (cO "divisor" "divisor" 337 28 2 3 128 345) (n1 fE tE) (n1 tE fE)) (nd afS (n1 tE (cO "place" "Hall.place" 951 333 2 3 576 956)) (n1 alI tE))) (nd ak7 (nd tE (n1 tE aj1) (n1 fE aiZ)) (nd aiy (n1 af7 (fT "_law_cell" "_law_cell" (top 80))) (lf akY)))) (nd q53 (nd (q85 P) (nd (cO "is_ratio" "is_ratio" 365 48 1 3 144 371) (n1 (cO "go_on" "go_on" 528 132 3 3 272 534) (fT "numbers_of" "numbers_of" (top 75))) (n1 (fT "check_pairs" "check_pairs" (top 66)) tE)) (nd fE (n1 tE tE) (n1 (akJ P) (fT "_law_start" "_law_start" (top 98))))) (nd (agU P) (nd (tN 409 ["one","other"]) (n1 aj5 tE) (n1 tE agJ)) (nd afI (n1 tE agz) (lf (ail P)))))) (nd tE (nd q45 (nd q77 (nd (fT "ratio" "ratio" (top 15)) (n1 (fT "first_from" "first_from" (top 38)) tE) (n1 fE ah3)) (nd tE (n1 ajQ ahH) (n1 agK fE))) (nd tE (nd fE (n1 tE tE) (n1 (tN 751 ["self"]) (fT "_law_hall" "_law_hall" (top 92)))) (nd fE (n1 tE ajG) (lf tE)))) (nd (q61 P) (nd tE (nd ahS (n1 ahV afZ) (n1 tE fE)) (nd (fT "behind_door" "behind_door" (top 29)) (n1 tE agN) (lf tE))) (nd (fT "is_whole" "is_whole" (top 10)) (nd (cP "level" "level" 416 67 1 3 186 419) (n1 (tN 591 ["end","begins","wide","row"]) (fT "names" "Hall.names" (fK 78 2))) (n1 aiD ajR)) (nd tE (n1 ajF tE) (lf akH)))))))) (nd (boot_o_2 P) (nd (boot_o_4 P) (nd (boot_o_8 P) (nd fE (nd q32 (nd q64 (nd tE (n1 tE tE) (n1 (tN 696 ["name","pay"]) tE)) (nd fE (n1 (cO "odd_row" "odd_row" 588 171 3 3 315 595) tE) (n1 afH (tN 1118 ["_law_cell_here","_law_xs"])))) (nd q96 (nd (tN 385 ["one","other"]) (n1 ajT fE) (n1 tE ag0)) (nd tE (n1 agF akR) (lf ajX)))) (nd q48 (nd q80 (nd tE (n1 tE aiU) (n1 (fT "check_chance" "check_chance" (top 65)) air)) (nd tE (n1 ahb (tN 970 ["self","room","name"])) (n1 ai1 (fT "_law_rooms" "_law_rooms" (top 97))))) (nd tE (nd (fT "over" "over" (top 20)) (n1 aio aie) (n1 (cO "ways" "Door.ways" 748 264 1 3 427 752) tE)) (nd ahC (n1 (cP "mended" "mended" 665 211 3 3 365 668) fE) (lf tE))))) (nd (q24 P) (nd q40 (nd q72 (nd ahi (n1 agf alG) (n1 tE ajn)) (nd (tN 433 ["fractions","found","one"]) (n1 aht fE) (n1 fE tE))) (nd (alc P) (nd tE (n1 (cP "reduced" "reduced" 561 146 2 3 293 564) (akh P)) (n1 (fT "__init__" "Door.__init__" (fK 68 0)) (fT "_law_built" "_law_built" (top 91)))) (nd fE (n1 (tN 659 ["seen","door","most"]) tE) (lf (akM P))))) (nd q56 (nd q88 (nd fE (n1 fE tE) (n1 tE tE)) (nd (fT "check_plan" "check_plan" (top 28)) (n1 ahj aip) (lf akG))) (nd alO (nd (cO "under" "under" 406 64 2 3 179 411) (n1 (fT "begins_of" "begins_of" (top 46)) ai6) (n1 ahl fE)) (nd (tN 498 ["leveled","step","row"]) (n1 ago af4) (lf akt)))))) (nd agh (nd (cO "_wall" "_wall" 187 1 1 3 15 191) (nd q36 (nd q68 (nd (fT "divisor" "divisor" (top 11)) (n1 tE ah5) (n1 ajB tE)) (nd (cO "total" "total" 422 72 1 3 191 427) (n1 aiA (fT "place" "Hall.place" (fK 78 3))) (n1 alu aiJ))) (nd alX (nd ajs (n1 ahe ahK) (n1 tE ahQ)) (nd (fT "raised_look" "raised_look" (top 30)) (n1 ahZ tE) (lf ak2)))) (nd q52 (nd q84 (nd (fT "is_ratio" "is_ratio" (top 16)) (n1 (fT "go_on" "go_on" (top 39)) tE) (n1 fE ag6)) (nd tE (n1 aiS agP) (n1 als fE))) (nd (tN 323 ["room"]) (nd fE (n1 agI (tN 940 ["self"])) (n1 (tN 758 ["self","room"]) (fT "_law_chosen" "_law_chosen" (top 93)))) (nd af3 (n1 (tN 674 ["hall","plan","told","coming"]) ajW) (lf tE))))) (nd q28 (nd q44 (nd q76 (nd tE (n1 tE (tN 883 ["share"])) (n1 tE aiq)) (nd afB (n1 agC aif) (n1 afC tE))) (nd alD (nd tE (n1 (tN 572 ["rows"]) ak8) (n1 fE fE)) (nd tE (n1 ajE (fT "_law_stream" "_law_stream" (top 81))) (lf akA)))) (nd q60 (nd (tN 293 ["self","room"]) (nd (cO "plus" "plus" 374 56 2 3 151 379) (n1 ajf (fT "numbered_ways" "numbered_ways" (top 76))) (n1 afP tE)) (nd fE (n1 ais aiO) (lf (tN 816 ["self","name","pay","pairs"])))) (nd tE (nd (fT "level" "level" (top 23)) (n1 fE tE) (n1 agB ai3)) (nd ag7 (n1 (cP "is_word" "is_word" 685 229 1 3 377 688) ajC) (lf tE))))))) (nd (boot_o_6 P) (nd (boot_o_10 P) (nd tE (nd q34 (nd tE (nd ajh (n1 ahy (fT "__init__" "Even.__init__" (fK 72 0))) (n1 (fT "check_head" "check_head" (top 63)) ajI)) (nd tE (n1 tE (tN 954 ["self","name"])) (n1 (al9 P) (fT "_law_size" "_law_size" (top 95))))) (nd (q98 P) (nd (fT "minus" "minus" (top 18)) (n1 (fT "clear_column" "clear_column" (top 41)) tE) (n1 akZ fE)) (nd aiu (n1 fE fE) (lf (ajN P))))) (nd tE (nd q82 (nd (tN 368 ["thing","top","bottom"]) (n1 (tN 531 ["leveled","steps","step"]) fE) (n1 afK (fT "_law_share" "_law_share" (top 87)))) (nd (cO "fits" "fits" 441 82 2 3 205 446) (n1 (fT "only_answer" "only_answer" (top 50)) (fT "door_at" "Hall.door_at" (fK 78 5))) (n1 aky af2))) (nd afU (nd ahd (n1 fE tE) (n1 tE ahN)) (nd fE (n1 tE tE) (lf agg))))) (nd fE (nd tE (nd tE (nd fE (n1 fE tE) (n1 afk fE)) (nd (fT "greatest" "greatest" (top 25)) (n1 fE tE) (n1 tE ajY))) (nd alA (nd (cO "times" "times" 390 60 2 3 165 395) (n1 tE akL) (n1 ajH aiw)) (nd (cP "lowest" "lowest" 477 100 2 3 231 480) (n1 (fT "better_door" "better_door" (top 56)) ag3) (lf al2)))) (nd q58 (nd tE (nd tE (n1 tE ahs) (n1 (fT "joined_ways" "joined_ways" (top 67)) ag9)) (nd ajJ (n1 tE (tN 982 ["numbers","offered","share"])) (lf tE))) (nd fE (nd tE (n1 agl fE) (n1 (aji P) tE)) (nd (fT "take_step" "take_step" (top 35)) (n1 fE (fT "_law_ratio" "_law_ratio" (top 83))) (lf aku)))))) (nd o14 (nd q22 (nd tE (nd q70 (nd ajm (n1 (fT "fractions_of" "fractions_of" (top 37)) (ahv P)) (n1 fE alP)) (nd tE (n1 (fT "answer_of" "answer_of" (top 48)) aix) (n1 ak5 fE))) (nd aft (nd fE (n1 fE tE) (n1 (tN 742 ["self","name","pay"]) tE)) (nd agd (n1 tE af9) (lf aiB)))) (nd tE (nd tE (nd aju (n1 aiG ajk) (n1 ahW fE)) (nd (tN 452 ["hall","plan","room","thing"]) (n1 fE fE) (n1 tE aiQ))) (nd afh (nd tE (n1 tE (fT "size" "Hall.size" (fK 78 1))) (n1 (fT "chance_to" "Door.chance_to" (fK 68 2)) ag8)) (nd tE (n1 (fT "mendings" "mendings" (top 58)) tE) (lf ajt))))) (nd (q30 P) (nd q46 (nd tE (nd (cO "ratio" "ratio" 356 39 2 3 137 362) (n1 aiY (fT "check_share" "check_share" (top 74))) (n1 (tN 711 ["chance"]) tE)) (nd fE (n1 tE tE) (n1 (tN 796 ["leads"]) (tN 1137 ["_law_script","_law_xs"])))) (nd fE (nd (tN 401 ["one","other"]) (n1 (fT "width_of" "width_of" (top 44)) fE) (n1 tE agA)) (nd (fT "row_times" "row_times" (top 33)) (n1 fE agV) (lf fE)))) (nd tE (nd (fT "__init__" "NoRoom.__init__" (fK 7 0)) (nd tE (n1 tE agr) (n1 aki (fT "_law_door" "_law_door" (top 89)))) (nd afA (n1 (fT "left_rows" "left_rows" (top 53)) aj0) (lf (fT "__init__" "Mixed.__init__" (fK 70 0))))) (nd (cO "is_whole" "is_whole" 330 26 1 3 121 334) (nd ajq (n1 tE (cO "names" "Hall.names" 944 330 1 3 569 948)) (n1 alw tE)) (nd fE (n1 tE fE) (lf alU))))))))
def S1(w:World)(os:OsState):SharedT:=⟨tr1 w.params,728,{},⟨[]⟩,{},1148,os⟩
noncomputable def e1:Pos:=⟨479,0,482,66⟩
def KH:Params->Frag:=λP=>(
 (nat_lit 2,boot_o_2 P)::(nat_lit 3,wD (dE P "__name__" 165 (.str "law_chancehall_k27_whole_rising" 993)::dE P "__doc__" 166 .none::dE P "__package__" 167 .none::dE P "__loader__" 168 (.builtin "__main__.__loader__#opaque")::dE P "__spec__" 169 .none::dR P "__annotations__" 170 6::dR P "__builtins__" 171 4::dE P "__file__" 173 (.str "/claim/cut.py" 172)::dE P "__cached__" 174 .none::dR P "_wall" 193 21::dR P "HallError" 213 31::dR P "NoNumber" 229 44::dR P "NoName" 245 56::dR P "NoChance" 261 68::dR P "NoShare" 277 80::dR P "NoRoom" 302 99::dR P "NoPlan" 327 118::dR P "is_whole" 336 127::dR P "divisor" 347 134::dR P "NOUGHT" 352 135::dR P "ONE" 355 136::dR P "ratio" 364 143::dR P "is_ratio" 373 150::dR P "plus" 381 157::dR P "minus" 389 164::dR P "times" 397 171::dR P "over" 405 178::dR P "under" 413 185::dR P "level" 421 190::dR P "total" 429 197::dR P "greatest" 438 204::dR P "fits" 448 211::dR P "check_plan" 458 218::dR P "behind_door" 464 223::dR P "raised_look" 474 230::dR P "lowest" 482 235::dR P "row_times" 488 240::dR P "row_plus" 494 245::dR P "take_step" 503 252::dR P "number_at" 511 259::dR P "fractions_of" 517 264::dR P "first_from" 527 271::dR P "go_on" 536 278::dR P "begin_row" 548 285::dR P "clear_column" 560 292::dR P "reduced" 566 297::dR P "width_of" 575 304::dR P "with_rights" 581 309::dR P "begins_of" 587 314::dR P "odd_row" 597 321::dR P "answer_of" 609 328::dR P "single_rows" 615 333::dR P "only_answer" 626 340::dR P "chosen_doors" 634 345::dR P "left_rows" 647 352::dR P "worths_of" 653 357::dR P "better_door" 664 364::dR P "mended" 670 369::dR P "mendings" 680 376::dE P "LONGEST_WORD" 684 (.int 8 683)::dR P "is_word" 690 381::dR P "check_head" 700 388::dR P "check_room_name" 707 395::dR P "check_chance" 714 402::dR P "check_pairs" 720 407::dR P "joined_ways" 726 412::dR P "Door" 773 443::dR P "Sure" 800 464::dR P "Mixed" 827 483::dR P "Toss" 855 502::dR P "Even" 877 519::dR P "check_share" 886 528::dR P "numbers_of" 896 535::dR P "numbered_ways" 907 542::dR P "offers_of" 918 549::dR P "Hall" 992 604::dR P "_law_cell" 1002 615::dR P "_law_stream" 1014 622::dR P "_law_gcd" 1024 629::dR P "_law_ratio" 1033 636::dR P "_law_is_ratio" 1041 643::dR P "_law_are_ratios" 1047 648::dR P "_law_names" 1053 653::dR P "_law_share" 1062 660::dR P "_law_pay" 1071 667::dR P "_law_door" 1077 672::dR P "_law_doors" 1083 677::dR P "_law_built" 1089 682::dR P "_law_hall" 1095 687::dR P "_law_chosen" 1106 694::dR P "_law_below" 1114 701::dR P "_law_size" 1122 708::dR P "_law_corridor" 1133 715::dR P "_law_rooms" 1141 722::dR P "_law_start" 1147 727::dR P "_law_rises" 1161 734::dR P "law" 1167 739::[]) 97)::(nat_lit 15,tE)::(nat_lit 17,tN 190 ["k"])::(nat_lit 18,tE)::(nat_lit 20,cO "_wall" "_wall" 187 1 1 3 15 191)::(nat_lit 21,q21)::(nat_lit 22,q22)::(nat_lit 29,tE)::(nat_lit 30,q30 P)::(nat_lit 31,q31)::(nat_lit 32,q32)::(nat_lit 35,q35)::(nat_lit 42,tE)::(nat_lit 43,q43 P)::(nat_lit 44,q44)::(nat_lit 47,q47)::(nat_lit 54,tE)::(nat_lit 55,q55 P)::(nat_lit 56,q56)::(nat_lit 59,q59)::(nat_lit 66,tE)::(nat_lit 67,q67 P)::(nat_lit 68,q68)::(nat_lit 71,q71)::(nat_lit 78,tE)::(nat_lit 79,q79 P)::(nat_lit 80,q80)::(nat_lit 83,q83)::(nat_lit 90,tE)::(nat_lit 92,tN 293 ["self","room"])::(nat_lit 93,tE)::(nat_lit 95,q95)::(nat_lit 96,q96)::(nat_lit 97,tN 298 ["room"])::(nat_lit 98,q98 P)::(nat_lit 99,q99)::(nat_lit 102,aft)::(nat_lit 109,tE)::(nat_lit 111,tN 318 ["self","room"])::(nat_lit 112,tE)::(nat_lit 114,afU)::(nat_lit 115,ajS)::(nat_lit 116,tN 323 ["room"])::(nat_lit 117,agU P)::(nat_lit 118,afh)::(nat_lit 121,tE)::(nat_lit 123,tN 333 ["thing"])::(nat_lit 124,tE)::(nat_lit 126,cO "is_whole" "is_whole" 330 26 1 3 121 334)::(nat_lit 127,agm)::(nat_lit 128,tE)::(nat_lit 130,ajh)::(nat_lit 131,tE)::(nat_lit 133,cO "divisor" "divisor" 337 28 2 3 128 345)::(nat_lit 134,ajm)::(nat_lit 135,afl)::(nat_lit 136,ahi)::(nat_lit 137,tE)::(nat_lit 139,tN 359 ["top","bottom","common"])::(nat_lit 140,tE)::(nat_lit 142,cO "ratio" "ratio" 356 39 2 3 137 362)::(nat_lit 143,afD)::(nat_lit 144,tE)::(nat_lit 146,tN 368 ["thing","top","bottom"])::(nat_lit 147,tE)::(nat_lit 149,cO "is_ratio" "is_ratio" 365 48 1 3 144 371)::(nat_lit 150,aju)::(nat_lit 151,tE)::(nat_lit 153,tN 377 ["one","other"])::(nat_lit 154,tE)::(nat_lit 156,cO "plus" "plus" 374 56 2 3 151 379)::(nat_lit 157,ahS)::(nat_lit 158,tE)::(nat_lit 160,tN 385 ["one","other"])::(nat_lit 161,tE)::(nat_lit 163,cO "minus" "minus" 382 58 2 3 158 387)::(nat_lit 164,ajs)::(nat_lit 165,tE)::(nat_lit 167,tN 393 ["one","other"])::(nat_lit 168,tE)::(nat_lit 170,cO "times" "times" 390 60 2 3 165 395)::(nat_lit 171,ajl)::(nat_lit 172,tE)::(nat_lit 174,tN 401 ["one","other"])::(nat_lit 175,tE)::(nat_lit 177,cO "over" "over" 398 62 2 3 172 403)::(nat_lit 178,ahd)::(nat_lit 179,tE)::(nat_lit 181,tN 409 ["one","other"])::(nat_lit 182,tE)::(nat_lit 184,cO "under" "under" 406 64 2 3 179 411)::(nat_lit 185,agv)::(nat_lit 186,tE)::(nat_lit 189,cP "level" "level" 416 67 1 3 186 419)::(nat_lit 190,ajq)::(nat_lit 191,tE)::(nat_lit 193,tN 425 ["fractions","leveled"])::(nat_lit 194,tE)::(nat_lit 196,cO "total" "total" 422 72 1 3 191 427)::(nat_lit 197,afS)::(nat_lit 198,tE)::(nat_lit 200,tN 433 ["fractions","found","one"])::(nat_lit 201,tE)::(nat_lit 203,cO "greatest" "greatest" 430 75 1 3 198 436)::(nat_lit 204,afB)::(nat_lit 205,tE)::(nat_lit 207,tN 444 ["thing","many"])::(nat_lit 208,tE)::(nat_lit 210,cO "fits" "fits" 441 82 2 3 205 446)::(nat_lit 211,agM)::(nat_lit 212,tE)::(nat_lit 214,tN 452 ["hall","plan","room","thing"])::(nat_lit 215,tE)::(nat_lit 217,ah4)::(nat_lit 218,ajJ)::(nat_lit 219,tE)::(nat_lit 222,afA)::(nat_lit 223,ahr)::(nat_lit 224,tE)::(nat_lit 226,aiu)::(nat_lit 227,tE)::(nat_lit 229,aiy)::(nat_lit 230,agd)::(nat_lit 231,tE)::(nat_lit 234,cP "lowest" "lowest" 477 100 2 3 231 480)::(nat_lit 235,aiC)::(nat_lit 236,tE)::(nat_lit 239,ajO)::(nat_lit 240,ahC)::(nat_lit 241,tE)::(nat_lit 244,af3)::(nat_lit 245,afI)::(nat_lit 246,tE)::(nat_lit 248,tN 498 ["leveled","step","row"])::(nat_lit 249,tE)::(nat_lit 251,ahc)::(nat_lit 252,ag7)::(nat_lit 253,tE)::(nat_lit 255,tN 507 ["row","column"])::(nat_lit 256,tE)::(nat_lit 258,ahy)::(nat_lit 259,ajp)::(nat_lit 260,tE)::(nat_lit 263,aii)::(nat_lit 264,agf)::(nat_lit 265,tE)::(nat_lit 267,ai5)::(nat_lit 268,tE)::(nat_lit 270,aiY)::(nat_lit 271,aj6)::(nat_lit 272,tE)::(nat_lit 274,tN 531 ["leveled","steps","step"])::(nat_lit 275,tE)::(nat_lit 277,cO "go_on" "go_on" 528 132 3 3 272 534)::(nat_lit 278,aiG)::(nat_lit 279,tE)::(nat_lit 281,ajV)::(nat_lit 282,tE)::(nat_lit 284,ajf)::(nat_lit 285,ahV)::(nat_lit 286,tE)::(nat_lit 288,ajT)::(nat_lit 289,tE)::(nat_lit 291,afM)::(nat_lit 292,ahe)::(nat_lit 293,tE)::(nat_lit 296,cP "reduced" "reduced" 561 146 2 3 293 564)::(nat_lit 297,ah1)::(nat_lit 298,tE)::(nat_lit 300,tN 572 ["rows"])::(nat_lit 301,tE)::(nat_lit 303,aiH)::(nat_lit 304,aio)::(nat_lit 305,tE)::(nat_lit 308,agI)::(nat_lit 309,aj5)::(nat_lit 310,tE)::(nat_lit 313,ajb)::(nat_lit 314,agl)::(nat_lit 315,tE)::(nat_lit 317,tN 591 ["end","begins","wide","row"])::(nat_lit 318,tE)::(nat_lit 320,cO "odd_row" "odd_row" 588 171 3 3 315 595)::(nat_lit 321,agq)::(nat_lit 322,tE)::(nat_lit 324,aiA)::(nat_lit 325,tE)::(nat_lit 327,ait)::(nat_lit 328,aht)::(nat_lit 329,tE)::(nat_lit 332,agC)::(nat_lit 333,ajQ)::(nat_lit 334,tE)::(nat_lit 336,ahb)::(nat_lit 337,tE)::(nat_lit 339,agG)::(nat_lit 340,aiS)::(nat_lit 341,tE)::(nat_lit 344,ahj)::(nat_lit 345,agO)::(nat_lit 346,tE)::(nat_lit 348,ais)::(nat_lit 349,tE)::(nat_lit 351,afq)::(nat_lit 352,agF)::(nat_lit 353,tE)::(nat_lit 356,ahZ)::(nat_lit 357,af7)::(nat_lit 358,tE)::(nat_lit 360,tN 659 ["seen","door","most"])::(nat_lit 361,tE)::(nat_lit 363,aiP)::(nat_lit 364,ajE)::(nat_lit 365,tE)::(nat_lit 368,cP "mended" "mended" 665 211 3 3 365 668)::(nat_lit 369,aiM)::(nat_lit 370,tE)::(nat_lit 372,tN 674 ["hall","plan","told","coming"])::(nat_lit 373,tE)::(nat_lit 375,agj)::(nat_lit 376,ago)::(nat_lit 377,tE)::(nat_lit 380,cP "is_word" "is_word" 685 229 1 3 377 688)::(nat_lit 381,ajF)::(nat_lit 382,tE)::(nat_lit 384,tN 696 ["name","pay"])::(nat_lit 385,tE)::(nat_lit 387,aga)::(nat_lit 388,ajB)::(nat_lit 389,tE)::(nat_lit 391,tN 704 ["room"])::(nat_lit 392,tE)::(nat_lit 394,afk)::(nat_lit 395,ai0)::(nat_lit 396,tE)::(nat_lit 398,tN 711 ["chance"])::(nat_lit 399,tE)::(nat_lit 401,ajA)::(nat_lit 402,afK)::(nat_lit 403,tE)::(nat_lit 406,ahW)::(nat_lit 407,aja)::(nat_lit 408,tE)::(nat_lit 411,afn)::(nat_lit 412,afP)::(nat_lit 420,tE)::(nat_lit 422,tN 742 ["self","name","pay"])::(nat_lit 423,tE)::(nat_lit 425,agR)::(nat_lit 426,ajH)::(nat_lit 427,tE)::(nat_lit 429,tN 751 ["self"])::(nat_lit 430,tE)::(nat_lit 432,cO "ways" "Door.ways" 748 264 1 3 427 752)::(nat_lit 433,afY)::(nat_lit 434,tE)::(nat_lit 436,tN 758 ["self","room"])::(nat_lit 437,tE)::(nat_lit 439,ajL)::(nat_lit 440,ahl)::(nat_lit 441,tN 763 ["leads","name","pay"])::(nat_lit 442,aji P)::(nat_lit 443,ahh)::(nat_lit 444,agB)::(nat_lit 445,aiD)::(nat_lit 448,afH)::(nat_lit 455,tE)::(nat_lit 457,tN 789 ["self","name","pay","room"])::(nat_lit 458,tE)::(nat_lit 460,afC)::(nat_lit 461,agK)::(nat_lit 462,tN 796 ["leads"])::(nat_lit 463,afL P)::(nat_lit 464,ai1)::(nat_lit 467,ahq)::(nat_lit 474,tE)::(nat_lit 476,tN 816 ["self","name","pay","pairs"])::(nat_lit 477,tE)::(nat_lit 479,aha)::(nat_lit 480,ajX)::(nat_lit 481,tN 823 ["leads"])::(nat_lit 482,ajN P)::(nat_lit 483,aiL)::(nat_lit 486,aiB)::(nat_lit 493,tE)::(nat_lit 495,ag2)::(nat_lit 496,tE)::(nat_lit 498,agg)::(nat_lit 499,ah6)::(nat_lit 500,tE)::(nat_lit 501,ail P)::(nat_lit 502,ajt)::(nat_lit 505,ahG)::(nat_lit 512,tE)::(nat_lit 515,aiz)::(nat_lit 516,ah5)::(nat_lit 517,tE)::(nat_lit 518,ahv P)::(nat_lit 519,ai2)::(nat_lit 522,tE)::(nat_lit 524,tN 883 ["share"])::(nat_lit 525,tE)::(nat_lit 527,afX)::(nat_lit 528,aiU)::(nat_lit 529,tE)::(nat_lit 531,tN 890 ["rooms","numbers","room","name"])::(nat_lit 532,tE)::(nat_lit 534,ajk)::(nat_lit 535,afy)::(nat_lit 536,tE)::(nat_lit 538,ahs)::(nat_lit 539,tE)::(nat_lit 541,afZ)::(nat_lit 542,agr)::(nat_lit 543,tE)::(nat_lit 545,afm)::(nat_lit 546,tE)::(nat_lit 548,ahK)::(nat_lit 549,aj1)::(nat_lit 557,tE)::(nat_lit 560,aie)::(nat_lit 561,ahL)::(nat_lit 562,tE)::(nat_lit 564,tN 940 ["self"])::(nat_lit 565,tE)::(nat_lit 567,cO "size" "Hall.size" 937 327 1 3 562 941)::(nat_lit 568,ai6)::(nat_lit 569,tE)::(nat_lit 571,tN 947 ["self"])::(nat_lit 572,tE)::(nat_lit 574,cO "names" "Hall.names" 944 330 1 3 569 948)::(nat_lit 575,ahX)::(nat_lit 576,tE)::(nat_lit 578,tN 954 ["self","name"])::(nat_lit 579,tE)::(nat_lit 581,cO "place" "Hall.place" 951 333 2 3 576 956)::(nat_lit 582,aix)::(nat_lit 583,tE)::(nat_lit 585,tN 962 ["self","room"])::(nat_lit 586,tE)::(nat_lit 588,aif)::(nat_lit 589,ahH)::(nat_lit 590,tE)::(nat_lit 592,tN 970 ["self","room","name"])::(nat_lit 593,tE)::(nat_lit 595,ahx)::(nat_lit 596,agP)::(nat_lit 597,tE)::(nat_lit 600,aip)::(nat_lit 601,ajv)::(nat_lit 602,tN 982 ["numbers","offered","share"])::(nat_lit 603,agn P)::(nat_lit 604,aiO)::(nat_lit 605,agN)::(nat_lit 606,aj0)::(nat_lit 609,tE)::(nat_lit 611,tN 998 ["_law_script","_law_k"])::(nat_lit 612,tE)::(nat_lit 614,af9)::(nat_lit 615,ai4)::(nat_lit 616,tE)::(nat_lit 618,ag3)::(nat_lit 619,tE)::(nat_lit 621,ajG)::(nat_lit 622,agV)::(nat_lit 623,tE)::(nat_lit 625,ahg)::(nat_lit 626,tE)::(nat_lit 628,ajW)::(nat_lit 629,agz)::(nat_lit 630,tE)::(nat_lit 632,af4)::(nat_lit 633,tE)::(nat_lit 635,aiF)::(nat_lit 636,ajC)::(nat_lit 637,tE)::(nat_lit 639,tN 1037 ["_law_found","_law_number"])::(nat_lit 640,tE)::(nat_lit 642,ajI)::(nat_lit 643,ajD)::(nat_lit 644,tE)::(nat_lit 647,agQ)::(nat_lit 648,ajn)::(nat_lit 649,tE)::(nat_lit 652,aiq)::(nat_lit 653,ah3)::(nat_lit 654,tE)::(nat_lit 656,air)::(nat_lit 657,tE)::(nat_lit 659,aiW)::(nat_lit 660,ag6)::(nat_lit 661,tE)::(nat_lit 663,agx)::(nat_lit 664,tE)::(nat_lit 666,ag9)::(nat_lit 667,afz)::(nat_lit 668,tE)::(nat_lit 671,ajd)::(nat_lit 672,ag0)::(nat_lit 673,tE)::(nat_lit 676,ahQ)::(nat_lit 677,aiZ)::(nat_lit 678,tE)::(nat_lit 681,ahp)::(nat_lit 682,aiw)::(nat_lit 683,tE)::(nat_lit 686,agA)::(nat_lit 687,afv)::(nat_lit 688,tE)::(nat_lit 690,ahN)::(nat_lit 691,tE)::(nat_lit 693,agJ)::(nat_lit 694,ag8)::(nat_lit 695,tE)::(nat_lit 697,tN 1110 ["_law_one","_law_other"])::(nat_lit 698,tE)::(nat_lit 700,ai3)::(nat_lit 701,ajR)::(nat_lit 702,tE)::(nat_lit 704,tN 1118 ["_law_cell_here","_law_xs"])::(nat_lit 705,tE)::(nat_lit 707,aj7)::(nat_lit 708,aiJ)::(nat_lit 709,tE)::(nat_lit 711,agu)::(nat_lit 712,tE)::(nat_lit 714,ajY)::(nat_lit 715,aiK)::(nat_lit 716,tE)::(nat_lit 718,tN 1137 ["_law_script","_law_xs"])::(nat_lit 719,tE)::(nat_lit 721,agi)::(nat_lit 722,af2)::(nat_lit 723,tE)::(nat_lit 726,aiQ)::(nat_lit 727,ah9)::(nat_lit 728,tE)::(nat_lit 730,tN 1151 ["_law_one","_law_other","_law_plan","_law_worths","_law_later","_law_again","_law_more","_law_k"])::(nat_lit 731,tE)::(nat_lit 733,cO "_law_rises" "_law_rises" 1148 483 2 3 728 1159)::(nat_lit 734,fO "_law_rises" "_law_rises" (top 99) (.str "law_chancehall_k27_whole_rising" 993) 733)::(nat_lit 735,tE)::(nat_lit 738,cP "law" "law" 1162 495 1 3 735 1165)::(nat_lit 739,fO "law" "law" (top 100) (.str "law_chancehall_k27_whole_rising" 993) 738)::([] : List (Nat×Obj)))
noncomputable abbrev asH:List Nat:=[2,3,15,17,18,20,21,22,29,30,31,32,35,42,43,44,47,54,55,56,59,66,67,68,71,78,79,80,83,90,92,93,95,96,97,98,99,102,109,111,112,114,115,116,117,118,121,123,124,126,127,128,130,131,133,134,135,136,137,139,140,142,143,144,146,147,149,150,151,153,154,156,157,158,160,161,163,164,165,167,168,170,171,172,174,175,177,178,179,181,182,184,185,186,189,190,191,193,194,196,197,198,200,201,203,204,205,207,208,210,211,212,214,215,217,218,219,222,223,224,226,227,229,230,231,234,235,236,239,240,241,244,245,246,248,249,251,252,253,255,256,258,259,260,263,264,265,267,268,270,271,272,274,275,277,278,279,281,282,284,285,286,288,289,291,292,293,296,297,298,300,301,303,304,305,308,309,310,313,314,315,317,318,320,321,322,324,325,327,328,329,332,333,334,336,337,339,340,341,344,345,346,348,349,351,352,353,356,357,358,360,361,363,364,365,368,369,370,372,373,375,376,377,380,381,382,384,385,387,388,389,391,392,394,395,396,398,399,401,402,403,406,407,408,411,412,420,422,423,425,426,427,429,430,432,433,434,436,437,439,440,441,442,443,444,445,448,455,457,458,460,461,462,463,464,467,474,476,477,479,480,481,482,483,486,493,495,496,498,499,500,501,502,505,512,515,516,517,518,519,522,524,525,527,528,529,531,532,534,535,536,538,539,541,542,543,545,546,548,549,557,560,561,562,564,565,567,568,569,571,572,574,575,576,578,579,581,582,583,585,586,588,589,590,592,593,595,596,597,600,601,602,603,604,605,606,609,611,612,614,615,616,618,619,621,622,623,625,626,628,629,630,632,633,635,636,637,639,640,642,643,644,647,648,649,652,653,654,656,657,659,660,661,663,664,666,667,668,671,672,673,676,677,678,681,682,683,686,687,688,690,691,693,694,695,697,698,700,701,702,704,705,707,708,709,711,712,714,715,716,718,719,721,722,723,726,727,728,730,731,733,734,735,738,739]
end
def qv:Program:=view p [0,2,3,4,5,6,7,8,10,11,13,14,15,16,17,18,19,20,21,23,24,25,27,28,29,30,32,33,34,35,36,37,38,39,40,41,42,44,45,46,47,48,49,50,52,53,54,56,57,58,60,61,63,64,65,66,67,68,69,70,71,72,74,75,76,77,78,80,81,82,83,84,85,86,87,88,89,90,91,92,93,94,95,96,97,98,99,100]
noncomputable abbrev R:RowW:=PySem.Challenge.rw_chancehall_k27_whole_rising.row.toRowW
def Xt(s:Shared):Bool:=xlAt qv [] s&&recOk R.records s
noncomputable def e:Pos:=⟨495,0,514,40⟩
set_option maxHeartbeats 0
theorem wsd:PySem.Challenge.rw_chancehall_k27_whole_rising.wellSaid=true:=by kernel_rfl
theorem asK:∀P,asH=(KH P).map (·.1):=λ_=>by kernel_rfl
theorem pre(w:World):(λos=>topGo treeTable p w 11 ann 12 (S0 w os) (topStub p))=λos=>some (Sa w os,⟨denote treeTable (cE p),cE p,z,B⟩):=by
 rw[Fast.te15667345088766844465,Fast.te14364793385576792824,Fast.te11892475500146522536];kernel_rfl
theorem block(w:World):(λos=>segRun treeTable p w 11 ann 1 1 (Sa w os) (blockOf (behindTheImports p) (env p) (cE p) z B))=λos=>some (.next,(Sb w os).abs,cE p,z):=by
 rw[Fast.te14374325043358763698,Fast.te14364793385576792824];kernel_rfl
theorem ajj(w:World):(λos=>segRunT treeTable p w 11 ann 1 30000 (Sb w os) (piecesOf ((behindTheImports p).take 99) (env p) (cE p) z B))=λos=>some (.next,S1 w os,cE p,e1):=by
 rw[Fast.te10110043849684766642,Fast.te14364793385576792824];kernel_rfl
theorem comb{R S A B C X Y Z:Type _}{o:Option R}{f:R->A}{g:R->B}{k:R->C}{h:R->Option S}{f1:S->X}{f2:S->Y}{f3:S->Z}{a:A}{b:B}{c:C}{x:X}{y:Y}{z:Z}(h1:(o.map λr=>(f r,g r,k r,(h r).map f1))=some (a,b,c,some x))(h2:(o.map λr=>(f r,g r,k r,(h r).map f2))=some (a,b,c,some y))(h3:(o.map λr=>(f r,g r,k r,(h r).map f3))=some (a,b,c,some z)):(o.map λr=>(f r,g r,k r,(h r).map λs=>(f1 s,f2 s,f3 s)))=some (a,b,c,some (x,y,z)):=by
 cases o with
 |none=>cases h1
 |some r =>
  simp only[Option.map_some,Option.some.injEq,Prod.mk.injEq]at h1 h2 h3 ⊢;obtain⟨a1,a2,a3,a4⟩:=h1;obtain⟨_,_,_,b4⟩:=h2;obtain⟨_,_,_,c4⟩:=h3;cases hr:h r with
  |none=>rw[hr]at a4;cases a4
  |some s =>
   rw[hr]at a4 b4 c4;refine⟨a1,a2,a3,?_⟩;simp only[Option.map_some,Option.some.injEq]at a4 b4 c4 ⊢;rw[a4,b4,c4]
theorem akO(w:World):(λos=>(segRunT treeTable p w 11 ann 1 50000 (S1 w os) (piecesOf ((behindTheImports p).drop 99) (env p) (cE p) e1 B)).map λr=>(r.1,r.2.2.1,r.2.2.2,(topRun treeTable p w 11 ann 2 r.2.1.abs ⟨doneF .next,cE p,e,B⟩).map λs=>openSeen qv [] (importedModules p.main.body) Xt true s))=λ_=>some (.next,cE p,e,some (openGood qv [])):=by
 rw[Fast.te10110043849684766642,Fast.te14364793385576792824,Fast.te14082659384304107361,Fast.te4187177175401517315,Fast.te5923862056798008813];kernel_rfl
theorem akz(w:World):(λos=>(segRunT treeTable p w 11 ann 1 50000 (S1 w os) (piecesOf ((behindTheImports p).drop 99) (env p) (cE p) e1 B)).map λr=>(r.1,r.2.2.1,r.2.2.2,(topRun treeTable p w 11 ann 2 r.2.1.abs ⟨doneF .next,cE p,e,B⟩).map λs=>staticsOk (importedModules p.main.body) (boot_heap w.params) s.heap&&namesBound p s.heap&&gensDone s&&laidKept (boot_heap w.params) s.heap))=λ_=>some (.next,cE p,e,some (true)):=by
 rw[Fast.te10110043849684766642,Fast.te14364793385576792824,Fast.te14082659384304107361];kernel_rfl
theorem alp(w:World):(λos=>(segRunT treeTable p w 11 ann 1 50000 (S1 w os) (piecesOf ((behindTheImports p).drop 99) (env p) (cE p) e1 B)).map λr=>(r.1,r.2.2.1,r.2.2.2,(topRun treeTable p w 11 ann 2 r.2.1.abs ⟨doneF .next,cE p,e,B⟩).map λs=>asH.map s.heap.get?))=λ_=>some (.next,cE p,e,some ((KH w.params).map λp=>some p.2)):=by
 rw[Fast.te10110043849684766642,Fast.te14364793385576792824,Fast.te14082659384304107361];kernel_rfl
theorem big(w:World):(λos=>(segRunT treeTable p w 11 ann 1 50000 (S1 w os) (piecesOf ((behindTheImports p).drop 99) (env p) (cE p) e1 B)).map λr=>(r.1,r.2.2.1,r.2.2.2,(topRun treeTable p w 11 ann 2 r.2.1.abs ⟨doneF .next,cE p,e,B⟩).map λs=>(staticsOk (importedModules p.main.body) (boot_heap w.params) s.heap&&namesBound p s.heap&&gensDone s&&laidKept (boot_heap w.params) s.heap,openSeen qv [] (importedModules p.main.body) Xt true s,asH.map s.heap.get?)))=λ_=>some (.next,cE p,e,some (true,openGood qv [],(KH w.params).map λp=>some p.2)):=funext λos=>comb (congrFun (akz w) os) (congrFun (akO w) os) (congrFun (alp w) os)
theorem left:LeftO p qv [] Xt (λs=>asH.map s.heap.get?) (λw=>(KH w.params).map λp=>some p.2) 200000 :=
 VN (boot_open rfl rfl λ_=>rfl) pre block (λw os=>mU.cutAt (congrFun (ajj w) os) (mU.last (congrFun (big w) os))) rfl
theorem hX(s:Shared)(h:Xt s=true):XL qv [] (s.heap.nsMap mainGlobals) s.heap:=xl_of s (Bool.and_eq_true_iff.mp h).1
theorem hR(s:Shared)(h:Xt s=true):RecFacts R.records s.heap:=recFacts_of (Bool.and_eq_true_iff.mp h).2
end
end H27
noncomputable section
namespace L2
open PySem PySem.Spec PyProof.Rows
noncomputable abbrev Key:=Sum Int Str
noncomputable def zW:Key->Value->Bool
 |.inl k,v=>Value.isInt k v
 |.inr x,v=>Value.isStrOf x v
noncomputable def akS(w:World):Key->Int
 |.inl k=>hashInt k
 |.inr x=>hashStr w x
theorem fB:∀{k:Key}{v:Value},zW k v=true->(∃i t,k=Sum.inl i/\v=Value.int i t)\/(∃x t,k=Sum.inr x/\v=Value.str x t)
 |.inl i,v,h=>by
  obtain⟨t,e⟩:=Value.isInt_shape (k:=i) (v:=v) h;exact .inl ⟨i,t,rfl,e⟩
 |.inr x,v,h=>by
  obtain⟨t,e⟩:=Value.isStrOf_shape (x:=x) (v:=v) h;exact .inr ⟨x,t,rfl,e⟩
theorem VB(i:Int)(t:Tok):zW (.inl i) (.int i t)=true:=by simp[zW,Value.isInt]
theorem Wc(x:Str)(t:Tok):zW (.inr x) (.str x t)=true:=by simp[zW,Value.isStrOf]
theorem ac6(a b:Int):decide ((Sum.inl a:Key)=Sum.inl b)=(a==b):=by
 by_cases e:a=b
 .subst e;simp
 .have h:¬(Sum.inl a:Key)=Sum.inl b:=λq=>e (Sum.inl.inj q);rw[Zp h];exact(beq_eq_false_iff_ne.mpr e).symm
theorem adx(a b:Str):decide ((Sum.inr a:Key)=Sum.inr b)=decide (a=b):=by
 by_cases e:a=b
 .subst e;simp
 .have h:¬(Sum.inr a:Key)=Sum.inr b:=λq=>e (Sum.inr.inj q);rw[Zp h,Zp e]
theorem ac5(a:Int)(b:Str):decide ((Sum.inl a:Key)=Sum.inr b)=false:=Zp (λq=>nomatch q)
theorem aeQ(a:Str)(b:Int):decide ((Sum.inr a:Key)=Sum.inl b)=false:=Zp (λq=>nomatch q)
def iu(prog:Program)(w:World):PySem.KeyKind prog w Key where
 is:=zW
 hash:=akS w
 inj:=λv a b ha hb=>by
  rcases fB ha with⟨i,t,rfl,rfl⟩|⟨x,t,rfl,rfl⟩
  .rcases fB hb with⟨j,u,rfl,e⟩|⟨y,u,rfl,e⟩
   .injection e with e1 _;rw[e1]
   .exact nomatch e
  .rcases fB hb with⟨j,u,rfl,e⟩|⟨y,u,rfl,e⟩
   .exact nomatch e
   .injection e with e1 _;rw[e1]
 byValue:=λk v h=>by
  rcases fB h with⟨i,t,rfl,rfl⟩|⟨x,t,rfl,rfl⟩<;>rfl
 pyHash:=λhv h=>by
  rcases fB hv with⟨i,t,rfl,rfl⟩|⟨x,t,rfl,rfl⟩
  .exact wpAny_pyHash_int h
  .exact wpAny_pyHash_str h
 eqBool:=λhu hv h=>by
  rcases fB hu with⟨i,t,rfl,rfl⟩|⟨x,t,rfl,rfl⟩
  .rcases fB hv with⟨j,u,rfl,rfl⟩|⟨y,u,rfl,rfl⟩
   .rw[ac6]at h;exact wpAny_eqBool_int h
   .rw[ac5]at h;exact SeqAt.EqAt.int_str i t y u _ _ _ _ h
  .rcases fB hv with⟨j,u,rfl,rfl⟩|⟨y,u,rfl,rfl⟩
   .rw[aeQ]at h;exact SeqAt.EqAt.str_int x t j u _ _ _ _ h
   .rw[adx]at h;exact wpAny_eqBool_str h
 «strs»:=λk x t v h=>by
  rcases fB h with⟨i,u,rfl,e⟩|⟨y,u,rfl,e⟩
  .exact nomatch e
  .injection e with e1 _;subst e1;cases v<;>rfl
theorem Ov(prog:Program)(w:World)(i:Int)(t:Tok):(iu prog w).is (.inl i) (.int i t)=true:=VB i t
theorem Oz(prog:Program)(w:World)(x:Str)(t:Tok):(iu prog w).is (.inr x) (.str x t)=true:=Wc x t
inductive V where
 |non|bl (b:Bool)|int (i:Int)|str (x:Str)|byt (b:Array UInt8)|flt (b:UInt64)|ref (a:Addr)|ty (n:String)
 deriving DecidableEq
noncomputable abbrev Ζ:=List V
def RelV:V->Value->Prop
 |.non,u=>u=Value.none
 |.bl b,u=>u=Value.bool b
 |.int i,u=>∃t,u=Value.int i t
 |.str x,u=>∃t,u=Value.str x t
 |.byt b,u=>∃t,u=Value.bytes b t
 |.flt b,u=>∃t,u=Value.float b t
 |.ref a,u=>u=Value.ref a
 |.ty n,u=>u=Value.type n
abbrev Vals:Ζ->Θ->Prop:=Paired RelV
theorem Vals.length{xs:Ζ}{us:Θ}(r:Vals xs us):xs.length=us.length:=Paired.length r
theorem Vals.get:∀{xs:Ζ}{us:Θ}{i:Nat}{x:V},Vals xs us->xs[i]?=some x->∃u,us[i]?=some u/\RelV x u
 |_,_,_,_,.nil,e=>by simp at e
 |_,_,0,_,.cons r _,e=>by simp at e;subst e;exact⟨_,rfl,r⟩
 |_,_,i+1,x,.cons _ t,e=>by
  obtain⟨u,h1,h2⟩:=Vals.get (i:=i) (x:=x) t (by simpa using e);exact⟨u,by simpa using h1,h2⟩
theorem Vals.set{x:V}{u:Value}(r:RelV x u):∀{xs:Ζ}{us:Θ}(i:Nat),Vals xs us->Vals (xs.set i x) (us.set i u)
 |_,_,_,.nil=>.nil
 |_,_,0,.cons _ t=>.cons r t
 |_,_,i+1,.cons q t=>.cons q (Vals.set r i t)
theorem Vals.append:∀{xs ys:Ζ}{us ws:Θ},Vals xs us->Vals ys ws->Vals (xs++ys) (us++ws)
 |_,_,_,_,.nil,s=>s
 |_,_,_,_,.cons r t,s=>.cons r (Vals.append t s)
theorem Vals.take:∀{xs:Ζ}{us:Θ}(n:Nat),Vals xs us->Vals (xs.take n) (us.take n)
 |_,_,0,_=>.nil
 |_,_,_+1,.nil=>.nil
 |_,_,n+1,.cons r t=>.cons r (Vals.take n t)
theorem Vals.drop:∀{xs:Ζ}{us:Θ}(n:Nat),Vals xs us->Vals (xs.drop n) (us.drop n)
 |_,_,0,r=>r
 |_,_,_+1,.nil=>.nil
 |_,_,n+1,.cons _ t=>Vals.drop n t
def xM:Option V->Ω->Prop
 |some v,some u=>RelV v u
 |none,none=>True
 |_,_=>False
def KV{κ:Type} : List (κ×V)->List (κ×Value)->Prop:=Paired λ(p:κ×V)(q:κ×Value)=>p.1=q.1/\RelV p.2 q.2
noncomputable def kV:Key->V
 |.inl i=>.int i
 |.inr x=>.str x
inductive HO where
  |lst (xs:Ζ)
  |tup (xs:Ζ)
  |dK (kvs:List (Key×V))
  |set (S:Int->Bool) (n:Nat)
  |ins (C dx:Addr) (fs:List (Str×V))
  |own (x:Addr)
  |xd (fs:List (Str×V))
  |met (f x:Addr)
  |rng (lo hi:Int)
  |frz (o:Obj) (u:HO)
  |tbl (ps:Array Value)
  |ext (φ:Heap->Prop)
noncomputable abbrev Hp:=Addr->Option HO
noncomputable def upd(H:Hp)(a:Addr)(o:HO):Hp:=λb=>if b=a then some o else H b
theorem cF{H:Hp}{a:Addr}{o:HO} : upd H a o a=some o:=by unfold upd;rw[ZY rfl]
theorem cC{H:Hp}{a b:Addr}{o:HO}(h:b≠a):upd H a o b=H b:=by unfold upd;rw[ZZ h]
theorem agw{H:Hp}{a b:Addr}{o u:HO}(h:H a=some o)(h':H b=some u)(d:o≠u):a≠b:=by
 intro e;subst e;rw[h]at h';exact d (Option.some.inj h')
theorem lC{H:Hp}{a b:Addr}{o:HO}(h:H a=some o)(h':H b=none):a≠b:=by
 intro e;subst e;rw[h]at h';cases h'
section
variable(P:Program)(w:World)
def fQ(H:Hp)(h:Heap)(a:Addr):HO->Prop
 |.lst xs=>xs.length<=sizeLine/\∃(its:Θ)(n:Nat),Vals xs its/\h.get? a=some { cls:=.type "list",data:=.seq its.toArray n }
 |.tup xs=>xs.length<=sizeLine/\∃its:Θ,Vals xs its/\IsTup h a its.toArray
 |.dK kvs=>kvs.length<=sizeLine/\(a==sysModules)=false/\∃vs,KV kvs vs/\h.DictOf (iu P w) a vs
 |.set S n=>h.SetOf (intKind P w) a S n
 |.ins C dx fs=>H dx=some (.own a)/\fs.length<=1000/\dx≠a/\h.get? a=some (instObj C dx) /\
   ∃mA,h.Ns1 dx mA/\(∀f,xM (fs.lookup f) (mA f))/\PySem.Within mA (fs.map (·.1))
 |.own _=>∃o,h.get? a=some o
 |.xd fs=>∃mA,h.Ns1 a mA/\∀f,xM (fs.lookup f) (mA f)
 |.rng lo hi=>∃t u v,h.get? a=some { cls:=.type "range",data:=.fields #[.int lo t,.int hi u,.int 1 v] }
 |.frz o u=>h.get? a=some o/\fQ H h a u
 |.tbl ps=>h.get? a=some { cls:=.none,data:=.fields ps }
 |.met f x=>h.get? a=some (methodObj (.ref f) (.ref x))
 |.ext φ=>φ h/\(∃o,h.get? a=some o)/\∀h1 h2:Heap,φ h1->(∀o,h1.get? a=some o->h2.get? a=some o)->φ h2
def HOk(H:Hp)(h:Heap):Prop:=∀a o,H a=some o->fQ P w H h a o
end
section
variable{P:Program}{w:World}{H H':Hp}{h h':Heap}{a:Addr}{o:HO}
theorem fQ.lt(x:fQ P w H h a o):a<h.objs.size:=by
 cases o with
 |lst xs=>obtain⟨_,_,_,_,e⟩:=x;exact aK e
 |tup xs=>obtain⟨_,_,_,p⟩:=x;exact p.lt
 |dK kvs=>obtain⟨_,_,_,_,o,_,_,e,_⟩:=x;exact aK e
 |set S n=>obtain⟨o,_,_,_,e,_⟩:=x;exact aK e
 |ins C dx fs=>obtain⟨_,_,_,e,_⟩:=x;exact aK e
 |own y=>obtain⟨_,e⟩:=x;exact aK e
 |xd fs=>obtain⟨_,⟨_,_,_,e,_⟩,_⟩:=x;exact aK e
 |rng lo hi=>obtain⟨_,_,_,e⟩:=x;exact aK e
 |frz ob u=>obtain⟨e,_⟩:=x;exact aK e
 |tbl ps=>exact aK (show h.get? a=some _ from x)
 |met f y=>exact aK (show h.get? a=some _ from x)
 |ext φ=>obtain⟨_,⟨_,e⟩,_⟩:=x;exact aK e
theorem fQ.stay(x:fQ P w H h a o)(k:∀b u,(b=a\/H b=some (.own a))->h.get? b=some u->h'.get? b=some u)
 (ho:∀b,H b=some (.own a)->H' b=some (.own a))(ht:∀b xs,H b=some (.tup xs)->H' b=some (.tup xs)):fQ P w H' h' a o:=by
 induction o with
 |lst xs=>obtain⟨z,its,n,r,e⟩:=x;exact⟨z,its,n,r,k _ _ (.inl rfl) e⟩
 |tup xs=>obtain⟨z,its,r,ob,e,c⟩:=x;exact⟨z,its,r,ob,k _ _ (.inl rfl) e,c⟩
 |dK kvs=>obtain⟨z,y,vs,r,ob,es,ep,e,c⟩:=x;exact⟨z,y,vs,r,ob,es,ep,k _ _ (.inl rfl) e,c⟩
 |set S n=>obtain⟨ob,es,ep,t,e,c⟩:=x;exact⟨ob,es,ep,t,k _ _ (.inl rfl) e,c⟩
 |ins C dx fs =>
  obtain⟨d,z,ne,e,mA,⟨od,es,ep,e2,c⟩,r⟩:=x;exact⟨ho _ d,z,ne,k _ _ (.inl rfl) e,mA,⟨od,es,ep,k _ _ (.inr d) e2,c⟩,r⟩
 |own y=>obtain⟨ob,e⟩:=x;exact⟨ob,k _ _ (.inl rfl) e⟩
 |xd fs=>obtain⟨mA,⟨od,es,ep,e,c⟩,r⟩:=x;exact⟨mA,⟨od,es,ep,k _ _ (.inl rfl) e,c⟩,r⟩
 |rng lo hi=>obtain⟨t,u,v,e⟩:=x;exact⟨t,u,v,k _ _ (.inl rfl) e⟩
 |frz ob u ih=>obtain⟨e,q⟩:=x;exact⟨k _ _ (.inl rfl) e,ih q⟩
 |tbl ps =>
  have e:h.get? a=some { cls:=.none,data:=.fields ps }:=x;show h'.get? a=some { cls:=.none,data:=.fields ps };exact k a _ (.inl rfl) e
 |met f y =>
  have e:h.get? a=some (methodObj (.ref f) (.ref y)):=x;show h'.get? a=some (methodObj (.ref f) (.ref y));exact k a _ (.inl rfl) e
 |ext φ=>obtain⟨p,⟨o,e⟩,st⟩:=x;exact⟨st _ _ p λo q=>k _ _ (.inl rfl) q,⟨o,k _ _ (.inl rfl) e⟩,st⟩
theorem HOk.lt(x:HOk P w H h)(e:H a=some o):a<h.objs.size:=(x a o e).lt
theorem HOk.fresh(x:HOk P w H h)(e:h.objs.size<=a):H a=none:=by
 cases q:H a with
 |none=>rfl
 |some u=>exact absurd (aR (x.lt q) e) (X2 _)
theorem HOk.kept(x:HOk P w H h)(k:∀b u,h.get? b=some u->h'.get? b=some u):HOk P w H h':=λa o e =>
 (x a o e).stay (λb u _ q=>k b u q) (λ_ q=>q) λ_ _ q=>q
theorem HOk.laid(x:HOk P w H h)(k:∀b u,h.get? b=some u->h'.get? b=some u)(hp:h.objs.size<=a)(new:fQ P w (upd H a o) h' a o):HOk P w (upd H a o) h':=λb u e=>by
 have hn:=x.fresh hp;by_cases hb:b=a
 .subst hb;rw[cF]at e;cases e;exact new
 .rw[cC hb]at e;exact(x b u e).stay (λc v _ q=>k c v q) (λc q=>by rw[cC (lC q hn)];exact q) λc xs q=>by rw[cC (lC q hn)];exact q
end
def Rd(H:Hp)(a:Addr)(u:HO):Prop:=H a=some u\/∃o,H a=some (.frz o u)
theorem Rd.ok{P:Program}{w:World}{H:Hp}{h:Heap}{a:Addr}{u:HO}(r:Rd H a u)(x:HOk P w H h):fQ P w H h a u:=by
 rcases r with r|⟨o,r⟩
 .exact x a u r
 .obtain⟨_,q⟩:=x a _ r;exact q
def Mut:Option HO->Prop
 |some (.lst _)=>True
 |some (.dK _)=>True
 |some (.set _ _)=>True
 |some (.ins _ _ _)=>True
 |some (.ext _)=>True
 |_=>False
section
variable{P:Program}{w:World}{H:Hp}{h h':Heap}{x e:Addr}{o':HO}
theorem HOk.write(ok:HOk P w H h)(mu:Mut (H x))(he:e=x\/H e=some (.own x))(k:∀b u,b≠e->h.get? b=some u->h'.get? b=some u)(heo:∃u,h'.get? e=some u)
 (new:fQ P w (upd H x o') h' x o'):HOk P w (upd H x o') h':=λb u q=>by
 have nown:∀c y,H c=some (.own y)->c≠x:=λc y r z=>by subst z;rw[r]at mu;exact mu
 have ntup:∀c xs,H c=some (.tup xs)->c≠x:=λc xs r z=>by subst z;rw[r]at mu;exact mu
 by_cases hb:b=x
 .subst hb;rw[cF]at q;cases q;exact new
 .rw[cC hb]at q;by_cases hbe:b=e
  .have q':H b=some (.own x):=by
    rcases he with z|z
    .exact absurd (hbe.trans z) hb
    .rw[hbe];exact z
   rw[q]at q';cases q';obtain⟨v,hv⟩:=heo;exact⟨v,by rw[hbe];exact hv⟩
  .refine(ok b u q).stay (λc v hc r=>k c v ?_ r) (λc r=>by rw[cC (nown c b r)];exact r) λc xs r=>by rw[cC (ntup c xs r)];exact r
   rcases hc with rfl|hc
   .exact hbe
   .rintro rfl;rcases he with z|z
    .exact nown c b hc z
    .rw[hc]at z;cases z;exact hb rfl
end
structure Un(fs ex:Ψ)(H H':Hp)(h h':Heap):Prop where
 keep:∀b o,h.get? b=some o->H b=none->b∉fs->b∉ex->h'.get? b=some o
 slot:∀b o,h.get? b=some o->H b=none->b∈fs->b∉ex->∃sl,h'.get? b=some { o with slots:=sl }
 free:∀b o,h.get? b=some o->H b=none->b∉ex->H' b=none
 there:∀b o,h.get? b=some o->b∉ex->∃o',h'.get? b=some o'
 tups:∀b xs,H b=some (.tup xs)->H' b=some (.tup xs)
 frzs:∀b o u,H b=some (.frz o u)->H' b=some (.frz o u)
 tbls:∀b ps,H b=some (.tbl ps)->∃more,H' b=some (.tbl (ps++more))
section
variable{fs fs' ex ex':Ψ}{H H1 H2:Hp}{h h1 h2 h':Heap}{a x e:Addr}{o:HO}
theorem Un.any(u:Un fs ex H H1 h h1){b:Addr}{ob:Obj}(q:h.get? b=some ob)(n:H b=none)(hx:b∉ex):∃sl,h1.get? b=some { ob with slots:=sl }:=by
 by_cases hb:b∈fs
 .exact u.slot b ob q n hb hx
 .exact⟨ob.slots,u.keep b ob q n hb hx⟩
theorem Un.kept(k:∀b u,h.get? b=some u->h'.get? b=some u):Un fs ex H H h h' :=
 ⟨λb ob q _ _ _=>k b ob q,λb ob q _ _ _=>⟨ob.slots,k b ob q⟩,λ_ _ _ n _=>n,λb ob q _=>⟨ob,k b ob q⟩,λ_ _ q=>q,λ_ _ _ q=>q,λ_ ps q=>⟨#[],by rw[q];simp⟩⟩
theorem Un.refl:Un fs ex H H h h:=Un.kept λ_ _ q=>q
theorem Un.laid(k:∀b u,h.get? b=some u->h'.get? b=some u)(hp:h.objs.size<=a)(hn:H a=none):Un fs ex H (upd H a o) h h' where
 keep:=λb u q _ _ _=>k b u q
 slot:=λb u q _ _ _=>⟨u.slots,k b u q⟩
 free:=λb u q n _=>by rw[cC (aQ (aR (aK q) hp))];exact n
 there:=λb u q _=>⟨u,k b u q⟩
 tups:=λb xs q=>by rw[cC (lC q hn)];exact q
 frzs:=λb u xs q=>by rw[cC (lC q hn)];exact q
 tbls:=λb ps q=>⟨#[],by rw[cC (lC q hn),q];simp⟩
theorem Un.write(mu:Mut (H x))(he:e=x\/H e=some (.own x))(k:∀b u,b≠e->h.get? b=some u->h'.get? b=some u)(heo:∃u,h'.get? e=some u):Un fs ex H (upd H x o) h h':=by
 have hx:∀b,H b=none->b≠x:=λb n z=>by subst z;rw[n]at mu;exact mu
 have hb:∀b,H b=none->b≠e:=λb n z=>by
  subst z;rcases he with r|r
  .exact hx b n r
  .rw[n]at r;cases r
 have hm:∀b u,H b=some u->¬Mut (some u)->b≠x:=λb u q nm z=>by subst z;rw[q]at mu;exact nm mu
 refine⟨λb u q n _ _=>k b u (hb b n) q,λb u q n _ _=>⟨u.slots,k b u (hb b n) q⟩,λb u q n _=>by rw[cC (hx b n)];exact n,λb u q _=>?_,
  λb xs q=>by rw[cC (hm b _ q λz=>z)];exact q,λb u xs q=>by rw[cC (hm b _ q λz=>z)];exact q,λb ps q=>⟨#[],by rw[cC (hm b _ q λz=>z),q];simp⟩⟩
 by_cases hbe:b=e
 .subst hbe;exact heo
 .exact⟨u,k b u hbe q⟩
end
noncomputable def trk(h:Heap)(H:Hp):Ψ:=(List.range h.objs.size).filter λa=>(H a).isSome
def Np(h:Heap)(H:Hp):Heap:=PySem.W.hideAll h (trk h H)
theorem V9(h:Heap)(H:Hp):(Np h H).objs.size=h.objs.size:=PySem.W.hideAll_size _ _
theorem Xq{h:Heap}{H:Hp}{b:Addr}{o:Obj}(e:h.get? b=some o)(n:H b=none):(Np h H).get? b=some o :=
 PySem.W.hideAll_get _ e λhm=>by
  have q:(H b).isSome=true:=(List.mem_filter.mp hm).2;rw[n]at q;simp at q
theorem aaU{h:Heap}{H:Hp}{b:Addr}{o:Obj}(e:(Np h H).get? b=some o):h.get? b=some o/\H b=none:=by
 have e':h.get? b=some o:=PySem.W.of_hideAll (trk h H) e;refine⟨e',?_⟩;cases q:H b with
 |none=>rfl
 |some x =>
  have hm:b∈trk h H:=List.mem_filter.mpr ⟨List.mem_range.mpr (aK e'),by simp[q]⟩;have z:(Np h H).get? b=none:=PySem.W.hideAll_none (trk h H) hm;rw[z]at e;cases e
noncomputable def aaW(g h:Heap)(L:Addr):Δ:=(List.range h.objs.size).filterMap λa=>if a=L\/(g.get? a).isSome=true then none else(h.get? a).map λo=>(a,o)
def rest(g h:Heap)(L d:Addr):Δ:=(aaW g h L).filter λp=>decide (p.1≠d)
structure Mod(K:Frag)(mg:Str->Ω)(base:Heap):Prop where
 kin:K.In base
 glob:base.Ns mainGlobals mg
 blt:∃mb,base.Ns builtinsNs mb/\∀x:Str,x≠"__name__"->mb x=bootBuiltins x
 nolimit:base.NoLimit
structure Cx where
 prog:Program
 w:World
 K:Frag
 mg:Str->Ω
 base:Heap
 A:Around
 N:Φ
 s₀:Shared
 H₀:Hp
 env:Env
 outer:List Env
 stack:List Env
 ex:Ψ
 fn:Str->Bool
 calm:Bool
 pn:Δ
 xe:Ε
noncomputable def frs(l:List Env):Ψ:=l.filterMap (·.frame)
abbrev Cx.fs(X:Cx):Ψ:=frs X.outer
def Vis(sc:Scope)(x:Str):Prop:=sc.names.lookup x=some .local\/sc.names.lookup x=some .cell\/sc.names.lookup x=some .free
def Loc(sc:Scope)(x:Str):Prop:=sc.names.lookup x=some .local\/sc.names.lookup x=some .cell
def Look(env:Env)(h:Heap)(m:Str->Ω)(x:Str)(u:Value):Prop :=
 (env.kindOf x=some .local/\m x=some u)\/((env.kindOf x=some .cell\/env.kindOf x=some .free)/\∃c,env.cells.lookup x=some c/\h.IsCell c (some u))
structure Cx.Ok(X:Cx):Prop where
 mod:Mod X.K X.mg X.base
 kind:X.env.scope.kind=.function
 glob:X.env.globals=mainGlobals
 blt:X.env.builtins=builtinsNs
 above:X.s₀.heap.objs.size<=X.env.locals
 inj:∀x y c,X.env.cells.lookup x=some c->X.env.cells.lookup y=some c->x=y
 has:∀x,(X.env.kindOf x=some .cell\/X.env.kindOf x=some .free)->∃c,X.env.cells.lookup x=some c
 cab:∀x c,X.fn x=true->X.env.cells.lookup x=some c->X.s₀.heap.objs.size<=c
 hd:X.calm=true->X.A.handled=none
 frames:X.A.frames=some X.stack
 stk:X.stack=X.outer\/(X.stack=X.env::X.outer/\X.env.frame=some X.env.locals)
 exf:∀b∈X.ex,b≠X.env.locals/\∀x c,X.env.cells.lookup x=some c->c≠b
 bs:∀b o,X.base.get? b=some o->X.s₀.heap.get? b=some o/\X.H₀ b=none
 bsz:X.base.objs.size<=X.s₀.heap.objs.size
 noex:∀b o,X.base.get? b=some o->b∉X.ex
 exfs:∀b∈X.ex,b∉X.fs
 funs:X.s₀.heap.FunFrames X.base X.outer
 frf:∀b∈X.fs,X.H₀ b=none
structure Inv(X:Cx)(pins:Δ)(σ:List (Option V))(H:Hp)(s:Shared):Prop where
 ok:X.Ok
 os:s.os=X.s₀.os
 bare:AllBare s.gens
 base:Un X.fs X.ex X.H₀ H X.s₀.heap s.heap
 loc:∃m,s.heap.Ns X.env.locals m/\∀(i:Nat)(x:Str)(v:V),X.N[i]?=some x->σ[i]?=some (some v)->Vis X.env.scope x->∃u,RelV v u/\Look X.env s.heap m x u
 cell:∀x c,X.env.cells.lookup x=some c->∃v,s.heap.IsCell c v
 free:H X.env.locals=none
 freeC:∀x c,X.env.cells.lookup x=some c->H c=none
 pin:∀p∈X.pn++pins,s.heap.get? p.1=some p.2/\H p.1=none/\p.1≠X.env.locals/\p.1∉X.fs/\∀v,p.2.data≠.cell v
 hok:HOk X.prog X.w H s.heap
 len:σ.length=X.N.length
section
variable{X:Cx}{pins:Δ}{σ:List (Option V)}{H H':Hp}{s:Shared}{h':Heap}
theorem Cx.Ok.nofr(ok:X.Ok){b:Addr}{o:Obj}(e:X.base.get? b=some o):b∉X.fs:=λhb=>by
 have:=(ok.funs.mem hb).1;rw[e]at this;cases this
theorem Inv.bs(I:Inv X pins σ H s):∀b o,X.base.get? b=some o->s.heap.get? b=some o/\H b=none:=λb o e =>
 ⟨I.base.keep b o (I.ok.bs b o e).1 (I.ok.bs b o e).2 (I.ok.nofr e) (I.ok.noex b o e),I.base.free b o (I.ok.bs b o e).1 (I.ok.bs b o e).2 (I.ok.noex b o e)⟩
theorem Inv.bk(I:Inv X pins σ H s):∀b o,X.base.get? b=some o->s.heap.get? b=some o:=λb o e=>(I.bs b o e).1
theorem Inv.mod(I:Inv X pins σ H s):Mod X.K X.mg X.base:=I.ok.mod
theorem Inv.kIn(I:Inv X pins σ H s):X.K.In s.heap:=I.ok.mod.kin.keeps I.bk
theorem Inv.lt(I:Inv X pins σ H s):X.env.locals<s.heap.objs.size:=by obtain⟨_,hn,_⟩:=I.loc;exact hn.lt
theorem Inv.sz(I:Inv X pins σ H s):X.s₀.heap.objs.size<=s.heap.objs.size:=aL I.ok.above (Y2 I.lt)
theorem Inv.nofs(I:Inv X pins σ H s){a:Addr}(h:s.heap.objs.size<=a):a∉X.fs:=λhb=>by
 obtain⟨_,o,ho,_⟩:=I.ok.funs.mem hb;exact absurd (aR (aK ho) (aL I.sz h)) (X2 _)
theorem Inv.cne(I:Inv X pins σ H s):∀x c,X.env.cells.lookup x=some c->c≠X.env.locals:=λx c e z=>by
 obtain⟨v,o,ho,hd⟩:=I.cell x c e;obtain⟨m,⟨o',es,ep,ho',hd',_⟩,_⟩:=I.loc;rw[z,ho']at ho;cases ho;rw[hd']at hd;cases hd
theorem Inv.funs(I:Inv X pins σ H s):s.heap.FunFrames X.base X.outer:=by
 have all:∀(l:List Env),(∀b∈frs l,b∈X.fs)->X.s₀.heap.FunFrames X.base l->s.heap.FunFrames X.base l:=by
  intro l
  induction l with
  |nil=>intro _ _;trivial
  |cons env r ih =>
   intro hs hl;obtain⟨hk,⟨L,o,hf,hn,ho,hd⟩,hr⟩:=hl;have hL:L∈X.fs:=hs L (by unfold frs;rw[List.filterMap_cons,hf];exact aO);obtain⟨sl,e⟩:=I.base.slot L o ho (I.ok.frf L hL) hL λz=>I.ok.exfs L z hL;exact⟨hk,⟨L,_,hf,hn,e,hd⟩,ih (λb hb=>hs b (by unfold frs;rw[List.filterMap_cons,hf];exact aJ _ hb)) hr⟩
 exact all X.outer (λ_ hb=>hb) I.ok.funs
theorem Inv.stack(I:Inv X pins σ H s):s.heap.FunFrames X.base X.stack:=by
 rcases I.ok.stk with e|⟨e,hf⟩
 .rw[e];exact I.funs
 .rw[e];obtain⟨m,hn,_⟩:=I.loc;refine .cons (by rw[I.ok.kind];decide) hf hn ?_ I.funs;exact Heap.get?_none_of_le (aL I.ok.bsz I.ok.above)
theorem Inv.stkSub(I:Inv X pins σ H s):∀b∈frs X.stack,b∈X.env.locals::X.fs:=λb hb=>by
 rcases I.ok.stk with e|⟨e,hf⟩
 .rw[e]at hb;exact aJ _ hb
 .rw[e]at hb;unfold frs at hb;rw[List.filterMap_cons,hf]at hb;exact hb
theorem Inv.stkFree(I:Inv X pins σ H s):∀b∈frs X.stack,H b=none:=λb hb=>by
 rcases YU.mp (I.stkSub b hb)with e|hb
 .rw[e];exact I.free
 .obtain⟨_,o,ho,_⟩:=I.ok.funs.mem hb;exact I.base.free b o ho (I.ok.frf b hb) λz=>I.ok.exfs b z hb
theorem Inv.step{g':Array GenState}{t':Nat}{d':Drawn}{ch:Ψ}(I:Inv X pins σ H s)
 (hch:∀b∈ch,(b∈X.ex\/X.s₀.heap.objs.size<=b)/\b≠X.env.locals/\(∀x c,X.env.cells.lookup x=some c->c≠b)/\∀p∈X.pn++pins,p.1≠b)
 (keep:∀b o,b≠X.env.locals->b∉X.fs->b∉ch->s.heap.get? b=some o->H b=none->h'.get? b=some o)
 (slot:∀b o,b≠X.env.locals->b∈X.fs->b∉ch->s.heap.get? b=some o->H b=none->∃sl,h'.get? b=some { o with slots:=sl })(free:∀b o,b∉ch->s.heap.get? b=some o->H b=none->H' b=none)
 (there:∀b o,b∉ch->s.heap.get? b=some o->∃o',h'.get? b=some o')
 (tups:∀b xs,H b=some (.tup xs)->H' b=some (.tup xs))(frzs:∀b o u,H b=some (.frz o u)->H' b=some (.frz o u))(tbls:∀b ps,H b=some (.tbl ps)->∃more,H' b=some (.tbl (ps++more)))
 (ns:∀m,s.heap.Ns X.env.locals m->h'.Ns X.env.locals m)(hok:HOk X.prog X.w H' h')(hg:AllBare g') :
  Inv X pins σ H' { s with heap:=h',gens:=g',drawn:=d',toks:=t' }:=by
 have neL:∀b o,X.s₀.heap.get? b=some o->b≠X.env.locals:=λb o e=>aQ (aR (aK e) I.ok.above);have neC:∀b o,X.s₀.heap.get? b=some o->b∉X.ex->b∉ch:=λb o e hx hb=>by
  rcases(hch b hb).1 with z|z
  .exact hx z
  .exact absurd (aR (aK e) z) (X2 _)
 have cellK:∀x c,X.env.cells.lookup x=some c->∀v,s.heap.IsCell c v->h'.IsCell c v:=λx c e v hP=>by
  obtain⟨o,ho,hd⟩:=hP;have nch:c∉ch:=λz=>(hch c z).2.2.1 x c e rfl;by_cases hc:c∈X.fs
  .obtain⟨sl,q⟩:=slot c o (I.cne x c e) hc nch ho (I.freeC x c e);exact⟨_,q,hd⟩
  .exact⟨o,keep c o (I.cne x c e) hc nch ho (I.freeC x c e),hd⟩
 refine⟨I.ok,I.os,hg,⟨λb o e n hb hx=>?_,λb o e n hb hx=>?_,λb o e n hx=>?_,λb o e hx=>?_,λb xs e=>tups b xs (I.base.tups b xs e),λb o xs e=>frzs b o xs (I.base.frzs b o xs e),λb ps e=>?_⟩,?_,λx c e=>?_,?_,λx c e=>?_,λp hp=>?_,hok,I.len⟩
 .exact keep b o (neL b o e) hb (neC b o e hx) (I.base.keep b o e n hb hx) (I.base.free b o e n hx)
 .obtain⟨sl,e1⟩:=I.base.slot b o e n hb hx;obtain⟨sl',e2⟩:=slot b _ (neL b o e) hb (neC b o e hx) e1 (I.base.free b o e n hx);exact⟨sl',e2⟩
 .obtain⟨o',e1⟩:=I.base.there b o e hx;exact free b o' (neC b o e hx) e1 (I.base.free b o e n hx)
 .obtain⟨o',e1⟩:=I.base.there b o e hx;exact there b o' (neC b o e hx) e1
 .obtain⟨m1,e1⟩:=I.base.tbls b ps e;obtain⟨m2,e2⟩:=tbls b _ e1;exact⟨m1++m2,by rw[e2,Array.append_assoc]⟩
 .obtain⟨m,hn,hl⟩:=I.loc;refine⟨m,ns m hn,λi x v e1 e2 e3=>?_⟩;obtain⟨u,r,l⟩:=hl i x v e1 e2 e3;refine⟨u,r,?_⟩;rcases l with l|⟨k,c,e,z⟩
  .exact .inl l
  .exact .inr ⟨k,c,e,cellK x c e _ z⟩
 .obtain⟨v,z⟩:=I.cell x c e;exact⟨v,cellK x c e v z⟩
 .obtain⟨m,⟨o,_,_,ho,_⟩,_⟩:=I.loc;exact free _ o (λz=>(hch _ z).2.1 rfl) ho I.free
 .obtain⟨v,o,ho,hd⟩:=I.cell x c e;exact free c o (λz=>(hch c z).2.2.1 x c e rfl) ho (I.freeC x c e)
 .obtain⟨e,n,ne,nf,d⟩:=I.pin p hp;have nch:p.1∉ch:=λz=>(hch p.1 z).2.2.2 p hp rfl;exact⟨keep p.1 p.2 ne nf nch e n,free p.1 p.2 nch e n,ne,nf,d⟩
theorem Inv.un{t':Nat}(I:Inv X pins σ H s)(u:Un X.fs [] H H' s.heap h')(hok:HOk X.prog X.w H' h'):Inv X pins σ H' { s with heap:=h',toks:=t' }:=by
 obtain⟨m,⟨o,es,ep,ho,r⟩,_⟩:=id I.loc;obtain⟨sl,hL⟩:=u.any ho I.free (by simp);exact I.step (g':=s.gens) (d':=s.drawn) (ch:=[]) (λ_ z=>nomatch z) (λb o _ hb _ e n=>u.keep b o e n hb (by simp)) (λb o _ hb _ e n=>u.slot b o e n hb (by simp)) (λb o _ e n=>u.free b o e n (by simp)) (λb o _ e=>u.there b o e (by simp)) u.tups u.frzs u.tbls (λm' hm=>by
  obtain⟨o',es',ep',ho',r'⟩:=hm;rw[ho]at ho';cases ho';exact⟨_,es',ep',hL,r'⟩) hok I.bare
theorem Inv.call{g':Array GenState}{t':Nat}{d':Drawn}{ch:Ψ}(I:Inv X pins σ H s)(u:Un (frs X.stack) ch H H' s.heap h')(hok:HOk X.prog X.w H' h')(hg:AllBare g')
 (hch:∀b∈ch,(b∈X.ex\/X.s₀.heap.objs.size<=b)/\b≠X.env.locals/\(∀x c,X.env.cells.lookup x=some c->c≠b)/\∀p∈X.pn++pins,p.1≠b) :
  Inv X pins σ H' { s with heap:=h',gens:=g',drawn:=d',toks:=t' }:=by
 obtain⟨m,⟨o,es,ep,ho,r⟩,_⟩:=id I.loc;obtain⟨sl,hL⟩:=u.any ho I.free λz=>(hch _ z).2.1 rfl;exact I.step (ch:=ch) hch (λb o hL hb hc e n=>u.keep b o e n (λz=>(YU.mp (I.stkSub b z)).elim hL hb) hc) (λb o _ _ hc e n=>u.any e n hc) (λb o hc e n=>u.free b o e n hc) (λb o hc e=>u.there b o e hc) u.tups u.frzs u.tbls (λm' hm=>by
  obtain⟨o',es',ep',ho',r'⟩:=hm;rw[ho]at ho';cases ho';exact⟨_,es',ep',hL,r'⟩) hok hg
theorem Inv.turned{t':Nat}{it:Addr}(I:Inv X pins σ H s)(k:∀b o,b≠it->s.heap.get? b=some o->h'.get? b=some o)(hn:H it=none)(hL:it≠X.env.locals)
 (h1:it∈X.ex\/X.s₀.heap.objs.size<=it)(h2:∀x c,X.env.cells.lookup x=some c->c≠it)(h3:∀p∈X.pn++pins,p.1≠it):Inv X pins σ H { s with heap:=h',toks:=t' }:=by
 have nit:∀b u,H b=some u->b≠it:=λb u e z=>by rw[z,hn]at e;cases e
 refine I.step (g':=s.gens) (d':=s.drawn) (ch:=[it]) (λb hb=>?_) (λb o _ _ hc e _=>k b o (λz=>hc (by simp[z])) e) (λb o _ _ hc e _=>⟨o.slots,k b o (λz=>hc (by simp[z])) e⟩) (λ_ _ _ _ n=>n)
  (λb o hc e=>⟨o,k b o (λz=>hc (by simp[z])) e⟩) (λ_ _ e=>e) (λ_ _ _ e=>e) (λb ps e=>⟨#[],by rw[e];simp⟩) (λm hm=>?_) (λb u e=>?_) I.bare
 .have e:b=it:=by simpa using hb
  subst e;exact⟨h1,hL,h2,h3⟩
 .obtain⟨o,es,ep,ho,r⟩:=hm;exact⟨o,es,ep,k _ o (Ne.symm hL) ho,r⟩
 .refine(I.hok b u e).stay (λc v hc q=>k c v ?_ q) (λ_ q=>q) λ_ _ q=>q;rcases hc with z|z
  .rw[z];exact nit b u e
  .exact nit c _ z
theorem Inv.tok(I:Inv X pins σ H s)(t:Nat):Inv X pins σ H { s with toks:=t }:=I.un (h':=s.heap) (t':=t) Un.refl I.hok
theorem Inv.kept{t':Nat}(I:Inv X pins σ H s)(k:∀b u,s.heap.get? b=some u->h'.get? b=some u):Inv X pins σ H { s with heap:=h',toks:=t' }:=I.un (Un.kept k) (I.hok.kept k)
theorem Inv.laid{a:Addr}{o:HO}{t':Nat}(I:Inv X pins σ H s)(k:∀b u,s.heap.get? b=some u->h'.get? b=some u)(hp:s.heap.objs.size<=a)(new:fQ X.prog X.w (upd H a o) h' a o) :
  Inv X pins σ (upd H a o) { s with heap:=h',toks:=t' }:=I.un (Un.laid k hp (I.hok.fresh hp)) (I.hok.laid k hp new)
theorem Inv.write{x e:Addr}{o:HO}{t':Nat}(I:Inv X pins σ H s)(mu:Mut (H x))(he:e=x\/H e=some (.own x))(k:∀b u,b≠e->s.heap.get? b=some u->h'.get? b=some u)(heo:∃u,h'.get? e=some u)
 (new:fQ X.prog X.w (upd H x o) h' x o):Inv X pins σ (upd H x o) { s with heap:=h',toks:=t' }:=I.un (Un.write mu he k heo) (I.hok.write mu he k heo new)
theorem Inv.pins_of{pins':Δ}(I:Inv X pins σ H s)(h:∀p∈pins',s.heap.get? p.1=some p.2/\H p.1=none/\p.1≠X.env.locals/\p.1∉X.fs/\∀v,p.2.data≠.cell v):Inv X pins' σ H s :=
 ⟨I.ok,I.os,I.bare,I.base,I.loc,I.cell,I.free,I.freeC,λp hp=>(Y1.mp hp).elim (λz=>I.pin p (List.mem_append_left _ z)) (h p),I.hok,I.len⟩
theorem O9{N:Φ}(hN:N.Nodup){i j:Nat}{x:Str}(a:N[i]?=some x)(b:N[j]?=some x):i=j:=by
 obtain⟨h1,e1⟩:=ao.mp a;obtain⟨h2,e2⟩:=ao.mp b;exact(List.getElem_inj hN).mp (e1.trans e2.symm)
theorem Vq{M:Model}{A:Around}{E:Ε}{i:Nat}{x:Str}{v:V}{u:Value}{Q:Unit->Shared->Prop}(I:Inv X pins σ H s)(hN:X.N.Nodup)(hi:X.N[i]?=some x)(hx:Loc X.env.scope x)(r:RelV v u)
 (h:∀s',Inv X pins (σ.set i (some v)) H s'->(∃a,Heap.SameBut a s.heap s'.heap/\(a=X.env.locals\/X.env.cells.lookup x=some a))->Q () s')(hf:X.fn x=true\/X.env.scope.names.lookup x=some .local):wpAny M A (storeName X.env x u) Q E s:=by
 obtain⟨m,hn,hl⟩:=id I.loc;have hcls:(X.env.scope.kind == .class || (X.env.scope.kind == .module&&X.env.locals != X.env.globals))=false:=by rw[I.ok.kind];rfl
 have hiσ:i<σ.length:=by rw[I.len];exact(ao.mp hi).1
 have cne:=I.cne;have tracked:∀{a:Addr}{h':Heap},(∃o,s.heap.get? a=some o/\H a=none)->Heap.SameBut a s.heap h'->HOk X.prog X.w H h':=λ{a h'}ha hs b ob e=>by
  obtain⟨_,_,hfree⟩:=ha;refine(I.hok b ob e).stay (λc w' hc q=>(hs.2 c ?_).trans q) (λ_ q=>q) λ_ _ q=>q;rintro rfl;rcases hc with rfl|hc
  .rw[hfree]at e;cases e
  .rw[hfree]at hc;cases hc
 rcases hx with hk|hk
 .refine wpAny_storeName_local hk hn (λh' hn' hs=>?_) hcls;obtain⟨oL,_,_,hoL,_⟩:=id hn;refine h _ ⟨I.ok,I.os,I.bare,⟨λb o e n hb hx=>?_,λb o e n hb hx=>?_,I.base.free,λb o e hx=>?_,I.base.tups,I.base.frzs,I.base.tbls⟩,⟨_,hn',λj y v' e1 e2 e3=>?_⟩,λy c e=>?_,I.free,I.freeC,λp hp=>?_,tracked ⟨oL,hoL,I.free⟩ hs,by simpa using I.len⟩ ⟨_,hs,.inl rfl⟩
  .exact(hs.2 b (aQ (aR (aK e) I.ok.above))).trans (I.base.keep b o e n hb hx)
  .obtain⟨sl,e1⟩:=I.base.slot b o e n hb hx;exact⟨sl,(hs.2 b (aQ (aR (aK e) I.ok.above))).trans e1⟩
  .obtain⟨o',e1⟩:=I.base.there b o e hx;exact⟨o',(hs.2 b (aQ (aR (aK e) I.ok.above))).trans e1⟩
  .by_cases hj:j=i
   .subst hj;rw[hi]at e1;cases e1;rw[List.getElem?_set_self hiσ]at e2;cases e2;exact⟨u,r,.inl ⟨hk,by simp⟩⟩
   .rw[List.getElem?_set_ne (Ne.symm hj)]at e2;obtain⟨u',r',q⟩:=hl j y v' e1 e2 e3;refine⟨u',r',?_⟩;rcases q with⟨k,e⟩|⟨k,c,e,z⟩
    .refine .inl ⟨k,?_⟩;have:y≠x:=λe=>hj (O9 hN e1 (e ▸ hi));simp[this,e]
    .exact .inr ⟨k,c,e,z.sameBut hs (cne y c e)⟩
  .obtain⟨w',z⟩:=I.cell y c e;exact⟨w',z.sameBut hs (cne y c e)⟩
  .obtain⟨e,n,ne,nf,d⟩:=I.pin p hp;exact⟨(hs.2 p.1 ne).trans e,n,ne,nf,d⟩
 .have hfn:X.fn x=true:=by
   rcases hf with z|z
   .exact z
   .rw[z]at hk;cases hk
  obtain⟨c,hc⟩:=I.ok.has x (.inl hk);obtain⟨w',z⟩:=I.cell x c hc;refine wpAny_storeName_cell I.ok.kind hk hc z (λh' hc' hs=>?_);obtain⟨oc,hoc,hocd⟩:=id z;refine h { s with heap:=h' } ⟨I.ok,I.os,I.bare,⟨λb o e n hb hx=>?_,λb o e n hb hx=>?_,I.base.free,λb o e hx=>?_,I.base.tups,I.base.frzs,I.base.tbls⟩,⟨m,hn.sameBut hs (Ne.symm (cne x c hc)),λj y v' e1 e2 e3=>?_⟩,λy c' e=>?_,I.free,I.freeC,λp hp=>?_,tracked ⟨oc,hoc,I.freeC x c hc⟩ hs,by simpa using I.len⟩ ⟨c,hs,.inr hc⟩
  .exact(hs.2 b (aQ (aR (aK e) (I.ok.cab x c hfn hc)))).trans (I.base.keep b o e n hb hx)
  .obtain⟨sl,e1⟩:=I.base.slot b o e n hb hx;exact⟨sl,(hs.2 b (aQ (aR (aK e) (I.ok.cab x c hfn hc)))).trans e1⟩
  .obtain⟨o',e1⟩:=I.base.there b o e hx;exact⟨o',(hs.2 b (aQ (aR (aK e) (I.ok.cab x c hfn hc)))).trans e1⟩
  .by_cases hj:j=i
   .subst hj;rw[hi]at e1;cases e1;rw[List.getElem?_set_self hiσ]at e2;cases e2;exact⟨u,r,.inr ⟨.inl hk,c,hc,hc'⟩⟩
   .rw[List.getElem?_set_ne (Ne.symm hj)]at e2;obtain⟨u',r',q⟩:=hl j y v' e1 e2 e3;refine⟨u',r',?_⟩;rcases q with q|⟨k,c',e,z'⟩
    .exact .inl q
    .refine .inr ⟨k,c',e,z'.sameBut hs ?_⟩;rintro rfl;exact hj (O9 hN e1 (I.ok.inj _ _ _ e hc ▸ hi))
  .by_cases hcc:c'=c
   .subst hcc;exact⟨_,hc'⟩
   .obtain⟨w2,z2⟩:=I.cell y c' e;exact⟨w2,z2.sameBut hs hcc⟩
  .obtain⟨e,n,ne,nf,d⟩:=I.pin p hp;refine⟨(hs.2 p.1 ?_).trans e,n,ne,nf,d⟩;intro q;rw[q,hoc]at e;have q':oc=p.2:=Option.some.inj e;exact d w' (by rw[<- q'];exact hocd)
theorem uF{M:Model}{A:Around}{E:Ε}{i:Nat}{x:Str}{v:V}{u:Value}{Q:Unit->Shared->Prop}(I:Inv X pins σ H s)(hN:X.N.Nodup)(hi:X.N[i]?=some x)(hx:Loc X.env.scope x)(r:RelV v u)
 (h:∀s',Inv X pins (σ.set i (some v)) H s'->Q () s')(hf:X.fn x=true\/X.env.scope.names.lookup x=some .local:=by first|exact .inl rfl|exact .inr rfl|assumption):wpAny M A (storeName X.env x u) Q E s :=
 Vq I hN hi hx r (λs' I' _=>h s' I') hf
theorem Inv.call'{s':Shared}{ch:Ψ}(I:Inv X pins σ H s)(ho:s'.os=s.os)(u:Un (frs X.stack) ch H H' s.heap s'.heap)(hok:HOk X.prog X.w H' s'.heap)(hg:AllBare s'.gens)
 (hch:∀b∈ch,(b∈X.ex\/X.s₀.heap.objs.size<=b)/\b≠X.env.locals/\(∀x c,X.env.cells.lookup x=some c->c≠b)/\∀p∈X.pn++pins,p.1≠b):Inv X pins σ H' s':=by
 obtain⟨h',g',d',t',o'⟩:=s';have e:o'=s.os:=ho;subst e;exact I.call (g':=g') (t':=t') (d':=d') u hok hg hch
end
abbrev XK:=Value->Ξ->Hp->Prop
noncomputable abbrev St:=List (Option V)
abbrev VK:=V->Hp->Prop
abbrev TE:=St->Hp->VK->Prop
abbrev TT:=St->Hp->(Bool->Hp->Prop)->Prop
abbrev TA:=St->Hp->(Ζ->Hp->Prop)->Prop
structure Ends where
 nx:St->Hp->Prop
 rt:VK
 bk:St->Hp->Prop:=λ_ _=>False
 ct:St->Hp->Prop:=λ_ _=>False
abbrev TS:=Ends->St->Hp->Prop
def EP(X:Cx)(pins:Δ)(σ:St)(Q:VK)(u:Value)(s':Shared):Prop:=∃v H',Inv X pins σ H' s'/\RelV v u/\Q v H'
def TP(X:Cx)(pins:Δ)(σ:St)(Q:Bool->Hp->Prop)(b:Bool)(s':Shared):Prop:=∃H',Inv X pins σ H' s'/\Q b H'
def AP(X:Cx)(pins:Δ)(σ:St)(Q:Ζ->Hp->Prop)(us:Θ)(s':Shared):Prop:=∃vs H',Inv X pins σ H' s'/\Vals vs us/\Q vs H'
def SP(X:Cx)(pins:Δ)(D:Ends)(f:Flow)(s':Shared):Prop :=
 match f with
 |.next=>∃σ' H',Inv X pins σ' H' s'/\D.nx σ' H'
 |.brk=>∃σ' H',Inv X pins σ' H' s'/\D.bk σ' H'
 |.cont=>∃σ' H',Inv X pins σ' H' s'/\D.ct σ' H'
 |.ret u=>∃v σ' H',Inv X pins σ' H' s'/\RelV v u/\D.rt v H'
def PE(X:Cx)(e:Expr)(t:TE):Prop :=
 ∀(pins:Δ)(s:Shared)(σ:St)(H:Hp)(Q:VK),Inv X pins σ H s->t σ H Q->wpAny (model X.prog X.w) X.A (eval e X.env) (EP X pins σ Q) X.xe s
def PT(X:Cx)(e:Expr)(t:TT):Prop :=
 ∀(pins:Δ)(s:Shared)(σ:St)(H:Hp)(Q:Bool->Hp->Prop),Inv X pins σ H s->t σ H Q->wpAny (model X.prog X.w) X.A (isTrue e X.env (eval e X.env)) (TP X pins σ Q) X.xe s
def PW(X:Cx)(e:Expr)(t:TT):Prop :=
 ∀(whole:Sem Value)(pins:Δ)(s:Shared)(σ:St)(H:Hp)(Q:Bool->Hp->Prop),Inv X pins σ H s->t σ H Q->wpAny (model X.prog X.w) X.A (isTrue e X.env whole) (TP X pins σ Q) X.xe s
theorem PW.pt{X:Cx}{e:Expr}{t:TT}(h:PW X e t):PT X e t:=h _
def PA(X:Cx)(es:List Expr)(t:TA):Prop :=
 ∀(pos:Pos)(pins:Δ)(s:Shared)(σ:St)(H:Hp)(Q:Ζ->Hp->Prop),Inv X pins σ H s->t σ H Q->wpAny (model X.prog X.w) X.A (spliced (backTo pos (starEach es X.env))) (AP X pins σ Q) X.xe s
def PS(X:Cx)(st:Stmt)(t:TS):Prop :=
 ∀(pins:Δ)(s:Shared)(σ:St)(H:Hp)(D:Ends),Inv X pins σ H s->t D σ H->wpAny (model X.prog X.w) X.A (exec st X.env) (SP X pins D) X.xe s
def PSs(X:Cx)(st:List Stmt)(t:TS):Prop :=
 ∀(pins:Δ)(s:Shared)(σ:St)(H:Hp)(D:Ends),Inv X pins σ H s->t D σ H->wpAny (model X.prog X.w) X.A (execs st X.env) (SP X pins D) X.xe s
theorem thn{α:Type}{t:Sem α}{Q Q':α->Shared->Prop}{M:Model}{A:Around}{E:Ε}{s:Shared}(h:wpAny M A t Q E s)(hQ:∀a s,Q a s->Q' a s):wpAny M A t Q' E s:=wpAny_mono h hQ λ_ _ x=>x
section
variable{X:Cx}
def adh(i:Nat):TE:=λσ H Q=>∃v,σ[i]?=some (some v)/\Q v H
def tC(v:V):TE:=λ_ H Q=>Q v H
theorem aeG{i:Nat}{x:Str}{pos:Pos}(hN:X.N[i]?=some x)(hv:Vis X.env.scope x)(hd:(x==("__debug__":Str))=false:=by decide)(hcd:(x==("__classdict__":Str))=false:=by decide):PE X (.Name x pos) (adh i):=by
 intro pins s σ H Q I h;obtain⟨v,e,h⟩:=h;obtain⟨m,hn,hl⟩:=I.loc;obtain⟨u,r,l⟩:=hl i x v hN e hv;have fin:EP X pins σ Q u s:=⟨v,H,I,r,h⟩;rcases l with⟨hk,hm⟩|⟨hk,c,hc,hcell⟩
 .exact wpAny_Name (wpAny_loadName_local I.ok.kind hk hn hm fin) hd
 .rcases hk with hk|hk
  .exact wpAny_Name (wpAny_loadName_cell I.ok.kind hk hc hcell fin) hd
  .exact wpAny_Name (wpAny_loadName_free I.ok.kind hk hc hcell fin hcd) hd
theorem adv{i j pos} : PE X (.Constant (.int i) j pos) (tC (.int i)):=λ_ _ _ H _ I h=>wpAny_Constant_int ⟨.int i,H,I.tok _,⟨_,rfl⟩,h⟩
theorem afs{b j pos} : PE X (.Constant (.bool b) j pos) (tC (.bl b)):=λ_ _ _ H _ I h=>Constant_bool ⟨.bl b,H,I,rfl,h⟩
theorem aeB{j pos} : PE X (.Constant .none j pos) (tC .non):=λ_ _ _ H _ I h=>Constant_none ⟨.non,H,I,rfl,h⟩
theorem adu{x j pos} : PE X (.Constant (.str x) j pos) (tC (.str x)):=λ_ _ _ H _ I h=>Calls.Constant_str ⟨.str x,H,I.tok _,⟨_,rfl⟩,h⟩
def Gl(X:Cx)(x:Str):Prop:=X.env.kindOf x=some .globalImplicit
theorem E_{E:Ε}{pins:Δ}{s:Shared}{σ:St}{H:Hp}{x:Str}{u:Value}{pos:Pos}{Q:Ε}(I:Inv X pins σ H s)(hg:Gl X x)(hm:X.mg x=some u)(h:Q u s)
 (hd:(x==("__debug__":Str))=false:=by decide):wpAny (model X.prog X.w) X.A (eval (.Name x pos) X.env) Q E s :=
 Calls.Name_function_global I.ok.kind hg (Calls.loadGlobal_global (by rw[I.ok.glob];exact I.mod.glob.keeps I.bk) hm h) hd
theorem yF{E:Ε}{pins:Δ}{s:Shared}{σ:St}{H:Hp}{x:Str}{u:Value}{pos:Pos}{Q:Ε}(I:Inv X pins σ H s)(hg:Gl X x)(hm:X.mg x=none)(hv:bootBuiltins x=some u)(h:Q u s)
 (hn:x≠"__name__":=by decide)(hd:(x==("__debug__":Str))=false:=by decide):wpAny (model X.prog X.w) X.A (eval (.Name x pos) X.env) Q E s:=by
 obtain⟨mb,h1,h2⟩:=I.mod.blt;exact Calls.Name_function_global I.ok.kind hg (Calls.loadGlobal_builtin (by rw[I.ok.glob];exact I.mod.glob.keeps I.bk) hm (by rw[I.ok.blt];exact h1.keeps I.bk) ((h2 x hn).trans hv) h) hd
theorem T6{x:Str}{v:V}{u:Value}{pos:Pos}(hg:Gl X x)(hm:X.mg x=some u)(r:RelV v u)(hd:(x==("__debug__":Str))=false:=by decide):PE X (.Name x pos) (tC v) :=
 λ_ _ _ H _ I h=>E_ I hg hm ⟨v,H,I,r,h⟩ hd
theorem abG{x:Str}{v:V}{u:Value}{pos:Pos}(hg:Gl X x)(hm:X.mg x=none)(hv:bootBuiltins x=some u)(r:RelV v u)(hn:x≠"__name__":=by decide)(hd:(x==("__debug__":Str))=false:=by decide):PE X (.Name x pos) (tC v) :=
 λ_ _ _ H _ I h=>yF I hg hm hv ⟨v,H,I,r,h⟩ hn hd
variable{a b:Expr}{ta tb:TE}{pos:Pos}
def PC(X:Cx)(op:CmpOp)(a b:Expr)(t:TE):Prop :=
 ∀(pins:Δ)(s:Shared)(σ:St)(H:Hp)(Q:VK),Inv X pins σ H s->t σ H Q ->
  wpAny (model X.prog X.w) X.A (eval a X.env) (λv s₁=>wpAny (model X.prog X.w) X.A (eval b X.env) (λu s₂=>wpAny (model X.prog X.w) X.A (compareOp op v u) (EP X pins σ Q) X.xe s₂) X.xe s₁) X.xe s
def tB(t:TE):TT:=λσ H Q=>t σ H λx H1=>∃c,x=.bl c/\Q c H1
theorem YX{op:CmpOp}{t:TE}(h:PC X op a b t)(h1:behindInMarks op b=false:=by rfl):PT X (.Compare a [op] [b] pos) (tB t):=by
 intro pins s σ H Q I hw;refine wpAny_isTrue_Compare1 (thn (h pins s σ H _ I hw) λv s1 h1=>thn h1 λu s2 h2=>thn h2 λc s3 hP=>?_) h1;obtain⟨x,H1,I1,r1,q1⟩:=hP;obtain⟨d,rfl,q⟩:=q1;cases r1;exact wpAny_truthy_bool ⟨H1,I1,q⟩
variable{tA tB':TT}{rest:List Expr}
def af5(t u:TT):TT:=λσ H Q=>t σ H λc H1=>if c=true then u σ H1 Q else Q false H1
def tOr(t u:TT):TT:=λσ H Q=>t σ H λc H1=>if c=true then Q true H1 else u σ H1 Q
def ajw(t:TT):TT:=λσ H Q=>t σ H λc H1=>Q (!c) H1
theorem pw_and1(ha:PT X a tA):PW X (.BoolOp .And [a] pos) tA:=by
 intro wh pins s σ H Q I h;refine isTrue_and (thn (ha pins s σ H Q I h) λc s1 e=>?_);cases c with
 |true=>exact isTrue_and_nil e
 |false=>exact e
theorem pw_or1(ha:PT X a tA):PW X (.BoolOp .Or [a] pos) tA:=by
 intro wh pins s σ H Q I h;refine isTrue_or (thn (ha pins s σ H Q I h) λc s1 e=>?_);cases c with
 |false=>exact isTrue_or_nil e
 |true=>exact e
theorem pw_and(ha:PT X a tA)(hb:PW X (.BoolOp .And (b::rest) pos) tB'):PW X (.BoolOp .And (a::b::rest) pos) (af5 tA tB'):=by
 intro wh pins s σ H Q I h;refine isTrue_and (thn (ha pins s σ H _ I h) λc s1 hP=>?_);obtain⟨H1,I1,q1⟩:=hP;cases c with
 |true=>exact hb wh pins s1 σ H1 Q I1 q1
 |false=>exact⟨H1,I1,q1⟩
theorem pw_or(ha:PT X a tA)(hb:PW X (.BoolOp .Or (b::rest) pos) tB'):PW X (.BoolOp .Or (a::b::rest) pos) (tOr tA tB'):=by
 intro wh pins s σ H Q I h;refine isTrue_or (thn (ha pins s σ H _ I h) λc s1 hP=>?_);obtain⟨H1,I1,q1⟩:=hP;cases c with
 |true=>exact⟨H1,I1,q1⟩
 |false=>exact hb wh pins s1 σ H1 Q I1 q1
theorem adR(ha:PT X a tA):PT X (.UnaryOp .Not a pos) (ajw tA):=by
 intro pins s σ H Q I h;exact isTrue_not (ha pins s σ H (λc H1=>Q (!c) H1) I h)
def acF(ta tb:TE):TE:=λσ H Q=>ta σ H λx H1=>∃c,x=.bl c/\if c=true then tb σ H1 Q else Q (.bl false) H1
def acH(ta:TE):TE:=λσ H Q=>ta σ H λx H1=>∃c,x=.bl c/\Q (.bl (!c)) H1
theorem ae8{op}{t:TE}(h:PE X a t):PE X (.BoolOp op [a] pos) t:=λpins s σ H Q I hw=>BoolOp_one (h pins s σ H Q I hw)
theorem acW(ha:PE X a ta)(hb:PE X (.BoolOp .And (b::rest) pos) tb):PE X (.BoolOp .And (a::b::rest) pos) (acF ta tb):=by
 intro pins s σ H Q I h;refine BoolOp_and (thn (ha pins s σ H _ I h) λv s1 hP=>?_);obtain⟨x,H1,I1,r1,q1⟩:=hP;obtain⟨c,rfl,q1⟩:=q1;cases r1;refine wpAny_truthy_bool ?_;cases c with
 |true=>exact hb pins s1 σ H1 Q I1 q1
 |false=>exact⟨.bl false,H1,I1,rfl,q1⟩
theorem aeu(ha:PE X a ta):PE X (.UnaryOp .Not a pos) (acH ta):=by
 intro pins s σ H Q I h;refine UnaryOp_ (thn (ha pins s σ H _ I h) λv s1 hP=>?_);obtain⟨x,H1,I1,r1,q1⟩:=hP;obtain⟨c,rfl,q1⟩:=q1;cases r1;exact not_of (wpAny_truthy_bool ⟨.bl (!c),H1,I1,rfl,q1⟩)
def tIf(t:TT)(ta tb:TE):TE:=λσ H Q=>t σ H λc H1=>if c=true then ta σ H1 Q else tb σ H1 Q
theorem Zo{c:Expr}(hc:PT X c tA)(ha:PE X a ta)(hb:PE X b tb):PE X (.IfExp c a b pos) (tIf tA ta tb):=by
 intro pins s σ H Q I h;refine wpAny_IfExp (thn (hc pins s σ H _ I h) λd s1 hP=>?_);obtain⟨H1,I1,q1⟩:=hP;cases d with
 |true=>exact ha pins s1 σ H1 Q I1 q1
 |false=>exact hb pins s1 σ H1 Q I1 q1
end
def SqL(K:Frag)(H:Hp)(a:Addr)(xs:Ζ):Prop :=
 Rd H a (.lst xs) \/
  ∃(o:Obj)(its:Array Value)(n:Nat),K.lookup a=some o/\o.cls=.type "list"/\o.dict=none/\o.data=.seq its n/\its.size<=sizeLine/\Vals xs its.toList
def SqT(K:Frag)(H:Hp)(a:Addr)(xs:Ζ):Prop :=
 Rd H a (.tup xs) \/
  ∃(o:Obj)(its:Array Value)(n:Nat),K.lookup a=some o/\o.cls=.type "tuple"/\o.data=.seq its n/\its.size<=sizeLine/\Vals xs its.toList
noncomputable def alN:Value->Option V
 |.none=>some .non
 |.bool b=>some (.bl b)
 |.int i _=>some (.int i)
 |.str x _=>some (.str x)
 |.bytes b _=>some (.byt b)
 |.float b _=>some (.flt b)
 |.ref a=>some (.ref a)
 |.type n=>some (.ty n)
 |_=>none
theorem RelV.abs{x:V}{u:Value}(r:RelV x u):alN u=some x:=by
 cases x with
 |non=>cases r;rfl
 |bl _=>cases r;rfl
 |int _=>obtain⟨t,rfl⟩:=r;rfl
 |str _=>obtain⟨t,rfl⟩:=r;rfl
 |byt _=>obtain⟨t,rfl⟩:=r;rfl
 |flt _=>obtain⟨t,rfl⟩:=r;rfl
 |ref _=>cases r;rfl
 |ty _=>cases r;rfl
theorem RelV.inj{x y:V}{u:Value}(r:RelV x u)(q:RelV y u):x=y:=Option.some.inj (r.abs.symm.trans q.abs)
theorem Vals.inj:∀{xs ys:Ζ}{us:Θ},Vals xs us->Vals ys us->xs=ys
 |_,_,_,.nil,.nil=>rfl
 |_,_,_,.cons r t,.cons r' t'=>by rw[r.inj r',Vals.inj t t']
section
variable{X:Cx}{pins:Δ}{σ:St}{H:Hp}{s:Shared}{a:Addr}{xs ys:Ζ}
theorem SqL.of{K:Frag}(h:H a=some (.lst xs)):SqL K H a xs:=.inl (.inl h)
theorem SqT.of{K:Frag}(h:H a=some (.tup xs)):SqT K H a xs:=.inl (.inl h)
theorem Inv.list(I:Inv X pins σ H s)(h:SqL X.K H a xs):∃its:Θ,Vals xs its/\PlainL s.heap a its.toArray/\xs.length<=sizeLine:=by
 rcases h with h|⟨o,its,n,hk,hc,hd,hs,hz,r⟩
 .obtain⟨z,its,n,r,e⟩:=h.ok I.hok;exact⟨its,r,⟨_,n,e,rfl,rfl,rfl⟩,z⟩
 .refine⟨its.toList,r,⟨o,n,I.kIn a o hk,hc,hd,by simpa using hs⟩,?_⟩;have e:=r.length;simp only[Array.length_toList]at e;exact aL (Nat.le_of_eq e) hz
theorem Inv.tuple(I:Inv X pins σ H s)(h:SqT X.K H a xs):∃its:Θ,Vals xs its/\IsTup s.heap a its.toArray/\xs.length<=sizeLine:=by
 rcases h with h|⟨o,its,n,hk,hc,hs,hz,r⟩
 .obtain⟨z,its,r,p⟩:=h.ok I.hok;exact⟨its,r,p,z⟩
 .refine⟨its.toList,r,⟨o,I.kIn a o hk,hc,n,by simpa using hs⟩,?_⟩;have e:=r.length;simp only[Array.length_toList]at e;exact aL (Nat.le_of_eq e) hz
theorem Inv.list_inj(I:Inv X pins σ H s)(h:SqL X.K H a xs)(h':SqL X.K H a ys):xs=ys:=by
 obtain⟨its,r,⟨o,n,e,_,_,d⟩,_⟩:=I.list h;obtain⟨its',r',⟨o',n',e',_,_,d'⟩,_⟩:=I.list h';rw[e]at e';cases e';rw[d]at d';injection d' with d1 _;have:its=its':=by simpa using ZH Array.toList d1
 subst this;exact r.inj r'
theorem Inv.tuple_inj(I:Inv X pins σ H s)(h:SqT X.K H a xs)(h':SqT X.K H a ys):xs=ys:=by
 obtain⟨its,r,⟨o,e,_,n,d⟩,_⟩:=I.tuple h;obtain⟨its',r',⟨o',e',_,n',d'⟩,_⟩:=I.tuple h';rw[e]at e';cases e';rw[d]at d';injection d' with d1 _;have:its=its':=by simpa using ZH Array.toList d1
 subst this;exact r.inj r'
end
noncomputable abbrev Cx.wish(X:Cx)(E:Ε):Cx:={ X with xe:=E }
noncomputable abbrev Cx.nox(X:Cx):Cx:=X.wish λ_ _=>False
theorem Cx.Ok.wish{X:Cx}(ok:X.Ok)(E:Ε):(X.wish E).Ok :=
 ⟨ok.mod,ok.kind,ok.glob,ok.blt,ok.above,ok.inj,ok.has,ok.cab,ok.hd,ok.frames,ok.stk,ok.exf,ok.bs,ok.bsz,ok.noex,ok.exfs,ok.funs,ok.frf⟩
theorem Cx.Ok.unwish{X:Cx}{E:Ε}(ok:(X.wish E).Ok):X.Ok :=
 ⟨ok.mod,ok.kind,ok.glob,ok.blt,ok.above,ok.inj,ok.has,ok.cab,ok.hd,ok.frames,ok.stk,ok.exf,ok.bs,ok.bsz,ok.noex,ok.exfs,ok.funs,ok.frf⟩
section
variable{X:Cx}{pins:Δ}{σ:St}{H:Hp}{s:Shared}{E:Ε}
theorem Inv.wish(I:Inv X pins σ H s)(E:Ε):Inv (X.wish E) pins σ H s:=⟨I.ok.wish E,I.os,I.bare,I.base,I.loc,I.cell,I.free,I.freeC,I.pin,I.hok,I.len⟩
theorem Inv.unwish(I:Inv (X.wish E) pins σ H s):Inv X pins σ H s:=⟨I.ok.unwish,I.os,I.bare,I.base,I.loc,I.cell,I.free,I.freeC,I.pin,I.hok,I.len⟩
theorem SP.unwish{D:Ends}{f:Flow}{s':Shared}(h:SP (X.wish E) pins D f s'):SP X pins D f s':=by
 cases f with
 |next=>obtain⟨σ',H',I,q⟩:=h;exact⟨σ',H',I.unwish,q⟩
 |brk=>obtain⟨σ',H',I,q⟩:=h;exact⟨σ',H',I.unwish,q⟩
 |cont=>obtain⟨σ',H',I,q⟩:=h;exact⟨σ',H',I.unwish,q⟩
 |ret u=>obtain⟨v,σ',H',I,r,q⟩:=h;exact⟨v,σ',H',I.unwish,r,q⟩
theorem PSs.nox{st:List Stmt}{t:TS}(h:PSs X.nox st t):PSs X st t:=λpins s σ H D I hw =>
 wpAny_mono (h pins s σ H D (I.wish _) hw) (λ_ _ q=>q.unwish) λ_ _ z=>False.elim z
end
section
variable{X:Cx}{st:Stmt}{rest:List Stmt}{t u:TS}{e:Expr}{te:TE}{pos:Pos}
def acf:TS:=λD σ H=>D.nx σ H
def adO(t u:TS):TS:=λD σ H=>t { D with nx:=u D } σ H
theorem abE:PSs X [] acf:=λ_ _ σ H _ I h=>wpAny_execs_nil ⟨σ,H,I,h⟩
theorem Xh(h1:PS X st t)(h2:PSs X rest u):PSs X (st::rest) (adO t u):=by
 intro pins s σ H D I h;refine wpAny_execs_cons (thn (h1 pins s σ H { D with nx:=u D } I h) λf s1 q=>?_);cases f with
 |next =>
  obtain⟨σ',H',I',q⟩:=q;exact h2 pins s1 σ' H' D I' q
 |ret v=>exact q
 |brk=>exact q
 |cont=>exact q
theorem aas(h1:PS X st t):PSs X [st] t:=by
 intro pins s σ H D I h;refine wpAny_execs_cons (thn (h1 pins s σ H D I h) λf s1 q=>?_);cases f with
 |next=>exact wpAny_execs_nil q
 |ret v=>exact q
 |brk=>exact q
 |cont=>exact q
theorem Inv.quiet{pins:Δ}{σ:St}{H:Hp}{s:Shared}(I:Inv X pins σ H s):interactive X.env=false:=by simp[interactive,I.ok.kind]
def acu(te:TE):TS:=λD σ H=>te σ H λ_ H1=>D.nx σ H1
theorem wW(he:PE X e te)(hs:swapsWith e none pos.line X.env=pure false:=by rfl):PS X (.Expr e pos) (acu te):=by
 intro pins s σ H D I h;exact wpAny_Expr_any (thn (he pins s σ H _ I h) λv s1 hP=>by obtain⟨x,H1,I1,r1,q1⟩:=hP;exact⟨σ,H1,I1,q1⟩) I.quiet hs
def ah7(te:TE):TS:=λD σ H=>te σ H D.rt
theorem Rj(he:PE X e te):PS X (.Return (some e) pos) (ah7 te):=by
 intro pins s σ H D I h;exact wpAny_Return_some (thn (he pins s σ H _ I h) λv s1 hP=>by obtain⟨x,H1,I1,r1,q1⟩:=hP;exact⟨x,σ,H1,I1,r1,q1⟩)
def agS(c:TT)(t u:TS):TS:=λD σ H=>c σ H λb H1=>if b=true then t D σ H1 else u D σ H1
theorem afr{c:Expr}{a b:List Stmt}{tc:TT}(hc:PT X c tc)(ha:PSs X a t)(hb:PSs X b u):PS X (.If c a b pos) (agS tc t u):=by
 intro pins s σ H D I h;refine wpAny_If (thn (hc pins s σ H _ I h) λd s1 hP=>?_);obtain⟨H1,I1,q1⟩:=hP;cases d with
 |true=>exact ha pins s1 σ H1 D I1 q1
 |false=>exact hb pins s1 σ H1 D I1 q1
def ad7:TS:=λ_ _ _=>False
theorem Xc:PS X st ad7:=λ_ _ _ _ _ _ h=>h.elim
end
abbrev TG:=V->St->Hp->(St->Hp->Prop)->Prop
abbrev TGs:=Ζ->St->Hp->(St->Hp->Prop)->Prop
def PG(X:Cx)(target:Expr)(t:TG):Prop :=
 ∀(pins:Δ)(s:Shared)(σ:St)(H:Hp)(v:V)(u:Value)(Q:St->Hp->Prop),Inv X pins σ H s->RelV v u->t v σ H Q ->
  wpAny (model X.prog X.w) X.A (assign target X.env u) (λ_ s'=>∃σ' H',Inv X pins σ' H' s'/\Q σ' H') X.xe s
def PGs(X:Cx)(ts:List Expr)(t:TGs):Prop :=
 ∀(pins:Δ)(s:Shared)(σ:St)(H:Hp)(vs:Ζ)(us:Θ)(Q:St->Hp->Prop),Inv X pins σ H s->Vals vs us->t vs σ H Q ->
  wpAny (model X.prog X.w) X.A (assignInOrder ((assignEach ts X.env).map (·.2)) us) (λ_ s'=>∃σ' H',Inv X pins σ' H' s'/\Q σ' H') X.xe s
abbrev ad4:=V->V->V->Hp->(Hp->Prop)->Prop
def agZ(X:Cx)(t:ad4):Prop :=
 ∀(pins:Δ)(s:Shared)(σ:St)(H:Hp)(o i v:V)(ov iv u:Value)(Q:Hp->Prop),Inv X pins σ H s->RelV o ov->RelV i iv->RelV v u->t o i v H Q ->
  wpAny (model X.prog X.w) X.A (setItem ov iv u) (λ_ s'=>∃H',Inv X pins σ H' s'/\Q H') X.xe s
abbrev TIp:=V->V->Hp->VK->Prop
def PIp(X:Cx)(op:Operator)(t:TIp):Prop :=
 ∀(pins:Δ)(s:Shared)(σ:St)(H:Hp)(x y:V)(v u:Value)(Q:VK),Inv X pins σ H s->RelV x v->RelV y u->t x y H Q ->
  wpAny (model X.prog X.w) X.A (inplaceOp op v u) (EP X pins σ Q) X.xe s
section
variable{X:Cx}{pos:Pos}
def wH(i:Nat):TG:=λv σ H Q=>Q (σ.set i (some v)) H
theorem lK{i:Nat}{x:Str}(hN:X.N.Nodup)(hi:X.N[i]?=some x)(hx:Loc X.env.scope x)(hf:X.fn x=true\/X.env.scope.names.lookup x=some .local:=by first|exact .inl rfl|exact .inr rfl|assumption):PG X (.Name x pos) (wH i):=by
 intro pins s σ H v u Q I r h;exact wpAny_assign_Name (uF I hN hi hx r (λs' I'=>⟨_,H,I',h⟩) hf)
def agX:TGs:=λvs σ H Q=>vs=[]/\Q σ H
def acI(t:TG)(u:TGs):TGs:=λvs σ H Q=>∃v r,vs=v::r/\t v σ H λσ' H'=>u r σ' H' Q
theorem abv:PGs X [] agX:=by
 intro pins s σ H vs us Q I r h;obtain⟨e,h⟩:=h;subst e;cases r;exact assignInOrder_nil ⟨σ,H,I,h⟩
theorem XD{e:Expr}{es:List Expr}{t:TG}{u:TGs}(h1:PG X e t)(h2:PGs X es u)
 (hs:(assignEach (e::es) X.env).map (·.2)=assign e X.env::(assignEach es X.env).map (·.2):=by rfl):PGs X (e::es) (acI t u):=by
 intro pins s σ H vs us Q I r h;obtain⟨v,vr,e1,h⟩:=h;subst e1;cases r with
 |cons r rr =>
  rw[hs];refine assignInOrder_cons (thn (h1 pins s σ H _ _ _ I r h) λ_ s1 hP=>?_);obtain⟨σ1,H1,I1,q1⟩:=hP;exact h2 pins s1 σ1 H1 _ _ Q I1 rr q1
def aic(K:Frag)(n:Nat)(t:TGs):TG:=λv σ H Q=>∃a xs,v=.ref a/\SqT K H a xs/\xs.length=n/\t xs σ H Q
theorem adA{es:List Expr}{k:Nat}{t:TGs}{n:Nat}(hc:X.calm=true)(h:PGs X es t)
 (hn:(assignEach es X.env).length=n:=by rfl)(hst:(assignEach es X.env).findIdx? (·.1)=none:=by rfl):PG X (.Tuple es k pos) (aic X.K n t):=by
 intro pins s σ H v u Q I r hw;obtain⟨a,xs,e1,hq,hl,hw⟩:=hw;subst e1;cases r;obtain⟨its,rv,ht,hz⟩:=I.tuple hq;refine assign_Tuple_tuple (I.ok.hd hc) ht (by simp[hn,<- hl,rv.length]) hst λh' hx=>?_;have I1:Inv X pins σ H { s with heap:=h' }:=I.kept (t':=s.toks) λb o e=>hx b o (aQ (aK e)) e;exact h pins _ σ H xs _ Q I1 (by simpa using rv) hw
def afR(to ti:TE)(t:ad4):TG:=λv σ H Q=>to σ H λo H1=>ti σ H1 λi H2=>t o i v H2 λH3=>Q σ H3
theorem W3{o i:Expr}{to ti:TE}{t:ad4}(ho:PE X o to)(hi:PE X i ti)(hs:agZ X t)
 (ha:∀v,assign (.Subscript o i pos) X.env v=(do
   let ov <- holding [v] (eval o X.env)
   let iv <- holding [v,ov] (eval i X.env)
   standAt pos
   holding [v,ov,iv] (setItem ov iv v)
   release [v,ov,iv] []):=by intro _;rfl):PG X (.Subscript o i pos) (afR to ti t):=by
 intro pins s σ H v u Q I r h;rw[ha];refine ZU (wpAny_holding (thn (ho pins s σ H _ I h) λov s1 hP=>?_));obtain⟨x,H1,I1,r1,q1⟩:=hP;refine ZU (wpAny_holding (thn (hi pins s1 σ H1 _ I1 q1) λiv s2 hP=>?_));obtain⟨y,H2,I2,r2,q2⟩:=hP;refine ZU (wpAny_standAt (ZU (wpAny_holding (thn (hs pins s2 σ H2 x y v ov iv u _ I2 r1 r2 r q2) λ_ s3 hP=>?_))));obtain⟨H3,I3,q3⟩:=hP;exact wpAny_release ⟨σ,H3,I3,q3⟩
def Zx(te:TE)(g:TG):TS:=λD σ H=>te σ H λx H1=>g x σ H1 D.nx
theorem Tg{tg e:Expr}{te:TE}{g:TG}(he:PE X e te)(hg:PG X tg g)(hs:swapsWithSole [tg] e pos.line X.env=pure false:=by rfl)(hw:swappedStores [tg] e X.env=pure none:=by rfl)
 (h1:(assignEach [tg] X.env).map (·.2)=[assign tg X.env]:=by rfl):PS X (.Assign [tg] e pos) (Zx te g):=by
 intro pins s σ H D I h;refine wpAny_Assign_stores (thn (he pins s σ H _ I h) λv s1 hP=>?_) hs hw;obtain⟨x,H1,I1,r1,q1⟩:=hP;rw[h1];exact thn (hg pins s1 σ H1 x v _ I1 r1 q1) λ_ s2 q=>q
theorem Xo{i:Nat}{x:Str}{e:Expr}{te:TE}{pos':Pos}(hN:X.N.Nodup)(hi:X.N[i]?=some x)(hx:Loc X.env.scope x)(he:PE X e te)(hs:swapsWith e (some (.Name x pos')) pos.line X.env=pure false:=by rfl)(hf:X.fn x=true\/X.env.scope.names.lookup x=some .local:=by first|exact .inl rfl|exact .inr rfl|assumption) :
  PS X (.Assign [.Name x pos'] e pos) (Zx te (wH i)):=by
 intro pins s σ H D I h;refine wpAny_Assign_Name (thn (he pins s σ H _ I h) λv s1 hP=>?_) hs;obtain⟨y,H1,I1,r1,q1⟩:=hP;exact uF I1 hN hi hx r1 (λs2 I2=>⟨_,H1,I2,q1⟩) hf
def aiX(i j:Nat)(ta:TA):TS:=λD σ H=>ta σ H λvs H1=>∃v w,vs=[v,w]/\D.nx ((σ.set i (some v)).set j (some w)) H1
theorem aeh{i j:Nat}{x y:Str}{a b:Expr}{ta:TA}{px py pt:Pos}{kt k2 pt2}(hc:X.calm=true)(hN:X.N.Nodup)(hi:X.N[i]?=some x)(hj:X.N[j]?=some y)(hij:i≠j)
 (hx:X.env.scope.names.lookup x=some .local)(hy:X.env.scope.names.lookup y=some .local)(ha:PA X [a,b] ta)
 (hw:swappedStores [.Tuple [.Name x px,.Name y py] kt pt] (.Tuple [a,b] k2 pt2) X.env=pure (some [x,y]))
 (hs:swapsWithSole [.Tuple [.Name x px,.Name y py] kt pt] (.Tuple [a,b] k2 pt2) pos.line X.env=pure false:=by rfl) :
  PS X (.Assign [.Tuple [.Name x px,.Name y py] kt pt] (.Tuple [a,b] k2 pt2) pos) (aiX i j ta):=by
 intro pins s σ H D I h;rw[exec_Assign_arm];refine ZU (wpAny_standAt ?_);rw[hs];refine ZU (ZT ?_);rw[ZZ (by decide)];refine ZU (Tuple_ (thn (ha _ pins s σ H _ I h) λus s1 hP=>?_));obtain⟨vs,H1,I1,r1,q1⟩:=hP;obtain⟨v,w,e1,q1⟩:=q1;subst e1;obtain⟨u1,u2,rfl,rv,rw'⟩ : ∃u1 u2,us=[u1,u2]/\RelV v u1/\RelV w u2:=by
  cases r1 with
  |cons p q =>
   cases q with
   |cons p' q' =>
    cases q';exact⟨_,_,rfl,p,p'⟩
 refine wpAny_newObj_type ?_ (by show 2<=sizeLine;decide);have I2:Inv X pins σ H1 { s1 with heap:=s1.heap.push { cls:=.type "tuple",data:=.seq [u1,u2].toArray } }:=I1.kept (t':=s1.toks) λb o e=>aH _ e;rw[hw];refine ZU (ZT ?_);show wpAny (model X.prog X.w) X.A (do rule "assign.swapped-stores"; let items <- unpackItems (.ref s1.heap.objs.size) 2 none;assignInOrder [λv=>bindName X.env y v,λv=>bindName X.env x v] items.reverse;pure Flow.next) _ _ _;refine ZU (wpAny_rule (ZU (unpackItems_tuple (items:=#[u1,u2]) (I.ok.hd hc) (IsTup.new s1.heap _) λh' hx'=>?_)));have I3:=I2.kept (h':=h') (t':=s1.toks) λb o e=>hx' b o (aQ (aK e)) e;show wpAny _ _ (assignInOrder [λv=>bindName X.env y v,λv=>bindName X.env x v] [u2,u1] >>= λ_=>pure Flow.next) _ _ _;refine ZU (assignInOrder_cons (wpAny_bindName (uF I3 hN hj (.inl hy) rw' (λs2 I4=>?_) (.inr hy))));refine assignInOrder_cons (wpAny_bindName (uF I4 hN hi (.inl hx) rv (λs3 I5=>assignInOrder_nil (ZT ?_)) (.inr hx)));rw[List.set_comm _ _ (Ne.symm hij)]at I5;exact⟨_,H1,I5,q1⟩
def ak0(i:Nat)(te:TE)(ti:TIp):TS:=λD σ H=>∃x,σ[i]?=some (some x)/\te σ H λy H1=>ti x y H1 λz H2=>D.nx (σ.set i (some z)) H2
theorem ady{i:Nat}{x:Str}{e:Expr}{te:TE}{op:Operator}{ti:TIp}{pos':Pos}(hN:X.N.Nodup)(hi:X.N[i]?=some x)(hx:Loc X.env.scope x)(he:PE X e te)(ho:PIp X op ti)(hf:X.fn x=true\/X.env.scope.names.lookup x=some .local:=by first|exact .inl rfl|exact .inr rfl|assumption) :
  PS X (.AugAssign (.Name x pos') op e pos) (ak0 i te ti):=by
 intro pins s σ H D I h;obtain⟨v,e1,h⟩:=h;obtain⟨m,hn,hl⟩:=I.loc;have vis:Vis X.env.scope x:=by rcases hx with k|k;exact .inl k;exact .inr (.inl k)
 obtain⟨u,r,l⟩:=hl i x v hi e1 vis;refine wpAny_AugAssign_Name ?_;have go:wpAny (model X.prog X.w) X.A (eval e X.env) (λw s₂=>wpAny (model X.prog X.w) X.A (inplaceOp op u w) (λr s₃=>wpAny (model X.prog X.w) X.A (storeName X.env x r) (λ_=>SP X pins D .next) X.xe s₃) X.xe s₂) X.xe s:=by
  refine thn (he pins s σ H _ I h) λw s1 hP=>?_;obtain⟨y,H1,I1,r1,q1⟩:=hP;refine thn (ho pins s1 σ H1 v y u w _ I1 r r1 q1) λz s2 hP=>?_;obtain⟨zv,H2,I2,r2,q2⟩:=hP;exact uF I2 hN hi hx r2 (λs3 I3=>⟨_,H2,I3,q2⟩) hf
 rcases l with⟨hk,hm⟩|⟨hk,c,hc,hcell⟩
 .exact wpAny_loadName_local I.ok.kind hk hn hm go
 .rcases hk with hk|hk
  .exact wpAny_loadName_cell I.ok.kind hk hc hcell go
  .rcases hx with k|k
   .have:X.env.scope.names.lookup x=some .free:=hk;rw[k]at this;cases this
   .have:X.env.scope.names.lookup x=some .free:=hk;rw[k]at this;cases this
def ipI(f:Int->Int->Int):TIp:=λx y H Q=>∃i j,x=.int i/\y=.int j/\Q (.int (f i j)) H
theorem aeT:PIp X .Add (ipI λi j=>i+j):=by
 intro pins s σ H x y v u Q I r1 r2 h;obtain⟨i,j,e1,e2,q⟩:=h;subst e1;subst e2;obtain⟨t,rfl⟩:=r1;obtain⟨t',rfl⟩:=r2;exact iadd_int ⟨.int _,H,I.tok _,⟨_,rfl⟩,q⟩
end
section
variable{X:Cx}{pos:Pos}
def ac8(c:TT)(tb:TS):TS:=λD σ H=>∃W:Nat->St->Hp->Prop,(∃m,W m σ H)/\∀m σ H,W m σ H ->
 c σ H λb H1=>if b=true then ∃N:St->Hp->Prop,(∀σ' H',N σ' H'->∃m',m'<m/\W m' σ' H')/\tb { D with nx:=N,ct:=N,bk:=D.nx } σ H1 else D.nx σ H1
theorem Xn{c:Expr}{body:List Stmt}{tc:TT}{tb:TS}(hp:PassesOwn (model X.prog X.w) X.A X.env X.xe)(hc:PT X c tc)(hb:PSs X body tb):PS X (.While c body [] pos) (ac8 tc tb):=by
 intro pins s σ H D I h;obtain⟨W,⟨m0,w0⟩,turn⟩:=h;refine wpAny_While (codeAny_whileLoop (λn s'=>∃σ' H',Inv X pins σ' H' s'/\W n σ' H') ?_ m0 ⟨σ,H,I,w0⟩);rintro n s1 ⟨σ1,H1,I1,w1⟩;refine wpAny_passesOwn hp (thn (hc pins s1 σ1 H1 _ I1 (turn n σ1 H1 w1)) λb s2 hP=>?_);obtain⟨H2,I2,q2⟩:=hP;cases b with
 |true =>
  obtain⟨N,hN,q2⟩:=q2;rw[ZY rfl];refine wpAny_passesOwn hp (thn (hb pins s2 σ1 H2 _ I2 q2) λf s3 q3=>?_);cases f with
  |next =>
   obtain⟨σ3,H3,I3,n3⟩:=q3;obtain⟨m',hm,w3⟩:=hN σ3 H3 n3;exact⟨m',hm,σ3,H3,I3,w3⟩
  |cont =>
   obtain⟨σ3,H3,I3,n3⟩:=q3;obtain⟨m',hm,w3⟩:=hN σ3 H3 n3;exact⟨m',hm,σ3,H3,I3,w3⟩
  |brk=>exact q3
  |ret v=>exact q3
 |false =>
  rw[ZZ bw];exact wpAny_execs_nil ⟨σ1,H2,I2,q2⟩
end
structure It where
 go:Nat->Hp->Prop
 yld:Nat->Hp->V->Hp->Prop
 stop:Nat->Hp->Prop
def Dm(X:Cx)(pins:Δ)(H:Hp)(b:Addr):Prop :=
 H b=none/\b≠X.env.locals/\b∉X.fs/\(b∈X.ex\/X.s₀.heap.objs.size<=b)/\(∀x c,X.env.cells.lookup x=some c->c≠b)/\∀p∈X.pn++pins,p.1≠b
theorem Inv.fpOk{X:Cx}{pins:Δ}{σ:St}{H H':Hp}{s:Shared}{b:Addr}(I:Inv X pins σ H s)(hb:s.heap.objs.size<=b)(hn:H' b=none):Dm X pins H' b:=by
 refine⟨hn,Nat.ne_of_gt (aR I.lt hb),I.nofs hb,.inr (aL I.sz hb),λx c e z=>?_,λp hp z=>?_⟩
 .obtain⟨v,q⟩:=I.cell x c e;exact absurd (aR q.lt (by rw[z];exact hb)) (X2 _)
 .exact absurd (aR (aK (I.pin p hp).1) (by rw[z];exact hb)) (X2 _)
structure Turn(P:Program)(w:World)(K:Frag)(tg:Expr)(J:It)(fp:Ψ)(it:Addr)(tn:Nat->Heap->Prop):Prop where
 mem:it∈fp
 obj:∀i h,tn i h->∀b∈fp,∃o,h.get? b=some o/\∀v,o.data≠.cell v
 keep:∀i h h',tn i h->(∀b∈fp,∀o,h.get? b=some o->h'.get? b=some o)->tn i h'
 item:∀(X:Cx),X.prog=P->X.w=w->X.K=K->X.calm=true->∀(i:Nat)(pins:Δ)(s:Shared)(σ:St)(H:Hp)(E:Ε),Inv X pins σ H s->(∀b∈fp,Dm X pins H b)->tn i s.heap->J.go i H ->
  wpAny (model P w) X.A (pyNext (.ref it)) (λr s1=>∃u,r=some u /\
   wpAny (model P w) X.A (letOwnedTupleGo tg (.ref it) u) (λ_ s2=>∃x H',Inv X pins σ H' s2/\RelV x u/\J.yld i H x H'/\tn (i+1) s2.heap/\∀b∈fp,H' b=none) E s1) E s
 done:∀(X:Cx),X.prog=P->X.w=w->X.K=K->X.calm=true->∀(i:Nat)(pins:Δ)(s:Shared)(σ:St)(H:Hp)(E:Ε),Inv X pins σ H s->(∀b∈fp,Dm X pins H b)->tn i s.heap->J.stop i H ->
  wpAny (model P w) X.A (pyNext (.ref it)) (λr s1=>r=none/\Inv X pins σ H s1) E s
 self:∀(A:Around)(i:Nat)(s:Shared)(Q:Ε)(E:Ε),tn i s.heap->Q (.ref it) s->wpAny (model P w) A (pyIter (.ref it)) Q E s
abbrev TI:=St->Hp->(It->Hp->Prop)->Prop
def PIE(X:Cx)(pins:Δ)(σ:St)(tg:Expr)(R:It->Hp->Prop)(itv:Value)(s2:Shared):Prop :=
 ∃(it:Addr)(fp:Ψ)(tn:Nat->Heap->Prop)(J:It)(H':Hp),itv=.ref it/\Inv X pins σ H' s2/\Turn X.prog X.w X.K tg J fp it tn/\tn 0 s2.heap/\(∀b∈fp,Dm X pins H' b)/\R J H'
def PI(X:Cx)(tg iter:Expr)(wi:TI):Prop :=
 ∀(pins:Δ)(s:Shared)(σ:St)(H:Hp)(R:It->Hp->Prop),Inv X pins σ H s->wi σ H R ->
  wpAny (model X.prog X.w) X.A (eval iter X.env) (λv s1=>wpAny (model X.prog X.w) X.A (pyIter v) (PIE X pins σ tg R) X.xe s1) X.xe s
theorem O4{M:Model}{A:Around}{E:Ε}{s:Shared}{tg:Expr}{it:Addr}{u:Value}{o:Obj}{n:String}{vs:Array Value}{Q:Unit->Shared->Prop}(ho:s.heap.get? it=some o)(hc:o.cls=.type n)(hd:o.data=.fields vs)
   (hn : ["enumerate","zip","dict_itemiterator","dict_reverseitemiterator","odict_iterator","itertools.zip_longest","itertools.pairwise"].contains n=false)(hQ:Q () s):wpAny M A (letOwnedTupleGo tg (.ref it) u) Q E s:=by
  unfold letOwnedTupleGo;cases tg<;>first
    |exact ZT hQ
    |(cases u<;>first
        |exact ZT hQ
        | (refine ZU (wpAny_load ho ?_)
           rw[hc,hd];show wpAny M A (if(["enumerate","zip","dict_itemiterator","dict_reverseitemiterator","odict_iterator","itertools.zip_longest","itertools.pairwise"].contains n&&vs[0]?==some (rawInt _))=true then _ else _) Q E s;rw[ZZ (by intro h;rw[hn,Bool.false_and]at h;cases h)];exact ZT hQ))
noncomputable def Itl(K:Frag)(a:Addr):It :=
 ⟨λi H=>∃xs x,SqL K H a xs/\xs[i]?=some x,λi H x H'=>H'=H/\∀xs,SqL K H a xs->xs[i]?=some x,λi H=>∃xs,SqL K H a xs/\xs.length<=i⟩
noncomputable def Itt(K:Frag)(a:Addr):It :=
 ⟨λi H=>∃xs x,SqT K H a xs/\xs[i]?=some x,λi H x H'=>H'=H/\∀xs,SqT K H a xs->xs[i]?=some x,λi H=>∃xs,SqT K H a xs/\xs.length<=i⟩
noncomputable def Itr(lo:Int)(n:Nat):It:=⟨λi _=>i<n,λi H x H'=>H'=H/\x=.int (lo+i),λi _=>n<=i⟩
theorem Vu{P:Program}{w:World}{K:Frag}{tg:Expr}(a it:Addr):Turn P w K tg (Itl K a) [it] it (λi h=>h.IsListIter it a i) where
 mem:=by simp
 obj:=λi h st b hb=>by
  have e:b=it:=by simpa using hb
  subst e;obtain⟨o,e,c,d⟩:=st;exact⟨o,e,λv z=>by rw[d]at z;cases z⟩
 keep:=λi h h' st k=>st.at λo e=>k it (by simp) o e
 item:=by
  intro X hP hw hK hc i pins s σ H E I hf st hg;subst hP hw hK;obtain⟨xs,x,hq,hx⟩:=hg;obtain⟨its,rv,p,hz⟩:=I.list hq;obtain⟨u,hu,ru⟩:=rv.get hx;obtain⟨f0,f1,f2,f3,f4,f5⟩:=hf it (by simp);refine wpAny_pyNext_list_item st p.isList (x:=u) (by simpa using hu) λh' st' sb=>?_;have I1:Inv X pins σ H { s with heap:=h' }:=I.turned (t':=s.toks) (λb o hb e=>(sb.2 b hb).trans e) f0 f1 f3 f4 f5;obtain⟨o,e,c,d⟩:=id st';exact⟨u,rfl,O4 (s:={ s with heap:=h' }) e c d (by decide) ⟨x,H,I1,ru,⟨rfl,λys hy=>by rw[I.list_inj hy hq];exact hx⟩,st',λb hb=>(hf b hb).1⟩⟩
 done:=by
  intro X hP hw hK hc i pins s σ H E I hf st hg;subst hP hw hK;obtain⟨xs,hq,hx⟩:=hg;obtain⟨its,rv,p,hz⟩:=I.list hq;obtain⟨f0,f1,f2,f3,f4,f5⟩:=hf it (by simp);have hl:=rv.length;exact wpAny_pyNext_list_end (I.ok.hd hc) st p.isList (by simp;lia) λh' eb=>⟨rfl,I.turned (t':=s.toks) (λb o hb e=>eb b o hb e) f0 f1 f3 f4 f5⟩
 self:=λ_ _ _ _ _ st h=>wpAny_pyIter_listiter st h
theorem S6{P:Program}{w:World}{K:Frag}{tg:Expr}(a it:Addr):Turn P w K tg (Itt K a) [it] it (λi h=>h.IsTupleIter it a i) where
 mem:=by simp
 obj:=λi h st b hb=>by
  have e:b=it:=by simpa using hb
  subst e;obtain⟨o,e,c,d⟩:=st;exact⟨o,e,λv z=>by rw[d]at z;cases z⟩
 keep:=λi h h' st k=>st.at λo e=>k it (by simp) o e
 item:=by
  intro X hP hw hK hc i pins s σ H E I hf st hg;subst hP hw hK;obtain⟨xs,x,hq,hx⟩:=hg;obtain⟨its,rv,p,hz⟩:=I.tuple hq;obtain⟨u,hu,ru⟩:=rv.get hx;obtain⟨f0,f1,f2,f3,f4,f5⟩:=hf it (by simp);refine wpAny_pyNext_tuple_item st (show s.heap.IsTuple a its.toArray from p) (x:=u) (by simpa using hu) λh' st' sb=>?_;have I1:Inv X pins σ H { s with heap:=h' }:=I.turned (t':=s.toks) (λb o hb e=>(sb.2 b hb).trans e) f0 f1 f3 f4 f5;obtain⟨o,e,c,d⟩:=id st';exact⟨u,rfl,O4 (s:={ s with heap:=h' }) e c d (by decide) ⟨x,H,I1,ru,⟨rfl,λys hy=>by rw[I.tuple_inj hy hq];exact hx⟩,st',λb hb=>(hf b hb).1⟩⟩
 done:=by
  intro X hP hw hK hc i pins s σ H E I hf st hg;subst hP hw hK;obtain⟨xs,hq,hx⟩:=hg;obtain⟨its,rv,p,hz⟩:=I.tuple hq;obtain⟨f0,f1,f2,f3,f4,f5⟩:=hf it (by simp);have hl:=rv.length;exact wpAny_pyNext_tuple_end (I.ok.hd hc) st (show s.heap.IsTuple a its.toArray from p) (by simp;lia) λh' eb=>⟨rfl,I.turned (t':=s.toks) (λb o hb e=>eb b o hb e) f0 f1 f3 f4 f5⟩
 self:=λ_ _ _ _ _ st h=>wpAny_pyIter_tupleiter st h
theorem RV{P:Program}{w:World}{K:Frag}{tg:Expr}(it:Addr)(lo:Int)(n:Nat):Turn P w K tg (Itr lo n) [it] it (λi h=>IsRangeIter h it (lo+(i:Nat)*1) ((n:Int)-(i:Nat)) 1) where
 mem:=by simp
 obj:=λi h st b hb=>by
  have e:b=it:=by simpa using hb
  subst e;exact⟨_,st,λv z=>by
   have z':Data.fields _=Data.cell v:=z;cases z'⟩
 keep:=λi h h' st k=>k it (by simp) _ st
 item:=by
  intro X hP hw hK hc i pins s σ H E I hf st hg;subst hP hw hK;obtain⟨f0,f1,f2,f3,f4,f5⟩:=hf it (by simp);have W:=Walks.range (prog:=X.prog) (w:=X.w) (I.ok.hd hc) it lo 1 n;refine W.item i s _ _ hg st λv h' tk hv st' kk=>?_;obtain⟨t,rfl⟩:=hv;have I1:Inv X pins σ H { s with heap:=h',toks:=tk }:=I.turned (λb o hb e=>kk b o (by simpa using hb) e) f0 f1 f3 f4 f5;refine⟨_,rfl,O4 (s:={ s with heap:=h',toks:=tk }) (n:="range_iterator") st' rfl rfl (by decide) ⟨.int (lo+i),H,I1,⟨t,?_⟩,⟨rfl,rfl⟩,st',λb hb=>(hf b hb).1⟩⟩;rw[Int.mul_one]
 done:=by
  intro X hP hw hK hc i pins s σ H E I hf st hg;subst hP hw hK;obtain⟨f0,f1,f2,f3,f4,f5⟩:=hf it (by simp);exact wpAny_pyNext_range_end (I.ok.hd hc) st (by have:n<=i:=hg;lia) λh' eb=>⟨rfl,I.turned (t':=s.toks) (λb o hb e=>eb b o hb e) f0 f1 f3 f4 f5⟩
 self:=λ_ _ _ _ _ st h=>wpAny_pyIter_rangeiter st h
section
variable{X:Cx}{tg:Expr}
def aiN(K:Frag)(tl:TE):TI:=λσ H R=>tl σ H λx H1=>∃a,x=.ref a/\(∃xs,SqL K H1 a xs)/\R (Itl K a) H1
def akU(K:Frag)(tl:TE):TI:=λσ H R=>tl σ H λx H1=>∃a,x=.ref a/\(∃xs,SqT K H1 a xs)/\R (Itt K a) H1
theorem aag{l:Expr}{tl:TE}(hl:PE X l tl):PI X tg l (aiN X.K tl):=by
 intro pins s σ H R I h;refine thn (hl pins s σ H _ I h) λv s1 hP=>?_;obtain⟨x,H1,I1,r1,q1⟩:=hP;obtain⟨a,e,⟨xs,hq⟩,q⟩:=q1;subst e;cases r1;obtain⟨its,rv,p,hz⟩:=I1.list hq;refine wpAny_pyIter_list p.isList ?_;refine⟨s1.heap.objs.size,[s1.heap.objs.size],_,_,H1,rfl,I1.kept (t':=s1.toks) λb o e=>aH _ e,Vu a _,⟨_,aW _ rfl,rfl,rfl⟩,λb hb=>?_,q⟩;have e:b=s1.heap.objs.size:=by simpa using hb
 subst e;exact I1.fpOk (aG _) (I1.hok.fresh (aG _))
theorem adt{l:Expr}{tl:TE}(hl:PE X l tl):PI X tg l (akU X.K tl):=by
 intro pins s σ H R I h;refine thn (hl pins s σ H _ I h) λv s1 hP=>?_;obtain⟨x,H1,I1,r1,q1⟩:=hP;obtain⟨a,e,⟨xs,hq⟩,q⟩:=q1;subst e;cases r1;obtain⟨its,rv,p,hz⟩:=I1.tuple hq;refine wpAny_pyIter_tuple (show s1.heap.IsTuple a its.toArray from p) ?_;refine⟨s1.heap.objs.size,[s1.heap.objs.size],_,_,H1,rfl,I1.kept (t':=s1.toks) λb o e=>aH _ e,S6 a _,⟨_,aW _ rfl,rfl,rfl⟩,λb hb=>?_,q⟩;have e:b=s1.heap.objs.size:=by simpa using hb
 subst e;exact I1.fpOk (aG _) (I1.hok.fresh (aG _))
theorem Om{pins:Δ}{σ:St}{H:Hp}{s:Shared}{R:It->Hp->Prop}{E:Ε}{lo hi:Int}{t u v:Tok}{tk:Nat}(I:Inv X pins σ H s)(h1 : -(2^62)<=lo)(h2:lo<2^62)(h3 : -(2^62)<=hi)(h4:hi<2^62)
 (q:R (Itr lo (hi-lo).toNat) H):wpAny (model X.prog X.w) X.A (pyIter (.ref s.heap.objs.size)) (PIE X pins σ tg R) E { s with heap:=s.heap.push { cls:=.type "range",data:=.fields #[.int lo t,.int hi u,.int 1 v] },toks:=tk }:=by
 refine wpAny_pyIter_range (IsRange.new ..) (small_one h1 h2 h3 h4) ?_;have I1:Inv X pins σ H { s with heap:=s.heap.push { cls:=.type "range",data:=.fields #[.int lo t,.int hi u,.int 1 v] },toks:=tk }:=I.kept λb o e=>aH _ e;refine⟨(s.heap.push { cls:=.type "range",data:=.fields #[.int lo t,.int hi u,.int 1 v] }).objs.size,[(s.heap.push { cls:=.type "range",data:=.fields #[.int lo t,.int hi u,.int 1 v] }).objs.size],_,_,H,rfl,
  I1.kept (t':=tk) λb o e=>aH _ e,RV _ lo (hi-lo).toNat,?_,λb hb=>?_,q⟩
 .have e1:lo+((0:Nat):Int)*1=lo:=by simp
  have e2:(((hi-lo).toNat:Nat):Int)-((0:Nat):Int)=Builtin.Range.rangeSize lo hi 1:=by rw[rangeSize_one];split<;>lia
  show IsRangeIter _ _ (lo+((0:Nat):Int)*1) ((((hi-lo).toNat:Nat):Int)-((0:Nat):Int)) 1;rw[e1,e2];exact aW _ rfl
 .have e:b=(s.heap.push { cls:=.type "range",data:=.fields #[.int lo t,.int hi u,.int 1 v] }).objs.size:=by simpa using hb
  subst e;exact I1.fpOk (aG _) (I1.hok.fresh (aG _))
def ahY(ta:TA):TI:=λσ H R=>ta σ H λvs H1=>∃j:Int,vs=[.int j]/\-(2^62)<=j/\j<2^62/\R (Itr 0 j.toNat) H1
def ahA(ta:TA):TI:=λσ H R=>ta σ H λvs H1=>∃i j:Int,vs=[.int i,.int j]/\(-(2^62)<=i/\i<2^62/\-(2^62)<=j/\j<2^62)/\R (Itr i (j-i).toNat) H1
theorem Vy{a:Expr}{ta:TA}{p pos:Pos}(hg:Gl X "range")(hm:X.mg "range"=none)(ha:PA X [a] ta)(hs:starEach [a] X.env=[(false,eval a X.env)]:=by rfl):PI X tg (.Call (.Name "range" p) [a] [] pos) (ahY ta):=by
 intro pins s σ H R I h;refine Call_ (yF I hg hm boot_range (PyProof.Rows.callWith_type1 (thn (ha pos pins s σ H _ I h) λus s1 hP=>?_) hs rfl));obtain⟨vs,H1,I1,r1,q1⟩:=hP;obtain⟨j,e,q1,q2,q⟩:=q1;subst e;cases r1 with
 |cons r rr =>
  cases rr;obtain⟨t,rfl⟩:=r;exact call_range_1 (Om I1 (XY (by decide)) (Int.lt_of_not_ge (by decide)) q1 q2 (by simpa using q))
theorem VD{a b:Expr}{ta:TA}{p pos:Pos}(hg:Gl X "range")(hm:X.mg "range"=none)(ha:PA X [a,b] ta)(hs:starEach [a,b] X.env=[(false,eval a X.env),(false,eval b X.env)]:=by rfl)(hs2:starEach [b] X.env=[(false,eval b X.env)]:=by rfl) :
  PI X tg (.Call (.Name "range" p) [a,b] [] pos) (ahA ta):=by
 intro pins s σ H R I h;refine Call_ (yF I hg hm boot_range (PyProof.Rows.callWith_type1 (thn (ha pos pins s σ H _ I h) λus s1 hP=>?_) (by rw[hs,hs2]) (by rw[hs2];rfl)));obtain⟨vs,H1,I1,r1,q1⟩:=hP;obtain⟨i,j,e,⟨q1,q2,q3,q4⟩,q⟩:=q1;subst e;cases r1 with
 |cons r rr =>
  cases rr with
  |cons r' rr =>
   cases rr;obtain⟨t,rfl⟩:=r;obtain⟨t',rfl⟩:=r';exact call_range_2 (Om I1 q1 q2 q3 q4 q)
def al8(wi:TI)(g:TG)(tb:TS):TS:=λD σ H=>wi σ H λJ H1=>∃W:Nat->Nat->St->Hp->Prop,(∃m,W 0 m σ H1)/\∀i m σ H,W i m σ H ->
 (J.stop i H/\D.nx σ H)\/(J.go i H/\∃N:St->Hp->Prop,(∀σ' H',N σ' H'->∃m',m'<m/\W (i+1) m' σ' H')/\∀x H',J.yld i H x H'->g x σ H' λσ2 H2=>tb { D with nx:=N,ct:=N,bk:=D.nx } σ2 H2)
noncomputable def G3(fp:Ψ)(h:Heap):Δ:=fp.filterMap λb=>(h.get? b).map λo=>(b,o)
theorem pK{fp:Ψ}{h:Heap}{b:Addr}{o:Obj}(hb:b∈fp)(e:h.get? b=some o):(b,o)∈G3 fp h:=List.mem_filterMap.mpr ⟨b,hb,by rw[e];rfl⟩
theorem V1{fp:Ψ}{h:Heap}{p:Addr×Obj}(hp:p∈G3 fp h):p.1∈fp/\h.get? p.1=some p.2:=by
 obtain⟨b,hb,e⟩:=List.mem_filterMap.mp hp;cases q:h.get? b with
 |none=>rw[q]at e;cases e
 |some o =>
  rw[q]at e;have e':(b,o)=p:=Option.some.inj e;subst e';exact⟨hb,q⟩
theorem Inv.pinned{pins:Δ}{σ:St}{H:Hp}{s:Shared}{fp:Ψ}(I:Inv X pins σ H s)(hf:∀b∈fp,Dm X pins H b)(ho:∀b∈fp,∃o,s.heap.get? b=some o/\∀v,o.data≠.cell v):Inv X (pins++G3 fp s.heap) σ H s :=
 I.pins_of λp hp=>(Y1.mp hp).elim (λz=>I.pin p (aP _ z)) λz=>by
  obtain⟨hb,e⟩:=V1 z;obtain⟨f0,f1,f2,_⟩:=hf p.1 hb;obtain⟨o,e',d⟩:=ho p.1 hb;rw[e]at e';cases e';exact⟨e,f0,f1,f2,d⟩
theorem Inv.unpinned{pins pl:Δ}{σ:St}{H:Hp}{s:Shared}(I:Inv X (pins++pl) σ H s):Inv X pins σ H s:=I.pins_of λp hp=>I.pin p (aP _ (List.mem_append_left _ hp))
theorem ado{iter:Expr}{body:List Stmt}{wi:TI}{g:TG}{tb:TS}{pos:Pos}(hp:PassesOwn (model X.prog X.w) X.A X.env X.xe)(hc:X.calm=true)(hi:PI X tg iter wi)(hg:PG X tg g)(hb:PSs X body tb)
 (hs:∀x,foldedSetIterable iter X.env x=pure x:=by intro _;rfl):PS X (.For tg iter body [] pos) (al8 wi g tb):=by
 intro pins s σ H D I h;refine wpAny_For (thn (hi pins s σ H _ I h) λv s1 h1=>thn h1 λitv s2 h2=>?_) hs;obtain⟨it,fp,tn,J,H2,e,I2,T,st2,f2,W,⟨m0,w0⟩,turn⟩:=h2;subst e

 have stat:∀{H':Hp},(∀b∈fp,H' b=none)->∀b∈fp,Dm X pins H' b:=λhn b hb=>⟨hn b hb,(f2 b hb).2⟩;refine codeAny_forLoop_any (λn s'=>∃i σ' H',Inv X pins σ' H' s'/\tn i s'.heap/\(∀b∈fp,H' b=none)/\W i n σ' H') ?_ m0 ⟨0,σ,H2,I2,st2,λb hb=>(f2 b hb).1,w0⟩;rintro n s3 ⟨i,σ3,H3,I3,st3,fr3,w3⟩;rcases turn i n σ3 H3 w3 with⟨stop,qn⟩|⟨go,N,hN,step⟩
 .refine wpAny_passesOwn hp (thn (T.done X rfl rfl rfl hc i pins s3 σ3 H3 X.xe I3 (stat fr3) st3 stop) λr s4 hP=>?_);obtain⟨hr,I4⟩:=hP;subst hr;exact wpAny_execs_nil ⟨σ3,H3,I4,qn⟩
 .refine wpAny_passesOwn hp (thn (T.item X rfl rfl rfl hc i pins s3 σ3 H3 X.xe I3 (stat fr3) st3 go) λr s4 hP=>?_);obtain⟨u,hr,h4⟩:=hP;subst hr;refine wpAny_passesOwn hp (thn h4 λ_ s5 hP=>?_);obtain⟨x,H5,I5,r5,y5,st5,fr5⟩:=hP;have I5':=I5.pinned (stat fr5) (T.obj _ _ st5);refine wpAny_passesOwn hp (thn (hg _ s5 σ3 H5 x u _ I5' r5 (step x H5 y5)) λ_ s6 hP=>?_);obtain⟨σ6,H6,I6,q6⟩:=hP;refine wpAny_passesOwn hp (thn (hb _ s6 σ6 H6 _ I6 q6) λf s7 q7=>?_);have again:∀{σ7:St}{H7:Hp},Inv X (pins++G3 fp s5.heap) σ7 H7 s7->N σ7 H7->∃m,m<n/\∃i σ' H',Inv X pins σ' H' s7/\tn i s7.heap/\(∀b∈fp,H' b=none)/\W i m σ' H':=λ{σ7 H7}I7 n7=>by
   obtain⟨m',hm,w7⟩:=hN σ7 H7 n7;refine⟨m',hm,i+1,σ7,H7,I7.unpinned,T.keep _ _ _ st5 λb hb o e=>(I7.pin (b,o) (aP _ (aP _ (pK hb e)))).1,λb hb=>?_,w7⟩;obtain⟨o,e,d⟩:=T.obj _ _ st5 b hb;exact(I7.pin (b,o) (aP _ (aP _ (pK hb e)))).2.1
  cases f with
  |next=>obtain⟨σ7,H7,I7,n7⟩:=q7;exact again I7 n7
  |cont=>obtain⟨σ7,H7,I7,n7⟩:=q7;exact again I7 n7
  |brk=>obtain⟨σ7,H7,I7,q7⟩:=q7;exact⟨σ7,H7,I7.unpinned,q7⟩
  |ret v=>obtain⟨x7,σ7,H7,I7,r7,q7⟩:=q7;exact⟨x7,σ7,H7,I7.unpinned,r7,q7⟩
end
abbrev R2:=V->V->Hp->VK->Prop
def OpR(X:Cx)(f:Value->Value->Sem Value)(r:R2):Prop :=
 ∀(pins:Δ)(s:Shared)(σ:St)(H:Hp)(x y:V)(v u:Value)(Q:VK),Inv X pins σ H s->RelV x v->RelV y u->r x y H Q ->
  wpAny (model X.prog X.w) X.A (f v u) (EP X pins σ Q) X.xe s
def UnR(X:Cx)(f:Value->Sem Value)(r:V->Hp->VK->Prop):Prop :=
 ∀(pins:Δ)(s:Shared)(σ:St)(H:Hp)(x:V)(v:Value)(Q:VK),Inv X pins σ H s->RelV x v->r x H Q ->
  wpAny (model X.prog X.w) X.A (f v) (EP X pins σ Q) X.xe s
def iJ(X:Cx)(f:Value)(r:Ζ->Hp->VK->Prop):Prop :=
 ∀(pins:Δ)(s:Shared)(σ:St)(H:Hp)(xs:Ζ)(us:Θ)(Q:VK),Inv X pins σ H s->Vals xs us->r xs H Q ->
  wpAny (model X.prog X.w) X.A (call f us) (EP X pins σ Q) X.xe s
def akr(X:Cx)(r:V->Hp->(Bool->Hp->Prop)->Prop):Prop :=
 ∀(pins:Δ)(s:Shared)(σ:St)(H:Hp)(x:V)(v:Value)(Q:Bool->Hp->Prop),Inv X pins σ H s->RelV x v->r x H Q ->
  wpAny (model X.prog X.w) X.A (truthy v) (TP X pins σ Q) X.xe s
def tOp(r:R2)(ta tb:TE):TE:=λσ H Q=>ta σ H λx H1=>tb σ H1 λy H2=>r x y H2 Q
def tUn(r:V->Hp->VK->Prop)(ta:TE):TE:=λσ H Q=>ta σ H λx H1=>r x H1 Q
def rI(C:Int->Int->Prop)(g:Int->Int->V):R2:=λx y H Q=>∃i j,x=.int i/\y=.int j/\C i j/\Q (g i j) H
def rI0(g:Int->Int->V):R2:=λx y H Q=>∃i j,x=.int i/\y=.int j/\Q (g i j) H
def rU(g:Int->V):V->Hp->VK->Prop:=λx H Q=>∃i,x=.int i/\Q (g i) H
section
variable{X:Cx}{a b c:Expr}{ta tb tc:TE}{pos:Pos}
theorem ad6(ha:PE X a ta)(hb:PE X b tb){pins:Δ}{s:Shared}{σ:St}{H:Hp}{R:V->V->Hp->Prop}(I:Inv X pins σ H s)
 (h:ta σ H λx H1=>tb σ H1 λy H2=>R x y H2){Q:Ε}{f:Value->Value->Sem Value}
 (hf:∀v u s2 x y H2,Inv X pins σ H2 s2->RelV x v->RelV y u->R x y H2->wpAny (model X.prog X.w) X.A (f v u) Q X.xe s2) :
  wpAny (model X.prog X.w) X.A (eval a X.env) (λv s₁=>wpAny (model X.prog X.w) X.A (eval b X.env) (λu s₂=>wpAny (model X.prog X.w) X.A (f v u) Q X.xe s₂) X.xe s₁) X.xe s:=by
 refine thn (ha pins s σ H _ I h) λv s1 hP=>?_;obtain⟨x,H1,I1,r1,q1⟩:=hP;refine thn (hb pins s1 σ H1 _ I1 q1) λu s2 hP=>?_;obtain⟨y,H2,I2,r2,q2⟩:=hP;exact hf v u s2 x y H2 I2 r1 r2 q2
theorem ahw{op:Operator}{r:R2}(ho:OpR X (binaryOp op) r)(ha:PE X a ta)(hb:PE X b tb):PE X (.BinOp a op b pos) (tOp r ta tb):=by
 intro pins s σ H Q I h;exact wpAny_BinOp (ad6 ha hb I h λv u s2 x y H2 I2 rx ry q=>ho pins s2 σ H2 x y v u Q I2 rx ry q)
theorem aj3{op:UnaryOp}{r:V->Hp->VK->Prop}(ho:UnR X (unaryOp op) r)(ha:PE X a ta):PE X (.UnaryOp op a pos) (tUn r ta):=by
 intro pins s σ H Q I h;exact UnaryOp_ (thn (ha pins s σ H _ I h) λv s1 hP=>by obtain⟨x,H1,I1,r1,q1⟩:=hP;exact ho pins s1 σ H1 x v Q I1 r1 q1)
theorem Ci{op:Operator}{r:R2}(ho:OpR X (inplaceOp op) r){pins:Δ}{s:Shared}{σ:St}{H:Hp}{x y:V}{v u:Value}{Q:VK}(I:Inv X pins σ H s)
 (rx:RelV x v)(ry:RelV y u)(q:r x y H Q):wpAny (model X.prog X.w) X.A (inplaceOp op v u) (EP X pins σ Q) X.xe s:=ho pins s σ H x y v u Q I rx ry q
theorem opI{f:Value->Value->Sem Value}{C:Int->Int->Prop}{g:Int->Int->Int}
 (rule:∀(i j:Int)(t u:Tok)(s:Shared)(Q:Ε)(E:Ε),C i j->Q (.int (g i j) s.toks) { s with toks:=s.toks+1 }->wpAny (model X.prog X.w) X.A (f (.int i t) (.int j u)) Q E s) :
  OpR X f (rI C λi j=>.int (g i j)):=by
 intro pins s σ H x y v u Q I rx ry h;obtain⟨i,j,rfl,rfl,hc,q⟩:=h;obtain⟨t,rfl⟩:=rx;obtain⟨t',rfl⟩:=ry;exact rule i j t t' s _ _ hc ⟨.int (g i j),H,I.tok _,⟨_,rfl⟩,q⟩
theorem aij{f:Value->Value->Sem Value}{g:Int->Int->Int}
 (rule:∀(i j:Int)(t u:Tok)(s:Shared)(Q:Ε)(E:Ε),Q (.int (g i j) s.toks) { s with toks:=s.toks+1 }->wpAny (model X.prog X.w) X.A (f (.int i t) (.int j u)) Q E s) :
  OpR X f (rI0 λi j=>.int (g i j)):=by
 intro pins s σ H x y v u Q I rx ry h;obtain⟨i,j,rfl,rfl,q⟩:=h;obtain⟨t,rfl⟩:=rx;obtain⟨t',rfl⟩:=ry;exact rule i j t t' s _ _ ⟨.int (g i j),H,I.tok _,⟨_,rfl⟩,q⟩
theorem aaG{f:Value->Value->Sem Value}{g:Int->Int->Bool}
 (rule:∀(i j:Int)(t u:Tok)(s:Shared)(Q:Ε)(E:Ε),Q (.bool (g i j)) s->wpAny (model X.prog X.w) X.A (f (.int i t) (.int j u)) Q E s) :
  OpR X f (rI0 λi j=>.bl (g i j)):=by
 intro pins s σ H x y v u Q I rx ry h;obtain⟨i,j,rfl,rfl,q⟩:=h;obtain⟨t,rfl⟩:=rx;obtain⟨t',rfl⟩:=ry;exact rule i j t t' s _ _ ⟨.bl (g i j),H,I,rfl,q⟩
def af6(i j:Int):Prop:=0<=j/\j<=1000000/\i.natAbs<2^64
def aaB(i j:Int):Prop:=(-(2^64)<i/\i<2^64)\/(-(2^64)<j/\j<2^64)
theorem aaB.ok{i j:Int}(h:aaB i j):IntMulOk i j:=by
 rcases h with⟨h1,h2⟩|⟨h1,h2⟩
 .exact .of_left (intBits_le_64 h1 h2)
 .exact .of_right (intBits_le_64 h1 h2)
theorem afc:OpR X (binaryOp .Add) (rI0 λi j=>.int (i+j)):=aij λ_ _ _ _ _ _ _ q=>add_int q
theorem aed:OpR X (binaryOp .Sub) (rI0 λi j=>.int (i-j)):=aij λ_ _ _ _ _ _ _ q=>sub_int q
theorem aef:OpR X (binaryOp .Mult) (rI aaB λi j=>.int (i*j)):=opI λ_ _ _ _ _ _ _ hc q=>mul_int q hc.ok
theorem aei:OpR X (binaryOp .Mod) (rI (λ_ j=>0<j) λi j=>.int (i%j)):=opI λi j _ _ _ _ _ hc q=>by
 have h1:(0:Int)<j:=hc;exact mod_int' (Int.ne_of_gt hc) (by rw[Int.fmod_eq_emod_of_nonneg i (XY hc)];exact q)
theorem adD:OpR X (binaryOp .Pow) (rI af6 λi j=>.int (i^j.toNat)):=opI λ_ _ _ _ _ _ _ hc q=>pow_int_small hc.1 hc.2.1 hc.2.2 q
theorem unI{f:Value->Sem Value}{g:Int->Int}
 (rule:∀(i:Int)(t:Tok)(s:Shared)(Q:Ε)(E:Ε),Q (.int (g i) s.toks) { s with toks:=s.toks+1 }->wpAny (model X.prog X.w) X.A (f (.int i t)) Q E s) :
  UnR X f (rU λi=>.int (g i)):=by
 intro pins s σ H x v Q I rx h;obtain⟨i,rfl,q⟩:=h;obtain⟨t,rfl⟩:=rx;exact rule i t s _ _ ⟨.int (g i),H,I.tok _,⟨_,rfl⟩,q⟩
theorem aem:UnR X (unaryOp .USub) (rU λi=>.int (-i)):=unI λ_ _ _ _ _ q=>neg_int q
end
noncomputable def sW:V->V->Bool
 |.non,.non=>true|.non,.int _=>true|.int _,.non=>true|.non,.bl _=>true|.bl _,.non=>true|.non,.str _=>true|.str _,.non=>true
 |.int _,.int _=>true|.bl _,.bl _=>true|.str _,.str _=>true|.byt _,.byt _=>true
 |.int _,.str _=>true|.str _,.int _=>true|.bl _,.str _=>true|.str _,.bl _=>true
 |_,_=>false
def rEq:R2:=λx y H Q=>sW x y=true/\Q (.bl (decide (x=y))) H
def rNe:R2:=λx y H Q=>sW x y=true/\Q (.bl (!decide (x=y))) H
theorem Uo{i j:Int} : decide (V.int i=V.int j)=(i==j):=by
 rw[Bool.eq_iff_iff];simp
theorem WM{i j:Bool} : decide (V.bl i=V.bl j)=(i==j):=by
 rw[Bool.eq_iff_iff];simp
theorem Us{i j:Str} : decide (V.str i=V.str j)=(i==j):=by
 rw[Bool.eq_iff_iff];simp
theorem Ug{i j:Array UInt8} : decide (V.byt i=V.byt j)=(i.toList==j.toList):=by
 rw[Bool.eq_iff_iff];cases i;cases j;simp
section
variable{X:Cx}{a b c:Expr}{ta tb tc:TE}{pos:Pos}
theorem cR{pins:Δ}{σ:St}{H:Hp}{s:Shared}{Q:VK}{k k':Bool}(I:Inv X pins σ H s)(q:Q (.bl k) H)(e:k=k'):EP X pins σ Q (.bool k') s:=by
 subst e;exact⟨.bl k,H,I,rfl,q⟩
theorem aia:OpR X (compareOp .Eq) rEq:=by
 intro pins s σ H x y v u Q I rx ry h;obtain⟨hs,q⟩:=h;cases x with
 |non =>
  cases rx;cases y with
  |non=>cases ry;exact PySem.EqNone.eq_none_none (cR I q (by simp))
  |bl j=>cases ry;exact PySem.EqNone.eq_none_bool (cR I q (by simp))
  |int j=>obtain⟨t',rfl⟩:=ry;exact PySem.EqNone.eq_none_int (cR I q (by simp))
  |str j=>obtain⟨t',rfl⟩:=ry;exact PySem.EqNone.eq_none_str (cR I q (by simp))
  |_=>exact absurd (show false=true from hs) bw
 |bl i =>
  cases rx;cases y with
  |non=>cases ry;exact PySem.EqNone.eq_bool_none (cR I q (by simp))
  |bl j=>cases ry;exact eq_bool (cR I q WM)
  |str j=>obtain⟨t',rfl⟩:=ry;exact PySem.EqMixed.eq_bool_str (cR I q (by simp))
  |_=>exact absurd (show false=true from hs) bw
 |int i =>
  obtain⟨t,rfl⟩:=rx;cases y with
  |non=>cases ry;exact PySem.EqNone.eq_int_none (cR I q (by simp))
  |int j=>obtain⟨t',rfl⟩:=ry;exact eq_int (cR I q Uo)
  |str j=>obtain⟨t',rfl⟩:=ry;exact PySem.EqMixed.eq_int_str (cR I q (by simp))
  |_=>exact absurd (show false=true from hs) bw
 |str i =>
  obtain⟨t,rfl⟩:=rx;cases y with
  |non=>cases ry;exact PySem.EqNone.eq_str_none (cR I q (by simp))
  |bl j=>cases ry;exact PySem.EqMixed.eq_str_bool (cR I q (by simp))
  |int j=>obtain⟨t',rfl⟩:=ry;exact PySem.EqMixed.eq_str_int (cR I q (by simp))
  |str j=>obtain⟨t',rfl⟩:=ry;exact eq_str (cR I q Us)
  |_=>exact absurd (show false=true from hs) bw
 |byt i =>
  obtain⟨t,rfl⟩:=rx;cases y with
  |byt j=>obtain⟨t',rfl⟩:=ry;exact PySem.W.eq_bytes (cR I q Ug)
  |_=>exact absurd (show false=true from hs) bw
 |_=>cases y<;>exact absurd (show false=true from hs) bw
theorem ajz:OpR X (compareOp .NotEq) rNe:=by
 intro pins s σ H x y v u Q I rx ry h;obtain⟨hs,q⟩:=h;cases x with
 |non =>
  cases rx;cases y with
  |non=>cases ry;exact PySem.EqNone.ne_none_none (cR I q (by simp))
  |bl j=>cases ry;exact PySem.EqNone.ne_none_bool (cR I q (by simp))
  |int j=>obtain⟨t',rfl⟩:=ry;exact PySem.EqNone.ne_none_int (cR I q (by simp))
  |str j=>obtain⟨t',rfl⟩:=ry;exact PySem.EqNone.ne_none_str (cR I q (by simp))
  |_=>exact absurd (show false=true from hs) bw
 |bl i =>
  cases rx;cases y with
  |non=>cases ry;exact PySem.EqNone.ne_bool_none (cR I q (by simp))
  |bl j=>cases ry;exact ne_bool (cR I q (ZH not WM))
  |str j=>obtain⟨t',rfl⟩:=ry;exact PySem.EqMixed.ne_bool_str (cR I q (by simp))
  |_=>exact absurd (show false=true from hs) bw
 |int i =>
  obtain⟨t,rfl⟩:=rx;cases y with
  |non=>cases ry;exact PySem.EqNone.ne_int_none (cR I q (by simp))
  |int j=>obtain⟨t',rfl⟩:=ry;exact ne_int (cR I q (ZH not Uo))
  |str j=>obtain⟨t',rfl⟩:=ry;exact PySem.EqMixed.ne_int_str (cR I q (by simp))
  |_=>exact absurd (show false=true from hs) bw
 |str i =>
  obtain⟨t,rfl⟩:=rx;cases y with
  |non=>cases ry;exact PySem.EqNone.ne_str_none (cR I q (by simp))
  |bl j=>cases ry;exact PySem.EqMixed.ne_str_bool (cR I q (by simp))
  |int j=>obtain⟨t',rfl⟩:=ry;exact PySem.EqMixed.ne_str_int (cR I q (by simp))
  |str j=>obtain⟨t',rfl⟩:=ry;exact ne_str (cR I q (ZH not Us))
  |_=>exact absurd (show false=true from hs) bw
 |byt i =>
  obtain⟨t,rfl⟩:=rx;cases y with
  |byt j=>obtain⟨t',rfl⟩:=ry;exact PySem.W.ne_bytes (cR I q (ZH not Ug))
  |_=>exact absurd (show false=true from hs) bw
 |_=>cases y<;>exact absurd (show false=true from hs) bw
theorem ahT:OpR X (compareOp .Lt) (rI0 λi j=>.bl (decide (i<j))):=aaG λ_ _ _ _ _ _ _ q=>lt_int q
theorem afO:OpR X (compareOp .LtE) (rI0 λi j=>.bl (decide (i<=j))):=aaG λ_ _ _ _ _ _ _ q=>le_int q
theorem ahP:OpR X (compareOp .Gt) (rI0 λi j=>.bl (decide (j<i))):=aaG λ_ _ _ _ _ _ _ q=>gt_int q
theorem ahO:OpR X (compareOp .GtE) (rI0 λi j=>.bl (decide (j<=i))):=aaG λ_ _ _ _ _ _ _ q=>ge_int q
theorem adn:OpR X (compareOp .Is) (λx y H Q=>y=.non/\Q (.bl (decide (x=.non))) H):=by
 intro pins s σ H x y v u Q I rx ry h;obtain⟨rfl,q⟩:=h;cases ry;refine is_none_gen (cR I q ?_);cases x<;>first
  |(cases rx;rfl)
  |(obtain⟨t,rfl⟩:=rx;rfl)
theorem abm:OpR X (compareOp .IsNot) (λx y H Q=>y=.non/\Q (.bl (!decide (x=.non))) H):=by
 intro pins s σ H x y v u Q I rx ry h;obtain⟨rfl,q⟩:=h;cases ry;refine isnot_none_gen (cR I q ?_);cases x<;>first
  |(cases rx;rfl)
  |(obtain⟨t,rfl⟩:=rx;rfl)
theorem Yy(b:Expr){op:CmpOp}(h:op≠.In:=by decide)(h2:op≠.NotIn:=by decide):behindInMarks op b=false:=by
 have e1:(op==CmpOp.In)=false:=by cases op<;>first|rfl|exact absurd rfl h
 have e2:(op==CmpOp.NotIn)=false:=by cases op<;>first|rfl|exact absurd rfl h2
 cases b<;>simp[behindInMarks,e1,e2]
theorem aaM{op:CmpOp}{r:R2}(ho:OpR X (compareOp op) r)(ha:PE X a ta)(hb:PE X b tb)(hm:behindInMarks op b=false):PE X (.Compare a [op] [b] pos) (tOp r ta tb):=by
 intro pins s σ H Q I h;exact wpAny_Compare1 (ad6 ha hb I h λv u s2 x y H2 I2 rx ry q=>ho pins s2 σ H2 x y v u Q I2 rx ry q) hm
def Zr(t:TE):TT:=λσ H Q=>t σ H λx H'=>∃k,x=.bl k/\Q k H'
theorem aan{op:CmpOp}{r:R2}(ho:OpR X (compareOp op) r)(ha:PE X a ta)(hb:PE X b tb)(hm:behindInMarks op b=false):PT X (.Compare a [op] [b] pos) (Zr (tOp r ta tb)):=by
 intro pins s σ H Q I h;refine wpAny_isTrue_Compare1 (thn (ha pins s σ H _ I h) λv s1 ⟨x,H1,I1,r1,q1⟩=>thn (hb pins s1 σ H1 _ I1 q1) λu s2 ⟨y,H2,I2,r2,q2⟩ =>
  thn (ho pins s2 σ H2 x y v u _ I2 r1 r2 q2) λc s3 ⟨z,H3,I3,r3,k,e,q3⟩=>?_) hm
 subst e;cases r3;exact wpAny_truthy_bool ⟨H3,I3,q3⟩
def Ke(r r':R2)(ta tb tc:TE):TE:=λσ H Q=>ta σ H λx H1=>tb σ H1 λy H2=>r x y H2 λz H3=>∃k,z=.bl k /\
 (if k=true then tc σ H3 λw' H4=>r' y w' H4 Q else Q (.bl false) H3)
theorem XC{op op':CmpOp}{r r':R2}(ho:OpR X (compareOp op) r)(ho':OpR X (compareOp op') r')(ha:PE X a ta)(hb:PE X b tb)(hc:PE X c tc)
 (hm:lastMarks [op,op'] [b,c]=false:=by with_unfolding_all rfl):PE X (.Compare a [op,op'] [b,c] pos) (Ke r r' ta tb tc):=by
 intro pins s σ H Q I h;refine Compare_chain (thn (ha pins s σ H _ I h) λv s1 ⟨x,H1,I1,r1,q1⟩=>chain_link (thn (hb pins s1 σ H1 _ I1 q1) λu s2 ⟨y,H2,I2,r2,q2⟩ =>
  thn (ho pins s2 σ H2 x y v u _ I2 r1 r2 q2) λd s3 ⟨z,H3,I3,r3,k,e,q3⟩=>?_)) hm
 subst e;cases r3;refine wpAny_truthy_bool ?_;cases k with
 |false=>exact ite_ff ⟨.bl false,H3,I3,rfl,q3⟩
 |true=>exact ite_tt (chain_last (thn (hc pins s3 σ H3 _ I3 q3) λw' s4 hP=>by obtain⟨z',H4,I4,r4,q4⟩:=hP;exact ho' pins s4 σ H4 y z' u w' Q I4 r2 r4 q4))
theorem WD{op op':CmpOp}{r r':R2}(ho:OpR X (compareOp op) r)(ho':OpR X (compareOp op') r')(ha:PE X a ta)(hb:PE X b tb)(hc:PE X c tc)
 (hm:lastMarks [op,op'] [b,c]=false:=by with_unfolding_all rfl):PT X (.Compare a [op,op'] [b,c] pos) (Zr (Ke r r' ta tb tc)):=by
 intro pins s σ H Q I h;refine isTrue_chain (thn (ha pins s σ H _ I h) λv s1 ⟨x,H1,I1,r1,q1⟩=>test_link (thn (hb pins s1 σ H1 _ I1 q1) λu s2 ⟨y,H2,I2,r2,q2⟩ =>
  thn (ho pins s2 σ H2 x y v u _ I2 r1 r2 q2) λd s3 ⟨z,H3,I3,r3,k,e,q3⟩=>?_)) hm
 subst e;cases r3;refine wpAny_truthy_bool ?_;cases k with
 |false =>
  obtain⟨k',e',q'⟩:=q3;cases e';exact ite_ff ⟨H3,I3,q'⟩
 |true =>
  refine ite_tt (test_last (thn (hc pins s3 σ H3 _ I3 q3) λw' s4 ⟨z',H4,I4,r4,q4⟩=>thn (ho' pins s4 σ H4 y z' u w' _ I4 r2 r4 q4) λd' s5 hP=>?_));obtain⟨z2,H5,I5,r5,k2,e2,q5⟩:=hP;subst e2;cases r5;exact wpAny_truthy_bool ⟨H5,I5,q5⟩
def ag4(K:Frag)(x:V)(H:Hp)(k:Bool):Prop :=
 match x with
 |.non=>k=false
 |.bl b=>k=b
 |.int i=>k=(i != 0)
 |.str y=>y.length<=sizeLine/\k=((y.length:Int) != 0)
 |.byt y=>y.size<=sizeLine/\k=((y.size:Int) != 0)
 |.ref p=>(∃xs,SqL K H p xs/\k = !xs.isEmpty)\/(∃xs,SqT K H p xs/\k = !xs.isEmpty)\/∃kvs,H p=some (.dK kvs)/\k = !kvs.isEmpty
 |_=>False
theorem S_{κ:Type}{kvs:List (κ×V)}{vs:List (κ×Value)}(r:KV kvs vs):(!vs.isEmpty) = !kvs.isEmpty:=by
 cases r<;>rfl
theorem Fo{xs:Ζ}{its:Θ}(r:Vals xs its):(!its.toArray.isEmpty) = !xs.isEmpty:=by
 cases r<;>simp
theorem wJ:(sizeLine:Nat)<2^63:=by rw[sizeLine_eq];decide
theorem adM:akr X (λx H Q=>∃k,ag4 X.K x H k/\Q k H):=by
 intro pins s σ H x v Q I rx h;obtain⟨k,e,q⟩:=h;have hl:=wJ;have hs:sizeLine=16777216:=sizeLine_eq;cases x with
 |non =>
  cases rx;have e':k=false:=e;subst e';exact truthy_none ⟨H,I,q⟩
 |bl b =>
  cases rx;have e':k=b:=e;subst e';exact wpAny_truthy_bool ⟨H,I,q⟩
 |int i =>
  obtain⟨t,rfl⟩:=rx;have e':k=(i != 0):=e;subst e';exact PySem.P.truthy_int ⟨H,I,q⟩
 |str y =>
  obtain⟨t,rfl⟩:=rx;obtain⟨hy,e'⟩ : y.length<=sizeLine/\k=((y.length:Int) != 0):=e;subst e';exact PySem.P.truthy_str (by lia) ⟨H,I.tok _,q⟩
 |byt y =>
  obtain⟨t,rfl⟩:=rx;obtain⟨hy,e'⟩ : y.size<=sizeLine/\k=((y.size:Int) != 0):=e;subst e';exact PySem.W.truthy_bytes (aL hy (by decide)) ⟨H,I.tok _,q⟩
 |ref p =>
  cases rx;have e':(∃xs,SqL X.K H p xs/\k = !xs.isEmpty)\/(∃xs,SqT X.K H p xs/\k = !xs.isEmpty)\/∃kvs,H p=some (.dK kvs)/\k = !kvs.isEmpty:=e;rcases e' with⟨xs,hx,e'⟩|⟨xs,hx,e'⟩|⟨kvs,hx,e'⟩
  .subst e';obtain⟨its,r,pl,hz⟩:=I.list hx;have hlen:=r.length;exact wpAny_truthy_list pl.isList (by simp only[aX];lia) ⟨H,I.tok _,by rw[Fo r];exact q⟩
  .subst e';obtain⟨its,r,pl,hz⟩:=I.tuple hx;have hlen:=r.length;exact truthy_tuple pl (by simp only[aX];lia) ⟨H,I.tok _,by rw[Fo r];exact q⟩
  .subst e';obtain⟨hz,hS,vs,r,m⟩ : kvs.length<=sizeLine/\(p==sysModules)=false/\∃vs,KV kvs vs/\s.heap.DictOf (iu X.prog X.w) p vs:=I.hok p _ hx;have hlen:kvs.length=vs.length:=Paired.length r;exact wpAny_truthy_dict hS m (by lia) ⟨H,I.tok _,by rw[S_ r];exact q⟩
 |_=>exact(show False from e).elim
theorem Yw(ha:PE X a ta)(he:∀whole,isTrue a X.env whole=(do let v <- whole;standAt a.pos;holding [v] (truthy v))) :
  PT X a (λσ H Q=>ta σ H λx H'=>∃k,ag4 X.K x H' k/\Q k H'):=by
 intro pins s σ H Q I h;exact isTrue_plain (thn (ha pins s σ H _ I h) λv s1 hP=>by obtain⟨x,H1,I1,r1,q1⟩:=hP;exact adM pins s1 σ H1 x v Q I1 r1 q1) (he _)
theorem Rk:OpR X (binaryOp .Add) (λx y H Q=>∃i j,x=.str i/\y=.str j/\i.length+j.length<=sizeLine/\Q (.str (i++j)) H):=by
 intro pins s σ H x y v u Q I rx ry h;obtain⟨i,j,rfl,rfl,hz,q⟩:=h;obtain⟨t,rfl⟩:=rx;obtain⟨t',rfl⟩:=ry;exact add_str (λt' tk=>⟨.str (i++j),H,I.tok _,⟨_,rfl⟩,q⟩) hz
theorem vals1{x:V}{us:Θ}(r:Vals [x] us):∃u,us=[u]/\RelV x u:=by
 cases r with
 |cons r1 r2=>cases r2;exact⟨_,rfl,r1⟩
theorem WR:iJ X (.builtin "abs") (λxs H Q=>∃i,xs=[.int i]/\Q (.int (if i<0 then -i else i)) H):=by
 intro pins s σ H xs us Q I r h;obtain⟨i,rfl,q⟩:=h;obtain⟨u,rfl,t,rfl⟩:=vals1 r;exact call_abs_int λu tk=>⟨.int (if i<0 then -i else i),H,I.tok _,⟨_,rfl⟩,q⟩
theorem Vo:iJ X (.type "int") (λxs H Q=>(∃i,xs=[.int i]/\Q (.int i) H)\/∃k,xs=[.bl k]/\Q (.int (if k then 1 else 0)) H):=by
 intro pins s σ H xs us Q I r h;rcases h with⟨i,rfl,q⟩|⟨k,rfl,q⟩
 .obtain⟨u,rfl,t,rfl⟩:=vals1 r;exact call_int_int ⟨.int i,H,I,⟨_,rfl⟩,q⟩
 .obtain⟨u,rfl,r1⟩:=vals1 r;cases r1;exact call_int_bool ⟨.int (if k then 1 else 0),H,I.tok _,⟨_,rfl⟩,q⟩
end
structure RW(h:Heap)(x dx C:Addr)(mA:Str->Ω):Prop where
 obj:h.get? x=some (instObj C dx)
 ns:h.Ns1 dx mA
 ne:dx≠x
theorem Wb{h:Heap}{dx:Addr}{mA:Str->Ω}(n:h.Ns1 dx mA):∃od,h.get? dx=some od/\∀name,lookIn name od=some (mA name):=by
 obtain⟨o,es,ep,ho,hd,hk,_,hm⟩:=n;refine⟨o,ho,λname=>?_⟩;have e:=hm name;unfold nsFind findBy at e;rw[<- Array.find?_toList]at e;unfold lookIn;rw[hd];dsimp only;split
 .rename_i y q
  rw[q]at e;exact ZH some e
 .rename_i q
  rw[q]at e;have a:es.toList.any (·.refKey)=false:=by
   rw[List.any_eq_false];intro y hy;obtain⟨z,t,hkey⟩:=hk y (Array.mem_toList_iff.mp hy);simp[DictEntry.refKey,hkey]
  have a':¬es.toList.any (·.refKey)=true:=by rw[a];exact bw
  rw[ZZ a'];exact ZH some e
theorem RW.look{h:Heap}{x dx C:Addr}{mA:Str->Ω}(I:RW h x dx C mA):∃od,PySem.W.InstAt h x (instObj C dx) C (some od)/\∀name,lookIn name od=some (mA name) :=
 let⟨od,ho,hl⟩:=Wb I.ns
 ⟨od,⟨I.obj,rfl,rfl,ho⟩,hl⟩
section
variable{prog:Program}{w:World}{A:Around}{E:Ε}{s:Shared}{K:Frag}{x dx C f:Addr}{mA:Str->Ω}{name:Str}{v:Value}
theorem get_map{expr:Bool}{Q:Ε}(X:K.In s.heap)(I:RW s.heap x dx C mA)(hg:plainGet K C name=true)(hh:hasDictIn K C=true)
 (ha:findIn K (.ref C) name=some none)(hv:mA name=some v)(hv':handedIn v=true)(h:Q v { s with toks:=s.toks+1 }) :
  wpAny (model prog w) A (getAttr (.ref x) name expr) Q E s:=by
 obtain⟨od,J,hl⟩:=I.look;exact PySem.W.get_value X J (plainGet_of hg).1 (PySem.W.findObj_own hh ha rfl (by rw[hl,hv])) hv' h
theorem XF{pl:Sem Bool}{Q:Value×Θ->Shared->Prop}(X:K.In s.heap)(I:RW s.heap x dx C mA)(hg:plainGet K C name=true)
 (hf:findIn K (.ref C) name=some (some (.ref f)))(ht:isFn K (.ref f)=true)(hv:mA name=none)(h:Q (.ref f,[.ref x]) s) :
  wpAny (model prog w) A (getMethod (.ref x) name pl) Q E s:=by
 obtain⟨od,J,hl⟩:=I.look;exact PySem.W.method_fn X J (plainGet_of hg).1 (plainGet_of hg).2 hf (beq_iff_eq.mp ht) (by show(lookIn name od).map (·.isSome)=some false;rw[hl,hv];rfl) h
theorem aa7{ns:Φ}{Q:Unit->Shared->Prop}(X:K.In s.heap)(I:RW s.heap x dx C mA)
 (hs:findIn K (.ref C) "__setattr__"=some (some (.builtin "object.__setattr__")))(hp:plainOver K C=true)(ht:takerIn K C name=some none)(hh:hasDictIn K C=true)
 (hw:PySem.Within mA ns)(hsz:ns.length<=sizeLine)
 (h:∀h',RW h' x dx C (λy=>if y=name then some v else mA y)->Heap.SameBut dx s.heap h'->Q () { s with heap:=h',toks:=s.toks+2 }) :
  wpAny (model prog w) A (setAttr (.ref x) name v) Q E s:=by
 obtain⟨od,J,hl⟩:=I.look;refine PySem.W.set_plain X J hs (PySem.W.osa_open (s:={ s with toks:=s.toks+1 }) (r:=none) X J hp ht λb=>?_);obtain⟨cd,hc,hd'⟩:=PySem.W.any_some hh;have hx:s.heap.get? x=some ⟨.ref C,some dx,.plain,#[]⟩:=I.obj;refine ZU (ZT (ZU (ZU (wpAny_loadPart hx (ZU (PySem.W.Looks.here (s:={ s with toks:=s.toks+1 }) (PySem.W.looks_clsIn X hc) ?_))))));rw[hd'];refine ZT (a:=some dx) (ZU (ZT (ZU ?_)));refine wpAny_nsSet1 (s:={ s with toks:=s.toks+1 }) I.ns λh' hn2 hs2=>?_;obtain⟨oD,esD,epD,hoD,hdD,hcD⟩:=hn2.count (PySem.Within.cons name v hw);refine ZU (wpAny_lookBehind hoD (by rw[hdD];exact pastItsLine_dict (aL hcD (by rw[List.length_cons];exact Nat.succ_le_succ hsz))) ?_);exact ZT (h _ ⟨(hs2.2 _ (Ne.symm I.ne)).trans I.obj,hn2,I.ne⟩ hs2)
theorem YM{R:Result->Shared->Prop}{vs:Θ}{kw:List (Str×Value)}(X:K.In s.heap)(hm:makesIn K C=true)
 (hi:findIn K (.ref C) "__init__"=some (some (.ref f)))(hf:PySem.W.typeIn K (.ref f)=some (.type "function"))
 (h:codeAny (model prog w) (A.under (.builtin "type.__call__" ⟨.ref C::vs,kw⟩)) (.call (.ref f) ⟨.ref (s.heap.objs.size+1)::vs,kw⟩) (PySem.W.InitBack (s.heap.objs.size+1) R)
   { s with heap:=(s.heap.push emptyDict).push (instObj C s.heap.objs.size) }) :
  codeAny (model prog w) A (.call (.ref C) ⟨vs,kw⟩) R s:=by
 obtain⟨hh,g,d,t,os⟩:=s;exact PySem.W.make_core (PySem.W.makes_of X hm) (PySem.W.looks_findIn X hi) (λself=>PySem.W.bind_fn X self hf) (.inl rfl) h
end
noncomputable def uz(f:Str)(v:V):List (Str×V)->List (Str×V)
 |[]=>[(f,v)]
 |(g,x)::r=>if g=f then(g,v)::r else(g,x)::uz f v r
theorem CZ(f g:Str)(v:V):∀fs:List (Str×V),(uz f v fs).lookup g=if g=f then some v else fs.lookup g
 |[]=>by
  show List.lookup g [(f,v)]=_;by_cases h:g=f
  .have hb:(g==f)=true:=beq_iff_eq.mpr h;simp only[List.lookup,hb,ZY h]
  .have hb:(g==f)=false:=beq_eq_false_iff_ne.mpr h;simp only[List.lookup,hb,ZZ h]
 |(k,x)::r=>by
  have ih:=CZ f g v r;rw[show uz f v ((k,x)::r)=(if k=f then(k,v)::r else(k,x)::uz f v r)from rfl];by_cases hk:k=f
  .rw[ZY hk];by_cases h:g=k
   .have hb:(g==k)=true:=beq_iff_eq.mpr h;simp only[List.lookup,hb,ZY (h.trans hk)]
   .have hb:(g==k)=false:=beq_eq_false_iff_ne.mpr h;simp only[List.lookup,hb,ZZ (λe:g=f=>h (e.trans hk.symm))]
  .rw[ZZ hk];by_cases h:g=k
   .have hb:(g==k)=true:=beq_iff_eq.mpr h;simp only[List.lookup,hb,ZZ (λe:g=f=>hk (h.symm.trans e))]
   .have hb:(g==k)=false:=beq_eq_false_iff_ne.mpr h;simp only[List.lookup,hb];exact ih
theorem BX(f:Str)(v:V):∀fs:List (Str×V),f∈(uz f v fs).map (·.1)/\∀g,g∈fs.map (·.1)->g∈(uz f v fs).map (·.1)
 |[]=>⟨by simp[uz],λg h=>by simp at h⟩
 |(k,x)::r=>by
  obtain⟨i1,i2⟩:=BX f v r;rw[show uz f v ((k,x)::r)=(if k=f then(k,v)::r else(k,x)::uz f v r)from rfl];by_cases hk:k=f
  .rw[ZY hk];subst hk;exact⟨by simp,λg h=>by simpa using h⟩
  .rw[ZZ hk];refine⟨?_,λg h=>?_⟩
   .rw[List.map_cons];exact aJ _ i1
   .rw[List.map_cons]at h ⊢;rcases YU.mp h with e|e
    .exact YU.mpr (.inl e)
    .exact aJ _ (i2 g e)
theorem Dd(f:Str)(v:V):∀fs:List (Str×V),(uz f v fs).length<=fs.length+1
 |[]=>by simp[uz]
 |(k,x)::r=>by
  have ih:=Dd f v r;rw[show uz f v ((k,x)::r)=(if k=f then(k,v)::r else(k,x)::uz f v r)from rfl];by_cases hk:k=f
  .rw[ZY hk,List.length_cons,List.length_cons];exact Xs _
  .rw[ZZ hk,List.length_cons,List.length_cons];exact Nat.succ_le_succ ih
theorem xM.some_of{v:V}{o:Ω}(r:xM (some v) o):∃u,o=some u/\RelV v u:=by
 cases o with
 |none=>exact(show False from r).elim
 |some u=>exact⟨u,rfl,r⟩
theorem xM.none_of{o:Ω}(r:xM none o):o=none:=by
 cases o with
 |none=>rfl
 |some u=>exact(show False from r).elim
theorem Vt{v:V}{u:Value}(r:RelV v u):handedIn u=true:=by
 cases v with
 |non=>cases(show u=Value.none from r);rfl
 |bl b=>cases(show u=Value.bool b from r);rfl
 |int i=>obtain⟨t,e⟩:=(show ∃t,u=Value.int i t from r);cases e;rfl
 |str x=>obtain⟨t,e⟩:=(show ∃t,u=Value.str x t from r);cases e;rfl
 |byt b=>obtain⟨t,e⟩:=(show ∃t,u=Value.bytes b t from r);cases e;rfl
 |flt b=>obtain⟨t,e⟩:=(show ∃t,u=Value.float b t from r);cases e;rfl
 |ref a=>cases(show u=Value.ref a from r);rfl
 |ty n=>cases(show u=Value.type n from r);rfl
section
variable{P:Program}{w:World}{H H':Hp}{h h':Heap}{a C dx:Addr}{fs fs':List (Str×V)}
theorem En(hok:HOk P w H h)(e:H a=some (.ins C dx fs)):∃mA,RW h a dx C mA/\(∀f,xM (fs.lookup f) (mA f))/\PySem.Within mA (fs.map (·.1))/\fs.length<=1000/\H dx=some (.own a):=by
 obtain⟨d,z,ne,ob,mA,n,r,q⟩:=(show fQ P w H h a (.ins C dx fs)from hok a _ e);exact⟨mA,⟨ob,n,ne⟩,r,q,z,d⟩
end
structure Cls(K:Frag)(C:Addr):Prop where
 pg:plainGet K C Str.empty=true
 hd:hasDictIn K C=true
 po:plainOver K C=true
 sa:findIn K (.ref C) "__setattr__"=some (some (.builtin "object.__setattr__"))
theorem Cls.get{K:Frag}{C:Addr}(c:Cls K C)(f:Str):plainGet K C f=true:=c.pg
def cj(K:Frag)(C:Addr)(f:Str):Prop:=findIn K (.ref C) f=some none
theorem cj.taker{K:Frag}{C:Addr}{f:Str}(n:cj K C f):takerIn K C f=some none:=by
 unfold takerIn;rw[show findIn K (.ref C) f=some none from n]
 rfl
structure Meth(K:Frag)(C:Addr)(m:Str)(f:Addr):Prop where
 at_:findIn K (.ref C) m=some (some (.ref f))
 fn:isFn K (.ref f)=true
 kp:keepIn K (.ref f)=true
section
variable{X:Cx}{pins:Δ}{σ:St}{H:Hp}{s:Shared}{a C dx:Addr}{fs:List (Str×V)}{f:Str}{v:V}{A:Around}{E:Ε}
theorem RZ{b:Bool}{Q:Ε}(I:Inv X pins σ H s)(e:H a=some (.ins C dx fs))(c:Cls X.K C)(n:cj X.K C f)(l:fs.lookup f=some v)
 (h:∀u s',Inv X pins σ H s'->RelV v u->Q u s'):wpAny (model X.prog X.w) A (getAttr (.ref a) f b) Q E s:=by
 obtain⟨mA,O,r,_,_,_⟩:=En I.hok e;obtain⟨u,hu,ru⟩:=xM.some_of (v:=v) (o:=mA f) (by rw[<- l];exact r f);exact get_map I.kIn O (c.get f) c.hd n hu (Vt ru) (h u _ (I.tok _) ru)
theorem Fz{m:Str}{g:Addr}{pl:Sem Bool}{Q:Value×Θ->Shared->Prop}(I:Inv X pins σ H s)(e:H a=some (.ins C dx fs))(c:Cls X.K C)(k:Meth X.K C m g)(l:fs.lookup m=none)
 (h:Q (.ref g,[.ref a]) s):wpAny (model X.prog X.w) A (getMethod (.ref a) m pl) Q E s:=by
 obtain⟨mA,O,r,_,_,_⟩:=En I.hok e;have hn:mA m=none:=xM.none_of (by rw[<- l];exact r m);exact XF I.kIn O (c.get m) k.at_ k.fn hn h
theorem Sw{y:V}{u:Value}{Q:Unit->Shared->Prop}(I:Inv X pins σ H s)(e:H a=some (.ins C dx fs))(c:Cls X.K C)(n:cj X.K C f)(hl:fs.length<1000)(ry:RelV y u)
 (h:∀s',Inv X pins σ (upd H a (.ins C dx (uz f y fs))) s'->Q () s'):wpAny (model X.prog X.w) A (setAttr (.ref a) f u) Q E s:=by
 obtain⟨mA,O,r,wi,_,ho⟩:=En I.hok e;have hz:(fs.map (·.1)).length<=sizeLine:=by rw[ak,sizeLine_eq];exact aL (Y2 hl) (by decide)
 refine aa7 I.kIn O c.sa c.po n.taker c.hd wi hz λh' O' sb=>h _ ?_;have hd:∃o,h'.get? dx=some o:=by obtain⟨o,_,_,e',_⟩:=O'.ns;exact⟨o,e'⟩
 refine I.write (x:=a) (e:=dx) (by rw[e];exact True.intro) (.inr ho) (λb q hb z=>(sb.2 b hb).trans z) hd ?_;refine⟨by rw[cC O.ne];exact ho,?_,O.ne,O'.obj,_,O'.ns,λg=>?_,λg hg=>?_⟩
 .have:=Dd f y fs;lia
 .show xM ((uz f y fs).lookup g) (if g=f then some u else mA g);rw[CZ];by_cases q:g=f
  .rw[ZY q,ZY q];exact ry
  .rw[ZZ q,ZZ q];exact r g
 .by_cases q:g=f
  .rw[q];exact(BX f y fs).1
  .refine(BX f y fs).2 g (wi g λz=>hg ?_);show(if g=f then some u else mA g)=none;rw[ZZ q];exact z
theorem Inv.made(I:Inv X pins σ H s):Inv X pins σ (upd (upd H s.heap.objs.size (.own (s.heap.objs.size+1))) (s.heap.objs.size+1) (.ins C s.heap.objs.size []))
  { s with heap:=(s.heap.push emptyDict).push (instObj C s.heap.objs.size) }:=by
 have e1:(s.heap.push emptyDict).get? s.heap.objs.size=some emptyDict:=aW s.heap rfl;have e2:((s.heap.push emptyDict).push (instObj C s.heap.objs.size)).get? (s.heap.objs.size+1)=some (instObj C s.heap.objs.size):=by
  have:=aW (s.heap.push emptyDict) (o:=instObj C s.heap.objs.size) rfl;rwa[Heap.size_push]at this
 have e3:(s.heap.push emptyDict).Ns s.heap.objs.size (λ_=>none):=⟨emptyDict,#[],_,e1,rfl,(λe he=>absurd he (by simp)),λ_=>rfl⟩;have I1:=I.laid (a:=s.heap.objs.size) (o:=.own (s.heap.objs.size+1)) (h':=s.heap.push emptyDict) (t':=s.toks) (λb u q=>aH _ q) (aG _) ⟨_,e1⟩;refine I1.laid (a:=s.heap.objs.size+1) (o:=.ins C s.heap.objs.size []) (t':=s.toks) (λb u q=>aH _ q) (Nat.le_of_eq (Heap.size_push _ _)) ?_;have ne:s.heap.objs.size≠s.heap.objs.size+1:=aQ (X0 _);refine⟨by rw[cC ne,cF],aZ _,ne,e2,λ_=>none,(Heap.Ns1.of_empty e3).at λo q=>aH _ q,λ_=>True.intro,λy hy=>absurd rfl hy⟩
theorem abZ{prog:Program}{w:World}{env:Env}{e:Expr}{f:Str}{pos:Pos}{s:Shared}{Q:Ε}(hb:attributeBase e f env (eval e env)=eval e env)
 (h:wpAny (model prog w) A (eval e env) (λo s₁=>wpAny (model prog w) A (getAttr o f true) Q E s₁) E s):wpAny (model prog w) A (eval (.Attribute e f pos) env) Q E s :=
 Attribute_any_ h (by rw[arm_eval_Attribute,hb])
end
def ajo(K:Frag)(ta:TE)(f:Str):TE:=λσ H Q=>ta σ H λx H1=>∃a C dx fs v,x=.ref a/\H1 a=some (.ins C dx fs)/\Cls K C/\cj K C f/\fs.lookup f=some v/\Q v H1
def ajZ(K:Frag)(ta tv:TE)(f:Str):TS:=λD σ H=>tv σ H λy H1=>ta σ H1 λx H2=>∃a C dx fs,x=.ref a/\H2 a=some (.ins C dx fs)/\Cls K C/\cj K C f/\fs.length<1000 /\
 D.nx σ (upd H2 a (.ins C dx (uz f y fs)))
section
variable{X:Cx}{o e value:Expr}{f:Str}{pos pos' tpos:Pos}{ta tv:TE}
theorem Zv(he:PE X e ta)(hb:attributeBase e f X.env (eval e X.env)=eval e X.env):PE X (.Attribute e f pos) (ajo X.K ta f):=by
 intro pins s σ H Q I h;refine abZ hb (thn (he pins s σ H _ I h) λu s1 h=>?_);obtain⟨x,H1,I1,rx,a,C,dx,fs,v,rfl,ea,c,n,l,q⟩:=h;obtain rfl:u=Value.ref a:=rx;exact RZ I1 ea c n l λu' s2 I2 ru=>⟨v,H1,I2,ru,q⟩
theorem adC(ha:PE X o ta)(hv:PE X value tv)(hs:swapsWith value (some (.Attribute o f pos')) pos.line X.env=pure false):PS X (.Assign [.Attribute o f pos'] value pos) (ajZ X.K ta tv f):=by
 intro pins s σ H D I h;refine plainObj_wpAny_Assign_Attribute (thn (hv pins s σ H _ I h) λu s1 ⟨y,H1,I1,ry,q⟩=>thn (ha pins s1 σ H1 _ I1 q) λov s2 h=>?_) hs;obtain⟨x,H2,I2,rx,a,C,dx,fs,rfl,ea,c,n,l,q2⟩:=h;obtain rfl:ov=Value.ref a:=rx;exact Sw I2 ea c n l ry λs3 I3=>⟨σ,_,I3,q2⟩
end
section
variable{X:Cx}{pins:Δ}{σ:St}{H:Hp}{s:Shared}{A:Around}{E:Ε}{Q:Ε}{c:Value}{b:Bool}
inductive Cm(K:Frag)(H:Hp):V->Value->Prop where
 |non:Cm K H .non (.type "NoneType")
 |bl (x:Bool):Cm K H (.bl x) (.type "bool")
 |int (i:Int):Cm K H (.int i) (.type "int")
 |str (x:Str):Cm K H (.str x) (.type "str")
 |flt (x:UInt64):Cm K H (.flt x) (.type "float")
 |lst {a:Addr}{xs:Ζ} (e:H a=some (.lst xs)):Cm K H (.ref a) (.type "list")
 |frz {a:Addr}{o:Obj}{xs:Ζ} (e:H a=some (.frz o (.lst xs))):Cm K H (.ref a) (.type "list")
 |tup {a:Addr}{xs:Ζ} (e:H a=some (.tup xs)):Cm K H (.ref a) (.type "tuple")
 |dK {a:Addr}{kvs:List (Key×V)} (e:H a=some (.dK kvs)):Cm K H (.ref a) (.type "dict")
 |ins {a C dx:Addr}{fs:List (Str×V)} (e:H a=some (.ins C dx fs)) (cl:Cls K C) (ha:findIn K (.ref C) "__class__"=some (some (.builtin "object.__class__")))
   (hn:specialIn K (.builtin "object.__class__") "__get__"=some (some (.builtin "getset_descriptor.__get__"))) (htk:takesIn K (.builtin "object.__class__")=some true)
   (hm:mroIn K C (.type "object")=some true):Cm K H (.ref a) (.ref C)
theorem Wq{x:V}{u t:Value}(I:Inv X pins σ H s)(rx:RelV x u)(ty:Cm X.K H x t)(e:kitOne X.K t c=some b)(h:∀tk,Q (.bool b) { s with toks:=tk }) :
  wpAny (model X.prog X.w) A (call (.builtin "isinstance") [u,c]) Q E s:=by
 cases ty with
 |non=>cases(show u=Value.none from rx);exact kia_one PySem.W.kitx_none I.kIn True.intro e (λz=>nomatch z) h
 |bl y=>cases(show u=Value.bool y from rx);exact kia_one PySem.W.kitx_bool I.kIn True.intro e (λz=>nomatch z) h
 |int i=>obtain⟨t,q⟩:=(show ∃t,u=Value.int i t from rx);cases q;exact kia_one PySem.W.kitx_int I.kIn True.intro e (λz=>nomatch z) h
 |str y=>obtain⟨t,q⟩:=(show ∃t,u=Value.str y t from rx);cases q;exact kia_one PySem.W.kitx_str I.kIn True.intro e (λz=>nomatch z) h
 |flt y=>obtain⟨t,q⟩:=(show ∃t,u=Value.float y t from rx);cases q;exact kia_one PySem.W.kitx_float I.kIn True.intro e (λz=>nomatch z) h
 |@lst a xs ea =>
  cases(show u=Value.ref a from rx);obtain⟨_,_,n,_,h1⟩:=(show fQ X.prog X.w H s.heap a (.lst xs)from I.hok a _ ea);exact kia_one kitx_list I.kIn ⟨_,h1,rfl⟩ e (λz=>nomatch z) h
 |@frz a ob xs ea =>
  cases(show u=Value.ref a from rx);obtain⟨_,_,_,n,_,h1⟩:=(show fQ X.prog X.w H s.heap a (.frz ob (.lst xs))from I.hok a _ ea);exact kia_one kitx_list I.kIn ⟨_,h1,rfl⟩ e (λz=>nomatch z) h
 |@tup a xs ea =>
  cases(show u=Value.ref a from rx);obtain⟨_,_,_,p⟩:=(show fQ X.prog X.w H s.heap a (.tup xs)from I.hok a _ ea);obtain⟨o,h1,h2,_⟩:=p;exact kia_one kitx_tuple I.kIn ⟨o,h1,h2⟩ e (λz=>nomatch z) h
 |@dK a kvs ea =>
  cases(show u=Value.ref a from rx);obtain⟨_,_,vs,_,p⟩:=(show fQ X.prog X.w H s.heap a (.dK kvs)from I.hok a _ ea);obtain⟨o,es,ep,h1,h2,_⟩:=p;exact kia_one PySem.W.kitx_dict I.kIn ⟨o,h1,h2.1⟩ e (λz=>nomatch z) h
 |@ins a C dx fs ea cl ha hn htk hm =>
  cases(show u=Value.ref a from rx);obtain⟨mA,O,_⟩:=En I.hok ea;obtain⟨od,J,_⟩:=O.look;exact kia_one (PySem.W.kitx_own (cl.get _) cl.hd ha hn htk hm) I.kIn J e (λz=>nomatch z) h
end
structure eX(k:Nat)(A:Around):Prop where
 hd:A.handled=none
 dp:A.depth+3*k+5<recursionLimit
 un:A.units+16*k+200<cLine
theorem eX.mono{j k:Nat}{A:Around}(r:eX k A)(h:j<=k):eX j A:=⟨r.hd,by have:=r.dp;lia,by have:=r.un;lia⟩
theorem eX.md{k n:Nat}{A:Around}(h:eX n A)(e:k<=n:=by decide):eX k A:=h.mono e
theorem eX.deeper{k:Nat}{A:Around}(r:eX (k+1) A)(env:Env):eX k (A.deeper env) :=
 ⟨r.hd,by have:=r.dp;show A.depth+1+3*k+5<_;lia,by have:=r.un;show A.units+3+16*k+200<_;lia⟩
theorem R_{A:Around}{C:Addr}{us:Θ}{kw:List (Str×Value)} : (A.under (.builtin "type.__call__" ⟨.ref C::us,kw⟩)).depth=A.depth+1:=by
 first|rfl|simp[Around.under,Code.weight,Code.isCreation,Code.isGuard,Code.isCaller,Code.frames,Code.isFrame,guardIds]
theorem Tp{A:Around}{C:Addr}{us:Θ}{kw:List (Str×Value)} : (A.under (.builtin "type.__call__" ⟨.ref C::us,kw⟩)).units=A.units+1:=by
 first|rfl|simp[Around.under,Code.cUnits,Code.frames,Code.isFrame]
theorem eX.make{k:Nat}{A:Around}(r:eX (k+1) A)(C:Addr)(us:Θ)(kw:List (Str×Value)):eX k (A.under (.builtin "type.__call__" ⟨.ref C::us,kw⟩)) :=
 ⟨r.hd,by have:=r.dp;rw[R_];lia,by have:=r.un;rw[Tp];lia⟩
theorem eX.depth{k:Nat}{A:Around}(r:eX k A):A.depth<recursionLimit:=by have:=r.dp;lia
theorem eX.units{k:Nat}{A:Around}(r:eX k A):A.units+64<cLine:=by have:=r.un;lia
def abx:TA:=λ_ H Q=>Q [] H
def aco(ta:TE)(tr:TA):TA:=λσ H Q=>ta σ H λx H1=>tr σ H1 λxs H2=>Q (x::xs) H2
section
variable{X:Cx}{e:Expr}{es:List Expr}{te:TE}{t:TA}{pos:Pos}
theorem NQ:PA X [] abx:=λ_ _ _ _ H Q I h=>Calls.spliced_nil ⟨[],H,I,.nil,h⟩
theorem nF(ha:PE X e te)(hr:PA X es t)(hs:starEach (e::es) X.env=(false,eval e X.env)::starEach es X.env:=by rfl):PA X (e::es) (aco te t):=by
 intro pos pins s σ H Q I h;rw[hs];show wpAny _ _ (spliced ((false,eval e X.env)::backTo pos (starEach es X.env))) _ _ s;refine Calls.spliced_cons (thn (ha pins s σ H _ I h) λu s1 hP=>?_);obtain⟨x,H1,I1,r1,q1⟩:=hP;exact thn (hr pos pins s1 σ H1 _ I1 q1) λus s2 hP=>by obtain⟨xs,H2,I2,r2,q2⟩:=hP;exact⟨x::xs,H2,I2,.cons r1 r2,q2⟩
def agc(t:TA):TE:=λσ H Q=>t σ H λxs H1=>xs.length<=sizeLine/\∀p,H1 p=none->Q (.ref p) (upd H1 p (.tup xs))
def agD(t:TA):TE:=λσ H Q=>t σ H λxs H1=>xs.length<=sizeLine/\∀p,H1 p=none->Q (.ref p) (upd H1 p (.lst xs))
theorem ad8{x1}(h:PA X es t):PE X (.Tuple es x1 pos) (agc t):=by
 intro pins s σ H Q I hq;refine wpAny_Tuple_spliced (thn (h pos pins s σ H _ I hq) λus s1 ⟨xs,H1,I1,r,z,q⟩=>⟨by rw[<- r.length];exact z,?_⟩);have hf:H1 s1.heap.objs.size=none:=I1.hok.fresh (aG _);refine⟨.ref s1.heap.objs.size,upd H1 s1.heap.objs.size (.tup xs),I1.laid (t':=s1.toks) (λb u e=>aH _ e) (aG _) ?_,rfl,q _ hf⟩;exact⟨z,us,r,⟨_,aW _ rfl,rfl,_,rfl⟩⟩
theorem aeE(h:PA X es t):PE X (.List es pos) (agD t):=by
 intro pins s σ H Q I hq;refine wpAny_List_spliced (thn (h pos pins s σ H _ I hq) λus s1 ⟨xs,H1,I1,r,z,q⟩=>⟨by rw[<- r.length];exact z,?_⟩);have hf:H1 s1.heap.objs.size=none:=I1.hok.fresh (aG _);refine⟨.ref s1.heap.objs.size,upd H1 s1.heap.objs.size (.lst xs),I1.laid (t':=s1.toks) (λb u e=>aH _ e) (aG _) ?_,rfl,q _ hf⟩;exact⟨z,us,0,r,aW _ rfl⟩
end
abbrev Sp:=Ζ->Hp->VK->XK->Prop
abbrev CXT:=List Env->Hp->Shared->XK->Value->Shared->Prop
structure N5(P:Program)(w:World)(K:Frag)(mg:Str->Ω)(base:Heap)(A:Around)(outer:List Env)(s:Shared)(H:Hp):Prop where
 frames:A.frames=some outer
 mod:Mod K mg base
 bs:∀b o,base.get? b=some o->s.heap.get? b=some o/\H b=none
 bsz:base.objs.size<=s.heap.objs.size
 funs:s.heap.FunFrames base outer
 frf:∀b∈frs outer,H b=none
 hok:HOk P w H s.heap
 bare:AllBare s.gens
def CE(outer:List Env)(P:Program)(w:World)(H:Hp)(s:Shared)(Q:VK)(u:Value)(s':Shared):Prop :=
 ∃v H',s'.os=s.os/\AllBare s'.gens/\Un (frs outer) [] H H' s.heap s'.heap/\HOk P w H' s'.heap/\RelV v u/\Q v H'
def CR(CX:CXT)(outer:List Env)(P:Program)(w:World)(H:Hp)(s:Shared)(Q:VK)(E:XK)(r:Result)(s':Shared):Prop :=
 match r with
 |.ok (.ret u)=>CE outer P w H s Q u s'
 |.ok _=>False
 |.error e=>CX outer H s E e s'
structure b_(P:Program)(w:World)(K:Frag)(mg:Str->Ω)(base:Heap)(CX:CXT)(k:Nat)(f:Addr)(fd:FuncData)(ps:Φ)(sp:Sp):Prop where
 len:∀vs H Q E,sp vs H Q E->vs.length=ps.length
 run:∀(A:Around)(outer:List Env)(s:Shared)(H:Hp)(args:Args)(us:Θ)(vs:Ζ)(Q:VK)(E:XK),eX k A->N5 P w K mg base A outer s H->BindsTo s fd args (ps.zip us)->Vals vs us->sp vs H Q E ->
  codeAny (model P w) A (.call (.ref f) args) (CR CX outer P w H s Q E) s
theorem b_.imp{P:Program}{w:World}{K:Frag}{mg:Str->Ω}{base:Heap}{CX:CXT}{k:Nat}{f:Addr}{fd:FuncData}{ps:Φ}{sp sp':Sp}(F:b_ P w K mg base CX k f fd ps sp)
 (h:∀vs H Q E,sp' vs H Q E->sp vs H Q E):b_ P w K mg base CX k f fd ps sp' :=
 ⟨λvs H Q E q=>F.len vs H Q E (h _ _ _ _ q),λA outer s H args us vs Q E hr he hb hv hs=>F.run A outer s H args us vs Q E hr he hb hv (h _ _ _ _ hs)⟩
theorem N5.make{P:Program}{w:World}{K:Frag}{mg:Str->Ω}{base:Heap}{A:Around}{outer:List Env}{s:Shared}{H:Hp}(e:N5 P w K mg base A outer s H)(C:Addr)(us:Θ)(kw:List (Str×Value)) :
  N5 P w K mg base (A.under (.builtin "type.__call__" ⟨.ref C::us,kw⟩)) outer s H:=⟨by first|exact e.frames|(simpa[Around.under,Code.envs,Code.isFrame,pushEnvs]using e.frames),e.mod,e.bs,e.bsz,e.funs,e.frf,e.hok,e.bare⟩
section
variable{X:Cx}{pins:Δ}{σ:St}{H:Hp}{s s':Shared}
theorem Inv.env0(I:Inv X pins σ H s):N5 X.prog X.w X.K X.mg X.base X.A X.stack s H :=
 ⟨I.ok.frames,I.ok.mod,I.bs,aL I.ok.bsz I.sz,I.stack,I.stkFree,I.hok,I.bare⟩
theorem Inv.after{Q:VK}{u:Value}(I:Inv X pins σ H s)(h:CE X.stack X.prog X.w H s Q u s'):EP X pins σ Q u s':=by
 obtain⟨v,H',os,bare,un,hok,r,q⟩:=h;obtain⟨hh,g,d,t,os'⟩:=s';obtain rfl:os'=s.os:=os;exact⟨v,H',I.call (h':=hh) (g':=g) (d':=d) (t':=t) (ch:=[]) un hok bare (λb z=>absurd z (by simp)),r,q⟩
end
def ahE(sp:Sp)(dvs:Ζ)(E:XK)(t:TA):TE:=λσ H Q=>t σ H λvs H1=>sp (vs++dvs) H1 Q E
def acs(C:Addr)(m:Str)(sp:Sp)(dvs:Ζ)(E:XK)(ta:TE)(t:TA):TE:=λσ H Q=>ta σ H λx H1=>∃a dx fs,x=.ref a/\H1 a=some (.ins C dx fs)/\fs.lookup m=none /\
 t σ H1 λvs H2=>sp (x::(vs++dvs)) H2 Q E
def aiR(C:Addr)(sp:Sp)(dvs:Ζ)(E:XK)(t:TA):TE:=λσ H Q=>t σ H λvs H1=>∀x dx,H1 x=none->H1 dx=none->dx≠x ->
 sp (.ref x::(vs++dvs)) (upd (upd H1 dx (.own x)) x (.ins C dx [])) (λv H2=>v=.non/\Q (.ref x) H2) E
def Binds(K:Frag)(fd:FuncData)(ps:Φ)(ds:Θ):Prop :=
 ∀(s:Shared)(us:Θ),K.In s.heap->(us++ds).length=ps.length->BindsTo s fd ⟨us,[]⟩ (ps.zip (us++ds))
theorem Binds.all{K:Frag}{fd:FuncData}{ps:Φ}(h:∀us:Θ,us.length=ps.length->bindArgs fd ⟨us,[]⟩=pure (ps.zip us)):Binds K fd ps []:=λs us _ hl=>by
 rw[List.append_nil]at hl ⊢;exact .of_eq (h us hl)
def Passes(CX:CXT)(X:Cx)(E:XK):Prop:=∀(pins:Δ)(σ:St)(H:Hp)(s:Shared)(e:Value)(s':Shared),Inv X pins σ H s->CX X.stack H s E e s'->X.xe e s'
section
variable{X:Cx}{CX:CXT}{k:Nat}{f C:Addr}{fd:FuncData}{ps:Φ}{sp:Sp}{dvs:Ζ}{ds:Θ}{E:XK}{x m:Str}{p pos apos:Pos}{e o:Expr}{es:List Expr}{ta:TE}{t:TA}
theorem MP{pins:Δ}{σ:St}{H:Hp}{s:Shared}{Q:VK}{us:Θ}{vs:Ζ}(F:b_ X.prog X.w X.K X.mg X.base CX k f fd ps sp)(hr:eX k X.A)(hb:Binds X.K fd ps ds)(hd:Vals dvs ds)(hx:Passes CX X E)
 (I:Inv X pins σ H s)(r:Vals vs us)(h:sp (vs++dvs) H Q E):wpAny (model X.prog X.w) X.A (call (.ref f) us) (EP X pins σ Q) X.xe s:=by
 have r2:Vals (vs++dvs) (us++ds):=r.append hd;have hl:(us++ds).length=ps.length:=by rw[<- r2.length];exact F.len _ _ _ _ h
 refine wpAny_call (codeAny_mono (F.run X.A X.stack s H ⟨us,[]⟩ (us++ds) (vs++dvs) Q E hr I.env0 (hb s us I.kIn hl) r2 h) λr s' hq=>?_);cases r with
 |error e=>exact hx pins σ H s e s' I hq
 |ok fl =>
  cases fl with
  |ret u=>exact I.after hq
  |next=>exact False.elim hq
  |brk=>exact False.elim hq
  |cont=>exact False.elim hq
theorem abC(F:b_ X.prog X.w X.K X.mg X.base CX k f fd ps sp)(hr:eX k X.A)(hg:Gl X x)(hm:X.mg x=some (.ref f))(hk:keepIn X.K (.ref f)=true)(hb:Binds X.K fd ps ds)(hd:Vals dvs ds)(hx:Passes CX X E)
 (ha:PA X (e::es) t)(hdb:(x==("__debug__":Str))=false:=by decide)(he:starEach (e::es) X.env=(false,eval e X.env)::starEach es X.env:=by rfl)(hpl:(backTo pos (starEach es X.env)).any (·.1)=false:=by rfl) :
  PE X (.Call (.Name x p) (e::es) [] pos) (ahE sp dvs E t):=by
 intro pins s σ H Q I h;refine wpAny_Call_Name_kw (E_ I hg hm ?_ hdb);refine callWith_K (h₀:=X.base) I.ok.mod.kin hk (thn (ha pos pins s σ H _ I h) λus s1 ⟨vs,H1,I1,r,q⟩=>⟨I1.kIn,?_⟩) he hpl;exact MP F hr hb hd hx I1 r q
theorem aai{pl:Sem Bool}(he:PE X o ta)(c:Cls X.K C)(hm:Meth X.K C m f)(F:b_ X.prog X.w X.K X.mg X.base CX k f fd ps sp)(hr:eX k X.A)(hb:Binds X.K fd ps ds)(hd:Vals dvs ds)(hx:Passes CX X E)(ha:PA X (e::es) t)
 (hst:starEach (e::es) X.env=(false,eval e X.env)::starEach es X.env:=by rfl)(hpl:(backTo pos (starEach es X.env)).any (·.1)=false:=by rfl)
 (ht:eval (.Call (.Attribute o m apos) (e::es) [] pos) X.env=(do
   let ov <- eval o X.env
   standAt apos.atName
   let(f,first) <- holding [ov] (getMethod ov m pl)
   callWith pos f first (backTo pos (starEach (e::es) X.env)) (backToKw pos (keywordEach [] X.env))):=by rfl) :
  PE X (.Call (.Attribute o m apos) (e::es) [] pos) (acs C m sp dvs E ta t):=by
 intro pins s σ H Q I h;refine methodCall_KW (pl:=pl) (thn (he pins s σ H _ I h) λu s1 hP=>?_) ht;obtain⟨x,H1,I1,rx,a,dx,fs,ex,ea,l,q⟩:=hP;subst ex;obtain rfl:u=Value.ref a:=rx;refine Fz I1 ea c hm l ?_;refine callWith_K (first:=[.ref a]) (h₀:=X.base) I.ok.mod.kin hm.kp (thn (ha pos pins s1 σ H1 _ I1 q) λus s2 ⟨vs,H2,I2,r,q2⟩=>⟨I2.kIn,?_⟩) hst hpl;exact MP (us:=.ref a::us) (vs:=.ref a::vs) F hr hb hd hx I2 (.cons rfl r) q2
theorem Zt{pl:Sem Bool}(he:PE X o ta)(c:Cls X.K C)(hm:Meth X.K C m f)(F:b_ X.prog X.w X.K X.mg X.base CX k f fd ps sp)(hr:eX k X.A)(hb:Binds X.K fd ps ds)(hd:Vals dvs ds)(hx:Passes CX X E)
 (ht:eval (.Call (.Attribute o m apos) [] [] pos) X.env=(do
   let ov <- eval o X.env
   standAt apos.atName
   let(f,first) <- holding [ov] (getMethod ov m pl)
   callWith pos f first (backTo pos (starEach [] X.env)) (backToKw pos (keywordEach [] X.env))):=by rfl) :
  PE X (.Call (.Attribute o m apos) [] [] pos) (acs C m sp dvs E ta abx):=by
 intro pins s σ H Q I h;refine methodCall_KW (pl:=pl) (thn (he pins s σ H _ I h) λu s1 hP=>?_) ht;obtain⟨x,H1,I1,rx,a,dx,fs,ex,ea,l,q⟩:=hP;subst ex;obtain rfl:u=Value.ref a:=rx;refine Fz I1 ea c hm l ?_;exact PySem.W.callWith_K0 (first:=[.ref a]) I1.kIn hm.kp (MP (us:=[.ref a]) (vs:=[.ref a]) F hr hb hd hx I1 (.cons rfl .nil) q)
structure Mk(K:Frag)(C f:Addr):Prop where
 makes:makesIn K C=true
 init:findIn K (.ref C) "__init__"=some (some (.ref f))
 fn:isFn K (.ref f)=true
 kp:keepIn K (.ref C)=true
theorem YK{pins:Δ}{σ:St}{H:Hp}{s:Shared}{Q:VK}{us:Θ}{vs:Ζ}(M:Mk X.K C f)(F:b_ X.prog X.w X.K X.mg X.base CX k f fd ps sp)(hr:eX (k+1) X.A)(hb:Binds X.K fd ps ds)(hd:Vals dvs ds)
 (hx:Passes CX X E)(I:Inv X pins σ H s)(r:Vals vs us)
 (h:∀x dx,H x=none->H dx=none->dx≠x->sp (.ref x::(vs++dvs)) (upd (upd H dx (.own x)) x (.ins C dx [])) (λv H2=>v=.non/\Q (.ref x) H2) E) :
  wpAny (model X.prog X.w) X.A (call (.ref C) us) (EP X pins σ Q) X.xe s:=by
 have hq:=h (s.heap.objs.size+1) s.heap.objs.size (I.hok.fresh (Xs _)) (I.hok.fresh (aG _)) (aQ (X0 _));have I2:=Inv.made (C:=C) I;have r2:Vals (V.ref (s.heap.objs.size+1)::(vs++dvs)) (Value.ref (s.heap.objs.size+1)::(us++ds)):=.cons rfl (r.append hd);have hl:(Value.ref (s.heap.objs.size+1)::us++ds).length=ps.length:=by
  have e:=r2.length;rw[F.len _ _ _ _ hq]at e;exact e.symm
 refine wpAny_call (YM (f:=f) I.kIn M.makes M.init (beq_iff_eq.mp M.fn) (codeAny_mono (F.run _ X.stack _ _ ⟨Value.ref (s.heap.objs.size+1)::us,[]⟩ (Value.ref (s.heap.objs.size+1)::(us++ds)) _ _ E (hr.make C us [])
  (I2.env0.make C us []) (hb _ (Value.ref (s.heap.objs.size+1)::us) I2.kIn hl) r2 hq) λr s' hq'=>?_))
 cases r with
 |error e=>exact hx pins σ _ _ e s' I2 hq'
 |ok fl =>
  cases fl with
  |ret u =>
   obtain⟨v,H',I3,rv,ev,q3⟩:=I2.after hq';subst ev;exact⟨rv,⟨V.ref (s.heap.objs.size+1),H',I3,rfl,q3⟩⟩
  |next=>exact False.elim hq'
  |brk=>exact False.elim hq'
  |cont=>exact False.elim hq'
theorem aak(M:Mk X.K C f)(F:b_ X.prog X.w X.K X.mg X.base CX k f fd ps sp)(hr:eX (k+1) X.A)(hg:Gl X x)(hm:X.mg x=some (.ref C))(hb:Binds X.K fd ps ds)(hd:Vals dvs ds)(hx:Passes CX X E)
 (ha:PA X (e::es) t)(hdb:(x==("__debug__":Str))=false:=by decide)(he:starEach (e::es) X.env=(false,eval e X.env)::starEach es X.env:=by rfl)(hpl:(backTo pos (starEach es X.env)).any (·.1)=false:=by rfl) :
  PE X (.Call (.Name x p) (e::es) [] pos) (aiR C sp dvs E t):=by
 intro pins s σ H Q I h;refine wpAny_Call_Name_kw (E_ I hg hm ?_ hdb);refine callWith_K (h₀:=X.base) I.ok.mod.kin M.kp (thn (ha pos pins s σ H _ I h) λus s1 ⟨vs,H1,I1,r,q⟩=>⟨I1.kIn,?_⟩) he hpl;exact YK M F hr hb hd hx I1 r q
end
structure bK(N P:Φ)(sc:Scope):Prop where
 kind:sc.kind=.function
 co:sc.isCoroutine=false
 gen:sc.isGenerator=false
 nd:N.Nodup
 pre:N.take P.length=P
 par:∀x∈P,sc.names.lookup x=some .local\/sc.names.lookup x=some .cell
 nofree:∀y∈sc.names,y.2≠.free
theorem JC{kindOf:Str->Option NameKind}{x:Str} : ∀{binds:List (Str×Value)}{m:Str->Ω},(∀v,(x,v)∉binds)->bindL kindOf binds m x=m x
 |[],_,_=>rfl
 |(n,v)::r,m,h=>by
  unfold bindL;rw[JC λw hw=>h w (aJ _ hw)];split
  .have:x≠n:=by rintro rfl;exact h v aO
   simp[this]
  .rfl
theorem JB{kindOf:Str->Option NameKind}{x:Str} : ∀{binds:List (Str×Value)}{m:Str->Ω},(∀v,(x,v)∉binds)->bindC kindOf binds m x=m x
 |[],_,_=>rfl
 |(n,v)::r,m,h=>by
  unfold bindC;rw[JB λw hw=>h w (aJ _ hw)];split
  .rfl
  .have:x≠n:=by rintro rfl;exact h v aO
   simp[this]
theorem Jt{kindOf:Str->Option NameKind}{x:Str}{v:Value} : ∀{P:Φ}{vs:Θ}{i:Nat}{m:Str->Ω},P.Nodup->P[i]?=some x->vs[i]?=some v->kindOf x=some .local ->
  bindL kindOf (P.zip vs) m x=some v
 |[],_,_,_,_,h,_,_=>by simp at h
 |_::_,[],_,_,_,_,h,_=>by simp at h
 |p::P,w::vs,0,m,nd,h1,h2,hk=>by
  simp at h1 h2;subst h1;subst h2;show bindL kindOf ((p,w)::P.zip vs) m p=_;unfold bindL;rw[JC λv hv=>(List.nodup_cons.mp nd).1 (List.of_mem_zip hv).1,ZY hk];simp
 |p::P,w::vs,i+1,m,nd,h1,h2,hk=>by
  show bindL kindOf ((p,w)::P.zip vs) m x=_;unfold bindL;exact Jt (i:=i) (List.nodup_cons.mp nd).2 (by simpa using h1) (by simpa using h2) hk
theorem Jm{kindOf:Str->Option NameKind}{x:Str}{v:Value} : ∀{P:Φ}{vs:Θ}{i:Nat}{m:Str->Ω},P.Nodup->P[i]?=some x->vs[i]?=some v->kindOf x≠some .local ->
  bindC kindOf (P.zip vs) m x=some v
 |[],_,_,_,_,h,_,_=>by simp at h
 |_::_,[],_,_,_,_,h,_=>by simp at h
 |p::P,w::vs,0,m,nd,h1,h2,hk=>by
  simp at h1 h2;subst h1;subst h2;show bindC kindOf ((p,w)::P.zip vs) m p=_;unfold bindC;rw[JB λv hv=>(List.nodup_cons.mp nd).1 (List.of_mem_zip hv).1,ZZ hk];simp
 |p::P,w::vs,i+1,m,nd,h1,h2,hk=>by
  show bindC kindOf ((p,w)::P.zip vs) m x=_;unfold bindC;exact Jm (i:=i) (List.nodup_cons.mp nd).2 (by simpa using h1) (by simpa using h2) hk
noncomputable def start(N:Φ)(vs:Ζ):St:=vs.map some++List.replicate (N.length-vs.length) none
def M5(CX:CXT)(P:Program)(w:World)(K:Frag)(mg:Str->Ω)(base:Heap)(N:Φ)(qual:Str)(scope:Scope)(f:Addr)(cd:Value)(A:Around)(outer:List Env)(s:Shared)(H:Hp)(E:XK):Cx where
 prog:=P
 w:=w
 K:=K
 mg:=mg
 base:=base
 A:=A.deeper (envOfC qual scope s.heap.objs.size f cd)
 N:=N
 s₀:=s
 H₀:=H
 env:=envOfC qual scope s.heap.objs.size f cd
 outer:=outer
 stack:=envOfC qual scope s.heap.objs.size f cd::outer
 ex:=[]
 calm:=true
 fn:=λ_=>true
 pn:=[]
 xe:=λe s'=>wpAny (model P w) (A.deeper (envOfC qual scope s.heap.objs.size f cd)) (leaving (envOfC qual scope s.heap.objs.size f cd) e) (λ_ s''=>CX outer H s E e s'') (λe' s''=>CX outer H s E e' s'') s'
theorem Q0{sc:Scope}{n:Nat}{x:Str}(h:sc.names.lookup x=some .cell):∃c,(cellsFrom n sc.names []).lookup x=some c:=by
 have q:=PySem.W.cellsFrom_some sc.names n [] (.inl h);exact Option.isSome_iff_exists.mp q
theorem V7{CX:CXT}{P:Program}{w:World}{K:Frag}{mg:Str->Ω}{base:Heap}{N ps:Φ}{qual:Str}{scope:Scope}{f:Addr}{cd:Value}{A:Around}{outer:List Env}{s s1:Shared}{H:Hp}{E:XK}{us:Θ}{vs:Ζ}
 (S:bK N ps scope)(hd:A.handled=none)(e0:N5 P w K mg base A outer s H)(hl:vs.length=ps.length)(r:Vals vs us)
 (x:InCallC s s.heap.objs.size (bindL (envOfC qual scope s.heap.objs.size f cd).kindOf (ps.zip us) λ_=>none) (cellsFrom (s.heap.objs.size+1) scope.names []) (bindC (envOfC qual scope s.heap.objs.size f cd).kindOf (ps.zip us) λ_=>none) s1) :
  Inv (M5 CX P w K mg base N qual scope f cd A outer s H E) [] (start N vs) H s1:=by
 have hpl:ps.length<=N.length:=by have:=ZH List.length S.pre;rw[aY]at this;lia
 obtain⟨h1,tk,rfl,hk⟩:=x.done;have noA:∀b:Addr,b∉(M5 CX P w K mg base N qual scope f cd A outer s H E).ex:=λb z=>absurd (show b∈([] : Ψ)from z) (by simp);refine⟨⟨e0.mod,S.kind,rfl,rfl,aG _,λy z c h1 h2=>?_,λy hy=>?_,λy c _ h=>?_,λ_=>hd,Around.frames_deeper e0.frames,.inr ⟨rfl,rfl⟩,λb z=>absurd z (noA b),e0.bs,e0.bsz,λb _ _=>noA b,λb z=>absurd z (noA b),e0.funs,e0.frf⟩,
  rfl,e0.bare,Un.kept hk,⟨_,x.toInCall.ns,λi y v h1 h2 h3=>?_⟩,λy c h=>⟨_,x.cell y c h⟩,e0.hok.fresh (aG _),λy c h=>?_,λp hp=>absurd (show p∈([] : Δ)from hp) (by simp),e0.hok.kept hk,?_⟩
 .exact name_of_addr x.apart (PySem.mem_of_lookup h1) (PySem.mem_of_lookup h2)
 .have hy:scope.names.lookup y=some .cell\/scope.names.lookup y=some .free:=hy;rcases hy with hy|hy
  .exact Q0 hy
  .exact absurd rfl (S.nofree _ (PySem.mem_of_lookup hy))
 .exact Y2 (x.above y c (PySem.mem_of_lookup h))
 .have hi:i<vs.length:=by
   unfold start at h2;by_cases hi:i<vs.length
   .exact hi
   .rw[aD (by simpa using hi)]at h2;rw[XG]at h2;split at h2<;>cases h2
  have ha:vs[i]?=some v:=by
   unfold start at h2;rw[aF (by simpa using hi),aq]at h2;cases e:vs[i]? with
   |none=>rw[e]at h2;cases h2
   |some a=>rw[e]at h2;cases h2;rfl
  obtain⟨u,hu,rv⟩:=r.get ha;have hp:ps[i]?=some y:=by
   rw[<- S.pre,List.getElem?_take_of_lt (aR hi (Nat.le_of_eq hl))];exact h1
  have ndP:ps.Nodup:=by rw[<- S.pre];exact S.nd.sublist (List.take_sublist _ _)
  refine⟨u,rv,?_⟩;rcases S.par y (aC hp)with k|k
  .exact .inl ⟨k,Jt ndP hp hu k⟩
  .obtain⟨c,e⟩:=Q0 (n:=s.heap.objs.size+1) k;refine .inr ⟨.inl k,c,e,?_⟩;have q:=x.cell y c e;rw[Jm ndP hp hu (by show scope.names.lookup y≠_;rw[k];decide)]at q;exact q
 .exact e0.hok.fresh (Y2 (x.above y c (PySem.mem_of_lookup h)))
 .unfold start;show _=N.length;rw[aA,ak,aN];lia
theorem ahz{CX:CXT}{P:Program}{w:World}{K:Frag}{mg:Str->Ω}{base:Heap}{k:Nat}{f:Addr}{name qual:Str}{params:Arguments}{body:List Stmt}{scope:Scope}{dV kV doc pm cdv ct oc:Value}{an od:Ξ}
 {osl:Array (Ω)}{N ps:Φ}{sp:Sp}(lk:K.lookup f=some ⟨oc,od,.func (PySem.W.fnOf name qual params body scope dV kV doc pm an cdv ct),osl⟩)(hcd:codeIn K cdv qual=true)(S:bK N ps scope)
 (len:∀vs H Q E,sp vs H Q E->vs.length=ps.length)
 (hbody:∀(A:Around)(outer:List Env)(s:Shared)(H:Hp)(vs:Ζ)(Q:VK)(E:XK),eX k (A.deeper (envOfC qual scope s.heap.objs.size f cdv))->sp vs H Q E ->
   ∃t,PSs (M5 CX P w K mg base N qual scope f cdv A outer s H E) body t/\t { nx:=λ_ H'=>Q .non H',rt:=Q } (start N vs) H) :
  b_ P w K mg base CX (k+1) f (PySem.W.fnOf name qual params body scope dV kV doc pm an cdv ct) ps sp:=by
 refine⟨len,λA outer s H args us vs Q E hr e0 hb r hsp=>?_⟩;have hl:=len _ _ _ _ hsp;have KX:K.In s.heap:=e0.mod.kin.keeps λb o e=>(e0.bs b o e).1;have lim:s.heap.NoLimit:=e0.mod.nolimit.keeps λb o e=>(e0.bs b o e).1;have hkind:∀y∈ps.zip us,scope.names.lookup y.1=some .local\/(scope.names.lookup y.1=some .cell/\((cellsFrom (s.heap.objs.size+1) scope.names []).lookup y.1).isSome=true):=λ⟨n,v⟩ hy=>by
  rcases S.par n (List.of_mem_zip hy).1 with q|q
  .exact .inl q
  .exact .inr ⟨q,PySem.W.cellsFrom_some _ _ _ (.inl q)⟩
 refine codeAny_call_function hr.depth (KX _ _ lk) rfl S.co S.gen rfl (PySem.W.codeRec_of KX hcd) (hb _ _ _ _ ?_);refine wpAny_newFunctionEnv_cells S.kind hkind λenv he s1 x=>?_;subst he;refine⟨lim.keeps x.toInCall.keep,codeAny_func ?_⟩;obtain⟨t,ht,hq⟩:=hbody A outer s H vs Q E (hr.deeper _) hsp;have I:Inv (M5 CX P w K mg base N qual scope f cdv A outer s H E) [] (start N vs) H s1:=V7 S hr.hd e0 hl r x;refine wpAny_mono (ht [] s1 (start N vs) H _ I hq) (λfl s' hs=>?_) λe s' hs=>hs;have fin:∀{σ':St}{H':Hp}{v:V}{u:Value},Inv (M5 CX P w K mg base N qual scope f cdv A outer s H E) [] σ' H' s'->RelV v u->Q v H'->CE outer P w H s Q u s' :=
  λ{σ' H' v u}J rv q=>⟨v,H',J.os,J.bare,J.base,J.hok,rv,q⟩
 cases fl with
 |ret u =>
  obtain⟨v,σ',H',J,rv,q⟩:=hs;exact fin J rv q
 |next =>
  obtain⟨σ',H',J,q⟩:=hs;exact fin (v:=V.non) (u:=Value.none) J rfl q
 |brk =>
  obtain⟨_,_,_,q⟩:=hs;exact False.elim q
 |cont =>
  obtain⟨_,_,_,q⟩:=hs;exact False.elim q
section
variable{X:Cx}{x:Str}{p pos:Pos}{e:Expr}{es:List Expr}{t:TA}{id T:String}{r:Ζ->Hp->VK->Prop}
def tCB(r:Ζ->Hp->VK->Prop)(t:TA):TE:=λσ H Q=>t σ H λvs H1=>r vs H1 Q
theorem Ql(hc:iJ X (.builtin id) r)(hg:Gl X x)(hm:X.mg x=none)(hv:bootBuiltins x=some (.builtin id))(ha:PA X (e::es) t)(hn:x≠"__name__":=by decide)(hdb:(x==("__debug__":Str))=false:=by decide)
 (he:starEach (e::es) X.env=(false,eval e X.env)::starEach es X.env:=by rfl)(hpl:(backTo pos (starEach es X.env)).any (·.1)=false:=by rfl):PE X (.Call (.Name x p) (e::es) [] pos) (tCB r t):=by
 intro pins s σ H Q I h;refine wpAny_Call_Name_kw (yF I hg hm hv ?_ hn hdb);exact PyProof.Rows.callWith_builtin1 (thn (ha pos pins s σ H _ I h) λus s1 hP=>by obtain⟨vs,H1,I1,r1,q1⟩:=hP;exact hc pins s1 σ H1 vs us Q I1 r1 q1) he hpl
theorem Wf(hc:iJ X (.type T) r)(hg:Gl X x)(hm:X.mg x=none)(hv:bootBuiltins x=some (.type T))(ha:PA X (e::es) t)(hn:x≠"__name__":=by decide)(hdb:(x==("__debug__":Str))=false:=by decide)
 (he:starEach (e::es) X.env=(false,eval e X.env)::starEach es X.env:=by rfl)(hpl:(backTo pos (starEach es X.env)).any (·.1)=false:=by rfl):PE X (.Call (.Name x p) (e::es) [] pos) (tCB r t):=by
 intro pins s σ H Q I h;refine wpAny_Call_Name_kw (yF I hg hm hv ?_ hn hdb);exact PyProof.Rows.callWith_type1 (thn (ha pos pins s σ H _ I h) λus s1 hP=>by obtain⟨vs,H1,I1,r1,q1⟩:=hP;exact hc pins s1 σ H1 vs us Q I1 r1 q1) he hpl
end
end L2
namespace HT
open PySem PyProof.Rows
section
variable{prog:Program}{w:World}{A:Around}{E:Ε}{s:Shared}
noncomputable def sIx(n d:Nat):Option Int->Nat
 |none=>d
 |some v=>if v<0 then(v+(n:Int)).toNat else min v.toNat n
theorem Af(n d k:Nat):sIx n d (some (k:Int))=min k n:=by
 show(if(k:Int)<0 then((k:Int)+(n:Int)).toNat else min (k:Int).toNat n)=min k n;rw[ZZ (Int.not_lt_of_ge (X9 _)),Int.toNat_natCast]
theorem ae3(n d:Nat)(hd:d<=n)(o:Option Int):sIx n d o<=n:=by
 cases o with
 |none=>exact hd
 |some v =>
  show(if v<0 then(v+(n:Int)).toNat else min v.toNat n)<=n;by_cases hv:v<0
  .rw[ZY hv];lia
  .rw[ZZ hv];exact Nat.min_le_right _ _
end
end HT
namespace L2
open PySem PySem.Spec PyProof.Rows
abbrev TO:=St->Hp->(Option Int->Hp->Prop)->Prop
def PO(X:Cx)(e:Option Expr)(t:TO):Prop :=
 ∀(pins:Δ)(s:Shared)(σ:St)(H:Hp)(Q:Option Int->Hp->Prop),Inv X pins σ H s->t σ H Q ->
  wpAny (model X.prog X.w) X.A (evalPart e X.env) (λu s'=>∃o H',Inv X pins σ H' s'/\IsPart u o/\Q o H') X.xe s
def Ut:TO:=λ_ H Q=>Q none H
def acC(t:TE):TO:=λσ H Q=>t σ H λx H1=>∃i,x=.int i/\Q (some i) H1
theorem intsAre_of{ns:List Int} : ∀{us:Θ},Vals (ns.map V.int) us->IntsAre us ns:=by
 induction ns with
 |nil=>intro us r;rw[List.map_nil]at r;cases r;exact .nil
 |cons n ns ih =>
  intro us r;rw[List.map_cons]at r;cases r with
  |cons r1 r2 =>
   obtain⟨t,e⟩:=r1;subst e;exact .cons n t (ih r2)
section
variable{X:Cx}{e:Expr}{te:TE}{lo hi:Option Expr}{tl th:TO}{pos p2:Pos}
theorem aap:PO X none Ut:=by
 intro pins s σ H Q I h;rw[evalPart_none];exact ZT ⟨none,H,I,.none,h⟩
theorem abp(h:PE X e te):PO X (some e) (acC te):=by
 intro pins s σ H Q I hw;rw[evalPart_some];refine thn (h pins s σ H _ I hw) λu s1 hP=>?_;obtain⟨x,H1,I1,r1,q1⟩:=hP;obtain⟨i,rfl,q⟩:=q1;obtain⟨t,rfl⟩:=r1;exact⟨some i,H1,I1,.int i t,q⟩
def SlR(X:Cx)(r:V->Option Int->Option Int->Hp->VK->Prop):Prop :=
 ∀(pins:Δ)(s:Shared)(σ:St)(H:Hp)(x:V)(v vl vu:Value)(lo hi:Option Int)(sl:Addr)(Q:VK),Inv X pins σ H s->RelV x v->s.heap.IsSliceOf sl vl vu .none->IsPart vl lo->IsPart vu hi->r x lo hi H Q ->
  ∃T id,typeLookup (.type T) "__getitem__"=pure (some (.builtin id))/\s.TypeIs v T/\wpAny (model X.prog X.w) X.A (getItem v (.ref sl)) (EP X pins σ Q) X.xe s
theorem SlR.or{r r':V->Option Int->Option Int->Hp->VK->Prop}(h:SlR X r)(h':SlR X r'):SlR X (λx lo hi H Q=>r x lo hi H Q\/r' x lo hi H Q):=by
 intro pins s σ H x v vl vu lo hi sl Q I rx hs pl pu q;rcases q with q|q
 .exact h pins s σ H x v vl vu lo hi sl Q I rx hs pl pu q
 .exact h' pins s σ H x v vl vu lo hi sl Q I rx hs pl pu q
def tSl(r:V->Option Int->Option Int->Hp->VK->Prop)(te:TE)(tl th:TO):TE:=λσ H Q=>te σ H λx H1=>tl σ H1 λl H2=>th σ H2 λu H3=>r x l u H3 Q
theorem Zq{r:V->Option Int->Option Int->Hp->VK->Prop}(hr:SlR X r)(he:PE X e te)(hl:PO X lo tl)(hu:PO X hi th):PE X (.Subscript e (.Slice lo hi none p2) pos) (tSl r te tl th):=by
 intro pins s σ H Q I h;refine Subscript_ (thn (he pins s σ H _ I h) λv s1 hP=>?_);obtain⟨x,H1,I1,r1,q1⟩:=hP;refine wpAny_Slice (thn (hl pins s1 σ H1 _ I1 q1) λvl s2 ⟨l,H2,I2,pl,q2⟩=>thn (hu pins s2 σ H2 _ I2 q2) λvu s3 hP=>?_);obtain⟨u,H3,I3,pu,q3⟩:=hP;rw[evalPart_none];refine ZT ?_;have I4:Inv X pins σ H3 { s3 with heap:=s3.heap.push { cls:=.type "slice",data:=.fields #[vl,vu,.none] } }:=I3.kept (t':=s3.toks) λb ob q=>aH _ q;obtain⟨T,id,hT,ht,hg⟩:=hr pins { s3 with heap:=s3.heap.push { cls:=.type "slice",data:=.fields #[vl,vu,.none] } } σ H3 x v vl vu l u s3.heap.objs.size Q I4 r1 (Heap.IsSliceOf.new ..) pl pu q3;show wpAny (model X.prog X.w) X.A (subscriptTail e (.Slice lo hi none p2) v (.ref s3.heap.objs.size)) (EP X pins σ Q) X.xe { s3 with heap:=s3.heap.push { cls:=.type "slice",data:=.fields #[vl,vu,.none] } };exact tail_any (ops:=[.ref s3.heap.objs.size,v]) ht hT hg (by with_unfolding_all rfl)
noncomputable def Wj(xs:Ζ)(lo hi:Option Int):Ζ:=(xs.drop (HT.sIx xs.length 0 lo)).take (HT.sIx xs.length xs.length hi-HT.sIx xs.length 0 lo)
theorem OJ(xs:Ζ)(lo hi:Option Int):(Wj xs lo hi).length<=xs.length:=by
 unfold Wj;rw[aY,List.length_drop];lia
end
noncomputable def ixN(n:Nat)(i:Int):Option Nat:=if 0<=i then(if i<n then some i.toNat else none)else if -(n:Int)<=i then some (i+n).toNat else none
def atI{α:Type}(xs:List α)(i:Int):Option α:=(ixN xs.length i).bind λj=>xs[j]?
theorem Ve{n:Nat}{i:Int}{j:Nat}(h:ixN n i=some j):seqIndex? i n=some j/\j<n/\-(n:Int)<=i/\i<n:=by
 unfold ixN at h;by_cases h0:0<=i
 .rw[ZY h0]at h;by_cases h1:i<n
  .rw[ZY h1]at h;have e:i.toNat=j:=Option.some.inj h;exact⟨by rw[seqIndex_of h0 h1,e],by lia,by lia,h1⟩
  .rw[ZZ h1]at h;cases h
 .rw[ZZ h0]at h;by_cases h1 : -(n:Int)<=i
  .rw[ZY h1]at h;have e:(i+n).toNat=j:=Option.some.inj h;exact⟨by rw[seqIndex_neg (Int.lt_of_not_ge h0) h1,e],by lia,h1,by lia⟩
  .rw[ZZ h1]at h;cases h
theorem Lb{α:Type}{xs:List α}{i:Int}{v:α}(h:atI xs i=some v):∃j,seqIndex? i xs.length=some j/\xs[j]?=some v/\j<xs.length/\-(xs.length:Int)<=i/\i<xs.length:=by
 unfold atI at h;cases e:ixN xs.length i with
 |none=>rw[e]at h;cases h
 |some j =>
  rw[e]at h;obtain⟨h1,h2,h3,h4⟩:=Ve e;exact⟨j,h1,h,h2,h3,h4⟩
theorem Uv{α:Type}{xs:List α}{j:Nat}{v:α}(h:xs[j]?=some v):atI xs (j:Int)=some v:=by
 have hj:j<xs.length:=(ao.mp h).1;have e:ixN xs.length (j:Int)=some j:=by
  unfold ixN;rw[ZY (X9 _),ZY (by lia)];simp
 unfold atI;rw[e];exact h
def tZ(b:Expr):Prop:=∀o i,subscripted b false o i=operate [o,i] (getItem o i)
def IxR(X:Cx)(r:R2):Prop :=
 ∀(value slice:Expr)(pins:Δ)(s:Shared)(σ:St)(H:Hp)(x y:V)(v u:Value)(Q:VK),Inv X pins σ H s->RelV x v->RelV y u->r x y H Q ->
  subscripted slice false v u=operate [v,u] (getItem v u)->wpAny (model X.prog X.w) X.A (subscriptTail value slice v u) (EP X pins σ Q) X.xe s
def MtR(X:Cx)(id:String)(r:V->Ζ->Hp->VK->Prop):Prop :=
 ∀(pins:Δ)(s:Shared)(σ:St)(H:Hp)(x:V)(xs:Ζ)(v:Value)(us:Θ)(Q:VK),Inv X pins σ H s->RelV x v->Vals xs us->r x xs H Q ->
  wpAny (model X.prog X.w) X.A (call (.builtin id) (v::us)) (EP X pins σ Q) X.xe s
section
variable{X:Cx}{a b:Expr}{ta tb:TE}{pos:Pos}
theorem IxR.or{r r':R2}(h:IxR X r)(h':IxR X r'):IxR X (λx y H Q=>r x y H Q\/r' x y H Q):=by
 intro value slice pins s σ H x y v u Q I rx ry q hs;rcases q with q|q
 .exact h value slice pins s σ H x y v u Q I rx ry q hs
 .exact h' value slice pins s σ H x y v u Q I rx ry q hs
theorem JK{r:R2}(hr:IxR X r)(ha:PE X a ta)(hb:PE X b tb)(hs:tZ b):PE X (.Subscript a b pos) (tOp r ta tb):=by
 intro pins s σ H Q I h;exact Subscript_ (ad6 ha hb I h λv u s2 x y H2 I2 rx ry q=>hr a b pins s2 σ H2 x y v u Q I2 rx ry q (hs _ _))
def afo(K:Frag):R2:=λx y H Q=>∃p xs i v,x=.ref p/\y=.int i/\SqL K H p xs/\atI xs i=some v/\Q v H
def aj8(K:Frag):R2:=λx y H Q=>∃p xs i v,x=.ref p/\y=.int i/\SqT K H p xs/\atI xs i=some v/\Q v H
def ags:R2:=λx y H Q=>∃z i c,x=.str z/\y=.int i/\z.length<=sizeLine/\atI z.cps.toList i=some c/\Q (.str ⟨#[c]⟩) H
theorem xg:IxR X (afo X.K):=by
 intro value slice pins s σ H x y v u Q I rx ry h hs;obtain⟨p,xs,i,z,rfl,rfl,hq,he,q⟩:=h;cases rx;obtain⟨t,rfl⟩:=ry;obtain⟨its,r,pl,hz⟩:=I.list hq;obtain⟨j,h1,h2,h3,h4,h5⟩:=Lb he;obtain⟨w,ew,rw'⟩:=r.get h2;have hl:=r.length;have hn:=wJ;have fin:EP X pins σ Q w s:=⟨z,H,I,rw',q⟩;by_cases h0:0<=i
 .have hj:i.toNat=j:=by
   rw[seqIndex_of h0 h5]at h1;exact Option.some.inj h1
  exact item_listR pl.isList h0 (by lia) (by rw[hj];simpa using ew) fin hs
 .have hj:(i+(its.toArray.size:Int)).toNat=j:=by
   rw[seqIndex_neg (Int.lt_of_not_ge h0) h4]at h1;rw[aX,<- hl];exact Option.some.inj h1
  exact subscriptTail_builtinR (x:=w) pl.isList.typeIs slot_list_getitem.lookup
   (wpAny_getItem_list_neg (Q:=λr s'=>r=w/\EP X pins σ Q r s') pl.isList (Int.lt_of_not_ge h0) (by rw[aX]<;>lia) (by lia) (by rw[hj];simpa using ew) ⟨rfl,fin⟩) hs
theorem adY:IxR X (aj8 X.K):=by
 intro value slice pins s σ H x y v u Q I rx ry h hs;obtain⟨p,xs,i,z,rfl,rfl,hq,he,q⟩:=h;cases rx;obtain⟨t,rfl⟩:=ry;obtain⟨its,r,pl,hz⟩:=I.tuple hq;obtain⟨j,h1,h2,h3,h4,h5⟩:=Lb he;obtain⟨w,ew,rw'⟩:=r.get h2;have hl:=r.length;have hn:=wJ;have fin:EP X pins σ Q w s:=⟨z,H,I,rw',q⟩;exact subscriptTail_builtinR (x:=w) pl.typeIs slot_tuple_getitem.lookup
  (getItem_tuple (j:=j) (Q:=λr s'=>r=w/\EP X pins σ Q r s') pl (by lia) (by lia) (by rw[aX,<- hl];exact h1) (by simpa using ew) ⟨rfl,fin⟩) hs
theorem ac1:IxR X ags:=by
 intro value slice pins s σ H x y v u Q I rx ry h hs;obtain⟨z,i,c,rfl,rfl,hz,he,q⟩:=h;obtain⟨t,rfl⟩:=rx;obtain⟨t',rfl⟩:=ry;obtain⟨j,h1,h2,h3,h4,h5⟩:=Lb he;have hl:z.cps.toList.length=z.length:=by simp[Str.length]
 rw[hl]at h1 h4 h5;have hn:=wJ;exact tail_any (typeIs_str s z t) slot_str_getitem.lookup (getItem_str (c:=c) (by
  have e1:decide (i < -(2^63:Int))=false:=Zp (by lia);have e2:decide (i>=2^63)=false:=Zp (by lia);rw[e1,e2,Bool.or_false]) (by rw[h1];simpa using h2) ⟨.str ⟨#[c]⟩,H,I.tok _,⟨_,rfl⟩,q⟩) hs
theorem Rr(its:Θ)(n j:Nat)(u:Value):Obj.mapSeq (·.setIfInBounds j u) { cls:=.type "list",data:=.seq its.toArray n }={ cls:=.type "list",data:=.seq (its.set j u).toArray n }:=by
 simp[Obj.mapSeq]
theorem Inv.lst{pins:Δ}{σ:St}{H:Hp}{s:Shared}{p:Addr}{xs:Ζ}(I:Inv X pins σ H s)(h:H p=some (.lst xs)) :
  ∃(its:Θ)(n:Nat),Vals xs its/\s.heap.get? p=some { cls:=.type "list",data:=.seq its.toArray n }/\xs.length<=sizeLine:=by
 obtain⟨z,its,n,r,e⟩:=I.hok p _ h;exact⟨its,n,r,e,z⟩
theorem Inv.lstUpd{pins:Δ}{σ:St}{H:Hp}{s:Shared}{p:Addr}{xs ys:Ζ}{its its':Θ}{n n':Nat}{f:Obj->Obj}(I:Inv X pins σ H s)(h:H p=some (.lst xs))
 (ho:s.heap.get? p=some { cls:=.type "list",data:=.seq its.toArray n })(hf:f { cls:=.type "list",data:=.seq its.toArray n }={ cls:=.type "list",data:=.seq its'.toArray n' })(r:Vals ys its')(hz:ys.length<=sizeLine)(t:Nat) :
  Inv X pins σ (upd H p (.lst ys)) { s with heap:=s.heap.update p f,toks:=t }:=by
 have e:(s.heap.update p f).get? p=some { cls:=.type "list",data:=.seq its'.toArray n' }:=by
  rw[Heap.get?_update_self f ho (by rw[hf]<;>rfl),hf]
 refine I.write (x:=p) (e:=p) (by rw[h];trivial) (.inl rfl) (λb u hb q=>(Heap.get?_update_other _ _ (Ne.symm hb)).trans q) ⟨_,e⟩ ?_;exact⟨hz,its',n',r,e⟩
def acp:V->V->V->Hp->(Hp->Prop)->Prop:=λo i v H Q=>∃p xs k j,o=.ref p/\i=.int k/\H p=some (.lst xs)/\ixN xs.length k=some j/\Q (upd H p (.lst (xs.set j v)))
theorem set_list:agZ X acp:=by
 intro pins s σ H o i v ov iv u Q I ro ri rv h;obtain⟨p,xs,k,j,rfl,rfl,hp,hj,q⟩:=h;cases ro;obtain⟨t,rfl⟩:=ri;obtain⟨its,n,r,ho,hz⟩:=I.lst hp;obtain⟨h1,h2,h3,h4⟩:=Ve hj;have hl:=r.length;have hn:=wJ;have I':Inv X pins σ (upd H p (.lst (xs.set j v))) { s with heap:=s.heap.update p (Obj.mapSeq (·.setIfInBounds j u)) } :=
  I.lstUpd hp ho (Rr its n j u) (r.set rv j) (by rw[List.length_set];exact hz) s.toks
 by_cases h0:0<=k
 .have hk:k.toNat=j:=by
   rw[seqIndex_of h0 h4]at h1;exact Option.some.inj h1
  exact PySem.W.ki_setAt ho h0 (by lia) (by rw[aX,<- hl];exact h4) (by rw[hk];exact⟨_,I',q⟩)
 .have hk:(k+(its.toArray.size:Int)).toNat=j:=by
   rw[seqIndex_neg (Int.lt_of_not_ge h0) h3]at h1;rw[aX,<- hl];exact Option.some.inj h1
  exact PySem.W.ki_setBack ho (Int.lt_of_not_ge h0) (by rw[aX,<- hl];exact h3) (by lia) (by rw[hk];exact⟨_,I',q⟩)
theorem Ln(lo hi:Option Int)(n:Nat):(sliceBounds lo hi none n).1=((HT.sIx n 0 lo:Nat):Int)/\(sliceBounds lo hi none n).2.1=((HT.sIx n n hi:Nat):Int)/\(sliceBounds lo hi none n).2.2=1:=by
 refine⟨?_,?_,rfl⟩
 .cases lo with
  |none=>simp[sliceBounds,HT.sIx]
  |some i =>
   simp only[sliceBounds,HT.sIx,Option.getD_none,show(1:Int)>0 by decide,if_true];by_cases h:i<0
   .simp only[h,if_true]<;>lia
   .simp only[h,if_false]<;>lia
 .cases hi with
  |none=>simp[sliceBounds,HT.sIx]
  |some i =>
   simp only[sliceBounds,HT.sIx,Option.getD_none,show(1:Int)>0 by decide,if_true];by_cases h:i<0
   .simp only[h,if_true]<;>lia
   .simp only[h,if_false]<;>lia
theorem HF(its:Θ)(lo hi:Option Int):slicePick its.toArray lo hi none=((its.drop (HT.sIx its.length 0 lo)).take (HT.sIx its.length its.length hi-HT.sIx its.length 0 lo)).toArray:=by
 obtain⟨h1,h2,h3⟩:=Ln lo hi its.toArray.size;unfold slicePick;rw[h1,h2,h3];simp only[sliceRange_one,pick_run,aX]<;>rfl
def ahu(K:Frag):V->Option Int->Option Int->Hp->VK->Prop:=λx lo hi H Q=>∃a xs,x=.ref a/\SqL K H a xs/\∀p,H p=none->Q (.ref p) (upd H p (.lst (Wj xs lo hi)))
theorem aaV:SlR X (ahu X.K):=by
 intro pins s σ H x v vl vu lo hi sl Q I rx hs pl pu h;obtain⟨a,xs,rfl,hx,q⟩:=h;cases rx;obtain⟨its,r,ht,hz⟩:=I.list hx;have hlen:=r.length;refine⟨"list",_,slot_list_getitem.lookup,ht.isList.typeIs,?_⟩;refine wpAny_getItem_list_slice ht.isList hs pl pu .none (by simp) ?_ (by rw[aX]<;>lia);rw[HF,<- hlen];refine⟨.ref s.heap.objs.size,_,I.laid (t':=s.toks) (o:=.lst (Wj xs lo hi)) (λb ob q=>aH _ q) (aG _) ?_,rfl,q _ (I.hok.fresh (aG _))⟩;exact⟨aL (OJ xs lo hi) hz,_,0,(r.drop (HT.sIx xs.length 0 lo)).take (HT.sIx xs.length xs.length hi-HT.sIx xs.length 0 lo),aW _ rfl⟩
noncomputable def JL:V->Bool
 |.non=>true
 |.bl _=>true
 |.int _=>true
 |.str _=>true
 |_=>false
noncomputable def eqV:V->V->Bool
 |.non,.non=>true
 |.bl a,.bl b=>a==b
 |.bl a,.int b=>(if a then 1 else 0)==b
 |.int a,.bl b=>a==(if b then 1 else 0)
 |.int a,.int b=>a==b
 |.str a,.str b=>a==b
 |_,_=>false
theorem Kl:iJ X (.builtin "len") (λxs H Q=>∃p ys,xs=[.ref p]/\(SqL X.K H p ys\/SqT X.K H p ys)/\Q (.int ys.length) H):=by
 intro pins s σ H xs us Q I r h;obtain⟨p,ys,rfl,hq,q⟩:=h;obtain⟨u,rfl,rx⟩:=vals1 r;cases rx;have hn:=wJ;rcases hq with hq|hq
 .obtain⟨its,r',pl,hz⟩:=I.list hq;have hlen:=r'.length;exact Calls.call_len_list pl.isList (by simp only[aX]<;>lia) ⟨.int ys.length,H,I.tok _,⟨s.toks+1,by rw[aX,hlen]⟩,q⟩
 .obtain⟨its,r',pl,hz⟩:=I.tuple hq;have hlen:=r'.length;exact len_tuple pl (by simp only[aX]<;>lia) ⟨.int ys.length,H,I.tok _,⟨s.toks+1,by rw[aX,hlen]⟩,q⟩
theorem Ko:iJ X (.builtin "len") (λxs H Q=>∃z,xs=[.str z]/\z.length<=sizeLine/\Q (.int z.length) H):=by
 intro pins s σ H xs us Q I r h;obtain⟨z,rfl,hz,q⟩:=h;obtain⟨u,rfl,t,rfl⟩:=vals1 r;have hn:=wJ;exact len_str (by lia) ⟨.int z.length,H,I.tok _,⟨_,rfl⟩,q⟩
theorem Ng:iJ X (.type "list") (λxs H Q=>∃p ys,xs=[.ref p]/\(SqL X.K H p ys\/SqT X.K H p ys)/\∀l,H l=none->Q (.ref l) (upd H l (.lst ys))):=by
 intro pins s σ H xs us Q I r h;obtain⟨p,ys,rfl,hq,q⟩:=h;obtain⟨u,rfl,rx⟩:=vals1 r;cases rx;have fin:∀(its:Θ),Vals ys its->ys.length<=sizeLine->∀(h':Heap)(c':Nat),(∀b o',s.heap.get? b=some o'->h'.get? b=some o') ->
   h'.get? s.heap.objs.size=some { cls:=.type "list",dict:=none,data:=.seq its.toArray c',slots:=#[] }->EP X pins σ Q (.ref s.heap.objs.size) { s with heap:=h' }:=λits r' hz h' c' kp e =>
  ⟨.ref s.heap.objs.size,_,I.laid (t':=s.toks) kp (aG _) (show fQ X.prog X.w _ h' _ (.lst ys)from⟨hz,its,c',r',e⟩),rfl,q _ (I.hok.fresh (aG _))⟩
 rcases hq with hq|hq
 .obtain⟨its,r',pl,hz⟩:=I.list hq;have hlen:=r'.length;obtain⟨o,ho,hc,n,hd⟩:=pl.isList;exact call_list_seq p (.inl rfl) ho hc hd (λh' c' kp e=>fin its r' hz h' c' kp e) (by simp only[aX]<;>lia)
 .obtain⟨its,r',pl,hz⟩:=I.tuple hq;have hlen:=r'.length;obtain⟨o,ho,hc,n,hd⟩:=pl;exact call_list_seq p (.inr rfl) ho hc hd (λh' c' kp e=>fin its r' hz h' c' kp e) (by simp only[aX]<;>lia)
def tyV(K:Frag)(T:String)(x:V)(H:Hp):Prop:=match x with
 |.str _=>T="str"
 |.int _=>T="int"
 |.ref p=>(T="list"/\∃xs,SqL K H p xs)\/(T="tuple"/\∃o,K.lookup p=some o/\o.cls=.type "tuple"/\o.dict=none) \/
   (T="dict"/\(∃kvs,H p=some (.dK kvs)))\/(T="set"/\∃S n,H p=some (.set S n))
 |_=>False
theorem adZ{pins:Δ}{σ:St}{H:Hp}{s:Shared}{T:String}{x:V}{v:Value}(I:Inv X pins σ H s)(r:RelV x v)(ty:tyV X.K T x H) :
  s.TypeIs v T/\∀a,v=.ref a->∃ob,s.heap.get? a=some ob/\ob.dict=none:=by
 cases x with
 |str z =>
  obtain⟨t,rfl⟩:=r;cases(show T="str" from ty);exact⟨typeIs_str s z t,λ_ e=>nomatch e⟩
 |int i =>
  obtain⟨t,rfl⟩:=r;cases(show T="int" from ty);exact⟨typeIs_int s i t,λ_ e=>nomatch e⟩
 |ref p =>
  cases r;rcases ty with⟨rfl,xs,hq⟩|⟨rfl,o,hk,hc,hd⟩|⟨rfl,hk⟩|⟨rfl,S,n,hk⟩
  .obtain⟨its,_,pl,_⟩:=I.list hq;refine⟨pl.isList.typeIs,λa e=>?_⟩;cases e;obtain⟨o,n,e,c,hd,_⟩:=pl;exact⟨o,e,hd⟩
  .refine⟨⟨o,I.kIn p o hk,hc⟩,λa e=>?_⟩;cases e;exact⟨o,I.kIn _ o hk,hd⟩
  .have z:∃o,s.heap.get? p=some o/\o.ExactDict:=by
    obtain⟨kvs,hk⟩:=hk;obtain⟨_,_,_,_,o,_,_,e,ex,_⟩:=I.hok p _ hk;exact⟨o,e,ex⟩
   obtain⟨o,e,ex⟩:=z;refine⟨⟨o,e,ex.1⟩,λa e2=>?_⟩;cases e2;exact⟨o,e,ex.2.1⟩
  .obtain⟨o,_,_,_,e,ex,_⟩:=I.hok p _ hk;refine⟨⟨o,e,ex.1⟩,λa e2=>?_⟩;cases e2;exact⟨o,e,ex.2.1⟩
 |_=>exact False.elim ty
def tBM(K:Frag)(T:String)(r:V->Ζ->Hp->VK->Prop)(to:TE)(t:TA):TE:=λσ H Q=>to σ H λx H1=>tyV K T x H1/\t σ H1 λxs H2=>r x xs H2 Q
variable{o e:Expr}{es:List Expr}{to:TE}{t:TA}{name:Str}{apos cpos:Pos}{T id:String}{r:V->Ζ->Hp->VK->Prop}
theorem YG(pa:PlainAttrs T)(slot:Slot T name id)(hty:typeOf (.builtin id)=pure (.type "method_descriptor"))(hm:MtR X id r)(ho:PE X o to)(ha:PA X (e::es) t)
 (hbase:attributeBase o name X.env (eval o X.env)=eval o X.env:=by rfl)
 (hfew:((backTo cpos (starEach (e::es) X.env)).all (λx=>!x.1)&&(backToKw cpos (keywordEach [] X.env)).all (λx=>x.1.isSome)
   && decide ((e::es).length+([] : List Keyword).length+(if([] : List Keyword).isEmpty then 0 else 1)<30))=true:=by rfl)
 (hline:(apos.endLine==cpos.line)=true:=by rfl)(hs:starEach (e::es) X.env=(false,eval e X.env)::starEach es X.env:=by rfl)(hplain:(backTo cpos (starEach es X.env)).any (·.1)=false:=by rfl) :
  PE X (.Call (.Attribute o name apos) (e::es) [] cpos) (tBM X.K T r to t):=by
 intro pins s σ H Q I h;refine wpAny_Call_method_late hbase hfew hline rfl (thn (ho pins s σ H _ I h) λv s1 hP=>?_);obtain⟨x,H1,I1,r1,ty,q1⟩:=hP;obtain⟨h1,h2⟩:=adZ I1 r1 ty;refine⟨T,id,pa,slot,hty,h1,h2,?_⟩;have hA:=ha cpos pins s1 σ H1 _ I1 q1;rw[hs]at hA ⊢;refine Calls.callWith_builtin (by show(false || (backTo cpos (starEach es X.env)).any (·.1))=false;rw[hplain]<;>rfl) (Calls.evalArgs_plain ?_);exact thn hA λus s2 hP=>by obtain⟨vs,H2,I2,r2,q2⟩:=hP;exact hm pins s2 σ H2 x vs v us Q I2 r1 r2 q2

end
def MtM(X:Cx)(id:String)(r:V->Ζ->Hp->VK->Prop):Prop :=
 ∀(pins:Δ)(s:Shared)(σ:St)(H:Hp)(x:V)(xs:Ζ)(v:Value)(us:Θ)(Q:VK),Inv X pins σ H s->RelV x v->Vals xs us->r x xs H Q ->
  wpAny (model X.prog X.w) X.A (call (.builtin id) (v::us)) (EP X pins σ Q) X.xe s
theorem Vals.one:∀{x:V}{us:Θ},Vals [x] us->∃u,us=[u]/\RelV x u
 |_,_,.cons r .nil=>⟨_,rfl,r⟩
theorem Vals.two{x y:V}{us:Θ}(h:Vals [x,y] us):∃u v,us=[u,v]/\RelV x u/\RelV y v:=by
 cases h with|cons r t=>cases t with|cons q t=>cases t;exact⟨_,_,rfl,r,q⟩
theorem Vals.rep{xs:Ζ}{us:Θ}(h:Vals xs us):∀k:Nat,Vals (List.replicate k xs).flatten (List.replicate k us).flatten
 |0=>.nil
 |k+1=>by
  rw[List.replicate_succ,List.replicate_succ,List.flatten_cons,List.flatten_cons];exact Vals.append h (Vals.rep h k)
theorem foldl_rep(its:Θ):∀(k:Nat)(acc:Θ),
  List.foldl (λx1 x2=>x1++x2) acc.toArray (List.replicate k its.toArray)=(acc++(List.replicate k its).flatten).toArray
 |0,acc=>by simp
 |k+1,acc=>by
  have e:acc.toArray++its.toArray=(acc++its).toArray:=by simp
  have e2:(acc++its)++(List.replicate k its).flatten=acc++(List.replicate (k+1) its).flatten:=by
   rw[List.replicate_succ,List.flatten_cons,Wp]
  rw[<- e2,<- foldl_rep its k (acc++its),<- e,List.replicate_succ,List.foldl_cons]
section
variable{X:Cx}{pins:Δ}{σ:St}{H:Hp}{s:Shared}{l b:Addr}{xs ys zs:Ζ}
theorem Inv.lset{its its':Θ}{n:Nat}{f:Array Value->Array Value}{t':Nat}(I:Inv X pins σ H s)(hH:H l=some (.lst xs))
 (e:s.heap.get? l=some { cls:=.type "list",data:=.seq its.toArray n })(hf:f its.toArray=its'.toArray)(hv:Vals ys its')(hz:ys.length<=sizeLine) :
  Inv X pins σ (upd H l (.lst ys)) { s with heap:=s.heap.update l (Obj.mapSeq f),toks:=t' }:=by
 have q:=PySem.IsL.update e f;rw[hf]at q;refine I.write (x:=l) (e:=l) (by rw[hH];exact trivial) (.inl rfl) (λb' u hb hu=>(Heap.get?_update_other s.heap (Obj.mapSeq f) (Ne.symm hb)).trans hu) ⟨_,q⟩ ?_;exact⟨hz,its',_,hv,q⟩
theorem Inv.lnew{its:Θ}{t':Nat}(I:Inv X pins σ H s)(hv:Vals ys its)(hz:ys.length<=sizeLine) :
  Inv X pins σ (upd H s.heap.objs.size (.lst ys)) { s with heap:=s.heap.push { cls:=.type "list",data:=.seq its.toArray },toks:=t' } :=
 I.laid (λ_ _ q=>aH _ q) (aG _) ⟨hz,its,0,hv,aW _ rfl⟩
theorem Inv.fresh(I:Inv X pins σ H s):H s.heap.objs.size=none:=I.hok.fresh (aG _)
theorem Inv.lstM(I:Inv X pins σ H s)(hH:H l=some (.lst xs)):xs.length<=sizeLine/\∃(its:Θ)(n:Nat),Vals xs its/\xs.length=its.length/\s.heap.get? l=some { cls:=.type "list",data:=.seq its.toArray n }:=by
 obtain⟨z,its,n,r,e⟩:=I.hok l _ hH;exact⟨z,its,n,r,r.length,e⟩
theorem XH{n:Nat}(h:n<=sizeLine):Builtin.List.listTooLong n=false:=by
 unfold Builtin.List.listTooLong;exact Zp (Nat.not_lt_of_le h)
end
section
variable{X:Cx}
def ZW:V->Ζ->Hp->VK->Prop:=λx vs H Q=>∃l xs y,x=.ref l/\vs=[y]/\H l=some (.lst xs)/\xs.length<sizeLine/\Q .non (upd H l (.lst (xs++[y])))
theorem JQ:MtM X "list.append" ZW:=by
 intro pins s σ H x vs v us Q I rx rv h;obtain⟨l,xs,y,rfl,rfl,hH,hz,q⟩:=h;cases rx;obtain⟨u,rfl,ru⟩:=rv.one;obtain⟨z,its,n,r,hl,e⟩:=I.lstM hH;refine call_meets F.slot_list_append ⟨_,e,rfl⟩ F.entry_list_append (F.args_list_append_2 _ _) (PySem.list_append l its.toArray n u (by rw[aX];lia)) ⟨e,?_⟩;refine⟨.non,_,I.lset (its':=its++[u]) hH e (by simp) (r.append (.cons ru .nil)) ?_,rfl,q⟩;rw[aA,List.length_singleton];exact hz
def afp:R2:=λx y H Q=>∃l b xs zs,x=.ref l/\y=.ref b/\H l=some (.lst xs)/\H b=some (.lst zs)/\xs.length+zs.length<=sizeLine/\∀p,H p=none->Q (.ref p) (upd H p (.lst (xs++zs)))
theorem ac4:OpR X (binaryOp .Add) afp:=by
 intro pins s σ H x y v u Q I rx ry h;obtain⟨l,b,xs,zs,rfl,rfl,hH,hB,hz,q⟩:=h;cases rx;cases ry;obtain⟨z,its,n,r,hl,e⟩:=I.lstM hH;obtain⟨z2,its2,n2,r2,hl2,e2⟩:=I.lstM hB;refine PySem.P.add_list e e2 ?_ (by rw[aX,aX];lia);have ea:its.toArray++its2.toArray=(its++its2).toArray:=by simp
 rw[ea];exact⟨.ref _,_,I.lnew (t':=s.toks) (r.append r2) (by rw[aA];omega),rfl,q _ I.fresh⟩
def akV:R2:=λx y H Q=>∃l k xs,x=.ref l/\y=.int k/\H l=some (.lst xs)/\-(2^63)<=k/\k<2^63/\xs.length*k.toNat<=sizeLine /\
 ∀p,H p=none->Q (.ref p) (upd H p (.lst (List.replicate k.toNat xs).flatten))
theorem len_rep{α:Type}(xs:List α)(k:Nat):(List.replicate k xs).flatten.length=k*xs.length:=by
 induction k with
 |zero=>simp
 |succ k ih=>rw[List.replicate_succ,List.flatten_cons,aA,ih,Nat.succ_mul,Nat.add_comm]
theorem aeM:OpR X (binaryOp .Mult) akV:=by
 intro pins s σ H x y v u Q I rx ry h;obtain⟨l,k,xs,rfl,rfl,hH,h1,h2,hz,q⟩:=h;cases rx;obtain⟨t,rfl⟩:=ry;obtain⟨z,its,n,r,hl,e⟩:=I.lstM hH;have hlen:its.toArray.size*k.toNat<=sizeLine:=by rw[aX,<- hl];exact hz
 have hcap:¬its.toArray.size*k.toNat>(2^63-1)/8:=by
  have:(sizeLine:Nat)<=(2^63-1)/8:=by decide
  lia
 have hfit:¬(!Builtin.List.listFitsIndex k)=true:=by
  rw[fitsIndex_both h1 h2];exact bw
 have hlong:¬Builtin.List.listTooLong (its.toArray.size*k.toNat)=true:=by
  rw[XH hlen];exact bw
 have hnew:List.foldl (λx1 x2=>x1++x2) #[] (List.replicate (if its.toArray.isEmpty=true then 0 else k.toNat) its.toArray)=(List.replicate k.toNat its).flatten.toArray:=by
  have f0:∀m:Nat,List.foldl (λx1 x2=>x1++x2) #[] (List.replicate m its.toArray)=(List.replicate m its).flatten.toArray:=λm=>by
   have:=foldl_rep its m [];rw[List.nil_append]at this;exact this
  rw[f0];cases its with
  |nil=>simp
  |cons a r'=>rw[ZZ (by simp)]
 refine wpAny_binaryOp_repeat_ref (T:="list") (U:="int") (by decide) ⟨_,e,rfl⟩ (λs'=>typeIs_int s' k t) noFill_list_mul F.fills_int_mul F.slot_int_rmul repeat_list F.slot_int_index.lookup
  (call_meets F.slot_int_rmul (typeIs_int s k t) F.entry_int_rmul (F.args_int_rmul_2 _ _) (int___rmul___int_list k t l its.toArray n)
   ⟨e,rfl,⟨_,e,rfl⟩,call_meets F.slot_list_mul ⟨_,e,rfl⟩ F.entry_list_mul (F.args_list_mul_2 _ _) (AutoListH.list___mul___list_int_3 l its.toArray n k t hfit hcap hlong) ⟨e,?_⟩⟩)
 rw[hnew];exact⟨.ref _,_,I.lnew (t':=s.toks) (r.rep k.toNat) (by rw[len_rep,Nat.mul_comm];exact hz),rfl,q _ I.fresh⟩
end
end L2
namespace Att
open PySem PySem.W PySem.Calls PyProof.Rows
theorem Du{P:Params}{h:Heap} : ∀(ns:List Int)(vs:Θ),WellAll P h vs (ns.map WData.int)->IntsAre vs ns:=by
 intro ns
 induction ns with
 |nil =>
  intro vs w;rw[List.map_nil]at w;cases w;exact .nil
 |cons n ns ih =>
  intro vs w;rw[List.map_cons]at w;cases w with
  |cons a b =>
   cases a;exact .cons _ _ (ih _ b)
theorem Vm{l:OpenLaw}{n:Nat}(hn:l.most=some n){P:Params}{h:Heap}{args:List WData}{vals:Θ}
 (hpre:l.row.toRowW.claim.pre args=true)(hwl:WellAll P h vals args) :
  ∃a vs ns,vals=[Value.ref a]/\args=[WData.list (ns.map WData.int)]/\h.get? a=some { cls:=.type "list",data:=.seq vs.toArray }/\IntsAre vs ns/\ns.length<=n:=by
 have hsh:WShape.hasAll [] args [.list .int]=true:=(pre_splitW hpre).1;have hc:l.pre.holds [] { args:=args }=true:=(pre_splitW hpre).2;obtain⟨d,r,rfl,h1,h2⟩:=hasAllW_cons hsh;obtain rfl:=hasAllW_nil h2;obtain⟨xs,rfl,h3⟩:=hasW_list h1;obtain⟨ns,rfl⟩:=items_int h3;have hlen:ns.length<=n:=by
  unfold OpenLaw.pre at hc;have h4:(WTm.not (.lt (.lit (.int (n:Int))) (.len (.arg 0)))).holds [] { args:=[.list (ns.map .int)] }=true:=by
   have h4:=(holds_andW hc).1;rw[hn]at h4;exact h4
  have h5:=condW_of h4 (w_not (w_lt w_lit (w_len_list (w_arg rfl))));rw[ak]at h5;refine Nat.le_of_not_lt λq=>?_;have q':(n:Int)<((ns.length:Nat):Int):=by omega
  first
   |(rw[Zs q']at h5;exact absurd h5 (by decide))
   |(simp at h5;omega)
 cases hwl with
 |cons w1 w2 =>
  cases w2;cases w1 with
  |list ho hall=>exact⟨_,_,ns,rfl,rfl,ho,Du ns _ hall,hlen⟩
theorem Vw(l:OpenLaw)(args:List WData):l.row.toRowW.claim.post args (.bool true) args=true :=
 postW_of (r:=l.row.toRowW) (X:=(true==true))
  (show WShape.has [] (.bool true) .bool=true by first|rfl|decide|simp[WShape.has,WShape.arms,WShape.armsAll])
  (show(WTm.eq .res (.lit (.bool true))).value [] { args:=args,res:=some (.bool true),after:=args }=some (.bool (true==true))from w_eq_bool (w_res rfl) w_lit) rfl
theorem Oi{l:OpenLaw}{n:Nat}{q:Program}{loose:Φ}{XP:(Str->Ω)->Heap->Prop}{YP:World->Heap->Prop}{d:DefRec}
 (hn:l.most=some n)(hdf:d.params.defaults=[])
 (call:∀(w:World)(s₀ s₁:Shared)(mg mb:Str->Ω)(fa:Addr)(o:Obj)(pm cd doc:Value)(a:Addr)(vs:Θ)(ns:List Int),
   Ground q loose [] XP w s₀ mg mb s₁.heap->YP w s₁.heap ->
   s₁.heap.get? fa=some o->o.data=.func (docDef d.name d.params d.body d.scope pm cd doc)->s₁.heap.CodeRec cd d.name->mg d.name=some (.ref fa) ->
   s₁.heap.get? a=some { cls:=.type "list",data:=.seq vs.toArray }->IntsAre vs ns->ns.length<=n->s₁.gens = #[] ->
   codeAny (model l.prog w) callerA (.call (.ref fa) ⟨[.ref a],[]⟩) (λr s'=>r=.ok (.ret (.bool true))/\OldK s₁.heap s'.heap/\s'.os=s₁.os/\AllBare s'.gens) s₁) :
  WalkO q loose XP YP l.row.toRowW d [] (λf vs=>PySem.call f vs):=by
 intro w s₀ s₁ mg mb G Y fa o pm cd doc dV kV ho hd hcd hD hmg hg args vals as hpre hlay hrd hwl hlo;obtain rfl:dV=.none:=Dflts.none hD hdf;obtain rfl:kV=.none:=Dflts.noKw hD;obtain⟨a,vs,ns,rfl,rfl,hobj,hints,hlen⟩:=Vm hn hpre hwl;refine enter_call (codeAny_mono (call w s₀ s₁ mg mb fa o pm cd doc a vs ns G Y ho (fd_plain hd) hcd hmg hobj hints hlen hg) λr s' hq=>?_);obtain⟨rfl,h2,h3,h4⟩:=hq;exact⟨.inl ⟨.bool true,.bool true,[],rfl,λ_=>rfl,.bool true,Vw l _,λ_=>⟨List.Pairwise.nil,λ_ hm=>(nomatch hm)⟩⟩,h2,h3,h4⟩
end Att
namespace L2
open PySem PySem.Spec PyProof.Rows
theorem BP:∀{vs:Θ}{ns:List Int},IntsAre vs ns->Vals (ns.map V.int) vs
 |_,_,.nil=>.nil
 |_,_,.cons n t h=>.cons ⟨t,rfl⟩ (BP h)
def Only(H:Hp):Prop:=∀b,H b=none\/∃o xs,H b=some (.frz o (.lst xs))
theorem Xe{P:Program}{w:World}{K:Frag}{mg mb:Str->Ω}{CX:CXT}{k:Nat}{fa a:Addr}{fd:FuncData}{x:Str}{sp:Sp}{s₁:Shared}{vs:Θ}{ns:List Int}
 (KX:K.In s₁.heap)(hns:s₁.heap.Ns mainGlobals mg)(hb:s₁.heap.Ns builtinsNs mb)(hbb:∀x:Str,x≠"__name__"->mb x=bootBuiltins x)(hlim:s₁.heap.NoLimit)(hg:s₁.gens = #[])
 (ha:s₁.heap.get? a=some { cls:=.type "list",data:=.seq vs.toArray })(hi:IntsAre vs ns)(hl:ns.length<=sizeLine)(hr:eX k callerA)
 (F:∀base:Heap,K.In base->base.Ns mainGlobals mg->b_ P w K mg base CX k fa fd [x] sp)(hbind:∀(s:Shared)(u:Value),BindsTo s fd ⟨[u],[]⟩ [(x,u)])
 (hsp:∀H:Hp,Only H->SqL K H a (ns.map V.int)->sp [.ref a] H (λv _=>v=.bl true) λ_ _ _=>False)
 (hCX:∀H e s',CX [] H s₁ (λ_ _ _=>False) e s'->False) :
  codeAny (model P w) callerA (.call (.ref fa) ⟨[.ref a],[]⟩) (λr s'=>r=.ok (.ret (.bool true))/\OldK s₁.heap s'.heap/\s'.os=s₁.os/\AllBare s'.gens) s₁:=by
 have rv:=BP hi;have lenV:=hi.length

 have core:∀H:Hp,Only H->SqL K H a (ns.map V.int)->HOk P w H s₁.heap->(∀b,H b≠none->b=a)->(H a≠none->K.lookup a=none) ->
   codeAny (model P w) callerA (.call (.ref fa) ⟨[.ref a],[]⟩) (λr s'=>r=.ok (.ret (.bool true))/\OldK s₁.heap s'.heap/\s'.os=s₁.os/\AllBare s'.gens) s₁:=by
  intro H hO hS hok hA hK;have base_of:∀{b:Addr}{o:Obj},s₁.heap.get? b=some o->H b=none->(Np s₁.heap H).get? b=some o:=λe n=>Xq e n;have noA:∀{b:Addr}{o:Obj}{es:Array DictEntry}{ep:Nat},s₁.heap.get? b=some o->o.data=.dict es ep->H b=none:=λ{b o es ep}e d=>by
   cases q:H b with
   |none=>rfl
   |some u =>
    have e':b=a:=hA b (by rw[q];simp);subst e';rw[ha]at e;cases e;have d':Data.seq vs.toArray _=Data.dict es ep:=d;cases d'
  have nsK:∀{b:Addr}{m:Str->Ω},s₁.heap.Ns b m->(Np s₁.heap H).Ns b m:=λ{b m}⟨o,es,ep,e,d,r⟩=>⟨o,es,ep,base_of e (noA e d),d,r⟩;have hKb:K.In (Np s₁.heap H):=λb o e=>base_of (KX b o e) (by
   cases q:H b with
   |none=>rfl
   |some u =>
    have e':b=a:=hA b (by rw[q];simp);subst e';rw[hK (by rw[q];simp)]at e;cases e)
  have hM:Mod K mg (Np s₁.heap H):=⟨hKb,nsK hns,⟨mb,nsK hb,hbb⟩,let⟨mc,h1,h2⟩:=hlim;⟨mc,nsK h1,h2⟩⟩;have e0:N5 P w K mg (Np s₁.heap H) callerA [] s₁ H:=⟨rfl,hM,λb o e=>aaU e,Nat.le_of_eq (V9 _ _),trivial,λb hb=>absurd (show b∈([] : Ψ)from hb) (by simp),hok,.of_eq hg⟩;refine codeAny_mono ((F _ hKb (nsK hns)).run callerA [] s₁ H ⟨[.ref a],[]⟩ [.ref a] [.ref a] _ _ hr e0 (hbind s₁ (.ref a)) (.cons rfl .nil) (hsp H hO hS)) λr s' h=>?_;cases r with
  |error e=>exact(hCX H e s' h).elim
  |ok fl =>
   cases fl with
   |next=>exact False.elim h
   |brk=>exact False.elim h
   |cont=>exact False.elim h
   |ret u =>
    obtain⟨v,H',os,bare,un,hok',r',q⟩:=h;have q':v=.bl true:=q;subst q';obtain rfl:u=Value.bool true:=r';refine⟨rfl,OldK.of_keep λb o e=>?_,os,bare⟩;cases q:H b with
    |none=>exact un.keep b o e q (by intro z;exact absurd (show b∈([] : Ψ)from z) (by simp)) (by simp)
    |some u =>
     rcases hO b with z|⟨ob,xs,z⟩
     .rw[q]at z;cases z
     .have z2:=un.frzs b ob _ z;obtain⟨e1,_⟩:=hok b _ z;obtain⟨e2,_⟩:=hok' b _ z2;rw[e]at e1;cases e1;exact e2
 cases hk:K.lookup a with
 |some o =>

  have e:=KX a o hk;rw[ha]at e;cases e;refine core (λ_=>none) (λ_=>.inl rfl) (.inr ⟨_,vs.toArray,_,hk,rfl,rfl,rfl,by rw[aX,lenV];exact hl,by simpa using rv⟩) (λb u z=>by have z':(none:Option HO)=some u:=z;cases z') (λb z=>absurd rfl z) λz=>absurd rfl z
 |none =>
  refine core (λb=>if b=a then some (.frz { cls:=.type "list",data:=.seq vs.toArray } (.lst (ns.map V.int)))else none) (λb=>?_) (.inl (.inr ⟨{ cls:=.type "list",data:=.seq vs.toArray },ZY rfl⟩)) (λb u z=>?_) (λb z=>?_) λ_=>hk
  .by_cases hb:b=a
   .exact .inr ⟨_,_,ZY hb⟩
   .exact .inl (ZZ hb)
  .by_cases hb:b=a
   .have z':=(ZY hb).symm.trans z;cases z';subst hb;exact⟨ha,by rw[ak];exact hl,vs,_,rv,ha⟩
   .have z':=(ZZ hb).symm.trans z;cases z'
  .by_cases hb:b=a
   .exact hb
   .exact absurd (ZZ hb) z
noncomputable abbrev KOf{K:Frag}{h:Heap}(_:K.In h):Frag:=K
theorem UW{l:PySem.W.OpenLaw}{n k:Nat}{q:Program}{loose:Φ}{XP:(Str->Ω)->Heap->Prop}{YP:World->Heap->Prop}{d:DefRec}{K:Params->Frag}{CX:World->CXT}{sp:World->Sp}{x:Str}
 (hn:l.most=some n)(hn2:n<=sizeLine)(hdf:d.params.defaults=[])(hr:eX k callerA)
 (hY:∀(w:World)(h:Heap),YP w h->(K w.params).In h)
 (F:∀(w:World)(mg:Str->Ω)(fa:Addr)(h:Heap),(K w.params).In h->h.Ns mainGlobals mg->mg d.name=some (.ref fa) ->
   ∃fd:FuncData,(∀(s:Shared)(u:Value),BindsTo s fd ⟨[u],[]⟩ [(x,u)]) /\
    ∀base:Heap,(K w.params).In base->base.Ns mainGlobals mg->b_ l.prog w (K w.params) mg base (CX w) k fa fd [x] (sp w))
 (hsp:∀(w:World)(H:Hp)(a:Addr)(ns:List Int),ns.length<=n->Only H->SqL (K w.params) H a (ns.map V.int)->sp w [.ref a] H (λv _=>v=.bl true) λ_ _ _=>False)
 (hCX:∀(w:World)(H:Hp)(s:Shared)(e:Value)(s':Shared),CX w [] H s (λ_ _ _=>False) e s'->False) :
  PySem.W.WalkO q loose XP YP l.row.toRowW d [] (λf vs=>PySem.call f vs):=by
 refine Att.Oi hn hdf λw s₀ s₁ mg mb fa o pm cd doc a vs ns G Y ho hd hcd hmg hobj hints hlen hg=>?_;have KX:=hY w _ Y;obtain⟨fd,hb,hF⟩:=F w mg fa _ KX G.T.g hmg;exact Xe KX G.T.g G.T.b G.T.builtins G.T.nolimit hg hobj hints (aL hlen hn2) hr hF hb (λH hO hS=>hsp w H a ns hlen hO hS) λH e s'=>hCX w H s₁ e s'
end L2

namespace L2
open PySem PySem.Spec PyProof.Rows
abbrev CX0:CXT:=λ_ _ _ _ _ _=>False
abbrev E0:XK:=λ_ _ _=>False
theorem Qk{X:Cx} : Passes CX0 X E0:=λ_ _ _ _ _ _ _ h=>h.elim
structure Fun(K:Frag)(x qual:Str)(st:Stmt)(f:Addr)(fd:FuncData):Prop where
 ex:∃(oc:Value)(od:Ξ)(kV doc pm:Value)(an:Ξ)(cdv ct:Value)(osl:Array (Ω)),
  fd=PySem.W.fnOf x qual (ig st) (fD st) (bH st) .none kV doc pm an cdv ct/\K.lookup f=some ⟨oc,od,.func fd,osl⟩/\codeIn K cdv qual=true
 kp:keepIn K (.ref f)=true
section
variable{P:Program}{w:World}{K:Frag}{mg:Str->Ω}{base:Heap}
theorem Fun.ok{x qual:Str}{st:Stmt}{f:Addr}{fd:FuncData}{N ps:Φ}{k:Nat}{sp:Sp}(F:Fun K x qual st f fd)(S:bK N ps (bH st))(len:∀vs H Q E,sp vs H Q E->vs.length=ps.length)
 (hbody:∀(cdv:Value)(A:Around)(outer:List Env)(s:Shared)(H:Hp)(vs:Ζ)(Q:VK)(E:XK),eX k (A.deeper (envOfC qual (bH st) s.heap.objs.size f cdv))->sp vs H Q E ->
   ∃t,PSs (M5 CX0 P w K mg base N qual (bH st) f cdv A outer s H E).nox (fD st) t/\t { nx:=λ_ H'=>Q .non H',rt:=Q } (start N vs) H):b_ P w K mg base CX0 (k+1) f fd ps sp:=by
 obtain⟨oc,od,kV,doc,pm,an,cdv,ct,osl,rfl,lk,hcd⟩:=F.ex;refine ahz lk hcd S len λA outer s H vs Q E hr hsp=>?_;obtain⟨t,h,q⟩:=hbody cdv A outer s H vs Q E hr hsp;exact⟨t,h.nox,q⟩
theorem Zh{x qual:Str}{st:Stmt}{f:Addr}{oc:Value}{od an:Ξ}{osl:Array (Ω)}{kV doc pm cdv ct:Value}(l:K.lookup f=some ⟨oc,od,.func (PySem.W.fnOf x qual (ig st) (fD st) (bH st) .none kV doc pm an cdv ct),osl⟩)
 (c:codeIn K cdv qual=true)(k:keepIn K (.ref f)=true):Fun K x qual st f (PySem.W.fnOf x qual (ig st) (fD st) (bH st) .none kV doc pm an cdv ct):=⟨⟨oc,od,kV,doc,pm,an,cdv,ct,osl,rfl,l,c⟩,k⟩
end
theorem yh{A:Around}{k:Nat}(hr:eX k A):A.units+1<cLine:=Y3 (Nat.add_le_add_left (by decide:1<=64) _) hr.units
section
variable{X:Cx}
noncomputable def qN(sc:Scope)(x:Str):Bool:=(sc.names.lookup x).any λk=>k == .local || k == .cell || k == .free
theorem aeJ{sc:Scope}{x:Str}(h:qN sc x=true):Vis sc x:=by
 unfold qN at h;unfold Vis;cases e:sc.names.lookup x with
 |none=>rw[e]at h;cases h
 |some k=>rw[e]at h;cases k<;>first|exact .inl rfl|exact .inr (.inl rfl)|exact .inr (.inr rfl)|cases h
theorem pv(i:Nat){x:Str}{pos:Pos}(hN:X.N[i]?=some x:=by rfl)(hv:qN X.env.scope x=true:=by rfl)(hd:(x==("__debug__":Str))=false:=by decide)
 (hcd:(x==("__classdict__":Str))=false:=by decide):PE X (.Name x pos) (adh i):=aeG hN (aeJ hv) hd hcd
end
theorem akg{A B:Prop}(h:B):if false=true then A else B:=by
 rw[ZZ bw];exact h
theorem alW{A B:Prop}(h:A):if true=true then A else B:=by
 rw[ZY rfl];exact h
def Same(H H':Hp):Prop:=∀b o,H b=some o->H' b=some o
theorem Same.refl(H:Hp):Same H H:=λ_ _ h=>h
theorem Same.trans{H H1 H2:Hp}(a:Same H H1)(b:Same H1 H2):Same H H2:=λc o h=>b c o (a c o h)
theorem Same.free{H H':Hp}(e:Same H H'){l:Addr}(h:H' l=Option.none):H l=Option.none:=by
 cases q:H l with
 |none=>rfl
 |some o =>
  rw[e l o q]at h;cases h
theorem Same.seq{K:Frag}{H H':Hp}{a:Addr}{xs:Ζ}(e:Same H H')(h:SqL K H a xs):SqL K H' a xs:=by
 rcases h with(h|⟨o,h⟩)|h
 .exact .inl (.inl (e _ _ h))
 .exact .inl (.inr ⟨o,e _ _ h⟩)
 .exact .inr h
def Bd(i:Int):Prop:=i.natAbs<2^8000
theorem Bd.log2{i:Int}(h:Bd i):i.natAbs.log2<8000:=by
 by_cases h0:i.natAbs=0
 .rw[h0,Nat.log2_zero];exact Nat.succ_pos _
 .exact(Nat.log2_lt h0).mpr h
theorem Bd.bits{i:Int}(h:Bd i):Builtin.Int.intBits i<=2^20:=by
 have e:(2:Nat)^20=1048576:=by decide
 have:=h.log2;unfold Builtin.Int.intBits;split
 .exact aZ _
 .lia
section
variable{X:Cx}
theorem abF:OpR X (binaryOp .Mult) (rI (λi j=>Bd i/\Bd j) λi j=>.int (i*j)):=opI λ_ _ _ _ _ _ _ hc q=>mul_int q (.of_bits hc.1.bits hc.2.bits)
theorem Ys:OpR X (binaryOp .FloorDiv) (rI (λ_ j=>j≠0/\Bd j) λi j=>.int (i.fdiv j)):=opI λ_ _ _ _ _ _ _ hc q=>floordiv_int hc.1 q (.inl (PyProof.noPylong_of_log2 (by have:=hc.2.log2;exact Nat.lt_trans this (by decide))))
theorem Qd:iJ X (.builtin "isinstance") (λxs H Q=>∃x c cv t b,xs=[x,c]/\((∃T,c=.ty T/\cv=Value.type T)\/∃C,c=.ref C/\cv=Value.ref C)/\Cm X.K H x t/\kitOne X.K t cv=some b/\Q (.bl b) H):=by
 intro pins s σ H xs us Q I r h;obtain⟨x,c,cv,t,b,rfl,rc,ty,e,q⟩:=h;obtain⟨u,v,rfl,ru,rv⟩:=r.two;have e2:v=cv:=by
  rcases rc with⟨T,rfl,rfl⟩|⟨T,rfl,rfl⟩
  .exact rv
  .exact rv
 subst e2;exact Wq I ru ty e λtk=>⟨.bl b,H,I.tok _,rfl,q⟩
theorem Oe:iJ X (.builtin "sorted") (λxs H Q=>∃l ns,xs=[.ref l]/\SqL X.K H l (ns.map V.int)/\ns.length<64/\∀(ms:List Int)p,H p=none->ms.Perm ns->ms.Pairwise (· <= ·)->Q (.ref p) (upd H p (.lst (ms.map V.int)))):=by
 intro pins s σ H xs us Q I r h;obtain⟨l,ns,rfl,hl,h64,q⟩:=h;obtain⟨u,rfl,ru⟩:=r.one;cases ru;obtain⟨its,rv,p,hz⟩:=I.list hl;have hI:=intsAre_of rv;have hlen:its.length=ns.length:=by have:=rv.length;simpa using this.symm
 refine sorted_ints (vs:=its) p.isList hI (Y3 (Nat.le_of_eq hlen) h64) λout ns' a1 a2 a3=>?_;obtain⟨e,he⟩:=sortedAll_at s.heap its out;have hfr:H (s.heap.objs.size+1)=none:=I.hok.fresh (Xs _);refine⟨.ref _,_,I.laid (a:=s.heap.objs.size+1) (o:=.lst (ns'.map V.int)) (t':=s.toks) (λb u e=>sortedAll_old e) (Xs _) ?_,rfl,q ns' _ hfr a2 a3⟩;refine⟨?_,out.toList,e,BP a1,he⟩;rw[ak,a2.length_eq];rw[ak]at hz;exact hz
end
section
variable{prog:Program}{w:World}{A:Around}{E:Ε}{s:Shared}
theorem Jr{it t:Addr}{items:Array Value}(hne:t≠it):∀(n i:Nat)(s:Shared)(Q:Θ->Shared->Prop),s.heap.IsListIter it t i->PlainL s.heap t items->i+n<=items.size ->
  (∀h',h'.IsListIter it t (i+n)->Heap.SameBut it s.heap h'->Q ((items.toList.drop i).take n) { s with heap:=h' })->wpAny (model prog w) A (draw (.ref it) n) Q E s
 |0,i,s,Q,hit,_,_,hQ=>by
  show wpAny _ _ (pure []) Q E s;exact ZT (by simpa using hQ s.heap hit (Heap.SameBut.refl ..))
 |n+1,i,s,Q,hit,ht,hle,hQ=>by
  have hlt:i<items.size:=by lia
  show wpAny _ _ (pyNext (.ref it) >>= _) Q E s;refine ZU (wpAny_pyNext_list_item hit ht.isList (x:=items[i]) (by simp[hlt]) λh₁ hit₁ hs₁=>?_);have ht₁:PlainL h₁ t items:=by
   obtain⟨o,k,e,r⟩:=ht;exact⟨o,k,(hs₁.2 t hne).trans e,r⟩
  refine ZU (wpAny_holding (Jr hne n (i+1) _ _ hit₁ ht₁ (by lia) λh₂ hit₂ hs₂=>ZT ?_));have hd:items.toList.drop i=items[i]::items.toList.drop (i+1):=by simp[List.drop_eq_getElem_cons,hlt]
  have:=hQ h₂ (by rw[show i+(n+1)=i+1+n by lia];exact hit₂) (hs₁.trans hs₂);rw[hd,List.take_succ_cons]at this;exact this
theorem B_{t:Addr}{items:Array Value}{Q:Θ->Shared->Prop}(hh:A.handled=none)(ht:PlainL s.heap t items)
 (hQ:∀h',Heap.ExtBut s.heap.objs.size s.heap h'->Q items.toList { s with heap:=h' }):wpAny (model prog w) A (unpackItems (.ref t) items.size none) Q E s:=by
 have hlt:t≠s.heap.objs.size:=by obtain⟨o,_,ho,_⟩:=ht;exact aQ (aK ho)
 unfold unpackItems;refine ZU ?_
 .unfold notIterableAtAll;refine ZU (wpAny_specialOf ht.isList.typeIs slot_list_iter.lookup ?_);refine ZT ?_;simp only[XW,if_false];refine ZU (wpAny_holding (wpAny_pyIter_list ht.isList ?_));have ht0:PlainL (s.heap.push { cls:=.type "list_iterator",data:=.fields #[.ref t,.int 0 0] }) t items:=by
   obtain⟨o,k,e,r⟩:=ht;exact⟨o,k,aH _ e,r⟩
  refine ZU (wpAny_holding (Jr hlt items.size 0 _ _ ⟨_,aW _ rfl,rfl,rfl⟩ ht0 (by lia) λh₁ hit₁ hs₁=>?_));have hall:List.take items.size (List.drop 0 items.toList)=items.toList:=by
   rw[List.drop_zero];exact List.take_of_length_le (by simp)
  rw[hall];rw[ZZ (by simp)];have ht₁:PlainL h₁ t items:=by
   obtain⟨o,k,e,r⟩:=ht0;exact⟨o,k,(hs₁.2 t hlt).trans e,r⟩
  refine ZU (wpAny_holding (wpAny_pyNext_list_end hh hit₁ ht₁.isList (by simp) λh₂ he₂=>?_));simp only[Option.isSome_none,XW,if_false];refine ZT (hQ h₂ λb o hb e=>he₂ b o hb (hs₁.extBut b o hb (aH _ e)))
theorem zB{env:Env}{elts:List Expr}{x1}{pos:Pos}{t:Addr}{items:Array Value}{Q:Unit->Shared->Prop}(hh:A.handled=none)(ht:PlainL s.heap t items)
 (hn:(assignEach elts env).length=items.size)(hstar:(assignEach elts env).findIdx? (·.1)=none)
 (h:∀h',Heap.ExtBut s.heap.objs.size s.heap h'->wpAny (model prog w) A (assignInOrder ((assignEach elts env).map (·.2)) items.toList) Q E { s with heap:=h' }) :
  wpAny (model prog w) A (assign (.Tuple elts x1 pos) env (.ref t)) Q E s:=by
 rw[assign_Tuple];refine ZU (wpAny_standAt ?_);unfold unpack;rw[hn,hstar];exact ZU (wpAny_holding (B_ hh ht h))
end
section
variable{X:Cx}{pos:Pos}
def agt(K:Frag)(n:Nat)(t:TGs):TG:=λv σ H Q=>∃a xs,v=.ref a/\SqL K H a xs/\xs.length=n/\t xs σ H Q
theorem aaO{es:List Expr}{k:Nat}{t:TGs}{n:Nat}(hc:X.calm=true)(h:PGs X es t)
 (hn:(assignEach es X.env).length=n:=by rfl)(hst:(assignEach es X.env).findIdx? (·.1)=none:=by rfl):PG X (.Tuple es k pos) (agt X.K n t):=by
 intro pins s σ H v u Q I r hw;obtain⟨a,xs,e1,hq,hl,hw⟩:=hw;subst e1;cases r;obtain⟨its,rv,ht,hz⟩:=I.list hq;refine zB (I.ok.hd hc) ht (by simp[hn,<- hl,rv.length]) hst λh' hx=>?_;have I1:Inv X pins σ H { s with heap:=h' }:=I.kept (t':=s.toks) λb o e=>hx b o (aQ (aK e)) e;exact h pins _ σ H xs _ Q I1 (by simpa using rv) hw
end
theorem Same.upd{H:Hp}{p:Addr}{o:HO}(hp:H p=none):Same H (upd H p o):=λb u e=>by
 rw[cC (lC e hp)];exact e
section
variable{X:Cx}
theorem IxR.imp{r r':R2}(h:IxR X r)(i:∀x y H Q,r' x y H Q->r x y H Q):IxR X r':=by
 intro b pos pins s σ H x y v u Q I rx ry q hs;exact h _ _ _ _ _ _ _ _ _ _ _ I rx ry (i _ _ _ _ q) hs
theorem aiV{α:Type}{x:α}{xs:List α} : atI (x::xs) 0=some x:=Uv (j:=0) rfl
theorem agp{α:Type}{x y:α}{xs:List α} : atI (x::y::xs) 1=some y:=Uv (j:=1) rfl
theorem iJ.imp{f:Value}{r r':Ζ->Hp->VK->Prop}(h:iJ X f r)(i:∀xs H Q,r' xs H Q->r xs H Q):iJ X f r':=λpins s σ H xs us Q I rx q=>h pins s σ H xs us Q I rx (i _ _ _ q)
noncomputable def tyS(H:Hp):V->Option String
 |.non=>some "NoneType"
 |.bl _=>some "bool"
 |.int _=>some "int"
 |.str _=>some "str"
 |.ref a=>match H a with
  |some (.lst _)=>some "list"
  |some (.tup _)=>some "tuple"
  |some (.dK _)=>some "dict"
  |_=>none
 |_=>none
theorem ac2{K:Frag}{H:Hp}{x:V}{t:String}(h:tyS H x=some t):Cm K H x (.type t):=by
 cases x with
 |non=>cases h;exact .non
 |bl=>cases h;exact .bl _
 |int=>cases h;exact .int _
 |str=>cases h;exact .str _
 |byt=>cases h
 |flt=>cases h
 |ty=>cases h
 |ref a =>
  have h:(match H a with
   |some (.lst _)=>some "list"
   |some (.tup _)=>some "tuple"
   |some (.dK _)=>some "dict"
   |_=>none)=some t:=h
  split at h
  .cases h;exact .lst (by assumption)
  .cases h;exact .tup (by assumption)
  .cases h;exact .dK (by assumption)
  .cases h
noncomputable def Ji(t T:String):Bool:=(t==T) || (t=="bool" && T=="int")
theorem Uw{K:Frag}{t T:String}(ht:t∈["NoneType","bool","int","str","list","tuple","dict"])(hT:T∈["bool","int","str","list","tuple","dict"]):kitOne K (.type t) (.type T)=some (Ji t T):=by
 simp only[YU,List.not_mem_nil,or_false]at ht hT;rcases ht with rfl|rfl|rfl|rfl|rfl|rfl|rfl<;>rcases hT with rfl|rfl|rfl|rfl|rfl|rfl<;>with_unfolding_all rfl
theorem aes{H:Hp}{x:V}{t:String}(h:tyS H x=some t):t∈["NoneType","bool","int","str","list","tuple","dict"]:=by
 cases x with
 |non=>cases h;decide
 |bl=>cases h;decide
 |int=>cases h;decide
 |str=>cases h;decide
 |byt=>cases h
 |flt=>cases h
 |ty=>cases h
 |ref a =>
  have h:(match H a with
   |some (.lst _)=>some "list"
   |some (.tup _)=>some "tuple"
   |some (.dK _)=>some "dict"
   |_=>none)=some t:=h
  split at h<;>cases h<;>decide
def afu:Ζ->Hp->VK->Prop:=λxs H Q=>∃x T t,xs=[x,.ty T]/\T∈["bool","int","str","list","tuple","dict"]/\tyS H x=some t/\Q (.bl (Ji t T)) H
theorem wg:iJ X (.builtin "isinstance") afu:=Qd.imp λxs H Q hP=>by obtain⟨x,T,t,a,b,c,d⟩:=hP;exact⟨x,.ty T,.type T,.type t,_,a,.inl ⟨T,rfl,rfl⟩,ac2 c,Uw (aes c) b,d⟩
theorem PG.imp{e:Expr}{t t':TG}(h:PG X e t)(i:∀v σ H Q,t' v σ H Q->t v σ H Q):PG X e t':=λpins s σ H v u Q I r q=>h pins s σ H v u Q I r (i _ _ _ _ q)
def ach:Ζ->Hp->VK->Prop:=λxs H Q=>∃l ns,xs=[.ref l]/\H l=some (.lst (ns.map V.int))/\ns.length<64/\∀(ms:List Int)p,H p=none->ms.Perm ns->ms.Pairwise (· <= ·)->Q (.ref p) (upd H p (.lst (ms.map V.int)))
theorem Wv:iJ X (.builtin "sorted") ach:=Oe.imp λxs H Q hP=>by obtain⟨l,ns,a,b,c⟩:=hP;exact⟨l,ns,a,.of b,c⟩
theorem abe{H:Hp} : tyS H .non=some "NoneType":=rfl
theorem aeK{H:Hp}{b:Bool} : tyS H (.bl b)=some "bool":=rfl
theorem aaX{H:Hp}{i:Int} : tyS H (.int i)=some "int":=rfl
theorem ab0{H:Hp}{x:Str} : tyS H (.str x)=some "str":=rfl
noncomputable def amd:V->Option Bool
 |.bl b=>some b
 |.int i=>some (i != 0)
 |.non=>some false
 |_=>none
end
def OkF(P:Program)(w:World)(K:Frag)(mg:Str->Ω)(base:Heap)(k:Nat)(x:Str)(ps:Φ)(sp:Sp):Prop :=
 ∃f fd,b_ P w K mg base CX0 k f fd ps sp/\Binds K fd ps []/\mg x=some (.ref f)/\keepIn K (.ref f)=true
def cJ(K:Frag)(mg:Str->Ω)(x:Str)(st:Stmt)(ps:Φ):Prop :=
 ∃f fd,Fun K x x st f fd/\(∀us:Θ,us.length=ps.length->bindArgs fd ⟨us,[]⟩=pure (ps.zip us))/\mg x=some (.ref f)
theorem cJ.ok{P:Program}{w:World}{K:Frag}{mg:Str->Ω}{base:Heap}{k:Nat}{x:Str}{st:Stmt}{ps:Φ}{sp:Sp}(h:cJ K mg x st ps)
 (hf:∀f fd,Fun K x x st f fd->b_ P w K mg base CX0 k f fd ps sp):OkF P w K mg base k x ps sp:=by
 obtain⟨f,fd,a,b,c⟩:=h;exact⟨f,fd,hf f fd a,.all b,c,a.kp⟩
theorem abI{K:Frag}{h:Heap}{mg:Str->Ω}{x:Str}{st:Stmt}{ps:Φ}{f:Addr}{oc:Value}{od an:Ξ}{osl:Array (Ω)}{kV doc pm cdv ct:Value}(X:K.In h)(G:h.Ns mainGlobals mg)
 (a:nsIn K mainGlobals x=some (some (.ref f)))(l:K.lookup f=some ⟨oc,od,.func (PySem.W.fnOf x x (ig st) (fD st) (bH st) .none kV doc pm an cdv ct),osl⟩)
 (c:codeIn K cdv x=true)(k:keepIn K (.ref f)=true)
 (hb:∀(kV doc pm:Value)(an:Ξ)(cdv ct:Value)(us:Θ),us.length=ps.length->bindArgs (PySem.W.fnOf x x (ig st) (fD st) (bH st) .none kV doc pm an cdv ct) ⟨us,[]⟩=pure (ps.zip us)):cJ K mg x st ps :=
 ⟨f,_,Zh l c k,hb kV doc pm an cdv ct,mg_of X G a⟩
def Uu(K:Frag):Sp:=λvs H Q _=>∃(a:Addr)(ns:List Int),vs=[.ref a]/\SqL K H a (ns.map V.int)/\ns.length<=63/\Only H/\∀H',Q (.bl true) H'
theorem aje{l:PySem.W.OpenLaw}{k:Nat}{x:Str}{q:Program}{loose:Φ}{XP:(Str->Ω)->Heap->Prop}{YP:World->Heap->Prop}{d:DefRec}{K:Params->Frag}(hn:l.most=some 63)(hdf:d.params.defaults=[])
 (hr:eX k callerA)(hY:∀(w:World)(h:Heap),YP w h->(K w.params).In h)
 (F:∀(w:World)(mg:Str->Ω)(fa:Addr)(h:Heap),(K w.params).In h->h.Ns mainGlobals mg->mg d.name=some (.ref fa) ->
   ∃st,cJ (K w.params) mg d.name st [x]/\∀(base:Heap)(f:Addr)(fd:FuncData),Fun (K w.params) d.name d.name st f fd->b_ l.prog w (K w.params) mg base CX0 k f fd [x] (Uu (K w.params))) :
  PySem.W.WalkO q loose XP YP l.row.toRowW d [] (λf vs=>PySem.call f vs):=by
 refine L2.UW (n:=63) (k:=k) (x:=x) (CX:=λ_=>CX0) (sp:=λw=>Uu (K w.params)) hn (by decide) hdf hr hY (λw mg fa h KX G hmg=>?_) (λ_ _ a ns hl hO hS=>⟨a,ns,rfl,hS,hl,hO,λ_=>rfl⟩) λ_ _ _ _ _ z=>z;obtain⟨st,⟨f,fd,hf,hb,hm⟩,ok⟩:=F w mg fa h KX G hmg;rw[hm]at hmg;have e:f=fa:=by injection hmg with z;injection z
 subst e;exact⟨fd,λs u=>.of_eq (hb [u] rfl),λbase _ _=>ok base f fd hf⟩
section
variable{X:Cx}{p pos:Pos}{e:Expr}{es:List Expr}{t:TA}{x:Str}{k:Nat}{ps:Φ}{sp:Sp}
def Ma(sp:Sp)(t:TA):TE:=λσ H Q=>t σ H λvs H1=>sp vs H1 Q E0
theorem Gv(G:OkF X.prog X.w X.K X.mg X.base k x ps sp)(hr:eX k X.A)(hg:Gl X x)(ha:PA X (e::es) t)(hdb:(x==("__debug__":Str))=false:=by decide)
 (he:starEach (e::es) X.env=(false,eval e X.env)::starEach es X.env:=by rfl)(hpl:(backTo pos (starEach es X.env)).any (·.1)=false:=by rfl):PE X (.Call (.Name x p) (e::es) [] pos) (Ma sp t):=by
 obtain⟨f,fd,F,b,hm,kp⟩:=G;intro pins s σ H Q I h;refine abC F hr hg hm kp b .nil Qk ha hdb he hpl pins s σ H Q I ?_;show t σ H λvs H1=>sp (vs++[]) H1 Q E0;simp only[List.append_nil];exact h
end
theorem adw(a:Int):(if a<0 then -a else a)=((a.natAbs:Nat):Int):=by split<;>omega
theorem rK(a:Int){b:Int}(h:0<b):Int.fdiv a b=a/b:=Int.fdiv_eq_ediv_of_nonneg a (XY h)
abbrev bmV:Θ:=[.type "ValueError",.type "Exception",.type "BaseException",.type "object"]
def amc(K:Frag)(C:Addr):Prop:=excIn K C bmV "ValueError.__new__"=true
noncomputable def XO(a C:Addr)(d:Ξ):HO:=.ext λh=>∃o,h.get? a=some o/\o.cls=.ref C/\o.dict=d/\∃vs,o.data=.fields vs
section
variable{X:Cx}{pos hpos np:Pos}{body suite:List Stmt}{b₀:Stmt}{n Dn:Str}{D:Addr}{i:Nat}{tb:(Value->Ξ->L2.St->Hp->Prop)->TS}{th:TS}
noncomputable def Ends.unset(R:Ends)(i:Nat):Ends:={ nx:=λσ H=>R.nx (σ.set i none) H,rt:=R.rt,bk:=λσ H=>R.bk (σ.set i none) H,ct:=λσ H=>R.ct (σ.set i none) H }
def akW(K:Frag)(D:Addr)(i:Nat)(tb:(Value->Ξ->L2.St->Hp->Prop)->TS)(th:TS):TS:=λR σ H =>
 ∃Ex:Value->Ξ->L2.St->Hp->Prop,tb Ex R σ H/\∀C' d σ' H',Ex C' d σ' H'->∃C,C'=.ref C/\mroIn K C (.ref D)=some true /\
  ∀a,H' a=none->th (R.unset i) (σ'.set i (some (.ref a))) (upd H' a (XO a C d))
end
noncomputable def uD(cells:List (Str×Addr)):List (Str×NameKind)->List (Str×Addr)->List (Str×Addr)
 |[],acc=>acc
 |(n,k)::r,acc=>uD cells r (if k == .free then(n,(cells.lookup n).getD 0)::acc else acc)
theorem Rv{scope:Scope}{env:Env}(h:∀y∈scope.names,y.2=.free->∃c,env.cells.lookup y.1=some c):closureFor scope env=pure (uD env.cells scope.names []):=by
 unfold closureFor;have go:∀(l:List (Str×NameKind))(acc:List (Str×Addr)),(∀y∈l,y.2=.free->∃c,env.cells.lookup y.1=some c) ->
   (forIn l acc (λ(x:Str×NameKind)(r:List (Str×Addr))=>if(x.2==NameKind.free)=true then(do let a <- cellOf env x.1;pure (ForInStep.yield ((x.1,a)::r)))else pure (ForInStep.yield r)):Sem (List (Str×Addr)))=pure (uD env.cells l acc):=by
  intro l
  induction l with
  |nil=>intro acc _;rfl
  |cons y r ih =>
   intro acc hy;obtain⟨n,k⟩:=y;rw[List.forIn_cons];by_cases hk:k=.free
   .subst hk;obtain⟨c,hc⟩:=hy (n,.free) aO rfl;have e1:cellOf env n=pure c:=by unfold cellOf;rw[show env.cells.lookup n=some c from hc]
    simp only[beq_self_eq_true,if_true,e1,pure_bind];rw[ih _ λz hz=>hy z (aJ _ hz)];show pure _=pure (uD env.cells r (if(NameKind.free==NameKind.free)=true then(n,(env.cells.lookup n).getD 0)::acc else acc));rw[show env.cells.lookup n=some c from hc]
    rfl
   .have hb:(k==NameKind.free)=false:=by simpa using hk
    simp only[hb,XW,if_false,pure_bind];rw[ih _ λz hz=>hy z (aJ _ hz)];show pure _=pure (uD env.cells r (if(k==NameKind.free)=true then(n,(env.cells.lookup n).getD 0)::acc else acc));rw[hb]
    rfl
 have e:=go scope.names [] h;show(forIn scope.names [] (λ(x:Str×NameKind)(r:List (Str×Addr))=>if(x.2==NameKind.free)=true then(do let a <- cellOf env x.1;pure (ForInStep.yield ((x.1,a)::r)))else pure (ForInStep.yield r)):Sem (List (Str×Addr))) >>= (λcs=>pure cs)=_;rw[e]
 rfl
theorem QF{cells:List (Str×Addr)} : ∀{names:List (Str×NameKind)}{acc:List (Str×Addr)}{x:Str}{c:Addr},(∀y∈names,y.2=.free->∃c,cells.lookup y.1=some c)->(x,c)∈uD cells names acc->(x,c)∈acc\/cells.lookup x=some c
 |[],_,_,_,_,h=>.inl h
 |(n,k)::r,acc,x,c,hf,h=>by
  unfold uD at h;rcases QF (λy hy=>hf y (aJ _ hy)) h with z|z
  .by_cases hk:k=.free
   .subst hk;simp only[beq_self_eq_true,if_true]at z;rcases YU.mp z with e|e
    .obtain⟨c',hc'⟩:=hf (n,.free) aO rfl;cases e;rw[show cells.lookup n=some c' from hc'];exact .inr rfl
    .exact .inl e
   .have hb:(k==NameKind.free)=false:=by simpa using hk
    simp only[hb,XW,if_false]at z;exact .inl z
  .exact .inr z
theorem Qi{cells:List (Str×Addr)} : ∀{names:List (Str×NameKind)}{acc:List (Str×Addr)}{x:Str},((x,NameKind.free)∈names\/∃c,(x,c)∈acc)->∃c,(x,c)∈uD cells names acc
 |[],_,_,h=>by
  rcases h with h|h
  .cases h
  .exact h
 |(n,k)::r,acc,x,h=>by
  unfold uD;refine Qi ?_;rcases h with h|⟨c,h⟩
  .rcases YU.mp h with e|e
   .cases e;exact .inr ⟨_,by simp only[beq_self_eq_true,if_true];exact aO⟩
   .exact .inl e
  .refine .inr ⟨c,?_⟩;split
   .exact aJ _ h
   .exact h
theorem pG{α:Type}{x:Str}{c:α} : ∀{l:List (Str×α)},(x,c)∈l->∃c',l.lookup x=some c'
 |(y,d)::r,h=>by
  rw[List.lookup_cons];cases hb:x==y with
  |true=>exact⟨d,rfl⟩
  |false =>
   rcases YU.mp h with e|e
   .cases e;simp at hb
   .exact pG e
section
variable{X:Cx}{elt iter:Expr}{x:Str}{px pos:Pos}{scope:Scope}{wi:TI}{te:TE}
theorem Inv.nostk'{pins:Δ}{σ:L2.St}{H:Hp}{s:Shared}(I:Inv X pins σ H s){b:Addr}(h1:b≠X.env.locals)(h2:b∉X.fs):b∉frs X.stack:=λz=>by
 rcases YU.mp (I.stkSub b z)with e|e
 .exact h1 e
 .exact h2 e
theorem Ad{env:Env} : ∀{names:List (Str×NameKind)}{y:Str},(names.map λ(n,k)=>if(k==NameKind.free&&env.scope.kind == .function&&env.kindOf n==some .cell)then(n,NameKind.cell)else(n,k)).lookup y=some .cell \/
  (names.map λ(n,k)=>if(k==NameKind.free&&env.scope.kind == .function&&env.kindOf n==some .cell)then(n,NameKind.cell)else(n,k)).lookup y=some .free->(∀z∈names,z.2≠.cell)->(y,NameKind.free)∈names
 |[],y,h,_=>by rcases h with h|h<;>cases h
 |(n,k)::r,y,h,hc=>by
  have ih:=@Ad env r y;simp only[List.map_cons]at h;by_cases hcond:(k==NameKind.free&&env.scope.kind == .function&&env.kindOf n==some .cell)=true
  .rw[ZY hcond]at h;simp only[List.lookup_cons]at h;cases hb:y==n with
   |true =>
    have hk:k=.free:=by
     simp only[Bool.and_eq_true,beq_iff_eq]at hcond;exact hcond.1.1
    have:y=n:=by simpa using hb
    subst this hk;exact aO
   |false =>
    rw[hb]at h;exact aJ _ (ih h λz hz=>hc z (aJ _ hz))
  .rw[ZZ hcond]at h;simp only[List.lookup_cons]at h;cases hb:y==n with
   |true =>
    rw[hb]at h;have:y=n:=by simpa using hb
    subst this;rcases h with h|h
    .exact absurd (Option.some.inj h) (hc (y,k) aO)
    .have:k=.free:=Option.some.inj h;subst this;exact aO
   |false =>
    rw[hb]at h;exact aJ _ (ih h λz hz=>hc z (aJ _ hz))
end
section
variable{X:Cx}
def eqF:Ζ->Ζ->Bool
 |[],[]=>true
 |x::xs,y::ys=>eqV x y&&eqF xs ys
 |_,_=>false
def eqH(H:Hp)(x y:V):Option Bool :=
 match x,y with
 |.ref a,.ref b=>match H a,H b with
  |some (.tup xs),some (.tup ys)=>if xs.all JL&&ys.all JL then some (eqF xs ys)else none
  |some (.lst xs),some (.lst ys)=>if xs.all JL&&ys.all JL then some (eqF xs ys)else none
  |some (.lst _),some (.tup _)=>some false
  |some (.tup _),some (.lst _)=>some false
  |_,_=>none
 |.ref a,y=>if JL y then(match H a with
  |some (.tup _)=>some false
  |some (.lst _)=>some false
  |_=>none)else none
 |x,.ref b=>if JL x then(match H b with
  |some (.tup _)=>some false
  |some (.lst _)=>some false
  |_=>none)else none
 |x,y=>if sW x y then some (decide (x=y))else none
theorem Inv.tupIs{pins:Δ}{σ:L2.St}{H:Hp}{s:Shared}{a:Addr}{xs:Ζ}(I:Inv X pins σ H s)(h:H a=some (.tup xs)):∃its,Vals xs its/\IsTup s.heap a its.toArray/\s.heap.IsTuple a its.toArray:=by
 obtain⟨its,rv,ht,_⟩:=I.tuple (SqT.of h);exact⟨its,rv,ht,ht⟩
theorem Inv.lstIs{pins:Δ}{σ:L2.St}{H:Hp}{s:Shared}{a:Addr}{xs:Ζ}(I:Inv X pins σ H s)(h:H a=some (.lst xs)):∃its,Vals xs its/\s.heap.IsList a its.toArray:=by
 obtain⟨its,rv,ht,_⟩:=I.list (SqL.of h);exact⟨its,rv,ht.isList⟩
def IsX(H:Hp)(a C:Addr):Prop:=∃d,H a=some (XO a C d)
end
open PySem.SeqAt in
mutual
inductive Shows(H:Hp):V->PyData->Prop
 |non:Shows H .non .none
 |bl (b:Bool):Shows H (.bl b) (.bool b)
 |int (i:Int):Shows H (.int i) (.int i)
 |str (x:Str):Shows H (.str x) (.str x)
 |lst {a:Addr}{xs:Ζ}{ds:List PyData} : H a=some (.lst xs)->eG H xs ds->Shows H (.ref a) (.list ds)
 |tup {a:Addr}{xs:Ζ}{ds:List PyData} : H a=some (.tup xs)->eG H xs ds->Shows H (.ref a) (.tuple ds)
inductive eG(H:Hp):Ζ->List PyData->Prop
 |nil:eG H [] []
 |cons {x:V}{xs:Ζ}{d:PyData}{ds:List PyData} : Shows H x d->eG H xs ds->eG H (x::xs) (d::ds)
end
mutual
theorem Shows.same{H H':Hp}(S:Same H H'):∀{x:V}{d:PyData},Shows H x d->Shows H' x d
 |_,_,.non=>.non
 |_,_,.bl b=>.bl b
 |_,_,.int i=>.int i
 |_,_,.str x=>.str x
 |_,_,.lst e h=>.lst (S _ _ e) (eG.same S h)
 |_,_,.tup e h=>.tup (S _ _ e) (eG.same S h)
theorem eG.same{H H':Hp}(S:Same H H'):∀{xs:Ζ}{ds:List PyData},eG H xs ds->eG H' xs ds
 |_,_,.nil=>.nil
 |_,_,.cons h t=>.cons (Shows.same S h) (eG.same S t)
end
theorem eG.ints(H:Hp):∀ns:List Int,eG H (ns.map V.int) (ns.map PyData.int)
 |[]=>.nil
 |n::ns=>.cons (.int n) (eG.ints H ns)
section
variable{X:Cx}{pins:Δ}{σ:L2.St}{H:Hp}{s:Shared}
mutual
theorem Inv.reads(I:Inv X pins σ H s):∀{x:V}{d:PyData}{v:Value},Shows H x d->RelV x v->∃as,Reads s.heap v d as
 |_,_,_,.non,r=>by cases r;exact⟨_,.none⟩
 |_,_,_,.bl b,r=>by cases r;exact⟨_,.bool b⟩
 |_,_,_,.int i,r=>by obtain⟨t,rfl⟩:=r;exact⟨_,.int i t⟩
 |_,_,_,.str x,r=>by obtain⟨t,rfl⟩:=r;exact⟨_,.str x t⟩
 |_,_,_,.lst e h,r=>by
  cases r;obtain⟨its,rv,⟨o,ho,hc,n,hd⟩⟩:=I.lstIs e;obtain⟨as,q⟩:=Inv.readsAll I h rv;exact⟨_,.list ho hc hd q⟩
 |_,_,_,.tup e h,r=>by
  cases r;obtain⟨its,rv,_,⟨o,ho,hc,n,hd⟩⟩:=I.tupIs e;obtain⟨as,q⟩:=Inv.readsAll I h rv;exact⟨_,.tuple ho hc hd q⟩
theorem Inv.readsAll(I:Inv X pins σ H s):∀{xs:Ζ}{ds:List PyData}{vs:Θ},eG H xs ds->Vals xs vs->∃as,ReadsAll s.heap vs ds as
 |_,_,_,.nil,r=>by cases r;exact⟨_,.nil⟩
 |_,_,_,.cons h t,r=>by
  cases r with
  |cons r1 r2 =>
   obtain⟨a,q1⟩:=Inv.reads I h r1;obtain⟨b,q2⟩:=Inv.readsAll I t r2;exact⟨_,.cons q1 q2⟩
end
def acO:Ζ->Hp->VK->Prop:=λxs H Q=>∃(l:Addr)(ns:List Int),xs=[.ref l]/\H l=some (.lst (ns.map V.int))/\Q (.int ns.sum) H
theorem Wu(hc:X.calm=true):iJ X (.builtin "sum") acO:=by
 intro pins s σ H xs us Q I r h;obtain⟨l,ns,rfl,hl,q⟩:=h;obtain⟨u,rfl,ru⟩:=r.one;cases ru;obtain⟨its,rv,p⟩:=I.lstIs hl;have hI:=intsAre_of rv;obtain⟨xs,e⟩:=hI.allInts.items;have hn:=hI.numsOf;rw[show its=its.toArray.toList from rfl,e,nums_intItems]at hn;rw[e]at p;refine sum_intListG (I.ok.hd hc) p λh' tk t' k=>⟨.int ns.sum,H,I.kept k,?_,q⟩;rw[preSum_eq,List.take_of_length_le (by simp),hn];exact⟨_,rfl⟩
end
section
variable{X:Cx}
def tM(t:TE):TE:=λσ H Q=>∃R:VK,t σ H R/\∀x H',R x H'->Q x H'
def tMA(t:TA):TA:=λσ H Q=>∃R:Ζ->Hp->Prop,t σ H R/\∀x H',R x H'->Q x H'
theorem PE.mono{a:Expr}{t:TE}(h:PE X a t):PE X a (tM t):=λpins s σ H Q I ⟨R,h1,h2⟩ =>
 thn (h pins s σ H R I h1) λv s' hP=>by obtain⟨x,H',I',r,q⟩:=hP;exact⟨x,H',I',r,h2 x H' q⟩
theorem PA.mono{es:List Expr}{t:TA}(h:PA X es t):PA X es (tMA t):=λpos pins s σ H Q I ⟨R,h1,h2⟩ =>
 thn (h pos pins s σ H R I h1) λv s' hP=>by obtain⟨x,H',I',r,q⟩:=hP;exact⟨x,H',I',r,h2 x H' q⟩
theorem PE.imp{a:Expr}{t t':TE}(h:PE X a t)(i:∀σ H Q,t' σ H Q->t σ H Q):PE X a t':=λpins s σ H Q I q=>h pins s σ H Q I (i σ H Q q)
def ajK(to:TE)(t:TA):TE:=λσ H Q=>to σ H λx H1=>∃l xs,x=.ref l/\H1 l=some (.lst xs)/\t σ H1 λvs H2=>∃y ys,vs=[y]/\H2 l=some (.lst ys)/\ys.length<sizeLine/\Q .non (upd H2 l (.lst (ys++[y])))
theorem Yk{o e:Expr}{to:TE}{t:TA}{apos cpos:Pos}(ho:PE X o to)(ha:PA X [e] t)(hb:attributeBase o "append" X.env (eval o X.env)=eval o X.env:=by rfl)
 (hf:((backTo cpos (starEach [e] X.env)).all (λx=>!x.1)&&(backToKw cpos (keywordEach [] X.env)).all (λx=>x.1.isSome)&&decide ([e].length+([] : List Keyword).length+(if([] : List Keyword).isEmpty then 0 else 1)<30))=true:=by rfl)
 (hl:(apos.endLine==cpos.line)=true:=by rfl)(hs:starEach [e] X.env=(false,eval e X.env)::starEach [] X.env:=by rfl)(hp:(backTo cpos (starEach [] X.env)).any (·.1)=false:=by rfl) :
  PE X (.Call (.Attribute o "append" apos) [e] [] cpos) (ajK to t):=by
 refine(YG PySem.F.plainAttrs_list PySem.F.slot_list_append PySem.F.type_list_append JQ ho.mono ha.mono hb hf hl hs hp).imp λσ H Q h=>?_;refine⟨_,h,?_⟩;rintro x H1 ⟨l,xs,rfl,hx,h2⟩;refine⟨.inl ⟨rfl,_,SqL.of hx⟩,_,h2,?_⟩;rintro vs H2 ⟨y,ys,rfl,hy,hz,q⟩;exact⟨l,ys,y,rfl,rfl,hy,hz,q⟩
def YJ:Ζ->Hp->VK->Prop:=λxs H Q=>∃p ys,xs=[.ref p]/\H p=some (.lst ys)/\∀l,H l=none->Q (.ref l) (upd H l (.lst ys))
theorem Sx:iJ X (.type "list") YJ:=Ng.imp λxs H Q hP=>by obtain⟨p,ys,a,b,c⟩:=hP;exact⟨p,ys,a,.inl (.of b),c⟩
end
mutual
theorem Sq:∀ns:List Int,PyData.canLayAll0 (ns.map PyData.int)=true
 |[]=>rfl
 |n::ns=>by
  rw[List.map_cons];unfold PyData.canLayAll0;rw[Sq ns];rfl
end
inductive FL(H:Hp):Ζ->Γ->Prop
 |nil:FL H [] []
 |cons {p:Addr}{f:Β}{xs:Ζ}{fs:Γ} : H p=some (.tup [.int f.1,.int f.2])->FL H xs fs->FL H (.ref p::xs) (f::fs)
noncomputable def Its(x:Str):It:=⟨λi _=>i<x.cps.size,λi H v H'=>H'=H/\∃c,x.cps[i]?=some c/\v=.str ⟨#[c]⟩,λi _=>i=x.cps.size⟩
theorem O8{P:Program}{w:World}{K:Frag}{tg:Expr}(it:Addr)(x:Str)(t:Tok)(ty:String)(hty : ["enumerate","zip","dict_itemiterator","dict_reverseitemiterator","odict_iterator","itertools.zip_longest","itertools.pairwise"].contains ty=false)
 (W:∀A:Around,A.handled=none->Walks P w A it [it] [it] x.cps.size (SignAt x) (λi h=>h.IsStrIter it ty x t i))
 (hself:∀(A:Around)(i:Nat)(s:Shared)(Q:Ε)(E:Ε),s.heap.IsStrIter it ty x t i->Q (.ref it) s->wpAny (model P w) A (pyIter (.ref it)) Q E s):Turn P w K tg (Its x) [it] it (λi h=>h.IsStrIter it ty x t i) where
 mem:=by simp
 obj:=λi h st b hb=>by
  have e:b=it:=by simpa using hb
  subst e;obtain⟨o,ho,_,hd⟩:=st;exact⟨o,ho,λv z=>by rw[hd]at z;cases z⟩
 keep:=λi h h' st k=>let⟨o,ho,r⟩:=st;⟨o,k it (by simp) o ho,r⟩
 item:=by
  intro X hP hw hK hc i pins s σ H E I hf st hg;subst hP hw hK;obtain⟨f0,f1,f2,f3,f4,f5⟩:=hf it (by simp);refine(W X.A (I.ok.hd hc)).item i s _ _ hg st λv h' tk hv st' kk=>?_;obtain⟨c,u,hx,rfl⟩:=hv;have I1:Inv X pins σ H { s with heap:=h',toks:=tk }:=I.turned (λb o hb e=>kk b o (by simpa using hb) e) f0 f1 f3 f4 f5;obtain⟨o,ho,hcl,hd⟩:=id st';exact⟨_,rfl,O4 (s:={ s with heap:=h',toks:=tk }) ho hcl hd hty ⟨.str ⟨#[c]⟩,H,I1,⟨u,rfl⟩,⟨rfl,c,hx,rfl⟩,st',λb hb=>(hf b hb).1⟩⟩
 done:=by
  intro X hP hw hK hc i pins s σ H E I hf st hg;subst hP hw hK;obtain⟨f0,f1,f2,f3,f4,f5⟩:=hf it (by simp);have hg':i=x.cps.size:=hg;subst hg';exact(W X.A (I.ok.hd hc)).done s _ _ st λh' tk kk=>⟨rfl,I.turned (λb o hb e=>kk b o (by simpa using hb) e) f0 f1 f3 f4 f5⟩
 self:=hself
section
variable{X:Cx}{tg:Expr}
def alF(te:TE):TI:=λσ H R=>te σ H λv H1=>∃x,v=.str x/\R (Its x) H1
theorem aey{l:Expr}{tl:TE}(hl:PE X l tl):PI X tg l (alF tl):=by
 intro pins s σ H R I h;refine thn (hl pins s σ H _ I h) λv s1 hP=>?_;obtain⟨x,H1,I1,r1,y,ey,q⟩:=hP;subst ey;obtain⟨t,rfl⟩:=r1;have fp:∀b∈[s1.heap.objs.size],Dm X pins H1 b:=λb hb=>by
  have e:b=s1.heap.objs.size:=by simpa using hb
  subst e;exact I1.fpOk (aG _) (I1.hok.fresh (aG _))
 have k:∀o:Obj,Inv X pins σ H1 { s1 with heap:=s1.heap.push o }:=λo=>I1.kept (t':=s1.toks) λb ob z=>aH _ z;cases ha:y.cps.all (· < 128)
 .exact wpAny_pyIter_wide ha ⟨s1.heap.objs.size,[s1.heap.objs.size],_,Its y,H1,rfl,k _,O8 _ y t "str_iterator" (by decide) (λA hA=>Walks.strWide hA _ y t) (λA i s Q E st h=>wpAny_pyIter_striter_wide st h),⟨_,aW _ rfl,rfl,rfl⟩,fp,q⟩
 .exact wpAny_pyIter_ascii ha ⟨s1.heap.objs.size,[s1.heap.objs.size],_,Its y,H1,rfl,k _,O8 _ y t "str_ascii_iterator" (by decide) (λA hA=>Walks.strAscii hA _ y t) (λA i s Q E st h=>wpAny_pyIter_striter_ascii st h),⟨_,aW _ rfl,rfl,rfl⟩,fp,q⟩
end
noncomputable def DY(x:Str)(lo hi:Option Int):Str:=⟨((x.cps.toList.drop (HT.sIx x.length 0 lo)).take (HT.sIx x.length x.length hi-HT.sIx x.length 0 lo)).toArray⟩
theorem strIdx(lo hi:Option Int)(n:Nat):Builtin.Str.strSliceIndices lo hi 1 n=(List.range (HT.sIx n n hi-HT.sIx n 0 lo)).map (HT.sIx n 0 lo + ·):=by
 rw[<- sliceRange_one];unfold Builtin.Str.strSliceIndices;have h1:∀(o:Option Int)(d:Nat),d<=n->(match o with
   |none=>(d:Int)
   |some i=>(let i:=if i<0 then i+(n:Int)else i;if(1:Int)>0 then max 0 (min i n)else max (-1) (min i (n-1))))=((HT.sIx n d o:Nat):Int):=by
  intro o d hd;cases o with
  |none=>rfl
  |some i =>
   simp only[HT.sIx,show(1:Int)>0 by decide,if_true];by_cases h:i<0
   .simp only[h,if_true]<;>lia
   .simp only[h,if_false]<;>lia
 have e1:=h1 lo 0 (aZ _);have e2:=h1 hi n (aG _);simp only[show(1:Int)>0 by decide,if_true]at e1 e2 ⊢;rw[<- e1,<- e2]
 rfl
theorem aaJ(x:Str)(lo hi:Option Int):(⟨((Builtin.Str.strSliceIndices lo hi 1 x.length).filterMap (x.cps[·]?)).toArray⟩ : Str)=DY x lo hi:=by
 rw[strIdx,pick_run];rfl
theorem SN(x:Str)(lo hi:Option Int)(h:(Builtin.Str.strSliceIndices lo hi 1 x.length).length=x.length):DY x lo hi=x:=by
 rw[strIdx,ak,List.length_range]at h;have h2:=HT.ae3 x.length x.length (aG _) hi;unfold DY;have hx:x.length=x.cps.size:=rfl;have e:x.cps.toList.length=x.length:=by simp[hx]
 by_cases z:x.length=0
 .have:x.cps.toList=[]:=List.length_eq_zero_iff.mp (Eq.trans e z);rw[this];obtain⟨⟨l⟩⟩:=x;simp at this;subst this;simp
 .have e0:HT.sIx x.length 0 lo=0:=by lia
  rw[e0,List.drop_zero,List.take_of_length_le (by lia)]
def afJ:V->Option Int->Option Int->Hp->VK->Prop:=λx lo hi H Q=>∃y,x=.str y/\y.length<=sizeLine/\Q (.str (DY y lo hi)) H
theorem part_of{v:Value}{o:Option Int}(h:IsPart v o):∃l:Option (Int×Tok),v=partValue l/\l.map (·.1)=o:=by
 cases h with
 |none=>exact⟨none,rfl,rfl⟩
 |int i t=>exact⟨some (i,t),rfl,rfl⟩
theorem aeD{X:Cx} : SlR X afJ:=by
 intro pins s σ H x v vl vu lo hi sl Q I rx hs pl pu h;obtain⟨y,rfl,hz,q⟩:=h;obtain⟨t,rfl⟩:=rx;obtain⟨l,rfl,el⟩:=part_of pl;obtain⟨u,rfl,eu⟩:=part_of pu;refine⟨"str",_,F.slot_str_getitem.lookup,typeIs_str s y t,wpAny_getItem_str_slice (l:=l) (u:=u) (st:=none) hs rfl ?_⟩;unfold sliceMade slicePicked;rw[el,eu];split
 .rename_i hw
  have hw':=(Bool.and_eq_true_iff.mp hw).2;rw[beq_iff_eq]at hw';have e:=SN y lo hi hw';rw[e]at q;exact⟨.str y,H,I,⟨t,rfl⟩,q⟩
 .have e:=aaJ y lo hi;refine⟨?_,.str (DY y lo hi),H,I.tok _,⟨s.toks,?_⟩,q⟩
  .refine aL ?_ hz;refine aL (Nat.le_of_eq (ZH Str.length e)) ?_;show((y.cps.toList.drop _).take _).toArray.size<=y.cps.size;rw[aX,aY,List.length_drop,Array.length_toList];lia
  .rw[<- e];rfl
section
variable{X:Cx}
def acK:R2:=λx y H Q=>∃i j,x=.str i/\y=.str j/\i.length+j.length<=sizeLine/\Q (.str (i++j)) H
theorem aa8:OpR X (binaryOp .Add) acK:=Rk
def agy:R2:=λx y H Q=>∃i j,x=.str i/\y=.str j/\Q (.bl (!decide (j.cps.toList<i.cps.toList))) H
theorem afa:OpR X (compareOp .LtE) agy:=by
 intro pins s σ H x y v u Q I rx ry h;obtain⟨i,j,rfl,rfl,q⟩:=h;obtain⟨t,rfl⟩:=rx;obtain⟨t',rfl⟩:=ry;exact PySem.P.le_str (cR I q rfl)
theorem OpR.imp{f:Value->Value->Sem Value}{r r':R2}(h:OpR X f r)(i:∀x y H Q,r' x y H Q->r x y H Q):OpR X f r':=λpins s σ H x y v u Q I rx ry q=>h pins s σ H x y v u Q I rx ry (i _ _ _ _ q)
theorem BJ:∀{bs:List Bool}{us:Θ},Vals (bs.map V.bl) us->∀(i:Nat)(v:Value),us[i]?=some v->∃b,bs[i]?=some b/\v=.bool b
 |[],_,.nil,i,v,h=>by cases i<;>cases h
 |b::bs,_,.cons r t,0,v,h=>by
  rw[List.getElem?_cons_zero]at h;cases h;exact⟨b,rfl,r⟩
 |b::bs,_,.cons r t,i+1,v,h=>by
  rw[List.getElem?_cons_succ]at h;exact BJ t i v h
def ab9:Ζ->Hp->VK->Prop:=λxs H Q=>∃(l:Addr)(bs:List Bool),xs=[.ref l]/\H l=some (.lst (bs.map V.bl))/\Q (.bl (bs.all id)) H
theorem uy:∀bs:List Bool,((List.range bs.length).all λi=>(bs[i]?).getD true)=bs.all id
 |[]=>rfl
 |b::bs=>by
  rw[List.length_cons,List.range_succ_eq_map,List.all_cons,List.all_map,List.all_cons];have:=uy bs;simp only[Function.comp_def,List.getElem?_cons_succ,List.getElem?_cons_zero,Option.getD_some,id]at this ⊢;rw[this]
theorem VL(hc:X.calm=true):iJ X (.builtin "all") ab9:=by
 intro pins s σ H xs us Q I r h;obtain⟨l,bs,rfl,hl,q⟩:=h;obtain⟨u,rfl,ru⟩:=r.one;cases ru;obtain⟨its,rv,p⟩:=I.lstIs hl;have hlt:l<s.heap.objs.size:=by obtain⟨_,e,_⟩:=p;exact aK e
 refine call_all_walk (wpAny_pyIter_list p ?_);refine⟨s.heap.objs.size,[s.heap.objs.size,l],[s.heap.objs.size],its.toArray.size,_,_,λi=>(bs[i]?).getD true,rfl,Walks.list (A:=X.A.in1) (I.ok.hd hc) _ l (aQ hlt) its.toArray,
  ⟨⟨_,aW _ rfl,rfl,rfl⟩,p.push _⟩,λi v s' Q' E' hP hQ=>?_,λh' tk hk=>?_⟩
 .obtain⟨b,e,rfl⟩:=BJ rv i v (by simpa using hP);simp only[e,Option.getD_some]at hQ;exact wpAny_truthy_bool hQ
 .have e:((List.range its.toArray.size).all λi=>(bs[i]?).getD true)=bs.all id:=by
   rw[aX,<- rv.length,ak];exact uy bs
  refine⟨.bl (bs.all id),H,I.kept (t':=tk) λb o q=>hk b o (λhm=>?_) (aH _ q),?_,q⟩
  .rw[YR.mp hm]at q;exact X2 _ (aK q)
  .rw[e];rfl
noncomputable def amb:List Nat->Int
 |i::_=>(i:Int)
 |[]=>-1
def tSM(r:V->Ζ->Hp->VK->Prop)(to:TE)(t:TA):TE:=λσ H Q=>to σ H λx H1=>(∃y,x=.str y)/\t σ H1 λvs H2=>r x vs H2 Q
theorem afQ{o e:Expr}{to:TE}{t:TA}{name:Str}{id:String}{r:V->Ζ->Hp->VK->Prop}{apos cpos:Pos}(slot:Slot "str" name id)(hty:typeOf (.builtin id)=pure (.type "method_descriptor"))(hm:MtM X id r)(ho:PE X o to)(ha:PA X [e] t)
 (hb:attributeBase o name X.env (eval o X.env)=eval o X.env:=by rfl)
 (hf:((backTo cpos (starEach [e] X.env)).all (λx=>!x.1)&&(backToKw cpos (keywordEach [] X.env)).all (λx=>x.1.isSome)&&decide ([e].length+([] : List Keyword).length+(if([] : List Keyword).isEmpty then 0 else 1)<30))=true:=by rfl)
 (hl:(apos.endLine==cpos.line)=true:=by rfl)(hs:starEach [e] X.env=(false,eval e X.env)::starEach [] X.env:=by rfl)(hp:(backTo cpos (starEach [] X.env)).any (·.1)=false:=by rfl) :
  PE X (.Call (.Attribute o name apos) [e] [] cpos) (tSM r to t):=by
 refine(YG PySem.F.plainAttrs_str slot hty hm ho.mono ha hb hf hl hs hp).imp λσ H Q h=>?_;refine⟨_,h,?_⟩;rintro x H1 ⟨⟨y,rfl⟩,h2⟩;exact⟨rfl,h2⟩
theorem Xb{x:Str}{v:V}{pos:Pos}(hg:Gl X x)(hm:∃u,X.mg x=some u/\RelV v u)(hd:(x==("__debug__":Str))=false:=by decide):PE X (.Name x pos) (tC v):=by
 obtain⟨u,h1,h2⟩:=hm;exact T6 hg h1 h2 hd
end
noncomputable def hid(y:Str):Str:=Str.ofString "?"++y
def Jo(xs:Φ)(N:Φ):Φ:=N.map λy=>if y∈xs then hid y else y
def Cx.compG(X:Cx)(N':Φ)(scope:Scope)(xs:Φ)(C:Addr)(s₀:Shared)(H₀:Hp)(ex:Ψ)(pn:Δ):Cx :=
 { X with env:=compEnvC scope (uD X.env.cells scope.names []) C X.env,N:=xs++N',s₀:=s₀,H₀:=H₀,outer:=X.stack,ex:=ex,fn:=λ_=>false,pn:=pn,xe:=λ_ _=>False }
def PTs(X:Cx)(ifs:List Expr)(tc:TT):Prop:=∀(pins:Δ)(s:Shared)(σ:L2.St)(H:Hp)(Q:Bool->Hp->Prop),Inv X pins σ H s->tc σ H Q ->
 wpAny (model X.prog X.w) X.A (forIn ifs true λc r=>if r=true then do let ok <- isTrue c X.env (eval c X.env);pure (ForInStep.yield ok)else pure (ForInStep.yield r)) (λb s'=>∃H',Inv X pins σ H' s'/\Q b H') X.xe s
def akb:TT:=λ_ H Q=>Q true H
theorem abk{X:Cx} : PTs X [] akb:=λ_ _ _ H _ I q=>wpAny_tests_nil ⟨H,I,q⟩
theorem aaI{X:Cx}{c:Expr}{tc:TT}(h:PT X c tc):PTs X [c] tc:=λpins s σ H Q I q=>wpAny_tests_one (h pins s σ H Q I q)
def rA(wi:TI)(n:Nat)(gt:TG)(tc:TT)(te:TE):TE:=λσ H Q=>wi σ H λJ H1=>∀D,H1 D=none->∃W:Nat->Nat->Ζ->Hp->Prop,(∃m,W 0 m [] (upd H1 D (.lst [])))/\∀i m ys Hc,W i m ys Hc ->
 (J.stop i Hc/\Q (.ref D) Hc)\/(J.go i Hc/\∀x H',J.yld i Hc x H'->∀pre:L2.St,pre.length=n->gt x (pre++σ) H' λσ2 H2=>∃pre':L2.St,pre'.length=n/\σ2=pre'++σ/\tc σ2 H2 λb H3 =>
  match b with
  |true=>te σ2 H3 λy H4=>ys.length<sizeLine/\H4 D=some (.lst ys)/\∃m',m'<m/\W (i+1) m' (ys++[y]) (upd H4 D (.lst (ys++[y])))
  |false=>∃m',m'<m/\W (i+1) m' ys H3)
def Cx.compE(X:Cx)(ext:Addr->List (Str×Addr))(fn:Str->Bool)(N':Φ)(scope:Scope)(xs:Φ)(C:Addr)(s₀:Shared)(H₀:Hp)(ex:Ψ)(pn:Δ):Cx :=
 { X with env:=compEnvC scope (ext C++uD X.env.cells scope.names []) C X.env,N:=xs++N',s₀:=s₀,H₀:=H₀,outer:=X.stack,ex:=ex,fn:=fn,pn:=pn,xe:=λ_ _=>False }
structure Qc(X:Cx)(scope:Scope)(xs:Φ)(ext:Addr->List (Str×Addr))(fn:Str->Bool):Prop where
 new:∀{M:Model}{A:Around}{E:Ε}{s:Shared}{globals:Addr}{closure:List (Str×Addr)}{qual:Str}{outer:Env}{Q:Env->Shared->Prop},(∀g,g.Ns s.heap.objs.size (λx=>([] : List (Str×Value)).reverse.lookup x)->(∀y c,(ext s.heap.objs.size).lookup y=some c->g.IsCell c none)->(∀b o,s.heap.get? b=some o->g.get? b=some o)->Q (newEnv scope s.heap.objs.size globals (ext s.heap.objs.size++closure) qual none .none (some outer) builtinsNs) { s with heap:=g,toks:=s.toks+([] : List (Str×Value)).length }) ->
  wpAny M A (newFunctionEnv scope globals closure [] qual none .none (some outer)) Q E s
 up:∀C y c,(ext C).lookup y=some c->C<c
 one:∀C y z c,(ext C).lookup y=some c->(ext C).lookup z=some c->y=z
 nw:∀C y,fn y=true->∃c,(ext C).lookup y=some c
 off:∀C y,y∉xs->(ext C).lookup y=none
 kd:∀C y,((relabel scope X.env).names.lookup y=some .cell\/(relabel scope X.env).names.lookup y=some .free)->(∃c,(ext C).lookup y=some c)\/(y,NameKind.free)∈scope.names
theorem afx{X:Cx}{scope:Scope}{xs:Φ}(hk:scope.kind=.function)(hcell:∀y∈scope.names,y.2≠.cell):Qc X scope xs (λ_=>[]) (λ_=>false) :=
 ⟨λhQ=>wpAny_newFunctionEnv hcell (by intro y hy;simp at hy) (λg hns hsb=>hQ g hns (λ_ _ z=>(nomatch z)) λb o e=>(hsb.2 b (aQ (aK e))).trans (aH _ e)) hk,λ_ _ _ z=>(nomatch z),λ_ _ _ _ z=>(nomatch z),λ_ _ z=>(nomatch z),λ_ _ _=>rfl,λ_ _ e=>.inr (Ad e hcell)⟩
section
variable{X:Cx}{elt iter:Expr}{pos:Pos}{scope:Scope}{wi:TI}{te:TE}
theorem Jk{ext:Addr->List (Str×Addr)}{fn:Str->Bool}{use:Option (Value->Sem Unit)}{post:Ε}{Qv:VK}{pins:Δ}{s:Shared}{σ:L2.St}{H:Hp}{pp:Pos}{xs N':Φ}{tg:Expr}{ifs:List Expr}{gt:TG}{tc:TT}(E:Qc X scope xs ext fn)(hc:X.calm=true)(hsh:Jo xs X.N=N')(hkind:scope.kind=.function)(hnames:∀y∈scope.names,y.2=.local->scope.names.lookup y.1=some .local)
 (hfree:∀y∈scope.names,y.2=.free->X.env.kindOf y.1=some .cell\/X.env.kindOf y.1=some .free)(hloc:∀y∈X.N,y∉xs->(relabel scope X.env).names.lookup y≠some .local)(hq:∀y∈X.N,y∈xs->(relabel scope X.env).names.lookup (hid y)=none)(hi:PI X tg iter wi)
 (hg:∀C s₀ H₀ ex pn,PG (X.compE ext fn N' scope xs C s₀ H₀ ex pn) tg gt)(ht:∀C s₀ H₀ ex pn,PTs (X.compE ext fn N' scope xs C s₀ H₀ ex pn) ifs tc)(he:∀C s₀ H₀ ex pn,PE (X.compE ext fn N' scope xs C s₀ H₀ ex pn) elt te)(hs:∀z,foldedSetIterable iter X.env z=pure z)(I:Inv X pins σ H s)(h:rA wi xs.length gt tc te σ H Qv)
 (endC:∀(C D:Addr)(Hc:Hp)(s6:Shared)(m:Str->Ω)(fl:Flow),s6.heap.Ns C m->Inv X pins σ Hc s6->Dm X pins Hc C->Qv (.ref D) Hc->compPost (model X.prog X.w) X.A X.xe use post (.ref D) C (.ok fl) s6) :
  wpAny (model X.prog X.w) X.A (comprehension (.ListComp elt [⟨tg,iter,ifs,0⟩] scope pos) scope X.env pp (newList []) false (eval iter X.env) use) post X.xe s:=by
 have hfr:∀y∈scope.names,y.2=.free->∃c,X.env.cells.lookup y.1=some c:=λy hy e=>I.ok.has y.1 (hfree y hy e);refine wpAny_comprehension_free (use:=use) (Q:=post) rfl hs (Rv hfr) hkind hnames (thn (hi pins s σ H _ I h) λv s1 h1=>thn h1 λitv s2 h2=>?_);obtain⟨it,fp,tn,J,H2,e,I2,T,st2,f2,R⟩:=h2;subst e;have nD:H2 s2.heap.objs.size=none:=I2.hok.fresh (aG _);obtain⟨W,⟨m0,w0⟩,turn⟩:=R s2.heap.objs.size nD;refine wpAny_newObj_type ?_ (by show 0<=sizeLine;exact aZ _);have I3:Inv X pins σ (upd H2 s2.heap.objs.size (.lst [])) { s2 with heap:=s2.heap.push { cls:=.type "list",dict:=none,data:=.seq ([] : Θ).toArray } }:=I2.lnew (t':=s2.toks) (ys:=[]) (its:=[]) .nil (aZ _);have oldT:∀b o,s2.heap.get? b=some o->(s2.heap.push { cls:=.type "list",dict:=none,data:=.seq ([] : Θ).toArray }).get? b=some o:=λb o e=>aH _ e;generalize hs3:({ s2 with heap:=s2.heap.push { cls:=.type "list",dict:=none,data:=.seq ([] : Θ).toArray } } : Shared)=s3 at I3 ⊢;have st3:tn 0 s3.heap:=T.keep _ _ _ st2 λb _ o e=>by rw[<- hs3];exact oldT b o e
 generalize hH3:upd H2 s2.heap.objs.size (.lst [])=H3 at I3 w0;have f3:∀b∈fp,Dm X pins H3 b:=λb hb=>by
  obtain⟨a1,a2⟩:=f2 b hb;refine⟨?_,a2⟩;obtain⟨o,e,_⟩:=T.obj _ _ st2 b hb;rw[<- hH3,cC (aQ (aK e))];exact a1
 refine E.new λg hns hcl kg=>?_;have clm:∀{y:Str}{c:Addr},(uD X.env.cells scope.names []).lookup y=some c->X.env.cells.lookup y=some c:=λ{y c}e=>by
  rcases QF hfr (PySem.mem_of_lookup e)with z|z
  .cases z
  .exact z
 have kinds:∀{y:Str},(ext s3.heap.objs.size).lookup y=none->((relabel scope X.env).names.lookup y=some .cell\/(relabel scope X.env).names.lookup y=some .free)->(X.env.kindOf y=some .cell\/X.env.kindOf y=some .free)/\∃c,(ext s3.heap.objs.size++uD X.env.cells scope.names []).lookup y=some c/\X.env.cells.lookup y=some c:=λ{y}ny e=>by
  rcases E.kd s3.heap.objs.size y e with⟨c,z⟩|z
  .rw[ny]at z;cases z
  .obtain⟨c,hc'⟩:=Qi (cells:=X.env.cells) (acc:=[]) (.inl z);obtain⟨c,hc'⟩:=pG hc';exact⟨hfree _ z rfl,c,by rw[List.lookup_append,ny];exact hc',clm hc'⟩
 have cle:∀{y:Str}{c:Addr},(ext s3.heap.objs.size++uD X.env.cells scope.names []).lookup y=some c->(ext s3.heap.objs.size).lookup y=some c\/X.env.cells.lookup y=some c:=λ{y c}e=>by
  rw[List.lookup_append]at e;cases hy:(ext s3.heap.objs.size).lookup y with
  |some d=>rw[hy]at e;exact .inl e
  |none=>rw[hy]at e;exact .inr (clm e)
 have cll:∀{y z c},(ext s3.heap.objs.size).lookup z=some c->¬X.env.cells.lookup y=some c:=λ{y z c}e1 e=>by
  obtain⟨v,o,h1,_⟩:=I3.cell y c e;exact X2 _ (Nat.lt_trans (aK h1) (E.up _ _ _ e1))
 have lt3:∀b∈fp,b<s3.heap.objs.size:=λb hb=>by
  obtain⟨o,e,_⟩:=T.obj _ _ st3 b hb;exact aK e
 have nst:∀b∈fp,b∉frs X.stack:=λb hb=>I3.nostk' (f3 b hb).2.1 (f3 b hb).2.2.1;have cfp:∀b∈fp,∀y c,(ext s3.heap.objs.size++uD X.env.cells scope.names []).lookup y=some c->c≠b:=λb hb y c e=>by
  rcases cle e with z|z
  .exact Nat.ne_of_gt (Nat.lt_trans (lt3 b hb) (E.up _ _ _ z))
  .exact(f3 b hb).2.2.2.2.1 y c z
 generalize hX:X.compE ext fn N' scope xs s3.heap.objs.size s3 H3 fp (X.pn++pins)=Y;have ok':Y.Ok:=by
  subst hX;exact⟨I3.ok.mod,hkind,I3.ok.glob,I3.ok.blt,aG _,λy z c h1 h2=>by
    rcases cle h1 with e1|e1<;>rcases cle h2 with e2|e2
    .exact E.one _ _ _ _ e1 e2
    .exact absurd e2 (cll e1)
    .exact absurd e1 (cll e2)
    .exact I3.ok.inj y z c e1 e2,λy hy=>by
    cases hz:(ext s3.heap.objs.size).lookup y with
    |some c=>exact⟨c,List.lookup_append.trans (by rw[hz];rfl)⟩
    |none=>exact let⟨_,c,q,_⟩:=kinds hz hy;⟨c,q⟩,λy c hfn e=>by
    obtain⟨d,z⟩:=E.nw s3.heap.objs.size y hfn;have e:(ext s3.heap.objs.size++uD X.env.cells scope.names []).lookup y=some c:=e;rw[List.lookup_append,z]at e;cases e;exact Y2 (E.up _ _ _ z),I3.ok.hd,I3.ok.frames,.inl rfl,
   λb hb=>⟨aQ (lt3 b hb),cfp b hb⟩,I3.bs,aL I3.ok.bsz I3.sz,λb o e hb=>by
    rcases(f3 b hb).2.2.2.1 with z|z
    .exact I3.ok.noex b o e z
    .exact absurd (aR (aR (aK e) I3.ok.bsz) z) (X2 _),nst,I3.stack,I3.stkFree⟩
 have J4:∀tk,Inv Y [] (List.replicate xs.length none++σ) H3 { s3 with heap:=g,toks:=tk }:=λtk=>by
  subst hX;refine⟨ok',rfl,I3.bare,Un.kept kg,⟨_,hns,λi y v e1 e2 e3=>?_⟩,λy c e=>?_,I3.hok.fresh (aG _),λy c e=>(cle e).elim (λz=>I3.hok.fresh (Y2 (E.up _ _ _ z))) (I3.freeC y c),λp hp=>?_,I3.hok.kept kg,?_⟩
  .by_cases hin:i<xs.length
   .rw[aF (by rw[aN];exact hin),XG,ZY hin]at e2;cases e2
   .obtain⟨j,rfl⟩ : ∃j,i=xs.length+j:=⟨i-xs.length,by lia⟩;have e0:N'[j]?=some y:=by
     have e1:(xs++N')[xs.length+j]?=some y:=e1;rw[aD (X1 _ _)]at e1;rw[show xs.length+j-xs.length=j by exact Nat.add_sub_cancel_left _ _]at e1;exact e1
    have e2':σ[j]?=some (some v):=by
     rw[aD (by rw[aN];exact X1 _ _),aN]at e2;rw[show xs.length+j-xs.length=j by exact Nat.add_sub_cancel_left _ _]at e2;exact e2
    rw[<- hsh]at e0;obtain⟨y0,e1',ey⟩ : ∃y0,X.N[j]?=some y0/\(if y0∈xs then hid y0 else y0)=y:=by
     unfold Jo at e0;rw[aq]at e0;cases hz:X.N[j]? with
     |none=>rw[hz]at e0;cases e0
     |some y0=>rw[hz]at e0;exact⟨y0,rfl,Option.some.inj e0⟩
    have e3:(relabel scope X.env).names.lookup y=some .local\/(relabel scope X.env).names.lookup y=some .cell\/(relabel scope X.env).names.lookup y=some .free:=e3;have ne:¬y0∈xs:=λz=>by
     rw[ZY z]at ey;subst ey;rw[hq y0 (aC e1') z]at e3;rcases e3 with z|z|z<;>cases z
    rw[ZZ ne]at ey;subst ey;have e3':(relabel scope X.env).names.lookup y0=some .cell\/(relabel scope X.env).names.lookup y0=some .free:=by
     rcases e3 with z|z
     .exact absurd z (hloc y0 (aC e1') ne)
     .exact z
    obtain⟨kd,c,hcl,hcc⟩:=kinds (E.off _ _ ne) e3';obtain⟨m,_,hl⟩:=I3.loc;obtain⟨u,r,lk⟩:=hl j y0 v e1' e2' (.inr kd);refine⟨u,r,.inr ⟨e3',c,hcl,?_⟩⟩;rcases lk with⟨k1,_⟩|⟨_,c',q1,o,q2,q3⟩
    .exfalso;have k1':X.env.kindOf y0=some .local:=k1;rcases kd with k2|k2<;>rw[k1']at k2<;>cases k2
    .rw[hcc]at q1;cases q1;exact⟨o,kg _ _ q2,q3⟩
  .rcases cle e with z|z
   .exact⟨none,hcl y c z⟩
   .obtain⟨v,o,q2,q3⟩:=I3.cell y c z;exact⟨v,o,kg _ _ q2,q3⟩
  .have hp':p∈X.pn++pins:=by simpa[Cx.compE]using hp
   obtain⟨a1,a2,a3,a4,a5⟩:=I3.pin p hp';exact⟨kg _ _ a1,a2,aQ (aK a1),I3.nostk' a3 a4,a5⟩
  .show(List.replicate xs.length none++σ).length=(xs++N').length;have hln:N'.length=X.N.length:=by rw[<- hsh];unfold Jo;rw[ak]
   rw[aA,aN,aA,I3.len,hln]
 have fpY:∀{Hc:Hp},(∀b∈fp,Hc b=none)->∀b∈fp,Dm Y [] Hc b:=λ{Hc}hn b hb=>by
  subst hX;exact⟨hn b hb,aQ (lt3 b hb),nst b hb,.inl hb,cfp b hb,λp hp=>(f3 b hb).2.2.2.2.2 p (by simpa[Cx.compE]using hp)⟩
 have loop:∀s4:Shared,s4={ s3 with heap:=g,toks:=s3.toks+([] : List (Str×Value)).length } ->
   codeAny (model X.prog X.w) X.A (.compLoop (.ListComp elt [⟨tg,iter,ifs,0⟩] scope pos) 0 (.ref it) (.ref s2.heap.objs.size) Y.env) (compPost (model X.prog X.w) X.A X.xe use post (.ref s2.heap.objs.size) s3.heap.objs.size) s4:=by
  rintro s4 rfl;have YP:Y.prog=X.prog/\Y.w=X.w/\Y.K=X.K/\Y.calm=X.calm/\Y.A=X.A/\Y.env.locals=s3.heap.objs.size:=by subst hX;exact⟨rfl,rfl,rfl,rfl,rfl,rfl⟩
  obtain⟨y1,y2,y3,y4,y5,y6⟩:=YP;have he':PE Y elt te:=by subst hX;exact he _ _ _ _ _
  have hg':PG Y tg gt:=by subst hX;exact hg _ _ _ _ _
  have ht':PTs Y ifs tc:=by subst hX;exact ht _ _ _ _ _
  have xeY:Y.xe=λ_ _=>False:=by subst hX;rfl
  have yb:∀{Hc:Hp}{w':L2.St}{pn:Δ}{s':Shared},Inv Y pn w' Hc s'->Un (frs X.stack) fp H3 Hc s3.heap s'.heap:=λ{Hc w' pn s'}Z=>by
   have:=Z.base;subst hX;exact this
  have yos:∀{Hc:Hp}{w':L2.St}{pn:Δ}{s':Shared},Inv Y pn w' Hc s'->s'.os=s3.os:=λ{Hc w' pn s'}Z=>by
   have:=Z.os;subst hX;exact this
  refine codeAny_loop rfl (λn s'=>∃i ys Hc,∃w':L2.St,w'.length=xs.length/\Inv Y [] (w'++σ) Hc s'/\tn i s'.heap/\(∀b∈fp,Hc b=none)/\W i n ys Hc) (λn s5 hI=>?_) m0 ⟨0,[],H3,List.replicate xs.length none,aN,J4 _,T.keep _ _ _ st3 λb _ o e=>kg b o e,λb hb=>(f3 b hb).1,w0⟩;obtain⟨i,ys,Hc,w',hw',Z,stc,frc,wc⟩:=hI;show wpAny _ _ ((compTurn (.ListComp elt [⟨tg,iter,ifs,0⟩] scope pos) 0 (.ref it) (.ref s2.heap.objs.size) Y.env).onRaise (λz=>do noteFrame z Y.env;theTreesLotGoes z)) _ _ s5;refine wpAny_noted (wpAny_noRaise ?_);rw[compTurn_list];show wpAny (model X.prog X.w) X.A _ _ _ _;rcases turn i n ys Hc wc with⟨stop,qn⟩|⟨go,step⟩
  .have hd:=T.done Y y1 y2 y3 (y4.trans hc) i [] s5 (w'++σ) Hc (λ_ _=>False) Z (fpY frc) stc stop;rw[y5]at hd;refine ZU (wpAny_standAt (ZU (thn hd λr s6 hP=>?_)));obtain⟨hr,Z6⟩:=hP;subst hr;refine ZT ?_;obtain⟨m,hn6,_⟩:=Z6.loc;rw[y6]at hn6;have u6:=yb Z6;have hok:HOk X.prog X.w Hc s6.heap:=by
    have z:=Z6.hok;rw[y1,y2]at z;exact z
   have cn:Hc s3.heap.objs.size=none:=by
    have z:=Z6.free;rw[y6]at z;exact z
   have I6:Inv X pins σ Hc s6:=I3.call' (s':=s6) (ch:=fp) (yos Z6) u6 hok Z6.bare λb hb=>⟨(f3 b hb).2.2.2.1,(f3 b hb).2.1,(f3 b hb).2.2.2.2.1,(f3 b hb).2.2.2.2.2⟩;have fC:Dm X pins Hc s3.heap.objs.size:=I3.fpOk (aG _) cn;exact endC _ _ Hc s6 m _ hn6 I6 fC qn
  .have hd:=T.item Y y1 y2 y3 (y4.trans hc) i [] s5 (w'++σ) Hc (λ_ _=>False) Z (fpY frc) stc go;rw[y5]at hd;refine ZU (wpAny_standAt (ZU (thn hd λr s6 hP=>?_)));obtain⟨u,hr,h6⟩:=hP;subst hr;refine ZU (thn h6 λ_ s7 hP=>?_);obtain⟨xv,H7,Z7,r7,yl,st7,fr7⟩:=hP;have Z7':=Z7.pinned (fpY fr7) (T.obj _ _ st7);have hst:=hg' _ s7 _ H7 xv u _ Z7' r7 (step xv H7 yl w' hw');rw[y1,y2,y5,xeY]at hst;refine ZU (thn hst λ_ s8 hP=>?_);obtain⟨σ8,H8,Z8,pre,hpre,e8,q8⟩:=hP;subst e8;have hte:=ht' _ s8 _ H8 _ Z8 q8;rw[y1,y2,y5,xeY]at hte;have fin:∀{m':Nat}{ys':Ζ}{H9:Hp}{s9:Shared},Inv Y ([]++G3 fp s7.heap) (pre++σ) H9 s9->m'<n->W (i+1) m' ys' H9->∃m,m<n/\∃i ys Hc,∃w':L2.St,w'.length=xs.length/\Inv Y [] (w'++σ) Hc s9/\tn i s9.heap/\(∀b∈fp,Hc b=none)/\W i m ys Hc:=λ{m' ys' H9 s9}Z9 hm' w9 =>
    ⟨m',hm',i+1,ys',H9,pre,hpre,Z9.unpinned,T.keep _ _ _ st7 λb hb o e=>(Z9.pin (b,o) (aP _ (aP _ (pK hb e)))).1,λb hb=>by
     obtain⟨o,e,_⟩:=T.obj _ _ st7 b hb;exact(Z9.pin (b,o) (aP _ (aP _ (pK hb e)))).2.1,w9⟩
   refine ZU (thn hte λok s9 hP=>?_);obtain⟨H9,Z9,q9⟩:=hP;cases ok with
   |false =>
    obtain⟨m',hm',w9⟩:=q9;exact ZT ⟨rfl,fin Z9 hm' w9⟩
   |true =>
    have hel:=he' _ s9 _ H9 _ Z9 q9;rw[y1,y2,y5,xeY]at hel;refine ZU (ZU (thn hel λev s10 hP=>?_));obtain⟨yv,H10,Z10,r10,hz,hD10,m',hm',w10⟩:=hP;have hap:=JQ (X:=Y) _ s10 _ H10 (.ref s2.heap.objs.size) [yv] (.ref s2.heap.objs.size) [ev] (λ_ Hf=>Hf=upd H10 s2.heap.objs.size (.lst (ys++[yv]))) Z10 rfl (.cons r10 .nil) ⟨_,ys,yv,rfl,rfl,hD10,hz,rfl⟩;rw[y1,y2,y5,xeY]at hap;refine ZU (thn hap λav s11 hP=>?_);obtain⟨_,H11,Z11,_,e11⟩:=hP;subst e11;exact ZT (ZT ⟨rfl,fin Z11 hm' w10⟩)
 have henv:Y.env=compEnvC scope (ext s3.heap.objs.size++uD X.env.cells scope.names []) s3.heap.objs.size X.env:=by subst hX;rfl
 rw[henv]at loop;exact codeAny_compStart_list (loop _ rfl) (T.self _ 0 _ _ _ (T.keep _ _ _ st3 λb _ o e=>kg b o e) (loop _ rfl))
theorem Qm{ext:Addr->List (Str×Addr)}{fn:Str->Bool}{xs N':Φ}{tg:Expr}{ifs:List Expr}{gt:TG}{tc:TT}(E:Qc X scope xs ext fn)(hc:X.calm=true)(hsh:Jo xs X.N=N')(hkind:scope.kind=.function)(hnames:∀y∈scope.names,y.2=.local->scope.names.lookup y.1=some .local)
 (hfree:∀y∈scope.names,y.2=.free->X.env.kindOf y.1=some .cell\/X.env.kindOf y.1=some .free)(hloc:∀y∈X.N,y∉xs->(relabel scope X.env).names.lookup y≠some .local)(hq:∀y∈X.N,y∈xs->(relabel scope X.env).names.lookup (hid y)=none)(hi:PI X tg iter wi)
 (hg:∀C s₀ H₀ ex pn,PG (X.compE ext fn N' scope xs C s₀ H₀ ex pn) tg gt)(ht:∀C s₀ H₀ ex pn,PTs (X.compE ext fn N' scope xs C s₀ H₀ ex pn) ifs tc)(he:∀C s₀ H₀ ex pn,PE (X.compE ext fn N' scope xs C s₀ H₀ ex pn) elt te)(hs:∀z,foldedSetIterable iter X.env z=pure z) :
  PE X (.ListComp elt [⟨tg,iter,ifs,0⟩] scope pos) (rA wi xs.length gt tc te):=by
 intro pins s σ H Q I h;rw[eval_ListComp];exact Jk E hc hsh hkind hnames hfree hloc hq hi hg ht he hs I h λC D Hc s6 m fl hn I6 fC q=>⟨m,hn,λh' hs'=>⟨.ref D,Hc,I6.turned (it:=C) (h':=h') (t':=s6.toks) (λb o hb e=>(hs'.2 b hb).trans e) fC.1 fC.2.1 fC.2.2.2.1 fC.2.2.2.2.1 fC.2.2.2.2.2,rfl,q⟩⟩
end
section
variable{κ:Type}[DecidableEq κ]
noncomputable def Ge(kvs:List (κ×V))(k:κ):Option V:=(kvs.find? λkv=>decide (kv.1=k)).map (·.2)
noncomputable def putK(kvs:List (κ×V))(k:κ)(v:V):List (κ×V) :=
 if(kvs.any λkv=>decide (kv.1=k))=true then kvs.map (λkv=>if kv.1=k then(kv.1,v)else kv)else kvs++[(k,v)]
theorem Qh{p:κ×V}{r:List (κ×V)}{k:κ}(e:p.1=k):Ge (p::r) k=some p.2:=by simp[Ge,List.find?_cons,e]
theorem GK{p:κ×V}{r:List (κ×V)}{k:κ}(e:¬p.1=k):Ge (p::r) k=Ge r k:=by simp[Ge,List.find?_cons,e]
theorem O7(kvs:List (κ×V))(k:κ)(v:V):(putK kvs k v).length<=kvs.length+1:=by
 unfold putK;split
 .rw[ak];exact Xs _
 .rw[aA,List.length_cons,List.length_nil];exact aG _
theorem xM.isSome_eq{o:Option V}{u:Ω}(r:xM o u):o.isSome=u.isSome:=by
 cases o with
 |none=>cases u with
  |none=>rfl
  |some _=>exact(show False from r).elim
 |some _=>cases u with
  |none=>exact(show False from r).elim
  |some _=>rfl
theorem xM.getD{o:Option V}{u:Ω}{d:V}{d':Value}(r:xM o u)(rd:RelV d d'):RelV (o.getD d) (u.getD d'):=by
 cases o with
 |none=>cases u with
  |none=>exact rd
  |some _=>exact(show False from r).elim
 |some _=>cases u with
  |none=>exact(show False from r).elim
  |some _=>exact r
theorem KV.val{kvs:List (κ×V)}{vs:List (κ×Value)}(r:KV kvs vs)(k:κ):xM (Ge kvs k) (valueAt vs k):=by
 unfold KV at r
 induction r with
 |nil=>exact True.intro
 |@cons p q ps qs h t ih =>
  obtain⟨h1,h2⟩:=h;by_cases e:p.1=k
  .have e':q.1=k:=h1.symm.trans e;have b:valueAt (q::qs) k=some q.2:=by simp[valueAt,List.find?_cons,e']
   rw[Qh e,b];exact h2
  .have e':¬q.1=k:=λz=>e (h1.trans z);have b:valueAt (q::qs) k=valueAt qs k:=by simp[valueAt,List.find?_cons,e']
   rw[GK e,b];exact ih
theorem KV.any{kvs:List (κ×V)}{vs:List (κ×Value)}(r:KV kvs vs)(k:κ):(kvs.any λkv=>decide (kv.1=k))=vs.any λkv=>decide (kv.1=k):=by
 unfold KV at r
 induction r with
 |nil=>rfl
 |cons h t ih=>rw[List.any_cons,List.any_cons,ih,h.1]
theorem KV.repl{kvs:List (κ×V)}{vs:List (κ×Value)}(r:KV kvs vs)(k:κ){y:V}{u:Value}(ry:RelV y u) :
  KV (kvs.map λkv=>if kv.1=k then(kv.1,y)else kv) (vs.map λkv=>if kv.1=k then(kv.1,u)else kv):=by
 unfold KV at r ⊢
 induction r with
 |nil=>exact .nil
 |@cons p q ps qs h t ih =>
  rw[List.map_cons,List.map_cons];refine .cons ?_ ih;obtain⟨h1,h2⟩:=h;by_cases e:p.1=k
  .rw[ZY e,ZY (h1.symm.trans e)];exact⟨h1,ry⟩
  .rw[ZZ e,ZZ (λz=>e (h1.trans z))];exact⟨h1,h2⟩
theorem KV.put{kvs:List (κ×V)}{vs:List (κ×Value)}(r:KV kvs vs)(k:κ){y:V}{u:Value}(ry:RelV y u):KV (putK kvs k y) (stored vs k u):=by
 unfold putK stored;rw[r.any k];by_cases e:(vs.any λkv=>decide (kv.1=k))=true
 .rw[ZY e,ZY e];exact r.repl k ry
 .rw[ZZ e,ZZ e];exact Paired.snoc r ⟨rfl,ry⟩
theorem KV.length{kvs:List (κ×V)}{vs:List (κ×Value)}(r:KV kvs vs):kvs.length=vs.length:=Paired.length r
end
theorem PJ{P:Program}{w:World}{k:Key}{u:Value}(r:RelV (kV k) u):(iu P w).is k u=true:=by
 cases k with
 |inl i=>obtain⟨t,e⟩:=(show ∃t,u=Value.int i t from r);subst e;exact Ov P w i t
 |inr x=>obtain⟨t,e⟩:=(show ∃t,u=Value.str x t from r);subst e;exact Oz P w x t
section
variable{P:Program}{w:World}{H:Hp}{h:Heap}{a:Addr}
theorem ahf{u:HO}(ok:HOk P w H h)(e:Rd H a u):fQ P w H h a u:=e.ok ok
theorem Gg{kvs:List (Key×V)}(ok:HOk P w H h)(e:Rd H a (.dK kvs)):kvs.length<=sizeLine/\(a==sysModules)=false/\∃vs,KV kvs vs/\h.DictOf (iu P w) a vs :=
 show fQ P w H h a (.dK kvs)from ahf ok e
theorem ajU{kvs:List (Key×V)}(ok:HOk P w H h)(e:H a=some (.dK kvs)):kvs.length<=sizeLine/\(a==sysModules)=false/\∃vs,KV kvs vs/\h.DictOf (iu P w) a vs:=Gg ok (.inl e)
end
def Cw(H:Hp)(a:Addr)(y:V)(r:Option V):Prop :=
 (∃kvs k,Rd H a (.dK kvs)/\y=kV k/\r=Ge kvs k)\/False
def afW(H:Hp)(a:Addr)(y v:V)(H':Hp):Prop :=
 (∃kvs k,H a=some (.dK kvs)/\y=kV k/\kvs.length<sizeLine/\H'=upd H a (.dK (putK kvs k v)))\/False
theorem Cw.k{H:Hp}{a:Addr}{kvs:List (Key×V)}{k:Key}(e:H a=some (.dK kvs)):Cw H a (kV k) (Ge kvs k):=.inl ⟨kvs,k,.inl e,rfl,rfl⟩
section
variable{X:Cx}{pins:Δ}{σ:St}{H:Hp}{s:Shared}{a:Addr}{y v:V}{u r:Value}{o:Option V}{A:Around}{E:Ε}
theorem Inv.big(I:Inv X pins σ H s):sysModules<s.heap.objs.size:=by
 have h:mainGlobals<s.heap.objs.size:=(I.mod.glob.keeps I.bk).lt;exact Nat.lt_trans (by decide) h
theorem VR{Q:Ε}(hu:A.units+1<cLine)(I:Inv X pins σ H s)(g:Cw H a y (some v))(ry:RelV y u)(h:∀w' s',Inv X pins σ H s'->RelV v w'->Q w' s') :
  wpAny (model X.prog X.w) A (getItem (.ref a) u) Q E s:=by
 rcases g with⟨kvs,k,e,ey,l⟩|hF
 .subst ey;obtain⟨z,hd,vs,rel,dd⟩:=Gg I.hok e;obtain⟨w',hw,rw'⟩:=xM.some_of (v:=v) (o:=valueAt vs k) (by rw[l];exact rel.val k);exact wpAny_getItem_of (PJ ry) dd.mapOf hw (h w' _ (I.tok _) rw')
 .exact hF.elim
theorem akd{Q:Ε}(hu:A.units+1<cLine)(I:Inv X pins σ H s)(g:Cw H a y o)(ry:RelV y u)(h:∀s',Inv X pins σ H s'->Q (.bool o.isSome) s') :
  wpAny (model X.prog X.w) A (compareOp .In u (.ref a)) Q E s:=by
 rcases g with⟨kvs,k,e,ey,l⟩|hF
 .subst ey;obtain⟨z,hd,vs,rel,dd⟩:=Gg I.hok e;refine wpAny_in_of (PJ ry) hd dd.mapOf ?_;rw[<- (rel.val k).isSome_eq,<- l];exact h _ (I.tok _)
 .exact hF.elim
theorem Z2{Q:Ε}(hu:A.units+1<cLine)(I:Inv X pins σ H s)(g:Cw H a y o)(ry:RelV y u)(h:∀s',Inv X pins σ H s'->Q (.bool (!o.isSome)) s') :
  wpAny (model X.prog X.w) A (compareOp .NotIn u (.ref a)) Q E s:=by
 rcases g with⟨kvs,k,e,ey,l⟩|hF
 .subst ey;obtain⟨z,hd,vs,rel,dd⟩:=Gg I.hok e;refine wpAny_notIn_of (PJ ry) hd dd.mapOf ?_;rw[<- (rel.val k).isSome_eq,<- l];exact h _ (I.tok _)
 .exact hF.elim
theorem abj{h':Heap}{t':Nat}{ob:HO}(I:Inv X pins σ H s)(mu:Mut (H a))(hs:Heap.SameBut a s.heap h')(he:∃q,h'.get? a=some q)(new:fQ X.prog X.w (upd H a ob) h' a ob) :
  Inv X pins σ (upd H a ob) { s with heap:=h',toks:=t' } :=
 I.write (x:=a) (e:=a) mu (.inl rfl) (λb q hb z=>(hs.2 b hb).trans z) he new
theorem adV{P:Program}{w:World}{H':Hp}{h':Heap}{kvs:List (Key×V)}{vs:List (Key×Value)}(z:kvs.length<=sizeLine)(hd:(a==sysModules)=false)(rel:KV kvs vs)(dd:h'.DictOf (iu P w) a vs) :
  fQ P w H' h' a (.dK kvs):=⟨z,hd,vs,rel,dd⟩
theorem Wg{H':Hp}{Q:Unit->Shared->Prop}(hu:A.units+1<cLine)(I:Inv X pins σ H s)(g:afW H a y v H')(ry:RelV y u)(rv:RelV v r)(h:∀s',Inv X pins σ H' s'->Q () s') :
  wpAny (model X.prog X.w) A (setItem (.ref a) u r) Q E s:=by
 rcases g with⟨kvs,k,e,ey,l,eH⟩|hF
 .subst ey eH;obtain⟨z,hd,vs,rel,dd⟩:=ajU I.hok e;have hz:vs.length<=sizeLine:=by rw[<- rel.length];exact z
  have hl:(putK kvs k v).length<=sizeLine:=by have:=O7 kvs k v;lia
  refine wpAny_setItem_pairs (hsz:=hz) (PJ ry) dd λh' dd' hs=>h _ ?_;have he:∃q,h'.get? a=some q:=by obtain⟨q,_,_,hq,_⟩:=dd';exact⟨q,hq⟩
  exact abj I (by rw[e];exact True.intro) hs he (adV hl hd (rel.put k rv) dd')
 .exact hF.elim
end
def adi(i:Expr):Prop:=∀ov iv,subscripted i false ov iv=operate [ov,iv] (getItem ov iv)
theorem Z4{prog:Program}{w:World}{A:Around}{E:Ε}{s:Shared}{env:Env}{value slice:Expr}{pos:Pos}{T id:String}{Q:Ε}
 (hl:typeLookup (.type T) "__getitem__"=pure (some (.builtin id)))(hs:adi slice)
 (h:wpAny (model prog w) A (eval value env) (λo s₁=>wpAny (model prog w) A (eval slice env) (λi s₂=>s₂.TypeIs o T/\wpAny (model prog w) A (getItem o i) Q E s₂) E s₁) E s) :
  wpAny (model prog w) A (eval (.Subscript value slice pos) env) Q E s:=by
 refine Subscript_ (wpAny_mono h (λo s₁ h₁=>wpAny_mono h₁ (λi s₂ h₂=>?_) λ_ _ x=>x) λ_ _ x=>x);obtain⟨hT,h₂⟩:=h₂;unfold subscriptTail;refine ZU ?_;rw[getitemInPython_of_ne hT.not_modules];refine ZU (wpAny_specialOf hT hl ?_);have fin:wpAny (model prog w) A (subscripted slice false o i) (λr s₃=>wpAny (model prog w) A (letTemporaryGo value o r >>= λ_=>pure r) Q E s₃) E s₂:=by
  rw[hs o i];exact wpAny_operating (wpAny_mono h₂ (λr s₃ h₃=>ZU (wpAny_letTemporaryGo (ZT h₃))) λ_ _ x=>x)
 first
  |exact ZT (ZU fin)
  |exact ZU (ZT (ZU fin))
  |exact ZU fin
theorem Oq{X:Cx}{pins:Δ}{σ:St}{H:Hp}{s:Shared}{a:Addr}{y:V}{o:Option V}(I:Inv X pins σ H s)(g:Cw H a y o):s.TypeIs (.ref a) "dict":=by
 rcases g with⟨kvs,k,e,_,_⟩|hF
 .obtain⟨_,_,vs,_,dd⟩:=Gg I.hok e;exact dd.typeIs
 .exact hF.elim
def acr(td ty:TE):TE:=λσ H Q=>td σ H λx H1=>ty σ H1 λy H2=>∃a v,x=.ref a/\Cw H2 a y (some v)/\Q v H2
def af8(ty td:TE):TE:=λσ H Q=>ty σ H λy H1=>td σ H1 λx H2=>∃a o,x=.ref a/\Cw H2 a y o/\Q (.bl o.isSome) H2
def Tv(ty td:TE):TE:=λσ H Q=>ty σ H λy H1=>td σ H1 λx H2=>∃a o,x=.ref a/\Cw H2 a y o/\Q (.bl (!o.isSome)) H2
def acN(td ty tv:TE):TS:=λD σ H=>tv σ H λv H1=>td σ H1 λx H2=>ty σ H2 λy H3=>∃a H4,x=.ref a/\afW H3 a y v H4/\D.nx σ H4
section
variable{X:Cx}{o i e value:Expr}{pos pos' tpos:Pos}{td ty tv:TE}
theorem aa9(hu:X.A.units+1<cLine)(ho:PE X o td)(hi:PE X i ty)(hs:adi i):PE X (.Subscript o i pos) (acr td ty):=by
 intro pins s σ H Q I h;refine Z4 PySem.F.slot_dict_getitem.lookup hs (thn (ho pins s σ H _ I h) λu s1 ⟨x,H1,I1,rx,q1⟩=>thn (hi pins s1 σ H1 _ I1 q1) λiv s2 hP=>?_);obtain⟨y,H2,I2,ry,a,v,ex,g,q2⟩:=hP;subst ex;obtain rfl:u=Value.ref a:=rx;exact⟨Oq I2 g,VR hu I2 g ry λw' s3 I3 rw'=>⟨v,H2,I3,rw',q2⟩⟩
theorem aek(hu:X.A.units+1<cLine)(hi:PE X i ty)(ho:PE X o td):PC X .In i o (af8 ty td):=by
 intro pins s σ H Q I h;refine thn (hi pins s σ H _ I h) λiv s1 ⟨y,H1,I1,ry,q1⟩=>thn (ho pins s1 σ H1 _ I1 q1) λu s2 hP=>?_;obtain⟨x,H2,I2,rx,a,ov,ex,g,q2⟩:=hP;subst ex;obtain rfl:u=Value.ref a:=rx;exact akd hu I2 g ry λs3 I3=>⟨.bl ov.isSome,H2,I3,rfl,q2⟩
theorem Vp(hu:X.A.units+1<cLine)(hi:PE X i ty)(ho:PE X o td):PC X .NotIn i o (Tv ty td):=by
 intro pins s σ H Q I h;refine thn (hi pins s σ H _ I h) λiv s1 ⟨y,H1,I1,ry,q1⟩=>thn (ho pins s1 σ H1 _ I1 q1) λu s2 hP=>?_;obtain⟨x,H2,I2,rx,a,ov,ex,g,q2⟩:=hP;subst ex;obtain rfl:u=Value.ref a:=rx;exact Z2 hu I2 g ry λs3 I3=>⟨.bl (!ov.isSome),H2,I3,rfl,q2⟩
theorem abW(hu:X.A.units+1<cLine)(ho:PE X o td)(hi:PE X i ty)(hv:PE X value tv)(hs:swapsWith value (some (.Subscript o i pos')) pos.line X.env=pure false) :
  PS X (.Assign [.Subscript o i pos'] value pos) (acN td ty tv):=by
 intro pins s σ H D I h;refine wpAny_Assign_Subscript (thn (hv pins s σ H _ I h) λr s1 ⟨v,H1,I1,rv,q1⟩=>thn (ho pins s1 σ H1 _ I1 q1) λu s2 ⟨x,H2,I2,rx,q2⟩=>thn (hi pins s2 σ H2 _ I2 q2) λiv s3 hP=>?_) hs;obtain⟨y,H3,I3,ry,a,H4,ex,g,q3⟩:=hP;subst ex;obtain rfl:u=Value.ref a:=rx;exact Wg hu I3 g ry rv λs4 I4=>⟨σ,H4,I4,q3⟩
end
theorem Xv{P:Program}{w:World}{H:Hp}(h:Heap)(hb:sysModules<h.objs.size):fQ P w H (h.push { cls:=.type "dict",data:=.dict #[] }) h.objs.size (.dK []) :=
 ⟨aZ _,beq_eq_false_iff_ne.mpr (Ne.symm (aQ hb)),[],.nil,Heap.DictOf.new h⟩
def YZ:TE:=λ_ H Q=>∀p,H p=none->Q (.ref p) (upd H p (.dK []))
section
variable{X:Cx}{pos:Pos}
theorem Yi:PE X (.Dict [] [] pos) YZ:=λpins s σ H Q I h =>
 wpAny_Dict_empty ⟨.ref s.heap.objs.size,_,I.laid (a:=s.heap.objs.size) (o:=.dK []) (t':=s.toks) (λ_ _ q=>aH _ q) (aG _) (Xv s.heap I.big),rfl,h _ (I.hok.fresh (aG _))⟩
end
structure M2(X:Cx)(o:Expr)(m:Str)(apos:Pos)(e f:Expr)(cpos:Pos):Prop where
 base:attributeBase o m X.env (eval o X.env)=eval o X.env
 few:((backTo cpos (starEach [e,f] X.env)).all (λx=>!x.1)&&(backToKw cpos (keywordEach [] X.env)).all (λx=>x.1.isSome)
  && decide (([e,f] : List Expr).length+([] : List Keyword).length+(if([] : List Keyword).isEmpty then 0 else 1)<30))=true
 line:(apos.endLine==cpos.line)=true
 trees:backTo cpos (starEach [e,f] X.env)=[(false,eval e X.env),(false,eval f X.env)]
def IsD(H:Hp)(a:Addr):Prop:=(∃kvs,Rd H a (.dK kvs))\/False
theorem aex{X:Cx}{pins:Δ}{σ:St}{H:Hp}{s:Shared}{a:Addr}(I:Inv X pins σ H s)(d:IsD H a) :
  s.TypeIs (.ref a) "dict"/\(∀b,Value.ref a=.ref b->∃ob,s.heap.get? b=some ob/\ob.dict=none)/\(a==sysModules)=false:=by
 rcases d with⟨kvs,e⟩|hF
 .obtain⟨_,hd,vs,_,dd⟩:=Gg I.hok e;refine⟨dd.typeIs,λb q=>?_,hd⟩;cases q;obtain⟨ob,_,_,h1,h2,_⟩:=dd;exact⟨ob,h1,h2.2.1⟩
 .exact hF.elim
section
variable{X:Cx}{pins:Δ}{σ:St}{H:Hp}{s:Shared}{a:Addr}{y d:V}{u r:Value}{o:Option V}{A:Around}{E:Ε}
theorem aeH{Q:Ε}(hu:A.units+1<cLine)(I:Inv X pins σ H s)(g:Cw H a y o)(ry:RelV y u)(rd:RelV d r)(h:∀w' s',Inv X pins σ H s'->RelV (o.getD d) w'->Q w' s') :
  wpAny (model X.prog X.w) A (call (.builtin "dict.get") [.ref a,u,r]) Q E s:=by
 rcases g with⟨kvs,k,e,ey,l⟩|hF
 .subst ey;obtain⟨z,hd,vs,rel,dd⟩:=Gg I.hok e;refine call_meetsIn PySem.F.slot_dict_get dd.typeIs PySem.F.entry_dict_get (PySem.F.args_dict_get_3 _ _ _) (meets_dict_get_default (iu X.prog X.w) a (PJ ry) hd r) ⟨_,dd.mapOf,h _ _ (I.tok _) ?_⟩;rw[l];exact(rel.val k).getD rd
 .exact hF.elim
end
def Yd(td ty tx:TE):TE:=λσ H Q=>td σ H λx H1=>∃a,x=.ref a/\IsD H1 a/\ty σ H1 λy H2=>tx σ H2 λz H3=>∃o,Cw H3 a y o/\Q (o.getD z) H3
section
variable{X:Cx}{o e f:Expr}{apos cpos:Pos}{td ty tx:TE}
theorem Yb(hu:X.A.units+1<cLine)(ho:PE X o td)(he:PE X e ty)(hf:PE X f tx)(m:M2 X o "get" apos e f cpos):PE X (.Call (.Attribute o "get" apos) [e,f] [] cpos) (Yd td ty tx):=by
 intro pins s σ H Q I h;refine wpAny_Call_method m.base m.few m.line PySem.F.plainAttrs_dict PySem.F.slot_dict_get PySem.F.type_dict_get (thn (ho pins s σ H _ I h) λu s1 hP=>?_);obtain⟨x,H1,I1,rx,a,ex,d,q1⟩:=hP;subst ex;obtain rfl:u=Value.ref a:=rx;obtain⟨t1,t2,_⟩:=aex I1 d;refine⟨t1,t2,?_⟩;rw[m.trees];refine Calls.callWith_builtin rfl (Calls.evalArgs_plain (Calls.spliced_cons (thn (he pins s1 σ H1 _ I1 q1) λiv s2 ⟨y,H2,I2,ry,q2⟩ =>
  Calls.spliced_cons (thn (hf pins s2 σ H2 _ I2 q2) λfv s3 ⟨z,H3,I3,rz,ov,g,q3⟩=>Calls.spliced_nil ?_))))
 exact aeH hu I3 g ry rz λw' s4 I4 rw'=>⟨_,H3,I4,rw',q3⟩
end
def Itk(a:Addr)(o:Obj)(kvs:List (Key×V)):It:=⟨λi H=>H a=some (.frz o (.dK kvs))/\i<kvs.length,λi H v H'=>H'=H/\∃k y,kvs[i]?=some (k,y)/\v=kV k,λi H=>H a=some (.frz o (.dK kvs))/\i=kvs.length⟩
theorem aiI{P:Program}{w:World}{k:Key}{u:Value}(h:(iu P w).is k u=true):RelV (kV k) u:=by
 have h:zW k u=true:=h;cases k with
 |inl i =>
  cases u<;>simp[zW,Value.isInt]at h
  .subst h;exact⟨_,rfl⟩
 |inr x =>
  cases u<;>simp[zW,Value.isStrOf]at h
  .subst h;exact⟨_,rfl⟩
theorem KV.at{κ:Type}{kvs:List (κ×V)}{vs:List (κ×Value)}(r:KV kvs vs):∀{i:Nat}{k:κ}{y:V},kvs[i]?=some (k,y)->∃u,vs[i]?=some (k,u)/\RelV y u:=by
 unfold KV at r
 induction r with
 |nil=>intro i k y h;cases h
 |@cons p q ps qs h t ih =>
  intro i k y e;cases i with
  |zero =>
   rw[List.getElem?_cons_zero]at e;cases e;obtain⟨q1,q2⟩:=q;obtain⟨h1,h2⟩:=h;cases h1;exact⟨q2,rfl,h2⟩
  |succ i =>
   rw[List.getElem?_cons_succ]at e ⊢;exact ih e
theorem VH{P:Program}{w:World}{K:Frag}{tg:Expr}(it a:Addr)(o:Obj)(kvs:List (Key×V))(vs:List (Key×Value))(ep:Nat)(rel:KV kvs vs)(hD:∀h:Heap,h.get? a=some o->h.DictAt (iu P w) a vs ep) :
  Turn P w K tg (Itk a o kvs) [it] it (λi h=>h.IsKeyIter it a i vs.length ep) where
 mem:=by simp
 obj:=λi h st b hb=>by
  have e:b=it:=by simpa using hb
  subst e;obtain⟨o,ho,_,hd⟩:=st;exact⟨o,ho,λv z=>by rw[hd]at z;cases z⟩
 keep:=λi h h' st k=>let⟨o,ho,r⟩:=st;⟨o,k it (by simp) o ho,r⟩
 item:=by
  intro X hP hw hK hc i pins s σ H E I hf st hg;subst hP hw hK;obtain⟨hg,hlt⟩:=hg;obtain⟨ho,_⟩:=(show fQ X.prog X.w H s.heap a (.frz o (.dK kvs))from I.hok a _ hg);obtain⟨f0,f1,f2,f3,f4,f5⟩:=hf it (by simp);obtain⟨⟨k,y⟩,hx⟩ : ∃p,kvs[i]?=some p:=⟨kvs[i],by simp[hlt]⟩;obtain⟨u,hu,ru⟩:=rel.at hx;refine wpAny_pyNext_dict_item st (hD _ ho) hu λkey h' hkey st' sb=>?_;have I1:Inv X pins σ H { s with heap:=h' }:=I.turned (t':=s.toks) (λb ob hb e=>(sb.2 b hb).trans e) f0 f1 f3 f4 f5;obtain⟨oi,e,c,d⟩:=id st';exact⟨key,rfl,O4 (s:={ s with heap:=h' }) e c d (by decide) ⟨kV k,H,I1,aiI hkey,⟨rfl,k,y,hx,rfl⟩,st',λb hb=>(hf b hb).1⟩⟩
 done:=by
  intro X hP hw hK hc i pins s σ H E I hf st hg;subst hP hw hK;obtain⟨hg,rfl⟩:=hg;obtain⟨ho,_⟩:=(show fQ X.prog X.w H s.heap a (.frz o (.dK kvs))from I.hok a _ hg);obtain⟨f0,f1,f2,f3,f4,f5⟩:=hf it (by simp);have hl:=rel.length;exact wpAny_pyNext_dict_end (I.ok.hd hc) st (hD _ ho) (by simp;exact Nat.le_of_eq (Eq.symm hl)) λh' eb=>⟨rfl,I.turned (t':=s.toks) (λb ob hb e=>eb b ob hb e) f0 f1 f3 f4 f5⟩
 self:=λ_ _ _ _ _ st h=>wpAny_pyIter_keyiter st h
section
variable{X:Cx}{tg:Expr}
def agH(te:TE):TI:=λσ H R=>te σ H λx H1=>∃a kvs,x=.ref a/\H1 a=some (.dK kvs)/\∀o,R (Itk a o kvs) (upd H1 a (.frz o (.dK kvs)))
theorem aaQ{l:Expr}{tl:TE}(hl:PE X l tl):PI X tg l (agH tl):=by
 intro pins s σ H R I h;refine thn (hl pins s σ H _ I h) λv s1 hP=>?_;obtain⟨x,H1,I1,r1,a,kvs,ex,ha,q⟩:=hP;subst ex;cases r1;have ok:=(show fQ X.prog X.w H1 s1.heap a (.dK kvs)from I1.hok a _ ha);obtain⟨z,hd,vs,rel,o,es,ep,e,ex,ed,ek,epr,en⟩:=ok;have hD:∀h:Heap,h.get? a=some o->h.DictAt (iu X.prog X.w) a vs ep:=λh e=>⟨o,es,e,ex,ed,ek,epr,en⟩;have I2:Inv X pins σ (upd H1 a (.frz o (.dK kvs))) s1:=by
  have:=I1.write (x:=a) (e:=a) (o:=.frz o (.dK kvs)) (h':=s1.heap) (t':=s1.toks) (by rw[ha];exact True.intro) (.inl rfl) (λb u hb z=>z) ⟨o,e⟩ ⟨e,z,hd,vs,rel,o,es,ep,e,ex,ed,ek,epr,en⟩;exact this
 refine wpAny_pyIter_dict hd (hD _ e) ?_;refine⟨s1.heap.objs.size,[s1.heap.objs.size],_,Itk a o kvs,_,rfl,I2.kept (t':=s1.toks) λb ob z=>aH _ z,VH _ a o kvs vs ep rel hD,⟨_,aW _ rfl,rfl,rfl⟩,λb hb=>?_,q o⟩;have e:b=s1.heap.objs.size:=by simpa using hb
 subst e;exact I2.fpOk (aG _) (I2.hok.fresh (aG _))
def tMG(g:TG):TG:=λv σ H Q=>∃R:L2.St->Hp->Prop,g v σ H R/\∀σ' H',R σ' H'->Q σ' H'
def tMT(t:TT):TT:=λσ H Q=>∃R:Bool->Hp->Prop,t σ H R/\∀b H',R b H'->Q b H'
theorem PG.mono{e:Expr}{g:TG}(h:PG X e g):PG X e (tMG g):=λpins s σ H v u Q I r hP=>by obtain⟨R,h1,h2⟩:=hP;exact thn (h pins s σ H v u R I r h1) λ_ s' hP=>by obtain⟨σ',H',I',q⟩:=hP;exact⟨σ',H',I',h2 σ' H' q⟩
theorem PTs.mono{ifs:List Expr}{t:TT}(h:PTs X ifs t):PTs X ifs (tMT t):=λpins s σ H Q I hP=>by obtain⟨R,h1,h2⟩:=hP;exact thn (h pins s σ H R I h1) λb s' hP=>by obtain⟨H',I',q⟩:=hP;exact⟨H',I',h2 b H' q⟩
end
structure Df(K:Frag)(B:Addr)(m:Str)(f:Addr):Prop where
 ga:specialIn K (.ref B) "__getattribute__"=some (some (.builtin "type.__getattribute__"))
 rd:readsIn K B (.type "type")=true
 at_:findCls K (.ref B) (.type "type") m=some (.val (.ref f))
 hd:handedIn (.ref f)=true
 kp:keepIn K (.ref f)=true
section
variable{X:Cx}{k:Nat}{f B:Addr}{fd:FuncData}{ps:Φ}{sp:Sp}{dvs:Ζ}{ds:Θ}{x m:Str}{p pos apos:Pos}{e:Expr}{es:List Expr}{t:TA}{Ex:Value->Ξ->L2.St->Hp->Prop}
theorem Df.get{pins:Δ}{σ:L2.St}{H:Hp}{s:Shared}{pl:Sem Bool}{A:Around}{E:Ε}{Q:Value×Θ->Shared->Prop}(c:Df X.K B m f)(I:Inv X pins σ H s)(h:∀t,Q (.ref f,[]) { s with toks:=t }) :
  wpAny (model X.prog X.w) A (getMethod (.ref B) m pl) Q E s :=
 PySem.W.method_cls I.kIn c.ga (PySem.W.cls_value I.kIn c.rd c.at_ c.hd (h _))
theorem aa3{pl:Sem Bool}(c:Df X.K B m f)(F:b_ X.prog X.w X.K X.mg X.base CX0 k f fd ps sp)(hr:eX k X.A)(hg:Gl X x)(hm:X.mg x=some (.ref B))(hb:Binds X.K fd ps [])(ha:PA X (e::es) t)(hdb:(x==("__debug__":Str))=false:=by decide)
 (hst:starEach (e::es) X.env=(false,eval e X.env)::starEach es X.env:=by rfl)(hpl:(backTo pos (starEach es X.env)).any (·.1)=false:=by rfl)
 (ht:eval (.Call (.Attribute (.Name x p) m apos) (e::es) [] pos) X.env=(do
   let ov <- eval (.Name x p) X.env
   standAt apos.atName
   let(f,first) <- holding [ov] (getMethod ov m pl)
   callWith pos f first (backTo pos (starEach (e::es) X.env)) (backToKw pos (keywordEach [] X.env))):=by rfl) :
  PE X (.Call (.Attribute (.Name x p) m apos) (e::es) [] pos) (Ma sp t):=by
 intro pins s σ H Q I h;refine methodCall_KW (pl:=pl) (E_ I hg hm (c.get I λtk=>?_) hdb) ht;refine callWith_K (first:=[]) (h₀:=X.base) I.ok.mod.kin c.kp (thn (ha pos pins _ σ H _ (I.tok tk) h) λus s2 ⟨vs,H2,I2,r,q2⟩=>⟨I2.kIn,?_⟩) hst hpl;exact MP (us:=us) (vs:=vs) F hr hb .nil Qk I2 r (by rw[List.append_nil];exact q2)
end
theorem Same.tup{K:Frag}{H H':Hp}{a:Addr}{xs:Ζ}(e:Same H H')(h:SqT K H a xs):SqT K H' a xs:=by
 rcases h with(h|⟨o,h⟩)|h
 .exact .inl (.inl (e _ _ h))
 .exact .inl (.inr ⟨o,e _ _ h⟩)
 .exact .inr h
mutual
inductive fV(K:Frag)(H:Hp):V->PyData->Prop
 |non:fV K H .non .none
 |bl (b:Bool):fV K H (.bl b) (.bool b)
 |int (i:Int):fV K H (.int i) (.int i)
 |str (x:Str):fV K H (.str x) (.str x)
 |lst {a:Addr}{xs:Ζ}{ds:List PyData} : H a=some (.lst xs)->eE K H xs ds->fV K H (.ref a) (.list ds)
 |tup {a:Addr}{xs:Ζ}{ds:List PyData} : SqT K H a xs->eE K H xs ds->fV K H (.ref a) (.tuple ds)
inductive eE(K:Frag)(H:Hp):Ζ->List PyData->Prop
 |nil:eE K H [] []
 |cons {x:V}{xs:Ζ}{d:PyData}{ds:List PyData} : fV K H x d->eE K H xs ds->eE K H (x::xs) (d::ds)
end
mutual
theorem fV.same{K:Frag}{H H':Hp}(S:Same H H'):∀{x:V}{d:PyData},fV K H x d->fV K H' x d
 |_,_,.non=>.non
 |_,_,.bl b=>.bl b
 |_,_,.int i=>.int i
 |_,_,.str x=>.str x
 |_,_,.lst e h=>.lst (S _ _ e) (eE.same S h)
 |_,_,.tup e h=>.tup (S.tup e) (eE.same S h)
theorem eE.same{K:Frag}{H H':Hp}(S:Same H H'):∀{xs:Ζ}{ds:List PyData},eE K H xs ds->eE K H' xs ds
 |_,_,.nil=>.nil
 |_,_,.cons h t=>.cons (fV.same S h) (eE.same S t)
end
section
variable{X:Cx}{pins:Δ}{σ:L2.St}{H:Hp}{s:Shared}
mutual
theorem Inv.readsK(I:Inv X pins σ H s):∀{x:V}{d:PyData}{v:Value},fV X.K H x d->RelV x v->∃as,Reads s.heap v d as
 |_,_,_,.non,r=>by cases r;exact⟨_,.none⟩
 |_,_,_,.bl b,r=>by cases r;exact⟨_,.bool b⟩
 |_,_,_,.int i,r=>by obtain⟨t,rfl⟩:=r;exact⟨_,.int i t⟩
 |_,_,_,.str x,r=>by obtain⟨t,rfl⟩:=r;exact⟨_,.str x t⟩
 |_,_,_,.lst e h,r=>by
  cases r;obtain⟨its,rv,⟨o,ho,hc,n,hd⟩⟩:=I.lstIs e;obtain⟨as,q⟩:=Inv.readsAllK I h rv;exact⟨_,.list ho hc hd q⟩
 |_,_,_,.tup e h,r=>by
  cases r;obtain⟨its,rv,⟨o,ho,hc,n,hd⟩,_⟩:=I.tuple e;obtain⟨as,q⟩:=Inv.readsAllK I h rv;exact⟨_,.tuple ho hc hd q⟩
theorem Inv.readsAllK(I:Inv X pins σ H s):∀{xs:Ζ}{ds:List PyData}{vs:Θ},eE X.K H xs ds->Vals xs vs->∃as,ReadsAll s.heap vs ds as
 |_,_,_,.nil,r=>by cases r;exact⟨_,.nil⟩
 |_,_,_,.cons h t,r=>by
  cases r with
  |cons r1 r2 =>
   obtain⟨a,q1⟩:=Inv.readsK I h r1;obtain⟨b,q2⟩:=Inv.readsAllK I t r2;exact⟨_,.cons q1 q2⟩
end
def abD(K:Frag)(neg:Bool):R2:=λx y H Q=>∃d e,fV K H x d/\fV K H y e/\SeqAt.shaped d=true/\SeqAt.shaped e=true/\Q (.bl (if neg then !PyData.eqv d e else PyData.eqv d e)) H
theorem afe(hu:X.A.units+64<cLine):OpR X (compareOp .Eq) (abD X.K false):=by
 intro pins s σ H x y v u Q I rx ry h;obtain⟨d,e,hd,he,sd,se,q⟩:=h;obtain⟨as,ra⟩:=I.readsK hd rx;obtain⟨bs,rb⟩:=I.readsK he ry;exact SeqAt.compareEq_shaped ra rb sd se hu ⟨.bl _,H,I,rfl,q⟩
theorem aej(hu:X.A.units+64<cLine):OpR X (compareOp .NotEq) (abD X.K true):=by
 intro pins s σ H x y v u Q I rx ry h;obtain⟨d,e,hd,he,sd,se,q⟩:=h;obtain⟨as,ra⟩:=I.readsK hd rx;obtain⟨bs,rb⟩:=I.readsK he ry;exact SeqAt.compareNe_shaped ra rb sd se hu ⟨.bl _,H,I,rfl,q⟩
end
section
variable{X:Cx}
def U4(K:Frag):Ζ->Hp->VK->Prop:=λxs H Q=>∃p T ys,xs=[.ref p,.ty T]/\T∈["bool","int","str","list","tuple","dict"]/\SqT K H p ys/\Q (.bl (Ji "tuple" T)) H
theorem Pj:iJ X (.builtin "isinstance") (U4 X.K):=by
 intro pins s σ H xs us Q I r h;obtain⟨p,T,ys,rfl,hT,hp,q⟩:=h;obtain⟨u,v,rfl,ru,rv⟩:=r.two;cases ru;cases rv;obtain⟨its,rvs,⟨o,ho,hc,n,hd⟩,_⟩:=I.tuple hp;refine kia_one (kitx_tuple (a:=p)) I.kIn ⟨o,ho,hc⟩ (Uw (K:=X.K) (t:="tuple") (by decide) hT) (λz=>nomatch z) λtk=>⟨.bl _,H,I.tok _,rfl,q⟩
end
def OkI(P:Program)(w:World)(K:Frag)(mg:Str->Ω)(base:Heap)(CX:CXT)(k:Nat)(f:Addr)(ps:Φ)(sp:Sp):Prop:=∃fd,b_ P w K mg base CX k f fd ps sp/\Binds K fd ps []
def yL(K:Frag)(x qual:Str)(st:Stmt)(ps:Φ)(f:Addr):Prop:=∃fd,Fun K x qual st f fd/\∀us:Θ,us.length=ps.length->bindArgs fd ⟨us,[]⟩=pure (ps.zip us)
theorem yL.ok{P:Program}{w:World}{K:Frag}{mg:Str->Ω}{base:Heap}{CX:CXT}{k:Nat}{x qual:Str}{st:Stmt}{ps:Φ}{f:Addr}{sp:Sp}(h:yL K x qual st ps f)(hf:∀fd,Fun K x qual st f fd->b_ P w K mg base CX k f fd ps sp):OkI P w K mg base CX k f ps sp :=
 by obtain⟨fd,a,b⟩:=h;exact⟨fd,hf fd a,.all b⟩
theorem abH{K:Frag}{x qual:Str}{st:Stmt}{ps:Φ}{f:Addr}{oc:Value}{od an:Ξ}{osl:Array (Ω)}{kV doc pm cdv ct:Value}
 (l:K.lookup f=some ⟨oc,od,.func (PySem.W.fnOf x qual (ig st) (fD st) (bH st) .none kV doc pm an cdv ct),osl⟩)(c:codeIn K cdv qual=true)(k:keepIn K (.ref f)=true)
 (hb:∀(kV doc pm:Value)(an:Ξ)(cdv ct:Value)(us:Θ),us.length=ps.length->bindArgs (PySem.W.fnOf x qual (ig st) (fD st) (bH st) .none kV doc pm an cdv ct) ⟨us,[]⟩=pure (ps.zip us)):yL K x qual st ps f :=
 ⟨_,Zh l c k,hb kV doc pm an cdv ct⟩
section
variable{X:Cx}{k:Nat}{f C B:Addr}{ps:Φ}{sp:Sp}{x m:Str}{p pos apos:Pos}{e o:Expr}{es:List Expr}{ta:TE}{t:TA}{Ex:Value->Ξ->L2.St->Hp->Prop}
def RL(C:Addr)(m:Str)(sp:Sp)(ta:TE)(t:TA):TE:=λσ H Q=>ta σ H λx H1=>∃a dx fs,x=.ref a/\H1 a=some (.ins C dx fs)/\fs.lookup m=none/\t σ H1 λvs H2=>sp (x::vs) H2 Q E0
theorem ZK{pl:Sem Bool}(he:PE X o ta)(c:Cls X.K C)(hm:Meth X.K C m f)(G:OkI X.prog X.w X.K X.mg X.base CX0 k f ps sp)(hr:eX k X.A)(ha:PA X (e::es) t)
 (hst:starEach (e::es) X.env=(false,eval e X.env)::starEach es X.env:=by rfl)(hpl:(backTo pos (starEach es X.env)).any (·.1)=false:=by rfl)
 (ht:eval (.Call (.Attribute o m apos) (e::es) [] pos) X.env=(do
   let ov <- eval o X.env
   standAt apos.atName
   let(f,first) <- holding [ov] (getMethod ov m pl)
   callWith pos f first (backTo pos (starEach (e::es) X.env)) (backToKw pos (keywordEach [] X.env))):=by rfl) :
  PE X (.Call (.Attribute o m apos) (e::es) [] pos) (RL C m sp ta t):=by
 obtain⟨fd,F,hb⟩:=G;refine(aai (pl:=pl) he.mono c hm F hr hb .nil Qk ha.mono hst hpl ht).imp λσ H Q h=>⟨_,h,?_⟩;rintro x H1 ⟨a,dx,fs,h1,h2,h3,h4⟩;refine⟨a,dx,fs,h1,h2,h3,_,h4,λvs H2 q=>?_⟩;show sp (x::(vs++[])) H2 Q E0;rw[List.append_nil];exact q
theorem V6{pl:Sem Bool}(he:PE X o ta)(c:Cls X.K C)(hm:Meth X.K C m f)(G:OkI X.prog X.w X.K X.mg X.base CX0 k f ps sp)(hr:eX k X.A)
 (ht:eval (.Call (.Attribute o m apos) [] [] pos) X.env=(do
   let ov <- eval o X.env
   standAt apos.atName
   let(f,first) <- holding [ov] (getMethod ov m pl)
   callWith pos f first (backTo pos (starEach [] X.env)) (backToKw pos (keywordEach [] X.env))):=by rfl) :
  PE X (.Call (.Attribute o m apos) [] [] pos) (RL C m sp ta abx):=by
 obtain⟨fd,F,hb⟩:=G;refine(Zt (pl:=pl) he.mono c hm F hr hb .nil Qk ht).imp λσ H Q h=>⟨_,h,?_⟩;rintro x H1 ⟨a,dx,fs,h1,h2,h3,h4⟩;exact⟨a,dx,fs,h1,h2,h3,h4⟩
theorem Xw{D:Addr}{pos:Pos}(hg:Gl X x)(hm:X.mg x=some (.ref D))(hd:(x==("__debug__":Str))=false:=by decide):PE X (.Name x pos) (tC (.ref D)):=T6 hg hm rfl hd
end
theorem JD{h:Heap}{o ob:Obj}{b:Addr}(e:(h.push o).get? b=some ob)(hs:b≠h.objs.size):h.get? b=some ob:=by
 obtain⟨e1,e2⟩:=Heap.get?_some_iff.mp e;refine Heap.get?_some_iff.mpr ⟨?_,e2⟩;cases h;simpa[Heap.push,Array.getElem?_push,hs]using e1
section
variable{X:Cx}
theorem Qa:∀{ys:Φ}{vs:Θ},Vals (ys.map V.str) vs->StrsAre vs ys
 |[],_,h=>by cases h;exact .nil
 |y::ys,_,h=>by
  rw[List.map_cons]at h;cases h with
  |cons a b =>
   obtain⟨t,rfl⟩:=a;exact .cons y t (Qa b)
def rJoin:V->Ζ->Hp->VK->Prop:=λx vs H Q=>∃a l ys,x=.str a/\vs=[.ref l]/\H l=some (.lst (ys.map V.str))/\(ys.map (·.length)).sum+ys.length*a.length<=16777216/\Q (.str (Txt.join a ys)) H
theorem abJ:MtM X "str.join" rJoin:=by
 intro pins s σ H x vs v us Q I rx rv h;obtain⟨a,l,ys,rfl,rfl,hl,hz,q⟩:=h;obtain⟨t,rfl⟩:=rx;obtain⟨u,rfl,ru⟩:=rv.one;cases ru;obtain⟨_,its,n,r,_,e⟩:=I.lstM hl;exact join_list ⟨_,e,rfl,n,rfl⟩ (by simpa using Qa r) hz λt' k=>⟨.str _,H,I.tok _,⟨_,rfl⟩,q⟩
structure ame(K:Frag)(C:Addr):Prop where
 ha:findIn K (.ref C) "__class__"=some (some (.builtin "object.__class__"))
 hn:specialIn K (.builtin "object.__class__") "__get__"=some (some (.builtin "getset_descriptor.__get__"))
 tk:takesIn K (.builtin "object.__class__")=some true
 hm:mroIn K C (.type "object")=some true
end
section
variable{X:Cx}{elt iter:Expr}{pos:Pos}{scope:Scope}{wi:TI}{te:TE}
theorem Yn{ext:Addr->List (Str×Addr)}{fn:Str->Bool}{i0:Nat}{y0:Str}{py spos:Pos}{xs N':Φ}{tg:Expr}{ifs:List Expr}{gt:TG}{tc:TT}(E:Qc X scope xs ext fn)(hc:X.calm=true)(hsh:Jo xs X.N=N')(hkind:scope.kind=.function)(hnames:∀y∈scope.names,y.2=.local->scope.names.lookup y.1=some .local)
 (hfree:∀y∈scope.names,y.2=.free->X.env.kindOf y.1=some .cell\/X.env.kindOf y.1=some .free)(hloc:∀y∈X.N,y∉xs->(relabel scope X.env).names.lookup y≠some .local)(hq:∀y∈X.N,y∈xs->(relabel scope X.env).names.lookup (hid y)=none)(hi:PI X tg iter wi)
 (hg:∀C s₀ H₀ ex pn,PG (X.compE ext fn N' scope xs C s₀ H₀ ex pn) tg gt)(ht:∀C s₀ H₀ ex pn,PTs (X.compE ext fn N' scope xs C s₀ H₀ ex pn) ifs tc)(he:∀C s₀ H₀ ex pn,PE (X.compE ext fn N' scope xs C s₀ H₀ ex pn) elt te)(hgy:PG X (.Name y0 py) (wH i0))(hsw:swapsWith (.ListComp elt [⟨tg,iter,ifs,0⟩] scope pos) (some (.Name y0 py)) spos.line X.env=pure true)(hs:∀z,foldedSetIterable iter X.env z=pure z) :
  PS X (.Assign [.Name y0 py] (.ListComp elt [⟨tg,iter,ifs,0⟩] scope pos) spos) (Zx (rA wi xs.length gt tc te) (wH i0)):=by
 intro pins s σ H D0 I h;have h:rA wi xs.length gt tc te σ H (λx H1=>wH i0 x σ H1 D0.nx):=h;rw[exec_Assign_Name_used _ _ _ _ hsw];refine ZU (wpAny_standAt (ZU ?_));show wpAny _ X.A (comprehension (.ListComp elt [⟨tg,iter,ifs,0⟩] scope pos) scope X.env _ (newList []) false (eval iter X.env) (some (assign (.Name y0 py) X.env)) >>= λ_=>_) _ _ s;refine ZU (wpAny_mono (Jk (use:=some (assign (.Name y0 py) X.env)) (post:=λ_ s'=>SP X pins D0 .next s') E hc hsh hkind hnames hfree hloc hq hi hg ht he hs I h λC D Hc s6 m fl hn6 I6 fC qn=>?_) (λ_ s' hq=>ZT (ZT hq)) λ_ _ e=>e);obtain⟨oc,es,ep,ho,hdat,_⟩:=id hn6;have I7:=I6.pinned (fp:=[C]) (λb hb=>by rw[YR.mp hb];exact fC) λb hb=>by
  rw[YR.mp hb];exact⟨oc,ho,λv z=>by rw[hdat]at z;cases z⟩
 show wpAny _ X.A (assign (.Name y0 py) X.env _) _ _ s6;refine thn (hgy _ s6 σ Hc (.ref D) _ D0.nx I7 rfl qn) λ_ s7 hP=>?_;obtain⟨σ7,H7,Z7,q7⟩:=hP;have pn7:=Z7.pin (C,oc) (aP _ (aP _ (pK (by simp) ho)));refine⟨m,hn6.at' λo e=>?_,λh' hs'=>⟨σ7,H7,Z7.unpinned.turned (it:=C) (h':=h') (t':=s7.toks) (λb o hb e=>(hs'.2 b hb).trans e) pn7.2.1 fC.2.1 fC.2.2.2.1 fC.2.2.2.2.1 fC.2.2.2.2.2,q7⟩⟩;rw[ho]at e;cases e;exact pn7.1
end
section
variable{X:Cx}{pins:Δ}{σ:L2.St}{H:Hp}{s:Shared}{h':Heap}
theorem Inv.turnedL{t':Nat}{ch:Ψ}(I:Inv X pins σ H s)(k:∀b o,b∉ch->s.heap.get? b=some o->h'.get? b=some o)(hf:∀b∈ch,Dm X pins H b):Inv X pins σ H { s with heap:=h',toks:=t' }:=by
 have nit:∀b u,H b=some u->b∉ch:=λb u e z=>by rw[(hf b z).1]at e;cases e
 refine I.step (g':=s.gens) (d':=s.drawn) (ch:=ch) (λb hb=>⟨(hf b hb).2.2.2.1,(hf b hb).2.1,(hf b hb).2.2.2.2.1,(hf b hb).2.2.2.2.2⟩) (λb o _ _ hc e _=>k b o hc e) (λb o _ _ hc e _=>⟨o.slots,k b o hc e⟩) (λ_ _ _ _ n=>n) (λb o hc e=>⟨o,k b o hc e⟩) (λ_ _ e=>e) (λ_ _ _ e=>e) (λb ps e=>⟨#[],by rw[e];simp⟩) (λm hm=>?_) (λb u e=>?_) I.bare
 .obtain⟨o,es,ep,ho,r⟩:=hm;exact⟨o,es,ep,k _ o (λz=>(hf _ z).2.1 rfl) ho,r⟩
 .refine(I.hok b u e).stay (λc v hc q=>k c v ?_ q) (λ_ q=>q) λ_ _ q=>q;rcases hc with z|z
  .rw[z];exact nit b u e
  .exact nit c _ z
end
def Itz(a b:Addr):It:=⟨λi H=>∃xs ys,H a=some (.lst xs)/\H b=some (.lst ys)/\i<xs.length/\i<ys.length,λi H v H'=>∃xs ys x y t,H a=some (.lst xs)/\H b=some (.lst ys)/\xs[i]?=some x/\ys[i]?=some y/\H t=none/\v=.ref t/\H'=upd H t (.tup [x,y]),λi H=>∃xs ys,H a=some (.lst xs)/\H b=some (.lst ys)/\(xs.length<=i\/ys.length<=i)⟩
theorem oM{h g:Heap}{a l:Addr}{i:Nat}(x:h.IsListIter a l i)(k:∀o,h.get? a=some o->g.get? a=some o):g.IsListIter a l i:=by obtain⟨o,e,r⟩:=x;exact⟨o,k o e,r⟩
theorem JX{xs:Ζ}{vs:Θ} : Vals xs vs->∀{i:Nat}{x:V},xs[i]?=some x->∃u,vs[i]?=some u/\RelV x u:=by
 intro h
 induction h with
 |nil=>intro i x e;cases e
 |cons a b ih =>
  intro i x e;cases i with
  |zero=>rw[List.getElem?_cons_zero]at e;cases e;exact⟨_,rfl,a⟩
  |succ i=>rw[List.getElem?_cons_succ]at e ⊢;exact ih e
theorem Y5{P:Program}{w:World}{K:Frag}{elts:List Expr}{x1}{pos:Pos}(z TI TO i1 i2 l1 l2:Addr)(D:ZipApart z TI TO i1 i2 l1 l2) :
  Turn P w K (.Tuple elts x1 pos) (Itz l1 l2) [z,TI,TO,i1,i2] z (λi h=>IsZip h z TI TO .none/\IsPair h TI (.ref i1) (.ref i2)/\(∃p q,IsPair h TO p q)/\h.IsListIter i1 l1 i/\h.IsListIter i2 l2 i) where
 mem:=by simp
 obj:=by
  rintro i h ⟨s1,s2,⟨p,q,s3⟩,⟨o4,s4,_,d4⟩,⟨o5,s5,_,d5⟩⟩ b hb;simp only[YU,List.not_mem_nil,or_false]at hb;rcases hb with rfl|rfl|rfl|rfl|rfl
  .exact⟨_,s1,λv e=>by cases e⟩
  .exact⟨_,s2,λv e=>by cases e⟩
  .exact⟨_,s3,λv e=>by cases e⟩
  .exact⟨_,s4,λv e=>by rw[d4]at e;cases e⟩
  .exact⟨_,s5,λv e=>by rw[d5]at e;cases e⟩
 keep:=λi h h' ⟨s1,s2,⟨p,q,s3⟩,s4,s5⟩ k=>⟨k z (by simp) _ s1,k TI (by simp) _ s2,⟨p,q,k TO (by simp) _ s3⟩,oM s4 (k i1 (by simp)),oM s5 (k i2 (by simp))⟩
 item:=by
  intro X hP hw hK hc i pins s σ H E I hf st hg;subst hP hw hK;obtain⟨s1,s2,⟨p,q,s3⟩,s4,s5⟩:=st;obtain⟨xs,ys,ha,hb,lt1,lt2⟩:=hg;obtain⟨_,it1,n1,rv1,le1,g1⟩:=I.lstM ha;obtain⟨_,it2,n2,rv2,le2,g2⟩:=I.lstM hb;have ex:xs[i]?=some xs[i]:=aj lt1;have ey:ys[i]?=some ys[i]:=aj lt2;obtain⟨u,hu,ru⟩:=JX rv1 ex;obtain⟨v,hv,rv⟩:=JX rv2 ey;refine wpAny_pyNext_zip_item D s1 s2 s3 s4 s5 (xs:=it1.toArray) (ys:=it2.toArray) ⟨_,g1,rfl,n1,rfl⟩ ⟨_,g2,rfl,n2,rfl⟩ (x:=u) (y:=v) (by simpa using hu) (by simpa using hv) λh' a1 a2 a3 a4 a5 a6 a7=>⟨_,rfl,?_⟩;refine wpAny_letOwnedTupleGo_zip a1 λh2 st2 sb=>?_;have nt:H s.heap.objs.size=none:=I.fresh;have I1:=I.laid (a:=s.heap.objs.size) (o:=.tup [xs[i],ys[i]]) (h':=s.heap.push { cls:=.type "tuple",data:=.seq #[u,v] }) (t':=s.toks) (λb q z=>aH _ z) (aG _)
   ⟨(by show 2<=sizeLine;decide),[u,v],.cons ru (.cons rv .nil),_,aW _ rfl,rfl,_,rfl⟩
  have nz:z≠s.heap.objs.size:=aQ (aK s1);have nO:TO≠s.heap.objs.size:=aQ (aK s3);have nI:TI≠s.heap.objs.size:=aQ (aK s2);have n1':i1≠s.heap.objs.size:=by obtain⟨o,e,_⟩:=s4;exact aQ (aK e)
  have n2':i2≠s.heap.objs.size:=by obtain⟨o,e,_⟩:=s5;exact aQ (aK e)
  have fpn:∀b∈[z,TI,TO,i1,i2],upd H s.heap.objs.size (.tup [xs[i],ys[i]]) b=none:=by
   intro b hb;have f0:=(hf b hb).1;simp only[YU,List.not_mem_nil,or_false]at hb;rcases hb with rfl|rfl|rfl|rfl|rfl
   .exact(cC nz).trans f0
   .exact(cC nI).trans f0
   .exact(cC nO).trans f0
   .exact(cC n1').trans f0
   .exact(cC n2').trans f0
  have I2:=I1.turnedL (ch:=[z,TO,i1,i2]) (h':=h2) (t':=s.toks) (λb ob hb e=>by
   simp only[YU,List.not_mem_nil,or_false,not_or]at hb;obtain⟨b1,b2,b3,b4⟩:=hb;refine(sb.2 b b1).trans ?_;by_cases hs:b=s.heap.objs.size
   .subst hs;have e2:=aW s.heap (o:={ cls:=.type "tuple",data:=.seq #[u,v] }) rfl;have e:(s.heap.push { cls:=.type "tuple",data:=.seq #[u,v] }).get? s.heap.objs.size=some ob:=e;rw[e2]at e;cases e;exact a5
   .exact a7 b _ b1 b2 b3 b4 (JD e hs)) λb hb=>by
    have hb':b∈[z,TI,TO,i1,i2]:=by
     simp only[YU,List.not_mem_nil,or_false]at hb ⊢;rcases hb with h|h|h|h<;>simp[h]
    exact⟨fpn b hb',(hf b hb').2⟩
  have mv:∀c o,c≠z->h'.get? c=some o->h2.get? c=some o:=λc o n e=>(sb.2 c n).trans e;exact⟨.ref _,_,I2,rfl,⟨xs,ys,_,_,_,ha,hb,ex,ey,nt,rfl,rfl⟩,⟨st2,mv _ _ D.TIz (a7 _ _ D.TIz D.TITO D.TIi1 D.TIi2 s2),⟨_,_,mv _ _ D.TOz a2⟩,oM a3 λo e=>mv _ _ D.i1z e,oM a4 λo e=>mv _ _ D.i2z e⟩,fpn⟩
 done:=by
  intro X hP hw hK hc i pins s σ H E I hf st hg;subst hP hw hK;obtain⟨s1,s2,⟨p,q,s3⟩,s4,s5⟩:=st;obtain⟨xs,ys,ha,hb,lt⟩:=hg;obtain⟨_,it1,n1,rv1,le1,g1⟩:=I.lstM ha;obtain⟨_,it2,n2,rv2,le2,g2⟩:=I.lstM hb;refine wpAny_pyNext_zip_end (I.ok.hd hc) D s1 s2 s3 s4 s5 (xs:=it1.toArray) (ys:=it2.toArray) ⟨_,g1,rfl,n1,rfl⟩ ⟨_,g2,rfl,n2,rfl⟩ (by simp;lia) λh' k=>⟨rfl,I.turnedL (ch:=[z,TO,i1,i2]) (t':=s.toks) (λb ob hb e=>?_) λb hb=>?_⟩
  .simp only[YU,List.not_mem_nil,or_false,not_or]at hb;exact k b ob hb.1 hb.2.1 hb.2.2.1 hb.2.2.2 e
  .exact hf b (by
    simp only[YU,List.not_mem_nil,or_false]at hb ⊢;rcases hb with h|h|h|h<;>simp[h])
 self:=λ_ _ _ _ _ ⟨s1,_⟩ h=>wpAny_pyIter_zip s1 h
section
variable{X:Cx}
theorem V4(n l1 l2:Nat)(h1:l1<n)(h2:l2<n):ZipApart (n+4) (n+2) (n+3) n (n+1) l1 l2:=by
 constructor<;>first|exact aQ (by omega)|exact Nat.ne_of_gt (by lia)
theorem aa1(n b:Nat)(h:b=n+4\/b=n+2\/b=n+3\/b=n\/b=n+1):n<=b:=by lia
theorem boot_zip:bootBuiltins "zip"=some (.type "zip"):=by decide +kernel
def akI(ta:TA):TI:=λσ H R=>ta σ H λvs H1=>∃a b xs ys,vs=[.ref a,.ref b]/\H1 a=some (.lst xs)/\H1 b=some (.lst ys)/\R (Itz a b) H1
theorem acY{a b:Expr}{ta:TA}{elts:List Expr}{x1}{p pos tpos:Pos}(hg:Gl X "zip")(hm:X.mg "zip"=none)(ha:PA X [a,b] ta)(hs:starEach [a,b] X.env=[(false,eval a X.env),(false,eval b X.env)]:=by rfl)(hs2:starEach [b] X.env=[(false,eval b X.env)]:=by rfl) :
  PI X (.Tuple elts x1 tpos) (.Call (.Name "zip" p) [a,b] [] pos) (akI ta):=by
 intro pins s σ H R I h;refine Call_ (yF I hg hm boot_zip (PyProof.Rows.callWith_type1 (thn (ha pos pins s σ H _ I h) λus s1 hP=>?_) (by rw[hs,hs2]) (by rw[hs2];rfl)));obtain⟨vs,H1,I1,r1,q1⟩:=hP;obtain⟨l1,l2,xs,ys,e,h1,h2,q⟩:=q1;subst e;obtain⟨u,v,rfl,ru,rv⟩:=r1.two;cases ru;cases rv;obtain⟨_,it1,n1,rv1,le1,g1⟩:=I1.lstM h1;obtain⟨_,it2,n2,rv2,le2,g2⟩:=I1.lstM h2;have z1:=aK g1;have z2:=aK g2;refine call_zip_2 (xs:=it1.toArray) (ys:=it2.toArray) ⟨_,g1,rfl,n1,rfl⟩ ⟨_,g2,rfl,n2,rfl⟩ λh' a1 a2 a3 a4 a5 a6 a7=>?_;refine wpAny_pyIter_zip a1 ?_;refine⟨_,[s1.heap.objs.size+4,s1.heap.objs.size+2,s1.heap.objs.size+3,s1.heap.objs.size,s1.heap.objs.size+1],_,Itz l1 l2,H1,rfl,I1.kept (t':=s1.toks) λb ob e=>a7 b ob e,Y5 _ _ _ _ _ l1 l2 (V4 _ _ _ z1 z2),⟨a1,a2,⟨_,_,a3⟩,a4,a5⟩,λb hb=>?_,q⟩;have hb':s1.heap.objs.size<=b:=by
  simp only[YU,List.not_mem_nil,or_false]at hb;exact aa1 _ _ hb
 exact I1.fpOk hb' (I1.hok.fresh hb')
end
noncomputable def rlb(sc scope:Scope):Scope:={ scope with names:=scope.names.map λ(n,k)=>if(k==NameKind.free&&sc.kind == .function&&sc.names.lookup n==some .cell)then(n,NameKind.cell)else(n,k) }
section
variable{X:Cx}
theorem Vb(c:Nat):∀(n:Nat)(acc:Array Nat),((List.replicate n #[c]).foldl (· ++ ·) acc).toList=acc.toList++List.replicate n c
 |0,acc=>by simp
 |n+1,acc=>by
  rw[List.replicate_succ,List.foldl_cons,Vb c n,Array.toList_append,Wp]
  rfl
def ahk:R2:=λx y H Q=>∃c n,x=.str ⟨#[c]⟩/\y=.int n/\1<=n/\n<=1000/\∀z:Str,z.cps.toList=List.replicate n.toNat c->Q (.str z) H
theorem ab7:OpR X (binaryOp .Mult) ahk:=by
 intro pins s σ H x y v u Q I rx ry h;obtain⟨c,n,rfl,rfl,h0,h1,q⟩:=h;obtain⟨t,rfl⟩:=rx;obtain⟨t',rfl⟩:=ry;have hi:(⟨#[c]⟩ : Str).length=1:=rfl;have made:∀z:Str,z.cps.toList=List.replicate n.toNat c->(Made.str z).post (EP X pins σ Q) s:=λz hz=>⟨by
  have:z.length=n.toNat:=by
   show z.cps.size=_;rw[<- Array.length_toList,hz,aN]
  exact aL (show z.length<=1001 by lia) (by decide),.str z,H,I.tok _,⟨_,rfl⟩,q z hz⟩
 refine PySem.P.mul_str ?_ (λ_ _=>?_) (λ_ _=>?_) ?_
 .rw[Zp (by lia),Zp (by lia)];rfl
 .rw[hi];have:1<=(2^63-1:Int)/n:=Int.le_ediv_of_mul_le (by omega) (by lia);lia
 .rw[hi];unfold Builtin.Str.tooLong;exact Zp (by
   have:n.toNat<=1000:=by lia
   have e:1000<=sizeLine:=by decide
   lia)
 .split
  .lia
  .split
   .rename_i hc
    rw[hi]at hc;have e:n.toNat=1:=by
     simp at hc;lia
    refine⟨.str ⟨#[c]⟩,H,I,⟨t,rfl⟩,q _ ?_⟩;rw[e];rfl
   .refine made _ ?_;show((List.replicate n.toNat #[c]).foldl (· ++ ·) #[]).toList=_;rw[Vb];rfl
end
def Cx.compGC(X:Cx)(N':Φ)(scope:Scope)(x0:Str)(C:Addr)(s₀:Shared)(H₀:Hp)(ex:Ψ)(pn:Δ):Cx :=
 { X with env:=compEnvC scope ((x0,C+1)::uD X.env.cells scope.names []) C X.env,N:=[x0]++N',s₀:=s₀,H₀:=H₀,outer:=X.stack,ex:=ex,fn:=λz=>z==x0,pn:=pn,xe:=λ_ _=>False }
theorem xU{env:Env}{x0:Str} : ∀{names:List (Str×NameKind)}{y:Str},y≠x0->((names.map λ(n,k)=>if(k==NameKind.free&&env.scope.kind == .function&&env.kindOf n==some .cell)then(n,NameKind.cell)else(n,k)).lookup y=some .cell \/
  (names.map λ(n,k)=>if(k==NameKind.free&&env.scope.kind == .function&&env.kindOf n==some .cell)then(n,NameKind.cell)else(n,k)).lookup y=some .free)->(∀z∈names,z.2=.cell->z.1=x0)->(y,NameKind.free)∈names
 |[],y,_,h,_=>by rcases h with h|h<;>cases h
 |(n,k)::r,y,ny,h,hc=>by
  have ih:=@xU env x0 r y ny;have hc':∀z∈r,z.2=.cell->z.1=x0:=λz hz=>hc z (aJ _ hz);simp only[List.map_cons]at h;by_cases hcond:(k==NameKind.free&&env.scope.kind == .function&&env.kindOf n==some .cell)=true
  .rw[ZY hcond]at h;have hk:k=.free:=by
    simp only[Bool.and_eq_true,beq_iff_eq]at hcond;exact hcond.1.1
   subst hk;simp only[List.lookup_cons]at h;cases hb:y==n with
   |true=>rw[show y=n by simpa using hb];exact aO
   |false=>rw[hb]at h;exact aJ _ (ih h hc')
  .rw[ZZ hcond]at h;simp only[List.lookup_cons]at h;cases hb:y==n with
   |true =>
    have e:y=n:=by simpa using hb
    rw[hb]at h;rcases h with h|h
    .cases h;exact absurd (e.trans (hc (n,.cell) aO rfl)) ny
    .cases h;rw[e];exact aO
   |false=>rw[hb]at h;exact aJ _ (ih h hc')
theorem IK{M:Model}{A:Around}{E:Ε}{s:Shared}{scope:Scope}{globals:Addr}{closure:List (Str×Addr)}{qual:Str}{outer:Env}{x0:Str}{Q:Env->Shared->Prop}(hcf:∀n acc,cellsFrom n scope.names acc=(x0,n)::acc)(hpc:∀h,pushCells h scope.names=h.push { cls:=.type "cell",data:=.cell none })
 (hQ:∀g,g.Ns s.heap.objs.size (λx=>([] : List (Str×Value)).reverse.lookup x)->g.IsCell (s.heap.objs.size+1) none->(∀b o,s.heap.get? b=some o->g.get? b=some o)->Q (newEnv scope s.heap.objs.size globals ((x0,s.heap.objs.size+1)::closure) qual none .none (some outer) builtinsNs) { s with heap:=g,toks:=s.toks+([] : List (Str×Value)).length }) :
  wpAny M A (newFunctionEnv scope globals closure [] qual none .none (some outer)) Q E s:=by
 simp only[newFunctionEnv,Option.isSome_some,if_true];refine ZU (wpAny_alloc ?_);refine ZU (wpAny_layCells _ (λname kind cells=>by cases hkc:kind==NameKind.cell<;>simp[hkc]) _ _ _ _ ?_);rw[hcf,hpc];have z1:(s.heap.push { cls:=.type "dict",data:=.dict #[] }).objs.size=s.heap.objs.size+1:=Heap.size_push ..;show wpAny _ _ (forIn ([] : List (Str×Value)) _ _ >>= _) _ _ _;rw[List.forIn_nil];refine ZU (ZT (ZT ?_));have c1:=aW (s.heap.push { cls:=.type "dict",data:=.dict #[] }) (o:={ cls:=.type "cell",data:=.cell none }) rfl;rw[z1]at c1;show Q (newEnv scope s.heap.objs.size globals ((x0,(s.heap.push { cls:=.type "dict",data:=.dict #[] }).objs.size)::closure) qual none .none (some outer) builtinsNs) _;rw[z1];exact hQ _ ((Heap.Ns.new s.heap (.type "dict")).at' λo e=>aH _ e) ⟨_,c1,rfl⟩ λb o e=>aH _ (aH _ e)
theorem Uh{x0 y:Str}{d c:Addr}(e : [(x0,d)].lookup y=some c):y=x0/\c=d:=by
 rw[List.lookup_cons]at e;cases hy:y==x0 with
 |true=>rw[hy]at e;cases e;exact⟨by simpa using hy,rfl⟩
 |false=>rw[hy]at e;cases e
theorem ext1{X:Cx}{scope:Scope}{x0:Str}(hcf:∀n acc,cellsFrom n scope.names acc=(x0,n)::acc)(hpc:∀h,pushCells h scope.names=h.push { cls:=.type "cell",data:=.cell none })(hcl1:∀y∈scope.names,y.2=.cell->y.1=x0):Qc X scope [x0] (λC=>[(x0,C+1)]) (λz=>z==x0) :=
 ⟨λhQ=>IK hcf hpc λg hns hcl kg=>hQ g hns (λy c e=>by rw[(Uh e).2];exact hcl) kg,λC y c e=>by rw[(Uh e).2];exact X0 _,λC y z c e1 e2=>(Uh e1).1.trans (Uh e2).1.symm,λC y e=>⟨C+1,by rw[beq_iff_eq.mp e];exact List.lookup_cons_self⟩,λC y e=>by
  rw[List.lookup_cons,beq_eq_false_iff_ne.mpr λz=>e (by rw[z];simp)]
  rfl,λC y e=>by
  by_cases ny:y=x0
  .exact .inl ⟨C+1,by rw[ny];exact List.lookup_cons_self⟩
  .exact .inr (xU ny e hcl1)⟩
section
variable{X:Cx}
def afE:Ζ->Hp->VK->Prop:=λxs H Q=>∃(l:Addr)(bs:List Bool),xs=[.ref l]/\H l=some (.lst (bs.map V.bl))/\Q (.bl (bs.any id)) H
theorem uo:∀bs:List Bool,((List.range bs.length).any λi=>(bs[i]?).getD true)=bs.any id
 |[]=>rfl
 |b::bs=>by
  rw[List.length_cons,List.range_succ_eq_map,List.any_cons,List.any_map,List.any_cons];have:=uo bs;simp only[Function.comp_def,List.getElem?_cons_succ,List.getElem?_cons_zero,Option.getD_some,id]at this ⊢;rw[this]
theorem V2(hc:X.calm=true):iJ X (.builtin "any") afE:=by
 intro pins s σ H xs us Q I r h;obtain⟨l,bs,rfl,hl,q⟩:=h;obtain⟨u,rfl,ru⟩:=r.one;cases ru;obtain⟨its,rv,p⟩:=I.lstIs hl;have hlt:l<s.heap.objs.size:=by obtain⟨_,e,_⟩:=p;exact aK e
 refine call_any_walk (wpAny_pyIter_list p ?_);refine⟨s.heap.objs.size,[s.heap.objs.size,l],[s.heap.objs.size],its.toArray.size,_,_,λi=>(bs[i]?).getD true,rfl,Walks.list (A:=X.A.in1) (I.ok.hd hc) _ l (aQ hlt) its.toArray,
  ⟨⟨_,aW _ rfl,rfl,rfl⟩,p.push _⟩,λi v s' Q' E' hP hQ=>?_,λh' tk hk=>?_⟩
 .obtain⟨b,e,rfl⟩:=BJ rv i v (by simpa using hP);simp only[e,Option.getD_some]at hQ;exact wpAny_truthy_bool hQ
 .have e:((List.range its.toArray.size).any λi=>(bs[i]?).getD true)=bs.any id:=by
   rw[aX,<- rv.length,ak];exact uo bs
  refine⟨.bl (bs.any id),H,I.kept (t':=tk) λb o q=>hk b o (λhm=>?_) (aH _ q),?_,q⟩
  .rw[YR.mp hm]at q;exact X2 _ (aK q)
  .rw[e];rfl
end
def Ite(l:Addr):It:=⟨λi H=>∃xs,H l=some (.lst xs)/\i<xs.length,λi H v H'=>∃xs x t,H l=some (.lst xs)/\xs[i]?=some x/\H t=none/\v=.ref t/\H'=upd H t (.tup [.int i,x]),λi H=>∃xs,H l=some (.lst xs)/\xs.length<=i⟩
theorem Ws{P:Program}{w:World}{K:Frag}{elts:List Expr}{x1}{pos:Pos}(e it l:Addr)(hne:e≠it) :
  Turn P w K (.Tuple elts x1 pos) (Ite l) [e,it] e (λi h=>(∃old,IsEnum h e it ((i:Nat):Int) old)/\h.IsListIter it l i) where
 mem:=by simp
 obj:=by
  rintro i h ⟨⟨old,s1⟩,⟨o4,s4,_,d4⟩⟩ b hb;simp only[YU,List.not_mem_nil,or_false]at hb;rcases hb with rfl|rfl
  .exact⟨_,s1,λv e=>by cases e⟩
  .exact⟨_,s4,λv e=>by rw[d4]at e;cases e⟩
 keep:=λi h h' ⟨⟨old,s1⟩,s4⟩ k=>⟨⟨old,k e (by simp) _ s1⟩,oM s4 (k it (by simp))⟩
 item:=by
  intro X hP hw hK hc i pins s σ H E I hf st hg;subst hP hw hK;obtain⟨⟨old,s1⟩,s4⟩:=st;obtain⟨xs,ha,lt1⟩:=hg;obtain⟨_,it1,n1,rv1,le1,g1⟩:=I.lstM ha;have ex:xs[i]?=some xs[i]:=aj lt1;obtain⟨u,hu,ru⟩:=JX rv1 ex;refine wpAny_pyNext_enum_item s1 s4 (items:=it1.toArray) ⟨_,g1,rfl,n1,rfl⟩ (x:=u) (by simpa using hu) hne λh' a1 a3 a5 a6 a7=>⟨_,rfl,?_⟩;refine wpAny_letOwnedTupleGo_enum a1 λh2 st2 sb=>?_;have nt:H s.heap.objs.size=none:=I.fresh;have I1:=I.laid (a:=s.heap.objs.size) (o:=.tup [.int i,xs[i]]) (h':=s.heap.push { cls:=.type "tuple",data:=.seq #[.int i s.toks,u] }) (t':=s.toks+1) (λb q z=>aH _ z) (aG _)
   ⟨(by show 2<=sizeLine;decide),[.int i s.toks,u],.cons ⟨_,rfl⟩ (.cons ru .nil),_,aW _ rfl,rfl,_,rfl⟩
  have nz:e≠s.heap.objs.size:=aQ (aK s1);have n1':it≠s.heap.objs.size:=by obtain⟨o,e,_⟩:=s4;exact aQ (aK e)
  have fpn:∀b∈[e,it],upd H s.heap.objs.size (.tup [.int i,xs[i]]) b=none:=by
   intro b hb;have f0:=(hf b hb).1;simp only[YU,List.not_mem_nil,or_false]at hb;rcases hb with rfl|rfl
   .exact(cC nz).trans f0
   .exact(cC n1').trans f0
  have I2:=I1.turnedL (ch:=[e,it]) (h':=h2) (t':=s.toks+1) (λb ob hb z=>by
   simp only[YU,List.not_mem_nil,or_false,not_or]at hb;obtain⟨b1,b3⟩:=hb;refine(sb.2 b b1).trans ?_;by_cases hs:b=s.heap.objs.size
   .subst hs;have e2:=aW s.heap (o:={ cls:=.type "tuple",data:=.seq #[.int i s.toks,u] }) rfl;have z:(s.heap.push { cls:=.type "tuple",data:=.seq #[.int i s.toks,u] }).get? s.heap.objs.size=some ob:=z;rw[e2]at z;cases z;exact a5
   .exact a7 b _ b1 b3 (JD z hs)) λb hb=>⟨fpn b hb,(hf b hb).2⟩
  have mv:∀c o,c≠e->h'.get? c=some o->h2.get? c=some o:=λc o n z=>(sb.2 c n).trans z;exact⟨.ref _,_,I2,rfl,⟨xs,_,_,ha,ex,nt,rfl,rfl⟩,⟨⟨_,by rw[Int.natCast_add];exact st2⟩,oM a3 λo z=>mv _ _ (λy=>hne y.symm) z⟩,fpn⟩
 done:=by
  intro X hP hw hK hc i pins s σ H E I hf st hg;subst hP hw hK;obtain⟨⟨old,s1⟩,s4⟩:=st;obtain⟨xs,ha,lt⟩:=hg;obtain⟨_,it1,n1,rv1,le1,g1⟩:=I.lstM ha;have hl:=rv1.length;refine wpAny_pyNext_enum_end (I.ok.hd hc) s1 s4 (items:=it1.toArray) ⟨_,g1,rfl,n1,rfl⟩ (by simp;lia) λh' k=>⟨rfl,I.turnedL (ch:=[e,it]) (t':=s.toks) (λb ob hb z=>?_) hf⟩;simp only[YU,List.not_mem_nil,or_false,not_or]at hb;exact k b ob hb.2 z
 self:=λ_ _ _ _ _ ⟨⟨_,s1⟩,_⟩ h=>wpAny_pyIter_enum s1 h
section
variable{X:Cx}
def ah2(ta:TA):TI:=λσ H R=>ta σ H λvs H1=>∃a xs,vs=[.ref a]/\H1 a=some (.lst xs)/\R (Ite a) H1
theorem aaD{a:Expr}{ta:TA}{elts:List Expr}{x1}{p pos tpos:Pos}(hg:Gl X "enumerate")(hm:X.mg "enumerate"=none)(ha:PA X [a] ta)(hs:starEach [a] X.env=[(false,eval a X.env)]:=by rfl) :
  PI X (.Tuple elts x1 tpos) (.Call (.Name "enumerate" p) [a] [] pos) (ah2 ta):=by
 intro pins s σ H R I h;refine Call_ (yF I hg hm boot_enumerate (PyProof.Rows.callWith_type1 (thn (ha pos pins s σ H _ I h) λus s1 hP=>?_) (by rw[hs];rfl) (by rfl)));obtain⟨vs,H1,I1,r1,q1⟩:=hP;obtain⟨l1,xs,e,h1,q⟩:=q1;subst e;obtain⟨u,rfl,ru⟩:=r1.one;cases ru;obtain⟨_,it1,n1,rv1,le1,g1⟩:=I1.lstM h1;refine call_enumerate_list (items:=it1.toArray) ⟨_,g1,rfl,n1,rfl⟩ λh' a1 a2 a3 a7=>?_;refine wpAny_pyIter_enum a1 ?_;refine⟨_,[s1.heap.objs.size+1,s1.heap.objs.size],_,Ite l1,H1,rfl,I1.kept (t':=s1.toks) λb ob e=>a7 b ob e,Ws _ _ l1 (Nat.succ_ne_self _),⟨⟨_,a1⟩,a2⟩,λb hb=>?_,q⟩;have hb':s1.heap.objs.size<=b:=by
  simp only[YU,List.not_mem_nil,or_false]at hb;rcases hb with z|z
  .rw[z];exact Xs _
  .rw[z];exact aG _
 exact I1.fpOk hb' (I1.hok.fresh hb')
end
noncomputable def out(H:Hp)(a:Addr):Hp:=λb=>if b=a then none else H b
theorem fsc{N P:Φ}{sc:Scope}(h1:sc.kind=.function:=by rfl)(h2:sc.isCoroutine=false:=by rfl)(h3:sc.isGenerator=false:=by rfl)(h4:N.Nodup/\(∀x∈P,sc.names.lookup x=some .local\/sc.names.lookup x=some .cell)/\∀y∈sc.names,y.2≠.free:=by decide +kernel)(h5:N.take P.length=P:=by rfl):bK N P sc:=⟨h1,h2,h3,h4.1,h5,h4.2.1,h4.2.2⟩
abbrev CK0(sc scope:Scope)(N N' xs:Φ):Prop:=Jo xs N=N'/\(∀y∈scope.names,y.2=.local->scope.names.lookup y.1=some .local)/\(∀y∈scope.names,y.2=.free->sc.names.lookup y.1=some .cell\/sc.names.lookup y.1=some .free) /\
 (∀y∈N,y∉xs->(scope.names.map λ(n,k)=>if(k==NameKind.free&&sc.kind == .function&&sc.names.lookup n==some .cell)then(n,NameKind.cell)else(n,k)).lookup y≠some .local)/\∀y∈N,y∈xs->(scope.names.map λ(n,k)=>if(k==NameKind.free&&sc.kind == .function&&sc.names.lookup n==some .cell)then(n,NameKind.cell)else(n,k)).lookup (hid y)=none
abbrev CK(sc scope:Scope)(N N' xs:Φ):Prop:=(∀y∈scope.names,y.2≠.cell)/\CK0 sc scope N N' xs
section
variable{X:Cx}{elt iter tg:Expr}{pos:Pos}{scope:Scope}{wi:TI}{te:TE}{ifs:List Expr}{gt:TG}{tc:TT}
theorem YW(sc:Scope)(N N' xs:Φ)(hi:PI X tg iter wi)(hg:∀{C s₀ H₀ ex pn},PG (X.compG N' scope xs C s₀ H₀ ex pn) tg gt)(ht:∀{C s₀ H₀ ex pn},PTs (X.compG N' scope xs C s₀ H₀ ex pn) ifs tc)(he:∀{C s₀ H₀ ex pn},PE (X.compG N' scope xs C s₀ H₀ ex pn) elt te)
 (hsc:X.env.scope=sc:=by rfl)(hNN:X.N=N:=by rfl)(hc:X.calm=true:=by rfl)(hk:scope.kind=.function:=by rfl)(h:CK sc scope N N' xs:=by decide +kernel)(hs:∀z,foldedSetIterable iter X.env z=pure z:=by intro _;rfl):PE X (.ListComp elt [⟨tg,iter,ifs,0⟩] scope pos) (rA wi xs.length (tMG gt) (tMT tc) (tM te)) :=
 by
 subst hsc hNN;exact Qm (afx hk h.1) hc h.2.1 hk h.2.2.1 h.2.2.2.1 h.2.2.2.2.1 h.2.2.2.2.2 hi (λ_ _ _ _ _=>hg.mono) (λ_ _ _ _ _=>ht.mono) (λ_ _ _ _ _=>he.mono) hs
theorem ZJ{i0:Nat}{y0:Str}{py spos:Pos}(sc:Scope)(N N' xs:Φ)(hi:PI X tg iter wi)(hg:∀{C s₀ H₀ ex pn},PG (X.compG N' scope xs C s₀ H₀ ex pn) tg gt)(ht:∀{C s₀ H₀ ex pn},PTs (X.compG N' scope xs C s₀ H₀ ex pn) ifs tc)(he:∀{C s₀ H₀ ex pn},PE (X.compG N' scope xs C s₀ H₀ ex pn) elt te)(hgy:PG X (.Name y0 py) (wH i0))
 (hsc:X.env.scope=sc:=by rfl)(hNN:X.N=N:=by rfl)(hc:X.calm=true:=by rfl)(hk:scope.kind=.function:=by rfl)(h:CK sc scope N N' xs:=by decide +kernel)(hsw:swapsWith (.ListComp elt [⟨tg,iter,ifs,0⟩] scope pos) (some (.Name y0 py)) spos.line X.env=pure true:=by rfl)(hs:∀z,foldedSetIterable iter X.env z=pure z:=by intro _;rfl) :
  PS X (.Assign [.Name y0 py] (.ListComp elt [⟨tg,iter,ifs,0⟩] scope pos) spos) (Zx (rA wi xs.length (tMG gt) (tMT tc) (tM te)) (wH i0)) :=
 by
 subst hsc hNN;exact Yn (afx hk h.1) hc h.2.1 hk h.2.2.1 h.2.2.2.1 h.2.2.2.2.1 h.2.2.2.2.2 hi (λ_ _ _ _ _=>hg.mono) (λ_ _ _ _ _=>ht.mono) (λ_ _ _ _ _=>he.mono) hgy hsw hs
theorem Yz(sc:Scope)(N N':Φ)(x0:Str)(hi:PI X tg iter wi)(hg:∀{C s₀ H₀ ex pn},PG (X.compGC N' scope x0 C s₀ H₀ ex pn) tg gt)(ht:∀{C s₀ H₀ ex pn},PTs (X.compGC N' scope x0 C s₀ H₀ ex pn) ifs tc)(he:∀{C s₀ H₀ ex pn},PE (X.compGC N' scope x0 C s₀ H₀ ex pn) elt te)
 (hsc:X.env.scope=sc:=by rfl)(hNN:X.N=N:=by rfl)(hc:X.calm=true:=by rfl)(hk:scope.kind=.function:=by rfl)(hcf:∀n acc,cellsFrom n scope.names acc=(x0,n)::acc:=by intro _ _;rfl)(hpc:∀h,pushCells h scope.names=h.push { cls:=.type "cell",data:=.cell none }:=by intro _;rfl)(h:(∀y∈scope.names,y.2=.cell->y.1=x0)/\CK0 sc scope N N' [x0]:=by decide +kernel)(hs:∀z,foldedSetIterable iter X.env z=pure z:=by intro _;rfl):PE X (.ListComp elt [⟨tg,iter,ifs,0⟩] scope pos) (rA wi 1 (tMG gt) (tMT tc) (tM te)):=by
 subst hsc hNN;exact Qm (ext1 hcf hpc h.1) hc h.2.1 hk h.2.2.1 h.2.2.2.1 h.2.2.2.2.1 h.2.2.2.2.2 hi (λ_ _ _ _ _=>hg.mono) (λ_ _ _ _ _=>ht.mono) (λ_ _ _ _ _=>he.mono) hs
theorem adz{N0:Φ}{x0:Str}{sO:Scope}{C0:Addr}{s0:Shared}{H0:Hp}{ex0:Ψ}{pn0:Δ}(sc:Scope)(N N' xs:Φ)(hi:PI (X.compGC N0 sO x0 C0 s0 H0 ex0 pn0) tg iter wi)(hg:∀{C s₀ H₀ ex pn},PG ((X.compGC N0 sO x0 C0 s0 H0 ex0 pn0).compG N' scope xs C s₀ H₀ ex pn) tg gt)(ht:∀{C s₀ H₀ ex pn},PTs ((X.compGC N0 sO x0 C0 s0 H0 ex0 pn0).compG N' scope xs C s₀ H₀ ex pn) ifs tc)(he:∀{C s₀ H₀ ex pn},PE ((X.compGC N0 sO x0 C0 s0 H0 ex0 pn0).compG N' scope xs C s₀ H₀ ex pn) elt te)
 (hsc:X.env.scope=sc:=by rfl)(hNN : [x0]++N0=N:=by rfl)(hc:X.calm=true:=by rfl)(hk:scope.kind=.function:=by rfl)(h:CK (rlb sc sO) scope N N' xs:=by decide +kernel)(hs:∀z,foldedSetIterable iter (X.compGC N0 sO x0 C0 s0 H0 ex0 pn0).env z=pure z:=by intro _;rfl):PE (X.compGC N0 sO x0 C0 s0 H0 ex0 pn0) (.ListComp elt [⟨tg,iter,ifs,0⟩] scope pos) (rA wi xs.length (tMG gt) (tMT tc) (tM te)):=by
 subst hsc hNN;exact YW (X:=X.compGC N0 sO x0 C0 s0 H0 ex0 pn0) (rlb X.env.scope sO) _ N' xs hi hg ht he rfl rfl hc hk h hs
end
theorem ahU{K:Frag}{a:Addr}{i j:Int}{d:Ξ}{n:Nat}{sl:Array (Ω)}{t u:Tok}(l:K.lookup a=some ⟨.type "tuple",d,.seq #[.int i t,.int j u] n,sl⟩):∀H,SqT K H a [.int i,.int j]:=λH=>.inr ⟨_,_,_,l,rfl,rfl,(by show 2<=sizeLine;decide),.cons ⟨_,rfl⟩ (.cons ⟨_,rfl⟩ .nil)⟩
theorem akC{K:Frag}{h:Heap}{mg:Str->Ω}{x:Str}{i:Int}{t:Tok}(X:K.In h)(G:h.Ns mainGlobals mg)(l:nsIn K mainGlobals x=some (some (.int i t))):∃u,mg x=some u/\RelV (.int i) u:=⟨_,mg_of X G l,_,rfl⟩
def Lst:Nat->(Θ->Prop)->Prop
 |0,P=>P []
 |n+1,P=>∀a,Lst n λl=>P (a::l)
theorem La:∀(n:Nat){P:Θ->Prop},Lst n P->∀us:Θ,us.length=n->P us
 |0,_,h,[],_=>h
 |n+1,_,h,a::l,e=>La n (h a) l (Nat.succ.inj e)
section
variable{K:Frag}{h:Heap}{mg:Str->Ω}{x m qual:Str}{v:Value}{C f:Addr}{st:Stmt}{ps:Φ}{oc:Value}{od an:Ξ}{osl:Array (Ω)}{kV doc pm cdv ct:Value}{i j:Int}{d:Ξ}{n:Nat}{sl:Array (Ω)}{t u:Tok}
theorem q_c(X:K.In h:=by assumption)(G:h.Ns mainGlobals mg:=by assumption)(e:nsIn K mainGlobals x=some (some v):=by k_is):mg x=some v:=mg_of X G e
theorem q_z(X:K.In h:=by assumption)(G:h.Ns mainGlobals mg:=by assumption)(e:nsIn K mainGlobals x=some none:=by k_is):mg x=none:=PySem.W.mg_none_of X G e
theorem q_n(e:findIn K (.ref C) x=some none:=by k_is):cj K C x:=e
theorem q_m(a:findIn K (.ref C) m=some (some (.ref f)):=by k_is)(b:isFn K (.ref f)=true:=by k_is)(c:keepIn K (.ref f)=true:=by k_is):Meth K C m f:=⟨a,b,c⟩
theorem q_M(a:makesIn K C=true:=by k_is)(b:findIn K (.ref C) "__init__"=some (some (.ref f)):=by k_is)(c:isFn K (.ref f)=true:=by k_is)(e:keepIn K (.ref C)=true:=by k_is):Mk K C f:=⟨a,b,c,e⟩
theorem q_4(a:plainGet K C Str.empty=true:=by k_is)(b:hasDictIn K C=true:=by k_is)(c:plainOver K C=true:=by k_is)(e:findIn K (.ref C) "__setattr__"=some (some (.builtin "object.__setattr__")):=by k_is):Cls K C:=⟨a,b,c,e⟩
theorem q_B(a:specialIn K (.ref C) "__getattribute__"=some (some (.builtin "type.__getattribute__")):=by k_is)(b:readsIn K C (.type "type")=true:=by k_is)(c:findCls K (.ref C) (.type "type") m=some (.val (.ref f)):=by k_is)(e:keepIn K (.ref f)=true:=by k_is):Df K C m f:=⟨a,b,c,rfl,e⟩
theorem q_g(X:K.In h:=by assumption)(G:h.Ns mainGlobals mg:=by assumption)(l:nsIn K mainGlobals x=some (some (.int i t)):=by k_is):∃u,mg x=some u/\RelV (.int i) u:=akC X G l
theorem q_t(l:K.lookup C=some ⟨.type "tuple",d,.seq #[.int i t,.int j u] n,sl⟩:=by k_is):∀H,SqT K H C [.int i,.int j]:=ahU l
theorem q_f(N:Nat)(hb:∀(kV doc pm:Value)(an:Ξ)(cdv ct:Value),Lst N λus=>bindArgs (PySem.W.fnOf x x (ig st) (fD st) (bH st) .none kV doc pm an cdv ct) ⟨us,[]⟩=pure (ps.zip us))(hN:ps.length=N:=by rfl)(X:K.In h:=by assumption)(G:h.Ns mainGlobals mg:=by assumption)
 (a:nsIn K mainGlobals x=some (some (.ref f)):=by k_is)(l:K.lookup f=some ⟨oc,od,.func (PySem.W.fnOf x x (ig st) (fD st) (bH st) .none kV doc pm an cdv ct),osl⟩:=by k_is)
 (c:codeIn K cdv x=true:=by k_is)(k:keepIn K (.ref f)=true:=by k_is):cJ K mg x st ps:=abI X G a l c k λkV doc pm an cdv ct us e=>La N (hb kV doc pm an cdv ct) us (e.trans hN)
theorem q_h(N:Nat)(hb:∀(kV doc pm:Value)(an:Ξ)(cdv ct:Value),Lst N λus=>bindArgs (PySem.W.fnOf x qual (ig st) (fD st) (bH st) .none kV doc pm an cdv ct) ⟨us,[]⟩=pure (ps.zip us))(hN:ps.length=N:=by rfl)
 (l:K.lookup f=some ⟨oc,od,.func (PySem.W.fnOf x qual (ig st) (fD st) (bH st) .none kV doc pm an cdv ct),osl⟩:=by k_is)(c:codeIn K cdv qual=true:=by k_is)(k:keepIn K (.ref f)=true:=by k_is):yL K x qual st ps f:=abH l c k λkV doc pm an cdv ct us e=>La N (hb kV doc pm an cdv ct) us (e.trans hN)
end
section
variable{X:Cx}{es:List Expr}{t:TA}{pos:Pos}
def aj2:R2:=λx y H Q=>∃l b xs zs,x=.ref l/\y=.ref b/\H l=some (.lst xs)/\H b=some (.lst zs)/\xs.length+zs.length<=sizeLine/\∀p H',Same H H'->H p=none->H' p=some (.lst (xs++zs))->Q (.ref p) H'
theorem aao:OpR X (binaryOp .Add) aj2:=ac4.imp λx y H Q hP=>by obtain⟨l,b,xs,zs,e1,e2,h1,h2,z,q⟩:=hP;exact⟨l,b,xs,zs,e1,e2,h1,h2,z,λp hp=>q p _ (Same.upd hp) hp cF⟩
end
section
variable{X:Cx}{k:Nat}{f C B:Addr}{ps:Φ}{sp:Sp}{x m:Str}{p pos apos:Pos}{e:Expr}{es:List Expr}{t:TA}
def ac9(C:Addr)(sp:Sp)(t:TA):TE:=λσ H Q=>t σ H λvs H1=>∀x dx,H1 x=none->H1 dx=none->dx≠x->sp (.ref x::vs) (upd (upd H1 dx (.own x)) x (.ins C dx [])) (λv H2=>v=.non/\Q (.ref x) H2) E0
theorem Zn(M:Mk X.K C f)(G:OkI X.prog X.w X.K X.mg X.base CX0 k f ps sp)(hr:eX (k+1) X.A)(hg:Gl X x)(hm:X.mg x=some (.ref C))(ha:PA X (e::es) t)(hdb:(x==("__debug__":Str))=false:=by decide)
 (he:starEach (e::es) X.env=(false,eval e X.env)::starEach es X.env:=by rfl)(hpl:(backTo pos (starEach es X.env)).any (·.1)=false:=by rfl):PE X (.Call (.Name x p) (e::es) [] pos) (ac9 C sp t):=by
 obtain⟨fd,F,hb⟩:=G;refine(aak M F hr hg hm hb .nil Qk ha.mono hdb he hpl).imp λσ H Q h=>⟨_,h,λvs H1 q x dx h1 h2 h3=>?_⟩;rw[List.append_nil];exact q x dx h1 h2 h3
theorem ZL{pl:Sem Bool}(c:Df X.K B m f)(G:OkI X.prog X.w X.K X.mg X.base CX0 k f ps sp)(hr:eX k X.A)(hg:Gl X x)(hm:X.mg x=some (.ref B))(ha:PA X (e::es) t)(hdb:(x==("__debug__":Str))=false:=by decide)
 (hst:starEach (e::es) X.env=(false,eval e X.env)::starEach es X.env:=by rfl)(hpl:(backTo pos (starEach es X.env)).any (·.1)=false:=by rfl)
 (ht:eval (.Call (.Attribute (.Name x p) m apos) (e::es) [] pos) X.env=(do
   let ov <- eval (.Name x p) X.env
   standAt apos.atName
   let(f,first) <- holding [ov] (getMethod ov m pl)
   callWith pos f first (backTo pos (starEach (e::es) X.env)) (backToKw pos (keywordEach [] X.env))):=by rfl) :
  PE X (.Call (.Attribute (.Name x p) m apos) (e::es) [] pos) (Ma sp t):=by
 obtain⟨fd,F,hb⟩:=G;exact aa3 (pl:=pl) c F hr hg hm hb ha hdb hst hpl ht
end
inductive T where
 |any|non|bl (b:Bool)|int (i:Int)|str (s:Str)|val (v:V)
 |tup (ts:List T)|lst (ts:List T)|scr (ts:List T)
 |dct (ks:List Key) (ts:List T)|ins (C:Addr) (ks:Φ) (ts:List T)
mutual
inductive Rep(K:Frag)(F:Hp):V->T->Prop
 |any (v:V):Rep K F v .any
 |non:Rep K F .non .non
 |bl (b:Bool):Rep K F (.bl b) (.bl b)
 |int (i:Int):Rep K F (.int i) (.int i)
 |str (s:Str):Rep K F (.str s) (.str s)
 |val (v:V):Rep K F v (.val v)
 |tup {a:Addr}{xs:Ζ}{ts:List T} : SqT K F a xs->bW K F xs ts->Rep K F (.ref a) (.tup ts)
 |lst {a:Addr}{xs:Ζ}{ts:List T} : F a=some (.lst xs)->bW K F xs ts->Rep K F (.ref a) (.lst ts)
 |scr {a:Addr}{xs:Ζ}{ts:List T} : SqL K F a xs->bW K F xs ts->Rep K F (.ref a) (.scr ts)
 |dct {a:Addr}{ks:List Key}{xs:Ζ}{ts:List T} : Rd F a (.dK (ks.zip xs))->ks.length=xs.length->bW K F xs ts->Rep K F (.ref a) (.dct ks ts)
 |ins {a C dx:Addr}{ks:Φ}{xs:Ζ}{ts:List T} : F a=some (.ins C dx (ks.zip xs))->F dx=some (.own a)->ks.length=xs.length->bW K F xs ts->Rep K F (.ref a) (.ins C ks ts)
inductive bW(K:Frag)(F:Hp):Ζ->List T->Prop
 |nil:bW K F [] []
 |cons {x:V}{xs:Ζ}{t:T}{ts:List T} : Rep K F x t->bW K F xs ts->bW K F (x::xs) (t::ts)
end
section
variable{K:Frag}{F F' H H':Hp}
theorem Same.rd{a:Addr}{u:HO}(S:Same F F')(h:Rd F a u):Rd F' a u:=h.imp (S _ _) λhP=>by obtain⟨o,e⟩:=hP;exact⟨o,S _ _ e⟩
mutual
theorem Rep.same(S:Same F F'):∀{x:V}{t:T},Rep K F x t->Rep K F' x t
 |_,_,.any v=>.any v
 |_,_,.non=>.non
 |_,_,.bl b=>.bl b
 |_,_,.int i=>.int i
 |_,_,.str s=>.str s
 |_,_,.val v=>.val v
 |_,_,.tup e h=>.tup (S.tup e) (bW.same S h)
 |_,_,.lst e h=>.lst (S _ _ e) (bW.same S h)
 |_,_,.scr e h=>.scr (S.seq e) (bW.same S h)
 |_,_,.dct e l h=>.dct (S.rd e) l (bW.same S h)
 |_,_,.ins e d l h=>.ins (S _ _ e) (S _ _ d) l (bW.same S h)
theorem bW.same(S:Same F F'):∀{xs:Ζ}{ts:List T},bW K F xs ts->bW K F' xs ts
 |_,_,.nil=>.nil
 |_,_,.cons h t=>.cons (Rep.same S h) (bW.same S t)
end
theorem Rep.lstI{x:V}{ts:List T}(h:Rep K F x (.lst ts)):∃a xs,x=.ref a/\F a=some (.lst xs)/\bW K F xs ts:=by cases h;exact⟨_,_,rfl,by assumption,by assumption⟩
theorem Rep.tupI{x:V}{ts:List T}(h:Rep K F x (.tup ts)):∃a xs,x=.ref a/\SqT K F a xs/\bW K F xs ts:=by cases h;exact⟨_,_,rfl,by assumption,by assumption⟩
theorem Rep.scrI{x:V}{ts:List T}(h:Rep K F x (.scr ts)):∃a xs,x=.ref a/\SqL K F a xs/\bW K F xs ts:=by cases h;exact⟨_,_,rfl,by assumption,by assumption⟩
theorem Rep.dctI{x:V}{ks:List Key}{ts:List T}(h:Rep K F x (.dct ks ts)):∃a xs,x=.ref a/\Rd F a (.dK (ks.zip xs))/\ks.length=xs.length/\bW K F xs ts:=by cases h;exact⟨_,_,rfl,by assumption,by assumption,by assumption⟩
theorem Rep.insI{x:V}{C:Addr}{ks:Φ}{ts:List T}(h:Rep K F x (.ins C ks ts)):∃a dx xs,x=.ref a/\F a=some (.ins C dx (ks.zip xs))/\F dx=some (.own a)/\ks.length=xs.length/\bW K F xs ts:=by cases h;exact⟨_,_,_,rfl,by assumption,by assumption,by assumption,by assumption⟩
theorem bW.len:∀{xs:Ζ}{ts:List T},bW K F xs ts->xs.length=ts.length
 |_,_,.nil=>rfl
 |_,_,.cons _ t=>ZH (· + 1) (bW.len t)
theorem bW.app:∀{xs ys:Ζ}{ts us:List T},bW K F xs ts->bW K F ys us->bW K F (xs++ys) (ts++us)
 |_,_,_,_,.nil,h=>h
 |_,_,_,_,.cons a b,h=>.cons a (bW.app b h)
theorem bW.at_:∀{xs:Ζ}{ts:List T}{i:Nat}{t:T},bW K F xs ts->ts[i]?=some t->∃x,xs[i]?=some x/\Rep K F x t
 |_,_,_,_,.nil,e=>by cases e
 |_,_,0,_,.cons a _,e=>by cases e;exact⟨_,rfl,a⟩
 |_,_,i+1,_,.cons _ b,e=>by
  obtain⟨x,q,r⟩:=bW.at_ (i:=i) b (by simpa using e);exact⟨x,by simpa using q,r⟩
theorem bW.of_at:∀{xs:Ζ}{ts:List T},xs.length=ts.length->(∀(i:Nat)x t,xs[i]?=some x->ts[i]?=some t->Rep K F x t)->bW K F xs ts
 |[],[],_,_=>.nil
 |x::xs,t::ts,l,h=>.cons (h 0 x t rfl rfl) (bW.of_at (Nat.succ.inj l) λi y u e1 e2=>h (i+1) y u e1 e2)
 |[],_::_,l,_=>by cases l
 |_::_,[],l,_=>by cases l
theorem bW.set{x:V}{t:T}(r:Rep K F x t):∀{xs:Ζ}{ts:List T}(i:Nat),bW K F xs ts->bW K F (xs.set i x) (ts.set i t)
 |_,_,_,.nil=>.nil
 |_,_,0,.cons _ h=>.cons r h
 |_,_,i+1,.cons a h=>.cons a (bW.set r i h)
theorem bW.take:∀{xs:Ζ}{ts:List T}(n:Nat),bW K F xs ts->bW K F (xs.take n) (ts.take n)
 |_,_,0,_=>.nil
 |_,_,_+1,.nil=>.nil
 |_,_,n+1,.cons a h=>.cons a (bW.take n h)
theorem bW.drop:∀{xs:Ζ}{ts:List T}(n:Nat),bW K F xs ts->bW K F (xs.drop n) (ts.drop n)
 |_,_,0,h=>h
 |_,_,_+1,.nil=>.nil
 |_,_,n+1,.cons _ h=>bW.drop n h
noncomputable def hd(S:Addr->Prop)(H:Hp):Hp:=λb=>open Classical in if S b then none else H b
theorem pH{S:Addr->Prop}{b:Addr}(h:S b):hd S H b=none:=by unfold hd;rw[ZY h]
theorem cM{S:Addr->Prop}{b:Addr}(h:¬S b):hd S H b=H b:=by unfold hd;rw[ZZ h]
theorem cQ{S:Addr->Prop}{b:Addr}{o:HO}(e:hd S H b=some o):¬S b/\H b=some o:=by
 by_cases h:S b
 .rw[pH h]at e;cases e
 .rw[cM h]at e;exact⟨h,e⟩
theorem g_{S S':Addr->Prop}(i:∀b,S' b->S b\/H b=none)(e:Same H H'):Same (hd S H) (hd S' H'):=λb o h=>by
 obtain⟨n,h⟩:=cQ h;rw[cM λz=>?_]
 .exact e _ _ h
 .rcases i b z with y|y
  .exact n y
  .rw[h]at y;cases y
theorem c7{S:Addr->Prop} : Same (hd S H) H:=λ_ _ h=>(cQ h).2
theorem bV{S:Addr->Prop}(e:Same H H'):Same (hd S H) (hd S H'):=g_ (λ_=>.inl) e
theorem Ux:hd (λ_=>False) H=H:=funext λ_=>cM id
inductive OT where
 |und|fz (t:T)|l1 (ts:List T)|l2 (tss:List (List T))|d1 (ks:List Key) (ts:List T)|ob (a dx C:Addr) (ks:Φ) (ts:List T)|la (a:Addr) (ts:List T)
noncomputable def frz:OT->T
 |.und=>.any
 |.fz t=>t
 |.l1 ts=>.lst ts
 |.l2 tss=>.lst (tss.map T.lst)
 |.d1 ks ts=>.dct ks ts
 |.ob _ _ C ks ts=>.ins C ks ts
 |.la _ ts=>.lst ts
def Slo(K:Frag)(F H:Hp)(v:Option V)(A:Ψ):OT->Prop
 |.und=>A=[]
 |.fz t=>A=[]/\∃u,v=some u/\Rep K F u t
 |.l1 ts=>∃a xs,v=some (.ref a)/\A=[a]/\H a=some (.lst xs)/\bW K F xs ts
 |.l2 tss=>∃a bs,v=some (.ref a)/\A=a::bs/\(a::bs).Nodup/\H a=some (.lst (bs.map V.ref))/\bs.length=tss.length/\∀(i:Nat)b ts,bs[i]?=some b->tss[i]?=some ts->∃xs,H b=some (.lst xs)/\bW K F xs ts
 |.d1 ks ts=>∃a xs,v=some (.ref a)/\A=[a]/\H a=some (.dK (ks.zip xs))/\ks.length=xs.length/\bW K F xs ts
 |.ob a dx C ks ts=>∃xs,v=some (.ref a)/\A=[a,dx]/\H a=some (.ins C dx (ks.zip xs))/\H dx=some (.own a)/\ks.length=xs.length/\bW K F xs ts
 |.la a ts=>∃xs,v=some (.ref a)/\A=[a]/\H a=some (.lst xs)/\bW K F xs ts
theorem Slo.same{v:Option V}{A:Ψ}(S:Same F F')(E:Same H H'):∀{x:OT},Slo K F H v A x->Slo K F' H' v A x
 |.und,h=>h
 |.fz _,⟨a,u,e,r⟩=>⟨a,u,e,r.same S⟩
 |.l1 _,⟨a,xs,e,z,h,r⟩=>⟨a,xs,e,z,E _ _ h,r.same S⟩
 |.l2 _,⟨a,bs,e,z,n,h,l,r⟩=>⟨a,bs,e,z,n,E _ _ h,l,λi b ts e1 e2=>let⟨xs,q,r⟩:=r i b ts e1 e2;⟨xs,E _ _ q,r.same S⟩⟩
 |.d1 _ _,⟨a,xs,e,z,h,l,r⟩=>⟨a,xs,e,z,E _ _ h,l,r.same S⟩
 |.ob _ _ _ _ _,⟨xs,e,z,h,d,l,r⟩=>⟨xs,e,z,E _ _ h,E _ _ d,l,r.same S⟩
 |.la _ _,⟨xs,e,z,h,r⟩=>⟨xs,e,z,E _ _ h,r.same S⟩
theorem Slo.off{v:Option V}{A:Ψ} : ∀{x:OT},Slo K F H v A x->(∀b∈A,∀u,H b=some u->H' b=some u)->Slo K F H' v A x
 |.und,s,_=>s
 |.fz _,s,_=>s
 |.l1 _,⟨a,xs,e,z,w,r⟩,off=>⟨a,xs,e,z,off a (by rw[z];simp) _ w,r⟩
 |.l2 _,⟨a,bs,e,z,nd,w,l,r⟩,off=>⟨a,bs,e,z,nd,off a (by rw[z];simp) _ w,l,λi b ts e1 e2=>let⟨xs,q,r⟩:=r i b ts e1 e2;⟨xs,off b (by rw[z];exact aJ _ (aC e1)) _ q,r⟩⟩
 |.d1 _ _,⟨a,xs,e,z,w,r⟩,off=>⟨a,xs,e,z,off a (by rw[z];simp) _ w,r⟩
 |.ob a dx _ _ _,⟨xs,e,z,w,d,r⟩,off=>⟨xs,e,z,off a (by rw[z];simp) _ w,off dx (by rw[z];simp) _ d,r⟩
 |.la a _,⟨xs,e,z,w,r⟩,off=>⟨xs,e,z,off a (by rw[z];simp) _ w,r⟩
def Y7(H:Hp)(a:Addr):Prop:=∃o,H a=some o/\((∃xs,o=.lst xs)\/(∃k,o=.dK k)\/(∃C d f,o=.ins C d f)\/∃x,o=.own x)
theorem Slo.sole{v:Option V}{A:Ψ}{x:OT}(h:Slo K F H v A x){a:Addr}(ha:a∈A):Y7 H a:=by
 cases x with
 |und=>rw[show A=[]from h]at ha;cases ha
 |fz t=>rw[h.1]at ha;cases ha
 |l1 ts=>obtain⟨b,xs,_,rfl,e,_⟩:=h;cases YR.mp ha;exact⟨_,e,.inl ⟨_,rfl⟩⟩
 |l2 tss =>
  obtain⟨b,bs,_,rfl,_,e,l,r⟩:=h;rcases YU.mp ha with z|z
  .exact⟨_,z ▸ e,.inl ⟨_,rfl⟩⟩
  .obtain⟨i,hi⟩:=aV z;have li:i<tss.length:=l ▸ (ao.mp hi).1;obtain⟨xs,q,_⟩:=r i a _ hi (aj li);exact⟨_,q,.inl ⟨_,rfl⟩⟩
 |d1 ks ts=>obtain⟨b,xs,_,rfl,e,_⟩:=h;cases YR.mp ha;exact⟨_,e,.inr (.inl ⟨_,rfl⟩)⟩
 |ob b dx C ks ts =>
  obtain⟨xs,_,rfl,e,d,_⟩:=h;rcases YU.mp ha with z|z
  .exact⟨_,z ▸ e,.inr (.inr (.inl ⟨_,_,_,rfl⟩))⟩
  .cases YR.mp z;exact⟨_,d,.inr (.inr (.inr ⟨_,rfl⟩))⟩
 |la b ts=>obtain⟨xs,_,rfl,e,_⟩:=h;cases YR.mp ha;exact⟨_,e,.inl ⟨_,rfl⟩⟩
theorem Slo.frz{u:V}{A:Ψ}{x:OT}(h:Slo K F H (some u) A x)(S:Same F F')(E:∀a∈A,F' a=H a):Rep K F' u (frz x):=by
 cases x with
 |und=>exact .any _
 |fz t=>obtain⟨_,w,e,r⟩:=h;cases e;exact r.same S
 |l1 ts=>obtain⟨b,xs,e,rfl,q,r⟩:=h;cases e;exact .lst ((E _ (by simp)).trans q) (r.same S)
 |l2 tss =>
  obtain⟨b,bs,e,rfl,_,q,l,r⟩:=h;cases e;refine .lst ((E _ (by simp)).trans q) (bW.of_at (by simp[l]) λi x t e1 e2=>?_);rw[aq]at e1 e2;cases e3:bs[i]? with
  |none=>rw[e3]at e1;cases e1
  |some c =>
   cases e4:tss[i]? with
   |none=>rw[e4]at e2;cases e2
   |some ts =>
    rw[e3]at e1;rw[e4]at e2;cases e1;cases e2;obtain⟨xs,q,r⟩:=r i c ts e3 e4;exact .lst ((E _ (aJ _ (aC e3))).trans q) (r.same S)
 |d1 ks ts=>obtain⟨b,xs,e,rfl,q,l,r⟩:=h;cases e;exact .dct (.inl ((E _ (by simp)).trans q)) l (r.same S)
 |ob b dx C ks ts=>obtain⟨xs,e,rfl,q,d,l,r⟩:=h;cases e;exact .ins ((E _ (by simp)).trans q) ((E _ (by simp)).trans d) l (r.same S)
 |la b ts=>obtain⟨xs,e,rfl,q,r⟩:=h;cases e;exact .lst ((E _ (by simp)).trans q) (r.same S)
def Ow(own:Nat->Ψ)(b:Addr):Prop:=∃i,b∈own i
structure SR(K:Frag)(own:Nat->Ψ)(H:Hp)(σ:L2.St)(o:List OT):Prop where
 len:o.length=σ.length
 sl:∀i x,o[i]?=some x->Slo K (hd (Ow own) H) H (σ[i]?.join) (own i) x
 out:∀i,o.length<=i->∀a∈own i,∃xs,H a=some (.lst xs)
 dis:∀i j a,a∈own i->a∈own j->i=j
variable{own:Nat->Ψ}{σ:L2.St}{o:List OT}
theorem SR.same(h:SR K own H σ o)(E:Same H H'):SR K own H' σ o:=⟨h.len,λi x e=>(h.sl i x e).same (bV E) E,λi hi a ha=>let⟨xs,e⟩:=h.out i hi a ha;⟨xs,E _ _ e⟩,h.dis⟩
theorem SR.sole(h:SR K own H σ o){b:Addr}(z:Ow own b):Y7 H b:=by
 obtain⟨i,z⟩:=z;by_cases hi:i<o.length
 .exact(h.sl i _ (aj hi)).sole z
 .obtain⟨xs,e⟩:=h.out i (Nat.not_lt.mp hi) b z;exact⟨_,e,.inl ⟨_,rfl⟩⟩
theorem Y7.ne{a:Addr}(h:Y7 H a):H a≠none:=by
 obtain⟨o,e,_⟩:=h;rw[e];exact λz=>by cases z
def NR(K:Frag)(S:Addr->Prop)(H H':Hp)(v:V)(x:OT):Prop:=∃B,(∀a∈B,H a=none)/\Slo K (hd (λb=>S b\/b∈B) H') H' (some v) B x
theorem NR.rep{S:Addr->Prop}{v:V}{x:OT}(h:NR K S H H' v x)(hs:∀b,S b->H b≠none):Rep K (hd S H') v (L2.frz x):=by
 obtain⟨B,n,r⟩:=h;exact r.frz (g_ (λb z=>.inl (.inl z)) (λ_ _ z=>z)) λa ha=>cM λz=>hs a z (n a ha)
theorem NR.fz{S:Addr->Prop}{v:V}{t:T}(h:Rep K (hd S H') v t):NR K S H H' v (.fz t):=⟨[],λ_ z=>(nomatch z),rfl,v,rfl,h.same (g_ (λb z=>.inl (z.elim id λy=>(nomatch y))) λ_ _ z=>z)⟩
theorem NR.l1{S:Addr->Prop}{a:Addr}{xs:Ζ}{ts:List T}(n:H a=none)(e:H' a=some (.lst xs))(h:bW K (hd (λb=>S b\/b=a) H') xs ts):NR K S H H' (.ref a) (.l1 ts) :=
 ⟨[a],λ_ z=>(YR.mp z) ▸ n,a,xs,rfl,rfl,e,h.same (g_ (λb z=>.inl (z.imp id YR.mp)) λ_ _ z=>z)⟩
theorem NR.back{S:Addr->Prop}{H0:Hp}{v:V}{x:OT}(h:NR K S H H' v x)(E:Same H0 H):NR K S H0 H' v x:=by
 obtain⟨B,n,r⟩:=h;exact⟨B,λa ha=>E.free (n a ha),r⟩
noncomputable def own1(own:Nat->Ψ)(i:Nat)(B:Ψ):Nat->Ψ:=λj=>if j=i then B else own j
theorem iU{i:Nat}{B:Ψ} : own1 own i B i=B:=ZY rfl
theorem eY{i j:Nat}{B:Ψ}(h:j≠i):own1 own i B j=own j:=ZZ h
theorem Ow.of1{i:Nat}{B:Ψ}{b:Addr}(h:Ow (own1 own i B) b):Ow own b\/b∈B:=by
 obtain⟨j,h⟩:=h;by_cases z:j=i
 .rw[z,iU]at h;exact .inr h
 .rw[eY z]at h;exact .inl ⟨j,h⟩
theorem SR.put(h:SR K own H σ o)(E:Same H H'){v:V}{x:OT}(n:NR K (Ow own) H H' v x){i:Nat}(hi:i<o.length):∃own',SR K own' H' (σ.set i (some v)) (o.set i x)/\Same (hd (Ow own) H) (hd (Ow own') H'):=by
 obtain⟨B,nb,r⟩:=n;have le:Same (hd (Ow own) H) (hd (Ow (own1 own i B)) H'):=g_ (λb z=>z.of1.imp id (nb b)) E;refine⟨own1 own i B,⟨by rw[List.length_set,List.length_set,h.len],λj y e=>?_,λj hj=>?_,λj k a e1 e2=>?_⟩,le⟩
 .by_cases z:j=i
  .subst z;rw[List.getElem?_set_self hi]at e;cases e;rw[iU,List.getElem?_set_self (h.len ▸ hi)];exact r.same (g_ (λb z=>.inl z.of1) λ_ _ z=>z) λ_ _ z=>z
  .rw[List.getElem?_set_ne (Ne.symm z)]at e;rw[eY z,List.getElem?_set_ne (Ne.symm z)];exact(h.sl j y e).same le E
 .rw[List.length_set]at hj;rw[eY (by lia)];intro a ha;obtain⟨xs,e⟩:=h.out j hj a ha;exact⟨xs,E _ _ e⟩
 .by_cases z:j=i<;>by_cases y:k=i
  .rw[z,y]
  .rw[z,iU]at e1;rw[eY y]at e2;exact absurd (nb a e1) (h.sole ⟨k,e2⟩).ne
  .rw[y,iU]at e2;rw[eY z]at e1;exact absurd (nb a e2) (h.sole ⟨j,e1⟩).ne
  .rw[eY z]at e1;rw[eY y]at e2;exact h.dis j k a e1 e2
theorem SR.frz(h:SR K own H σ o){i:Nat}{x:OT}(e:o[i]?=some x){u:V}(hu:σ[i]?=some (some u)):∃own',SR K own' H σ (o.set i (.fz (L2.frz x)))/\Same (hd (Ow own) H) (hd (Ow own') H):=by
 have hi:i<o.length:=(ao.mp e).1;have le:Same (hd (Ow own) H) (hd (Ow (own1 own i [])) H):=g_ (λb z=>.inl (z.of1.elim id λy=>(nomatch y))) λ_ _ z=>z;have hs:=h.sl i x e;rw[hu]at hs;refine⟨own1 own i [],⟨by rw[List.length_set,h.len],λj y e'=>?_,λj hj=>?_,λj k a e1 e2=>?_⟩,le⟩
 .by_cases z:j=i
  .subst z;rw[List.getElem?_set_self hi]at e';cases e';rw[iU,hu];exact⟨rfl,u,rfl,Slo.frz hs le λa ha=>cM λz=>by
    obtain⟨k,z⟩:=z;by_cases y:k=j
    .rw[y,iU]at z;cases z
    .rw[eY y]at z;exact y (h.dis k j a z ha)⟩
  .rw[List.getElem?_set_ne (Ne.symm z)]at e';rw[eY z];exact(h.sl j y e').same le λ_ _ z=>z
 .rw[List.length_set]at hj;rw[eY (by lia)];exact h.out j hj
 .by_cases z:j=i
  .rw[z,iU]at e1;cases e1
  by_cases y:k=i
  .rw[y,iU]at e2;cases e2
  .rw[eY z]at e1;rw[eY y]at e2;exact h.dis j k a e1 e2
theorem SR.chg(h:SR K own H σ o){i:Nat}{x:OT}(e:o[i]?=some x){y:OT}(E:∀b u,b∉own i->H b=some u->H' b=some u)(r:Slo K (hd (Ow own) H') H' (σ[i]?.join) (own i) y):SR K own H' σ (o.set i y)/\Same (hd (Ow own) H) (hd (Ow own) H'):=by
 have hi:i<o.length:=(ao.mp e).1;have le:Same (hd (Ow own) H) (hd (Ow own) H'):=λb u z=>by
  obtain⟨n,z⟩:=cQ z;rw[cM n];exact E b u (λq=>n ⟨i,q⟩) z
 refine⟨⟨by rw[List.length_set,h.len],λj z e'=>?_,λj hj a ha=>?_,h.dis⟩,le⟩
 rotate_left
 .rw[List.length_set]at hj;obtain⟨xs,e2⟩:=h.out j hj a ha;exact⟨xs,E a _ (λz=>by have:=h.dis j i a ha z;lia) e2⟩
 by_cases q:j=i
 .subst q;rw[List.getElem?_set_self hi]at e';cases e';exact r
 .rw[List.getElem?_set_ne (Ne.symm q)]at e';exact((h.sl j z e').same le λ_ _ z=>z).off λb hb u=>E b u λz=>q (h.dis j i b hb z)
theorem SR.get(h:SR K own H σ o){i:Nat}{t:T}(e:o[i]?=some (.fz t)):∃u,σ[i]?=some (some u)/\Rep K (hd (Ow own) H) u t:=by
 obtain⟨_,u,q,r⟩:=h.sl i _ e;refine⟨u,?_,r⟩;cases z:σ[i]? with
 |none=>rw[z]at q;cases q
 |some w=>rw[z]at q;exact ZH some q
end
end L2
namespace L2
open PySem PySem.Spec PyProof.Rows
abbrev RE:=List OT->(OT->Prop)->Prop
abbrev RT:=List OT->(Bool->Prop)->Prop
abbrev RA:=List OT->(List T->Prop)->Prop
def tQ(K:Frag)(r:RE):TE:=λσ H Q=>∃own o R,SR K own H σ o/\r o R/\∀H' v x,R x->Same H H'->NR K (Ow own) H H' v x->Q v H'
def tQT(K:Frag)(r:RT):TT:=λσ H Q=>∃own o R,SR K own H σ o/\r o R/\∀H' b,R b->Same H H'->Q b H'
def tQA(K:Frag)(n:Nat)(r:RA):TA:=λσ H Q=>∃own o R,SR K own H σ o/\r o R/\∀H' vs ts,R ts->ts.length=n->Same H H'->bW K (hd (Ow own) H') vs ts->Q vs H'
def QE(X:Cx)(e:Expr)(r:RE):Prop:=PE X e (tQ X.K r)
def QT(X:Cx)(e:Expr)(r:RT):Prop:=PT X e (tQT X.K r)
def QW(X:Cx)(e:Expr)(r:RT):Prop:=PW X e (tQT X.K r)
def QA(X:Cx)(es:List Expr)(r:RA):Prop:=PA X es (tQA X.K es.length r)
theorem PT.imp{X:Cx}{e:Expr}{t t':TT}(h:PT X e t)(i:∀σ H Q,t' σ H Q->t σ H Q):PT X e t':=λpins s σ H Q I q=>h pins s σ H Q I (i σ H Q q)
theorem PW.imp{X:Cx}{e:Expr}{t t':TT}(h:PW X e t)(i:∀σ H Q,t' σ H Q->t σ H Q):PW X e t':=λwh pins s σ H Q I q=>h wh pins s σ H Q I (i σ H Q q)
theorem PA.imp{X:Cx}{es:List Expr}{t t':TA}(h:PA X es t)(i:∀σ H Q,t' σ H Q->t σ H Q):PA X es t':=λp pins s σ H Q I q=>h p pins s σ H Q I (i σ H Q q)
section
variable{K:Frag}{own:Nat->Ψ}{H:Hp}{σ:L2.St}{o:List OT}
theorem tQ.mk{r:RE}{R:OT->Prop}{Q:VK}(h:SR K own H σ o)(hr:r o R)(k:∀H' v x,R x->Same H H'->Rep K (hd (Ow own) H') v (frz x)->Q v H'):tQ K r σ H Q :=
 ⟨own,o,R,h,hr,λH' v x rx E n=>k H' v x rx E (n.rep λb z=>(h.sole z).ne)⟩
noncomputable def slot:List OT->Nat->OT
 |[],_=>.und
 |x::_,0=>x
 |_::l,n+1=>slot l n
theorem gH:∀{o:List OT}{i:Nat}{x:OT},slot o i=x->x≠.und->o[i]?=some x
 |[],_,_,e,n=>absurd e.symm n
 |_::_,0,_,e,_=>ZH some e
 |_::l,i+1,x,e,n=>by simpa using gH (o:=l) (i:=i) e n
end
def adB(i:Nat):RE:=λo q=>match slot o i with|.fz t=>q (.fz t)|_=>False
def rC(t:T):RE:=λ_ q=>q (.fz t)
def rOp(g:T->T->(OT->Prop)->Prop)(a b:RE):RE:=λo q=>a o λx=>b o λy=>g (frz x) (frz y) q
def rUn(g:T->(OT->Prop)->Prop)(a:RE):RE:=λo q=>a o λx=>g (frz x) q
def sw(b:Bool)(p q:Prop):Prop:=match b with|true=>p|false=>q
theorem sw2{b:Bool}{p q:Prop}(h1:b=true->p)(h2:b=false->q):sw b p q:=by
 cases b
 .exact h2 rfl
 .exact h1 rfl
theorem swD{c:Prop}[Decidable c]{p q:Prop}(h1:c->p)(h2:¬c->q):sw (decide c) p q:=sw2 (λe=>h1 (of_decide_eq_true e)) λe=>h2 (of_decide_eq_false e)
theorem swT{b:Bool}{p q:Prop}(e:b=true)(h:p):sw b p q:=by subst e;exact h
theorem swF{b:Bool}{p q:Prop}(e:b=false)(h:q):sw b p q:=by subst e;exact h
section
variable{X:Cx}{a b c:Expr}{ra rb rc:RE}{pos:Pos}
theorem qv(i:Nat){x:Str}{pos:Pos}(hN:X.N[i]?=some x:=by rfl)(hv:qN X.env.scope x=true:=by rfl)(hd:(x==("__debug__":Str))=false:=by decide)
 (hcd:(x==("__classdict__":Str))=false:=by decide):QE X (.Name x pos) (adB i):=(pv i hN hv hd hcd).imp λσ H Q hP=>by
 obtain⟨own,o,R,h,hr,k⟩:=hP;unfold adB at hr;cases e:slot o i with
 |fz t =>
  rw[e]at hr;obtain⟨u,q,r⟩:=h.get (gH e (by intro z;cases z));exact⟨u,q,k H u _ hr (.refl _) (NR.fz r)⟩
 |_=>rw[e]at hr;exact hr.elim
theorem qC{e:Expr}{v:V}{t:T}(h:PE X e (tC v))(r:∀F,Rep X.K F v t):QE X e (rC t):=h.imp λσ H Q hP=>by obtain⟨own,o,R,_,hr,k⟩:=hP;exact k H v _ hr (.refl _) (NR.fz (r _))
theorem bA{i j pos} : QE X (.Constant (.int i) j pos) (rC (.int i)):=qC adv λ_=>.int _
theorem pI{b j pos} : QE X (.Constant (.bool b) j pos) (rC (.bl b)):=qC afs λ_=>.bl _
theorem jy{j pos} : QE X (.Constant .none j pos) (rC .non):=qC aeB λ_=>.non
theorem tD{x j pos} : QE X (.Constant (.str x) j pos) (rC (.str x)):=qC adu λ_=>.str _
theorem X4{x:Str}{v:V}{t:T}{pos:Pos}(hg:Gl X x)(hm:∃u,X.mg x=some u/\RelV v u)(r:∀F,Rep X.K F v t)(hd:(x==("__debug__":Str))=false:=by decide):QE X (.Name x pos) (rC t):=qC (Xb hg hm hd) r
def GO(X:Cx)(f:Value->Value->Sem Value)(g:T->T->(OT->Prop)->Prop):Prop:=OpR X f λx y H Q=>∃S t u R,(∀b,S b->H b≠none)/\Rep X.K (hd S H) x t/\Rep X.K (hd S H) y u/\g t u R/\∀H' v z,R z->Same H H'->NR X.K S H H' v z->Q v H'
theorem q2{g:T->T->(OT->Prop)->Prop}{σ:L2.St}{H:Hp}{Q:VK}(h:tQ X.K (rOp g ra rb) σ H Q):tOp (λx y H Q=>∃S t u R,(∀b,S b->H b≠none)/\Rep X.K (hd S H) x t/\Rep X.K (hd S H) y u/\g t u R/\∀H' v z,R z->Same H H'->NR X.K S H H' v z->Q v H') (tQ X.K ra) (tQ X.K rb) σ H Q:=by
 obtain⟨own,o,R,h,hr,k⟩:=h;exact tQ.mk h hr λH1 v x q E1 r1=>tQ.mk (h.same E1) q λH2 w y q2 E2 r2=>⟨Ow own,_,_,R,λb z=>((h.same (E1.trans E2)).sole z).ne,r1.same (bV E2),r2,q2,λH' u z rz E3 n=>k H' u z rz (E1.trans (E2.trans E3)) (n.back (E1.trans E2))⟩
theorem bL{op:Operator}{g:T->T->(OT->Prop)->Prop}(ho:GO X (binaryOp op) g)(ha:QE X a ra)(hb:QE X b rb):QE X (.BinOp a op b pos) (rOp g ra rb):=(ahw ho ha hb).imp λ_ _ _=>q2
theorem oV{op:CmpOp}{g:T->T->(OT->Prop)->Prop}(ho:GO X (compareOp op) g)(ha:QE X a ra)(hb:QE X b rb)(hm:behindInMarks op b=false:=by exact Yy _):QE X (.Compare a [op] [b] pos) (rOp g ra rb):=(aaM ho ha hb hm).imp λ_ _ _=>q2
def gI(g:Int->Int->OT):T->T->(OT->Prop)->Prop
 |.int i,.int j,q=>q (g i j)
 |_,_,_=>False
theorem GO.ints{f:Value->Value->Sem Value}{g:Int->Int->V}{t:Int->Int->T}(h:OpR X f (rI0 g))(r:∀i j F,Rep X.K F (g i j) (t i j)):GO X f (gI λi j=>.fz (t i j)):=h.imp λx y H Q hP=>by
 obtain⟨S,t,u,R,_,hx,hy,hg,k⟩:=hP;cases hx<;>try exact hg.elim
 cases hy<;>try exact hg.elim
 exact⟨_,_,rfl,rfl,k H _ _ hg (.refl _) (NR.fz (r _ _ _))⟩
theorem qY:GO X (binaryOp .Sub) (gI λi j=>.fz (.int (i-j))):=.ints aed λ_ _ _=>.int _
theorem vQ:GO X (compareOp .Lt) (gI λi j=>.fz (.bl (decide (i<j)))):=.ints ahT λ_ _ _=>.bl _
theorem N7:GO X (compareOp .LtE) (gI λi j=>.fz (.bl (decide (i<=j)))):=.ints afO λ_ _ _=>.bl _
theorem Jy:GO X (compareOp .Gt) (gI λi j=>.fz (.bl (decide (j<i)))):=.ints ahP λ_ _ _=>.bl _
theorem ace:GO X (compareOp .GtE) (gI λi j=>.fz (.bl (decide (j<=i)))):=.ints ahO λ_ _ _=>.bl _
def alB:T->T->(OT->Prop)->Prop
 |.int i,.int j,q=>q (.fz (.int (i+j)))
 |.str a,.str b,q=>a.length+b.length<=sizeLine/\q (.fz (.str (a++b)))
 |.lst a,.lst b,q=>a.length+b.length<=sizeLine/\q (.l1 (a++b))
 |_,_,_=>False
theorem yu{S:Addr->Prop}{H H':Hp}{p:Addr}{xs:Ζ}{ts:List T}(r:bW X.K (hd S H) xs ts)(E:Same H H')(n:H p=none)(e:H' p=some (.lst xs)):NR X.K S H H' (.ref p) (.l1 ts) :=
 NR.l1 n e (r.same (g_ (λb z=>z.imp id λ(y:b=p)=>y ▸ n) E))
theorem cN:GO X (binaryOp .Add) alB:=λpins s σ H x y v u Q I rx ry hP=>by
 obtain⟨S,t,w,R,_,hx,hy,hg,k⟩:=hP;cases t<;>try exact hg.elim
 .cases hx;cases w<;>try exact hg.elim
  cases hy;exact afc pins s σ H _ _ v u Q I rx ry ⟨_,_,rfl,rfl,k H _ _ hg (.refl _) (NR.fz (.int _))⟩
 .cases hx;cases w<;>try exact hg.elim
  cases hy;exact aa8 pins s σ H _ _ v u Q I rx ry ⟨_,_,rfl,rfl,hg.1,k H _ _ hg.2 (.refl _) (NR.fz (.str _))⟩
 .cases w<;>try exact hg.elim
  obtain⟨a,xs,rfl,e1,r1⟩:=hx.lstI;obtain⟨b,ys,rfl,e2,r2⟩:=hy.lstI;exact aao pins s σ H _ _ v u Q I rx ry ⟨a,b,xs,ys,rfl,rfl,(cQ e1).2,(cQ e2).2,by rw[r1.len,r2.len];exact hg.1,λp H' E n e=>k H' _ _ hg.2 E (yu (r1.app r2) E n e)⟩
def ale:T->T->(OT->Prop)->Prop
 |.int i,.int j,q=>(Bd i/\Bd j)/\q (.fz (.int (i*j)))
 |.lst a,.int j,q=>(-(2^63)<=j/\j<2^63/\a.length*j.toNat<=sizeLine)/\∀z,z=(List.replicate j.toNat a).flatten->q (.l1 z)
 |.str a,.int j,q=>(∃c,a=⟨#[c]⟩/\1<=j/\j<=1000/\∀z:Str,z.cps.toList=List.replicate j.toNat c->q (.fz (.str z)))
 |_,_,_=>False
def ak9:T->T->(OT->Prop)->Prop
 |.int i,.int j,q=>(j≠0/\Bd j)/\q (.fz (.int (i.fdiv j)))
 |_,_,_=>False
def akD:T->T->(OT->Prop)->Prop
 |.int i,.int j,q=>0<j/\q (.fz (.int (i%j)))
 |_,_,_=>False
def aj9:T->T->(OT->Prop)->Prop
 |.int i,.int j,q=>af6 i j/\q (.fz (.int (i^j.toNat)))
 |_,_,_=>False
theorem lD:GO X (binaryOp .FloorDiv) ak9:=Ys.imp λx y H Q hP=>by
 obtain⟨S,t,u,R,_,hx,hy,hg,k⟩:=hP;cases hx<;>try exact hg.elim
 cases hy<;>try exact hg.elim
 exact⟨_,_,rfl,rfl,hg.1,k H _ _ hg.2 (.refl _) (NR.fz (.int _))⟩
theorem cA:GO X (binaryOp .Mod) akD:=aei.imp λx y H Q hP=>by
 obtain⟨S,t,u,R,_,hx,hy,hg,k⟩:=hP;cases hx<;>try exact hg.elim
 cases hy<;>try exact hg.elim
 exact⟨_,_,rfl,rfl,hg.1,k H _ _ hg.2 (.refl _) (NR.fz (.int _))⟩
theorem R4:GO X (binaryOp .Pow) aj9:=adD.imp λx y H Q hP=>by
 obtain⟨S,t,u,R,_,hx,hy,hg,k⟩:=hP;cases hx<;>try exact hg.elim
 cases hy<;>try exact hg.elim
 exact⟨_,_,rfl,rfl,hg.1,k H _ _ hg.2 (.refl _) (NR.fz (.int _))⟩
def alo:T->(OT->Prop)->Prop
 |.int i,q=>q (.fz (.int (-i)))
 |_,_=>False
theorem FJ(ha:QE X a ra):QE X (.UnaryOp .USub a pos) (rUn alo ra):=(aj3 aem ha).imp λσ H Q ⟨own,o,R,h,hr,k⟩=>tQ.mk h hr λH1 v x q E1 r1=>by
 revert r1 q
 generalize frz x=t;intro q r1;cases r1<;>try exact q.elim
 exact⟨_,rfl,k _ _ _ q E1 (NR.fz (.int _))⟩
noncomputable def U5:T->Option Bool
 |.non=>some true
 |.any=>none
 |.val v=>some (decide (v=.non))
 |_=>some false
def gIs(neg:Bool):T->T->(OT->Prop)->Prop:=λt u q=>match u,U5 t with
 |.non,some b=>q (.fz (.bl (xor neg b)))
 |_,_=>False
theorem Pn{F:Hp}{K:Frag}{x:V}{t:T}{b:Bool}(h:Rep K F x t)(e:U5 t=some b):decide (x=.non)=b:=by
 cases h<;>cases e<;>first|rfl|(apply Zp;intro z;cases z)
theorem G5:GO X (compareOp .Is) (gIs false):=adn.imp λx y H Q hP=>by
 obtain⟨S,t,u,R,_,hx,hy,hg,k⟩:=hP;cases hy<;>try exact hg.elim
 unfold gIs at hg;cases e:U5 t with
 |none=>rw[e]at hg;exact hg.elim
 |some b=>rw[e]at hg;exact⟨rfl,k H _ _ hg (.refl _) (NR.fz (by rw[Pn hx e,Bool.false_xor];exact .bl _))⟩
theorem LC:GO X (compareOp .IsNot) (gIs true):=abm.imp λx y H Q hP=>by
 obtain⟨S,t,u,R,_,hx,hy,hg,k⟩:=hP;cases hy<;>try exact hg.elim
 unfold gIs at hg;cases e:U5 t with
 |none=>rw[e]at hg;exact hg.elim
 |some b=>rw[e]at hg;exact⟨rfl,k H _ _ hg (.refl _) (NR.fz (by rw[Pn hx e,Bool.true_xor];exact .bl _))⟩
end
structure Hid(H:Hp)(S:Addr->Prop):Prop where
 sole:∀b,S b->Y7 H b
 ins:∀a C dx fs,S a->H a=some (.ins C dx fs)->S dx
 own:∀b x,S b->H b=some (.own x)->S x
theorem SR.mate{K:Frag}{own:Nat->Ψ}{H:Hp}{σ:L2.St}{o:List OT}(h:SR K own H σ o){j:Nat}{b:Addr}(hb:b∈own j):(∀C d f,H b=some (.ins C d f)->d∈own j)/\∀x,H b=some (.own x)->x∈own j:=by
 have nl:∀{xs:Ζ},H b=some (.lst xs)->(∀C d f,H b=some (.ins C d f)->d∈own j)/\∀x,H b=some (.own x)->x∈own j:=λq=>⟨(λ_ _ _ e=>by rw[q]at e;cases e),(λ_ e=>by rw[q]at e;cases e)⟩;by_cases hj:j<o.length
 .have s:=h.sl j _ (aj hj);cases y:o[j]with
  |und=>rw[y]at s;rw[show own j=[]from s]at hb;cases hb
  |fz t=>rw[y]at s;rw[s.1]at hb;cases hb
  |l1 ts=>rw[y]at s;obtain⟨c,xs,_,w,q,_⟩:=s;rw[w]at hb;cases YR.mp hb;exact nl q
  |l2 tss =>
   rw[y]at s;obtain⟨c,bs,_,w1,_,q1,l,r⟩:=s;rw[w1]at hb;rcases YU.mp hb with z|z
   .exact nl (z ▸ q1)
   .obtain⟨i,hi⟩:=aV z;obtain⟨xs,q2,_⟩:=r i b _ hi (aj (l ▸ (ao.mp hi).1));exact nl q2
  |d1 ks ts=>rw[y]at s;obtain⟨c,xs,_,w,q,_⟩:=s;rw[w]at hb;cases YR.mp hb;exact⟨(λ_ _ _ e=>by rw[q]at e;cases e),(λ_ e=>by rw[q]at e;cases e)⟩
  |la c ts=>rw[y]at s;obtain⟨xs,_,w,q,_⟩:=s;rw[w]at hb;cases YR.mp hb;exact nl q
  |ob c d C' ks ts =>
   rw[y]at s;obtain⟨xs,_,w,q,q2,_⟩:=s;rw[w]at hb ⊢;rcases YU.mp hb with z|z
   .refine⟨λ_ _ _ e=>?_,λ_ e=>?_⟩
    .rw[z,q]at e;cases e;simp
    .rw[z,q]at e;cases e
   .cases YR.mp z;refine⟨λ_ _ _ e=>?_,λ_ e=>?_⟩
    .rw[q2]at e;cases e
    .rw[q2]at e;cases e;simp
 .obtain⟨xs,q⟩:=h.out j (Nat.not_lt.mp hj) b hb;exact nl q
theorem SR.hid{K:Frag}{own:Nat->Ψ}{H:Hp}{σ:L2.St}{o:List OT}(h:SR K own H σ o):Hid H (Ow own) :=
 ⟨λb z=>h.sole z,λa C dx fs ⟨j,z⟩ e=>⟨j,(h.mate z).1 C dx fs e⟩,λb x ⟨j,z⟩ e=>⟨j,(h.mate z).2 x e⟩⟩
noncomputable def mrg(S:Addr->Prop)(H G:Hp):Hp:=λb=>open Classical in if S b then H b else G b
theorem uL{S:Addr->Prop}{H G:Hp}{b:Addr}(h:S b):mrg S H G b=H b:=by unfold mrg;rw[ZY h]
theorem jO{S:Addr->Prop}{H G:Hp}{b:Addr}(h:¬S b):mrg S H G b=G b:=by unfold mrg;rw[ZZ h]
def spH(sp:Sp):Sp:=λvs H Q _=>∃S:Addr->Prop,Hid H S/\sp vs (hd S H) (λv G=>(∀b,S b->G b=none)->Q v (mrg S H G)) λ_ _ _=>False
section
variable{P:Program}{w:World}{K:Frag}{mg:Str->Ω}{base:Heap}
theorem b_.hid{k:Nat}{f:Addr}{fd:FuncData}{ps:Φ}{sp:Sp}(F:b_ P w K mg base CX0 k f fd ps sp):b_ P w K mg base CX0 k f fd ps (spH sp):=by
 refine⟨λvs H Q E h=>?_,λA outer s H args us vs Q E hr e0 hb r h=>?_⟩
 .obtain⟨S,_,z⟩:=h;exact F.len vs _ _ _ z
 obtain⟨S,hS,z⟩:=h;have non:∀{b:Addr},H b=none->hd S H b=none:=λ{b}e=>by
  by_cases z:S b
  .exact pH z
  .rw[cM z];exact e
 have notup:∀{b:Addr}{u:HO},S b->H b=some u->(∀xs,u≠.tup xs)/\(∀o v,u≠.frz o v)/\∀ps,u≠.tbl ps:=λ{b u}z e=>by
  obtain⟨o,q,w⟩:=hS.sole b z;rw[e]at q;cases q;rcases w with⟨_,rfl⟩|⟨_,rfl⟩|⟨_,_,_,rfl⟩|⟨_,rfl⟩<;>exact⟨λ_ z=>(nomatch z),λ_ _ z=>(nomatch z),λ_ z=>(nomatch z)⟩
 have e1:N5 P w K mg base A outer s (hd S H):=⟨e0.frames,e0.mod,λb o e=>⟨(e0.bs b o e).1,non (e0.bs b o e).2⟩,e0.bsz,e0.funs,λb hb=>non (e0.frf b hb),λb u e=>by
  obtain⟨nb,e'⟩:=cQ e;refine(e0.hok b u e').stay (λ_ _ _ z=>z) (λd z=>?_) λd xs z=>?_
  .rw[cM λy=>nb (hS.own d b y z)];exact z
  .rw[cM λy=>(notup y z).1 xs rfl];exact z,e0.bare⟩
 refine codeAny_mono (F.run A outer s (hd S H) args us vs _ _ hr e1 hb r z) λres s' hs=>?_;cases res with
 |error e=>exact hs.elim
 |ok fl =>
  cases fl with
  |next=>exact False.elim hs
  |brk=>exact False.elim hs
  |cont=>exact False.elim hs
  |ret u =>
   obtain⟨v,G,os,bare,un,hok,rv,q⟩:=hs;have there:∀{b:Addr},S b->∃o,s.heap.get? b=some o:=λ{b}y=>by
    obtain⟨u,e,w⟩:=hS.sole b y;have x:=e0.hok b u e;rcases w with⟨xs,rfl⟩|⟨kk,rfl⟩|⟨C,d,f,rfl⟩|⟨y,rfl⟩
    .obtain⟨_,_,_,_,e2⟩:=x;exact⟨_,e2⟩
    .obtain⟨_,_,_,_,_,_,_,e2,_⟩:=x;exact⟨_,e2⟩
    .obtain⟨_,_,_,e2,_⟩:=x;exact⟨_,e2⟩
    .exact x
   have keep:∀{b:Addr}{o:Obj},S b->s.heap.get? b=some o->s'.heap.get? b=some o:=λ{b o}y e=>un.keep b o e (pH y) (λz=>(hS.sole b y).ne (e0.frf b z)) (by simp);have gone:∀b,S b->G b=none:=λb y=>by
    obtain⟨o,ho⟩:=there y;exact un.free b o ho (pH y) (by simp)
   have no':∀{b:Addr}{u:HO},G b=some u->¬S b:=λe z=>by rw[gone _ z]at e;cases e
   have at':∀{b:Addr}{u:HO},G b=some u->mrg S H G b=some u:=λe=>(jO (no' e)).trans e;refine⟨v,mrg S H G,os,bare,⟨λb o e n=>un.keep b o e (non n),λb o e n=>un.slot b o e (non n),λb o e n z=>?_,un.there,λb xs e=>?_,λb o u e=>?_,λb ps e=>?_⟩,λb u e=>?_,rv,q gone⟩
   .rw[jO λy=>(hS.sole b y).ne n];exact un.free b o e (non n) z
   .have n:¬S b:=λy=>(notup y e).1 xs rfl;exact at' (un.tups b xs ((cM n).trans e))
   .have n:¬S b:=λy=>(notup y e).2.1 o u rfl;exact at' (un.frzs b o u ((cM n).trans e))
   .have n:¬S b:=λy=>(notup y e).2.2 ps rfl;obtain⟨more,this⟩:=un.tbls b ps ((cM n).trans e);exact⟨more,at' this⟩
   .by_cases z:S b
    .rw[uL z]at e;have x:=e0.hok b u e;obtain⟨u',e',w⟩:=hS.sole b z;rw[e]at e';cases e';rcases w with⟨xs,rfl⟩|⟨kk,rfl⟩|⟨C,d,f,rfl⟩|⟨y,rfl⟩
     .obtain⟨z1,its,n,r,e2⟩:=x;exact⟨z1,its,n,r,keep z e2⟩
     .obtain⟨z1,y,vs,r,ob,es,ep,e2,c⟩:=x;exact⟨z1,y,vs,r,ob,es,ep,keep z e2,c⟩
     .obtain⟨d1,z1,ne,e2,mA,⟨od,es,ep,e3,c⟩,r⟩:=x;have sd:=hS.ins b C d f z e;exact⟨(uL sd).trans d1,z1,ne,keep z e2,mA,⟨od,es,ep,keep sd e3,c⟩,r⟩
     .obtain⟨ob,e2⟩:=x;exact⟨ob,keep z e2⟩
    .rw[jO z]at e;exact(hok b u e).stay (λ_ _ _ z=>z) (λd z=>at' z) λd xs z=>at' z
abbrev ST:=List T->(OT->Prop)->Prop
def spT(K:Frag)(S:ST):Sp:=λvs H Q _=>∃ts R,bW K H vs ts/\S ts R/\∀H' v x,R x->Same H H'->NR K (λ_=>False) H H' v x->Q v H'
abbrev OkT(P:Program)(w:World)(K:Frag)(mg:Str->Ω)(base:Heap)(k:Nat)(x:Str)(ps:Φ)(S:ST):Prop:=OkF P w K mg base k x ps (spT K S)
end
section
variable{X:Cx}
def aeF:RA:=λ_ q=>q []
def acj(a:RE)(r:RA):RA:=λo q=>a o λx=>r o λts=>q (frz x::ts)
theorem bC:QA X [] aeF:=NQ.imp λσ H Q hP=>by obtain⟨own,o,R,h,hr,k⟩:=hP;exact k H [] [] hr rfl (.refl _) .nil
theorem tQA.mk{K:Frag}{own:Nat->Ψ}{H:Hp}{σ:L2.St}{o:List OT}{r:RA}{R:List T->Prop}{Q:Ζ->Hp->Prop}(h:SR K own H σ o)(hr:r o R){n:Nat}(k:∀H' vs ts,R ts->ts.length=n->Same H H'->bW K (hd (Ow own) H') vs ts->Q vs H'):tQA K n r σ H Q:=⟨own,o,R,h,hr,k⟩
theorem bx{e:Expr}{es:List Expr}{a:RE}{r:RA}(ha:QE X e a)(hr:QA X es r)(hs:starEach (e::es) X.env=(false,eval e X.env)::starEach es X.env:=by rfl):QA X (e::es) (acj a r):=(nF ha hr hs).imp λσ H Q ⟨own,o,R,h,hr,k⟩ =>
 tQ.mk h hr λH1 v x q E1 r1=>tQA.mk (h.same E1) q λH2 vs ts q2 ln E2 r2=>k H2 (v::vs) (frz x::ts) q2 (ZH (· + 1) ln) (E1.trans E2) (.cons (r1.same (bV E2)) r2)
def WQ(S:ST)(r:RA):RE:=λo q=>r o λts=>S ts q
theorem bI{p pos:Pos}{e:Expr}{es:List Expr}{r:RA}{x:Str}{k:Nat}{ps:Φ}{S:ST}(G:OkT X.prog X.w X.K X.mg X.base k x ps S)(hr:eX k X.A)(hg:Gl X x)(ha:QA X (e::es) r)(hdb:(x==("__debug__":Str))=false:=by decide)
 (he:starEach (e::es) X.env=(false,eval e X.env)::starEach es X.env:=by rfl)(hpl:(backTo pos (starEach es X.env)).any (·.1)=false:=by rfl):QE X (.Call (.Name x p) (e::es) [] pos) (WQ S r):=by
 obtain⟨f,fd,F,b,hm,kp⟩:=G;refine(Gv (sp:=spH (spT X.K S)) ⟨f,fd,F.hid,b,hm,kp⟩ hr hg ha hdb he hpl).imp λσ H Q ⟨own,o,R,h,hr,k⟩=>tQA.mk h hr λH1 vs ts q _ E1 r1=>?_;have h1:=h.same E1;refine⟨Ow own,h1.hid,ts,R,r1,q,λG v x rx E n gone=>?_⟩;have EH:Same H1 (mrg (Ow own) H1 G):=λb u e=>by
  by_cases z:Ow own b
  .rw[uL z];exact e
  .rw[jO z];exact E b u ((cM z).trans e)
 have EG:Same G (mrg (Ow own) H1 G):=λb u e=>by rw[jO λz=>by rw[gone b z]at e;cases e];exact e
 refine k _ v x rx (E1.trans EH) (NR.back (H:=H1) ?_ E1);obtain⟨B,nb,s⟩:=n;have out:∀a∈B,¬Ow own a:=λa ha z=>(s.sole ha).ne (gone a z);refine⟨B,λa ha=>by have:=nb a ha;rwa[cM (out a ha)]at this,s.same (g_ (λb z=>?_) EG) EG⟩;rcases z with z|z
 .exact .inr (gone b z)
 .exact .inl (.inr z)
end
def rB(a:RE):RT:=λo q=>a o λx=>match frz x with|.bl b=>q b|_=>False
def tru:T->(Bool->Prop)->Prop
 |.bl b,q=>q b
 |.int i,q=>q (i != 0)
 |.non,q=>q false
 |.lst ts,q=>q (!ts.isEmpty)
 |.tup ts,q=>q (!ts.isEmpty)
 |_,_=>False
def alT(a:RE):RT:=λo q=>a o λx=>tru (frz x) q
def ac0(a b:RT):RT:=λo q=>a o λc=>sw c (b o q) (q false)
def rOr(a b:RT):RT:=λo q=>a o λc=>sw c (q true) (b o q)
def alM(a:RT):RT:=λo q=>a o λc=>q (!c)
def ajg(a b:RE):RE:=λo q=>a o λx=>match frz x with|.bl c=>sw c (b o q) (q (.fz (.bl false)))|_=>False
def ajP(a:RE):RE:=λo q=>a o λx=>match frz x with|.bl c=>q (.fz (.bl (!c)))|_=>False
def rIf(c:RT)(a b:RE):RE:=λo q=>c o λk=>sw k (a o q) (b o q)
theorem tQT.mk{K:Frag}{own:Nat->Ψ}{H:Hp}{σ:L2.St}{o:List OT}{r:RT}{R:Bool->Prop}{Q:Bool->Hp->Prop}(h:SR K own H σ o)(hr:r o R)(k:∀H' b,R b->Same H H'->Q b H'):tQT K r σ H Q:=⟨own,o,R,h,hr,k⟩
theorem Rep.isEmpty{K:Frag}{F:Hp}{xs:Ζ}{ts:List T}(h:bW K F xs ts):xs.isEmpty=ts.isEmpty:=by cases h<;>rfl
theorem Fy{c:Bool}{p q p' q':Prop}(h:sw c p q)(i:p->p')(j:q->q'):if c=true then p' else q':=by
 cases c
 .exact akg (j h)
 .exact alW (i h)
section
variable{X:Cx}{a b c:Expr}{ra rb rc:RE}{qa qb qc:RT}{pos:Pos}{rest:List Expr}
theorem bZ{op:CmpOp}{g:T->T->(OT->Prop)->Prop}(ho:GO X (compareOp op) g)(ha:QE X a ra)(hb:QE X b rb)(hm:behindInMarks op b=false:=by exact Yy _):QT X (.Compare a [op] [b] pos) (rB (rOp g ra rb)) :=
 (aan ho ha hb hm).imp λσ H Q ⟨own,o,R,h,hr,k⟩=>q2 (ra:=ra) (rb:=rb) (tQ.mk h hr λH1 v x q E1 r1=>by
  revert r1 q
  generalize frz x=t;intro q r1;cases r1<;>try exact q.elim
  exact⟨_,rfl,k _ _ q E1⟩)
theorem cT(ha:QE X a ra)(he:∀whole,isTrue a X.env whole=(do let v <- whole;standAt a.pos;holding [v] (truthy v)):=by exact λ_=>rfl):QT X a (alT ra):=(Yw ha he).imp λσ H Q ⟨own,o,R,h,hr,k⟩=>tQ.mk h hr λH1 v x q E1 r1=>by
 revert r1 q
 generalize frz x=t;intro q r1;cases t<;>try exact q.elim
 .cases r1;exact⟨false,rfl,k _ _ q E1⟩
 .cases r1;exact⟨_,rfl,k _ _ q E1⟩
 .cases r1;exact⟨_,rfl,k _ _ q E1⟩
 .obtain⟨p,xs,rfl,e,r⟩:=r1.tupI;exact⟨_,.inr (.inl ⟨xs,c7.tup e,rfl⟩),by rw[Rep.isEmpty r];exact k _ _ q E1⟩
 .obtain⟨p,xs,rfl,e,r⟩:=r1.lstI;exact⟨_,.inl ⟨xs,.of (cQ e).2,rfl⟩,by rw[Rep.isEmpty r];exact k _ _ q E1⟩
theorem dO(ha:QT X a qa):QT X (.UnaryOp .Not a pos) (alM qa):=(adR ha).imp λσ H Q hP=>by obtain⟨own,o,R,h,hr,k⟩:=hP;exact tQT.mk h hr λH1 b q E1=>k H1 _ q E1
theorem Fd(ha:QT X a qa):QW X (.BoolOp .And [a] pos) qa:=pw_and1 ha
theorem fW(ha:QT X a qa):QW X (.BoolOp .Or [a] pos) qa:=pw_or1 ha
theorem NT(ha:QT X a qa)(hb:QW X (.BoolOp .And (b::rest) pos) qb):QW X (.BoolOp .And (a::b::rest) pos) (ac0 qa qb):=(pw_and ha hb).imp λσ H Q hP=>by obtain⟨own,o,R,h,hr,k⟩:=hP;exact tQT.mk h hr λH1 c q E1=>Fy q (λq=>tQT.mk (h.same E1) q λH2 d q E2=>k H2 d q (E1.trans E2)) λq=>k H1 _ q E1
theorem iM(ha:QT X a qa)(hb:QW X (.BoolOp .Or (b::rest) pos) qb):QW X (.BoolOp .Or (a::b::rest) pos) (rOr qa qb):=(pw_or ha hb).imp λσ H Q hP=>by obtain⟨own,o,R,h,hr,k⟩:=hP;exact tQT.mk h hr λH1 c q E1=>Fy q (λq=>k H1 _ q E1) λq=>tQT.mk (h.same E1) q λH2 d q E2=>k H2 d q (E1.trans E2)
theorem QW.qt(h:QW X a qa):QT X a qa:=PW.pt h
theorem KQ{op}(h:QE X a ra):QE X (.BoolOp op [a] pos) ra:=ae8 h
theorem Ni(ha:QE X a ra)(hb:QE X (.BoolOp .And (b::rest) pos) rb):QE X (.BoolOp .And (a::b::rest) pos) (ajg ra rb):=(acW ha hb).imp λσ H Q ⟨own,o,R,h,hr,k⟩=>tQ.mk h hr λH1 v x q E1 r1=>by
 revert r1 q
 generalize frz x=t;intro q r1;cases r1<;>try exact q.elim
 exact⟨_,rfl,Fy q (λq=>⟨own,o,R,h.same E1,q,λH2 v x q E2 n=>k H2 v x q (E1.trans E2) (n.back E1)⟩) λq=>k H1 _ _ q E1 (NR.fz (.bl _))⟩
theorem aeN(ha:QE X a ra):QE X (.UnaryOp .Not a pos) (ajP ra):=(aeu ha).imp λσ H Q ⟨own,o,R,h,hr,k⟩=>tQ.mk h hr λH1 v x q E1 r1=>by
 revert r1 q
 generalize frz x=t;intro q r1;cases r1<;>try exact q.elim
 exact⟨_,rfl,k H1 _ _ q E1 (NR.fz (.bl _))⟩
theorem TY{c:Expr}(hc:QT X c qc)(ha:QE X a ra)(hb:QE X b rb):QE X (.IfExp c a b pos) (rIf qc ra rb):=(Zo hc ha hb).imp λσ H Q ⟨own,o,R,h,hr,k⟩=>tQT.mk h hr λH1 c q E1 =>
 Fy q (λq=>⟨own,o,R,h.same E1,q,λH2 v x q E2 n=>k H2 v x q (E1.trans E2) (n.back E1)⟩) λq=>⟨own,o,R,h.same E1,q,λH2 v x q E2 n=>k H2 v x q (E1.trans E2) (n.back E1)⟩
def rCh(g g':T->T->(OT->Prop)->Prop)(a b c:RE):RE:=λo q=>a o λx=>b o λy=>g (frz x) (frz y) λz=>match frz z with|.bl k=>sw k (c o λw=>g' (frz y) (frz w) q) (q (.fz (.bl false)))|_=>False
theorem q3{op op':CmpOp}{g g':T->T->(OT->Prop)->Prop}(ho:GO X (compareOp op) g)(ho':GO X (compareOp op') g'){σ:L2.St}{H:Hp}{Q:VK}(h:tQ X.K (rCh g g' ra rb rc) σ H Q):Ke (λx y H Q=>∃S t u R,(∀b,S b->H b≠none)/\Rep X.K (hd S H) x t/\Rep X.K (hd S H) y u/\g t u R/\∀H' v z,R z->Same H H'->NR X.K S H H' v z->Q v H') (λx y H Q=>∃S t u R,(∀b,S b->H b≠none)/\Rep X.K (hd S H) x t/\Rep X.K (hd S H) y u/\g' t u R/\∀H' v z,R z->Same H H'->NR X.K S H H' v z->Q v H') (tQ X.K ra) (tQ X.K rb) (tQ X.K rc) σ H Q:=by
 obtain⟨own,o,R,h,hr,k⟩:=h;refine tQ.mk h hr λH1 v x q E1 r1=>tQ.mk (h.same E1) q λH2 w y q2 E2 r2=>?_;have h2:=h.same (E1.trans E2);refine⟨Ow own,_,_,_,λb z=>(h2.sole z).ne,r1.same (bV E2),r2,q2,λH3 u z rz E3 n=>?_⟩;have rz':=n.rep λb z=>(h2.sole z).ne
 revert rz' rz
 generalize frz z=t;intro rz rz';cases rz'<;>try exact rz.elim
 have h3:=h2.same E3;refine⟨_,rfl,Fy rz (λq=>tQ.mk h3 q λH4 w' z q4 E4 r4=>⟨Ow own,_,_,R,λb z=>((h3.same E4).sole z).ne,r2.same (bV (E3.trans E4)),r4,q4,λH' u z rz E5 n=>k H' u z rz (E1.trans (E2.trans (E3.trans (E4.trans E5)))) (n.back (E1.trans (E2.trans (E3.trans E4))))⟩) λq=>k H3 _ _ q (E1.trans (E2.trans E3)) (NR.fz (.bl _))⟩
theorem Qw{op op':CmpOp}{g g':T->T->(OT->Prop)->Prop}(ho:GO X (compareOp op) g)(ho':GO X (compareOp op') g')(ha:QE X a ra)(hb:QE X b rb)(hc:QE X c rc)(hm:lastMarks [op,op'] [b,c]=false:=by with_unfolding_all rfl):QE X (.Compare a [op,op'] [b,c] pos) (rCh g g' ra rb rc):=(XC ho ho' ha hb hc hm).imp λ_ _ _=>q3 ho ho'
theorem O5{op op':CmpOp}{g g':T->T->(OT->Prop)->Prop}(ho:GO X (compareOp op) g)(ho':GO X (compareOp op') g')(ha:QE X a ra)(hb:QE X b rb)(hc:QE X c rc)(hm:lastMarks [op,op'] [b,c]=false:=by with_unfolding_all rfl):QT X (.Compare a [op,op'] [b,c] pos) (rB (rCh g g' ra rb rc)) :=
 (WD ho ho' ha hb hc hm).imp λσ H Q ⟨own,o,R,h,hr,k⟩=>q3 (ra:=ra) (rb:=rb) (rc:=rc) ho ho' (tQ.mk h hr λH1 v x q E1 r1=>by
  revert r1 q
  generalize frz x=t;intro q r1;cases r1<;>try exact q.elim
  exact⟨_,rfl,k _ _ q E1⟩)
end
noncomputable def nth{α:Type} : List α->Nat->Option α
 |[],_=>none
 |x::_,0=>some x
 |_::l,n+1=>nth l n
theorem rD{α:Type} : ∀(l:List α)(n:Nat),nth l n=l[n]?
 |[],_=>rfl
 |_::_,0=>rfl
 |_::l,n+1=>by simpa[nth]using rD l n
def ixT{α:Type}(ts:List α):Int->Option α
 |.ofNat n=>nth ts n
 |.negSucc n=>nth ts.reverse n
theorem Rh{α:Type}(ts:List α)(i:Int):ixT ts i=atI ts i:=by
 unfold ixT atI ixN;cases i with
 |ofNat n =>
  show nth ts n=_;rw[rD,ZY (show 0<=Int.ofNat n from X9 n)];by_cases h:n<ts.length
  .rw[ZY (by show(n:Int)<_;lia)];rfl
  .rw[ZZ (by show ¬(n:Int)<_;lia),aM (Nat.not_lt.mp h)];rfl
 |negSucc n =>
  show nth ts.reverse n=_;rw[rD,ZZ (by lia)];by_cases h:n<ts.length
  .rw[ZY (by lia),List.getElem?_reverse h];show _=ts[_]?;rw[show(Int.negSucc n+(ts.length:Int)).toNat=ts.length-1-n by lia]
  .rw[ZZ (by lia),aM (by rw[List.length_reverse];exact Nat.le_of_not_lt h)];rfl
theorem bW.ix{K:Frag}{F:Hp}{xs:Ζ}{ts:List T}{i:Int}{t:T}(h:bW K F xs ts)(e:ixT ts i=some t):∃x,atI xs i=some x/\Rep K F x t:=by
 rw[Rh]at e;unfold atI at e ⊢;rw[h.len];cases j:ixN ts.length i with
 |none=>rw[j]at e;cases e
 |some n=>rw[j]at e;exact h.at_ e
def oT{α:Type}(x:Option α)(q:α->Prop):Prop:=match x with|some t=>q t|none=>False
theorem acR{α:Type}{x:Option α}{q:α->Prop}(h:oT x q):∃t,x=some t/\q t:=by
 cases x with
 |none=>exact h.elim
 |some t=>exact⟨t,rfl,h⟩
def gIx:T->T->(OT->Prop)->Prop
 |.tup ts,.int i,q=>oT (ixT ts i) λt=>q (.fz t)
 |.lst ts,.int i,q=>∃t,ixT ts i=some t/\q (.fz t)
 |.scr ts,.int i,q=>∃t,ixT ts i=some t/\q (.fz t)
 |.str s,.int i,q=>s.length<=sizeLine/\∃c,ixT s.cps.toList i=some c/\q (.fz (.str ⟨#[c]⟩))
 |_,_,_=>False
section
variable{X:Cx}{a b c e:Expr}{ra rb rc re:RE}{qa qb qc:RT}{pos p2:Pos}{lo hi:Option Expr}
theorem gix:IxR X (λx y H Q=>∃S t u R,(∀b,S b->H b≠none)/\Rep X.K (hd S H) x t/\Rep X.K (hd S H) y u/\gIx t u R/\∀H' v z,R z->Same H H'->NR X.K S H H' v z->Q v H'):=by
 refine(xg.or (adY.or ac1)).imp λx y H Q h=>?_;obtain⟨S,t,u,R,_,hx,hy,hg,k⟩:=h;cases u with
 |int i=>?_
 |_=>cases t<;>exact hg.elim
 cases hy;cases t with
 |any=>exact hg.elim
 |non=>exact hg.elim
 |bl _=>exact hg.elim
 |int _=>exact hg.elim
 |val _=>exact hg.elim
 |dct _ _=>exact hg.elim
 |ins _ _ _=>exact hg.elim
 |str s=>?_
 |tup ts=>?_
 |lst ts=>?_
 |scr ts=>?_
 .cases hx;obtain⟨z,c,e,q⟩:=hg;rw[Rh]at e;exact .inr (.inr ⟨_,_,c,rfl,rfl,z,e,k H _ _ q (.refl _) (NR.fz (.str _))⟩)
 .obtain⟨p,xs,rfl,e,r⟩:=hx.tupI;obtain⟨t,j,q⟩:=acR hg;obtain⟨v,e',r'⟩:=r.ix j;exact .inr (.inl ⟨p,xs,i,v,rfl,rfl,c7.tup e,e',k H _ _ q (.refl _) (NR.fz r')⟩)
 .obtain⟨p,xs,rfl,e,r⟩:=hx.lstI;obtain⟨t,j,q⟩:=hg;obtain⟨v,e',r'⟩:=r.ix j;exact .inl ⟨p,xs,_,v,rfl,rfl,.of (cQ e).2,e',k H _ _ q (.refl _) (NR.fz r')⟩
 .obtain⟨p,xs,rfl,e,r⟩:=hx.scrI;obtain⟨t,j,q⟩:=hg;obtain⟨v,e',r'⟩:=r.ix j;exact .inl ⟨p,xs,_,v,rfl,rfl,c7.seq e,e',k H _ _ q (.refl _) (NR.fz r')⟩
theorem bJ(ha:QE X a ra)(hb:QE X b rb)(hs:tZ b:=by exact λ_ _=>rfl):QE X (.Subscript a b pos) (rOp gIx ra rb):=(JK gix ha hb hs).imp λ_ _ _=>q2
abbrev RO:=List OT->(Option Int->Prop)->Prop
def tQO(K:Frag)(r:RO):TO:=λσ H Q=>∃own o R,SR K own H σ o/\r o R/\∀H' b,R b->Same H H'->Q b H'
def QO(X:Cx)(e:Option Expr)(r:RO):Prop:=PO X e (tQO X.K r)
def alK:RO:=λ_ q=>q none
def agk(a:RE):RO:=λo q=>a o λx=>match frz x with|.int i=>q (some i)|_=>False
theorem PO.imp{X:Cx}{e:Option Expr}{t t':TO}(h:PO X e t)(i:∀σ H Q,t' σ H Q->t σ H Q):PO X e t':=λpins s σ H Q I q=>h pins s σ H Q I (i σ H Q q)
theorem MN:QO X none alK:=aap.imp λσ H Q hP=>by obtain⟨own,o,R,h,hr,k⟩:=hP;exact k H _ hr (.refl _)
theorem iy(h:QE X e re):QO X (some e) (agk re):=(abp h).imp λσ H Q ⟨own,o,R,h,hr,k⟩=>tQ.mk h hr λH1 v x q E1 r1=>by
 revert r1 q
 generalize frz x=t;intro q r1;cases r1<;>try exact q.elim
 exact⟨_,rfl,k _ _ q E1⟩
noncomputable def iz{α:Type}(xs:List α)(lo hi:Option Int):List α:=(xs.drop (HT.sIx xs.length 0 lo)).take (HT.sIx xs.length xs.length hi-HT.sIx xs.length 0 lo)
theorem bW.cut{K:Frag}{F:Hp}{xs:Ζ}{ts:List T}(h:bW K F xs ts)(lo hi:Option Int):bW K F (Wj xs lo hi) (iz ts lo hi):=by
 unfold Wj iz;rw[h.len];exact(h.drop _).take _
def gSl:T->Option Int->Option Int->(OT->Prop)->Prop
 |.lst ts,lo,hi,q=>q (.l1 (iz ts lo hi))
 |.scr ts,lo,hi,q=>q (.l1 (iz ts lo hi))
 |.str s,lo,hi,q=>s.length<=sizeLine/\q (.fz (.str (DY s lo hi)))
 |_,_,_,_=>False
def rSl(a:RE)(lo hi:RO):RE:=λo q=>a o λx=>lo o λl=>hi o λu=>gSl (frz x) l u q
theorem mG{rl rh:RO}(he:QE X e re)(hl:QO X lo rl)(hu:QO X hi rh):QE X (.Subscript e (.Slice lo hi none p2) pos) (rSl re rl rh):=(Zq (aaV.or aeD) he hl hu).imp λσ H Q ⟨own,o,R,h,hr,k⟩ =>
 tQ.mk h hr λH1 v x q E1 r1=>⟨own,o,_,h.same E1,q,λH2 l q E2=>⟨own,o,_,(h.same E1).same E2,q,λH3 u q E3=>by
  have E:=E1.trans (E2.trans E3);have r1:=r1.same (bV (E2.trans E3))
  revert r1 q
  generalize frz x=t;intro q r1;cases t<;>try exact q.elim
  .cases r1;exact .inr ⟨_,rfl,q.1,k _ _ _ q.2 E (NR.fz (.str _))⟩
  .obtain⟨p,xs,rfl,e,r⟩:=r1.lstI;exact .inl ⟨p,xs,rfl,.of (cQ e).2,λa ha=>k _ _ _ q (E.trans (Same.upd ha)) ((yu (r.cut l u) (Same.upd ha) ha cF).back E)⟩
  .obtain⟨p,xs,rfl,e,r⟩:=r1.scrI;exact .inl ⟨p,xs,rfl,c7.seq e,λa ha=>k _ _ _ q (E.trans (Same.upd ha)) ((yu (r.cut l u) (Same.upd ha) ha cF).back E)⟩⟩⟩
end
section
variable{X:Cx}{e:Expr}{es:List Expr}{r:RA}{pos:Pos}
def ai8(r:RA):RE:=λo q=>r o λts=>q (.fz (.tup ts))
def ajc(r:RA):RE:=λo q=>r o λts=>q (.l1 ts)
theorem dh{k:Nat}(h:QA X es r)(hz:es.length<=sizeLine:=by decide):QE X (.Tuple es k pos) (ai8 r):=(ad8 h).imp λσ H Q ⟨own,o,R,h,hr,k⟩=>tQA.mk h hr λH1 vs ts q ln E1 r1 =>
 ⟨by rw[r1.len,ln];exact hz,λp hp=>k _ _ _ q (E1.trans (Same.upd hp)) (NR.fz (.tup (.of (by rw[cM λz=>(h.sole z).ne (E1.free hp)];exact cF)) (r1.same (bV (Same.upd hp)))))⟩
theorem eU(h:QA X es r)(hz:es.length<=sizeLine:=by decide):QE X (.List es pos) (ajc r):=(aeE h).imp λσ H Q ⟨own,o,R,h,hr,k⟩=>tQA.mk h hr λH1 vs ts q ln E1 r1 =>
 ⟨by rw[r1.len,ln];exact hz,λp hp=>k _ _ _ q (E1.trans (Same.upd hp)) ((yu r1 (Same.upd hp) hp cF).back E1)⟩
def GC(X:Cx)(f:Value)(g:ST):Prop:=iJ X f λxs H Q=>∃S ts R,(∀b,S b->H b≠none)/\bW X.K (hd S H) xs ts/\g ts R/\∀H' v z,R z->Same H H'->NR X.K S H H' v z->Q v H'
variable{x:Str}{p:Pos}{id Ty:String}{g:ST}
theorem bT(hc:GC X (.builtin id) g)(hg:Gl X x)(hm:X.mg x=none)(hv:bootBuiltins x=some (.builtin id))(ha:QA X (e::es) r)(hn:x≠"__name__":=by decide)(hdb:(x==("__debug__":Str))=false:=by decide)
 (he:starEach (e::es) X.env=(false,eval e X.env)::starEach es X.env:=by rfl)(hpl:(backTo pos (starEach es X.env)).any (·.1)=false:=by rfl):QE X (.Call (.Name x p) (e::es) [] pos) (WQ g r) :=
 (Ql hc hg hm hv ha hn hdb he hpl).imp λσ H Q hP=>by obtain⟨own,o,R,h,hr,k⟩:=hP;exact tQA.mk h hr λH1 vs ts q _ E1 r1=>⟨Ow own,ts,R,λb z=>((h.same E1).sole z).ne,r1,q,λH' v z rz E n=>k H' v z rz (E1.trans E) (n.back E1)⟩
theorem rW(hc:GC X (.type Ty) g)(hg:Gl X x)(hm:X.mg x=none)(hv:bootBuiltins x=some (.type Ty))(ha:QA X (e::es) r)(hn:x≠"__name__":=by decide)(hdb:(x==("__debug__":Str))=false:=by decide)
 (he:starEach (e::es) X.env=(false,eval e X.env)::starEach es X.env:=by rfl)(hpl:(backTo pos (starEach es X.env)).any (·.1)=false:=by rfl):QE X (.Call (.Name x p) (e::es) [] pos) (WQ g r) :=
 (Wf hc hg hm hv ha hn hdb he hpl).imp λσ H Q hP=>by obtain⟨own,o,R,h,hr,k⟩:=hP;exact tQA.mk h hr λH1 vs ts q _ E1 r1=>⟨Ow own,ts,R,λb z=>((h.same E1).sole z).ne,r1,q,λH' v z rz E n=>k H' v z rz (E1.trans E) (n.back E1)⟩
theorem bW.one{K:Frag}{F:Hp}{xs:Ζ}{t:T}(h:bW K F xs [t]):∃x,xs=[x]/\Rep K F x t:=by
 cases h with
 |cons a b=>cases b;exact⟨_,rfl,a⟩
theorem bW.two{K:Frag}{F:Hp}{xs:Ζ}{t u:T}(h:bW K F xs [t,u]):∃x y,xs=[x,y]/\Rep K F x t/\Rep K F y u:=by
 cases h with
 |cons a b =>
  obtain⟨y,rfl,c⟩:=b.one;exact⟨_,y,rfl,a,c⟩
def g1(g:T->(OT->Prop)->Prop):ST:=λts q=>match ts with|[t]=>g t q|_=>False
theorem GC.one{f:Value}{g:T->(OT->Prop)->Prop}{r:Ζ->Hp->VK->Prop}(h:iJ X f r)(i:∀S t x H Q R,Rep X.K (hd S H) x t->g t R->(∀H' v z,R z->Same H H'->NR X.K S H H' v z->Q v H')->r [x] H Q):GC X f (g1 g):=h.imp λxs H Q hP=>by
 obtain⟨S,ts,R,_,rs,hg,k⟩:=hP
 match ts,hg with
 |[t],hg =>
  obtain⟨x,rfl,rx⟩:=rs.one;exact i S t x H Q R rx hg k
def akl:T->(OT->Prop)->Prop
 |.lst ts,q=>q (.fz (.int ts.length))
 |.tup ts,q=>q (.fz (.int ts.length))
 |.scr ts,q=>q (.fz (.int ts.length))
 |_,_=>False
theorem cU:GC X (.builtin "len") (g1 akl):=.one Kl λS t x H Q R rx hg k=>by
 cases t<;>try exact hg.elim
 .obtain⟨p,xs,rfl,e,r⟩:=rx.tupI;exact⟨p,xs,rfl,.inr (c7.tup e),k H _ _ hg (.refl _) (NR.fz (by rw[r.len];exact .int _))⟩
 .obtain⟨p,xs,rfl,e,r⟩:=rx.lstI;exact⟨p,xs,rfl,.inl (.of (cQ e).2),k H _ _ hg (.refl _) (NR.fz (by rw[r.len];exact .int _))⟩
 .obtain⟨p,xs,rfl,e,r⟩:=rx.scrI;exact⟨p,xs,rfl,.inl (c7.seq e),k H _ _ hg (.refl _) (NR.fz (by rw[r.len];exact .int _))⟩
def al4:T->(OT->Prop)->Prop
 |.str s,q=>s.length<=sizeLine/\q (.fz (.int s.length))
 |_,_=>False
def akN:T->(OT->Prop)->Prop
 |.dct ks _,q=>q (.fz (.int ks.length))
 |_,_=>False
theorem Vx:iJ X (.builtin "len") (λxs H Q=>∃p kvs,xs=[.ref p]/\Rd H p (.dK kvs)/\Q (.int kvs.length) H):=by
 intro pins s σ H xs us Q I r h;obtain⟨p,kvs,rfl,hp,q⟩:=h;obtain⟨u,rfl,rx⟩:=vals1 r;cases rx;have hok:kvs.length<=sizeLine/\(p==sysModules)=false/\∃vs,KV kvs vs/\s.heap.DictOf (iu X.prog X.w) p vs:=by
  rcases hp with hp|⟨o,hp⟩
  .exact I.hok p _ hp
  .exact(I.hok p _ hp).2
 obtain⟨hz,hS,vs,rr,m⟩:=hok;have hl:=wJ;have hlen:kvs.length=vs.length:=rr.length;exact call_len_dict hS m (by lia) ⟨.int kvs.length,H,I.tok _,⟨_,by rw[hlen]⟩,q⟩
theorem U6:GC X (.builtin "len") (g1 akN):=.one Vx λS t x H Q R rx hg k=>by
 cases t<;>try exact hg.elim
 obtain⟨p,xs,rfl,e,l,r⟩:=rx.dctI;exact⟨p,_,rfl,c7.rd e,k H _ _ hg (.refl _) (NR.fz (by rw[List.length_zip,l,Nat.min_self];exact .int _))⟩
def alz:T->(OT->Prop)->Prop
 |.int i,q=>q (.fz (.int i.natAbs))
 |_,_=>False
theorem GX:GC X (.builtin "abs") (g1 alz):=.one WR λS t x H Q R rx hg k=>by
 cases t<;>try exact hg.elim
 cases rx;exact⟨_,rfl,k H _ _ hg (.refl _) (NR.fz (by rw[adw];exact .int _))⟩
theorem bW.ints{K:Frag}{F:Hp} : ∀{xs:Ζ}{ns:List Int},bW K F xs (ns.map T.int)->xs=ns.map V.int
 |_,[],.nil=>rfl
 |_,n::ns,.cons a b=>by cases a;rw[bW.ints b];rfl
theorem bW.bls{K:Frag}{F:Hp} : ∀{xs:Ζ}{ns:List Bool},bW K F xs (ns.map T.bl)->xs=ns.map V.bl
 |_,[],.nil=>rfl
 |_,n::ns,.cons a b=>by cases a;rw[bW.bls b];rfl
theorem Ck{K:Frag}{F:Hp} : ∀(ns:List Int),bW K F (ns.map V.int) (ns.map T.int)
 |[]=>.nil
 |_::ns=>.cons (.int _) (Ck ns)
def akQ:T->(OT->Prop)->Prop
 |.lst ts,q=>∃ns:List Int,ts=ns.map T.int/\q (.fz (.int ns.sum))
 |_,_=>False
theorem Ro(hc:X.calm=true):GC X (.builtin "sum") (g1 akQ):=.one (Wu hc) λS t x H Q R rx hg k=>by
 cases t<;>try exact hg.elim
 obtain⟨p,xs,rfl,e,r⟩:=rx.lstI;obtain⟨ns,rfl,q⟩:=hg;exact⟨p,ns,rfl,(r.ints ▸ (cQ e).2),k H _ _ q (.refl _) (NR.fz (.int _))⟩
def afN(f:List Bool->Bool):T->(OT->Prop)->Prop
 |.lst ts,q=>∃bs:List Bool,ts=bs.map T.bl/\q (.fz (.bl (f bs)))
 |_,_=>False
theorem Yr(hc:X.calm=true):GC X (.builtin "all") (g1 (afN λbs=>bs.all λb=>b)):=.one (VL hc) λS t x H Q R rx hg k=>by
 cases t<;>try exact hg.elim
 obtain⟨p,xs,rfl,e,r⟩:=rx.lstI;obtain⟨ns,rfl,q⟩:=hg;exact⟨p,ns,rfl,(r.bls ▸ (cQ e).2),k H _ _ q (.refl _) (NR.fz (.bl _))⟩
theorem adP(hc:X.calm=true):GC X (.builtin "any") (g1 (afN λbs=>bs.any λb=>b)):=.one (V2 hc) λS t x H Q R rx hg k=>by
 cases t<;>try exact hg.elim
 obtain⟨p,xs,rfl,e,r⟩:=rx.lstI;obtain⟨ns,rfl,q⟩:=hg;exact⟨p,ns,rfl,(r.bls ▸ (cQ e).2),k H _ _ q (.refl _) (NR.fz (.bl _))⟩
def alh:T->(OT->Prop)->Prop
 |.lst ts,q=>∃ns:List Int,ts=ns.map T.int/\ns.length<64/\∀ms:List Int,ms.Perm ns->ms.Pairwise (· <= ·)->q (.l1 (ms.map T.int))
 |_,_=>False
theorem Wt:GC X (.builtin "sorted") (g1 alh):=.one Wv λS t x H Q R rx hg k=>by
 cases t<;>try exact hg.elim
 obtain⟨p,xs,rfl,e,r⟩:=rx.lstI;obtain⟨ns,rfl,l,q⟩:=hg;exact⟨p,ns,rfl,(r.ints ▸ (cQ e).2),l,λms a ha m1 m2=>k _ _ _ (q ms m1 m2) (Same.upd ha) (yu (Ck ms) (Same.upd ha) ha cF)⟩
def ahR:T->(OT->Prop)->Prop
 |.lst ts,q=>q (.l1 ts)
 |_,_=>False
theorem Ez:GC X (.type "list") (g1 ahR):=.one Sx λS t x H Q R rx hg k=>by
 cases t<;>try exact hg.elim
 obtain⟨p,xs,rfl,e,r⟩:=rx.lstI;exact⟨p,xs,rfl,(cQ e).2,λa ha=>k _ _ _ hg (Same.upd ha) (yu r (Same.upd ha) ha cF)⟩
def alV:T->(OT->Prop)->Prop
 |.int i,q=>q (.fz (.int i))
 |.bl b,q=>q (.fz (.int (if b then 1 else 0)))
 |_,_=>False
theorem aeU:GC X (.type "int") (g1 alV):=.one Vo λS t x H Q R rx hg k=>by
 cases t<;>try exact hg.elim
 .cases rx;exact .inr ⟨_,rfl,k H _ _ hg (.refl _) (NR.fz (.int _))⟩
 .cases rx;exact .inl ⟨_,rfl,k H _ _ hg (.refl _) (NR.fz (.int _))⟩
inductive Knd where
 |int|bool|str|list|tuple
noncomputable def Knd.s:Knd->String
 |.int=>"int"
 |.bool=>"bool"
 |.str=>"str"
 |.list=>"list"
 |.tuple=>"tuple"
noncomputable def isK:Knd->T->Option Bool
 |.int,.int _=>some true
 |.int,.bl _=>some true
 |.bool,.bl _=>some true
 |.str,.str _=>some true
 |.list,.lst _=>some true
 |.tuple,.tup _=>some true
 |_,.any=>none
 |_,.val _=>none
 |_,.scr _=>none
 |_,.ins _ _ _=>none
 |_,.dct _ _=>none
 |_,_=>some false
theorem aea(kd:Knd):GC X (.builtin "isinstance") (λts q=>match ts with|[t,.val v]=>v=.ty kd.s/\oT (isK kd t) λb=>q (.fz (.bl b))|_=>False):=by
 intro pins s σ H xs us Q I rs h;obtain⟨S,ts,R,_,rp,hg,k⟩:=h
 match ts,hg with
 |[t,.val v],hg =>
  obtain⟨x,y,rfl,rx,ry⟩:=rp.two;cases ry;obtain⟨rfl,hg⟩:=hg;obtain⟨b,j,q⟩:=acR hg;have hk:kd.s∈["bool","int","str","list","tuple","dict"]:=by cases kd<;>decide
  cases t with
  |tup ts =>
   obtain⟨p,ys,rfl,e,r⟩:=rx.tupI;have eb:b=Ji "tuple" kd.s:=by cases kd<;>cases j<;>decide
   exact Pj pins s σ H _ us Q I rs ⟨p,kd.s,ys,rfl,hk,c7.tup e,k H _ _ q (.refl _) (NR.fz (eb ▸ .bl _))⟩
  |lst ts =>
   obtain⟨p,ys,rfl,e,r⟩:=rx.lstI;have eb:b=Ji "list" kd.s:=by cases kd<;>cases j<;>decide
   exact wg pins s σ H _ us Q I rs ⟨_,kd.s,"list",rfl,hk,by show(match H p with|some (.lst _)=>some "list" |some (.tup _)=>some "tuple" |some (.dK _)=>some "dict" |_=>none)=_;rw[(cQ e).2],k H _ _ q (.refl _) (NR.fz (eb ▸ .bl _))⟩
  |non =>
   cases rx;have eb:b=Ji "NoneType" kd.s:=by cases kd<;>cases j<;>decide
   exact wg pins s σ H _ us Q I rs ⟨_,kd.s,"NoneType",rfl,hk,rfl,k H _ _ q (.refl _) (NR.fz (eb ▸ .bl _))⟩
  |bl c =>
   cases rx;have eb:b=Ji "bool" kd.s:=by cases kd<;>cases j<;>decide
   exact wg pins s σ H _ us Q I rs ⟨_,kd.s,"bool",rfl,hk,rfl,k H _ _ q (.refl _) (NR.fz (eb ▸ .bl _))⟩
  |int i =>
   cases rx;have eb:b=Ji "int" kd.s:=by cases kd<;>cases j<;>decide
   exact wg pins s σ H _ us Q I rs ⟨_,kd.s,"int",rfl,hk,rfl,k H _ _ q (.refl _) (NR.fz (eb ▸ .bl _))⟩
  |str c =>
   cases rx;have eb:b=Ji "str" kd.s:=by cases kd<;>cases j<;>decide
   exact wg pins s σ H _ us Q I rs ⟨_,kd.s,"str",rfl,hk,rfl,k H _ _ q (.refl _) (NR.fz (eb ▸ .bl _))⟩
  |_=>cases kd<;>cases j
def alY(kd:Knd)(a:RE):RE:=λo q=>a o λx=>oT (isK kd (frz x)) λb=>q (.fz (.bl b))
theorem mX(kd:Knd){a:Expr}{ra:RE}{y:Str}{p2:Pos}(ha:QE X a ra)(hg:Gl X "isinstance")(hm:X.mg "isinstance"=none)(hg2:Gl X y)(hm2:X.mg y=none)(hv2:bootBuiltins y=some (.type kd.s))(hn2:y≠"__name__":=by decide)(hd2:(y==("__debug__":Str))=false:=by decide)
 (he:starEach (a::[.Name y p2]) X.env=(false,eval a X.env)::starEach [.Name y p2] X.env:=by rfl):QE X (.Call (.Name "isinstance" p) [a,.Name y p2] [] pos) (alY kd ra) :=
 (Ql (aea kd) hg hm boot_isinstance (nF ha (nF (abG (v:=.ty kd.s) hg2 hm2 hv2 rfl hn2 hd2) NQ) he) (by decide) (by decide) he).imp λσ H Q ⟨own,o,R,h,hr,k⟩=>tQ.mk h hr λH1 v x q E1 r1 =>
  ⟨Ow own,[frz x,.val (.ty kd.s)],R,λb z=>((h.same E1).sole z).ne,.cons r1 (.cons (.val _) .nil),⟨rfl,q⟩,λH' v z rz E n=>k H' v z rz (E1.trans E) (n.back E1)⟩
end
structure DT where
 nx:List OT->Prop
 rt:OT->Prop
 bk:List OT->Prop:=λ_=>False
 ct:List OT->Prop:=λ_=>False
abbrev RS:=DT->List OT->Prop
structure Lnk(K:Frag)(F:Hp)(E:DT)(D:Ends):Prop where
 nx:∀own H σ o,E.nx o->Same F (hd (Ow own) H)->SR K own H σ o->D.nx σ H
 rt:∀S H v x B,E.rt x->Same F (hd S H)->Slo K (hd S H) H (some v) B x->(∀a∈B,S a)->D.rt v H
 bk:∀own H σ o,E.bk o->Same F (hd (Ow own) H)->SR K own H σ o->D.bk σ H
 ct:∀own H σ o,E.ct o->Same F (hd (Ow own) H)->SR K own H σ o->D.ct σ H
theorem Lnk.step{K:Frag}{F F':Hp}{E:DT}{D:Ends}(h:Lnk K F E D)(S:Same F F'):Lnk K F' E D :=
 ⟨λown H σ o e s=>h.nx own H σ o e (S.trans s),λT H v x B e s=>h.rt T H v x B e (S.trans s),λown H σ o e s=>h.bk own H σ o e (S.trans s),λown H σ o e s=>h.ct own H σ o e (S.trans s)⟩
def tQS(K:Frag)(r:RS):TS:=λD σ H=>∃own o E,SR K own H σ o/\r E o/\Lnk K (hd (Ow own) H) E D
def QS(X:Cx)(st:Stmt)(r:RS):Prop:=PS X st (tQS X.K r)
def QSs(X:Cx)(st:List Stmt)(r:RS):Prop:=PSs X st (tQS X.K r)
theorem PS.imp{X:Cx}{st:Stmt}{t t':TS}(h:PS X st t)(i:∀D σ H,t' D σ H->t D σ H):PS X st t':=λpins s σ H D I q=>h pins s σ H D I (i D σ H q)
theorem PSs.imp{X:Cx}{st:List Stmt}{t t':TS}(h:PSs X st t)(i:∀D σ H,t' D σ H->t D σ H):PSs X st t':=λpins s σ H D I q=>h pins s σ H D I (i D σ H q)
def ajy:RS:=λE o=>E.nx o
def iR(a b:RS):RS:=λE o=>a { E with nx:=b E } o
def ahD(i:Nat)(a:RE):RS:=λE o=>a o λx=>E.nx (o.set i (.fz (frz x)))
def aeW(i:Nat)(a:RE):RS:=λE o=>a o λx=>E.nx (o.set i x)
def afV(a:RE):RS:=λE o=>a o λ_=>E.nx o
def ake(a:RE):RS:=λE o=>a o E.rt
def acG(i:Nat):RS:=λE o=>match slot o i with|.und=>False|x=>E.rt x
def aiE(c:RT)(a b:RS):RS:=λE o=>c o λk=>sw k (a E o) (b E o)
def adq:RS:=λ_ _=>False
def aiv(i:Nat)(a:RS):RS:=λE o=>match slot o i with|.und=>False|x=>a E (o.set i (.fz (frz x)))
section
variable{K:Frag}{own:Nat->Ψ}{H H':Hp}{σ:L2.St}{o:List OT}
theorem SR.putA(h:SR K own H σ o)(E:Same H H'){v:V}{x:OT}(n:NR K (Ow own) H H' v x)(i:Nat):∃own',SR K own' H' (σ.set i (some v)) (o.set i x)/\Same (hd (Ow own) H) (hd (Ow own') H'):=by
 by_cases hi:i<o.length
 .exact h.put E n hi
 .rw[List.set_eq_of_length_le (Nat.not_lt.mp hi),List.set_eq_of_length_le (h.len ▸ Nat.not_lt.mp hi)];exact⟨own,h.same E,bV E⟩
theorem NR.frz{S:Addr->Prop}{v:V}{x:OT}(n:NR K S H H' v x)(hs:∀b,S b->H b≠none):NR K S H H' v (.fz (L2.frz x)):=NR.fz (n.rep hs)
theorem Slo.val{F:Hp}{v:Option V}{A:Ψ}{x:OT}(h:Slo K F H v A x)(n:x≠.und):∃u,v=some u:=by
 cases x with
 |und=>exact absurd rfl n
 |fz t=>exact⟨_,h.2.choose_spec.1⟩
 |l1 ts=>obtain⟨a,xs,e,_⟩:=h;exact⟨_,e⟩
 |l2 ts=>obtain⟨a,xs,e,_⟩:=h;exact⟨_,e⟩
 |d1 ks ts=>obtain⟨a,xs,e,_⟩:=h;exact⟨_,e⟩
 |ob a d C ks ts=>obtain⟨xs,e,_⟩:=h;exact⟨_,e⟩
 |la a ts=>obtain⟨xs,e,_⟩:=h;exact⟨_,e⟩
theorem SR.val(h:SR K own H σ o){i:Nat}{x:OT}(e:slot o i=x)(n:x≠.und):∃u,σ[i]?=some (some u)/\Slo K (hd (Ow own) H) H (some u) (own i) x:=by
 have s:=h.sl i x (gH e n);obtain⟨u,hu⟩:=s.val n;rw[hu]at s;refine⟨u,?_,s⟩;cases z:σ[i]? with
 |none=>rw[z]at hu;cases hu
 |some w=>rw[z]at hu;exact ZH some hu
end
section
variable{X:Cx}{st:Stmt}{sts:List Stmt}{a b:RS}{e:Expr}{re:RE}{pos:Pos}
theorem bR:QSs X [] ajy:=abE.imp λD σ H hP=>by obtain⟨own,o,E,h,hr,L⟩:=hP;exact L.nx own H σ o hr (.refl _) h
theorem alJ{D:Ends}{σ:L2.St}{H:Hp}(h:tQS X.K (iR a b) D σ H):adO (tQS X.K a) (tQS X.K b) D σ H:=by
 obtain⟨own,o,E,h,hr,L⟩:=h;exact⟨own,o,_,h,hr,λown' H' σ' o' q S h'=>⟨own',o',E,h',q,L.step S⟩,L.rt,L.bk,L.ct⟩
theorem bF(h1:QS X st a)(h2:QSs X sts b):QSs X (st::sts) (iR a b):=(Xh h1 h2).imp λ_ _ _=>alJ
theorem bG(h:QS X st a):QSs X [st] a:=aas h
theorem bO(i:Nat){x:Str}{pos':Pos}(hN:X.N.Nodup)(hx:Loc X.env.scope x)(he:QE X e re)(hi:X.N[i]?=some x:=by rfl)(hs:swapsWith e (some (.Name x pos')) pos.line X.env=pure false:=by rfl)(hf:X.fn x=true\/X.env.scope.names.lookup x=some .local:=by first|exact .inl rfl|exact .inr rfl|assumption) :
  QS X (.Assign [.Name x pos'] e pos) (ahD i re):=(Xo hN hi hx he hs hf).imp λD σ H ⟨own,o,E,h,hr,L⟩=>⟨own,o,_,h,hr,λH' v y q S n=>by
 obtain⟨own',h',S'⟩:=h.putA S (n.frz λb z=>(h.sole z).ne) i;exact L.nx own' H' _ _ q S' h'⟩
theorem iQ(i:Nat){x:Str}{pos':Pos}(hN:X.N.Nodup)(hx:Loc X.env.scope x)(he:QE X e re)(hi:X.N[i]?=some x:=by rfl)(hs:swapsWith e (some (.Name x pos')) pos.line X.env=pure false:=by rfl)(hf:X.fn x=true\/X.env.scope.names.lookup x=some .local:=by first|exact .inl rfl|exact .inr rfl|assumption) :
  QS X (.Assign [.Name x pos'] e pos) (aeW i re):=(Xo hN hi hx he hs hf).imp λD σ H ⟨own,o,E,h,hr,L⟩=>⟨own,o,_,h,hr,λH' v y q S n=>by
 obtain⟨own',h',S'⟩:=h.putA S n i;exact L.nx own' H' _ _ q S' h'⟩
theorem jq(he:QE X e re)(hs:swapsWith e none pos.line X.env=pure false:=by rfl):QS X (.Expr e pos) (afV re):=(wW he hs).imp λD σ H hP=>by obtain⟨own,o,E,h,hr,L⟩:=hP;exact⟨own,o,_,h,hr,λH' v y q S n=>L.nx own H' σ o q (bV S) (h.same S)⟩
theorem bN(he:QE X e re):QS X (.Return (some e) pos) (ake re):=(Rj he).imp λD σ H ⟨own,o,E,h,hr,L⟩=>⟨own,o,_,h,hr,λH' v y q S n=>by
 obtain⟨B,nb,s⟩:=n;exact L.rt _ H' v y B q (g_ (λb z=>z.imp id (nb b)) S) s λa ha=>.inr ha⟩
theorem jM(i:Nat){x:Str}{p:Pos}(hN:X.N[i]?=some x:=by rfl)(hv:qN X.env.scope x=true:=by rfl)(hd:(x==("__debug__":Str))=false:=by decide)(hcd:(x==("__classdict__":Str))=false:=by decide):QS X (.Return (some (.Name x p)) pos) (acG i):=(Rj (pv i hN hv hd hcd)).imp λD σ H hP=>by
 obtain⟨own,o,E,h,hr,L⟩:=hP;have hr:E.rt (slot o i)/\slot o i≠.und:=by
  unfold acG at hr;cases e:slot o i<;>rw[e]at hr<;>first|exact hr.elim|exact⟨hr,λz=>by cases z⟩
 obtain⟨u,e,s⟩:=h.val rfl hr.2;exact⟨u,e,L.rt (Ow own) H u _ _ hr.1 (.refl _) s λa ha=>⟨i,ha⟩⟩
theorem cB{c:Expr}{ss ts:List Stmt}{qc:RT}(hc:QT X c qc)(ha:QSs X ss a)(hb:QSs X ts b):QS X (.If c ss ts pos) (aiE qc a b):=(afr hc ha hb).imp λD σ H ⟨own,o,E,h,hr,L⟩=>tQT.mk h hr λH1 c q E1 =>
 Fy q (λq=>⟨own,o,E,h.same E1,q,L.step (bV E1)⟩) λq=>⟨own,o,E,h.same E1,q,L.step (bV E1)⟩
theorem fH:QS X st adq:=Xc.imp λD σ H hP=>by obtain⟨own,o,E,h,hr,L⟩:=hP;exact hr
theorem Hz(i:Nat)(hs:QS X st a):QS X st (aiv i a):=PS.imp hs λD σ H hP=>by
 obtain⟨own,o,E,h,hr,L⟩:=hP;have hr:a E (o.set i (.fz (frz (slot o i))))/\slot o i≠.und:=by
  unfold aiv at hr;cases e:slot o i<;>rw[e]at hr<;>first|exact hr.elim|exact⟨hr,λz=>by cases z⟩
 obtain⟨u,e1,s⟩:=h.val rfl hr.2;obtain⟨own',h',S⟩:=h.frz (gH rfl hr.2) e1;exact⟨own',_,E,h',hr.1,L.step S⟩
theorem BL{S:Addr->Prop}{H:Hp}{D:Addr}{u:HO}(h:S D):hd S (upd H D u)=hd S H:=funext λb=>by
 by_cases z:S b
 .rw[pH z,pH z]
 .rw[cM z,cM z,cC λ(e:b=D)=>z (e.symm ▸ h)]
noncomputable def asL:OT->Option (List T×(List T->OT))
 |.l1 ts=>some (ts,.l1)
 |.la a ts=>some (ts,.la a)
 |_=>none
def onL(x:OT)(k:List T->(List T->OT)->Prop):Prop:=match asL x with|some (ts,c)=>k ts c|none=>False
theorem BR{x:OT}{k:List T->(List T->OT)->Prop}(h:onL x k):∃ts c,k ts c/\((x=.l1 ts/\c=.l1)\/∃a,x=.la a ts/\c=.la a):=by
 cases x with
 |l1 ts=>exact⟨ts,_,h,.inl ⟨rfl,rfl⟩⟩
 |la a ts=>exact⟨ts,_,h,.inr ⟨a,rfl,rfl⟩⟩
 |_=>exact h.elim
def alL(i:Nat)(a:RE):RS:=λE o=>onL (slot o i) λts c=>a o λy=>ts.length<sizeLine/\E.nx (o.set i (c (ts++[frz y])))
theorem SR.l1{K:Frag}{own:Nat->Ψ}{H:Hp}{σ:L2.St}{o:List OT}(h:SR K own H σ o){i:Nat}{ts:List T}{c:List T->OT}(e:(slot o i=.l1 ts/\c=.l1)\/∃a,slot o i=.la a ts/\c=.la a):∃l xs,σ[i]?=some (some (.ref l))/\own i=[l]/\H l=some (.lst xs)/\bW K (hd (Ow own) H) xs ts/\∀(H':Hp)(ys:Ζ)us,H' l=some (.lst ys)->bW K (hd (Ow own) H') ys us->Slo K (hd (Ow own) H') H' (some (.ref l)) [l] (c us):=by
 rcases e with⟨e,rfl⟩|⟨a,e,rfl⟩
 .obtain⟨u,e1,l,xs,e2,e3,e4,r⟩:=h.val e (by intro z;cases z);cases e2;exact⟨l,xs,e1,e3,e4,r,λH' ys us a b=>⟨l,ys,rfl,rfl,a,b⟩⟩
 .obtain⟨u,e1,xs,e2,e3,e4,r⟩:=h.val e (by intro z;cases z);cases e2;exact⟨a,xs,e1,e3,e4,r,λH' ys us a b=>⟨ys,rfl,rfl,a,b⟩⟩
theorem GQ{o:List OT}{i:Nat}{ts:List T}{c:List T->OT}(e:(slot o i=.l1 ts/\c=.l1)\/∃a,slot o i=.la a ts/\c=.la a):∃x,o[i]?=some x:=by
 rcases e with⟨e,_⟩|⟨a,e,_⟩
 .exact⟨_,gH e (by intro z;cases z)⟩
 .exact⟨_,gH e (by intro z;cases z)⟩
theorem SR.chg1{K:Frag}{own:Nat->Ψ}{H:Hp}{σ:L2.St}{o:List OT}(h:SR K own H σ o){i:Nat}{us:List T}{c:List T->OT}(e:∃x,o[i]?=some x){l:Addr}{ys:Ζ}(eσ:σ[i]?=some (some (.ref l)))(eo:own i=[l])(sl:∀(H':Hp)(ys:Ζ)us,H' l=some (.lst ys)->bW K (hd (Ow own) H') ys us->Slo K (hd (Ow own) H') H' (some (.ref l)) [l] (c us))(r:bW K (hd (Ow own) H) ys us):SR K own (upd H l (.lst ys)) σ (o.set i (c us))/\Same (hd (Ow own) H) (hd (Ow own) (upd H l (.lst ys))):=by
 obtain⟨x,e⟩:=e;refine h.chg e (λb u hb e=>(cC λz=>hb (by rw[eo,z];simp)).trans e) ?_;rw[eσ,eo];exact sl _ ys us cF (by rw[BL ⟨i,by rw[eo];simp⟩];exact r)
theorem o9(i:Nat){x:Str}{apos cpos p:Pos}(he:QE X e re)(hN:X.N[i]?=some x:=by rfl)(hv:qN X.env.scope x=true:=by rfl)(hd':(x==("__debug__":Str))=false:=by decide)(hcd:(x==("__classdict__":Str))=false:=by decide)
 (hb:attributeBase (.Name x p) "append" X.env (eval (.Name x p) X.env)=eval (.Name x p) X.env:=by rfl)
 (hf:((backTo cpos (starEach [e] X.env)).all (λx=>!x.1)&&(backToKw cpos (keywordEach [] X.env)).all (λx=>x.1.isSome)&&decide ([e].length+([] : List Keyword).length+(if([] : List Keyword).isEmpty then 0 else 1)<30))=true:=by rfl)
 (hl:(apos.endLine==cpos.line)=true:=by rfl)(hst:starEach [e] X.env=(false,eval e X.env)::starEach [] X.env:=by rfl)(hp:(backTo cpos (starEach [] X.env)).any (·.1)=false:=by rfl)
 (hs:swapsWith (.Call (.Attribute (.Name x p) "append" apos) [e] [] cpos) none pos.line X.env=pure false:=by rfl) :
  QS X (.Expr (.Call (.Attribute (.Name x p) "append" apos) [e] [] cpos) pos) (alL i re):=(wW (Yk (pv i hN hv hd' hcd) (nF he NQ hst) hb hf hl hst hp) hs).imp λD σ H hP=>by
 obtain⟨own,o,E,h,hr,L⟩:=hP;obtain⟨ts,c,hr,es⟩:=BR hr;obtain⟨l,xs,e1,e2,e3,r,sl⟩:=h.l1 es;refine⟨_,e1,l,xs,rfl,e3,tQ.mk h hr λH1 v y q E1 r1=>⟨v,xs,rfl,E1 _ _ e3,by rw[r.len];exact q.1,?_⟩⟩;obtain⟨h',S⟩:=(h.same E1).chg1 (GQ es) e1 e2 sl ((r.same (bV E1)).app (.cons r1 .nil));exact L.nx own _ σ _ q.2 ((bV E1).trans S) h'
def akm(i:Nat)(a b:RE):RS:=λE o=>onL (slot o i) λts c=>a o λy=>b o λk=>(match frz k with|.int j=>∃n,ixN ts.length j=some n/\E.nx (o.set i (c (ts.set n (frz y))))|_=>False)
theorem CP(i:Nat){x:Str}{k:Expr}{rk:RE}{tpos p:Pos}(he:QE X e re)(hk:QE X k rk)(hN:X.N[i]?=some x:=by rfl)(hv:qN X.env.scope x=true:=by rfl)(hd':(x==("__debug__":Str))=false:=by decide)(hcd:(x==("__classdict__":Str))=false:=by decide)
 (ha:∀v,assign (.Subscript (.Name x p) k tpos) X.env v=(do
   let ov <- holding [v] (eval (.Name x p) X.env)
   let iv <- holding [v,ov] (eval k X.env)
   standAt tpos
   holding [v,ov,iv] (setItem ov iv v)
   release [v,ov,iv] []):=by intro _;rfl)
 (hs:swapsWithSole [.Subscript (.Name x p) k tpos] e pos.line X.env=pure false:=by rfl)(hw:swappedStores [.Subscript (.Name x p) k tpos] e X.env=pure none:=by rfl)
 (h1:(assignEach [.Subscript (.Name x p) k tpos] X.env).map (·.2)=[assign (.Subscript (.Name x p) k tpos) X.env]:=by rfl):QS X (.Assign [.Subscript (.Name x p) k tpos] e pos) (akm i re rk):=(Tg he (W3 (pv i hN hv hd' hcd) hk set_list ha) hs hw h1).imp λD σ H hP=>by
 obtain⟨own,o,E,h,hr,L⟩:=hP;obtain⟨ts,c,hr,es⟩:=BR hr;obtain⟨l,xs,e1,e2,e3,r,sl⟩:=h.l1 es;refine tQ.mk h hr λH1 v y q E1 r1=>⟨_,e1,tQ.mk (h.same E1) q λH2 w z q E2 r2=>?_⟩;have r1:=r1.same (bV E2)
 revert r2 q
 generalize frz z=t;intro q r2;cases t<;>try exact q.elim
 cases r2;obtain⟨n,en,q⟩:=q;have E12:=E1.trans E2;refine⟨l,xs,_,n,rfl,rfl,E12 _ _ e3,by rw[r.len];exact en,?_⟩;obtain⟨h',S⟩:=(h.same E12).chg1 (GQ es) e1 e2 sl (bW.set r1 n (r.same (bV E12)));exact L.nx own _ σ _ q ((bV E12).trans S) h'
def al0(i:Nat)(b:RE):RE:=λo q=>onL (slot o i) λts _=>b o λy=>(match frz y with|.int j=>∃t,ixT ts j=some t/\q (.fz t)|_=>False)
theorem tH(i:Nat){x:Str}{p:Pos}{b:Expr}{rb:RE}(hb:QE X b rb)(hN:X.N[i]?=some x:=by rfl)(hv:qN X.env.scope x=true:=by rfl)(hd':(x==("__debug__":Str))=false:=by decide)
 (hcd:(x==("__classdict__":Str))=false:=by decide)(hs:tZ b:=by exact λ_ _=>rfl):QE X (.Subscript (.Name x p) b pos) (al0 i rb):=(JK xg (pv i hN hv hd' hcd) hb hs).imp λσ H Q hP=>by
 obtain⟨own,o,R,h,hr,k⟩:=hP;obtain⟨ts,c,hr,es⟩:=BR hr;obtain⟨a,xs,e1,e2,e3,r,sl⟩:=h.l1 es;refine⟨_,e1,tQ.mk h hr λH1 v y q E1 r1=>?_⟩
 revert r1 q
 generalize frz y=t;intro q r1;cases t<;>try exact q.elim
 cases r1;obtain⟨t,j,q⟩:=q;obtain⟨v,e',r'⟩:=r.ix j;exact⟨a,xs,_,v,rfl,rfl,.of (E1 _ _ e3),e',k H1 _ _ q E1 (NR.fz (r'.same (bV E1)))⟩
def acq(i:Nat)(f:Int->Int->Int)(a:RE):RS:=λE o=>match slot o i with|.fz (.int k)=>a o λy=>(match frz y with|.int j=>E.nx (o.set i (.fz (.int (f k j))))|_=>False)|_=>False
theorem aeZ(i:Nat){x:Str}{op:Operator}{f:Int->Int->Int}{pos':Pos}(hN:X.N.Nodup)(hx:Loc X.env.scope x)(ho:PIp X op (ipI f))(he:QE X e re)(hi:X.N[i]?=some x:=by rfl)(hf:X.fn x=true\/X.env.scope.names.lookup x=some .local:=by first|exact .inl rfl|exact .inr rfl|assumption):QS X (.AugAssign (.Name x pos') op e pos) (acq i f re):=(ady hN hi hx he ho hf).imp λD σ H hP=>by
 obtain⟨own,o,E,h,hr,L⟩:=hP;unfold acq at hr;cases es:slot o i with
 |fz t =>
  rw[es]at hr;cases t<;>try exact hr.elim
  obtain⟨u,e1,r⟩:=h.get (gH es (by intro z;cases z));cases r;refine⟨_,e1,tQ.mk h hr λH1 v y q E1 r1=>?_⟩
  revert r1 q
  generalize frz y=t;intro q r1;cases t<;>try exact q.elim
  cases r1;refine⟨_,_,rfl,rfl,?_⟩;obtain⟨own',h',S⟩:=(h.same E1).putA (.refl _) (NR.fz (.int _)) i;exact L.nx own' _ _ _ q ((bV E1).trans S) h'
 |_=>rw[es]at hr;exact hr.elim
def Cd(n:Nat)(own own':Nat->Ψ)(σ σ':L2.St):Prop:=(∀j,own' j=own j\/(j<n/\own' j=[]))/\σ'.length=σ.length/\∀j,n<=j->σ'[j]?=σ[j]?
theorem Cd.refl{n:Nat}{own:Nat->Ψ}{σ:L2.St} : Cd n own own σ σ:=⟨λ_=>.inl rfl,rfl,λ_ _=>rfl⟩
theorem Cd.trans{n:Nat}{own own1 own2:Nat->Ψ}{σ σ1 σ2:L2.St}(a:Cd n own own1 σ σ1)(b:Cd n own1 own2 σ1 σ2):Cd n own own2 σ σ2 :=
 ⟨λj=>(b.1 j).elim (λe=>(a.1 j).imp (λz=>e.trans z) λz=>⟨z.1,e.trans z.2⟩) .inr,b.2.1.trans a.2.1,λj hj=>(b.2.2 j hj).trans (a.2.2 j hj)⟩
theorem Cd.same{n:Nat}{own own':Nat->Ψ}{σ σ':L2.St}(a:Cd n own own' σ σ'){H:Hp} : Same (hd (Ow own) H) (hd (Ow own') H):=g_ (λb hP=>by obtain⟨j,z⟩:=hP;exact .inl ⟨j,(a.1 j).elim (λe=>e ▸ z) λe=>by rw[e.2]at z;cases z⟩) λ_ _ z=>z
def tQG(K:Frag)(n:Nat)(g:T->List OT->(List OT->Prop)->Prop):TG:=λv σ H Q=>∃own o t R,SR K own H σ o/\Rep K (hd (Ow own) H) v t/\g t o R/\∀own' σ' o',R o'->Cd n own own' σ σ'->SR K own' H σ' o'->Q σ' H
def QG(X:Cx)(n:Nat)(tg:Expr)(g:T->List OT->(List OT->Prop)->Prop):Prop:=PG X tg (tQG X.K n g)
def QGs(X:Cx)(n:Nat)(tg:List Expr)(g:List T->List OT->(List OT->Prop)->Prop):Prop:=PGs X tg λv σ H Q=>∃own o t R,SR X.K own H σ o/\bW X.K (hd (Ow own) H) v t/\g t o R/\∀own' σ' o',R o'->Cd n own own' σ σ'->SR X.K own' H σ' o'->Q σ' H
theorem PGs.imp{tg:List Expr}{t t':TGs}(h:PGs X tg t)(i:∀v σ H Q,t' v σ H Q->t v σ H Q):PGs X tg t':=λpins s σ H v u Q I r q=>h pins s σ H v u Q I r (i _ _ _ _ q)
def hName(i:Nat):T->List OT->(List OT->Prop)->Prop:=λt o q=>q (o.set i (.fz t))
def ak6:List T->List OT->(List OT->Prop)->Prop:=λts o q=>match ts with|[]=>q o|_=>False
def ah0(g:T->List OT->(List OT->Prop)->Prop)(gs:List T->List OT->(List OT->Prop)->Prop):List T->List OT->(List OT->Prop)->Prop:=λts o q=>match ts with|t::ts=>g t o λo'=>gs ts o' q|_=>False
def akX(n:Nat)(gs:List T->List OT->(List OT->Prop)->Prop):T->List OT->(List OT->Prop)->Prop:=λt o q=>match t with|.tup ts=>ts.length=n/\gs ts o q|_=>False
theorem SR.setF{K:Frag}{own:Nat->Ψ}{H:Hp}{σ:L2.St}{o:List OT}(h:SR K own H σ o){v:V}{t:T}(r:Rep K (hd (Ow own) H) v t){n i:Nat}(hi:i<n):∃own',SR K own' H (σ.set i (some v)) (o.set i (.fz t))/\Cd n own own' σ (σ.set i (some v)):=by
 have le:Same (hd (Ow own) H) (hd (Ow (own1 own i [])) H):=g_ (λb z=>.inl (z.of1.elim id λy=>(nomatch y))) λ_ _ z=>z;have go:Cd n own (own1 own i []) σ (σ.set i (some v)):=⟨λj=>by
  by_cases z:j=i
  .exact .inr ⟨z ▸ hi,by rw[z,iU]⟩
  .exact .inl (eY z),List.length_set,λj hj=>List.getElem?_set_ne (by lia)⟩
 by_cases hl:i<o.length
 .refine⟨own1 own i [],⟨by rw[List.length_set,List.length_set,h.len],λj y e=>?_,λj hj a ha=>?_,λj k a e1 e2=>?_⟩,go⟩
  .by_cases z:j=i
   .subst z;rw[List.getElem?_set_self hl]at e;cases e;rw[iU,List.getElem?_set_self (h.len ▸ hl)];exact⟨rfl,v,rfl,r.same le⟩
   .rw[List.getElem?_set_ne (Ne.symm z)]at e;rw[eY z,List.getElem?_set_ne (Ne.symm z)];exact(h.sl j y e).same le λ_ _ z=>z
  .rw[List.length_set]at hj;rw[eY (by lia)]at ha;exact h.out j hj a ha
  .by_cases z:j=i
   .rw[z,iU]at e1;cases e1
   by_cases y:k=i
   .rw[y,iU]at e2;cases e2
   .rw[eY z]at e1;rw[eY y]at e2;exact h.dis j k a e1 e2
 .refine⟨own,?_,⟨λ_=>.inl rfl,go.2⟩⟩;rw[List.set_eq_of_length_le (Nat.not_lt.mp hl),List.set_eq_of_length_le (h.len ▸ Nat.not_lt.mp hl)];exact h
theorem bY{n:Nat}(i:Nat){x:Str}(hN:X.N.Nodup)(hx:Loc X.env.scope x)(hi:X.N[i]?=some x:=by rfl)(hn:i<n:=by decide)(hf:X.fn x=true\/X.env.scope.names.lookup x=some .local:=by first|exact .inl rfl|exact .inr rfl|assumption):QG X n (.Name x pos) (hName i):=(lK hN hi hx hf).imp λv σ H Q hP=>by
 obtain⟨own,o,t,R,h,r,hg,k⟩:=hP;obtain⟨own',h',S⟩:=h.setF r hn;exact k own' _ _ hg S h'
theorem dI{n:Nat} : QGs X n [] ak6:=abv.imp λv σ H Q hP=>by
 obtain⟨own,o,t,R,h,r,hg,k⟩:=hP;cases r with
 |nil=>exact⟨rfl,k own σ o hg .refl h⟩
 |cons _ _=>exact hg.elim
theorem bU{n:Nat}{e:Expr}{es:List Expr}{g:T->List OT->(List OT->Prop)->Prop}{gs:List T->List OT->(List OT->Prop)->Prop}(h1:QG X n e g)(h2:QGs X n es gs)(hs:(assignEach (e::es) X.env).map (·.2)=assign e X.env::(assignEach es X.env).map (·.2):=by rfl):QGs X n (e::es) (ah0 g gs):=(XD h1 h2 hs).imp λv σ H Q hP=>by
 obtain⟨own,o,t,R,h,r,hg,k⟩:=hP;cases r with
 |nil=>exact hg.elim
 |cons a b=>exact⟨_,_,rfl,own,o,_,_,h,a,hg,λown' σ' o' q S h'=>⟨own',o',_,R,h',b.same S.same,q,λown2 σ2 o2 q S2 h2=>k own2 σ2 o2 q (S.trans S2) h2⟩⟩
theorem fJ{m:Nat}{es:List Expr}{k:Nat}{gs:List T->List OT->(List OT->Prop)->Prop}{n:Nat}(hc:X.calm=true)(h:QGs X m es gs)(hn:(assignEach es X.env).length=n:=by rfl)(hst:(assignEach es X.env).findIdx? (·.1)=none:=by rfl):QG X m (.Tuple es k pos) (akX n gs):=(adA hc h hn hst).imp λv σ H Q hP=>by
 obtain⟨own,o,t,R,h,r,hg,k⟩:=hP;cases t<;>try exact hg.elim
 obtain⟨a,xs,rfl,e,r⟩:=r.tupI;exact⟨a,xs,rfl,c7.tup e,r.len.trans hg.1,own,o,_,R,h,r,hg.2,k⟩
def ak1(a:RE)(g:T->List OT->(List OT->Prop)->Prop):RS:=λE o=>a o λx=>g (frz x) o E.nx
theorem G7{n:Nat}{tg:Expr}{g:T->List OT->(List OT->Prop)->Prop}(he:QE X e re)(hg:QG X n tg g)(hs:swapsWithSole [tg] e pos.line X.env=pure false:=by rfl)(hw:swappedStores [tg] e X.env=pure none:=by rfl)(h1:(assignEach [tg] X.env).map (·.2)=[assign tg X.env]:=by rfl):QS X (.Assign [tg] e pos) (ak1 re g) :=
 (Tg he hg hs hw h1).imp λD σ H hP=>by obtain⟨own,o,E,h,hr,L⟩:=hP;exact tQ.mk h hr λH1 v y q E1 r1=>⟨own,o,_,_,h.same E1,r1,q,λown' σ' o' q S h'=>L.nx own' H1 σ' o' q ((bV E1).trans S.same) h'⟩
end
section
variable{P:Program}{w:World}{K:Frag}{mg:Str->Ω}{base:Heap}
noncomputable def start'(n:Nat)(ts:List T):List OT:=ts.map OT.fz++List.replicate (n-ts.length) .und
theorem SR.start{H:Hp}{vs:Ζ}{ts:List T}(r:bW K H vs ts)(N:Φ):SR K (λ_=>[]) H (start N vs) (start' N.length ts):=by
 have e0:Ow (λ_=>[])=λ_=>False:=funext λb=>propext ⟨λhP=>by obtain⟨_,z⟩:=hP;exact(nomatch z),False.elim⟩;refine⟨by unfold start' L2.start;simp[r.len],λi x e=>?_,λ_ _ _ z=>(nomatch z),λi j a z=>(nomatch z)⟩;rw[e0,Ux];unfold start' at e;unfold L2.start;by_cases hi:i<ts.length
 .rw[aF (by simpa using hi),aq,aj hi]at e;cases e;obtain⟨v,e1,r1⟩:=r.at_ (aj hi);rw[aF (by rw[ak,r.len];exact hi),aq,e1];exact⟨rfl,v,rfl,r1⟩
 .rw[aD (by simpa using hi),ak,XG]at e;by_cases hj:i-ts.length<N.length-ts.length
  .rw[ZY hj]at e;cases e;rfl
  .rw[ZZ hj]at e;cases e
theorem Fun.okT{x qual:Str}{st:Stmt}{f:Addr}{fd:FuncData}{N ps:Φ}{k:Nat}{S:ST}(F:Fun K x qual st f fd)(sc:bK N ps (bH st))(len:∀ts R,S ts R->ts.length=ps.length)
 (hbody:∀(cdv:Value)(A:Around)(outer:List Env)(s:Shared)(H:Hp)(E:XK),eX k (A.deeper (envOfC qual (bH st) s.heap.objs.size f cdv)) ->
   ∃r,QSs (M5 CX0 P w K mg base N qual (bH st) f cdv A outer s H E).nox (fD st) r/\∀ts R,S ts R->r { nx:=λ_=>R (.fz .non),rt:=R } (start' N.length ts)):b_ P w K mg base CX0 (k+1) f fd ps (spT K S):=by
 refine F.ok sc (λvs H Q E h=>?_) λcdv A outer s H vs Q E hr h=>?_
 .obtain⟨ts,R,r,hS,_⟩:=h;exact r.len.trans (len ts R hS)
 .obtain⟨ts,R,r,hS,q⟩:=h;obtain⟨rd,h1,h2⟩:=hbody cdv A outer s H E hr;have e0:hd (Ow λ_=>[]) H=H:=by rw[show Ow (λ_=>[])=λ_=>False from funext λb=>propext ⟨λhP=>by obtain⟨_,z⟩:=hP;exact(nomatch z),False.elim⟩,Ux]
  have fin:∀(S:Addr->Prop)H' v x B,R x->Same H (hd S H')->Slo K (hd S H') H' (some v) B x->(∀a∈B,S a)->Q v H':=λS' H' v x B rx E s hB =>
   q H' v x rx (E.trans c7) ⟨B,λa ha=>E.free (pH (hB a ha)),s.same (g_ (λb z=>.inl (z.elim False.elim (hB b))) λ_ _ z=>z) λ_ _ z=>z⟩
  refine⟨_,h1,λ_=>[],_,_,SR.start r N,h2 ts R hS,⟨λown H' σ o rx E h=>?_,λS' H' v x B rx E s hB=>fin S' H' v x B rx (e0 ▸ E) s hB,λ_ _ _ _ z=>z.elim,λ_ _ _ _ z=>z.elim⟩⟩;exact fin (Ow own) H' .non _ [] rx (e0 ▸ E) ⟨rfl,_,rfl,.non⟩ λ_ z=>(nomatch z)
end
abbrev RI:=List OT->(List T->Prop)->Prop
def Wlk(K:Frag)(J:It)(F:Hp)(xs:List T):Prop:=∀(S:Addr->Prop)(H:Hp)(i:Nat),(∀b,S b->H b≠none)->Same F (hd S H) ->
 (i=xs.length->J.stop i H)/\∀t,xs[i]?=some t->J.go i H/\∀x H',J.yld i H x H'->Same H H'/\Rep K (hd S H') x t
def tQI(K:Frag)(r:RI):TI:=λσ H Q=>∃own o R,SR K own H σ o/\r o R/\∀H' J xs,R xs->Same H H'->Wlk K J (hd (Ow own) H') xs->Q J H'
def QI(X:Cx)(tg it:Expr)(r:RI):Prop:=PI X tg it (tQI X.K r)
theorem PI.imp{X:Cx}{tg it:Expr}{t t':TI}(h:PI X tg it t)(i:∀σ H Q,t' σ H Q->t σ H Q):PI X tg it t':=λpins s σ H Q I q=>h pins s σ H Q I (i σ H Q q)
def aln(a:RE):RI:=λo q=>a o λx=>match frz x with|.lst ts=>q ts|_=>False
def akp(a:RE):RI:=λo q=>a o λx=>match frz x with|.tup ts=>q ts|_=>False
theorem Yt{S:Addr->Prop}{H:Hp}{t:Addr}{u:HO}(n:H t=none)(hs:∀b,S b->H b≠none):hd S (upd H t u) t=some u:=by rw[cM λz=>hs t z n];exact cF
section
variable{X:Cx}{tg:Expr}{e a b:Expr}{re ra rb:RE}{p pos tpos:Pos}
theorem cH(he:QE X e re):QI X tg e (aln re):=(aag he).imp λσ H Q ⟨own,o,R,h,hr,k⟩=>tQ.mk h hr λH1 v x q E1 r1=>by
 revert r1 q
 generalize frz x=t;intro q r1;cases t<;>try exact q.elim
 obtain⟨a,xs,rfl,e,r⟩:=r1.lstI;refine⟨a,rfl,⟨xs,.of (cQ e).2⟩,k H1 _ _ q E1 λS H2 i _ SF=>⟨λhi=>⟨xs,.of (cQ (SF _ _ e)).2,by rw[r.len];exact Nat.le_of_eq hi.symm⟩,λt ht=>?_⟩⟩;obtain⟨y,ey,ry⟩:=r.at_ ht;refine⟨⟨xs,y,.of (cQ (SF _ _ e)).2,ey⟩,?_⟩;rintro x H3 ⟨rfl,hx⟩;have:=hx xs (.of (cQ (SF _ _ e)).2);rw[ey]at this;cases this;exact⟨.refl _,ry.same SF⟩
theorem adE(he:QE X e re):QI X tg e (akp re):=(adt he).imp λσ H Q ⟨own,o,R,h,hr,k⟩=>tQ.mk h hr λH1 v x q E1 r1=>by
 revert r1 q
 generalize frz x=t;intro q r1;cases t<;>try exact q.elim
 obtain⟨a,xs,rfl,e,r⟩:=r1.tupI;refine⟨a,rfl,⟨xs,c7.tup e⟩,k H1 _ _ q E1 λS H2 i _ SF=>⟨λhi=>⟨xs,(SF.trans c7).tup e,by rw[r.len];exact Nat.le_of_eq hi.symm⟩,λt ht=>?_⟩⟩;obtain⟨y,ey,ry⟩:=r.at_ ht;refine⟨⟨xs,y,(SF.trans c7).tup e,ey⟩,?_⟩;rintro x H3 ⟨rfl,hx⟩;have:=hx xs ((SF.trans c7).tup e);rw[ey]at this;cases this;exact⟨.refl _,ry.same SF⟩
noncomputable def rng(lo:Int)(n:Nat):List T:=(List.range n).map λk:Nat=>.int (lo+k)
theorem Uz{K:Frag}{lo:Int}{n:Nat}{F:Hp} : Wlk K (Itr lo n) F (rng lo n):=λS H i _ _=>⟨λhi=>by rw[rng,ak,List.length_range]at hi;exact Nat.le_of_eq hi.symm,λt ht=>by
 unfold rng at ht;rw[aq]at ht;by_cases hi:i<n
 .rw[List.getElem?_range hi]at ht;cases ht;refine⟨hi,?_⟩;rintro x H' ⟨rfl,rfl⟩;exact⟨.refl _,.int _⟩
 .rw[aM (by simpa using hi)]at ht;cases ht⟩
def akx(r:RA):RI:=λo q=>r o λts=>match ts with|[.int j]=>(-(2^62)<=j/\j<2^62)/\q (rng 0 j.toNat)|_=>False
def akP(r:RA):RI:=λo q=>r o λts=>match ts with|[.int i,.int j]=>(-(2^62)<=i/\i<2^62/\-(2^62)<=j/\j<2^62)/\q (rng i (j-i).toNat)|_=>False
theorem dB{r:RA}(hg:Gl X "range")(hm:X.mg "range"=none)(ha:QA X [a] r)(hs:starEach [a] X.env=[(false,eval a X.env)]:=by rfl):QI X tg (.Call (.Name "range" p) [a] [] pos) (akx r):=(Vy hg hm ha hs).imp λσ H Q ⟨own,o,R,h,hr,k⟩=>⟨own,o,_,h,hr,λH1 vs ts q _ E1 r1=>by
 match ts,q with
 |[.int j],q =>
  obtain⟨x,rfl,rx⟩:=r1.one;cases rx;exact⟨j,rfl,q.1.1,q.1.2,k H1 _ _ q.2 E1 Uz⟩⟩
theorem BZ{r:RA}(hg:Gl X "range")(hm:X.mg "range"=none)(ha:QA X [a,b] r)(hs:starEach [a,b] X.env=[(false,eval a X.env),(false,eval b X.env)]:=by rfl)(hs2:starEach [b] X.env=[(false,eval b X.env)]:=by rfl):QI X tg (.Call (.Name "range" p) [a,b] [] pos) (akP r):=(VD hg hm ha hs hs2).imp λσ H Q ⟨own,o,R,h,hr,k⟩=>⟨own,o,_,h,hr,λH1 vs ts q _ E1 r1=>by
 match ts,q with
 |[.int i,.int j],q =>
  obtain⟨x,y,rfl,rx,ry⟩:=r1.two;cases rx;cases ry;exact⟨i,j,rfl,q.1,k H1 _ _ q.2 E1 Uz⟩⟩
def xZ(ts:List T):List T:=ts.zipIdx.map λp=>.tup [.int (p.2:Nat),p.1]
def alf(r:RA):RI:=λo q=>r o λts=>match ts with|[.lst ts]=>q (xZ ts)|_=>False
theorem zN{r:RA}{elts:List Expr}{x1}(hg:Gl X "enumerate")(hm:X.mg "enumerate"=none)(ha:QA X [a] r)(hs:starEach [a] X.env=[(false,eval a X.env)]:=by rfl):QI X (.Tuple elts x1 tpos) (.Call (.Name "enumerate" p) [a] [] pos) (alf r):=(aaD hg hm ha hs).imp λσ H Q ⟨own,o,R,h,hr,k⟩=>⟨own,o,_,h,hr,λH1 vs ts q _ E1 r1=>by
 match ts,q with
 |[.lst ts],q =>
  obtain⟨x,rfl,rx⟩:=r1.one;obtain⟨a,xs,rfl,e,r⟩:=rx.lstI;refine⟨a,xs,rfl,(cQ e).2,k H1 _ _ q E1 λS H2 i hs SF=>⟨λhi=>⟨xs,(cQ (SF _ _ e)).2,by rw[r.len,hi];simp[xZ]⟩,λt ht=>?_⟩⟩;unfold xZ at ht;rw[aq]at ht;by_cases hi:i<ts.length
  .rw[aj (by simpa using hi),List.getElem_zipIdx]at ht;cases ht;obtain⟨y,ey,ry⟩:=r.at_ (aj hi);refine⟨⟨xs,(cQ (SF _ _ e)).2,by rw[r.len];exact hi⟩,?_⟩;rintro x H3 ⟨xs',x',t,e',ex,n,rfl,rfl⟩;rw[(cQ (SF _ _ e)).2]at e';cases e';rw[ey]at ex;cases ex;refine⟨Same.upd n,.tup (.of (Yt n hs)) (.cons ?_ (.cons (ry.same (SF.trans (bV (Same.upd n)))) .nil))⟩;rw[show((0+i:Nat):Int)=(i:Int)by lia];exact .int _
  .rw[aM (by simpa using hi)]at ht;cases ht⟩
def Gf(ts us:List T):List T:=(ts.zip us).map λp=>.tup [p.1,p.2]
def akk(r:RA):RI:=λo q=>r o λts=>match ts with|[.lst ts,.lst us]=>q (Gf ts us)|_=>False
theorem Lx{r:RA}{elts:List Expr}{x1}(hg:Gl X "zip")(hm:X.mg "zip"=none)(ha:QA X [a,b] r)(hs:starEach [a,b] X.env=[(false,eval a X.env),(false,eval b X.env)]:=by rfl)(hs2:starEach [b] X.env=[(false,eval b X.env)]:=by rfl):QI X (.Tuple elts x1 tpos) (.Call (.Name "zip" p) [a,b] [] pos) (akk r):=(acY hg hm ha hs hs2).imp λσ H Q ⟨own,o,R,h,hr,k⟩=>⟨own,o,_,h,hr,λH1 vs ts q _ E1 r1=>by
 match ts,q with
 |[.lst ts,.lst us],q =>
  obtain⟨x,y,rfl,rx,ry⟩:=r1.two;obtain⟨a,xs,rfl,e,r⟩:=rx.lstI;obtain⟨b,ys,rfl,e2,r2⟩:=ry.lstI;refine⟨a,b,xs,ys,rfl,(cQ e).2,(cQ e2).2,k H1 _ _ q E1 λS H2 i hs SF=>⟨λhi=>⟨xs,ys,(cQ (SF _ _ e)).2,(cQ (SF _ _ e2)).2,?_⟩,λt ht=>?_⟩⟩
  .rw[r.len,r2.len];rw[Gf,ak,List.length_zip]at hi;lia
  .unfold Gf at ht;rw[aq]at ht;by_cases hi:i<ts.length/\i<us.length
   .rw[aj (by rw[List.length_zip];omega),List.getElem_zip]at ht;cases ht;obtain⟨y,ey,ry⟩:=r.at_ (aj hi.1);obtain⟨z,ez,rz⟩:=r2.at_ (aj hi.2);refine⟨⟨xs,ys,(cQ (SF _ _ e)).2,(cQ (SF _ _ e2)).2,by rw[r.len];exact hi.1,by rw[r2.len];exact hi.2⟩,?_⟩;rintro x H3 ⟨xs',ys',x',y',t,e',e2',ex,ey',n,rfl,rfl⟩;rw[(cQ (SF _ _ e)).2]at e';cases e';rw[(cQ (SF _ _ e2)).2]at e2';cases e2';rw[ey]at ex;cases ex;rw[ez]at ey';cases ey';have S3:=SF.trans (bV (S:=S) (Same.upd (o:=.tup [y,z]) n));exact⟨Same.upd n,.tup (.of (Yt n hs)) (.cons (ry.same S3) (.cons (rz.same S3) .nil))⟩
   .rw[aM (by rw[List.length_zip];omega)]at ht;cases ht⟩
def uq(g:T->List OT->(List OT->Prop)->Prop)(b:RS)(E:DT):List T->List OT->Prop
 |[],o=>E.nx o
 |t::ts,o=>∃N:List OT->Prop,(∀o,N o->uq g b E ts o)/\g t o λo'=>b { E with nx:=N,ct:=N,bk:=E.nx } o'
def alE(it:RI)(g:T->List OT->(List OT->Prop)->Prop)(b:RS):RS:=λE o=>it o λxs=>uq g b E xs o
theorem dM{n:Nat}{iter:Expr}{body:List Stmt}{ri:RI}{g:T->List OT->(List OT->Prop)->Prop}{rb:RS}(hp:PassesOwn (model X.prog X.w) X.A X.env X.xe)(hc:X.calm=true)(hi:QI X tg iter ri)(hg:QG X n tg g)(hb:QSs X body rb)
 (hs:∀x,foldedSetIterable iter X.env x=pure x:=by intro _;rfl):QS X (.For tg iter body [] pos) (alE ri g rb):=(ado hp hc hi hg hb hs).imp λD σ H ⟨own,o,E,h,hr,L⟩=>⟨own,o,_,h,hr,λH1 J xs q E1 wk=>by
 refine⟨λi m σ' H'=>∃own' o',SR X.K own' H' σ' o'/\Same (hd (Ow own) H1) (hd (Ow own') H')/\uq g rb E (xs.drop i) o'/\i<=xs.length/\m=xs.length-i,⟨_,own,o,h.same E1,.refl _,q,aZ _,rfl⟩,?_⟩;rintro i m σ' H' ⟨own',o',h',S',hl,il,rfl⟩;obtain⟨w1,w2⟩:=wk (Ow own') H' i (λb z=>(h'.sole z).ne) S';have S0:=(bV E1).trans S';by_cases hi:i<xs.length
 .right;obtain⟨go,yl⟩:=w2 _ (aj hi);rw[List.drop_eq_getElem_cons hi]at hl;obtain⟨N,hN,hl⟩:=hl;refine⟨go,λσ2 H2=>∃own2 o2,SR X.K own2 H2 σ2 o2/\Same (hd (Ow own) H1) (hd (Ow own2) H2)/\uq g rb E (xs.drop (i+1)) o2,λσ2 H2 ⟨own2,o2,a,b,c⟩=>⟨xs.length-(i+1),by omega,own2,o2,a,b,c,hi,rfl⟩,λx H2 y=>?_⟩;obtain⟨E2,rx⟩:=yl x H2 y;refine⟨own',o',_,_,h'.same E2,rx,hl,λown3 σ3 o3 q3 go3 h3=>⟨own3,o3,_,h3,q3,?_⟩⟩;have S3:=S'.trans ((bV (S:=Ow own') E2).trans go3.same);have L3:=L.step ((bV E1).trans S3);exact⟨λown4 H4 σ4 o4 q S h=>⟨own4,o4,h,S3.trans S,hN _ q⟩,L3.rt,λown4 H4 σ4 o4 q S h=>L3.nx own4 H4 σ4 o4 q S h,λown4 H4 σ4 o4 q S h=>⟨own4,o4,h,S3.trans S,hN _ q⟩⟩
 .left;refine⟨w1 (by lia),?_⟩;rw[List.drop_eq_nil_of_le (Nat.not_lt.mp hi)]at hl;exact L.nx own' H' σ' o' hl S0 h'⟩
def adp(c:RT)(b:RS):RS:=λE o=>∃W:Nat->List OT->Prop,(∃m,W m o)/\∀m o,W m o->c o λk=>sw k (∃N:List OT->Prop,(∀o',N o'->∃m',m'<m/\W m' o')/\b { E with nx:=N,ct:=N,bk:=E.nx } o) (E.nx o)
theorem FZ{c:Expr}{body:List Stmt}{rc:RT}{rb:RS}(hp:PassesOwn (model X.prog X.w) X.A X.env X.xe)(hc:QT X c rc)(hb:QSs X body rb):QS X (.While c body [] pos) (adp rc rb):=(Xn hp hc hb).imp λD σ H hP=>by
 obtain⟨own,o,E,h,hr,L⟩:=hP;obtain⟨W,⟨m0,w0⟩,st⟩:=hr;refine⟨λm σ' H'=>∃own' o',SR X.K own' H' σ' o'/\Same (hd (Ow own) H) (hd (Ow own') H')/\W m o',⟨m0,own,o,h,.refl _,w0⟩,?_⟩;rintro m σ' H' ⟨own',o',h',S',wm⟩;refine tQT.mk h' (st m o' wm) λH1 k q E1=>Fy q (λhP=>?_) λq=>L.nx own' H1 σ' o' q (S'.trans (bV E1)) (h'.same E1);obtain⟨N,hN,q⟩:=hP;have S1:=S'.trans (bV E1);have L1:=L.step S1;refine⟨λσ2 H2=>∃own2 o2,SR X.K own2 H2 σ2 o2/\Same (hd (Ow own) H) (hd (Ow own2) H2)/\N o2,λσ2 H2 hP=>?_,own',o',_,h'.same E1,q,⟨λown4 H4 σ4 o4 q S h=>⟨own4,o4,h,S1.trans S,q⟩,L1.rt,λown4 H4 σ4 o4 q S h=>L1.nx own4 H4 σ4 o4 q S h,λown4 H4 σ4 o4 q S h=>⟨own4,o4,h,S1.trans S,q⟩⟩⟩;obtain⟨own2,o2,a,b,c⟩:=hP;obtain⟨m',lt,w⟩:=hN o2 c;exact⟨m',lt,own2,o2,a,b,w⟩
end
def iK(g:T->List OT->(List OT->Prop)->Prop)(c:RT)(e:RE)(o:List OT):List T->(List T->Prop)->Prop
 |[],q=>q []
 |t::ts,q=>∃(N:T->Prop)(M:Prop),(∀y,N y->iK g c e o ts λus=>q (y::us))/\(M->iK g c e o ts q)/\g t o λo'=>c o' λb=>sw b (e o' λy=>N (frz y)) M
def akn:RT:=λ_ q=>q true
def Vr(it:RI)(n:Nat)(g:T->List OT->(List OT->Prop)->Prop)(c:RT)(e:RE):RE:=λo q=>it o λxs=>xs.length<=sizeLine/\iK g c e (List.replicate n .und++o) xs λus=>q (.l1 us)
noncomputable def ownS(n L:Nat)(own:Nat->Ψ)(D:Addr):Nat->Ψ:=λi=>if i<n then[]else if i<n+L then own (i-n)else if i=n+L then[D]else own (i-n-1)
theorem Ow.ownS{n L:Nat}{own:Nat->Ψ}{D b:Addr} : Ow (ownS n L own D) b↔Ow own b\/b=D:=by
 constructor
 .rintro⟨i,z⟩;unfold L2.ownS at z;by_cases h1:i<n
  .rw[ZY h1]at z;cases z
  rw[ZZ h1]at z;by_cases h2:i<n+L
  .rw[ZY h2]at z;exact .inl ⟨_,z⟩
  rw[ZZ h2]at z;by_cases h3:i=n+L
  .rw[ZY h3]at z;exact .inr (YR.mp z)
  .rw[ZZ h3]at z;exact .inl ⟨_,z⟩
 .rintro(⟨i,z⟩|rfl)
  .by_cases h:i<L
   .exact⟨n+i,by unfold L2.ownS;rw[ZZ (Nat.not_lt_of_le (X1 _ _)),ZY (Nat.add_lt_add_left h _),show n+i-n=i by exact Nat.add_sub_cancel_left _ _];exact z⟩
   .exact⟨n+i+1,by unfold L2.ownS;rw[ZZ (by lia),ZZ (by lia),ZZ (by lia),show n+i+1-n-1=i by lia];exact z⟩
  .exact⟨n+L,by unfold L2.ownS;rw[ZZ (Nat.not_lt_of_le (X1 _ _)),ZZ (X2 _),ZY rfl];simp⟩
theorem SR.block{K:Frag}{own:Nat->Ψ}{H:Hp}{σ:L2.St}{o:List OT}(h:SR K own H σ o){D:Addr}{ys:Ζ}{H':Hp}(E:Same H H')(nD:H D=none)(eD:H' D=some (.lst ys))(pre:L2.St):SR K (ownS pre.length o.length own D) H' (pre++σ) (List.replicate pre.length .und++o):=by
 have le:Same (hd (Ow own) H) (hd (Ow (ownS pre.length o.length own D)) H'):=g_ (λb z=>(Ow.ownS.mp z).imp id λ(e:b=D)=>e ▸ nD) E;have ndj:∀j,D∉own j:=λj z=>(h.sole ⟨j,z⟩).ne nD;refine⟨by simp[h.len],λi x e=>?_,λi hi a ha=>?_,λi j a e1 e2=>?_⟩
 .by_cases h1:i<pre.length
  .rw[aF (by simpa using h1),XG,ZY h1]at e;cases e;show ownS _ _ _ _ i=[];unfold ownS;rw[ZY h1]
  .rw[aD (by simpa using h1),aN]at e;have h2:i-pre.length<o.length:=(ao.mp e).1;rw[aD (Nat.not_lt.mp h1)];have:ownS pre.length o.length own D i=own (i-pre.length):=by unfold ownS;rw[ZZ h1,ZY (by omega)]
   rw[this];exact(h.sl _ x e).same le E
 .rw[aA,aN]at hi;unfold ownS at ha;rw[ZZ (by lia),ZZ (Nat.not_lt_of_le hi)]at ha;by_cases h3:i=pre.length+o.length
  .rw[ZY h3]at ha;cases YR.mp ha;exact⟨_,eD⟩
  .rw[ZZ h3]at ha;obtain⟨xs,e⟩:=h.out _ (by lia) a ha;exact⟨xs,E _ _ e⟩
 .unfold ownS at e1 e2;by_cases a1:i<pre.length
  .rw[ZY a1]at e1;cases e1
  by_cases b1:j<pre.length
  .rw[ZY b1]at e2;cases e2
  rw[ZZ a1]at e1;rw[ZZ b1]at e2;by_cases a2:i<pre.length+o.length<;>by_cases b2:j<pre.length+o.length
  .rw[ZY a2]at e1;rw[ZY b2]at e2;have:=h.dis _ _ a e1 e2;omega
  .rw[ZY a2]at e1;rw[ZZ b2]at e2;by_cases b3:j=pre.length+o.length
   .rw[ZY b3]at e2;cases YR.mp e2;exact absurd e1 (ndj _)
   .rw[ZZ b3]at e2;have:=h.dis _ _ a e1 e2;omega
  .rw[ZZ a2]at e1;rw[ZY b2]at e2;by_cases a3:i=pre.length+o.length
   .rw[ZY a3]at e1;cases YR.mp e1;exact absurd e2 (ndj _)
   .rw[ZZ a3]at e1;have:=h.dis _ _ a e1 e2;lia
  .rw[ZZ a2]at e1;rw[ZZ b2]at e2;by_cases a3:i=pre.length+o.length<;>by_cases b3:j=pre.length+o.length
   .exact Eq.trans a3 (Eq.symm b3)
   .rw[ZY a3]at e1;rw[ZZ b3]at e2;cases YR.mp e1;exact absurd e2 (ndj _)
   .rw[ZZ a3]at e1;rw[ZY b3]at e2;cases YR.mp e2;exact absurd e1 (ndj _)
   .rw[ZZ a3]at e1;rw[ZZ b3]at e2;have:=h.dis _ _ a e1 e2;lia
theorem QV{n:Nat}{own own':Nat->Ψ}{pre σ σ':L2.St}(hp:pre.length=n)(g:Cd n own own' (pre++σ) σ'):∃pre':L2.St,pre'.length=n/\σ'=pre'++σ:=by
 obtain⟨_,l,k⟩:=g;refine⟨σ'.take n,by rw[aY,l,aA];lia,?_⟩;refine List.ext_getElem? λi=>?_;by_cases hi:i<n
 .rw[aF (by rw[aY,l,aA];lia),List.getElem?_take_of_lt hi]
 .rw[aD (by rw[aY,l,aA];lia),k i (Nat.le_of_not_lt hi),aD (by lia),aY,l,aA]
  congr 1
  lia
theorem PB{K:Frag}{σ:L2.St}{Q:VK}{n:Nat}{g:T->List OT->(List OT->Prop)->Prop}{rc:RT}{re:RE}{own:Nat->Ψ}{o:List OT}{H1:Hp}{J:It}{xs:List T}{R:OT->Prop}{D:Addr}(h1:SR K own H1 σ o)(wk:Wlk K J (hd (Ow own) H1) xs)(lx:xs.length<=sizeLine)(q:iK g rc re (List.replicate n .und++o) xs λus=>R (.l1 us))(nD:H1 D=none)(k:∀H' v x,R x->Same H1 H'->NR K (Ow own) H1 H' v x->Q v H') :
  ∃W:Nat->Nat->Ζ->Hp->Prop,(∃m,W 0 m [] (upd H1 D (.lst [])))/\∀i m ys Hc,W i m ys Hc ->
   (J.stop i Hc/\Q (.ref D) Hc)\/(J.go i Hc/\∀x H',J.yld i Hc x H'->∀pre:L2.St,pre.length=n->tMG (tQG K n g) x (pre++σ) H' λσ2 H2=>∃pre':L2.St,pre'.length=n/\σ2=pre'++σ/\tMT (tQT K rc) σ2 H2 λb H3 =>
    match b with
    |true=>tM (tQ K re) σ2 H3 λy H4=>ys.length<sizeLine/\H4 D=some (.lst ys)/\∃m',m'<m/\W (i+1) m' (ys++[y]) (upd H4 D (.lst (ys++[y])))
    |false=>∃m',m'<m/\W (i+1) m' ys H3):=by
 generalize hO:List.replicate n OT.und++o=ob at q;refine⟨λi m ys Hc=>∃ts,Hc D=some (.lst ys)/\Same H1 Hc/\bW K (hd (λb=>Ow own b\/b=D) Hc) ys ts/\ys.length<=i/\i<=xs.length/\m=xs.length-i/\iK g rc re ob (xs.drop i) λus=>R (.l1 (ts++us)),⟨_,[],cF,Same.upd nD,.nil,aG _,aZ _,rfl,q⟩,?_⟩;rintro i m ys Hc ⟨ts,eD,Ec,rs,il,ix,rfl,hl⟩;have hn:∀b,Ow own b\/b=D->Hc b≠none:=λb z=>z.elim (λz=>((h1.same Ec).sole z).ne) λe z=>by rw[e,eD]at z;cases z
 have SD:Same (hd (Ow own) H1) (hd (λb=>Ow own b\/b=D) Hc):=g_ (λb z=>z.imp id λ(e:b=D)=>e ▸ nD) Ec;obtain⟨w1,w2⟩:=wk (λb=>Ow own b\/b=D) Hc i hn SD;by_cases hi:i<xs.length
 .right;obtain⟨go,yl⟩:=w2 _ (aj hi);rw[List.drop_eq_getElem_cons hi]at hl;obtain⟨N,M,hN,hM,hl⟩:=hl;refine⟨go,λx H2 y pre hp=>?_⟩;obtain⟨E2,rx⟩:=yl x H2 y;have eO:(λb=>Ow own b\/b=D)=Ow (ownS n o.length own D):=funext λb=>propext Ow.ownS.symm;have hb:SR K (ownS n o.length own D) H2 (pre++σ) ob:=by
   have:=h1.block (Ec.trans E2) nD (E2 _ _ eD) pre;rw[hp,hO]at this;exact this
  rw[eO]at rx rs;refine⟨_,⟨ownS n o.length own D,ob,_,_,hb,rx,hl,λown3 σ3 o3 q3 go3 h3=>?_⟩,λ_ _ z=>z⟩;obtain⟨pre',hp',rfl⟩:=QV hp go3;have e3:own3=ownS n o.length own D:=funext λj=>by
   rcases go3.1 j with e|⟨e1,e2⟩
   .exact e
   .rw[e2];unfold ownS;rw[ZY e1]
  subst e3;refine⟨pre',hp',rfl,_,tQT.mk h3 q3 λH3 b q4 E3=>?_,λ_ _ z=>z⟩;have q4:sw b (re o3 λy=>N (frz y)) M:=q4;cases b with
  |false=>exact⟨xs.length-(i+1),by lia,ts,E3 _ _ (E2 _ _ eD),Ec.trans (E2.trans E3),by rw[eO];exact rs.same (bV (E2.trans E3)),by exact aL il (X1 _ _),by exact hi,rfl,hM q4⟩
  |true =>
   refine⟨_,tQ.mk (h3.same E3) q4 λH4 v y q5 E4 r4=>⟨by lia,E4 _ _ (E3 _ _ (E2 _ _ eD)),xs.length-(i+1),by lia,ts++[frz y],cF,λb u e=>?_,?_,by rw[aA,List.length_singleton];exact Nat.succ_le_succ il,by exact hi,rfl,?_⟩,λ_ _ z=>z⟩
   .rw[cC λz=>by rw[z,nD]at e;cases e];exact E4 _ _ (E3 _ _ (E2 _ _ (Ec _ _ e)))
   .rw[BL (S:=λb=>Ow own b\/b=D) (.inr rfl),eO];exact(rs.same (bV (E2.trans (E3.trans E4)))).app (.cons r4 .nil)
   .have:=hN _ q5;simp only[Wp,List.singleton_append];exact this
 .left;have:i=xs.length:=by lia
  refine⟨w1 this,?_⟩;rw[List.drop_eq_nil_of_le (Nat.le_of_not_lt hi)]at hl;have hl:R (.l1 (ts++[])):=hl;rw[List.append_nil]at hl;exact k Hc _ _ hl Ec (NR.l1 nD eD rs)
theorem Fx{K:Frag}{σ:L2.St}{H:Hp}{Q:VK}{ri:RI}{n:Nat}{g:T->List OT->(List OT->Prop)->Prop}{rc:RT}{re:RE}(h:tQ K (Vr ri n g rc re) σ H Q):rA (tQI K ri) n (tMG (tQG K n g)) (tMT (tQT K rc)) (tM (tQ K re)) σ H Q:=by
 obtain⟨own,o,R,h,hr,k⟩:=h;exact⟨own,o,_,h,hr,λH1 J xs q E1 wk D nD=>PB (h.same E1) wk q.1 q.2 nD λH' v x rx E n=>k H' v x rx (E1.trans E) (n.back E1)⟩
section
variable{X:Cx}{tg iter elt:Expr}{ifs:List Expr}{ri:RI}{g:T->List OT->(List OT->Prop)->Prop}{rc:RT}{re:RE}{scope:Scope}{pos:Pos}
def QTs(X:Cx)(ifs:List Expr)(r:RT):Prop:=PTs X ifs (tQT X.K r)
theorem cD:QTs X [] akn:=λpins s σ H Q I hP=>by obtain⟨own,o,R,h,hr,k⟩:=hP;exact abk pins s σ H Q I (k H true hr (.refl _))
theorem Tz{c:Expr}{rc:RT}(h:QT X c rc):QTs X [c] rc:=aaI h
theorem dG(sc:Scope)(N N' xs:Φ)(hi:QI X tg iter ri)(hg:∀{C s₀ H₀ ex pn},QG (X.compG N' scope xs C s₀ H₀ ex pn) xs.length tg g)(ht:∀{C s₀ H₀ ex pn},QTs (X.compG N' scope xs C s₀ H₀ ex pn) ifs rc)(he:∀{C s₀ H₀ ex pn},QE (X.compG N' scope xs C s₀ H₀ ex pn) elt re)
 (hsc:X.env.scope=sc:=by rfl)(hNN:X.N=N:=by rfl)(hc:X.calm=true:=by rfl)(hk:scope.kind=.function:=by rfl)(h:CK sc scope N N' xs:=by decide +kernel)(hs:∀z,foldedSetIterable iter X.env z=pure z:=by intro _;rfl):QE X (.ListComp elt [⟨tg,iter,ifs,0⟩] scope pos) (Vr ri xs.length g rc re) :=
 (YW (gt:=tQG X.K xs.length g) (tc:=tQT X.K rc) (te:=tQ X.K re) sc N N' xs hi hg ht he hsc hNN hc hk h hs).imp λ_ _ _=>Fx
theorem ab4(sc:Scope)(N N':Φ)(x0:Str)(hi:QI X tg iter ri)(hg:∀{C s₀ H₀ ex pn},QG (X.compGC N' scope x0 C s₀ H₀ ex pn) 1 tg g)(ht:∀{C s₀ H₀ ex pn},QTs (X.compGC N' scope x0 C s₀ H₀ ex pn) ifs rc)(he:∀{C s₀ H₀ ex pn},QE (X.compGC N' scope x0 C s₀ H₀ ex pn) elt re)
 (hsc:X.env.scope=sc:=by rfl)(hNN:X.N=N:=by rfl)(hc:X.calm=true:=by rfl)(hk:scope.kind=.function:=by rfl)(hcf:∀n acc,cellsFrom n scope.names acc=(x0,n)::acc:=by intro _ _;rfl)(hpc:∀h,pushCells h scope.names=h.push { cls:=.type "cell",data:=.cell none }:=by intro _;rfl)(h:(∀y∈scope.names,y.2=.cell->y.1=x0)/\CK0 sc scope N N' [x0]:=by decide +kernel)(hs:∀z,foldedSetIterable iter X.env z=pure z:=by intro _;rfl):QE X (.ListComp elt [⟨tg,iter,ifs,0⟩] scope pos) (Vr ri 1 g rc re) :=
 (Yz (gt:=tQG X.K 1 g) (tc:=tQT X.K rc) (te:=tQ X.K re) sc N N' x0 hi hg ht he hsc hNN hc hk hcf hpc h hs).imp λ_ _ _=>Fx
theorem Ul{N0:Φ}{x0:Str}{sO:Scope}{C0:Addr}{s0:Shared}{H0:Hp}{ex0:Ψ}{pn0:Δ}(sc:Scope)(N N' xs:Φ)(hi:QI (X.compGC N0 sO x0 C0 s0 H0 ex0 pn0) tg iter ri)(hg:∀{C s₀ H₀ ex pn},QG ((X.compGC N0 sO x0 C0 s0 H0 ex0 pn0).compG N' scope xs C s₀ H₀ ex pn) xs.length tg g)(ht:∀{C s₀ H₀ ex pn},QTs ((X.compGC N0 sO x0 C0 s0 H0 ex0 pn0).compG N' scope xs C s₀ H₀ ex pn) ifs rc)(he:∀{C s₀ H₀ ex pn},QE ((X.compGC N0 sO x0 C0 s0 H0 ex0 pn0).compG N' scope xs C s₀ H₀ ex pn) elt re)
 (hsc:X.env.scope=sc:=by rfl)(hNN : [x0]++N0=N:=by rfl)(hc:X.calm=true:=by rfl)(hk:scope.kind=.function:=by rfl)(h:CK (rlb sc sO) scope N N' xs:=by decide +kernel)(hs:∀z,foldedSetIterable iter (X.compGC N0 sO x0 C0 s0 H0 ex0 pn0).env z=pure z:=by intro _;rfl):QE (X.compGC N0 sO x0 C0 s0 H0 ex0 pn0) (.ListComp elt [⟨tg,iter,ifs,0⟩] scope pos) (Vr ri xs.length g rc re) :=
 PE.imp (adz (gt:=tQG X.K xs.length g) (tc:=tQT X.K rc) (te:=tQ X.K re) sc N N' xs hi hg ht he hsc hNN hc hk h hs) λ_ _ _=>Fx
theorem ac3{i0:Nat}{y0:Str}{py spos:Pos}(sc:Scope)(N N' xs:Φ)(hi:QI X tg iter ri)(hg:∀{C s₀ H₀ ex pn},QG (X.compG N' scope xs C s₀ H₀ ex pn) xs.length tg g)(ht:∀{C s₀ H₀ ex pn},QTs (X.compG N' scope xs C s₀ H₀ ex pn) ifs rc)(he:∀{C s₀ H₀ ex pn},QE (X.compG N' scope xs C s₀ H₀ ex pn) elt re)(hgy:PG X (.Name y0 py) (wH i0))
 (hsc:X.env.scope=sc:=by rfl)(hNN:X.N=N:=by rfl)(hc:X.calm=true:=by rfl)(hk:scope.kind=.function:=by rfl)(h:CK sc scope N N' xs:=by decide +kernel)(hsw:swapsWith (.ListComp elt [⟨tg,iter,ifs,0⟩] scope pos) (some (.Name y0 py)) spos.line X.env=pure true:=by rfl)(hs:∀z,foldedSetIterable iter X.env z=pure z:=by intro _;rfl) :
  QS X (.Assign [.Name y0 py] (.ListComp elt [⟨tg,iter,ifs,0⟩] scope pos) spos) (aeW i0 (Vr ri xs.length g rc re)):=(ZJ (gt:=tQG X.K xs.length g) (tc:=tQT X.K rc) (te:=tQ X.K re) sc N N' xs hi hg ht he hgy hsc hNN hc hk h hsw hs).imp λD σ H ⟨own,o,E,h,hr,L⟩=>Fx ⟨own,o,_,h,hr,λH' v y q S n=>by
 obtain⟨own',h',S'⟩:=h.putA S n i0;exact L.nx own' H' _ _ q S' h'⟩
theorem fu{N' xs:Φ}{C s₀ H₀ ex pn}{n i:Nat}{x:Str}{p:Pos}(hN:(xs++N').Nodup:=by decide +kernel)(hi:(xs++N')[i]?=some x:=by rfl)(hn:i<n:=by decide)(hx:Loc (X.compG N' scope xs C s₀ H₀ ex pn).env.scope x:=by exact Or.inl rfl)(hf:(X.compG N' scope xs C s₀ H₀ ex pn).fn x=true\/(X.compG N' scope xs C s₀ H₀ ex pn).env.scope.names.lookup x=some .local:=by exact Or.inr rfl):QG (X.compG N' scope xs C s₀ H₀ ex pn) n (.Name x p) (hName i):=bY i hN hx hi hn hf
theorem acJ{N':Φ}{x0:Str}{C s₀ H₀ ex pn}{p:Pos}(hN:([x0]++N').Nodup:=by decide +kernel)(hx:Loc (X.compGC N' scope x0 C s₀ H₀ ex pn).env.scope x0:=by exact Or.inr rfl):QG (X.compGC N' scope x0 C s₀ H₀ ex pn) 1 (.Name x0 p) (hName 0)   := bY 0 hN hx rfl (by decide) (.inl (beq_self_eq_true _))
end
theorem Wn{g:T->List OT->(List OT->Prop)->Prop}{c:RT}{e:RE}{o:List OT}{t:T}{ts:List T}{q:List T->Prop}(h:g t o λo'=>c o' λb=>sw b (e o' λy=>iK g c e o ts λus=>q (frz y::us)) (iK g c e o ts q)):iK g c e o (t::ts) q:=⟨λy=>iK g c e o ts λus=>q (y::us),_,λ_ h=>h,id,h⟩
section
variable{X:Cx}{a b e:Expr}{ra rb re:RE}{rt:RT}{pos:Pos}
theorem bW.reps{K:Frag}{F:Hp}{xs:Ζ}{ts:List T}(h:bW K F xs ts):∀n:Nat,bW K F (List.replicate n xs).flatten (List.replicate n ts).flatten
 |0=>.nil
 |n+1=>by rw[List.replicate_succ,List.replicate_succ,List.flatten_cons,List.flatten_cons];exact h.app (bW.reps h n)
theorem cV:GO X (binaryOp .Mult) ale:=λpins s σ H x y v u Q I rx ry h=>by
 obtain⟨S,t,w,R,_,hx,hy,hg,k⟩:=h;cases w with
 |int j=>?_
 |_=>cases t<;>exact hg.elim
 cases hy;cases t<;>try exact hg.elim
 .cases hx;exact abF pins s σ H _ _ v u Q I rx ry ⟨_,_,rfl,rfl,hg.1,k H _ _ hg.2 (.refl _) (NR.fz (.int _))⟩
 .cases hx;obtain⟨c,rfl,h1,h2,q⟩:=hg;exact ab7 pins s σ H _ _ v u Q I rx ry ⟨c,j,rfl,rfl,h1,h2,λz hz=>k H _ _ (q z hz) (.refl _) (NR.fz (.str _))⟩
 .obtain⟨p,xs,rfl,e,r⟩:=hx.lstI;obtain⟨⟨h1,h2,h3⟩,q⟩:=hg;exact aeM pins s σ H _ _ v u Q I rx ry ⟨p,j,xs,rfl,rfl,(cQ e).2,h1,h2,by rw[r.len];exact h3,λa ha=>k _ _ _ (q _ rfl) (Same.upd ha) (yu (r.reps j.toNat) (Same.upd ha) ha cF)⟩
mutual
def ofD:PyData->T
 |.none=>.non
 |.bool b=>.bl b
 |.int i=>.int i
 |.str s=>.str s
 |.list ds=>.lst (YT ds)
 |.tuple ds=>.tup (YT ds)
 |.dict _=>.any
def YT:List PyData->List T
 |[]=>[]
 |d::ds=>ofD d::YT ds
end
mutual
theorem Rep.shows{K:Frag}{F:Hp} : ∀{x:V}{t:T},Rep K F x t->∀d,t=ofD d->d.canLay0=true->fV K F x d
 |_,_,.any v,d,e,s=>by cases d<;>cases e;cases s
 |_,_,.non,d,e,_=>by cases d<;>cases e;exact .non
 |_,_,.bl b,d,e,_=>by cases d<;>cases e;exact .bl _
 |_,_,.int i,d,e,_=>by cases d<;>cases e;exact .int _
 |_,_,.str s,d,e,_=>by cases d<;>cases e;exact .str _
 |_,_,.val v,d,e,_=>by cases d<;>cases e
 |_,_,.tup q h,d,e,s=>by
  cases d<;>cases e;exact .tup q (bW.shows h _ rfl s)
 |_,_,.lst q h,d,e,s=>by
  cases d<;>cases e;exact .lst q (bW.shows h _ rfl s)
 |_,_,.scr q h,d,e,_=>by cases d<;>cases e
 |_,_,.dct q l h,d,e,_=>by cases d<;>cases e
 |_,_,.ins q d' l h,d,e,_=>by cases d<;>cases e
theorem bW.shows{K:Frag}{F:Hp} : ∀{xs:Ζ}{ts:List T},bW K F xs ts->∀ds,ts=YT ds->PyData.canLayAll0 ds=true->eE K F xs ds
 |_,_,.nil,ds,e,_=>by cases ds<;>cases e;exact .nil
 |_,_,.cons a b,ds,e,s=>by
  cases ds<;>cases e;obtain⟨s1,s2⟩:=Bool.and_eq_true_iff.mp s;exact .cons (Rep.shows a _ rfl s1) (bW.shows b _ rfl s2)
end
noncomputable def xr:Bool->Bool->Bool
 |false,b=>b
 |true,b=>!b
noncomputable def eqS:T->T->Option Bool
 |.int i,.int j=>some (decide (i=j))
 |.str i,.str j=>some (decide (i=j))
 |.bl i,.bl j=>some (decide (i=j))
 |.non,.non=>some true
 |.non,.int _=>some false
 |.int _,.non=>some false
 |.non,.str _=>some false
 |.str _,.non=>some false
 |.int _,.str _=>some false
 |.str _,.int _=>some false
 |.tup [.int a,.int b],.tup [.int c,.int d]=>some (decide (a=c)&&decide (b=d))
 |_,_=>none
def gEq(neg:Bool)(t u:T)(q:OT->Prop):Prop:=match eqS t u with
 |some b=>q (.fz (.bl (xr neg b)))
 |none=>∃d e,t=ofD d/\u=ofD e/\SeqAt.shaped d=true/\SeqAt.shaped e=true/\q (.fz (.bl (xr neg (PyData.eqv d e))))
theorem acT(a b c d:Int):PyData.eqv (.tuple [.int a,.int b]) (.tuple [.int c,.int d])=(decide (a=c)&&decide (b=d)):=by
 simp only[PyData.eqv,PyData.eqvAll,Bool.and_true]
 rfl
theorem ad5{K:Frag}{F H:Hp}{x y:V}{t u:T}{b:Bool}(S:Same F H)(hx:Rep K F x t)(hy:Rep K F y u)(e:eqS t u=some b):(sW x y=true/\decide (x=y)=b)\/∃d e,fV K H x d/\fV K H y e/\SeqAt.shaped d=true/\SeqAt.shaped e=true/\PyData.eqv d e=b:=by
 unfold eqS at e;split at e<;>cases e
 .cases hx;cases hy;exact .inl ⟨rfl,by simp⟩
 .cases hx;cases hy;exact .inl ⟨rfl,by simp⟩
 .cases hx;cases hy;exact .inl ⟨rfl,by simp⟩
 .cases hx;cases hy;exact .inl ⟨rfl,rfl⟩
 .cases hx;cases hy;exact .inl ⟨rfl,rfl⟩
 .cases hx;cases hy;exact .inl ⟨rfl,rfl⟩
 .cases hx;cases hy;exact .inl ⟨rfl,rfl⟩
 .cases hx;cases hy;exact .inl ⟨rfl,rfl⟩
 .cases hx;cases hy;exact .inl ⟨rfl,rfl⟩
 .cases hx;cases hy;exact .inl ⟨rfl,rfl⟩
 .exact .inr ⟨.tuple [.int _,.int _],.tuple [.int _,.int _],(hx.shows _ rfl rfl).same S,(hy.shows _ rfl rfl).same S,rfl,rfl,acT _ _ _ _⟩
theorem Xx(neg:Bool){op:CmpOp}(h1:OpR X (compareOp op) λx y H Q=>sW x y=true/\Q (.bl (xr neg (decide (x=y)))) H)(h2:OpR X (compareOp op) (abD X.K neg)):GO X (compareOp op) (gEq neg):=λpins s σ H x y v u Q I rx ry h=>by
 obtain⟨S,t,w,R,_,hx,hy,hg,k⟩:=h;have xe:∀b:Bool,(if neg then !b else b)=xr neg b:=λb=>by cases neg<;>rfl
 unfold gEq at hg;cases es:eqS t w with
 |some b =>
  rw[es]at hg;rcases ad5 c7 hx hy es with⟨a,c⟩|⟨d,e,s1,s2,s3,s4,c⟩
  .exact h1 pins s σ H x y v u Q I rx ry ⟨a,by rw[c];exact k H _ _ hg (.refl _) (NR.fz (.bl _))⟩
  .exact h2 pins s σ H x y v u Q I rx ry ⟨d,e,s1,s2,s3,s4,by rw[xe,c];exact k H _ _ hg (.refl _) (NR.fz (.bl _))⟩
 |none =>
  rw[es]at hg;obtain⟨d,e,e1,e2,s1,s2,q⟩:=hg;exact h2 pins s σ H x y v u Q I rx ry ⟨d,e,(hx.shows d e1 (Bool.and_eq_true_iff.mp s1).1).same c7,(hy.shows e e2 (Bool.and_eq_true_iff.mp s2).1).same c7,s1,s2,by rw[xe];exact k H _ _ q (.refl _) (NR.fz (.bl _))⟩
theorem go_eq(hu:X.A.units+64<cLine):GO X (compareOp .Eq) (gEq false):=Xx false aia (afe hu)
theorem lA(hu:X.A.units+64<cLine):GO X (compareOp .NotEq) (gEq true):=Xx true ajz (aej hu)
def flat:OT->Prop
 |.fz (.int _)=>True
 |.fz (.bl _)=>True
 |.fz (.str _)=>True
 |.fz .non=>True
 |_=>False
def alm(i:Nat)(a:RE):RE:=λo q=>match slot o i with|.und=>False|x=>a (o.set i (.fz (frz x))) λy=>flat y/\q y
def agL(i:Nat)(a:RT):RT:=λo q=>match slot o i with|.und=>False|x=>a (o.set i (.fz (frz x))) q
theorem U9{i:Nat}{o:List OT}{P:OT->Prop}(h:match slot o i with|.und=>False|x=>P x):P (slot o i)/\slot o i≠.und:=by
 cases e:slot o i<;>rw[e]at h<;>first|exact h.elim|exact⟨h,λz=>by cases z⟩
theorem Nz(i:Nat)(h:QE X e re):QE X e (alm i re):=PE.imp h λσ H Q hP=>by
 obtain⟨own,o,R,h,hr,k⟩:=hP;obtain⟨hr,ne⟩:=U9 (P:=λx=>re (o.set i (.fz (frz x))) λy=>flat y/\R y) hr;obtain⟨u,e1,s⟩:=h.val rfl ne;obtain⟨own',h',S⟩:=h.frz (gH rfl ne) e1;refine⟨own',_,_,h',hr,λH' v x q E n=>k H' v x q.2 E ?_⟩;have fl:=q.1;have rp:=n.rep λb z=>(h'.sole z).ne;cases x with
 |fz t=>cases t<;>first|exact fl.elim|(cases rp;first|exact NR.fz (.int _)|exact NR.fz (.bl _)|exact NR.fz (.str _)|exact NR.fz .non)
 |_=>exact fl.elim
theorem R0(i:Nat)(h:QT X e rt):QT X e (agL i rt):=PT.imp h λσ H Q hP=>by
 obtain⟨own,o,R,h,hr,k⟩:=hP;obtain⟨hr,ne⟩:=U9 (P:=λx=>rt (o.set i (.fz (frz x))) R) hr;obtain⟨u,e1,s⟩:=h.val rfl ne;obtain⟨own',h',S⟩:=h.frz (gH rfl ne) e1;exact⟨own',_,_,h',hr,k⟩
noncomputable def Wh:T->Option Key
 |.int i=>some (.inl i)
 |.str s=>some (.inr s)
 |_=>none
noncomputable def oY{α:Type} : List Key->List α->Key->Option α
 |k::ks,t::ts,j=>if k=j then some t else oY ks ts j
 |_,_,_=>none
theorem Nb{K:Frag}{F:Hp}{x:V}{t:T}{k:Key}(h:Rep K F x t)(e:Wh t=some k):x=kV k:=by
 cases h<;>cases e<;>rfl
theorem CN{K:Frag}{F:Hp}{k:Key} : ∀{ks:List Key}{xs:Ζ}{ts:List T},bW K F xs ts->(∀t,oY ks ts k=some t->∃x,Ge (ks.zip xs) k=some x/\Rep K F x t)/\(oY ks ts k=none->Ge (ks.zip xs) k=none)
 |[],_,_,_=>⟨λ_ z=>(nomatch z),λ_=>rfl⟩
 |_::_,_,_,.nil=>⟨λ_ z=>(nomatch z),λ_=>rfl⟩
 |j::ks,_,_,.cons a b=>by
  by_cases h:j=k
  .refine⟨λt z=>?_,λz=>?_⟩
   .unfold oY at z;rw[ZY h]at z;cases z;exact⟨_,Qh h,a⟩
   .unfold oY at z;rw[ZY h]at z;cases z
  .obtain⟨i1,i2⟩:=CN (k:=k) (ks:=ks) b;refine⟨λt z=>?_,λz=>?_⟩
   .unfold oY at z;rw[ZZ h]at z;obtain⟨x,e,r⟩:=i1 t z;exact⟨x,(GK h).trans e,r⟩
   .unfold oY at z;rw[ZZ h]at z;exact(GK h).trans (i2 z)
def agb:T->T->(OT->Prop)->Prop
 |.dct ks ts,u,q=>∃k t,Wh u=some k/\oY ks ts k=some t/\q (.fz t)
 |_,_,_=>False
theorem M9(hu:X.A.units+1<cLine)(ha:QE X a ra)(hb:QE X b rb)(hs:adi b:=by exact λ_ _=>rfl):QE X (.Subscript a b pos) (rOp agb ra rb):=(aa9 hu ha hb hs).imp λσ H Q ⟨own,o,R,h,hr,k⟩=>tQ.mk h hr λH1 v x q E1 r1=>tQ.mk (h.same E1) q λH2 w y q E2 r2=>by
 have r1:=r1.same (bV E2)
 revert r1 q
 generalize frz x=t;intro q r1;cases t<;>try exact q.elim
 obtain⟨d,xs,rfl,e,l,r⟩:=r1.dctI;obtain⟨j,t,e1,e2,q⟩:=q;obtain⟨z,e3,r3⟩:=(CN r).1 t e2;cases Nb r2 e1;exact⟨d,z,rfl,.inl ⟨_,_,c7.rd e,rfl,e3.symm⟩,k H2 _ _ q (E1.trans E2) (NR.fz r3)⟩
def aer(neg:Bool):T->T->(OT->Prop)->Prop
 |u,.dct ks ts,q=>∃k,Wh u=some k/\q (.fz (.bl (xr neg (oY ks ts k).isSome)))
 |_,_,_=>False
theorem Xa{neg:Bool}{σ:L2.St}{H:Hp}{Q:VK}(h:tQ X.K (rOp (aer neg) ra rb) σ H Q):(tQ X.K ra) σ H λy H1=>(tQ X.K rb) σ H1 λx H2=>∃a o,x=.ref a/\Cw H2 a y o/\Q (.bl (xr neg o.isSome)) H2:=by
 obtain⟨own,o,R,h,hr,k⟩:=h;refine tQ.mk h hr λH1 v x q E1 r1=>tQ.mk (h.same E1) q λH2 w y q E2 r2=>?_;have r1:=r1.same (bV E2)
 revert r2 q
 generalize frz y=t;intro q r2;cases t with
 |dct ks ts =>
  obtain⟨d,xs,rfl,e,l,r⟩:=r2.dctI;obtain⟨j,e1,q⟩:=q;cases Nb r1 e1;refine⟨d,_,rfl,.inl ⟨_,_,c7.rd e,rfl,rfl⟩,?_⟩;have:(Ge (ks.zip xs) j).isSome=(oY ks ts j).isSome:=by
   cases z:oY ks ts j with
   |none=>rw[(CN r).2 z];rfl
   |some t=>obtain⟨x,e,_⟩:=(CN r).1 t z;rw[e];rfl
  rw[this];exact k H2 _ _ q (E1.trans E2) (NR.fz (.bl _))
 |_=>cases frz x<;>exact q.elim
theorem acy{r:RE}{tt:TE}(i:∀σ H Q,tQ X.K r σ H Q->tt σ H Q){σ:L2.St}{H:Hp}{Q:Bool->Hp->Prop}(h:tQT X.K (rB r) σ H Q):tB tt σ H Q:=by
 obtain⟨own,o,R,h,hr,k⟩:=h;refine i σ H _ (tQ.mk h hr λH1 v x q E1 r1=>?_)
 revert r1 q
 generalize frz x=t;intro q r1;cases r1<;>try exact q.elim
 exact⟨_,rfl,k _ _ q E1⟩
theorem Yc(hu:X.A.units+1<cLine)(ha:QE X a ra)(hb:QE X b rb)(h1:behindInMarks .In b=false:=by rfl):QT X (.Compare a [.In] [b] pos) (rB (rOp (aer false) ra rb)):=(YX (aek hu ha hb) h1).imp λ_ _ _=>acy λ_ _ _=>Xa (neg:=false)
theorem VP(hu:X.A.units+1<cLine)(ha:QE X a ra)(hb:QE X b rb)(h1:behindInMarks .NotIn b=false:=by rfl):QT X (.Compare a [.NotIn] [b] pos) (rB (rOp (aer true) ra rb)):=(YX (Vp hu ha hb) h1).imp λ_ _ _=>acy λ_ _ _=>Xa (neg:=true)
def ahM:RE:=λ_ q=>q (.d1 [] [])
theorem JR:QE X (.Dict [] [] pos) ahM:=Yi.imp λσ H Q ⟨own,o,R,h,hr,k⟩ p hp=>k _ _ _ hr (Same.upd hp) ⟨[p],λa ha=>(YR.mp ha) ▸ hp,p,[],rfl,rfl,cF,rfl,.nil⟩
def ama(i:Nat)(a b:RE):RS:=λE o=>match slot o i with|.d1 ks ts=>a o λy=>b o λk=>∃j,Wh (frz k)=some j/\oY ks ts j=none/\ks.length<sizeLine/\ks.length=ts.length/\E.nx (o.set i (.d1 (ks++[j]) (ts++[frz y])))|_=>False
end
noncomputable def lkF{α:Type} : Φ->List α->Str->Option α
 |k::ks,t::ts,f=>if k=f then some t else lkF ks ts f
 |_,_,_=>none
noncomputable def G9:Φ->Str->Φ
 |[],f=>[f]
 |k::ks,f=>if k=f then k::ks else k::G9 ks f
noncomputable def xR{α:Type} : Φ->List α->Str->α->List α
 |k::ks,t::ts,f,v=>if k=f then v::ts else t::xR ks ts f v
 |_,ts,_,v=>ts++[v]
theorem Zz{K:Frag}{F:Hp}{f:Str} : ∀{ks:Φ}{xs:Ζ}{ts:List T},bW K F xs ts->(∀t,lkF ks ts f=some t->∃x,(ks.zip xs).lookup f=some x/\Rep K F x t)/\(lkF ks ts f=none->(ks.zip xs).lookup f=none)
 |[],_,_,_=>⟨λ_ z=>(nomatch z),λ_=>rfl⟩
 |_::_,_,_,.nil=>⟨λ_ z=>(nomatch z),λ_=>rfl⟩
 |j::ks,_,_,.cons a b=>by
  obtain⟨i1,i2⟩:=Zz (f:=f) (ks:=ks) b;by_cases h:j=f
  .refine⟨λt z=>?_,λz=>?_⟩
   .unfold lkF at z;rw[ZY h]at z;cases z;exact⟨_,by rw[List.zip_cons_cons,List.lookup_cons,h,beq_self_eq_true],a⟩
   .unfold lkF at z;rw[ZY h]at z;cases z
  .have e:∀x(r:List (Str×V)),((j,x)::r).lookup f=r.lookup f:=λx r=>by rw[List.lookup_cons,beq_false_of_ne (Ne.symm h)]
   refine⟨λt z=>?_,λz=>?_⟩
   .unfold lkF at z;rw[ZZ h]at z;obtain⟨x,e1,r⟩:=i1 t z;exact⟨x,(e _ _).trans e1,r⟩
   .unfold lkF at z;rw[ZZ h]at z;exact(e _ _).trans (i2 z)
theorem Q7{f:Str}{v:V} : ∀{ks:Φ}{xs:Ζ},ks.length=xs.length->uz f v (ks.zip xs)=(G9 ks f).zip (xR ks xs f v)/\(G9 ks f).length=(xR ks xs f v).length
 |[],[],_=>⟨rfl,rfl⟩
 |k::ks,x::xs,l=>by
  obtain⟨i1,i2⟩:=Q7 (f:=f) (v:=v) (ks:=ks) (xs:=xs) (Nat.succ.inj l);show(if k=f then(k,v)::ks.zip xs else(k,x)::uz f v (ks.zip xs))=_/\_;unfold G9 xR;by_cases h:k=f
  .rw[ZY h,ZY h,ZY h];exact⟨rfl,l⟩
  .rw[ZZ h,ZZ h,ZZ h,i1];exact⟨rfl,ZH (· + 1) i2⟩
 |[],_::_,l=>by cases l
 |_::_,[],l=>by cases l
theorem bW.put{K:Frag}{F:Hp}{f:Str}{v:V}{t:T}(r:Rep K F v t):∀{ks:Φ}{xs:Ζ}{ts:List T},bW K F xs ts->bW K F (xR ks xs f v) (xR ks ts f t)
 |[],_,_,h=>h.app (.cons r .nil)
 |_::_,_,_,.nil=>.cons r .nil
 |k::ks,_,_,.cons a b=>by
  unfold xR;by_cases h:k=f
  .rw[ZY h,ZY h];exact .cons r b
  .rw[ZZ h,ZZ h];exact .cons a (bW.put r b)
abbrev SI:=Addr->Φ->List T->List T->(Φ->List T->Prop)->Prop
def Slf(a dx b:Addr):Prop:=b=a\/b=dx
def spI(K:Frag)(S:SI):Sp:=λvs H Q _=>∃a dx C ks xs ts us as R,vs=.ref a::us/\H a=some (.ins C dx (ks.zip xs))/\H dx=some (.own a)/\ks.length=xs.length/\bW K (hd (Slf a dx) H) xs ts/\bW K (hd (Slf a dx) H) us as/\S C ks ts as R /\
 ∀H' ks' xs' ts',R ks' ts'->Same (hd (Slf a dx) H) (hd (Slf a dx) H')->H' a=some (.ins C dx (ks'.zip xs'))->H' dx=some (.own a)->ks'.length=xs'.length->bW K (hd (Slf a dx) H') xs' ts'->Q .non H'
section
variable{P:Program}{w:World}{K:Frag}{mg:Str->Ω}{base:Heap}
def startI(n:Nat)(a dx C:Addr)(ks:Φ)(ts as:List T):List OT:=.ob a dx C ks ts::start' (n-1) as
noncomputable def ahm(a dx:Addr):Nat->Ψ
 |0=>[a,dx]
 |_+1=>[]
theorem Tq(a dx:Addr):Ow (ahm a dx)=Slf a dx:=funext λb=>propext ⟨(λh=>by
  obtain⟨i,z⟩:=h;cases i with
  |zero =>
   rcases YU.mp z with z|z
   .exact .inl z
   .exact .inr (YR.mp z)
  |succ i=>cases z),λz=>⟨0,by show b∈[a,dx];rcases z with rfl|rfl<;>simp⟩⟩
theorem SR.startI{H:Hp}{a dx C:Addr}{ks:Φ}{xs:Ζ}{ts as:List T}{us:Ζ}(ha:H a=some (.ins C dx (ks.zip xs)))(hd':H dx=some (.own a))(l:ks.length=xs.length)(r:bW K (hd (Slf a dx) H) xs ts)(r2:bW K (hd (Slf a dx) H) us as)(N:Φ)(hN:us.length+1<=N.length) :
  SR K (ahm a dx) H (L2.start N (.ref a::us)) (L2.startI N.length a dx C ks ts as):=by
 have eO:=Tq a dx;refine⟨?_,λi x e=>?_,λi hi b hb=>?_,λi j b e1 e2=>?_⟩
 .unfold L2.startI start' L2.start;have:=r2.len;simp only[List.length_cons,aA,ak,aN];lia
 .rw[eO];unfold L2.startI at e;cases i with
  |zero =>
   cases e;exact⟨xs,rfl,rfl,ha,hd',l,r⟩
  |succ i =>
   rw[List.getElem?_cons_succ]at e;show Slo K _ _ _ [] x;unfold start' at e;unfold L2.start;rw[List.map_cons,List.cons_append,List.getElem?_cons_succ];by_cases hi:i<as.length
   .rw[aF (by simpa using hi),aq,aj hi]at e;cases e;obtain⟨v,e1,r1⟩:=r2.at_ (aj hi);rw[aF (by rw[ak,r2.len];exact hi),aq,e1];exact⟨rfl,v,rfl,r1⟩
   .rw[aD (by simpa using hi),ak,XG]at e;by_cases hj:i-as.length<N.length-1-as.length
    .rw[ZY hj]at e;cases e;rfl
    .rw[ZZ hj]at e;cases e
 .unfold L2.startI at hi;cases i with
  |zero=>cases hi
  |succ i=>cases hb
 .cases i with
  |zero =>
   cases j with
   |zero=>rfl
   |succ j=>cases e2
  |succ i=>cases e1
theorem Fun.okI{x qual:Str}{st:Stmt}{f:Addr}{fd:FuncData}{N ps:Φ}{k:Nat}{S:SI}(F:Fun K x qual st f fd)(sc:bK N ps (bH st))(len:∀C ks ts as R,S C ks ts as R->as.length+1=ps.length)(hn:ps.length<=N.length)
 (hbody:∀(cdv:Value)(A:Around)(outer:List Env)(s:Shared)(H:Hp)(E:XK),eX k (A.deeper (envOfC qual (bH st) s.heap.objs.size f cdv)) ->
   ∃r,QSs (M5 CX0 P w K mg base N qual (bH st) f cdv A outer s H E).nox (fD st) r/\∀a dx C ks ts as R,S C ks ts as R->r { nx:=λo=>∃ks' ts',slot o 0=.ob a dx C ks' ts'/\R ks' ts',rt:=λ_=>False } (startI N.length a dx C ks ts as)):b_ P w K mg base CX0 (k+1) f fd ps (spI K S):=by
 refine F.ok sc (λvs H Q E h=>?_) λcdv A outer s H vs Q E hr h=>?_
 .obtain⟨a,dx,C,ks,xs,ts,us,as,R,rfl,_,_,_,_,r2,hS,_⟩:=h;rw[List.length_cons,r2.len];exact len _ _ _ _ _ hS
 .obtain⟨a,dx,C,ks,xs,ts,us,as,R,rfl,ha,hd',l,r,r2,hS,q⟩:=h;obtain⟨rd,h1,h2⟩:=hbody cdv A outer s H E hr;have s0:=SR.startI ha hd' l r r2 N (by rw[r2.len,len _ _ _ _ _ hS];exact hn);have eO:=Tq a dx;refine⟨_,h1,_,_,_,s0,h2 a dx C ks ts as R hS,⟨λown H' σ o rx E h=>?_,λ_ _ _ _ _ z=>z.elim,λ_ _ _ _ z=>z.elim,λ_ _ _ _ z=>z.elim⟩⟩;obtain⟨ks',ts',es,rx⟩:=rx;rw[eO]at E;obtain⟨u,_,xs',e1,e2,e3,e4,e5,e6⟩:=h.val es (by intro z;cases z);have sub:Same (hd (Ow own) H') (hd (Slf a dx) H'):=g_ (λb z=>.inl ⟨0,by rw[e2];rcases z with rfl|rfl<;>simp⟩) λ_ _ z=>z;exact q H' ks' xs' ts' rx (E.trans sub) e3 e4 e5 (e6.same sub)
end
section
variable{X:Cx}{e:Expr}{es:List Expr}{re:RE}{r:RA}{f:Str}{pos apos p:Pos}{Fm:Addr->Prop}
def acg(Fm:Addr->Prop)(i:Nat)(f:Str):RE:=λo q=>match slot o i with|.ob _ _ C ks ts=>Fm C/\∃t,lkF ks ts f=some t/\q (.fz t)|_=>False
theorem abY(i:Nat){x:Str}(c:∀C,Fm C->Cls X.K C/\cj X.K C f)(hN:X.N[i]?=some x:=by rfl)(hv:qN X.env.scope x=true:=by rfl)(hd':(x==("__debug__":Str))=false:=by decide)(hcd:(x==("__classdict__":Str))=false:=by decide)(hb:attributeBase (.Name x p) f X.env (eval (.Name x p) X.env)=eval (.Name x p) X.env:=by rfl):QE X (.Attribute (.Name x p) f pos) (acg Fm i f):=(Zv (pv i hN hv hd' hcd) hb).imp λσ H Q hP=>by
 obtain⟨own,o,R,h,hr,k⟩:=hP;unfold acg at hr;cases es:slot o i with
 |ob a dx C ks ts =>
  rw[es]at hr;obtain⟨u,e1,xs,e2,e3,e4,e5,l,r⟩:=h.val es (by intro z;cases z);cases e2;obtain⟨hf,t,e6,q⟩:=hr;obtain⟨v,e7,r7⟩:=(Zz r).1 t e6;exact⟨_,e1,a,C,dx,_,v,rfl,e4,(c C hf).1,(c C hf).2,e7,k H _ _ q (.refl _) (NR.fz r7)⟩
 |_=>rw[es]at hr;exact hr.elim
def acE(Fm:Addr->Prop)(i:Nat)(f:Str)(a:RE):RS:=λE o=>match slot o i with|.ob b dx C ks ts=>a o λy=>(Fm C/\ks.length<1000)/\E.nx (o.set i (.ob b dx C (G9 ks f) (xR ks ts f (frz y))))|_=>False
theorem qg(i:Nat){x:Str}{tpos:Pos}(c:∀C,Fm C->Cls X.K C/\cj X.K C f)(he:QE X e re)(hN:X.N[i]?=some x:=by rfl)(hv:qN X.env.scope x=true:=by rfl)(hd':(x==("__debug__":Str))=false:=by decide)(hcd:(x==("__classdict__":Str))=false:=by decide)(hs:swapsWith e (some (.Attribute (.Name x p) f tpos)) pos.line X.env=pure false:=by rfl):QS X (.Assign [.Attribute (.Name x p) f tpos] e pos) (acE Fm i f re):=(adC (pv i hN hv hd' hcd) he hs).imp λD σ H hP=>by
 obtain⟨own,o,E,h,hr,L⟩:=hP;unfold acE at hr;cases es:slot o i with
 |ob a dx C ks ts =>
  rw[es]at hr;obtain⟨u,e1,xs,e2,e3,e4,e5,l,r⟩:=h.val es (by intro z;cases z);cases e2;refine tQ.mk h hr λH1 v y q E1 r1=>⟨_,e1,a,C,dx,_,rfl,E1 _ _ e4,(c C q.1.1).1,(c C q.1.1).2,by rw[List.length_zip,<- l,Nat.min_self];exact q.1.2,?_⟩;obtain⟨pz,pl⟩:=Q7 (f:=f) (v:=v) l;rw[pz];have hne:dx≠a:=agw e5 e4 (by intro z;cases z);obtain⟨h',S⟩:=(h.same E1).chg (gH es (by intro z;cases z)) (y:=.ob a dx C (G9 ks f) (xR ks ts f (frz y))) (H':=upd H1 a (.ins C dx ((G9 ks f).zip (xR ks xs f v)))) (λb u hb e=>(cC λz=>hb (by rw[e3,z];simp)).trans e) (by
   rw[e1,BL ⟨i,by rw[e3];simp⟩];exact⟨_,rfl,e3,cF,(cC hne).trans (E1 _ _ e5),pl,bW.put r1 (r.same (bV E1))⟩)
  exact L.nx own _ σ _ q.2 ((bV E1).trans S) h'
 |_=>rw[es]at hr;exact hr.elim
def alQ(Fm:Addr->Prop)(f:Str)(a:RE):RE:=λo q=>a o λx=>match frz x with|.ins C ks ts=>Fm C/\∃t,lkF ks ts f=some t/\q (.fz t)|_=>False
theorem sV(c:∀C,Fm C->Cls X.K C/\cj X.K C f)(he:QE X e re)(hb:attributeBase e f X.env (eval e X.env)=eval e X.env:=by rfl):QE X (.Attribute e f pos) (alQ Fm f re):=(Zv he hb).imp λσ H Q ⟨own,o,R,h,hr,k⟩=>tQ.mk h hr λH1 v x q E1 r1=>by
 revert r1 q
 generalize frz x=t;intro q r1;cases t<;>try exact q.elim
 obtain⟨a,dx,xs,rfl,e,d,l,r⟩:=r1.insI;obtain⟨hf,t,e6,q⟩:=q;obtain⟨v,e7,r7⟩:=(Zz r).1 t e6;exact⟨a,_,dx,_,v,rfl,(cQ e).2,(c _ hf).1,(c _ hf).2,e7,k H1 _ _ q E1 (NR.fz r7)⟩
abbrev OkM(X:Cx)(k:Nat)(fa:Addr)(ps:Φ)(S:ST):Prop:=OkI X.prog X.w X.K X.mg X.base CX0 k fa ps (spT X.K S)
theorem OkI.hid{P:Program}{w:World}{K:Frag}{mg:Str->Ω}{base:Heap}{k:Nat}{fa:Addr}{ps:Φ}{sp:Sp}(G:OkI P w K mg base CX0 k fa ps sp):OkI P w K mg base CX0 k fa ps (spH sp):=by obtain⟨fd,F,b⟩:=G;exact⟨fd,F.hid,b⟩
theorem Qz{S:ST}{H1:Hp}{σ:L2.St}{own:Nat->Ψ}{o:List OT}{R:OT->Prop}{Q:VK}{vs:Ζ}{ts:List T}{E:XK}(h1:SR X.K own H1 σ o)(r1:bW X.K (hd (Ow own) H1) vs ts)(q:S ts R)(k:∀H' v x,R x->Same H1 H'->NR X.K (Ow own) H1 H' v x->Q v H'):spH (spT X.K S) vs H1 Q E:=by
 refine⟨Ow own,h1.hid,ts,R,r1,q,λG v x rx E n gone=>?_⟩;have EH:Same H1 (mrg (Ow own) H1 G):=λb u e=>by
  by_cases z:Ow own b
  .rw[uL z];exact e
  .rw[jO z];exact E b u ((cM z).trans e)
 have EG:Same G (mrg (Ow own) H1 G):=λb u e=>by rw[jO λz=>by rw[gone b z]at e;cases e];exact e
 refine k _ v x rx EH ?_;obtain⟨B,nb,s⟩:=n;have out:∀a∈B,¬Ow own a:=λa ha z=>(s.sole ha).ne (gone a z);refine⟨B,λa ha=>by have:=nb a ha;rwa[cM (out a ha)]at this,s.same (g_ (λb z=>?_) EG) EG⟩;rcases z with z|z
 .exact .inr (gone b z)
 .exact .inl (.inr z)
def acM(C:Addr)(KS:Φ)(S:ST)(a:RE)(r:RA):RE:=λo q=>a o λx=>match frz x with|.ins C' ks ts=>(C'=C/\ks=KS)/\r o λas=>S (.ins C' ks ts::as) q|_=>False
theorem M7{f:Str} : ∀{KS:Φ}{xs:Ζ},f∉KS->(KS.zip xs).lookup f=none
 |[],_,_=>rfl
 |_::_,[],_=>rfl
 |k::KS,x::xs,h=>by
  rw[List.zip_cons_cons,List.lookup_cons,beq_false_of_ne λ(z:f=k)=>h (by rw[z];exact aO ..)];exact M7 λz=>h (aJ _ z)
theorem Er{o:Expr}{ro:RE}{k:Nat}{fa C:Addr}{ps KS:Φ}{S:ST}{pl:Sem Bool}(he:QE X o ro)(c:Cls X.K C)(hm:Meth X.K C f fa)(G:OkM X k fa ps S)(hr:eX k X.A)(ha:QA X (e::es) r)(hk:f∉KS:=by decide +kernel)
 (hst:starEach (e::es) X.env=(false,eval e X.env)::starEach es X.env:=by rfl)(hpl:(backTo pos (starEach es X.env)).any (·.1)=false:=by rfl)
 (ht:eval (.Call (.Attribute o f apos) (e::es) [] pos) X.env=(do
   let ov <- eval o X.env
   standAt apos.atName
   let(f,first) <- holding [ov] (getMethod ov f pl)
   callWith pos f first (backTo pos (starEach (e::es) X.env)) (backToKw pos (keywordEach [] X.env))):=by rfl) :
  QE X (.Call (.Attribute o f apos) (e::es) [] pos) (acM C KS S ro r):=(ZK (pl:=pl) he c hm (OkI.hid G) hr ha hst hpl ht).imp λσ H Q ⟨own,o,R,h,hr,k⟩=>tQ.mk h hr λH1 v x q E1 r1=>by
 revert r1 q
 generalize frz x=t;intro q r1;cases t<;>try exact q.elim
 obtain⟨a,dx,xs,rfl,e,d,l,r⟩:=r1.insI;obtain⟨⟨rfl,rfl⟩,q⟩:=q;refine⟨a,dx,_,rfl,(cQ e).2,M7 hk,tQA.mk (h.same E1) q λH2 vs as q _ E2 r2=>?_⟩;exact Qz ((h.same E1).same E2) (.cons (r1.same (bV E2)) r2) q λH' v x rx E n=>k H' v x rx (E1.trans (E2.trans E)) (n.back (E1.trans E2))
theorem Gn{o:Expr}{ro:RE}{k:Nat}{fa C:Addr}{ps KS:Φ}{S:ST}{pl:Sem Bool}(he:QE X o ro)(c:Cls X.K C)(hm:Meth X.K C f fa)(G:OkM X k fa ps S)(hr:eX k X.A)(hk:f∉KS:=by decide +kernel)
 (ht:eval (.Call (.Attribute o f apos) [] [] pos) X.env=(do
   let ov <- eval o X.env
   standAt apos.atName
   let(f,first) <- holding [ov] (getMethod ov f pl)
   callWith pos f first (backTo pos (starEach [] X.env)) (backToKw pos (keywordEach [] X.env))):=by rfl) :
  QE X (.Call (.Attribute o f apos) [] [] pos) (acM C KS S ro aeF):=(V6 (pl:=pl) he c hm (OkI.hid G) hr ht).imp λσ H Q ⟨own,o,R,h,hr,k⟩=>tQ.mk h hr λH1 v x q E1 r1=>by
 revert r1 q
 generalize frz x=t;intro q r1;cases t<;>try exact q.elim
 obtain⟨a,dx,xs,rfl,e,d,l,r⟩:=r1.insI;obtain⟨⟨rfl,rfl⟩,q⟩:=q;refine⟨a,dx,_,rfl,(cQ e).2,M7 hk,?_⟩;exact Qz (E:=E0) (h.same E1) (.cons r1 .nil) q λH' v x rx E n=>k H' v x rx (E1.trans E) (n.back E1)
def agY(C:Addr)(S:SI)(r:RA):RE:=λo q=>r o λas=>S C [] [] as λks ts=>q (.fz (.ins C ks ts))
theorem Bx{x:Str}{k:Nat}{fa C:Addr}{ps:Φ}{S:SI}(M:Mk X.K C fa)(G:OkI X.prog X.w X.K X.mg X.base CX0 k fa ps (spI X.K S))(hr:eX (k+1) X.A)(hg:Gl X x)(hm:X.mg x=some (.ref C))(ha:QA X (e::es) r)(hdb:(x==("__debug__":Str))=false:=by decide)
 (he:starEach (e::es) X.env=(false,eval e X.env)::starEach es X.env:=by rfl)(hpl:(backTo pos (starEach es X.env)).any (·.1)=false:=by rfl):QE X (.Call (.Name x p) (e::es) [] pos) (agY C S r):=(Zn M (OkI.hid G) hr hg hm ha hdb he hpl).imp λσ H Q ⟨own,o,R,h,hr,k⟩=>tQA.mk h hr λH1 vs as q _ E1 r1 a dx na nd ne=>by
 have h1:=h.same E1;have E2:Same H1 (upd (upd H1 dx (.own a)) a (.ins C dx [])):=(Same.upd nd).trans (Same.upd ((cC (Ne.symm ne)).trans na));have h2:=h1.same E2;have oa:¬Ow own a:=λz=>(h1.sole z).ne na;have od:¬Ow own dx:=λz=>(h1.sole z).ne nd;refine⟨Ow own,h2.hid,a,dx,C,[],[],[],vs,as,_,rfl,(cM oa).trans cF,(cM od).trans ((cC ne).trans cF),rfl,.nil,r1.same (λb u e=>?_),q,λG ks' xs' ts' rx E ea ed l r gone=>⟨rfl,?_⟩⟩
 .obtain⟨n,e⟩:=cQ e;have n2:¬Slf a dx b:=λz=>by rcases z with rfl|rfl<;>rw[e]at *<;>contradiction
  rw[cM n2,cM n];exact E2 _ _ e
 .have EG:Same G (mrg (Ow own) (upd (upd H1 dx (.own a)) a (.ins C dx [])) G):=λb u e=>by rw[jO λz=>by rw[gone b z]at e;cases e];exact e
  refine k _ _ _ rx (E1.trans λb u e=>?_) (NR.fz (.ins (dx:=dx) (ks:=ks') (xs:=xs') ?_ ?_ l (r.same λb u e=>?_)))
  .by_cases z:Ow own b
   .rw[uL z];exact E2 _ _ e
   .have n2:¬Slf a dx b:=λz=>by rcases z with rfl|rfl<;>rw[e]at *<;>contradiction
    exact EG _ _ (cQ (E b u ((cM n2).trans ((cM z).trans (E2 _ _ e))))).2
  .rw[cM oa];exact EG _ _ ea
  .rw[cM od];exact EG _ _ ed
  .have e':=(cQ e).2;rw[cM λz=>by rw[gone b z]at e';cases e'];exact EG _ _ e'
def acS(i:Nat)(S:SI)(r:RA):RS:=λE o=>match slot o i with|.ob a dx C ks ts=>r o λas=>S C ks ts as λks' ts'=>E.nx (o.set i (.ob a dx C ks' ts'))|_=>False
theorem Es(i:Nat){x y m:Str}{p2 cpos:Pos}{k:Nat}{fa B:Addr}{ps:Φ}{S:SI}{pl:Sem Bool}(c:Df X.K B m fa)(G:OkI X.prog X.w X.K X.mg X.base CX0 k fa ps (spI X.K S))(hr:eX k X.A)(hg:Gl X x)(hm:X.mg x=some (.ref B))(ha:QA X es r)
 (hN:X.N[i]?=some y:=by rfl)(hv:qN X.env.scope y=true:=by rfl)(hd':(y==("__debug__":Str))=false:=by decide)(hcd:(y==("__classdict__":Str))=false:=by decide)(hdb:(x==("__debug__":Str))=false:=by decide)
 (hst:starEach (.Name y p2::es) X.env=(false,eval (.Name y p2) X.env)::starEach es X.env:=by rfl)(hpl:(backTo cpos (starEach es X.env)).any (·.1)=false:=by rfl)
 (ht:eval (.Call (.Attribute (.Name x p) m apos) (.Name y p2::es) [] cpos) X.env=(do
   let ov <- eval (.Name x p) X.env
   standAt apos.atName
   let(f,first) <- holding [ov] (getMethod ov m pl)
   callWith cpos f first (backTo cpos (starEach (.Name y p2::es) X.env)) (backToKw cpos (keywordEach [] X.env))):=by rfl)
 (hs:swapsWith (.Call (.Attribute (.Name x p) m apos) (.Name y p2::es) [] cpos) none pos.line X.env=pure false:=by rfl) :
  QS X (.Expr (.Call (.Attribute (.Name x p) m apos) (.Name y p2::es) [] cpos) pos) (acS i S r):=(wW (ZL (pl:=pl) c (OkI.hid G) hr hg hm (nF (pv i hN hv hd' hcd) ha hst) hdb hst hpl ht) hs).imp λD σ H hP=>by
 obtain⟨own,o,E,h,hr,L⟩:=hP;unfold acS at hr;cases es:slot o i with
 |ob a dx C ks ts =>
  rw[es]at hr;obtain⟨u,e1,xs,e2,e3,e4,e5,l,r⟩:=h.val es (by intro z;cases z);cases e2;refine⟨_,e1,tQA.mk h hr λH1 vs as q _ E1 r1=>?_⟩;have h1:=h.same E1;have sub:∀b,Slf a dx b->b∈own i:=λb z=>by rw[e3];rcases z with rfl|rfl<;>simp
  have bus:∀b,b∈own i->Slf a dx b:=λb z=>by
   rw[e3]at z;rcases YU.mp z with z|z
   .exact .inl z
   .exact .inr (YR.mp z)
  have hid:Hid H1 (λb=>Ow own b/\¬Slf a dx b):=⟨λb z=>h1.sole z.1,λb C d f ⟨⟨j,z⟩,n⟩ e=>⟨⟨j,(h1.mate z).1 C d f e⟩,λy=>n (bus b ((h1.dis j i d ((h1.mate z).1 C d f e) (sub d y)) ▸ z))⟩,λb x ⟨⟨j,z⟩,n⟩ e=>⟨⟨j,(h1.mate z).2 x e⟩,λy=>n (bus b ((h1.dis j i x ((h1.mate z).2 x e) (sub x y)) ▸ z))⟩⟩;have eqF:∀H':Hp,hd (Slf a dx) (hd (λb=>Ow own b/\¬Slf a dx b) H')=hd (Ow own) H':=λH'=>funext λb=>by
   by_cases z:Slf a dx b
   .rw[pH z,pH ⟨i,sub b z⟩]
   .rw[cM z];by_cases y:Ow own b
    .rw[pH (⟨y,z⟩ : Ow own b/\¬Slf a dx b),pH y]
    .rw[cM (λw=>y w.1),cM y]
  have na:¬(Ow own a/\¬Slf a dx a):=λz=>z.2 (.inl rfl);have nd:¬(Ow own dx/\¬Slf a dx dx):=λz=>z.2 (.inr rfl);refine⟨_,hid,a,dx,C,ks,xs,ts,vs,as,_,rfl,(cM na).trans (E1 _ _ e4),(cM nd).trans (E1 _ _ e5),l,by rw[eqF];exact r.same (bV E1),by rw[eqF];exact r1,q,λG ks' xs' ts' rx EE ea ed l' r' gone=>?_⟩;rw[eqF]at EE;have at':∀{b:Addr}{u:HO},G b=some u->mrg (λb=>Ow own b/\¬Slf a dx b) H1 G b=some u:=λ{b u}e=>(jO λz=>by rw[gone b z]at e;cases e).trans e;obtain⟨h',S'⟩:=h1.chg (gH es (by intro z;cases z)) (y:=.ob a dx C ks' ts') (H':=mrg (λb=>Ow own b/\¬Slf a dx b) H1 G) (λb u hb e=>by
   by_cases z:Ow own b
   .rw[uL ⟨z,λy=>hb (sub b y)⟩];exact e
   .exact at' (cQ (EE b u ((cM z).trans e))).2) (by
   rw[e1];refine⟨xs',rfl,e3,at' ea,at' ed,l',r'.same λb u e=>?_⟩;obtain⟨n1,e⟩:=cQ e;rw[cM λz=>by rw[gone b ⟨z,n1⟩]at e;cases e];exact at' e)
  exact L.nx own _ σ _ rx ((bV E1).trans S') h'
 |_=>rw[es]at hr;exact hr.elim
end
section
variable{X:Cx}{a b c e:Expr}{ra rb rc re:RE}{pos p:Pos}
theorem lB{x:Str}{A:Addr}{i j:Int}{pos:Pos}(hg:Gl X x)(hm:X.mg x=some (.ref A))(kt:∀H,SqT X.K H A [.int i,.int j])(hd:(x==("__debug__":Str))=false:=by decide):QE X (.Name x pos) (rC (.tup [.int i,.int j])):=qC (Xw hg hm hd) λF=>.tup (kt F) (.cons (.int _) (.cons (.int _) .nil))
theorem QE.any{Fm:Addr->Prop}{r:Addr->RE}(h:∀C,Fm C->QE X e (r C)):QE X e (λo q=>∃C,Fm C/\r C o q):=λpins s σ H Q I ⟨own,o,R,hs,⟨C,hC,hr⟩,k⟩=>h C hC pins s σ H Q I ⟨own,o,R,hs,hr,k⟩
theorem ud{tg iter elt:Expr}{ifs:List Expr}{ri:RI}{g:T->List OT->(List OT->Prop)->Prop}{rc:RT}{scope:Scope}{i0:Nat}{y0:Str}{py spos:Pos}(sc:Scope)(N N' xs:Φ)(hi:QI X tg iter ri)(hg:∀{C s₀ H₀ ex pn},QG (X.compG N' scope xs C s₀ H₀ ex pn) xs.length tg g)(ht:∀{C s₀ H₀ ex pn},QTs (X.compG N' scope xs C s₀ H₀ ex pn) ifs rc)(he:∀{C s₀ H₀ ex pn},QE (X.compG N' scope xs C s₀ H₀ ex pn) elt re)(hgy:PG X (.Name y0 py) (wH i0))
 (hsc:X.env.scope=sc:=by rfl)(hNN:X.N=N:=by rfl)(hc:X.calm=true:=by rfl)(hk:scope.kind=.function:=by rfl)(h:CK sc scope N N' xs:=by decide +kernel)(hsw:swapsWith (.ListComp elt [⟨tg,iter,ifs,0⟩] scope pos) (some (.Name y0 py)) spos.line X.env=pure true:=by rfl)(hs:∀z,foldedSetIterable iter X.env z=pure z:=by intro _;rfl) :
  QS X (.Assign [.Name y0 py] (.ListComp elt [⟨tg,iter,ifs,0⟩] scope pos) spos) (ahD i0 (Vr ri xs.length g rc re)):=(ZJ (gt:=tQG X.K xs.length g) (tc:=tQT X.K rc) (te:=tQ X.K re) sc N N' xs hi hg ht he hgy hsc hNN hc hk h hsw hs).imp λD σ H ⟨own,o,E,h,hr,L⟩=>Fx ⟨own,o,_,h,hr,λH' v y q S n=>by
 obtain⟨own',h',S'⟩:=h.putA S (n.frz λb z=>(h.sole z).ne) i0;exact L.nx own' H' _ _ q S' h'⟩
def al5(i j:Nat)(r:RA):RS:=λE o=>r o λts=>match ts with|[t,u]=>E.nx ((o.set i (.fz t)).set j (.fz u))|_=>False
theorem adf(i j:Nat){x y:Str}{r:RA}{px py pt:Pos}{kt k2 pt2}(hc:X.calm=true)(hN:X.N.Nodup)(hij:i≠j)(ha:QA X [a,b] r)(hi:X.N[i]?=some x:=by rfl)(hj:X.N[j]?=some y:=by rfl)
 (hx:X.env.scope.names.lookup x=some .local:=by rfl)(hy:X.env.scope.names.lookup y=some .local:=by rfl)
 (hw:swappedStores [.Tuple [.Name x px,.Name y py] kt pt] (.Tuple [a,b] k2 pt2) X.env=pure (some [x,y]):=by rfl)
 (hs:swapsWithSole [.Tuple [.Name x px,.Name y py] kt pt] (.Tuple [a,b] k2 pt2) pos.line X.env=pure false:=by rfl) :
  QS X (.Assign [.Tuple [.Name x px,.Name y py] kt pt] (.Tuple [a,b] k2 pt2) pos) (al5 i j r):=(aeh hc hN hi hj hij hx hy ha hw hs).imp λD σ H ⟨own,o,E,h,hr,L⟩=>⟨own,o,_,h,hr,λH1 vs ts q _ E1 r1=>by
 match ts,q with
 |[t,u],q =>
  obtain⟨v,w,rfl,rv,rw_⟩:=r1.two;refine⟨v,w,rfl,?_⟩;obtain⟨own',h',go⟩:=(h.same E1).setF rv (X0 i);obtain⟨own2,h2,S2⟩:=h'.putA (.refl _) (NR.fz (rw_.same go.same)) j;exact L.nx own2 H1 _ _ q ((bV E1).trans (go.same.trans S2)) h2⟩
theorem ix2{α β:Type}{xs:List α}{ys:List β}{j:Int}{y:β}(l:xs.length=ys.length)(e:ixT ys j=some y):∃n x,ixN ys.length j=some n/\ys[n]?=some y/\xs[n]?=some x/\atI xs j=some x:=by
 rw[Rh]at e;unfold atI at e ⊢;rw[l];cases z:ixN ys.length j with
 |none=>rw[z]at e;cases e
 |some n =>
  rw[z]at e;have hn:n<xs.length:=l ▸ (ao.mp e).1;exact⟨n,xs[n],rfl,e,aj hn,aj hn⟩
theorem GR{α:Type} : ∀{l:List α},l.Nodup->∀{i j:Nat}{x:α},l[i]?=some x->l[j]?=some x->i=j
 |[],_,_,_,_,e,_=>by cases e
 |y::l,nd,i,j,x,e1,e2=>by
  obtain⟨n1,n2⟩:=List.nodup_cons.mp nd;cases i with
  |zero =>
   cases j with
   |zero=>rfl
   |succ j=>cases e1;exact absurd (aC (by simpa using e2)) n1
  |succ i =>
   cases j with
   |zero=>cases e2;exact absurd (aC (by simpa using e1)) n1
   |succ j=>exact ZH (· + 1) (GR n2 (by simpa using e1) (by simpa using e2))
theorem SR.l2{K:Frag}{own:Nat->Ψ}{H:Hp}{σ:L2.St}{o:List OT}(h:SR K own H σ o){i:Nat}{tss:List (List T)}(e:slot o i=.l2 tss):∃l bs,σ[i]?=some (some (.ref l))/\own i=l::bs/\(l::bs).Nodup/\H l=some (.lst (bs.map V.ref))/\bs.length=tss.length/\∀(i:Nat)b ts,bs[i]?=some b->tss[i]?=some ts->∃xs,H b=some (.lst xs)/\bW K (hd (Ow own) H) xs ts:=by
 obtain⟨u,e1,l,bs,e2,e3,nd,e4,ln,r⟩:=h.val e (by intro z;cases z);cases e2;exact⟨l,bs,e1,e3,nd,e4,ln,r⟩
theorem SR.chg2{K:Frag}{own:Nat->Ψ}{H:Hp}{σ:L2.St}{o:List OT}(h:SR K own H σ o){i n:Nat}{tss:List (List T)}(e:slot o i=.l2 tss){l b:Addr}{bs:Ψ}{ys:Ζ}{us:List T}(eσ:σ[i]?=some (some (.ref l)))(eo:own i=l::bs)(nd:(l::bs).Nodup)(e4:H l=some (.lst (bs.map V.ref)))(ln:bs.length=tss.length)(r:∀(i:Nat)b ts,bs[i]?=some b->tss[i]?=some ts->∃xs,H b=some (.lst xs)/\bW K (hd (Ow own) H) xs ts)(eb:bs[n]?=some b)(ry:bW K (hd (Ow own) H) ys us) :
  SR K own (upd H b (.lst ys)) σ (o.set i (.l2 (tss.set n us)))/\Same (hd (Ow own) H) (hd (Ow own) (upd H b (.lst ys))):=by
 have bm:=aC eb;obtain⟨nl,nd'⟩:=List.nodup_cons.mp nd;refine h.chg (gH e (by intro z;cases z)) (λc u hc e=>(cC λz=>hc (by rw[eo,z];exact aJ _ bm)).trans e) ?_;rw[eσ,BL ⟨i,by rw[eo];exact aJ _ bm⟩];refine⟨l,bs,rfl,eo,nd,(cC λ(z:l=b)=>nl (by rw[z];exact bm)).trans e4,by rw[List.length_set];exact ln,λk c ts e1 e2=>?_⟩;by_cases z:k=n
 .subst z;rw[eb]at e1;cases e1;rw[List.getElem?_set_self (ln ▸ (ao.mp eb).1)]at e2;cases e2;exact⟨ys,cF,ry⟩
 .rw[List.getElem?_set_ne (Ne.symm z)]at e2;obtain⟨xs,q,rx⟩:=r k c ts e1 e2;refine⟨xs,(cC λy=>?_).trans q,rx⟩;have h1:=(ao.mp e1).1;have h2:=(ao.mp eb).1;exact z (GR nd' e1 (by rw[eb,y]))
theorem Tf{bs:Ψ}{j:Int}{c:Addr}(e:atI bs j=some c):atI (bs.map V.ref) j=some (.ref c):=by
 have:atI (bs.map V.ref) j=(atI bs j).map V.ref:=by unfold atI;rw[ak];cases ixN bs.length j<;>simp
 rw[this,e];rfl
def acU(i:Nat)(a b:RE):RE:=λo q=>match slot o i with
 |.l2 tss=>a o λx=>(match frz x with|.int j=>∃ts,ixT tss j=some ts/\b o λy=>(match frz y with|.int m=>∃t,ixT ts m=some t/\q (.fz t)|_=>False)|_=>False)
 |_=>False
theorem aby(i:Nat){x:Str}{p2:Pos}(ha:QE X a ra)(hb:QE X b rb)(hN:X.N[i]?=some x:=by rfl)(hv:qN X.env.scope x=true:=by rfl)(hd':(x==("__debug__":Str))=false:=by decide)
 (hcd:(x==("__classdict__":Str))=false:=by decide)(hs1:tZ a:=by exact λ_ _=>rfl)(hs:tZ b:=by exact λ_ _=>rfl):QE X (.Subscript (.Subscript (.Name x p) a p2) b pos) (acU i ra rb):=(JK xg (JK xg (pv i hN hv hd' hcd) ha hs1) hb hs).imp λσ H Q hP=>by
 obtain⟨own,o,R,h,hr,k⟩:=hP;unfold acU at hr;cases es:slot o i with
 |l2 tss =>
  rw[es]at hr;obtain⟨l,bs,e1,e3,nd,e4,ln,r⟩:=h.l2 es;refine⟨_,e1,tQ.mk h hr λH1 v x q E1 r1=>?_⟩
  revert r1 q
  generalize frz x=t;intro q r1;cases t<;>try exact q.elim
  cases r1;obtain⟨ts,ej,q⟩:=q;obtain⟨n,c,_,et,ec,ei⟩:=ix2 (xs:=bs) ln ej;obtain⟨xs,eq,rx⟩:=r n c ts ec et;refine⟨l,bs.map V.ref,_,.ref c,rfl,rfl,.of (E1 _ _ e4),?_,tQ.mk (h.same E1) q λH2 w y q E2 r2=>?_⟩
  .exact Tf ei
  .revert r2 q
   generalize frz y=t;intro q r2;cases t<;>try exact q.elim
   cases r2;obtain⟨t,em,q⟩:=q;obtain⟨z,e7,r7⟩:=rx.ix em;have E12:=E1.trans E2;exact⟨c,xs,_,z,rfl,rfl,.of (E12 _ _ eq),e7,k H2 _ _ q E12 (NR.fz (r7.same (bV E12)))⟩
 |_=>rw[es]at hr;exact hr.elim
def acv(i:Nat)(a b:RE):RS:=λE o=>match slot o i with
 |.l2 tss=>a o λx=>(match frz x with|.int j=>∃n ts,ixN tss.length j=some n/\tss[n]?=some ts/\ts.length<sizeLine/\b o λy=>E.nx (o.set i (.l2 (tss.set n (ts++[frz y]))))|_=>False)
 |_=>False
theorem ix3{α β:Type}{xs:List α}{ys:List β}{j:Int}{n:Nat}{y:β}(l:xs.length=ys.length)(e:ixN ys.length j=some n)(ey:ys[n]?=some y):∃x,xs[n]?=some x/\atI xs j=some x:=by
 have hn:n<xs.length:=l ▸ (ao.mp ey).1;exact⟨xs[n],aj hn,by unfold atI;rw[l,e];exact aj hn⟩
theorem aaZ(i:Nat){x:Str}{apos cpos p2:Pos}(ha:QE X a ra)(he:QE X e re)(hN:X.N[i]?=some x:=by rfl)(hv:qN X.env.scope x=true:=by rfl)(hd':(x==("__debug__":Str))=false:=by decide)(hcd:(x==("__classdict__":Str))=false:=by decide)(hs1:tZ a:=by exact λ_ _=>rfl)
 (hb:attributeBase (.Subscript (.Name x p) a p2) "append" X.env (eval (.Subscript (.Name x p) a p2) X.env)=eval (.Subscript (.Name x p) a p2) X.env:=by rfl)
 (hf:((backTo cpos (starEach [e] X.env)).all (λx=>!x.1)&&(backToKw cpos (keywordEach [] X.env)).all (λx=>x.1.isSome)&&decide ([e].length+([] : List Keyword).length+(if([] : List Keyword).isEmpty then 0 else 1)<30))=true:=by rfl)
 (hl:(apos.endLine==cpos.line)=true:=by rfl)(hst:starEach [e] X.env=(false,eval e X.env)::starEach [] X.env:=by rfl)(hp:(backTo cpos (starEach [] X.env)).any (·.1)=false:=by rfl)
 (hs:swapsWith (.Call (.Attribute (.Subscript (.Name x p) a p2) "append" apos) [e] [] cpos) none pos.line X.env=pure false:=by rfl) :
  QS X (.Expr (.Call (.Attribute (.Subscript (.Name x p) a p2) "append" apos) [e] [] cpos) pos) (acv i ra re):=(wW (Yk (JK xg (pv i hN hv hd' hcd) ha hs1) (nF he NQ hst) hb hf hl hst hp) hs).imp λD σ H hP=>by
 obtain⟨own,o,E,h,hr,L⟩:=hP;unfold acv at hr;cases es:slot o i with
 |l2 tss =>
  rw[es]at hr;obtain⟨l,bs,e1,e3,nd,e4,ln,r⟩:=h.l2 es;refine⟨_,e1,tQ.mk h hr λH1 v x q E1 r1=>?_⟩
  revert r1 q
  generalize frz x=t;intro q r1;cases t<;>try exact q.elim
  cases r1;obtain⟨n,ts,en,et,sz,q⟩:=q;obtain⟨c,ec,ei⟩:=ix3 (xs:=bs) ln en et;obtain⟨xs,eq,rx⟩:=r n c ts ec et;refine⟨l,bs.map V.ref,_,.ref c,rfl,rfl,.of (E1 _ _ e4),Tf ei,c,xs,rfl,E1 _ _ eq,tQ.mk (h.same E1) q λH2 w y q E2 r2=>?_⟩;have E12:=E1.trans E2;refine⟨w,xs,rfl,E12 _ _ eq,by rw[rx.len];exact sz,?_⟩;obtain⟨h',S⟩:=(h.same E12).chg2 es e1 e3 nd (E12 _ _ e4) ln (λi b ts a c=>let⟨xs,p,q⟩:=r i b ts a c;⟨xs,E12 _ _ p,q.same (bV E12)⟩) ec ((rx.same (bV E12)).app (.cons r2 .nil));exact L.nx own _ σ _ q ((bV E12).trans S) h'
 |_=>rw[es]at hr;exact hr.elim
def acQ(i:Nat)(c a b:RE):RS:=λE o=>match slot o i with
 |.l2 tss=>c o λy=>a o λx=>(match frz x with|.int j=>∃n ts,ixN tss.length j=some n/\tss[n]?=some ts/\b o λz=>(match frz z with|.int m=>∃k,ixN ts.length m=some k/\E.nx (o.set i (.l2 (tss.set n (ts.set k (frz y)))))|_=>False)|_=>False)
 |_=>False
theorem abg(i:Nat){x:Str}{tpos p2:Pos}(he:QE X e re)(ha:QE X a ra)(hk:QE X b rb)(hN:X.N[i]?=some x:=by rfl)(hv:qN X.env.scope x=true:=by rfl)(hd':(x==("__debug__":Str))=false:=by decide)(hcd:(x==("__classdict__":Str))=false:=by decide)(hs1:tZ a:=by exact λ_ _=>rfl)
 (hq:∀v,assign (.Subscript (.Subscript (.Name x p) a p2) b tpos) X.env v=(do
   let ov <- holding [v] (eval (.Subscript (.Name x p) a p2) X.env)
   let iv <- holding [v,ov] (eval b X.env)
   standAt tpos
   holding [v,ov,iv] (setItem ov iv v)
   release [v,ov,iv] []):=by intro _;rfl)
 (hs:swapsWithSole [.Subscript (.Subscript (.Name x p) a p2) b tpos] e pos.line X.env=pure false:=by rfl)(hw:swappedStores [.Subscript (.Subscript (.Name x p) a p2) b tpos] e X.env=pure none:=by rfl)
 (h1:(assignEach [.Subscript (.Subscript (.Name x p) a p2) b tpos] X.env).map (·.2)=[assign (.Subscript (.Subscript (.Name x p) a p2) b tpos) X.env]:=by rfl):QS X (.Assign [.Subscript (.Subscript (.Name x p) a p2) b tpos] e pos) (acQ i re ra rb):=(Tg he (W3 (JK xg (pv i hN hv hd' hcd) ha hs1) hk set_list hq) hs hw h1).imp λD σ H hP=>by
 obtain⟨own,o,E,h,hr,L⟩:=hP;unfold acQ at hr;cases es:slot o i with
 |l2 tss =>
  rw[es]at hr;obtain⟨l,bs,e1,e3,nd,e4,ln,r⟩:=h.l2 es;refine tQ.mk h hr λH0 v0 y q E0' r0=>⟨_,e1,tQ.mk (h.same E0') q λH1 v x q E1 r1=>?_⟩
  revert r1 q
  generalize frz x=t;intro q r1;cases t<;>try exact q.elim
  cases r1;obtain⟨n,ts,en,et,q⟩:=q;obtain⟨c,ec,ei⟩:=ix3 (xs:=bs) ln en et;obtain⟨xs,eq,rx⟩:=r n c ts ec et;have E01:=E0'.trans E1;refine⟨l,bs.map V.ref,_,.ref c,rfl,rfl,.of (E01 _ _ e4),Tf ei,tQ.mk (h.same E01) q λH2 w z q E2 r2=>?_⟩
  revert r2 q
  generalize frz z=t;intro q r2;cases t<;>try exact q.elim
  cases r2;obtain⟨k,ek,q⟩:=q;have E12:=E01.trans E2;refine⟨c,xs,_,k,rfl,rfl,E12 _ _ eq,by rw[rx.len];exact ek,?_⟩;obtain⟨h',S⟩:=(h.same E12).chg2 es e1 e3 nd (E12 _ _ e4) ln (λi b ts a c=>let⟨xs,p,q⟩:=r i b ts a c;⟨xs,E12 _ _ p,q.same (bV E12)⟩) ec (bW.set (r0.same (bV (E1.trans E2))) k (rx.same (bV E12)));exact L.nx own _ σ _ q ((bV E12).trans S) h'
 |_=>rw[es]at hr;exact hr.elim
def akj:T->T->(OT->Prop)->Prop
 |.str i,.str j,q=>q (.fz (.bl (!decide (j.cps.toList<i.cps.toList))))
 |_,_,_=>False
theorem Zu:GO X (compareOp .LtE) akj:=afa.imp λx y H Q hP=>by
 obtain⟨S,t,u,R,_,hx,hy,hg,k⟩:=hP;cases hx<;>try exact hg.elim
 cases hy<;>try exact hg.elim
 exact⟨_,_,rfl,rfl,k H _ _ hg (.refl _) (NR.fz (.bl _))⟩
theorem Z_:GC X (.builtin "len") (g1 al4):=.one Ko λS t x H Q R rx hg k=>by
 cases t<;>try exact hg.elim
 cases rx;exact⟨_,rfl,hg.1,k H _ _ hg.2 (.refl _) (NR.fz (.int _))⟩
def al7(a:RE):RI:=λo q=>a o λx=>match frz x with|.str s=>q (s.cps.toList.map λc=>.str ⟨#[c]⟩)|_=>False
theorem acX{tg:Expr}(he:QE X e re):QI X tg e (al7 re):=(aey he).imp λσ H Q ⟨own,o,R,h,hr,k⟩=>tQ.mk h hr λH1 v x q E1 r1=>by
 revert r1 q
 generalize frz x=t;intro q r1;cases t<;>try exact q.elim
 cases r1;refine⟨_,rfl,k H1 _ _ q E1 λS H2 i _ SF=>⟨λhi=>show i=_ by simpa using hi,λt ht=>?_⟩⟩;rw[aq]at ht;cases z:(‹Str›.cps.toList)[i]? with
 |none=>rw[z]at ht;cases ht
 |some c =>
  rw[z]at ht;cases ht;refine⟨show i<_ by simpa using(ao.mp z).1,?_⟩;rintro x H3 ⟨rfl,c',e',rfl⟩;rw[<- Array.getElem?_toList,z]at e';cases e';exact⟨.refl _,.str _⟩
end
abbrev HG:=T->List OT->(List OT->Prop)->Prop
section
variable{α β:Type}{g:HG}{b:RS}{E:DT}{o:List OT}
theorem Vd(h:α->T)(l:List α)(J:List α->List OT->Prop)(st:∀as a bs o,l=as++a::bs->J as o->g (h a) o λo'=>b { E with nx:=J (as++[a]),ct:=J (as++[a]),bk:=E.nx } o')(fin:∀o,J l o->E.nx o):∀(bs as:List α)(o:List OT),l=as++bs->J as o->uq g b E (bs.map h) o
 |[],as,o,e,j=>fin o (by rw[List.append_nil]at e;rw[e];exact j)
 |a::bs,as,o,e,j=>⟨J (as++[a]),λo k=>Vd h l J st fin bs (as++[a]) o (by rw[e];simp) k,st as a bs o e j⟩
theorem gk(h:α->T)(l:List α)(J:List α->List OT->Prop)(j:J [] o)(st:∀as a bs o,l=as++a::bs->J as o->g (h a) o λo'=>b { E with nx:=J (as++[a]),ct:=J (as++[a]),bk:=E.nx } o')(fin:∀o,J l o->E.nx o):uq g b E (l.map h) o:=Vd h l J st fin l [] o rfl j
theorem A_(J:Nat->List OT->Prop):∀(xs:List T)(k:Nat){o:List OT},J k o->(∀i t o,xs[i]?=some t->J (k+i) o->g t o λo'=>b { E with nx:=J (k+i+1),ct:=J (k+i+1),bk:=E.nx } o')->(∀o,J (k+xs.length) o->E.nx o)->uq g b E xs o
 |[],_,o,j,_,fin=>fin o j
 |t::ts,k,o,j,st,fin=>⟨J (k+1),λo z=>A_ J ts (k+1) z (λi t o e z=>by
   have:=st (i+1) t o (by simpa using e) (by rw[show k+(i+1)=k+1+i by lia];exact z);rw[show k+(i+1)+1=k+1+i+1 by lia]at this;exact this) (λo z=>fin o (by rw[List.length_cons,show k+(ts.length+1)=k+1+ts.length by lia];exact z)),st 0 t o rfl j⟩
theorem mO{n:Nat}(J:Nat->List OT->Prop)(j:J 0 o)(st:∀k o,k<n->J k o->g (.int (k:Nat)) o λo'=>b { E with nx:=J (k+1),ct:=J (k+1),bk:=E.nx } o')(fin:∀o,J n o->E.nx o):uq g b E (rng 0 n) o:=by
 refine A_ J (rng 0 n) 0 j (λi t o e z=>?_) λo z=>fin o (by rw[rng,ak,List.length_range,Nat.zero_add]at z;exact z);unfold rng at e;rw[aq]at e;by_cases hi:i<n
 .rw[List.getElem?_range hi]at e;cases e;rw[Nat.zero_add]at z ⊢;have:=st i o hi z;show g (.int (0+((i:Nat):Int))) o _;rw[show(0:Int)+((i:Nat):Int)=((i:Nat):Int)by exact Int.zero_add _];exact this
 .rw[aM (by simpa using hi)]at e;cases e
theorem xu(h:α->T)(l:List α)(J:Nat->List OT->Prop)(j:J 0 o)(st:∀k a o,l[k]?=some a->J k o->g (.tup [.int (k:Nat),h a]) o λo'=>b { E with nx:=J (k+1),ct:=J (k+1),bk:=E.nx } o')(fin:∀o,J l.length o->E.nx o):uq g b E (xZ (l.map h)) o:=by
 refine A_ J (xZ (l.map h)) 0 j (λi t o e z=>?_) λo z=>fin o (by rw[xZ,ak,List.length_zipIdx,ak,Nat.zero_add]at z;exact z);unfold xZ at e;rw[aq]at e;by_cases hi:i<l.length
 .rw[aj (by simpa using hi),List.getElem_zipIdx,List.getElem_map]at e;cases e;rw[Nat.zero_add]at z ⊢;have:=st i _ o (aj hi) z;exact this
 .rw[aM (by simpa using hi)]at e;cases e
variable{c:RT}{e:RE}{q:List T->Prop}
theorem comp_map(h:α->T)(f:α->T):∀(l:List α){q:List T->Prop},(∀a∈l,∀(N:T->Prop)(M:Prop),N (f a)->g (h a) o λo'=>c o' λb=>sw b (e o' λy=>N (frz y)) M)->q (l.map f)->iK g c e o (l.map h) q
 |[],_,_,k=>k
 |a::l,q,st,k=>⟨λy=>y=f a,False,λy z=>comp_map h f l (λa ha=>st a (aJ _ ha)) (z ▸ k),False.elim,st a (aO ..) (λy=>y=f a) False rfl⟩
theorem qx(h:α->T)(p:α->Bool)(f:α->T):∀(l:List α){q:List T->Prop},(∀a∈l,∀(N:T->Prop)(M:Prop),(p a=true->N (f a))->(p a=false->M)->g (h a) o λo'=>c o' λb=>sw b (e o' λy=>N (frz y)) M)->q ((l.filter p).map f)->iK g c e o (l.map h) q
 |[],_,_,k=>k
 |a::l,q,st,k=>⟨λy=>y=f a/\p a=true,p a=false,λy z=>qx h p f l (λa ha=>st a (aJ _ ha)) (by rw[List.filter_cons_of_pos z.2]at k;exact z.1 ▸ k),λz=>qx h p f l (λa ha=>st a (aJ _ ha)) (by rw[List.filter_cons_of_neg (by rw[z];decide)]at k;exact k),st a (aO ..) (λy=>y=f a/\p a=true) (p a=false) (λz=>⟨rfl,z⟩) id⟩
inductive aeP(R:α->T->Prop):List α->List T->Prop
 |nil:aeP R [] []
 |cons {a:α}{t:T}{l:List α}{ts:List T} : R a t->aeP R l ts->aeP R (a::l) (t::ts)
theorem JT(f:Nat->T)(n:Nat)(st:∀k,k<n->∀(N:T->Prop)(M:Prop),N (f k)->g (.int (k:Nat)) o λo'=>c o' λb=>sw b (e o' λy=>N (frz y)) M)(k:q ((List.range n).map f)):iK g c e o (rng 0 n) q:=by
 refine comp_map (λk:Nat=>.int (0+k)) f (List.range n) (λa ha N M hN=>?_) k;have:=st a (List.mem_range.mp ha) N M hN;show g (.int (0+((a:Nat):Int))) o _;rw[show(0:Int)+((a:Nat):Int)=((a:Nat):Int)by exact Int.zero_add _];exact this
theorem zip_map{α β:Type}(h:α->T)(k:β->T)(xs:List α)(ys:List β):Gf (xs.map h) (ys.map k)=(xs.zip ys).map λp=>.tup [h p.1,k p.2]:=by
 unfold Gf;rw[List.zip_map,List.map_map]
 rfl
theorem Xk{α:Type}(h:α->T)(xs:List α):xZ (xs.map h)=xs.zipIdx.map λp=>.tup [.int (p.2:Nat),h p.1]:=by
 unfold xZ;rw[List.zipIdx_map,List.map_map]
 rfl
end
noncomputable def J2(ks:List Key)(j:Key):Bool:=ks.any λk=>decide (k=j)
def kpK(ks:List Key)(j:Key):List Key:=if J2 ks j=true then ks else ks++[j]
def kpT{α:Type}(ks:List Key)(ts:List α)(j:Key)(t:α):List α:=if J2 ks j=true then ks.zipWith (λk x=>if k=j then t else x) ts else ts++[t]
theorem Zd{j:Key}{v:V}{ks:List Key}{xs:Ζ}(l:ks.length=xs.length):putK (ks.zip xs) j v=(kpK ks j).zip (kpT ks xs j v)/\(kpK ks j).length=(kpT ks xs j v).length:=by
 have any:∀{ks:List Key}{xs:Ζ},ks.length=xs.length->((ks.zip xs).any λkv=>decide (kv.1=j))=J2 ks j:=λ{ks}=>by
  induction ks with
  |nil=>intro xs _;rfl
  |cons k ks ih =>
   intro xs l;cases xs with
   |nil=>cases l
   |cons x xs=>rw[List.zip_cons_cons,List.any_cons,ih (Nat.succ.inj l)];rfl
 unfold putK kpK kpT;rw[any l];by_cases h:J2 ks j=true
 .rw[ZY h,ZY h,ZY h];refine⟨?_,by rw[List.length_zipWith,l,Nat.min_self]⟩
  clear any h
  induction ks generalizing xs with
  |nil=>rfl
  |cons k ks ih =>
   cases xs with
   |nil=>cases l
   |cons x xs =>
    rw[List.zip_cons_cons,List.map_cons,ih (Nat.succ.inj l),List.zipWith_cons_cons,List.zip_cons_cons];by_cases h:k=j
    .rw[ZY h,ZY h]
    .rw[ZZ h,ZZ h]
 .rw[ZZ h,ZZ h,ZZ h];exact⟨by rw[List.zip_append l];rfl,by simp[l]⟩
theorem bW.kp{K:Frag}{F:Hp}{j:Key}{v:V}{t:T}(r:Rep K F v t){ks:List Key}{xs:Ζ}{ts:List T}(h:bW K F xs ts):bW K F (kpT ks xs j v) (kpT ks ts j t):=by
 unfold kpT;by_cases z:J2 ks j=true
 .rw[ZY z,ZY z]
  clear z
  induction ks generalizing xs ts with
  |nil=>exact .nil
  |cons k ks ih =>
   cases h with
   |nil=>exact .nil
   |cons a b =>
    rw[List.zipWith_cons_cons,List.zipWith_cons_cons];refine .cons ?_ (ih b);by_cases y:k=j
    .rw[ZY y,ZY y];exact r
    .rw[ZZ y,ZZ y];exact a
 .rw[ZZ z,ZZ z];exact h.app (.cons r .nil)
section
variable{X:Cx}{a b c e:Expr}{ra rb rc re:RE}{pos p:Pos}
def acD(i:Nat)(a b:RE):RS:=λE o=>match slot o i with|.d1 ks ts=>a o λy=>b o λk=>∃j,Wh (frz k)=some j/\ks.length<sizeLine/\E.nx (o.set i (.d1 (kpK ks j) (kpT ks ts j (frz y))))|_=>False
theorem SR.d1{K:Frag}{own:Nat->Ψ}{H:Hp}{σ:L2.St}{o:List OT}(h:SR K own H σ o){i:Nat}{ks:List Key}{ts:List T}(e:slot o i=.d1 ks ts):∃l xs,σ[i]?=some (some (.ref l))/\own i=[l]/\H l=some (.dK (ks.zip xs))/\ks.length=xs.length/\bW K (hd (Ow own) H) xs ts:=by
 obtain⟨u,e1,l,xs,e2,e3,e4,r⟩:=h.val e (by intro z;cases z);cases e2;exact⟨l,xs,e1,e3,e4,r⟩
theorem K_(i:Nat){x:Str}{tpos:Pos}(hu:X.A.units+1<cLine)(he:QE X e re)(hb:QE X b rb)(hN:X.N[i]?=some x:=by rfl)(hv:qN X.env.scope x=true:=by rfl)(hd':(x==("__debug__":Str))=false:=by decide)(hcd:(x==("__classdict__":Str))=false:=by decide)
 (hs:swapsWith e (some (.Subscript (.Name x p) b tpos)) pos.line X.env=pure false:=by rfl):QS X (.Assign [.Subscript (.Name x p) b tpos] e pos) (acD i re rb):=(abW hu (pv i hN hv hd' hcd) hb he hs).imp λD σ H hP=>by
 obtain⟨own,o,E,h,hr,L⟩:=hP;unfold acD at hr;cases es:slot o i with
 |d1 ks ts =>
  rw[es]at hr;obtain⟨l,xs,e1,e3,e4,ln,r⟩:=h.d1 es;refine tQ.mk h hr λH1 v y q E1 r1=>⟨_,e1,tQ.mk (h.same E1) q λH2 w z q E2 r2=>?_⟩;obtain⟨j,ek,sz,q⟩:=q;have E12:=E1.trans E2;cases Nb r2 ek;obtain⟨pk,pl⟩:=Zd (j:=j) (v:=v) ln;have lz:(ks.zip xs).length<sizeLine:=by rw[List.length_zip,<- ln,Nat.min_self];exact sz
  refine⟨l,_,rfl,.inl ⟨_,j,E12 _ _ e4,rfl,lz,rfl⟩,?_⟩;rw[pk];obtain⟨h',S⟩:=(h.same E12).chg (gH es (by intro z;cases z)) (y:=.d1 (kpK ks j) (kpT ks ts j (frz y))) (H':=upd H2 l (.dK ((kpK ks j).zip (kpT ks xs j v)))) (λb u hb e=>(cC λz=>hb (by rw[e3,z];simp)).trans e) (by
   rw[e1,BL ⟨i,by rw[e3];simp⟩];exact⟨l,_,rfl,e3,cF,pl,bW.kp (r1.same (bV E2)) (r.same (bV E12))⟩)
  exact L.nx own _ σ _ q ((bV E12).trans S) h'
 |_=>rw[es]at hr;exact hr.elim
def acw(i:Nat)(a b:RE):RE:=λo q=>match slot o i with|.d1 ks ts=>a o λy=>b o λz=>∃j,Wh (frz y)=some j/\q (.fz ((oY ks ts j).getD (frz z)))|_=>False
theorem aaF(i:Nat){x:Str}{apos cpos:Pos}(hu:X.A.units+1<cLine)(ha:QE X a ra)(hb:QE X b rb)(m:M2 X (.Name x p) "get" apos a b cpos:=by first|exact⟨rfl,rfl,rfl,rfl⟩|constructor<;>rfl)(hN:X.N[i]?=some x:=by rfl)(hv:qN X.env.scope x=true:=by rfl)(hd':(x==("__debug__":Str))=false:=by decide)(hcd:(x==("__classdict__":Str))=false:=by decide) :
  QE X (.Call (.Attribute (.Name x p) "get" apos) [a,b] [] cpos) (acw i ra rb):=(Yb hu (pv i hN hv hd' hcd) ha hb m).imp λσ H Q hP=>by
 obtain⟨own,o,R,h,hr,k⟩:=hP;unfold acw at hr;cases es:slot o i with
 |d1 ks ts =>
  rw[es]at hr;obtain⟨l,xs,e1,e3,e4,ln,r⟩:=h.d1 es;refine⟨_,e1,l,rfl,.inl ⟨_,.inl e4⟩,tQ.mk h hr λH1 v y q E1 r1=>tQ.mk (h.same E1) q λH2 w z q E2 r2=>?_⟩;obtain⟨j,ek,q⟩:=q;have E12:=E1.trans E2;cases Nb r1 ek;refine⟨_,Cw.k (E12 _ _ e4),?_⟩;have r:=r.same (bV E12);cases z1:oY ks ts j with
  |none =>
   rw[z1]at q;rw[(CN r).2 z1];exact k H2 _ _ q E12 (NR.fz r2)
  |some t =>
   rw[z1]at q;obtain⟨u,e5,r5⟩:=(CN r).1 t z1;rw[e5];exact k H2 _ _ q E12 (NR.fz r5)
 |_=>rw[es]at hr;exact hr.elim
noncomputable def kT:Key->T
 |.inl i=>.int i
 |.inr s=>.str s
def acV(i n:Nat)(g:T->List OT->(List OT->Prop)->Prop)(c:RT)(e:RE):RS:=λE o=>match slot o i with
 |.d1 ks ts=>ks.length<=sizeLine/\iK g c e (List.replicate n .und++o.set i (.fz (.dct ks ts))) (ks.map kT) λus=>E.rt (.l1 us)
 |_=>False
theorem Z5{K:Frag}{a:Addr}{ob:Obj}{ks:List Key}{xs:Ζ}{F:Hp}(l:ks.length=xs.length)(e:F a=some (.frz ob (.dK (ks.zip xs)))):Wlk K (Itk a ob (ks.zip xs)) F (ks.map kT):=λS H i _ SF=>by
 have eH:=(cQ (SF _ _ e)).2;have lz:(ks.zip xs).length=ks.length:=by rw[List.length_zip,<- l,Nat.min_self]
 refine⟨λhi=>⟨eH,by rw[lz];simpa using hi⟩,λt ht=>?_⟩;rw[aq]at ht;cases z:ks[i]? with
 |none=>rw[z]at ht;cases ht
 |some k =>
  rw[z]at ht;cases ht;have hi:=(ao.mp z).1;refine⟨⟨eH,by rw[lz];exact hi⟩,?_⟩;rintro x H' ⟨rfl,k',y,e1,rfl⟩;rw[aj (by rw[lz];exact hi),List.getElem_zip]at e1;rw[aj hi]at z;cases z;cases e1;refine⟨.refl _,?_⟩;cases ks[i]with
  |inl j=>exact .int _
  |inr s=>exact .str _
theorem aaf{tg elt:Expr}{ifs:List Expr}{g:T->List OT->(List OT->Prop)->Prop}{rc:RT}{scope:Scope}{x:Str}{cpos:Pos}(i:Nat)(sc:Scope)(N N' xs:Φ)(hg:∀{C s₀ H₀ ex pn},QG (X.compG N' scope xs C s₀ H₀ ex pn) xs.length tg g)(ht:∀{C s₀ H₀ ex pn},QTs (X.compG N' scope xs C s₀ H₀ ex pn) ifs rc)(he:∀{C s₀ H₀ ex pn},QE (X.compG N' scope xs C s₀ H₀ ex pn) elt re)
 (hN:X.N[i]?=some x:=by rfl)(hv:qN X.env.scope x=true:=by rfl)(hd':(x==("__debug__":Str))=false:=by decide)(hcd:(x==("__classdict__":Str))=false:=by decide)
 (hsc:X.env.scope=sc:=by rfl)(hNN:X.N=N:=by rfl)(hc:X.calm=true:=by rfl)(hk:scope.kind=.function:=by rfl)(h:CK sc scope N N' xs:=by decide +kernel)(hs:∀z,foldedSetIterable (.Name x p) X.env z=pure z:=by intro _;rfl) :
  QS X (.Return (some (.ListComp elt [⟨tg,.Name x p,ifs,0⟩] scope cpos)) pos) (acV i xs.length g rc re):=(Rj (YW (gt:=tQG X.K xs.length g) (tc:=tQT X.K rc) (te:=tQ X.K re) sc N N' xs (aaQ (tg:=tg) (pv i hN hv hd' hcd)) hg ht he hsc hNN hc hk h hs)).imp λD σ H hP=>by
 obtain⟨own,o,E,h,hr,L⟩:=hP;unfold acV at hr;cases es:slot o i with
 |d1 ks ts =>
  rw[es]at hr;obtain⟨l,ys,e1,e3,e4,ln,r⟩:=h.d1 es;refine⟨_,e1,l,_,rfl,e4,λob DD nD=>?_⟩;have eo:∀b,Ow (own1 own i []) b->Ow own b/\b≠l:=λb hP=>by
   obtain⟨j,z⟩:=hP;by_cases y:j=i
   .rw[y,iU]at z;cases z
   .rw[eY y]at z;exact⟨⟨j,z⟩,λw=>y (h.dis j i b z (by rw[e3,w];simp))⟩
  have nl:¬Ow (own1 own i []) l:=λz=>(eo l z).2 rfl;have ol:Ow own l:=⟨i,by rw[e3];simp⟩;have S1:Same (hd (Ow own) H) (hd (Ow (own1 own i [])) (upd H l (.frz ob (.dK (ks.zip ys))))):=λb u e=>by
   obtain⟨n,e⟩:=cQ e;rw[cM λz=>n (eo b z).1,cC λ(z:b=l)=>n (z.symm ▸ ol)];exact e
  have h1:SR X.K (own1 own i []) (upd H l (.frz ob (.dK (ks.zip ys)))) σ (o.set i (.fz (.dct ks ts))):=by
   have hi:i<o.length:=(ao.mp (gH es (by intro z;cases z))).1;refine⟨by rw[List.length_set,h.len],λj y e'=>?_,λj hj a ha=>?_,λj k a z1 z2=>?_⟩
   .by_cases z:j=i
    .subst z;rw[List.getElem?_set_self hi]at e';cases e';rw[iU,e1];exact⟨rfl,_,rfl,.dct (.inr ⟨ob,by rw[cM nl];exact cF⟩) ln (r.same S1)⟩
    .rw[List.getElem?_set_ne (Ne.symm z)]at e';rw[eY z];exact((h.sl j y e').same S1 (.refl _)).off λb hb u e=>(cC λw=>z (h.dis j i b hb (by rw[e3,w];simp))).trans e
   .rw[List.length_set]at hj;rw[eY (by lia)]at ha;obtain⟨xs,e⟩:=h.out j hj a ha;exact⟨xs,(cC λw=>by have:=h.dis j i a ha (by rw[e3,w];simp);lia).trans e⟩
   .by_cases z:j=i
    .rw[z,iU]at z1;cases z1
    by_cases y:k=i
    .rw[y,iU]at z2;cases z2
    .rw[eY z]at z1;rw[eY y]at z2;exact h.dis j k a z1 z2
  have L1:=L.step S1;refine PB h1 (Z5 ln (by rw[cM nl];exact cF)) (by simpa using hr.1) hr.2 nD λH' v y rx E n=>?_;obtain⟨B,nb,s⟩:=n;exact L1.rt _ H' v y B rx (g_ (λb z=>z.imp id (nb b)) E) s λa ha=>.inr ha
 |_=>rw[es]at hr;exact hr.elim
end
def ae1(K:Frag)(as:Ψ)(H:Hp)(tss:List (List T)):Prop:=tss.length=as.length/\∀(j:Nat)a ts,as[j]?=some a->tss[j]?=some ts->∃xs,H a=some (.lst xs)/\bW K (hd (· ∈ as) H) xs ts
abbrev SO:=List (List T)->List T->(List (List T)->Prop)->Prop
def spO(K:Frag)(S:SO):Sp:=λvs H Q _=>∃(as:Ψ)(tss:List (List T))(us:Ζ)(ts:List T)(R:List (List T)->Prop),vs=as.map V.ref++us/\as.Nodup/\ae1 K as H tss/\bW K (hd (· ∈ as) H) us ts/\S tss ts R /\
 ∀H' tss',R tss'->Same (hd (· ∈ as) H) (hd (· ∈ as) H')->ae1 K as H' tss'->Q .non H'
noncomputable def ownL(as:Ψ)(i:Nat):Ψ:=match as[i]? with|some a=>[a]|none=>[]
theorem Ek{as:Ψ}{i:Nat}{b:Addr}(h:b∈ownL as i):as[i]?=some b:=by
 unfold ownL at h;cases e:as[i]? with
 |none=>rw[e]at h;cases h
 |some a=>rw[e]at h;cases YR.mp h;rfl
theorem U7{as:Ψ}{i:Nat}{b:Addr}(h:as[i]?=some b):ownL as i=[b]:=by unfold ownL;rw[h]
theorem Ow.ownL(as:Ψ):Ow (L2.ownL as)=(· ∈ as):=funext λb=>propext ⟨λ⟨i,z⟩=>aC (Ek z),λz=>by
 obtain⟨i,e⟩:=aV z;exact⟨i,by rw[U7 e];simp⟩⟩
def startO(n:Nat)(as:Ψ)(tss:List (List T))(ts:List T):List OT:=List.zipWith OT.la as tss++start' (n-as.length) ts
section
variable{P:Program}{w:World}{K:Frag}{mg:Str->Ω}{base:Heap}
theorem SR.startO{H:Hp}{as:Ψ}{tss:List (List T)}{us:Ζ}{ts:List T}(nd:as.Nodup)(h:ae1 K as H tss)(r:bW K (hd (· ∈ as) H) us ts)(N:Φ)(hN:as.length+us.length<=N.length):SR K (ownL as) H (L2.start N (as.map V.ref++us)) (L2.startO N.length as tss ts):=by
 have zl:(List.zipWith OT.la as tss).length=as.length:=by rw[List.length_zipWith,h.1,Nat.min_self]
 refine⟨?_,λi x e=>?_,λi hi b hb=>?_,λi j b e1 e2=>GR nd (Ek e1) (Ek e2)⟩
 .unfold L2.startO start' L2.start;have:=r.len;simp only[aA,ak,aN,zl];lia
 .rw[Ow.ownL];unfold L2.startO at e;unfold L2.start;by_cases hi:i<as.length
  .rw[aF (by rw[zl];exact hi),List.getElem?_zipWith]at e;have ea:=aj hi;have et:=aj (l:=tss) (by rw[h.1];exact hi);rw[ea,et]at e;cases e;rw[U7 ea,aF (by simp;exact WV _ hi),aq,aF (by simpa using hi),aq,ea];obtain⟨xs,q,rx⟩:=h.2 i _ _ ea et;exact⟨xs,rfl,rfl,q,rx⟩
  .have on:ownL as i=[]:=by unfold ownL;rw[aM (Nat.not_lt.mp hi)]
   rw[on];rw[aD (by rw[zl];exact Nat.not_lt.mp hi),zl]at e;unfold start' at e;by_cases hj:i-as.length<ts.length
   .rw[aF (by simpa using hj),aq,aj hj]at e;cases e;obtain⟨v,e1,r1⟩:=r.at_ (aj hj);have:=r.len;rw[aF (by simp;lia),aq,aD (by simpa using Nat.not_lt.mp hi),ak,e1];exact⟨rfl,v,rfl,r1⟩
   .rw[aD (by simpa using hj),ak,XG]at e;split at e
    .cases e;rfl
    .cases e
 .unfold L2.startO at hi;rw[aA,zl]at hi;have:=(ao.mp (Ek hb)).1;lia
theorem slot_of:∀{o:List OT}{i:Nat}{x:OT},o[i]?=some x->slot o i=x
 |[],_,_,e=>by cases e
 |_::_,0,_,e=>by cases e;rfl
 |_::l,i+1,x,e=>slot_of (o:=l) (by simpa using e)
theorem Fun.okO{x qual:Str}{st:Stmt}{f:Addr}{fd:FuncData}{N ps:Φ}{k:Nat}{S:SO}(F:Fun K x qual st f fd)(sc:bK N ps (bH st))(len:∀tss ts R,S tss ts R->tss.length+ts.length=ps.length)(hn:ps.length<=N.length)
 (hbody:∀(cdv:Value)(A:Around)(outer:List Env)(s:Shared)(H:Hp)(E:XK),eX k (A.deeper (envOfC qual (bH st) s.heap.objs.size f cdv)) ->
   ∃r,QSs (M5 CX0 P w K mg base N qual (bH st) f cdv A outer s H E).nox (fD st) r/\∀as tss ts R,tss.length=as.length->S tss ts R->r { nx:=λo=>∃tss',(∀j,slot o j=slot (List.zipWith OT.la as tss') j\/as.length<=j)/\tss'.length=as.length/\R tss',rt:=λ_=>False } (startO N.length as tss ts)):b_ P w K mg base CX0 (k+1) f fd ps (spO K S):=by
 refine F.ok sc (λvs H Q E h=>?_) λcdv A outer s H vs Q E hr h=>?_
 .obtain⟨as,tss,us,ts,R,rfl,_,l,r,hS,_⟩:=h;rw[aA,ak,<- l.1,r.len];exact len _ _ _ hS
 .obtain⟨as,tss,us,ts,R,rfl,nd,l,r,hS,q⟩:=h;obtain⟨rd,h1,h2⟩:=hbody cdv A outer s H E hr;have s0:=SR.startO nd l r N (by rw[<- l.1,r.len,len _ _ _ hS];exact hn);refine⟨_,h1,_,_,_,s0,h2 as tss ts R l.1 hS,⟨λown H' σ o rx E h=>?_,λ_ _ _ _ _ z=>z.elim,λ_ _ _ _ z=>z.elim,λ_ _ _ _ z=>z.elim⟩⟩;obtain⟨tss',es,tl,rx⟩:=rx;rw[Ow.ownL]at E;have key:∀(j:Nat)a t,as[j]?=some a->tss'[j]?=some t->slot o j=.la a t:=λj a t e1 e2=>by
   rcases es j with z|z
   .rw[z];exact slot_of (by rw[List.getElem?_zipWith,e1,e2])
   .exact absurd (ao.mp e1).1 (Nat.not_lt.mpr z)
  have sub:Same (hd (Ow own) H') (hd (· ∈ as) H'):=g_ (λb z=>.inl (by
   obtain⟨j,e⟩:=aV z;have lj:j<tss'.length:=tl ▸ (ao.mp e).1;obtain⟨u,_,xs,_,e3,_⟩:=h.val (key j b _ e (aj lj)) (by intro z;cases z);exact⟨j,by rw[e3];simp⟩)) λ_ _ z=>z
  refine q H' tss' rx (E.trans sub) ⟨tl,λj a t e1 e2=>?_⟩;obtain⟨u,_,xs,_,_,e4,r4⟩:=h.val (key j a t e1 e2) (by intro z;cases z);exact⟨xs,e4,r4.same sub⟩
end
section
variable{X:Cx}{es:List Expr}{r:RA}{pos p p1 p2 cpos:Pos}
theorem Y0{K:Frag}{own:Nat->Ψ}{H:Hp}{σ:L2.St}{o:List OT}(h:SR K own H σ o){as:Ψ}(hs:∀a∈as,∃j,own j=[a]):Hid H (λb=>Ow own b/\b∉as)/\∀H':Hp,hd (· ∈ as) (hd (λb=>Ow own b/\b∉as) H')=hd (Ow own) H':=by
 have in1:∀{b x:Addr}{j:Nat},b∈own j->b∉as->x∈own j->x∉as:=λ{b x j}hb n hx z=>by
  obtain⟨k,ek⟩:=hs x z;have:=h.dis j k x hx (by rw[ek];simp);subst this;rw[ek]at hb hx;cases YR.mp hb;exact n z
 refine⟨⟨λb z=>h.sole z.1,λb C d f ⟨⟨j,z⟩,n⟩ e=>⟨⟨j,(h.mate z).1 C d f e⟩,in1 z n ((h.mate z).1 C d f e)⟩,λb x ⟨⟨j,z⟩,n⟩ e=>⟨⟨j,(h.mate z).2 x e⟩,in1 z n ((h.mate z).2 x e)⟩⟩,λH'=>funext λb=>?_⟩;by_cases z:b∈as
 .obtain⟨k,ek⟩:=hs b z;rw[pH z,pH ⟨k,by rw[ek];simp⟩]
 .rw[cM z];by_cases y:Ow own b
  .rw[pH (⟨y,z⟩ : Ow own b/\b∉as),pH y]
  .rw[cM (λw=>y w.1),cM y]
def al6(i:Nat)(S:SO)(r:RA):RS:=λE o=>onL (slot o i) λts c=>r o λas=>S [ts] as λtss=>match tss with|[t]=>E.nx (o.set i (c t))|_=>False
theorem afb(i:Nat){x y:Str}{k:Nat}{ps:Φ}{S:SO}(G:OkF X.prog X.w X.K X.mg X.base k x ps (spO X.K S))(hr:eX k X.A)(hg:Gl X x)(ha:QA X es r)(hN:X.N[i]?=some y:=by rfl)(hv:qN X.env.scope y=true:=by rfl)(hd':(y==("__debug__":Str))=false:=by decide)(hcd:(y==("__classdict__":Str))=false:=by decide)(hdb:(x==("__debug__":Str))=false:=by decide)
 (he:starEach (.Name y p1::es) X.env=(false,eval (.Name y p1) X.env)::starEach es X.env:=by rfl)(hpl:(backTo cpos (starEach es X.env)).any (·.1)=false:=by rfl)(hs:swapsWith (.Call (.Name x p) (.Name y p1::es) [] cpos) none pos.line X.env=pure false:=by rfl):QS X (.Expr (.Call (.Name x p) (.Name y p1::es) [] cpos) pos) (al6 i S r):=by
 obtain⟨f,fd,F,b,hm,kp⟩:=G;refine(wW (Gv (sp:=spH (spO X.K S)) ⟨f,fd,F.hid,b,hm,kp⟩ hr hg (nF (pv i hN hv hd' hcd) ha he) hdb he hpl) hs).imp λD σ H hP=>?_;obtain⟨own,o,E,h,hr,L⟩:=hP;obtain⟨ts,c,hr,es⟩:=BR hr;obtain⟨l,xs,e1,e2,e3,r0,sl⟩:=h.l1 es;refine⟨_,e1,tQA.mk h hr λH1 vs as q _ E1 r1=>?_⟩;have h1:=h.same E1;obtain⟨hid,eqF⟩:=Y0 h1 (as:=[l]) λa ha=>⟨i,by rw[YR.mp ha];exact e2⟩;have nl:¬(Ow own l/\l∉[l]):=λz=>z.2 (by simp);refine⟨_,hid,[l],[ts],vs,as,_,rfl,by simp,⟨rfl,λj a t ea et=>?_⟩,by rw[eqF];exact r1,q,λG tss' rx EE ls gone=>?_⟩
 .cases j with
  |zero=>cases ea;cases et;exact⟨xs,(cM nl).trans (E1 _ _ e3),by rw[eqF];exact r0.same (bV E1)⟩
  |succ j=>cases ea
 .match tss',rx,ls with
  |[t],rx,ls =>
   obtain⟨ys,ey,ry⟩:=ls.2 0 l t rfl rfl;rw[eqF]at EE;have at':∀{b:Addr}{u:HO},G b=some u->mrg (λb=>Ow own b/\b∉[l]) H1 G b=some u:=λ{b u}e=>(jO λz=>by rw[gone b z]at e;cases e).trans e;obtain⟨x,ex⟩:=GQ es;obtain⟨h',S'⟩:=h1.chg ex (y:=c t) (H':=mrg (λb=>Ow own b/\b∉[l]) H1 G) (λb u hb e=>by
    by_cases z:Ow own b
    .rw[uL ⟨z,λy=>hb (by rw[e2];exact y)⟩];exact e
    .exact at' (cQ (EE b u ((cM z).trans e))).2) (by
    rw[e1,e2];refine sl _ ys t (at' ey) (ry.same λb u e=>?_);obtain⟨n1,e⟩:=cQ e;rw[cM λz=>by rw[gone b ⟨z,n1⟩]at e;cases e];exact at' e)
   exact L.nx own _ σ _ rx ((bV E1).trans S') h'
def alZ(i j:Nat)(S:SO)(r:RA):RS:=λE o=>onL (slot o i) λts c=>onL (slot o j) λus d=>r o λas=>S [ts,us] as λtss=>match tss with|[t,u]=>E.nx ((o.set i (c t)).set j (d u))|_=>False
theorem Fl(i j:Nat){x y z:Str}{k:Nat}{ps:Φ}{S:SO}(G:OkF X.prog X.w X.K X.mg X.base k x ps (spO X.K S))(hr:eX k X.A)(hg:Gl X x)(ha:QA X es r)(hij:i≠j:=by decide)(hN:X.N[i]?=some y:=by rfl)(hv:qN X.env.scope y=true:=by rfl)(hd':(y==("__debug__":Str))=false:=by decide)(hcd:(y==("__classdict__":Str))=false:=by decide)(hN2:X.N[j]?=some z:=by rfl)(hv2:qN X.env.scope z=true:=by rfl)(hd2:(z==("__debug__":Str))=false:=by decide)(hcd2:(z==("__classdict__":Str))=false:=by decide)(hdb:(x==("__debug__":Str))=false:=by decide)
 (he:starEach (.Name y p1::.Name z p2::es) X.env=(false,eval (.Name y p1) X.env)::starEach (.Name z p2::es) X.env:=by rfl)(he2:starEach (.Name z p2::es) X.env=(false,eval (.Name z p2) X.env)::starEach es X.env:=by rfl)(hpl:(backTo cpos (starEach (.Name z p2::es) X.env)).any (·.1)=false:=by rfl)(hs:swapsWith (.Call (.Name x p) (.Name y p1::.Name z p2::es) [] cpos) none pos.line X.env=pure false:=by rfl):QS X (.Expr (.Call (.Name x p) (.Name y p1::.Name z p2::es) [] cpos) pos) (alZ i j S r):=by
 obtain⟨f,fd,F,b,hm,kp⟩:=G;refine(wW (Gv (sp:=spH (spO X.K S)) ⟨f,fd,F.hid,b,hm,kp⟩ hr hg (nF (pv i hN hv hd' hcd) (nF (pv j hN2 hv2 hd2 hcd2) ha he2) he) hdb he hpl) hs).imp λD σ H hP=>?_;obtain⟨own,o,E,h,hr,L⟩:=hP;obtain⟨ts,c,hr,es⟩:=BR hr;obtain⟨us,d,hr,es2⟩:=BR hr;obtain⟨l,xs,e1,e2,e3,r0,sl⟩:=h.l1 es;obtain⟨m,zs,f1,f2,f3,s0,sl2⟩:=h.l1 es2;have lm:l≠m:=λz=>hij (h.dis i j l (by rw[e2];simp) (by rw[f2,z];simp));refine⟨_,e1,_,f1,tQA.mk h hr λH1 vs as q _ E1 r1=>?_⟩;have h1:=h.same E1;obtain⟨hid,eqF⟩:=Y0 h1 (as:=[l,m]) λa ha=>by
  rcases YU.mp ha with z|z
  .exact⟨i,by rw[z];exact e2⟩
  .exact⟨j,by rw[YR.mp z];exact f2⟩
 have nl:¬(Ow own l/\l∉[l,m]):=λz=>z.2 (by simp);have nm:¬(Ow own m/\m∉[l,m]):=λz=>z.2 (by simp);refine⟨_,hid,[l,m],[ts,us],vs,as,_,rfl,by simp[lm],⟨rfl,λj a t ea et=>?_⟩,by rw[eqF];exact r1,q,λG tss' rx EE ls gone=>?_⟩
 .match j,ea,et with
  |0,ea,et=>cases ea;cases et;exact⟨xs,(cM nl).trans (E1 _ _ e3),by rw[eqF];exact r0.same (bV E1)⟩
  |1,ea,et=>cases ea;cases et;exact⟨zs,(cM nm).trans (E1 _ _ f3),by rw[eqF];exact s0.same (bV E1)⟩
  |j+2,ea,_=>cases ea
 .match tss',rx,ls with
  |[t,u],rx,ls =>
   obtain⟨ys,ey,ry⟩:=ls.2 0 l t rfl rfl;obtain⟨ws,ew,rw_⟩:=ls.2 1 m u rfl rfl;rw[eqF]at EE;have at':∀{b:Addr}{u:HO},G b=some u->mrg (λb=>Ow own b/\b∉[l,m]) H1 G b=some u:=λ{b u}e=>(jO λz=>by rw[gone b z]at e;cases e).trans e;generalize hM:mrg (λb=>Ow own b/\b∉[l,m]) H1 G=M at at';have keep:∀b u,b≠l->b≠m->H1 b=some u->M b=some u:=λb u n1 n2 e=>by
    by_cases z:Ow own b
    .rw[<- hM,uL ⟨z,by simp[n1,n2]⟩];exact e
    .exact at' (cQ (EE b u ((cM z).trans e))).2
   have back:∀(M':Hp),(∀b,b≠m->M' b=M b)->Same (hd (· ∈ [l,m]) G) (hd (Ow own) M'):=λM' hM' b u e=>by
    obtain⟨n1,e⟩:=cQ e;rw[cM (λz=>by rw[gone b ⟨z,n1⟩]at e;cases e),hM' b λz=>n1 (by simp[z])];exact at' e
   obtain⟨x,ex⟩:=GQ es;obtain⟨x2,ex2⟩:=GQ es2;obtain⟨h2,S2⟩:=h1.chg ex (y:=c t) (H':=upd M m (.lst zs)) (λb u hb e=>by
    by_cases z:b=m
    .rw[z,cF];rw[z,E1 _ _ f3]at e;exact e
    .rw[cC z];exact keep b u (λy=>hb (by rw[e2,y];simp)) z e) (by
    rw[e1,e2];exact sl _ ys t ((cC lm).trans (at' ey)) (ry.same (back _ λb n=>cC n)))
   obtain⟨h3,S3⟩:=h2.chg (show(o.set i (c t))[j]?=some x2 by rw[List.getElem?_set_ne hij];exact ex2) (y:=d u) (H':=M) (λb w hb e=>by rw[cC λz=>hb (by rw[f2,z];simp)]at e;exact e) (by
    rw[f1,f2];exact sl2 _ ws u (at' ew) (rw_.same (back _ λ_ _=>rfl)))
   exact L.nx own _ σ _ rx ((bV E1).trans (S2.trans S3)) h3
end
def Hl(g:T->List OT->(List OT->Prop)->Prop)(c:RT)(e:RE)(o:List OT):List T->(List (List T)->Prop)->Prop
 |[],q=>q []
 |t::ts,q=>∃(N:List T->Prop)(M:Prop),(∀y,N y->Hl g c e o ts λus=>q (y::us))/\(M->Hl g c e o ts q)/\g t o λo'=>c o' λb=>sw b (e o' λy=>match y with|.l1 us=>N us|_=>False) M
def Xu(it:RI)(n:Nat)(g:T->List OT->(List OT->Prop)->Prop)(c:RT)(e:RE):RE:=λo q=>it o λxs=>xs.length<=sizeLine/\Hl g c e (List.replicate n .und++o) xs λus=>q (.l2 us)
noncomputable def ownL2(n L:Nat)(own:Nat->Ψ)(A:Ψ):Nat->Ψ:=λi=>if i<n then[]else if i<n+L then own (i-n)else if i=n+L then A else own (i-n-1)
theorem Ow.ownL2{n L:Nat}{own:Nat->Ψ}{A:Ψ}{b:Addr} : Ow (ownL2 n L own A) b↔Ow own b\/b∈A:=by
 constructor
 .rintro⟨i,z⟩;unfold L2.ownL2 at z;by_cases h1:i<n
  .rw[ZY h1]at z;cases z
  rw[ZZ h1]at z;by_cases h2:i<n+L
  .rw[ZY h2]at z;exact .inl ⟨_,z⟩
  rw[ZZ h2]at z;by_cases h3:i=n+L
  .rw[ZY h3]at z;exact .inr z
  .rw[ZZ h3]at z;exact .inl ⟨_,z⟩
 .rintro(⟨i,z⟩|z)
  .by_cases h:i<L
   .exact⟨n+i,by unfold L2.ownL2;rw[ZZ (Nat.not_lt_of_le (X1 _ _)),ZY (Nat.add_lt_add_left h _),show n+i-n=i by exact Nat.add_sub_cancel_left _ _];exact z⟩
   .exact⟨n+i+1,by unfold L2.ownL2;rw[ZZ (by lia),ZZ (by lia),ZZ (by lia),show n+i+1-n-1=i by lia];exact z⟩
  .exact⟨n+L,by unfold L2.ownL2;rw[ZZ (Nat.not_lt_of_le (X1 _ _)),ZZ (X2 _),ZY rfl];exact z⟩
theorem SR.blockL{K:Frag}{own:Nat->Ψ}{H:Hp}{σ:L2.St}{o:List OT}(h:SR K own H σ o){A:Ψ}{H':Hp}(E:Same H H')(nA:∀a∈A,H a=none)(eA:∀a∈A,∃ys,H' a=some (.lst ys))(pre:L2.St):SR K (ownL2 pre.length o.length own A) H' (pre++σ) (List.replicate pre.length .und++o):=by
 have le:Same (hd (Ow own) H) (hd (Ow (ownL2 pre.length o.length own A)) H'):=g_ (λb z=>(Ow.ownL2.mp z).imp id (nA b)) E;have ndj:∀j,∀a∈A,a∉own j:=λj a ha z=>(h.sole ⟨j,z⟩).ne (nA a ha);refine⟨by simp[h.len],λi x e=>?_,λi hi a ha=>?_,λi j a e1 e2=>?_⟩
 .by_cases h1:i<pre.length
  .rw[aF (by simpa using h1),XG,ZY h1]at e;cases e;show ownL2 _ _ _ _ i=[];unfold ownL2;rw[ZY h1]
  .rw[aD (by simpa using h1),aN]at e;have h2:i-pre.length<o.length:=(ao.mp e).1;rw[aD (Nat.not_lt.mp h1)];have:ownL2 pre.length o.length own A i=own (i-pre.length):=by unfold ownL2;rw[ZZ h1,ZY (by omega)]
   rw[this];exact(h.sl _ x e).same le E
 .rw[aA,aN]at hi;unfold ownL2 at ha;rw[ZZ (by lia),ZZ (Nat.not_lt_of_le hi)]at ha;by_cases h3:i=pre.length+o.length
  .rw[ZY h3]at ha;exact eA a ha
  .rw[ZZ h3]at ha;obtain⟨xs,e⟩:=h.out _ (by lia) a ha;exact⟨xs,E _ _ e⟩
 .unfold ownL2 at e1 e2;by_cases a1:i<pre.length
  .rw[ZY a1]at e1;cases e1
  by_cases b1:j<pre.length
  .rw[ZY b1]at e2;cases e2
  rw[ZZ a1]at e1;rw[ZZ b1]at e2;by_cases a2:i<pre.length+o.length<;>by_cases b2:j<pre.length+o.length
  .rw[ZY a2]at e1;rw[ZY b2]at e2;have:=h.dis _ _ a e1 e2;omega
  .rw[ZY a2]at e1;rw[ZZ b2]at e2;by_cases b3:j=pre.length+o.length
   .rw[ZY b3]at e2;exact absurd e1 (ndj _ a e2)
   .rw[ZZ b3]at e2;have:=h.dis _ _ a e1 e2;omega
  .rw[ZZ a2]at e1;rw[ZY b2]at e2;by_cases a3:i=pre.length+o.length
   .rw[ZY a3]at e1;exact absurd e2 (ndj _ a e1)
   .rw[ZZ a3]at e1;have:=h.dis _ _ a e1 e2;lia
  .rw[ZZ a2]at e1;rw[ZZ b2]at e2;by_cases a3:i=pre.length+o.length<;>by_cases b3:j=pre.length+o.length
   .exact Eq.trans a3 (Eq.symm b3)
   .rw[ZY a3]at e1;rw[ZZ b3]at e2;exact absurd e2 (ndj _ a e1)
   .rw[ZZ a3]at e1;rw[ZY b3]at e2;exact absurd e1 (ndj _ a e2)
   .rw[ZZ a3]at e1;rw[ZZ b3]at e2;have:=h.dis _ _ a e1 e2;lia
theorem Vl{K:Frag}{σ:L2.St}{Q:VK}{n:Nat}{g:T->List OT->(List OT->Prop)->Prop}{rc:RT}{re:RE}{own:Nat->Ψ}{o:List OT}{H1:Hp}{J:It}{xs:List T}{R:OT->Prop}{D:Addr}(h1:SR K own H1 σ o)(wk:Wlk K J (hd (Ow own) H1) xs)(lx:xs.length<=sizeLine)(q:Hl g rc re (List.replicate n .und++o) xs λus=>R (.l2 us))(nD:H1 D=none)(k:∀H' v x,R x->Same H1 H'->NR K (Ow own) H1 H' v x->Q v H') :
  ∃W:Nat->Nat->Ζ->Hp->Prop,(∃m,W 0 m [] (upd H1 D (.lst [])))/\∀i m ys Hc,W i m ys Hc ->
   (J.stop i Hc/\Q (.ref D) Hc)\/(J.go i Hc/\∀x H',J.yld i Hc x H'->∀pre:L2.St,pre.length=n->tMG (tQG K n g) x (pre++σ) H' λσ2 H2=>∃pre':L2.St,pre'.length=n/\σ2=pre'++σ/\tMT (tQT K rc) σ2 H2 λb H3 =>
    match b with
    |true=>tM (tQ K re) σ2 H3 λy H4=>ys.length<sizeLine/\H4 D=some (.lst ys)/\∃m',m'<m/\W (i+1) m' (ys++[y]) (upd H4 D (.lst (ys++[y])))
    |false=>∃m',m'<m/\W (i+1) m' ys H3):=by
 generalize hO:List.replicate n OT.und++o=ob at q;refine⟨λi m ys Hc=>∃(bs:Ψ)(tss:List (List T)),ys=bs.map V.ref/\Hc D=some (.lst ys)/\Same H1 Hc/\(D::bs).Nodup/\(∀b∈bs,H1 b=none)/\bs.length=tss.length/\(∀(i:Nat)b ts,bs[i]?=some b->tss[i]?=some ts->∃xs,Hc b=some (.lst xs)/\bW K (hd (λb=>Ow own b\/b∈D::bs) Hc) xs ts)/\ys.length<=i/\i<=xs.length/\m=xs.length-i/\Hl g rc re ob (xs.drop i) λus=>R (.l2 (tss++us)),⟨_,[],[],rfl,cF,Same.upd nD,by simp,λ_ z=>(nomatch z),rfl,(λi b ts e=>by cases e),aG _,aZ _,rfl,q⟩,?_⟩;rintro i m ys Hc ⟨bs,tss,rfl,eD,Ec,nd,nb,bl,rs,il,ix,rfl,hl⟩;have nA:∀a∈D::bs,H1 a=none:=λa ha=>by
  rcases YU.mp ha with z|z
  .rw[z];exact nD
  .exact nb a z
 have eA:∀a∈D::bs,∃ys,Hc a=some (.lst ys):=λa ha=>by
  rcases YU.mp ha with z|z
  .exact⟨_,z ▸ eD⟩
  .obtain⟨j,e⟩:=aV z;have lj:=(ao.mp e).1;obtain⟨zs,e2,_⟩:=rs j a _ e (aj (aR lj (Nat.le_of_eq bl)));exact⟨zs,e2⟩
 have hn:∀b,Ow own b\/b∈D::bs->Hc b≠none:=λb z=>z.elim (λz=>((h1.same Ec).sole z).ne) λe z=>by obtain⟨ys,ey⟩:=eA b e;rw[ey]at z;cases z
 have SD:Same (hd (Ow own) H1) (hd (λb=>Ow own b\/b∈D::bs) Hc):=g_ (λb z=>z.imp id (nA b)) Ec;obtain⟨w1,w2⟩:=wk (λb=>Ow own b\/b∈D::bs) Hc i hn SD;by_cases hi:i<xs.length
 .right;obtain⟨go,yl⟩:=w2 _ (aj hi);rw[List.drop_eq_getElem_cons hi]at hl;obtain⟨N,M,hN,hM,hl⟩:=hl;refine⟨go,λx H2 y pre hp=>?_⟩;obtain⟨E2,rx⟩:=yl x H2 y;have eO:(λb=>Ow own b\/b∈D::bs)=Ow (ownL2 n o.length own (D::bs)):=funext λb=>propext Ow.ownL2.symm;have hb:SR K (ownL2 n o.length own (D::bs)) H2 (pre++σ) ob:=by
   have:=h1.blockL (Ec.trans E2) nA (λa ha=>let⟨ys,e⟩:=eA a ha;⟨ys,E2 _ _ e⟩) pre;rw[hp,hO]at this;exact this
  rw[eO]at rx rs;refine⟨_,⟨ownL2 n o.length own (D::bs),ob,_,_,hb,rx,hl,λown3 σ3 o3 q3 go3 h3=>?_⟩,λ_ _ z=>z⟩;obtain⟨pre',hp',rfl⟩:=QV hp go3;have e3:own3=ownL2 n o.length own (D::bs):=funext λj=>by
   rcases go3.1 j with e|⟨e1,e2⟩
   .exact e
   .rw[e2];unfold ownL2;rw[ZY e1]
  subst e3;refine⟨pre',hp',rfl,_,tQT.mk h3 q3 λH3 b q4 E3=>?_,λ_ _ z=>z⟩;have q4:sw b (re o3 λy=>match y with|.l1 us=>N us|_=>False) M:=q4;cases b with
  |false=>exact⟨xs.length-(i+1),by lia,bs,tss,rfl,E3 _ _ (E2 _ _ eD),Ec.trans (E2.trans E3),nd,nb,bl,λj b ts e1 e2=>by
    obtain⟨zs,ez,rz⟩:=rs j b ts e1 e2;rw[eO];exact⟨zs,E3 _ _ (E2 _ _ ez),rz.same (bV (E2.trans E3))⟩,by exact aL il (X1 _ _),by exact hi,rfl,hM q4⟩
  |true =>
   refine⟨_,⟨_,_,_,h3.same E3,q4,λH4 v y q5 E4 r4=>?_⟩,λ_ _ z=>z⟩
   match y,q5,r4 with
   |.l1 us,q5,r4 =>
    obtain⟨B,nB,p,zs,ev,rfl,ep,rp⟩:=r4;cases ev;have np:H3 p=none:=nB p (by simp);have pn:∀{a:Addr}{u:HO},H3 a=some u->a≠p:=λe z=>by rw[z,np]at e;cases e
    have E:Same Hc H3:=E2.trans E3;have pD:D≠p:=pn (E _ _ eD);have pb:p∉bs:=λz=>by
     obtain⟨ys,ey⟩:=eA p (aJ _ z);exact pn (E _ _ ey) rfl
    have inD:∀(H:Hp)(u:HO),hd (λb=>Ow own b\/b∈D::(bs++[p])) (upd H D u)=hd (λb=>Ow own b\/b∈D::(bs++[p])) H:=λH u=>BL (S:=λb=>Ow own b\/b∈D::(bs++[p])) (.inr (by simp));refine⟨by lia,E4 _ _ (E _ _ eD),xs.length-(i+1),by lia,bs++[p],tss++[us],by rw[bf];rfl,cF,λb u e=>?_,?_,λb hb=>?_,by simp[bl],λj b ts e1 e2=>?_,by rw[aA,List.length_singleton];exact Nat.succ_le_succ il,by exact hi,rfl,?_⟩
    .rw[cC λz=>by rw[z,nD]at e;cases e];exact E4 _ _ (E _ _ (Ec _ _ e))
    .rw[<- List.cons_append];exact List.nodup_append.mpr ⟨nd,by simp,λa ha c hc z=>by
      rw[YR.mp hc]at z;rcases YU.mp ha with y|y
      .exact pD (y.symm.trans z)
      .exact pb (z ▸ y)⟩
    .rcases Y1.mp hb with z|z
     .exact nb b z
     .rw[YR.mp z];exact(Ec.trans E).free np
    .rw[inD];by_cases hj:j<bs.length
     .rw[aF hj]at e1;rw[aF (aR hj (Nat.le_of_eq bl))]at e2;obtain⟨zs,ez,rz⟩:=rs j b ts e1 e2;have bD:b≠D:=λz=>(List.nodup_cons.mp nd).1 (z ▸ aC e1);refine⟨zs,by rw[cC bD];exact E4 _ _ (E _ _ ez),rz.same ?_⟩;rw[<- eO];exact g_ (λc z=>by
       rcases z with z|z
       .exact .inl (.inl z)
       .rw[<- List.cons_append]at z;rcases Y1.mp z with y|y
        .exact .inl (.inr y)
        .rw[YR.mp y];exact .inr (E.free np)) (E.trans E4)
     .rw[aD (Nat.le_of_not_lt hj)]at e1;rw[aD (by lia)]at e2;have j0:j-bs.length=0:=by
       have:=(ao.mp e1).1;simp at this;omega
      rw[j0]at e1;rw[show j-tss.length=0 by lia]at e2;cases e1;cases e2;refine⟨_,by rw[cC (Ne.symm pD)];exact ep,rp.same (g_ (λc z=>.inl ?_) λ_ _ z=>z)⟩;rcases z with z|z
      .exact .inl (Ow.ownL2.mpr (.inl z))
      .rw[<- List.cons_append]at z;rcases Y1.mp z with y|y
       .exact .inl (Ow.ownL2.mpr (.inr y))
       .exact .inr y
    .have:=hN _ q5;simp only[Wp,List.singleton_append];exact this
 .left;have:i=xs.length:=by lia
  refine⟨w1 this,?_⟩;rw[List.drop_eq_nil_of_le (Nat.le_of_not_lt hi)]at hl;have hl:R (.l2 (tss++[])):=hl;rw[List.append_nil]at hl;exact k Hc _ _ hl Ec ⟨D::bs,nA,D,bs,rfl,rfl,nd,eD,bl,rs⟩
theorem T8{K:Frag}{σ:L2.St}{H:Hp}{Q:VK}{ri:RI}{n:Nat}{g:T->List OT->(List OT->Prop)->Prop}{rc:RT}{re:RE}(h:tQ K (Xu ri n g rc re) σ H Q):rA (tQI K ri) n (tMG (tQG K n g)) (tMT (tQT K rc)) (tM (tQ K re)) σ H Q:=by
 obtain⟨own,o,R,h,hr,k⟩:=h;exact⟨own,o,_,h,hr,λH1 J xs q E1 wk D nD=>Vl (h.same E1) wk q.1 q.2 nD λH' v x rx E n=>k H' v x rx (E1.trans E) (n.back E1)⟩
section
variable{X:Cx}{tg iter elt:Expr}{ifs:List Expr}{ri:RI}{g:T->List OT->(List OT->Prop)->Prop}{rc:RT}{re:RE}{scope:Scope}{pos:Pos}
theorem X5(sc:Scope)(N N':Φ)(x0:Str)(hi:QI X tg iter ri)(hg:∀{C s₀ H₀ ex pn},QG (X.compGC N' scope x0 C s₀ H₀ ex pn) 1 tg g)(ht:∀{C s₀ H₀ ex pn},QTs (X.compGC N' scope x0 C s₀ H₀ ex pn) ifs rc)(he:∀{C s₀ H₀ ex pn},QE (X.compGC N' scope x0 C s₀ H₀ ex pn) elt re)
 (hsc:X.env.scope=sc:=by rfl)(hNN:X.N=N:=by rfl)(hc:X.calm=true:=by rfl)(hk:scope.kind=.function:=by rfl)(hcf:∀n acc,cellsFrom n scope.names acc=(x0,n)::acc:=by intro _ _;rfl)(hpc:∀h,pushCells h scope.names=h.push { cls:=.type "cell",data:=.cell none }:=by intro _;rfl)(h:(∀y∈scope.names,y.2=.cell->y.1=x0)/\CK0 sc scope N N' [x0]:=by decide +kernel)(hs:∀z,foldedSetIterable iter X.env z=pure z:=by intro _;rfl):QE X (.ListComp elt [⟨tg,iter,ifs,0⟩] scope pos) (Xu ri 1 g rc re) :=
 (Yz (gt:=tQG X.K 1 g) (tc:=tQT X.K rc) (te:=tQ X.K re) sc N N' x0 hi hg ht he hsc hNN hc hk hcf hpc h hs).imp λ_ _ _=>T8
theorem aaw{i0:Nat}{y0:Str}{py spos:Pos}(sc:Scope)(N N' xs:Φ)(hi:QI X tg iter ri)(hg:∀{C s₀ H₀ ex pn},QG (X.compG N' scope xs C s₀ H₀ ex pn) xs.length tg g)(ht:∀{C s₀ H₀ ex pn},QTs (X.compG N' scope xs C s₀ H₀ ex pn) ifs rc)(he:∀{C s₀ H₀ ex pn},QE (X.compG N' scope xs C s₀ H₀ ex pn) elt re)(hgy:PG X (.Name y0 py) (wH i0))
 (hsc:X.env.scope=sc:=by rfl)(hNN:X.N=N:=by rfl)(hc:X.calm=true:=by rfl)(hk:scope.kind=.function:=by rfl)(h:CK sc scope N N' xs:=by decide +kernel)(hsw:swapsWith (.ListComp elt [⟨tg,iter,ifs,0⟩] scope pos) (some (.Name y0 py)) spos.line X.env=pure true:=by rfl)(hs:∀z,foldedSetIterable iter X.env z=pure z:=by intro _;rfl) :
  QS X (.Assign [.Name y0 py] (.ListComp elt [⟨tg,iter,ifs,0⟩] scope pos) spos) (aeW i0 (Xu ri xs.length g rc re)):=(ZJ (gt:=tQG X.K xs.length g) (tc:=tQT X.K rc) (te:=tQ X.K re) sc N N' xs hi hg ht he hgy hsc hNN hc hk h hsw hs).imp λD σ H ⟨own,o,E,h,hr,L⟩=>T8 ⟨own,o,_,h,hr,λH' v y q S n=>by
 obtain⟨own',h',S'⟩:=h.putA S n i0;exact L.nx own' H' _ _ q S' h'⟩
theorem Jq{α:Type}(h:α->T)(f:α->List T){c:RT}{e:RE}{o:List OT} : ∀(l:List α){q:List (List T)->Prop},(∀a∈l,∀(N:List T->Prop)(M:Prop),N (f a)->g (h a) o λo'=>c o' λb=>sw b (e o' λy=>match y with|.l1 us=>N us|_=>False) M)->q (l.map f)->Hl g c e o (l.map h) q
 |[],_,_,k=>k
 |a::l,q,st,k=>⟨λy=>y=f a,False,λy z=>Jq h f l (λa ha=>st a (aJ _ ha)) (z ▸ k),False.elim,st a (aO ..) (λy=>y=f a) False rfl⟩
theorem Qt{c:RT}{e:RE}{o:List OT}{q:List (List T)->Prop}(f:Nat->List T)(n:Nat)(st:∀k,k<n->∀(N:List T->Prop)(M:Prop),N (f k)->g (.int (k:Nat)) o λo'=>c o' λb=>sw b (e o' λy=>match y with|.l1 us=>N us|_=>False) M)(k:q ((List.range n).map f)):Hl g c e o (rng 0 n) q:=by
 refine Jq (λk:Nat=>.int (0+k)) f (List.range n) (λa ha N M hN=>?_) k;have:=st a (List.mem_range.mp ha) N M hN;show g (.int (0+((a:Nat):Int))) o _;rw[show(0:Int)+((a:Nat):Int)=((a:Nat):Int)by exact Int.zero_add _];exact this
end
section
variable{X:Cx}
noncomputable abbrev Hu(f:Β):PyData:=.tuple [.int f.1,.int f.2]
noncomputable abbrev frP(f:Β):T:=.tup [.int f.1,.int f.2]
def abf(K:Frag):V->Ζ->Hp->VK->Prop:=λx vs H Q=>∃(l:Addr)(b:V)(xs:Ζ)(fs:Γ)(f:Β)(j:Nat),x=.ref l/\vs=[b]/\H l=some (.lst xs)/\xs.length=fs.length/\(∀(i:Nat)x g,xs[i]?=some x->fs[i]?=some g->fV K H x (Hu g))/\fV K H b (Hu f)/\xs.length<=sizeLine/\fs[j]?=some f/\(∀i g,i<j->fs[i]?=some g->g≠f)/\Q (.int (j:Nat)) H
open Classical in
def aeS(h:Heap)(f:Β)(v:Value):Bool:=decide (∃as,Reads h v (Hu f) as)
open Classical in
theorem L_{h:Heap}{v:Value}{g f:Β}{as:Ψ}(r:Reads h v (Hu g) as):aeS h f v=(decide (g.1=f.1)&&decide (g.2=f.2)):=by
 unfold aeS;by_cases e:g=f
 .subst e;rw[Zs ⟨as,r⟩,Zs rfl,Zs rfl];rfl
 .have nd:¬∃as,Reads h v (Hu f) as:=λ⟨bs,z⟩=>e (by
   have:=SeqAt.Reads.unique _ _ _ _ _ rfl r z;injection this with this;injection this with t1 t2;injection t2 with t2;injection t1 with t1;injection t2 with t2;exact Prod.ext t1 t2)
  rw[Zp nd];by_cases h1:g.1=f.1
  .by_cases h2:g.2=f.2
   .exact absurd (Prod.ext h1 h2) e
   .rw[Zp h2,Bool.and_false]
  .rw[Zp h1,Bool.false_and]
theorem Wi(hu:X.A.units+64<cLine):MtM X "list.index" (abf X.K):=by
 intro pins s σ H x vs v us Q I rx rv h;obtain⟨l,b,xs,fs,f,j,rfl,rfl,hl,lf,fl,hb,hz,ej,nj,q⟩:=h;cases rx;obtain⟨u,rfl,ru⟩:=rv.one;obtain⟨bs,rb⟩:=I.readsK hb ru;obtain⟨z,its,n,r,hl',e⟩:=I.lstM hl;have lr:=r.length;have vat:∀(i:Nat)(hi:i<its.toArray.size),∃g as,fs[i]?=some g/\Reads s.heap its.toArray[i] (Hu g) as:=λi hi=>by
  rw[aX]at hi;have ex:xs[i]?=some (xs[i]'(by lia)):=aj _;have eg:fs[i]?=some (fs[i]'(by lia)):=aj _;obtain⟨u,eu,ru⟩:=r.get ex;obtain⟨as,ra⟩:=I.readsK (fl i _ _ ex eg) ru;refine⟨_,as,eg,?_⟩;rw[List.getElem_toArray,(ao.mp eu).2];exact ra
 have lj:=(ao.mp ej).1;have hj:j<its.toArray.size:=by rw[aX];lia
 rw[sizeLine_eq]at hz;refine call_meets F.slot_list_index ⟨_,e,rfl⟩ F.entry_list_index (F.args_list_index_2 _ _) (SeqAt.list_indexAt l its.toArray n _ _ _ (aeS s.heap f) j hj (by lia) ?_ λm hm lm=>?_) ⟨e,λy hy=>?_,⟨.int _,H,I.tok _,⟨_,rfl⟩,q⟩⟩
 .obtain⟨g,as,e2,e3⟩:=vat j hj;rw[ej]at e2;cases e2;rw[L_ e3,Zs rfl,Zs rfl];rfl
 .obtain⟨g,as,e2,e3⟩:=vat m hm;have ne:=nj m g lm e2;rw[L_ e3];by_cases h1:g.1=f.1
  .by_cases h2:g.2=f.2
   .exact absurd (Prod.ext h1 h2) ne
   .rw[Zp h2,Bool.and_false]
  .rw[Zp h1,Bool.false_and]
 .obtain⟨i,hi,ei⟩:=Array.getElem_of_mem hy;obtain⟨g,as,e2,e3⟩:=vat i hi;rw[<- ei,L_ e3,<- acT];exact SeqAt.eqAt_reads _ _ _ _ _ _ _ _ e3 rb rfl rfl (by
   have d:(Hu g).depth<=3:=Nat.le_of_ble_eq_true rfl;have m:=Nat.min_le_left (Hu g).depth (Hu f).depth;show X.A.units+1+min (Hu g).depth (Hu f).depth<cLine;lia)
def ala(a:RE)(r:RA):RE:=λo q=>a o λx=>match frz x with
 |.lst ts=>r o λus=>∃(fs:Γ)(f:Β)(j:Nat),ts=fs.map frP/\us=[frP f]/\fs.length<=sizeLine/\fs[j]?=some f/\(∀i g,i<j->fs[i]?=some g->g≠f)/\q (.fz (.int (j:Nat)))
 |_=>False
theorem aep{o e:Expr}{ra:RE}{r:RA}{apos cpos:Pos}(hu:X.A.units+64<cLine)(ho:QE X o ra)(ha:QA X [e] r)(hb:attributeBase o "index" X.env (eval o X.env)=eval o X.env:=by rfl)
 (hf:((backTo cpos (starEach [e] X.env)).all (λx=>!x.1)&&(backToKw cpos (keywordEach [] X.env)).all (λx=>x.1.isSome)&&decide ([e].length+([] : List Keyword).length+(if([] : List Keyword).isEmpty then 0 else 1)<30))=true:=by rfl)
 (hl:(apos.endLine==cpos.line)=true:=by rfl)(hs:starEach [e] X.env=(false,eval e X.env)::starEach [] X.env:=by rfl)(hp:(backTo cpos (starEach [] X.env)).any (·.1)=false:=by rfl) :
  QE X (.Call (.Attribute o "index" apos) [e] [] cpos) (ala ra r):=by
 refine(YG PySem.F.plainAttrs_list PySem.F.slot_list_index PySem.F.type_list_index (Wi hu) ho.mono ha.mono hb hf hl hs hp).imp λσ H Q hP=>?_;obtain⟨own,o,R,h,hr,k⟩:=hP;refine⟨_,tQ.mk h hr λH1 v x q E1 r1=>?_,λ_ _ z=>z⟩;cases ex:frz x with
 |lst ts =>
  rw[ex]at q r1;obtain⟨p,xs,rfl,e,rx⟩:=r1.lstI;refine⟨.inl ⟨rfl,_,SqL.of (c7 _ _ e)⟩,_,tQA.mk (h.same E1) q λH2 vs us q2 _ E2 r2=>?_,λ_ _ z=>z⟩;obtain⟨fs,f,j,rfl,rfl,lf,ej,nj,q3⟩:=q2;obtain⟨y,rfl,ry⟩:=r2.one;have S2:Same (hd (Ow own) H1) H2:=(bV E2).trans c7;refine⟨p,y,xs,fs,f,j,rfl,rfl,E2 _ _ (c7 _ _ e),by rw[rx.len,ak],λi x g ex eg=>?_,(ry.shows _ rfl rfl).same c7,by rw[rx.len,ak];exact lf,ej,nj,k H2 _ _ q3 (E1.trans E2) (NR.fz (.int _))⟩;obtain⟨v,ev,rv⟩:=rx.at_ (show(fs.map frP)[i]?=some (frP g)by rw[aq,eg];rfl);rw[ex]at ev;cases ev;exact(rv.shows _ rfl rfl).same S2
 |_=>rw[ex]at q;exact q.elim
end
section
variable{X:Cx}
theorem bW.strs{K:Frag}{F:Hp} : ∀{xs:Ζ}{ys:Φ},bW K F xs (ys.map T.str)->xs=ys.map V.str
 |_,[],h=>by cases h;rfl
 |_,y::ys,h=>by
  cases h with
  |cons a b =>
   cases a;rw[bW.strs b];rfl
def rJn(a:RE)(r:RA):RE:=λo q=>a o λx=>match frz x with
 |.str s=>r o λus=>∃ys:Φ,us=[.lst (ys.map T.str)]/\(ys.map (·.length)).sum+ys.length*s.length<=16777216/\q (.fz (.str (Txt.join s ys)))
 |_=>False
theorem aaq{o e:Expr}{ra:RE}{r:RA}{apos cpos:Pos}(ho:QE X o ra)(ha:QA X [e] r)(hb:attributeBase o "join" X.env (eval o X.env)=eval o X.env:=by rfl)
 (hf:((backTo cpos (starEach [e] X.env)).all (λx=>!x.1)&&(backToKw cpos (keywordEach [] X.env)).all (λx=>x.1.isSome)&&decide ([e].length+([] : List Keyword).length+(if([] : List Keyword).isEmpty then 0 else 1)<30))=true:=by rfl)
 (hl:(apos.endLine==cpos.line)=true:=by rfl)(hs:starEach [e] X.env=(false,eval e X.env)::starEach [] X.env:=by rfl)(hp:(backTo cpos (starEach [] X.env)).any (·.1)=false:=by rfl) :
  QE X (.Call (.Attribute o "join" apos) [e] [] cpos) (rJn ra r):=by
 refine(afQ PySem.F.slot_str_join PySem.F.type_str_join abJ ho ha hb hf hl hs hp).imp λσ H Q hP=>?_;obtain⟨own,o,R,h,hr,k⟩:=hP;refine tQ.mk h hr λH1 v x q E1 r1=>?_;cases ex:frz x with
 |str s =>
  rw[ex]at q r1;cases r1;refine⟨⟨s,rfl⟩,tQA.mk (h.same E1) q λH2 vs us q2 _ E2 r2=>?_⟩;obtain⟨ys,rfl,lz,q3⟩:=q2;obtain⟨y,rfl,ry⟩:=r2.one;obtain⟨p,xs,rfl,e,rx⟩:=ry.lstI;exact⟨s,p,ys,rfl,rfl,rx.strs ▸ (cQ e).2,lz,k H2 _ _ q3 (E1.trans E2) (NR.fz (.str _))⟩
 |_=>rw[ex]at q;exact q.elim
noncomputable def notStar:Expr->Bool
 |.Starred ..=>false
 |_=>true
theorem aez{e:Expr}{es:List Expr}{env:Env}(h:notStar e=true):starEach (e::es) env=(false,eval e env)::starEach es env:=by
 cases e<;>first|rfl|cases h
structure QEB(X:Cx)(e:Expr)(r:RE):Prop where
 out:QE X e r
structure QAB(X:Cx)(es:List Expr)(r:RA):Prop where
 out:QA X es r
theorem Cg{e:Expr}{r:RE}(h:QE X e r):QEB X e r:=⟨h⟩
theorem cZ{i j pos} : QEB X (.Constant (.int i) j pos) (rC (.int i)):=⟨bA⟩
theorem Jl(i:Nat){x:Str}{pos:Pos}(hN:X.N[i]?=some x:=by rfl)(hv:qN X.env.scope x=true:=by rfl)(hd:(x==("__debug__":Str))=false:=by decide)(hcd:(x==("__classdict__":Str))=false:=by decide):QEB X (.Name x pos) (adB i):=⟨qv i hN hv hd hcd⟩
theorem M6{op:Operator}{g:T->T->(OT->Prop)->Prop}{a b:Expr}{ra rb:RE}{pos:Pos}(ho:GO X (binaryOp op) g)(ha:QEB X a ra)(hb:QEB X b rb):QEB X (.BinOp a op b pos) (rOp g ra rb):=⟨bL ho ha.out hb.out⟩
theorem cI:QAB X [] aeF:=⟨bC⟩
theorem bM{e:Expr}{es:List Expr}{a:RE}{r:RA}(ha:QEB X e a)(hr:QAB X es r)(hn:notStar e=true:=by rfl):QAB X (e::es) (acj a r):=⟨bx ha.out hr.out (aez hn)⟩
theorem dW{es:List Expr}{r:RA}{pos:Pos}{k:Nat}(h:QAB X es r)(hz:es.length<=sizeLine:=by decide):QEB X (.Tuple es k pos) (ai8 r):=⟨dh h.out hz⟩
theorem nG{es:List Expr}{r:RA}{pos:Pos}(h:QAB X es r)(hz:es.length<=sizeLine:=by decide):QEB X (.List es pos) (ajc r):=⟨eU h.out hz⟩
def agT:T->T->(OT->Prop)->Prop
 |.int i,.int j,q=>aaB i j/\q (.fz (.int (i*j)))
 |_,_,_=>False
theorem Uy:GO X (binaryOp .Mult) agT:=aef.imp λx y H Q hP=>by
 obtain⟨S,t,u,R,_,hx,hy,hg,k⟩:=hP;cases hx<;>try exact hg.elim
 cases hy<;>try exact hg.elim
 exact⟨_,_,rfl,rfl,hg.1,k H _ _ hg.2 (.refl _) (NR.fz (.int _))⟩
def alx(n:Nat)(gs:List T->List OT->(List OT->Prop)->Prop):T->List OT->(List OT->Prop)->Prop
 |.lst ts,o,q=>ts.length=n/\gs ts o q
 |_,_,_=>False
theorem adS{pos:Pos}{m:Nat}{es:List Expr}{k:Nat}{gs:List T->List OT->(List OT->Prop)->Prop}{n:Nat}(hc:X.calm=true)(h:QGs X m es gs)(hn:(assignEach es X.env).length=n:=by rfl)(hst:(assignEach es X.env).findIdx? (·.1)=none:=by rfl):QG X m (.Tuple es k pos) (alx n gs):=(aaO hc h hn hst).imp λv σ H Q hP=>by
 obtain⟨own,o,t,R,h,r,hg,k⟩:=hP;cases t<;>try exact hg.elim
 obtain⟨a,xs,rfl,e,r⟩:=r.lstI;exact⟨a,xs,rfl,SqL.of (c7 _ _ e),r.len.trans hg.1,own,o,_,R,h,r,hg.2,k⟩
end
section
variable{a b c d e f x y:RS}{E:DT}{o:List OT}
theorem sq1(J:List OT->Prop)(k:∀o',J o'->y E o')(h:∀Y:List OT->Prop,(∀o',J o'->Y o')->iR x (λ_=>Y) E o):iR x y E o:=h (y E) k
theorem sq2(J:List OT->Prop)(k:∀o',J o'->y E o')(h:∀Y:List OT->Prop,(∀o',J o'->Y o')->iR a (iR x (λ_=>Y)) E o):iR a (iR x y) E o:=h (y E) k
theorem sq4(J:List OT->Prop)(k:∀o',J o'->y E o')(h:∀Y:List OT->Prop,(∀o',J o'->Y o')->iR a (iR b (iR c (iR x (λ_=>Y)))) E o):iR a (iR b (iR c (iR x y))) E o:=h (y E) k
theorem sq7(J:List OT->Prop)(k:∀o',J o'->y E o')(h:∀Y:List OT->Prop,(∀o',J o'->Y o')->iR a (iR b (iR c (iR d (iR e (iR f (iR x (λ_=>Y))))))) E o):iR a (iR b (iR c (iR d (iR e (iR f (iR x y)))))) E o:=h (y E) k
end
end L2
namespace Ac
noncomputable def lw(t b:Int):Int×Int:=(t/(Int.gcd t b:Nat),b/(Int.gcd t b:Nat))
theorem af0{t b:Int}(hb:0<b):(0:Int)<(Int.gcd t b:Nat):=by
 have:=Int.gcd_pos_of_ne_zero_right t (show b≠0 by exact Int.ne_of_gt hb);lia
section
variable{κ:Type}[DecidableEq κ]
noncomputable def look(acc:List (κ×Int))(r:κ):Int:=((acc.find? λg=>decide (g.1=r)).map (·.2)).getD 0
noncomputable def put(acc:List (κ×Int))(r:κ)(y:Int):List (κ×Int):=if(acc.any λg=>decide (g.1=r))=true then acc.map (λg=>if g.1=r then(g.1,y)else g)else acc++[(r,y)]
def aly(gs:List (κ×Int)):List (κ×Int):=gs.foldl (λa g=>put a g.1 (look a g.1+g.2)) []
def ways(gs:List (κ×Int))(S:Int):List (κ×Int×Int):=((aly gs).filter λg=>decide (0<g.2)).map λg=>(g.1,lw g.2 S)
end
end Ac
namespace Rw
open Ac
def rep(r:List Int×Int):Γ:=r.1.map λt=>lw t r.2
noncomputable def gcL(ts:List Int)(b:Int):Int:=ts.foldl (λc t=>((Int.gcd t c:Nat):Int)) b
theorem fY:∀{ts:List Int}{b:Int},0<b->0<gcL ts b
 |[],_,h=>h
 |t::ts,b,h=>fY (ts:=ts) (af0 (t:=t) h)
theorem fU:∀{ts:List Int}{b:Int},gcL ts b ∣ b/\∀t∈ts,gcL ts b ∣ t
 |[],b=>⟨Int.dvd_refl b,by simp⟩
 |t::ts,b=>by
  obtain⟨h1,h2⟩:=fU (ts:=ts) (b:=((Int.gcd t b:Nat):Int));refine⟨Int.dvd_trans h1 (Int.gcd_dvd_right t b),λx hx=>?_⟩;rcases YU.mp hx with rfl|hx
  .exact Int.dvd_trans h1 (Int.gcd_dvd_left x b)
  .exact h2 x hx
theorem qQ{ts:List Int}{b:Int}(h:0<b):gcL ts b<=b:=Int.le_of_dvd h fU.1
def gY(r:List Int×Int):List Int×Int:=(r.1.map λt=>t/gcL r.1 r.2,r.2/gcL r.1 r.2)
theorem jh(r:List Int×Int):(gY r).1.length=r.1.length:=by unfold gY;rw[ak]
noncomputable def gF(r:List Int×Int)(c:Β):List Int×Int:=(r.1.map λt=>t*c.1,r.2*c.2)
noncomputable def mH(r o:List Int×Int)(c:Β):List Int×Int :=
 (List.zipWith (λa b=>a*(o.2*c.2/((Int.gcd r.2 (o.2*c.2):Nat):Int))+b*(r.2/((Int.gcd r.2 (o.2*c.2):Nat):Int)*c.1)) r.1 o.1,r.2*(o.2*c.2/((Int.gcd r.2 (o.2*c.2):Nat):Int)))
structure Big(N:Nat)(r:List Int×Int):Prop where
 pos:0<r.2
 bot:r.2.natAbs<=N
 top:∀t∈r.1,t.natAbs<=N
theorem Big.le{N M:Nat}{r:List Int×Int}(h:Big N r)(hn:N<=M):Big M r:=⟨h.pos,aL h.bot hn,λt ht=>aL (h.top t ht) hn⟩
theorem Q5{d t g x:Int}(h1:d ∣ t*x)(h2:d ∣ g*x):d ∣ ((Int.gcd t g:Nat):Int)*x:=by
 have h:=Int.dvd_coe_gcd h1 h2;rw[Int.gcd_mul_right]at h;rw[Int.natCast_mul]at h;rcases Int.natAbs_eq x with e|e
 .rw[e];exact h
 .rw[e,Int.mul_neg];exact Int.dvd_neg.mpr h
theorem vm{d x:Int} : ∀{ts:List Int}{b:Int},d ∣ b*x->(∀t∈ts,d ∣ t*x)->d ∣ gcL ts b*x
 |[],_,h,_=>h
 |t::ts,b,h,k=>vm (ts:=ts) (Q5 (k t aO) h) λu hu=>k u (aJ _ hu)
def Alk(r s:List Int×Int):Prop:=r.1.length=s.1.length/\∀(k:Nat)(a b:Int),r.1[k]?=some a->s.1[k]?=some b->a*s.2=b*r.2
theorem kZ{r:List Int×Int}(h:0<r.2):gcL (gY r).1 (gY r).2=1:=by
 have g0:=fY (ts:=r.1) h;obtain⟨d1,d2⟩:=fU (ts:=r.1) (b:=r.2);have p:0<(gY r).2:=Int.ediv_pos_of_pos_of_dvd h (XY g0) d1;have q0:=fY (ts:=(gY r).1) p;obtain⟨e1,e2⟩:=fU (ts:=(gY r).1) (b:=(gY r).2);have key:gcL (gY r).1 (gY r).2*gcL r.1 r.2 ∣ gcL r.1 r.2*1:=by
  refine vm ?_ λt ht=>?_
  .obtain⟨u,hu⟩:=e1;have hu:r.2/gcL r.1 r.2=gcL (gY r).1 (gY r).2*u:=hu;refine⟨u,?_⟩;rw[Int.mul_one,Int.mul_right_comm,<- hu,Int.ediv_mul_cancel d1]
  .obtain⟨u,hu⟩:=e2 (t/gcL r.1 r.2) (YV.mpr ⟨t,ht,rfl⟩);refine⟨u,?_⟩;rw[Int.mul_one,Int.mul_right_comm,<- hu,Int.ediv_mul_cancel (d2 t ht)]
 rw[Int.mul_one]at key;have:=Int.le_of_dvd g0 key;have:gcL (gY r).1 (gY r).2<=1:=by
  refine Int.le_of_mul_le_mul_right (a:=gcL r.1 r.2) ?_ g0;lia
 lia
theorem least{N:Nat}{r s:List Int×Int}(hr:0<r.2)(g:gcL r.1 r.2=1)(a:Alk r s)(h:Big N s):Big N r:=by
 have d:r.2 ∣ gcL r.1 r.2*s.2:=vm ⟨s.2,rfl⟩ λt ht=>by
  obtain⟨k,hk,rfl⟩:=List.mem_iff_getElem.mp ht;have hs:k<s.1.length:=by rw[<- a.1];exact hk
  rw[a.2 k _ _ (aj hk) (aj hs)];exact⟨_,Int.mul_comm _ _⟩
 rw[g,Int.one_mul]at d;obtain⟨m,hm⟩:=d;have m0:0<m:=Int.pos_of_mul_pos_right (by rw[<- hm];exact h.pos) hr;refine⟨hr,?_,λt ht=>?_⟩
 .have:=Int.le_of_dvd h.pos ⟨m,hm⟩;have:=h.bot;lia
 .obtain⟨k,hk,rfl⟩:=List.mem_iff_getElem.mp ht;have hs:k<s.1.length:=by rw[<- a.1];exact hk
  have e:=a.2 k _ _ (aj hk) (aj hs);rw[hm,Int.mul_comm r.2 m,<- Int.mul_assoc]at e;have e:=Int.eq_of_mul_eq_mul_right (Int.ne_of_gt hr) e;have b:=h.top _ (aU hs);rw[<- e,Int.natAbs_mul]at b;exact aL (Nat.le_mul_of_pos_right _ (by omega)) b
noncomputable def gr(N:Nat):Nat->Nat
 |0=>N
 |m+1=>2*(gr N m*gr N m)
noncomputable def sg(f:Nat->Rat):Nat->Rat
 |0=>0
 |n+1=>sg f n+f n
noncomputable def sz(f:Nat->Int):Nat->Int
 |0=>0
 |n+1=>sz f n+f n
theorem iT(f g:Nat->Rat):∀n,sg (λj=>f j+g j) n=sg f n+sg g n
 |0=>by unfold sg;grind
 |n+1=>by unfold sg;rw[iT f g n];grind
theorem g8(c:Rat)(f:Nat->Rat):∀n,sg (λj=>c*f j) n=c*sg f n
 |0=>by unfold sg;grind
 |n+1=>by unfold sg;rw[g8 c f n];grind
theorem cg{f g:Nat->Rat} : ∀{n},(∀j,j<n->f j=g j)->sg f n=sg g n
 |0,_=>rfl
 |n+1,h=>by unfold sg;rw[cg λj hj=>h j (WV _ hj),h n (X0 _)]
theorem jr:∀n,sg (λ_=>0) n=0
 |0=>rfl
 |n+1=>by unfold sg;rw[jr n];grind
theorem jA{v:Nat->Rat}{k:Nat} : ∀{n},sg (λj=>(if j=k then 1 else 0)*v j) n=if k<n then v k else 0
 |0=>by rw[ZZ (WZ _)];rfl
 |n+1=>by
  unfold sg;rw[jA];by_cases h:k<n
  .rw[ZY h,ZZ (Nat.ne_of_gt h),ZY (WV _ h)];grind
  .by_cases e:n=k
   .subst e;rw[ZZ h,ZY rfl,ZY (X0 _)];grind
   .rw[ZZ h,ZZ e,ZZ (by lia)];grind
theorem T5(f:Nat->Nat->Rat)(m:Nat):∀n,sg (λk=>sg (λl=>f k l) m) n=sg (λl=>sg (λk=>f k l) n) m
 |0=>by
  show(0:Rat)=sg (λ_=>0) m;rw[jr]
 |n+1=>by
  show sg (λk=>sg (λl=>f k l) m) n+sg (λl=>f n l) m=sg (λl=>sg (λk=>f k l) n+f n l) m;rw[iT,T5 f m n]
theorem Kh(f:Nat->Int):∀n,((sz f n:Int):Rat)=sg (λk=>(f k:Rat)) n
 |0=>Rat.intCast_zero
 |n+1=>by unfold sz sg;rw[Rat.intCast_add,Kh f n]
theorem FQ{f:Nat->Int}{B:Nat} : ∀{n},(∀k,k<n->(f k).natAbs<=B)->(sz f n).natAbs<=n*B
 |0,_=>by unfold sz;simp
 |n+1,h=>by
  unfold sz;have:=FQ (n:=n) λk hk=>h k (WV _ hk);have:=h n (X0 _);rw[Nat.add_mul,Nat.one_mul];omega
theorem YB(f g:Nat->Int):∀n,sz (λk=>f k-g k) n=sz f n-sz g n
 |0=>rfl
 |n+1=>by unfold sz;rw[YB f g n];lia
theorem QJ{f g:Nat->Int} : ∀{n},(∀j,j<n->f j=g j)->sz f n=sz g n
 |0,_=>rfl
 |n+1,h=>by unfold sz;rw[QJ λj hj=>h j (WV _ hj),h n (X0 _)]
theorem Q8{α:Type}(q:α->Bool):∀L:List α,(L.filter q).length+(L.filter λx=>!q x).length=L.length
 |[]=>rfl
 |x::L=>by
  have:=Q8 q L;rw[List.filter_cons,List.filter_cons];cases h:q x with
  |true=>rw[ZY rfl,ZZ (by simp),List.length_cons,List.length_cons];lia
  |false=>rw[ZZ (by simp),ZY (by simp),List.length_cons,List.length_cons];lia
theorem YH{α:Type}(f:α->Nat)(n:Nat):∀(W:Nat)(L:List α),(∀x∈L,f x<W)->W*n<L.length->∃v,n<(L.filter λx=>f x==v).length
 |0,L,h,hl=>by
  cases L with
  |nil=>simp at hl
  |cons x L=>exact absurd (h x aO) (WZ _)
 |W+1,L,h,hl=>by
  by_cases e:n<(L.filter λx=>f x==W).length
  .exact⟨W,e⟩
  .have pl:=Q8 (λx=>f x==W) L;rw[Nat.add_mul,Nat.one_mul]at hl;obtain⟨v,hv⟩:=YH f n W (L.filter λx=>!(f x==W)) (λx hx=>by
    obtain⟨a,b⟩:=List.mem_filter.mp hx;have:=h x a;have ne:f x≠W:=λz=>by rw[z]at b;simp at b
    lia) (by omega)
   exact⟨v,aR hv (List.Sublist.length_le (List.Sublist.filter _ List.filter_sublist))⟩
theorem digits_inj{W:Nat}(hW:0<W):∀(n c d:Nat),c<W^n->d<W^n->(∀k,k<n->c/W^k%W=d/W^k%W)->c=d
 |0,c,d,hc,hd,_=>by
  rw[Nat.pow_zero]at hc hd;lia
 |n+1,c,d,hc,hd,h=>by
  have h0:=h 0 (Nat.succ_pos _);rw[Nat.pow_zero,Nat.div_one,Nat.div_one]at h0;have e:=digits_inj hW n (c/W) (d/W) (Nat.div_lt_of_lt_mul (by rw[Nat.mul_comm,<- Nat.pow_succ];exact hc)) (Nat.div_lt_of_lt_mul (by rw[Nat.mul_comm,<- Nat.pow_succ];exact hd)) λk hk=>by
   have:=h (k+1) (Nat.succ_lt_succ hk);rw[Nat.div_div_eq_div_mul,Nat.div_div_eq_div_mul,<- Nat.pow_succ'];exact this
  rw[<- Nat.div_add_mod c W,<- Nat.div_add_mod d W,e,h0]
theorem V0{p N:Nat}(hN:1<=N):(2*((p+1)*((2*(p+1)*N)^p*N))+1)^p<((2*(p+1)*N)^p+1)^(p+1):=by
 have w:2*((p+1)*((2*(p+1)*N)^p*N))+1<=2*(p+1)*N*((2*(p+1)*N)^p+1):=by
  have e:2*((p+1)*((2*(p+1)*N)^p*N))=2*(p+1)*N*(2*(p+1)*N)^p:=by ac_rfl
  have x1:1<=2*(p+1)*N:=Nat.mul_le_mul (show 1<=2*(p+1)by lia) hN;rw[e];generalize 2*(p+1)*N=X at *;rw[Nat.mul_add,Nat.mul_one];exact Nat.add_le_add_left x1 _
 refine Y3 (Nat.pow_le_pow_left w p) ?_;rw[Nat.mul_pow,Nat.pow_succ,Nat.mul_comm];exact Nat.mul_lt_mul_of_pos_left (X0 _) (Nat.pow_pos (Nat.succ_pos _))
theorem ZC{p N:Nat}{C:Nat->Nat->Int}(hN:1<=N)(hC:∀k l,k<=p->l<p->(C k l).natAbs<=N) :
  ∃lam:Nat->Int,(∃k,k<=p/\lam k≠0)/\(∀k,(lam k).natAbs<=(2*(p+1)*N)^p)/\∀l,l<p->sz (λk=>lam k*C k l) (p+1)=0:=by
 have ps:=V0 (p:=p) hN;generalize hB:(2*(p+1)*N)^p=B at *;generalize hO:(p+1)*(B*N)=O at *;have dig:∀c k:Nat,c/(B+1)^k%(B+1)<=B:=λc k=>Nat.le_of_lt_succ (Nat.mod_lt _ (Nat.succ_pos _));have eb:∀l c,l<p->(sz (λk=>((c/(B+1)^k%(B+1):Nat):Int)*C k l) (p+1)).natAbs<=O:=λl c hl=>by
  rw[<- hO];refine FQ λk hk=>?_;rw[Int.natAbs_mul,XT];exact Nat.mul_le_mul (dig c k) (hC k l (Nat.le_of_lt_succ hk) hl)
 have all:∀q,q<=p->∃L:List Nat,L.Nodup/\(∀c∈L,c<(B+1)^(p+1))/\(∀l,l<q->∀c∈L,∀d∈L,sz (λk=>((c/(B+1)^k%(B+1):Nat):Int)*C k l) (p+1)=sz (λk=>((d/(B+1)^k%(B+1):Nat):Int)*C k l) (p+1))/\(2*O+1)^(p-q)<L.length:=by
  intro q
  induction q with
  |zero=>exact λ_=>⟨List.range ((B+1)^(p+1)),List.nodup_range,λc hc=>List.mem_range.mp hc,λl hl=>absurd hl (WZ _),by rw[List.length_range,Nat.sub_zero];exact ps⟩
  |succ q ih =>
   intro hq;obtain⟨L,nd,lt,eq,ln⟩:=ih (aL (Xs _) hq);have e1:(2*O+1)^(p-q)=(2*O+1)*(2*O+1)^(p-(q+1)):=by rw[<- Nat.pow_succ',show(p-(q+1)).succ=p-q by lia]
   rw[e1]at ln;obtain⟨v,hv⟩:=YH (λc=>(sz (λk=>((c/(B+1)^k%(B+1):Nat):Int)*C k q) (p+1)+O).toNat) _ _ L (λc _=>by
    have:=eb q c (aR (X0 _) hq);omega) ln
   refine⟨_,List.Pairwise.sublist List.filter_sublist nd,λc hc=>lt c (List.mem_filter.mp hc).1,λl hl c hc d hd=>?_,hv⟩;obtain⟨c1,c2⟩:=List.mem_filter.mp hc;obtain⟨d1,d2⟩:=List.mem_filter.mp hd;by_cases e:l<q
   .exact eq l e c c1 d d1
   .have e:l=q:=by lia
    subst e;have c2:=beq_iff_eq.mp c2;have d2:=beq_iff_eq.mp d2;have:=eb l c (aR hl hq);have:=eb l d (aR hl hq);omega
 obtain⟨L,nd,lt,eq,ln⟩:=all p (aG p);rw[Nat.sub_self,Nat.pow_zero]at ln
 match L,nd,lt,eq,ln with
 |c::d::L,nd,lt,eq,_ =>
  have ne:c≠d:=λz=>by
   rw[z]at nd;exact(List.nodup_cons.mp nd).1 aO
  refine⟨λk=>((c/(B+1)^k%(B+1):Nat):Int)-((d/(B+1)^k%(B+1):Nat):Int),?_,λk=>?_,λl hl=>?_⟩
  .by_cases h:∀k,k<p+1->c/(B+1)^k%(B+1)=d/(B+1)^k%(B+1)
   .exact absurd (digits_inj (Nat.succ_pos B) (p+1) c d (lt c aO) (lt d (aJ _ aO)) h) ne
   .obtain⟨k,hk⟩:=Classical.not_forall.mp h;obtain⟨k1,k2⟩:=Classical.not_imp.mp hk;exact⟨k,by exact Nat.le_of_lt_succ k1,λz=>k2 (by
     have z:((c/(B+1)^k%(B+1):Nat):Int)-((d/(B+1)^k%(B+1):Nat):Int)=0:=z;generalize c/(B+1)^k%(B+1)=x at *;generalize d/(B+1)^k%(B+1)=y at *;lia)⟩
  .have:=dig c k;have:=dig d k;show(((c/(B+1)^k%(B+1):Nat):Int)-((d/(B+1)^k%(B+1):Nat):Int)).natAbs<=B;omega
  .rw[QJ (g:=λk=>((c/(B+1)^k%(B+1):Nat):Int)*C k l-((d/(B+1)^k%(B+1):Nat):Int)*C k l) λk _=>Int.sub_mul _ _ _,YB,eq l hl c aO d (aJ _ aO)];exact Int.sub_self _
 |[_],_,_,_,ln=>exact absurd ln (by simp)
 |[],_,_,_,ln=>exact absurd ln (by simp)
structure fG(A:Nat->Nat->Int)(b:Nat->Int)(m wd:Nat)(R:Nat->Nat->Rat)(p:Nat)(pv s:Nat->Nat):Prop where
 pm:p<=m
 sm:∀i,i<m->s i<m
 pw:∀l,l<p->pv l<wd
 unit:∀i l,i<m->l<p->R i (pv l)=if i=l then 1 else 0
 dec:∀i j,i<m->j<wd->(A (s i) j:Rat)=(if i<p then 0 else(b (s i):Rat)*R i j)+sg (λl=>(A (s i) (pv l):Rat)*R l j) p
 ind:∀lam:Nat->Rat,(∀j,j<wd->sg (λk=>lam k*(A (s k) j:Rat)) p=0)->∀k,k<p->lam k=0
section
variable{A:Nat->Nat->Int}{b:Nat->Int}{m wd p:Nat}{R:Nat->Nat->Rat}{pv s:Nat->Nat}
theorem fG.comb(h:fG A b m wd R p pv s)(lam:Nat->Rat){j:Nat}(hj:j<wd):sg (λk=>lam k*(A (s k) j:Rat)) p=sg (λl=>sg (λk=>lam k*(A (s k) (pv l):Rat)) p*R l j) p:=by
 have pm:=h.pm;rw[cg (g:=λk=>sg (λl=>lam k*(A (s k) (pv l):Rat)*R l j) p) λk hk=>?_]
 .rw[T5];refine cg λl hl=>?_;rw[cg (g:=λk=>R l j*(lam k*(A (s k) (pv l):Rat))) λk _=>Rat.mul_comm _ _,g8,Rat.mul_comm]
 .rw[h.dec k j (aR hk pm) hj,ZY hk,Rat.zero_add,<- g8];exact cg λl _=>(Rat.mul_assoc _ _ _).symm
theorem gJ{x:Int}(h:x≠0):(x:Rat)≠0:=λz=>h (Rat.intCast_inj.mp (z.trans Rat.intCast_zero.symm))
theorem aib{m N q:Nat}(hN:1<=N)(hq:q+1<=m):(2*(q+1)*N)^(q+1)<=(2*m*N)^m:=by
 have x:2*(q+1)*N<=2*m*N:=Nat.mul_le_mul (by lia) (aG N);have y:1<=2*m*N:=Nat.mul_le_mul (show 1<=2*m by lia) hN;exact aL (Nat.pow_le_pow_left x _) (XU y hq)
theorem aad{m N q:Nat}(hN:1<=N)(hq:q+1<=m):(q+1)*((2*(q+1)*N)^q*N)<=(2*m*N)^m:=by
 refine aL ?_ (aib hN hq);have e:(2*(q+1)*N)^(q+1)=2*((q+1)*((2*(q+1)*N)^q*N)):=by
  rw[Nat.pow_succ];ac_rfl
 lia
theorem fG.bound{N:Nat}(h:fG A b m wd R p pv s)(hN:1<=N)(hA:∀i j,i<m->j<wd->(A i j).natAbs<=N)(hb:∀i,i<m->0<b i/\(b i).natAbs<=N){i:Nat}(hi:i<m) :
    ∃(v:Nat->Int)(u:Int),u≠0/\u.natAbs<=(2*m*N)^m/\(∀j,j<wd->(v j).natAbs<=(2*m*N)^m)/\∀j,j<wd->R i j*(u:Rat)=(v j:Rat):=by
  have pm:=h.pm;by_cases ip:i<p
  . obtain⟨q,rfl⟩ : ∃q,p=q+1:=⟨p-1,by lia⟩
    obtain⟨lam,⟨k0,hk0,nk0⟩,bl,zr⟩:=ZC (p:=q) (C:=λk l=>A (s k) (if l<i then pv l else pv (l+1))) hN λk l hk hl=>by
      refine hA _ _ (h.sm k (by lia)) ?_;by_cases e:l<i
      . rw[ZY e];exact h.pw l (WV _ hl)
      . rw[ZZ e];exact h.pw (l+1) (Nat.succ_lt_succ hl)
    have cast:∀j,((sz (λk=>lam k*A (s k) j) (q+1):Int):Rat)=sg (λk=>(lam k:Rat)*(A (s k) j:Rat)) (q+1):=λj=>by
      rw[Kh];exact cg λk _=>XV _ _
    have zl:∀l,l<q+1->l≠i->sz (λk=>lam k*A (s k) (pv l)) (q+1)=0:=λl hl ne=>by
      by_cases e:l<i
      . have:=zr l (aR e (Nat.le_of_lt_succ ip))
        rw[ZY e]at this;exact this
      . have:=zr (l-1) (by omega)
        rw[ZZ (by lia),show l-1+1=l by lia]at this;exact this
    have key:∀j,j<wd->((sz (λk=>lam k*A (s k) j) (q+1):Int):Rat)=((sz (λk=>lam k*A (s k) (pv i)) (q+1):Int):Rat)*R i j:=λj hj=>by
      rw[cast,h.comb (λk=>(lam k:Rat)) hj,cg (g:=λl=>(if l=i then 1 else 0)*(((sz (λk=>lam k*A (s k) (pv i)) (q+1):Int):Rat)*R l j)) λl hl=>?_,jA,ZY ip];rw[<- cast (pv l)];by_cases e:l=i
      . rw[ZY e,e,Rat.one_mul]
      . rw[ZZ e,zl l hl e,Rat.intCast_zero];grind
    refine⟨λj=>sz (λk=>lam k*A (s k) j) (q+1),sz (λk=>lam k*A (s k) (pv i)) (q+1),λz=>?_,?_,λj hj=>?_,λj hj=>?_⟩
    . have:=h.ind (λk=>(lam k:Rat)) (λj hj=>by
        rw[<- cast,key j hj,z,Rat.intCast_zero];grind) k0 (Y3 hk0 (X0 _))
      exact gJ nk0 this
    . exact aL (FQ λk hk=>by rw[Int.natAbs_mul];exact Nat.mul_le_mul (bl k) (hA _ _ (h.sm k (aR hk pm)) (h.pw i ip))) (aad hN (by omega))
    . exact aL (FQ λk hk=>by rw[Int.natAbs_mul];exact Nat.mul_le_mul (bl k) (hA _ _ (h.sm k (aR hk pm)) hj)) (aad hN (by omega))
    . rw[key j hj,Rat.mul_comm]
  . obtain⟨lam,⟨k0,hk0,nk0⟩,bl,zr⟩:=ZC (p:=p) (C:=λk l=>A (s (if k<p then k else i)) (pv l)) hN λk l hk hl=>by
      refine hA _ _ (h.sm _ ?_) (h.pw l hl);by_cases e:k<p
      . rw[ZY e];exact aR e pm
      . rw[ZZ e];exact hi
    have cast:∀j,((sz (λk=>lam k*A (s (if k<p then k else i)) j) (p+1):Int):Rat)=sg (λk=>(lam k:Rat)*(A (s k) j:Rat)) p+(lam p:Rat)*(A (s i) j:Rat):=λj=>by
      rw[Kh];show sg _ p+((lam p*A (s (if p<p then p else i)) j:Int):Rat)=_;rw[ZZ (X2 _),XV,cg (g:=λk=>(lam k:Rat)*(A (s k) j:Rat)) λk hk=>by rw[ZY hk,XV]]
    have key:∀j,j<wd->((sz (λk=>lam k*A (s (if k<p then k else i)) j) (p+1):Int):Rat)=((lam p*b (s i):Int):Rat)*R i j:=λj hj=>by
      have e0:sg (λl=>sg (λk=>(lam k:Rat)*(A (s k) (pv l):Rat)) p*R l j) p+(lam p:Rat)*sg (λl=>(A (s i) (pv l):Rat)*R l j) p=0:=by
        rw[<- g8,<- iT,cg (g:=λ_=>0) λl hl=>?_,jr];have:=cast (pv l);rw[zr l hl,Rat.intCast_zero]at this
        calc _=(sg (λk=>(lam k:Rat)*(A (s k) (pv l):Rat)) p+(lam p:Rat)*(A (s i) (pv l):Rat))*R l j:=by grind
          _=0:=by rw[<- this];grind
      rw[cast,h.comb (λk=>(lam k:Rat)) hj,h.dec i j hi hj,ZZ ip,XV]
      grind
    have bp:=hb _ (h.sm i hi);have lp:lam p≠0:=λz=>by
      have kp:k0<p:=by
        by_cases e:k0=p
        . rw[e,z]at nk0;exact absurd rfl nk0
        . exact XX hk0 e
      have:=h.ind (λk=>(lam k:Rat)) (λj hj=>by
        have c:=cast j;rw[key j hj,z,Int.zero_mul,Rat.intCast_zero]at c
        grind) k0 kp
      exact gJ nk0 this
    refine⟨λj=>sz (λk=>lam k*A (s (if k<p then k else i)) j) (p+1),lam p*b (s i),λz=>?_,?_,λj hj=>?_,λj hj=>?_⟩
    . rcases Int.mul_eq_zero.mp z with y|y
      . exact lp y
      . lia
    . rw[Int.natAbs_mul]
      refine aL (Nat.mul_le_mul (bl p) bp.2) (aL ?_ (aad hN (show p+1<=m by lia)));exact Nat.le_mul_of_pos_left _ (Nat.succ_pos p)
    . exact aL (FQ λk hk=>by
        rw[Int.natAbs_mul];refine Nat.mul_le_mul (bl k) (hA _ _ (h.sm _ ?_) hj);by_cases e:k<p
        . rw[ZY e];exact aR e pm
        . rw[ZZ e];exact hi) (aad hN (show p+1<=m by lia))
    . rw[key j hj,Rat.mul_comm]
theorem fG.congr(h:fG A b m wd R p pv s){R':Nat->Nat->Rat}(e:∀i j,i<m->R i j=R' i j):fG A b m wd R' p pv s:=by
 have pm:=h.pm;refine⟨h.pm,h.sm,h.pw,λi l hi hl=>by rw[<- e i _ hi];exact h.unit i l hi hl,λi j hi hj=>?_,h.ind⟩;rw[h.dec i j hi hj,e i j hi,cg λl hl=>by rw[e l j (aR hl pm)]]
theorem fG.zero(hb:∀i,i<m->0<b i):fG A b m wd (λi j=>(A i j:Rat)/(b i:Rat)) 0 pv id:=by
 refine⟨aZ _,λi hi=>hi,λl hl=>absurd hl (WZ _),λi l _ hl=>absurd hl (WZ _),λi j hi hj=>?_,λlam _ k hk=>absurd hk (WZ _)⟩;rw[ZZ (WZ _)];have:=gJ (Int.ne_of_gt (hb i hi));show(A i j:Rat)=(b i:Rat)*((A i j:Rat)/(b i:Rat))+0
 grind
def sw(p q x:Nat):Nat:=if x=p then q else if x=q then p else x
theorem fG.swap(h:fG A b m wd R p pv s){q:Nat}(hp:p<=q)(hq:q<m){R':Nat->Nat->Rat}(hR:∀i j,i<m->j<wd->R' i j=R (sw p q i) j):fG A b m wd R' p pv (λi=>s (sw p q i)):=by
 have pm:=h.pm;have sl:∀l,l<p->sw p q l=l:=λl hl=>by unfold sw;rw[ZZ (aQ hl),ZZ (by lia)]
 have sm:∀i,i<m->sw p q i<m:=λi hi=>by
  unfold sw;split
  .exact hq
  .split<;>omega
 have sp:∀i,(sw p q i<p)↔i<p:=λi=>by
  unfold sw;split
  .lia
  .split<;>lia
 refine⟨pm,λi hi=>h.sm _ (sm i hi),h.pw,λi l hi hl=>?_,λi j hi hj=>?_,λlam hz=>?_⟩
 .rw[hR i _ hi (h.pw l hl),h.unit _ l (sm i hi) hl];by_cases e:i=l
  .rw[ZY e,e,ZY (sl l hl)]
  .rw[ZZ e,ZZ λz=>e ?_];have:i<p:=(sp i).mp (Y3 (Nat.le_of_eq z) hl);rw[<- z,sl i this]
 .rw[h.dec _ j (sm i hi) hj,hR i j hi hj]
  congr 1
  .by_cases e:i<p
   .rw[ZY e,ZY ((sp i).mpr e)]
   .rw[ZZ e,ZZ λz=>e ((sp i).mp z)]
  .exact cg λl hl=>by rw[hR l j (aR hl pm) hj,sl l hl]
 .exact h.ind lam λj hj=>by
   rw[<- hz j hj];exact cg λk hk=>by rw[sl k hk]
theorem fG.pivot(h:fG A b m wd R p pv s)(hp:p<m)(hb:∀i,i<m->0<b i){c:Nat}(hc:c<wd)(h0:R p c≠0){R':Nat->Nat->Rat}(hpp:∀j,j<wd->R' p j*R p c=R p j)(hii:∀i j,i<m->i≠p->j<wd->R' i j=R i j-R i c*R' p j) :
  fG A b m wd R' (p+1) (λl=>if l=p then c else pv l) s:=by
 have pm:=h.pm;have one:R' p c=1:=by
  have:=hpp c hc
  grind
 have zp:∀l,l<p->R' p (pv l)=0:=λl hl=>by
  have:=hpp (pv l) (h.pw l hl);rw[h.unit p l hp hl,ZZ (Nat.ne_of_gt hl)]at this
  grind
 have pvl:∀l,l<p->(if l=p then c else pv l)=pv l:=λl hl=>ZZ (aQ hl);have old:∀i j,i<m->i≠p->j<wd->R i j=R' i j+R i c*R' p j:=λi j hi ne hj=>by rw[hii i j hi ne hj];grind
 have dec:∀i j,i<m->j<wd->(A (s i) j:Rat)=(if i<p+1 then 0 else(b (s i):Rat)*R' i j)+sg (λl=>(A (s i) (if l=p then c else pv l):Rat)*R' l j) (p+1):=λi j hi hj=>by
  have dj:=h.dec i j hi hj;have dc:=h.dec i c hi hc;have ej:sg (λl=>(A (s i) (pv l):Rat)*R l j) p=sg (λl=>(A (s i) (pv l):Rat)*R' l j) p+R' p j*sg (λl=>(A (s i) (pv l):Rat)*R l c) p:=by
   rw[<- g8,<- iT];exact cg λl hl=>by rw[old l j (Nat.lt_trans hl hp) (aQ hl) hj];grind
  rw[ej]at dj;show _=_+(sg _ p+(A (s i) (if p=p then c else pv p):Rat)*R' p j);rw[ZY rfl,cg (g:=λl=>(A (s i) (pv l):Rat)*R' l j) λl hl=>by rw[pvl l hl]];by_cases e:i<p
  .rw[ZY (WV _ e)];rw[ZY e]at dj dc
   grind
  .rw[ZZ e]at dj dc;by_cases e2:i=p
   .rw[ZY (by lia)];subst e2;have:=hpp j hj
    grind
   .rw[ZZ (by lia)];have:=old i j hi e2 hj
    grind
 refine⟨hp,h.sm,λl hl=>?_,λi l hi hl=>?_,dec,λlam hz=>?_⟩
 .by_cases e:l=p
  .show(if l=p then c else pv l)<wd;rw[ZY e];exact hc
  .show(if l=p then c else pv l)<wd;rw[ZZ e];exact h.pw l (XX (Nat.le_of_lt_succ hl) e)
 .show R' i (if l=p then c else pv l)=_;by_cases e:l=p
  .rw[ZY e,e];by_cases ip:i=p
   .rw[ZY ip,ip];exact one
   .rw[ZZ ip,hii i c hi ip hc,one];grind
  .rw[ZZ e];have hl':l<p:=by exact XX (Nat.le_of_lt_succ hl) e
   by_cases ip:i=p
   .rw[ip,zp l hl',ZZ (Ne.symm e)]
   .rw[hii i _ hi ip (h.pw l hl'),zp l hl',h.unit i l hi hl'];grind
 .have lp:lam p=0:=by
   by_cases z:lam p=0
   .exact z
   .exfalso

    have hj:∀j,j<wd->sg (λk=>lam k*(A (s k) j:Rat)) p=-(lam p*(A (s p) j:Rat)):=λj hj=>by
     have:sg (λk=>lam k*(A (s k) j:Rat)) p+lam p*(A (s p) j:Rat)=0:=hz j hj
     grind
    have hc':=h.comb lam hc;rw[hj c hc,cg (g:=λl=>-(lam p)*((A (s p) (pv l):Rat)*R l c)) λl hl=>by rw[hj _ (h.pw l hl)];grind,g8]at hc';have dc:=h.dec p c hp hc;rw[ZZ (X2 p)]at dc;have b0:=gJ (Int.ne_of_gt (hb _ (h.sm p hp)));have:lam p*((b (s p):Rat)*R p c)=0:=by rw[dc]at hc';grind
    grind
  intro k hk;by_cases e:k=p
  .rw[e];exact lp
  .refine h.ind lam (λj hj=>?_) k (XX (Nat.le_of_lt_succ hk) e);have:sg (λk=>lam k*(A (s k) j:Rat)) p+lam p*(A (s p) j:Rat)=0:=hz j hj;rw[lp]at this
   grind
end
noncomputable def vr(r:List Int×Int)(j:Nat):Rat:=((r.1.getD j 0:Int):Rat)/(r.2:Rat)
theorem JF{f:Int->Int}(h0:f 0=0)(xs:List Int)(j:Nat):(xs.map f).getD j 0=f (xs.getD j 0):=by
 rw[au,au,aq];cases xs[j]? with
 |none=>exact h0.symm
 |some t=>rfl
theorem oX{r:List Int×Int}(h:0<r.2)(j:Nat):vr (gY r) j=vr r j:=by
 have g0:=fY (ts:=r.1) h;obtain⟨d1,d2⟩:=fU (ts:=r.1) (b:=r.2);have e1:(gY r).1.getD j 0=r.1.getD j 0/gcL r.1 r.2:=JF (f:=λt=>t/gcL r.1 r.2) (Int.zero_ediv _) r.1 j;have d3:gcL r.1 r.2 ∣ r.1.getD j 0:=by
  rw[au];cases e:r.1[j]? with
  |none=>exact⟨0,by rw[Int.mul_zero];rfl⟩
  |some t=>exact d2 t (aC e)
 have e2:(gY r).2=r.2/gcL r.1 r.2:=rfl;unfold vr;rw[e1,e2];generalize r.1.getD j 0=t at *;generalize gcL r.1 r.2=g at *;obtain⟨u,hu⟩:=d3;obtain⟨v,hv⟩:=d1;rw[hu,hv,Int.mul_ediv_cancel_left _ (Int.ne_of_gt g0),Int.mul_ediv_cancel_left _ (Int.ne_of_gt g0),XV,XV];have v0:v≠0:=λz=>by rw[hv,z,Int.mul_zero]at h;lia
 have:=gJ v0;have:=gJ (Int.ne_of_gt g0)
 grind
theorem i_{r:List Int×Int}{c:Β}(h:0<r.2)(hc:0<c.2)(j:Nat):vr (gF r c) j=vr r j*((c.1:Rat)/(c.2:Rat)):=by
 have e1:(gF r c).1.getD j 0=r.1.getD j 0*c.1:=JF (f:=λt=>t*c.1) (Int.zero_mul _) r.1 j;have e2:(gF r c).2=r.2*c.2:=rfl;unfold vr;rw[e1,e2,XV,XV];have:=gJ (Int.ne_of_gt h);have:=gJ (Int.ne_of_gt hc)
 grind
theorem lZ{r p:List Int×Int}{c:Β}(hr:0<r.2)(hp:0<p.2)(hc:0<c.2)(hl:r.1.length=p.1.length)(j:Nat):vr (mH r p c) j=vr r j+((c.1:Rat)/(c.2:Rat))*vr p j:=by
 have hB:=XZ hp hc;have g0:=af0 (t:=r.2) hB;obtain⟨u,hu⟩:=Int.gcd_dvd_left r.2 (p.2*c.2);obtain⟨v,hv⟩:=Int.gcd_dvd_right r.2 (p.2*c.2);have es:mH r p c=(List.zipWith (λx y=>x*v+y*(u*c.1)) r.1 p.1,r.2*v):=by
  unfold mH;generalize((Int.gcd r.2 (p.2*c.2):Nat):Int)=g at g0 hu hv ⊢;have e1:p.2*c.2/g=v:=by rw[hv,Int.mul_ediv_cancel_left _ (Int.ne_of_gt g0)]
  have e2:r.2/g=u:=by
   conv=>lhs;rw[hu]
   exact Int.mul_ediv_cancel_left _ (Int.ne_of_gt g0)
  rw[e1,e2]
 generalize((Int.gcd r.2 (p.2*c.2):Nat):Int)=g at g0 hu hv;have v0:0<v:=Int.pos_of_mul_pos_right (by rw[<- hv];exact hB) g0;have ez:(List.zipWith (λx y=>x*v+y*(u*c.1)) r.1 p.1).getD j 0=r.1.getD j 0*v+p.1.getD j 0*(u*c.1):=by
  rw[au,au,au,List.getElem?_zipWith];by_cases e:j<r.1.length
  .rw[aj e,aj (aR e (Nat.le_of_eq hl))];rfl
  .rw[aM (Nat.le_of_not_lt e),aM (by lia)];show(0:Int)=0*v+0*(u*c.1);rw[Int.zero_mul,Int.zero_mul];rfl
 rw[es];unfold vr;show((List.zipWith (λx y=>x*v+y*(u*c.1)) r.1 p.1).getD j 0:Rat)/((r.2*v:Int):Rat)=_;rw[ez];generalize r.1.getD j 0=x;generalize p.1.getD j 0=y;have hu':(r.2:Rat)=(g:Rat)*(u:Rat):=by rw[<- XV,<- hu]
 have hv':(p.2:Rat)*(c.2:Rat)=(g:Rat)*(v:Rat):=by rw[<- XV,<- XV,hv]
 have r0:=gJ (Int.ne_of_gt hr);have p0:=gJ (Int.ne_of_gt hp);have c0:=gJ (Int.ne_of_gt hc);have q0:=gJ (Int.ne_of_gt v0);have k0:=gJ (Int.ne_of_gt g0);rw[Rat.intCast_add,XV,XV,XV,XV];generalize(r.2:Rat)=r2 at *;generalize(p.2:Rat)=p2 at *;generalize(c.2:Rat)=c2 at *;generalize(c.1:Rat)=c1 at *;generalize(g:Rat)=gg at *;generalize(u:Rat)=uu at *;generalize(v:Rat)=vv at *;generalize(x:Rat)=xx at *;generalize(y:Rat)=yy at *;have e1:(xx*vv+yy*(uu*c1))/(r2*vv)=xx/r2+yy*(uu*c1)/(r2*vv):=by grind
 have e2:yy*(uu*c1)/(r2*vv)=c1/c2*(yy/p2):=by
  have:uu*(c2*p2)=r2*vv:=by rw[hu',Rat.mul_comm c2 p2,hv'];grind
  grind
 rw[e1,e2]
theorem lV{M wd:Nat}{r:List Int×Int}(hr:0<r.2)(g:gcL r.1 r.2=1)(hw:r.1.length=wd){v:Nat->Int}{u:Int}(u0:u≠0)(ub:u.natAbs<=M)(vb:∀j,j<wd->(v j).natAbs<=M)(e:∀j,j<wd->vr r j*(u:Rat)=(v j:Rat)):Big M r:=by
 refine least (s:=((List.range wd).map λj=>v j*u.sign,u.natAbs)) hr g ⟨?_,λk a b ha hb=>?_⟩ ⟨?_,?_,λt ht=>?_⟩
 .show r.1.length=((List.range wd).map λj=>v j*u.sign).length;rw[hw,ak,List.length_range]
 .have kw:k<wd:=by rw[<- hw];exact(ao.mp ha).1
  have hb:((List.range wd).map λj=>v j*u.sign)[k]?=some b:=hb;rw[aq,List.getElem?_range kw]at hb;cases hb;show a*((u.natAbs:Nat):Int)=v k*u.sign*r.2;have ek:=e k kw;unfold vr at ek;rw[au,ha]at ek;have ek:(a:Rat)/(r.2:Rat)*(u:Rat)=(v k:Rat):=ek;have r0:=gJ (Int.ne_of_gt hr);have k2:a*u=v k*r.2:=by
   refine Rat.intCast_inj.mp ?_;rw[XV,XV]
   grind
  have k1:((u.natAbs:Nat):Int)=u*u.sign:=(Int.mul_sign_self u).symm;rw[k1,<- Int.mul_assoc,k2];ac_rfl
 .show(0:Int)<(u.natAbs:Nat);lia
 .show(((u.natAbs:Nat):Int)).natAbs<=M;rw[XT];exact ub
 .obtain⟨j,hj,rfl⟩:=YV.mp ht;rw[Int.natAbs_mul,Int.natAbs_sign_of_ne_zero u0,Nat.mul_one];exact vb j (List.mem_range.mp hj)
end Rw
namespace K27
open PySem PyProof.Rows L2
theorem ai9:sW (.non) (.non)=true:=rfl
theorem ajM{j:Int} : sW (.non) (.int j)=true:=rfl
theorem afj{i:Int} : sW (.int i) (.non)=true:=rfl
theorem afT{c:Bool} : sW (.non) (.bl c)=true:=rfl
theorem ahB{b:Bool} : sW (.bl b) (.non)=true:=rfl
theorem aik{t:Str} : sW (.non) (.str t)=true:=rfl
theorem afF{s:Str} : sW (.str s) (.non)=true:=rfl
theorem ain{i:Int}{j:Int} : sW (.int i) (.int j)=true:=rfl
theorem ai7{b:Bool}{c:Bool} : sW (.bl b) (.bl c)=true:=rfl
theorem aiT{s:Str}{t:Str} : sW (.str s) (.str t)=true:=rfl
theorem afw{i:Int}{t:Str} : sW (.int i) (.str t)=true:=rfl
theorem agE{s:Str}{j:Int} : sW (.str s) (.int j)=true:=rfl
theorem ag1{b:Bool}{t:Str} : sW (.bl b) (.str t)=true:=rfl
theorem afg{s:Str}{c:Bool} : sW (.str s) (.bl c)=true:=rfl
local macro_rules| `(tactic|walk_at "rd")=>`(tactic|simp only[adO,agS,ah7,tOp,tUn,rU,afp,tSl,adh,tC,acC,rI0,rI,ahu,agD,agc,aco,abx,tCB,Ma,Zr,ajw,tOr,af5,acH,acF,Zx,aiX,wH,agX,acI,afu,ach,abe,aeK,aaX,ab0,Ji,rEq,rNe,ai9,ajM,afj,afT,ahB,aik,afF,ain,ai7,aiT,afw,agE,ag1,afg,acf,acu,Ends.unset,ajK,YJ,afR,acp,afo,acO,tSM,RL,ajo,ajZ,acr,Yd,af8,Tv,YZ,acN,rJoin,tB,aj8,aic,abD,U4,acK,agy,ab9,Ke,afJ,ags,Ut,V.str.injEq,L2.start,List.replicate_succ,List.replicate_zero,Nat.reduceSub,Nat.reduceAdd,List.map_cons,List.map_nil,List.length_cons,List.length_nil,List.cons_append,List.nil_append,List.append_nil,List.getElem?_cons_zero,List.getElem?_cons_succ,List.set_cons_zero,List.set_cons_succ,List.set_nil,Option.some.injEq,exists_eq_left',exists_eq_left,exists_and_left,exists_and_right,exists_eq_right,exists_eq,exists_eq',and_assoc,V.int.injEq,V.ref.injEq,V.bl.injEq,V.ty.injEq,List.cons.injEq,HO.tup.injEq,HO.lst.injEq,and_true,true_and,reduceCtorEq,aiV,agp,cF,decide_true,decide_false,Bool.not_true,Bool.not_false,if_true,if_false,ite_true,ite_false,XW,YU,String.reduceEq,or_true,true_or,or_false,false_or,beq_self_eq_true,Bool.or_true,Bool.true_or,Bool.or_false,Bool.false_or,Bool.and_true,Bool.and_false,Bool.true_and,Bool.false_and,String.reduceBEq,Int.reduceToNat,Int.reducePow,Int.reduceMul,Int.reduceSub,Int.reduceAdd,Int.reduceNeg,Int.reduceLE,Int.reduceLT,Int.reduceEq,ne_eq,not_false_eq_true,not_true_eq_false,Int.cast_ofNat_Int])
noncomputable abbrev yJ:Stmt:=top 10
noncomputable abbrev gW:Φ:=["thing"]
noncomputable abbrev gM:Str:="is_whole"
noncomputable abbrev Rm:Φ:=["thing"]
theorem Oj:bK Rm gW (bH yJ):=fsc
noncomputable abbrev Cz:Stmt:=top 11
noncomputable abbrev gK:Φ:=["one","other"]
noncomputable abbrev gO:Str:="divisor"
noncomputable abbrev Wa:Φ:=["one","other","left","right","rest"]
theorem lJ:bK Wa gK (bH Cz):=fsc
noncomputable abbrev Le:Stmt:=top 15
noncomputable abbrev mQ:Φ:=["top","bottom"]
noncomputable abbrev mF:Str:="ratio"
noncomputable abbrev abX:Φ:=["top","bottom","common"]
theorem G4:bK abX mQ (bH Le):=fsc
noncomputable abbrev yq:Stmt:=top 16
noncomputable abbrev jF:Φ:=["thing"]
noncomputable abbrev jG:Str:="is_ratio"
noncomputable abbrev RP:Φ:=["thing","top","bottom"]
theorem vD:bK RP jF (bH yq):=fsc
noncomputable abbrev Td:Stmt:=top 17
noncomputable abbrev Ax:Φ:=["one","other"]
noncomputable abbrev zY:Str:="plus"
noncomputable abbrev aen:Φ:=["one","other"]
theorem abh:bK aen Ax (bH Td):=fsc
noncomputable abbrev NZ:Stmt:=top 18
noncomputable abbrev rN:Φ:=["one","other"]
noncomputable abbrev rM:Str:="minus"
noncomputable abbrev abV:Φ:=["one","other"]
theorem WT:bK abV rN (bH NZ):=fsc
noncomputable abbrev LQ:Stmt:=top 19
noncomputable abbrev vK:Φ:=["one","other"]
noncomputable abbrev uE:Str:="times"
noncomputable abbrev aay:Φ:=["one","other"]
theorem XR:bK aay vK (bH LQ):=fsc
noncomputable abbrev Rp:Stmt:=top 20
noncomputable abbrev Ea:Φ:=["one","other"]
noncomputable abbrev D_:Str:="over"
noncomputable abbrev adk:Φ:=["one","other"]
theorem abS:bK adk Ea (bH Rp):=fsc
noncomputable abbrev Nq:Stmt:=top 21
noncomputable abbrev pF:Φ:=["one","other"]
noncomputable abbrev pL:Str:="under"
noncomputable abbrev abU:Φ:=["one","other"]
theorem Zi:bK abU pF (bH Nq):=fsc
noncomputable abbrev Fb:Stmt:=top 23
noncomputable abbrev oW:Φ:=["fractions"]
noncomputable abbrev oR:Str:="level"
noncomputable abbrev Tw:Φ:=["fractions","bottom","one"]
theorem zu:bK Tw oW (bH Fb):=fsc
noncomputable abbrev K3:Stmt:=top 24
noncomputable abbrev Aj:Φ:=["fractions"]
noncomputable abbrev zj:Str:="total"
noncomputable abbrev ZV:Φ:=["fractions","leveled"]
theorem Ot:bK ZV Aj (bH K3):=fsc
noncomputable abbrev yO:Stmt:=top 25
noncomputable abbrev qj:Φ:=["fractions"]
noncomputable abbrev pW:Str:="greatest"
noncomputable abbrev S9:Φ:=["fractions","found","one"]
theorem qz:bK S9 qj (bH yO):=fsc
noncomputable abbrev SQ:Stmt:=top 27
noncomputable abbrev Ef:Φ:=["thing","many"]
noncomputable abbrev Et:Str:="fits"
noncomputable abbrev ade:Φ:=["thing","many"]
theorem abO:bK ade Ef (bH SQ):=fsc
noncomputable abbrev tY:Stmt:=top 28
noncomputable abbrev gD:Φ:=["hall","plan"]
noncomputable abbrev gA:Str:="check_plan"
noncomputable abbrev Mp:Φ:=["hall","plan","room","thing"]
theorem qI:bK Mp gD (bH tY):=fsc
noncomputable abbrev iV:Stmt:=top 29
noncomputable abbrev k_:Φ:=["offer","tops"]
noncomputable abbrev jV:Str:="behind_door"
noncomputable abbrev jd:Φ:=["offer","tops","leveled"]
theorem uP:bK jd k_ (bH iV):=fsc
noncomputable abbrev qW:Stmt:=top 30
noncomputable abbrev jP:Φ:=["hall","offer","leveled"]
noncomputable abbrev j9:Str:="raised_look"
noncomputable abbrev HN:Φ:=["hall","offer","leveled","behind"]
theorem uU:bK HN jP (bH qW):=fsc
noncomputable abbrev Bk:Stmt:=top 32
noncomputable abbrev rR:Φ:=["tops","bottom"]
noncomputable abbrev rY:Str:="lowest"
noncomputable abbrev Px:Φ:=["tops","bottom","common","top"]
theorem wQ:bK Px rR (bH Bk):=fsc
noncomputable abbrev p8:Stmt:=top 33
noncomputable abbrev nM:Φ:=["row","often"]
noncomputable abbrev nR:Str:="row_times"
noncomputable abbrev uJ:Φ:=["row","often"]
theorem J1:bK uJ nM (bH p8):=fsc
noncomputable abbrev sY:Stmt:=top 34
noncomputable abbrev qu:Φ:=["row","other","often"]
noncomputable abbrev pQ:Str:="row_plus"
noncomputable abbrev yD:Φ:=["row","other","often","bottom","common","own","added","tops"]
theorem jH:bK yD qu (bH sY):=fsc
noncomputable abbrev vd:Stmt:=top 35
noncomputable abbrev oh:Φ:=["leveled","step"]
noncomputable abbrev oJ:Str:="take_step"
noncomputable abbrev Pk:Φ:=["leveled","step","row"]
theorem Ag:bK Pk oh (bH vd):=fsc
noncomputable abbrev u_:Stmt:=top 36
noncomputable abbrev kY:Φ:=["row","column"]
noncomputable abbrev kI:Str:="number_at"
noncomputable abbrev Od:Φ:=["row","column"]
theorem KR:bK Od kY (bH u_):=fsc
noncomputable abbrev gQ:Stmt:=top 37
noncomputable abbrev jj:Φ:=["leveled"]
noncomputable abbrev jm:Str:="fractions_of"
noncomputable abbrev gP:Φ:=["leveled"]
theorem Dt:bK gP jj (bH gQ):=fsc
noncomputable abbrev sJ:Stmt:=top 38
noncomputable abbrev lX:Φ:=["leveled","place","column"]
noncomputable abbrev lQ:Str:="first_from"
noncomputable abbrev Kc:Φ:=["leveled","place","column","row"]
theorem yj:bK Kc lX (bH sJ):=fsc
noncomputable abbrev Mr:Stmt:=top 39
noncomputable abbrev wL:Φ:=["leveled","steps","step"]
noncomputable abbrev uX:Str:="go_on"
noncomputable abbrev aae:Φ:=["leveled","steps","step"]
theorem WX:bK aae wL (bH Mr):=fsc
noncomputable abbrev uZ:Stmt:=top 40
noncomputable abbrev nW:Φ:=["leveled","steps","place","found","column"]
noncomputable abbrev oF:Str:="begin_row"
noncomputable abbrev N8:Φ:=["leveled","steps","place","found","column","first"]
theorem zK:bK N8 nW (bH uZ):=fsc
noncomputable abbrev pC:Stmt:=top 41
noncomputable abbrev ji:Φ:=["leveled","steps","place","column"]
noncomputable abbrev jo:Str:="clear_column"
noncomputable abbrev Gq:Φ:=["leveled","steps","place","column","row","often"]
theorem mR:bK Gq ji (bH pC):=fsc
noncomputable abbrev wR:Stmt:=top 42
noncomputable abbrev tK:Φ:=["rows","wide"]
noncomputable abbrev ug:Str:="reduced"
noncomputable abbrev Cv:Φ:=["rows","wide","leveled","steps","place","column","found"]
theorem jz:bK Cv tK (bH wR):=fsc
noncomputable abbrev yC:Stmt:=top 44
noncomputable abbrev pU:Φ:=["rows"]
noncomputable abbrev qd:Str:="width_of"
noncomputable abbrev SX:Φ:=["rows"]
theorem N6:bK SX pU (bH yC):=fsc
noncomputable abbrev lU:Stmt:=top 45
noncomputable abbrev jX:Φ:=["rows","rights"]
noncomputable abbrev jZ:Str:="with_rights"
noncomputable abbrev qZ:Φ:=["rows","rights"]
theorem Hh:bK qZ jX (bH lU):=fsc
noncomputable abbrev qG:Stmt:=top 46
noncomputable abbrev nH:Φ:=["end","wide"]
noncomputable abbrev nZ:Str:="begins_of"
noncomputable abbrev wM:Φ:=["end","wide","begins","row","columns"]
theorem oA:bK wM nH (bH qG):=fsc
noncomputable abbrev BW:Stmt:=top 47
noncomputable abbrev su:Φ:=["end","begins","wide"]
noncomputable abbrev uf:Str:="odd_row"
noncomputable abbrev V_:Φ:=["end","begins","wide","row"]
theorem Ht:bK V_ su (bH BW):=fsc
noncomputable abbrev uM:Stmt:=top 48
noncomputable abbrev m9:Φ:=["end","begins","wide"]
noncomputable abbrev ou:Str:="answer_of"
noncomputable abbrev PX:Φ:=["end","begins","wide","answer","row","column"]
theorem nC:bK PX m9 (bH uM):=fsc
noncomputable abbrev iY:Stmt:=top 49
noncomputable abbrev j7:Φ:=["many"]
noncomputable abbrev jU:Str:="single_rows"
noncomputable abbrev jc:Φ:=["many"]
theorem GZ:bK jc j7 (bH iY):=fsc
noncomputable abbrev qX:Stmt:=top 50
noncomputable abbrev kj:Φ:=["rows","rights"]
noncomputable abbrev jT:Str:="only_answer"
noncomputable abbrev Jh:Φ:=["rows","rights","wide","end","begins"]
theorem jL:bK Jh kj (bH qX):=fsc
noncomputable abbrev j4:Stmt:=top 52
noncomputable abbrev jw:Φ:=["hall","plan"]
noncomputable abbrev jk:Str:="chosen_doors"
noncomputable abbrev pO:Φ:=["hall","plan"]
theorem Dj:bK pO jw (bH j4):=fsc
noncomputable abbrev u9:Stmt:=top 53
noncomputable abbrev ni:Φ:=["share","chosen"]
noncomputable abbrev oH:Str:="left_rows"
noncomputable abbrev O1:Φ:=["share","chosen","rows","room","offer","behind","chance"]
theorem iH:bK O1 ni (bH u9):=fsc
noncomputable abbrev p7:Stmt:=top 54
noncomputable abbrev nQ:Φ:=["hall","plan"]
noncomputable abbrev m_:Str:="worths_of"
noncomputable abbrev u5:Φ:=["hall","plan","chosen","pays"]
theorem sI:bK u5 nQ (bH p7):=fsc
noncomputable abbrev rH:Stmt:=top 56
noncomputable abbrev j5:Φ:=["seen","door"]
noncomputable abbrev jW:Str:="better_door"
noncomputable abbrev Jg:Φ:=["seen","door","most"]
theorem vo:bK Jg j5 (bH rH):=fsc
noncomputable abbrev zJ:Stmt:=top 57
noncomputable abbrev w5:Φ:=["hall","plan","worths"]
noncomputable abbrev xJ:Str:="mended"
noncomputable abbrev Fg:Φ:=["hall","plan","worths","leveled","told","room","door","seen"]
theorem oO:bK Fg w5 (bH zJ):=fsc
noncomputable abbrev yr:Stmt:=top 58
noncomputable abbrev qm:Φ:=["hall","plan"]
noncomputable abbrev pX:Str:="mendings"
noncomputable abbrev Sv:Φ:=["hall","plan","told","coming"]
theorem qe:bK Sv qm (bH yr):=fsc
noncomputable abbrev xG:Stmt:=top 61
noncomputable abbrev lE:Φ:=["thing"]
noncomputable abbrev lF:Str:="is_word"
noncomputable abbrev Cp:Φ:=["thing"]
theorem Rg:bK Cp lE (bH xG):=fsc
noncomputable abbrev t_:Stmt:=top 63
noncomputable abbrev iZ:Φ:=["name","pay"]
noncomputable abbrev iW:Str:="check_head"
noncomputable abbrev Mh:Φ:=["name","pay"]
theorem Iz:bK Mh iZ (bH t_):=fsc
noncomputable abbrev j_:Stmt:=top 64
noncomputable abbrev eF:Φ:=["room"]
noncomputable abbrev eN:Str:="check_room_name"
noncomputable abbrev zQ:Φ:=["room"]
theorem yN:bK zQ eF (bH j_):=fsc
noncomputable abbrev pA:Stmt:=top 65
noncomputable abbrev gn:Φ:=["chance"]
noncomputable abbrev gq:Str:="check_chance"
noncomputable abbrev Gh:Φ:=["chance"]
theorem Dk:bK Gh gn (bH pA):=fsc
noncomputable abbrev mq:Stmt:=top 66
noncomputable abbrev jY:Φ:=["pairs"]
noncomputable abbrev j8:Str:="check_pairs"
noncomputable abbrev qL:Φ:=["pairs","room","chance"]
theorem pN:bK qL jY (bH mq):=fsc
noncomputable abbrev lW:Stmt:=top 67
noncomputable abbrev kJ:Φ:=["pairs"]
noncomputable abbrev kO:Str:="joined_ways"
noncomputable abbrev xW:Φ:=["pairs","chances","room","chance"]
theorem jR:bK xW kJ (bH lW):=fsc
noncomputable abbrev qU:Stmt:=top 74
noncomputable abbrev kh:Φ:=["share"]
noncomputable abbrev jQ:Str:="check_share"
noncomputable abbrev Ih:Φ:=["share"]
theorem FT:bK Ih kh (bH qU):=fsc
noncomputable abbrev tG:Stmt:=top 75
noncomputable abbrev mD:Φ:=["rooms"]
noncomputable abbrev lM:Str:="numbers_of"
noncomputable abbrev KY:Φ:=["rooms","numbers","room","name"]
theorem lO:bK KY mD (bH tG):=fsc
noncomputable abbrev mW:Stmt:=top 76
noncomputable abbrev iD:Φ:=["door","numbers"]
noncomputable abbrev h_:Str:="numbered_ways"
noncomputable abbrev Dy:Φ:=["door","numbers","numbered","name","chance"]
theorem iI:bK Dy iD (bH mW):=fsc
noncomputable abbrev vh:Stmt:=top 77
noncomputable abbrev nP:Φ:=["doors","numbers"]
noncomputable abbrev n6:Str:="offers_of"
noncomputable abbrev Qe:Φ:=["doors","numbers","taken","told","door"]
theorem nT:bK Qe nP (bH vh):=fsc
noncomputable abbrev R7:Stmt:=top 80
noncomputable abbrev tU:Φ:=["_law_script","_law_k"]
noncomputable abbrev tX:Str:="_law_cell"
noncomputable abbrev ae5:Φ:=["_law_script","_law_k"]
theorem abB:bK ae5 tU (bH R7):=fsc
noncomputable abbrev GJ:Stmt:=top 81
noncomputable abbrev eZ:Φ:=["_law_cell_here","_law_many"]
noncomputable abbrev fj:Str:="_law_stream"
noncomputable abbrev YC:Φ:=["_law_cell_here","_law_many","_law_found","_law_number","_law_digits","_law_k"]
theorem jJ:bK YC eZ (bH GJ):=fsc
noncomputable abbrev Zy:Stmt:=top 82
noncomputable abbrev Hv:Φ:=["_law_one","_law_other"]
noncomputable abbrev Hr:Str:="_law_gcd"
noncomputable abbrev ah8:Φ:=["_law_one","_law_other","_law_low","_law_high"]
theorem Nm:bK ah8 Hv (bH Zy):=fsc
noncomputable abbrev Hq:Stmt:=top 83
noncomputable abbrev oN:Φ:=["_law_top","_law_bottom"]
noncomputable abbrev oK:Str:="_law_ratio"
noncomputable abbrev Ze:Φ:=["_law_top","_law_bottom","_law_common"]
theorem Jw:bK Ze oN (bH Hq):=fsc
noncomputable abbrev vZ:Stmt:=top 84
noncomputable abbrev nu:Φ:=["_law_found"]
noncomputable abbrev nJ:Str:="_law_is_ratio"
noncomputable abbrev Oo:Φ:=["_law_found","_law_number"]
theorem Bc:bK Oo nu (bH vZ):=fsc
noncomputable abbrev m6:Stmt:=top 85
noncomputable abbrev lR:Φ:=["_law_found","_law_many"]
noncomputable abbrev lN:Str:="_law_are_ratios"
noncomputable abbrev sH:Φ:=["_law_found","_law_many"]
theorem Ip:bK sH lR (bH m6):=fsc
noncomputable abbrev wY:Stmt:=top 86
noncomputable abbrev Az:Φ:=["_law_cell_here","_law_many"]
noncomputable abbrev zM:Str:="_law_names"
noncomputable abbrev tO:Φ:=["_law_cell_here","_law_many","_law_letters","_law_xs","_law_base","_law_at","_law_step"]
theorem rZ:bK tO Az (bH wY):=fsc
noncomputable abbrev Ms:Stmt:=top 87
noncomputable abbrev z6:Φ:=["_law_cell_here"]
noncomputable abbrev Ar:Str:="_law_share"
noncomputable abbrev aaE:Φ:=["_law_cell_here","_law_xs","_law_bottom"]
theorem Hw:bK aaE z6 (bH Ms):=fsc
noncomputable abbrev WW:Stmt:=top 88
noncomputable abbrev K4:Φ:=["_law_cell_here","_law_x","_law_y"]
noncomputable abbrev JW:Str:="_law_pay"
noncomputable abbrev ajr:Φ:=["_law_cell_here","_law_x","_law_y"]
theorem ae4:bK ajr K4 (bH WW):=fsc
noncomputable abbrev yt:Stmt:=top 89
noncomputable abbrev Eh:Φ:=["_law_cell_here","_law_many"]
noncomputable abbrev Ey:Str:="_law_door"
noncomputable abbrev tV:Φ:=["_law_cell_here","_law_many","_law_xs","_law_rooms_here","_law_sort","_law_pairs","_law_bottom","_law_part","_law_weights"]
theorem jt:bK tV Eh (bH yt):=fsc
noncomputable abbrev EY:Stmt:=top 90
noncomputable abbrev Aw:Φ:=["_law_script","_law_at","_law_many","_law_most"]
noncomputable abbrev zR:Str:="_law_doors"
noncomputable abbrev Uq:Φ:=["_law_script","_law_at","_law_many","_law_most","_law_rooms_here","_law_first","_law_cells","_law_k","_law_cell_here","_law_room","_law_door_here"]
theorem je:bK Uq Aw (bH EY):=fsc
noncomputable abbrev zm:Stmt:=top 91
noncomputable abbrev Ah:Φ:=["_law_title","_law_door_here","_law_names_here"]
noncomputable abbrev z9:Str:="_law_built"
noncomputable abbrev Bg:Φ:=["_law_title","_law_door_here","_law_names_here","_law_told","_law_sort","_law_pay_here","_law_pairs"]
theorem uN:bK Bg Ah (bH zm):=fsc
noncomputable abbrev Mg:Stmt:=top 92
noncomputable abbrev Eb:Φ:=["_law_cell_here","_law_share_here","_law_rooms_here"]
noncomputable abbrev El:Str:="_law_hall"
noncomputable abbrev R3:Φ:=["_law_cell_here","_law_share_here","_law_rooms_here","_law_names_here","_law_found","_law_k","_law_titles"]
theorem Ab:bK R3 Eb (bH Mg):=fsc
noncomputable abbrev Fp:Stmt:=top 93
noncomputable abbrev wZ:Φ:=["_law_cell_here","_law_rooms_here"]
noncomputable abbrev xq:Str:="_law_chosen"
noncomputable abbrev Xr:Φ:=["_law_cell_here","_law_rooms_here","_law_xs","_law_found","_law_k"]
theorem xK:bK Xr wZ (bH Fp):=fsc
noncomputable abbrev Ly:Stmt:=top 94
noncomputable abbrev Bm:Φ:=["_law_one","_law_other"]
noncomputable abbrev zG:Str:="_law_below"
noncomputable abbrev abN:Φ:=["_law_one","_law_other"]
theorem YF:bK abN Bm (bH Ly):=fsc
noncomputable abbrev S8:Stmt:=top 95
noncomputable abbrev Eo:Φ:=["_law_cell_here"]
noncomputable abbrev Em:Str:="_law_size"
noncomputable abbrev adX:Φ:=["_law_cell_here","_law_xs"]
theorem TQ:bK adX Eo (bH S8):=fsc
noncomputable abbrev yH:Stmt:=top 96
noncomputable abbrev qD:Φ:=["_law_cell_here","_law_many"]
noncomputable abbrev qw:Str:="_law_corridor"
noncomputable abbrev RD:Φ:=["_law_cell_here","_law_many","_law_pay_here","_law_found","_law_k"]
theorem pP:bK RD qD (bH yH):=fsc
noncomputable abbrev K5:Stmt:=top 97
noncomputable abbrev zH:Φ:=["_law_script"]
noncomputable abbrev Al:Str:="_law_rooms"
noncomputable abbrev aaN:Φ:=["_law_script","_law_xs"]
theorem Ou:bK aaN zH (bH K5):=fsc
noncomputable abbrev Eu:Stmt:=top 98
noncomputable abbrev Bh:Φ:=["_law_script","_law_rooms_here"]
noncomputable abbrev Bo:Str:="_law_start"
noncomputable abbrev Ls:Φ:=["_law_script","_law_rooms_here"]
theorem Y4:bK Ls Bh (bH Eu):=fsc
noncomputable abbrev Mx:Stmt:=top 99
noncomputable abbrev Bf:Φ:=["_law_one","_law_other"]
noncomputable abbrev Bu:Str:="_law_rises"
noncomputable abbrev abQ:Φ:=["_law_one","_law_other","_law_more","_law_k","_law_plan","_law_worths","_law_later","_law_again"]
theorem mJ:bK abQ Bf (bH Mx):=fsc
noncomputable abbrev Pb:Stmt:=top 100
noncomputable abbrev RQ:Φ:=["_law_script"]
noncomputable abbrev Lq:Str:="law"
noncomputable abbrev WY:Φ:=["_law_script","_law_share_here","_law_rooms_here","_law_many","_law_hall_here","_law_plan","_law_found","_law_one","_law_k"]
theorem uh:bK WY RQ (bH Pb):=fsc
noncomputable abbrev vg:Stmt:=fK 68 0
noncomputable abbrev j6:Φ:=["self","name","pay"]
noncomputable abbrev Bl:Str:="__init__"
noncomputable abbrev Bt:Str:="Door.__init__"
noncomputable abbrev Qo:Φ:=["self","name","pay"]
theorem Lp:bK Qo j6 (bH vg):=fsc
noncomputable abbrev uI:Stmt:=fK 68 1
noncomputable abbrev n_:Φ:=["self"]
noncomputable abbrev zO:Str:="ways"
noncomputable abbrev Am:Str:="Door.ways"
noncomputable abbrev Pz:Φ:=["self"]
theorem Mu:bK Pz n_ (bH uI):=fsc
noncomputable abbrev vf:Stmt:=fK 69 0
noncomputable abbrev n8:Φ:=["self","name","pay","room"]
noncomputable abbrev zf:Str:="__init__"
noncomputable abbrev za:Str:="Sure.__init__"
noncomputable abbrev QZ:Φ:=["self","name","pay","room"]
theorem Nj:bK QZ n8 (bH vf):=fsc
noncomputable abbrev sZ:Stmt:=fK 70 0
noncomputable abbrev gw:Φ:=["self","name","pay","pairs"]
noncomputable abbrev xX:Str:="__init__"
noncomputable abbrev xT:Str:="Mixed.__init__"
noncomputable abbrev Ny:Φ:=["self","name","pay","pairs"]
theorem Ir:bK Ny gw (bH sZ):=fsc
noncomputable abbrev vO:Stmt:=fK 71 0
noncomputable abbrev nq:Φ:=["self","name","pay","chance","room","other"]
noncomputable abbrev zF:Str:="__init__"
noncomputable abbrev Br:Str:="Toss.__init__"
noncomputable abbrev PK:Φ:=["self","name","pay","chance","room","other"]
theorem Nu:bK PK nq (bH vO):=fsc
noncomputable abbrev qF:Stmt:=fK 72 0
noncomputable abbrev nY:Φ:=["self","name","pay","rooms"]
noncomputable abbrev zT:Str:="__init__"
noncomputable abbrev Bp:Str:="Even.__init__"
noncomputable abbrev vU:Φ:=["self","name","pay","rooms"]
theorem Lg:bK vU nY (bH qF):=fsc
noncomputable abbrev qy:Stmt:=fK 78 0
noncomputable abbrev oG:Φ:=["self","share","rooms"]
noncomputable abbrev zx:Str:="__init__"
noncomputable abbrev z_:Str:="Hall.__init__"
noncomputable abbrev vN:Φ:=["self","share","rooms"]
theorem J_:bK vN oG (bH qy):=fsc
noncomputable abbrev vW:Stmt:=fK 78 1
noncomputable abbrev jK:Φ:=["self"]
noncomputable abbrev zA:Str:="size"
noncomputable abbrev Bv:Str:="Hall.size"
noncomputable abbrev Ob:Φ:=["self"]
theorem LK:bK Ob jK (bH vW):=fsc
noncomputable abbrev jN:Stmt:=fK 78 4
noncomputable abbrev fX:Φ:=["self","room"]
noncomputable abbrev pB:Str:="check_room"
noncomputable abbrev o8:Str:="Hall.check_room"
noncomputable abbrev zy:Φ:=["self","room"]
theorem yI:bK zy fX (bH jN):=fsc
noncomputable abbrev mC:Stmt:=fK 78 6
noncomputable abbrev fM:Φ:=["self","room"]
noncomputable abbrev vp:Str:="offers"
noncomputable abbrev wj:Str:="Hall.offers"
noncomputable abbrev qP:Φ:=["self","room"]
theorem Gj:bK qP fM (bH mC):=fsc
structure Adr where
 Door:Addr
 Sure:Addr
 Mixed:Addr
 Toss:Addr
 Even:Addr
 Hall:Addr
 NOUGHT:Addr
 ONE:Addr
 Door_init:Addr
 Door_ways:Addr
 Sure_init:Addr
 Mixed_init:Addr
 Toss_init:Addr
 Even_init:Addr
 Hall_init:Addr
 Hall_size:Addr
 Hall_check_room:Addr
 Hall_offers:Addr
structure Txt(K:Frag)(mg:Str->Ω)(D:Adr):Prop where
 ZG:mg "Door"=some (.ref D.Door)
 ae6:mg "Even"=some (.ref D.Even)
 aeL:mg "Hall"=some (.ref D.Hall)
 Kf:mg "Mixed"=some (.ref D.Mixed)
 jg:mg "NOUGHT"=some (.ref D.NOUGHT)
 CT:mg "ONE"=some (.ref D.ONE)
 ad2:mg "Sure"=some (.ref D.Sure)
 ae2:mg "Toss"=some (.ref D.Toss)
 Ft:∃u,mg "LONGEST_WORD"=some u/\RelV (.int 8) u
 gC:∀H,SqT K H D.NOUGHT [.int 0,.int 1]
 uW:∀H,SqT K H D.ONE [.int 1,.int 1]
 Zf:Cls K D.Door
 KZ:Meth K D.Door "ways" D.Door_ways
 Ie:cj K D.Door "leads"
 Ky:cj K D.Door "name"
 DX:cj K D.Door "numbers"
 DW:cj K D.Door "offered"
 Oh:cj K D.Door "pay"
 HX:cj K D.Door "share"
 abn:Mk K D.Sure D.Sure_init
 Zc:Cls K D.Sure
 Li:Meth K D.Sure "ways" D.Door_ways
 Il:cj K D.Sure "leads"
 Ml:cj K D.Sure "name"
 Ds:cj K D.Sure "numbers"
 DP:cj K D.Sure "offered"
 Py:cj K D.Sure "pay"
 HD:cj K D.Sure "share"
 W2:Mk K D.Mixed D.Mixed_init
 Wo:Cls K D.Mixed
 HW:Meth K D.Mixed "ways" D.Door_ways
 Hx:cj K D.Mixed "leads"
 Ia:cj K D.Mixed "name"
 Cr:cj K D.Mixed "numbers"
 Ce:cj K D.Mixed "offered"
 Nh:cj K D.Mixed "pay"
 Gz:cj K D.Mixed "share"
 aaY:Mk K D.Toss D.Toss_init
 Ww:Cls K D.Toss
 JV:Meth K D.Toss "ways" D.Door_ways
 Im:cj K D.Toss "leads"
 Lj:cj K D.Toss "name"
 DR:cj K D.Toss "numbers"
 Dv:cj K D.Toss "offered"
 Qj:cj K D.Toss "pay"
 Jf:cj K D.Toss "share"
 Z1:Mk K D.Even D.Even_init
 W8:Cls K D.Even
 Kr:Meth K D.Even "ways" D.Door_ways
 Ig:cj K D.Even "leads"
 K9:cj K D.Even "name"
 Dl:cj K D.Even "numbers"
 Dq:cj K D.Even "offered"
 Qy:cj K D.Even "pay"
 Je:cj K D.Even "share"
 aaL:Mk K D.Hall D.Hall_init
 o7:Cls K D.Hall
 yK:Meth K D.Hall "check_room" D.Hall_check_room
 pJ:Meth K D.Hall "offers" D.Hall_offers
 Bw:Meth K D.Hall "size" D.Hall_size
 HS:cj K D.Hall "leads"
 KD:cj K D.Hall "name"
 DK:cj K D.Hall "numbers"
 DQ:cj K D.Hall "offered"
 QK:cj K D.Hall "pay"
 HY:cj K D.Hall "share"
 Ba:Df K D.Door "__init__" D.Door_init
 J0:yL K Bl Bt vg j6 D.Door_init
 Kv:yL K zO Am uI n_ D.Door_ways
 J6:yL K zf za vf n8 D.Sure_init
 yc:Df K D.Mixed "__init__" D.Mixed_init
 HB:yL K xX xT sZ gw D.Mixed_init
 KC:yL K zF Br vO nq D.Toss_init
 J5:yL K zT Bp qF nY D.Even_init
 Kz:yL K zx z_ qy oG D.Hall_init
 Nk:yL K zA Bv vW jK D.Hall_size
 yR:yL K pB o8 jN fX D.Hall_check_room
 Hs:yL K vp wj mC fM D.Hall_offers
 P_:mg "abs"=none
 acL:mg "all"=none
 ajx:mg "any"=none
 Xg:mg "bool"=none
 mK:mg "enumerate"=none
 W4:mg "int"=none
 cX:mg "isinstance"=none
 dU:mg "len"=none
 v8:mg "list"=none
 d9:mg "range"=none
 YS:mg "sorted"=none
 ag5:mg "str"=none
 Zk:mg "sum"=none
 J9:mg "tuple"=none
 Ur:mg "zip"=none
 RM:cJ K mg gM yJ gW
 Vv:cJ K mg gO Cz gK
 aax:cJ K mg mF Le mQ
 Ss:cJ K mg jG yq jF
 aeY:cJ K mg zY Td Ax
 aac:cJ K mg rM NZ rN
 abT:cJ K mg uE LQ vK
 adT:cJ K mg D_ Rp Ea
 abR:cJ K mg pL Nq pF
 abM:cJ K mg oR Fb oW
 f_total:cJ K mg zj K3 Aj
 R8:cJ K mg pW yO qj
 adH:cJ K mg Et SQ Ef
 Lh:cJ K mg gA tY gD
 I8:cJ K mg jV iV k_
 Ii:cJ K mg j9 qW jP
 Yg:cJ K mg rY Bk rR
 O2:cJ K mg nR p8 nM
 Sd:cJ K mg pQ sY qu
 Pu:cJ K mg oJ vd oh
 Oa:cJ K mg kI u_ kY
 Gi:cJ K mg jm gQ jj
 Nr:cJ K mg lQ sJ lX
 aah:cJ K mg uX Mr wL
 Ph:cJ K mg oF uZ nW
 FN:cJ K mg jo pC ji
 Vg:cJ K mg ug wR tK
 SJ:cJ K mg qd yC pU
 Iu:cJ K mg jZ lU jX
 QD:cJ K mg nZ qG nH
 V8:cJ K mg uf BW su
 Rf:cJ K mg ou uM m9
 Jd:cJ K mg jU iY j7
 Ja:cJ K mg jT qX kj
 Gk:cJ K mg jk j4 jw
 O_:cJ K mg oH u9 ni
 Og:cJ K mg m_ p7 nQ
 Io:cJ K mg jW rH j5
 Yq:cJ K mg xJ zJ w5
 RG:cJ K mg pX yr qm
 Vh:cJ K mg lF xG lE
 KN:cJ K mg iW t_ iZ
 zP:cJ K mg eN j_ eF
 Fi:cJ K mg gq pA gn
 I_:cJ K mg j8 mq jY
 HJ:cJ K mg kO lW kJ
 Ik:cJ K mg jQ qU kh
 Ku:cJ K mg lM tG mD
 Dz:cJ K mg h_ mW iD
 Qp:cJ K mg n6 vh nP
 adG:cJ K mg tX R7 tU
 Zb:cJ K mg fj GJ eZ
 aho:cJ K mg Hr Zy Hv
 Xf:cJ K mg oK Hq oN
 PL:cJ K mg nJ vZ nu
 NK:cJ K mg lN m6 lR
 abw:cJ K mg zM wY Az
 aaS:cJ K mg Ar Ms z6
 afi:cJ K mg JW WW K4
 adW:cJ K mg Ey yt Eh
 aam:cJ K mg zR EY Aw
 aaK:cJ K mg z9 zm Ah
 aeo:cJ K mg El Mg Eb
 Xj:cJ K mg xq Fp wZ
 abb:cJ K mg zG Ly Bm
 aeb:cJ K mg Em S8 Eo
 RJ:cJ K mg qw yH qD
 aa4:cJ K mg Al K5 zH
 ab5:cJ K mg Bo Eu Bh
 abo:cJ K mg Bu Mx Bf
def Fam(D:Adr)(C:Addr):Prop:=C=D.Door\/C=D.Sure\/C=D.Mixed\/C=D.Toss\/C=D.Even\/C=D.Hall
theorem Txt.cl{K:Frag}{mg:Str->Ω}{D:Adr}(T:Txt K mg D):∀C,Fam D C->Cls K C:=by
 rintro C (rfl|rfl|rfl|rfl|rfl|rfl)
 .exact T.Zf
 .exact T.Zc
 .exact T.Wo
 .exact T.Ww
 .exact T.W8
 .exact T.o7
theorem Txt.yW{K:Frag}{mg:Str->Ω}{D:Adr}(T:Txt K mg D):∀C,Fam D C->cj K C "leads":=by
 rintro C (rfl|rfl|rfl|rfl|rfl|rfl)
 .exact T.Ie
 .exact T.Il
 .exact T.Hx
 .exact T.Im
 .exact T.Ig
 .exact T.HS
theorem Txt.Ep{K:Frag}{mg:Str->Ω}{D:Adr}(T:Txt K mg D):∀C,Fam D C->cj K C "name":=by
 rintro C (rfl|rfl|rfl|rfl|rfl|rfl)
 .exact T.Ky
 .exact T.Ml
 .exact T.Ia
 .exact T.Lj
 .exact T.K9
 .exact T.KD
theorem Txt.yQ{K:Frag}{mg:Str->Ω}{D:Adr}(T:Txt K mg D):∀C,Fam D C->cj K C "numbers":=by
 rintro C (rfl|rfl|rfl|rfl|rfl|rfl)
 .exact T.DX
 .exact T.Ds
 .exact T.Cr
 .exact T.DR
 .exact T.Dl
 .exact T.DK
theorem Txt.Fv{K:Frag}{mg:Str->Ω}{D:Adr}(T:Txt K mg D):∀C,Fam D C->cj K C "offered":=by
 rintro C (rfl|rfl|rfl|rfl|rfl|rfl)
 .exact T.DW
 .exact T.DP
 .exact T.Ce
 .exact T.Dv
 .exact T.Dq
 .exact T.DQ
theorem Txt.Yu{K:Frag}{mg:Str->Ω}{D:Adr}(T:Txt K mg D):∀C,Fam D C->cj K C "pay":=by
 rintro C (rfl|rfl|rfl|rfl|rfl|rfl)
 .exact T.Oh
 .exact T.Py
 .exact T.Nh
 .exact T.Qj
 .exact T.Qy
 .exact T.QK
theorem Txt.Gp{K:Frag}{mg:Str->Ω}{D:Adr}(T:Txt K mg D):∀C,Fam D C->cj K C "share":=by
 rintro C (rfl|rfl|rfl|rfl|rfl|rfl)
 .exact T.HX
 .exact T.HD
 .exact T.Gz
 .exact T.Jf
 .exact T.Je
 .exact T.HY
def cW(D:Adr)(C:Addr):Prop:=C=D.Door\/C=D.Sure\/C=D.Mixed\/C=D.Toss\/C=D.Even
theorem cW.fam{D:Adr}{C:Addr}(h:cW D C):Fam D C:=by
 unfold cW at h;unfold Fam;rcases h with h|h|h|h|h<;>simp[h]
theorem Txt.J7{K:Frag}{mg:Str->Ω}{D:Adr}(T:Txt K mg D):∀C,cW D C->Meth K C "ways" D.Door_ways:=by
 rintro C (rfl|rfl|rfl|rfl|rfl)
 .exact T.KZ
 .exact T.Li
 .exact T.HW
 .exact T.JV
 .exact T.Kr
section
variable{P:Program}{w:World}{K:Frag}{mg:Str->Ω}{base:Heap}{D:Adr}{f:Addr}{fd:FuncData}
noncomputable abbrev frT(f:Β):T:=.tup [.int f.1,.int f.2]
noncomputable def isW:T->Option Bool
 |.int _=>some true
 |.bl _=>some false
 |.non=>some false
 |.str _=>some false
 |.tup _=>some false
 |.lst _=>some false
 |_=>none
def mL:ST:=λts q=>∃t b,ts=[t]/\isW t=some b/\q (.fz (.bl b))
theorem QM(F:Fun K gM gM yJ f fd)(T:Txt K mg D):b_ P w K mg base CX0 1 f fd gW (spT K mL):=by
 refine F.okT Oj (λts R hP=>by obtain⟨t,b,e,_⟩:=hP;exact e ▸ rfl) λcdv A outer s H E hr=>?_;refine⟨_,(bG (bN (Ni (mX .int (qv 0) (by rfl) T.cX (by rfl) T.W4 boot_int) (KQ (aeN (mX .bool (qv 0) (by rfl) T.cX (by rfl) T.Xg boot_bool)))))),?_⟩;rintro _ R ⟨t,b,rfl,h,q⟩;cases t<;>cases h<;>exact q
def lH:ST:=λts q=>∃a b,ts=[.int a,.int b]/\q (.fz (.int (Int.gcd a b)))
theorem RB(F:Fun K gO gO Cz f fd)(T:Txt K mg D):b_ P w K mg base CX0 1 f fd gK (spT K lH):=by
 refine F.okT lJ (λts R hP=>by obtain⟨t,b,e,_⟩:=hP;exact e ▸ rfl) λcdv A outer s H E hr=>?_;refine⟨_,(bF (bO 2 lJ.nd (Or.inl rfl) (bT GX (by rfl) T.P_ boot_abs (bx (qv 0) bC)))
  (bF (bO 3 lJ.nd (Or.inl rfl) (bT GX (by rfl) T.P_ boot_abs (bx (qv 1) bC)))
  (bF (FZ PassesOwn.never (bZ (lA hr.units) (qv 3) bA)
  (bF (bO 4 lJ.nd (Or.inl rfl) (bL cA (qv 2) (qv 3)))
  (bF (bO 2 lJ.nd (Or.inl rfl) (qv 3))
  (bG (bO 3 lJ.nd (Or.inl rfl) (qv 4))))))
  (bG (bN (qv 2)))))),?_⟩
 rintro _ R ⟨a,b,rfl,q⟩;refine⟨λm o=>∃(l r:Nat)(x:OT),o=[.fz (.int a),.fz (.int b),.fz (.int l),.fz (.int r),x]/\Nat.gcd l r=Int.gcd a b/\m=r,⟨_,_,_,_,rfl,rfl,rfl⟩,?_⟩;rintro m _ ⟨l,r,x,rfl,hg,hm⟩;refine sw2 (λh=>?_) λh=>?_
 .have hr:r≠0:=by intro z;subst z;cases h
  refine⟨λo=>∃x,o=[.fz (.int a),.fz (.int b),.fz (.int r),.fz (.int ((l%r:Nat):Int)),x],?_,?_⟩
  .rintro _ ⟨x,rfl⟩;exact⟨l%r,by have:=Nat.mod_lt l (Nat.pos_of_ne_zero hr);lia,r,l%r,x,rfl,(Nat.gcd_comm r (l%r)).trans ((Nat.gcd_rec r l).symm.trans ((Nat.gcd_comm r l).trans hg)),rfl⟩
  .exact⟨by lia,_,by rw[Int.natCast_emod];rfl⟩
 .have hr:r=0:=by
   by_cases z:r=0
   .exact z
   .have:(decide ((r:Int)=0))=false:=Zp (by lia);rw[show xr true (decide ((r:Int)=0)) = !decide ((r:Int)=0)from rfl,this]at h;cases h
  subst hr;rw[Nat.gcd_zero_right]at hg;rw[<- hg]at q;exact q
structure Low(t b x y:Int):Prop where
 pos:0<y
 gcd:Int.gcd x y=1
 eq:x*b=t*y
 lx:x.natAbs<=t.natAbs
 ly:y.natAbs<=b.natAbs
theorem FP{c q:Int}(h:c≠0):Int.fdiv (c*q) c=q:=by
 rw[Int.fdiv_eq_ediv_of_dvd (Int.dvd_mul_right c q),Int.mul_ediv_cancel_left _ h]
theorem Ga{c q:Int}(h:c≠0):q.natAbs<=(c*q).natAbs:=by
 rw[Int.natAbs_mul];exact Nat.le_mul_of_pos_left _ (by lia)
theorem v7{t b c:Int}(hb:b≠0)(hc:c≠0)(hg:c.natAbs=Int.gcd t b)(hs:0<c*b):Low t b (Int.fdiv t c) (Int.fdiv b c):=by
 have d1:c ∣ t:=Int.natAbs_dvd.mp (by rw[hg];exact Int.gcd_dvd_left t b);have d2:c ∣ b:=Int.natAbs_dvd.mp (by rw[hg];exact Int.gcd_dvd_right t b);obtain⟨x,rfl⟩:=d1;obtain⟨y,rfl⟩:=d2;rw[FP hc,FP hc];refine⟨?_,?_,?_,Ga hc,Ga hc⟩
 .rw[<- Int.mul_assoc]at hs;have hp:0<c*c:=by
   rcases Int.lt_or_lt_of_ne hc with z|z
   .exact Int.mul_pos_of_neg_of_neg z z
   .exact XZ z z
  exact Int.pos_of_mul_pos_right hs hp
 .rw[Int.gcd_mul_left]at hg;have hp:0<c.natAbs:=by lia
  exact Nat.eq_of_mul_eq_mul_left hp (by rw[Nat.mul_one];exact hg.symm)
 .rw[Int.mul_left_comm,Int.mul_assoc]
theorem mj{a b:Int}(hb:b≠0):(0:Int)<(Int.gcd a b:Nat):=by
 have:=Int.gcd_pos_of_ne_zero_right a hb;lia
theorem Jx{i j:Int}(h:i.natAbs<=j.natAbs)(k:Bd j):Bd i:=Y3 h k
theorem XQ{i:Int}(h:Bd i):Bd (-i):=by unfold Bd at *;rw[Int.natAbs_neg];exact h
theorem Rn{a b:Int}(hb:b≠0)(h:Bd b):Bd ((Int.gcd a b:Nat):Int):=Jx (by
 have:=Nat.le_of_dvd (by lia) (Int.gcd_dvd_natAbs_right a b);omega) h
def rQ:ST:=λts q=>∃t b,ts=[.int t,.int b]/\b≠0/\Bd b/\∀x y,Low t b x y->q (.fz (frT (x,y)))
theorem Yj(F:Fun K mF mF Le f fd)(T:Txt K mg D)(dg:OkT P w K mg base 1 gM gW mL)(dN:OkT P w K mg base 1 gO gK lH):b_ P w K mg base CX0 2 f fd mQ (spT K rQ):=by
 refine F.okT G4 (λts R hP=>by obtain⟨t,b,e,_⟩:=hP;exact e ▸ rfl) λcdv A outer s H E hr=>?_;refine⟨_,(bF (cB (QW.qt (iM (dO (cT (bI dg hr.md (by rfl) (bx (qv 0) bC)))) (fW (dO (cT (bI dg hr.md (by rfl) (bx (qv 1) bC)))))))
  (bG fH)
  bR)
  (bF (cB (bZ (go_eq hr.units) (qv 1) bA)
  (bG fH)
  bR)
  (bF (bO 2 G4.nd (Or.inl rfl) (bI dN hr.md (by rfl) (bx (qv 0) (bx (qv 1) bC))))
  (bF (cB (bZ vQ (qv 1) bA)
  (bG (bO 2 G4.nd (Or.inl rfl) (FJ (qv 2))))
  bR)
  (bG (bN (dh (bx (bL lD (qv 0) (qv 2)) (bx (bL lD (qv 1) (qv 2)) bC))))))))),?_⟩
 rintro _ R ⟨t,b,rfl,hb,hd,q⟩;refine⟨_,_,rfl,rfl,_,_,rfl,rfl,?_⟩;have g0:=mj (a:=t) hb;have g1:=Rn (a:=t) hb hd;refine swF (Zp hb) ⟨_,_,rfl,swD (λhn=>⟨⟨by omega,XQ g1⟩,⟨by omega,XQ g1⟩,q _ _ (v7 hb (by omega) (by lia) (Int.mul_pos_of_neg_of_neg (by lia) hn))⟩) λhn=>⟨⟨by exact Int.ne_of_gt g0,g1⟩,⟨by exact Int.ne_of_gt g0,g1⟩,q _ _ (v7 hb (Int.ne_of_gt g0) (by lia) (XZ g0 (by lia)))⟩⟩
noncomputable abbrev frR(r:Rat):T:=.tup [.int r.num,.int r.den]
theorem iG{t b x y:Int}(h:Low t b x y)(hb:b≠0):frT (x,y)=frR (Rat.divInt t b):=by
 have hy:=h.pos;have e:Rat.divInt t b=⟨x,y.toNat,by lia,by have:=h.gcd;unfold Int.gcd at this;rw[show y.toNat=y.natAbs by lia];exact this⟩:=by
  rw[Rat.mk_eq_divInt,show((y.toNat:Nat):Int)=y by exact Int.toNat_of_nonneg (XY hy)];exact(Rat.divInt_eq_divInt_iff hb (Int.ne_of_gt hy)).mpr h.eq.symm
 rw[e];show T.tup [.int x,.int y]=.tup [.int x,.int (y.toNat:Nat)];rw[show((y.toNat:Nat):Int)=y by exact Int.toNat_of_nonneg (XY hy)]
theorem rd(r:Rat):Rat.divInt r.num r.den=r:=Rat.num_divInt_den r
theorem lg(r:Rat):((r.den:Nat):Int)≠0:=by have:=r.den_pos;lia
def Bq(r:Rat):Prop:=Bd r.num/\Bd (r.den:Nat)
def Ka:ST:=λts q=>∃a b:Rat,ts=[frR a,frR b]/\Bq a/\Bq b/\Bd ((a.den:Int)*b.den)/\q (.fz (frR (a+b)))
def zc:ST:=λts q=>∃a b:Rat,ts=[frR a,frR b]/\Bq a/\Bq b/\Bd ((a.den:Int)*b.den)/\q (.fz (frR (a-b)))
def GD:ST:=λts q=>∃a b:Rat,ts=[frR a,frR b]/\Bq a/\Bq b/\Bd ((a.den:Int)*b.den)/\q (.fz (frR (a*b)))
def Uc:ST:=λts q=>∃a b:Rat,ts=[frR a,frR b]/\b≠0/\Bq a/\Bq b/\Bd ((a.den:Int)*b.num)/\q (.fz (frR (a/b)))
def vG:ST:=λts q=>∃a b:Rat,ts=[frR a,frR b]/\Bq a/\Bq b/\q (.fz (.bl (decide (a<b))))
theorem mV{a b:Int}(ha:a≠0)(hb:b≠0):a*b≠0:=λz=>(Int.mul_eq_zero.mp z).elim ha hb
section
variable(dH:OkT P w K mg base 2 mF mQ rQ)
include dH
theorem ZX(F:Fun K zY zY Td f fd):b_ P w K mg base CX0 3 f fd Ax (spT K Ka):=by
 refine F.okT abh (λts R hP=>by obtain⟨t,b,e,_⟩:=hP;exact e ▸ rfl) λcdv A outer s H E hr=>?_;refine⟨_,(bG (bN (bI dH hr.md (by rfl) (bx (bL cN (bL cV (bJ (qv 0) bA) (bJ (qv 1) bA)) (bL cV (bJ (qv 1) bA) (bJ (qv 0) bA))) (bx (bL cV (bJ (qv 0) bA) (bJ (qv 1) bA)) bC))))),?_⟩;rintro _ R ⟨a,b,rfl,ha,hb,hd,q⟩;refine⟨⟨ha.1,hb.2⟩,⟨hb.1,ha.2⟩,⟨ha.2,hb.2⟩,_,_,rfl,mV (lg a) (lg b),hd,λx y l=>?_⟩;rw[iG l (mV (lg a) (lg b)),<- Rat.divInt_add_divInt _ _ (lg a) (lg b),rd,rd];exact q
theorem ZF(F:Fun K rM rM NZ f fd):b_ P w K mg base CX0 3 f fd rN (spT K zc):=by
 refine F.okT WT (λts R hP=>by obtain⟨t,b,e,_⟩:=hP;exact e ▸ rfl) λcdv A outer s H E hr=>?_;refine⟨_,(bG (bN (bI dH hr.md (by rfl) (bx (bL qY (bL cV (bJ (qv 0) bA) (bJ (qv 1) bA)) (bL cV (bJ (qv 1) bA) (bJ (qv 0) bA))) (bx (bL cV (bJ (qv 0) bA) (bJ (qv 1) bA)) bC))))),?_⟩;rintro _ R ⟨a,b,rfl,ha,hb,hd,q⟩;refine⟨⟨ha.1,hb.2⟩,⟨hb.1,ha.2⟩,⟨ha.2,hb.2⟩,_,_,rfl,mV (lg a) (lg b),hd,λx y l=>?_⟩;rw[iG l (mV (lg a) (lg b)),<- Rat.divInt_sub_divInt _ _ (lg a) (lg b),rd,rd];exact q
theorem Xp(F:Fun K uE uE LQ f fd):b_ P w K mg base CX0 3 f fd vK (spT K GD):=by
 refine F.okT XR (λts R hP=>by obtain⟨t,b,e,_⟩:=hP;exact e ▸ rfl) λcdv A outer s H E hr=>?_;refine⟨_,(bG (bN (bI dH hr.md (by rfl) (bx (bL cV (bJ (qv 0) bA) (bJ (qv 1) bA)) (bx (bL cV (bJ (qv 0) bA) (bJ (qv 1) bA)) bC))))),?_⟩;rintro _ R ⟨a,b,rfl,ha,hb,hd,q⟩;refine⟨⟨ha.1,hb.1⟩,⟨ha.2,hb.2⟩,_,_,rfl,mV (lg a) (lg b),hd,λx y l=>?_⟩;rw[iG l (mV (lg a) (lg b)),<- Rat.divInt_mul_divInt,rd,rd];exact q
theorem aau(F:Fun K D_ D_ Rp f fd):b_ P w K mg base CX0 3 f fd Ea (spT K Uc):=by
 refine F.okT abS (λts R hP=>by obtain⟨t,b,e,_⟩:=hP;exact e ▸ rfl) λcdv A outer s H E hr=>?_;refine⟨_,(bG (bN (bI dH hr.md (by rfl) (bx (bL cV (bJ (qv 0) bA) (bJ (qv 1) bA)) (bx (bL cV (bJ (qv 0) bA) (bJ (qv 1) bA)) bC))))),?_⟩;rintro _ R ⟨a,b,rfl,h0,ha,hb,hd,q⟩;have nb:b.num≠0:=λz=>h0 (by rw[<- rd b,z];exact Rat.zero_divInt _);refine⟨⟨ha.1,hb.2⟩,⟨ha.2,hb.1⟩,_,_,rfl,mV (lg a) nb,hd,λx y l=>?_⟩;rw[iG l (mV (lg a) nb),<- Rat.divInt_mul_divInt,rd,<- Rat.inv_def,<- Rat.div_def];exact q
end
theorem Yv(F:Fun K pL pL Nq f fd):b_ P w K mg base CX0 1 f fd pF (spT K vG):=by
 refine F.okT Zi (λts R hP=>by obtain⟨t,b,e,_⟩:=hP;exact e ▸ rfl) λcdv A outer s H E hr=>?_;refine⟨_,(bG (bN (oV vQ (bL cV (bJ (qv 0) bA) (bJ (qv 1) bA)) (bL cV (bJ (qv 1) bA) (bJ (qv 0) bA))))),?_⟩;rintro _ R ⟨a,b,rfl,ha,hb,q⟩;refine⟨⟨ha.1,hb.2⟩,⟨hb.1,ha.2⟩,?_⟩;rw[show decide (a<b)=decide (a.num*(b.den:Int)<b.num*(a.den:Int))from decide_eq_decide.mpr (Rat.lt_iff a b)]at q;exact q
def pY:ST:=λts q=>∃r:Rat,ts=[frR r]/\q (.fz (.bl true))
theorem O6(F:Fun K jG jG yq f fd)(T:Txt K mg D)(dg:OkT P w K mg base 1 gM gW mL)(dN:OkT P w K mg base 1 gO gK lH):b_ P w K mg base CX0 2 f fd jF (spT K pY):=by
 refine F.okT vD (λts R hP=>by obtain⟨t,e,_⟩:=hP;exact e ▸ rfl) λcdv A outer s H E hr=>?_;refine⟨_,(bF (cB (QW.qt (iM (dO (cT (mX .tuple (qv 0) (by rfl) T.cX (by rfl) T.J9 boot_tuple))) (fW (bZ (lA hr.units) (bT cU (by rfl) T.dU PySem.boot_len (bx (qv 0) bC)) bA))))
  (bG (bN pI))
  bR)
  (bF (bO 1 vD.nd (Or.inl rfl) (bJ (qv 0) bA))
  (bF (bO 2 vD.nd (Or.inl rfl) (bJ (qv 0) bA))
  (bF (cB (QW.qt (iM (dO (cT (bI dg hr.md (by rfl) (bx (qv 1) bC)))) (fW (dO (cT (bI dg hr.md (by rfl) (bx (qv 2) bC)))))))
  (bG (bN pI))
  bR)
  (bG (bN (Ni (oV ace (qv 2) bA) (KQ (oV (go_eq hr.units) (bI dN hr.md (by rfl) (bx (qv 1) (bx (qv 2) bC))) bA))))))))),?_⟩
 rintro _ R ⟨r,rfl,q⟩;refine⟨_,_,rfl,rfl,_,_,rfl,rfl,?_⟩;have:=r.den_pos;refine swT (Zs (by lia)) ⟨_,_,rfl,?_⟩;rw[show Int.gcd r.num r.den=1 from r.reduced];exact q
noncomputable def alC:List Rat->Nat
 |[]=>1
 |r::rs=>Nat.lcm r.den (alC rs)
noncomputable def cL(n:Nat):List Rat->Nat
 |[]=>n
 |r::rs=>cL (Nat.lcm n r.den) rs
theorem fP:∀(rs:List Rat){n:Nat},0<n->0<cL n rs
 |[],_,h=>h
 |r::rs,_,h=>fP rs (Nat.lcm_pos h r.den_pos)
theorem gZ:∀(rs:List Rat){n:Nat},n ∣ cL n rs/\∀r∈rs,r.den ∣ cL n rs
 |[],n=>⟨Nat.dvd_refl n,λ_ z=>(nomatch z)⟩
 |r::rs,n=>by
  obtain⟨a,b⟩:=gZ rs (n:=Nat.lcm n r.den);refine⟨Nat.dvd_trans (Nat.dvd_lcm_left ..) a,λx hx=>?_⟩;rcases YU.mp hx with rfl|z
  .exact Nat.dvd_trans (Nat.dvd_lcm_right ..) a
  .exact b x z
theorem pq:∀(rs:List Rat){n m:Nat},n ∣ m->(∀r∈rs,r.den ∣ m)->cL n rs ∣ m
 |[],_,_,h,_=>h
 |r::rs,_,_,h,k=>pq rs (Nat.lcm_dvd h (k r (aO ..))) λx hx=>k x (aJ _ hx)
theorem G8:∀(as bs:List Rat)(n:Nat),cL n (as++bs)=cL (cL n as) bs
 |[],_,_=>rfl
 |_::as,bs,_=>G8 as bs _
noncomputable def tops(B:Nat)(rs:List Rat):List Int:=rs.map λr=>r.num*((B/r.den:Nat):Int)
theorem Lw{m n:Nat}(h:Bd (n:Int))(l:m<=n):Bd (m:Int):=Jx (by omega) h
theorem W9(n d:Nat):(Int.fdiv (n:Int) ((Int.gcd n d:Nat):Int))*d=((Nat.lcm n d:Nat):Int):=by
 rw[show Int.gcd (n:Int) (d:Int)=Nat.gcd n d from rfl,Int.fdiv_eq_ediv_of_dvd (Int.natCast_dvd_natCast.mpr (Nat.gcd_dvd_left n d)),<- Int.natCast_ediv,<- Int.natCast_mul,Nat.lcm,Nat.div_mul_right_comm (Nat.gcd_dvd_left n d)]
theorem Gb(m n:Nat):Int.fdiv (m:Int) (n:Int)=((m/n:Nat):Int):=by rw[Int.fdiv_eq_ediv_of_nonneg _ (X9 _)];rfl
def vH:ST:=λts q=>∃rs:List Rat,ts=[.lst (rs.map frR)]/\rs.length<=1000/\(∀r∈rs,Bd r.num)/\Bd (cL 1 rs:Nat)/\q (.fz (.tup [.lst ((tops (cL 1 rs) rs).map T.int),.int (cL 1 rs:Nat)]))
theorem Yl(F:Fun K oR oR Fb f fd)(dN:OkT P w K mg base 1 gO gK lH):b_ P w K mg base CX0 2 f fd oW (spT K vH):=by
 refine F.okT zu (λts R hP=>by obtain⟨t,e,_⟩:=hP;exact e ▸ rfl) λcdv A outer s H E hr=>?_;refine⟨_,(bF (bO 1 zu.nd (Or.inr rfl) bA)
  (bF (dM PassesOwn.never rfl (cH (qv 0)) (bY (n:=99) 2 zu.nd (Or.inl rfl))
  (bG (bO 1 zu.nd (Or.inr rfl) (bL cV (bL lD (qv 1) (bI dN hr.md (by rfl) (bx (qv 1) (bx (bJ (qv 2) bA) bC)))) (bJ (qv 2) bA)))))
  (bG (bN (dh (bx (dG (bH Fb) Tw ["fractions","bottom","?one"] ["one"] (cH (qv 0)) (fu (i:=0)) cD (bL cV (bJ (qv 0) bA) (bL lD (qv 2) (bJ (qv 0) bA)))) (bx (qv 1) bC))))))),?_⟩
 rintro _ R ⟨rs,rfl,rl,hn,hB,q⟩;refine gk frR rs (λas o=>∃x,o=[.fz (.lst (rs.map frR)),.fz (.int (cL 1 as:Nat)),x]) ⟨_,rfl⟩ ?_ ?_
 .rintro as a bs _ e ⟨x,rfl⟩;have d1:=(gZ (a::bs) (n:=cL 1 as)).1;have el:cL 1 rs=cL (cL 1 as) (a::bs):=by rw[e];exact G8 as (a::bs) 1
  have hp:=fP as Nat.one_pos;have hB0:=fP rs Nat.one_pos;have b1:Bd (cL 1 as:Nat):=Lw hB (el ▸ Nat.le_of_dvd (el ▸ hB0) d1);have b2:Bd (a.den:Nat):=Lw hB (Nat.le_of_dvd hB0 ((gZ rs).2 a (e ▸ by simp)));refine⟨_,_,rfl,⟨by have:=mj (a:=(cL 1 as:Nat)) (lg a);exact Int.ne_of_gt this,Rn (lg a) b2⟩,⟨Jx ?_ b1,b2⟩,.fz (frR a),?_⟩
  .rw[show Int.gcd ((cL 1 as:Nat):Int) (a.den:Int)=Nat.gcd (cL 1 as) a.den from rfl,Gb];exact Nat.div_le_self ..
  .rw[W9,G8]
   rfl
 .rintro _ ⟨x,rfl⟩;refine⟨aL (by simpa using rl) (by decide),comp_map frR (λr=>.int (r.num*((cL 1 rs/r.den:Nat):Int))) rs (λr hr N M hN=>?_) ?_⟩
  .have b2:Bd (r.den:Nat):=Lw hB (Nat.le_of_dvd (fP rs Nat.one_pos) ((gZ rs).2 r hr));refine⟨⟨lg r,b2⟩,⟨hn r hr,Jx ?_ hB⟩,?_⟩
   .rw[Gb];exact Nat.div_le_self ..
   .rw[Gb];exact hN
  .have:(tops (cL 1 rs) rs).map T.int=rs.map (λr=>.int (r.num*((cL 1 rs/r.den:Nat):Int))):=by unfold tops;rw[List.map_map];rfl
   rw[this]at q;exact q
noncomputable def T9(l:List Nat):Bool:=decide (1<=l.length)&&decide (l.length<=8)&&l.all λc=>decide (97<=c)&&decide (c<=122)
abbrev Wd(n:Str):Prop:=T9 n.cps.toList=true
theorem Wd.len{n:Str}(h:Wd n):1<=n.length/\n.length<=8:=by
 unfold Wd T9 at h;simp only[Bool.and_eq_true,decide_eq_true_eq,Array.length_toList]at h;exact h.1
theorem TV(c d:Nat):(!decide ((⟨#[d]⟩ : Str).cps.toList<(⟨#[c]⟩ : Str).cps.toList))=decide (c<=d):=by
 have:((⟨#[d]⟩ : Str).cps.toList<(⟨#[c]⟩ : Str).cps.toList)↔d<c:=by
  show[d]<[c]↔d<c;constructor
  .intro h;cases h with
   |rel h=>exact h
   |cons h=>cases h
  .exact λh=>.rel h
 rw[show decide ((⟨#[d]⟩ : Str).cps.toList<(⟨#[c]⟩ : Str).cps.toList)=decide (d<c)from decide_eq_decide.mpr this];by_cases h:c<=d
 .rw[Zs h,Zp (Nat.not_lt_of_le h)];rfl
 .rw[Zp h,Zs (Nat.lt_of_not_le h)];rfl
def tW:ST:=λts q=>∃n:Str,ts=[.str n]/\Wd n/\q (.fz (.bl true))
theorem S7(F:Fun K lF lF xG f fd)(T:Txt K mg D):b_ P w K mg base CX0 1 f fd lE (spT K tW):=by
 refine F.okT Rg (λts R hP=>by obtain⟨t,e,_⟩:=hP;exact e ▸ rfl) λcdv A outer s H E hr=>?_;refine⟨_,(bF (cB (QW.qt (iM (dO (cT (mX .str (qv 0) (by rfl) T.cX (by rfl) T.ag5 boot_str))) (fW (dO (O5 N7 N7 bA (bT Z_ (by rfl) T.dU PySem.boot_len (bx (qv 0) bC)) (X4 (by rfl) T.Ft λ_=>.int _))))))
  (bG (bN pI))
  bR)
  (bG (bN (bT (Yr rfl) (by rfl) T.acL boot_all (bx (dG (bH xG) Cp Cp ["sign"] (acX (qv 0)) (fu (i:=0)) cD (Qw Zu Zu tD (qv 0) tD)) bC))))),?_⟩
 rintro _ R ⟨n,rfl,hw,q⟩;obtain⟨l1,l8⟩:=hw.len;refine⟨aL l8 (by decide),swT (Zs (by lia)) (swF (by rw[Zs (show((n.length:Nat):Int)<=8 by lia)];rfl) ⟨by rw[ak];exact aL l8 (by decide),comp_map (λc=>.str ⟨#[c]⟩) (λc=>.bl (decide (97<=c)&&decide (c<=122))) n.cps.toList (λc _ N M hN=>?_) ⟨n.cps.toList.map λc=>decide (97<=c)&&decide (c<=122),by rw[List.map_map];rfl,?_⟩⟩)⟩
 .have e1:(!decide ((⟨#[c]⟩ : Str).cps.toList<("a":Str).cps.toList))=decide (97<=c):=by rw[show("a":Str)=⟨#[97]⟩from by decide +kernel];exact TV 97 c
  have e2:(!decide (("z":Str).cps.toList<(⟨#[c]⟩ : Str).cps.toList))=decide (c<=122):=by rw[show("z":Str)=⟨#[122]⟩from by decide +kernel];exact TV c 122
  refine sw2 (λh=>?_) λh=>?_
  .rw[<- e1,h,<- e2]at hN;exact hN
  .rw[<- e1,h]at hN;exact hN
 .have:((n.cps.toList.map λc=>decide (97<=c)&&decide (c<=122)).all λb=>b)=true:=by
   unfold Wd T9 at hw;rw[Bool.and_eq_true]at hw;rw[List.all_map];exact hw.2
  rw[<- this]at q;exact q
def rG:ST:=λts q=>∃(n:Str)(r:Rat),ts=[.str n,frR r]/\Wd n/\q (.fz .non)
theorem IW(F:Fun K iW iW t_ f fd)(iB:OkT P w K mg base 1 lF lE tW)(fZ:OkT P w K mg base 2 jG jF pY):b_ P w K mg base CX0 3 f fd iZ (spT K rG):=by
 refine F.okT Iz (λts R hP=>by obtain⟨t,r,e,_⟩:=hP;exact e ▸ rfl) λcdv A outer s H E hr=>?_;refine⟨_,(bF (cB (dO (cT (bI iB hr.md (by rfl) (bx (qv 0) bC))))
  (bG fH)
  bR)
  (bG (cB (dO (cT (bI fZ hr.md (by rfl) (bx (qv 1) bC))))
  (bG fH)
  bR))),?_⟩
 rintro _ R ⟨n,r,rfl,hw,q⟩;exact⟨_,rfl,hw,_,rfl,q⟩
def jx:ST:=λts q=>∃n:Str,ts=[.str n]/\Wd n/\q (.fz .non)
theorem yp(F:Fun K eN eN j_ f fd)(iB:OkT P w K mg base 1 lF lE tW):b_ P w K mg base CX0 2 f fd eF (spT K jx):=by
 refine F.okT yN (λts R hP=>by obtain⟨t,e,_⟩:=hP;exact e ▸ rfl) λcdv A outer s H E hr=>?_;refine⟨_,(bG (cB (dO (cT (bI iB hr.md (by rfl) (bx (qv 0) bC))))
  (bG fH)
  bR)),?_⟩
 rintro _ R ⟨n,rfl,hw,q⟩;exact⟨_,rfl,hw,q⟩
def Ch(r:Rat):Prop:=0<=r/\r<=1/\Bd (r.den:Nat)
theorem Ch.bq{r:Rat}(h:Ch r):Bq r:=by
 have h0:=Rat.num_nonneg.mpr h.1;have h1:=(Rat.le_iff r 1).mp h.2.1;exact⟨Jx (by have:r.num*((1:Rat).den:Int)<=(1:Rat).num*(r.den:Int):=h1;simp at this;omega) h.2.2,h.2.2⟩
theorem bq0:Bq 0:=⟨Nat.two_pow_pos 8000,Nat.one_lt_two_pow (by decide)⟩
theorem bq1:Bq 1:=⟨Nat.one_lt_two_pow (by decide),Nat.one_lt_two_pow (by decide)⟩
def mZ:ST:=λts q=>∃r:Rat,ts=[frR r]/\Ch r/\q (.fz .non)
theorem Dw(F:Fun K gq gq pA f fd)(T:Txt K mg D)(fZ:OkT P w K mg base 2 jG jF pY)(gG:OkT P w K mg base 1 pL pF vG):b_ P w K mg base CX0 3 f fd gn (spT K mZ):=by
 refine F.okT Dk (λts R hP=>by obtain⟨t,e,_⟩:=hP;exact e ▸ rfl) λcdv A outer s H E hr=>?_;refine⟨_,(bG (cB (QW.qt (iM (dO (cT (bI fZ hr.md (by rfl) (bx (qv 0) bC)))) (iM (cT (bI gG hr.md (by rfl) (bx (qv 0) (bx (lB (by rfl) T.jg T.gC) bC)))) (fW (cT (bI gG hr.md (by rfl) (bx (lB (by rfl) T.CT T.uW) (bx (qv 0) bC))))))))
  (bG fH)
  bR)),?_⟩
 rintro _ R ⟨r,rfl,hc,q⟩;refine⟨_,rfl,r,0,rfl,hc.bq,bq0,?_⟩;rw[Zp (Rat.not_lt.mpr hc.1)];refine⟨1,r,rfl,bq1,hc.bq,?_⟩;rw[Zp (Rat.not_lt.mpr hc.2.1)];exact q
noncomputable def Ao(rs:List Rat):Rat:=rs.foldr (· + ·) 0
theorem Ox{B:Nat}(hB:B≠0):∀{rs:List Rat},(∀r∈rs,r.den ∣ B)->Rat.divInt (tops B rs).sum B=Ao rs
 |[],_=>by show Rat.divInt 0 _=0;exact Rat.zero_divInt _
 |r::rs,h=>by
  have ih:=Ox hB (rs:=rs) λx hx=>h x (aJ _ hx);have hB':((B:Nat):Int)≠0:=by lia
  obtain⟨m,hm⟩:=h r (aO ..);show Rat.divInt (r.num*((B/r.den:Nat):Int)+(tops B rs).sum) B=r+Ao rs;have e1:r+Ao rs=Rat.divInt (r.num*B+(tops B rs).sum*r.den) (r.den*B):=by rw[<- Rat.divInt_add_divInt _ _ (lg r) hB',rd,ih]
  rw[e1];refine(Rat.divInt_eq_divInt_iff hB' (mV (lg r) hB')).mpr ?_;have:B/r.den=m:=by rw[hm];exact Nat.mul_div_cancel_left _ r.den_pos
  rw[this,hm];simp only[Int.natCast_mul]
  grind
def Oc:ST:=λts q=>∃rs:List Rat,ts=[.lst (rs.map frR)]/\rs.length<=1000/\(∀r∈rs,Bd r.num)/\Bd (cL 1 rs:Nat)/\q (.fz (frR (Ao rs)))
theorem Yo(F:Fun K zj zj K3 f fd)(T:Txt K mg D)(ju:OkT P w K mg base 2 oR oW vH)(dH:OkT P w K mg base 2 mF mQ rQ):b_ P w K mg base CX0 3 f fd Aj (spT K Oc):=by
 refine F.okT Ot (λts R hP=>by obtain⟨t,e,_⟩:=hP;exact e ▸ rfl) λcdv A outer s H E hr=>?_;refine⟨_,(bF (bO 1 Ot.nd (Or.inl rfl) (bI ju hr.md (by rfl) (bx (qv 0) bC)))
  (bG (bN (bI dH hr.md (by rfl) (bx (bT (Ro rfl) (by rfl) T.Zk boot_sum (bx (bJ (qv 1) bA) bC)) (bx (bJ (qv 1) bA) bC)))))),?_⟩
 rintro _ R ⟨rs,rfl,rl,hn,hB,q⟩;have hp:=fP rs Nat.one_pos;have hz:((cL 1 rs:Nat):Int)≠0:=by lia
 refine⟨rs,rfl,rl,hn,hB,_,rfl,_,_,rfl,hz,hB,λx y l=>?_⟩;rw[iG l hz,Ox (Nat.ne_of_gt hp) (gZ rs).2];exact q
abbrev wyT(p:Str×Rat):T:=.tup [.str p.1,frR p.2]
def uQ:ST:=λts q=>∃ps:List (Str×Rat),ts=[.lst (ps.map wyT)]/\ps.length<=1000/\(∀p∈ps,Wd p.1/\Ch p.2)/\Bd (cL 1 (ps.map (·.2)):Nat)/\Ao (ps.map (·.2))=1/\q (.fz .non)
theorem Gu(F:Fun K j8 j8 mq f fd)(T:Txt K mg D)(dY:OkT P w K mg base 2 eN eF jx)(fL:OkT P w K mg base 3 gq gn mZ)(Km:OkT P w K mg base 3 zj Aj Oc):b_ P w K mg base CX0 4 f fd jY (spT K uQ):=by
 refine F.okT pN (λts R hP=>by obtain⟨t,e,_⟩:=hP;exact e ▸ rfl) λcdv A outer s H E hr=>?_;refine⟨_,(bF (dM PassesOwn.never rfl (cH (qv 0)) (fJ (n:=2) rfl (bU (bY (n:=99) 1 pN.nd (Or.inl rfl)) (bU (bY (n:=99) 2 pN.nd (Or.inl rfl)) dI)))
  (bF (jq (bI dY hr.md (by rfl) (bx (qv 1) bC)))
  (bG (jq (bI fL hr.md (by rfl) (bx (qv 2) bC))))))
  (bG (cB (bZ (lA hr.units) (bI Km hr.md (by rfl) (bx (dG (bH mq) qL qL ["pair"] (cH (qv 0)) (fu (i:=0)) cD (bJ (qv 0) bA)) bC)) (lB (by rfl) T.CT T.uW))
  (bG fH)
  bR))),?_⟩
 rintro _ R ⟨ps,rfl,pl,hp,hB,hs,q⟩;refine gk wyT ps (λ_ o=>∃x y,o=[.fz (.lst (ps.map wyT)),x,y]) ⟨_,_,rfl⟩ ?_ ?_
 .rintro as a bs _ e ⟨x,y,rfl⟩;obtain⟨h1,h2⟩:=hp a (e ▸ by simp);exact⟨rfl,_,rfl,h1,_,rfl,h2,_,_,rfl⟩
 .rintro _ ⟨x,y,rfl⟩;refine⟨aL (by simpa using pl) (by decide),comp_map wyT (λp=>frR p.2) ps (λp _ N M hN=>hN) ⟨ps.map (·.2),by rw[List.map_map];rfl,by simpa using pl,λr hr=>?_,hB,?_⟩⟩
  .obtain⟨p,hp',rfl⟩:=YV.mp hr;exact(hp p hp').2.bq.1
  .rw[hs];exact q
def addW(ws:List (Str×Rat))(p:Str×Rat):List (Str×Rat):=if(ws.any λx=>decide (x.1=p.1))=true then ws.map (λx=>if x.1=p.1 then(x.1,x.2+p.2)else x)else ws++[p]
def jf(ps:List (Str×Rat)):List (Str×Rat):=ps.foldl addW []
noncomputable abbrev wKs(ws:List (Str×Rat)):List Key:=ws.map λx=>.inr x.1
abbrev wTs(ws:List (Str×Rat)):List T:=ws.map λx=>frR x.2
theorem aev(ws:List (Str×Rat))(n:Str):J2 (wKs ws) (.inr n)=ws.any λx=>decide (x.1=n):=by
 unfold J2;rw[List.any_map]
 congr 1
 funext x
 exact decide_eq_decide.mpr ⟨λz=>Sum.inr.inj z,λz=>ZH Sum.inr z⟩
theorem Ri(n:Str):∀ws:List (Str×Rat),oY (wKs ws) (wTs ws) (.inr n)=(ws.find? λx=>decide (x.1=n)).map λx=>frR x.2
 |[]=>rfl
 |x::ws=>by
  show(if(Sum.inr x.1:Key)=.inr n then some (frR x.2)else oY (wKs ws) (wTs ws) (.inr n))=_;by_cases h:x.1=n
  .rw[ZY (ZH Sum.inr h),List.find?_cons_of_pos (p:=λx:Str×Rat=>decide (x.1=n)) (Zs h)];rfl
  .rw[ZZ λz=>h (Sum.inr.inj z),List.find?_cons_of_neg (p:=λx:Str×Rat=>decide (x.1=n)) (by show ¬decide (x.1=n)=true;rw[Zp h];decide),Ri n ws]
noncomputable def yx(ws:List (Str×Rat))(n:Str):Rat:=((ws.find? λx=>decide (x.1=n)).map (·.2)).getD 0
theorem abP(ws:List (Str×Rat))(n:Str):((oY (wKs ws) (wTs ws) (.inr n)).getD (frR 0))=frR (yx ws n):=by
 rw[Ri];unfold yx;cases(ws.find? λx=>decide (x.1=n))<;>rfl
theorem T3{ws:List (Str×Rat)}{n:Str}(nd:(ws.map (·.1)).Nodup){x:Str×Rat}(hx:x∈ws)(e:x.1=n):(ws.find? λy=>decide (y.1=n))=some x:=by
 induction ws with
 |nil=>cases hx
 |cons y ws ih =>
  obtain⟨n1,n2⟩:=List.nodup_cons.mp nd;rcases YU.mp hx with rfl|z
  .exact List.find?_cons_of_pos (p:=λy:Str×Rat=>decide (y.1=n)) (Zs e)
  .rw[List.find?_cons_of_neg (p:=λy:Str×Rat=>decide (y.1=n)) (by show ¬decide (y.1=n)=true;rw[Zp λw=>n1 (YV.mpr ⟨x,z,e.trans w.symm⟩)];decide)];exact ih n2 z
theorem ahn(ws:List (Str×Rat))(p:Str×Rat)(nd:(ws.map (·.1)).Nodup):kpK (wKs ws) (.inr p.1)=wKs (addW ws p)/\kpT (wKs ws) (wTs ws) (.inr p.1) (frR (yx ws p.1+p.2))=wTs (addW ws p):=by
 unfold kpK kpT addW;rw[aev];by_cases h:(ws.any λx=>decide (x.1=p.1))=true
 .rw[ZY h,ZY h,ZY h];refine⟨by simp only[wKs,List.map_map];refine List.map_congr_left λx _=>?_;show(Sum.inr x.1:Key)=.inr (if x.1=p.1 then(x.1,x.2+p.2)else x).1;split<;>rfl,?_⟩
  clear h
  rw[show wTs (ws.map λx=>if x.1=p.1 then(x.1,x.2+p.2)else x)=ws.map ((λx=>frR x.2) ∘ λx=>if x.1=p.1 then(x.1,x.2+p.2)else x)from List.map_map]
  suffices H:∀(us:List (Str×Rat)),(∀x∈us,x.1=p.1->x.2=yx ws p.1)->List.zipWith (λ(k:Key)x=>if k=.inr p.1 then frR (yx ws p.1+p.2)else x) (wKs us) (wTs us)=us.map ((λx=>frR x.2) ∘ λx=>if x.1=p.1 then(x.1,x.2+p.2)else x)from H ws λx hx e=>by
   unfold yx;rw[T3 nd hx e];rfl
  intro us
  induction us with
  |nil=>intro _;rfl
  |cons x us ih =>
   intro H;show List.zipWith _ (Sum.inr x.1::wKs us) (frR x.2::wTs us)=_;rw[List.zipWith_cons_cons,ih λy hy=>H y (aJ _ hy),List.map_cons]
   congr 1
   by_cases e:x.1=p.1
   .rw[ZY (ZH Sum.inr e)];show _=frR (if x.1=p.1 then(x.1,x.2+p.2)else x).2;rw[ZY e,H x (aO ..) e]
   .rw[ZZ λz=>e (Sum.inr.inj z)];show _=frR (if x.1=p.1 then(x.1,x.2+p.2)else x).2;rw[ZZ e]
 .rw[ZZ h,ZZ h,ZZ h];have n0:yx ws p.1=0:=by
   unfold yx;rw[List.find?_eq_none.mpr λx hx z=>h (List.any_eq_true.mpr ⟨x,hx,z⟩)];rfl
  rw[n0,Rat.zero_add];simp only[wKs,wTs,bf];exact⟨rfl,rfl⟩
theorem aaT{ws:List (Str×Rat)}{p:Str×Rat}(nd:(ws.map (·.1)).Nodup):((addW ws p).map (·.1)).Nodup:=by
 unfold addW;by_cases h:(ws.any λx=>decide (x.1=p.1))=true
 .rw[ZY h,List.map_map];rw[show ws.map ((λx=>x.1) ∘ λx=>if x.1=p.1 then(x.1,x.2+p.2)else x)=ws.map (·.1)from List.map_congr_left λx _=>by show(if x.1=p.1 then(x.1,x.2+p.2)else x).1=x.1;split<;>rfl];exact nd
 .rw[ZZ h,bf];refine List.nodup_append.mpr ⟨nd,by simp,λa ha b hb z=>h ?_⟩;obtain⟨x,hx,rfl⟩:=YV.mp ha;rw[List.map_singleton,YR]at hb;exact List.any_eq_true.mpr ⟨x,hx,Zs (z.trans hb)⟩
theorem Vz(as bs:List (Str×Rat)):jf (as++bs)=bs.foldl addW (jf as):=List.foldl_append ..
theorem Q6(ps:List (Str×Rat)):((jf ps).map (·.1)).Nodup:=by
 suffices H:∀(ps ws:List (Str×Rat)),(ws.map (·.1)).Nodup->((ps.foldl addW ws).map (·.1)).Nodup from H ps [] .nil
 intro ps
 induction ps with
 |nil=>exact λ_ h=>h
 |cons p ps ih=>exact λws h=>ih _ (aaT h)
theorem JM(ps:List (Str×Rat)):(jf ps).length<=ps.length:=by
 suffices H:∀(ps ws:List (Str×Rat)),(ps.foldl addW ws).length<=ws.length+ps.length from by simpa[jf]using H ps []
 intro ps
 induction ps with
 |nil=>exact λ_=>aG _
 |cons p ps ih =>
  intro ws;have h1:(addW ws p).length<=ws.length+1:=by
   unfold addW;split
   .rw[ak];exact Xs _
   .rw[aA,List.length_singleton];exact aG _
  have:=ih (addW ws p);rw[List.foldl_cons,List.length_cons];lia
def acP(ps:List (Str×Rat)):Prop:=∀as a bs,ps=as++a::bs->Bq (yx (jf as) a.1)/\Bq a.2/\Bd (((yx (jf as) a.1).den:Int)*a.2.den)
def Ae(ps:List (Str×Rat)):List (Str×Rat):=(jf ps).filter λp=>!decide (p.2=0)
def uG:ST:=λts q=>∃ps:List (Str×Rat),ts=[.lst (ps.map wyT)]/\ps.length<=1000/\acP ps/\q (.l1 ((Ae ps).map wyT))
theorem FW(F:Fun K kO kO lW f fd)(T:Txt K mg D)(Cu:OkT P w K mg base 3 zY Ax Ka):b_ P w K mg base CX0 4 f fd kJ (spT K uG):=by
 refine F.okT jR (λts R hP=>by obtain⟨t,e,_⟩:=hP;exact e ▸ rfl) λcdv A outer s H E hr=>?_;refine⟨_,(bF (iQ 1 jR.nd (Or.inr rfl) JR)
  (bF (dM PassesOwn.never rfl (cH (qv 0)) (fJ (n:=2) rfl (bU (bY (n:=99) 2 jR.nd (Or.inl rfl)) (bU (bY (n:=99) 3 jR.nd (Or.inl rfl)) dI)))
  (bG (K_ 1 (yh hr) (bI Cu hr.md (by rfl) (bx (aaF 1 (yh hr) (qv 2) (lB (by rfl) T.jg T.gC)) (bx (qv 3) bC))) (qv 2))))
  (bG (aaf 1 (bH lW) xW ["pairs","chances","?room","chance"] ["room"] (fu (i:=0)) (Tz (bZ (lA hr.units) (M9 (yh hr) (qv 2) (qv 0)) (lB (by rfl) T.jg T.gC))) (dh (bx (qv 0) (bx (M9 (yh hr) (qv 2) (qv 0)) bC))))))),?_⟩
 rintro _ R ⟨ps,rfl,pl,hb,q⟩;refine gk wyT ps (λas o=>∃x y,o=[.fz (.lst (ps.map wyT)),.d1 (wKs (jf as)) (wTs (jf as)),x,y]) ⟨_,_,rfl⟩ ?_ ?_
 .rintro as a bs _ e ⟨x,y,rfl⟩;obtain⟨h1,h2,h3⟩:=hb as a bs e;refine⟨rfl,_,rfl,yx (jf as) a.1,a.2,ZH (λt=>[t,frR a.2]) (abP (jf as) a.1),h1,h2,h3,_,rfl,?_,.fz (.str a.1),.fz (frR a.2),?_⟩
  .have:=JM as;have:as.length<=ps.length:=by rw[e];simp
   rw[ak];exact Y3 (show _<=1000 by lia) (by decide)
  .obtain⟨k1,k2⟩:=ahn (jf as) a (Q6 as);rw[show jf (as++[a])=addW (jf as) a from by rw[Vz];rfl,<- k1,<- k2]
   rfl
 .rintro _ ⟨x,y,rfl⟩;have jl:=JM ps;refine⟨by rw[ak];exact aL (show _<=1000 by exact aL jl pl) (by decide),?_⟩;rw[show(wKs (jf ps)).map kT=(jf ps).map λp=>.str p.1 from List.map_map];refine qx (λp=>.str p.1) (λp=>!decide (p.2=0)) wyT (jf ps) (λp hp N M hN hM=>?_) ?_
  rotate_left
  .exact q
  have ev:oY (wKs (jf ps)) (wTs (jf ps)) (.inr p.1)=some (frR p.2):=by rw[Ri,T3 (Q6 ps) hp rfl];rfl
  refine⟨_,_,rfl,ev,?_⟩;have ez:(decide (p.2.num=0)&&decide ((p.2.den:Int)=1))=decide (p.2=0):=by
   by_cases z:p.2=0
   .rw[z];decide
   .rw[Zp z,Zp λy=>z (Rat.num_eq_zero.mp y)];rfl
  refine sw2 (λh=>⟨_,_,rfl,ev,hN ?_⟩) λh=>hM ?_
  .rw[<- h];exact ZH (λb=>!b) ez.symm
  .rw[<- h];exact ZH (λb=>!b) ez.symm
noncomputable abbrev tu:Φ:=["name","pay","leads"]
abbrev drT(C:Addr)(n:Str)(p:Rat)(ws:List (Str×Rat)):T:=.ins C tu [.str n,frR p,.lst (ws.map wyT)]
def MK(D:Adr):SI:=λC ks ts as R=>∃(n:Str)(p:Rat),ks=[]/\ts=[]/\Fam D C/\as=[.str n,frR p]/\Wd n/\R tu [.str n,frR p,.lst []]
theorem Nf(F:Fun K Bl Bt vg f fd)(T:Txt K mg D)(iw:OkT P w K mg base 3 iW iZ rG):b_ P w K mg base CX0 4 f fd j6 (spI K (MK D)):=by
 refine F.okI Lp (λC ks ts as R hP=>by obtain⟨n,p,_,_,_,e,_⟩:=hP;exact e ▸ rfl) (by decide) λcdv A outer s H E hr=>?_;refine⟨_,(bF (jq (bI iw hr.md (by rfl) (bx (qv 1) (bx (qv 2) bC))))
  (bF (qg (Fm:=Fam D) 0 (λC h=>⟨T.cl C h,T.Ep C h⟩) (qv 1))
  (bF (qg (Fm:=Fam D) 0 (λC h=>⟨T.cl C h,T.Yu C h⟩) (qv 2))
  (bG (qg (Fm:=Fam D) 0 (λC h=>⟨T.cl C h,T.yW C h⟩) (eU bC)))))),?_⟩
 rintro a dx C _ _ _ R ⟨n,p,rfl,rfl,hC,rfl,hw,q⟩;exact⟨_,_,rfl,hw,⟨hC,by decide⟩,⟨hC,by decide⟩,⟨hC,by decide⟩,_,_,rfl,q⟩
theorem X8(D:Adr):Fam D D.Sure:=by simp[Fam]
theorem VG(D:Adr):Fam D D.Mixed:=by simp[Fam]
theorem Y6(D:Adr):Fam D D.Toss:=by simp[Fam]
theorem Zm(D:Adr):Fam D D.Even:=by simp[Fam]
theorem uH(D:Adr):Fam D D.Hall:=by simp[Fam]
def Uk(D:Adr):SI:=λC ks ts as R=>∃(n m:Str)(p:Rat),ks=[]/\ts=[]/\Fam D C/\as=[.str n,frR p,.str m]/\Wd n/\Wd m/\R tu [.str n,frR p,.lst ([(m,1)].map wyT)]
theorem K8(F:Fun K zf za vf f fd)(T:Txt K mg D)(jE:OkI P w K mg base CX0 4 D.Door_init j6 (spI K (MK D)))(dY:OkT P w K mg base 2 eN eF jx):b_ P w K mg base CX0 5 f fd n8 (spI K (Uk D)):=by
 refine F.okI Nj (λC ks ts as R hP=>by obtain⟨n,p,_,_,_,_,e,_⟩:=hP;exact e ▸ rfl) (by decide) λcdv A outer s H E hr=>?_;refine⟨_,(bF (Es 0 T.Ba jE hr.md (by rfl) T.ZG (bx (qv 1) (bx (qv 2) bC)))
  (bF (jq (bI dY hr.md (by rfl) (bx (qv 3) bC)))
  (bG (qg (Fm:=Fam D) 0 (λC h=>⟨T.cl C h,T.yW C h⟩) (eU (bx (dh (bx (qv 3) (bx (lB (by rfl) T.CT T.uW) bC))) bC)))))),?_⟩
 rintro a dx C _ _ _ R ⟨n,m,p,rfl,rfl,hC,rfl,hw,hm,q⟩;exact⟨_,_,rfl,rfl,hC,rfl,hw,_,rfl,hm,⟨hC,by decide⟩,_,_,rfl,q⟩
structure Prs(ps:List (Str×Rat)):Prop where
 few:ps.length<=1000
 ok:∀p∈ps,Wd p.1/\Ch p.2
 bd:Bd (cL 1 (ps.map (·.2)):Nat)
 one:Ao (ps.map (·.2))=1
 jb:acP ps
def zX(D:Adr):SI:=λC ks ts as R=>∃(n:Str)(p:Rat)(ps:List (Str×Rat)),ks=[]/\ts=[]/\Fam D C/\as=[.str n,frR p,.lst (ps.map wyT)]/\Wd n/\Prs ps/\R tu [.str n,frR p,.lst ((Ae ps).map wyT)]
theorem Iw(F:Fun K xX xT sZ f fd)(T:Txt K mg D)(jE:OkI P w K mg base CX0 4 D.Door_init j6 (spI K (MK D)))(qT:OkT P w K mg base 4 j8 jY uQ)(qR:OkT P w K mg base 4 kO kJ uG):b_ P w K mg base CX0 5 f fd gw (spI K (zX D)):=by
 refine F.okI Ir (λC ks ts as R hP=>by obtain⟨n,p,_,_,_,_,e,_⟩:=hP;exact e ▸ rfl) (by decide) λcdv A outer s H E hr=>?_;refine⟨_,(bF (Es 0 T.Ba jE hr.md (by rfl) T.ZG (bx (qv 1) (bx (qv 2) bC)))
  (bF (jq (bI qT hr.md (by rfl) (bx (qv 3) bC)))
  (bG (qg (Fm:=Fam D) 0 (λC h=>⟨T.cl C h,T.yW C h⟩) (bI qR hr.md (by rfl) (bx (qv 3) bC)))))),?_⟩
 rintro a dx C _ _ _ R ⟨n,p,ps,rfl,rfl,hC,rfl,hw,h,q⟩;exact⟨_,_,rfl,rfl,hC,rfl,hw,_,rfl,h.few,h.ok,h.bd,h.one,_,rfl,h.few,h.jb,⟨hC,by decide⟩,_,_,rfl,q⟩
def UJ(D:Adr):SI:=λC ks ts as R=>∃(n x y:Str)(p c:Rat),ks=[]/\ts=[]/\Fam D C/\as=[.str n,frR p,frR c,.str x,.str y]/\Wd n/\Ch c/\Prs [(x,c),(y,1-c)]/\R tu [.str n,frR p,.lst ((Ae [(x,c),(y,1-c)]).map wyT)]
theorem Kg(F:Fun K zF Br vO f fd)(T:Txt K mg D)(iw:OkT P w K mg base 3 iW iZ rG)(fL:OkT P w K mg base 3 gq gn mZ)(nU:OkT P w K mg base 3 rM rN zc)(d7:OkI P w K mg base CX0 5 D.Mixed_init gw (spI K (zX D))):b_ P w K mg base CX0 6 f fd nq (spI K (UJ D)):=by
 refine F.okI Nu (λC ks ts as R hP=>by obtain⟨n,_,_,p,_,_,_,_,e,_⟩:=hP;exact e ▸ rfl) (by decide) λcdv A outer s H E hr=>?_;refine⟨_,(bF (jq (bI iw hr.md (by rfl) (bx (qv 1) (bx (qv 2) bC))))
  (bF (jq (bI fL hr.md (by rfl) (bx (qv 3) bC)))
  (bG (Es 0 T.yc d7 hr.md (by rfl) T.Kf (bx (qv 1) (bx (qv 2) (bx (eU (bx (dh (bx (qv 4) (bx (qv 3) bC))) (bx (dh (bx (qv 5) (bx (bI nU hr.md (by rfl) (bx (lB (by rfl) T.CT T.uW) (bx (qv 3) bC))) bC))) bC))) bC))))))),?_⟩
 rintro a dx C _ _ _ R ⟨n,x,y,p,c,rfl,rfl,hC,rfl,hw,hc,h,q⟩;refine⟨_,_,rfl,hw,_,rfl,hc,1,c,rfl,bq1,hc.bq,?_,n,p,_,rfl,rfl,hC,rfl,hw,h,_,_,rfl,q⟩;rw[show(((1:Rat).den:Nat):Int)*(c.den:Int)=(c.den:Int)from Int.one_mul _];exact hc.2.2
noncomputable def even(rooms:Φ):List (Str×Rat):=rooms.map λr=>(r,mkRat 1 rooms.length)
theorem RX{n:Nat}(h:0<n):frR (mkRat 1 n)=.tup [.int 1,.int (n:Nat)]:=by
 have:mkRat 1 n=⟨1,n,by exact Nat.ne_of_gt h,by show Nat.Coprime 1 n;exact Nat.coprime_one_left n⟩:=by
  rw[Rat.mk_eq_divInt];rfl
 rw[this]
def Tr(D:Adr):SI:=λC ks ts as R=>∃(n:Str)(p:Rat)(rooms:Φ),ks=[]/\ts=[]/\Fam D C/\as=[.str n,frR p,.lst (rooms.map T.str)]/\Wd n/\Prs (even rooms)/\R tu [.str n,frR p,.lst ((Ae (even rooms)).map wyT)]
theorem M4(F:Fun K zT Bp qF f fd)(T:Txt K mg D)(d7:OkI P w K mg base CX0 5 D.Mixed_init gw (spI K (zX D))):b_ P w K mg base CX0 6 f fd nY (spI K (Tr D)):=by
 refine F.okI Lg (λC ks ts as R hP=>by obtain⟨n,p,_,_,_,_,e,_⟩:=hP;exact e ▸ rfl) (by decide) λcdv A outer s H E hr=>?_;refine⟨_,(bG (Es 0 T.yc d7 hr.md (by rfl) T.Kf (bx (qv 1) (bx (qv 2) (bx (dG (bH qF) vU vU ["room"] (cH (qv 3)) (fu (i:=0)) cD (dh (bx (qv 0) (bx (dh (bx bA (bx (bT cU (by rfl) T.dU PySem.boot_len (bx (qv 4) bC)) bC))) bC)))) bC))))),?_⟩;rintro a dx C _ _ _ R ⟨n,p,rooms,rfl,rfl,hC,rfl,hw,h,q⟩;have hl:rooms.length<=1000:=by have:=h.few;rwa[even,ak]at this
 refine⟨by rw[ak];exact aL hl (by decide),comp_map L2.T.str (λr=>wyT (r,mkRat 1 rooms.length)) rooms (λr hr N M hN=>?_) ⟨n,p,even rooms,rfl,rfl,hC,?_,hw,h,_,_,rfl,q⟩⟩
 .rw[show wyT (r,mkRat 1 rooms.length)=.tup [.str r,frR (mkRat 1 rooms.length)]from rfl,RX (List.length_pos_of_mem hr),<- ak (f:=L2.T.str)]at hN;exact hN
 .unfold even;rw[List.map_map]
  rfl
def zZ(D:Adr):ST:=λts q=>∃(C:Addr)(n:Str)(p:Rat)(ws:List (Str×Rat)),ts=[drT C n p ws]/\Fam D C/\q (.l1 (ws.map wyT))
theorem Mt(F:Fun K zO Am uI f fd)(T:Txt K mg D):b_ P w K mg base CX0 1 f fd n_ (spT K (zZ D)):=by
 refine F.okT Mu (λts R hP=>by obtain⟨C,n,p,ws,e,_⟩:=hP;exact e ▸ rfl) λcdv A outer s H E hr=>?_;refine⟨_,(bG (bN (rW Ez (by rfl) T.v8 boot_list (bx (sV (Fm:=Fam D) (λC h=>⟨T.cl C h,T.yW C h⟩) (qv 0)) bC)))),?_⟩;rintro _ R ⟨C,n,p,ws,rfl,hC,q⟩;exact⟨hC,_,rfl,q⟩
structure bQ where
 name:Str
 pay:Rat
 ways:List (Nat×Rat)
abbrev nwT(p:Nat×Rat):T:=.tup [.int (p.1:Nat),frR p.2]
abbrev ofT(o:bQ):T:=.tup [.str o.name,frR o.pay,.lst (o.ways.map nwT)]
noncomputable abbrev pR:Φ:=["share","numbers","offered"]
noncomputable abbrev nmK(ns:Φ):List Key:=ns.map Sum.inr
noncomputable abbrev nmT(ns:Φ):List T:=(List.range ns.length).map λk:Nat=>.int k
abbrev hlT(D:Adr)(s:Rat)(ns:Φ)(off:List (List bQ)):T:=.ins D.Hall pR [frR s,.dct (nmK ns) (nmT ns),.lst (off.map λds=>.lst (ds.map ofT))]
def wO:ST:=λts q=>∃r:Rat,ts=[frR r]/\0<=r/\r<1/\Bq r/\q (.fz .non)
theorem Gm(F:Fun K jQ jQ qU f fd)(T:Txt K mg D)(fZ:OkT P w K mg base 2 jG jF pY)(gG:OkT P w K mg base 1 pL pF vG):b_ P w K mg base CX0 3 f fd kh (spT K wO):=by
 refine F.okT FT (λts R hP=>by obtain⟨t,e,_⟩:=hP;exact e ▸ rfl) λcdv A outer s H E hr=>?_;refine⟨_,(bG (cB (QW.qt (iM (dO (cT (bI fZ hr.md (by rfl) (bx (qv 0) bC)))) (iM (cT (bI gG hr.md (by rfl) (bx (qv 0) (bx (lB (by rfl) T.jg T.gC) bC)))) (fW (dO (cT (bI gG hr.md (by rfl) (bx (qv 0) (bx (lB (by rfl) T.CT T.uW) bC)))))))))
  (bG fH)
  bR)),?_⟩
 rintro _ R ⟨r,rfl,h0,h1,hb,q⟩;refine⟨_,rfl,r,0,rfl,hb,bq0,?_⟩;rw[Zp (Rat.not_lt.mpr h0)];refine⟨r,1,rfl,hb,bq1,?_⟩;rw[Zs h1];exact q
theorem ZQ(ns:Φ)(n:Str)(h:n∉ns):J2 (nmK ns) (.inr n)=false:=by
 unfold J2;rw[List.any_map];exact List.any_eq_false.mpr λx hx z=>h ((Sum.inr.inj (of_decide_eq_true z)) ▸ hx)
theorem Rx{α:Type}(n:Str):∀(ns:Φ)(ts:List α),n∉ns->oY (nmK ns) ts (.inr n)=none
 |[],_,_=>rfl
 |_::_,[],_=>rfl
 |m::ns,t::ts,h=>by
  show(if(Sum.inr m:Key)=.inr n then some t else oY (nmK ns) ts (.inr n))=none;rw[ZZ λz=>h (by rw[Sum.inr.inj z];exact aO ..)];exact Rx n ns ts λz=>h (aJ _ z)
theorem Ue{α:Type}{n:Str} : ∀{ns:Φ}{ts:List α}{k:Nat}{t:α},ns.Nodup->ns[k]?=some n->ts[k]?=some t->oY (nmK ns) ts (.inr n)=some t
 |[],_,_,_,_,e,_=>by cases e
 |m::ns,[],_,_,_,_,e=>by cases e
 |m::ns,u::ts,k,t,nd,e1,e2=>by
  obtain⟨n1,n2⟩:=List.nodup_cons.mp nd;show(if(Sum.inr m:Key)=.inr n then some u else oY (nmK ns) ts (.inr n))=some t;cases k with
  |zero=>cases e1;cases e2;exact ZY rfl
  |succ k =>
   have e1':ns[k]?=some n:=by simpa using e1
   rw[ZZ λ(z:(Sum.inr m:Key)=.inr n)=>n1 (by rw[Sum.inr.inj z];exact aC e1')];exact Ue n2 e1' (by simpa using e2)
theorem ad0(ns:Φ)(n:Str)(h:n∉ns):kpK (nmK ns) (.inr n)=nmK (ns++[n])/\kpT (nmK ns) (nmT ns) (.inr n) (.int (ns.length:Nat))=nmT (ns++[n]):=by
 unfold kpK kpT;rw[ZQ ns n h];refine⟨by rw[ZZ (by decide)];simp[nmK],?_⟩;rw[ZZ (by decide)];simp only[nmT,aA,List.length_singleton,List.range_succ,bf,List.map_singleton]
noncomputable abbrev rmT(p:Str×List T):T:=.tup [.str p.1,.lst p.2]
def xQ:ST:=λts q=>∃rms:List (Str×List T),ts=[.lst (rms.map rmT)]/\rms.length<=1000/\(∀p∈rms,Wd p.1)/\(rms.map (·.1)).Nodup/\q (.d1 (nmK (rms.map (·.1))) (nmT (rms.map (·.1))))
theorem Jb(F:Fun K lM lM tG f fd)(T:Txt K mg D)(iB:OkT P w K mg base 1 lF lE tW):b_ P w K mg base CX0 2 f fd mD (spT K xQ):=by
 refine F.okT lO (λts R hP=>by obtain⟨t,e,_⟩:=hP;exact e ▸ rfl) λcdv A outer s H E hr=>?_;refine⟨_,(bF (iQ 1 lO.nd (Or.inl rfl) JR)
  (bF (dM PassesOwn.never rfl (cH (qv 0)) (bY (n:=99) 2 lO.nd (Or.inl rfl))
  (bF (bO 3 lO.nd (Or.inl rfl) (bJ (qv 2) bA))
  (bF (cB (QW.qt (iM (dO (cT (bI iB hr.md (by rfl) (bx (qv 3) bC)))) (fW (R0 1 (Yc (yh hr) (qv 3) (qv 1))))))
  (bG fH)
  bR)
  (bG (K_ 1 (yh hr) (Nz 1 (bT U6 (by rfl) T.dU PySem.boot_len (bx (qv 1) bC))) (qv 3))))))
  (bG (jM 1)))),?_⟩
 rintro _ R ⟨rms,rfl,rl,hw,nd,q⟩;refine gk rmT rms (λas o=>∃x y,o=[.fz (.lst (rms.map rmT)),.d1 (nmK (as.map (·.1))) (nmT (as.map (·.1))),x,y]) ⟨_,_,rfl⟩ ?_ ?_
 .rintro as a bs _ e ⟨x,y,rfl⟩;have na:a.1∉as.map (·.1):=by
   rw[e,bf,List.map_cons]at nd;exact λz=>(List.nodup_append.mp nd).2.2 a.1 z a.1 (aO ..) rfl
  have al:as.length<=rms.length:=by rw[e];simp
  refine⟨_,rfl,hw a (e ▸ by simp),_,rfl,?_⟩;rw[Rx a.1 _ _ na];refine⟨trivial,_,rfl,by rw[ak,ak];exact Y3 (show _<=1000 by exact aL al rl) (by decide),.fz (rmT a),.fz (.str a.1),?_⟩;obtain⟨k1,k2⟩:=ad0 (as.map (·.1)) a.1 na;rw[bf,List.map_singleton,<- k1,<- k2];simp only[ak]
  rfl
 .rintro _ ⟨x,y,rfl⟩;exact q
structure NWk(ns:Φ)(us:List (Nat×Rat)):Prop where
 few:us.length<=1000
 lt:∀p∈us,p.1<ns.length
abbrev Qf(ns:Φ)(us:List (Nat×Rat)):List (Str×Rat):=us.map λp=>(ns.getD p.1 ⟨#[]⟩,p.2)
def rT(D:Adr):ST:=λts q=>∃(C:Addr)(n:Str)(p:Rat)(ns:Φ)(us:List (Nat×Rat)),ts=[drT C n p (Qf ns us),.dct (nmK ns) (nmT ns)]/\cW D C/\ns.Nodup/\NWk ns us/\q (.l1 (us.map nwT))
theorem CG(F:Fun K h_ h_ mW f fd)(T:Txt K mg D)(vJ:OkI P w K mg base CX0 1 D.Door_ways n_ (spT K (zZ D))):b_ P w K mg base CX0 2 f fd iD (spT K (rT D)):=by
 refine F.okT iI (λts R hP=>by obtain⟨C,n,p,ns,us,e,_⟩:=hP;exact e ▸ rfl) λcdv A outer s H E hr=>?_;refine⟨_,(bF (iQ 2 iI.nd (Or.inl rfl) (eU bC))
  (bF (dM PassesOwn.never rfl (cH (QE.any λC(hC:cW D C)=>Gn (qv 0) (T.cl C hC.fam) (T.J7 C hC) vJ hr.md (KS:=tu))) (fJ (n:=2) rfl (bU (bY (n:=99) 3 iI.nd (Or.inl rfl)) (bU (bY (n:=99) 4 iI.nd (Or.inl rfl)) dI)))
  (bF (cB (VP (yh hr) (qv 3) (qv 1))
  (bG fH)
  bR)
  (bG (o9 2 (dh (bx (M9 (yh hr) (qv 1) (qv 3)) (bx (qv 4) bC)))))))
  (bG (jM 2)))),?_⟩
 rintro _ R ⟨C,n,p,ns,us,rfl,hC,nd,hu,q⟩;refine⟨C,hC,⟨rfl,rfl⟩,C,n,p,_,rfl,hC.fam,?_⟩;show uq _ _ _ (List.map wyT (Qf ns us)) _;rw[show(Qf ns us).map wyT=us.map λp=>wyT (ns.getD p.1 ⟨#[]⟩,p.2)from List.map_map];refine gk (λp=>wyT (ns.getD p.1 ⟨#[]⟩,p.2)) us (λas o=>∃x y,o=[.fz (drT C n p (Qf ns us)),.fz (.dct (nmK ns) (nmT ns)),.l1 (as.map nwT),x,y]) ⟨_,_,rfl⟩ ?_ ?_
 .rintro as a bs _ e ⟨x,y,rfl⟩;have lt:=hu.lt a (e ▸ by simp);have al:as.length<us.length:=by rw[e];simp
  have few:=hu.few;have en:ns[a.1]?=some (ns.getD a.1 ⟨#[]⟩):=by rw[au,aj lt];rfl
  have ev:oY (nmK ns) (nmT ns) (.inr (ns.getD a.1 ⟨#[]⟩))=some (.int (a.1:Nat)):=Ue nd en (by rw[aq,List.getElem?_range lt];rfl);refine⟨rfl,_,rfl,?_⟩;rw[ev];refine⟨_,_,rfl,ev,by rw[ak];exact Y3 (show _<=1000 by exact aL (Y2 al) few) (by decide),.fz (.str (ns.getD a.1 ⟨#[]⟩)),.fz (frR a.2),?_⟩;rw[bf]
  rfl
 .rintro _ ⟨x,y,rfl⟩;exact q
structure Made where
 cls:Addr
 of:bQ
abbrev mdT(ns:Φ)(m:Made):T:=drT m.cls m.of.name m.of.pay (Qf ns m.of.ways)
structure Mds(D:Adr)(ns:Φ)(ds:List Made):Prop where
 few:ds.length<=1000
 cls:∀m∈ds,cW D m.cls
 ways:∀m∈ds,NWk ns m.of.ways
 nd:(ds.map λm=>m.of.name).Nodup
theorem Z0(ns:Φ)(n:Str)(h:n∉ns):kpK (nmK ns) (.inr n)=nmK (ns++[n])/\kpT (nmK ns) (ns.map λ_=>L2.T.bl true) (.inr n) (.bl true)=(ns++[n]).map λ_=>L2.T.bl true:=by
 unfold kpK kpT;rw[ZQ ns n h];refine⟨by rw[ZZ (by decide)];simp[nmK],?_⟩;rw[ZZ (by decide)];simp
def yX(D:Adr):ST:=λts q=>∃(ns:Φ)(ds:List Made),ts=[.lst (ds.map (mdT ns)),.dct (nmK ns) (nmT ns)]/\ns.Nodup/\Mds D ns ds/\q (.l1 (ds.map λm=>ofT m.of))
theorem Nt(F:Fun K n6 n6 vh f fd)(T:Txt K mg D)(mY:OkT P w K mg base 2 h_ iD (rT D)):b_ P w K mg base CX0 3 f fd nP (spT K (yX D)):=by
 refine F.okT nT (λts R hP=>by obtain⟨ns,ds,e,_⟩:=hP;exact e ▸ rfl) λcdv A outer s H E hr=>?_;refine⟨_,(bF (iQ 2 nT.nd (Or.inl rfl) JR)
  (bF (iQ 3 nT.nd (Or.inl rfl) (eU bC))
  (bF (dM PassesOwn.never rfl (cH (qv 0)) (bY (n:=99) 4 nT.nd (Or.inl rfl))
  (bF (cB (R0 2 (Yc (yh hr) (sV (Fm:=Fam D) (λC h=>⟨T.cl C h,T.Ep C h⟩) (qv 4)) (qv 2)))
  (bG fH)
  bR)
  (bF (K_ 2 (yh hr) pI (sV (Fm:=Fam D) (λC h=>⟨T.cl C h,T.Ep C h⟩) (qv 4)))
  (bG (o9 3 (dh (bx (sV (Fm:=Fam D) (λC h=>⟨T.cl C h,T.Ep C h⟩) (qv 4)) (bx (sV (Fm:=Fam D) (λC h=>⟨T.cl C h,T.Yu C h⟩) (qv 4)) (bx (bI mY hr.md (by rfl) (bx (qv 4) (bx (qv 1) bC))) bC)))))))))
  (bG (jM 3))))),?_⟩
 rintro _ R ⟨ns,ds,rfl,nd,hd,q⟩;refine gk (mdT ns) ds (λas o=>∃x,o=[.fz (.lst (ds.map (mdT ns))),.fz (.dct (nmK ns) (nmT ns)),.d1 (nmK (as.map λm=>m.of.name)) ((as.map λm=>m.of.name).map λ_=>.bl true),.l1 (as.map λm=>ofT m.of),x]) ⟨_,rfl⟩ ?_ ?_
 .rintro as a bs _ e ⟨x,rfl⟩;have na:a.of.name∉as.map λm=>m.of.name:=by
   have nd:=hd.nd;rw[e,bf,List.map_cons]at nd;exact λz=>(List.nodup_append.mp nd).2.2 _ z _ (aO ..) rfl
  have al:as.length<ds.length:=by rw[e];simp
  have few:=hd.few;have ma:a∈ds:=e ▸ by simp
  have hc:=hd.cls a ma;refine⟨hc.fam,_,rfl,_,rfl,?_⟩;rw[Rx _ _ _ na];refine⟨hc.fam,_,rfl,_,rfl,by rw[ak,ak];exact Y3 (show _<=1000 by exact aL (Y2 al) few) (by decide),hc.fam,_,rfl,hc.fam,_,rfl,_,_,_,ns,a.of.ways,rfl,hc,nd,hd.ways a ma,by rw[ak];exact Y3 (show _<=1000 by exact aL (Y2 al) few) (by decide),.fz (mdT ns a),?_⟩;obtain⟨k1,k2⟩:=Z0 (as.map λm=>m.of.name) a.of.name na;rw[show(as++[a]).map (λm=>m.of.name)=as.map (λm=>m.of.name)++[a.of.name]from bf,<- k1,<- k2,bf]
  rfl
 .rintro _ ⟨x,rfl⟩;exact q
structure acz(D:Adr)(ns:Φ)(dss:List (List Made)):Prop where
 len:dss.length=ns.length
 few:ns.length<=1000
 wd:∀n∈ns,Wd n
 nd:ns.Nodup
 mds:∀ds∈dss,Mds D ns ds
abbrev yS(ns:Φ)(dss:List (List Made)):List T:=(ns.zip dss).map λp=>rmT (p.1,p.2.map (mdT ns))
noncomputable abbrev offs(dss:List (List Made)):List (List bQ):=dss.map λds=>ds.map λm=>m.of
def Tt(D:Adr):SI:=λC ks ts as R=>∃(s:Rat)(ns:Φ)(dss:List (List Made)),C=D.Hall/\ks=[]/\ts=[]/\as=[frR s,.lst (yS ns dss)]/\0<=s/\s<1/\Bq s/\acz D ns dss/\R pR [frR s,.dct (nmK ns) (nmT ns),.lst ((offs dss).map λds=>.lst (ds.map ofT))]
theorem K6(F:Fun K zx z_ qy f fd)(T:Txt K mg D)(rJ:OkT P w K mg base 3 jQ kh wO)(sy:OkT P w K mg base 2 lM mD xQ)(vL:OkT P w K mg base 3 n6 nP (yX D)):b_ P w K mg base CX0 4 f fd oG (spI K (Tt D)):=by
 refine F.okI J_ (λC ks ts as R hP=>by obtain⟨n,p,_,_,_,_,e,_⟩:=hP;exact e ▸ rfl) (by decide) λcdv A outer s H E hr=>?_;refine⟨_,(bF (jq (bI rJ hr.md (by rfl) (bx (qv 1) bC)))
  (bF (qg (Fm:=Fam D) 0 (λC h=>⟨T.cl C h,T.Gp C h⟩) (qv 1))
  (bF (qg (Fm:=Fam D) 0 (λC h=>⟨T.cl C h,T.yQ C h⟩) (bI sy hr.md (by rfl) (bx (qv 2) bC)))
  (bG (qg (Fm:=Fam D) 0 (λC h=>⟨T.cl C h,T.Fv C h⟩) (dG (bH qy) vN vN ["room"] (cH (qv 2)) (fu (i:=0)) cD (bI vL hr.md (by rfl) (bx (bJ (qv 0) bA) (bx (abY (Fm:=Fam D) 1 (λC h=>⟨T.cl C h,T.yQ C h⟩)) bC))))))))),?_⟩
 rintro a dx C _ _ _ R ⟨s,ns,dss,rfl,rfl,rfl,rfl,s0,s1,sb,h,q⟩;have z1:(ns.zip dss).map (·.1)=ns:=List.map_fst_zip (by have:=h.len;exact Nat.le_of_eq (Eq.symm this));have z2:(ns.zip dss).map (·.2)=dss:=List.map_snd_zip (by have:=h.len;exact Nat.le_of_eq this);have zl:(ns.zip dss).length=ns.length:=by rw[List.length_zip,h.len,Nat.min_self]
 have hf:=uH D;have few:=h.few;refine⟨_,rfl,s0,s1,sb,⟨hf,by decide⟩,(ns.zip dss).map λp=>(p.1,p.2.map (mdT ns)),by rw[List.map_map];rfl,by rw[ak,zl];exact few,λp hp=>?_,?_,⟨hf,by decide⟩,?_⟩
 .obtain⟨x,hx,rfl⟩:=YV.mp hp;exact h.wd x.1 (z1 ▸ YV.mpr ⟨x,hx,rfl⟩)
 .rw[List.map_map];exact z1.symm ▸ h.nd
 .rw[show((ns.zip dss).map λp=>(p.1,p.2.map (mdT ns))).map (·.1)=ns from List.map_map.trans z1];refine⟨by rw[ak,zl];exact aL few (by decide),comp_map (λp=>rmT (p.1,p.2.map (mdT ns))) (λp=>.lst (p.2.map λm=>ofT m.of)) (ns.zip dss) (λp hp N M hN=>?_) ⟨⟨hf,by decide⟩,_,_,rfl,?_⟩⟩
  .exact⟨hf,_,rfl,ns,p.2,rfl,h.nd,h.mds p.2 (z2 ▸ YV.mpr ⟨p,hp,rfl⟩),hN⟩
  .have:(ns.zip dss).map (λp=>L2.T.lst (p.2.map λm=>ofT m.of))=(offs dss).map λds=>.lst (ds.map ofT):=by
    rw[show(offs dss).map (λds=>L2.T.lst (ds.map ofT))=dss.map λds=>.lst (ds.map λm=>ofT m.of)from by simp[offs,List.map_map,Function.comp_def]]
    conv=>rhs;rw[<- z2,List.map_map]
    rfl
   rw[<- this]at q;exact q
structure Rt(ns:Φ)(off:List (List bQ)):Prop where
 len:off.length=ns.length
 few:ns.length<=1000
 fews:∀ds∈off,ds.length<=1000
def sE(D:Adr):ST:=λts q=>∃(s:Rat)(ns:Φ)(off:List (List bQ)),ts=[hlT D s ns off]/\q (.fz (.int (ns.length:Nat)))
theorem MF(F:Fun K zA Bv vW f fd)(T:Txt K mg D):b_ P w K mg base CX0 1 f fd jK (spT K (sE D)):=by
 refine F.okT LK (λts R hP=>by obtain⟨s,ns,off,e,_⟩:=hP;exact e ▸ rfl) λcdv A outer s H E hr=>?_;refine⟨_,(bG (bN (bT U6 (by rfl) T.dU PySem.boot_len (bx (sV (Fm:=Fam D) (λC h=>⟨T.cl C h,T.yQ C h⟩) (qv 0)) bC)))),?_⟩;rintro _ R ⟨s,ns,off,rfl,q⟩;refine⟨uH D,_,rfl,?_⟩;rw[<- ak (f:=(Sum.inr:Str->Key))]at q;exact q
def xY(D:Adr):ST:=λts q=>∃(s:Rat)(ns:Φ)(off:List (List bQ))(k:Nat),ts=[hlT D s ns off,.int k]/\k<ns.length/\q (.fz .non)
theorem H_(F:Fun K pB o8 jN f fd)(T:Txt K mg D)(dg:OkT P w K mg base 1 gM gW mL)(jD:OkI P w K mg base CX0 1 D.Hall_size jK (spT K (sE D))):b_ P w K mg base CX0 2 f fd fX (spT K (xY D)):=by
 refine F.okT yI (λts R hP=>by obtain⟨s,ns,off,k,e,_⟩:=hP;exact e ▸ rfl) λcdv A outer s H E hr=>?_;refine⟨_,(bG (cB (QW.qt (iM (dO (cT (bI dg hr.md (by rfl) (bx (qv 1) bC)))) (fW (dO (O5 N7 vQ bA (qv 1) (Gn (qv 0) T.o7 T.Bw jD hr.md (KS:=pR)))))))
  (bG fH)
  bR)),?_⟩
 rintro _ R ⟨s,ns,off,k,rfl,hk,q⟩;refine⟨_,_,rfl,rfl,⟨rfl,rfl⟩,_,_,_,rfl,?_⟩;show sw (!decide ((k:Int)<(ns.length:Nat))) _ _;rw[Zs (show(k:Int)<(ns.length:Nat)by lia)];exact q
def wU(D:Adr):ST:=λts q=>∃(s:Rat)(ns:Φ)(off:List (List bQ))(k:Nat)(ds:List bQ),ts=[hlT D s ns off,.int k]/\Rt ns off/\off[k]?=some ds/\q (.l1 (ds.map ofT))
theorem dF{α:Type}{l:List α}{h:α->T}{k:Nat}{a:α}(e:l[k]?=some a):ixT (l.map h) (k:Nat)=some (h a):=by
 show nth (l.map h) k=_;rw[rD,aq,e];rfl
theorem V3(F:Fun K vp wj mC f fd)(T:Txt K mg D)(kW:OkI P w K mg base CX0 2 D.Hall_check_room fX (spT K (xY D))):b_ P w K mg base CX0 3 f fd fM (spT K (wU D)):=by
 refine F.okT Gj (λts R hP=>by obtain⟨s,ns,off,k,ds,e,_⟩:=hP;exact e ▸ rfl) λcdv A outer s H E hr=>?_;refine⟨_,(bF (jq (Er (qv 0) T.o7 T.yK kW hr.md (bx (qv 1) bC) (KS:=pR)))
  (bG (bN (dG (bH mC) qP qP ["name","pay","numbered"] (cH (bJ (sV (Fm:=Fam D) (λC h=>⟨T.cl C h,T.Fv C h⟩) (qv 0)) (qv 1))) (fJ (n:=3) rfl (bU (fu (i:=0)) (bU (fu (i:=1)) (bU (fu (i:=2)) dI)))) cD (dh (bx (qv 0) (bx (qv 1) (bx (rW Ez (by rfl) T.v8 boot_list (bx (qv 2) bC)) bC)))))))),?_⟩
 rintro _ R ⟨s,ns,off,k,ds,rfl,h,e,q⟩;have lk:k<ns.length:=by rw[<- h.len];exact(ao.mp e).1
 refine⟨⟨rfl,rfl⟩,s,ns,off,k,rfl,lk,uH D,_,rfl,.lst (ds.map ofT),dF (h:=λds=>L2.T.lst (ds.map ofT)) e,by rw[ak];exact aL (h.fews ds (aC e)) (by decide),comp_map ofT ofT ds (λo _ N M hN=>⟨rfl,hN⟩) q⟩
open Rw (vr gY gF mH gcL fY fU qQ kZ Big oX i_ lZ jh lV fG)
noncomputable abbrev Row:=List Int×Int
noncomputable abbrev rwT(r:Row):T:=.tup [.lst (r.1.map T.int),.int r.2]
noncomputable def NN:Nat:=10^600
theorem aeg{i:Int}(h:i.natAbs<=NN*NN*NN):Bd i:=Y3 h (by decide +kernel)
theorem bdN{i:Int}(h:i.natAbs<=NN):Bd i:=aeg (aL h (by decide +kernel))
theorem abK{i:Int}(h:i.natAbs<=NN*NN):Bd i:=aeg (aL h (by decide +kernel))
theorem abq{a b:Int}{m n:Nat}(h1:a.natAbs<=m)(h2:b.natAbs<=n):(a*b).natAbs<=m*n:=by rw[Int.natAbs_mul];exact Nat.mul_le_mul h1 h2
theorem rK{a b:Int}(h:0<b):Int.fdiv a b=a/b:=Int.fdiv_eq_ediv_of_nonneg _ (XY h)
def Cy:ST:=λts q=>∃r:Row,ts=[.lst (r.1.map T.int),.int r.2]/\0<r.2/\Bd r.2/\r.1.length<=1000/\q (.fz (rwT (gY r)))
theorem Wm(F:Fun K rY rY Bk f fd)(dN:OkT P w K mg base 1 gO gK lH):b_ P w K mg base CX0 2 f fd rR (spT K Cy):=by
 refine F.okT wQ (λts R hP=>by obtain⟨r,e,_⟩:=hP;exact e ▸ rfl) λcdv A outer s H E hr=>?_;refine⟨_,(bF (bO 2 wQ.nd (Or.inr rfl) (qv 1))
  (bF (dM PassesOwn.never rfl (cH (qv 0)) (bY (n:=99) 3 wQ.nd (Or.inl rfl))
  (bG (bO 2 wQ.nd (Or.inr rfl) (bI dN hr.md (by rfl) (bx (qv 3) (bx (qv 2) bC))))))
  (bG (bN (dh (bx (dG (bH Bk) Px ["tops","bottom","common","?top"] ["top"] (cH (qv 0)) (fu (i:=0)) cD (bL lD (qv 0) (qv 3))) (bx (bL lD (qv 1) (qv 2)) bC))))))),?_⟩
 rintro _ R ⟨⟨tops,b⟩,rfl,hb,bb,tl,q⟩;have hb:0<b:=hb;have bb:Bd b:=bb;refine gk L2.T.int tops (λas o=>∃x,o=[.fz (.lst (tops.map L2.T.int)),.fz (.int b),.fz (.int (gcL as b)),x]) ⟨_,rfl⟩ ?_ ?_
 .rintro as a bs _ e ⟨x,rfl⟩;refine⟨_,_,rfl,.fz (.int a),?_⟩;rw[show gcL (as++[a]) b=((Int.gcd a (gcL as b):Nat):Int)from by unfold gcL;rw[List.foldl_append];rfl]
  rfl
 .rintro _ ⟨x,rfl⟩;have g0:=fY (ts:=tops) hb;have g1:Bd (gcL tops b):=Jx (by have:=qQ (ts:=tops) hb;omega) bb;refine⟨by rw[ak];exact aL tl (by decide),comp_map L2.T.int (λt=>.int (t/gcL tops b)) tops (λt ht N M hN=>⟨⟨by exact Int.ne_of_gt g0,g1⟩,?_⟩) ⟨⟨by exact Int.ne_of_gt g0,g1⟩,?_⟩⟩
  .rw[rK g0];exact hN
  .rw[rK g0];have:(gY (tops,b)).1.map L2.T.int=tops.map λt=>.int (t/gcL tops b):=List.map_map;rw[<- this];exact q
structure Fn(c:Rat):Prop where
 n:c.num.natAbs<=NN
 d:c.den<=NN
noncomputable abbrev pr(c:Rat):Int×Int:=(c.num,c.den)
def Ak:ST:=λts q=>∃(r:Row)(c:Rat),ts=[rwT r,frR c]/\Big NN r/\r.1.length<=1000/\Fn c/\q (.fz (rwT (gY (gF r (pr c)))))
theorem Lf(F:Fun K nR nR p8 f fd)(T:Txt K mg D)(rP:OkT P w K mg base 2 rY rR Cy):b_ P w K mg base CX0 3 f fd nM (spT K Ak):=by
 refine F.okT J1 (λts R hP=>by obtain⟨r,c,e,_⟩:=hP;exact e ▸ rfl) λcdv A outer s H E hr=>?_;refine⟨_,(bG (bN (bI rP hr.md (by rfl) (bx (dG (bH p8) uJ uJ ["top"] (cH (bJ (qv 0) bA)) (fu (i:=0)) cD (bL cV (qv 0) (bJ (qv 2) bA))) (bx (bL cV (bJ (qv 0) bA) (bJ (qv 1) bA)) bC))))),?_⟩;rintro _ R ⟨r,c,rfl,hr,rl,hc,q⟩;have:=c.den_pos;have cd:((c.den:Nat):Int).natAbs<=NN:=hc.d;refine⟨by rw[ak];exact aL rl (by decide),comp_map L2.T.int (λt=>.int (t*c.num)) r.1 (λt ht N M hN=>⟨⟨bdN (hr.top t ht),bdN hc.n⟩,hN⟩) ⟨⟨bdN hr.bot,bdN cd⟩,gF r (pr c),?_,XZ hr.pos (show(0:Int)<(c.den:Nat)by lia),abK (abq hr.bot cd),by show(r.1.map _).length<=1000;rw[ak];exact rl,q⟩⟩;show _=[L2.T.lst ((r.1.map λt=>t*c.num).map L2.T.int),.int (r.2*c.den)];rw[List.map_map]
 rfl
def Dc:ST:=λts q=>∃(r o:Row)(c:Rat),ts=[rwT r,rwT o,frR c]/\Big NN r/\Big NN o/\r.1.length<=1000/\o.1.length=r.1.length/\Fn c/\q (.fz (rwT (gY (mH r o (pr c)))))
theorem N_(F:Fun K pQ pQ sY f fd)(T:Txt K mg D)(dN:OkT P w K mg base 1 gO gK lH)(rP:OkT P w K mg base 2 rY rR Cy):b_ P w K mg base CX0 3 f fd qu (spT K Dc):=by
 refine F.okT jH (λts R hP=>by obtain⟨r,o,c,e,_⟩:=hP;exact e ▸ rfl) λcdv A outer s H E hr=>?_;refine⟨_,(bF (bO 3 jH.nd (Or.inl rfl) (bL cV (bJ (qv 1) bA) (bJ (qv 2) bA)))
  (bF (bO 4 jH.nd (Or.inl rfl) (bI dN hr.md (by rfl) (bx (bJ (qv 0) bA) (bx (qv 3) bC))))
  (bF (bO 5 jH.nd (Or.inr rfl) (bL lD (qv 3) (qv 4)))
  (bF (bO 6 jH.nd (Or.inr rfl) (bL cV (bL lD (bJ (qv 0) bA) (qv 4)) (bJ (qv 2) bA)))
  (bF (ud (bH sY) yD yD ["one","another"] (Lx (by rfl) T.Ur (bx (bJ (qv 0) bA) (bx (bJ (qv 1) bA) bC))) (fJ (n:=2) rfl (bU (fu (i:=0)) (bU (fu (i:=1)) dI))) cD (bL cN (bL cV (qv 0) (qv 7)) (bL cV (qv 1) (qv 8))) (lK (i:=7) jH.nd rfl (Or.inl rfl)))
  (bG (bN (bI rP hr.md (by rfl) (bx (qv 7) (bx (bL cV (bJ (qv 0) bA) (qv 5)) bC)))))))))),?_⟩
 rintro _ R ⟨r,o,c,rfl,hr,ho,rl,ol,hc,q⟩;have:=c.den_pos;have cd:((c.den:Nat):Int).natAbs<=NN:=hc.d;have hB:0<o.2*(c.den:Int):=XZ ho.pos (by lia);have bB:=abq ho.bot cd;have g0:=mj (a:=r.2) (Int.ne_of_gt hB);have gr:((Int.gcd r.2 (o.2*(c.den:Int)):Nat):Int)≠0:=by exact Int.ne_of_gt g0
 have gl:Int.gcd r.2 (o.2*(c.den:Int))<=r.2.natAbs:=Nat.le_of_dvd (by have:=hr.pos;omega) (Int.gcd_dvd_natAbs_left ..);have gb:Bd ((Int.gcd r.2 (o.2*(c.den:Int)):Nat):Int):=bdN (by have:=hr.bot;lia);have d2:(o.2*(c.den:Int)/((Int.gcd r.2 (o.2*(c.den:Int)):Nat):Int)).natAbs<=NN*NN:=aL (Int.natAbs_ediv_le_natAbs _ _) bB;have d1:(r.2/((Int.gcd r.2 (o.2*(c.den:Int)):Nat):Int)).natAbs<=NN:=aL (Int.natAbs_ediv_le_natAbs _ _) hr.bot;refine⟨⟨bdN ho.bot,bdN cd⟩,_,_,rfl,⟨gr,gb⟩,⟨gr,gb⟩,⟨by rw[rK g0];exact bdN d1,bdN hc.n⟩,?_⟩;rw[rK g0,rK g0];refine⟨by unfold Gf;rw[ak,List.length_zip,ak,ak,ol,Nat.min_self];exact aL rl (by decide),?_⟩;rw[zip_map];refine comp_map (λp=>.tup [.int p.1,.int p.2]) (λp=>.int (p.1*(o.2*(c.den:Int)/((Int.gcd r.2 (o.2*(c.den:Int)):Nat):Int))+p.2*(r.2/((Int.gcd r.2 (o.2*(c.den:Int)):Nat):Int)*c.num))) (r.1.zip o.1) (λp hp N M hN=>⟨rfl,⟨bdN (hr.top _ (List.of_mem_zip hp).1),abK d2⟩,⟨bdN (ho.top _ (List.of_mem_zip hp).2),abK (abq d1 hc.n)⟩,hN⟩) ⟨⟨bdN hr.bot,abK d2⟩,mH r o (pr c),?_,?_,aeg ?_,?_,q⟩
 .show _=[L2.T.lst ((List.zipWith _ r.1 o.1).map L2.T.int),_];rw[List.map_zipWith,List.zip,List.map_zipWith]
  rfl
 .exact XZ hr.pos (Int.ediv_pos_of_pos_of_dvd hB (XY g0) (Int.gcd_dvd_right ..))
 .rw[Nat.mul_assoc];exact abq hr.bot d2
 .show(List.zipWith _ r.1 o.1).length<=1000;rw[List.length_zipWith,ol,Nat.min_self];exact rl
open Rw (vr gY gF mH gcL fY fU qQ kZ Big oX i_ lZ jh lV fG)
inductive Stp where
 |swap (i j:Nat)|times (i:Nat) (c:Rat)|add (i j:Nat) (c:Rat)
def stT:Stp->T
 |.swap i j=>.tup [.str "swap",.int i,.int j]
 |.times i c=>.tup [.str "times",.int i,frR c]
 |.add i j c=>.tup [.str "add",.int i,.int j,frR c]
noncomputable def rAt(rs:List Row)(i:Nat):Row:=rs.getD i ([],1)
def wu(rs:List Row):Stp->List Row
 |.swap i j=>(rs.set i (rAt rs j)).set j (rAt rs i)
 |.times i c=>rs.set i (gY (gF (rAt rs i) (pr c)))
 |.add i j c=>rs.set i (gY (mH (rAt rs i) (rAt rs j) (pr c)))
def agW(n:Nat):Stp->Prop
 |.swap i j=>i<n/\j<n
 |.times i c=>i<n/\Fn c
 |.add i j c=>i<n/\j<n/\Fn c
theorem xH{rs:List Row}{i:Nat}(h:i<rs.length):rs[i]?=some (rAt rs i):=by
 unfold rAt;rw[au,aj h];rfl
theorem dZ{rs:List Row}{i:Nat}(h:i<rs.length):rAt rs i∈rs:=aC (xH h)
theorem yG{n i:Nat}(h:i<n):ixN n ((i:Nat):Int)=some i:=by
 unfold ixN;rw[ZY (X9 _),ZY (by lia)];rfl
theorem sU{rs:List Row}{i:Nat}(h:i<rs.length):ixT (rs.map rwT) ((i:Nat):Int)=some (rwT (rAt rs i)):=dF (xH h)
structure Rws(rs:List Row)(wd:Nat):Prop where
 big:∀r∈rs,Big NN r
 wds:∀r∈rs,r.1.length=wd
 few:rs.length<=100
 wde:wd<=1000
def Bs:SO:=λtss ts R=>∃(rs:List Row)(st:Stp)(wd:Nat),tss=[rs.map rwT]/\ts=[stT st]/\Rws rs wd/\agW rs.length st/\R [(wu rs st).map rwT]
theorem Lz(F:Fun K oJ oJ vd f fd)(T:Txt K mg D)(wN:OkT P w K mg base 3 nR nM Ak)(yM:OkT P w K mg base 3 pQ qu Dc):b_ P w K mg base CX0 4 f fd oh (spO K Bs):=by
 refine F.okO Ag (λtss ts R ⟨rs,st,wd,e1,e2,_⟩=>by rw[e1,e2];rfl) (by decide) λcdv A outer s H E hr=>?_;refine⟨_,(bF (bO 2 Ag.nd (Or.inl rfl) (tH 0 (bJ (qv 1) bA)))
  (bG (cB (bZ (go_eq hr.units) (bJ (qv 1) bA) tD)
  (bF (CP 0 (tH 0 (bJ (qv 1) bA)) (bJ (qv 1) bA))
  (bG (CP 0 (qv 2) (bJ (qv 1) bA))))
  (bG (cB (bZ (go_eq hr.units) (bJ (qv 1) bA) tD)
  (bG (CP 0 (bI wN hr.md (by rfl) (bx (qv 2) (bx (bJ (qv 1) bA) bC))) (bJ (qv 1) bA)))
  (bG (CP 0 (bI yM hr.md (by rfl) (bx (qv 2) (bx (tH 0 (bJ (qv 1) bA)) (bx (bJ (qv 1) bA) bC)))) (bJ (qv 1) bA)))))))),?_⟩
 rintro as tss ts R tl ⟨rs,st,wd,rfl,rfl,h,hs,q⟩;obtain⟨a,rfl⟩ : ∃a,as=[a]:=by
  match as,tl with
  |[a],_=>exact⟨a,rfl⟩
 have fin:∀(L:List L2.T)(x y:OT),R [L]->∃tss',(∀j,slot [.la a L,x,y] j=slot (List.zipWith OT.la [a] tss') j\/[a].length<=j)/\tss'.length=[a].length/\R tss':=λL x y q=>⟨[L],λj=>by
  cases j with
  |zero=>exact .inl rfl
  |succ j=>exact .inr (by simp),rfl,q⟩
 have lm:(rs.map rwT).length=rs.length:=ak _
 match st,hs,q with
 |.swap i j,hs,q =>
  refine⟨_,sU hs.1,_,sU hs.2,i,yG (lm ▸ hs.1),j,yG (by rw[List.length_set,lm];exact hs.2),fin _ _ _ ?_⟩;rw[wu,List.map_set,List.map_set]at q;exact q
 |.times i c,hs,q =>
  have m:=dZ hs.1;refine⟨_,sU hs.1,rAt rs i,c,rfl,h.big _ m,by rw[h.wds _ m];exact h.wde,hs.2,i,yG (lm ▸ hs.1),fin _ _ _ ?_⟩;rw[wu,List.map_set]at q;exact q
 |.add i j c,hs,q =>
  have m:=dZ hs.1;have n:=dZ hs.2.1;refine⟨_,sU hs.1,_,sU hs.2.1,rAt rs i,rAt rs j,c,rfl,h.big _ m,h.big _ n,by rw[h.wds _ m];exact h.wde,by rw[h.wds _ m,h.wds _ n],hs.2.2,i,yG (lm ▸ hs.1),fin _ _ _ ?_⟩;rw[wu,List.map_set]at q;exact q
open Rw (vr gY gF mH gcL fY fU qQ kZ Big oX i_ lZ jh lV fG)
def sX:ST:=λts q=>∃(r:Row)(k:Nat),ts=[rwT r,.int k]/\k<r.1.length/\Big NN r/\q (.fz (frR (vr r k)))
theorem Mf(F:Fun K kI kI u_ f fd)(dH:OkT P w K mg base 2 mF mQ rQ):b_ P w K mg base CX0 3 f fd kY (spT K sX):=by
 refine F.okT KR (λts R hP=>by obtain⟨r,k,e,_⟩:=hP;exact e ▸ rfl) λcdv A outer s H E hr=>?_;refine⟨_,(bG (bN (bI dH hr.md (by rfl) (bx (bJ (bJ (qv 0) bA) (qv 1)) (bx (bJ (qv 0) bA) bC))))),?_⟩;rintro _ R ⟨r,k,rfl,hk,hr,q⟩;have h0:=hr.pos;refine⟨_,dF (aj hk),_,_,rfl,by exact Int.ne_of_gt h0,bdN hr.bot,λx y l=>?_⟩;rw[iG l (Int.ne_of_gt h0),Rat.divInt_eq_div];unfold vr at q;rw[au,aj hk]at q;exact q
def ux:ST:=λts q=>∃(rs:List Row)(wd:Nat),ts=[.lst (rs.map rwT)]/\Rws rs wd/\q (.l1 (rs.map λr=>.lst ((List.range wd).map λk=>frR (vr r k))))
theorem DG(F:Fun K jm jm gQ f fd)(dH:OkT P w K mg base 2 mF mQ rQ):b_ P w K mg base CX0 3 f fd jj (spT K ux):=by
 refine F.okT Dt (λts R hP=>by obtain⟨r,k,e,_⟩:=hP;exact e ▸ rfl) λcdv A outer s H E hr=>?_;refine⟨_,(bG (bN (ab4 (bH gQ) gP gP "row" (cH (qv 0)) acJ cD (Ul (bH gQ) ("row"::gP) ("row"::gP) ["top"] (cH (bJ (qv 0) bA)) (fu (i:=0)) cD (bI dH hr.md (by rfl) (bx (qv 0) (bx (bJ (qv 1) bA) bC))))))),?_⟩;rintro _ R ⟨rs,wd,rfl,h,q⟩;refine⟨by rw[ak];exact aL h.few (by decide),comp_map rwT (λr=>.lst ((List.range wd).map λk=>frR (vr r k))) rs (λr hr N M hN=>⟨by rw[ak,h.wds r hr];exact aL h.wde (by decide),?_⟩) q⟩;have hb:=h.big r hr;have h0:=hb.pos;refine comp_map T.int (λt=>frR ((t:Rat)/(r.2:Rat))) r.1 (λt ht N M hN=>⟨_,_,rfl,by exact Int.ne_of_gt h0,bdN hb.bot,λx y l=>by rw[iG l (Int.ne_of_gt h0),Rat.divInt_eq_div];exact hN⟩) ?_;have e:(r.1.map λt:Int=>frR ((t:Rat)/(r.2:Rat)))=(List.range wd).map λk=>frR (vr r k):=by
  refine List.ext_getElem (by rw[ak,ak,List.length_range,h.wds r hr]) λn h1 h2=>?_;rw[ak]at h1;rw[List.getElem_map,List.getElem_map,List.getElem_range];unfold vr;rw[au,aj h1]
  rfl
 rw[e];exact hN
theorem ZP{lo n i:Nat}{t:T}(e:(rng (lo:Nat) n)[i]?=some t):i<n/\t=.int ((lo+i:Nat):Int):=by
 unfold rng at e;rw[aq]at e;by_cases hi:i<n
 .rw[List.getElem?_range hi]at e;cases e;exact⟨hi,rfl⟩
 .rw[aM (by simpa using hi)]at e;cases e
theorem Xi{r:Row}{k:Nat}(h:0<r.2)(hk:k<r.1.length):vr r k=0↔r.1[k]=0:=by
 have e:vr r k=(r.1[k] : Rat)/(r.2:Rat):=by unfold vr;rw[au,aj hk];rfl
 have n:(r.2:Rat)≠0:=λz=>by have:=Rat.intCast_eq_zero_iff.mp z;lia
 rw[e];constructor
 .intro z;have:(r.1[k] : Rat)=0:=by grind
  exact Rat.intCast_eq_zero_iff.mp this
 .intro z;rw[z];grind
def xP:ST:=λts R=>∃(rs:List Row)(wd p k:Nat),ts=[.lst (rs.map rwT),.int p,.int k]/\Rws rs wd/\p<=rs.length/\k<wd/\(∀q,p<=q->q<rs.length->vr (rAt rs q) k≠0->R (.fz (.int q)))/\((∀i,p<=i->i<rs.length->vr (rAt rs i) k=0)->R (.fz .non))
theorem Iv(F:Fun K lQ lQ sJ f fd)(T:Txt K mg D):b_ P w K mg base CX0 1 f fd lX (spT K xP):=by
 refine F.okT yj (λts R hP=>by obtain⟨r,_,_,k,e,_⟩:=hP;exact e ▸ rfl) λcdv A outer s H E hr=>?_;refine⟨_,(bF (dM PassesOwn.never rfl (BZ (by rfl) T.d9 (bx (qv 1) (bx (bT cU (by rfl) T.dU PySem.boot_len (bx (qv 0) bC)) bC))) (bY (n:=99) 3 yj.nd (Or.inl rfl))
  (bG (cB (bZ (lA hr.units) (bJ (bJ (bJ (qv 0) (qv 3)) bA) (qv 2)) bA)
  (bG (bN (qv 3)))
  bR)))
  (bG (bN jy))),?_⟩
 rintro _ R ⟨rs,wd,p,k,rfl,h,hp,hk,q,q0⟩;have at_:∀i,i<rs.length->k<(rAt rs i).1.length:=λi hi=>by rw[h.wds _ (dZ hi)];exact hk
 have few:=h.few;have lm:(rs.map rwT).length=rs.length:=ak _;refine⟨⟨by lia,by lia,by lia,by lia⟩,A_ (λi o=>∃x,o=[.fz (.lst (rs.map rwT)),.fz (.int p),.fz (.int k),x]/\∀j,p<=j->j<p+i->vr (rAt rs j) k=0) _ 0 ⟨_,rfl,λj _ _=>by lia⟩ (λi t o e z=>?_) λo z=>?_⟩
 .obtain⟨hi,rfl⟩:=ZP e;rw[lm]at hi;have hi':p+i<rs.length:=by omega
  obtain⟨x,rfl,hz⟩:=z;have v0:=Xi (h.big _ (dZ hi')).pos (at_ _ hi');refine⟨_,sU hi',_,dF (aj (at_ _ hi')),?_⟩;by_cases c:(rAt rs (p+i)).1[k]'(at_ _ hi')=0
  .refine swF (by show xr true (decide (_=_))=false;rw[Zs c];rfl) ⟨_,rfl,λj hj hl=>?_⟩;by_cases ej:j=p+i
   .rw[ej];exact v0.mpr c
   .exact hz j hj (by lia)
  .exact swT (by show xr true (decide (_=_))=true;rw[Zp c];rfl) (q _ (X1 _ _) hi' λz=>c (v0.mp z))
 .obtain⟨x,rfl,hz⟩:=z;refine q0 λj hj hl=>hz j hj ?_;unfold rng;rw[ak,List.length_range,lm];lia
def GF:SO:=λtss ts R=>∃(rs:List Row)(ss:List T)(st:Stp)(wd:Nat),tss=[rs.map rwT,ss]/\ts=[stT st]/\Rws rs wd/\agW rs.length st/\ss.length<sizeLine/\R [(wu rs st).map rwT,ss++[stT st]]
theorem W_(F:Fun K uX uX Mr f fd)(vR:OkF P w K mg base 4 oJ oh (spO K Bs)):b_ P w K mg base CX0 5 f fd wL (spO K GF):=by
 refine F.okO WX (λtss ts R ⟨rs,ss,st,wd,e1,e2,_⟩=>by rw[e1,e2];rfl) (by decide) λcdv A outer s H E hr=>?_;refine⟨_,(bF (afb 0 vR hr.md (by rfl) (bx (qv 2) bC))
  (bG (o9 1 (qv 2)))),?_⟩
 rintro as tss ts R tl ⟨rs,ss,st,wd,rfl,rfl,h,hs,hl,q⟩;obtain⟨a,b,rfl⟩ : ∃a b,as=[a,b]:=by
  match as,tl with
  |[a,b],_=>exact⟨a,b,rfl⟩
 refine⟨rs,st,wd,rfl,rfl,h,hs,hl,[(wu rs st).map rwT,ss++[stT st]],λj=>?_,rfl,q⟩
 match j with
 |0=>exact .inl rfl
 |1=>exact .inl rfl
 |j+2=>exact .inr (by simp)
open Rw (vr gY gF mH gcL fY fU qQ kZ Big oX i_ lZ jh lV fG)
theorem Ed{rs:List Row}{i:Nat}{r:Row}(h:i<rs.length)(j:Nat):rAt (rs.set i r) j=if j=i then r else rAt rs j:=by
 unfold rAt;rw[au,au,List.getElem?_set];by_cases e:i=j
 .subst e;rw[ZY rfl,ZY rfl,ZY h];rfl
 .rw[ZZ e,ZZ (Ne.symm e)]
theorem Fn.of{a b:Int}(hb:b≠0)(h1:a.natAbs<=NN)(h2:b.natAbs<=NN):Fn (Rat.divInt a b):=by
 have hg:=Int.gcd_pos_of_ne_zero_right a hb;have low:∃x y,Low a b x y:=by
  rcases Int.lt_or_lt_of_ne hb with z|z
  .exact⟨_,_,v7 (c:=-((Int.gcd a b:Nat):Int)) hb (by lia) (by lia) (Int.mul_pos_of_neg_of_neg (by lia) z)⟩
  .exact⟨_,_,v7 (c:=((Int.gcd a b:Nat):Int)) hb (by lia) (by lia) (XZ (by lia) z)⟩
 obtain⟨x,y,l⟩:=low;have e:=iG l hb;injection e with e;injection e with e1 e;injection e with e2 e;injection e1 with e1;injection e2 with e2;exact⟨by rw[<- e1];exact aL l.lx h1,by have:=l.ly;lia⟩
theorem Wy{r:Row}{k:Nat}(hk:k<r.1.length):vr r k=Rat.divInt r.1[k] r.2:=by
 unfold vr;rw[au,aj hk,Rat.divInt_eq_div];rfl
theorem Fn.vr{r:Row}{k:Nat}(h:Big NN r)(hk:k<r.1.length):Fn (vr r k):=by
 have:=h.pos;rw[Wy hk];exact Fn.of (Int.ne_of_gt this) (h.top _ (aU _)) h.bot
theorem Fn.inv{c:Rat}(h:Fn c)(h0:c≠0):Fn (1/c):=by
 have nb:c.num≠0:=λz=>h0 (by rw[<- rd c,z];exact Rat.zero_divInt _);rw[Rat.div_def,Rat.one_mul,Rat.inv_def];exact Fn.of nb h.d h.n
theorem Fn.neg{c:Rat}(h:Fn c):Fn (0-c):=by
 rw[Rat.sub_eq_add_neg,Rat.zero_add];exact⟨by show(-c.num).natAbs<=NN;rw[Int.natAbs_neg];exact h.n,h.d⟩
theorem Fn.bq{c:Rat}(h:Fn c):Bq c:=⟨bdN h.n,bdN h.d⟩
theorem Rws.fn{rs:List Row}{wd i k:Nat}(h:Rws rs wd)(hi:i<rs.length)(hk:k<wd):Fn (Rw.vr (rAt rs i) k):=Fn.vr (h.big _ (dZ hi)) (by rw[h.wds _ (dZ hi)];exact hk)
theorem Rws.of{rs rs':List Row}{wd:Nat}(h:Rws rs wd)(hl:rs'.length=rs.length)(hr:∀i,i<rs.length->Big NN (rAt rs' i)/\(rAt rs' i).1.length=wd):Rws rs' wd:=by
 have:∀r∈rs',Big NN r/\r.1.length=wd:=λr hm=>by
  obtain⟨i,hi,e0⟩:=List.getElem_of_mem hm;have e:=xH hi;rw[aj hi,e0]at e;injection e with e;rw[e];exact hr i (hl ▸ hi)
 exact⟨λr hm=>(this r hm).1,λr hm=>(this r hm).2,hl ▸ h.few,h.wde⟩
theorem Fq(rs:List Row)(st:Stp):(wu rs st).length=rs.length:=by cases st<;>simp[wu]
def bgP(r:Row)(k:Nat):Row:=if vr r k=1 then r else gY (gF r (pr (1/vr r k)))
def bgA(rs:List Row)(p q k i:Nat):Row:=if i=p then bgP (rAt rs q) k else rAt rs (Rw.sw p q i)
def swR(rs:List Row)(p q:Nat):List Row:=if q=p then rs else wu rs (.swap p q)
theorem abz(rs:List Row)(p q:Nat):(swR rs p q).length=rs.length:=by
 unfold swR;split
 .rfl
 .exact Fq _ _
theorem ad1{rs:List Row}{p q:Nat}(hp:p<rs.length)(hq:q<rs.length)(i:Nat):rAt (swR rs p q) i=rAt rs (Rw.sw p q i):=by
 unfold swR Rw.sw;by_cases e:q=p
 .subst e;rw[ZY rfl];by_cases c:i=q
  .rw[ZY c,c]
  .rw[ZZ c,ZZ c]
 .rw[ZZ e];show rAt ((rs.set p (rAt rs q)).set q (rAt rs p)) i=_;rw[Ed (by rw[List.length_set];exact hq),Ed hp];by_cases c:i=q
  .subst c;rw[ZY rfl,ZZ e,ZY rfl]
  .rw[ZZ c];by_cases d:i=p
   .rw[ZY d,ZY d]
   .rw[ZZ d,ZZ d,ZZ c]
def zE:SO:=λtss ts R=>∃(rs:List Row)(ss:List T)(wd p q k:Nat),tss=[rs.map rwT,ss]/\ts=[.int p,.int q,.int k]/\Rws rs wd/\p<rs.length/\q<rs.length/\k<wd/\vr (rAt rs q) k≠0/\ss.length+2<sizeLine /\
 ∀rs' ss',rs'.length=rs.length->(∀i,i<rs.length->rAt rs' i=bgA rs p q k i)->ss'.length<=ss.length+2->R [rs'.map rwT,ss']
theorem adU{x y:RS}{E:DT}{o:List OT}(J:List OT->Prop)(k:∀o',J o'->y E o')(h:(∀o',J o'->y E o')->iR x y E o):iR x y E o:=h k
theorem eqR(v u:Rat):(decide (v.num=u.num)&&decide (((v.den:Nat):Int)=u.den))=decide (v=u):=by
 rw[<- Bool.decide_and];refine decide_eq_decide.mpr ⟨λ⟨a,b⟩=>Rat.ext a (by lia),λz=>by rw[z];exact⟨rfl,rfl⟩⟩
theorem fin2{R:List (List T)->Prop}{a b:Addr}(L M:List T){o:List OT}(q:R [L,M]):∃tss',(∀j,slot (.la a L::.la b M::o) j=slot (List.zipWith OT.la [a,b] tss') j\/[a,b].length<=j)/\tss'.length=[a,b].length/\R tss':=⟨[L,M],λj=>by
 match j with
 |0=>exact .inl rfl
 |1=>exact .inl rfl
 |j+2=>exact .inr (by simp),rfl,q⟩
theorem WK{α β:Type}{as:List α}{x y:β}(tl : [x,y].length=as.length):∃a b,as=[a,b]:=by
 match as,tl with
 |[a,b],_=>exact⟨a,b,rfl⟩
theorem Kq(F:Fun K oF oF uZ f fd)(T:Txt K mg D)(tR:OkF P w K mg base 5 uX wL (spO K GF))(jC:OkT P w K mg base 3 kI kY sX)(Ti:OkT P w K mg base 3 D_ Ea Uc):b_ P w K mg base CX0 6 f fd nW (spO K zE):=by
 refine F.okO zK (λtss ts R ⟨rs,ss,wd,p,q,k,e1,e2,_⟩=>by rw[e1,e2];rfl) (by decide) λcdv A outer s H E hr=>?_;refine⟨_,(bF (cB (bZ (lA hr.units) (qv 3) (qv 2))
  (bG (Fl 0 1 tR hr.md (by rfl) (bx (dh (bx tD (bx (qv 2) (bx (qv 3) bC)))) bC)))
  bR)
  (bF (bO 5 zK.nd (Or.inl rfl) (bI jC hr.md (by rfl) (bx (tH 0 (qv 2)) (bx (qv 4) bC))))
  (bG (cB (bZ (lA hr.units) (qv 5) (lB (by rfl) T.CT T.uW))
  (bG (Fl 0 1 tR hr.md (by rfl) (bx (dh (bx tD (bx (qv 2) (bx (bI Ti hr.md (by rfl) (bx (lB (by rfl) T.CT T.uW) (bx (qv 5) bC))) bC)))) bC)))
  bR)))),?_⟩
 rintro as tss ts R tl ⟨rs,ss,wd,p,q,k,rfl,rfl,h,hp,hq,hk,h0,hl,ok⟩;obtain⟨a,b,rfl⟩:=WK tl;have sl:=abz rs p q;have sa:=ad1 hp hq;have spp:Rw.sw p q p=q:=ZY rfl;have swl:∀i,i<rs.length->Rw.sw p q i<rs.length:=λi hi=>by
  unfold Rw.sw;split
  .exact hq
  .split<;>omega
 have hS:Rws (swR rs p q) wd:=h.of sl λi hi=>by rw[sa];exact⟨h.big _ (dZ (swl i hi)),h.wds _ (dZ (swl i hi))⟩
 refine adU (λo=>∃ss1,o=[.la a ((swR rs p q).map rwT),.la b ss1,.fz (.int p),.fz (.int q),.fz (.int k),.und]/\ss1.length<=ss.length+1) ?_ λgo=>?_
 .rintro _ ⟨ss1,rfl,l1⟩;have hp':p<(swR rs p q).length:=by lia
  have hk':k<(rAt (swR rs p q) p).1.length:=by rw[hS.wds _ (dZ hp')];exact hk
  have fn:=hS.fn hp' hk;refine⟨_,sU hp',_,k,rfl,hk',hS.big _ (dZ hp'),?_⟩;have v:vr (rAt (swR rs p q) p) k=vr (rAt rs q) k:=by rw[sa,spp]
  rw[v];rw[v]at fn;by_cases e:vr (rAt rs q) k=1
  .refine swF (by show xr true (_&&_)=false;rw[show(decide ((vr (rAt rs q) k).num=1)&&decide (((vr (rAt rs q) k).den:Int)=1))=_ from eqR _ 1,Zs e];rfl) (fin2 _ _ (ok _ _ sl (λi hi=>?_) (aL l1 (Xs _))));rw[sa];unfold bgA bgP;split
   .rename_i c;rw[c,spp]
   .rfl
  .refine swT (by show xr true (_&&_)=true;rw[show(decide ((vr (rAt rs q) k).num=1)&&decide (((vr (rAt rs q) k).den:Int)=1))=_ from eqR _ 1,Zp e];rfl) ⟨1,_,rfl,h0,bq1,fn.bq,by show Bd (1*_);rw[Int.one_mul];exact bdN fn.n,swR rs p q,ss1,.times p (1/vr (rAt rs q) k),wd,rfl,rfl,hS,⟨hp',fn.inv h0⟩,by lia,fin2 _ _ (ok _ _ (by rw[Fq];exact sl) (λi hi=>?_) (by rw[aA];show _+1<=_;exact Nat.succ_le_succ l1))⟩;show rAt ((swR rs p q).set p _) i=_;rw[Ed hp',sa,sa,spp];unfold bgA bgP;split
   .rfl
   .rfl
 .by_cases e:q=p
  .refine swF (by show xr true (decide (_=_))=false;rw[Zs (by lia)];rfl) (go [.la a (rs.map rwT),.la b ss,.fz (.int p),.fz (.int q),.fz (.int k),.und] ⟨ss,?_,by exact Xs _⟩);unfold swR;rw[ZY e]
  .refine swT (by show xr true (decide (_=_))=true;rw[Zp (by lia)];rfl) ⟨rs,ss,.swap p q,wd,rfl,rfl,h,⟨hp,hq⟩,by lia,go [.la a ((wu rs (.swap p q)).map rwT),.la b (ss++[stT (.swap p q)]),.fz (.int p),.fz (.int q),.fz (.int k),.und] ⟨ss++[stT (.swap p q)],?_,by simp⟩⟩;unfold swR;rw[ZZ e]
open Rw (vr gY gF mH gcL fY fU qQ kZ Big oX i_ lZ jh lV fG)
def clA(rs:List Row)(p k i:Nat):Row:=if i=p\/vr (rAt rs i) k=0 then rAt rs i else gY (mH (rAt rs i) (rAt rs p) (pr (0-vr (rAt rs i) k)))
def uw:SO:=λtss ts R=>∃(rs:List Row)(ss:List T)(wd p k:Nat),tss=[rs.map rwT,ss]/\ts=[.int p,.int k]/\Rws rs wd/\p<rs.length/\k<wd/\ss.length+rs.length<sizeLine/\(∀i,i<rs.length->Big NN (clA rs p k i)) /\
 ∀rs' ss',rs'.length=rs.length->(∀i,i<rs.length->rAt rs' i=clA rs p k i)->ss'.length<=ss.length+rs.length->R [rs'.map rwT,ss']
theorem abt{rs:List Row}{p k i wd:Nat}(h:Rws rs wd)(hp:p<rs.length)(hi:i<rs.length):(clA rs p k i).1.length=wd:=by
 unfold clA;split
 .exact h.wds _ (dZ hi)
 .rw[jh];show(List.zipWith _ (rAt rs i).1 (rAt rs p).1).length=wd;rw[List.length_zipWith,h.wds _ (dZ hi),h.wds _ (dZ hp),Nat.min_self]
theorem Dp(F:Fun K jo jo pC f fd)(T:Txt K mg D)(tR:OkF P w K mg base 5 uX wL (spO K GF))(jC:OkT P w K mg base 3 kI kY sX)(nU:OkT P w K mg base 3 rM rN zc):b_ P w K mg base CX0 6 f fd ji (spO K uw):=by
 refine F.okO mR (λtss ts R ⟨rs,ss,wd,p,k,e1,e2,_⟩=>by rw[e1,e2];rfl) (by decide) λcdv A outer s H E hr=>?_;refine⟨_,(bG (dM PassesOwn.never rfl (dB (by rfl) T.d9 (bx (Nz 0 (bT cU (by rfl) T.dU PySem.boot_len (bx (qv 0) bC))) bC)) (bY (n:=99) 4 mR.nd (Or.inl rfl))
  (bG (cB (QW.qt (NT (bZ (lA hr.units) (qv 4) (qv 2)) (Fd (bZ (lA hr.units) (bJ (bJ (tH 0 (qv 4)) bA) (qv 3)) bA))))
  (bF (bO 5 mR.nd (Or.inl rfl) (bI nU hr.md (by rfl) (bx (lB (by rfl) T.jg T.gC) (bx (bI jC hr.md (by rfl) (bx (tH 0 (qv 4)) (bx (qv 3) bC))) bC))))
  (bG (Fl 0 1 tR hr.md (by rfl) (bx (dh (bx tD (bx (qv 4) (bx (qv 2) (bx (qv 5) bC))))) bC))))
  bR)))),?_⟩
 rintro as tss ts R tl ⟨rs,ss,wd,p,k,rfl,rfl,h,hp,hk,hl,hb,ok⟩;obtain⟨a,b,rfl⟩:=WK tl;have lm:(rs.map rwT).length=rs.length:=ak _;have few:=h.few;refine⟨trivial,⟨by lia,by lia⟩,mO (λn o=>∃rs1 ss1 x y,o=[.la a (rs1.map rwT),.la b ss1,.fz (.int p),.fz (.int k),x,y]/\rs1.length=rs.length/\(∀i,i<rs.length->rAt rs1 i=if i<n then clA rs p k i else rAt rs i)/\ss1.length<=ss.length+n) ⟨rs,ss,_,_,rfl,rfl,λi _=>by rw[ZZ (WZ _)],aG _⟩ ?_ ?_⟩
 .rintro n _ hn ⟨rs1,ss1,x,y,rfl,l1,at1,s1⟩;have hn:n<rs.length:=by rw[lm]at hn;lia
  have rn:rAt rs1 n=rAt rs n:=by rw[at1 n hn,ZZ (X2 _)]
  have rp:rAt rs1 p=rAt rs p:=by
   rw[at1 p hp];split
   .unfold clA;rw[ZY (.inl rfl)]
   .rfl
  have h1:Rws rs1 wd:=h.of l1 λi hi=>by
   rw[at1 i hi];split
   .exact⟨hb i hi,abt h hp hi⟩
   .exact⟨h.big _ (dZ hi),h.wds _ (dZ hi)⟩
  have stay:clA rs p k n=rAt rs n->∀i,i<rs.length->rAt rs1 i=if i<n+1 then clA rs p k i else rAt rs i:=λe i hi=>by
   rw[at1 i hi];by_cases c:i=n
   .subst c;rw[ZZ (X2 _),ZY (X0 _),e]
   .by_cases d:i<n
    .rw[ZY d,ZY (WV _ d)]
    .rw[ZZ d,ZZ (by lia)]
  by_cases e:n=p
  .exact swF (by show xr true (decide (_=_))=false;rw[Zs (by lia)];rfl) ⟨rs1,ss1,_,_,rfl,l1,stay (ZY (.inl e)),by lia⟩
  .have hn1:n<rs1.length:=by lia
   have hk1:k<(rAt rs1 n).1.length:=by rw[h1.wds _ (dZ hn1)];exact hk
   have v0:=Xi (h1.big _ (dZ hn1)).pos hk1;refine swT (by show xr true (decide (_=_))=true;rw[Zp (by lia)];rfl) ⟨_,sU hn1,_,dF (aj hk1),?_⟩;by_cases c:(rAt rs1 n).1[k]'hk1=0
   .exact swF (by show xr true (decide (_=_))=false;rw[Zs c];rfl) ⟨rs1,ss1,_,_,rfl,l1,stay (ZY (.inr (by rw[<- rn];exact v0.mpr c))),by lia⟩
   .have fn:=h1.fn hn1 hk;refine swT (by show xr true (decide (_=_))=true;rw[Zp c];rfl) ⟨_,sU hn1,_,k,rfl,hk1,h1.big _ (dZ hn1),0,_,rfl,bq0,fn.bq,by show Bd (1*_);rw[Int.one_mul];exact bdN fn.d,rs1,ss1,.add n p (0-vr (rAt rs1 n) k),wd,rfl,rfl,h1,⟨hn1,by lia,fn.neg⟩,by lia,wu rs1 (.add n p (0-vr (rAt rs1 n) k)),ss1++[stT (.add n p (0-vr (rAt rs1 n) k))],_,_,rfl,by rw[Fq];exact l1,λi hi=>?_,by rw[aA];show _+1<=_;lia⟩;show rAt (rs1.set n _) i=_;rw[Ed hn1,rn,rp];by_cases d:i=n
    .rw[ZY d,d,ZY (X0 _)];unfold clA;rw[ZZ λz=>z.elim e λz=>c (v0.mp (by rw[rn];exact z))]
    .rw[ZZ d,at1 i hi];by_cases d':i<n
     .rw[ZY d',ZY (WV _ d')]
     .rw[ZZ d',ZZ (by lia)]
 .rintro _ ⟨rs1,ss1,x,y,rfl,l1,at1,s1⟩;rw[lm]at at1 s1;exact fin2 _ _ (ok rs1 ss1 l1 (λi hi=>by rw[at1 i hi,ZY (by lia)]) (by lia))
open Rw (vr gY gF mH gcL fY fU qQ kZ Big oX i_ lZ jh lV fG sg iT g8 cg jr jA)
theorem XJ(c:Rat):(((pr c).1:Int):Rat)/(((pr c).2:Int):Rat)=c:=by rw[<- Rat.divInt_eq_div];exact rd c
theorem Lk(c:Rat):0<(pr c).2:=by have:=c.den_pos;show(0:Int)<(c.den:Nat);lia
theorem Vf{r:Row}(h:0<r.2):0<(gY r).2:=Int.ediv_pos_of_pos_of_dvd h (XY (fY h)) fU.1
theorem aeC{r:Row}{k:Nat}(h:0<r.2)(h0:vr r k≠0):0<(bgP r k).2/\(bgP r k).1.length=r.1.length/\(gcL (bgP r k).1 (bgP r k).2=1\/bgP r k=r)/\∀j,vr (bgP r k) j*vr r k=vr r j:=by
 unfold bgP;by_cases e:vr r k=1
 .rw[ZY e];exact⟨h,rfl,.inr rfl,λj=>by rw[e,Rat.mul_one]⟩
 .rw[ZZ e];have tp:0<(gF r (pr (1/vr r k))).2:=XZ h (Lk _);refine⟨Vf tp,by rw[jh];unfold gF;rw[ak],.inl (kZ tp),λj=>?_⟩;rw[oX tp,i_ h (Lk _),XJ]
  grind
theorem adN{rs:List Row}{p k i:Nat}(hi:0<(rAt rs i).2)(hp:0<(rAt rs p).2)(hl:(rAt rs i).1.length=(rAt rs p).1.length):0<(clA rs p k i).2/\(gcL (clA rs p k i).1 (clA rs p k i).2=1\/clA rs p k i=rAt rs i)/\∀j,vr (clA rs p k i) j=if i=p then vr (rAt rs p) j else vr (rAt rs i) j-vr (rAt rs i) k*vr (rAt rs p) j:=by
 unfold clA;by_cases e:i=p
 .rw[ZY (.inl e)];exact⟨hi,.inr rfl,λj=>by rw[ZY e,e]⟩
 .by_cases z:vr (rAt rs i) k=0
  .rw[ZY (.inr z)];exact⟨hi,.inr rfl,λj=>by rw[ZZ e,z];grind⟩
  .rw[ZZ λy=>y.elim e z];have tp:0<(mH (rAt rs i) (rAt rs p) (pr (0-vr (rAt rs i) k))).2:=by
    have hB:=XZ hp (Lk (0-vr (rAt rs i) k));exact XZ hi (Int.ediv_pos_of_pos_of_dvd hB (XY (mj (Int.ne_of_gt hB))) (Int.gcd_dvd_right _ _))
   refine⟨Vf tp,.inl (kZ tp),λj=>?_⟩;rw[oX tp,lZ hi hp (Lk _) hl,XJ,ZZ e]
   grind
structure FnB(M:Nat)(c:Rat):Prop where
 n:c.num.natAbs<=M
 d:c.den<=M
theorem FnB.vr{M:Nat}{r:Row}{k:Nat}(h:Big M r)(hk:k<r.1.length):FnB M (Rw.vr r k):=by
 have hb:=h.pos;have hg:=Int.gcd_pos_of_ne_zero_right r.1[k] (Int.ne_of_gt hb);have l:=v7 (t:=r.1[k]) (c:=((Int.gcd r.1[k] r.2:Nat):Int)) (Int.ne_of_gt hb) (by lia) (by lia) (XZ (by lia) hb);have e:=iG l (Int.ne_of_gt hb);rw[Wy hk];injection e with e;injection e with e1 e;injection e with e2 e;injection e1 with e1;injection e2 with e2;exact⟨by rw[<- e1];exact aL l.lx (h.top _ (aU _)),by have:=l.ly;have:=h.bot;omega⟩
structure B0(rs0:List Row)(wd N:Nat):Prop where
 big:∀i,i<rs0.length->Big N (rAt rs0 i)/\(rAt rs0 i).1.length=wd
 one:1<=N
 mb:(2*rs0.length*N)^rs0.length<=NN
 nn:N<=NN
abbrev aT(rs0:List Row)(i j:Nat):Int:=(rAt rs0 i).1.getD j 0
abbrev aB(rs0:List Row)(i:Nat):Int:=(rAt rs0 i).2
structure Gs(rs0:List Row)(wd N c:Nat)(rs:List Row):Prop where
 len:rs.length=rs0.length
 row:∀i,i<rs0.length->0<(rAt rs i).2/\(rAt rs i).1.length=wd/\(gcL (rAt rs i).1 (rAt rs i).2=1\/Big N (rAt rs i))
 st:∃pv s,fG (aT rs0) (aB rs0) rs0.length wd (λi j=>vr (rAt rs i) j) c pv s
 unit:∀i l,i<rs0.length->l<c->vr (rAt rs i) l=if i=l then 1 else 0
 ker:∀x:Nat->Rat,(∀i,i<rs0.length->sg (λj=>vr (rAt rs i) j*x j) wd=0)->∀i,i<rs0.length->sg (λj=>vr (rAt rs0 i) j*x j) wd=0
section
variable{rs0 rs:List Row}{wd N c q:Nat}
theorem B0.zero(h:B0 rs0 wd N):Gs rs0 wd N 0 rs0:=⟨rfl,λi hi=>⟨(h.big i hi).1.pos,(h.big i hi).2,.inr (h.big i hi).1⟩,⟨λ_=>0,id,fG.zero λi hi=>(h.big i hi).1.pos⟩,λ_ _ _ z=>absurd z (WZ _),λ_ z=>z⟩
theorem akc{m N:Nat}(hm:1<=m)(h1:1<=N):N<=(2*m*N)^m:=by
  have x:N<=2*m*N:=Nat.le_mul_of_pos_left _ (by lia);have y:1<=2*m*N:=Nat.mul_le_mul (show 1<=2*m by lia) h1
  calc N<=(2*m*N)^1:=by rw[Nat.pow_one];exact x
    _<=_:=XU y hm
theorem B0.sbigM(h:B0 rs0 wd N){R:Nat->Nat->Rat}{p:Nat}(st:∃pv s,fG (aT rs0) (aB rs0) rs0.length wd R p pv s){i:Nat}(hi:i<rs0.length){r:Row}(hr:0<r.2)(hw:r.1.length=wd)(g:gcL r.1 r.2=1\/Big N r)(e:∀j,j<wd->vr r j=R i j):Big ((2*rs0.length*N)^rs0.length) r:=by
 rcases g with g|g
 .obtain⟨pv,s,st⟩:=st;obtain⟨v,u,u0,ub,vb,ee⟩:=st.bound h.one (λi j hi hj=>by
   have b:=h.big i hi;show((rAt rs0 i).1.getD j 0).natAbs<=N;rw[au,aj (by rw[b.2];exact hj)];exact b.1.top _ (aU _)) (λi hi=>⟨(h.big i hi).1.pos,(h.big i hi).1.bot⟩) hi
  exact lV hr g hw u0 ub vb λj hj=>by rw[e j hj];exact ee j hj
 .exact g.le (akc (by lia) h.one)
theorem B0.sbig(h:B0 rs0 wd N){R:Nat->Nat->Rat}{p:Nat}(st:∃pv s,fG (aT rs0) (aB rs0) rs0.length wd R p pv s){i:Nat}(hi:i<rs0.length){r:Row}(hr:0<r.2)(hw:r.1.length=wd)(g:gcL r.1 r.2=1\/Big N r)(e:∀j,j<wd->vr r j=R i j):Big NN r:=(h.sbigM st hi hr hw g e).le h.mb
theorem Gs.bigM(g:Gs rs0 wd N c rs)(h:B0 rs0 wd N){i:Nat}(hi:i<rs0.length):Big ((2*rs0.length*N)^rs0.length) (rAt rs i):=h.sbigM g.st hi (g.row i hi).1 (g.row i hi).2.1 (g.row i hi).2.2 λ_ _=>rfl
theorem Gs.big(g:Gs rs0 wd N c rs)(h:B0 rs0 wd N){i:Nat}(hi:i<rs0.length):Big NN (rAt rs i):=h.sbig g.st hi (g.row i hi).1 (g.row i hi).2.1 (g.row i hi).2.2 λ_ _=>rfl
theorem U8{p q i m:Nat}(hp:p<m)(hq:q<m)(hi:i<m):Rw.sw p q i<m:=by
 unfold Rw.sw;split
 .exact hq
 .split<;>omega
theorem acB(p q i:Nat):Rw.sw p q (Rw.sw p q i)=i:=by
 unfold Rw.sw;by_cases a:i=p
 .subst a;rw[ZY rfl];by_cases b:q=i
  .rw[ZY b,b]
  .rw[ZZ b,ZY rfl]
 .by_cases b:i=q
  .subst b;rw[ZZ a,ZY rfl,ZY rfl]
  .rw[ZZ a,ZZ b,ZZ a,ZZ b]
theorem Gs.next(g:Gs rs0 wd N c rs)(h:B0 rs0 wd N)(hc:c<rs0.length)(cw:c<wd)(hq:c<=q)(hq':q<rs0.length)(h0:vr (rAt rs q) c≠0){rs2:List Row}(e2:∀i,i<rs0.length->rAt rs2 i=bgA rs c q c i) :
  (∀i,i<rs0.length->Big NN (rAt rs2 i)/\(rAt rs2 i).1.length=wd)/\(∀i,i<rs0.length->Big NN (clA rs2 c c i))/\∀rs3:List Row,rs3.length=rs0.length->(∀i,i<rs0.length->rAt rs3 i=clA rs2 c c i)->Gs rs0 wd N (c+1) rs3:=by
 have spp:Rw.sw c q c=q:=ZY rfl;obtain⟨b1,b2,b3,b4⟩:=aeC (g.row q hq').1 h0;have ec:rAt rs2 c=bgP (rAt rs q) c:=by rw[e2 c hc];exact ZY rfl
 have ei:∀i,i<rs0.length->i≠c->rAt rs2 i=rAt rs (Rw.sw c q i):=λi hi ne=>by rw[e2 i hi];exact ZZ ne
 have row2:∀i,i<rs0.length->0<(rAt rs2 i).2/\(rAt rs2 i).1.length=wd/\(gcL (rAt rs2 i).1 (rAt rs2 i).2=1\/Big N (rAt rs2 i)):=λi hi=>by
  by_cases e:i=c
  .rw[e,ec];refine⟨b1,by rw[b2];exact(g.row q hq').2.1,b3.elim .inl λz=>?_⟩;rw[z];exact(g.row q hq').2.2
  .rw[ei i hi e];exact g.row _ (U8 hc hq' hi)
 have cl:=λi(hi:i<rs0.length)=>adN (rs:=rs2) (p:=c) (k:=c) (i:=i) (row2 i hi).1 (row2 c hc).1 (by rw[(row2 i hi).2.1,(row2 c hc).2.1]);have clw:∀i,i<rs0.length->(clA rs2 c c i).1.length=wd:=λi hi=>by
  unfold clA;split
  .exact(row2 i hi).2.1
  .rw[jh];show(List.zipWith _ (rAt rs2 i).1 (rAt rs2 c).1).length=wd;rw[List.length_zipWith,(row2 i hi).2.1,(row2 c hc).2.1,Nat.min_self]
 have clg:∀i,i<rs0.length->gcL (clA rs2 c c i).1 (clA rs2 c c i).2=1\/Big N (clA rs2 c c i):=λi hi=>(cl i hi).2.1.elim .inl λz=>by rw[z];exact(row2 i hi).2.2
 have Vc:∀j,vr (clA rs2 c c c) j*vr (rAt rs q) c=vr (rAt rs q) j:=λj=>by
  rw[(cl c hc).2.2 j,ZY rfl,ec];exact b4 j
 have Vi:∀i,i<rs0.length->i≠c->∀j,vr (clA rs2 c c i) j=vr (rAt rs (Rw.sw c q i)) j-vr (rAt rs (Rw.sw c q i)) c*vr (clA rs2 c c c) j:=λi hi ne j=>by
  rw[(cl i hi).2.2 j,(cl c hc).2.2 j,ZZ ne,ZY rfl,ei i hi ne]
 have st':∃pv s,fG (aT rs0) (aB rs0) rs0.length wd (λi j=>vr (clA rs2 c c i) j) (c+1) pv s:=by
  obtain⟨pv,s,st⟩:=g.st;have s1:=st.swap hq hq' (R':=λi j=>vr (rAt rs (Rw.sw c q i)) j) λi j _ _=>rfl;exact⟨_,_,s1.pivot hc (λi hi=>(h.big i hi).1.pos) cw (by show vr (rAt rs (Rw.sw c q c)) c≠0;rw[spp];exact h0) (R':=λi j=>vr (clA rs2 c c i) j) (λj _=>by show vr (clA rs2 c c c) j*vr (rAt rs (Rw.sw c q c)) c=vr (rAt rs (Rw.sw c q c)) j;rw[spp];exact Vc j) λi j hi ne _=>Vi i hi ne j⟩
 have bigc:∀i,i<rs0.length->Big NN (clA rs2 c c i):=λi hi=>h.sbig st' hi (cl i hi).1 (clw i hi) (clg i hi) λ_ _=>rfl;refine⟨λi hi=>⟨?_,(row2 i hi).2.1⟩,bigc,λrs3 l3 e3=>⟨l3,λi hi=>by rw[e3 i hi];exact⟨(cl i hi).1,clw i hi,clg i hi⟩,?_,λi l hi hl=>?_,λx hx=>g.ker x λi hi=>?_⟩⟩
 .by_cases e:i=c
  .rw[e];refine h.sbig st' hc (row2 c hc).1 (row2 c hc).2.1 (row2 c hc).2.2 λj _=>?_;show _=vr (clA rs2 c c c) j;rw[(cl c hc).2.2 j,ZY rfl]
  .rw[ei i hi e];exact g.big h (U8 hc hq' hi)
 .obtain⟨pv,s,st⟩:=st';exact⟨pv,s,st.congr λi j hi=>by rw[e3 i hi]⟩
 .rw[e3 i hi];have v0:l<c->vr (clA rs2 c c c) l=0:=λhl=>by
   have:=Vc l;rw[g.unit q l hq' hl,ZZ (by lia)]at this
   grind
  have v1:vr (clA rs2 c c c) c=1:=by
   have:=Vc c
   grind
  by_cases e:i=c
  .subst e;by_cases z:l<i
   .rw[v0 z,ZZ (Nat.ne_of_gt z)]
   .rw[show l=i by lia,v1,ZY rfl]
  .rw[Vi i hi e l];by_cases z:l<c
   .rw[v0 z,g.unit _ l (U8 hc hq' hi) z];have:(Rw.sw c q i=l)=(i=l):=by
     unfold Rw.sw;rw[ZZ e];split
     .exact propext ⟨λ_=>by lia,λ_=>by lia⟩
     .rfl
    simp only[this]
    grind
   .rw[show l=c by lia,v1,ZZ e]
    grind
 .have hc0:=hx c hc;rw[e3 c hc]at hc0;by_cases e:i=q
  .rw[e,cg (g:=λj=>vr (rAt rs q) c*(vr (clA rs2 c c c) j*x j)) λj _=>by rw[<- Vc j];grind,g8,hc0]
   grind
  .have hs:=U8 hc hq' hi;have ne:Rw.sw c q i≠c:=λz=>by
    have:=acB c q i;rw[z,spp]at this;exact e this.symm
   have hi0:=hx _ hs;rw[e3 _ hs]at hi0;rw[cg (g:=λj=>vr (clA rs2 c c (Rw.sw c q i)) j*x j+vr (rAt rs i) c*(vr (clA rs2 c c c) j*x j)) λj _=>by rw[Vi _ hs ne,acB];grind,iT,g8,hc0,hi0]
   grind
theorem Gs.found(g:Gs rs0 wd N c rs)(hc:c<rs0.length)(cw:c<wd)(inj:∀x:Nat->Rat,(∀j,rs0.length<=j->x j=0)->(∀i,i<rs0.length->sg (λj=>vr (rAt rs0 i) j*x j) wd=0)->∀j,j<rs0.length->x j=0):¬∀i,c<=i->i<rs0.length->vr (rAt rs i) c=0:=λhz=>by
 have:=inj (λj=>if j<c then -(vr (rAt rs j) c)else if j=c then 1 else 0) (λj hj=>by rw[ZZ (by lia),ZZ (by lia)]) (g.ker _ λi hi=>?_) c hc
 .rw[ZZ (X2 _),ZY rfl]at this;exact absurd this (by decide)
 .rw[cg (g:=λj=>(if j=i then 1 else 0)*(if j<c then -(vr (rAt rs j) c)else 0)+(if j=c then 1 else 0)*vr (rAt rs i) c) λj hj=>?_,iT,jA (v:=λj=>if j<c then -(vr (rAt rs j) c)else 0),jA (v:=λ_=>vr (rAt rs i) c),ZY cw]
  .by_cases e:i<c
   .rw[ZY (Nat.lt_trans e cw),ZY e]
    grind
   .rw[hz i (Nat.le_of_not_lt e) hi];rw[ZZ e]
    grind
  .by_cases a:j<c
   .rw[ZY a,ZY a,g.unit i j hi a,ZZ (show j≠c by exact aQ a)];by_cases b:i=j
    .rw[ZY b,ZY b.symm];grind
    .rw[ZZ b,ZZ (Ne.symm b)];grind
   .rw[ZZ a,ZZ a];by_cases b:j=c
    .rw[ZY b,b];grind
    .rw[ZZ b];grind
theorem Gs.answer(g:Gs rs0 (rs0.length+1) N rs0.length rs){i:Nat}(hi:i<rs0.length):sg (λj=>vr (rAt rs0 i) j*vr (rAt rs j) rs0.length) rs0.length=vr (rAt rs0 i) rs0.length:=by
 have:=g.ker (λj=>if j<rs0.length then vr (rAt rs j) rs0.length else -1) (λi hi=>?_) i hi
 .show _=_;rw[show sg (λj=>vr (rAt rs0 i) j*(if j<rs0.length then vr (rAt rs j) rs0.length else -1)) (rs0.length+1)=sg (λj=>vr (rAt rs0 i) j*(if j<rs0.length then vr (rAt rs j) rs0.length else -1)) rs0.length+vr (rAt rs0 i) rs0.length*(if rs0.length<rs0.length then vr (rAt rs rs0.length) rs0.length else -1)from rfl,ZZ (X2 _),cg (g:=λj=>vr (rAt rs0 i) j*vr (rAt rs j) rs0.length) λj hj=>by rw[ZY hj]]at this
  grind
 .rw[show sg (λj=>vr (rAt rs i) j*(if j<rs0.length then vr (rAt rs j) rs0.length else -1)) (rs0.length+1)=sg (λj=>vr (rAt rs i) j*(if j<rs0.length then vr (rAt rs j) rs0.length else -1)) rs0.length+vr (rAt rs i) rs0.length*(if rs0.length<rs0.length then vr (rAt rs rs0.length) rs0.length else -1)from rfl,ZZ (X2 _),cg (g:=λj=>(if j=i then 1 else 0)*vr (rAt rs j) rs0.length) λj hj=>by rw[ZY hj,g.unit i j hi hj];simp only[eq_comm],jA (v:=λj=>vr (rAt rs j) rs0.length),ZY hi]
  grind
end
open Rw (vr gY gF mH gcL fY fU qQ kZ Big oX i_ lZ jh lV fG sg iT g8 cg jr jA)
abbrev lG(r:List Rat):Row:=(tops (cL 1 r) r,((cL 1 r:Nat):Int))
abbrev Hj(r:List Rat):T:=.lst (r.map frR)
theorem aa2(r:List Rat):(lG r).1.length=r.length:=ak _
theorem Mj(r:List Rat)(j:Nat):vr (lG r) j=r.getD j 0:=by
 unfold vr;have hB:=fP r Nat.one_pos;show(((tops (cL 1 r) r).getD j 0:Int):Rat)/(((cL 1 r:Nat):Int):Rat)=_;unfold tops;rw[au,au,aq];by_cases h:j<r.length
 .rw[aj h];show((r[j].num*((cL 1 r/r[j].den:Nat):Int):Int):Rat)/_=r[j];obtain⟨k,hk⟩:=(gZ r (n:=1)).2 r[j] (aU h);have hd:=r[j].den_pos;rw[show cL 1 r/r[j].den=k by rw[hk];exact Nat.mul_div_cancel_left _ hd];have hk0:k≠0:=λz=>by rw[z]at hk;lia
  rw[<- Rat.divInt_eq_div,hk,Int.natCast_mul,Rat.divInt_mul_right (by lia)];exact rd _
 .rw[aM (Nat.not_lt.mp h)];show((0:Int):Rat)/_=0
  grind
structure Sys(rows:List (List Rat))(N:Nat):Prop where
 wid:∀r∈rows,r.length=rows.length+1
 few:rows.length<=100
 lev:∀r∈rows,Big N (lG r)
 num:∀r∈rows,∀c∈r,Bd c.num
 one:1<=N
 mb:(2*rows.length*N)^rows.length<=NN
 nn:N<=NN
 inj:∀x:Nat->Rat,(∀j,rows.length<=j->x j=0)->(∀r∈rows,sg (λj=>r.getD j 0*x j) (rows.length+1)=0)->∀j,j<rows.length->x j=0
theorem Ld{rows:List (List Rat)}{i:Nat}(h:i<rows.length):rAt (rows.map lG) i=lG rows[i]:=by
 have:=xH (rs:=rows.map lG) (i:=i) (by rw[ak];exact h);rw[aq,aj h]at this;injection this with this;exact this.symm
theorem Sys.b0{rows:List (List Rat)}{N:Nat}(h:Sys rows N):B0 (rows.map lG) (rows.length+1) N:=⟨λi hi=>by
 rw[ak]at hi;rw[Ld hi];exact⟨h.lev _ (aU hi),by rw[aa2];exact h.wid _ (aU hi)⟩,h.one,by rw[ak];exact h.mb,h.nn⟩
theorem Rws.mk'{rs:List Row}{wd:Nat}(hr:∀i,i<rs.length->Big NN (rAt rs i)/\(rAt rs i).1.length=wd)(h1:rs.length<=100)(h2:wd<=1000):Rws rs wd:=by
 have:∀r∈rs,Big NN r/\r.1.length=wd:=λr hm=>by
  obtain⟨i,hi,e0⟩:=List.getElem_of_mem hm;have e:=xH hi;rw[aj hi,e0]at e;injection e with e;rw[e];exact hr i hi
 exact⟨λr hm=>(this r hm).1,λr hm=>(this r hm).2,h1,h2⟩
theorem Sys.rws{rows:List (List Rat)}{N c:Nat}{rs:List Row}(h:Sys rows N)(g:Gs (rows.map lG) (rows.length+1) N c rs):Rws rs (rows.length+1):=by
 have l:=g.len;have few:=h.few;rw[ak]at l;refine Rws.mk' (λi hi=>?_) (aL (Nat.le_of_eq l) few) (by lia);have hi':i<(rows.map lG).length:=by rw[g.len]at hi;exact hi
 exact⟨g.big h.b0 hi',(g.row i hi').2.1⟩
theorem ad9{rows:List (List Rat)}{i n:Nat}(hi:i<rows.length)(x:Nat->Rat):sg (λj=>vr (rAt (rows.map lG) i) j*x j) n=sg (λj=>rows[i].getD j 0*x j) n:=cg λj _=>by rw[Ld hi,Mj]
theorem Sys.inj'{rows:List (List Rat)}{N:Nat}(h:Sys rows N):∀x:Nat->Rat,(∀j,(rows.map lG).length<=j->x j=0)->(∀i,i<(rows.map lG).length->sg (λj=>vr (rAt (rows.map lG) i) j*x j) (rows.length+1)=0)->∀j,j<(rows.map lG).length->x j=0:=by
 rw[ak];intro x h1 h2;refine h.inj x h1 λr hr=>?_;obtain⟨i,hi,rfl⟩:=List.getElem_of_mem hr;rw[<- ad9 hi];exact h2 i hi
def Ij(m:Nat)(y:Nat->Rat):List T:=(List.range m).map λi=>.lst ((List.range (m+1)).map λj=>frR (if j<m then if i=j then 1 else 0 else y i))
theorem adL{rows:List (List Rat)}{N:Nat}{rs:List Row}(h:Sys rows N)(g:Gs (rows.map lG) (rows.length+1) N rows.length rs):(rs.map λr=>T.lst ((List.range (rows.length+1)).map λk=>frR (vr r k)))=Ij rows.length λi=>vr (rAt rs i) rows.length:=by
 have l:=g.len;rw[ak]at l;unfold Ij;refine List.ext_getElem (by rw[ak,ak,List.length_range,l]) λi h1 h2=>?_;rw[ak]at h1;rw[List.getElem_map,List.getElem_map,List.getElem_range];have e:=xH h1;rw[aj h1]at e;injection e with e;rw[e]
 congr 1
 refine List.map_congr_left λj hj=>?_;have hj:=List.mem_range.mp hj;by_cases c:j<rows.length
 .rw[ZY c,g.unit i j (by rw[ak];exact aR h1 (Nat.le_of_eq l)) c]
 .rw[ZZ c,show j=rows.length by lia]
theorem aec{rows:List (List Rat)}{N:Nat}{rs:List Row}(g:Gs (rows.map lG) (rows.length+1) N rows.length rs):∀r∈rows,sg (λj=>r.getD j 0*vr (rAt rs j) rows.length) rows.length=r.getD rows.length 0:=λr hr=>by
 obtain⟨i,hi,rfl⟩:=List.getElem_of_mem hr;have l:(rows.map lG).length=rows.length:=ak _;have:=Gs.answer (rs0:=rows.map lG) (N:=N) (rs:=rs) (by rw[l];exact g) (i:=i) (by rw[l];exact hi);rw[l,Ld hi,Mj]at this;rw[<- this];exact cg λj _=>by rw[Mj]
def Gy:ST:=λts R=>∃(rows:List (List Rat))(N:Nat),ts=[.lst (rows.map Hj),.int rows.length]/\Sys rows N/\∀(ss:List T)(y:Nat->Rat),(∀r∈rows,sg (λj=>r.getD j 0*y j) rows.length=r.getD rows.length 0)->(∀i,i<rows.length->FnB ((2*rows.length*N)^rows.length) (y i))->R (.fz (.tup [.lst ss,.lst (Ij rows.length y)]))
theorem R5(F:Fun K ug ug wR f fd)(T:Txt K mg D)(ju:OkT P w K mg base 2 oR oW vH)(tL:OkT P w K mg base 1 lQ lX xP)(v9:OkF P w K mg base 6 oF nW (spO K zE))(o_:OkF P w K mg base 6 jo ji (spO K uw))(oZ:OkT P w K mg base 3 jm jj ux):b_ P w K mg base CX0 7 f fd tK (spT K Gy):=by
 refine F.okT jz (λts R hP=>by obtain⟨_,_,e,_⟩:=hP;exact e ▸ rfl) λcdv A outer s H E hr=>?_;refine⟨_,(bF (ac3 (bH wR) Cv Cv ["row"] (cH (qv 0)) (fu (i:=0)) cD (bI ju hr.md (by rfl) (bx (qv 0) bC)) (lK (i:=2) jz.nd rfl (Or.inl rfl)))
  (bF (iQ 3 jz.nd (Or.inl rfl) (eU bC))
  (bF (bO 4 jz.nd (Or.inl rfl) bA)
  (bF (dM PassesOwn.never rfl (dB (by rfl) T.d9 (bx (qv 1) bC)) (bY (n:=99) 5 jz.nd (Or.inl rfl))
  (bF (bO 6 jz.nd (Or.inl rfl) (Nz 2 (bI tL hr.md (by rfl) (bx (qv 2) (bx (qv 4) (bx (qv 5) bC))))))
  (bG (cB (bZ LC (qv 6) jy)
  (bF (Fl 2 3 v9 hr.md (by rfl) (bx (qv 4) (bx (qv 6) (bx (qv 5) bC))))
  (bF (Fl 2 3 o_ hr.md (by rfl) (bx (qv 4) (bx (qv 5) bC)))
  (bG (aeZ 4 jz.nd (Or.inl rfl) aeT bA))))
  bR))))
  (bG (Hz 3 (Hz 2 (bN (dh (bx (qv 3) (bx (bI oZ hr.md (by rfl) (bx (qv 2) bC)) bC))))))))))),?_⟩
 rintro _ R ⟨rows,N,rfl,h,ok⟩;have lm:(rows.map Hj).length=rows.length:=ak _;have ll:(rows.map lG).length=rows.length:=ak _;have few:=h.few;have b0:=h.b0;have e0:(rows.map λr=>rwT (lG r))=(rows.map lG).map rwT:=by rw[List.map_map];rfl
 refine⟨by rw[lm];exact aL few (by decide),comp_map Hj (λr=>rwT (lG r)) rows (λr hr N' M hN=>⟨r,rfl,by rw[h.wid r hr];lia,h.num r hr,bdN (aL (h.lev r hr).bot h.nn),hN⟩) ?_⟩;rw[e0];refine⟨⟨by lia,by lia⟩,mO (λc o=>∃rs ss x y,o=[.fz (.lst (rows.map Hj)),.fz (.int rows.length),.l1 (rs.map rwT),.l1 ss,.fz (.int (c:Nat)),x,y]/\Gs (rows.map lG) (rows.length+1) N c rs/\ss.length<=102*c) ⟨_,[],_,_,rfl,b0.zero,aG _⟩ ?_ ?_⟩
 .rintro c _ hc ⟨rs,ss,x,y,rfl,g,sl⟩;have hc:c<rows.length:=by lia
  have hc':c<(rows.map lG).length:=by lia
  have l:=g.len;have hR:=h.rws g;have big:(20000:Nat)<sizeLine:=by decide
  refine⟨rs,_,c,c,rfl,hR,by lia,by exact WV _ hc,λq h1 h2 h3=>⟨trivial,rs,ss,_,c,q,c,rfl,rfl,hR,by exact Y3 h1 h2,h2,by exact WV _ hc,h3,by lia,λrs2 ss2 l2 e2 s2=>?_⟩,λz=>(g.found hc' (WV _ hc) h.inj' λi a b=>z i a (by lia)).elim⟩;obtain⟨n1,n2,n3⟩:=g.next b0 hc' (WV _ hc) h1 (aR h2 (Nat.le_of_eq l)) h3 (rs2:=rs2) λi hi=>e2 i (by lia);exact⟨rs2,ss2,_,c,c,rfl,rfl,Rws.mk' (λi hi=>n1 i (by lia)) (by lia) (by lia),by lia,by exact WV _ hc,by lia,λi hi=>n2 i (by lia),λrs3 ss3 l3 e3 s3=>⟨rs3,ss3,.fz (.int c),.fz (.int q),rfl,n3 rs3 (by lia) λi hi=>e3 i (by lia),by lia⟩⟩
 .rintro _ ⟨rs,ss,x,y,rfl,g,sl⟩;have g:Gs (rows.map lG) (rows.length+1) N rows.length rs:=g;have hR:=h.rws g;have l:=g.len;refine⟨rs,_,rfl,hR,?_⟩;have:=ok ss _ (aec g) λi hi=>by
   have hi':i<(rows.map lG).length:=by lia
   have b:=g.bigM b0 hi';rw[ll]at b;exact FnB.vr b (by rw[(g.row i hi').2.1];exact X0 _)
  rw[<- adL h g]at this;exact this
open Rw (vr gY gF mH gcL fY fU qQ kZ Big oX i_ lZ jh lV fG sg iT g8 cg jr jA)
def Dg:ST:=λts q=>∃(rows:List (List Rat))(n:Nat),ts=[.lst (rows.map Hj)]/\(∀r∈rows,r.length=n)/\(rows=[]->n=0)/\q (.fz (.int n))
theorem Ol(F:Fun K qd qd yC f fd)(T:Txt K mg D):b_ P w K mg base CX0 1 f fd pU (spT K Dg):=by
 refine F.okT N6 (λts R hP=>by obtain⟨_,_,e,_⟩:=hP;exact e ▸ rfl) λcdv A outer s H E hr=>?_;refine⟨_,(bF (cB (bZ (go_eq hr.units) (bT cU (by rfl) T.dU PySem.boot_len (bx (qv 0) bC)) bA)
  (bG (bN bA))
  bR)
  (bG (bN (bT cU (by rfl) T.dU PySem.boot_len (bx (bJ (qv 0) bA) bC))))),?_⟩
 rintro _ R ⟨rows,n,rfl,h,h0,q⟩
 match rows,h,h0 with
 |[],h,h0=>rw[h0 rfl]at q;exact q
 |r::rows,h,h0 =>
  have e:(r.map frR).length=n:=by rw[ak];exact h r (aO ..)
  rw[<- e]at q;exact⟨_,rfl,q⟩
theorem Qn(i:Nat):∀m,(List.range m).filter (λj=>decide (j=i))=if i<m then[i]else[]
 |0=>by rw[ZZ (WZ _)];rfl
 |m+1=>by
  rw[List.range_succ,List.filter_append,Qn i m];by_cases e:m=i
  .subst e;rw[ZZ (X2 _),ZY (X0 _)];simp
  .rw[List.filter_cons_of_neg (by simpa using e)];by_cases c:i<m
   .rw[ZY c,ZY (WV _ c)];rfl
   .rw[ZZ c,ZZ (by lia)];rfl
def vX:ST:=λts q=>∃(rows:List (List Rat))(rights:List Rat),ts=[.lst (rows.map Hj),.lst (rights.map frR)]/\rows.length<=100/\(∀r∈rows,r.length<=100)/\q (.l1 ((List.zipWith (λr c=>r++[c]) rows rights).map Hj))
theorem Hy(F:Fun K jZ jZ lU f fd)(T:Txt K mg D):b_ P w K mg base CX0 1 f fd jX (spT K vX):=by
 refine F.okT Hh (λts R hP=>by obtain⟨_,_,e,_⟩:=hP;exact e ▸ rfl) λcdv A outer s H E hr=>?_;refine⟨_,(bG (bN (dG (bH lU) qZ qZ ["row","right"] (Lx (by rfl) T.Ur (bx (qv 0) (bx (qv 1) bC))) (fJ (n:=2) rfl (bU (fu (i:=0)) (bU (fu (i:=1)) dI))) cD (bL cN (qv 0) (eU (bx (qv 1) bC)))))),?_⟩;rintro _ R ⟨rows,rights,rfl,h1,h2,q⟩;have zl:(rows.zip rights).length<=rows.length:=by rw[List.length_zip];exact Nat.min_le_left ..
 refine⟨by unfold Gf;rw[ak,List.length_zip,ak,ak];exact aL (aL (Nat.min_le_left ..) h1) (by decide),?_⟩;rw[zip_map];refine comp_map (λp=>.tup [Hj p.1,frR p.2]) (λp=>Hj (p.1++[p.2])) (rows.zip rights) (λp hp N M hN=>⟨rfl,?a,?b⟩) ?c
 case a =>
  have:=h2 _ (List.of_mem_zip hp).1;show(p.1.map frR).length+1<=sizeLine;rw[ak];exact aL (show _<=101 by exact Nat.succ_le_succ this) (by decide)
 case b =>
  show N (.lst (p.1.map frR++[frR p.2]));rw[show(p.1.map frR++[frR p.2])=(p.1++[p.2]).map frR by rw[bf];rfl];exact hN
 case c =>
  rw[List.map_zipWith]at q;rw[List.zip,List.map_zipWith];exact q
def zL:ST:=λts q=>∃(m:Nat)(y:Nat->Rat),ts=[.lst (Ij m y),.int m]/\m<=100/\q (.l1 ((List.range m).map λi:Nat=>.int i))
theorem NP(F:Fun K nZ nZ qG f fd)(T:Txt K mg D):b_ P w K mg base CX0 1 f fd nH (spT K zL):=by
 refine F.okT oA (λts R hP=>by obtain⟨_,_,e,_⟩:=hP;exact e ▸ rfl) λcdv A outer s H E hr=>?_;refine⟨_,(bF (iQ 2 oA.nd (Or.inl rfl) (eU bC))
  (bF (dM PassesOwn.never rfl (cH (qv 0)) (bY (n:=99) 3 oA.nd (Or.inr rfl))
  (bF (ud (bH qG) wM wM ["column"] (dB (by rfl) T.d9 (bx (qv 1) bC)) (fu (i:=0)) (Tz (bZ (lA hr.units) (bJ (qv 4) (qv 0)) (lB (by rfl) T.jg T.gC))) (qv 0) (lK (i:=4) oA.nd rfl (Or.inl rfl)))
  (bG (cB (bZ Jy (bT cU (by rfl) T.dU PySem.boot_len (bx (qv 4) bC)) bA)
  (bG (o9 2 (bJ (qv 4) bA)))
  bR))))
  (bG (jM 2)))),?_⟩
 rintro _ R ⟨m,y,rfl,h,q⟩;have sz:(1000:Nat)<=sizeLine:=by decide
 refine gk _ (List.range m) (λas o=>∃x z,o=[.fz (.lst (Ij m y)),.fz (.int m),.l1 (as.map λi:Nat=>.int i),x,z]) ⟨_,_,rfl⟩ ?_ ?_
 .rintro as i bs _ e ⟨x,z,rfl⟩;have hi:i<m:=List.mem_range.mp (e ▸ by simp);have la:as.length<m:=by have:=ZH List.length e;rw[List.length_range,aA,List.length_cons]at this;lia
  refine⟨⟨by lia,by lia⟩,by rw[rng,ak,List.length_range];exact aL (show _<=1000 by lia) sz,qx (λk:Nat=>.int (0+k)) (λj=>decide (j=i)) (λj=>.int (0+(j:Nat))) (List.range m) (λj hj N M h1 h2=>?_) ?_⟩
  .have hj:=List.mem_range.mp hj;show hName 0 (L2.T.int (0+((j:Nat):Int))) _ _;rw[show(0:Int)+((j:Nat):Int)=((j:Nat):Int)by lia]at h1 ⊢;refine⟨_,dF (List.getElem?_range (WV _ hj)),?_⟩;by_cases c:j=i
   .refine swT ?_ (h1 (Zs c));show xr true (_&&_)=true;rw[ZY hj,ZY c.symm]
    rfl
   .refine swF ?_ (h2 (Zp c));show xr true (_&&_)=false;rw[ZY hj,ZZ (Ne.symm c)]
    rfl
  .rw[Qn,ZY hi];refine⟨_,rfl,by rw[ak];lia,.fz (.lst ((List.range (m+1)).map λj=>frR (if j<m then if i=j then 1 else 0 else y i))),.fz (.lst [.int (0+(i:Nat))]),?_⟩;rw[bf];show[_,_,OT.l1 (as.map _++[L2.T.int (0+(i:Nat))]),_,OT.fz (.lst [L2.T.int (0+(i:Nat))])]=[_,_,OT.l1 (as.map _++[L2.T.int (i:Nat)]),_,_];rw[show(0:Int)+((i:Nat):Int)=((i:Nat):Int)by exact Int.zero_add _]
 .rintro _ ⟨x,z,rfl⟩;exact q
def Gx:ST:=λts q=>∃(m:Nat)(y:Nat->Rat),ts=[.lst (Ij m y),.lst ((List.range m).map λi:Nat=>.int i),.int m]/\m<=100/\q (.fz .non)
theorem Tc(F:Fun K uf uf BW f fd)(T:Txt K mg D):b_ P w K mg base CX0 1 f fd su (spT K Gx):=by
 refine F.okT Ht (λts R hP=>by obtain⟨_,_,e,_⟩:=hP;exact e ▸ rfl) λcdv A outer s H E hr=>?_;refine⟨_,(bF (dM PassesOwn.never rfl (BZ (by rfl) T.d9 (bx (bT cU (by rfl) T.dU PySem.boot_len (bx (qv 1) bC)) (bx (bT cU (by rfl) T.dU PySem.boot_len (bx (qv 0) bC)) bC))) (bY (n:=99) 3 Ht.nd (Or.inl rfl))
  (bG (cB (bZ (lA hr.units) (bJ (bJ (qv 0) (qv 3)) (qv 2)) (lB (by rfl) T.jg T.gC))
  (bG (bN (qv 3)))
  bR)))
  (bG (bN jy))),?_⟩
 rintro _ R ⟨m,y,rfl,h,q⟩;have l1:((List.range m).map λi:Nat=>L2.T.int i).length=m:=by rw[ak,List.length_range]
 have l2:(Ij m y).length=m:=by unfold Ij;rw[ak,List.length_range]
 refine⟨⟨by lia,by lia,by lia,by lia⟩,A_ (λ_ _=>True) _ 0 trivial (λi t o e z=>?_) λo _=>q⟩;have:=(ZP e).1;lia
def zV:ST:=λts q=>∃(m:Nat)(y:Nat->Rat),ts=[.lst (Ij m y),.lst ((List.range m).map λi:Nat=>.int i),.int m]/\m<=100/\q (.l1 ((List.range m).map λi=>frR (y i)))
theorem Mw(F:Fun K ou ou uM f fd)(T:Txt K mg D):b_ P w K mg base CX0 1 f fd m9 (spT K zV):=by
 refine F.okT nC (λts R hP=>by obtain⟨_,_,e,_⟩:=hP;exact e ▸ rfl) λcdv A outer s H E hr=>?_;refine⟨_,(bF (iQ 3 nC.nd (Or.inl rfl) (bL cV (eU (bx (lB (by rfl) T.jg T.gC) bC)) (qv 2)))
  (bF (dM PassesOwn.never rfl (zN (by rfl) T.mK (bx (qv 1) bC)) (fJ (n:=2) rfl (bU (bY (n:=99) 4 nC.nd (Or.inl rfl)) (bU (bY (n:=99) 5 nC.nd (Or.inl rfl)) dI)))
  (bG (CP 3 (bJ (bJ (qv 0) (qv 4)) (qv 2)) (qv 5))))
  (bG (jM 3)))),?_⟩
 rintro _ R ⟨m,y,rfl,h,q⟩;refine⟨⟨by lia,by lia,by show 1*_<=_;exact aL (show _<=100 by lia) (by decide)⟩,λz ez=>?_⟩;have ez:z=(List.range m).map λi=>if i<0 then frR (y i)else frR 0:=by
  rw[ez,List.flatten_replicate_singleton];refine List.ext_getElem (by rw[aN,ak,List.length_range];rfl) λn h1 h2=>?_;rw[List.getElem_replicate,List.getElem_map,ZZ (WZ _)]
  rfl
 subst ez;refine xu (λi:Nat=>.int i) (List.range m) (λk o=>∃x z,o=[.fz (.lst (Ij m y)),.fz (.lst ((List.range m).map λi:Nat=>.int i)),.fz (.int m),.l1 ((List.range m).map λi=>if i<k then frR (y i)else frR 0),x,z]) ⟨_,_,rfl⟩ ?_ ?_
 .rintro k i _ e ⟨x,z,rfl⟩;have hk:k<m:=by have:=(ao.mp e).1;rwa[List.length_range]at this
  rw[List.getElem?_range hk]at e;cases e;refine⟨rfl,_,dF (List.getElem?_range hk),_,dF (List.getElem?_range (X0 m)),k,yG (by rw[ak,List.length_range];exact hk),.fz (.int k),.fz (.int k),?_⟩;have:((List.range m).map λi=>if i<k then frR (y i)else frR 0).set k (frR (if m<m then if k=m then 1 else 0 else y k))=(List.range m).map λi=>if i<k+1 then frR (y i)else frR 0:=by
   rw[ZZ (X2 _)];refine List.ext_getElem (by rw[List.length_set,ak,ak]) λn h1 h2=>?_;rw[List.getElem_set,List.getElem_map,List.getElem_map,List.getElem_range];by_cases c:k=n
   .rw[ZY c,ZY (by lia),c]
   .rw[ZZ c];by_cases d:n<k
    .rw[ZY d,ZY (WV _ d)]
    .rw[ZZ d,ZZ (by lia)]
  rw[<- this]
  rfl
 .rintro _ ⟨x,z,rfl⟩;have:((List.range m).map λi=>if i<(List.range m).length then frR (y i)else frR 0)=(List.range m).map λi=>frR (y i):=List.map_congr_left λi hi=>by rw[List.length_range,ZY (List.mem_range.mp hi)]
  rw[<- this]at q;exact q
open Rw (vr gY gF mH gcL fY fU qQ kZ Big oX i_ lZ jh lV fG sg iT g8 cg jr jA)
noncomputable abbrev Ci(rows:List (List Rat))(rights:List Rat):List (List Rat):=List.zipWith (λr c=>r++[c]) rows rights
def uY:ST:=λts R=>∃(rows:List (List Rat))(rights:List Rat)(N:Nat),ts=[.lst (rows.map Hj),.lst (rights.map frR)]/\rights.length=rows.length/\(∀r∈rows,r.length=rows.length)/\Sys (Ci rows rights) N/\∀y:Nat->Rat,(∀r∈Ci rows rights,sg (λj=>r.getD j 0*y j) rows.length=r.getD rows.length 0)->(∀i,i<rows.length->FnB ((2*rows.length*N)^rows.length) (y i))->R (.l1 ((List.range rows.length).map λi=>frR (y i)))
theorem Ho(F:Fun K jT jT qX f fd)(T:Txt K mg D)(yE:OkT P w K mg base 1 qd pU Dg)(q_:OkT P w K mg base 1 jZ jX vX)(Ca:OkT P w K mg base 7 ug tK Gy)(vB:OkT P w K mg base 1 nZ nH zL)(Cq:OkT P w K mg base 1 uf su Gx)(uO:OkT P w K mg base 1 ou m9 zV):b_ P w K mg base CX0 8 f fd kj (spT K uY):=by
 refine F.okT jL (λts R hP=>by obtain⟨_,_,_,e,_⟩:=hP;exact e ▸ rfl) λcdv A outer s H E hr=>?_;refine⟨_,(bF (bO 2 jL.nd (Or.inl rfl) (bI yE hr.md (by rfl) (bx (qv 0) bC)))
  (bF (bO 3 jL.nd (Or.inl rfl) (bJ (bI Ca hr.md (by rfl) (bx (bI q_ hr.md (by rfl) (bx (qv 0) (bx (qv 1) bC))) (bx (qv 2) bC))) bA))
  (bF (bO 4 jL.nd (Or.inl rfl) (bI vB hr.md (by rfl) (bx (qv 3) (bx (qv 2) bC))))
  (bF (cB (QW.qt (iM (bZ vQ (bT cU (by rfl) T.dU PySem.boot_len (bx (qv 4) bC)) (qv 2)) (fW (bZ LC (bI Cq hr.md (by rfl) (bx (qv 3) (bx (qv 4) (bx (qv 2) bC)))) jy))))
  (bG (bN jy))
  bR)
  (bG (bN (bI uO hr.md (by rfl) (bx (qv 3) (bx (qv 4) (bx (qv 2) bC)))))))))),?_⟩
 rintro _ R ⟨rows,rights,N,rfl,hl,hw,h,ok⟩;have la:(Ci rows rights).length=rows.length:=by rw[List.length_zipWith,hl,Nat.min_self]
 have few:=h.few;rw[la]at few;refine⟨rows,rows.length,rfl,hw,λz=>by rw[z];rfl,rows,rights,rfl,few,λr hr=>by rw[hw r hr];exact few,Ci rows rights,N,?_,h,λss y h1 h2=>?_⟩
 .rw[la];rfl
 .rw[la]at h1 h2 ⊢;have lr:((List.range rows.length).map λi:Nat=>L2.T.int i).length=rows.length:=by rw[ak,List.length_range]
  exact⟨rows.length,y,rfl,few,swF (Zp (by show ¬((((List.range rows.length).map λi:Nat=>L2.T.int i).length:Nat):Int)<_;lia)) ⟨rows.length,y,rfl,few,rows.length,y,rfl,few,ok y h1 h2⟩⟩
def X7(m:Nat):List (List T):=(List.range m).map λi=>(List.range m).map λj=>frR (if j=i then 1 else 0)
def vC:ST:=λts q=>∃m:Nat,ts=[.int m]/\m<=100/\q (.l2 (X7 m))
theorem G_(F:Fun K jU jU iY f fd)(T:Txt K mg D):b_ P w K mg base CX0 1 f fd j7 (spT K vC):=by
 refine F.okT GZ (λts R hP=>by obtain⟨_,e,_⟩:=hP;exact e ▸ rfl) λcdv A outer s H E hr=>?_;refine⟨_,(bG (bN (X5 (bH iY) jc jc "row" (dB (by rfl) T.d9 (bx (qv 0) bC)) acJ cD (Ul (bH iY) ("row"::jc) ("row"::jc) ["column"] (dB (by rfl) T.d9 (bx (qv 1) bC)) (fu (i:=0)) cD (TY (bZ (go_eq hr.units) (qv 0) (qv 1)) (lB (by rfl) T.CT T.uW) (lB (by rfl) T.jg T.gC)))))),?_⟩;rintro _ R ⟨m,rfl,h,q⟩;have sz:(100:Nat)<=sizeLine:=by decide
 have rl:(rng 0 m).length<=sizeLine:=by rw[rng,ak,List.length_range];exact aL h sz
 refine⟨⟨by lia,by lia⟩,rl,Qt (λi=>(List.range m).map λj=>frR (if j=i then 1 else 0)) m (λi hi N M hN=>⟨⟨by lia,by lia⟩,rl,JT (λj=>frR (if j=i then 1 else 0)) m (λj hj N M hN=>?_) hN⟩) q⟩;by_cases e:j=i
 .rw[ZY e]at hN;exact swT (Zs (by lia)) hN
 .rw[ZZ e]at hN;exact swF (Zp (by lia)) hN
noncomputable def dT:Option Nat->T
 |none=>.non
 |some d=>.int d
noncomputable def Bj:Option Nat->Nat->Bool
 |none,n=>decide (n=0)
 |some d,n=>decide (d<n)
structure PlT(off:List (List bQ))(pl:List (Option Nat)):Prop where
 len:pl.length=off.length
 ok:∀(k:Nat)(d:Option Nat)(ds:List bQ),pl[k]?=some d->off[k]?=some ds->Bj d ds.length=true
def Ua:ST:=λts q=>∃(d:Option Nat)(n:Nat),ts=[dT d,.int n]/\q (.fz (.bl (Bj d n)))
theorem aar(F:Fun K Et Et SQ f fd)(T:Txt K mg D)(dg:OkT P w K mg base 1 gM gW mL):b_ P w K mg base CX0 2 f fd Ef (spT K Ua):=by
 refine F.okT abO (λts R hP=>by obtain⟨_,_,e,_⟩:=hP;exact e ▸ rfl) λcdv A outer s H E hr=>?_;refine⟨_,(bF (cB (bZ (go_eq hr.units) (qv 1) bA)
  (bG (bN (oV G5 (qv 0) jy)))
  bR)
  (bG (bN (Ni (bI dg hr.md (by rfl) (bx (qv 0) bC)) (KQ (Qw N7 vQ bA (qv 0) (qv 1))))))),?_⟩
 rintro _ R ⟨d,n,rfl,q⟩;by_cases e:n=0
 .subst e;cases d with
  |none=>exact q
  |some d=>exact q
 .refine swF (Zp (by lia)) ?_;cases d with
  |none =>
   rw[show Bj none n=false from Zp e]at q;exact⟨_,_,rfl,rfl,q⟩
  |some d =>
   rw[show Bj (some d) n=decide ((d:Int)<(n:Int))from decide_eq_decide.mpr (by omega)]at q;exact⟨_,_,rfl,rfl,q⟩
def lY(D:Adr):ST:=λts q=>∃(s:Rat)(ns:Φ)(off:List (List bQ))(pl:List (Option Nat)),ts=[hlT D s ns off,.lst (pl.map dT)]/\Rt ns off/\PlT off pl/\q (.fz (.bl true))
theorem IV(F:Fun K gA gA tY f fd)(T:Txt K mg D)(Ry:OkT P w K mg base 2 Et Ef Ua)(jD:OkI P w K mg base CX0 1 D.Hall_size jK (spT K (sE D)))(dX:OkI P w K mg base CX0 3 D.Hall_offers fM (spT K (wU D))):b_ P w K mg base CX0 4 f fd gD (spT K (lY D)):=by
 refine F.okT qI (λts R hP=>by obtain⟨_,_,_,_,e,_⟩:=hP;exact e ▸ rfl) λcdv A outer s H E hr=>?_;refine⟨_,(bF (cB (QW.qt (iM (dO (cT (mX .list (qv 1) (by rfl) T.cX (by rfl) T.v8 boot_list))) (fW (bZ (lA hr.units) (bT cU (by rfl) T.dU PySem.boot_len (bx (qv 1) bC)) (Gn (qv 0) T.o7 T.Bw jD hr.md (KS:=pR))))))
  (bG fH)
  bR)
  (bF (dM PassesOwn.never rfl (zN (by rfl) T.mK (bx (qv 1) bC)) (fJ (n:=2) rfl (bU (bY (n:=99) 2 qI.nd (Or.inl rfl)) (bU (bY (n:=99) 3 qI.nd (Or.inl rfl)) dI)))
  (bG (cB (dO (cT (bI Ry hr.md (by rfl) (bx (qv 3) (bx (bT cU (by rfl) T.dU PySem.boot_len (bx (Er (qv 0) T.o7 T.pJ dX hr.md (bx (qv 2) bC) (KS:=pR)) bC)) bC)))))
  (bG fH)
  bR)))
  (bG (bN pI)))),?_⟩
 rintro _ R ⟨s,ns,off,pl,rfl,h,hp,q⟩;refine⟨⟨rfl,rfl⟩,_,_,_,rfl,swF ?_ ?_⟩
 .show xr true (decide ((((pl.map dT).length:Nat):Int)=(ns.length:Nat)))=false;rw[ak,hp.len,h.len,Zs rfl]
  rfl
 .refine xu dT pl (λk o=>∃x y,o=[.fz (hlT D s ns off),.fz (.lst (pl.map dT)),x,y]) ⟨_,_,rfl⟩ ?_ ?_
  .rintro k d _ e ⟨x,y,rfl⟩;have lk:k<off.length:=by rw[<- hp.len];exact(ao.mp e).1
   have ek:=aj lk;refine⟨rfl,⟨rfl,rfl⟩,_,_,_,k,_,rfl,h,ek,d,(off[k]).length,?_,?_⟩
   .show[dT d,L2.T.int ((((off[k]).map ofT).length:Nat):Int)]=_;rw[ak]
   .rw[hp.ok k d _ e ek];exact⟨_,_,rfl⟩
  .rintro _ ⟨x,y,rfl⟩;exact q
def chO(off:List (List bQ))(pl:List (Option Nat)):List (Option bQ):=pl.zipIdx.map λp=>p.1.bind λd=>(off.getD p.2 [])[d]?
def opT:Option bQ->T
 |none=>.non
 |some o=>ofT o
def ur(D:Adr):ST:=λts q=>∃(s:Rat)(ns:Φ)(off:List (List bQ))(pl:List (Option Nat)),ts=[hlT D s ns off,.lst (pl.map dT)]/\Rt ns off/\PlT off pl/\q (.l1 ((chO off pl).map opT))
theorem DN(F:Fun K jk jk j4 f fd)(T:Txt K mg D)(dX:OkI P w K mg base CX0 3 D.Hall_offers fM (spT K (wU D))):b_ P w K mg base CX0 4 f fd jw (spT K (ur D)):=by
 refine F.okT Dj (λts R hP=>by obtain⟨_,_,_,_,e,_⟩:=hP;exact e ▸ rfl) λcdv A outer s H E hr=>?_;refine⟨_,(bG (bN (dG (bH j4) pO pO ["room","door"] (zN (by rfl) T.mK (bx (qv 1) bC)) (fJ (n:=2) rfl (bU (fu (i:=0)) (bU (fu (i:=1)) dI))) cD (TY (bZ G5 (qv 1) jy) jy (bJ (Er (qv 2) T.o7 T.pJ dX hr.md (bx (qv 0) bC) (KS:=pR)) (qv 1)))))),?_⟩;rintro _ R ⟨s,ns,off,pl,rfl,h,hp,q⟩;refine⟨by unfold xZ;rw[ak,List.length_zipIdx,ak,hp.len,h.len];exact aL h.few (by decide),?_⟩;rw[Xk];refine comp_map (λp=>.tup [.int (p.2:Nat),dT p.1]) (λp=>opT (p.1.bind λd=>(off.getD p.2 [])[d]?)) pl.zipIdx (λp hm N M hN=>⟨rfl,?a⟩) ?b
 case b =>
  unfold chO at q;rw[List.map_map]at q;exact q
 case a =>
  obtain⟨d,k⟩:=p;have e:=List.mem_zipIdx_iff_getElem?.mp hm;have lk:k<off.length:=by rw[<- hp.len];exact(ao.mp e).1
  have ek:=aj lk;have eg:off.getD k []=off[k]:=by rw[au,ek];rfl
  have ft:=hp.ok k d _ e ek;cases d with
  |none=>exact hN
  |some d =>
   have ld:d<(off[k]).length:=of_decide_eq_true ft;have hN:N (opT ((off.getD k [])[d]?)):=hN;rw[eg,aj ld]at hN;exact⟨⟨rfl,rfl⟩,_,_,_,k,_,rfl,h,ek,_,dF (aj ld),hN⟩
open Rw (sg)
def rowsOf(f:Nat->Nat->Rat)(m:Nat):List (List T):=(List.range m).map λi=>(List.range m).map λj=>frR (f i j)
noncomputable def rF:List (Nat×Rat)->Nat->Rat
 |[],_=>0
 |w::ws,j=>(if w.1=j then w.2 else 0)+rF ws j
noncomputable def kE:Option bQ->List (Nat×Rat)
 |none=>[]
 |some o=>o.ways
structure WyB(s:Rat)(m:Nat)(ws:List (Nat×Rat)):Prop where
 nd:(ws.map (·.1)).Nodup
 few:ws.length<=1000
 lt:∀w∈ws,w.1<m
 bq:∀w∈ws,Bq w.2/\Bd ((s.den:Int)*w.2.den)/\Bq (s*w.2)
def eV(s:Rat)(cs:List (Option bQ))(i j:Nat):Rat:=(if j=i then 1 else 0)-s*rF (kE (cs.getD i none)) j
def Aq:ST:=λts q=>∃(s:Rat)(cs:List (Option bQ)),ts=[frR s,.lst (cs.map opT)]/\cs.length<=100/\Bq s/\(∀o∈cs,WyB s cs.length (kE o))/\q (.l2 (rowsOf (eV s cs) cs.length))
theorem Xm(f:Nat->Nat->Rat)(m:Nat):(rowsOf f m).length=m:=by unfold rowsOf;rw[ak,List.length_range]
theorem UG{f:Nat->Nat->Rat}{m i:Nat}(h:i<m):(rowsOf f m)[i]?=some ((List.range m).map λj=>frR (f i j)):=by
 unfold rowsOf;rw[aq,List.getElem?_range h];rfl
theorem um{f g:Nat->Nat->Rat}{m:Nat}(h:∀i j,i<m->j<m->f i j=g i j):rowsOf f m=rowsOf g m:=List.map_congr_left λi hi=>List.map_congr_left λj hj=>by rw[h i j (List.mem_range.mp hi) (List.mem_range.mp hj)]
theorem ZD{f g:Nat->Nat->Rat}{m i k:Nat}{v:Rat}(h:∀a b,a<m->b<m->g a b=if a=i/\b=k then v else f a b):(rowsOf f m).set i (((List.range m).map λj=>frR (f i j)).set k (frR v))=rowsOf g m:=by
 unfold rowsOf;refine List.ext_getElem (by rw[List.length_set,ak,ak]) λa h1 h2=>?_;have ha:a<m:=by rw[ak,List.length_range]at h2;exact h2
 rw[List.getElem_set];by_cases e:i=a
 .rw[ZY e,List.getElem_map,List.getElem_range];refine List.ext_getElem (by rw[List.length_set,ak,ak]) λb h3 h4=>?_;have hb:b<m:=by rw[ak,List.length_range]at h4;exact h4
  rw[List.getElem_set,List.getElem_map,List.getElem_map,List.getElem_range,h a b ha hb];by_cases c:k=b
  .rw[ZY c,ZY ⟨e.symm,c.symm⟩]
  .rw[ZZ c,ZZ λz=>c z.2.symm,e]
 .rw[ZZ e,List.getElem_map,List.getElem_map,List.getElem_range];refine List.map_congr_left λb hb=>?_;rw[h a b ha (List.mem_range.mp hb),ZZ λz=>e z.1.symm]
theorem abl{f:Nat->Nat->Rat}{m i:Nat}(h:i<m):ixT (rowsOf f m) ((i:Nat):Int)=some ((List.range m).map λj=>frR (f i j)):=by
 show nth (rowsOf f m) i=_;rw[rD,UG h]
theorem Zj(as:List (Nat×Rat))(w:Nat×Rat)(j:Nat):rF (as++[w]) j=rF as j+if w.1=j then w.2 else 0:=by
 induction as with
 |nil=>show(_+(0:Rat))=0+_;grind
 |cons a as ih=>show _+rF (as++[w]) j=(_+rF as j)+_;rw[ih];grind
theorem Wk{ws:List (Nat×Rat)}{j:Nat}(h:j∉ws.map (·.1)):rF ws j=0:=by
 induction ws with
 |nil=>rfl
 |cons a as ih =>
  show(if a.1=j then a.2 else 0)+rF as j=0;rw[ih λz=>h (aJ _ z),ZZ λz=>h (by rw[<- z];exact aO ..)]
  grind
def uc(s:Rat)(cs:List (Option bQ))(n:Nat)(as:List (Nat×Rat))(i j:Nat):Rat:=if i<n then eV s cs i j else if i=n then(if j=i then 1 else 0)-s*rF as j else if j=i then 1 else 0
theorem aa6(s:Rat)(cs:List (Option bQ))(n i j:Nat):uc s cs n [] i j=if i<n then eV s cs i j else if j=i then 1 else 0:=by
 unfold uc;split
 .rfl
 .split
  .show _-s*0=_;grind
  .rfl
theorem ab6{s:Rat}{cs:List (Option bQ)}{n:Nat}(i j:Nat):uc s cs n (kE (cs.getD n none)) i j=if i<n+1 then eV s cs i j else if j=i then 1 else 0:=by
 unfold uc;by_cases a:i<n
 .rw[ZY a,ZY (show i<n+1 by exact WV _ a)]
 .by_cases b:i=n
  .subst b;rw[ZZ a,ZY rfl,ZY (show i<i+1 by exact X0 _)]
   rfl
  .rw[ZZ a,ZZ b,ZZ (show ¬i<n+1 by lia)]
theorem Ru(s:Rat)(cs:List (Option bQ))(n:Nat)(as:List (Nat×Rat))(j:Nat):uc s cs n as n j=(if j=n then 1 else 0)-s*rF as j:=by unfold uc;rw[ZZ (X2 _),ZY rfl]
theorem adI{s:Rat}{cs:List (Option bQ)}{n i:Nat}(as bs:List (Nat×Rat))(j:Nat)(h:i≠n):uc s cs n as i j=uc s cs n bs i j:=by unfold uc;rw[ZZ h,ZZ h]
theorem Mq(F:Fun K oH oH u9 f fd)(T:Txt K mg D)(rE:OkT P w K mg base 1 jU j7 vC)(nU:OkT P w K mg base 3 rM rN zc)(sG:OkT P w K mg base 3 uE vK GD):b_ P w K mg base CX0 4 f fd ni (spT K Aq):=by
 refine F.okT iH (λts R hP=>by obtain⟨_,_,e,_⟩:=hP;exact e ▸ rfl) λcdv A outer s H E hr=>?_;refine⟨_,(bF (iQ 2 iH.nd (Or.inl rfl) (bI rE hr.md (by rfl) (bx (bT cU (by rfl) T.dU PySem.boot_len (bx (qv 1) bC)) bC)))
  (bF (dM PassesOwn.never rfl (zN (by rfl) T.mK (bx (qv 1) bC)) (fJ (n:=2) rfl (bU (bY (n:=99) 3 iH.nd (Or.inl rfl)) (bU (bY (n:=99) 4 iH.nd (Or.inl rfl)) dI)))
  (bG (cB (bZ LC (qv 4) jy)
  (bG (dM PassesOwn.never rfl (cH (bJ (qv 4) bA)) (fJ (n:=2) rfl (bU (bY (n:=99) 5 iH.nd (Or.inl rfl)) (bU (bY (n:=99) 6 iH.nd (Or.inl rfl)) dI)))
  (bG (abg 2 (bI nU hr.md (by rfl) (bx (aby 2 (qv 3) (qv 5)) (bx (bI sG hr.md (by rfl) (bx (qv 0) (bx (qv 6) bC))) bC))) (qv 3) (qv 5)))))
  bR)))
  (bG (jM 2)))),?_⟩
 rintro _ R ⟨s,cs,rfl,hm,hs,hw,q⟩;refine⟨cs.length,?_,hm,?_⟩
 .show[L2.T.int (((cs.map opT).length:Nat):Int)]=_;rw[ak]
 .have lc:∀x:Nat,((cs.map opT).length:Nat)=cs.length:=λ_=>ak _;refine xu opT cs (λn o=>∃x y z u,o=[.fz (frR s),.fz (.lst (cs.map opT)),.l2 (rowsOf (λi j=>if i<n then eV s cs i j else if j=i then 1 else 0) cs.length),x,y,z,u]) ⟨.und,.und,.und,.und,?_⟩ ?_ ?_
  .show[_,_,OT.l2 (rowsOf (λi j=>if j=i then 1 else 0) cs.length),_,_,_,_]=_;rw[um (f:=λi j=>if j=i then 1 else 0) (g:=λi j=>if i<0 then eV s cs i j else if j=i then 1 else 0) λi j _ _=>by rw[ZZ (WZ _)]]
  .rintro n oo _ e ⟨x,y,z,u,rfl⟩;have hn:n<cs.length:=(ao.mp e).1;have eg:cs.getD n none=oo:=by rw[au,e];rfl
   have hb:=hw oo (aC e);rw[show rowsOf (λi j=>if i<n then eV s cs i j else if j=i then 1 else 0) cs.length=rowsOf (uc s cs n []) cs.length from um λi j _ _=>(aa6 s cs n i j).symm];rw[show rowsOf (λi j=>if i<n+1 then eV s cs i j else if j=i then 1 else 0) cs.length=rowsOf (uc s cs n (kE oo)) cs.length from um λi j _ _=>by rw[<- eg];exact(ab6 i j).symm];refine⟨rfl,?_⟩
   match oo,hb with
   |none,hb=>exact⟨_,_,_,_,rfl⟩
   |some o,hb =>
    refine gk nwT o.ways (λas ot=>∃z u,ot=[.fz (frR s),.fz (.lst (cs.map opT)),.l2 (rowsOf (uc s cs n as) cs.length),.fz (.int n),.fz (ofT o),z,u]) ⟨_,_,rfl⟩ ?_ ?_
    .rintro as ⟨k,c⟩ bs _ e2 ⟨z,u,rfl⟩;have hm2:(k,c)∈o.ways:=e2 ▸ by simp
     have hk:=hb.lt _ hm2;obtain⟨c1,c2,c3⟩:=hb.bq _ hm2;have nk:k∉as.map (·.1):=λz=>by
      have nd:=hb.nd;rw[show kE (some o)=o.ways from rfl,e2,bf]at nd;exact(List.nodup_append.mp nd).2.2 k z k (by simp) rfl
     have cell:uc s cs n as n k=if k=n then 1 else 0:=by
      unfold uc;rw[ZZ (X2 _),ZY rfl,Wk nk]
      grind
     have q1:Bq (uc s cs n as n k)/\Bd (((uc s cs n as n k).den:Int)*(s*c).den):=by
      rw[cell];split
      .exact⟨bq1,by show Bd (1*_);rw[Int.one_mul];exact c3.2⟩
      .exact⟨bq0,by show Bd (1*_);rw[Int.one_mul];exact c3.2⟩
     refine⟨rfl,_,(abl hn),_,dF (List.getElem?_range hk),s,c,rfl,hs,c1,c2,_,_,rfl,q1.1,c3,q1.2,n,_,yG (by rw[Xm];exact hn),UG hn,k,yG (by rw[ak,List.length_range];exact hk),.fz (.int k),.fz (frR c),?_⟩;rw[<- ZD (f:=uc s cs n as) (g:=uc s cs n (as++[(k,c)])) (i:=n) (k:=k) (v:=uc s cs n as n k-s*c) λa b _ _=>?_]
     .rfl
     .by_cases a1:a=n
      .subst a1;rw[Ru,Zj];by_cases b1:b=k
       .subst b1;rw[ZY (show a=a/\b=b from⟨rfl,rfl⟩),Ru,ZY (show(b,c).1=b from rfl)]
        grind
       .rw[ZZ (show ¬(a=a/\b=k)from λz=>b1 z.2),Ru,ZZ (show ¬(k,c).1=b from λz=>b1 z.symm)]
        grind
      .rw[ZZ (show ¬(a=n/\b=k)from λz=>a1 z.1)];exact adI _ _ _ a1
    .rintro _ ⟨z,u,rfl⟩;exact⟨_,_,_,_,rfl⟩
  .rintro _ ⟨x,y,z,u,rfl⟩;rw[show rowsOf (eV s cs) cs.length=rowsOf (λi j=>if i<cs.length then eV s cs i j else if j=i then 1 else 0) cs.length from um λi j hi _=>by rw[ZY hi]]at q;exact q
open Rw (sg)
noncomputable def m5:Option bQ->Rat
 |none=>0
 |some o=>o.pay
def yZ(s:Rat)(cs:List (Option bQ)):List (List Rat):=(List.range cs.length).map λi=>(List.range cs.length).map λj=>eV s cs i j
theorem alv(s:Rat)(cs:List (Option bQ)):(rowsOf (eV s cs) cs.length).map T.lst=(yZ s cs).map Hj:=by
 unfold rowsOf yZ;rw[List.map_map,List.map_map];refine List.map_congr_left λi _=>?_;show T.lst _=T.lst (List.map frR _);rw[List.map_map]
 rfl
theorem KJ(s:Rat)(cs:List (Option bQ)):(yZ s cs).length=cs.length:=by unfold yZ;rw[ak,List.length_range]
theorem ae9{s:Rat}{cs:List (Option bQ)} : ∀r∈yZ s cs,r.length=cs.length:=λr hr=>by
 obtain⟨i,_,rfl⟩:=YV.mp hr;rw[ak,List.length_range]
def JZ(s:Rat)(cs:List (Option bQ))(y:Nat->Rat):Prop:=∀i,i<cs.length->sg (λj=>eV s cs i j*y j) cs.length=m5 (cs.getD i none)
structure WoB(s:Rat)(cs:List (Option bQ))(N:Nat):Prop where
 bs:Bq s
 ways:∀o∈cs,WyB s cs.length (kE o)
 sys:Sys (Ci (yZ s cs) (cs.map m5)) N
theorem SM{s:Rat}{cs:List (Option bQ)}{i:Nat}(h:i<cs.length):(Ci (yZ s cs) (cs.map m5))[i]?=some (((List.range cs.length).map λj=>eV s cs i j)++[m5 (cs.getD i none)]):=by
 unfold Ci yZ;rw[List.getElem?_zipWith,aq,List.getElem?_range h,aq,au,aj h]
 rfl
theorem Ye{s:Rat}{cs:List (Option bQ)}{y:Nat->Rat}(h:∀r∈Ci (yZ s cs) (cs.map m5),sg (λj=>r.getD j 0*y j) cs.length=r.getD cs.length 0):JZ s cs y:=λi hi=>by
 have:=h _ (aC (SM hi));have l:((List.range cs.length).map λj=>eV s cs i j).length=cs.length:=by rw[ak,List.length_range]
 rw[show(((List.range cs.length).map λj=>eV s cs i j)++[m5 (cs.getD i none)]).getD cs.length 0=m5 (cs.getD i none)by
  rw[au,aD (by rw[l];exact aG _),l,Nat.sub_self];rfl]at this
 rw[<- this];refine Rw.cg λj hj=>?_;rw[au,aF (by rw[l];exact hj),aq,List.getElem?_range hj]
 rfl
def z8(D:Adr):ST:=λts R=>∃(s:Rat)(ns:Φ)(off:List (List bQ))(pl:List (Option Nat))(N:Nat),ts=[hlT D s ns off,.lst (pl.map dT)]/\Rt ns off/\PlT off pl/\off.length<=100/\WoB s (chO off pl) N/\∀y:Nat->Rat,JZ s (chO off pl) y->(∀i,i<off.length->FnB ((2*off.length*N)^off.length) (y i))->R (.l1 ((List.range off.length).map λi=>frR (y i)))
theorem RK{off:List (List bQ)}{pl:List (Option Nat)}(h:PlT off pl):(chO off pl).length=off.length:=by unfold chO;rw[ak,List.length_zipIdx,h.len]
theorem Lr(F:Fun K m_ m_ p7 f fd)(T:Txt K mg D)(d_:OkT P w K mg base 4 gA gD (lY D))(oU:OkT P w K mg base 4 jk jw (ur D))(vY:OkT P w K mg base 4 oH ni Aq)(qJ:OkT P w K mg base 8 jT kj uY):b_ P w K mg base CX0 9 f fd nQ (spT K (z8 D)):=by
 refine F.okT sI (λts R hP=>by obtain⟨_,_,_,_,_,e,_⟩:=hP;exact e ▸ rfl) λcdv A outer s H E hr=>?_;refine⟨_,(bF (jq (bI d_ hr.md (by rfl) (bx (qv 0) (bx (qv 1) bC))))
  (bF (bO 2 sI.nd (Or.inl rfl) (bI oU hr.md (by rfl) (bx (qv 0) (bx (qv 1) bC))))
  (bF (ud (bH p7) u5 u5 ["offer"] (cH (qv 2)) (fu (i:=0)) cD (TY (bZ G5 (qv 0) jy) (lB (by rfl) T.jg T.gC) (bJ (qv 0) bA)) (lK (i:=3) sI.nd rfl (Or.inl rfl)))
  (bG (bN (bI qJ hr.md (by rfl) (bx (bI vY hr.md (by rfl) (bx (sV (Fm:=Fam D) (λC h=>⟨T.cl C h,T.Gp C h⟩) (qv 0)) (bx (qv 2) bC))) (bx (qv 3) bC)))))))),?_⟩
 rintro _ R ⟨s,ns,off,pl,N,rfl,h,hp,few,hw,ok⟩;have cl:=RK hp;refine⟨_,_,_,_,rfl,h,hp,_,_,_,_,rfl,h,hp,?_⟩;refine⟨by rw[ak,cl];exact aL few (by decide),comp_map opT (λo=>frR (m5 o)) (chO off pl) (λo ho N M hN=>by cases o<;>exact hN) ?_⟩;refine⟨uH D,_,rfl,s,chO off pl,rfl,by exact aL (Nat.le_of_eq cl) few,hw.bs,hw.ways,yZ s (chO off pl),(chO off pl).map m5,N,?_,by rw[ak,KJ],by rw[KJ];exact ae9,hw.sys,?_⟩
 .show[L2.T.lst ((rowsOf (eV s (chO off pl)) (chO off pl).length).map L2.T.lst),L2.T.lst ((chO off pl).map λo=>frR (m5 o))]=_;rw[alv,List.map_map]
  rfl
 .rw[KJ,cl];exact λy h1 h2=>ok y (Ye (by rw[cl];exact h1)) h2
noncomputable def Dr(ws:List (Nat×Rat))(tp:List Int):Rat:=(ws.map λw=>w.2*((tp.getD w.1 0:Int):Rat)).sum
structure BhB(ws:List (Nat×Rat))(tp:List Int):Prop where
 few:ws.length<=1000
 lt:∀w∈ws,w.1<tp.length
 num:∀w∈ws,Bd w.2.num
 lcm:Bd (cL 1 (ws.map (·.2)):Nat)
 part:∀t∈tops (cL 1 (ws.map (·.2))) (ws.map (·.2)),Bd t
 top:∀t∈tp,Bd t
def wI:ST:=λts q=>∃(o:bQ)(tp:List Int),ts=[ofT o,.lst (tp.map T.int)]/\BhB o.ways tp/\q (.fz (frR (Dr o.ways tp)))
theorem M8{B:Nat}(hB:0<B)(tp:List Int):∀ws:List (Nat×Rat),(∀w∈ws,w.2.den ∣ B)->Rat.divInt ((ws.map λw=>w.2.num*((B/w.2.den:Nat):Int)*tp.getD w.1 0).sum) B=Dr ws tp
 |[],_=>by
  show Rat.divInt 0 B=0;exact Rat.zero_divInt _
 |w::ws,h=>by
  have ih:=M8 hB tp ws λx hx=>h x (aJ _ hx);show Rat.divInt (w.2.num*((B/w.2.den:Nat):Int)*tp.getD w.1 0+(ws.map λw=>w.2.num*((B/w.2.den:Nat):Int)*tp.getD w.1 0).sum) B=w.2*((tp.getD w.1 0:Int):Rat)+Dr ws tp;rw[<- ih,Rat.divInt_eq_div,Rat.divInt_eq_div,Rat.intCast_add,XV];have e:((w.2.num*((B/w.2.den:Nat):Int):Int):Rat)/((B:Int):Rat)=w.2:=by
   obtain⟨k,hk⟩:=h w (aO ..);have hd:=w.2.den_pos;rw[show B/w.2.den=k by rw[hk];exact Nat.mul_div_cancel_left _ hd];have hk0:k≠0:=λz=>by rw[z]at hk;lia
   rw[<- Rat.divInt_eq_div,hk,Int.natCast_mul,Rat.divInt_mul_right (by lia)];exact rd _
  have hb:((B:Int):Rat)≠0:=λz=>by have:=Rat.intCast_eq_zero_iff.mp z;lia
  grind
theorem ZR{α:Type}(ws:List α)(g h:α->Int):((ws.map g).zip ws).map (λp=>p.1*h p.2)=ws.map λw=>g w*h w:=by
 induction ws with
 |nil=>rfl
 |cons w ws ih=>exact ZH (List.cons _) ih
theorem Gd(F:Fun K jV jV iV f fd)(T:Txt K mg D)(ju:OkT P w K mg base 2 oR oW vH)(dH:OkT P w K mg base 2 mF mQ rQ):b_ P w K mg base CX0 3 f fd k_ (spT K wI):=by
 refine F.okT uP (λts R hP=>by obtain⟨_,_,e,_⟩:=hP;exact e ▸ rfl) λcdv A outer s H E hr=>?_;refine⟨_,(bF (bO 2 uP.nd (Or.inl rfl) (bI ju hr.md (by rfl) (bx (dG (bH iV) jd jd ["room","chance"] (cH (bJ (qv 0) bA)) (fJ (n:=2) rfl (bU (fu (i:=0)) (bU (fu (i:=1)) dI))) cD (qv 1)) bC)))
  (bG (bN (bI dH hr.md (by rfl) (bx (bT (Ro rfl) (by rfl) T.Zk boot_sum (bx (dG (bH iV) jd jd ["part","way"] (Lx (by rfl) T.Ur (bx (bJ (qv 2) bA) (bx (bJ (qv 0) bA) bC))) (fJ (n:=2) rfl (bU (fu (i:=0)) (bU (fu (i:=1)) dI))) cD (bL cV (qv 0) (bJ (qv 3) (bJ (qv 1) bA)))) bC)) (bx (bJ (qv 2) bA) bC)))))),?_⟩
 rintro _ R ⟨o,tp,rfl,h,q⟩;refine⟨by rw[ak];exact aL h.few (by decide),comp_map nwT (λw=>frR w.2) o.ways (λw hw N M hN=>⟨rfl,hN⟩) ?_⟩;have hB:=fP (o.ways.map (·.2)) Nat.one_pos;refine⟨o.ways.map (·.2),by rw[List.map_map];rfl,by rw[ak];exact h.few,λr hr=>?_,h.lcm,?_⟩
 .obtain⟨w,hw,rfl⟩:=YV.mp hr;exact h.num w hw
 .refine⟨by unfold Gf;rw[ak,List.length_zip,ak,ak];exact aL (aL (Nat.min_le_right ..) h.few) (by decide),?_⟩;rw[zip_map];refine comp_map (λp:Int×(Nat×Rat)=>.tup [.int p.1,nwT p.2]) (λp=>.int (p.1*tp.getD p.2.1 0)) _ (λp hp N M hN=>?a) ?b
  case a =>
   have m2:=(List.of_mem_zip hp).2;have lt:=h.lt _ m2;have hN:N (.int (p.1*tp.getD p.2.1 0)):=hN;rw[au,aj lt]at hN;exact⟨rfl,_,dF (aj lt),⟨h.part _ (List.of_mem_zip hp).1,h.top _ (aU lt)⟩,hN⟩
  case b =>
   refine⟨((tops (cL 1 (o.ways.map (·.2))) (o.ways.map (·.2))).zip o.ways).map λp=>p.1*tp.getD p.2.1 0,by rw[List.map_map];rfl,_,_,rfl,by lia,h.lcm,λx y l=>?_⟩;rw[iG l (by lia)];unfold tops;rw[List.map_map,ZR o.ways _ λw=>tp.getD w.1 0];have:=M8 hB tp o.ways λw hw=>(gZ (o.ways.map (·.2))).2 w.2 (YV.mpr ⟨w,hw,rfl⟩);rw[<- this]at q;exact q
def C_:ST:=λts q=>∃(r:Rat)(rs:List Rat),ts=[.lst ((r::rs).map frR)]/\(∀x∈r::rs,Bq x)/\∀m,m∈r::rs->(∀x∈r::rs,x<=m)->q (.fz (frR m))
theorem Pr(F:Fun K pW pW yO f fd)(T:Txt K mg D)(gG:OkT P w K mg base 1 pL pF vG):b_ P w K mg base CX0 2 f fd qj (spT K C_):=by
 refine F.okT qz (λts R hP=>by obtain⟨_,_,e,_⟩:=hP;exact e ▸ rfl) λcdv A outer s H E hr=>?_;refine⟨_,(bF (bO 1 qz.nd (Or.inl rfl) jy)
  (bF (dM PassesOwn.never rfl (cH (qv 0)) (bY (n:=99) 2 qz.nd (Or.inl rfl))
  (bG (cB (QW.qt (iM (bZ G5 (qv 1) jy) (fW (cT (bI gG hr.md (by rfl) (bx (qv 1) (bx (qv 2) bC)))))))
  (bG (bO 1 qz.nd (Or.inl rfl) (qv 2)))
  bR)))
  (bG (bN (qv 1))))),?_⟩
 rintro _ R ⟨r,rs,rfl,h,q⟩;refine gk frR (r::rs) (λas o=>(as=[]/\∃x,o=[.fz (.lst ((r::rs).map frR)),.fz .non,x])\/∃m x,o=[.fz (.lst ((r::rs).map frR)),.fz (frR m),x]/\m∈as/\∀x∈as,x<=m) (.inl ⟨rfl,_,rfl⟩) ?_ ?_
 .rintro as a bs _ e (⟨rfl,x,rfl⟩|⟨m,x,rfl,hm,hx'⟩)
  .exact .inr ⟨a,_,rfl,by simp,λx hx=>by rw[show x=a by simpa using hx];exact Rat.le_refl⟩
  .have ba:Bq a:=h a (e ▸ by simp);have bm:Bq m:=h m (e ▸ List.mem_append_left _ hm);exact⟨m,a,rfl,bm,ba,swD (λlt=>.inr ⟨a,_,rfl,by simp,λx hx=>(Y1.mp hx).elim (λz=>Rat.le_trans (hx' x z) (Rat.le_of_lt lt)) λz=>by rw[YR.mp z];exact Rat.le_refl⟩) λnlt=>.inr ⟨m,_,rfl,List.mem_append_left _ hm,λx hx=>(Y1.mp hx).elim (hx' x) λz=>by rw[YR.mp z];exact Rat.not_lt.mp nlt⟩⟩
 .rintro _ (⟨z,_⟩|⟨m,x,rfl,hm,hx⟩)
  .cases z
  .exact q m hm hx
structure LkB(s:Rat)(o:bQ)(tp:List Int)(B:Nat):Prop where
 bh:BhB o.ways tp
 pay:Bq o.pay
 bs:Bq s
 b:Bd (B:Int)
 dw:Bq (Dr o.ways tp)
 d1:Bd ((s.den:Int)*(Dr o.ways tp).den)
 p1:Bq (o.pay*(B:Rat))
 p2:Bq (s*Dr o.ways tp)
 d2:Bd (((o.pay*(B:Rat)).den:Int)*(s*Dr o.ways tp).den)
def pZ(s:Rat)(tp:List Int)(B:Nat)(o:bQ):Rat:=o.pay*(B:Rat)+s*Dr o.ways tp
def uT(D:Adr):ST:=λts q=>∃(s:Rat)(ns:Φ)(off:List (List bQ))(o:bQ)(tp:List Int)(B:Nat),ts=[hlT D s ns off,ofT o,.tup [.lst (tp.map T.int),.int (B:Nat)]]/\LkB s o tp B/\q (.fz (frR (pZ s tp B o)))
theorem Fj(F:Fun K j9 j9 qW f fd)(T:Txt K mg D)(qM:OkT P w K mg base 3 jV k_ wI)(Cu:OkT P w K mg base 3 zY Ax Ka)(sG:OkT P w K mg base 3 uE vK GD):b_ P w K mg base CX0 4 f fd jP (spT K (uT D)):=by
 refine F.okT uU (λts R hP=>by obtain⟨_,_,_,_,_,_,e,_⟩:=hP;exact e ▸ rfl) λcdv A outer s H E hr=>?_;refine⟨_,(bF (bO 3 uU.nd (Or.inl rfl) (bI qM hr.md (by rfl) (bx (qv 1) (bx (bJ (qv 2) bA) bC))))
  (bG (bN (bI Cu hr.md (by rfl) (bx (bI sG hr.md (by rfl) (bx (bJ (qv 1) bA) (bx (dh (bx (bJ (qv 2) bA) (bx bA bC))) bC))) (bx (bI sG hr.md (by rfl) (bx (sV (Fm:=Fam D) (λC h=>⟨T.cl C h,T.Gp C h⟩) (qv 0)) (bx (qv 3) bC))) bC)))))),?_⟩
 rintro _ R ⟨s,ns,off,o,tp,B,rfl,h,q⟩;refine⟨o,tp,rfl,h.bh,o.pay,(B:Rat),rfl,h.pay,⟨h.b,bq1.2⟩,?_,uH D,_,rfl,s,Dr o.ways tp,rfl,h.bs,h.dw,h.d1,_,_,rfl,h.p1,h.p2,h.d2,q⟩;show Bd ((o.pay.den:Int)*1);rw[Int.mul_one];exact h.pay.2
def Ud(rs:List Rat)(d b:Nat):Prop:=(∀x∈rs,x<=rs.getD d 0)/\b=d\/((rs.getD d 0)<rs.getD b 0/\b<rs.length/\(∀x∈rs,x<=rs.getD b 0)/\∀i,i<b->rs.getD i 0≠rs.getD b 0)
theorem aeO{a b:Rat}(h:(a.num,((a.den:Nat):Int))=(b.num,((b.den:Nat):Int))):a=b:=by
 injection h with h1 h2;exact Rat.ext h1 (by lia)
theorem WL{rs:List Rat}{m:Rat}(h:m∈rs):∃j:Nat,rs[j]?=some m/\∀(i:Nat)g,i<j->rs[i]?=some g->g≠m:=by
 induction rs with
 |nil=>cases h
 |cons r rs ih =>
  by_cases e:r=m
  .exact⟨0,by rw[e];rfl,λi _ z=>absurd z (WZ _)⟩
  .obtain⟨j,e1,e2⟩:=ih ((YU.mp h).resolve_left λz=>e z.symm);refine⟨j+1,e1,λi g hi eg=>?_⟩;cases i with
   |zero=>cases eg;exact e
   |succ i=>exact e2 i g (Nat.lt_of_succ_lt_succ hi) eg
def vV:ST:=λts q=>∃(rs:List Rat)(d:Nat),ts=[.lst (rs.map frR),.int (d:Nat)]/\d<rs.length/\rs.length<=1000/\(∀x∈rs,Bq x)/\∀b:Nat,Ud rs d b->q (.fz (.int (b:Nat)))
theorem G6(F:Fun K jW jW rH f fd)(T:Txt K mg D)(yP:OkT P w K mg base 2 pW qj C_)(gG:OkT P w K mg base 1 pL pF vG):b_ P w K mg base CX0 3 f fd j5 (spT K vV):=by
 refine F.okT vo (λts R hP=>by obtain⟨_,_,e,_⟩:=hP;exact e ▸ rfl) λcdv A outer s H E hr=>?_;refine⟨_,(bF (bO 2 vo.nd (Or.inl rfl) (bI yP hr.md (by rfl) (bx (qv 0) bC)))
  (bF (cB (cT (bI gG hr.md (by rfl) (bx (bJ (qv 0) (qv 1)) (bx (qv 2) bC))))
  (bG (bN (aep hr.units (qv 0) (bx (qv 2) bC))))
  bR)
  (bG (bN (qv 1))))),?_⟩
 rintro _ R ⟨rs,d,rfl,hd,few,hb,q⟩;have ed:=aj hd;have gd:rs.getD d 0=rs[d]:=by rw[au,ed];rfl
 obtain⟨r,rs',e0⟩ : ∃r rs',rs=r::rs':=by
  cases rs with
  |nil=>exact absurd hd (WZ _)
  |cons r rs=>exact⟨r,rs,rfl⟩
 refine⟨r,rs',by rw[e0];rfl,λx hx=>hb x (e0 ▸ hx),λm hm hx=>?_⟩;rw[<- e0]at hm hx;refine⟨_,dF ed,_,m,rfl,hb _ (aU hd),hb m hm,swD (λlt=>?_) λnlt=>?_⟩
 .obtain⟨j,ej,nj⟩:=WL hm;have gj:rs.getD j 0=m:=by rw[au,ej];rfl
  refine⟨rs.map λr=>(r.num,((r.den:Nat):Int)),(m.num,((m.den:Nat):Int)),j,by rw[List.map_map];rfl,rfl,by rw[ak];exact aL few (by decide),by rw[aq,ej];rfl,λi g hi eg=>?_,q j (.inr ⟨by rw[gd,gj];exact lt,(ao.mp ej).1,by rw[gj];exact hx,λi hi=>?_⟩)⟩
  .rw[aq]at eg;have li:i<rs.length:=Nat.lt_trans hi (ao.mp ej).1;rw[aj li]at eg;cases eg;exact λz=>nj i _ hi (aj li) (aeO z)
  .have li:i<rs.length:=Nat.lt_trans hi (ao.mp ej).1;rw[gj,au,aj li];exact nj i _ hi (aj li)
 .refine q d (.inl ⟨λx hx'=>?_,rfl⟩);rw[gd];exact Rat.le_trans (hx x hx') (Rat.not_lt.mp nlt)
structure J3(s:Rat)(off:List (List bQ))(tp:List Int)(B:Nat)(pl pl':List (Option Nat)):Prop where
 len:pl'.length=pl.length
 none:∀k:Nat,pl[k]?=some none->pl'[k]?=some none
 some:∀(k d:Nat)(ds:List bQ),pl[k]?=some (some d)->off[k]?=some ds->∃b,pl'[k]?=some (some b)/\Ud (ds.map (pZ s tp B)) d b
structure MeB(s:Rat)(off:List (List bQ))(ys:List Rat):Prop where
 few:ys.length<=1000
 num:∀r∈ys,Bd r.num
 lcm:Bd (cL 1 ys:Nat)
 look:∀ds∈off,∀o∈ds,LkB s o (tops (cL 1 ys) ys) (cL 1 ys)/\Bq (pZ s (tops (cL 1 ys) ys) (cL 1 ys) o)
def Jp(D:Adr):ST:=λts R=>∃(s:Rat)(ns:Φ)(off:List (List bQ))(pl:List (Option Nat))(ys:List Rat),ts=[hlT D s ns off,.lst (pl.map dT),.lst (ys.map frR)]/\Rt ns off/\PlT off pl/\MeB s off ys/\∀pl':List (Option Nat),J3 s off (tops (cL 1 ys) ys) (cL 1 ys) pl pl'->R (.l1 (pl'.map dT))
theorem Wr(F:Fun K xJ xJ zJ f fd)(T:Txt K mg D)(d_:OkT P w K mg base 4 gA gD (lY D))(ju:OkT P w K mg base 2 oR oW vH)(qH:OkT P w K mg base 4 j9 jP (uT D))(qK:OkT P w K mg base 3 jW j5 vV)(dX:OkI P w K mg base CX0 3 D.Hall_offers fM (spT K (wU D))):b_ P w K mg base CX0 5 f fd w5 (spT K (Jp D)):=by
 refine F.okT oO (λts R hP=>by obtain⟨_,_,_,_,_,e,_⟩:=hP;exact e ▸ rfl) λcdv A outer s H E hr=>?_;refine⟨_,(bF (jq (bI d_ hr.md (by rfl) (bx (qv 0) (bx (qv 1) bC))))
  (bF (bO 3 oO.nd (Or.inr rfl) (bI ju hr.md (by rfl) (bx (qv 2) bC)))
  (bF (iQ 4 oO.nd (Or.inl rfl) (eU bC))
  (bF (dM PassesOwn.never rfl (zN (by rfl) T.mK (bx (qv 1) bC)) (fJ (n:=2) rfl (bU (bY (n:=99) 5 oO.nd (Or.inl rfl)) (bU (bY (n:=99) 6 oO.nd (Or.inl rfl)) dI)))
  (bF (ud (bH zJ) Fg Fg ["offer"] (cH (Er (qv 0) T.o7 T.pJ dX hr.md (bx (qv 5) bC) (KS:=pR))) (fu (i:=0)) cD (bI qH hr.md (by rfl) (bx (qv 1) (bx (qv 0) (bx (qv 4) bC)))) (lK (i:=7) oO.nd rfl (Or.inl rfl)))
  (bG (o9 4 (TY (bZ G5 (qv 6) jy) jy (bI qK hr.md (by rfl) (bx (qv 7) (bx (qv 6) bC))))))))
  (bG (jM 4)))))),?_⟩
 rintro _ R ⟨s,ns,off,pl,ys,rfl,h,hp,hm,ok⟩;refine⟨_,_,_,_,rfl,h,hp,ys,rfl,hm.few,hm.num,hm.lcm,?_⟩;have lk:=hm.look;generalize cL 1 ys=B at *;generalize tops B ys=tp at *;refine xu dT pl (λk o=>∃pl' x y z,o=[.fz (hlT D s ns off),.fz (.lst (pl.map dT)),.fz (.lst (ys.map frR)),.fz (.tup [.lst (tp.map L2.T.int),.int (B:Nat)]),.l1 (pl'.map dT),x,y,z]/\pl'.length=k/\(∀i:Nat,i<k->pl[i]?=some none->pl'[i]?=some none)/\∀(i d:Nat)(ds:List bQ),i<k->pl[i]?=some (some d)->off[i]?=some ds->∃b,pl'[i]?=some (some b)/\Ud (ds.map (pZ s tp B)) d b) ⟨[],.und,.und,.und,rfl,rfl,λi z=>absurd z (WZ _),λi d ds z=>absurd z (WZ _)⟩ ?_ ?_
 .rintro k d _ e ⟨pl',x,y,z,rfl,l1,h1,h2⟩;have lk':k<off.length:=by rw[<- hp.len];exact(ao.mp e).1
  have ek:=aj lk';have few:=h.few;have hl:=h.len;have lm:(pl'.map dT).length<sizeLine:=by rw[ak];exact aR (show _<1001 by lia) (by decide)
  have mem:=aU lk';have fd:=h.fews _ mem;have lft:∀{i:Nat}(v:Option Nat),i<k->(pl'++[v])[i]?=pl'[i]?:=λv hi=>aF (by lia);have rgt:∀v:Option Nat,(pl'++[v])[k]?=some v:=λv=>by rw[aD (Nat.le_of_eq l1),l1,Nat.sub_self];rfl
  have ma:∀v:Option Nat,pl'.map dT++[dT v]=(pl'++[v]).map dT:=λv=>by rw[bf];rfl
  refine⟨rfl,⟨rfl,rfl⟩,_,_,_,k,_,rfl,h,ek,by rw[ak];exact aL fd (by decide),comp_map ofT (λo=>frR (pZ s tp B o)) off[k] (λo ho N M hN=>⟨s,ns,off,o,tp,B,rfl,(lk _ mem o ho).1,hN⟩) ?_⟩;cases d with
  |none =>
   refine⟨lm,pl'++[none],.fz (.int k),.fz .non,.fz (.lst (off[k].map λo=>frR (pZ s tp B o))),?_,by simp[l1],λi hi ei=>?_,λi d ds hi ei=>?_⟩
   .rw[<- ma]
    rfl
   .by_cases c:i=k
    .rw[c];exact rgt none
    .rw[lft none (XX (Nat.le_of_lt_succ hi) c)];exact h1 i (XX (Nat.le_of_lt_succ hi) c) ei
   .by_cases c:i=k
    .rw[c,e]at ei;cases ei
    .rw[lft none (XX (Nat.le_of_lt_succ hi) c)];exact h2 i d ds (XX (Nat.le_of_lt_succ hi) c) ei
  |some d =>
   have ld:d<(off[k]).length:=of_decide_eq_true (hp.ok k (some d) _ e ek);refine⟨off[k].map (pZ s tp B),d,by rw[List.map_map];rfl,by rw[ak];exact ld,by rw[ak];exact fd,λx hx=>?_,λb hb=>⟨lm,pl'++[some b],.fz (.int k),.fz (.int d),.fz (.lst (off[k].map λo=>frR (pZ s tp B o))),?_,by simp[l1],λi hi ei=>?_,λi d' ds hi ei es=>?_⟩⟩
   .obtain⟨o,ho,rfl⟩:=YV.mp hx;exact(lk _ mem o ho).2
   .rw[<- ma]
    rfl
   .by_cases c:i=k
    .rw[c,e]at ei;cases ei
    .rw[lft (some b) (XX (Nat.le_of_lt_succ hi) c)];exact h1 i (XX (Nat.le_of_lt_succ hi) c) ei
   .by_cases c:i=k
    .subst c;rw[e]at ei;rw[ek]at es;cases ei;cases es;exact⟨b,rgt (some b),hb⟩
    .rw[lft (some b) (XX (Nat.le_of_lt_succ hi) c)];exact h2 i d' ds (XX (Nat.le_of_lt_succ hi) c) ei es
 .rintro _ ⟨pl',x,y,z,rfl,l1,h1,h2⟩;exact ok pl' ⟨l1,λk e=>h1 k (ao.mp e).1 e,λk d ds e=>h2 k d ds (ao.mp e).1 e⟩
open Rw (sg iT g8 cg jr jA)
noncomputable def dw(ws:List (Nat×Rat))(x:Nat->Rat):Rat:=(ws.map λw=>w.2*x w.1).sum
noncomputable def Ib(ws:List (Nat×Rat)):Rat:=(ws.map (·.2)).sum
theorem cY(w:Nat×Rat)(ws:List (Nat×Rat))(x:Nat->Rat):dw (w::ws) x=w.2*x w.1+dw ws x:=rfl
theorem Cj(w:Nat×Rat)(ws:List (Nat×Rat)):Ib (w::ws)=w.2+Ib ws:=rfl
theorem acd{M:Rat}{x:Nat->Rat} : ∀{ws:List (Nat×Rat)},(∀w∈ws,0<=w.2/\x w.1<=M)->dw ws x<=Ib ws*M
 |[],_=>by show(0:Rat)<=0*M;rw[Rat.zero_mul];exact Rat.le_refl
 |w::ws,h=>by
  rw[cY,Cj];have:=acd (ws:=ws) λv hv=>h v (aJ _ hv);obtain⟨a,b⟩:=h w (aO ..);have:=Rat.mul_le_mul_of_nonneg_left b a
  grind
theorem acn{m:Nat}{x:Nat->Rat} : ∀{ws:List (Nat×Rat)},(∀w∈ws,w.1<m)->sg (λj=>rF ws j*x j) m=dw ws x
 |[],_=>by
  show sg (λj=>0*x j) m=0;rw[cg (g:=λ_=>0) λj _=>Rat.zero_mul _,jr]
 |w::ws,h=>by
  rw[cY,<- acn (m:=m) (ws:=ws) λv hv=>h v (aJ _ hv)];rw[cg (g:=λj=>(if j=w.1 then 1 else 0)*(w.2*x j)+rF ws j*x j) λj _=>?_,iT,jA (v:=λj=>w.2*x j),ZY (h w (aO ..))];show((if w.1=j then w.2 else 0)+rF ws j)*x j=_;by_cases e:w.1=j
  .rw[ZY e,ZY e.symm];grind
  .rw[ZZ e,ZZ (Ne.symm e)];grind
theorem Yh(x:Nat->Rat):∀{m:Nat},0<m->∃i,i<m/\∀j,j<m->x j<=x i
 |0,h=>absurd h (WZ _)
 |1,_=>⟨0,Nat.one_pos,λj hj=>by rw[show j=0 by exact Nat.eq_zero_of_le_zero (Nat.le_of_lt_succ hj)];exact Rat.le_refl⟩
 |m+2,_=>by
  obtain⟨i,hi,h⟩:=Yh x (m:=m+1) (Nat.succ_pos _);by_cases c:x i<=x (m+1)
  .refine⟨m+1,by exact X0 _,λj hj=>?_⟩;by_cases e:j=m+1
   .rw[e];exact Rat.le_refl
   .exact Rat.le_trans (h j (XX (Nat.le_of_lt_succ hj) e)) c
  .refine⟨i,by exact Nat.lt_trans hi (X0 _),λj hj=>?_⟩;by_cases e:j=m+1
   .rw[e];exact Rat.le_of_lt (Rat.not_le.mp c)
   .exact h j (XX (Nat.le_of_lt_succ hj) e)
structure ShB(s:Rat)(m:Nat)(ws:List (Nat×Rat)):Prop where
 lt:∀w∈ws,w.1<m
 nn:∀w∈ws,0<=w.2
 one:Ib ws<=1
theorem sub_le{m:Nat}{s:Rat}{ws:Nat->List (Nat×Rat)}{x:Nat->Rat}(s0:0<=s)(s1:s<1)(hw:∀i,i<m->ShB s m (ws i))(h:∀i,i<m->x i<=s*dw (ws i) x):∀j,j<m->x j<=0:=λj hj=>by
 obtain⟨i,hi,mx⟩:=Yh x (m:=m) (by lia);refine Rat.le_trans (mx j hj) (Rat.not_lt.mp λp=>?_);have b:=hw i hi;have d:dw (ws i) x<=Ib (ws i)*x i:=acd λw hw=>⟨b.nn w hw,mx _ (b.lt w hw)⟩;have e:Ib (ws i)*x i<=1*x i:=Rat.mul_le_mul_of_nonneg_right b.one (Rat.le_of_lt p);have f:=Rat.mul_le_mul_of_nonneg_left (Rat.le_trans d e) s0;have g:=h i hi;have k:s*x i<1*x i:=Rat.mul_lt_mul_of_pos_right s1 p
 grind
theorem Te{s:Rat}{cs:List (Option bQ)}{x:Nat->Rat}{i:Nat}(hi:i<cs.length)(h:∀w∈kE (cs.getD i none),w.1<cs.length):sg (λj=>eV s cs i j*x j) cs.length=x i-s*dw (kE (cs.getD i none)) x:=by
 rw[<- acn h,cg (g:=λj=>(if j=i then 1 else 0)*x j+(-s)*(rF (kE (cs.getD i none)) j*x j)) λj _=>by unfold eV;grind,iT,g8,jA (v:=x),ZY hi]
 grind
theorem Vj{s:Rat}{cs:List (Option bQ)}{y:Nat->Rat}(h:∀i,i<cs.length->ShB s cs.length (kE (cs.getD i none))):JZ s cs y↔∀i,i<cs.length->y i=m5 (cs.getD i none)+s*dw (kE (cs.getD i none)) y:=by
 constructor
 .intro w i hi;have:=w i hi;rw[Te hi (h i hi).lt]at this
  grind
 .intro w i hi;rw[Te hi (h i hi).lt];have:=w i hi
  grind
theorem X3(x:Nat->Rat):∀ws:List (Nat×Rat),dw ws (λj=>-(x j))=-(dw ws x)
 |[]=>by show(0:Rat)=-0;grind
 |w::ws=>by rw[cY,cY,X3 x ws];grind
theorem adl{s:Rat}{cs:List (Option bQ)}(s0:0<=s)(s1:s<1)(h:∀i,i<cs.length->ShB s cs.length (kE (cs.getD i none)))(x:Nat->Rat)(hx:∀i,i<cs.length->sg (λj=>eV s cs i j*x j) cs.length=0):∀j,j<cs.length->x j=0:=λj hj=>by
 have e:∀i,i<cs.length->x i=s*dw (kE (cs.getD i none)) x:=λi hi=>by
  have:=hx i hi;rw[Te hi (h i hi).lt]at this
  grind
 have a:=sub_le s0 s1 h (x:=x) (λi hi=>by rw[<- e i hi];exact Rat.le_refl) j hj;have b:=sub_le s0 s1 h (x:=λj=>-(x j)) (λi hi=>by
  show -(x i)<=_;rw[X3,e i hi]
  grind) j hj
 grind
open Rw (sg iT g8 cg jr jA Big)
theorem Bb(s:Rat)(cs:List (Option bQ)):(Ci (yZ s cs) (cs.map m5)).length=cs.length:=by rw[List.length_zipWith,KJ,ak,Nat.min_self]
theorem aaC{s:Rat}{cs:List (Option bQ)}(s0:0<=s)(s1:s<1)(h:∀i,i<cs.length->ShB s cs.length (kE (cs.getD i none)))(x:Nat->Rat)(h0:∀j,cs.length<=j->x j=0)(hx:∀r∈Ci (yZ s cs) (cs.map m5),sg (λj=>r.getD j 0*x j) (cs.length+1)=0):∀j,j<cs.length->x j=0:=by
 refine adl s0 s1 h x λi hi=>?_;have:=hx _ (aC (SM hi));have l:((List.range cs.length).map λj=>eV s cs i j).length=cs.length:=by rw[ak,List.length_range]
 rw[<- this];show _=sg (λj=>(((List.range cs.length).map λj=>eV s cs i j)++[m5 (cs.getD i none)]).getD j 0*x j) cs.length+_*x cs.length;rw[h0 _ (aG _),Rat.mul_zero,Rat.add_zero];refine cg λj hj=>?_;rw[au,aF (by rw[l];exact hj),aq,List.getElem?_range hj]
 rfl
theorem abd{A Q:Nat}{r:List Rat}(hA:1<=A)(hQ:0<Q)(h:∀c∈r,c.den ∣ Q/\c.num.natAbs<=A*c.den):Big (A*Q) (lG r):=by
 have hB:=fP r Nat.one_pos;have hd:cL 1 r ∣ Q:=pq r (Nat.one_dvd _) λc hc=>(h c hc).1;have le:=Nat.le_of_dvd hQ hd;refine⟨by show(0:Int)<(cL 1 r:Nat);lia,?_,λt ht=>?_⟩
 .show((cL 1 r:Nat):Int).natAbs<=A*Q;rw[XT];exact aL le (Nat.le_mul_of_pos_left _ hA)
 .obtain⟨c,hc,rfl⟩:=YV.mp ht;rw[Int.natAbs_mul,XT];refine aL (Nat.mul_le_mul_right _ (h c hc).2) ?_;rw[Nat.mul_assoc,Nat.mul_div_cancel' ((gZ r).2 c hc)];exact Nat.mul_le_mul_left _ le
theorem Kw{s:Rat}{cs:List (Option bQ)}{r:List Rat}(hr:r∈Ci (yZ s cs) (cs.map m5)):∃i,i<cs.length/\r=((List.range cs.length).map λj=>eV s cs i j)++[m5 (cs.getD i none)]:=by
 obtain⟨i,e⟩:=aV hr;have hi:i<cs.length:=by have:=(ao.mp e).1;rw[Bb]at this;exact this
 rw[SM hi]at e;injection e with e;exact⟨i,hi,e.symm⟩
theorem Vn(ys:List Rat)(k:Nat):(((tops (cL 1 ys) ys).getD k 0:Int):Rat)=ys.getD k 0*((cL 1 ys:Nat):Rat):=by
 have h:=Mj ys k;unfold Rw.vr at h;have hB:=fP ys Nat.one_pos;have n:((((cL 1 ys:Nat):Int)):Rat)≠0:=λz=>by have:=Rat.intCast_eq_zero_iff.mp z;lia
 have e:((((cL 1 ys:Nat):Int)):Rat)=((cL 1 ys:Nat):Rat):=rfl;rw[<- e,<- h];show _=(((tops (cL 1 ys) ys).getD k 0:Int):Rat)/_*_
 grind
theorem TF(ys:List Rat):∀ws:List (Nat×Rat),Dr ws (tops (cL 1 ys) ys)=dw ws (λk=>ys.getD k 0)*((cL 1 ys:Nat):Rat)
 |[]=>by show(0:Rat)=0*_;rw[Rat.zero_mul]
 |w::ws=>by
  show w.2*(((tops (cL 1 ys) ys).getD w.1 0:Int):Rat)+Dr ws _=_;rw[TF ys ws,cY,Vn]
  grind
def aa5(s:Rat)(y:Nat->Rat)(o:bQ):Rat:=o.pay+s*dw o.ways y
theorem T_(s:Rat)(ys:List Rat)(o:bQ):pZ s (tops (cL 1 ys) ys) (cL 1 ys) o=aa5 s (λk=>ys.getD k 0) o*((cL 1 ys:Nat):Rat):=by
 unfold pZ aa5;rw[TF]
 grind
theorem QX{x z:Nat->Rat} : ∀{ws:List (Nat×Rat)},(∀w∈ws,x w.1=z w.1)->dw ws x=dw ws z
 |[],_=>rfl
 |w::ws,h=>by rw[cY,cY,h w (aO ..),QX λv hv=>h v (aJ _ hv)]
theorem UL{x z:Nat->Rat} : ∀{ws:List (Nat×Rat)},(∀w∈ws,0<=w.2/\x w.1<=z w.1)->dw ws x<=dw ws z
 |[],_=>Rat.le_refl
 |w::ws,h=>by
  rw[cY,cY];have:=UL (ws:=ws) λv hv=>h v (aJ _ hv);obtain⟨a,b⟩:=h w (aO ..);have:=Rat.mul_le_mul_of_nonneg_left b a
  grind
theorem XM(x z:Nat->Rat):∀ws:List (Nat×Rat),dw ws (λj=>x j-z j)=dw ws x-dw ws z
 |[]=>by show(0:Rat)=0-0;grind
 |w::ws=>by rw[cY,cY,cY,XM x z ws];grind
def xO(s:Rat)(y:Nat->Rat)(c:Option bQ):Rat:=m5 c+s*dw (kE c) y
theorem zq{m:Nat}{s:Rat}{c:Nat->Option bQ}{y z:Nat->Rat}(s0:0<=s)(s1:s<1)(hw:∀i,i<m->ShB s m (kE (c i)))(hy:∀i,i<m->y i<=xO s y (c i))(hz:∀i,i<m->z i=xO s z (c i)):∀i,i<m->y i<=z i:=λi hi=>by
 have:=sub_le s0 s1 hw (x:=λj=>y j-z j) (λi hi=>by
  rw[XM];show y i-z i<=_;have a:=hy i hi;have b:=hz i hi;unfold xO at a b
  grind) i hi
 grind
theorem ZM{m:Nat}{s:Rat}{c:Nat->Option bQ}{y z:Nat->Rat}(s0:0<=s)(s1:s<1)(hw:∀i,i<m->ShB s m (kE (c i)))(hy:∀i,i<m->y i<=xO s y (c i))(hz:∀i,i<m->z i=xO s z (c i)){i:Nat}(hi:i<m)(lt:y i<xO s y (c i)):y i<z i:=by
 have le:=zq s0 s1 hw hy hz;have m1:=UL (ws:=kE (c i)) (x:=y) (z:=z) λw hm=>⟨(hw i hi).nn w hm,le _ ((hw i hi).lt w hm)⟩;have m2:=Rat.mul_le_mul_of_nonneg_left m1 s0;have e:=hz i hi;unfold xO at lt e
 grind
theorem JG{off:List (List bQ)}{pl:List (Option Nat)}{i:Nat}{d:Option Nat}(e:pl[i]?=some d):(chO off pl).getD i none=d.bind λd=>(off.getD i [])[d]?:=by
 unfold chO;rw[au,aq,List.getElem?_zipIdx,e];simp
theorem aaj{s:Rat}{ys:List Rat}{ds:List bQ}{d b:Nat}(hd:d<ds.length)(h:Ud (ds.map (pZ s (tops (cL 1 ys) ys) (cL 1 ys))) d b):b=d\/∃o p,ds[d]?=some o/\ds[b]?=some p/\aa5 s (λk=>ys.getD k 0) o<aa5 s (λk=>ys.getD k 0) p:=by
 rcases h with⟨_,e⟩|⟨lt,lb,_⟩
 .exact .inl e
 .rw[ak]at lb;refine .inr ⟨_,_,aj hd,aj lb,?_⟩;rw[au,au,aq,aq,aj hd,aj lb]at lt;have lt:pZ s (tops (cL 1 ys) ys) (cL 1 ys) ds[d]<pZ s (tops (cL 1 ys) ys) (cL 1 ys) ds[b]:=lt;rw[T_,T_]at lt;have hB:=fP ys Nat.one_pos;have p:(0:Rat)<((cL 1 ys:Nat):Rat):=by
   have:((0:Int):Rat)<(((cL 1 ys:Nat):Int):Rat):=Rat.intCast_lt_intCast.mpr (by lia);exact this
  exact(Rat.mul_lt_mul_right p).mp lt
theorem Jz{s:Rat}{off:List (List bQ)}{tp:List Int}{B:Nat}{pl pl':List (Option Nat)}(hp:PlT off pl)(h:J3 s off tp B pl pl'):PlT off pl':=by
 refine⟨by rw[h.len,hp.len],λk d ds e1 e2=>?_⟩;have lk:k<pl.length:=by rw[<- h.len];exact(ao.mp e1).1
 have ek:=aj lk;have ft:=hp.ok k _ ds ek e2;cases ed:pl[k]with
 |none =>
  rw[ed]at ek ft;rw[h.none k ek]at e1;cases e1;exact ft
 |some c =>
  rw[ed]at ek ft;obtain⟨b,e3,hb⟩:=h.some k c ds ek e2;rw[e3]at e1;cases e1;have lc:c<ds.length:=of_decide_eq_true ft;rcases hb with⟨_,rfl⟩|⟨_,lb,_⟩
  .exact ft
  .rw[ak]at lb;exact Zs lb
theorem rise{s:Rat}{off:List (List bQ)}{pl pl':List (Option Nat)}{ys:List Rat}{z:Nat->Rat}(s0:0<=s)(s1:s<1)(hw:∀ds∈off,∀o∈ds,ShB s off.length o.ways)(hp:PlT off pl)(h:J3 s off (tops (cL 1 ys) ys) (cL 1 ys) pl pl')
 (hy:∀i,i<off.length->ys.getD i 0=xO s (λk=>ys.getD k 0) ((chO off pl).getD i none))(hz:∀i,i<off.length->z i=xO s z ((chO off pl').getD i none)):(∀i,i<off.length->ys.getD i 0<=z i)/\∀i,i<off.length->pl'[i]?≠pl[i]?->ys.getD i 0<z i:=by
 have hp':=Jz hp h;have sh:∀{ql:List (Option Nat)},PlT off ql->∀i,i<off.length->ShB s off.length (kE ((chO off ql).getD i none)):=λ{ql}hq i hi=>by
  have ei:=aj (show i<ql.length by rw[hq.len];exact hi);rw[JG ei];cases ql[i]'(by rw[hq.len];exact hi)with
  |none=>exact⟨λ_ z=>(nomatch z),λ_ z=>(nomatch z),by show(0:Rat)<=1;decide⟩
  |some d =>
   show ShB s off.length (kE ((off.getD i [])[d]?));rw[au,aj hi];show ShB s off.length (kE (off[i][d]?));cases ed:off[i][d]? with
   |none=>exact⟨λ_ z=>(nomatch z),λ_ z=>(nomatch z),by show(0:Rat)<=1;decide⟩
   |some o=>exact hw _ (aU hi) o (aC ed)
 have key:∀i,i<off.length->(pl'[i]?=pl[i]?/\ys.getD i 0=xO s (λk=>ys.getD k 0) ((chO off pl').getD i none))\/ys.getD i 0<xO s (λk=>ys.getD k 0) ((chO off pl').getD i none):=λi hi=>by
  have lp:i<pl.length:=by rw[hp.len];exact hi
  have ei:=aj lp;have eo:=aj hi;have go:off.getD i []=off[i]:=by rw[au,eo];rfl
  have hyi:=hy i hi;rw[JG ei]at hyi;cases ed:pl[i]with
  |none =>
   rw[ed]at ei hyi;have e':=h.none i ei;exact .inl ⟨by rw[e',ei],by rw[JG e'];exact hyi⟩
  |some d =>
   rw[ed]at ei hyi;obtain⟨b,e',hb⟩:=h.some i d _ ei eo;have ld:d<(off[i]).length:=of_decide_eq_true (hp.ok i (some d) _ ei eo);rcases aaj ld hb with rfl|⟨o,p,e1,e2,lt⟩
   .exact .inl ⟨by rw[e',ei],by rw[JG e'];exact hyi⟩
   .refine .inr ?_;rw[JG e',hyi];show xO s _ ((off.getD i [])[d]?)<xO s _ ((off.getD i [])[b]?);rw[go,e1,e2];exact lt
 have le1:∀i,i<off.length->ys.getD i 0<=xO s (λk=>ys.getD k 0) ((chO off pl').getD i none):=λi hi=>(key i hi).elim (λz=>by rw[<- z.2];exact Rat.le_refl) Rat.le_of_lt;exact⟨zq (y:=λk=>ys.getD k 0) s0 s1 (sh hp') le1 hz,λi hi ne=>ZM (y:=λk=>ys.getD k 0) s0 s1 (sh hp') le1 hz hi ((key i hi).resolve_left λz=>ne z.1)⟩
theorem Di{α:Type}{g:α->PyData}(h:∀x,PyData.canLay0 (g x)=true):∀xs:List α,PyData.canLayAll0 (xs.map g)=true
 |[]=>rfl
 |x::xs=>by rw[List.map_cons];unfold PyData.canLayAll0;rw[Di h xs,h x];rfl
theorem Fw{α:Type}{g:α->PyData}{n:Nat}(h:∀x,PyData.depth (g x)<=n):∀xs:List α,PyData.depthAll (xs.map g)<=n
 |[]=>aZ _
 |x::xs=>by
  rw[List.map_cons];unfold PyData.depthAll;have:=Fw h xs;have:=h x;lia
theorem Gr{α:Type}{g:α->PyData}{h:α->T}(e:∀x,h x=ofD (g x)):∀xs:List α,xs.map h=YT (xs.map g)
 |[]=>rfl
 |x::xs=>by rw[List.map_cons,List.map_cons,Gr e xs,e x];rfl
theorem Qg{α:Type}[DecidableEq α]{g:α->PyData}(h:∀x y,PyData.eqv (g x) (g y)=decide (x=y)):∀xs ys:List α,PyData.eqvAll (xs.map g) (ys.map g)=decide (xs=ys)
 |[],[]=>rfl
 |[],_::_=>rfl
 |_::_,[]=>rfl
 |x::xs,y::ys=>by
  rw[List.map_cons,List.map_cons];unfold PyData.eqvAll;rw[h,Qg h xs ys,<- Bool.decide_and];exact decide_eq_decide.mpr ⟨λz=>by rw[z.1,z.2],λz=>List.cons.inj z⟩
structure EqD{α:Type}[DecidableEq α](h:α->T)(g:α->PyData):Prop where
 of:∀x,h x=ofD (g x)
 lay:∀x,PyData.canLay0 (g x)=true
 dep:∀x,PyData.depth (g x)<=60
 eqv:∀x y,PyData.eqv (g x) (g y)=decide (x=y)
theorem EqD.lst{α:Type}[DecidableEq α]{h:α->T}{g:α->PyData}(E:EqD h g)(xs:List α):SeqAt.shaped (.list (xs.map g))=true:=by
 have h1:PyData.canLay0 (.list (xs.map g))=true:=by unfold PyData.canLay0;exact Di E.lay xs
 have h2:PyData.depth (.list (xs.map g))<=64:=by unfold PyData.depth;have:=Fw E.dep xs;lia
 unfold SeqAt.shaped;rw[h1,Zs h2];rfl
theorem EqD.gEq{α:Type}[DecidableEq α]{h:α->T}{g:α->PyData}(E:EqD h g){neg:Bool}{a c:List α}{q:OT->Prop}(hq:q (.fz (.bl (xr neg (decide (a=c)))))):gEq neg (.lst (a.map h)) (.lst (c.map h)) q:=by
 refine⟨.list (a.map g),.list (c.map g),ZH L2.T.lst (Gr E.of a),ZH L2.T.lst (Gr E.of c),E.lst a,E.lst c,?_⟩;unfold PyData.eqv;rw[Qg E.eqv];exact hq
noncomputable def dD:Option Nat->PyData
 |none=>.none
 |some d=>.int (d:Nat)
theorem GP:EqD dT dD:=⟨λx=>by cases x<;>rfl,λx=>by cases x<;>rfl,λx=>by cases x<;>exact aZ _,λx y=>by
 cases x<;>cases y
 .rfl
 .rfl
 .rfl
 .rename_i a b
  show decide ((a:Int)=(b:Int))=_;exact decide_eq_decide.mpr ⟨λz=>by rw[Int.ofNat.inj z],λz=>by rw[Option.some.inj z]⟩⟩
noncomputable def rO:List (List bQ)->List (List (Option Nat))
 |[]=>[[]]
 |ds::off=>((if ds=[]then[none]else(List.range ds.length).map some).map λd=>(rO off).map λpl=>d::pl).flatten
theorem Va:∀{off:List (List bQ)}{pl:List (Option Nat)},PlT off pl->pl∈rO off
 |[],pl,h=>by
  have:=h.len;rw[List.length_eq_zero_iff.mp this];exact YR.mpr rfl
 |ds::off,[],h=>by have:=h.len;cases this
 |ds::off,d::pl,h=>by
  have ih:=Va (off:=off) (pl:=pl) ⟨Nat.succ.inj h.len,λk d ds e1 e2=>h.ok (k+1) d ds e1 e2⟩;have ft:=h.ok 0 d ds rfl rfl;refine List.mem_flatten.mpr ⟨_,YV.mpr ⟨d,?_,rfl⟩,YV.mpr ⟨pl,ih,rfl⟩⟩;cases d with
  |none =>
   have:ds.length=0:=of_decide_eq_true ft;rw[ZY (List.length_eq_zero_iff.mp this)];exact YR.mpr rfl
  |some d =>
   have:d<ds.length:=of_decide_eq_true ft;rw[ZZ λz=>by rw[z]at this;cases this];exact YV.mpr ⟨d,List.mem_range.mpr this,rfl⟩
theorem JH{α:Type} : ∀{l l':List α},l.Nodup->(∀a∈l,a∈l')->l.length<=l'.length
 |[],_,_,_=>aZ _
 |a::l,l',nd,h=>by
  obtain⟨s,t,rfl⟩:=List.append_of_mem (h a (aO ..));have nd':=List.nodup_cons.mp nd;have:=JH (l:=l) (l':=s++t) nd'.2 λb hb=>by
   have m:=h b (aJ _ hb);rcases Y1.mp m with z|z
   .exact List.mem_append_left _ z
   .rcases YU.mp z with y|y
    .exact absurd (y ▸ hb) nd'.1
    .exact aP _ y
  rw[List.length_cons,aA,List.length_cons];rw[aA]at this;lia
def CJ(s:Rat)(off:List (List bQ))(pl:List (Option Nat))(ys:List Rat):Prop:=ys.length=off.length/\∀i,i<off.length->ys.getD i 0=xO s (λk=>ys.getD k 0) ((chO off pl).getD i none)
abbrev Mnd(s:Rat)(off:List (List bQ))(ys:List Rat)(pl pl':List (Option Nat)):Prop:=J3 s off (tops (cL 1 ys) ys) (cL 1 ys) pl pl'
structure MnB(s:Rat)(off:List (List bQ))(N:Nat):Prop where
 s0:0<=s
 s1:s<1
 few:off.length<=100
 sh:∀ds∈off,∀o∈ds,ShB s off.length o.ways
 wo:∀pl,PlT off pl->WoB s (chO off pl) N
 me:∀ys:List Rat,ys.length=off.length->(∀r∈ys,FnB ((2*off.length*N)^off.length) r)->MeB s off ys
 pls:(rO off).length<sizeLine
theorem J8{s:Rat}{off:List (List bQ)}(hw:∀ds∈off,∀o∈ds,ShB s off.length o.ways){ql:List (Option Nat)}(hq:PlT off ql)(i:Nat)(hi:i<off.length):ShB s off.length (kE ((chO off ql).getD i none)):=by
 have ei:=aj (show i<ql.length by rw[hq.len];exact hi);rw[JG ei];cases ql[i]'(by rw[hq.len];exact hi)with
 |none=>exact⟨λ_ z=>(nomatch z),λ_ z=>(nomatch z),by show(0:Rat)<=1;decide⟩
 |some d =>
  show ShB s off.length (kE ((off.getD i [])[d]?));rw[au,aj hi];show ShB s off.length (kE (off[i][d]?));cases ed:off[i][d]? with
  |none=>exact⟨λ_ z=>(nomatch z),λ_ z=>(nomatch z),by show(0:Rat)<=1;decide⟩
  |some o=>exact hw _ (aU hi) o (aC ed)
theorem Pg{s:Rat}{off:List (List bQ)}{pl:List (Option Nat)}{ys zs:List Rat}(s0:0<=s)(s1:s<1)(hw:∀ds∈off,∀o∈ds,ShB s off.length o.ways)(hp:PlT off pl)(hy:CJ s off pl ys)(hz:CJ s off pl zs)(i:Nat)(hi:i<off.length):ys.getD i 0=zs.getD i 0 :=
 Rat.le_antisymm (zq (y:=λk=>ys.getD k 0) (z:=λk=>zs.getD k 0) s0 s1 (J8 hw hp) (λi hi=>by rw[<- hy.2 i hi];exact Rat.le_refl) hz.2 i hi) (zq (y:=λk=>zs.getD k 0) (z:=λk=>ys.getD k 0) s0 s1 (J8 hw hp) (λi hi=>by rw[<- hz.2 i hi];exact Rat.le_refl) hy.2 i hi)
noncomputable abbrev PWs:=List (Option Nat)×List Rat
abbrev pwT(p:PWs):T:=.tup [.lst (p.1.map dT),.lst (p.2.map frR)]
structure Told(s:Rat)(off:List (List bQ))(M:Nat)(pl:List (Option Nat))(ps:List PWs):Prop where
 hd:∀p,ps[0]?=some p->p.1=pl
 ok:∀p∈ps,PlT off p.1/\CJ s off p.1 p.2/\∀r∈p.2,FnB M r
 up:∀(k:Nat)p q,ps[k]?=some p->ps[k+1]?=some q->Mnd s off p.2 p.1 q.1/\q.1≠p.1
def More(m:Nat)(ys zs:List Rat):Prop:=(∀i,i<m->ys.getD i 0<=zs.getD i 0)/\∃i,i<m/\ys.getD i 0<zs.getD i 0
theorem More.trans{m:Nat}{xs ys zs:List Rat}(h:More m xs ys)(k:More m ys zs):More m xs zs :=
 ⟨λi hi=>Rat.le_trans (h.1 i hi) (k.1 i hi),let⟨i,hi,l⟩:=h.2;⟨i,hi,by have:=k.1 i hi;grind⟩⟩
theorem afG{off:List (List bQ)}{pl pl':List (Option Nat)}(hp:PlT off pl)(hp':PlT off pl')(n:pl'≠pl):∃i,i<off.length/\pl'[i]?≠pl[i]?:=by
 refine Classical.byContradiction λc=>n (List.ext_getElem? λi=>?_);by_cases hi:i<off.length
 .exact Decidable.byContradiction λz=>c ⟨i,hi,z⟩
 .rw[aM (by rw[hp'.len];exact Nat.le_of_not_lt hi),aM (by rw[hp.len];exact Nat.le_of_not_lt hi)]
theorem Told.step{s:Rat}{off:List (List bQ)}{M N:Nat}{pl:List (Option Nat)}{ps:List PWs}(h:Told s off M pl ps)(B:MnB s off N){k:Nat}{p q:PWs}(e1:ps[k]?=some p)(e2:ps[k+1]?=some q):More off.length p.2 q.2:=by
 obtain⟨u,n⟩:=h.up k p q e1 e2;obtain⟨a1,a2,_⟩:=h.ok p (aC e1);obtain⟨b1,b2,_⟩:=h.ok q (aC e2);obtain⟨c1,c2⟩:=rise (z:=λk=>q.2.getD k 0) B.s0 B.s1 B.sh a1 u a2.2 b2.2;obtain⟨i,hi,ne⟩:=afG a1 b1 n;exact⟨c1,i,hi,c2 i hi ne⟩
theorem Told.more{s:Rat}{off:List (List bQ)}{M N:Nat}{pl:List (Option Nat)}{ps:List PWs}(h:Told s off M pl ps)(B:MnB s off N){j:Nat}{p:PWs}(e1:ps[j]?=some p):∀(k:Nat){q:PWs},j<k->ps[k]?=some q->More off.length p.2 q.2
 |0,_,l,_=>absurd l (WZ _)
 |k+1,q,l,e2=>by
  have lk:k<ps.length:=by have:=(ao.mp e2).1;exact Nat.lt_trans (X0 _) this
  have ek:=aj lk;have st:=h.step B ek e2;by_cases c:j=k
  .subst c;rw[e1]at ek;cases ek;exact st
  .exact(h.more B e1 k (XX (Nat.le_of_lt_succ l) c) ek).trans st
theorem Told.ne{s:Rat}{off:List (List bQ)}{M N:Nat}{pl:List (Option Nat)}{ps:List PWs}(h:Told s off M pl ps)(B:MnB s off N){j k:Nat}{p q:PWs}(l:j<k)(e1:ps[j]?=some p)(e2:ps[k]?=some q):p.1≠q.1:=λz=>by
 obtain⟨_,i,hi,lt⟩:=h.more B e1 k l e2;obtain⟨a1,a2,_⟩:=h.ok p (aC e1);obtain⟨b1,b2,_⟩:=h.ok q (aC e2);rw[<- z]at b2;rw[Pg B.s0 B.s1 B.sh a1 a2 b2 i hi]at lt;exact absurd lt (by grind)
theorem Told.nodup{s:Rat}{off:List (List bQ)}{M N:Nat}{pl:List (Option Nat)}{ps:List PWs}(h:Told s off M pl ps)(B:MnB s off N):(ps.map (·.1)).Nodup:=by
 refine List.pairwise_iff_getElem.mpr λi j hi hj l=>?_;rw[ak]at hi hj;rw[List.getElem_map,List.getElem_map];exact h.ne B l (aj hi) (aj hj)
theorem Told.len{s:Rat}{off:List (List bQ)}{M N:Nat}{pl:List (Option Nat)}{ps:List PWs}(h:Told s off M pl ps)(B:MnB s off N):ps.length<=(rO off).length:=by
 have:=JH (h.nodup B) (l':=rO off) λa ha=>by
  obtain⟨p,hp,rfl⟩:=YV.mp ha;exact Va (h.ok p hp).1
 rwa[ak]at this
theorem Told.snoc{s:Rat}{off:List (List bQ)}{M:Nat}{pl:List (Option Nat)}{ps:List PWs}{x:PWs}(h:Told s off M pl ps)(h0:ps=[]->x.1=pl)(hx:PlT off x.1/\CJ s off x.1 x.2/\∀r∈x.2,FnB M r)(hl:∀p,ps.getLast?=some p->Mnd s off p.2 p.1 x.1/\x.1≠p.1):Told s off M pl (ps++[x]):=by
 refine⟨λp e=>?_,λp hp=>?_,λk p q e1 e2=>?_⟩
 .cases ps with
  |nil=>cases e;exact h0 rfl
  |cons y ps=>exact h.hd p e
 .rcases Y1.mp hp with z|z
  .exact h.ok p z
  .cases YR.mp z;exact hx
 .have lk:k+1<(ps++[x]).length:=(ao.mp e2).1;rw[aA,List.length_singleton]at lk;rw[aF (Nat.lt_of_succ_lt_succ lk)]at e1;by_cases c:k+1<ps.length
  .rw[aF c]at e2;exact h.up k p q e1 e2
  .rw[aD (Nat.le_of_not_lt c),show k+1-ps.length=0 by omega]at e2;cases e2;exact hl p (by rw[List.getLast?_eq_getElem?,show ps.length-1=k by omega];exact e1)
theorem adQ{t:T}{ts:List T}{q:OT->Prop}(h:q (.fz t)):gIx (.tup (t::ts)) (.int 0) q:=h
theorem aeX{c d:RT}{o:List OT}{q:Bool->Prop}(b:Bool)(h:∀q:Bool->Prop,q b->rOr c d o q)(hq:q b):rOr c d o q:=h q hq
theorem Um{α:Type}{h:α->T}{ps:List α}{p:α}(e:ps.getLast?=some p):ixT (ps.map h) (-1)=some (h p):=by
 show nth (ps.map h).reverse 0=_;rw[rD,<- List.map_reverse,aq,<- List.head?_eq_getElem?,List.head?_reverse,e]
 rfl
structure ahI(s:Rat)(off:List (List bQ))(M:Nat)(pl:List (Option Nat))(ps:List PWs):Prop where
 told:Told s off M pl ps
 ne:ps≠[]
 last:∀p,ps.getLast?=some p->Mnd s off p.2 p.1 p.1
def CV(D:Adr):ST:=λts R=>∃(s:Rat)(ns:Φ)(off:List (List bQ))(pl:List (Option Nat))(N:Nat),ts=[hlT D s ns off,.lst (pl.map dT)]/\Rt ns off/\PlT off pl/\MnB s off N/\∀ps:List PWs,ahI s off ((2*off.length*N)^off.length) pl ps->R (.l1 (ps.map pwT))
theorem QB(F:Fun K pX pX yr f fd)(T:Txt K mg D)(d_:OkT P w K mg base 4 gA gD (lY D))(vq:OkT P w K mg base 9 m_ nQ (z8 D))(Hg:OkT P w K mg base 5 xJ w5 (Jp D)):b_ P w K mg base CX0 10 f fd qm (spT K (CV D)):=by
 refine F.okT qe (λts R hP=>by obtain⟨_,_,_,_,_,e,_⟩:=hP;exact e ▸ rfl) λcdv A outer s H E hr=>?_;refine⟨_,(bF (jq (bI d_ hr.md (by rfl) (bx (qv 0) (bx (qv 1) bC))))
  (bF (iQ 2 qe.nd (Or.inl rfl) (eU bC))
  (bF (bO 3 qe.nd (Or.inl rfl) (rW Ez (by rfl) T.v8 boot_list (bx (qv 1) bC)))
  (bF (FZ PassesOwn.never (QW.qt (iM (bZ (go_eq hr.units) (Nz 2 (bT cU (by rfl) T.dU PySem.boot_len (bx (qv 2) bC))) bA) (fW (bZ (lA hr.units) (qv 3) (bJ (tH 2 (FJ bA)) bA)))))
  (bF (o9 2 (dh (bx (qv 3) (bx (bI vq hr.md (by rfl) (bx (qv 0) (bx (qv 3) bC))) bC))))
  (bG (bO 3 qe.nd (Or.inl rfl) (bI Hg hr.md (by rfl) (bx (qv 0) (bx (qv 3) (bx (bJ (tH 2 (FJ bA)) bA) bC))))))))
  (bG (jM 2)))))),?_⟩
 rintro _ R ⟨s,ns,off,pl,N,rfl,h,hp,B,ok⟩;generalize eM:(2*off.length*N)^off.length=M at ok;refine⟨_,_,_,_,rfl,h,hp,?_⟩;refine⟨λm o=>∃(ps:List PWs)(cl:List (Option Nat)),o=[.fz (hlT D s ns off),.fz (.lst (pl.map dT)),.l1 (ps.map pwT),.fz (.lst (cl.map dT))]/\Told s off M pl ps/\PlT off cl/\(ps=[]->cl=pl)/\(∀p,ps.getLast?=some p->Mnd s off p.2 p.1 cl)/\m+ps.length=(rO off).length,⟨(rO off).length,[],pl,rfl,⟨λ_ z=>(nomatch z),λ_ z=>(nomatch z),λ_ _ _ z=>(nomatch z)⟩,hp,λ_=>rfl,λ_ z=>(nomatch z),rfl⟩,?_⟩;rintro m _ ⟨ps,cl,rfl,t,hc,c0,cu,em⟩;refine aeX (decide (ps.getLast?.map (·.1)≠some cl)) (λq hq=>?_) (swD (λhn=>?_) λhn=>?_)
 .cases e:ps.getLast? with
  |none =>
   have e0:=List.getLast?_eq_none_iff.mp e;subst e0;exact⟨trivial,hq⟩
  |some p =>
   have n0:ps.length≠0:=λz=>by rw[List.length_eq_zero_iff.mp z]at e;cases e
   rw[e]at hq;refine⟨trivial,swF (Zp (by rw[ak];lia)) ⟨_,Um e,?_⟩⟩;dsimp only[rC,frz];refine adQ (t:=.lst (p.1.map dT)) ?_;refine GP.gEq ?_;have e2:xr true (decide (cl=p.1))=decide ((some p).map (·.1)≠some cl):=by
    by_cases c:cl=p.1
    .rw[Zs c,c];simp
     rfl
    .rw[Zp c];have:¬(p.1=cl):=λz=>c z.symm;simp[this]
     rfl
   rw[e2];exact hq
 .refine⟨λo'=>∃(ys:List Rat)(cl':List (Option Nat)),o'=[.fz (hlT D s ns off),.fz (.lst (pl.map dT)),.l1 ((ps++[(cl,ys)]).map pwT),.fz (.lst (cl'.map dT))]/\CJ s off cl ys/\(∀r∈ys,FnB M r)/\Mnd s off ys cl cl',?_,?_⟩
  .rintro _ ⟨ys,cl',rfl,h1,h2,h3⟩;have t':Told s off M pl (ps++[(cl,ys)]):=t.snoc c0 ⟨hc,h1,h2⟩ λp e=>⟨cu p e,λz=>hn (by rw[e];exact ZH some z.symm)⟩;have l:=t'.len B;rw[aA,List.length_singleton]at l;refine⟨(rO off).length-(ps.length+1),by omega,ps++[(cl,ys)],cl',rfl,t',Jz hc h3,λz=>absurd z (by simp),λp e=>?_,by rw[aA,List.length_singleton];exact Nat.sub_add_cancel l⟩;rw[List.getLast?_concat]at e;cases e;exact h3
  .have sl:(ps.map pwT).length<sizeLine:=by
    rw[ak];have:=t.len B;have:=B.pls;lia
   refine⟨s,ns,off,cl,N,rfl,h,hc,B.few,B.wo cl hc,λy hw hb=>⟨sl,?_⟩⟩;have ym:((List.range off.length).map y).map frR=(List.range off.length).map λi=>frR (y i):=by rw[List.map_map];rfl
   have yl:((List.range off.length).map y).length=off.length:=by rw[ak,List.length_range]
   have yg:∀k,k<off.length->((List.range off.length).map y).getD k 0=y k:=λk hk=>by rw[au,aq,List.getElem?_range hk];rfl
   have fb:∀r∈(List.range off.length).map y,FnB ((2*off.length*N)^off.length) r:=λr hr=>by
    obtain⟨i,hi,rfl⟩:=YV.mp hr;exact hb i (List.mem_range.mp hi)
   have wy:CJ s off cl ((List.range off.length).map y):=⟨yl,λi hi=>by
    have sp:=J8 B.sh hc;have cl':=RK hc;rw[yg i hi,(Vj (by rw[cl'];exact sp)).mp hw i (by rw[cl'];exact hi)];unfold xO;rw[QX (x:=λk=>((List.range off.length).map y).getD k 0) (z:=y) λw hm=>yg w.1 ((sp i hi).lt w hm)]⟩
   rw[<- ym];have el:(ps++[(cl,(List.range off.length).map y)]).getLast?=some (cl,(List.range off.length).map y):=by simp
   have il:=Um (h:=pwT) el;rw[bf]at il;refine⟨_,il,s,ns,off,cl,(List.range off.length).map y,rfl,h,hc,B.me _ yl fb,λcl' hm=>⟨_,cl',?_,wy,eM ▸ fb,hm⟩⟩;rw[bf]
   rfl
 .have hn:ps.getLast?.map (·.1)=some cl:=Decidable.not_not.mp hn;refine ok ps ⟨t,(λz=>by rw[z]at hn;cases hn),λp e=>?_⟩;rw[e]at hn;cases hn;exact cu p e
theorem f9{i:Int}(h:i.natAbs<18446744073709551616):Bd i:=aR h (aL (by decide:18446744073709551616<=2^64) (XU (by decide) (by decide)))
noncomputable abbrev scT(ns:List Int):T:=.scr (ns.map T.int)
def Ay:ST:=λts q=>∃(ns:List Int)(k:Nat),ts=[scT ns,.int (k:Nat)]/\ns.length<=100/\q (.fz (.int (ns.getD k 0)))
theorem Aa{α β:Type}(h:α->β)(l:List α)(lo hi:Option Int):iz (l.map h) lo hi=(iz l lo hi).map h:=by unfold iz;rw[ak,List.map_take,List.map_drop]
theorem ab3{α:Type}(l:List α)(k:Nat):iz l (some (k:Int)) (some ((k:Int)+1))=(l.drop k).take 1:=by
 unfold iz HT.sIx;show List.take ((if(k:Int)+1<0 then _ else min ((k:Int)+1).toNat l.length)-(if(k:Int)<0 then _ else min (k:Int).toNat l.length)) (List.drop (if(k:Int)<0 then _ else min (k:Int).toNat l.length) l)=_;rw[ZZ (by lia),ZZ (Int.not_lt_of_ge (X9 _))];by_cases h:k<l.length
 .rw[show min ((k:Int)+1).toNat l.length=k+1 by lia,show min (k:Int).toNat l.length=k by lia,show k+1-k=1 by exact Nat.add_sub_cancel_left _ _]
 .rw[show min (k:Int).toNat l.length=l.length by lia,List.drop_length,List.drop_eq_nil_of_le (Nat.le_of_not_lt h),List.take_nil,List.take_nil]
theorem aav(F:Fun K tX tX R7 f fd):b_ P w K mg base CX0 1 f fd tU (spT K Ay):=by
 refine F.okT abB (λts R hP=>by obtain⟨_,_,e,_⟩:=hP;exact e ▸ rfl) λcdv A outer s H E hr=>?_;refine⟨_,(bG (bN (bJ (bL cN (mG (qv 0) (iy (qv 1)) (iy (bL cN (qv 1) bA))) (eU (bx bA bC))) bA))),?_⟩;rintro _ R ⟨ns,k,rfl,hl,q⟩;have e:iz (ns.map L2.T.int) (some (k:Int)) (some ((k:Int)+1))=((ns.drop k).take 1).map L2.T.int:=by rw[Aa,ab3]
 refine⟨?_,.int (ns.getD k 0),?_,q⟩
 .show(iz (ns.map L2.T.int) (some (k:Int)) (some ((k:Int)+1))).length+1<=sizeLine;rw[e,ak,aY];exact aL (show _<=2 by lia) (by decide)
 .show ixT (iz (ns.map L2.T.int) (some (k:Int)) (some ((k:Int)+1))++[L2.T.int 0]) 0=_;rw[e];by_cases h:k<ns.length
  .rw[List.drop_eq_getElem_cons h,List.take_succ_cons,au,aj h]
   rfl
  .rw[List.drop_eq_nil_of_le (Nat.le_of_not_lt h),au,aM (Nat.le_of_not_lt h)]
   rfl
noncomputable def strN(c:Int):Nat->Int×Int
 |0=>((c%1999999973+31)*765432101%1999999973,if c<0\/10^18<=c then(c.natAbs:Int)else 0)
 |k+1=>(((strN c k).1*((strN c k).1%65521+40487)+7*(k:Int)+5)%1999999973,(strN c k).2.fdiv 1000000)
def strm(c:Int)(k:Nat):Int:=if 0<(strN c k).2 then(strN c k).2%1000000 else(strN c (k+1)).1
theorem TJ(c:Int):∀k,0<=(strN c k).1/\(strN c k).1<1999999973
 |0=>⟨Z3 _ (by decide),YY _ (by decide)⟩
 |_+1=>⟨Z3 _ (by decide),YY _ (by decide)⟩
theorem iC(c:Int)(k:Nat):0<=strm c k/\strm c k<2000000000:=by
 unfold strm;have:=TJ c (k+1);split<;>lia
abbrev jB(c:Int)(n:Nat):List Int:=(List.range n).map (strm c)
def gB:ST:=λts q=>∃(c:Int)(n:Nat),ts=[.int c,.int (n:Nat)]/\n<=1000/\q (.l1 ((jB c n).map T.int))
theorem VJ(F:Fun K fj fj GJ f fd)(T:Txt K mg D):b_ P w K mg base CX0 1 f fd eZ (spT K gB):=by
 refine F.okT jJ (λts R hP=>by obtain⟨_,_,e,_⟩:=hP;exact e ▸ rfl) λcdv A outer s H E hr=>?_;refine⟨_,(bF (iQ 2 jJ.nd (Or.inl rfl) (eU bC))
  (bF (bO 3 jJ.nd (Or.inl rfl) (bL cA (bL cV (bL cN (bL cA (qv 0) bA) bA) bA) bA))
  (bF (bO 4 jJ.nd (Or.inl rfl) bA)
  (bF (cB (QW.qt (iM (bZ vQ (qv 0) bA) (fW (bZ ace (qv 0) (bL R4 bA bA)))))
  (bG (bO 4 jJ.nd (Or.inl rfl) (bT GX (by rfl) T.P_ boot_abs (bx (qv 0) bC))))
  bR)
  (bF (dM PassesOwn.never rfl (dB (by rfl) T.d9 (bx (qv 1) bC)) (bY (n:=99) 5 jJ.nd (Or.inl rfl))
  (bF (bO 3 jJ.nd (Or.inl rfl) (bL cA (bL cN (bL cN (bL cV (qv 3) (bL cN (bL cA (qv 3) bA) bA)) (bL cV bA (qv 5))) bA) bA))
  (bF (o9 2 (bJ (eU (bx (qv 3) (bx (bL cA (qv 4) bA) bC))) (rW aeU (by rfl) T.W4 boot_int (bx (oV Jy (qv 4) bA) bC))))
  (bG (bO 4 jJ.nd (Or.inl rfl) (bL lD (qv 4) bA))))))
  (bG (jM 2))))))),?_⟩
 rintro _ R ⟨c,n,rfl,hn,q⟩;refine sq4 (λo=>o=[.fz (.int c),.fz (.int (n:Nat)),.l1 [],.fz (.int (strN c 0).1),.fz (.int (strN c 0).2),.und]) ?_ λY go=>?_
 .rintro _ rfl;refine⟨⟨by lia,by lia⟩,?_⟩;refine mO (λk o=>∃x,o=[.fz (.int c),.fz (.int (n:Nat)),.l1 ((jB c k).map L2.T.int),.fz (.int (strN c k).1),.fz (.int (strN c k).2),x]) ⟨_,rfl⟩ ?_ ?_
  .rintro k _ hk ⟨x,rfl⟩;have b:=TJ c k;refine⟨by decide,⟨f9 (by lia),f9 (by lia)⟩,⟨f9 (by decide),f9 (by lia)⟩,by decide,by decide,.int (strm c k),?_,?_,⟨by decide,f9 (by decide)⟩,.fz (.int k),?_⟩
   .by_cases h:0<(strN c k).2
    .rw[Zs h];unfold strm;rw[ZY h]
     rfl
    .rw[Zp h];unfold strm;rw[ZZ h]
     rfl
   .rw[ak,ak,List.length_range];exact aR (show k<1001 by lia) (by decide)
   .rw[show jB c (k+1)=jB c k++[strm c k]by simp[jB,List.range_succ],bf]
    rfl
  .rintro _ ⟨x,rfl⟩;exact q
 .refine⟨by decide,⟨f9 (by lia),f9 (by decide)⟩,by decide,?_⟩;refine swD (λh=>go _ ?_) λh=>⟨⟨by decide,by decide,by decide⟩,swD (λh'=>go _ ?_) λh'=>go _ ?_⟩
  .show _=[_,_,_,_,OT.fz (L2.T.int (if c<0\/10^18<=c then(c.natAbs:Int)else 0)),_];rw[ZY (.inl h)]
   rfl
  .show _=[_,_,_,_,OT.fz (L2.T.int (if c<0\/10^18<=c then(c.natAbs:Int)else 0)),_];rw[ZY (.inr h')]
   rfl
  .show _=[_,_,_,_,OT.fz (L2.T.int (if c<0\/10^18<=c then(c.natAbs:Int)else 0)),_];rw[ZZ (λz=>z.elim h h')]
   rfl
def R6:ST:=λts q=>∃a b:Int,ts=[.int a,.int b]/\q (.fz (.int (Int.gcd a b)))
theorem aeI(F:Fun K Hr Hr Zy f fd)(T:Txt K mg D):b_ P w K mg base CX0 1 f fd Hv (spT K R6):=by
 refine F.okT Nm (λts R hP=>by obtain⟨_,_,e,_⟩:=hP;exact e ▸ rfl) λcdv A outer s H E hr=>?_;refine⟨_,(bF (G7 (bT Wt (by rfl) T.YS boot_sorted (bx (eU (bx (bT GX (by rfl) T.P_ boot_abs (bx (qv 0) bC)) (bx (bT GX (by rfl) T.P_ boot_abs (bx (qv 1) bC)) bC))) bC)) (adS (n:=2) rfl (bU (bY (n:=99) 2 Nm.nd (Or.inl rfl)) (bU (bY (n:=99) 3 Nm.nd (Or.inl rfl)) dI))))
  (bF (FZ PassesOwn.never (bZ Jy (qv 2) bA)
  (bG (adf 2 3 rfl Nm.nd (by decide) (bx (bL cA (qv 3) (qv 2)) (bx (qv 2) bC)))))
  (bG (bN (qv 3))))),?_⟩
 rintro _ R ⟨a,b,rfl,q⟩;refine⟨[(a.natAbs:Int),(b.natAbs:Int)],rfl,by simp,λms pm so=>?_⟩;obtain⟨l,h,rfl,hg⟩ : ∃l h:Nat,ms=[(l:Int),(h:Int)]/\Nat.gcd l h=Int.gcd a b:=by
  have ln:=pm.length_eq
  match ms,ln with
  |[x,y],_ =>
   have hx:x=(a.natAbs:Int)\/x=(b.natAbs:Int):=by simpa using pm.subset (aO ..)
   rcases hx with rfl|rfl
   .have:=(List.perm_cons _).mp pm;have:=List.perm_singleton.mp this;cases this;exact⟨_,_,rfl,rfl⟩
   .have:=(List.perm_cons _).mp (pm.trans (List.Perm.swap _ _ _));have:=List.perm_singleton.mp this;cases this;exact⟨_,_,rfl,Nat.gcd_comm _ _⟩
 refine⟨rfl,λm o=>∃(l h:Nat),o=[.fz (.int a),.fz (.int b),.fz (.int l),.fz (.int h)]/\Nat.gcd l h=Int.gcd a b/\m=l,⟨_,_,_,rfl,hg,rfl⟩,?_⟩;rintro m _ ⟨l,h,rfl,hg,rfl⟩;refine swD (λhl=>?_) λhl=>?_
 .refine⟨λo=>o=[.fz (.int a),.fz (.int b),.fz (.int ((h%m:Nat):Int)),.fz (.int m)],?_,?_⟩
  .rintro _ rfl;exact⟨h%m,Nat.mod_lt _ (by lia),h%m,m,rfl,(Nat.gcd_rec m h).symm.trans hg,rfl⟩
  .exact⟨hl,by rw[Int.natCast_emod];rfl⟩
 .have:m=0:=by lia
  subst this;rw[Nat.gcd_zero_left]at hg;rw[<- hg]at q;exact q
def w6:ST:=λts q=>∃a b:Int,ts=[.int a,.int b]/\0<b/\Bd b/\q (.fz (frR (Rat.divInt a b)))
theorem VF(F:Fun K oK oK Hq f fd)(Jv:OkT P w K mg base 1 Hr Hv R6):b_ P w K mg base CX0 2 f fd oN (spT K w6):=by
 refine F.okT Jw (λts R hP=>by obtain⟨_,_,e,_⟩:=hP;exact e ▸ rfl) λcdv A outer s H E hr=>?_;refine⟨_,(bF (bO 2 Jw.nd (Or.inl rfl) (bI Jv hr.md (by rfl) (bx (qv 0) (bx (qv 1) bC))))
  (bG (bN (dh (bx (bL lD (qv 0) (qv 2)) (bx (bL lD (qv 1) (qv 2)) bC)))))),?_⟩
 rintro _ R ⟨a,b,rfl,hb,hd,q⟩;have nb:b≠0:=by exact Int.ne_of_gt hb
 have g0:=mj (a:=a) nb;have g1:=Rn (a:=a) nb hd;refine⟨_,_,rfl,⟨by exact Int.ne_of_gt g0,g1⟩,⟨by exact Int.ne_of_gt g0,g1⟩,?_⟩;have l:=v7 (t:=a) nb (c:=(Int.gcd a b:Nat)) (Int.ne_of_gt g0) (by lia) (XZ g0 hb);rw[<- iG l nb]at q;exact q
def Ai:ST:=λts q=>∃r:Rat,ts=[frR r]/\q (.fz (.bl true))
theorem Nv(F:Fun K nJ nJ vZ f fd)(T:Txt K mg D)(Jv:OkT P w K mg base 1 Hr Hv R6):b_ P w K mg base CX0 2 f fd nu (spT K Ai):=by
 refine F.okT Bc (λts R hP=>by obtain⟨_,e,_⟩:=hP;exact e ▸ rfl) λcdv A outer s H E hr=>?_;refine⟨_,(bF (cB (QW.qt (iM (dO (cT (mX .tuple (qv 0) (by rfl) T.cX (by rfl) T.J9 boot_tuple))) (fW (bZ (lA hr.units) (bT cU (by rfl) T.dU PySem.boot_len (bx (qv 0) bC)) bA))))
  (bG (bN pI))
  bR)
  (bF (dM PassesOwn.never rfl (adE (qv 0)) (bY (n:=99) 1 Bc.nd (Or.inl rfl))
  (bG (cB (QW.qt (iM (dO (cT (mX .int (qv 1) (by rfl) T.cX (by rfl) T.W4 boot_int))) (fW (cT (mX .bool (qv 1) (by rfl) T.cX (by rfl) T.Xg boot_bool)))))
  (bG (bN pI))
  bR)))
  (bG (bN (Ni (oV Jy (bJ (qv 0) bA) bA) (KQ (oV (go_eq hr.units) (bI Jv hr.md (by rfl) (bx (bJ (qv 0) bA) (bx (bJ (qv 0) bA) bC))) bA))))))),?_⟩
 rintro _ R ⟨r,rfl,q⟩;have:=r.den_pos;refine⟨λo=>∃x,o=[.fz (frR r),x],?_,⟨_,rfl⟩⟩;rintro _ ⟨x,rfl⟩;refine⟨λo=>∃x,o=[.fz (frR r),x],?_,⟨_,rfl⟩⟩;rintro _ ⟨x,rfl⟩;refine swT (Zs (by lia)) ⟨_,_,rfl,?_⟩;rw[show Int.gcd r.num r.den=1 from r.reduced];exact q
def xV:ST:=λts q=>∃(rs:List Rat)(m:Nat),ts=[.lst (rs.map frR),.int (m:Nat)]/\rs.length=m/\m<=1000/\q (.fz (.bl true))
theorem I9(F:Fun K lN lN m6 f fd)(T:Txt K mg D)(vA:OkT P w K mg base 2 nJ nu Ai):b_ P w K mg base CX0 3 f fd lR (spT K xV):=by
 refine F.okT Ip (λts R hP=>by obtain⟨_,_,e,_⟩:=hP;exact e ▸ rfl) λcdv A outer s H E hr=>?_;refine⟨_,(bF (cB (QW.qt (iM (dO (cT (mX .list (qv 0) (by rfl) T.cX (by rfl) T.v8 boot_list))) (fW (bZ (lA hr.units) (bT cU (by rfl) T.dU PySem.boot_len (bx (qv 0) bC)) (qv 1)))))
  (bG (bN pI))
  bR)
  (bG (bN (bT (Yr rfl) (by rfl) T.acL boot_all (bx (dG (bH m6) sH sH ["_law_one"] (cH (qv 0)) (fu (i:=0)) cD (bI vA hr.md (by rfl) (bx (qv 0) bC))) bC))))),?_⟩
 rintro _ R ⟨rs,m,rfl,hl,hm,q⟩;refine swF (by rw[ak,hl,Zs rfl];rfl) ⟨by rw[ak,hl];exact aL hm (by decide),comp_map frR (λ_=>.bl true) rs (λr _ N M hN=>⟨r,rfl,hN⟩) ⟨rs.map λ_=>true,by rw[List.map_map];rfl,?_⟩⟩;have e:((rs.map λ_=>true).all λb=>b)=true:=by simp
 rw[<- e]at q;exact q
def Pq:ST:=λts q=>∃a b:Rat,ts=[frR a,frR b]/\Bq a/\Bq b/\q (.fz (.bl (decide (a<b))))
theorem Xy(F:Fun K zG zG Ly f fd):b_ P w K mg base CX0 1 f fd Bm (spT K Pq):=by
 refine F.okT YF (λts R hP=>by obtain⟨t,b,e,_⟩:=hP;exact e ▸ rfl) λcdv A outer s H E hr=>?_;refine⟨_,(bG (bN (oV vQ (bL cV (bJ (qv 0) bA) (bJ (qv 1) bA)) (bL cV (bJ (qv 1) bA) (bJ (qv 0) bA))))),?_⟩;rintro _ R ⟨a,b,rfl,ha,hb,q⟩;refine⟨⟨ha.1,hb.2⟩,⟨hb.1,ha.2⟩,?_⟩;rw[show decide (a<b)=decide (a.num*(b.den:Int)<b.num*(a.den:Int))from decide_eq_decide.mpr (Rat.lt_iff a b)]at q;exact q
noncomputable def Vs(c:Nat):Bool:=decide (97<=c)&&decide (c<=122)
noncomputable def ltL:List Nat:=(Str.ofString "abcdefghijklmnopqrstuvwxyz").cps.toList
theorem ael:∀i:Fin 26,nth ltL i.val=some (97+i.val):=by decide +kernel
theorem Zg{i:Int}(h0:0<=i)(h1:i<26):ixT ltL i=some (97+i.toNat):=by
 obtain⟨k,rfl⟩:=Int.eq_ofNat_of_zero_le h0;exact ael ⟨k,by lia⟩
theorem Tj{n:Nat}(h:n<26):Vs (97+n)=true:=by
 unfold Vs;rw[Zs (show 97<=97+n by exact X1 _ _),Zs (show 97+n<=122 by lia)];rfl
theorem oE(x:Str):x.cps.toList.length=x.length:=Array.length_toList
theorem Ub(x y:Str):(x++y).cps.toList=x.cps.toList++y.cps.toList:=by
 show(x.cps++y.cps).toList=_;rw[Array.toList_append]
theorem ab1(x y:Str):(x++y).length=x.length+y.length:=by
 show(x.cps++y.cps).size=_;rw[Array.size_append];rfl
theorem Y9{x:Str}{n:Nat} : (DY x none (some (n:Int))).cps.toList=x.cps.toList.take n:=by
 unfold DY;have hl:x.cps.toList.length=x.length:=Array.length_toList;show((x.cps.toList.drop 0).take (HT.sIx x.length x.length (some (n:Int))-0))=_;rw[HT.Af,List.drop_zero,Nat.sub_zero,<- hl];rw[List.take_eq_take_iff];lia
theorem Qx{x:Str}{n:Nat} : (DY x (some (n:Int)) none).cps.toList=x.cps.toList.drop n:=by
 unfold DY;have hl:x.cps.toList.length=x.length:=Array.length_toList;show((x.cps.toList.drop (HT.sIx x.length 0 (some (n:Int)))).take (x.length-HT.sIx x.length 0 (some (n:Int))))=_;rw[HT.Af,<- hl];by_cases h:n<=x.cps.toList.length
 .rw[Nat.min_eq_left h];exact List.take_of_length_le (by rw[List.length_drop];exact aG _)
 .rw[List.drop_eq_nil_of_le (by lia:x.cps.toList.length<=n),List.drop_eq_nil_of_le (by lia),List.take_nil]
theorem TX{α:Type}{ys:List α}{a b:Nat}(ab:a<=b)(h:b<=ys.length):iz ys (some (a:Int)) (some (b:Int))=(ys.drop a).take (b-a):=by
 unfold iz;rw[HT.Af,HT.Af,Nat.min_eq_left h,Nat.min_eq_left (aL ab h)]
theorem aci{x:Str}(h:x.cps.toList.all Vs=true)(lo:1<=x.length)(hi:x.length<=8):Wd x:=by
 unfold Wd T9;rw[oE,Zs lo,Zs hi];exact h
structure Nms(ns:Φ)(n:Nat):Prop where
 len:ns.length=n
 nd:ns.Nodup
 wd:∀x∈ns,Wd x
theorem U3{R:Nat->Str->Prop}{n:Nat}{ns:Φ}(h:∀(i:Nat)x,ns[i]?=some x->R i x)(l:ns.length=n)(u:∀i j x,i<j->j<n->R i x->R j x->False):ns.Nodup:=by
 unfold List.Nodup;rw[List.pairwise_iff_getElem];intro i j hi hj ij e;exact u i j ns[i] ij (l ▸ hj) (h i _ (aj hi)) (by rw[e];exact h j _ (aj hj))
theorem Jj{g:HG}{c:RT}{e:RE}{o:List OT}{q:List T->Prop}(R:Nat->Str->Prop)(n:Nat)(st:∀k,k<n->∀(N:T->Prop)(M:Prop),(∀x,R k x->N (.str x))->g (.int (k:Nat)) o λo'=>c o' λb=>sw b (e o' λy=>N (frz y)) M)(k:∀ns:Φ,ns.length=n->(∀(i:Nat)x,ns[i]?=some x->R i x)->q (ns.map T.str)):iK g c e o (rng 0 n) q:=by
 have go:∀(m j:Nat),j+m=n->∀(us:Φ),us.length=j->(∀(i:Nat)x,us[i]?=some x->R i x)->∀{q:List T->Prop},(∀ns:Φ,ns.length=n->(∀(i:Nat)x,ns[i]?=some x->R i x)->(∃vs,ns=us++vs/\q (vs.map T.str))\/¬∃vs,ns=us++vs)->iK g c e o ((List.range' j m).map λk:Nat=>.int ((0:Int)+k)) q:=by
  intro m
  induction m with
  |zero =>
   intro j ej us lu hu q hq;rcases hq us (by lia) hu with⟨vs,e,z⟩|z
   .have:vs=[]:=by simpa using e
    rw[this]at z;exact z
   .exact absurd ⟨[],(List.append_nil us).symm⟩ z
  |succ m ih =>
   intro j ej us lu hu q hq;rw[List.range'_succ,List.map_cons];refine Wn ?_;rw[Int.zero_add];refine st j (by lia) (λt=>iK g c e o ((List.range' (j+1) m).map λk:Nat=>.int ((0:Int)+k)) λus=>q (t::us)) (iK g c e o ((List.range' (j+1) m).map λk:Nat=>.int ((0:Int)+k)) q) λx hx=>?_;refine ih (j+1) (by lia) (us++[x]) (by simp[lu]) (λi y ey=>?_) λns ln hn=>?_
   .by_cases hi:i<us.length
    .rw[aF hi]at ey;exact hu i y ey
    .have hl:=(ao.mp ey).1;rw[aA,List.length_singleton]at hl;have:i=us.length:=by lia
     subst this;rw[aD (aG _),Nat.sub_self]at ey;cases ey;exact lu ▸ hx
   .by_cases z:∃vs,ns=us++[x]++vs
    .obtain⟨vs,e⟩:=z;refine .inl ⟨vs,e,?_⟩;rcases hq ns ln hn with⟨ws,e',q'⟩|z
     .rw[e,Wp]at e';have:=List.append_cancel_left e';rw[<- this]at q';exact q'
     .exact absurd ⟨x::vs,by rw[e,Wp];rfl⟩ z
    .exact .inr z
 have:=go n 0 (Nat.zero_add _) [] rfl (λi x z=>by cases z) (q:=q) λns ln hn=>.inl ⟨ns,rfl,k ns ln hn⟩;rw[<- List.range_eq_range']at this;exact this
def nm1(c:Nat)(i:Nat)(x:Str):Prop:=x.cps.toList=List.replicate (i+1) c
def nm2(b:List Nat)(at_:Nat)(x0 st:Int)(i:Nat)(x:Str):Prop:=x.cps.toList=b.take at_++(97+((x0+st*i)%26).toNat)::b.drop at_
theorem aaR{b:List Nat}{at_:Nat}{x0 st:Int}{i j:Nat}{x:Str}(hs:st=1\/st=3\/st=5\/st=7\/st=9\/st=11)(ij:i<j)(hj:j<26)(h1:nm2 b at_ x0 st i x)(h2:nm2 b at_ x0 st j x):False:=by
 have e:=h1.symm.trans h2;have e:=List.append_cancel_left e;injection e with e _;rcases hs with rfl|rfl|rfl|rfl|rfl|rfl<;>omega
theorem adJ{c i:Nat}{x:Str}(hc:Vs c=true)(hi:i<8)(h:nm1 c i x):Wd x:=by
 have l:=oE x;rw[h,aN]at l;refine aci ?_ (by lia) (by lia);rw[h,List.all_eq_true];intro d hd;rw[(List.mem_replicate.mp hd).2];exact hc
theorem afd{b:List Nat}{at_:Nat}{x0 st:Int}{i:Nat}{x:Str}(hb:b.all Vs=true)(hl:b.length<=7)(h:nm2 b at_ x0 st i x):Wd x:=by
 have l:=oE x;rw[h,aA,List.length_cons,aY,List.length_drop]at l;refine aci ?_ (by lia) (by omega);rw[h,List.all_eq_true];rw[List.all_eq_true]at hb;intro d hd;rcases Y1.mp hd with hd|hd
 .exact hb d (List.mem_of_mem_take hd)
 .rcases YU.mp hd with rfl|hd
  .exact Tj (by lia)
  .exact hb d (List.mem_of_mem_drop hd)
theorem JN:∀(ys:Φ)(acc:Array Nat),(ys.foldl (λacc p=>acc++(Str.ofString "").cps++p.cps) acc).toList=acc.toList++(ys.map λy=>y.cps.toList).flatten
 |[],acc=>by simp
 |y::ys,acc=>by
  have e0:(Str.ofString "").cps = #[]:=by decide +kernel
  rw[List.foldl_cons,JN ys,e0,Array.append_empty,Array.toList_append,List.map_cons,List.flatten_cons,Wp]
theorem glue(ys:Φ):(Txt.join (Str.ofString "") ys).cps.toList=(ys.map λy=>y.cps.toList).flatten:=by
 show((ys.drop 1).foldl (λacc p=>acc++(Str.ofString "").cps++p.cps) (ys.headD Str.empty).cps).toList=_;rw[JN];cases ys with
 |nil=>rfl
 |cons y ys=>rfl
theorem aeV{c d:RT}{x y z:RS}{E:DT}{o:List OT}(b:Bool)(h:∀q:Bool->Prop,q b->ac0 c d o q)(hq:sw b (x { E with nx:=z E } o) (y { E with nx:=z E } o)):iR (aiE (ac0 c d) x y) z E o:=h (λk=>sw k (x { E with nx:=z E } o) (y { E with nx:=z E } o)) hq
def Pa:ST:=λts q=>∃(c:Int)(n:Nat),ts=[.int c,.int (n:Nat)]/\n<=26/\∀ns:Φ,Nms ns n->q (.l1 (ns.map T.str))
theorem dJ{c:Int}{n k:Nat}(h:k<n):ixT ((jB c n).map T.int) (k:Nat)=some (.int (strm c k)):=by
 show nth ((jB c n).map T.int) k=_;rw[rD,aq,aq,List.getElem?_range h];rfl
theorem X_(F:Fun K zM zM wY f fd)(T:Txt K mg D)(cG:OkT P w K mg base 1 fj eZ gB):b_ P w K mg base CX0 2 f fd Az (spT K Pa):=by
 refine F.okT rZ (λts R hP=>by obtain⟨_,_,e,_⟩:=hP;exact e ▸ rfl) λcdv A outer s H E hr=>?_;refine⟨_,(bF (bO 2 rZ.nd (Or.inr rfl) tD)
  (bF (bO 3 rZ.nd (Or.inr rfl) (bI cG hr.md (by rfl) (bx (qv 0) (bx bA bC))))
  (bF (cB (QW.qt (NT (bZ (go_eq hr.units) (bL cA (bJ (qv 3) bA) bA) bA) (Fd (bZ N7 (qv 1) bA))))
  (bG (bN (dG (bH wY) tO tO ["_law_k"] (dB (by rfl) T.d9 (bx (qv 1) bC)) (fu (i:=0)) cD (bL cV (bJ (qv 3) (bL cA (bJ (qv 4) bA) bA)) (bL cN (qv 0) bA)))))
  bR)
  (bF (bO 4 rZ.nd (Or.inr rfl) (aaq tD (bx (dG (bH wY) tO tO ["_law_x"] (cH (mG (qv 3) (iy bA) (iy (bL cN bA (bL cA (bJ (qv 3) bA) bA))))) (fu (i:=0)) cD (bJ (qv 3) (bL cA (qv 0) bA))) bC)))
  (bF (bO 5 rZ.nd (Or.inr rfl) (bL cA (bJ (qv 3) bA) bA))
  (bF (bO 6 rZ.nd (Or.inr rfl) (bJ (eU (bx bA (bx bA (bx bA (bx bA (bx bA (bx bA bC))))))) (bL cA (bJ (qv 3) bA) bA)))
  (bG (bN (dG (bH wY) tO tO ["_law_k"] (dB (by rfl) T.d9 (bx (qv 1) bC)) (fu (i:=0)) cD (bL cN (bL cN (mG (qv 5) MN (iy (qv 6))) (bJ (qv 3) (bL cA (bL cN (bJ (qv 4) bA) (bL cV (qv 7) (qv 0))) bA))) (mG (qv 5) (iy (qv 6)) MN))))))))))),?_⟩
 rintro _ R ⟨c,n,rfl,hn,q⟩;refine⟨c,11,rfl,by decide,?_⟩;have s0:=iC c 0;have s1:=iC c 1;have lL:(Str.ofString "abcdefghijklmnopqrstuvwxyz").length<=sizeLine:=aL (show _<=1000 by decide +kernel) (by decide);have rl:(rng 0 n).length<=sizeLine:=by rw[rng,ak,List.length_range];exact aL hn (by decide)
 dsimp only;refine aeV (decide (strm c 0%3=1)&&decide ((n:Int)<=8)) (λq hq=>?_) ?_
 .refine⟨_,dJ (k:=0) (by decide),by decide,?_⟩;refine swD (λh=>?_) λh=>?_
  .rw[Zs h,Bool.true_and]at hq;exact hq
  .rw[Zp h,Bool.false_and]at hq;exact hq
 .refine sw2 (λhb=>?_) λhb=>?_
  .simp only[Bool.and_eq_true,decide_eq_true_eq]at hb;refine⟨⟨by lia,by lia⟩,rl,Jj (nm1 (97+(strm c 1%26).toNat)) n (λk hk N M hN=>?_) λns ln hns=>q ns ⟨ln,U3 hns ln λi j x ij hj h1 h2=>?_,λx hx=>?_⟩⟩
   .refine⟨_,dJ (k:=1) (by decide),by decide,lL,_,Zg (Z3 _ (by decide)) (YY _ (by decide)),_,rfl,by lia,by lia,λz hz=>hN z ?_⟩;rw[show((k:Int)+1).toNat=k+1 by lia]at hz;exact hz
   .have:=ZH List.length (h1.symm.trans h2);rw[aN,aN]at this;lia
   .obtain⟨i,hi⟩:=aV hx;have li:=(ao.mp hi).1;exact adJ (Tj (by lia)) (by lia) (hns i x hi)
  .obtain⟨m,em,hm⟩ : ∃m:Nat,strm c 1%8=m/\m<=7:=⟨(strm c 1%8).toNat,by lia,by lia⟩;have ec:iz ((jB c 11).map L2.T.int) (some 2) (some (2+strm c 1%8))=(((jB c 11).drop 2).take m).map L2.T.int:=by
    rw[em,Aa];have:=TX (ys:=jB c 11) (a:=2) (b:=2+m) (X1 _ _) (by rw[ak,List.length_range];lia);rw[show 2+m-2=m by exact Nat.add_sub_cancel_left _ _]at this;exact ZH (List.map L2.T.int) this
   have ml:(((jB c 11).drop 2).take m).length=m:=by rw[aY,List.length_drop,ak,List.length_range];lia
   refine⟨_,dJ (k:=1) (by decide),by decide,?_⟩;dsimp only[frz];show(iz ((jB c 11).map L2.T.int) (some 2) (some (2+strm c 1%8))).length<=sizeLine/\_;rw[ec];have c26:∀x∈((jB c 11).drop 2).take m,0<=x:=λx hx=>by
    obtain⟨k,_,rfl⟩:=YV.mp (List.mem_of_mem_drop (List.mem_of_mem_take hx));exact(iC c k).1
   generalize((jB c 11).drop 2).take m=us at ml c26 ⊢;have e0:(Str.ofString "").length=0:=by decide +kernel
   refine⟨by rw[ak,ml];exact aL hm (by decide),comp_map L2.T.int (λx=>.str ⟨#[97+(x%26).toNat]⟩) us (λx hx N M hN=>⟨by decide,lL,_,Zg (Z3 _ (by decide)) (YY _ (by decide)),hN⟩) ⟨us.map λx=>⟨#[97+(x%26).toNat]⟩,by rw[List.map_map];rfl,?_,?_⟩⟩
   .rw[e0,Nat.mul_zero,Nat.add_zero,List.map_map,show((λx:Str=>x.length) ∘ λx:Int=>(⟨#[97+(x%26).toNat]⟩ : Str))=λ_=>1 from rfl,List.map_const',List.sum_replicate_nat];lia
   have bc:(Txt.join (Str.ofString "") (us.map λx=>(⟨#[97+(x%26).toNat]⟩ : Str))).cps.toList=us.map λx=>97+(x%26).toNat:=by
    rw[glue,List.map_map]
    clear ml c26 ec
    induction us with
    |nil=>rfl
    |cons x us ih=>rw[List.map_cons,List.flatten_cons,ih];rfl
   have bl:(Txt.join (Str.ofString "") (us.map λx=>(⟨#[97+(x%26).toNat]⟩ : Str))).length<=7:=by rw[<- oE,bc,ak];exact aL (Nat.le_of_eq ml) hm
   have ba:(us.map λx=>97+(x%26).toNat).all Vs=true:=by
    rw[List.all_eq_true];intro d hd;obtain⟨x,hx,rfl⟩:=YV.mp hd;exact Tj (by lia)
   rw[<- bc]at ba;generalize Txt.join (Str.ofString "") (us.map λx=>(⟨#[97+(x%26).toNat]⟩ : Str))=st at bl ba ⊢
   clear bc
   have s9:=iC c 9;have s10:=iC c 10;obtain⟨ap,eap,hap⟩ : ∃ap:Nat,strm c 9%8=ap/\ap<=7:=⟨(strm c 9%8).toNat,by lia,by lia⟩;obtain⟨sv,es,hs⟩ : ∃sv:Int,ixT [L2.T.int 1,L2.T.int 3,L2.T.int 5,L2.T.int 7,L2.T.int 9,L2.T.int 11] (strm c 10%6)=some (.int sv)/\(sv=1\/sv=3\/sv=5\/sv=7\/sv=9\/sv=11):=by
    obtain e|e|e|e|e|e:strm c 10%6=0\/strm c 10%6=1\/strm c 10%6=2\/strm c 10%6=3\/strm c 10%6=4\/strm c 10%6=5:=by lia
    .exact⟨1,by rw[e];rfl,by decide⟩
    .exact⟨3,by rw[e];rfl,by decide⟩
    .exact⟨5,by rw[e];rfl,by decide⟩
    .exact⟨7,by rw[e];rfl,by decide⟩
    .exact⟨9,by rw[e];rfl,by decide⟩
    .exact⟨11,by rw[e];rfl,by decide⟩
   have z7:(16:Nat)<=sizeLine:=by decide
   refine⟨_,dJ (k:=9) (by decide),by decide,?_⟩;dsimp only[frz];rw[eap];refine⟨_,dJ (k:=10) (by decide),by decide,_,es,⟨by lia,by lia⟩,rl,Jj (nm2 st.cps.toList ap (strm c 0) sv) n (λk hk N M hN=>?_) λns ln hns=>q ns ⟨ln,U3 hns ln λi j x ij hj h1 h2=>aaR hs ij (aR hj hn) h1 h2,λx hx=>?_⟩⟩
   .have t1:(DY st none (some (ap:Int))).length<=7:=by rw[<- oE,Y9,aY,oE];lia
    have t2:(DY st (some (ap:Int)) none).length<=7:=by rw[<- oE,Qx,List.length_drop,oE];exact aL (Nat.sub_le _ _) bl
    have t3:∀d:Nat,({ cps:=#[d] } : Str).length=1:=λ_=>rfl;refine⟨by exact aL bl (by decide),_,dJ (k:=0) (by decide),⟨f9 (by lia),f9 (by lia)⟩,by decide,lL,_,Zg (Z3 _ (by decide)) (YY _ (by decide)),by rw[t3];lia,by exact aL bl (by decide),by rw[ab1,t3];lia,hN _ ?_⟩;unfold nm2;rw[Ub,Ub,Y9,Qx,Wp];rfl
   .obtain⟨i,hi⟩:=aV hx;exact afd ba (by rw[oE];exact bl) (hns i x hi)
theorem Ym{α:Type}(l:List α)(h:α->T){i:Int}(h0:0<=i)(h1:i<l.length):∃a∈l,ixT (l.map h) i=some (h a):=by
 obtain⟨k,rfl⟩:=Int.eq_ofNat_of_zero_le h0;have hk:k<l.length:=by lia
 refine⟨l[k],aU hk,?_⟩;show nth (l.map h) k=_;rw[rD,aq,aj hk];rfl
theorem div_pos{a b:Int}(hb:0<b):(Rat.divInt a b).den<=b.toNat/\(Rat.divInt a b).num.natAbs<=a.natAbs:=by
 have l:=v7 (t:=a) (b:=b) (c:=(Int.gcd a b:Nat)) (Int.ne_of_gt hb) (by have:=mj (a:=a) (b:=b) (Int.ne_of_gt hb);exact Int.ne_of_gt this) (by lia) (XZ (mj (Int.ne_of_gt hb)) hb);have e:=iG l (Int.ne_of_gt hb);injection e with e;injection e with e1 e2;injection e2 with e2 _;injection e1 with e1;injection e2 with e2;have h1:=l.lx;have h2:=l.ly;have h3:=l.pos;have e1:a.fdiv ((Int.gcd a b:Nat):Int)=(Rat.divInt a b).num:=e1;have e2:b.fdiv ((Int.gcd a b:Nat):Int)=((Rat.divInt a b).den:Nat):=e2;rw[e1]at h1;rw[e2]at h2 h3;omega
theorem Sg{a b:Int}(ha:0<=a)(h:a<b):0<=Rat.divInt a b/\Rat.divInt a b<1:=by
 have hb:0<b:=by exact Int.lt_of_le_of_lt ha h
 refine⟨Rat.divInt_nonneg ha (XY hb),?_⟩;have e:Rat.divInt a b=(a:Rat)/(b:Rat):=Rat.divInt_eq_div a b;rw[e];have hb':(0:Rat)<(b:Rat):=by exact_mod_cast hb
 rw[Rat.div_lt_iff hb',Rat.one_mul]
 exact_mod_cast h
structure Shr(s:Rat):Prop where
 lo:0<=s
 hi:s<1
 den:s.den<=100
def Q_:ST:=λts q=>∃c:Int,ts=[.int c]/\∀s:Rat,Shr s->q (.fz (frR s))
theorem Yp(F:Fun K Ar Ar Ms f fd)(T:Txt K mg D)(cG:OkT P w K mg base 1 fj eZ gB)(gR:OkT P w K mg base 2 oK oN w6):b_ P w K mg base CX0 3 f fd z6 (spT K Q_):=by
 refine F.okT Hw (λts R hP=>by obtain⟨_,e,_⟩:=hP;exact e ▸ rfl) λcdv A outer s H E hr=>?_;refine⟨_,(bF (bO 1 Hw.nd (Or.inl rfl) (bI cG hr.md (by rfl) (bx (qv 0) (bx bA bC))))
  (bF (bO 2 Hw.nd (Or.inl rfl) (bL cN bA (bL cA (bJ (qv 1) bA) (bJ (eU (bx bA (bx bA (bx bA (bx bA bC))))) (bL cA (bJ (qv 1) bA) bA)))))
  (bG (bN (bI gR hr.md (by rfl) (bx (bL cA (bJ (qv 1) bA) (qv 2)) (bx (qv 2) bC))))))),?_⟩
 rintro _ R ⟨c,rfl,q⟩;have s0:=iC c 0;have s1:=iC c 1;have s2:=iC c 2;refine⟨c,3,rfl,by decide,_,dJ (k:=0) (by decide),_,dJ (k:=1) (by decide),by decide,?_⟩;obtain⟨d,hd,ed⟩:=Ym [4,6,10,100] L2.T.int (i:=strm c 1%4) (Z3 _ (by decide)) (by show strm c 1%4<4;exact YY _ (by decide));have d0:0<d/\d<=100:=by simp at hd;lia
 refine⟨_,ed,d0.1,?_⟩;have b0:0<1+strm c 0%d/\1+strm c 0%d<=100:=by
  have:=Z3 (strm c 0) (show d≠0 by lia);have:=YY (strm c 0) d0.1;lia
 refine⟨_,dJ (k:=2) (by decide),b0.1,_,_,rfl,b0.1,f9 (by omega),q _ ?_⟩;generalize 1+strm c 0%d=b at b0 ⊢;have a0:=Z3 (strm c 2) (show b≠0 by lia);have a1:=YY (strm c 2) b0.1;obtain⟨x,y⟩:=Sg a0 a1;exact⟨x,y,by have:=(div_pos (a:=strm c 2%b) b0.1).1;lia⟩
structure Pay(p:Rat):Prop where
 num:p.num.natAbs<=10^30
 den:p.den<=1000
def XS:ST:=λts q=>∃c x y:Int,ts=[.int c,.int x,.int y]/\(0<=x/\x<2000000000)/\(0<=y/\y<2000000000)/\∀p:Rat,Pay p->q (.fz (frR p))
theorem adF(F:Fun K JW JW WW f fd)(T:Txt K mg D)(gR:OkT P w K mg base 2 oK oN w6):b_ P w K mg base CX0 3 f fd K4 (spT K XS):=by
 refine F.okT ae4 (λts R hP=>by obtain⟨_,_,_,e,_⟩:=hP;exact e ▸ rfl) λcdv A outer s H E hr=>?_;refine⟨_,(bF (cB (bZ vQ (bL cA (qv 1) bA) bA)
  (bG (bN (dh (bx (bL qY (bL cA (qv 2) bA) bA) (bx bA bC)))))
  bR)
  (bF (cB (bZ vQ (bL cA (qv 1) bA) bA)
  (bG (bN (bI gR hr.md (by rfl) (bx (bL qY (bL cA (qv 2) bA) bA) (bx (bL cN bA (bL cA (bL lD (qv 1) bA) bA)) bC)))))
  bR)
  (bF (cB (bZ (go_eq hr.units) (bL cA (qv 1) bA) bA)
  (bG (bN (dh (bx (bL qY (bL cA (qv 0) bA) bA) (bx bA bC)))))
  bR)
  (bG (bN (bI gR hr.md (by rfl) (bx (bL qY (bL cA (bL cN (bL Uy (qv 0) bA) (qv 2)) (bL cN (bL cV bA (bL R4 bA bA)) bA)) (bL R4 bA bA)) (bx (bL cN bA (bL cA (bL lD (qv 1) bA) bA)) bC)))))))),?_⟩
 rintro _ R ⟨c,x,y,rfl,hx,hy,q⟩;have b30:Bd (10^30):=Y3 (aG _) (by decide +kernel);have lo:∀a b:Int,0<b->a.natAbs<=10^30->b<=1000->R (.fz (frR (Rat.divInt a b))):=λa b h0 h1 h2=>by
  obtain⟨x,y⟩:=div_pos (a:=a) h0;exact q _ ⟨aL y h1,by lia⟩
 have one:∀a:Int,a.natAbs<=10^30->R (.fz (.tup [.int a,.int 1])):=λa h=>q (a:Rat) ⟨h,show(1:Nat)<=1000 by decide⟩;have d8:x.fdiv 8=x/8:=Int.fdiv_eq_ediv_of_nonneg _ (by decide);refine⟨by decide,swD (λh=>⟨by decide,one _ (by lia)⟩) λh=>⟨by decide,swD (λh=>⟨by decide,⟨by decide,f9 (by decide)⟩,by decide,?_⟩) λh=>⟨by decide,swD (λh=>⟨by decide,one _ (by lia)⟩) λh=>?_⟩⟩⟩
 .exact⟨_,_,rfl,by lia,f9 (by lia),lo _ _ (by lia) (by lia) (by lia)⟩
 .refine⟨.inr (by constructor<;>decide),⟨by decide,by decide,by decide⟩,⟨f9 (by decide),b30⟩,by decide,⟨by decide,by decide,by decide⟩,⟨by decide,f9 (by decide)⟩,by decide,?_⟩;exact⟨_,_,rfl,by lia,f9 (by lia),lo _ _ (by lia) (by
   have e:(10:Int)^Int.toNat 30=10^30:=rfl;rw[e];lia) (by lia)⟩
def st_size:ST:=λts q=>∃c:Int,ts=[.int c]/\∀n:Nat,n<=6->q (.fz (.int (n:Nat)))
theorem aaz(F:Fun K Em Em S8 f fd)(T:Txt K mg D)(cG:OkT P w K mg base 1 fj eZ gB):b_ P w K mg base CX0 2 f fd Eo (spT K st_size):=by
 refine F.okT TQ (λts R hP=>by obtain⟨_,e,_⟩:=hP;exact e ▸ rfl) λcdv A outer s H E hr=>?_;refine⟨_,(bF (bO 1 TQ.nd (Or.inl rfl) (bI cG hr.md (by rfl) (bx (qv 0) (bx bA bC))))
  (bF (cB (bZ (go_eq hr.units) (bL cA (bJ (qv 1) bA) bA) bA)
  (bG (bN bA))
  bR)
  (bF (cB (bZ (go_eq hr.units) (bL cA (bJ (qv 1) bA) bA) bA)
  (bG (bN (bL cN bA (bL cA (bJ (qv 1) bA) bA))))
  bR)
  (bG (bN (bL cN bA (bL cA (bJ (qv 1) bA) bA))))))),?_⟩
 rintro _ R ⟨c,rfl,q⟩;have s1:=iC c 1;have s1':0<=strm c 1:=s1.1;refine⟨c,2,rfl,by decide,_,dJ (k:=0) (by decide),by decide,swD (λh=>q 0 (by decide)) λh=>⟨_,dJ (k:=0) (by decide),by decide,swD (λh=>⟨_,dJ (k:=1) (by decide),by decide,?_⟩) λh=>⟨_,dJ (k:=1) (by decide),by decide,?_⟩⟩⟩
 .have:=q (5+strm c 1%2).toNat (by lia);rw[show(((5+strm c 1%2).toNat:Nat):Int)=5+strm c 1%2 by lia]at this;exact this
 .have:=q (1+strm c 1%4).toNat (by lia);rw[show(((1+strm c 1%4).toNat:Nat):Int)=1+strm c 1%4 by lia]at this;exact this
structure LD where
 sort:Nat
 pay:Rat
 prs:List (Nat×Rat)
abbrev ldT(d:LD):T:=.tup [.int (d.sort:Nat),frR d.pay,.lst (d.prs.map nwT)]
structure LDk(m:Nat)(d:LD):Prop where
 sort:d.sort<4
 pay:Pay d.pay
 few:d.prs.length<=4
 lt:∀p∈d.prs,p.1<m
 nn:∀p∈d.prs,0<=p.2
 one:Ao (d.prs.map (·.2))=1
 dn:∃q:Nat,0<q/\q<=4000/\∀p∈d.prs,p.2.den ∣ q
 s0:d.sort=0->∃a,d.prs=[(a,1)]
 s1:d.sort=1->∃a b x,d.prs=[(a,x),(b,1-x)]
 s2:d.sort=2->∃rs:List Nat,d.prs=rs.map λr=>(r,mkRat 1 rs.length)
theorem abL{α:Type}(l:List α){n:Nat} : iz l none (some (n:Int))=l.take n:=by
 unfold iz;show(l.drop 0).take (HT.sIx l.length l.length (some (n:Int))-0)=_;rw[HT.Af,List.drop_zero,Nat.sub_zero];rw[List.take_eq_take_iff];lia
theorem Ks{a b:Int}(hb:0<b):(Rat.divInt a b).den ∣ b.toNat:=by
 have l:=v7 (t:=a) (b:=b) (c:=(Int.gcd a b:Nat)) (Int.ne_of_gt hb) (by have:=mj (a:=a) (b:=b) (Int.ne_of_gt hb);exact Int.ne_of_gt this) (by lia) (XZ (mj (Int.ne_of_gt hb)) hb);have e:=iG l (Int.ne_of_gt hb);injection e with e;injection e with _ e2;injection e2 with e2 _;injection e2 with e2;have e2:b.fdiv ((Int.gcd a b:Nat):Int)=((Rat.divInt a b).den:Nat):=e2;have d:((Int.gcd a b:Nat):Int) ∣ b:=Int.gcd_dvd_right a b;rw[Int.fdiv_eq_ediv_of_dvd d]at e2;obtain⟨x,hx⟩:=d;have g0:=mj (a:=a) (b:=b) (Int.ne_of_gt hb);rw[Int.ediv_eq_of_eq_mul_right (Int.ne_of_gt g0) hx]at e2;exact Int.natCast_dvd_natCast.mp ⟨(Int.gcd a b:Nat),by rw[<- e2,Int.toNat_of_nonneg (XY hb),Int.mul_comm];exact hx⟩
theorem Ui{S:Int}(hS:S≠0):∀ws:List Int,Ao (ws.map λw=>Rat.divInt w S)=Rat.divInt ws.sum S
 |[]=>by show(0:Rat)=Rat.divInt 0 S;rw[Rat.zero_divInt]
 |w::ws=>by
  show Rat.divInt w S+Ao (ws.map λw=>Rat.divInt w S)=Rat.divInt (w+ws.sum) S;rw[Ui hS ws,Rat.divInt_add_divInt _ _ hS hS];refine(Rat.divInt_eq_divInt_iff (mV hS hS) hS).mpr ?_
  grind
theorem Qs{n:Nat}(h:0<n):∀k:Nat,Ao (List.replicate k (mkRat 1 n))=mkRat k n
 |0=>by show(0:Rat)=mkRat 0 n;rw[Rat.zero_mkRat]
 |k+1=>by
  rw[List.replicate_succ];show mkRat 1 n+Ao (List.replicate k (mkRat 1 n))=_;rw[Qs h k,Rat.mkRat_add_mkRat _ _ (Nat.ne_of_gt h) (Nat.ne_of_gt h),Rat.mkRat_eq_iff (Nat.mul_ne_zero (Nat.ne_of_gt h) (Nat.ne_of_gt h)) (Nat.ne_of_gt h)]
  push_cast
  grind
theorem aa0{n:Nat}(h:0<n):mkRat n n=1:=by
 rw[show(1:Rat)=mkRat 1 1 from rfl,Rat.mkRat_eq_iff (Nat.ne_of_gt h) (Nat.succ_ne_zero _)];lia
theorem one_sub{a b:Int}(hb:b≠0):1-Rat.divInt a b=Rat.divInt (b-a) b:=by
 rw[show(1:Rat)=Rat.divInt 1 1 from rfl,Rat.divInt_sub_divInt _ _ (by decide) hb,Int.one_mul,Int.mul_one]
theorem P0(x:Rat):1-x=⟨(x.den:Int)-x.num,x.den,x.den_nz,by
  have:=x.reduced;show Nat.Coprime ((x.den:Int)-x.num).natAbs x.den;have h:Int.gcd ((x.den:Int)-x.num) (x.den:Int)=1:=by
   rw[Int.gcd_self_sub_left];exact this
  exact h⟩:=by
 rw[Rat.mk_eq_divInt,<- one_sub (lg x),rd]
theorem YL(x:Rat):frR (1-x)=.tup [.int ((x.den:Int)-x.num),.int x.den]:=by rw[P0]
theorem Vk(x:Rat):(1-x).den=x.den:=by rw[P0]
theorem LDk.sure{m a:Nat}{p:Rat}(ha:a<m)(hp:Pay p):LDk m ⟨0,p,[(a,1)]⟩ :=
 ⟨Nat.zero_lt_succ _,hp,Nat.le_of_ble_eq_true rfl,by simp[ha],by simp;decide,by simp[Ao];exact Rat.add_zero 1,⟨1,by decide,by decide,by simp⟩,λ_=>⟨_,rfl⟩,(λz=>by cases z),(λz=>by cases z)⟩
theorem LDk.toss{m a b q:Nat}{p x:Rat}(ha:a<m)(hb:b<m)(hp:Pay p)(x0:0<=x)(x1:0<=1-x)(q0:0<q)(q1:q<=4000)(hd:x.den ∣ q):LDk m ⟨1,p,[(a,x),(b,1-x)]⟩ :=
 ⟨Nat.le_of_ble_eq_true rfl,hp,Nat.le_of_ble_eq_true rfl,by simp[ha,hb],by simp[x0,x1],by simp[Ao];grind,⟨q,q0,q1,by simp[hd,Vk]⟩,(λz=>by cases z),λ_=>⟨_,_,_,rfl⟩,(λz=>by cases z)⟩
theorem adg{n:Nat}(h:0<n):(mkRat 1 n).den=n:=by
 have e:=RX h;injection e with e;injection e with _ e;injection e with e _;injection e with e;lia
theorem LDk.even{m:Nat}{p:Rat}{rs:List Nat}(h0:0<rs.length)(h4:rs.length<=4)(hr:∀r∈rs,r<m)(hp:Pay p):LDk m ⟨2,p,rs.map λr=>(r,mkRat 1 rs.length)⟩:=by
 have nn:(0:Rat)<=mkRat 1 rs.length:=by rw[<- Rat.divInt_ofNat];exact Rat.divInt_nonneg (by decide) (X9 _)
 refine⟨Nat.le_of_ble_eq_true rfl,hp,by rw[ak];exact h4,λx hx=>?_,λx hx=>?_,?_,⟨rs.length,h0,by exact aL h4 (by decide),λx hx=>?_⟩,(λz=>by cases z),(λz=>by cases z),λ_=>⟨rs,rfl⟩⟩
 .obtain⟨r,h,rfl⟩:=YV.mp hx;exact hr r h
 .obtain⟨r,h,rfl⟩:=YV.mp hx;exact nn
 .rw[List.map_map,show((λx:Nat×Rat=>x.2) ∘ λr=>(r,mkRat 1 rs.length))=λ_=>mkRat 1 rs.length from rfl,List.map_const',Qs h0,aa0 h0]
 .obtain⟨r,h,rfl⟩:=YV.mp hx;rw[adg h0];exact Nat.dvd_refl _
theorem LDk.mix{m:Nat}{p:Rat}{rs:List Nat}{ws:List Int}(hl:ws.length<=4)(hr:∀r∈rs,r<m)(hw:∀w∈ws,0<=w)(le:ws.length<=rs.length)(s0:0<ws.sum)(s1:ws.sum<=4000)(hp:Pay p):LDk m ⟨3,p,(rs.zip ws).map λx=>(x.1,Rat.divInt x.2 ws.sum)⟩:=by
 have m2:(rs.zip ws).map (λx=>x.2)=ws:=List.map_snd_zip le;refine⟨Nat.le_of_ble_eq_true rfl,hp,by rw[ak,List.length_zip];lia,λx hx=>?_,λx hx=>?_,?_,⟨ws.sum.toNat,by lia,by lia,λx hx=>?_⟩,(λz=>by cases z),(λz=>by cases z),(λz=>by cases z)⟩
 .obtain⟨r,h,rfl⟩:=YV.mp hx;exact hr _ (List.of_mem_zip h).1
 .obtain⟨r,h,rfl⟩:=YV.mp hx;exact Rat.divInt_nonneg (hw _ (List.of_mem_zip h).2) (XY s0)
 .rw[List.map_map,show((λx:Nat×Rat=>x.2) ∘ λx:Nat×Int=>(x.1,Rat.divInt x.2 ws.sum))=(λw=>Rat.divInt w ws.sum) ∘ λx:Nat×Int=>x.2 from rfl,<- List.map_map,m2,Ui (Int.ne_of_gt s0)];have e:=one_sub (a:=ws.sum) (b:=ws.sum) (Int.ne_of_gt s0);rw[Int.sub_self,Rat.zero_divInt]at e
  grind
 .obtain⟨r,h,rfl⟩:=YV.mp hx;exact Ks s0
theorem Zw:∀{ws:List Int},(∀w∈ws,0<=w)->0<=ws.sum
 |[],_=>by decide
 |w::ws,h=>by
  have:=h w (aO ..);have:=Zw (ws:=ws) λx hx=>h x (aJ _ hx);rw[List.sum_cons];lia
theorem W5{b:Int} : ∀{ws:List Int},(∀w∈ws,w<=b)->ws.sum<=b*ws.length
 |[],_=>by simp
 |w::ws,h=>by
  have:=h w (aO ..);have:=W5 (ws:=ws) λx hx=>h x (aJ _ hx);rw[List.sum_cons,List.length_cons];have:b*((ws.length+1:Nat):Int)=b*ws.length+b:=by grind
  lia
def T4:ST:=λts q=>∃(c:Int)(m:Nat),ts=[.int c,.int (m:Nat)]/\0<m/\m<=1000/\∀(r:Nat)(d:LD),r<m->LDk m d->q (.fz (.tup [.int (r:Nat),ldT d]))
theorem aal(F:Fun K Ey Ey yt f fd)(T:Txt K mg D)(cG:OkT P w K mg base 1 fj eZ gB)(gR:OkT P w K mg base 2 oK oN w6)(YD:OkT P w K mg base 3 JW K4 XS):b_ P w K mg base CX0 4 f fd Eh (spT K T4):=by
 refine F.okT jt (λts R hP=>by obtain⟨_,_,e,_⟩:=hP;exact e ▸ rfl) λcdv A outer s H E hr=>?_;refine⟨_,(bF (bO 2 jt.nd (Or.inr rfl) (bI cG hr.md (by rfl) (bx (qv 0) (bx bA bC))))
  (bF (bO 3 jt.nd (Or.inr rfl) (dG (bH yt) tV tV ["_law_x"] (cH (mG (qv 2) (iy bA) (iy bA))) (fu (i:=0)) cD (bL cA (qv 0) (qv 2))))
  (bF (bO 4 jt.nd (Or.inl rfl) (bL cA (bJ (qv 2) bA) bA))
  (bF (bO 5 jt.nd (Or.inl rfl) (QEB.out (nG (bM (dW (bM (Cg (bJ (qv 3) bA)) (bM (dW (bM cZ (bM cZ cI))) cI))) cI))))
  (bF (cB (bZ (go_eq hr.units) (qv 4) bA)
  (bF (bO 6 jt.nd (Or.inl rfl) (bL cN bA (bL cA (bJ (qv 2) bA) bA)))
  (bF (bO 7 jt.nd (Or.inl rfl) (bI gR hr.md (by rfl) (bx (bL cA (bJ (qv 2) bA) (bL cN (qv 6) bA)) (bx (qv 6) bC))))
  (bG (bO 5 jt.nd (Or.inl rfl) (QEB.out (nG (bM (dW (bM (Cg (bJ (qv 3) bA)) (bM (Jl 7) cI))) (bM (dW (bM (Cg (bJ (qv 3) bA)) (bM (dW (bM (M6 qY (Cg (bJ (qv 7) bA)) (Cg (bJ (qv 7) bA))) (bM (Cg (bJ (qv 7) bA)) cI))) cI))) cI))))))))
  bR)
  (bF (cB (bZ (go_eq hr.units) (qv 4) bA)
  (bF (bO 3 jt.nd (Or.inr rfl) (mG (qv 3) MN (iy (bL cN bA (bL cA (bJ (qv 2) bA) bA)))))
  (bG (ud (bH yt) tV tV ["_law_room"] (cH (qv 3)) (fu (i:=0)) cD (dh (bx (qv 0) (bx (dh (bx bA (bx (bT cU (by rfl) T.dU PySem.boot_len (bx (qv 4) bC)) bC))) bC))) (lK (i:=5) jt.nd rfl (Or.inl rfl)))))
  bR)
  (bF (cB (bZ (go_eq hr.units) (qv 4) bA)
  (bF (iQ 8 jt.nd (Or.inr rfl) (dG (bH yt) tV tV ["_law_x"] (cH (mG (qv 2) (iy bA) (iy (bL cN bA (bL cA (bJ (qv 2) bA) bA))))) (fu (i:=0)) cD (bL cA (qv 0) (bJ (eU (bx bA (bx bA (bx bA (bx bA bC))))) (bL cA (bJ (qv 3) bA) bA)))))
  (bF (CP 8 (bL cN (tH 8 (FJ bA)) bA) (FJ bA))
  (bG (Hz 8 (ud (bH yt) tV tV ["_law_k"] (dB (by rfl) T.d9 (bx (bT cU (by rfl) T.dU PySem.boot_len (bx (qv 8) bC)) bC)) (fu (i:=0)) cD (dh (bx (bJ (qv 4) (qv 0)) (bx (bI gR hr.md (by rfl) (bx (bJ (qv 9) (qv 0)) (bx (bT (Ro rfl) (by rfl) T.Zk boot_sum (bx (qv 9) bC)) bC))) bC))) (lK (i:=5) jt.nd rfl (Or.inl rfl)))))))
  bR)
  (bG (bN (dh (bx (bL cA (bJ (qv 2) bA) (qv 1)) (bx (dh (bx (qv 4) (bx (bI YD hr.md (by rfl) (bx (qv 0) (bx (bJ (qv 2) bA) (bx (bJ (qv 2) bA) bC)))) (bx (qv 5) bC)))) bC)))))))))))),?_⟩
 rintro _ R ⟨c,m,rfl,m0,m1,q⟩;have mz:(0:Int)<(m:Nat):=by lia
 have sl:∀k,0<=strm c k/\strm c k<2000000000:=iC c;obtain⟨rm,rml,rme⟩ : ∃rm:Nat->Nat,(∀k,rm k<m)/\∀k,strm c k%(m:Nat)=(rm k:Nat):=⟨λk=>(strm c k%(m:Nat)).toNat,λk=>by
  have:=YY (strm c k) mz;have:=Z3 (strm c k) (show((m:Nat):Int)≠0 by exact Int.ne_of_gt mz);show(strm c k%(m:Nat)).toNat<m;lia,λk=>by
  have:=Z3 (strm c k) (show((m:Nat):Int)≠0 by exact Int.ne_of_gt mz);show _=((strm c k%(m:Nat)).toNat:Int);lia⟩
 obtain⟨so,eso,hso⟩ : ∃so:Nat,strm c 6%4=(so:Nat)/\so<4:=⟨(strm c 6%4).toNat,by have:=sl 6;lia,by have:=sl 6;lia⟩;refine sq7 (λo=>∃(x3 x6 x7 x8:OT)(prs:List (Nat×Rat)),o=[.fz (.int c),.fz (.int (m:Nat)),.fz (.lst ((jB c 14).map L2.T.int)),x3,.fz (.int (so:Nat)),.fz (.lst (prs.map nwT)),x6,x7,x8]/\∀p,Pay p->LDk m ⟨so,p,prs⟩) ?_ λY go=>?_
 .rintro _ ⟨x3,x6,x7,x8,prs,rfl,hk⟩;refine⟨_,dJ (k:=13) (by decide),mz,_,dJ (k:=0) (by decide),_,dJ (k:=1) (by decide),c,_,_,rfl,sl 0,sl 1,λp hp=>?_⟩;have:=q (rm 13) ⟨so,p,prs⟩ (rml 13) (hk p hp);rw[<- rme]at this;exact this
 .refine⟨c,14,rfl,by decide,?_⟩;have ec:iz ((jB c 14).map L2.T.int) (some 2) (some 6)=[2,3,4,5].map (λk=>L2.T.int (strm c k)):=rfl;show(iz ((jB c 14).map L2.T.int) (some 2) (some 6)).length<=sizeLine/\iK _ _ _ _ (iz ((jB c 14).map L2.T.int) (some 2) (some 6)) _;rw[ec];refine⟨show 4<=sizeLine by decide,comp_map (λk=>L2.T.int (strm c k)) (λk=>.int (rm k:Nat)) [2,3,4,5] (λk _ N M hN=>⟨mz,by rw[rme];exact hN⟩) ⟨_,dJ (k:=6) (by decide),by decide,?_⟩⟩;dsimp only[frz];rw[eso];refine⟨_,rfl,?_⟩;obtain rfl|rfl|rfl|rfl:so=0\/so=1\/so=2\/so=3:=by lia
  .exact go _ ⟨_,_,_,_,[(rm 2,1)],rfl,λp hp=>.sure (rml 2) hp⟩
  .have x8:=sl 8;have x9:=sl 9;refine⟨_,dJ (k:=8) (by decide),by decide,_,dJ (k:=9) (by decide),by lia,_,_,rfl,by lia,f9 (by lia),_,rfl,_,rfl,?_⟩;obtain⟨b,eb,b0,b1⟩ : ∃b:Int,1+strm c 8%6=b/\0<b/\b<=6:=⟨_,rfl,by lia,by lia⟩;rw[eb];have a0:=Z3 (strm c 9) (show b+1≠0 by lia);have a1:=YY (strm c 9) (show 0<b+1 by exact Int.lt_trans b0 (Int.lt_succ _));generalize strm c 9%(b+1)=a at a0 a1 ⊢;have nn:0<=Rat.divInt a b:=Rat.divInt_nonneg a0 (XY b0);have l1:0<=1-Rat.divInt a b:=by rw[one_sub (Int.ne_of_gt b0)];exact Rat.divInt_nonneg (by omega) (XY b0)
   have dd:=Ks (a:=a) b0;generalize Rat.divInt a b=x at nn l1 dd ⊢;refine go _ ⟨.fz (.lst ([2,3,4,5].map λk=>L2.T.int (rm k:Nat))),.fz (.int b),.fz (frR x),.und,[(rm 2,x),(rm 3,1-x)],?_,λp hp=>.toss (rml 2) (rml 3) hp nn l1 (show 0<b.toNat by lia) (by lia) dd⟩;rw[show[(rm 2,x),(rm 3,1-x)].map nwT=[.tup [.int (rm 2:Nat),frR x],.tup [.int (rm 3:Nat),frR (1-x)]]from rfl,YL]
   rfl
  .have x7:=sl 7;obtain⟨n,en,n0,n4⟩ : ∃n:Nat,1+strm c 7%4=(n:Nat)/\0<n/\n<=4:=⟨(1+strm c 7%4).toNat,by lia,by lia,by lia⟩;refine⟨_,dJ (k:=7) (by decide),by decide,?_⟩;show(iz ([2,3,4,5].map λk=>L2.T.int (rm k:Nat)) none (some (1+strm c 7%4))).length<=sizeLine/\iK _ _ _ _ (iz ([2,3,4,5].map λk=>L2.T.int (rm k:Nat)) none (some (1+strm c 7%4))) _;have ec2:iz ([2,3,4,5].map λk=>L2.T.int (rm k:Nat)) none (some (1+strm c 7%4))=(([2,3,4,5].map rm).take n).map λr:Nat=>L2.T.int (r:Nat):=by
    rw[en,abL,List.map_take,List.map_map]
    rfl
   have rl:(([2,3,4,5].map rm).take n).length=n:=by rw[aY];show min n 4=n;lia
   have rlt:∀r∈([2,3,4,5].map rm).take n,r<m:=λr hr=>by
    obtain⟨k,_,rfl⟩:=YV.mp (List.mem_of_mem_take hr);exact rml k
   rw[ec2];generalize([2,3,4,5].map rm).take n=rs at rl rlt ⊢;have r0:0<rs.length:=by lia
   have e2:(rs.map λr=>(r,mkRat 1 rs.length)).map nwT=rs.map λr=>nwT (r,mkRat 1 rs.length):=by rw[List.map_map];rfl
   refine⟨by rw[ak];exact aL (show _<=4 by exact aL (Nat.le_of_eq rl) n4) (by decide),comp_map (λr:Nat=>L2.T.int (r:Nat)) (λr=>nwT (r,mkRat 1 rs.length)) rs (λr hr N M hN=>?_) (go _ ⟨.fz (.lst (rs.map λr:Nat=>L2.T.int (r:Nat))),.und,.und,.und,rs.map λr=>(r,mkRat 1 rs.length),by rw[e2];rfl,λp hp=>.even r0 (aL (Nat.le_of_eq rl) n4) rlt hp⟩)⟩;rw[show nwT (r,mkRat 1 rs.length)=.tup [.int (r:Nat),frR (mkRat 1 rs.length)]from rfl,RX r0,<- ak (f:=λr:Nat=>L2.T.int (r:Nat))]at hN;exact hN
  .have x7:=sl 7;have x12:=sl 12;obtain⟨n,en,n0,n4⟩ : ∃n:Nat,9+strm c 7%4=((8+n:Nat):Int)/\0<n/\n<=4:=⟨(1+strm c 7%4).toNat,by lia,by lia,by lia⟩;refine⟨_,dJ (k:=7) (by decide),by decide,?_⟩;show(iz ((jB c 14).map L2.T.int) (some 8) (some (9+strm c 7%4))).length<=sizeLine/\iK _ _ _ _ (iz ((jB c 14).map L2.T.int) (some 8) (some (9+strm c 7%4))) _;have ec3:iz ((jB c 14).map L2.T.int) (some 8) (some (9+strm c 7%4))=(((jB c 14).drop 8).take n).map L2.T.int:=by
    rw[en,Aa];have:=TX (ys:=jB c 14) (a:=8) (b:=8+n) (X1 _ _) (by rw[ak,List.length_range];lia);rw[show 8+n-8=n by exact Nat.add_sub_cancel_left _ _]at this;exact ZH (List.map L2.T.int) this
   have ul:(((jB c 14).drop 8).take n).length=n:=by rw[aY,List.length_drop,ak,List.length_range];lia
   rw[ec3];generalize((jB c 14).drop 8).take n=us at ul ⊢;obtain⟨d,hd,ed⟩:=Ym [3,3,3,1000] L2.T.int (i:=strm c 12%4) (Z3 _ (by decide)) (by show strm c 12%4<4;exact YY _ (by decide));have d0:0<d/\d<=1000:=by simp at hd;lia
   refine⟨by rw[ak];exact aL (show _<=4 by exact aL (Nat.le_of_eq ul) n4) (by decide),comp_map L2.T.int (λx=>L2.T.int (x%d)) us (λx hx N M hN=>⟨_,dJ (k:=12) (by decide),by decide,_,ed,d0.1,hN⟩) ?_⟩;have em:us.map (λx=>L2.T.int (x%d))=(us.map (· % d)).map L2.T.int:=by rw[List.map_map];rfl
   rw[em];have wl:(us.map (· % d)).length=n:=by rw[ak];exact ul
   have ww:∀w∈us.map (· % d),0<=w/\w<1000:=λw hw=>by
    obtain⟨x,_,rfl⟩:=YV.mp hw;have:=Z3 x (show d≠0 by lia);have:=YY x d0.1;lia
   generalize us.map (· % d)=ws at wl ww ⊢;obtain⟨vs,v,rfl⟩ : ∃vs v,ws=vs++[v]:=by
    rcases List.eq_nil_or_concat ws with rfl|⟨vs,v,e⟩
    .cases wl;cases n0
    .exact⟨vs,v,by rw[e,List.concat_eq_append]⟩
   rw[aA,List.length_singleton]at wl;have ixl:ixT ((vs++[v]).map L2.T.int) (-1)=some (.int v):=by
    show nth ((vs++[v]).map L2.T.int).reverse 0=_;rw[bf,List.reverse_append]
    rfl
   have ixn:ixN ((vs++[v]).map L2.T.int).length (-1)=some vs.length:=by
    unfold ixN;rw[ak,aA,List.length_singleton];rw[ZZ (by decide),ZY (by lia)]
    congr 1
    lia
   refine⟨_,ixl,_,ixn,?_⟩;have es:((vs++[v]).map L2.T.int).set vs.length (.int (v+1))=(vs++[v+1]).map L2.T.int:=by
    rw[bf,bf,List.set_append_right _ _ (by rw[ak];exact aG _),ak,Nat.sub_self]
    rfl
   dsimp only[frz];rw[es];have wl':(vs++[v+1]).length=n:=by rw[aA,List.length_singleton];exact wl
   have ww':∀w∈vs++[v+1],0<=w/\w<=1000:=λw hw=>by
    rcases Y1.mp hw with z|z
    .have:=ww w (List.mem_append_left _ z);lia
    .have:=ww v (aP _ (YR.mpr rfl));rw[YR.mp z];lia
   have s0:0<(vs++[v+1]).sum:=by
    have:0<=vs.sum:=Zw λw hw=>(ww w (List.mem_append_left _ hw)).1;have:=(ww v (aP _ (YR.mpr rfl))).1;rw[List.sum_append];show 0<vs.sum+(v+1+0);lia
   have s1:(vs++[v+1]).sum<=1000*(vs++[v+1]).length:=W5 λw hw=>(ww' w hw).2;generalize vs++[v+1]=us at wl' ww' s0 s1 ⊢;have ul':(us.map L2.T.int).length=us.length:=ak ..;have r4:∀k,k<4->([2,3,4,5].map rm)[k]?=some (rm (k+2)):=λk hk=>by
    obtain rfl|rfl|rfl|rfl:k=0\/k=1\/k=2\/k=3:=by lia
    all_goals rfl
   have z:∀k(hk:k<us.length),((([2,3,4,5].map rm).zip us).map λx=>(x.1,Rat.divInt x.2 us.sum))[k]?=some (rm (k+2),Rat.divInt (us.getD k 0) us.sum):=λk hk=>by
    rw[aq,List.getElem?_zip_eq_some (z:=(rm (k+2),us.getD k 0)) |>.mpr ⟨r4 k (by lia),by rw[au,aj hk];rfl⟩]
    rfl
   have ep:(List.range (us.map L2.T.int).length).map (λk=>nwT (rm (k+2),Rat.divInt (us.getD k 0) us.sum))=((([2,3,4,5].map rm).zip us).map λx=>(x.1,Rat.divInt x.2 us.sum)).map nwT:=by
    refine List.ext_getElem? λk=>?_;rw[ul'];by_cases hk:k<us.length
    .rw[aq,List.getElem?_range hk,aq,z k hk]
     rfl
    .rw[aM (by rw[ak,List.length_range];exact Nat.le_of_not_lt hk),aM (by rw[ak,ak,List.length_zip];omega)]
   refine⟨⟨by lia,by lia⟩,by rw[rng,ak,List.length_range];exact aL (show _<=4 by lia) (by decide),JT (λk=>nwT (rm (k+2),Rat.divInt (us.getD k 0) us.sum)) (us.map L2.T.int).length (λk hk N M hN=>?_) (go _ ⟨.fz (.lst ([2,3,4,5].map λk=>L2.T.int (rm k:Nat))),.und,.und,.fz (.lst (us.map L2.T.int)),(([2,3,4,5].map rm).zip us).map λx=>(x.1,Rat.divInt x.2 us.sum),by rw[ep];rfl,λp hp=>LDk.mix (rs:=[2,3,4,5].map rm) (aL (Nat.le_of_eq wl') n4) (λr hr=>?_) (λw hw=>(ww' w hw).1) (show us.length<=4 by exact aL (Nat.le_of_eq wl') n4) s0 (by lia) hp⟩)⟩
   .rw[ul']at hk;have ek:us[k]?=some (us.getD k 0):=by rw[au,aj hk];rfl
    have e4:=r4 k (by lia);rw[aq]at e4;refine⟨.int (rm (k+2):Nat),?_,_,dF ek,us,rfl,_,_,rfl,s0,f9 (by lia),hN⟩;show nth _ k=_;rw[rD,aq];cases z2:([2,3,4,5] : List Nat)[k]? with
    |none=>rw[z2]at e4;cases e4
    |some j=>rw[z2]at e4;injection e4 with e4;show some (L2.T.int (rm j:Nat))=_;rw[show rm j=rm (k+2)from e4]
   .obtain⟨k,_,rfl⟩:=YV.mp hr;exact rml k
structure DSk(m mo:Nat)(dss:List (List LD)):Prop where
 len:dss.length=m
 few:∀ds∈dss,ds.length<=mo
 ok:∀ds∈dss,∀d∈ds,LDk m d
abbrev dsT(dss:List (List LD)):List (List T):=dss.map λds=>ds.map ldT
abbrev Jc(dss:List (List LD)):T:=.lst (dss.map λds=>.lst (ds.map ldT))
theorem abA(dss:List (List LD)):frz (.l2 (dsT dss))=Jc dss:=by
 show L2.T.lst ((dss.map λds=>ds.map ldT).map L2.T.lst)=_;rw[List.map_map]
 rfl
theorem DSk.add{m mo:Nat}{dss:List (List LD)}(h:DSk m mo dss){k:Nat}{ds:List LD}{d:LD}(e:dss[k]?=some ds)(lt:ds.length<mo)(hd:LDk m d):DSk m mo (dss.set k (ds++[d])):=by
 refine⟨by rw[List.length_set,h.len],λx hx=>?_,λx hx y hy=>?_⟩
 .rcases List.mem_or_eq_of_mem_set hx with z|rfl
  .exact h.few x z
  .rw[aA,List.length_singleton];exact lt
 .rcases List.mem_or_eq_of_mem_set hx with z|rfl
  .exact h.ok x z y hy
  .rcases Y1.mp hy with z|z
   .exact h.ok ds (aC e) y z
   .rw[YR.mp z];exact hd
theorem ada{dss:List (List LD)}{r:Nat}{ds:List LD}(e:dss[r]?=some ds):ixT ((dsT dss).map L2.T.lst) (r:Nat)=some (.lst (ds.map ldT)):=by
 show nth ((dsT dss).map L2.T.lst) r=_;rw[rD,aq,aq,e];rfl
def Qu:ST:=λts q=>∃(ns:List Int)(a m mo:Nat),ts=[scT ns,.int (a:Nat),.int (m:Nat),.int (mo:Nat)]/\ns.length<=100/\m<=300/\mo<=1000/\∀dss:List (List LD),DSk m mo dss->q (.l2 (dsT dss))
theorem Y8(F:Fun K zR zR EY f fd)(T:Txt K mg D)(gU:OkT P w K mg base 1 tX tU Ay)(cG:OkT P w K mg base 1 fj eZ gB)(Tn:OkT P w K mg base 4 Ey Eh T4):b_ P w K mg base CX0 5 f fd Aw (spT K Qu):=by
 refine F.okT je (λts R hP=>by obtain⟨_,_,_,_,e,_⟩:=hP;exact e ▸ rfl) λcdv A outer s H E hr=>?_;refine⟨_,(bF (aaw (bH EY) Uq ["_law_script","_law_at","_law_many","_law_most","_law_rooms_here","_law_first","_law_cells","?_law_k","_law_cell_here","_law_room","_law_door_here"] ["_law_k"] (dB (by rfl) T.d9 (bx (qv 2) bC)) (fu (i:=0)) cD (eU bC) (lK (i:=4) je.nd rfl (Or.inl rfl)))
  (bF (cB (bZ Jy (qv 2) bA)
  (bF (bO 5 je.nd (Or.inl rfl) (bI gU hr.md (by rfl) (bx (qv 0) (bx (qv 1) bC))))
  (bF (bO 6 je.nd (Or.inl rfl) (bI cG hr.md (by rfl) (bx (qv 5) (bx (bL cA (bL cA (bL Uy (qv 5) bA) bA) (bL cN (bL cV bA (qv 2)) bA)) bC))))
  (bF (bO 6 je.nd (Or.inl rfl) (bL cN (qv 6) (mG (qv 0) (iy (bL cN (qv 1) bA)) (iy (bL cN (qv 1) bA)))))
  (bG (dM PassesOwn.never rfl (dB (by rfl) T.d9 (bx (bT cU (by rfl) T.dU PySem.boot_len (bx (qv 6) bC)) bC)) (bY (n:=99) 7 je.nd (Or.inl rfl))
  (bF (bO 8 je.nd (Or.inl rfl) (bJ (qv 6) (qv 7)))
  (bF (cB (QW.qt (NT (bZ (go_eq hr.units) (bL cA (qv 5) bA) bA) (Fd (bZ (go_eq hr.units) (bL cA (qv 7) bA) bA))))
  (bG (bO 8 je.nd (Or.inl rfl) (bL cA (qv 8) bA)))
  bR)
  (bF (G7 (bI Tn hr.md (by rfl) (bx (qv 8) (bx (qv 2) bC))) (fJ (n:=2) rfl (bU (bY (n:=99) 9 je.nd (Or.inl rfl)) (bU (bY (n:=99) 10 je.nd (Or.inl rfl)) dI))))
  (bG (cB (R0 4 (bZ vQ (bT cU (by rfl) T.dU PySem.boot_len (bx (bJ (qv 4) (qv 9)) bC)) (qv 3)))
  (bG (aaZ 4 (qv 9) (qv 10)))
  bR))))))))))
  bR)
  (bG (jM 4)))),?_⟩
 rintro _ R ⟨ns,a,m,mo,rfl,nl,m1,mo1,q⟩;have e0:(List.range m).map (λ_=>([] : List L2.T))=dsT (List.replicate m []):=by
  unfold dsT;rw[List.map_replicate,List.map_const',List.length_range]
  rfl
 have h0:DSk m mo (List.replicate m []):=⟨aN,λx hx=>by rw[(List.mem_replicate.mp hx).2];exact aZ _,λx hx y hy=>by rw[(List.mem_replicate.mp hx).2]at hy;cases hy⟩;refine⟨⟨by lia,by lia⟩,by rw[rng,ak,List.length_range];exact aL m1 (by decide),Qt (λ_=>[]) m (λk hk N M hN=>hN) ?_⟩;rw[e0];refine swD (λhm=>?_) λhm=>q _ h0;refine⟨ns,a,rfl,nl,?_⟩;dsimp only[frz];generalize ns.getD a 0=fi;have mz:(0:Int)<3*(m:Nat)+1:=by lia
 obtain⟨n,en,n1⟩ : ∃n:Nat,fi*48271%104729%(3*(m:Nat)+1)=(n:Nat)/\n<=3*m:=⟨(fi*48271%104729%(3*(m:Nat)+1)).toNat,by
  have:=Z3 (fi*48271%104729) (show(3*(m:Nat)+1:Int)≠0 by exact Int.ne_of_gt mz);lia,by
  have:=YY (fi*48271%104729) mz;have:=Z3 (fi*48271%104729) (show(3*(m:Nat)+1:Int)≠0 by exact Int.ne_of_gt mz);lia⟩
 refine⟨.inr (by constructor<;>decide),by decide,⟨f9 (by decide),f9 (by lia)⟩,mz,fi,n,by rw[en];rfl,by lia,?_⟩;have ec:(jB fi n).map L2.T.int++iz (ns.map L2.T.int) (some ((a:Nat)+1)) (some ((a:Nat)+25))=(jB fi n++iz ns (some ((a:Nat)+1)) (some ((a:Nat)+25))).map L2.T.int:=by rw[Aa,bf]
 have cl:(iz ns (some ((a:Nat)+1)) (some ((a:Nat)+25))).length<=100:=by
  unfold iz;rw[aY,List.length_drop];lia
 show((jB fi n).map L2.T.int).length+(iz (ns.map L2.T.int) (some ((a:Nat)+1)) (some ((a:Nat)+25))).length<=sizeLine/\_;refine⟨?_,?_⟩
 .rw[Aa,ak,ak,ak,List.length_range];exact aL (show _<=1100 by lia) (by decide)
 dsimp only[frz];rw[ec];have sl:(jB fi n++iz ns (some ((a:Nat)+1)) (some ((a:Nat)+25))).length<=1100:=by rw[aA,ak,List.length_range];lia
 generalize jB fi n++iz ns (some ((a:Nat)+1)) (some ((a:Nat)+25))=cs at sl ⊢;refine⟨⟨by rw[ak];lia,by rw[ak];lia⟩,mO (λk o=>∃(dss:List (List LD))(x7 x8 x9 x10:OT),o=[.fz (scT ns),.fz (.int (a:Nat)),.fz (.int (m:Nat)),.fz (.int (mo:Nat)),.l2 (dsT dss),.fz (.int fi),.fz (.lst (cs.map L2.T.int)),x7,x8,x9,x10]/\DSk m mo dss) ⟨_,_,_,_,_,rfl,h0⟩ ?_ ?_⟩
 .rintro k _ hk ⟨dss,x7,x8,x9,x10,rfl,h⟩;rw[ak]at hk;dsimp only[hName];refine sq2 (λo=>∃c:Int,o=[.fz (scT ns),.fz (.int (a:Nat)),.fz (.int (m:Nat)),.fz (.int (mo:Nat)),.l2 (dsT dss),.fz (.int fi),.fz (.lst (cs.map L2.T.int)),.fz (.int (k:Nat)),.fz (.int c),x9,x10]) ?_ λY go=>?_
  .rintro _ ⟨c,rfl⟩;refine⟨c,m,rfl,by lia,by exact aL m1 (by decide),λr d hr hd=>⟨rfl,?_⟩⟩;have lr:r<dss.length:=by rw[h.len];exact hr
   have er:=aj lr;refine⟨_,ada er,swD (λlt=>?_) λ_=>⟨dss,.fz (.int (k:Nat)),.fz (.int c),.fz (.int (r:Nat)),.fz (ldT d),rfl,h⟩⟩;have lt:((dss[r].map ldT).length:Int)<(mo:Nat):=lt;rw[ak]at lt;refine⟨r,dss[r].map ldT,?_,by rw[aq,er];rfl,by rw[ak];exact aR (show _<1001 by lia) (by decide),dss.set r (dss[r]++[d]),.fz (.int (k:Nat)),.fz (.int c),.fz (.int (r:Nat)),.fz (ldT d),?_,h.add er (by lia) hd⟩
   .unfold ixN;rw[ak,ZY (X9 _),ZY (by lia)]
    rfl
   .rw[show dsT (dss.set r (dss[r]++[d]))=(dsT dss).set r (dss[r].map ldT++[ldT d])by
     unfold dsT;rw[List.map_set,bf]
     rfl]
    rfl
  .refine⟨_,dF (aj hk),by decide,swD (λh1=>⟨by decide,swD (λh2=>⟨by decide,go _ ⟨_,rfl⟩⟩) λh2=>go _ ⟨_,rfl⟩⟩) λh1=>go _ ⟨_,rfl⟩⟩
 .rintro _ ⟨dss,x7,x8,x9,x10,rfl,h⟩;exact q dss h
def yU(ws:List (Nat×Rat))(p:Nat×Rat):List (Nat×Rat):=if(ws.any λx=>decide (x.1=p.1))=true then ws.map (λx=>if x.1=p.1 then(x.1,x.2+p.2)else x)else ws++[p]
def zU(ps:List (Nat×Rat)):List (Nat×Rat):=ps.foldl yU []
def vM(ps:List (Nat×Rat)):List (Nat×Rat):=(zU ps).filter λp=>!decide (p.2=0)
noncomputable abbrev nmP(ns:Φ)(p:Nat×Rat):Str×Rat:=(ns.getD p.1 ⟨#[]⟩,p.2)
theorem MJ{ns:Φ}(nd:ns.Nodup){i j:Nat}(hi:i<ns.length)(hj:j<ns.length):(ns.getD i ⟨#[]⟩=ns.getD j ⟨#[]⟩)↔i=j:=by
 constructor
 .intro h;rw[au,au,aj hi,aj hj]at h;rcases Nat.lt_trichotomy i j with l|l|l
  .exact absurd h ((List.pairwise_iff_getElem.mp nd) i j hi hj l)
  .exact l
  .exact absurd h.symm ((List.pairwise_iff_getElem.mp nd) j i hj hi l)
 .intro h;rw[h]
theorem aee{ns:Φ}(nd:ns.Nodup){ws:List (Nat×Rat)}{p:Nat×Rat}(hw:∀w∈ws,w.1<ns.length)(hp:p.1<ns.length):addW (ws.map (nmP ns)) (nmP ns p)=(yU ws p).map (nmP ns):=by
 have an:((ws.map (nmP ns)).any λx=>decide (x.1=(nmP ns p).1))=ws.any λx=>decide (x.1=p.1):=by
  rw[List.any_map];refine Bool.eq_iff_iff.mpr ⟨λh=>?_,λh=>?_⟩
  .obtain⟨x,hx,e⟩:=List.any_eq_true.mp h;exact List.any_eq_true.mpr ⟨x,hx,Zs ((MJ nd (hw x hx) hp).mp (of_decide_eq_true e))⟩
  .obtain⟨x,hx,e⟩:=List.any_eq_true.mp h;exact List.any_eq_true.mpr ⟨x,hx,Zs ((MJ nd (hw x hx) hp).mpr (of_decide_eq_true e))⟩
 unfold addW yU;rw[an];split
 .rw[List.map_map,List.map_map];refine List.map_congr_left λx hx=>?_;show(if(nmP ns x).1=(nmP ns p).1 then _ else _)=nmP ns (if x.1=p.1 then _ else _);by_cases e:x.1=p.1
  .rw[ZY e,ZY ((MJ nd (hw x hx) hp).mpr e)]
  .rw[ZZ e,ZZ λz=>e ((MJ nd (hw x hx) hp).mp z)]
 .rw[bf];rfl
theorem Ew{ws:List (Nat×Rat)}{p w:Nat×Rat}(h:w∈yU ws p):(w∈ws/\w.1≠p.1)\/w=p\/∃x∈ws,x.1=p.1/\w=(x.1,x.2+p.2):=by
 unfold yU at h;split at h
 .obtain⟨x,hx,rfl⟩:=YV.mp h;by_cases e:x.1=p.1
  .rw[ZY e];exact .inr (.inr ⟨x,hx,e,rfl⟩)
  .rw[ZZ e];exact .inl ⟨hx,e⟩
 .rename_i n
  rcases Y1.mp h with z|z
  .exact .inl ⟨z,λe=>n (List.any_eq_true.mpr ⟨w,z,Zs e⟩)⟩
  .exact .inr (.inl (YR.mp z))
theorem U_{ns:Φ}(nd:ns.Nodup){ps:List (Nat×Rat)}(h:∀p∈ps,p.1<ns.length):jf (ps.map (nmP ns))=(zU ps).map (nmP ns):=by
 suffices H:∀(ps ws:List (Nat×Rat)),(∀p∈ps,p.1<ns.length)->(∀w∈ws,w.1<ns.length)->(ps.map (nmP ns)).foldl addW (ws.map (nmP ns))=(ps.foldl yU ws).map (nmP ns)from H ps [] h λ_ z=>(nomatch z)
 intro ps
 induction ps with
 |nil=>exact λ_ _ _=>rfl
 |cons p ps ih =>
  intro ws hp hw;rw[List.map_cons,List.foldl_cons,List.foldl_cons,aee nd hw (hp p (aO ..))];refine ih _ (λq hq=>hp q (aJ _ hq)) λw hm=>?_;rcases Ew hm with⟨z,_⟩|rfl|⟨x,hx,_,rfl⟩
  .exact hw w z
  .exact hp w (aO ..)
  .exact hw x hx
theorem aaH{ns:Φ}(nd:ns.Nodup){ps:List (Nat×Rat)}(h:∀p∈ps,p.1<ns.length):Ae (ps.map (nmP ns))=(vM ps).map (nmP ns):=by
 unfold Ae vM;rw[U_ nd h,List.filter_map]
 rfl
theorem wX{r:Rat}{q:Nat}(hq:0<q):r.den ∣ q↔∃x:Int,r=Rat.divInt x q:=by
 constructor
 .rintro⟨k,rfl⟩;refine⟨r.num*k,?_⟩;have hk:((k:Nat):Int)≠0:=λz=>by rw[show k=0 by lia]at hq;lia
  conv=>lhs;rw[<- rd r]
  refine(Rat.divInt_eq_divInt_iff (lg r) (by push_cast;exact mV (lg r) hk)).mpr ?_
  push_cast
  grind
 .rintro⟨x,rfl⟩;have:=Ks (a:=x) (b:=(q:Nat)) (by lia);exact this
theorem Gw{a b:Rat}{q:Nat}(hq:0<q)(ha:a.den ∣ q)(hb:b.den ∣ q):(a+b).den ∣ q:=by
 obtain⟨x,rfl⟩:=(wX hq).mp ha;obtain⟨y,rfl⟩:=(wX hq).mp hb;have h0:((q:Nat):Int)≠0:=by lia
 refine(wX hq).mpr ⟨x+y,?_⟩;rw[Rat.divInt_add_divInt _ _ h0 h0];refine(Rat.divInt_eq_divInt_iff (mV h0 h0) h0).mpr ?_
 grind
theorem den_mul{a b:Rat}{q r:Nat}(hq:0<q)(hr:0<r)(ha:a.den ∣ q)(hb:b.den ∣ r):(a*b).den ∣ q*r:=by
 obtain⟨x,rfl⟩:=(wX hq).mp ha;obtain⟨y,rfl⟩:=(wX hr).mp hb;refine(wX (Nat.mul_pos hq hr)).mpr ⟨x*y,?_⟩;rw[Rat.divInt_mul_divInt]
 push_cast
 rfl
theorem aaA{a:Rat} : (-a).den=a.den:=rfl
structure JnI(m q:Nat)(as ws:List (Nat×Rat)):Prop where
 nd:(ws.map (·.1)).Nodup
 lt:∀w∈ws,w.1<m
 nn:∀w∈ws,0<=w.2
 dn:∀w∈ws,w.2.den ∣ q
 sum:∀y:Nat->Rat,dw ws y=dw as y
 few:ws.length<=as.length
theorem Sy(as bs:List (Nat×Rat))(y:Nat->Rat):dw (as++bs) y=dw as y+dw bs y:=by
 induction as with
 |nil=>show dw bs y=0+_;rw[Rat.zero_add]
 |cons a as ih=>rw[List.cons_append,cY,cY,ih,Rat.add_assoc]
theorem Wx(p:Nat×Rat)(y:Nat->Rat):dw [p] y=p.2*y p.1:=by rw[cY];show _+0=_;rw[Rat.add_zero]
theorem aeR{ws:List (Nat×Rat)}{p:Nat×Rat}(nd:(ws.map (·.1)).Nodup)(y:Nat->Rat):dw (yU ws p) y=dw ws y+p.2*y p.1:=by
 unfold yU;split
 .rename_i h
  induction ws with
  |nil=>cases h
  |cons x ws ih =>
   obtain⟨n1,n2⟩:=List.nodup_cons.mp nd;rw[List.map_cons,cY,cY];by_cases e:x.1=p.1
   .rw[ZY e];have rest:ws.map (λx=>if x.1=p.1 then(x.1,x.2+p.2)else x)=ws:=by
     conv=>rhs;rw[<- List.map_id ws]
     refine List.map_congr_left λz hz=>?_;rw[ZZ λw=>n1 (YV.mpr ⟨z,hz,w.trans e.symm⟩)]
     rfl
    rw[rest,<- e];show(x.2+p.2)*y x.1+dw ws y=_
    grind
   .rw[ZZ e,ih n2 (by
     rw[List.any_cons,Zp e,Bool.false_or]at h;exact h)]
    grind
 .rw[Sy,Wx]
theorem ae7{ws:List (Nat×Rat)}{p:Nat×Rat}(nd:(ws.map (·.1)).Nodup):((yU ws p).map (·.1)).Nodup:=by
 unfold yU;by_cases h:(ws.any λx=>decide (x.1=p.1))=true
 .rw[ZY h,List.map_map];rw[show ws.map ((λx=>x.1) ∘ λx=>if x.1=p.1 then(x.1,x.2+p.2)else x)=ws.map (·.1)from List.map_congr_left λx _=>by show(if x.1=p.1 then(x.1,x.2+p.2)else x).1=x.1;split<;>rfl];exact nd
 .rw[ZZ h,bf];refine List.nodup_append.mpr ⟨nd,by simp,λa ha b hb z=>h ?_⟩;obtain⟨x,hx,rfl⟩:=YV.mp ha;rw[List.map_singleton,YR]at hb;exact List.any_eq_true.mpr ⟨x,hx,Zs (z.trans hb)⟩
theorem abr{m q:Nat}(hq:0<q){as ws:List (Nat×Rat)}{p:Nat×Rat}(hp:p.1<m/\0<=p.2/\p.2.den ∣ q)(h:JnI m q as ws):JnI m q (as++[p]) (yU ws p):=by
 refine⟨ae7 h.nd,λw hw=>?_,λw hw=>?_,λw hw=>?_,λy=>by rw[aeR h.nd,h.sum,Sy,Wx],?_⟩
 .rcases Ew hw with⟨z,_⟩|rfl|⟨x,hx,_,rfl⟩
  .exact h.lt w z
  .exact hp.1
  .exact h.lt x hx
 .rcases Ew hw with⟨z,_⟩|rfl|⟨x,hx,_,rfl⟩
  .exact h.nn w z
  .exact hp.2.1
  .have:=h.nn x hx;have:=hp.2.1;show 0<=x.2+p.2
   grind
 .rcases Ew hw with⟨z,_⟩|rfl|⟨x,hx,_,rfl⟩
  .exact h.dn w z
  .exact hp.2.2
  .exact Gw hq (h.dn x hx) hp.2.2
 .have:=h.few;unfold yU;split
  .rw[ak,aA];exact aL this (X1 _ _)
  .rw[aA,aA];simp;omega
theorem Ju{m q:Nat}(hq:0<q):∀{ps:List (Nat×Rat)},(∀p∈ps,p.1<m/\0<=p.2/\p.2.den ∣ q)->JnI m q ps (zU ps):=by
 intro ps h
 suffices H:∀(ps as ws:List (Nat×Rat)),(∀p∈ps,p.1<m/\0<=p.2/\p.2.den ∣ q)->JnI m q as ws->JnI m q (as++ps) (ps.foldl yU ws)from H ps [] [] h ⟨.nil,λ_ z=>(nomatch z),λ_ z=>(nomatch z),λ_ z=>(nomatch z),λ_=>rfl,aG _⟩
 intro ps
 induction ps with
 |nil=>intro as ws _ h;rw[List.append_nil];exact h
 |cons p ps ih =>
  intro as ws hp h;have:=ih (as++[p]) (yU ws p) (λx hx=>hp x (aJ _ hx)) (abr hq (hp p (aO ..)) h);rw[Wp]at this;exact this
theorem BK(y:Nat->Rat):∀ws:List (Nat×Rat),dw (ws.filter λp=>!decide (p.2=0)) y=dw ws y
 |[]=>rfl
 |w::ws=>by
  by_cases e:w.2=0
  .rw[List.filter_cons_of_neg (by rw[Zs e];decide),BK y ws,cY,e,Rat.zero_mul,Rat.zero_add]
  .rw[List.filter_cons_of_pos (by rw[Zp e];rfl),cY,cY,BK y ws]
theorem Mv{m q:Nat}(hq:0<q){ps:List (Nat×Rat)}(h:∀p∈ps,p.1<m/\0<=p.2/\p.2.den ∣ q):JnI m q ps (vM ps):=by
 have j:=Ju hq h;have sub:∀w∈vM ps,w∈zU ps:=λw hw=>(List.mem_filter.mp hw).1;refine⟨(List.filter_sublist.map _).nodup j.nd,λw hw=>j.lt w (sub w hw),λw hw=>j.nn w (sub w hw),λw hw=>j.dn w (sub w hw),λy=>?_,aL (List.length_filter_le ..) j.few⟩;unfold vM;rw[BK,j.sum]
theorem wV{w:Nat×Rat} : ∀{ws:List (Nat×Rat)},(∀w∈ws,0<=w.2)->w∈ws->w.2<=dw ws λ_=>1
 |[],_,h=>by cases h
 |x::ws,nn,h=>by
  rw[cY];have n0:∀ws:List (Nat×Rat),(∀w∈ws,0<=w.2)->0<=dw ws λ_=>1:=λws=>by
   induction ws with
   |nil=>intro _;exact Rat.le_refl
   |cons y ws ih =>
    intro h;rw[cY];have:=h y (aO ..);have:=ih λw hw=>h w (aJ _ hw)
    grind
  rcases YU.mp h with rfl|z
  .have:=n0 ws λw hw=>nn w (aJ _ hw)
   grind
  .have:=wV (ws:=ws) (λw hw=>nn w (aJ _ hw)) z;have:=nn x (aO ..)
   grind
theorem Fe:∀ps:List (Nat×Rat),(dw ps λ_=>1)=Ao (ps.map (·.2))
 |[]=>rfl
 |p::ps=>by
  rw[cY,Fe ps,Rat.mul_one]
  rfl
theorem LDk.all{m:Nat}{d:LD}(h:LDk m d):∃q:Nat,0<q/\q<=4000/\∀p∈d.prs,p.1<m/\0<=p.2/\p.2.den ∣ q:=by
 obtain⟨q,q0,q1,hq⟩:=h.dn;exact⟨q,q0,q1,λp hp=>⟨h.lt p hp,h.nn p hp,hq p hp⟩⟩
theorem W7{q:Nat}{r:Rat}(q0:0<q)(q1:q<=4000)(h0:0<=r)(h1:r<=1)(hd:r.den ∣ q):Ch r:=⟨h0,h1,f9 (by have:=Nat.le_of_dvd q0 hd;lia)⟩
theorem LDk.prsOk{m:Nat}{d:LD}{ns:Φ}(h:LDk m d)(hn:Nms ns m):Prs (d.prs.map (nmP ns)):=by
 obtain⟨q,q0,q1,hq⟩:=h.all;have le1:∀p∈d.prs,p.2<=1:=λp hp=>by
  rw[<- h.one,<- Fe];exact wV h.nn hp
 have few:=h.few;have m2:(d.prs.map (nmP ns)).map (·.2)=d.prs.map (·.2):=by rw[List.map_map];rfl
 refine⟨by rw[ak];exact aL few (by decide),λp hp=>?_,?_,by rw[m2];exact h.one,λas a bs e=>?_⟩
 .obtain⟨x,hx,rfl⟩:=YV.mp hp;obtain⟨x1,x2,x3⟩:=hq x hx;have lx:x.1<ns.length:=by rw[hn.len];exact x1
  refine⟨hn.wd _ ?_,W7 q0 q1 x2 (le1 x hx) x3⟩;show ns.getD x.1 ⟨#[]⟩∈ns;rw[au,aj lx];exact aU lx
 .rw[m2];have:=pq (d.prs.map (·.2)) (n:=1) (m:=q) (Nat.one_dvd _) λr hr=>by
   obtain⟨x,hx,rfl⟩:=YV.mp hr;exact(hq x hx).2.2
  have:=Nat.le_of_dvd q0 this;exact f9 (by lia)
 .obtain⟨as',bs',e0,rfl,e2⟩:=List.map_eq_append_iff.mp e;obtain⟨a',cs',rfl,rfl,rfl⟩:=List.map_eq_cons_iff.mp e2;have sub:∀p∈as',p∈d.prs:=λp hp=>e0 ▸ List.mem_append_left _ hp;have ha:=hq a' (e0 ▸ aP _ (aO ..));have ca:Ch a'.2:=W7 q0 q1 ha.2.1 (le1 a' (e0 ▸ aP _ (aO ..))) ha.2.2;have j:=Ju q0 (ps:=as') (m:=m) λp hp=>hq p (sub p hp);rw[U_ hn.nd λp hp=>by rw[hn.len];exact(hq p (sub p hp)).1];have cn:Ch (yx ((zU as').map (nmP ns)) (nmP ns a').1):=by
   unfold yx;cases ef:((zU as').map (nmP ns)).find? λx=>decide (x.1=(nmP ns a').1)with
   |none=>exact⟨Rat.le_refl,by show(0:Rat)<=1;decide,f9 (by decide)⟩
   |some x =>
    obtain⟨y,hy,rfl⟩:=YV.mp (List.mem_of_find?_eq_some ef);refine W7 q0 q1 (j.nn y hy) ?_ (j.dn y hy);have l1:=wV j.nn hy;rw[j.sum]at l1;have l2:=h.one;rw[<- Fe,e0,Sy]at l2;have l3:0<=dw (a'::cs') λ_=>1:=by
     have:∀ws:List (Nat×Rat),(∀w∈ws,0<=w.2)->0<=dw ws λ_=>1:=λws=>by
      induction ws with
      |nil=>intro _;exact Rat.le_refl
      |cons y ws ih =>
       intro h;rw[cY];have:=h y (aO ..);have:=ih λw hw=>h w (aJ _ hw)
       grind
     exact this _ λw hw=>h.nn w (e0 ▸ aP _ hw)
    show y.2<=1
    grind
  refine⟨cn.bq,ca.bq,?_⟩;have:=cn.2.2;have:=Nat.le_of_dvd q0 ha.2.2;have den4:(yx ((zU as').map (nmP ns)) (nmP ns a').1).den<=4000:=by
   unfold yx;cases ef:((zU as').map (nmP ns)).find? λx=>decide (x.1=(nmP ns a').1)with
   |none=>exact Nat.le_of_ble_eq_true rfl
   |some x =>
    obtain⟨y,hy,rfl⟩:=YV.mp (List.mem_of_find?_eq_some ef);have:=Nat.le_of_dvd q0 (j.dn y hy);exact aL this q1
  refine f9 ?_;rw[Int.natAbs_mul,XT,XT];exact Y3 (Nat.mul_le_mul den4 (show a'.2.den<=4000 by exact aL this q1)) (by decide)
noncomputable def clsOf(D:Adr):Nat->Addr
 |0=>D.Sure
 |1=>D.Toss
 |2=>D.Even
 |_=>D.Mixed
abbrev aj4(t:Str)(d:LD):bQ:=⟨t,d.pay,vM d.prs⟩
abbrev uK(D:Adr)(t:Str)(d:LD):Made:=⟨clsOf D d.sort,aj4 t d⟩
theorem W6(D:Adr):∀k,cW D (clsOf D k)
 |0=>by unfold cW clsOf;simp
 |1=>by unfold cW clsOf;simp
 |2=>by unfold cW clsOf;simp
 |_+3=>by unfold cW clsOf;simp
def Qq(D:Adr):ST:=λts q=>∃(t:Str)(d:LD)(ns:Φ)(m:Nat),ts=[.str t,ldT d,.lst (ns.map T.str)]/\Wd t/\Nms ns m/\LDk m d/\q (.fz (mdT ns (uK D t d)))
theorem Xl(F:Fun K z9 z9 zm f fd)(T:Txt K mg D)(uV:OkI P w K mg base CX0 5 D.Sure_init n8 (spI K (Uk D)))(d7:OkI P w K mg base CX0 5 D.Mixed_init gw (spI K (zX D)))(uR:OkI P w K mg base CX0 6 D.Toss_init nq (spI K (UJ D)))(vP:OkI P w K mg base CX0 6 D.Even_init nY (spI K (Tr D))):b_ P w K mg base CX0 8 f fd Ah (spT K (Qq D)):=by
 refine F.okT uN (λts R hP=>by obtain⟨_,_,_,_,e,_⟩:=hP;exact e ▸ rfl) λcdv A outer s H E hr=>?_;refine⟨_,(bF (G7 (qv 1) (fJ (n:=3) rfl (bU (bY (n:=99) 4 uN.nd (Or.inl rfl)) (bU (bY (n:=99) 5 uN.nd (Or.inl rfl)) (bU (bY (n:=99) 6 uN.nd (Or.inl rfl)) dI)))))
  (bF (ud (bH zm) Bg Bg ["_law_room","_law_chance"] (cH (qv 6)) (fJ (n:=2) rfl (bU (fu (i:=0)) (bU (fu (i:=1)) dI))) cD (dh (bx (bJ (qv 4) (qv 0)) (bx (qv 1) bC))) (lK (i:=3) uN.nd rfl (Or.inl rfl)))
  (bF (cB (bZ (go_eq hr.units) (qv 4) bA)
  (bG (bN (Bx T.abn uV hr.md (by rfl) T.ad2 (bx (qv 0) (bx (qv 5) (bx (bJ (bJ (qv 3) bA) bA) bC))))))
  bR)
  (bF (cB (bZ (go_eq hr.units) (qv 4) bA)
  (bG (bN (Bx T.aaY uR hr.md (by rfl) T.ae2 (bx (qv 0) (bx (qv 5) (bx (bJ (bJ (qv 3) bA) bA) (bx (bJ (bJ (qv 3) bA) bA) (bx (bJ (bJ (qv 3) bA) bA) bC))))))))
  bR)
  (bF (cB (bZ (go_eq hr.units) (qv 4) bA)
  (bG (bN (Bx T.Z1 vP hr.md (by rfl) T.ae6 (bx (qv 0) (bx (qv 5) (bx (dG (bH zm) Bg Bg ["_law_room","_law_chance"] (cH (qv 3)) (fJ (n:=2) rfl (bU (fu (i:=0)) (bU (fu (i:=1)) dI))) cD (qv 0)) bC))))))
  bR)
  (bG (bN (Bx T.W2 d7 hr.md (by rfl) T.Kf (bx (qv 0) (bx (qv 5) (bx (qv 3) bC))))))))))),?_⟩
 rintro _ R ⟨t,d,ns,m,rfl,wt,hn,hd,q⟩;have few:=hd.few;have en:∀p∈d.prs,ixT (ns.map L2.T.str) (p.1:Nat)=some (.str (nmP ns p).1):=λp hp=>by
  have lp:p.1<ns.length:=by rw[hn.len];exact hd.lt p hp
  exact dF (by rw[aj lp];show _=some (ns.getD p.1 ⟨#[]⟩);rw[au,aj lp];rfl)
 have em:(d.prs.map (nmP ns)).map wyT=d.prs.map λp=>wyT (nmP ns p):=by rw[List.map_map];rfl
 have pk:=hd.prsOk hn;have wk:=aaH hn.nd (ps:=d.prs) λp hp=>by rw[hn.len];exact hd.lt p hp
 refine⟨rfl,by rw[ak];exact aL few (by decide),comp_map nwT (λp=>wyT (nmP ns p)) d.prs (λp hp N M hN=>⟨rfl,_,en p hp,hN⟩) ?_⟩;rw[<- em];obtain⟨so,pay,prs⟩:=d;have s4:so<4:=hd.sort;have s0:=hd.s0;have s1:=hd.s1;have s2:=hd.s2;dsimp only at *;obtain rfl|rfl|rfl|rfl:so=0\/so=1\/so=2\/so=3:=by lia
 .obtain⟨a,rfl⟩:=s0 rfl;have e1:vM [(a,1)]=[(a,1)]:=by simp[vM,zU,yU]
  have q':R (.fz (drT D.Sure t pay ([(a,1)].map (nmP ns)))):=by rw[<- e1];exact q
  exact⟨_,rfl,t,_,pay,rfl,rfl,X8 D,rfl,wt,(pk.ok (nmP ns (a,1)) (YR.mpr rfl)).1,q'⟩
 .obtain⟨a,b,x,rfl⟩:=s1 rfl;have q':R (.fz (drT D.Toss t pay (Ae ([(a,x),(b,1-x)].map (nmP ns))))):=by rw[wk];exact q
  exact⟨_,rfl,_,rfl,_,rfl,t,_,_,pay,x,rfl,rfl,Y6 D,rfl,wt,(pk.ok (nmP ns (a,x)) (aO ..)).2,pk,q'⟩
 .obtain⟨rs,rfl⟩:=s2 rfl;have q':R (.fz (drT D.Even t pay (Ae ((rs.map λr=>(r,mkRat 1 rs.length)).map (nmP ns))))):=by rw[wk];exact q
  have ev:even (((rs.map λr=>(r,mkRat 1 rs.length)).map (nmP ns)).map (·.1))=(rs.map λr=>(r,mkRat 1 rs.length)).map (nmP ns):=by
   have el:(((rs.map λr=>(r,mkRat 1 rs.length)).map (nmP ns)).map (·.1)).length=rs.length:=by simp
   unfold even;rw[el];simp[Function.comp_def]
  refine⟨by rw[ak,ak];exact aL few (by decide),comp_map wyT (λp=>.str p.1) ((rs.map λr=>(r,mkRat 1 rs.length)).map (nmP ns)) (λp hp N M hN=>⟨rfl,hN⟩) ⟨t,pay,((rs.map λr=>(r,mkRat 1 rs.length)).map (nmP ns)).map (·.1),rfl,rfl,Zm D,?_,wt,by rw[ev];exact pk,?_⟩⟩
  .rw[show(((rs.map λr=>(r,mkRat 1 rs.length)).map (nmP ns)).map (·.1)).map L2.T.str=((rs.map λr=>(r,mkRat 1 rs.length)).map (nmP ns)).map λp=>L2.T.str p.1 from List.map_map]
   rfl
  .rw[ev];exact q'
 .have q':R (.fz (drT D.Mixed t pay (Ae (prs.map (nmP ns))))):=by rw[wk];exact q
  exact⟨t,pay,prs.map (nmP ns),rfl,rfl,VG D,rfl,wt,pk,q'⟩
structure QC(dss:List (List LD))(off:List (List bQ)):Prop where
 len:off.length=dss.length
 at_:∀(k:Nat)ds os,dss[k]?=some ds->off[k]?=some os->∃tl:Φ,tl.length=ds.length/\os=(tl.zip ds).map λp=>aj4 p.1 p.2
theorem Ra{α β:Type} : ∀{xs:List α}{ys:List β}{x:α}(y:β),xs[ys.length]?=some x->xs.zip (ys++[y])=xs.zip ys++[(x,y)]
 |[],ys,_,_,e=>by cases e
 |a::xs,[],x,y,e=>by cases e;simp
 |a::xs,b::ys,x,y,e=>by
  rw[List.cons_append,List.zip_cons_cons,List.zip_cons_cons,Ra (xs:=xs) (ys:=ys) y (by simpa using e)]
  rfl
theorem QL{α β:Type}(f:α->T)(g:β->T):∀(xs:List α)(ys:List β),Gf (xs.map f) (ys.map g)=(xs.zip ys).map λp=>.tup [f p.1,g p.2]
 |[],ys=>by cases ys<;>rfl
 |_::_,[]=>rfl
 |x::xs,y::ys=>by
  rw[List.zip_cons_cons,List.map_cons,List.map_cons,List.map_cons,<- QL f g xs ys]
  rfl
def U0(D:Adr):ST:=λts q=>∃(c:Int)(s:Rat)(m mo:Nat)(dss:List (List LD)),ts=[.int c,frR s,Jc dss]/\Shr s/\DSk m mo dss/\m<=26/\mo<=26/\∀ns off,Nms ns m->Rt ns off->QC dss off->q (.fz (hlT D s ns off))
theorem abu(F:Fun K El El Mg f fd)(T:Txt K mg D)(Ei:OkT P w K mg base 2 zM Az Pa)(Mz:OkT P w K mg base 8 z9 Ah (Qq D))(vI:OkI P w K mg base CX0 4 D.Hall_init oG (spI K (Tt D))):b_ P w K mg base CX0 9 f fd Eb (spT K (U0 D)):=by
 refine F.okT Ab (λts R hP=>by obtain⟨_,_,_,_,_,e,_⟩:=hP;exact e ▸ rfl) λcdv A outer s H E hr=>?_;refine⟨_,(bF (bO 3 Ab.nd (Or.inr rfl) (bI Ei hr.md (by rfl) (bx (qv 0) (bx (bT cU (by rfl) T.dU PySem.boot_len (bx (qv 2) bC)) bC))))
  (bF (iQ 4 Ab.nd (Or.inl rfl) (eU bC))
  (bF (dM PassesOwn.never rfl (dB (by rfl) T.d9 (bx (bT cU (by rfl) T.dU PySem.boot_len (bx (qv 2) bC)) bC)) (bY (n:=99) 5 Ab.nd (Or.inl rfl))
  (bF (bO 6 Ab.nd (Or.inl rfl) (bI Ei hr.md (by rfl) (bx (bL cN (qv 0) (qv 5)) (bx (bT cU (by rfl) T.dU PySem.boot_len (bx (bJ (qv 2) (qv 5)) bC)) bC))))
  (bG (o9 4 (dh (bx (bJ (qv 3) (qv 5)) (bx (dG (bH Mg) R3 R3 ["_law_title","_law_door_here"] (Lx (by rfl) T.Ur (bx (qv 6) (bx (bJ (qv 2) (qv 5)) bC))) (fJ (n:=2) rfl (bU (fu (i:=0)) (bU (fu (i:=1)) dI))) cD (bI Mz hr.md (by rfl) (bx (qv 0) (bx (qv 1) (bx (qv 5) bC))))) bC)))))))
  (bG (Hz 4 (bN (Bx T.aaL vI hr.md (by rfl) T.aeL (bx (qv 1) (bx (qv 4) bC))))))))),?_⟩
 rintro _ R ⟨c,s,m,mo,dss,rfl,hs,hd,m1,mo1,q⟩;have dl:(dss.map λds=>L2.T.lst (ds.map ldT)).length=m:=by rw[ak,hd.len]
 refine⟨c,m,by rw[<- dl];rfl,m1,λns hn=>?_⟩;have nl:=hn.len;have e0:yS ns []=[]:=by simp[yS]
 refine⟨⟨by rw[dl];lia,by rw[dl];lia⟩,mO (λk o=>∃(ms:List (List Made))(x5 x6:OT),o=[.fz (.int c),.fz (frR s),.fz (Jc dss),.fz (.lst (ns.map L2.T.str)),.l1 (yS ns ms),x5,x6]/\ms.length=k/\∀(i:Nat)ds x,dss[i]?=some ds->ms[i]?=some x->∃tl,Nms tl ds.length/\x=(tl.zip ds).map λp=>uK D p.1 p.2) ⟨[],.und,.und,by rw[e0];rfl,rfl,λi ds x _ z=>by cases z⟩ ?_ ?_⟩
 .rintro k _ hk ⟨ms,x5,x6,rfl,lm,hm⟩;have hk:k<m:=by rw[dl]at hk;lia
  have lk:k<dss.length:=by rw[hd.len];exact hk
  have ek:=aj lk;have mem:=aU lk;have fk:=hd.few _ mem;have exk:ixT (dss.map λds=>L2.T.lst (ds.map ldT)) (k:Nat)=some (.lst (dss[k].map ldT)):=dF ek;have nk:ns[k]?=some (ns.getD k ⟨#[]⟩):=by rw[au,aj (by lia)];rfl
  refine⟨_,exk,c+k,dss[k].length,by rw[<- ak (as:=dss[k]) (f:=ldT)];rfl,by exact aL fk mo1,λtl ht=>?_⟩;refine⟨_,dF nk,_,exk,?_⟩;have zl:(tl.zip dss[k]).length<=26:=by rw[List.length_zip];lia
  show(Gf (tl.map L2.T.str) (dss[k].map ldT)).length<=sizeLine/\iK _ _ _ _ (Gf (tl.map L2.T.str) (dss[k].map ldT)) _;rw[QL];refine⟨by rw[ak];exact aL zl (by decide),comp_map (λp=>.tup [.str p.1,ldT p.2]) (λp=>mdT ns (uK D p.1 p.2)) (tl.zip dss[k]) (λp hp N M hN=>⟨rfl,p.1,p.2,ns,m,rfl,ht.wd _ (List.of_mem_zip hp).1,hn,hd.ok _ mem _ (List.of_mem_zip hp).2,hN⟩) ⟨?_,ms++[(tl.zip dss[k]).map λp=>uK D p.1 p.2],.fz (.int (k:Nat)),.fz (.lst (tl.map L2.T.str)),?_,by rw[aA,lm];rfl,λi ds x e1 e2=>?_⟩⟩
  .rw[ak,List.length_zip];exact aR (show _<1000 by lia) (by decide)
  .rw[show yS ns (ms++[(tl.zip dss[k]).map λp=>uK D p.1 p.2])=yS ns ms++[.tup [.str (ns.getD k ⟨#[]⟩),.lst ((tl.zip dss[k]).map λp=>mdT ns (uK D p.1 p.2))]]by
    unfold yS;rw[Ra (x:=ns.getD k ⟨#[]⟩) _ (by rw[lm];exact nk),bf,List.map_singleton]
    congr 2
    show rmT (_,((tl.zip dss[k]).map λp=>uK D p.1 p.2).map (mdT ns))=_;rw[List.map_map]
    rfl]
   rfl
  .by_cases hi:i<ms.length
   .rw[aF hi]at e2;exact hm i ds x e1 e2
   .have li:=(ao.mp e2).1;rw[aA,List.length_singleton]at li;have:i=k:=by lia
    subst this;rw[aD (Nat.le_of_eq lm),show i-ms.length=0 by lia]at e2;cases e2;rw[ek]at e1;cases e1;exact⟨tl,ht,rfl⟩
 .rintro _ ⟨ms,x5,x6,rfl,lm,hm⟩;have lm:ms.length=m:=by rw[lm];exact dl
  have all:∀x∈ms,∃ds∈dss,∃tl,Nms tl ds.length/\x=(tl.zip ds).map λp=>uK D p.1 p.2:=λx hx=>by
   obtain⟨i,hi⟩:=aV hx;have li:=(ao.mp hi).1;have ld:i<dss.length:=by rw[hd.len];exact aR li (Nat.le_of_eq lm)
   exact⟨_,aU ld,hm i _ x (aj ld) hi⟩
  have rk:acz D ns ms:=by
   refine⟨by rw[lm,nl],by lia,hn.wd,hn.nd,λx hx=>?_⟩;obtain⟨ds,hds,tl,ht,rfl⟩:=all x hx;have fd:=hd.few ds hds;have tll:=ht.len;refine⟨by rw[ak,List.length_zip];lia,λy hy=>?_,λy hy=>?_,?_⟩
   .obtain⟨p,_,rfl⟩:=YV.mp hy;exact W6 D _
   .obtain⟨p,hp,rfl⟩:=YV.mp hy;have lk:=hd.ok ds hds p.2 (List.of_mem_zip hp).2;obtain⟨qq,q0,q1,hq⟩:=lk.all;have j:=Mv q0 hq;have:=j.few;have:=lk.few;exact⟨by show(vM p.2.prs).length<=1000;lia,λw hw=>by rw[nl];exact j.lt w hw⟩
   .rw[List.map_map];show((tl.zip ds).map λp=>p.1).Nodup;rw[List.map_fst_zip (Nat.le_of_eq tll)];exact ht.nd
  have bs:Bq s:=⟨f9 (by
   have h0:=Rat.num_nonneg.mpr hs.lo;have h1:=(Rat.lt_iff s 1).mp hs.hi;have h1:s.num*((1:Rat).den:Int)<(1:Rat).num*(s.den:Int):=h1;have:=hs.den;simp at h1;lia),f9 (by have:=hs.den;lia)⟩
  refine⟨s,ns,ms,rfl,rfl,rfl,rfl,hs.lo,hs.hi,bs,rk,q ns (offs ms) hn ⟨?_,by lia,λos hos=>?_⟩ ⟨?_,λk ds os e1 e2=>?_⟩⟩
  .rw[ak,lm,nl]
  .obtain⟨x,hx,rfl⟩:=YV.mp hos;rw[ak];exact(rk.mds x hx).few
  .rw[ak,lm,hd.len]
  .rw[aq]at e2;cases e3:ms[k]? with
   |none=>rw[e3]at e2;cases e2
   |some x =>
    rw[e3]at e2;cases e2;obtain⟨tl,ht,rfl⟩:=hm k ds x e1 e3;exact⟨tl,ht.len,List.map_map⟩
abbrev Dh(k:Nat)(p:Rat):LD:=⟨0,p,[(k,1)]⟩
def akB(dss:List (List LD)):Prop:=∀ds∈dss,∀d∈ds,d.pay.den=1/\d.pay.num.natAbs<=9/\∀p∈d.prs,p.2=1
theorem Mi{p:Rat}(h1:p.den=1)(h2:p.num.natAbs<=9):Pay p:=⟨aL h2 (by decide),by exact aL (Nat.le_of_eq h1) (by decide)⟩
def CW:ST:=λts q=>∃(c:Int)(m:Nat),ts=[.int c,.int ((m+1:Nat):Int)]/\m<26/\∀dss:List (List LD),DSk (m+1) 4 dss->(∀ds∈dss,ds.length=2)->akB dss->q (.l1 (dss.map λds=>.lst (ds.map ldT)))
theorem OD(F:Fun K qw qw yH f fd)(T:Txt K mg D)(cG:OkT P w K mg base 1 fj eZ gB):b_ P w K mg base CX0 2 f fd qD (spT K CW):=by
 refine F.okT pP (λts R hP=>by obtain⟨_,_,e,_⟩:=hP;exact e ▸ rfl) λcdv A outer s H E hr=>?_;refine⟨_,(bF (bO 2 pP.nd (Or.inl rfl) (bL cN bA (bL cA (bJ (bI cG hr.md (by rfl) (bx (qv 0) (bx bA bC))) bA) bA)))
  (bF (iQ 3 pP.nd (Or.inl rfl) (eU bC))
  (bF (dM PassesOwn.never rfl (dB (by rfl) T.d9 (bx (bL qY (qv 1) bA) bC)) (bY (n:=99) 4 pP.nd (Or.inl rfl))
  (bG (o9 3 (QEB.out (nG (bM (dW (bM cZ (bM (dW (bM cZ (bM cZ cI))) (bM (nG (bM (dW (bM (Jl 4) (bM (dW (bM cZ (bM cZ cI))) cI))) cI)) cI)))) (bM (dW (bM cZ (bM (dW (bM cZ (bM cZ cI))) (bM (nG (bM (dW (bM (M6 cN (Jl 4) cZ) (bM (dW (bM cZ (bM cZ cI))) cI))) cI)) cI)))) cI)))))))
  (bG (Hz 3 (bN (bL cN (qv 3) (QEB.out (nG (bM (nG (bM (dW (bM cZ (bM (dW (bM cZ (bM cZ cI))) (bM (nG (bM (dW (bM (M6 qY (Jl 1) cZ) (bM (dW (bM cZ (bM cZ cI))) cI))) cI)) cI)))) (bM (dW (bM cZ (bM (dW (bM (Jl 2) (bM cZ cI))) (bM (nG (bM (dW (bM (M6 qY (Jl 1) cZ) (bM (dW (bM cZ (bM cZ cI))) cI))) cI)) cI)))) cI))) cI)))))))))),?_⟩
 rintro _ R ⟨c,m,rfl,m1,q⟩;have s0:=iC c 0;have e1:((m+1:Nat):Int)-1=(m:Nat):=by lia
 obtain⟨p,ep,p9⟩ : ∃p:Nat,1+strm c 0%9=(p:Nat)/\p<=9:=⟨(1+strm c 0%9).toNat,by lia,by lia⟩;refine⟨c,1,rfl,by decide,_,dJ (k:=0) (by decide),by decide,?_⟩;refine⟨⟨by lia,by lia⟩,?_⟩;show uq _ _ _ (rng 0 ((((m+1:Nat):Int)-1).toNat)) _;rw[show((((m+1:Nat):Int)-1).toNat)=m by lia];refine mO (λk o=>∃x,o=[.fz (.int c),.fz (.int ((m+1:Nat):Int)),.fz (.int (p:Nat)),.l1 (((List.range k).map λk=>[Dh k 0,Dh (k+1) 0]).map λds=>.lst (ds.map ldT)),x]) ⟨.und,?_⟩ ?_ ?_
 .rw[<- ep];rfl
 .rintro k _ hk ⟨x,rfl⟩;refine⟨?_,.fz (.int (k:Nat)),?_⟩
  .rw[ak,ak,List.length_range];exact aR (show k<100 by lia) (by decide)
  .rw[List.range_succ,bf,bf]
   rfl
 .rintro _ ⟨x,rfl⟩;have cor:=q ((List.range m).map (λk=>[Dh k 0,Dh (k+1) 0])++[[Dh m 0,Dh m ((p:Int):Rat)]]) ⟨by simp,λds hds=>?_,λds hds d hd=>?_⟩ (λds hds=>?_) (λds hds d hd=>?_)
  .rw[bf]at cor;refine⟨?_,?_⟩
   .show(((List.range m).map λk=>[Dh k 0,Dh (k+1) 0]).map λds=>L2.T.lst (ds.map ldT)).length+1<=sizeLine;rw[ak,ak,List.length_range];exact aL (show m+1<=100 by lia) (by decide)
   .show R (OT.l1 (_++[L2.T.lst [L2.T.tup [.int 0,.tup [.int 0,.int 1],.lst [.tup [.int (((m+1:Nat):Int)-1),.tup [.int 1,.int 1]]]],L2.T.tup [.int 0,.tup [.int (p:Nat),.int 1],.lst [.tup [.int (((m+1:Nat):Int)-1),.tup [.int 1,.int 1]]]]]]));rw[e1];exact cor
  .rcases Y1.mp hds with z|z
   .obtain⟨k,_,rfl⟩:=YV.mp z;exact Nat.le_of_ble_eq_true rfl
   .rw[YR.mp z];exact Nat.le_of_ble_eq_true rfl
  .rcases Y1.mp hds with z|z
   .obtain⟨k,hk,rfl⟩:=YV.mp z;have:=List.mem_range.mp hk;rcases YU.mp hd with rfl|z
    .exact .sure (WV _ this) (Mi rfl (by decide))
    .rw[YR.mp z];exact .sure (Nat.succ_lt_succ this) (Mi rfl (by decide))
   .rw[YR.mp z]at hd;rcases YU.mp hd with rfl|z
    .exact .sure (X0 _) (Mi rfl (by decide))
    .rw[YR.mp z];exact .sure (X0 _) (Mi rfl (by show(p:Int).natAbs<=9;omega))
  .rcases Y1.mp hds with z|z
   .obtain⟨k,_,rfl⟩:=YV.mp z
    rfl
   .rw[YR.mp z]
    rfl
  .rcases Y1.mp hds with z|z
   .obtain⟨k,hk,rfl⟩:=YV.mp z;rcases YU.mp hd with rfl|z
    .exact⟨rfl,aZ 9,by simp⟩
    .rw[YR.mp z];exact⟨rfl,aZ 9,by simp⟩
   .rw[YR.mp z]at hd;rcases YU.mp hd with rfl|z
    .exact⟨rfl,aZ 9,by simp⟩
    .rw[YR.mp z];exact⟨rfl,by show(p:Int).natAbs<=9;omega,by simp⟩
structure PlD(dss:List (List LD))(pl:List (Option Nat)):Prop where
 len:pl.length=dss.length
 ok:∀(k:Nat)(d:Option Nat)(ds:List LD),pl[k]?=some d->dss[k]?=some ds->Bj d ds.length=true
theorem PlD.snoc{dss:List (List LD)}{k:Nat}{pl:List (Option Nat)}(h:∀(i:Nat)(d:Option Nat)(ds:List LD),i<k->pl[i]?=some d->dss[i]?=some ds->Bj d ds.length=true)(l:pl.length=k){ds:List LD}(ek:dss[k]?=some ds){d:Option Nat}(hd:Bj d ds.length=true):∀(i:Nat)(c:Option Nat)(es:List LD),i<k+1->(pl++[d])[i]?=some c->dss[i]?=some es->Bj c es.length=true:=λi c es hi e1 e2=>by
 by_cases z:i<k
 .rw[aF (by lia)]at e1;exact h i c es z e1 e2
 .have:i=k:=by lia
  subst this;rw[aD (Nat.le_of_eq l),show i-pl.length=0 by lia]at e1;cases e1;rw[ek]at e2;cases e2;exact hd
def Js:ST:=λts q=>∃(c:Int)(dss:List (List LD)),ts=[.int c,Jc dss]/\dss.length<=100/\∀pl:List (Option Nat),PlD dss pl->q (.l1 (pl.map dT))
theorem V5(F:Fun K xq xq Fp f fd)(T:Txt K mg D)(cG:OkT P w K mg base 1 fj eZ gB):b_ P w K mg base CX0 2 f fd wZ (spT K Js):=by
 refine F.okT xK (λts R hP=>by obtain⟨_,_,e,_⟩:=hP;exact e ▸ rfl) λcdv A outer s H E hr=>?_;refine⟨_,(bF (bO 2 xK.nd (Or.inl rfl) (bI cG hr.md (by rfl) (bx (qv 0) (bx (bT cU (by rfl) T.dU PySem.boot_len (bx (qv 1) bC)) bC))))
  (bF (iQ 3 xK.nd (Or.inl rfl) (eU bC))
  (bF (dM PassesOwn.never rfl (dB (by rfl) T.d9 (bx (bT cU (by rfl) T.dU PySem.boot_len (bx (qv 1) bC)) bC)) (bY (n:=99) 4 xK.nd (Or.inl rfl))
  (bG (cB (bZ (go_eq hr.units) (bT cU (by rfl) T.dU PySem.boot_len (bx (bJ (qv 1) (qv 4)) bC)) bA)
  (bG (o9 3 jy))
  (bG (o9 3 (bL cA (bJ (qv 2) (qv 4)) (bT cU (by rfl) T.dU PySem.boot_len (bx (bJ (qv 1) (qv 4)) bC))))))))
  (bG (jM 3))))),?_⟩
 rintro _ R ⟨c,dss,rfl,few,q⟩;have dl:(dss.map λds=>L2.T.lst (ds.map ldT)).length=dss.length:=ak ..;refine⟨c,dss.length,by rw[<- dl];rfl,by exact aL few (by decide),⟨by rw[dl];lia,by rw[dl];lia⟩,?_⟩;refine mO (λk o=>∃(pl:List (Option Nat))(x:OT),o=[.fz (.int c),.fz (Jc dss),.fz (.lst ((jB c dss.length).map L2.T.int)),.l1 (pl.map dT),x]/\pl.length=k/\∀(i:Nat)(d:Option Nat)(ds:List LD),i<k->pl[i]?=some d->dss[i]?=some ds->Bj d ds.length=true) ⟨[],.und,rfl,rfl,λi d ds z=>absurd z (WZ _)⟩ ?_ ?_
 .rintro k _ hk ⟨pl,x,rfl,l,h⟩;have hk:k<dss.length:=by rw[dl]at hk;lia
  have ek:=aj hk;have exk:ixT (dss.map λds=>L2.T.lst (ds.map ldT)) (k:Nat)=some (.lst (dss[k].map ldT)):=dF ek;have lm:(pl.map dT).length<sizeLine:=by rw[ak];exact aR (show _<1000 by lia) (by decide)
  have s0:=iC c k;refine⟨_,exk,?_⟩;by_cases e:dss[k].length=0
  .refine swT (Zs (by rw[ak];lia)) ⟨lm,pl++[none],.fz (.int (k:Nat)),by rw[bf];rfl,by simp[l],PlD.snoc h l ek (Zs e)⟩
  .have p0:(0:Int)<(dss[k].map ldT).length:=by rw[ak];lia
   refine swF (Zp (by rw[ak];lia)) ⟨_,dJ (k:=k) hk,_,exk,p0,lm,?_⟩;have a0:=Z3 (strm c k) (show((dss[k].map ldT).length:Int)≠0 by exact Int.ne_of_gt p0);have a1:=YY (strm c k) p0;obtain⟨n,en⟩:=Int.eq_ofNat_of_zero_le a0;refine⟨pl++[some n],.fz (.int (k:Nat)),?_,by simp[l],PlD.snoc h l ek (Zs ?_)⟩
   .rw[bf];show _=[_,_,_,OT.l1 (pl.map dT++[L2.T.int (n:Nat)]),_];rw[<- en]
    rfl
   .rw[ak]at a1 en;lia
 .rintro _ ⟨pl,x,rfl,l,h⟩;have l:pl.length=dss.length:=by rw[l];exact dl
  exact q pl ⟨l,λk d ds e1 e2=>h k d ds (by rw[dl];have:=(ao.mp e1).1;lia) e1 e2⟩
open Rw (sg iT g8 cg jr jA Big)
def Rz(n d:Nat)(r:Rat):Prop:=r.num.natAbs<=10^n/\r.den<=10^d
theorem R9{n d:Nat}{a b:Int}(hb:0<b)(h1:a.natAbs<=10^n)(h2:b.toNat<=10^d):Rz n d (Rat.divInt a b):=by
 obtain⟨x,y⟩:=div_pos (a:=a) hb;exact⟨aL y h1,aL x h2⟩
theorem Rz.mul{n d n' d':Nat}{a b:Rat}(ha:Rz n d a)(hb:Rz n' d' b):Rz (n+n') (d+d') (a*b):=by
 have e:a*b=Rat.divInt (a.num*b.num) (a.den*b.den):=by rw[<- Rat.divInt_mul_divInt,rd,rd]
 have p:(0:Int)<(a.den:Int)*b.den:=XZ (by have:=a.den_pos;lia) (by have:=b.den_pos;lia);rw[e];refine R9 p ?_ ?_
 .rw[Int.natAbs_mul,Nat.pow_add];exact Nat.mul_le_mul ha.1 hb.1
 .rw[<- Int.natCast_mul,Int.toNat_natCast,Nat.pow_add];exact Nat.mul_le_mul ha.2 hb.2
theorem Rz.add{n d n' d' k:Nat}{a b:Rat}(ha:Rz n d a)(hb:Rz n' d' b)(h1:n+d'<=k)(h2:n'+d<=k):Rz (k+1) (d+d') (a+b):=by
 have e:a+b=Rat.divInt (a.num*b.den+b.num*a.den) (a.den*b.den):=by rw[<- Rat.divInt_add_divInt _ _ (lg a) (lg b),rd,rd]
 have p:(0:Int)<(a.den:Int)*b.den:=XZ (by have:=a.den_pos;lia) (by have:=b.den_pos;lia);rw[e];refine R9 p ?_ ?_
 .have x:(a.num*b.den).natAbs<=10^k:=by
   rw[Int.natAbs_mul,XT];exact aL (Nat.mul_le_mul ha.1 hb.2) (by rw[<- Nat.pow_add];exact XU (by decide) h1)
  have y:(b.num*a.den).natAbs<=10^k:=by
   rw[Int.natAbs_mul,XT];exact aL (Nat.mul_le_mul hb.1 ha.2) (by rw[<- Nat.pow_add];exact XU (by decide) h2)
  have z:=Int.natAbs_add_le (a.num*b.den) (b.num*a.den);rw[Nat.pow_succ];lia
 .rw[<- Int.natCast_mul,Int.toNat_natCast,Nat.pow_add];exact Nat.mul_le_mul ha.2 hb.2
theorem LR{n:Nat}{i:Int}(h:i.natAbs<=10^n)(hn:n<=2400):Bd i:=Y3 (aL h (XU (by decide) hn)) (by decide +kernel)
theorem Rz.bq{n d:Nat}{r:Rat}(h:Rz n d r)(hn:n<=2400)(hd:d<=2400):Bq r:=⟨LR h.1 hn,LR (by rw[XT];exact h.2) hd⟩
theorem Rz.dd{n d n' d':Nat}{a b:Rat}(ha:Rz n d a)(hb:Rz n' d' b)(h:d+d'<=2400):Bd ((a.den:Int)*b.den):=LR (n:=d+d') (by
 rw[Int.natAbs_mul,XT,XT,Nat.pow_add];exact Nat.mul_le_mul ha.2 hb.2) h
theorem S5{r:Rat}{A:Nat}(h1:r<=(A:Rat))(h2 : -(A:Rat)<=r):r.num.natAbs<=A*r.den:=by
 have a:=(Rat.le_iff r (A:Rat)).mp h1;have b:=(Rat.le_iff (-(A:Rat)) r).mp h2;have a:r.num*((1:Nat):Int)<=(A:Int)*(r.den:Int):=a;have b : -(A:Int)*(r.den:Int)<=r.num*((1:Nat):Int):=b;have c:((A*r.den:Nat):Int)=(A:Int)*r.den:=Int.natCast_mul ..;rw[Int.neg_mul]at b;omega
structure OfB(m PN PD CQ:Nat)(o:bQ):Prop where
 pn:o.pay.num.natAbs<=PN
 pd:o.pay.den<=PD
 cq:∃q:Nat,0<q/\q<=CQ/\∀w∈o.ways,w.2.den ∣ q
 nd:(o.ways.map (·.1)).Nodup
 few:o.ways.length<=1000
 lt:∀w∈o.ways,w.1<m
 nn:∀w∈o.ways,0<=w.2
 one:Ib o.ways<=1
theorem Kp:∀ws:List (Nat×Rat),Ib ws=dw ws λ_=>1
 |[]=>rfl
 |w::ws=>by rw[Cj,cY,Kp ws,Rat.mul_one]
theorem OfB.le1{m PN PD CQ:Nat}{o:bQ}(h:OfB m PN PD CQ o){w:Nat×Rat}(hw:w∈o.ways):w.2<=1:=by
 have:=wV h.nn hw;rw[<- Kp]at this;exact Rat.le_trans this h.one
theorem acA{m mo:Nat}{dss:List (List LD)}{off:List (List bQ)}(hd:DSk m mo dss)(ho:QC dss off):∀ds∈off,∀o∈ds,OfB m (10^30) 1000 4000 o:=λos hos o hmo=>by
 obtain⟨k,ek⟩:=aV hos;have lk:k<dss.length:=by rw[<- ho.len];exact(ao.mp ek).1
 obtain⟨tl,_,rfl⟩:=ho.at_ k _ os (aj lk) ek;obtain⟨p,hp,rfl⟩:=YV.mp hmo;have lk:=hd.ok _ (aU lk) p.2 (List.of_mem_zip hp).2;obtain⟨q,q0,q1,hq⟩:=lk.all;have j:=Mv q0 hq;have f1:=j.few;have f2:=lk.few;exact⟨lk.pay.num,lk.pay.den,⟨q,q0,q1,j.dn⟩,j.nd,by show(vM p.2.prs).length<=1000;lia,j.lt,j.nn,by
  show Ib (vM p.2.prs)<=1;rw[Kp,j.sum,Fe,lk.one];exact Rat.le_refl⟩
theorem X6{m mo:Nat}{dss:List (List LD)}{off:List (List bQ)}(hd:DSk m mo dss)(ht:∀ds∈dss,∀d∈ds,d.pay.den=1/\d.pay.num.natAbs<=9/\∀p∈d.prs,p.2=1)(ho:QC dss off):∀ds∈off,∀o∈ds,OfB m 9 1 1 o:=λos hos o hmo=>by
 have B:=acA hd ho os hos o hmo;obtain⟨k,ek⟩:=aV hos;have lk:k<dss.length:=by rw[<- ho.len];exact(ao.mp ek).1
 obtain⟨tl,_,rfl⟩:=ho.at_ k _ os (aj lk) ek;obtain⟨p,hp,rfl⟩:=YV.mp hmo;obtain⟨t1,t2,t3⟩:=ht _ (aU lk) p.2 (List.of_mem_zip hp).2;have lk:=hd.ok _ (aU lk) p.2 (List.of_mem_zip hp).2;have j:=Mv (q:=1) Nat.one_pos (m:=m) (ps:=p.2.prs) λx hx=>⟨lk.lt x hx,lk.nn x hx,by rw[t3 x hx];exact Nat.dvd_refl 1⟩;exact⟨t2,by show p.2.pay.den<=1;exact Nat.le_of_eq t1,⟨1,Nat.one_pos,aG _,j.dn⟩,B.nd,B.few,B.lt,B.nn,B.one⟩
open Rw (sg iT g8 cg jr jA Big)
theorem ac7{ws:List (Nat×Rat)}(nn:∀w∈ws,0<=w.2)(j:Nat):0<=rF ws j/\rF ws j<=Ib ws:=by
 induction ws with
 |nil=>exact⟨Rat.le_refl,Rat.le_refl⟩
 |cons w ws ih =>
  have:=nn w (aO ..);obtain⟨a,b⟩:=ih λx hx=>nn x (aJ _ hx);rw[Cj];show 0<=(if w.1=j then w.2 else 0)+rF ws j/\(if w.1=j then w.2 else 0)+rF ws j<=_;split<;>grind
theorem Za{q:Nat}(hq:0<q){ws:List (Nat×Rat)}(h:∀w∈ws,w.2.den ∣ q)(j:Nat):(rF ws j).den ∣ q:=by
 induction ws with
 |nil=>exact Nat.one_dvd _
 |cons w ws ih =>
  refine Gw hq ?_ (ih λx hx=>h x (aJ _ hx));split
  .exact h w (aO ..)
  .exact Nat.one_dvd _
abbrev qO(c:Option bQ):Nat:=cL 1 ((kE c).map (·.2))
def CoB(m PN PD CQ:Nat)(c:Option bQ):Prop:=∀o,c=some o->OfB m PN PD CQ o
theorem CoB.sh{s:Rat}{m PN PD CQ:Nat}{c:Option bQ}(h:CoB m PN PD CQ c):ShB s m (kE c):=by
 cases c with
 |none=>exact⟨λ_ z=>(nomatch z),λ_ z=>(nomatch z),by show(0:Rat)<=1;decide⟩
 |some o=>have b:=h o rfl;exact⟨b.lt,b.nn,b.one⟩
theorem ZS(c:Option bQ):0<qO c:=fP _ Nat.one_pos
theorem acZ{c:Option bQ}{w:Nat×Rat}(hw:w∈kE c):w.2.den ∣ qO c:=(gZ _).2 _ (YV.mpr ⟨w,hw,rfl⟩)
theorem CoB.q{m PN PD CQ:Nat}{c:Option bQ}(h:CoB m PN PD CQ c)(h1:1<=CQ):qO c<=CQ:=by
 cases c with
 |none=>exact h1
 |some o =>
  obtain⟨q,q0,q1,hq⟩:=(h o rfl).cq;refine aL (Nat.le_of_dvd q0 (pq _ (Nat.one_dvd _) λr hr=>?_)) q1;obtain⟨w,hw,rfl⟩:=YV.mp hr;exact hq w hw
theorem CoB.pd{m PN PD CQ:Nat}{c:Option bQ}(h:CoB m PN PD CQ c)(h1:1<=PD):(m5 c).den<=PD:=by
 cases c with
 |none=>exact h1
 |some o=>exact(h o rfl).pd
theorem CoB.pn{m PN PD CQ:Nat}{c:Option bQ}(h:CoB m PN PD CQ c):(m5 c).num.natAbs<=PN:=by
 cases c with
 |none=>exact aZ _
 |some o=>exact(h o rfl).pn
theorem Av:((1:Nat):Rat)=1:=rfl
theorem aeA{s:Rat}{m PN PD CQ:Nat}{cs:List (Option bQ)}{i j:Nat}(s0:0<=s)(s1:s<1)(h:CoB m PN PD CQ (cs.getD i none)):(eV s cs i j).den ∣ s.den*qO (cs.getD i none)/\(eV s cs i j).num.natAbs<=1*(eV s cs i j).den:=by
 have sh:=CoB.sh (s:=s) h;obtain⟨a,b⟩:=ac7 sh.nn j;have b1:=Rat.le_trans b sh.one;have c1:s*rF (kE (cs.getD i none)) j<=1:=by
  have:=Rat.mul_le_mul_of_nonneg_left b1 s0
  grind
 have c0:0<=s*rF (kE (cs.getD i none)) j:=Rat.mul_nonneg s0 a;have sd:=s.den_pos;have qp:=ZS (cs.getD i none);refine⟨?_,S5 ?_ ?_⟩
 .unfold eV;rw[Rat.sub_eq_add_neg];refine Gw (Nat.mul_pos sd qp) ?_ ?_
  .split<;>exact Nat.one_dvd _
  .rw[aaA];exact den_mul sd qp (Nat.dvd_refl _) (Za qp (λw hw=>acZ hw) j)
 .unfold eV;rw[Av];split<;>grind
 .unfold eV;rw[Av];split<;>grind
theorem ab8{s:Rat}{cs:List (Option bQ)}{PN PD CQ:Nat}(hs:Shr s)(few:cs.length<=100)(h:∀c∈cs,CoB cs.length PN PD CQ c)(h1:1<=PD)(h2:1<=CQ){N:Nat}(hN:N=(PN+1)*(100*CQ*PD))(mb:(2*cs.length*N)^cs.length<=NN)(nn:N<=NN):Sys (Ci (yZ s cs) (cs.map m5)) N:=by
 have gc:∀i,i<cs.length->CoB cs.length PN PD CQ (cs.getD i none):=λi hi=>h _ (by rw[au,aj hi];exact aU hi);have sd:=s.den_pos;have all:∀i,i<cs.length->∀c∈((List.range cs.length).map λj=>eV s cs i j)++[m5 (cs.getD i none)],c.den ∣ s.den*qO (cs.getD i none)*(m5 (cs.getD i none)).den/\c.num.natAbs<=(PN+1)*c.den:=λi hi c hc=>by
  rcases Y1.mp hc with z|z
  .obtain⟨j,_,rfl⟩:=YV.mp z;obtain⟨a,b⟩:=aeA (j:=j) hs.lo hs.hi (gc i hi);exact⟨Nat.dvd_trans a (Nat.dvd_mul_right _ _),aL b (Nat.mul_le_mul_right _ (Nat.le_add_left _ _))⟩
  .rw[YR.mp z];refine⟨Nat.dvd_mul_left _ _,?_⟩;have:=(gc i hi).pn;have:=(m5 (cs.getD i none)).den_pos;exact aL (show _<=(PN+1)*1 by lia) (Nat.mul_le_mul_left _ this)
 have qp:∀i,i<cs.length->0<s.den*qO (cs.getD i none)*(m5 (cs.getD i none)).den/\s.den*qO (cs.getD i none)*(m5 (cs.getD i none)).den<=100*CQ*PD:=λi hi =>
  ⟨Nat.mul_pos (Nat.mul_pos sd (ZS _)) (Rat.den_pos _),Nat.mul_le_mul (Nat.mul_le_mul hs.den ((gc i hi).q h2)) ((gc i hi).pd h1)⟩
 refine⟨λr hr=>?_,by rw[Bb];exact few,λr hr=>?_,λr hr c hm=>?_,?_,by rw[Bb];exact mb,nn,?_⟩
 .obtain⟨i,hi,rfl⟩:=Kw hr;rw[Bb,aA,ak,List.length_range];rfl
 .obtain⟨i,hi,rfl⟩:=Kw hr;obtain⟨a,b⟩:=qp i hi;exact(abd (Nat.le_add_left _ _) a (all i hi)).le (by rw[hN];exact Nat.mul_le_mul_left _ b)
 .obtain⟨i,hi,rfl⟩:=Kw hr;obtain⟨a,b⟩:=all i hi c hm;obtain⟨p,q⟩:=qp i hi;exact bdN (aL b (aL (Nat.mul_le_mul_left _ (aL (Nat.le_of_dvd p a) q)) (by rw[<- hN];exact nn)))
 .rw[hN];exact Nat.mul_pos (Nat.succ_pos _) (Nat.mul_pos (Nat.mul_pos (by decide) (aR (X0 _) h2)) (aR (X0 _) h1))
 .rw[Bb];exact λx h0 hx=>aaC hs.lo hs.hi (λi hi=>(gc i hi).sh) x h0 hx
theorem T7{s:Rat}(hs:Shr s):Rz 2 2 s:=by
 have a:=S5 (r:=s) (A:=1) (Rat.le_of_lt hs.hi) (by have:=hs.lo;rw[Av];grind);have:=hs.den;exact⟨aL a (by lia),this⟩
theorem Xz{m PN PD CQ:Nat}{o:bQ}(h:OfB m PN PD CQ o)(hc:CQ<=10^4){w:Nat×Rat}(hw:w∈o.ways):Rz 4 4 w.2:=by
 obtain⟨q,q0,q1,hq⟩:=h.cq;have d:=Nat.le_of_dvd q0 (hq w hw);have a:=S5 (r:=w.2) (A:=1) (h.le1 hw) (by have:=h.nn w hw;rw[Av];grind);exact⟨aL a (by lia),by lia⟩
theorem ahJ{m PN PD CQ:Nat}{off:List (List bQ)}{pl:List (Option Nat)}(ob:∀ds∈off,∀o∈ds,OfB m PN PD CQ o):∀c∈chO off pl,CoB m PN PD CQ c:=λc hc o eo=>by
 obtain⟨p,hp,rfl⟩:=YV.mp hc;cases e:p.1 with
 |none=>rw[e]at eo;cases eo
 |some d =>
  rw[e]at eo;have eo:(off.getD p.2 [])[d]?=some o:=eo;by_cases l:p.2<off.length
  .rw[au,aj l]at eo;exact ob _ (aU l) o (aC eo)
  .have:off[p.2]?=none:=aM (Nat.le_of_not_lt l);rw[au,this]at eo;cases eo
theorem ae0{s:Rat}{off:List (List bQ)}{PN PD CQ N:Nat}(hs:Shr s)(few:off.length<=100)(ob:∀ds∈off,∀o∈ds,OfB off.length PN PD CQ o)(h1:1<=PD)(h2:1<=CQ)(hc:CQ<=10^4)(hN:N=(PN+1)*(100*CQ*PD))(mb:(2*off.length*N)^off.length<=NN)(nn:N<=NN){pl:List (Option Nat)}(hp:PlT off pl):WoB s (chO off pl) N:=by
 have cl:=RK hp;have co:=ahJ (pl:=pl) ob;have sz:=T7 hs;refine⟨sz.bq (by decide) (by decide),λc hm=>?_,ab8 hs (aL (Nat.le_of_eq cl) few) (by rw[cl];exact co) h1 h2 hN (by rw[cl];exact mb) nn⟩;rw[cl];cases c with
 |none=>exact⟨.nil,aZ _,λ_ z=>(nomatch z),λ_ z=>(nomatch z)⟩
 |some o =>
  have b:=co _ hm o rfl;refine⟨b.nd,b.few,b.lt,λw hw=>?_⟩;have wz:=Xz b hc hw;exact⟨wz.bq (by decide) (by decide),sz.dd wz (by decide),(sz.mul wz).bq (by decide) (by decide)⟩
theorem Rq(rs:List Rat)(n M:Nat)(hM:0<M):(∀r∈rs,r.den<=M)->cL n rs<=n*M^rs.length:=by
 induction rs generalizing n with
 |nil=>intro _;show n<=n*1;lia
 |cons r rs ih =>
  intro h;have l1:Nat.lcm n r.den<=n*M:=aL (by unfold Nat.lcm;exact Nat.div_le_self _ _) (Nat.mul_le_mul_left _ (h r (aO ..)));refine aL (ih (Nat.lcm n r.den) λx hx=>h x (aJ _ hx)) ?_;rw[List.length_cons,Nat.pow_succ,Nat.mul_comm (M^rs.length),<- Nat.mul_assoc];exact Nat.mul_le_mul_right _ l1
theorem Uj{α:Type}(g:α->Int)(b:Nat):∀ws:List α,(∀w∈ws,(g w).natAbs<=b)->(ws.map g).sum.natAbs<=ws.length*b
 |[],_=>by simp
 |w::ws,h=>by
  have a:=h w (aO ..);have c:=Uj g b ws λx hx=>h x (aJ _ hx);rw[List.map_cons,List.sum_cons,List.length_cons,Nat.add_mul,Nat.one_mul];have:=Int.natAbs_add_le (g w) (ws.map g).sum;lia
theorem aew{s:Rat}{m PN PD CQ t b:Nat}{o:bQ}{tp:List Int}{B:Nat}(hs:Shr s)(h:OfB m PN PD CQ o)(hc:CQ<=10^4)(hn:PN<=10^30)(hp:PD<=10^3)(tl:tp.length=m)(ht:∀x∈tp,x.natAbs<=10^t)(hB:B<=10^b)(lt:t<=2000)(lb:b<=2000):LkB s o tp B/\Bq (pZ s tp B o):=by
 obtain⟨q,q0,q1,hq⟩:=h.cq;have lq:cL 1 (o.ways.map (·.2))<=10^4:=aL (Nat.le_of_dvd q0 (pq _ (Nat.one_dvd _) λr hr=>by
  obtain⟨w,hw,rfl⟩:=YV.mp hr;exact hq w hw)) (aL q1 hc)
 have lp:=fP (o.ways.map (·.2)) Nat.one_pos;have sz:=T7 hs;have pz:Rz 30 3 o.pay:=⟨aL h.pn hn,aL h.pd hp⟩;have bz:Rz b 0 (B:Rat):=⟨hB,aG 1⟩;have part:∀w∈o.ways,(w.2.num*((cL 1 (o.ways.map (·.2))/w.2.den:Nat):Int)).natAbs<=10^8:=λw hw=>by
  rw[Int.natAbs_mul,XT];exact aL (Nat.mul_le_mul (Xz h hc hw).1 (aL (Nat.div_le_self _ _) lq)) (by decide)
 have top:∀k,(tp.getD k 0).natAbs<=10^t:=λk=>by
  rw[au];cases e:tp[k]? with
  |none=>exact aZ _
  |some x=>exact ht x (aC e)
 have dz:Rz (t+11) 4 (Dr o.ways tp):=by
  rw[<- M8 lp tp o.ways λw hw=>(gZ _).2 _ (YV.mpr ⟨w,hw,rfl⟩)];refine R9 (by lia) ?_ (by rw[Int.toNat_natCast];exact lq);refine aL (Uj _ (10^8*10^t) o.ways λw hw=>?_) ?_
  .rw[Int.natAbs_mul];exact Nat.mul_le_mul (part w hw) (top w.1)
  .refine aL (Nat.mul_le_mul_right _ h.few) ?_;rw[show(1000:Nat)=10^3 from rfl,<- Nat.mul_assoc,<- Nat.pow_add,<- Nat.pow_add];exact XU (by decide) (by lia)
 have p1:=pz.mul bz;have p2:=sz.mul dz;refine⟨⟨⟨h.few,λw hw=>by rw[tl];exact h.lt w hw,λw hw=>((Xz h hc hw).bq (by decide) (by decide)).1,LR (n:=4) (by rw[XT];exact lq) (by decide),λx hx=>?_,λx hx=>LR (ht x hx) (aL lt (by decide))⟩,pz.bq (by decide) (by decide),sz.bq (by decide) (by decide),LR (n:=b) (by rw[XT];exact hB) (aL lb (by decide)),dz.bq (by lia) (by decide),sz.dd dz (by decide),p1.bq (by lia) (by decide),p2.bq (by lia) (by decide),p1.dd p2 (by decide)⟩,(p1.add p2 (k:=2100) (by lia) (by lia)).bq (by decide) (by decide)⟩;unfold tops at hx;rw[List.map_map]at hx;obtain⟨w,hw,rfl⟩:=YV.mp hx;exact LR (n:=8) (part w hw) (by decide)
theorem Yx{c:Nat}(hc:1<=c):∀{off:List (List bQ)},(∀ds∈off,ds.length<=c)->(rO off).length<=c^off.length
 |[],_=>aG 1
 |ds::off,h=>by
  have ih:=Yx hc (off:=off) λx hx=>h x (aJ _ hx);have l:∀(as:List (Option Nat)),((as.map λd=>(rO off).map λpl=>d::pl).flatten).length=as.length*(rO off).length:=λas=>by
   induction as with
   |nil=>simp
   |cons a as ih=>rw[List.map_cons,List.flatten_cons,aA,ak,ih,List.length_cons,Nat.add_mul,Nat.one_mul,Nat.add_comm]
  unfold rO;rw[l,List.length_cons,Nat.pow_succ,Nat.mul_comm];refine Nat.mul_le_mul ih ?_;split
  .exact hc
  .rw[ak,List.length_range];exact h ds (aO ..)
theorem Y_{s:Rat}{off:List (List bQ)}{PN PD CQ N e:Nat}(hs:Shr s)(few:off.length<=100)(ob:∀ds∈off,∀o∈ds,OfB off.length PN PD CQ o)(h1:1<=PD)(h2:1<=CQ)(hc:CQ<=10^4)(hn:PN<=10^30)(hp:PD<=10^3)(hN:N=(PN+1)*(100*CQ*PD))(mb:(2*off.length*N)^off.length<=10^e)(he:e<=600)(nn:N<=NN)(le:e+e*off.length<=2000)(pls:(rO off).length<sizeLine):MnB s off N:=by
 have mn:(2*off.length*N)^off.length<=NN:=aL mb (XU (by decide) he);refine⟨hs.lo,hs.hi,few,λds hds o ho=>let b:=ob ds hds o ho;⟨b.lt,b.nn,b.one⟩,λpl hpl=>ae0 hs few ob h1 h2 hc hN mn nn hpl,λys yl yb=>?_,pls⟩;have yn:∀r∈ys,r.num.natAbs<=10^e:=λr hr=>aL (yb r hr).n mb;have yd:∀r∈ys,r.den<=10^e:=λr hr=>aL (yb r hr).d mb;have lc:cL 1 ys<=10^(e*off.length):=by
  have:=Rq ys 1 (10^e) (Nat.pow_pos (by decide)) yd;rw[Nat.one_mul,yl,<- Nat.pow_mul]at this;exact this
 refine⟨by lia,λr hr=>LR (yn r hr) (aL he (by decide)),LR (n:=e*off.length) (by rw[XT];exact lc) (by lia),λds hds o ho=>aew (t:=e+e*off.length) (b:=e*off.length) hs (ob ds hds o ho) hc hn hp (by unfold tops;rw[ak];exact yl) (λx hx=>?_) lc (by omega) (by lia)⟩;obtain⟨r,hr,rfl⟩:=YV.mp hx;rw[Int.natAbs_mul,XT,Nat.pow_add];exact Nat.mul_le_mul (yn r hr) (aL (Nat.div_le_self _ _) lc)
theorem adb{m:Nat}(h:m<=6):(2*m*((10^30+1)*(100*4000*1000)))^m<=10^246:=by
 obtain rfl|rfl|rfl|rfl|rfl|rfl|rfl:m=0\/m=1\/m=2\/m=3\/m=4\/m=5\/m=6:=by lia
 all_goals decide +kernel
theorem aaP{m:Nat}(h:m<=8):(2*m*((9+1)*(100*1*1)))^m<=10^40:=by
 obtain rfl|rfl|rfl|rfl|rfl|rfl|rfl|rfl|rfl:m=0\/m=1\/m=2\/m=3\/m=4\/m=5\/m=6\/m=7\/m=8:=by lia
 all_goals decide +kernel
def Small(m:Nat)(dss:List (List LD)):Prop:=m<=6\/(m<=8/\∀ds∈dss,∀d∈ds,d.pay.den=1/\d.pay.num.natAbs<=9/\∀p∈d.prs,p.2=1)
theorem ab2{s:Rat}{m:Nat}{dss:List (List LD)}{off:List (List bQ)}(hs:Shr s)(hd:DSk m 4 dss)(sm:Small m dss)(ho:QC dss off):∃N,MnB s off N:=by
 have ol:off.length=m:=by rw[ho.len,hd.len]
 have fo:∀ds∈off,ds.length<=4:=λos hos=>by
  obtain⟨k,ek⟩:=aV hos;have lk:k<dss.length:=by rw[<- ho.len];exact(ao.mp ek).1
  obtain⟨tl,_,rfl⟩:=ho.at_ k _ os (aj lk) ek;have:=hd.few _ (aU lk);rw[ak,List.length_zip];lia
 have pl:=Yx (by decide:1<=4) fo;rcases sm with h|⟨h,ht⟩
 .have l:4^off.length<=4^8:=XU (by decide) (by lia);exact⟨_,Y_ (e:=246) hs (by lia) (by rw[ol];exact acA hd ho) (by decide) (by decide) (by decide) (by decide) (by decide) rfl (adb (aL (Nat.le_of_eq ol) h)) (by decide) (by decide +kernel) (by have:246*off.length<=246*6:=Nat.mul_le_mul_left _ (aL (Nat.le_of_eq ol) h);lia) (Y3 (aL pl l) (by decide))⟩
 .have l:4^off.length<=4^8:=XU (by decide) (aL (Nat.le_of_eq ol) h);exact⟨_,Y_ (e:=40) hs (by lia) (by rw[ol];exact X6 hd ht ho) (by decide) (by decide) (by decide) (by decide) (by decide) rfl (aaP (aL (Nat.le_of_eq ol) h)) (by decide) (by decide +kernel) (by have:40*off.length<=40*8:=Nat.mul_le_mul_left _ (aL (Nat.le_of_eq ol) h);lia) (Y3 (aL pl l) (by decide))⟩
def Rb:ST:=λts q=>∃ns:List Int,ts=[scT ns]/\ns.length<=63/\∀(m:Nat)(dss:List (List LD))(x:OT),frz x=Jc dss->DSk m 4 dss->Small m dss->(strm (ns.getD 0 0) 0%8=3->∀ds∈dss,ds.length=2)->q x
theorem YQ(F:Fun K Al Al K5 f fd)(T:Txt K mg D)(gU:OkT P w K mg base 1 tX tU Ay)(cG:OkT P w K mg base 1 fj eZ gB)(yw:OkT P w K mg base 2 qw qD CW)(Sh:OkT P w K mg base 2 Em Eo st_size)(Nx:OkT P w K mg base 5 zR Aw Qu):b_ P w K mg base CX0 6 f fd zH (spT K Rb):=by
 refine F.okT Ou (λts R hP=>by obtain⟨_,e,_⟩:=hP;exact e ▸ rfl) λcdv A outer s H E hr=>?_;refine⟨_,(bF (bO 1 Ou.nd (Or.inl rfl) (bI cG hr.md (by rfl) (bx (bI gU hr.md (by rfl) (bx (qv 0) (bx bA bC))) (bx bA bC))))
  (bF (cB (bZ (go_eq hr.units) (bL cA (bJ (qv 1) bA) bA) bA)
  (bG (bN (bI yw hr.md (by rfl) (bx (bI gU hr.md (by rfl) (bx (qv 0) (bx bA bC))) (bx (bL cN bA (bL cA (bJ (qv 1) bA) bA)) bC)))))
  bR)
  (bG (bN (bI Nx hr.md (by rfl) (bx (qv 0) (bx bA (bx (bI Sh hr.md (by rfl) (bx (bI gU hr.md (by rfl) (bx (qv 0) (bx bA bC))) bC)) (bx bA bC))))))))),?_⟩
 rintro _ R ⟨ns,rfl,nl,q⟩;have s1:=iC (ns.getD 0 0) 1;refine⟨ns,0,rfl,by exact aL nl (by decide),_,2,rfl,by decide,_,dJ (k:=0) (by decide),by decide,swD (λh=>?_) λh=>?_⟩
 .refine⟨ns,5,rfl,by exact aL nl (by decide),_,dJ (k:=1) (by decide),by decide,?_⟩;obtain⟨m,em,m7⟩ : ∃m:Nat,4+strm (ns.getD 0 0) 1%5=((m+1:Nat):Int)/\m<=7:=⟨(3+strm (ns.getD 0 0) 1%5).toNat,by lia,by lia⟩;exact⟨_,m,by rw[<- em];rfl,by exact Y3 m7 (by decide),λdss hd h2 ht=>q (m+1) dss _ rfl hd (.inr ⟨by exact Nat.succ_le_succ m7,ht⟩) λ_=>h2⟩
 .refine⟨ns,0,rfl,by exact aL nl (by decide),_,rfl,λm hm=>⟨ns,5,m,4,rfl,by exact aL nl (by decide),by exact aL hm (by decide),by decide,λdss hd=>q m dss _ (abA dss) hd (.inl hm) λz=>absurd z h⟩⟩
def QH:ST:=λts q=>∃(ns:List Int)(dss:List (List LD)),ts=[scT ns,Jc dss]/\ns.length<=63/\dss.length<=100/\(strm (ns.getD 0 0) 0%8=3->∀ds∈dss,ds.length=2)/\∀pl:List (Option Nat),PlD dss pl->q (.l1 (pl.map dT))
theorem Wz(F:Fun K Bo Bo Eu f fd)(T:Txt K mg D)(gU:OkT P w K mg base 1 tX tU Ay)(cG:OkT P w K mg base 1 fj eZ gB)(Hi:OkT P w K mg base 2 xq wZ Js):b_ P w K mg base CX0 3 f fd Bh (spT K QH):=by
 refine F.okT Y4 (λts R hP=>by obtain⟨_,_,e,_⟩:=hP;exact e ▸ rfl) λcdv A outer s H E hr=>?_;refine⟨_,(bF (cB (QW.qt (NT (bZ (go_eq hr.units) (bL cA (bJ (bI cG hr.md (by rfl) (bx (bI gU hr.md (by rfl) (bx (qv 0) (bx bA bC))) (bx bA bC))) bA) bA) bA) (Fd (bZ (go_eq hr.units) (bL cA (bI gU hr.md (by rfl) (bx (qv 0) (bx bA bC))) bA) bA))))
  (bG (bN (dG (bH Eu) Ls Ls ["_law_doors_here"] (cH (qv 1)) (fu (i:=0)) cD bA)))
  bR)
  (bG (bN (bI Hi hr.md (by rfl) (bx (bI gU hr.md (by rfl) (bx (qv 0) (bx bA bC))) (bx (qv 1) bC)))))),?_⟩
 rintro _ R ⟨ns,dss,rfl,nl,dl,h2,q⟩;refine sq1 (λo=>o=[.fz (scT ns),.fz (Jc dss)]) ?_ λY go=>?_
 .rintro _ rfl;exact⟨ns,3,rfl,by exact aL nl (by decide),_,dss,rfl,dl,q⟩
 .refine⟨ns,0,rfl,by exact aL nl (by decide),_,1,rfl,by decide,_,dJ (k:=0) (by decide),by decide,swD (λh=>⟨ns,3,rfl,by exact aL nl (by decide),by decide,swD (λh3=>?_) λ_=>go _ rfl⟩) λ_=>go _ rfl⟩;refine⟨by rw[ak];exact aL dl (by decide),comp_map (λds=>L2.T.lst (ds.map ldT)) (λ_=>.int 0) dss (λds _ N M hN=>hN) ?_⟩;have e:dss.map (λ_=>L2.T.int 0)=(dss.map λ_=>some 0).map dT:=by rw[List.map_map];rfl
  rw[e];refine q _ ⟨ak ..,λk d ds e1 e2=>?_⟩;rw[aq,e2]at e1;cases e1;have:=h2 h ds (aC e2);exact Zs (by lia)
theorem ahF(neg:Bool)(a b:Option Nat){q:OT->Prop}(h:q (.fz (.bl (xr neg (decide (a=b)))))):gEq neg (dT a) (dT b) q:=by
 cases a with
 |none=>cases b<;>exact h
 |some a =>
  cases b with
  |none=>exact h
  |some b =>
   show q (.fz (.bl (xr neg (decide ((a:Int)=(b:Int))))));rw[show decide ((a:Int)=(b:Int))=decide (some a=some b)from decide_eq_decide.mpr ⟨λz=>by rw[Int.ofNat.inj z],λz=>by rw[Option.some.inj z]⟩];exact h
def Q9:ST:=λts q=>∃(m:Nat)(p r:PWs),ts=[pwT p,pwT r]/\m<=100/\p.1.length=m/\r.1.length=m/\p.2.length=m/\r.2.length=m/\(∀x∈p.2,Bq x)/\(∀x∈r.2,Bq x)/\(∀i,i<m->p.2.getD i 0<=r.2.getD i 0)/\(∀i,i<m->r.1[i]?≠p.1[i]?->p.2.getD i 0<r.2.getD i 0)/\r.1≠p.1/\q (.fz (.bl true))
theorem Xd(F:Fun K Bu Bu Mx f fd)(T:Txt K mg D)(Ej:OkT P w K mg base 1 zG Bm Pq):b_ P w K mg base CX0 2 f fd Bf (spT K Q9):=by
 refine F.okT mJ (λts R hP=>by obtain⟨_,_,_,e,_⟩:=hP;exact e ▸ rfl) λcdv A outer s H E hr=>?_;refine⟨_,(bF (G7 (qv 0) (fJ (n:=2) rfl (bU (bY (n:=99) 4 mJ.nd (Or.inl rfl)) (bU (bY (n:=99) 5 mJ.nd (Or.inl rfl)) dI))))
  (bF (G7 (qv 1) (fJ (n:=2) rfl (bU (bY (n:=99) 6 mJ.nd (Or.inl rfl)) (bU (bY (n:=99) 7 mJ.nd (Or.inl rfl)) dI))))
  (bF (bO 2 mJ.nd (Or.inl rfl) bA)
  (bF (dM PassesOwn.never rfl (dB (by rfl) T.d9 (bx (bT cU (by rfl) T.dU PySem.boot_len (bx (qv 4) bC)) bC)) (bY (n:=99) 3 mJ.nd (Or.inl rfl))
  (bF (cB (cT (bI Ej hr.md (by rfl) (bx (bJ (qv 7) (qv 3)) (bx (bJ (qv 5) (qv 3)) bC))))
  (bG (bN pI))
  bR)
  (bG (cB (bZ (lA hr.units) (bJ (qv 4) (qv 3)) (bJ (qv 6) (qv 3)))
  (bF (bO 2 mJ.nd (Or.inl rfl) (bL cN (qv 2) bA))
  (bG (cB (dO (cT (bI Ej hr.md (by rfl) (bx (bJ (qv 5) (qv 3)) (bx (bJ (qv 7) (qv 3)) bC)))))
  (bG (bN pI))
  bR)))
  bR))))
  (bG (bN (oV Jy (qv 2) bA))))))),?_⟩
 rintro _ R ⟨m,p,r,rfl,m1,l1,l2,l3,l4,b1,b2,up,st,ne,q⟩;have pm:(p.1.map dT).length=m:=by rw[ak,l1]
 refine⟨rfl,rfl,⟨by rw[pm];lia,by rw[pm];lia⟩,mO (λk o=>∃(c:Nat)(x:OT),o=[.fz (pwT p),.fz (pwT r),.fz (.int (c:Nat)),x,.fz (.lst (p.1.map dT)),.fz (.lst (p.2.map frR)),.fz (.lst (r.1.map dT)),.fz (.lst (r.2.map frR))]/\((∃i,i<k/\r.1[i]?≠p.1[i]?)->0<c)) ⟨0,.und,rfl,λhP=>by obtain⟨i,z,_⟩:=hP;exact absurd z (WZ _)⟩ ?_ ?_⟩
 .rintro k _ hk ⟨c,x,rfl,h⟩;have hk:k<m:=by rw[pm]at hk;lia
  have g2:∀{xs:List Rat},xs.length=m->xs[k]?=some (xs.getD k 0):=λ{xs}l=>by rw[au,aj (by lia)];rfl
  have e5:=g2 l3;have e7:=g2 l4;have e4:=aj (show k<p.1.length by lia);have e6:=aj (show k<r.1.length by lia);have q5:=b1 _ (aC e5);have q7:=b2 _ (aC e7);refine⟨_,dF e7,_,dF e5,_,_,rfl,q7,q5,swF (Zp (Rat.not_lt.mpr (up k hk))) ⟨_,dF e4,_,dF e6,ahF true _ _ ?_⟩⟩;by_cases z:p.1[k]=r.1[k]
  .refine swF (by rw[Zs z];rfl) ⟨c,.fz (.int (k:Nat)),rfl,λ⟨i,hi,hn⟩=>h ⟨i,?_,hn⟩⟩;by_cases w:i=k
   .subst w;rw[e4,e6,z]at hn;exact absurd rfl hn
   .exact XX (Nat.le_of_lt_succ hi) w
  .refine swT (by rw[Zp z];rfl) ⟨_,dF e5,_,dF e7,_,_,rfl,q5,q7,swF ?_ ⟨c+1,.fz (.int (k:Nat)),rfl,λ_=>Nat.succ_pos _⟩⟩;rw[Zs (st k hk (by rw[e4,e6];exact λw=>z (Option.some.inj w).symm))]
   rfl
 .rintro _ ⟨c,x,rfl,h⟩;have hc:0<c:=h (by
   refine Classical.byContradiction λz=>ne (List.ext_getElem? λi=>?_);by_cases hi:i<m
   .exact Classical.byContradiction λw=>z ⟨i,by rw[pm];lia,w⟩
   .rw[aM (by lia),aM (by lia)])
  rw[show true=decide ((0:Int)<(c:Nat))from(Zs (by lia)).symm]at q;exact q
theorem aat{dss:List (List LD)}{off:List (List bQ)}(ho:QC dss off){pl:List (Option Nat)}(h:PlD dss pl):PlT off pl:=by
 refine⟨by rw[h.len,ho.len],λk d os e1 e2=>?_⟩;have lk:k<dss.length:=by rw[<- ho.len];exact(ao.mp e2).1
 have ek:=aj lk;obtain⟨tl,tll,rfl⟩:=ho.at_ k _ os ek e2;have:=h.ok k d _ e1 ek;rw[ak,List.length_zip,tll,Nat.min_self];exact this
def W0:ST:=λts q=>∃ns:List Int,ts=[scT ns]/\ns.length<=63/\q (.fz (.bl true))
theorem ad3(F:Fun K Lq Lq Pb f fd)(T:Txt K mg D)(gU:OkT P w K mg base 1 tX tU Ay)(K7:OkT P w K mg base 3 Ar z6 Q_)(Kd:OkT P w K mg base 6 Al zH Rb)(RN:OkT P w K mg base 9 El Eb (U0 D))(M_:OkT P w K mg base 3 Bo Bh QH)(yV:OkT P w K mg base 10 pX qm (CV D))(sS:OkT P w K mg base 3 lN lR xV)(K1:OkT P w K mg base 2 Bu Bf Q9):b_ P w K mg base CX0 11 f fd RQ (spT K W0):=by
 refine F.okT uh (λts R hP=>by obtain⟨_,e,_⟩:=hP;exact e ▸ rfl) λcdv A outer s H E hr=>?_;refine⟨_,(bF (bO 1 uh.nd (Or.inl rfl) (bI K7 hr.md (by rfl) (bx (bI gU hr.md (by rfl) (bx (qv 0) (bx bA bC))) bC)))
  (bF (bO 2 uh.nd (Or.inl rfl) (bI Kd hr.md (by rfl) (bx (qv 0) bC)))
  (bF (bO 3 uh.nd (Or.inl rfl) (bT cU (by rfl) T.dU PySem.boot_len (bx (qv 2) bC)))
  (bF (bO 4 uh.nd (Or.inl rfl) (bI RN hr.md (by rfl) (bx (bI gU hr.md (by rfl) (bx (qv 0) (bx bA bC))) (bx (qv 1) (bx (qv 2) bC)))))
  (bF (bO 5 uh.nd (Or.inl rfl) (bI M_ hr.md (by rfl) (bx (qv 0) (bx (qv 2) bC))))
  (bF (bO 6 uh.nd (Or.inr rfl) (bI yV hr.md (by rfl) (bx (qv 4) (bx (rW Ez (by rfl) T.v8 boot_list (bx (qv 5) bC)) bC))))
  (bF (cB (QW.qt (iM (dO (cT (mX .list (qv 6) (by rfl) T.cX (by rfl) T.v8 boot_list))) (fW (bZ vQ (bT cU (by rfl) T.dU PySem.boot_len (bx (qv 6) bC)) bA))))
  (bG (bN pI))
  bR)
  (bF (dM PassesOwn.never rfl (cH (qv 6)) (bY (n:=99) 7 uh.nd (Or.inl rfl))
  (bF (cB (QW.qt (iM (dO (cT (mX .tuple (qv 7) (by rfl) T.cX (by rfl) T.J9 boot_tuple))) (iM (bZ (lA hr.units) (bT cU (by rfl) T.dU PySem.boot_len (bx (qv 7) bC)) bA) (fW (dO (cT (bI sS hr.md (by rfl) (bx (bJ (qv 7) bA) (bx (qv 3) bC)))))))))
  (bG (bN pI))
  bR)
  (bG (cB (QW.qt (iM (dO (cT (mX .list (bJ (qv 7) bA) (by rfl) T.cX (by rfl) T.v8 boot_list))) (fW (bZ (lA hr.units) (bT cU (by rfl) T.dU PySem.boot_len (bx (bJ (qv 7) bA) bC)) (qv 3)))))
  (bG (bN pI))
  bR))))
  (bF (dM PassesOwn.never rfl (BZ (by rfl) T.d9 (bx bA (bx (bT cU (by rfl) T.dU PySem.boot_len (bx (qv 6) bC)) bC))) (bY (n:=99) 8 uh.nd (Or.inr rfl))
  (bF (cB (dO (cT (bI K1 hr.md (by rfl) (bx (bJ (qv 6) (bL qY (qv 8) bA)) (bx (bJ (qv 6) (qv 8)) bC)))))
  (bG (bN pI))
  bR)
  (bG (cB (cT (bT (adP rfl) (by rfl) T.ajx boot_any (bx (dG (bH Pb) WY WY ["_law_j"] (dB (by rfl) T.d9 (bx (qv 8) bC)) (fu (i:=0)) cD (oV (go_eq hr.units) (bJ (bJ (qv 7) (qv 0)) bA) (bJ (bJ (qv 7) (qv 9)) bA))) bC)))
  (bG (bN pI))
  bR))))
  (bG (bN (oV (go_eq hr.units) (bJ (bJ (qv 6) bA) bA) (qv 5))))))))))))),?_⟩
 rintro _ R ⟨ns,rfl,nl,q⟩;refine⟨ns,2,rfl,by exact aL nl (by decide),_,rfl,λs hs=>⟨ns,rfl,nl,λm dss x ex hd sm h2=>?_⟩⟩;dsimp only;rw[ex];have m8:m<=8:=by rcases sm with z|z;exact aL z (by decide);exact z.1
 have dl:(dss.map λds=>L2.T.lst (ds.map ldT)).length=m:=by rw[ak,hd.len]
 refine⟨ns,1,rfl,by exact aL nl (by decide),_,s,m,4,dss,rfl,hs,hd,by exact aL m8 (by decide),by decide,λnm off hn hok ho=>?_⟩;refine⟨ns,dss,rfl,nl,by have:=hd.len;lia,h2,λpl hpl=>?_⟩;obtain⟨N,B⟩:=ab2 hs hd sm ho;have hp:=aat ho hpl;have ol:off.length=m:=by rw[ho.len,hd.len]
 refine⟨s,nm,off,pl,N,rfl,hok,hp,B,λps hm=>?_⟩;have pn:0<ps.length:=Nat.pos_of_ne_zero λz=>hm.ne (List.length_eq_zero_iff.mp z);have pc:ps.length<2^24:=Y3 (hm.told.len B) B.pls;have bq:∀p∈ps,∀x∈p.2,Bq x:=λp hpm x hx=>by
  have me:=B.me p.2 (hm.told.ok p hpm).2.1.1 (hm.told.ok p hpm).2.2;exact⟨me.num x hx,Lw me.lcm (Nat.le_of_dvd (fP _ Nat.one_pos) ((gZ _).2 x hx))⟩
 generalize(2*off.length*N)^off.length=M at hm;refine swF (Zp (by rw[ak];lia)) ?_;refine gk pwT ps (λ_ o=>∃x,o=[.fz (scT ns),.fz (frR s),.fz (Jc dss),.fz (.int ((dss.map λds=>L2.T.lst (ds.map ldT)).length:Nat)),.fz (hlT D s nm off),.fz (.lst (pl.map dT)),.fz (.lst (ps.map pwT)),x,.und]) ⟨_,rfl⟩ ?_ ?_
 .rintro as p bs _ e ⟨x,rfl⟩;have pm:p∈ps:=by rw[e];simp
  obtain⟨k1,k2,_⟩:=hm.told.ok p pm;have l1:p.1.length=m:=by rw[k1.len,ol]
  have l2:p.2.length=m:=by rw[k2.1,ol]
  refine⟨p.2,_,rfl,by rw[dl];exact l2,by rw[dl];exact aL m8 (by decide),swF ?_ ⟨_,rfl⟩⟩;show xr true (decide ((((p.1.map dT).length:Nat):Int)=((dss.map λds=>L2.T.lst (ds.map ldT)).length:Nat)))=false;rw[dl,ak,l1,Zs rfl]
  rfl
 .rintro _ ⟨x,rfl⟩;refine⟨⟨by decide,by decide,by rw[ak];lia,by rw[ak];lia⟩,?_⟩;show uq _ _ _ (rng 1 ((((ps.map pwT).length:Nat):Int)-1).toNat) _;rw[show((((ps.map pwT).length:Nat):Int)-1).toNat=ps.length-1 by rw[ak];lia];refine gk (λk:Nat=>L2.T.int ((1:Int)+k)) (List.range (ps.length-1)) (λ_ o=>∃x y,o=[.fz (scT ns),.fz (frR s),.fz (Jc dss),.fz (.int ((dss.map λds=>L2.T.lst (ds.map ldT)).length:Nat)),.fz (hlT D s nm off),.fz (.lst (pl.map dT)),.fz (.lst (ps.map pwT)),x,y]) ⟨_,_,rfl⟩ ?_ ?_
  .rintro as k bs _ e ⟨x,y,rfl⟩;have hk:k<ps.length-1:=List.mem_range.mp (by rw[e];simp);have ek:=aj (show k<ps.length by exact aR hk (Nat.sub_le _ _));have ek1:=aj (show k+1<ps.length by lia);have c1:(1:Int)+(k:Nat)-1=(k:Nat):=by lia
   have c2:(1:Int)+(k:Nat)=((k+1:Nat):Int):=by lia
   have i1:ixT (ps.map pwT) ((1:Int)+(k:Nat)-1)=some (pwT ps[k]):=by rw[c1];exact dF ek
   have i2:ixT (ps.map pwT) ((1:Int)+(k:Nat))=some (pwT ps[k+1]):=by rw[c2];exact dF ek1
   obtain⟨a1,a2,_⟩:=hm.told.ok _ (aU (show k<ps.length by exact aR hk (Nat.sub_le _ _)));obtain⟨b1,b2,_⟩:=hm.told.ok _ (aU (show k+1<ps.length by lia));obtain⟨u,un⟩:=hm.told.up k _ _ ek ek1;obtain⟨r1,r2⟩:=rise (z:=λj=>ps[k+1].2.getD j 0) B.s0 B.s1 B.sh a1 u a2.2 b2.2;refine⟨_,i1,_,i2,m,ps[k],ps[k+1],rfl,by exact aL m8 (by decide),by rw[a1.len,ol],by rw[b1.len,ol],by rw[a2.1,ol],by rw[b2.1,ol],bq _ (aU _),bq _ (aU _),by rw[<- ol];exact r1,by rw[<- ol];exact r2,un,?_⟩;refine⟨⟨by lia,by lia⟩,by rw[rng,ak,List.length_range];exact aL (show _<=2^24 by lia) (by decide),?_⟩;show iK _ _ _ _ (rng 0 ((1:Int)+(k:Nat)).toNat) _;rw[show((1:Int)+(k:Nat)).toNat=k+1 by lia];refine JT (λ_=>.bl false) (k+1) (λj hj N M hN=>?_) ⟨(List.range (k+1)).map λ_=>false,by rw[List.map_map];rfl,?_⟩
   .have ej:=aj (show j<ps.length by lia);refine⟨_,dF ej,_,i2,?_⟩;dsimp only[rC,frz];refine adQ (t:=.lst (ps[k+1].1.map dT)) ?_;refine GP.gEq ?_;rw[Zp (hm.told.ne B (show j<k+1 by omega) ej ek1)];exact hN
   .exact swF (by simp) ⟨_,_,rfl⟩
  .rintro _ ⟨x,y,rfl⟩;have e0:=aj pn;refine⟨_,dF (k:=0) e0,?_⟩;dsimp only[rC,frz];refine adQ (t:=.lst (ps[0].1.map dT)) ?_;refine GP.gEq ?_;rw[Zs (hm.told.hd _ e0)];exact q
end
theorem adK{K:Frag}{vs:Ζ}{H:Hp}{Q:VK}{E:XK}(h:Uu K vs H Q E):spT K W0 vs H Q E:=by
 obtain⟨a,ns,rfl,hs,hl,_,hQ⟩:=h;refine⟨[scT ns],λx=>x=.fz (.bl true),.cons (.scr hs (Ck ns)) .nil,⟨ns,rfl,hl,rfl⟩,?_⟩;rintro H' v _ rfl _ ⟨B,_,_,u,e,r⟩;cases e;cases r;exact hQ H'
theorem law_fn{l:PySem.W.OpenLaw}{w:World}{K:Frag}{mg:Str->Ω}(T0:∃D,Txt K mg D)(base:Heap)(f:Addr)(fd:FuncData)(F:Fun K Lq Lq Pb f fd) :
  b_ l.prog w K mg base CX0 11 f fd RQ (Uu K):=by
 obtain⟨D,T⟩:=T0;have o {k:Nat}{n:Str}{st:Stmt}{ps:Φ}{sp:Sp} (h:cJ K mg n st ps) (g:∀f fd,Fun K n n st f fd->b_ l.prog w K mg base CX0 k f fd ps sp):OkF l.prog w K mg base k n ps sp:=h.ok g;have i {k:Nat}{n m:Str}{st:Stmt}{ps:Φ}{f:Addr}{sp:Sp} (h:yL K n m st ps f) (g:∀fd,Fun K n m st f fd->b_ l.prog w K mg base CX0 k f fd ps sp):OkI l.prog w K mg base CX0 k f ps sp:=h.ok g;have dg:=o T.RM λ_ _ F=>QM F T;have dN:=o T.Vv λ_ _ F=>RB F T;have dH:=o T.aax λ_ _ F=>Yj F T dg dN;have Cu:=o T.aeY λ_ _ F=>ZX dH F;have nU:=o T.aac λ_ _ F=>ZF dH F;have sG:=o T.abT λ_ _ F=>Xp dH F;have Ti:=o T.adT λ_ _ F=>aau dH F;have gG:=o T.abR λ_ _ F=>Yv F;have fZ:=o T.Ss λ_ _ F=>O6 F T dg dN;have ju:=o T.abM λ_ _ F=>Yl F dN;have iB:=o T.Vh λ_ _ F=>S7 F T;have iw:=o T.KN λ_ _ F=>IW F iB fZ;have dY:=o T.zP λ_ _ F=>yp F iB;have fL:=o T.Fi λ_ _ F=>Dw F T fZ gG;have Km:=o T.f_total λ_ _ F=>Yo F T ju dH;have qT:=o T.I_ λ_ _ F=>Gu F T dY fL Km;have qR:=o T.HJ λ_ _ F=>FW F T Cu;have jE:=i T.J0 λ_ F=>Nf F T iw;have uV:=i T.J6 λ_ F=>K8 F T jE dY;have d7:=i T.HB λ_ F=>Iw F T jE qT qR;have uR:=i T.KC λ_ F=>Kg F T iw fL nU d7;have vP:=i T.J5 λ_ F=>M4 F T d7;have vJ:=i T.Kv λ_ F=>Mt F T;have rJ:=o T.Ik λ_ _ F=>Gm F T fZ gG;have sy:=o T.Ku λ_ _ F=>Jb F T iB;have mY:=o T.Dz λ_ _ F=>CG F T vJ;have vL:=o T.Qp λ_ _ F=>Nt F T mY;have vI:=i T.Kz λ_ F=>K6 F T rJ sy vL;have jD:=i T.Nk λ_ F=>MF F T;have kW:=i T.yR λ_ F=>H_ F T dg jD;have dX:=i T.Hs λ_ F=>V3 F T kW;have rP:=o T.Yg λ_ _ F=>Wm F dN;have wN:=o T.O2 λ_ _ F=>Lf F T rP;have yM:=o T.Sd λ_ _ F=>N_ F T dN rP;have vR:=o T.Pu λ_ _ F=>Lz F T wN yM;have jC:=o T.Oa λ_ _ F=>Mf F dH;have oZ:=o T.Gi λ_ _ F=>DG F dH;have tL:=o T.Nr λ_ _ F=>Iv F T;have tR:=o T.aah λ_ _ F=>W_ F vR;have v9:=o T.Ph λ_ _ F=>Kq F T tR jC Ti;have o_:=o T.FN λ_ _ F=>Dp F T tR jC nU;have Ca:=o T.Vg λ_ _ F=>R5 F T ju tL v9 o_ oZ;have yE:=o T.SJ λ_ _ F=>Ol F T;have q_:=o T.Iu λ_ _ F=>Hy F T;have vB:=o T.QD λ_ _ F=>NP F T;have Cq:=o T.V8 λ_ _ F=>Tc F T;have uO:=o T.Rf λ_ _ F=>Mw F T;have qJ:=o T.Ja λ_ _ F=>Ho F T yE q_ Ca vB Cq uO;have rE:=o T.Jd λ_ _ F=>G_ F T;have Ry:=o T.adH λ_ _ F=>aar F T dg;have d_:=o T.Lh λ_ _ F=>IV F T Ry jD dX;have oU:=o T.Gk λ_ _ F=>DN F T dX;have vY:=o T.O_ λ_ _ F=>Mq F T rE nU sG;have vq:=o T.Og λ_ _ F=>Lr F T d_ oU vY qJ;have qM:=o T.I8 λ_ _ F=>Gd F T ju dH;have yP:=o T.R8 λ_ _ F=>Pr F T gG;have qH:=o T.Ii λ_ _ F=>Fj F T qM Cu sG;have qK:=o T.Io λ_ _ F=>G6 F T yP gG;have Hg:=o T.Yq λ_ _ F=>Wr F T d_ ju qH qK dX;have yV:=o T.RG λ_ _ F=>QB F T d_ vq Hg;have gU:=o T.adG λ_ _ F=>aav F;have cG:=o T.Zb λ_ _ F=>VJ F T;have Jv:=o T.aho λ_ _ F=>aeI F T;have gR:=o T.Xf λ_ _ F=>VF F Jv;have vA:=o T.PL λ_ _ F=>Nv F T Jv;have sS:=o T.NK λ_ _ F=>I9 F T vA;have Ej:=o T.abb λ_ _ F=>Xy F;have Ei:=o T.abw λ_ _ F=>X_ F T cG;have K7:=o T.aaS λ_ _ F=>Yp F T cG gR;have YD:=o T.afi λ_ _ F=>adF F T gR;have Sh:=o T.aeb λ_ _ F=>aaz F T cG;have Tn:=o T.adW λ_ _ F=>aal F T cG gR YD;have Nx:=o T.aam λ_ _ F=>Y8 F T gU cG Tn;have Mz:=o T.aaK λ_ _ F=>Xl F T uV d7 uR vP;have RN:=o T.aeo λ_ _ F=>abu F T Ei Mz vI;have yw:=o T.RJ λ_ _ F=>OD F T cG;have Hi:=o T.Xj λ_ _ F=>V5 F T cG;have Kd:=o T.aa4 λ_ _ F=>YQ F T gU cG yw Sh Nx;have M_:=o T.ab5 λ_ _ F=>Wz F T gU cG Hi;have K1:=o T.abo λ_ _ F=>Xd F T Ej;exact(ad3 F T gU K7 Kd RN M_ yV sS K1).imp λ_ _ _ _ h=>adK h
end K27
end
open PySem PySem.W PyProof.Rows
set_option maxRecDepth 100000 in
set_option maxHeartbeats 0 in
theorem PySem.Challenge.cw_chancehall_k27_whole_rising_holds : PySem.Challenge.rw_chancehall_k27_whole_rising.Holds := by
 w_on
 refine holds_law H27.wsd λsaid=>?_;refine holds_open (q:=H27.qv) (loose:=[]) (XP:=XL H27.qv []) (YP:=InK H27.KH) H27.left (InK.of H27.asK) InK.keeps H27.hX XL.keeps (by rfl) (by rfl) (by rfl) H27.hR (by rfl) said (by decide +kernel) ⟨rfl,rfl,rfl,rfl,rfl,by decide +kernel⟩ ?hw ?hc
 (case hw=>w_witness2)
 k_fill
 refine L2.aje (l:=PySem.Challenge.rw_chancehall_k27_whole_rising) (k:=11) (x := "_law_script") rfl rfl ⟨rfl,by decide,by decide⟩ (λw h Y=>(show(H27.KH w.params).In h from Y)) ?F
 case F =>
  intro w mg fa h KX G hmg;refine⟨K27.Pb,?_,λbase f fd F=>K27.law_fn ?T base f fd F⟩
  .exact L2.q_f 1 λ_ _ _ _ _ _ _=>rfl
  case T =>
   refine⟨⟨443,464,483,502,519,604,135,136,426,433,461,480,499,516,561,568,589,601⟩,⟨L2.q_c,L2.q_c,L2.q_c,L2.q_c,L2.q_c,L2.q_c,L2.q_c,L2.q_c,L2.q_g,L2.q_t,L2.q_t,L2.q_4,L2.q_m,L2.q_n,L2.q_n,L2.q_n,L2.q_n,L2.q_n,L2.q_n,L2.q_M,L2.q_4,L2.q_m,L2.q_n,L2.q_n,L2.q_n,L2.q_n,L2.q_n,L2.q_n,L2.q_M,L2.q_4,L2.q_m,L2.q_n,L2.q_n,L2.q_n,L2.q_n,L2.q_n,L2.q_n,L2.q_M,L2.q_4,L2.q_m,L2.q_n,L2.q_n,L2.q_n,L2.q_n,L2.q_n,L2.q_n,L2.q_M,L2.q_4,L2.q_m,L2.q_n,L2.q_n,L2.q_n,L2.q_n,L2.q_n,L2.q_n,L2.q_M,L2.q_4,L2.q_m,L2.q_m,L2.q_m,L2.q_n,L2.q_n,L2.q_n,L2.q_n,L2.q_n,L2.q_n,L2.q_B,L2.q_h 3 λ_ _ _ _ _ _ _ _ _=>rfl,L2.q_h 1 λ_ _ _ _ _ _ _=>rfl,L2.q_h 4 λ_ _ _ _ _ _ _ _ _ _=>rfl,L2.q_B,L2.q_h 4 λ_ _ _ _ _ _ _ _ _ _=>rfl,L2.q_h 6 λ_ _ _ _ _ _ _ _ _ _ _ _=>rfl,L2.q_h 4 λ_ _ _ _ _ _ _ _ _ _=>rfl,L2.q_h 3 λ_ _ _ _ _ _ _ _ _=>rfl,L2.q_h 1 λ_ _ _ _ _ _ _=>rfl,L2.q_h 2 λ_ _ _ _ _ _ _ _=>rfl,L2.q_h 2 λ_ _ _ _ _ _ _ _=>rfl,L2.q_z,L2.q_z,L2.q_z,L2.q_z,L2.q_z,L2.q_z,L2.q_z,L2.q_z,L2.q_z,L2.q_z,L2.q_z,L2.q_z,L2.q_z,L2.q_z,L2.q_z,L2.q_f 1 λ_ _ _ _ _ _ _=>rfl,L2.q_f 2 λ_ _ _ _ _ _ _ _=>rfl,L2.q_f 2 λ_ _ _ _ _ _ _ _=>rfl,L2.q_f 1 λ_ _ _ _ _ _ _=>rfl,L2.q_f 2 λ_ _ _ _ _ _ _ _=>rfl,L2.q_f 2 λ_ _ _ _ _ _ _ _=>rfl,L2.q_f 2 λ_ _ _ _ _ _ _ _=>rfl,L2.q_f 2 λ_ _ _ _ _ _ _ _=>rfl,L2.q_f 2 λ_ _ _ _ _ _ _ _=>rfl,L2.q_f 1 λ_ _ _ _ _ _ _=>rfl,L2.q_f 1 λ_ _ _ _ _ _ _=>rfl,L2.q_f 1 λ_ _ _ _ _ _ _=>rfl,L2.q_f 2 λ_ _ _ _ _ _ _ _=>rfl,L2.q_f 2 λ_ _ _ _ _ _ _ _=>rfl,L2.q_f 2 λ_ _ _ _ _ _ _ _=>rfl,L2.q_f 3 λ_ _ _ _ _ _ _ _ _=>rfl,L2.q_f 2 λ_ _ _ _ _ _ _ _=>rfl,L2.q_f 2 λ_ _ _ _ _ _ _ _=>rfl,L2.q_f 3 λ_ _ _ _ _ _ _ _ _=>rfl,L2.q_f 2 λ_ _ _ _ _ _ _ _=>rfl,L2.q_f 2 λ_ _ _ _ _ _ _ _=>rfl,L2.q_f 1 λ_ _ _ _ _ _ _=>rfl,L2.q_f 3 λ_ _ _ _ _ _ _ _ _=>rfl,L2.q_f 3 λ_ _ _ _ _ _ _ _ _=>rfl,L2.q_f 5 λ_ _ _ _ _ _ _ _ _ _ _=>rfl,L2.q_f 4 λ_ _ _ _ _ _ _ _ _ _=>rfl,L2.q_f 2 λ_ _ _ _ _ _ _ _=>rfl,L2.q_f 1 λ_ _ _ _ _ _ _=>rfl,L2.q_f 2 λ_ _ _ _ _ _ _ _=>rfl,L2.q_f 2 λ_ _ _ _ _ _ _ _=>rfl,L2.q_f 3 λ_ _ _ _ _ _ _ _ _=>rfl,L2.q_f 3 λ_ _ _ _ _ _ _ _ _=>rfl,L2.q_f 1 λ_ _ _ _ _ _ _=>rfl,L2.q_f 2 λ_ _ _ _ _ _ _ _=>rfl,L2.q_f 2 λ_ _ _ _ _ _ _ _=>rfl,L2.q_f 2 λ_ _ _ _ _ _ _ _=>rfl,L2.q_f 2 λ_ _ _ _ _ _ _ _=>rfl,L2.q_f 2 λ_ _ _ _ _ _ _ _=>rfl,L2.q_f 3 λ_ _ _ _ _ _ _ _ _=>rfl,L2.q_f 2 λ_ _ _ _ _ _ _ _=>rfl,L2.q_f 1 λ_ _ _ _ _ _ _=>rfl,L2.q_f 2 λ_ _ _ _ _ _ _ _=>rfl,L2.q_f 1 λ_ _ _ _ _ _ _=>rfl,L2.q_f 1 λ_ _ _ _ _ _ _=>rfl,L2.q_f 1 λ_ _ _ _ _ _ _=>rfl,L2.q_f 1 λ_ _ _ _ _ _ _=>rfl,L2.q_f 1 λ_ _ _ _ _ _ _=>rfl,L2.q_f 1 λ_ _ _ _ _ _ _=>rfl,L2.q_f 2 λ_ _ _ _ _ _ _ _=>rfl,L2.q_f 2 λ_ _ _ _ _ _ _ _=>rfl,L2.q_f 2 λ_ _ _ _ _ _ _ _=>rfl,L2.q_f 2 λ_ _ _ _ _ _ _ _=>rfl,L2.q_f 2 λ_ _ _ _ _ _ _ _=>rfl,L2.q_f 2 λ_ _ _ _ _ _ _ _=>rfl,L2.q_f 1 λ_ _ _ _ _ _ _=>rfl,L2.q_f 2 λ_ _ _ _ _ _ _ _=>rfl,L2.q_f 2 λ_ _ _ _ _ _ _ _=>rfl,L2.q_f 1 λ_ _ _ _ _ _ _=>rfl,L2.q_f 3 λ_ _ _ _ _ _ _ _ _=>rfl,L2.q_f 2 λ_ _ _ _ _ _ _ _=>rfl,L2.q_f 4 λ_ _ _ _ _ _ _ _ _ _=>rfl,L2.q_f 3 λ_ _ _ _ _ _ _ _ _=>rfl,L2.q_f 3 λ_ _ _ _ _ _ _ _ _=>rfl,L2.q_f 2 λ_ _ _ _ _ _ _ _=>rfl,L2.q_f 2 λ_ _ _ _ _ _ _ _=>rfl,L2.q_f 1 λ_ _ _ _ _ _ _=>rfl,L2.q_f 2 λ_ _ _ _ _ _ _ _=>rfl,L2.q_f 1 λ_ _ _ _ _ _ _=>rfl,L2.q_f 2 λ_ _ _ _ _ _ _ _=>rfl,L2.q_f 2 λ_ _ _ _ _ _ _ _=>rfl⟩⟩
#print axioms PySem.Challenge.cw_chancehall_k27_whole_rising_holds
