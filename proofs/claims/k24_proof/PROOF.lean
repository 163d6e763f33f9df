import PyProof.Rows.All
import Wide.All
import OpenK.AllK
import Wide.FinOn
import Lean
import PyProof.EqAt
import PyProof.EqKinds
import PyProof.TupleCall
import PyProof.EqLayable
import KE.KIntText
import PyProof.EnumMake
import PyProof.EnumStmt
import PyProof.EnumFor
import PyProof.Rows.EnumRows
import PyProof.ExcInit
import PyProof.ExcClass2
import PyProof.InstStoreFacts
import PySem.Challenge.RW_chancehall_k24_whole_two_roads
def aj := @List.getElem?_eq_getElem
def ak := @List.length_map
def ao := @List.getElem?_eq_some_iff
def aq := @List.getElem?_map
def au := @List.getD_eq_getElem?_getD
def aA := @List.length_append
def aC := @List.mem_of_getElem?
def aD := @List.getElem?_append_right
def aF := @List.getElem?_append_left
def aG := @Nat.le_refl
def aH := @PySem.Heap.get?_push_of_some
def aJ := @List.mem_cons_of_mem
def aK := @PySem.Heap.lt_size
def aL := @List.take_of_length_le
def aM := @Nat.le_trans
def aN := @List.getElem?_eq_none
def aO := @List.length_replicate
def aP := @List.mem_cons_self
def aQ := @List.take_length
def aR := @List.mem_append_right
def aU := @Nat.ne_of_lt
def aV := @Nat.lt_of_lt_of_le
def aW := @List.getElem_mem
def aX := @List.getElem?_of_mem
def aY := @Int.fmod_eq_emod_of_nonneg
def aZ := @PySem.Heap.get?_push_size
def bh := @List.size_toArray
def bw := @List.length_take
def bA := @Nat.zero_le
def bC := @List.map_append
def bD := @Bool.false_ne_true
open PySem.W (Frag instObj methodObj lookIn plainGet hasDictIn findIn handedIn plainGet_of isFn plainOver takerIn makesIn emptyDict keepIn specialIn takesIn mroIn kitOne kia_one kitx_list kitx_tuple callWith_K methodCall_KW codeIn nsIn mg_of excIn readsIn findCls)
section
open PySem PySem.Spec PyProof.Rows
abbrev Γ:=List (List ((Int×Int)×List (Nat×Int×Int)))
abbrev Δ:=List ((Int×Int)×List (Nat×Int×Int))
abbrev Θ:=List (Nat×Int×Int)
abbrev Φ:=List (List (Int×Int))
abbrev Ψ:=List (Int×Int)
abbrev Ω:=List (Addr×Obj)
abbrev Ξ:=List Value
abbrev Β:=List Str
abbrev Ε:=List Addr
abbrev Ζ:=Option Value
abbrev Η:=Option Addr
abbrev Ι:=Int×Int
abbrev Κ:=Value->Shared->Prop
def Zs:=@decide_eq_true
def Zp:=@decide_eq_false
def ZZ:=@if_neg
def ZY:=@if_pos
def ZU:=@wpAny_bind
def ZT:=@wpAny_pure
def ZH:=@congrArg
def Z3:=@Int.emod_nonneg
def YY:=@Int.emod_lt_of_pos
def YV:=@List.mem_map
def YU:=@List.mem_cons
def YR:=@List.mem_singleton
def Y1:=@List.mem_append
def Y2:=@Nat.le_of_lt
def Y3:=@Nat.lt_of_le_of_lt
def Xs:=@Nat.le_succ
def XZ:=@Int.mul_pos
def XY:=@Int.le_of_lt
def XX:=@Nat.lt_of_le_of_ne
def XW:=@Bool.false_eq_true
def XV:=@Rat.intCast_mul
def XU:=@Nat.pow_le_pow_right
def XT:=@Int.natAbs_natCast
def XG:=@List.getElem?_replicate
def X1:=@Nat.lt_succ_self
def X2:=@Nat.le_add_right
def X9:=@Nat.lt_irrefl
def Wp:=@Int.natCast_nonneg
def WZ:=@List.append_assoc
def WV:=@Nat.not_lt_zero
def WU:=@Nat.lt_add_right
end
set_option Elab.async false
set_option linter.all false
set_option maxRecDepth 100000
set_option maxHeartbeats 4000000
namespace L2.Once
open PySem PySem.W
def z:Pos:=⟨0,0,0,0⟩
noncomputable def tE:Obj:=⟨.type "tuple",none,.seq ⟨[]⟩ 0,⟨[]⟩⟩
noncomputable def fE:Obj:=⟨.none,none,.fields ⟨[]⟩,⟨[]⟩⟩
noncomputable def tN(t:Nat)(l:Β):Obj:=⟨.type "tuple",none,.seq ⟨(l.zipIdx t).map λx=>.str x.1 x.2⟩ 0,⟨[]⟩⟩
noncomputable def cO(n q:Str)(t:Nat)(l a f:Int)(r u:Nat):Obj:=⟨.type "code",none,.fields ⟨[.str n t,.str q (t+1),.str "/claim/cut.py" (t+2),.int l 0,.int a 0,.int 0 0,.int 0 0,.int f 0,.ref r,.bool true,.int 181 0,.ref (r+1),.none,.ref (r+2),.ref (r+3),.ref (r+4),.int u 0,.int l 0,.str "/claim/cut.py" (u+1)]⟩,⟨[]⟩⟩
def o11:Obj:={ cls:=.type "tuple",data:=.seq #[] }
def o12:Obj:={ cls:=.none,data:=.fields #[] }
def o13:Obj:={ cls:=.type "code",data:=.fields #[.str "<module>" 182,.str "<module>" 183,.str "/claim/cut.py" 184,.int 1 0,.int 0 0,.int 0 0,.int 0 0,.int 0 0,.ref 11,.bool false,.int 181 0,.ref 12,.none,.none,.none,.none,.int 185 0,.int 1 0,.str "/claim/cut.py" 186] }
def o14:Obj:={ cls:=.type "frame",slots:=#[some (.ref 13),some (.ref 3),some (.ref 3),none,some (.str "__main__" 164),none,some (.ref 0)] }
noncomputable def cP(n q:Str)(t:Nat)(l a f:Int)(r u:Nat):Obj:=⟨.type "code",none,.fields ⟨[.str n t,.str q (t+1),.str "/claim/cut.py" (t+2),.int l 0,.int a 0,.int 0 0,.int 0 0,.int f 0,.ref r,.bool true,.int 181 0,.ref (r+1),.none,.none,.none,.ref (r+2),.int u 0,.int l 0,.str "/claim/cut.py" (u+1)]⟩,⟨[]⟩⟩
noncomputable def dE(P:Params)(x:Str)(t:Nat)(v:Value):DictEntry:=⟨PyData.keyHash P x,.str x t,v⟩
abbrev lf(o:Obj):BT:=.node o .nil .nil
noncomputable def tr(P:Params):BT:=.node (boot_o_0 P)
 (.node (boot_o_1 P) (.node (boot_o_3 P) (lf (boot_o_7 P)) (lf o11)) (.node (boot_o_5 P) (lf (boot_o_9 P)) (lf o13)))
 (.node (boot_o_2 P) (.node (boot_o_4 P) (lf (boot_o_8 P)) (lf o12)) (.node (boot_o_6 P) (lf (boot_o_10 P)) (lf o14)))
noncomputable def S0(w:World)(os:OsState):Shared:=⟨boot_heap w.params,Array.mk [],boot_drawn,boot_toks,os⟩
noncomputable def Sa(w:World)(os:OsState):Shared:=⟨⟨Array.mk [boot_o_0 w.params,boot_o_1 w.params,boot_o_2 w.params,boot_o_3 w.params,boot_o_4 w.params,boot_o_5 w.params,boot_o_6 w.params,boot_o_7 w.params,boot_o_8 w.params,boot_o_9 w.params,boot_o_10 w.params,o11,o12,o13,o14],{}⟩,Array.mk [],{},187,os⟩
noncomputable def Sb(w:World)(os:OsState):SharedT:=⟨tr w.params,15,{},⟨[]⟩,{},187,os⟩
def env(p:Program):Env:={ scope:=p.main.scope,locals:=mainNs,globals:=mainNs,cells:=[],code:=.ref 13,frame:=some 14 }
def cE(p:Program):Code:=.body (behindTheImports p) (env p)
abbrev ann:Ζ:=some (.ref 6)
abbrev B:List Frame:=[topFrame z]
theorem size(w:World):((boot_heap w.params).isNs mainGlobals&&(Array.mk [] : Array GenState).size==0,(boot_heap w.params).objs.size,(boot_heap w.params).nsMap mainGlobals "__annotations__")=(true,11,ann):=by
 rw[Fast.te8920871248978507458];kernel_rfl
def o7(p:Program)(w:World)(M:Nat)(S:SharedT)(l:List Stmt)(q:Pos)(G:Shared->Prop):Prop:=∃s,topRun treeTable p w 11 ann M S.abs (restOf l (env p) (cE p) q B)=some s/\G s
theorem o7.cut{p:Program}{w:World}{n M:Nat}{S S':SharedT}{l1 l2:List Stmt}{q q':Pos}{G:Shared->Prop}(h:segRunT treeTable p w 11 ann 1 n S (piecesOf l1 (env p) (cE p) q B)=some (.next,S',cE p,q'))(k:o7 p w M S' l2 q' G):o7 p w (n+M) S (l1++l2) q G :=
 let⟨s,a,b⟩:=k
 ⟨s,piece_app (segRun_of h) a,b⟩
theorem o7.cutAt{p:Program}{w:World}{n m M:Nat}{S S':SharedT}{l:List Stmt}{q q':Pos}{G:Shared->Prop}(h:segRunT treeTable p w 11 ann 1 n S (piecesOf (l.take m) (env p) (cE p) q B)=some (.next,S',cE p,q'))(k:o7 p w M S' (l.drop m) q' G):o7 p w (n+M) S l q G:=by
 have:=o7.cut h k;rwa[List.take_append_drop]at this
def Good{α:Type}(p q:Program)(loose:Β)(Xt:Shared->Bool)(Yf:Shared->α)(Ya:World->α)(g0:Bool)(w:World)(s:Shared):Prop :=
 (staticsOk (importedModules p.main.body) (boot_heap w.params) s.heap&&namesBound p s.heap&&gensDone s&&laidKept (boot_heap w.params) s.heap,openSeen q loose (importedModules p.main.body) Xt g0 s,Yf s)=(true,openGood q loose,Ya w)
theorem o7.last{p q:Program}{loose:Β}{Xt:Shared->Bool}{α:Type}{Yf:Shared->α}{Ya:World->α}{g0:Bool}{w:World}{n k:Nat}{S:SharedT}{l:List Stmt}{q0 e:Pos}
 (big:(segRunT treeTable p w 11 ann 1 n S (piecesOf l (env p) (cE p) q0 B)).map (λr =>
    (r.1,r.2.2.1,r.2.2.2,(topRun treeTable p w 11 ann k r.2.1.abs ⟨doneF .next,cE p,e,B⟩).map λs =>
     (staticsOk (importedModules p.main.body) (boot_heap w.params) s.heap&&namesBound p s.heap&&gensDone s&&laidKept (boot_heap w.params) s.heap,openSeen q loose (importedModules p.main.body) Xt g0 s,Yf s))) =
   some (.next,cE p,e,some (true,openGood q loose,Ya w))):o7 p w (n+k) S l q0 (Good p q loose Xt Yf Ya g0 w):=by
 obtain⟨⟨f,sT,c,ps⟩,r1,r2⟩:=Option.map_eq_some_iff.mp big;obtain⟨rfl,rfl,rfl,r3⟩ : f=.next/\c=cE p/\ps=e/\_:=by simpa only[Prod.mk.injEq]using r2
 obtain⟨s,t1,t2⟩:=Option.map_eq_some_iff.mp r3;have q1:=piece_app (rest:=[]) (segRun_of r1) (piece_nil t1);rw[List.append_nil]at q1;exact⟨s,q1,t2⟩
theorem Xf{p q:Program}{loose:Β}{Xt:Shared->Bool}{α:Type}{Yf:Shared->α}{Ya:World->α}{N:Nat}{g0:Bool}{a b M:Nat}
 (open_:∀w:World,(fencedOpening treeTable p w N).map (λs=>(s.heap,s.gens,s.drawn,s.toks))=some (boot_heap w.params,Array.mk [],boot_drawn,boot_toks))
 (pre:∀w:World,(λos=>topGo treeTable p w 11 ann a (S0 w os) (topStub p))=λos=>some (Sa w os,⟨denote treeTable (cE p),cE p,z,B⟩))
 (block:∀w:World,(λos=>segRun treeTable p w 11 ann 1 b (Sa w os) (blockOf (behindTheImports p) (env p) (cE p) z B))=λos=>some (.next,(Sb w os).abs,cE p,z))
 (ends:∀(w:World)(os:OsState),o7 p w M (Sb w os) (behindTheImports p) z (Good p q loose Xt Yf Ya g0 w))
 (le:Nat.ble (a+(b+M)) N=true):LeftO p q loose Xt Yf Ya N g0:=λw=>by
 obtain⟨⟨h,gs,d,ks,os⟩,e1,e2⟩:=Option.map_eq_some_iff.mp (open_ w);obtain⟨rfl,rfl,rfl,rfl⟩ : h=boot_heap w.params/\gs=Array.mk []/\d=boot_drawn/\ks=boot_toks:=by simpa using e2
 obtain⟨z1,z2,z3⟩ : _/\_/\_:=by simpa only[Prod.mk.injEq]using size w
 obtain⟨s,q1,t2⟩:=ends w os;obtain⟨l1,l2,l3⟩ : _/\_/\_:=by simpa only[Good,Prod.mk.injEq]using t2
 have q2:=go_top (congrFun (pre w) os) (piece_block (congrFun (block w) os) q1);have q3:=topRun_mono (N-(a+(b+M))) _ _ _ _ q2;rw[show a+(b+M)+(N-(a+(b+M)))=N by have:=Nat.le_of_ble_eq_true le;omega]at q3;have t:topFrom treeTable p w N ⟨boot_heap w.params,Array.mk [],boot_drawn,boot_toks,os⟩=some s:=by
  unfold topFrom;dsimp only;rw[z1,z2,z3,show topRun treeTable p w 11 ann N ⟨boot_heap w.params,Array.mk [],boot_drawn,boot_toks,os⟩ (topStub p)=some s from q3];show(match staticsOk (importedModules p.main.body) (boot_heap w.params) s.heap&&namesBound p s.heap&&gensDone s&&laidKept (boot_heap w.params) s.heap with|true=>_|false=>_)=_;rw[l1]
 unfold openEnds;rw[e1];show(topFrom treeTable p w N _).map _=_;rw[t];exact ZH some (Prod.ext l2 l3)
end L2.Once
namespace L2
open PySem
def jN(s:Stmt):Arguments:=match s with
 |.FunctionDef _ a _ _ _ _ _ _ _ _=>a
 |_=>{ posonlyargs:=[],args:=[],vararg:=none,kwonlyargs:=[],kw_defaults:=[],kwarg:=none,defaults:=[] }
def iT(s:Stmt):List Stmt:=match s with
 |.FunctionDef _ _ b _ _ _ _ _ _ _=>b
 |_=>[]
def bQ(s:Stmt):Scope:=match s with
 |.FunctionDef _ _ _ _ _ _ sc _ _ _=>sc
 |_=>{ kind:=.function,names:=[],isGenerator:=false,isCoroutine:=false }
end L2
namespace K24
open PySem L2
def top(i:Nat):Stmt:=PySem.Challenge.pw_chancehall_k24_whole_two_roads.main.body.getD i (.Pass ⟨0,0,0,0⟩)
def ig(i j:Nat):Stmt:=match top i with|.ClassDef _ _ _ b _ _ _ _ _ _ _=>b.getD j (.Pass ⟨0,0,0,0⟩)|_=>.Pass ⟨0,0,0,0⟩
end K24
namespace H24
open PySem PySem.W L2 L2.Once K24
noncomputable section
noncomputable abbrev p:Program:=PySem.Challenge.pw_chancehall_k24_whole_two_roads
noncomputable section
def dR(P:Params)(x:Str)(t m:Nat):DictEntry:=dE P x t (.ref m)
noncomputable def wD(l:List DictEntry)(n:Nat):Obj:=⟨.type "dict",none,.dict ⟨l⟩ n,⟨[]⟩⟩
noncomputable def i3(a b:Nat)(c:Nat)(l:Ξ):Ξ:=.int a 0::.int b 0::.ref c::l
noncomputable def nd(o:Obj)(l r:BT):BT:=.node o l r
noncomputable def n1(o x:Obj):BT:=.node o (lf x) .nil
noncomputable def wA:Obj:=⟨.type "builtin_function_or_method",none,.fields ⟨[.builtin "type.__prepare__",.type "type"]⟩,⟨[]⟩⟩
noncomputable def wB(n:Nat):Obj:=⟨.type "builtin_function_or_method",none,.fields ⟨[.builtin "object.__init_subclass__",.ref n]⟩,⟨[]⟩⟩
noncomputable def wC(n:Str)(t l r u:Nat):Obj:=⟨.type "code",none,.fields ⟨[.str n t,.str n (t+1),.str "/claim/cut.py" (t+2),.int l 0,.int 0 0,.int 0 0,.int 0 0,.int 0 0,.ref r,.bool false,.int 181 0,.ref (r+1),.none,.none,.none,.none,.int u 0,.int l 0,.str "/claim/cut.py" (u+1)]⟩,⟨[]⟩⟩
noncomputable def wF(c d:Nat)(n:Str)(t:Nat):Obj:=⟨.type "frame",none,.plain,⟨[some (.ref c),some (.ref 3),some (.ref d),none,some (.str n t),none,some (.ref 0)]⟩⟩
noncomputable def wG(t n:Nat):Obj:=⟨.type "getset_descriptor",none,.fields ⟨[.str "__weakref__" t,.ref n,.builtin "ExceptionGroup.__weakref__",.none]⟩,⟨[]⟩⟩
noncomputable def wK(n:Str)(b m:Ξ)(d:Nat)(s:Ξ)(o:Ζ)(t u:Nat)(x:String):Obj:=⟨.type "type",none,.cls ⟨n,b,m,d,n,true,[],s,false,none,false⟩,⟨[o,none,some (.str n t),some (.str n u),some (.builtin x),some (.bool true)]⟩⟩
noncomputable def wS(n:Nat):Obj:=⟨.type "super",none,.fields ⟨[.ref n,.ref n,.ref n]⟩,⟨[]⟩⟩
noncomputable def wT(n:Nat):Obj:=⟨.type "tuple",none,.seq ⟨[.ref n]⟩ 0,⟨[]⟩⟩
noncomputable def fO(n q:Str)(s:Stmt)(m:Value)(c:Nat):Obj:=⟨.type "function",none,.func (fnOf n q (jN s) (iT s) (bQ s) .none .none .none m none (.ref c) .none),⟨[]⟩⟩
noncomputable def fT(n q:Str)(s:Stmt):Obj:=⟨.none,none,.func { fnOf n q (jN s) (iT s) (bQ s) .none .none .none .none none .none .none with globals:=0,builtins:=0 },⟨[]⟩⟩
def aj2(P:Params):Obj:=wD (dE P "__name__" 165 (.str "law_chancehall_k24_whole_two_roads" 953)::dE P "__doc__" 166 .none::dE P "__package__" 167 .none::dE P "__loader__" 168 (.builtin "__main__.__loader__#opaque")::dE P "__spec__" 169 .none::dR P "__annotations__" 170 6::dR P "__builtins__" 171 4::dE P "__file__" 173 (.str "/claim/cut.py" 172)::dE P "__cached__" 174 .none::dR P "_wall" 193 21::dR P "HallError" 213 31::dR P "NoNumber" 229 44::dR P "NoName" 245 56::dR P "NoChance" 261 68::dR P "NoShare" 277 80::dR P "NoRoom" 302 99::dR P "NoPlan" 327 118::dR P "is_whole" 336 127::dR P "divisor" 347 134::dR P "NOUGHT" 352 135::dR P "ONE" 355 136::dR P "ratio" 364 143::dR P "is_ratio" 373 150::dR P "plus" 381 157::dR P "minus" 389 164::dR P "times" 397 171::dR P "over" 405 178::dR P "under" 413 185::dR P "level" 421 190::dR P "total" 429 197::dR P "fits" 439 204::dR P "check_plan" 449 211::dR P "lowest" 457 216::dR P "row_times" 463 221::dR P "row_plus" 469 226::dR P "take_step" 478 233::dR P "number_at" 486 240::dR P "fractions_of" 492 245::dR P "first_from" 502 252::dR P "go_on" 511 259::dR P "begin_row" 523 266::dR P "clear_column" 535 273::dR P "reduced" 541 278::dR P "width_of" 550 285::dR P "with_rights" 556 290::dR P "begins_of" 562 295::dR P "odd_row" 572 302::dR P "answer_of" 584 309::dR P "single_rows" 590 314::dR P "only_answer" 601 321::dR P "chosen_doors" 609 326::dR P "left_rows" 622 333::dR P "turned" 628 338::dR P "worths_of" 634 343::dR P "visits_from" 640 348::dE P "LONGEST_WORD" 644 (.int 8 643)::dR P "is_word" 650 353::dR P "check_head" 660 360::dR P "check_room_name" 667 367::dR P "check_chance" 674 374::dR P "check_pairs" 680 379::dR P "joined_ways" 686 384::dR P "Door" 733 415::dR P "Sure" 760 436::dR P "Mixed" 787 455::dR P "Toss" 815 474::dR P "Even" 837 491::dR P "check_share" 846 500::dR P "numbers_of" 856 507::dR P "numbered_ways" 867 514::dR P "offers_of" 878 521::dR P "Hall" 952 576::dR P "_law_cell" 962 587::dR P "_law_stream" 974 594::dR P "_law_gcd" 984 601::dR P "_law_ratio" 993 608::dR P "_law_is_ratio" 1001 615::dR P "_law_are_ratios" 1007 620::dR P "_law_same" 1015 627::dR P "_law_names" 1021 632::dR P "_law_share" 1030 639::dR P "_law_pay" 1039 646::dR P "_law_door" 1045 651::dR P "_law_doors" 1051 656::dR P "_law_built" 1057 661::dR P "_law_hall" 1063 666::dR P "_law_chosen" 1074 673::dR P "_law_size" 1082 680::dR P "_law_other_pays" 1088 685::dR P "_law_sum" 1098 692::dR P "_law_paid" 1110 699::[]) 91
def aeY:Obj:=⟨.none,none,.fields ⟨i3 1 0 20 <|i3 5 0 27 <|i3 7 0 40 <|i3 9 0 52 <|i3 11 0 64 <|i3 13 0 76 <|i3 15 0 88 <|i3 20 0 107 <|i3 26 0 126 <|i3 28 0 133 <|i3 39 0 142 <|i3 48 0 149 <|i3 56 0 156 <|i3 58 0 163 <|i3 60 0 170 <|i3 62 0 177 <|i3 64 0 184 <|i3 67 0 189 <|i3 72 0 196 <|i3 76 0 203 <|i3 80 0 210 <|i3 88 0 215 <|i3 93 0 220 <|i3 95 0 225 <|i3 102 0 232 <|i3 111 0 239 <|i3 113 0 244 <|i3 115 0 251 <|i3 120 0 258 <|i3 123 0 265 <|i3 129 0 272 <|i3 134 0 277 <|i3 146 0 284 <|i3 150 0 289 <|i3 152 0 294 <|i3 159 0 301 <|i3 164 0 308 <|i3 169 0 313 <|i3 171 0 320 <|i3 179 0 325 <|i3 181 0 332 <|i3 188 0 337 <|i3 190 0 342 <|i3 195 0 347 <|i3 202 0 352 <|i3 207 0 359 <|i3 212 0 366 <|i3 215 0 373 <|i3 218 0 378 <|i3 224 0 383 <|i3 229 0 390 <|i3 242 0 425 <|i3 248 0 444 <|i3 254 0 463 <|i3 260 0 482 <|i3 265 0 499 <|i3 268 0 506 <|i3 276 0 513 <|i3 283 0 520 <|i3 292 0 527 <|i3 322 0 586 <|i3 324 0 593 <|i3 335 0 600 <|i3 340 0 607 <|i3 343 0 614 <|i3 350 0 619 <|i3 354 0 626 <|i3 356 0 631 <|i3 365 0 638 <|i3 369 0 645 <|i3 377 0 650 <|i3 394 0 655 <|i3 404 0 660 <|i3 414 0 665 <|i3 421 0 672 <|i3 430 0 679 <|i3 435 0 684 <|i3 444 0 691 <|i3 451 0 698 <|[]⟩,⟨[]⟩⟩
def q21:Obj:=fO "_wall" "_wall" (top 0) (.str "__main__" 164) 20
noncomputable def q22:Obj:=⟨.type "tuple",none,.seq ⟨.type "ValueError"::[]⟩ 0,⟨[]⟩⟩
def q23:Obj:=wA
def q24(P:Params):Obj:=wD (dE P "__module__" 203 (.str "chancehall.errors" 194)::dE P "__qualname__" 205 (.str "HallError" 204)::dE P "__firstlineno__" 207 (.int 5 206)::dR P "__static_attributes__" 208 29::[]) 4
def q27:Obj:=wC "HallError" 198 5 25 201
def q28:Obj:=wF 27 24 "chancehall.errors" 194
def q30(P:Params):Obj:=wD (dE P "__module__" 203 (.str "chancehall.errors" 194)::dE P "__firstlineno__" 207 (.int 5 206)::dR P "__static_attributes__" 208 29::dR P "__weakref__" 210 32::dE P "__doc__" 211 .none::[]) 3
def q31:Obj:=wK "HallError" [.type "ValueError"] [.ref 31,.type "ValueError",.type "Exception",.type "BaseException",.type "object"] 30 [.ref 44,.ref 56,.ref 68,.ref 80,.ref 99,.ref 118] (some (.ref 22)) 196 204 "ValueError.__new__"
def q32:Obj:=wG 209 31
def q33:Obj:=wS 31
def q34:Obj:=wB 31
def q35:Obj:=wT 31
def q36:Obj:=wA
def q37(P:Params):Obj:=wD (dE P "__module__" 221 (.str "chancehall.errors" 194)::dE P "__qualname__" 223 (.str "NoNumber" 222)::dE P "__firstlineno__" 225 (.int 7 224)::dR P "__static_attributes__" 226 42::[]) 4
def q40:Obj:=wC "NoNumber" 216 7 38 219
def q41:Obj:=wF 40 37 "chancehall.errors" 194
def q43(P:Params):Obj:=wD (dE P "__module__" 221 (.str "chancehall.errors" 194)::dE P "__firstlineno__" 225 (.int 7 224)::dR P "__static_attributes__" 226 42::dE P "__doc__" 227 .none::[]) 2
def q44:Obj:=wK "NoNumber" [.ref 31] [.ref 44,.ref 31,.type "ValueError",.type "Exception",.type "BaseException",.type "object"] 43 [] (some (.ref 35)) 214 222 "ValueError.__new__"
def q45:Obj:=wS 44
def q46:Obj:=wB 44
def q47:Obj:=wT 31
def q48:Obj:=wA
def q49(P:Params):Obj:=wD (dE P "__module__" 237 (.str "chancehall.errors" 194)::dE P "__qualname__" 239 (.str "NoName" 238)::dE P "__firstlineno__" 241 (.int 9 240)::dR P "__static_attributes__" 242 54::[]) 4
def q52:Obj:=wC "NoName" 232 9 50 235
def q53:Obj:=wF 52 49 "chancehall.errors" 194
def q55(P:Params):Obj:=wD (dE P "__module__" 237 (.str "chancehall.errors" 194)::dE P "__firstlineno__" 241 (.int 9 240)::dR P "__static_attributes__" 242 54::dE P "__doc__" 243 .none::[]) 2
def q56:Obj:=wK "NoName" [.ref 31] [.ref 56,.ref 31,.type "ValueError",.type "Exception",.type "BaseException",.type "object"] 55 [] (some (.ref 47)) 230 238 "ValueError.__new__"
def q57:Obj:=wS 56
def q58:Obj:=wB 56
def q59:Obj:=wT 31
def q60:Obj:=wA
def q61(P:Params):Obj:=wD (dE P "__module__" 253 (.str "chancehall.errors" 194)::dE P "__qualname__" 255 (.str "NoChance" 254)::dE P "__firstlineno__" 257 (.int 11 256)::dR P "__static_attributes__" 258 66::[]) 4
def q64:Obj:=wC "NoChance" 248 11 62 251
def q65:Obj:=wF 64 61 "chancehall.errors" 194
def q67(P:Params):Obj:=wD (dE P "__module__" 253 (.str "chancehall.errors" 194)::dE P "__firstlineno__" 257 (.int 11 256)::dR P "__static_attributes__" 258 66::dE P "__doc__" 259 .none::[]) 2
def q68:Obj:=wK "NoChance" [.ref 31] [.ref 68,.ref 31,.type "ValueError",.type "Exception",.type "BaseException",.type "object"] 67 [] (some (.ref 59)) 246 254 "ValueError.__new__"
def q69:Obj:=wS 68
def q70:Obj:=wB 68
def q71:Obj:=wT 31
def q72:Obj:=wA
def q73(P:Params):Obj:=wD (dE P "__module__" 269 (.str "chancehall.errors" 194)::dE P "__qualname__" 271 (.str "NoShare" 270)::dE P "__firstlineno__" 273 (.int 13 272)::dR P "__static_attributes__" 274 78::[]) 4
def q76:Obj:=wC "NoShare" 264 13 74 267
def q77:Obj:=wF 76 73 "chancehall.errors" 194
def q79(P:Params):Obj:=wD (dE P "__module__" 269 (.str "chancehall.errors" 194)::dE P "__firstlineno__" 273 (.int 13 272)::dR P "__static_attributes__" 274 78::dE P "__doc__" 275 .none::[]) 2
def q80:Obj:=wK "NoShare" [.ref 31] [.ref 80,.ref 31,.type "ValueError",.type "Exception",.type "BaseException",.type "object"] 79 [] (some (.ref 71)) 262 270 "ValueError.__new__"
def q81:Obj:=wS 80
def q82:Obj:=wB 80
def q83:Obj:=wT 31
def q84:Obj:=wA
def q85(P:Params):Obj:=wD (dE P "__module__" 285 (.str "chancehall.errors" 194)::dE P "__qualname__" 287 (.str "NoRoom" 286)::dE P "__firstlineno__" 289 (.int 15 288)::dR P "__init__" 297 96::dR P "__static_attributes__" 299 97::[]) 5
def q87:Obj:=⟨.none,none,.fields ⟨i3 17 4 95 <|[]⟩,⟨[]⟩⟩
def q88:Obj:=wC "NoRoom" 280 15 86 283
def q89:Obj:=wF 88 85 "chancehall.errors" 194
def q95:Obj:=cO "__init__" "NoRoom.__init__" 290 17 2 3 90 295
def q96:Obj:=fO "__init__" "NoRoom.__init__" (ig 7 0) (.str "chancehall.errors" 194) 95
def q98(P:Params):Obj:=wD (dE P "__module__" 285 (.str "chancehall.errors" 194)::dE P "__firstlineno__" 289 (.int 15 288)::dR P "__init__" 297 96::dR P "__static_attributes__" 299 97::dE P "__doc__" 300 .none::[]) 2
def q99:Obj:=wK "NoRoom" [.ref 31] [.ref 99,.ref 31,.type "ValueError",.type "Exception",.type "BaseException",.type "object"] 98 [] (some (.ref 83)) 278 286 "ValueError.__new__"
def ajp:Obj:=wS 99
def ajd:Obj:=wB 99
def agh:Obj:=wT 31
def ajz:Obj:=wA
def aje(P:Params):Obj:=wD (dE P "__module__" 310 (.str "chancehall.errors" 194)::dE P "__qualname__" 312 (.str "NoPlan" 311)::dE P "__firstlineno__" 314 (.int 20 313)::dR P "__init__" 322 115::dR P "__static_attributes__" 324 116::[]) 5
def ajA:Obj:=⟨.none,none,.fields ⟨i3 22 4 114 <|[]⟩,⟨[]⟩⟩
def ajx:Obj:=wC "NoPlan" 305 20 105 308
def ajk:Obj:=wF 107 104 "chancehall.errors" 194
def ago:Obj:=cO "__init__" "NoPlan.__init__" 315 22 2 3 109 320
def agM:Obj:=fO "__init__" "NoPlan.__init__" (ig 8 0) (.str "chancehall.errors" 194) 114
def agf(P:Params):Obj:=wD (dE P "__module__" 310 (.str "chancehall.errors" 194)::dE P "__firstlineno__" 314 (.int 20 313)::dR P "__init__" 322 115::dR P "__static_attributes__" 324 116::dE P "__doc__" 325 .none::[]) 2
def agj:Obj:=wK "NoPlan" [.ref 31] [.ref 118,.ref 31,.type "ValueError",.type "Exception",.type "BaseException",.type "object"] 117 [] (some (.ref 102)) 303 311 "ValueError.__new__"
def akc:Obj:=wS 118
def ai6:Obj:=wB 118
def ahw:Obj:=fO "is_whole" "is_whole" (top 10) (.str "chancehall.wholes" 328) 126
def ae5:Obj:=tN 340 ["one","other","left","right","rest"]
def ai1:Obj:=fO "divisor" "divisor" (top 11) (.str "chancehall.wholes" 328) 133
noncomputable def afB:Obj:=⟨.type "tuple",none,.seq ⟨.int 0 350::.int 1 351::[]⟩ 0,⟨[]⟩⟩
noncomputable def af8:Obj:=⟨.type "tuple",none,.seq ⟨.int 1 353::.int 1 354::[]⟩ 0,⟨[]⟩⟩
def af0:Obj:=fO "ratio" "ratio" (top 15) (.str "chancehall.ratios" 348) 142
def agw:Obj:=fO "is_ratio" "is_ratio" (top 16) (.str "chancehall.ratios" 348) 149
def agz:Obj:=fO "plus" "plus" (top 17) (.str "chancehall.ratios" 348) 156
def ahB:Obj:=fO "minus" "minus" (top 18) (.str "chancehall.ratios" 348) 163
def agT:Obj:=fO "times" "times" (top 19) (.str "chancehall.ratios" 348) 170
def afo:Obj:=fO "over" "over" (top 20) (.str "chancehall.ratios" 348) 177
def ag2:Obj:=fO "under" "under" (top 21) (.str "chancehall.ratios" 348) 184
def afz:Obj:=fO "level" "level" (top 23) (.str "chancehall.levels" 414) 189
def ahm:Obj:=fO "total" "total" (top 24) (.str "chancehall.levels" 414) 196
def ahW:Obj:=fO "fits" "fits" (top 26) (.str "chancehall.plans" 430) 203
def agm:Obj:=cO "check_plan" "check_plan" 440 80 2 3 205 447
def agY:Obj:=fO "check_plan" "check_plan" (top 27) (.str "chancehall.plans" 430) 210
def afA:Obj:=fO "lowest" "lowest" (top 29) (.str "chancehall.papers" 450) 215
def agP:Obj:=cP "row_times" "row_times" 458 93 2 3 217 461
def afM:Obj:=fO "row_times" "row_times" (top 30) (.str "chancehall.papers" 450) 220
def ah1:Obj:=fO "row_plus" "row_plus" (top 31) (.str "chancehall.papers" 450) 225
def aht:Obj:=cO "take_step" "take_step" 470 102 2 3 227 476
def ah9:Obj:=fO "take_step" "take_step" (top 32) (.str "chancehall.papers" 450) 232
def ahd:Obj:=cO "number_at" "number_at" 479 111 2 3 234 484
def aiU:Obj:=fO "number_at" "number_at" (top 33) (.str "chancehall.papers" 450) 239
def agI:Obj:=cP "fractions_of" "fractions_of" 487 113 1 3 241 490
def afP:Obj:=fO "fractions_of" "fractions_of" (top 34) (.str "chancehall.papers" 450) 244
def ahJ:Obj:=tN 496 ["leveled","place","column","row"]
def af5:Obj:=cO "first_from" "first_from" 493 115 3 3 246 500
def agN:Obj:=fO "first_from" "first_from" (top 35) (.str "chancehall.papers" 450) 251
def ag4:Obj:=fO "go_on" "go_on" (top 36) (.str "chancehall.papers" 450) 258
def aiJ:Obj:=tN 515 ["leveled","steps","place","found","column","first"]
def afD:Obj:=cO "begin_row" "begin_row" 512 123 5 3 260 521
def ahh:Obj:=fO "begin_row" "begin_row" (top 37) (.str "chancehall.papers" 450) 265
def agV:Obj:=tN 527 ["leveled","steps","place","column","row","often"]
def agR:Obj:=cO "clear_column" "clear_column" 524 129 4 3 267 533
def agd:Obj:=fO "clear_column" "clear_column" (top 38) (.str "chancehall.papers" 450) 272
def ahD:Obj:=fO "reduced" "reduced" (top 39) (.str "chancehall.papers" 450) 277
def aiC:Obj:=cO "width_of" "width_of" 544 146 1 3 279 548
def agF:Obj:=fO "width_of" "width_of" (top 41) (.str "chancehall.solving" 542) 284
def afn:Obj:=cP "with_rights" "with_rights" 551 150 2 3 286 554
def aiF:Obj:=fO "with_rights" "with_rights" (top 42) (.str "chancehall.solving" 542) 289
def aiX:Obj:=cP "begins_of" "begins_of" 557 152 2 3 291 560
def afy:Obj:=fO "begins_of" "begins_of" (top 43) (.str "chancehall.solving" 542) 294
def agr:Obj:=fO "odd_row" "odd_row" (top 44) (.str "chancehall.solving" 542) 301
def afZ:Obj:=tN 576 ["end","begins","wide","answer","row","column"]
def afV:Obj:=cO "answer_of" "answer_of" 573 164 3 3 303 582
def aib:Obj:=fO "answer_of" "answer_of" (top 45) (.str "chancehall.solving" 542) 308
def ahq:Obj:=cP "single_rows" "single_rows" 585 169 1 3 310 588
def agZ:Obj:=fO "single_rows" "single_rows" (top 46) (.str "chancehall.solving" 542) 313
def afJ:Obj:=tN 594 ["rows","rights","wide","end","begins"]
def ahM:Obj:=cO "only_answer" "only_answer" 591 171 2 3 315 599
def ahA:Obj:=fO "only_answer" "only_answer" (top 47) (.str "chancehall.solving" 542) 320
def ag5:Obj:=cP "chosen_doors" "chosen_doors" 604 179 2 3 322 607
def agq:Obj:=fO "chosen_doors" "chosen_doors" (top 49) (.str "chancehall.worths" 602) 325
def ahH:Obj:=tN 613 ["share","chosen","rows","room","offer","behind","chance"]
def ahk:Obj:=cO "left_rows" "left_rows" 610 181 2 3 327 620
def aiT:Obj:=fO "left_rows" "left_rows" (top 50) (.str "chancehall.worths" 602) 332
def agu:Obj:=fO "turned" "turned" (top 51) (.str "chancehall.worths" 602) 337
def ai3:Obj:=cP "worths_of" "worths_of" 629 190 2 3 339 632
def afX:Obj:=fO "worths_of" "worths_of" (top 52) (.str "chancehall.worths" 602) 342
def aeX:Obj:=cP "visits_from" "visits_from" 635 195 3 3 344 638
def agS:Obj:=fO "visits_from" "visits_from" (top 53) (.str "chancehall.worths" 602) 347
def afw:Obj:=fO "is_word" "is_word" (top 56) (.str "chancehall.words" 641) 352
def ag1:Obj:=cO "check_head" "check_head" 653 207 2 3 354 658
def aiS:Obj:=fO "check_head" "check_head" (top 58) (.str "chancehall.doors" 651) 359
def ajl:Obj:=fT "check_room_name" "check_room_name" (top 59)
def aga:Obj:=cO "check_room_name" "check_room_name" 661 212 1 3 361 665
def ahg:Obj:=fO "check_room_name" "check_room_name" (top 59) (.str "chancehall.doors" 651) 366
def aiZ:Obj:=cO "check_chance" "check_chance" 668 215 1 3 368 672
def ahs:Obj:=fO "check_chance" "check_chance" (top 60) (.str "chancehall.doors" 651) 373
def ahE:Obj:=cP "check_pairs" "check_pairs" 675 218 1 3 375 678
def ag7:Obj:=fO "check_pairs" "check_pairs" (top 61) (.str "chancehall.doors" 651) 378
def afp:Obj:=cP "joined_ways" "joined_ways" 681 224 1 3 380 684
def ahN:Obj:=fO "joined_ways" "joined_ways" (top 62) (.str "chancehall.doors" 651) 383
def ajH:Obj:=wA
def aj0(P:Params):Obj:=wD (dE P "__module__" 694 (.str "chancehall.doors" 651)::dE P "__qualname__" 696 (.str "Door" 695)::dE P "__firstlineno__" 698 (.int 229 697)::dR P "__init__" 707 398::dR P "ways" 714 405::dR P "chance_to" 722 412::dR P "__static_attributes__" 726 413::[]) 7
def ajy:Obj:=⟨.none,none,.fields ⟨i3 231 4 397 <|i3 237 4 404 <|i3 240 4 411 <|[]⟩,⟨[]⟩⟩
def ajm:Obj:=wC "Door" 689 229 388 692
def ajt:Obj:=wF 390 387 "chancehall.doors" 651
def aii:Obj:=cO "__init__" "Door.__init__" 699 231 3 3 392 705
def ahz:Obj:=fO "__init__" "Door.__init__" (ig 63 0) (.str "chancehall.doors" 651) 397
def afH:Obj:=fO "ways" "Door.ways" (ig 63 1) (.str "chancehall.doors" 651) 404
def aiN:Obj:=cO "chance_to" "Door.chance_to" 715 240 2 3 406 720
def ahr:Obj:=fO "chance_to" "Door.chance_to" (ig 63 2) (.str "chancehall.doors" 651) 411
def afW(P:Params):Obj:=wD (dE P "__module__" 694 (.str "chancehall.doors" 651)::dE P "__firstlineno__" 698 (.int 229 697)::dR P "__init__" 707 398::dR P "ways" 714 405::dR P "chance_to" 722 412::dR P "__static_attributes__" 726 413::dR P "__dict__" 728 416::dR P "__weakref__" 730 417::dE P "__doc__" 731 .none::[]) 4
def afK:Obj:=wK "Door" [.type "object"] [.ref 415,.type "object"] 414 [.ref 436,.ref 455] none 687 695 "object.__new__"
noncomputable def afb:Obj:=⟨.type "getset_descriptor",none,.fields ⟨.str "__dict__" 727::.ref 415::.builtin "function.__dict__"::.builtin "function.__dict__#set"::[]⟩,⟨[]⟩⟩
def ahf:Obj:=wG 729 415
def ajR:Obj:=wS 415
def ajS:Obj:=wB 415
def aiq:Obj:=wT 415
def ajn:Obj:=wA
def ajY(P:Params):Obj:=wD (dE P "__module__" 741 (.str "chancehall.doors" 651)::dE P "__qualname__" 743 (.str "Sure" 742)::dE P "__firstlineno__" 745 (.int 242 744)::dR P "__init__" 755 433::dR P "__static_attributes__" 757 434::[]) 5
def ajN:Obj:=⟨.none,none,.fields ⟨i3 244 4 432 <|[]⟩,⟨[]⟩⟩
def ajG:Obj:=wC "Sure" 736 242 423 739
def ajT:Obj:=wF 425 422 "chancehall.doors" 651
def agc:Obj:=cO "__init__" "Sure.__init__" 746 244 4 3 427 753
def aiD:Obj:=fO "__init__" "Sure.__init__" (ig 64 0) (.str "chancehall.doors" 651) 432
def afg(P:Params):Obj:=wD (dE P "__module__" 741 (.str "chancehall.doors" 651)::dE P "__firstlineno__" 745 (.int 242 744)::dR P "__init__" 755 433::dR P "__static_attributes__" 757 434::dE P "__doc__" 758 .none::[]) 2
def ahv:Obj:=wK "Sure" [.ref 415] [.ref 436,.ref 415,.type "object"] 435 [] (some (.ref 420)) 734 742 "object.__new__"
def ajQ:Obj:=wS 436
def aj5:Obj:=wB 436
def afC:Obj:=wT 415
def aj7:Obj:=wA
def ake(P:Params):Obj:=wD (dE P "__module__" 768 (.str "chancehall.doors" 651)::dE P "__qualname__" 770 (.str "Mixed" 769)::dE P "__firstlineno__" 772 (.int 248 771)::dR P "__init__" 782 452::dR P "__static_attributes__" 784 453::[]) 5
def akb:Obj:=⟨.none,none,.fields ⟨i3 250 4 451 <|[]⟩,⟨[]⟩⟩
def aj6:Obj:=wC "Mixed" 763 248 442 766
def ajg:Obj:=wF 444 441 "chancehall.doors" 651
def agn:Obj:=cO "__init__" "Mixed.__init__" 773 250 4 3 446 780
def aho:Obj:=fO "__init__" "Mixed.__init__" (ig 65 0) (.str "chancehall.doors" 651) 451
def afu(P:Params):Obj:=wD (dE P "__module__" 768 (.str "chancehall.doors" 651)::dE P "__firstlineno__" 772 (.int 248 771)::dR P "__init__" 782 452::dR P "__static_attributes__" 784 453::dE P "__doc__" 785 .none::[]) 2
def air:Obj:=wK "Mixed" [.ref 415] [.ref 455,.ref 415,.type "object"] 454 [.ref 474,.ref 491] (some (.ref 439)) 761 769 "object.__new__"
def ajb:Obj:=wS 455
def ai5:Obj:=wB 455
def agk:Obj:=wT 455
def ajK:Obj:=wA
def aj8(P:Params):Obj:=wD (dE P "__module__" 795 (.str "chancehall.doors" 651)::dE P "__qualname__" 797 (.str "Toss" 796)::dE P "__firstlineno__" 799 (.int 254 798)::dR P "__init__" 811 471::dR P "__static_attributes__" 812 472::[]) 5
def ai9:Obj:=⟨.none,none,.fields ⟨i3 256 4 470 <|[]⟩,⟨[]⟩⟩
def ajh:Obj:=wC "Toss" 790 254 461 793
def ajD:Obj:=wF 463 460 "chancehall.doors" 651
def afq:Obj:=tN 803 ["self","name","pay","chance","room","other"]
def agK:Obj:=cO "__init__" "Toss.__init__" 800 256 6 3 465 809
def afF:Obj:=fO "__init__" "Toss.__init__" (ig 66 0) (.str "chancehall.doors" 651) 470
def af4(P:Params):Obj:=wD (dE P "__module__" 795 (.str "chancehall.doors" 651)::dE P "__firstlineno__" 799 (.int 254 798)::dR P "__init__" 811 471::dR P "__static_attributes__" 812 472::dE P "__doc__" 813 .none::[]) 2
def aix:Obj:=wK "Toss" [.ref 455] [.ref 474,.ref 455,.ref 415,.type "object"] 473 [] (some (.ref 458)) 788 796 "object.__new__"
def ai7:Obj:=wS 474
def ajw:Obj:=wB 474
def aiW:Obj:=wT 455
def ajr:Obj:=wA
def ajc(P:Params):Obj:=wD (dE P "__module__" 823 (.str "chancehall.doors" 651)::dE P "__qualname__" 825 (.str "Even" 824)::dE P "__firstlineno__" 827 (.int 260 826)::dR P "__init__" 833 488::dR P "__static_attributes__" 834 489::[]) 5
def aj9:Obj:=⟨.none,none,.fields ⟨i3 262 4 487 <|[]⟩,⟨[]⟩⟩
def ajX:Obj:=wC "Even" 818 260 480 821
def aji:Obj:=wF 482 479 "chancehall.doors" 651
def aij:Obj:=cP "__init__" "Even.__init__" 828 262 4 3 484 831
def agH:Obj:=fO "__init__" "Even.__init__" (ig 67 0) (.str "chancehall.doors" 651) 487
def agG(P:Params):Obj:=wD (dE P "__module__" 823 (.str "chancehall.doors" 651)::dE P "__firstlineno__" 827 (.int 260 826)::dR P "__init__" 833 488::dR P "__static_attributes__" 834 489::dE P "__doc__" 835 .none::[]) 2
def afm:Obj:=wK "Even" [.ref 455] [.ref 491,.ref 455,.ref 415,.type "object"] 490 [] (some (.ref 477)) 816 824 "object.__new__"
def akh:Obj:=wS 491
def ajo:Obj:=wB 491
def aiv:Obj:=cO "check_share" "check_share" 840 265 1 3 494 844
def ae3:Obj:=fO "check_share" "check_share" (top 69) (.str "chancehall.halls" 838) 499
def ae4:Obj:=cO "numbers_of" "numbers_of" 847 268 1 3 501 854
def ahG:Obj:=fO "numbers_of" "numbers_of" (top 70) (.str "chancehall.halls" 838) 506
def aiB:Obj:=tN 860 ["door","numbers","numbered","name","chance"]
def ahI:Obj:=cO "numbered_ways" "numbered_ways" 857 276 2 3 508 865
def afl:Obj:=fO "numbered_ways" "numbered_ways" (top 71) (.str "chancehall.halls" 838) 513
def agD:Obj:=tN 871 ["doors","numbers","taken","told","door"]
def af2:Obj:=cO "offers_of" "offers_of" 868 283 2 3 515 876
def ahe:Obj:=fO "offers_of" "offers_of" (top 72) (.str "chancehall.halls" 838) 520
def ajf:Obj:=wA
def ajZ(P:Params):Obj:=wD (dE P "__module__" 886 (.str "chancehall.halls" 838)::dE P "__qualname__" 888 (.str "Hall" 887)::dE P "__firstlineno__" 890 (.int 292 889)::dR P "__init__" 896 533::dR P "size" 903 540::dR P "names" 910 547::dR P "place" 918 554::dR P "check_room" 926 561::dR P "door_at" 935 568::dR P "offers" 941 573::dR P "__static_attributes__" 945 574::[]) 11
def ajM:Obj:=⟨.none,none,.fields ⟨i3 294 4 532 <|i3 300 4 539 <|i3 303 4 546 <|i3 306 4 553 <|i3 311 4 560 <|i3 315 4 567 <|i3 318 4 572 <|[]⟩,⟨[]⟩⟩
def ajU:Obj:=wC "Hall" 881 292 525 884
def ajC:Obj:=wF 527 524 "chancehall.halls" 838
def afG:Obj:=cP "__init__" "Hall.__init__" 891 294 3 3 529 894
def ahK:Obj:=fO "__init__" "Hall.__init__" (ig 73 0) (.str "chancehall.halls" 838) 532
def ae6:Obj:=fO "size" "Hall.size" (ig 73 1) (.str "chancehall.halls" 838) 539
def ahQ:Obj:=fO "names" "Hall.names" (ig 73 2) (.str "chancehall.halls" 838) 546
def ahc:Obj:=fO "place" "Hall.place" (ig 73 3) (.str "chancehall.halls" 838) 553
def ajO:Obj:=fT "check_room" "Hall.check_room" (ig 73 4)
def ahL:Obj:=cO "check_room" "Hall.check_room" 919 311 2 3 555 924
def afk:Obj:=fO "check_room" "Hall.check_room" (ig 73 4) (.str "chancehall.halls" 838) 560
def aiA:Obj:=cO "door_at" "Hall.door_at" 927 315 3 3 562 933
def afi:Obj:=fO "door_at" "Hall.door_at" (ig 73 5) (.str "chancehall.halls" 838) 567
def afT:Obj:=cP "offers" "Hall.offers" 936 318 2 3 569 939
def agL:Obj:=fO "offers" "Hall.offers" (ig 73 6) (.str "chancehall.halls" 838) 572
def aik(P:Params):Obj:=wD (dE P "__module__" 886 (.str "chancehall.halls" 838)::dE P "__firstlineno__" 890 (.int 292 889)::dR P "__init__" 896 533::dR P "size" 903 540::dR P "names" 910 547::dR P "place" 918 554::dR P "check_room" 926 561::dR P "door_at" 935 568::dR P "offers" 941 573::dR P "__static_attributes__" 945 574::dR P "__dict__" 947 577::dR P "__weakref__" 949 578::dE P "__doc__" 950 .none::[]) 4
def aiz:Obj:=wK "Hall" [.type "object"] [.ref 576,.type "object"] 575 [] none 879 887 "object.__new__"
noncomputable def ai2:Obj:=⟨.type "getset_descriptor",none,.fields ⟨.str "__dict__" 946::.ref 576::.builtin "function.__dict__"::.builtin "function.__dict__#set"::[]⟩,⟨[]⟩⟩
def ag3:Obj:=wG 948 576
def ajj:Obj:=wS 576
def aja:Obj:=wB 576
def aeZ:Obj:=cO "_law_cell" "_law_cell" 955 322 2 3 581 960
def ahV:Obj:=fO "_law_cell" "_law_cell" (top 75) (.str "law_chancehall_k24_whole_two_roads" 953) 586
def ahp:Obj:=tN 966 ["_law_cell_here","_law_many","_law_found","_law_number","_law_digits","_law_k"]
def ah6:Obj:=cO "_law_stream" "_law_stream" 963 324 2 3 588 972
def ahC:Obj:=fO "_law_stream" "_law_stream" (top 76) (.str "law_chancehall_k24_whole_two_roads" 953) 593
def agA:Obj:=tN 978 ["_law_one","_law_other","_law_low","_law_high"]
def af7:Obj:=cO "_law_gcd" "_law_gcd" 975 335 2 3 595 982
def ah7:Obj:=fO "_law_gcd" "_law_gcd" (top 77) (.str "law_chancehall_k24_whole_two_roads" 953) 600
def ae7:Obj:=tN 988 ["_law_top","_law_bottom","_law_common"]
def afj:Obj:=cO "_law_ratio" "_law_ratio" 985 340 2 3 602 991
def ail:Obj:=fO "_law_ratio" "_law_ratio" (top 78) (.str "law_chancehall_k24_whole_two_roads" 953) 607
def afI:Obj:=cO "_law_is_ratio" "_law_is_ratio" 994 343 1 3 609 999
def ae2:Obj:=fO "_law_is_ratio" "_law_is_ratio" (top 79) (.str "law_chancehall_k24_whole_two_roads" 953) 614
def ajP:Obj:=fT "_law_are_ratios" "_law_are_ratios" (top 80)
def ahy:Obj:=cP "_law_are_ratios" "_law_are_ratios" 1002 350 2 3 616 1005
def ahl:Obj:=fO "_law_are_ratios" "_law_are_ratios" (top 80) (.str "law_chancehall_k24_whole_two_roads" 953) 619
def ahY:Obj:=cO "_law_same" "_law_same" 1008 354 2 3 621 1013
def aif:Obj:=fO "_law_same" "_law_same" (top 81) (.str "law_chancehall_k24_whole_two_roads" 953) 626
def agQ:Obj:=cP "_law_names" "_law_names" 1016 356 2 3 628 1019
def aip:Obj:=fO "_law_names" "_law_names" (top 82) (.str "law_chancehall_k24_whole_two_roads" 953) 631
def agW:Obj:=tN 1025 ["_law_cell_here","_law_xs","_law_bottom"]
def ahO:Obj:=cO "_law_share" "_law_share" 1022 365 1 3 633 1028
def agp:Obj:=fO "_law_share" "_law_share" (top 83) (.str "law_chancehall_k24_whole_two_roads" 953) 638
def ah0:Obj:=tN 1034 ["_law_cell_here","_law_x","_law_y"]
def agx:Obj:=cO "_law_pay" "_law_pay" 1031 369 3 3 640 1037
def aic:Obj:=fO "_law_pay" "_law_pay" (top 84) (.str "law_chancehall_k24_whole_two_roads" 953) 645
def aiM:Obj:=cP "_law_door" "_law_door" 1040 377 2 3 647 1043
def aiV:Obj:=fO "_law_door" "_law_door" (top 85) (.str "law_chancehall_k24_whole_two_roads" 953) 650
def afr:Obj:=cP "_law_doors" "_law_doors" 1046 394 4 3 652 1049
def ae9:Obj:=fO "_law_doors" "_law_doors" (top 86) (.str "law_chancehall_k24_whole_two_roads" 953) 655
def aia:Obj:=cP "_law_built" "_law_built" 1052 404 3 3 657 1055
def aiL:Obj:=fO "_law_built" "_law_built" (top 87) (.str "law_chancehall_k24_whole_two_roads" 953) 660
def afs:Obj:=cP "_law_hall" "_law_hall" 1058 414 3 3 662 1061
def ain:Obj:=fO "_law_hall" "_law_hall" (top 88) (.str "law_chancehall_k24_whole_two_roads" 953) 665
def afv:Obj:=tN 1067 ["_law_cell_here","_law_rooms","_law_xs","_law_found","_law_k"]
def ahb:Obj:=cO "_law_chosen" "_law_chosen" 1064 421 2 3 667 1072
def afd:Obj:=fO "_law_chosen" "_law_chosen" (top 89) (.str "law_chancehall_k24_whole_two_roads" 953) 672
def ai4:Obj:=cO "_law_size" "_law_size" 1075 430 1 3 674 1080
def ah3:Obj:=fO "_law_size" "_law_size" (top 90) (.str "law_chancehall_k24_whole_two_roads" 953) 679
def ajB:Obj:=fT "_law_other_pays" "_law_other_pays" (top 91)
def ah8:Obj:=cP "_law_other_pays" "_law_other_pays" 1083 435 3 3 681 1086
def agt:Obj:=fO "_law_other_pays" "_law_other_pays" (top 91) (.str "law_chancehall_k24_whole_two_roads" 953) 684
def agX:Obj:=tN 1092 ["_law_some","_law_top","_law_bottom","_law_one"]
def afU:Obj:=cO "_law_sum" "_law_sum" 1089 444 1 3 686 1096
def aie:Obj:=fO "_law_sum" "_law_sum" (top 92) (.str "law_chancehall_k24_whole_two_roads" 953) 691
def aiH:Obj:=tN 1102 ["_law_found","_law_rooms","_law_plan","_law_some","_law_k","_law_pay_here"]
def ah2:Obj:=cO "_law_paid" "_law_paid" 1099 451 3 3 693 1108
def agU:Obj:=fO "_law_paid" "_law_paid" (top 93) (.str "law_chancehall_k24_whole_two_roads" 953) 698
def tr1(P:Params):BT:=nd (boot_o_0 P) (nd (boot_o_1 P) (nd (aj2 P) (nd (boot_o_7 P) (nd tE (nd q31 (nd fE (nd ahw (n1 (tN 506 ["leveled","steps","step"]) tE) (n1 afp agp)) (nd tE (n1 (fT "only_answer" "only_answer" (top 47)) (aik P)) (lf fE))) (nd q95 (nd fE (n1 fE (tN 907 ["self"])) (n1 afK (fT "_law_chosen" "_law_chosen" (top 89)))) (nd fE (n1 (fT "is_word" "is_word" (top 56)) afj) (lf (ajc P))))) (nd q47 (nd (q79 P) (nd af0 (n1 (fT "clear_column" "clear_column" (top 38)) ajU) (n1 tE afr)) (nd (tN 443 ["hall","plan","room","thing"]) (n1 fE tE) (lf ajh))) (nd (tN 318 ["self","room"]) (nd tE (n1 tE ajO) (n1 (fT "__init__" "Sure.__init__" (ig 64 0)) fE)) (nd ahd (n1 ahg (tN 1011 ["_law_one","_law_other"])) (lf fE))))) (nd q23 (nd fE (nd q71 (nd afB (n1 tE (fT "offers_of" "offers_of" (top 72))) (n1 ajt tE)) (nd fE (n1 tE (tN 958 ["_law_script","_law_k"])) (lf air))) (nd ajz (nd (tN 393 ["one","other"]) (n1 afy tE) (n1 tE ai4)) (nd (fT "take_step" "take_step" (top 32)) (n1 ag1 ae2) (lf aij)))) (nd (q55 P) (nd q87 (nd tE (n1 tE fE) (n1 fE fE)) (nd (cP "lowest" "lowest" 452 88 2 3 212 455) (n1 afX (fT "_law_gcd" "_law_gcd" (top 77))) (lf afF))) (nd akc (nd (fT "under" "under" (top 21)) (n1 fE aiA) (n1 afC aiH)) (nd fE (n1 tE agQ) (lf (tN 850 ["rooms","numbers","room","name"]))))))) (nd o11 (nd (fT "_wall" "_wall" (top 0)) (nd q35 (nd (q67 P) (nd tE (n1 ag4 tE) (n1 (aj0 P) tE)) (nd (fT "total" "total" (top 24)) (n1 fE ajj) (lf agn))) (nd q99 (nd (cO "minus" "minus" 382 58 2 3 158 387) (n1 tE ahQ) (n1 ajS fE)) (nd tE (n1 fE (tN 997 ["_law_found","_law_number"])) (lf aji)))) (nd fE (nd q83 (nd tE (n1 fE (fT "__init__" "Hall.__init__" (ig 73 0))) (n1 (fT "ways" "Door.ways" (ig 63 1)) (fT "_law_built" "_law_built" (top 87)))) (nd agY (n1 tE tE) (lf afq))) (nd agM (nd tE (n1 (fT "answer_of" "answer_of" (top 45)) fE) (n1 (afg P) afU)) (nd (fT "fractions_of" "fractions_of" (top 34)) (n1 tE aif) (lf aiv))))) (nd q27 (nd (q43 P) (nd fE (nd (tN 359 ["top","bottom","common"]) (n1 tE ajf) (n1 tE aiV)) (nd (cO "fits" "fits" 432 76 2 3 198 437) (n1 (fT "left_rows" "left_rows" (top 50)) ahV) (lf ajK))) (nd ajx (nd agT (n1 tE tE) (n1 tE ajB)) (nd fE (n1 (tN 664 ["room"]) ahy) (lf afm)))) (nd q59 (nd fE (nd (fT "plus" "plus" (top 17)) (n1 (fT "width_of" "width_of" (top 41)) (cO "size" "Hall.size" 897 300 1 3 534 901)) (n1 aiN tE)) (nd (fT "row_times" "row_times" (top 30)) (n1 aeX fE) (lf ai7))) (nd (tN 333 ["thing"]) (nd fE (n1 tE (fT "offers" "Hall.offers" (ig 73 6))) (n1 akb agU)) (nd af5 (n1 ag7 agW) (lf ahG))))))) (nd (boot_o_5 P) (nd (boot_o_9 P) (nd (tN 190 ["k"]) (nd q33 (nd q65 (nd fE (n1 (fT "go_on" "go_on" (top 36)) ahI) (n1 tE fE)) (nd (tN 425 ["fractions","leveled"]) (n1 ahA ai2) (lf tE))) (nd (tN 298 ["room"]) (nd tE (n1 afn (fT "names" "Hall.names" (ig 73 2))) (n1 ahf afd)) (nd (cP "row_plus" "row_plus" 464 95 3 3 222 467) (n1 afw tE) (lf aj9)))) (nd (q49 P) (nd q81 (nd fE (n1 agd tE) (n1 (tN 711 ["self"]) tE)) (nd (fT "check_plan" "check_plan" (top 27)) (n1 (cP "turned" "turned" 623 188 1 3 334 626) ah6) (lf tE))) (nd (fT "__init__" "NoPlan.__init__" (ig 8 0)) (nd (cO "over" "over" 398 62 2 3 172 403) (n1 afZ afk) (n1 aiD tE)) (nd tE (n1 fE (fT "_law_same" "_law_same" (top 81))) (lf tE))))) (nd tE (nd q41 (nd (q73 P) (nd tE (n1 afD ahe) (n1 fE (fT "_law_door" "_law_door" (top 85)))) (nd tE (n1 ahH (fT "_law_cell" "_law_cell" (top 75))) (lf ai5))) (nd tE (nd (fT "times" "times" (top 19)) (n1 fE (cO "place" "Hall.place" 911 306 2 3 548 916)) (n1 ajG tE)) (nd ah9 (n1 tE fE) (lf tE)))) (nd q57 (nd q89 (nd (tN 377 ["one","other"]) (n1 (tN 547 ["rows"]) tE) (n1 tE afs)) (nd tE (n1 fE ah7) (lf (af4 P)))) (nd tE (nd ag2 (n1 ahq tE) (n1 (ake P) (fT "_law_paid" "_law_paid" (top 93)))) (nd tE (n1 (fT "check_pairs" "check_pairs" (top 61)) tE) (lf (fT "numbers_of" "numbers_of" (top 70)))))))) (nd o13 (nd q21 (nd (q37 P) (nd q69 (nd (cO "divisor" "divisor" 337 28 2 3 128 345) (n1 fE agD) (n1 ajy agx)) (nd ahm (n1 ag5 tE) (lf (tN 783 ["leads"])))) (nd ajd (nd tE (n1 (fT "begins_of" "begins_of" (top 43)) fE) (n1 ajn tE)) (nd (tN 473 ["leveled","step","row"]) (n1 tE (fT "_law_is_ratio" "_law_is_ratio" (top 79))) (lf fE)))) (nd q53 (nd (q85 P) (nd (cO "is_ratio" "is_ratio" 365 48 1 3 144 371) (n1 (cP "reduced" "reduced" 536 134 2 3 274 539) ahK) (n1 afH aiL)) (nd fE (n1 (fT "worths_of" "worths_of" (top 52)) agA) (lf (fT "__init__" "Toss.__init__" (ig 66 0))))) (nd (agf P) (nd (tN 409 ["one","other"]) (n1 aib tE) (n1 ajQ tE)) (nd afP (n1 aiZ fE) (lf tE))))) (nd tE (nd q45 (nd q77 (nd (fT "ratio" "ratio" (top 15)) (n1 agV tE) (n1 aii fE)) (nd tE (n1 aiT fE) (lf tE))) (nd tE (nd fE (n1 (cO "odd_row" "odd_row" 563 159 3 3 296 570) (tN 922 ["self","room"])) (n1 (tN 749 ["self","name","pay","room"]) agt)) (nd tE (n1 ajl tE) (lf ajo)))) (nd (q61 P) (nd tE (nd agz (n1 agF tE) (n1 (tN 723 ["leads","name","pay"]) afv)) (nd afM (n1 tE tE) (lf aiW))) (nd (fT "is_whole" "is_whole" (top 10)) (nd (cP "level" "level" 416 67 1 3 186 419) (n1 afJ agL) (lf ajg)) (nd tE (n1 fE (fT "_law_share" "_law_share" (top 83))) (lf fE)))))))) (nd (boot_o_2 P) (nd (boot_o_4 P) (nd (boot_o_8 P) (nd fE (nd q32 (nd q64 (nd tE (n1 tE (fT "numbered_ways" "numbered_ways" (top 71))) (n1 ahN tE)) (nd fE (n1 ahM aiz) (lf (tN 776 ["self","name","pay","pairs"])))) (nd q96 (nd (tN 385 ["one","other"]) (n1 (fT "with_rights" "with_rights" (top 42)) tE) (n1 afb ahb)) (nd (fT "row_plus" "row_plus" (top 31)) (n1 (cP "is_word" "is_word" 645 202 1 3 349 648) ail) (lf tE)))) (nd q48 (nd q80 (nd tE (n1 agR ajC) (n1 fE ae9)) (nd tE (n1 (fT "turned" "turned" (top 51)) (fT "_law_stream" "_law_stream" (top 76))) (lf ajD))) (nd tE (nd (fT "over" "over" (top 20)) (n1 fE ahL) (n1 agc agX)) (nd aiU (n1 tE tE) (lf (tN 843 ["share"])))))) (nd (q24 P) (nd q40 (nd q72 (nd af8 (n1 (fT "begin_row" "begin_row" (top 37)) af2) (n1 tE fE)) (nd (tN 435 ["thing","many"]) (n1 fE tE) (lf ajb))) (nd (aje P) (nd tE (n1 tE (fT "place" "Hall.place" (ig 73 3))) (n1 ajN ah3)) (nd aht (n1 aiS tE) (lf agH)))) (nd q56 (nd q88 (nd fE (n1 fE (tN 900 ["self"])) (n1 (tN 718 ["self","room"]) (fT "_law_hall" "_law_hall" (top 88)))) (nd afA (n1 tE af7) (lf tE))) (nd ai6 (nd (cO "under" "under" 406 64 2 3 179 411) (n1 (fT "single_rows" "single_rows" (top 46)) afi) (n1 aj7 tE)) (nd ahJ (n1 fE aip) (lf tE)))))) (nd aeY (nd (cO "_wall" "_wall" 187 1 1 3 15 191) (nd q36 (nd q68 (nd (fT "divisor" "divisor" (top 11)) (n1 tE fE) (n1 tE (fT "_law_pay" "_law_pay" (top 84)))) (nd (cO "total" "total" 422 72 1 3 191 427) (n1 (fT "chosen_doors" "chosen_doors" (top 49)) aja) (lf aho))) (nd ajp (nd ahB (n1 fE tE) (n1 aiq (tN 1078 ["_law_cell_here","_law_xs"]))) (nd fE (n1 (tN 656 ["name","pay"]) tE) (lf tE)))) (nd q52 (nd q84 (nd (fT "is_ratio" "is_ratio" (top 16)) (n1 (fT "reduced" "reduced" (top 39)) afG) (n1 (cO "ways" "Door.ways" 708 237 1 3 399 712) aia)) (nd tE (n1 fE fE) (lf tE))) (nd (tN 323 ["room"]) (nd fE (n1 afV (tN 930 ["self","room","name"])) (n1 ahv aie)) (nd agI (n1 (fT "check_chance" "check_chance" (top 60)) tE) (lf ae3))))) (nd q28 (nd q44 (nd q76 (nd tE (n1 fE (ajZ P)) (n1 (fT "__init__" "Door.__init__" (ig 63 0)) tE)) (nd ahW (n1 ahk tE) (lf (aj8 P)))) (nd ajk (nd tE (n1 (fT "odd_row" "odd_row" (top 44)) fE) (n1 fE ah8)) (nd (tN 482 ["row","column"]) (n1 tE ahl) (lf akh)))) (nd q60 (nd (tN 293 ["self","room"]) (nd (cO "plus" "plus" 374 56 2 3 151 379) (n1 aiC ae6) (n1 ahr fE)) (nd agP (n1 agS ae7) (lf ajw))) (nd tE (nd (fT "level" "level" (top 23)) (n1 fE afT) (lf aj6)) (nd agN (n1 tE tE) (lf tE))))))) (nd (boot_o_6 P) (nd (boot_o_10 P) (nd tE (nd q34 (nd tE (nd ae5 (n1 (cO "go_on" "go_on" 503 120 3 3 253 509) afl) (n1 ajH ah0)) (nd tE (n1 tE ag3) (lf (fT "__init__" "Mixed.__init__" (ig 65 0))))) (nd (q98 P) (nd (fT "minus" "minus" (top 18)) (n1 aiF (cO "names" "Hall.names" 904 303 1 3 541 908)) (n1 ajR tE)) (nd ah1 (n1 tE fE) (lf ajX)))) (nd tE (nd q82 (nd (tN 368 ["thing","top","bottom"]) (n1 tE fE) (n1 tE fE)) (nd agm (n1 agu ahC) (lf fE))) (nd ago (nd afo (n1 tE tE) (n1 (tN 756 ["leads"]) (fT "_law_sum" "_law_sum" (top 92)))) (nd fE (n1 (tN 671 ["chance"]) ahY) (lf (fT "check_share" "check_share" (top 69))))))) (nd fE (nd tE (nd tE (nd fE (n1 ahh tE) (n1 (tN 702 ["self","name","pay"]) aiM)) (nd (fT "fits" "fits" (top 26)) (n1 tE aeZ) (lf agk))) (nd ajA (nd (cO "times" "times" 390 60 2 3 165 395) (n1 (tN 566 ["end","begins","wide","row"]) ahc) (n1 ajT fE)) (nd tE (n1 fE ajP) (lf (agG P))))) (nd q58 (nd tE (nd tE (n1 tE (fT "size" "Hall.size" (ig 73 1))) (n1 (fT "chance_to" "Door.chance_to" (ig 63 2)) ain)) (nd fE (n1 (fT "visits_from" "visits_from" (top 53)) tE) (lf aix))) (nd fE (nd tE (n1 agZ fE) (n1 tE ah2)) (nd (fT "first_from" "first_from" (top 35)) (n1 ahE fE) (lf ae4)))))) (nd o14 (nd q22 (nd tE (nd q70 (nd ai1 (n1 aiJ tE) (n1 ajm aic)) (nd tE (n1 agq fE) (lf (afu P)))) (nd agh (nd fE (n1 aiX (tN 914 ["self","name"])) (n1 (ajY P) (fT "_law_size" "_law_size" (top 90)))) (nd tE (n1 (fT "check_head" "check_head" (top 58)) afI) (lf (fT "__init__" "Even.__init__" (ig 67 0)))))) (nd tE (nd tE (nd agw (n1 ahD tE) (n1 tE tE)) (nd (fT "lowest" "lowest" (top 29)) (n1 ai3 tE) (lf agK))) (nd agj (nd tE (n1 tE (fT "door_at" "Hall.door_at" (ig 73 5))) (n1 aj5 fE)) (nd tE (n1 ahs (fT "_law_names" "_law_names" (top 82))) (lf fE))))) (nd (q30 P) (nd q46 (nd tE (nd (cO "ratio" "ratio" 356 39 2 3 137 362) (n1 tE ajM) (n1 ahz (fT "_law_doors" "_law_doors" (top 86)))) (nd fE (n1 tE ahp) (lf ai9))) (nd fE (nd (tN 401 ["one","other"]) (n1 agr tE) (n1 tE tE)) (nd (fT "number_at" "number_at" (top 33)) (n1 aga fE) (lf tE)))) (nd tE (nd (fT "__init__" "NoRoom.__init__" (ig 7 0)) (nd tE (n1 tE fE) (n1 (afW P) tE)) (nd tE (n1 fE (fT "_law_ratio" "_law_ratio" (top 78))) (lf ajr))) (nd (cO "is_whole" "is_whole" 330 26 1 3 121 334) (nd afz (n1 tE (tN 942 ["numbers","offered","share"])) (lf tE)) (nd fE (n1 (fT "joined_ways" "joined_ways" (top 62)) ahO) (lf aiB))))))))
def S1(w:World)(os:OsState):SharedT:=⟨tr1 w.params,700,{},⟨[]⟩,{},1111,os⟩
noncomputable def e1:Pos:=⟨451,0,457,30⟩
def KH:Params->Frag:=λP=>(
 (nat_lit 2,boot_o_2 P)::(nat_lit 3,wD (dE P "__name__" 165 (.str "law_chancehall_k24_whole_two_roads" 953)::dE P "__doc__" 166 .none::dE P "__package__" 167 .none::dE P "__loader__" 168 (.builtin "__main__.__loader__#opaque")::dE P "__spec__" 169 .none::dR P "__annotations__" 170 6::dR P "__builtins__" 171 4::dE P "__file__" 173 (.str "/claim/cut.py" 172)::dE P "__cached__" 174 .none::dR P "_wall" 193 21::dR P "HallError" 213 31::dR P "NoNumber" 229 44::dR P "NoName" 245 56::dR P "NoChance" 261 68::dR P "NoShare" 277 80::dR P "NoRoom" 302 99::dR P "NoPlan" 327 118::dR P "is_whole" 336 127::dR P "divisor" 347 134::dR P "NOUGHT" 352 135::dR P "ONE" 355 136::dR P "ratio" 364 143::dR P "is_ratio" 373 150::dR P "plus" 381 157::dR P "minus" 389 164::dR P "times" 397 171::dR P "over" 405 178::dR P "under" 413 185::dR P "level" 421 190::dR P "total" 429 197::dR P "fits" 439 204::dR P "check_plan" 449 211::dR P "lowest" 457 216::dR P "row_times" 463 221::dR P "row_plus" 469 226::dR P "take_step" 478 233::dR P "number_at" 486 240::dR P "fractions_of" 492 245::dR P "first_from" 502 252::dR P "go_on" 511 259::dR P "begin_row" 523 266::dR P "clear_column" 535 273::dR P "reduced" 541 278::dR P "width_of" 550 285::dR P "with_rights" 556 290::dR P "begins_of" 562 295::dR P "odd_row" 572 302::dR P "answer_of" 584 309::dR P "single_rows" 590 314::dR P "only_answer" 601 321::dR P "chosen_doors" 609 326::dR P "left_rows" 622 333::dR P "turned" 628 338::dR P "worths_of" 634 343::dR P "visits_from" 640 348::dE P "LONGEST_WORD" 644 (.int 8 643)::dR P "is_word" 650 353::dR P "check_head" 660 360::dR P "check_room_name" 667 367::dR P "check_chance" 674 374::dR P "check_pairs" 680 379::dR P "joined_ways" 686 384::dR P "Door" 733 415::dR P "Sure" 760 436::dR P "Mixed" 787 455::dR P "Toss" 815 474::dR P "Even" 837 491::dR P "check_share" 846 500::dR P "numbers_of" 856 507::dR P "numbered_ways" 867 514::dR P "offers_of" 878 521::dR P "Hall" 952 576::dR P "_law_cell" 962 587::dR P "_law_stream" 974 594::dR P "_law_gcd" 984 601::dR P "_law_ratio" 993 608::dR P "_law_is_ratio" 1001 615::dR P "_law_are_ratios" 1007 620::dR P "_law_same" 1015 627::dR P "_law_names" 1021 632::dR P "_law_share" 1030 639::dR P "_law_pay" 1039 646::dR P "_law_door" 1045 651::dR P "_law_doors" 1051 656::dR P "_law_built" 1057 661::dR P "_law_hall" 1063 666::dR P "_law_chosen" 1074 673::dR P "_law_size" 1082 680::dR P "_law_other_pays" 1088 685::dR P "_law_sum" 1098 692::dR P "_law_paid" 1110 699::dR P "_law_whole" 1116 704::dR P "law" 1122 709::[]) 93)::(nat_lit 15,tE)::(nat_lit 17,tN 190 ["k"])::(nat_lit 18,tE)::(nat_lit 20,cO "_wall" "_wall" 187 1 1 3 15 191)::(nat_lit 21,q21)::(nat_lit 22,q22)::(nat_lit 29,tE)::(nat_lit 30,q30 P)::(nat_lit 31,q31)::(nat_lit 32,q32)::(nat_lit 35,q35)::(nat_lit 42,tE)::(nat_lit 43,q43 P)::(nat_lit 44,q44)::(nat_lit 47,q47)::(nat_lit 54,tE)::(nat_lit 55,q55 P)::(nat_lit 56,q56)::(nat_lit 59,q59)::(nat_lit 66,tE)::(nat_lit 67,q67 P)::(nat_lit 68,q68)::(nat_lit 71,q71)::(nat_lit 78,tE)::(nat_lit 79,q79 P)::(nat_lit 80,q80)::(nat_lit 83,q83)::(nat_lit 90,tE)::(nat_lit 92,tN 293 ["self","room"])::(nat_lit 93,tE)::(nat_lit 95,q95)::(nat_lit 96,q96)::(nat_lit 97,tN 298 ["room"])::(nat_lit 98,q98 P)::(nat_lit 99,q99)::(nat_lit 102,agh)::(nat_lit 109,tE)::(nat_lit 111,tN 318 ["self","room"])::(nat_lit 112,tE)::(nat_lit 114,ago)::(nat_lit 115,agM)::(nat_lit 116,tN 323 ["room"])::(nat_lit 117,agf P)::(nat_lit 118,agj)::(nat_lit 121,tE)::(nat_lit 123,tN 333 ["thing"])::(nat_lit 124,tE)::(nat_lit 126,cO "is_whole" "is_whole" 330 26 1 3 121 334)::(nat_lit 127,ahw)::(nat_lit 128,tE)::(nat_lit 130,ae5)::(nat_lit 131,tE)::(nat_lit 133,cO "divisor" "divisor" 337 28 2 3 128 345)::(nat_lit 134,ai1)::(nat_lit 135,afB)::(nat_lit 136,af8)::(nat_lit 137,tE)::(nat_lit 139,tN 359 ["top","bottom","common"])::(nat_lit 140,tE)::(nat_lit 142,cO "ratio" "ratio" 356 39 2 3 137 362)::(nat_lit 143,af0)::(nat_lit 144,tE)::(nat_lit 146,tN 368 ["thing","top","bottom"])::(nat_lit 147,tE)::(nat_lit 149,cO "is_ratio" "is_ratio" 365 48 1 3 144 371)::(nat_lit 150,agw)::(nat_lit 151,tE)::(nat_lit 153,tN 377 ["one","other"])::(nat_lit 154,tE)::(nat_lit 156,cO "plus" "plus" 374 56 2 3 151 379)::(nat_lit 157,agz)::(nat_lit 158,tE)::(nat_lit 160,tN 385 ["one","other"])::(nat_lit 161,tE)::(nat_lit 163,cO "minus" "minus" 382 58 2 3 158 387)::(nat_lit 164,ahB)::(nat_lit 165,tE)::(nat_lit 167,tN 393 ["one","other"])::(nat_lit 168,tE)::(nat_lit 170,cO "times" "times" 390 60 2 3 165 395)::(nat_lit 171,agT)::(nat_lit 172,tE)::(nat_lit 174,tN 401 ["one","other"])::(nat_lit 175,tE)::(nat_lit 177,cO "over" "over" 398 62 2 3 172 403)::(nat_lit 178,afo)::(nat_lit 179,tE)::(nat_lit 181,tN 409 ["one","other"])::(nat_lit 182,tE)::(nat_lit 184,cO "under" "under" 406 64 2 3 179 411)::(nat_lit 185,ag2)::(nat_lit 186,tE)::(nat_lit 189,cP "level" "level" 416 67 1 3 186 419)::(nat_lit 190,afz)::(nat_lit 191,tE)::(nat_lit 193,tN 425 ["fractions","leveled"])::(nat_lit 194,tE)::(nat_lit 196,cO "total" "total" 422 72 1 3 191 427)::(nat_lit 197,ahm)::(nat_lit 198,tE)::(nat_lit 200,tN 435 ["thing","many"])::(nat_lit 201,tE)::(nat_lit 203,cO "fits" "fits" 432 76 2 3 198 437)::(nat_lit 204,ahW)::(nat_lit 205,tE)::(nat_lit 207,tN 443 ["hall","plan","room","thing"])::(nat_lit 208,tE)::(nat_lit 210,agm)::(nat_lit 211,agY)::(nat_lit 212,tE)::(nat_lit 215,cP "lowest" "lowest" 452 88 2 3 212 455)::(nat_lit 216,afA)::(nat_lit 217,tE)::(nat_lit 220,agP)::(nat_lit 221,afM)::(nat_lit 222,tE)::(nat_lit 225,cP "row_plus" "row_plus" 464 95 3 3 222 467)::(nat_lit 226,ah1)::(nat_lit 227,tE)::(nat_lit 229,tN 473 ["leveled","step","row"])::(nat_lit 230,tE)::(nat_lit 232,aht)::(nat_lit 233,ah9)::(nat_lit 234,tE)::(nat_lit 236,tN 482 ["row","column"])::(nat_lit 237,tE)::(nat_lit 239,ahd)::(nat_lit 240,aiU)::(nat_lit 241,tE)::(nat_lit 244,agI)::(nat_lit 245,afP)::(nat_lit 246,tE)::(nat_lit 248,ahJ)::(nat_lit 249,tE)::(nat_lit 251,af5)::(nat_lit 252,agN)::(nat_lit 253,tE)::(nat_lit 255,tN 506 ["leveled","steps","step"])::(nat_lit 256,tE)::(nat_lit 258,cO "go_on" "go_on" 503 120 3 3 253 509)::(nat_lit 259,ag4)::(nat_lit 260,tE)::(nat_lit 262,aiJ)::(nat_lit 263,tE)::(nat_lit 265,afD)::(nat_lit 266,ahh)::(nat_lit 267,tE)::(nat_lit 269,agV)::(nat_lit 270,tE)::(nat_lit 272,agR)::(nat_lit 273,agd)::(nat_lit 274,tE)::(nat_lit 277,cP "reduced" "reduced" 536 134 2 3 274 539)::(nat_lit 278,ahD)::(nat_lit 279,tE)::(nat_lit 281,tN 547 ["rows"])::(nat_lit 282,tE)::(nat_lit 284,aiC)::(nat_lit 285,agF)::(nat_lit 286,tE)::(nat_lit 289,afn)::(nat_lit 290,aiF)::(nat_lit 291,tE)::(nat_lit 294,aiX)::(nat_lit 295,afy)::(nat_lit 296,tE)::(nat_lit 298,tN 566 ["end","begins","wide","row"])::(nat_lit 299,tE)::(nat_lit 301,cO "odd_row" "odd_row" 563 159 3 3 296 570)::(nat_lit 302,agr)::(nat_lit 303,tE)::(nat_lit 305,afZ)::(nat_lit 306,tE)::(nat_lit 308,afV)::(nat_lit 309,aib)::(nat_lit 310,tE)::(nat_lit 313,ahq)::(nat_lit 314,agZ)::(nat_lit 315,tE)::(nat_lit 317,afJ)::(nat_lit 318,tE)::(nat_lit 320,ahM)::(nat_lit 321,ahA)::(nat_lit 322,tE)::(nat_lit 325,ag5)::(nat_lit 326,agq)::(nat_lit 327,tE)::(nat_lit 329,ahH)::(nat_lit 330,tE)::(nat_lit 332,ahk)::(nat_lit 333,aiT)::(nat_lit 334,tE)::(nat_lit 337,cP "turned" "turned" 623 188 1 3 334 626)::(nat_lit 338,agu)::(nat_lit 339,tE)::(nat_lit 342,ai3)::(nat_lit 343,afX)::(nat_lit 344,tE)::(nat_lit 347,aeX)::(nat_lit 348,agS)::(nat_lit 349,tE)::(nat_lit 352,cP "is_word" "is_word" 645 202 1 3 349 648)::(nat_lit 353,afw)::(nat_lit 354,tE)::(nat_lit 356,tN 656 ["name","pay"])::(nat_lit 357,tE)::(nat_lit 359,ag1)::(nat_lit 360,aiS)::(nat_lit 361,tE)::(nat_lit 363,tN 664 ["room"])::(nat_lit 364,tE)::(nat_lit 366,aga)::(nat_lit 367,ahg)::(nat_lit 368,tE)::(nat_lit 370,tN 671 ["chance"])::(nat_lit 371,tE)::(nat_lit 373,aiZ)::(nat_lit 374,ahs)::(nat_lit 375,tE)::(nat_lit 378,ahE)::(nat_lit 379,ag7)::(nat_lit 380,tE)::(nat_lit 383,afp)::(nat_lit 384,ahN)::(nat_lit 392,tE)::(nat_lit 394,tN 702 ["self","name","pay"])::(nat_lit 395,tE)::(nat_lit 397,aii)::(nat_lit 398,ahz)::(nat_lit 399,tE)::(nat_lit 401,tN 711 ["self"])::(nat_lit 402,tE)::(nat_lit 404,cO "ways" "Door.ways" 708 237 1 3 399 712)::(nat_lit 405,afH)::(nat_lit 406,tE)::(nat_lit 408,tN 718 ["self","room"])::(nat_lit 409,tE)::(nat_lit 411,aiN)::(nat_lit 412,ahr)::(nat_lit 413,tN 723 ["leads","name","pay"])::(nat_lit 414,afW P)::(nat_lit 415,afK)::(nat_lit 416,afb)::(nat_lit 417,ahf)::(nat_lit 420,aiq)::(nat_lit 427,tE)::(nat_lit 429,tN 749 ["self","name","pay","room"])::(nat_lit 430,tE)::(nat_lit 432,agc)::(nat_lit 433,aiD)::(nat_lit 434,tN 756 ["leads"])::(nat_lit 435,afg P)::(nat_lit 436,ahv)::(nat_lit 439,afC)::(nat_lit 446,tE)::(nat_lit 448,tN 776 ["self","name","pay","pairs"])::(nat_lit 449,tE)::(nat_lit 451,agn)::(nat_lit 452,aho)::(nat_lit 453,tN 783 ["leads"])::(nat_lit 454,afu P)::(nat_lit 455,air)::(nat_lit 458,agk)::(nat_lit 465,tE)::(nat_lit 467,afq)::(nat_lit 468,tE)::(nat_lit 470,agK)::(nat_lit 471,afF)::(nat_lit 472,tE)::(nat_lit 473,af4 P)::(nat_lit 474,aix)::(nat_lit 477,aiW)::(nat_lit 484,tE)::(nat_lit 487,aij)::(nat_lit 488,agH)::(nat_lit 489,tE)::(nat_lit 490,agG P)::(nat_lit 491,afm)::(nat_lit 494,tE)::(nat_lit 496,tN 843 ["share"])::(nat_lit 497,tE)::(nat_lit 499,aiv)::(nat_lit 500,ae3)::(nat_lit 501,tE)::(nat_lit 503,tN 850 ["rooms","numbers","room","name"])::(nat_lit 504,tE)::(nat_lit 506,ae4)::(nat_lit 507,ahG)::(nat_lit 508,tE)::(nat_lit 510,aiB)::(nat_lit 511,tE)::(nat_lit 513,ahI)::(nat_lit 514,afl)::(nat_lit 515,tE)::(nat_lit 517,agD)::(nat_lit 518,tE)::(nat_lit 520,af2)::(nat_lit 521,ahe)::(nat_lit 529,tE)::(nat_lit 532,afG)::(nat_lit 533,ahK)::(nat_lit 534,tE)::(nat_lit 536,tN 900 ["self"])::(nat_lit 537,tE)::(nat_lit 539,cO "size" "Hall.size" 897 300 1 3 534 901)::(nat_lit 540,ae6)::(nat_lit 541,tE)::(nat_lit 543,tN 907 ["self"])::(nat_lit 544,tE)::(nat_lit 546,cO "names" "Hall.names" 904 303 1 3 541 908)::(nat_lit 547,ahQ)::(nat_lit 548,tE)::(nat_lit 550,tN 914 ["self","name"])::(nat_lit 551,tE)::(nat_lit 553,cO "place" "Hall.place" 911 306 2 3 548 916)::(nat_lit 554,ahc)::(nat_lit 555,tE)::(nat_lit 557,tN 922 ["self","room"])::(nat_lit 558,tE)::(nat_lit 560,ahL)::(nat_lit 561,afk)::(nat_lit 562,tE)::(nat_lit 564,tN 930 ["self","room","name"])::(nat_lit 565,tE)::(nat_lit 567,aiA)::(nat_lit 568,afi)::(nat_lit 569,tE)::(nat_lit 572,afT)::(nat_lit 573,agL)::(nat_lit 574,tN 942 ["numbers","offered","share"])::(nat_lit 575,aik P)::(nat_lit 576,aiz)::(nat_lit 577,ai2)::(nat_lit 578,ag3)::(nat_lit 581,tE)::(nat_lit 583,tN 958 ["_law_script","_law_k"])::(nat_lit 584,tE)::(nat_lit 586,aeZ)::(nat_lit 587,ahV)::(nat_lit 588,tE)::(nat_lit 590,ahp)::(nat_lit 591,tE)::(nat_lit 593,ah6)::(nat_lit 594,ahC)::(nat_lit 595,tE)::(nat_lit 597,agA)::(nat_lit 598,tE)::(nat_lit 600,af7)::(nat_lit 601,ah7)::(nat_lit 602,tE)::(nat_lit 604,ae7)::(nat_lit 605,tE)::(nat_lit 607,afj)::(nat_lit 608,ail)::(nat_lit 609,tE)::(nat_lit 611,tN 997 ["_law_found","_law_number"])::(nat_lit 612,tE)::(nat_lit 614,afI)::(nat_lit 615,ae2)::(nat_lit 616,tE)::(nat_lit 619,ahy)::(nat_lit 620,ahl)::(nat_lit 621,tE)::(nat_lit 623,tN 1011 ["_law_one","_law_other"])::(nat_lit 624,tE)::(nat_lit 626,ahY)::(nat_lit 627,aif)::(nat_lit 628,tE)::(nat_lit 631,agQ)::(nat_lit 632,aip)::(nat_lit 633,tE)::(nat_lit 635,agW)::(nat_lit 636,tE)::(nat_lit 638,ahO)::(nat_lit 639,agp)::(nat_lit 640,tE)::(nat_lit 642,ah0)::(nat_lit 643,tE)::(nat_lit 645,agx)::(nat_lit 646,aic)::(nat_lit 647,tE)::(nat_lit 650,aiM)::(nat_lit 651,aiV)::(nat_lit 652,tE)::(nat_lit 655,afr)::(nat_lit 656,ae9)::(nat_lit 657,tE)::(nat_lit 660,aia)::(nat_lit 661,aiL)::(nat_lit 662,tE)::(nat_lit 665,afs)::(nat_lit 666,ain)::(nat_lit 667,tE)::(nat_lit 669,afv)::(nat_lit 670,tE)::(nat_lit 672,ahb)::(nat_lit 673,afd)::(nat_lit 674,tE)::(nat_lit 676,tN 1078 ["_law_cell_here","_law_xs"])::(nat_lit 677,tE)::(nat_lit 679,ai4)::(nat_lit 680,ah3)::(nat_lit 681,tE)::(nat_lit 684,ah8)::(nat_lit 685,agt)::(nat_lit 686,tE)::(nat_lit 688,agX)::(nat_lit 689,tE)::(nat_lit 691,afU)::(nat_lit 692,aie)::(nat_lit 693,tE)::(nat_lit 695,aiH)::(nat_lit 696,tE)::(nat_lit 698,ah2)::(nat_lit 699,agU)::(nat_lit 700,tE)::(nat_lit 703,cP "_law_whole" "_law_whole" 1111 458 3 3 700 1114)::(nat_lit 704,fO "_law_whole" "_law_whole" (top 94) (.str "law_chancehall_k24_whole_two_roads" 953) 703)::(nat_lit 705,tE)::(nat_lit 708,cP "law" "law" 1117 463 1 3 705 1120)::(nat_lit 709,fO "law" "law" (top 95) (.str "law_chancehall_k24_whole_two_roads" 953) 708)::([] : List (Nat×Obj)))
noncomputable abbrev asH:List Nat:=[2,3,15,17,18,20,21,22,29,30,31,32,35,42,43,44,47,54,55,56,59,66,67,68,71,78,79,80,83,90,92,93,95,96,97,98,99,102,109,111,112,114,115,116,117,118,121,123,124,126,127,128,130,131,133,134,135,136,137,139,140,142,143,144,146,147,149,150,151,153,154,156,157,158,160,161,163,164,165,167,168,170,171,172,174,175,177,178,179,181,182,184,185,186,189,190,191,193,194,196,197,198,200,201,203,204,205,207,208,210,211,212,215,216,217,220,221,222,225,226,227,229,230,232,233,234,236,237,239,240,241,244,245,246,248,249,251,252,253,255,256,258,259,260,262,263,265,266,267,269,270,272,273,274,277,278,279,281,282,284,285,286,289,290,291,294,295,296,298,299,301,302,303,305,306,308,309,310,313,314,315,317,318,320,321,322,325,326,327,329,330,332,333,334,337,338,339,342,343,344,347,348,349,352,353,354,356,357,359,360,361,363,364,366,367,368,370,371,373,374,375,378,379,380,383,384,392,394,395,397,398,399,401,402,404,405,406,408,409,411,412,413,414,415,416,417,420,427,429,430,432,433,434,435,436,439,446,448,449,451,452,453,454,455,458,465,467,468,470,471,472,473,474,477,484,487,488,489,490,491,494,496,497,499,500,501,503,504,506,507,508,510,511,513,514,515,517,518,520,521,529,532,533,534,536,537,539,540,541,543,544,546,547,548,550,551,553,554,555,557,558,560,561,562,564,565,567,568,569,572,573,574,575,576,577,578,581,583,584,586,587,588,590,591,593,594,595,597,598,600,601,602,604,605,607,608,609,611,612,614,615,616,619,620,621,623,624,626,627,628,631,632,633,635,636,638,639,640,642,643,645,646,647,650,651,652,655,656,657,660,661,662,665,666,667,669,670,672,673,674,676,677,679,680,681,684,685,686,688,689,691,692,693,695,696,698,699,700,703,704,705,708,709]
end
def qv:Program:=view p [0,2,3,4,5,6,7,8,10,11,13,14,15,16,17,18,19,20,21,23,24,26,27,29,30,31,32,33,34,35,36,37,38,39,41,42,43,44,45,46,47,49,50,51,52,53,55,56,58,59,60,61,62,63,64,65,66,67,69,70,71,72,73,75,76,77,78,79,80,81,82,83,84,85,86,87,88,89,90,91,92,93,94,95]
noncomputable abbrev R:RowW:=PySem.Challenge.rw_chancehall_k24_whole_two_roads.row.toRowW
def Xt(s:Shared):Bool:=xlAt qv [] s&&recOk R.records s
noncomputable def e:Pos:=⟨463,0,481,94⟩
set_option maxHeartbeats 0
theorem wsd:PySem.Challenge.rw_chancehall_k24_whole_two_roads.wellSaid=true:=by kernel_rfl
theorem asK:∀P,asH=(KH P).map (·.1):=λ_=>by kernel_rfl
theorem pre(w:World):(λos=>topGo treeTable p w 11 ann 12 (S0 w os) (topStub p))=λos=>some (Sa w os,⟨denote treeTable (cE p),cE p,z,B⟩):=by
 rw[Fast.te15667345088766844465,Fast.te14364793385576792824,Fast.te11892475500146522536];kernel_rfl
theorem block(w:World):(λos=>segRun treeTable p w 11 ann 1 1 (Sa w os) (blockOf (behindTheImports p) (env p) (cE p) z B))=λos=>some (.next,(Sb w os).abs,cE p,z):=by
 rw[Fast.te14374325043358763698,Fast.te14364793385576792824];kernel_rfl
theorem agl(w:World):(λos=>segRunT treeTable p w 11 ann 1 30000 (Sb w os) (piecesOf ((behindTheImports p).take 94) (env p) (cE p) z B))=λos=>some (.next,S1 w os,cE p,e1):=by
 rw[Fast.te10110043849684766642,Fast.te14364793385576792824];kernel_rfl
theorem comb{R S A B C X Y Z:Type _}{o:Option R}{f:R->A}{g:R->B}{k:R->C}{h:R->Option S}{f1:S->X}{f2:S->Y}{f3:S->Z}{a:A}{b:B}{c:C}{x:X}{y:Y}{z:Z}(h1:(o.map λr=>(f r,g r,k r,(h r).map f1))=some (a,b,c,some x))(h2:(o.map λr=>(f r,g r,k r,(h r).map f2))=some (a,b,c,some y))(h3:(o.map λr=>(f r,g r,k r,(h r).map f3))=some (a,b,c,some z)):(o.map λr=>(f r,g r,k r,(h r).map λs=>(f1 s,f2 s,f3 s)))=some (a,b,c,some (x,y,z)):=by
 cases o with
 |none=>cases h1
 |some r =>
  simp only[Option.map_some,Option.some.injEq,Prod.mk.injEq]at h1 h2 h3 ⊢;obtain⟨a1,a2,a3,a4⟩:=h1;obtain⟨_,_,_,b4⟩:=h2;obtain⟨_,_,_,c4⟩:=h3;cases hr:h r with
  |none=>rw[hr]at a4;cases a4
  |some s =>
   rw[hr]at a4 b4 c4;refine⟨a1,a2,a3,?_⟩;simp only[Option.map_some,Option.some.injEq]at a4 b4 c4 ⊢;rw[a4,b4,c4]
theorem ajJ(w:World):(λos=>(segRunT treeTable p w 11 ann 1 50000 (S1 w os) (piecesOf ((behindTheImports p).drop 94) (env p) (cE p) e1 B)).map λr=>(r.1,r.2.2.1,r.2.2.2,(topRun treeTable p w 11 ann 2 r.2.1.abs ⟨doneF .next,cE p,e,B⟩).map λs=>openSeen qv [] (importedModules p.main.body) Xt true s))=λ_=>some (.next,cE p,e,some (openGood qv [])):=by
 rw[Fast.te10110043849684766642,Fast.te14364793385576792824,Fast.te14082659384304107361,Fast.te4187177175401517315,Fast.te5923862056798008813];kernel_rfl
theorem Jx(w:World):(λos=>(segRunT treeTable p w 11 ann 1 50000 (S1 w os) (piecesOf ((behindTheImports p).drop 94) (env p) (cE p) e1 B)).map λr=>(r.1,r.2.2.1,r.2.2.2,(topRun treeTable p w 11 ann 2 r.2.1.abs ⟨doneF .next,cE p,e,B⟩).map λs=>staticsOk (importedModules p.main.body) (boot_heap w.params) s.heap&&namesBound p s.heap&&gensDone s&&laidKept (boot_heap w.params) s.heap))=λ_=>some (.next,cE p,e,some (true)):=by
 rw[Fast.te10110043849684766642,Fast.te14364793385576792824,Fast.te14082659384304107361];kernel_rfl
theorem ajV(w:World):(λos=>(segRunT treeTable p w 11 ann 1 50000 (S1 w os) (piecesOf ((behindTheImports p).drop 94) (env p) (cE p) e1 B)).map λr=>(r.1,r.2.2.1,r.2.2.2,(topRun treeTable p w 11 ann 2 r.2.1.abs ⟨doneF .next,cE p,e,B⟩).map λs=>asH.map s.heap.get?))=λ_=>some (.next,cE p,e,some ((KH w.params).map λp=>some p.2)):=by
 rw[Fast.te10110043849684766642,Fast.te14364793385576792824,Fast.te14082659384304107361];kernel_rfl
theorem big(w:World):(λos=>(segRunT treeTable p w 11 ann 1 50000 (S1 w os) (piecesOf ((behindTheImports p).drop 94) (env p) (cE p) e1 B)).map λr=>(r.1,r.2.2.1,r.2.2.2,(topRun treeTable p w 11 ann 2 r.2.1.abs ⟨doneF .next,cE p,e,B⟩).map λs=>(staticsOk (importedModules p.main.body) (boot_heap w.params) s.heap&&namesBound p s.heap&&gensDone s&&laidKept (boot_heap w.params) s.heap,openSeen qv [] (importedModules p.main.body) Xt true s,asH.map s.heap.get?)))=λ_=>some (.next,cE p,e,some (true,openGood qv [],(KH w.params).map λp=>some p.2)):=funext λos=>comb (congrFun (Jx w) os) (congrFun (ajJ w) os) (congrFun (ajV w) os)
theorem left:LeftO p qv [] Xt (λs=>asH.map s.heap.get?) (λw=>(KH w.params).map λp=>some p.2) 200000 :=
 Xf (boot_open rfl rfl λ_=>rfl) pre block (λw os=>o7.cutAt (congrFun (agl w) os) (o7.last (congrFun (big w) os))) rfl
theorem hX(s:Shared)(h:Xt s=true):XL qv [] (s.heap.nsMap mainGlobals) s.heap:=xl_of s (Bool.and_eq_true_iff.mp h).1
theorem hR(s:Shared)(h:Xt s=true):RecFacts R.records s.heap:=recFacts_of (Bool.and_eq_true_iff.mp h).2
end
end H24
noncomputable section
namespace L2
open PySem PySem.Spec PyProof.Rows
noncomputable abbrev Key:=Sum Int Str
noncomputable def Bu:Key->Value->Bool
 |.inl k,v=>Value.isInt k v
 |.inr x,v=>Value.isStrOf x v
noncomputable def ai8(w:World):Key->Int
 |.inl k=>hashInt k
 |.inr x=>hashStr w x
theorem gW:∀{k:Key}{v:Value},Bu k v=true->(∃i t,k=Sum.inl i/\v=Value.int i t)\/(∃x t,k=Sum.inr x/\v=Value.str x t)
 |.inl i,v,h=>by
  obtain⟨t,e⟩:=Value.isInt_shape (k:=i) (v:=v) h;exact .inl ⟨i,t,rfl,e⟩
 |.inr x,v,h=>by
  obtain⟨t,e⟩:=Value.isStrOf_shape (x:=x) (v:=v) h;exact .inr ⟨x,t,rfl,e⟩
theorem Xb(i:Int)(t:Tok):Bu (.inl i) (.int i t)=true:=by simp[Bu,Value.isInt]
theorem Xe(x:Str)(t:Tok):Bu (.inr x) (.str x t)=true:=by simp[Bu,Value.isStrOf]
theorem ael(a b:Int):decide ((Sum.inl a:Key)=Sum.inl b)=(a==b):=by
 by_cases e:a=b
 .subst e;simp
 .have h:¬(Sum.inl a:Key)=Sum.inl b:=λq=>e (Sum.inl.inj q);rw[Zp h];exact(beq_eq_false_iff_ne.mpr e).symm
theorem ad4(a b:Str):decide ((Sum.inr a:Key)=Sum.inr b)=decide (a=b):=by
 by_cases e:a=b
 .subst e;simp
 .have h:¬(Sum.inr a:Key)=Sum.inr b:=λq=>e (Sum.inr.inj q);rw[Zp h,Zp e]
theorem aen(a:Int)(b:Str):decide ((Sum.inl a:Key)=Sum.inr b)=false:=Zp (λq=>nomatch q)
theorem aek(a:Str)(b:Int):decide ((Sum.inr a:Key)=Sum.inl b)=false:=Zp (λq=>nomatch q)
def kY(prog:Program)(w:World):PySem.KeyKind prog w Key where
 is:=Bu
 hash:=ai8 w
 inj:=λv a b ha hb=>by
  rcases gW ha with⟨i,t,rfl,rfl⟩|⟨x,t,rfl,rfl⟩
  .rcases gW hb with⟨j,u,rfl,e⟩|⟨y,u,rfl,e⟩
   .injection e with e1 _;rw[e1]
   .exact nomatch e
  .rcases gW hb with⟨j,u,rfl,e⟩|⟨y,u,rfl,e⟩
   .exact nomatch e
   .injection e with e1 _;rw[e1]
 byValue:=λk v h=>by
  rcases gW h with⟨i,t,rfl,rfl⟩|⟨x,t,rfl,rfl⟩<;>rfl
 pyHash:=λhv h=>by
  rcases gW hv with⟨i,t,rfl,rfl⟩|⟨x,t,rfl,rfl⟩
  .exact wpAny_pyHash_int h
  .exact wpAny_pyHash_str h
 eqBool:=λhu hv h=>by
  rcases gW hu with⟨i,t,rfl,rfl⟩|⟨x,t,rfl,rfl⟩
  .rcases gW hv with⟨j,u,rfl,rfl⟩|⟨y,u,rfl,rfl⟩
   .rw[ael]at h;exact wpAny_eqBool_int h
   .rw[aen]at h;exact SeqAt.EqAt.int_str i t y u _ _ _ _ h
  .rcases gW hv with⟨j,u,rfl,rfl⟩|⟨y,u,rfl,rfl⟩
   .rw[aek]at h;exact SeqAt.EqAt.str_int x t j u _ _ _ _ h
   .rw[ad4]at h;exact wpAny_eqBool_str h
 «strs»:=λk x t v h=>by
  rcases gW h with⟨i,u,rfl,e⟩|⟨y,u,rfl,e⟩
  .exact nomatch e
  .injection e with e1 _;subst e1;cases v<;>rfl
theorem R5(prog:Program)(w:World)(i:Int)(t:Tok):(kY prog w).is (.inl i) (.int i t)=true:=Xb i t
theorem Q6(prog:Program)(w:World)(x:Str)(t:Tok):(kY prog w).is (.inr x) (.str x t)=true:=Xe x t
inductive V where
 |non|bl (b:Bool)|int (i:Int)|str (x:Str)|byt (b:Array UInt8)|flt (b:UInt64)|ref (a:Addr)|ty (n:String)
 deriving DecidableEq
noncomputable abbrev Μ:=List V
def RelV:V->Value->Prop
 |.non,u=>u=Value.none
 |.bl b,u=>u=Value.bool b
 |.int i,u=>∃t,u=Value.int i t
 |.str x,u=>∃t,u=Value.str x t
 |.byt b,u=>∃t,u=Value.bytes b t
 |.flt b,u=>∃t,u=Value.float b t
 |.ref a,u=>u=Value.ref a
 |.ty n,u=>u=Value.type n
abbrev Vals:Μ->Ξ->Prop:=Paired RelV
theorem Vals.length{xs:Μ}{us:Ξ}(r:Vals xs us):xs.length=us.length:=Paired.length r
theorem Vals.get:∀{xs:Μ}{us:Ξ}{i:Nat}{x:V},Vals xs us->xs[i]?=some x->∃u,us[i]?=some u/\RelV x u
 |_,_,_,_,.nil,e=>by simp at e
 |_,_,0,_,.cons r _,e=>by simp at e;subst e;exact⟨_,rfl,r⟩
 |_,_,i+1,x,.cons _ t,e=>by
  obtain⟨u,h1,h2⟩:=Vals.get (i:=i) (x:=x) t (by simpa using e);exact⟨u,by simpa using h1,h2⟩
theorem Vals.set{x:V}{u:Value}(r:RelV x u):∀{xs:Μ}{us:Ξ}(i:Nat),Vals xs us->Vals (xs.set i x) (us.set i u)
 |_,_,_,.nil=>.nil
 |_,_,0,.cons _ t=>.cons r t
 |_,_,i+1,.cons q t=>.cons q (Vals.set r i t)
theorem Vals.append:∀{xs ys:Μ}{us ws:Ξ},Vals xs us->Vals ys ws->Vals (xs++ys) (us++ws)
 |_,_,_,_,.nil,s=>s
 |_,_,_,_,.cons r t,s=>.cons r (Vals.append t s)
theorem Vals.take:∀{xs:Μ}{us:Ξ}(n:Nat),Vals xs us->Vals (xs.take n) (us.take n)
 |_,_,0,_=>.nil
 |_,_,_+1,.nil=>.nil
 |_,_,n+1,.cons r t=>.cons r (Vals.take n t)
theorem Vals.drop:∀{xs:Μ}{us:Ξ}(n:Nat),Vals xs us->Vals (xs.drop n) (us.drop n)
 |_,_,0,r=>r
 |_,_,_+1,.nil=>.nil
 |_,_,n+1,.cons _ t=>Vals.drop n t
def yW:Option V->Ζ->Prop
 |some v,some u=>RelV v u
 |none,none=>True
 |_,_=>False
def KV{κ:Type} : List (κ×V)->List (κ×Value)->Prop:=Paired λ(p:κ×V)(q:κ×Value)=>p.1=q.1/\RelV p.2 q.2
noncomputable def kV:Key->V
 |.inl i=>.int i
 |.inr x=>.str x
inductive HO where
  |lst (xs:Μ)
  |tup (xs:Μ)
  |dK (kvs:List (Key×V))
  |set (S:Int->Bool) (n:Nat)
  |ins (C dx:Addr) (fs:List (Str×V))
  |own (x:Addr)
  |xd (fs:List (Str×V))
  |met (f x:Addr)
  |rng (lo hi:Int)
  |frz (o:Obj) (u:HO)
  |tbl (ps:Array Value)
  |ext (φ:Heap->Prop)
noncomputable abbrev Hp:=Addr->Option HO
noncomputable def upd(H:Hp)(a:Addr)(o:HO):Hp:=λb=>if b=a then some o else H b
theorem bG{H:Hp}{a:Addr}{o:HO} : upd H a o a=some o:=by unfold upd;rw[ZY rfl]
theorem bL{H:Hp}{a b:Addr}{o:HO}(h:b≠a):upd H a o b=H b:=by unfold upd;rw[ZZ h]
theorem oH{H:Hp}{a:Addr}{o u:HO} : upd (upd H a o) a u=upd H a u:=by
 funext b;unfold upd;split<;>rfl
theorem d8{H:Hp}{a b:Addr}{o u:HO}(h:H a=some o)(h':H b=some u)(d:o≠u:=by intro z;cases z):a≠b:=by
 intro e;subst e;rw[h]at h';exact d (Option.some.inj h')
theorem bH{H:Hp}{a b:Addr}{o:HO}(h:H a=some o)(h':H b=none):a≠b:=by
 intro e;subst e;rw[h]at h';cases h'
section
variable(P:Program)(w:World)
def gj(H:Hp)(h:Heap)(a:Addr):HO->Prop
 |.lst xs=>xs.length<=sizeLine/\∃(its:Ξ)(n:Nat),Vals xs its/\h.get? a=some { cls:=.type "list",data:=.seq its.toArray n }
 |.tup xs=>xs.length<=sizeLine/\∃its:Ξ,Vals xs its/\IsTup h a its.toArray
 |.dK kvs=>kvs.length<=sizeLine/\(a==sysModules)=false/\∃vs,KV kvs vs/\h.DictOf (kY P w) a vs
 |.set S n=>h.SetOf (intKind P w) a S n
 |.ins C dx fs=>H dx=some (.own a)/\fs.length<=1000/\dx≠a/\h.get? a=some (instObj C dx) /\
   ∃mA,h.Ns1 dx mA/\(∀f,yW (fs.lookup f) (mA f))/\PySem.Within mA (fs.map (·.1))
 |.own _=>∃o,h.get? a=some o
 |.xd fs=>∃mA,h.Ns1 a mA/\∀f,yW (fs.lookup f) (mA f)
 |.rng lo hi=>∃t u v,h.get? a=some { cls:=.type "range",data:=.fields #[.int lo t,.int hi u,.int 1 v] }
 |.frz o u=>h.get? a=some o/\gj H h a u
 |.tbl ps=>h.get? a=some { cls:=.none,data:=.fields ps }
 |.met f x=>h.get? a=some (methodObj (.ref f) (.ref x))
 |.ext φ=>φ h/\(∃o,h.get? a=some o)/\∀h1 h2:Heap,φ h1->(∀o,h1.get? a=some o->h2.get? a=some o)->φ h2
def HOk(H:Hp)(h:Heap):Prop:=∀a o,H a=some o->gj P w H h a o
end
section
variable{P:Program}{w:World}{H H':Hp}{h h':Heap}{a:Addr}{o:HO}
theorem gj.lt(x:gj P w H h a o):a<h.objs.size:=by
 cases o with
 |lst xs=>obtain⟨_,_,_,_,e⟩:=x;exact aK e
 |tup xs=>obtain⟨_,_,_,p⟩:=x;exact p.lt
 |dK kvs=>obtain⟨_,_,_,_,o,_,_,e,_⟩:=x;exact aK e
 |set S n=>obtain⟨o,_,_,_,e,_⟩:=x;exact aK e
 |ins C dx fs=>obtain⟨_,_,_,e,_⟩:=x;exact aK e
 |own y=>obtain⟨_,e⟩:=x;exact aK e
 |xd fs=>obtain⟨_,⟨_,_,_,e,_⟩,_⟩:=x;exact aK e
 |rng lo hi=>obtain⟨_,_,_,e⟩:=x;exact aK e
 |frz ob u=>obtain⟨e,_⟩:=x;exact aK e
 |tbl ps=>exact aK (show h.get? a=some _ from x)
 |met f y=>exact aK (show h.get? a=some _ from x)
 |ext φ=>obtain⟨_,⟨_,e⟩,_⟩:=x;exact aK e
theorem gj.stay(x:gj P w H h a o)(k:∀b u,(b=a\/H b=some (.own a))->h.get? b=some u->h'.get? b=some u)
 (ho:∀b,H b=some (.own a)->H' b=some (.own a))(ht:∀b xs,H b=some (.tup xs)->H' b=some (.tup xs)):gj P w H' h' a o:=by
 induction o with
 |lst xs=>obtain⟨z,its,n,r,e⟩:=x;exact⟨z,its,n,r,k _ _ (.inl rfl) e⟩
 |tup xs=>obtain⟨z,its,r,ob,e,c⟩:=x;exact⟨z,its,r,ob,k _ _ (.inl rfl) e,c⟩
 |dK kvs=>obtain⟨z,y,vs,r,ob,es,ep,e,c⟩:=x;exact⟨z,y,vs,r,ob,es,ep,k _ _ (.inl rfl) e,c⟩
 |set S n=>obtain⟨ob,es,ep,t,e,c⟩:=x;exact⟨ob,es,ep,t,k _ _ (.inl rfl) e,c⟩
 |ins C dx fs =>
  obtain⟨d,z,ne,e,mA,⟨od,es,ep,e2,c⟩,r⟩:=x;exact⟨ho _ d,z,ne,k _ _ (.inl rfl) e,mA,⟨od,es,ep,k _ _ (.inr d) e2,c⟩,r⟩
 |own y=>obtain⟨ob,e⟩:=x;exact⟨ob,k _ _ (.inl rfl) e⟩
 |xd fs=>obtain⟨mA,⟨od,es,ep,e,c⟩,r⟩:=x;exact⟨mA,⟨od,es,ep,k _ _ (.inl rfl) e,c⟩,r⟩
 |rng lo hi=>obtain⟨t,u,v,e⟩:=x;exact⟨t,u,v,k _ _ (.inl rfl) e⟩
 |frz ob u ih=>obtain⟨e,q⟩:=x;exact⟨k _ _ (.inl rfl) e,ih q⟩
 |tbl ps =>
  have e:h.get? a=some { cls:=.none,data:=.fields ps }:=x;show h'.get? a=some { cls:=.none,data:=.fields ps };exact k a _ (.inl rfl) e
 |met f y =>
  have e:h.get? a=some (methodObj (.ref f) (.ref y)):=x;show h'.get? a=some (methodObj (.ref f) (.ref y));exact k a _ (.inl rfl) e
 |ext φ=>obtain⟨p,⟨o,e⟩,st⟩:=x;exact⟨st _ _ p λo q=>k _ _ (.inl rfl) q,⟨o,k _ _ (.inl rfl) e⟩,st⟩
theorem HOk.lt(x:HOk P w H h)(e:H a=some o):a<h.objs.size:=(x a o e).lt
theorem HOk.fresh(x:HOk P w H h)(e:h.objs.size<=a):H a=none:=by
 cases q:H a with
 |none=>rfl
 |some u=>exact absurd (aV (x.lt q) e) (X9 _)
theorem HOk.kept(x:HOk P w H h)(k:∀b u,h.get? b=some u->h'.get? b=some u):HOk P w H h':=λa o e =>
 (x a o e).stay (λb u _ q=>k b u q) (λ_ q=>q) λ_ _ q=>q
theorem HOk.laid(x:HOk P w H h)(k:∀b u,h.get? b=some u->h'.get? b=some u)(hp:h.objs.size<=a)(new:gj P w (upd H a o) h' a o):HOk P w (upd H a o) h':=λb u e=>by
 have hn:=x.fresh hp;by_cases hb:b=a
 .subst hb;rw[bG]at e;cases e;exact new
 .rw[bL hb]at e;exact(x b u e).stay (λc v _ q=>k c v q) (λc q=>by rw[bL (bH q hn)];exact q) λc xs q=>by rw[bL (bH q hn)];exact q
end
def Rd(H:Hp)(a:Addr)(u:HO):Prop:=H a=some u\/∃o,H a=some (.frz o u)
theorem Rd.of{H:Hp}{a:Addr}{u:HO}(h:H a=some u):Rd H a u:=.inl h
theorem Rd.ok{P:Program}{w:World}{H:Hp}{h:Heap}{a:Addr}{u:HO}(r:Rd H a u)(x:HOk P w H h):gj P w H h a u:=by
 rcases r with r|⟨o,r⟩
 .exact x a u r
 .obtain⟨_,q⟩:=x a _ r;exact q
def Mut:Option HO->Prop
 |some (.lst _)=>True
 |some (.dK _)=>True
 |some (.set _ _)=>True
 |some (.ins _ _ _)=>True
 |some (.ext _)=>True
 |_=>False
section
variable{P:Program}{w:World}{H:Hp}{h h':Heap}{x e:Addr}{o':HO}
theorem HOk.write(ok:HOk P w H h)(mu:Mut (H x))(he:e=x\/H e=some (.own x))(k:∀b u,b≠e->h.get? b=some u->h'.get? b=some u)(heo:∃u,h'.get? e=some u)
 (new:gj P w (upd H x o') h' x o'):HOk P w (upd H x o') h':=λb u q=>by
 have nown:∀c y,H c=some (.own y)->c≠x:=λc y r z=>by subst z;rw[r]at mu;exact mu
 have ntup:∀c xs,H c=some (.tup xs)->c≠x:=λc xs r z=>by subst z;rw[r]at mu;exact mu
 by_cases hb:b=x
 .subst hb;rw[bG]at q;cases q;exact new
 .rw[bL hb]at q;by_cases hbe:b=e
  .have q':H b=some (.own x):=by
    rcases he with z|z
    .exact absurd (hbe.trans z) hb
    .rw[hbe];exact z
   rw[q]at q';cases q';obtain⟨v,hv⟩:=heo;exact⟨v,by rw[hbe];exact hv⟩
  .refine(ok b u q).stay (λc v hc r=>k c v ?_ r) (λc r=>by rw[bL (nown c b r)];exact r) λc xs r=>by rw[bL (ntup c xs r)];exact r
   rcases hc with rfl|hc
   .exact hbe
   .rintro rfl;rcases he with z|z
    .exact nown c b hc z
    .rw[hc]at z;cases z;exact hb rfl
end
structure Un(fs ex:Ε)(H H':Hp)(h h':Heap):Prop where
 keep:∀b o,h.get? b=some o->H b=none->b∉fs->b∉ex->h'.get? b=some o
 slot:∀b o,h.get? b=some o->H b=none->b∈fs->b∉ex->∃sl,h'.get? b=some { o with slots:=sl }
 free:∀b o,h.get? b=some o->H b=none->b∉ex->H' b=none
 there:∀b o,h.get? b=some o->b∉ex->∃o',h'.get? b=some o'
 tups:∀b xs,H b=some (.tup xs)->H' b=some (.tup xs)
 frzs:∀b o u,H b=some (.frz o u)->H' b=some (.frz o u)
 tbls:∀b ps,H b=some (.tbl ps)->∃more,H' b=some (.tbl (ps++more))
section
variable{fs fs' ex ex':Ε}{H H1 H2:Hp}{h h1 h2 h':Heap}{a x e:Addr}{o:HO}
theorem Un.any(u:Un fs ex H H1 h h1){b:Addr}{ob:Obj}(q:h.get? b=some ob)(n:H b=none)(hx:b∉ex):∃sl,h1.get? b=some { ob with slots:=sl }:=by
 by_cases hb:b∈fs
 .exact u.slot b ob q n hb hx
 .exact⟨ob.slots,u.keep b ob q n hb hx⟩
theorem Un.kept(k:∀b u,h.get? b=some u->h'.get? b=some u):Un fs ex H H h h' :=
 ⟨λb ob q _ _ _=>k b ob q,λb ob q _ _ _=>⟨ob.slots,k b ob q⟩,λ_ _ _ n _=>n,λb ob q _=>⟨ob,k b ob q⟩,λ_ _ q=>q,λ_ _ _ q=>q,λ_ ps q=>⟨#[],by rw[q];simp⟩⟩
theorem Un.refl:Un fs ex H H h h:=Un.kept λ_ _ q=>q
theorem Un.laid(k:∀b u,h.get? b=some u->h'.get? b=some u)(hp:h.objs.size<=a)(hn:H a=none):Un fs ex H (upd H a o) h h' where
 keep:=λb u q _ _ _=>k b u q
 slot:=λb u q _ _ _=>⟨u.slots,k b u q⟩
 free:=λb u q n _=>by rw[bL (aU (aV (aK q) hp))];exact n
 there:=λb u q _=>⟨u,k b u q⟩
 tups:=λb xs q=>by rw[bL (bH q hn)];exact q
 frzs:=λb u xs q=>by rw[bL (bH q hn)];exact q
 tbls:=λb ps q=>⟨#[],by rw[bL (bH q hn),q];simp⟩
theorem Un.write(mu:Mut (H x))(he:e=x\/H e=some (.own x))(k:∀b u,b≠e->h.get? b=some u->h'.get? b=some u)(heo:∃u,h'.get? e=some u):Un fs ex H (upd H x o) h h':=by
 have hx:∀b,H b=none->b≠x:=λb n z=>by subst z;rw[n]at mu;exact mu
 have hb:∀b,H b=none->b≠e:=λb n z=>by
  subst z;rcases he with r|r
  .exact hx b n r
  .rw[n]at r;cases r
 have hm:∀b u,H b=some u->¬Mut (some u)->b≠x:=λb u q nm z=>by subst z;rw[q]at mu;exact nm mu
 refine⟨λb u q n _ _=>k b u (hb b n) q,λb u q n _ _=>⟨u.slots,k b u (hb b n) q⟩,λb u q n _=>by rw[bL (hx b n)];exact n,λb u q _=>?_,
  λb xs q=>by rw[bL (hm b _ q λz=>z)];exact q,λb u xs q=>by rw[bL (hm b _ q λz=>z)];exact q,λb ps q=>⟨#[],by rw[bL (hm b _ q λz=>z),q];simp⟩⟩
 by_cases hbe:b=e
 .subst hbe;exact heo
 .exact⟨u,k b u hbe q⟩
end
noncomputable def trk(h:Heap)(H:Hp):Ε:=(List.range h.objs.size).filter λa=>(H a).isSome
def Pu(h:Heap)(H:Hp):Heap:=PySem.W.hideAll h (trk h H)
theorem Xd(h:Heap)(H:Hp):(Pu h H).objs.size=h.objs.size:=PySem.W.hideAll_size _ _
theorem Y4{h:Heap}{H:Hp}{b:Addr}{o:Obj}(e:h.get? b=some o)(n:H b=none):(Pu h H).get? b=some o :=
 PySem.W.hideAll_get _ e λhm=>by
  have q:(H b).isSome=true:=(List.mem_filter.mp hm).2;rw[n]at q;simp at q
theorem acF{h:Heap}{H:Hp}{b:Addr}{o:Obj}(e:(Pu h H).get? b=some o):h.get? b=some o/\H b=none:=by
 have e':h.get? b=some o:=PySem.W.of_hideAll (trk h H) e;refine⟨e',?_⟩;cases q:H b with
 |none=>rfl
 |some x =>
  have hm:b∈trk h H:=List.mem_filter.mpr ⟨List.mem_range.mpr (aK e'),by simp[q]⟩;have z:(Pu h H).get? b=none:=PySem.W.hideAll_none (trk h H) hm;rw[z]at e;cases e
noncomputable def acG(g h:Heap)(L:Addr):Ω:=(List.range h.objs.size).filterMap λa=>if a=L\/(g.get? a).isSome=true then none else(h.get? a).map λo=>(a,o)
def rest(g h:Heap)(L d:Addr):Ω:=(acG g h L).filter λp=>decide (p.1≠d)
structure Mod(K:Frag)(mg:Str->Ζ)(base:Heap):Prop where
 kin:K.In base
 glob:base.Ns mainGlobals mg
 blt:∃mb,base.Ns builtinsNs mb/\∀x:Str,x≠"__name__"->mb x=bootBuiltins x
 nolimit:base.NoLimit
structure Cx where
 prog:Program
 w:World
 K:Frag
 mg:Str->Ζ
 base:Heap
 A:Around
 N:Β
 s₀:Shared
 H₀:Hp
 env:Env
 outer:List Env
 stack:List Env
 ex:Ε
 fn:Str->Bool
 calm:Bool
 pn:Ω
 xe:Κ
noncomputable def frs(l:List Env):Ε:=l.filterMap (·.frame)
abbrev Cx.fs(X:Cx):Ε:=frs X.outer
def Vis(sc:Scope)(x:Str):Prop:=sc.names.lookup x=some .local\/sc.names.lookup x=some .cell\/sc.names.lookup x=some .free
def Loc(sc:Scope)(x:Str):Prop:=sc.names.lookup x=some .local\/sc.names.lookup x=some .cell
def Look(env:Env)(h:Heap)(m:Str->Ζ)(x:Str)(u:Value):Prop :=
 (env.kindOf x=some .local/\m x=some u)\/((env.kindOf x=some .cell\/env.kindOf x=some .free)/\∃c,env.cells.lookup x=some c/\h.IsCell c (some u))
structure Cx.Ok(X:Cx):Prop where
 mod:Mod X.K X.mg X.base
 kind:X.env.scope.kind=.function
 glob:X.env.globals=mainGlobals
 blt:X.env.builtins=builtinsNs
 above:X.s₀.heap.objs.size<=X.env.locals
 inj:∀x y c,X.env.cells.lookup x=some c->X.env.cells.lookup y=some c->x=y
 has:∀x,(X.env.kindOf x=some .cell\/X.env.kindOf x=some .free)->∃c,X.env.cells.lookup x=some c
 cab:∀x c,X.fn x=true->X.env.cells.lookup x=some c->X.s₀.heap.objs.size<=c
 hd:X.calm=true->X.A.handled=none
 frames:X.A.frames=some X.stack
 stk:X.stack=X.outer\/(X.stack=X.env::X.outer/\X.env.frame=some X.env.locals)
 exf:∀b∈X.ex,b≠X.env.locals/\∀x c,X.env.cells.lookup x=some c->c≠b
 bs:∀b o,X.base.get? b=some o->X.s₀.heap.get? b=some o/\X.H₀ b=none
 bsz:X.base.objs.size<=X.s₀.heap.objs.size
 noex:∀b o,X.base.get? b=some o->b∉X.ex
 exfs:∀b∈X.ex,b∉X.fs
 funs:X.s₀.heap.FunFrames X.base X.outer
 frf:∀b∈X.fs,X.H₀ b=none
structure Inv(X:Cx)(pins:Ω)(σ:List (Option V))(H:Hp)(s:Shared):Prop where
 ok:X.Ok
 os:s.os=X.s₀.os
 bare:AllBare s.gens
 base:Un X.fs X.ex X.H₀ H X.s₀.heap s.heap
 loc:∃m,s.heap.Ns X.env.locals m/\∀(i:Nat)(x:Str)(v:V),X.N[i]?=some x->σ[i]?=some (some v)->Vis X.env.scope x->∃u,RelV v u/\Look X.env s.heap m x u
 cell:∀x c,X.env.cells.lookup x=some c->∃v,s.heap.IsCell c v
 free:H X.env.locals=none
 freeC:∀x c,X.env.cells.lookup x=some c->H c=none
 pin:∀p∈X.pn++pins,s.heap.get? p.1=some p.2/\H p.1=none/\p.1≠X.env.locals/\p.1∉X.fs/\∀v,p.2.data≠.cell v
 hok:HOk X.prog X.w H s.heap
 len:σ.length=X.N.length
section
variable{X:Cx}{pins:Ω}{σ:List (Option V)}{H H':Hp}{s:Shared}{h':Heap}
theorem Cx.Ok.nofr(ok:X.Ok){b:Addr}{o:Obj}(e:X.base.get? b=some o):b∉X.fs:=λhb=>by
 have:=(ok.funs.mem hb).1;rw[e]at this;cases this
theorem Inv.bs(I:Inv X pins σ H s):∀b o,X.base.get? b=some o->s.heap.get? b=some o/\H b=none:=λb o e =>
 ⟨I.base.keep b o (I.ok.bs b o e).1 (I.ok.bs b o e).2 (I.ok.nofr e) (I.ok.noex b o e),I.base.free b o (I.ok.bs b o e).1 (I.ok.bs b o e).2 (I.ok.noex b o e)⟩
theorem Inv.bk(I:Inv X pins σ H s):∀b o,X.base.get? b=some o->s.heap.get? b=some o:=λb o e=>(I.bs b o e).1
theorem Inv.mod(I:Inv X pins σ H s):Mod X.K X.mg X.base:=I.ok.mod
theorem Inv.kIn(I:Inv X pins σ H s):X.K.In s.heap:=I.ok.mod.kin.keeps I.bk
theorem Inv.fr(I:Inv X pins σ H s):∃m,Fr X.base X.env.locals s.heap m :=
 let⟨m,hn,_⟩:=I.loc
 ⟨m,hn,I.bk,aM I.ok.bsz I.ok.above⟩
theorem Inv.lt(I:Inv X pins σ H s):X.env.locals<s.heap.objs.size:=by obtain⟨_,hn,_⟩:=I.loc;exact hn.lt
theorem Inv.sz(I:Inv X pins σ H s):X.s₀.heap.objs.size<=s.heap.objs.size:=aM I.ok.above (Y2 I.lt)
theorem Inv.nofs(I:Inv X pins σ H s){a:Addr}(h:s.heap.objs.size<=a):a∉X.fs:=λhb=>by
 obtain⟨_,o,ho,_⟩:=I.ok.funs.mem hb;exact absurd (aV (aK ho) (aM I.sz h)) (X9 _)
theorem Inv.cne(I:Inv X pins σ H s):∀x c,X.env.cells.lookup x=some c->c≠X.env.locals:=λx c e z=>by
 obtain⟨v,o,ho,hd⟩:=I.cell x c e;obtain⟨m,⟨o',es,ep,ho',hd',_⟩,_⟩:=I.loc;rw[z,ho']at ho;cases ho;rw[hd']at hd;cases hd
theorem Inv.funs(I:Inv X pins σ H s):s.heap.FunFrames X.base X.outer:=by
 have all:∀(l:List Env),(∀b∈frs l,b∈X.fs)->X.s₀.heap.FunFrames X.base l->s.heap.FunFrames X.base l:=by
  intro l
  induction l with
  |nil=>intro _ _;trivial
  |cons env r ih =>
   intro hs hl;obtain⟨hk,⟨L,o,hf,hn,ho,hd⟩,hr⟩:=hl;have hL:L∈X.fs:=hs L (by unfold frs;rw[List.filterMap_cons,hf];exact aP);obtain⟨sl,e⟩:=I.base.slot L o ho (I.ok.frf L hL) hL λz=>I.ok.exfs L z hL;exact⟨hk,⟨L,_,hf,hn,e,hd⟩,ih (λb hb=>hs b (by unfold frs;rw[List.filterMap_cons,hf];exact aJ _ hb)) hr⟩
 exact all X.outer (λ_ hb=>hb) I.ok.funs
theorem Inv.stack(I:Inv X pins σ H s):s.heap.FunFrames X.base X.stack:=by
 rcases I.ok.stk with e|⟨e,hf⟩
 .rw[e];exact I.funs
 .rw[e];obtain⟨m,hn,_⟩:=I.loc;refine .cons (by rw[I.ok.kind];decide) hf hn ?_ I.funs;exact Heap.get?_none_of_le (aM I.ok.bsz I.ok.above)
theorem Inv.stkSub(I:Inv X pins σ H s):∀b∈frs X.stack,b∈X.env.locals::X.fs:=λb hb=>by
 rcases I.ok.stk with e|⟨e,hf⟩
 .rw[e]at hb;exact aJ _ hb
 .rw[e]at hb;unfold frs at hb;rw[List.filterMap_cons,hf]at hb;exact hb
theorem Inv.stkFree(I:Inv X pins σ H s):∀b∈frs X.stack,H b=none:=λb hb=>by
 rcases YU.mp (I.stkSub b hb)with e|hb
 .rw[e];exact I.free
 .obtain⟨_,o,ho,_⟩:=I.ok.funs.mem hb;exact I.base.free b o ho (I.ok.frf b hb) λz=>I.ok.exfs b z hb
theorem Inv.step{g':Array GenState}{t':Nat}{d':Drawn}{ch:Ε}(I:Inv X pins σ H s)
 (hch:∀b∈ch,(b∈X.ex\/X.s₀.heap.objs.size<=b)/\b≠X.env.locals/\(∀x c,X.env.cells.lookup x=some c->c≠b)/\∀p∈X.pn++pins,p.1≠b)
 (keep:∀b o,b≠X.env.locals->b∉X.fs->b∉ch->s.heap.get? b=some o->H b=none->h'.get? b=some o)
 (slot:∀b o,b≠X.env.locals->b∈X.fs->b∉ch->s.heap.get? b=some o->H b=none->∃sl,h'.get? b=some { o with slots:=sl })(free:∀b o,b∉ch->s.heap.get? b=some o->H b=none->H' b=none)
 (there:∀b o,b∉ch->s.heap.get? b=some o->∃o',h'.get? b=some o')
 (tups:∀b xs,H b=some (.tup xs)->H' b=some (.tup xs))(frzs:∀b o u,H b=some (.frz o u)->H' b=some (.frz o u))(tbls:∀b ps,H b=some (.tbl ps)->∃more,H' b=some (.tbl (ps++more)))
 (ns:∀m,s.heap.Ns X.env.locals m->h'.Ns X.env.locals m)(hok:HOk X.prog X.w H' h')(hg:AllBare g') :
  Inv X pins σ H' { s with heap:=h',gens:=g',drawn:=d',toks:=t' }:=by
 have neL:∀b o,X.s₀.heap.get? b=some o->b≠X.env.locals:=λb o e=>aU (aV (aK e) I.ok.above);have neC:∀b o,X.s₀.heap.get? b=some o->b∉X.ex->b∉ch:=λb o e hx hb=>by
  rcases(hch b hb).1 with z|z
  .exact hx z
  .exact absurd (aV (aK e) z) (X9 _)
 have cellK:∀x c,X.env.cells.lookup x=some c->∀v,s.heap.IsCell c v->h'.IsCell c v:=λx c e v ⟨o,ho,hd⟩=>by
  have nch:c∉ch:=λz=>(hch c z).2.2.1 x c e rfl;by_cases hc:c∈X.fs
  .obtain⟨sl,q⟩:=slot c o (I.cne x c e) hc nch ho (I.freeC x c e);exact⟨_,q,hd⟩
  .exact⟨o,keep c o (I.cne x c e) hc nch ho (I.freeC x c e),hd⟩
 refine⟨I.ok,I.os,hg,⟨λb o e n hb hx=>?_,λb o e n hb hx=>?_,λb o e n hx=>?_,λb o e hx=>?_,λb xs e=>tups b xs (I.base.tups b xs e),λb o xs e=>frzs b o xs (I.base.frzs b o xs e),λb ps e=>?_⟩,?_,λx c e=>?_,?_,λx c e=>?_,λp hp=>?_,hok,I.len⟩
 .exact keep b o (neL b o e) hb (neC b o e hx) (I.base.keep b o e n hb hx) (I.base.free b o e n hx)
 .obtain⟨sl,e1⟩:=I.base.slot b o e n hb hx;obtain⟨sl',e2⟩:=slot b _ (neL b o e) hb (neC b o e hx) e1 (I.base.free b o e n hx);exact⟨sl',e2⟩
 .obtain⟨o',e1⟩:=I.base.there b o e hx;exact free b o' (neC b o e hx) e1 (I.base.free b o e n hx)
 .obtain⟨o',e1⟩:=I.base.there b o e hx;exact there b o' (neC b o e hx) e1
 .obtain⟨m1,e1⟩:=I.base.tbls b ps e;obtain⟨m2,e2⟩:=tbls b _ e1;exact⟨m1++m2,by rw[e2,Array.append_assoc]⟩
 .obtain⟨m,hn,hl⟩:=I.loc;refine⟨m,ns m hn,λi x v e1 e2 e3=>?_⟩;obtain⟨u,r,l⟩:=hl i x v e1 e2 e3;refine⟨u,r,?_⟩;rcases l with l|⟨k,c,e,z⟩
  .exact .inl l
  .exact .inr ⟨k,c,e,cellK x c e _ z⟩
 .obtain⟨v,z⟩:=I.cell x c e;exact⟨v,cellK x c e v z⟩
 .obtain⟨m,⟨o,_,_,ho,_⟩,_⟩:=I.loc;exact free _ o (λz=>(hch _ z).2.1 rfl) ho I.free
 .obtain⟨v,o,ho,hd⟩:=I.cell x c e;exact free c o (λz=>(hch c z).2.2.1 x c e rfl) ho (I.freeC x c e)
 .obtain⟨e,n,ne,nf,d⟩:=I.pin p hp;have nch:p.1∉ch:=λz=>(hch p.1 z).2.2.2 p hp rfl;exact⟨keep p.1 p.2 ne nf nch e n,free p.1 p.2 nch e n,ne,nf,d⟩
theorem Inv.un{t':Nat}(I:Inv X pins σ H s)(u:Un X.fs [] H H' s.heap h')(hok:HOk X.prog X.w H' h'):Inv X pins σ H' { s with heap:=h',toks:=t' }:=by
 obtain⟨m,⟨o,es,ep,ho,r⟩,_⟩:=id I.loc;obtain⟨sl,hL⟩:=u.any ho I.free (by simp);exact I.step (g':=s.gens) (d':=s.drawn) (ch:=[]) (λ_ z=>nomatch z) (λb o _ hb _ e n=>u.keep b o e n hb (by simp)) (λb o _ hb _ e n=>u.slot b o e n hb (by simp)) (λb o _ e n=>u.free b o e n (by simp)) (λb o _ e=>u.there b o e (by simp)) u.tups u.frzs u.tbls (λm' hm=>by
  obtain⟨o',es',ep',ho',r'⟩:=hm;rw[ho]at ho';cases ho';exact⟨_,es',ep',hL,r'⟩) hok I.bare
theorem Inv.call{g':Array GenState}{t':Nat}{d':Drawn}{ch:Ε}(I:Inv X pins σ H s)(u:Un (frs X.stack) ch H H' s.heap h')(hok:HOk X.prog X.w H' h')(hg:AllBare g')
 (hch:∀b∈ch,(b∈X.ex\/X.s₀.heap.objs.size<=b)/\b≠X.env.locals/\(∀x c,X.env.cells.lookup x=some c->c≠b)/\∀p∈X.pn++pins,p.1≠b) :
  Inv X pins σ H' { s with heap:=h',gens:=g',drawn:=d',toks:=t' }:=by
 obtain⟨m,⟨o,es,ep,ho,r⟩,_⟩:=id I.loc;obtain⟨sl,hL⟩:=u.any ho I.free λz=>(hch _ z).2.1 rfl;exact I.step (ch:=ch) hch (λb o hL hb hc e n=>u.keep b o e n (λz=>(YU.mp (I.stkSub b z)).elim hL hb) hc) (λb o _ _ hc e n=>u.any e n hc) (λb o hc e n=>u.free b o e n hc) (λb o hc e=>u.there b o e hc) u.tups u.frzs u.tbls (λm' hm=>by
  obtain⟨o',es',ep',ho',r'⟩:=hm;rw[ho]at ho';cases ho';exact⟨_,es',ep',hL,r'⟩) hok hg
theorem Inv.turned{t':Nat}{it:Addr}(I:Inv X pins σ H s)(k:∀b o,b≠it->s.heap.get? b=some o->h'.get? b=some o)(hn:H it=none)(hL:it≠X.env.locals)
 (h1:it∈X.ex\/X.s₀.heap.objs.size<=it)(h2:∀x c,X.env.cells.lookup x=some c->c≠it)(h3:∀p∈X.pn++pins,p.1≠it):Inv X pins σ H { s with heap:=h',toks:=t' }:=by
 have nit:∀b u,H b=some u->b≠it:=λb u e z=>by rw[z,hn]at e;cases e
 refine I.step (g':=s.gens) (d':=s.drawn) (ch:=[it]) (λb hb=>?_) (λb o _ _ hc e _=>k b o (λz=>hc (by simp[z])) e) (λb o _ _ hc e _=>⟨o.slots,k b o (λz=>hc (by simp[z])) e⟩) (λ_ _ _ _ n=>n)
  (λb o hc e=>⟨o,k b o (λz=>hc (by simp[z])) e⟩) (λ_ _ e=>e) (λ_ _ _ e=>e) (λb ps e=>⟨#[],by rw[e];simp⟩) (λm hm=>?_) (λb u e=>?_) I.bare
 .have e:b=it:=by simpa using hb
  subst e;exact⟨h1,hL,h2,h3⟩
 .obtain⟨o,es,ep,ho,r⟩:=hm;exact⟨o,es,ep,k _ o (Ne.symm hL) ho,r⟩
 .refine(I.hok b u e).stay (λc v hc q=>k c v ?_ q) (λ_ q=>q) λ_ _ q=>q;rcases hc with z|z
  .rw[z];exact nit b u e
  .exact nit c _ z
theorem Inv.tok(I:Inv X pins σ H s)(t:Nat):Inv X pins σ H { s with toks:=t }:=I.un (h':=s.heap) (t':=t) Un.refl I.hok
theorem Inv.kept{t':Nat}(I:Inv X pins σ H s)(k:∀b u,s.heap.get? b=some u->h'.get? b=some u):Inv X pins σ H { s with heap:=h',toks:=t' }:=I.un (Un.kept k) (I.hok.kept k)
theorem Inv.laid{a:Addr}{o:HO}{t':Nat}(I:Inv X pins σ H s)(k:∀b u,s.heap.get? b=some u->h'.get? b=some u)(hp:s.heap.objs.size<=a)(new:gj X.prog X.w (upd H a o) h' a o) :
  Inv X pins σ (upd H a o) { s with heap:=h',toks:=t' }:=I.un (Un.laid k hp (I.hok.fresh hp)) (I.hok.laid k hp new)
theorem Inv.write{x e:Addr}{o:HO}{t':Nat}(I:Inv X pins σ H s)(mu:Mut (H x))(he:e=x\/H e=some (.own x))(k:∀b u,b≠e->s.heap.get? b=some u->h'.get? b=some u)(heo:∃u,h'.get? e=some u)
 (new:gj X.prog X.w (upd H x o) h' x o):Inv X pins σ (upd H x o) { s with heap:=h',toks:=t' }:=I.un (Un.write mu he k heo) (I.hok.write mu he k heo new)
theorem Inv.pins_of{pins':Ω}(I:Inv X pins σ H s)(h:∀p∈pins',s.heap.get? p.1=some p.2/\H p.1=none/\p.1≠X.env.locals/\p.1∉X.fs/\∀v,p.2.data≠.cell v):Inv X pins' σ H s :=
 ⟨I.ok,I.os,I.bare,I.base,I.loc,I.cell,I.free,I.freeC,λp hp=>(Y1.mp hp).elim (λz=>I.pin p (List.mem_append_left _ z)) (h p),I.hok,I.len⟩
theorem xO{N:Β}(hN:N.Nodup){i j:Nat}{x:Str}(a:N[i]?=some x)(b:N[j]?=some x):i=j:=by
 obtain⟨h1,e1⟩:=ao.mp a;obtain⟨h2,e2⟩:=ao.mp b;exact(List.getElem_inj hN).mp (e1.trans e2.symm)
theorem W_{M:Model}{A:Around}{E:Κ}{i:Nat}{x:Str}{v:V}{u:Value}{Q:Unit->Shared->Prop}(I:Inv X pins σ H s)(hN:X.N.Nodup)(hi:X.N[i]?=some x)(hx:Loc X.env.scope x)(r:RelV v u)
 (h:∀s',Inv X pins (σ.set i (some v)) H s'->(∃a,Heap.SameBut a s.heap s'.heap/\(a=X.env.locals\/X.env.cells.lookup x=some a))->Q () s')(hf:X.fn x=true\/X.env.scope.names.lookup x=some .local):wpAny M A (storeName X.env x u) Q E s:=by
 obtain⟨m,hn,hl⟩:=id I.loc;have hcls:(X.env.scope.kind == .class || (X.env.scope.kind == .module&&X.env.locals != X.env.globals))=false:=by rw[I.ok.kind];rfl
 have hiσ:i<σ.length:=by rw[I.len];exact(ao.mp hi).1
 have cne:=I.cne;have tracked:∀{a:Addr}{h':Heap},(∃o,s.heap.get? a=some o/\H a=none)->Heap.SameBut a s.heap h'->HOk X.prog X.w H h':=λ{a h'}ha hs b ob e=>by
  obtain⟨_,_,hfree⟩:=ha;refine(I.hok b ob e).stay (λc w' hc q=>(hs.2 c ?_).trans q) (λ_ q=>q) λ_ _ q=>q;rintro rfl;rcases hc with rfl|hc
  .rw[hfree]at e;cases e
  .rw[hfree]at hc;cases hc
 rcases hx with hk|hk
 .refine wpAny_storeName_local hk hn (λh' hn' hs=>?_) hcls;obtain⟨oL,_,_,hoL,_⟩:=id hn;refine h _ ⟨I.ok,I.os,I.bare,⟨λb o e n hb hx=>?_,λb o e n hb hx=>?_,I.base.free,λb o e hx=>?_,I.base.tups,I.base.frzs,I.base.tbls⟩,⟨_,hn',λj y v' e1 e2 e3=>?_⟩,λy c e=>?_,I.free,I.freeC,λp hp=>?_,tracked ⟨oL,hoL,I.free⟩ hs,by simpa using I.len⟩ ⟨_,hs,.inl rfl⟩
  .exact(hs.2 b (aU (aV (aK e) I.ok.above))).trans (I.base.keep b o e n hb hx)
  .obtain⟨sl,e1⟩:=I.base.slot b o e n hb hx;exact⟨sl,(hs.2 b (aU (aV (aK e) I.ok.above))).trans e1⟩
  .obtain⟨o',e1⟩:=I.base.there b o e hx;exact⟨o',(hs.2 b (aU (aV (aK e) I.ok.above))).trans e1⟩
  .by_cases hj:j=i
   .subst hj;rw[hi]at e1;cases e1;rw[List.getElem?_set_self hiσ]at e2;cases e2;exact⟨u,r,.inl ⟨hk,by simp⟩⟩
   .rw[List.getElem?_set_ne (Ne.symm hj)]at e2;obtain⟨u',r',q⟩:=hl j y v' e1 e2 e3;refine⟨u',r',?_⟩;rcases q with⟨k,e⟩|⟨k,c,e,z⟩
    .refine .inl ⟨k,?_⟩;have:y≠x:=λe=>hj (xO hN e1 (e ▸ hi));simp[this,e]
    .exact .inr ⟨k,c,e,z.sameBut hs (cne y c e)⟩
  .obtain⟨w',z⟩:=I.cell y c e;exact⟨w',z.sameBut hs (cne y c e)⟩
  .obtain⟨e,n,ne,nf,d⟩:=I.pin p hp;exact⟨(hs.2 p.1 ne).trans e,n,ne,nf,d⟩
 .have hfn:X.fn x=true:=by
   rcases hf with z|z
   .exact z
   .rw[z]at hk;cases hk
  obtain⟨c,hc⟩:=I.ok.has x (.inl hk);obtain⟨w',z⟩:=I.cell x c hc;refine wpAny_storeName_cell I.ok.kind hk hc z (λh' hc' hs=>?_);obtain⟨oc,hoc,hocd⟩:=id z;refine h { s with heap:=h' } ⟨I.ok,I.os,I.bare,⟨λb o e n hb hx=>?_,λb o e n hb hx=>?_,I.base.free,λb o e hx=>?_,I.base.tups,I.base.frzs,I.base.tbls⟩,⟨m,hn.sameBut hs (Ne.symm (cne x c hc)),λj y v' e1 e2 e3=>?_⟩,λy c' e=>?_,I.free,I.freeC,λp hp=>?_,tracked ⟨oc,hoc,I.freeC x c hc⟩ hs,by simpa using I.len⟩ ⟨c,hs,.inr hc⟩
  .exact(hs.2 b (aU (aV (aK e) (I.ok.cab x c hfn hc)))).trans (I.base.keep b o e n hb hx)
  .obtain⟨sl,e1⟩:=I.base.slot b o e n hb hx;exact⟨sl,(hs.2 b (aU (aV (aK e) (I.ok.cab x c hfn hc)))).trans e1⟩
  .obtain⟨o',e1⟩:=I.base.there b o e hx;exact⟨o',(hs.2 b (aU (aV (aK e) (I.ok.cab x c hfn hc)))).trans e1⟩
  .by_cases hj:j=i
   .subst hj;rw[hi]at e1;cases e1;rw[List.getElem?_set_self hiσ]at e2;cases e2;exact⟨u,r,.inr ⟨.inl hk,c,hc,hc'⟩⟩
   .rw[List.getElem?_set_ne (Ne.symm hj)]at e2;obtain⟨u',r',q⟩:=hl j y v' e1 e2 e3;refine⟨u',r',?_⟩;rcases q with q|⟨k,c',e,z'⟩
    .exact .inl q
    .refine .inr ⟨k,c',e,z'.sameBut hs ?_⟩;rintro rfl;exact hj (xO hN e1 (I.ok.inj _ _ _ e hc ▸ hi))
  .by_cases hcc:c'=c
   .subst hcc;exact⟨_,hc'⟩
   .obtain⟨w2,z2⟩:=I.cell y c' e;exact⟨w2,z2.sameBut hs hcc⟩
  .obtain⟨e,n,ne,nf,d⟩:=I.pin p hp;refine⟨(hs.2 p.1 ?_).trans e,n,ne,nf,d⟩;intro q;rw[q,hoc]at e;have q':oc=p.2:=Option.some.inj e;exact d w' (by rw[<- q'];exact hocd)
theorem xg{M:Model}{A:Around}{E:Κ}{i:Nat}{x:Str}{v:V}{u:Value}{Q:Unit->Shared->Prop}(I:Inv X pins σ H s)(hN:X.N.Nodup)(hi:X.N[i]?=some x)(hx:Loc X.env.scope x)(r:RelV v u)
 (h:∀s',Inv X pins (σ.set i (some v)) H s'->Q () s')(hf:X.fn x=true\/X.env.scope.names.lookup x=some .local:=by first|exact .inl rfl|exact .inr rfl|assumption):wpAny M A (storeName X.env x u) Q E s :=
 W_ I hN hi hx r (λs' I' _=>h s' I') hf
theorem Inv.call'{s':Shared}{ch:Ε}(I:Inv X pins σ H s)(ho:s'.os=s.os)(u:Un (frs X.stack) ch H H' s.heap s'.heap)(hok:HOk X.prog X.w H' s'.heap)(hg:AllBare s'.gens)
 (hch:∀b∈ch,(b∈X.ex\/X.s₀.heap.objs.size<=b)/\b≠X.env.locals/\(∀x c,X.env.cells.lookup x=some c->c≠b)/\∀p∈X.pn++pins,p.1≠b):Inv X pins σ H' s':=by
 obtain⟨h',g',d',t',o'⟩:=s';have e:o'=s.os:=ho;subst e;exact I.call (g':=g') (t':=t') (d':=d') u hok hg hch
end
abbrev XK:=Value->Η->Hp->Prop
noncomputable abbrev St:=List (Option V)
abbrev VK:=V->Hp->Prop
abbrev TE:=St->Hp->VK->Prop
abbrev TT:=St->Hp->(Bool->Hp->Prop)->Prop
abbrev TA:=St->Hp->(Μ->Hp->Prop)->Prop
structure Ends where
 nx:St->Hp->Prop
 rt:VK
 bk:St->Hp->Prop:=λ_ _=>False
 ct:St->Hp->Prop:=λ_ _=>False
abbrev TS:=Ends->St->Hp->Prop
def EP(X:Cx)(pins:Ω)(σ:St)(Q:VK)(u:Value)(s':Shared):Prop:=∃v H',Inv X pins σ H' s'/\RelV v u/\Q v H'
def TP(X:Cx)(pins:Ω)(σ:St)(Q:Bool->Hp->Prop)(b:Bool)(s':Shared):Prop:=∃H',Inv X pins σ H' s'/\Q b H'
def AP(X:Cx)(pins:Ω)(σ:St)(Q:Μ->Hp->Prop)(us:Ξ)(s':Shared):Prop:=∃vs H',Inv X pins σ H' s'/\Vals vs us/\Q vs H'
def SP(X:Cx)(pins:Ω)(D:Ends)(f:Flow)(s':Shared):Prop :=
 match f with
 |.next=>∃σ' H',Inv X pins σ' H' s'/\D.nx σ' H'
 |.brk=>∃σ' H',Inv X pins σ' H' s'/\D.bk σ' H'
 |.cont=>∃σ' H',Inv X pins σ' H' s'/\D.ct σ' H'
 |.ret u=>∃v σ' H',Inv X pins σ' H' s'/\RelV v u/\D.rt v H'
def PE(X:Cx)(e:Expr)(t:TE):Prop :=
 ∀(pins:Ω)(s:Shared)(σ:St)(H:Hp)(Q:VK),Inv X pins σ H s->t σ H Q->wpAny (model X.prog X.w) X.A (eval e X.env) (EP X pins σ Q) X.xe s
def PT(X:Cx)(e:Expr)(t:TT):Prop :=
 ∀(pins:Ω)(s:Shared)(σ:St)(H:Hp)(Q:Bool->Hp->Prop),Inv X pins σ H s->t σ H Q->wpAny (model X.prog X.w) X.A (isTrue e X.env (eval e X.env)) (TP X pins σ Q) X.xe s
def PW(X:Cx)(e:Expr)(t:TT):Prop :=
 ∀(whole:Sem Value)(pins:Ω)(s:Shared)(σ:St)(H:Hp)(Q:Bool->Hp->Prop),Inv X pins σ H s->t σ H Q->wpAny (model X.prog X.w) X.A (isTrue e X.env whole) (TP X pins σ Q) X.xe s
theorem PW.pt{X:Cx}{e:Expr}{t:TT}(h:PW X e t):PT X e t:=h _
def PA(X:Cx)(es:List Expr)(t:TA):Prop :=
 ∀(pos:Pos)(pins:Ω)(s:Shared)(σ:St)(H:Hp)(Q:Μ->Hp->Prop),Inv X pins σ H s->t σ H Q->wpAny (model X.prog X.w) X.A (spliced (backTo pos (starEach es X.env))) (AP X pins σ Q) X.xe s
def PS(X:Cx)(st:Stmt)(t:TS):Prop :=
 ∀(pins:Ω)(s:Shared)(σ:St)(H:Hp)(D:Ends),Inv X pins σ H s->t D σ H->wpAny (model X.prog X.w) X.A (exec st X.env) (SP X pins D) X.xe s
def PSs(X:Cx)(st:List Stmt)(t:TS):Prop :=
 ∀(pins:Ω)(s:Shared)(σ:St)(H:Hp)(D:Ends),Inv X pins σ H s->t D σ H->wpAny (model X.prog X.w) X.A (execs st X.env) (SP X pins D) X.xe s
theorem thn{α:Type}{t:Sem α}{Q Q':α->Shared->Prop}{M:Model}{A:Around}{E:Κ}{s:Shared}(h:wpAny M A t Q E s)(hQ:∀a s,Q a s->Q' a s):wpAny M A t Q' E s:=wpAny_mono h hQ λ_ _ x=>x
section
variable{X:Cx}
def Ke(i:Nat):TE:=λσ H Q=>∃v,σ[i]?=some (some v)/\Q v H
def tC(v:V):TE:=λ_ H Q=>Q v H
theorem adC{i:Nat}{x:Str}{pos:Pos}(hN:X.N[i]?=some x)(hv:Vis X.env.scope x)(hd:(x==("__debug__":Str))=false:=by decide)(hcd:(x==("__classdict__":Str))=false:=by decide):PE X (.Name x pos) (Ke i):=by
 intro pins s σ H Q I h;obtain⟨v,e,h⟩:=h;obtain⟨m,hn,hl⟩:=I.loc;obtain⟨u,r,l⟩:=hl i x v hN e hv;have fin:EP X pins σ Q u s:=⟨v,H,I,r,h⟩;rcases l with⟨hk,hm⟩|⟨hk,c,hc,hcell⟩
 .exact wpAny_Name (wpAny_loadName_local I.ok.kind hk hn hm fin) hd
 .rcases hk with hk|hk
  .exact wpAny_Name (wpAny_loadName_cell I.ok.kind hk hc hcell fin) hd
  .exact wpAny_Name (wpAny_loadName_free I.ok.kind hk hc hcell fin hcd) hd
theorem bK{i j pos} : PE X (.Constant (.int i) j pos) (tC (.int i)):=λ_ _ _ H _ I h=>wpAny_Constant_int ⟨.int i,H,I.tok _,⟨_,rfl⟩,h⟩
theorem vh{b j pos} : PE X (.Constant (.bool b) j pos) (tC (.bl b)):=λ_ _ _ H _ I h=>Constant_bool ⟨.bl b,H,I,rfl,h⟩
theorem mX{j pos} : PE X (.Constant .none j pos) (tC .non):=λ_ _ _ H _ I h=>Constant_none ⟨.non,H,I,rfl,h⟩
theorem uK{x j pos} : PE X (.Constant (.str x) j pos) (tC (.str x)):=λ_ _ _ H _ I h=>Calls.Constant_str ⟨.str x,H,I.tok _,⟨_,rfl⟩,h⟩
def Gl(X:Cx)(x:Str):Prop:=X.env.kindOf x=some .globalImplicit
theorem Ga{E:Κ}{pins:Ω}{s:Shared}{σ:St}{H:Hp}{x:Str}{u:Value}{pos:Pos}{Q:Κ}(I:Inv X pins σ H s)(hg:Gl X x)(hm:X.mg x=some u)(h:Q u s)
 (hd:(x==("__debug__":Str))=false:=by decide):wpAny (model X.prog X.w) X.A (eval (.Name x pos) X.env) Q E s :=
 Calls.Name_function_global I.ok.kind hg (Calls.loadGlobal_global (by rw[I.ok.glob];exact I.mod.glob.keeps I.bk) hm h) hd
theorem Ad{E:Κ}{pins:Ω}{s:Shared}{σ:St}{H:Hp}{x:Str}{u:Value}{pos:Pos}{Q:Κ}(I:Inv X pins σ H s)(hg:Gl X x)(hm:X.mg x=none)(hv:bootBuiltins x=some u)(h:Q u s)
 (hn:x≠"__name__":=by decide)(hd:(x==("__debug__":Str))=false:=by decide):wpAny (model X.prog X.w) X.A (eval (.Name x pos) X.env) Q E s:=by
 obtain⟨mb,h1,h2⟩:=I.mod.blt;exact Calls.Name_function_global I.ok.kind hg (Calls.loadGlobal_builtin (by rw[I.ok.glob];exact I.mod.glob.keeps I.bk) hm (by rw[I.ok.blt];exact h1.keeps I.bk) ((h2 x hn).trans hv) h) hd
theorem VG{x:Str}{v:V}{u:Value}{pos:Pos}(hg:Gl X x)(hm:X.mg x=some u)(r:RelV v u)(hd:(x==("__debug__":Str))=false:=by decide):PE X (.Name x pos) (tC v) :=
 λ_ _ _ H _ I h=>Ga I hg hm ⟨v,H,I,r,h⟩ hd
theorem pH{x:Str}{v:V}{u:Value}{pos:Pos}(hm:X.mg x=none)(hv:bootBuiltins x=some u)(r:RelV v u)(hg:Gl X x:=by rfl)(hn:x≠"__name__":=by decide)(hd:(x==("__debug__":Str))=false:=by decide):PE X (.Name x pos) (tC v) :=
 λ_ _ _ H _ I h=>Ad I hg hm hv ⟨v,H,I,r,h⟩ hn hd
variable{a b:Expr}{ta tb:TE}{pos:Pos}
def PC(X:Cx)(op:CmpOp)(a b:Expr)(t:TE):Prop :=
 ∀(pins:Ω)(s:Shared)(σ:St)(H:Hp)(Q:VK),Inv X pins σ H s->t σ H Q ->
  wpAny (model X.prog X.w) X.A (eval a X.env) (λv s₁=>wpAny (model X.prog X.w) X.A (eval b X.env) (λu s₂=>wpAny (model X.prog X.w) X.A (compareOp op v u) (EP X pins σ Q) X.xe s₂) X.xe s₁) X.xe s
def tB(t:TE):TT:=λσ H Q=>t σ H λx H1=>∃c,x=.bl c/\Q c H1
theorem U6{op:CmpOp}{t:TE}(h:PC X op a b t)(h1:behindInMarks op b=false:=by rfl):PT X (.Compare a [op] [b] pos) (tB t):=by
 intro pins s σ H Q I hw;refine wpAny_isTrue_Compare1 (thn (h pins s σ H _ I hw) λv s1 h1=>thn h1 λu s2 h2=>thn h2 λc s3 hP=>?_) h1;obtain⟨x,H1,I1,r1,q1⟩:=hP;obtain⟨d,rfl,q⟩:=q1;cases r1;exact wpAny_truthy_bool ⟨H1,I1,q⟩
variable{tA tB':TT}{rest:List Expr}
def aeT(t u:TT):TT:=λσ H Q=>t σ H λc H1=>if c=true then u σ H1 Q else Q false H1
def tOr(t u:TT):TT:=λσ H Q=>t σ H λc H1=>if c=true then Q true H1 else u σ H1 Q
def agg(t:TT):TT:=λσ H Q=>t σ H λc H1=>Q (!c) H1
theorem pw_and1(ha:PT X a tA):PW X (.BoolOp .And [a] pos) tA:=by
 intro wh pins s σ H Q I h;refine isTrue_and (thn (ha pins s σ H Q I h) λc s1 e=>?_);cases c with
 |true=>exact isTrue_and_nil e
 |false=>exact e
theorem pw_or1(ha:PT X a tA):PW X (.BoolOp .Or [a] pos) tA:=by
 intro wh pins s σ H Q I h;refine isTrue_or (thn (ha pins s σ H Q I h) λc s1 e=>?_);cases c with
 |false=>exact isTrue_or_nil e
 |true=>exact e
theorem pw_and(ha:PT X a tA)(hb:PW X (.BoolOp .And (b::rest) pos) tB'):PW X (.BoolOp .And (a::b::rest) pos) (aeT tA tB'):=by
 intro wh pins s σ H Q I h;refine isTrue_and (thn (ha pins s σ H _ I h) λc s1 hP=>?_);obtain⟨H1,I1,q1⟩:=hP;cases c with
 |true=>exact hb wh pins s1 σ H1 Q I1 q1
 |false=>exact⟨H1,I1,q1⟩
theorem pw_or(ha:PT X a tA)(hb:PW X (.BoolOp .Or (b::rest) pos) tB'):PW X (.BoolOp .Or (a::b::rest) pos) (tOr tA tB'):=by
 intro wh pins s σ H Q I h;refine isTrue_or (thn (ha pins s σ H _ I h) λc s1 hP=>?_);obtain⟨H1,I1,q1⟩:=hP;cases c with
 |true=>exact⟨H1,I1,q1⟩
 |false=>exact hb wh pins s1 σ H1 Q I1 q1
theorem fU(ha:PT X a tA):PT X (.UnaryOp .Not a pos) (agg tA):=by
 intro pins s σ H Q I h;exact isTrue_not (ha pins s σ H (λc H1=>Q (!c) H1) I h)
def acU(ta tb:TE):TE:=λσ H Q=>ta σ H λx H1=>∃c,x=.bl c/\if c=true then tb σ H1 Q else Q (.bl false) H1
def adk(ta:TE):TE:=λσ H Q=>ta σ H λx H1=>∃c,x=.bl c/\Q (.bl (!c)) H1
theorem N_{op}{t:TE}(h:PE X a t):PE X (.BoolOp op [a] pos) t:=λpins s σ H Q I hw=>BoolOp_one (h pins s σ H Q I hw)
theorem Og(ha:PE X a ta)(hb:PE X (.BoolOp .And (b::rest) pos) tb):PE X (.BoolOp .And (a::b::rest) pos) (acU ta tb):=by
 intro pins s σ H Q I h;refine BoolOp_and (thn (ha pins s σ H _ I h) λv s1 hP=>?_);obtain⟨x,H1,I1,r1,q1⟩:=hP;obtain⟨c,rfl,q1⟩:=q1;cases r1;refine wpAny_truthy_bool ?_;cases c with
 |true=>exact hb pins s1 σ H1 Q I1 q1
 |false=>exact⟨.bl false,H1,I1,rfl,q1⟩
theorem aec(ha:PE X a ta):PE X (.UnaryOp .Not a pos) (adk ta):=by
 intro pins s σ H Q I h;refine UnaryOp_ (thn (ha pins s σ H _ I h) λv s1 hP=>?_);obtain⟨x,H1,I1,r1,q1⟩:=hP;obtain⟨c,rfl,q1⟩:=q1;cases r1;exact not_of (wpAny_truthy_bool ⟨.bl (!c),H1,I1,rfl,q1⟩)
def tIf(t:TT)(ta tb:TE):TE:=λσ H Q=>t σ H λc H1=>if c=true then ta σ H1 Q else tb σ H1 Q
theorem Dl{c:Expr}(hc:PT X c tA)(ha:PE X a ta)(hb:PE X b tb):PE X (.IfExp c a b pos) (tIf tA ta tb):=by
 intro pins s σ H Q I h;refine wpAny_IfExp (thn (hc pins s σ H _ I h) λd s1 hP=>?_);obtain⟨H1,I1,q1⟩:=hP;cases d with
 |true=>exact ha pins s1 σ H1 Q I1 q1
 |false=>exact hb pins s1 σ H1 Q I1 q1
end
def SqL(K:Frag)(H:Hp)(a:Addr)(xs:Μ):Prop :=
 Rd H a (.lst xs) \/
  ∃(o:Obj)(its:Array Value)(n:Nat),K.lookup a=some o/\o.cls=.type "list"/\o.dict=none/\o.data=.seq its n/\its.size<=sizeLine/\Vals xs its.toList
def SqT(K:Frag)(H:Hp)(a:Addr)(xs:Μ):Prop :=
 Rd H a (.tup xs) \/
  ∃(o:Obj)(its:Array Value)(n:Nat),K.lookup a=some o/\o.cls=.type "tuple"/\o.data=.seq its n/\its.size<=sizeLine/\Vals xs its.toList
noncomputable def ajL:Value->Option V
 |.none=>some .non
 |.bool b=>some (.bl b)
 |.int i _=>some (.int i)
 |.str x _=>some (.str x)
 |.bytes b _=>some (.byt b)
 |.float b _=>some (.flt b)
 |.ref a=>some (.ref a)
 |.type n=>some (.ty n)
 |_=>none
theorem RelV.abs{x:V}{u:Value}(r:RelV x u):ajL u=some x:=by
 cases x with
 |non=>cases r;rfl
 |bl _=>cases r;rfl
 |int _=>obtain⟨t,rfl⟩:=r;rfl
 |str _=>obtain⟨t,rfl⟩:=r;rfl
 |byt _=>obtain⟨t,rfl⟩:=r;rfl
 |flt _=>obtain⟨t,rfl⟩:=r;rfl
 |ref _=>cases r;rfl
 |ty _=>cases r;rfl
theorem RelV.inj{x y:V}{u:Value}(r:RelV x u)(q:RelV y u):x=y:=Option.some.inj (r.abs.symm.trans q.abs)
theorem Vals.inj:∀{xs ys:Μ}{us:Ξ},Vals xs us->Vals ys us->xs=ys
 |_,_,_,.nil,.nil=>rfl
 |_,_,_,.cons r t,.cons r' t'=>by rw[r.inj r',Vals.inj t t']
section
variable{X:Cx}{pins:Ω}{σ:St}{H:Hp}{s:Shared}{a:Addr}{xs ys:Μ}
theorem SqL.of{K:Frag}(h:H a=some (.lst xs)):SqL K H a xs:=.inl (.inl h)
theorem SqT.of{K:Frag}(h:H a=some (.tup xs)):SqT K H a xs:=.inl (.inl h)
theorem Inv.list(I:Inv X pins σ H s)(h:SqL X.K H a xs):∃its:Ξ,Vals xs its/\PlainL s.heap a its.toArray/\xs.length<=sizeLine:=by
 rcases h with h|⟨o,its,n,hk,hc,hd,hs,hz,r⟩
 .obtain⟨z,its,n,r,e⟩:=h.ok I.hok;exact⟨its,r,⟨_,n,e,rfl,rfl,rfl⟩,z⟩
 .refine⟨its.toList,r,⟨o,n,I.kIn a o hk,hc,hd,by simpa using hs⟩,?_⟩;have e:=r.length;simp only[Array.length_toList]at e;exact aM (Nat.le_of_eq e) hz
theorem Inv.tuple(I:Inv X pins σ H s)(h:SqT X.K H a xs):∃its:Ξ,Vals xs its/\IsTup s.heap a its.toArray/\xs.length<=sizeLine:=by
 rcases h with h|⟨o,its,n,hk,hc,hs,hz,r⟩
 .obtain⟨z,its,r,p⟩:=h.ok I.hok;exact⟨its,r,p,z⟩
 .refine⟨its.toList,r,⟨o,I.kIn a o hk,hc,n,by simpa using hs⟩,?_⟩;have e:=r.length;simp only[Array.length_toList]at e;exact aM (Nat.le_of_eq e) hz
theorem Inv.list_inj(I:Inv X pins σ H s)(h:SqL X.K H a xs)(h':SqL X.K H a ys):xs=ys:=by
 obtain⟨its,r,⟨o,n,e,_,_,d⟩,_⟩:=I.list h;obtain⟨its',r',⟨o',n',e',_,_,d'⟩,_⟩:=I.list h';rw[e]at e';cases e';rw[d]at d';injection d' with d1 _;have:its=its':=by simpa using ZH Array.toList d1
 subst this;exact r.inj r'
theorem Inv.tuple_inj(I:Inv X pins σ H s)(h:SqT X.K H a xs)(h':SqT X.K H a ys):xs=ys:=by
 obtain⟨its,r,⟨o,e,_,n,d⟩,_⟩:=I.tuple h;obtain⟨its',r',⟨o',e',_,n',d'⟩,_⟩:=I.tuple h';rw[e]at e';cases e';rw[d]at d';injection d' with d1 _;have:its=its':=by simpa using ZH Array.toList d1
 subst this;exact r.inj r'
end
noncomputable abbrev Cx.wish(X:Cx)(E:Κ):Cx:={ X with xe:=E }
noncomputable abbrev Cx.nox(X:Cx):Cx:=X.wish λ_ _=>False
theorem Cx.Ok.wish{X:Cx}(ok:X.Ok)(E:Κ):(X.wish E).Ok :=
 ⟨ok.mod,ok.kind,ok.glob,ok.blt,ok.above,ok.inj,ok.has,ok.cab,ok.hd,ok.frames,ok.stk,ok.exf,ok.bs,ok.bsz,ok.noex,ok.exfs,ok.funs,ok.frf⟩
theorem Cx.Ok.unwish{X:Cx}{E:Κ}(ok:(X.wish E).Ok):X.Ok :=
 ⟨ok.mod,ok.kind,ok.glob,ok.blt,ok.above,ok.inj,ok.has,ok.cab,ok.hd,ok.frames,ok.stk,ok.exf,ok.bs,ok.bsz,ok.noex,ok.exfs,ok.funs,ok.frf⟩
section
variable{X:Cx}{pins:Ω}{σ:St}{H:Hp}{s:Shared}{E:Κ}
theorem Inv.wish(I:Inv X pins σ H s)(E:Κ):Inv (X.wish E) pins σ H s:=⟨I.ok.wish E,I.os,I.bare,I.base,I.loc,I.cell,I.free,I.freeC,I.pin,I.hok,I.len⟩
theorem Inv.unwish(I:Inv (X.wish E) pins σ H s):Inv X pins σ H s:=⟨I.ok.unwish,I.os,I.bare,I.base,I.loc,I.cell,I.free,I.freeC,I.pin,I.hok,I.len⟩
theorem SP.unwish{D:Ends}{f:Flow}{s':Shared}(h:SP (X.wish E) pins D f s'):SP X pins D f s':=by
 cases f with
 |next=>obtain⟨σ',H',I,q⟩:=h;exact⟨σ',H',I.unwish,q⟩
 |brk=>obtain⟨σ',H',I,q⟩:=h;exact⟨σ',H',I.unwish,q⟩
 |cont=>obtain⟨σ',H',I,q⟩:=h;exact⟨σ',H',I.unwish,q⟩
 |ret u=>obtain⟨v,σ',H',I,r,q⟩:=h;exact⟨v,σ',H',I.unwish,r,q⟩
theorem PSs.nox{st:List Stmt}{t:TS}(h:PSs X.nox st t):PSs X st t:=λpins s σ H D I hw =>
 wpAny_mono (h pins s σ H D (I.wish _) hw) (λ_ _ q=>q.unwish) λ_ _ z=>False.elim z
end
section
variable{X:Cx}{st:Stmt}{rest:List Stmt}{t u:TS}{e:Expr}{te:TE}{pos:Pos}
def Iw:TS:=λD σ H=>D.nx σ H
def ur(t u:TS):TS:=λD σ H=>t { D with nx:=u D } σ H
theorem cF:PSs X [] Iw:=λ_ _ σ H _ I h=>wpAny_execs_nil ⟨σ,H,I,h⟩
theorem bI(h1:PS X st t)(h2:PSs X rest u):PSs X (st::rest) (ur t u):=by
 intro pins s σ H D I h;refine wpAny_execs_cons (thn (h1 pins s σ H { D with nx:=u D } I h) λf s1 q=>?_);cases f with
 |next =>
  obtain⟨σ',H',I',q⟩:=q;exact h2 pins s1 σ' H' D I' q
 |ret v=>exact q
 |brk=>exact q
 |cont=>exact q
theorem bO(h1:PS X st t):PSs X [st] t:=by
 intro pins s σ H D I h;refine wpAny_execs_cons (thn (h1 pins s σ H D I h) λf s1 q=>?_);cases f with
 |next=>exact wpAny_execs_nil q
 |ret v=>exact q
 |brk=>exact q
 |cont=>exact q
theorem Inv.quiet{pins:Ω}{σ:St}{H:Hp}{s:Shared}(I:Inv X pins σ H s):interactive X.env=false:=by simp[interactive,I.ok.kind]
def acW(te:TE):TS:=λD σ H=>te σ H λ_ H1=>D.nx σ H1
theorem cX(he:PE X e te)(hs:swapsWith e none pos.line X.env=pure false:=by rfl):PS X (.Expr e pos) (acW te):=by
 intro pins s σ H D I h;exact wpAny_Expr_any (thn (he pins s σ H _ I h) λv s1 hP=>by obtain⟨x,H1,I1,r1,q1⟩:=hP;exact⟨σ,H1,I1,q1⟩) I.quiet hs
def YC(te:TE):TS:=λD σ H=>te σ H D.rt
theorem cg(he:PE X e te):PS X (.Return (some e) pos) (YC te):=by
 intro pins s σ H D I h;exact wpAny_Return_some (thn (he pins s σ H _ I h) λv s1 hP=>by obtain⟨x,H1,I1,r1,q1⟩:=hP;exact⟨x,σ,H1,I1,r1,q1⟩)
def Q8(c:TT)(t u:TS):TS:=λD σ H=>c σ H λb H1=>if b=true then t D σ H1 else u D σ H1
theorem cW{c:Expr}{a b:List Stmt}{tc:TT}(hc:PT X c tc)(ha:PSs X a t)(hb:PSs X b u):PS X (.If c a b pos) (Q8 tc t u):=by
 intro pins s σ H D I h;refine wpAny_If (thn (hc pins s σ H _ I h) λd s1 hP=>?_);obtain⟨H1,I1,q1⟩:=hP;cases d with
 |true=>exact ha pins s1 σ H1 D I1 q1
 |false=>exact hb pins s1 σ H1 D I1 q1
def aeJ:TS:=λ_ _ _=>False
theorem gZ:PS X st aeJ:=λ_ _ _ _ _ _ h=>h.elim
end
abbrev TG:=V->St->Hp->(St->Hp->Prop)->Prop
abbrev TGs:=Μ->St->Hp->(St->Hp->Prop)->Prop
def PG(X:Cx)(target:Expr)(t:TG):Prop :=
 ∀(pins:Ω)(s:Shared)(σ:St)(H:Hp)(v:V)(u:Value)(Q:St->Hp->Prop),Inv X pins σ H s->RelV v u->t v σ H Q ->
  wpAny (model X.prog X.w) X.A (assign target X.env u) (λ_ s'=>∃σ' H',Inv X pins σ' H' s'/\Q σ' H') X.xe s
def PGs(X:Cx)(ts:List Expr)(t:TGs):Prop :=
 ∀(pins:Ω)(s:Shared)(σ:St)(H:Hp)(vs:Μ)(us:Ξ)(Q:St->Hp->Prop),Inv X pins σ H s->Vals vs us->t vs σ H Q ->
  wpAny (model X.prog X.w) X.A (assignInOrder ((assignEach ts X.env).map (·.2)) us) (λ_ s'=>∃σ' H',Inv X pins σ' H' s'/\Q σ' H') X.xe s
abbrev adA:=V->V->V->Hp->(Hp->Prop)->Prop
def ai0(X:Cx)(t:adA):Prop :=
 ∀(pins:Ω)(s:Shared)(σ:St)(H:Hp)(o i v:V)(ov iv u:Value)(Q:Hp->Prop),Inv X pins σ H s->RelV o ov->RelV i iv->RelV v u->t o i v H Q ->
  wpAny (model X.prog X.w) X.A (setItem ov iv u) (λ_ s'=>∃H',Inv X pins σ H' s'/\Q H') X.xe s
abbrev TIp:=V->V->Hp->VK->Prop
def PIp(X:Cx)(op:Operator)(t:TIp):Prop :=
 ∀(pins:Ω)(s:Shared)(σ:St)(H:Hp)(x y:V)(v u:Value)(Q:VK),Inv X pins σ H s->RelV x v->RelV y u->t x y H Q ->
  wpAny (model X.prog X.w) X.A (inplaceOp op v u) (EP X pins σ Q) X.xe s
section
variable{X:Cx}{pos:Pos}
def cQ(i:Nat):TG:=λv σ H Q=>Q (σ.set i (some v)) H
theorem cB{i:Nat}{x:Str}(hN:X.N.Nodup)(hx:Loc X.env.scope x:=by exact Or.inl rfl)(hi:X.N[i]?=some x:=by rfl)(hf:X.fn x=true\/X.env.scope.names.lookup x=some .local:=by first|exact .inl rfl|exact .inr rfl|assumption):PG X (.Name x pos) (cQ i):=by
 intro pins s σ H v u Q I r h;exact wpAny_assign_Name (xg I hN hi hx r (λs' I'=>⟨_,H,I',h⟩) hf)
def afN:TGs:=λvs σ H Q=>vs=[]/\Q σ H
def ade(t:TG)(u:TGs):TGs:=λvs σ H Q=>∃v r,vs=v::r/\t v σ H λσ' H'=>u r σ' H' Q
theorem fX:PGs X [] afN:=by
 intro pins s σ H vs us Q I r h;obtain⟨e,h⟩:=h;subst e;cases r;exact assignInOrder_nil ⟨σ,H,I,h⟩
theorem cG{e:Expr}{es:List Expr}{t:TG}{u:TGs}(h1:PG X e t)(h2:PGs X es u)
 (hs:(assignEach (e::es) X.env).map (·.2)=assign e X.env::(assignEach es X.env).map (·.2):=by rfl):PGs X (e::es) (ade t u):=by
 intro pins s σ H vs us Q I r h;obtain⟨v,vr,e1,h⟩:=h;subst e1;cases r with
 |cons r rr =>
  rw[hs];refine assignInOrder_cons (thn (h1 pins s σ H _ _ _ I r h) λ_ s1 hP=>?_);obtain⟨σ1,H1,I1,q1⟩:=hP;exact h2 pins s1 σ1 H1 _ _ Q I1 rr q1
def aeW(K:Frag)(n:Nat)(t:TGs):TG:=λv σ H Q=>∃a xs,v=.ref a/\SqT K H a xs/\xs.length=n/\t xs σ H Q
theorem adW{es:List Expr}{k:Nat}{t:TGs}{n:Nat}(hc:X.calm=true)(h:PGs X es t)
 (hn:(assignEach es X.env).length=n:=by rfl)(hst:(assignEach es X.env).findIdx? (·.1)=none:=by rfl):PG X (.Tuple es k pos) (aeW X.K n t):=by
 intro pins s σ H v u Q I r hw;obtain⟨a,xs,e1,hq,hl,hw⟩:=hw;subst e1;cases r;obtain⟨its,rv,ht,hz⟩:=I.tuple hq;refine assign_Tuple_tuple (I.ok.hd hc) ht (by simp[hn,<- hl,rv.length]) hst λh' hx=>?_;have I1:Inv X pins σ H { s with heap:=h' }:=I.kept (t':=s.toks) λb o e=>hx b o (aU (aK e)) e;exact h pins _ σ H xs _ Q I1 (by simpa using rv) hw
def ahi(to ti:TE)(t:adA):TG:=λv σ H Q=>to σ H λo H1=>ti σ H1 λi H2=>t o i v H2 λH3=>Q σ H3
theorem xZ{o i:Expr}{to ti:TE}{t:adA}(ho:PE X o to)(hi:PE X i ti)(hs:ai0 X t)
 (ha:∀v,assign (.Subscript o i pos) X.env v=(do
   let ov <- holding [v] (eval o X.env)
   let iv <- holding [v,ov] (eval i X.env)
   standAt pos
   holding [v,ov,iv] (setItem ov iv v)
   release [v,ov,iv] []):=by intro _;rfl):PG X (.Subscript o i pos) (ahi to ti t):=by
 intro pins s σ H v u Q I r h;rw[ha];refine ZU (wpAny_holding (thn (ho pins s σ H _ I h) λov s1 hP=>?_));obtain⟨x,H1,I1,r1,q1⟩:=hP;refine ZU (wpAny_holding (thn (hi pins s1 σ H1 _ I1 q1) λiv s2 hP=>?_));obtain⟨y,H2,I2,r2,q2⟩:=hP;refine ZU (wpAny_standAt (ZU (wpAny_holding (thn (hs pins s2 σ H2 x y v ov iv u _ I2 r1 r2 r q2) λ_ s3 hP=>?_))));obtain⟨H3,I3,q3⟩:=hP;exact wpAny_release ⟨σ,H3,I3,q3⟩
def Ry(te:TE)(g:TG):TS:=λD σ H=>te σ H λx H1=>g x σ H1 D.nx
theorem oX{tg e:Expr}{te:TE}{g:TG}(he:PE X e te)(hg:PG X tg g)(hs:swapsWithSole [tg] e pos.line X.env=pure false:=by rfl)(hw:swappedStores [tg] e X.env=pure none:=by rfl)
 (h1:(assignEach [tg] X.env).map (·.2)=[assign tg X.env]:=by rfl):PS X (.Assign [tg] e pos) (Ry te g):=by
 intro pins s σ H D I h;refine wpAny_Assign_stores (thn (he pins s σ H _ I h) λv s1 hP=>?_) hs hw;obtain⟨x,H1,I1,r1,q1⟩:=hP;rw[h1];exact thn (hg pins s1 σ H1 x v _ I1 r1 q1) λ_ s2 q=>q
theorem bZ{i:Nat}{x:Str}{e:Expr}{te:TE}{pos':Pos}(hN:X.N.Nodup)(he:PE X e te)(hx:Loc X.env.scope x:=by exact Or.inl rfl)(hi:X.N[i]?=some x:=by rfl)(hs:swapsWith e (some (.Name x pos')) pos.line X.env=pure false:=by rfl)(hf:X.fn x=true\/X.env.scope.names.lookup x=some .local:=by first|exact .inl rfl|exact .inr rfl|assumption) :
  PS X (.Assign [.Name x pos'] e pos) (Ry te (cQ i)):=by
 intro pins s σ H D I h;refine wpAny_Assign_Name (thn (he pins s σ H _ I h) λv s1 hP=>?_) hs;obtain⟨y,H1,I1,r1,q1⟩:=hP;exact xg I1 hN hi hx r1 (λs2 I2=>⟨_,H1,I2,q1⟩) hf
def afa(i j:Nat)(ta:TA):TS:=λD σ H=>ta σ H λvs H1=>∃v w,vs=[v,w]/\D.nx ((σ.set i (some v)).set j (some w)) H1
theorem aeu{i j:Nat}{x y:Str}{a b:Expr}{ta:TA}{px py pt:Pos}{kt k2 pt2}(hc:X.calm=true)(hN:X.N.Nodup)(hi:X.N[i]?=some x)(hj:X.N[j]?=some y)(hij:i≠j)
 (hx:X.env.scope.names.lookup x=some .local)(hy:X.env.scope.names.lookup y=some .local)(ha:PA X [a,b] ta)
 (hw:swappedStores [.Tuple [.Name x px,.Name y py] kt pt] (.Tuple [a,b] k2 pt2) X.env=pure (some [x,y]))
 (hs:swapsWithSole [.Tuple [.Name x px,.Name y py] kt pt] (.Tuple [a,b] k2 pt2) pos.line X.env=pure false:=by rfl) :
  PS X (.Assign [.Tuple [.Name x px,.Name y py] kt pt] (.Tuple [a,b] k2 pt2) pos) (afa i j ta):=by
 intro pins s σ H D I h;rw[exec_Assign_arm];refine ZU (wpAny_standAt ?_);rw[hs];refine ZU (ZT ?_);rw[ZZ (by decide)];refine ZU (Tuple_ (thn (ha _ pins s σ H _ I h) λus s1 hP=>?_));obtain⟨vs,H1,I1,r1,q1⟩:=hP;obtain⟨v,w,e1,q1⟩:=q1;subst e1;obtain⟨u1,u2,rfl,rv,rw'⟩ : ∃u1 u2,us=[u1,u2]/\RelV v u1/\RelV w u2:=by
  cases r1 with
  |cons p q =>
   cases q with
   |cons p' q' =>
    cases q';exact⟨_,_,rfl,p,p'⟩
 refine wpAny_newObj_type ?_ (by show 2<=sizeLine;decide);have I2:Inv X pins σ H1 { s1 with heap:=s1.heap.push { cls:=.type "tuple",data:=.seq [u1,u2].toArray } }:=I1.kept (t':=s1.toks) λb o e=>aH _ e;rw[hw];refine ZU (ZT ?_);show wpAny (model X.prog X.w) X.A (do rule "assign.swapped-stores"; let items <- unpackItems (.ref s1.heap.objs.size) 2 none;assignInOrder [λv=>bindName X.env y v,λv=>bindName X.env x v] items.reverse;pure Flow.next) _ _ _;refine ZU (wpAny_rule (ZU (unpackItems_tuple (items:=#[u1,u2]) (I.ok.hd hc) (IsTup.new s1.heap _) λh' hx'=>?_)));have I3:=I2.kept (h':=h') (t':=s1.toks) λb o e=>hx' b o (aU (aK e)) e;show wpAny _ _ (assignInOrder [λv=>bindName X.env y v,λv=>bindName X.env x v] [u2,u1] >>= λ_=>pure Flow.next) _ _ _;refine ZU (assignInOrder_cons (wpAny_bindName (xg I3 hN hj (.inl hy) rw' (λs2 I4=>?_) (.inr hy))));refine assignInOrder_cons (wpAny_bindName (xg I4 hN hi (.inl hx) rv (λs3 I5=>assignInOrder_nil (ZT ?_)) (.inr hx)));rw[List.set_comm _ _ (Ne.symm hij)]at I5;exact⟨_,H1,I5,q1⟩
def ajs(i:Nat)(te:TE)(ti:TIp):TS:=λD σ H=>∃x,σ[i]?=some (some x)/\te σ H λy H1=>ti x y H1 λz H2=>D.nx (σ.set i (some z)) H2
theorem adZ{i:Nat}{x:Str}{e:Expr}{te:TE}{op:Operator}{ti:TIp}{pos':Pos}(hN:X.N.Nodup)(hi:X.N[i]?=some x)(hx:Loc X.env.scope x)(he:PE X e te)(ho:PIp X op ti)(hf:X.fn x=true\/X.env.scope.names.lookup x=some .local:=by first|exact .inl rfl|exact .inr rfl|assumption) :
  PS X (.AugAssign (.Name x pos') op e pos) (ajs i te ti):=by
 intro pins s σ H D I h;obtain⟨v,e1,h⟩:=h;obtain⟨m,hn,hl⟩:=I.loc;have vis:Vis X.env.scope x:=by rcases hx with k|k;exact .inl k;exact .inr (.inl k)
 obtain⟨u,r,l⟩:=hl i x v hi e1 vis;refine wpAny_AugAssign_Name ?_;have go:wpAny (model X.prog X.w) X.A (eval e X.env) (λw s₂=>wpAny (model X.prog X.w) X.A (inplaceOp op u w) (λr s₃=>wpAny (model X.prog X.w) X.A (storeName X.env x r) (λ_=>SP X pins D .next) X.xe s₃) X.xe s₂) X.xe s:=by
  refine thn (he pins s σ H _ I h) λw s1 hP=>?_;obtain⟨y,H1,I1,r1,q1⟩:=hP;refine thn (ho pins s1 σ H1 v y u w _ I1 r r1 q1) λz s2 hP=>?_;obtain⟨zv,H2,I2,r2,q2⟩:=hP;exact xg I2 hN hi hx r2 (λs3 I3=>⟨_,H2,I3,q2⟩) hf
 rcases l with⟨hk,hm⟩|⟨hk,c,hc,hcell⟩
 .exact wpAny_loadName_local I.ok.kind hk hn hm go
 .rcases hk with hk|hk
  .exact wpAny_loadName_cell I.ok.kind hk hc hcell go
  .rcases hx with k|k
   .have:X.env.scope.names.lookup x=some .free:=hk;rw[k]at this;cases this
   .have:X.env.scope.names.lookup x=some .free:=hk;rw[k]at this;cases this
def ipI(f:Int->Int->Int):TIp:=λx y H Q=>∃i j,x=.int i/\y=.int j/\Q (.int (f i j)) H
theorem adU:PIp X .Add (ipI λi j=>i+j):=by
 intro pins s σ H x y v u Q I r1 r2 h;obtain⟨i,j,e1,e2,q⟩:=h;subst e1;subst e2;obtain⟨t,rfl⟩:=r1;obtain⟨t',rfl⟩:=r2;exact iadd_int ⟨.int _,H,I.tok _,⟨_,rfl⟩,q⟩
end
section
variable{X:Cx}{pos:Pos}
def aaD(c:TT)(tb:TS):TS:=λD σ H=>∃W:Nat->St->Hp->Prop,(∃m,W m σ H)/\∀m σ H,W m σ H ->
 c σ H λb H1=>if b=true then ∃N:St->Hp->Prop,(∀σ' H',N σ' H'->∃m',m'<m/\W m' σ' H')/\tb { D with nx:=N,ct:=N,bk:=D.nx } σ H1 else D.nx σ H1
theorem Rm{c:Expr}{body:List Stmt}{tc:TT}{tb:TS}(hp:PassesOwn (model X.prog X.w) X.A X.env X.xe)(hc:PT X c tc)(hb:PSs X body tb):PS X (.While c body [] pos) (aaD tc tb):=by
 intro pins s σ H D I h;obtain⟨W,⟨m0,w0⟩,turn⟩:=h;refine wpAny_While (codeAny_whileLoop (λn s'=>∃σ' H',Inv X pins σ' H' s'/\W n σ' H') ?_ m0 ⟨σ,H,I,w0⟩);rintro n s1 ⟨σ1,H1,I1,w1⟩;refine wpAny_passesOwn hp (thn (hc pins s1 σ1 H1 _ I1 (turn n σ1 H1 w1)) λb s2 hP=>?_);obtain⟨H2,I2,q2⟩:=hP;cases b with
 |true =>
  obtain⟨N,hN,q2⟩:=q2;rw[ZY rfl];refine wpAny_passesOwn hp (thn (hb pins s2 σ1 H2 _ I2 q2) λf s3 q3=>?_);cases f with
  |next =>
   obtain⟨σ3,H3,I3,n3⟩:=q3;obtain⟨m',hm,w3⟩:=hN σ3 H3 n3;exact⟨m',hm,σ3,H3,I3,w3⟩
  |cont =>
   obtain⟨σ3,H3,I3,n3⟩:=q3;obtain⟨m',hm,w3⟩:=hN σ3 H3 n3;exact⟨m',hm,σ3,H3,I3,w3⟩
  |brk=>exact q3
  |ret v=>exact q3
 |false =>
  rw[ZZ bD];exact wpAny_execs_nil ⟨σ1,H2,I2,q2⟩
end
structure It where
 go:Nat->Hp->Prop
 yld:Nat->Hp->V->Hp->Prop
 stop:Nat->Hp->Prop
def EY(X:Cx)(pins:Ω)(H:Hp)(b:Addr):Prop :=
 H b=none/\b≠X.env.locals/\b∉X.fs/\(b∈X.ex\/X.s₀.heap.objs.size<=b)/\(∀x c,X.env.cells.lookup x=some c->c≠b)/\∀p∈X.pn++pins,p.1≠b
theorem Inv.fpOk{X:Cx}{pins:Ω}{σ:St}{H H':Hp}{s:Shared}{b:Addr}(I:Inv X pins σ H s)(hb:s.heap.objs.size<=b)(hn:H' b=none):EY X pins H' b:=by
 refine⟨hn,Nat.ne_of_gt (aV I.lt hb),I.nofs hb,.inr (aM I.sz hb),λx c e z=>?_,λp hp z=>?_⟩
 .obtain⟨v,q⟩:=I.cell x c e;exact absurd (aV q.lt (by rw[z];exact hb)) (X9 _)
 .exact absurd (aV (aK (I.pin p hp).1) (by rw[z];exact hb)) (X9 _)
structure Turn(P:Program)(w:World)(K:Frag)(tg:Expr)(J:It)(fp:Ε)(it:Addr)(tn:Nat->Heap->Prop):Prop where
 mem:it∈fp
 obj:∀i h,tn i h->∀b∈fp,∃o,h.get? b=some o/\∀v,o.data≠.cell v
 keep:∀i h h',tn i h->(∀b∈fp,∀o,h.get? b=some o->h'.get? b=some o)->tn i h'
 item:∀(X:Cx),X.prog=P->X.w=w->X.K=K->X.calm=true->∀(i:Nat)(pins:Ω)(s:Shared)(σ:St)(H:Hp)(E:Κ),Inv X pins σ H s->(∀b∈fp,EY X pins H b)->tn i s.heap->J.go i H ->
  wpAny (model P w) X.A (pyNext (.ref it)) (λr s1=>∃u,r=some u /\
   wpAny (model P w) X.A (letOwnedTupleGo tg (.ref it) u) (λ_ s2=>∃x H',Inv X pins σ H' s2/\RelV x u/\J.yld i H x H'/\tn (i+1) s2.heap/\∀b∈fp,H' b=none) E s1) E s
 done:∀(X:Cx),X.prog=P->X.w=w->X.K=K->X.calm=true->∀(i:Nat)(pins:Ω)(s:Shared)(σ:St)(H:Hp)(E:Κ),Inv X pins σ H s->(∀b∈fp,EY X pins H b)->tn i s.heap->J.stop i H ->
  wpAny (model P w) X.A (pyNext (.ref it)) (λr s1=>r=none/\Inv X pins σ H s1) E s
 self:∀(A:Around)(i:Nat)(s:Shared)(Q:Κ)(E:Κ),tn i s.heap->Q (.ref it) s->wpAny (model P w) A (pyIter (.ref it)) Q E s
abbrev TI:=St->Hp->(It->Hp->Prop)->Prop
def PIE(X:Cx)(pins:Ω)(σ:St)(tg:Expr)(R:It->Hp->Prop)(itv:Value)(s2:Shared):Prop :=
 ∃(it:Addr)(fp:Ε)(tn:Nat->Heap->Prop)(J:It)(H':Hp),itv=.ref it/\Inv X pins σ H' s2/\Turn X.prog X.w X.K tg J fp it tn/\tn 0 s2.heap/\(∀b∈fp,EY X pins H' b)/\R J H'
def PI(X:Cx)(tg iter:Expr)(wi:TI):Prop :=
 ∀(pins:Ω)(s:Shared)(σ:St)(H:Hp)(R:It->Hp->Prop),Inv X pins σ H s->wi σ H R ->
  wpAny (model X.prog X.w) X.A (eval iter X.env) (λv s1=>wpAny (model X.prog X.w) X.A (pyIter v) (PIE X pins σ tg R) X.xe s1) X.xe s
theorem Rt{M:Model}{A:Around}{E:Κ}{s:Shared}{tg:Expr}{it:Addr}{u:Value}{o:Obj}{n:String}{vs:Array Value}{Q:Unit->Shared->Prop}(ho:s.heap.get? it=some o)(hc:o.cls=.type n)(hd:o.data=.fields vs)
   (hn : ["enumerate","zip","dict_itemiterator","dict_reverseitemiterator","odict_iterator","itertools.zip_longest","itertools.pairwise"].contains n=false)(hQ:Q () s):wpAny M A (letOwnedTupleGo tg (.ref it) u) Q E s:=by
  unfold letOwnedTupleGo;cases tg<;>first
    |exact ZT hQ
    |(cases u<;>first
        |exact ZT hQ
        | (refine ZU (wpAny_load ho ?_)
           rw[hc,hd];show wpAny M A (if(["enumerate","zip","dict_itemiterator","dict_reverseitemiterator","odict_iterator","itertools.zip_longest","itertools.pairwise"].contains n&&vs[0]?==some (rawInt _))=true then _ else _) Q E s;rw[ZZ (by intro h;rw[hn,Bool.false_and]at h;cases h)];exact ZT hQ))
noncomputable def Itl(K:Frag)(a:Addr):It :=
 ⟨λi H=>∃xs x,SqL K H a xs/\xs[i]?=some x,λi H x H'=>H'=H/\∀xs,SqL K H a xs->xs[i]?=some x,λi H=>∃xs,SqL K H a xs/\xs.length<=i⟩
noncomputable def Itt(K:Frag)(a:Addr):It :=
 ⟨λi H=>∃xs x,SqT K H a xs/\xs[i]?=some x,λi H x H'=>H'=H/\∀xs,SqT K H a xs->xs[i]?=some x,λi H=>∃xs,SqT K H a xs/\xs.length<=i⟩
noncomputable def Itr(lo:Int)(n:Nat):It:=⟨λi _=>i<n,λi H x H'=>H'=H/\x=.int (lo+i),λi _=>n<=i⟩
theorem XM{P:Program}{w:World}{K:Frag}{tg:Expr}(a it:Addr):Turn P w K tg (Itl K a) [it] it (λi h=>h.IsListIter it a i) where
 mem:=by simp
 obj:=λi h st b hb=>by
  have e:b=it:=by simpa using hb
  subst e;obtain⟨o,e,c,d⟩:=st;exact⟨o,e,λv z=>by rw[d]at z;cases z⟩
 keep:=λi h h' st k=>st.at λo e=>k it (by simp) o e
 item:=by
  intro X hP hw hK hc i pins s σ H E I hf st hg;subst hP hw hK;obtain⟨xs,x,hq,hx⟩:=hg;obtain⟨its,rv,p,hz⟩:=I.list hq;obtain⟨u,hu,ru⟩:=rv.get hx;obtain⟨f0,f1,f2,f3,f4,f5⟩:=hf it (by simp);refine wpAny_pyNext_list_item st p.isList (x:=u) (by simpa using hu) λh' st' sb=>?_;have I1:Inv X pins σ H { s with heap:=h' }:=I.turned (t':=s.toks) (λb o hb e=>(sb.2 b hb).trans e) f0 f1 f3 f4 f5;obtain⟨o,e,c,d⟩:=id st';exact⟨u,rfl,Rt (s:={ s with heap:=h' }) e c d (by decide) ⟨x,H,I1,ru,⟨rfl,λys hy=>by rw[I.list_inj hy hq];exact hx⟩,st',λb hb=>(hf b hb).1⟩⟩
 done:=by
  intro X hP hw hK hc i pins s σ H E I hf st hg;subst hP hw hK;obtain⟨xs,hq,hx⟩:=hg;obtain⟨its,rv,p,hz⟩:=I.list hq;obtain⟨f0,f1,f2,f3,f4,f5⟩:=hf it (by simp);have hl:=rv.length;exact wpAny_pyNext_list_end (I.ok.hd hc) st p.isList (by simp;lia) λh' eb=>⟨rfl,I.turned (t':=s.toks) (λb o hb e=>eb b o hb e) f0 f1 f3 f4 f5⟩
 self:=λ_ _ _ _ _ st h=>wpAny_pyIter_listiter st h
theorem U7{P:Program}{w:World}{K:Frag}{tg:Expr}(a it:Addr):Turn P w K tg (Itt K a) [it] it (λi h=>h.IsTupleIter it a i) where
 mem:=by simp
 obj:=λi h st b hb=>by
  have e:b=it:=by simpa using hb
  subst e;obtain⟨o,e,c,d⟩:=st;exact⟨o,e,λv z=>by rw[d]at z;cases z⟩
 keep:=λi h h' st k=>st.at λo e=>k it (by simp) o e
 item:=by
  intro X hP hw hK hc i pins s σ H E I hf st hg;subst hP hw hK;obtain⟨xs,x,hq,hx⟩:=hg;obtain⟨its,rv,p,hz⟩:=I.tuple hq;obtain⟨u,hu,ru⟩:=rv.get hx;obtain⟨f0,f1,f2,f3,f4,f5⟩:=hf it (by simp);refine wpAny_pyNext_tuple_item st (show s.heap.IsTuple a its.toArray from p) (x:=u) (by simpa using hu) λh' st' sb=>?_;have I1:Inv X pins σ H { s with heap:=h' }:=I.turned (t':=s.toks) (λb o hb e=>(sb.2 b hb).trans e) f0 f1 f3 f4 f5;obtain⟨o,e,c,d⟩:=id st';exact⟨u,rfl,Rt (s:={ s with heap:=h' }) e c d (by decide) ⟨x,H,I1,ru,⟨rfl,λys hy=>by rw[I.tuple_inj hy hq];exact hx⟩,st',λb hb=>(hf b hb).1⟩⟩
 done:=by
  intro X hP hw hK hc i pins s σ H E I hf st hg;subst hP hw hK;obtain⟨xs,hq,hx⟩:=hg;obtain⟨its,rv,p,hz⟩:=I.tuple hq;obtain⟨f0,f1,f2,f3,f4,f5⟩:=hf it (by simp);have hl:=rv.length;exact wpAny_pyNext_tuple_end (I.ok.hd hc) st (show s.heap.IsTuple a its.toArray from p) (by simp;lia) λh' eb=>⟨rfl,I.turned (t':=s.toks) (λb o hb e=>eb b o hb e) f0 f1 f3 f4 f5⟩
 self:=λ_ _ _ _ _ st h=>wpAny_pyIter_tupleiter st h
theorem U8{P:Program}{w:World}{K:Frag}{tg:Expr}(it:Addr)(lo:Int)(n:Nat):Turn P w K tg (Itr lo n) [it] it (λi h=>IsRangeIter h it (lo+(i:Nat)*1) ((n:Int)-(i:Nat)) 1) where
 mem:=by simp
 obj:=λi h st b hb=>by
  have e:b=it:=by simpa using hb
  subst e;exact⟨_,st,λv z=>by
   have z':Data.fields _=Data.cell v:=z;cases z'⟩
 keep:=λi h h' st k=>k it (by simp) _ st
 item:=by
  intro X hP hw hK hc i pins s σ H E I hf st hg;subst hP hw hK;obtain⟨f0,f1,f2,f3,f4,f5⟩:=hf it (by simp);have W:=Walks.range (prog:=X.prog) (w:=X.w) (I.ok.hd hc) it lo 1 n;refine W.item i s _ _ hg st λv h' tk hv st' kk=>?_;obtain⟨t,rfl⟩:=hv;have I1:Inv X pins σ H { s with heap:=h',toks:=tk }:=I.turned (λb o hb e=>kk b o (by simpa using hb) e) f0 f1 f3 f4 f5;refine⟨_,rfl,Rt (s:={ s with heap:=h',toks:=tk }) (n:="range_iterator") st' rfl rfl (by decide) ⟨.int (lo+i),H,I1,⟨t,?_⟩,⟨rfl,rfl⟩,st',λb hb=>(hf b hb).1⟩⟩;rw[Int.mul_one]
 done:=by
  intro X hP hw hK hc i pins s σ H E I hf st hg;subst hP hw hK;obtain⟨f0,f1,f2,f3,f4,f5⟩:=hf it (by simp);exact wpAny_pyNext_range_end (I.ok.hd hc) st (by have:n<=i:=hg;lia) λh' eb=>⟨rfl,I.turned (t':=s.toks) (λb o hb e=>eb b o hb e) f0 f1 f3 f4 f5⟩
 self:=λ_ _ _ _ _ st h=>wpAny_pyIter_rangeiter st h
section
variable{X:Cx}{tg:Expr}
def CG(K:Frag)(tl:TE):TI:=λσ H R=>tl σ H λx H1=>∃a,x=.ref a/\(∃xs,SqL K H1 a xs)/\R (Itl K a) H1
def af9(K:Frag)(tl:TE):TI:=λσ H R=>tl σ H λx H1=>∃a,x=.ref a/\(∃xs,SqT K H1 a xs)/\R (Itt K a) H1
theorem cV{l:Expr}{tl:TE}(hl:PE X l tl):PI X tg l (CG X.K tl):=by
 intro pins s σ H R I h;refine thn (hl pins s σ H _ I h) λv s1 hP=>?_;obtain⟨x,H1,I1,r1,q1⟩:=hP;obtain⟨a,e,⟨xs,hq⟩,q⟩:=q1;subst e;cases r1;obtain⟨its,rv,p,hz⟩:=I1.list hq;refine wpAny_pyIter_list p.isList ?_;refine⟨s1.heap.objs.size,[s1.heap.objs.size],_,_,H1,rfl,I1.kept (t':=s1.toks) λb o e=>aH _ e,XM a _,⟨_,aZ _ rfl,rfl,rfl⟩,λb hb=>?_,q⟩;have e:b=s1.heap.objs.size:=by simpa using hb
 subst e;exact I1.fpOk (aG _) (I1.hok.fresh (aG _))
theorem aeR{l:Expr}{tl:TE}(hl:PE X l tl):PI X tg l (af9 X.K tl):=by
 intro pins s σ H R I h;refine thn (hl pins s σ H _ I h) λv s1 hP=>?_;obtain⟨x,H1,I1,r1,q1⟩:=hP;obtain⟨a,e,⟨xs,hq⟩,q⟩:=q1;subst e;cases r1;obtain⟨its,rv,p,hz⟩:=I1.tuple hq;refine wpAny_pyIter_tuple (show s1.heap.IsTuple a its.toArray from p) ?_;refine⟨s1.heap.objs.size,[s1.heap.objs.size],_,_,H1,rfl,I1.kept (t':=s1.toks) λb o e=>aH _ e,U7 a _,⟨_,aZ _ rfl,rfl,rfl⟩,λb hb=>?_,q⟩;have e:b=s1.heap.objs.size:=by simpa using hb
 subst e;exact I1.fpOk (aG _) (I1.hok.fresh (aG _))
theorem QV{pins:Ω}{σ:St}{H:Hp}{s:Shared}{R:It->Hp->Prop}{E:Κ}{lo hi:Int}{t u v:Tok}{tk:Nat}(I:Inv X pins σ H s)(h1 : -(2^62)<=lo)(h2:lo<2^62)(h3 : -(2^62)<=hi)(h4:hi<2^62)
 (q:R (Itr lo (hi-lo).toNat) H):wpAny (model X.prog X.w) X.A (pyIter (.ref s.heap.objs.size)) (PIE X pins σ tg R) E { s with heap:=s.heap.push { cls:=.type "range",data:=.fields #[.int lo t,.int hi u,.int 1 v] },toks:=tk }:=by
 refine wpAny_pyIter_range (IsRange.new ..) (small_one h1 h2 h3 h4) ?_;have I1:Inv X pins σ H { s with heap:=s.heap.push { cls:=.type "range",data:=.fields #[.int lo t,.int hi u,.int 1 v] },toks:=tk }:=I.kept λb o e=>aH _ e;refine⟨(s.heap.push { cls:=.type "range",data:=.fields #[.int lo t,.int hi u,.int 1 v] }).objs.size,[(s.heap.push { cls:=.type "range",data:=.fields #[.int lo t,.int hi u,.int 1 v] }).objs.size],_,_,H,rfl,
  I1.kept (t':=tk) λb o e=>aH _ e,U8 _ lo (hi-lo).toNat,?_,λb hb=>?_,q⟩
 .have e1:lo+((0:Nat):Int)*1=lo:=by simp
  have e2:(((hi-lo).toNat:Nat):Int)-((0:Nat):Int)=Builtin.Range.rangeSize lo hi 1:=by rw[rangeSize_one];split<;>lia
  show IsRangeIter _ _ (lo+((0:Nat):Int)*1) ((((hi-lo).toNat:Nat):Int)-((0:Nat):Int)) 1;rw[e1,e2];exact aZ _ rfl
 .have e:b=(s.heap.push { cls:=.type "range",data:=.fields #[.int lo t,.int hi u,.int 1 v] }).objs.size:=by simpa using hb
  subst e;exact I1.fpOk (aG _) (I1.hok.fresh (aG _))
def Ql(ta:TA):TI:=λσ H R=>ta σ H λvs H1=>∃j:Int,vs=[.int j]/\-(2^62)<=j/\j<2^62/\R (Itr 0 j.toNat) H1
def acQ(ta:TA):TI:=λσ H R=>ta σ H λvs H1=>∃i j:Int,vs=[.int i,.int j]/\(-(2^62)<=i/\i<2^62/\-(2^62)<=j/\j<2^62)/\R (Itr i (j-i).toNat) H1
theorem eF{a:Expr}{ta:TA}{p pos:Pos}(hm:X.mg "range"=none)(ha:PA X [a] ta)(hg:Gl X "range":=by rfl)(hs:starEach [a] X.env=[(false,eval a X.env)]:=by rfl):PI X tg (.Call (.Name "range" p) [a] [] pos) (Ql ta):=by
 intro pins s σ H R I h;refine Call_ (Ad I hg hm boot_range (PyProof.Rows.callWith_type1 (thn (ha pos pins s σ H _ I h) λus s1 hP=>?_) hs rfl));obtain⟨vs,H1,I1,r1,q1⟩:=hP;obtain⟨j,e,q1,q2,q⟩:=q1;subst e;cases r1 with
 |cons r rr =>
  cases rr;obtain⟨t,rfl⟩:=r;exact call_range_1 (QV I1 (XY (by decide)) (Int.lt_of_not_ge (by decide)) q1 q2 (by simpa using q))
theorem KN{a b:Expr}{ta:TA}{p pos:Pos}(hm:X.mg "range"=none)(ha:PA X [a,b] ta)(hg:Gl X "range":=by rfl)(hs:starEach [a,b] X.env=[(false,eval a X.env),(false,eval b X.env)]:=by rfl)(hs2:starEach [b] X.env=[(false,eval b X.env)]:=by rfl) :
  PI X tg (.Call (.Name "range" p) [a,b] [] pos) (acQ ta):=by
 intro pins s σ H R I h;refine Call_ (Ad I hg hm boot_range (PyProof.Rows.callWith_type1 (thn (ha pos pins s σ H _ I h) λus s1 hP=>?_) (by rw[hs,hs2]) (by rw[hs2];rfl)));obtain⟨vs,H1,I1,r1,q1⟩:=hP;obtain⟨i,j,e,⟨q1,q2,q3,q4⟩,q⟩:=q1;subst e;cases r1 with
 |cons r rr =>
  cases rr with
  |cons r' rr =>
   cases rr;obtain⟨t,rfl⟩:=r;obtain⟨t',rfl⟩:=r';exact call_range_2 (QV I1 q1 q2 q3 q4 q)
def RQ(wi:TI)(g:TG)(tb:TS):TS:=λD σ H=>wi σ H λJ H1=>∃W:Nat->Nat->St->Hp->Prop,(∃m,W 0 m σ H1)/\∀i m σ H,W i m σ H ->
 (J.stop i H/\D.nx σ H)\/(J.go i H/\∃N:St->Hp->Prop,(∀σ' H',N σ' H'->∃m',m'<m/\W (i+1) m' σ' H')/\∀x H',J.yld i H x H'->g x σ H' λσ2 H2=>tb { D with nx:=N,ct:=N,bk:=D.nx } σ2 H2)
noncomputable def G6(fp:Ε)(h:Heap):Ω:=fp.filterMap λb=>(h.get? b).map λo=>(b,o)
theorem qI{fp:Ε}{h:Heap}{b:Addr}{o:Obj}(hb:b∈fp)(e:h.get? b=some o):(b,o)∈G6 fp h:=List.mem_filterMap.mpr ⟨b,hb,by rw[e];rfl⟩
theorem X3{fp:Ε}{h:Heap}{p:Addr×Obj}(hp:p∈G6 fp h):p.1∈fp/\h.get? p.1=some p.2:=by
 obtain⟨b,hb,e⟩:=List.mem_filterMap.mp hp;cases q:h.get? b with
 |none=>rw[q]at e;cases e
 |some o =>
  rw[q]at e;have e':(b,o)=p:=Option.some.inj e;subst e';exact⟨hb,q⟩
theorem Inv.pinned{pins:Ω}{σ:St}{H:Hp}{s:Shared}{fp:Ε}(I:Inv X pins σ H s)(hf:∀b∈fp,EY X pins H b)(ho:∀b∈fp,∃o,s.heap.get? b=some o/\∀v,o.data≠.cell v):Inv X (pins++G6 fp s.heap) σ H s :=
 I.pins_of λp hp=>(Y1.mp hp).elim (λz=>I.pin p (aR _ z)) λz=>by
  obtain⟨hb,e⟩:=X3 z;obtain⟨f0,f1,f2,_⟩:=hf p.1 hb;obtain⟨o,e',d⟩:=ho p.1 hb;rw[e]at e';cases e';exact⟨e,f0,f1,f2,d⟩
theorem Inv.unpinned{pins pl:Ω}{σ:St}{H:Hp}{s:Shared}(I:Inv X (pins++pl) σ H s):Inv X pins σ H s:=I.pins_of λp hp=>I.pin p (aR _ (List.mem_append_left _ hp))
theorem fL{iter:Expr}{body:List Stmt}{wi:TI}{g:TG}{tb:TS}{pos:Pos}(hp:PassesOwn (model X.prog X.w) X.A X.env X.xe)(hc:X.calm=true)(hi:PI X tg iter wi)(hg:PG X tg g)(hb:PSs X body tb)
 (hs:∀x,foldedSetIterable iter X.env x=pure x:=by intro _;rfl):PS X (.For tg iter body [] pos) (RQ wi g tb):=by
 intro pins s σ H D I h;refine wpAny_For (thn (hi pins s σ H _ I h) λv s1 h1=>thn h1 λitv s2 h2=>?_) hs;obtain⟨it,fp,tn,J,H2,e,I2,T,st2,f2,W,⟨m0,w0⟩,turn⟩:=h2;subst e

 have stat:∀{H':Hp},(∀b∈fp,H' b=none)->∀b∈fp,EY X pins H' b:=λhn b hb=>⟨hn b hb,(f2 b hb).2⟩;refine codeAny_forLoop_any (λn s'=>∃i σ' H',Inv X pins σ' H' s'/\tn i s'.heap/\(∀b∈fp,H' b=none)/\W i n σ' H') ?_ m0 ⟨0,σ,H2,I2,st2,λb hb=>(f2 b hb).1,w0⟩;rintro n s3 ⟨i,σ3,H3,I3,st3,fr3,w3⟩;rcases turn i n σ3 H3 w3 with⟨stop,qn⟩|⟨go,N,hN,step⟩
 .refine wpAny_passesOwn hp (thn (T.done X rfl rfl rfl hc i pins s3 σ3 H3 X.xe I3 (stat fr3) st3 stop) λr s4 hP=>?_);obtain⟨hr,I4⟩:=hP;subst hr;exact wpAny_execs_nil ⟨σ3,H3,I4,qn⟩
 .refine wpAny_passesOwn hp (thn (T.item X rfl rfl rfl hc i pins s3 σ3 H3 X.xe I3 (stat fr3) st3 go) λr s4 hP=>?_);obtain⟨u,hr,h4⟩:=hP;subst hr;refine wpAny_passesOwn hp (thn h4 λ_ s5 hP=>?_);obtain⟨x,H5,I5,r5,y5,st5,fr5⟩:=hP;have I5':=I5.pinned (stat fr5) (T.obj _ _ st5);refine wpAny_passesOwn hp (thn (hg _ s5 σ3 H5 x u _ I5' r5 (step x H5 y5)) λ_ s6 hP=>?_);obtain⟨σ6,H6,I6,q6⟩:=hP;refine wpAny_passesOwn hp (thn (hb _ s6 σ6 H6 _ I6 q6) λf s7 q7=>?_);have again:∀{σ7:St}{H7:Hp},Inv X (pins++G6 fp s5.heap) σ7 H7 s7->N σ7 H7->∃m,m<n/\∃i σ' H',Inv X pins σ' H' s7/\tn i s7.heap/\(∀b∈fp,H' b=none)/\W i m σ' H':=λ{σ7 H7}I7 n7=>by
   obtain⟨m',hm,w7⟩:=hN σ7 H7 n7;refine⟨m',hm,i+1,σ7,H7,I7.unpinned,T.keep _ _ _ st5 λb hb o e=>(I7.pin (b,o) (aR _ (aR _ (qI hb e)))).1,λb hb=>?_,w7⟩;obtain⟨o,e,d⟩:=T.obj _ _ st5 b hb;exact(I7.pin (b,o) (aR _ (aR _ (qI hb e)))).2.1
  cases f with
  |next=>obtain⟨σ7,H7,I7,n7⟩:=q7;exact again I7 n7
  |cont=>obtain⟨σ7,H7,I7,n7⟩:=q7;exact again I7 n7
  |brk=>obtain⟨σ7,H7,I7,q7⟩:=q7;exact⟨σ7,H7,I7.unpinned,q7⟩
  |ret v=>obtain⟨x7,σ7,H7,I7,r7,q7⟩:=q7;exact⟨x7,σ7,H7,I7.unpinned,r7,q7⟩
end
theorem Qh{c:TT}{tb:TS}{D:Ends}{σ:St}{H:Hp}(Pv:St->Hp->Prop)(μ:St->Hp->Nat)(h0:Pv σ H)
 (hs:∀σ H,Pv σ H->c σ H λb H1=>if b=true then tb { D with nx:=λσ' H'=>Pv σ' H'/\μ σ' H'<μ σ H,ct:=λσ' H'=>Pv σ' H'/\μ σ' H'<μ σ H,bk:=D.nx } σ H1 else D.nx σ H1)
 (mono:∀σ H Q Q',(∀b H1,Q b H1->Q' b H1)->c σ H Q->c σ H Q'):aaD c tb D σ H:=by
 refine⟨λm σ H=>m=μ σ H/\Pv σ H,⟨_,rfl,h0⟩,?_⟩;rintro m σ H ⟨rfl,p⟩;refine mono σ H _ _ (λb H1 q=>?_) (hs σ H p);cases b with
 |true=>exact⟨_,λσ' H' hP=>by obtain⟨p',l⟩:=hP;exact⟨_,l,rfl,p'⟩,q⟩
 |false=>exact q
abbrev R2:=V->V->Hp->VK->Prop
def OpR(X:Cx)(f:Value->Value->Sem Value)(r:R2):Prop :=
 ∀(pins:Ω)(s:Shared)(σ:St)(H:Hp)(x y:V)(v u:Value)(Q:VK),Inv X pins σ H s->RelV x v->RelV y u->r x y H Q ->
  wpAny (model X.prog X.w) X.A (f v u) (EP X pins σ Q) X.xe s
def UnR(X:Cx)(f:Value->Sem Value)(r:V->Hp->VK->Prop):Prop :=
 ∀(pins:Ω)(s:Shared)(σ:St)(H:Hp)(x:V)(v:Value)(Q:VK),Inv X pins σ H s->RelV x v->r x H Q ->
  wpAny (model X.prog X.w) X.A (f v) (EP X pins σ Q) X.xe s
def iH(X:Cx)(f:Value)(r:Μ->Hp->VK->Prop):Prop :=
 ∀(pins:Ω)(s:Shared)(σ:St)(H:Hp)(xs:Μ)(us:Ξ)(Q:VK),Inv X pins σ H s->Vals xs us->r xs H Q ->
  wpAny (model X.prog X.w) X.A (call f us) (EP X pins σ Q) X.xe s
def aj4(X:Cx)(r:V->Hp->(Bool->Hp->Prop)->Prop):Prop :=
 ∀(pins:Ω)(s:Shared)(σ:St)(H:Hp)(x:V)(v:Value)(Q:Bool->Hp->Prop),Inv X pins σ H s->RelV x v->r x H Q ->
  wpAny (model X.prog X.w) X.A (truthy v) (TP X pins σ Q) X.xe s
def tOp(r:R2)(ta tb:TE):TE:=λσ H Q=>ta σ H λx H1=>tb σ H1 λy H2=>r x y H2 Q
def tUn(r:V->Hp->VK->Prop)(ta:TE):TE:=λσ H Q=>ta σ H λx H1=>r x H1 Q
def rI(C:Int->Int->Prop)(g:Int->Int->V):R2:=λx y H Q=>∃i j,x=.int i/\y=.int j/\C i j/\Q (g i j) H
def rI0(g:Int->Int->V):R2:=λx y H Q=>∃i j,x=.int i/\y=.int j/\Q (g i j) H
def rU(g:Int->V):V->Hp->VK->Prop:=λx H Q=>∃i,x=.int i/\Q (g i) H
section
variable{X:Cx}{a b c:Expr}{ta tb tc:TE}{pos:Pos}
theorem ad7(ha:PE X a ta)(hb:PE X b tb){pins:Ω}{s:Shared}{σ:St}{H:Hp}{R:V->V->Hp->Prop}(I:Inv X pins σ H s)
 (h:ta σ H λx H1=>tb σ H1 λy H2=>R x y H2){Q:Κ}{f:Value->Value->Sem Value}
 (hf:∀v u s2 x y H2,Inv X pins σ H2 s2->RelV x v->RelV y u->R x y H2->wpAny (model X.prog X.w) X.A (f v u) Q X.xe s2) :
  wpAny (model X.prog X.w) X.A (eval a X.env) (λv s₁=>wpAny (model X.prog X.w) X.A (eval b X.env) (λu s₂=>wpAny (model X.prog X.w) X.A (f v u) Q X.xe s₂) X.xe s₁) X.xe s:=by
 refine thn (ha pins s σ H _ I h) λv s1 hP=>?_;obtain⟨x,H1,I1,r1,q1⟩:=hP;refine thn (hb pins s1 σ H1 _ I1 q1) λu s2 hP=>?_;obtain⟨y,H2,I2,r2,q2⟩:=hP;exact hf v u s2 x y H2 I2 r1 r2 q2
theorem bV{op:Operator}{r:R2}(ho:OpR X (binaryOp op) r)(ha:PE X a ta)(hb:PE X b tb:=by exact bK):PE X (.BinOp a op b pos) (tOp r ta tb):=by
 intro pins s σ H Q I h;exact wpAny_BinOp (ad7 ha hb I h λv u s2 x y H2 I2 rx ry q=>ho pins s2 σ H2 x y v u Q I2 rx ry q)
theorem Y9{op:UnaryOp}{r:V->Hp->VK->Prop}(ho:UnR X (unaryOp op) r)(ha:PE X a ta):PE X (.UnaryOp op a pos) (tUn r ta):=by
 intro pins s σ H Q I h;exact UnaryOp_ (thn (ha pins s σ H _ I h) λv s1 hP=>by obtain⟨x,H1,I1,r1,q1⟩:=hP;exact ho pins s1 σ H1 x v Q I1 r1 q1)
theorem opI{f:Value->Value->Sem Value}{C:Int->Int->Prop}{g:Int->Int->Int}
 (rule:∀(i j:Int)(t u:Tok)(s:Shared)(Q:Κ)(E:Κ),C i j->Q (.int (g i j) s.toks) { s with toks:=s.toks+1 }->wpAny (model X.prog X.w) X.A (f (.int i t) (.int j u)) Q E s) :
  OpR X f (rI C λi j=>.int (g i j)):=by
 intro pins s σ H x y v u Q I rx ry h;obtain⟨i,j,rfl,rfl,hc,q⟩:=h;obtain⟨t,rfl⟩:=rx;obtain⟨t',rfl⟩:=ry;exact rule i j t t' s _ _ hc ⟨.int (g i j),H,I.tok _,⟨_,rfl⟩,q⟩
theorem afx{f:Value->Value->Sem Value}{g:Int->Int->Int}
 (rule:∀(i j:Int)(t u:Tok)(s:Shared)(Q:Κ)(E:Κ),Q (.int (g i j) s.toks) { s with toks:=s.toks+1 }->wpAny (model X.prog X.w) X.A (f (.int i t) (.int j u)) Q E s) :
  OpR X f (rI0 λi j=>.int (g i j)):=by
 intro pins s σ H x y v u Q I rx ry h;obtain⟨i,j,rfl,rfl,q⟩:=h;obtain⟨t,rfl⟩:=rx;obtain⟨t',rfl⟩:=ry;exact rule i j t t' s _ _ ⟨.int (g i j),H,I.tok _,⟨_,rfl⟩,q⟩
theorem aaY{f:Value->Value->Sem Value}{g:Int->Int->Bool}
 (rule:∀(i j:Int)(t u:Tok)(s:Shared)(Q:Κ)(E:Κ),Q (.bool (g i j)) s->wpAny (model X.prog X.w) X.A (f (.int i t) (.int j u)) Q E s) :
  OpR X f (rI0 λi j=>.bl (g i j)):=by
 intro pins s σ H x y v u Q I rx ry h;obtain⟨i,j,rfl,rfl,q⟩:=h;obtain⟨t,rfl⟩:=rx;obtain⟨t',rfl⟩:=ry;exact rule i j t t' s _ _ ⟨.bl (g i j),H,I,rfl,q⟩
def ag6(i j:Int):Prop:=0<=j/\j<=1000000/\i.natAbs<2^64
def aeM(i j:Int):Prop:=(-(2^64)<i/\i<2^64)\/(-(2^64)<j/\j<2^64)
theorem aeM.ok{i j:Int}(h:aeM i j):IntMulOk i j:=by
 rcases h with⟨h1,h2⟩|⟨h1,h2⟩
 .exact .of_left (intBits_le_64 h1 h2)
 .exact .of_right (intBits_le_64 h1 h2)
theorem d9:OpR X (binaryOp .Add) (rI0 λi j=>.int (i+j)):=afx λ_ _ _ _ _ _ _ q=>add_int q
theorem Dw:OpR X (binaryOp .Sub) (rI0 λi j=>.int (i-j)):=afx λ_ _ _ _ _ _ _ q=>sub_int q
theorem Ve:OpR X (binaryOp .Mult) (rI aeM λi j=>.int (i*j)):=opI λ_ _ _ _ _ _ _ hc q=>mul_int q hc.ok
theorem dU:OpR X (binaryOp .Mod) (rI (λ_ j=>0<j) λi j=>.int (i%j)):=opI λi j _ _ _ _ _ hc q=>by
 have h1:(0:Int)<j:=hc;exact mod_int' (Int.ne_of_gt hc) (by rw[aY i (XY hc)];exact q)
theorem lB:OpR X (binaryOp .Mod) (rI (λ_ j=>j≠0) λi j=>.int (i.fmod j)):=opI λ_ _ _ _ _ _ _ hc q=>mod_int' hc q
theorem Vn:OpR X (binaryOp .Pow) (rI ag6 λi j=>.int (i^j.toNat)):=opI λ_ _ _ _ _ _ _ hc q=>pow_int_small hc.1 hc.2.1 hc.2.2 q
theorem unI{f:Value->Sem Value}{g:Int->Int}
 (rule:∀(i:Int)(t:Tok)(s:Shared)(Q:Κ)(E:Κ),Q (.int (g i) s.toks) { s with toks:=s.toks+1 }->wpAny (model X.prog X.w) X.A (f (.int i t)) Q E s) :
  UnR X f (rU λi=>.int (g i)):=by
 intro pins s σ H x v Q I rx h;obtain⟨i,rfl,q⟩:=h;obtain⟨t,rfl⟩:=rx;exact rule i t s _ _ ⟨.int (g i),H,I.tok _,⟨_,rfl⟩,q⟩
theorem Vk:UnR X (unaryOp .USub) (rU λi=>.int (-i)):=unI λ_ _ _ _ _ q=>neg_int q
end
noncomputable def wH:V->V->Bool
 |.non,.non=>true|.non,.int _=>true|.int _,.non=>true|.non,.bl _=>true|.bl _,.non=>true|.non,.str _=>true|.str _,.non=>true
 |.int _,.int _=>true|.bl _,.bl _=>true|.str _,.str _=>true|.byt _,.byt _=>true
 |.int _,.str _=>true|.str _,.int _=>true|.bl _,.str _=>true|.str _,.bl _=>true
 |_,_=>false
def rEq:R2:=λx y H Q=>wH x y=true/\Q (.bl (decide (x=y))) H
def rNe:R2:=λx y H Q=>wH x y=true/\Q (.bl (!decide (x=y))) H
theorem Wh{i j:Int} : decide (V.int i=V.int j)=(i==j):=by
 rw[Bool.eq_iff_iff];simp
theorem aaM{i j:Bool} : decide (V.bl i=V.bl j)=(i==j):=by
 rw[Bool.eq_iff_iff];simp
theorem Wv{i j:Str} : decide (V.str i=V.str j)=(i==j):=by
 rw[Bool.eq_iff_iff];simp
theorem V9{i j:Array UInt8} : decide (V.byt i=V.byt j)=(i.toList==j.toList):=by
 rw[Bool.eq_iff_iff];cases i;cases j;simp
section
variable{X:Cx}{a b c:Expr}{ta tb tc:TE}{pos:Pos}
theorem dG{pins:Ω}{σ:St}{H:Hp}{s:Shared}{Q:VK}{k k':Bool}(I:Inv X pins σ H s)(q:Q (.bl k) H)(e:k=k':=by simp):EP X pins σ Q (.bool k') s:=by
 subst e;exact⟨.bl k,H,I,rfl,q⟩
theorem lG:OpR X (compareOp .Eq) rEq:=by
 intro pins s σ H x y v u Q I rx ry h;obtain⟨hs,q⟩:=h;cases x with
 |non =>
  cases rx;cases y with
  |non=>cases ry;exact PySem.EqNone.eq_none_none (dG I q)
  |bl j=>cases ry;exact PySem.EqNone.eq_none_bool (dG I q)
  |int j=>obtain⟨t',rfl⟩:=ry;exact PySem.EqNone.eq_none_int (dG I q)
  |str j=>obtain⟨t',rfl⟩:=ry;exact PySem.EqNone.eq_none_str (dG I q)
  |_=>exact absurd (show false=true from hs) bD
 |bl i =>
  cases rx;cases y with
  |non=>cases ry;exact PySem.EqNone.eq_bool_none (dG I q)
  |bl j=>cases ry;exact eq_bool (dG I q aaM)
  |str j=>obtain⟨t',rfl⟩:=ry;exact PySem.EqMixed.eq_bool_str (dG I q)
  |_=>exact absurd (show false=true from hs) bD
 |int i =>
  obtain⟨t,rfl⟩:=rx;cases y with
  |non=>cases ry;exact PySem.EqNone.eq_int_none (dG I q)
  |int j=>obtain⟨t',rfl⟩:=ry;exact eq_int (dG I q Wh)
  |str j=>obtain⟨t',rfl⟩:=ry;exact PySem.EqMixed.eq_int_str (dG I q)
  |_=>exact absurd (show false=true from hs) bD
 |str i =>
  obtain⟨t,rfl⟩:=rx;cases y with
  |non=>cases ry;exact PySem.EqNone.eq_str_none (dG I q)
  |bl j=>cases ry;exact PySem.EqMixed.eq_str_bool (dG I q)
  |int j=>obtain⟨t',rfl⟩:=ry;exact PySem.EqMixed.eq_str_int (dG I q)
  |str j=>obtain⟨t',rfl⟩:=ry;exact eq_str (dG I q Wv)
  |_=>exact absurd (show false=true from hs) bD
 |byt i =>
  obtain⟨t,rfl⟩:=rx;cases y with
  |byt j=>obtain⟨t',rfl⟩:=ry;exact PySem.W.eq_bytes (dG I q V9)
  |_=>exact absurd (show false=true from hs) bD
 |_=>cases y<;>exact absurd (show false=true from hs) bD
theorem Bb:OpR X (compareOp .NotEq) rNe:=by
 intro pins s σ H x y v u Q I rx ry h;obtain⟨hs,q⟩:=h;cases x with
 |non =>
  cases rx;cases y with
  |non=>cases ry;exact PySem.EqNone.ne_none_none (dG I q)
  |bl j=>cases ry;exact PySem.EqNone.ne_none_bool (dG I q)
  |int j=>obtain⟨t',rfl⟩:=ry;exact PySem.EqNone.ne_none_int (dG I q)
  |str j=>obtain⟨t',rfl⟩:=ry;exact PySem.EqNone.ne_none_str (dG I q)
  |_=>exact absurd (show false=true from hs) bD
 |bl i =>
  cases rx;cases y with
  |non=>cases ry;exact PySem.EqNone.ne_bool_none (dG I q)
  |bl j=>cases ry;exact ne_bool (dG I q (ZH not aaM))
  |str j=>obtain⟨t',rfl⟩:=ry;exact PySem.EqMixed.ne_bool_str (dG I q)
  |_=>exact absurd (show false=true from hs) bD
 |int i =>
  obtain⟨t,rfl⟩:=rx;cases y with
  |non=>cases ry;exact PySem.EqNone.ne_int_none (dG I q)
  |int j=>obtain⟨t',rfl⟩:=ry;exact ne_int (dG I q (ZH not Wh))
  |str j=>obtain⟨t',rfl⟩:=ry;exact PySem.EqMixed.ne_int_str (dG I q)
  |_=>exact absurd (show false=true from hs) bD
 |str i =>
  obtain⟨t,rfl⟩:=rx;cases y with
  |non=>cases ry;exact PySem.EqNone.ne_str_none (dG I q)
  |bl j=>cases ry;exact PySem.EqMixed.ne_str_bool (dG I q)
  |int j=>obtain⟨t',rfl⟩:=ry;exact PySem.EqMixed.ne_str_int (dG I q)
  |str j=>obtain⟨t',rfl⟩:=ry;exact ne_str (dG I q (ZH not Wv))
  |_=>exact absurd (show false=true from hs) bD
 |byt i =>
  obtain⟨t,rfl⟩:=rx;cases y with
  |byt j=>obtain⟨t',rfl⟩:=ry;exact PySem.W.ne_bytes (dG I q (ZH not V9))
  |_=>exact absurd (show false=true from hs) bD
 |_=>cases y<;>exact absurd (show false=true from hs) bD
theorem Bc:OpR X (compareOp .Lt) (rI0 λi j=>.bl (decide (i<j))):=aaY λ_ _ _ _ _ _ _ q=>lt_int q
theorem Qd:OpR X (compareOp .LtE) (rI0 λi j=>.bl (decide (i<=j))):=aaY λ_ _ _ _ _ _ _ q=>le_int q
theorem RZ:OpR X (compareOp .Gt) (rI0 λi j=>.bl (decide (j<i))):=aaY λ_ _ _ _ _ _ _ q=>gt_int q
theorem ac0:OpR X (compareOp .GtE) (rI0 λi j=>.bl (decide (j<=i))):=aaY λ_ _ _ _ _ _ _ q=>ge_int q
theorem Ut:OpR X (compareOp .Is) (λx y H Q=>y=.non/\Q (.bl (decide (x=.non))) H):=by
 intro pins s σ H x y v u Q I rx ry h;obtain⟨rfl,q⟩:=h;cases ry;refine is_none_gen (dG I q ?_);cases x<;>first
  |(cases rx;rfl)
  |(obtain⟨t,rfl⟩:=rx;rfl)
theorem yt:OpR X (compareOp .IsNot) (λx y H Q=>y=.non/\Q (.bl (!decide (x=.non))) H):=by
 intro pins s σ H x y v u Q I rx ry h;obtain⟨rfl,q⟩:=h;cases ry;refine isnot_none_gen (dG I q ?_);cases x<;>first
  |(cases rx;rfl)
  |(obtain⟨t,rfl⟩:=rx;rfl)
theorem cH(b:Expr){op:CmpOp}(h:op≠.In:=by decide)(h2:op≠.NotIn:=by decide):behindInMarks op b=false:=by
 have e1:(op==CmpOp.In)=false:=by cases op<;>first|rfl|exact absurd rfl h
 have e2:(op==CmpOp.NotIn)=false:=by cases op<;>first|rfl|exact absurd rfl h2
 cases b<;>simp[behindInMarks,e1,e2]
theorem rN{op:CmpOp}{r:R2}(ho:OpR X (compareOp op) r)(ha:PE X a ta)(hb:PE X b tb)(hm:behindInMarks op b=false):PE X (.Compare a [op] [b] pos) (tOp r ta tb):=by
 intro pins s σ H Q I h;exact wpAny_Compare1 (ad7 ha hb I h λv u s2 x y H2 I2 rx ry q=>ho pins s2 σ H2 x y v u Q I2 rx ry q) hm
def Ho(t:TE):TT:=λσ H Q=>t σ H λx H'=>∃k,x=.bl k/\Q k H'
theorem cD{op:CmpOp}{r:R2}(ho:OpR X (compareOp op) r)(ha:PE X a ta)(hb:PE X b tb)(hm:behindInMarks op b=false):PT X (.Compare a [op] [b] pos) (Ho (tOp r ta tb)):=by
 intro pins s σ H Q I h;refine wpAny_isTrue_Compare1 (thn (ha pins s σ H _ I h) λv s1 ⟨x,H1,I1,r1,q1⟩=>thn (hb pins s1 σ H1 _ I1 q1) λu s2 ⟨y,H2,I2,r2,q2⟩ =>
  thn (ho pins s2 σ H2 x y v u _ I2 r1 r2 q2) λc s3 ⟨z,H3,I3,r3,k,e,q3⟩=>?_) hm
 subst e;cases r3;exact wpAny_truthy_bool ⟨H3,I3,q3⟩
def Tj(r r':R2)(ta tb tc:TE):TE:=λσ H Q=>ta σ H λx H1=>tb σ H1 λy H2=>r x y H2 λz H3=>∃k,z=.bl k /\
 (if k=true then tc σ H3 λw' H4=>r' y w' H4 Q else Q (.bl false) H3)
theorem RW{op op':CmpOp}{r r':R2}(ho:OpR X (compareOp op) r)(ho':OpR X (compareOp op') r')(ha:PE X a ta)(hb:PE X b tb)(hc:PE X c tc)
 (hm:lastMarks [op,op'] [b,c]=false:=by with_unfolding_all rfl):PE X (.Compare a [op,op'] [b,c] pos) (Tj r r' ta tb tc):=by
 intro pins s σ H Q I h;refine Compare_chain (thn (ha pins s σ H _ I h) λv s1 ⟨x,H1,I1,r1,q1⟩=>chain_link (thn (hb pins s1 σ H1 _ I1 q1) λu s2 ⟨y,H2,I2,r2,q2⟩ =>
  thn (ho pins s2 σ H2 x y v u _ I2 r1 r2 q2) λd s3 ⟨z,H3,I3,r3,k,e,q3⟩=>?_)) hm
 subst e;cases r3;refine wpAny_truthy_bool ?_;cases k with
 |false=>exact ite_ff ⟨.bl false,H3,I3,rfl,q3⟩
 |true=>exact ite_tt (chain_last (thn (hc pins s3 σ H3 _ I3 q3) λw' s4 hP=>by obtain⟨z',H4,I4,r4,q4⟩:=hP;exact ho' pins s4 σ H4 y z' u w' Q I4 r2 r4 q4))
theorem QW{op op':CmpOp}{r r':R2}(ho:OpR X (compareOp op) r)(ho':OpR X (compareOp op') r')(ha:PE X a ta)(hb:PE X b tb)(hc:PE X c tc)
 (hm:lastMarks [op,op'] [b,c]=false:=by with_unfolding_all rfl):PT X (.Compare a [op,op'] [b,c] pos) (Ho (Tj r r' ta tb tc)):=by
 intro pins s σ H Q I h;refine isTrue_chain (thn (ha pins s σ H _ I h) λv s1 ⟨x,H1,I1,r1,q1⟩=>test_link (thn (hb pins s1 σ H1 _ I1 q1) λu s2 ⟨y,H2,I2,r2,q2⟩ =>
  thn (ho pins s2 σ H2 x y v u _ I2 r1 r2 q2) λd s3 ⟨z,H3,I3,r3,k,e,q3⟩=>?_)) hm
 subst e;cases r3;refine wpAny_truthy_bool ?_;cases k with
 |false =>
  obtain⟨k',e',q'⟩:=q3;cases e';exact ite_ff ⟨H3,I3,q'⟩
 |true =>
  refine ite_tt (test_last (thn (hc pins s3 σ H3 _ I3 q3) λw' s4 ⟨z',H4,I4,r4,q4⟩=>thn (ho' pins s4 σ H4 y z' u w' _ I4 r2 r4 q4) λd' s5 hP=>?_));obtain⟨z2,H5,I5,r5,k2,e2,q5⟩:=hP;subst e2;cases r5;exact wpAny_truthy_bool ⟨H5,I5,q5⟩
def afS(K:Frag)(x:V)(H:Hp)(k:Bool):Prop :=
 match x with
 |.non=>k=false
 |.bl b=>k=b
 |.int i=>k=(i != 0)
 |.str y=>y.length<=sizeLine/\k=((y.length:Int) != 0)
 |.byt y=>y.size<=sizeLine/\k=((y.size:Int) != 0)
 |.ref p=>(∃xs,SqL K H p xs/\k = !xs.isEmpty)\/(∃xs,SqT K H p xs/\k = !xs.isEmpty)\/∃kvs,H p=some (.dK kvs)/\k = !kvs.isEmpty
 |_=>False
theorem Uy{κ:Type}{kvs:List (κ×V)}{vs:List (κ×Value)}(r:KV kvs vs):(!vs.isEmpty) = !kvs.isEmpty:=by
 cases r<;>rfl
theorem Hj{xs:Μ}{its:Ξ}(r:Vals xs its):(!its.toArray.isEmpty) = !xs.isEmpty:=by
 cases r<;>simp
theorem v8:(sizeLine:Nat)<2^63:=by rw[sizeLine_eq];decide
theorem aez:aj4 X (λx H Q=>∃k,afS X.K x H k/\Q k H):=by
 intro pins s σ H x v Q I rx h;obtain⟨k,e,q⟩:=h;have hl:=v8;have hs:sizeLine=16777216:=sizeLine_eq;cases x with
 |non =>
  cases rx;have e':k=false:=e;subst e';exact truthy_none ⟨H,I,q⟩
 |bl b =>
  cases rx;have e':k=b:=e;subst e';exact wpAny_truthy_bool ⟨H,I,q⟩
 |int i =>
  obtain⟨t,rfl⟩:=rx;have e':k=(i != 0):=e;subst e';exact PySem.P.truthy_int ⟨H,I,q⟩
 |str y =>
  obtain⟨t,rfl⟩:=rx;obtain⟨hy,e'⟩ : y.length<=sizeLine/\k=((y.length:Int) != 0):=e;subst e';exact PySem.P.truthy_str (by lia) ⟨H,I.tok _,q⟩
 |byt y =>
  obtain⟨t,rfl⟩:=rx;obtain⟨hy,e'⟩ : y.size<=sizeLine/\k=((y.size:Int) != 0):=e;subst e';exact PySem.W.truthy_bytes (aM hy (by decide)) ⟨H,I.tok _,q⟩
 |ref p =>
  cases rx;have e':(∃xs,SqL X.K H p xs/\k = !xs.isEmpty)\/(∃xs,SqT X.K H p xs/\k = !xs.isEmpty)\/∃kvs,H p=some (.dK kvs)/\k = !kvs.isEmpty:=e;rcases e' with⟨xs,hx,e'⟩|⟨xs,hx,e'⟩|⟨kvs,hx,e'⟩
  .subst e';obtain⟨its,r,pl,hz⟩:=I.list hx;have hlen:=r.length;exact wpAny_truthy_list pl.isList (by simp only[bh];lia) ⟨H,I.tok _,by rw[Hj r];exact q⟩
  .subst e';obtain⟨its,r,pl,hz⟩:=I.tuple hx;have hlen:=r.length;exact truthy_tuple pl (by simp only[bh];lia) ⟨H,I.tok _,by rw[Hj r];exact q⟩
  .subst e';obtain⟨hz,hS,vs,r,m⟩ : kvs.length<=sizeLine/\(p==sysModules)=false/\∃vs,KV kvs vs/\s.heap.DictOf (kY X.prog X.w) p vs:=I.hok p _ hx;have hlen:kvs.length=vs.length:=Paired.length r;exact wpAny_truthy_dict hS m (by lia) ⟨H,I.tok _,by rw[Uy r];exact q⟩
 |_=>exact(show False from e).elim
theorem Tr:OpR X (binaryOp .Add) (λx y H Q=>∃i j,x=.str i/\y=.str j/\i.length+j.length<=sizeLine/\Q (.str (i++j)) H):=by
 intro pins s σ H x y v u Q I rx ry h;obtain⟨i,j,rfl,rfl,hz,q⟩:=h;obtain⟨t,rfl⟩:=rx;obtain⟨t',rfl⟩:=ry;exact add_str (λt' tk=>⟨.str (i++j),H,I.tok _,⟨_,rfl⟩,q⟩) hz
theorem vals1{x:V}{us:Ξ}(r:Vals [x] us):∃u,us=[u]/\RelV x u:=by
 cases r with
 |cons r1 r2=>cases r2;exact⟨_,rfl,r1⟩
theorem vq:iH X (.builtin "abs") (λxs H Q=>∃i,xs=[.int i]/\Q (.int (if i<0 then -i else i)) H):=by
 intro pins s σ H xs us Q I r h;obtain⟨i,rfl,q⟩:=h;obtain⟨u,rfl,t,rfl⟩:=vals1 r;exact call_abs_int λu tk=>⟨.int (if i<0 then -i else i),H,I.tok _,⟨_,rfl⟩,q⟩
theorem Xl:iH X (.type "int") (λxs H Q=>(∃i,xs=[.int i]/\Q (.int i) H)\/∃k,xs=[.bl k]/\Q (.int (if k then 1 else 0)) H):=by
 intro pins s σ H xs us Q I r h;rcases h with⟨i,rfl,q⟩|⟨k,rfl,q⟩
 .obtain⟨u,rfl,t,rfl⟩:=vals1 r;exact call_int_int ⟨.int i,H,I,⟨_,rfl⟩,q⟩
 .obtain⟨u,rfl,r1⟩:=vals1 r;cases r1;exact call_int_bool ⟨.int (if k then 1 else 0),H,I.tok _,⟨_,rfl⟩,q⟩
end
structure Tg(h:Heap)(x dx C:Addr)(mA:Str->Ζ):Prop where
 obj:h.get? x=some (instObj C dx)
 ns:h.Ns1 dx mA
 ne:dx≠x
theorem Xk{h:Heap}{dx:Addr}{mA:Str->Ζ}(n:h.Ns1 dx mA):∃od,h.get? dx=some od/\∀name,lookIn name od=some (mA name):=by
 obtain⟨o,es,ep,ho,hd,hk,_,hm⟩:=n;refine⟨o,ho,λname=>?_⟩;have e:=hm name;unfold nsFind findBy at e;rw[<- Array.find?_toList]at e;unfold lookIn;rw[hd];dsimp only;split
 .rename_i y q
  rw[q]at e;exact ZH some e
 .rename_i q
  rw[q]at e;have a:es.toList.any (·.refKey)=false:=by
   rw[List.any_eq_false];intro y hy;obtain⟨z,t,hkey⟩:=hk y (Array.mem_toList_iff.mp hy);simp[DictEntry.refKey,hkey]
  have a':¬es.toList.any (·.refKey)=true:=by rw[a];exact bD
  rw[ZZ a'];exact ZH some e
theorem Tg.look{h:Heap}{x dx C:Addr}{mA:Str->Ζ}(I:Tg h x dx C mA):∃od,PySem.W.InstAt h x (instObj C dx) C (some od)/\∀name,lookIn name od=some (mA name) :=
 let⟨od,ho,hl⟩:=Xk I.ns
 ⟨od,⟨I.obj,rfl,rfl,ho⟩,hl⟩
section
variable{prog:Program}{w:World}{A:Around}{E:Κ}{s:Shared}{K:Frag}{x dx C f:Addr}{mA:Str->Ζ}{name:Str}{v:Value}
theorem get_map{expr:Bool}{Q:Κ}(X:K.In s.heap)(I:Tg s.heap x dx C mA)(hg:plainGet K C name=true)(hh:hasDictIn K C=true)
 (ha:findIn K (.ref C) name=some none)(hv:mA name=some v)(hv':handedIn v=true)(h:Q v { s with toks:=s.toks+1 }) :
  wpAny (model prog w) A (getAttr (.ref x) name expr) Q E s:=by
 obtain⟨od,J,hl⟩:=I.look;exact PySem.W.get_value X J (plainGet_of hg).1 (PySem.W.findObj_own hh ha rfl (by rw[hl,hv])) hv' h
theorem Zy{pl:Sem Bool}{Q:Value×Ξ->Shared->Prop}(X:K.In s.heap)(I:Tg s.heap x dx C mA)(hg:plainGet K C name=true)
 (hf:findIn K (.ref C) name=some (some (.ref f)))(ht:isFn K (.ref f)=true)(hv:mA name=none)(h:Q (.ref f,[.ref x]) s) :
  wpAny (model prog w) A (getMethod (.ref x) name pl) Q E s:=by
 obtain⟨od,J,hl⟩:=I.look;exact PySem.W.method_fn X J (plainGet_of hg).1 (plainGet_of hg).2 hf (beq_iff_eq.mp ht) (by show(lookIn name od).map (·.isSome)=some false;rw[hl,hv];rfl) h
theorem ab4{ns:Β}{Q:Unit->Shared->Prop}(X:K.In s.heap)(I:Tg s.heap x dx C mA)
 (hs:findIn K (.ref C) "__setattr__"=some (some (.builtin "object.__setattr__")))(hp:plainOver K C=true)(ht:takerIn K C name=some none)(hh:hasDictIn K C=true)
 (hw:PySem.Within mA ns)(hsz:ns.length<=sizeLine)
 (h:∀h',Tg h' x dx C (λy=>if y=name then some v else mA y)->Heap.SameBut dx s.heap h'->Q () { s with heap:=h',toks:=s.toks+2 }) :
  wpAny (model prog w) A (setAttr (.ref x) name v) Q E s:=by
 obtain⟨od,J,hl⟩:=I.look;refine PySem.W.set_plain X J hs (PySem.W.osa_open (s:={ s with toks:=s.toks+1 }) (r:=none) X J hp ht λb=>?_);obtain⟨cd,hc,hd'⟩:=PySem.W.any_some hh;have hx:s.heap.get? x=some ⟨.ref C,some dx,.plain,#[]⟩:=I.obj;refine ZU (ZT (ZU (ZU (wpAny_loadPart hx (ZU (PySem.W.Looks.here (s:={ s with toks:=s.toks+1 }) (PySem.W.looks_clsIn X hc) ?_))))));rw[hd'];refine ZT (a:=some dx) (ZU (ZT (ZU ?_)));refine wpAny_nsSet1 (s:={ s with toks:=s.toks+1 }) I.ns λh' hn2 hs2=>?_;obtain⟨oD,esD,epD,hoD,hdD,hcD⟩:=hn2.count (PySem.Within.cons name v hw);refine ZU (wpAny_lookBehind hoD (by rw[hdD];exact pastItsLine_dict (aM hcD (by rw[List.length_cons];exact Nat.succ_le_succ hsz))) ?_);exact ZT (h _ ⟨(hs2.2 _ (Ne.symm I.ne)).trans I.obj,hn2,I.ne⟩ hs2)
theorem Z1{R:Result->Shared->Prop}{vs:Ξ}{kw:List (Str×Value)}(X:K.In s.heap)(hm:makesIn K C=true)
 (hi:findIn K (.ref C) "__init__"=some (some (.ref f)))(hf:PySem.W.typeIn K (.ref f)=some (.type "function"))
 (h:codeAny (model prog w) (A.under (.builtin "type.__call__" ⟨.ref C::vs,kw⟩)) (.call (.ref f) ⟨.ref (s.heap.objs.size+1)::vs,kw⟩) (PySem.W.InitBack (s.heap.objs.size+1) R)
   { s with heap:=(s.heap.push emptyDict).push (instObj C s.heap.objs.size) }) :
  codeAny (model prog w) A (.call (.ref C) ⟨vs,kw⟩) R s:=by
 obtain⟨hh,g,d,t,os⟩:=s;exact PySem.W.make_core (PySem.W.makes_of X hm) (PySem.W.looks_findIn X hi) (λself=>PySem.W.bind_fn X self hf) (.inl rfl) h
end
noncomputable def mJ(f:Str)(v:V):List (Str×V)->List (Str×V)
 |[]=>[(f,v)]
 |(g,x)::r=>if g=f then(g,v)::r else(g,x)::mJ f v r
theorem Ek(f g:Str)(v:V):∀fs:List (Str×V),(mJ f v fs).lookup g=if g=f then some v else fs.lookup g
 |[]=>by
  show List.lookup g [(f,v)]=_;by_cases h:g=f
  .have hb:(g==f)=true:=beq_iff_eq.mpr h;simp only[List.lookup,hb,ZY h]
  .have hb:(g==f)=false:=beq_eq_false_iff_ne.mpr h;simp only[List.lookup,hb,ZZ h]
 |(k,x)::r=>by
  have ih:=Ek f g v r;rw[show mJ f v ((k,x)::r)=(if k=f then(k,v)::r else(k,x)::mJ f v r)from rfl];by_cases hk:k=f
  .rw[ZY hk];by_cases h:g=k
   .have hb:(g==k)=true:=beq_iff_eq.mpr h;simp only[List.lookup,hb,ZY (h.trans hk)]
   .have hb:(g==k)=false:=beq_eq_false_iff_ne.mpr h;simp only[List.lookup,hb,ZZ (λe:g=f=>h (e.trans hk.symm))]
  .rw[ZZ hk];by_cases h:g=k
   .have hb:(g==k)=true:=beq_iff_eq.mpr h;simp only[List.lookup,hb,ZZ (λe:g=f=>hk (h.symm.trans e))]
   .have hb:(g==k)=false:=beq_eq_false_iff_ne.mpr h;simp only[List.lookup,hb];exact ih
theorem DP(f:Str)(v:V):∀fs:List (Str×V),f∈(mJ f v fs).map (·.1)/\∀g,g∈fs.map (·.1)->g∈(mJ f v fs).map (·.1)
 |[]=>⟨by simp[mJ],λg h=>by simp at h⟩
 |(k,x)::r=>by
  obtain⟨i1,i2⟩:=DP f v r;rw[show mJ f v ((k,x)::r)=(if k=f then(k,v)::r else(k,x)::mJ f v r)from rfl];by_cases hk:k=f
  .rw[ZY hk];subst hk;exact⟨by simp,λg h=>by simpa using h⟩
  .rw[ZZ hk];refine⟨?_,λg h=>?_⟩
   .rw[List.map_cons];exact aJ _ i1
   .rw[List.map_cons]at h ⊢;rcases YU.mp h with e|e
    .exact YU.mpr (.inl e)
    .exact aJ _ (i2 g e)
theorem Ej(f:Str)(v:V):∀fs:List (Str×V),(mJ f v fs).length<=fs.length+1
 |[]=>by simp[mJ]
 |(k,x)::r=>by
  have ih:=Ej f v r;rw[show mJ f v ((k,x)::r)=(if k=f then(k,v)::r else(k,x)::mJ f v r)from rfl];by_cases hk:k=f
  .rw[ZY hk,List.length_cons,List.length_cons];exact Xs _
  .rw[ZZ hk,List.length_cons,List.length_cons];exact Nat.succ_le_succ ih
theorem yW.some_of{v:V}{o:Ζ}(r:yW (some v) o):∃u,o=some u/\RelV v u:=by
 cases o with
 |none=>exact(show False from r).elim
 |some u=>exact⟨u,rfl,r⟩
theorem yW.none_of{o:Ζ}(r:yW none o):o=none:=by
 cases o with
 |none=>rfl
 |some u=>exact(show False from r).elim
theorem Xv{v:V}{u:Value}(r:RelV v u):handedIn u=true:=by
 cases v with
 |non=>cases(show u=Value.none from r);rfl
 |bl b=>cases(show u=Value.bool b from r);rfl
 |int i=>obtain⟨t,e⟩:=(show ∃t,u=Value.int i t from r);cases e;rfl
 |str x=>obtain⟨t,e⟩:=(show ∃t,u=Value.str x t from r);cases e;rfl
 |byt b=>obtain⟨t,e⟩:=(show ∃t,u=Value.bytes b t from r);cases e;rfl
 |flt b=>obtain⟨t,e⟩:=(show ∃t,u=Value.float b t from r);cases e;rfl
 |ref a=>cases(show u=Value.ref a from r);rfl
 |ty n=>cases(show u=Value.type n from r);rfl
section
variable{P:Program}{w:World}{H H':Hp}{h h':Heap}{a C dx:Addr}{fs fs':List (Str×V)}
theorem Ge(hok:HOk P w H h)(e:H a=some (.ins C dx fs)):∃mA,Tg h a dx C mA/\(∀f,yW (fs.lookup f) (mA f))/\PySem.Within mA (fs.map (·.1))/\fs.length<=1000/\H dx=some (.own a):=by
 obtain⟨d,z,ne,ob,mA,n,r,q⟩:=(show gj P w H h a (.ins C dx fs)from hok a _ e);exact⟨mA,⟨ob,n,ne⟩,r,q,z,d⟩
end
structure Cls(K:Frag)(C:Addr):Prop where
 pg:plainGet K C Str.empty=true
 hd:hasDictIn K C=true
 po:plainOver K C=true
 sa:findIn K (.ref C) "__setattr__"=some (some (.builtin "object.__setattr__"))
theorem Cls.get{K:Frag}{C:Addr}(c:Cls K C)(f:Str):plainGet K C f=true:=c.pg
def dO(K:Frag)(C:Addr)(f:Str):Prop:=findIn K (.ref C) f=some none
theorem dO.taker{K:Frag}{C:Addr}{f:Str}(n:dO K C f):takerIn K C f=some none:=by
 unfold takerIn;rw[show findIn K (.ref C) f=some none from n]
 rfl
structure Meth(K:Frag)(C:Addr)(m:Str)(f:Addr):Prop where
 at_:findIn K (.ref C) m=some (some (.ref f))
 fn:isFn K (.ref f)=true
 kp:keepIn K (.ref f)=true
section
variable{X:Cx}{pins:Ω}{σ:St}{H:Hp}{s:Shared}{a C dx:Addr}{fs:List (Str×V)}{f:Str}{v:V}{A:Around}{E:Κ}
theorem TX{b:Bool}{Q:Κ}(I:Inv X pins σ H s)(e:H a=some (.ins C dx fs))(c:Cls X.K C)(n:dO X.K C f)(l:fs.lookup f=some v)
 (h:∀u s',Inv X pins σ H s'->RelV v u->Q u s'):wpAny (model X.prog X.w) A (getAttr (.ref a) f b) Q E s:=by
 obtain⟨mA,O,r,_,_,_⟩:=Ge I.hok e;obtain⟨u,hu,ru⟩:=yW.some_of (v:=v) (o:=mA f) (by rw[<- l];exact r f);exact get_map I.kIn O (c.get f) c.hd n hu (Xv ru) (h u _ (I.tok _) ru)
theorem IV{m:Str}{g:Addr}{pl:Sem Bool}{Q:Value×Ξ->Shared->Prop}(I:Inv X pins σ H s)(e:H a=some (.ins C dx fs))(c:Cls X.K C)(k:Meth X.K C m g)(l:fs.lookup m=none)
 (h:Q (.ref g,[.ref a]) s):wpAny (model X.prog X.w) A (getMethod (.ref a) m pl) Q E s:=by
 obtain⟨mA,O,r,_,_,_⟩:=Ge I.hok e;have hn:mA m=none:=yW.none_of (by rw[<- l];exact r m);exact Zy I.kIn O (c.get m) k.at_ k.fn hn h
theorem TQ{y:V}{u:Value}{Q:Unit->Shared->Prop}(I:Inv X pins σ H s)(e:H a=some (.ins C dx fs))(c:Cls X.K C)(n:dO X.K C f)(hl:fs.length<1000)(ry:RelV y u)
 (h:∀s',Inv X pins σ (upd H a (.ins C dx (mJ f y fs))) s'->Q () s'):wpAny (model X.prog X.w) A (setAttr (.ref a) f u) Q E s:=by
 obtain⟨mA,O,r,wi,_,ho⟩:=Ge I.hok e;have hz:(fs.map (·.1)).length<=sizeLine:=by rw[ak,sizeLine_eq];exact aM (Y2 hl) (by decide)
 refine ab4 I.kIn O c.sa c.po n.taker c.hd wi hz λh' O' sb=>h _ ?_;have hd:∃o,h'.get? dx=some o:=by obtain⟨o,_,_,e',_⟩:=O'.ns;exact⟨o,e'⟩
 refine I.write (x:=a) (e:=dx) (by rw[e];exact True.intro) (.inr ho) (λb q hb z=>(sb.2 b hb).trans z) hd ?_;refine⟨by rw[bL O.ne];exact ho,?_,O.ne,O'.obj,_,O'.ns,λg=>?_,λg hg=>?_⟩
 .have:=Ej f y fs;lia
 .show yW ((mJ f y fs).lookup g) (if g=f then some u else mA g);rw[Ek];by_cases q:g=f
  .rw[ZY q,ZY q];exact ry
  .rw[ZZ q,ZZ q];exact r g
 .by_cases q:g=f
  .rw[q];exact(DP f y fs).1
  .refine(DP f y fs).2 g (wi g λz=>hg ?_);show(if g=f then some u else mA g)=none;rw[ZZ q];exact z
theorem Inv.made(I:Inv X pins σ H s):Inv X pins σ (upd (upd H s.heap.objs.size (.own (s.heap.objs.size+1))) (s.heap.objs.size+1) (.ins C s.heap.objs.size []))
  { s with heap:=(s.heap.push emptyDict).push (instObj C s.heap.objs.size) }:=by
 have e1:(s.heap.push emptyDict).get? s.heap.objs.size=some emptyDict:=aZ s.heap rfl;have e2:((s.heap.push emptyDict).push (instObj C s.heap.objs.size)).get? (s.heap.objs.size+1)=some (instObj C s.heap.objs.size):=by
  have:=aZ (s.heap.push emptyDict) (o:=instObj C s.heap.objs.size) rfl;rwa[Heap.size_push]at this
 have e3:(s.heap.push emptyDict).Ns s.heap.objs.size (λ_=>none):=⟨emptyDict,#[],_,e1,rfl,(λe he=>absurd he (by simp)),λ_=>rfl⟩;have I1:=I.laid (a:=s.heap.objs.size) (o:=.own (s.heap.objs.size+1)) (h':=s.heap.push emptyDict) (t':=s.toks) (λb u q=>aH _ q) (aG _) ⟨_,e1⟩;refine I1.laid (a:=s.heap.objs.size+1) (o:=.ins C s.heap.objs.size []) (t':=s.toks) (λb u q=>aH _ q) (Nat.le_of_eq (Heap.size_push _ _)) ?_;have ne:s.heap.objs.size≠s.heap.objs.size+1:=aU (X1 _);refine⟨by rw[bL ne,bG],bA _,ne,e2,λ_=>none,(Heap.Ns1.of_empty e3).at λo q=>aH _ q,λ_=>True.intro,λy hy=>absurd rfl hy⟩
theorem aaS{prog:Program}{w:World}{env:Env}{e:Expr}{f:Str}{pos:Pos}{s:Shared}{Q:Κ}(hb:attributeBase e f env (eval e env)=eval e env)
 (h:wpAny (model prog w) A (eval e env) (λo s₁=>wpAny (model prog w) A (getAttr o f true) Q E s₁) E s):wpAny (model prog w) A (eval (.Attribute e f pos) env) Q E s :=
 Attribute_any_ h (by rw[arm_eval_Attribute,hb])
end
def adR(K:Frag)(ta:TE)(f:Str):TE:=λσ H Q=>ta σ H λx H1=>∃a C dx fs v,x=.ref a/\H1 a=some (.ins C dx fs)/\Cls K C/\dO K C f/\fs.lookup f=some v/\Q v H1
def aeV(K:Frag)(ta tv:TE)(f:Str):TS:=λD σ H=>tv σ H λy H1=>ta σ H1 λx H2=>∃a C dx fs,x=.ref a/\H2 a=some (.ins C dx fs)/\Cls K C/\dO K C f/\fs.length<1000 /\
 D.nx σ (upd H2 a (.ins C dx (mJ f y fs)))
section
variable{X:Cx}{o e value:Expr}{f:Str}{pos pos' tpos:Pos}{ta tv:TE}
theorem sV(he:PE X e ta)(hb:attributeBase e f X.env (eval e X.env)=eval e X.env):PE X (.Attribute e f pos) (adR X.K ta f):=by
 intro pins s σ H Q I h;refine aaS hb (thn (he pins s σ H _ I h) λu s1 h=>?_);obtain⟨x,H1,I1,rx,a,C,dx,fs,v,rfl,ea,c,n,l,q⟩:=h;obtain rfl:u=Value.ref a:=rx;exact TX I1 ea c n l λu' s2 I2 ru=>⟨v,H1,I2,ru,q⟩
theorem xR(ha:PE X o ta)(hv:PE X value tv)(hs:swapsWith value (some (.Attribute o f pos')) pos.line X.env=pure false):PS X (.Assign [.Attribute o f pos'] value pos) (aeV X.K ta tv f):=by
 intro pins s σ H D I h;refine plainObj_wpAny_Assign_Attribute (thn (hv pins s σ H _ I h) λu s1 ⟨y,H1,I1,ry,q⟩=>thn (ha pins s1 σ H1 _ I1 q) λov s2 h=>?_) hs;obtain⟨x,H2,I2,rx,a,C,dx,fs,rfl,ea,c,n,l,q2⟩:=h;obtain rfl:ov=Value.ref a:=rx;exact TQ I2 ea c n l ry λs3 I3=>⟨σ,_,I3,q2⟩
end
section
variable{X:Cx}{pins:Ω}{σ:St}{H:Hp}{s:Shared}{A:Around}{E:Κ}{Q:Κ}{c:Value}{b:Bool}
inductive Ed(K:Frag)(H:Hp):V->Value->Prop where
 |non:Ed K H .non (.type "NoneType")
 |bl (x:Bool):Ed K H (.bl x) (.type "bool")
 |int (i:Int):Ed K H (.int i) (.type "int")
 |str (x:Str):Ed K H (.str x) (.type "str")
 |flt (x:UInt64):Ed K H (.flt x) (.type "float")
 |lst {a:Addr}{xs:Μ} (e:H a=some (.lst xs)):Ed K H (.ref a) (.type "list")
 |frz {a:Addr}{o:Obj}{xs:Μ} (e:H a=some (.frz o (.lst xs))):Ed K H (.ref a) (.type "list")
 |tup {a:Addr}{xs:Μ} (e:H a=some (.tup xs)):Ed K H (.ref a) (.type "tuple")
 |dK {a:Addr}{kvs:List (Key×V)} (e:H a=some (.dK kvs)):Ed K H (.ref a) (.type "dict")
 |ins {a C dx:Addr}{fs:List (Str×V)} (e:H a=some (.ins C dx fs)) (cl:Cls K C) (ha:findIn K (.ref C) "__class__"=some (some (.builtin "object.__class__")))
   (hn:specialIn K (.builtin "object.__class__") "__get__"=some (some (.builtin "getset_descriptor.__get__"))) (htk:takesIn K (.builtin "object.__class__")=some true)
   (hm:mroIn K C (.type "object")=some true):Ed K H (.ref a) (.ref C)
theorem W8{x:V}{u t:Value}(I:Inv X pins σ H s)(rx:RelV x u)(ty:Ed X.K H x t)(e:kitOne X.K t c=some b)(h:∀tk,Q (.bool b) { s with toks:=tk }) :
  wpAny (model X.prog X.w) A (call (.builtin "isinstance") [u,c]) Q E s:=by
 cases ty with
 |non=>cases(show u=Value.none from rx);exact kia_one PySem.W.kitx_none I.kIn True.intro e (λz=>nomatch z) h
 |bl y=>cases(show u=Value.bool y from rx);exact kia_one PySem.W.kitx_bool I.kIn True.intro e (λz=>nomatch z) h
 |int i=>obtain⟨t,q⟩:=(show ∃t,u=Value.int i t from rx);cases q;exact kia_one PySem.W.kitx_int I.kIn True.intro e (λz=>nomatch z) h
 |str y=>obtain⟨t,q⟩:=(show ∃t,u=Value.str y t from rx);cases q;exact kia_one PySem.W.kitx_str I.kIn True.intro e (λz=>nomatch z) h
 |flt y=>obtain⟨t,q⟩:=(show ∃t,u=Value.float y t from rx);cases q;exact kia_one PySem.W.kitx_float I.kIn True.intro e (λz=>nomatch z) h
 |@lst a xs ea =>
  cases(show u=Value.ref a from rx);obtain⟨_,_,n,_,h1⟩:=(show gj X.prog X.w H s.heap a (.lst xs)from I.hok a _ ea);exact kia_one kitx_list I.kIn ⟨_,h1,rfl⟩ e (λz=>nomatch z) h
 |@frz a ob xs ea =>
  cases(show u=Value.ref a from rx);obtain⟨_,_,_,n,_,h1⟩:=(show gj X.prog X.w H s.heap a (.frz ob (.lst xs))from I.hok a _ ea);exact kia_one kitx_list I.kIn ⟨_,h1,rfl⟩ e (λz=>nomatch z) h
 |@tup a xs ea =>
  cases(show u=Value.ref a from rx);obtain⟨_,_,_,p⟩:=(show gj X.prog X.w H s.heap a (.tup xs)from I.hok a _ ea);obtain⟨o,h1,h2,_⟩:=p;exact kia_one kitx_tuple I.kIn ⟨o,h1,h2⟩ e (λz=>nomatch z) h
 |@dK a kvs ea =>
  cases(show u=Value.ref a from rx);obtain⟨_,_,vs,_,p⟩:=(show gj X.prog X.w H s.heap a (.dK kvs)from I.hok a _ ea);obtain⟨o,es,ep,h1,h2,_⟩:=p;exact kia_one PySem.W.kitx_dict I.kIn ⟨o,h1,h2.1⟩ e (λz=>nomatch z) h
 |@ins a C dx fs ea cl ha hn htk hm =>
  cases(show u=Value.ref a from rx);obtain⟨mA,O,_⟩:=Ge I.hok ea;obtain⟨od,J,_⟩:=O.look;exact kia_one (PySem.W.kitx_own (cl.get _) cl.hd ha hn htk hm) I.kIn J e (λz=>nomatch z) h
end
structure jg(k:Nat)(A:Around):Prop where
 hd:A.handled=none
 dp:A.depth+3*k+5<recursionLimit
 un:A.units+16*k+200<cLine
theorem jg.mono{j k:Nat}{A:Around}(r:jg k A)(h:j<=k):jg j A:=⟨r.hd,by have:=r.dp;lia,by have:=r.un;lia⟩
theorem jg.md{k n:Nat}{A:Around}(h:jg n A)(e:k<=n:=by decide):jg k A:=h.mono e
theorem jg.deeper{k:Nat}{A:Around}(r:jg (k+1) A)(env:Env):jg k (A.deeper env) :=
 ⟨r.hd,by have:=r.dp;show A.depth+1+3*k+5<_;lia,by have:=r.un;show A.units+3+16*k+200<_;lia⟩
theorem Vm{A:Around}{C:Addr}{us:Ξ}{kw:List (Str×Value)} : (A.under (.builtin "type.__call__" ⟨.ref C::us,kw⟩)).depth=A.depth+1:=by
 first|rfl|simp[Around.under,Code.weight,Code.isCreation,Code.isGuard,Code.isCaller,Code.frames,Code.isFrame,guardIds]
theorem TF{A:Around}{C:Addr}{us:Ξ}{kw:List (Str×Value)} : (A.under (.builtin "type.__call__" ⟨.ref C::us,kw⟩)).units=A.units+1:=by
 first|rfl|simp[Around.under,Code.cUnits,Code.frames,Code.isFrame]
theorem jg.make{k:Nat}{A:Around}(r:jg (k+1) A)(C:Addr)(us:Ξ)(kw:List (Str×Value)):jg k (A.under (.builtin "type.__call__" ⟨.ref C::us,kw⟩)) :=
 ⟨r.hd,by have:=r.dp;rw[Vm];lia,by have:=r.un;rw[TF];lia⟩
theorem jg.depth{k:Nat}{A:Around}(r:jg k A):A.depth<recursionLimit:=by have:=r.dp;lia
theorem jg.units{k:Nat}{A:Around}(r:jg k A):A.units+64<cLine:=by have:=r.un;lia
def Fd:TA:=λ_ H Q=>Q [] H
def Ks(ta:TE)(tr:TA):TA:=λσ H Q=>ta σ H λx H1=>tr σ H1 λxs H2=>Q (x::xs) H2
section
variable{X:Cx}{e:Expr}{es:List Expr}{te:TE}{t:TA}{pos:Pos}
theorem oW:PA X [] Fd:=λ_ _ _ _ H Q I h=>Calls.spliced_nil ⟨[],H,I,.nil,h⟩
theorem bF(ha:PE X e te)(hr:PA X es t:=by exact oW)(hs:starEach (e::es) X.env=(false,eval e X.env)::starEach es X.env:=by rfl):PA X (e::es) (Ks te t):=by
 intro pos pins s σ H Q I h;rw[hs];show wpAny _ _ (spliced ((false,eval e X.env)::backTo pos (starEach es X.env))) _ _ s;refine Calls.spliced_cons (thn (ha pins s σ H _ I h) λu s1 hP=>?_);obtain⟨x,H1,I1,r1,q1⟩:=hP;exact thn (hr pos pins s1 σ H1 _ I1 q1) λus s2 hP=>by obtain⟨xs,H2,I2,r2,q2⟩:=hP;exact⟨x::xs,H2,I2,.cons r1 r2,q2⟩
def afe(t:TA):TE:=λσ H Q=>t σ H λxs H1=>xs.length<=sizeLine/\∀p,H1 p=none->Q (.ref p) (upd H1 p (.tup xs))
def aeB(t:TA):TE:=λσ H Q=>t σ H λxs H1=>xs.length<=sizeLine/\∀p,H1 p=none->Q (.ref p) (upd H1 p (.lst xs))
theorem gO{x1}(h:PA X es t):PE X (.Tuple es x1 pos) (afe t):=by
 intro pins s σ H Q I hq;refine wpAny_Tuple_spliced (thn (h pos pins s σ H _ I hq) λus s1 ⟨xs,H1,I1,r,z,q⟩=>⟨by rw[<- r.length];exact z,?_⟩);have hf:H1 s1.heap.objs.size=none:=I1.hok.fresh (aG _);refine⟨.ref s1.heap.objs.size,upd H1 s1.heap.objs.size (.tup xs),I1.laid (t':=s1.toks) (λb u e=>aH _ e) (aG _) ?_,rfl,q _ hf⟩;exact⟨z,us,r,⟨_,aZ _ rfl,rfl,_,rfl⟩⟩
theorem jw(h:PA X es t):PE X (.List es pos) (aeB t):=by
 intro pins s σ H Q I hq;refine wpAny_List_spliced (thn (h pos pins s σ H _ I hq) λus s1 ⟨xs,H1,I1,r,z,q⟩=>⟨by rw[<- r.length];exact z,?_⟩);have hf:H1 s1.heap.objs.size=none:=I1.hok.fresh (aG _);refine⟨.ref s1.heap.objs.size,upd H1 s1.heap.objs.size (.lst xs),I1.laid (t':=s1.toks) (λb u e=>aH _ e) (aG _) ?_,rfl,q _ hf⟩;exact⟨z,us,0,r,aZ _ rfl⟩
end
abbrev Sp:=Μ->Hp->VK->XK->Prop
abbrev CXT:=List Env->Hp->Shared->XK->Value->Shared->Prop
structure Q9(P:Program)(w:World)(K:Frag)(mg:Str->Ζ)(base:Heap)(A:Around)(outer:List Env)(s:Shared)(H:Hp):Prop where
 frames:A.frames=some outer
 mod:Mod K mg base
 bs:∀b o,base.get? b=some o->s.heap.get? b=some o/\H b=none
 bsz:base.objs.size<=s.heap.objs.size
 funs:s.heap.FunFrames base outer
 frf:∀b∈frs outer,H b=none
 hok:HOk P w H s.heap
 bare:AllBare s.gens
def CE(outer:List Env)(P:Program)(w:World)(H:Hp)(s:Shared)(Q:VK)(u:Value)(s':Shared):Prop :=
 ∃v H',s'.os=s.os/\AllBare s'.gens/\Un (frs outer) [] H H' s.heap s'.heap/\HOk P w H' s'.heap/\RelV v u/\Q v H'
def CR(CX:CXT)(outer:List Env)(P:Program)(w:World)(H:Hp)(s:Shared)(Q:VK)(E:XK)(r:Result)(s':Shared):Prop :=
 match r with
 |.ok (.ret u)=>CE outer P w H s Q u s'
 |.ok _=>False
 |.error e=>CX outer H s E e s'
structure cJ(P:Program)(w:World)(K:Frag)(mg:Str->Ζ)(base:Heap)(CX:CXT)(k:Nat)(f:Addr)(fd:FuncData)(ps:Β)(sp:Sp):Prop where
 len:∀vs H Q E,sp vs H Q E->vs.length=ps.length
 run:∀(A:Around)(outer:List Env)(s:Shared)(H:Hp)(args:Args)(us:Ξ)(vs:Μ)(Q:VK)(E:XK),jg k A->Q9 P w K mg base A outer s H->BindsTo s fd args (ps.zip us)->Vals vs us->sp vs H Q E ->
  codeAny (model P w) A (.call (.ref f) args) (CR CX outer P w H s Q E) s
theorem cJ.imp{P:Program}{w:World}{K:Frag}{mg:Str->Ζ}{base:Heap}{CX:CXT}{k:Nat}{f:Addr}{fd:FuncData}{ps:Β}{sp sp':Sp}(F:cJ P w K mg base CX k f fd ps sp)
 (h:∀vs H Q E,sp' vs H Q E->sp vs H Q E):cJ P w K mg base CX k f fd ps sp' :=
 ⟨λvs H Q E q=>F.len vs H Q E (h _ _ _ _ q),λA outer s H args us vs Q E hr he hb hv hs=>F.run A outer s H args us vs Q E hr he hb hv (h _ _ _ _ hs)⟩
theorem Q9.make{P:Program}{w:World}{K:Frag}{mg:Str->Ζ}{base:Heap}{A:Around}{outer:List Env}{s:Shared}{H:Hp}(e:Q9 P w K mg base A outer s H)(C:Addr)(us:Ξ)(kw:List (Str×Value)) :
  Q9 P w K mg base (A.under (.builtin "type.__call__" ⟨.ref C::us,kw⟩)) outer s H:=⟨by first|exact e.frames|(simpa[Around.under,Code.envs,Code.isFrame,pushEnvs]using e.frames),e.mod,e.bs,e.bsz,e.funs,e.frf,e.hok,e.bare⟩
section
variable{X:Cx}{pins:Ω}{σ:St}{H:Hp}{s s':Shared}
theorem Inv.env0(I:Inv X pins σ H s):Q9 X.prog X.w X.K X.mg X.base X.A X.stack s H :=
 ⟨I.ok.frames,I.ok.mod,I.bs,aM I.ok.bsz I.sz,I.stack,I.stkFree,I.hok,I.bare⟩
theorem Inv.after{Q:VK}{u:Value}(I:Inv X pins σ H s)(h:CE X.stack X.prog X.w H s Q u s'):EP X pins σ Q u s':=by
 obtain⟨v,H',os,bare,un,hok,r,q⟩:=h;obtain⟨hh,g,d,t,os'⟩:=s';obtain rfl:os'=s.os:=os;exact⟨v,H',I.call (h':=hh) (g':=g) (d':=d) (t':=t) (ch:=[]) un hok bare (λb z=>absurd z (by simp)),r,q⟩
end
def agC(sp:Sp)(dvs:Μ)(E:XK)(t:TA):TE:=λσ H Q=>t σ H λvs H1=>sp (vs++dvs) H1 Q E
def adh(C:Addr)(m:Str)(sp:Sp)(dvs:Μ)(E:XK)(ta:TE)(t:TA):TE:=λσ H Q=>ta σ H λx H1=>∃a dx fs,x=.ref a/\H1 a=some (.ins C dx fs)/\fs.lookup m=none /\
 t σ H1 λvs H2=>sp (x::(vs++dvs)) H2 Q E
def aiY(C:Addr)(sp:Sp)(dvs:Μ)(E:XK)(t:TA):TE:=λσ H Q=>t σ H λvs H1=>∀x dx,H1 x=none->H1 dx=none->dx≠x ->
 sp (.ref x::(vs++dvs)) (upd (upd H1 dx (.own x)) x (.ins C dx [])) (λv H2=>v=.non/\Q (.ref x) H2) E
def Binds(K:Frag)(fd:FuncData)(ps:Β)(ds:Ξ):Prop :=
 ∀(s:Shared)(us:Ξ),K.In s.heap->(us++ds).length=ps.length->BindsTo s fd ⟨us,[]⟩ (ps.zip (us++ds))
theorem Binds.all{K:Frag}{fd:FuncData}{ps:Β}(h:∀us:Ξ,us.length=ps.length->bindArgs fd ⟨us,[]⟩=pure (ps.zip us)):Binds K fd ps []:=λs us _ hl=>by
 rw[List.append_nil]at hl ⊢;exact .of_eq (h us hl)
def Passes(CX:CXT)(X:Cx)(E:XK):Prop:=∀(pins:Ω)(σ:St)(H:Hp)(s:Shared)(e:Value)(s':Shared),Inv X pins σ H s->CX X.stack H s E e s'->X.xe e s'
section
variable{X:Cx}{CX:CXT}{k:Nat}{f C:Addr}{fd:FuncData}{ps:Β}{sp:Sp}{dvs:Μ}{ds:Ξ}{E:XK}{x m:Str}{p pos apos:Pos}{e o:Expr}{es:List Expr}{ta:TE}{t:TA}
theorem Mu{pins:Ω}{σ:St}{H:Hp}{s:Shared}{Q:VK}{us:Ξ}{vs:Μ}(F:cJ X.prog X.w X.K X.mg X.base CX k f fd ps sp)(hr:jg k X.A)(hb:Binds X.K fd ps ds)(hd:Vals dvs ds)(hx:Passes CX X E)
 (I:Inv X pins σ H s)(r:Vals vs us)(h:sp (vs++dvs) H Q E):wpAny (model X.prog X.w) X.A (call (.ref f) us) (EP X pins σ Q) X.xe s:=by
 have r2:Vals (vs++dvs) (us++ds):=r.append hd;have hl:(us++ds).length=ps.length:=by rw[<- r2.length];exact F.len _ _ _ _ h
 refine wpAny_call (codeAny_mono (F.run X.A X.stack s H ⟨us,[]⟩ (us++ds) (vs++dvs) Q E hr I.env0 (hb s us I.kIn hl) r2 h) λr s' hq=>?_);cases r with
 |error e=>exact hx pins σ H s e s' I hq
 |ok fl =>
  cases fl with
  |ret u=>exact I.after hq
  |next=>exact False.elim hq
  |brk=>exact False.elim hq
  |cont=>exact False.elim hq
theorem acE(F:cJ X.prog X.w X.K X.mg X.base CX k f fd ps sp)(hr:jg k X.A)(hg:Gl X x)(hm:X.mg x=some (.ref f))(hk:keepIn X.K (.ref f)=true)(hb:Binds X.K fd ps ds)(hd:Vals dvs ds)(hx:Passes CX X E)
 (ha:PA X (e::es) t)(hdb:(x==("__debug__":Str))=false:=by decide)(he:starEach (e::es) X.env=(false,eval e X.env)::starEach es X.env:=by rfl)(hpl:(backTo pos (starEach es X.env)).any (·.1)=false:=by rfl) :
  PE X (.Call (.Name x p) (e::es) [] pos) (agC sp dvs E t):=by
 intro pins s σ H Q I h;refine wpAny_Call_Name_kw (Ga I hg hm ?_ hdb);refine callWith_K (h₀:=X.base) I.ok.mod.kin hk (thn (ha pos pins s σ H _ I h) λus s1 ⟨vs,H1,I1,r,q⟩=>⟨I1.kIn,?_⟩) he hpl;exact Mu F hr hb hd hx I1 r q
theorem abM{pl:Sem Bool}(he:PE X o ta)(c:Cls X.K C)(hm:Meth X.K C m f)(F:cJ X.prog X.w X.K X.mg X.base CX k f fd ps sp)(hr:jg k X.A)(hb:Binds X.K fd ps ds)(hd:Vals dvs ds)(hx:Passes CX X E)(ha:PA X (e::es) t)
 (hst:starEach (e::es) X.env=(false,eval e X.env)::starEach es X.env:=by rfl)(hpl:(backTo pos (starEach es X.env)).any (·.1)=false:=by rfl)
 (ht:eval (.Call (.Attribute o m apos) (e::es) [] pos) X.env=(do
   let ov <- eval o X.env
   standAt apos.atName
   let(f,first) <- holding [ov] (getMethod ov m pl)
   callWith pos f first (backTo pos (starEach (e::es) X.env)) (backToKw pos (keywordEach [] X.env))):=by rfl) :
  PE X (.Call (.Attribute o m apos) (e::es) [] pos) (adh C m sp dvs E ta t):=by
 intro pins s σ H Q I h;refine methodCall_KW (pl:=pl) (thn (he pins s σ H _ I h) λu s1 hP=>?_) ht;obtain⟨x,H1,I1,rx,a,dx,fs,ex,ea,l,q⟩:=hP;subst ex;obtain rfl:u=Value.ref a:=rx;refine IV I1 ea c hm l ?_;refine callWith_K (first:=[.ref a]) (h₀:=X.base) I.ok.mod.kin hm.kp (thn (ha pos pins s1 σ H1 _ I1 q) λus s2 ⟨vs,H2,I2,r,q2⟩=>⟨I2.kIn,?_⟩) hst hpl;exact Mu (us:=.ref a::us) (vs:=.ref a::vs) F hr hb hd hx I2 (.cons rfl r) q2
theorem Zw{pl:Sem Bool}(he:PE X o ta)(c:Cls X.K C)(hm:Meth X.K C m f)(F:cJ X.prog X.w X.K X.mg X.base CX k f fd ps sp)(hr:jg k X.A)(hb:Binds X.K fd ps ds)(hd:Vals dvs ds)(hx:Passes CX X E)
 (ht:eval (.Call (.Attribute o m apos) [] [] pos) X.env=(do
   let ov <- eval o X.env
   standAt apos.atName
   let(f,first) <- holding [ov] (getMethod ov m pl)
   callWith pos f first (backTo pos (starEach [] X.env)) (backToKw pos (keywordEach [] X.env))):=by rfl) :
  PE X (.Call (.Attribute o m apos) [] [] pos) (adh C m sp dvs E ta Fd):=by
 intro pins s σ H Q I h;refine methodCall_KW (pl:=pl) (thn (he pins s σ H _ I h) λu s1 hP=>?_) ht;obtain⟨x,H1,I1,rx,a,dx,fs,ex,ea,l,q⟩:=hP;subst ex;obtain rfl:u=Value.ref a:=rx;refine IV I1 ea c hm l ?_;exact PySem.W.callWith_K0 (first:=[.ref a]) I1.kIn hm.kp (Mu (us:=[.ref a]) (vs:=[.ref a]) F hr hb hd hx I1 (.cons rfl .nil) q)
structure Mk(K:Frag)(C f:Addr):Prop where
 makes:makesIn K C=true
 init:findIn K (.ref C) "__init__"=some (some (.ref f))
 fn:isFn K (.ref f)=true
 kp:keepIn K (.ref C)=true
theorem Yw{pins:Ω}{σ:St}{H:Hp}{s:Shared}{Q:VK}{us:Ξ}{vs:Μ}(M:Mk X.K C f)(F:cJ X.prog X.w X.K X.mg X.base CX k f fd ps sp)(hr:jg (k+1) X.A)(hb:Binds X.K fd ps ds)(hd:Vals dvs ds)
 (hx:Passes CX X E)(I:Inv X pins σ H s)(r:Vals vs us)
 (h:∀x dx,H x=none->H dx=none->dx≠x->sp (.ref x::(vs++dvs)) (upd (upd H dx (.own x)) x (.ins C dx [])) (λv H2=>v=.non/\Q (.ref x) H2) E) :
  wpAny (model X.prog X.w) X.A (call (.ref C) us) (EP X pins σ Q) X.xe s:=by
 have hq:=h (s.heap.objs.size+1) s.heap.objs.size (I.hok.fresh (Xs _)) (I.hok.fresh (aG _)) (aU (X1 _));have I2:=Inv.made (C:=C) I;have r2:Vals (V.ref (s.heap.objs.size+1)::(vs++dvs)) (Value.ref (s.heap.objs.size+1)::(us++ds)):=.cons rfl (r.append hd);have hl:(Value.ref (s.heap.objs.size+1)::us++ds).length=ps.length:=by
  have e:=r2.length;rw[F.len _ _ _ _ hq]at e;exact e.symm
 refine wpAny_call (Z1 (f:=f) I.kIn M.makes M.init (beq_iff_eq.mp M.fn) (codeAny_mono (F.run _ X.stack _ _ ⟨Value.ref (s.heap.objs.size+1)::us,[]⟩ (Value.ref (s.heap.objs.size+1)::(us++ds)) _ _ E (hr.make C us [])
  (I2.env0.make C us []) (hb _ (Value.ref (s.heap.objs.size+1)::us) I2.kIn hl) r2 hq) λr s' hq'=>?_))
 cases r with
 |error e=>exact hx pins σ _ _ e s' I2 hq'
 |ok fl =>
  cases fl with
  |ret u =>
   obtain⟨v,H',I3,rv,ev,q3⟩:=I2.after hq';subst ev;exact⟨rv,⟨V.ref (s.heap.objs.size+1),H',I3,rfl,q3⟩⟩
  |next=>exact False.elim hq'
  |brk=>exact False.elim hq'
  |cont=>exact False.elim hq'
theorem abw(M:Mk X.K C f)(F:cJ X.prog X.w X.K X.mg X.base CX k f fd ps sp)(hr:jg (k+1) X.A)(hg:Gl X x)(hm:X.mg x=some (.ref C))(hb:Binds X.K fd ps ds)(hd:Vals dvs ds)(hx:Passes CX X E)
 (ha:PA X (e::es) t)(hdb:(x==("__debug__":Str))=false:=by decide)(he:starEach (e::es) X.env=(false,eval e X.env)::starEach es X.env:=by rfl)(hpl:(backTo pos (starEach es X.env)).any (·.1)=false:=by rfl) :
  PE X (.Call (.Name x p) (e::es) [] pos) (aiY C sp dvs E t):=by
 intro pins s σ H Q I h;refine wpAny_Call_Name_kw (Ga I hg hm ?_ hdb);refine callWith_K (h₀:=X.base) I.ok.mod.kin M.kp (thn (ha pos pins s σ H _ I h) λus s1 ⟨vs,H1,I1,r,q⟩=>⟨I1.kIn,?_⟩) he hpl;exact Yw M F hr hb hd hx I1 r q
end
structure bW(N P:Β)(sc:Scope):Prop where
 kind:sc.kind=.function
 co:sc.isCoroutine=false
 gen:sc.isGenerator=false
 nd:N.Nodup
 pre:N.take P.length=P
 par:∀x∈P,sc.names.lookup x=some .local\/sc.names.lookup x=some .cell
 nofree:∀y∈sc.names,y.2≠.free
theorem Ko{kindOf:Str->Option NameKind}{x:Str} : ∀{binds:List (Str×Value)}{m:Str->Ζ},(∀v,(x,v)∉binds)->bindL kindOf binds m x=m x
 |[],_,_=>rfl
 |(n,v)::r,m,h=>by
  unfold bindL;rw[Ko λw hw=>h w (aJ _ hw)];split
  .have:x≠n:=by rintro rfl;exact h v aP
   simp[this]
  .rfl
theorem Lf{kindOf:Str->Option NameKind}{x:Str} : ∀{binds:List (Str×Value)}{m:Str->Ζ},(∀v,(x,v)∉binds)->bindC kindOf binds m x=m x
 |[],_,_=>rfl
 |(n,v)::r,m,h=>by
  unfold bindC;rw[Lf λw hw=>h w (aJ _ hw)];split
  .rfl
  .have:x≠n:=by rintro rfl;exact h v aP
   simp[this]
theorem KC{kindOf:Str->Option NameKind}{x:Str}{v:Value} : ∀{P:Β}{vs:Ξ}{i:Nat}{m:Str->Ζ},P.Nodup->P[i]?=some x->vs[i]?=some v->kindOf x=some .local ->
  bindL kindOf (P.zip vs) m x=some v
 |[],_,_,_,_,h,_,_=>by simp at h
 |_::_,[],_,_,_,_,h,_=>by simp at h
 |p::P,w::vs,0,m,nd,h1,h2,hk=>by
  simp at h1 h2;subst h1;subst h2;show bindL kindOf ((p,w)::P.zip vs) m p=_;unfold bindL;rw[Ko λv hv=>(List.nodup_cons.mp nd).1 (List.of_mem_zip hv).1,ZY hk];simp
 |p::P,w::vs,i+1,m,nd,h1,h2,hk=>by
  show bindL kindOf ((p,w)::P.zip vs) m x=_;unfold bindL;exact KC (i:=i) (List.nodup_cons.mp nd).2 (by simpa using h1) (by simpa using h2) hk
theorem K1{kindOf:Str->Option NameKind}{x:Str}{v:Value} : ∀{P:Β}{vs:Ξ}{i:Nat}{m:Str->Ζ},P.Nodup->P[i]?=some x->vs[i]?=some v->kindOf x≠some .local ->
  bindC kindOf (P.zip vs) m x=some v
 |[],_,_,_,_,h,_,_=>by simp at h
 |_::_,[],_,_,_,_,h,_=>by simp at h
 |p::P,w::vs,0,m,nd,h1,h2,hk=>by
  simp at h1 h2;subst h1;subst h2;show bindC kindOf ((p,w)::P.zip vs) m p=_;unfold bindC;rw[Lf λv hv=>(List.nodup_cons.mp nd).1 (List.of_mem_zip hv).1,ZZ hk];simp
 |p::P,w::vs,i+1,m,nd,h1,h2,hk=>by
  show bindC kindOf ((p,w)::P.zip vs) m x=_;unfold bindC;exact K1 (i:=i) (List.nodup_cons.mp nd).2 (by simpa using h1) (by simpa using h2) hk
noncomputable def start(N:Β)(vs:Μ):St:=vs.map some++List.replicate (N.length-vs.length) none
def Vp(CX:CXT)(P:Program)(w:World)(K:Frag)(mg:Str->Ζ)(base:Heap)(N:Β)(qual:Str)(scope:Scope)(f:Addr)(cd:Value)(A:Around)(outer:List Env)(s:Shared)(H:Hp)(E:XK):Cx where
 prog:=P
 w:=w
 K:=K
 mg:=mg
 base:=base
 A:=A.deeper (envOfC qual scope s.heap.objs.size f cd)
 N:=N
 s₀:=s
 H₀:=H
 env:=envOfC qual scope s.heap.objs.size f cd
 outer:=outer
 stack:=envOfC qual scope s.heap.objs.size f cd::outer
 ex:=[]
 calm:=true
 fn:=λ_=>true
 pn:=[]
 xe:=λe s'=>wpAny (model P w) (A.deeper (envOfC qual scope s.heap.objs.size f cd)) (leaving (envOfC qual scope s.heap.objs.size f cd) e) (λ_ s''=>CX outer H s E e s'') (λe' s''=>CX outer H s E e' s'') s'
theorem Sg{sc:Scope}{n:Nat}{x:Str}(h:sc.names.lookup x=some .cell):∃c,(cellsFrom n sc.names []).lookup x=some c:=by
 have q:=PySem.W.cellsFrom_some sc.names n [] (.inl h);exact Option.isSome_iff_exists.mp q
theorem W3{CX:CXT}{P:Program}{w:World}{K:Frag}{mg:Str->Ζ}{base:Heap}{N ps:Β}{qual:Str}{scope:Scope}{f:Addr}{cd:Value}{A:Around}{outer:List Env}{s s1:Shared}{H:Hp}{E:XK}{us:Ξ}{vs:Μ}
 (S:bW N ps scope)(hd:A.handled=none)(e0:Q9 P w K mg base A outer s H)(hl:vs.length=ps.length)(r:Vals vs us)
 (x:InCallC s s.heap.objs.size (bindL (envOfC qual scope s.heap.objs.size f cd).kindOf (ps.zip us) λ_=>none) (cellsFrom (s.heap.objs.size+1) scope.names []) (bindC (envOfC qual scope s.heap.objs.size f cd).kindOf (ps.zip us) λ_=>none) s1) :
  Inv (Vp CX P w K mg base N qual scope f cd A outer s H E) [] (start N vs) H s1:=by
 have hpl:ps.length<=N.length:=by have:=ZH List.length S.pre;rw[bw]at this;lia
 obtain⟨h1,tk,rfl,hk⟩:=x.done;have noA:∀b:Addr,b∉(Vp CX P w K mg base N qual scope f cd A outer s H E).ex:=λb z=>absurd (show b∈([] : Ε)from z) (by simp);refine⟨⟨e0.mod,S.kind,rfl,rfl,aG _,λy z c h1 h2=>?_,λy hy=>?_,λy c _ h=>?_,λ_=>hd,Around.frames_deeper e0.frames,.inr ⟨rfl,rfl⟩,λb z=>absurd z (noA b),e0.bs,e0.bsz,λb _ _=>noA b,λb z=>absurd z (noA b),e0.funs,e0.frf⟩,
  rfl,e0.bare,Un.kept hk,⟨_,x.toInCall.ns,λi y v h1 h2 h3=>?_⟩,λy c h=>⟨_,x.cell y c h⟩,e0.hok.fresh (aG _),λy c h=>?_,λp hp=>absurd (show p∈([] : Ω)from hp) (by simp),e0.hok.kept hk,?_⟩
 .exact name_of_addr x.apart (PySem.mem_of_lookup h1) (PySem.mem_of_lookup h2)
 .have hy:scope.names.lookup y=some .cell\/scope.names.lookup y=some .free:=hy;rcases hy with hy|hy
  .exact Sg hy
  .exact absurd rfl (S.nofree _ (PySem.mem_of_lookup hy))
 .exact Y2 (x.above y c (PySem.mem_of_lookup h))
 .have hi:i<vs.length:=by
   unfold start at h2;by_cases hi:i<vs.length
   .exact hi
   .rw[aD (by simpa using hi)]at h2;rw[XG]at h2;split at h2<;>cases h2
  have ha:vs[i]?=some v:=by
   unfold start at h2;rw[aF (by simpa using hi),aq]at h2;cases e:vs[i]? with
   |none=>rw[e]at h2;cases h2
   |some a=>rw[e]at h2;cases h2;rfl
  obtain⟨u,hu,rv⟩:=r.get ha;have hp:ps[i]?=some y:=by
   rw[<- S.pre,List.getElem?_take_of_lt (aV hi (Nat.le_of_eq hl))];exact h1
  have ndP:ps.Nodup:=by rw[<- S.pre];exact S.nd.sublist (List.take_sublist _ _)
  refine⟨u,rv,?_⟩;rcases S.par y (aC hp)with k|k
  .exact .inl ⟨k,KC ndP hp hu k⟩
  .obtain⟨c,e⟩:=Sg (n:=s.heap.objs.size+1) k;refine .inr ⟨.inl k,c,e,?_⟩;have q:=x.cell y c e;rw[K1 ndP hp hu (by show scope.names.lookup y≠_;rw[k];decide)]at q;exact q
 .exact e0.hok.fresh (Y2 (x.above y c (PySem.mem_of_lookup h)))
 .unfold start;show _=N.length;rw[aA,ak,aO];lia
theorem ahn{CX:CXT}{P:Program}{w:World}{K:Frag}{mg:Str->Ζ}{base:Heap}{k:Nat}{f:Addr}{name qual:Str}{params:Arguments}{body:List Stmt}{scope:Scope}{dV kV doc pm cdv ct oc:Value}{an od:Η}
 {osl:Array (Ζ)}{N ps:Β}{sp:Sp}(lk:K.lookup f=some ⟨oc,od,.func (PySem.W.fnOf name qual params body scope dV kV doc pm an cdv ct),osl⟩)(hcd:codeIn K cdv qual=true)(S:bW N ps scope)
 (len:∀vs H Q E,sp vs H Q E->vs.length=ps.length)
 (hbody:∀(A:Around)(outer:List Env)(s:Shared)(H:Hp)(vs:Μ)(Q:VK)(E:XK),jg k (A.deeper (envOfC qual scope s.heap.objs.size f cdv))->sp vs H Q E ->
   ∃t,PSs (Vp CX P w K mg base N qual scope f cdv A outer s H E) body t/\t { nx:=λ_ H'=>Q .non H',rt:=Q } (start N vs) H) :
  cJ P w K mg base CX (k+1) f (PySem.W.fnOf name qual params body scope dV kV doc pm an cdv ct) ps sp:=by
 refine⟨len,λA outer s H args us vs Q E hr e0 hb r hsp=>?_⟩;have hl:=len _ _ _ _ hsp;have KX:K.In s.heap:=e0.mod.kin.keeps λb o e=>(e0.bs b o e).1;have lim:s.heap.NoLimit:=e0.mod.nolimit.keeps λb o e=>(e0.bs b o e).1;have hkind:∀y∈ps.zip us,scope.names.lookup y.1=some .local\/(scope.names.lookup y.1=some .cell/\((cellsFrom (s.heap.objs.size+1) scope.names []).lookup y.1).isSome=true):=λ⟨n,v⟩ hy=>by
  rcases S.par n (List.of_mem_zip hy).1 with q|q
  .exact .inl q
  .exact .inr ⟨q,PySem.W.cellsFrom_some _ _ _ (.inl q)⟩
 refine codeAny_call_function hr.depth (KX _ _ lk) rfl S.co S.gen rfl (PySem.W.codeRec_of KX hcd) (hb _ _ _ _ ?_);refine wpAny_newFunctionEnv_cells S.kind hkind λenv he s1 x=>?_;subst he;refine⟨lim.keeps x.toInCall.keep,codeAny_func ?_⟩;obtain⟨t,ht,hq⟩:=hbody A outer s H vs Q E (hr.deeper _) hsp;have I:Inv (Vp CX P w K mg base N qual scope f cdv A outer s H E) [] (start N vs) H s1:=W3 S hr.hd e0 hl r x;refine wpAny_mono (ht [] s1 (start N vs) H _ I hq) (λfl s' hs=>?_) λe s' hs=>hs;have fin:∀{σ':St}{H':Hp}{v:V}{u:Value},Inv (Vp CX P w K mg base N qual scope f cdv A outer s H E) [] σ' H' s'->RelV v u->Q v H'->CE outer P w H s Q u s' :=
  λ{σ' H' v u}J rv q=>⟨v,H',J.os,J.bare,J.base,J.hok,rv,q⟩
 cases fl with
 |ret u =>
  obtain⟨v,σ',H',J,rv,q⟩:=hs;exact fin J rv q
 |next =>
  obtain⟨σ',H',J,q⟩:=hs;exact fin (v:=V.non) (u:=Value.none) J rfl q
 |brk =>
  obtain⟨_,_,_,q⟩:=hs;exact False.elim q
 |cont =>
  obtain⟨_,_,_,q⟩:=hs;exact False.elim q
section
variable{X:Cx}{x:Str}{p pos:Pos}{e:Expr}{es:List Expr}{t:TA}{id T:String}{r:Μ->Hp->VK->Prop}
def tCB(r:Μ->Hp->VK->Prop)(t:TA):TE:=λσ H Q=>t σ H λvs H1=>r vs H1 Q
theorem cu(hc:iH X (.builtin id) r)(hm:X.mg x=none)(hv:bootBuiltins x=some (.builtin id))(ha:PA X (e::es) t)(hg:Gl X x:=by rfl)(hn:x≠"__name__":=by decide)(hdb:(x==("__debug__":Str))=false:=by decide)
 (he:starEach (e::es) X.env=(false,eval e X.env)::starEach es X.env:=by rfl)(hpl:(backTo pos (starEach es X.env)).any (·.1)=false:=by rfl):PE X (.Call (.Name x p) (e::es) [] pos) (tCB r t):=by
 intro pins s σ H Q I h;refine wpAny_Call_Name_kw (Ad I hg hm hv ?_ hn hdb);exact PyProof.Rows.callWith_builtin1 (thn (ha pos pins s σ H _ I h) λus s1 hP=>by obtain⟨vs,H1,I1,r1,q1⟩:=hP;exact hc pins s1 σ H1 vs us Q I1 r1 q1) he hpl
theorem yP(hc:iH X (.type T) r)(hm:X.mg x=none)(hv:bootBuiltins x=some (.type T))(ha:PA X (e::es) t)(hg:Gl X x:=by rfl)(hn:x≠"__name__":=by decide)(hdb:(x==("__debug__":Str))=false:=by decide)
 (he:starEach (e::es) X.env=(false,eval e X.env)::starEach es X.env:=by rfl)(hpl:(backTo pos (starEach es X.env)).any (·.1)=false:=by rfl):PE X (.Call (.Name x p) (e::es) [] pos) (tCB r t):=by
 intro pins s σ H Q I h;refine wpAny_Call_Name_kw (Ad I hg hm hv ?_ hn hdb);exact PyProof.Rows.callWith_type1 (thn (ha pos pins s σ H _ I h) λus s1 hP=>by obtain⟨vs,H1,I1,r1,q1⟩:=hP;exact hc pins s1 σ H1 vs us Q I1 r1 q1) he hpl
end
end L2
namespace HT
open PySem PyProof.Rows
section
variable{prog:Program}{w:World}{A:Around}{E:Κ}{s:Shared}
noncomputable def sIx(n d:Nat):Option Int->Nat
 |none=>d
 |some v=>if v<0 then(v+(n:Int)).toNat else min v.toNat n
theorem uf(n d k:Nat):sIx n d (some (k:Int))=min k n:=by
 show(if(k:Int)<0 then((k:Int)+(n:Int)).toNat else min (k:Int).toNat n)=min k n;rw[ZZ (Int.not_lt_of_ge (Wp _)),Int.toNat_natCast]
theorem aeN(n d:Nat)(hd:d<=n)(o:Option Int):sIx n d o<=n:=by
 cases o with
 |none=>exact hd
 |some v =>
  show(if v<0 then(v+(n:Int)).toNat else min v.toNat n)<=n;by_cases hv:v<0
  .rw[ZY hv];lia
  .rw[ZZ hv];exact Nat.min_le_right _ _
end
end HT
namespace L2
open PySem PySem.Spec PyProof.Rows
abbrev TO:=St->Hp->(Option Int->Hp->Prop)->Prop
def PO(X:Cx)(e:Option Expr)(t:TO):Prop :=
 ∀(pins:Ω)(s:Shared)(σ:St)(H:Hp)(Q:Option Int->Hp->Prop),Inv X pins σ H s->t σ H Q ->
  wpAny (model X.prog X.w) X.A (evalPart e X.env) (λu s'=>∃o H',Inv X pins σ H' s'/\IsPart u o/\Q o H') X.xe s
def VN:TO:=λ_ H Q=>Q none H
def adn(t:TE):TO:=λσ H Q=>t σ H λx H1=>∃i,x=.int i/\Q (some i) H1
theorem intsAre_of{ns:List Int} : ∀{us:Ξ},Vals (ns.map V.int) us->IntsAre us ns:=by
 induction ns with
 |nil=>intro us r;rw[List.map_nil]at r;cases r;exact .nil
 |cons n ns ih =>
  intro us r;rw[List.map_cons]at r;cases r with
  |cons r1 r2 =>
   obtain⟨t,e⟩:=r1;subst e;exact .cons n t (ih r2)
section
variable{X:Cx}{e:Expr}{te:TE}{lo hi:Option Expr}{tl th:TO}{pos p2:Pos}
theorem Oq:PO X none VN:=by
 intro pins s σ H Q I h;rw[evalPart_none];exact ZT ⟨none,H,I,.none,h⟩
theorem iQ(h:PE X e te):PO X (some e) (adn te):=by
 intro pins s σ H Q I hw;rw[evalPart_some];refine thn (h pins s σ H _ I hw) λu s1 hP=>?_;obtain⟨x,H1,I1,r1,q1⟩:=hP;obtain⟨i,rfl,q⟩:=q1;obtain⟨t,rfl⟩:=r1;exact⟨some i,H1,I1,.int i t,q⟩
def SlR(X:Cx)(r:V->Option Int->Option Int->Hp->VK->Prop):Prop :=
 ∀(pins:Ω)(s:Shared)(σ:St)(H:Hp)(x:V)(v vl vu:Value)(lo hi:Option Int)(sl:Addr)(Q:VK),Inv X pins σ H s->RelV x v->s.heap.IsSliceOf sl vl vu .none->IsPart vl lo->IsPart vu hi->r x lo hi H Q ->
  ∃T id,typeLookup (.type T) "__getitem__"=pure (some (.builtin id))/\s.TypeIs v T/\wpAny (model X.prog X.w) X.A (getItem v (.ref sl)) (EP X pins σ Q) X.xe s
def tSl(r:V->Option Int->Option Int->Hp->VK->Prop)(te:TE)(tl th:TO):TE:=λσ H Q=>te σ H λx H1=>tl σ H1 λl H2=>th σ H2 λu H3=>r x l u H3 Q
theorem mZ{r:V->Option Int->Option Int->Hp->VK->Prop}(hr:SlR X r)(he:PE X e te)(hl:PO X lo tl)(hu:PO X hi th):PE X (.Subscript e (.Slice lo hi none p2) pos) (tSl r te tl th):=by
 intro pins s σ H Q I h;refine Subscript_ (thn (he pins s σ H _ I h) λv s1 hP=>?_);obtain⟨x,H1,I1,r1,q1⟩:=hP;refine wpAny_Slice (thn (hl pins s1 σ H1 _ I1 q1) λvl s2 ⟨l,H2,I2,pl,q2⟩=>thn (hu pins s2 σ H2 _ I2 q2) λvu s3 hP=>?_);obtain⟨u,H3,I3,pu,q3⟩:=hP;rw[evalPart_none];refine ZT ?_;have I4:Inv X pins σ H3 { s3 with heap:=s3.heap.push { cls:=.type "slice",data:=.fields #[vl,vu,.none] } }:=I3.kept (t':=s3.toks) λb ob q=>aH _ q;obtain⟨T,id,hT,ht,hg⟩:=hr pins { s3 with heap:=s3.heap.push { cls:=.type "slice",data:=.fields #[vl,vu,.none] } } σ H3 x v vl vu l u s3.heap.objs.size Q I4 r1 (Heap.IsSliceOf.new ..) pl pu q3;show wpAny (model X.prog X.w) X.A (subscriptTail e (.Slice lo hi none p2) v (.ref s3.heap.objs.size)) (EP X pins σ Q) X.xe { s3 with heap:=s3.heap.push { cls:=.type "slice",data:=.fields #[vl,vu,.none] } };exact tail_any (ops:=[.ref s3.heap.objs.size,v]) ht hT hg (by with_unfolding_all rfl)
noncomputable def nC(xs:Μ)(lo hi:Option Int):Μ:=(xs.drop (HT.sIx xs.length 0 lo)).take (HT.sIx xs.length xs.length hi-HT.sIx xs.length 0 lo)
theorem Em(xs:Μ)(lo hi:Option Int):(nC xs lo hi).length<=xs.length:=by
 unfold nC;rw[bw,List.length_drop];lia
end
noncomputable def ixN(n:Nat)(i:Int):Option Nat:=if 0<=i then(if i<n then some i.toNat else none)else if -(n:Int)<=i then some (i+n).toNat else none
def atI{α:Type}(xs:List α)(i:Int):Option α:=(ixN xs.length i).bind λj=>xs[j]?
theorem VH{n:Nat}{i:Int}{j:Nat}(h:ixN n i=some j):seqIndex? i n=some j/\j<n/\-(n:Int)<=i/\i<n:=by
 unfold ixN at h;by_cases h0:0<=i
 .rw[ZY h0]at h;by_cases h1:i<n
  .rw[ZY h1]at h;have e:i.toNat=j:=Option.some.inj h;exact⟨by rw[seqIndex_of h0 h1,e],by lia,by lia,h1⟩
  .rw[ZZ h1]at h;cases h
 .rw[ZZ h0]at h;by_cases h1 : -(n:Int)<=i
  .rw[ZY h1]at h;have e:(i+n).toNat=j:=Option.some.inj h;exact⟨by rw[seqIndex_neg (Int.lt_of_not_ge h0) h1,e],by lia,h1,by lia⟩
  .rw[ZZ h1]at h;cases h
theorem OJ{α:Type}{xs:List α}{i:Int}{v:α}(h:atI xs i=some v):∃j,seqIndex? i xs.length=some j/\xs[j]?=some v/\j<xs.length/\-(xs.length:Int)<=i/\i<xs.length:=by
 unfold atI at h;cases e:ixN xs.length i with
 |none=>rw[e]at h;cases h
 |some j =>
  rw[e]at h;obtain⟨h1,h2,h3,h4⟩:=VH e;exact⟨j,h1,h,h2,h3,h4⟩
theorem bY{α:Type}{xs:List α}{j:Nat}{v:α}(h:xs[j]?=some v):atI xs (j:Int)=some v:=by
 have hj:j<xs.length:=(ao.mp h).1;have e:ixN xs.length (j:Int)=some j:=by
  unfold ixN;rw[ZY (Wp _),ZY (by lia)];simp
 unfold atI;rw[e];exact h
def Vr(b:Expr):Prop:=∀o i,subscripted b false o i=operate [o,i] (getItem o i)
def IxR(X:Cx)(r:R2):Prop :=
 ∀(value slice:Expr)(pins:Ω)(s:Shared)(σ:St)(H:Hp)(x y:V)(v u:Value)(Q:VK),Inv X pins σ H s->RelV x v->RelV y u->r x y H Q ->
  subscripted slice false v u=operate [v,u] (getItem v u)->wpAny (model X.prog X.w) X.A (subscriptTail value slice v u) (EP X pins σ Q) X.xe s
def MtR(X:Cx)(id:String)(r:V->Μ->Hp->VK->Prop):Prop :=
 ∀(pins:Ω)(s:Shared)(σ:St)(H:Hp)(x:V)(xs:Μ)(v:Value)(us:Ξ)(Q:VK),Inv X pins σ H s->RelV x v->Vals xs us->r x xs H Q ->
  wpAny (model X.prog X.w) X.A (call (.builtin id) (v::us)) (EP X pins σ Q) X.xe s
section
variable{X:Cx}{a b:Expr}{ta tb:TE}{pos:Pos}
theorem bT{r:R2}(hr:IxR X r)(ha:PE X a ta)(hb:PE X b tb)(hs:Vr b:=by exact λ_ _=>rfl):PE X (.Subscript a b pos) (tOp r ta tb):=by
 intro pins s σ H Q I h;exact Subscript_ (ad7 ha hb I h λv u s2 x y H2 I2 rx ry q=>hr a b pins s2 σ H2 x y v u Q I2 rx ry q (hs _ _))
def aiO(K:Frag):R2:=λx y H Q=>∃p xs i v,x=.ref p/\y=.int i/\SqL K H p xs/\atI xs i=some v/\Q v H
def WX(K:Frag):R2:=λx y H Q=>∃p xs i v,x=.ref p/\y=.int i/\SqT K H p xs/\atI xs i=some v/\Q v H
def agi:R2:=λx y H Q=>∃z i c,x=.str z/\y=.int i/\z.length<=sizeLine/\atI z.cps.toList i=some c/\Q (.str ⟨#[c]⟩) H
theorem ab0:IxR X (aiO X.K):=by
 intro value slice pins s σ H x y v u Q I rx ry h hs;obtain⟨p,xs,i,z,rfl,rfl,hq,he,q⟩:=h;cases rx;obtain⟨t,rfl⟩:=ry;obtain⟨its,r,pl,hz⟩:=I.list hq;obtain⟨j,h1,h2,h3,h4,h5⟩:=OJ he;obtain⟨w,ew,rw'⟩:=r.get h2;have hl:=r.length;have hn:=v8;have fin:EP X pins σ Q w s:=⟨z,H,I,rw',q⟩;by_cases h0:0<=i
 .have hj:i.toNat=j:=by
   rw[seqIndex_of h0 h5]at h1;exact Option.some.inj h1
  exact item_listR pl.isList h0 (by lia) (by rw[hj];simpa using ew) fin hs
 .have hj:(i+(its.toArray.size:Int)).toNat=j:=by
   rw[seqIndex_neg (Int.lt_of_not_ge h0) h4]at h1;rw[bh,<- hl];exact Option.some.inj h1
  exact subscriptTail_builtinR (x:=w) pl.isList.typeIs slot_list_getitem.lookup
   (wpAny_getItem_list_neg (Q:=λr s'=>r=w/\EP X pins σ Q r s') pl.isList (Int.lt_of_not_ge h0) (by rw[bh]<;>lia) (by lia) (by rw[hj];simpa using ew) ⟨rfl,fin⟩) hs
theorem cZ:IxR X (WX X.K):=by
 intro value slice pins s σ H x y v u Q I rx ry h hs;obtain⟨p,xs,i,z,rfl,rfl,hq,he,q⟩:=h;cases rx;obtain⟨t,rfl⟩:=ry;obtain⟨its,r,pl,hz⟩:=I.tuple hq;obtain⟨j,h1,h2,h3,h4,h5⟩:=OJ he;obtain⟨w,ew,rw'⟩:=r.get h2;have hl:=r.length;have hn:=v8;have fin:EP X pins σ Q w s:=⟨z,H,I,rw',q⟩;exact subscriptTail_builtinR (x:=w) pl.typeIs slot_tuple_getitem.lookup
  (getItem_tuple (j:=j) (Q:=λr s'=>r=w/\EP X pins σ Q r s') pl (by lia) (by lia) (by rw[bh,<- hl];exact h1) (by simpa using ew) ⟨rfl,fin⟩) hs
theorem Uu:IxR X agi:=by
 intro value slice pins s σ H x y v u Q I rx ry h hs;obtain⟨z,i,c,rfl,rfl,hz,he,q⟩:=h;obtain⟨t,rfl⟩:=rx;obtain⟨t',rfl⟩:=ry;obtain⟨j,h1,h2,h3,h4,h5⟩:=OJ he;have hl:z.cps.toList.length=z.length:=by simp[Str.length]
 rw[hl]at h1 h4 h5;have hn:=v8;exact tail_any (typeIs_str s z t) slot_str_getitem.lookup (getItem_str (c:=c) (by
  have e1:decide (i < -(2^63:Int))=false:=Zp (by lia);have e2:decide (i>=2^63)=false:=Zp (by lia);rw[e1,e2,Bool.or_false]) (by rw[h1];simpa using h2) ⟨.str ⟨#[c]⟩,H,I.tok _,⟨_,rfl⟩,q⟩) hs
theorem Vc(its:Ξ)(n j:Nat)(u:Value):Obj.mapSeq (·.setIfInBounds j u) { cls:=.type "list",data:=.seq its.toArray n }={ cls:=.type "list",data:=.seq (its.set j u).toArray n }:=by
 simp[Obj.mapSeq]
theorem Inv.lst{pins:Ω}{σ:St}{H:Hp}{s:Shared}{p:Addr}{xs:Μ}(I:Inv X pins σ H s)(h:H p=some (.lst xs)) :
  ∃(its:Ξ)(n:Nat),Vals xs its/\s.heap.get? p=some { cls:=.type "list",data:=.seq its.toArray n }/\xs.length<=sizeLine:=by
 obtain⟨z,its,n,r,e⟩:=I.hok p _ h;exact⟨its,n,r,e,z⟩
theorem Inv.lstUpd{pins:Ω}{σ:St}{H:Hp}{s:Shared}{p:Addr}{xs ys:Μ}{its its':Ξ}{n n':Nat}{f:Obj->Obj}(I:Inv X pins σ H s)(h:H p=some (.lst xs))
 (ho:s.heap.get? p=some { cls:=.type "list",data:=.seq its.toArray n })(hf:f { cls:=.type "list",data:=.seq its.toArray n }={ cls:=.type "list",data:=.seq its'.toArray n' })(r:Vals ys its')(hz:ys.length<=sizeLine)(t:Nat) :
  Inv X pins σ (upd H p (.lst ys)) { s with heap:=s.heap.update p f,toks:=t }:=by
 have e:(s.heap.update p f).get? p=some { cls:=.type "list",data:=.seq its'.toArray n' }:=by
  rw[Heap.get?_update_self f ho (by rw[hf]<;>rfl),hf]
 refine I.write (x:=p) (e:=p) (by rw[h];trivial) (.inl rfl) (λb u hb q=>(Heap.get?_update_other _ _ (Ne.symm hb)).trans q) ⟨_,e⟩ ?_;exact⟨hz,its',n',r,e⟩
def adt:V->V->V->Hp->(Hp->Prop)->Prop:=λo i v H Q=>∃p xs k j,o=.ref p/\i=.int k/\H p=some (.lst xs)/\ixN xs.length k=some j/\Q (upd H p (.lst (xs.set j v)))
theorem set_list:ai0 X adt:=by
 intro pins s σ H o i v ov iv u Q I ro ri rv h;obtain⟨p,xs,k,j,rfl,rfl,hp,hj,q⟩:=h;cases ro;obtain⟨t,rfl⟩:=ri;obtain⟨its,n,r,ho,hz⟩:=I.lst hp;obtain⟨h1,h2,h3,h4⟩:=VH hj;have hl:=r.length;have hn:=v8;have I':Inv X pins σ (upd H p (.lst (xs.set j v))) { s with heap:=s.heap.update p (Obj.mapSeq (·.setIfInBounds j u)) } :=
  I.lstUpd hp ho (Vc its n j u) (r.set rv j) (by rw[List.length_set];exact hz) s.toks
 by_cases h0:0<=k
 .have hk:k.toNat=j:=by
   rw[seqIndex_of h0 h4]at h1;exact Option.some.inj h1
  exact PySem.W.ki_setAt ho h0 (by lia) (by rw[bh,<- hl];exact h4) (by rw[hk];exact⟨_,I',q⟩)
 .have hk:(k+(its.toArray.size:Int)).toNat=j:=by
   rw[seqIndex_neg (Int.lt_of_not_ge h0) h3]at h1;rw[bh,<- hl];exact Option.some.inj h1
  exact PySem.W.ki_setBack ho (Int.lt_of_not_ge h0) (by rw[bh,<- hl];exact h3) (by lia) (by rw[hk];exact⟨_,I',q⟩)
theorem Nq(lo hi:Option Int)(n:Nat):(sliceBounds lo hi none n).1=((HT.sIx n 0 lo:Nat):Int)/\(sliceBounds lo hi none n).2.1=((HT.sIx n n hi:Nat):Int)/\(sliceBounds lo hi none n).2.2=1:=by
 refine⟨?_,?_,rfl⟩
 .cases lo with
  |none=>simp[sliceBounds,HT.sIx]
  |some i =>
   simp only[sliceBounds,HT.sIx,Option.getD_none,show(1:Int)>0 by decide,if_true];by_cases h:i<0
   .simp only[h,if_true]<;>lia
   .simp only[h,if_false]<;>lia
 .cases hi with
  |none=>simp[sliceBounds,HT.sIx]
  |some i =>
   simp only[sliceBounds,HT.sIx,Option.getD_none,show(1:Int)>0 by decide,if_true];by_cases h:i<0
   .simp only[h,if_true]<;>lia
   .simp only[h,if_false]<;>lia
theorem J3(its:Ξ)(lo hi:Option Int):slicePick its.toArray lo hi none=((its.drop (HT.sIx its.length 0 lo)).take (HT.sIx its.length its.length hi-HT.sIx its.length 0 lo)).toArray:=by
 obtain⟨h1,h2,h3⟩:=Nq lo hi its.toArray.size;unfold slicePick;rw[h1,h2,h3];simp only[sliceRange_one,pick_run,bh]<;>rfl
def aiP(K:Frag):V->Option Int->Option Int->Hp->VK->Prop:=λx lo hi H Q=>∃a xs,x=.ref a/\SqL K H a xs/\∀p,H p=none->Q (.ref p) (upd H p (.lst (nC xs lo hi)))
theorem Bt:SlR X (aiP X.K):=by
 intro pins s σ H x v vl vu lo hi sl Q I rx hs pl pu h;obtain⟨a,xs,rfl,hx,q⟩:=h;cases rx;obtain⟨its,r,ht,hz⟩:=I.list hx;have hlen:=r.length;refine⟨"list",_,slot_list_getitem.lookup,ht.isList.typeIs,?_⟩;refine wpAny_getItem_list_slice ht.isList hs pl pu .none (by simp) ?_ (by rw[bh]<;>lia);rw[J3,<- hlen];refine⟨.ref s.heap.objs.size,_,I.laid (t':=s.toks) (o:=.lst (nC xs lo hi)) (λb ob q=>aH _ q) (aG _) ?_,rfl,q _ (I.hok.fresh (aG _))⟩;exact⟨aM (Em xs lo hi) hz,_,0,(r.drop (HT.sIx xs.length 0 lo)).take (HT.sIx xs.length xs.length hi-HT.sIx xs.length 0 lo),aZ _ rfl⟩
noncomputable def KQ:V->Bool
 |.non=>true
 |.bl _=>true
 |.int _=>true
 |.str _=>true
 |_=>false
noncomputable def eqV:V->V->Bool
 |.non,.non=>true
 |.bl a,.bl b=>a==b
 |.bl a,.int b=>(if a then 1 else 0)==b
 |.int a,.bl b=>a==(if b then 1 else 0)
 |.int a,.int b=>a==b
 |.str a,.str b=>a==b
 |_,_=>false
theorem Cu:iH X (.builtin "len") (λxs H Q=>∃p ys,xs=[.ref p]/\(SqL X.K H p ys\/SqT X.K H p ys)/\Q (.int ys.length) H):=by
 intro pins s σ H xs us Q I r h;obtain⟨p,ys,rfl,hq,q⟩:=h;obtain⟨u,rfl,rx⟩:=vals1 r;cases rx;have hn:=v8;rcases hq with hq|hq
 .obtain⟨its,r',pl,hz⟩:=I.list hq;have hlen:=r'.length;exact Calls.call_len_list pl.isList (by simp only[bh]<;>lia) ⟨.int ys.length,H,I.tok _,⟨s.toks+1,by rw[bh,hlen]⟩,q⟩
 .obtain⟨its,r',pl,hz⟩:=I.tuple hq;have hlen:=r'.length;exact len_tuple pl (by simp only[bh]<;>lia) ⟨.int ys.length,H,I.tok _,⟨s.toks+1,by rw[bh,hlen]⟩,q⟩
theorem NQ:iH X (.builtin "len") (λxs H Q=>∃z,xs=[.str z]/\z.length<=sizeLine/\Q (.int z.length) H):=by
 intro pins s σ H xs us Q I r h;obtain⟨z,rfl,hz,q⟩:=h;obtain⟨u,rfl,t,rfl⟩:=vals1 r;have hn:=v8;exact len_str (by lia) ⟨.int z.length,H,I.tok _,⟨_,rfl⟩,q⟩
theorem iH.or{f:Value}{r r':Μ->Hp->VK->Prop}(h:iH X f r)(h':iH X f r'):iH X f (λxs H Q=>r xs H Q\/r' xs H Q):=by
 intro pins s σ H xs us Q I rs q;rcases q with q|q
 .exact h pins s σ H xs us Q I rs q
 .exact h' pins s σ H xs us Q I rs q
theorem Pz:iH X (.type "list") (λxs H Q=>∃p ys,xs=[.ref p]/\(SqL X.K H p ys\/SqT X.K H p ys)/\∀l,H l=none->Q (.ref l) (upd H l (.lst ys))):=by
 intro pins s σ H xs us Q I r h;obtain⟨p,ys,rfl,hq,q⟩:=h;obtain⟨u,rfl,rx⟩:=vals1 r;cases rx;have fin:∀(its:Ξ),Vals ys its->ys.length<=sizeLine->∀(h':Heap)(c':Nat),(∀b o',s.heap.get? b=some o'->h'.get? b=some o') ->
   h'.get? s.heap.objs.size=some { cls:=.type "list",dict:=none,data:=.seq its.toArray c',slots:=#[] }->EP X pins σ Q (.ref s.heap.objs.size) { s with heap:=h' }:=λits r' hz h' c' kp e =>
  ⟨.ref s.heap.objs.size,_,I.laid (t':=s.toks) kp (aG _) (show gj X.prog X.w _ h' _ (.lst ys)from⟨hz,its,c',r',e⟩),rfl,q _ (I.hok.fresh (aG _))⟩
 rcases hq with hq|hq
 .obtain⟨its,r',pl,hz⟩:=I.list hq;have hlen:=r'.length;obtain⟨o,ho,hc,n,hd⟩:=pl.isList;exact call_list_seq p (.inl rfl) ho hc hd (λh' c' kp e=>fin its r' hz h' c' kp e) (by simp only[bh]<;>lia)
 .obtain⟨its,r',pl,hz⟩:=I.tuple hq;have hlen:=r'.length;obtain⟨o,ho,hc,n,hd⟩:=pl;exact call_list_seq p (.inr rfl) ho hc hd (λh' c' kp e=>fin its r' hz h' c' kp e) (by simp only[bh]<;>lia)
def tyV(K:Frag)(T:String)(x:V)(H:Hp):Prop:=match x with
 |.str _=>T="str"
 |.int _=>T="int"
 |.ref p=>(T="list"/\∃xs,SqL K H p xs)\/(T="tuple"/\∃o,K.lookup p=some o/\o.cls=.type "tuple"/\o.dict=none) \/
   (T="dict"/\(∃kvs,H p=some (.dK kvs)))\/(T="set"/\∃S n,H p=some (.set S n))
 |_=>False
theorem aeP{pins:Ω}{σ:St}{H:Hp}{s:Shared}{T:String}{x:V}{v:Value}(I:Inv X pins σ H s)(r:RelV x v)(ty:tyV X.K T x H) :
  s.TypeIs v T/\∀a,v=.ref a->∃ob,s.heap.get? a=some ob/\ob.dict=none:=by
 cases x with
 |str z =>
  obtain⟨t,rfl⟩:=r;cases(show T="str" from ty);exact⟨typeIs_str s z t,λ_ e=>nomatch e⟩
 |int i =>
  obtain⟨t,rfl⟩:=r;cases(show T="int" from ty);exact⟨typeIs_int s i t,λ_ e=>nomatch e⟩
 |ref p =>
  cases r;rcases ty with⟨rfl,xs,hq⟩|⟨rfl,o,hk,hc,hd⟩|⟨rfl,hk⟩|⟨rfl,S,n,hk⟩
  .obtain⟨its,_,pl,_⟩:=I.list hq;refine⟨pl.isList.typeIs,λa e=>?_⟩;cases e;obtain⟨o,n,e,c,hd,_⟩:=pl;exact⟨o,e,hd⟩
  .refine⟨⟨o,I.kIn p o hk,hc⟩,λa e=>?_⟩;cases e;exact⟨o,I.kIn _ o hk,hd⟩
  .have z:∃o,s.heap.get? p=some o/\o.ExactDict:=by
    obtain⟨kvs,hk⟩:=hk;obtain⟨_,_,_,_,o,_,_,e,ex,_⟩:=I.hok p _ hk;exact⟨o,e,ex⟩
   obtain⟨o,e,ex⟩:=z;refine⟨⟨o,e,ex.1⟩,λa e2=>?_⟩;cases e2;exact⟨o,e,ex.2.1⟩
  .obtain⟨o,_,_,_,e,ex,_⟩:=I.hok p _ hk;refine⟨⟨o,e,ex.1⟩,λa e2=>?_⟩;cases e2;exact⟨o,e,ex.2.1⟩
 |_=>exact False.elim ty
def tBM(K:Frag)(T:String)(r:V->Μ->Hp->VK->Prop)(to:TE)(t:TA):TE:=λσ H Q=>to σ H λx H1=>tyV K T x H1/\t σ H1 λxs H2=>r x xs H2 Q
variable{o e:Expr}{es:List Expr}{to:TE}{t:TA}{name:Str}{apos cpos:Pos}{T id:String}{r:V->Μ->Hp->VK->Prop}
theorem acV(pa:PlainAttrs T)(slot:Slot T name id)(hty:typeOf (.builtin id)=pure (.type "method_descriptor"))(hm:MtR X id r)(ho:PE X o to)(ha:PA X (e::es) t)
 (hbase:attributeBase o name X.env (eval o X.env)=eval o X.env:=by rfl)
 (hfew:((backTo cpos (starEach (e::es) X.env)).all (λx=>!x.1)&&(backToKw cpos (keywordEach [] X.env)).all (λx=>x.1.isSome)
   && decide ((e::es).length+([] : List Keyword).length+(if([] : List Keyword).isEmpty then 0 else 1)<30))=true:=by rfl)
 (hline:(apos.endLine==cpos.line)=true:=by rfl)(hs:starEach (e::es) X.env=(false,eval e X.env)::starEach es X.env:=by rfl)(hplain:(backTo cpos (starEach es X.env)).any (·.1)=false:=by rfl) :
  PE X (.Call (.Attribute o name apos) (e::es) [] cpos) (tBM X.K T r to t):=by
 intro pins s σ H Q I h;refine wpAny_Call_method_late hbase hfew hline rfl (thn (ho pins s σ H _ I h) λv s1 hP=>?_);obtain⟨x,H1,I1,r1,ty,q1⟩:=hP;obtain⟨h1,h2⟩:=aeP I1 r1 ty;refine⟨T,id,pa,slot,hty,h1,h2,?_⟩;have hA:=ha cpos pins s1 σ H1 _ I1 q1;rw[hs]at hA ⊢;refine Calls.callWith_builtin (by show(false || (backTo cpos (starEach es X.env)).any (·.1))=false;rw[hplain]<;>rfl) (Calls.evalArgs_plain ?_);exact thn hA λus s2 hP=>by obtain⟨vs,H2,I2,r2,q2⟩:=hP;exact hm pins s2 σ H2 x vs v us Q I2 r1 r2 q2

end
def MtM(X:Cx)(id:String)(r:V->Μ->Hp->VK->Prop):Prop :=
 ∀(pins:Ω)(s:Shared)(σ:St)(H:Hp)(x:V)(xs:Μ)(v:Value)(us:Ξ)(Q:VK),Inv X pins σ H s->RelV x v->Vals xs us->r x xs H Q ->
  wpAny (model X.prog X.w) X.A (call (.builtin id) (v::us)) (EP X pins σ Q) X.xe s
theorem Vals.one:∀{x:V}{us:Ξ},Vals [x] us->∃u,us=[u]/\RelV x u
 |_,_,.cons r .nil=>⟨_,rfl,r⟩
theorem Vals.two{x y:V}{us:Ξ}(h:Vals [x,y] us):∃u v,us=[u,v]/\RelV x u/\RelV y v:=by
 cases h with|cons r t=>cases t with|cons q t=>cases t;exact⟨_,_,rfl,r,q⟩
theorem Vals.eraseIdx:∀{xs:Μ}{us:Ξ}(i:Nat),Vals xs us->Vals (xs.eraseIdx i) (us.eraseIdx i)
 |_,_,_,.nil=>.nil
 |_,_,0,.cons _ t=>t
 |_,_,i+1,.cons r t=>.cons r (Vals.eraseIdx i t)
theorem Vals.rep{xs:Μ}{us:Ξ}(h:Vals xs us):∀k:Nat,Vals (List.replicate k xs).flatten (List.replicate k us).flatten
 |0=>.nil
 |k+1=>by
  rw[List.replicate_succ,List.replicate_succ,List.flatten_cons,List.flatten_cons];exact Vals.append h (Vals.rep h k)
theorem Ld{α:Type} : ∀(l:List α)(i:Nat),(l.eraseIdx i).length<=l.length
 |[],_=>aG _
 |_::_,0=>Xs _
 |_::r,i+1=>Nat.succ_le_succ (Ld r i)
theorem foldl_rep(its:Ξ):∀(k:Nat)(acc:Ξ),
  List.foldl (λx1 x2=>x1++x2) acc.toArray (List.replicate k its.toArray)=(acc++(List.replicate k its).flatten).toArray
 |0,acc=>by simp
 |k+1,acc=>by
  have e:acc.toArray++its.toArray=(acc++its).toArray:=by simp
  have e2:(acc++its)++(List.replicate k its).flatten=acc++(List.replicate (k+1) its).flatten:=by
   rw[List.replicate_succ,List.flatten_cons,WZ]
  rw[<- e2,<- foldl_rep its k (acc++its),<- e,List.replicate_succ,List.foldl_cons]
section
variable{X:Cx}{pins:Ω}{σ:St}{H:Hp}{s:Shared}{l b:Addr}{xs ys zs:Μ}
theorem Inv.lset{its its':Ξ}{n:Nat}{f:Array Value->Array Value}{t':Nat}(I:Inv X pins σ H s)(hH:H l=some (.lst xs))
 (e:s.heap.get? l=some { cls:=.type "list",data:=.seq its.toArray n })(hf:f its.toArray=its'.toArray)(hv:Vals ys its')(hz:ys.length<=sizeLine) :
  Inv X pins σ (upd H l (.lst ys)) { s with heap:=s.heap.update l (Obj.mapSeq f),toks:=t' }:=by
 have q:=PySem.IsL.update e f;rw[hf]at q;refine I.write (x:=l) (e:=l) (by rw[hH];exact trivial) (.inl rfl) (λb' u hb hu=>(Heap.get?_update_other s.heap (Obj.mapSeq f) (Ne.symm hb)).trans hu) ⟨_,q⟩ ?_;exact⟨hz,its',_,hv,q⟩
theorem Inv.lnew{its:Ξ}{t':Nat}(I:Inv X pins σ H s)(hv:Vals ys its)(hz:ys.length<=sizeLine) :
  Inv X pins σ (upd H s.heap.objs.size (.lst ys)) { s with heap:=s.heap.push { cls:=.type "list",data:=.seq its.toArray },toks:=t' } :=
 I.laid (λ_ _ q=>aH _ q) (aG _) ⟨hz,its,0,hv,aZ _ rfl⟩
theorem Inv.fresh(I:Inv X pins σ H s):H s.heap.objs.size=none:=I.hok.fresh (aG _)
theorem Inv.lstM(I:Inv X pins σ H s)(hH:H l=some (.lst xs)):xs.length<=sizeLine/\∃(its:Ξ)(n:Nat),Vals xs its/\xs.length=its.length/\s.heap.get? l=some { cls:=.type "list",data:=.seq its.toArray n }:=by
 obtain⟨z,its,n,r,e⟩:=I.hok l _ hH;exact⟨z,its,n,r,r.length,e⟩
theorem aau{n:Nat}(h:n<=sizeLine):Builtin.List.listTooLong n=false:=by
 unfold Builtin.List.listTooLong;exact Zp (Nat.not_lt_of_le h)
end
section
variable{X:Cx}
def aaT:V->Μ->Hp->VK->Prop:=λx vs H Q=>∃l xs y,x=.ref l/\vs=[y]/\H l=some (.lst xs)/\xs.length<sizeLine/\Q .non (upd H l (.lst (xs++[y])))
theorem KY:MtM X "list.append" aaT:=by
 intro pins s σ H x vs v us Q I rx rv h;obtain⟨l,xs,y,rfl,rfl,hH,hz,q⟩:=h;cases rx;obtain⟨u,rfl,ru⟩:=rv.one;obtain⟨z,its,n,r,hl,e⟩:=I.lstM hH;refine call_meets F.slot_list_append ⟨_,e,rfl⟩ F.entry_list_append (F.args_list_append_2 _ _) (PySem.list_append l its.toArray n u (by rw[bh];lia)) ⟨e,?_⟩;refine⟨.non,_,I.lset (its':=its++[u]) hH e (by simp) (r.append (.cons ru .nil)) ?_,rfl,q⟩;rw[aA,List.length_singleton];exact hz
def ait:R2:=λx y H Q=>∃l b xs zs,x=.ref l/\y=.ref b/\H l=some (.lst xs)/\H b=some (.lst zs)/\xs.length+zs.length<=sizeLine/\∀p,H p=none->Q (.ref p) (upd H p (.lst (xs++zs)))
theorem Uc:OpR X (binaryOp .Add) ait:=by
 intro pins s σ H x y v u Q I rx ry h;obtain⟨l,b,xs,zs,rfl,rfl,hH,hB,hz,q⟩:=h;cases rx;cases ry;obtain⟨z,its,n,r,hl,e⟩:=I.lstM hH;obtain⟨z2,its2,n2,r2,hl2,e2⟩:=I.lstM hB;refine PySem.P.add_list e e2 ?_ (by rw[bh,bh];lia);have ea:its.toArray++its2.toArray=(its++its2).toArray:=by simp
 rw[ea];exact⟨.ref _,_,I.lnew (t':=s.toks) (r.append r2) (by rw[aA];omega),rfl,q _ I.fresh⟩
def aju:R2:=λx y H Q=>∃l k xs,x=.ref l/\y=.int k/\H l=some (.lst xs)/\-(2^63)<=k/\k<2^63/\xs.length*k.toNat<=sizeLine /\
 ∀p,H p=none->Q (.ref p) (upd H p (.lst (List.replicate k.toNat xs).flatten))
theorem len_rep{α:Type}(xs:List α)(k:Nat):(List.replicate k xs).flatten.length=k*xs.length:=by
 induction k with
 |zero=>simp
 |succ k ih=>rw[List.replicate_succ,List.flatten_cons,aA,ih,Nat.succ_mul,Nat.add_comm]
theorem adH:OpR X (binaryOp .Mult) aju:=by
 intro pins s σ H x y v u Q I rx ry h;obtain⟨l,k,xs,rfl,rfl,hH,h1,h2,hz,q⟩:=h;cases rx;obtain⟨t,rfl⟩:=ry;obtain⟨z,its,n,r,hl,e⟩:=I.lstM hH;have hlen:its.toArray.size*k.toNat<=sizeLine:=by rw[bh,<- hl];exact hz
 have hcap:¬its.toArray.size*k.toNat>(2^63-1)/8:=by
  have:(sizeLine:Nat)<=(2^63-1)/8:=by decide
  lia
 have hfit:¬(!Builtin.List.listFitsIndex k)=true:=by
  rw[fitsIndex_both h1 h2];exact bD
 have hlong:¬Builtin.List.listTooLong (its.toArray.size*k.toNat)=true:=by
  rw[aau hlen];exact bD
 have hnew:List.foldl (λx1 x2=>x1++x2) #[] (List.replicate (if its.toArray.isEmpty=true then 0 else k.toNat) its.toArray)=(List.replicate k.toNat its).flatten.toArray:=by
  have f0:∀m:Nat,List.foldl (λx1 x2=>x1++x2) #[] (List.replicate m its.toArray)=(List.replicate m its).flatten.toArray:=λm=>by
   have:=foldl_rep its m [];rw[List.nil_append]at this;exact this
  rw[f0];cases its with
  |nil=>simp
  |cons a r'=>rw[ZZ (by simp)]
 refine wpAny_binaryOp_repeat_ref (T:="list") (U:="int") (by decide) ⟨_,e,rfl⟩ (λs'=>typeIs_int s' k t) noFill_list_mul F.fills_int_mul F.slot_int_rmul repeat_list F.slot_int_index.lookup
  (call_meets F.slot_int_rmul (typeIs_int s k t) F.entry_int_rmul (F.args_int_rmul_2 _ _) (int___rmul___int_list k t l its.toArray n)
   ⟨e,rfl,⟨_,e,rfl⟩,call_meets F.slot_list_mul ⟨_,e,rfl⟩ F.entry_list_mul (F.args_list_mul_2 _ _) (AutoListH.list___mul___list_int_3 l its.toArray n k t hfit hcap hlong) ⟨e,?_⟩⟩)
 rw[hnew];exact⟨.ref _,_,I.lnew (t':=s.toks) (r.rep k.toNat) (by rw[len_rep,Nat.mul_comm];exact hz),rfl,q _ I.fresh⟩
theorem Bl{pins:Ω}{s:Shared}{σ:St}{H:Hp}{l:Addr}{xs:Μ}{i:Int}{t:Tok}{k:Nat}{Q:Unit->Shared->Prop}(I:Inv X pins σ H s)(hH:H l=some (.lst xs))
 (h1 : -(2^63)<=i)(h2:i<2^63)(hk:seqIndex? i xs.length=some k)(h:∀s',Inv X pins σ (upd H l (.lst (xs.eraseIdx k))) s'->Q () s') :
  wpAny (model X.prog X.w) X.A (delItem (.ref l) (.int i t)) Q X.xe s:=by
 obtain⟨z,its,n,r,hl,e⟩:=I.lstM hH;refine PySem.P.delItem_list (k:=k) e (fitsIndex_both h1 h2) (by rw[bh,<- hl];exact hk) (h _ ?_) (by rw[bh];lia);refine I.lset (its':=its.eraseIdx k) (t':=s.toks) hH e ?_ (r.eraseIdx k) ?_
 .show its.toArray.eraseIdxIfInBounds k=(its.eraseIdx k).toArray;rw[List.eraseIdxIfInBounds_toArray]
 .have:=Ld xs k;exact aM this z
end
end L2
namespace Att
open PySem PySem.W PySem.Calls PyProof.Rows
theorem Fg{P:Params}{h:Heap} : ∀(ns:List Int)(vs:Ξ),WellAll P h vs (ns.map WData.int)->IntsAre vs ns:=by
 intro ns
 induction ns with
 |nil =>
  intro vs w;rw[List.map_nil]at w;cases w;exact .nil
 |cons n ns ih =>
  intro vs w;rw[List.map_cons]at w;cases w with
  |cons a b =>
   cases a;exact .cons _ _ (ih _ b)
theorem WR{l:OpenLaw}{n:Nat}(hn:l.most=some n){P:Params}{h:Heap}{args:List WData}{vals:Ξ}
 (hpre:l.row.toRowW.claim.pre args=true)(hwl:WellAll P h vals args) :
  ∃a vs ns,vals=[Value.ref a]/\args=[WData.list (ns.map WData.int)]/\h.get? a=some { cls:=.type "list",data:=.seq vs.toArray }/\IntsAre vs ns/\ns.length<=n:=by
 have hsh:WShape.hasAll [] args [.list .int]=true:=(pre_splitW hpre).1;have hc:l.pre.holds [] { args:=args }=true:=(pre_splitW hpre).2;obtain⟨d,r,rfl,h1,h2⟩:=hasAllW_cons hsh;obtain rfl:=hasAllW_nil h2;obtain⟨xs,rfl,h3⟩:=hasW_list h1;obtain⟨ns,rfl⟩:=items_int h3;have hlen:ns.length<=n:=by
  unfold OpenLaw.pre at hc;have h4:(WTm.not (.lt (.lit (.int (n:Int))) (.len (.arg 0)))).holds [] { args:=[.list (ns.map .int)] }=true:=by
   have h4:=(holds_andW hc).1;rw[hn]at h4;exact h4
  have h5:=condW_of h4 (w_not (w_lt w_lit (w_len_list (w_arg rfl))));rw[ak]at h5;refine Nat.le_of_not_lt λq=>?_;have q':(n:Int)<((ns.length:Nat):Int):=by omega
  first
   |(rw[Zs q']at h5;exact absurd h5 (by decide))
   |(simp at h5;omega)
 cases hwl with
 |cons w1 w2 =>
  cases w2;cases w1 with
  |list ho hall=>exact⟨_,_,ns,rfl,rfl,ho,Fg ns _ hall,hlen⟩
theorem XD(l:OpenLaw)(args:List WData):l.row.toRowW.claim.post args (.bool true) args=true :=
 postW_of (r:=l.row.toRowW) (X:=(true==true))
  (show WShape.has [] (.bool true) .bool=true by first|rfl|decide|simp[WShape.has,WShape.arms,WShape.armsAll])
  (show(WTm.eq .res (.lit (.bool true))).value [] { args:=args,res:=some (.bool true),after:=args }=some (.bool (true==true))from w_eq_bool (w_res rfl) w_lit) rfl
theorem Td{l:OpenLaw}{n:Nat}{q:Program}{loose:Β}{XP:(Str->Ζ)->Heap->Prop}{YP:World->Heap->Prop}{d:DefRec}
 (hn:l.most=some n)(hdf:d.params.defaults=[])
 (call:∀(w:World)(s₀ s₁:Shared)(mg mb:Str->Ζ)(fa:Addr)(o:Obj)(pm cd doc:Value)(a:Addr)(vs:Ξ)(ns:List Int),
   Ground q loose [] XP w s₀ mg mb s₁.heap->YP w s₁.heap ->
   s₁.heap.get? fa=some o->o.data=.func (docDef d.name d.params d.body d.scope pm cd doc)->s₁.heap.CodeRec cd d.name->mg d.name=some (.ref fa) ->
   s₁.heap.get? a=some { cls:=.type "list",data:=.seq vs.toArray }->IntsAre vs ns->ns.length<=n->s₁.gens = #[] ->
   codeAny (model l.prog w) callerA (.call (.ref fa) ⟨[.ref a],[]⟩) (λr s'=>r=.ok (.ret (.bool true))/\OldK s₁.heap s'.heap/\s'.os=s₁.os/\AllBare s'.gens) s₁) :
  WalkO q loose XP YP l.row.toRowW d [] (λf vs=>PySem.call f vs):=by
 intro w s₀ s₁ mg mb G Y fa o pm cd doc dV kV ho hd hcd hD hmg hg args vals as hpre hlay hrd hwl hlo;obtain rfl:dV=.none:=Dflts.none hD hdf;obtain rfl:kV=.none:=Dflts.noKw hD;obtain⟨a,vs,ns,rfl,rfl,hobj,hints,hlen⟩:=WR hn hpre hwl;refine enter_call (codeAny_mono (call w s₀ s₁ mg mb fa o pm cd doc a vs ns G Y ho (fd_plain hd) hcd hmg hobj hints hlen hg) λr s' hq=>?_);obtain⟨rfl,h2,h3,h4⟩:=hq;exact⟨.inl ⟨.bool true,.bool true,[],rfl,λ_=>rfl,.bool true,XD l _,λ_=>⟨List.Pairwise.nil,λ_ hm=>(nomatch hm)⟩⟩,h2,h3,h4⟩
end Att
namespace L2
open PySem PySem.Spec PyProof.Rows
theorem Ds:∀{vs:Ξ}{ns:List Int},IntsAre vs ns->Vals (ns.map V.int) vs
 |_,_,.nil=>.nil
 |_,_,.cons n t h=>.cons ⟨t,rfl⟩ (Ds h)
def Only(H:Hp):Prop:=∀b,H b=none\/∃o xs,H b=some (.frz o (.lst xs))
theorem Zd{P:Program}{w:World}{K:Frag}{mg mb:Str->Ζ}{CX:CXT}{k:Nat}{fa a:Addr}{fd:FuncData}{x:Str}{sp:Sp}{s₁:Shared}{vs:Ξ}{ns:List Int}
 (KX:K.In s₁.heap)(hns:s₁.heap.Ns mainGlobals mg)(hb:s₁.heap.Ns builtinsNs mb)(hbb:∀x:Str,x≠"__name__"->mb x=bootBuiltins x)(hlim:s₁.heap.NoLimit)(hg:s₁.gens = #[])
 (ha:s₁.heap.get? a=some { cls:=.type "list",data:=.seq vs.toArray })(hi:IntsAre vs ns)(hl:ns.length<=sizeLine)(hr:jg k callerA)
 (F:∀base:Heap,K.In base->base.Ns mainGlobals mg->cJ P w K mg base CX k fa fd [x] sp)(hbind:∀(s:Shared)(u:Value),BindsTo s fd ⟨[u],[]⟩ [(x,u)])
 (hsp:∀H:Hp,Only H->SqL K H a (ns.map V.int)->sp [.ref a] H (λv _=>v=.bl true) λ_ _ _=>False)
 (hCX:∀H e s',CX [] H s₁ (λ_ _ _=>False) e s'->False) :
  codeAny (model P w) callerA (.call (.ref fa) ⟨[.ref a],[]⟩) (λr s'=>r=.ok (.ret (.bool true))/\OldK s₁.heap s'.heap/\s'.os=s₁.os/\AllBare s'.gens) s₁:=by
 have rv:=Ds hi;have lenV:=hi.length

 have core:∀H:Hp,Only H->SqL K H a (ns.map V.int)->HOk P w H s₁.heap->(∀b,H b≠none->b=a)->(H a≠none->K.lookup a=none) ->
   codeAny (model P w) callerA (.call (.ref fa) ⟨[.ref a],[]⟩) (λr s'=>r=.ok (.ret (.bool true))/\OldK s₁.heap s'.heap/\s'.os=s₁.os/\AllBare s'.gens) s₁:=by
  intro H hO hS hok hA hK;have base_of:∀{b:Addr}{o:Obj},s₁.heap.get? b=some o->H b=none->(Pu s₁.heap H).get? b=some o:=λe n=>Y4 e n;have noA:∀{b:Addr}{o:Obj}{es:Array DictEntry}{ep:Nat},s₁.heap.get? b=some o->o.data=.dict es ep->H b=none:=λ{b o es ep}e d=>by
   cases q:H b with
   |none=>rfl
   |some u =>
    have e':b=a:=hA b (by rw[q];simp);subst e';rw[ha]at e;cases e;have d':Data.seq vs.toArray _=Data.dict es ep:=d;cases d'
  have nsK:∀{b:Addr}{m:Str->Ζ},s₁.heap.Ns b m->(Pu s₁.heap H).Ns b m:=λ{b m}⟨o,es,ep,e,d,r⟩=>⟨o,es,ep,base_of e (noA e d),d,r⟩;have hKb:K.In (Pu s₁.heap H):=λb o e=>base_of (KX b o e) (by
   cases q:H b with
   |none=>rfl
   |some u =>
    have e':b=a:=hA b (by rw[q];simp);subst e';rw[hK (by rw[q];simp)]at e;cases e)
  have hM:Mod K mg (Pu s₁.heap H):=⟨hKb,nsK hns,⟨mb,nsK hb,hbb⟩,let⟨mc,h1,h2⟩:=hlim;⟨mc,nsK h1,h2⟩⟩;have e0:Q9 P w K mg (Pu s₁.heap H) callerA [] s₁ H:=⟨rfl,hM,λb o e=>acF e,Nat.le_of_eq (Xd _ _),trivial,λb hb=>absurd (show b∈([] : Ε)from hb) (by simp),hok,.of_eq hg⟩;refine codeAny_mono ((F _ hKb (nsK hns)).run callerA [] s₁ H ⟨[.ref a],[]⟩ [.ref a] [.ref a] _ _ hr e0 (hbind s₁ (.ref a)) (.cons rfl .nil) (hsp H hO hS)) λr s' h=>?_;cases r with
  |error e=>exact(hCX H e s' h).elim
  |ok fl =>
   cases fl with
   |next=>exact False.elim h
   |brk=>exact False.elim h
   |cont=>exact False.elim h
   |ret u =>
    obtain⟨v,H',os,bare,un,hok',r',q⟩:=h;have q':v=.bl true:=q;subst q';obtain rfl:u=Value.bool true:=r';refine⟨rfl,OldK.of_keep λb o e=>?_,os,bare⟩;cases q:H b with
    |none=>exact un.keep b o e q (by intro z;exact absurd (show b∈([] : Ε)from z) (by simp)) (by simp)
    |some u =>
     rcases hO b with z|⟨ob,xs,z⟩
     .rw[q]at z;cases z
     .have z2:=un.frzs b ob _ z;obtain⟨e1,_⟩:=hok b _ z;obtain⟨e2,_⟩:=hok' b _ z2;rw[e]at e1;cases e1;exact e2
 cases hk:K.lookup a with
 |some o =>

  have e:=KX a o hk;rw[ha]at e;cases e;refine core (λ_=>none) (λ_=>.inl rfl) (.inr ⟨_,vs.toArray,_,hk,rfl,rfl,rfl,by rw[bh,lenV];exact hl,by simpa using rv⟩) (λb u z=>by have z':(none:Option HO)=some u:=z;cases z') (λb z=>absurd rfl z) λz=>absurd rfl z
 |none =>
  refine core (λb=>if b=a then some (.frz { cls:=.type "list",data:=.seq vs.toArray } (.lst (ns.map V.int)))else none) (λb=>?_) (.inl (.inr ⟨{ cls:=.type "list",data:=.seq vs.toArray },ZY rfl⟩)) (λb u z=>?_) (λb z=>?_) λ_=>hk
  .by_cases hb:b=a
   .exact .inr ⟨_,_,ZY hb⟩
   .exact .inl (ZZ hb)
  .by_cases hb:b=a
   .have z':=(ZY hb).symm.trans z;cases z';subst hb;exact⟨ha,by rw[ak];exact hl,vs,_,rv,ha⟩
   .have z':=(ZZ hb).symm.trans z;cases z'
  .by_cases hb:b=a
   .exact hb
   .exact absurd (ZZ hb) z
noncomputable abbrev KOf{K:Frag}{h:Heap}(_:K.In h):Frag:=K
theorem VR{l:PySem.W.OpenLaw}{n k:Nat}{q:Program}{loose:Β}{XP:(Str->Ζ)->Heap->Prop}{YP:World->Heap->Prop}{d:DefRec}{K:Params->Frag}{CX:World->CXT}{sp:World->Sp}{x:Str}
 (hn:l.most=some n)(hn2:n<=sizeLine)(hdf:d.params.defaults=[])(hr:jg k callerA)
 (hY:∀(w:World)(h:Heap),YP w h->(K w.params).In h)
 (F:∀(w:World)(mg:Str->Ζ)(fa:Addr)(h:Heap),(K w.params).In h->h.Ns mainGlobals mg->mg d.name=some (.ref fa) ->
   ∃fd:FuncData,(∀(s:Shared)(u:Value),BindsTo s fd ⟨[u],[]⟩ [(x,u)]) /\
    ∀base:Heap,(K w.params).In base->base.Ns mainGlobals mg->cJ l.prog w (K w.params) mg base (CX w) k fa fd [x] (sp w))
 (hsp:∀(w:World)(H:Hp)(a:Addr)(ns:List Int),ns.length<=n->Only H->SqL (K w.params) H a (ns.map V.int)->sp w [.ref a] H (λv _=>v=.bl true) λ_ _ _=>False)
 (hCX:∀(w:World)(H:Hp)(s:Shared)(e:Value)(s':Shared),CX w [] H s (λ_ _ _=>False) e s'->False) :
  PySem.W.WalkO q loose XP YP l.row.toRowW d [] (λf vs=>PySem.call f vs):=by
 refine Att.Td hn hdf λw s₀ s₁ mg mb fa o pm cd doc a vs ns G Y ho hd hcd hmg hobj hints hlen hg=>?_;have KX:=hY w _ Y;obtain⟨fd,hb,hF⟩:=F w mg fa _ KX G.T.g hmg;exact Zd KX G.T.g G.T.b G.T.builtins G.T.nolimit hg hobj hints (aM hlen hn2) hr hF hb (λH hO hS=>hsp w H a ns hlen hO hS) λH e s'=>hCX w H s₁ e s'
end L2

namespace L2
open PySem PySem.Spec PyProof.Rows
abbrev CX0:CXT:=λ_ _ _ _ _ _=>False
abbrev E0:XK:=λ_ _ _=>False
theorem R3{X:Cx} : Passes CX0 X E0:=λ_ _ _ _ _ _ _ h=>h.elim
structure Fun(K:Frag)(x qual:Str)(st:Stmt)(f:Addr)(fd:FuncData):Prop where
 ex:∃(oc:Value)(od:Η)(kV doc pm:Value)(an:Η)(cdv ct:Value)(osl:Array (Ζ)),
  fd=PySem.W.fnOf x qual (jN st) (iT st) (bQ st) .none kV doc pm an cdv ct/\K.lookup f=some ⟨oc,od,.func fd,osl⟩/\codeIn K cdv qual=true
 kp:keepIn K (.ref f)=true
section
variable{P:Program}{w:World}{K:Frag}{mg:Str->Ζ}{base:Heap}
theorem Fun.ok{x qual:Str}{st:Stmt}{f:Addr}{fd:FuncData}{N ps:Β}{k:Nat}{sp:Sp}(F:Fun K x qual st f fd)(S:bW N ps (bQ st))(len:∀vs H Q E,sp vs H Q E->vs.length=ps.length)
 (hbody:∀(cdv:Value)(A:Around)(outer:List Env)(s:Shared)(H:Hp)(vs:Μ)(Q:VK)(E:XK),jg k (A.deeper (envOfC qual (bQ st) s.heap.objs.size f cdv))->sp vs H Q E ->
   ∃t,PSs (Vp CX0 P w K mg base N qual (bQ st) f cdv A outer s H E).nox (iT st) t/\t { nx:=λ_ H'=>Q .non H',rt:=Q } (start N vs) H):cJ P w K mg base CX0 (k+1) f fd ps sp:=by
 obtain⟨oc,od,kV,doc,pm,an,cdv,ct,osl,rfl,lk,hcd⟩:=F.ex;refine ahn lk hcd S len λA outer s H vs Q E hr hsp=>?_;obtain⟨t,h,q⟩:=hbody cdv A outer s H vs Q E hr hsp;exact⟨t,h.nox,q⟩
theorem aaL{x qual:Str}{st:Stmt}{f:Addr}{oc:Value}{od an:Η}{osl:Array (Ζ)}{kV doc pm cdv ct:Value}(l:K.lookup f=some ⟨oc,od,.func (PySem.W.fnOf x qual (jN st) (iT st) (bQ st) .none kV doc pm an cdv ct),osl⟩)
 (c:codeIn K cdv qual=true)(k:keepIn K (.ref f)=true):Fun K x qual st f (PySem.W.fnOf x qual (jN st) (iT st) (bQ st) .none kV doc pm an cdv ct):=⟨⟨oc,od,kV,doc,pm,an,cdv,ct,osl,rfl,l,c⟩,k⟩
end
theorem zc{A:Around}{k:Nat}(hr:jg k A):A.units+1<cLine:=Y3 (Nat.add_le_add_left (by decide:1<=64) _) hr.units
section
variable{X:Cx}
noncomputable def ad8(sc:Scope)(x:Str):Bool:=(sc.names.lookup x).any λk=>k == .local || k == .cell || k == .free
theorem aew{sc:Scope}{x:Str}(h:ad8 sc x=true):Vis sc x:=by
 unfold ad8 at h;unfold Vis;cases e:sc.names.lookup x with
 |none=>rw[e]at h;cases h
 |some k=>rw[e]at h;cases k<;>first|exact .inl rfl|exact .inr (.inl rfl)|exact .inr (.inr rfl)|cases h
theorem pv(i:Nat){x:Str}{pos:Pos}(hN:X.N[i]?=some x:=by rfl)(hv:ad8 X.env.scope x=true:=by rfl)(hd:(x==("__debug__":Str))=false:=by decide)
 (hcd:(x==("__classdict__":Str))=false:=by decide):PE X (.Name x pos) (Ke i):=adC hN (aew hv) hd hcd
noncomputable def pv0:=@pv X 0
noncomputable def pv1:=@pv X 1
noncomputable def pv2:=@pv X 2
noncomputable def pv3:=@pv X 3
noncomputable def pv4:=@pv X 4
noncomputable def pv5:=@pv X 5
noncomputable def pv6:=@pv X 6
noncomputable def pv7:=@pv X 7
noncomputable def pv8:=@pv X 8
noncomputable def pv9:=@pv X 9
end
theorem pB{c A B:Prop}[Decidable c](h1:c->A)(h2:¬c->B):if c then A else B:=by
 by_cases h:c
 .rw[ZY h];exact h1 h
 .rw[ZZ h];exact h2 h
def Same(H H':Hp):Prop:=∀b o,H b=some o->H' b=some o
theorem Same.refl(H:Hp):Same H H:=λ_ _ h=>h
theorem Same.trans{H H1 H2:Hp}(a:Same H H1)(b:Same H1 H2):Same H H2:=λc o h=>b c o (a c o h)
theorem Same.free{H H':Hp}(e:Same H H'){l:Addr}(h:H' l=Option.none):H l=Option.none:=by
 cases q:H l with
 |none=>rfl
 |some o =>
  rw[e l o q]at h;cases h
def Bd(i:Int):Prop:=i.natAbs<2^8000
theorem Bd.log2{i:Int}(h:Bd i):i.natAbs.log2<8000:=by
 by_cases h0:i.natAbs=0
 .rw[h0,Nat.log2_zero];exact Nat.succ_pos _
 .exact(Nat.log2_lt h0).mpr h
theorem Bd.bits{i:Int}(h:Bd i):Builtin.Int.intBits i<=2^20:=by
 have e:(2:Nat)^20=1048576:=by decide
 have:=h.log2;unfold Builtin.Int.intBits;split
 .exact bA _
 .lia
section
variable{X:Cx}
theorem cT:OpR X (binaryOp .Mult) (rI (λi j=>Bd i/\Bd j) λi j=>.int (i*j)):=opI λ_ _ _ _ _ _ _ hc q=>mul_int q (.of_bits hc.1.bits hc.2.bits)
theorem iy:OpR X (binaryOp .FloorDiv) (rI (λ_ j=>j≠0/\Bd j) λi j=>.int (i.fdiv j)):=opI λ_ _ _ _ _ _ _ hc q=>floordiv_int hc.1 q (.inl (PyProof.noPylong_of_log2 (by have:=hc.2.log2;exact Nat.lt_trans this (by decide))))
theorem RV:iH X (.builtin "isinstance") (λxs H Q=>∃x c cv t b,xs=[x,c]/\((∃T,c=.ty T/\cv=Value.type T)\/∃C,c=.ref C/\cv=Value.ref C)/\Ed X.K H x t/\kitOne X.K t cv=some b/\Q (.bl b) H):=by
 intro pins s σ H xs us Q I r h;obtain⟨x,c,cv,t,b,rfl,rc,ty,e,q⟩:=h;obtain⟨u,v,rfl,ru,rv⟩:=r.two;have e2:v=cv:=by
  rcases rc with⟨T,rfl,rfl⟩|⟨T,rfl,rfl⟩
  .exact rv
  .exact rv
 subst e2;exact W8 I ru ty e λtk=>⟨.bl b,H,I.tok _,rfl,q⟩
theorem S8:iH X (.builtin "sorted") (λxs H Q=>∃l ns,xs=[.ref l]/\SqL X.K H l (ns.map V.int)/\ns.length<64/\∀(ms:List Int)p,H p=none->ms.Perm ns->ms.Pairwise (· <= ·)->Q (.ref p) (upd H p (.lst (ms.map V.int)))):=by
 intro pins s σ H xs us Q I r h;obtain⟨l,ns,rfl,hl,h64,q⟩:=h;obtain⟨u,rfl,ru⟩:=r.one;cases ru;obtain⟨its,rv,p,hz⟩:=I.list hl;have hI:=intsAre_of rv;have hlen:its.length=ns.length:=by have:=rv.length;simpa using this.symm
 refine sorted_ints (vs:=its) p.isList hI (Y3 (Nat.le_of_eq hlen) h64) λout ns' a1 a2 a3=>?_;obtain⟨e,he⟩:=sortedAll_at s.heap its out;have hfr:H (s.heap.objs.size+1)=none:=I.hok.fresh (Xs _);refine⟨.ref _,_,I.laid (a:=s.heap.objs.size+1) (o:=.lst (ns'.map V.int)) (t':=s.toks) (λb u e=>sortedAll_old e) (Xs _) ?_,rfl,q ns' _ hfr a2 a3⟩;refine⟨?_,out.toList,e,Ds a1,he⟩;rw[ak,a2.length_eq];rw[ak]at hz;exact hz
end
section
variable{prog:Program}{w:World}{A:Around}{E:Κ}{s:Shared}
theorem Ky{it t:Addr}{items:Array Value}(hne:t≠it):∀(n i:Nat)(s:Shared)(Q:Ξ->Shared->Prop),s.heap.IsListIter it t i->PlainL s.heap t items->i+n<=items.size ->
  (∀h',h'.IsListIter it t (i+n)->Heap.SameBut it s.heap h'->Q ((items.toList.drop i).take n) { s with heap:=h' })->wpAny (model prog w) A (draw (.ref it) n) Q E s
 |0,i,s,Q,hit,_,_,hQ=>by
  show wpAny _ _ (pure []) Q E s;exact ZT (by simpa using hQ s.heap hit (Heap.SameBut.refl ..))
 |n+1,i,s,Q,hit,ht,hle,hQ=>by
  have hlt:i<items.size:=by lia
  show wpAny _ _ (pyNext (.ref it) >>= _) Q E s;refine ZU (wpAny_pyNext_list_item hit ht.isList (x:=items[i]) (by simp[hlt]) λh₁ hit₁ hs₁=>?_);have ht₁:PlainL h₁ t items:=by
   obtain⟨o,k,e,r⟩:=ht;exact⟨o,k,(hs₁.2 t hne).trans e,r⟩
  refine ZU (wpAny_holding (Ky hne n (i+1) _ _ hit₁ ht₁ (by lia) λh₂ hit₂ hs₂=>ZT ?_));have hd:items.toList.drop i=items[i]::items.toList.drop (i+1):=by simp[List.drop_eq_getElem_cons,hlt]
  have:=hQ h₂ (by rw[show i+(n+1)=i+1+n by lia];exact hit₂) (hs₁.trans hs₂);rw[hd,List.take_succ_cons]at this;exact this
theorem DK{t:Addr}{items:Array Value}{Q:Ξ->Shared->Prop}(hh:A.handled=none)(ht:PlainL s.heap t items)
 (hQ:∀h',Heap.ExtBut s.heap.objs.size s.heap h'->Q items.toList { s with heap:=h' }):wpAny (model prog w) A (unpackItems (.ref t) items.size none) Q E s:=by
 have hlt:t≠s.heap.objs.size:=by obtain⟨o,_,ho,_⟩:=ht;exact aU (aK ho)
 unfold unpackItems;refine ZU ?_
 .unfold notIterableAtAll;refine ZU (wpAny_specialOf ht.isList.typeIs slot_list_iter.lookup ?_);refine ZT ?_;simp only[XW,if_false];refine ZU (wpAny_holding (wpAny_pyIter_list ht.isList ?_));have ht0:PlainL (s.heap.push { cls:=.type "list_iterator",data:=.fields #[.ref t,.int 0 0] }) t items:=by
   obtain⟨o,k,e,r⟩:=ht;exact⟨o,k,aH _ e,r⟩
  refine ZU (wpAny_holding (Ky hlt items.size 0 _ _ ⟨_,aZ _ rfl,rfl,rfl⟩ ht0 (by lia) λh₁ hit₁ hs₁=>?_));have hall:List.take items.size (List.drop 0 items.toList)=items.toList:=by
   rw[List.drop_zero];exact aL (by simp)
  rw[hall];rw[ZZ (by simp)];have ht₁:PlainL h₁ t items:=by
   obtain⟨o,k,e,r⟩:=ht0;exact⟨o,k,(hs₁.2 t hlt).trans e,r⟩
  refine ZU (wpAny_holding (wpAny_pyNext_list_end hh hit₁ ht₁.isList (by simp) λh₂ he₂=>?_));simp only[Option.isSome_none,XW,if_false];refine ZT (hQ h₂ λb o hb e=>he₂ b o hb (hs₁.extBut b o hb (aH _ e)))
theorem BP{env:Env}{elts:List Expr}{x1}{pos:Pos}{t:Addr}{items:Array Value}{Q:Unit->Shared->Prop}(hh:A.handled=none)(ht:PlainL s.heap t items)
 (hn:(assignEach elts env).length=items.size)(hstar:(assignEach elts env).findIdx? (·.1)=none)
 (h:∀h',Heap.ExtBut s.heap.objs.size s.heap h'->wpAny (model prog w) A (assignInOrder ((assignEach elts env).map (·.2)) items.toList) Q E { s with heap:=h' }) :
  wpAny (model prog w) A (assign (.Tuple elts x1 pos) env (.ref t)) Q E s:=by
 rw[assign_Tuple];refine ZU (wpAny_standAt ?_);unfold unpack;rw[hn,hstar];exact ZU (wpAny_holding (DK hh ht h))
end
section
variable{X:Cx}{pos:Pos}
def af6(K:Frag)(n:Nat)(t:TGs):TG:=λv σ H Q=>∃a xs,v=.ref a/\SqL K H a xs/\xs.length=n/\t xs σ H Q
theorem ab9{es:List Expr}{k:Nat}{t:TGs}{n:Nat}(hc:X.calm=true)(h:PGs X es t)
 (hn:(assignEach es X.env).length=n:=by rfl)(hst:(assignEach es X.env).findIdx? (·.1)=none:=by rfl):PG X (.Tuple es k pos) (af6 X.K n t):=by
 intro pins s σ H v u Q I r hw;obtain⟨a,xs,e1,hq,hl,hw⟩:=hw;subst e1;cases r;obtain⟨its,rv,ht,hz⟩:=I.list hq;refine BP (I.ok.hd hc) ht (by simp[hn,<- hl,rv.length]) hst λh' hx=>?_;have I1:Inv X pins σ H { s with heap:=h' }:=I.kept (t':=s.toks) λb o e=>hx b o (aU (aK e)) e;exact h pins _ σ H xs _ Q I1 (by simpa using rv) hw
end
theorem gj.btw{P:Program}{w:World}{H H2 H':Hp}{h h':Heap}{a:Addr}{o:HO}(x:gj P w H h a o)(y:gj P w H' h' a o)(s1:Same H H2):gj P w H2 h' a o:=by
 induction o with
 |ins C dx fs=>exact⟨s1 dx _ x.1,y.2⟩
 |frz ob u ih=>exact⟨y.1,ih x.2 y.2⟩
 |_=>exact y
def Plus(H H2:Hp):Prop:=Same H H2/\∀a o,H2 a=some o->H a=some o\/(∃xs,o=.tup xs)\/∃xs,o=.lst xs
theorem Plus.refl(H:Hp):Plus H H:=⟨Same.refl H,λ_ _ e=>.inl e⟩
theorem Plus.tup{H H1:Hp}{p:Addr}{xs:Μ}(h:Plus H H1)(hp:H1 p=none):Plus H (upd H1 p (.tup xs)):=by
 refine⟨λb o e=>?_,λa o e=>?_⟩
 .rw[bL (bH (h.1 b o e) hp)];exact h.1 b o e
 .by_cases z:a=p
  .subst z;rw[bG]at e;cases e;exact .inr (.inl ⟨xs,rfl⟩)
  .rw[bL z]at e;exact h.2 a o e
theorem cJ.forget{P:Program}{w:World}{K:Frag}{mg:Str->Ζ}{base:Heap}{CX:CXT}{k:Nat}{f:Addr}{fd:FuncData}{ps:Β}{sp sp':Sp}(F:cJ P w K mg base CX k f fd ps sp)
 (hs:∀vs H Q E,sp' vs H Q E->∃Q',sp vs H Q' E/\∀v H',Q' v H'->∃H2,Plus H H2/\Same H2 H'/\Q v H2):cJ P w K mg base CX k f fd ps sp':=by
 refine⟨λvs H Q E h=>?_,λA outer s H args us vs Q E hr e0 hb r h=>?_⟩
 .obtain⟨Q',h',_⟩:=hs vs H Q E h;exact F.len vs H Q' E h'
 obtain⟨Q',h',hq⟩:=hs vs H Q E h;refine codeAny_mono (F.run A outer s H args us vs _ E hr e0 hb r h') λres s' hs=>?_;cases res with
 |error e=>exact hs
 |ok fl =>
  cases fl with
  |ret u =>
   obtain⟨v,H',ho,hbr,un,hok,rv,q'⟩:=hs;obtain⟨H2,⟨s1,cl⟩,s2,q⟩:=hq v H' q';have fr:∀b,H' b=none->H2 b=none:=λb e=>s2.free e;refine⟨v,H2,ho,hbr,⟨un.keep,un.slot,λb o e n hx=>fr b (un.free b o e n hx),un.there,λb xs e=>s1 b _ e,λb o u e=>s1 b _ e,λb ps e=>⟨#[],by rw[s1 b _ e];simp⟩⟩,λa o e=>?_,rv,q⟩;have z:=hok a o (s2 a o e);rcases cl a o e with c|⟨xs,rfl⟩|⟨xs,rfl⟩
   .exact(e0.hok a o c).btw z s1
   .exact z
   .exact z
  |next=>exact hs
  |brk=>exact hs
  |cont=>exact hs
theorem cJ.clean{P:Program}{w:World}{K:Frag}{mg:Str->Ζ}{base:Heap}{CX:CXT}{k:Nat}{f:Addr}{fd:FuncData}{ps:Β}{sp sp':Sp}(F:cJ P w K mg base CX k f fd ps sp)
 (h:∀vs H Q E,sp' vs H Q E->sp vs H (λv H'=>Same H H'/\Q v H) E):cJ P w K mg base CX k f fd ps sp' :=
 F.forget λvs H Q E hs=>⟨_,h vs H Q E hs,λv H' hP=>by obtain⟨s,q⟩:=hP;exact⟨H,Plus.refl H,s,q⟩⟩
theorem Same.upd{H:Hp}{p:Addr}{o:HO}(hp:H p=none):Same H (upd H p o):=λb u e=>by
 rw[bL (bH e hp)];exact e
theorem cJ.cleanP{P:Program}{w:World}{K:Frag}{mg:Str->Ζ}{base:Heap}{CX:CXT}{k:Nat}{f:Addr}{fd:FuncData}{ps:Β}{sp sp':Sp}(F:cJ P w K mg base CX k f fd ps sp)
 (h:∀vs H Q E,sp' vs H Q E->sp vs H (λv H'=>Same H H'/\∃p xs,H' p=some (.tup xs)/\H p=none/\Q v (upd H p (.tup xs))) E):cJ P w K mg base CX k f fd ps sp' :=
 F.forget λvs H Q E hs=>⟨_,h vs H Q E hs,λv H' ⟨s,p,xs,e,z,q⟩=>by
  refine⟨_,(Plus.refl H).tup (xs:=xs) z,λb o y=>?_,q⟩;by_cases c:b=p
  .subst c;rw[bG]at y;cases y;exact e
  .rw[bL c]at y;exact s b o y⟩
section
variable{X:Cx}
theorem IxR.imp{r r':R2}(h:IxR X r)(i:∀x y H Q,r' x y H Q->r x y H Q):IxR X r':=by
 intro b pos pins s σ H x y v u Q I rx ry q hs;exact h _ _ _ _ _ _ _ _ _ _ _ I rx ry (i _ _ _ _ q) hs
def acR:R2:=λx y H Q=>∃p xs i v,x=.ref p/\y=.int i/\H p=some (.tup xs)/\atI xs i=some v/\Q v H
def Y7:R2:=λx y H Q=>∃p xs i v,x=.ref p/\y=.int i/\H p=some (.lst xs)/\atI xs i=some v/\Q v H
theorem cA:IxR X acR:=cZ.imp λx y H Q hP=>by obtain⟨p,xs,i,v,a,b,c,d⟩:=hP;exact⟨p,xs,i,v,a,b,.of c,d⟩
theorem bU:IxR X Y7:=ab0.imp λx y H Q hP=>by obtain⟨p,xs,i,v,a,b,c,d⟩:=hP;exact⟨p,xs,i,v,a,b,.of c,d⟩
theorem cY{α:Type}{x:α}{xs:List α} : atI (x::xs) 0=some x:=bY (j:=0) rfl
theorem cR{α:Type}{x y:α}{xs:List α} : atI (x::y::xs) 1=some y:=bY (j:=1) rfl
theorem iH.imp{f:Value}{r r':Μ->Hp->VK->Prop}(h:iH X f r)(i:∀xs H Q,r' xs H Q->r xs H Q):iH X f r':=λpins s σ H xs us Q I rx q=>h pins s σ H xs us Q I rx (i _ _ _ q)
def adu:Μ->Hp->VK->Prop:=λxs H Q=>∃p ys,xs=[.ref p]/\H p=some (.lst ys)/\Q (.int ys.length) H
theorem cN:iH X (.builtin "len") adu:=Cu.imp λxs H Q hP=>by obtain⟨p,ys,a,b,c⟩:=hP;exact⟨p,ys,a,.inl (.of b),c⟩
noncomputable def tyS(H:Hp):V->Option String
 |.non=>some "NoneType"
 |.bl _=>some "bool"
 |.int _=>some "int"
 |.str _=>some "str"
 |.ref a=>match H a with
  |some (.lst _)=>some "list"
  |some (.tup _)=>some "tuple"
  |some (.dK _)=>some "dict"
  |_=>none
 |_=>none
theorem adL{K:Frag}{H:Hp}{x:V}{t:String}(h:tyS H x=some t):Ed K H x (.type t):=by
 cases x with
 |non=>cases h;exact .non
 |bl=>cases h;exact .bl _
 |int=>cases h;exact .int _
 |str=>cases h;exact .str _
 |byt=>cases h
 |flt=>cases h
 |ty=>cases h
 |ref a =>
  have h:(match H a with
   |some (.lst _)=>some "list"
   |some (.tup _)=>some "tuple"
   |some (.dK _)=>some "dict"
   |_=>none)=some t:=h
  split at h
  .cases h;exact .lst (by assumption)
  .cases h;exact .tup (by assumption)
  .cases h;exact .dK (by assumption)
  .cases h
noncomputable def aaQ(t T:String):Bool:=(t==T) || (t=="bool" && T=="int")
theorem VP{K:Frag}{t T:String}(ht:t∈["NoneType","bool","int","str","list","tuple","dict"])(hT:T∈["bool","int","str","list","tuple","dict"]):kitOne K (.type t) (.type T)=some (aaQ t T):=by
 simp only[YU,List.not_mem_nil,or_false]at ht hT;rcases ht with rfl|rfl|rfl|rfl|rfl|rfl|rfl<;>rcases hT with rfl|rfl|rfl|rfl|rfl|rfl<;>with_unfolding_all rfl
theorem Yy{H:Hp}{x:V}{t:String}(h:tyS H x=some t):t∈["NoneType","bool","int","str","list","tuple","dict"]:=by
 cases x with
 |non=>cases h;decide
 |bl=>cases h;decide
 |int=>cases h;decide
 |str=>cases h;decide
 |byt=>cases h
 |flt=>cases h
 |ty=>cases h
 |ref a =>
  have h:(match H a with
   |some (.lst _)=>some "list"
   |some (.tup _)=>some "tuple"
   |some (.dK _)=>some "dict"
   |_=>none)=some t:=h
  split at h<;>cases h<;>decide
def aiI:Μ->Hp->VK->Prop:=λxs H Q=>∃x T t,xs=[x,.ty T]/\T∈["bool","int","str","list","tuple","dict"]/\tyS H x=some t/\Q (.bl (aaQ t T)) H
theorem m7:iH X (.builtin "isinstance") aiI:=RV.imp λxs H Q hP=>by obtain⟨x,T,t,a,b,c,d⟩:=hP;exact⟨x,.ty T,.type T,.type t,_,a,.inl ⟨T,rfl,rfl⟩,adL c,VP (Yy c) b,d⟩
theorem PG.imp{e:Expr}{t t':TG}(h:PG X e t)(i:∀v σ H Q,t' v σ H Q->t v σ H Q):PG X e t':=λpins s σ H v u Q I r q=>h pins s σ H v u Q I r (i _ _ _ _ q)
def ac2(n:Nat)(t:TGs):TG:=λv σ H Q=>∃a xs,v=.ref a/\H a=some (.tup xs)/\xs.length=n/\t xs σ H Q
def acZ(n:Nat)(t:TGs):TG:=λv σ H Q=>∃a xs,v=.ref a/\H a=some (.lst xs)/\xs.length=n/\t xs σ H Q
theorem gJ{es:List Expr}{k:Nat}{t:TGs}{n:Nat}{pos:Pos}(hc:X.calm=true)(h:PGs X es t)(hn:(assignEach es X.env).length=n:=by rfl)(hst:(assignEach es X.env).findIdx? (·.1)=none:=by rfl):PG X (.Tuple es k pos) (ac2 n t) :=
 (adW hc h hn hst).imp λv σ H Q hP=>by obtain⟨a,xs,e1,e2,e3⟩:=hP;exact⟨a,xs,e1,.of e2,e3⟩
theorem aa0{es:List Expr}{k:Nat}{t:TGs}{n:Nat}{pos:Pos}(hc:X.calm=true)(h:PGs X es t)(hn:(assignEach es X.env).length=n:=by rfl)(hst:(assignEach es X.env).findIdx? (·.1)=none:=by rfl):PG X (.Tuple es k pos) (acZ n t) :=
 (ab9 hc h hn hst).imp λv σ H Q hP=>by obtain⟨a,xs,e1,e2,e3⟩:=hP;exact⟨a,xs,e1,.of e2,e3⟩
def adl:Μ->Hp->VK->Prop:=λxs H Q=>∃l ns,xs=[.ref l]/\H l=some (.lst (ns.map V.int))/\ns.length<64/\∀(ms:List Int)p,H p=none->ms.Perm ns->ms.Pairwise (· <= ·)->Q (.ref p) (upd H p (.lst (ms.map V.int)))
theorem WL:iH X (.builtin "sorted") adl:=S8.imp λxs H Q hP=>by obtain⟨l,ns,a,b,c⟩:=hP;exact⟨l,ns,a,.of b,c⟩
theorem acC{H:Hp} : tyS H .non=some "NoneType":=rfl
theorem ad0{H:Hp}{b:Bool} : tyS H (.bl b)=some "bool":=rfl
theorem LK{H:Hp}{i:Int} : tyS H (.int i)=some "int":=rfl
theorem abU{H:Hp}{x:Str} : tyS H (.str x)=some "str":=rfl
theorem NZ{H:Hp}{p:Addr}{xs:Μ}(h:H p=some (.lst xs)):tyS H (.ref p)=some "list":=by
 show(match H p with
   |some (.lst _)=>some "list"
   |some (.tup _)=>some "tuple"
   |some (.dK _)=>some "dict"
   |_=>none)=_
 rw[h]
noncomputable def ad3:V->Option Bool
 |.bl b=>some b
 |.int i=>some (i != 0)
 |.non=>some false
 |_=>none
theorem abp{K:Frag}{x:V}{H:Hp}{k:Bool}(h:ad3 x=some k):afS K x H k:=by
 cases x<;>cases h<;>rfl
def ais(ta:TE):TT:=λσ H Q=>ta σ H λx H'=>∃k,ad3 x=some k/\Q k H'
theorem fj{a:Expr}{ta:TE}(ha:PE X a ta)(he:∀whole,isTrue a X.env whole=(do let v <- whole;standAt a.pos;holding [v] (truthy v)):=by exact λ_=>rfl):PT X a (ais ta):=by
 intro pins s σ H Q I h;exact isTrue_plain (thn (ha pins s σ H _ I h) λv s1 hP=>by obtain⟨x,H1,I1,r1,k,e,q1⟩:=hP;exact aez pins s1 σ H1 x v Q I1 r1 ⟨k,abp e,q1⟩) (he _)
end
section
variable{X:Cx}{st:Stmt}{rest:List Stmt}{t u:TS}
def ajI(t u:TS):TS:=λD σ H=>∃Mid:St->Hp->Prop,t { D with nx:=Mid } σ H/\∀σ' H',Mid σ' H'->u D σ' H'
theorem abj(h1:PS X st t)(h2:PSs X rest u):PSs X (st::rest) (ajI t u):=by
 intro pins s σ H D I h;obtain⟨Mid,ha,hb⟩:=h;refine wpAny_execs_cons (thn (h1 pins s σ H { D with nx:=Mid } I ha) λf s1 q=>?_);cases f with
 |next =>
  obtain⟨σ',H',I',q⟩:=q;exact h2 pins s1 σ' H' D I' (hb σ' H' q)
 |ret v=>exact q
 |brk=>exact q
 |cont=>exact q
end
def OkF(P:Program)(w:World)(K:Frag)(mg:Str->Ζ)(base:Heap)(k:Nat)(x:Str)(ps:Β)(sp:Sp):Prop :=
 ∃f fd,cJ P w K mg base CX0 k f fd ps sp/\Binds K fd ps []/\mg x=some (.ref f)/\keepIn K (.ref f)=true
def dB(K:Frag)(mg:Str->Ζ)(x:Str)(st:Stmt)(ps:Β):Prop :=
 ∃f fd,Fun K x x st f fd/\(∀us:Ξ,us.length=ps.length->bindArgs fd ⟨us,[]⟩=pure (ps.zip us))/\mg x=some (.ref f)
theorem dB.ok{P:Program}{w:World}{K:Frag}{mg:Str->Ζ}{base:Heap}{k:Nat}{x:Str}{st:Stmt}{ps:Β}{sp:Sp}(h:dB K mg x st ps)
 (hf:∀f fd,Fun K x x st f fd->cJ P w K mg base CX0 k f fd ps sp):OkF P w K mg base k x ps sp:=by
 obtain⟨f,fd,a,b,c⟩:=h;exact⟨f,fd,hf f fd a,.all b,c,a.kp⟩
theorem ab6{K:Frag}{h:Heap}{mg:Str->Ζ}{x:Str}{st:Stmt}{ps:Β}{f:Addr}{oc:Value}{od an:Η}{osl:Array (Ζ)}{kV doc pm cdv ct:Value}(X:K.In h)(G:h.Ns mainGlobals mg)
 (a:nsIn K mainGlobals x=some (some (.ref f)))(l:K.lookup f=some ⟨oc,od,.func (PySem.W.fnOf x x (jN st) (iT st) (bQ st) .none kV doc pm an cdv ct),osl⟩)
 (c:codeIn K cdv x=true)(k:keepIn K (.ref f)=true)
 (hb:∀(kV doc pm:Value)(an:Η)(cdv ct:Value)(us:Ξ),us.length=ps.length->bindArgs (PySem.W.fnOf x x (jN st) (iT st) (bQ st) .none kV doc pm an cdv ct) ⟨us,[]⟩=pure (ps.zip us)):dB K mg x st ps :=
 ⟨f,_,aaL l c k,hb kV doc pm an cdv ct,mg_of X G a⟩
def Wy(K:Frag):Sp:=λvs H Q _=>∃(a:Addr)(ns:List Int),vs=[.ref a]/\SqL K H a (ns.map V.int)/\ns.length<=63/\Only H/\∀H',Q (.bl true) H'
theorem aio{l:PySem.W.OpenLaw}{k:Nat}{x:Str}{q:Program}{loose:Β}{XP:(Str->Ζ)->Heap->Prop}{YP:World->Heap->Prop}{d:DefRec}{K:Params->Frag}(hn:l.most=some 63)(hdf:d.params.defaults=[])
 (hr:jg k callerA)(hY:∀(w:World)(h:Heap),YP w h->(K w.params).In h)
 (F:∀(w:World)(mg:Str->Ζ)(fa:Addr)(h:Heap),(K w.params).In h->h.Ns mainGlobals mg->mg d.name=some (.ref fa) ->
   ∃st,dB (K w.params) mg d.name st [x]/\∀(base:Heap)(f:Addr)(fd:FuncData),Fun (K w.params) d.name d.name st f fd->cJ l.prog w (K w.params) mg base CX0 k f fd [x] (Wy (K w.params))) :
  PySem.W.WalkO q loose XP YP l.row.toRowW d [] (λf vs=>PySem.call f vs):=by
 refine L2.VR (n:=63) (k:=k) (x:=x) (CX:=λ_=>CX0) (sp:=λw=>Wy (K w.params)) hn (by decide) hdf hr hY (λw mg fa h KX G hmg=>?_) (λ_ _ a ns hl hO hS=>⟨a,ns,rfl,hS,hl,hO,λ_=>rfl⟩) λ_ _ _ _ _ z=>z;obtain⟨st,⟨f,fd,hf,hb,hm⟩,ok⟩:=F w mg fa h KX G hmg;rw[hm]at hmg;have e:f=fa:=by injection hmg with z;injection z
 subst e;exact⟨fd,λs u=>.of_eq (hb [u] rfl),λbase _ _=>ok base f fd hf⟩
section
variable{X:Cx}{p pos:Pos}{e:Expr}{es:List Expr}{t:TA}{x:Str}{k:Nat}{ps:Β}{sp:Sp}
def Hl(sp:Sp)(t:TA):TE:=λσ H Q=>t σ H λvs H1=>sp vs H1 Q E0
theorem bR(G:OkF X.prog X.w X.K X.mg X.base k x ps sp)(hr:jg k X.A)(ha:PA X (e::es) t)(hg:Gl X x:=by rfl)(hdb:(x==("__debug__":Str))=false:=by decide)
 (he:starEach (e::es) X.env=(false,eval e X.env)::starEach es X.env:=by rfl)(hpl:(backTo pos (starEach es X.env)).any (·.1)=false:=by rfl):PE X (.Call (.Name x p) (e::es) [] pos) (Hl sp t):=by
 obtain⟨f,fd,F,b,hm,kp⟩:=G;intro pins s σ H Q I h;refine acE F hr hg hm kp b .nil R3 ha hdb he hpl pins s σ H Q I ?_;show t σ H λvs H1=>sp (vs++[]) H1 Q E0;simp only[List.append_nil];exact h
end
theorem Mx(a:Int):(if a<0 then -a else a)=((a.natAbs:Nat):Int):=by split<;>omega
theorem aaP{ms:List Int}{x y:Int}(h:ms.Perm [x,y]):ms=[x,y]\/ms=[y,x]:=by
 match ms,h.length_eq with
 |[l,k],_ =>
  have h1:l∈[x,y]:=h.mem_iff.mp (by simp);simp only[YU,List.not_mem_nil,or_false]at h1;rcases h1 with rfl|rfl
  .have h2:=(List.perm_cons l).mp h;have h3:=h2.mem_iff.mp (aP);simp only[YU,List.not_mem_nil,or_false]at h3;exact .inl (by rw[h3])
  .have h2:=(List.perm_cons l).mp (h.trans (List.Perm.swap ..));have h3:=h2.mem_iff.mp (aP);simp only[YU,List.not_mem_nil,or_false]at h3;exact .inr (by rw[h3])
theorem BX(a b:Nat):Int.fmod (a:Int) (b:Int)=((a%b:Nat):Int):=by
 rw[aY _ (Wp b)];rfl
theorem jr(a:Int){b:Int}(h:0<b):Int.fdiv a b=a/b:=Int.fdiv_eq_ediv_of_nonneg a (XY h)
theorem Bd.div{a b:Int}(h:Bd a)(hb:0<b):Bd (a/b):=by
 unfold Bd at *;refine Y3 ?_ h;have e:=Int.mul_ediv_add_emod a b;have r0:=Z3 a (show b≠0 by exact Int.ne_of_gt hb);have r1:=YY a hb;generalize a/b=q at *;generalize a%b=r at *;rcases(by lia:q=0\/1<=q\/q <= -1)with z|z|z
 .subst z;simp
 .have:=Int.mul_le_mul_of_nonneg_right (show 1<=b by lia) (show 0<=q by lia);lia
 .have h1:b*(q+1)<=1*(q+1):=Int.mul_le_mul_of_nonpos_right (show 1<=b by lia) (show q+1<=0 by lia);rw[Int.mul_add]at h1;omega
abbrev bmV:Ξ:=[.type "ValueError",.type "Exception",.type "BaseException",.type "object"]
def akj(K:Frag)(C:Addr):Prop:=excIn K C bmV "ValueError.__new__"=true
noncomputable def XO(a C:Addr)(d:Η):HO:=.ext λh=>∃o,h.get? a=some o/\o.cls=.ref C/\o.dict=d/\∃vs,o.data=.fields vs
section
variable{X:Cx}{pos hpos np:Pos}{body suite:List Stmt}{b₀:Stmt}{n Dn:Str}{D:Addr}{i:Nat}{tb:(Value->Η->L2.St->Hp->Prop)->TS}{th:TS}
noncomputable def Ends.unset(R:Ends)(i:Nat):Ends:={ nx:=λσ H=>R.nx (σ.set i none) H,rt:=R.rt,bk:=λσ H=>R.bk (σ.set i none) H,ct:=λσ H=>R.ct (σ.set i none) H }
def aj3(K:Frag)(D:Addr)(i:Nat)(tb:(Value->Η->L2.St->Hp->Prop)->TS)(th:TS):TS:=λR σ H =>
 ∃Ex:Value->Η->L2.St->Hp->Prop,tb Ex R σ H/\∀C' d σ' H',Ex C' d σ' H'->∃C,C'=.ref C/\mroIn K C (.ref D)=some true /\
  ∀a,H' a=none->th (R.unset i) (σ'.set i (some (.ref a))) (upd H' a (XO a C d))
end
noncomputable def uX(cells:List (Str×Addr)):List (Str×NameKind)->List (Str×Addr)->List (Str×Addr)
 |[],acc=>acc
 |(n,k)::r,acc=>uX cells r (if k == .free then(n,(cells.lookup n).getD 0)::acc else acc)
theorem Vb{scope:Scope}{env:Env}(h:∀y∈scope.names,y.2=.free->∃c,env.cells.lookup y.1=some c):closureFor scope env=pure (uX env.cells scope.names []):=by
 unfold closureFor;have go:∀(l:List (Str×NameKind))(acc:List (Str×Addr)),(∀y∈l,y.2=.free->∃c,env.cells.lookup y.1=some c) ->
   (forIn l acc (λ(x:Str×NameKind)(r:List (Str×Addr))=>if(x.2==NameKind.free)=true then(do let a <- cellOf env x.1;pure (ForInStep.yield ((x.1,a)::r)))else pure (ForInStep.yield r)):Sem (List (Str×Addr)))=pure (uX env.cells l acc):=by
  intro l
  induction l with
  |nil=>intro acc _;rfl
  |cons y r ih =>
   intro acc hy;obtain⟨n,k⟩:=y;rw[List.forIn_cons];by_cases hk:k=.free
   .subst hk;obtain⟨c,hc⟩:=hy (n,.free) aP rfl;have e1:cellOf env n=pure c:=by unfold cellOf;rw[show env.cells.lookup n=some c from hc]
    simp only[beq_self_eq_true,if_true,e1,pure_bind];rw[ih _ λz hz=>hy z (aJ _ hz)];show pure _=pure (uX env.cells r (if(NameKind.free==NameKind.free)=true then(n,(env.cells.lookup n).getD 0)::acc else acc));rw[show env.cells.lookup n=some c from hc]
    rfl
   .have hb:(k==NameKind.free)=false:=by simpa using hk
    simp only[hb,XW,if_false,pure_bind];rw[ih _ λz hz=>hy z (aJ _ hz)];show pure _=pure (uX env.cells r (if(k==NameKind.free)=true then(n,(env.cells.lookup n).getD 0)::acc else acc));rw[hb]
    rfl
 have e:=go scope.names [] h;show(forIn scope.names [] (λ(x:Str×NameKind)(r:List (Str×Addr))=>if(x.2==NameKind.free)=true then(do let a <- cellOf env x.1;pure (ForInStep.yield ((x.1,a)::r)))else pure (ForInStep.yield r)):Sem (List (Str×Addr))) >>= (λcs=>pure cs)=_;rw[e]
 rfl
theorem RG{cells:List (Str×Addr)} : ∀{names:List (Str×NameKind)}{acc:List (Str×Addr)}{x:Str}{c:Addr},(∀y∈names,y.2=.free->∃c,cells.lookup y.1=some c)->(x,c)∈uX cells names acc->(x,c)∈acc\/cells.lookup x=some c
 |[],_,_,_,_,h=>.inl h
 |(n,k)::r,acc,x,c,hf,h=>by
  unfold uX at h;rcases RG (λy hy=>hf y (aJ _ hy)) h with z|z
  .by_cases hk:k=.free
   .subst hk;simp only[beq_self_eq_true,if_true]at z;rcases YU.mp z with e|e
    .obtain⟨c',hc'⟩:=hf (n,.free) aP rfl;cases e;rw[show cells.lookup n=some c' from hc'];exact .inr rfl
    .exact .inl e
   .have hb:(k==NameKind.free)=false:=by simpa using hk
    simp only[hb,XW,if_false]at z;exact .inl z
  .exact .inr z
theorem Qx{cells:List (Str×Addr)} : ∀{names:List (Str×NameKind)}{acc:List (Str×Addr)}{x:Str},((x,NameKind.free)∈names\/∃c,(x,c)∈acc)->∃c,(x,c)∈uX cells names acc
 |[],_,_,h=>by
  rcases h with h|h
  .cases h
  .exact h
 |(n,k)::r,acc,x,h=>by
  unfold uX;refine Qx ?_;rcases h with h|⟨c,h⟩
  .rcases YU.mp h with e|e
   .cases e;exact .inr ⟨_,by simp only[beq_self_eq_true,if_true];exact aP⟩
   .exact .inl e
  .refine .inr ⟨c,?_⟩;split
   .exact aJ _ h
   .exact h
theorem qF{α:Type}{x:Str}{c:α} : ∀{l:List (Str×α)},(x,c)∈l->∃c',l.lookup x=some c'
 |(y,d)::r,h=>by
  rw[List.lookup_cons];cases hb:x==y with
  |true=>exact⟨d,rfl⟩
  |false =>
   rcases YU.mp h with e|e
   .cases e;simp at hb
   .exact qF e
section
variable{X:Cx}{elt iter:Expr}{x:Str}{px pos:Pos}{scope:Scope}{wi:TI}{te:TE}
theorem Inv.nostk'{pins:Ω}{σ:L2.St}{H:Hp}{s:Shared}(I:Inv X pins σ H s){b:Addr}(h1:b≠X.env.locals)(h2:b∉X.fs):b∉frs X.stack:=λz=>by
 rcases YU.mp (I.stkSub b z)with e|e
 .exact h1 e
 .exact h2 e
theorem Bw{env:Env} : ∀{names:List (Str×NameKind)}{y:Str},(names.map λ(n,k)=>if(k==NameKind.free&&env.scope.kind == .function&&env.kindOf n==some .cell)then(n,NameKind.cell)else(n,k)).lookup y=some .cell \/
  (names.map λ(n,k)=>if(k==NameKind.free&&env.scope.kind == .function&&env.kindOf n==some .cell)then(n,NameKind.cell)else(n,k)).lookup y=some .free->(∀z∈names,z.2≠.cell)->(y,NameKind.free)∈names
 |[],y,h,_=>by rcases h with h|h<;>cases h
 |(n,k)::r,y,h,hc=>by
  have ih:=@Bw env r y;simp only[List.map_cons]at h;by_cases hcond:(k==NameKind.free&&env.scope.kind == .function&&env.kindOf n==some .cell)=true
  .rw[ZY hcond]at h;simp only[List.lookup_cons]at h;cases hb:y==n with
   |true =>
    have hk:k=.free:=by
     simp only[Bool.and_eq_true,beq_iff_eq]at hcond;exact hcond.1.1
    have:y=n:=by simpa using hb
    subst this hk;exact aP
   |false =>
    rw[hb]at h;exact aJ _ (ih h λz hz=>hc z (aJ _ hz))
  .rw[ZZ hcond]at h;simp only[List.lookup_cons]at h;cases hb:y==n with
   |true =>
    rw[hb]at h;have:y=n:=by simpa using hb
    subst this;rcases h with h|h
    .exact absurd (Option.some.inj h) (hc (y,k) aP)
    .have:k=.free:=Option.some.inj h;subst this;exact aP
   |false =>
    rw[hb]at h;exact aJ _ (ih h λz hz=>hc z (aJ _ hz))
end
section
variable{X:Cx}
def eqF:Μ->Μ->Bool
 |[],[]=>true
 |x::xs,y::ys=>eqV x y&&eqF xs ys
 |_,_=>false
def eqH(H:Hp)(x y:V):Option Bool :=
 match x,y with
 |.ref a,.ref b=>match H a,H b with
  |some (.tup xs),some (.tup ys)=>if xs.all KQ&&ys.all KQ then some (eqF xs ys)else none
  |some (.lst xs),some (.lst ys)=>if xs.all KQ&&ys.all KQ then some (eqF xs ys)else none
  |some (.lst _),some (.tup _)=>some false
  |some (.tup _),some (.lst _)=>some false
  |_,_=>none
 |.ref a,y=>if KQ y then(match H a with
  |some (.tup _)=>some false
  |some (.lst _)=>some false
  |_=>none)else none
 |x,.ref b=>if KQ x then(match H b with
  |some (.tup _)=>some false
  |some (.lst _)=>some false
  |_=>none)else none
 |x,y=>if wH x y then some (decide (x=y))else none
theorem Inv.tupIs{pins:Ω}{σ:L2.St}{H:Hp}{s:Shared}{a:Addr}{xs:Μ}(I:Inv X pins σ H s)(h:H a=some (.tup xs)):∃its,Vals xs its/\IsTup s.heap a its.toArray/\s.heap.IsTuple a its.toArray:=by
 obtain⟨its,rv,ht,_⟩:=I.tuple (SqT.of h);exact⟨its,rv,ht,ht⟩
theorem Inv.lstIs{pins:Ω}{σ:L2.St}{H:Hp}{s:Shared}{a:Addr}{xs:Μ}(I:Inv X pins σ H s)(h:H a=some (.lst xs)):∃its,Vals xs its/\s.heap.IsList a its.toArray:=by
 obtain⟨its,rv,ht,_⟩:=I.list (SqL.of h);exact⟨its,rv,ht.isList⟩
def IsX(H:Hp)(a C:Addr):Prop:=∃d,H a=some (XO a C d)
end
open PySem.SeqAt in
section
variable{X:Cx}
structure PEB(X:Cx)(e:Expr)(t:TE):Prop where
 out:PE X e t
structure PAB(X:Cx)(es:List Expr)(t:TA):Prop where
 out:PA X es t
structure PSB(X:Cx)(st:Stmt)(t:TS):Prop where
 out:PS X st t
structure acq(X:Cx)(b:List Stmt)(t:TS):Prop where
 out:PSs X b t
theorem yL{i j pos} : PEB X (.Constant (.int i) j pos) (tC (.int i)):=⟨bK⟩
theorem ach{es:List Expr}{t:TA}{pos:Pos}(h:PAB X es t):PEB X (.List es pos) (aeB t):=⟨jw h.out⟩
theorem abN:PAB X [] Fd:=⟨oW⟩
theorem Kr{c:Const}{k:Nat}{p:Pos}{es:List Expr}{te:TE}{t:TA}(ha:PEB X (.Constant c k p) te)(hr:PAB X es t):PAB X (.Constant c k p::es) (Ks te t):=⟨bF ha.out hr.out rfl⟩
theorem abF{i:Nat}{x:Str}{e:Expr}{te:TE}{pos pos':Pos}(hN:X.N.Nodup)(hi:X.N[i]?=some x)(hx:Loc X.env.scope x)(he:PEB X e te)(hs:swapsWith e (some (.Name x pos')) pos.line X.env=pure false:=by rfl)(hf:X.fn x=true\/X.env.scope.names.lookup x=some .local:=by first|exact .inl rfl|exact .inr rfl|assumption) :
  PSB X (.Assign [.Name x pos'] e pos) (Ry te (cQ i)):=⟨bZ (hN:=hN) (hi:=hi) (hx:=hx) (he:=he.out) (hs:=hs) (hf:=hf)⟩
theorem f9{st:Stmt}{rest:List Stmt}{t u:TS}(h1:PSB X st t)(h2:acq X rest u):acq X (st::rest) (ur t u):=⟨bI h1.out h2.out⟩
end
section
variable{P:Program}{w:World}{K:Frag}{mg:Str->Ζ}{base:Heap}
theorem Fun.okB{x qual:Str}{st:Stmt}{f:Addr}{fd:FuncData}{N ps:Β}{k:Nat}{sp:Sp}(F:Fun K x qual st f fd)(S:bW N ps (bQ st))(len:∀vs H Q E,sp vs H Q E->vs.length=ps.length)
 (hbody:∀(cdv:Value)(A:Around)(outer:List Env)(s:Shared)(H:Hp)(vs:Μ)(Q:VK)(E:XK),jg k (A.deeper (envOfC qual (bQ st) s.heap.objs.size f cdv))->sp vs H Q E ->
   ∃t,acq (Vp CX0 P w K mg base N qual (bQ st) f cdv A outer s H E).nox (iT st) t/\t { nx:=λ_ H'=>Q .non H',rt:=Q } (L2.start N vs) H):cJ P w K mg base CX0 (k+1) f fd ps sp :=
 F.ok S len λcdv A outer s H vs Q E hr hsp=>let⟨t,h1,h2⟩:=hbody cdv A outer s H vs Q E hr hsp;⟨t,h1.out,h2⟩
end
mutual
inductive Shows(H:Hp):V->PyData->Prop
 |non:Shows H .non .none
 |bl (b:Bool):Shows H (.bl b) (.bool b)
 |int (i:Int):Shows H (.int i) (.int i)
 |str (x:Str):Shows H (.str x) (.str x)
 |lst {a:Addr}{xs:Μ}{ds:List PyData} : H a=some (.lst xs)->gF H xs ds->Shows H (.ref a) (.list ds)
 |tup {a:Addr}{xs:Μ}{ds:List PyData} : H a=some (.tup xs)->gF H xs ds->Shows H (.ref a) (.tuple ds)
inductive gF(H:Hp):Μ->List PyData->Prop
 |nil:gF H [] []
 |cons {x:V}{xs:Μ}{d:PyData}{ds:List PyData} : Shows H x d->gF H xs ds->gF H (x::xs) (d::ds)
end
mutual
theorem Shows.same{H H':Hp}(S:Same H H'):∀{x:V}{d:PyData},Shows H x d->Shows H' x d
 |_,_,.non=>.non
 |_,_,.bl b=>.bl b
 |_,_,.int i=>.int i
 |_,_,.str x=>.str x
 |_,_,.lst e h=>.lst (S _ _ e) (gF.same S h)
 |_,_,.tup e h=>.tup (S _ _ e) (gF.same S h)
theorem gF.same{H H':Hp}(S:Same H H'):∀{xs:Μ}{ds:List PyData},gF H xs ds->gF H' xs ds
 |_,_,.nil=>.nil
 |_,_,.cons h t=>.cons (Shows.same S h) (gF.same S t)
end
theorem gF.ints(H:Hp):∀ns:List Int,gF H (ns.map V.int) (ns.map PyData.int)
 |[]=>.nil
 |n::ns=>.cons (.int n) (gF.ints H ns)
section
variable{X:Cx}{pins:Ω}{σ:L2.St}{H:Hp}{s:Shared}
mutual
theorem Inv.reads(I:Inv X pins σ H s):∀{x:V}{d:PyData}{v:Value},Shows H x d->RelV x v->∃as,Reads s.heap v d as
 |_,_,_,.non,r=>by cases r;exact⟨_,.none⟩
 |_,_,_,.bl b,r=>by cases r;exact⟨_,.bool b⟩
 |_,_,_,.int i,r=>by obtain⟨t,rfl⟩:=r;exact⟨_,.int i t⟩
 |_,_,_,.str x,r=>by obtain⟨t,rfl⟩:=r;exact⟨_,.str x t⟩
 |_,_,_,.lst e h,r=>by
  cases r;obtain⟨its,rv,⟨o,ho,hc,n,hd⟩⟩:=I.lstIs e;obtain⟨as,q⟩:=Inv.readsAll I h rv;exact⟨_,.list ho hc hd q⟩
 |_,_,_,.tup e h,r=>by
  cases r;obtain⟨its,rv,_,⟨o,ho,hc,n,hd⟩⟩:=I.tupIs e;obtain⟨as,q⟩:=Inv.readsAll I h rv;exact⟨_,.tuple ho hc hd q⟩
theorem Inv.readsAll(I:Inv X pins σ H s):∀{xs:Μ}{ds:List PyData}{vs:Ξ},gF H xs ds->Vals xs vs->∃as,ReadsAll s.heap vs ds as
 |_,_,_,.nil,r=>by cases r;exact⟨_,.nil⟩
 |_,_,_,.cons h t,r=>by
  cases r with
  |cons r1 r2 =>
   obtain⟨a,q1⟩:=Inv.reads I h r1;obtain⟨b,q2⟩:=Inv.readsAll I t r2;exact⟨_,.cons q1 q2⟩
end
def ac5:Μ->Hp->VK->Prop:=λxs H Q=>∃(l:Addr)(ns:List Int),xs=[.ref l]/\H l=some (.lst (ns.map V.int))/\Q (.int ns.sum) H
theorem KD(hc:X.calm=true):iH X (.builtin "sum") ac5:=by
 intro pins s σ H xs us Q I r h;obtain⟨l,ns,rfl,hl,q⟩:=h;obtain⟨u,rfl,ru⟩:=r.one;cases ru;obtain⟨its,rv,p⟩:=I.lstIs hl;have hI:=intsAre_of rv;obtain⟨xs,e⟩:=hI.allInts.items;have hn:=hI.numsOf;rw[show its=its.toArray.toList from rfl,e,nums_intItems]at hn;rw[e]at p;refine sum_intListG (I.ok.hd hc) p λh' tk t' k=>⟨.int ns.sum,H,I.kept k,?_,q⟩;rw[preSum_eq,aL (by simp),hn];exact⟨_,rfl⟩
end
section
variable{K:Frag}{tl:TE}{ta:TA}{g:TG}{tb:TS}{D:Ends}{σ:L2.St}{H:Hp}
theorem W7(h:tl σ H λx H1=>∃a xs,x=.ref a/\H1 a=some (.lst xs)/\∃J:Nat->L2.St->Hp->Prop,J 0 σ H1 /\
   (∀k x σ' H',xs[k]?=some x->J k σ' H'->H' a=some (.lst xs)->g x σ' H' λσ2 H2=>tb { D with nx:=λσ3 H3=>H3 a=some (.lst xs)/\J (k+1) σ3 H3,ct:=λσ3 H3=>H3 a=some (.lst xs)/\J (k+1) σ3 H3,bk:=D.nx } σ2 H2) /\
   ∀σ' H',J xs.length σ' H'->H' a=some (.lst xs)->D.nx σ' H')(hm:∀(P Q:V->Hp->Prop),(∀x H',P x H'->Q x H')->tl σ H P->tl σ H Q):RQ (CG K tl) g tb D σ H:=by
 refine hm _ _ ?_ h;rintro x H1 ⟨a,xs,rfl,hx,J,j0,step,fin⟩;refine⟨a,rfl,⟨xs,.of hx⟩,λk m σ' H'=>k<=xs.length/\m=xs.length-k/\H' a=some (.lst xs)/\J k σ' H',⟨_,bA _,rfl,hx,j0⟩,?_⟩;rintro k m σ' H' ⟨hk,rfl,hx',j⟩;by_cases e:k=xs.length
 .subst e;exact .inl ⟨⟨xs,.of hx',aG _⟩,fin σ' H' j hx'⟩
 .have hlt:k<xs.length:=by exact XX hk e
  have e1:xs[k]?=some xs[k]:=aj hlt;refine .inr ⟨⟨xs,_,.of hx',e1⟩,λσ3 H3=>H3 a=some (.lst xs)/\J (k+1) σ3 H3,λσ3 H3 ⟨z1,z2⟩=>⟨xs.length-(k+1),by omega,by exact hlt,rfl,z1,z2⟩,?_⟩;rintro x H'' ⟨rfl,y⟩;exact step k x σ' H'' (y xs (.of hx')) j hx'
theorem WQ(h:ta σ H λvs H1=>∃n:Nat,vs=[.int n]/\n<2^61/\∃J:Nat->L2.St->Hp->Prop,J 0 σ H1 /\
   (∀(k:Nat)σ' H',k<n->J k σ' H'->g (.int k) σ' H' λσ2 H2=>tb { D with nx:=J (k+1),ct:=J (k+1),bk:=D.nx } σ2 H2)/\∀σ' H',J n σ' H'->D.nx σ' H')
 (hm:∀(P Q:Μ->Hp->Prop),(∀x H',P x H'->Q x H')->ta σ H P->ta σ H Q):RQ (Ql ta) g tb D σ H:=by
 refine hm _ _ ?_ h;rintro x H1 ⟨n,rfl,hn,J,j0,step,fin⟩;refine⟨n,rfl,by lia,by lia,?_⟩;rw[Int.toNat_natCast];refine⟨λk m σ' H'=>k<=n/\m=n-k/\J k σ' H',⟨_,bA _,rfl,j0⟩,?_⟩;rintro k m σ' H' ⟨hk,rfl,j⟩;by_cases e:k=n
 .subst e;exact .inl ⟨aG _,fin σ' H' j⟩
 .have hlt:k<n:=by exact XX hk e
  refine .inr ⟨hlt,J (k+1),λσ3 H3 z=>⟨n-(k+1),by omega,by exact hlt,rfl,z⟩,?_⟩;rintro x H'' ⟨rfl,rfl⟩;rw[Int.zero_add];exact step k σ' H'' hlt j
end
section
variable{X:Cx}
def tM(t:TE):TE:=λσ H Q=>∃R:VK,t σ H R/\∀x H',R x H'->Q x H'
def tMA(t:TA):TA:=λσ H Q=>∃R:Μ->Hp->Prop,t σ H R/\∀x H',R x H'->Q x H'
theorem PE.mono{a:Expr}{t:TE}(h:PE X a t):PE X a (tM t):=λpins s σ H Q I ⟨R,h1,h2⟩ =>
 thn (h pins s σ H R I h1) λv s' hP=>by obtain⟨x,H',I',r,q⟩:=hP;exact⟨x,H',I',r,h2 x H' q⟩
theorem PA.mono{es:List Expr}{t:TA}(h:PA X es t):PA X es (tMA t):=λpos pins s σ H Q I ⟨R,h1,h2⟩ =>
 thn (h pos pins s σ H R I h1) λv s' hP=>by obtain⟨x,H',I',r,q⟩:=hP;exact⟨x,H',I',r,h2 x H' q⟩
theorem PE.imp{a:Expr}{t t':TE}(h:PE X a t)(i:∀σ H Q,t' σ H Q->t σ H Q):PE X a t':=λpins s σ H Q I q=>h pins s σ H Q I (i σ H Q q)
theorem adf{t:TE}{σ:L2.St}{H:Hp}{Q:VK}(h:t σ H Q):tM t σ H Q:=⟨Q,h,λ_ _ q=>q⟩
theorem eN{K:Frag}{tl:TE}{g:TG}{tb:TS}{D:Ends}{σ:L2.St}{H:Hp}(h:tl σ H λx H1=>∃a xs,x=.ref a/\H1 a=some (.lst xs)/\∃J:Nat->L2.St->Hp->Prop,J 0 σ H1 /\
   (∀k x σ' H',xs[k]?=some x->J k σ' H'->H' a=some (.lst xs)->g x σ' H' λσ2 H2=>tb { D with nx:=λσ3 H3=>H3 a=some (.lst xs)/\J (k+1) σ3 H3,ct:=λσ3 H3=>H3 a=some (.lst xs)/\J (k+1) σ3 H3,bk:=D.nx } σ2 H2) /\
   ∀σ' H',J xs.length σ' H'->H' a=some (.lst xs)->D.nx σ' H'):RQ (CG K (tM tl)) g tb D σ H :=
 W7 (adf h) λ_ _ i hP=>by obtain⟨R,a,b⟩:=hP;exact⟨R,a,λx H' q=>i x H' (b x H' q)⟩
theorem qz{ta:TA}{g:TG}{tb:TS}{D:Ends}{σ:L2.St}{H:Hp}(h:ta σ H λvs H1=>∃n:Nat,vs=[.int n]/\n<2^61/\∃J:Nat->L2.St->Hp->Prop,J 0 σ H1 /\
   (∀(k:Nat)σ' H',k<n->J k σ' H'->g (.int k) σ' H' λσ2 H2=>tb { D with nx:=J (k+1),ct:=J (k+1),bk:=D.nx } σ2 H2)/\∀σ' H',J n σ' H'->D.nx σ' H'):RQ (Ql (tMA ta)) g tb D σ H :=
 WQ (ta:=tMA ta) ⟨_,h,λ_ _ q=>q⟩ λ_ _ i hP=>by obtain⟨R,a,b⟩:=hP;exact⟨R,a,λx H' q=>i x H' (b x H' q)⟩
def agE(to:TE)(t:TA):TE:=λσ H Q=>to σ H λx H1=>∃l xs,x=.ref l/\H1 l=some (.lst xs)/\t σ H1 λvs H2=>∃y ys,vs=[y]/\H2 l=some (.lst ys)/\ys.length<sizeLine/\Q .non (upd H2 l (.lst (ys++[y])))
theorem su{o e:Expr}{to:TE}{t:TA}{apos cpos:Pos}(ho:PE X o to)(ha:PA X [e] t)(hb:attributeBase o "append" X.env (eval o X.env)=eval o X.env:=by rfl)
 (hf:((backTo cpos (starEach [e] X.env)).all (λx=>!x.1)&&(backToKw cpos (keywordEach [] X.env)).all (λx=>x.1.isSome)&&decide ([e].length+([] : List Keyword).length+(if([] : List Keyword).isEmpty then 0 else 1)<30))=true:=by rfl)
 (hl:(apos.endLine==cpos.line)=true:=by rfl)(hs:starEach [e] X.env=(false,eval e X.env)::starEach [] X.env:=by rfl)(hp:(backTo cpos (starEach [] X.env)).any (·.1)=false:=by rfl) :
  PE X (.Call (.Attribute o "append" apos) [e] [] cpos) (agE to t):=by
 refine(acV PySem.F.plainAttrs_list PySem.F.slot_list_append PySem.F.type_list_append KY ho.mono ha.mono hb hf hl hs hp).imp λσ H Q h=>?_;refine⟨_,h,?_⟩;rintro x H1 ⟨l,xs,rfl,hx,h2⟩;refine⟨.inl ⟨rfl,_,SqL.of hx⟩,_,h2,?_⟩;rintro vs H2 ⟨y,ys,rfl,hy,hz,q⟩;exact⟨l,ys,y,rfl,rfl,hy,hz,q⟩
def aah:Μ->Hp->VK->Prop:=λxs H Q=>∃p ys,xs=[.ref p]/\H p=some (.lst ys)/\∀l,H l=none->Q (.ref l) (upd H l (.lst ys))
theorem Aj:iH X (.type "list") aah:=Pz.imp λxs H Q hP=>by obtain⟨p,ys,a,b,c⟩:=hP;exact⟨p,ys,a,.inl (.of b),c⟩
end
mutual
theorem Va:∀ns:List Int,PyData.canLayAll0 (ns.map PyData.int)=true
 |[]=>rfl
 |n::ns=>by
  rw[List.map_cons];unfold PyData.canLayAll0;rw[Va ns];rfl
end
noncomputable def frD(f:Ι):PyData:=.tuple [.int f.1,.int f.2]
inductive FL(H:Hp):Μ->Ψ->Prop
 |nil:FL H [] []
 |cons {p:Addr}{f:Ι}{xs:Μ}{fs:Ψ} : H p=some (.tup [.int f.1,.int f.2])->FL H xs fs->FL H (.ref p::xs) (f::fs)
theorem FL.imp{H H':Hp}(h:∀p a b,H p=some (.tup [.int a,.int b])->H' p=some (.tup [.int a,.int b])):∀{xs:Μ}{fs:Ψ},FL H xs fs->FL H' xs fs
 |_,_,.nil=>.nil
 |_,_,.cons e t=>.cons (h _ _ _ e) (FL.imp h t)
theorem FL.same{H H':Hp}(S:Same H H'){xs:Μ}{fs:Ψ}(h:FL H xs fs):FL H' xs fs:=h.imp λp _ _ e=>S p _ e
theorem FL.updL{H:Hp}{l:Addr}{ys zs:Μ}(hl:H l=some (.lst ys)){xs:Μ}{fs:Ψ}(h:FL H xs fs):FL (upd H l (.lst zs)) xs fs :=
 h.imp λp _ _ e=>(bL (d8 e hl)).trans e
theorem FL.length{H:Hp} : ∀{xs:Μ}{fs:Ψ},FL H xs fs->xs.length=fs.length
 |_,_,.nil=>rfl
 |_,_,.cons _ t=>by rw[List.length_cons,List.length_cons,FL.length t]
theorem FL.get{H:Hp}{xs:Μ}{fs:Ψ}{k:Nat}{x:V}(g:FL H xs fs)(h:xs[k]?=some x):∃p f,x=.ref p/\fs[k]?=some f/\H p=some (.tup [.int f.1,.int f.2]):=by
 induction g generalizing k with
 |nil=>cases h
 |cons e t ih =>
  cases k with
  |zero=>cases h;exact⟨_,_,rfl,rfl,e⟩
  |succ k=>exact ih h
theorem FL.append{H:Hp} : ∀{xs ys:Μ}{fs gs:Ψ},FL H xs fs->FL H ys gs->FL H (xs++ys) (fs++gs)
 |_,_,_,_,.nil,h=>h
 |_,_,_,_,.cons e t,h=>.cons e (FL.append t h)
theorem FL.one{H:Hp}{p:Addr}{a b:Int}(h:H p=some (.tup [.int a,.int b])):FL H [.ref p] [(a,b)]:=.cons (f:=(a,b)) h .nil
noncomputable def Its(x:Str):It:=⟨λi _=>i<x.cps.size,λi H v H'=>H'=H/\∃c,x.cps[i]?=some c/\v=.str ⟨#[c]⟩,λi _=>i=x.cps.size⟩
theorem Qj{P:Program}{w:World}{K:Frag}{tg:Expr}(it:Addr)(x:Str)(t:Tok)(ty:String)(hty : ["enumerate","zip","dict_itemiterator","dict_reverseitemiterator","odict_iterator","itertools.zip_longest","itertools.pairwise"].contains ty=false)
 (W:∀A:Around,A.handled=none->Walks P w A it [it] [it] x.cps.size (SignAt x) (λi h=>h.IsStrIter it ty x t i))
 (hself:∀(A:Around)(i:Nat)(s:Shared)(Q:Κ)(E:Κ),s.heap.IsStrIter it ty x t i->Q (.ref it) s->wpAny (model P w) A (pyIter (.ref it)) Q E s):Turn P w K tg (Its x) [it] it (λi h=>h.IsStrIter it ty x t i) where
 mem:=by simp
 obj:=λi h st b hb=>by
  have e:b=it:=by simpa using hb
  subst e;obtain⟨o,ho,_,hd⟩:=st;exact⟨o,ho,λv z=>by rw[hd]at z;cases z⟩
 keep:=λi h h' st k=>let⟨o,ho,r⟩:=st;⟨o,k it (by simp) o ho,r⟩
 item:=by
  intro X hP hw hK hc i pins s σ H E I hf st hg;subst hP hw hK;obtain⟨f0,f1,f2,f3,f4,f5⟩:=hf it (by simp);refine(W X.A (I.ok.hd hc)).item i s _ _ hg st λv h' tk hv st' kk=>?_;obtain⟨c,u,hx,rfl⟩:=hv;have I1:Inv X pins σ H { s with heap:=h',toks:=tk }:=I.turned (λb o hb e=>kk b o (by simpa using hb) e) f0 f1 f3 f4 f5;obtain⟨o,ho,hcl,hd⟩:=id st';exact⟨_,rfl,Rt (s:={ s with heap:=h',toks:=tk }) ho hcl hd hty ⟨.str ⟨#[c]⟩,H,I1,⟨u,rfl⟩,⟨rfl,c,hx,rfl⟩,st',λb hb=>(hf b hb).1⟩⟩
 done:=by
  intro X hP hw hK hc i pins s σ H E I hf st hg;subst hP hw hK;obtain⟨f0,f1,f2,f3,f4,f5⟩:=hf it (by simp);have hg':i=x.cps.size:=hg;subst hg';exact(W X.A (I.ok.hd hc)).done s _ _ st λh' tk kk=>⟨rfl,I.turned (λb o hb e=>kk b o (by simpa using hb) e) f0 f1 f3 f4 f5⟩
 self:=hself
section
variable{X:Cx}{tg:Expr}
def af3(te:TE):TI:=λσ H R=>te σ H λv H1=>∃x,v=.str x/\R (Its x) H1
theorem adD{l:Expr}{tl:TE}(hl:PE X l tl):PI X tg l (af3 tl):=by
 intro pins s σ H R I h;refine thn (hl pins s σ H _ I h) λv s1 hP=>?_;obtain⟨x,H1,I1,r1,y,ey,q⟩:=hP;subst ey;obtain⟨t,rfl⟩:=r1;have fp:∀b∈[s1.heap.objs.size],EY X pins H1 b:=λb hb=>by
  have e:b=s1.heap.objs.size:=by simpa using hb
  subst e;exact I1.fpOk (aG _) (I1.hok.fresh (aG _))
 have k:∀o:Obj,Inv X pins σ H1 { s1 with heap:=s1.heap.push o }:=λo=>I1.kept (t':=s1.toks) λb ob z=>aH _ z;cases ha:y.cps.all (· < 128)
 .exact wpAny_pyIter_wide ha ⟨s1.heap.objs.size,[s1.heap.objs.size],_,Its y,H1,rfl,k _,Qj _ y t "str_iterator" (by decide) (λA hA=>Walks.strWide hA _ y t) (λA i s Q E st h=>wpAny_pyIter_striter_wide st h),⟨_,aZ _ rfl,rfl,rfl⟩,fp,q⟩
 .exact wpAny_pyIter_ascii ha ⟨s1.heap.objs.size,[s1.heap.objs.size],_,Its y,H1,rfl,k _,Qj _ y t "str_ascii_iterator" (by decide) (λA hA=>Walks.strAscii hA _ y t) (λA i s Q E st h=>wpAny_pyIter_striter_ascii st h),⟨_,aZ _ rfl,rfl,rfl⟩,fp,q⟩
end
noncomputable def Ju(x:Str)(lo hi:Option Int):Str:=⟨((x.cps.toList.drop (HT.sIx x.length 0 lo)).take (HT.sIx x.length x.length hi-HT.sIx x.length 0 lo)).toArray⟩
theorem strIdx(lo hi:Option Int)(n:Nat):Builtin.Str.strSliceIndices lo hi 1 n=(List.range (HT.sIx n n hi-HT.sIx n 0 lo)).map (HT.sIx n 0 lo + ·):=by
 rw[<- sliceRange_one];unfold Builtin.Str.strSliceIndices;have h1:∀(o:Option Int)(d:Nat),d<=n->(match o with
   |none=>(d:Int)
   |some i=>(let i:=if i<0 then i+(n:Int)else i;if(1:Int)>0 then max 0 (min i n)else max (-1) (min i (n-1))))=((HT.sIx n d o:Nat):Int):=by
  intro o d hd;cases o with
  |none=>rfl
  |some i =>
   simp only[HT.sIx,show(1:Int)>0 by decide,if_true];by_cases h:i<0
   .simp only[h,if_true]<;>lia
   .simp only[h,if_false]<;>lia
 have e1:=h1 lo 0 (bA _);have e2:=h1 hi n (aG _);simp only[show(1:Int)>0 by decide,if_true]at e1 e2 ⊢;rw[<- e1,<- e2]
 rfl
theorem abm(x:Str)(lo hi:Option Int):(⟨((Builtin.Str.strSliceIndices lo hi 1 x.length).filterMap (x.cps[·]?)).toArray⟩ : Str)=Ju x lo hi:=by
 rw[strIdx,pick_run];rfl
theorem UJ(x:Str)(lo hi:Option Int)(h:(Builtin.Str.strSliceIndices lo hi 1 x.length).length=x.length):Ju x lo hi=x:=by
 rw[strIdx,ak,List.length_range]at h;have h2:=HT.aeN x.length x.length (aG _) hi;unfold Ju;have hx:x.length=x.cps.size:=rfl;have e:x.cps.toList.length=x.length:=by simp[hx]
 by_cases z:x.length=0
 .have:x.cps.toList=[]:=List.length_eq_zero_iff.mp (Eq.trans e z);rw[this];obtain⟨⟨l⟩⟩:=x;simp at this;subst this;simp
 .have e0:HT.sIx x.length 0 lo=0:=by lia
  rw[e0,List.drop_zero,aL (by lia)]
def aiE:V->Option Int->Option Int->Hp->VK->Prop:=λx lo hi H Q=>∃y,x=.str y/\y.length<=sizeLine/\Q (.str (Ju y lo hi)) H
theorem part_of{v:Value}{o:Option Int}(h:IsPart v o):∃l:Option (Int×Tok),v=partValue l/\l.map (·.1)=o:=by
 cases h with
 |none=>exact⟨none,rfl,rfl⟩
 |int i t=>exact⟨some (i,t),rfl,rfl⟩
theorem Zb{X:Cx} : SlR X aiE:=by
 intro pins s σ H x v vl vu lo hi sl Q I rx hs pl pu h;obtain⟨y,rfl,hz,q⟩:=h;obtain⟨t,rfl⟩:=rx;obtain⟨l,rfl,el⟩:=part_of pl;obtain⟨u,rfl,eu⟩:=part_of pu;refine⟨"str",_,F.slot_str_getitem.lookup,typeIs_str s y t,wpAny_getItem_str_slice (l:=l) (u:=u) (st:=none) hs rfl ?_⟩;unfold sliceMade slicePicked;rw[el,eu];split
 .rename_i hw
  have hw':=(Bool.and_eq_true_iff.mp hw).2;rw[beq_iff_eq]at hw';have e:=UJ y lo hi hw';rw[e]at q;exact⟨.str y,H,I,⟨t,rfl⟩,q⟩
 .have e:=abm y lo hi;refine⟨?_,.str (Ju y lo hi),H,I.tok _,⟨s.toks,?_⟩,q⟩
  .refine aM ?_ hz;refine aM (Nat.le_of_eq (ZH Str.length e)) ?_;show((y.cps.toList.drop _).take _).toArray.size<=y.cps.size;rw[bh,bw,List.length_drop,Array.length_toList];lia
  .rw[<- e];rfl
section
variable{X:Cx}
def ac1:R2:=λx y H Q=>∃i j,x=.str i/\y=.str j/\i.length+j.length<=sizeLine/\Q (.str (i++j)) H
theorem V2:OpR X (binaryOp .Add) ac1:=Tr
def ahU:R2:=λx y H Q=>∃i j,x=.str i/\y=.str j/\Q (.bl (!decide (j.cps.toList<i.cps.toList))) H
theorem ZW:OpR X (compareOp .LtE) ahU:=by
 intro pins s σ H x y v u Q I rx ry h;obtain⟨i,j,rfl,rfl,q⟩:=h;obtain⟨t,rfl⟩:=rx;obtain⟨t',rfl⟩:=ry;exact PySem.P.le_str (dG I q rfl)
theorem K7:∀{bs:List Bool}{us:Ξ},Vals (bs.map V.bl) us->∀(i:Nat)(v:Value),us[i]?=some v->∃b,bs[i]?=some b/\v=.bool b
 |[],_,.nil,i,v,h=>by cases i<;>cases h
 |b::bs,_,.cons r t,0,v,h=>by
  rw[List.getElem?_cons_zero]at h;cases h;exact⟨b,rfl,r⟩
 |b::bs,_,.cons r t,i+1,v,h=>by
  rw[List.getElem?_cons_succ]at h;exact K7 t i v h
def ac9:Μ->Hp->VK->Prop:=λxs H Q=>∃(l:Addr)(bs:List Bool),xs=[.ref l]/\H l=some (.lst (bs.map V.bl))/\Q (.bl (bs.all id)) H
theorem uT:∀bs:List Bool,((List.range bs.length).all λi=>(bs[i]?).getD true)=bs.all id
 |[]=>rfl
 |b::bs=>by
  rw[List.length_cons,List.range_succ_eq_map,List.all_cons,List.all_map,List.all_cons];have:=uT bs;simp only[Function.comp_def,List.getElem?_cons_succ,List.getElem?_cons_zero,Option.getD_some,id]at this ⊢;rw[this]
theorem Lb(hc:X.calm=true):iH X (.builtin "all") ac9:=by
 intro pins s σ H xs us Q I r h;obtain⟨l,bs,rfl,hl,q⟩:=h;obtain⟨u,rfl,ru⟩:=r.one;cases ru;obtain⟨its,rv,p⟩:=I.lstIs hl;have hlt:l<s.heap.objs.size:=by obtain⟨_,e,_⟩:=p;exact aK e
 refine call_all_walk (wpAny_pyIter_list p ?_);refine⟨s.heap.objs.size,[s.heap.objs.size,l],[s.heap.objs.size],its.toArray.size,_,_,λi=>(bs[i]?).getD true,rfl,Walks.list (A:=X.A.in1) (I.ok.hd hc) _ l (aU hlt) its.toArray,
  ⟨⟨_,aZ _ rfl,rfl,rfl⟩,p.push _⟩,λi v s' Q' E' hP hQ=>?_,λh' tk hk=>?_⟩
 .obtain⟨b,e,rfl⟩:=K7 rv i v (by simpa using hP);simp only[e,Option.getD_some]at hQ;exact wpAny_truthy_bool hQ
 .have e:((List.range its.toArray.size).all λi=>(bs[i]?).getD true)=bs.all id:=by
   rw[bh,<- rv.length,ak];exact uT bs
  refine⟨.bl (bs.all id),H,I.kept (t':=tk) λb o q=>hk b o (λhm=>?_) (aH _ q),?_,q⟩
  .rw[YR.mp hm]at q;exact X9 _ (aK q)
  .rw[e];rfl
noncomputable def aki:List Nat->Int
 |i::_=>(i:Int)
 |[]=>-1
def tSM(r:V->Μ->Hp->VK->Prop)(to:TE)(t:TA):TE:=λσ H Q=>to σ H λx H1=>(∃y,x=.str y)/\t σ H1 λvs H2=>r x vs H2 Q
theorem ahT{o e:Expr}{to:TE}{t:TA}{name:Str}{id:String}{r:V->Μ->Hp->VK->Prop}{apos cpos:Pos}(slot:Slot "str" name id)(hty:typeOf (.builtin id)=pure (.type "method_descriptor"))(hm:MtM X id r)(ho:PE X o to)(ha:PA X [e] t)
 (hb:attributeBase o name X.env (eval o X.env)=eval o X.env:=by rfl)
 (hf:((backTo cpos (starEach [e] X.env)).all (λx=>!x.1)&&(backToKw cpos (keywordEach [] X.env)).all (λx=>x.1.isSome)&&decide ([e].length+([] : List Keyword).length+(if([] : List Keyword).isEmpty then 0 else 1)<30))=true:=by rfl)
 (hl:(apos.endLine==cpos.line)=true:=by rfl)(hs:starEach [e] X.env=(false,eval e X.env)::starEach [] X.env:=by rfl)(hp:(backTo cpos (starEach [] X.env)).any (·.1)=false:=by rfl) :
  PE X (.Call (.Attribute o name apos) [e] [] cpos) (tSM r to t):=by
 refine(acV PySem.F.plainAttrs_str slot hty hm ho.mono ha hb hf hl hs hp).imp λσ H Q h=>?_;refine⟨_,h,?_⟩;rintro x H1 ⟨⟨y,rfl⟩,h2⟩;exact⟨rfl,h2⟩
theorem aaz{x:Str}{v:V}{pos:Pos}(hg:Gl X x)(hm:∃u,X.mg x=some u/\RelV v u)(hd:(x==("__debug__":Str))=false:=by decide):PE X (.Name x pos) (tC v):=by
 obtain⟨u,h1,h2⟩:=hm;exact VG hg h1 h2 hd
theorem aa9{a b:Expr}{ta tb:TE}{pos:Pos}(ha:PEB X a ta)(hb:PE X b tb)(hs:Vr b):PEB X (.Subscript a b pos) (tOp Y7 ta tb):=⟨bT bU ha.out hb hs⟩
theorem Q7{st:Stmt}{t:TS}(h1:PSB X st t):acq X [st] t:=⟨bO h1.out⟩
end
noncomputable def hid(y:Str):Str:=Str.ofString "?"++y
def La(xs:Β)(N:Β):Β:=N.map λy=>if y∈xs then hid y else y
def Cx.compG(X:Cx)(N':Β)(scope:Scope)(xs:Β)(C:Addr)(s₀:Shared)(H₀:Hp)(ex:Ε)(pn:Ω):Cx :=
 { X with env:=compEnvC scope (uX X.env.cells scope.names []) C X.env,N:=xs++N',s₀:=s₀,H₀:=H₀,outer:=X.stack,ex:=ex,fn:=λ_=>false,pn:=pn,xe:=λ_ _=>False }
def PTs(X:Cx)(ifs:List Expr)(tc:TT):Prop:=∀(pins:Ω)(s:Shared)(σ:L2.St)(H:Hp)(Q:Bool->Hp->Prop),Inv X pins σ H s->tc σ H Q ->
 wpAny (model X.prog X.w) X.A (forIn ifs true λc r=>if r=true then do let ok <- isTrue c X.env (eval c X.env);pure (ForInStep.yield ok)else pure (ForInStep.yield r)) (λb s'=>∃H',Inv X pins σ H' s'/\Q b H') X.xe s
def Pb:TT:=λ_ H Q=>Q true H
theorem cU{X:Cx} : PTs X [] Pb:=λ_ _ _ H _ I q=>wpAny_tests_nil ⟨H,I,q⟩
theorem Om{X:Cx}{c:Expr}{tc:TT}(h:PT X c tc):PTs X [c] tc:=λpins s σ H Q I q=>wpAny_tests_one (h pins s σ H Q I q)
def iR(wi:TI)(n:Nat)(gt:TG)(tc:TT)(te:TE):TE:=λσ H Q=>wi σ H λJ H1=>∀D,H1 D=none->∃W:Nat->Nat->Μ->Hp->Prop,(∃m,W 0 m [] (upd H1 D (.lst [])))/\∀i m ys Hc,W i m ys Hc ->
 (J.stop i Hc/\Q (.ref D) Hc)\/(J.go i Hc/\∀x H',J.yld i Hc x H'->∀pre:L2.St,pre.length=n->gt x (pre++σ) H' λσ2 H2=>∃pre':L2.St,pre'.length=n/\σ2=pre'++σ/\tc σ2 H2 λb H3 =>
  match b with
  |true=>te σ2 H3 λy H4=>ys.length<sizeLine/\H4 D=some (.lst ys)/\∃m',m'<m/\W (i+1) m' (ys++[y]) (upd H4 D (.lst (ys++[y])))
  |false=>∃m',m'<m/\W (i+1) m' ys H3)
def Cx.compE(X:Cx)(ext:Addr->List (Str×Addr))(fn:Str->Bool)(N':Β)(scope:Scope)(xs:Β)(C:Addr)(s₀:Shared)(H₀:Hp)(ex:Ε)(pn:Ω):Cx :=
 { X with env:=compEnvC scope (ext C++uX X.env.cells scope.names []) C X.env,N:=xs++N',s₀:=s₀,H₀:=H₀,outer:=X.stack,ex:=ex,fn:=fn,pn:=pn,xe:=λ_ _=>False }
structure QL(X:Cx)(scope:Scope)(xs:Β)(ext:Addr->List (Str×Addr))(fn:Str->Bool):Prop where
 new:∀{M:Model}{A:Around}{E:Κ}{s:Shared}{globals:Addr}{closure:List (Str×Addr)}{qual:Str}{outer:Env}{Q:Env->Shared->Prop},(∀g,g.Ns s.heap.objs.size (λx=>([] : List (Str×Value)).reverse.lookup x)->(∀y c,(ext s.heap.objs.size).lookup y=some c->g.IsCell c none)->(∀b o,s.heap.get? b=some o->g.get? b=some o)->Q (newEnv scope s.heap.objs.size globals (ext s.heap.objs.size++closure) qual none .none (some outer) builtinsNs) { s with heap:=g,toks:=s.toks+([] : List (Str×Value)).length }) ->
  wpAny M A (newFunctionEnv scope globals closure [] qual none .none (some outer)) Q E s
 up:∀C y c,(ext C).lookup y=some c->C<c
 one:∀C y z c,(ext C).lookup y=some c->(ext C).lookup z=some c->y=z
 nw:∀C y,fn y=true->∃c,(ext C).lookup y=some c
 off:∀C y,y∉xs->(ext C).lookup y=none
 kd:∀C y,((relabel scope X.env).names.lookup y=some .cell\/(relabel scope X.env).names.lookup y=some .free)->(∃c,(ext C).lookup y=some c)\/(y,NameKind.free)∈scope.names
theorem aiG{X:Cx}{scope:Scope}{xs:Β}(hk:scope.kind=.function)(hcell:∀y∈scope.names,y.2≠.cell):QL X scope xs (λ_=>[]) (λ_=>false) :=
 ⟨λhQ=>wpAny_newFunctionEnv hcell (by intro y hy;simp at hy) (λg hns hsb=>hQ g hns (λ_ _ z=>(nomatch z)) λb o e=>(hsb.2 b (aU (aK e))).trans (aH _ e)) hk,λ_ _ _ z=>(nomatch z),λ_ _ _ _ z=>(nomatch z),λ_ _ z=>(nomatch z),λ_ _ _=>rfl,λ_ _ e=>.inr (Bw e hcell)⟩
section
variable{X:Cx}{elt iter:Expr}{pos:Pos}{scope:Scope}{wi:TI}{te:TE}
theorem KZ{ext:Addr->List (Str×Addr)}{fn:Str->Bool}{use:Option (Value->Sem Unit)}{post:Κ}{Qv:VK}{pins:Ω}{s:Shared}{σ:L2.St}{H:Hp}{pp:Pos}{xs N':Β}{tg:Expr}{ifs:List Expr}{gt:TG}{tc:TT}(E:QL X scope xs ext fn)(hc:X.calm=true)(hsh:La xs X.N=N')(hkind:scope.kind=.function)(hnames:∀y∈scope.names,y.2=.local->scope.names.lookup y.1=some .local)
 (hfree:∀y∈scope.names,y.2=.free->X.env.kindOf y.1=some .cell\/X.env.kindOf y.1=some .free)(hloc:∀y∈X.N,y∉xs->(relabel scope X.env).names.lookup y≠some .local)(hq:∀y∈X.N,y∈xs->(relabel scope X.env).names.lookup (hid y)=none)(hi:PI X tg iter wi)
 (hg:∀C s₀ H₀ ex pn,PG (X.compE ext fn N' scope xs C s₀ H₀ ex pn) tg gt)(ht:∀C s₀ H₀ ex pn,PTs (X.compE ext fn N' scope xs C s₀ H₀ ex pn) ifs tc)(he:∀C s₀ H₀ ex pn,PE (X.compE ext fn N' scope xs C s₀ H₀ ex pn) elt te)(hs:∀z,foldedSetIterable iter X.env z=pure z)(I:Inv X pins σ H s)(h:iR wi xs.length gt tc te σ H Qv)
 (endC:∀(C D:Addr)(Hc:Hp)(s6:Shared)(m:Str->Ζ)(fl:Flow),s6.heap.Ns C m->Inv X pins σ Hc s6->EY X pins Hc C->Qv (.ref D) Hc->compPost (model X.prog X.w) X.A X.xe use post (.ref D) C (.ok fl) s6) :
  wpAny (model X.prog X.w) X.A (comprehension (.ListComp elt [⟨tg,iter,ifs,0⟩] scope pos) scope X.env pp (newList []) false (eval iter X.env) use) post X.xe s:=by
 have hfr:∀y∈scope.names,y.2=.free->∃c,X.env.cells.lookup y.1=some c:=λy hy e=>I.ok.has y.1 (hfree y hy e);refine wpAny_comprehension_free (use:=use) (Q:=post) rfl hs (Vb hfr) hkind hnames (thn (hi pins s σ H _ I h) λv s1 h1=>thn h1 λitv s2 h2=>?_);obtain⟨it,fp,tn,J,H2,e,I2,T,st2,f2,R⟩:=h2;subst e;have nD:H2 s2.heap.objs.size=none:=I2.hok.fresh (aG _);obtain⟨W,⟨m0,w0⟩,turn⟩:=R s2.heap.objs.size nD;refine wpAny_newObj_type ?_ (by show 0<=sizeLine;exact bA _);have I3:Inv X pins σ (upd H2 s2.heap.objs.size (.lst [])) { s2 with heap:=s2.heap.push { cls:=.type "list",dict:=none,data:=.seq ([] : Ξ).toArray } }:=I2.lnew (t':=s2.toks) (ys:=[]) (its:=[]) .nil (bA _);have oldT:∀b o,s2.heap.get? b=some o->(s2.heap.push { cls:=.type "list",dict:=none,data:=.seq ([] : Ξ).toArray }).get? b=some o:=λb o e=>aH _ e;generalize hs3:({ s2 with heap:=s2.heap.push { cls:=.type "list",dict:=none,data:=.seq ([] : Ξ).toArray } } : Shared)=s3 at I3 ⊢;have st3:tn 0 s3.heap:=T.keep _ _ _ st2 λb _ o e=>by rw[<- hs3];exact oldT b o e
 generalize hH3:upd H2 s2.heap.objs.size (.lst [])=H3 at I3 w0;have f3:∀b∈fp,EY X pins H3 b:=λb hb=>by
  obtain⟨a1,a2⟩:=f2 b hb;refine⟨?_,a2⟩;obtain⟨o,e,_⟩:=T.obj _ _ st2 b hb;rw[<- hH3,bL (aU (aK e))];exact a1
 refine E.new λg hns hcl kg=>?_;have clm:∀{y:Str}{c:Addr},(uX X.env.cells scope.names []).lookup y=some c->X.env.cells.lookup y=some c:=λ{y c}e=>by
  rcases RG hfr (PySem.mem_of_lookup e)with z|z
  .cases z
  .exact z
 have kinds:∀{y:Str},(ext s3.heap.objs.size).lookup y=none->((relabel scope X.env).names.lookup y=some .cell\/(relabel scope X.env).names.lookup y=some .free)->(X.env.kindOf y=some .cell\/X.env.kindOf y=some .free)/\∃c,(ext s3.heap.objs.size++uX X.env.cells scope.names []).lookup y=some c/\X.env.cells.lookup y=some c:=λ{y}ny e=>by
  rcases E.kd s3.heap.objs.size y e with⟨c,z⟩|z
  .rw[ny]at z;cases z
  .obtain⟨c,hc'⟩:=Qx (cells:=X.env.cells) (acc:=[]) (.inl z);obtain⟨c,hc'⟩:=qF hc';exact⟨hfree _ z rfl,c,by rw[List.lookup_append,ny];exact hc',clm hc'⟩
 have cle:∀{y:Str}{c:Addr},(ext s3.heap.objs.size++uX X.env.cells scope.names []).lookup y=some c->(ext s3.heap.objs.size).lookup y=some c\/X.env.cells.lookup y=some c:=λ{y c}e=>by
  rw[List.lookup_append]at e;cases hy:(ext s3.heap.objs.size).lookup y with
  |some d=>rw[hy]at e;exact .inl e
  |none=>rw[hy]at e;exact .inr (clm e)
 have cll:∀{y z c},(ext s3.heap.objs.size).lookup z=some c->¬X.env.cells.lookup y=some c:=λ{y z c}e1 e=>by
  obtain⟨v,o,h1,_⟩:=I3.cell y c e;exact X9 _ (Nat.lt_trans (aK h1) (E.up _ _ _ e1))
 have lt3:∀b∈fp,b<s3.heap.objs.size:=λb hb=>by
  obtain⟨o,e,_⟩:=T.obj _ _ st3 b hb;exact aK e
 have nst:∀b∈fp,b∉frs X.stack:=λb hb=>I3.nostk' (f3 b hb).2.1 (f3 b hb).2.2.1;have cfp:∀b∈fp,∀y c,(ext s3.heap.objs.size++uX X.env.cells scope.names []).lookup y=some c->c≠b:=λb hb y c e=>by
  rcases cle e with z|z
  .exact Nat.ne_of_gt (Nat.lt_trans (lt3 b hb) (E.up _ _ _ z))
  .exact(f3 b hb).2.2.2.2.1 y c z
 generalize hX:X.compE ext fn N' scope xs s3.heap.objs.size s3 H3 fp (X.pn++pins)=Y;have ok':Y.Ok:=by
  subst hX;exact⟨I3.ok.mod,hkind,I3.ok.glob,I3.ok.blt,aG _,λy z c h1 h2=>by
    rcases cle h1 with e1|e1<;>rcases cle h2 with e2|e2
    .exact E.one _ _ _ _ e1 e2
    .exact absurd e2 (cll e1)
    .exact absurd e1 (cll e2)
    .exact I3.ok.inj y z c e1 e2,λy hy=>by
    cases hz:(ext s3.heap.objs.size).lookup y with
    |some c=>exact⟨c,List.lookup_append.trans (by rw[hz];rfl)⟩
    |none=>exact let⟨_,c,q,_⟩:=kinds hz hy;⟨c,q⟩,λy c hfn e=>by
    obtain⟨d,z⟩:=E.nw s3.heap.objs.size y hfn;have e:(ext s3.heap.objs.size++uX X.env.cells scope.names []).lookup y=some c:=e;rw[List.lookup_append,z]at e;cases e;exact Y2 (E.up _ _ _ z),I3.ok.hd,I3.ok.frames,.inl rfl,
   λb hb=>⟨aU (lt3 b hb),cfp b hb⟩,I3.bs,aM I3.ok.bsz I3.sz,λb o e hb=>by
    rcases(f3 b hb).2.2.2.1 with z|z
    .exact I3.ok.noex b o e z
    .exact absurd (aV (aV (aK e) I3.ok.bsz) z) (X9 _),nst,I3.stack,I3.stkFree⟩
 have J4:∀tk,Inv Y [] (List.replicate xs.length none++σ) H3 { s3 with heap:=g,toks:=tk }:=λtk=>by
  subst hX;refine⟨ok',rfl,I3.bare,Un.kept kg,⟨_,hns,λi y v e1 e2 e3=>?_⟩,λy c e=>?_,I3.hok.fresh (aG _),λy c e=>(cle e).elim (λz=>I3.hok.fresh (Y2 (E.up _ _ _ z))) (I3.freeC y c),λp hp=>?_,I3.hok.kept kg,?_⟩
  .by_cases hin:i<xs.length
   .rw[aF (by rw[aO];exact hin),XG,ZY hin]at e2;cases e2
   .obtain⟨j,rfl⟩ : ∃j,i=xs.length+j:=⟨i-xs.length,by lia⟩;have e0:N'[j]?=some y:=by
     have e1:(xs++N')[xs.length+j]?=some y:=e1;rw[aD (X2 _ _)]at e1;rw[show xs.length+j-xs.length=j by exact Nat.add_sub_cancel_left _ _]at e1;exact e1
    have e2':σ[j]?=some (some v):=by
     rw[aD (by rw[aO];exact X2 _ _),aO]at e2;rw[show xs.length+j-xs.length=j by exact Nat.add_sub_cancel_left _ _]at e2;exact e2
    rw[<- hsh]at e0;obtain⟨y0,e1',ey⟩ : ∃y0,X.N[j]?=some y0/\(if y0∈xs then hid y0 else y0)=y:=by
     unfold La at e0;rw[aq]at e0;cases hz:X.N[j]? with
     |none=>rw[hz]at e0;cases e0
     |some y0=>rw[hz]at e0;exact⟨y0,rfl,Option.some.inj e0⟩
    have e3:(relabel scope X.env).names.lookup y=some .local\/(relabel scope X.env).names.lookup y=some .cell\/(relabel scope X.env).names.lookup y=some .free:=e3;have ne:¬y0∈xs:=λz=>by
     rw[ZY z]at ey;subst ey;rw[hq y0 (aC e1') z]at e3;rcases e3 with z|z|z<;>cases z
    rw[ZZ ne]at ey;subst ey;have e3':(relabel scope X.env).names.lookup y0=some .cell\/(relabel scope X.env).names.lookup y0=some .free:=by
     rcases e3 with z|z
     .exact absurd z (hloc y0 (aC e1') ne)
     .exact z
    obtain⟨kd,c,hcl,hcc⟩:=kinds (E.off _ _ ne) e3';obtain⟨m,_,hl⟩:=I3.loc;obtain⟨u,r,lk⟩:=hl j y0 v e1' e2' (.inr kd);refine⟨u,r,.inr ⟨e3',c,hcl,?_⟩⟩;rcases lk with⟨k1,_⟩|⟨_,c',q1,o,q2,q3⟩
    .exfalso;have k1':X.env.kindOf y0=some .local:=k1;rcases kd with k2|k2<;>rw[k1']at k2<;>cases k2
    .rw[hcc]at q1;cases q1;exact⟨o,kg _ _ q2,q3⟩
  .rcases cle e with z|z
   .exact⟨none,hcl y c z⟩
   .obtain⟨v,o,q2,q3⟩:=I3.cell y c z;exact⟨v,o,kg _ _ q2,q3⟩
  .have hp':p∈X.pn++pins:=by simpa[Cx.compE]using hp
   obtain⟨a1,a2,a3,a4,a5⟩:=I3.pin p hp';exact⟨kg _ _ a1,a2,aU (aK a1),I3.nostk' a3 a4,a5⟩
  .show(List.replicate xs.length none++σ).length=(xs++N').length;have hln:N'.length=X.N.length:=by rw[<- hsh];unfold La;rw[ak]
   rw[aA,aO,aA,I3.len,hln]
 have fpY:∀{Hc:Hp},(∀b∈fp,Hc b=none)->∀b∈fp,EY Y [] Hc b:=λ{Hc}hn b hb=>by
  subst hX;exact⟨hn b hb,aU (lt3 b hb),nst b hb,.inl hb,cfp b hb,λp hp=>(f3 b hb).2.2.2.2.2 p (by simpa[Cx.compE]using hp)⟩
 have loop:∀s4:Shared,s4={ s3 with heap:=g,toks:=s3.toks+([] : List (Str×Value)).length } ->
   codeAny (model X.prog X.w) X.A (.compLoop (.ListComp elt [⟨tg,iter,ifs,0⟩] scope pos) 0 (.ref it) (.ref s2.heap.objs.size) Y.env) (compPost (model X.prog X.w) X.A X.xe use post (.ref s2.heap.objs.size) s3.heap.objs.size) s4:=by
  rintro s4 rfl;have YP:Y.prog=X.prog/\Y.w=X.w/\Y.K=X.K/\Y.calm=X.calm/\Y.A=X.A/\Y.env.locals=s3.heap.objs.size:=by subst hX;exact⟨rfl,rfl,rfl,rfl,rfl,rfl⟩
  obtain⟨y1,y2,y3,y4,y5,y6⟩:=YP;have he':PE Y elt te:=by subst hX;exact he _ _ _ _ _
  have hg':PG Y tg gt:=by subst hX;exact hg _ _ _ _ _
  have ht':PTs Y ifs tc:=by subst hX;exact ht _ _ _ _ _
  have xeY:Y.xe=λ_ _=>False:=by subst hX;rfl
  have yb:∀{Hc:Hp}{w':L2.St}{pn:Ω}{s':Shared},Inv Y pn w' Hc s'->Un (frs X.stack) fp H3 Hc s3.heap s'.heap:=λ{Hc w' pn s'}Z=>by
   have:=Z.base;subst hX;exact this
  have yos:∀{Hc:Hp}{w':L2.St}{pn:Ω}{s':Shared},Inv Y pn w' Hc s'->s'.os=s3.os:=λ{Hc w' pn s'}Z=>by
   have:=Z.os;subst hX;exact this
  refine codeAny_loop rfl (λn s'=>∃i ys Hc,∃w':L2.St,w'.length=xs.length/\Inv Y [] (w'++σ) Hc s'/\tn i s'.heap/\(∀b∈fp,Hc b=none)/\W i n ys Hc) (λn s5 hI=>?_) m0 ⟨0,[],H3,List.replicate xs.length none,aO,J4 _,T.keep _ _ _ st3 λb _ o e=>kg b o e,λb hb=>(f3 b hb).1,w0⟩;obtain⟨i,ys,Hc,w',hw',Z,stc,frc,wc⟩:=hI;show wpAny _ _ ((compTurn (.ListComp elt [⟨tg,iter,ifs,0⟩] scope pos) 0 (.ref it) (.ref s2.heap.objs.size) Y.env).onRaise (λz=>do noteFrame z Y.env;theTreesLotGoes z)) _ _ s5;refine wpAny_noted (wpAny_noRaise ?_);rw[compTurn_list];show wpAny (model X.prog X.w) X.A _ _ _ _;rcases turn i n ys Hc wc with⟨stop,qn⟩|⟨go,step⟩
  .have hd:=T.done Y y1 y2 y3 (y4.trans hc) i [] s5 (w'++σ) Hc (λ_ _=>False) Z (fpY frc) stc stop;rw[y5]at hd;refine ZU (wpAny_standAt (ZU (thn hd λr s6 hP=>?_)));obtain⟨hr,Z6⟩:=hP;subst hr;refine ZT ?_;obtain⟨m,hn6,_⟩:=Z6.loc;rw[y6]at hn6;have u6:=yb Z6;have hok:HOk X.prog X.w Hc s6.heap:=by
    have z:=Z6.hok;rw[y1,y2]at z;exact z
   have cn:Hc s3.heap.objs.size=none:=by
    have z:=Z6.free;rw[y6]at z;exact z
   have I6:Inv X pins σ Hc s6:=I3.call' (s':=s6) (ch:=fp) (yos Z6) u6 hok Z6.bare λb hb=>⟨(f3 b hb).2.2.2.1,(f3 b hb).2.1,(f3 b hb).2.2.2.2.1,(f3 b hb).2.2.2.2.2⟩;have fC:EY X pins Hc s3.heap.objs.size:=I3.fpOk (aG _) cn;exact endC _ _ Hc s6 m _ hn6 I6 fC qn
  .have hd:=T.item Y y1 y2 y3 (y4.trans hc) i [] s5 (w'++σ) Hc (λ_ _=>False) Z (fpY frc) stc go;rw[y5]at hd;refine ZU (wpAny_standAt (ZU (thn hd λr s6 hP=>?_)));obtain⟨u,hr,h6⟩:=hP;subst hr;refine ZU (thn h6 λ_ s7 hP=>?_);obtain⟨xv,H7,Z7,r7,yl,st7,fr7⟩:=hP;have Z7':=Z7.pinned (fpY fr7) (T.obj _ _ st7);have hst:=hg' _ s7 _ H7 xv u _ Z7' r7 (step xv H7 yl w' hw');rw[y1,y2,y5,xeY]at hst;refine ZU (thn hst λ_ s8 hP=>?_);obtain⟨σ8,H8,Z8,pre,hpre,e8,q8⟩:=hP;subst e8;have hte:=ht' _ s8 _ H8 _ Z8 q8;rw[y1,y2,y5,xeY]at hte;have fin:∀{m':Nat}{ys':Μ}{H9:Hp}{s9:Shared},Inv Y ([]++G6 fp s7.heap) (pre++σ) H9 s9->m'<n->W (i+1) m' ys' H9->∃m,m<n/\∃i ys Hc,∃w':L2.St,w'.length=xs.length/\Inv Y [] (w'++σ) Hc s9/\tn i s9.heap/\(∀b∈fp,Hc b=none)/\W i m ys Hc:=λ{m' ys' H9 s9}Z9 hm' w9 =>
    ⟨m',hm',i+1,ys',H9,pre,hpre,Z9.unpinned,T.keep _ _ _ st7 λb hb o e=>(Z9.pin (b,o) (aR _ (aR _ (qI hb e)))).1,λb hb=>by
     obtain⟨o,e,_⟩:=T.obj _ _ st7 b hb;exact(Z9.pin (b,o) (aR _ (aR _ (qI hb e)))).2.1,w9⟩
   refine ZU (thn hte λok s9 hP=>?_);obtain⟨H9,Z9,q9⟩:=hP;cases ok with
   |false =>
    obtain⟨m',hm',w9⟩:=q9;exact ZT ⟨rfl,fin Z9 hm' w9⟩
   |true =>
    have hel:=he' _ s9 _ H9 _ Z9 q9;rw[y1,y2,y5,xeY]at hel;refine ZU (ZU (thn hel λev s10 hP=>?_));obtain⟨yv,H10,Z10,r10,hz,hD10,m',hm',w10⟩:=hP;have hap:=KY (X:=Y) _ s10 _ H10 (.ref s2.heap.objs.size) [yv] (.ref s2.heap.objs.size) [ev] (λ_ Hf=>Hf=upd H10 s2.heap.objs.size (.lst (ys++[yv]))) Z10 rfl (.cons r10 .nil) ⟨_,ys,yv,rfl,rfl,hD10,hz,rfl⟩;rw[y1,y2,y5,xeY]at hap;refine ZU (thn hap λav s11 hP=>?_);obtain⟨_,H11,Z11,_,e11⟩:=hP;subst e11;exact ZT (ZT ⟨rfl,fin Z11 hm' w10⟩)
 have henv:Y.env=compEnvC scope (ext s3.heap.objs.size++uX X.env.cells scope.names []) s3.heap.objs.size X.env:=by subst hX;rfl
 rw[henv]at loop;exact codeAny_compStart_list (loop _ rfl) (T.self _ 0 _ _ _ (T.keep _ _ _ st3 λb _ o e=>kg b o e) (loop _ rfl))
theorem Q5{ext:Addr->List (Str×Addr)}{fn:Str->Bool}{xs N':Β}{tg:Expr}{ifs:List Expr}{gt:TG}{tc:TT}(E:QL X scope xs ext fn)(hc:X.calm=true)(hsh:La xs X.N=N')(hkind:scope.kind=.function)(hnames:∀y∈scope.names,y.2=.local->scope.names.lookup y.1=some .local)
 (hfree:∀y∈scope.names,y.2=.free->X.env.kindOf y.1=some .cell\/X.env.kindOf y.1=some .free)(hloc:∀y∈X.N,y∉xs->(relabel scope X.env).names.lookup y≠some .local)(hq:∀y∈X.N,y∈xs->(relabel scope X.env).names.lookup (hid y)=none)(hi:PI X tg iter wi)
 (hg:∀C s₀ H₀ ex pn,PG (X.compE ext fn N' scope xs C s₀ H₀ ex pn) tg gt)(ht:∀C s₀ H₀ ex pn,PTs (X.compE ext fn N' scope xs C s₀ H₀ ex pn) ifs tc)(he:∀C s₀ H₀ ex pn,PE (X.compE ext fn N' scope xs C s₀ H₀ ex pn) elt te)(hs:∀z,foldedSetIterable iter X.env z=pure z) :
  PE X (.ListComp elt [⟨tg,iter,ifs,0⟩] scope pos) (iR wi xs.length gt tc te):=by
 intro pins s σ H Q I h;rw[eval_ListComp];exact KZ E hc hsh hkind hnames hfree hloc hq hi hg ht he hs I h λC D Hc s6 m fl hn I6 fC q=>⟨m,hn,λh' hs'=>⟨.ref D,Hc,I6.turned (it:=C) (h':=h') (t':=s6.toks) (λb o hb e=>(hs'.2 b hb).trans e) fC.1 fC.2.1 fC.2.2.2.1 fC.2.2.2.2.1 fC.2.2.2.2.2,rfl,q⟩⟩
end
structure G7(K:Frag)(B:Addr)(m:Str)(f:Addr):Prop where
 ga:specialIn K (.ref B) "__getattribute__"=some (some (.builtin "type.__getattribute__"))
 rd:readsIn K B (.type "type")=true
 at_:findCls K (.ref B) (.type "type") m=some (.val (.ref f))
 hd:handedIn (.ref f)=true
 kp:keepIn K (.ref f)=true
section
variable{X:Cx}{k:Nat}{f B:Addr}{fd:FuncData}{ps:Β}{sp:Sp}{dvs:Μ}{ds:Ξ}{x m:Str}{p pos apos:Pos}{e:Expr}{es:List Expr}{t:TA}{Ex:Value->Η->L2.St->Hp->Prop}
theorem G7.get{pins:Ω}{σ:L2.St}{H:Hp}{s:Shared}{pl:Sem Bool}{A:Around}{E:Κ}{Q:Value×Ξ->Shared->Prop}(c:G7 X.K B m f)(I:Inv X pins σ H s)(h:∀t,Q (.ref f,[]) { s with toks:=t }) :
  wpAny (model X.prog X.w) A (getMethod (.ref B) m pl) Q E s :=
 PySem.W.method_cls I.kIn c.ga (PySem.W.cls_value I.kIn c.rd c.at_ c.hd (h _))
theorem abY{pl:Sem Bool}(c:G7 X.K B m f)(F:cJ X.prog X.w X.K X.mg X.base CX0 k f fd ps sp)(hr:jg k X.A)(hg:Gl X x)(hm:X.mg x=some (.ref B))(hb:Binds X.K fd ps [])(ha:PA X (e::es) t)(hdb:(x==("__debug__":Str))=false:=by decide)
 (hst:starEach (e::es) X.env=(false,eval e X.env)::starEach es X.env:=by rfl)(hpl:(backTo pos (starEach es X.env)).any (·.1)=false:=by rfl)
 (ht:eval (.Call (.Attribute (.Name x p) m apos) (e::es) [] pos) X.env=(do
   let ov <- eval (.Name x p) X.env
   standAt apos.atName
   let(f,first) <- holding [ov] (getMethod ov m pl)
   callWith pos f first (backTo pos (starEach (e::es) X.env)) (backToKw pos (keywordEach [] X.env))):=by rfl) :
  PE X (.Call (.Attribute (.Name x p) m apos) (e::es) [] pos) (Hl sp t):=by
 intro pins s σ H Q I h;refine methodCall_KW (pl:=pl) (Ga I hg hm (c.get I λtk=>?_) hdb) ht;refine callWith_K (first:=[]) (h₀:=X.base) I.ok.mod.kin c.kp (thn (ha pos pins _ σ H _ (I.tok tk) h) λus s2 ⟨vs,H2,I2,r,q2⟩=>⟨I2.kIn,?_⟩) hst hpl;exact Mu (us:=us) (vs:=vs) F hr hb .nil R3 I2 r (by rw[List.append_nil];exact q2)
end
section
variable{κ:Type}[DecidableEq κ]
noncomputable def qW(kvs:List (κ×V))(k:κ):Option V:=(kvs.find? λkv=>decide (kv.1=k)).map (·.2)
noncomputable def putK(kvs:List (κ×V))(k:κ)(v:V):List (κ×V) :=
 if(kvs.any λkv=>decide (kv.1=k))=true then kvs.map (λkv=>if kv.1=k then(kv.1,v)else kv)else kvs++[(k,v)]
theorem Hr{p:κ×V}{r:List (κ×V)}{k:κ}(e:p.1=k):qW (p::r) k=some p.2:=by simp[qW,List.find?_cons,e]
theorem G3{p:κ×V}{r:List (κ×V)}{k:κ}(e:¬p.1=k):qW (p::r) k=qW r k:=by simp[qW,List.find?_cons,e]
theorem R8(kvs:List (κ×V))(k:κ)(v:V):(putK kvs k v).length<=kvs.length+1:=by
 unfold putK;split
 .rw[ak];exact Xs _
 .rw[aA,List.length_cons,List.length_nil];exact aG _
theorem yW.isSome_eq{o:Option V}{u:Ζ}(r:yW o u):o.isSome=u.isSome:=by
 cases o with
 |none=>cases u with
  |none=>rfl
  |some _=>exact(show False from r).elim
 |some _=>cases u with
  |none=>exact(show False from r).elim
  |some _=>rfl
theorem yW.getD{o:Option V}{u:Ζ}{d:V}{d':Value}(r:yW o u)(rd:RelV d d'):RelV (o.getD d) (u.getD d'):=by
 cases o with
 |none=>cases u with
  |none=>exact rd
  |some _=>exact(show False from r).elim
 |some _=>cases u with
  |none=>exact(show False from r).elim
  |some _=>exact r
theorem KV.val{kvs:List (κ×V)}{vs:List (κ×Value)}(r:KV kvs vs)(k:κ):yW (qW kvs k) (valueAt vs k):=by
 unfold KV at r
 induction r with
 |nil=>exact True.intro
 |@cons p q ps qs h t ih =>
  obtain⟨h1,h2⟩:=h;by_cases e:p.1=k
  .have e':q.1=k:=h1.symm.trans e;have b:valueAt (q::qs) k=some q.2:=by simp[valueAt,List.find?_cons,e']
   rw[Hr e,b];exact h2
  .have e':¬q.1=k:=λz=>e (h1.trans z);have b:valueAt (q::qs) k=valueAt qs k:=by simp[valueAt,List.find?_cons,e']
   rw[G3 e,b];exact ih
theorem KV.any{kvs:List (κ×V)}{vs:List (κ×Value)}(r:KV kvs vs)(k:κ):(kvs.any λkv=>decide (kv.1=k))=vs.any λkv=>decide (kv.1=k):=by
 unfold KV at r
 induction r with
 |nil=>rfl
 |cons h t ih=>rw[List.any_cons,List.any_cons,ih,h.1]
theorem KV.repl{kvs:List (κ×V)}{vs:List (κ×Value)}(r:KV kvs vs)(k:κ){y:V}{u:Value}(ry:RelV y u) :
  KV (kvs.map λkv=>if kv.1=k then(kv.1,y)else kv) (vs.map λkv=>if kv.1=k then(kv.1,u)else kv):=by
 unfold KV at r ⊢
 induction r with
 |nil=>exact .nil
 |@cons p q ps qs h t ih =>
  rw[List.map_cons,List.map_cons];refine .cons ?_ ih;obtain⟨h1,h2⟩:=h;by_cases e:p.1=k
  .rw[ZY e,ZY (h1.symm.trans e)];exact⟨h1,ry⟩
  .rw[ZZ e,ZZ (λz=>e (h1.trans z))];exact⟨h1,h2⟩
theorem KV.put{kvs:List (κ×V)}{vs:List (κ×Value)}(r:KV kvs vs)(k:κ){y:V}{u:Value}(ry:RelV y u):KV (putK kvs k y) (stored vs k u):=by
 unfold putK stored;rw[r.any k];by_cases e:(vs.any λkv=>decide (kv.1=k))=true
 .rw[ZY e,ZY e];exact r.repl k ry
 .rw[ZZ e,ZZ e];exact Paired.snoc r ⟨rfl,ry⟩
theorem KV.length{kvs:List (κ×V)}{vs:List (κ×Value)}(r:KV kvs vs):kvs.length=vs.length:=Paired.length r
end
theorem P_{P:Program}{w:World}{k:Key}{u:Value}(r:RelV (kV k) u):(kY P w).is k u=true:=by
 cases k with
 |inl i=>obtain⟨t,e⟩:=(show ∃t,u=Value.int i t from r);subst e;exact R5 P w i t
 |inr x=>obtain⟨t,e⟩:=(show ∃t,u=Value.str x t from r);subst e;exact Q6 P w x t
section
variable{P:Program}{w:World}{H:Hp}{h:Heap}{a:Addr}
theorem agb{u:HO}(ok:HOk P w H h)(e:Rd H a u):gj P w H h a u:=e.ok ok
theorem Ik{kvs:List (Key×V)}(ok:HOk P w H h)(e:Rd H a (.dK kvs)):kvs.length<=sizeLine/\(a==sysModules)=false/\∃vs,KV kvs vs/\h.DictOf (kY P w) a vs :=
 show gj P w H h a (.dK kvs)from agb ok e
theorem ahZ{kvs:List (Key×V)}(ok:HOk P w H h)(e:H a=some (.dK kvs)):kvs.length<=sizeLine/\(a==sysModules)=false/\∃vs,KV kvs vs/\h.DictOf (kY P w) a vs:=Ik ok (.inl e)
end
def wV(H:Hp)(a:Addr)(y:V)(r:Option V):Prop :=
 (∃kvs k,Rd H a (.dK kvs)/\y=kV k/\r=qW kvs k)\/False
def Vf(H:Hp)(a:Addr)(y v:V)(H':Hp):Prop :=
 (∃kvs k,H a=some (.dK kvs)/\y=kV k/\kvs.length<sizeLine/\H'=upd H a (.dK (putK kvs k v)))\/False
theorem wV.k{H:Hp}{a:Addr}{kvs:List (Key×V)}{k:Key}(e:H a=some (.dK kvs)):wV H a (kV k) (qW kvs k):=.inl ⟨kvs,k,.inl e,rfl,rfl⟩
theorem Vf.k{H:Hp}{a:Addr}{kvs:List (Key×V)}{k:Key}{v:V}(e:H a=some (.dK kvs))(hl:kvs.length<sizeLine):Vf H a (kV k) v (upd H a (.dK (putK kvs k v))):=.inl ⟨kvs,k,e,rfl,hl,rfl⟩
section
variable{X:Cx}{pins:Ω}{σ:St}{H:Hp}{s:Shared}{a:Addr}{y v:V}{u r:Value}{o:Option V}{A:Around}{E:Κ}
theorem Inv.big(I:Inv X pins σ H s):sysModules<s.heap.objs.size:=by
 have h:mainGlobals<s.heap.objs.size:=(I.mod.glob.keeps I.bk).lt;exact Nat.lt_trans (by decide) h
theorem W4{Q:Κ}(hu:A.units+1<cLine)(I:Inv X pins σ H s)(g:wV H a y (some v))(ry:RelV y u)(h:∀w' s',Inv X pins σ H s'->RelV v w'->Q w' s') :
  wpAny (model X.prog X.w) A (getItem (.ref a) u) Q E s:=by
 rcases g with⟨kvs,k,e,ey,l⟩|hF
 .subst ey;obtain⟨z,hd,vs,rel,dd⟩:=Ik I.hok e;obtain⟨w',hw,rw'⟩:=yW.some_of (v:=v) (o:=valueAt vs k) (by rw[l];exact rel.val k);exact wpAny_getItem_of (P_ ry) dd.mapOf hw (h w' _ (I.tok _) rw')
 .exact hF.elim
theorem akf{Q:Κ}(hu:A.units+1<cLine)(I:Inv X pins σ H s)(g:wV H a y o)(ry:RelV y u)(h:∀s',Inv X pins σ H s'->Q (.bool o.isSome) s') :
  wpAny (model X.prog X.w) A (compareOp .In u (.ref a)) Q E s:=by
 rcases g with⟨kvs,k,e,ey,l⟩|hF
 .subst ey;obtain⟨z,hd,vs,rel,dd⟩:=Ik I.hok e;refine wpAny_in_of (P_ ry) hd dd.mapOf ?_;rw[<- (rel.val k).isSome_eq,<- l];exact h _ (I.tok _)
 .exact hF.elim
theorem ab5{Q:Κ}(hu:A.units+1<cLine)(I:Inv X pins σ H s)(g:wV H a y o)(ry:RelV y u)(h:∀s',Inv X pins σ H s'->Q (.bool (!o.isSome)) s') :
  wpAny (model X.prog X.w) A (compareOp .NotIn u (.ref a)) Q E s:=by
 rcases g with⟨kvs,k,e,ey,l⟩|hF
 .subst ey;obtain⟨z,hd,vs,rel,dd⟩:=Ik I.hok e;refine wpAny_notIn_of (P_ ry) hd dd.mapOf ?_;rw[<- (rel.val k).isSome_eq,<- l];exact h _ (I.tok _)
 .exact hF.elim
theorem abg{h':Heap}{t':Nat}{ob:HO}(I:Inv X pins σ H s)(mu:Mut (H a))(hs:Heap.SameBut a s.heap h')(he:∃q,h'.get? a=some q)(new:gj X.prog X.w (upd H a ob) h' a ob) :
  Inv X pins σ (upd H a ob) { s with heap:=h',toks:=t' } :=
 I.write (x:=a) (e:=a) mu (.inl rfl) (λb q hb z=>(hs.2 b hb).trans z) he new
theorem adP{P:Program}{w:World}{H':Hp}{h':Heap}{kvs:List (Key×V)}{vs:List (Key×Value)}(z:kvs.length<=sizeLine)(hd:(a==sysModules)=false)(rel:KV kvs vs)(dd:h'.DictOf (kY P w) a vs) :
  gj P w H' h' a (.dK kvs):=⟨z,hd,vs,rel,dd⟩
theorem XF{H':Hp}{Q:Unit->Shared->Prop}(hu:A.units+1<cLine)(I:Inv X pins σ H s)(g:Vf H a y v H')(ry:RelV y u)(rv:RelV v r)(h:∀s',Inv X pins σ H' s'->Q () s') :
  wpAny (model X.prog X.w) A (setItem (.ref a) u r) Q E s:=by
 rcases g with⟨kvs,k,e,ey,l,eH⟩|hF
 .subst ey eH;obtain⟨z,hd,vs,rel,dd⟩:=ahZ I.hok e;have hz:vs.length<=sizeLine:=by rw[<- rel.length];exact z
  have hl:(putK kvs k v).length<=sizeLine:=by have:=R8 kvs k v;lia
  refine wpAny_setItem_pairs (hsz:=hz) (P_ ry) dd λh' dd' hs=>h _ ?_;have he:∃q,h'.get? a=some q:=by obtain⟨q,_,_,hq,_⟩:=dd';exact⟨q,hq⟩
  exact abg I (by rw[e];exact True.intro) hs he (adP hl hd (rel.put k rv) dd')
 .exact hF.elim
end
def agy(i:Expr):Prop:=∀ov iv,subscripted i false ov iv=operate [ov,iv] (getItem ov iv)
theorem abu{prog:Program}{w:World}{A:Around}{E:Κ}{s:Shared}{env:Env}{value slice:Expr}{pos:Pos}{T id:String}{Q:Κ}
 (hl:typeLookup (.type T) "__getitem__"=pure (some (.builtin id)))(hs:agy slice)
 (h:wpAny (model prog w) A (eval value env) (λo s₁=>wpAny (model prog w) A (eval slice env) (λi s₂=>s₂.TypeIs o T/\wpAny (model prog w) A (getItem o i) Q E s₂) E s₁) E s) :
  wpAny (model prog w) A (eval (.Subscript value slice pos) env) Q E s:=by
 refine Subscript_ (wpAny_mono h (λo s₁ h₁=>wpAny_mono h₁ (λi s₂ h₂=>?_) λ_ _ x=>x) λ_ _ x=>x);obtain⟨hT,h₂⟩:=h₂;unfold subscriptTail;refine ZU ?_;rw[getitemInPython_of_ne hT.not_modules];refine ZU (wpAny_specialOf hT hl ?_);have fin:wpAny (model prog w) A (subscripted slice false o i) (λr s₃=>wpAny (model prog w) A (letTemporaryGo value o r >>= λ_=>pure r) Q E s₃) E s₂:=by
  rw[hs o i];exact wpAny_operating (wpAny_mono h₂ (λr s₃ h₃=>ZU (wpAny_letTemporaryGo (ZT h₃))) λ_ _ x=>x)
 first
  |exact ZT (ZU fin)
  |exact ZU (ZT (ZU fin))
  |exact ZU fin
theorem Qa{X:Cx}{pins:Ω}{σ:St}{H:Hp}{s:Shared}{a:Addr}{y:V}{o:Option V}(I:Inv X pins σ H s)(g:wV H a y o):s.TypeIs (.ref a) "dict":=by
 rcases g with⟨kvs,k,e,_,_⟩|hF
 .obtain⟨_,_,vs,_,dd⟩:=Ik I.hok e;exact dd.typeIs
 .exact hF.elim
def acS(td ty:TE):TE:=λσ H Q=>td σ H λx H1=>ty σ H1 λy H2=>∃a v,x=.ref a/\wV H2 a y (some v)/\Q v H2
def agO(ty td:TE):TE:=λσ H Q=>ty σ H λy H1=>td σ H1 λx H2=>∃a o,x=.ref a/\wV H2 a y o/\Q (.bl o.isSome) H2
def Wu(ty td:TE):TE:=λσ H Q=>ty σ H λy H1=>td σ H1 λx H2=>∃a o,x=.ref a/\wV H2 a y o/\Q (.bl (!o.isSome)) H2
def adv(td ty tv:TE):TS:=λD σ H=>tv σ H λv H1=>td σ H1 λx H2=>ty σ H2 λy H3=>∃a H4,x=.ref a/\Vf H3 a y v H4/\D.nx σ H4
section
variable{X:Cx}{o i e value:Expr}{pos pos' tpos:Pos}{td ty tv:TE}
theorem Mg(hu:X.A.units+1<cLine)(ho:PE X o td)(hi:PE X i ty)(hs:agy i):PE X (.Subscript o i pos) (acS td ty):=by
 intro pins s σ H Q I h;refine abu PySem.F.slot_dict_getitem.lookup hs (thn (ho pins s σ H _ I h) λu s1 ⟨x,H1,I1,rx,q1⟩=>thn (hi pins s1 σ H1 _ I1 q1) λiv s2 hP=>?_);obtain⟨y,H2,I2,ry,a,v,ex,g,q2⟩:=hP;subst ex;obtain rfl:u=Value.ref a:=rx;exact⟨Qa I2 g,W4 hu I2 g ry λw' s3 I3 rw'=>⟨v,H2,I3,rw',q2⟩⟩
theorem Yg(hu:X.A.units+1<cLine)(hi:PE X i ty)(ho:PE X o td):PC X .In i o (agO ty td):=by
 intro pins s σ H Q I h;refine thn (hi pins s σ H _ I h) λiv s1 ⟨y,H1,I1,ry,q1⟩=>thn (ho pins s1 σ H1 _ I1 q1) λu s2 hP=>?_;obtain⟨x,H2,I2,rx,a,ov,ex,g,q2⟩:=hP;subst ex;obtain rfl:u=Value.ref a:=rx;exact akf hu I2 g ry λs3 I3=>⟨.bl ov.isSome,H2,I3,rfl,q2⟩
theorem X5(hu:X.A.units+1<cLine)(hi:PE X i ty)(ho:PE X o td):PC X .NotIn i o (Wu ty td):=by
 intro pins s σ H Q I h;refine thn (hi pins s σ H _ I h) λiv s1 ⟨y,H1,I1,ry,q1⟩=>thn (ho pins s1 σ H1 _ I1 q1) λu s2 hP=>?_;obtain⟨x,H2,I2,rx,a,ov,ex,g,q2⟩:=hP;subst ex;obtain rfl:u=Value.ref a:=rx;exact ab5 hu I2 g ry λs3 I3=>⟨.bl (!ov.isSome),H2,I3,rfl,q2⟩
theorem N6(hu:X.A.units+1<cLine)(ho:PE X o td)(hi:PE X i ty)(hv:PE X value tv)(hs:swapsWith value (some (.Subscript o i pos')) pos.line X.env=pure false) :
  PS X (.Assign [.Subscript o i pos'] value pos) (adv td ty tv):=by
 intro pins s σ H D I h;refine wpAny_Assign_Subscript (thn (hv pins s σ H _ I h) λr s1 ⟨v,H1,I1,rv,q1⟩=>thn (ho pins s1 σ H1 _ I1 q1) λu s2 ⟨x,H2,I2,rx,q2⟩=>thn (hi pins s2 σ H2 _ I2 q2) λiv s3 hP=>?_) hs;obtain⟨y,H3,I3,ry,a,H4,ex,g,q3⟩:=hP;subst ex;obtain rfl:u=Value.ref a:=rx;exact XF hu I3 g ry rv λs4 I4=>⟨σ,H4,I4,q3⟩
end
theorem Yu{P:Program}{w:World}{H:Hp}(h:Heap)(hb:sysModules<h.objs.size):gj P w H (h.push { cls:=.type "dict",data:=.dict #[] }) h.objs.size (.dK []) :=
 ⟨bA _,beq_eq_false_iff_ne.mpr (Ne.symm (aU hb)),[],.nil,Heap.DictOf.new h⟩
def Zj:TE:=λ_ H Q=>∀p,H p=none->Q (.ref p) (upd H p (.dK []))
section
variable{X:Cx}{pos:Pos}
theorem H_:PE X (.Dict [] [] pos) Zj:=λpins s σ H Q I h =>
 wpAny_Dict_empty ⟨.ref s.heap.objs.size,_,I.laid (a:=s.heap.objs.size) (o:=.dK []) (t':=s.toks) (λ_ _ q=>aH _ q) (aG _) (Yu s.heap I.big),rfl,h _ (I.hok.fresh (aG _))⟩
end
structure M1(X:Cx)(o:Expr)(m:Str)(apos:Pos)(e:Expr)(cpos:Pos):Prop where
 base:attributeBase o m X.env (eval o X.env)=eval o X.env
 few:((backTo cpos (starEach [e] X.env)).all (λx=>!x.1)&&(backToKw cpos (keywordEach [] X.env)).all (λx=>x.1.isSome)
  && decide (([e] : List Expr).length+([] : List Keyword).length+(if([] : List Keyword).isEmpty then 0 else 1)<30))=true
 line:(apos.endLine==cpos.line)=true
 trees:backTo cpos (starEach [e] X.env)=[(false,eval e X.env)]
structure M2(X:Cx)(o:Expr)(m:Str)(apos:Pos)(e f:Expr)(cpos:Pos):Prop where
 base:attributeBase o m X.env (eval o X.env)=eval o X.env
 few:((backTo cpos (starEach [e,f] X.env)).all (λx=>!x.1)&&(backToKw cpos (keywordEach [] X.env)).all (λx=>x.1.isSome)
  && decide (([e,f] : List Expr).length+([] : List Keyword).length+(if([] : List Keyword).isEmpty then 0 else 1)<30))=true
 line:(apos.endLine==cpos.line)=true
 trees:backTo cpos (starEach [e,f] X.env)=[(false,eval e X.env),(false,eval f X.env)]
def IsD(H:Hp)(a:Addr):Prop:=(∃kvs,Rd H a (.dK kvs))\/False
theorem aeK{X:Cx}{pins:Ω}{σ:St}{H:Hp}{s:Shared}{a:Addr}(I:Inv X pins σ H s)(d:IsD H a) :
  s.TypeIs (.ref a) "dict"/\(∀b,Value.ref a=.ref b->∃ob,s.heap.get? b=some ob/\ob.dict=none)/\(a==sysModules)=false:=by
 rcases d with⟨kvs,e⟩|hF
 .obtain⟨_,hd,vs,_,dd⟩:=Ik I.hok e;refine⟨dd.typeIs,λb q=>?_,hd⟩;cases q;obtain⟨ob,_,_,h1,h2,_⟩:=dd;exact⟨ob,h1,h2.2.1⟩
 .exact hF.elim
section
variable{X:Cx}{pins:Ω}{σ:St}{H:Hp}{s:Shared}{a:Addr}{y d:V}{u r:Value}{o:Option V}{A:Around}{E:Κ}
theorem aex{Q:Κ}(hu:A.units+1<cLine)(I:Inv X pins σ H s)(g:wV H a y o)(ry:RelV y u)(rd:RelV d r)(h:∀w' s',Inv X pins σ H s'->RelV (o.getD d) w'->Q w' s') :
  wpAny (model X.prog X.w) A (call (.builtin "dict.get") [.ref a,u,r]) Q E s:=by
 rcases g with⟨kvs,k,e,ey,l⟩|hF
 .subst ey;obtain⟨z,hd,vs,rel,dd⟩:=Ik I.hok e;refine call_meetsIn PySem.F.slot_dict_get dd.typeIs PySem.F.entry_dict_get (PySem.F.args_dict_get_3 _ _ _) (meets_dict_get_default (kY X.prog X.w) a (P_ ry) hd r) ⟨_,dd.mapOf,h _ _ (I.tok _) ?_⟩;rw[l];exact(rel.val k).getD rd
 .exact hF.elim
end
def aaI(td ty tx:TE):TE:=λσ H Q=>td σ H λx H1=>∃a,x=.ref a/\IsD H1 a/\ty σ H1 λy H2=>tx σ H2 λz H3=>∃o,wV H3 a y o/\Q (o.getD z) H3
section
variable{X:Cx}{o e f:Expr}{apos cpos:Pos}{td ty tx:TE}
theorem YH(hu:X.A.units+1<cLine)(ho:PE X o td)(he:PE X e ty)(hf:PE X f tx)(m:M2 X o "get" apos e f cpos):PE X (.Call (.Attribute o "get" apos) [e,f] [] cpos) (aaI td ty tx):=by
 intro pins s σ H Q I h;refine wpAny_Call_method m.base m.few m.line PySem.F.plainAttrs_dict PySem.F.slot_dict_get PySem.F.type_dict_get (thn (ho pins s σ H _ I h) λu s1 hP=>?_);obtain⟨x,H1,I1,rx,a,ex,d,q1⟩:=hP;subst ex;obtain rfl:u=Value.ref a:=rx;obtain⟨t1,t2,_⟩:=aeK I1 d;refine⟨t1,t2,?_⟩;rw[m.trees];refine Calls.callWith_builtin rfl (Calls.evalArgs_plain (Calls.spliced_cons (thn (he pins s1 σ H1 _ I1 q1) λiv s2 ⟨y,H2,I2,ry,q2⟩ =>
  Calls.spliced_cons (thn (hf pins s2 σ H2 _ I2 q2) λfv s3 ⟨z,H3,I3,rz,ov,g,q3⟩=>Calls.spliced_nil ?_))))
 exact aex hu I3 g ry rz λw' s4 I4 rw'=>⟨_,H3,I4,rw',q3⟩
end
def Itk(a:Addr)(o:Obj)(kvs:List (Key×V)):It:=⟨λi H=>H a=some (.frz o (.dK kvs))/\i<kvs.length,λi H v H'=>H'=H/\∃k y,kvs[i]?=some (k,y)/\v=kV k,λi H=>H a=some (.frz o (.dK kvs))/\i=kvs.length⟩
theorem afQ{P:Program}{w:World}{k:Key}{u:Value}(h:(kY P w).is k u=true):RelV (kV k) u:=by
 have h:Bu k u=true:=h;cases k with
 |inl i =>
  cases u<;>simp[Bu,Value.isInt]at h
  .subst h;exact⟨_,rfl⟩
 |inr x =>
  cases u<;>simp[Bu,Value.isStrOf]at h
  .subst h;exact⟨_,rfl⟩
theorem KV.at{κ:Type}{kvs:List (κ×V)}{vs:List (κ×Value)}(r:KV kvs vs):∀{i:Nat}{k:κ}{y:V},kvs[i]?=some (k,y)->∃u,vs[i]?=some (k,u)/\RelV y u:=by
 unfold KV at r
 induction r with
 |nil=>intro i k y h;cases h
 |@cons p q ps qs h t ih =>
  intro i k y e;cases i with
  |zero =>
   rw[List.getElem?_cons_zero]at e;cases e;obtain⟨q1,q2⟩:=q;obtain⟨h1,h2⟩:=h;cases h1;exact⟨q2,rfl,h2⟩
  |succ i =>
   rw[List.getElem?_cons_succ]at e ⊢;exact ih e
theorem X6{P:Program}{w:World}{K:Frag}{tg:Expr}(it a:Addr)(o:Obj)(kvs:List (Key×V))(vs:List (Key×Value))(ep:Nat)(rel:KV kvs vs)(hD:∀h:Heap,h.get? a=some o->h.DictAt (kY P w) a vs ep) :
  Turn P w K tg (Itk a o kvs) [it] it (λi h=>h.IsKeyIter it a i vs.length ep) where
 mem:=by simp
 obj:=λi h st b hb=>by
  have e:b=it:=by simpa using hb
  subst e;obtain⟨o,ho,_,hd⟩:=st;exact⟨o,ho,λv z=>by rw[hd]at z;cases z⟩
 keep:=λi h h' st k=>let⟨o,ho,r⟩:=st;⟨o,k it (by simp) o ho,r⟩
 item:=by
  intro X hP hw hK hc i pins s σ H E I hf st hg;subst hP hw hK;obtain⟨hg,hlt⟩:=hg;obtain⟨ho,_⟩:=(show gj X.prog X.w H s.heap a (.frz o (.dK kvs))from I.hok a _ hg);obtain⟨f0,f1,f2,f3,f4,f5⟩:=hf it (by simp);obtain⟨⟨k,y⟩,hx⟩ : ∃p,kvs[i]?=some p:=⟨kvs[i],by simp[hlt]⟩;obtain⟨u,hu,ru⟩:=rel.at hx;refine wpAny_pyNext_dict_item st (hD _ ho) hu λkey h' hkey st' sb=>?_;have I1:Inv X pins σ H { s with heap:=h' }:=I.turned (t':=s.toks) (λb ob hb e=>(sb.2 b hb).trans e) f0 f1 f3 f4 f5;obtain⟨oi,e,c,d⟩:=id st';exact⟨key,rfl,Rt (s:={ s with heap:=h' }) e c d (by decide) ⟨kV k,H,I1,afQ hkey,⟨rfl,k,y,hx,rfl⟩,st',λb hb=>(hf b hb).1⟩⟩
 done:=by
  intro X hP hw hK hc i pins s σ H E I hf st hg;subst hP hw hK;obtain⟨hg,rfl⟩:=hg;obtain⟨ho,_⟩:=(show gj X.prog X.w H s.heap a (.frz o (.dK kvs))from I.hok a _ hg);obtain⟨f0,f1,f2,f3,f4,f5⟩:=hf it (by simp);have hl:=rel.length;exact wpAny_pyNext_dict_end (I.ok.hd hc) st (hD _ ho) (by simp;exact Nat.le_of_eq (Eq.symm hl)) λh' eb=>⟨rfl,I.turned (t':=s.toks) (λb ob hb e=>eb b ob hb e) f0 f1 f3 f4 f5⟩
 self:=λ_ _ _ _ _ st h=>wpAny_pyIter_keyiter st h
section
variable{X:Cx}{tg:Expr}
def ac7(te:TE):TI:=λσ H R=>te σ H λx H1=>∃a kvs,x=.ref a/\H1 a=some (.dK kvs)/\∀o,R (Itk a o kvs) (upd H1 a (.frz o (.dK kvs)))
theorem acf{l:Expr}{tl:TE}(hl:PE X l tl):PI X tg l (ac7 tl):=by
 intro pins s σ H R I h;refine thn (hl pins s σ H _ I h) λv s1 hP=>?_;obtain⟨x,H1,I1,r1,a,kvs,ex,ha,q⟩:=hP;subst ex;cases r1;have ok:=(show gj X.prog X.w H1 s1.heap a (.dK kvs)from I1.hok a _ ha);obtain⟨z,hd,vs,rel,o,es,ep,e,ex,ed,ek,epr,en⟩:=ok;have hD:∀h:Heap,h.get? a=some o->h.DictAt (kY X.prog X.w) a vs ep:=λh e=>⟨o,es,e,ex,ed,ek,epr,en⟩;have I2:Inv X pins σ (upd H1 a (.frz o (.dK kvs))) s1:=by
  have:=I1.write (x:=a) (e:=a) (o:=.frz o (.dK kvs)) (h':=s1.heap) (t':=s1.toks) (by rw[ha];exact True.intro) (.inl rfl) (λb u hb z=>z) ⟨o,e⟩ ⟨e,z,hd,vs,rel,o,es,ep,e,ex,ed,ek,epr,en⟩;exact this
 refine wpAny_pyIter_dict hd (hD _ e) ?_;refine⟨s1.heap.objs.size,[s1.heap.objs.size],_,Itk a o kvs,_,rfl,I2.kept (t':=s1.toks) λb ob z=>aH _ z,X6 _ a o kvs vs ep rel hD,⟨_,aZ _ rfl,rfl,rfl⟩,λb hb=>?_,q o⟩;have e:b=s1.heap.objs.size:=by simpa using hb
 subst e;exact I2.fpOk (aG _) (I2.hok.fresh (aG _))
def tMG(g:TG):TG:=λv σ H Q=>∃R:L2.St->Hp->Prop,g v σ H R/\∀σ' H',R σ' H'->Q σ' H'
def tMT(t:TT):TT:=λσ H Q=>∃R:Bool->Hp->Prop,t σ H R/\∀b H',R b H'->Q b H'
theorem PG.mono{e:Expr}{g:TG}(h:PG X e g):PG X e (tMG g):=λpins s σ H v u Q I r hP=>by obtain⟨R,h1,h2⟩:=hP;exact thn (h pins s σ H v u R I r h1) λ_ s' hP=>by obtain⟨σ',H',I',q⟩:=hP;exact⟨σ',H',I',h2 σ' H' q⟩
theorem PTs.mono{ifs:List Expr}{t:TT}(h:PTs X ifs t):PTs X ifs (tMT t):=λpins s σ H Q I hP=>by obtain⟨R,h1,h2⟩:=hP;exact thn (h pins s σ H R I h1) λb s' hP=>by obtain⟨H',I',q⟩:=hP;exact⟨H',I',h2 b H' q⟩
def zB(n:Nat)(gt:TG)(tc:TT)(te:TE)(x:V)(σ:L2.St)(H:Hp)(Y:VK)(No:Hp->Prop):Prop:=∀pre:L2.St,pre.length=n->gt x (pre++σ) H λσ2 H2=>∃pre':L2.St,pre'.length=n/\σ2=pre'++σ/\tc σ2 H2 λb H3 =>
 match b with
 |true=>te σ2 H3 Y
 |false=>No H3
theorem zB.weak{n:Nat}{gt:TG}{tc:TT}{te:TE}{x:V}{σ:L2.St}{H:Hp}{Y Y':VK}{No No':Hp->Prop}(h:zB n gt tc te x σ H Y No)(h1:∀y H',Y y H'->Y' y H')(h2:∀H',No H'->No' H'):zB n (tMG gt) (tMT tc) (tM te) x σ H Y' No':=λpre hp =>
 ⟨_,h pre hp,λσ2 H2 ⟨pre',e1,e2,q⟩=>⟨pre',e1,e2,_,q,λb H3 z=>match b,z with
  |true,z=>⟨_,z,h1⟩
  |false,z=>h2 H3 z⟩⟩
theorem xJ{K:Frag}{tl te:TE}{gt:TG}{tc:TT}{n:Nat}{σ:L2.St}{H:Hp}{Q:VK}(h:tl σ H λx H1=>∃a xs,x=.ref a/\H1 a=some (.lst xs)/\xs.length<=sizeLine/\∀D,H1 D=none->∃J:Nat->Μ->Hp->Prop,J 0 [] (upd H1 D (.lst [])) /\
   (∀k x ys Hc,xs[k]?=some x->J k ys Hc->ys.length<=k->Hc a=some (.lst xs)->zB n gt tc te x σ Hc (λy H2=>H2 D=some (.lst ys)/\H2 a=some (.lst xs)/\J (k+1) (ys++[y]) (upd H2 D (.lst (ys++[y])))) λH2=>H2 a=some (.lst xs)/\J (k+1) ys H2) /\
   ∀ys Hc,J xs.length ys Hc->ys.length<=xs.length->Q (.ref D) Hc):iR (CG K (tM tl)) n (tMG gt) (tMT tc) (tM te) σ H Q:=by
 refine⟨_,h,?_⟩;rintro x H1 ⟨a,xs,rfl,hx,hz,rest⟩;refine⟨a,rfl,⟨xs,.of hx⟩,λD hD=>?_⟩;obtain⟨J,j0,step,fin⟩:=rest D hD;have ne:a≠D:=bH hx hD;refine⟨λk m ys Hc=>k<=xs.length/\m=xs.length-k/\ys.length<=k/\Hc a=some (.lst xs)/\J k ys Hc,⟨_,bA _,rfl,bA _,(bL ne).trans hx,j0⟩,?_⟩;rintro k m ys Hc ⟨hk,rfl,hy,hx',j⟩;by_cases e:k=xs.length
 .subst e;exact .inl ⟨⟨xs,.of hx',aG _⟩,fin ys Hc j hy⟩
 .have hlt:k<xs.length:=by exact XX hk e
  refine .inr ⟨⟨xs,_,.of hx',aj hlt⟩,?_⟩;rintro x H'' ⟨rfl,y⟩;refine(step k x ys H'' (y xs (.of hx')) j hy hx').weak ?_ ?_
  .rintro yv H2 ⟨z1,z2,z3⟩;refine⟨by lia,z1,xs.length-(k+1),by lia,by exact hlt,rfl,?_,?_,z3⟩
   .rw[aA];simp;omega
   .rw[bL ne];exact z2
  .rintro H2 ⟨z2,z3⟩;exact⟨xs.length-(k+1),by lia,by exact hlt,rfl,by exact aM hy (X2 _ _),z2,z3⟩
theorem Q0{tl te:TE}{gt:TG}{tc:TT}{n:Nat}{σ:L2.St}{H:Hp}{Q:VK}(h:tl σ H λx H1=>∃a kvs,x=.ref a/\H1 a=some (.dK kvs)/\kvs.length<=sizeLine/\∀o D,upd H1 a (.frz o (.dK kvs)) D=none->∃J:Nat->Μ->Hp->Prop,J 0 [] (upd (upd H1 a (.frz o (.dK kvs))) D (.lst [])) /\
   (∀i k y ys Hc,kvs[i]?=some (k,y)->J i ys Hc->ys.length<=i->Hc a=some (.frz o (.dK kvs))->zB n gt tc te (kV k) σ Hc (λy H2=>H2 D=some (.lst ys)/\H2 a=some (.frz o (.dK kvs))/\J (i+1) (ys++[y]) (upd H2 D (.lst (ys++[y])))) λH2=>H2 a=some (.frz o (.dK kvs))/\J (i+1) ys H2) /\
   ∀ys Hc,J kvs.length ys Hc->ys.length<=kvs.length->Q (.ref D) Hc):iR (ac7 (tM tl)) n (tMG gt) (tMT tc) (tM te) σ H Q:=by
 refine⟨_,h,?_⟩;rintro x H1 ⟨a,kvs,rfl,hx,hz,rest⟩;refine⟨a,kvs,rfl,hx,λo D hD=>?_⟩;obtain⟨J,j0,step,fin⟩:=rest o D hD;have ne:a≠D:=bH bG hD;refine⟨λk m ys Hc=>k<=kvs.length/\m=kvs.length-k/\ys.length<=k/\Hc a=some (.frz o (.dK kvs))/\J k ys Hc,⟨_,bA _,rfl,bA _,(bL ne).trans bG,j0⟩,?_⟩;rintro k m ys Hc ⟨hk,rfl,hy,hx',j⟩;by_cases e:k=kvs.length
 .subst e;exact .inl ⟨⟨hx',rfl⟩,fin ys Hc j hy⟩
 .have hlt:k<kvs.length:=by exact XX hk e
  refine .inr ⟨⟨hx',hlt⟩,?_⟩;rintro x H'' ⟨rfl,kk,yy,hkk,rfl⟩;refine(step k kk yy ys H'' hkk j hy hx').weak ?_ ?_
  .rintro yv H2 ⟨z1,z2,z3⟩;refine⟨by lia,z1,kvs.length-(k+1),by lia,by exact hlt,rfl,?_,?_,z3⟩
   .rw[aA];simp;omega
   .rw[bL ne];exact z2
  .rintro H2 ⟨z2,z3⟩;exact⟨kvs.length-(k+1),by lia,by exact hlt,rfl,by exact aM hy (X2 _ _),z2,z3⟩
end
theorem Same.tup{K:Frag}{H H':Hp}{a:Addr}{xs:Μ}(e:Same H H')(h:SqT K H a xs):SqT K H' a xs:=by
 rcases h with(h|⟨o,h⟩)|h
 .exact .inl (.inl (e _ _ h))
 .exact .inl (.inr ⟨o,e _ _ h⟩)
 .exact .inr h
theorem SqT.updO{K:Frag}{H:Hp}{a l:Addr}{xs:Μ}{o u:HO}(h:SqT K H a xs)(hl:H l=some o)(h1:∀ys,o≠.tup ys)(h2:∀ob ys,o≠.frz ob (.tup ys)):SqT K (upd H l u) a xs:=by
 rcases h with(h|⟨ob,h⟩)|h
 .exact .inl (.inl ((bL (d8 h hl (λz=>h1 xs z.symm))).trans h))
 .exact .inl (.inr ⟨ob,(bL (d8 h hl (λz=>h2 ob xs z.symm))).trans h⟩)
 .exact .inr h
mutual
inductive mF(K:Frag)(H:Hp):V->PyData->Prop
 |non:mF K H .non .none
 |bl (b:Bool):mF K H (.bl b) (.bool b)
 |int (i:Int):mF K H (.int i) (.int i)
 |str (x:Str):mF K H (.str x) (.str x)
 |lst {a:Addr}{xs:Μ}{ds:List PyData} : H a=some (.lst xs)->dz K H xs ds->mF K H (.ref a) (.list ds)
 |tup {a:Addr}{xs:Μ}{ds:List PyData} : SqT K H a xs->dz K H xs ds->mF K H (.ref a) (.tuple ds)
inductive dz(K:Frag)(H:Hp):Μ->List PyData->Prop
 |nil:dz K H [] []
 |cons {x:V}{xs:Μ}{d:PyData}{ds:List PyData} : mF K H x d->dz K H xs ds->dz K H (x::xs) (d::ds)
end
mutual
theorem mF.same{K:Frag}{H H':Hp}(S:Same H H'):∀{x:V}{d:PyData},mF K H x d->mF K H' x d
 |_,_,.non=>.non
 |_,_,.bl b=>.bl b
 |_,_,.int i=>.int i
 |_,_,.str x=>.str x
 |_,_,.lst e h=>.lst (S _ _ e) (dz.same S h)
 |_,_,.tup e h=>.tup (S.tup e) (dz.same S h)
theorem dz.same{K:Frag}{H H':Hp}(S:Same H H'):∀{xs:Μ}{ds:List PyData},dz K H xs ds->dz K H' xs ds
 |_,_,.nil=>.nil
 |_,_,.cons h t=>.cons (mF.same S h) (dz.same S t)
end
theorem dz.ints(K:Frag)(H:Hp):∀ns:List Int,dz K H (ns.map V.int) (ns.map PyData.int)
 |[]=>.nil
 |n::ns=>.cons (.int n) (dz.ints K H ns)
section
variable{X:Cx}{pins:Ω}{σ:L2.St}{H:Hp}{s:Shared}
mutual
theorem Inv.readsK(I:Inv X pins σ H s):∀{x:V}{d:PyData}{v:Value},mF X.K H x d->RelV x v->∃as,Reads s.heap v d as
 |_,_,_,.non,r=>by cases r;exact⟨_,.none⟩
 |_,_,_,.bl b,r=>by cases r;exact⟨_,.bool b⟩
 |_,_,_,.int i,r=>by obtain⟨t,rfl⟩:=r;exact⟨_,.int i t⟩
 |_,_,_,.str x,r=>by obtain⟨t,rfl⟩:=r;exact⟨_,.str x t⟩
 |_,_,_,.lst e h,r=>by
  cases r;obtain⟨its,rv,⟨o,ho,hc,n,hd⟩⟩:=I.lstIs e;obtain⟨as,q⟩:=Inv.readsAllK I h rv;exact⟨_,.list ho hc hd q⟩
 |_,_,_,.tup e h,r=>by
  cases r;obtain⟨its,rv,⟨o,ho,hc,n,hd⟩,_⟩:=I.tuple e;obtain⟨as,q⟩:=Inv.readsAllK I h rv;exact⟨_,.tuple ho hc hd q⟩
theorem Inv.readsAllK(I:Inv X pins σ H s):∀{xs:Μ}{ds:List PyData}{vs:Ξ},dz X.K H xs ds->Vals xs vs->∃as,ReadsAll s.heap vs ds as
 |_,_,_,.nil,r=>by cases r;exact⟨_,.nil⟩
 |_,_,_,.cons h t,r=>by
  cases r with
  |cons r1 r2 =>
   obtain⟨a,q1⟩:=Inv.readsK I h r1;obtain⟨b,q2⟩:=Inv.readsAllK I t r2;exact⟨_,.cons q1 q2⟩
end
def aeQ(K:Frag)(neg:Bool):R2:=λx y H Q=>∃d e,mF K H x d/\mF K H y e/\SeqAt.shaped d=true/\SeqAt.shaped e=true/\Q (.bl (if neg then !PyData.eqv d e else PyData.eqv d e)) H
theorem adG(hu:X.A.units+64<cLine):OpR X (compareOp .NotEq) (aeQ X.K true):=by
 intro pins s σ H x y v u Q I rx ry h;obtain⟨d,e,hd,he,sd,se,q⟩:=h;obtain⟨as,ra⟩:=I.readsK hd rx;obtain⟨bs,rb⟩:=I.readsK he ry;exact SeqAt.compareNe_shaped ra rb sd se hu ⟨.bl _,H,I,rfl,q⟩
end
section
variable{X:Cx}
def acY(K:Frag):Μ->Hp->VK->Prop:=λxs H Q=>∃p ys,xs=[.ref p]/\SqT K H p ys/\Q (.int ys.length) H
theorem K_:iH X (.builtin "len") (acY X.K):=Cu.imp λxs H Q hP=>by obtain⟨p,ys,a,b,c⟩:=hP;exact⟨p,ys,a,.inr b,c⟩
def Vz(K:Frag):Μ->Hp->VK->Prop:=λxs H Q=>∃p T ys,xs=[.ref p,.ty T]/\T∈["bool","int","str","list","tuple","dict"]/\SqT K H p ys/\Q (.bl (aaQ "tuple" T)) H
theorem rK:iH X (.builtin "isinstance") (Vz X.K):=by
 intro pins s σ H xs us Q I r h;obtain⟨p,T,ys,rfl,hT,hp,q⟩:=h;obtain⟨u,v,rfl,ru,rv⟩:=r.two;cases ru;cases rv;obtain⟨its,rvs,⟨o,ho,hc,n,hd⟩,_⟩:=I.tuple hp;refine kia_one (kitx_tuple (a:=p)) I.kIn ⟨o,ho,hc⟩ (VP (K:=X.K) (t:="tuple") (by decide) hT) (λz=>nomatch z) λtk=>⟨.bl _,H,I.tok _,rfl,q⟩
end
def OkI(P:Program)(w:World)(K:Frag)(mg:Str->Ζ)(base:Heap)(CX:CXT)(k:Nat)(f:Addr)(ps:Β)(sp:Sp):Prop:=∃fd,cJ P w K mg base CX k f fd ps sp/\Binds K fd ps []
def zT(K:Frag)(x qual:Str)(st:Stmt)(ps:Β)(f:Addr):Prop:=∃fd,Fun K x qual st f fd/\∀us:Ξ,us.length=ps.length->bindArgs fd ⟨us,[]⟩=pure (ps.zip us)
theorem zT.ok{P:Program}{w:World}{K:Frag}{mg:Str->Ζ}{base:Heap}{CX:CXT}{k:Nat}{x qual:Str}{st:Stmt}{ps:Β}{f:Addr}{sp:Sp}(h:zT K x qual st ps f)(hf:∀fd,Fun K x qual st f fd->cJ P w K mg base CX k f fd ps sp):OkI P w K mg base CX k f ps sp :=
 by obtain⟨fd,a,b⟩:=h;exact⟨fd,hf fd a,.all b⟩
theorem acI{K:Frag}{x qual:Str}{st:Stmt}{ps:Β}{f:Addr}{oc:Value}{od an:Η}{osl:Array (Ζ)}{kV doc pm cdv ct:Value}
 (l:K.lookup f=some ⟨oc,od,.func (PySem.W.fnOf x qual (jN st) (iT st) (bQ st) .none kV doc pm an cdv ct),osl⟩)(c:codeIn K cdv qual=true)(k:keepIn K (.ref f)=true)
 (hb:∀(kV doc pm:Value)(an:Η)(cdv ct:Value)(us:Ξ),us.length=ps.length->bindArgs (PySem.W.fnOf x qual (jN st) (iT st) (bQ st) .none kV doc pm an cdv ct) ⟨us,[]⟩=pure (ps.zip us)):zT K x qual st ps f :=
 ⟨_,aaL l c k,hb kV doc pm an cdv ct⟩
section
variable{X:Cx}{k:Nat}{f C B:Addr}{ps:Β}{sp:Sp}{x m:Str}{p pos apos:Pos}{e o:Expr}{es:List Expr}{ta:TE}{t:TA}{Ex:Value->Η->L2.St->Hp->Prop}
theorem PE.any{ι:Sort _}{R:ι->Prop}{a:Expr}{ts:ι->TE}(h:∀i,R i->PE X a (ts i)):PE X a (λσ H Q=>∃i,R i/\ts i σ H Q):=λpins s σ H Q I hP=>by obtain⟨i,r,q⟩:=hP;exact h i r pins s σ H Q I q
def Uz(C:Addr)(m:Str)(sp:Sp)(ta:TE)(t:TA):TE:=λσ H Q=>ta σ H λx H1=>∃a dx fs,x=.ref a/\H1 a=some (.ins C dx fs)/\fs.lookup m=none/\t σ H1 λvs H2=>sp (x::vs) H2 Q E0
theorem Cw{pl:Sem Bool}(he:PE X o ta)(c:Cls X.K C)(hm:Meth X.K C m f)(G:OkI X.prog X.w X.K X.mg X.base CX0 k f ps sp)(hr:jg k X.A)(ha:PA X (e::es) t)
 (hst:starEach (e::es) X.env=(false,eval e X.env)::starEach es X.env:=by rfl)(hpl:(backTo pos (starEach es X.env)).any (·.1)=false:=by rfl)
 (ht:eval (.Call (.Attribute o m apos) (e::es) [] pos) X.env=(do
   let ov <- eval o X.env
   standAt apos.atName
   let(f,first) <- holding [ov] (getMethod ov m pl)
   callWith pos f first (backTo pos (starEach (e::es) X.env)) (backToKw pos (keywordEach [] X.env))):=by rfl) :
  PE X (.Call (.Attribute o m apos) (e::es) [] pos) (Uz C m sp ta t):=by
 obtain⟨fd,F,hb⟩:=G;refine(abM (pl:=pl) he.mono c hm F hr hb .nil R3 ha.mono hst hpl ht).imp λσ H Q h=>⟨_,h,?_⟩;rintro x H1 ⟨a,dx,fs,h1,h2,h3,h4⟩;refine⟨a,dx,fs,h1,h2,h3,_,h4,λvs H2 q=>?_⟩;show sp (x::(vs++[])) H2 Q E0;rw[List.append_nil];exact q
theorem yr{pl:Sem Bool}(he:PE X o ta)(c:Cls X.K C)(hm:Meth X.K C m f)(G:OkI X.prog X.w X.K X.mg X.base CX0 k f ps sp)(hr:jg k X.A)
 (ht:eval (.Call (.Attribute o m apos) [] [] pos) X.env=(do
   let ov <- eval o X.env
   standAt apos.atName
   let(f,first) <- holding [ov] (getMethod ov m pl)
   callWith pos f first (backTo pos (starEach [] X.env)) (backToKw pos (keywordEach [] X.env))):=by rfl) :
  PE X (.Call (.Attribute o m apos) [] [] pos) (Uz C m sp ta Fd):=by
 obtain⟨fd,F,hb⟩:=G;refine(Zw (pl:=pl) he.mono c hm F hr hb .nil R3 ht).imp λσ H Q h=>⟨_,h,?_⟩;rintro x H1 ⟨a,dx,fs,h1,h2,h3,h4⟩;exact⟨a,dx,fs,h1,h2,h3,h4⟩
theorem dX{D:Addr}{pos:Pos}(hm:X.mg x=some (.ref D))(hg:Gl X x:=by rfl)(hd:(x==("__debug__":Str))=false:=by decide):PE X (.Name x pos) (tC (.ref D)):=VG hg hm rfl hd
end
theorem yS{X:Cx}{K:Frag}(e:X.K=K)(hu:X.A.units+64<cLine):OpR X (compareOp .NotEq) (aeQ K true):=e ▸ adG hu
theorem KJ{h:Heap}{o ob:Obj}{b:Addr}(e:(h.push o).get? b=some ob)(hs:b≠h.objs.size):h.get? b=some ob:=by
 obtain⟨e1,e2⟩:=Heap.get?_some_iff.mp e;refine Heap.get?_some_iff.mpr ⟨?_,e2⟩;cases h;simpa[Heap.push,Array.getElem?_push,hs]using e1
section
variable{X:Cx}
theorem Qc:∀{ys:Β}{vs:Ξ},Vals (ys.map V.str) vs->StrsAre vs ys
 |[],_,h=>by cases h;exact .nil
 |y::ys,_,h=>by
  rw[List.map_cons]at h;cases h with
  |cons a b =>
   obtain⟨t,rfl⟩:=a;exact .cons y t (Qc b)
def rJoin:V->Μ->Hp->VK->Prop:=λx vs H Q=>∃a l ys,x=.str a/\vs=[.ref l]/\H l=some (.lst (ys.map V.str))/\(ys.map (·.length)).sum+ys.length*a.length<=16777216/\Q (.str (Txt.join a ys)) H
theorem aa5:MtM X "str.join" rJoin:=by
 intro pins s σ H x vs v us Q I rx rv h;obtain⟨a,l,ys,rfl,rfl,hl,hz,q⟩:=h;obtain⟨t,rfl⟩:=rx;obtain⟨u,rfl,ru⟩:=rv.one;cases ru;obtain⟨_,its,n,r,_,e⟩:=I.lstM hl;exact join_list ⟨_,e,rfl,n,rfl⟩ (by simpa using Qc r) hz λt' k=>⟨.str _,H,I.tok _,⟨_,rfl⟩,q⟩
structure akk(K:Frag)(C:Addr):Prop where
 ha:findIn K (.ref C) "__class__"=some (some (.builtin "object.__class__"))
 hn:specialIn K (.builtin "object.__class__") "__get__"=some (some (.builtin "getset_descriptor.__get__"))
 tk:takesIn K (.builtin "object.__class__")=some true
 hm:mroIn K C (.type "object")=some true
end
section
variable{X:Cx}{elt iter:Expr}{pos:Pos}{scope:Scope}{wi:TI}{te:TE}
theorem aaj{ext:Addr->List (Str×Addr)}{fn:Str->Bool}{i0:Nat}{y0:Str}{py spos:Pos}{xs N':Β}{tg:Expr}{ifs:List Expr}{gt:TG}{tc:TT}(E:QL X scope xs ext fn)(hc:X.calm=true)(hsh:La xs X.N=N')(hkind:scope.kind=.function)(hnames:∀y∈scope.names,y.2=.local->scope.names.lookup y.1=some .local)
 (hfree:∀y∈scope.names,y.2=.free->X.env.kindOf y.1=some .cell\/X.env.kindOf y.1=some .free)(hloc:∀y∈X.N,y∉xs->(relabel scope X.env).names.lookup y≠some .local)(hq:∀y∈X.N,y∈xs->(relabel scope X.env).names.lookup (hid y)=none)(hi:PI X tg iter wi)
 (hg:∀C s₀ H₀ ex pn,PG (X.compE ext fn N' scope xs C s₀ H₀ ex pn) tg gt)(ht:∀C s₀ H₀ ex pn,PTs (X.compE ext fn N' scope xs C s₀ H₀ ex pn) ifs tc)(he:∀C s₀ H₀ ex pn,PE (X.compE ext fn N' scope xs C s₀ H₀ ex pn) elt te)(hgy:PG X (.Name y0 py) (cQ i0))(hsw:swapsWith (.ListComp elt [⟨tg,iter,ifs,0⟩] scope pos) (some (.Name y0 py)) spos.line X.env=pure true)(hs:∀z,foldedSetIterable iter X.env z=pure z) :
  PS X (.Assign [.Name y0 py] (.ListComp elt [⟨tg,iter,ifs,0⟩] scope pos) spos) (Ry (iR wi xs.length gt tc te) (cQ i0)):=by
 intro pins s σ H D0 I h;have h:iR wi xs.length gt tc te σ H (λx H1=>cQ i0 x σ H1 D0.nx):=h;rw[exec_Assign_Name_used _ _ _ _ hsw];refine ZU (wpAny_standAt (ZU ?_));show wpAny _ X.A (comprehension (.ListComp elt [⟨tg,iter,ifs,0⟩] scope pos) scope X.env _ (newList []) false (eval iter X.env) (some (assign (.Name y0 py) X.env)) >>= λ_=>_) _ _ s;refine ZU (wpAny_mono (KZ (use:=some (assign (.Name y0 py) X.env)) (post:=λ_ s'=>SP X pins D0 .next s') E hc hsh hkind hnames hfree hloc hq hi hg ht he hs I h λC D Hc s6 m fl hn6 I6 fC qn=>?_) (λ_ s' hq=>ZT (ZT hq)) λ_ _ e=>e);obtain⟨oc,es,ep,ho,hdat,_⟩:=id hn6;have I7:=I6.pinned (fp:=[C]) (λb hb=>by rw[YR.mp hb];exact fC) λb hb=>by
  rw[YR.mp hb];exact⟨oc,ho,λv z=>by rw[hdat]at z;cases z⟩
 show wpAny _ X.A (assign (.Name y0 py) X.env _) _ _ s6;refine thn (hgy _ s6 σ Hc (.ref D) _ D0.nx I7 rfl qn) λ_ s7 hP=>?_;obtain⟨σ7,H7,Z7,q7⟩:=hP;have pn7:=Z7.pin (C,oc) (aR _ (aR _ (qI (by simp) ho)));refine⟨m,hn6.at' λo e=>?_,λh' hs'=>⟨σ7,H7,Z7.unpinned.turned (it:=C) (h':=h') (t':=s7.toks) (λb o hb e=>(hs'.2 b hb).trans e) pn7.2.1 fC.2.1 fC.2.2.2.1 fC.2.2.2.2.1 fC.2.2.2.2.2,q7⟩⟩;rw[ho]at e;cases e;exact pn7.1
theorem YS{te:TE}{x:V}{σ:L2.St}{H:Hp}{Y:VK}{No:Hp->Prop}(h:te (some x::σ) H Y):zB 1 (cQ 0) Pb te x σ H Y No:=λpre hp=>by
 obtain⟨u,rfl⟩:=List.length_eq_one_iff.mp hp;exact⟨[some x],rfl,rfl,h⟩
theorem cM{K:Frag}{tl te:TE}{σ:L2.St}{H:Hp}{Q:VK}(h:tl σ H λx H1=>∃a xs,x=.ref a/\H1 a=some (.lst xs)/\xs.length<=sizeLine/\∀D,H1 D=none->∃J:Nat->Μ->Hp->Prop,J 0 [] (upd H1 D (.lst [])) /\
   (∀k x ys Hc,xs[k]?=some x->J k ys Hc->ys.length=k->Hc a=some (.lst xs)->te (some x::σ) Hc λy H2=>H2 D=some (.lst ys)/\H2 a=some (.lst xs)/\J (k+1) (ys++[y]) (upd H2 D (.lst (ys++[y])))) /\
   ∀ys Hc,J xs.length ys Hc->ys.length=xs.length->Q (.ref D) Hc):iR (CG K (tM tl)) 1 (tMG (cQ 0)) (tMT Pb) (tM te) σ H Q:=by
 refine⟨_,h,?_⟩;rintro x H1 ⟨a,xs,rfl,hx,hz,rest⟩;refine⟨a,rfl,⟨xs,.of hx⟩,λD hD=>?_⟩;obtain⟨J,j0,step,fin⟩:=rest D hD;have ne:a≠D:=bH hx hD;refine⟨λk m ys Hc=>k<=xs.length/\m=xs.length-k/\ys.length=k/\Hc a=some (.lst xs)/\J k ys Hc,⟨_,bA _,rfl,rfl,(bL ne).trans hx,j0⟩,?_⟩;rintro k m ys Hc ⟨hk,rfl,hy,hx',j⟩;by_cases e:k=xs.length
 .subst e;exact .inl ⟨⟨xs,.of hx',aG _⟩,fin ys Hc j hy⟩
 .have hlt:k<xs.length:=by exact XX hk e
  refine .inr ⟨⟨xs,_,.of hx',aj hlt⟩,?_⟩;rintro x H'' ⟨rfl,y⟩;refine(YS (No:=λ_=>False) (step k x ys H'' (y xs (.of hx')) j hy hx')).weak ?_ (λ_ z=>z.elim);rintro yv H2 ⟨z1,z2,z3⟩;refine⟨by lia,z1,xs.length-(k+1),by lia,by exact hlt,rfl,?_,?_,z3⟩
  .rw[aA,hy];rfl
  .rw[bL ne];exact z2
theorem UL{te:TE}{σ:L2.St}{H:Hp}{Q:VK}{lo:Int}{n:Nat}(hn:n<=64)(rest:∀D,H D=none->∃J:Nat->Μ->Hp->Prop,J 0 [] (upd H D (.lst []))/\(∀k ys Hc,k<n->J k ys Hc->ys.length=k->te (some (.int (lo+k))::σ) Hc λy H2=>H2 D=some (.lst ys)/\J (k+1) (ys++[y]) (upd H2 D (.lst (ys++[y]))))/\∀ys Hc,J n ys Hc->ys.length=n->Q (.ref D) Hc) :
  ∀D,H D=none->∃W:Nat->Nat->Μ->Hp->Prop,(∃m,W 0 m [] (upd H D (.lst [])))/\∀i m ys Hc,W i m ys Hc->((Itr lo n).stop i Hc/\Q (.ref D) Hc)\/((Itr lo n).go i Hc/\∀x H',(Itr lo n).yld i Hc x H'->zB 1 (tMG (cQ 0)) (tMT Pb) (tM te) x σ H' (λy H2=>ys.length<sizeLine/\H2 D=some (.lst ys)/\∃m',m'<m/\W (i+1) m' (ys++[y]) (upd H2 D (.lst (ys++[y])))) λH3=>∃m',m'<m/\W (i+1) m' ys H3):=by
 intro D hD;obtain⟨J,j0,step,fin⟩:=rest D hD;have hz:64<=sizeLine:=by decide
 refine⟨λk m ys Hc=>k<=n/\m=n-k/\ys.length=k/\J k ys Hc,⟨_,bA _,rfl,rfl,j0⟩,?_⟩;rintro k m ys Hc ⟨hk,rfl,hy,j⟩;by_cases e:k=n
 .subst e;exact .inl ⟨aG _,fin ys Hc j hy⟩
 .have hlt:k<n:=by exact XX hk e
  refine .inr ⟨hlt,?_⟩;rintro x H'' ⟨rfl,rfl⟩;refine(YS (No:=λ_=>False) (step k ys H'' hlt j hy)).weak ?_ (λ_ z=>z.elim);rintro yv H2 ⟨z1,z2⟩;exact⟨by lia,z1,n-(k+1),by lia,by exact hlt,rfl,by rw[aA,hy];rfl,z2⟩
theorem iI{ta:TA}{te:TE}{σ:L2.St}{H:Hp}{Q:VK}(h:ta σ H λvs H1=>∃n:Nat,vs=[.int n]/\n<=64/\∀D,H1 D=none->∃J:Nat->Μ->Hp->Prop,J 0 [] (upd H1 D (.lst []))/\(∀(k:Nat)ys Hc,k<n->J k ys Hc->ys.length=k->te (some (.int k)::σ) Hc λy H2=>H2 D=some (.lst ys)/\J (k+1) (ys++[y]) (upd H2 D (.lst (ys++[y]))))/\∀ys Hc,J n ys Hc->ys.length=n->Q (.ref D) Hc) :
  iR (Ql (tMA ta)) 1 (tMG (cQ 0)) (tMT Pb) (tM te) σ H Q:=by
 refine⟨_,h,?_⟩;rintro vs H1 ⟨n,rfl,hn,rest⟩;refine⟨n,rfl,by lia,by lia,?_⟩;rw[Int.toNat_natCast];refine UL hn λD hD=>?_;obtain⟨J,j0,step,fin⟩:=rest D hD;exact⟨J,j0,λk ys Hc h1 h2 h3=>by rw[Int.zero_add];exact step k ys Hc h1 h2 h3,fin⟩
end
section
variable{X:Cx}{pins:Ω}{σ:L2.St}{H:Hp}{s:Shared}{h':Heap}
theorem Inv.turnedL{t':Nat}{ch:Ε}(I:Inv X pins σ H s)(k:∀b o,b∉ch->s.heap.get? b=some o->h'.get? b=some o)(hf:∀b∈ch,EY X pins H b):Inv X pins σ H { s with heap:=h',toks:=t' }:=by
 have nit:∀b u,H b=some u->b∉ch:=λb u e z=>by rw[(hf b z).1]at e;cases e
 refine I.step (g':=s.gens) (d':=s.drawn) (ch:=ch) (λb hb=>⟨(hf b hb).2.2.2.1,(hf b hb).2.1,(hf b hb).2.2.2.2.1,(hf b hb).2.2.2.2.2⟩) (λb o _ _ hc e _=>k b o hc e) (λb o _ _ hc e _=>⟨o.slots,k b o hc e⟩) (λ_ _ _ _ n=>n) (λb o hc e=>⟨o,k b o hc e⟩) (λ_ _ e=>e) (λ_ _ _ e=>e) (λb ps e=>⟨#[],by rw[e];simp⟩) (λm hm=>?_) (λb u e=>?_) I.bare
 .obtain⟨o,es,ep,ho,r⟩:=hm;exact⟨o,es,ep,k _ o (λz=>(hf _ z).2.1 rfl) ho,r⟩
 .refine(I.hok b u e).stay (λc v hc q=>k c v ?_ q) (λ_ q=>q) λ_ _ q=>q;rcases hc with z|z
  .rw[z];exact nit b u e
  .exact nit c _ z
end
def Itz(a b:Addr):It:=⟨λi H=>∃xs ys,H a=some (.lst xs)/\H b=some (.lst ys)/\i<xs.length/\i<ys.length,λi H v H'=>∃xs ys x y t,H a=some (.lst xs)/\H b=some (.lst ys)/\xs[i]?=some x/\ys[i]?=some y/\H t=none/\v=.ref t/\H'=upd H t (.tup [x,y]),λi H=>∃xs ys,H a=some (.lst xs)/\H b=some (.lst ys)/\(xs.length<=i\/ys.length<=i)⟩
theorem qw{h g:Heap}{a l:Addr}{i:Nat}(x:h.IsListIter a l i)(k:∀o,h.get? a=some o->g.get? a=some o):g.IsListIter a l i:=by obtain⟨o,e,r⟩:=x;exact⟨o,k o e,r⟩
theorem O2{xs:Μ}{vs:Ξ} : Vals xs vs->∀{i:Nat}{x:V},xs[i]?=some x->∃u,vs[i]?=some u/\RelV x u:=by
 intro h
 induction h with
 |nil=>intro i x e;cases e
 |cons a b ih =>
  intro i x e;cases i with
  |zero=>rw[List.getElem?_cons_zero]at e;cases e;exact⟨_,rfl,a⟩
  |succ i=>rw[List.getElem?_cons_succ]at e ⊢;exact ih e
theorem Y6{P:Program}{w:World}{K:Frag}{elts:List Expr}{x1}{pos:Pos}(z TI TO i1 i2 l1 l2:Addr)(D:ZipApart z TI TO i1 i2 l1 l2) :
  Turn P w K (.Tuple elts x1 pos) (Itz l1 l2) [z,TI,TO,i1,i2] z (λi h=>IsZip h z TI TO .none/\IsPair h TI (.ref i1) (.ref i2)/\(∃p q,IsPair h TO p q)/\h.IsListIter i1 l1 i/\h.IsListIter i2 l2 i) where
 mem:=by simp
 obj:=by
  rintro i h ⟨s1,s2,⟨p,q,s3⟩,⟨o4,s4,_,d4⟩,⟨o5,s5,_,d5⟩⟩ b hb;simp only[YU,List.not_mem_nil,or_false]at hb;rcases hb with rfl|rfl|rfl|rfl|rfl
  .exact⟨_,s1,λv e=>by cases e⟩
  .exact⟨_,s2,λv e=>by cases e⟩
  .exact⟨_,s3,λv e=>by cases e⟩
  .exact⟨_,s4,λv e=>by rw[d4]at e;cases e⟩
  .exact⟨_,s5,λv e=>by rw[d5]at e;cases e⟩
 keep:=λi h h' ⟨s1,s2,⟨p,q,s3⟩,s4,s5⟩ k=>⟨k z (by simp) _ s1,k TI (by simp) _ s2,⟨p,q,k TO (by simp) _ s3⟩,qw s4 (k i1 (by simp)),qw s5 (k i2 (by simp))⟩
 item:=by
  intro X hP hw hK hc i pins s σ H E I hf st hg;subst hP hw hK;obtain⟨s1,s2,⟨p,q,s3⟩,s4,s5⟩:=st;obtain⟨xs,ys,ha,hb,lt1,lt2⟩:=hg;obtain⟨_,it1,n1,rv1,le1,g1⟩:=I.lstM ha;obtain⟨_,it2,n2,rv2,le2,g2⟩:=I.lstM hb;have ex:xs[i]?=some xs[i]:=aj lt1;have ey:ys[i]?=some ys[i]:=aj lt2;obtain⟨u,hu,ru⟩:=O2 rv1 ex;obtain⟨v,hv,rv⟩:=O2 rv2 ey;refine wpAny_pyNext_zip_item D s1 s2 s3 s4 s5 (xs:=it1.toArray) (ys:=it2.toArray) ⟨_,g1,rfl,n1,rfl⟩ ⟨_,g2,rfl,n2,rfl⟩ (x:=u) (y:=v) (by simpa using hu) (by simpa using hv) λh' a1 a2 a3 a4 a5 a6 a7=>⟨_,rfl,?_⟩;refine wpAny_letOwnedTupleGo_zip a1 λh2 st2 sb=>?_;have nt:H s.heap.objs.size=none:=I.fresh;have I1:=I.laid (a:=s.heap.objs.size) (o:=.tup [xs[i],ys[i]]) (h':=s.heap.push { cls:=.type "tuple",data:=.seq #[u,v] }) (t':=s.toks) (λb q z=>aH _ z) (aG _)
   ⟨(by show 2<=sizeLine;decide),[u,v],.cons ru (.cons rv .nil),_,aZ _ rfl,rfl,_,rfl⟩
  have nz:z≠s.heap.objs.size:=aU (aK s1);have nO:TO≠s.heap.objs.size:=aU (aK s3);have nI:TI≠s.heap.objs.size:=aU (aK s2);have n1':i1≠s.heap.objs.size:=by obtain⟨o,e,_⟩:=s4;exact aU (aK e)
  have n2':i2≠s.heap.objs.size:=by obtain⟨o,e,_⟩:=s5;exact aU (aK e)
  have fpn:∀b∈[z,TI,TO,i1,i2],upd H s.heap.objs.size (.tup [xs[i],ys[i]]) b=none:=by
   intro b hb;have f0:=(hf b hb).1;simp only[YU,List.not_mem_nil,or_false]at hb;rcases hb with rfl|rfl|rfl|rfl|rfl
   .exact(bL nz).trans f0
   .exact(bL nI).trans f0
   .exact(bL nO).trans f0
   .exact(bL n1').trans f0
   .exact(bL n2').trans f0
  have I2:=I1.turnedL (ch:=[z,TO,i1,i2]) (h':=h2) (t':=s.toks) (λb ob hb e=>by
   simp only[YU,List.not_mem_nil,or_false,not_or]at hb;obtain⟨b1,b2,b3,b4⟩:=hb;refine(sb.2 b b1).trans ?_;by_cases hs:b=s.heap.objs.size
   .subst hs;have e2:=aZ s.heap (o:={ cls:=.type "tuple",data:=.seq #[u,v] }) rfl;have e:(s.heap.push { cls:=.type "tuple",data:=.seq #[u,v] }).get? s.heap.objs.size=some ob:=e;rw[e2]at e;cases e;exact a5
   .exact a7 b _ b1 b2 b3 b4 (KJ e hs)) λb hb=>by
    have hb':b∈[z,TI,TO,i1,i2]:=by
     simp only[YU,List.not_mem_nil,or_false]at hb ⊢;rcases hb with h|h|h|h<;>simp[h]
    exact⟨fpn b hb',(hf b hb').2⟩
  have mv:∀c o,c≠z->h'.get? c=some o->h2.get? c=some o:=λc o n e=>(sb.2 c n).trans e;exact⟨.ref _,_,I2,rfl,⟨xs,ys,_,_,_,ha,hb,ex,ey,nt,rfl,rfl⟩,⟨st2,mv _ _ D.TIz (a7 _ _ D.TIz D.TITO D.TIi1 D.TIi2 s2),⟨_,_,mv _ _ D.TOz a2⟩,qw a3 λo e=>mv _ _ D.i1z e,qw a4 λo e=>mv _ _ D.i2z e⟩,fpn⟩
 done:=by
  intro X hP hw hK hc i pins s σ H E I hf st hg;subst hP hw hK;obtain⟨s1,s2,⟨p,q,s3⟩,s4,s5⟩:=st;obtain⟨xs,ys,ha,hb,lt⟩:=hg;obtain⟨_,it1,n1,rv1,le1,g1⟩:=I.lstM ha;obtain⟨_,it2,n2,rv2,le2,g2⟩:=I.lstM hb;refine wpAny_pyNext_zip_end (I.ok.hd hc) D s1 s2 s3 s4 s5 (xs:=it1.toArray) (ys:=it2.toArray) ⟨_,g1,rfl,n1,rfl⟩ ⟨_,g2,rfl,n2,rfl⟩ (by simp;lia) λh' k=>⟨rfl,I.turnedL (ch:=[z,TO,i1,i2]) (t':=s.toks) (λb ob hb e=>?_) λb hb=>?_⟩
  .simp only[YU,List.not_mem_nil,or_false,not_or]at hb;exact k b ob hb.1 hb.2.1 hb.2.2.1 hb.2.2.2 e
  .exact hf b (by
    simp only[YU,List.not_mem_nil,or_false]at hb ⊢;rcases hb with h|h|h|h<;>simp[h])
 self:=λ_ _ _ _ _ ⟨s1,_⟩ h=>wpAny_pyIter_zip s1 h
section
variable{X:Cx}
theorem W6(n l1 l2:Nat)(h1:l1<n)(h2:l2<n):ZipApart (n+4) (n+2) (n+3) n (n+1) l1 l2:=by
 constructor<;>first|exact aU (by omega)|exact Nat.ne_of_gt (by lia)
theorem abl(n b:Nat)(h:b=n+4\/b=n+2\/b=n+3\/b=n\/b=n+1):n<=b:=by lia
theorem boot_zip:bootBuiltins "zip"=some (.type "zip"):=by decide +kernel
def ahj(ta:TA):TI:=λσ H R=>ta σ H λvs H1=>∃a b xs ys,vs=[.ref a,.ref b]/\H1 a=some (.lst xs)/\H1 b=some (.lst ys)/\R (Itz a b) H1
theorem Oz{a b:Expr}{ta:TA}{elts:List Expr}{x1}{p pos tpos:Pos}(hm:X.mg "zip"=none)(ha:PA X [a,b] ta)(hg:Gl X "zip":=by rfl)(hs:starEach [a,b] X.env=[(false,eval a X.env),(false,eval b X.env)]:=by rfl)(hs2:starEach [b] X.env=[(false,eval b X.env)]:=by rfl) :
  PI X (.Tuple elts x1 tpos) (.Call (.Name "zip" p) [a,b] [] pos) (ahj ta):=by
 intro pins s σ H R I h;refine Call_ (Ad I hg hm boot_zip (PyProof.Rows.callWith_type1 (thn (ha pos pins s σ H _ I h) λus s1 hP=>?_) (by rw[hs,hs2]) (by rw[hs2];rfl)));obtain⟨vs,H1,I1,r1,q1⟩:=hP;obtain⟨l1,l2,xs,ys,e,h1,h2,q⟩:=q1;subst e;obtain⟨u,v,rfl,ru,rv⟩:=r1.two;cases ru;cases rv;obtain⟨_,it1,n1,rv1,le1,g1⟩:=I1.lstM h1;obtain⟨_,it2,n2,rv2,le2,g2⟩:=I1.lstM h2;have z1:=aK g1;have z2:=aK g2;refine call_zip_2 (xs:=it1.toArray) (ys:=it2.toArray) ⟨_,g1,rfl,n1,rfl⟩ ⟨_,g2,rfl,n2,rfl⟩ λh' a1 a2 a3 a4 a5 a6 a7=>?_;refine wpAny_pyIter_zip a1 ?_;refine⟨_,[s1.heap.objs.size+4,s1.heap.objs.size+2,s1.heap.objs.size+3,s1.heap.objs.size,s1.heap.objs.size+1],_,Itz l1 l2,H1,rfl,I1.kept (t':=s1.toks) λb ob e=>a7 b ob e,Y6 _ _ _ _ _ l1 l2 (W6 _ _ _ z1 z2),⟨a1,a2,⟨_,_,a3⟩,a4,a5⟩,λb hb=>?_,q⟩;have hb':s1.heap.objs.size<=b:=by
  simp only[YU,List.not_mem_nil,or_false]at hb;exact abl _ _ hb
 exact I1.fpOk hb' (I1.hok.fresh hb')
end
theorem uP{ta:TA}{te:TE}{gt:TG}{tc:TT}{n:Nat}{σ:L2.St}{H:Hp}{Q:VK}(h:ta σ H λvs H1=>∃a b xs ys,vs=[.ref a,.ref b]/\H1 a=some (.lst xs)/\H1 b=some (.lst ys)/\xs.length=ys.length/\xs.length<=64/\∀D,H1 D=none->∃J:Nat->Μ->Hp->Prop,J 0 [] (upd H1 D (.lst [])) /\
   (∀k x y zs Hc t,xs[k]?=some x->ys[k]?=some y->J k zs Hc->zs.length<=k->Hc t=none->Hc a=some (.lst xs)->Hc b=some (.lst ys)->zB n gt tc te (.ref t) σ (upd Hc t (.tup [x,y])) (λv H2=>H2 D=some (.lst zs)/\H2 a=some (.lst xs)/\H2 b=some (.lst ys)/\J (k+1) (zs++[v]) (upd H2 D (.lst (zs++[v])))) λH2=>H2 a=some (.lst xs)/\H2 b=some (.lst ys)/\J (k+1) zs H2) /\
   ∀zs Hc,J xs.length zs Hc->zs.length<=xs.length->Q (.ref D) Hc):iR (ahj (tMA ta)) n (tMG gt) (tMT tc) (tM te) σ H Q:=by
 refine⟨_,h,?_⟩;rintro vs H1 ⟨a,b,xs,ys,rfl,hx,hy,hl,h64,rest⟩;refine⟨a,b,xs,ys,rfl,hx,hy,λD hD=>?_⟩;obtain⟨J,j0,step,fin⟩:=rest D hD;have na:a≠D:=bH hx hD;have nb:b≠D:=bH hy hD;have z64:64<=sizeLine:=by decide
 refine⟨λk m zs Hc=>k<=xs.length/\m=xs.length-k/\zs.length<=k/\Hc a=some (.lst xs)/\Hc b=some (.lst ys)/\J k zs Hc,⟨_,bA _,rfl,bA _,(bL na).trans hx,(bL nb).trans hy,j0⟩,?_⟩;rintro k m zs Hc ⟨hk,rfl,hz,ha',hb',j⟩;by_cases e:k=xs.length
 .subst e;exact .inl ⟨⟨xs,ys,ha',hb',.inl (aG _)⟩,fin zs Hc j hz⟩
 .have hlt:k<xs.length:=by exact XX hk e
  refine .inr ⟨⟨xs,ys,ha',hb',hlt,by exact aV hlt (Nat.le_of_eq hl)⟩,?_⟩;rintro v H'' ⟨xs',ys',x,y,t,e1,e2,e3,e4,e5,rfl,rfl⟩;rw[ha']at e1;rw[hb']at e2;cases e1;cases e2;refine(step k x y zs Hc t e3 e4 j hz e5 ha' hb').weak ?_ ?_
  .rintro yv H2 ⟨z1,z2,z3,z4⟩;refine⟨by lia,z1,xs.length-(k+1),by lia,by exact hlt,rfl,?_,(bL na).trans z2,(bL nb).trans z3,z4⟩;rw[aA];simp;omega
  .rintro H2 ⟨z2,z3,z4⟩;exact⟨xs.length-(k+1),by lia,by exact hlt,rfl,by exact aM hz (X2 _ _),z2,z3,z4⟩
noncomputable def rlb(sc scope:Scope):Scope:={ scope with names:=scope.names.map λ(n,k)=>if(k==NameKind.free&&sc.kind == .function&&sc.names.lookup n==some .cell)then(n,NameKind.cell)else(n,k) }
theorem Rf{X:Cx}{K:Frag}{tg l:Expr}{tl:TE}(e:X.K=K)(hl:PE X l tl):PI X tg l (CG K tl):=e ▸ cV hl
def Cx.compGC(X:Cx)(N':Β)(scope:Scope)(x0:Str)(C:Addr)(s₀:Shared)(H₀:Hp)(ex:Ε)(pn:Ω):Cx :=
 { X with env:=compEnvC scope ((x0,C+1)::uX X.env.cells scope.names []) C X.env,N:=[x0]++N',s₀:=s₀,H₀:=H₀,outer:=X.stack,ex:=ex,fn:=λz=>z==x0,pn:=pn,xe:=λ_ _=>False }
theorem zx{env:Env}{x0:Str} : ∀{names:List (Str×NameKind)}{y:Str},y≠x0->((names.map λ(n,k)=>if(k==NameKind.free&&env.scope.kind == .function&&env.kindOf n==some .cell)then(n,NameKind.cell)else(n,k)).lookup y=some .cell \/
  (names.map λ(n,k)=>if(k==NameKind.free&&env.scope.kind == .function&&env.kindOf n==some .cell)then(n,NameKind.cell)else(n,k)).lookup y=some .free)->(∀z∈names,z.2=.cell->z.1=x0)->(y,NameKind.free)∈names
 |[],y,_,h,_=>by rcases h with h|h<;>cases h
 |(n,k)::r,y,ny,h,hc=>by
  have ih:=@zx env x0 r y ny;have hc':∀z∈r,z.2=.cell->z.1=x0:=λz hz=>hc z (aJ _ hz);simp only[List.map_cons]at h;by_cases hcond:(k==NameKind.free&&env.scope.kind == .function&&env.kindOf n==some .cell)=true
  .rw[ZY hcond]at h;have hk:k=.free:=by
    simp only[Bool.and_eq_true,beq_iff_eq]at hcond;exact hcond.1.1
   subst hk;simp only[List.lookup_cons]at h;cases hb:y==n with
   |true=>rw[show y=n by simpa using hb];exact aP
   |false=>rw[hb]at h;exact aJ _ (ih h hc')
  .rw[ZZ hcond]at h;simp only[List.lookup_cons]at h;cases hb:y==n with
   |true =>
    have e:y=n:=by simpa using hb
    rw[hb]at h;rcases h with h|h
    .cases h;exact absurd (e.trans (hc (n,.cell) aP rfl)) ny
    .cases h;rw[e];exact aP
   |false=>rw[hb]at h;exact aJ _ (ih h hc')
theorem JZ{M:Model}{A:Around}{E:Κ}{s:Shared}{scope:Scope}{globals:Addr}{closure:List (Str×Addr)}{qual:Str}{outer:Env}{x0:Str}{Q:Env->Shared->Prop}(hcf:∀n acc,cellsFrom n scope.names acc=(x0,n)::acc)(hpc:∀h,pushCells h scope.names=h.push { cls:=.type "cell",data:=.cell none })
 (hQ:∀g,g.Ns s.heap.objs.size (λx=>([] : List (Str×Value)).reverse.lookup x)->g.IsCell (s.heap.objs.size+1) none->(∀b o,s.heap.get? b=some o->g.get? b=some o)->Q (newEnv scope s.heap.objs.size globals ((x0,s.heap.objs.size+1)::closure) qual none .none (some outer) builtinsNs) { s with heap:=g,toks:=s.toks+([] : List (Str×Value)).length }) :
  wpAny M A (newFunctionEnv scope globals closure [] qual none .none (some outer)) Q E s:=by
 simp only[newFunctionEnv,Option.isSome_some,if_true];refine ZU (wpAny_alloc ?_);refine ZU (wpAny_layCells _ (λname kind cells=>by cases hkc:kind==NameKind.cell<;>simp[hkc]) _ _ _ _ ?_);rw[hcf,hpc];have z1:(s.heap.push { cls:=.type "dict",data:=.dict #[] }).objs.size=s.heap.objs.size+1:=Heap.size_push ..;show wpAny _ _ (forIn ([] : List (Str×Value)) _ _ >>= _) _ _ _;rw[List.forIn_nil];refine ZU (ZT (ZT ?_));have c1:=aZ (s.heap.push { cls:=.type "dict",data:=.dict #[] }) (o:={ cls:=.type "cell",data:=.cell none }) rfl;rw[z1]at c1;show Q (newEnv scope s.heap.objs.size globals ((x0,(s.heap.push { cls:=.type "dict",data:=.dict #[] }).objs.size)::closure) qual none .none (some outer) builtinsNs) _;rw[z1];exact hQ _ ((Heap.Ns.new s.heap (.type "dict")).at' λo e=>aH _ e) ⟨_,c1,rfl⟩ λb o e=>aH _ (aH _ e)
theorem VB{x0 y:Str}{d c:Addr}(e : [(x0,d)].lookup y=some c):y=x0/\c=d:=by
 rw[List.lookup_cons]at e;cases hy:y==x0 with
 |true=>rw[hy]at e;cases e;exact⟨by simpa using hy,rfl⟩
 |false=>rw[hy]at e;cases e
theorem ext1{X:Cx}{scope:Scope}{x0:Str}(hcf:∀n acc,cellsFrom n scope.names acc=(x0,n)::acc)(hpc:∀h,pushCells h scope.names=h.push { cls:=.type "cell",data:=.cell none })(hcl1:∀y∈scope.names,y.2=.cell->y.1=x0):QL X scope [x0] (λC=>[(x0,C+1)]) (λz=>z==x0) :=
 ⟨λhQ=>JZ hcf hpc λg hns hcl kg=>hQ g hns (λy c e=>by rw[(VB e).2];exact hcl) kg,λC y c e=>by rw[(VB e).2];exact X1 _,λC y z c e1 e2=>(VB e1).1.trans (VB e2).1.symm,λC y e=>⟨C+1,by rw[beq_iff_eq.mp e];exact List.lookup_cons_self⟩,λC y e=>by
  rw[List.lookup_cons,beq_eq_false_iff_ne.mpr λz=>e (by rw[z];simp)]
  rfl,λC y e=>by
  by_cases ny:y=x0
  .exact .inl ⟨C+1,by rw[ny];exact List.lookup_cons_self⟩
  .exact .inr (zx ny e hcl1)⟩
theorem Jj{ta:TA}{g:TG}{tb:TS}{D:Ends}{σ:L2.St}{H:Hp}(h:ta σ H λvs H1=>∃(lo hi:Int)(n:Nat),vs=[.int lo,.int hi]/\(hi-lo).toNat=n/\lo.natAbs<=1000000/\hi.natAbs<=1000000/\∃J:Nat->L2.St->Hp->Prop,J 0 σ H1 /\
   (∀(k:Nat)σ' H',k<n->J k σ' H'->g (.int (lo+k)) σ' H' λσ2 H2=>tb { D with nx:=J (k+1),ct:=J (k+1),bk:=D.nx } σ2 H2)/\∀σ' H',J n σ' H'->D.nx σ' H'):RQ (acQ (tMA ta)) g tb D σ H:=by
 refine⟨_,h,?_⟩;rintro vs H1 ⟨lo,hi,n,rfl,rfl,hlo,hhi,J,j0,step,fin⟩;refine⟨lo,hi,rfl,by omega,λk m σ' H'=>k<=(hi-lo).toNat/\m=(hi-lo).toNat-k/\J k σ' H',⟨_,bA _,rfl,j0⟩,?_⟩;rintro k m σ' H' ⟨hk,rfl,j⟩;by_cases e:k=(hi-lo).toNat
 .subst e;exact .inl ⟨aG _,fin σ' H' j⟩
 .have hlt:k<(hi-lo).toNat:=by exact XX hk e
  refine .inr ⟨hlt,J (k+1),λσ3 H3 z=>⟨(hi-lo).toNat-(k+1),by omega,by exact hlt,rfl,z⟩,?_⟩;rintro x H'' ⟨rfl,rfl⟩;exact step k σ' H'' hlt j
theorem Pq{ta:TA}{tc:TT}{te:TE}{σ:L2.St}{H:Hp}{Q:VK}(h:ta σ H λvs H1=>∃n:Nat,vs=[.int n]/\n<=64/\∀D,H1 D=none->∃J:Nat->Μ->Hp->Prop,J 0 [] (upd H1 D (.lst [])) /\
   (∀(k:Nat)ys Hc,k<n->J k ys Hc->ys.length<=k->tc (some (.int k)::σ) Hc λb H3=>match b with|true=>te (some (.int k)::σ) H3 λy H2=>H2 D=some (.lst ys)/\J (k+1) (ys++[y]) (upd H2 D (.lst (ys++[y])))|false=>J (k+1) ys H3)/\∀ys Hc,J n ys Hc->ys.length<=n->Q (.ref D) Hc) :
  iR (Ql (tMA ta)) 1 (tMG (cQ 0)) (tMT tc) (tM te) σ H Q:=by
 refine⟨_,h,?_⟩;rintro vs H1 ⟨n,rfl,hn,rest⟩;refine⟨n,rfl,by lia,by lia,?_⟩;rw[Int.toNat_natCast];intro D hD;obtain⟨J,j0,step,fin⟩:=rest D hD;have hz:64<=sizeLine:=by decide
 refine⟨λk m ys Hc=>k<=n/\m=n-k/\ys.length<=k/\J k ys Hc,⟨_,bA _,rfl,aG _,j0⟩,?_⟩;rintro k m ys Hc ⟨hk,rfl,hy,j⟩;by_cases e:k=n
 .subst e;exact .inl ⟨aG _,fin ys Hc j hy⟩
 .have hlt:k<n:=by exact XX hk e
  refine .inr ⟨hlt,?_⟩;rintro x H'' ⟨rfl,rfl⟩;rw[Int.zero_add];have st:=step k ys H'' hlt j hy;have tn:zB 1 (cQ 0) tc te (.int k) σ H'' (λy H2=>H2 D=some (.lst ys)/\J (k+1) (ys++[y]) (upd H2 D (.lst (ys++[y])))) λH3=>J (k+1) ys H3:=by
   intro pre hp;obtain⟨u,rfl⟩ : ∃u,pre=[u]:=by
    match pre,hp with
    |[u],_=>exact⟨u,rfl⟩
   exact⟨[some (.int k)],rfl,rfl,st⟩
  refine tn.weak ?_ ?_
  .rintro yv H2 ⟨z1,z2⟩;exact⟨by lia,z1,n-(k+1),by omega,by exact hlt,rfl,by rw[aA];exact Nat.succ_le_succ hy,z2⟩
  .intro H3 z;exact⟨n-(k+1),by omega,by exact hlt,rfl,Nat.le_succ_of_le hy,z⟩
def Ite(l:Addr):It:=⟨λi H=>∃xs,H l=some (.lst xs)/\i<xs.length,λi H v H'=>∃xs x t,H l=some (.lst xs)/\xs[i]?=some x/\H t=none/\v=.ref t/\H'=upd H t (.tup [.int i,x]),λi H=>∃xs,H l=some (.lst xs)/\xs.length<=i⟩
theorem Xq{P:Program}{w:World}{K:Frag}{elts:List Expr}{x1}{pos:Pos}(e it l:Addr)(hne:e≠it) :
  Turn P w K (.Tuple elts x1 pos) (Ite l) [e,it] e (λi h=>(∃old,IsEnum h e it ((i:Nat):Int) old)/\h.IsListIter it l i) where
 mem:=by simp
 obj:=by
  rintro i h ⟨⟨old,s1⟩,⟨o4,s4,_,d4⟩⟩ b hb;simp only[YU,List.not_mem_nil,or_false]at hb;rcases hb with rfl|rfl
  .exact⟨_,s1,λv e=>by cases e⟩
  .exact⟨_,s4,λv e=>by rw[d4]at e;cases e⟩
 keep:=λi h h' ⟨⟨old,s1⟩,s4⟩ k=>⟨⟨old,k e (by simp) _ s1⟩,qw s4 (k it (by simp))⟩
 item:=by
  intro X hP hw hK hc i pins s σ H E I hf st hg;subst hP hw hK;obtain⟨⟨old,s1⟩,s4⟩:=st;obtain⟨xs,ha,lt1⟩:=hg;obtain⟨_,it1,n1,rv1,le1,g1⟩:=I.lstM ha;have ex:xs[i]?=some xs[i]:=aj lt1;obtain⟨u,hu,ru⟩:=O2 rv1 ex;refine wpAny_pyNext_enum_item s1 s4 (items:=it1.toArray) ⟨_,g1,rfl,n1,rfl⟩ (x:=u) (by simpa using hu) hne λh' a1 a3 a5 a6 a7=>⟨_,rfl,?_⟩;refine wpAny_letOwnedTupleGo_enum a1 λh2 st2 sb=>?_;have nt:H s.heap.objs.size=none:=I.fresh;have I1:=I.laid (a:=s.heap.objs.size) (o:=.tup [.int i,xs[i]]) (h':=s.heap.push { cls:=.type "tuple",data:=.seq #[.int i s.toks,u] }) (t':=s.toks+1) (λb q z=>aH _ z) (aG _)
   ⟨(by show 2<=sizeLine;decide),[.int i s.toks,u],.cons ⟨_,rfl⟩ (.cons ru .nil),_,aZ _ rfl,rfl,_,rfl⟩
  have nz:e≠s.heap.objs.size:=aU (aK s1);have n1':it≠s.heap.objs.size:=by obtain⟨o,e,_⟩:=s4;exact aU (aK e)
  have fpn:∀b∈[e,it],upd H s.heap.objs.size (.tup [.int i,xs[i]]) b=none:=by
   intro b hb;have f0:=(hf b hb).1;simp only[YU,List.not_mem_nil,or_false]at hb;rcases hb with rfl|rfl
   .exact(bL nz).trans f0
   .exact(bL n1').trans f0
  have I2:=I1.turnedL (ch:=[e,it]) (h':=h2) (t':=s.toks+1) (λb ob hb z=>by
   simp only[YU,List.not_mem_nil,or_false,not_or]at hb;obtain⟨b1,b3⟩:=hb;refine(sb.2 b b1).trans ?_;by_cases hs:b=s.heap.objs.size
   .subst hs;have e2:=aZ s.heap (o:={ cls:=.type "tuple",data:=.seq #[.int i s.toks,u] }) rfl;have z:(s.heap.push { cls:=.type "tuple",data:=.seq #[.int i s.toks,u] }).get? s.heap.objs.size=some ob:=z;rw[e2]at z;cases z;exact a5
   .exact a7 b _ b1 b3 (KJ z hs)) λb hb=>⟨fpn b hb,(hf b hb).2⟩
  have mv:∀c o,c≠e->h'.get? c=some o->h2.get? c=some o:=λc o n z=>(sb.2 c n).trans z;exact⟨.ref _,_,I2,rfl,⟨xs,_,_,ha,ex,nt,rfl,rfl⟩,⟨⟨_,by rw[Int.natCast_add];exact st2⟩,qw a3 λo z=>mv _ _ (λy=>hne y.symm) z⟩,fpn⟩
 done:=by
  intro X hP hw hK hc i pins s σ H E I hf st hg;subst hP hw hK;obtain⟨⟨old,s1⟩,s4⟩:=st;obtain⟨xs,ha,lt⟩:=hg;obtain⟨_,it1,n1,rv1,le1,g1⟩:=I.lstM ha;have hl:=rv1.length;refine wpAny_pyNext_enum_end (I.ok.hd hc) s1 s4 (items:=it1.toArray) ⟨_,g1,rfl,n1,rfl⟩ (by simp;lia) λh' k=>⟨rfl,I.turnedL (ch:=[e,it]) (t':=s.toks) (λb ob hb z=>?_) hf⟩;simp only[YU,List.not_mem_nil,or_false,not_or]at hb;exact k b ob hb.2 z
 self:=λ_ _ _ _ _ ⟨⟨_,s1⟩,_⟩ h=>wpAny_pyIter_enum s1 h
section
variable{X:Cx}
def Zi(ta:TA):TI:=λσ H R=>ta σ H λvs H1=>∃a xs,vs=[.ref a]/\H1 a=some (.lst xs)/\R (Ite a) H1
theorem Fw{a:Expr}{ta:TA}{elts:List Expr}{x1}{p pos tpos:Pos}(hm:X.mg "enumerate"=none)(ha:PA X [a] ta)(hg:Gl X "enumerate":=by rfl)(hs:starEach [a] X.env=[(false,eval a X.env)]:=by rfl) :
  PI X (.Tuple elts x1 tpos) (.Call (.Name "enumerate" p) [a] [] pos) (Zi ta):=by
 intro pins s σ H R I h;refine Call_ (Ad I hg hm boot_enumerate (PyProof.Rows.callWith_type1 (thn (ha pos pins s σ H _ I h) λus s1 hP=>?_) (by rw[hs];rfl) (by rfl)));obtain⟨vs,H1,I1,r1,q1⟩:=hP;obtain⟨l1,xs,e,h1,q⟩:=q1;subst e;obtain⟨u,rfl,ru⟩:=r1.one;cases ru;obtain⟨_,it1,n1,rv1,le1,g1⟩:=I1.lstM h1;refine call_enumerate_list (items:=it1.toArray) ⟨_,g1,rfl,n1,rfl⟩ λh' a1 a2 a3 a7=>?_;refine wpAny_pyIter_enum a1 ?_;refine⟨_,[s1.heap.objs.size+1,s1.heap.objs.size],_,Ite l1,H1,rfl,I1.kept (t':=s1.toks) λb ob e=>a7 b ob e,Xq _ _ l1 (Nat.succ_ne_self _),⟨⟨_,a1⟩,a2⟩,λb hb=>?_,q⟩;have hb':s1.heap.objs.size<=b:=by
  simp only[YU,List.not_mem_nil,or_false]at hb;rcases hb with z|z
  .rw[z];exact Xs _
  .rw[z];exact aG _
 exact I1.fpOk hb' (I1.hok.fresh hb')
end
theorem Ae{ta:TA}{g:TG}{tb:TS}{D:Ends}{σ:L2.St}{H:Hp}(h:ta σ H λvs H1=>∃a xs,vs=[.ref a]/\H1 a=some (.lst xs)/\∃J:Nat->L2.St->Hp->Prop,J 0 σ H1 /\
   (∀(k:Nat)x σ' H' t,xs[k]?=some x->J k σ' H'->H' a=some (.lst xs)->H' t=none->g (.ref t) σ' (upd H' t (.tup [.int k,x])) λσ2 H2=>tb { D with nx:=λσ3 H3=>H3 a=some (.lst xs)/\J (k+1) σ3 H3,ct:=λσ3 H3=>H3 a=some (.lst xs)/\J (k+1) σ3 H3,bk:=D.nx } σ2 H2) /\
   ∀σ' H',J xs.length σ' H'->H' a=some (.lst xs)->D.nx σ' H'):RQ (Zi (tMA ta)) g tb D σ H:=by
 refine⟨_,h,?_⟩;rintro vs H1 ⟨a,xs,rfl,hx,J,j0,step,fin⟩;refine⟨a,xs,rfl,hx,λk m σ' H'=>k<=xs.length/\m=xs.length-k/\H' a=some (.lst xs)/\J k σ' H',⟨_,bA _,rfl,hx,j0⟩,?_⟩;rintro k m σ' H' ⟨hk,rfl,ha',j⟩;by_cases e:k=xs.length
 .subst e;exact .inl ⟨⟨xs,ha',aG _⟩,fin σ' H' j ha'⟩
 .have hlt:k<xs.length:=by exact XX hk e
  refine .inr ⟨⟨xs,ha',hlt⟩,λσ3 H3=>H3 a=some (.lst xs)/\J (k+1) σ3 H3,λσ3 H3 ⟨z1,z3⟩=>⟨xs.length-(k+1),by lia,by exact hlt,rfl,z1,z3⟩,?_⟩;rintro v H'' ⟨xs',x,t,e1,e3,e5,rfl,rfl⟩;rw[ha']at e1;cases e1;exact step k x σ' H' t e3 j ha' e5
section
variable{X:Cx}
def ae1:Μ->Hp->VK->Prop:=λxs H Q=>∃p kvs,xs=[.ref p]/\H p=some (.dK kvs)/\Q (.int kvs.length) H
theorem Lk:iH X (.builtin "len") ae1:=by
 intro pins s σ H xs us Q I r h;obtain⟨p,kvs,rfl,hq,q⟩:=h;obtain⟨u,rfl,rx⟩:=vals1 r;cases rx;obtain⟨z,y,vs,kv,d⟩:=(show gj X.prog X.w H s.heap p (.dK kvs)from I.hok p _ hq);have hl:=v8;have hlen:kvs.length=vs.length:=kv.length;exact call_len_dict y d (by lia) ⟨.int kvs.length,H,I.tok _,⟨_,by rw[hlen]⟩,q⟩
theorem abV{e:Expr}{ta:TE}{f:Str}{pos:Pos}{K':Frag}(hK:X.K=K')(he:PE X e ta)(hb:attributeBase e f X.env (eval e X.env)=eval e X.env):PE X (.Attribute e f pos) (adR K' ta f):=hK ▸ sV he hb
theorem Vu(c:Nat):∀(n:Nat)(acc:Array Nat),((List.replicate n #[c]).foldl (· ++ ·) acc).toList=acc.toList++List.replicate n c
 |0,acc=>by simp
 |n+1,acc=>by
  rw[List.replicate_succ,List.foldl_cons,Vu c n,Array.toList_append,WZ]
  rfl
def ac6:R2:=λx y H Q=>∃c n,x=.str ⟨#[c]⟩/\y=.int n/\1<=n/\n<=1000/\∀z:Str,z.cps.toList=List.replicate n.toNat c->Q (.str z) H
theorem aaZ:OpR X (binaryOp .Mult) ac6:=by
 intro pins s σ H x y v u Q I rx ry h;obtain⟨c,n,rfl,rfl,h0,h1,q⟩:=h;obtain⟨t,rfl⟩:=rx;obtain⟨t',rfl⟩:=ry;have hi:(⟨#[c]⟩ : Str).length=1:=rfl;have made:∀z:Str,z.cps.toList=List.replicate n.toNat c->(Made.str z).post (EP X pins σ Q) s:=λz hz=>⟨by
  have:z.length=n.toNat:=by
   show z.cps.size=_;rw[<- Array.length_toList,hz,aO]
  exact aM (show z.length<=1001 by lia) (by decide),.str z,H,I.tok _,⟨_,rfl⟩,q z hz⟩
 refine PySem.P.mul_str ?_ (λ_ _=>?_) (λ_ _=>?_) ?_
 .rw[Zp (by lia),Zp (by lia)];rfl
 .rw[hi];have:1<=(2^63-1:Int)/n:=Int.le_ediv_of_mul_le (by omega) (by lia);lia
 .rw[hi];unfold Builtin.Str.tooLong;exact Zp (by
   have:n.toNat<=1000:=by lia
   have e:1000<=sizeLine:=by decide
   lia)
 .split
  .lia
  .split
   .rename_i hc
    rw[hi]at hc;have e:n.toNat=1:=by
     simp at hc;lia
    refine⟨.str ⟨#[c]⟩,H,I,⟨t,rfl⟩,q _ ?_⟩;rw[e];rfl
   .refine made _ ?_;show((List.replicate n.toNat #[c]).foldl (· ++ ·) #[]).toList=_;rw[Vu];rfl
end
theorem R_{ta:TA}{te:TE}{gt:TG}{tc:TT}{n:Nat}{σ:L2.St}{H:Hp}{Q:VK}(h:ta σ H λvs H1=>∃a xs,vs=[.ref a]/\H1 a=some (.lst xs)/\xs.length<=64/\∀D,H1 D=none->∃J:Nat->Μ->Hp->Prop,J 0 [] (upd H1 D (.lst [])) /\
   (∀(k:Nat)x zs Hc t,xs[k]?=some x->J k zs Hc->zs.length<=k->Hc t=none->Hc a=some (.lst xs)->zB n gt tc te (.ref t) σ (upd Hc t (.tup [.int k,x])) (λv H2=>H2 D=some (.lst zs)/\H2 a=some (.lst xs)/\J (k+1) (zs++[v]) (upd H2 D (.lst (zs++[v])))) λH2=>H2 a=some (.lst xs)/\J (k+1) zs H2) /\
   ∀zs Hc,J xs.length zs Hc->zs.length<=xs.length->Q (.ref D) Hc):iR (Zi (tMA ta)) n (tMG gt) (tMT tc) (tM te) σ H Q:=by
 refine⟨_,h,?_⟩;rintro vs H1 ⟨a,xs,rfl,hx,h64,rest⟩;refine⟨a,xs,rfl,hx,λD hD=>?_⟩;obtain⟨J,j0,step,fin⟩:=rest D hD;have na:a≠D:=bH hx hD;have z64:64<=sizeLine:=by decide
 refine⟨λk m zs Hc=>k<=xs.length/\m=xs.length-k/\zs.length<=k/\Hc a=some (.lst xs)/\J k zs Hc,⟨_,bA _,rfl,bA _,(bL na).trans hx,j0⟩,?_⟩;rintro k m zs Hc ⟨hk,rfl,hz,ha',j⟩;by_cases e:k=xs.length
 .subst e;exact .inl ⟨⟨xs,ha',aG _⟩,fin zs Hc j hz⟩
 .have hlt:k<xs.length:=by exact XX hk e
  refine .inr ⟨⟨xs,ha',hlt⟩,?_⟩;rintro v H'' ⟨xs',x,t,e1,e3,e5,rfl,rfl⟩;rw[ha']at e1;cases e1;refine(step k x zs Hc t e3 j hz e5 ha').weak ?_ ?_
  .rintro yv H2 ⟨z1,z2,z4⟩;refine⟨by lia,z1,xs.length-(k+1),by lia,by exact hlt,rfl,?_,(bL na).trans z2,z4⟩;rw[aA];simp;omega
  .rintro H2 ⟨z2,z4⟩;exact⟨xs.length-(k+1),by lia,by exact hlt,rfl,by exact aM hz (X2 _ _),z2,z4⟩
theorem fsc{N P:Β}{sc:Scope}(h1:sc.kind=.function:=by rfl)(h2:sc.isCoroutine=false:=by rfl)(h3:sc.isGenerator=false:=by rfl)(h4:N.Nodup/\(∀x∈P,sc.names.lookup x=some .local\/sc.names.lookup x=some .cell)/\∀y∈sc.names,y.2≠.free:=by decide +kernel)(h5:N.take P.length=P:=by rfl):bW N P sc:=⟨h1,h2,h3,h4.1,h5,h4.2.1,h4.2.2⟩
abbrev CK0(sc scope:Scope)(N N' xs:Β):Prop:=La xs N=N'/\(∀y∈scope.names,y.2=.local->scope.names.lookup y.1=some .local)/\(∀y∈scope.names,y.2=.free->sc.names.lookup y.1=some .cell\/sc.names.lookup y.1=some .free) /\
 (∀y∈N,y∉xs->(scope.names.map λ(n,k)=>if(k==NameKind.free&&sc.kind == .function&&sc.names.lookup n==some .cell)then(n,NameKind.cell)else(n,k)).lookup y≠some .local)/\∀y∈N,y∈xs->(scope.names.map λ(n,k)=>if(k==NameKind.free&&sc.kind == .function&&sc.names.lookup n==some .cell)then(n,NameKind.cell)else(n,k)).lookup (hid y)=none
abbrev CK(sc scope:Scope)(N N' xs:Β):Prop:=(∀y∈scope.names,y.2≠.cell)/\CK0 sc scope N N' xs
section
variable{X:Cx}{elt iter tg:Expr}{pos:Pos}{scope:Scope}{wi:TI}{te:TE}{ifs:List Expr}{gt:TG}{tc:TT}
theorem kJ(sc:Scope)(N N' xs:Β)(hi:PI X tg iter wi)(hg:∀{C s₀ H₀ ex pn},PG (X.compG N' scope xs C s₀ H₀ ex pn) tg gt)(ht:∀{C s₀ H₀ ex pn},PTs (X.compG N' scope xs C s₀ H₀ ex pn) ifs tc)(he:∀{C s₀ H₀ ex pn},PE (X.compG N' scope xs C s₀ H₀ ex pn) elt te)
 (hsc:X.env.scope=sc:=by rfl)(hNN:X.N=N:=by rfl)(hc:X.calm=true:=by rfl)(hk:scope.kind=.function:=by rfl)(h:CK sc scope N N' xs:=by decide +kernel)(hs:∀z,foldedSetIterable iter X.env z=pure z:=by intro _;rfl):PE X (.ListComp elt [⟨tg,iter,ifs,0⟩] scope pos) (iR wi xs.length (tMG gt) (tMT tc) (tM te)) :=
 by
 subst hsc hNN;exact Q5 (aiG hk h.1) hc h.2.1 hk h.2.2.1 h.2.2.2.1 h.2.2.2.2.1 h.2.2.2.2.2 hi (λ_ _ _ _ _=>hg.mono) (λ_ _ _ _ _=>ht.mono) (λ_ _ _ _ _=>he.mono) hs
theorem yh{i0:Nat}{y0:Str}{py spos:Pos}(sc:Scope)(N N' xs:Β)(hi:PI X tg iter wi)(hg:∀{C s₀ H₀ ex pn},PG (X.compG N' scope xs C s₀ H₀ ex pn) tg gt)(ht:∀{C s₀ H₀ ex pn},PTs (X.compG N' scope xs C s₀ H₀ ex pn) ifs tc)(he:∀{C s₀ H₀ ex pn},PE (X.compG N' scope xs C s₀ H₀ ex pn) elt te)(hgy:PG X (.Name y0 py) (cQ i0))
 (hsc:X.env.scope=sc:=by rfl)(hNN:X.N=N:=by rfl)(hc:X.calm=true:=by rfl)(hk:scope.kind=.function:=by rfl)(h:CK sc scope N N' xs:=by decide +kernel)(hsw:swapsWith (.ListComp elt [⟨tg,iter,ifs,0⟩] scope pos) (some (.Name y0 py)) spos.line X.env=pure true:=by rfl)(hs:∀z,foldedSetIterable iter X.env z=pure z:=by intro _;rfl) :
  PS X (.Assign [.Name y0 py] (.ListComp elt [⟨tg,iter,ifs,0⟩] scope pos) spos) (Ry (iR wi xs.length (tMG gt) (tMT tc) (tM te)) (cQ i0)) :=
 by
 subst hsc hNN;exact aaj (aiG hk h.1) hc h.2.1 hk h.2.2.1 h.2.2.2.1 h.2.2.2.2.1 h.2.2.2.2.2 hi (λ_ _ _ _ _=>hg.mono) (λ_ _ _ _ _=>ht.mono) (λ_ _ _ _ _=>he.mono) hgy hsw hs
theorem dH{N' xs:Β}{C s₀ H₀ ex pn}{i:Nat}{x:Str}{p:Pos}(hN:(xs++N').Nodup:=by decide +kernel)(hi:(xs++N')[i]?=some x:=by rfl)(hx:Loc (X.compG N' scope xs C s₀ H₀ ex pn).env.scope x:=by exact Or.inl rfl)(hf:(X.compG N' scope xs C s₀ H₀ ex pn).fn x=true\/(X.compG N' scope xs C s₀ H₀ ex pn).env.scope.names.lookup x=some .local:=by exact Or.inr rfl):PG (X.compG N' scope xs C s₀ H₀ ex pn) (.Name x p) (cQ i):=cB (hN:=hN) (hi:=hi) (hx:=hx) (hf:=hf)
theorem Ux(sc:Scope)(N N':Β)(x0:Str)(hi:PI X tg iter wi)(hg:∀{C s₀ H₀ ex pn},PG (X.compGC N' scope x0 C s₀ H₀ ex pn) tg gt)(ht:∀{C s₀ H₀ ex pn},PTs (X.compGC N' scope x0 C s₀ H₀ ex pn) ifs tc)(he:∀{C s₀ H₀ ex pn},PE (X.compGC N' scope x0 C s₀ H₀ ex pn) elt te)
 (hsc:X.env.scope=sc:=by rfl)(hNN:X.N=N:=by rfl)(hc:X.calm=true:=by rfl)(hk:scope.kind=.function:=by rfl)(hcf:∀n acc,cellsFrom n scope.names acc=(x0,n)::acc:=by intro _ _;rfl)(hpc:∀h,pushCells h scope.names=h.push { cls:=.type "cell",data:=.cell none }:=by intro _;rfl)(h:(∀y∈scope.names,y.2=.cell->y.1=x0)/\CK0 sc scope N N' [x0]:=by decide +kernel)(hs:∀z,foldedSetIterable iter X.env z=pure z:=by intro _;rfl):PE X (.ListComp elt [⟨tg,iter,ifs,0⟩] scope pos) (iR wi 1 (tMG gt) (tMT tc) (tM te)):=by
 subst hsc hNN;exact Q5 (ext1 hcf hpc h.1) hc h.2.1 hk h.2.2.1 h.2.2.2.1 h.2.2.2.2.1 h.2.2.2.2.2 hi (λ_ _ _ _ _=>hg.mono) (λ_ _ _ _ _=>ht.mono) (λ_ _ _ _ _=>he.mono) hs
theorem Ui{N':Β}{x0:Str}{C s₀ H₀ ex pn}{p:Pos}(hN:([x0]++N').Nodup:=by decide +kernel)(hx:Loc (X.compGC N' scope x0 C s₀ H₀ ex pn).env.scope x0:=by exact Or.inr rfl):PG (X.compGC N' scope x0 C s₀ H₀ ex pn) (.Name x0 p) (cQ 0):=cB (hN:=hN) (hi:=rfl) (hx:=hx) (hf:=(.inl (beq_self_eq_true _)))
theorem Ti{N0:Β}{x0:Str}{sO:Scope}{C0:Addr}{s0:Shared}{H0:Hp}{ex0:Ε}{pn0:Ω}(sc:Scope)(N N' xs:Β)(hi:PI (X.compGC N0 sO x0 C0 s0 H0 ex0 pn0) tg iter wi)(hg:∀{C s₀ H₀ ex pn},PG ((X.compGC N0 sO x0 C0 s0 H0 ex0 pn0).compG N' scope xs C s₀ H₀ ex pn) tg gt)(ht:∀{C s₀ H₀ ex pn},PTs ((X.compGC N0 sO x0 C0 s0 H0 ex0 pn0).compG N' scope xs C s₀ H₀ ex pn) ifs tc)(he:∀{C s₀ H₀ ex pn},PE ((X.compGC N0 sO x0 C0 s0 H0 ex0 pn0).compG N' scope xs C s₀ H₀ ex pn) elt te)
 (hsc:X.env.scope=sc:=by rfl)(hNN : [x0]++N0=N:=by rfl)(hc:X.calm=true:=by rfl)(hk:scope.kind=.function:=by rfl)(h:CK (rlb sc sO) scope N N' xs:=by decide +kernel)(hs:∀z,foldedSetIterable iter (X.compGC N0 sO x0 C0 s0 H0 ex0 pn0).env z=pure z:=by intro _;rfl):PE (X.compGC N0 sO x0 C0 s0 H0 ex0 pn0) (.ListComp elt [⟨tg,iter,ifs,0⟩] scope pos) (iR wi xs.length (tMG gt) (tMT tc) (tM te)):=by
 subst hsc hNN;exact kJ (X:=X.compGC N0 sO x0 C0 s0 H0 ex0 pn0) (rlb X.env.scope sO) _ N' xs hi hg ht he rfl rfl hc hk h hs
end
theorem RJ{tl te:TE}{σ:L2.St}{H:Hp}{Q:VK}(p:Nat->Bool)(y:Str)(hl:∀R:VK,R (.str y) H->tl σ H R)(hz:y.length<=sizeLine)(he:∀(c:Nat)(Hc:Hp)(R:VK),R (.bl (p c)) Hc->te (some (.str ⟨#[c]⟩)::σ) Hc R)
 (q:∀D,H D=none->Q (.ref D) (upd H D (.lst ((y.cps.toList.map p).map V.bl)))):iR (af3 (tM tl)) 1 (tMG (cQ 0)) (tMT Pb) (tM te) σ H Q:=by
 refine adf (hl _ ⟨y,rfl,λD hD=>?_⟩);have hy:y.cps.size<=sizeLine:=hz;refine⟨λk m ys Hc=>k<=y.cps.size/\m=y.cps.size-k/\ys=((y.cps.toList.take k).map p).map V.bl/\Hc=upd H D (.lst ys),⟨_,bA _,rfl,rfl,rfl⟩,?_⟩;rintro k m ys Hc ⟨hk,rfl,rfl,rfl⟩;by_cases e:k=y.cps.size
 .subst e;refine .inl ⟨rfl,?_⟩;rw[aL (by simp)];exact q D hD
 .have hlt:k<y.cps.size:=by exact XX hk e
  refine .inr ⟨hlt,?_⟩;rintro x H'' ⟨rfl,c,hc,rfl⟩;refine(YS (No:=λ_=>False) (he c _ (λv H2=>v=.bl (p c)/\H2=upd H D (.lst (((y.cps.toList.take k).map p).map V.bl))) ⟨rfl,rfl⟩)).weak ?_ λ_ z=>z.elim;rintro v H2 ⟨rfl,rfl⟩;refine⟨?_,bG,y.cps.size-(k+1),by lia,by exact hlt,rfl,?_,?_⟩
  .rw[ak,ak,bw];simp only[Array.length_toList];lia
  .have e1:y.cps.toList.take (k+1)=y.cps.toList.take k++[c]:=by
    rw[List.take_succ];have:y.cps.toList[k]?=some c:=by simpa using hc
    rw[this];rfl
   rw[e1,bC,bC];rfl
  .exact oH
theorem aiK{K:Frag}{a:Addr}{i j:Int}{d:Η}{n:Nat}{sl:Array (Ζ)}{t u:Tok}(l:K.lookup a=some ⟨.type "tuple",d,.seq #[.int i t,.int j u] n,sl⟩):∀H,SqT K H a [.int i,.int j]:=λH=>.inr ⟨_,_,_,l,rfl,rfl,(by show 2<=sizeLine;decide),.cons ⟨_,rfl⟩ (.cons ⟨_,rfl⟩ .nil)⟩
theorem ajF{K:Frag}{h:Heap}{mg:Str->Ζ}{x:Str}{i:Int}{t:Tok}(X:K.In h)(G:h.Ns mainGlobals mg)(l:nsIn K mainGlobals x=some (some (.int i t))):∃u,mg x=some u/\RelV (.int i) u:=⟨_,mg_of X G l,_,rfl⟩
def Lst:Nat->(Ξ->Prop)->Prop
 |0,P=>P []
 |n+1,P=>∀a,Lst n λl=>P (a::l)
theorem Ml:∀(n:Nat){P:Ξ->Prop},Lst n P->∀us:Ξ,us.length=n->P us
 |0,_,h,[],_=>h
 |n+1,_,h,a::l,e=>Ml n (h a) l (Nat.succ.inj e)
section
variable{K:Frag}{h:Heap}{mg:Str->Ζ}{x m qual:Str}{v:Value}{C f:Addr}{st:Stmt}{ps:Β}{oc:Value}{od an:Η}{osl:Array (Ζ)}{kV doc pm cdv ct:Value}{i j:Int}{d:Η}{n:Nat}{sl:Array (Ζ)}{t u:Tok}
theorem q_c(X:K.In h:=by assumption)(G:h.Ns mainGlobals mg:=by assumption)(e:nsIn K mainGlobals x=some (some v):=by k_is):mg x=some v:=mg_of X G e
theorem q_z(X:K.In h:=by assumption)(G:h.Ns mainGlobals mg:=by assumption)(e:nsIn K mainGlobals x=some none:=by k_is):mg x=none:=PySem.W.mg_none_of X G e
theorem q_n(e:findIn K (.ref C) x=some none:=by k_is):dO K C x:=e
theorem q_m(a:findIn K (.ref C) m=some (some (.ref f)):=by k_is)(b:isFn K (.ref f)=true:=by k_is)(c:keepIn K (.ref f)=true:=by k_is):Meth K C m f:=⟨a,b,c⟩
theorem q_M(a:makesIn K C=true:=by k_is)(b:findIn K (.ref C) "__init__"=some (some (.ref f)):=by k_is)(c:isFn K (.ref f)=true:=by k_is)(e:keepIn K (.ref C)=true:=by k_is):Mk K C f:=⟨a,b,c,e⟩
theorem q_4(a:plainGet K C Str.empty=true:=by k_is)(b:hasDictIn K C=true:=by k_is)(c:plainOver K C=true:=by k_is)(e:findIn K (.ref C) "__setattr__"=some (some (.builtin "object.__setattr__")):=by k_is):Cls K C:=⟨a,b,c,e⟩
theorem q_B(a:specialIn K (.ref C) "__getattribute__"=some (some (.builtin "type.__getattribute__")):=by k_is)(b:readsIn K C (.type "type")=true:=by k_is)(c:findCls K (.ref C) (.type "type") m=some (.val (.ref f)):=by k_is)(e:keepIn K (.ref f)=true:=by k_is):G7 K C m f:=⟨a,b,c,rfl,e⟩
theorem q_g(X:K.In h:=by assumption)(G:h.Ns mainGlobals mg:=by assumption)(l:nsIn K mainGlobals x=some (some (.int i t)):=by k_is):∃u,mg x=some u/\RelV (.int i) u:=ajF X G l
theorem q_t(l:K.lookup C=some ⟨.type "tuple",d,.seq #[.int i t,.int j u] n,sl⟩:=by k_is):∀H,SqT K H C [.int i,.int j]:=aiK l
theorem q_f(N:Nat)(hb:∀(kV doc pm:Value)(an:Η)(cdv ct:Value),Lst N λus=>bindArgs (PySem.W.fnOf x x (jN st) (iT st) (bQ st) .none kV doc pm an cdv ct) ⟨us,[]⟩=pure (ps.zip us))(hN:ps.length=N:=by rfl)(X:K.In h:=by assumption)(G:h.Ns mainGlobals mg:=by assumption)
 (a:nsIn K mainGlobals x=some (some (.ref f)):=by k_is)(l:K.lookup f=some ⟨oc,od,.func (PySem.W.fnOf x x (jN st) (iT st) (bQ st) .none kV doc pm an cdv ct),osl⟩:=by k_is)
 (c:codeIn K cdv x=true:=by k_is)(k:keepIn K (.ref f)=true:=by k_is):dB K mg x st ps:=ab6 X G a l c k λkV doc pm an cdv ct us e=>Ml N (hb kV doc pm an cdv ct) us (e.trans hN)
theorem q_h(N:Nat)(hb:∀(kV doc pm:Value)(an:Η)(cdv ct:Value),Lst N λus=>bindArgs (PySem.W.fnOf x qual (jN st) (iT st) (bQ st) .none kV doc pm an cdv ct) ⟨us,[]⟩=pure (ps.zip us))(hN:ps.length=N:=by rfl)
 (l:K.lookup f=some ⟨oc,od,.func (PySem.W.fnOf x qual (jN st) (iT st) (bQ st) .none kV doc pm an cdv ct),osl⟩:=by k_is)(c:codeIn K cdv qual=true:=by k_is)(k:keepIn K (.ref f)=true:=by k_is):zT K x qual st ps f:=acI l c k λkV doc pm an cdv ct us e=>Ml N (hb kV doc pm an cdv ct) us (e.trans hN)
end
noncomputable def out(H:Hp)(a:Addr):Hp:=λb=>if b=a then none else H b
section
variable{X:Cx}{es:List Expr}{t:TA}{pos:Pos}
def akg(t:TA):TE:=λσ H Q=>t σ H λxs H1=>xs.length<=sizeLine/\∀p H',Same H1 H'->H1 p=none->H' p=some (.lst xs)->Q (.ref p) H'
def ajv(t:TA):TE:=λσ H Q=>t σ H λxs H1=>xs.length<=sizeLine/\∀p H',Same H1 H'->H1 p=none->H' p=some (.tup xs)->Q (.ref p) H'
theorem pG(h:PA X es t):PE X (.List es pos) (akg t):=(jw h.mono).imp λσ H Q h=>⟨_,h,λxs H1 z=>⟨z.1,λp hp=>z.2 p _ (Same.upd hp) hp bG⟩⟩
theorem jf{k:Nat}(h:PA X es t):PE X (.Tuple es k pos) (ajv t):=(gO h.mono).imp λσ H Q h=>⟨_,h,λxs H1 z=>⟨z.1,λp hp=>z.2 p _ (Same.upd hp) hp bG⟩⟩
def aer:Μ->Hp->VK->Prop:=λxs H Q=>∃p ys,xs=[.ref p]/\H p=some (.lst ys)/\∀l H',Same H H'->H l=none->H' l=some (.lst ys)->Q (.ref l) H'
theorem Tp:iH X (.type "list") aer:=Aj.imp λxs H Q hP=>by obtain⟨p,ys,a,b,c⟩:=hP;exact⟨p,ys,a,b,λl hl=>c l _ (Same.upd hl) hl bG⟩
def akd:V->Option Int->Option Int->Hp->VK->Prop:=λx lo hi H Q=>∃a xs,x=.ref a/\H a=some (.lst xs)/\∀p H',Same H H'->H p=none->H' p=some (.lst (nC xs lo hi))->Q (.ref p) H'
theorem Ib:SlR X akd:=λpins s σ H x v vl vu lo hi sl Q I rx hs pl pu hP=>by obtain⟨a,xs,e,h,q⟩:=hP;exact Bt pins s σ H x v vl vu lo hi sl Q I rx hs pl pu ⟨a,xs,e,.of h,λp hp=>q p _ (Same.upd hp) hp bG⟩
end
end L2
namespace L2
open PySem PyProof.Rows
section
variable{P:Program}{w:World}{K:Frag}{mg:Str->Ζ}{base:Heap}
def afL(sp:Sp):Sp:=λvs H Q _=>∃(Pt:Addr)(G:Hp)(t:Μ),G Pt=none/\H=upd G Pt (.lst t)/\sp vs G (λv G'=>G' Pt=none->Q v (upd G' Pt (.lst t))) λ_ _ _=>False
theorem cJ.frameL{k:Nat}{f:Addr}{fd:FuncData}{ps:Β}{sp:Sp}(F:cJ P w K mg base CX0 k f fd ps sp):cJ P w K mg base CX0 k f fd ps (afL sp):=by
 refine⟨λvs H Q E h=>?_,λA outer s H args us vs Q E hr e0 hb r h=>?_⟩
 .obtain⟨Pt,G,t,_,_,z⟩:=h;exact F.len vs G _ _ z
 obtain⟨Pt,G,t,g0,rfl,z⟩:=h;have eP:upd G Pt (.lst t) Pt=some (.lst t):=bG;have eO:∀b,b≠Pt->upd G Pt (.lst t) b=G b:=λb n=>bL n;obtain⟨hz,its,n,rr,hP⟩:=e0.hok Pt _ eP;have no:∀{b:Addr}{u:HO},G b=some u->b≠Pt:=λe z=>by rw[z,g0]at e;cases e
 have non:∀{b:Addr},upd G Pt (.lst t) b=none->G b=none:=λ{b}e=>by
  by_cases z:b=Pt
  .rw[z];exact g0
  .rw[<- eO b z];exact e
 have e1:Q9 P w K mg base A outer s G:=⟨e0.frames,e0.mod,λb o e=>⟨(e0.bs b o e).1,non (e0.bs b o e).2⟩,e0.bsz,e0.funs,λb hb=>non (e0.frf b hb),λb u e=>by
  have e':upd G Pt (.lst t) b=some u:=(eO b (no e)).trans e;refine(e0.hok b u e').stay (λ_ _ _ z=>z) (λd z=>?_) λd xs z=>?_
  .rw[eO d (λw=>by rw[w,eP]at z;cases z)]at z;exact z
  .rw[eO d (λw=>by rw[w,eP]at z;cases z)]at z;exact z,e0.bare⟩
 refine codeAny_mono (F.run A outer s G args us vs _ _ hr e1 hb r z) λres s' hs=>?_;cases res with
 |error e=>exact hs.elim
 |ok fl =>
  cases fl with
  |next=>exact False.elim hs
  |brk=>exact False.elim hs
  |cont=>exact False.elim hs
  |ret u =>
   obtain⟨v,H',os,bare,un,hok,rv,q⟩:=hs;have nP:Pt∉frs outer:=λz=>by have:=e0.frf _ z;rw[eP]at this;cases this
   have kP:=un.keep Pt _ hP g0 nP (by simp);have fP:=un.free Pt _ hP g0 (by simp);have no':∀{b:Addr}{u:HO},H' b=some u->b≠Pt:=λe z=>by rw[z,fP]at e;cases e
   have eP':upd H' Pt (.lst t) Pt=some (.lst t):=bG;have eO':∀b,b≠Pt->upd H' Pt (.lst t) b=H' b:=λb n=>bL n;have back:∀{b:Addr}{u:HO},upd G Pt (.lst t) b=some u->(∀ps,u≠.lst ps)->G b=some u:=λ{b u}e n=>by
    rw[eO b (λw=>by rw[w,eP]at e;cases e;exact n _ rfl)]at e;exact e
   refine⟨v,upd H' Pt (.lst t),os,bare,⟨λb o e n=>un.keep b o e (non n),λb o e n=>un.slot b o e (non n),λb o e n z=>?_,un.there,λb xs e=>?_,λb o u e=>?_,λb ps e=>?_⟩,λb u e=>?_,rv,q fP⟩
   .rw[eO' b (λw=>by rw[w,eP]at n;cases n)];exact un.free b o e (non n) z
   .have:=un.tups b xs (back e (λ_ w=>by cases w));rw[eO' b (no' this)];exact this
   .have:=un.frzs b o u (back e (λ_ w=>by cases w));rw[eO' b (no' this)];exact this
   .obtain⟨more,this⟩:=un.tbls b ps (back e (λ_ w=>by cases w));exact⟨more,by rw[eO' b (no' this)];exact this⟩
   .by_cases z:b=Pt
    .subst z;rw[eP']at e;cases e;exact⟨hz,its,n,rr,kP⟩
    .rw[eO' b z]at e;exact(hok b u e).stay (λ_ _ _ z=>z) (λd z=>(eO' d (no' z)).trans z) λd xs z=>(eO' d (no' z)).trans z
theorem OkF.frameL{k:Nat}{x:Str}{ps:Β}{sp:Sp}(G:OkF P w K mg base k x ps sp):OkF P w K mg base k x ps (afL sp):=by
 obtain⟨f,fd,F,b,hm,kp⟩:=G;exact⟨f,fd,F.frameL,b,hm,kp⟩
end
end L2
namespace L2
open PySem PySem.Spec PyProof.Rows
section
variable{X:Cx}{k:Nat}{f C B:Addr}{ps:Β}{sp:Sp}{x m:Str}{p pos apos:Pos}{e:Expr}{es:List Expr}{t:TA}
def adF(C:Addr)(sp:Sp)(t:TA):TE:=λσ H Q=>t σ H λvs H1=>∀x dx,H1 x=none->H1 dx=none->dx≠x->sp (.ref x::vs) (upd (upd H1 dx (.own x)) x (.ins C dx [])) (λv H2=>v=.non/\Q (.ref x) H2) E0
theorem xH(M:Mk X.K C f)(G:OkI X.prog X.w X.K X.mg X.base CX0 k f ps sp)(hr:jg (k+1) X.A)(hm:X.mg x=some (.ref C))(ha:PA X (e::es) t)(hg:Gl X x:=by rfl)(hdb:(x==("__debug__":Str))=false:=by decide)
 (he:starEach (e::es) X.env=(false,eval e X.env)::starEach es X.env:=by rfl)(hpl:(backTo pos (starEach es X.env)).any (·.1)=false:=by rfl):PE X (.Call (.Name x p) (e::es) [] pos) (adF C sp t):=by
 obtain⟨fd,F,hb⟩:=G;refine(abw M F hr hg hm hb .nil R3 ha.mono hdb he hpl).imp λσ H Q h=>⟨_,h,λvs H1 q x dx h1 h2 h3=>?_⟩;rw[List.append_nil];exact q x dx h1 h2 h3
theorem Dk{pl:Sem Bool}(c:G7 X.K B m f)(G:OkI X.prog X.w X.K X.mg X.base CX0 k f ps sp)(hr:jg k X.A)(hm:X.mg x=some (.ref B))(ha:PA X (e::es) t)(hg:Gl X x:=by rfl)(hdb:(x==("__debug__":Str))=false:=by decide)
 (hst:starEach (e::es) X.env=(false,eval e X.env)::starEach es X.env:=by rfl)(hpl:(backTo pos (starEach es X.env)).any (·.1)=false:=by rfl)
 (ht:eval (.Call (.Attribute (.Name x p) m apos) (e::es) [] pos) X.env=(do
   let ov <- eval (.Name x p) X.env
   standAt apos.atName
   let(f,first) <- holding [ov] (getMethod ov m pl)
   callWith pos f first (backTo pos (starEach (e::es) X.env)) (backToKw pos (keywordEach [] X.env))):=by rfl) :
  PE X (.Call (.Attribute (.Name x p) m apos) (e::es) [] pos) (Hl sp t):=by
 obtain⟨fd,F,hb⟩:=G;exact abY (pl:=pl) c F hr hg hm hb ha hdb hst hpl ht
end
end L2
namespace Lv
noncomputable def Xx(bs:List Nat):Nat:=bs.foldl Nat.lcm 1
theorem zK:∀(bs:List Nat)(a m:Nat),bs.foldl Nat.lcm a ∣ m↔a ∣ m/\∀b∈bs,b ∣ m
 |[],a,m=>by simp
 |b::bs,a,m=>by
  rw[List.foldl_cons,zK bs,Nat.lcm_dvd_iff];simp only[YU,forall_eq_or_imp,and_assoc]
theorem GR{bs:List Nat}{m:Nat} : Xx bs ∣ m↔∀b∈bs,b ∣ m:=by
 unfold Xx;rw[zK];simp
theorem Yn{bs:List Nat}{b:Nat}(h:b∈bs):b ∣ Xx bs:=GR.mp (Nat.dvd_refl _) b h
theorem zN:∀(bs:List Nat)(a:Nat),0<a->(∀b∈bs,0<b)->0<bs.foldl Nat.lcm a
 |[],a,h,_=>h
 |b::bs,a,h,hb=>zN bs _ (Nat.lcm_pos h (hb b aP)) λc hc=>hb c (aJ _ hc)
theorem Zo{bs:List Nat}(h:∀b∈bs,0<b):0<Xx bs:=zN bs 1 (by decide) h
end Lv
namespace Ac
noncomputable def lw(t b:Int):Int×Int:=(t/(Int.gcd t b:Nat),b/(Int.gcd t b:Nat))
theorem Il{t b:Int}(hb:0<b):(0:Int)<(Int.gcd t b:Nat):=by
 have:=Int.gcd_pos_of_ne_zero_right t (show b≠0 by exact Int.ne_of_gt hb);lia
theorem iG{t b:Int}(hb:0<b):0<(lw t b).2:=Int.ediv_pos_of_pos_of_dvd hb (XY (Il hb)) (Int.gcd_dvd_right t b)
theorem rQ{t b:Int}(hb:0<b):Int.gcd (lw t b).1 (lw t b).2=1:=Int.gcd_ediv_gcd_ediv_gcd (by have:=Il (t:=t) hb;lia)
theorem tD{t b:Int}(hb:0<b):(lw t b).1*b=t*(lw t b).2:=by
 have d1:=Int.gcd_dvd_left t b;have d2:=Int.gcd_dvd_right t b;have g0:=Il (t:=t) hb;unfold lw;generalize hg:((Int.gcd t b:Nat):Int)=g at *;obtain⟨x,rfl⟩:=d1;obtain⟨y,rfl⟩:=d2;show g*x/g*(g*y)=g*x*(g*y/g);rw[Int.mul_ediv_cancel_left _ (Int.ne_of_gt g0),Int.mul_ediv_cancel_left _ (Int.ne_of_gt g0),Int.mul_left_comm,Int.mul_assoc]
theorem IK(t b:Int):(lw t b).1.natAbs<=t.natAbs:=Int.natAbs_ediv_le_natAbs _ _
theorem En(t b:Int):(lw t b).2.natAbs<=b.natAbs:=Int.natAbs_ediv_le_natAbs _ _
theorem Ws{a b c:Int}(h:a ∣ b*c)(g:Int.gcd a b=1):a ∣ c:=by
 refine Int.natAbs_dvd_natAbs.mp ((show Nat.Coprime a.natAbs b.natAbs from g).dvd_of_dvd_mul_left ?_);rw[<- Int.natAbs_mul];exact Int.natAbs_dvd_natAbs.mpr h
theorem uniq{x y u v:Int}(hy:0<y)(hv:0<v)(g1:Int.gcd x y=1)(g2:Int.gcd u v=1)(e:x*v=u*y):x=u/\y=v:=by
 have d1:y ∣ v:=by
  have h:y ∣ x*v:=⟨u,by rw[e,Int.mul_comm]⟩;exact Ws h (by rw[Int.gcd_comm];exact g1)
 have d2:v ∣ y:=by
  have h:v ∣ u*y:=⟨x,by rw[<- e,Int.mul_comm]⟩;exact Ws h (by rw[Int.gcd_comm];exact g2)
 have e2:y=v:=Int.dvd_antisymm (XY hy) (XY hv) d1 d2;subst e2;exact⟨Int.eq_of_mul_eq_mul_right (Int.ne_of_gt hy) e,rfl⟩
theorem Qk{t b x y:Int}(hb:0<b)(hy:0<y)(g:Int.gcd x y=1)(e:x*b=t*y):x=(lw t b).1/\y=(lw t b).2:=by
 refine uniq hy (iG hb) g (rQ hb) ?_;have h:=tD (t:=t) hb;have h1:x*(lw t b).2*b=(lw t b).1*y*b:=by
  rw[Int.mul_right_comm,e,Int.mul_right_comm _ y b,h,Int.mul_right_comm]
 exact Int.eq_of_mul_eq_mul_right (Int.ne_of_gt hb) h1
theorem aei{W x S z o:Int}(hS:0<S)(ho:0<o)(g:Int.gcd z o=1)(e:z*((lw W S).2*(lw x S).2)=((lw W S).1*(lw x S).2+(lw x S).1*(lw W S).2)*o):z=(lw (W+x) S).1/\o=(lw (W+x) S).2:=by
  refine Qk hS ho g ?_;have h1:=tD (t:=W) hS;have h2:=tD (t:=x) hS;have p1:=iG (t:=W) hS;have p2:=iG (t:=x) hS;generalize(lw W S).1=a at *;generalize(lw W S).2=b at *;generalize(lw x S).1=c at *;generalize(lw x S).2=d at *;have key:z*S*(b*d)=(W+x)*o*(b*d):=by
    calc z*S*(b*d)=z*(b*d)*S:=by rw[Int.mul_right_comm]
      _=(a*d+c*b)*o*S:=by rw[e]
      _=(a*S*d+c*S*b)*o:=by
        rw[Int.mul_right_comm,Int.add_mul,Int.mul_right_comm a d S,Int.mul_right_comm c b S]
      _=(W*b*d+x*d*b)*o:=by rw[h1,h2]
      _=(W+x)*o*(b*d):=by
        rw[Int.mul_assoc W,Int.mul_assoc x,Int.mul_comm d b,<- Int.add_mul,Int.mul_right_comm]
  exact Int.eq_of_mul_eq_mul_right (Int.ne_of_gt (XZ p1 p2)) key
theorem Ny{x S z o:Int}(hS:0<S)(ho:0<o)(g:Int.gcd z o=1)(e:z*(1*(lw x S).2)=(1*(lw x S).2-(lw x S).1*1)*o):z=(lw (S-x) S).1/\o=(lw (S-x) S).2:=by
  refine Qk hS ho g ?_;have h2:=tD (t:=x) hS;have p2:=iG (t:=x) hS;generalize(lw x S).1=c at *;generalize(lw x S).2=d at *;rw[Int.one_mul,Int.mul_one]at e;have key:z*S*d=(S-x)*o*d:=by
    calc z*S*d=z*d*S:=by rw[Int.mul_right_comm]
      _=(d-c)*o*S:=by rw[e]
      _=(d*S-c*S)*o:=by rw[Int.mul_right_comm,Int.sub_mul]
      _=(d*S-x*d)*o:=by rw[h2]
      _=(S-x)*o*d:=by rw[Int.mul_comm d S,<- Int.sub_mul,Int.mul_right_comm]
  exact Int.eq_of_mul_eq_mul_right (Int.ne_of_gt p2) key
theorem yH{t b:Int}(hb:0<b):((lw t b).1=0/\(lw t b).2=1)↔t=0:=by
 have h:=tD (t:=t) hb;have p:=iG (t:=t) hb;constructor
 .rintro⟨h1,h2⟩;rw[h1,h2]at h;lia
 .rintro rfl;have g:=rQ (t:=0) hb;rw[Int.zero_mul]at h;have h0:(lw 0 b).1=0:=by
   rcases Int.mul_eq_zero.mp h with z|z
   .exact z
   .lia
  rw[h0,Int.gcd_zero_left]at g;exact⟨h0,by lia⟩
theorem acP{t b:Int}(hb:0<b)(ht:0<=t):0<=(lw t b).1:=Int.ediv_nonneg ht (XY (Il hb))
theorem ado{t b:Int}(hb:0<b)(ht:t<=b):(lw t b).1<=(lw t b).2:=Int.ediv_le_ediv (Il hb) ht
theorem aeh{b:Int}(hb:0<b):(lw 1 b).1=1/\(lw 1 b).2=b:=by
 have:=Qk (t:=1) (b:=b) (x:=1) (y:=b) hb hb (by rw[Int.gcd_comm];simp) (by rw[Int.mul_comm]);exact⟨this.1.symm,this.2.symm⟩
section
variable{κ:Type}[DecidableEq κ]
noncomputable def look(acc:List (κ×Int))(r:κ):Int:=((acc.find? λg=>decide (g.1=r)).map (·.2)).getD 0
noncomputable def put(acc:List (κ×Int))(r:κ)(y:Int):List (κ×Int):=if(acc.any λg=>decide (g.1=r))=true then acc.map (λg=>if g.1=r then(g.1,y)else g)else acc++[(r,y)]
def ji(gs:List (κ×Int)):List (κ×Int):=gs.foldl (λa g=>put a g.1 (look a g.1+g.2)) []
theorem Ec(gs:List (κ×Int))(g:κ×Int):ji (gs++[g])=put (ji gs) g.1 (look (ji gs) g.1+g.2):=by
 unfold ji;rw[List.foldl_append];rfl
theorem aaR(acc:List (κ×Int))(r:κ)(y:Int):(put acc r y).length<=acc.length+1:=by
 unfold put;split
 .rw[ak];exact Xs _
 .rw[aA];simp
theorem Zt{acc:List (κ×Int)}(h:(acc.map (·.1)).Nodup)(r:κ)(y:Int):((put acc r y).map (·.1)).Nodup:=by
 unfold put;split
 .have e:(acc.map (λg=>if g.1=r then(g.1,y)else g)).map (·.1)=acc.map (·.1):=by
   rw[List.map_map];refine List.map_congr_left λg _=>?_;show(if g.1=r then(g.1,y)else g).1=g.1;split<;>rfl
  rw[e];exact h
 .rename_i hn
  rw[bC];refine List.nodup_append.mpr ⟨h,by simp,?_⟩;intro a ha b hb e;subst e;simp only[List.map_cons,List.map_nil,YR]at hb;subst hb;obtain⟨g,hg,e⟩:=YV.mp ha;exact hn (List.any_eq_true.mpr ⟨g,hg,Zs e⟩)
theorem Rv(acc:List (κ×Int))(r:κ):look acc r=0\/∃g∈acc,look acc r=g.2:=by
 unfold look;cases h:acc.find? λg=>decide (g.1=r)with
 |none=>exact .inl rfl
 |some g=>exact .inr ⟨g,List.mem_of_find?_eq_some h,rfl⟩
theorem abE{acc:List (κ×Int)}{r:κ}{y:Int}{g:κ×Int}(h:g∈put acc r y):g.2=y\/g∈acc:=by
 unfold put at h;split at h
 .obtain⟨g',hg,e⟩:=YV.mp h;split at e
  .subst e;exact .inl rfl
  .subst e;exact .inr hg
 .rcases Y1.mp h with h|h
  .exact .inr h
  .rw[YR.mp h];exact .inl rfl
theorem v7(gs:List (κ×Int)):(∀g∈gs,0<=g.2)->((ji gs).map (·.1)).Nodup/\(ji gs).length<=gs.length/\∀g∈ji gs,0<=g.2/\g.2<=(gs.map (·.2)).sum:=by
 suffices H:∀(n:Nat)(gs:List (κ×Int)),gs.length=n->(∀g∈gs,0<=g.2)->((ji gs).map (·.1)).Nodup/\(ji gs).length<=gs.length/\(0<=(gs.map (·.2)).sum)/\∀g∈ji gs,0<=g.2/\g.2<=(gs.map (·.2)).sum from λh=>let⟨a,b,_,c⟩:=H _ gs rfl h;⟨a,b,c⟩
 intro n
 induction n with
 |zero =>
  intro gs h _;rw[List.eq_nil_of_length_eq_zero h];exact⟨by simp[ji],by simp[ji],by simp,by simp[ji]⟩
 |succ n ih =>
  intro gs h hp;obtain⟨gs',g,rfl⟩ : ∃gs' g,gs=gs'++[g]:=⟨gs.dropLast,gs.getLast (by intro e;rw[e]at h;cases h),(List.dropLast_concat_getLast _).symm⟩;have hl:gs'.length=n:=by rw[aA]at h;simpa using h
  obtain⟨h1,h2,h3,h4⟩:=ih gs' hl λg hg=>hp g (List.mem_append_left _ hg);have hg:=hp g (aR _ (by simp));rw[Ec];have hs:((gs'++[g]).map (·.2)).sum=(gs'.map (·.2)).sum+g.2:=by simp
  rw[hs];have lk:0<=look (ji gs') g.1/\look (ji gs') g.1<=(gs'.map (·.2)).sum:=by
   rcases Rv (ji gs') g.1 with e|⟨u,hu,e⟩
   .rw[e];exact⟨Int.le_refl _,h3⟩
   .rw[e];exact h4 u hu
  refine⟨Zt h1 _ _,?_,by lia,λu hu=>?_⟩
  .have:=aaR (ji gs') g.1 (look (ji gs') g.1+g.2);rw[aA];simp only[List.length_cons,List.length_nil];exact aM this (Nat.succ_le_succ h2)
  .rcases abE hu with e|hu
   .rw[e];lia
   .have:=h4 u hu;lia
theorem acu{acc:List (κ×Int)}{r:κ}{y:Int}{g:κ×Int}(h:g∈put acc r y):g.1=r\/g.1∈acc.map (·.1):=by
 unfold put at h;split at h
 .obtain⟨g',hg,e⟩:=YV.mp h;split at e
  .subst e;exact .inr (YV.mpr ⟨g',hg,rfl⟩)
  .subst e;exact .inr (YV.mpr ⟨_,hg,rfl⟩)
 .rcases Y1.mp h with h|h
  .exact .inr (YV.mpr ⟨_,h,rfl⟩)
  .rw[YR.mp h];exact .inl rfl
theorem aay(gs:List (κ×Int)):∀g∈ji gs,g.1∈gs.map (·.1):=by
 suffices H:∀(n:Nat)(gs:List (κ×Int)),gs.length=n->∀g∈ji gs,g.1∈gs.map (·.1)from H _ gs rfl
 intro n
 induction n with
 |zero =>
  intro gs h g hg;rw[List.eq_nil_of_length_eq_zero h]at hg;simp[ji]at hg
 |succ n ih =>
  intro gs h u hu;obtain⟨gs',g,rfl⟩ : ∃gs' g,gs=gs'++[g]:=⟨gs.dropLast,gs.getLast (by intro e;rw[e]at h;cases h),(List.dropLast_concat_getLast _).symm⟩;have hl:gs'.length=n:=by rw[aA]at h;simpa using h
  rw[Ec]at hu;rw[bC];rcases acu hu with e|e
  .rw[e];exact aR _ (by simp)
  .obtain⟨v,hv,e⟩:=YV.mp e;rw[<- e];exact List.mem_append_left _ (ih gs' hl v hv)
def ways(gs:List (κ×Int))(S:Int):List (κ×Int×Int):=((ji gs).filter λg=>decide (0<g.2)).map λg=>(g.1,lw g.2 S)
theorem Zn{gs:List (κ×Int)}(h:∀g∈gs,0<=g.2)(S:Int):(ways gs S).length<=gs.length:=by
 unfold ways;rw[ak];exact aM (List.length_filter_le _ _) (v7 gs h).2.1
theorem YB{gs:List (κ×Int)}{S:Int}{g:κ×Int×Int}(h:g∈ways gs S):g.1∈gs.map (·.1):=by
 unfold ways at h;obtain⟨u,hu,rfl⟩:=YV.mp h;exact aay gs u (List.mem_filter.mp hu).1
theorem Z2{r:κ} : ways [(r,(1:Int))] 1=[(r,(1,1))]:=by
 simp[ways,ji,put,look,lw]
end
end Ac
namespace Rw
open Ac
def rep(r:List Int×Int):Ψ:=r.1.map λt=>lw t r.2
noncomputable def gcL(ts:List Int)(b:Int):Int:=ts.foldl (λc t=>((Int.gcd t c:Nat):Int)) b
theorem qu:∀{ts:List Int}{b:Int},0<b->0<gcL ts b
 |[],_,h=>h
 |t::ts,b,h=>qu (ts:=ts) (Il (t:=t) h)
theorem nU:∀{ts:List Int}{b:Int},gcL ts b ∣ b/\∀t∈ts,gcL ts b ∣ t
 |[],b=>⟨Int.dvd_refl b,by simp⟩
 |t::ts,b=>by
  obtain⟨h1,h2⟩:=nU (ts:=ts) (b:=((Int.gcd t b:Nat):Int));refine⟨Int.dvd_trans h1 (Int.gcd_dvd_right t b),λx hx=>?_⟩;rcases YU.mp hx with rfl|hx
  .exact Int.dvd_trans h1 (Int.gcd_dvd_left x b)
  .exact h2 x hx
theorem adM{ts:List Int}{b:Int}(h:0<b):gcL ts b<=b:=Int.le_of_dvd h nU.1
def eE(r:List Int×Int):List Int×Int:=(r.1.map λt=>t/gcL r.1 r.2,r.2/gcL r.1 r.2)
theorem uG(r:List Int×Int):(eE r).1.length=r.1.length:=by unfold eE;rw[ak]
noncomputable def eZ(r:List Int×Int)(c:Ι):List Int×Int:=(r.1.map λt=>t*c.1,r.2*c.2)
noncomputable def dI(r o:List Int×Int)(c:Ι):List Int×Int :=
 (List.zipWith (λa b=>a*(o.2*c.2/((Int.gcd r.2 (o.2*c.2):Nat):Int))+b*(r.2/((Int.gcd r.2 (o.2*c.2):Nat):Int)*c.1)) r.1 o.1,r.2*(o.2*c.2/((Int.gcd r.2 (o.2*c.2):Nat):Int)))
structure Big(N:Nat)(r:List Int×Int):Prop where
 pos:0<r.2
 bot:r.2.natAbs<=N
 top:∀t∈r.1,t.natAbs<=N
theorem Big.le{N M:Nat}{r:List Int×Int}(h:Big N r)(hn:N<=M):Big M r:=⟨h.pos,aM h.bot hn,λt ht=>aM (h.top t ht) hn⟩
theorem SQ{d t g x:Int}(h1:d ∣ t*x)(h2:d ∣ g*x):d ∣ ((Int.gcd t g:Nat):Int)*x:=by
 have h:=Int.dvd_coe_gcd h1 h2;rw[Int.gcd_mul_right]at h;rw[Int.natCast_mul]at h;rcases Int.natAbs_eq x with e|e
 .rw[e];exact h
 .rw[e,Int.mul_neg];exact Int.dvd_neg.mpr h
theorem wW{d x:Int} : ∀{ts:List Int}{b:Int},d ∣ b*x->(∀t∈ts,d ∣ t*x)->d ∣ gcL ts b*x
 |[],_,h,_=>h
 |t::ts,b,h,k=>wW (ts:=ts) (SQ (k t aP) h) λu hu=>k u (aJ _ hu)
def Alk(r s:List Int×Int):Prop:=r.1.length=s.1.length/\∀(k:Nat)(a b:Int),r.1[k]?=some a->s.1[k]?=some b->a*s.2=b*r.2
theorem Fv{r:List Int×Int}(h:0<r.2):gcL (eE r).1 (eE r).2=1:=by
 have g0:=qu (ts:=r.1) h;obtain⟨d1,d2⟩:=nU (ts:=r.1) (b:=r.2);have p:0<(eE r).2:=Int.ediv_pos_of_pos_of_dvd h (XY g0) d1;have q0:=qu (ts:=(eE r).1) p;obtain⟨e1,e2⟩:=nU (ts:=(eE r).1) (b:=(eE r).2);have key:gcL (eE r).1 (eE r).2*gcL r.1 r.2 ∣ gcL r.1 r.2*1:=by
  refine wW ?_ λt ht=>?_
  .obtain⟨u,hu⟩:=e1;have hu:r.2/gcL r.1 r.2=gcL (eE r).1 (eE r).2*u:=hu;refine⟨u,?_⟩;rw[Int.mul_one,Int.mul_right_comm,<- hu,Int.ediv_mul_cancel d1]
  .obtain⟨u,hu⟩:=e2 (t/gcL r.1 r.2) (YV.mpr ⟨t,ht,rfl⟩);refine⟨u,?_⟩;rw[Int.mul_one,Int.mul_right_comm,<- hu,Int.ediv_mul_cancel (d2 t ht)]
 rw[Int.mul_one]at key;have:=Int.le_of_dvd g0 key;have:gcL (eE r).1 (eE r).2<=1:=by
  refine Int.le_of_mul_le_mul_right (a:=gcL r.1 r.2) ?_ g0;lia
 lia
theorem least{N:Nat}{r s:List Int×Int}(hr:0<r.2)(g:gcL r.1 r.2=1)(a:Alk r s)(h:Big N s):Big N r:=by
 have d:r.2 ∣ gcL r.1 r.2*s.2:=wW ⟨s.2,rfl⟩ λt ht=>by
  obtain⟨k,hk,rfl⟩:=List.mem_iff_getElem.mp ht;have hs:k<s.1.length:=by rw[<- a.1];exact hk
  rw[a.2 k _ _ (aj hk) (aj hs)];exact⟨_,Int.mul_comm _ _⟩
 rw[g,Int.one_mul]at d;obtain⟨m,hm⟩:=d;have m0:0<m:=Int.pos_of_mul_pos_right (by rw[<- hm];exact h.pos) hr;refine⟨hr,?_,λt ht=>?_⟩
 .have:=Int.le_of_dvd h.pos ⟨m,hm⟩;have:=h.bot;lia
 .obtain⟨k,hk,rfl⟩:=List.mem_iff_getElem.mp ht;have hs:k<s.1.length:=by rw[<- a.1];exact hk
  have e:=a.2 k _ _ (aj hk) (aj hs);rw[hm,Int.mul_comm r.2 m,<- Int.mul_assoc]at e;have e:=Int.eq_of_mul_eq_mul_right (Int.ne_of_gt hr) e;have b:=h.top _ (aW hs);rw[<- e,Int.natAbs_mul]at b;exact aM (Nat.le_mul_of_pos_right _ (by omega)) b
theorem acy{r s:List Int×Int}(hr:0<r.2)(a:Alk r s):Alk (eE r) s:=by
 have g0:=qu (ts:=r.1) hr;obtain⟨d1,d2⟩:=nU (ts:=r.1) (b:=r.2);refine⟨by rw[uG];exact a.1,λk x y hx hy=>?_⟩;have hx:(r.1.map λt=>t/gcL r.1 r.2)[k]?=some x:=hx;rw[aq]at hx;cases e:r.1[k]? with
 |none=>rw[e]at hx;cases hx
 |some t =>
  rw[e]at hx;cases hx;have k1:=a.2 k t y e hy;show t/gcL r.1 r.2*s.2=y*(r.2/gcL r.1 r.2);obtain⟨u,hu⟩:=d2 t (aC e);obtain⟨v,hv⟩:=d1;generalize gcL r.1 r.2=q at *;rw[hu,hv]at k1 ⊢;rw[Int.mul_ediv_cancel_left _ (Int.ne_of_gt g0),Int.mul_ediv_cancel_left _ (Int.ne_of_gt g0)];refine Int.eq_of_mul_eq_mul_left (Int.ne_of_gt g0) ?_;rw[<- Int.mul_assoc,k1,Int.mul_left_comm]
theorem VJ{N:Nat}{r s:List Int×Int}(hr:0<r.2)(a:Alk r s)(h:Big N s):Big N (eE r):=by
 have g0:=qu (ts:=r.1) hr;exact least (Int.ediv_pos_of_pos_of_dvd hr (XY g0) nU.1) (Fv hr) (acy hr a) h
theorem Xn{N:Nat}{r:List Int×Int}{c:Ι}{k:Nat}{t:Int}(h:Big N r)(ht:r.1[k]?=some t)(t0:t≠0)(hc:0<c.2)(e:c.1*t=c.2*r.2) :
  Big N (eE (eZ r c))/\(eE (eZ r c)).1[k]?=some (eE (eZ r c)).2:=by
 have hp:0<(eZ r c).2:=XZ h.pos hc;have tb:=h.top t (aC ht);refine⟨?_,?_⟩
 .refine VJ hp (s:=(r.1.map λx=>x*t.sign,t.natAbs)) ⟨?_,λj a b ha hb=>?_⟩ ⟨?_,?_,λx hx=>?_⟩
  .unfold eZ;rw[ak,ak]
  .have ha:(r.1.map λt=>t*c.1)[j]?=some a:=ha;have hb:(r.1.map λx=>x*t.sign)[j]?=some b:=hb;rw[aq]at ha hb;cases ej:r.1[j]? with
   |none=>rw[ej]at ha;cases ha
   |some x =>
    rw[ej]at ha hb;cases ha;cases hb;show x*c.1*((t.natAbs:Nat):Int)=x*t.sign*(r.2*c.2);have k1:((t.natAbs:Nat):Int)=t*t.sign:=(Int.mul_sign_self t).symm;rw[k1,Int.mul_assoc,<- Int.mul_assoc c.1 t,e,Int.mul_assoc x,Int.mul_comm (c.2*r.2),Int.mul_comm c.2]
  .show(0:Int)<(t.natAbs:Nat);lia
  .show(((t.natAbs:Nat):Int)).natAbs<=N;rw[XT];exact tb
  .obtain⟨y,hy,rfl⟩:=YV.mp hx;rw[Int.natAbs_mul,Int.natAbs_sign_of_ne_zero t0,Nat.mul_one];exact h.top y hy
 .have e1:(eZ r c).1[k]?=some (eZ r c).2:=by
   show(r.1.map λt=>t*c.1)[k]?=some (r.2*c.2);rw[aq,ht];show some (t*c.1)=_;rw[Int.mul_comm t,e,Int.mul_comm]
  show((eZ r c).1.map λt=>t/gcL (eZ r c).1 (eZ r c).2)[k]?=_;rw[aq,e1];rfl
theorem WY{N:Nat}{r p:List Int×Int}{c:Ι}{k:Nat}{a:Int}(h:Big N r)(hp:Big N p)(hl:r.1.length=p.1.length)(ha:r.1[k]?=some a)(hk:p.1[k]?=some p.2)(hc:0<c.2)(e:c.1*r.2=-a*c.2) :
    Big (2*(N*N)) (eE (dI r p c))/\(eE (dI r p c)).1[k]?=some 0:=by
  have hB:=XZ hp.pos hc;have g0:=Il (t:=r.2) hB;obtain⟨u,hu⟩:=Int.gcd_dvd_left r.2 (p.2*c.2);obtain⟨v,hv⟩:=Int.gcd_dvd_right r.2 (p.2*c.2);have es:dI r p c=(List.zipWith (λx y=>x*v+y*(u*c.1)) r.1 p.1,r.2*v):=by
    unfold dI;generalize((Int.gcd r.2 (p.2*c.2):Nat):Int)=g at g0 hu hv ⊢;have e1:p.2*c.2/g=v:=by rw[hv,Int.mul_ediv_cancel_left _ (Int.ne_of_gt g0)]
    have e2:r.2/g=u:=by
      conv=>lhs;rw[hu]
      exact Int.mul_ediv_cancel_left _ (Int.ne_of_gt g0)
    rw[e1,e2]
  generalize((Int.gcd r.2 (p.2*c.2):Nat):Int)=g at g0 hu hv;have v0:0<v:=Int.pos_of_mul_pos_right (by rw[<- hv];exact hB) g0;have key:u*c.1*p.2=-a*v:=by
    refine Int.eq_of_mul_eq_mul_left (Int.ne_of_gt g0) ?_
    calc g*(u*c.1*p.2)=(g*u)*c.1*p.2:=by ac_rfl
      _=r.2*c.1*p.2:=by rw[<- hu]
      _=(c.1*r.2)*p.2:=by ac_rfl
      _=-a*c.2*p.2:=by rw[e]
      _=-a*(p.2*c.2):=by ac_rfl
      _=-a*(g*v):=by rw[hv]
      _=g*(-a*v):=by ac_rfl
  have pos:0<(dI r p c).2:=by rw[es];exact XZ h.pos v0
  have na:=h.top a (aC ha);have rn:=h.bot;have pn:=hp.bot;have n2:∀{x y:Int},x.natAbs<=N->y.natAbs<=N->(x*y).natAbs<=N*N:=λh1 h2=>by rw[Int.natAbs_mul];exact Nat.mul_le_mul h1 h2
  refine⟨?_,?_⟩
  . refine VJ pos (s:=(List.zipWith (λx y=>x*p.2-a*y) r.1 p.1,r.2*p.2)) ⟨?_,λj x y hx hy=>?_⟩ ⟨XZ h.pos hp.pos,?_,λx hx=>?_⟩
    . rw[es,List.length_zipWith,List.length_zipWith]
    . rw[es]at hx ⊢
      have hx:(List.zipWith (λx y=>x*v+y*(u*c.1)) r.1 p.1)[j]?=some x:=hx;have hy:(List.zipWith (λx y=>x*p.2-a*y) r.1 p.1)[j]?=some y:=hy;rw[List.getElem?_zipWith]at hx hy;cases e1:r.1[j]? with
      |none=>rw[e1]at hx;cases hx
      |some x1 =>
        cases e2:p.1[j]? with
        |none=>rw[e1,e2]at hx;cases hx
        |some y1 =>
          rw[e1,e2]at hx hy;cases hx;cases hy;show(x1*v+y1*(u*c.1))*(r.2*p.2)=(x1*p.2-a*y1)*(r.2*v);rw[Int.add_mul,Int.sub_mul];have k1:y1*(u*c.1)*(r.2*p.2)=-(a*y1*(r.2*v)):=by
            calc y1*(u*c.1)*(r.2*p.2)=y1*r.2*(u*c.1*p.2):=by ac_rfl
              _=y1*r.2*(-a*v):=by rw[key]
              _=-(a*y1*(r.2*v)):=by rw[Int.neg_mul,Int.mul_neg];congr 1;ac_rfl
          rw[k1,Int.sub_eq_add_neg]
          congr 1
          ac_rfl
    . exact aM (n2 rn pn) (by lia)
    . obtain⟨j,hj,rfl⟩:=List.mem_iff_getElem.mp hx
      rw[List.getElem_zipWith];rw[List.length_zipWith]at hj;have b1:=n2 (h.top _ (aW (show j<r.1.length by lia))) pn;have b2:=n2 na (hp.top _ (aW (show j<p.1.length by lia)));omega
  . have e1:(dI r p c).1[k]?=some 0:=by
      rw[es];show(List.zipWith (λx y=>x*v+y*(u*c.1)) r.1 p.1)[k]?=some 0;rw[List.getElem?_zipWith,ha,hk];show some (a*v+p.2*(u*c.1))=some 0;have:p.2*(u*c.1)=-(a*v):=by rw[Int.mul_comm,key,Int.neg_mul]
      rw[this]
      congr 1
      lia
    show((dI r p c).1.map λt=>t/gcL (dI r p c).1 (dI r p c).2)[k]?=_;rw[aq,e1];show some (0/_)=_;rw[Int.zero_ediv]
theorem ac4{r:List Int×Int}{k:Nat}(h:r.1[k]?=some 0):(eE r).1[k]?=some 0:=by
 show(r.1.map λt=>t/gcL r.1 r.2)[k]?=_;rw[aq,h];show some (0/_)=_;rw[Int.zero_ediv]
theorem aiQ{r:List Int×Int}{k:Nat}(h:r.1[k]?=some r.2):(eE r).1[k]?=some (eE r).2:=by
 show(r.1.map λt=>t/gcL r.1 r.2)[k]?=_;rw[aq,h];rfl
theorem abA{r:List Int×Int}{c:Ι}{k:Nat}(h:r.1[k]?=some 0):(eZ r c).1[k]?=some 0:=by
 show(r.1.map λt=>t*c.1)[k]?=_;rw[aq,h];show some (0*_)=_;rw[Int.zero_mul]
theorem adO{r p:List Int×Int}{c:Ι}{k:Nat}(h:r.1[k]?=some 0)(hp:p.1[k]?=some 0):(dI r p c).1[k]?=some 0:=by
 show(List.zipWith (λa b=>a*(p.2*c.2/((Int.gcd r.2 (p.2*c.2):Nat):Int))+b*(r.2/((Int.gcd r.2 (p.2*c.2):Nat):Int)*c.1)) r.1 p.1)[k]?=_;rw[List.getElem?_zipWith,h,hp];show some (0*_+0*_)=_;rw[Int.zero_mul,Int.zero_mul];rfl
theorem aey{r p:List Int×Int}{c:Ι}{k:Nat}(h:r.1[k]?=some r.2)(hp:p.1[k]?=some 0):(dI r p c).1[k]?=some (dI r p c).2:=by
 show(List.zipWith (λa b=>a*(p.2*c.2/((Int.gcd r.2 (p.2*c.2):Nat):Int))+b*(r.2/((Int.gcd r.2 (p.2*c.2):Nat):Int)*c.1)) r.1 p.1)[k]?=some (r.2*(p.2*c.2/((Int.gcd r.2 (p.2*c.2):Nat):Int)));rw[List.getElem?_zipWith,h,hp];show some (_+0*_)=_;rw[Int.zero_mul,Int.add_zero]
noncomputable def gr(N:Nat):Nat->Nat
 |0=>N
 |m+1=>2*(gr N m*gr N m)
noncomputable def sg(f:Nat->Rat):Nat->Rat
 |0=>0
 |n+1=>sg f n+f n
noncomputable def sz(f:Nat->Int):Nat->Int
 |0=>0
 |n+1=>sz f n+f n
theorem PX(f g:Nat->Rat):∀n,sg (λj=>f j+g j) n=sg f n+sg g n
 |0=>by unfold sg;grind
 |n+1=>by unfold sg;rw[PX f g n];grind
theorem DQ(c:Rat)(f:Nat->Rat):∀n,sg (λj=>c*f j) n=c*sg f n
 |0=>by unfold sg;grind
 |n+1=>by unfold sg;rw[DQ c f n];grind
theorem gD{f g:Nat->Rat} : ∀{n},(∀j,j<n->f j=g j)->sg f n=sg g n
 |0,_=>rfl
 |n+1,h=>by unfold sg;rw[gD λj hj=>h j (WU _ hj),h n (X1 _)]
theorem O6:∀n,sg (λ_=>0) n=0
 |0=>rfl
 |n+1=>by unfold sg;rw[O6 n];grind
theorem ZD{v:Nat->Rat}{k:Nat} : ∀{n},sg (λj=>(if j=k then 1 else 0)*v j) n=if k<n then v k else 0
 |0=>by rw[ZZ (WV _)];rfl
 |n+1=>by
  unfold sg;rw[ZD];by_cases h:k<n
  .rw[ZY h,ZZ (Nat.ne_of_gt h),ZY (WU _ h)];grind
  .by_cases e:n=k
   .subst e;rw[ZZ h,ZY rfl,ZY (X1 _)];grind
   .rw[ZZ h,ZZ e,ZZ (by lia)];grind
theorem Wf(f:Nat->Nat->Rat)(m:Nat):∀n,sg (λk=>sg (λl=>f k l) m) n=sg (λl=>sg (λk=>f k l) n) m
 |0=>by
  show(0:Rat)=sg (λ_=>0) m;rw[O6]
 |n+1=>by
  show sg (λk=>sg (λl=>f k l) m) n+sg (λl=>f n l) m=sg (λl=>sg (λk=>f k l) n+f n l) m;rw[PX,Wf f m n]
theorem Ot(f:Nat->Int):∀n,((sz f n:Int):Rat)=sg (λk=>(f k:Rat)) n
 |0=>Rat.intCast_zero
 |n+1=>by unfold sz sg;rw[Rat.intCast_add,Ot f n]
theorem Ii{f:Nat->Int}{B:Nat} : ∀{n},(∀k,k<n->(f k).natAbs<=B)->(sz f n).natAbs<=n*B
 |0,_=>by unfold sz;simp
 |n+1,h=>by
  unfold sz;have:=Ii (n:=n) λk hk=>h k (WU _ hk);have:=h n (X1 _);rw[Nat.add_mul,Nat.one_mul];omega
theorem aaB(f g:Nat->Int):∀n,sz (λk=>f k-g k) n=sz f n-sz g n
 |0=>rfl
 |n+1=>by unfold sz;rw[aaB f g n];lia
theorem Qu{f g:Nat->Int} : ∀{n},(∀j,j<n->f j=g j)->sz f n=sz g n
 |0,_=>rfl
 |n+1,h=>by unfold sz;rw[Qu λj hj=>h j (WU _ hj),h n (X1 _)]
theorem RP{α:Type}(q:α->Bool):∀L:List α,(L.filter q).length+(L.filter λx=>!q x).length=L.length
 |[]=>rfl
 |x::L=>by
  have:=RP q L;rw[List.filter_cons,List.filter_cons];cases h:q x with
  |true=>rw[ZY rfl,ZZ (by simp),List.length_cons,List.length_cons];lia
  |false=>rw[ZZ (by simp),ZY (by simp),List.length_cons,List.length_cons];lia
theorem ZM{α:Type}(f:α->Nat)(n:Nat):∀(W:Nat)(L:List α),(∀x∈L,f x<W)->W*n<L.length->∃v,n<(L.filter λx=>f x==v).length
 |0,L,h,hl=>by
  cases L with
  |nil=>simp at hl
  |cons x L=>exact absurd (h x aP) (WV _)
 |W+1,L,h,hl=>by
  by_cases e:n<(L.filter λx=>f x==W).length
  .exact⟨W,e⟩
  .have pl:=RP (λx=>f x==W) L;rw[Nat.add_mul,Nat.one_mul]at hl;obtain⟨v,hv⟩:=ZM f n W (L.filter λx=>!(f x==W)) (λx hx=>by
    obtain⟨a,b⟩:=List.mem_filter.mp hx;have:=h x a;have ne:f x≠W:=λz=>by rw[z]at b;simp at b
    lia) (by omega)
   exact⟨v,aV hv (List.Sublist.length_le (List.Sublist.filter _ List.filter_sublist))⟩
theorem digits_inj{W:Nat}(hW:0<W):∀(n c d:Nat),c<W^n->d<W^n->(∀k,k<n->c/W^k%W=d/W^k%W)->c=d
 |0,c,d,hc,hd,_=>by
  rw[Nat.pow_zero]at hc hd;lia
 |n+1,c,d,hc,hd,h=>by
  have h0:=h 0 (Nat.succ_pos _);rw[Nat.pow_zero,Nat.div_one,Nat.div_one]at h0;have e:=digits_inj hW n (c/W) (d/W) (Nat.div_lt_of_lt_mul (by rw[Nat.mul_comm,<- Nat.pow_succ];exact hc)) (Nat.div_lt_of_lt_mul (by rw[Nat.mul_comm,<- Nat.pow_succ];exact hd)) λk hk=>by
   have:=h (k+1) (Nat.succ_lt_succ hk);rw[Nat.div_div_eq_div_mul,Nat.div_div_eq_div_mul,<- Nat.pow_succ'];exact this
  rw[<- Nat.div_add_mod c W,<- Nat.div_add_mod d W,e,h0]
theorem XH{p N:Nat}(hN:1<=N):(2*((p+1)*((2*(p+1)*N)^p*N))+1)^p<((2*(p+1)*N)^p+1)^(p+1):=by
 have w:2*((p+1)*((2*(p+1)*N)^p*N))+1<=2*(p+1)*N*((2*(p+1)*N)^p+1):=by
  have e:2*((p+1)*((2*(p+1)*N)^p*N))=2*(p+1)*N*(2*(p+1)*N)^p:=by ac_rfl
  have x1:1<=2*(p+1)*N:=Nat.mul_le_mul (show 1<=2*(p+1)by lia) hN;rw[e];generalize 2*(p+1)*N=X at *;rw[Nat.mul_add,Nat.mul_one];exact Nat.add_le_add_left x1 _
 refine Y3 (Nat.pow_le_pow_left w p) ?_;rw[Nat.mul_pow,Nat.pow_succ,Nat.mul_comm];exact Nat.mul_lt_mul_of_pos_left (X1 _) (Nat.pow_pos (Nat.succ_pos _))
theorem Yr{p N:Nat}{C:Nat->Nat->Int}(hN:1<=N)(hC:∀k l,k<=p->l<p->(C k l).natAbs<=N) :
  ∃lam:Nat->Int,(∃k,k<=p/\lam k≠0)/\(∀k,(lam k).natAbs<=(2*(p+1)*N)^p)/\∀l,l<p->sz (λk=>lam k*C k l) (p+1)=0:=by
 have ps:=XH (p:=p) hN;generalize hB:(2*(p+1)*N)^p=B at *;generalize hO:(p+1)*(B*N)=O at *;have dig:∀c k:Nat,c/(B+1)^k%(B+1)<=B:=λc k=>Nat.le_of_lt_succ (Nat.mod_lt _ (Nat.succ_pos _));have eb:∀l c,l<p->(sz (λk=>((c/(B+1)^k%(B+1):Nat):Int)*C k l) (p+1)).natAbs<=O:=λl c hl=>by
  rw[<- hO];refine Ii λk hk=>?_;rw[Int.natAbs_mul,XT];exact Nat.mul_le_mul (dig c k) (hC k l (Nat.le_of_lt_succ hk) hl)
 have all:∀q,q<=p->∃L:List Nat,L.Nodup/\(∀c∈L,c<(B+1)^(p+1))/\(∀l,l<q->∀c∈L,∀d∈L,sz (λk=>((c/(B+1)^k%(B+1):Nat):Int)*C k l) (p+1)=sz (λk=>((d/(B+1)^k%(B+1):Nat):Int)*C k l) (p+1))/\(2*O+1)^(p-q)<L.length:=by
  intro q
  induction q with
  |zero=>exact λ_=>⟨List.range ((B+1)^(p+1)),List.nodup_range,λc hc=>List.mem_range.mp hc,λl hl=>absurd hl (WV _),by rw[List.length_range,Nat.sub_zero];exact ps⟩
  |succ q ih =>
   intro hq;obtain⟨L,nd,lt,eq,ln⟩:=ih (aM (Xs _) hq);have e1:(2*O+1)^(p-q)=(2*O+1)*(2*O+1)^(p-(q+1)):=by rw[<- Nat.pow_succ',show(p-(q+1)).succ=p-q by lia]
   rw[e1]at ln;obtain⟨v,hv⟩:=ZM (λc=>(sz (λk=>((c/(B+1)^k%(B+1):Nat):Int)*C k q) (p+1)+O).toNat) _ _ L (λc _=>by
    have:=eb q c (aV (X1 _) hq);omega) ln
   refine⟨_,List.Pairwise.sublist List.filter_sublist nd,λc hc=>lt c (List.mem_filter.mp hc).1,λl hl c hc d hd=>?_,hv⟩;obtain⟨c1,c2⟩:=List.mem_filter.mp hc;obtain⟨d1,d2⟩:=List.mem_filter.mp hd;by_cases e:l<q
   .exact eq l e c c1 d d1
   .have e:l=q:=by lia
    subst e;have c2:=beq_iff_eq.mp c2;have d2:=beq_iff_eq.mp d2;have:=eb l c (aV hl hq);have:=eb l d (aV hl hq);omega
 obtain⟨L,nd,lt,eq,ln⟩:=all p (aG p);rw[Nat.sub_self,Nat.pow_zero]at ln
 match L,nd,lt,eq,ln with
 |c::d::L,nd,lt,eq,_ =>
  have ne:c≠d:=λz=>by
   rw[z]at nd;exact(List.nodup_cons.mp nd).1 aP
  refine⟨λk=>((c/(B+1)^k%(B+1):Nat):Int)-((d/(B+1)^k%(B+1):Nat):Int),?_,λk=>?_,λl hl=>?_⟩
  .by_cases h:∀k,k<p+1->c/(B+1)^k%(B+1)=d/(B+1)^k%(B+1)
   .exact absurd (digits_inj (Nat.succ_pos B) (p+1) c d (lt c aP) (lt d (aJ _ aP)) h) ne
   .obtain⟨k,hk⟩:=Classical.not_forall.mp h;obtain⟨k1,k2⟩:=Classical.not_imp.mp hk;exact⟨k,by exact Nat.le_of_lt_succ k1,λz=>k2 (by
     have z:((c/(B+1)^k%(B+1):Nat):Int)-((d/(B+1)^k%(B+1):Nat):Int)=0:=z;generalize c/(B+1)^k%(B+1)=x at *;generalize d/(B+1)^k%(B+1)=y at *;lia)⟩
  .have:=dig c k;have:=dig d k;show(((c/(B+1)^k%(B+1):Nat):Int)-((d/(B+1)^k%(B+1):Nat):Int)).natAbs<=B;omega
  .rw[Qu (g:=λk=>((c/(B+1)^k%(B+1):Nat):Int)*C k l-((d/(B+1)^k%(B+1):Nat):Int)*C k l) λk _=>Int.sub_mul _ _ _,aaB,eq l hl c aP d (aJ _ aP)];exact Int.sub_self _
 |[_],_,_,_,ln=>exact absurd ln (by simp)
 |[],_,_,_,ln=>exact absurd ln (by simp)
structure mC(A:Nat->Nat->Int)(b:Nat->Int)(m wd:Nat)(R:Nat->Nat->Rat)(p:Nat)(pv s:Nat->Nat):Prop where
 pm:p<=m
 sm:∀i,i<m->s i<m
 pw:∀l,l<p->pv l<wd
 unit:∀i l,i<m->l<p->R i (pv l)=if i=l then 1 else 0
 dec:∀i j,i<m->j<wd->(A (s i) j:Rat)=(if i<p then 0 else(b (s i):Rat)*R i j)+sg (λl=>(A (s i) (pv l):Rat)*R l j) p
 ind:∀lam:Nat->Rat,(∀j,j<wd->sg (λk=>lam k*(A (s k) j:Rat)) p=0)->∀k,k<p->lam k=0
section
variable{A:Nat->Nat->Int}{b:Nat->Int}{m wd p:Nat}{R:Nat->Nat->Rat}{pv s:Nat->Nat}
theorem mC.comb(h:mC A b m wd R p pv s)(lam:Nat->Rat){j:Nat}(hj:j<wd):sg (λk=>lam k*(A (s k) j:Rat)) p=sg (λl=>sg (λk=>lam k*(A (s k) (pv l):Rat)) p*R l j) p:=by
 have pm:=h.pm;rw[gD (g:=λk=>sg (λl=>lam k*(A (s k) (pv l):Rat)*R l j) p) λk hk=>?_]
 .rw[Wf];refine gD λl hl=>?_;rw[gD (g:=λk=>R l j*(lam k*(A (s k) (pv l):Rat))) λk _=>Rat.mul_comm _ _,DQ,Rat.mul_comm]
 .rw[h.dec k j (aV hk pm) hj,ZY hk,Rat.zero_add,<- DQ];exact gD λl _=>(Rat.mul_assoc _ _ _).symm
theorem eU{x:Int}(h:x≠0):(x:Rat)≠0:=λz=>h (Rat.intCast_inj.mp (z.trans Rat.intCast_zero.symm))
theorem afR{m N q:Nat}(hN:1<=N)(hq:q+1<=m):(2*(q+1)*N)^(q+1)<=(2*m*N)^m:=by
 have x:2*(q+1)*N<=2*m*N:=Nat.mul_le_mul (by lia) (aG N);have y:1<=2*m*N:=Nat.mul_le_mul (show 1<=2*m by lia) hN;exact aM (Nat.pow_le_pow_left x _) (XU y hq)
theorem abz{m N q:Nat}(hN:1<=N)(hq:q+1<=m):(q+1)*((2*(q+1)*N)^q*N)<=(2*m*N)^m:=by
 refine aM ?_ (afR hN hq);have e:(2*(q+1)*N)^(q+1)=2*((q+1)*((2*(q+1)*N)^q*N)):=by
  rw[Nat.pow_succ];ac_rfl
 lia
theorem mC.bound{N:Nat}(h:mC A b m wd R p pv s)(hN:1<=N)(hA:∀i j,i<m->j<wd->(A i j).natAbs<=N)(hb:∀i,i<m->0<b i/\(b i).natAbs<=N){i:Nat}(hi:i<m) :
    ∃(v:Nat->Int)(u:Int),u≠0/\u.natAbs<=(2*m*N)^m/\(∀j,j<wd->(v j).natAbs<=(2*m*N)^m)/\∀j,j<wd->R i j*(u:Rat)=(v j:Rat):=by
  have pm:=h.pm;by_cases ip:i<p
  . obtain⟨q,rfl⟩ : ∃q,p=q+1:=⟨p-1,by lia⟩
    obtain⟨lam,⟨k0,hk0,nk0⟩,bl,zr⟩:=Yr (p:=q) (C:=λk l=>A (s k) (if l<i then pv l else pv (l+1))) hN λk l hk hl=>by
      refine hA _ _ (h.sm k (by lia)) ?_;by_cases e:l<i
      . rw[ZY e];exact h.pw l (WU _ hl)
      . rw[ZZ e];exact h.pw (l+1) (Nat.succ_lt_succ hl)
    have cast:∀j,((sz (λk=>lam k*A (s k) j) (q+1):Int):Rat)=sg (λk=>(lam k:Rat)*(A (s k) j:Rat)) (q+1):=λj=>by
      rw[Ot];exact gD λk _=>XV _ _
    have zl:∀l,l<q+1->l≠i->sz (λk=>lam k*A (s k) (pv l)) (q+1)=0:=λl hl ne=>by
      by_cases e:l<i
      . have:=zr l (aV e (Nat.le_of_lt_succ ip))
        rw[ZY e]at this;exact this
      . have:=zr (l-1) (by omega)
        rw[ZZ (by lia),show l-1+1=l by lia]at this;exact this
    have key:∀j,j<wd->((sz (λk=>lam k*A (s k) j) (q+1):Int):Rat)=((sz (λk=>lam k*A (s k) (pv i)) (q+1):Int):Rat)*R i j:=λj hj=>by
      rw[cast,h.comb (λk=>(lam k:Rat)) hj,gD (g:=λl=>(if l=i then 1 else 0)*(((sz (λk=>lam k*A (s k) (pv i)) (q+1):Int):Rat)*R l j)) λl hl=>?_,ZD,ZY ip];rw[<- cast (pv l)];by_cases e:l=i
      . rw[ZY e,e,Rat.one_mul]
      . rw[ZZ e,zl l hl e,Rat.intCast_zero];grind
    refine⟨λj=>sz (λk=>lam k*A (s k) j) (q+1),sz (λk=>lam k*A (s k) (pv i)) (q+1),λz=>?_,?_,λj hj=>?_,λj hj=>?_⟩
    . have:=h.ind (λk=>(lam k:Rat)) (λj hj=>by
        rw[<- cast,key j hj,z,Rat.intCast_zero];grind) k0 (Y3 hk0 (X1 _))
      exact eU nk0 this
    . exact aM (Ii λk hk=>by rw[Int.natAbs_mul];exact Nat.mul_le_mul (bl k) (hA _ _ (h.sm k (aV hk pm)) (h.pw i ip))) (abz hN (by omega))
    . exact aM (Ii λk hk=>by rw[Int.natAbs_mul];exact Nat.mul_le_mul (bl k) (hA _ _ (h.sm k (aV hk pm)) hj)) (abz hN (by omega))
    . rw[key j hj,Rat.mul_comm]
  . obtain⟨lam,⟨k0,hk0,nk0⟩,bl,zr⟩:=Yr (p:=p) (C:=λk l=>A (s (if k<p then k else i)) (pv l)) hN λk l hk hl=>by
      refine hA _ _ (h.sm _ ?_) (h.pw l hl);by_cases e:k<p
      . rw[ZY e];exact aV e pm
      . rw[ZZ e];exact hi
    have cast:∀j,((sz (λk=>lam k*A (s (if k<p then k else i)) j) (p+1):Int):Rat)=sg (λk=>(lam k:Rat)*(A (s k) j:Rat)) p+(lam p:Rat)*(A (s i) j:Rat):=λj=>by
      rw[Ot];show sg _ p+((lam p*A (s (if p<p then p else i)) j:Int):Rat)=_;rw[ZZ (X9 _),XV,gD (g:=λk=>(lam k:Rat)*(A (s k) j:Rat)) λk hk=>by rw[ZY hk,XV]]
    have key:∀j,j<wd->((sz (λk=>lam k*A (s (if k<p then k else i)) j) (p+1):Int):Rat)=((lam p*b (s i):Int):Rat)*R i j:=λj hj=>by
      have e0:sg (λl=>sg (λk=>(lam k:Rat)*(A (s k) (pv l):Rat)) p*R l j) p+(lam p:Rat)*sg (λl=>(A (s i) (pv l):Rat)*R l j) p=0:=by
        rw[<- DQ,<- PX,gD (g:=λ_=>0) λl hl=>?_,O6];have:=cast (pv l);rw[zr l hl,Rat.intCast_zero]at this
        calc _=(sg (λk=>(lam k:Rat)*(A (s k) (pv l):Rat)) p+(lam p:Rat)*(A (s i) (pv l):Rat))*R l j:=by grind
          _=0:=by rw[<- this];grind
      rw[cast,h.comb (λk=>(lam k:Rat)) hj,h.dec i j hi hj,ZZ ip,XV]
      grind
    have bp:=hb _ (h.sm i hi);have lp:lam p≠0:=λz=>by
      have kp:k0<p:=by
        by_cases e:k0=p
        . rw[e,z]at nk0;exact absurd rfl nk0
        . exact XX hk0 e
      have:=h.ind (λk=>(lam k:Rat)) (λj hj=>by
        have c:=cast j;rw[key j hj,z,Int.zero_mul,Rat.intCast_zero]at c
        grind) k0 kp
      exact eU nk0 this
    refine⟨λj=>sz (λk=>lam k*A (s (if k<p then k else i)) j) (p+1),lam p*b (s i),λz=>?_,?_,λj hj=>?_,λj hj=>?_⟩
    . rcases Int.mul_eq_zero.mp z with y|y
      . exact lp y
      . lia
    . rw[Int.natAbs_mul]
      refine aM (Nat.mul_le_mul (bl p) bp.2) (aM ?_ (abz hN (show p+1<=m by lia)));exact Nat.le_mul_of_pos_left _ (Nat.succ_pos p)
    . exact aM (Ii λk hk=>by
        rw[Int.natAbs_mul];refine Nat.mul_le_mul (bl k) (hA _ _ (h.sm _ ?_) hj);by_cases e:k<p
        . rw[ZY e];exact aV e pm
        . rw[ZZ e];exact hi) (abz hN (show p+1<=m by lia))
    . rw[key j hj,Rat.mul_comm]
theorem mC.congr(h:mC A b m wd R p pv s){R':Nat->Nat->Rat}(e:∀i j,i<m->R i j=R' i j):mC A b m wd R' p pv s:=by
 have pm:=h.pm;refine⟨h.pm,h.sm,h.pw,λi l hi hl=>by rw[<- e i _ hi];exact h.unit i l hi hl,λi j hi hj=>?_,h.ind⟩;rw[h.dec i j hi hj,e i j hi,gD λl hl=>by rw[e l j (aV hl pm)]]
theorem mC.zero(hb:∀i,i<m->0<b i):mC A b m wd (λi j=>(A i j:Rat)/(b i:Rat)) 0 pv id:=by
 refine⟨bA _,λi hi=>hi,λl hl=>absurd hl (WV _),λi l _ hl=>absurd hl (WV _),λi j hi hj=>?_,λlam _ k hk=>absurd hk (WV _)⟩;rw[ZZ (WV _)];have:=eU (Int.ne_of_gt (hb i hi));show(A i j:Rat)=(b i:Rat)*((A i j:Rat)/(b i:Rat))+0
 grind
def sw(p q x:Nat):Nat:=if x=p then q else if x=q then p else x
theorem mC.swap(h:mC A b m wd R p pv s){q:Nat}(hp:p<=q)(hq:q<m){R':Nat->Nat->Rat}(hR:∀i j,i<m->j<wd->R' i j=R (sw p q i) j):mC A b m wd R' p pv (λi=>s (sw p q i)):=by
 have pm:=h.pm;have sl:∀l,l<p->sw p q l=l:=λl hl=>by unfold sw;rw[ZZ (aU hl),ZZ (by lia)]
 have sm:∀i,i<m->sw p q i<m:=λi hi=>by
  unfold sw;split
  .exact hq
  .split<;>omega
 have sp:∀i,(sw p q i<p)↔i<p:=λi=>by
  unfold sw;split
  .lia
  .split<;>lia
 refine⟨pm,λi hi=>h.sm _ (sm i hi),h.pw,λi l hi hl=>?_,λi j hi hj=>?_,λlam hz=>?_⟩
 .rw[hR i _ hi (h.pw l hl),h.unit _ l (sm i hi) hl];by_cases e:i=l
  .rw[ZY e,e,ZY (sl l hl)]
  .rw[ZZ e,ZZ λz=>e ?_];have:i<p:=(sp i).mp (Y3 (Nat.le_of_eq z) hl);rw[<- z,sl i this]
 .rw[h.dec _ j (sm i hi) hj,hR i j hi hj]
  congr 1
  .by_cases e:i<p
   .rw[ZY e,ZY ((sp i).mpr e)]
   .rw[ZZ e,ZZ λz=>e ((sp i).mp z)]
  .exact gD λl hl=>by rw[hR l j (aV hl pm) hj,sl l hl]
 .exact h.ind lam λj hj=>by
   rw[<- hz j hj];exact gD λk hk=>by rw[sl k hk]
theorem mC.pivot(h:mC A b m wd R p pv s)(hp:p<m)(hb:∀i,i<m->0<b i){c:Nat}(hc:c<wd)(h0:R p c≠0){R':Nat->Nat->Rat}(hpp:∀j,j<wd->R' p j*R p c=R p j)(hii:∀i j,i<m->i≠p->j<wd->R' i j=R i j-R i c*R' p j) :
  mC A b m wd R' (p+1) (λl=>if l=p then c else pv l) s:=by
 have pm:=h.pm;have one:R' p c=1:=by
  have:=hpp c hc
  grind
 have zp:∀l,l<p->R' p (pv l)=0:=λl hl=>by
  have:=hpp (pv l) (h.pw l hl);rw[h.unit p l hp hl,ZZ (Nat.ne_of_gt hl)]at this
  grind
 have pvl:∀l,l<p->(if l=p then c else pv l)=pv l:=λl hl=>ZZ (aU hl);have old:∀i j,i<m->i≠p->j<wd->R i j=R' i j+R i c*R' p j:=λi j hi ne hj=>by rw[hii i j hi ne hj];grind
 have dec:∀i j,i<m->j<wd->(A (s i) j:Rat)=(if i<p+1 then 0 else(b (s i):Rat)*R' i j)+sg (λl=>(A (s i) (if l=p then c else pv l):Rat)*R' l j) (p+1):=λi j hi hj=>by
  have dj:=h.dec i j hi hj;have dc:=h.dec i c hi hc;have ej:sg (λl=>(A (s i) (pv l):Rat)*R l j) p=sg (λl=>(A (s i) (pv l):Rat)*R' l j) p+R' p j*sg (λl=>(A (s i) (pv l):Rat)*R l c) p:=by
   rw[<- DQ,<- PX];exact gD λl hl=>by rw[old l j (Nat.lt_trans hl hp) (aU hl) hj];grind
  rw[ej]at dj;show _=_+(sg _ p+(A (s i) (if p=p then c else pv p):Rat)*R' p j);rw[ZY rfl,gD (g:=λl=>(A (s i) (pv l):Rat)*R' l j) λl hl=>by rw[pvl l hl]];by_cases e:i<p
  .rw[ZY (WU _ e)];rw[ZY e]at dj dc
   grind
  .rw[ZZ e]at dj dc;by_cases e2:i=p
   .rw[ZY (by lia)];subst e2;have:=hpp j hj
    grind
   .rw[ZZ (by lia)];have:=old i j hi e2 hj
    grind
 refine⟨hp,h.sm,λl hl=>?_,λi l hi hl=>?_,dec,λlam hz=>?_⟩
 .by_cases e:l=p
  .show(if l=p then c else pv l)<wd;rw[ZY e];exact hc
  .show(if l=p then c else pv l)<wd;rw[ZZ e];exact h.pw l (XX (Nat.le_of_lt_succ hl) e)
 .show R' i (if l=p then c else pv l)=_;by_cases e:l=p
  .rw[ZY e,e];by_cases ip:i=p
   .rw[ZY ip,ip];exact one
   .rw[ZZ ip,hii i c hi ip hc,one];grind
  .rw[ZZ e];have hl':l<p:=by exact XX (Nat.le_of_lt_succ hl) e
   by_cases ip:i=p
   .rw[ip,zp l hl',ZZ (Ne.symm e)]
   .rw[hii i _ hi ip (h.pw l hl'),zp l hl',h.unit i l hi hl'];grind
 .have lp:lam p=0:=by
   by_cases z:lam p=0
   .exact z
   .exfalso

    have hj:∀j,j<wd->sg (λk=>lam k*(A (s k) j:Rat)) p=-(lam p*(A (s p) j:Rat)):=λj hj=>by
     have:sg (λk=>lam k*(A (s k) j:Rat)) p+lam p*(A (s p) j:Rat)=0:=hz j hj
     grind
    have hc':=h.comb lam hc;rw[hj c hc,gD (g:=λl=>-(lam p)*((A (s p) (pv l):Rat)*R l c)) λl hl=>by rw[hj _ (h.pw l hl)];grind,DQ]at hc';have dc:=h.dec p c hp hc;rw[ZZ (X9 p)]at dc;have b0:=eU (Int.ne_of_gt (hb _ (h.sm p hp)));have:lam p*((b (s p):Rat)*R p c)=0:=by rw[dc]at hc';grind
    grind
  intro k hk;by_cases e:k=p
  .rw[e];exact lp
  .refine h.ind lam (λj hj=>?_) k (XX (Nat.le_of_lt_succ hk) e);have:sg (λk=>lam k*(A (s k) j:Rat)) p+lam p*(A (s p) j:Rat)=0:=hz j hj;rw[lp]at this
   grind
end
noncomputable def vr(r:List Int×Int)(j:Nat):Rat:=((r.1.getD j 0:Int):Rat)/(r.2:Rat)
theorem Kp{f:Int->Int}(h0:f 0=0)(xs:List Int)(j:Nat):(xs.map f).getD j 0=f (xs.getD j 0):=by
 rw[au,au,aq];cases xs[j]? with
 |none=>exact h0.symm
 |some t=>rfl
theorem aaO{r:List Int×Int}(h:0<r.2)(j:Nat):vr (eE r) j=vr r j:=by
 have g0:=qu (ts:=r.1) h;obtain⟨d1,d2⟩:=nU (ts:=r.1) (b:=r.2);have e1:(eE r).1.getD j 0=r.1.getD j 0/gcL r.1 r.2:=Kp (f:=λt=>t/gcL r.1 r.2) (Int.zero_ediv _) r.1 j;have d3:gcL r.1 r.2 ∣ r.1.getD j 0:=by
  rw[au];cases e:r.1[j]? with
  |none=>exact⟨0,by rw[Int.mul_zero];rfl⟩
  |some t=>exact d2 t (aC e)
 have e2:(eE r).2=r.2/gcL r.1 r.2:=rfl;unfold vr;rw[e1,e2];generalize r.1.getD j 0=t at *;generalize gcL r.1 r.2=g at *;obtain⟨u,hu⟩:=d3;obtain⟨v,hv⟩:=d1;rw[hu,hv,Int.mul_ediv_cancel_left _ (Int.ne_of_gt g0),Int.mul_ediv_cancel_left _ (Int.ne_of_gt g0),XV,XV];have v0:v≠0:=λz=>by rw[hv,z,Int.mul_zero]at h;lia
 have:=eU v0;have:=eU (Int.ne_of_gt g0)
 grind
theorem X8{r:List Int×Int}{c:Ι}(h:0<r.2)(hc:0<c.2)(j:Nat):vr (eZ r c) j=vr r j*((c.1:Rat)/(c.2:Rat)):=by
 have e1:(eZ r c).1.getD j 0=r.1.getD j 0*c.1:=Kp (f:=λt=>t*c.1) (Int.zero_mul _) r.1 j;have e2:(eZ r c).2=r.2*c.2:=rfl;unfold vr;rw[e1,e2,XV,XV];have:=eU (Int.ne_of_gt h);have:=eU (Int.ne_of_gt hc)
 grind
theorem ab8{r p:List Int×Int}{c:Ι}(hr:0<r.2)(hp:0<p.2)(hc:0<c.2)(hl:r.1.length=p.1.length)(j:Nat):vr (dI r p c) j=vr r j+((c.1:Rat)/(c.2:Rat))*vr p j:=by
 have hB:=XZ hp hc;have g0:=Il (t:=r.2) hB;obtain⟨u,hu⟩:=Int.gcd_dvd_left r.2 (p.2*c.2);obtain⟨v,hv⟩:=Int.gcd_dvd_right r.2 (p.2*c.2);have es:dI r p c=(List.zipWith (λx y=>x*v+y*(u*c.1)) r.1 p.1,r.2*v):=by
  unfold dI;generalize((Int.gcd r.2 (p.2*c.2):Nat):Int)=g at g0 hu hv ⊢;have e1:p.2*c.2/g=v:=by rw[hv,Int.mul_ediv_cancel_left _ (Int.ne_of_gt g0)]
  have e2:r.2/g=u:=by
   conv=>lhs;rw[hu]
   exact Int.mul_ediv_cancel_left _ (Int.ne_of_gt g0)
  rw[e1,e2]
 generalize((Int.gcd r.2 (p.2*c.2):Nat):Int)=g at g0 hu hv;have v0:0<v:=Int.pos_of_mul_pos_right (by rw[<- hv];exact hB) g0;have ez:(List.zipWith (λx y=>x*v+y*(u*c.1)) r.1 p.1).getD j 0=r.1.getD j 0*v+p.1.getD j 0*(u*c.1):=by
  rw[au,au,au,List.getElem?_zipWith];by_cases e:j<r.1.length
  .rw[aj e,aj (aV e (Nat.le_of_eq hl))];rfl
  .rw[aN (Nat.le_of_not_lt e),aN (by lia)];show(0:Int)=0*v+0*(u*c.1);rw[Int.zero_mul,Int.zero_mul];rfl
 rw[es];unfold vr;show((List.zipWith (λx y=>x*v+y*(u*c.1)) r.1 p.1).getD j 0:Rat)/((r.2*v:Int):Rat)=_;rw[ez];generalize r.1.getD j 0=x;generalize p.1.getD j 0=y;have hu':(r.2:Rat)=(g:Rat)*(u:Rat):=by rw[<- XV,<- hu]
 have hv':(p.2:Rat)*(c.2:Rat)=(g:Rat)*(v:Rat):=by rw[<- XV,<- XV,hv]
 have r0:=eU (Int.ne_of_gt hr);have p0:=eU (Int.ne_of_gt hp);have c0:=eU (Int.ne_of_gt hc);have q0:=eU (Int.ne_of_gt v0);have k0:=eU (Int.ne_of_gt g0);rw[Rat.intCast_add,XV,XV,XV,XV];generalize(r.2:Rat)=r2 at *;generalize(p.2:Rat)=p2 at *;generalize(c.2:Rat)=c2 at *;generalize(c.1:Rat)=c1 at *;generalize(g:Rat)=gg at *;generalize(u:Rat)=uu at *;generalize(v:Rat)=vv at *;generalize(x:Rat)=xx at *;generalize(y:Rat)=yy at *;have e1:(xx*vv+yy*(uu*c1))/(r2*vv)=xx/r2+yy*(uu*c1)/(r2*vv):=by grind
 have e2:yy*(uu*c1)/(r2*vv)=c1/c2*(yy/p2):=by
  have:uu*(c2*p2)=r2*vv:=by rw[hu',Rat.mul_comm c2 p2,hv'];grind
  grind
 rw[e1,e2]
theorem yC{M wd:Nat}{r:List Int×Int}(hr:0<r.2)(g:gcL r.1 r.2=1)(hw:r.1.length=wd){v:Nat->Int}{u:Int}(u0:u≠0)(ub:u.natAbs<=M)(vb:∀j,j<wd->(v j).natAbs<=M)(e:∀j,j<wd->vr r j*(u:Rat)=(v j:Rat)):Big M r:=by
 refine least (s:=((List.range wd).map λj=>v j*u.sign,u.natAbs)) hr g ⟨?_,λk a b ha hb=>?_⟩ ⟨?_,?_,λt ht=>?_⟩
 .show r.1.length=((List.range wd).map λj=>v j*u.sign).length;rw[hw,ak,List.length_range]
 .have kw:k<wd:=by rw[<- hw];exact(ao.mp ha).1
  have hb:((List.range wd).map λj=>v j*u.sign)[k]?=some b:=hb;rw[aq,List.getElem?_range kw]at hb;cases hb;show a*((u.natAbs:Nat):Int)=v k*u.sign*r.2;have ek:=e k kw;unfold vr at ek;rw[au,ha]at ek;have ek:(a:Rat)/(r.2:Rat)*(u:Rat)=(v k:Rat):=ek;have r0:=eU (Int.ne_of_gt hr);have k2:a*u=v k*r.2:=by
   refine Rat.intCast_inj.mp ?_;rw[XV,XV]
   grind
  have k1:((u.natAbs:Nat):Int)=u*u.sign:=(Int.mul_sign_self u).symm;rw[k1,<- Int.mul_assoc,k2];ac_rfl
 .show(0:Int)<(u.natAbs:Nat);lia
 .show(((u.natAbs:Nat):Int)).natAbs<=M;rw[XT];exact ub
 .obtain⟨j,hj,rfl⟩:=YV.mp ht;rw[Int.natAbs_mul,Int.natAbs_sign_of_ne_zero u0,Nat.mul_one];exact vb j (List.mem_range.mp hj)
end Rw
namespace K24
open PySem PyProof.Rows L2
theorem aiu:wH (.non) (.non)=true:=rfl
theorem ae0{j:Int} : wH (.non) (.int j)=true:=rfl
theorem afO{i:Int} : wH (.int i) (.non)=true:=rfl
theorem afh{c:Bool} : wH (.non) (.bl c)=true:=rfl
theorem ahu{b:Bool} : wH (.bl b) (.non)=true:=rfl
theorem afY{t:Str} : wH (.non) (.str t)=true:=rfl
theorem ags{s:Str} : wH (.str s) (.non)=true:=rfl
theorem aha{i:Int}{j:Int} : wH (.int i) (.int j)=true:=rfl
theorem ahX{b:Bool}{c:Bool} : wH (.bl b) (.bl c)=true:=rfl
theorem ahF{s:Str}{t:Str} : wH (.str s) (.str t)=true:=rfl
theorem ahP{i:Int}{t:Str} : wH (.int i) (.str t)=true:=rfl
theorem aiR{s:Str}{j:Int} : wH (.str s) (.int j)=true:=rfl
theorem ahS{b:Bool}{t:Str} : wH (.bl b) (.str t)=true:=rfl
theorem aiw{s:Str}{c:Bool} : wH (.str s) (.bl c)=true:=rfl
noncomputable def mI(j:Nat)(σ:L2.St)(_:Hp):Nat:=match σ.getD j none with|some (.int k)=>k.natAbs|_=>0
local macro_rules| `(tactic|walk_at "rd")=>`(tactic|simp only[ur,Q8,YC,tOp,tUn,rU,acR,Y7,ait,tSl,Ke,tC,adn,rI0,rI,aiP,aeB,afe,Ks,Fd,tCB,Hl,Ho,agg,tOr,aeT,adk,acU,ais,Ry,afa,cQ,afN,ade,ac2,acZ,adu,aiI,adl,acC,ad0,LK,abU,aaQ,ad3,rEq,rNe,aiu,ae0,afO,afh,ahu,afY,ags,aha,ahX,ahF,ahP,aiR,ahS,aiw,Iw,acW,Ends.unset,agE,aah,ahi,adt,aiO,ac5,tSM,Uz,adR,aeV,acS,aaI,agO,Wu,Zj,adv,rJoin,tB,WX,aeW,aeQ,Vz,acY,ac1,ahU,ac9,Tj,aiE,agi,VN,V.str.injEq,L2.start,List.replicate_succ,List.replicate_zero,Nat.reduceSub,Nat.reduceAdd,List.map_cons,List.map_nil,List.length_cons,List.length_nil,List.cons_append,List.nil_append,List.append_nil,List.getElem?_cons_zero,List.getElem?_cons_succ,List.set_cons_zero,List.set_cons_succ,List.set_nil,Option.some.injEq,exists_eq_left',exists_eq_left,exists_and_left,exists_and_right,exists_eq_right,exists_eq,exists_eq',and_assoc,V.int.injEq,V.ref.injEq,V.bl.injEq,V.ty.injEq,List.cons.injEq,HO.tup.injEq,HO.lst.injEq,and_true,true_and,reduceCtorEq,cY,cR,bG,decide_true,decide_false,Bool.not_true,Bool.not_false,if_true,if_false,ite_true,ite_false,XW,YU,String.reduceEq,or_true,true_or,or_false,false_or,beq_self_eq_true,Bool.or_true,Bool.true_or,Bool.or_false,Bool.false_or,Bool.and_true,Bool.and_false,Bool.true_and,Bool.false_and,String.reduceBEq,Int.reduceToNat,Int.reducePow,Int.reduceMul,Int.reduceSub,Int.reduceAdd,Int.reduceNeg,Int.reduceLE,Int.reduceLT,Int.reduceEq,ne_eq,not_false_eq_true,not_true_eq_false,Int.cast_ofNat_Int])
open PySem.NumText
noncomputable abbrev zZ:Stmt:=top 10
noncomputable abbrev jq:Β:=["thing"]
noncomputable abbrev jA:Str:="is_whole"
noncomputable abbrev U9:Β:=["thing"]
theorem QS:bW U9 jq (bQ zZ):=fsc
noncomputable abbrev Dy:Stmt:=top 11
noncomputable abbrev ju:Β:=["one","other"]
noncomputable abbrev jB:Str:="divisor"
noncomputable abbrev Xw:Β:=["one","other","left","right","rest"]
theorem nQ:bW Xw ju (bQ Dy):=fsc
noncomputable abbrev MJ:Stmt:=top 15
noncomputable abbrev j_:Β:=["top","bottom"]
noncomputable abbrev kE:Str:="ratio"
noncomputable abbrev abL:Β:=["top","bottom","common"]
theorem Ji:bW abL j_ (bQ MJ):=fsc
noncomputable abbrev zW:Stmt:=top 16
noncomputable abbrev lF:Β:=["thing"]
noncomputable abbrev lO:Str:="is_ratio"
noncomputable abbrev U_:Β:=["thing","top","bottom"]
theorem vG:bW U_ lF (bQ zW):=fsc
noncomputable abbrev Tf:Stmt:=top 17
noncomputable abbrev Gf:Β:=["one","other"]
noncomputable abbrev Gd:Str:="plus"
noncomputable abbrev ad2:Β:=["one","other"]
theorem abX:bW ad2 Gf (bQ Tf):=fsc
noncomputable abbrev O5:Stmt:=top 18
noncomputable abbrev tV:Β:=["one","other"]
noncomputable abbrev tR:Str:="minus"
noncomputable abbrev acJ:Β:=["one","other"]
theorem Yp:bW acJ tV (bQ O5):=fsc
noncomputable abbrev Pa:Stmt:=top 19
noncomputable abbrev CV:Β:=["one","other"]
noncomputable abbrev Dp:Str:="times"
noncomputable abbrev abS:Β:=["one","other"]
theorem aap:bW abS CV (bQ Pa):=fsc
noncomputable abbrev Tq:Stmt:=top 20
noncomputable abbrev Gm:Β:=["one","other"]
noncomputable abbrev Fx:Str:="over"
noncomputable abbrev adY:Β:=["one","other"]
theorem acn:bW adY Gm (bQ Tq):=fsc
noncomputable abbrev Ni:Stmt:=top 21
noncomputable abbrev vO:Β:=["one","other"]
noncomputable abbrev vV:Str:="under"
noncomputable abbrev abG:Β:=["one","other"]
theorem aak:bW abG vO (bQ Ni):=fsc
noncomputable abbrev FQ:Stmt:=top 23
noncomputable abbrev tY:Β:=["fractions"]
noncomputable abbrev tu:Str:="level"
noncomputable abbrev Ww:Β:=["fractions","bottom","one"]
theorem Cz:bW Ww tY (bQ FQ):=fsc
noncomputable abbrev Mp:Stmt:=top 24
noncomputable abbrev Ca:Β:=["fractions"]
noncomputable abbrev Bh:Str:="total"
noncomputable abbrev aaV:Β:=["fractions","leveled"]
theorem QK:bW aaV Ca (bQ Mp):=fsc
noncomputable abbrev Ue:Stmt:=top 26
noncomputable abbrev FP:Β:=["thing","many"]
noncomputable abbrev Gj:Str:="fits"
noncomputable abbrev adK:Β:=["thing","many"]
theorem abB:bW adK FP (bQ Ue):=fsc
noncomputable abbrev uq:Stmt:=top 27
noncomputable abbrev j9:Β:=["hall","plan"]
noncomputable abbrev kO:Str:="check_plan"
noncomputable abbrev Oc:Β:=["hall","plan","room","thing"]
theorem sJ:bW Oc j9 (bQ uq):=fsc
noncomputable abbrev BW:Stmt:=top 29
noncomputable abbrev tL:Β:=["tops","bottom"]
noncomputable abbrev tQ:Str:="lowest"
noncomputable abbrev Ra:Β:=["tops","bottom","common","top"]
theorem yJ:bW Ra tL (bQ BW):=fsc
noncomputable abbrev rB:Stmt:=top 30
noncomputable abbrev pN:Β:=["row","often"]
noncomputable abbrev pC:Str:="row_times"
noncomputable abbrev xu:Β:=["row","often"]
theorem Nh:bW xu pN (bQ rB):=fsc
noncomputable abbrev uL:Stmt:=top 31
noncomputable abbrev q_:Β:=["row","other","often"]
noncomputable abbrev rA:Str:="row_plus"
noncomputable abbrev z6:Β:=["row","other","often","bottom","common","own","added","tops"]
theorem lQ:bW z6 q_ (bQ uL):=fsc
noncomputable abbrev xX:Stmt:=top 32
noncomputable abbrev pP:Β:=["leveled","step"]
noncomputable abbrev pL:Str:="take_step"
noncomputable abbrev QJ:Β:=["leveled","step","row"]
theorem Cq:bW QJ pP (bQ xX):=fsc
noncomputable abbrev xV:Stmt:=top 33
noncomputable abbrev m_:Β:=["row","column"]
noncomputable abbrev mH:Str:="number_at"
noncomputable abbrev Qw:Β:=["row","column"]
theorem Ls:bW Qw m_ (bQ xV):=fsc
noncomputable abbrev jz:Stmt:=top 34
noncomputable abbrev lC:Β:=["leveled"]
noncomputable abbrev k_:Str:="fractions_of"
noncomputable abbrev jh:Β:=["leveled"]
theorem Ez:bW jh lC (bQ jz):=fsc
noncomputable abbrev uM:Stmt:=top 35
noncomputable abbrev n_:Β:=["leveled","place","column"]
noncomputable abbrev oF:Str:="first_from"
noncomputable abbrev MF:Β:=["leveled","place","column","row"]
theorem zF:bW MF n_ (bQ uM):=fsc
noncomputable abbrev Oo:Stmt:=top 36
noncomputable abbrev vZ:Β:=["leveled","steps","step"]
noncomputable abbrev vY:Str:="go_on"
noncomputable abbrev acd:Β:=["leveled","steps","step"]
theorem YM:bW acd vZ (bQ Oo):=fsc
noncomputable abbrev vL:Stmt:=top 37
noncomputable abbrev p8:Β:=["leveled","steps","place","found","column"]
noncomputable abbrev pA:Str:="begin_row"
noncomputable abbrev Ru:Β:=["leveled","steps","place","found","column","first"]
theorem Bo:bW Ru p8 (bQ vL):=fsc
noncomputable abbrev qO:Stmt:=top 38
noncomputable abbrev lA:Β:=["leveled","steps","place","column"]
noncomputable abbrev kW:Str:="clear_column"
noncomputable abbrev I9:Β:=["leveled","steps","place","column","row","often"]
theorem o_:bW I9 lA (bQ qO):=fsc
noncomputable abbrev yq:Stmt:=top 39
noncomputable abbrev t_:Β:=["rows","wide"]
noncomputable abbrev uH:Str:="reduced"
noncomputable abbrev DY:Β:=["rows","wide","leveled","steps","place","column","found"]
theorem lD:bW DY t_ (bQ yq):=fsc
noncomputable abbrev zV:Stmt:=top 41
noncomputable abbrev qZ:Β:=["rows"]
noncomputable abbrev qY:Str:="width_of"
noncomputable abbrev Uv:Β:=["rows"]
theorem Rp:bW Uv qZ (bQ zV):=fsc
noncomputable abbrev nT:Stmt:=top 42
noncomputable abbrev mW:Β:=["rows","rights"]
noncomputable abbrev mV:Str:="with_rights"
noncomputable abbrev sY:Β:=["rows","rights"]
theorem Jr:bW sY mW (bQ nT):=fsc
noncomputable abbrev rM:Stmt:=top 43
noncomputable abbrev pF:Β:=["end","wide"]
noncomputable abbrev pQ:Str:="begins_of"
noncomputable abbrev wz:Β:=["end","wide","begins","row","columns"]
theorem pY:bW wz pF (bQ rM):=fsc
noncomputable abbrev Ea:Stmt:=top 44
noncomputable abbrev uw:Β:=["end","begins","wide"]
noncomputable abbrev ud:Str:="odd_row"
noncomputable abbrev Xz:Β:=["end","begins","wide","row"]
theorem Jm:bW Xz uw (bQ Ea):=fsc
noncomputable abbrev uZ:Stmt:=top 45
noncomputable abbrev pO:Β:=["end","begins","wide"]
noncomputable abbrev pI:Str:="answer_of"
noncomputable abbrev RB:Β:=["end","begins","wide","answer","row","column"]
theorem pK:bW RB pO (bQ uZ):=fsc
noncomputable abbrev kh:Stmt:=top 46
noncomputable abbrev mQ:Β:=["many"]
noncomputable abbrev mj:Str:="single_rows"
noncomputable abbrev j6:Β:=["many"]
theorem Gx:bW j6 mQ (bQ kh):=fsc
noncomputable abbrev rR:Stmt:=top 47
noncomputable abbrev jG:Β:=["rows","rights"]
noncomputable abbrev jt:Str:="only_answer"
noncomputable abbrev JB:Β:=["rows","rights","wide","end","begins"]
theorem lV:bW JB jG (bQ rR):=fsc
noncomputable abbrev mR:Stmt:=top 49
noncomputable abbrev iV:Β:=["hall","plan"]
noncomputable abbrev iY:Str:="chosen_doors"
noncomputable abbrev qQ:Β:=["hall","plan"]
theorem Fi:bW qQ iV (bQ mR):=fsc
noncomputable abbrev vB:Stmt:=top 50
noncomputable abbrev m5:Β:=["share","chosen"]
noncomputable abbrev mU:Str:="left_rows"
noncomputable abbrev Rr:Β:=["share","chosen","rows","room","offer","behind","chance"]
theorem jV:bW Rr m5 (bQ vB):=fsc
noncomputable abbrev yj:Stmt:=top 51
noncomputable abbrev yE:Β:=["rows"]
noncomputable abbrev yK:Str:="turned"
noncomputable abbrev vp:Β:=["rows"]
theorem Xc:bW vp yE (bQ yj):=fsc
noncomputable abbrev rC:Stmt:=top 52
noncomputable abbrev qe:Β:=["hall","plan"]
noncomputable abbrev qd:Str:="worths_of"
noncomputable abbrev wN:Β:=["hall","plan","chosen","pays"]
theorem uz:bW wN qe (bQ rC):=fsc
noncomputable abbrev oE:Stmt:=top 53
noncomputable abbrev ni:Β:=["hall","plan","start"]
noncomputable abbrev m8:Str:="visits_from"
noncomputable abbrev sW:Β:=["hall","plan","start","begin"]
theorem vd:bW sW ni (bQ oE):=fsc
noncomputable abbrev yN:Stmt:=top 56
noncomputable abbrev nM:Β:=["thing"]
noncomputable abbrev nF:Str:="is_word"
noncomputable abbrev Du:Β:=["thing"]
theorem Ua:bW Du nM (bQ yN):=fsc
noncomputable abbrev uh:Stmt:=top 58
noncomputable abbrev kI:Β:=["name","pay"]
noncomputable abbrev j7:Str:="check_head"
noncomputable abbrev Nk:Β:=["name","pay"]
theorem J2:bW Nk kI (bQ uh):=fsc
noncomputable abbrev lZ:Stmt:=top 59
noncomputable abbrev gA:Β:=["room"]
noncomputable abbrev gq:Str:="check_room_name"
noncomputable abbrev Bs:Β:=["room"]
theorem Ag:bW Bs gA (bQ lZ):=fsc
noncomputable abbrev qJ:Stmt:=top 60
noncomputable abbrev iW:Β:=["chance"]
noncomputable abbrev iU:Str:="check_chance"
noncomputable abbrev Jw:Β:=["chance"]
theorem Fj:bW Jw iW (bQ qJ):=fsc
noncomputable abbrev ou:Stmt:=top 61
noncomputable abbrev lX:Β:=["pairs"]
noncomputable abbrev nq:Str:="check_pairs"
noncomputable abbrev sG:Β:=["pairs","room","chance"]
theorem qM:bW sG lX (bQ ou):=fsc
noncomputable abbrev oM:Stmt:=top 62
noncomputable abbrev mK:Β:=["pairs"]
noncomputable abbrev mq:Str:="joined_ways"
noncomputable abbrev zO:Β:=["pairs","chances","room","chance"]
theorem lW:bW zO mK (bQ oM):=fsc
noncomputable abbrev sU:Stmt:=top 69
noncomputable abbrev mG:Β:=["share"]
noncomputable abbrev mY:Str:="check_share"
noncomputable abbrev J_:Β:=["share"]
theorem Jq:bW J_ mG (bQ sU):=fsc
noncomputable abbrev uc:Stmt:=top 70
noncomputable abbrev nY:Β:=["rooms"]
noncomputable abbrev nR:Str:="numbers_of"
noncomputable abbrev Mw:Β:=["rooms","numbers","room","name"]
theorem oK:bW Mw nY (bQ uc):=fsc
noncomputable abbrev oZ:Stmt:=top 71
noncomputable abbrev jT:Β:=["door","numbers"]
noncomputable abbrev jU:Str:="numbered_ways"
noncomputable abbrev Fe:Β:=["door","numbers","numbered","name","chance"]
theorem jL:bW Fe jT (bQ oZ):=fsc
noncomputable abbrev xW:Stmt:=top 72
noncomputable abbrev pX:Β:=["doors","numbers"]
noncomputable abbrev pW:Str:="offers_of"
noncomputable abbrev Qg:Β:=["doors","numbers","taken","told","door"]
theorem qm:bW Qg pX (bQ xW):=fsc
noncomputable abbrev Uw:Stmt:=top 75
noncomputable abbrev yx:Β:=["_law_script","_law_k"]
noncomputable abbrev yM:Str:="_law_cell"
noncomputable abbrev adw:Β:=["_law_script","_law_k"]
theorem abd:bW adw yx (bQ Uw):=fsc
noncomputable abbrev Iu:Stmt:=top 76
noncomputable abbrev iC:Β:=["_law_cell_here","_law_many"]
noncomputable abbrev iz:Str:="_law_stream"
noncomputable abbrev aaH:Β:=["_law_cell_here","_law_many","_law_found","_law_number","_law_digits","_law_k"]
theorem lE:bW aaH iC (bQ Iu):=fsc
noncomputable abbrev Yc:Stmt:=top 77
noncomputable abbrev HN:Β:=["_law_one","_law_other"]
noncomputable abbrev Jp:Str:="_law_gcd"
noncomputable abbrev ah5:Β:=["_law_one","_law_other","_law_low","_law_high"]
theorem NP:bW ah5 HN (bQ Yc):=fsc
noncomputable abbrev Ia:Stmt:=top 78
noncomputable abbrev qy:Β:=["_law_top","_law_bottom"]
noncomputable abbrev qC:Str:="_law_ratio"
noncomputable abbrev aaC:Β:=["_law_top","_law_bottom","_law_common"]
theorem Li:bW aaC qy (bQ Ia):=fsc
noncomputable abbrev uY:Stmt:=top 79
noncomputable abbrev pZ:Β:=["_law_found"]
noncomputable abbrev qj:Str:="_law_is_ratio"
noncomputable abbrev RX:Β:=["_law_found","_law_number"]
theorem Cm:bW RX pZ (bQ uY):=fsc
noncomputable abbrev p7:Stmt:=top 80
noncomputable abbrev oh:Β:=["_law_found","_law_many"]
noncomputable abbrev oR:Str:="_law_are_ratios"
noncomputable abbrev uE:Β:=["_law_found","_law_many"]
theorem J8:bW uE oh (bQ p7):=fsc
noncomputable abbrev s_same:Stmt:=top 81
noncomputable abbrev Df:Β:=["_law_one","_law_other"]
noncomputable abbrev Ao:Str:="_law_same"
noncomputable abbrev aef:Β:=["_law_one","_law_other"]
theorem abn:bW aef Df (bQ s_same):=fsc
noncomputable abbrev yI:Stmt:=top 82
noncomputable abbrev Dg:Β:=["_law_cell_here","_law_many"]
noncomputable abbrev Ce:Str:="_law_names"
noncomputable abbrev ux:Β:=["_law_cell_here","_law_many","_law_letters","_law_xs","_law_base","_law_at","_law_step"]
theorem tX:bW ux Dg (bQ yI):=fsc
noncomputable abbrev M_:Stmt:=top 83
noncomputable abbrev Aq:Β:=["_law_cell_here"]
noncomputable abbrev Dm:Str:="_law_share"
noncomputable abbrev aaU:Β:=["_law_cell_here","_law_xs","_law_bottom"]
theorem Gq:bW aaU Aq (bQ M_):=fsc
noncomputable abbrev Zz:Stmt:=top 84
noncomputable abbrev Ip:Β:=["_law_cell_here","_law_x","_law_y"]
noncomputable abbrev Jt:Str:="_law_pay"
noncomputable abbrev afc:Β:=["_law_cell_here","_law_x","_law_y"]
theorem aed:bW afc Ip (bQ Zz):=fsc
noncomputable abbrev zQ:Stmt:=top 85
noncomputable abbrev FZ:Β:=["_law_cell_here","_law_many"]
noncomputable abbrev Gk:Str:="_law_door"
noncomputable abbrev uy:Β:=["_law_cell_here","_law_many","_law_xs","_law_rooms","_law_sort","_law_pairs","_law_bottom","_law_part","_law_weights"]
theorem lq:bW uy FZ (bQ zQ):=fsc
noncomputable abbrev Fy:Stmt:=top 86
noncomputable abbrev wR:Β:=["_law_script","_law_at","_law_many","_law_most"]
noncomputable abbrev vM:Str:="_law_doors"
noncomputable abbrev Mi:Β:=["_law_script","_law_at","_law_many","_law_most","_law_rooms","_law_first","_law_cells","_law_cell_here","_law_room","_law_door_here"]
theorem qR:bW Mi wR (bQ Fy):=fsc
noncomputable abbrev Cr:Stmt:=top 87
noncomputable abbrev CZ:Β:=["_law_title","_law_door_here","_law_names_here"]
noncomputable abbrev A_:Str:="_law_built"
noncomputable abbrev Ay:Β:=["_law_title","_law_door_here","_law_names_here","_law_told","_law_sort","_law_pay_here","_law_pairs"]
theorem vD:bW Ay CZ (bQ Cr):=fsc
noncomputable abbrev Lr:Stmt:=top 88
noncomputable abbrev Fo:Β:=["_law_cell_here","_law_share_here","_law_rooms"]
noncomputable abbrev FJ:Str:="_law_hall"
noncomputable abbrev Uh:Β:=["_law_cell_here","_law_share_here","_law_rooms","_law_names_here","_law_found","_law_k","_law_titles"]
theorem CJ:bW Uh Fo (bQ Lr):=fsc
noncomputable abbrev Gs:Stmt:=top 89
noncomputable abbrev yw:Β:=["_law_cell_here","_law_rooms"]
noncomputable abbrev yQ:Str:="_law_chosen"
noncomputable abbrev aaK:Β:=["_law_cell_here","_law_rooms","_law_xs","_law_found","_law_k"]
theorem yD:bW aaK yw (bQ Gs):=fsc
noncomputable abbrev TV:Stmt:=top 90
noncomputable abbrev Gi:Β:=["_law_cell_here"]
noncomputable abbrev Fz:Str:="_law_size"
noncomputable abbrev ad6:Β:=["_law_cell_here","_law_xs"]
theorem Wm:bW ad6 Gi (bQ TV):=fsc
noncomputable abbrev pJ:Stmt:=top 91
noncomputable abbrev nW:Β:=["_law_rooms","_law_plan","_law_cells"]
noncomputable abbrev oG:Str:="_law_other_pays"
noncomputable abbrev uI:Β:=["_law_rooms","_law_plan","_law_cells","_law_found","_law_cell_here","_law_xs","_law_room","_law_sort","_law_pay_here","_law_pairs"]
theorem fZ:bW uI nW (bQ pJ):=fsc
noncomputable abbrev aat:Stmt:=top 92
noncomputable abbrev Hu:Β:=["_law_some"]
noncomputable abbrev Ie:Str:="_law_sum"
noncomputable abbrev ag9:Β:=["_law_some","_law_top","_law_bottom","_law_one"]
theorem Dt:bW ag9 Hu (bQ aat):=fsc
noncomputable abbrev UG:Stmt:=top 93
noncomputable abbrev Gb:Β:=["_law_found","_law_rooms","_law_plan"]
noncomputable abbrev FT:Str:="_law_paid"
noncomputable abbrev aeO:Β:=["_law_found","_law_rooms","_law_plan","_law_some","_law_k","_law_pay_here"]
theorem Fp:bW aeO Gb (bQ UG):=fsc
noncomputable abbrev Ft:Stmt:=top 94
noncomputable abbrev CN:Β:=["_law_found","_law_share_here","_law_plan"]
noncomputable abbrev Dq:Str:="_law_whole"
noncomputable abbrev O_:Β:=["_law_found","_law_share_here","_law_plan","_law_together","_law_again","_law_bottom"]
theorem Bk:bW O_ CN (bQ Ft):=fsc
noncomputable abbrev Rk:Stmt:=top 95
noncomputable abbrev TJ:Β:=["_law_script"]
noncomputable abbrev Mh:Str:="law"
noncomputable abbrev adi:Β:=["_law_script","_law_share_here","_law_many","_law_rooms","_law_plan","_law_other","_law_halls","_law_start","_law_found","_law_worths","_law_again","_law_some"]
theorem pq:bW adi TJ (bQ Rk):=fsc
noncomputable abbrev xU:Stmt:=ig 63 0
noncomputable abbrev nA:Β:=["self","name","pay"]
noncomputable abbrev Bj:Str:="__init__"
noncomputable abbrev CW:Str:="Door.__init__"
noncomputable abbrev RT:Β:=["self","name","pay"]
theorem NT:bW RT nA (bQ xU):=fsc
noncomputable abbrev wX:Stmt:=ig 63 1
noncomputable abbrev ql:Β:=["self"]
noncomputable abbrev Aw:Str:="ways"
noncomputable abbrev Bv:Str:="Door.ways"
noncomputable abbrev Rx:Β:=["self"]
theorem L_:bW Rx ql (bQ wX):=fsc
noncomputable abbrev vU:Stmt:=ig 64 0
noncomputable abbrev qg:Β:=["self","name","pay","room"]
noncomputable abbrev Av:Str:="__init__"
noncomputable abbrev Cg:Str:="Sure.__init__"
noncomputable abbrev QT:Β:=["self","name","pay","room"]
theorem Nu:bW QT qg (bQ vU):=fsc
noncomputable abbrev uR:Stmt:=ig 65 0
noncomputable abbrev jc:Β:=["self","name","pay","pairs"]
noncomputable abbrev zH:Str:="__init__"
noncomputable abbrev zy:Str:="Mixed.__init__"
noncomputable abbrev Nt:Β:=["self","name","pay","pairs"]
theorem Ka:bW Nt jc (bQ uR):=fsc
noncomputable abbrev xq:Stmt:=ig 66 0
noncomputable abbrev pR:Β:=["self","name","pay","chance","room","other"]
noncomputable abbrev B_:Str:="__init__"
noncomputable abbrev Am:Str:="Toss.__init__"
noncomputable abbrev Qn:Β:=["self","name","pay","chance","room","other"]
theorem M9:bW Qn pR (bQ xq):=fsc
noncomputable abbrev rG:Stmt:=ig 67 0
noncomputable abbrev qt:Β:=["self","name","pay","rooms"]
noncomputable abbrev Dc:Str:="__init__"
noncomputable abbrev Cd:Str:="Even.__init__"
noncomputable abbrev vo:Β:=["self","name","pay","rooms"]
theorem Lp:bW vo qt (bQ rG):=fsc
noncomputable abbrev rD:Stmt:=ig 73 0
noncomputable abbrev pU:Β:=["self","share","rooms"]
noncomputable abbrev BZ:Str:="__init__"
noncomputable abbrev Di:Str:="Hall.__init__"
noncomputable abbrev xT:Β:=["self","share","rooms"]
theorem Nv:bW xT pU (bQ rD):=fsc
noncomputable abbrev vA:Stmt:=ig 73 1
noncomputable abbrev jZ:Β:=["self"]
noncomputable abbrev Ar:Str:="size"
noncomputable abbrev CQ:Str:="Hall.size"
noncomputable abbrev QZ:Β:=["self"]
theorem Od:bW QZ jZ (bQ vA):=fsc
noncomputable abbrev lY:Stmt:=ig 73 4
noncomputable abbrev gC:Β:=["self","room"]
noncomputable abbrev qU:Str:="check_room"
noncomputable abbrev qK:Str:="Hall.check_room"
noncomputable abbrev Dd:Β:=["self","room"]
theorem Ab:bW Dd gC (bQ lY):=fsc
noncomputable abbrev oU:Stmt:=ig 73 6
noncomputable abbrev jH:Β:=["self","room"]
noncomputable abbrev xM:Str:="offers"
noncomputable abbrev xP:Str:="Hall.offers"
noncomputable abbrev sZ:Β:=["self","room"]
theorem Hs:bW sZ jH (bQ oU):=fsc
structure Adr where
 Door:Addr
 Sure:Addr
 Mixed:Addr
 Toss:Addr
 Even:Addr
 Hall:Addr
 NOUGHT:Addr
 ONE:Addr
 Door_init:Addr
 Door_ways:Addr
 Sure_init:Addr
 Mixed_init:Addr
 Toss_init:Addr
 Even_init:Addr
 Hall_init:Addr
 Hall_size:Addr
 Hall_check_room:Addr
 Hall_offers:Addr
structure Txt(K:Frag)(mg:Str->Ζ)(D:Adr):Prop where
 YD:mg "Door"=some (.ref D.Door)
 adQ:mg "Even"=some (.ref D.Even)
 adV:mg "Hall"=some (.ref D.Hall)
 Pn:mg "Mixed"=some (.ref D.Mixed)
 jo:mg "NOUGHT"=some (.ref D.NOUGHT)
 Br:mg "ONE"=some (.ref D.ONE)
 aeF:mg "Sure"=some (.ref D.Sure)
 aeC:mg "Toss"=some (.ref D.Toss)
 Gv:∃u,mg "LONGEST_WORD"=some u/\RelV (.int 8) u
 jY:∀H,SqT K H D.NOUGHT [.int 0,.int 1]
 uN:∀H,SqT K H D.ONE [.int 1,.int 1]
 ZF:Cls K D.Door
 Mf:Meth K D.Door "ways" D.Door_ways
 Kc:dO K D.Door "leads"
 Nj:dO K D.Door "name"
 Qe:dO K D.Door "pay"
 aby:Mk K D.Sure D.Sure_init
 Qz:Cls K D.Sure
 Mr:Meth K D.Sure "ways" D.Door_ways
 zA:dO K D.Sure "leads"
 PB:dO K D.Sure "name"
 QB:dO K D.Sure "pay"
 ZL:Mk K D.Mixed D.Mixed_init
 W2:Cls K D.Mixed
 JT:Meth K D.Mixed "ways" D.Door_ways
 Ja:dO K D.Mixed "leads"
 JW:dO K D.Mixed "name"
 NK:dO K D.Mixed "pay"
 abt:Mk K D.Toss D.Toss_init
 YK:Cls K D.Toss
 Nf:Meth K D.Toss "ways" D.Door_ways
 J0:dO K D.Toss "leads"
 Nb:dO K D.Toss "name"
 Rq:dO K D.Toss "pay"
 acj:Mk K D.Even D.Even_init
 Yb:Cls K D.Even
 Oa:Meth K D.Even "ways" D.Door_ways
 J1:dO K D.Even "leads"
 O8:dO K D.Even "name"
 Ss:dO K D.Even "pay"
 abD:Mk K D.Hall D.Hall_init
 tK:Cls K D.Hall
 z8:Meth K D.Hall "check_room" D.Hall_check_room
 HW:Meth K D.Hall "offers" D.Hall_offers
 Ol:Meth K D.Hall "size" D.Hall_size
 Kf:dO K D.Hall "leads"
 O4:dO K D.Hall "name"
 oY:dO K D.Hall "numbers"
 uU:dO K D.Hall "offered"
 Qs:dO K D.Hall "pay"
 sH:dO K D.Hall "share"
 Dh:G7 K D.Door "__init__" D.Door_init
 Mj:zT K Bj CW xU nA D.Door_init
 Ou:zT K Aw Bv wX ql D.Door_ways
 Lq:zT K Av Cg vU qg D.Sure_init
 zE:G7 K D.Mixed "__init__" D.Mixed_init
 J9:zT K zH zy uR jc D.Mixed_init
 M7:zT K B_ Am xq pR D.Toss_init
 Pj:zT K Dc Cd rG qt D.Even_init
 M5:zT K BZ Di rD pU D.Hall_init
 Ow:zT K Ar CQ vA jZ D.Hall_size
 z_:zT K qU qK lY gC D.Hall_check_room
 Jb:zT K xM xP oU jH D.Hall_offers
 Qt:mg "abs"=none
 adp:mg "all"=none
 Ym:mg "bool"=none
 rE:mg "enumerate"=none
 Yt:mg "int"=none
 fY:mg "isinstance"=none
 gH:mg "len"=none
 Jo:mg "list"=none
 gY:mg "range"=none
 Zx:mg "sorted"=none
 aft:mg "str"=none
 acT:mg "sum"=none
 V3:mg "tuple"=none
 Wk:mg "zip"=none
 Uq:dB K mg jA zZ jq
 Xj:dB K mg jB Dy ju
 ab1:dB K mg kE MJ j_
 Ul:dB K mg lO zW lF
 ad1:dB K mg Gd Tf Gf
 abP:dB K mg tR O5 tV
 acD:dB K mg Dp Pa CV
 adT:dB K mg Fx Tq Gm
 abe:dB K mg vV Ni vO
 V1:dB K mg tu FQ tY
 f_total:dB K mg Bh Mp Ca
 aev:dB K mg Gj Ue FP
 O7:dB K mg kO uq j9
 Yl:dB K mg tQ BW tL
 Sh:dB K mg pC rB pN
 Uk:dB K mg rA uL q_
 Rb:dB K mg pL xX pP
 SJ:dB K mg mH xV m_
 Gy:dB K mg k_ jz lC
 Mv:dB K mg oF uM n_
 aa2:dB K mg vY Oo vZ
 Tc:dB K mg pA vL p8
 GP:dB K mg kW qO lA
 Xh:dB K mg uH yq t_
 U4:dB K mg qY zV qZ
 JD:dB K mg mV nT mW
 R4:dB K mg pQ rM pF
 WW:dB K mg ud Ea uw
 QF:dB K mg pI uZ pO
 JX:dB K mg mj kh mQ
 Jz:dB K mg jt rR jG
 Ht:dB K mg iY mR iV
 QG:dB K mg mU vB m5
 aaG:dB K mg yK yj yE
 R7:dB K mg qd rC qe
 Kd:dB K mg m8 oE ni
 XR:dB K mg nF yN nM
 Nm:dB K mg j7 uh kI
 Az:dB K mg gq lZ gA
 IW:dB K mg iU qJ iW
 JK:dB K mg nq ou lX
 J5:dB K mg mq oM mK
 Kg:dB K mg mY sU mG
 PK:dB K mg nR uc nY
 Et:dB K mg jU oZ jT
 Ri:dB K mg pW xW pX
 aes:dB K mg yM Uw yx
 YX:dB K mg iz Iu iC
 ae8:dB K mg Jp Yc HN
 ZX:dB K mg qC Ia qy
 RM:dB K mg qj uY pZ
 LC:dB K mg oR p7 oh
 adz:dB K mg Ao s_same Df
 aco:dB K mg Ce yI Dg
 acg:dB K mg Dm M_ Aq
 agB:dB K mg Jt Zz Ip
 adB:dB K mg Gk zQ FZ
 abJ:dB K mg vM Fy wR
 abW:dB K mg A_ Cr CZ
 aeb:dB K mg FJ Lr Fo
 YZ:dB K mg yQ Gs yw
 aeD:dB K mg Fz TV Gi
 Nx:dB K mg oG pJ nW
 afE:dB K mg Ie aat Hu
 adS:dB K mg FT UG Gb
 abq:dB K mg Dq Ft CN
def Fam(D:Adr)(C:Addr):Prop:=C=D.Door\/C=D.Sure\/C=D.Mixed\/C=D.Toss\/C=D.Even\/C=D.Hall
theorem Txt.cl{K:Frag}{mg:Str->Ζ}{D:Adr}(T:Txt K mg D):∀C,Fam D C->Cls K C:=by
 rintro C (rfl|rfl|rfl|rfl|rfl|rfl)
 .exact T.ZF
 .exact T.Qz
 .exact T.W2
 .exact T.YK
 .exact T.Yb
 .exact T.tK
theorem Txt.GQ{K:Frag}{mg:Str->Ζ}{D:Adr}(T:Txt K mg D):∀C,Fam D C->dO K C "leads":=by
 rintro C (rfl|rfl|rfl|rfl|rfl|rfl)
 .exact T.Kc
 .exact T.zA
 .exact T.Ja
 .exact T.J0
 .exact T.J1
 .exact T.Kf
theorem Txt.Gn{K:Frag}{mg:Str->Ζ}{D:Adr}(T:Txt K mg D):∀C,Fam D C->dO K C "name":=by
 rintro C (rfl|rfl|rfl|rfl|rfl|rfl)
 .exact T.Nj
 .exact T.PB
 .exact T.JW
 .exact T.Nb
 .exact T.O8
 .exact T.O4
theorem Txt.Zm{K:Frag}{mg:Str->Ζ}{D:Adr}(T:Txt K mg D):∀C,Fam D C->dO K C "pay":=by
 rintro C (rfl|rfl|rfl|rfl|rfl|rfl)
 .exact T.Qe
 .exact T.QB
 .exact T.NK
 .exact T.Rq
 .exact T.Ss
 .exact T.Qs
def dD(D:Adr)(C:Addr):Prop:=C=D.Hall
theorem dD.fam{D:Adr}{C:Addr}(h:dD D C):Fam D C:=by
 unfold dD at h;unfold Fam;simp[h]
theorem Txt.qP{K:Frag}{mg:Str->Ζ}{D:Adr}(T:Txt K mg D):∀C,dD D C->Meth K C "check_room" D.Hall_check_room:=by
 rintro C (rfl)
 .exact T.z8
def eY(D:Adr)(C:Addr):Prop:=C=D.Hall
theorem eY.fam{D:Adr}{C:Addr}(h:eY D C):Fam D C:=by
 unfold eY at h;unfold Fam;simp[h]
theorem Txt.xY{K:Frag}{mg:Str->Ζ}{D:Adr}(T:Txt K mg D):∀C,eY D C->Meth K C "offers" D.Hall_offers:=by
 rintro C (rfl)
 .exact T.HW
def eV(D:Adr)(C:Addr):Prop:=C=D.Hall
theorem eV.fam{D:Adr}{C:Addr}(h:eV D C):Fam D C:=by
 unfold eV at h;unfold Fam;simp[h]
theorem Txt.um{K:Frag}{mg:Str->Ζ}{D:Adr}(T:Txt K mg D):∀C,eV D C->Meth K C "size" D.Hall_size:=by
 rintro C (rfl)
 .exact T.Ol
def fW(D:Adr)(C:Addr):Prop:=C=D.Door\/C=D.Sure\/C=D.Mixed\/C=D.Toss\/C=D.Even
theorem fW.fam{D:Adr}{C:Addr}(h:fW D C):Fam D C:=by
 unfold fW at h;unfold Fam;rcases h with h|h|h|h|h<;>simp[h]
theorem Txt.Lz{K:Frag}{mg:Str->Ζ}{D:Adr}(T:Txt K mg D):∀C,fW D C->Meth K C "ways" D.Door_ways:=by
 rintro C (rfl|rfl|rfl|rfl|rfl)
 .exact T.Mf
 .exact T.Mr
 .exact T.JT
 .exact T.Nf
 .exact T.Oa
section
variable{P:Program}{w:World}{K:Frag}{mg:Str->Ζ}{base:Heap}{D:Adr}
theorem boot_abs:bootBuiltins "abs"=some (.builtin "abs"):=by decide +kernel
theorem aan:1<=sizeLine:=by decide
theorem fQ:2<=sizeLine:=by decide
theorem adJ{n:Int}(h0:0<=n)(h1:n<=1000000):ag6 10 n:=⟨h0,h1,by decide⟩
theorem adE{n:Nat}(h:n<=64):n<=sizeLine:=aM h (by decide)
theorem acH(ns:List Int)(k:Nat):atI (nC (ns.map V.int) (some (k:Int)) (some ((k:Int)+1))++[V.int 0]) 0=some (V.int (ns.getD k 0)):=by
 unfold nC;rw[show((k:Int)+1)=((k+1:Nat):Int)by lia,HT.uf,HT.uf,ak];refine bY (j:=0) ?_;by_cases h:k<ns.length
 .rw[Nat.min_eq_left (Y2 h),Nat.min_eq_left (Nat.succ_le_of_lt h)];rw[show k+1-k=1 by exact Nat.add_sub_cancel_left _ _];rw[List.drop_eq_getElem_cons (by rw[ak];exact h)];simp[List.getD,h]
 .have e1:min k ns.length=ns.length:=by lia
  have e2:min (k+1) ns.length=ns.length:=by lia
  rw[e1,e2];simp[List.getD,aN (Nat.le_of_not_lt h)]
theorem b_{t u:TS}{D:Ends}{σ:L2.St}{H:Hp}(h:∀u',u'=u->ur t u' D σ H):ur t u D σ H:=h u rfl
theorem Lg{a b c d:TS}{D:Ends}{σ:L2.St}{H:Hp}(h:∀d',d'=d->ur a (ur b (ur c d')) D σ H):ur a (ur b (ur c d)) D σ H:=h d rfl
theorem Ak{α:Type} : ∀{l:List α},l.length=2->∃a b,l=[a,b]
 |[a,b],_=>⟨a,b,rfl⟩
theorem nH{t0:TE}{t v:TS}{D:Ends}{σ:L2.St}{H:Hp}{i k:Int}(ht:∀R:VK,R (.int i) H->t0 σ H R)(ne:i≠k)(h:v D σ H):ur (Q8 (Ho (tOp rEq t0 (tC (.int k)))) t Iw) v D σ H:=by
 refine ht _ ⟨rfl,_,rfl,?_⟩;dsimp only;rw[ZZ (by simp[ne])];exact h
theorem vR{t0:TE}{t v:TS}{D:Ends}{σ:L2.St}{H:Hp}{i k:Int}(ht:∀R:VK,R (.int i) H->t0 σ H R)(e:i=k)(h:∀Kn:L2.St->Hp->Prop,(∀σ' H',v D σ' H'->Kn σ' H')->t { D with nx:=Kn } σ H):ur (Q8 (Ho (tOp rEq t0 (tC (.int k)))) t Iw) v D σ H:=by
 refine ht _ ⟨rfl,_,rfl,?_⟩;dsimp only;rw[ZY (by simp[e])];exact h _ λ_ _ z=>z
theorem gM{te:TE}{D:Ends}{σ:L2.St}{H:Hp}(h:te σ H D.rt):YC te D σ H:=h
theorem Q_{te:TE}{σ:L2.St}{H:Hp}{Q:Μ->Hp->Prop}(h:te σ H λx H1=>Q [x] H1):Ks te Fd σ H Q:=h
theorem gK{t u:TS}{D:Ends}{σ:L2.St}{H:Hp}(h:t { D with nx:=u D } σ H):ur t u D σ H:=h
theorem cL{te:TE}{g:TG}{u:TS}{D:Ends}{σ:L2.St}{H:Hp}(h:te σ H λx H1=>g x σ H1 (u D)):ur (Ry te g) u D σ H:=h
theorem sI{c:TT}{t u:TS}{D:Ends}{σ:L2.St}{H:Hp}(h:c σ H λb H1=>if b=true then t D σ H1 else u D σ H1):Q8 c t u D σ H:=h
theorem aep{r:Μ->Hp->VK->Prop}{te:TE}{σ:L2.St}{H:Hp}{Q:VK}(h:te σ H λx H1=>r [x] H1 Q):tCB r (Ks te Fd) σ H Q:=h
def oV:Sp:=λvs H Q _=>∃x t,vs=[x]/\tyS H x=some t/\Q (.bl (t=="int")) H
theorem QC(F:Fun K jA jA zZ f fd)(T:Txt K mg D):cJ P w K mg base CX0 1 f fd jq oV:=by
 refine F.ok QS ?_ ?_
 .rintro _ _ _ _ ⟨x,t,rfl,_⟩;rfl
 .rintro cdv A outer s H _ Q E hr ⟨x,t,rfl,ht,q⟩;refine⟨_,(bO (cg (Og (cu m7 T.fY boot_isinstance (bF pv0 (bF (pH (v:=.ty "int") T.Yt boot_int rfl)))) (N_ (aec (cu m7 T.fY boot_isinstance (bF pv0 (bF (pH (v:=.ty "bool") T.Ym boot_bool rfl))))))))),?_⟩
  walk_at "rd"
  rw[ht]
  walk_at "rd"
  have hm:=Yy ht;simp only[YU,List.not_mem_nil,or_false]at hm;rcases hm with rfl|rfl|rfl|rfl|rfl|rfl|rfl<;>simpa using q
def Mq:Sp:=λvs H Q _=>∃(a b:Int),vs=[.int a,.int b]/\Q (.int (Int.gcd a b:Nat)) H
theorem aeo(F:Fun K Jp Jp Yc f fd)(T:Txt K mg D):cJ P w K mg base CX0 1 f fd HN Mq:=by
 refine cJ.clean (sp:=λvs H Q _=>∃(a b:Int),vs=[.int a,.int b]/\∀H',Same H H'->Q (.int (Int.gcd a b:Nat)) H')
  (F.ok NP (λvs H Q E h=>?_) (λcdv A outer s H vs Q E hr h=>?_)) λvs H Q E hP=>by obtain⟨a,b,h1,h4⟩:=hP;exact⟨a,b,h1,λH' S=>⟨S,h4⟩⟩
 .obtain⟨a,b,rfl,_⟩:=h
  rfl
 .obtain⟨a,b,rfl,q⟩:=h;refine⟨_,(bI (oX (cu WL T.Zx boot_sorted (bF (jw (bF (cu vq T.Qt boot_abs (bF pv0)) (bF (cu vq T.Qt boot_abs (bF pv1))))))) (aa0 (n:=2) rfl (cG (cB (i:=2) NP.nd) (cG (cB (i:=3) NP.nd) fX))))
   (bI (Rm PassesOwn.never (cD RZ pv2 bK (cH _))
    (bO (aeu (i:=2) (j:=3) rfl NP.nd rfl rfl (by decide) rfl rfl (bF (bV lB pv3 pv2) (bF pv2)) rfl)))
   (bO (cg pv3)))),?_⟩
  walk_at "rd"
  refine⟨fQ,λp hp=>⟨[(a.natAbs:Int),(b.natAbs:Int)],?_,(by simp),λms p1 hp1 hm hs=>?_⟩⟩
  .rw[Mx,Mx];rfl
  have S:Same H (upd (upd H p (HO.lst [V.int (if a<0 then -a else a),V.int (if b<0 then -b else b)])) p1 (HO.lst (ms.map V.int))):=(Same.upd hp).trans (Same.upd hp1);generalize upd (upd H p (HO.lst [V.int (if a<0 then -a else a),V.int (if b<0 then -b else b)])) p1 (HO.lst (ms.map V.int))=H1 at S;have hk:∃l k:Nat,ms=[(l:Int),(k:Int)]/\Nat.gcd l k=Int.gcd a b:=by
   rcases aaP hm with rfl|rfl
   .exact⟨_,_,rfl,rfl⟩
   .exact⟨_,_,rfl,Nat.gcd_comm _ _⟩
  obtain⟨l,k,rfl,hg⟩:=hk
  walk_at "rd"
  refine Qh (λσ H2=>∃l k:Nat,σ=[some (.int a),some (.int b),some (.int l),some (.int k)]/\H2=H1/\Nat.gcd l k=Int.gcd a b)
   (mI 2) ⟨l,k,rfl,rfl,hg⟩ ?_ ?_
  .rintro σ H2 ⟨l,k,rfl,rfl,hg⟩
   walk_at "rd"
   by_cases hl:l=0
   .subst hl;simp only[Int.natCast_zero,Int.lt_irrefl,decide_false,XW,if_false];rw[show k=Int.gcd a b by rw[<- hg,Nat.gcd_zero_left]];exact q _ S
   .have hl':(0:Int)<l:=by lia
    rw[ZY (Zs hl')];refine⟨by exact Int.ne_of_gt hl',⟨k%l,BX _ _,l,rfl,?_⟩,?_⟩
    .rw[<- Nat.gcd_rec];exact hg
    .rw[BX];show(k%l)<l;exact Nat.mod_lt _ (Nat.pos_of_ne_zero hl)
  .intro σ H2 Q1 Q2 hq
   walk_at "rd"
   rintro⟨v,h1,i,h2,h3⟩;exact⟨v,h1,i,h2,hq _ _ h3⟩
theorem FN{a b:Int}(h:b≠0):(0:Int)<(Int.gcd a b:Nat):=by
 have:=Int.gcd_pos_of_ne_zero_right a h;lia
theorem O1{a b:Int}(h:b≠0)(hb:Bd b):Bd (Int.gcd a b:Nat):=by
 unfold Bd at *;refine Y3 ?_ hb;rw[XT];exact Nat.le_of_dvd (by lia) (Int.gcd_dvd_natAbs_right a b)
def g_:Sp:=λvs H Q _=>∃(a b:Int),vs=[.int a,.int b]/\Q (.int (Int.gcd a b:Nat)) H
def ajE(a b:Int)(H1:Hp)(σ:L2.St)(H:Hp):Prop:=∃(l k:Nat)(z:Option V),σ=[some (.int a),some (.int b),some (.int l),some (.int k),z]/\H=H1/\Nat.gcd l k=Int.gcd a b
theorem Tt(F:Fun K jB jB Dy f fd)(T:Txt K mg D):cJ P w K mg base CX0 1 f fd ju g_:=by
 refine F.ok nQ ?_ ?_
 .rintro _ _ _ _ ⟨a,b,rfl,_⟩;rfl
 .rintro cdv A outer s H _ Q E hr ⟨a,b,rfl,q⟩;refine⟨_,(bI (bZ (i:=2) nQ.nd (cu vq T.Qt boot_abs (bF pv0)))
   (bI (bZ (i:=3) nQ.nd (cu vq T.Qt boot_abs (bF pv1)))
   (bI (Rm PassesOwn.never (cD Bb pv3 bK (cH _))
    (bI (bZ (i:=4) nQ.nd (bV lB pv2 pv3))
    (bI (bZ (i:=2) nQ.nd pv3)
    (bO (bZ (i:=3) nQ.nd pv4)))))
   (bO (cg pv2))))),?_⟩
  walk_at "rd"
  rw[Mx,Mx];refine Qh (ajE a b H) (mI 3) ⟨a.natAbs,b.natAbs,none,rfl,rfl,rfl⟩ ?_ ?_
  .rintro σ H2 ⟨l,k,z,rfl,rfl,hg⟩
   walk_at "rd"
   by_cases hl:k=0
   .subst hl;rw[ZZ (by simp)];rw[show l=Int.gcd a b by rw[<- hg,Nat.gcd_zero_right]];exact q
   .have hl':¬((k:Int)=0):=by lia
    rw[ZY (by simpa using hl)];refine⟨by omega,⟨k,l%k,some (.int ((l%k:Nat):Int)),?_,rfl,?_⟩,?_⟩
    .rw[BX]
    .rw[Nat.gcd_comm,<- Nat.gcd_rec,Nat.gcd_comm];exact hg
    .rw[BX];show(l%k)<k;exact Nat.mod_lt _ (Nat.pos_of_ne_zero hl)
  .intro σ H2 Q1 Q2 hq
   walk_at "rd"
   rintro⟨v,h1,h2,h3⟩;exact⟨v,h1,h2,hq _ _ h3⟩
structure Low(t b x y:Int):Prop where
 pos:0<y
 gcd:Int.gcd x y=1
 eq:x*b=t*y
 lx:x.natAbs<=t.natAbs
 ly:y.natAbs<=b.natAbs
theorem Jd{c q:Int}(h:c≠0):Int.fdiv (c*q) c=q:=by
 rw[Int.fdiv_eq_ediv_of_dvd (Int.dvd_mul_right c q),Int.mul_ediv_cancel_left _ h]
theorem GD{c q:Int}(h:c≠0):q.natAbs<=(c*q).natAbs:=by
 rw[Int.natAbs_mul];exact Nat.le_mul_of_pos_left _ (by lia)
theorem YW{t b c:Int}(hb:b≠0)(hc:c≠0)(hg:c.natAbs=Int.gcd t b)(hs:0<c*b):Low t b (Int.fdiv t c) (Int.fdiv b c):=by
 have d1:c ∣ t:=Int.natAbs_dvd.mp (by rw[hg];exact Int.gcd_dvd_left t b);have d2:c ∣ b:=Int.natAbs_dvd.mp (by rw[hg];exact Int.gcd_dvd_right t b);obtain⟨x,rfl⟩:=d1;obtain⟨y,rfl⟩:=d2;rw[Jd hc,Jd hc];refine⟨?_,?_,?_,GD hc,GD hc⟩
 .rw[<- Int.mul_assoc]at hs;have hp:0<c*c:=by
   rcases Int.lt_or_lt_of_ne hc with z|z
   .exact Int.mul_pos_of_neg_of_neg z z
   .exact XZ z z
  exact Int.pos_of_mul_pos_right hs hp
 .rw[Int.gcd_mul_left]at hg;have hp:0<c.natAbs:=by lia
  exact Nat.eq_of_mul_eq_mul_left hp (by rw[Nat.mul_one];exact hg.symm)
 .rw[Int.mul_left_comm,Int.mul_assoc]
def gG:Sp:=λvs H Q _=>∃(t b:Int),vs=[.int t,.int b]/\b≠0/\Bd b/\∀p x y,Low t b x y->H p=none->Q (.ref p) (upd H p (.tup [.int x,.int y]))
theorem Y8{i:Int}(h:Bd i):Bd (-i):=by unfold Bd at *;rw[Int.natAbs_neg];exact h
theorem ZP(F:Fun K kE kE MJ f fd)(T:Txt K mg D)(dY:OkF P w K mg base 1 jA jq oV)(dZ:OkF P w K mg base 1 jB ju g_):cJ P w K mg base CX0 2 f fd j_ gG:=by
 refine F.ok Ji ?_ ?_
 .rintro _ _ _ _ ⟨t,b,rfl,_⟩;rfl
 .rintro cdv A outer s H _ Q E hr ⟨t,b,rfl,hb,hbd,q⟩;refine⟨_,(bI (cW (PW.pt (pw_or (fU (fj (bR dY hr.md (bF pv0)))) (pw_or1 (fU (fj (bR dY hr.md (bF pv1)))))))
    (bO gZ)
    cF)
   (bI (cW (cD lG pv1 bK (cH _))
    (bO gZ)
    cF)
   (bI (bZ (i:=2) Ji.nd (bR dZ hr.md (bF pv0 (bF pv1))))
   (bI (cW (cD Bc pv1 bK (cH _))
    (bO (bZ (i:=2) Ji.nd (Y9 Vk pv2)))
    cF)
   (bO (cg (gO (bF (bV iy pv0 pv2) (bF (bV iy pv1 pv2)))))))))),?_⟩
  unfold oV g_
  walk_at "rd"
  have g0:=FN (a:=t) hb;have g1:=O1 (a:=t) hb hbd;rw[ZZ (by simpa using hb)];refine pB (λhn=>?_) λhn=>?_
  .rw[decide_eq_true_eq]at hn;refine⟨by omega,Y8 g1,by omega,Y8 g1,fQ,λp hp=>q p _ _ (YW hb (by omega) (by lia) ?_) hp⟩;exact Int.mul_pos_of_neg_of_neg (by lia) hn
  .rw[decide_eq_true_eq]at hn;refine⟨by exact Int.ne_of_gt g0,g1,by exact Int.ne_of_gt g0,g1,fQ,λp hp=>q p _ _ (YW hb (Int.ne_of_gt g0) (by lia) ?_) hp⟩;exact XZ g0 (by lia)
def wI:Sp:=λvs H Q _=>∃(p q:Addr)(x y u v:Int),vs=[.ref p,.ref q]/\SqT K H p [.int x,.int y]/\SqT K H q [.int u,.int v]/\Bd x/\Bd y/\Bd u/\Bd v/\Q (.bl (decide (x*v<u*y))) H
theorem ZQ(F:Fun K vV vV Ni f fd):cJ P w K mg base CX0 1 f fd vO (wI (K:=K)):=by
 refine F.ok aak ?_ ?_
 .rintro _ _ _ _ ⟨p,q,x,y,u,v,rfl,_⟩;rfl
 .rintro cdv A outer s H _ Q E hr ⟨p,q,x,y,u,v,rfl,hp,hq,bx,b_y,bu,bv,k⟩;refine⟨_,(bO (cg (rN Bc (bV cT (bT cZ pv0 bK) (bT cZ pv1 bK)) (bV cT (bT cZ pv1 bK) (bT cZ pv0 bK)) (cH _)))),?_⟩
  walk_at "rd"
  exact⟨_,hp,_,cY,_,hq,_,cR,_,rfl,_,rfl,bx,bv,_,hq,_,cY,_,hp,_,cR,_,rfl,_,rfl,bu,b_y,k⟩
def HJ(g:Int->Int->Int):Sp:=λvs H Q _=>∃(p q:Addr)(x y u v:Int),vs=[.ref p,.ref q]/\SqT K H p [.int x,.int y]/\SqT K H q [.int u,.int v]/\Bd x/\Bd y/\Bd u/\Bd v/\0<y/\0<v/\Bd (y*v) /\
 ∀r z o,Low (g (x*v) (u*y)) (y*v) z o->H r=none->Q (.ref r) (upd H r (.tup [.int z,.int o]))
theorem aaX(F:Fun K Gd Gd Tf f fd)(eX:OkF P w K mg base 2 kE j_ gG):cJ P w K mg base CX0 3 f fd Gf (HJ (K:=K) λa b=>a+b):=by
 refine F.ok abX ?_ ?_
 .rintro _ _ _ _ ⟨p,q,x,y,u,v,rfl,_⟩;rfl
 .rintro cdv A outer s H _ Q E hr ⟨p,q,x,y,u,v,rfl,hp,hq,bx,b_y,bu,bv,y0,v0,byv,k⟩;refine⟨_,(bO (cg (bR eX hr.md (bF (bV d9 (bV cT (bT cZ pv0 bK) (bT cZ pv1 bK)) (bV cT (bT cZ pv1 bK) (bT cZ pv0 bK))) (bF (bV cT (bT cZ pv0 bK) (bT cZ pv1 bK))))))),?_⟩;unfold gG
  walk_at "rd"
  exact⟨_,hp,_,cY,_,hq,_,cR,_,rfl,_,rfl,bx,bv,_,hq,_,cY,_,hp,_,cR,_,rfl,_,rfl,bu,b_y,_,hp,_,cR,_,hq,_,cR,_,rfl,_,rfl,b_y,bv,Int.ne_of_gt (XZ y0 v0),byv,λr z o l hr=>k r z o l hr⟩
theorem Yj(F:Fun K tR tR O5 f fd)(eX:OkF P w K mg base 2 kE j_ gG):cJ P w K mg base CX0 3 f fd tV (HJ (K:=K) λa b=>a-b):=by
 refine F.ok Yp ?_ ?_
 .rintro _ _ _ _ ⟨p,q,x,y,u,v,rfl,_⟩;rfl
 .rintro cdv A outer s H _ Q E hr ⟨p,q,x,y,u,v,rfl,hp,hq,bx,b_y,bu,bv,y0,v0,byv,k⟩;refine⟨_,(bO (cg (bR eX hr.md (bF (bV Dw (bV cT (bT cZ pv0 bK) (bT cZ pv1 bK)) (bV cT (bT cZ pv1 bK) (bT cZ pv0 bK))) (bF (bV cT (bT cZ pv0 bK) (bT cZ pv1 bK))))))),?_⟩;unfold gG
  walk_at "rd"
  exact⟨_,hp,_,cY,_,hq,_,cR,_,rfl,_,rfl,bx,bv,_,hq,_,cY,_,hp,_,cR,_,rfl,_,rfl,bu,b_y,_,hp,_,cR,_,hq,_,cR,_,rfl,_,rfl,b_y,bv,Int.ne_of_gt (XZ y0 v0),byv,λr z o l hr=>k r z o l hr⟩
noncomputable def z7(c:Nat):Bool:=decide (c∈(Str.ofString "abcdefghijklmnopqrstuvwxyz").cps.toList)
def lH(l:List Nat):Bool:=decide (1<=l.length)&&decide (l.length<=8)&&l.all z7
theorem abH(c:Nat):((!decide ([c]<[97])) && !decide ([122]<[c]))=z7 c:=by
 have e:(Str.ofString "abcdefghijklmnopqrstuvwxyz").cps.toList=(List.range 26).map (97 + ·):=by decide +kernel
 have m:c∈(List.range 26).map (97 + ·)↔97<=c/\c<=122:=by
  rw[YV];constructor
  .rintro⟨i,h,rfl⟩;have:=List.mem_range.mp h;exact⟨X2 ..,by lia⟩
  .exact λh=>⟨c-97,List.mem_range.mpr (by omega),by omega⟩
 have h1:([c]<[97])↔c<97:=by rw[List.cons_lt_cons_iff];simp
 have h2:([122]<[c])↔122<c:=by rw[List.cons_lt_cons_iff];simp
 unfold z7;rw[e,decide_eq_decide.mpr m,decide_eq_decide.mpr h1,decide_eq_decide.mpr h2];by_cases a:c<97
 .rw[Zs a,Zp (p:=97<=c/\c<=122) (by lia)];rfl
 .by_cases b:122<c
  .rw[Zs b,Zp (p:=97<=c/\c<=122) (by lia)];exact Bool.and_false _
  .rw[Zp a,Zp b,Zs ⟨by exact Nat.le_of_not_lt a,by exact Nat.le_of_not_lt b⟩];rfl
def Al:Sp:=λvs H Q _=>∃v,vs=[v]/\((∃x:Str,v=.str x/\x.length<=1000/\Q (.bl (lH x.cps.toList)) H)\/∃t,tyS H v=some t/\t≠"str"/\Q (.bl false) H)
theorem Vj(F:Fun K nF nF yN f fd)(T:Txt K mg D):cJ P w K mg base CX0 1 f fd nM Al:=by
 refine cJ.clean (sp:=λvs H Q _=>∃v,vs=[v]/\((∃x:Str,v=.str x/\x.length<=1000/\∀H',Same H H'->Q (.bl (lH x.cps.toList)) H')\/∃t,tyS H v=some t/\t≠"str"/\∀H',Same H H'->Q (.bl false) H'))
  (F.ok Ua (λvs H Q E h=>?_) (λcdv A outer s H vs Q E hr h=>?_)) λvs H Q E hP=>by obtain⟨v,h1,h2⟩:=hP;exact⟨v,h1,h2.imp (λhP=>by obtain⟨x,a,b,c⟩:=hP;exact⟨x,a,b,λH' S=>⟨S,c⟩⟩) λhP=>by obtain⟨t,a,b,c⟩:=hP;exact⟨t,a,b,λH' S=>⟨S,c⟩⟩⟩
 .obtain⟨v,rfl,_⟩:=h
  rfl
 .obtain⟨v,rfl,h⟩:=h;refine⟨_,(bI (cW (PW.pt (pw_or (fU (fj (cu m7 T.fY boot_isinstance (bF pv0 (bF (pH (v:=.ty "str") T.aft boot_str rfl)))))) (pw_or1 (fU (QW Qd Qd bK (cu NQ T.gH PySem.boot_len (bF pv0)) (aaz (by rfl) T.Gv))))))
    (bO (cg vh))
    cF)
   (bO (cg (cu (Lb rfl) T.adp boot_all (bF (kJ (bQ yN) Du Du ["sign"] (adD (pv 0).mono) (dH (i:=0)) cU (RW ZW ZW uK pv0 uK))))))),?_⟩
  rcases h with⟨x,rfl,hx,q⟩|⟨t,ht,hne,q⟩
  .have hz:x.length<=sizeLine:=aM hx (by decide);have hl:x.cps.toList.length=x.length:=Array.length_toList;have ea:Str.ofString "a"=⟨#[97]⟩:=by decide +kernel
   have ez:Str.ofString "z"=⟨#[122]⟩:=by decide +kernel
   walk_at "rd"
   refine⟨hz,?_⟩;by_cases h1:1<=x.length
   .rw[ZY (Zs (by lia))];by_cases h2:x.length<=8
    .rw[ZZ (by rw[Zs (by lia)];decide)];refine RJ z7 x (λR h=>⟨_,rfl,h⟩) hz (λc Hc R h=>?_) λL hL=>⟨L,rfl,_,bG,?_⟩
     .walk_at "rd"
      rw[ea,ez];have:=abH c;rw[<- this]at h;cases hd:(!decide ([c]<[97]))with
      |false=>rw[hd]at h;exact h
      |true=>rw[hd]at h;exact h
     .have ew:lH x.cps.toList=(x.cps.toList.map z7).all id:=by
       unfold lH;rw[hl,Zs h1,Zs h2,List.all_map];rfl
      rw[<- ew];exact q _ (Same.upd hL)
    .rw[ZY (by rw[Zp (by lia)];rfl)];have ew:lH x.cps.toList=false:=by
      unfold lH;rw[hl,Zp h2,Bool.and_false];rfl
     rw[ew]at q;exact q _ (Same.refl _)
   .rw[ZZ (by rw[decide_eq_true_eq];lia)];have ew:lH x.cps.toList=false:=by
     unfold lH;rw[hl,Zp h1];rfl
    rw[ew]at q;exact q _ (Same.refl _)
  .walk_at "rd"
   refine⟨t,ht,?_⟩;rw[beq_eq_false_iff_ne.mpr hne];exact q _ (Same.refl _)
structure Fk(K:Frag)(H:Hp)(p:Addr)(x y:Int):Prop where
 at_:SqT K H p [.int x,.int y]
 pos:0<y
 gcd:Int.gcd x y=1
theorem Fk.same{K:Frag}{H H':Hp}{p:Addr}{x y:Int}(h:Fk K H p x y)(S:Same H H'):Fk K H' p x y:=⟨S.tup h.at_,h.pos,h.gcd⟩
def jy:Sp:=λvs H Q _=>∃p x y,vs=[.ref p]/\Fk K H p x y/\Q (.bl true) H
theorem Ro(F:Fun K lO lO zW f fd)(T:Txt K mg D)(dY:OkF P w K mg base 1 jA jq oV)(dZ:OkF P w K mg base 1 jB ju g_):cJ P w K mg base CX0 2 f fd lF (jy (K:=K)):=by
 refine F.ok vG ?_ ?_
 .rintro _ _ _ _ ⟨p,x,y,rfl,_⟩;rfl
 .rintro cdv A outer s H _ Q E hr ⟨p,x,y,rfl,hf,q⟩;have hp:=hf.at_;refine⟨_,(bI (cW (PW.pt (pw_or (fU (fj (cu (m7.or rK) T.fY boot_isinstance (bF pv0 (bF (pH (v:=.ty "tuple") T.V3 boot_tuple rfl)))))) (pw_or1 (cD Bb (cu K_ T.gH PySem.boot_len (bF pv0)) bK (cH _)))))
    (bO (cg vh))
    cF)
   (bI (bZ (i:=1) vG.nd (bT cZ pv0 bK))
   (bI (bZ (i:=2) vG.nd (bT cZ pv0 bK))
   (bI (cW (PW.pt (pw_or (fU (fj (bR dY hr.md (bF pv1)))) (pw_or1 (fU (fj (bR dY hr.md (bF pv2)))))))
    (bO (cg vh))
    cF)
   (bO (cg (Og (rN ac0 pv2 bK (cH _)) (N_ (rN lG (bR dZ hr.md (bF pv1 (bF pv2))) bK (cH _)))))))))),?_⟩
  unfold oV g_
  walk_at "rd"
  refine .inr ⟨⟨_,hp⟩,_,hp,?_⟩;rw[ZZ (by simp)];refine⟨_,hp,_,cY,_,hp,_,cR,_,LK,?_⟩;rw[ZZ (by decide)];refine⟨_,LK,?_⟩;rw[ZZ (by decide)];have hy:=hf.pos;refine⟨y,rfl,?_⟩;rw[ZY (Zs (by lia))];refine⟨x,rfl,y,rfl,?_⟩;rw[hf.gcd];exact q
def nZ:Sp:=λvs H Q _=>∃(n:Str)(p:Addr)(x y:Int),vs=[.str n,.ref p]/\n.length<=1000/\lH n.cps.toList=true/\Fk K H p x y/\Q .non H
theorem JG(F:Fun K j7 j7 uh f fd)(T:Txt K mg D)(jK:OkF P w K mg base 1 nF nM Al)(iK:OkF P w K mg base 2 lO lF (jy (K:=K))):cJ P w K mg base CX0 3 f fd kI (nZ (K:=K)):=by
 refine F.ok J2 ?_ ?_
 .rintro _ _ _ _ ⟨n,p,x,y,rfl,_⟩;rfl
 .rintro cdv A outer s H _ Q E hr ⟨n,p,x,y,rfl,hn,hw,hf,q⟩;refine⟨_,(bI (cW (fU (fj (bR jK hr.md (bF pv0))))
    (bO gZ)
    cF)
   (bO (cW (fU (fj (bR iK hr.md (bF pv1))))
    (bO gZ)
    cF))),?_⟩
  unfold Al jy
  walk_at "rd"
  rw[hw];exact .inl ⟨hn,⟨x,y,hf⟩,q⟩
def qb(D:Adr):Sp:=λvs H Q _=>∃(s dx C:Addr)(n:Str)(p:Addr)(x y:Int),vs=[.ref s,.str n,.ref p]/\H s=some (.ins C dx [])/\Fam D C/\n.length<=1000/\lH n.cps.toList=true/\Fk K H p x y /\
 ∀l,upd H s (.ins C dx [("name",.str n),("pay",.ref p)]) l=none->Q .non (upd (upd H l (.lst [])) s (.ins C dx [("name",.str n),("pay",.ref p),("leads",.ref l)]))
theorem Oh(F:Fun K Bj CW xU f fd)(T:Txt K mg D)(jM:OkF P w K mg base 3 j7 kI (nZ (K:=K))):cJ P w K mg base CX0 4 f fd nA (qb (K:=K) D):=by
 refine F.ok NT ?_ ?_
 .rintro _ _ _ _ ⟨s,dx,C,n,p,x,y,rfl,_⟩;rfl
 .rintro cdv A outer s H _ Q E hr ⟨o,dx,C,n,p,x,y,rfl,ho,hC,hn,hw,hf,q⟩;refine⟨_,(bI (cX (bR jM hr.md (bF pv1 (bF pv2))))
   (bI (xR pv0 pv1 rfl)
   (bI (xR pv0 pv2 rfl)
   (bO (xR pv0 (jw oW) rfl))))),?_⟩
  unfold nZ
  walk_at "rd"
  have cl:=T.cl C hC;refine⟨hn,hw,⟨x,y,hf⟩,C,dx,[],ho,cl,T.Gn C hC,(by decide),C,dx,_,rfl,cl,T.Zm C hC,(by show 1<1000;decide),bA _,λl hl=>?_⟩;rw[oH]at hl ⊢;have ne:o≠l:=bH bG hl;refine⟨C,dx,_,(bL ne).trans bG,cl,T.GQ C hC,(by show 2<1000;decide),?_⟩;have e:upd (upd (upd H o (.ins C dx (mJ "pay" (.ref p) (mJ "name" (.str n) [])))) l (.lst [])) o (.ins C dx (mJ "leads" (.ref l) (mJ "pay" (.ref p) (mJ "name" (.str n) []))))=upd (upd H l (.lst [])) o (.ins C dx [("name",.str n),("pay",.ref p),("leads",.ref l)]):=by
   funext b
   by_cases h1:b=o
   .subst h1;rw[bG,bG];rfl
   .rw[bL h1,bL h1];by_cases h2:b=l
    .subst h2;rw[bG,bG]
    .rw[bL h2,bL h2,bL h1]
  rw[e];exact q l hl
def mO:Sp:=λvs H Q _=>∃n:Str,vs=[.str n]/\n.length<=1000/\lH n.cps.toList=true/\Q .non H
theorem Aa(F:Fun K gq gq lZ f fd)(T:Txt K mg D)(jK:OkF P w K mg base 1 nF nM Al):cJ P w K mg base CX0 2 f fd gA mO:=by
 refine F.ok Ag ?_ ?_
 .rintro _ _ _ _ ⟨n,rfl,_⟩;rfl
 .rintro cdv A outer s H _ Q E hr ⟨n,rfl,hn,hw,q⟩;refine⟨_,(bO (cW (fU (fj (bR jK hr.md (bF pv0))))
    (bO gZ)
    cF)),?_⟩
  unfold Al
  walk_at "rd"
  rw[hw];exact .inl ⟨hn,q⟩
structure Ck(K:Frag)(H:Hp)(p:Addr)(x y:Int):Prop where
 fk:Fk K H p x y
 lo:0<=x
 hi:x<=y
 by_:Bd y
def yO:Sp:=λvs H Q _=>∃p x y,vs=[.ref p]/\Ck K H p x y/\Q .non H
theorem Ew(F:Fun K iU iU qJ f fd)(T:Txt K mg D)(iK:OkF P w K mg base 2 lO lF (jy (K:=K)))(rH:OkF P w K mg base 1 vV vO (wI (K:=K))):cJ P w K mg base CX0 3 f fd iW (yO (K:=K)):=by
 refine F.ok Fj ?_ ?_
 .rintro _ _ _ _ ⟨p,x,y,rfl,_⟩;rfl
 .rintro cdv A outer s H _ Q E hr ⟨p,x,y,rfl,hc,q⟩;refine⟨_,(bO (cW (PW.pt (pw_or (fU (fj (bR iK hr.md (bF pv0)))) (pw_or (fj (bR rH hr.md (bF pv0 (bF (dX T.jo))))) (pw_or1 (fj (bR rH hr.md (bF (dX T.Br) (bF pv0))))))))
    (bO gZ)
    cF)),?_⟩
  unfold jy wI
  walk_at "rd"
  have hy:=hc.fk.pos;have lo:=hc.lo;have hi:=hc.hi;have by_:=hc.by_;have bx:Bd x:=Y3 (by lia:x.natAbs<=y.natAbs) by_;have b0:Bd 0:=Nat.two_pow_pos 8000;have b1:Bd 1:=Nat.one_lt_two_pow (by decide);refine⟨⟨x,y,hc.fk⟩,x,y,hc.fk.at_,0,1,T.jY H,bx,by_,b0,b1,?_⟩;rw[ZZ (by simp;omega)];refine⟨1,1,T.uN H,x,y,hc.fk.at_,b1,b1,bx,by_,?_⟩;rw[ZZ (by simp;omega)];exact q
def Cy(D:Adr):Sp:=λvs H Q _=>∃(s dx:Addr)(n m:Str)(p:Addr)(x y:Int),vs=[.ref s,.str n,.ref p,.str m]/\H s=some (.ins D.Sure dx [])/\n.length<=1000/\lH n.cps.toList=true/\m.length<=1000/\lH m.cps.toList=true/\Fk K H p x y /\
 ∀t l H',H l=none->(∀b o,b≠s->H b=some o->H' b=some o)->H' t=some (.tup [.str m,.ref D.ONE])->H' l=some (.lst [.ref t])->H' s=some (.ins D.Sure dx [("name",.str n),("pay",.ref p),("leads",.ref l)])->Q .non H'
theorem Pk(F:Fun K Av Cg vU f fd)(T:Txt K mg D)(lR:OkI P w K mg base CX0 4 D.Door_init nA (qb (K:=K) D))(m6:OkF P w K mg base 2 gq gA mO):cJ P w K mg base CX0 5 f fd qg (Cy (K:=K) D):=by
 refine F.ok Nu ?_ ?_
 .rintro _ _ _ _ ⟨s,dx,n,m,p,x,y,rfl,_⟩;rfl
 .rintro cdv A outer s H _ Q E hr ⟨o,dx,n,m,p,x,y,rfl,ho,hn,hw,hm,hv,hf,q⟩;refine⟨_,(bI (cX (Dk T.Dh lR hr.md T.YD (bF pv0 (bF pv1 (bF pv2)))))
   (bI (cX (bR m6 hr.md (bF pv3)))
   (bO (xR pv0 (jw (bF (gO (bF pv3 (bF (dX T.Br)))))) rfl)))),?_⟩
  unfold qb mO
  walk_at "rd"
  refine⟨dx,D.Sure,ho,(by simp[Fam]),hn,hw,⟨x,y,hf⟩,λl hl=>⟨hm,hv,(by decide),λt ht=>⟨(by decide),λr hq=>?_⟩⟩⟩;have ol:o≠l:=bH bG hl;have ot:o≠t:=bH bG ht;have lt:l≠t:=bH ((bL ol.symm).trans bG) ht;have tr:t≠r:=bH bG hq;have or_:o≠r:=bH ((bL ot).trans bG) hq;refine⟨D.Sure,dx,_,(bL or_).trans ((bL ot).trans bG),T.Qz,T.zA,(by show 3<1000;decide),?_⟩;rw[bL ol.symm]at hl;rw[bL ot.symm,bL lt.symm]at ht;rw[bL tr.symm,bL or_.symm]at hq;refine q t r _ ?_ (λb u hb hu=>?_) ?_ ?_ bG
  .cases z:H r with
   |none=>rfl
   |some o' =>
    have bl:r≠l:=bH z hl;rw[bL bl,z]at hq;cases hq
  .have bl:b≠l:=bH hu hl;have bt:b≠t:=bH hu ht;have br:b≠r:=by
    intro e;subst e;rw[bL bl,hu]at hq;cases hq
   rw[bL hb,bL br,bL bt,bL hb,bL bl];exact hu
  .rw[bL ot.symm,bL tr];exact bG
  .rw[bL or_.symm];exact bG
theorem Bd.sm{i:Int}(h:i.natAbs<18446744073709551616):Bd i:=aV h (aM (by decide:18446744073709551616<=2^64) (XU (by decide) (by decide)))
def gP:Sp:=λvs H Q _=>∃(c:Int)(n:Nat),vs=[.int c,.int n]/\n<=100/\∀(l:Addr)(xs:List Int)H',Same H H'->H l=none->H' l=some (.lst (xs.map V.int))->xs.length=n->(∀x∈xs,0<=x/\x<2000000000)->Q (.ref l) H'
def jS(c:Int)(n:Nat)(p:Addr)(H:Hp)(k:Nat)(σ:L2.St)(H':Hp):Prop:=∃(xs:List Int)(m d:Int)(v:Option V),σ=[some (.int c),some (.int n),some (.ref p),some (.int m),some (.int d),v]/\(0<=m/\m<1999999973)/\0<=d/\xs.length=k/\(∀x∈xs,0<=x/\x<2000000000)/\Same H H'/\H' p=some (.lst (xs.map V.int))
theorem XS(F:Fun K iz iz Iu f fd)(T:Txt K mg D):cJ P w K mg base CX0 1 f fd iC gP:=by
 refine F.ok lE ?_ ?_
 .rintro _ _ _ _ ⟨c,n,rfl,_⟩;rfl
 .rintro cdv A outer s H _ Q E hr ⟨c,n,rfl,hn,q⟩;refine⟨_,(bI (bZ (i:=2) lE.nd (jw oW))
   (bI (bZ (i:=3) lE.nd (bV dU (bV Ve (bV d9 (bV dU pv0)))))
   (bI (bZ (i:=4) lE.nd bK)
   (bI (cW (PW.pt (pw_or (cD Bc pv0 bK (cH _)) (pw_or1 (cD ac0 pv0 (bV Vn bK) (cH _)))))
    (bO (bZ (i:=4) lE.nd (cu vq T.Qt boot_abs (bF pv0))))
    cF)
   (bI (fL PassesOwn.never rfl (eF T.gY (bF pv1).mono) (cB (i:=5) lE.nd)
    (bI (bZ (i:=3) lE.nd (bV dU (bV d9 (bV d9 (bV cT pv3 (bV d9 (bV dU pv3))) (bV cT bK pv5)))))
    (bI (cX (su pv2 (bF (bT bU (jw (bF pv3 (bF (bV dU pv4)))) (yP Xl T.Yt boot_int (bF (rN RZ pv4 bK (cH _))))))))
    (bO (bZ (i:=4) lE.nd (bV iy pv4))))))
   (bO (cg pv2))))))),?_⟩
  refine Lg λR0 hR0=>?_
  walk_at "rd"
  refine⟨bA _,λp hp=>⟨.inr (by constructor<;>decide),?_⟩⟩;have m0:0<=(c%1999999973+31)*765432101%1999999973/\(c%1999999973+31)*765432101%1999999973<1999999973:=⟨Z3 _ (by decide),YY _ (by decide)⟩;generalize(c%1999999973+31)*765432101%1999999973=m at m0 ⊢;have a0:0<=(if c<0 then -c else c):=by split<;>lia
  subst hR0;refine b_ λR hR=>?_;have loop:∀d0:Int,0<=d0->R { nx:=λ_ H'=>Q .non H',rt:=Q } [some (.int c),some (.int n),some (.ref p),some (.int m),some (.int d0),none] (upd H p (.lst [])):=by
   intro d0 a0;subst hR;have go:∀d:Int,0<=d->jS c n p H 0 [some (.int c),some (.int n),some (.ref p),some (.int m),some (.int d),none] (upd H p (.lst [])):=λd hd=>⟨[],m,d,none,rfl,m0,hd,rfl,(by simp),Same.upd hp,bG⟩;have fin:∀(σ':L2.St)(H':Hp),jS c n p H n σ' H'->∃v,σ'[2]?=some (some v)/\Q v H':=by
    rintro σ' H' ⟨xs,m,d,v,rfl,_,_,h1,h2,h3,h4⟩;exact⟨_,rfl,q p xs H' h3 hp h4 h1 h2⟩
   refine qz ?_
   walk_at "rd"
   refine⟨n,rfl,Y3 hn (by decide),jS c n p H,go _ a0,?_,fin⟩;rintro k σ' H' hk ⟨xs,m,d,v,rfl,hm,hd,h1,h2,h3,h4⟩
   walk_at "rd"
   have b1:Bd m:=Bd.sm (by lia);have b2:Bd (m%65521+40487):=Bd.sm (by lia);have b3:Bd (k:Int):=Bd.sm (by lia);have nx:0<=(m*(m%65521+40487)+7*k+5)%1999999973/\(m*(m%65521+40487)+7*k+5)%1999999973<1999999973:=⟨Z3 _ (by decide),YY _ (by decide)⟩;generalize(m*(m%65521+40487)+7*(k:Int)+5)%1999999973=z at nx ⊢;refine⟨b1,b2,Bd.sm (by decide),b3,⟨_,h4⟩,(by decide),λr hq=>.inr ?_⟩;have pr:p≠r:=bH h4 hq;have dd:0<=d.fdiv 1000000:=by rw[Int.fdiv_eq_ediv_of_nonneg _ (by decide)];lia
   have fin:∀x:Int,0<=x/\x<2000000000->jS c n p H (k+1) [some (.int c),some (.int n),some (.ref p),some (.int z),some (.int (d.fdiv 1000000)),some (.int k)] (upd (upd H' r (.lst [.int z,.int (d%1000000)])) p (.lst (xs.map V.int++[.int x]))):=by
    intro x hx;refine⟨xs++[x],z,_,_,rfl,nx,dd,by simp[h1],?_,?_,?_⟩
    .intro y hy;rcases Y1.mp hy with hy|hy
     .exact h2 y hy
     .rw[YR.mp hy];exact hx
    .intro b o hb;have bp:b≠p:=bH hb hp;have br:b≠r:=bH (h3 b o hb) hq;rw[bL bp,bL br];exact h3 b o hb
    .rw[bC];exact bG
   by_cases h0:0<d
   .rw[ZY (Zs h0)];exact⟨_,cR,_,(bL pr).trans h4,by rw[ak,h1];exact aV hk (aM hn (by decide)),Bd.sm (by decide),fin _ (by lia)⟩
   .rw[ZZ (by simp;exact Int.le_of_not_gt h0)];exact⟨_,cY,_,(bL pr).trans h4,by rw[ak,h1];exact aV hk (aM hn (by decide)),Bd.sm (by decide),fin _ (by lia)⟩
  clear hR
  walk_at "rd"
  refine pB (λ_=>loop _ a0) λ_=>⟨adJ (by decide) (by decide),pB (λ_=>loop _ a0) λ_=>loop 0 (by decide)⟩
def aeH(H:Hp)(D:Adr)(s:Addr)(n:Str)(p l:Addr):Prop:=∃C dx,Fam D C/\H s=some (.ins C dx [("name",.str n),("pay",.ref p),("leads",.ref l)])
def Ax(D:Adr):Sp:=λvs H Q _=>∃(s:Addr)(n:Str)(p l:Addr)(xs:Μ),vs=[.ref s]/\aeH H D s n p l/\H l=some (.lst xs)/\xs.length<=100/\∀r,H r=none->Q (.ref r) (upd H r (.lst xs))
theorem Ms(F:Fun K Aw Bv wX f fd)(T:Txt K mg D):cJ P w K mg base CX0 1 f fd ql (Ax D):=by
 refine F.ok L_ ?_ ?_
 .rintro _ _ _ _ ⟨s,n,p,l,xs,rfl,_⟩;rfl
 .rintro cdv A outer s H _ Q E hr ⟨o,n,p,l,xs,rfl,⟨C,dx,hC,ho⟩,hl,hz,q⟩;refine⟨_,(bO (cg (yP Aj T.Jo boot_list (bF (sV pv0 rfl))))),?_⟩
  walk_at "rd"
  exact⟨C,dx,_,ho,T.cl C hC,T.GQ C hC,_,rfl,l,rfl,xs,hl,q⟩
structure W0(H:Hp)(xs:Μ)(ws:List (Str×Addr)):Prop where
 len:xs.length=ws.length
 at_:∀(k:Nat)(g:Str×Addr),ws[k]?=some g->∃t,xs[k]?=some (.ref t)/\H t=some (.tup [.str g.1,.ref g.2])
theorem W0.same{H H':Hp}{xs:Μ}{ws:List (Str×Addr)}(h:W0 H xs ws)(S:Same H H'):W0 H' xs ws:=⟨h.len,λk g e=>let⟨t,a,b⟩:=h.at_ k g e;⟨t,a,S _ _ b⟩⟩
noncomputable def cell(ns:List Int)(k:Int):Int:=ns.getD k.toNat 0
def BL(K:Frag)(a:Addr)(ns:List Int):Sp:=λvs H Q _=>∃(k:Int),vs=[.ref a,.int k]/\SqL K H a (ns.map V.int)/\ns.length<=63/\0<=k/\Q (.int (cell ns k)) H
theorem abx(F:Fun K yM yM Uw f fd)(a:Addr)(ns:List Int):cJ P w K mg base CX0 1 f fd yx (BL K a ns):=by
 refine cJ.clean (sp:=λvs H Q _=>∃(k:Int),vs=[.ref a,.int k]/\SqL K H a (ns.map V.int)/\ns.length<=63/\0<=k/\∀H',Same H H'->Q (.int (cell ns k)) H')
  (F.ok abd (λvs H Q E h=>?_) (λcdv A outer s H vs Q E hr h=>?_)) λvs H Q E hP=>by obtain⟨k,h1,h2,h3,h4,h5⟩:=hP;exact⟨k,h1,h2,h3,h4,λH' S=>⟨S,h5⟩⟩
 .obtain⟨k,rfl,_⟩:=h
  rfl
 .obtain⟨k,rfl,hs,hl,hk,q⟩:=h;refine⟨_,(bO (cg (bT bU (bV Uc (mZ Bt pv0 (iQ pv1) (iQ (bV d9 pv1))) (jw (bF bK))) bK))),?_⟩
  walk_at "rd"
  refine⟨_,hs,λp hp=>⟨aan,λp1 hp1=>?_⟩⟩;have n1:p≠p1:=bH bG hp1;refine⟨_,(bL n1).trans bG,?_,λp2 hp2=>⟨_,?_,q _ ?_⟩⟩
  .refine adE ?_;have:=Em (ns.map V.int) (some k) (some (k+1));rw[ak]at this;lia
  .have:=acH ns k.toNat;rw[Int.toNat_of_nonneg hk]at this;exact this
  .exact((Same.upd hp).trans (Same.upd hp1)).trans (Same.upd hp2)
structure Fq(f:Ι):Prop where
 pos:0<f.2
 gcd:Int.gcd f.1 f.2=1
 sa:f.1.natAbs<=10^40
 sb:f.2.natAbs<=10^40
theorem Fq.ba{f:Ι}(h:Fq f):Bd f.1:=Y3 h.sa (by decide +kernel)
theorem Fq.bb{f:Ι}(h:Fq f):Bd f.2:=Y3 h.sb (by decide +kernel)
noncomputable def T_(fs:Ψ):List Nat:=fs.map λf=>f.2.natAbs
def lvB(fs:Ψ):Nat:=Lv.Xx (T_ fs)
def lvT(fs:Ψ):List Int:=fs.map λf=>f.1*((lvB fs:Nat)/f.2)
theorem BJ{B:Nat} : ∀(bs:List Nat)(a:Nat),0<a->(∀b∈bs,0<b/\b<=B)->bs.foldl Nat.lcm a<=a*B^bs.length
  |[],a,_,_=>by simp
  |b::bs,a,ha,hb=>by
    have h1:=hb b aP;have h2:=BJ bs (Nat.lcm a b) (Nat.lcm_pos ha h1.1) λc hc=>hb c (aJ _ hc);rw[List.foldl_cons,List.length_cons,Nat.pow_succ];refine aM h2 ?_;have h3:Nat.lcm a b<=a*B:=aM (Nat.le_of_dvd (Nat.mul_pos ha h1.1) (Nat.lcm_dvd_mul a b)) (Nat.mul_le_mul_left a h1.2)
    calc Nat.lcm a b*B^bs.length<=a*B*B^bs.length:=Nat.mul_le_mul_right _ h3
      _=a*(B^bs.length*B):=by rw[Nat.mul_assoc,Nat.mul_comm B]
theorem aaN{fs:Ψ}(h:∀f∈fs,Fq f):∀b∈T_ fs,0<b:=λb hb=>by
 obtain⟨f,hf,rfl⟩:=YV.mp hb;have:=(h f hf).pos;omega
theorem Cj{fs:Ψ}(h:∀f∈fs,Fq f):0<lvB fs:=Lv.Zo (aaN h)
theorem aej{fs:Ψ}(h:∀f∈fs,Fq f)(hz:fs.length<=41):lvB fs<=(10^40)^41:=by
 have h1:=BJ (B:=10^40) (T_ fs) 1 (by decide) λb hb=>by
  obtain⟨f,hf,rfl⟩:=YV.mp hb;have:=(h f hf).pos;exact⟨by omega,(h f hf).sb⟩
 rw[Nat.one_mul]at h1;refine aM h1 (XU (by decide) ?_);unfold T_;rw[ak];exact hz
theorem Ur{fs:Ψ}(h:∀f∈fs,Fq f)(hz:fs.length<=41):Bd (lvB fs:Nat):=by
 unfold Bd;rw[XT];exact Y3 (aej h hz) (by decide +kernel)
theorem SN{fs:Ψ}(h:∀f∈fs,Fq f)(k:Nat):∀f∈fs.take k,Fq f:=λf hf=>h f (List.mem_of_mem_take hf)
theorem cj{α:Type}{l:List α}{k:Nat}{x:α}(h:l[k]?=some x):l.take (k+1)=l.take k++[x]:=by
 rw[List.take_succ,h];rfl
theorem X_{fs:Ψ}{k:Nat}{f:Ι}(h:fs[k]?=some f):lvB (fs.take (k+1))=Nat.lcm (lvB (fs.take k)) f.2.natAbs:=by
 unfold lvB Lv.Xx T_;rw[cj h,bC,List.foldl_append];rfl
theorem acA{n:Nat}{b:Int}(hb:0<b)(hn:0<n):Int.fdiv (n:Int) (Int.gcd (n:Int) b:Nat)*b=(Nat.lcm n b.natAbs:Nat):=by
 obtain⟨m,rfl⟩ : ∃m:Nat,b=m:=⟨b.toNat,by lia⟩;have hg:0<Nat.gcd n m:=Nat.gcd_pos_of_pos_left m hn;rw[show Int.gcd (n:Int) (m:Int)=Nat.gcd n m from rfl,XT,jr _ (by lia),<- Int.natCast_ediv,<- Int.natCast_mul]
 congr 1
 unfold Nat.lcm;exact Nat.div_mul_right_comm (Nat.gcd_dvd_left n m) m
theorem MN{fs:Ψ}{f:Ι}(hf:f∈fs)(hq:Fq f):f.2 ∣ (lvB fs:Nat):=by
 have h1:f.2.natAbs ∣ lvB fs:=Lv.Yn (YV.mpr ⟨f,hf,rfl⟩);have:=Int.natCast_dvd_natCast.mpr h1;rwa[Int.natAbs_of_nonneg (XY hq.pos)]at this
inductive FLK(K:Frag)(H:Hp):Μ->Ψ->Prop
 |nil:FLK K H [] []
 |cons {p:Addr}{f:Ι}{xs:Μ}{fs:Ψ} : SqT K H p [.int f.1,.int f.2]->FLK K H xs fs->FLK K H (.ref p::xs) (f::fs)
theorem Jl{H:Hp} : ∀{xs:Μ}{fs:Ψ},FL H xs fs->FLK K H xs fs
 |_,_,.nil=>.nil
 |_,_,.cons e t=>.cons (.of e) (Jl t)
theorem FLK.imp{H H':Hp}(h:∀p a b,SqT K H p [.int a,.int b]->SqT K H' p [.int a,.int b]):∀{xs:Μ}{fs:Ψ},FLK K H xs fs->FLK K H' xs fs
 |_,_,.nil=>.nil
 |_,_,.cons e t=>.cons (h _ _ _ e) (FLK.imp h t)
theorem FLK.same{H H':Hp}(S:Same H H'){xs:Μ}{fs:Ψ}(h:FLK K H xs fs):FLK K H' xs fs:=h.imp λ_ _ _ e=>S.tup e
theorem FLK.updL{H:Hp}{l:Addr}{ys zs:Μ}(hl:H l=some (.lst ys)){xs:Μ}{fs:Ψ}(h:FLK K H xs fs):FLK K (upd H l (.lst zs)) xs fs:=h.imp λ_ _ _ e=>e.updO hl (λ_ z=>by cases z) λ_ _ z=>by cases z
theorem FLK.length{H:Hp} : ∀{xs:Μ}{fs:Ψ},FLK K H xs fs->xs.length=fs.length
 |_,_,.nil=>rfl
 |_,_,.cons _ t=>by rw[List.length_cons,List.length_cons,FLK.length t]
theorem FLK.get{H:Hp} : ∀{xs:Μ}{fs:Ψ}{k:Nat}{x:V},FLK K H xs fs->xs[k]?=some x->∃p f,x=.ref p/\fs[k]?=some f/\SqT K H p [.int f.1,.int f.2]
 |_,_,_,_,.nil,h=>by simp at h
 |_,_,0,_,.cons (p:=p) (f:=f) e t,h=>by
  simp at h;exact⟨p,f,h.symm,rfl,e⟩
 |_,_,k+1,_,.cons e t,h=>by
  obtain⟨p,f,h1,h2,h3⟩:=FLK.get (k:=k) t (by simpa using h);exact⟨p,f,h1,by simpa using h2,h3⟩
theorem FLK.append{H:Hp} : ∀{xs ys:Μ}{fs gs:Ψ},FLK K H xs fs->FLK K H ys gs->FLK K H (xs++ys) (fs++gs)
 |_,_,_,_,.nil,h=>h
 |_,_,_,_,.cons e t,h=>.cons e (FLK.append t h)
theorem FLK.set{H:Hp}{p:Addr}{f:Ι}(e0:SqT K H p [.int f.1,.int f.2]):∀{xs:Μ}{fs:Ψ}(k:Nat),FLK K H xs fs->FLK K H (xs.set k (.ref p)) (fs.set k f)
 |_,_,_,.nil=>.nil
 |_,_,0,.cons _ t=>.cons e0 t
 |_,_,k+1,.cons e t=>.cons e (FLK.set e0 k t)
theorem FLK.of{H:Hp} : ∀{xs:Μ}{fs:Ψ},xs.length=fs.length->(∀(j:Nat)f,fs[j]?=some f->∃p,xs[j]?=some (V.ref p)/\SqT K H p [.int f.1,.int f.2])->FLK K H xs fs
 |[],[],_,_=>.nil
 |x::xs,f::fs,h,k=>by
  obtain⟨p,e,s⟩:=k 0 f rfl;simp at e;rw[e];exact .cons s (FLK.of (by simpa using h) λj g hg=>by
   obtain⟨p,e,s⟩:=k (j+1) g (by simpa using hg);exact⟨p,by simpa using e,s⟩)
def DR(K:Frag):Sp:=λvs H Q _=>∃(l:Addr)(xs:Μ)(fs:Ψ),vs=[.ref l]/\H l=some (.lst xs)/\FLK K H xs fs/\(∀f∈fs,Fq f)/\fs.length<=41 /\
 ∀D p,H D=none->upd H D (.lst ((lvT fs).map V.int)) p=none->Q (.ref p) (upd (upd H D (.lst ((lvT fs).map V.int))) p (.tup [.ref D,.int (lvB fs:Nat)]))
def lJ(l:Addr)(fs:Ψ)(H1:Hp)(k:Nat)(σ:L2.St)(H:Hp):Prop:=∃z,σ=[some (.ref l),some (.int (lvB (fs.take k):Nat)),z]/\H=H1
def lK(fs:Ψ)(D:Addr)(H1:Hp)(k:Nat)(ys:Μ)(H:Hp):Prop:=ys=((lvT fs).take k).map V.int/\H=upd H1 D (.lst ys)
theorem Kz(F:Fun K tu tu FQ f fd)(dZ:OkF P w K mg base 1 jB ju g_):cJ P w K mg base CX0 2 f fd tY (DR K):=by
 refine F.ok Cz ?_ ?_
 .rintro _ _ _ _ ⟨l,xs,fs,rfl,_⟩;rfl
 .rintro cdv A outer s H _ Q E hr ⟨l,xs,fs,rfl,hl,hf,hq,hz,q⟩;refine⟨_,(bI (bZ (i:=1) Cz.nd (hx:=(Or.inr rfl)) bK)
   (bI (fL PassesOwn.never rfl (cV (pv 0).mono) (cB (i:=2) Cz.nd)
    (bO (bZ (i:=1) Cz.nd (hx:=(Or.inr rfl)) (bV cT (bV iy pv1 (bR dZ hr.md (bF pv1 (bF (bT (show IxR _ (WX K)from cZ) pv2 bK))))) (bT (show IxR _ (WX K)from cZ) pv2 bK)))))
   (bO (cg (gO (bF (kJ (bQ FQ) Ww ["fractions","bottom","?one"] ["one"] (cV (pv 0).mono) (dH (i:=0)) cU (bV cT (bT (show IxR _ (WX K)from cZ) pv0 bK) (bV iy pv2 (bT (show IxR _ (WX K)from cZ) pv0 bK)))) (bF pv1))))))),?_⟩
  unfold g_
  walk_at "rd"
  have hx:xs.length<=41:=by rw[hf.length];exact hz
  refine eN ⟨_,rfl,l,xs,rfl,hl,lJ l fs H,⟨none,rfl,rfl⟩,?_,?_⟩
  .rintro k x σ' H' hk ⟨z,rfl,rfl⟩ _;obtain⟨p,g,rfl,hg,hp⟩:=hf.get hk;have hm:=aC hg;have b0:=Cj (SN hq k);have b1:=Ur (SN hq k) (by rw[bw];lia);have g0:=FN (a:=((lvB (fs.take k):Nat):Int)) (b:=g.2) (Int.ne_of_gt (hq g hm).pos);have g1:=O1 (a:=((lvB (fs.take k):Nat):Int)) (b:=g.2) (Int.ne_of_gt (hq g hm).pos) (hq g hm).bb
   walk_at "rd"
   refine⟨_,hp,_,cR,_,rfl,by exact Int.ne_of_gt g0,g1,_,hp,_,cR,_,rfl,?_,(hq g hm).bb,hl,some (.ref p),?_,rfl⟩
   .rw[jr _ g0];exact b1.div g0
   .rw[acA (hq g hm).pos b0,<- X_ hg]
  .rintro σ' H' ⟨z,rfl,rfl⟩ _
   walk_at "rd"
   have e0:fs.take xs.length=fs:=by rw[hf.length];exact aQ
   rw[e0];refine cM ⟨_,rfl,l,xs,rfl,hl,aM hx (by decide),λD hD=>⟨lK fs D H',⟨rfl,rfl⟩,?_,?_⟩⟩
   .rintro k x ys Hc hk ⟨rfl,rfl⟩ _ ha;obtain⟨p,g,rfl,hg,hp⟩:=hf.get hk;have hm:=aC hg;have hpD:SqT K (upd H' D (.lst (((lvT fs).take k).map V.int))) p [.int g.1,.int g.2]:=(Same.upd hD).tup hp
    walk_at "rd"
    refine⟨_,hpD,_,cY,_,hpD,_,cR,_,rfl,Int.ne_of_gt (hq g hm).pos,(hq g hm).bb,_,rfl,(hq g hm).ba,?_,ha,?_,oH⟩
    .rw[jr _ (hq g hm).pos];exact(Ur hq hz).div (hq g hm).pos
    .rw[jr _ (hq g hm).pos];have e1:(lvT fs)[k]?=some (g.1*((lvB fs:Nat)/g.2)):=by
      unfold lvT;rw[aq,hg];rfl
     rw[cj e1,bC];rfl
   .rintro ys Hc ⟨rfl,rfl⟩ _;have e2:(lvT fs).take xs.length=lvT fs:=by
     refine aL ?_;unfold lvT;rw[ak,hf.length];exact aG _
    rw[e2];exact⟨fQ,λp hp=>q D p hD hp⟩
def Cp:Sp:=λvs H Q _=>∃(l:Addr)(xs:Μ)(fs:Ψ),vs=[.ref l]/\H l=some (.lst xs)/\FL H xs fs/\(∀f∈fs,Fq f)/\fs.length<=41 /\
 ∀D p,H D=none->upd H D (.lst ((lvT fs).map V.int)) p=none->Q (.ref p) (upd (upd H D (.lst ((lvT fs).map V.int))) p (.tup [.ref D,.int (lvB fs:Nat)]))
theorem aae{vs:Μ}{H:Hp}{Q:VK}{E:XK}(h:Cp vs H Q E):DR K vs H Q E:=by obtain⟨l,xs,fs,a,b,c,d⟩:=h;exact⟨l,xs,fs,a,b,Jl c,d⟩
def Je:Sp:=λvs H Q _=>∃(l:Addr)(xs:Μ)(fs:Ψ),vs=[.ref l]/\H l=some (.lst xs)/\FL H xs fs/\(∀f∈fs,Fq f)/\fs.length<=41 /\
 ∀p x y,Low (lvT fs).sum (lvB fs:Nat) x y->H p=none->Q (.ref p) (upd H p (.tup [.int x,.int y]))
theorem aam(F:Fun K Bh Bh Mp f fd)(T:Txt K mg D)(Bq:OkF P w K mg base 2 tu tY Cp)(eX:OkF P w K mg base 2 kE j_ gG):cJ P w K mg base CX0 3 f fd Ca Je:=by
 refine cJ.cleanP (sp:=λvs H Q _=>∃(l:Addr)(xs:Μ)(fs:Ψ),vs=[.ref l]/\H l=some (.lst xs)/\FL H xs fs/\(∀f∈fs,Fq f)/\fs.length<=41 /\
   ∀p x y H',Low (lvT fs).sum (lvB fs:Nat) x y->Same H H'->H p=none->H' p=some (.tup [.int x,.int y])->Q (.ref p) H')
  (F.ok QK (λvs H Q E h=>?_) (λcdv A outer s H vs Q E hr h=>?_)) λvs H Q E hP=>by obtain⟨l,xs,fs,h1,h2,h3,h4,h5,h6⟩:=hP;exact⟨l,xs,fs,h1,h2,h3,h4,h5,λp x y H' l S e1 e2=>⟨S,p,_,e2,e1,h6 p x y l e1⟩⟩
 .obtain⟨l,xs,fs,rfl,_⟩:=h
  rfl
 .obtain⟨l,xs,fs,rfl,hl,hf,hq,hz,q⟩:=h;refine⟨_,(bI (bZ (i:=1) QK.nd (bR Bq hr.md (bF pv0)))
   (bO (cg (bR eX hr.md (bF (cu (KD rfl) T.acT boot_sum (bF (bT cA pv1 bK))) (bF (bT cA pv1 bK))))))),?_⟩
  unfold Cp gG
  walk_at "rd"
  refine⟨xs,hl,fs,hf,hq,hz,λD p hD hp=>⟨lvT fs,(bL (bH bG hp)).trans bG,?_,Ur hq hz,λp1 x y lw hp1=>?_⟩⟩
  .have:=Cj hq;lia
  .have S:=(Same.upd hD (o:=.lst ((lvT fs).map V.int))).trans (Same.upd hp (o:=.tup [.ref D,.int (lvB fs:Nat)]));exact q p1 x y _ lw (S.trans (Same.upd hp1)) (S.free hp1) bG
structure Pairs(H:Hp)(xs:Μ)(ps:List (Str×Int×Int)):Prop where
 len:xs.length=ps.length
 at_:∀(k:Nat)(g:Str×Int×Int),ps[k]?=some g->∃t c:Addr,xs[k]?=some (.ref t)/\H t=some (.tup [.str g.1,.ref c])/\H c=some (.tup [.int g.2.1,.int g.2.2])
structure Zv(g:Str×Int×Int):Prop where
 len:g.1.length<=1000
 wd:lH g.1.cps.toList=true
 pos:0<g.2.2
 gcd:Int.gcd g.2.1 g.2.2=1
 lo:0<=g.2.1
 hi:g.2.1<=g.2.2
 fq:Fq g.2
def wg:Sp:=λvs H Q _=>∃(l:Addr)(xs:Μ)(ps:List (Str×Int×Int)),vs=[.ref l]/\H l=some (.lst xs)/\Pairs H xs ps/\(∀g∈ps,Zv g)/\ps.length<=41/\(∀x y,Low (lvT (ps.map (·.2))).sum (lvB (ps.map (·.2)):Nat) x y->x=1/\y=1)/\∀H',Same H H'->Q .non H'
def jP(l:Addr)(H:Hp)(_:Nat)(σ:L2.St)(H':Hp):Prop:=∃u v,σ=[some (.ref l),u,v]/\H'=H
def jQ(D1:Addr)(ps:List (Str×Int×Int))(H:Hp)(k:Nat)(ys:Μ)(Hc:Hp):Prop:=FL H ys ((ps.map (·.2)).take k)/\Hc=upd H D1 (.lst ys)
theorem HS(F:Fun K nq nq ou f fd)(T:Txt K mg D)(m6:OkF P w K mg base 2 gq gA mO)(qG:OkF P w K mg base 3 iU iW (yO (K:=K)))(M6:OkF P w K mg base 3 Bh Ca Je):cJ P w K mg base CX0 4 f fd lX wg:=by
 refine F.ok qM ?_ ?_
 .rintro _ _ _ _ ⟨l,xs,ps,rfl,_⟩;rfl
 .rintro cdv A outer s H _ Q E hr ⟨l,xs,ps,rfl,hl,hp,hg,hz,h1,q⟩;refine⟨_,(bI (fL PassesOwn.never rfl (cV (pv 0).mono) (gJ (n:=2) rfl (cG (cB (i:=1) qM.nd) (cG (cB (i:=2) qM.nd) fX)))
    (bI (cX (bR m6 hr.md (bF pv1)))
    (bO (cX (bR qG hr.md (bF pv2))))))
   (bO (cW (cD (yS (K:=K) rfl hr.units) (bR M6 hr.md (bF (kJ (bQ ou) sG sG ["pair"] (cV (pv 0).mono) (dH (i:=0)) cU (bT cA pv0 bK)))) (dX T.Br) (cH _))
    (bO gZ)
    cF))),?_⟩
  unfold mO yO Je
  walk_at "rd"
  refine eN ?_
  walk_at "rd"
  refine⟨xs,hl,jP l H,⟨none,none,rfl,rfl⟩,?_,?_⟩
  .rintro k x σ' H' hk ⟨u,v,rfl,rfl⟩ _;have lk:k<ps.length:=by rw[<- hp.len];exact(ao.mp hk).1
   have e:ps[k]?=some ps[k]:=aj lk;have ok:=hg _ (aW lk);obtain⟨t,c,a,b,d⟩:=hp.at_ k _ e;rw[hk]at a;cases a;exact⟨t,rfl,_,b,rfl,_,_,rfl,_,_,rfl,rfl,_,rfl,_,rfl,ok.len,ok.wd,_,rfl,c,rfl,⟨_,_,⟨.of d,ok.pos,ok.gcd⟩,ok.lo,ok.hi,ok.fq.bb⟩,hl,_,_,rfl,rfl⟩
  .rintro σ' H' ⟨u,v,rfl,rfl⟩ _;refine cM ?_
   walk_at "rd"
   refine⟨xs,hl,by rw[hp.len];exact aM hz (by decide),λD1 hD=>⟨jQ D1 ps H',⟨.nil,rfl⟩,?_,?_⟩⟩
   .rintro k x ys Hc hk ⟨hf,rfl⟩ hy _;have lk:k<ps.length:=by rw[<- hp.len];exact(ao.mp hk).1
    have e:ps[k]?=some ps[k]:=aj lk;obtain⟨t,c,a,b,d⟩:=hp.at_ k _ e;rw[hk]at a;cases a
    walk_at "rd"
    refine⟨_,(bL (bH b hD)).trans b,_,cR,(bL (bH hl hD)).trans hl,?_,oH⟩;rw[List.take_succ,aq,e];exact hf.append (.one d)
   .rintro ys Hc ⟨hf,rfl⟩ hy;have hk:(ps.map (·.2)).take xs.length=ps.map (·.2):=by rw[hp.len,<- ak (f:=λg:Str×Int×Int=>g.2),aQ]
    rw[hk]at hf;refine⟨ys,bG,_,hf.same (Same.upd hD),?_,by rw[ak];exact hz,λp x y lo hn=>?_⟩
    .intro g hm;obtain⟨g',hm',rfl⟩:=YV.mp hm;exact(hg g' hm').fq
    .obtain⟨rfl,rfl⟩:=h1 x y lo;refine⟨_,.tup (.of bG) (dz.ints K _ [1,1]),_,.tup (T.uN _) (dz.ints K _ [1,1]),rfl,rfl,?_⟩;rw[ZZ (by decide)];exact q _ ((Same.upd hD).trans (Same.upd hn))
inductive DA(H:Hp)(S:Int):List (Key×V)->List (Str×Int)->Prop
 |nil:DA H S [] []
 |cons {n:Str}{W:Int}{c:Addr}{kvs:List (Key×V)}{acc:List (Str×Int)} (h:H c=some (.tup [.int (Ac.lw W S).1,.int (Ac.lw W S).2])) (t:DA H S kvs acc):DA H S ((.inr n,.ref c)::kvs) ((n,W)::acc)
theorem DA.imp{H H':Hp}{S:Int}(h:∀c x y,H c=some (.tup [.int x,.int y])->H' c=some (.tup [.int x,.int y])):∀{kvs:List (Key×V)}{acc:List (Str×Int)},DA H S kvs acc->DA H' S kvs acc
 |_,_,.nil=>.nil
 |_,_,.cons a t=>.cons (h _ _ _ a) (t.imp h)
theorem DA.len{H:Hp}{S:Int} : ∀{kvs:List (Key×V)}{acc:List (Str×Int)},DA H S kvs acc->kvs.length=acc.length
 |_,_,.nil=>rfl
 |_,_,.cons _ t=>ZH (· + 1) t.len
theorem DA.keys{H:Hp}{S:Int} : ∀{kvs:List (Key×V)}{acc:List (Str×Int)},DA H S kvs acc->kvs.map (·.1)=(acc.map (·.1)).map Sum.inr
 |_,_,.nil=>rfl
 |_,_,.cons _ t=>by rw[List.map_cons,List.map_cons,List.map_cons,t.keys]
theorem DA.val{H:Hp}{S:Int}(r:Str):∀{kvs:List (Key×V)}{acc:List (Str×Int)},DA H S kvs acc->(qW kvs (.inr r)=none/\Ac.look acc r=0)\/∃c,qW kvs (.inr r)=some (.ref c)/\H c=some (.tup [.int (Ac.lw (Ac.look acc r) S).1,.int (Ac.lw (Ac.look acc r) S).2])
 |_,_,.nil=>.inl ⟨rfl,rfl⟩
 |_,_,.cons (n:=n) (W:=W) (c:=c) (kvs:=kvs) (acc:=acc) h t=>by
  by_cases e:n=r
  .subst e;refine .inr ⟨c,Hr rfl,?_⟩;have:Ac.look ((n,W)::acc) n=W:=by simp[Ac.look]
   rw[this];exact h
  .have e1:qW ((Sum.inr n,V.ref c)::kvs) (Sum.inr r:Key)=qW kvs (.inr r):=G3 λz=>e (Sum.inr.inj z);have e2:Ac.look ((n,W)::acc) r=Ac.look acc r:=by simp[Ac.look,List.find?_cons,e]
   rw[e1,e2];exact t.val r
theorem DA.any{H:Hp}{S:Int}(r:Str):∀{kvs:List (Key×V)}{acc:List (Str×Int)},DA H S kvs acc->(kvs.any λkv=>decide (kv.1=(.inr r:Key)))=acc.any λg=>decide (g.1=r)
 |_,_,.nil=>rfl
 |_,_,.cons (n:=n) _ t=>by
  rw[List.any_cons,List.any_cons,t.any r]
  congr 1
  by_cases e:n=r
  .subst e;rw[Zs rfl,Zs rfl]
  .rw[Zp e,Zp λz=>e (Sum.inr.inj z)]
theorem DA.sets{H:Hp}{S y:Int}{c:Addr}{r:Str}(hc:H c=some (.tup [.int (Ac.lw y S).1,.int (Ac.lw y S).2])):∀{kvs:List (Key×V)}{acc:List (Str×Int)},DA H S kvs acc->DA H S (kvs.map λkv=>if kv.1=(.inr r:Key)then(kv.1,.ref c)else kv) (acc.map λg=>if g.1=r then(g.1,y)else g)
 |_,_,.nil=>.nil
 |_,_,.cons (n:=n) (W:=W) (c:=c') h t=>by
  rw[List.map_cons,List.map_cons];by_cases e:n=r
  .subst e;rw[ZY rfl,ZY rfl];exact .cons hc (t.sets hc)
  .rw[ZZ e,ZZ λz=>e (Sum.inr.inj z)];exact .cons h (t.sets hc)
theorem DA.snoc{H:Hp}{S y:Int}{c:Addr}{r:Str}(hc:H c=some (.tup [.int (Ac.lw y S).1,.int (Ac.lw y S).2])):∀{kvs:List (Key×V)}{acc:List (Str×Int)},DA H S kvs acc->DA H S (kvs++[(.inr r,.ref c)]) (acc++[(r,y)])
 |_,_,.nil=>.cons hc .nil
 |_,_,.cons h t=>.cons h (t.snoc hc)
theorem DA.put{H:Hp}{S y:Int}{c:Addr}{r:Str}{kvs:List (Key×V)}{acc:List (Str×Int)}(hc:H c=some (.tup [.int (Ac.lw y S).1,.int (Ac.lw y S).2]))(h:DA H S kvs acc):DA H S (putK kvs (.inr r) (.ref c)) (Ac.put acc r y):=by
 unfold putK Ac.put;rw[h.any r];split
 .exact h.sets hc
 .exact h.snoc hc
theorem DA.get{H:Hp}{S:Int} : ∀{kvs:List (Key×V)}{acc:List (Str×Int)}{i:Nat}{k:Key}{v:V},DA H S kvs acc->kvs[i]?=some (k,v)->∃n W c,acc[i]?=some (n,W)/\k=.inr n/\v=.ref c/\H c=some (.tup [.int (Ac.lw W S).1,.int (Ac.lw W S).2])
 |_,_,_,_,_,.nil,e=>by simp at e
 |_,_,0,_,_,.cons h _,e=>by
  rw[List.getElem?_cons_zero]at e;cases e;exact⟨_,_,_,rfl,rfl,rfl,h⟩
 |_,_,i+1,_,_,.cons _ t,e=>t.get (by rw[List.getElem?_cons_succ]at e;exact e)
theorem Wq:∀{kvs:List (Key×V)}{i:Nat}{k:Key}{v:V},(kvs.map (·.1)).Nodup->kvs[i]?=some (k,v)->qW kvs k=some v
 |[],_,_,_,_,e=>by simp at e
 |p::kvs,0,k,v,_,e=>by
  rw[List.getElem?_cons_zero]at e;cases e;exact Hr rfl
 |p::kvs,i+1,k,v,hn,e=>by
  rw[List.getElem?_cons_succ]at e;rw[List.map_cons,List.nodup_cons]at hn;rw[G3 λz=>hn.1 (by rw[z];exact YV.mpr ⟨(k,v),aC e,rfl⟩)];exact Wq hn.2 e
inductive WF(K:Frag)(H:Hp):Μ->List (Str×Int×Int)->List (Str×Addr)->Prop
 |nil:WF K H [] [] []
 |cons {t c:Addr}{n:Str}{x y:Int}{xs:Μ}{gs:List (Str×Int×Int)}{ws:List (Str×Addr)} (h1:H t=some (.tup [.str n,.ref c])) (h2:SqT K H c [.int x,.int y]) (r:WF K H xs gs ws):WF K H (.ref t::xs) ((n,x,y)::gs) ((n,c)::ws)
theorem WF.imp{H H':Hp}(h:∀t ys,H t=some (.tup ys)->H' t=some (.tup ys))(h':∀c xs,SqT K H c xs->SqT K H' c xs):∀{xs:Μ}{gs:List (Str×Int×Int)}{ws:List (Str×Addr)},WF K H xs gs ws->WF K H' xs gs ws
 |_,_,_,.nil=>.nil
 |_,_,_,.cons a b r=>.cons (h _ _ a) (h' _ _ b) (r.imp h h')
theorem WF.same{H H':Hp}(S:Same H H'){xs:Μ}{gs:List (Str×Int×Int)}{ws:List (Str×Addr)}(h:WF K H xs gs ws):WF K H' xs gs ws:=h.imp (λt ys e=>S _ _ e) λc xs e=>S.tup e
theorem WF.updL{H:Hp}{l:Addr}{ys zs:Μ}(hl:H l=some (.lst ys)){xs:Μ}{gs:List (Str×Int×Int)}{ws:List (Str×Addr)}(h:WF K H xs gs ws):WF K (upd H l (.lst zs)) xs gs ws :=
 h.imp (λt us e=>(bL (d8 e hl)).trans e) λc xs e=>e.updO hl (by intro ys z;cases z) (by intro ob ys z;cases z)
theorem WF.len{H:Hp} : ∀{xs:Μ}{gs:List (Str×Int×Int)}{ws:List (Str×Addr)},WF K H xs gs ws->xs.length=gs.length
 |_,_,_,.nil=>rfl
 |_,_,_,.cons _ _ r=>ZH (· + 1) r.len
theorem WF.snoc{H:Hp}{t c:Addr}{n:Str}{x y:Int}(h1:H t=some (.tup [.str n,.ref c]))(h2:SqT K H c [.int x,.int y]):∀{xs:Μ}{gs:List (Str×Int×Int)}{ws:List (Str×Addr)},WF K H xs gs ws->WF K H (xs++[.ref t]) (gs++[(n,x,y)]) (ws++[(n,c)])
 |_,_,_,.nil=>.cons h1 h2 .nil
 |_,_,_,.cons a b r=>.cons a b (r.snoc h1 h2)
theorem WF.ways{H:Hp} : ∀{xs:Μ}{gs:List (Str×Int×Int)}{ws:List (Str×Addr)},WF K H xs gs ws->W0 H xs ws
 |_,_,_,.nil=>⟨rfl,λk g e=>by simp at e⟩
 |_,_,_,.cons a b r=>⟨ZH (· + 1) r.ways.len,λk g e=>by
  cases k with
  |zero =>
   rw[List.getElem?_cons_zero]at e;cases e;exact⟨_,rfl,a⟩
  |succ k =>
   rw[List.getElem?_cons_succ]at e ⊢;exact r.ways.at_ k g e⟩
noncomputable def Vs(S:Int)(acc:List (Str×Int)):List (Str×Int×Int):=(acc.filter λg=>decide (0<g.2)).map λg=>(g.1,Ac.lw g.2 S)
theorem GK{S:Int}{acc:List (Str×Int)}{i:Nat}{n:Str}{W:Int}(h:acc[i]?=some (n,W)):Vs S (acc.take (i+1))=Vs S (acc.take i)++if 0<W then[(n,Ac.lw W S)]else[]:=by
 unfold Vs;rw[List.take_succ,h,List.filter_append,bC]
 congr 1
 show List.map _ (List.filter _ [(n,W)])=_;by_cases e:0<W
 .rw[ZY e,List.filter_cons,ZY (Zs e)];rfl
 .rw[ZZ e,List.filter_cons,ZZ (by simpa using e)];rfl
structure PW(H:Hp)(xs:Μ)(gs:List (Str×Int))(S:Int):Prop where
 len:xs.length=gs.length
 at_:∀(k:Nat)(g:Str×Int),gs[k]?=some g->∃t c:Addr,xs[k]?=some (.ref t)/\H t=some (.tup [.str g.1,.ref c])/\H c=some (.tup [.int (Ac.lw g.2 S).1,.int (Ac.lw g.2 S).2])
theorem PW.imp{H H':Hp}(h':∀t ys,H t=some (.tup ys)->H' t=some (.tup ys)){xs:Μ}{gs:List (Str×Int)}{S:Int}(h:PW H xs gs S):PW H' xs gs S:=⟨h.len,λk g e=>let⟨t,c,a,b,d⟩:=h.at_ k g e;⟨t,c,a,h' _ _ b,h' _ _ d⟩⟩
theorem PW.same{H H':Hp}{xs:Μ}{gs:List (Str×Int)}{S:Int}(h:PW H xs gs S)(T:Same H H'):PW H' xs gs S:=h.imp λ_ _ e=>T _ _ e
theorem PW.pairs{H:Hp}{xs:Μ}{gs:List (Str×Int)}{S:Int}(h:PW H xs gs S):Pairs H xs (gs.map λg=>(g.1,Ac.lw g.2 S)):=⟨by rw[h.len,ak],λk g e=>by
 rw[aq]at e;cases e0:gs[k]? with
 |none=>rw[e0]at e;cases e
 |some g0 =>
  rw[e0]at e;cases e;exact h.at_ k g0 e0⟩
structure Wt(gs:List (Str×Int))(S:Int):Prop where
 pos:0<S
 le:S<=10^20
 len:gs.length<=8
 wd:∀g∈gs,g.1.length<=1000/\lH g.1.cps.toList=true
 lo:∀g∈gs,0<=g.2
 sum:(gs.map (·.2)).sum=S
theorem Xi{i:Int}(h:i.natAbs<=10^20):Bd i:=Y3 h (by decide +kernel)
theorem Wc{gs:List (Str×Int)} : (∀g∈gs,0<=g.2)->0<=(gs.map (·.2)).sum/\∀g∈gs,g.2<=(gs.map (·.2)).sum:=by
 induction gs with
 |nil=>intro _;exact⟨by simp,by simp⟩
 |cons a gs ih =>
  intro h;obtain⟨h1,h2⟩:=ih λg hg=>h g (aJ _ hg);have h0:=h a aP;rw[List.map_cons,List.sum_cons];refine⟨by lia,λg hg=>?_⟩;rcases YU.mp hg with rfl|hg
  .lia
  .have:=h2 g hg;lia
theorem Wt.hi{gs:List (Str×Int)}{S:Int}(h:Wt gs S){g:Str×Int}(hg:g∈gs):g.2<=S:=by
 rw[<- h.sum];exact(Wc h.lo).2 g hg
theorem Wt.pair{gs:List (Str×Int)}{S:Int}(h:Wt gs S){g:Str×Int}(hg:g∈gs):Zv (g.1,Ac.lw g.2 S):=by
 have p:=h.pos;have l:=h.le;have lo:=h.lo g hg;have hi:=h.hi hg;have p2:=Ac.iG (t:=g.2) p;have g1:=Ac.rQ (t:=g.2) p;exact⟨(h.wd g hg).1,(h.wd g hg).2,p2,g1,Ac.acP p lo,Ac.ado p hi,p2,g1,aM (Ac.IK _ _) (aM (by lia:g.2.natAbs<=10^20) (by decide)),aM (Ac.En _ _) (aM (by omega:S.natAbs<=10^20) (by decide))⟩
theorem acw(a b c d:Int):PyData.eqv (.tuple (List.map PyData.int [a,b])) (.tuple (List.map PyData.int [c,d]))=(decide (a=c)&&decide (b=d)):=by
 simp[PyData.eqv,PyData.eqvAll]
 rfl
def Ln(K:Frag):Sp:=λvs H Q _=>∃(l:Addr)(xs:Μ)(gs:List (Str×Int))(S:Int),vs=[.ref l]/\H l=some (.lst xs)/\PW H xs gs S/\Wt gs S /\
 ∀H' r ys ws,Same H H'->H r=none->H' r=some (.lst ys)->WF K H' ys (Ac.ways gs S) ws->Q (.ref r) H'
def jJ(l d:Addr)(gs:List (Str×Int))(S:Int)(H:Hp)(k:Nat)(σ:L2.St)(H':Hp):Prop:=∃u v kvs,σ=[some (.ref l),some (.ref d),u,v]/\Same H H'/\H' d=some (.dK kvs)/\DA H' S kvs (Ac.ji (gs.take k))
def jC(K:Frag)(acc:List (Str×Int))(S:Int)(d D1:Addr)(u:HO)(H:Hp)(i:Nat)(ys:Μ)(Hc:Hp):Prop:=Same (upd H d u) Hc/\Hc D1=some (.lst ys)/\∃ws,WF K Hc ys (Vs S (acc.take i)) ws
theorem GJ(F:Fun K mq mq oM f fd)(T:Txt K mg D)(Um:OkF P w K mg base 3 Gd Gf (HJ (K:=K) (· + ·))):cJ P w K mg base CX0 4 f fd mK (Ln K):=by
 refine F.ok lW ?_ ?_
 .rintro _ _ _ _ ⟨l,xs,gs,S,rfl,_⟩;rfl
 .rintro cdv A outer s H _ Q E hr ⟨l,xs,gs,S,rfl,hl,hp,W,q⟩;have p0:=W.pos;have sle:=W.le;refine⟨_,(bI (bZ (i:=1) lW.nd (hx:=(Or.inr rfl)) H_)
   (bI (fL PassesOwn.never rfl (cV (pv 0).mono) (gJ (n:=2) rfl (cG (cB (i:=2) lW.nd) (cG (cB (i:=3) lW.nd) fX)))
    (bO (N6 (zc hr) pv1 pv2 (bR Um hr.md (bF (YH (zc hr) pv1 pv2 (dX T.jo) (by first|exact⟨rfl,rfl,rfl,rfl,rfl⟩|constructor<;>rfl)) (bF pv3))) rfl)))
   (bO (cg (kJ (bQ oM) zO ["pairs","chances","?room","chance"] ["room"] (acf (pv 1).mono) (dH (i:=0)) (Om (cD (yS (K:=K) rfl hr.units) (Mg (zc hr) pv2 pv0 (λ_ _=>rfl)) (dX T.jo) (cH _))) (gO (bF pv0 (bF (Mg (zc hr) pv2 pv0 (λ_ _=>rfl)))))))))),?_⟩
  refine λd hd=>eN ?_;have ld:l≠d:=bH hl hd;refine⟨_,rfl,l,xs,rfl,(bL ld).trans hl,jJ l d gs S H,⟨none,none,[],rfl,Same.upd hd,bG,.nil⟩,?_,?_⟩
  .rintro k x σ' H' hk ⟨u,v,kvs,rfl,S1,h1,da⟩ _;have lk:k<gs.length:=by rw[<- hp.len];exact(ao.mp hk).1
   have e:gs[k]?=some gs[k]:=aj lk;have hm:=aW lk;obtain⟨t,c,a,b,cc⟩:=hp.at_ k _ e;rw[hk]at a;cases a;generalize gs[k]=g at *;obtain⟨n,x⟩:=g;have wx:=W.hi hm;have wl:=W.lo _ hm;have al:=Ac.v7 (gs.take k) λg hg=>W.lo g (List.mem_of_mem_take hg);have st:((gs.take k).map (·.2)).sum<=S:=by
    have e1:gs.map (·.2)=(gs.take k).map (·.2)++(gs.drop k).map (·.2):=by rw[<- bC,List.take_append_drop]
    have e2:=(Wc (gs:=gs.drop k) λg hg=>W.lo g (List.mem_of_mem_drop hg)).1;have e3:=W.sum;rw[e1,List.sum_append]at e3;lia
   have look:0<=Ac.look (Ac.ji (gs.take k)) n/\(Ac.look (Ac.ji (gs.take k)) n).natAbs<=10^20:=by
    rcases Ac.Rv (Ac.ji (gs.take k)) n with e0|⟨g,hg,e0⟩
    .rw[e0];exact⟨Int.le_refl _,by decide⟩
    .rw[e0];have:=al.2.2 g hg;lia
   obtain⟨cq,hq,sq⟩ : ∃cq,(qW kvs (.inr n)).getD (.ref D.NOUGHT)=.ref cq/\SqT K H' cq [.int (Ac.lw (Ac.look (Ac.ji (gs.take k)) n) S).1,.int (Ac.lw (Ac.look (Ac.ji (gs.take k)) n) S).2]:=by
    rcases da.val n with⟨e1,e2⟩|⟨c',e1,e2⟩
    .rw[e1,e2,((Ac.yH p0).mpr rfl).1,((Ac.yH p0).mpr rfl).2];exact⟨_,rfl,T.jY H'⟩
    .rw[e1];exact⟨c',rfl,.of e2⟩
   have q1:=Ac.iG (t:=Ac.look (Ac.ji (gs.take k)) n) p0;have q2:=Ac.iG (t:=x) p0;have d1:=aM (Ac.IK (Ac.look (Ac.ji (gs.take k)) n) S) look.2;have d2:=aM (Ac.En (Ac.look (Ac.ji (gs.take k)) n) S) (by lia:S.natAbs<=10^20);have d3:=aM (Ac.IK x S) (by have:x<=S:=wx;have:0<=x:=wl;lia:x.natAbs<=10^20);have d4:=aM (Ac.En x S) (by lia:S.natAbs<=10^20);have d5:Bd ((Ac.lw (Ac.look (Ac.ji (gs.take k)) n) S).2*(Ac.lw x S).2):=by
    refine Y3 (m:=10^20*10^20) ?_ (by decide +kernel);rw[Int.natAbs_mul];exact Nat.mul_le_mul d2 d4
   have hlen:kvs.length<sizeLine:=by
    have h9:9<sizeLine:=by decide
    have:=al.2.1;have:=W.len;rw[da.len];rw[bw]at *;lia
   refine⟨_,_,rfl,S1 _ _ b,rfl,_,_,rfl,_,_,rfl,rfl,_,rfl,_,rfl,.inl ⟨kvs,.inl h1⟩,_,rfl,_,wV.k (k:=.inr n) h1,_,rfl,cq,c,_,_,_,_,by rw[hq],sq,.of (S1 _ _ cc),Xi d1,Xi d2,Xi d3,Xi d4,q1,q2,d5,λr z o lo hr=>?_⟩;have rd:d≠r:=bH h1 hr;refine⟨_,rfl,_,rfl,_,_,rfl,Vf.k (k:=.inr n) ((bL rd).trans h1) hlen,(bL ld).trans ((bL (bH ‹H' l=some (HO.lst xs)› hr)).trans ‹H' l=some (HO.lst xs)›),_,_,_,rfl,?_,bG,?_⟩
   .intro b' o' e';rw[bL (bH e' hd),bL (bH (S1 _ _ e') hr)];exact S1 _ _ e'
   .obtain⟨ez,eo⟩:=Ac.aei p0 lo.pos lo.gcd lo.eq;rw[cj e,Ac.Ec];refine DA.put ?_ (da.imp λc' x' y' e'=>?_)
    .rw[bL rd.symm,<- ez,<- eo];exact bG
    .rw[bL (d8 e' h1),bL (bH e' hr)];exact e'
  .rintro σ' H' ⟨u,v,kvs,rfl,S1,h1,da⟩ _;refine Q0 ?_;have e8:gs.take xs.length=gs:=by rw[hp.len,aQ]
   rw[e8]at da;have al:=Ac.v7 gs W.lo;have nd:(kvs.map (·.1)).Nodup:=by
    rw[da.keys];exact al.1.map (f:=Sum.inr) (S:=(· ≠ ·)) λa b h z=>h (Sum.inr.inj z)
   have hlen:kvs.length<=sizeLine:=by
    have h9:9<sizeLine:=by decide
    have:=al.2.1;have:=W.len;rw[da.len];lia
   walk_at "rd"
   refine⟨kvs,h1,hlen,λo D1 hD1=>⟨jC K (Ac.ji gs) S d D1 (.frz o (.dK kvs)) H',⟨Same.upd hD1,bG,[],.nil⟩,?_,?_⟩⟩
   .rintro i k y ys Hc hi ⟨S2,hD,ws,wf⟩ hy hfr pre hpre;obtain⟨u0,rfl⟩:=List.length_eq_one_iff.mp hpre;obtain⟨nm,X,c,ea,rfl,rfl,hc⟩:=da.get hi;have vv:=Wq nd hi;have hcd:c≠d:=d8 hc h1;have hcc:Hc c=some (.tup [.int (Ac.lw X S).1,.int (Ac.lw X S).2]):=S2 _ _ ((bL hcd).trans hc)
    walk_at "rd"
    have dg:wV Hc d (kV (.inr nm)) (some (.ref c)):=.inl ⟨kvs,.inr nm,.inr ⟨o,hfr⟩,rfl,vv.symm⟩;refine⟨[some (.str nm)],rfl,rfl,_,dg,_,.tup (.of hcc) (dz.ints K _ [_,_]),_,.tup (T.jY _) (dz.ints K _ [0,1]),rfl,rfl,?_⟩;have X0:=(al.2.2 _ (aC ea)).1;by_cases hX:X=0
    .subst hX;obtain⟨e1,e2⟩:=(Ac.yH (b:=S) p0).mpr rfl;rw[show PyData.eqv (.tuple (List.map PyData.int [(Ac.lw 0 S).1,(Ac.lw 0 S).2])) (.tuple (List.map PyData.int [0,1]))=true by rw[e1,e2];rfl];refine⟨hfr,S2,hD,ws,?_⟩;rw[GK ea,ZZ (by decide),List.append_nil];exact wf
    .have e0:PyData.eqv (.tuple (List.map PyData.int [(Ac.lw X S).1,(Ac.lw X S).2])) (.tuple (List.map PyData.int [0,1]))=false:=by
      rw[acw];simp only[Bool.and_eq_false_iff,decide_eq_false_iff_not];by_cases h1:(Ac.lw X S).1=0
      .exact .inr λh2=>hX ((Ac.yH p0).mp ⟨h1,h2⟩)
      .exact .inl h1
     rw[e0];refine⟨_,dg,fQ,λp hp=>?_⟩;have pD:D1≠p:=bH hD hp;have pd:d≠p:=bH hfr hp;refine⟨(bL pD).trans hD,(bL pd).trans hfr,?_,bG,ws++[(nm,c)],?_⟩
     .intro b' o' e';rw[bL (bH e' hD1),bL (bH (S2 _ _ e') hp)];exact S2 _ _ e'
     .rw[GK ea,ZY (by lia)];exact WF.updL ((bL pD).trans hD) ((wf.same (Same.upd hp)).snoc bG (.of ((bL (bH hcc hp)).trans hcc)))
   .rintro ys Hc ⟨S2,hD,ws,wf⟩ _;rw[da.len,aQ]at wf;refine q _ D1 ys ws ?_ ?_ hD wf
    .intro b o' e';exact S2 _ _ ((bL (bH e' hd)).trans (S1 _ _ e'))
    .cases z:H D1 with
     |none=>rfl
     |some o' =>
      have:=(bL (H:=H') (o:=.frz o (.dK kvs)) (bH z hd)).trans (S1 _ _ z);rw[this]at hD1;cases hD1
theorem aao{gs:List (Str×Int)}{S:Int}(W:Wt gs S):∀(hs:List (Str×Int))(L:Int),(∀g∈hs,g∈gs/\(Ac.lw g.2 S).2 ∣ L)->((hs.map λg=>(Ac.lw g.2 S).1*(L/(Ac.lw g.2 S).2)).sum)*S=(hs.map (·.2)).sum*L
 |[],L,_=>by simp
 |g::hs,L,h=>by
  have ih:=aao W hs L λg hg=>h g (aJ _ hg);obtain⟨hm,q,hq⟩:=h g aP;have p:=Ac.iG (t:=g.2) W.pos;have e:=Ac.tD (t:=g.2) W.pos;rw[List.map_cons,List.sum_cons,List.map_cons,List.sum_cons,Int.add_mul,Int.add_mul,ih]
  congr 1
  generalize(Ac.lw g.2 S).1=a at *;generalize(Ac.lw g.2 S).2=b at *;rw[hq,Int.mul_ediv_cancel_left _ (Int.ne_of_gt p),Int.mul_right_comm,e,Int.mul_assoc]
theorem Zq{gs:List (Str×Int)}{S:Int}(W:Wt gs S):∀x y,Low (lvT ((gs.map λg=>(g.1,Ac.lw g.2 S)).map (·.2))).sum (lvB ((gs.map λg=>(g.1,Ac.lw g.2 S)).map (·.2)):Nat) x y->x=1/\y=1:=by
 intro x y lo;have hq:∀f∈((gs.map λg=>(g.1,Ac.lw g.2 S)).map (·.2)),Fq f:=by
  intro f hf;obtain⟨u,hu,rfl⟩:=YV.mp hf;obtain⟨g,hg,rfl⟩:=YV.mp hu;exact(W.pair hg).fq
 have e0:(gs.map λg=>(g.1,Ac.lw g.2 S)).map (·.2)=gs.map λg=>Ac.lw g.2 S:=by rw[List.map_map];rfl
 have bp:=Cj hq;have top:=aao W gs (lvB ((gs.map λg=>(g.1,Ac.lw g.2 S)).map (·.2)):Nat) λg hg=>⟨hg,MN (f:=Ac.lw g.2 S) (YV.mpr ⟨(g.1,Ac.lw g.2 S),YV.mpr ⟨g,hg,rfl⟩,rfl⟩) (W.pair hg).fq⟩;have e1:(lvT ((gs.map λg=>(g.1,Ac.lw g.2 S)).map (·.2))).sum=(gs.map λg=>(Ac.lw g.2 S).1*((lvB ((gs.map λg=>(g.1,Ac.lw g.2 S)).map (·.2)):Nat)/(Ac.lw g.2 S).2)).sum:=by
  unfold lvT;rw[List.map_map,List.map_map];rfl
 rw[<- e1,W.sum,Int.mul_comm S]at top;have e2:=Int.eq_of_mul_eq_mul_right (Int.ne_of_gt W.pos) top;rw[e2]at lo;have h:=lo.eq;rw[Int.mul_comm _ y]at h;have e3:x=y:=Int.eq_of_mul_eq_mul_right (by lia) h;subst e3;have g:=lo.gcd;have p:=lo.pos;rw[Int.gcd_self]at g;lia
def Keep(s:Addr)(H H':Hp):Prop:=∀b o,b≠s->H b=some o->H' b=some o
theorem Keep.tup{s C dx:Addr}{fs:List (Str×V)}{H H':Hp}(h:Keep s H H')(hs:H s=some (.ins C dx fs)):∀t ys,H t=some (.tup ys)->H' t=some (.tup ys):=λt ys e=>h t _ (d8 e hs) e
theorem Keep.lst{s C dx:Addr}{fs:List (Str×V)}{H H':Hp}(h:Keep s H H')(hs:H s=some (.ins C dx fs)){t:Addr}{ys:Μ}(e:H t=some (.lst ys)):H' t=some (.lst ys):=h t _ (d8 e hs) e
theorem Keep.free{s r:Addr}{o:HO}{H H':Hp}(h:Keep s H H')(hr:H' r=none)(hs:H' s=some o):H r=none:=by
 cases z:H r with
 |none=>rfl
 |some u =>
  have:=h r u (bH hs hr).symm z;rw[hr]at this;cases this
theorem WF.updI{H:Hp}{o C dx:Addr}{fs:List (Str×V)}{u:HO}(ho:H o=some (.ins C dx fs)){xs:Μ}{gs:List (Str×Int×Int)}{ws:List (Str×Addr)}(h:WF K H xs gs ws):WF K (upd H o u) xs gs ws :=
 h.imp (λt us e=>(bL (d8 e ho)).trans e) λc xs e=>e.updO ho (by intro ys z;cases z) (by intro ob ys z;cases z)
theorem PW.snoc{H:Hp}{xs:Μ}{gs:List (Str×Int)}{S:Int}(h:PW H xs gs S){t c:Addr}{g:Str×Int}(h1:H t=some (.tup [.str g.1,.ref c]))(h2:H c=some (.tup [.int (Ac.lw g.2 S).1,.int (Ac.lw g.2 S).2])):PW H (xs++[.ref t]) (gs++[g]) S:=by
 refine⟨by rw[aA,aA,h.len];rfl,λk u e=>?_⟩;by_cases hk:k<gs.length
 .rw[aF hk]at e;rw[aF (by rw[h.len];exact hk)];exact h.at_ k u e
 .rw[aD (Nat.le_of_not_lt hk)]at e;rw[aD (by rw[h.len];exact Nat.le_of_not_lt hk),h.len];have e0:k-gs.length=0:=by
   cases e1:k-gs.length with
   |zero=>rfl
   |succ m=>rw[e1]at e;simp at e
  rw[e0,List.getElem?_cons_zero]at e;cases e;rw[e0];exact⟨t,c,rfl,h1,h2⟩
structure Wg(K:Frag)(H:Hp)(s C:Addr)(n:Str)(p:Addr)(ds:List (Str×Int×Int))(ld:Addr)(ys:Μ)(ws:List (Str×Addr)):Prop where
 at_:∃dx,H s=some (.ins C dx [("name",.str n),("pay",.ref p),("leads",.ref ld)])
 hl:H ld=some (.lst ys)
 wf:WF K H ys ds ws
def j8(K:Frag)(D:Adr):Sp:=λvs H Q _=>∃(s dx C:Addr)(n:Str)(p l:Addr)(x y:Int)(xs:Μ)(gs:List (Str×Int))(S:Int),vs=[.ref s,.str n,.ref p,.ref l]/\H s=some (.ins C dx [])/\Fam D C/\n.length<=1000/\lH n.cps.toList=true/\Fk K H p x y /\
 H l=some (.lst xs)/\PW H xs gs S/\Wt gs S/\∀H' ld ys ws,H ld=none->Keep s H H'->Wg K H' s C n p (Ac.ways gs S) ld ys ws->Q .non H'
theorem JR(F:Fun K zH zy uR f fd)(T:Txt K mg D)(lR:OkI P w K mg base CX0 4 D.Door_init nA (qb (K:=K) D))(J6:OkF P w K mg base 4 nq lX wg)
 (JH:OkF P w K mg base 4 mq mK (Ln K)):cJ P w K mg base CX0 5 f fd jc (j8 K D):=by
 refine F.ok Ka ?_ ?_
 .rintro _ _ _ _ ⟨s,dx,C,n,p,l,x,y,xs,gs,S,rfl,_⟩;rfl
 .rintro cdv A outer s H _ Q E hr ⟨o,dx,C,n,p,l,x,y,xs,gs,S,rfl,ho,hC,hn,hw,hf,hl,hp,W,q⟩;refine⟨_,(bI (cX (Dk T.Dh lR hr.md T.YD (bF pv0 (bF pv1 (bF pv2)))))
   (bI (cX (bR J6 hr.md (bF pv3)))
   (bO (xR pv0 (bR JH hr.md (bF pv3)) rfl)))),?_⟩
  refine⟨_,rfl,_,rfl,_,rfl,_,dx,C,_,_,_,_,rfl,ho,hC,hn,hw,hf,λl0 h0=>?_⟩;have ol:o≠l0:=bH bG h0;rw[bL ol.symm]at h0;have k1:Keep o H (upd (upd H l0 (.lst [])) o (.ins C dx [("name",.str n),("pay",.ref p),("leads",.ref l0)])):=λb u hb e=>(bL hb).trans ((bL (bH e h0)).trans e);have o1:upd (upd H l0 (.lst [])) o (.ins C dx [("name",.str n),("pay",.ref p),("leads",.ref l0)]) o=some (.ins C dx [("name",.str n),("pay",.ref p),("leads",.ref l0)]):=bG;generalize upd (upd H l0 (.lst [])) o (.ins C dx [("name",.str n),("pay",.ref p),("leads",.ref l0)])=H1 at k1 o1 ⊢;refine⟨_,rfl,_,xs,_,rfl,k1.lst ho hl,(hp.imp (k1.tup ho)).pairs,?_,?_,Zq W,λH2 S2=>?_⟩
  .intro g hg;obtain⟨u,hu,rfl⟩:=YV.mp hg;exact W.pair hu
  .rw[ak];exact aM W.len (by decide)
  .refine⟨_,rfl,_,xs,gs,S,rfl,S2 _ _ (k1.lst ho hl),(hp.imp (k1.tup ho)).same S2,W,λH3 r ys ws S3 hr3 hr hwf=>?_⟩;have o3:=S3 _ _ (S2 _ _ o1);refine⟨_,rfl,_,C,dx,_,rfl,o3,T.cl C hC,T.GQ C hC,(by show 3<1000;decide),?_⟩;refine q _ r ys ws (k1.free (S2.free hr3) o1) (λb u hb e=>(bL hb).trans (S3 _ _ (S2 _ _ (k1 b u hb e)))) ⟨⟨dx,bG⟩,(bL (d8 hr o3)).trans hr,hwf.updI o3⟩
inductive v9(K:Frag)(D:Adr)(vs:Μ)(H:Hp)(Q:VK):Prop
 |mk (s dx:Addr) (n r1 r2:Str) (p c:Addr) (x y w S:Int) (h0:vs=[.ref s,.str n,.ref p,.ref c,.str r1,.str r2]) (h1:H s=some (.ins D.Toss dx [])) (h2:n.length<=1000) (h3:lH n.cps.toList=true) (h4:Fk K H p x y) (h5:H c=some (.tup [.int (Ac.lw w S).1,.int (Ac.lw w S).2])) (h6:Wt [(r1,w),(r2,S-w)] S) (h7:∀H' ld ys ws,H ld=none->Keep s H H'->Wg K H' s D.Toss n p (Ac.ways [(r1,w),(r2,S-w)] S) ld ys ws->Q .non H'):v9 K D vs H Q
def BR(K:Frag)(D:Adr):Sp:=λvs H Q _=>v9 K D vs H Q
theorem M4(F:Fun K B_ Am xq f fd)(T:Txt K mg D)(jM:OkF P w K mg base 3 j7 kI (nZ (K:=K)))(qG:OkF P w K mg base 3 iU iW (yO (K:=K)))(qp:OkF P w K mg base 3 tR tV (HJ (K:=K) (· - ·)))
 (fV:OkI P w K mg base CX0 5 D.Mixed_init jc (j8 K D)):cJ P w K mg base CX0 6 f fd pR (BR K D):=by
 refine F.ok M9 ?_ ?_
 .rintro _ _ _ _ ⟨s,dx,n,r1,r2,p,c,x,y,w,S,rfl,_⟩;rfl
 .rintro cdv A outer s H _ Q E hr ⟨o,dx,n,r1,r2,p,c,x,y,w,S,rfl,ho,hn,hw,hf,hc,W,q⟩;refine⟨_,(bI (cX (bR jM hr.md (bF pv1 (bF pv2))))
   (bI (cX (bR qG hr.md (bF pv3)))
   (bO (cX (Dk T.zE fV hr.md T.Pn (bF pv0 (bF pv1 (bF pv2 (bF (jw (bF (gO (bF pv4 (bF pv3))) (bF (gO (bF pv5 (bF (bR qp hr.md (bF (dX T.Br) (bF pv3)))))))))))))))))),?_⟩
  have p0:=W.pos;have sle:=W.le;have w0:0<=w:=W.lo (r1,w) (by simp);have w1:w<=S:=W.hi (g:=(r1,w)) (by simp);have q2:=Ac.iG (t:=w) p0;have b3:=Xi (aM (Ac.IK w S) (by lia:w.natAbs<=10^20));have b4:=Xi (aM (Ac.En w S) (by lia:S.natAbs<=10^20));have b1:Bd 1:=Bd.sm (by decide);refine⟨_,rfl,_,rfl,_,_,_,_,rfl,hn,hw,hf,_,rfl,_,_,_,rfl,⟨⟨.of hc,q2,Ac.rQ p0⟩,Ac.acP p0 w0,Ac.ado p0 w1,b4⟩,_,rfl,_,rfl,_,rfl,_,rfl,_,rfl,fQ,λp1 h1=>⟨_,rfl,_,rfl,_,_,_,_,_,_,rfl,T.uN _,.of (Same.upd h1 _ _ hc),b1,b1,b3,b4,by decide,q2,by rw[Int.one_mul];exact b4,λr z o1 lo hr=>⟨fQ,λp2 h2=>⟨fQ,λp3 h3=>?_⟩⟩⟩⟩;have T2:Same (upd H p1 (.tup [.str r1,.ref c])) (upd (upd H p1 (.tup [.str r1,.ref c])) r (.tup [.int z,.int o1])):=Same.upd hr;have T3:Same (upd (upd H p1 (.tup [.str r1,.ref c])) r (.tup [.int z,.int o1])) (upd (upd (upd H p1 (.tup [.str r1,.ref c])) r (.tup [.int z,.int o1])) p2 (.tup [.str r2,.ref r])):=Same.upd h2;have T4:Same (upd (upd (upd H p1 (.tup [.str r1,.ref c])) r (.tup [.int z,.int o1])) p2 (.tup [.str r2,.ref r])) (upd (upd (upd (upd H p1 (.tup [.str r1,.ref c])) r (.tup [.int z,.int o1])) p2 (.tup [.str r2,.ref r])) p3 (.lst [.ref p1,.ref p2])):=Same.upd h3;have TS:Same H (upd (upd (upd (upd H p1 (.tup [.str r1,.ref c])) r (.tup [.int z,.int o1])) p2 (.tup [.str r2,.ref r])) p3 (.lst [.ref p1,.ref p2])):=(Same.upd h1).trans (T2.trans (T3.trans T4));have e1:=T4 _ _ (T3 _ _ (T2 p1 _ bG));have e2:=T4 _ _ (T3 r _ bG);have e3:=T4 p2 _ bG;have e4:=@bG (upd (upd (upd H p1 (.tup [.str r1,.ref c])) r (.tup [.int z,.int o1])) p2 (.tup [.str r2,.ref r])) p3 (.lst [.ref p1,.ref p2]);obtain⟨ez,eo⟩:=Ac.Ny p0 lo.pos lo.gcd lo.eq;generalize upd (upd (upd (upd H p1 (.tup [.str r1,.ref c])) r (.tup [.int z,.int o1])) p2 (.tup [.str r2,.ref r])) p3 (.lst [.ref p1,.ref p2])=Hn at TS e1 e2 e3 e4 ⊢;refine⟨_,_,_,_,_,_,_,_,_,[(r1,w),(r2,S-w)],S,rfl,TS _ _ ho,(by simp[Fam]),hn,hw,hf.same TS,e4,⟨rfl,λk g e=>?_⟩,W,λH' ld ys ws f k d=>q H' ld ys ws (TS.free f) (λb u hb e=>k b u hb (TS b u e)) d⟩
  match k,e with
  |0,e =>
   cases e;exact⟨p1,c,rfl,e1,TS _ _ hc⟩
  |1,e =>
   cases e;exact⟨p2,r,rfl,e3,by rw[<- ez,<- eo];exact e2⟩
  |k+2,e=>cases e
def jE(D1:Addr)(rs:Β)(H:Hp)(k:Nat)(ys:Μ)(Hc:Hp):Prop:=PW Hc ys ((rs.map λr=>(r,(1:Int))).take k) rs.length/\Same H Hc/\Hc D1=some (.lst ys)
inductive vN(K:Frag)(D:Adr)(vs:Μ)(H:Hp)(Q:VK):Prop
 |mk (s dx:Addr) (n:Str) (p l:Addr) (x y:Int) (rs:Β) (h0:vs=[.ref s,.str n,.ref p,.ref l]) (h1:H s=some (.ins D.Even dx [])) (h2:n.length<=1000) (h3:lH n.cps.toList=true) (h4:Fk K H p x y) (h5:H l=some (.lst (rs.map V.str))) (h6:Wt (rs.map λr=>(r,(1:Int))) rs.length) (h7:∀H' ld ys ws,H ld=none->Keep s H H'->Wg K H' s D.Even n p (Ac.ways (rs.map λr=>(r,(1:Int))) rs.length) ld ys ws->Q .non H'):vN K D vs H Q
def Dj(K:Frag)(D:Adr):Sp:=λvs H Q _=>vN K D vs H Q
theorem Ng(F:Fun K Dc Cd rG f fd)(T:Txt K mg D)(fV:OkI P w K mg base CX0 5 D.Mixed_init jc (j8 K D)):cJ P w K mg base CX0 6 f fd qt (Dj K D):=by
 refine F.ok Lp ?_ ?_
 .rintro _ _ _ _ ⟨s,dx,n,p,l,x,y,rs,rfl,_⟩;rfl
 .rintro cdv A outer s H _ Q E hr ⟨o,dx,n,p,l,x,y,rs,rfl,ho,hn,hw,hf,hl,W,q⟩;refine⟨_,(bO (cX (Dk T.zE fV hr.md T.Pn (bF pv0 (bF pv1 (bF pv2 (bF (kJ (bQ rG) vo vo ["room"] (cV (pv 3).mono) (dH (i:=0)) cU (gO (bF pv0 (bF (gO (bF bK (bF (cu cN T.gH PySem.boot_len (bF pv4)))))))))))))))),?_⟩;unfold j8
  walk_at "rd"
  refine cM ?_
  walk_at "rd"
  have l8:=W.len;rw[ak]at l8;have p0:=W.pos;have z9:9<sizeLine:=by decide
  refine⟨_,hl,by rw[ak];exact aM l8 (by decide),λD1 hD=>⟨jE D1 rs H,⟨⟨rfl,λk g e=>by simp at e⟩,Same.upd hD,bG⟩,?_,?_⟩⟩
  .rintro k x1 ys Hc hk ⟨pw,S1,hD1⟩ hy hlc;rw[aq]at hk;cases er:rs[k]? with
   |none=>rw[er]at hk;cases hk
   |some r =>
    rw[er]at hk;cases hk;refine⟨_,hlc,fQ,λp1 hp1=>⟨fQ,λp2 hp2=>?_⟩⟩;have T1:Same Hc (upd (upd Hc p1 (.tup [.int 1,.int (rs.map V.str).length])) p2 (.tup [.str r,.ref p1])):=(Same.upd hp1).trans (Same.upd hp2);have e1:upd (upd Hc p1 (.tup [.int 1,.int (rs.map V.str).length])) p2 (.tup [.str r,.ref p1]) p1=some (.tup [.int 1,.int (rs.map V.str).length]):=Same.upd hp2 p1 _ bG;have e2:upd (upd Hc p1 (.tup [.int 1,.int (rs.map V.str).length])) p2 (.tup [.str r,.ref p1]) p2=some (.tup [.str r,.ref p1]):=bG;generalize upd (upd Hc p1 (.tup [.int 1,.int (rs.map V.str).length])) p2 (.tup [.str r,.ref p1])=Hn at T1 e1 e2 ⊢;have nD:∀t us,Hn t=some (.tup us)->upd Hn D1 (.lst (ys++[.ref p2])) t=some (.tup us):=λt us e=>(bL (d8 e (T1 _ _ hD1))).trans e;refine⟨T1 _ _ hD1,T1 _ _ hlc,?_,?_,bG⟩
    .rw[List.take_succ,aq,er];refine((pw.same T1).imp nD).snoc (c:=p1) (nD _ _ e2) ?_;obtain⟨h1,h2⟩:=Ac.aeh p0;show _=some (HO.tup [.int (Ac.lw 1 (rs.length:Int)).1,.int (Ac.lw 1 (rs.length:Int)).2]);rw[h1,h2,nD _ _ e1,ak]
    .intro b u e;rw[bL (bH e hD)];exact T1 _ _ (S1 _ _ e)
  .rintro ys Hc ⟨pw,S1,hD1⟩ hy;have ek:(rs.map λr=>(r,(1:Int))).take (rs.map V.str).length=rs.map λr=>(r,(1:Int)):=aL (by rw[ak,ak];exact aG _);rw[ek]at pw;exact⟨dx,D.Even,S1 _ _ ho,(by simp[Fam]),hn,hw,⟨x,y,hf.same S1⟩,ys,hD1,_,_,pw,W,λH' ld ys ws f k d=>q H' ld ys ws (S1.free f) (λb u hb e=>k b u hb (S1 b u e)) d⟩
def Lt(x:Str):Prop:=x.cps.toList.all z7=true
theorem Wj(x y:Str):(x++y).cps.toList=x.cps.toList++y.cps.toList:=by
 show(x.cps++y.cps).toList=_;rw[Array.toList_append]
theorem acB(x y:Str):(x++y).length=x.length+y.length:=by
 show(x.cps++y.cps).size=_;rw[Array.size_append];rfl
theorem ZK{α:Type}{xs:List α}{i:Int}(h0:0<=i)(h1:i<xs.length):∃v,atI xs i=some v/\v∈xs:=by
 obtain⟨n,rfl⟩:=Int.eq_ofNat_of_zero_le h0;have hn:n<xs.length:=by lia
 exact⟨xs[n],bY (aj hn),aW hn⟩
theorem Lt.one{i:Int}(h0:0<=i)(h1:i<26):∃c,atI (Str.ofString "abcdefghijklmnopqrstuvwxyz").cps.toList i=some c/\Lt ⟨#[c]⟩:=by
 have l1:(Str.ofString "abcdefghijklmnopqrstuvwxyz").cps.toList.length=26:=by decide +kernel
 obtain⟨v,e,e2⟩:=ZK (xs:=(Str.ofString "abcdefghijklmnopqrstuvwxyz").cps.toList) h0 (by rw[l1];exact h1);refine⟨v,e,?_⟩;unfold Lt z7;simp only[List.all_cons,List.all_nil,Bool.and_true,decide_eq_true_eq];exact e2
structure Wd(x:Str):Prop where
 lt:Lt x
 lo:1<=x.length
 hi:x.length<=8
theorem Wd.word{x:Str}(h:Wd x):lH x.cps.toList=true:=by
 have l:=h.lt;have lo:=h.lo;have hi:=h.hi;have hl:x.cps.toList.length=x.length:=Array.length_toList;unfold Lt at l;unfold lH;rw[l,hl,Zs lo,Zs hi];rfl
theorem Lt.fold:∀(ys:Β)(acc:Array Nat),acc.toList.all z7=true->(∀y∈ys,Lt y)->(ys.foldl (λacc p=>acc++(Str.ofString "").cps++p.cps) acc).toList.all z7=true
 |[],acc,h,_=>h
 |y::ys,acc,h,hy=>by
  rw[List.foldl_cons];refine Lt.fold ys _ ?_ λz hz=>hy z (aJ _ hz);have e0:(Str.ofString "").cps = #[]:=by decide +kernel
  have hy0:y.cps.toList.all z7=true:=hy y aP;rw[e0,Array.append_empty,Array.toList_append,List.all_append,h,hy0];rfl
theorem Lt.glued{ys:Β}(h:∀y∈ys,Lt y):Lt (Txt.join (Str.ofString "") ys):=by
 show((ys.drop 1).foldl (λacc p=>acc++(Str.ofString "").cps++p.cps) (ys.headD Str.empty).cps).toList.all z7=true;refine Lt.fold _ _ ?_ λy hy=>h y (List.mem_of_mem_drop hy);cases ys with
 |nil=>rfl
 |cons y ys=>exact h y aP
noncomputable def zm(ns:Β)(o:Nat):List (Key×V):=(ns.zipIdx o).map λg=>(.inr g.1,.int (g.2:Nat))
abbrev Eb(ns:Β):List (Key×V):=zm ns 0
theorem G_{ns:Β}{o:Nat} : (zm ns o).length=ns.length:=by unfold zm;rw[ak,List.length_zipIdx]
theorem D_{n:Str}{ns:Β}{o:Nat} : zm (n::ns) o=(.inr n,.int (o:Nat))::zm ns (o+1):=by unfold zm;rw[List.zipIdx_cons];rfl
theorem Vv{n:Str} : ∀{ns:Β}{o:Nat},n∉ns->qW (zm ns o) (.inr n)=none
 |[],_,_=>rfl
 |a::ns,o,h=>by
  rw[D_];have ne:¬(Sum.inr a:Key)=.inr n:=λz=>h (by injection z with z;rw[z];exact aP);unfold qW;rw[List.find?_cons,Zp ne];exact Vv λm=>h (aJ _ m)
theorem Qi{n:Str} : ∀{ns:Β}{o k:Nat},ns.Nodup->ns[k]?=some n->qW (zm ns o) (.inr n)=some (.int ((o+k:Nat):Int))
 |[],_,_,_,h=>by simp at h
 |a::ns,o,0,_,h=>by
  rw[List.getElem?_cons_zero]at h;cases h;rw[D_];unfold qW;rw[List.find?_cons,Zs rfl];rfl
 |a::ns,o,k+1,nd,h=>by
  rw[List.getElem?_cons_succ]at h;obtain⟨na,nd'⟩:=List.nodup_cons.mp nd;have ne:¬(Sum.inr a:Key)=.inr n:=λz=>na (by injection z with z;rw[z];exact aC h);have ih:=Qi (o:=o+1) nd' h;rw[D_];unfold qW at ih ⊢;rw[List.find?_cons,Zp ne];rw[show o+(k+1)=o+1+k by lia];exact ih
theorem YG{n:Str}{ns:Β}(h:n∉ns):putK (Eb ns) (.inr n) (.int (ns.length:Nat))=Eb (ns++[n]):=by
 have a:((Eb ns).any λkv=>decide (kv.1=.inr n))=false:=by
  rw[List.any_eq_false];intro kv hk;unfold Eb zm at hk;obtain⟨g,hg,rfl⟩:=YV.mp hk;have:g.1∈ns:=by
   have:=List.mem_map_of_mem (f:=Prod.fst) hg;rwa[List.zipIdx_map_fst]at this
  intro z;have z:(Sum.inr g.1:Key)=.inr n:=of_decide_eq_true z;injection z with z;exact h (z ▸ this)
 unfold putK;rw[a,ZZ (by decide)];unfold Eb zm;rw[List.zipIdx_append,bC,Nat.zero_add];rfl
structure Vw(H:Hp)(xs:Μ)(ns:Β):Prop where
 len:xs.length=ns.length
 at_:∀(k:Nat)(n:Str),ns[k]?=some n->∃t v,xs[k]?=some (.ref t)/\H t=some (.tup [.str n,v])
theorem I8{α:Type}{l:List α}{k:Nat}{a:α}(nd:l.Nodup)(e:l[k]?=some a):a∉l.take k:=by
 obtain⟨lk,rfl⟩:=ao.mp e;rw[<- List.take_append_drop k l,List.nodup_append]at nd;intro z;refine nd.2.2 _ z _ ?_ rfl;rw[List.drop_eq_getElem_cons lk];exact aP
def vQ:Sp:=λvs H Q _=>∃(p:Addr)(x y:Int),vs=[.ref p]/\Fk K H p x y/\0<=x/\x<y/\Bd x/\Bd y/\Q .non H
theorem Hq(F:Fun K mY mY sU f fd)(T:Txt K mg D)(iK:OkF P w K mg base 2 lO lF (jy (K:=K)))(rH:OkF P w K mg base 1 vV vO (wI (K:=K))):cJ P w K mg base CX0 3 f fd mG (vQ (K:=K)):=by
 refine F.ok Jq ?_ ?_
 .rintro _ _ _ _ ⟨p,x,y,rfl,_⟩;rfl
 .rintro cdv A outer s H _ Q E hr ⟨p,x,y,rfl,fk,x0,xy,bx,b_y,q⟩;refine⟨_,(bO (cW (PW.pt (pw_or (fU (fj (bR iK hr.md (bF pv0)))) (pw_or (fj (bR rH hr.md (bF pv0 (bF (dX T.jo))))) (pw_or1 (fU (fj (bR rH hr.md (bF pv0 (bF (dX T.Br))))))))))
    (bO gZ)
    cF)),?_⟩
  unfold jy wI
  walk_at "rd"
  have hy:=fk.pos;have b0:Bd 0:=Nat.two_pow_pos 8000;have b1:Bd 1:=Nat.one_lt_two_pow (by decide);refine⟨⟨x,y,fk⟩,x,y,fk.at_,0,1,T.jY H,bx,b_y,b0,b1,?_⟩;rw[ZZ (by simp;omega)];refine⟨x,y,fk.at_,1,1,T.uN H,bx,b_y,b1,b1,?_⟩;rw[ZZ (by simp;omega)];exact q
def yX:Sp:=λvs H Q _=>∃(l:Addr)(xs:Μ)(rs:Β),vs=[.ref l]/\H l=some (.lst xs)/\Vw H xs rs/\rs.Nodup/\(∀g∈rs,Wd g)/\rs.length<=20 /\
 ∀d H',Same H H'->H d=none->H' d=some (.dK (Eb rs))->Q (.ref d) H'
def nJ(l d:Addr)(rs:Β)(H:Hp)(k:Nat)(σ:L2.St)(H':Hp):Prop:=∃u v,σ=[some (.ref l),some (.ref d),u,v]/\Same H H'/\H' d=some (.dK (Eb (rs.take k)))
theorem Jy(F:Fun K nR nR uc f fd)(T:Txt K mg D)(jK:OkF P w K mg base 1 nF nM Al):cJ P w K mg base CX0 2 f fd nY yX:=by
 refine F.ok oK ?_ ?_
 .rintro _ _ _ _ ⟨l,xs,rs,rfl,_⟩;rfl
 .rintro cdv A outer s H _ Q E hr ⟨l,xs,rs,rfl,hl,ra,nd,wd,n20,q⟩;refine⟨_,(bI (bZ (i:=1) oK.nd H_)
   (bI (fL PassesOwn.never rfl (cV (pv 0).mono) (cB (i:=2) oK.nd)
    (bI (bZ (i:=3) oK.nd (bT cA pv2 bK))
    (bI (cW (PW.pt (pw_or (fU (fj (bR jK hr.md (bF pv3)))) (pw_or1 (U6 (Yg (zc hr) pv3 pv1)))))
     (bO gZ)
     cF)
    (bO (N6 (zc hr) pv1 pv3 (cu Lk T.gH PySem.boot_len (bF pv1)) rfl)))))
   (bO (cg pv1)))),?_⟩
  unfold Al
  walk_at "rd"
  refine λd hd=>eN ?_
  walk_at "rd"
  have ld:l≠d:=bH hl hd;refine⟨xs,(bL ld).trans hl,nJ l d rs H,⟨none,none,rfl,Same.upd hd,bG⟩,?_,?_⟩
  .rintro k x σ' H' hk ⟨u,v,rfl,S1,h1⟩ hl';have lk:k<rs.length:=by rw[<- ra.len];exact(ao.mp hk).1
   have e:rs[k]?=some rs[k]:=aj lk;have hm:=aW lk;obtain⟨t,dv,a,b⟩:=ra.at_ k _ e;rw[hk]at a;cases a;have hw:=wd _ hm;have no:rs[k]∉rs.take k:=by exact I8 nd e
   generalize rs[k]=n at *
   walk_at "rd"
   have l9:=hw.hi;refine⟨_,S1 _ _ b,_,cY,.inl ⟨n,rfl,aM l9 (by decide),?_⟩⟩;rw[ZZ (by rw[hw.word];decide)];refine⟨_,wV.k (k:=.inr n) h1,?_⟩;rw[Vv no,ZZ (by decide)];have hlen:(Eb (rs.take k)).length<sizeLine:=by
    have h9:21<sizeLine:=by decide
    rw[G_,bw];lia
   refine⟨d,_,rfl,h1,_,Vf.k (k:=.inr n) h1 hlen,(bL ld).trans hl',_,_,rfl,λb' o' e'=>(bL (bH e' hd)).trans (S1 _ _ e'),?_⟩;rw[bG,G_,YG no,cj e]
  .rintro σ' H' ⟨u,v,rfl,S1,h1⟩ _;rw[ra.len,aQ]at h1
   walk_at "rd"
   exact q d H' S1 hd h1
structure NWs(ns:Β)(H:Hp)(zs:Μ)(ws:List (Str×Addr)):Prop where
 len:zs.length=ws.length
 at_:∀(k:Nat)(g:Str×Addr),ws[k]?=some g->∃t i,zs[k]?=some (.ref t)/\ns[i]?=some g.1/\H t=some (.tup [.int (i:Nat),.ref g.2])
theorem NWs.imp{ns:Β}{H H':Hp}{zs:Μ}{ws:List (Str×Addr)}(h':∀t ys,H t=some (.tup ys)->H' t=some (.tup ys))(h:NWs ns H zs ws):NWs ns H' zs ws:=⟨h.len,λk g e=>let⟨t,i,a,b,c⟩:=h.at_ k g e;⟨t,i,a,b,h' _ _ c⟩⟩
theorem NWs.snoc{ns:Β}{H:Hp}{zs:Μ}{ws:List (Str×Addr)}{t:Addr}{i:Nat}{g:Str×Addr}(h:NWs ns H zs ws)(hi:ns[i]?=some g.1)(ht:H t=some (.tup [.int (i:Nat),.ref g.2])):NWs ns H (zs++[.ref t]) (ws++[g]):=by
 refine⟨by rw[aA,aA,h.len];rfl,λk g' e=>?_⟩;by_cases hk:k<ws.length
 .rw[aF hk]at e;obtain⟨t',i',a,b,c⟩:=h.at_ k g' e;exact⟨t',i',by rw[aF (by rw[h.len];exact hk)];exact a,b,c⟩
 .rw[aD (Nat.le_of_not_lt hk)]at e;have e0:k-ws.length=0:=by
   have:=(ao.mp e).1;simp at this;omega
  rw[e0]at e;cases e;refine⟨t,i,?_,hi,ht⟩;rw[aD (by rw[h.len];exact Nat.le_of_not_lt hk),h.len,e0];rfl
def tW(D:Adr):Sp:=λvs H Q _=>∃(s n C dx p l:Addr)(nm:Str)(xs:Μ)(ws:List (Str×Addr))(ns:Β),vs=[.ref s,.ref n]/\fW D C/\H s=some (.ins C dx [("name",.str nm),("pay",.ref p),("leads",.ref l)])/\H l=some (.lst xs)/\W0 H xs ws/\ws.length<=100/\H n=some (.dK (Eb ns))/\ns.Nodup/\(∀g∈ws,g.1∈ns) /\
 ∀r H' zs,Same H H'->H r=none->H' r=some (.lst zs)->NWs ns H' zs ws->Q (.ref r) H'
def nwJ(s n r:Addr)(ns:Β)(ws:List (Str×Addr))(H:Hp)(k:Nat)(σ:L2.St)(H':Hp):Prop:=∃u v zs,σ=[some (.ref s),some (.ref n),some (.ref r),u,v]/\Same H H'/\H' r=some (.lst zs)/\NWs ns H' zs (ws.take k)
theorem Dv(F:Fun K jU jU oZ f fd)(T:Txt K mg D)(wY:OkI P w K mg base CX0 1 D.Door_ways ql (Ax D)):cJ P w K mg base CX0 2 f fd jT (tW D):=by
 refine F.ok jL ?_ ?_
 .rintro _ _ _ _ ⟨d,n,C,dx,p,l,nm,xs,ws,ns,rfl,_⟩;rfl
 .rintro cdv A outer s H _ Q E hr ⟨d,n,C,dx,p,l,nm,xs,ws,ns,rfl,hC,hs,hl,hw,n100,hn,nd,hin,q⟩;refine⟨_,(bI (bZ (i:=2) jL.nd (jw oW))
   (bI (fL PassesOwn.never rfl (cV ((PE.any λC(hC:fW D C)=>(yr pv0 (T.cl C hC.fam) (T.Lz C hC) wY hr.md))).mono) (gJ (n:=2) rfl (cG (cB (i:=3) jL.nd) (cG (cB (i:=4) jL.nd) fX)))
    (bI (cW (U6 (X5 (zc hr) pv3 pv1))
     (bO gZ)
     cF)
    (bO (cX (su pv2 (bF (gO (bF (Mg (zc hr) pv1 pv3 (λ_ _=>rfl)) (bF pv4)))))))))
   (bO (cg pv2)))),?_⟩
  refine⟨by decide,λr hrn=>?_⟩;dsimp only[cQ,ur];refine eN ?_;have sr:∀{b o},H b=some o->(upd H r (.lst [])) b=some o:=λ{b o}e=>(bL (bH e hrn)).trans e;refine⟨C,hC,_,rfl,_,dx,_,rfl,sr hs,rfl,_,nm,p,l,xs,rfl,⟨C,dx,hC.fam,sr hs⟩,sr hl,by rw[hw.len];exact n100,λr2 hr2=>⟨r2,xs,rfl,bG,nwJ d n r ns ws H,?_,?_,?_⟩⟩
  .have rr:r≠r2:=bH bG hr2;refine⟨none,none,[],rfl,λb o e=>(bL (bH (sr e) hr2)).trans (sr e),(bL rr).trans bG,rfl,λk g e=>by simp at e⟩
  .rintro k x σ' H' hk ⟨u,v,zs,rfl,S1,h1,nw⟩ hx;have lk:k<ws.length:=by rw[<- hw.len];exact(ao.mp hk).1
   have e:ws[k]?=some ws[k]:=aj lk;have hm:=hin _ (aW lk);obtain⟨t,a,b⟩:=hw.at_ k _ e;rw[hk]at a;cases a;generalize ws[k]=g at *;obtain⟨m,c⟩:=g;obtain⟨i,hi⟩:=aX hm;have rr:r≠r2:=bH bG hr2;have vl:qW (Eb ns) (.inr m)=some (.int ((0+i:Nat):Int)):=Qi nd hi;have dg:wV H' n (kV (.inr m)) (some (.int ((0+i:Nat):Int))):=vl ▸ wV.k (k:=.inr m) (S1 _ _ hn);refine⟨_,_,rfl,S1 _ _ b,rfl,_,_,rfl,_,_,rfl,rfl,_,rfl,_,rfl,_,_,rfl,dg,_,rfl,_,rfl,_,_,rfl,h1,_,rfl,_,rfl,_,_,rfl,dg,_,rfl,fQ,λp hp=>?_⟩;have rp:r≠p:=bH h1 hp;have zl:zs.length<sizeLine:=by
    have h9:101<sizeLine:=by decide
    rw[nw.len,bw];lia
   refine⟨_,zs,rfl,(bL rp).trans h1,zl,(bL rr.symm).trans ((bL (bH hx hp)).trans hx),_,_,_,rfl,λb' o' e'=>(bL (bH e' hrn)).trans ((bL (bH (S1 _ _ e') hp)).trans (S1 _ _ e')),bG,?_⟩;rw[cj e];refine(nw.imp λt ys e'=>?_).snoc hi ?_
   .rw[bL (d8 e' h1),bL (bH e' hp)];exact e'
   .rw[bL rp.symm,bG,Nat.zero_add]
  .rintro σ' H' ⟨u,v,zs,rfl,S1,h1,nw⟩ hx;rw[hw.len,aQ]at nw;exact⟨_,rfl,q r H' zs S1 hrn h1 nw⟩
noncomputable def del(as:Ε)(H:Hp):Hp:=λb=>if b∈as then none else H b
theorem je{as:Ε}{H:Hp}{b:Addr}{o:HO}(h:b∉as)(e:H b=some o):del as H b=some o:=by unfold del;rw[ZZ h];exact e
theorem sS{as:Ε}{H:Hp}{b:Addr}{o:HO}(e:del as H b=some o):b∉as/\H b=some o:=by
 unfold del at e;split at e
 .cases e
 .exact⟨by assumption,e⟩
theorem wM{as:Ε}{H:Hp} : Same (del as H) H:=λb o e=>(sS e).2
theorem tH{as:Ε}{H H':Hp}(h:∀b o,b∉as->H b=some o->H' b=some o):Same (del as H) (del as H'):=λb o e=>let⟨a,c⟩:=sS e;je a (h b o a c)
structure Dr where
 nm:Str
 p:Addr
 ws:List (Str×Addr)
def ZV(D:Adr)(H:Hp)(s:Addr)(g:Dr):Prop:=∃C dx l xs,fW D C/\H s=some (.ins C dx [("name",.str g.nm),("pay",.ref g.p),("leads",.ref l)])/\H l=some (.lst xs)/\W0 H xs g.ws/\g.ws.length<=100
theorem ZV.same{H H':Hp}{s:Addr}{g:Dr}(S:Same H H')(h:ZV D H s g):ZV D H' s g:=by obtain⟨C,dx,l,xs,a,b,c,d,e⟩:=h;exact⟨C,dx,l,xs,a,S _ _ b,S _ _ c,d.same S,e⟩
structure zM(D:Adr)(H:Hp)(xs:Μ)(gs:List Dr):Prop where
 len:xs.length=gs.length
 at_:∀(k:Nat)(g:Dr),gs[k]?=some g->∃s,xs[k]?=some (.ref s)/\ZV D H s g
theorem zM.same{H H':Hp}{xs:Μ}{gs:List Dr}(S:Same H H')(h:zM D H xs gs):zM D H' xs gs:=⟨h.len,λk g e=>let⟨s,a,b⟩:=h.at_ k g e;⟨s,a,b.same S⟩⟩
structure rO(ns:Β)(H:Hp)(zs:Μ)(gs:List Dr):Prop where
 len:zs.length=gs.length
 at_:∀(k:Nat)(g:Dr),gs[k]?=some g->∃t r ys,zs[k]?=some (.ref t)/\H t=some (.tup [.str g.nm,.ref g.p,.ref r])/\H r=some (.lst ys)/\NWs ns H ys g.ws
theorem rO.same{ns:Β}{H H':Hp}{zs:Μ}{gs:List Dr}(S:Same H H')(h:rO ns H zs gs):rO ns H' zs gs:=⟨h.len,λk g e=>let⟨t,r,ys,a,b,c,d⟩:=h.at_ k g e;⟨t,r,ys,a,S _ _ b,S _ _ c,d.imp λ_ _ z=>S _ _ z⟩⟩
theorem rO.snoc{ns:Β}{H:Hp}{zs ys:Μ}{gs:List Dr}{t r:Addr}{g:Dr}(h:rO ns H zs gs)(ht:H t=some (.tup [.str g.nm,.ref g.p,.ref r]))(hr:H r=some (.lst ys))(hn:NWs ns H ys g.ws):rO ns H (zs++[.ref t]) (gs++[g]):=by
 refine⟨by rw[aA,aA,h.len];rfl,λk g' e=>?_⟩;by_cases hk:k<gs.length
 .rw[aF hk]at e;obtain⟨t',r',ys',a,b⟩:=h.at_ k g' e;exact⟨t',r',ys',by rw[aF (by rw[h.len];exact hk)];exact a,b⟩
 .rw[aD (Nat.le_of_not_lt hk)]at e;have e0:k-gs.length=0:=by
   have:=(ao.mp e).1;simp at this;omega
  rw[e0]at e;cases e;refine⟨t,r,ys,?_,ht,hr,hn⟩;rw[aD (by rw[h.len];exact Nat.le_of_not_lt hk),h.len,e0];rfl
noncomputable def Js(ns:Β):List (Key×V):=ns.map λn=>(.inr n,.bl true)
theorem acr{n:Str}{ns:Β}(h:n∉ns):qW (Js ns) (.inr n)=none:=by
 unfold qW;rw[List.find?_eq_none.mpr]
 .rfl
 .intro kv hk z;unfold Js at hk;obtain⟨m,hm,rfl⟩:=YV.mp hk;have z:(Sum.inr m:Key)=.inr n:=of_decide_eq_true z;injection z with z;exact h (z ▸ hm)
theorem Zr{n:Str}{ns:Β}(h:n∉ns):putK (Js ns) (.inr n) (.bl true)=Js (ns++[n]):=by
 have a:((Js ns).any λkv=>decide (kv.1=.inr n))=false:=by
  rw[List.any_eq_false];intro kv hk z;unfold Js at hk;obtain⟨m,hm,rfl⟩:=YV.mp hk;have z:(Sum.inr m:Key)=.inr n:=of_decide_eq_true z;injection z with z;exact h (z ▸ hm)
 unfold putK;rw[a,ZZ (by decide)];unfold Js;rw[bC];rfl
def V7(H:Hp)(as:Ε):Prop:=∀a∈as,∃u,H a=some u/\∀ys,u≠.tup ys
def C_(D:Adr):Sp:=λvs H Q _=>∃(l n:Addr)(xs:Μ)(gs:List Dr)(ns:Β),vs=[.ref l,.ref n]/\H l=some (.lst xs)/\zM D H xs gs/\gs.length<=100/\(gs.map (·.nm)).Nodup/\H n=some (.dK (Eb ns))/\ns.Nodup/\(∀g∈gs,∀z∈g.ws,z.1∈ns) /\
 ∀r H' zs,Same H H'->H r=none->H' r=some (.lst zs)->(∀as,V7 H as->rO ns (del as H') zs gs)->Q (.ref r) H'
def oJ(l n d r:Addr)(ns:Β)(gs:List Dr)(H:Hp)(k:Nat)(σ:L2.St)(H':Hp):Prop:=∃u zs,σ=[some (.ref l),some (.ref n),some (.ref d),some (.ref r),u]/\Same H H'/\H' d=some (.dK (Js ((gs.take k).map (·.nm))))/\H' r=some (.lst zs)/\∀as,V7 H as->rO ns (del (d::r::as) H') zs (gs.take k)
theorem Ph(F:Fun K pW pW xW f fd)(T:Txt K mg D)(o9:OkF P w K mg base 2 jU jT (tW D)):cJ P w K mg base CX0 3 f fd pX (C_ D):=by
 refine F.ok qm ?_ ?_
 .rintro _ _ _ _ ⟨l,n,xs,gs,ns,rfl,_⟩;rfl
 .rintro cdv A outer s H _ Q E hr ⟨l,n,xs,gs,ns,rfl,hl,dr,n100,ndg,hn,nd,hin,q⟩;refine⟨_,(bI (bZ (i:=2) qm.nd H_)
   (bI (bZ (i:=3) qm.nd (jw oW))
   (bI (fL PassesOwn.never rfl (cV (pv 0).mono) (cB (i:=4) qm.nd)
    (bI (cW (U6 (Yg (zc hr) (sV pv4 rfl) pv2))
     (bO gZ)
     cF)
    (bI (N6 (zc hr) pv2 (sV pv4 rfl) vh rfl)
    (bO (cX (su pv3 (bF (gO (bF (sV pv4 rfl) (bF (sV pv4 rfl) (bF (bR o9 hr.md (bF pv4 (bF pv1))))))))))))))
   (bO (cg pv3))))),?_⟩
  refine λd hd=>⟨by decide,λr hrn=>eN ?_⟩;have dr0:d≠r:=bH bG hrn;have hrn':H r=none:=(bL dr0.symm).symm.trans hrn;have st:Same H (upd (upd H d (.dK [])) r (.lst [])):=λb o e=>(bL (bH e hrn')).trans ((bL (bH e hd)).trans e);refine⟨_,rfl,l,xs,rfl,st _ _ hl,oJ l n d r ns gs H,⟨none,[],rfl,st,(bL dr0).trans bG,bG,λas _=>⟨rfl,λk g e=>by simp at e⟩⟩,?_,?_⟩
  .rintro k x σ' H' hk ⟨u,zs,rfl,S1,h1,h2,of_⟩ hx;have lk:k<gs.length:=by rw[<- dr.len];exact(ao.mp hk).1
   have e:gs[k]?=some gs[k]:=aj lk;have hm:=hin _ (aW lk);obtain⟨t,a,b⟩:=dr.at_ k _ e;rw[hk]at a;cases a;have no:gs[k].nm∉(gs.take k).map (·.nm):=by
    rw[List.map_take];exact I8 ndg (by rw[aq,e];rfl)
   generalize gs[k]=g at *;obtain⟨C,dx,ll,ys,hC,hs,hll,hw,w100⟩:=b.same S1;refine⟨_,rfl,_,C,dx,_,_,rfl,hs,T.cl C hC.fam,T.Gn C hC.fam,rfl,_,rfl,_,_,rfl,wV.k (k:=.inr g.nm) h1,_,rfl,?_⟩;rw[acr no];have hlen:(Js ((gs.take k).map (·.nm))).length<sizeLine:=by
    have h9:101<sizeLine:=by decide
    unfold Js;rw[ak,ak,bw];lia
   have up:∀{b o},b≠d->H' b=some o->upd H' d (.dK (putK (Js ((gs.take k).map (·.nm))) (.inr g.nm) (.bl true))) b=some o:=λ{b o}h e=>(bL h).trans e;have td:t≠d:=d8 hs h1;have ld:ll≠d:=d8 hll h1;have nd_:n≠d:=bH hn hd;refine⟨_,rfl,_,rfl,_,C,dx,_,_,rfl,hs,T.cl C hC.fam,T.Gn C hC.fam,rfl,_,_,rfl,Vf.k (k:=.inr g.nm) h1 hlen,_,rfl,_,zs,rfl,up dr0.symm h2,_,rfl,_,C,dx,_,_,rfl,up td hs,T.cl C hC.fam,T.Gn C hC.fam,rfl,_,rfl,_,C,dx,_,_,rfl,up td hs,T.cl C hC.fam,T.Zm C hC.fam,rfl,_,rfl,_,rfl,_,_,C,_,_,_,_,ys,g.ws,ns,rfl,hC,up td hs,up ld hll,⟨hw.len,λk g e=>let⟨t,a,b⟩:=hw.at_ k g e;⟨t,a,up (d8 b h1) b⟩⟩,w100,up nd_ (S1 _ _ hn),nd,hm,?_⟩;intro r3 H3 z3 S3 f3 e3 w3;refine⟨show 3<=sizeLine by decide,λp hp=>?_⟩;have lr:l≠r:=bH hl hrn';have ld0:l≠d:=bH hl hd;have a1:=S3 _ _ (up dr0.symm h2);have a2:=S3 d _ bG;have rp:r≠p:=bH a1 hp;have dp:d≠p:=bH a2 hp;have a3:=S3 _ _ (up ld0 hx);have zl:zs.length<sizeLine:=by
    have h9:101<sizeLine:=by decide
    rw[(of_ [] (by intro a ha;cases ha)).len,bw];lia
   have r3p:r3≠p:=bH e3 hp;refine⟨_,zs,rfl,(bL rp).trans a1,zl,(bL lr).trans ((bL (bH a3 hp)).trans a3),_,_,rfl,λb o e'=>?_,?_,bG,?_⟩
   .have c:=S3 _ _ (up (bH e' hd) (S1 _ _ e'));rw[bL (bH e' hrn'),bL (bH c hp)];exact c
   .rw[bL dr0,bL dp,a2,Zr no,cj e,bC];rfl
   .intro as has;have r3n:r3∉d::r::as:=by
     simp only[YU,not_or];refine⟨λz=>(by rw[z,bG]at f3;cases f3),λz=>(by rw[z,up dr0.symm h2]at f3;cases f3),λz=>?_⟩;obtain⟨u,hu,_⟩:=has _ z;rw[up (bH hu hd) (S1 _ _ hu)]at f3;cases f3
    have asp:∀a∈as,∃u,H3 a=some u/\∀ys,u≠.tup ys:=λa ha=>let⟨u,hu,n⟩:=has a ha;⟨u,S3 _ _ (up (bH hu hd) (S1 _ _ hu)),n⟩;have pn:p∉d::r::as:=by
     simp only[YU,not_or];exact⟨dp.symm,rp.symm,λz=>let⟨u,hu,_⟩:=asp _ z;bH hu hp rfl⟩
    have u2:∀{b o},b∉d::r::as->(upd H3 p (.tup [.str g.nm,.ref g.p,.ref r3])) b=some o->del (d::r::as) (upd (upd H3 p (.tup [.str g.nm,.ref g.p,.ref r3])) r (.lst (zs++[.ref p]))) b=some o:=λ{b o}h e=>je h ((bL (by simp only[YU,not_or]at h;exact h.2.1)).trans e);rw[cj e];refine((of_ as has).same λb o e'=>?_).snoc (u2 pn bG) (u2 r3n ((bL r3p).trans e3)) (w3.imp λt ys e'=>?_)
    .obtain⟨b1,b2⟩:=sS e';have c:=S3 _ _ (up (by simp only[YU,not_or]at b1;exact b1.1) b2);exact u2 b1 ((bL (bH c hp)).trans c)
    .refine u2 ?_ ((bL (bH e' hp)).trans e');simp only[YU,not_or];exact⟨d8 e' a2,d8 e' a1,λz=>let⟨u,hu,n⟩:=asp _ z;n _ (Option.some.inj (hu.symm.trans e'))⟩
  .rintro σ' H' ⟨u,zs,rfl,S1,h1,h2,of_⟩ hx;rw[dr.len,aQ]at of_
   walk_at "rd"
   exact q r H' zs S1 hrn' h2 λas has=>(of_ as has).same λb o e=>let⟨a,c⟩:=sS e;je (λz=>a (aJ _ (aJ _ z))) c
structure nG(D:Adr)(H:Hp)(xs:Μ)(rms:List (Str×List Dr)):Prop where
 len:xs.length=rms.length
 at_:∀(k:Nat)(g:Str×List Dr),rms[k]?=some g->∃t l ys,xs[k]?=some (.ref t)/\H t=some (.tup [.str g.1,.ref l])/\H l=some (.lst ys)/\zM D H ys g.2
theorem nG.rooms{H:Hp}{xs:Μ}{rms:List (Str×List Dr)}(h:nG D H xs rms):Vw H xs (rms.map (·.1)):=⟨by rw[h.len,ak],λk n e=>by
 rw[aq]at e;cases e0:rms[k]? with
 |none=>rw[e0]at e;cases e
 |some g =>
  rw[e0]at e;cases e;obtain⟨t,l,ys,a,b,_⟩:=h.at_ k g e0;exact⟨t,_,a,b⟩⟩
theorem nG.same{H H':Hp}{xs:Μ}{rms:List (Str×List Dr)}(S:Same H H')(h:nG D H xs rms):nG D H' xs rms:=⟨h.len,λk g e=>let⟨t,l,ys,a,b,c,d⟩:=h.at_ k g e;⟨t,l,ys,a,S _ _ b,S _ _ c,d.same S⟩⟩
structure xG(ns:Β)(H:Hp)(zs:Μ)(gss:List (List Dr)):Prop where
 len:zs.length=gss.length
 at_:∀(k:Nat)(gs:List Dr),gss[k]?=some gs->∃l ys,zs[k]?=some (.ref l)/\H l=some (.lst ys)/\rO ns H ys gs
theorem xG.same{ns:Β}{H H':Hp}{zs:Μ}{gss:List (List Dr)}(S:Same H H')(h:xG ns H zs gss):xG ns H' zs gss:=⟨h.len,λk g e=>let⟨l,ys,a,b,c⟩:=h.at_ k g e;⟨l,ys,a,S _ _ b,c.same S⟩⟩
theorem xG.snoc{ns:Β}{H:Hp}{zs ys:Μ}{gss:List (List Dr)}{l:Addr}{gs:List Dr}(h:xG ns H zs gss)(hl:H l=some (.lst ys))(ho:rO ns H ys gs):xG ns H (zs++[.ref l]) (gss++[gs]):=by
 refine⟨by rw[aA,aA,h.len];rfl,λk g' e=>?_⟩;by_cases hk:k<gss.length
 .rw[aF hk]at e;obtain⟨l',ys',a,b⟩:=h.at_ k g' e;exact⟨l',ys',by rw[aF (by rw[h.len];exact hk)];exact a,b⟩
 .rw[aD (Nat.le_of_not_lt hk)]at e;have e0:k-gss.length=0:=by
   have:=(ao.mp e).1;simp at this;omega
  rw[e0]at e;cases e;refine⟨l,ys,?_,hl,ho⟩;rw[aD (by rw[h.len];exact Nat.le_of_not_lt hk),h.len,e0];rfl
theorem DW{H:Hp}{o b C0 dx0:Addr}{u:HO}(ho:H o=some (.ins C0 dx0 []))(e:H b=some u)(n:u≠.ins C0 dx0 []):del [o] H b=some u:=je (by simp only[YR];exact d8 e ho n) e
theorem nG.off{H:Hp}{o C0 dx0:Addr}{xs:Μ}{rms:List (Str×List Dr)}(ho:H o=some (.ins C0 dx0 []))(h:nG D H xs rms):nG D (del [o] H) xs rms:=⟨h.len,λk g e=>by
 obtain⟨t,l,ys,a,b,c,d⟩:=h.at_ k g e;refine⟨t,l,ys,a,DW ho b (by intro z;cases z),DW ho c (by intro z;cases z),d.len,λk g e=>?_⟩;obtain⟨s,a,C,dx,l,xs,h1,h2,h3,h4,h5⟩:=d.at_ k g e;exact⟨s,a,C,dx,l,xs,h1,DW ho h2 (by intro z;injection z with _ _ z;cases z),DW ho h3 (by intro z;cases z),⟨h4.len,λk g e=>let⟨t,a,b⟩:=h4.at_ k g e;⟨t,a,DW ho b (by intro z;cases z)⟩⟩,h5⟩⟩
structure Km(rms:List (Str×List Dr)):Prop where
 len:rms.length<=20
 nd:(rms.map (·.1)).Nodup
 wd:∀g∈rms,Wd g.1
 few:∀g∈rms,g.2.length<=100
 dn:∀g∈rms,(g.2.map (·.nm)).Nodup
 to_:∀g∈rms,∀d∈g.2,∀z∈d.ws,z.1∈rms.map (·.1)
def j5(D:Adr)(H:Hp)(a p:Addr)(rms:List (Str×List Dr)):Prop:=∃dx n l zs,H a=some (.ins D.Hall dx [("share",.ref p),("numbers",.ref n),("offered",.ref l)])/\H n=some (.dK (Eb (rms.map (·.1))))/\H l=some (.lst zs)/\xG (rms.map (·.1)) H zs (rms.map (·.2))
theorem j5.same{H H':Hp}{a p:Addr}{rms:List (Str×List Dr)}(S:Same H H')(h:j5 D H a p rms):j5 D H' a p rms:=by obtain⟨dx,n,l,zs,b,c,d,e⟩:=h;exact⟨dx,n,l,zs,S _ _ b,S _ _ c,S _ _ d,e.same S⟩
inductive yd(K:Frag)(D:Adr)(vs:Μ)(H:Hp)(Q:VK):Prop
 |mk (o dx p l:Addr) (x y:Int) (xs:Μ) (rms:List (Str×List Dr)) (h0:vs=[.ref o,.ref p,.ref l]) (h1:H o=some (.ins D.Hall dx [])) (h2:Fk K H p x y) (h3:0<=x) (h4:x<y) (h5:Bd x) (h6:Bd y) (h7:H l=some (.lst xs)) (h8:nG D H xs rms) (h9:Km rms) (h10:∀H',Keep o H H'->j5 D H' o p rms->Q .non H'):yd K D vs H Q
def Cv(K:Frag)(D:Adr):Sp:=λvs H Q _=>yd K D vs H Q
def hJ(o D1:Addr)(rms:List (Str×List Dr))(H:Hp)(k:Nat)(zs:Μ)(H':Hp):Prop:=Same H H'/\H' D1=some (.lst zs)/\xG (rms.map (·.1)) (del [o,D1] H') zs ((rms.take k).map (·.2))
theorem Ov(F:Fun K BZ Di rD f fd)(T:Txt K mg D)(rZ:OkF P w K mg base 3 mY mG (vQ (K:=K)))(uo:OkF P w K mg base 2 nR nY yX)(wU:OkF P w K mg base 3 pW pX (C_ D)):cJ P w K mg base CX0 4 f fd pU (Cv K D):=by
 refine F.ok Nv ?_ ?_
 .rintro _ _ _ _ ⟨o,dx,p,l,x,y,xs,rms,rfl,_⟩;rfl
 .rintro cdv A outer s H _ Q E hr ⟨o,dx,p,l,x,y,xs,rms,rfl,ho,fk,x0,xy,bx,b_y,hl,hR,ok,q⟩;refine⟨_,(bI (cX (bR rZ hr.md (bF pv1)))
   (bI (xR pv0 pv1 rfl)
   (bI (xR pv0 (bR uo hr.md (bF pv2)) rfl)
   (bO (xR pv0 (kJ (bQ rD) xT xT ["room"] (cV (pv 2).mono) (dH (i:=0)) cU (bR wU hr.md (bF (bT cA pv0 bK) (bF (abV (K':=K) rfl pv1 rfl))))) rfl))))),?_⟩
  have hR0:=hR.off ho;have hl0:del [o] H l=some (.lst xs):=DW ho hl (by intro z;cases z);have S1:∀u,Same (del [o] H) (upd H o u):=λu b v e=>by
   obtain⟨b1,b2⟩:=sS e;exact(bL (by simpa using b1)).trans b2
  have cl:=T.tK;refine⟨_,rfl,_,x,y,rfl,fk,x0,xy,bx,b_y,_,rfl,_,rfl,_,D.Hall,dx,[],rfl,ho,cl,T.sH,(by show 0<1000;decide),_,rfl,_,xs,_,rfl,S1 _ _ _ hl0,(hR0.same (S1 _)).rooms,ok.nd,λg hg=>?_,by rw[ak];exact ok.len,λd H2 S2 f2 e2=>?_⟩
  .obtain⟨g',hg',rfl⟩:=YV.mp hg;exact ok.wd g' hg'
  have od:d≠o:=λz=>by rw[z,bG]at f2;cases f2
  refine⟨_,rfl,_,D.Hall,dx,_,rfl,S2 _ _ bG,cl,T.oY,(by show 1<1000;decide),?_⟩;dsimp only[aeV];refine cM ?_;have S3:∀u,Same (del [o] H) (upd H2 o u):=λu b v e=>(bL (by have:=(sS e).1;simpa using this)).trans (S2 _ _ (S1 _ _ _ e));have hz9:21<sizeLine:=by decide
  have n20:=ok.len;refine⟨_,rfl,l,xs,rfl,S3 _ _ _ hl0,by rw[hR.len];exact aM n20 (by decide),λD1 hD1=>?_⟩;have eo:upd H2 o (.ins D.Hall dx (mJ "numbers" (.ref d) (mJ "share" (.ref p) []))) o=some (.ins D.Hall dx [("share",.ref p),("numbers",.ref d)]):=bG;have ed:upd H2 o (.ins D.Hall dx (mJ "numbers" (.ref d) (mJ "share" (.ref p) []))) d=some (.dK (Eb (rms.map (·.1)))):=(bL od).trans e2;have S4:=S3 (.ins D.Hall dx (mJ "numbers" (.ref d) (mJ "share" (.ref p) [])));generalize upd H2 o (.ins D.Hall dx (mJ "numbers" (.ref d) (mJ "share" (.ref p) [])))=H3 at eo ed S4 hD1 ⊢;have oD:o≠D1:=bH eo hD1;refine⟨hJ o D1 rms H3,⟨Same.upd hD1,bG,rfl,λk g e=>by simp at e⟩,?_,?_⟩
  .rintro k x1 ys Hc hk ⟨S5,h5,of_⟩ hy hlc;have lk:k<rms.length:=by rw[<- hR.len];exact(ao.mp hk).1
   have e:rms[k]?=some rms[k]:=aj lk;have hm:=aW lk;obtain⟨t,ll,ds,a,b,c,dd⟩:=(hR0.same (S4.trans S5)).at_ k _ e;rw[hk]at a;cases a;generalize rms[k]=g at *;refine⟨_,rfl,_,_,_,_,rfl,rfl,b,cR,_,rfl,_,D.Hall,dx,_,_,rfl,S5 _ _ eo,cl,T.oY,rfl,_,_,ds,g.2,_,rfl,c,dd,ok.few g hm,ok.dn g hm,S5 _ _ ed,ok.nd,ok.to_ g hm,?_⟩;intro r H4 zs S6 f6 e6 o6;have h4:=S6 _ _ h5;have ho4:=S6 _ _ (S5 _ _ eo);refine⟨h4,S6 _ _ hlc,λb v e'=>?_,bG,?_⟩
   .exact(bL (bH e' hD1)).trans (S6 _ _ (S5 _ _ e'))
   .have ee:del [o,D1] (upd H4 D1 (.lst (ys++[.ref r])))=del [o,D1] H4:=by
     funext b
     unfold del;split
     .rfl
     .rename_i hb
      exact bL (by simp at hb;exact hb.2)
    rw[ee,cj e,bC];refine(of_.same (tH λb v _ e'=>S6 _ _ e')).snoc (je ?_ e6) (o6 [o,D1] ?_)
    .simp only[YU,List.not_mem_nil,or_false,not_or];exact⟨λz=>(by rw[z,S5 _ _ eo]at f6;cases f6),λz=>(by rw[z,h5]at f6;cases f6)⟩
    .intro a ha;simp only[YU,List.not_mem_nil,or_false]at ha;rcases ha with rfl|rfl
     .exact⟨_,S5 _ _ eo,by intro ys z;cases z⟩
     .exact⟨_,h5,by intro ys z;cases z⟩
  .rintro ys Hc ⟨S5,h5,of_⟩ hy;rw[hR.len,aQ]at of_;refine⟨_,rfl,_,D.Hall,dx,_,rfl,S5 _ _ eo,cl,T.uU,(by show 2<1000;decide),q _ (λb v nb e=>?_) ⟨dx,d,D1,ys,bG,(bL (λz=>od (by rw[z]))).trans (S5 _ _ ed),(bL oD.symm).trans h5,of_.same λb v e=>?_⟩⟩
   .exact(bL nb).trans (S5 _ _ (S4 _ _ (je (by simpa using nb) e)))
   .obtain⟨b1,b2⟩:=sS e;exact(bL (by simp at b1;exact b1.1)).trans b2
def mL(D:Adr):Sp:=λvs H Q _=>∃(o p:Addr)(rms:List (Str×List Dr)),vs=[.ref o]/\j5 D H o p rms/\Q (.int rms.length) H
theorem Pg(F:Fun K Ar CQ vA f fd)(T:Txt K mg D):cJ P w K mg base CX0 1 f fd jZ (mL D):=by
 refine F.ok Od ?_ ?_
 .rintro _ _ _ _ ⟨o,p,rms,rfl,_⟩;rfl
 .rintro cdv A outer s H _ Q E hr ⟨o,p,rms,rfl,⟨dx,n,l,zs,ho,hn,hl,of_⟩,q⟩;refine⟨_,(bO (cg (cu Lk T.gH PySem.boot_len (bF (sV pv0 rfl))))),?_⟩
  walk_at "rd"
  refine⟨D.Hall,dx,_,ho,T.tK,T.oY,_,rfl,n,_,rfl,hn,?_⟩;rw[G_,ak];exact q
def oO(D:Adr):Sp:=λvs H Q _=>∃(o p:Addr)(k:Nat)(rms:List (Str×List Dr)),vs=[.ref o,.int k]/\j5 D H o p rms/\k<rms.length/\Q .non H
theorem zU(F:Fun K qU qK lY f fd)(T:Txt K mg D)(dY:OkF P w K mg base 1 jA jq oV)(gU:OkI P w K mg base CX0 1 D.Hall_size jZ (mL D)): cJ P w K mg base CX0 2 f fd gC (oO D):=by
 refine F.ok Ab ?_ ?_
 .rintro _ _ _ _ ⟨o,p,k,rms,rfl,_⟩;rfl
 .rintro cdv A outer s H _ Q E hr ⟨o,p,k,rms,rfl,hh,lk,q⟩;refine⟨_,(bO (cW (PW.pt (pw_or (fU (fj (bR dY hr.md (bF pv1)))) (pw_or1 (fU (QW Qd Bc bK pv1 (PE.any λC(hC:eV D C)=>(yr pv0 (T.cl C hC.fam) (T.um C hC) gU hr.md)))))))
    (bO gZ)
    cF)),?_⟩
  unfold oV mL
  walk_at "rd"
  obtain⟨dx,n,l,zs,ho,hn,hl,of_⟩:=hh;rw[ZY (by simp)];refine⟨D.Hall,(by unfold eV;simp),dx,_,ho,rfl,p,rms,⟨dx,n,l,zs,ho,hn,hl,of_⟩,?_⟩;rw[ZZ (by simp;omega)];exact q
def fJ(D1:Addr)(ns:Β)(gs:List Dr)(H:Hp)(k:Nat)(zs:Μ)(H':Hp):Prop:=Same H H'/\H' D1=some (.lst zs)/\∀as,V7 H as->rO ns (del (D1::as) H') zs (gs.take k)
def qL(D:Adr):Sp:=λvs H Q _=>∃(o p:Addr)(k:Nat)(rms:List (Str×List Dr))(g:Str×List Dr),vs=[.ref o,.int k]/\j5 D H o p rms/\rms[k]?=some g/\g.2.length<=100/\(∀d∈g.2,d.ws.length<=100) /\
 ∀r H' zs,Same H H'->H r=none->H' r=some (.lst zs)->(∀as,V7 H as->rO (rms.map (·.1)) (del as H') zs g.2)->Q (.ref r) H'
theorem Gr(F:Fun K xM xP oU f fd)(T:Txt K mg D)(fH:OkI P w K mg base CX0 2 D.Hall_check_room gC (oO D)): cJ P w K mg base CX0 3 f fd jH (qL D):=by
 refine F.ok Hs ?_ ?_
 .rintro _ _ _ _ ⟨o,p,k,rms,g,rfl,_⟩;rfl
 .rintro cdv A outer s H _ Q E hr ⟨o,p,k,rms,g,rfl,hh,hg,g100,w100,q⟩;refine⟨_,(bI (cX (PE.any λC(hC:dD D C)=>(Cw pv0 (T.cl C hC.fam) (T.qP C hC) fH hr.md (bF pv1))))
   (bO (cg (kJ (bQ oU) sZ sZ ["name","pay","numbered"] (cV ((bT bU (sV pv0 rfl) pv1)).mono) (gJ (n:=3) rfl (cG (dH (i:=0)) (cG (dH (i:=1)) (cG (dH (i:=2)) fX)))) cU (gO (bF pv0 (bF pv1 (bF (yP Aj T.Jo boot_list (bF pv2)))))))))),?_⟩
  unfold oO
  walk_at "rd"
  obtain⟨dx,n,l,zs,ho,hn,hl,of_⟩:=hh;have lk:=(ao.mp hg).1;refine⟨D.Hall,(by unfold dD;simp),dx,_,ho,rfl,p,k,rfl,rms,⟨dx,n,l,zs,ho,hn,hl,of_⟩,lk,xJ ?_⟩;obtain⟨ll,ys,a,b,c⟩:=of_.at_ k g.2 (by rw[aq,hg];rfl);have z9:101<sizeLine:=by decide
  walk_at "rd"
  refine⟨D.Hall,dx,_,ho,T.tK,T.uU,_,rfl,l,rfl,zs,hl,_,bY a,ll,rfl,ys,b,by rw[c.len];exact aM g100 (by decide),λD1 hD=>?_⟩;refine⟨fJ D1 (rms.map (·.1)) g.2 H,⟨Same.upd hD,bG,λas _=>⟨rfl,λk g e=>by simp at e⟩⟩,?_,?_⟩
  .rintro i x1 zs1 Hc hi ⟨S5,h5,o5⟩ hy hlc pre hpre;have li:i<g.2.length:=by rw[<- c.len];exact(ao.mp hi).1
   have e:g.2[i]?=some g.2[i]:=aj li;have hm:=w100 _ (aW li);obtain⟨t,r,ws,ea,eb,ec,ed⟩:=(c.same S5).at_ i _ e;rw[hi]at ea;cases ea;generalize g.2[i]=d at *;obtain⟨u1,u2,u3,rfl⟩ : ∃a b c,pre=[a,b,c]:=by
    match pre,hpre with
    |[a,b,c],_=>exact⟨a,b,c,rfl⟩
   walk_at "rd"
   refine⟨_,eb,rfl,_,_,rfl,_,_,rfl,_,_,rfl,rfl,[_,_,_],rfl,rfl,?_⟩;refine⟨r,rfl,ws,ec,λl1 hl1=>⟨by decide,λp1 hp1=>?_⟩⟩;have lp:l1≠p1:=bH bG hp1;have hp1':Hc p1=none:=(bL lp.symm).symm.trans hp1;have S6:Same Hc (upd (upd Hc l1 (.lst ws)) p1 (.tup [.str d.nm,.ref d.p,.ref l1])):=(Same.upd hl1).trans (Same.upd hp1);have e6:upd (upd Hc l1 (.lst ws)) p1 (.tup [.str d.nm,.ref d.p,.ref l1]) l1=some (.lst ws):=(bL lp).trans bG;have e7:upd (upd Hc l1 (.lst ws)) p1 (.tup [.str d.nm,.ref d.p,.ref l1]) p1=some (.tup [.str d.nm,.ref d.p,.ref l1]):=bG;generalize upd (upd Hc l1 (.lst ws)) p1 (.tup [.str d.nm,.ref d.p,.ref l1])=H7 at S6 e6 e7 ⊢;refine⟨S6 _ _ h5,S6 _ _ hlc,λb v e'=>(bL (bH e' hD)).trans (S6 _ _ (S5 _ _ e')),bG,λas has=>?_⟩;have nin:∀{b},Hc b=none->b∉D1::as:=λ{b}hb=>by
    simp only[YU,not_or];exact⟨λz=>(by rw[z,h5]at hb;cases hb),λz=>let⟨u,hu,_⟩:=has _ z;bH (S5 _ _ hu) hb rfl⟩
   have u2:∀{b o},b∉D1::as->H7 b=some o->del (D1::as) (upd H7 D1 (.lst (zs1++[.ref p1]))) b=some o:=λ{b o}h e=>je h ((bL (by simp only[YU,not_or]at h;exact h.1)).trans e);rw[cj e];refine((o5 as has).same λb v e'=>?_).snoc (u2 (nin hp1') e7) (u2 (nin hl1) e6) (ed.imp λt us e'=>u2 ?_ (S6 _ _ e'))
   .obtain⟨b1,b2⟩:=sS e';exact u2 b1 (S6 _ _ b2)
   .simp only[YU,not_or];exact⟨d8 e' h5,λz=>let⟨u,hu,n⟩:=has _ z;n _ (Option.some.inj ((S5 _ _ hu).symm.trans e'))⟩
  .rintro zs1 Hc ⟨S5,h5,o5⟩ _;rw[c.len,aQ]at o5;exact q D1 Hc zs1 S5 hD h5 λas has=>(o5 as has).same λb o e=>let⟨a,c⟩:=sS e;je (λz=>a (aJ _ z)) c
theorem aaJ{H H':Hp}(S:Same H H'){v:V}{t:String}(h:tyS H v=some t):tyS H' v=some t:=by
 cases v with
 |ref a =>
  have h:(match H a with
   |some (.lst _)=>some "list"
   |some (.tup _)=>some "tuple"
   |some (.dK _)=>some "dict"
   |_=>none)=some t:=h
  show(match H' a with
   |some (.lst _)=>some "list"
   |some (.tup _)=>some "tuple"
   |some (.dK _)=>some "dict"
   |_=>none)=some t
  split at h
  .rename_i e;rw[S a _ e];exact h
  .rename_i e;rw[S a _ e];exact h
  .rename_i e;rw[S a _ e];exact h
  .cases h
 |_=>exact h
def Odd(H:Hp)(v:V):Prop:=∃t,tyS H v=some t
theorem Odd.same{H H':Hp}{v:V}(h:Odd H v)(S:Same H H'):Odd H' v:=h.imp λ_ z=>aaJ S z
theorem adN{H:Hp}{v:V}{t:String}(h:tyS H v=some t)(n:∀k,v≠.int k):(t=="int")=false:=by
 cases v with
 |int k=>exact absurd rfl (n k)
 |ref a =>
  unfold tyS at h;dsimp only at h;split at h<;>cases h<;>rfl
 |_=>cases h<;>rfl
structure Ef(rms:List (Str×List Dr)):Prop where
 len:rms.length<=20
 few:∀g∈rms,g.2.length<=100
 ways:∀g∈rms,∀d∈g.2,d.ws.length<=100
noncomputable def JQ(v:V)(m:Nat):Bool:=if m=0 then decide (v=.non)else match v with
 |.int i=>decide (0<=i)&&decide (i<m)
 |_=>false
def Vx:Sp:=λvs H Q _=>∃(v:V)(m:Nat),vs=[v,.int m]/\Odd H v/\Q (.bl (JQ v m)) H
theorem acz(F:Fun K Gj Gj Ue f fd)(T:Txt K mg D)(dY:OkF P w K mg base 1 jA jq oV):cJ P w K mg base CX0 2 f fd FP Vx:=by
 refine F.ok abB ?_ ?_
 .rintro _ _ _ _ ⟨v,m,rfl,_⟩;rfl
 .rintro cdv A outer s H _ Q E hr ⟨v,m,rfl,⟨t,ot⟩,q⟩;refine⟨_,(bI (cW (cD lG pv1 bK (cH _))
    (bO (cg (rN Ut pv0 mX (cH _))))
    cF)
   (bO (cg (Og (bR dY hr.md (bF pv0)) (N_ (RW Qd Bc bK pv0 pv1)))))),?_⟩
  unfold JQ at q;refine b_ λR1 hR1=>?_;refine gK ⟨_,rfl,rfl,decide (m=0),ZH V.bl (decide_eq_decide.mpr ?_),?_⟩
  .constructor
   .intro z;injection z with z;lia
   .intro z;rw[z];rfl
  by_cases m0:m=0
  .rw[ZY m0]at q;rw[Zs m0];exact⟨_,rfl,rfl,q⟩
  .rw[ZZ m0]at q;rw[Zp m0];show R1 _ _ _;subst hR1;refine gM ⟨_,rfl,v,t,rfl,ot,_,rfl,?_⟩;by_cases iv:∃k,v=.int k
   .obtain⟨k,rfl⟩:=iv;cases ot;rw[ZY (by decide)];have q:Q (V.bl (decide (0<=k)&&decide (k<m))) H:=q;refine⟨_,rfl,0,k,rfl,rfl,decide (0<=k),rfl,?_⟩;by_cases k0:0<=k
    .rw[Zs k0]at q ⊢;exact⟨_,rfl,_,_,rfl,rfl,q⟩
    .rw[Zp k0]at q ⊢;exact q
   .rw[adN ot λk z=>iv ⟨k,z⟩];cases v with
    |int k=>exact absurd ⟨k,rfl⟩ iv
    |_=>exact q
theorem NZ{H:Hp}{a:Addr}{xs:Μ}(h:H a=some (.lst xs)):tyS H (.ref a)=some "list":=by
 unfold tyS;dsimp only;rw[h]
noncomputable def dnR(rms:List (Str×List Dr))(k:Nat):Nat:=((rms[k]?).map (·.2.length)).getD 0
def Gg(D:Adr):Sp:=λvs H Q _=>∃(o p l:Addr)(rms:List (Str×List Dr))(xs:Μ),vs=[.ref o,.ref l]/\j5 D H o p rms/\Ef rms/\H l=some (.lst xs)/\xs.length=rms.length/\(∀k x,xs[k]?=some x->Odd H x/\JQ x (dnR rms k)=true)/\∀H',Same H H'->Q (.bl true) H'
theorem JC(F:Fun K kO kO uq f fd)(T:Txt K mg D)(Tn:OkF P w K mg base 2 Gj FP Vx)(gU:OkI P w K mg base CX0 1 D.Hall_size jZ (mL D))(iZ:OkI P w K mg base CX0 3 D.Hall_offers jH (qL D)):cJ P w K mg base CX0 4 f fd j9 (Gg D):=by
 refine F.ok sJ ?_ ?_
 .rintro _ _ _ _ ⟨o,p,l,rms,xs,rfl,_⟩;rfl
 .rintro cdv A outer s H _ Q E hr ⟨o,p,l,rms,xs,rfl,hh,few,hl,ln,al,q⟩;have hI:=hh;obtain⟨dx,nn,ll,zs0,ho,hn,hll,of_⟩:=hI;have rf:Same H H:=λ_ _ z=>z;refine⟨_,(bI (cW (PW.pt (pw_or (fU (fj (cu m7 T.fY boot_isinstance (bF pv1 (bF (pH (v:=.ty "list") T.Jo boot_list rfl)))))) (pw_or1 (cD Bb (cu cN T.gH PySem.boot_len (bF pv1)) (PE.any λC(hC:eV D C)=>(yr pv0 (T.cl C hC.fam) (T.um C hC) gU hr.md)) (cH _)))))
    (bO gZ)
    cF)
   (bI (fL PassesOwn.never rfl (Fw T.rE (bF pv1).mono) (gJ (n:=2) rfl (cG (cB (i:=2) sJ.nd) (cG (cB (i:=3) sJ.nd) fX)))
    (bO (cW (fU (fj (bR Tn hr.md (bF pv3 (bF (cu cN T.gH PySem.boot_len (bF (PE.any λC(hC:eY D C)=>(Cw pv0 (T.cl C hC.fam) (T.xY C hC) iZ hr.md (bF pv2))))))))))
     (bO gZ)
     cF)))
   (bO (cg vh)))),?_⟩
  refine b_ λR1 hR1=>?_;refine gK ⟨_,rfl,.ref l,_,"list",rfl,by simp,NZ hl,true,rfl,_,rfl,l,xs,rfl,hl,D.Hall,(by unfold eV;simp),_,rfl,o,dx,_,rfl,ho,rfl,o,p,rms,rfl,hh,rfl,false,ZH (λb=>V.bl (!b)) (Zs (by rw[ln])),?_⟩;show R1 _ _ _;subst hR1;refine b_ λR1 hR1=>?_;refine gK (Ae ⟨_,rfl,l,xs,rfl,hl,λk σ H'=>∃u1 u2,σ=[some (.ref o),some (.ref l),u1,u2]/\Same H H',⟨none,none,rfl,rf⟩,?_,?_⟩)
  .rintro k x σ' H' t hk ⟨u1,u2,rfl,S1⟩ hl' ht;have S2:Same H' (upd H' t (.tup [.int k,x])):=Same.upd ht;have e2:upd H' t (.tup [.int k,x]) t=some (.tup [.int k,x]):=bG;generalize upd H' t (.tup [.int k,x])=H2 at S2 e2 ⊢;have SS:=S1.trans S2;have lk:k<rms.length:=by rw[<- ln];exact(ao.mp hk).1
   have eg:rms[k]?=some rms[k]:=aj lk;have gm:=aW lk;have dk:dnR rms k=rms[k].2.length:=by unfold dnR;rw[eg];rfl
   obtain⟨ox,fx⟩:=al k x hk;refine⟨t,_,rfl,e2,rfl,_,_,rfl,_,_,rfl,rfl,_,rfl,D.Hall,(by unfold eY;simp),_,rfl,o,dx,_,rfl,SS _ _ ho,rfl,_,rfl,o,p,k,rms,rms[k],rfl,hh.same SS,eg,few.few _ gm,few.ways _ gm,λr H3 zs S3 f3 h3 of3=>⟨r,zs,rfl,h3,x,rms[k].2.length,by rw[(of3 [] (λ_ z=>by cases z)).len],ox.same (SS.trans S3),true,by rw[<- dk,fx];rfl,?_⟩⟩;exact⟨S3 _ _ (S2 _ _ hl'),_,_,rfl,SS.trans S3⟩
  .rintro σ' H' ⟨u1,u2,rfl,S1⟩ _;subst hR1;exact q _ S1
noncomputable def stV:Option Nat->V
 |some k=>.int (k:Nat)
 |none=>.non
def vJ(D1:Addr)(H:Hp)(vs:Μ)(k:Nat)(ys:Μ)(H':Hp):Prop:=Same H H'/\H' D1=some (.lst ys)/\ys=vs.take k
theorem vJ.next{D1:Addr}{H H' H2:Hp}{vs ys:Μ}{k:Nat}{v:V}(h:vJ D1 H vs k ys H')(hD:H D1=none)(S:Same H' H2)(e:vs[k]?=some v):vJ D1 H vs (k+1) (ys++[v]) (upd H2 D1 (.lst (ys++[v]))):=by
 obtain⟨S1,h1,rfl⟩:=h;exact⟨λb o z=>(bL (bH z hD)).trans (S _ _ (S1 _ _ z)),bG,(cj e).symm⟩
noncomputable def vl(f:Ι):Rat:=(f.1:Rat)/(f.2:Rat)
theorem d_{x:Int}(h:0<x):(x:Rat)≠0:=λz=>by
 have:=Rat.intCast_inj.mp (z.trans Rat.intCast_zero.symm);lia
theorem ZS{x y:Ι}(hx:0<x.2)(hy:0<y.2)(h:x.1*y.2=y.1*x.2):vl x=vl y:=by
 have e:(x.1:Rat)*(y.2:Rat)=(y.1:Rat)*(x.2:Rat):=by rw[<- XV,<- XV,h]
 have:=d_ hx;have:=d_ hy;unfold vl
 grind
theorem Sw{x y:Ι}(hx:0<x.2)(hy:0<y.2)(h:vl x=vl y):x.1*y.2=y.1*x.2:=by
 have h1:=d_ hx;have h2:=d_ hy;unfold vl at h;refine Rat.intCast_inj.mp ?_;rw[XV,XV]
 grind
theorem Low.vl{t b x y:Int}(h:Low t b x y)(hb:0<b):vl (x,y)=vl (t,b):=ZS h.pos hb h.eq
theorem Tz{x y u v:Int}(hy:0<y)(hv:0<v):vl (x*u,y*v)=vl (x,y)*vl (u,v):=by
 have:=d_ hy;have:=d_ hv;show((x*u:Int):Rat)/((y*v:Int):Rat)=(x:Rat)/(y:Rat)*((u:Rat)/(v:Rat));rw[XV,XV]
 grind
theorem Yq(x:Int):vl (x,1)=(x:Rat):=by
 show(x:Rat)/((1:Int):Rat)=x;rw[Rat.intCast_one]
 grind
def Bn(n:Nat)(x:Int):Prop:=x.natAbs<=10^n
theorem Bn.up{a b:Nat}{x:Int}(h:Bn a x)(l:a<=b):Bn b x:=aM h (XU (by decide) l)
theorem Bn.mul{a b:Nat}{x y:Int}(h:Bn a x)(g:Bn b y):Bn (a+b) (x*y):=by
 unfold Bn;rw[Int.natAbs_mul,Nat.pow_add];exact Nat.mul_le_mul h g
theorem Bn.add{a:Nat}{x y:Int}(h:Bn a x)(g:Bn a y):Bn (a+1) (x+y):=by
 have h:x.natAbs<=10^a:=h;have g:y.natAbs<=10^a:=g;unfold Bn;rw[Nat.pow_succ];omega
theorem Bn.bd{n:Nat}{x:Int}(h:Bn n x)(l:n<=2400):Bd x:=Y3 (h.up l) (by decide +kernel)
def Rg:Sp:=λvs H Q _=>∃(p q:Addr)(x y u v:Int),vs=[.ref p,.ref q]/\SqT K H p [.int x,.int y]/\SqT K H q [.int u,.int v]/\Bd x/\Bd y/\Bd u/\Bd v/\0<y/\0<v/\Bd (y*v) /\
 ∀r z o,Low (x*u) (y*v) z o->H r=none->Q (.ref r) (upd H r (.tup [.int z,.int o]))
theorem aav(F:Fun K Dp Dp Pa f fd)(eX:OkF P w K mg base 2 kE j_ gG):cJ P w K mg base CX0 3 f fd CV (Rg (K:=K)):=by
 refine F.ok aap ?_ ?_
 .rintro _ _ _ _ ⟨p,q,x,y,u,v,rfl,_⟩;rfl
 .rintro cdv A outer s H _ Q E hr ⟨p,q,x,y,u,v,rfl,hp,hq,bx,b_y,bu,bv,y0,v0,byv,k⟩;refine⟨_,(bO (cg (bR eX hr.md (bF (bV cT (bT cZ pv0 bK) (bT cZ pv1 bK)) (bF (bV cT (bT cZ pv0 bK) (bT cZ pv1 bK))))))),?_⟩;unfold gG
  walk_at "rd"
  exact⟨_,hp,_,cY,_,hq,_,cY,_,rfl,_,rfl,bx,bu,_,hp,_,cR,_,hq,_,cR,_,rfl,_,rfl,b_y,bv,Int.ne_of_gt (XZ y0 v0),byv,λr z o l hr=>k r z o l hr⟩
structure Vd(K:Frag)(H:Hp)(t:Addr)(f:Ι)(cs:Θ):Prop where
 ex:∃(nm:Str)(p r:Addr)(ys:Μ),H t=some (.tup [.str nm,.ref p,.ref r])/\H p=some (.tup [.int f.1,.int f.2])/\H r=some (.lst ys)/\ys.length=cs.length/\∀(k:Nat)c,cs[k]?=some c->∃tt a,ys[k]?=some (.ref tt)/\H tt=some (.tup [.int (c.1:Nat),.ref a])/\SqT K H a [.int c.2.1,.int c.2.2]
theorem Vd.same{H H':Hp}{t:Addr}{f:Ι}{cs:Θ}(h:Vd K H t f cs)(S:Same H H'):Vd K H' t f cs:=by
 obtain⟨nm,p,r,ys,a,b,c,d,e⟩:=h.ex;refine⟨nm,p,r,ys,S _ _ a,S _ _ b,S _ _ c,d,λk z ez=>?_⟩;obtain⟨tt,a2,x1,x2,x3⟩:=e k z ez;exact⟨tt,a2,x1,S _ _ x2,S.tup x3⟩
noncomputable def chF(cs:Θ):Ψ:=cs.map (·.2)
def gR(cs:Θ)(g:Nat->Rat):Rat:=(cs.map λc=>vl c.2*g c.1).sum
structure K8(n:Nat)(f:Ι)(cs:Θ):Prop where
 pay:0<f.2/\Bn 40 f.1/\Bn 40 f.2
 few:cs.length<=41
 ch:∀c∈cs,c.1<n/\Fq c.2
 lv:Bn 60 (lvB (chF cs):Nat)
inductive Rh(K:Frag)(D:Adr)(vs:Μ)(H:Hp)(Q:VK):Prop
 |mk (o p t lv T:Addr) (rms:List (Str×List Dr)) (s f:Ι) (cs:Θ) (Ts:List Int) (W:Int) (h0:vs=[.ref o,.ref t,.ref lv]) (h1:j5 D H o p rms) (h2:H p=some (.tup [.int s.1,.int s.2])) (h3:0<s.2) (h4:Bn 40 s.1) (h5:Bn 40 s.2) (h6:Vd K H t f cs) (h7:K8 Ts.length f cs) (h8:H lv=some (.tup [.ref T,.int W])) (h9:H T=some (.lst (Ts.map V.int))) (h10:0<W) (h11:Bn 600 W) (h12:(∀x∈Ts,Bn 640 x)) (h13:∀r z y H',Same H H'->H r=none->H' r=some (.tup [.int z,.int y])->0<y->Bn 830 z->Bn 140 y->vl (z,y)=vl f*(W:Rat)+vl s*gR cs (λr=>(Ts.getD r 0:Rat))->Q (.ref r) H'):Rh K D vs H Q
structure DrN(K:Frag)(H:Hp)(ns:Β)(d:Dr)(f:Ι)(cs:Θ):Prop where
 pay:H d.p=some (.tup [.int f.1,.int f.2])
 len:d.ws.length=cs.length
 at_:∀(k:Nat)g c,d.ws[k]?=some g->cs[k]?=some c->ns[c.1]?=some g.1/\SqT K H g.2 [.int c.2.1,.int c.2.2]
theorem DrN.same{H H':Hp}{ns:Β}{d:Dr}{f:Ι}{cs:Θ}(h:DrN K H ns d f cs)(S:Same H H'):DrN K H' ns d f cs:=⟨S _ _ h.pay,h.len,λk g c e1 e2=>⟨(h.at_ k g c e1 e2).1,S.tup (h.at_ k g c e1 e2).2⟩⟩
theorem xO{ns:Β}(nd:ns.Nodup){i j:Nat}{n:Str}(h1:ns[i]?=some n)(h2:ns[j]?=some n):i=j:=by
 exact(List.getElem?_inj (ao.mp h1).1 nd).mp (h1.trans h2.symm)
theorem rO.offN{ns:Β}(nd:ns.Nodup){H:Hp}{zs:Μ}{gs:List Dr}(h:rO ns H zs gs){k:Nat}{d:Dr}(e:gs[k]?=some d){f:Ι}{cs:Θ}(hd:DrN K H ns d f cs):∃t,zs[k]?=some (.ref t)/\Vd K H t f cs:=by
 obtain⟨t,r,ys,a,b,c,w⟩:=h.at_ k d e;refine⟨t,a,d.nm,d.p,r,ys,b,hd.pay,c,by rw[w.len,hd.len],λj g eg=>?_⟩;have lj:j<d.ws.length:=by rw[hd.len];exact(ao.mp eg).1
 have ew:d.ws[j]?=some d.ws[j]:=aj lj;obtain⟨tt,i,x1,x2,x3⟩:=w.at_ j _ ew;obtain⟨y1,y2⟩:=hd.at_ j _ g ew eg;cases xO nd x2 y1;exact⟨tt,_,x1,x3,y2⟩
def wq(fs:Ψ)(r:Nat):Rat:=vl (fs.getD r (0,1))
def V4(s f:Ι)(cs:Θ)(fs:Ψ):Rat:=vl f+vl s*gR cs (wq fs)
theorem Wz{W:Rat}{g h:Nat->Rat} : ∀{cs:Θ},(∀c∈cs,g c.1=W*h c.1)->gR cs g=W*gR cs h
 |[],_=>by
  show(0:Rat)=W*0;rw[Rat.mul_zero]
 |c::cs,e=>by
  have ih:=Wz (cs:=cs) λc hc=>e c (aJ _ hc);show vl c.2*g c.1+gR cs g=W*(vl c.2*h c.1+gR cs h);rw[ih,e c aP]
  grind
structure XC(K:Frag)(H:Hp)(ns:Β)(n:Nat)(gs:List Dr)(fcs:Δ):Prop where
 len:gs.length=fcs.length
 at_:∀(k:Nat)d fc,gs[k]?=some d->fcs[k]?=some fc->DrN K H ns d fc.1 fc.2/\K8 n fc.1 fc.2
theorem tO{a b c:Rat}(p:0<c):a<=b/c↔a*c<=b:=by rw[<- Rat.not_lt,Rat.div_lt_iff p,Rat.not_lt]
theorem Jv{a b c:Rat}(p:0<c):b/c<=a↔b<=a*c:=by rw[<- Rat.not_lt,Rat.lt_div_iff p,Rat.not_lt]
def IsI(q:Rat):Prop:=∃z:Int,q=(z:Rat)
theorem YT{f:Ι}{N:Nat}(h0:0<f.2)(h:f.2 ∣ (N:Int)):IsI (vl f*((N:Int):Rat)):=by
 obtain⟨d,e⟩:=h;refine⟨f.1*d,?_⟩;have:=d_ h0;rw[e,XV,XV];unfold vl
 grind
theorem G5{g:Ι}{N:Nat}(h0:0<g.2)(hg:Int.gcd g.1 g.2=1)(h:IsI (vl g*((N:Int):Rat))):g.2 ∣ (N:Int):=by
 obtain⟨z,e⟩:=h;have h1:=d_ h0;have e2:g.1*(N:Int)=z*g.2:=by
  refine Rat.intCast_inj.mp ?_;rw[XV,XV,<- e];unfold vl
  grind
 have c:Nat.Coprime g.2.natAbs g.1.natAbs:=by rw[Nat.coprime_comm];exact hg
 have d:g.2.natAbs ∣ g.1.natAbs*N:=by
  have:g.2.natAbs ∣ (g.1*(N:Int)).natAbs:=Int.natAbs_dvd_natAbs.mpr ⟨z,by rw[e2,Int.mul_comm]⟩;rwa[Int.natAbs_mul,XT]at this
 exact Int.natAbs_dvd.mp (Int.natCast_dvd_natCast.mpr (c.dvd_of_dvd_mul_left d))
def Wn(B q:Rat):Prop:=-B<=q/\q<=B
theorem adg{f:Ι}{B:Nat}(h0:0<f.2)(h:f.1.natAbs<=B*f.2.natAbs):Wn ((B:Int):Rat) (vl f):=by
 have p:(0:Rat)<(f.2:Rat):=Rat.intCast_pos.mpr h0;have e:((f.2.natAbs:Nat):Int)=f.2:=by exact Int.natAbs_of_nonneg (XY h0)
 have h':((f.1.natAbs:Nat):Int)<=(B:Int)*f.2:=by rw[<- e,<- Int.natCast_mul];exact Int.ofNat_le.mpr h
 unfold vl;constructor
 .rw[tO p,<- Rat.intCast_neg,<- XV,Rat.intCast_le_intCast,Int.neg_mul];lia
 .rw[Jv p,<- XV,Rat.intCast_le_intCast];lia
theorem aar{f:Ι}{B:Nat}(h0:0<f.2)(h:Wn ((B:Int):Rat) (vl f)):f.1.natAbs<=B*f.2.natAbs:=by
 have p:(0:Rat)<(f.2:Rat):=Rat.intCast_pos.mpr h0;have e:((f.2.natAbs:Nat):Int)=f.2:=by exact Int.natAbs_of_nonneg (XY h0)
 unfold vl at h;obtain⟨h1,h2⟩:=h;rw[tO p,<- Rat.intCast_neg,<- XV,Rat.intCast_le_intCast,Int.neg_mul]at h1;rw[Jv p,<- XV,Rat.intCast_le_intCast]at h2;have:((f.1.natAbs:Nat):Int)<=((B*f.2.natAbs:Nat):Int):=by rw[Int.natCast_mul,e];omega
 exact Int.ofNat_le.mp this
theorem Wn.add{A B p q:Rat}(h:Wn A p)(g:Wn B q):Wn (A+B) (p+q):=by
 obtain⟨a,b⟩:=h;obtain⟨c,d⟩:=g;exact⟨by grind,by grind⟩
theorem Wn.part{B c q:Rat}(h:Wn B q)(c0:0<=c)(c1:c<=1):Wn B (c*q):=by
 obtain⟨a,b⟩:=h;have B0:0<=B:=by
  have:=Rat.le_trans a b
  grind
 have k1:=Rat.mul_le_mul_of_nonneg_left a c0;have k2:=Rat.mul_le_mul_of_nonneg_left b c0;have k3:=Rat.mul_le_mul_of_nonneg_right c1 B0;rw[Rat.one_mul]at k3;refine⟨?_,Rat.le_trans k2 k3⟩;have : -B<=c * -B:=by
  rw[Rat.mul_neg];exact Rat.neg_le_neg k3
 exact Rat.le_trans this k1
structure zu(K:Frag)(D:Adr)(H:Hp)(o:Addr)(s:Ι)(fcss:Γ):Prop where
 ex:∃(p:Addr)(rms:List (Str×List Dr)),j5 D H o p rms/\Ef rms/\(rms.map (·.1)).Nodup/\H p=some (.tup [.int s.1,.int s.2])/\fcss.length=rms.length/\∀(k:Nat)g fcs,rms[k]?=some g->fcss[k]?=some fcs->XC K H (rms.map (·.1)) fcss.length g.2 fcs
 s0:0<s.2
 b1:Bn 40 s.1
 b2:Bn 40 s.2
 n12:fcss.length<=12
theorem XC.same{H H':Hp}{ns:Β}{n:Nat}{gs:List Dr}{fcs:Δ}(S:Same H H')(h:XC K H ns n gs fcs):XC K H' ns n gs fcs:=⟨h.len,λk d fc e1 e2=>⟨(h.at_ k d fc e1 e2).1.same S,(h.at_ k d fc e1 e2).2⟩⟩
theorem zu.same{H H':Hp}{o:Addr}{s:Ι}{fcss:Γ}(S:Same H H')(h:zu K D H o s fcss):zu K D H' o s fcss:=by
 obtain⟨p,rms,a,b,c,d,e,f⟩:=h.ex;exact⟨⟨p,rms,a.same S,b,c,S _ _ d,e,λk g fcs e1 e2=>(f k g fcs e1 e2).same S⟩,h.s0,h.b1,h.b2,h.n12⟩
theorem kZ{α:Type}{l:List α}{a b:α}{k:Nat}(h:(l++[a])[k]?=some b):(k<l.length/\l[k]?=some b)\/(k=l.length/\b=a):=by
 by_cases hk:k<l.length
 .rw[aF hk]at h;exact .inl ⟨hk,h⟩
 .have hl:=(ao.mp h).1;rw[aA,List.length_cons,List.length_nil]at hl;have e:k=l.length:=by lia
  subst e;rw[aD (aG _),Nat.sub_self]at h;cases h;exact .inr ⟨rfl,rfl⟩
theorem yR{as:Ε}{H:Hp}{a:Addr}{u:HO}(h:a∈as):del as (upd H a u)=del as H:=by
 funext b
 unfold del;split
 .rfl
 .rename_i hb
  exact bL λz=>hb (z ▸ h)
def tU:Sp:=λvs H Q _=>∃(a b:Int),vs=[.int a,.int b]/\0<b/\Bd b/\∀p,H p=none->Q (.ref p) (upd H p (.tup [.int (Ac.lw a b).1,.int (Ac.lw a b).2]))
theorem Xu(F:Fun K qC qC Ia f fd)(Lh:OkF P w K mg base 1 Jp HN Mq):cJ P w K mg base CX0 2 f fd qy tU:=by
 refine F.ok Li ?_ ?_
 .rintro _ _ _ _ ⟨a,b,rfl,_⟩;rfl
 .rintro cdv A outer s H _ Q E hr ⟨a,b,rfl,hb,hbd,q⟩;refine⟨_,(bI (bZ (i:=2) Li.nd (bR Lh hr.md (bF pv0 (bF pv1))))
   (bO (cg (gO (bF (bV iy pv0 pv2) (bF (bV iy pv1 pv2))))))),?_⟩
  have g0:=FN (a:=a) (b:=b) (Int.ne_of_gt hb);have g1:=O1 (a:=a) (b:=b) (Int.ne_of_gt hb) hbd;unfold Mq
  walk_at "rd"
  rw[jr _ g0,jr _ g0];exact⟨by exact Int.ne_of_gt g0,g1,by exact Int.ne_of_gt g0,g1,fQ,q⟩
theorem fM{H H':Hp}{p:Addr}{o:HO}(hp:H p=none)(S:Same H H'):Same H (upd H' p o):=λb u hb=>by
 rw[bL (bH hb hp)];exact S b u hb
theorem Same.sql{K:Frag}{H H':Hp}{a:Addr}{xs:Μ}(S:Same H H')(h:SqL K H a xs):SqL K H' a xs:=by
 rcases h with(h|⟨o,h⟩)|h
 .exact .inl (.inl (S _ _ h))
 .exact .inl (.inr ⟨o,S _ _ h⟩)
 .exact .inr h
theorem Oe{α:Type} : ∀{l:List α},l.length=2->∃a b,l=[a,b]
 |[a,b],_=>⟨a,b,rfl⟩
def U0:Sp:=λvs H Q _=>∃(c a b:Int),vs=[.int c,.int a,.int b]/\∀(p:Addr)(x y:Int),H p=none->0<y->Int.gcd x y=1->x.natAbs<=10^30->y<=1000->Q (.ref p) (upd H p (.tup [.int x,.int y]))
theorem adI(F:Fun K Jt Jt Zz f fd)(T:Txt K mg D)(jm:OkF P w K mg base 2 qC qy tU):cJ P w K mg base CX0 3 f fd Ip U0:=by
 refine F.ok aed ?_ ?_
 .rintro _ _ _ _ ⟨p,n,y,rfl,_⟩;rfl
 .rintro cdv A outer s H _ Q E hr ⟨c,x,y,rfl,q⟩;have lo:∀(a b:Int)(p:Addr),0<b->a.natAbs<=10^30->b<=1000->H p=none->Q (.ref p) (upd H p (.tup [.int (Ac.lw a b).1,.int (Ac.lw a b).2])):=λa b p b0 ha hb hp=>by
   have h2:=Ac.En a b;have h3:=Ac.iG (t:=a) b0;exact q p _ _ hp h3 (Ac.rQ b0) (aM (Ac.IK a b) ha) (by lia)
  refine⟨_,(bI (cW (cD Bc (bV dU pv1) bK (cH _))
    (bO (cg (gO (bF (bV Dw (bV dU pv2)) (bF bK)))))
    cF)
   (bI (cW (cD Bc (bV dU pv1) bK (cH _))
    (bO (cg (bR jm hr.md (bF (bV Dw (bV dU pv2)) (bF (bV d9 bK (bV dU (bV iy pv1))))))))
    cF)
   (bI (cW (cD lG (bV dU pv1) bK (cH _))
    (bO (cg (gO (bF (bV Dw (bV dU pv0)) (bF bK)))))
    cF)
   (bO (cg (bR jm hr.md (bF (bV Dw (bV dU (bV d9 (bV Ve pv0) pv2) (bV d9 (bV cT bK (bV Vn bK)))) (bV Vn bK)) (bF (bV d9 bK (bV dU (bV iy pv1))))))))))),?_⟩
  unfold tU
  walk_at "rd"
  have b30:Bd 1000000000000000000000000000000:=Y3 (aG _) (by decide +kernel);rw[jr _ (by decide)];split
  .exact⟨fQ,λp hp=>q p _ _ hp (by decide) (by simp) (by lia) (by decide)⟩
  split
  .exact⟨Bd.sm (by decide),by lia,Bd.sm (by omega),λp hp=>lo _ _ p (by lia) (by lia) (by lia) hp⟩
  split
  .exact⟨fQ,λp hp=>q p _ _ hp (by decide) (by simp) (by lia) (by decide)⟩
  .exact⟨.inr (by constructor<;>decide),adJ (by decide) (by decide),Bd.sm (by decide),b30,adJ (by decide) (by decide),Bd.sm (by decide),by lia,Bd.sm (by omega),λp hp=>lo _ _ p (by lia) (by omega) (by lia) hp⟩
def QM:Sp:=λvs H Q _=>∃c:Int,vs=[.int c]/\∀(p:Addr)(x y:Int)H',Same H H'->H' p=some (.tup [.int x,.int y])->0<=x->x<y->y<=100->Int.gcd x y=1->Q (.ref p) H'
theorem Y5(F:Fun K Dm Dm M_ f fd)(T:Txt K mg D)(dh:OkF P w K mg base 1 iz iC gP)(jm:OkF P w K mg base 2 qC qy tU):cJ P w K mg base CX0 3 f fd Aq QM:=by
 refine F.ok Gq ?_ ?_
 .rintro _ _ _ _ ⟨c,rfl,_⟩;rfl
 .rintro cdv A outer s H _ Q E hr ⟨c,rfl,q⟩;refine⟨_,(bI (bZ (i:=1) Gq.nd (bR dh hr.md (bF pv0 (bF bK))))
   (bI (bZ (i:=2) Gq.nd (bV d9 bK (bV lB (bT bU pv1 bK) (bT bU (pG (bF bK (bF bK (bF bK (bF bK))))) (bV dU (bT bU pv1 bK))))))
   (bO (cg (bR jm hr.md (bF (bV lB (bT bU pv1 bK) pv2) (bF pv2))))))),?_⟩
  refine cL ⟨_,rfl,c,3,rfl,by decide,λl xs H1 S1 fl hl ln hx=>?_⟩;obtain⟨a,b,e,rfl⟩ : ∃a b e,xs=[a,b,e]:=by
   match xs,ln with
   |[a,b,e],_=>exact⟨a,b,e,rfl⟩
  have xa:=hx a (by simp);have xe:=hx e (by simp);refine cL ⟨_,rfl,l,_,0,_,rfl,rfl,hl,cY,by decide,λp1 H2 S2 f2 h2=>?_⟩;obtain⟨md,ed,m0,m1⟩ : ∃md:Int,atI [V.int 4,V.int 6,V.int 10,V.int 100] (b%4)=some (.int md)/\0<md/\md<=100:=by
   obtain z|z|z|z:b%4=0\/b%4=1\/b%4=2\/b%4=3:=by lia
   .exact⟨4,by rw[z];exact bY (j:=0) rfl,by decide,by decide⟩
   .exact⟨6,by rw[z];exact bY (j:=1) rfl,by decide,by decide⟩
   .exact⟨10,by rw[z];exact bY (j:=2) rfl,by decide,by decide⟩
   .exact⟨100,by rw[z];exact bY (j:=3) rfl,by decide,by decide⟩
  have hl2:=S2 _ _ hl;refine⟨_,rfl,l,_,1,_,rfl,rfl,hl2,cR,b,4,rfl,rfl,(show(0:Int)<4 by decide),p1,_,_,_,rfl,rfl,h2,ed,a,md,rfl,rfl,by exact Int.ne_of_gt m0,1,_,rfl,rfl,?_⟩;obtain⟨t,et,t0,t1⟩ : ∃t:Int,1+a.fmod md=t/\1<=t/\t<=100:=⟨_,rfl,by rw[aY _ (XY m0)];have:=Z3 a (b:=md) (Int.ne_of_gt m0);lia,by rw[aY _ (XY m0)];have:=YY a (b:=md) m0;lia⟩;show YC _ _ [some (.int c),some (.ref l),some (.int (1+a.fmod md))] H2;rw[et];have f0:0<=e.fmod t:=by rw[aY _ (by omega)];exact Z3 _ (by omega)
  have f1:e.fmod t<t:=by rw[aY _ (by omega)];exact YY _ (by omega)
  refine gM ⟨_,rfl,l,_,2,_,rfl,rfl,hl2,bY (j:=2) rfl,_,rfl,e,t,rfl,rfl,by omega,_,rfl,_,t,rfl,by exact Int.lt_of_le_of_lt f0 f1,Bd.sm (by omega),λp hp=>?_⟩;have y0:=Ac.iG (t:=e.fmod t) (b:=t) (Int.lt_of_le_of_lt f0 f1);have yg:=Ac.rQ (t:=e.fmod t) (b:=t) (Int.lt_of_le_of_lt f0 f1);have ye:=Ac.tD (t:=e.fmod t) (b:=t) (Int.lt_of_le_of_lt f0 f1);have y2:=Ac.En (e.fmod t) t;generalize(Ac.lw (e.fmod t) t).1=x at *;generalize(Ac.lw (e.fmod t) t).2=y at *;refine q p x y _ (S1.trans (S2.trans (Same.upd hp))) bG ?_ ?_ (by lia) yg
  .refine Int.not_lt.mp λz=>?_;have h1:x*t<0:=Int.mul_neg_of_neg_of_pos z (Int.lt_of_le_of_lt f0 f1);have h2:0<=e.fmod t*y:=Int.mul_nonneg f0 (XY y0);omega
  .refine Int.not_le.mp λz=>?_;have h1:y*t<=x*t:=Int.mul_le_mul_of_nonneg_right z (Int.le_trans f0 (XY f1));have h2:e.fmod t*y<t*y:=Int.mul_lt_mul_of_pos_right f1 y0;have h3:t*y=y*t:=Int.mul_comm ..;lia
noncomputable abbrev FC:=Ι×Θ
noncomputable def pick(fcss:List (List FC))(pl:List (Option Nat)):List (Option FC):=List.zipWith (λfcs o=>o.bind λj=>fcs[j]?) fcss pl
def Ih(fcss:List (List FC))(pl:List (Option Nat)):Prop:=pl.length=fcss.length/\∀(k:Nat)fcs o,fcss[k]?=some fcs->pl[k]?=some o->(o=none->fcs=[])/\∀j,o=some j->j<fcs.length
theorem jD{fcss:List (List FC)}{pl:List (Option Nat)}(h:Ih fcss pl):(pick fcss pl).length=fcss.length:=by
 unfold pick;rw[List.length_zipWith,h.1,Nat.min_self]
theorem CP{fcss:List (List FC)}{pl:List (Option Nat)}{k:Nat}{fcs:List FC}{o:Option Nat}(h:Ih fcss pl)(e1:fcss[k]?=some fcs)(e2:pl[k]?=some o):(o=none/\(pick fcss pl)[k]?=some none)\/∃j fc,o=some j/\fcs[j]?=some fc/\(pick fcss pl)[k]?=some (some fc):=by
 have e:(pick fcss pl)[k]?=some (o.bind λj=>fcs[j]?):=by
  unfold pick;rw[List.getElem?_zipWith,e1,e2]
 obtain⟨_,b⟩:=h.2 k fcs o e1 e2;cases o with
 |none=>exact .inl ⟨rfl,e⟩
 |some j =>
  have lj:=b j rfl;refine .inr ⟨j,fcs[j],rfl,aj lj,?_⟩;rw[e];show some (fcs[j]?)=_;rw[aj lj]
theorem CT{fcss:List (List FC)}{pl:List (Option Nat)}{fc:FC}(h:some fc∈pick fcss pl):∃fcs∈fcss,fc∈fcs:=by
 obtain⟨k,hk⟩:=aX h;unfold pick at hk;rw[List.getElem?_zipWith]at hk;cases e1:fcss[k]? with
 |none=>rw[e1]at hk;cases hk
 |some fcs =>
  rw[e1]at hk;cases e2:pl[k]? with
  |none=>rw[e2]at hk;cases hk
  |some o =>
   rw[e2]at hk;have hk:=Option.some.inj hk;cases o with
   |none=>cases hk
   |some j=>exact⟨fcs,aC e1,aC hk⟩
structure Chs(K:Frag)(n:Nat)(H:Hp)(zs:Μ)(cs:List (Option FC)):Prop where
 len:zs.length=cs.length
 at_:∀(k:Nat)c,cs[k]?=some c->(c=none/\zs[k]?=some .non)\/∃(t:Addr)(fc:FC),c=some fc/\zs[k]?=some (.ref t)/\Vd K H t fc.1 fc.2/\K8 n fc.1 fc.2
theorem Chs.same{n:Nat}{H H':Hp}{zs:Μ}{cs:List (Option FC)}(h:Chs K n H zs cs)(S:Same H H'):Chs K n H' zs cs:=⟨h.len,λk c e=>by
 rcases h.at_ k c e with z|⟨t,fc,a1,a2,a3,a4⟩
 .exact .inl z
 .exact .inr ⟨t,fc,a1,a2,a3.same S,a4⟩⟩
def Uo(K:Frag)(D:Adr):Sp:=λvs H Q _=>∃(o lp:Addr)(s:Ι)(fcss:List (List FC))(pl:List (Option Nat)),vs=[.ref o,.ref lp]/\zu K D H o s fcss/\H lp=some (.lst (pl.map stV))/\Ih fcss pl /\
 ∀l zs H',Same H H'->H l=none->H' l=some (.lst zs)->Chs K fcss.length H' zs (pick fcss pl)->Q (.ref l) H'
theorem Ey(F:Fun K iY iY mR f fd)(T:Txt K mg D)(iZ:OkI P w K mg base CX0 3 D.Hall_offers jH (qL D)):cJ P w K mg base CX0 4 f fd iV (Uo K D):=by
 refine F.ok Fi ?_ ?_
 .rintro _ _ _ _ ⟨o,lp,s,fcss,pl,rfl,_⟩;rfl
 .rintro cdv A outer s H _ Q E hr ⟨o,lp,sh,fcss,pl,rfl,hn,hlp,fit,q⟩;obtain⟨p,rms,hh,few,nd,hp,fcl,dn⟩:=hn.ex;have n12:=hn.n12;have pll:=fit.1;obtain⟨dx,nn,ll,zs0,ho,_,_,_⟩:=id hh;refine⟨_,(bO (cg (kJ (bQ mR) qQ qQ ["room","door"] (Fw T.rE (bF pv1).mono) (gJ (n:=2) rfl (cG (dH (i:=0)) (cG (dH (i:=1)) fX))) cU (Dl (cD Ut pv1 mX (cH _)) mX (bT bU (PE.any λC(hC:eY D C)=>(Cw pv2 (T.cl C hC.fam) (T.xY C hC) iZ hr.md (bF pv0))) pv1))))),?_⟩;refine gM (R_ ⟨_,rfl,lp,_,rfl,hlp,by rw[ak];lia,λD1 g1=>⟨λk zs Hc=>Same H Hc/\Hc D1=some (.lst zs)/\Chs K fcss.length (del [D1] Hc) zs ((pick fcss pl).take k),⟨Same.upd g1,bG,rfl,λk c e=>by simp at e⟩,?_,?_⟩⟩)
  .rintro k x zs Hc t hx ⟨S1,h1,ch⟩ zl ft hlp';have lk:k<pl.length:=by have:=(ao.mp hx).1;rwa[ak]at this
   have eo:pl[k]?=some pl[k]:=aj lk;have ef:fcss[k]?=some (fcss[k]'(aV lk (Nat.le_of_eq pll))):=aj _;have eg:rms[k]?=some (rms[k]'(by lia)):=aj _;have gm:rms[k]'(by lia)∈rms:=aW _;have dn:=dn k _ _ eg ef;have gf:=few.few _ gm;have gw:=few.ways _ gm;have pa:=CP fit ef eo;rw[aq,eo]at hx;cases hx;generalize rms[k]'(by lia)=g at *;generalize fcss[k]'(aV lk (Nat.le_of_eq pll))=fcs at *;generalize pl[k]=po at *;have S2:Same Hc (upd Hc t (.tup [.int k,stV po])):=Same.upd ft;have e2:upd Hc t (.tup [.int k,stV po]) t=some (.tup [.int k,stV po]):=bG;generalize upd Hc t (.tup [.int k,stV po])=H1 at S2 e2 ⊢;have SH:=S1.trans S2;have zk:zs.length=k:=by rw[ch.len,bw,jD fit];omega
   have fin:∀(v:V)(H2:Hp)(c:Option FC),Same H1 H2->(pick fcss pl)[k]?=some c->((c=none/\v=.non)\/∃(t:Addr)(fc:FC),c=some fc/\v=.ref t/\Vd K (del [D1] H2) t fc.1 fc.2/\K8 fcss.length fc.1 fc.2)->H2 D1=some (.lst zs)/\H2 lp=some (.lst (pl.map stV))/\Same H (upd H2 D1 (.lst (zs++[v])))/\upd H2 D1 (.lst (zs++[v])) D1=some (.lst (zs++[v]))/\Chs K fcss.length (del [D1] (upd H2 D1 (.lst (zs++[v])))) (zs++[v]) ((pick fcss pl).take (k+1)):=λv H2 c S3 ec cv=>by
    refine⟨S3 _ _ (S2 _ _ h1),S3 _ _ (S2 _ _ hlp'),λb u e=>(bL (bH e g1)).trans (S3 _ _ (SH _ _ e)),bG,?_⟩;rw[yR (YR.mpr rfl)];have ch:=ch.same (H':=del [D1] H2) (tH λb o _ e=>S3 _ _ (S2 _ _ e));rw[cj ec];have ll:=ch.len;refine⟨by rw[aA,aA,ll];rfl,λi c' e=>?_⟩;rcases kZ e with⟨a1,a2⟩|⟨a1,a2⟩
    .rcases ch.at_ i c' a2 with⟨z1,z2⟩|⟨t,fc,z1,z2,z3⟩
     .exact .inl ⟨z1,by rw[aF (by lia)];exact z2⟩
     .exact .inr ⟨t,fc,z1,by rw[aF (by lia)];exact z2,z3⟩
    .subst a2;have e:∀v:V,(zs++[v])[i]?=some v:=λv=>by rw[aD (by lia),show i-zs.length=0 by omega];rfl
     rcases cv with⟨z1,z2⟩|⟨t,fc,z1,z2,z3⟩
     .exact .inl ⟨z1,by rw[e,z2]⟩
     .exact .inr ⟨t,fc,z1,by rw[e,z2],z3⟩
   intro pre hpre;obtain⟨u,v,rfl⟩:=Oe hpre;refine⟨t,_,rfl,e2,rfl,_,_,rfl,_,_,rfl,rfl,[_,_],rfl,rfl,?_⟩;rcases pa with⟨rfl,ep⟩|⟨j,fc,rfl,ej,ep⟩
   .exact⟨_,rfl,rfl,true,ZH V.bl (Zs rfl),fin .non H1 none (λ_ _ z=>z) ep (.inl ⟨rfl,rfl⟩)⟩
   .refine⟨_,rfl,rfl,false,ZH V.bl (Zp λz=>by cases z),D.Hall,(by unfold eY;simp),_,rfl,o,dx,_,rfl,SH _ _ ho,rfl,_,rfl,o,p,k,rms,g,rfl,hh.same SH,eg,gf,gw,λr H4 os S4 f4 h4 of4=>?_⟩;have lj:j<g.2.length:=by rw[dn.len];exact(ao.mp ej).1
    have ed:g.2[j]?=some g.2[j]:=aj lj;obtain⟨dN,dF⟩:=dn.at_ j _ _ ed ej;have SD:Same H (del [D1] H4):=λb u e=>je (by simp only[YR];exact bH e g1) (S4 _ _ (SH _ _ e));obtain⟨tt,et,oN⟩:=(of4 [D1] (by intro a ha;rw[YR.mp ha];exact⟨_,S2 _ _ h1,λys z=>by cases z⟩)).offN nd ed (dN.same SD);exact⟨_,rfl,r,_,(j:Nat),_,rfl,rfl,h4,bY (j:=j) et,fin (.ref tt) H4 (some fc) S4 ep (.inr ⟨tt,fc,rfl,rfl,oN,dF⟩)⟩
  .rintro zs Hc ⟨S1,h1,ch⟩ zl;rw[ak,pll,aL (by rw[jD fit];exact aG _)]at ch;exact q D1 zs Hc S1 g1 h1 (ch.same wM)
structure Jk{α β:Type}(R:α->β->Prop)(xs:List α)(ys:List β):Prop where
 len:xs.length=ys.length
 at_:∀(k:Nat)(x:α)(y:β),xs[k]?=some x->ys[k]?=some y->R x y
theorem Jk.imp{α β:Type}{R S:α->β->Prop}{xs:List α}{ys:List β}(h:Jk R xs ys)(i:∀x y,R x y->S x y):Jk S xs ys:=⟨h.len,λk x y a b=>i x y (h.at_ k x y a b)⟩
theorem Jk.nil{α β:Type}{R:α->β->Prop} : Jk R [] []:=⟨rfl,λk x y a=>by simp at a⟩
theorem Jk.snoc{α β:Type}{R:α->β->Prop}{xs:List α}{ys:List β}{x:α}{y:β}(h:Jk R xs ys)(r:R x y):Jk R (xs++[x]) (ys++[y]):=by
 have l:=h.len;refine⟨by rw[aA,aA,l];rfl,λk u v a b=>?_⟩;rcases kZ a with⟨a1,a2⟩|⟨a1,a2⟩<;>rcases kZ b with⟨b1,b2⟩|⟨b1,b2⟩
 .exact h.at_ k u v a2 b2
 .lia
 .lia
 .subst a2;subst b2;exact r
def nsJ{α:Type}(R:Hp->V->α->Prop)(D1:Addr)(tgt:List α)(H:Hp)(k:Nat)(ys:Μ)(H':Hp):Prop:=Same H H'/\H' D1=some (.lst ys)/\Jk (R (del [D1] H')) ys (tgt.take k)
theorem WT{α:Type}{K:Frag}{i:Nat}{te:TE}{σ:L2.St}{H:Hp}{Q:VK}{a:Addr}{xs:Μ}(R:Hp->V->α->Prop)(tgt:List α)(mono:∀{H H':Hp}{v:V}{t:α},Same H H'->R H v t->R H' v t)(hσ:σ[i]?=some (some (.ref a)))(ha:H a=some (.lst xs))(l:xs.length=tgt.length)(sz:tgt.length<=sizeLine)
 (hb:∀(k:Nat)x t Hc D1 ys(R':VK),xs[k]?=some x->tgt[k]?=some t->Same H Hc->Hc D1=some (.lst ys)->(∀y H2,Same Hc H2->R (del [D1] H2) y t->R' y H2)->te (some x::σ) Hc R')
 (q:∀D Hc ys,Same H Hc->H D=none->Hc D=some (.lst ys)->Jk (R (del [D] Hc)) ys tgt->Q (.ref D) Hc):iR (CG K (tM (Ke i))) 1 (tMG (cQ 0)) (tMT Pb) (tM te) σ H Q:=by
 refine cM ⟨_,hσ,a,xs,rfl,ha,by exact aM (Nat.le_of_eq l) sz,λD1 hD=>⟨nsJ R D1 tgt H,⟨Same.upd hD,bG,.nil⟩,λk x ys Hc hk ⟨S1,h1,a1⟩ hy hc=>?_,λys Hc ⟨S1,h1,a1⟩ hy=>?_⟩⟩
 .have lk:k<tgt.length:=by rw[<- l];exact(ao.mp hk).1
  refine hb k x _ Hc D1 ys _ hk (aj lk) S1 h1 λy H2 S2 r=>⟨S2 _ _ h1,S2 _ _ hc,λb o z=>(bL (bH z hD)).trans (S2 _ _ (S1 _ _ z)),bG,?_⟩;rw[yR (by simp),cj (aj lk)];exact(a1.imp λ_ _ z=>mono (tH λb o _ e=>S2 _ _ e) z).snoc r
 .rw[l,aQ]at a1;exact q D1 Hc ys S1 hD h1 a1
theorem Xo{K:Frag}{tl te:TE}{σ:L2.St}{H:Hp}{Q:VK}(vs:Μ)(h:tl σ H λx H1=>∃a xs,x=.ref a/\H1 a=some (.lst xs)/\xs.length=vs.length/\vs.length<=sizeLine/\(∀(k:Nat)x y Hc(R:VK),xs[k]?=some x->vs[k]?=some y->Same H1 Hc->(∀H2,Same Hc H2->R y H2)->te (some x::σ) Hc R) /\
  ∀D Hc,Same H1 Hc->H1 D=none->Hc D=some (.lst vs)->Q (.ref D) Hc)(mono:∀{σ H}{R R':VK},(∀v H,R v H->R' v H)->tl σ H R->tl σ H R'):iR (CG K (tM tl)) 1 (tMG (cQ 0)) (tMT Pb) (tM te) σ H Q:=by
 refine cM (mono (λx H1 ⟨a,xs,e,ha,l,sz,hb,q⟩=>⟨a,xs,e,ha,by exact aM (Nat.le_of_eq l) sz,λD hD=>⟨vJ D H1 vs,⟨Same.upd hD,bG,rfl⟩,λk x ys Hc hk j hy hc=>?_,λys Hc ⟨S1,h1,ey⟩ hy=>?_⟩⟩) h)
 .have lk:k<vs.length:=by rw[<- l];exact(ao.mp hk).1
  exact hb k x _ Hc _ hk (aj lk) j.1 λH2 S=>⟨S _ _ j.2.1,S _ _ hc,j.next hD S (aj lk)⟩
 .rw[l,aQ]at ey;subst ey;exact q D Hc S1 hD h1
theorem YL{i:Nat}{σ:L2.St}{H:Hp}{R R':VK}(h:∀v H,R v H->R' v H):Ke i σ H R->Ke i σ H R':=λhP=>by obtain⟨v,a,b⟩:=hP;exact⟨v,a,h _ _ b⟩
theorem Y0{K:Frag}{i:Nat}{te:TE}{σ:L2.St}{H:Hp}{Q:VK}{a:Addr}{xs:Μ}(vs:Μ)(hσ:σ[i]?=some (some (.ref a)))(ha:H a=some (.lst xs))(l:xs.length=vs.length)(sz:vs.length<=sizeLine)(hb:∀(k:Nat)x y Hc(R:VK),xs[k]?=some x->vs[k]?=some y->Same H Hc->(∀H2,Same Hc H2->R y H2)->te (some x::σ) Hc R)
 (q:∀D Hc,Same H Hc->H D=none->Hc D=some (.lst vs)->Q (.ref D) Hc):iR (CG K (tM (Ke i))) 1 (tMG (cQ 0)) (tMT Pb) (tM te) σ H Q:=Xo vs ⟨_,hσ,a,xs,rfl,ha,l,sz,hb,q⟩ YL
theorem OD{te:TE}{g:TG}{D:Ends}{σ:L2.St}{H:Hp}(h:te σ H λx H1=>g x σ H1 D.nx):Ry te g D σ H:=h
noncomputable def ltL:List Nat:=(Str.ofString "abcdefghijklmnopqrstuvwxyz").cps.toList
theorem aa4:ltL.length=26:=by decide +kernel
theorem abT:∀a b:Fin 26,ltL[a.val]?=ltL[b.val]?->a=b:=by decide +kernel
theorem aeG{a b:Int}{c:Nat}(a0:0<=a)(a1:a<26)(b0:0<=b)(b1:b<26)(ha:ltL[a.toNat]?=some c)(hb:ltL[b.toNat]?=some c):a=b:=by
 have:=abT ⟨a.toNat,by lia⟩ ⟨b.toNat,by lia⟩ (ha.trans hb.symm);have:=ZH Fin.val this;simp only at this;lia
theorem Z0{a:Int}(a0:0<=a)(a1:a<26):∃c,atI (Str.ofString "abcdefghijklmnopqrstuvwxyz").cps.toList a=some c/\ltL[a.toNat]?=some c/\z7 c=true:=by
 obtain⟨k,rfl⟩:=Int.eq_ofNat_of_zero_le a0;have h:k<ltL.length:=by rw[aa4];lia
 exact⟨ltL[k],bY (aj h),aj h,Zs (aW h)⟩
def rJ(R:Nat->Str->Prop)(D:Addr)(H:Hp)(k:Nat)(ys:Μ)(Hc:Hp):Prop:=∃ss:Β,ys=ss.map V.str/\ss.length=k/\(∀i x,ss[i]?=some x->R i x)/\Hc=upd H D (.lst ys)
theorem rJ.next{R:Nat->Str->Prop}{D:Addr}{H:Hp}{k:Nat}{ys:Μ}{Hc:Hp}(h:rJ R D H k ys Hc){x:Str}(h0:R k x):rJ R D H (k+1) (ys++[.str x]) (upd Hc D (.lst (ys++[.str x]))):=by
 obtain⟨ws,rfl,rfl,ha,rfl⟩:=h;refine⟨ws++[x],by rw[bC];rfl,by rw[aA];rfl,λi y hy=>?_,oH⟩;by_cases hi:i<ws.length
 .rw[aF hi]at hy;exact ha i y hy
 .have hl:=(ao.mp hy).1;rw[aA]at hl;have hl:i<ws.length+1:=hl;have e:i=ws.length:=by lia
  subst e;rw[aD (aG _),Nat.sub_self]at hy;cases hy;exact h0
theorem rJ.at_{R:Nat->Str->Prop}{D:Addr}{H:Hp}{k:Nat}{ys:Μ}{Hc:Hp}(h:rJ R D H k ys Hc):Hc D=some (.lst ys):=by
 obtain⟨ws,rfl,hl,ha,rfl⟩:=h;exact bG
theorem rJ.same{R:Nat->Str->Prop}{D:Addr}{H:Hp}{k:Nat}{ys:Μ}{Hc:Hp}(h:rJ R D H k ys Hc)(hD:H D=none):Same H Hc:=by
 obtain⟨ws,rfl,hl,ha,rfl⟩:=h;exact Same.upd hD
theorem V0{R:Nat->Str->Prop}{ss:Β}(h:∀i x,ss[i]?=some x->R i x)(u:∀i j x,i<j->j<ss.length->R i x->R j x->False):ss.Nodup:=by
 unfold List.Nodup;rw[List.pairwise_iff_getElem];intro i j hi hj ij e;exact u i j ss[i] ij hj (h i _ (aj hi)) (by rw[e];exact h j _ (aj hj))
theorem acO{R:Nat->Str->Prop}{P:Str->Prop}{ss:Β}(h:∀i x,ss[i]?=some x->R i x)(u:∀i x,i<ss.length->R i x->P x):∀x∈ss,P x:=λx hx=>by
 obtain⟨i,hi⟩:=aX hx;exact u i x (ao.mp hi).1 (h i x hi)
theorem aaE{x:Str}{n:Nat} : (Ju x none (some (n:Int))).cps.toList=x.cps.toList.take n:=by
 unfold Ju;have hl:x.cps.toList.length=x.length:=Array.length_toList;show((x.cps.toList.drop 0).take (HT.sIx x.length x.length (some (n:Int))-0))=_;rw[HT.uf,List.drop_zero,Nat.sub_zero,<- hl];rw[List.take_eq_take_iff];lia
theorem R6{x:Str}{n:Nat} : (Ju x (some (n:Int)) none).cps.toList=x.cps.toList.drop n:=by
 unfold Ju;have hl:x.cps.toList.length=x.length:=Array.length_toList;show((x.cps.toList.drop (HT.sIx x.length 0 (some (n:Int)))).take (x.length-HT.sIx x.length 0 (some (n:Int))))=_;rw[HT.uf,<- hl];by_cases h:n<=x.cps.toList.length
 .rw[Nat.min_eq_left h];exact aL (by rw[List.length_drop];exact aG _)
 .rw[List.drop_eq_nil_of_le (by lia:x.cps.toList.length<=n),List.drop_eq_nil_of_le (by lia),List.take_nil]
theorem Nz{ys:Μ}{a b:Nat}(ab:a<=b)(h:b<=ys.length):nC ys (some (a:Int)) (some (b:Int))=(ys.drop a).take (b-a):=by
 unfold nC;rw[HT.uf,HT.uf,Nat.min_eq_left h,Nat.min_eq_left (aM ab h)]
theorem Kw:∀{ss:Β},(∀y∈ss,y.length=1)->(ss.map (·.length)).sum=ss.length
 |[],_=>rfl
 |y::ss,h=>by
  rw[List.map_cons,List.sum_cons,Kw λz hz=>h z (aJ _ hz),h y aP,List.length_cons];exact Nat.add_comm _ _
def nm1(c:Nat)(i:Nat)(x:Str):Prop:=x.cps.toList=List.replicate (i+1) c
def nm2(b:List Nat)(at_:Nat)(x0 st:Int)(i:Nat)(x:Str):Prop:=∃c,ltL[((x0+st*i)%26).toNat]?=some c/\z7 c=true/\x.cps.toList=b.take at_++c::b.drop at_
theorem aa3{b:List Nat}{at_:Nat}{x0 st:Int}{i j:Nat}{x:Str}(hs:st=1\/st=3\/st=5\/st=7\/st=9\/st=11)(ij:i<j)(hj:j<13)(h1:nm2 b at_ x0 st i x)(h2:nm2 b at_ x0 st j x):False:=by
 obtain⟨c,a1,_,e1⟩:=h1;obtain⟨d,a2,_,e2⟩:=h2;have e:=e1.symm.trans e2;have e:=List.append_cancel_left e;injection e with e _;subst e;have:=aeG (Z3 _ (by decide)) (YY _ (by decide)) (Z3 _ (by decide)) (YY _ (by decide)) a1 a2;rcases hs with rfl|rfl|rfl|rfl|rfl|rfl<;>lia
theorem uO(x:Str):x.cps.toList.length=x.length:=Array.length_toList
theorem adx{c i:Nat}{x:Str}(hc:z7 c=true)(hi:i<8)(h:nm1 c i x):Wd x:=by
 have l:=uO x;rw[h,aO]at l;refine⟨?_,by lia,by lia⟩;unfold Lt;rw[h,List.all_eq_true];intro d hd;rw[(List.mem_replicate.mp hd).2];exact hc
theorem aee{b:List Nat}{at_:Nat}{x0 st:Int}{i:Nat}{x:Str}(hb:b.all z7=true)(hl:b.length<=7)(h:nm2 b at_ x0 st i x):Wd x:=by
 obtain⟨c,_,hc,e⟩:=h;have l:=uO x;rw[e,aA,List.length_cons,bw,List.length_drop]at l;refine⟨?_,by lia,by omega⟩;unfold Lt;rw[e,List.all_eq_true];rw[List.all_eq_true]at hb;intro d hd;rcases Y1.mp hd with hd|hd
 .exact hb d (List.mem_of_mem_take hd)
 .rcases YU.mp hd with rfl|hd
  .exact hc
  .exact hb d (List.mem_of_mem_drop hd)
def sJN(P:Str->Prop)(D:Addr)(H:Hp)(k:Nat)(ys:Μ)(Hc:Hp):Prop:=∃ss:Β,ys=ss.map V.str/\ss.length=k/\(∀x∈ss,P x)/\Hc=upd H D (.lst ys)
theorem sJN.next{P:Str->Prop}{D:Addr}{H:Hp}{k:Nat}{ys:Μ}{Hc:Hp}(h:sJN P D H k ys Hc){x:Str}(h0:P x):sJN P D H (k+1) (ys++[.str x]) (upd Hc D (.lst (ys++[.str x]))):=by
 obtain⟨ws,rfl,hl,ha,rfl⟩:=h;refine⟨ws++[x],by rw[bC];rfl,by rw[aA,hl];rfl,λy hy=>?_,oH⟩;rcases Y1.mp hy with hy|hy
 .exact ha y hy
 .rw[YR.mp hy];exact h0
theorem sJN.at_{P:Str->Prop}{D:Addr}{H:Hp}{k:Nat}{ys:Μ}{Hc:Hp}(h:sJN P D H k ys Hc):Hc D=some (.lst ys):=by
 obtain⟨ws,rfl,hl,ha,rfl⟩:=h;exact bG
def RK:Sp:=λvs H Q _=>∃(c:Int)(n:Nat),vs=[.int c,.int n]/\n<=12/\∀(l:Addr)(xs:Β)H',Same H H'->H l=none->H' l=some (.lst (xs.map V.str))->xs.length=n->(∀x∈xs,Wd x)->xs.Nodup->Q (.ref l) H'
theorem QD{a b:TT}{t v:TS}{D:Ends}{σ:L2.St}{H:Hp}(p q:Bool)(ha:∀Q:Bool->Hp->Prop,Q p H->a σ H Q)(hb:∀Q:Bool->Hp->Prop,Q q H->b σ H Q)(ht:(p&&q)=true->t { D with nx:=v D } σ H)(hu:v D σ H):ur (Q8 (aeT a b) t Iw) v D σ H:=by
 refine ha _ ?_;cases p with
 |false=>exact hu
 |true =>
  refine hb _ ?_;cases q with
  |false=>exact hu
  |true=>exact ht rfl
theorem aaw(F:Fun K Ce Ce yI f fd)(T:Txt K mg D)(dh:OkF P w K mg base 1 iz iC gP):cJ P w K mg base CX0 2 f fd Dg RK:=by
 refine F.okB tX ?_ ?_
 .rintro _ _ _ _ ⟨c,n,rfl,_⟩;rfl
 .rintro cdv A outer s H _ Q E hr ⟨c,n,rfl,hn,q⟩;have z1000:1000<=sizeLine:=by decide
  have lL:(Str.ofString "abcdefghijklmnopqrstuvwxyz").length<=sizeLine:=aM (show(Str.ofString "abcdefghijklmnopqrstuvwxyz").length<=1000 by decide +kernel) z1000;refine⟨_,(f9 (PSB.mk (bZ (i:=2) tX.nd (hx:=(Or.inr rfl)) uK))
   (f9 (PSB.mk (bZ (i:=3) tX.nd (hx:=(Or.inr rfl)) (bR dh hr.md (bF pv0 (bF bK)))))
   (f9 (PSB.mk (cW (PW.pt (pw_and (cD lG (bV dU (bT bU pv3 bK)) bK (cH _)) (pw_and1 (cD Qd pv1 bK (cH _)))))
    (bO (cg (kJ (bQ yI) ux ux ["_law_k"] (eF T.gY (bF pv1).mono) (dH (i:=0)) cU (bV aaZ (bT Uu pv3 (bV dU (bT bU pv4 bK))) (bV d9 pv0)))))
    cF))
   (f9 (PSB.mk (bZ (i:=4) tX.nd (hx:=(Or.inr rfl)) (ahT PySem.F.slot_str_join PySem.F.type_str_join aa5 uK (bF (kJ (bQ yI) ux ux ["_law_x"] (cV ((mZ Bt pv3 (iQ bK) (iQ (bV d9 bK (bV dU (bT bU pv3 bK)))))).mono) (dH (i:=0)) cU (bT Uu pv3 (bV dU pv0)))))))
   (f9 (PSB.mk (bZ (i:=5) tX.nd (hx:=(Or.inr rfl)) (bV dU (bT bU pv3 bK))))
   (f9 (abF (i:=6) tX.nd rfl (Or.inr rfl) (aa9 (ach (Kr yL (Kr yL (Kr yL (Kr yL (Kr yL (Kr yL abN))))))) (bV dU (bT bU pv3 bK)) (λ_ _=>rfl)))
   (Q7 (PSB.mk (cg (kJ (bQ yI) ux ux ["_law_k"] (eF T.gY (bF pv1).mono) (dH (i:=0)) cU (bV V2 (bV V2 (mZ Zb pv5 Oq (iQ pv6)) (bT Uu pv3 (bV dU (bV d9 (bT bU pv4 bK) (bV cT pv7 pv0))))) (mZ Zb pv5 (iQ pv6) Oq)))))))))))),?_⟩
  unfold gP;refine⟨_,rfl,c,11,rfl,by decide,λl xs H1 S1 hl hl1 hx hr'=>?_⟩;have at_:∀j,j<11->∃y,atI (xs.map V.int) (j:Nat)=some (.int y)/\0<=y:=λj hj=>by
   have:j<xs.length:=by lia
   exact⟨xs[j],bY (j:=j) (by rw[aq,aj this];rfl),(hr' _ (aW this)).1⟩
  obtain⟨x0,a0,p0⟩:=at_ 0 (by decide);obtain⟨x1,a1,p1⟩:=at_ 1 (by decide);obtain⟨x9,a9,p9⟩:=at_ 9 (by decide);obtain⟨x10,a10,p10⟩:=at_ 10 (by decide);dsimp only[cQ];refine QD (decide (x0%3=1)) (decide ((n:Int)<=8)) (λQ' hq=>?_) (λQ' hq=>?_) (λhc=>?_) ?_
  .walk_at "rd"
   exact⟨_,hl1,_,a0,_,rfl,hq⟩
  .walk_at "rd"
   exact hq
  .simp only[Bool.and_eq_true,decide_eq_true_eq]at hc;obtain⟨c1,e1,g1,lc1⟩:=Z0 (a:=x1%26) (Z3 _ (by decide)) (YY _ (by decide));refine iI ?_
   walk_at "rd"
   refine⟨n,rfl,by exact aM hn (by decide),λD2 hD2=>⟨rJ (nm1 c1) D2 H1,⟨[],rfl,rfl,by simp,rfl⟩,?_,?_⟩⟩
   .rintro k ys Hc hk j hy;have hlc:Hc l=some (.lst (xs.map V.int)):=j.same hD2 _ _ hl1;unfold ac6
    walk_at "rd"
    refine⟨_,hlc,_,a1,_,rfl,lL,c1,e1,c1,rfl,by lia,by lia,λz hz=>⟨j.at_,j.next ?_⟩⟩;rw[show((k:Int)+1).toNat=k+1 by lia]at hz;exact hz
   .rintro ys Hc ⟨ss,rfl,hsl,hss,rfl⟩ hy;refine q D2 ss _ (S1.trans (Same.upd hD2)) (Same.free S1 hD2) bG hsl (acO hss λi x hi h=>adx lc1 (by lia) h) (V0 hss λi j x ij hj h1 h2=>?_);have:=ZH List.length (h1.symm.trans h2);rw[aO,aO]at this;lia
  .walk_at "rd"
   refine cM ?_
   walk_at "rd"
   obtain⟨m,em,hm⟩ : ∃m:Nat,x1%8=m/\m<=7:=⟨(x1%8).toNat,by lia,by lia⟩;refine⟨_,hl1,_,a1,_,rfl,_,.of hl1,λp hp=>?_⟩;have ec:nC (xs.map V.int) (some 2) (some (2+x1%8))=((xs.drop 2).take m).map V.int:=by
    rw[em,List.map_take,List.map_drop];have:=Nz (ys:=xs.map V.int) (a:=2) (b:=2+m) (X2 _ _) (by rw[ak];lia);rw[show 2+m-2=m by exact Nat.add_sub_cancel_left _ _]at this;exact this
   rw[ec];have ml:((xs.drop 2).take m).length=m:=by rw[bw,List.length_drop];lia
   have S2:Same H1 (upd H1 p (.lst (((xs.drop 2).take m).map V.int))):=Same.upd hp;generalize upd H1 p (.lst (((xs.drop 2).take m).map V.int))=H2 at S2 ⊢;generalize(xs.drop 2).take m=us at ml ⊢;refine⟨by rw[ak];lia,λD1 hD1=>⟨sJN (λx=>Lt x/\x.length=1) D1 H2,⟨[],rfl,rfl,by simp,rfl⟩,?_,?_⟩⟩
   .rintro k y1 ys Hc hk j hy hpc;rw[aq]at hk;cases er:us[k]? with
    |none=>rw[er]at hk;cases hk
    |some i =>
     rw[er]at hk;cases hk;obtain⟨c',e',hc'⟩:=Lt.one (Z3 i (show(26:Int)≠0 by decide)) (YY i (by decide));exact⟨i,rfl,lL,c',e',j.at_,hpc,j.next ⟨hc',rfl⟩⟩
   .rintro ys Hc ⟨ss,rfl,hl8,hss,rfl⟩ hy;rw[ak,ml]at hl8;have stL:Lt (Txt.join (Str.ofString "") ss):=Lt.glued λy hy=>(hss y hy).1;have sum1:(ss.map (·.length)).sum=m:=by rw[Kw λy hy=>(hss y hy).2,hl8]
    have e0:(Str.ofString "").length=0:=by decide +kernel
    have stN:(Txt.join (Str.ofString "") ss).length=m:=by
     show(Builtin.Str.glued (Str.ofString "") ss).length=m;rw[size_glued,sum1,e0,Nat.mul_zero];rfl
    have S3:Same H (upd H2 D1 (.lst (ss.map V.str))):=S1.trans (S2.trans (Same.upd hD1));have hl3:upd H2 D1 (.lst (ss.map V.str)) l=some (.lst (xs.map V.int)):=Same.upd hD1 _ _ (S2 _ _ hl1);refine⟨ss,bG,by rw[sum1,e0];lia,?_⟩;generalize upd H2 D1 (.lst (ss.map V.str))=H3 at S3 hl3 ⊢;generalize Txt.join (Str.ofString "") ss=st at stL stN ⊢;refine⟨_,hl3,_,a9,_,rfl,by decide,λp2 hp2=>?_⟩;have hl4:upd H3 p2 (.lst [.int 1,.int 3,.int 5,.int 7,.int 9,.int 11]) l=some (.lst (xs.map V.int)):=Same.upd hp2 _ _ hl3;have S4:Same H (upd H3 p2 (.lst [.int 1,.int 3,.int 5,.int 7,.int 9,.int 11])):=S3.trans (Same.upd hp2);have hp4:upd H3 p2 (.lst [.int 1,.int 3,.int 5,.int 7,.int 9,.int 11]) p2=some (.lst [.int 1,.int 3,.int 5,.int 7,.int 9,.int 11]):=bG;generalize upd H3 p2 (.lst [.int 1,.int 3,.int 5,.int 7,.int 9,.int 11])=H4 at S4 hl4 hp4 ⊢;refine⟨_,hl4,_,a10,_,rfl,?_⟩;obtain⟨sv,es,hs⟩ : ∃sv:Int,atI [V.int 1,V.int 3,V.int 5,V.int 7,V.int 9,V.int 11] (x10%6)=some (.int sv)/\(sv=1\/sv=3\/sv=5\/sv=7\/sv=9\/sv=11):=by
     obtain e|e|e|e|e|e:x10%6=0\/x10%6=1\/x10%6=2\/x10%6=3\/x10%6=4\/x10%6=5:=by lia
     .exact⟨1,by rw[e];exact bY (j:=0) rfl,by decide⟩
     .exact⟨3,by rw[e];exact bY (j:=1) rfl,by decide⟩
     .exact⟨5,by rw[e];exact bY (j:=2) rfl,by decide⟩
     .exact⟨7,by rw[e];exact bY (j:=3) rfl,by decide⟩
     .exact⟨9,by rw[e];exact bY (j:=4) rfl,by decide⟩
     .exact⟨11,by rw[e];exact bY (j:=5) rfl,by decide⟩
    obtain⟨ap,eap,hap⟩ : ∃ap:Nat,x9%8=ap/\ap<=7:=⟨(x9%8).toNat,by lia,by lia⟩;refine⟨_,es,iI ?_⟩;rw[eap]
    walk_at "rd"
    refine⟨n,rfl,by exact aM hn (by decide),λD2 hD2=>⟨rJ (nm2 st.cps.toList ap x0 sv) D2 H4,⟨[],rfl,rfl,by simp,rfl⟩,?_,?_⟩⟩
    .rintro k ys Hc hk j hy;have hlc:Hc l=some (.lst (xs.map V.int)):=j.same hD2 _ _ hl4;obtain⟨c2,e2,g2,lc2⟩:=Z0 (a:=(x0+sv*k)%26) (Z3 _ (by decide)) (YY _ (by decide));have t1:(Ju st none (some (ap:Int))).length<=7:=by rw[<- uO,aaE,bw,uO];lia
     have t2:(Ju st (some (ap:Int)) none).length<=7:=by rw[<- uO,R6,List.length_drop,uO];lia
     have t3:({ cps:=#[c2] } : Str).length=1:=rfl;refine⟨by lia,_,hlc,_,a0,Bd.sm (by lia),Bd.sm (by lia),_,rfl,lL,c2,e2,by lia,by lia,by rw[acB];lia,j.at_,j.next ⟨c2,g2,lc2,?_⟩⟩;rw[Wj,Wj,aaE,R6,WZ];rfl
    .rintro ys Hc ⟨ns,rfl,hsl,hns,rfl⟩ hy;refine q D2 ns _ (S4.trans (Same.upd hD2)) (Same.free S4 hD2) bG hsl (acO hns λi x hi h=>aee stL (by rw[uO];exact aM (Nat.le_of_eq stN) hm) h) (V0 hns λi j x ij hj h1 h2=>aa3 hs ij (by lia) h1 h2)
noncomputable def clsOf(D:Adr)(so:Int):Addr:=if so=0 then D.Sure else if so=1 then D.Toss else if so=2 then D.Even else D.Mixed
structure Drawn(so:Int)(rs:Β)(ws:List Int)(S:Int):Prop where
 s0:0<=so
 s3:so<=3
 len:rs.length=ws.length
 wt:Wt (rs.zip ws) S
 ne:1<=rs.length
 a0:so=0->rs.length=1/\ws=[1]/\S=1
 a1:so=1->rs.length=2
 a2:so=2->ws=List.replicate rs.length 1/\S=rs.length
theorem QH:∀rs:Β,rs.zip (List.replicate rs.length (1:Int))=rs.map λr=>(r,(1:Int))
 |[]=>rfl
 |r::rs=>by rw[List.length_cons,List.replicate_succ,List.zip_cons_cons,QH rs];rfl
structure PI(H:Hp)(ps:Μ)(rs:List Nat)(ws:List Int)(S:Int):Prop where
 len:ps.length=rs.length
 at_:∀(k r:Nat)(x:Int),rs[k]?=some r->ws[k]?=some x->∃t c:Addr,ps[k]?=some (.ref t)/\H t=some (.tup [.int (r:Nat),.ref c])/\H c=some (.tup [.int (Ac.lw x S).1,.int (Ac.lw x S).2])
theorem PI.same{H H':Hp}{ps:Μ}{rs:List Nat}{ws:List Int}{S:Int}(h:PI H ps rs ws S)(T:Same H H'):PI H' ps rs ws S:=⟨h.len,λk r x e1 e2=>let⟨t,c,a,b,d⟩:=h.at_ k r x e1 e2;⟨t,c,a,T _ _ b,T _ _ d⟩⟩
def Bx(ns:Β)(rs:List Nat)(nms:Β):Prop:=nms.length=rs.length/\∀(k r:Nat)(m:Str),rs[k]?=some r->nms[k]?=some m->ns[r]?=some m
inductive Hw(K:Frag)(D:Adr)(vs:Μ)(H:Hp)(Q:VK):Prop
 |mk (so:Int) (d n lp p:Addr) (t:Str) (x y S:Int) (rs:List Nat) (ws:List Int) (ps:Μ) (ns nms:Β) (h0:vs=[.str t,.ref d,.ref n]) (h1:H d=some (.tup [.int so,.ref p,.ref lp])) (h2:Wd t) (h3:Fk K H p x y) (h4:H lp=some (.lst ps)) (h5:PI H ps rs ws S) (h6:H n=some (.lst (ns.map V.str))) (h7:Bx ns rs nms) (h8:Drawn so nms ws S) (h9:∀H' s ld ys us,Same H H'->H s=none->H ld=none->Wg K H' s (clsOf D so) t p (Ac.ways (nms.zip ws) S) ld ys us->Q (.ref s) H'):Hw K D vs H Q
def QX(K:Frag)(D:Adr):Sp:=λvs H Q _=>Hw K D vs H Q
def bJ(D1:Addr)(gs:List (Str×Int))(S:Int)(H:Hp)(k:Nat)(ys:Μ)(H':Hp):Prop:=Same H H'/\H' D1=some (.lst ys)/\PW H' ys (gs.take k) S
def eJ(D1:Addr)(ss:Β)(H:Hp)(k:Nat)(ys:Μ)(H':Hp):Prop:=Same H H'/\H' D1=some (.lst ys)/\ys=(ss.take k).map V.str
theorem PW.snocT{H:Hp}{xs:Μ}{gs:List (Str×Int)}{S x:Int}{m:Str}{t c:Addr}(h:PW H xs gs S)(ht:H t=some (.tup [.str m,.ref c]))(hc:H c=some (.tup [.int (Ac.lw x S).1,.int (Ac.lw x S).2])):PW H (xs++[.ref t]) (gs++[(m,x)]) S:=by
 refine⟨by rw[aA,aA,h.len];rfl,λk g' e=>?_⟩;by_cases hk:k<gs.length
 .rw[aF hk]at e;obtain⟨t',c',a,b⟩:=h.at_ k g' e;exact⟨t',c',by rw[aF (by rw[h.len];exact hk)];exact a,b⟩
 .rw[aD (Nat.le_of_not_lt hk)]at e;have e0:k-gs.length=0:=by
   have:=(ao.mp e).1;simp at this;omega
  rw[e0]at e;cases e;refine⟨t,c,?_,ht,hc⟩;rw[aD (by rw[h.len];exact Nat.le_of_not_lt hk),h.len,e0];rfl
theorem Zg(F:Fun K A_ A_ Cr f fd)(T:Txt K mg D)(vP:OkI P w K mg base CX0 5 D.Sure_init qg (Cy (K:=K) D))(fV:OkI P w K mg base CX0 5 D.Mixed_init jc (j8 K D))(vW:OkI P w K mg base CX0 6 D.Toss_init pR (BR K D))
 (wO:OkI P w K mg base CX0 6 D.Even_init qt (Dj K D)):cJ P w K mg base CX0 8 f fd CZ (QX K D):=by
 refine F.ok vD ?_ ?_
 .rintro _ _ _ _ ⟨so,d,n,lp,p,t,x,y,S,rs,ws,ps,ns,nms,rfl,_⟩;rfl
 .rintro cdv A outer s H _ Q E hr ⟨so,d,n,lp,p,t,x,y,S,rs,ws,ps,ns,nms,rfl,hd,ht,hf,hlp,hp,hns,no,dr,q⟩;have fam:∀C,(C=D.Sure\/C=D.Mixed\/C=D.Toss\/C=D.Even)->Fam D C:=by
   intro C hC;unfold Fam;rcases hC with h|h|h|h<;>simp[h]
  have s0:=dr.s0;have s3:=dr.s3;have hlen:=dr.len;have gl:(nms.zip ws).length=nms.length:=by rw[List.length_zip];lia
  have g8:=dr.wt.len;have z9:100<sizeLine:=by decide
  refine⟨_,(bI (oX pv1 (gJ (n:=3) rfl (cG (cB (i:=4) vD.nd) (cG (cB (i:=5) vD.nd) (cG (cB (i:=6) vD.nd) fX)))))
   (bI (yh (bQ Cr) Ay Ay ["_law_room","_law_chance"] (cV (pv 6).mono) (gJ (n:=2) rfl (cG (dH (i:=0)) (cG (dH (i:=1)) fX))) cU (gO (bF (bT bU pv4 pv0) (bF pv1))) (cB (i:=3) vD.nd))
   (bI (cW (cD lG pv4 bK (cH _))
    (bO (cg (xH T.aby vP hr.md T.aeF (bF pv0 (bF pv5 (bF (bT cA (bT bU pv3 bK) bK)))))))
    cF)
   (bI (cW (cD lG pv4 bK (cH _))
    (bO (cg (xH T.abt vW hr.md T.aeC (bF pv0 (bF pv5 (bF (bT cA (bT bU pv3 bK) bK) (bF (bT cA (bT bU pv3 bK) bK) (bF (bT cA (bT bU pv3 bK) bK)))))))))
    cF)
   (bI (cW (cD lG pv4 bK (cH _))
    (bO (cg (xH T.acj wO hr.md T.adQ (bF pv0 (bF pv5 (bF (kJ (bQ Cr) Ay Ay ["_law_room","_law_chance"] (cV (pv 3).mono) (gJ (n:=2) rfl (cG (dH (i:=0)) (cG (dH (i:=1)) fX))) cU pv0)))))))
    cF)
   (bO (cg (xH T.ZL fV hr.md T.Pn (bF pv0 (bF pv5 (bF pv3))))))))))),?_⟩
  refine b_ λR0 hR0=>?_
  walk_at "rd"
  refine⟨_,hd,rfl,_,_,rfl,_,_,rfl,_,_,rfl,rfl,?_⟩;subst hR0;refine b_ λR1 hR1=>?_;refine cL (xJ ?_)
  walk_at "rd"
  have l100:ps.length<=sizeLine:=by rw[hp.len,<- no.1];lia
  refine⟨ps,hlp,l100,λD1 hD=>⟨bJ D1 (nms.zip ws) S H,⟨Same.upd hD,bG,rfl,λk g e=>by simp at e⟩,?_,?_⟩⟩
  .rintro k v ys Hc hk ⟨S1,h1,pw⟩ hy hlc pre hpre;have lk:k<rs.length:=by rw[<- hp.len];exact(ao.mp hk).1
   have e1:rs[k]?=some rs[k]:=aj lk;have e2:nms[k]?=some (nms[k]'(by rw[no.1];exact lk)):=aj _;have e3:ws[k]?=some (ws[k]'(by rw[<- hlen,no.1];exact lk)):=aj _;have eg:(nms.zip ws)[k]?=some (nms[k]'(by rw[no.1];exact lk),ws[k]'(by rw[<- hlen,no.1];exact lk)):=List.getElem?_zip_eq_some.mpr ⟨e2,e3⟩;have en:=no.2 _ _ _ e1 e2;obtain⟨tt,c,ea,eb,ec⟩:=(hp.same S1).at_ k _ _ e1 e3;rw[hk]at ea;cases ea;generalize rs[k]=r at *;generalize nms[k]'(by rw[no.1];exact lk)=m at *;generalize ws[k]'(by rw[<- hlen,no.1];exact lk)=z at *;obtain⟨u1,u2,rfl⟩:=Ak hpre
   walk_at "rd"
   refine⟨_,eb,rfl,_,_,rfl,_,_,rfl,rfl,[_,_],rfl,rfl,?_⟩;refine⟨_,_,rfl,S1 _ _ hns,_,bY (by rw[aq,en];rfl),fQ,λp1 hp1=>?_⟩;have nD:D1≠p1:=bH h1 hp1;refine⟨(bL nD).trans h1,(bL (bH hlc hp1)).trans hlc,λb o e=>(bL (bH e hD)).trans ((bL (bH (S1 _ _ e) hp1)).trans (S1 _ _ e)),bG,?_⟩;rw[cj eg];refine(pw.imp λt ys e=>?_).snocT (c:=c) ?_ ?_
   .exact(bL (d8 e h1)).trans ((bL (bH e hp1)).trans e)
   .exact(bL nD.symm).trans bG
   .exact(bL (d8 ec h1)).trans ((bL (bH ec hp1)).trans ec)
  .rintro ys Hc ⟨S1,h1,pw⟩ hy;rw[hp.len,<- no.1,<- gl,aQ]at pw;have hw:=ht.word;have h1000:t.length<=1000:=aM ht.hi (by decide);have hf':=hf.same S1;have mk:∀{G:Hp}{C s dx:Addr},G s=none->G dx=none->¬dx=s->Same G (upd (upd G dx (.own s)) s (.ins C dx [])):=λ{G C s dx}h1 h2 h3 b o e=>by
    rw[bL (bH e h1),bL (bH e h2)];exact e
   have kp:∀{G:Hp}{C s dx:Addr}{H':Hp},Same H G->G s=none->G dx=none->¬dx=s->Keep s (upd (upd G dx (.own s)) s (.ins C dx [])) H'->Same H H':=λ{G C s dx H'}SG h1 h2 h3 k b o e=>k b o (bH (SG _ _ e) h1) (mk h1 h2 h3 b o (SG _ _ e));subst hR1;obtain e|e|e|e:so=0\/so=1\/so=2\/so=3:=by lia
   .subst e;obtain⟨l1,rfl,rfl⟩:=dr.a0 rfl;obtain⟨r,rfl⟩:=List.length_eq_one_iff.mp l1;have wr:=dr.wt.wd (r,1) (by simp);obtain⟨t0,c0,ea,eb,ec⟩:=pw.at_ 0 (r,1) rfl;refine vR (λR r=>⟨_,rfl,r⟩) rfl λKn hK=>gM ?_;refine⟨_,rfl,_,rfl,_,rfl,_,_,_,_,rfl,rfl,h1,bY (j:=0) ea,_,_,_,_,rfl,rfl,eb,cY,λo dx g1 g2 g3=>⟨o,dx,t,r,p,x,y,rfl,bG,h1000,hw,wr.1,wr.2,hf'.same (mk g1 g2 g3),λt l H' f k e1 e2 e3=>⟨rfl,?_⟩⟩⟩;refine q H' o l [.ref t] [(r,D.ONE)] (kp S1 g1 g2 g3 k) (Same.free S1 g1) (Same.free S1 (Same.free (mk g1 g2 g3) f)) ⟨⟨dx,e3⟩,e2,?_⟩;show WF K H' [.ref t] (Ac.ways [(r,1)] 1) [(r,D.ONE)];rw[Ac.Z2];exact .cons e1 (T.uN H') .nil
   .subst e;have l2:=dr.a1 rfl;obtain⟨r1,r2,rfl⟩:=Ak l2;obtain⟨w1,w2,rfl⟩:=Ak (hlen.symm.trans l2);have wt:=dr.wt;have es:w2=S-w1:=by
     have:=wt.sum;simp at this;lia
    subst es;obtain⟨t0,c0,ea,eb,ec⟩:=pw.at_ 0 (r1,w1) rfl;obtain⟨t1,c1,fa,fb,fc⟩:=pw.at_ 1 (r2,S-w1) rfl;refine nH (λR r=>⟨_,rfl,r⟩) (by decide) (vR (λR r=>⟨_,rfl,r⟩) rfl λKn hK=>gM ?_);refine⟨_,rfl,_,rfl,_,rfl,_,_,_,_,rfl,rfl,h1,bY (j:=0) ea,_,_,_,_,rfl,rfl,eb,cR,_,rfl,_,_,_,_,rfl,rfl,h1,bY (j:=0) ea,_,_,_,_,rfl,rfl,eb,cY,_,rfl,_,_,_,_,rfl,rfl,h1,bY (j:=1) fa,_,_,_,_,rfl,rfl,fb,cY,λo dx g1 g2 g3=>?_⟩;exact⟨o,dx,t,r1,r2,p,c0,x,y,w1,S,rfl,bG,h1000,hw,hf'.same (mk g1 g2 g3),mk g1 g2 g3 _ _ ec,wt,λH' ld ys us f k d=>⟨rfl,q H' o ld ys us (kp S1 g1 g2 g3 k) (Same.free S1 g1) (Same.free S1 (Same.free (mk g1 g2 g3) f)) d⟩⟩
   .subst e;obtain⟨ew,rfl⟩:=dr.a2 rfl;subst ew;have hz:nms.zip (List.replicate nms.length (1:Int))=nms.map λr=>(r,(1:Int)):=QH nms;have wt:=dr.wt;rw[hz]at wt q;have ml:(nms.map λr=>(r,(1:Int))).length=nms.length:=ak ..;rw[hz]at pw;refine nH (λR r=>⟨_,rfl,r⟩) (by decide) (nH (λR r=>⟨_,rfl,r⟩) (by decide) (vR (λR r=>⟨_,rfl,r⟩) rfl λKn hK=>gM ?_));refine⟨_,rfl,_,rfl,Q_ (xJ ⟨_,rfl,_,ys,rfl,h1,by rw[pw.len,ml];lia,λD2 hD2=>⟨eJ D2 nms Hc,⟨Same.upd hD2,bG,rfl⟩,?_,?_⟩⟩)⟩
    .rintro k v zs H3 hk ⟨S3,h3,ez⟩ hy3 h13 pre hpre;have lk:k<nms.length:=by rw[<- ml,<- pw.len];exact(ao.mp hk).1
     have e2:nms[k]?=some nms[k]:=aj lk;obtain⟨t0,c0,ea,eb,ec⟩:=pw.at_ k (nms[k],1) (by rw[aq,e2];rfl);rw[hk]at ea;cases ea;generalize nms[k]=m at *;obtain⟨u1,u2,rfl⟩:=Ak hpre;refine⟨_,_,rfl,S3 _ _ eb,rfl,⟨_,_,rfl,_,_,rfl,rfl,[_,_],rfl,rfl,⟨_,rfl,h3,h13,λb o e=>(bL (bH e hD2)).trans (S3 _ _ e),bG,?_⟩⟩⟩;rw[cj e2,bC,ez];rfl
    .rintro zs H3 ⟨S3,h3,ez⟩ hy3 o dx g1 g2 g3;rw[pw.len,ml,aQ]at ez;subst ez;exact⟨o,dx,t,p,D2,x,y,nms,rfl,bG,h1000,hw,(hf'.same S3).same (mk g1 g2 g3),mk g1 g2 g3 _ _ h3,wt,λH' ld ys us f k d=>⟨rfl,q H' o ld ys us (kp (S1.trans S3) g1 g2 g3 k) (Same.free (S1.trans S3) g1) (Same.free (S1.trans S3) (Same.free (mk g1 g2 g3) f)) d⟩⟩
   .subst e;refine nH (λR r=>⟨_,rfl,r⟩) (by decide) (nH (λR r=>⟨_,rfl,r⟩) (by decide) (nH (λR r=>⟨_,rfl,r⟩) (by decide) (gM ?_)));refine⟨_,rfl,_,rfl,_,rfl,λo dx g1 g2 g3=>?_⟩;exact⟨o,dx,D.Mixed,t,p,D1,x,y,ys,_,_,rfl,bG,fam _ (by simp),h1000,hw,hf'.same (mk g1 g2 g3),mk g1 g2 g3 _ _ h1,pw.same (mk g1 g2 g3),dr.wt,λH' ld ys us f k d=>⟨rfl,q H' o ld ys us (kp S1 g1 g2 g3 k) (Same.free S1 g1) (Same.free S1 (Same.free (mk g1 g2 g3) f)) d⟩⟩
theorem Ny{t b:Int} : Ac.lw (b-t) b=((Ac.lw t b).2-(Ac.lw t b).1,(Ac.lw t b).2):=by
 unfold Ac.lw;rw[Int.gcd_self_sub_left,Int.sub_ediv_of_dvd b (Int.gcd_dvd_left t b)]
theorem V6{b:Int} : Ac.lw 1 b=(1,b):=by
 unfold Ac.lw;rw[Int.one_gcd];simp
structure Zc(x y:Int):Prop where
 gcd:Int.gcd x y=1
 sa:x.natAbs<=10^30
 sb:y<=1000
structure wu(n:Nat)(so:Int)(rs:List Nat)(ws:List Int)(S:Int):Prop where
 s0:0<=so
 s3:so<=3
 len:rs.length=ws.length
 pos:0<S
 le:S<=5000
 l8:rs.length<=4
 lo:∀x∈ws,0<=x
 sum:ws.sum=S
 ne:1<=rs.length
 a0:so=0->rs.length=1/\ws=[1]/\S=1
 a1:so=1->rs.length=2
 a2:so=2->ws=List.replicate rs.length 1/\S=rs.length
 lt:∀r∈rs,r<n
theorem wu.drawn{n:Nat}{so S:Int}{rs:List Nat}{ws:List Int}{ns nms:Β}(h:wu n so rs ws S)(no:Bx ns rs nms)(hw:∀m∈ns,Wd m):Drawn so nms ws S:=by
 have e:=no.1;have l:=h.len;refine⟨h.s0,h.s3,by exact Eq.trans e l,⟨h.pos,Int.le_trans h.le (by decide),?_,λg hg=>?_,λg hg=>?_,?_⟩,by rw[e];exact h.ne,λz=>by rw[e];exact h.a0 z,λz=>by rw[e];exact h.a1 z,λz=>by rw[e];exact h.a2 z⟩
 .rw[List.length_zip];have:=h.l8;lia
 .obtain⟨k,hk⟩:=aX hg;obtain⟨a,b⟩:=List.getElem?_zip_eq_some.mp hk;have lk:=(ao.mp a).1;have er:rs[k]?=some (rs[k]'(aV lk (Nat.le_of_eq e))):=aj _;have w:=hw _ (aC (no.2 k _ _ er a));exact⟨aM w.hi (by decide),w.word⟩
 .exact h.lo _ (List.of_mem_zip hg).2
 .have:(nms.zip ws).map (·.2)=ws:=List.map_snd_zip (by lia);rw[this];exact h.sum
theorem j4{t v:TS}{D:Ends}{σ:L2.St}{H:Hp}{i k:Int}(hσ:σ[4]?=some (some (.int i)))(ne:i≠k)(h:v D σ H):ur (Q8 (Ho (tOp rEq (Ke 4) (tC (.int k)))) t Iw) v D σ H:=by
 refine⟨_,hσ,rfl,_,rfl,?_⟩;dsimp only;rw[ZZ (by simp[ne])];exact h
theorem Ai{t v:TS}{D:Ends}{σ:L2.St}{H:Hp}{i k:Int}(hσ:σ[4]?=some (some (.int i)))(e:i=k)(h:∀Kn:L2.St->Hp->Prop,(∀σ' H',v D σ' H'->Kn σ' H')->t { D with nx:=Kn } σ H):ur (Q8 (Ho (tOp rEq (Ke 4) (tC (.int k)))) t Iw) v D σ H:=by
 refine⟨_,hσ,rfl,_,rfl,?_⟩;dsimp only;rw[ZY (by simp[e])];exact h _ λ_ _ z=>z
theorem PI.imp{H H':Hp}{ps:Μ}{rs:List Nat}{ws:List Int}{S:Int}(T:∀t ys,H t=some (.tup ys)->H' t=some (.tup ys))(h:PI H ps rs ws S):PI H' ps rs ws S:=⟨h.len,λk r x e1 e2=>let⟨t,c,a,b,d⟩:=h.at_ k r x e1 e2;⟨t,c,a,T _ _ b,T _ _ d⟩⟩
theorem PI.snoc{H:Hp}{ps:Μ}{rs:List Nat}{ws:List Int}{S x:Int}{r:Nat}{t c:Addr}(h:PI H ps rs ws S)(hl:ws.length=rs.length)(ht:H t=some (.tup [.int r,.ref c]))(hc:H c=some (.tup [.int (Ac.lw x S).1,.int (Ac.lw x S).2])):PI H (ps++[.ref t]) (rs++[r]) (ws++[x]) S:=by
 refine⟨by rw[aA,aA,h.len];rfl,λk r' x' e1 e2=>?_⟩;by_cases hk:k<rs.length
 .rw[aF hk]at e1;rw[aF (by lia)]at e2;obtain⟨t',c',a,b⟩:=h.at_ k r' x' e1 e2;exact⟨t',c',by rw[aF (by rw[h.len];exact hk)];exact a,b⟩
 .rw[aD (Nat.le_of_not_lt hk)]at e1;rw[aD (by lia)]at e2;have e0:k-rs.length=0:=by
   have:=(ao.mp e1).1;simp at this;omega
  rw[e0]at e1;rw[hl,e0]at e2;cases e1;cases e2;refine⟨t,c,?_,ht,hc⟩;rw[aD (by rw[h.len];exact Nat.le_of_not_lt hk),h.len,e0];rfl
theorem Vo{ys:Μ}{n:Nat}(h:n<=ys.length):nC ys none (some (n:Int))=ys.take n:=by
 unfold nC;rw[HT.uf,Nat.min_eq_left h];show((ys.drop 0).take (n-0))=_;rw[List.drop_zero,Nat.sub_zero]
theorem XQ(n:Nat):(List.replicate n (1:Int)).sum=n:=by
 induction n with
 |zero=>rfl
 |succ n ih=>rw[List.replicate_succ,List.sum_cons,ih];lia
def evJ(D1:Addr)(rs:List Nat)(ws:List Int)(S:Int)(H:Hp)(k:Nat)(ys:Μ)(H':Hp):Prop:=Same H H'/\H' D1=some (.lst ys)/\PI H' ys (rs.take k) (ws.take k) S
def weJ(D1:Addr)(H:Hp)(k:Nat)(ys:Μ)(H':Hp):Prop:=∃ws:List Int,ys=ws.map V.int/\ws.length=k/\(∀x∈ws,0<=x/\x<=1000)/\Same H H'/\H' D1=some (.lst ys)
theorem Kh:∀l:List Int,(∀x∈l,0<=x/\x<=1001)->0<=l.sum/\l.sum<=1001*l.length/\∀x∈l,x<=l.sum
 |[],_=>⟨by simp,by simp,by simp⟩
 |a::l,h=>by
  obtain⟨h1,h2,h3⟩:=Kh l λx hx=>h x (aJ _ hx);have h0:=h a aP;rw[List.sum_cons,List.length_cons];refine⟨by lia,by lia,λx hx=>?_⟩;rcases YU.mp hx with rfl|hx
  .lia
  .have:=h3 x hx;lia
theorem aag{n:Nat}(h:1<=n):ixN n (-1)=some (n-1):=by
 unfold ixN;rw[ZZ (Int.not_le_of_gt (by decide)),ZY (by lia)]
 congr 1
 lia
theorem abZ{α:Type} : ∀{l:List α},l.length=4->∃a b c d,l=[a,b,c,d]
 |[a,b,c,d],_=>⟨a,b,c,d,rfl⟩
def N7:Sp:=λvs H Q _=>∃(c:Int)(n:Nat),vs=[.int c,.int n]/\1<=n/\n<=12/\∀(r d p lp:Addr)(room:Nat)(so x y S:Int)(rs:List Nat)(ws:List Int)(ps:Μ)H',Same H H'->H r=none->H d=none->H' r=some (.tup [.int room,.ref d])->room<n->H' d=some (.tup [.int so,.ref p,.ref lp])->H' p=some (.tup [.int x,.int y])->0<y->Zc x y->H' lp=some (.lst ps)->H lp=none->PI H' ps rs ws S->wu n so rs ws S->Q (.ref r) H'
theorem abR(F:Fun K Gk Gk zQ f fd)(T:Txt K mg D)(dh:OkF P w K mg base 1 iz iC gP)(jm:OkF P w K mg base 2 qC qy tU)(Kv:OkF P w K mg base 3 Jt Ip U0):cJ P w K mg base CX0 4 f fd FZ N7:=by
 refine F.okB lq ?_ ?_
 .rintro _ _ _ _ ⟨c,n,rfl,_⟩;rfl
 .rintro cdv A outer s H _ Q E hr ⟨c,n,rfl,n1,n12,q⟩;refine⟨_,(f9 (PSB.mk (bZ (i:=2) lq.nd (hx:=(Or.inr rfl)) (bR dh hr.md (bF pv0 (bF bK)))))
   (f9 (PSB.mk (bZ (i:=3) lq.nd (hx:=(Or.inr rfl)) (kJ (bQ zQ) uy uy ["_law_x"] (cV ((mZ Ib pv2 (iQ bK) (iQ bK))).mono) (dH (i:=0)) cU (bV lB pv0 pv2))))
   (f9 (PSB.mk (bZ (i:=4) lq.nd (bV dU (bT bU pv2 bK))))
   (f9 (PSB.mk (bZ (i:=5) lq.nd (pG (bF (jf (bF (bT bU pv3 bK) (bF (jf (bF bK (bF bK))))))))))
   (f9 (PSB.mk (cW (cD lG pv4 bK (cH _))
    (bI (bZ (i:=6) lq.nd (bV d9 bK (bV dU (bT bU pv2 bK))))
    (bI (bZ (i:=7) lq.nd (bR jm hr.md (bF (bV lB (bT bU pv2 bK) (bV d9 pv6)) (bF pv6))))
    (bO (bZ (i:=5) lq.nd (pG (bF (jf (bF (bT bU pv3 bK) (bF pv7))) (bF (jf (bF (bT bU pv3 bK) (bF (jf (bF (bV Dw (bT cA pv7 bK) (bT cA pv7 bK)) (bF (bT cA pv7 bK))))))))))))))
    cF))
   (f9 (PSB.mk (cW (cD lG pv4 bK (cH _))
    (bI (bZ (i:=3) lq.nd (hx:=(Or.inr rfl)) (mZ Ib pv3 Oq (iQ (bV d9 bK (bV dU (bT bU pv2 bK))))))
    (bO (yh (bQ zQ) uy uy ["_law_room"] (cV (pv 3).mono) (dH (i:=0)) cU (jf (bF pv0 (bF (jf (bF bK (bF (cu cN T.gH PySem.boot_len (bF pv4)))))))) (cB (i:=5) lq.nd))))
    cF))
   (f9 (PSB.mk (cW (cD lG pv4 bK (cH _))
    (bI (bZ (i:=8) lq.nd (hx:=(Or.inr rfl)) (kJ (bQ zQ) uy uy ["_law_x"] (cV ((mZ Ib pv2 (iQ bK) (iQ (bV d9 bK (bV dU (bT bU pv2 bK)))))).mono) (dH (i:=0)) cU (bV lB pv0 (bT bU (pG (bF bK (bF bK (bF bK (bF bK))))) (bV dU (bT bU pv3 bK))))))
    (bI (oX (bV d9 (bT bU pv8 (Y9 Vk bK))) (xZ pv8 (Y9 Vk bK) set_list))
    (bO (yh (bQ zQ) uy uy ["_law_k"] (eF T.gY (bF (cu cN T.gH PySem.boot_len (bF pv8))).mono) (dH (i:=0)) cU (jf (bF (bT bU pv4 pv0) (bF (bR jm hr.md (bF (bT bU pv9 pv0) (bF (cu (KD rfl) T.acT boot_sum (bF pv9)))))))) (cB (i:=5) lq.nd)))))
    cF))
   (Q7 (PSB.mk (cg (jf (bF (bV lB (bT bU pv2 bK) pv1) (bF (jf (bF pv4 (bF (bR Kv hr.md (bF pv0 (bF (bT bU pv2 bK) (bF (bT bU pv2 bK))))) (bF pv5))))))))))))))))),?_⟩
  have z9:100<sizeLine:=by decide
  refine b_ λR1 hR1=>?_;refine cL ⟨_,rfl,c,14,rfl,by decide,λl xs H1 S1 fl hl xl hx=>?_⟩;have at_:∀j,j<14->∃y,atI (xs.map V.int) (j:Nat)=some (.int y)/\0<=y:=λj hj=>by
   have:j<xs.length:=by lia
   exact⟨xs[j],bY (j:=j) (by rw[aq,aj this];rfl),(hx _ (aW this)).1⟩
  subst hR1;dsimp only[cQ,L2.start];have ec:nC (xs.map V.int) (some 2) (some 6)=((xs.drop 2).take 4).map V.int:=by
   rw[List.map_take,List.map_drop];exact Nz (ys:=xs.map V.int) (a:=2) (b:=6) (by decide) (by rw[ak];lia)
  have ul:((xs.drop 2).take 4).length=4:=by rw[bw,List.length_drop];lia
  refine b_ λR1 hR1=>?_;refine cL (cM ⟨_,rfl,_,rfl,_,rfl,l,_,rfl,hl,λp2 H2 S2 f2 h2=>⟨p2,_,rfl,h2,?_,λD1 g1=>⟨vJ D1 H2 (((xs.drop 2).take 4).map λi=>V.int (i.fmod n)),⟨Same.upd g1,bG,rfl⟩,λi x ys Hc hi jj hy hc=>?_,λys Hc ⟨T1,k1,ey⟩ hy=>?_⟩⟩⟩)
  .rw[ec,ak,ul];decide
  .rw[ec,aq]at hi;cases ei:((xs.drop 2).take 4)[i]? with
   |none=>rw[ei]at hi;cases hi
   |some u =>
    rw[ei]at hi;cases hi;exact⟨_,rfl,_,rfl,u,n,rfl,rfl,by lia,jj.2.1,hc,jj.next g1 (λ_ _ z=>z) (by rw[aq,ei];rfl)⟩
  rw[ec,ak,ul,aL (by rw[ak,ul];exact aG _)]at ey;obtain⟨ra,rb,rc,rd,er,rn⟩ : ∃ra rb rc rd:Nat,((xs.drop 2).take 4).map (λi=>V.int (i.fmod n))=[ra,rb,rc,rd].map (λr:Nat=>V.int (r:Nat))/\∀r∈[ra,rb,rc,rd],r<n:=by
   obtain⟨u1,u2,u3,u4,eu⟩:=abZ ul;have md:∀i:Int,∃r:Nat,i.fmod n=(r:Nat)/\r<n:=λi=>by
    have m0:0<=i%(n:Int):=Z3 _ (by lia);have m1:i%(n:Int)<n:=YY _ (by lia);exact⟨(i%(n:Int)).toNat,by rw[aY _ (Wp _)];lia,by lia⟩
   obtain⟨r1,e1,l1⟩:=md u1;obtain⟨r2,e2,l2⟩:=md u2;obtain⟨r3,e3,l3⟩:=md u3;obtain⟨r4,e4,l4⟩:=md u4;refine⟨r1,r2,r3,r4,by rw[eu];simp only[List.map_cons,List.map_nil,e1,e2,e3,e4],λr hr=>?_⟩;simp only[YU,List.not_mem_nil,or_false]at hr;rcases hr with rfl|rfl|rfl|rfl<;>assumption
  rw[er]at ey;subst ey;have S3:=S1.trans (S2.trans T1);have hl3:=T1 _ _ (S2 _ _ hl)
  clear T1 S2 S1 h2 f2 er ec hx
  subst hR1;dsimp only[cQ];refine b_ λR1 hR1=>?_;obtain⟨x6,a6,p6⟩:=at_ 6 (by decide);refine cL ⟨_,rfl,l,_,6,_,rfl,rfl,hl3,a6,x6,4,rfl,rfl,(show(0:Int)<4 by decide),?_⟩;subst hR1;dsimp only[cQ];obtain⟨so,es,s0,s3⟩ : ∃so,x6%4=so/\0<=so/\so<=3:=⟨_,rfl,by exact Z3 _ (by decide),by lia⟩;rw[es];refine b_ λR1 hR1=>?_;refine cL ⟨_,rfl,D1,_,0,_,rfl,rfl,k1,cY,fQ,λq1 Ha Sa fa ha=>⟨fQ,λq2 Hb Sb fb hb=>⟨(show 1<=sizeLine by decide),λq3 H4 Sd f3 e3=>?_⟩⟩⟩;have e1:=Sd _ _ (Sb _ _ ha);have e2:=Sd _ _ hb;have S34:=Sa.trans (Sb.trans Sd);have f3:=Same.free S3 (Same.free Sa (Same.free Sb f3));have hl4:=S34 _ _ hl3;have hr4:=S34 _ _ k1;have S4:=S3.trans S34
  clear Sa Sb Sd ha hb fa fb hl3 k1 S3 S34
  subst hR1;dsimp only[cQ];refine Lg λR hR=>?_;have fin:∀(u3 u6 u7 u8:Option V)(lp:Addr)(rs:List Nat)(ws:List Int)(S:Int)(ps:Μ)(H9:Hp),Same H H9->H9 l=some (.lst (xs.map V.int))->H lp=none->H9 lp=some (.lst ps)->PI H9 ps rs ws S->wu n so rs ws S->R { nx:=λ_ H'=>Q .non H',rt:=Q } [some (.int c),some (.int n),some (.ref l),u3,some (.int so),some (.ref lp),u6,u7,u8] H9:=by
   intro u3 u6 u7 u8 lp rs ws S ps H9 S9 hl9 fl hlp hpi hdr;obtain⟨x0,a0,_⟩:=at_ 0 (by decide);obtain⟨x1,a1,_⟩:=at_ 1 (by decide);obtain⟨x13,a13,_⟩:=at_ 13 (by decide);subst hR;have m0:0<=x13%(n:Int):=Z3 _ (by lia);have m1:x13%(n:Int)<n:=YY _ (by lia);have ef:x13.fmod (n:Int)=(((x13%(n:Int)).toNat:Nat):Int):=by rw[aY _ (Wp _)];lia
   refine gM ⟨_,rfl,l,_,13,_,rfl,rfl,hl9,a13,_,rfl,x13,n,rfl,rfl,by lia,_,rfl,_,rfl,_,rfl,l,_,0,_,rfl,rfl,hl9,a0,_,rfl,l,_,1,_,rfl,rfl,hl9,a1,c,x0,x1,rfl,λp1 x y f1 y0 g1 sa sb=>⟨_,rfl,(show 3<=sizeLine by decide),λp2 Hx Sx fx hx=>⟨fQ,λp3 Hy Sy fy hy=>?_⟩⟩⟩;dsimp only at hy;rw[ef]at hy;have S10:=(Same.upd f1 (o:=.tup [.int x,.int y])).trans (Sx.trans Sy);exact q p3 p2 p1 lp _ so x y S rs ws ps _ (S9.trans S10) (Same.free S9 (Same.free (Same.upd f1) (Same.free Sx fy))) (Same.free S9 (Same.free (Same.upd f1) fx)) hy (by lia) (Sy _ _ hx) (Sy _ _ (Sx _ _ bG)) y0 ⟨g1,sa,sb⟩ (S10 _ _ hlp) fl (hpi.same S10) hdr
  clear hR
  obtain e|e|e|e:so=0\/so=1\/so=2\/so=3:=by lia
  .subst e;refine j4 rfl (by decide) (j4 rfl (by decide) (j4 rfl (by decide) (fin _ _ _ _ q3 [ra] [1] 1 [.ref q2] H4 S4 hl4 f3 e3 ⟨rfl,λk r x h1 h2=>?_⟩ ?_)))
   .match k with
    |0 =>
     cases h1;cases h2;exact⟨q2,q1,rfl,e2,by rw[V6];exact e1⟩
    |k+1=>simp at h1
   .exact⟨by decide,by decide,rfl,by decide,by decide,by simp,by simp,rfl,by simp,λ_=>⟨rfl,rfl,rfl⟩,λz=>by simp at z,λz=>by simp at z,λr hr=>rn r (by rw[YR.mp hr];simp)⟩
  .subst e;obtain⟨x8,a8,_⟩:=at_ 8 (by decide);obtain⟨x9,a9,_⟩:=at_ 9 (by decide);obtain⟨b,eb,b0,b6⟩ : ∃b,1+x8%6=b/\1<=b/\b<=6:=⟨_,rfl,by lia,by lia⟩;obtain⟨wt,ew,w0,w1⟩ : ∃wt,x9.fmod (b+1)=wt/\0<=wt/\wt<=b:=by
    have m0:0<=x9%(b+1):=Z3 _ (by lia);have m1:x9%(b+1)<b+1:=YY _ (by lia);exact⟨_,rfl,by rw[aY _ (Int.le_trans m0 (XY m1))];exact m0,by rw[aY _ (Int.le_trans m0 (XY m1))];exact Int.le_of_lt_add_one m1⟩
   refine Ai rfl rfl λKn hK=>?_;refine cL ⟨_,rfl,l,_,8,_,rfl,rfl,hl4,a8,x8,6,rfl,rfl,(show(0:Int)<6 by decide),_,_,rfl,rfl,?_⟩;dsimp only[cQ];rw[eb];refine cL ⟨_,rfl,l,_,9,_,rfl,rfl,hl4,a9,_,rfl,_,_,rfl,rfl,x9,b+1,rfl,rfl,by lia,_,rfl,x9.fmod (b+1),b,rfl,by lia,Bd.sm (by lia),λc1 g1=>?_⟩;rw[ew];have T1:Same H4 (upd H4 c1 (.tup [.int (Ac.lw wt b).1,.int (Ac.lw wt b).2])):=Same.upd g1;have k1:upd H4 c1 (.tup [.int (Ac.lw wt b).1,.int (Ac.lw wt b).2]) c1=some (.tup [.int (Ac.lw wt b).1,.int (Ac.lw wt b).2]):=bG;generalize upd H4 c1 (.tup [.int (Ac.lw wt b).1,.int (Ac.lw wt b).2])=H5 at T1 k1 ⊢;dsimp only[cQ];refine⟨_,rfl,D1,_,0,_,rfl,rfl,T1 _ _ hr4,cY,_,rfl,fQ,λt1 H6 T2 _ k2=>⟨_,rfl,D1,_,1,_,rfl,rfl,T2 _ _ (T1 _ _ hr4),cR,_,rfl,c1,_,1,_,rfl,rfl,T2 _ _ k1,cR,_,rfl,c1,_,0,_,rfl,rfl,T2 _ _ k1,cY,_,_,rfl,rfl,_,rfl,c1,_,1,_,rfl,rfl,T2 _ _ k1,cR,fQ,λc2 H7 T3 _ k3=>⟨fQ,λt2 H8 T4 _ k4=>⟨fQ,λlp H9 T5 f5 k5=>hK _ _ (j4 rfl (by decide) (j4 rfl (by decide) ?_))⟩⟩⟩⟩;have T69:=T3.trans (T4.trans T5);have S6:=S4.trans (T1.trans T2);refine fin _ _ _ _ lp [ra,rb] [wt,b-wt] b [.ref t1,.ref t2] _ (S6.trans T69) (T69 _ _ (T2 _ _ (T1 _ _ hl4))) (Same.free (S6.trans (T3.trans T4)) f5) k5 ⟨rfl,λk r x h1 h2=>?_⟩ ?_
   .match k with
    |0 =>
     cases h1;cases h2;exact⟨t1,c1,rfl,T69 _ _ k2,T69 _ _ (T2 _ _ k1)⟩
    |1 =>
     cases h1;cases h2;exact⟨t2,c2,rfl,T5 _ _ k4,by rw[Ny];exact T5 _ _ (T4 _ _ k3)⟩
    |k+2=>simp at h1
   .refine⟨by decide,by decide,rfl,by lia,by exact Int.le_trans b6 (by decide),by simp,?_,?_,by simp,λz=>by simp at z,λ_=>rfl,λz=>by simp at z,?_⟩
    .intro x hx;simp only[YU,List.not_mem_nil,or_false]at hx;omega
    .simp;lia
    .intro r hr;simp only[YU,List.not_mem_nil,or_false]at hr;rcases hr with rfl|rfl
     .exact rn _ (by simp)
     .exact rn _ (by simp)
  .subst e;obtain⟨x7,a7,_⟩:=at_ 7 (by decide);obtain⟨m,em,m1,m4⟩ : ∃m:Nat,1+x7%4=m/\1<=m/\m<=4:=⟨(1+x7%4).toNat,by lia,by lia,by lia⟩;refine j4 rfl (by decide) (Ai rfl rfl λKn hK=>?_);refine cL ⟨_,rfl,_,rfl,l,_,7,_,rfl,rfl,hl4,a7,x7,4,rfl,rfl,(show(0:Int)<4 by decide),_,_,rfl,rfl,_,rfl,D1,_,rfl,hr4,λp5 H5 T1 f5 k1=>?_⟩;have ec:nC ([ra,rb,rc,rd].map λr:Nat=>V.int (r:Nat)) none (some (1+x7%4))=([ra,rb,rc,rd].take m).map λr:Nat=>V.int (r:Nat):=by
    rw[em,Vo (by rw[ak];simp;omega),<- List.map_take]
   have k1:H5 p5=some (.lst (([ra,rb,rc,rd].take m).map λr:Nat=>V.int (r:Nat))):=by rw[<- ec];exact k1
   have l5:([ra,rb,rc,rd].take m).length=m:=by rw[bw];simp;lia
   have r5:∀r∈[ra,rb,rc,rd].take m,r<n:=λr hr=>rn r (List.mem_of_mem_take hr);generalize[ra,rb,rc,rd].take m=rs at l5 r5 k1;have S5:=S4.trans T1;have rl5:(List.replicate m (1:Int)).length=m:=aO;dsimp only[cQ];refine cM ⟨_,rfl,p5,_,rfl,k1,by rw[ak];lia,λD2 hD2=>⟨evJ D2 rs (List.replicate m 1) m H5,⟨Same.upd hD2,bG,by simp;exact⟨rfl,λk r x h1 _=>by simp at h1⟩⟩,?_,?_⟩⟩
   .rintro k v ys Hc hk ⟨T5,h5,pi⟩ hy hpc;rw[aq]at hk;cases er:rs[k]? with
    |none=>rw[er]at hk;cases hk
    |some r =>
     rw[er]at hk;cases hk;have lk:k<m:=by rw[<- l5];exact(ao.mp er).1
     have ew:(List.replicate m (1:Int))[k]?=some 1:=by rw[XG,ZY lk]
     refine⟨_,rfl,_,rfl,p5,_,rfl,hpc,fQ,λc1 H6 T6 f6 i1=>⟨fQ,λt1 H7 T7 f7 i2=>?_⟩⟩;have T67:=T6.trans T7;have i1:=T7 _ _ i1;rw[ak,l5]at i1;have nt:∀t us,H7 t=some (.tup us)->upd H7 D2 (.lst (ys++[.ref t1])) t=some (.tup us):=λt us e=>(bL (d8 e (T67 _ _ h5))).trans e;refine⟨T67 _ _ h5,T67 _ _ hpc,λb o e=>(bL (bH e hD2)).trans (T67 _ _ (T5 _ _ e)),bG,?_⟩;rw[cj er,cj ew];refine((pi.same T67).imp nt).snoc ?_ (nt _ _ i2) (by rw[V6];exact nt _ _ i1);rw[bw,bw,rl5,l5]
   .rintro ys Hc ⟨T5,h5,pi⟩ hy;rw[ak,aQ,l5,aL (by rw[rl5];exact aG _)]at pi;refine hK _ _ (j4 rfl (by decide) (fin _ _ _ _ D2 rs (List.replicate m 1) m ys Hc (S5.trans T5) (T5 _ _ (T1 _ _ hl4)) (Same.free S5 hD2) h5 pi ?_));exact⟨by decide,by decide,by rw[rl5,l5],by lia,by lia,by exact aM (Nat.le_of_eq l5) m4,λx hx=>by rw[(List.mem_replicate.mp hx).2];decide,XQ m,by lia,λz=>by simp at z,λz=>by simp at z,λ_=>⟨by rw[l5],by rw[l5]⟩,r5⟩
  .subst e;obtain⟨x7,a7,_⟩:=at_ 7 (by decide);obtain⟨x12,a12,_⟩:=at_ 12 (by decide);obtain⟨m,em,m1,m4⟩ : ∃m:Nat,9+x7%4=((8+m:Nat):Int)/\1<=m/\m<=4:=⟨(1+x7%4).toNat,by lia,by lia,by lia⟩;have ec:nC (xs.map V.int) (some 8) (some (9+x7%4))=((xs.drop 8).take m).map V.int:=by
    rw[em,List.map_take,List.map_drop];have:=Nz (ys:=xs.map V.int) (a:=8) (b:=8+m) (X2 _ _) (by rw[ak];lia);rw[show 8+m-8=m by exact Nat.add_sub_cancel_left _ _]at this;exact this
   have l5:((xs.drop 8).take m).length=m:=by rw[bw,List.length_drop];lia
   generalize(xs.drop 8).take m=vs at l5 ec;obtain⟨md,ed,hmd⟩ : ∃md:Int,atI [V.int 3,V.int 3,V.int 3,V.int 1000] (x12%4)=some (.int md)/\(md=3\/md=1000):=by
    obtain e|e|e|e:x12%4=0\/x12%4=1\/x12%4=2\/x12%4=3:=by lia
    .exact⟨3,by rw[e];exact bY (j:=0) rfl,.inl rfl⟩
    .exact⟨3,by rw[e];exact bY (j:=1) rfl,.inl rfl⟩
    .exact⟨3,by rw[e];exact bY (j:=2) rfl,.inl rfl⟩
    .exact⟨1000,by rw[e];exact bY (j:=3) rfl,.inr rfl⟩
   refine j4 rfl (by decide) (j4 rfl (by decide) (Ai rfl rfl λKn hK=>?_));refine b_ λR1 hR1=>?_;refine cL (cM ⟨_,rfl,_,rfl,_,rfl,l,_,7,_,rfl,rfl,hl4,a7,x7,4,rfl,rfl,(show(0:Int)<4 by decide),_,_,rfl,rfl,_,rfl,l,_,rfl,hl4,λp5 H5 T1 f5 k5=>⟨p5,_,rfl,k5,?_,λD2 hD2=>⟨weJ D2 H5,⟨[],rfl,rfl,by simp,Same.upd hD2,bG⟩,?_,?_⟩⟩⟩)
   .show(nC (xs.map V.int) (some 8) (some (9+x7%4))).length<=_;rw[ec,ak];lia
   .rintro k v ys Hc hk ⟨ws,rfl,wl,wb,T5,h5⟩ hy hpc;have hk:(nC (xs.map V.int) (some 8) (some (9+x7%4)))[k]?=some v:=hk;rw[ec,aq]at hk;cases er:vs[k]? with
    |none=>rw[er]at hk;cases hk
    |some i =>
     rw[er]at hk;cases hk;have f0:0<=i.fmod md/\i.fmod md<=1000:=by
      rcases hmd with rfl|rfl
      .rw[aY _ (by decide)];lia
      .rw[aY _ (by decide)];lia
     have hlc:=T5 _ _ (T1 _ _ hl4);refine⟨_,rfl,(show 4<=sizeLine by decide),λp6 H6 S6 f6 h6=>⟨_,rfl,l,_,12,_,rfl,rfl,S6 _ _ hlc,a12,x12,4,rfl,rfl,(show(0:Int)<4 by decide),p6,_,_,_,rfl,rfl,h6,ed,i,md,rfl,rfl,by lia,S6 _ _ h5,S6 _ _ hpc,ws++[i.fmod md],by rw[bC];rfl,by rw[aA,wl];rfl,λx hx=>?_,λb o e=>(bL (bH e hD2)).trans (S6 _ _ (T5 _ _ e)),bG⟩⟩;rcases Y1.mp hx with hx|hx
     .exact wb x hx
     .rw[YR.mp hx];exact f0
   .rintro ys Hc ⟨ws,rfl,wl,wb,T5,h5⟩ hy;have wl:ws.length=m:=by
     have e:(nC (xs.map V.int) (some 8) (some (9+x7%4))).length=m:=by rw[ec,ak,l5]
     exact wl.trans e
    have S5:=S4.trans T1;have lm:m-1<ws.length:=by lia
    have el:ws[m-1]?=some ws[m-1]:=aj lm;have bl:=wb _ (aW lm);generalize ws[m-1]=wl0 at el bl;have ix:ixN (ws.map V.int).length (-1)=some (m-1):=by rw[ak,wl];exact aag m1
    have ea:atI (ws.map V.int) (-1)=some (.int wl0):=by
     unfold atI;rw[ix];show(ws.map V.int)[m-1]?=_;rw[aq,el];rfl
    subst hR1;dsimp only[cQ];refine b_ λR1 hR1=>?_;refine cL ⟨_,rfl,1,rfl,D2,_,_,_,rfl,rfl,h5,ea,wl0,1,rfl,rfl,?_⟩;refine⟨_,rfl,1,rfl,D2,_,_,_,rfl,rfl,h5,ix,?_⟩;rw[<- List.map_set];have l6:(ws.set (m-1) (wl0+1)).length=m:=by rw[List.length_set,wl]
    have b6:∀x∈ws.set (m-1) (wl0+1),0<=x/\x<=1001:=λx hx=>by
     rcases List.mem_or_eq_of_mem_set hx with hx|rfl
     .have:=wb x hx;lia
     .lia
    have in6:wl0+1∈ws.set (m-1) (wl0+1):=List.mem_set lm _;generalize ws.set (m-1) (wl0+1)=ww at l6 b6 in6 ⊢;obtain⟨s1,s2,s3'⟩:=Kh ww b6;have sp:=s3' _ in6;have T6:Same H (upd Hc D2 (.lst (ww.map V.int))):=λb o e=>(bL (bH (S5 _ _ e) hD2)).trans (T5 _ _ (S5 _ _ e));have k6:upd Hc D2 (.lst (ww.map V.int)) D2=some (.lst (ww.map V.int)):=bG;have r6:upd Hc D2 (.lst (ww.map V.int)) D1=some (.lst ([ra,rb,rc,rd].map λr=>V.int (r:Nat))):=(bL (bH (T1 _ _ hr4) hD2)).trans (T5 _ _ (T1 _ _ hr4));have hl6:upd Hc D2 (.lst (ww.map V.int)) l=some (.lst (xs.map V.int)):=(bL (bH (T1 _ _ hl4) hD2)).trans (T5 _ _ (T1 _ _ hl4));generalize upd Hc D2 (.lst (ww.map V.int))=H6 at T6 k6 r6 hl6 ⊢;have lt4:([ra,rb,rc,rd].take m).length=m:=by rw[bw];simp;lia
    subst hR1;refine iI ⟨_,rfl,D2,_,rfl,k6,m,by rw[ak,l6],by exact aM m4 (by decide),λD3 hD3=>⟨evJ D3 ([ra,rb,rc,rd].take m) ww ww.sum H6,⟨Same.upd hD3,bG,by simp;exact⟨rfl,λk r x h1 _=>by simp at h1⟩⟩,?_,?_⟩⟩
    .rintro k ys Hc hk ⟨T7,h7,pi⟩ hy;have er : [ra,rb,rc,rd][k]?=some ([ra,rb,rc,rd][k]'(by simp;exact aV hk m4)):=aj _;have et:([ra,rb,rc,rd].take m)[k]?=some ([ra,rb,rc,rd][k]'(by simp;exact aV hk m4)):=by rw[List.getElem?_take,ZY hk];exact er
     have ew:ww[k]?=some (ww[k]'(by lia)):=aj _;generalize[ra,rb,rc,rd][k]'(by simp;exact aV hk m4)=r at er et;generalize ww[k]'(by lia)=wk at ew;refine⟨_,rfl,_,rfl,D1,_,_,_,rfl,rfl,T7 _ _ r6,bY (j:=k) (by rw[aq,er];rfl),_,rfl,_,rfl,D2,_,_,_,rfl,rfl,T7 _ _ k6,bY (j:=k) (by rw[aq,ew];rfl),_,rfl,D2,ww,rfl,T7 _ _ k6,wk,ww.sum,rfl,by lia,Bd.sm (by lia),λc1 g1=>⟨fQ,λt1 H8 T8 f8 i2=>?_⟩⟩;have T78:=(Same.upd g1 (o:=.tup [.int (Ac.lw wk ww.sum).1,.int (Ac.lw wk ww.sum).2])).trans T8;have i1:=T8 _ _ (bG (H:=Hc) (a:=c1) (o:=.tup [.int (Ac.lw wk ww.sum).1,.int (Ac.lw wk ww.sum).2]));have nt:∀t us,H8 t=some (.tup us)->upd H8 D3 (.lst (ys++[.ref t1])) t=some (.tup us):=λt us e=>(bL (d8 e (T78 _ _ h7))).trans e;refine⟨T78 _ _ h7,λb o e=>(bL (bH e hD3)).trans (T78 _ _ (T7 _ _ e)),bG,?_⟩;rw[cj et,cj ew];refine((pi.same T78).imp nt).snoc ?_ (nt _ _ i2) (nt _ _ i1);rw[bw,bw,l6,lt4]
    .rintro ys Hc ⟨T7,h7,pi⟩ hy;have pi:PI Hc ys ([ra,rb,rc,rd].take m) ww ww.sum:=by
      have e1:([ra,rb,rc,rd].take m).take m=[ra,rb,rc,rd].take m:=aL (by rw[lt4];exact aG _);have e2:ww.take m=ww:=aL (by rw[l6];exact aG _);rw[e1,e2]at pi;exact pi
     refine hK _ _ (fin _ _ _ _ D3 ([ra,rb,rc,rd].take m) ww ww.sum ys Hc (T6.trans T7) (T7 _ _ hl6) (Same.free T6 hD3) h7 pi ?_);exact⟨by decide,by decide,by rw[lt4,l6],by lia,by lia,by exact aM (Nat.le_of_eq lt4) m4,λx hx=>(b6 x hx).1,rfl,by lia,λz=>by simp at z,λz=>by simp at z,λz=>by simp at z,λr hr=>rn r (List.mem_of_mem_take hr)⟩
structure DD(n:Nat)(H:Hp)(d:Addr):Prop where
 ex:∃(p lp:Addr)(so x y S:Int)(rs:List Nat)(ws:List Int)(ps:Μ),H d=some (.tup [.int so,.ref p,.ref lp])/\H p=some (.tup [.int x,.int y])/\0<y/\Zc x y/\H lp=some (.lst ps)/\PI H ps rs ws S/\wu n so rs ws S
theorem DD.same{n:Nat}{H H':Hp}{d:Addr}(h:DD n H d)(S:Same H H'):DD n H' d:=by
 obtain⟨p,lp,so,x,y,S',rs,ws,ps,a,b,b1,b2,c,d,e⟩:=h.ex;exact⟨p,lp,so,x,y,S',rs,ws,ps,S _ _ a,S _ _ b,b1,b2,S _ _ c,d.same S,e⟩
structure RD(n:Nat)(H:Hp)(xs:Μ)(dss:List (Ε)):Prop where
 len:xs.length=dss.length
 at_:∀(k:Nat)(ds:Ε),dss[k]?=some ds->∃l,xs[k]?=some (.ref l)/\H l=some (.lst (ds.map V.ref))/\∀d∈ds,DD n H d
theorem RD.same{n:Nat}{H H':Hp}{xs:Μ}{dss:List (Ε)}(h:RD n H xs dss)(S:Same H H'):RD n H' xs dss:=⟨h.len,λk ds e=>let⟨l,a,b,c⟩:=h.at_ k ds e;⟨l,a,S _ _ b,λd hd=>(c d hd).same S⟩⟩
theorem DD.off{n:Nat}{H:Hp}{ls:Ε}{d p lp:Addr}{so x y S:Int}{rs:List Nat}{ws:List Int}{ps:Μ}(hls:∀l∈ls,∃zs,H l=some (.lst zs))(nl:lp∉ls)(h1:H d=some (.tup [.int so,.ref p,.ref lp]))(h2:H p=some (.tup [.int x,.int y]))(y0:0<y)(g:Zc x y)(h3:H lp=some (.lst ps))(h4:PI H ps rs ws S)(h5:wu n so rs ws S):DD n (del ls H) d:=by
 have nt:∀t us,H t=some (.tup us)->del ls H t=some (.tup us):=λt us e=>je (λz=>by
  obtain⟨zs,hz⟩:=hls t z;rw[hz]at e;cases e) e
 exact⟨p,lp,so,x,y,S,rs,ws,ps,nt _ _ h1,nt _ _ h2,y0,g,je nl h3,h4.imp nt,h5⟩
def Hz(K:Frag)(a:Addr)(ns:List Int):Sp:=λvs H Q _=>∃(c:Int)(n:Nat)(m:Nat),vs=[.ref a,.int c,.int n,.int m]/\SqL K H a (ns.map V.int)/\ns.length<=63/\0<=c/\n<=12/\m<=100/\∀(r:Addr)(xs:Μ)(dss:List (Ε))H',Same H H'->H r=none->H' r=some (.lst xs)->dss.length=n->RD n H' xs dss->(∀ds∈dss,ds.length<=m)->Q (.ref r) H'
structure RL(n m:Nat)(H0 H:Hp)(ls:Ε)(dss:List (Ε)):Prop where
 len:ls.length=dss.length
 nd:ls.Nodup
 new:∀l∈ls,H0 l=none
 at_:∀(k:Nat)(l:Addr)(ds:Ε),ls[k]?=some l->dss[k]?=some ds->H l=some (.lst (ds.map V.ref))/\ds.length<=m/\∀d∈ds,DD n (del ls H) d
theorem RL.rd{n m:Nat}{H0 H:Hp}{ls:Ε}{dss:List (Ε)}(h:RL n m H0 H ls dss):RD n H (ls.map V.ref) dss:=⟨by rw[ak,h.len],λk ds e=>by
 have lk:k<ls.length:=by rw[h.len];exact(ao.mp e).1
 have el:ls[k]?=some ls[k]:=aj lk;obtain⟨a,_,c⟩:=h.at_ k _ ds el e;exact⟨ls[k],by rw[aq,el];rfl,a,λd hd=>(c d hd).same wM⟩⟩
theorem RL.lists{n m:Nat}{H0 H:Hp}{ls:Ε}{dss:List (Ε)}(h:RL n m H0 H ls dss):∀l∈ls,∃zs,H l=some (.lst zs):=λl hl=>by
 obtain⟨k,hk⟩:=aX hl;have lk:k<dss.length:=by rw[<- h.len];exact(ao.mp hk).1
 exact⟨_,(h.at_ k l _ hk (aj lk)).1⟩
theorem RL.same{n m:Nat}{H0 H H':Hp}{ls:Ε}{dss:List (Ε)}(h:RL n m H0 H ls dss)(S:Same H H'):RL n m H0 H' ls dss:=⟨h.len,h.nd,h.new,λk l ds e1 e2=>let⟨a,b,c⟩:=h.at_ k l ds e1 e2;⟨S _ _ a,b,λd hd=>(c d hd).same (tH λb o _ e=>S _ _ e)⟩⟩
theorem RL.put{n m:Nat}{H0 H:Hp}{ls:Ε}{dss:List (Ε)}{k:Nat}{l d:Addr}{ds:Ε}(h:RL n m H0 H ls dss)(el:ls[k]?=some l)(ed:dss[k]?=some ds)(hm:ds.length<m)(hd:DD n (del ls H) d):RL n m H0 (upd H l (.lst ((ds++[d]).map V.ref))) ls (dss.set k (ds++[d])):=by
 have lm:=aC el;have ee:del ls (upd H l (.lst ((ds++[d]).map V.ref)))=del ls H:=by
  funext b
  unfold del;split
  .rfl
  .rename_i hb
   exact bL λz=>hb (z ▸ lm)
 refine⟨by rw[List.length_set,h.len],h.nd,h.new,λj l' ds' e1 e2=>?_⟩;rw[ee];by_cases e:k=j
 .subst e;rw[el]at e1;cases e1;rw[List.getElem?_set_self (ao.mp ed).1]at e2;cases e2;obtain⟨a,b,c⟩:=h.at_ k l ds el ed;refine⟨bG,by rw[aA];simp;exact hm,λd' hd'=>?_⟩;rcases Y1.mp hd' with hd'|hd'
  .exact c d' hd'
  .rw[YR.mp hd'];exact hd
 .rw[List.getElem?_set_ne e]at e2;obtain⟨a,b,c⟩:=h.at_ j l' ds' e1 e2;refine⟨(bL λz=>?_).trans a,b,c⟩;subst z;have l1:=ao.mp el;have l2:=ao.mp e1;have pw:=List.pairwise_iff_getElem.mp h.nd;rcases Nat.lt_or_gt_of_ne e with lt|lt
  .exact pw k j l1.1 l2.1 lt (l1.2.trans l2.2.symm)
  .exact pw j k l2.1 l1.1 lt (l2.2.trans l1.2.symm)
def dJ0(n m:Nat)(D1:Addr)(H H1:Hp)(k:Nat)(ys:Μ)(Hc:Hp):Prop:=∃ls:Ε,ys=ls.map V.ref/\RL n m H Hc ls (List.replicate k [])/\Same H1 Hc/\Hc D1=some (.lst ys)/\D1∉ls
theorem RL.nil{n m:Nat}{H0 H:Hp} : RL n m H0 H [] (List.replicate 0 []):=⟨rfl,List.nodup_nil,by simp,λk l ds e=>by simp at e⟩
theorem RL.more{n m k:Nat}{H0 H:Hp}{ls:Ε}{l:Addr}(h:RL n m H0 H ls (List.replicate k []))(h0:H0 l=none)(hl:H l=none):RL n m H0 (upd H l (.lst [])) (ls++[l]) (List.replicate (k+1) []):=by
 have hk:ls.length=k:=by rw[h.len,aO]
 have nin:l∉ls:=λz=>by
  obtain⟨zs,hz⟩:=h.lists l z;rw[hl]at hz;cases hz
 refine⟨by rw[aA,hk,aO];rfl,?_,λl' hl'=>?_,λj l' ds e1 e2=>?_⟩
 .rw[List.nodup_append];refine⟨h.nd,by simp,λa ha b hb z=>?_⟩;rw[YR.mp hb]at z;exact nin (z ▸ ha)
 .rcases Y1.mp hl' with hl'|hl'
  .exact h.new l' hl'
  .rw[YR.mp hl'];exact h0
 .have lj:=(ao.mp e2).1;rw[aO]at lj;rw[XG,ZY lj]at e2;cases e2;by_cases hj:j<ls.length
  .rw[aF hj]at e1;obtain⟨a,_⟩:=h.at_ j l' [] e1 (by rw[XG,ZY (aV hj (Nat.le_of_eq hk))]);exact⟨(bL (λz=>by rw[z,hl]at a;cases a)).trans a,bA _,by simp⟩
  .rw[aD (Nat.le_of_not_lt hj)]at e1;have e0:j-ls.length=0:=by lia
   rw[e0]at e1;cases e1;exact⟨bG,bA _,by simp⟩
theorem RL.other{n m k:Nat}{H0 H:Hp}{ls:Ε}{D1:Addr}{o:HO}(h:RL n m H0 H ls (List.replicate k []))(nd:D1∉ls):RL n m H0 (upd H D1 o) ls (List.replicate k []):=by
 refine⟨h.len,h.nd,h.new,λj l ds e1 e2=>?_⟩;obtain⟨a,b,_⟩:=h.at_ j l ds e1 e2;have lj:=(ao.mp e2).1;rw[aO]at lj;rw[XG,ZY lj]at e2;cases e2;exact⟨(bL λz=>by subst z;exact nd (aC e1)).trans a,b,by simp⟩
def dJ(a D1:Addr)(c:Int)(n m:Nat)(ls:Ε)(u5 u6:Option V)(H:Hp)(k:Nat)(σ:L2.St)(H':Hp):Prop:=∃(u7 u8 u9:Option V)(dss:List (Ε)),σ=[some (.ref a),some (.int c),some (.int n),some (.int m),some (.ref D1),u5,u6,u7,u8,u9]/\Same H H'/\H' D1=some (.lst (ls.map V.ref))/\dss.length=n/\RL n m H H' ls dss
theorem aas(F:Fun K vM vM Fy f fd)(T:Txt K mg D)(a:Addr)(ns:List Int)(rY:OkF P w K mg base 1 yM yx (BL K a ns))(dh:OkF P w K mg base 1 iz iC gP)(Ug:OkF P w K mg base 4 Gk FZ N7):cJ P w K mg base CX0 5 f fd wR (Hz K a ns):=by
 refine F.ok qR ?_ ?_
 .rintro _ _ _ _ ⟨c,n,m,rfl,_⟩;rfl
 .rintro cdv A outer s H _ Q E hr ⟨c,n,m,rfl,hs,n63,c0,n12,m100,q⟩;refine⟨_,(bI (yh (bQ Fy) Mi Mi ["_law_k"] (eF T.gY (bF pv2).mono) (dH (i:=0)) cU (jw oW) (cB (i:=4) qR.nd))
   (bI (cW (cD RZ pv2 bK (cH _))
    (bI (bZ (i:=5) qR.nd (bR rY hr.md (bF pv0 (bF pv1))))
    (bI (bZ (i:=6) qR.nd (bR dh hr.md (bF pv5 (bF (bV lB (bV dU (bV Ve pv5)) (bV d9 (bV cT bK pv2)))))))
    (bO (fL PassesOwn.never rfl (cV ((bV Uc pv6 (mZ Bt pv0 (iQ (bV d9 pv1)) (iQ (bV d9 pv1))))).mono) (cB (i:=7) qR.nd)
     (bI (oX (bR Ug hr.md (bF pv7 (bF pv2))) (gJ (n:=2) rfl (cG (cB (i:=8) qR.nd) (cG (cB (i:=9) qR.nd) fX))))
     (bO (cW (cD Bc (cu cN T.gH PySem.boot_len (bF (bT bU pv4 pv8))) pv3 (cH _))
      (bO (cX (su (bT bU pv4 pv8) (bF pv9))))
      cF)))))))
    cF)
   (bO (cg pv4)))),?_⟩
  unfold BL gP N7;refine b_ λR1 hR1=>?_
  walk_at "rd"
  refine iI ?_
  walk_at "rd"
  refine⟨n,rfl,by exact aM n12 (by decide),λD1 hD1=>⟨dJ0 n m D1 H H,⟨[],rfl,.nil,Same.upd hD1,bG,by simp⟩,?_,?_⟩⟩
  .rintro k ys Hc hk ⟨ls,rfl,rl,S1,h1,nd⟩ hy;refine⟨bA _,λl hl=>?_⟩;have nD:D1≠l:=bH h1 hl;refine⟨(bL nD).trans h1,ls++[l],by rw[bC];rfl,(rl.more (Same.free S1 hl) hl).other ?_,λb o e=>(bL (bH e hD1)).trans ((bL (bH (S1 _ _ e) hl)).trans (S1 _ _ e)),bG,?_⟩
   .simp only[Y1,YR,not_or];exact⟨nd,nD⟩
   .simp only[Y1,YR,not_or];exact⟨nd,nD⟩
  .rintro ys Hc ⟨ls,rfl,rl,S1,h1,nd⟩ hy;subst hR1;refine b_ λR2 hR2=>?_;have fin:∀(u5 u6 u7 u8 u9:Option V)(dss:List (Ε))(H9:Hp),Same H H9->H9 D1=some (.lst (ls.map V.ref))->dss.length=n->RL n m H H9 ls dss->R2 { nx:=λ_ H'=>Q .non H',rt:=Q } [some (.ref a),some (.int c),some (.int n),some (.int m),some (.ref D1),u5,u6,u7,u8,u9] H9:=by
    intro u5 u6 u7 u8 u9 dss H9 S9 h9 ld r9;subst hR2;refine⟨_,rfl,q D1 _ dss H9 S9 hD1 h9 ld r9.rd λds hds=>?_⟩;obtain⟨k,hk⟩:=aX hds;have lk:k<ls.length:=by rw[r9.len];exact(ao.mp hk).1
    exact(r9.at_ k _ ds (aj lk) hk).2.1
   clear hR2
   walk_at "rd"
   refine pB (λhn=>?_) λ_=>fin none none none none none (List.replicate n []) Hc S1 h1 aO rl;have hn:0<(n:Int):=of_decide_eq_true hn;have v0:0<=cell ns c*48271%104729%(3*(n:Int)+1):=Z3 _ (by lia);have v1:cell ns c*48271%104729%(3*(n:Int)+1)<3*(n:Int)+1:=YY _ (by lia);refine⟨Same.sql S1 hs,n63,c0,.inr (by constructor<;>decide),Bd.sm (by decide),Bd.sm (by lia),by lia,(cell ns c*48271%104729%(3*(n:Int)+1)).toNat,by rw[aY _ (Int.le_trans v0 (XY v1))];lia,by lia,λl xs H2 S2 fl hl2 _ _=>eN ?_⟩
   walk_at "rd"
   refine⟨_,Same.sql (S1.trans S2) hs,λp5 g5=>⟨_,(bL (bH hl2 g5)).trans hl2,?_,λp6 g6=>⟨dJ a D1 c n m ls (some (.int (cell ns c))) (some (.ref l)) H,?_,?_,?_⟩⟩⟩
   .have z9:1000<sizeLine:=by decide
    have:(nC (ns.map V.int) (some (c+1)) (some (c+25))).length<=(ns.map V.int).length:=by
     unfold nC;rw[bw,List.length_drop];lia
    rw[ak]at this ⊢;lia
   .have T5:Same Hc (upd (upd H2 p5 (.lst (nC (ns.map V.int) (some (c+1)) (some (c+25))))) p6 (.lst (xs.map V.int++nC (ns.map V.int) (some (c+1)) (some (c+25))))):=S2.trans ((Same.upd g5).trans (Same.upd g6));exact⟨none,none,none,List.replicate n [],rfl,S1.trans T5,T5 _ _ h1,aO,rl.same T5⟩
   .rintro k v σ' H' hk ⟨u7,u8,u9,dss,rfl,S9,h9,ld,r9⟩ hp6;obtain⟨i,rfl⟩ : ∃i,v=V.int i:=by
     rcases Y1.mp (aC hk)with z|z
     .obtain⟨i,_,rfl⟩:=YV.mp z;exact⟨i,rfl⟩
     .obtain⟨i,_,rfl⟩:=YV.mp (List.mem_of_mem_drop (List.mem_of_mem_take z));exact⟨i,rfl⟩
    refine⟨_,rfl,_,rfl,⟨_,rfl⟩,n,rfl,by lia,n12,λr d p lp room so x y S rs ws ps H3 S3 fr fd hr hroom hd hp y0 g hlp flp hpi hdr=>?_⟩;have kd:dss[room]?=some (dss[room]'(by lia)):=aj _;have kl:ls[room]?=some (ls[room]'(by rw[r9.len];lia)):=aj _;generalize dss[room]'(by lia)=ds at kd;generalize ls[room]'(by rw[r9.len];lia)=lr at kl;have r3:=r9.same S3;have al:=r3.at_ room lr ds kl kd;refine⟨_,hr,rfl,_,_,rfl,_,_,rfl,rfl,_,rfl,_,rfl,D1,rfl,_,_,rfl,S3 _ _ h9,_,bY (j:=room) (by rw[aq,kl];rfl),lr,rfl,_,al.1,_,rfl,m,rfl,?_⟩;rw[ak];by_cases hm:ds.length<m
    .rw[ZY (Zs (by lia))];have lin:=aC kl;have nD:D1≠lr:=λz=>nd (by rw[z];exact lin);have n6:lr≠p6:=by
      obtain⟨zs,hz⟩:=rl.lists lr lin;exact bH (Same.upd g5 _ _ (S2 _ _ hz)) g6
     have nl:lp∉ls:=λz=>by
      obtain⟨zs,hz⟩:=r9.lists lp z;rw[hz]at flp;cases flp
     have dd:=DD.off r3.lists nl hd hp y0 g hlp hpi hdr;have r4:=r3.put kl kd hm dd;rw[bC]at r4;have z9:1000<sizeLine:=by decide
     refine⟨_,rfl,_,rfl,D1,rfl,_,_,rfl,S3 _ _ h9,_,bY (j:=room) (by rw[aq,kl];rfl),lr,rfl,⟨_,al.1⟩,_,rfl,_,al.1,by rw[ak];lia,(bL n6.symm).trans (S3 _ _ hp6),_,_,_,dss.set room (ds++[d]),rfl,λb o e=>(bL (λz=>?_)).trans (S3 _ _ (S9 _ _ e)),(bL nD).trans (S3 _ _ h9),by rw[List.length_set];exact ld,r4⟩;rw[z,r9.new lr lin]at e;cases e
    .rw[ZZ (by simp;exact Nat.le_of_not_lt hm)];exact⟨S3 _ _ hp6,_,_,_,dss,rfl,S9.trans S3,S3 _ _ h9,ld,r3⟩
   .rintro σ' H' ⟨u7,u8,u9,dss,rfl,S9,h9,ld,r9⟩ _;exact fin _ _ _ _ _ dss H' S9 h9 ld r9
theorem WF.keys{H:Hp} : ∀{xs:Μ}{gs:List (Str×Int×Int)}{ws:List (Str×Addr)},WF K H xs gs ws->ws.map (·.1)=gs.map (·.1)
 |_,_,_,.nil=>rfl
 |_,_,_,.cons _ _ r=>by rw[List.map_cons,List.map_cons,r.keys]
theorem Za{ns:Β}{rs:List Nat}(h:∀r∈rs,r<ns.length):∃nms,Bx ns rs nms:=by
 refine⟨rs.map λr=>(ns[r]?).getD Str.empty,ak ..,λk r m e1 e2=>?_⟩;rw[aq,e1,Option.map_some,aj (h r (aC e1))]at e2;cases e2;exact aj _
structure Ba(K:Frag)(n:Nat)(ns:Β)(H H':Hp)(d:Addr)(g:Dr):Prop where
 ex:∃(p lp:Addr)(so x y S:Int)(rs:List Nat)(ws:List Int)(ps xs:Μ)(nms:Β),H d=some (.tup [.int so,.ref p,.ref lp])/\H p=some (.tup [.int x,.int y])/\0<y/\Zc x y/\H lp=some (.lst ps)/\PI H ps rs ws S/\wu n so rs ws S/\Bx ns rs nms/\g.p=p/\WF K H' xs (Ac.ways (nms.zip ws) S) g.ws
theorem Ba.on{n:Nat}{ns:Β}{H H' H2:Hp}{d:Addr}{g:Dr}(S:Same H' H2)(h:Ba K n ns H H' d g):Ba K n ns H H2 d g:=by
 obtain⟨p,lp,so,x,y,S',rs,ws,ps,xs,nms,a1,a2,a3,a4,a5,a6,a7,a8,a9,b⟩:=h.ex;exact⟨p,lp,so,x,y,S',rs,ws,ps,xs,nms,a1,a2,a3,a4,a5,a6,a7,a8,a9,b.same S⟩
theorem Ba.up{n:Nat}{ns:Β}{H H' H2:Hp}{d:Addr}{g:Dr}(S:Same H H2)(h:Ba K n ns H H' d g):Ba K n ns H2 H' d g:=by
 obtain⟨p,lp,so,x,y,S',rs,ws,ps,xs,nms,a1,a2,a3,a4,a5,a6,a7,a8,a9,b⟩:=h.ex;exact⟨p,lp,so,x,y,S',rs,ws,ps,xs,nms,S _ _ a1,S _ _ a2,a3,a4,S _ _ a5,a6.same S,a7,a8,a9,b⟩
theorem Ba.few{n:Nat}{ns:Β}{H H':Hp}{d:Addr}{g:Dr}(h:Ba K n ns H H' d g):g.ws.length<=8/\∀z∈g.ws,z.1∈ns:=by
 obtain⟨p,lp,so,x,y,S',rs,ws,ps,xs,nms,a1,a2,a3,a4,a5,a6,a7,a8,a9,b⟩:=h.ex;have lo:∀z∈nms.zip ws,0<=z.2:=λz hz=>a7.lo _ (List.of_mem_zip (a:=z.1) (b:=z.2) hz).2;have k:=b.keys;constructor
 .have e1:=ZH List.length k;rw[ak,ak]at e1;have e2:=Ac.Zn lo S';have e3:(nms.zip ws).length<=nms.length:=by rw[List.length_zip];exact Nat.min_le_left _ _
  have:=a8.1;have:=a7.l8;lia
 .intro z hz;have hz:=List.mem_map_of_mem (f:=(·.1)) hz;rw[k]at hz;obtain⟨v,hv,e⟩:=YV.mp hz;have hv:=Ac.YB hv;obtain⟨u,hu,e'⟩:=YV.mp hv;have hu:=(List.of_mem_zip (a:=u.1) (b:=u.2) hu).1;rw[<- e,<- e'];obtain⟨j,hj⟩:=aX hu;have lj:j<rs.length:=by rw[<- a8.1];exact(ao.mp hj).1
  exact aC (a8.2 j _ _ (aj lj) hj)
structure vX(K:Frag)(n:Nat)(ns:Β)(H H':Hp)(ds:Ε)(gs:List Dr):Prop where
 len:gs.length=ds.length
 at_:∀(j:Nat)(d:Addr)(g:Dr),ds[j]?=some d->gs[j]?=some g->Ba K n ns H H' d g
theorem vX.on{n:Nat}{ns:Β}{H H' H2:Hp}{ds:Ε}{gs:List Dr}(S:Same H' H2)(h:vX K n ns H H' ds gs):vX K n ns H H2 ds gs:=⟨h.len,λj d g e1 e2=>(h.at_ j d g e1 e2).on S⟩
theorem vX.up{n:Nat}{ns:Β}{H H' H2:Hp}{ds:Ε}{gs:List Dr}(S:Same H H2)(h:vX K n ns H H' ds gs):vX K n ns H2 H' ds gs:=⟨h.len,λj d g e1 e2=>(h.at_ j d g e1 e2).up S⟩
theorem vX.mem{n:Nat}{ns:Β}{H H':Hp}{ds:Ε}{gs:List Dr}(h:vX K n ns H H' ds gs){g:Dr}(hg:g∈gs):∃d,Ba K n ns H H' d g:=by
 obtain⟨j,hj⟩:=aX hg;have lj:j<ds.length:=by rw[<- h.len];exact(ao.mp hj).1
 exact⟨_,h.at_ j _ g (aj lj) hj⟩
theorem vX.snoc{n:Nat}{ns:Β}{H H':Hp}{ds:Ε}{gs:List Dr}{d:Addr}{g:Dr}(h:vX K n ns H H' ds gs)(hd:Ba K n ns H H' d g):vX K n ns H H' (ds++[d]) (gs++[g]):=by
 have l:=h.len;refine⟨by rw[aA,aA,l];rfl,λj d' g' e1 e2=>?_⟩;rcases kZ e1 with⟨a,b⟩|⟨a,b⟩<;>rcases kZ e2 with⟨c,e⟩|⟨c,e⟩
 .exact h.at_ j d' g' b e
 .lia
 .lia
 .subst b;subst e;exact hd
theorem zM.snoc{H:Hp}{xs:Μ}{gs:List Dr}{s:Addr}{g:Dr}(h:zM D H xs gs)(hs:ZV D H s g):zM D H (xs++[.ref s]) (gs++[g]):=by
 have l:=h.len;refine⟨by rw[aA,aA,l];rfl,λk g' e=>?_⟩;rcases kZ e with⟨a,b⟩|⟨a,b⟩
 .obtain⟨s',c,d⟩:=h.at_ k g' b;exact⟨s',by rw[aF (by lia)];exact c,d⟩
 .subst b;exact⟨s,by rw[aD (by lia),l,a,Nat.sub_self];rfl,hs⟩
theorem nG.snoc{H:Hp}{xs ys:Μ}{rms:List (Str×List Dr)}{t l:Addr}{g:Str×List Dr}(h:nG D H xs rms)(ht:H t=some (.tup [.str g.1,.ref l]))(hl:H l=some (.lst ys))(hd:zM D H ys g.2):nG D H (xs++[.ref t]) (rms++[g]):=by
 have le:=h.len;refine⟨by rw[aA,aA,le];rfl,λk g' e=>?_⟩;rcases kZ e with⟨a,b⟩|⟨a,b⟩
 .obtain⟨t',l',ys',c,d⟩:=h.at_ k g' b;exact⟨t',l',ys',by rw[aF (by lia)];exact c,d⟩
 .subst b;exact⟨t,l,ys,by rw[aD (by lia),le,a,Nat.sub_self];rfl,ht,hl,hd⟩
structure o8(K:Frag)(n:Nat)(H:Hp)(dss:List (Ε))(rms:List (Str×List Dr)):Prop where
 len:rms.length=dss.length
 at_:∀(j:Nat)(ds:Ε)(g:Str×List Dr),dss[j]?=some ds->rms[j]?=some g->vX K n (rms.map (·.1)) H H ds g.2
theorem o8.same{n:Nat}{H H':Hp}{dss:List (Ε)}{rms:List (Str×List Dr)}(h:o8 K n H dss rms)(S:Same H H'):o8 K n H' dss rms:=⟨h.len,λj ds g e1 e2=>((h.at_ j ds g e1 e2).on S).up S⟩
theorem aeg{so:Int}(s0:0<=so)(s3:so<=3):fW D (clsOf D so):=by
 unfold fW;obtain rfl|rfl|rfl|rfl:so=0\/so=1\/so=2\/so=3:=by lia
 all_goals simp[clsOf]
theorem Bl{as:Ε}{H:Hp}(hls:∀l∈as,∃zs,H l=some (.lst zs)){b:Addr}{u:HO}(nu:∀zs,u≠.lst zs)(e:H b=some u):del as H b=some u:=je (λz=>by
 obtain⟨zs,hz⟩:=hls b z;rw[hz]at e;injection e with e;exact nu zs e.symm) e
theorem WF.off{as:Ε}{H:Hp}(hls:∀l∈as,∃zs,H l=some (.lst zs)){xs:Μ}{gs:List (Str×Int×Int)}{ws:List (Str×Addr)}(h:WF K H xs gs ws):WF K (del as H) xs gs ws:=by
 refine h.imp (λt ys e=>Bl hls (by intro z y;cases y) e) λc xs e=>?_;rcases e with(e|⟨o,e⟩)|e
 .exact .inl (.inl (Bl hls (by intro z y;cases y) e))
 .exact .inl (.inr ⟨o,Bl hls (by intro z y;cases y) e⟩)
 .exact .inr e
def VL(K:Frag)(D:Adr):Sp:=λvs H Q _=>∃(c x y:Int)(p r:Addr)(xs:Μ)(dss:List (Ε))(n m:Nat),vs=[.int c,.ref p,.ref r]/\H p=some (.tup [.int x,.int y])/\0<=x/\x<y/\y<=100/\Int.gcd x y=1/\H r=some (.lst xs)/\RD n H xs dss/\dss.length=n/\n<=12/\m<=12/\(∀ds∈dss,ds.length<=m) /\
 ∀(o:Addr)(H':Hp)(rms:List (Str×List Dr)),Same H H'->H o=none->j5 D H' o p rms->Km rms->o8 K n H' dss rms->Q (.ref o) H'
def hlJ(K:Frag)(D:Adr)(σ0:List (Option V))(D1:Addr)(n:Nat)(ns:Β)(dss:List (Ε))(H H1:Hp)(k:Nat)(σ:L2.St)(H':Hp):Prop:=∃(u5 u6:Option V)(zs:Μ)(rms:List (Str×List Dr)),σ=σ0++[u5,u6]/\Same H1 H'/\H' D1=some (.lst zs)/\nG D (del [D1] H') zs rms/\rms.map (·.1)=ns.take k/\(∀g∈rms,(g.2.map (·.nm)).Nodup)/\∀(j:Nat)(ds:Ε)(g:Str×List Dr),dss[j]?=some ds->rms[j]?=some g->vX K n ns H (del [D1] H') ds g.2
def dlJ(K:Frag)(D:Adr)(D1 D2:Addr)(n:Nat)(ns ts:Β)(ds:Ε)(H H1:Hp)(k:Nat)(zs:Μ)(H':Hp):Prop:=∃gs:List Dr,Same H1 H'/\H' D2=some (.lst zs)/\zM D (del [D1,D2] H') zs gs/\gs.map (·.nm)=ts.take k/\vX K n ns H (del [D1,D2] H') (ds.take k) gs
theorem abo(F:Fun K FJ FJ Lr f fd)(T:Txt K mg D)(Gh:OkF P w K mg base 2 Ce Dg RK)(Lx:OkF P w K mg base 8 A_ CZ (QX K D))(vI:OkI P w K mg base CX0 4 D.Hall_init pU (Cv K D)):cJ P w K mg base CX0 9 f fd Fo (VL K D):=by
 refine F.ok CJ ?_ ?_
 .rintro _ _ _ _ ⟨c,x,y,p,r,xs,dss,n,m,rfl,_⟩;rfl
 .rintro cdv A outer s H _ Q E hr ⟨c,x,y,p,r,xs,dss,n,m,rfl,hp,x0,xy,y1,gx,hrm,rd,ln,n12,m12,hm,q⟩;refine⟨_,(bI (bZ (i:=3) CJ.nd (hx:=(Or.inr rfl)) (bR Gh hr.md (bF pv0 (bF (cu cN T.gH PySem.boot_len (bF pv2))))))
   (bI (bZ (i:=4) CJ.nd (jw oW))
   (bI (fL PassesOwn.never rfl (eF T.gY (bF (cu cN T.gH PySem.boot_len (bF pv2))).mono) (cB (i:=5) CJ.nd)
    (bI (bZ (i:=6) CJ.nd (bR Gh hr.md (bF (bV d9 pv0 pv5) (bF (cu cN T.gH PySem.boot_len (bF (bT bU pv2 pv5)))))))
    (bO (cX (su pv4 (bF (gO (bF (bT bU pv3 pv5) (bF (kJ (bQ Lr) Uh Uh ["_law_title","_law_door_here"] (Oz T.Wk (bF pv6 (bF (bT bU pv2 pv5))).mono) (gJ (n:=2) rfl (cG (dH (i:=0)) (cG (dH (i:=1)) fX))) cU (bR Lx hr.md (bF pv0 (bF pv1 (bF pv5))))))))))))))
   (bO (cg (xH T.abD vI hr.md T.adV (bF pv1 (bF pv4)))))))),?_⟩
  have lx:xs.length=n:=by rw[rd.len,ln]
  have z9:100<sizeLine:=by decide
  refine cL ⟨_,rfl,_,rfl,r,xs,rfl,hrm,c,n,by rw[lx],n12,λl0 ns H1 S1 f0 hl0 lns wns nns=>cL ⟨bA _,λD1 hD1=>gK (qz ?_)⟩⟩;refine⟨_,rfl,r,xs,rfl,(bL (bH (S1 _ _ hrm) hD1)).trans (S1 _ _ hrm),n,by rw[lx],by exact Y3 n12 (by decide),hlJ K D [some (.int c),some (.ref p),some (.ref r),some (.ref l0),some (.ref D1)] D1 n ns dss H H1,⟨none,none,[],[],rfl,Same.upd hD1,bG,⟨rfl,λk g e=>by simp at e⟩,rfl,by simp,λj ds g _ e=>by simp at e⟩,?_,?_⟩
  .rintro k σ' H' hk ⟨u5,u6,zs,rms,rfl,S2,hD,hR,hn,hd,hi⟩;have ed:dss[k]?=some (dss[k]'(by lia)):=aj _;have em:=aW (l:=dss) (n:=k) (by lia);have en:ns[k]?=some (ns[k]'(by lia)):=aj _;generalize dss[k]'(by lia)=ds at ed em;generalize ns[k]'(by lia)=nk at en;have dm:=hm ds em;obtain⟨lk,ek,hlk,dd⟩:=rd.at_ k ds ed;have SH:=S1.trans S2;refine⟨_,rfl,_,rfl,_,_,rfl,rfl,_,rfl,_,rfl,_,_,_,_,rfl,rfl,SH _ _ hrm,bY ek,lk,_,rfl,SH _ _ hlk,_,ds.length,by rw[ak],by exact aM dm m12,λl1 ts H3 S3 f3 hl3 lts wts nts=>⟨_,rfl,D1,_,rfl,S3 _ _ hD,_,rfl,_,rfl,_,_,_,_,rfl,rfl,S3 _ _ (S2 _ _ hl0),bY (by rw[aq,en];rfl),Q_ (uP ?_)⟩⟩;have SH3:=SH.trans S3;have S13:=S2.trans S3;refine⟨_,rfl,_,rfl,_,rfl,_,_,_,_,rfl,rfl,SH3 _ _ hrm,bY ek,l1,lk,_,_,rfl,hl3,SH3 _ _ hlk,by rw[ak,ak,lts],by rw[ak];lia,λD2 hD2=>⟨dlJ K D D1 D2 n ns ts ds H H3,⟨[],Same.upd hD2,bG,⟨rfl,λk g e=>by simp at e⟩,rfl,⟨rfl,λj d g _ e=>by simp at e⟩⟩,?_,?_⟩⟩
   .rintro j xv yv zs2 Hc t hx hy ⟨gs,S5,h5,dr,gn,ri⟩ hz ht ha hb pre hpre;obtain⟨u1,u2,rfl⟩:=Ak hpre;rw[aq]at hx hy;have lj:j<ds.length:=by
     by_cases z:j<ds.length
     .exact z
     .rw[aN (Nat.le_of_not_lt z)]at hy;cases hy
    have e1:ts[j]?=some (ts[j]'(by lia)):=aj _;have e2:ds[j]?=some ds[j]:=aj _;rw[e1]at hx;rw[e2]at hy;cases hx;cases hy;generalize ts[j]'(by lia)=tj at e1 ⊢;generalize ds[j]=d at e2 ⊢;obtain⟨p1,lp,so,x1,y2,S',rs,ws,ps,a1,a2,a3,a4,a5,a6,a7⟩:=(dd d (aC e2)).ex;obtain⟨nms,no⟩:=Za (ns:=ns) (rs:=rs) λr hr=>by rw[lns];exact a7.lt r hr
    have SHc:Same H Hc:=SH3.trans S5;have SU:=SHc.trans (Same.upd ht (o:=.tup [.str tj,.ref d]));have hl0c:=Same.upd ht (o:=.tup [.str tj,.ref d]) _ _ (S5 _ _ (S13 _ _ hl0));refine⟨_,_,rfl,bG,rfl,⟨_,_,rfl,_,_,rfl,rfl,[_,_],rfl,rfl,⟨_,rfl,_,rfl,_,rfl,so,d,l0,lp,p1,tj,x1,y2,S',rs,ws,ps,ns,nms,rfl,SU _ _ a1,wts _ (aC e1),⟨.inl (.inl (SU _ _ a2)),a3,a4.gcd⟩,SU _ _ a5,a6.same SU,hl0c,no,a7.drawn no wns,λH4 s ld ys us S6 fs fld d1=>?_⟩⟩⟩;have S7:Same Hc H4:=(Same.upd ht).trans S6;have hD4:H4 D1=some (.lst zs):=S7 _ _ (S5 _ _ (S3 _ _ hD));have h54:=S7 _ _ h5;have hls:∀l∈[D1,D2],∃zs,H4 l=some (.lst zs):=λl hl=>by
     simp only[YU,List.not_mem_nil,or_false]at hl;rcases hl with rfl|rfl
     .exact⟨_,hD4⟩
     .exact⟨_,h54⟩
    have nw:∀b,upd Hc t (.tup [.str tj,.ref d]) b=none->b∉[D1,D2]:=λb hb z=>by
     simp only[YU,List.not_mem_nil,or_false]at z;rcases z with rfl|rfl
     .rw[Same.upd ht _ _ (S5 _ _ (S3 _ _ hD))]at hb;cases hb
     .rw[Same.upd ht _ _ h5]at hb;cases hb
    obtain⟨dx,hs⟩:=d1.at_;have wo:=d1.wf.off hls;have st:Same (del [D1,D2] Hc) (del [D1,D2] H4):=tH λb o _ e=>S7 _ _ e;have di:Ba K n ns H (del [D1,D2] H4) d ⟨tj,p1,us⟩:=⟨p1,lp,so,x1,y2,S',rs,ws,ps,ys,nms,a1,a2,a3,a4,a5,a6,a7,no,rfl,wo⟩;refine⟨h54,S7 _ _ ha,S7 _ _ hb,gs++[⟨tj,p1,us⟩],λb u e=>(bL (bH e hD2)).trans (S7 _ _ (S5 _ _ e)),bG,?_,?_,?_⟩
    .rw[yR (by simp)];exact(dr.same st).snoc ⟨clsOf D so,dx,ld,ys,aeg a7.s0 a7.s3,je (nw _ fs) hs,je (nw _ fld) d1.hl,wo.ways,aM di.few.1 (by decide)⟩
    .rw[bC,gn,cj e1];rfl
    .rw[yR (by simp),cj e2];exact(ri.on st).snoc di
   .rintro zs2 Hc ⟨gs,S5,h5,dr,gn,ri⟩ hz;rw[ak,aL (aG _)]at gn;rw[ak,aL (Nat.le_of_eq (Eq.symm lts))]at ri;have rk:rms.length=k:=by
     have:=ZH List.length hn;rw[ak,bw]at this;lia
    have zl:=hR.len;have hDc:Hc D1=some (.lst zs):=S5 _ _ (S3 _ _ hD);have n12':D1≠D2:=bH (S3 _ _ hD) hD2;refine⟨fQ,λt2 g2=>?_⟩;have n1:D1≠t2:=bH hDc g2;have st:Same (del [D1] H') (del [D1] (upd Hc t2 (.tup [.str nk,.ref D2]))):=tH λb o _ e=>Same.upd g2 _ _ (S5 _ _ (S3 _ _ e));have s2:Same (del [D1,D2] Hc) (del [D1] (upd Hc t2 (.tup [.str nk,.ref D2]))):=λb o e=>by
     obtain⟨a,e⟩:=sS e;exact je (by simp at a ⊢;exact a.1) (Same.upd g2 _ _ e)
    refine⟨_,zs,rfl,(bL n1).trans hDc,by lia,some (.int k),some (.ref l1),zs++[.ref t2],rms++[(nk,gs)],rfl,λb u e=>(bL (bH e hD1)).trans (Same.upd g2 _ _ (S5 _ _ (S13 _ _ e))),bG,?_,?_,?_,?_⟩
    .rw[yR (by simp)];exact(hR.same st).snoc (je (by simp;exact n1.symm) bG) (je (by simp;exact n12'.symm) ((bL (bH h5 g2)).trans h5)) (dr.same s2)
    .rw[bC,hn,cj en];rfl
    .intro g hg;rcases Y1.mp hg with hg|hg
     .exact hd g hg
     .rw[YR.mp hg,gn];exact nts
    .intro j ds' g h1 h2;rw[yR (by simp)];rcases kZ h2 with⟨_,b⟩|⟨a,rfl⟩
     .exact(hi j ds' g h1 b).on st
     .rw[a,rk,ed]at h1;cases h1;exact ri.on s2
  .rintro σ' H' ⟨u5,u6,zs,rms,rfl,S2,hD,hR,hn,hd,hi⟩;refine⟨_,rfl,_,rfl,λo dx g1 g2 g3=>?_⟩;have SM:Same H' (upd (upd H' dx (.own o)) o (.ins D.Hall dx [])):=λb u e=>by rw[bL (bH e g1),bL (bH e g2)];exact e
   have SH:=S1.trans S2;rw[aL (Nat.le_of_eq lns)]at hn;have rl:rms.length=n:=by rw[<- lns,<- hn,ak]
   have ri:∀g∈rms,∃ds∈dss,vX K n ns H (del [D1] H') ds g.2:=λg hg=>by
    obtain⟨j,hj⟩:=aX hg;have lj:j<dss.length:=by have:=(ao.mp hj).1;lia
    exact⟨_,aW lj,hi j _ g (aj lj) hj⟩
   have ok:Km rms:=by
    refine⟨by lia,by rw[hn];exact nns,λg hg=>wns _ (by rw[<- hn];exact List.mem_map_of_mem hg),λg hg=>?_,hd,λg hg d hd' z hz=>?_⟩
    .obtain⟨ds,h1,h2⟩:=ri g hg;have:=hm ds h1;have:=h2.len;lia
    .obtain⟨ds,h1,h2⟩:=ri g hg;obtain⟨_,h3⟩:=h2.mem hd';rw[hn];exact h3.few.2 z hz
   refine⟨o,dx,p,D1,x,y,zs,rms,rfl,bG,⟨.inl (.inl (SM _ _ (SH _ _ hp))),by exact Int.lt_of_le_of_lt x0 xy,gx⟩,x0,xy,Bd.sm (by lia),Bd.sm (by omega),SM _ _ hD,(hR.same wM).same SM,ok,λH5 kp hh=>⟨rfl,?_⟩⟩;have SS:Same H' H5:=λb u e=>kp b u (bH e g1) (SM b u e);refine q o H5 rms (SH.trans SS) (Same.free SH g1) hh ok ⟨by rw[rl,ln],λj ds g h1 h2=>?_⟩;rw[hn];exact((hi j ds g h1 h2).on (wM.trans SS)).up (SH.trans SS)
noncomputable def wsum(gs:List (Str×Int))(h:Str->Rat):Rat:=(gs.map λg=>(g.2:Rat)*h g.1).sum
theorem lN{g:Str×Int}{gs:List (Str×Int)}{h:Str->Rat} : wsum (g::gs) h=(g.2:Rat)*h g.1+wsum gs h:=rfl
theorem ad5{a:Str×Int}{as:List (Str×Int)}{r:Str}{y:Int}(n:a.1≠r):Ac.put (a::as) r y=a::Ac.put as r y:=by
 unfold Ac.put;rw[List.any_cons,Zp n,Bool.false_or];split
 .rw[List.map_cons,ZZ n]
 .rfl
theorem aeU{a:Str×Int}{as:List (Str×Int)}{r:Str}{y:Int}(e:a.1=r)(n:r∉as.map (·.1)):Ac.put (a::as) r y=(a.1,y)::as:=by
 unfold Ac.put;rw[List.any_cons,Zs e,Bool.true_or,ZY rfl,List.map_cons,ZY e]
 congr 1
 have:as.map (λg=>if g.1=r then(g.1,y)else g)=as.map id:=List.map_congr_left λg hg=>ZZ λ(z:g.1=r)=>n (YV.mpr ⟨g,hg,z⟩);rw[this,List.map_id]
theorem abK{a:Str×Int}{as:List (Str×Int)}{r:Str}(n:a.1≠r):Ac.look (a::as) r=Ac.look as r:=by
 unfold Ac.look;rw[List.find?_cons,Zp n]
theorem abO{a:Str×Int}{as:List (Str×Int)}{r:Str}(e:a.1=r):Ac.look (a::as) r=a.2:=by
 unfold Ac.look;rw[List.find?_cons,Zs e];rfl
theorem Sv{h:Str->Rat}{r:Str}{y:Int} : ∀{as:List (Str×Int)},(as.map (·.1)).Nodup->wsum (Ac.put as r y) h=wsum as h+((y:Rat)-(Ac.look as r:Rat))*h r
 |[],_=>by
  show(y:Rat)*h r+0=0+((y:Rat)-((0:Int):Rat))*h r;rw[Rat.intCast_zero]
  grind
 |a::as,nd=>by
  rw[List.map_cons,List.nodup_cons]at nd;by_cases e:a.1=r
  .rw[aeU e (e ▸ nd.1),abO e,lN,lN,e]
   grind
  .rw[ad5 e,abK e,lN,lN,Sv nd.2]
   grind
theorem K4{h:Str->Rat} : ∀{gs acc:List (Str×Int)},(acc.map (·.1)).Nodup->wsum (gs.foldl (λa g=>Ac.put a g.1 (Ac.look a g.1+g.2)) acc) h=wsum acc h+wsum gs h
 |[],acc,_=>by
  show wsum acc h=wsum acc h+0;rw[Rat.add_zero]
 |g::gs,acc,nd=>by
  rw[List.foldl_cons,K4 (Ac.Zt nd _ _),Sv nd,lN,Rat.intCast_add]
  grind
theorem W5{h:Str->Rat}{gs:List (Str×Int)} : wsum (Ac.ji gs) h=wsum gs h:=by
 have:=K4 (h:=h) (gs:=gs) (acc:=[]) List.nodup_nil;have z:wsum [] h=0:=rfl;rw[z,Rat.zero_add]at this;exact this
theorem acX{t b:Int}(hb:0<b):vl (Ac.lw t b)=(t:Rat)/(b:Rat):=ZS (y:=(t,b)) (Ac.iG hb) hb (Ac.tD hb)
noncomputable def rP(ns:Β)(gs:List (Str×Int))(S:Int):Θ:=(Ac.ways gs S).map λg=>(ns.idxOf g.1,g.2)
theorem Qf{ns:Β}{S:Int}(hS:0<S){G:Nat->Rat} : ∀{acc:List (Str×Int)},(∀g∈acc,0<=g.2)->gR (((acc.filter λg=>decide (0<g.2)).map λg=>(g.1,Ac.lw g.2 S)).map λg=>(ns.idxOf g.1,g.2)) G=wsum acc (λn=>G (ns.idxOf n))/(S:Rat)
 |[],_=>by
  show(0:Rat)=0/(S:Rat)
  grind
 |a::acc,h=>by
  have ih:=Qf (ns:=ns) hS (G:=G) (acc:=acc) λg hg=>h g (aJ _ hg);have a0:=h a aP;have:=d_ hS;rw[lN,List.filter_cons];by_cases e:0<a.2
  .rw[ZY (Zs e),List.map_cons,List.map_cons];show vl (Ac.lw a.2 S)*G (ns.idxOf a.1)+gR _ G=_;rw[ih,acX hS]
   grind
  .rw[ZZ (by simp[e]),ih];have z:a.2=0:=by lia
   rw[z,Rat.intCast_zero]
   grind
theorem Qp{ns:Β}{gs:List (Str×Int)}{S:Int}(hS:0<S)(lo:∀g∈gs,0<=g.2){G:Nat->Rat} : gR (rP ns gs S) G=wsum gs (λn=>G (ns.idxOf n))/(S:Rat):=by
 unfold rP Ac.ways;rw[Qf hS λg hg=>((Ac.v7 gs lo).2.2 g hg).1,W5]
noncomputable def K6(rs:List Nat)(ws:List Int)(S:Int):Θ:=List.zipWith (λr x=>(r,Ac.lw x S)) rs ws
theorem aeL{ns:Β}(nd:ns.Nodup){r:Nat}{m:Str}(h:ns[r]?=some m):ns.idxOf m=r:=by
 have lm:ns.idxOf m<ns.length:=List.idxOf_lt_length_of_mem (aC h);have e:ns[ns.idxOf m]?=some m:=by rw[aj lm,List.getElem_idxOf lm]
 exact xO nd e h
theorem Rj{ns:Β}(nd:ns.Nodup){S:Int}(hS:0<S){G:Nat->Rat} : ∀{rs:List Nat}{nms:Β}{ws:List Int},Bx ns rs nms->gR (K6 rs ws S) G=wsum (nms.zip ws) (λn=>G (ns.idxOf n))/(S:Rat)
 |[],nms,ws,h=>by
  have e:nms=[]:=List.eq_nil_of_length_eq_zero h.1;subst e;show(0:Rat)=0/(S:Rat)
  grind
 |r::rs,[],_,h=>by cases h.1
 |r::rs,m::nms,[],h=>by
  show(0:Rat)=0/(S:Rat)
  grind
 |r::rs,m::nms,x::ws,h=>by
  have ih:=Rj nd hS (G:=G) (rs:=rs) (nms:=nms) (ws:=ws) ⟨Nat.succ.inj h.1,λk r' m' e1 e2=>h.2 (k+1) r' m' e1 e2⟩;have e0:=aeL nd (h.2 0 r m rfl rfl);show vl (Ac.lw x S)*G r+gR (K6 rs ws S) G=_;rw[ih,acX hS,List.zip_cons_cons,lN,e0];have:=d_ hS
  grind
structure Gw(n:Nat)(H:Hp)(d:Addr)(fc:Ι×Θ):Prop where
 ex:∃(p lp:Addr)(so S:Int)(rs:List Nat)(ws:List Int)(ps:Μ),H d=some (.tup [.int so,.ref p,.ref lp])/\H p=some (.tup [.int fc.1.1,.int fc.1.2])/\H lp=some (.lst ps)/\PI H ps rs ws S/\wu n so rs ws S/\∀G,gR fc.2 G=gR (K6 rs ws S) G
theorem Gw.same{n:Nat}{H H':Hp}{d:Addr}{fc:Ι×Θ}(h:Gw n H d fc)(S:Same H H'):Gw n H' d fc:=by
 obtain⟨p,lp,so,S',rs,ws,ps,a,b,c,e,f,g⟩:=h.ex;exact⟨p,lp,so,S',rs,ws,ps,S _ _ a,S _ _ b,S _ _ c,e.same S,f,g⟩
theorem WF.get{H:Hp} : ∀{xs:Μ}{gs:List (Str×Int×Int)}{ws:List (Str×Addr)}{k:Nat}{g:Str×Addr},WF K H xs gs ws->ws[k]?=some g->∃x,gs[k]?=some (g.1,x)/\SqT K H g.2 [.int x.1,.int x.2]
 |_,_,_,_,_,.nil,e=>by simp at e
 |_,_,_,0,_,.cons (x:=x) (y:=y) h1 h2 r,e=>by
  rw[List.getElem?_cons_zero]at e;cases e;exact⟨(x,y),rfl,h2⟩
 |_,_,_,k+1,_,.cons h1 h2 r,e=>by
  rw[List.getElem?_cons_succ]at e ⊢;exact r.get e
theorem WF.len2{H:Hp} : ∀{xs:Μ}{gs:List (Str×Int×Int)}{ws:List (Str×Addr)},WF K H xs gs ws->ws.length=gs.length
 |_,_,_,.nil=>rfl
 |_,_,_,.cons _ _ r=>ZH (· + 1) r.len2
structure Kl(fc:Ι×Θ):Prop where
 f0:0<fc.1.2
 big:fc.1.1.natAbs<=10^30
 few:fc.2.length<=8
 gc:Int.gcd fc.1.1 fc.1.2=1
 one:gR fc.2 (λ_=>1)=1
 ex:∃M:Nat,0<M/\(M:Int)<=5000000/\fc.1.2 ∣ (M:Int)/\∀c∈fc.2,0<c.2.2/\c.2.2 ∣ (M:Int)/\0<=c.2.1/\c.2.1<=c.2.2
theorem Rn:∀{gs:List (Str×Int)},wsum gs (λ_=>1)=(((gs.map (·.2)).sum:Int):Rat)
 |[]=>rfl
 |g::gs=>by rw[lN,Rn,List.map_cons,List.sum_cons,Rat.intCast_add,Rat.mul_one]
theorem aiy{u S:Int}(hS:0<S)(u0:0<=u)(u1:u<=S):0<=(Ac.lw u S).1/\(Ac.lw u S).1<=(Ac.lw u S).2:=by
 have p:=Ac.iG (t:=u) hS;have e:=Ac.tD (t:=u) hS;generalize(Ac.lw u S).1=x at *;generalize(Ac.lw u S).2=y at *;constructor
 .refine Int.not_lt.mp λz=>?_;have h1:x*S<0:=Int.mul_neg_of_neg_of_pos z hS;have h2:0<=u*y:=Int.mul_nonneg u0 (XY p);lia
 .refine Int.not_lt.mp λz=>?_;have h1:y*S<x*S:=Int.mul_lt_mul_of_pos_right z hS;have h2:u*y<=S*y:=Int.mul_le_mul_of_nonneg_right u1 (XY p);have h3:S*y=y*S:=Int.mul_comm ..;lia
theorem Ba.fc{n:Nat}{ns:Β}{H:Hp}{d:Addr}{g:Dr}(h:Ba K n ns H H d g)(nd:ns.Nodup)(ln:ns.length=n):∃fc:Ι×Θ,DrN K H ns g fc.1 fc.2/\K8 n fc.1 fc.2/\Gw n H d fc/\Kl fc:=by
 have few:=h.few;obtain⟨p,lp,so,x,y,S,rs,ws,ps,xs,nms,a1,a2,a3,a4,a5,a6,a7,a8,a9,b⟩:=h.ex;have lo:∀z∈nms.zip ws,0<=z.2:=λz hz=>a7.lo _ (List.of_mem_zip (a:=z.1) (b:=z.2) hz).2;have sa:=a4.sa;have sb:=a4.sb;have S0:=a7.pos;have S1:=a7.le;have wl:=b.len2;have key:∀z∈Ac.ways (nms.zip ws) S,z.1∈ns:=λz hz=>by
  have hm:z.1∈g.ws.map (·.1):=by rw[b.keys];exact List.mem_map_of_mem hz
  obtain⟨u,hu,e⟩:=YV.mp hm;rw[<- e];exact few.2 u hu
 have fr:∀z∈Ac.ways (nms.zip ws) S,Fq z.2/\z.2.2 ∣ S/\0<=z.2.1/\z.2.1<=z.2.2:=λz hz=>by
  unfold Ac.ways at hz;obtain⟨u,hu,rfl⟩:=YV.mp hz;obtain⟨hu1,hu2⟩:=List.mem_filter.mp hu;have q:=(Ac.v7 _ lo).2.2 u hu1;have sm:((nms.zip ws).map (·.2)).sum=S:=by
   have:(nms.zip ws).map (·.2)=ws:=List.map_snd_zip (by have:=a8.1;have:=a7.len;lia);rw[this];exact a7.sum
  rw[sm]at q;have b1:=Ac.IK u.2 S;have b2:=Ac.En u.2 S;exact⟨⟨Ac.iG S0,Ac.rQ S0,by show(Ac.lw u.2 S).1.natAbs<=_;lia,by show(Ac.lw u.2 S).2.natAbs<=_;lia⟩,Int.ediv_dvd_of_dvd (Int.gcd_dvd_right u.2 S),aiy S0 q.1 q.2⟩
 refine⟨((x,y),rP ns (nms.zip ws) S),⟨by rw[a9];exact a2,by unfold rP;rw[ak,wl],λk u c e1 e2=>?_⟩,⟨⟨a3,aM sa (by decide),?_⟩,?_,λc hc=>?_,?_⟩,⟨p,lp,so,S,rs,ws,ps,a1,a2,a5,a6,a7,λG=>?_⟩,⟨a3,sa,?_,a4.gcd,?_,(y*S).toNat,?_,?_,?_,λc hc=>?_⟩⟩
 .obtain⟨z,ez,hz⟩:=b.get e1;unfold rP at e2;rw[aq,ez]at e2;cases e2;have lm:ns.idxOf u.1<ns.length:=List.idxOf_lt_length_of_mem (few.2 u (aC e1));exact⟨by rw[aj lm,List.getElem_idxOf lm],hz⟩
 .unfold Bn;have:(10:Nat)^40=10^3*10^37:=by decide
  show y.natAbs<=_;lia
 .unfold rP;rw[ak,<- wl];have:=few.1;exact aM this (by decide)
 .unfold rP at hc;obtain⟨z,hz,rfl⟩:=YV.mp hc;exact⟨by rw[<- ln];exact List.idxOf_lt_length_of_mem (key z hz),(fr z hz).1⟩
 .have dv:lvB (chF (rP ns (nms.zip ws) S)) ∣ S.natAbs:=Lv.GR.mpr λc hc=>by
   unfold T_ chF rP at hc;obtain⟨f,hf,rfl⟩:=YV.mp hc;obtain⟨c2,hc2,rfl⟩:=YV.mp hf;obtain⟨z,hz,rfl⟩:=YV.mp hc2;exact Int.natAbs_dvd_natAbs.mpr (fr z hz).2.1
  have le:=Nat.le_of_dvd (by lia) dv;unfold Bn;rw[XT];show lvB (chF (rP ns (nms.zip ws) S))<=_;have:(10:Nat)^20<=10^60:=by decide
  lia
 .show gR (rP ns (nms.zip ws) S) G=_;rw[Qp S0 lo,Rj nd S0 a8]
 .unfold rP;rw[ak,<- wl];exact few.1
 .show gR (rP ns (nms.zip ws) S) _=1;rw[Qp S0 lo,Rn,show(nms.zip ws).map (·.2)=ws from List.map_snd_zip (by have:=a8.1;have:=a7.len;lia),a7.sum];have:=d_ S0
  grind
 .have:=XZ a3 S0;lia
 .have:=XZ a3 S0;rw[Int.toNat_of_nonneg (XY this)];exact Int.le_trans (Int.mul_le_mul sb S1 (XY S0) (by decide)) (by decide)
 .have:=XZ a3 S0;rw[Int.toNat_of_nonneg (XY this)];exact Int.dvd_mul_right _ _
 .have:=XZ a3 S0;rw[Int.toNat_of_nonneg (XY this)];unfold rP at hc;obtain⟨z,hz,rfl⟩:=YV.mp hc;obtain⟨q1,q2,q3,q4⟩:=fr z hz;exact⟨q1.pos,Int.dvd_trans q2 (Int.dvd_mul_left _ _),q3,q4⟩
theorem wZ{α β:Type} : ∀{l:List α}{P:Nat->α->β->Prop},(∀k a,l[k]?=some a->∃b,P k a b)->∃m:List β,m.length=l.length/\∀k a b,l[k]?=some a->m[k]?=some b->P k a b
 |[],_,_=>⟨[],rfl,λk a b e=>by simp at e⟩
 |a::l,P,h=>by
  obtain⟨b,hb⟩:=h 0 a rfl;obtain⟨m,lm,hm⟩:=wZ (l:=l) (P:=λk=>P (k+1)) λk a e=>h (k+1) a e;refine⟨b::m,ZH (· + 1) lm,λk a' b' e1 e2=>?_⟩;cases k with
  |zero =>
   cases e1;cases e2;exact hb
  |succ k=>exact hm k a' b' e1 e2
theorem vX.fcs{n:Nat}{ns:Β}{H:Hp}{ds:Ε}{gs:List Dr}(h:vX K n ns H H ds gs)(nd:ns.Nodup)(ln:ns.length=n):∃fcs:Δ,XC K H ns n gs fcs/\fcs.length=ds.length/\∀(k:Nat)d fc,ds[k]?=some d->fcs[k]?=some fc->Gw n H d fc/\Kl fc:=by
 obtain⟨m,lm,hm⟩:=wZ (l:=ds) (P:=λk d(fc:Ι×Θ)=>∀g,gs[k]?=some g->DrN K H ns g fc.1 fc.2/\K8 n fc.1 fc.2/\Gw n H d fc/\Kl fc) λk d e=>by
  have lk:k<gs.length:=by rw[h.len];exact(ao.mp e).1
  obtain⟨fc,p⟩:=(h.at_ k d _ e (aj lk)).fc nd ln;exact⟨fc,λg eg=>by rw[aj lk]at eg;cases eg;exact p⟩
 refine⟨m,⟨by rw[h.len,lm],λk d fc e1 e2=>?_⟩,lm,λk d fc e1 e2=>?_⟩
 .have lk:k<ds.length:=by rw[<- lm];exact(ao.mp e2).1
  obtain⟨a,b,_⟩:=hm k _ fc (aj lk) e2 d e1;exact⟨a,b⟩
 .have lk:k<gs.length:=by rw[h.len];exact(ao.mp e1).1
  exact(hm k d fc e1 e2 _ (aj lk)).2.2
structure Yv(n:Nat)(H:Hp)(ds:Ε)(fcs:Δ):Prop where
 len:fcs.length=ds.length
 at_:∀(j:Nat)d fc,ds[j]?=some d->fcs[j]?=some fc->Gw n H d fc
structure sX(H:Hp)(r:Addr)(fcss:Γ):Prop where
 ex:∃xs,H r=some (.lst xs)/\xs.length=fcss.length/\∀(k:Nat)fcs,fcss[k]?=some fcs->∃l ds,xs[k]?=some (.ref l)/\H l=some (.lst (ds.map V.ref))/\ds.length<=64/\Yv fcss.length H ds fcs
theorem sX.same{H H':Hp}{r:Addr}{fcss:Γ}(S:Same H H')(h:sX H r fcss):sX H' r fcss:=by
 obtain⟨xs,a,b,c⟩:=h.ex;refine⟨xs,S _ _ a,b,λk fcs e=>?_⟩;obtain⟨l,ds,d1,d2,d3,d4⟩:=c k fcs e;exact⟨l,ds,d1,S _ _ d2,d3,d4.len,λj d fc e1 e2=>(d4.at_ j d fc e1 e2).same S⟩
theorem Sq{n m:Nat}{H:Hp}{o p r:Addr}{x y:Int}{xs:Μ}{dss:List (Ε)}{rms:List (Str×List Dr)}(hh:j5 D H o p rms)(ok:Km rms)(hi:o8 K n H dss rms)(hp:H p=some (.tup [.int x,.int y]))(x0:0<=x)(xy:x<y)(y1:y<=100)(hr:H r=some (.lst xs))(rd:RD n H xs dss)(ld:dss.length=n)(n12:n<=12)(dm:∀ds∈dss,ds.length<=m)(m3:m<=6) :
  ∃fcss,fcss.length=n/\zu K D H o (x,y) fcss/\sX H r fcss/\∀fcs∈fcss,fcs.length<=m/\∀fc∈fcs,Kl fc:=by
 have rl:rms.length=n:=by rw[hi.len,ld]
 have b:∀z:Int,0<=z->z<=100->Bn 40 z:=λz h1 h2=>by unfold Bn;lia
 have fw:∀g∈rms,∀d∈g.2,d.ws.length<=100:=λg hg d hd=>by
  obtain⟨j,hj⟩:=aX hg;have lj:j<dss.length:=by rw[<- hi.len];exact(ao.mp hj).1
  obtain⟨_,z⟩:=(hi.at_ j _ g (aj lj) hj).mem hd;exact aM z.few.1 (by decide)
 obtain⟨fcss,fl,hf⟩:=wZ (l:=rms) (P:=λk g(fcs:Δ)=>XC K H (rms.map (·.1)) n g.2 fcs/\(∃l ds,xs[k]?=some (.ref l)/\H l=some (.lst (ds.map V.ref))/\ds.length<=64/\Yv n H ds fcs)/\fcs.length<=m/\∀fc∈fcs,Kl fc) λk g eg=>by
  have lk:k<n:=by rw[<- rl];exact(ao.mp eg).1
  have ed:dss[k]?=some (dss[k]'(by lia)):=aj _;have ri:=hi.at_ k _ _ ed eg;obtain⟨l,a1,a2,_⟩:=rd.at_ k _ ed;obtain⟨fcs,d1,d2,d3⟩:=ri.fcs ok.nd (by rw[ak,rl]);have dl:=dm _ (aC ed);refine⟨fcs,d1,⟨l,_,a1,a2,by lia,d2,λj d fc e1 e2=>(d3 j d fc e1 e2).1⟩,by exact aM (Nat.le_of_eq d2) dl,λfc hfc=>?_⟩;obtain⟨j,ej⟩:=aX hfc;have lj:j<(dss[k]'(by lia)).length:=by rw[<- d2];exact(ao.mp ej).1
  exact(d3 j _ fc (aj lj) ej).2
 have fn:fcss.length=n:=by rw[fl,rl]
 refine⟨fcss,fn,⟨⟨p,rms,hh,⟨ok.len,ok.few,fw⟩,ok.nd,hp,by rw[fl],λk g fcs e1 e2=>by rw[fn];exact(hf k g fcs e1 e2).1⟩,by show 0<y;exact Int.lt_of_le_of_lt x0 xy,b _ x0 (by show x<=100;exact Int.le_trans (XY xy) y1),b _ (by show 0<=y;exact Int.le_trans x0 (XY xy)) y1,by exact aM (Nat.le_of_eq fn) n12⟩,⟨xs,hr,by rw[rd.len,ld,fn],λk fcs e=>?_⟩,λfcs hfc=>?_⟩
 .have lk:k<rms.length:=by rw[<- fl];exact(ao.mp e).1
  rw[fn];exact(hf k _ fcs (aj lk) e).2.1
 .obtain⟨k,e⟩:=aX hfc;have lk:k<rms.length:=by rw[<- fl];exact(ao.mp e).1
  exact(hf k _ fcs (aj lk) e).2.2
def U3(dss:List (Ε))(ps:List (Option Nat)):Prop:=ps.length=dss.length/\∀(k:Nat)ds o,dss[k]?=some ds->ps[k]?=some o->JQ (stV o) ds.length=true
def K5:Sp:=λvs H Q _=>∃(c:Int)(r:Addr)(xs:Μ)(n:Nat)(dss:List (Ε)),vs=[.int c,.ref r]/\H r=some (.lst xs)/\RD n H xs dss/\dss.length<=12/\(∀ds∈dss,ds.length<=100)/\∀l ps H',Same H H'->H l=none->H' l=some (.lst (ps.map stV))->U3 dss ps->Q (.ref l) H'
theorem aaA{k m:Nat}(h:k<m):JQ (stV (some k)) m=true:=by
 unfold JQ;rw[ZZ (by lia)];show(decide ((0:Int)<=(k:Nat))&&decide (((k:Nat):Int)<m))=true;rw[Zs (Wp _),Zs (by lia)];rfl
theorem X7(F:Fun K yQ yQ Gs f fd)(T:Txt K mg D)(dh:OkF P w K mg base 1 iz iC gP):cJ P w K mg base CX0 2 f fd yw K5:=by
 refine F.ok yD ?_ ?_
 .rintro _ _ _ _ ⟨c,r,xs,n,dss,rfl,_⟩;rfl
 .rintro cdv A outer s H _ Q E hr ⟨c,r,xs,n,dss,rfl,hr',rd,n12,dm,q⟩;have xl:=rd.len;have z9:100<sizeLine:=by decide
  refine⟨_,(bI (bZ (i:=2) yD.nd (bR dh hr.md (bF pv0 (bF (cu cN T.gH PySem.boot_len (bF pv1))))))
   (bI (bZ (i:=3) yD.nd (pG oW))
   (bI (fL PassesOwn.never rfl (eF T.gY (bF (cu cN T.gH PySem.boot_len (bF pv1))).mono) (cB (i:=4) yD.nd)
    (bO (cW (cD lG (cu cN T.gH PySem.boot_len (bF (bT bU pv1 pv4))) bK (cH _))
     (bO (cX (su pv3 (bF mX))))
     (bO (cX (su pv3 (bF (bV lB (bT bU pv2 pv4) (cu cN T.gH PySem.boot_len (bF (bT bU pv1 pv4)))))))))))
   (bO (cg pv3))))),?_⟩
  refine b_ λR1 hR1=>?_;refine cL ⟨_,rfl,_,rfl,r,xs,rfl,hr',c,dss.length,by rw[xl],by exact aM n12 (by decide),λl ys H1 S1 fl hl ln hx=>?_⟩;subst hR1;refine b_ λR1 hR1=>?_;refine cL ⟨bA _,λD1 H2 S2 f2 h2=>?_⟩;subst hR1;refine b_ λR1 hR1=>?_;have S12:=S1.trans S2;have g1:=Same.free S1 f2;dsimp only[cQ,L2.start];refine gK (qz ⟨_,rfl,r,xs,rfl,S12 _ _ hr',dss.length,by rw[xl],by exact Y3 n12 (by decide),λk σ H'=>∃u ps,σ=[some (.int c),some (.ref r),some (.ref l),some (.ref D1),u]/\Same H H'/\H' l=some (.lst (ys.map V.int))/\H' D1=some (.lst (ps.map stV))/\U3 (dss.take k) ps,⟨none,[],rfl,S12,S2 _ _ hl,h2,rfl,λk ds o e=>by cases e⟩,?_,?_⟩)
  .rintro k σ' H' hk ⟨u,ps,rfl,S3,hl3,h3,pf⟩;have ek:dss[k]?=some dss[k]:=aj hk;obtain⟨ld,ex,hld,dd⟩:=rd.at_ k _ ek;have dk:=dm _ (aW hk);have plen:ps.length=k:=by rw[pf.1,bw];lia
   have hld3:=S3 _ _ hld;have fin:∀(o:Option Nat)(H4:Hp),Same H' H4->JQ (stV o) dss[k].length=true->∃u' ps',[some (V.int c),some (V.ref r),some (V.ref l),some (V.ref D1),some (V.int (k:Nat))]=[some (.int c),some (.ref r),some (.ref l),some (.ref D1),u']/\Same H (upd H4 D1 (.lst (ps.map stV++[stV o])))/\upd H4 D1 (.lst (ps.map stV++[stV o])) l=some (.lst (ys.map V.int))/\upd H4 D1 (.lst (ps.map stV++[stV o])) D1=some (.lst (ps'.map stV))/\U3 (dss.take (k+1)) ps':=λo H4 S4 ft=>by
    have nl:l≠D1:=bH hl f2;refine⟨_,ps++[o],rfl,λb u e=>(bL (bH e g1)).trans (S4 _ _ (S3 _ _ e)),(bL nl).trans (S4 _ _ hl3),by rw[bG,bC];rfl,?_,λj ds o' e1 e2=>?_⟩
    .rw[aA,plen,bw];show k+1=_;lia
    .rw[cj ek]at e1;have l1:(dss.take k).length=k:=by rw[bw];lia
     by_cases jk:j<k
     .rw[aF (by lia)]at e1 e2;exact pf.2 j ds o' e1 e2
     .have:j=k:=by
       have:=(ao.mp e1).1;rw[aA,l1]at this;simp at this;lia
      subst this;rw[aD (Nat.le_of_eq l1),l1,Nat.sub_self]at e1;rw[aD (Nat.le_of_eq plen),plen,Nat.sub_self]at e2;cases e1;cases e2;exact ft
   refine sI ⟨_,rfl,_,rfl,r,xs,(k:Nat),_,rfl,rfl,S3 _ _ hr',bY (j:=k) ex,ld,_,rfl,hld3,rfl,decide (dss[k].length=0),?_,?_⟩
   .rw[ak];exact ZH V.bl (decide_eq_decide.mpr ⟨λz=>by injection z with z;lia,λz=>by rw[z];rfl⟩)
   by_cases d0:dss[k].length=0
   .rw[Zs d0];exact⟨_,rfl,D1,_,rfl,h3,_,_,rfl,h3,by rw[ak];lia,fin none H' (λ_ _ z=>z) (by rw[d0];rfl)⟩
   .rw[Zp d0];have lk:k<ys.length:=by lia
    have ey:(ys.map V.int)[k]?=some (.int ys[k]):=by rw[aq,aj lk];rfl
    have m0:0<=ys[k]%(dss[k].length:Int):=Z3 _ (by lia);have m1:ys[k]%(dss[k].length:Int)<dss[k].length:=YY _ (by lia);have em:ys[k].fmod ((dss[k].map V.ref).length:Nat)=((ys[k]%(dss[k].length:Int)).toNat:Nat):=by rw[ak,aY _ (Wp _)];lia
    refine⟨_,rfl,D1,_,rfl,h3,_,rfl,_,rfl,l,_,(k:Nat),_,rfl,rfl,hl3,bY (j:=k) ey,_,rfl,_,rfl,r,xs,(k:Nat),_,rfl,rfl,S3 _ _ hr',bY (j:=k) ex,ld,_,rfl,hld3,_,_,rfl,rfl,by rw[ak];lia,_,_,rfl,h3,by rw[ak];lia,?_⟩;dsimp only;rw[em];exact fin (some _) H' (λ_ _ z=>z) (aaA (by lia))
  .rintro σ' H' ⟨u,ps,rfl,S3,hl3,h3,pf⟩;rw[aQ]at pf;subst hR1;exact⟨_,rfl,q D1 ps H' S3 g1 h3 pf⟩
theorem Wi{n k:Nat}(h:k<n):ixN n (k:Int)=some k:=by
 unfold ixN;rw[ZY (Wp _),ZY (by lia),Int.toNat_natCast]
open Rw
theorem aax{ts:List Int}{b:Int}{k:Nat}{t:Int}(h:ts[k]?=some t):gcL (ts.take (k+1)) b=((Int.gcd t (gcL (ts.take k) b):Nat):Int):=by
 unfold gcL;rw[cj h,List.foldl_append];rfl
def iJ(f:Int->Int)(ts:List Int)(D:Addr)(H:Hp)(k:Nat)(ys:Μ)(Hc:Hp):Prop:=ys=((ts.take k).map f).map V.int/\Hc=upd H D (.lst ys)
theorem iJ.next{f:Int->Int}{ts:List Int}{D:Addr}{H:Hp}{k:Nat}{ys:Μ}{Hc:Hp}{t:Int}(h:iJ f ts D H k ys Hc)(e:ts[k]?=some t):iJ f ts D H (k+1) (ys++[.int (f t)]) (upd Hc D (.lst (ys++[.int (f t)]))):=by
 obtain⟨rfl,rfl⟩:=h;refine⟨?_,oH⟩;rw[cj e,bC,bC];rfl
theorem Hv(ts:List Int):ts.take (ts.map V.int).length=ts:=aL (by rw[ak];exact aG _)
def mz(H:Hp)(v:V)(r:List Int×Int):Prop:=∃t l,v=.ref t/\H t=some (.tup [.ref l,.int r.2])/\H l=some (.lst (r.1.map V.int))
theorem mz.same{H H':Hp}{v:V}{r:List Int×Int}(h:mz H v r)(S:Same H H'):mz H' v r:=by obtain⟨t,l,e,a,b⟩:=h;exact⟨t,l,e,S _ _ a,S _ _ b⟩
def Fl:Sp:=λvs H Q _=>∃(l:Addr)(ts:List Int)(b:Int),vs=[.ref l,.int b]/\H l=some (.lst (ts.map V.int))/\ts.length<=64/\0<b/\Bd b /\
 ∀v H',Same H H'->mz H' v (eE (ts,b))->Q v H'
theorem abh(F:Fun K tQ tQ BW f fd)(T:Txt K mg D)(dZ:OkF P w K mg base 1 jB ju g_):cJ P w K mg base CX0 2 f fd tL Fl:=by
 refine F.ok yJ ?_ ?_
 .rintro _ _ _ _ ⟨l,ts,b,rfl,_⟩;rfl
 .rintro cdv A outer s H _ Q E hr ⟨l,ts,b,rfl,hl,h64,b0,bb,q⟩;refine⟨_,(bI (bZ (i:=2) yJ.nd (hx:=(Or.inr rfl)) pv1)
   (bI (fL PassesOwn.never rfl (cV (pv 0).mono) (cB (i:=3) yJ.nd)
    (bO (bZ (i:=2) yJ.nd (hx:=(Or.inr rfl)) (bR dZ hr.md (bF pv3 (bF pv2))))))
   (bO (cg (gO (bF (kJ (bQ BW) Ra ["tops","bottom","common","?top"] ["top"] (cV (pv 0).mono) (dH (i:=0)) cU (bV iy pv0 pv3)) (bF (bV iy pv1 pv2)))))))),?_⟩
  unfold g_
  walk_at "rd"
  refine eN ?_
  walk_at "rd"
  refine⟨_,hl,λk σ' H'=>∃u,σ'=[some (.ref l),some (.int b),some (.int (gcL (ts.take k) b)),u]/\H'=H,⟨none,rfl,rfl⟩,?_,?_⟩
  .rintro k x σ' H' hk ⟨u,rfl,rfl⟩ _;rw[aq]at hk;cases er:ts[k]? with
   |none=>rw[er]at hk;cases hk
   |some t =>
    rw[er]at hk;cases hk
    walk_at "rd"
    exact⟨hl,(aax er).symm⟩
  .rintro σ' H' ⟨u,rfl,rfl⟩ _;rw[Hv];have g0:=qu (ts:=ts) b0;have gb:Bd (gcL ts b):=Y3 (by have:=adM (ts:=ts) b0;omega) bb
   walk_at "rd"
   refine cM ?_
   walk_at "rd"
   refine⟨_,hl,by rw[ak];exact aM h64 (by decide),λD1 hD=>⟨iJ (λt=>t/gcL ts b) ts D1 H',⟨rfl,rfl⟩,?_,?_⟩⟩
   .rintro k x ys Hc hk j _ hlc;rw[aq]at hk;cases er:ts[k]? with
    |none=>rw[er]at hk;cases hk
    |some t =>
     rw[er]at hk;cases hk;refine⟨t,rfl,by exact Int.ne_of_gt g0,gb,by rw[j.2];exact bG,hlc,?_⟩;rw[jr _ g0];exact j.next er
   .rintro ys Hc ⟨rfl,rfl⟩ _;rw[Hv];refine⟨by exact Int.ne_of_gt g0,gb,fQ,λp hp=>?_⟩;rw[jr _ g0];exact q _ _ ((Same.upd hD).trans (Same.upd hp)) ⟨p,D1,rfl,bG,Same.upd hp _ _ bG⟩
def zJ(f:Int->Int->Int)(ts us:List Int)(D:Addr)(H:Hp)(k:Nat)(zs:Μ)(Hc:Hp):Prop:=zs=((List.zipWith f ts us).take k).map V.int/\Same H Hc/\Hc D=some (.lst zs)
open Rw
noncomputable abbrev NN:Nat:=10^200*10^200*10^200
theorem aeS{i:Int}(h:i.natAbs<=NN*NN*NN):Bd i:=Y3 h (by decide +kernel)
theorem bdN{i:Int}(h:i.natAbs<=NN):Bd i:=aeS (aM h (by decide +kernel))
theorem aac{i:Int}(h:i.natAbs<=NN*NN):Bd i:=aeS (aM h (by decide +kernel))
theorem ab7{a b:Int}{m n:Nat}(h1:a.natAbs<=m)(h2:b.natAbs<=n):(a*b).natAbs<=m*n:=by rw[Int.natAbs_mul];exact Nat.mul_le_mul h1 h2
structure Fn(c:Ι):Prop where
 pos:0<c.2
 sa:c.1.natAbs<=NN
 sb:c.2.natAbs<=NN
def wQ:Sp:=λvs H Q _=>∃(v:V)(c:Addr)(r:List Int×Int)(cc:Ι),vs=[v,.ref c]/\mz H v r/\H c=some (.tup [.int cc.1,.int cc.2])/\Fn cc/\Big NN r/\r.1.length<=64/\∀v' H',Same H H'->mz H' v' (eE (eZ r cc))->Q v' H'
theorem Hi(F:Fun K pC pC rB f fd)(T:Txt K mg D)(tG:OkF P w K mg base 2 tQ tL Fl):cJ P w K mg base CX0 3 f fd pN wQ:=by
 refine F.ok Nh ?_ ?_
 .rintro _ _ _ _ ⟨v,c,r,cc,rfl,_⟩;rfl
 .rintro cdv A outer s H _ Q E hr ⟨v,c,r,cc,rfl,⟨t,l,rfl,ht,hl⟩,hc,fc,bn,h64,q⟩;refine⟨_,(bO (cg (bR tG hr.md (bF (kJ (bQ rB) xu xu ["top"] (cV ((bT cA pv0 bK)).mono) (dH (i:=0)) cU (bV cT pv0 (bT cA pv2 bK))) (bF (bV cT (bT cA pv0 bK) (bT cA pv1 bK))))))),?_⟩;unfold Fl
  walk_at "rd"
  refine cM ?_
  walk_at "rd"
  refine⟨_,ht,_,cY,l,rfl,_,hl,by rw[ak];exact aM h64 (by decide),λD1 hD=>⟨iJ (λt=>t*cc.1) r.1 D1 H,⟨rfl,rfl⟩,?_,?_⟩⟩
  .rintro k x ys Hc hk j _ hlc;have S:Same H Hc:=by rw[j.2];exact Same.upd hD
   rw[aq]at hk;cases er:r.1[k]? with
   |none=>rw[er]at hk;cases hk
   |some t0 =>
    rw[er]at hk;cases hk;exact⟨_,S _ _ hc,_,cY,t0,rfl,_,rfl,bdN (bn.top _ (aC er)),bdN fc.sa,by rw[j.2];exact bG,hlc,j.next er⟩
  .rintro ys Hc ⟨rfl,rfl⟩ _;rw[Hv];exact⟨_,Same.upd hD _ _ ht,_,cR,_,Same.upd hD _ _ hc,_,cR,_,rfl,_,rfl,bdN bn.bot,bdN fc.sb,r.1.map λt=>t*cc.1,bG,by rw[ak];exact h64,XZ bn.pos fc.pos,aac (ab7 bn.bot fc.sb),λv' H' S ro=>q v' H' ((Same.upd hD).trans S) ro⟩
def zL:Sp:=λvs H Q _=>∃(v o:V)(c:Addr)(r ro:List Int×Int)(cc:Ι),vs=[v,o,.ref c]/\mz H v r/\mz H o ro/\H c=some (.tup [.int cc.1,.int cc.2])/\Fn cc/\Big NN r/\Big NN ro/\r.1.length<=64/\r.1.length=ro.1.length/\∀v' H',Same H H'->mz H' v' (eE (dI r ro cc))->Q v' H'
theorem JN(F:Fun K rA rA uL f fd)(T:Txt K mg D)(dZ:OkF P w K mg base 1 jB ju g_)(tG:OkF P w K mg base 2 tQ tL Fl):cJ P w K mg base CX0 3 f fd q_ zL:=by
 refine F.ok lQ ?_ ?_
 .rintro _ _ _ _ ⟨v,o,c,r,ro,cc,rfl,_⟩;rfl
 .rintro cdv A outer s H _ Q E hr ⟨v,o,c,r,ro,cc,rfl,⟨t,l,rfl,ht,hl⟩,⟨t2,l2,rfl,ht2,hl2⟩,hc,fc,bn,bn2,h64,hlen,q⟩;refine⟨_,(bI (bZ (i:=3) lQ.nd (bV cT (bT cA pv1 bK) (bT cA pv2 bK)))
   (bI (bZ (i:=4) lQ.nd (bR dZ hr.md (bF (bT cA pv0 bK) (bF pv3))))
   (bI (bZ (i:=5) lQ.nd (hx:=(Or.inr rfl)) (bV iy pv3 pv4))
   (bI (bZ (i:=6) lQ.nd (hx:=(Or.inr rfl)) (bV cT (bV iy (bT cA pv0 bK) pv4) (bT cA pv2 bK)))
   (bI (yh (bQ uL) z6 z6 ["one","another"] (Oz T.Wk (bF (bT cA pv0 bK) (bF (bT cA pv1 bK))).mono) (gJ (n:=2) rfl (cG (dH (i:=0)) (cG (dH (i:=1)) fX))) cU (bV d9 (bV cT pv0 pv7) (bV cT pv1 pv8)) (cB (i:=7) lQ.nd))
   (bO (cg (bR tG hr.md (bF pv7 (bF (bV cT (bT cA pv0 bK) pv5))))))))))),?_⟩
  have hB:=XZ bn2.pos fc.pos;have g0:=FN (a:=r.2) (b:=ro.2*cc.2) (Int.ne_of_gt hB);have bB:(ro.2*cc.2).natAbs<=NN*NN:=ab7 bn2.bot fc.sb;have gB:=O1 (a:=r.2) (b:=ro.2*cc.2) (Int.ne_of_gt hB) (aac bB);refine⟨_,rfl,_,_,_,_,rfl,rfl,ht2,cR,_,rfl,_,_,_,_,rfl,rfl,hc,cR,_,_,rfl,rfl,⟨bdN bn2.bot,bdN fc.sb⟩,_,rfl,_,_,_,_,rfl,rfl,ht,cR,_,rfl,_,_,rfl,_,rfl,_,rfl,_,_,rfl,rfl,⟨by exact Int.ne_of_gt g0,gB⟩,_,rfl,_,_,_,_,rfl,rfl,ht,cR,_,rfl,_,_,rfl,rfl,⟨by exact Int.ne_of_gt g0,gB⟩,_,rfl,_,_,_,_,rfl,rfl,hc,cY,_,_,rfl,rfl,?_⟩;dsimp only;rw[jr _ g0,jr _ g0];have ow:(ro.2*cc.2/((Int.gcd r.2 (ro.2*cc.2):Nat):Int)).natAbs<=NN*NN:=aM (Int.natAbs_ediv_le_natAbs _ _) bB;have ad:(r.2/((Int.gcd r.2 (ro.2*cc.2):Nat):Int)).natAbs<=NN:=aM (Int.natAbs_ediv_le_natAbs _ _) bn.bot;have ow0:0<ro.2*cc.2/((Int.gcd r.2 (ro.2*cc.2):Nat):Int):=Int.ediv_pos_of_pos_of_dvd hB (XY g0) (Int.gcd_dvd_right _ _);have es:dI r ro cc=(List.zipWith (λa b=>a*(ro.2*cc.2/((Int.gcd r.2 (ro.2*cc.2):Nat):Int))+b*(r.2/((Int.gcd r.2 (ro.2*cc.2):Nat):Int)*cc.1)) r.1 ro.1,r.2*(ro.2*cc.2/((Int.gcd r.2 (ro.2*cc.2):Nat):Int))):=rfl;rw[es]at q;generalize ro.2*cc.2/((Int.gcd r.2 (ro.2*cc.2):Nat):Int)=own at *;generalize r.2/((Int.gcd r.2 (ro.2*cc.2):Nat):Int)=adb at *;refine⟨⟨bdN ad,bdN fc.sa⟩,OD (uP ?_)⟩;have adc:(adb*cc.1).natAbs<=NN*NN:=ab7 ad fc.sa;refine⟨_,rfl,_,_,_,_,rfl,rfl,ht,cY,_,rfl,_,_,_,_,rfl,rfl,ht2,cY,l,l2,_,_,rfl,hl,hl2,by rw[ak,ak];exact hlen,by rw[ak];exact h64,λD1 hD=>⟨zJ (λa b=>a*own+b*(adb*cc.1)) r.1 ro.1 D1 H,⟨rfl,Same.upd hD,bG⟩,?_,?_⟩⟩
  .rintro k x5 y5 zs Hc t1 hx hy ⟨rfl,Sc,hD1⟩ _ ht1 ha hb pre hpre;obtain⟨u0,u1,rfl⟩:=Ak hpre;rw[aq]at hx hy;cases er:r.1[k]? with
   |none=>rw[er]at hx;cases hx
   |some t0 =>
    cases er2:ro.1[k]? with
    |none=>rw[er2]at hy;cases hy
    |some t2' =>
     rw[er]at hx;rw[er2]at hy;cases hx;cases hy;have T1:Same Hc (upd Hc t1 (.tup [.int t0,.int t2'])):=Same.upd ht1;refine⟨_,_,rfl,bG,rfl,_,_,rfl,_,_,rfl,rfl,[some (.int t0),some (.int t2')],rfl,rfl,_,rfl,_,rfl,_,_,rfl,rfl,⟨bdN (bn.top _ (aC er)),aac ow⟩,_,rfl,_,rfl,_,_,rfl,rfl,⟨bdN (bn2.top _ (aC er2)),aac adc⟩,_,_,rfl,rfl,T1 _ _ hD1,T1 _ _ ha,T1 _ _ hb,?_,?_,bG⟩
     .have e:(List.zipWith (λa b=>a*own+b*(adb*cc.1)) r.1 ro.1)[k]?=some (t0*own+t2'*(adb*cc.1)):=by rw[List.getElem?_zipWith,er,er2]
      rw[cj e,bC];rfl
     .intro b' o' e';rw[bL (bH e' hD)];exact T1 _ _ (Sc _ _ e')
  .rintro zs Hc ⟨rfl,Sc,hD1⟩ _;have ek:(List.zipWith (λa b=>a*own+b*(adb*cc.1)) r.1 ro.1).take (r.1.map V.int).length=List.zipWith (λa b=>a*own+b*(adb*cc.1)) r.1 ro.1:=aL (by rw[List.length_zipWith,ak];exact Nat.min_le_left _ _);rw[ek]at hD1;have bm:(r.2*own).natAbs<=NN*(NN*NN):=ab7 bn.bot ow;exact⟨_,rfl,_,rfl,_,_,_,_,rfl,rfl,Sc _ _ ht,cR,_,rfl,_,_,rfl,rfl,⟨bdN bn.bot,aac ow⟩,_,_,_,rfl,hD1,by rw[List.length_zipWith];lia,XZ bn.pos ow0,aeS (aM bm (by rw[Nat.mul_assoc];exact aG _)),λv' H' S ro=>q v' H' (Sc.trans S) ro⟩
open Rw
inductive Stp
 |swap (i j:Nat)
 |times (i:Nat) (c:Ι)
 |add (i j:Nat) (c:Ι)
def Bm(H:Hp)(v:V):Stp->Prop
 |.swap i j=>∃t,v=.ref t/\H t=some (.tup [.str (Str.ofString "swap"),.int i,.int j])
 |.times i c=>∃t a,v=.ref t/\H t=some (.tup [.str (Str.ofString "times"),.int i,.ref a])/\H a=some (.tup [.int c.1,.int c.2])
 |.add i j c=>∃t a,v=.ref t/\H t=some (.tup [.str (Str.ofString "add"),.int i,.int j,.ref a])/\H a=some (.tup [.int c.1,.int c.2])
theorem Bm.imp{H H':Hp}(h:∀t ys,H t=some (.tup ys)->H' t=some (.tup ys)){v:V} : ∀{s:Stp},Bm H v s->Bm H' v s
 |.swap _ _,⟨t,e,a⟩=>⟨t,e,h _ _ a⟩
 |.times _ _,⟨t,a,e,b,c⟩=>⟨t,a,e,h _ _ b,h _ _ c⟩
 |.add _ _ _,⟨t,a,e,b,c⟩=>⟨t,a,e,h _ _ b,h _ _ c⟩
noncomputable abbrev Row:=List Int×Int
noncomputable def rowAt(rs:List Row)(i:Nat):Row:=rs.getD i ([],1)
def gQ(rs:List Row):Stp->List Row
 |.swap i j=>(rs.set i (rowAt rs j)).set j (rowAt rs i)
 |.times i c=>rs.set i (eE (eZ (rowAt rs i) c))
 |.add i j c=>rs.set i (eE (dI (rowAt rs i) (rowAt rs j) c))
structure LR(H:Hp)(xs:Μ)(rs:List Row):Prop where
 len:xs.length=rs.length
 at_:∀(k:Nat)(v:V),xs[k]?=some v->mz H v (rowAt rs k)
theorem LR.same{H H':Hp}{xs:Μ}{rs:List Row}(h:LR H xs rs)(S:Same H H'):LR H' xs rs:=⟨h.len,λk v e=>(h.at_ k v e).same S⟩
theorem LR.ne{H:Hp}{xs:Μ}{rs:List Row}{l:Addr}(h:LR H xs rs)(hl:H l=some (.lst xs))(h0:0<rs.length){lr:Addr}{ts:List Int}(e:H lr=some (.lst (ts.map V.int))):lr≠l:=by
 intro z;subst z;rw[hl]at e;have e:xs=ts.map V.int:=by injection(Option.some.inj e)
 have hx:0<xs.length:=by rw[h.len];exact h0
 obtain⟨t,l,ev,_⟩:=h.at_ 0 _ (aj hx);have:xs[0]?=some (.ref t):=by rw[aj hx,ev]
 rw[e,aq]at this;cases ht:ts[0]? with
 |none=>rw[ht]at this;cases this
 |some i=>rw[ht]at this;cases this
theorem mz.updL{H:Hp}{l:Addr}{xs zs:Μ}(hl:H l=some (.lst xs)){v:V}{r:Row}(h:mz H v r)(ne:∀lr ts,H lr=some (.lst (List.map V.int ts))->lr≠l):mz (upd H l (.lst zs)) v r:=by
 obtain⟨t,lr,e,a,b⟩:=h;exact⟨t,lr,e,(bL (d8 a hl)).trans a,(bL (ne _ _ b)).trans b⟩
theorem iD{rs:List Row}{i k:Nat}{r:Row}(hi:i<rs.length):rowAt (rs.set i r) k=if k=i then r else rowAt rs k:=by
 unfold rowAt;rw[au,au,List.getElem?_set];by_cases e:k=i
 .subst e;rw[ZY rfl,ZY hi,ZY rfl];rfl
 .rw[ZZ (λz=>e z.symm),ZZ e]
theorem LR.set{H:Hp}{xs:Μ}{rs:List Row}(h:LR H xs rs){i:Nat}(hi:i<rs.length){v:V}{r:Row}(hv:mz H v r):LR H (xs.set i v) (rs.set i r):=by
 refine⟨by rw[List.length_set,List.length_set,h.len],λk u e=>?_⟩;rw[iD hi];rw[List.getElem?_set]at e;by_cases ek:k=i
 .subst ek;rw[ZY rfl,ZY (by rw[h.len];exact hi)]at e;cases e;rw[ZY rfl];exact hv
 .rw[ZZ (λz=>ek z.symm)]at e;rw[ZZ ek];exact h.at_ k u e
theorem LR.updL{H:Hp}{l:Addr}{xs zs:Μ}(hl:H l=some (.lst xs))(ne:∀lr ts,H lr=some (.lst (List.map V.int ts))->lr≠l){ys:Μ}{rs:List Row}(h:LR H ys rs):LR (upd H l (.lst zs)) ys rs:=⟨h.len,λk v e=>(h.at_ k v e).updL hl ne⟩
def ag8(l:Addr)(H H':Hp):Prop:=∀b o,b≠l->H b=some o->H' b=some o
def aci(n:Nat):Stp->Prop
 |.swap i j=>i<n/\j<n
 |.times i c=>i<n/\Fn c
 |.add i j c=>i<n/\j<n/\Fn c
def qH:Sp:=λvs H Q _=>∃(l:Addr)(sv:V)(xs:Μ)(rs:List Row)(st:Stp)(wd:Nat),vs=[.ref l,sv]/\H l=some (.lst xs)/\LR H xs rs/\Bm H sv st/\aci rs.length st/\(∀r∈rs,Big NN r/\r.1.length=wd)/\wd<=64 /\
 ∀H' xs',ag8 l H H'->H' l=some (.lst xs')->LR H' xs' (gQ rs st)->Q .non H'
theorem Ig(F:Fun K pL pL xX f fd)(T:Txt K mg D)(u_:OkF P w K mg base 3 pC pN wQ)(zX:OkF P w K mg base 3 rA q_ zL):cJ P w K mg base CX0 4 f fd pP qH:=by
 refine F.ok Cq ?_ ?_
 .rintro _ _ _ _ ⟨l,sv,xs,rs,st,wd,rfl,_⟩;rfl
 .rintro cdv A outer s H _ Q E hr ⟨l,sv,xs,rs,st,wd,rfl,hl,lr,sa,so,bn,h64,q⟩;have tne:∀t ys zs,H t=some (.tup ys)->upd H l (.lst zs) t=some (.tup ys):=λt ys zs e=>(bL (d8 e hl)).trans e;have mem:∀i,i<rs.length->Big NN (rowAt rs i)/\(rowAt rs i).1.length=wd:=λi hi=>by
   have:rowAt rs i∈rs:=by unfold rowAt;rw[au,aj hi];exact aW hi
   exact bn _ this
  have get:∀i,i<rs.length->∃v,xs[i]?=some v/\mz H v (rowAt rs i):=λi hi=>by
   have:i<xs.length:=by rw[lr.len];exact hi
   exact⟨_,aj this,lr.at_ i _ (aj this)⟩
  have ixn:∀(zs:Μ)(i:Nat),zs.length=rs.length->i<rs.length->ixN zs.length (i:Int)=some i:=λzs i e hi=>by
   unfold ixN;rw[ZY (Wp _),ZY (by lia),Int.toNat_natCast]
  refine⟨_,(bI (bZ (i:=2) Cq.nd (bT bU pv0 (bT cA pv1 bK)))
   (bO (cW (cD lG (bT cA pv1 bK) uK (cH _))
    (bI (oX (bT bU pv0 (bT cA pv1 bK)) (xZ pv0 (bT cA pv1 bK) set_list))
    (bO (oX pv2 (xZ pv0 (bT cA pv1 bK) set_list))))
    (bO (cW (cD lG (bT cA pv1 bK) uK (cH _))
     (bO (oX (bR u_ hr.md (bF pv2 (bF (bT cA pv1 bK)))) (xZ pv0 (bT cA pv1 bK) set_list)))
     (bO (oX (bR zX hr.md (bF pv2 (bF (bT bU pv0 (bT cA pv1 bK)) (bF (bT cA pv1 bK))))) (xZ pv0 (bT cA pv1 bK) set_list)))))))),?_⟩
  have s1:¬Str.ofString "times"=Str.ofString "swap":=by decide +kernel
  have s2:¬Str.ofString "add"=Str.ofString "swap":=by decide +kernel
  have s3:¬Str.ofString "add"=Str.ofString "times":=by decide +kernel
  cases st with
  |swap i j =>
   obtain⟨t,rfl,ht⟩:=sa;obtain⟨hi,hj⟩:=so;obtain⟨v,ev,rv⟩:=get i hi;obtain⟨u,eu,ru⟩:=get j hj;refine⟨_,rfl,_,rfl,t,_,1,_,rfl,rfl,ht,cR,l,xs,i,v,rfl,rfl,hl,bY ev,_,rfl,t,_,0,_,rfl,rfl,ht,cY,rfl,_,rfl,pB (λ_=>?_) λh=>absurd (Zs rfl) h⟩;refine⟨_,rfl,_,rfl,t,_,2,_,rfl,rfl,ht,bY (j:=2) rfl,l,xs,j,u,rfl,rfl,hl,bY eu,_,rfl,_,rfl,t,_,1,_,rfl,rfl,ht,cR,l,xs,i,i,rfl,rfl,hl,ixn xs i lr.len hi,_,rfl,_,rfl,_,rfl,t,_,2,_,rfl,rfl,tne _ _ _ ht,bY (j:=2) rfl,l,_,j,j,rfl,rfl,bG,ixn _ j (by rw[List.length_set];exact lr.len) hj,?_⟩;rw[oH];refine q _ _ (λb o hb e=>(bL hb).trans e) bG (LR.updL hl (λlr' ts e=>lr.ne hl (by lia) e) ?_);exact(lr.set hi ru).set (by rw[List.length_set];exact hj) rv
  |times i c =>
   obtain⟨t,a,rfl,ht,ha⟩:=sa;obtain⟨hi,sc⟩:=so;obtain⟨v,ev,rv⟩:=get i hi;refine⟨_,rfl,_,rfl,t,_,1,_,rfl,rfl,ht,cR,l,xs,i,v,rfl,rfl,hl,bY ev,_,rfl,t,_,0,_,rfl,rfl,ht,cY,rfl,_,rfl,pB (λh=>absurd (V.str.inj (of_decide_eq_true h)) s1) λ_=>⟨_,rfl,t,_,0,_,rfl,rfl,ht,cY,rfl,_,rfl,pB (λ_=>?_) λh=>absurd (Zs rfl) h⟩⟩;refine⟨_,rfl,_,rfl,t,_,2,_,rfl,rfl,ht,bY (j:=2) rfl,v,a,_,c,rfl,rv,ha,sc,(mem i hi).1,by rw[(mem i hi).2];exact h64,λv' H' S ro=>⟨_,rfl,_,rfl,t,_,1,_,rfl,rfl,S _ _ ht,cR,l,xs,i,i,rfl,rfl,S _ _ hl,ixn xs i lr.len hi,?_⟩⟩;refine q _ _ (λb o hb e=>(bL hb).trans (S _ _ e)) bG (LR.updL (S _ _ hl) (λlr' ts e=>(lr.same S).ne (S _ _ hl) (by lia) e) ?_);exact(lr.same S).set hi ro
  |add i j c =>
   obtain⟨t,a,rfl,ht,ha⟩:=sa;obtain⟨hi,hj,sc⟩:=so;obtain⟨v,ev,rv⟩:=get i hi;obtain⟨u,eu,ru⟩:=get j hj;refine⟨_,rfl,_,rfl,t,_,1,_,rfl,rfl,ht,cR,l,xs,i,v,rfl,rfl,hl,bY ev,_,rfl,t,_,0,_,rfl,rfl,ht,cY,rfl,_,rfl,pB (λh=>absurd (V.str.inj (of_decide_eq_true h)) s2) λ_=>⟨_,rfl,t,_,0,_,rfl,rfl,ht,cY,rfl,_,rfl,pB (λh=>absurd (V.str.inj (of_decide_eq_true h)) s3) λ_=>?_⟩⟩;refine⟨_,rfl,_,rfl,_,rfl,t,_,2,_,rfl,rfl,ht,bY (j:=2) rfl,l,xs,j,u,rfl,rfl,hl,bY eu,_,rfl,t,_,3,_,rfl,rfl,ht,bY (j:=3) rfl,v,u,a,_,_,c,rfl,rv,ru,ha,sc,(mem i hi).1,(mem j hj).1,by rw[(mem i hi).2];exact h64,by rw[(mem i hi).2,(mem j hj).2],λv' H' S ro=>⟨_,rfl,_,rfl,t,_,1,_,rfl,rfl,S _ _ ht,cR,l,xs,i,i,rfl,rfl,S _ _ hl,ixn xs i lr.len hi,?_⟩⟩;refine q _ _ (λb o hb e=>(bL hb).trans (S _ _ e)) bG (LR.updL (S _ _ hl) (λlr' ts e=>(lr.same S).ne (S _ _ hl) (by lia) e) ?_);exact(lr.same S).set hi ro
open Rw
def ug:Sp:=λvs H Q _=>∃(v:V)(r:List Int×Int)(k:Nat)(t:Int),vs=[v,.int k]/\mz H v r/\r.1[k]?=some t/\Big NN r/\∀p,H p=none->Q (.ref p) (upd H p (.tup [.int (Ac.lw t r.2).1,.int (Ac.lw t r.2).2]))
theorem Mz(F:Fun K mH mH xV f fd)(T:Txt K mg D)(eX:OkF P w K mg base 2 kE j_ gG):cJ P w K mg base CX0 3 f fd m_ ug:=by
 refine F.ok Ls ?_ ?_
 .rintro _ _ _ _ ⟨v,r,k,t,rfl,_⟩;rfl
 .rintro cdv A outer s H _ Q E hr ⟨v,r,k,t,rfl,⟨a,l,rfl,ha,hl⟩,hk,bn,q⟩;refine⟨_,(bO (cg (bR eX hr.md (bF (bT bU (bT cA pv0 bK) pv1) (bF (bT cA pv0 bK)))))),?_⟩;unfold gG
  walk_at "rd"
  refine⟨_,ha,_,cY,l,rfl,_,hl,_,bY (j:=k) (by rw[aq,hk];rfl),_,ha,_,cR,t,rfl,_,rfl,by have:=bn.pos;exact Int.ne_of_gt this,bdN bn.bot,λp x y lo hp=>?_⟩;obtain⟨ex,ey⟩:=Ac.Qk (t:=t) (b:=r.2) bn.pos lo.pos lo.gcd lo.eq;rw[ex,ey];exact q p hp
theorem mz.upd1{H:Hp}{l:Addr}{ys zs:Μ}(hl:H l=some (.lst ys)){v:V}{r:Row}(h:mz H v r)(ne:ys≠r.1.map V.int):mz (upd H l (.lst zs)) v r:=by
 obtain⟨t,lr,e,a,b⟩:=h;have n1:lr≠l:=λz=>by
  subst z;rw[hl]at b;exact ne (by injection(Option.some.inj b))
 exact⟨t,lr,e,(bL (d8 a hl)).trans a,(bL n1).trans b⟩
theorem LR.upd1{H:Hp}{l:Addr}{xs ys zs:Μ}{rs:List Row}(h:LR H xs rs)(hl:H l=some (.lst ys))(ne:∀r∈rs,ys≠r.1.map V.int):LR (upd H l (.lst zs)) xs rs:=⟨h.len,λk v e=>(h.at_ k v e).upd1 hl (ne _ (by
 have hk:k<rs.length:=by rw[<- h.len];exact(ao.mp e).1
 unfold rowAt;rw[au,aj hk];exact aW hk))⟩
theorem cC{rs:List Row}{i:Nat}(h:i<rs.length):rowAt rs i∈rs:=by
 unfold rowAt;rw[au,aj h];exact aW h
theorem Xa{rs:List Row}{st:Stp}{wd:Nat}(h:∀r∈rs,r.1.length=wd)(ok:aci rs.length st):∀r∈gQ rs st,r.1.length=wd:=by
 intro r hr;cases st with
 |swap i j =>
  rcases List.mem_or_eq_of_mem_set hr with z|z
  .rcases List.mem_or_eq_of_mem_set z with z|z
   .exact h r z
   .rw[z];exact h _ (cC ok.2)
  .rw[z];exact h _ (cC ok.1)
 |times i c =>
  rcases List.mem_or_eq_of_mem_set hr with z|z
  .exact h r z
  .rw[z,uG];unfold eZ;rw[ak];exact h _ (cC ok.1)
 |add i j c =>
  rcases List.mem_or_eq_of_mem_set hr with z|z
  .exact h r z
  .rw[z,uG];unfold dI;rw[List.length_zipWith,h _ (cC ok.1),h _ (cC ok.2.1),Nat.min_self]
def GZ:Sp:=λvs H Q _=>∃(l ls:Addr)(sv:V)(xs ys:Μ)(rs:List Row)(st:Stp)(wd:Nat),vs=[.ref l,.ref ls,sv]/\H l=some (.lst xs)/\LR H xs rs/\H ls=some (.lst ys)/\ys.length<=1000/\ls≠l/\(∀ts:List Int,ts.length=wd->ys≠ts.map V.int)/\Bm H sv st/\aci rs.length st/\(∀r∈rs,Big NN r/\r.1.length=wd)/\wd<=64 /\
 ∀H' xs',(∀b o,b≠l->b≠ls->H b=some o->H' b=some o)->H' l=some (.lst xs')->LR H' xs' (gQ rs st)->H' ls=some (.lst (ys++[sv]))->Q .non H'
theorem Zk(F:Fun K vY vY Oo f fd)(T:Txt K mg D)(wL:OkF P w K mg base 4 pL pP qH):cJ P w K mg base CX0 5 f fd vZ GZ:=by
 refine F.ok YM ?_ ?_
 .rintro _ _ _ _ ⟨l,ls,sv,xs,ys,rs,st,wd,rfl,_⟩;rfl
 .rintro cdv A outer s H _ Q E hr ⟨l,ls,sv,xs,ys,rs,st,wd,rfl,hl,lr,hls,hy,ne,nv,sa,so,bn,h64,q⟩;refine⟨_,(bI (cX (bR wL hr.md (bF pv0 (bF pv2))))
   (bO (cX (su pv1 (bF pv2))))),?_⟩
  unfold qH
  walk_at "rd"
  refine⟨xs,hl,rs,lr,st,sa,so,wd,bn,h64,λH1 xs1 kp h1 lr1=>?_⟩;have e1:=kp _ _ ne hls;refine⟨⟨_,e1⟩,ys,e1,Y3 hy (by decide),?_⟩;refine q _ xs1 (λb o hb hb2 e=>(bL hb2).trans (kp _ _ hb e)) ((bL ne.symm).trans h1) (lr1.upd1 e1 λr hr=>nv _ (Xa (λr hr=>(bn r hr).2) so r hr)) bG
open Rw
def mD(rs:List Row)(i k:Nat):Int:=(rowAt rs i).1.getD k 0
def zG:Sp:=λvs H Q _=>∃(l:Addr)(xs:Μ)(rs:List Row)(p k wd:Nat),vs=[.ref l,.int p,.int k]/\H l=some (.lst xs)/\LR H xs rs/\(∀r∈rs,r.1.length=wd)/\k<wd/\p<=rs.length/\rs.length<=64 /\
 (∀i:Nat,p<=i->i<rs.length->mD rs i k≠0->(∀j,p<=j->j<i->mD rs j k=0)->Q (.int i) H)/\((∀j,p<=j->j<rs.length->mD rs j k=0)->Q .non H)
def jF(l:Addr)(p k:Nat)(rs:List Row)(H:Hp)(n:Nat)(σ:L2.St)(H':Hp):Prop:=∃u,σ=[some (.ref l),some (.int p),some (.int k),u]/\H'=H/\∀j,p<=j->j<p+n->mD rs j k=0
theorem JF(F:Fun K oF oF uM f fd)(T:Txt K mg D):cJ P w K mg base CX0 1 f fd n_ zG:=by
 refine F.ok zF ?_ ?_
 .rintro _ _ _ _ ⟨l,xs,rs,p,k,wd,rfl,_⟩;rfl
 .rintro cdv A outer s H _ Q E hr ⟨l,xs,rs,p,k,wd,rfl,hl,lr,hw,hk,hp,h64,q1,q2⟩;refine⟨_,(bI (fL PassesOwn.never rfl (KN T.gY (bF pv1 (bF (cu cN T.gH PySem.boot_len (bF pv0)))).mono) (cB (i:=3) zF.nd)
    (bO (cW (cD Bb (bT bU (bT cA (bT bU pv0 pv3) bK) pv2) bK (cH _))
     (bO (cg pv3))
     cF)))
   (bO (cg mX))),?_⟩
  walk_at "rd"
  refine Jj ?_
  walk_at "rd"
  refine⟨xs,hl,?_⟩;have hx:=lr.len;refine⟨by lia,by lia,jF l p k rs H,⟨none,rfl,rfl,λj h1 h2=>absurd h2 (by lia)⟩,?_,?_⟩
  .rintro n σ' H' hn ⟨u,rfl,rfl,hz⟩;have hi:p+n<rs.length:=by lia
   have hix:p+n<xs.length:=by lia
   obtain⟨t,lr',ev,ht,hl'⟩:=lr.at_ (p+n) _ (aj hix);have e1:=bY (aj hix);rw[ev,Int.natCast_add]at e1;have hm:rowAt rs (p+n)∈rs:=cC hi;have hkl:k<(rowAt rs (p+n)).1.length:=by rw[hw _ hm];exact hk
   have et:(rowAt rs (p+n)).1[k]?=some (mD rs (p+n) k):=by unfold mD;rw[au,aj hkl];rfl
   have e2:=bY (xs:=(rowAt rs (p+n)).1.map V.int) (j:=k) (v:=V.int (mD rs (p+n) k)) (by rw[aq,et];rfl);refine⟨_,rfl,_,rfl,l,rfl,xs,_,rfl,hl,_,e1,t,rfl,_,ht,_,cY,_,rfl,lr',rfl,_,_,rfl,hl',_,e2,?_⟩;refine⟨rfl,pB (λh=>⟨_,rfl,?_⟩) λh=>?_⟩
   .have h0:mD rs (p+n) k≠0:=λz=>by rw[z]at h;simp at h
    have:=q1 (p+n) (X2 _ _) hi h0 hz;rw[Int.natCast_add]at this;exact this
   .have h0:mD rs (p+n) k=0:=by simpa using h
    refine⟨_,rfl,rfl,λj h1 h2=>?_⟩;by_cases e:j=p+n
    .rw[e];exact h0
    .exact hz j h1 (by lia)
  .rintro σ' H' ⟨u,rfl,rfl,hz⟩;exact q2 λj h1 h2=>hz j h1 (by lia)
def UW(K:Frag):Sp:=λvs H Q _=>∃(p q:Addr)(x y u v:Int),vs=[.ref p,.ref q]/\SqT K H p [.int x,.int y]/\SqT K H q [.int u,.int v]/\Bd x/\Bd y/\Bd u/\Bd v/\0<y/\0<v/\Bd (y*v) /\
 ∀r z o,Low (x*v-u*y) (y*v) z o->H r=none->Q (.ref r) (upd H r (.tup [.int z,.int o]))
def Lj(K:Frag):Sp:=λvs H Q _=>∃(p q:Addr)(x y u v:Int),vs=[.ref p,.ref q]/\SqT K H p [.int x,.int y]/\SqT K H q [.int u,.int v]/\Bd x/\Bd y/\Bd u/\Bd v/\y*u≠0/\Bd (y*u) /\
 ∀r z o,Low (x*v) (y*u) z o->H r=none->Q (.ref r) (upd H r (.tup [.int z,.int o]))
theorem X4(F:Fun K Fx Fx Tq f fd)(eX:OkF P w K mg base 2 kE j_ gG):cJ P w K mg base CX0 3 f fd Gm (Lj K):=by
 refine F.ok acn ?_ ?_
 .rintro _ _ _ _ ⟨p,q,x,y,u,v,rfl,_⟩;rfl
 .rintro cdv A outer s H _ Q E hr ⟨p,q,x,y,u,v,rfl,hp,hq,bx,b_y,bu,bv,yu,byu,k⟩;refine⟨_,(bO (cg (bR eX hr.md (bF (bV cT (bT cZ pv0 bK) (bT cZ pv1 bK)) (bF (bV cT (bT cZ pv0 bK) (bT cZ pv1 bK))))))),?_⟩;unfold gG
  walk_at "rd"
  exact⟨_,hp,_,cY,_,hq,_,cR,_,rfl,_,rfl,bx,bv,_,hp,_,cR,_,hq,_,cY,_,rfl,_,rfl,b_y,bu,yu,byu,λr z o l hr=>k r z o l hr⟩
open Rw
def Es(n:Nat):Stp->Prop
 |.swap i j=>i<n/\j<n
 |.times i c=>i<n/\Fn c/\Int.gcd c.1 c.2=1/\c.1≠0
 |.add i j c=>i<n/\j<n/\i≠j/\Fn c/\Int.gcd c.1 c.2=1
theorem Es.n{n:Nat} : ∀{s:Stp},Es n s->aci n s
 |.swap _ _,h=>h
 |.times _ _,h=>⟨h.1,h.2.1⟩
 |.add _ _ _,h=>⟨h.1,h.2.1,h.2.2.2.1⟩
def cI(rs:List Row)(ss:List Stp):List Row:=ss.foldl gQ rs
theorem qx{rs:List Row}{ss:List Stp}{s:Stp} : cI rs (ss++[s])=gQ (cI rs ss) s:=by
 unfold cI;rw[List.foldl_append];rfl
theorem xQ{rs:List Row}{ss ts:List Stp} : cI rs (ss++ts)=cI (cI rs ss) ts:=by
 unfold cI;rw[List.foldl_append]
structure WK(rs rs':List Row)(p q k N wd:Nat):Prop where
 len:rs'.length=rs.length
 big:∀r∈rs',Big N r/\r.1.length=wd
 one:(rowAt rs' p).1[k]?=some (rowAt rs' p).2
 nul:∀j:Nat,(rowAt rs q).1[j]?=some 0->(rowAt rs' p).1[j]?=some 0
 old:∀i,i≠p->i<rs.length->rowAt rs' i=rowAt rs i\/(i=q/\rowAt rs' i=rowAt rs p)
structure Cleared(rs rs':List Row)(p k:Nat):Prop where
 len:rs'.length=rs.length
 own:rowAt rs' p=rowAt rs p
 nul:∀i,i≠p->i<rs.length->(rowAt rs' i).1[k]?=some 0
 zer:∀i j:Nat,i<rs.length->(rowAt rs p).1[j]?=some 0->(rowAt rs i).1[j]?=some 0->(rowAt rs' i).1[j]?=some 0
 one:∀i j:Nat,i<rs.length->(rowAt rs p).1[j]?=some 0->(rowAt rs i).1[j]?=some (rowAt rs i).2->(rowAt rs' i).1[j]?=some (rowAt rs' i).2
structure Form(rs:List Row)(p c:Nat)(pv:Nat->Nat):Prop where
 head:∀i,i<p->pv i<c/\(∀j:Nat,j<pv i->(rowAt rs i).1[j]?=some 0)/\(rowAt rs i).1[pv i]?=some (rowAt rs i).2/\∀j,j<rs.length->j≠i->(rowAt rs j).1[pv i]?=some 0
 ord:∀i j,i<j->j<p->pv i<pv j
 rest:∀i,p<=i->i<rs.length->∀j:Nat,j<c->(rowAt rs i).1[j]?=some 0
theorem Form.next{rs rs1 rs2:List Row}{p q c N wd:Nat}{pv:Nat->Nat}(h:Form rs p c pv)(hq:p<=q)(hn:q<rs.length)(b:WK rs rs1 p q c N wd)(d:Cleared rs1 rs2 p c):Form rs2 (p+1) (c+1) (λi=>if i=p then c else pv i):=by
 have l1:=b.len;have l2:=d.len;have hp:p<rs.length:=by exact Y3 hq hn
 have zq:∀j:Nat,j<c->(rowAt rs1 p).1[j]?=some 0:=λj hj=>b.nul j (h.rest q hq hn j hj);refine⟨λi hi=>?_,λi j hi hj=>?_,λi hi hl j hj=>?_⟩
 .by_cases e:i=p
  .subst e;rw[ZY rfl,d.own];refine⟨by exact X1 _,zq,b.one,λj hj ne=>d.nul j ne (aV hj (Nat.le_of_eq l2))⟩
  .rw[ZZ e];have hi':i<p:=by exact XX (Nat.le_of_lt_succ hi) e
   obtain⟨a1,a2,a3,a4⟩:=h.head i hi';have e1:rowAt rs1 i=rowAt rs i:=by
    rcases b.old i e (Nat.lt_trans hi' hp)with z|z
    .exact z
    .lia
   refine⟨by exact WU _ a1,λj hj=>?_,?_,λj hj ne=>?_⟩
   .exact d.zer i j (by lia) (zq j (Nat.lt_trans hj a1)) (by rw[e1];exact a2 j hj)
   .exact d.one i _ (by lia) (zq _ a1) (by rw[e1];exact a3)
   .by_cases ej:j=p
    .subst ej;rw[d.own];exact zq _ a1
    .refine d.zer j _ (aV hj (Nat.le_of_eq l2)) (zq _ a1) ?_;rcases b.old j ej (by lia)with z|⟨_,z⟩
     .rw[z];exact a4 j (by lia) ne
     .rw[z];exact a4 p hp (Ne.symm e)
 .show(if i=p then c else pv i)<if j=p then c else pv j;rw[ZZ (show ¬i=p by lia)];by_cases e:j=p
  .rw[ZY e];exact(h.head i (aV hi (Nat.le_of_lt_succ hj))).1
  .rw[ZZ e];exact h.ord i j hi (XX (Nat.le_of_lt_succ hj) e)
 .by_cases ej:j=c
  .subst ej;exact d.nul i (by lia) (aV hl (Nat.le_of_eq l2))
  .refine d.zer i j (aV hl (Nat.le_of_eq l2)) (zq j (XX (Nat.le_of_lt_succ hj) ej)) ?_;rcases b.old i (by lia) (by lia)with z|⟨_,z⟩
   .rw[z];exact h.rest i (aM (Xs _) hi) (by lia) j (XX (Nat.le_of_lt_succ hj) ej)
   .rw[z];exact h.rest p (aG _) hp j (XX (Nat.le_of_lt_succ hj) ej)
theorem Form.skip{rs:List Row}{p c:Nat}{pv:Nat->Nat}(h:Form rs p c pv)(z:∀j,p<=j->j<rs.length->(rowAt rs j).1[c]?=some 0):Form rs p (c+1) pv :=
 ⟨λi hi=>let⟨a,b⟩:=h.head i hi;⟨by exact WU _ a,b⟩,h.ord,λi hi hl j hj=>by
  by_cases e:j=c
  .subst e;exact z i hi hl
  .exact h.rest i hi hl j (XX (Nat.le_of_lt_succ hj) e)⟩
theorem c7{rs:List Row} : ∀{st:Stp},(gQ rs st).length=rs.length
 |.swap _ _=>by unfold gQ;rw[List.length_set,List.length_set]
 |.times _ _=>by unfold gQ;rw[List.length_set]
 |.add _ _ _=>by unfold gQ;rw[List.length_set]
theorem yF{rs:List Row}{p q i:Nat}(hp:p<rs.length)(hq:q<rs.length):rowAt (gQ rs (.swap p q)) i=if i=q then rowAt rs p else if i=p then rowAt rs q else rowAt rs i:=by
 unfold gQ;rw[iD (by rw[List.length_set];exact hq),iD hp]
theorem jd{rs:List Row}{r:Row}(h:r∈rs):∃i,i<rs.length/\r=rowAt rs i:=by
 obtain⟨i,hi,rfl⟩:=List.mem_iff_getElem.mp h;refine⟨i,hi,?_⟩;unfold rowAt;rw[au,aj hi];rfl
theorem El{rs rs1:List Row}{p q k N wd:Nat}{c:Ι}{t:Int}(hp:p<rs1.length)(hl:rs1.length=rs.length)(hb:∀r∈rs1,Big N r/\r.1.length=wd)(e0:rowAt rs1 p=rowAt rs q)(ho:∀i,i≠p->i<rs.length->rowAt rs1 i=rowAt rs i\/(i=q/\rowAt rs1 i=rowAt rs p))
 (ht:(rowAt rs1 p).1[k]?=some t)(t0:t≠0)(hc:0<c.2)(e:c.1*t=c.2*(rowAt rs1 p).2):WK rs (gQ rs1 (.times p c)) p q k N wd:=by
 obtain⟨g1,g2⟩:=Xn (hb _ (cC hp)).1 ht t0 hc e;have at_:∀i,rowAt (gQ rs1 (.times p c)) i=if i=p then eE (eZ (rowAt rs1 p) c)else rowAt rs1 i:=λi=>iD hp;refine⟨c7.trans hl,λr hr=>?_,?_,λj hj=>?_,λi ne hi=>?_⟩
 .obtain⟨i,hi,rfl⟩:=jd hr;rw[at_];by_cases z:i=p
  .rw[ZY z];refine⟨g1,?_⟩;rw[uG];unfold eZ;rw[ak];exact(hb _ (cC hp)).2
  .rw[ZZ z];rw[c7]at hi;exact hb _ (cC hi)
 .rw[at_,ZY rfl];exact g2
 .rw[at_,ZY rfl];exact ac4 (abA (by rw[e0];exact hj))
 .rw[at_,ZZ ne];exact ho i ne hi
theorem Uj{rs rs1:List Row}{p q k N wd:Nat}(hl:rs1.length=rs.length)(hb:∀r∈rs1,Big N r/\r.1.length=wd)(e0:rowAt rs1 p=rowAt rs q)(ho:∀i,i≠p->i<rs.length->rowAt rs1 i=rowAt rs i\/(i=q/\rowAt rs1 i=rowAt rs p))
 (ht:(rowAt rs1 p).1[k]?=some (rowAt rs1 p).2):WK rs rs1 p q k N wd :=
 ⟨hl,hb,ht,λj hj=>by rw[e0];exact hj,ho⟩
structure Clr(rs rs':List Row)(p k n N wd:Nat):Prop where
 len:rs'.length=rs.length
 own:rowAt rs' p=rowAt rs p
 nul:∀i,i≠p->i<n->(rowAt rs' i).1[k]?=some 0
 old:∀i,n<=i->rowAt rs' i=rowAt rs i
 big:∀i,i<n->i<rs.length->Big N (rowAt rs' i)/\(rowAt rs' i).1.length=wd
 zer:∀i j:Nat,i<rs.length->(rowAt rs p).1[j]?=some 0->(rowAt rs i).1[j]?=some 0->(rowAt rs' i).1[j]?=some 0
 one:∀i j:Nat,i<rs.length->(rowAt rs p).1[j]?=some 0->(rowAt rs i).1[j]?=some (rowAt rs i).2->(rowAt rs' i).1[j]?=some (rowAt rs' i).2
theorem Clr.zero{rs:List Row}{p k N wd:Nat} : Clr rs rs p k 0 N wd:=⟨rfl,rfl,λ_ _ h=>absurd h (WV _),λ_ _=>rfl,λ_ h=>absurd h (WV _),λ_ _ _ _ h=>h,λ_ _ _ _ h=>h⟩
theorem Clr.skip{rs rs':List Row}{p k n N wd:Nat}(h:Clr rs rs' p k n N wd)(hb:∀r∈rs,Big N r/\r.1.length=wd)(z:n=p\/(rowAt rs' n).1[k]?=some 0):Clr rs rs' p k (n+1) N wd:=by
 refine⟨h.len,h.own,λi ne hi=>?_,λi hi=>h.old i (aM (Xs _) hi),λi hi hl=>?_,h.zer,h.one⟩
 .by_cases e:i=n
  .subst e;rcases z with z|z
   .exact absurd z ne
   .exact z
  .exact h.nul i ne (XX (Nat.le_of_lt_succ hi) e)
 .by_cases e:i=n
  .subst e;rw[h.old i (aG _)];exact hb _ (cC hl)
  .exact h.big i (XX (Nat.le_of_lt_succ hi) e) hl
theorem Clr.next{rs rs':List Row}{p k n N wd:Nat}{c:Ι}{a:Int}(h:Clr rs rs' p k n N wd)(hb:∀r∈rs,Big N r/\r.1.length=wd)(hn:n<rs.length)(hp:p<rs.length)(ne:n≠p)(ha:(rowAt rs n).1[k]?=some a)(ho:(rowAt rs p).1[k]?=some (rowAt rs p).2)(hc:0<c.2)(e:c.1*(rowAt rs n).2=-a*c.2)(g1:Big N (eE (dI (rowAt rs n) (rowAt rs p) c))) :
  Clr rs (gQ rs' (.add n p c)) p k (n+1) N wd:=by
 have bn:=hb _ (cC hn);have bp:=hb _ (cC hp);obtain⟨_,g2⟩:=WY bn.1 bp.1 (by rw[bn.2,bp.2]) ha ho hc e;have hn':n<rs'.length:=by rw[h.len];exact hn
 have at_:∀i,rowAt (gQ rs' (.add n p c)) i=if i=n then eE (dI (rowAt rs n) (rowAt rs p) c)else rowAt rs' i:=λi=>by
  have:rowAt (gQ rs' (.add n p c)) i=if i=n then eE (dI (rowAt rs' n) (rowAt rs' p) c)else rowAt rs' i:=iD hn';rw[this,h.own,h.old n (aG _)]
 refine⟨c7.trans h.len,?_,λi hi hl=>?_,λi hi=>?_,λi hi hl=>?_,λi j hi zp zi=>?_,λi j hi zp zi=>?_⟩
 .rw[at_,ZZ (λz=>ne z.symm)];exact h.own
 .rw[at_];by_cases z:i=n
  .rw[ZY z];exact g2
  .rw[ZZ z];exact h.nul i hi (XX (Nat.le_of_lt_succ hl) z)
 .rw[at_,ZZ (by lia)];exact h.old i (aM (Xs _) hi)
 .rw[at_];by_cases z:i=n
  .rw[ZY z];refine⟨g1,?_⟩;rw[uG];unfold dI;rw[List.length_zipWith,bn.2,bp.2,Nat.min_self]
  .rw[ZZ z];exact h.big i (XX (Nat.le_of_lt_succ hi) z) hl
 .rw[at_];by_cases z:i=n
  .rw[ZY z];subst z;exact ac4 (adO zi zp)
  .rw[ZZ z];exact h.zer i j hi zp zi
 .rw[at_];by_cases z:i=n
  .rw[ZY z];subst z;exact aiQ (aey zi zp)
  .rw[ZZ z];exact h.one i j hi zp zi
theorem Clr.done{rs rs':List Row}{p k N wd:Nat}(h:Clr rs rs' p k rs.length N wd):Cleared rs rs' p k/\∀r∈rs',Big N r/\r.1.length=wd:=by
 refine⟨⟨h.len,h.own,λi ne hi=>h.nul i ne hi,h.zer,h.one⟩,λr hr=>?_⟩;obtain⟨i,hi,rfl⟩:=jd hr;rw[h.len]at hi;exact h.big i hi hi
def AllB(N wd:Nat)(rs:List Row)(ss:List Stp):Prop:=∀k:Nat,∀r∈cI rs (ss.take k),Big N r/\r.1.length=wd
theorem AllB.nil{N wd:Nat}{rs:List Row}(h:∀r∈rs,Big N r/\r.1.length=wd):AllB N wd rs []:=λk=>by rw[List.take_nil];exact h
theorem AllB.le{N M wd:Nat}{rs:List Row}{ss:List Stp}(h:AllB N wd rs ss)(hn:N<=M):AllB M wd rs ss:=λk r hr=>⟨(h k r hr).1.le hn,(h k r hr).2⟩
theorem AllB.app{N wd:Nat}{rs:List Row}{ss ts:List Stp}(h:AllB N wd rs ss)(h2:AllB N wd (cI rs ss) ts):AllB N wd rs (ss++ts):=λk=>by
 rw[List.take_append,xQ];by_cases e:k<=ss.length
 .rw[show k-ss.length=0 by lia,List.take_zero];exact h k
 .rw[aL (show ss.length<=k by lia)];exact h2 _
theorem AllB.snoc{N wd:Nat}{rs:List Row}{ss:List Stp}{s:Stp}(h:AllB N wd rs ss)(h2:∀r∈gQ (cI rs ss) s,Big N r/\r.1.length=wd):AllB N wd rs (ss++[s]):=by
 refine h.app λk=>?_;cases k with
 |zero=>rw[List.take_zero];have:=h ss.length;rw[aQ]at this;exact this
 |succ k=>rw[show([s] : List Stp).take (k+1)=[s]by simp];exact h2
open Rw
theorem adq:3<=sizeLine:=by decide
theorem agv:4<=sizeLine:=by decide
theorem Vl(a b c d:Int):PyData.eqv (.tuple [.int a,.int b]) (.tuple [.int c,.int d])=(a==c&&b==d):=by
 simp[PyData.eqv,PyData.eqvAll]
structure Sts(H:Hp)(ys:Μ)(ss:List Stp):Prop where
 len:ys.length=ss.length
 at_:∀(k:Nat)(s:Stp),ss[k]?=some s->∃v,ys[k]?=some v/\Bm H v s
theorem Bm.ref{H:Hp}{v:V} : ∀{s:Stp},Bm H v s->∃a,v=.ref a
 |.swap _ _,⟨t,e,_⟩=>⟨t,e⟩
 |.times _ _,⟨t,_,e,_⟩=>⟨t,e⟩
 |.add _ _ _,⟨t,_,e,_⟩=>⟨t,e⟩
theorem Sts.refs{H:Hp}{ys:Μ}{ss:List Stp}(h:Sts H ys ss){wd:Nat}(hw:0<wd):∀ts:List Int,ts.length=wd->ys≠ts.map V.int:=by
 intro ts hl e;have:0<ys.length:=by rw[e,ak];lia
 have hs:0<ss.length:=by rw[<- h.len];exact this
 obtain⟨v,ev,sa⟩:=h.at_ 0 _ (aj hs);obtain⟨a,rfl⟩:=sa.ref;rw[e,aq]at ev;cases z:ts[0]? with
 |none=>rw[z]at ev;cases ev
 |some i=>rw[z]at ev;cases ev
theorem Sts.snoc{H:Hp}{ys:Μ}{ss:List Stp}(h:Sts H ys ss){v:V}{s:Stp}(hv:Bm H v s):Sts H (ys++[v]) (ss++[s]):=by
 refine⟨by rw[aA,aA,h.len];rfl,λk u e=>?_⟩;by_cases hk:k<ss.length
 .rw[aF hk]at e;rw[aF (by rw[h.len];exact hk)];exact h.at_ k u e
 .rw[aD (Nat.le_of_not_lt hk)]at e;have e0:k-ss.length=0:=by
   cases z:k-ss.length with
   |zero=>rfl
   |succ m=>rw[z]at e;simp at e
  rw[e0,List.getElem?_cons_zero]at e;cases e;rw[aD (by rw[h.len];exact Nat.le_of_not_lt hk),h.len,e0];exact⟨v,rfl,hv⟩
theorem Sts.imp{H H':Hp}{ys:Μ}{ss:List Stp}(h:Sts H ys ss)(k:∀t us,H t=some (.tup us)->H' t=some (.tup us)):Sts H' ys ss:=⟨h.len,λj s e=>let⟨v,a,b⟩:=h.at_ j s e;⟨v,a,b.imp k⟩⟩
def Ox(l ls:Addr)(H H':Hp):Prop:=∀b o,b≠l->b≠ls->H b=some o->H' b=some o
theorem Ox.tup{l ls:Addr}{H H':Hp}(h:Ox l ls H H'){xs ys:Μ}(hl:H l=some (.lst xs))(hls:H ls=some (.lst ys)):∀t us,H t=some (.tup us)->H' t=some (.tup us):=λt us e=>h t _ (d8 e hl) (d8 e hls) e
structure Red(l ls:Addr)(H:Hp)(xs ys:Μ)(rs:List Row)(ss:List Stp):Prop where
 hl:H l=some (.lst xs)
 lr:LR H xs rs
 hs:H ls=some (.lst ys)
 st:Sts H ys ss
 ne:ls≠l
def Rz(rs:List Row)(p q k:Nat)(new:List Stp):Prop:=∃sw tm,new=sw++tm/\((sw=[]/\q=p)\/sw=[.swap p q])/\((tm=[]/\(rowAt rs q).1[k]?=some (rowAt rs q).2)\/∃c:Int×Int,tm=[.times p c]/\0<c.2/\c.1*mD rs q k=c.2*(rowAt rs q).2)
def Ci:Sp:=λvs H Q _=>∃(l ls:Addr)(xs ys:Μ)(rs:List Row)(ss:List Stp)(p q k N wd:Nat),vs=[.ref l,.ref ls,.int p,.int q,.int k]/\Red l ls H xs ys rs ss/\ss.length<=900/\(∀r∈rs,Big N r/\r.1.length=wd)/\N<=NN/\wd<=64/\k<wd/\p<rs.length/\q<rs.length/\mD rs q k≠0 /\
 ∀H' xs' ys' new,Ox l ls H H'->Red l ls H' xs' ys' (cI rs new) (ss++new)->new.length<=2->(∀s∈new,Es rs.length s)->WK rs (cI rs new) p q k N wd->AllB N wd rs new->Rz rs p q k new->Q .non H'
theorem Pr(F:Fun K pA pA vL f fd)(T:Txt K mg D)(uQ:OkF P w K mg base 5 vY vZ GZ)(lM:OkF P w K mg base 3 mH m_ ug)(Ud:OkF P w K mg base 3 Fx Gm (Lj K)):cJ P w K mg base CX0 6 f fd p8 Ci:=by
  refine F.ok Bo ?_ ?_
  . rintro _ _ _ _ ⟨l,ls,xs,ys,rs,ss,p,q,k,N,wd,rfl,_⟩;rfl
  . rintro cdv A outer s H _ Q E hr ⟨l,ls,xs,ys,rs,ss,p,q,k,N,wd,rfl,rd,h9,hb,hN,hw,hk,hp,hq,ht,qq⟩
    refine⟨_,(abj (cW (cD Bb pv3 pv2 (cH _))
        (bO (cX (bR uQ hr.md (bF pv0 (bF pv1 (bF (gO (bF uK (bF pv2 (bF pv3))))))))))
        cF)
      (bI (bZ (i:=5) Bo.nd (bR lM hr.md (bF (bT bU pv0 pv2) (bF pv4))))
      (bO (cW (cD (yS (K:=K) rfl hr.units) pv5 (dX T.Br) (cH _))
        (bO (cX (bR uQ hr.md (bF pv0 (bF pv1 (bF (gO (bF uK (bF pv2 (bF (bR Ud hr.md (bF (dX T.Br) (bF pv5)))))))))))))
        cF)))),?_⟩
    refine⟨λσ' H1=>∃xs1 ys1 new,σ'=[some (.ref l),some (.ref ls),some (.int p),some (.int q),some (.int k),none]/\Ox l ls H H1/\Red l ls H1 xs1 ys1 (cI rs new) (ss++new)/\new.length<=1/\(∀s∈new,Es rs.length s)/\(cI rs new).length=rs.length/\(∀r∈cI rs new,Big N r/\r.1.length=wd)/\rowAt (cI rs new) p=rowAt rs q/\(∀i,i≠p->i<rs.length->rowAt (cI rs new) i=rowAt rs i\/(i=q/\rowAt (cI rs new) i=rowAt rs p))/\AllB N wd rs new/\((new=[]/\q=p)\/new=[.swap p q]),⟨_,rfl,_,rfl,rfl,_,rfl,pB (λh=>?_) λh=>?_⟩,?_⟩
    . refine⟨_,rfl,_,rfl,_,rfl,_,rfl,adq,λt hf=>?_⟩
      have S1:Same H (upd H t (.tup [.str (Str.ofString "swap"),.int p,.int q])):=Same.upd hf;have nl:t≠l:=(bH rd.hl hf).symm;have nls:t≠ls:=(bH rd.hs hf).symm;refine⟨l,ls,.ref t,xs,ys,rs,.swap p q,wd,rfl,S1 _ _ rd.hl,rd.lr.same S1,S1 _ _ rd.hs,by rw[rd.st.len];exact aM h9 (by decide),rd.ne,rd.st.refs (by lia),⟨t,rfl,bG⟩,⟨hp,hq⟩,λr hr=>⟨(hb r hr).1.le hN,(hb r hr).2⟩,hw,λH' xs' kp h1 lr1 h2=>?_⟩;have of:Ox l ls H H':=λb o e1 e2 e=>kp b o e1 e2 (S1 _ _ e);have bs:∀r∈gQ rs (.swap p q),Big N r/\r.1.length=wd:=λr hr=>by
        obtain⟨i,hi,rfl⟩:=jd hr;have hi:i<rs.length:=by rw[<- c7 (rs:=rs) (st:=.swap p q)];exact hi
        rw[yF hp hq];split
        . exact hb _ (cC hp)
        . split
          . exact hb _ (cC hq)
          . exact hb _ (cC hi)
      refine⟨xs',_,[.swap p q],rfl,of,⟨h1,lr1,h2,(rd.st.imp (of.tup rd.hl rd.hs)).snoc ⟨t,rfl,kp _ _ nl nls bG⟩,rd.ne⟩,aG _,λs hs=>?_,(show(gQ rs (.swap p q)).length=rs.length from c7),bs,?_,λi ne hi=>?_,(AllB.nil hb).snoc bs,.inr rfl⟩
      . rw[YR.mp hs];exact⟨hp,hq⟩
      . show rowAt (gQ rs (.swap p q)) p=_
        rw[yF hp hq,ZY rfl];split
        . rename_i z;rw[z]
        . rfl
      . show rowAt (gQ rs (.swap p q)) i=_\/_/\rowAt (gQ rs (.swap p q)) i=_
        rw[yF hp hq,ZZ ne];split
        . rename_i z;exact .inr ⟨z,rfl⟩
        . exact .inl rfl
    . have e:(q:Int)=p:=by simpa using h
      have e:q=p:=by lia
      exact⟨xs,ys,[],rfl,λb o _ _ e=>e,by rw[List.append_nil];exact rd,by decide,λs hs=>absurd hs List.not_mem_nil,rfl,hb,by rw[e];rfl,λi _ _=>.inl rfl,AllB.nil hb,.inl ⟨rfl,e⟩⟩
    . rintro σ' H1 ⟨xs1,ys1,new,rfl,of1,rd1,n1,g1,len1,Jx,e1,old1,ab,sw⟩
      have hp1:p<(cI rs new).length:=by rw[len1];exact hp
      have hx:p<xs1.length:=by rw[rd1.lr.len];exact hp1
      have ra:=rd1.lr.at_ p _ (aj hx);have bp:=Jx _ (cC hp1);have et:(rowAt (cI rs new) p).1[k]?=some (mD rs q k):=by
        rw[e1];unfold mD;rw[au,aj (by rw[<- e1,bp.2];exact hk)];rfl
      have bN:=bp.1.le hN;have b0:=bp.1.pos;have tb:=bN.top _ (aC et);generalize hr1:cI rs new=rs1 at *;generalize hrw:rowAt rs1 p=r at *;generalize ht0:mD rs q k=t at *;refine⟨_,rfl,_,rfl,l,xs1,p,_,rfl,rfl,rd1.hl,bY (aj hx),_,rfl,_,r,k,t,rfl,ra,et,bN,λf hf=>?_⟩;have S2:Same H1 (upd H1 f (.tup [.int (Ac.lw t r.2).1,.int (Ac.lw t r.2).2])):=Same.upd hf;have lp:=Ac.iG (t:=t) b0;have lg:=Ac.rQ (t:=t) b0;have le:=Ac.tD (t:=t) b0;refine⟨_,rfl,_,_,.tup (.inl (.of bG)) (.cons (.int _) (.cons (.int _) .nil)),.tup (T.uN _) (.cons (.int _) (.cons (.int _) .nil)),rfl,rfl,_,rfl,pB (λh=>?_) λh=>?_⟩
      . have l1:(Ac.lw t r.2).1.natAbs<=NN:=aM (Int.natAbs_ediv_le_natAbs _ _) tb
        have l2:(Ac.lw t r.2).2.natAbs<=NN:=aM (Int.natAbs_ediv_le_natAbs _ _) bN.bot;have u0:(Ac.lw t r.2).1≠0:=λz=>by
          rw[z,Int.zero_mul]at le;rcases Int.mul_eq_zero.mp le.symm with z|z
          . exact ht z
          . lia
        generalize(Ac.lw t r.2).1=u at *;generalize(Ac.lw t r.2).2=v at *;refine⟨_,rfl,_,rfl,_,rfl,_,rfl,_,_,1,1,u,v,rfl,T.uN _,.inl (.of bG),bdN (by decide +kernel),bdN (by decide +kernel),bdN l1,bdN l2,by rw[Int.one_mul];exact u0,by rw[Int.one_mul];exact bdN l1,λa z o lo ha=>⟨adq,λt2 ht2=>?_⟩⟩;have S3:=Same.upd (o:=.tup [.int z,.int o]) ha;have S4:=Same.upd (o:=.tup [.str (Str.ofString "times"),.int p,.ref a]) ht2;have ea:=S4 a _ bG;have S:=(S2.trans S3).trans S4;have e2:upd (upd (upd H1 f (.tup [.int u,.int v])) a (.tup [.int z,.int o])) t2 (.tup [.str (Str.ofString "times"),.int p,.ref a]) t2=some (.tup [.str (Str.ofString "times"),.int p,.ref a]):=bG;generalize upd (upd (upd H1 f (.tup [.int u,.int v])) a (.tup [.int z,.int o])) t2 (.tup [.str (Str.ofString "times"),.int p,.ref a])=H2 at *;have zz:=lo.eq;rw[Int.one_mul,Int.one_mul]at zz;have o0:=lo.pos;have z0:z≠0:=λq=>by
          rw[q,Int.zero_mul]at zz;rcases Int.mul_eq_zero.mp zz.symm with y|y<;>lia
        have fn:Fn (z,o):=⟨o0,aM lo.lx (by rw[Int.one_mul];exact l2),aM lo.ly (by rw[Int.one_mul];exact l1)⟩;have key:z*t=o*r.2:=by
          refine Int.eq_of_mul_eq_mul_right (Int.ne_of_gt lp) ?_
          calc z*t*v=z*(t*v):=by ac_rfl
            _=z*(u*r.2):=by rw[<- le]
            _=(z*u)*r.2:=by ac_rfl
            _=v*o*r.2:=by rw[zz]
            _=o*r.2*v:=by ac_rfl
        have sg:Es rs.length (.times p (z,o)):=⟨hp,fn,lo.gcd,z0⟩;refine⟨l,ls,.ref t2,xs1,ys1,rs1,.times p (z,o),wd,rfl,S _ _ rd1.hl,rd1.lr.same S,S _ _ rd1.hs,by rw[rd1.st.len,aA];lia,rd1.ne,rd1.st.refs (by lia),⟨t2,a,rfl,e2,ea⟩,by rw[len1];exact sg.n,λr hr=>⟨(Jx r hr).1.le hN,(Jx r hr).2⟩,hw,λH' xs' kp h1 lr1 h2=>?_⟩;have of:Ox l ls H1 H':=λb o e1 e2 e=>kp b o e1 e2 (S _ _ e);have tk:∀t us,H2 t=some (.tup us)->H' t=some (.tup us):=λt us e=>kp _ _ (d8 e (S _ _ rd1.hl)) (d8 e (S _ _ rd1.hs)) e;have es:cI rs (new++[.times p (z,o)])=gQ rs1 (.times p (z,o)):=by rw[qx,hr1]
        refine qq H' xs' _ (new++[.times p (z,o)]) (λb o e1 e2 e=>of b o e1 e2 (of1 b o e1 e2 e)) ⟨h1,by rw[es];exact lr1,h2,?_,rd.ne⟩ (by rw[aA];exact Nat.succ_le_succ n1) (λs hs=>?_) ?_ ?_ ⟨new,_,rfl,sw,.inr ⟨(z,o),rfl,o0,by rw[<- e1,ht0];exact key⟩⟩
        . rw[<- WZ]
          exact(rd1.st.imp (of.tup rd1.hl rd1.hs)).snoc ⟨t2,a,rfl,tk _ _ e2,tk _ _ ea⟩
        . rcases Y1.mp hs with y|y
          . exact g1 s y
          . rw[YR.mp y];exact sg
        . rw[es]
          exact El hp1 len1 Jx (by rw[hrw,e1]) old1 (by rw[hrw];exact et) ht o0 (by rw[hrw];exact key)
        . refine ab.snoc ?_
          rw[hr1];exact(El (q:=q) hp1 len1 Jx (by rw[hrw,e1]) old1 (by rw[hrw];exact et) ht o0 (by rw[hrw];exact key)).big
      . have e2:(Ac.lw t r.2).1=1/\(Ac.lw t r.2).2=1:=by
          rw[ZY rfl,Vl]at h;simpa using h
        rw[e2.1,e2.2,Int.one_mul,Int.mul_one]at le;refine qq _ xs1 ys1 new (λb o e1 e2 e=>S2 _ _ (of1 b o e1 e2 e)) ⟨S2 _ _ rd1.hl,by rw[hr1];exact rd1.lr.same S2,S2 _ _ rd1.hs,rd1.st.imp λt us e=>S2 _ _ e,rd.ne⟩ (aM n1 (by decide)) g1 ?_ ab ⟨new,[],(List.append_nil _).symm,sw,.inl ⟨rfl,by rw[<- e1,et,le]⟩⟩;rw[hr1];exact Uj len1 Jx (by rw[hrw,e1]) old1 (by rw[hrw,et,le])
open Rw
inductive Adds(rs:List Row)(p k:Nat):Nat->List Stp->Prop
 |nil:Adds rs p k 0 []
 |skip {n:Nat}{ss:List Stp} : Adds rs p k n ss->(n=p\/(rowAt rs n).1[k]?=some 0)->Adds rs p k (n+1) ss
 |add {n:Nat}{ss:List Stp}{c:Ι}{a:Int} : Adds rs p k n ss->n≠p->n<rs.length->(rowAt rs n).1[k]?=some a->0<c.2->c.1*(rowAt rs n).2=-a*c.2->Adds rs p k (n+1) (ss++[.add n p c])
def uW:Sp:=λvs H Q _=>∃(l ls:Addr)(xs ys:Μ)(rs:List Row)(ss:List Stp)(p k N wd:Nat),vs=[.ref l,.ref ls,.int p,.int k]/\Red l ls H xs ys rs ss/\ss.length<=800/\(∀r∈rs,Big N r/\r.1.length=wd)/\(∀i a(c:Ι),i≠p->i<rs.length->(rowAt rs i).1[k]?=some a->0<c.2->c.1*(rowAt rs i).2=-a*c.2->Big N (eE (dI (rowAt rs i) (rowAt rs p) c)))/\N<=NN/\wd<=64/\k<wd/\p<rs.length/\rs.length<=64/\(rowAt rs p).1[k]?=some (rowAt rs p).2 /\
 ∀H' xs' ys' new,Ox l ls H H'->Red l ls H' xs' ys' (cI rs new) (ss++new)->new.length<=rs.length->(∀s∈new,Es rs.length s)->Cleared rs (cI rs new) p k->(∀r∈cI rs new,Big N r/\r.1.length=wd)->AllB N wd rs new->Adds rs p k rs.length new->Q .non H'
def jCl(l ls:Addr)(p k N wd:Nat)(rs:List Row)(ss:List Stp)(H:Hp)(n:Nat)(σ:L2.St)(H':Hp):Prop:=∃xs' ys' new u v,σ=[some (.ref l),some (.ref ls),some (.int p),some (.int k),u,v]/\Ox l ls H H'/\Red l ls H' xs' ys' (cI rs new) (ss++new)/\new.length<=n/\(∀s∈new,Es rs.length s)/\Clr rs (cI rs new) p k n N wd/\AllB N wd rs new/\Adds rs p k n new
theorem Er(F:Fun K kW kW qO f fd)(T:Txt K mg D)(uQ:OkF P w K mg base 5 vY vZ GZ)(lM:OkF P w K mg base 3 mH m_ ug)(qp:OkF P w K mg base 3 tR tV (UW K)):cJ P w K mg base CX0 6 f fd lA uW:=by
  refine F.ok o_ ?_ ?_
  . rintro _ _ _ _ ⟨l,ls,xs,ys,rs,ss,p,k,N,wd,rfl,_⟩;rfl
  . rintro cdv A outer s H _ Q E hr ⟨l,ls,xs,ys,rs,ss,p,k,N,wd,rfl,rd,h9,hb,hcl,hNN,hw,hk,hp,hn,ho,qq⟩
    refine⟨_,(bO (fL PassesOwn.never rfl (eF T.gY (bF (cu cN T.gH PySem.boot_len (bF pv0))).mono) (cB (i:=4) o_.nd)
        (bO (cW (PW.pt (pw_and (cD Bb pv4 pv2 (cH _)) (pw_and1 (cD Bb (bT bU (bT cA (bT bU pv0 pv4) bK) pv3) bK (cH _)))))
          (bI (bZ (i:=5) o_.nd (bR qp hr.md (bF (dX T.jo) (bF (bR lM hr.md (bF (bT bU pv0 pv4) (bF pv3)))))))
          (bO (cX (bR uQ hr.md (bF pv0 (bF pv1 (bF (gO (bF uK (bF pv4 (bF pv2 (bF pv5))))))))))))
          cF)))),?_⟩
    have hx:=rd.lr.len;refine qz ⟨_,rfl,l,xs,rfl,rd.hl,xs.length,rfl,by lia,jCl l ls p k N wd rs ss H,⟨xs,ys,[],none,none,rfl,λb o _ _ e=>e,by rw[List.append_nil];exact rd,aG _,λs hs=>absurd hs List.not_mem_nil,Clr.zero,AllB.nil hb,.nil⟩,?_,?_⟩
    . rintro n σ' H1 hn' ⟨xs1,ys1,new,u,v,rfl,of1,rd1,n1,g1,cl,ab,ad⟩
      have hnr:n<rs.length:=by exact aV hn' (Nat.le_of_eq hx)
      refine⟨_,rfl,_,rfl,rfl,_,rfl,pB (λh=>?_) λh=>pB (λz=>by cases z) λ_=>?_⟩
      . have ne:n≠p:=λz=>by rw[z]at h;simp at h
        have hn1:n<(cI rs new).length:=by rw[cl.len];exact hnr
        have hx1:n<xs1.length:=by rw[rd1.lr.len];exact hn1
        have ra:=rd1.lr.at_ n _ (aj hx1);rw[cl.old n (aG _)]at ra;have bn:=hb _ (cC hnr);obtain⟨a,et⟩ : ∃a,(rowAt rs n).1[k]?=some a:=⟨_,aj (by rw[bn.2];exact hk)⟩;have bN:=bn.1.le hNN;have b0:=bn.1.pos;have tb:=bN.top _ (aC et);have ev:=bY (aj hx1);obtain⟨t,lr,e0,ht,hlr⟩:=id ra;refine⟨_,rfl,_,rfl,l,xs1,n,_,rfl,rfl,rd1.hl,ev,t,_,0,_,e0,rfl,ht,cY,_,rfl,lr,_,k,_,rfl,rfl,hlr,bY (j:=k) (by rw[aq,et];rfl),rfl,_,rfl,pB (λh=>?_) λh=>?_⟩
        . generalize hrw:rowAt rs n=r at *
          refine⟨_,rfl,_,rfl,l,xs1,n,_,rfl,rfl,rd1.hl,ev,_,rfl,_,r,k,a,rfl,ra,et,bN,λf hf=>?_⟩;have l1:(Ac.lw a r.2).1.natAbs<=NN:=aM (Int.natAbs_ediv_le_natAbs _ _) tb;have l2:(Ac.lw a r.2).2.natAbs<=NN:=aM (Int.natAbs_ediv_le_natAbs _ _) bN.bot;have lp:=Ac.iG (t:=a) b0;have le:=Ac.tD (t:=a) b0;generalize(Ac.lw a r.2).1=u at *;generalize(Ac.lw a r.2).2=v at *;refine⟨_,_,0,1,u,v,rfl,T.jY _,.inl (.of bG),bdN (by decide +kernel),bdN (by decide +kernel),bdN l1,bdN l2,by decide,lp,by rw[Int.one_mul];exact bdN l2,λq z o lo hq=>?_⟩;refine⟨_,rfl,_,rfl,_,rfl,_,rfl,_,rfl,agv,λt2 ht2=>?_⟩;have S2:=Same.upd (o:=.tup [.int u,.int v]) hf;have S3:=Same.upd (o:=.tup [.int z,.int o]) hq;have S4:=Same.upd (o:=.tup [.str (Str.ofString "add"),.int n,.int p,.ref q]) ht2;have ea:=S4 q _ bG;have S:=(S2.trans S3).trans S4;have e2:upd (upd (upd H1 f (.tup [.int u,.int v])) q (.tup [.int z,.int o])) t2 (.tup [.str (Str.ofString "add"),.int n,.int p,.ref q]) t2=some (.tup [.str (Str.ofString "add"),.int n,.int p,.ref q]):=bG;generalize upd (upd (upd H1 f (.tup [.int u,.int v])) q (.tup [.int z,.int o])) t2 (.tup [.str (Str.ofString "add"),.int n,.int p,.ref q])=H2 at *;have zz:=lo.eq;have lx:=lo.lx;have ly:=lo.ly;rw[Int.one_mul,Int.zero_mul,Int.mul_one,Int.zero_sub]at zz;rw[Int.zero_mul,Int.mul_one,Int.zero_sub,Int.natAbs_neg]at lx;rw[Int.one_mul]at ly;have fn:Fn (z,o):=⟨lo.pos,aM lx l1,aM ly l2⟩;have key:z*r.2=-a*o:=by
            refine Int.eq_of_mul_eq_mul_right (Int.ne_of_gt lp) ?_
            calc z*r.2*v=(z*v)*r.2:=by ac_rfl
              _=-u*o*r.2:=by rw[zz]
              _=-(u*r.2)*o:=by rw[Int.neg_mul,Int.neg_mul,Int.neg_mul];congr 1;ac_rfl
              _=-(a*v)*o:=by rw[le]
              _=-a*o*v:=by rw[Int.neg_mul,Int.neg_mul,Int.neg_mul];congr 1;ac_rfl
          have sg:Es rs.length (.add n p (z,o)):=⟨hnr,hp,ne,fn,lo.gcd⟩;have Jx:∀r∈cI rs new,Big NN r/\r.1.length=wd:=λr hr=>by
            obtain⟨i,hi,rfl⟩:=jd hr;rw[cl.len]at hi;by_cases z:i<n
            . exact⟨(cl.big i z hi).1.le hNN,(cl.big i z hi).2⟩
            . rw[cl.old i (Nat.le_of_not_lt z)]
              exact⟨(hb _ (cC hi)).1.le hNN,(hb _ (cC hi)).2⟩
          refine⟨l,ls,.ref t2,xs1,ys1,cI rs new,.add n p (z,o),wd,rfl,S _ _ rd1.hl,rd1.lr.same S,S _ _ rd1.hs,by rw[rd1.st.len,aA];lia,rd1.ne,rd1.st.refs (by lia),⟨t2,q,rfl,e2,ea⟩,by rw[cl.len];exact sg.n,Jx,hw,λH' xs' kp h1' lr1 h2'=>?_⟩;have of:Ox l ls H1 H':=λb o e1 e2 e=>kp b o e1 e2 (S _ _ e);have tk:∀t us,H2 t=some (.tup us)->H' t=some (.tup us):=λt us e=>kp _ _ (d8 e (S _ _ rd1.hl)) (d8 e (S _ _ rd1.hs)) e;refine⟨xs',_,new++[.add n p (z,o)],_,_,rfl,λb o e1 e2 e=>of b o e1 e2 (of1 b o e1 e2 e),⟨h1',by rw[qx];exact lr1,h2',?_,rd.ne⟩,by rw[aA];exact Nat.succ_le_succ n1,λs hs=>?_,?_,?_,.add ad ne hnr (by rw[hrw];exact et) lo.pos (by rw[hrw];exact key)⟩
          . rw[<- WZ]
            exact(rd1.st.imp (of.tup rd1.hl rd1.hs)).snoc ⟨t2,q,rfl,tk _ _ e2,tk _ _ ea⟩
          . rcases Y1.mp hs with y|y
            . exact g1 s y
            . rw[YR.mp y];exact sg
          . rw[qx]
            exact cl.next hb hnr hp ne (by rw[hrw];exact et) ho lo.pos (by rw[hrw];exact key) (hcl n a (z,o) ne hnr (by rw[hrw];exact et) lo.pos (by rw[hrw];exact key))
          . have nx:=cl.next (N:=N) (wd:=wd) (c:=(z,o)) hb hnr hp ne (by rw[hrw];exact et) ho lo.pos (by rw[hrw];exact key) (hcl n a (z,o) ne hnr (by rw[hrw];exact et) lo.pos (by rw[hrw];exact key))
            refine ab.snoc λr hr=>?_;obtain⟨i,hi,rfl⟩:=jd hr;rw[nx.len]at hi;by_cases z:i<n+1
            . exact nx.big i z hi
            . rw[nx.old i (Nat.le_of_not_lt z)]
              exact hb _ (cC hi)
        . have z:a=0:=by simpa using h
          refine⟨xs1,ys1,new,_,v,rfl,of1,rd1,Nat.le_succ_of_le n1,g1,cl.skip hb (.inr ?_),ab,.skip ad (.inr (by rw[et,z]))⟩;rw[cl.old n (aG _),et,z]
      . have z:(n:Int)=p:=by simpa using h
        exact⟨xs1,ys1,new,_,v,rfl,of1,rd1,Nat.le_succ_of_le n1,g1,cl.skip hb (.inl (by lia)),ab,.skip ad (.inl (by lia))⟩
    . rintro σ' H1 ⟨xs1,ys1,new,u,v,rfl,of1,rd1,n1,g1,cl,ab,ad⟩
      rw[hx]at n1 cl ad;exact qq H1 xs1 ys1 new of1 rd1 n1 g1 cl.done.1 cl.done.2 ab ad
open Rw
structure FRs(H:Hp)(xs:Μ)(fss:Φ):Prop where
 len:xs.length=fss.length
 at_:∀(k:Nat)(v:V),xs[k]?=some v->∃l ys,v=.ref l/\H l=some (.lst ys)/\FL H ys (fss.getD k [])
theorem FRs.same{H H':Hp}{xs:Μ}{fss:Φ}(h:FRs H xs fss)(S:Same H H'):FRs H' xs fss:=⟨h.len,λk v e=>let⟨l,ys,a,b,c⟩:=h.at_ k v e;⟨l,ys,a,S _ _ b,c.same S⟩⟩
theorem FRs.snoc{H:Hp}{xs:Μ}{fss:Φ}(h:FRs H xs fss){l:Addr}{ys:Μ}{fs:Ψ}(hl:H l=some (.lst ys))(hf:FL H ys fs):FRs H (xs++[.ref l]) (fss++[fs]):=by
 refine⟨by rw[aA,aA,h.len];rfl,λk v e=>?_⟩;by_cases hk:k<xs.length
 .rw[aF hk]at e;rw[au,aF (by rw[<- h.len];exact hk),<- au];exact h.at_ k v e
 .rw[aD (Nat.le_of_not_lt hk)]at e;have e0:k-xs.length=0:=by
   cases e1:k-xs.length with
   |zero=>rfl
   |succ m=>rw[e1]at e;simp at e
  rw[e0,List.getElem?_cons_zero]at e;cases e;rw[au,aD (by rw[<- h.len];exact Nat.le_of_not_lt hk),<- h.len,e0];exact⟨l,ys,rfl,hl,hf⟩
theorem FRs.updL{H:Hp}{D:Addr}{zs zs':Μ}(hD:H D=some (.lst zs)){xs:Μ}{fss:Φ}(h:FRs H xs fss)(ne:∀(k:Nat)(l:Addr),xs[k]?=some (V.ref l)->l≠D):FRs (upd H D (.lst zs')) xs fss:=by
 refine⟨h.len,λk v e=>?_⟩;obtain⟨l,ys,rfl,b,c⟩:=h.at_ k v e;exact⟨l,ys,rfl,(bL (ne k l e)).trans b,c.updL hD⟩
def uV:Sp:=λvs H Q _=>∃(l:Addr)(xs:Μ)(rs:List Row)(wd:Nat),vs=[.ref l]/\H l=some (.lst xs)/\LR H xs rs/\(∀r∈rs,Big NN r/\r.1.length=wd)/\wd<=64/\rs.length<=64 /\
 ∀p zs H',Same H H'->H p=none->H' p=some (.lst zs)->FRs H' zs (rs.map rep)->(∀(k:Nat)(a:Addr),zs[k]?=some (V.ref a)->H a=none/\a≠p)->Q (.ref p) H'
def jO(D1:Addr)(rs:List Row)(H:Hp)(k:Nat)(zs:Μ)(Hc:Hp):Prop:=Same H Hc/\Hc D1=some (.lst zs)/\FRs Hc zs ((rs.take k).map rep)/\∀(j:Nat)(a:Addr),zs[j]?=some (V.ref a)->H a=none/\a≠D1
def jI(D2:Addr)(r:Row)(H:Hp)(k:Nat)(ys:Μ)(Hc:Hp):Prop:=Same H Hc/\Hc D2=some (.lst ys)/\FL Hc ys ((rep r).take k)
theorem Eu(F:Fun K k_ k_ jz f fd)(T:Txt K mg D)(eX:OkF P w K mg base 2 kE j_ gG):cJ P w K mg base CX0 3 f fd lC uV:=by
 refine F.ok Ez ?_ ?_
 .rintro _ _ _ _ ⟨l,xs,rs,wd,rfl,_⟩;rfl
 .rintro cdv A outer s H _ Q E hr ⟨l,xs,rs,wd,rfl,hl,lr,bn,h64,hn,q⟩;refine⟨_,(bO (cg (Ux (bQ jz) jh jh "row" (cV (pv 0).mono) Ui cU (Ti (bQ jz) ("row"::jh) ("row"::jh) ["top"] (Rf (K:=K) rfl ((bT cA pv0 bK)).mono) (dH (i:=0)) cU (bR eX hr.md (bF pv0 (bF (bT cA pv1 bK)))))))),?_⟩;unfold gG
  walk_at "rd"
  refine cM ?_
  walk_at "rd"
  refine⟨_,hl,by rw[lr.len];exact aM hn (by decide),λD1 hD=>⟨jO D1 rs H,⟨Same.upd hD,bG,⟨rfl,λk v e=>by simp at e⟩,by simp⟩,?_,?_⟩⟩
  .rintro k v zs Hc hk ⟨S1,hD1,fr,nw⟩ hzl hlc;have hkr:k<rs.length:=by rw[<- lr.len];exact(ao.mp hk).1
   have er:rs[k]?=some rs[k]:=aj hkr;have era:rowAt rs k=rs[k]:=by unfold rowAt;rw[au,er];rfl
   obtain⟨t,l1,rfl,ht,hl1⟩:=lr.at_ k v hk;rw[era]at ht hl1;have bk:=bn _ (aW hkr);generalize rs[k]=r at *;refine cM ?_
   walk_at "rd"
   have p0:=bk.1.pos;refine⟨_,S1 _ _ ht,_,cY,l1,rfl,_,S1 _ _ hl1,by rw[ak,bk.2];exact aM h64 (by decide),λD2 hD2=>⟨jI D2 r Hc,⟨Same.upd hD2,bG,.nil⟩,?_,?_⟩⟩
   .rintro j x ys H2 hj ⟨S2,hd2,fl⟩ hyl hl2;rw[aq]at hj;cases et:r.1[j]? with
    |none=>rw[et]at hj;cases hj
    |some t0 =>
     rw[et]at hj;cases hj;refine⟨_,S2 _ _ (S1 _ _ ht),_,cR,t0,rfl,_,rfl,by exact Int.ne_of_gt p0,bdN bk.1.bot,λp x y lo hp=>?_⟩;have T1:Same H2 (upd H2 p (.tup [.int x,.int y])):=Same.upd hp;have e1:upd H2 p (.tup [.int x,.int y]) p=some (.tup [.int x,.int y]):=bG;generalize upd H2 p (.tup [.int x,.int y])=H3 at T1 e1 ⊢;obtain⟨ex,ey⟩:=Ac.Qk (t:=t0) (b:=r.2) p0 lo.pos lo.gcd lo.eq;have en:(rep r)[j]?=some (x,y):=by
      unfold rep;rw[aq,et];show some (Ac.lw t0 r.2)=_;rw[ex,ey]
     refine⟨T1 _ _ hd2,T1 _ _ hl2,?_,bG,?_⟩
     .intro b' o' e';rw[bL (bH e' hD2)];exact T1 _ _ (S2 _ _ e')
     .rw[cj en];exact((fl.same T1).updL (T1 _ _ hd2)).append (.one ((bL (d8 e1 (T1 _ _ hd2))).trans e1))
   .rintro ys H2 ⟨S2,hd2,fl⟩ hyl;have ek:(rep r).take (r.1.map V.int).length=rep r:=aL (by unfold rep;rw[ak,ak];exact aG _);rw[ek]at fl;have nD:D1≠D2:=bH hD1 hD2;have hDn:H D2=none:=S1.free hD2;refine⟨S2 _ _ hD1,S2 _ _ hlc,?_,bG,?_,?_⟩
    .intro b' o' e';rw[bL (bH e' hD)];exact S2 _ _ (S1 _ _ e')
    .rw[cj er,bC];refine FRs.snoc (FRs.updL (S2 _ _ hD1) (fr.same S2) λj' l' e'=>(nw j' l' e').2) ((bL nD.symm).trans hd2) (fl.updL (S2 _ _ hD1))
    .intro j' a' e';by_cases hj':j'<zs.length
     .rw[aF hj']at e';exact nw j' a' e'
     .rw[aD (Nat.le_of_not_lt hj')]at e';have e0:j'-zs.length=0:=by
       cases e1:j'-zs.length with
       |zero=>rfl
       |succ m=>rw[e1]at e';simp at e'
      rw[e0,List.getElem?_cons_zero]at e';cases e';exact⟨hDn,nD.symm⟩
  .rintro zs Hc ⟨S1,hD1,fr,nw⟩ hzl;rw[lr.len,aQ]at fr;exact q D1 zs Hc S1 hD hD1 fr nw
open Rw
def lvR(fs:Ψ):Row:=(lvT fs,(lvB fs:Nat))
theorem abk(fs:Ψ):(lvR fs).1.length=fs.length:=by unfold lvR lvT;rw[ak]
noncomputable def fAt(fss:Φ)(i:Nat):Ψ:=fss.getD i []
theorem Wo{rs:List Row}{i:Nat}(h:i<rs.length):fAt (rs.map rep) i=rep (rowAt rs i):=by
 unfold fAt rowAt;rw[au,au,aq,aj h];rfl
def jW(D1:Addr)(fss:Φ)(H:Hp)(k:Nat)(zs:Μ)(Hc:Hp):Prop:=Same H Hc/\Hc D1=some (.lst zs)/\zs.length=((fss.take k).map lvR).length/\∀(j:Nat)(v:V),zs[j]?=some v->∃t lr,v=.ref t/\Hc t=some (.tup [.ref lr,.int (rowAt ((fss.take k).map lvR) j).2])/\Hc lr=some (.lst ((rowAt ((fss.take k).map lvR) j).1.map V.int))/\lr≠D1
theorem Us{rs:List Row}{r:Row}{j:Nat}(h:j<rs.length):rowAt (rs++[r]) j=rowAt rs j:=by
 unfold rowAt;rw[au,au,aF h]
theorem Tv{rs:List Row}{r:Row} : rowAt (rs++[r]) rs.length=r:=by
 unfold rowAt;rw[au,aD (aG _),Nat.sub_self];rfl
open Rw
theorem AllB.end_{N wd:Nat}{rs:List Row}{ss:List Stp}(h:AllB N wd rs ss):∀r∈cI rs ss,Big N r/\r.1.length=wd:=by
 have:=h ss.length;rw[aQ]at this;exact this
theorem zP:∀{ss:List Stp}{rs:List Row},(cI rs ss).length=rs.length
 |[],_=>rfl
 |s::ss,rs=>by
  show(cI (gQ rs s) ss).length=_;rw[zP,c7]
open Rw
noncomputable abbrev MB(m N:Nat):Nat:=(2*m*N)^m
def aT(rs0:List Row)(i j:Nat):Int:=(rowAt rs0 i).1.getD j 0
def aB(rs0:List Row)(i:Nat):Int:=(rowAt rs0 i).2
structure Jc(rs0 rs:List Row)(wd N p:Nat):Prop where
 len:rs.length=rs0.length
 row:∀r∈rs,0<r.2/\r.1.length=wd/\(gcL r.1 r.2=1\/Big N r)
 st:∃pv s,mC (aT rs0) (aB rs0) rs0.length wd (λi j=>vr (rowAt rs i) j) p pv s
theorem Jc.zero{rs0:List Row}{wd N:Nat}(hb:∀r∈rs0,Big N r/\r.1.length=wd):Jc rs0 rs0 wd N 0 :=
 ⟨rfl,λr hr=>⟨(hb r hr).1.pos,(hb r hr).2,.inr (hb r hr).1⟩,λ_=>0,id,mC.zero λi hi=>(hb _ (cC hi)).1.pos⟩
theorem ady{m N:Nat}(hm:1<=m)(h1:1<=N):N<=MB m N:=by
  have x:N<=2*m*N:=Nat.le_mul_of_pos_left _ (by lia);have y:1<=2*m*N:=Nat.mul_le_mul (show 1<=2*m by lia) h1
  calc N<=(2*m*N)^1:=by rw[Nat.pow_one];exact x
    _<=_:=XU y hm
theorem Vi{rs0:List Row}{wd N:Nat}(hb:∀r∈rs0,Big N r/\r.1.length=wd):∀i j,i<rs0.length->j<wd->(aT rs0 i j).natAbs<=N:=λi j hi hj=>by
 unfold aT;have b:=hb _ (cC hi);rw[au,aj (by rw[b.2];exact hj)];exact b.1.top _ (aW _)
theorem Np{rs0:List Row}{wd N:Nat}(hb:∀r∈rs0,Big N r/\r.1.length=wd):∀i,i<rs0.length->0<aB rs0 i/\(aB rs0 i).natAbs<=N:=λi hi=>⟨(hb _ (cC hi)).1.pos,(hb _ (cC hi)).1.bot⟩
theorem Jc.big{rs0 rs:List Row}{wd N p:Nat}(h:Jc rs0 rs wd N p)(hb:∀r∈rs0,Big N r/\r.1.length=wd)(h1:1<=N):∀r∈rs,Big (MB rs0.length N) r/\r.1.length=wd:=λr hr=>by
 obtain⟨r0,rw_,lo⟩:=h.row r hr;obtain⟨i,hi,rfl⟩:=jd hr;refine⟨?_,rw_⟩;rcases lo with g|g
 .obtain⟨pv,s,st⟩:=h.st;obtain⟨v,u,u0,ub,vb,e⟩:=st.bound h1 (Vi hb) (Np hb) (i:=i) (by rw[<- h.len];exact hi);exact yC r0 g rw_ u0 ub vb e
 .exact g.le (ady (by have:=h.len;lia) h1)
theorem Ij{rs:List Row}{p q k:Nat}{new:List Stp}(bs:Rz rs p q k new)(hp:p<rs.length)(hq:q<rs.length):(cI rs new).length=rs.length/\(∀i,i<rs.length->i≠p->rowAt (cI rs new) i=rowAt rs (sw p q i)) /\
  ((rowAt (cI rs new) p=rowAt rs q/\(rowAt rs q).1[k]?=some (rowAt rs q).2)\/∃c:Int×Int,rowAt (cI rs new) p=eE (eZ (rowAt rs q) c)/\0<c.2/\c.1*mD rs q k=c.2*(rowAt rs q).2):=by
 obtain⟨sw',tm,rfl,hs,ht⟩:=bs;have h1:(cI rs sw').length=rs.length/\∀i,i<rs.length->rowAt (cI rs sw') i=rowAt rs (sw p q i):=by
  rcases hs with⟨rfl,rfl⟩|rfl
  .refine⟨rfl,λi _=>?_⟩;unfold sw;by_cases e:i=q
   .rw[ZY e,e];rfl
   .rw[ZZ e,ZZ e];rfl
  .refine⟨zP,λi _=>?_⟩;show rowAt ((rs.set p (rowAt rs q)).set q (rowAt rs p)) i=_;rw[iD (by rw[List.length_set];exact hq),iD hp];unfold sw;by_cases e1:i=p
   .subst e1;by_cases e2:i=q
    .subst e2;rw[ZY rfl,ZY rfl]
    .rw[ZZ e2,ZY rfl,ZY rfl]
   .by_cases e2:i=q
    .subst e2;rw[ZY rfl,ZZ e1,ZY rfl]
    .rw[ZZ e2,ZZ e1,ZZ e1,ZZ e2]
 have sp:sw p q p=q:=by unfold sw;rw[ZY rfl]
 rw[xQ];rcases ht with⟨rfl,ho⟩|⟨c,rfl,hc,hk⟩
 .exact⟨h1.1,λi hi _=>h1.2 i hi,.inl ⟨by show rowAt (cI rs sw') p=_;rw[h1.2 p hp,sp],ho⟩⟩
 .have hp':p<(cI rs sw').length:=by rw[h1.1];exact hp
  have at_:∀i,rowAt (cI (cI rs sw') [.times p c]) i=if i=p then eE (eZ (rowAt (cI rs sw') p) c)else rowAt (cI rs sw') i:=λi=>iD hp';refine⟨by rw[zP];exact h1.1,λi hi ne=>by rw[at_,ZZ ne];exact h1.2 i hi,.inr ⟨c,?_,hc,hk⟩⟩;rw[at_,ZY rfl,h1.2 p hp,sp]
def w6(rs:List Row)(p k:Nat)(i j:Nat):Rat:=if i=p then vr (rowAt rs p) j else vr (rowAt rs i) j-vr (rowAt rs i) k*vr (rowAt rs p) j
theorem agJ{r:Row}{k:Nat}(h:0<r.2)(ht:r.1.getD k 0≠0):vr r k≠0:=by
 have:=eU (Int.ne_of_gt h);have:=eU ht;unfold vr
 grind
theorem aeE{r:Row}{k:Nat}(h:0<r.2)(ht:r.1[k]?=some r.2):vr r k=1:=by
 have:=eU (Int.ne_of_gt h);unfold vr;rw[au,ht];show(r.2:Rat)/(r.2:Rat)=1
 grind
theorem acL{r:Row}{k:Nat}{a:Int}(ht:r.1[k]?=some a):vr r k=(a:Rat)/(r.2:Rat):=by
 unfold vr;rw[au,ht];rfl
theorem aj1{r:Row}{k:Nat}{a:Int}{c:Ι}(h:0<r.2)(ht:r.1[k]?=some a)(hc:0<c.2)(e:c.1*r.2=-a*c.2):(c.1:Rat)/(c.2:Rat)=-(vr r k):=by
 have h1:=eU (Int.ne_of_gt h);have h2:=eU (Int.ne_of_gt hc);have h3:(c.1:Rat)*(r.2:Rat)=-(a:Rat)*(c.2:Rat):=by rw[<- XV,e,XV,Rat.intCast_neg]
 rw[acL ht]
 grind
theorem ajW{r:Row}{k:Nat}{c:Ι}(h:0<r.2)(hc:0<c.2)(e:c.1*r.1.getD k 0=c.2*r.2):(c.1:Rat)/(c.2:Rat)*vr r k=1:=by
 have h1:=eU (Int.ne_of_gt h);have h2:=eU (Int.ne_of_gt hc);have h3:(c.1:Rat)*((r.1.getD k 0:Int):Rat)=(c.2:Rat)*(r.2:Rat):=by rw[<- XV,e,XV]
 unfold vr
 grind
theorem acN{p q i m:Nat}(hp:p<m)(hq:q<m)(hi:i<m):sw p q i<m:=by
 unfold sw;split
 .exact hq
 .split<;>omega
theorem Jc.stage{rs0 rs:List Row}{wd N p q k:Nat}{new:List Stp}(h:Jc rs0 rs wd N p)(hb:∀r∈rs0,Big N r/\r.1.length=wd)(hp:p<rs0.length)(hpq:p<=q)(hq:q<rs0.length)(hk:k<wd)(ht:mD rs q k≠0)(bs:Rz rs p q k new) :
  (∃pv s,mC (aT rs0) (aB rs0) rs0.length wd (w6 (cI rs new) p k) (p+1) pv s)/\(cI rs new).length=rs0.length/\∀r∈cI rs new,0<r.2/\r.1.length=wd/\(gcL r.1 r.2=1\/Big N r):=by
 have ln:=h.len;obtain⟨bl,bo,bp⟩:=Ij bs (by lia) (by lia);have rq:=h.row _ (cC (show q<rs.length by lia));have pr:0<(rowAt (cI rs new) p).2/\(rowAt (cI rs new) p).1.length=wd/\(gcL (rowAt (cI rs new) p).1 (rowAt (cI rs new) p).2=1\/Big N (rowAt (cI rs new) p))/\∀j,vr (rowAt (cI rs new) p) j*vr (rowAt rs q) k=vr (rowAt rs q) j:=by
  rcases bp with⟨e,ho⟩|⟨c,e,hc,ec⟩
  .rw[e];refine⟨rq.1,rq.2.1,rq.2.2,λj=>?_⟩;rw[aeE rq.1 ho,Rat.mul_one]
  .rw[e];have tp:0<(eZ (rowAt rs q) c).2:=XZ rq.1 hc;refine⟨Int.ediv_pos_of_pos_of_dvd tp (XY (qu tp)) nU.1,by rw[uG];unfold eZ;rw[ak];exact rq.2.1,.inl (Fv tp),λj=>?_⟩;rw[aaO tp,X8 rq.1 hc,Rat.mul_assoc,ajW rq.1 hc ec,Rat.mul_one]
 refine⟨?_,by rw[bl,ln],λr hr=>?_⟩
 .obtain⟨pv,s,st⟩:=h.st;have s1:=st.swap hpq hq (R':=λi j=>vr (rowAt rs (sw p q i)) j) λi j _ _=>rfl;have spp:sw p q p=q:=by unfold sw;rw[ZY rfl]
  refine⟨_,_,s1.pivot hp (λi hi=>(Np hb i hi).1) hk (by show vr (rowAt rs (sw p q p)) k≠0;rw[spp];exact agJ rq.1 ht) (R':=w6 (cI rs new) p k) (λj _=>?_) λi j hi ne _=>?_⟩
  .show w6 (cI rs new) p k p j*vr (rowAt rs (sw p q p)) k=vr (rowAt rs (sw p q p)) j;unfold w6;rw[ZY rfl,spp];exact pr.2.2.2 j
  .show w6 (cI rs new) p k i j=vr (rowAt rs (sw p q i)) j-vr (rowAt rs (sw p q i)) k*w6 (cI rs new) p k p j;unfold w6;rw[ZZ ne,ZY rfl,bo i (by lia) ne]
 .obtain⟨i,hi,rfl⟩:=jd hr;rw[bl]at hi;by_cases e:i=p
  .rw[e];exact⟨pr.1,pr.2.1,pr.2.2.1⟩
  .rw[bo i hi e];exact h.row _ (cC (acN (by lia) (by lia) hi))
theorem DX{rs0 rs1:List Row}{wd N p k:Nat}(hb:∀r∈rs0,Big N r/\r.1.length=wd)(h1:1<=N)(hs:∃pv s,mC (aT rs0) (aB rs0) rs0.length wd (w6 rs1 p k) (p+1) pv s)(hl:rs1.length=rs0.length)(hr:∀r∈rs1,0<r.2/\r.1.length=wd)(hp:p<rs0.length){i:Nat}{a:Int}{c:Ι}(ne:i≠p)(hi:i<rs1.length)(ha:(rowAt rs1 i).1[k]?=some a)(hc:0<c.2)(e:c.1*(rowAt rs1 i).2=-a*c.2) :
  0<(eE (dI (rowAt rs1 i) (rowAt rs1 p) c)).2/\(eE (dI (rowAt rs1 i) (rowAt rs1 p) c)).1.length=wd/\gcL (eE (dI (rowAt rs1 i) (rowAt rs1 p) c)).1 (eE (dI (rowAt rs1 i) (rowAt rs1 p) c)).2=1/\(∀j,vr (eE (dI (rowAt rs1 i) (rowAt rs1 p) c)) j=w6 rs1 p k i j)/\Big (MB rs0.length N) (eE (dI (rowAt rs1 i) (rowAt rs1 p) c)):=by
 have ri:=hr _ (cC hi);have rp:=hr _ (cC (show p<rs1.length by lia));have tp:0<(dI (rowAt rs1 i) (rowAt rs1 p) c).2:=by
  have hB:=XZ rp.1 hc;have g0:=Ac.Il (t:=(rowAt rs1 i).2) hB;exact XZ ri.1 (Int.ediv_pos_of_pos_of_dvd hB (XY g0) (Int.gcd_dvd_right _ _))
 have pw:(eE (dI (rowAt rs1 i) (rowAt rs1 p) c)).1.length=wd:=by
  rw[uG];unfold dI;rw[List.length_zipWith,ri.2,rp.2,Nat.min_self]
 have pp:0<(eE (dI (rowAt rs1 i) (rowAt rs1 p) c)).2:=Int.ediv_pos_of_pos_of_dvd tp (XY (qu tp)) nU.1;have pv:∀j,vr (eE (dI (rowAt rs1 i) (rowAt rs1 p) c)) j=w6 rs1 p k i j:=λj=>by
  rw[aaO tp,ab8 ri.1 rp.1 hc (by rw[ri.2,rp.2]),aj1 ri.1 ha hc e];unfold w6;rw[ZZ ne]
  grind
 refine⟨pp,pw,Fv tp,pv,?_⟩;obtain⟨v',s,st⟩:=hs;obtain⟨v,u,u0,ub,vb,ee⟩:=st.bound h1 (Vi hb) (Np hb) (i:=i) (aV hi (Nat.le_of_eq hl));exact yC pp (Fv tp) pw u0 ub vb λj hj=>by rw[pv];exact ee j hj
theorem Xm{rs:List Row}{p k M wd:Nat}(hb:∀r∈rs,Big M r/\r.1.length=wd)(hp:p<rs.length)(hcl:∀i a(c:Ι),i≠p->i<rs.length->(rowAt rs i).1[k]?=some a->0<c.2->c.1*(rowAt rs i).2=-a*c.2->Big M (eE (dI (rowAt rs i) (rowAt rs p) c))/\(eE (dI (rowAt rs i) (rowAt rs p) c)).1.length=wd):∀{n:Nat}{ss:List Stp},Adds rs p k n ss ->
  (cI rs ss).length=rs.length/\AllB M wd rs ss/\(∀i,i<rs.length->(n<=i\/i=p)->rowAt (cI rs ss) i=rowAt rs i)/\∀i,i<rs.length->i<n->i≠p->(rowAt (cI rs ss) i=rowAt rs i/\(rowAt rs i).1[k]?=some 0)\/∃(c:Ι)(a:Int),rowAt (cI rs ss) i=eE (dI (rowAt rs i) (rowAt rs p) c)/\(rowAt rs i).1[k]?=some a/\0<c.2/\c.1*(rowAt rs i).2=-a*c.2:=by
 intro n ss h
 induction h with
 |nil=>exact⟨rfl,AllB.nil hb,λ_ _ _=>rfl,λi _ hi=>absurd hi (WV _)⟩
 |@skip n ss h hz ih =>
  obtain⟨i1,i2,i3,i4⟩:=ih;refine⟨i1,i2,λi hi hn=>i3 i hi (by lia),λi hi hn ne=>?_⟩;by_cases e:i<n
  .exact i4 i hi e ne
  .have e:i=n:=by lia
   subst e;rcases hz with z|z
   .exact absurd z ne
   .exact .inl ⟨i3 i hi (.inl (aG _)),z⟩
 |@add n ss c a h ne hn ha hc e ih =>
  obtain⟨i1,i2,i3,i4⟩:=ih;have hn':n<(cI rs ss).length:=by rw[i1];exact hn
  have rn:rowAt (cI rs ss) n=rowAt rs n:=i3 n hn (.inl (aG _));have rp:rowAt (cI rs ss) p=rowAt rs p:=i3 p hp (.inr rfl);have at_:∀i,rowAt (cI rs (ss++[.add n p c])) i=if i=n then eE (dI (rowAt rs n) (rowAt rs p) c)else rowAt (cI rs ss) i:=λi=>by
   rw[qx];have:rowAt (gQ (cI rs ss) (.add n p c)) i=if i=n then eE (dI (rowAt (cI rs ss) n) (rowAt (cI rs ss) p) c)else rowAt (cI rs ss) i:=iD hn';rw[this,rn,rp]
  have ln:(cI rs (ss++[.add n p c])).length=rs.length:=by rw[qx,c7];exact i1
  refine⟨ln,i2.snoc λr hr=>?_,λi hi hni=>?_,λi hi hni nei=>?_⟩
  .rw[<- qx]at hr;obtain⟨i,hi,rfl⟩:=jd hr;rw[at_];by_cases z:i=n
   .rw[ZY z];exact hcl n a c ne hn ha hc e
   .rw[ZZ z];exact i2.end_ _ (cC (by rw[ln]at hi;rw[i1];exact hi))
  .rw[at_,ZZ (by lia)];exact i3 i hi (by lia)
  .by_cases z:i=n
   .rw[at_,ZY z,z];exact .inr ⟨c,a,rfl,ha,hc,e⟩
   .rw[at_,ZZ z];exact i4 i hi (XX (Nat.le_of_lt_succ hni) z) nei
theorem Jc.next{rs0 rs:List Row}{wd N p q k:Nat}{n2 n3:List Stp}(h:Jc rs0 rs wd N p)(hb:∀r∈rs0,Big N r/\r.1.length=wd)(h1:1<=N)(hp:p<rs0.length)(hpq:p<=q)(hq:q<rs0.length)(hk:k<wd)(ht:mD rs q k≠0)(bs:Rz rs p q k n2)(ad:Adds (cI rs n2) p k rs0.length n3) :
  Jc rs0 (cI (cI rs n2) n3) wd N (p+1)/\AllB (MB rs0.length N) wd (cI rs n2) n3:=by
 obtain⟨st,bl,br⟩:=h.stage hb hp hpq hq hk ht bs;have hbM:∀r∈cI rs n2,Big (MB rs0.length N) r/\r.1.length=wd:=by
  intro r hr;obtain⟨i,hi,rfl⟩:=jd hr;obtain⟨b0,b1,b2⟩:=br _ hr;refine⟨?_,b1⟩;rcases b2 with g|g
  .by_cases e:i=p
   .subst e;obtain⟨v',s,st⟩:=st;obtain⟨v,u,u0,ub,vb,ee⟩:=st.bound h1 (Vi hb) (Np hb) (i:=i) hp;exact yC b0 g b1 u0 ub vb λj hj=>by have:=ee j hj;unfold w6 at this;rw[ZY rfl]at this;exact this
   .obtain⟨_,bo,_⟩:=Ij bs (by have:=h.len;lia) (by have:=h.len;lia);have hi':i<rs.length:=by have:=h.len;lia
    rw[bo i hi' e];exact(h.big hb h1 _ (cC (acN (by have:=h.len;lia) (by have:=h.len;lia) hi'))).1
  .exact g.le (ady (by lia) h1)
 have br':∀r∈cI rs n2,0<r.2/\r.1.length=wd:=λr hr=>⟨(br r hr).1,(br r hr).2.1⟩;have hpl:p<(cI rs n2).length:=by lia
 obtain⟨a1,a2,a3,a4⟩:=Xm hbM hpl (λi a c ne hi ha hc e=>let z:=DX hb h1 st bl br' hp ne hi ha hc e;⟨z.2.2.2.2,z.2.1⟩) ad;have vals:∀i,i<rs0.length->(∀j,vr (rowAt (cI (cI rs n2) n3) i) j=w6 (cI rs n2) p k i j)/\0<(rowAt (cI (cI rs n2) n3) i).2/\(rowAt (cI (cI rs n2) n3) i).1.length=wd/\(gcL (rowAt (cI (cI rs n2) n3) i).1 (rowAt (cI (cI rs n2) n3) i).2=1\/Big N (rowAt (cI (cI rs n2) n3) i)):=λi hi=>by
  have hi':i<(cI rs n2).length:=by lia
  by_cases e:i=p
  .rw[a3 i hi' (.inr e),e];refine⟨λj=>?_,br _ (cC hpl)⟩;unfold w6;rw[ZY rfl]
  .rcases a4 i hi' hi e with⟨x,z⟩|⟨c,a,x,ha,hc,ee⟩
   .rw[x];refine⟨λj=>?_,br _ (cC hi')⟩;unfold w6;rw[ZZ e,acL z,Rat.intCast_zero]
    grind
   .rw[x];obtain⟨z1,z2,z3,z4,_⟩:=DX hb h1 st bl br' hp e hi' ha hc ee;exact⟨z4,z1,z2,.inl z3⟩
 refine⟨⟨by rw[a1,bl],λr hr=>?_,?_⟩,a2⟩
 .obtain⟨i,hi,rfl⟩:=jd hr;exact(vals i (by rw[a1,bl]at hi;exact hi)).2
 .obtain⟨pv,s,st⟩:=st;have e:(λi j=>if i<rs0.length then vr (rowAt (cI (cI rs n2) n3) i) j else w6 (cI rs n2) p k i j)=w6 (cI rs n2) p k:=by
   funext i j
   by_cases hi:i<rs0.length
   .rw[ZY hi];exact(vals i hi).1 j
   .rw[ZZ hi]
  rw[<- e]at st;exact⟨pv,s,st.congr λi j hi=>by rw[ZY hi]⟩
open Rw
open Rw
inductive aea(rs:List Row)(wide:Nat):Nat->List Stp->Prop
 |nil:aea rs wide 0 []
 |next {j q k:Nat}{ss n2 n3:List Stp} : aea rs wide j ss->j<=q->q<rs.length->k<wide->mD (cI rs ss) q k≠0->Rz (cI rs ss) j q k n2->Adds (cI (cI rs ss) n2) j k rs.length n3->aea rs wide (j+1) (ss++n2++n3)
theorem abC{zs:List Row}{wd N:Nat}(hz:∀z∈zs,Big N z/\z.1.length=wd)(h1:1<=N):∀z∈zs,Big (MB zs.length N) z/\z.1.length=wd:=λz h=>⟨(hz z h).1.le (ady (List.length_pos_of_mem h) h1),(hz z h).2⟩
structure qX(K:Frag)(H:Hp)(xs:Μ)(fss:Φ):Prop where
 len:xs.length=fss.length
 at_:∀(k:Nat)(v:V),xs[k]?=some v->∃l ys,v=.ref l/\H l=some (.lst ys)/\FLK K H ys (fss.getD k [])
theorem qX.same{H H':Hp}{xs:Μ}{fss:Φ}(h:qX K H xs fss)(S:Same H H'):qX K H' xs fss:=⟨h.len,λk v e=>let⟨l,ys,a,b,c⟩:=h.at_ k v e;⟨l,ys,a,S _ _ b,c.same S⟩⟩
theorem qX.snoc{H:Hp}{xs:Μ}{fss:Φ}(h:qX K H xs fss){l:Addr}{ys:Μ}{fs:Ψ}(hl:H l=some (.lst ys))(hf:FLK K H ys fs):qX K H (xs++[.ref l]) (fss++[fs]):=by
 refine⟨by rw[aA,aA,h.len];rfl,λk v e=>?_⟩;by_cases hk:k<xs.length
 .rw[aF hk]at e;rw[au,aF (by rw[<- h.len];exact hk),<- au];exact h.at_ k v e
 .rw[aD (Nat.le_of_not_lt hk)]at e;have e0:k-xs.length=0:=by
   cases z:k-xs.length with
   |zero=>rfl
   |succ m=>rw[z]at e;simp at e
  rw[e0,List.getElem?_cons_zero]at e;cases e;rw[au,aD (by rw[<- h.len];exact Nat.le_of_not_lt hk),<- h.len,e0];exact⟨l,ys,rfl,hl,hf⟩
theorem qX.updL{H:Hp}{D1:Addr}{zs zs':Μ}(hD:H D1=some (.lst zs)){xs:Μ}{fss:Φ}(h:qX K H xs fss)(ne:∀(k:Nat)(l:Addr),xs[k]?=some (V.ref l)->l≠D1):qX K (upd H D1 (.lst zs')) xs fss:=by
 refine⟨h.len,λk v e=>?_⟩;obtain⟨l,ys,rfl,b,c⟩:=h.at_ k v e;exact⟨l,ys,rfl,(bL (ne k l e)).trans b,c.updL hD⟩
open Rw
structure ad9(H H':Hp)(t:Addr)(fss:Φ)(wide wd N:Nat)(ls p:Addr)(zs:Μ)(new:List Stp)(pl:Nat)(pv:Nat->Nat):Prop where
 same:Same H H'
 tup:H' t=some (.tup [.ref ls,.ref p])
 hp:H' p=some (.lst zs)
 fr:FRs H' zs ((cI (fss.map lvR) new).map rep)
 good:∀s∈new,Es fss.length s
 form:Form (cI (fss.map lvR) new) pl wide pv
 len:(cI (fss.map lvR) new).length=fss.length
 pln:pl<=fss.length
 all:AllB NN wd (fss.map lvR) new
 big:∀r∈cI (fss.map lvR) new,Big (MB fss.length N) r/\r.1.length=wd
def Gp(K:Frag):Sp:=λvs H Q _=>∃(l:Addr)(xs:Μ)(fss:Φ)(wide wd N:Nat),vs=[.ref l,.int wide]/\H l=some (.lst xs)/\qX K H xs fss/\(∀fs∈fss,fs.length=wd/\(∀f∈fs,Fq f)/\Big N (lvR fs))/\1<=N/\MB fss.length N<=NN/\wide<=wd/\wd<=41/\fss.length<=20 /\
 ∀t ls p zs H' new pl pv,ad9 H H' t fss wide wd N ls p zs new pl pv->Q (.ref t) H'
structure ag0(l D1 D2:Addr)(wide wd N:Nat)(fss:Φ)(H:Hp)(c:Nat)(H':Hp)(pl:Nat)(pv:Nat->Nat)(xs' ys':Μ)(new:List Stp):Prop where
 same:Same H H'
 red:Red D1 D2 H' xs' ys' (cI (fss.map lvR) new) new
 good:∀s∈new,Es fss.length s
 many:new.length<=pl*(fss.length+2)
 form:Form (cI (fss.map lvR) new) pl c pv
 len:(cI (fss.map lvR) new).length=fss.length
 pln:pl<=fss.length
 big:∀r∈cI (fss.map lvR) new,Big (MB fss.length N) r/\r.1.length=wd
 st:Jc (fss.map lvR) (cI (fss.map lvR) new) wd N pl
 all:AllB NN wd (fss.map lvR) new
def jR(l D1 D2:Addr)(wide wd N:Nat)(fss:Φ)(H:Hp)(c:Nat)(σ:L2.St)(H':Hp):Prop:=∃(pl:Nat)(pv:Nat->Nat)(xs' ys':Μ)(new:List Stp)(u v:Option V),σ=[some (.ref l),some (.int wide),some (.ref D1),some (.ref D2),some (.int pl),u,v]/\ag0 l D1 D2 wide wd N fss H c H' pl pv xs' ys' new
theorem U5(F:Fun K uH uH yq f fd)(T:Txt K mg D)(Bq:OkF P w K mg base 2 tu tY (DR K))(uF:OkF P w K mg base 1 oF n_ zG)(wJ:OkF P w K mg base 6 pA p8 Ci)(qN:OkF P w K mg base 6 kW lA uW)(qD:OkF P w K mg base 3 k_ lC uV):cJ P w K mg base CX0 7 f fd t_ (Gp K):=by
 refine F.ok lD ?_ ?_
 .rintro _ _ _ _ ⟨l,xs,fss,wide,wd,N,rfl,_⟩;rfl
 .rintro cdv A outer s H _ Q E hr ⟨l,xs,fss,wide,wd,N,rfl,hl,fr,hf,h1,hN,hwi,hwd,hn,q⟩;refine⟨_,(bI (yh (bQ yq) DY DY ["row"] (cV (pv 0).mono) (dH (i:=0)) cU (bR Bq hr.md (bF pv0)) (cB (i:=2) lD.nd))
   (bI (bZ (i:=3) lD.nd (jw oW))
   (bI (bZ (i:=4) lD.nd bK)
   (bI (fL PassesOwn.never rfl (eF T.gY (bF pv1).mono) (cB (i:=5) lD.nd)
    (bI (bZ (i:=6) lD.nd (bR uF hr.md (bF pv2 (bF pv4 (bF pv5)))))
    (bO (cW (cD yt pv6 mX (cH _))
     (bI (cX (bR wJ hr.md (bF pv2 (bF pv3 (bF pv4 (bF pv6 (bF pv5)))))))
     (bI (cX (bR qN hr.md (bF pv2 (bF pv3 (bF pv4 (bF pv5))))))
     (bO (adZ (i:=4) lD.nd rfl (Or.inl rfl) bK adU))))
     cF))))
   (bO (cg (gO (bF pv3 (bF (bR qD hr.md (bF pv2))))))))))),?_⟩
  have hq:∀fs∈fss,∀f∈fs,Fq f:=λfs h=>(hf fs h).2.1;refine cL (cM ?_);refine⟨_,rfl,l,xs,rfl,hl,by rw[fr.len];exact aM hn (by decide),λD1 hD=>⟨jW D1 fss H,⟨Same.upd hD,bG,rfl,λk v e=>by simp at e⟩,?_,?_⟩⟩
  .rintro k v zs Hc hk ⟨S1,hD1,ln,lrn⟩ hzl hlc;have hkf:k<fss.length:=by rw[<- fr.len];exact(ao.mp hk).1
   have ef:fss[k]?=some fss[k]:=aj hkf;obtain⟨l1,vs,rfl,h1',fl⟩:=fr.at_ k v hk;rw[au,ef]at fl;have fl:FLK K H vs fss[k]:=fl;have hm:=aW hkf;have w1:=(hf _ hm).1;have q1:=hq _ hm;generalize fss[k]=fs at *;refine⟨_,rfl,l1,vs,fs,rfl,S1 _ _ h1',fl.same S1,q1,by exact aM (Nat.le_of_eq w1) hwd,λD2 p hD2 hp=>?_⟩;have T1:Same Hc (upd Hc D2 (.lst ((lvT fs).map V.int))):=Same.upd hD2;have T2:Same (upd Hc D2 (.lst ((lvT fs).map V.int))) (upd (upd Hc D2 (.lst ((lvT fs).map V.int))) p (.tup [.ref D2,.int (lvB fs:Nat)])):=Same.upd hp;have e1:=T2 D2 _ bG;have e2:upd (upd Hc D2 (.lst ((lvT fs).map V.int))) p (.tup [.ref D2,.int (lvB fs:Nat)]) p=some (.tup [.ref D2,.int (lvB fs:Nat)]):=bG;have nD:D2≠D1:=(bH hD1 hD2).symm;generalize upd (upd Hc D2 (.lst ((lvT fs).map V.int))) p (.tup [.ref D2,.int (lvB fs:Nat)])=Hn at T2 e1 e2 ⊢;have T3:=T1.trans T2;have hDn:=T3 _ _ hD1;refine⟨hDn,T3 _ _ hlc,?_,bG,?_,?_⟩
   .intro b' o' e';rw[bL (bH e' hD)];exact T3 _ _ (S1 _ _ e')
   .rw[aA,ln,cj ef,bC,aA];rfl
   .intro j u e;rw[cj ef,bC,show List.map lvR [fs]=[lvR fs]from rfl];by_cases hj:j<zs.length
    .rw[aF hj]at e;obtain⟨t,lr,a1,a2,a3,a4⟩:=lrn j u e;rw[Us (by rw[<- ln];exact hj)];exact⟨t,lr,a1,(bL (d8 (T3 _ _ a2) hDn)).trans (T3 _ _ a2),(bL a4).trans (T3 _ _ a3),a4⟩
    .rw[aD (Nat.le_of_not_lt hj)]at e;have e0:j-zs.length=0:=by
      cases e3:j-zs.length with
      |zero=>rfl
      |succ m=>rw[e3]at e;simp at e
     rw[e0,List.getElem?_cons_zero]at e;cases e;have ej:j=((fss.take k).map lvR).length:=by rw[<- ln];lia
     rw[ej,Tv];exact⟨p,D2,rfl,(bL (d8 e2 hDn)).trans e2,(bL nD).trans e1,nD⟩
  .rintro zs Hc ⟨S1,hD1,ln,lrn⟩ hzl;rw[fr.len,aQ]at ln lrn;have lr0:LR Hc zs (fss.map lvR):=⟨ln,λk v e=>let⟨t,lr,a1,a2,a3,_⟩:=lrn k v e;⟨t,lr,a1,a2,a3⟩⟩;have b0:∀r∈fss.map lvR,Big N r/\r.1.length=wd:=λr hr=>by
    obtain⟨fs,h,rfl⟩:=YV.mp hr;exact⟨(hf fs h).2.2,by rw[abk];exact(hf fs h).1⟩
   have bM:∀r∈fss.map lvR,Big (MB fss.length N) r/\r.1.length=wd:=by
    have:=abC b0 h1;rw[ak]at this;exact this
   refine⟨bA _,λD2 hD2=>gK (qz ?_)⟩;refine⟨_,rfl,wide,rfl,by lia,jR l D1 D2 wide wd N fss H,⟨0,λ_=>0,zs,[],[],none,none,rfl,?_⟩,?_,?_⟩
   .have S2:Same Hc (upd Hc D2 (.lst [])):=Same.upd hD2;exact⟨S1.trans S2,⟨S2 _ _ hD1,lr0.same S2,bG,⟨rfl,λk s e=>by simp at e⟩,(bH hD1 hD2).symm⟩,λs hs=>absurd hs List.not_mem_nil,bA _,⟨λi hi=>absurd hi (WV _),λi j _ hj=>absurd hj (WV _),λi _ _ j hj=>absurd hj (WV _)⟩,ak _,bA _,bM,Jc.zero b0,(AllB.nil bM).le hN⟩
   .rintro c σ' H1 hc ⟨pl,pv,xs1,ys1,new,u,v,rfl,M⟩;have hD2':H D2=none:=S1.free hD2;have nm:new.length<=500:=aM M.many (aM (Nat.mul_le_mul M.pln (aG _)) (aM (Nat.mul_le_mul hn (Nat.add_le_add_right hn 2)) (by decide)));have fn:=M.form;have ln1:=M.len;have hc':c<wd:=by exact aV hc hwi
    generalize hr1:cI (fss.map lvR) new=rs1 at *;refine⟨_,rfl,_,rfl,_,rfl,D1,xs1,rs1,pl,c,wd,rfl,M.red.hl,by rw[<- hr1];exact M.red.lr,λr hr=>(M.big r (by rw[hr1];exact hr)).2,hc',by have:=M.pln;lia,by lia,λi hi hil ht _=>?_,λz=>?_⟩
    .refine⟨_,rfl,rfl,_,rfl,pB (λ_=>?_) λh=>absurd rfl h⟩;have pn:pl<fss.length:=by lia
     refine⟨_,rfl,_,rfl,_,rfl,_,rfl,_,rfl,D1,D2,xs1,ys1,rs1,new,pl,i,c,MB fss.length N,wd,rfl,by rw[<- hr1];exact M.red,by exact aM nm (by decide),by rw[<- hr1];exact M.big,hN,by exact aM hwd (by decide),hc',by exact Y3 hi hil,hil,ht,λH2 xs2 ys2 new2 of2 rd2 n2 gd2 bg ab2 bs=>?_⟩;have l2:=bg.len;have st1:=M.st;rw[hr1]at st1;have lm:(fss.map lvR).length=fss.length:=ak _;have sg:=st1.stage b0 (by lia) hi (by lia) hc' ht bs;generalize hr2:cI rs1 new2=rs2 at *;refine⟨_,rfl,_,rfl,_,rfl,_,rfl,D1,D2,xs2,ys2,rs2,new++new2,pl,c,MB fss.length N,wd,rfl,rd2,by rw[aA];lia,bg.big,λi a c' ne hil' ha hc2 e=>by
      have:=(DX b0 h1 sg.1 sg.2.1 (λr hr=>⟨(sg.2.2 r hr).1,(sg.2.2 r hr).2.1⟩) (by lia) ne hil' ha hc2 e).2.2.2.2;rw[lm]at this;exact this,hN,by exact aM hwd (by decide),hc',by lia,by lia,bg.one,λH3 xs3 ys3 new3 of3 rd3 n3 gd3 cd bg3 ab3 ad=>?_⟩
     refine⟨_,rfl,_,_,rfl,rfl,pl+1,(λi=>if i=pl then c else pv i),xs3,ys3,new++new2++new3,_,_,rfl,?_⟩;have er:cI (fss.map lvR) (new++new2++new3)=cI rs2 new3:=by rw[xQ,xQ,hr1,hr2]
     refine⟨λb o e=>of3 b o (bH e hD) (bH e hD2') (of2 b o (bH e hD) (bH e hD2') (M.same b o e)),by rw[er];exact rd3,λs hs=>?_,?_,by rw[er];exact fn.next hi hil bg cd,by rw[er,cd.len,l2];exact ln1,by exact pn,by rw[er];exact bg3,by rw[er,<- hr2];exact(st1.next b0 h1 (by lia) hi (by lia) hc' ht bs (by rw[hr2,lm,<- ln1,<- l2];exact ad)).1,(M.all.app (by rw[hr1];exact ab2.le hN)).app (by rw[xQ,hr1,hr2];exact ab3.le hN)⟩
     .rcases Y1.mp hs with y|y
      .rcases Y1.mp y with y|y
       .exact M.good s y
       .rw[<- ln1];exact gd2 s y
      .rw[<- ln1,<- l2];exact gd3 s y
     .rw[aA,aA,Nat.succ_mul];have:=M.many;generalize pl*(fss.length+2)=m at *;lia
    .refine⟨_,rfl,rfl,_,rfl,pB (λh=>absurd h (by decide)) λ_=>?_⟩;refine⟨pl,pv,xs1,ys1,new,_,_,rfl,M.same,M.red,M.good,M.many,?_,M.len,M.pln,M.big,M.st,M.all⟩;rw[hr1];refine fn.skip λj hj hl=>?_;have hb:=(M.big (rowAt rs1 j) (by rw[hr1];exact cC hl)).2;have:=z j hj hl;unfold mD at this;rw[au,aj (by rw[hb];exact hc')]at this;rw[aj (by rw[hb];exact hc')];exact ZH some this
   .rintro σ' H1 ⟨pl,pv,xs1,ys1,new,u,v,rfl,M⟩;have bN:∀r∈cI (fss.map lvR) new,Big NN r/\r.1.length=wd:=λr hr=>⟨(M.big r hr).1.le hN,(M.big r hr).2⟩;refine⟨_,rfl,_,rfl,D1,xs1,_,wd,rfl,M.red.hl,M.red.lr,bN,by exact aM hwd (by decide),by rw[M.len];exact aM hn (by decide),λp zs2 H2 S2 hp hz fr2 nw=>⟨fQ,λt ht=>?_⟩⟩;have S3:Same H2 (upd H2 t (.tup [.ref D2,.ref p])):=Same.upd ht;exact q t D2 p zs2 _ new pl pv ⟨(M.same.trans S2).trans S3,bG,S3 _ _ hz,fr2.same S3,M.good,M.form,M.len,M.pln,M.all,M.big⟩
open Rw
noncomputable def iM:List Int->(Nat->Int)->Int
 |[],_=>0
 |t::ts,y=>t*y 0+iM ts λi=>y (i+1)
theorem Wx{c:Int} : ∀{ts:List Int}{y:Nat->Int},iM (ts.map λt=>t*c) y=iM ts y*c
 |[],_=>by show(0:Int)=0*c;rw[Int.zero_mul]
 |t::ts,y=>by
  show t*c*y 0+iM (ts.map λt=>t*c) (λi=>y (i+1))=(t*y 0+iM ts λi=>y (i+1))*c;rw[Wx,Int.add_mul]
  congr 1
  ac_rfl
theorem Vy{g:Int} : ∀{ts:List Int}{y:Nat->Int},(∀t∈ts,g ∣ t)->iM (ts.map λt=>t/g) y*g=iM ts y
 |[],_,_=>Int.zero_mul g
 |t::ts,y,h=>by
  show(t/g*y 0+iM (ts.map λt=>t/g) λi=>y (i+1))*g=t*y 0+iM ts λi=>y (i+1);rw[Int.add_mul,Vy λu hu=>h u (aJ _ hu),Int.mul_right_comm,Int.ediv_mul_cancel (h t aP)]
theorem WD{u v:Int} : ∀{ts ss:List Int}{y:Nat->Int},ts.length=ss.length->iM (List.zipWith (λa b=>a*u+b*v) ts ss) y=iM ts y*u+iM ss y*v
 |[],[],_,_=>by show(0:Int)=0*u+0*v;rw[Int.zero_mul,Int.zero_mul];rfl
 |t::ts,s::ss,y,h=>by
  show(t*u+s*v)*y 0+iM (List.zipWith (λa b=>a*u+b*v) ts ss) (λi=>y (i+1))=(t*y 0+iM ts λi=>y (i+1))*u+(s*y 0+iM ss λi=>y (i+1))*v;rw[WD (by simpa using h),Int.add_mul,Int.add_mul,Int.add_mul,Int.mul_right_comm t,Int.mul_right_comm s];lia
theorem Gz:∀{ts:List Int}{y:Nat->Int},(∀(j:Nat)t,ts[j]?=some t->t*y j=0)->iM ts y=0
 |[],_,_=>rfl
 |t::ts,y,h=>by
  show t*y 0+iM ts (λi=>y (i+1))=0;rw[h 0 t rfl,Gz λj u hu=>h (j+1) u (by simpa using hu)];rfl
theorem Oi:∀{ts:List Int}{y:Nat->Int}{k:Nat}{t:Int},ts[k]?=some t->(∀(j:Nat)u,j≠k->ts[j]?=some u->u*y j=0)->iM ts y=t*y k
 |[],_,k,_,h,_=>by simp at h
 |t::ts,y,0,u,h,z=>by
  simp at h;show t*y 0+iM ts (λi=>y (i+1))=u*y 0;rw[Gz λj v hv=>z (j+1) v (Nat.succ_ne_zero _) (by simpa using hv),h,Int.add_zero]
 |t::ts,y,k+1,u,h,z=>by
  show t*y 0+iM ts (λi=>y (i+1))=u*y (k+1);rw[z 0 t (by lia) rfl,Oi (k:=k) (by simpa using h) λj v hj hv=>z (j+1) v (by lia) (by simpa using hv),Int.zero_add]
theorem Ly:∀{ts:List Int}{y:Nat->Int}{k c:Nat}{t s:Int},k≠c->ts[k]?=some t->ts[c]?=some s->(∀(j:Nat)u,j≠k->j≠c->ts[j]?=some u->u*y j=0)->iM ts y=t*y k+s*y c
 |[],_,k,_,_,_,_,h,_,_=>by simp at h
 |t::ts,y,0,0,_,_,e,_,_,_=>absurd rfl e
 |t::ts,y,0,c+1,u,v,e,h,h2,z=>by
  simp at h;show t*y 0+iM ts (λi=>y (i+1))=u*y 0+v*y (c+1);rw[Oi (k:=c) (by simpa using h2) λj w hj hw=>z (j+1) w (Nat.succ_ne_zero _) (by lia) (by simpa using hw),h]
 |t::ts,y,k+1,0,u,v,e,h,h2,z=>by
  simp at h2;show t*y 0+iM ts (λi=>y (i+1))=u*y (k+1)+v*y 0;rw[Oi (k:=k) (by simpa using h) λj w hj hw=>z (j+1) w (by lia) (Nat.succ_ne_zero _) (by simpa using hw),h2,Int.add_comm]
 |t::ts,y,k+1,c+1,u,v,e,h,h2,z=>by
  show t*y 0+iM ts (λi=>y (i+1))=u*y (k+1)+v*y (c+1);rw[z 0 t (by lia) (by lia) rfl,Ly (k:=k) (c:=c) (by lia) (by simpa using h) (by simpa using h2) λj w hj hj2 hw=>z (j+1) w (by lia) (by lia) (by simpa using hw),Int.zero_add]
theorem V_{r:Row}(h:0<r.2){y:Nat->Int}(z:iM (eE r).1 y=0):iM r.1 y=0:=by
 have e:=Vy (g:=gcL r.1 r.2) (ts:=r.1) (y:=y) nU.2;have z:iM (r.1.map λt=>t/gcL r.1 r.2) y=0:=z;rw[z,Int.zero_mul]at e;exact e.symm
theorem Xg{r:Row}{c:Ι}(h:c.1≠0){y:Nat->Int}(z:iM (eZ r c).1 y=0):iM r.1 y=0:=by
 have z:iM (r.1.map λt=>t*c.1) y=0:=z;rw[Wx]at z;exact(Int.mul_eq_zero.mp z).resolve_right h
theorem YF{r p:Row}{c:Ι}(h:0<r.2)(hp:0<p.2)(hc:0<c.2)(hl:r.1.length=p.1.length){y:Nat->Int}(zp:iM p.1 y=0)(z:iM (dI r p c).1 y=0):iM r.1 y=0:=by
 have z:iM (List.zipWith (λa b=>a*(p.2*c.2/((Int.gcd r.2 (p.2*c.2):Nat):Int))+b*(r.2/((Int.gcd r.2 (p.2*c.2):Nat):Int)*c.1)) r.1 p.1) y=0:=z;have hB:=XZ hp hc;have own:0<p.2*c.2/((Int.gcd r.2 (p.2*c.2):Nat):Int):=Int.ediv_pos_of_pos_of_dvd hB (XY (Ac.Il hB)) (Int.gcd_dvd_right _ _);rw[WD hl,zp,Int.zero_mul,Int.add_zero]at z;exact(Int.mul_eq_zero.mp z).resolve_right (Int.ne_of_gt own)
def yU(rs:List Row)(y:Nat->Int):Prop:=∀i,i<rs.length->iM (rowAt rs i).1 y=0
theorem Ys{rs:List Row}{st:Stp}{wd:Nat}{y:Nat->Int}(hb:∀r∈rs,Big NN r/\r.1.length=wd)(sg:Es rs.length st)(h:yU (gQ rs st) y):yU rs y:=by
 cases st with
 |swap i j =>
  obtain⟨hi,hj⟩:=sg;intro k hk;by_cases e:k=i
  .have:=h j (by rw[c7];exact hj);rw[yF hi hj,ZY rfl]at this;rw[e];exact this
  .by_cases e2:k=j
   .have:=h i (by rw[c7];exact hi);rw[yF hi hj]at this;by_cases e3:i=j
    .rw[ZY e3]at this;rw[e2,<- e3];exact this
    .rw[ZZ e3,ZY rfl]at this;rw[e2];exact this
   .have:=h k (by rw[c7];exact hk);rw[yF hi hj,ZZ e2,ZZ e]at this;exact this
 |times i c =>
  obtain⟨hi,fn,_,c0⟩:=sg;intro k hk;have:=h k (by rw[c7];exact hk);have at_:rowAt (gQ rs (.times i c)) k=if k=i then eE (eZ (rowAt rs i) c)else rowAt rs k:=iD hi;rw[at_]at this;by_cases e:k=i
  .rw[ZY e]at this;rw[e];exact Xg c0 (V_ (r:=eZ (rowAt rs i) c) (XZ (hb _ (cC hi)).1.pos fn.pos) this)
  .rw[ZZ e]at this;exact this
 |add i j c =>
  obtain⟨hi,hj,ne,fn,_⟩:=sg;have at_:∀k,rowAt (gQ rs (.add i j c)) k=if k=i then eE (dI (rowAt rs i) (rowAt rs j) c)else rowAt rs k:=λk=>iD hi;have zj:=h j (by rw[c7];exact hj);rw[at_,ZZ (λz=>ne z.symm)]at zj;intro k hk;have:=h k (by rw[c7];exact hk);rw[at_]at this;by_cases e:k=i
  .rw[ZY e]at this;rw[e];have bi:=hb _ (cC hi);have bj:=hb _ (cC hj);have hB:=XZ bj.1.pos fn.pos;have pp:0<(dI (rowAt rs i) (rowAt rs j) c).2:=XZ bi.1.pos (Int.ediv_pos_of_pos_of_dvd hB (XY (Ac.Il hB)) (Int.gcd_dvd_right _ _));exact YF bi.1.pos bj.1.pos fn.pos (by rw[bi.2,bj.2]) zj (V_ pp this)
  .rw[ZZ e]at this;exact this
theorem Wa{wd:Nat}{y:Nat->Int} : ∀{ss:List Stp}{rs:List Row},AllB NN wd rs ss->(∀s∈ss,Es rs.length s)->yU (cI rs ss) y->yU rs y
 |[],_,_,_,h=>h
 |s::ss,rs,ab,ok,h=>by
  have h0:∀r∈rs,Big NN r/\r.1.length=wd:=λr hr=>ab 0 r hr;exact Ys h0 (ok s aP) (Wa (ss:=ss) (rs:=gQ rs s) (λk=>ab (k+1)) (λz hz=>by rw[c7];exact ok z (aJ _ hz)) h)
open Rw
theorem aaF(y:Nat->Int):∀{n:Nat},0<n->∃m,m<n/\∀j,j<n->(y j).natAbs<=(y m).natAbs
 |0,h=>absurd h (X9 _)
 |1,_=>⟨0,by omega,λj hj=>by rw[show j=0 by exact Nat.eq_zero_of_le_zero (Nat.le_of_lt_succ hj)];exact aG _⟩
 |n+2,_=>by
  obtain⟨m,hm,h⟩:=aaF y (n:=n+1) (Nat.succ_pos _);by_cases e:(y (n+1)).natAbs<=(y m).natAbs
  .refine⟨m,by exact Nat.lt_trans hm (X1 _),λj hj=>?_⟩;by_cases z:j=n+1
   .rw[z];exact e
   .exact h j (XX (Nat.le_of_lt_succ hj) z)
  .refine⟨n+1,by exact X1 _,λj hj=>?_⟩;by_cases z:j=n+1
   .rw[z];exact aG _
   .have:=h j (XX (Nat.le_of_lt_succ hj) z);lia
noncomputable def pvi(piv:Nat->Nat):Nat->Nat->Option Nat
 |0,_=>none
 |k+1,j=>if piv k=j then some k else pvi piv k j
theorem I_{piv:Nat->Nat} : ∀{p j i:Nat},pvi piv p j=some i->i<p/\piv i=j
 |0,_,_,h=>by cases h
 |p+1,j,i,h=>by
  unfold pvi at h;split at h
  .rename_i e
   cases h;exact⟨by exact X1 _,e⟩
  .have:=I_ h;exact⟨by lia,this.2⟩
theorem Ze{piv:Nat->Nat}{i:Nat} : ∀{p:Nat},i<p->(∀a b,a<b->b<p->piv a<piv b)->pvi piv p (piv i)=some i
 |0,h,_=>absurd h (WV _)
 |p+1,h,o=>by
  unfold pvi;by_cases e:i=p
  .rw[e,ZY rfl]
  .have:=o i p (XX (Nat.le_of_lt_succ h) e) (X1 _);rw[ZZ (Nat.ne_of_gt this)];exact Ze (XX (Nat.le_of_lt_succ h) e) λa b ha hb=>o a b ha (WU _ hb)
theorem Zf{piv:Nat->Nat}{p n:Nat}(hp:p<n)(o:∀a b,a<b->b<p->piv a<piv b):∃c,c<n/\∀i,i<p->piv i≠c:=by
 have key:∀m,m<=p->(∀i,i<m->piv i=i)\/∃c,c<n/\∀i,i<p->piv i≠c:=by
  intro m
  induction m with
  |zero=>exact λ_=>.inl λi hi=>absurd hi (WV _)
  |succ m ih =>
   intro hm;rcases ih (aM (Xs _) hm)with h|h
   .by_cases e:piv m=m
    .refine .inl λi hi=>?_;by_cases z:i=m
     .rw[z];exact e
     .exact h i (XX (Nat.le_of_lt_succ hi) z)
    .refine .inr ⟨m,by lia,λi hi z=>?_⟩;have gt:m<piv m:=by
      cases m with
      |zero=>exact Nat.pos_of_ne_zero e
      |succ m =>
       have:=o m (m+1) (X1 _) (aV (X1 _) hm);have:=h m (X1 _);lia
     rcases Nat.lt_trichotomy i m with c|c|c
     .have:=h i c;lia
     .rw[c]at z;exact e z
     .have:=o m i c hi;lia
   .exact .inr h
 rcases key p (aG _)with h|h
 .exact⟨p,hp,λi hi z=>by have:=h i hi;lia⟩
 .exact h
noncomputable def yZ(b:Nat->Int):Nat->Int
 |0=>1
 |k+1=>yZ b k*b k
theorem DG{b:Nat->Int} : ∀{p:Nat},(∀i,i<p->0<b i)->0<yZ b p
 |0,_=>(by decide:(0:Int)<1)
 |p+1,h=>XZ (DG λi hi=>h i (WU _ hi)) (h p (X1 _))
theorem yp{b:Nat->Int}{i:Nat} : ∀{p:Nat},i<p->b i ∣ yZ b p
 |0,h=>absurd h (WV _)
 |p+1,h=>by
  by_cases e:i=p
  .rw[e];exact⟨yZ b p,Int.mul_comm _ _⟩
  .exact Int.dvd_trans (yp (p:=p) (XX (Nat.le_of_lt_succ h) e)) ⟨b p,rfl⟩
def fyc(rs:List Row)(piv:Nat->Nat)(p c:Nat)(B:Int)(j:Nat):Int:=if j=c then B else match pvi piv p j with|some i=>-((rowAt rs i).1.getD c 0*(B/(rowAt rs i).2))|none=>0
theorem Te{rs:List Row}{piv:Nat->Nat}{p c j:Nat}{B:Int}(h:j≠c)(e:pvi piv p j=none):fyc rs piv p c B j=0:=by
 unfold fyc;rw[ZZ h,e]
theorem Zu{rs:List Row}{piv:Nat->Nat}{p c j i:Nat}{B:Int}(h:j≠c)(e:pvi piv p j=some i):fyc rs piv p c B j=-((rowAt rs i).1.getD c 0*(B/(rowAt rs i).2)):=by
 unfold fyc;rw[ZZ h,e]
theorem YJ{rs:List Row}{p n:Nat}{piv:Nat->Nat}(fm:Form rs p n piv)(hp:p<n)(hpn:p<=rs.length)(hl:∀r∈rs,0<r.2/\r.1.length=n+1):∃(y:Nat->Int)(c:Nat),c<n/\y c≠0/\y n=0/\yU rs y:=by
 obtain⟨c,hc,nc⟩:=Zf hp fm.ord;have bp:∀i,i<p->0<(rowAt rs i).2:=λi hi=>(hl _ (cC (aV hi hpn))).1;have B0:=DG (b:=λi=>(rowAt rs i).2) bp;have Bd':∀i,i<p->(rowAt rs i).2 ∣ yZ (λi=>(rowAt rs i).2) p:=λi hi=>yp (b:=λi=>(rowAt rs i).2) hi;generalize yZ (λi=>(rowAt rs i).2) p=B at B0 Bd';have yc:fyc rs piv p c B c=B:=ZY rfl;have yn:fyc rs piv p c B n=0:=by
  cases e:pvi piv p n with
  |none=>exact Te (Nat.ne_of_gt hc) e
  |some i =>
   obtain⟨a,b⟩:=I_ e;have:=(fm.head i a).1;lia
 refine⟨fyc rs piv p c B,c,hc,by rw[yc];exact Int.ne_of_gt B0,yn,λi hi=>?_⟩;have li:=(hl _ (cC hi)).2;by_cases ip:i<p
 .obtain⟨a1,a2,a3,a4⟩:=fm.head i ip;have tc:(rowAt rs i).1[c]?=some ((rowAt rs i).1.getD c 0):=by rw[au,aj (by lia)];rfl
  rw[Ly (nc i ip) a3 tc λj u hj hjc hu=>?_]
  .rw[yc,Zu (nc i ip) (Ze ip fm.ord),Int.mul_neg,Int.mul_left_comm,Int.mul_ediv_cancel' (Bd' i ip)];lia
  .cases e:pvi piv p j with
   |none=>rw[Te hjc e,Int.mul_zero]
   |some k =>
    obtain⟨x1,x2⟩:=I_ e;have ki:k≠i:=λz=>hj (by rw[<- x2,z]);have:=(fm.head k x1).2.2.2 i hi (λz=>ki z.symm);rw[x2]at this;rw[this]at hu;cases hu;exact Int.zero_mul _
 .refine Gz λj t ht=>?_;by_cases e:j<n
  .rw[fm.rest i (Nat.le_of_not_lt ip) hi j e]at ht;cases ht;exact Int.zero_mul _
  .have jl:j<(rowAt rs i).1.length:=(ao.mp ht).1;have:j=n:=by lia
   rw[this,yn,Int.mul_zero]
open Rw
theorem Yk{piv:Nat->Nat}{p:Nat}(o:∀a b,a<b->b<p->piv a<piv b)(hb:∀i,i<p->piv i<p):∀i,i<p->piv i=i:=by
 have lo:∀i,i<p->i<=piv i:=λi=>by
  induction i with
  |zero=>exact λ_=>bA _
  |succ i ih =>
   intro hi;have:=ih (Nat.lt_trans (X1 _) hi);have:=o i (i+1) (X1 _) hi;lia
 have hi:∀k,k<p->piv (p-1-k)+k<=p-1:=λk=>by
  induction k with
  |zero =>
   intro h;have:=hb (p-1-0) (by omega);omega
  |succ k ih =>
   intro h;have a:=ih (Nat.lt_trans (X1 _) h);have b:=o (p-1-(k+1)) (p-1-k) (by omega) (by omega);lia
 intro i h;have a:=lo i h;have b:=hi (p-1-i) (by omega);rw[show p-1-(p-1-i)=i by omega]at b;lia
def yV(rs:List Row)(n:Nat):Int:=yZ (λi=>(rowAt rs i).2) n
def J7(rs:List Row)(n j:Nat):Int:=if j=n then -yV rs n else(rowAt rs j).1.getD n 0*(yV rs n/(rowAt rs j).2)
theorem Ub{rs:List Row}{n:Nat} : J7 rs n n=-yV rs n:=ZY rfl
theorem V5{rs:List Row}{n j:Nat}(h:j<n):J7 rs n j=(rowAt rs j).1.getD n 0*(yV rs n/(rowAt rs j).2):=ZZ (aU h)
theorem aad{rs:List Row}{n:Nat}(hn:rs.length=n)(hl:∀r∈rs,0<r.2/\r.1.length=n+1):0<yV rs n:=DG λi hi=>(hl _ (cC (by lia))).1
theorem abQ{rs:List Row}{n:Nat}{piv:Nat->Nat}(fm:Form rs n n piv)(hn:rs.length=n)(hl:∀r∈rs,0<r.2/\r.1.length=n+1):yU rs (J7 rs n):=by
 have id':=Yk fm.ord λi hi=>(fm.head i hi).1;intro i hi;have hi:i<n:=by exact aV hi (Nat.le_of_eq hn)
 have li:=(hl _ (cC (show i<rs.length by omega))).2;have a3:=(fm.head i hi).2.2.1;rw[id' i hi]at a3;have tc:(rowAt rs i).1[n]?=some ((rowAt rs i).1.getD n 0):=by rw[au,aj (by lia)];rfl
 rw[Ly (show i≠n by exact aU hi) a3 tc λj u hj hjn hu=>?_]
 .have d:(rowAt rs i).2*(yV rs n/(rowAt rs i).2)=yV rs n:=Int.mul_ediv_cancel' (yp (b:=λi=>(rowAt rs i).2) hi);rw[Ub,V5 hi,Int.mul_left_comm,d,Int.mul_neg];lia
 .have jl:j<(rowAt rs i).1.length:=(ao.mp hu).1;have jn:j<n:=by lia
  have:=(fm.head j jn).2.2.2 i (by omega) (λz=>hj z.symm);rw[id' j jn]at this;rw[this]at hu;cases hu;exact Int.zero_mul _
theorem aem{rs:List Row}{n j:Nat}(h:j<n)(hn:rs.length=n)(hl:∀r∈rs,0<r.2/\r.1.length=n+1):J7 rs n j*(Ac.lw ((rowAt rs j).1.getD n 0) (rowAt rs j).2).2=(Ac.lw ((rowAt rs j).1.getD n 0) (rowAt rs j).2).1*yV rs n:=by
  have b0:=(hl _ (cC (show j<rs.length by lia))).1;have e:=Ac.tD (t:=(rowAt rs j).1.getD n 0) b0;have d:=Int.mul_ediv_cancel' (yp (b:=λi=>(rowAt rs i).2) h);rw[V5 h];show(rowAt rs j).1.getD n 0*(yZ (λi=>(rowAt rs i).2) n/(rowAt rs j).2)*_=_*yZ (λi=>(rowAt rs i).2) n;generalize yZ (λi=>(rowAt rs i).2) n=B at *;generalize Ac.lw ((rowAt rs j).1.getD n 0) (rowAt rs j).2=x at *;generalize(rowAt rs j).1.getD n 0=t at *;have d:(rowAt rs j).2*(B/(rowAt rs j).2)=B:=d
  calc t*(B/(rowAt rs j).2)*x.2=(t*x.2)*(B/(rowAt rs j).2):=by ac_rfl
    _=x.1*(rowAt rs j).2*(B/(rowAt rs j).2):=by rw[e]
    _=x.1*((rowAt rs j).2*(B/(rowAt rs j).2)):=by ac_rfl
    _=x.1*B:=by rw[d]
open Rw
theorem FRs.get{H:Hp}{xs:Μ}{fss:Φ}(h:FRs H xs fss){i:Nat}(hi:i<fss.length):∃l ys,xs[i]?=some (.ref l)/\H l=some (.lst ys)/\FL H ys (fAt fss i)/\fAt fss i∈fss:=by
 have hx:i<xs.length:=by rw[h.len];exact hi
 obtain⟨l,ys,e,a,b⟩:=h.at_ i _ (aj hx);refine⟨l,ys,by rw[aj hx,e],a,b,?_⟩;unfold fAt;rw[au,aj hi];exact aW hi
theorem qX.get{H:Hp}{xs:Μ}{fss:Φ}(h:qX K H xs fss){i:Nat}(hi:i<fss.length):∃l ys,xs[i]?=some (.ref l)/\H l=some (.lst ys)/\FLK K H ys (fAt fss i)/\fAt fss i∈fss:=by
 have hx:i<xs.length:=by rw[h.len];exact hi
 obtain⟨l,ys,e,a,b⟩:=h.at_ i _ (aj hx);refine⟨l,ys,by rw[aj hx,e],a,b,?_⟩;unfold fAt;rw[au,aj hi];exact aW hi
def vK(K:Frag):Sp:=λvs H Q _=>∃(l r:Addr)(xs ys:Μ)(fss:Φ)(rs:Ψ),vs=[.ref l,.ref r]/\H l=some (.lst xs)/\qX K H xs fss/\H r=some (.lst ys)/\FLK K H ys rs/\fss.length=rs.length/\fss.length<=20/\(∀fs∈fss,fs.length<=40) /\
 ∀p zs H',Same H H'->H' p=some (.lst zs)->qX K H' zs (List.zipWith (λfs r=>fs++[r]) fss rs)->Q (.ref p) H'
theorem Gu(F:Fun K mV mV nT f fd)(T:Txt K mg D):cJ P w K mg base CX0 1 f fd mW (vK K):=by
 refine F.ok Jr ?_ ?_
 .rintro _ _ _ _ ⟨l,r,xs,ys,fss,rs,rfl,_⟩;rfl
 .rintro cdv A outer s H _ Q E hr ⟨l,r,xs,ys,fss,rs,rfl,hl,fr,hr',fl,hlen,hn,hw,q⟩;refine⟨_,(bO (cg (kJ (bQ nT) sY sY ["row","right"] (Oz T.Wk (bF pv0 (bF pv1)).mono) (gJ (n:=2) rfl (cG (dH (i:=0)) (cG (dH (i:=1)) fX))) cU (bV Uc pv0 (jw (bF pv1)))))),?_⟩;have hx:=fr.len;have hy:=fl.length;refine gM (uP ?_);refine⟨_,rfl,_,rfl,l,r,xs,ys,rfl,hl,hr',by lia,by lia,λD1 hD=>⟨λk zs Hc=>Same H Hc/\Hc D1=some (.lst zs)/\qX K Hc zs ((List.zipWith (λfs r=>fs++[r]) fss rs).take k)/\∀(j:Nat)a,zs[j]?=some (V.ref a)->a≠D1,⟨Same.upd hD,bG,⟨rfl,λk v e=>by simp at e⟩,by simp⟩,?_,?_⟩⟩
  .rintro k x y zs Hc tt hk hk2 ⟨S1,c1,fz,nz⟩ hzl htt hlc hlc2 pre hpre;obtain⟨u0,u1,rfl⟩:=Ak hpre;have kf:k<fss.length:=by
    have:=(ao.mp hk).1;exact aV this (Nat.le_of_eq hx)
   obtain⟨la,ya,ea,ha,fa,ma⟩:=fr.get kf;rw[hk]at ea;cases ea;obtain⟨p',g0,rfl,hg,hp'⟩:=fl.get hk2;have T4:Same Hc (upd Hc tt (.tup [.ref la,.ref p'])):=Same.upd htt;have e4:upd Hc tt (.tup [.ref la,.ref p']) tt=some (.tup [.ref la,.ref p']):=bG;generalize upd Hc tt (.tup [.ref la,.ref p'])=H4 at T4 e4 ⊢;refine⟨tt,_,rfl,e4,rfl,_,_,rfl,_,_,rfl,rfl,[some (.ref la),some (.ref p')],rfl,rfl,?_⟩;refine⟨_,rfl,_,rfl,aan,λt5 ht5=>?_⟩;have T5:Same H4 (upd H4 t5 (.lst [.ref p'])):=Same.upd ht5;have e5:upd H4 t5 (.lst [.ref p']) t5=some (.lst [.ref p']):=bG;generalize upd H4 t5 (.lst [.ref p'])=H5 at T5 e5 ⊢;have S5:=(S1.trans T4).trans T5;have ly:=hw _ ma;refine⟨la,t5,ya,_,rfl,rfl,S5 _ _ ha,e5,?_,λr6 hr6=>?_⟩
   .rw[fa.length];exact aM (Nat.add_le_add_right ly 1) (by decide)
   have T6:Same H5 (upd H5 r6 (.lst (ya++[.ref p']))):=Same.upd hr6;have e6:upd H5 r6 (.lst (ya++[.ref p'])) r6=some (.lst (ya++[.ref p'])):=bG;generalize upd H5 r6 (.lst (ya++[.ref p']))=H6 at T6 e6 ⊢;have T46:=(T4.trans T5).trans T6;have S6:=S1.trans T46;have n1:=T46 _ _ c1;have nr:r6≠D1:=λz=>by
    have:=(T4.trans T5) _ _ c1;rw[<- z,hr6]at this;cases this
   have en:(List.zipWith (λfs r=>fs++[r]) fss rs)[k]?=some (fAt fss k++[g0]):=by
    rw[List.getElem?_zipWith,hg];unfold fAt;rw[au,aj kf];rfl
   refine⟨n1,T46 _ _ hlc,T46 _ _ hlc2,fM hD S6,bG,?_,λj a e=>?_⟩
   .rw[cj en];exact qX.snoc ((fz.same T46).updL n1 nz) ((bL nr).trans e6) (((fa.same S6).append (.cons (S6.tup hp') .nil)).updL n1)
   .by_cases hj:j<zs.length
    .rw[aF hj]at e;exact nz j a e
    .rw[aD (Nat.le_of_not_lt hj)]at e;have e0:j-zs.length=0:=by
      cases z:j-zs.length with
      |zero=>rfl
      |succ m=>rw[z]at e;simp at e
     rw[e0,List.getElem?_cons_zero]at e;cases e;exact nr
  .rintro zs Hc ⟨S1,c1,fz,nz⟩ _;rw[aL (by rw[List.length_zipWith];lia)]at fz;exact q D1 zs Hc S1 c1 fz
def Ir:Sp:=λvs H Q _=>∃(l b:Addr)(xs ys:Μ)(wide:Nat),vs=[.ref l,.ref b,.int wide]/\H l=some (.lst xs)/\H b=some (.lst ys)/\ys.length=xs.length/\xs.length<=64/\Q .non H
theorem T9(F:Fun K ud ud Ea f fd)(T:Txt K mg D):cJ P w K mg base CX0 1 f fd uw Ir:=by
 refine F.ok Jm ?_ ?_
 .rintro _ _ _ _ ⟨l,b,xs,ys,wide,rfl,_⟩;rfl
 .rintro cdv A outer s H _ Q E hr ⟨l,b,xs,ys,wide,rfl,hl,hb,hlen,h64,q⟩;refine⟨_,(bI (fL PassesOwn.never rfl (KN T.gY (bF (cu cN T.gH PySem.boot_len (bF pv1)) (bF (cu cN T.gH PySem.boot_len (bF pv0)))).mono) (cB (i:=3) Jm.nd)
    (bO (cW (cD (yS (K:=K) rfl hr.units) (bT bU (bT bU pv0 pv3) pv2) (dX T.jo) (cH _))
     (bO (cg pv3))
     cF)))
   (bO (cg mX))),?_⟩
  refine gK (Jj ?_);refine⟨_,rfl,b,ys,rfl,hb,_,rfl,l,xs,rfl,hl,_,_,0,rfl,by lia,by lia,by lia,λk σ' H'=>H'=H,rfl,λk σ' H' hk=>absurd hk (WV _),λσ' H' e=>?_⟩;rw[e];exact q
def HY(K:Frag):Sp:=λvs H Q _=>∃(l:Addr)(xs:Μ)(fss:Φ)(wd:Nat),vs=[.ref l]/\H l=some (.lst xs)/\qX K H xs fss/\(∀fs∈fss,fs.length=wd)/\(fss.length=0->wd=0)/\Q (.int wd) H
theorem Tw(F:Fun K qY qY zV f fd)(T:Txt K mg D):cJ P w K mg base CX0 1 f fd qZ (HY K):=by
 refine F.ok Rp ?_ ?_
 .rintro _ _ _ _ ⟨l,xs,fss,wd,rfl,_⟩;rfl
 .rintro cdv A outer s H _ Q E hr ⟨l,xs,fss,wd,rfl,hl,fr,hw,h0,q⟩;refine⟨_,(bI (cW (cD lG (cu cN T.gH PySem.boot_len (bF pv0)) bK (cH _))
    (bO (cg bK))
    cF)
   (bO (cg (cu cN T.gH PySem.boot_len (bF (bT bU pv0 bK)))))),?_⟩
  have hx:=fr.len;refine⟨_,rfl,l,xs,rfl,hl,rfl,_,rfl,pB (λz=>?_) λz=>?_⟩
  .have e:xs.length=0:=by have:=V.int.inj (of_decide_eq_true z);lia
   have:=h0 (Eq.trans (Eq.symm hx) e);subst this;exact q
  .have e:0<xs.length:=by
    by_cases y:xs.length=0
    .exact absurd (Zs (by rw[y];rfl)) z
    .exact Nat.pos_of_ne_zero y
   obtain⟨v,hv⟩ : ∃v,xs[0]?=some v:=⟨_,aj e⟩;obtain⟨l1,y1,rfl,h1,fl1⟩:=fr.at_ 0 v hv;have ly:y1.length=wd:=by
    rw[fl1.length];refine hw _ ?_;rw[au,aj (aV e (Nat.le_of_eq hx))];exact aW _
   refine⟨_,rfl,l,xs,0,_,rfl,rfl,hl,bY (j:=0) hv,l1,y1,rfl,h1,?_⟩;rw[ly];exact q
open Rw
theorem Iv{P:Nat->Bool}{c:Nat} : ∀{w:Nat},c<w->(∀j,j<c->P j=false)->P c=true->∃rest,(List.range w).filter P=c::rest
 |0,h,_,_=>absurd h (WV _)
 |w+1,h,z,o=>by
  rw[List.range_succ,List.filter_append];by_cases e:c<w
  .obtain⟨rest,er⟩:=Iv (P:=P) e z o;rw[er];exact⟨_,rfl⟩
  .have:c=w:=by lia
   subst this;rw[List.filter_eq_nil_iff.mpr (λj hj=>by rw[z j (List.mem_range.mp hj)];decide),List.filter_cons_of_pos o];exact⟨_,rfl⟩
theorem ac8{H:Hp} : ∀{zs:Μ}{fs:Ψ},zs.length=fs.length->(∀(j:Nat)f,fs[j]?=some f->∃p,zs[j]?=some (V.ref p)/\H p=some (.tup [.int f.1,.int f.2]))->FL H zs fs
 |[],[],_,_=>.nil
 |z::zs,f::fs,e,h=>by
  obtain⟨p,e1,e2⟩:=h 0 f rfl;cases e1;exact .cons e2 (ac8 (by simpa using e) λj g hg=>by simpa using h (j+1) g (by simpa using hg))
def Bf(K:Frag):Sp:=λvs H Q _=>∃(l:Addr)(xs:Μ)(rs:List Row)(wide wd p:Nat)(piv:Nat->Nat),vs=[.ref l,.int wide]/\H l=some (.lst xs)/\FRs H xs (rs.map rep)/\(∀r∈rs,0<r.2/\r.1.length=wd)/\wide<=wd/\wd<=64/\rs.length<=20/\Form rs p wide piv/\p<=rs.length /\
 ∀b H',Same H H'->H' b=some (.lst ((List.range p).map λi=>V.int (piv i)))->Q (.ref b) H'
theorem LQ(F:Fun K pQ pQ rM f fd)(T:Txt K mg D):cJ P w K mg base CX0 1 f fd pF (Bf K):=by
 refine F.ok pY ?_ ?_
 .rintro _ _ _ _ ⟨l,xs,rs,wide,wd,p,piv,rfl,_⟩;rfl
 .rintro cdv A outer s H _ Q E hr ⟨l,xs,rs,wide,wd,p,piv,rfl,hl,fr,hb,hw,h64,hn,fm,hp,q⟩;refine⟨_,(bI (bZ (i:=2) pY.nd (jw oW))
   (bI (fL PassesOwn.never rfl (cV (pv 0).mono) (cB (i:=3) pY.nd (hx:=(Or.inr rfl)))
    (bI (yh (bQ rM) wz wz ["column"] (eF T.gY (bF pv1).mono) (dH (i:=0)) (Om (cD (yS (K:=K) rfl hr.units) (bT bU pv4 pv0) (dX T.jo) (cH _))) pv0 (cB (i:=4) pY.nd))
    (bO (cW (cD RZ (cu cN T.gH PySem.boot_len (bF pv4)) bK (cH _))
     (bO (cX (su pv2 (bF (bT bU pv4 bK)))))
     cF))))
   (bO (cg pv2)))),?_⟩
  have hx:xs.length=rs.length:=by rw[fr.len,ak]
  refine⟨bA _,λB hB=>gK (eN ?_)⟩;have S0:Same H (upd H B (.lst [])):=Same.upd hB;refine⟨_,rfl,l,xs,rfl,S0 _ _ hl,λk σ H'=>∃u v,σ=[some (.ref l),some (.int wide),some (.ref B),u,v]/\Same H H'/\H' B=some (.lst ((List.range (min k p)).map λi=>V.int (piv i))),⟨none,none,rfl,S0,by rw[Nat.zero_min];exact bG⟩,?_,?_⟩
  .rintro k x σ' H2 hk ⟨u,v,rfl,S2,hB2⟩ hl2;have kr:k<rs.length:=by
    have:=(ao.mp hk).1;exact aV this (Nat.le_of_eq hx)
   obtain⟨la,ya,ea,ha,fa,_⟩:=fr.get (i:=k) (by rw[ak];exact kr);rw[Wo kr]at fa;rw[hk]at ea;cases ea;have br:=hb _ (cC kr);refine cL (Pq ?_);refine⟨_,rfl,wide,rfl,by exact aM hw h64,λC hC=>⟨λm ys Hc=>Same H2 Hc/\Hc C=some (.lst ys)/\ys=((List.range m).filter λc=>decide ((rowAt rs k).1.getD c 0≠0)).map λc:Nat=>V.int c,⟨Same.upd hC,bG,rfl⟩,?_,?_⟩⟩
   .rintro m ys Hc hm ⟨S3,hC3,rfl⟩ _;have S23:=S2.trans S3;obtain⟨vm,hv⟩ : ∃v,ya[m]?=some v:=⟨_,aj (by rw[fa.length];unfold rep;rw[ak,br.2];exact aV hm hw)⟩;obtain⟨pg,g,rfl,hg,hpg⟩:=fa.get hv;have et:(rowAt rs k).1[m]?=some ((rowAt rs k).1.getD m 0):=by rw[au,aj (by rw[br.2];exact aV hm hw)];rfl
    have eg:(rep (rowAt rs k))[m]?=some (Ac.lw ((rowAt rs k).1.getD m 0) (rowAt rs k).2):=by
     unfold rep;rw[aq,et];rfl
    rw[eg]at hg;cases hg;refine⟨_,rfl,_,rfl,la,ya,m,_,rfl,rfl,S23 _ _ ha,bY hv,_,_,.tup (.inl (.of (S23 _ _ hpg))) (.cons (.int _) (.cons (.int _) .nil)),.tup (T.jY _) (.cons (.int _) (.cons (.int _) .nil)),rfl,rfl,_,rfl,?_⟩;have le:=Ac.tD (t:=(rowAt rs k).1.getD m 0) br.1;have lp:=Ac.iG (t:=(rowAt rs k).1.getD m 0) br.1;have lg:=Ac.rQ (t:=(rowAt rs k).1.getD m 0) br.1;by_cases z:(rowAt rs k).1.getD m 0=0
    .have e1:(Ac.lw ((rowAt rs k).1.getD m 0) (rowAt rs k).2).1=0:=by rw[z];exact Int.zero_ediv _
     have e2:(Ac.lw ((rowAt rs k).1.getD m 0) (rowAt rs k).2).2=1:=by
      rw[e1,Int.gcd_zero_left]at lg;lia
     rw[show(if true=true then !PyData.eqv (.tuple [.int (Ac.lw ((rowAt rs k).1.getD m 0) (rowAt rs k).2).1,.int (Ac.lw ((rowAt rs k).1.getD m 0) (rowAt rs k).2).2]) (.tuple [.int 0,.int 1])else PyData.eqv (.tuple [.int (Ac.lw ((rowAt rs k).1.getD m 0) (rowAt rs k).2).1,.int (Ac.lw ((rowAt rs k).1.getD m 0) (rowAt rs k).2).2]) (.tuple [.int 0,.int 1]))=false by rw[ZY rfl,Vl,e1,e2];rfl];refine⟨S3,hC3,?_⟩;rw[List.range_succ,List.filter_append,bC,List.filter_cons_of_neg (by rw[z];decide),List.filter_nil,List.map_nil,List.append_nil]
    .have e1:(Ac.lw ((rowAt rs k).1.getD m 0) (rowAt rs k).2).1≠0:=λy=>by
      rw[y,Int.zero_mul]at le;rcases Int.mul_eq_zero.mp le.symm with x|x
      .exact z x
      .lia
     rw[show(if true=true then !PyData.eqv (.tuple [.int (Ac.lw ((rowAt rs k).1.getD m 0) (rowAt rs k).2).1,.int (Ac.lw ((rowAt rs k).1.getD m 0) (rowAt rs k).2).2]) (.tuple [.int 0,.int 1])else PyData.eqv (.tuple [.int (Ac.lw ((rowAt rs k).1.getD m 0) (rowAt rs k).2).1,.int (Ac.lw ((rowAt rs k).1.getD m 0) (rowAt rs k).2).2]) (.tuple [.int 0,.int 1]))=true by rw[ZY rfl,Vl,beq_eq_false_iff_ne.mpr e1];rfl];refine⟨_,rfl,hC3,fM hC S3,bG,?_⟩;rw[List.range_succ,List.filter_append,bC,List.filter_cons_of_pos (p:=λc=>decide ((rowAt rs k).1.getD c 0≠0)) (a:=m) (l:=[]) (Zs z),List.filter_nil];rfl
   .rintro ys Hc ⟨S3,hC3,rfl⟩ _;have S23:=S2.trans S3;have hB3:=S3 _ _ hB2;have hl3:=S3 _ _ hl2;have nl:l≠B:=bH hl hB;by_cases kp:k<p
    .obtain⟨a1,a2,a3,_⟩:=fm.head k kp;obtain⟨rest,er⟩:=Iv (P:=λc=>decide ((rowAt rs k).1.getD c 0≠0)) a1 (λj hj=>by
      have:=a2 j hj;simp[au,this]) (by
      have b0:=br.1;simp[au,a3];exact Int.ne_of_gt b0)
     rw[er]at hC3;refine⟨_,rfl,C,_,rfl,hC3,_,_,rfl,rfl,_,rfl,pB (λ_=>?_) λh=>absurd (Zs (by simp)) h⟩;refine⟨_,rfl,B,_,rfl,hB3,_,rfl,C,_,0,_,rfl,rfl,hC3,cY,_,_,rfl,hB3,?_,(bL nl).trans hl3,_,_,rfl,fM hB S23,?_⟩
     .rw[ak,List.length_range];exact Y3 (Nat.min_le_left _ _) (aV (show k<64 by lia) (by decide))
     .rw[Nat.min_eq_left (show k<=p by exact Y2 kp),Nat.min_eq_left (show k+1<=p by exact kp),List.range_succ,bC];exact bG
    .have er:((List.range wide).filter λc=>decide ((rowAt rs k).1.getD c 0≠0))=[]:=by
      refine List.filter_eq_nil_iff.mpr λc hc=>?_;have:=fm.rest k (Nat.le_of_not_lt kp) kr c (List.mem_range.mp hc);simp[au,this]
     rw[er]at hC3;refine⟨_,rfl,C,_,rfl,hC3,_,_,rfl,rfl,_,rfl,pB (λh=>absurd h (by decide)) λ_=>⟨hl3,_,_,rfl,S23,?_⟩⟩;rw[Nat.min_eq_right (show p<=k+1 by lia)];rw[Nat.min_eq_right (show p<=k by exact Nat.le_of_not_lt kp)]at hB3;exact hB3
  .rintro σ' H2 ⟨u,v,rfl,S2,hB2⟩ _;rw[Nat.min_eq_right (by lia)]at hB2;exact⟨_,rfl,q B H2 S2 hB2⟩
def Bg(K:Frag):Sp:=λvs H Q _=>∃(l b:Addr)(xs:Μ)(rs:List Row)(n:Nat),vs=[.ref l,.ref b,.int n]/\H l=some (.lst xs)/\FRs H xs (rs.map rep)/\(∀r∈rs,0<r.2/\r.1.length=n+1)/\rs.length=n/\n<=20/\H b=some (.lst ((List.range n).map λi:Nat=>V.int i)) /\
 ∀a zs H',Same H H'->H a=none->H' a=some (.lst zs)->FL H' zs ((List.range n).map λi=>Ac.lw ((rowAt rs i).1.getD n 0) (rowAt rs i).2)->Q (.ref a) H'
theorem MP(F:Fun K pI pI uZ f fd)(T:Txt K mg D):cJ P w K mg base CX0 1 f fd pO (Bg K):=by
 refine F.ok pK ?_ ?_
 .rintro _ _ _ _ ⟨l,b,xs,rs,n,rfl,_⟩;rfl
 .rintro cdv A outer s H _ Q E hr ⟨l,b,xs,rs,n,rfl,hl,fr,hb,hn,h20,hbl,q⟩;refine⟨_,(bI (bZ (i:=3) pK.nd (bV adH (jw (bF (dX T.jo))) pv2))
   (bI (fL PassesOwn.never rfl (Fw T.rE (bF pv1).mono) (gJ (n:=2) rfl (cG (cB (i:=4) pK.nd) (cG (cB (i:=5) pK.nd) fX)))
    (bO (oX (bT bU (bT bU pv0 pv4) pv2) (xZ pv3 pv5 set_list))))
   (bO (cg pv3)))),?_⟩
  have hx:xs.length=rs.length:=by rw[fr.len,ak]
  refine⟨aan,λp1 hp1=>⟨_,rfl,p1,n,_,rfl,rfl,bG,by lia,by lia,?_,λa ha=>gK (Ae ?_)⟩⟩
  .rw[Int.toNat_natCast];exact aM (show 1*n<=64 by lia) (by decide)
  have S0:Same H (upd H p1 (.lst [.ref D.NOUGHT])):=Same.upd hp1;have haH:H a=none:=S0.free ha;rw[Int.toNat_natCast];have S1:=S0.trans (Same.upd (o:=.lst (List.replicate n [V.ref D.NOUGHT]).flatten) ha);have c1:upd (upd H p1 (.lst [.ref D.NOUGHT])) a (.lst (List.replicate n [V.ref D.NOUGHT]).flatten) a=some (.lst (List.replicate n [V.ref D.NOUGHT]).flatten):=bG;generalize upd (upd H p1 (.lst [.ref D.NOUGHT])) a (.lst (List.replicate n [V.ref D.NOUGHT]).flatten)=H1 at S1 c1 ⊢;refine⟨_,rfl,b,_,rfl,S1 _ _ hbl,λk σ H'=>∃zs u v,σ=[some (.ref l),some (.ref b),some (.int n),some (.ref a),u,v]/\Same H H'/\H' a=some (.lst zs)/\zs.length=n/\∀j,j<k->∃p,zs[j]?=some (V.ref p)/\H' p=some (.tup [.int (Ac.lw ((rowAt rs j).1.getD n 0) (rowAt rs j).2).1,.int (Ac.lw ((rowAt rs j).1.getD n 0) (rowAt rs j).2).2]),⟨_,none,none,rfl,S1,c1,by rw[len_rep];simp,λj hj=>absurd hj (WV _)⟩,?_,?_⟩
  .rintro k x σ' H2 t hk ⟨zs,u,v,rfl,S2,c2,zl,dn⟩ hb2 ht;have kn:k<n:=by
    have:=(ao.mp hk).1;rwa[ak,List.length_range]at this
   rw[aq,List.getElem?_range kn]at hk;cases hk;have T3:Same H2 (upd H2 t (.tup [.int k,.int k])):=Same.upd ht;have e3:upd H2 t (.tup [.int k,.int k]) t=some (.tup [.int k,.int k]):=bG;generalize upd H2 t (.tup [.int k,.int k])=H3 at T3 e3 ⊢;have S3:=S2.trans T3;have kr:k<rs.length:=by lia
   obtain⟨la,ya,ea,hla,fa,_⟩:=fr.get (i:=k) (by rw[ak];exact kr);rw[Wo kr]at fa;have br:=hb _ (cC kr);obtain⟨vn,hv⟩ : ∃v,ya[n]?=some v:=⟨_,aj (by rw[fa.length];unfold rep;rw[ak,br.2];exact X1 _)⟩;obtain⟨pg,g,rfl,hg,hpg⟩:=fa.get hv;have et:(rowAt rs k).1[n]?=some ((rowAt rs k).1.getD n 0):=by rw[au,aj (by rw[br.2];exact X1 _)];rfl
   have eg:(rep (rowAt rs k))[n]?=some (Ac.lw ((rowAt rs k).1.getD n 0) (rowAt rs k).2):=by
    unfold rep;rw[aq,et];rfl
   rw[eg]at hg;cases hg;have c3:=T3 _ _ c2;have na:∀c o,H c=some o->c≠a:=λc o e=>bH e haH;have ix:ixN zs.length (k:Int)=some k:=by
    unfold ixN;rw[ZY (Wp _),ZY (by lia),Int.toNat_natCast]
   refine⟨t,_,rfl,e3,rfl,_,_,rfl,_,_,rfl,rfl,_,rfl,_,rfl,l,xs,k,_,rfl,rfl,S3 _ _ hl,bY ea,_,rfl,la,ya,n,_,rfl,rfl,S3 _ _ hla,bY hv,_,rfl,_,rfl,a,zs,k,k,rfl,rfl,c3,ix,(bL (na _ _ hbl)).trans (T3 _ _ hb2),_,_,_,rfl,fM haH S3,bG,by rw[List.length_set];exact zl,λj hj=>?_⟩;by_cases e:j=k
   .subst e;exact⟨pg,by rw[List.getElem?_set_self (by lia)],(bL (na _ _ hpg)).trans (S3 _ _ hpg)⟩
   .obtain⟨pj,x1,x2⟩:=dn j (XX (Nat.le_of_lt_succ hj) e);exact⟨pj,by rw[List.getElem?_set_ne (λz=>e z.symm)];exact x1,(bL (d8 (T3 _ _ x2) c3)).trans (T3 _ _ x2)⟩
  .rintro σ' H2 ⟨zs,u,v,rfl,S2,c2,zl,dn⟩ _;rw[ak,List.length_range]at dn;refine⟨_,rfl,q a zs H2 S2 haH c2 (ac8 (by rw[zl,ak,List.length_range]) λj f hf=>?_)⟩;have jn:j<n:=by
    have:=(ao.mp hf).1;rwa[ak,List.length_range]at this
   rw[aq,List.getElem?_range jn]at hf;cases hf;exact dn j jn
structure Rds(K:Frag)(H:Hp)(ls:Ε)(fss:Φ):Prop where
 len:ls.length=fss.length
 nd:ls.Nodup
 at_:∀(k:Nat)l fs,ls[k]?=some l->fss[k]?=some fs->∃zs,H l=some (.lst zs)/\FLK K H zs fs
theorem Rds.same{H H':Hp}{ls:Ε}{fss:Φ}(S:Same H H')(h:Rds K H ls fss):Rds K H' ls fss:=⟨h.len,h.nd,λk l fs e1 e2=>by
 obtain⟨zs,a,b⟩:=h.at_ k l fs e1 e2;exact⟨zs,S _ _ a,b.same S⟩⟩
theorem Rds.off{H:Hp}{ls:Ε}{fss:Φ}{t:Addr}{ys zs:Μ}(h:Rds K H ls fss)(ht:H t=some (.lst ys))(n:t∉ls):Rds K (upd H t (.lst zs)) ls fss:=⟨h.len,h.nd,λk l fs e1 e2=>by
 obtain⟨zs,a,b⟩:=h.at_ k l fs e1 e2;exact⟨zs,(bL λz=>n (by rw[<- z];exact aC e1)).trans a,b.updL ht⟩⟩
theorem Rds.snoc{H:Hp}{ls:Ε}{fss:Φ}{l:Addr}{zs:Μ}{fs:Ψ}(h:Rds K H ls fss)(n:l∉ls)(hl:H l=some (.lst zs))(fl:FLK K H zs fs):Rds K H (ls++[l]) (fss++[fs]):=by
 refine⟨by rw[aA,aA,h.len];rfl,?_,λk l' fs' e1 e2=>?_⟩
 .rw[List.nodup_append];refine⟨h.nd,by simp,λa ha b hb z=>?_⟩;rw[YR.mp hb]at z;exact n (z ▸ ha)
 .have ll:=h.len;rcases kZ e1 with⟨a1,a2⟩|⟨a1,a2⟩<;>rcases kZ e2 with⟨c1,c2⟩|⟨c1,c2⟩
  .exact h.at_ k l' fs' a2 c2
  .lia
  .lia
  .subst a2;subst c2;exact⟨zs,hl,fl⟩
theorem Rds.put{H:Hp}{ls:Ε}{fss:Φ}{k:Nat}{l:Addr}{ys zs:Μ}{fs:Ψ}(h:Rds K H ls fss)(e:ls[k]?=some l)(hl:H l=some (.lst ys))(fl:FLK K H zs fs):Rds K (upd H l (.lst zs)) ls (fss.set k fs):=by
 have lk:=(ao.mp e).1;refine⟨by rw[h.len,List.length_set],h.nd,λj m gs e1 e2=>?_⟩;by_cases z:j=k
 .subst z;rw[List.getElem?_set_self (by rw[<- h.len];exact lk)]at e2;cases e2;rw[e]at e1;cases e1;exact⟨zs,bG,fl.updL hl⟩
 .rw[List.getElem?_set_ne (λw=>z w.symm)]at e2;obtain⟨us,a,b⟩:=h.at_ j m gs e1 e2;have ne:m≠l:=λw=>by
   subst w;exact z ((List.getElem?_inj (ao.mp e1).1 h.nd).mp (e1.trans e.symm))
  exact⟨us,(bL ne).trans a,b.updL hl⟩
theorem Rds.frk{H:Hp}{ls:Ε}{fss:Φ}(h:Rds K H ls fss):qX K H (ls.map V.ref) fss:=⟨by rw[ak,h.len],λk v e=>by
 rw[aq]at e;cases el:ls[k]? with
 |none=>rw[el]at e;cases e
 |some l =>
  rw[el]at e;cases e;have lk:k<fss.length:=by rw[<- h.len];exact(ao.mp el).1
  obtain⟨zs,a,b⟩:=h.at_ k l _ el (aj lk);refine⟨l,zs,rfl,a,?_⟩;rw[au,aj lk];exact b⟩
open Rw
noncomputable def iB(fss:Φ)(rts:Ψ):Φ:=List.zipWith (λfs r=>fs++[r]) fss rts
def qT(K:Frag):Sp:=λvs H Q _=>∃(l r:Addr)(xs ys:Μ)(fss:Φ)(rts:Ψ)(n N:Nat),vs=[.ref l,.ref r]/\H l=some (.lst xs)/\qX K H xs fss/\H r=some (.lst ys)/\FLK K H ys rts/\fss.length=n/\rts.length=n/\n<=20/\(∀fs∈fss,fs.length=n)/\(∀gs∈iB fss rts,(∀f∈gs,Fq f)/\Big N (lvR gs))/\1<=N/\MB n N<=NN /\
 (∀y:Nat->Int,yU ((iB fss rts).map lvR) y->y n=0->∀j,j<n->y j=0) /\
 ∀a zs H' rsE,Same H H'->H a=none->H' a=some (.lst zs)->rsE.length=n->(∀r∈rsE,Big (MB n N) r/\r.1.length=n+1)->yU ((iB fss rts).map lvR) (J7 rsE n)->FL H' zs ((List.range n).map λi=>Ac.lw ((rowAt rsE i).1.getD n 0) (rowAt rsE i).2)->Q (.ref a) H'
theorem G8(F:Fun K jt jt rR f fd)(T:Txt K mg D)(zR:OkF P w K mg base 1 qY qZ (HY K))(rT:OkF P w K mg base 1 mV mW (vK K))(DN:OkF P w K mg base 7 uH t_ (Gp K))(xK:OkF P w K mg base 1 pQ pF (Bf K))(Dz:OkF P w K mg base 1 ud uw Ir)(vH:OkF P w K mg base 1 pI pO (Bg K)):cJ P w K mg base CX0 8 f fd jG (qT K):=by
 refine F.ok lV ?_ ?_
 .rintro _ _ _ _ ⟨l,r,xs,ys,fss,rts,n,N,rfl,_⟩;rfl
 .rintro cdv A outer s H _ Q E hr ⟨l,r,xs,ys,fss,rts,n,N,rfl,hl,fr,hr',fl,fn,rn,n20,hw,hg,h1,hN,inj,q⟩;refine⟨_,(bI (bZ (i:=2) lV.nd (bR zR hr.md (bF pv0)))
   (bI (bZ (i:=3) lV.nd (bT cA (bR DN hr.md (bF (bR rT hr.md (bF pv0 (bF pv1))) (bF pv2))) bK))
   (bI (bZ (i:=4) lV.nd (bR xK hr.md (bF pv3 (bF pv2))))
   (bI (cW (PW.pt (pw_or (cD Bc (cu cN T.gH PySem.boot_len (bF pv4)) pv2 (cH _)) (pw_or1 (cD yt (bR Dz hr.md (bF pv3 (bF pv4 (bF pv2)))) mX (cH _)))))
    (bO (cg mX))
    cF)
   (bO (cg (bR vH hr.md (bF pv3 (bF pv4 (bF pv2)))))))))),?_⟩
  have gl:(iB fss rts).length=n:=by unfold iB;rw[List.length_zipWith];lia
  have gw:∀gs∈iB fss rts,gs.length=n+1:=λgs h=>by
   unfold iB at h;obtain⟨k,hk,rfl⟩:=List.mem_iff_getElem.mp h;rw[List.getElem_zipWith,aA,hw _ (aW _)];rfl
  refine⟨_,rfl,l,xs,fss,n,rfl,hl,fr,hw,by lia,_,rfl,_,rfl,l,r,xs,ys,fss,rts,rfl,hl,fr,hr',fl,by exact Eq.trans fn (Eq.symm rn),by exact aM (Nat.le_of_eq fn) n20,λfs h=>by rw[hw fs h];exact aM n20 (by decide),λp1 z1 H1 S1 c1 f1=>⟨_,rfl,p1,z1,iB fss rts,n,n+1,N,rfl,c1,f1,λgs h=>⟨gw gs h,hg gs h⟩,h1,by rw[gl];exact hN,by exact Xs _,by lia,by exact aM (Nat.le_of_eq gl) n20,λt ls p zs' H2 new pl piv td=>⟨t,_,1,_,rfl,rfl,td.tup,cR,?_⟩⟩⟩;have tall:=td.big;have el:=td.len;have fm:=td.form;have pln:=td.pln;rw[gl]at el pln tall;have ker:∀y,yU (cI ((iB fss rts).map lvR) new) y->yU ((iB fss rts).map lvR) y:=λy k=>Wa td.all (λs hs=>by rw[ak];exact td.good s hs) k;have tfr:=td.fr;generalize cI ((iB fss rts).map lvR) new=rsE at *;have bnd:∀r∈rsE,0<r.2/\r.1.length=n+1:=λr hr=>⟨(tall r hr).1.pos,(tall r hr).2⟩;have ep:pl=n:=by
   by_cases e:pl=n
   .exact e
   .obtain⟨y,c,hc,yc,yn,ky⟩:=YJ fm (XX pln e) (by lia) bnd;exact absurd (inj y (ker y ky) yn c hc) yc
  subst ep;have S2:=S1.trans td.same;refine⟨_,rfl,_,rfl,p,zs',rsE,pl,pl+1,pl,piv,rfl,td.hp,tfr,bnd,by exact Xs _,by lia,by exact aM (Nat.le_of_eq el) n20,fm,by exact Nat.le_of_eq (Eq.symm el),λb H3 S3 hb=>?_⟩;have idp:=Yk fm.ord λi hi=>(fm.head i hi).1;have eb:((List.range pl).map λi=>V.int (piv i))=(List.range pl).map λi:Nat=>V.int i:=List.map_congr_left λi hi=>by rw[idp i (List.mem_range.mp hi)]
  rw[eb]at hb;have bl:((List.range pl).map λi:Nat=>V.int i).length=pl:=by rw[ak,List.length_range]
  have zl:zs'.length=pl:=by rw[tfr.len,ak];exact el
  refine⟨_,rfl,b,_,rfl,hb,_,rfl,_,_,rfl,rfl,_,rfl,pB (λh=>absurd (of_decide_eq_true h) (by rw[bl];exact Int.lt_irrefl _)) λ_=>⟨_,rfl,_,rfl,_,rfl,p,b,zs',_,pl,rfl,S3 _ _ td.hp,hb,by rw[bl,zl],by lia,rfl,_,rfl,pB (λh=>absurd h (by decide)) λ_=>?_⟩⟩;exact⟨_,rfl,_,rfl,_,rfl,p,b,zs',rsE,pl,rfl,S3 _ _ td.hp,tfr.same S3,bnd,el,n20,hb,λa zz H4 S4 ha c4 f4=>q a zz H4 rsE (S2.trans (S3.trans S4)) (S2.free (S3.free ha)) c4 el tall (ker _ (abQ fm el bnd)) f4⟩
open Rw
noncomputable def kj(i j:Nat):Int×Int:=if j=i then(1,1)else(0,1)
def Ep(n:Nat):Φ:=(List.range n).map λi=>(List.range n).map λj=>kj i j
def Le(K:Frag):Sp:=λvs H Q _=>∃n:Nat,vs=[.int n]/\n<=20/\∀p ls H',Same H H'->H p=none->H' p=some (.lst (ls.map V.ref))->Rds K H' ls (Ep n)->(∀l∈ls,H l=none)->p∉ls->Q (.ref p) H'
theorem Xp(F:Fun K mj mj kh f fd)(T:Txt K mg D):cJ P w K mg base CX0 1 f fd mQ (Le K):=by
 refine F.ok Gx ?_ ?_
 .rintro _ _ _ _ ⟨n,rfl,_⟩;rfl
 .rintro cdv A outer s H _ Q E hr ⟨n,rfl,hn,q⟩;refine⟨_,(bO (cg (Ux (bQ kh) j6 j6 "row" (eF T.gY (bF pv0).mono) Ui cU (Ti (bQ kh) ("row"::j6) ("row"::j6) ["column"] (eF T.gY (bF pv1).mono) (dH (i:=0)) cU (Dl (cD lG pv0 pv1 (cH _)) (dX T.Br) (dX T.jo)))))),?_⟩;refine gM (iI ?_);refine⟨_,rfl,n,rfl,by exact aM hn (by decide),λD1 hD=>⟨λk zs Hc=>∃ls,zs=ls.map V.ref/\Same H Hc/\Hc D1=some (.lst zs)/\Rds K Hc ls ((Ep n).take k)/\(∀l∈ls,H l=none)/\D1∉ls,⟨[],rfl,Same.upd hD,bG,⟨rfl,List.nodup_nil,λk l fs e=>by simp at e⟩,by simp,by simp⟩,?_,?_⟩⟩
  .rintro k zs Hc hk ⟨ls,rfl,S1,c1,fz,nz,nd⟩ hzl;refine iI ?_;refine⟨_,rfl,n,rfl,by exact aM hn (by decide),λD2 hD2=>⟨λj ys H2=>Same Hc H2/\H2 D2=some (.lst ys)/\FLK K H2 ys (((List.range n).map λj=>kj k j).take j),⟨Same.upd hD2,bG,.nil⟩,?_,?_⟩⟩
   .rintro j ys H2 hj ⟨S2,c2,fl⟩ hyl;have en:((List.range n).map λj=>kj k j)[j]?=some (kj k j):=by rw[aq,List.getElem?_range hj];rfl
    refine⟨_,rfl,_,rfl,rfl,_,rfl,pB (λh=>⟨c2,fM hD2 S2,bG,?_⟩) λh=>⟨c2,fM hD2 S2,bG,?_⟩⟩
    .have e:j=k:=by have:=V.int.inj (of_decide_eq_true h);lia
     rw[cj en];refine(fl.updL c2).append (.cons (f:=kj k j) ?_ .nil);unfold kj;rw[ZY e];exact T.uN _
    .have e:¬j=k:=λz=>h (Zs (by rw[z]));rw[cj en];refine(fl.updL c2).append (.cons (f:=kj k j) ?_ .nil);unfold kj;rw[ZZ e];exact T.jY _
   .rintro ys H2 ⟨S2,c2,fl⟩ hyl;rw[aL (by rw[ak,List.length_range];exact aG _)]at fl;have eu:(Ep n)[k]?=some ((List.range n).map λj=>kj k j):=by unfold Ep;rw[aq,List.getElem?_range hk];rfl
    have nD:D1≠D2:=bH c1 hD2;have d1:=S2 _ _ c1;have n2:D2∉ls:=λz=>by
     obtain⟨i,hi⟩:=aX z;have li:i<((Ep n).take k).length:=by rw[<- fz.len];exact(ao.mp hi).1
     obtain⟨us,a,_⟩:=fz.at_ i _ _ hi (aj li);rw[hD2]at a;cases a
    refine⟨d1,ls++[D2],by rw[bC];rfl,fM hD (S1.trans S2),bG,?_,λl hl=>?_,λz=>?_⟩
    .rw[cj eu];exact((fz.same S2).snoc n2 c2 fl).off d1 (λz=>by
      rcases Y1.mp z with z|z
      .exact nd z
      .exact nD (YR.mp z))
    .rcases Y1.mp hl with z|z
     .exact nz l z
     .rw[YR.mp z];exact S1.free hD2
    .rcases Y1.mp z with z|z
     .exact nd z
     .exact nD (YR.mp z)
  .rintro zs Hc ⟨ls,rfl,S1,c1,fz,nz,nd⟩ hzl;rw[aL (by unfold Ep;rw[ak,List.length_range];exact aG _)]at fz;exact q D1 ls Hc S1 hD c1 fz nz nd
open Rw
structure Fb(f:Ι):Prop where
 pos:0<f.2
 bx:Bd f.1
 b_y:Bd f.2
def Wb(fs:Ψ):Prop:=∀f∈fs,0<f.2/\Bn 586 f.1/\Bn 490 f.2
theorem Wb.fb{fs:Ψ}(h:Wb fs){f:Ι}(hf:f∈fs):Fb f:=⟨(h f hf).1,(h f hf).2.1.bd (by decide),(h f hf).2.2.bd (by decide)⟩
theorem adX{x y u v:Int}(hy:0<y)(hv:0<v):vl (x*v-u*y,y*v)=vl (x,y)-vl (u,v):=by
 have:=d_ hy;have:=d_ hv;show((x*v-u*y:Int):Rat)/((y*v:Int):Rat)=(x:Rat)/(y:Rat)-(u:Rat)/(v:Rat);rw[Rat.intCast_sub,XV,XV,XV]
 grind
theorem ZR{cs:Θ}{c:Nat×Int×Int}{G:Nat->Rat} : gR (cs++[c]) G=gR cs G+vl c.2*G c.1:=by
 unfold gR;rw[bC,List.sum_append];show _+(vl c.2*G c.1+0)=_;rw[Rat.add_zero]
def h_:Ψ->(Nat->Rat)->Rat
 |[],_=>0
 |f::fs,y=>vl f*y 0+h_ fs λi=>y (i+1)
theorem R9{g:Ι} : ∀{fs:Ψ}{j:Nat}{f:Ι}{y:Nat->Rat},fs[j]?=some f->h_ (fs.set j g) y=h_ fs y+(vl g-vl f)*y j
 |[],j,f,y,e=>by simp at e
 |f0::fs,0,f,y,e=>by
  cases e;show vl g*y 0+h_ fs (λi=>y (i+1))=vl f0*y 0+h_ fs (λi=>y (i+1))+(vl g-vl f0)*y 0
  grind
 |f0::fs,j+1,f,y,e=>by
  show vl f0*y 0+h_ (fs.set j g) (λi=>y (i+1))=vl f0*y 0+h_ fs (λi=>y (i+1))+(vl g-vl f)*y (j+1);rw[R9 (by simpa using e)]
  grind
theorem Kq:∀{fs:Ψ}{y:Nat->Rat},(∀f∈fs,vl f=0)->h_ fs y=0
 |[],_,_=>rfl
 |f::fs,y,h=>by
  show vl f*y 0+h_ fs (λi=>y (i+1))=0;rw[h f aP,Kq λg hg=>h g (aJ _ hg)]
  grind
theorem G9:∀{fs:Ψ}{k:Nat}{f:Ι}{y:Nat->Rat},fs[k]?=some f->(∀(j:Nat)g,j≠k->fs[j]?=some g->vl g=0)->h_ fs y=vl f*y k
 |[],_,_,_,e,_=>by simp at e
 |f0::fs,0,f,y,e,z=>by
  cases e;show vl f0*y 0+h_ fs (λi=>y (i+1))=vl f0*y 0;rw[Kq λg hg=>by
   obtain⟨j,hj⟩:=aX hg;exact z (j+1) g (Nat.succ_ne_zero _) (by simpa using hj)]
  grind
 |f0::fs,k+1,f,y,e,z=>by
  show vl f0*y 0+h_ fs (λi=>y (i+1))=vl f*y (k+1);rw[z 0 f0 (by lia) rfl,G9 (k:=k) (by simpa using e) λj g hj hg=>z (j+1) g (by lia) (by simpa using hg)]
  grind
theorem Hg:∀{fs:Ψ}{r:Ι}{y:Nat->Rat},h_ (fs++[r]) y=h_ fs y+vl r*y fs.length
 |[],r,y=>by
  show vl r*y 0+0=0+vl r*y 0
  grind
 |f::fs,r,y=>by
  show vl f*y 0+h_ (fs++[r]) (λi=>y (i+1))=vl f*y 0+h_ fs (λi=>y (i+1))+vl r*y (fs.length+1);rw[Hg]
  grind
theorem Qq{c:Rat} : ∀{fs:Ψ}{y:Nat->Rat},h_ fs (λi=>c*y i)=c*h_ fs y
 |[],_=>by show(0:Rat)=c*0;grind
 |f::fs,y=>by
  show vl f*(c*y 0)+h_ fs (λi=>c*y (i+1))=c*(vl f*y 0+h_ fs λi=>y (i+1));rw[Qq (y:=λi=>y (i+1))]
  grind
theorem Hh:∀{fs:Ψ}{y z:Nat->Rat},(∀i,i<fs.length->y i=z i)->h_ fs y=h_ fs z
 |[],_,_,_=>rfl
 |f::fs,y,z,h=>by
  show vl f*y 0+h_ fs (λi=>y (i+1))=vl f*z 0+h_ fs λi=>z (i+1);rw[h 0 (by simp),Hh λi hi=>h (i+1) (by simpa using hi)]
theorem Yh{b:Int}{y:Nat->Int} : ∀{fs:Ψ},(∀f∈fs,0<f.2/\f.2 ∣ b)->((iM (fs.map λf=>f.1*(b/f.2)) y:Int):Rat)=(b:Rat)*h_ fs λi=>(y i:Rat)
 |[],_=>by show((0:Int):Rat)=(b:Rat)*0;rw[Rat.intCast_zero];grind
 |f::fs,h=>by
  obtain⟨p,d⟩:=h f aP;have ih:=Yh (y:=λi=>y (i+1)) (fs:=fs) λg hg=>h g (aJ _ hg);show((f.1*(b/f.2)*y 0+iM (fs.map λf=>f.1*(b/f.2)) λi=>y (i+1):Int):Rat)=(b:Rat)*(vl f*(y 0:Rat)+h_ fs λi=>((y (i+1):Int):Rat));rw[Rat.intCast_add,ih,XV,XV];have e:(b:Rat)=(f.2:Rat)*((b/f.2:Int):Rat):=by rw[<- XV,Int.mul_ediv_cancel' d]
  have:=d_ p;unfold vl;generalize((b/f.2:Int):Rat)=m at *;rw[e]
  grind
theorem IsI.sub{p q:Rat}(h:IsI p)(g:IsI q):IsI (p-q):=by
 obtain⟨a,rfl⟩:=h;obtain⟨b,rfl⟩:=g;exact⟨a-b,(Rat.intCast_sub a b).symm⟩
structure JM(s:Ι)(L k n m:Nat)(cs:Θ)(fs:Ψ):Prop where
 len:fs.length=n
 dot:∀y,h_ fs y=y k-vl s*gR cs y
 sz:∀f∈fs,0<f.2/\Int.gcd f.1 f.2=1/\f.2 ∣ (L:Int)/\Wn (((m+1:Nat):Int):Rat) (vl f)
theorem W9:vl (0,1)=0:=(Yq 0).trans Rat.intCast_zero
theorem ahx:vl (1,1)=1:=(Yq 1).trans Rat.intCast_one
theorem JM.unit{s:Ι}{L k n:Nat}(h:k<n):JM s L k n 0 [] ((List.range n).map λj=>kj k j):=by
 refine⟨by rw[ak,List.length_range],λy=>?_,λf hf=>?_⟩
 .rw[G9 (k:=k) (f:=(1,1)) (by rw[aq,List.getElem?_range h];exact ZH some (ZY rfl)) λj g hj hg=>?_]
  .rw[ahx];show _=y k-vl s*0
   grind
  .rw[aq]at hg;by_cases e:j<n
   .rw[List.getElem?_range e]at hg;have hg:kj k j=g:=Option.some.inj hg;rw[<- hg,kj,ZZ hj,W9]
   .rw[aN (by rw[List.length_range];exact Nat.le_of_not_lt e)]at hg;cases hg
 .obtain⟨j,_,rfl⟩:=YV.mp hf;unfold kj;by_cases e:j=k
  .rw[ZY e];exact⟨by decide,by decide,Int.one_dvd _,adg (by decide) (by decide)⟩
  .rw[ZZ e];exact⟨by decide,by decide,Int.one_dvd _,adg (by decide) (by decide)⟩
theorem JM.next{s:Ι}{L k n m:Nat}{cs:Θ}{fs:Ψ}{c:Nat×Int×Int}{f:Ι}{z o x y:Int}(h:JM s L k n m cs fs)(s0:0<=s.1)(s1:s.1<=s.2)(s2:0<s.2)(hc:0<c.2.2/\s.2*c.2.2 ∣ (L:Int)/\0<=c.2.1/\c.2.1<=c.2.2)(e:fs[c.1]?=some f)(l1:Low (s.1*c.2.1) (s.2*c.2.2) z o)(l2:Low (f.1*o-z*f.2) (f.2*o) x y):JM s L k n (m+1) (cs++[c]) (fs.set c.1 (x,y)):=by
 obtain⟨c0,cd,c1,c2⟩:=hc;obtain⟨f0,f1,f2,f3⟩:=h.sz f (aC e);have v1:vl (z,o)=vl s*vl c.2:=by rw[l1.vl (XZ s2 c0)];exact Tz s2 c0
 have v2:vl (x,y)=vl f-vl s*vl c.2:=by rw[l2.vl (XZ f0 l1.pos),adX f0 l1.pos,v1]
 have part:∀a b:Int,0<=a->a<=b->0<b->0<=vl (a,b)/\vl (a,b)<=1:=λa b h0 h1 h2=>by
  have p:(0:Rat)<(b:Rat):=Rat.intCast_pos.mpr h2;unfold vl;exact⟨by rw[tO p,Rat.zero_mul];exact Rat.intCast_nonneg.mpr h0,by rw[Jv p,Rat.one_mul,Rat.intCast_le_intCast];exact h1⟩
 refine⟨by rw[List.length_set,h.len],λY=>?_,λg hg=>?_⟩
 .rw[R9 e,h.dot,ZR,v2]
  grind
 .rcases List.mem_or_eq_of_mem_set hg with z'|rfl
  .obtain⟨a,b,d,w⟩:=h.sz g z';have q:(((m+1:Nat):Int):Rat)<=(((m+1+1:Nat):Int):Rat):=by rw[Rat.intCast_le_intCast];lia
   exact⟨a,b,d,Rat.le_trans (Rat.neg_le_neg q) w.1,Rat.le_trans w.2 q⟩
  .refine⟨l2.pos,l2.gcd,G5 l2.pos l2.gcd ?_,?_⟩
   .rw[v2];have e1:(vl f-vl s*vl c.2)*((L:Int):Rat)=vl f*((L:Int):Rat)-vl (s.1*c.2.1,s.2*c.2.2)*((L:Int):Rat):=by rw[Tz s2 c0];grind
    rw[e1];exact(YT f0 f2).sub (YT (f:=(s.1*c.2.1,s.2*c.2.2)) (XZ s2 c0) cd)
   .rw[v2];obtain⟨p1,p2⟩:=part s.1 s.2 s0 s1 s2;obtain⟨p3,p4⟩:=part c.2.1 c.2.2 c1 c2 c0;have w1:Wn 1 (vl s*vl c.2):=Wn.part (Wn.part (B:=1) (q:=1) ⟨by grind,by grind⟩ p3 p4 |> λh=>by rw[Rat.mul_one]at h;exact h) p1 p2;have e2:(((m+1+1:Nat):Int):Rat)=(((m+1:Nat):Int):Rat)+1:=by rw[Int.natCast_add (m+1) 1,Rat.intCast_add];rfl
    rw[e2];obtain⟨a,b⟩:=f3;obtain⟨d,w⟩:=w1;exact⟨by grind,by grind⟩
structure aaf(s:Ι)(n L:Nat)(fc:FC):Prop where
 L0:0<L
 L9:L<=500000000
 few:fc.2.length<=8
 pay:fc.1.2 ∣ (L:Int)
 ch:∀c∈fc.2,c.1<n/\0<c.2.2/\s.2*c.2.2 ∣ (L:Int)/\0<=c.2.1/\c.2.1<=c.2.2
def VF(s:Ι)(n i:Nat)(c:Option FC)(fs:Ψ):Prop:=(c=none->JM s 1 i n 0 [] fs)/\∀fc,c=some fc->∃L,aaf s n L fc/\JM s L i n fc.2.length fc.2 fs
def ah4(s:Ι)(cs:List (Option FC))(fss:Φ):Prop:=fss.length=cs.length/\∀(i:Nat)c fs,cs[i]?=some c->fss[i]?=some fs->VF s cs.length i c fs
def N5(K:Frag):Sp:=λvs H Q _=>∃(p lc:Addr)(s:Ι)(zs:Μ)(cs:List (Option FC)),vs=[.ref p,.ref lc]/\H p=some (.tup [.int s.1,.int s.2])/\0<=s.1/\s.1<=s.2/\0<s.2/\s.2<=100/\H lc=some (.lst zs)/\Chs K cs.length H zs cs/\cs.length<=12/\(∀fc,some fc∈cs->∃L,aaf s cs.length L fc) /\
 ∀r(ls:Ε)fss H',Same H H'->H r=none->H' r=some (.lst (ls.map V.ref))->qX K H' (ls.map V.ref) fss->ah4 s cs fss->Q (.ref r) H'
def lfJ(K:Frag)(s:Ι)(p lc r:Addr)(ls:Ε)(cs:List (Option FC))(H:Hp)(k:Nat)(σ:L2.St)(H':Hp):Prop:=∃(u3 u4 u5 u6:Option V)(fss:Φ),σ=[some (.ref p),some (.ref lc),some (.ref r),u3,u4,u5,u6]/\Same H H'/\H' r=some (.lst (ls.map V.ref))/\Rds K H' ls fss/\fss.length=cs.length/\∀(i:Nat)c fs,cs[i]?=some c->fss[i]?=some fs->(i<k->VF s cs.length i c fs)/\(k<=i->fs=(List.range cs.length).map λj=>kj i j)
def lgJ(K:Frag)(s:Ι)(p lc r t:Addr)(k L:Nat)(ls:Ε)(n:Nat)(ds:Θ)(fss:Φ)(H:Hp)(m:Nat)(σ:L2.St)(H':Hp):Prop:=∃(u5 u6:Option V)(fs:Ψ),σ=[some (.ref p),some (.ref lc),some (.ref r),some (.int k),some (.ref t),u5,u6]/\Same H H'/\H' r=some (.lst (ls.map V.ref))/\Rds K H' ls (fss.set k fs)/\JM s L k n m (ds.take m) fs
theorem PJ(F:Fun K mU mU vB f fd)(T:Txt K mg D)(rW:OkF P w K mg base 1 mj mQ (Le K))(qp:OkF P w K mg base 3 tR tV (HJ (K:=K) λa b=>a-b))(Ma:OkF P w K mg base 3 Dp CV (Rg (K:=K))):cJ P w K mg base CX0 4 f fd m5 (N5 K):=by
 refine F.ok jV ?_ ?_
 .rintro _ _ _ _ ⟨p,lc,s,zs,cs,rfl,_⟩;rfl
 .rintro cdv A outer s H _ Q E hr ⟨p,lc,sh,zs,cs,rfl,hp,s0,s1,s2,s3,hlc,ch,n12,dw,q⟩;have zl:=ch.len;refine⟨_,(bI (bZ (i:=2) jV.nd (bR rW hr.md (bF (cu cN T.gH PySem.boot_len (bF pv1)))))
   (bI (fL PassesOwn.never rfl (Fw T.rE (bF pv1).mono) (gJ (n:=2) rfl (cG (cB (i:=3) jV.nd) (cG (cB (i:=4) jV.nd) fX)))
    (bO (cW (cD yt pv4 mX (cH _))
     (bO (fL PassesOwn.never rfl (cV ((bT cA pv4 bK)).mono) (gJ (n:=2) rfl (cG (cB (i:=5) jV.nd) (cG (cB (i:=6) jV.nd) fX)))
      (bO (oX (bR qp hr.md (bF (bT bU (bT bU pv2 pv3) pv5) (bF (bR Ma hr.md (bF pv0 (bF pv6)))))) (xZ (bT bU pv2 pv3) pv5 set_list)))))
     cF)))
   (bO (cg pv2)))),?_⟩
  refine b_ λR1 hR1=>?_;refine cL ⟨_,rfl,lc,zs,rfl,hlc,zs.length,rfl,by lia,λr ls H1 S1 fr h1 rd nl npl=>?_⟩;subst hR1;dsimp only[cQ,L2.start,List.set_cons_succ,List.set_cons_zero];refine b_ λR1 hR1=>?_;refine gK (Ae ⟨_,rfl,lc,zs,rfl,S1 _ _ hlc,lfJ K sh p lc r ls cs H,⟨none,none,none,none,_,rfl,S1,h1,rd,?_,?_⟩,?_,?_⟩)
  .unfold Ep;rw[ak,List.length_range,zl]
  .intro i c fs ec ef;refine⟨λz=>by lia,λ_=>?_⟩;unfold Ep at ef;have li:i<zs.length:=by rw[zl];exact(ao.mp ec).1
   rw[aq,List.getElem?_range li,zl]at ef;exact(Option.some.inj ef).symm
  .rintro k x σ' H2 t hx ⟨u3,u4,u5,u6,fss,rfl,S2,h2,rd2,fl,al⟩ hl2 ft;have lk:k<cs.length:=by rw[<- zl];exact(ao.mp hx).1
   have ek:=aj lk;have lf:k<fss.length:=by lia
   have ef:=aj lf;have S3:Same H2 (upd H2 t (.tup [.int k,x])):=Same.upd ft;have e3:upd H2 t (.tup [.int k,x]) t=some (.tup [.int k,x]):=bG;generalize upd H2 t (.tup [.int k,x])=H3 at S3 e3 ⊢;refine⟨t,_,rfl,e3,rfl,_,_,rfl,_,_,rfl,rfl,?_⟩;dsimp only[List.set_cons_succ,List.set_cons_zero];have S23:=S2.trans S3;have go:∀(fss':Φ),fss'.length=cs.length->(∀i,i≠k->fss'[i]?=fss[i]?)->(∀fs,fss'[k]?=some fs->VF sh cs.length k cs[k] fs)->∀(i:Nat)c fs,cs[i]?=some c->fss'[i]?=some fs->(i<k+1->VF sh cs.length i c fs)/\(k+1<=i->fs=(List.range cs.length).map λj=>kj i j):=λfss' _ ot at_ i c fs ec e=>by
    by_cases z:i=k
    .subst z;rw[ek]at ec;cases ec;exact⟨λ_=>at_ fs e,λz=>by lia⟩
    .rw[ot i z]at e;exact⟨λh=>(al i c fs ec e).1 (XX (Nat.le_of_lt_succ h) z),λh=>(al i c fs ec e).2 (aM (Xs _) h)⟩
   have un:=(al k _ _ ek ef).2 (aG k);rcases ch.at_ k _ ek with⟨ec,ez⟩|⟨t',fc,ec,ez,of,df⟩
   .rw[hx]at ez;cases ez;refine sI ⟨_,rfl,rfl,false,rfl,?_⟩;exact⟨S3 _ _ hl2,_,_,_,_,fss,rfl,S23,S3 _ _ h2,rd2.same S3,fl,go fss fl (λ_ _=>rfl) λfs e=>by
     rw[ef]at e;cases e;rw[un];exact⟨λ_=>JM.unit lk,λfc z=>by rw[ec]at z;cases z⟩⟩
   .rw[hx]at ez;cases ez;obtain⟨L,dW⟩:=dw fc (by rw[<- ec];exact aW lk);obtain⟨nm,pp,rr,ys,o1,o2,o3,o4,o5⟩:=of.ex;refine sI ⟨_,rfl,rfl,true,ZH (λb=>V.bl (!b)) (Zp (by intro z;cases z)),?_⟩;refine eN ⟨_,rfl,t',_,2,_,rfl,rfl,S23 _ _ o1,bY (j:=2) rfl,rr,ys,rfl,S23 _ _ o3,lgJ K sh p lc r t' k L ls cs.length fc.2 fss H,⟨u5,u6,fss[k],rfl,S23,S3 _ _ h2,by rw[List.set_getElem_self];exact rd2.same S3,by rw[un];exact JM.unit lk⟩,?_,?_⟩
    .rintro m x σ' H4 hy ⟨v5,v6,fs,rfl,S4,h4,rd4,lr⟩ hrr;have lm:m<fc.2.length:=by rw[<- o4];exact(ao.mp hy).1
     have em:=aj lm;obtain⟨tt,a,x1,x2,x3⟩:=o5 m _ em;rw[hy]at x1;cases x1;have hc:=dW.ch _ (aW lm);have tk:=cj em;generalize fc.2[m]=c at *;obtain⟨c1,c2,c3,c4,c5⟩:=hc;obtain⟨l,el⟩ : ∃l,ls[k]?=some l:=⟨_,aj (by rw[rd2.len];exact lf)⟩;obtain⟨us,hl,fu⟩:=rd4.at_ k l fs el (List.getElem?_set_self lf);have lu:c.1<fs.length:=by rw[lr.len];exact c1
     have eg:=aj lu;have lx:c.1<us.length:=by rw[fu.length];exact lu
     obtain⟨pf,g,eu,eg',sq⟩:=fu.get (aj lx);rw[eg]at eg';have nx:=λ{z o x y:Int}(l1:Low (sh.1*c.2.1) (sh.2*c.2.2) z o)(l2:Low (fs[c.1].1*o-z*fs[c.1].2) (fs[c.1].2*o) x y)=>lr.next s0 s1 s2 ⟨c2,c3,c4,c5⟩ eg l1 l2;have gz:=lr.sz _ (aW lu);generalize fs[c.1]=g0 at *;cases eg';refine⟨tt,_,rfl,S4 _ _ x2,rfl,_,_,rfl,_,_,rfl,rfl,?_⟩;dsimp only[List.set_cons_succ,List.set_cons_zero];refine OD ⟨_,rfl,_,rfl,r,_,(k:Nat),_,rfl,rfl,h4,bY (j:=k) (by rw[aq,el];rfl),_,rfl,l,us,(c.1:Nat),_,rfl,rfl,hl,bY (j:=c.1) (aj lx),?_⟩;rw[eu];obtain⟨g0',g1',g2',g3'⟩:=gz;have L0:=dW.L0;have L9:=dW.L9;have q1:=Int.le_of_dvd (by lia) c3;have q2:c.2.2<=(L:Int):=Int.le_of_dvd (by lia) (Int.dvd_trans (Int.dvd_mul_left _ _) c3);have q3:=Int.le_of_dvd (Int.lt_of_lt_of_le c2 q2) g2';have q4:=aar g0' g3';have q5:sh.1*c.2.1<=sh.2*c.2.2:=Int.mul_le_mul s1 c5 c4 (XY s2);have q6:=Int.mul_nonneg s0 c4;have q7:=XZ s2 c2;have q8:=Nat.mul_le_mul (show m+1<=8 by have:=dW.few;lia) (show g.2.natAbs<=500000000 by lia);refine⟨_,rfl,_,rfl,p,a,sh.1,sh.2,c.2.1,c.2.2,rfl,.of (S4 _ _ hp),S4.tup x3,Bd.sm (by lia),Bd.sm (by omega),Bd.sm (by lia),Bd.sm (by lia),s2,c2,Bd.sm (by lia),λr5 z o l1 f5=>?_⟩;have q9:=l1.lx;have q10:=l1.ly;have S5:Same H4 (upd H4 r5 (.tup [.int z,.int o])):=Same.upd f5;have e5:upd H4 r5 (.tup [.int z,.int o]) r5=_:=bG;generalize upd H4 r5 (.tup [.int z,.int o])=H5 at S5 e5 ⊢;have q11:=Nat.mul_le_mul (show g.2.natAbs<=500000000 by lia) (show o.natAbs<=500000000 by lia);rw[<- Int.natAbs_mul]at q11;refine⟨pf,r5,g.1,g.2,z,o,rfl,S5.tup sq,.of e5,Bd.sm (by lia),Bd.sm (by lia),Bd.sm (by lia),Bd.sm (by lia),g0',l1.pos,Bd.sm (Y3 q11 (by decide)),λr6 x y l2 f6=>?_⟩;have S6:Same H4 (upd H5 r6 (.tup [.int x,.int y])):=S5.trans (Same.upd f6);have e6:upd H5 r6 (.tup [.int x,.int y]) r6=_:=bG;generalize upd H5 r6 (.tup [.int x,.int y])=H6 at S6 e6 ⊢;refine⟨_,rfl,_,rfl,r,_,(k:Nat),_,rfl,rfl,S6 _ _ h4,bY (j:=k) (by rw[aq,el];rfl),_,rfl,l,us,(c.1:Nat),c.1,rfl,rfl,S6 _ _ hl,Wi lx,?_⟩;have lm':l∈ls:=aC el;have SH:=fM (o:=.lst (us.set c.1 (.ref r6))) (nl l lm') (S4.trans S6);have nr:r≠l:=λz=>npl (by rw[z];exact lm');refine⟨SH _ _ o3,_,_,fs.set c.1 (x,y),rfl,SH,(bL nr).trans (S6 _ _ h4),?_,by rw[tk];exact nx l1 l2⟩;have:=(rd4.same S6).put el (S6 _ _ hl) ((fu.same S6).set (f:=(x,y)) (.of e6) c.1);rwa[List.set_set]at this
    .rintro σ' H4 ⟨v5,v6,fs,rfl,S4,h4,rd4,lr⟩ hrr;rw[o4,aQ]at lr;have lf':k<(fss.set k fs).length:=by rw[List.length_set];exact lf
     refine⟨S4 _ _ hlc,_,_,_,_,fss.set k fs,rfl,S4,h4,rd4,by rw[List.length_set];exact fl,go _ (by rw[List.length_set];exact fl) (λi z=>List.getElem?_set_ne (λw=>z w.symm)) λgs e=>?_⟩;rw[List.getElem?_set_self lf]at e;cases e;exact⟨λz=>(by rw[ec]at z;cases z),λfc' z=>(by rw[ec]at z;cases z;exact⟨L,dW,lr⟩)⟩
  .rintro σ' H2 ⟨u3,u4,u5,u6,fss,rfl,S2,h2,rd2,fl,al⟩ hl2;subst hR1;show YC (Ke 2) _ _ _;exact gM ⟨_,rfl,q r ls fss H2 S2 fr h2 rd2.frk ⟨fl,λi c fs ec ef=>(al i c fs ec ef).1 (by rw[zl];exact(ao.mp ec).1)⟩⟩
open Rw
noncomputable def sE(c:Option FC):Int×Int:=c.elim (0,1) (·.1)
noncomputable def ccs(c:Option FC):Θ:=c.elim [] (·.2)
theorem SX{gs:Ψ}{L B N:Nat}(hq:∀f∈gs,Fq f)(h:∀f∈gs,f.2 ∣ (L:Int)/\f.1.natAbs<=B*f.2.natAbs)(L0:0<L)(LN:L<=N)(BN:B*L<=N):Big N (lvR gs):=by
 have dv:lvB gs ∣ L:=Lv.GR.mpr λc hc=>by
  unfold T_ at hc;obtain⟨f,hf,rfl⟩:=YV.mp hc;have:=Int.natAbs_dvd_natAbs.mpr (h f hf).1;rwa[XT]at this
 have le:=Nat.le_of_dvd L0 dv;refine⟨?_,?_,λt ht=>?_⟩
 .have:=Cj hq;show(0:Int)<(lvB gs:Nat);lia
 .show((lvB gs:Nat):Int).natAbs<=_;rw[XT];exact aM le LN
 .obtain⟨f,hf,rfl⟩:=YV.mp ht;obtain⟨d,e⟩:=h f hf;have m:=Int.mul_ediv_cancel' (MN hf (hq f hf));rw[Int.natAbs_mul];have m2:=ZH Int.natAbs m;rw[Int.natAbs_mul,XT]at m2;have q:=Nat.mul_le_mul_right (((lvB gs:Nat):Int)/f.2).natAbs e;rw[Nat.mul_assoc,m2]at q;exact aM q (aM (Nat.mul_le_mul_left _ le) BN)
theorem yC{gs:Ψ}{L:Nat}(h:∀f∈gs,0<f.2/\Int.gcd f.1 f.2=1/\f.2 ∣ (L:Int)/\f.1.natAbs<=10^30*f.2.natAbs)(L0:0<L)(L9:L<=500000000):(∀f∈gs,Fq f)/\Big (10^39) (lvR gs):=by
 have hq:∀f∈gs,Fq f:=λf hf=>by
  obtain⟨a,b,d,e⟩:=h f hf;have q:=Int.le_of_dvd (by lia) d;have q2:f.2.natAbs<=500000000:=by lia
  have q3:=Nat.mul_le_mul (aG (10^30)) q2;exact⟨a,b,aM e (aM q3 (by decide)),aM q2 (by decide)⟩
 exact⟨hq,SX hq (λf hf=>(h f hf).2.2) L0 (aM L9 (by decide)) (aM (Nat.mul_le_mul_left _ L9) (by decide))⟩
theorem Vq{gs:Ψ}{y:Nat->Int}(hq:∀f∈gs,Fq f)(k:iM (lvR gs).1 y=0):h_ gs (λi=>(y i:Rat))=0:=by
 have e:=Yh (b:=(lvB gs:Nat)) (y:=y) (fs:=gs) λf hf=>⟨(hq f hf).pos,MN hf (hq f hf)⟩;have k:iM (gs.map λf=>f.1*(((lvB gs:Nat):Int)/f.2)) y=0:=k;rw[k,Rat.intCast_zero]at e;have:=d_ (show(0:Int)<(lvB gs:Nat)by have:=Cj hq;lia)
 grind
theorem Vg{B:Rat}{G:Nat->Rat} : ∀{cs:Θ},(∀c∈cs,0<c.2.2/\0<=c.2.1)->(∀c∈cs,Wn B (G c.1))->Wn (gR cs (λ_=>1)*B) (gR cs G)
 |[],_,_=>by
  show Wn (0*B) 0;rw[Rat.zero_mul];exact⟨by grind,by grind⟩
 |c::cs,h,g=>by
  obtain⟨a,b⟩:=h c aP;obtain⟨d,e⟩:=g c aP;have⟨i1,i2⟩:=Vg (cs:=cs) (λc hc=>h c (aJ _ hc)) λc hc=>g c (aJ _ hc);have c0:0<=vl c.2:=by
   unfold vl;rw[tO (Rat.intCast_pos.mpr a),Rat.zero_mul];exact Rat.intCast_nonneg.mpr b
  have k1:=Rat.mul_le_mul_of_nonneg_left d c0;have k2:=Rat.mul_le_mul_of_nonneg_left e c0;show Wn ((vl c.2*1+gR cs λ_=>1)*B) (vl c.2*G c.1+gR cs G);exact⟨by grind,by grind⟩
structure acM(fc:FC):Prop where
 f0:0<fc.1.2
 gc:Int.gcd fc.1.1 fc.1.2=1
 big:fc.1.1.natAbs<=10^30
 one:gR fc.2 (λ_=>1)=1
structure iw(s:Ι)(cs:List (Option FC))(fss:Φ):Prop where
 sys:ah4 s cs fss
 pay:∀fc,some fc∈cs->acM fc
 s0:0<=s.1
 s1:s.1<s.2
 n8:cs.length<=8
theorem iw.row{s:Ι}{cs:List (Option FC)}{fss:Φ}(h:iw s cs fss){i:Nat}{c:Option FC}{fs:Ψ}(ec:cs[i]?=some c)(ef:fss[i]?=some fs):((∀f∈fs++[sE c],Fq f)/\Big (10^39) (lvR (fs++[sE c])))/\fs.length=cs.length/\∀y,h_ fs y=y i-vl s*gR (ccs c) y:=by
 have r:=h.sys.2 i c fs ec ef;have q:∀(m:Nat)(f:Ι),m<=8->0<f.2->Wn (((m+1:Nat):Int):Rat) (vl f)->f.1.natAbs<=10^30*f.2.natAbs:=λm f hm f0 w=>aM (aar f0 w) (Nat.mul_le_mul_right _ (aM (show m+1<=9 by exact Nat.succ_le_succ hm) (by decide)));cases c with
 |none =>
  have r:=r.1 rfl;exact⟨yC (L:=1) (λf hf=>by
   rcases Y1.mp hf with z|z
   .obtain⟨a,b,d,e⟩:=r.sz f z;exact⟨a,b,d,q 0 f (by decide) a e⟩
   .rw[YR.mp z];exact⟨(by decide:(0:Int)<1),by decide,Int.one_dvd _,bA _⟩) (by decide) (by decide),r.len,r.dot⟩
 |some fc =>
  obtain⟨L,dW,r⟩:=r.2 fc rfl;have p:=h.pay fc (aC ec);exact⟨yC (L:=L) (λf hf=>by
   rcases Y1.mp hf with z|z
   .obtain⟨a,b,d,e⟩:=r.sz f z;exact⟨a,b,d,q _ f dW.few a e⟩
   .rw[YR.mp z];exact⟨p.f0,p.gc,dW.pay,aM p.big (Nat.le_mul_of_pos_right _ (by have:=p.f0;show 0<fc.1.2.natAbs;omega))⟩) dW.L0 dW.L9,r.len,r.dot⟩
theorem iw.rows{s:Ι}{cs:List (Option FC)}{fss:Φ}(h:iw s cs fss):∀gs∈iB fss (cs.map sE),(∀f∈gs,Fq f)/\Big (10^39) (lvR gs):=λgs hg=>by
 unfold iB at hg;obtain⟨i,hi,rfl⟩:=List.mem_iff_getElem.mp hg;rw[List.length_zipWith,ak]at hi;rw[List.getElem_zipWith,List.getElem_map];exact(h.row (i:=i) (aj (by lia)) (aj (by lia))).1
theorem iw.ker{s:Ι}{cs:List (Option FC)}{fss:Φ}(h:iw s cs fss){y:Nat->Int}(k:yU ((iB fss (cs.map sE)).map lvR) y){i:Nat}{c:Option FC}(ec:cs[i]?=some c):(y i:Rat)-vl s*gR (ccs c) (λj=>(y j:Rat))+vl (sE c)*(y cs.length:Rat)=0:=by
 have fl:=h.sys.1;have li:i<cs.length:=(ao.mp ec).1;have ef:=aj (show i<fss.length by lia);obtain⟨⟨hq,_⟩,ln,dt⟩:=h.row ec ef;have eg:(iB fss (cs.map sE))[i]?=some (fss[i]++[sE c]):=by
  unfold iB;rw[List.getElem?_zipWith,ef,aq,ec];rfl
 have k:=k i (by rw[ak];exact(ao.mp eg).1);have er:rowAt ((iB fss (cs.map sE)).map lvR) i=lvR (fss[i]++[sE c]):=by
  unfold rowAt;rw[au,aq,eg];rfl
 rw[er]at k;have e:=Vq hq k;rw[Hg,dt,ln]at e;exact e
theorem iw.inj{s:Ι}{cs:List (Option FC)}{fss:Φ}(h:iw s cs fss){y:Nat->Int}(k:yU ((iB fss (cs.map sE)).map lvR) y)(yn:y cs.length=0):∀j,j<cs.length->y j=0:=by
 intro j hj;obtain⟨m,hm,mx⟩:=aaF y (n:=cs.length) (by lia);have s2:0<s.2:=Int.lt_of_le_of_lt h.s0 h.s1;have e:=h.ker k (aj hm);have mem:=aW hm;have lt:∀fc,cs[m]=some fc->∀c∈fc.2,c.1<cs.length/\0<c.2.2/\0<=c.2.1:=λfc z c hc=>by
  obtain⟨L,dW,_⟩:=(h.sys.2 m _ _ (aj hm) (aj (show m<fss.length by rw[h.sys.1];exact hm))).2 fc z;obtain⟨a,b,_,d,_⟩:=dW.ch c hc;exact⟨a,b,d⟩
 rw[yn,Rat.intCast_zero,Rat.mul_zero,Rat.add_zero]at e;have y0:y m=0:=by
  generalize cs[m]=c at *;cases c with
  |none =>
   have e:(y m:Rat)-vl s*0=0:=e;refine Rat.intCast_inj.mp ?_;rw[Rat.intCast_zero]
   grind
  |some fc =>
   have e:(y m:Rat)-vl s*gR fc.2 (λj=>(y j:Rat))=0:=e;have w:=Vg (B:=(((y m).natAbs:Int):Rat)) (G:=λj=>(y j:Rat)) (cs:=fc.2) (λc hc=>(lt fc rfl c hc).2) λc hc=>by
    have:=mx c.1 (lt fc rfl c hc).1;exact⟨by rw[<- Rat.intCast_neg,Rat.intCast_le_intCast];lia,by rw[Rat.intCast_le_intCast];lia⟩
   rw[(h.pay fc mem).one,Rat.one_mul]at w;have p:(0:Rat)<(s.2:Rat):=Rat.intCast_pos.mpr s2;have q0:0<=vl s:=by
    unfold vl;rw[tO p,Rat.zero_mul];exact Rat.intCast_nonneg.mpr h.s0
   have q1:vl s<1:=by
    unfold vl;rw[Rat.div_lt_iff p,Rat.one_mul,Rat.intCast_lt_intCast];exact h.s1
   have b0:(0:Rat)<=(((y m).natAbs:Int):Rat):=Rat.intCast_nonneg.mpr (Wp _);obtain⟨w1,w2⟩:=w;have k1:=Rat.mul_le_mul_of_nonneg_left w1 q0;have k2:=Rat.mul_le_mul_of_nonneg_left w2 q0;have ab:(((y m).natAbs:Int):Rat)=(y m:Rat)\/(((y m).natAbs:Int):Rat)=-(y m:Rat):=by
    rcases(show((y m).natAbs:Int)=y m\/((y m).natAbs:Int)=-(y m)by lia)with z|z
    .exact .inl (by rw[z])
    .exact .inr (by rw[z,Rat.intCast_neg])
   generalize gR fc.2 (λj=>(y j:Rat))=q at *;have le:(((y m).natAbs:Int):Rat)<=vl s*(((y m).natAbs:Int):Rat):=by
    rcases ab with z|z<;>rw[z]at k1 k2 ⊢<;>grind
   by_cases z:(y m).natAbs=0
   .lia
   .have b1:(0:Rat)<(((y m).natAbs:Int):Rat):=Rat.intCast_pos.mpr (by lia);have k3:=Rat.mul_lt_mul_of_pos_right q1 b1;rw[Rat.one_mul]at k3;exact absurd le (Rat.not_le.mpr k3)
 have:=mx j hj;lia
structure Lw(s:Ι)(cs:List (Option FC))(as:Ψ):Prop where
 len:as.length=cs.length
 low:∀a∈as,0<a.2/\Int.gcd a.1 a.2=1
 wb:Wb as
 at_:∀(i:Nat)c a,cs[i]?=some c->as[i]?=some a->(c=none->vl a=0)/\∀fc,c=some fc->vl a=V4 s fc.1 fc.2 as
theorem ada{n:Nat}(h:n<=8):MB n (10^39)<=10^330:=by
 refine aM (Nat.pow_le_pow_left (Nat.mul_le_mul_right _ (show 2*n<=16 by lia)) n) (aM (XU (by decide) h) (by decide +kernel))
def JV(rsE:List Row)(n:Nat):Ψ:=(List.range n).map λi=>Ac.lw ((rowAt rsE i).1.getD n 0) (rowAt rsE i).2
structure ahR(rsE:List Row)(n N:Nat):Prop where
 len:(JV rsE n).length=n
 low:∀a∈JV rsE n,0<a.2/\Int.gcd a.1 a.2=1/\a.1.natAbs<=MB n N/\a.2.natAbs<=MB n N
 ne:(yV rsE n:Rat)≠0
 sol:∀i,i<n->(J7 rsE n i:Rat)=(yV rsE n:Rat)*K24.wq (JV rsE n) i
theorem Yo{rsE:List Row}{n N:Nat}(el:rsE.length=n)(hb:∀r∈rsE,Big (MB n N) r/\r.1.length=n+1):ahR rsE n N:=by
 have pos:∀r∈rsE,0<r.2/\r.1.length=n+1:=λr hr=>⟨(hb r hr).1.pos,(hb r hr).2⟩;refine⟨by unfold JV;rw[ak,List.length_range],λa ha=>?_,d_ (aad el pos),λi hi=>?_⟩
 .obtain⟨i,hi,rfl⟩:=YV.mp ha;have hi:=List.mem_range.mp hi;obtain⟨bg,ln⟩:=hb _ (cC (rs:=rsE) (i:=i) (by lia));have t:((rowAt rsE i).1.getD n 0).natAbs<=MB n N:=by
   rw[au,aj (by rw[ln];exact X1 _)];exact bg.top _ (aW _)
  exact⟨Ac.iG bg.pos,Ac.rQ bg.pos,aM (Ac.IK _ _) t,aM (Ac.En _ _) bg.bot⟩
 .have e:=aem hi el pos;have p:=Ac.iG (t:=(rowAt rsE i).1.getD n 0) (pos _ (cC (rs:=rsE) (i:=i) (by lia))).1;unfold K24.wq JV;rw[au,aq,List.getElem?_range hi];show _=_*vl (Ac.lw ((rowAt rsE i).1.getD n 0) (rowAt rsE i).2);generalize Ac.lw ((rowAt rsE i).1.getD n 0) (rowAt rsE i).2=a at *;have:=d_ p;have e2:(J7 rsE n i:Rat)*(a.2:Rat)=(a.1:Rat)*(yV rsE n:Rat):=by rw[<- XV,<- XV,e]
  unfold vl
  grind
theorem iw.worth{s:Ι}{cs:List (Option FC)}{fss:Φ}(h:iw s cs fss){rsE:List Row}(el:rsE.length=cs.length)(hb:∀r∈rsE,Big (MB cs.length (10^39)) r/\r.1.length=cs.length+1)(k:yU ((iB fss (cs.map sE)).map lvR) (J7 rsE cs.length)):Lw s cs (JV rsE cs.length):=by
 obtain⟨ln,low,ne,sol⟩:=Yo el hb;have mb:=ada h.n8;refine⟨ln,λa ha=>⟨(low a ha).1,(low a ha).2.1⟩,λa ha=>?_,λi c a ec ea=>?_⟩
 .obtain⟨p,_,b1,b2⟩:=low a ha;exact⟨p,aM (aM b1 mb) (XU (by decide) (by decide)),aM (aM b2 mb) (XU (by decide) (by decide))⟩
 .have li:i<cs.length:=(ao.mp ec).1;have e:=h.ker k ec;rw[Ub,Rat.intCast_neg,sol i li]at e;have ew:K24.wq (JV rsE cs.length) i=vl a:=by
   unfold K24.wq;rw[au,ea];rfl
  rw[ew]at e;cases c with
  |none =>
   have e:(yV rsE cs.length:Rat)*vl a-vl s*0+vl (0,1) * -(yV rsE cs.length:Rat)=0:=e;rw[W9]at e;exact⟨λ_=>(by grind),λfc z=>(by cases z)⟩
  |some fc =>
   refine⟨λz=>(by cases z),λfc' z=>?_⟩;cases z;have e:(yV rsE cs.length:Rat)*vl a-vl s*gR fc.2 (λj=>(J7 rsE cs.length j:Rat))+vl fc.1 * -(yV rsE cs.length:Rat)=0:=e;obtain⟨L,dW,_⟩:=(h.sys.2 i _ _ ec (aj (show i<fss.length by rw[h.sys.1];exact li))).2 fc rfl;rw[Wz λc hc=>sol c.1 (dW.ch c hc).1]at e;unfold V4
   grind
def acs(rms:List (Str×List Dr))(pl:List (Option Nat)):Prop:=pl.length=rms.length/\∀k x,(pl.map stV)[k]?=some x->JQ x (dnR rms k)=true
theorem Qm{o p l:Addr}{rms:List (Str×List Dr)}{pl:List (Option Nat)}{H:Hp}{Q:VK}{E:XK}(hh:j5 D H o p rms)(few:Ef rms)(hl:H l=some (.lst (pl.map stV)))(h:acs rms pl)(q:∀H',Same H H'->Q (.bl true) H'):Gg D [.ref o,.ref l] H Q E:=by
 refine⟨o,p,l,rms,_,rfl,hh,few,hl,by rw[ak];exact h.1,λk x e=>⟨?_,h.2 k x e⟩,q⟩;obtain⟨c,_,rfl⟩:=YV.mp (aC e);cases c<;>exact⟨_,rfl⟩
def Z_(s:Ι)(fcss:List (List FC)):Prop:=0<=s.1/\s.1<s.2/\s.2<=100/\fcss.length<=8/\∀fcs∈fcss,∀fc∈fcs,(∃L,aaf s fcss.length L fc)/\acM fc
def ZG(K:Frag)(D:Adr):Sp:=λvs H Q _=>∃(o p l:Addr)(rms:List (Str×List Dr))(s:Ι)(fcss:List (List FC))(pl:List (Option Nat)),vs=[.ref o,.ref l]/\j5 D H o p rms/\Ef rms/\acs rms pl/\H l=some (.lst (pl.map stV))/\Ih fcss pl/\zu K D H o s fcss/\H p=some (.tup [.int s.1,.int s.2])/\Z_ s fcss /\
  ∀a zs as H',Same H H'->H a=none->H' a=some (.lst zs)->FL H' zs as->Lw s (pick fcss pl) as->Q (.ref a) H'
theorem acp{H:Hp}{xs:Μ}{fs:Ψ}(h:Jk (λv f=>∃a,v=V.ref a/\SqT K H a [.int f.1,.int f.2]) xs fs):FLK K H xs fs:=FLK.of h.len λj f e=>by
 have lj:j<xs.length:=by rw[h.len];exact(ao.mp e).1
 obtain⟨a,b,c⟩:=h.at_ j _ f (aj lj) e;exact⟨a,by rw[aj lj,b],c⟩
theorem MK(F:Fun K qd qd rC f fd)(T:Txt K mg D)(jX:OkF P w K mg base 4 kO j9 (Gg D))(iu:OkF P w K mg base 4 iY iV (Uo K D))(lU:OkF P w K mg base 4 mU m5 (N5 K))(i_:OkF P w K mg base 8 jt jG (qT K)):cJ P w K mg base CX0 9 f fd qe (ZG K D):=by
 refine F.ok uz ?_ ?_
 .rintro _ _ _ _ ⟨o,p,l,rms,s,fcss,pl,rfl,_⟩;rfl
 .rintro cdv A outer s H _ Q E hr ⟨o,p,l,rms,sh,fcss,pl,rfl,hh,few,fr,hl,ft,hn,hp,⟨s0,s1,s3,n8,dw⟩,q⟩;obtain⟨dx,nn,ll,zs0,ho,_,_,_⟩:=id hh;refine⟨_,(bI (cX (bR jX hr.md (bF pv0 (bF pv1))))
   (bI (bZ (i:=2) uz.nd (bR iu hr.md (bF pv0 (bF pv1))))
   (bI (yh (bQ rC) wN wN ["offer"] (cV (pv 2).mono) (dH (i:=0)) cU (Dl (cD Ut pv0 mX (cH _)) (dX T.jo) (bT cA pv0 bK)) (cB (i:=3) uz.nd))
   (bO (cg (bR i_ hr.md (bF (bR lU hr.md (bF (sV pv0 rfl) (bF pv2))) (bF pv3)))))))),?_⟩
  refine b_ λR1 hR1=>?_;refine gK ⟨_,rfl,_,rfl,?_⟩;dsimp only[Fd];refine Qm hh few hl fr λH1 S1=>?_;have cl:=jD ft;subst hR1;refine b_ λR1 hR1=>?_;refine cL ⟨_,rfl,_,rfl,o,l,sh,fcss,pl,rfl,hn.same S1,S1 _ _ hl,ft,λlc zs H2 S2 f2 h2 ch=>?_⟩;have S02:=S1.trans S2;rw[<- cl]at ch;have zl:=ch.len;subst hR1;dsimp only[cQ,L2.start,List.set_cons_succ,List.set_cons_zero];refine b_ λR1 hR1=>?_;refine cL (WT (λH v f=>∃a,v=V.ref a/\SqT K H a [.int f.1,.int f.2]) ((pick fcss pl).map sE) (λS z=>?_) rfl h2 (by rw[ak];exact zl) (by rw[ak,cl];exact aM n8 (by decide)) (λk x t Hc D1 ys R' hx ht Sc h1 r'=>?_) λlp H3 ys S3 f3 h3 al=>?_)
  .obtain⟨a,e,h⟩:=z;exact⟨a,e,S.tup h⟩
  .rw[aq]at ht;cases ec:(pick fcss pl)[k]? with
   |none=>rw[ec]at ht;cases ht
   |some c =>
    rw[ec]at ht;cases ht;rcases ch.at_ k c ec with⟨rfl,ez⟩|⟨tt,fc,rfl,ez,of,_⟩
    .rw[hx]at ez;cases ez;exact⟨_,rfl,rfl,true,rfl,r' _ Hc (λ_ _ z=>z) ⟨D.NOUGHT,rfl,T.jY _⟩⟩
    .rw[hx]at ez;cases ez;obtain⟨nm,pp,rr,us,o1,o2,_⟩:=of.ex;exact⟨_,rfl,rfl,false,ZH V.bl (Zp (by intro z;cases z)),_,rfl,tt,_,1,_,rfl,rfl,Sc _ _ o1,cR,r' _ Hc (λ_ _ z=>z) ⟨pp,rfl,.of (je (by
      simp only[YR];exact d8 (Sc _ _ o2) h1) (Sc _ _ o2))⟩⟩
  have S03:=S02.trans S3;have fp:FLK K H3 ys ((pick fcss pl).map sE):=(acp al).same wM;subst hR1;dsimp only[cQ,List.set_cons_succ,List.set_cons_zero];refine gM ⟨_,rfl,o,D.Hall,dx,_,_,rfl,S03 _ _ ho,T.tK,T.sH,rfl,_,rfl,p,lc,sh,zs,pick fcss pl,rfl,S03 _ _ hp,s0,by exact XY s1,by exact Int.lt_of_le_of_lt s0 s1,s3,S3 _ _ h2,ch.same S3,by lia,λfc hf=>?_,λr ls fss H4 S4 f4 h4 fr sy=>⟨_,rfl,r,lp,_,ys,fss,(pick fcss pl).map sE,(pick fcss pl).length,10^39,rfl,h4,fr,S4 _ _ h3,fp.same S4,sy.1,ak _,by lia,?_,?_,by decide,?_,?_,?_⟩⟩
  .obtain⟨fcs,a,b⟩:=CT hf;rw[cl];exact(dw fcs a fc b).1
  all_goals have pp:iw sh (pick fcss pl) fss:=⟨sy,λfc hf=>(by obtain⟨fcs,a,b⟩:=CT hf;exact(dw fcs a fc b).2),s0,s1,by lia⟩
  .intro fs hf;obtain⟨i,ei⟩:=aX hf;have li:i<(pick fcss pl).length:=by rw[<- sy.1];exact(ao.mp ei).1
   exact(pp.row (aj li) ei).2.1
  .exact pp.rows
  .exact aM (ada pp.n8) (show 10^330<=NN by decide +kernel)
  .exact λy k yn=>pp.inj k yn
  .exact λa zs' H5 rsE S5 f5 h5 el hb k fl=>q a zs' _ H5 (S03.trans (S4.trans S5)) (S03.free (S4.free f5)) h5 fl (pp.worth el hb k)
noncomputable def trF(n:Nat)(fss:Φ):Φ:=(List.range n).map λj=>fss.map λfs=>fs.getD j (0,1)
def KR(K:Frag):Sp:=λvs H Q _=>∃(l:Addr)(xs:Μ)(fss:Φ)(n:Nat),vs=[.ref l]/\H l=some (.lst xs)/\qX K H xs fss/\fss.length=n/\n<=20/\(∀fs∈fss,fs.length=n)/\∀r(ls:Ε)H',Same H H'->H r=none->H' r=some (.lst (ls.map V.ref))->qX K H' (ls.map V.ref) (trF n fss)->Q (.ref r) H'
theorem WM(F:Fun K yK yK yj f fd)(T:Txt K mg D):cJ P w K mg base CX0 1 f fd yE (KR K):=by
 refine F.ok Xc ?_ ?_
 .rintro _ _ _ _ ⟨l,xs,fss,n,rfl,_⟩;rfl
 .rintro cdv A outer s H _ Q E hr ⟨l,xs,fss,n,rfl,hl,fr,fn,hn,fw,q⟩;have z9:100<sizeLine:=by decide
  have xl:xs.length=n:=by rw[fr.len,fn]
  refine⟨_,(bO (cg (Ux (bQ yj) vp vp "column" (eF T.gY (bF (cu cN T.gH PySem.boot_len (bF pv0))).mono) Ui cU (Ti (bQ yj) ("column"::vp) ("column"::vp) ["row"] (Rf (K:=K) rfl (pv 1).mono) (dH (i:=0)) cU (bT bU pv0 pv1))))),?_⟩;refine gM (iI ?_);refine⟨_,rfl,l,xs,rfl,hl,n,by rw[xl],by exact aM hn (by decide),λD1 hD=>⟨λk zs Hc=>∃ls,zs=ls.map V.ref/\Same H Hc/\Hc D1=some (.lst zs)/\Rds K Hc ls ((trF n fss).take k)/\D1∉ls,⟨[],rfl,Same.upd hD,bG,⟨rfl,List.nodup_nil,λk l fs e=>by simp at e⟩,by simp⟩,?_,?_⟩⟩
  .rintro k zs Hc hk ⟨ls,rfl,S1,c1,fz,nd⟩ hzl;refine cM ?_;refine⟨_,rfl,l,xs,rfl,S1 _ _ hl,by lia,λD2 hD2=>⟨λj ys H2=>Same Hc H2/\H2 D2=some (.lst ys)/\FLK K H2 ys ((fss.map λfs=>fs.getD k (0,1)).take j),⟨Same.upd hD2,bG,.nil⟩,?_,?_⟩⟩
   .rintro j v ys H2 hj ⟨S2,c2,fl⟩ hyl hlc;obtain⟨lr,us,rfl,u1,u2⟩:=fr.at_ j v hj;have lj:j<fss.length:=by rw[<- fr.len];exact(ao.mp hj).1
    have ej:=aj lj;rw[au,ej]at u2;have wj:=fw _ (aW lj);have S12:=S1.trans S2;have lu:k<us.length:=by rw[u2.length];show k<fss[j].length;lia
    obtain⟨p,g,ex,eg,hg⟩:=u2.get (aj lu);have en:(fss.map λfs=>fs.getD k (0,1))[j]?=some g:=by
     rw[aq,ej];show some (fss[j].getD k (0,1))=_;rw[au,show fss[j][k]?=some g from eg];rfl
    refine⟨_,rfl,_,rfl,lr,us,(k:Nat),_,rfl,rfl,S12 _ _ u1,bY (j:=k) (by rw[aj lu,ex]),⟨c2,hlc,fM hD2 S2,bG,?_⟩⟩;rw[cj en];exact(fl.append (.cons (f:=g) (S12.tup hg) .nil)).updL c2
   .rintro ys H2 ⟨S2,c2,fl⟩ hyl;rw[aL (by rw[ak,fr.len];exact aG _)]at fl;have eu:(trF n fss)[k]?=some (fss.map λfs=>fs.getD k (0,1)):=by unfold trF;rw[aq,List.getElem?_range hk];rfl
    have nD:D1≠D2:=bH c1 hD2;have d1:=S2 _ _ c1;have n2:D2∉ls:=λz=>by
     obtain⟨i,hi⟩:=aX z;have li:i<((trF n fss).take k).length:=by rw[<- fz.len];exact(ao.mp hi).1
     obtain⟨us,a,_⟩:=fz.at_ i _ _ hi (aj li);rw[hD2]at a;cases a
    have nn:D1∉ls++[D2]:=λz=>by
     rcases Y1.mp z with z|z
     .exact nd z
     .exact nD (YR.mp z)
    refine⟨d1,ls++[D2],by rw[bC];rfl,fM hD (S1.trans S2),bG,?_,nn⟩;rw[cj eu];exact((fz.same S2).snoc n2 c2 fl).off d1 nn
  .rintro zs Hc ⟨ls,rfl,S1,c1,fz,nd⟩ hzl;rw[aL (by unfold trF;rw[ak,List.length_range];exact aG _)]at fz;exact q D1 ls Hc S1 hD c1 fz.frk
noncomputable def fK(f:Nat->Rat):Nat->Rat
 |0=>0
 |n+1=>fK f n+f n
theorem eG{f g:Nat->Rat} : ∀{n:Nat},(∀d,d<n->f d=g d)->fK f n=fK g n
 |0,_=>rfl
 |n+1,h=>by
  show fK f n+f n=fK g n+g n;rw[eG λd hd=>h d (WU _ hd),h n (X1 _)]
theorem Af{x:Rat} : ∀{n:Nat},fK (λ_=>x) n=((n:Int):Rat)*x
 |0=>by
  show(0:Rat)=((0:Int):Rat)*x;rw[Rat.intCast_zero,Rat.zero_mul]
 |n+1=>by
  show fK (λ_=>x) n+x=(((n:Int)+1:Int):Rat)*x;rw[Af,Rat.intCast_add,Rat.intCast_one]
  grind
theorem Bp{f g:Nat->Rat}{a b:Rat} : ∀{n:Nat},fK (λd=>a*f d+b*g d) n=a*fK f n+b*fK g n
 |0=>by
  show(0:Rat)=a*0+b*0
  grind
 |n+1=>by
  show fK (λd=>a*f d+b*g d) n+(a*f n+b*g n)=a*(fK f n+f n)+b*(fK g n+g n);rw[Bp]
  grind
theorem Qo{f:Nat->Rat}{a:Nat} : ∀{b:Nat},fK f (a+b)=fK f a+fK (λd=>f (a+d)) b
 |0=>by
  show fK f a=fK f a+0
  grind
 |b+1=>by
  show fK f (a+b)+f (a+b)=fK f a+(fK (λd=>f (a+d)) b+f (a+b));rw[Qo]
  grind
theorem ZJ{x y:Ι}(a0:0<x.2)(a1:Int.gcd x.1 x.2=1)(b0:0<y.2)(e:vl x=vl y):x.2 ∣ y.2:=by
 have e3:((y.2.natAbs:Nat):Int)=y.2:=by exact Int.natAbs_of_nonneg (XY b0)
 have:=G5 (N:=y.2.natAbs) a0 a1 ⟨y.1,by
  rw[e3,e];have:=d_ b0;unfold vl
  grind⟩
 rwa[e3]at this
theorem aaW{x y u v:Int}(a0:0<y)(a1:Int.gcd x y=1)(b0:0<v)(b1:Int.gcd u v=1)(e:vl (x,y)=vl (u,v)):x=u/\y=v:=by
 have d1:y ∣ v:=ZJ (x:=(x,y)) (y:=(u,v)) a0 a1 b0 e;have d2:v ∣ y:=ZJ (x:=(u,v)) (y:=(x,y)) b0 b1 a0 e.symm;have e2:y=v:=Int.le_antisymm (Int.le_of_dvd b0 d1) (Int.le_of_dvd a0 d2);subst e2;have c:x*y=u*y:=Sw (x:=(x,y)) (y:=(u,y)) a0 a0 e;exact⟨Int.eq_of_mul_eq_mul_right (Int.ne_of_gt a0) c,rfl⟩
open Rw
theorem uD{f:Nat->Rat}{n:Nat} : fK f (n+1)=f 0+fK (λi=>f (i+1)) n:=by
 rw[Nat.add_comm n 1,Qo];show(0+f 0)+fK (λd=>f (1+d)) n=_;rw[eG (g:=λi=>f (i+1)) λd _=>by rw[Nat.add_comm]]
 grind
theorem K9{f:Nat->Rat} : ∀{n:Nat},(∀i,i<n->0<=f i)->0<=fK f n/\(fK f n=0->∀i,i<n->f i=0)
 |0,_=>⟨Rat.le_refl,λ_ i z=>absurd z (WV _)⟩
 |n+1,h=>by
  obtain⟨a,b⟩:=K9 (f:=f) (n:=n) λi hi=>h i (WU _ hi);have c:=h n (X1 _);show 0<=fK f n+f n/\(fK f n+f n=0->_);refine⟨by grind,λe i hi=>?_⟩;have e1:fK f n=0:=by grind
  have e2:f n=0:=by grind
  by_cases z:i=n
  .rw[z];exact e2
  .exact b e1 i (XX (Nat.le_of_lt_succ hi) z)
theorem Py:∀{fs:Ψ}{x:Nat->Rat},fK (λj=>x j*vl (fs.getD j (0,1))) fs.length=h_ fs x
 |[],_=>rfl
 |f::fs,x=>by
  rw[List.length_cons,uD];show x 0*vl f+fK (λj=>x (j+1)*vl (fs.getD j (0,1))) fs.length=vl f*x 0+h_ fs λi=>x (i+1);rw[Py (x:=λi=>x (i+1))]
  grind
theorem Ku{n:Nat}{x:Nat->Rat} : ∀{fss:Φ}{y:Nat->Rat},(∀fs∈fss,fs.length=n)->fK (λj=>x j*h_ (fss.map λfs=>fs.getD j (0,1)) y) n=fK (λi=>y i*h_ (fss.getD i []) x) fss.length
 |[],y,_=>by
  show fK (λj=>x j*0) n=0;rw[eG (g:=λ_=>0) λj _=>Rat.mul_zero _,Af,Rat.mul_zero]
 |fs::fss,y,h=>by
  have ih:=Ku (n:=n) (x:=x) (fss:=fss) (y:=λi=>y (i+1)) λg hg=>h g (aJ _ hg);have e:=Py (fs:=fs) (x:=x);rw[h fs aP]at e;rw[List.length_cons,uD,eG (g:=λj=>y 0*(λj=>x j*vl (fs.getD j (0,1))) j+1*(λj=>x j*h_ (fss.map λfs=>fs.getD j (0,1)) λi=>y (i+1)) j) λj _=>by
   show x j*(vl (fs.getD j (0,1))*y 0+h_ (fss.map λfs=>fs.getD j (0,1)) λi=>y (i+1))=_
   grind,Bp,e,ih]
  show y 0*h_ fs x+1*_=y 0*h_ fs x+_;rw[Rat.one_mul]
  rfl
def E_(s:Ι)(cs:List (Option FC))(x:Nat->Rat)(i:Nat):Rat:=x i-vl s*gR (ccs (cs.getD i none)) x
theorem iw.turn{s:Ι}{cs:List (Option FC)}{fss:Φ}(h:iw s cs fss)(x y:Nat->Rat):fK (λj=>x j*h_ ((trF cs.length fss).getD j []) y) cs.length=fK (λi=>y i*E_ s cs x i) cs.length:=by
 have fl:=h.sys.1;have w:∀fs∈fss,fs.length=cs.length:=λfs hf=>by
  obtain⟨i,ei⟩:=aX hf;have li:i<cs.length:=by rw[<- fl];exact(ao.mp ei).1
  exact(h.row (aj li) ei).2.1
 rw[eG (g:=λj=>x j*h_ (fss.map λfs=>fs.getD j (0,1)) y) λj hj=>by
  unfold trF;rw[au,aq,List.getElem?_range hj];rfl,Ku w,fl]
 refine eG λi hi=>?_;have ec:=aj hi;have ef:=aj (show i<fss.length by lia);unfold E_;rw[au,ef,au,ec];show y i*h_ fss[i] x=_;rw[(h.row ec ef).2.2]
 rfl
theorem iw.zero{s:Ι}{cs:List (Option FC)}{fss:Φ}(h:iw s cs fss){d:Nat->Rat}(e:∀x,fK (λi=>d i*E_ s cs x i) cs.length=0):∀i,i<cs.length->d i=0:=by
 have s2:0<s.2:=Int.lt_of_le_of_lt h.s0 h.s1;have p:(0:Rat)<(s.2:Rat):=Rat.intCast_pos.mpr s2;have q0:0<=vl s:=by
  unfold vl;rw[tO p,Rat.zero_mul];exact Rat.intCast_nonneg.mpr h.s0
 have q1:vl s<1:=by
  unfold vl;rw[Rat.div_lt_iff p,Rat.one_mul,Rat.intCast_lt_intCast];exact h.s1
 have xa:∀r:Rat,Wn 1 (if 0<=r then(1:Rat)else -1):=λr=>by
  unfold Wn;split<;>exact⟨by grind,by grind⟩
 have b:∀i,i<cs.length->Wn 1 (gR (ccs (cs.getD i none)) λj=>if 0<=d j then(1:Rat)else -1):=λi hi=>by
  have ec:=aj hi;rw[au,ec];show Wn 1 (gR (ccs cs[i]) _);have mem:=aW hi;have sy:=h.sys.2 i _ _ ec (aj (show i<fss.length by rw[h.sys.1];exact hi));generalize cs[i]=c at *;cases c with
  |none =>
   show Wn 1 0;exact⟨by grind,by grind⟩
  |some fc =>
   obtain⟨L,dW,_⟩:=sy.2 fc rfl;have w:=Vg (B:=1) (G:=λj=>if 0<=d j then(1:Rat)else -1) (cs:=fc.2) (λc hc=>by
    obtain⟨_,b,_,e,_⟩:=dW.ch c hc;exact⟨b,e⟩) λc _=>xa _
   rw[(h.pay fc mem).one,Rat.one_mul]at w;exact w
 have t:∀i,i<cs.length->0<=d i*E_ s cs (λj=>if 0<=d j then(1:Rat)else -1) i/\(d i*E_ s cs (λj=>if 0<=d j then(1:Rat)else -1) i=0->d i=0):=λi hi=>by
  obtain⟨b1,b2⟩:=b i hi;unfold E_;generalize gR (ccs (cs.getD i none)) (λj=>if 0<=d j then(1:Rat)else -1)=q at *;generalize vl s=v at *;have k1:=Rat.mul_le_mul_of_nonneg_left b1 q0;have k2:=Rat.mul_le_mul_of_nonneg_left b2 q0;by_cases z:0<=d i
  .simp only[ZY z];have m:0<1-v*q:=by grind
   refine⟨Rat.mul_nonneg z (by grind),λe=>?_⟩;rcases Rat.mul_eq_zero.mp e with e|e
   .exact e
   .grind
  .simp only[ZZ z];have m:0<1+v*q:=by grind
   have dn:0 <= -(d i):=by grind
   have g:=Rat.mul_nonneg dn (show 0<=1+v*q by grind);refine⟨by grind,λe=>?_⟩;have e:d i*(-1-v*q)=0:=e;rcases Rat.mul_eq_zero.mp e with e|e
   .exact e
   .grind
 exact λi hi=>(t i hi).2 ((K9 λj hj=>(t j hj).1).2 (e _) i hi)
def zY(st n:Nat):Ψ:=(List.range n).map λj=>kj st j
theorem yG{st n j:Nat}(h:j<n):(zY st n)[j]?=some (kj st j):=by unfold zY;rw[aq,List.getElem?_range h];rfl
theorem tZ{st n:Nat} : (zY st n).length=n:=by unfold zY;rw[ak,List.length_range]
theorem Ob{n j:Nat}{fss:Φ}(h:j<n):(trF n fss)[j]?=some (fss.map λfs=>fs.getD j (0,1)):=by unfold trF;rw[aq,List.getElem?_range h];rfl
theorem Mt{n:Nat}{fss:Φ} : (trF n fss).length=n:=by unfold trF;rw[ak,List.length_range]
theorem ace{st n:Nat}{x:Nat->Rat}(h:st<n):fK (λj=>x j*vl (kj st j)) n=x st:=by
 have e:=Py (fs:=zY st n) (x:=x);rw[tZ]at e;rw[eG (g:=λj=>x j*vl ((zY st n).getD j (0,1))) λj hj=>by rw[au,yG hj];rfl,e,G9 (k:=st) (f:=(1,1)) (by rw[yG h];exact ZH some (ZY rfl)) λj g hj hg=>?_]
 .rw[ahx,Rat.one_mul]
 .have lj:j<n:=by have:=(ao.mp hg).1;rwa[tZ]at this
  rw[yG lj]at hg;have hg:kj st j=g:=Option.some.inj hg;rw[<- hg,kj,ZZ hj,W9]
theorem VD:∀{fss:Φ},(∀fs∈fss,∃L:Nat,0<L/\L<=500000000/\∀f∈fs,f.2 ∣ (L:Int))->∃M:Nat,0<M/\M<=500000000^fss.length/\∀fs∈fss,∀f∈fs,f.2 ∣ (M:Int)
 |[],_=>⟨1,by decide,by decide,by simp⟩
 |fs::fss,h=>by
  obtain⟨M,m0,m1,m2⟩:=VD (fss:=fss) λg hg=>h g (aJ _ hg);obtain⟨L,l0,l1,l2⟩:=h fs aP;refine⟨M*L,Nat.mul_pos m0 l0,?_,λg hg f hf=>?_⟩
  .rw[List.length_cons,Nat.pow_succ];exact Nat.mul_le_mul m1 l1
  .rw[Int.natCast_mul];rcases YU.mp hg with rfl|hg
   .exact Int.dvd_trans (l2 f hf) (Int.dvd_mul_left _ _)
   .exact Int.dvd_trans (m2 g hg f hf) (Int.dvd_mul_right _ _)
theorem iw.sizes{s:Ι}{cs:List (Option FC)}{fss:Φ}(h:iw s cs fss):∀fs∈fss,∃L:Nat,0<L/\L<=500000000/\∀f∈fs,f.2 ∣ (L:Int)/\0<f.2/\Int.gcd f.1 f.2=1/\f.1.natAbs<=10*f.2.natAbs:=λfs hf=>by
 obtain⟨i,ei⟩:=aX hf;have li:i<cs.length:=by rw[<- h.sys.1];exact(ao.mp ei).1
 have r:=h.sys.2 i _ fs (aj li) ei;have q:∀(m:Nat)(f:Ι),m<=8->0<f.2->Wn (((m+1:Nat):Int):Rat) (vl f)->f.1.natAbs<=10*f.2.natAbs:=λm f hm f0 w=>aM (aar f0 w) (Nat.mul_le_mul_right _ (by lia));generalize cs[i]=c at *;cases c with
 |none =>
  have r:=r.1 rfl;exact⟨1,by decide,by decide,λf hf=>let⟨a,b,d,e⟩:=r.sz f hf;⟨d,a,b,q 0 f (by decide) a e⟩⟩
 |some fc =>
  obtain⟨L,dW,r⟩:=r.2 fc rfl;exact⟨L,dW.L0,dW.L9,λf hf=>let⟨a,b,d,e⟩:=r.sz f hf;⟨d,a,b,q _ f dW.few a e⟩⟩
theorem iw.cols{s:Ι}{cs:List (Option FC)}{fss:Φ}(h:iw s cs fss)(n6:cs.length<=6)(st:Nat):∀gs∈iB (trF cs.length fss) (zY st cs.length),(∀f∈gs,Fq f)/\Big (10^54) (lvR gs):=λgs hg=>by
 obtain⟨M,m0,m1,m2⟩:=VD λfs hf=>let⟨L,a,b,c⟩:=h.sizes fs hf;⟨L,a,b,λf hf=>(c f hf).1⟩;have m9:M<=10^53:=aM m1 (aM (XU (by decide) (by rw[h.sys.1];exact n6)) (by decide));unfold iB at hg;obtain⟨j,hj,rfl⟩:=List.mem_iff_getElem.mp hg;rw[List.length_zipWith,Mt,tZ]at hj;rw[List.getElem_zipWith];have e1:(trF cs.length fss)[j]'(by rw[Mt];lia)=fss.map λfs=>fs.getD j (0,1):=Option.some.inj ((aj _).symm.trans (Ob (by lia)));have e2:(zY st cs.length)[j]'(by rw[tZ];lia)=kj st j:=Option.some.inj ((aj _).symm.trans (yG (by lia)));rw[e1,e2];have all:∀f∈(fss.map λfs=>fs.getD j (0,1))++[kj st j],(f.2 ∣ (M:Int)/\f.1.natAbs<=10*f.2.natAbs)/\0<f.2/\Int.gcd f.1 f.2=1/\f.2<=500000000:=λf hf=>by
  have cst:∀z:Int×Int,z=(0,1)\/z=(1,1)->(z.2 ∣ (M:Int)/\z.1.natAbs<=10*z.2.natAbs)/\0<z.2/\Int.gcd z.1 z.2=1/\z.2<=500000000:=λz hz=>by
   rcases hz with rfl|rfl
   .exact⟨⟨Int.one_dvd _,by decide⟩,by decide,by decide,by decide⟩
   .exact⟨⟨Int.one_dvd _,by decide⟩,by decide,by decide,by decide⟩
  rcases Y1.mp hf with z|z
  .obtain⟨fs,hfs,rfl⟩:=YV.mp z;by_cases lj:j<fs.length
   .have ef:fs.getD j (0,1)=fs[j]:=by rw[au,aj lj];rfl
    obtain⟨L,l0,l1,l2⟩:=h.sizes fs hfs;obtain⟨a,b,c,d⟩:=l2 _ (aW lj);rw[ef];have:=Int.le_of_dvd (by lia) a;exact⟨⟨m2 fs hfs _ (aW lj),d⟩,b,c,by lia⟩
   .rw[au,aN (Nat.le_of_not_lt lj)];exact cst _ (.inl rfl)
  .rw[YR.mp z];unfold kj;by_cases e:j=st
   .rw[ZY e];exact cst _ (.inr rfl)
   .rw[ZZ e];exact cst _ (.inl rfl)
 have hq:∀f∈(fss.map λfs=>fs.getD j (0,1))++[kj st j],Fq f:=λf hf=>by
  obtain⟨⟨_,a⟩,b,c,d⟩:=all f hf;have q2:f.2.natAbs<=500000000:=by lia
  exact⟨b,c,aM a (aM (Nat.mul_le_mul_left _ q2) (by decide)),aM q2 (by decide)⟩
 exact⟨hq,SX hq (λf hf=>(all f hf).1) m0 (aM m9 (by decide)) (aM (Nat.mul_le_mul_left _ m9) (by decide))⟩
theorem iw.kerT{s:Ι}{cs:List (Option FC)}{fss:Φ}(h:iw s cs fss)(n6:cs.length<=6){st:Nat}{y:Nat->Int}(k:yU ((iB (trF cs.length fss) (zY st cs.length)).map lvR) y){j:Nat}(hj:j<cs.length):h_ ((trF cs.length fss).getD j []) (λi=>(y i:Rat))+vl (kj st j)*(y cs.length:Rat)=0:=by
 have eg:(iB (trF cs.length fss) (zY st cs.length))[j]?=some ((fss.map λfs=>fs.getD j (0,1))++[kj st j]):=by
  unfold iB;rw[List.getElem?_zipWith,Ob hj,yG hj]
 have k:=k j (by rw[ak];exact(ao.mp eg).1);have er:rowAt ((iB (trF cs.length fss) (zY st cs.length)).map lvR) j=lvR ((fss.map λfs=>fs.getD j (0,1))++[kj st j]):=by
  unfold rowAt;rw[au,aq,eg];rfl
 rw[er]at k;have e:=Vq (h.cols n6 st _ (aC eg)).1 k;rw[Hg,ak,h.sys.1]at e;rw[au,Ob hj];exact e
theorem iw.injT{s:Ι}{cs:List (Option FC)}{fss:Φ}(h:iw s cs fss)(n6:cs.length<=6){st:Nat}{y:Nat->Int}(k:yU ((iB (trF cs.length fss) (zY st cs.length)).map lvR) y)(yn:y cs.length=0):∀j,j<cs.length->y j=0:=λj hj=>by
 refine Rat.intCast_inj.mp ((h.zero (d:=λi=>(y i:Rat)) (λx=>?_) j hj).trans Rat.intCast_zero.symm);rw[<- h.turn x λi=>(y i:Rat),eG (g:=λ_=>0) λi hi=>by
  have e:=h.kerT n6 k hi;rw[yn,Rat.intCast_zero,Rat.mul_zero,Rat.add_zero]at e;rw[e,Rat.mul_zero],Af,Rat.mul_zero]
structure Io(s:Ι)(cs:List (Option FC))(st:Nat)(as:Ψ):Prop where
 len:as.length=cs.length
 low:∀a∈as,0<a.2/\Int.gcd a.1 a.2=1
 bd:∀a∈as,Bn 335 a.1/\Bn 335 a.2
 eqn:∀x,fK (λi=>K24.wq as i*E_ s cs x i) cs.length=x st
theorem mbT{n:Nat}(h:n<=6):MB n (10^54)<=10^335:=aM (Nat.pow_le_pow_left (Nat.mul_le_mul_right _ (show 2*n<=12 by lia)) n) (aM (XU (by decide) h) (by decide +kernel))
theorem iw.vis{s:Ι}{cs:List (Option FC)}{fss:Φ}(h:iw s cs fss)(n6:cs.length<=6){st:Nat}(stn:st<cs.length){rsE:List Row}(el:rsE.length=cs.length)(hb:∀r∈rsE,Big (MB cs.length (10^54)) r/\r.1.length=cs.length+1)(k:yU ((iB (trF cs.length fss) (zY st cs.length)).map lvR) (J7 rsE cs.length)):Io s cs st (JV rsE cs.length):=by
 obtain⟨ln,low,ne,sol⟩:=Yo el hb;refine⟨ln,λa ha=>⟨(low a ha).1,(low a ha).2.1⟩,λa ha=>⟨aM (low a ha).2.2.1 (mbT n6),aM (low a ha).2.2.2 (mbT n6)⟩,λx=>?_⟩;rw[<- h.turn x];refine(eG λj hj=>?_).trans (ace (x:=x) stn);have e:=h.kerT n6 k hj;have lt:((trF cs.length fss).getD j []).length=cs.length:=by rw[au,Ob hj];show(fss.map _).length=_;rw[ak,h.sys.1]
 rw[Ub,Rat.intCast_neg,Hh (z:=λi=>(yV rsE cs.length:Rat)*K24.wq (JV rsE cs.length) i) λi hi=>sol i (aV hi (Nat.le_of_eq lt)),Qq]at e;generalize h_ ((trF cs.length fss).getD j []) (K24.wq (JV rsE cs.length))=q at *;generalize vl (kj st j)=v at *;have:q=v:=by grind
 rw[this]
theorem abb{s:Ι}{cs:List (Option FC)}{fss:Φ}(h:iw s cs fss){st:Nat}{as bs:Ψ}(a:Io s cs st as)(b:Io s cs st bs):as=bs:=by
 have z:=h.zero (d:=λi=>1*K24.wq as i+(-1)*K24.wq bs i) λx=>by
  rw[eG (g:=λi=>1*(λi=>K24.wq as i*E_ s cs x i) i+(-1)*(λi=>K24.wq bs i*E_ s cs x i) i) λi _=>(by grind),Bp,a.eqn,b.eqn]
  grind
 refine List.ext_getElem? λi=>?_;by_cases l:i<cs.length
 .have e1:=aj (show i<as.length by rw[a.len];exact l);have e2:=aj (show i<bs.length by rw[b.len];exact l);have z:=z i l;unfold K24.wq at z;rw[au,au,e1,e2]at z;obtain⟨x1,x2⟩:=a.low _ (aW (show i<as.length by rw[a.len];exact l));obtain⟨y1,y2⟩:=b.low _ (aW (show i<bs.length by rw[b.len];exact l));rw[e1,e2];generalize as[i]'(by rw[a.len];exact l)=u at *;generalize bs[i]'(by rw[b.len];exact l)=v at *;have z:1*vl u+(-1)*vl v=0:=z;obtain⟨p1,p2⟩:=aaW x1 x2 y1 y2 (show vl (u.1,u.2)=vl (v.1,v.2)by show vl u=vl v;grind);rw[show u=v from Prod.ext p1 p2]
 .rw[aN (by rw[a.len];exact Nat.le_of_not_lt l),aN (by rw[b.len];exact Nat.le_of_not_lt l)]
open Rw
def Yi(K:Frag)(D:Adr):Sp:=λvs H Q _=>∃(o p l:Addr)(rms:List (Str×List Dr))(s:Ι)(fcss:List (List FC))(pl:List (Option Nat))(st:Nat),vs=[.ref o,.ref l,.int st]/\j5 D H o p rms/\Ef rms/\acs rms pl/\rms.length=fcss.length/\st<fcss.length/\fcss.length<=6/\H l=some (.lst (pl.map stV))/\Ih fcss pl/\zu K D H o s fcss/\H p=some (.tup [.int s.1,.int s.2])/\Z_ s fcss /\
  ∀a zs as H',Same H H'->H a=none->H' a=some (.lst zs)->FL H' zs as->Io s (pick fcss pl) st as->(∀bs,Io s (pick fcss pl) st bs->bs=as)->Q (.ref a) H'
theorem Jh(F:Fun K m8 m8 oE f fd)(T:Txt K mg D)(jX:OkF P w K mg base 4 kO j9 (Gg D))(fH:OkI P w K mg base CX0 2 D.Hall_check_room gC (oO D))(gU:OkI P w K mg base CX0 1 D.Hall_size jZ (mL D))(iu:OkF P w K mg base 4 iY iV (Uo K D))(lU:OkF P w K mg base 4 mU m5 (N5 K))(GF:OkF P w K mg base 1 yK yE (KR K))(i_:OkF P w K mg base 8 jt jG (qT K)):cJ P w K mg base CX0 9 f fd ni (Yi K D):=by
 refine F.ok vd ?_ ?_
 .rintro _ _ _ _ ⟨o,p,l,rms,s,fcss,pl,st,rfl,_⟩;rfl
 .rintro cdv A outer s H _ Q E hr ⟨o,p,l,rms,sh,fcss,pl,st,rfl,hh,few,fr,rl,stn,n6,hl,ft,hn,hp,⟨s0,s1,s3,n8,dw⟩,q⟩;obtain⟨dx,nn,ll,zs0,ho,_,_,_⟩:=id hh;have cl:=jD ft;have z9:100<sizeLine:=by decide
  refine⟨_,(bI (cX (bR jX hr.md (bF pv0 (bF pv1))))
   (bI (cX (PE.any λC(hC:dD D C)=>(Cw pv0 (T.cl C hC.fam) (T.qP C hC) fH hr.md (bF pv2))))
   (bI (yh (bQ oE) sW sW ["room"] (eF T.gY (bF (PE.any λC(hC:eV D C)=>(yr pv0 (T.cl C hC.fam) (T.um C hC) gU hr.md))).mono) (dH (i:=0)) cU (Dl (cD lG pv0 pv3 (cH _)) (dX T.Br) (dX T.jo)) (cB (i:=3) vd.nd))
   (bO (cg (bR i_ hr.md (bF (bR GF hr.md (bF (bR lU hr.md (bF (sV pv0 rfl) (bF (bR iu hr.md (bF pv0 (bF pv1)))))))) (bF pv3)))))))),?_⟩
  refine b_ λR1 hR1=>?_;refine gK ⟨_,rfl,_,rfl,?_⟩;dsimp only[Fd];refine Qm hh few hl fr λH1 S1=>?_;subst hR1;refine b_ λR1 hR1=>?_;refine gK ?_;refine⟨D.Hall,(by unfold dD;simp),_,rfl,o,dx,_,rfl,S1 _ _ ho,rfl,_,rfl,o,p,st,rms,rfl,hh.same S1,by lia,?_⟩;subst hR1;dsimp only;refine b_ λR1 hR1=>?_;refine cL (iI ⟨D.Hall,(by unfold eV;simp),_,rfl,o,dx,_,rfl,S1 _ _ ho,rfl,o,p,rms,rfl,hh.same S1,rms.length,rfl,by lia,λD1 hD=>⟨λk ys Hc=>Same H1 Hc/\Hc D1=some (.lst ys)/\FLK K Hc ys ((zY st rms.length).take k),⟨Same.upd hD,bG,.nil⟩,?_,?_⟩⟩)
  .rintro k ys Hc hk ⟨S2,c2,fl⟩ hyl;have en:=yG (st:=st) hk;refine⟨_,rfl,_,rfl,rfl,_,rfl,pB (λh=>⟨c2,fM hD S2,bG,?_⟩) λh=>⟨c2,fM hD S2,bG,?_⟩⟩
   .have e:k=st:=by have:=V.int.inj (of_decide_eq_true h);lia
    rw[cj en];refine(fl.updL c2).append (.cons (f:=kj st k) ?_ .nil);unfold kj;rw[ZY e];exact T.uN _
   .have e:¬k=st:=λz=>h (Zs (by rw[z]));rw[cj en];refine(fl.updL c2).append (.cons (f:=kj st k) ?_ .nil);unfold kj;rw[ZZ e];exact T.jY _
  rintro ys H2 ⟨S2,c2,fl⟩ hyl;rw[aL (by rw[tZ];exact aG _)]at fl;have S02:=S1.trans S2;subst hR1;dsimp only[cQ,L2.start,List.set_cons_succ,List.set_cons_zero];refine gM ⟨_,rfl,o,D.Hall,dx,_,_,rfl,S02 _ _ ho,T.tK,T.sH,rfl,_,rfl,_,rfl,o,l,sh,fcss,pl,rfl,hn.same S02,S02 _ _ hl,ft,λlc zs H3 S3 f3 h3 ch=>?_⟩;rw[<- cl]at ch;have S03:=S02.trans S3;refine⟨p,lc,sh,zs,pick fcss pl,rfl,S03 _ _ hp,s0,by exact XY s1,by exact Int.lt_of_le_of_lt s0 s1,s3,h3,ch,by lia,λfc hf=>?_,λr ls fss H4 S4 f4 h4 fr4 sy=>?_⟩
  .obtain⟨fcs,a,b⟩:=CT hf;rw[cl];exact(dw fcs a fc b).1
  have pp:iw sh (pick fcss pl) fss:=⟨sy,λfc hf=>(by obtain⟨fcs,a,b⟩:=CT hf;exact(dw fcs a fc b).2),s0,s1,by exact aM (Nat.le_of_eq cl) n8⟩;have fw:∀fs∈fss,fs.length=(pick fcss pl).length:=λfs hf=>by
   obtain⟨i,ei⟩:=aX hf;have li:i<(pick fcss pl).length:=by rw[<- sy.1];exact(ao.mp ei).1
   exact(pp.row (aj li) ei).2.1
  refine⟨r,_,fss,(pick fcss pl).length,rfl,h4,fr4,sy.1,by lia,fw,λrt lt H5 S5 f5 h5 fr5=>?_⟩;have S25:=S3.trans (S4.trans S5);rw[rl,<- cl]at fl;refine⟨_,rfl,rt,D1,_,ys,trF (pick fcss pl).length fss,zY st (pick fcss pl).length,(pick fcss pl).length,10^54,rfl,h5,fr5,S25 _ _ c2,fl.same S25,Mt,tZ,by lia,λfs hf=>?_,pp.cols (aM (Nat.le_of_eq cl) n6) st,by decide,aM (mbT (aM (Nat.le_of_eq cl) n6)) (show 10^335<=NN by decide +kernel),λy k yn=>pp.injT (aM (Nat.le_of_eq cl) n6) k yn,λa zs' H6 rsE S6 f6 h6 el hb k fl6=>q a zs' _ H6 (S02.trans (S25.trans S6)) (S02.free (S25.free f6)) h6 fl6 (pp.vis (aM (Nat.le_of_eq cl) n6) (by lia) el hb k) λbs hbs=>abb pp hbs (pp.vis (aM (Nat.le_of_eq cl) n6) (by lia) el hb k)⟩;unfold trF at hf;obtain⟨j,_,rfl⟩:=YV.mp hf;rw[ak,sy.1]
theorem XJ{K:Frag}{tl:TE}{g:TG}{tb:TS}{D:Ends}{σ:L2.St}{H:Hp}(h:tl σ H λx H1=>∃a xs,x=.ref a/\SqT K H1 a xs/\∃J:Nat->L2.St->Hp->Prop,J 0 σ H1/\(∀k σ' H',J k σ' H'->SqT K H' a xs) /\
   (∀k x σ' H',xs[k]?=some x->J k σ' H'->g x σ' H' λσ2 H2=>tb { D with nx:=J (k+1),ct:=J (k+1),bk:=D.nx } σ2 H2) /\
   ∀σ' H',J xs.length σ' H'->D.nx σ' H'):RQ (af9 K (tM tl)) g tb D σ H:=by
 refine⟨_,h,?_⟩;rintro x H1 ⟨a,xs,rfl,hx,J,j0,jx,step,fin⟩;refine⟨a,rfl,⟨xs,hx⟩,λk m σ' H'=>k<=xs.length/\m=xs.length-k/\J k σ' H',⟨_,bA _,rfl,j0⟩,?_⟩;rintro k m σ' H' ⟨hk,rfl,j⟩;by_cases e:k=xs.length
 .subst e;exact .inl ⟨⟨xs,jx _ _ _ j,aG _⟩,fin σ' H' j⟩
 .have hlt:k<xs.length:=by exact XX hk e
  have e1:xs[k]?=some xs[k]:=aj hlt;refine .inr ⟨⟨xs,_,jx _ _ _ j,e1⟩,J (k+1),λσ3 H3 z=>⟨xs.length-(k+1),by lia,by exact hlt,rfl,z⟩,?_⟩;rintro x H'' ⟨rfl,y⟩;exact step k x σ' H'' (y xs (jx _ _ _ j)) j
def YQ(K:Frag):Sp:=λvs H Q _=>∃(p:Addr)(a b:Int),vs=[.ref p]/\SqT K H p [.int a,.int b]/\0<b/\Int.gcd a b=1/\Q (.bl true) H
theorem Nr(F:Fun K qj qj uY f fd)(T:Txt K mg D)(Lh:OkF P w K mg base 1 Jp HN Mq):cJ P w K mg base CX0 2 f fd pZ (YQ K):=by
 refine F.ok Cm ?_ ?_
 .rintro _ _ _ _ ⟨p,a,b,rfl,_⟩;rfl
 .rintro cdv A outer s H _ Q E hr ⟨p,a,b,rfl,hp,b0,g1,q⟩;refine⟨_,(bI (cW (PW.pt (pw_or (fU (fj (cu (m7.or rK) T.fY boot_isinstance (bF pv0 (bF (pH (v:=.ty "tuple") T.V3 boot_tuple rfl)))))) (pw_or1 (cD Bb (cu K_ T.gH PySem.boot_len (bF pv0)) bK (cH _)))))
    (bO (cg vh))
    cF)
   (bI (fL PassesOwn.never rfl (aeR (pv 0).mono) (cB (i:=1) Cm.nd)
    (bO (cW (PW.pt (pw_or (fU (fj (cu (m7.or rK) T.fY boot_isinstance (bF pv1 (bF (pH (v:=.ty "int") T.Yt boot_int rfl)))))) (pw_or1 (fj (cu (m7.or rK) T.fY boot_isinstance (bF pv1 (bF (pH (v:=.ty "bool") T.Ym boot_bool rfl))))))))
     (bO (cg vh))
     cF)))
   (bO (cg (Og (rN RZ (bT cZ pv0 bK) bK (cH _)) (N_ (rN lG (bR Lh hr.md (bF (bT cZ pv0 bK) (bF (bT cZ pv0 bK)))) bK (cH _)))))))),?_⟩
  refine b_ λR1 hR1=>?_;refine gK ⟨_,rfl,.inr ⟨p,_,_,rfl,by simp,hp,true,rfl,_,rfl,p,_,rfl,hp,rfl,false,rfl,?_⟩⟩;show R1 _ _ _;subst hR1;refine gK (XJ ⟨_,rfl,p,_,rfl,hp,λ_ σ H'=>(∃u,σ=[some (.ref p),u])/\H'=H,⟨⟨none,rfl⟩,rfl⟩,(λk σ' H' hP=>by obtain⟨_,e⟩:=hP;exact e ▸ hp),?_,?_⟩)
  .rintro k x σ' H' hk ⟨⟨u,rfl⟩,rfl⟩;obtain⟨i,rfl⟩ : ∃i,x=.int i:=by
    match k with
    |0=>cases hk;exact⟨_,rfl⟩
    |1=>cases hk;exact⟨_,rfl⟩
    |k+2=>simp at hk
   exact⟨_,rfl,.inl ⟨_,_,_,rfl,by simp,rfl,true,rfl,_,rfl,.inl ⟨_,_,_,rfl,by simp,rfl,false,rfl,⟨_,rfl⟩,rfl⟩⟩⟩
  .rintro σ' H' ⟨⟨u,rfl⟩,rfl⟩;dsimp only;refine gM ⟨_,rfl,p,_,1,_,rfl,rfl,hp,cR,b,0,rfl,rfl,true,ZH V.bl (Zs b0),?_⟩;rw[ZY rfl];refine⟨_,rfl,p,_,0,_,rfl,rfl,hp,cY,_,rfl,p,_,1,_,rfl,rfl,hp,cR,a,b,rfl,rfl,?_⟩;rw[g1];exact q
def Z4(K:Frag):Sp:=λvs H Q _=>∃(l:Addr)(zs:Μ)(fs:Ψ)(n:Nat),vs=[.ref l,.int n]/\H l=some (.lst zs)/\FLK K H zs fs/\fs.length=n/\n<=100/\(∀f∈fs,0<f.2/\Int.gcd f.1 f.2=1)/\∀H',Same H H'->Q (.bl true) H'
theorem JL(F:Fun K oR oR p7 f fd)(T:Txt K mg D)(vC:OkF P w K mg base 2 qj pZ (YQ K)):cJ P w K mg base CX0 3 f fd oh (Z4 K):=by
 refine F.ok J8 ?_ ?_
 .rintro _ _ _ _ ⟨l,zs,fs,n,rfl,_⟩;rfl
 .rintro cdv A outer s H _ Q E hr ⟨l,zs,fs,n,rfl,hl,fl,fn,n100,al,q⟩;have z9:100<sizeLine:=by decide
  have zl:zs.length=n:=by rw[fl.length,fn]
  refine⟨_,(bI (cW (PW.pt (pw_or (fU (fj (cu m7 T.fY boot_isinstance (bF pv0 (bF (pH (v:=.ty "list") T.Jo boot_list rfl)))))) (pw_or1 (cD Bb (cu cN T.gH PySem.boot_len (bF pv0)) pv1 (cH _)))))
    (bO (cg vh))
    cF)
   (bO (cg (cu (Lb rfl) T.adp boot_all (bF (kJ (bQ p7) uE uE ["_law_one"] (cV (pv 0).mono) (dH (i:=0)) cU (bR vC hr.md (bF pv0)))))))),?_⟩
  refine b_ λR1 hR1=>?_;refine gK ⟨_,rfl,_,_,_,rfl,by simp,NZ hl,true,rfl,_,rfl,l,_,rfl,hl,_,rfl,rfl,false,ZH (λb=>V.bl (!b)) (Zs (by rw[zl])),?_⟩;show R1 _ _ _;subst hR1;refine gM (aep (Y0 (List.replicate n (.bl true)) rfl hl (by rw[aO,zl]) (by rw[aO];exact aM n100 (by decide)) ?_ λl2 H2 S2 f2 h2=>?_))
  .intro k x y Hc R hk hy Sc r;obtain⟨t,f,rfl,ef,ht⟩:=fl.get hk;obtain⟨b0,g1⟩:=al f (aC ef);rw[XG]at hy;have ey:y=.bl true:=by
    split at hy
    .exact(Option.some.inj hy).symm
    .cases hy
   subst ey;exact⟨_,rfl,t,_,_,rfl,Sc.tup ht,b0,g1,r Hc λ_ _ z=>z⟩
  .refine⟨l2,List.replicate n true,rfl,by rw[h2,List.map_replicate],?_⟩;have e:(List.replicate n true).all id=true:=List.all_eq_true.mpr λx hx=>(List.mem_replicate.mp hx).2;rw[e];exact q H2 S2
def FW(K:Frag):Sp:=λvs H Q _=>∃(p q:Addr)(f g:Ι),vs=[.ref p,.ref q]/\SqT K H p [.int f.1,.int f.2]/\SqT K H q [.int g.1,.int g.2]/\Fb f/\Fb g/\∀b:Bool,(b=true↔vl f=vl g)->Q (.bl b) H
theorem aa8(F:Fun K Ao Ao s_same f fd)(T:Txt K mg D):cJ P w K mg base CX0 1 f fd Df (FW K):=by
 refine F.ok abn ?_ ?_
 .rintro _ _ _ _ ⟨p,q,f,g,rfl,_⟩;rfl
 .rintro cdv A outer s H _ Q E hr ⟨p,q,f,g,rfl,hp,hq,bf,bg,k⟩;refine⟨_,(bO (cg (rN lG (bV cT (bT cZ pv0 bK) (bT cZ pv1 bK)) (bV cT (bT cZ pv1 bK) (bT cZ pv0 bK)) (cH _)))),?_⟩;refine gM ⟨_,rfl,p,_,0,_,rfl,rfl,hp,cY,_,rfl,q,_,1,_,rfl,rfl,hq,cR,_,_,rfl,rfl,⟨bf.bx,bg.b_y⟩,_,rfl,q,_,0,_,rfl,rfl,hq,cY,_,rfl,p,_,1,_,rfl,rfl,hp,cR,_,_,rfl,rfl,⟨bg.bx,bf.b_y⟩,rfl,k _ ?_⟩;rw[decide_eq_true_iff];exact⟨λz=>ZS bf.pos bg.pos (by injection z),λz=>ZH V.int (Sw bf.pos bg.pos z)⟩
theorem Bn.sum{m n k:Nat}{x y u v:Int}(hx:Bn m x)(hy:Bn k y)(hu:Bn n u)(hv:Bn n v)(l:k<=m):Bn (m+n+1) (x*v+u*y):=(hx.mul hv).add ((hu.mul hy).up (by lia))
theorem M8{x y u v:Int}(y0:0<y)(v0:0<v):vl (x*v+u*y,y*v)=vl (x,y)+vl (u,v):=by
 show((x*v+u*y:Int):Rat)/((y*v:Int):Rat)=(x:Rat)/(y:Rat)+(u:Rat)/(v:Rat);rw[Rat.intCast_add,XV,XV,XV];have:=d_ y0;have:=d_ v0
 grind
theorem S_{fs:Ψ}{f:Ι} : ((fs++[f]).map vl).sum=(fs.map vl).sum+vl f:=by
 rw[bC,List.sum_append];show _+(vl f+0)=_;rw[Rat.add_zero]
def ac3(H:Hp)(r:Addr)(q:Rat):Prop:=∃t b:Int,H r=some (.tup [.int t,.int b])/\0<b/\Bn 2260 t/\Bn 2260 b/\vl (t,b)=q
def Oj:Sp:=λvs H Q _=>∃(l:Addr)(xs:Μ)(fs:Ψ),vs=[.ref l]/\H l=some (.lst xs)/\FL H xs fs/\fs.length<=6/\(∀f∈fs,0<f.2/\Bn 375 f.1/\Bn 375 f.2)/\∀r H',Same H H'->H r=none->ac3 H' r (fs.map vl).sum->Q (.ref r) H'
theorem abr(F:Fun K Ie Ie aat f fd)(T:Txt K mg D):cJ P w K mg base CX0 1 f fd Hu Oj:=by
 refine F.ok Dt ?_ ?_
 .rintro _ _ _ _ ⟨l,xs,fs,rfl,_⟩;rfl
 .rintro cdv A outer s H _ Q E hr ⟨l,xs,fs,rfl,hl,fl,n6,fb,q⟩;refine⟨_,(bI (bZ (i:=1) Dt.nd bK)
   (bI (bZ (i:=2) Dt.nd bK)
   (bI (fL PassesOwn.never rfl (cV (pv 0).mono) (cB (i:=3) Dt.nd)
    (bI (bZ (i:=1) Dt.nd (bV d9 (bV cT pv1 (bT cA pv3 bK)) (bV cT (bT cA pv3 bK) pv2)))
    (bO (bZ (i:=2) Dt.nd (bV cT pv2 (bT cA pv3 bK))))))
   (bO (cg (jf (bF pv1 (bF pv2)))))))),?_⟩
  refine b_ λR1 hR1=>?_;refine cL ?_;subst hR1;refine b_ λR1 hR1=>?_;refine cL ?_;subst hR1;dsimp only[cQ,L2.start,List.set_cons_succ,List.set_cons_zero];refine b_ λR1 hR1=>?_;refine gK (eN ⟨_,rfl,l,xs,rfl,hl,λk σ H'=>∃(u:Option V)(t b:Int),σ=[some (.ref l),some (.int t),some (.int b),u]/\H'=H/\0<b/\Bn (376*k) t/\Bn (375*k) b/\vl (t,b)=((fs.take k).map vl).sum,⟨none,0,1,rfl,rfl,by decide,(show Bn 0 0 by unfold Bn;decide),(show Bn 0 1 by unfold Bn;decide),W9⟩,?_,?_⟩)
  .rintro k x σ' H2 hx ⟨u,t,b,rfl,rfl,b0,bt,bb,ev⟩ _;have lk:k<fs.length:=by rw[<- fl.length];exact(ao.mp hx).1
   obtain⟨p,g,rfl,eg,hp⟩:=fl.get hx;obtain⟨g0,g1,g2⟩:=fb g (aC eg);have k6:376*k+376<=2260:=by lia
   have bt':=bt.bd (show 376*k<=2400 by lia);have bb':=bb.bd (show 375*k<=2400 by lia);dsimp only[cQ,List.set_cons_succ,List.set_cons_zero];refine b_ λR2 hR2=>?_;refine cL ⟨_,rfl,_,rfl,p,_,1,_,rfl,rfl,hp,cR,_,_,rfl,rfl,⟨bt',g2.bd (by decide)⟩,_,rfl,p,_,0,_,rfl,rfl,hp,cY,_,rfl,_,_,rfl,rfl,⟨g1.bd (by decide),bb'⟩,_,_,rfl,rfl,?_⟩;subst hR2;dsimp only[cQ,List.set_cons_succ,List.set_cons_zero];refine OD ⟨_,rfl,_,rfl,p,_,1,_,rfl,rfl,hp,cR,_,_,rfl,rfl,⟨bb',g2.bd (by decide)⟩,?_⟩;refine⟨hl,_,_,_,rfl,rfl,XZ b0 g0,(Bn.sum bt bb g1 g2 (by lia)).up (by lia),(bb.mul g2).up (by lia),?_⟩;rw[M8 b0 g0,ev,cj eg,S_]
  .rintro σ' H2 ⟨u,t,b,rfl,rfl,b0,bt,bb,ev⟩ _;rw[fl.length]at bt bb ev;rw[aQ]at ev;subst hR1;dsimp only;exact gM ⟨_,rfl,_,rfl,fQ,λr H3 S3 f3 h3=>q r H3 S3 f3 ⟨t,b,h3,b0,bt.up (by lia),bb.up (by lia),ev⟩⟩
def Eh:Sp:=λvs H Q _=>∃(lf r l:Addr)(xs:Μ)(as:Ψ)(fcss:List (List FC))(pl:List (Option Nat)),vs=[.ref lf,.ref r,.ref l]/\H lf=some (.lst xs)/\FL H xs as/\sX H r fcss/\H l=some (.lst (pl.map stV))/\Ih fcss pl/\as.length=fcss.length/\fcss.length<=6/\(∀a∈as,0<a.2/\Bn 335 a.1/\Bn 335 a.2)/\(∀fcs∈fcss,∀fc∈fcs,0<fc.1.2/\Bn 40 fc.1.1/\Bn 40 fc.1.2)/\∀t H',Same H H'->H t=none->ac3 H' t (fK (λi=>K24.wq as i*vl (sE ((pick fcss pl).getD i none))) fcss.length)->Q (.ref t) H'
theorem abI(F:Fun K FT FT UG f fd)(T:Txt K mg D)(Im:OkF P w K mg base 1 Ie Hu Oj):cJ P w K mg base CX0 2 f fd Gb Eh:=by
 refine F.ok Fp ?_ ?_
 .rintro _ _ _ _ ⟨lf,r,l,xs,as,fcss,pl,rfl,_⟩;rfl
 .rintro cdv A outer s H _ Q E hr ⟨lf,r,l,xs,as,fcss,pl,rfl,hlf,fl,rml,hl,ft,an,n6,ab,pb,q⟩;obtain⟨xr,r1,r2,r3⟩:=rml.ex;have z9:100<sizeLine:=by decide
  refine⟨_,(bI (bZ (i:=3) Fp.nd (pG oW))
   (bI (fL PassesOwn.never rfl (eF T.gY (bF (cu cN T.gH PySem.boot_len (bF pv1))).mono) (cB (i:=4) Fp.nd)
    (bO (cW (cD yt (bT bU pv2 pv4) mX (cH _))
     (bI (bZ (i:=5) Fp.nd (bT cA (bT bU (bT bU pv1 pv4) (bT bU pv2 pv4)) bK))
     (bO (cX (su pv3 (bF (jf (bF (bV cT (bT cA (bT bU pv0 pv4) bK) (bT cA pv5 bK)) (bF (bV cT (bT cA (bT bU pv0 pv4) bK) (bT cA pv5 bK))))))))))
     cF)))
   (bO (cg (bR Im hr.md (bF pv3)))))),?_⟩
  refine b_ λR1 hR1=>?_;refine cL ⟨bA _,λls H1 S1 f1 h1=>?_⟩;subst hR1;dsimp only[cQ,L2.start,List.set_cons_succ,List.set_cons_zero];refine b_ λR1 hR1=>?_;refine gK (qz ⟨_,rfl,r,xr,rfl,S1 _ _ r1,fcss.length,by rw[r2],by exact Y3 n6 (by decide),λk σ H'=>∃(u4 u5:Option V)(ys:Μ)(gs:Ψ),σ=[some (.ref lf),some (.ref r),some (.ref l),some (.ref ls),u4,u5]/\Same H H'/\H' ls=some (.lst ys)/\FL H' ys gs/\gs.length<=k/\(∀f∈gs,0<f.2/\Bn 375 f.1/\Bn 375 f.2)/\(gs.map vl).sum=fK (λi=>K24.wq as i*vl (sE ((pick fcss pl).getD i none))) k,⟨none,none,[],[],rfl,S1,h1,.nil,aG _,by simp,rfl⟩,?_,?_⟩)
  .rintro k σ' H2 hk ⟨u4,u5,ys,gs,rfl,S2,h2,fl2,gk,gb,ev⟩;have lo:=aj (show k<pl.length by rw[ft.1];exact hk);have lfc:=aj hk;have pk:=CP ft lfc lo;have mf:=aW hk;obtain⟨lk',ds,q1,q2,q3,q4⟩:=r3 k _ lfc;have es:∀z,K24.wq as k*vl (sE ((pick fcss pl).getD k none))=z->fK (λi=>K24.wq as i*vl (sE ((pick fcss pl).getD i none))) (k+1)=fK (λi=>K24.wq as i*vl (sE ((pick fcss pl).getD i none))) k+z:=λz e=>by rw[<- e];rfl
   dsimp only[cQ,List.set_cons_succ,List.set_cons_zero];rcases pk with⟨e0,pz⟩|⟨j,fc,e0,ej,pz⟩
   .refine sI ⟨_,rfl,_,rfl,l,_,(k:Nat),_,rfl,rfl,S2 _ _ hl,bY (j:=k) (by rw[aq,lo,e0];rfl),rfl,false,rfl,?_⟩;refine⟨_,_,ys,gs,rfl,S2,h2,fl2,Nat.le_succ_of_le gk,gb,?_⟩;rw[es 0 (by rw[au,pz];show _*vl (0,1)=0;rw[W9,Rat.mul_zero]),ev,Rat.add_zero]
   .refine sI ⟨_,rfl,_,rfl,l,_,(k:Nat),_,rfl,rfl,S2 _ _ hl,bY (j:=k) (by rw[aq,lo,e0];rfl),rfl,true,ZH (λb=>V.bl (!b)) (Zp (by intro z;cases z)),?_⟩;dsimp only;rw[ZY rfl];have ljd:j<ds.length:=by rw[<- q4.len];exact(ao.mp ej).1
    have edj:=aj ljd;obtain⟨pp,lp,so,S',rs,ws,ps,y1,y2,_⟩:=(q4.at_ j _ fc edj ej).ex;have lka:k<as.length:=by lia
    obtain⟨pa,a',ex,ea,hpa⟩:=fl.get (aj (show k<xs.length by rw[fl.length];exact lka));have exk:xs[k]?=some (.ref pa):=by rw[aj (show k<xs.length by rw[fl.length];exact lka),ex]
    obtain⟨a0,a1,a2⟩:=ab a' (aC ea);obtain⟨p0,p1,p2⟩:=pb _ mf fc (aC ej);refine b_ λR2 hR2=>?_;refine cL ⟨_,rfl,_,rfl,r,xr,(k:Nat),_,rfl,rfl,S2 _ _ r1,bY (j:=k) q1,_,rfl,_,rfl,l,_,(k:Nat),_,rfl,rfl,S2 _ _ hl,bY (j:=k) (by rw[aq,lo,e0];rfl),lk',_,(j:Nat),_,rfl,rfl,S2 _ _ q2,bY (j:=j) (by rw[aq,edj];rfl),_,_,1,_,rfl,rfl,S2 _ _ y1,cR,?_⟩;subst hR2;dsimp only[cQ,List.set_cons_succ,List.set_cons_zero];refine⟨_,rfl,ls,ys,rfl,h2,_,rfl,_,rfl,lf,xs,(k:Nat),_,rfl,rfl,S2 _ _ hlf,bY (j:=k) exk,pa,_,0,_,rfl,rfl,S2 _ _ hpa,cY,_,rfl,pp,_,0,_,rfl,rfl,S2 _ _ y2,cY,_,_,rfl,rfl,⟨a1.bd (by decide),p1.bd (by decide)⟩,_,rfl,_,rfl,lf,xs,(k:Nat),_,rfl,rfl,S2 _ _ hlf,bY (j:=k) exk,pa,_,1,_,rfl,rfl,S2 _ _ hpa,cR,_,rfl,pp,_,1,_,rfl,rfl,S2 _ _ y2,cR,_,_,rfl,rfl,⟨a2.bd (by decide),p2.bd (by decide)⟩,fQ,λt3 H3 S3 f3 h3=>?_⟩;have h23:=S3 _ _ h2;refine⟨_,_,rfl,h23,by rw[fl2.length];lia,_,_,_,gs++[(a'.1*fc.1.1,a'.2*fc.1.2)],rfl,fM f1 (S2.trans S3),bG,((fl2.same S3).append (.one h3)).updL h23,by rw[aA];exact Nat.succ_le_succ gk,λf hf=>?_,?_⟩
    .rcases Y1.mp hf with z|z
     .exact gb f z
     .rw[YR.mp z];exact⟨XZ a0 p0,a1.mul p1,a2.mul p2⟩
    .rw[S_,ev,es (vl (a'.1*fc.1.1,a'.2*fc.1.2))];rw[au,pz];unfold K24.wq;rw[au,ea];exact(Tz a0 p0).symm
  .rintro σ' H2 ⟨u4,u5,ys,gs,rfl,S2,h2,fl2,gk,gb,ev⟩;subst hR1;dsimp only;exact gM ⟨_,rfl,ls,ys,gs,rfl,h2,fl2,by exact aM gk n6,gb,λt H3 S3 f3 so=>by rw[ev]at so;exact q t H3 (S2.trans S3) (S2.free f3) so⟩
noncomputable def BK(as:Ψ)(pl:List (Option Nat)):Ψ:=(as.zip pl).filterMap λz=>z.2.map λ_=>z.1
def Jf:Sp:=λvs H Q _=>∃(lf p l:Addr)(xs:Μ)(as:Ψ)(s:Ι)(pl:List (Option Nat)),vs=[.ref lf,.ref p,.ref l]/\H lf=some (.lst xs)/\FL H xs as/\H p=some (.tup [.int s.1,.int s.2])/\0<s.2/\Bn 2 s.1/\Bn 2 s.2/\H l=some (.lst (pl.map stV))/\as.length=pl.length/\as.length<=6/\(∀a∈as,0<a.2/\Bn 335 a.1/\Bn 335 a.2)/\(as.map vl).sum=1+vl s*((BK as pl).map vl).sum/\∀H',Same H H'->Q (.bl true) H'
theorem Yz{as:Ψ}{pl:List (Option Nat)}{a:Ι}(h:a∈BK as pl):a∈as:=by
 unfold BK at h;obtain⟨z,hz,e⟩:=List.mem_filterMap.mp h;cases ez:z.2 with
 |none=>rw[ez]at e;cases e
 |some j =>
  rw[ez]at e;have e:=Option.some.inj e;rw[<- e];exact(List.of_mem_zip (a:=z.1) (b:=z.2) hz).1
theorem aeA{sp:Sp}{te:TE}{σ:L2.St}{H:Hp}{Q:VK}(h:te σ H λx H1=>sp [x] H1 Q E0):Hl sp (Ks te Fd) σ H Q:=h
theorem aaq(F:Fun K Dq Dq Ft f fd)(T:Txt K mg D)(Im:OkF P w K mg base 1 Ie Hu Oj)(Ah:OkF P w K mg base 1 Ao Df (FW K)):cJ P w K mg base CX0 2 f fd CN Jf:=by
 refine F.ok Bk ?_ ?_
 .rintro _ _ _ _ ⟨lf,p,l,xs,as,s,pl,rfl,_⟩;rfl
 .rintro cdv A outer s H _ Q E hr ⟨lf,p,l,xs,as,sh,pl,rfl,hlf,fl,hp,s2,b1,b2,hl,ap,n6,ab,e,q⟩;have xl:=fl.length;have up:∀a∈as,0<a.2/\Bn 375 a.1/\Bn 375 a.2:=λa ha=>let⟨x,y,z⟩:=ab a ha;⟨x,y.up (by decide),z.up (by decide)⟩;refine⟨_,(bI (bZ (i:=3) Bk.nd (bR Im hr.md (bF pv0)))
   (bI (bZ (i:=4) Bk.nd (bR Im hr.md (bF (kJ (bQ Ft) O_ O_ ["_law_one","_law_door_here"] (Oz T.Wk (bF pv0 (bF pv2)).mono) (gJ (n:=2) rfl (cG (dH (i:=0)) (cG (dH (i:=1)) fX))) (Om (cD yt pv1 mX (cH _))) pv0))))
   (bI (bZ (i:=5) Bk.nd (bV cT (bT cA pv4 bK) (bT cA pv1 bK)))
   (bO (cg (bR Ah hr.md (bF pv3 (bF (jf (bF (bV d9 (bV cT (bT cA pv4 bK) (bT cA pv1 bK)) pv5) (bF pv5))))))))))),?_⟩
  refine b_ λR1 hR1=>?_;refine cL ⟨_,rfl,lf,xs,as,rfl,hlf,fl,n6,up,λt1 H1 S1 f1 so1=>?_⟩;subst hR1;dsimp only[cQ,L2.start,List.set_cons_succ,List.set_cons_zero];refine b_ λR1 hR1=>?_;have zl:(as.zip pl).length=as.length:=by rw[List.length_zip,ap,Nat.min_self]
  refine cL (aeA (uP ⟨_,rfl,_,rfl,lf,l,xs,pl.map stV,rfl,S1 _ _ hlf,S1 _ _ hl,by rw[ak,xl,ap],by lia,λD1 hD=>⟨λk zs Hc=>Same H1 Hc/\Hc D1=some (.lst zs)/\FL Hc zs (((as.zip pl).take k).filterMap λz=>z.2.map λ_=>z.1),⟨Same.upd hD,bG,.nil⟩,?_,?_⟩⟩))
  .rintro k x y zs Hc t hx hy ⟨S2,h2,fl2⟩ zk ht hlf2 hl2;obtain⟨pa,a,rfl,ea,hpa⟩:=fl.get hx;have lk:k<pl.length:=by have:=(ao.mp hy).1;rwa[ak]at this
   have eo:=aj lk;rw[aq,eo]at hy;cases hy;have ez:(as.zip pl)[k]?=some (a,pl[k]):=by rw[List.getElem?_zip_eq_some];exact⟨ea,eo⟩
   generalize pl[k]=o at *;have S3:Same Hc (upd Hc t (.tup [.ref pa,stV o])):=Same.upd ht;have e3:upd Hc t (.tup [.ref pa,stV o]) t=some (.tup [.ref pa,stV o]):=bG;generalize upd Hc t (.tup [.ref pa,stV o])=H3 at S3 e3 ⊢;intro pre hpre;obtain⟨u,v,rfl⟩:=Oe hpre;refine⟨t,_,rfl,e3,rfl,_,_,rfl,_,_,rfl,rfl,[_,_],rfl,rfl,?_⟩;cases o with
   |none =>
    refine⟨_,rfl,rfl,false,rfl,S3 _ _ hlf2,S3 _ _ hl2,S2.trans S3,S3 _ _ h2,?_⟩;rw[cj ez,List.filterMap_append];show FL H3 zs (_++[]);rw[List.append_nil];exact fl2.same S3
   |some j =>
    refine⟨_,rfl,rfl,true,ZH (λb=>V.bl (!b)) (Zp (by intro z;cases z)),_,rfl,S3 _ _ h2,S3 _ _ hlf2,S3 _ _ hl2,fM hD (S2.trans S3),bG,?_⟩;rw[cj ez,List.filterMap_append];exact((fl2.same S3).append (.one (S3 _ _ (S2 _ _ (S1 _ _ hpa))))).updL (S3 _ _ h2)
  rintro zs H2 ⟨S2,h2,fl2⟩ zk;rw[xl,<- zl,aQ]at fl2;have pl6:(BK as pl).length<=6:=aM (List.length_filterMap_le _ _) (aM (Nat.le_of_eq zl) n6);refine⟨D1,zs,BK as pl,rfl,h2,fl2,pl6,λa ha=>up a (Yz ha),λt2 H3 S3 f3 so2=>?_⟩;obtain⟨ta,ba,x1,x2,x3,x4,x5⟩:=so1;obtain⟨tb,bb,w1,w2,w3,w4,w5⟩:=so2;have S03:=S1.trans (S2.trans S3);have x1:=S3 _ _ (S2 _ _ x1);subst hR1;dsimp only[cQ,List.set_cons_succ,List.set_cons_zero];refine b_ λR1 hR1=>?_;refine cL ⟨_,rfl,t2,_,1,_,rfl,rfl,w1,cR,_,rfl,p,_,1,_,rfl,rfl,S03 _ _ hp,cR,_,_,rfl,rfl,⟨w4.bd (by decide),b2.bd (by decide)⟩,?_⟩;subst hR1;dsimp only[cQ,List.set_cons_succ,List.set_cons_zero];have c1:=w3.mul b1;have c2:=w4.mul b2;have c0:=XZ w2 s2;refine gM ⟨_,rfl,_,rfl,t2,_,0,_,rfl,rfl,w1,cY,_,rfl,p,_,0,_,rfl,rfl,S03 _ _ hp,cY,_,_,rfl,rfl,⟨w3.bd (by decide),b1.bd (by decide)⟩,_,rfl,_,_,rfl,rfl,_,rfl,fQ,λt4 H4 S4 f4 h4=>?_⟩;refine⟨t1,t4,(ta,ba),(tb*sh.1+bb*sh.2,bb*sh.2),rfl,.of (S4 _ _ x1),.of h4,⟨x2,x3.bd (by decide),x4.bd (by decide)⟩,⟨c0,(c1.add c2).bd (by decide),c2.bd (by decide)⟩,λb hb=>?_⟩;have:b=true:=hb.mpr (by
   rw[x5,e,<- w5];show 1+vl sh*vl (tb,bb)=((tb*sh.1+bb*sh.2:Int):Rat)/((bb*sh.2:Int):Rat);unfold vl;rw[Rat.intCast_add,XV,XV];have:=d_ s2;have:=d_ w2
   grind)
  rw[this];exact q _ (S03.trans S4)
theorem Yd:∀{as:Ψ},(as.map vl).sum=fK (K24.wq as) as.length
 |[]=>rfl
 |a::as=>by
  rw[List.length_cons,uD];show vl a+(as.map vl).sum=vl a+fK (K24.wq as) as.length;rw[Yd]
theorem V8:∀{as:Ψ}{pl:List (Option Nat)},as.length=pl.length->((BK as pl).map vl).sum=fK (λi=>K24.wq as i*(if(pl.getD i none).isSome then 1 else 0)) as.length
 |[],[],_=>rfl
 |a::as,o::pl,h=>by
  have ih:=V8 (as:=as) (pl:=pl) (by simpa using h);rw[List.length_cons,uD];have e:fK (λi=>K24.wq (a::as) (i+1)*(if((o::pl).getD (i+1) none).isSome then 1 else 0)) as.length=fK (λi=>K24.wq as i*(if(pl.getD i none).isSome then 1 else 0)) as.length:=rfl;rw[e,<- ih];show _=vl a*(if o.isSome then 1 else 0)+_;cases o with
  |none =>
   show((BK as pl).map vl).sum=vl a*0+_
   grind
  |some j =>
   show vl a+((BK as pl).map vl).sum=vl a*1+_
   grind
def Wr:Sp:=λvs H Q _=>∃c:Int,vs=[.int c]/\∀(n:Nat)H',1<=n->n<=6->Same H H'->Q (.int n) H'
theorem aa7(F:Fun K Fz Fz TV f fd)(T:Txt K mg D)(dh:OkF P w K mg base 1 iz iC gP):cJ P w K mg base CX0 2 f fd Gi Wr:=by
 refine F.ok Wm ?_ ?_
 .rintro _ _ _ _ ⟨c,rfl,_⟩;rfl
 .rintro cdv A outer s H _ Q E hr ⟨c,rfl,q⟩;refine⟨_,(bI (bZ (i:=1) Wm.nd (bR dh hr.md (bF pv0 (bF bK))))
   (bI (cW (cD lG (bV dU (bT bU pv1 bK)) bK (cH _))
    (bO (cg (bV d9 bK (bV dU (bT bU pv1 bK)))))
    cF)
   (bO (cg (bV d9 bK (bV dU (bT bU pv1 bK))))))),?_⟩
  unfold gP
  walk_at "rd"
  refine⟨2,rfl,by decide,λl xs H' S _ hl ln hx=>?_⟩;obtain⟨a,b,rfl⟩:=Oe ln;refine⟨_,hl,_,cY,a,rfl,?_⟩;split
  .refine⟨_,hl,_,cR,b,rfl,?_⟩;have:5+b%2=((5+b%2).toNat:Int):=by lia
   rw[this];exact q _ H' (by lia) (by lia) S
  .refine⟨_,hl,_,cR,b,rfl,?_⟩;have:1+b%4=((1+b%4).toNat:Int):=by lia
   rw[this];exact q _ H' (by lia) (by lia) S
def Xy(H H':Hp)(d d':Addr):Prop:=d'=d\/∃(so:Int)(p p' lp:Addr)(x y:Int),H d=some (.tup [.int so,.ref p,.ref lp])/\H' d'=some (.tup [.int so,.ref p',.ref lp])/\H' p'=some (.tup [.int x,.int y])/\0<y/\Zc x y
theorem Xy.imp{H H' H2:Hp}{d d':Addr}(h:Xy H H' d d')(T:∀p us,H' p=some (.tup us)->H2 p=some (.tup us)):Xy H H2 d d':=by
 rcases h with h|⟨so,p,p',lp,x,y,a,b,c,e⟩
 .exact .inl h
 .exact .inr ⟨so,p,p',lp,x,y,a,T _ _ b,T _ _ c,e⟩
def K3(H H':Hp)(dss dss':List (Ε)):Prop:=dss'.length=dss.length/\∀(k:Nat)ds ds',dss[k]?=some ds->dss'[k]?=some ds'->ds'.length=ds.length/\∀(j:Nat)d d',ds[j]?=some d->ds'[j]?=some d'->Xy H H' d d'
theorem K3.imp{H H' H2:Hp}{dss dss':List (Ε)}(h:K3 H H' dss dss')(T:∀p us,H' p=some (.tup us)->H2 p=some (.tup us)):K3 H H2 dss dss':=⟨h.1,λk ds ds' e1 e2=>⟨(h.2 k ds ds' e1 e2).1,λj d d' e3 e4=>((h.2 k ds ds' e1 e2).2 j d d' e3 e4).imp T⟩⟩
def LsD(H:Hp)(ls:Ε)(dss:List (Ε)):Prop:=ls.length=dss.length/\ls.Nodup/\∀(k:Nat)l ds,ls[k]?=some l->dss[k]?=some ds->H l=some (.lst (ds.map V.ref))
theorem Xy.dd{n:Nat}{H H':Hp}{d d':Addr}(h:Xy H H' d d')(S:Same H H')(g:DD n H d):DD n H' d':=by
 rcases h with rfl|⟨so,p,p',lp,x,y,a,b,c,y0,pn⟩
 .exact g.same S
 .obtain⟨p2,lp2,so2,x2,y2,S',rs,ws,ps,a',b',b1,b2,c',e,f⟩:=g.ex;rw[a]at a';cases a';exact⟨p',lp,so,x,y,S',rs,ws,ps,b,c,y0,pn,S _ _ c',e.same S,f⟩
def Qy:Sp:=λvs H Q _=>∃(r l lc:Addr)(xs:Μ)(n:Nat)(dss:List (Ε))(pl:List (Option Nat))(cs:List Int),vs=[.ref r,.ref l,.ref lc]/\H r=some (.lst xs)/\RD n H xs dss/\dss.length=n/\1<=n/\n<=12/\(∀ds∈dss,ds.length<=100)/\H l=some (.lst (pl.map stV))/\U3 dss pl/\H lc=some (.lst (cs.map V.int))/\∀r' ys dss' H',Same H H'->H r'=none->H' r'=some (.lst ys)->RD n H' ys dss'->K3 H H' dss dss'->Q (.ref r') H'
theorem Z5(F:Fun K oG oG pJ f fd)(T:Txt K mg D)(dh:OkF P w K mg base 1 iz iC gP)(Kv:OkF P w K mg base 3 Jt Ip U0):cJ P w K mg base CX0 4 f fd nW Qy:=by
 refine F.ok fZ ?_ ?_
 .rintro _ _ _ _ ⟨r,l,lc,xs,n,dss,pl,cs,rfl,_⟩;rfl
 .rintro cdv A outer s H _ Q E hr ⟨r,l,lc,xs,n,dss,pl,cs,rfl,hr',rd,dn,n1,n12,dm,hl,pf,hlc,q⟩;have xl:xs.length=n:=by rw[rd.len,dn]
  have z9:100<sizeLine:=by decide
  refine⟨_,(bI (yh (bQ pJ) uI uI ["_law_doors_here"] (cV (pv 0).mono) (dH (i:=0)) cU (yP Tp T.Jo boot_list (bF pv0)) (cB (i:=3) fZ.nd))
   (bI (fL PassesOwn.never rfl (cV (pv 2).mono) (cB (i:=4) fZ.nd)
    (bI (bZ (i:=5) fZ.nd (bR dh hr.md (bF pv4 (bF bK))))
    (bI (bZ (i:=6) fZ.nd (bV lB (bT bU pv5 bK) (cu cN T.gH PySem.boot_len (bF pv0))))
    (bO (cW (cD yt (bT bU pv1 pv6) mX (cH _))
     (bI (oX (bT bU (bT bU pv0 pv6) (bT bU pv1 pv6)) (gJ (n:=3) rfl (cG (cB (i:=7) fZ.nd) (cG (cB (i:=8) fZ.nd) (cG (cB (i:=9) fZ.nd) fX)))))
     (bO (oX (jf (bF pv7 (bF (bR Kv hr.md (bF pv4 (bF (bT bU pv5 bK) (bF (bT bU pv5 bK))))) (bF pv9)))) (xZ (bT bU pv3 pv6) (bT bU pv1 pv6) set_list))))
     cF)))))
   (bO (cg pv3)))),?_⟩
  refine b_ λR1 hR1=>?_;refine cL (cM ⟨_,rfl,r,xs,rfl,hr',by lia,λD1 hD=>⟨λk ys Hc=>∃ls,ys=ls.map V.ref/\Same H Hc/\Hc D1=some (.lst ys)/\LsD Hc ls (dss.take k)/\D1∉ls/\∀l∈ls,H l=none,⟨[],rfl,Same.upd hD,bG,⟨rfl,List.nodup_nil,λk l ds e=>by simp at e⟩,by simp,by simp⟩,?_,?_⟩⟩)
  .rintro k x ys Hc hx ⟨ls,rfl,S1,h1,ld,nd,nl⟩ hy hrc;have lk:k<dss.length:=by rw[<- rd.len];exact(ao.mp hx).1
   have ek:=aj lk;obtain⟨lk',ex,hlk,_⟩:=rd.at_ k _ ek;rw[hx]at ex;cases ex;refine⟨_,rfl,lk',_,rfl,S1 _ _ hlk,λp2 H2 S2 f2 h2=>?_⟩;have hD2:=S2 _ _ h1;have n2:p2∉ls:=λz=>by
    obtain⟨i,hi⟩:=aX z;have li:i<(dss.take k).length:=by rw[<- ld.1];exact(ao.mp hi).1
    have:=ld.2.2 i _ _ hi (aj li);rw[f2]at this;cases this
   have nD:D1≠p2:=bH h1 f2;refine⟨hD2,S2 _ _ hrc,ls++[p2],by rw[bC];rfl,fM hD (S1.trans S2),bG,⟨?_,?_,λi l' ds e1 e2=>?_⟩,λz=>?_,λl' hl'=>?_⟩
   .rw[cj ek,aA,aA,ld.1];rfl
   .rw[List.nodup_append];refine⟨ld.2.1,by simp,λa ha b hb z=>?_⟩;rw[YR.mp hb]at z;exact n2 (z ▸ ha)
   .rw[cj ek]at e2;have ll:=ld.1;have ne:∀{b:Addr},b≠D1->upd H2 D1 (.lst (ls.map V.ref++[.ref p2])) b=H2 b:=λn=>bL n;rcases kZ e1 with⟨a1,a2⟩|⟨a1,a2⟩<;>rcases kZ e2 with⟨c1,c2⟩|⟨c1,c2⟩
    .rw[ne (λz=>nd (by rw[<- z];exact aC a2))];exact S2 _ _ (ld.2.2 i l' ds a2 c2)
    .lia
    .lia
    .subst a2;subst c2;rw[ne nD.symm];exact h2
   .rcases Y1.mp z with z|z
    .exact nd z
    .exact nD (YR.mp z)
   .rcases Y1.mp hl' with z|z
    .exact nl l' z
    .rw[YR.mp z];exact S1.free f2
  rintro ys H1 ⟨ls,rfl,S1,h1,ld,nd,nl⟩ hy;rw[aL (by rw[rd.len];exact aG _)]at ld;subst hR1;dsimp only[cQ,L2.start,List.set_cons_succ,List.set_cons_zero];refine b_ λR1 hR1=>?_;refine gK (eN ⟨_,rfl,lc,cs.map V.int,rfl,S1 _ _ hlc,λk σ H'=>∃(u4 u5 u6 u7 u8 u9:Option V)(dss':List (Ε)),σ=[some (.ref r),some (.ref l),some (.ref lc),some (.ref D1),u4,u5,u6,u7,u8,u9]/\Same H H'/\H' D1=some (.lst (ls.map V.ref))/\LsD H' ls dss'/\K3 H H' dss dss',⟨none,none,none,none,none,none,dss,rfl,S1,h1,ld,rfl,λk ds ds' e1 e2=>by rw[e1]at e2;cases e2;exact⟨rfl,λj d d' e3 e4=>by rw[e3]at e4;cases e4;exact .inl rfl⟩⟩,?_,?_⟩)
  .rintro k x σ' H2 hx ⟨u4,u5,u6,u7,u8,u9,dss',rfl,S2,h2,ld2,nw⟩ hlc2;rw[aq]at hx;obtain⟨c,ec,rfl⟩:=Option.map_eq_some_iff.mp hx;dsimp only[cQ,List.set_cons_succ,List.set_cons_zero];refine b_ λR2 hR2=>?_;refine cL ⟨_,rfl,c,4,rfl,by decide,λl4 ys H3 S3 f3 h3 ln hb=>?_⟩;obtain⟨y0,y1,y2,y3,rfl⟩ : ∃a b c e,ys=[a,b,c,e]:=by
    match ys,ln with
    |[a,b,c,e],_=>exact⟨a,b,c,e,rfl⟩
   have S03:=S2.trans S3;obtain⟨rm,erm,rmn⟩ : ∃rm:Nat,y0.fmod (xs.length:Nat)=rm/\rm<n:=by
    rw[xl,aY _ (Wp _)];have g0:0<=y0%(n:Int):=Z3 _ (by lia);have g1:y0%(n:Int)<n:=YY _ (by lia);exact⟨(y0%(n:Int)).toNat,by lia,by lia⟩
   subst hR2;dsimp only[cQ,List.set_cons_succ,List.set_cons_zero];refine b_ λR2 hR2=>?_;refine cL ⟨_,rfl,l4,_,0,_,rfl,rfl,h3,cY,_,rfl,r,xs,rfl,S03 _ _ hr',_,_,rfl,rfl,by lia,?_⟩;subst hR2;dsimp only[cQ,List.set_cons_succ,List.set_cons_zero];rw[erm];have lo:=aj (show rm<pl.length by rw[pf.1,dn];exact rmn);have ed:=aj (show rm<dss.length by rw[dn];exact rmn);have fz:=pf.2 rm _ _ ed lo;obtain⟨lk',ex,hlk,dd⟩:=rd.at_ rm _ ed;have dmr:=dm _ (aC ed);generalize pl[rm]'(by rw[pf.1,dn];exact rmn)=po at *;generalize dss[rm]'(by rw[dn];exact rmn)=ds at *;cases po with
   |none =>
    refine sI ⟨_,rfl,_,rfl,l,_,(rm:Nat),_,rfl,rfl,S03 _ _ hl,bY (j:=rm) (by rw[aq,lo];rfl),rfl,false,rfl,?_⟩;exact⟨S3 _ _ hlc2,_,_,_,_,_,_,dss',rfl,S03,S3 _ _ h2,⟨ld2.1,ld2.2.1,λk l ds e1 e2=>S3 _ _ (ld2.2.2 k l ds e1 e2)⟩,nw.imp λp us e=>S3 _ _ e⟩
   |some j =>
    refine sI ⟨_,rfl,_,rfl,l,_,(rm:Nat),_,rfl,rfl,S03 _ _ hl,bY (j:=rm) (by rw[aq,lo];rfl),rfl,true,ZH (λb=>V.bl (!b)) (Zp (by intro z;cases z)),?_⟩;dsimp only;rw[ZY rfl];have lj:j<ds.length:=by
     unfold JQ at fz;by_cases z:ds.length=0
     .rw[ZY z]at fz;exact absurd (of_decide_eq_true fz) (λw=>by cases w)
     .rw[ZZ z]at fz;have fz:(decide ((0:Int)<=(j:Nat))&&decide (((j:Nat):Int)<ds.length))=true:=fz;rw[Bool.and_eq_true,decide_eq_true_iff,decide_eq_true_iff]at fz;lia
    have ej:=aj lj;obtain⟨p,lp,so,x,y,S',rs,ws,ps,d1,d2,d3,d4,d5,d6,d7⟩:=(dd _ (aW lj)).ex;refine b_ λR2 hR2=>?_;refine cL ⟨_,rfl,_,rfl,r,xs,(rm:Nat),_,rfl,rfl,S03 _ _ hr',bY (j:=rm) ex,_,rfl,_,rfl,l,_,(rm:Nat),_,rfl,rfl,S03 _ _ hl,bY (j:=rm) (by rw[aq,lo];rfl),lk',_,(j:Nat),_,rfl,rfl,S03 _ _ hlk,bY (j:=j) (by rw[aq,ej];rfl),_,_,rfl,S03 _ _ d1,rfl,_,_,rfl,_,_,rfl,_,_,rfl,rfl,?_⟩;subst hR2;dsimp only[cQ,List.set_cons_succ,List.set_cons_zero];refine OD ⟨_,rfl,_,rfl,_,rfl,l4,_,1,_,rfl,rfl,h3,cR,_,rfl,l4,_,2,_,rfl,rfl,h3,bY (j:=2) rfl,c,y1,y2,rfl,λp4 x4 y4 f4 y40 g4 b4 b5=>⟨_,rfl,(show 3<=sizeLine by decide),λt5 H5 S5 f5 h5=>?_⟩⟩;have S45:=(Same.upd f4 (o:=.tup [.int x4,.int y4])).trans S5;have h45:=S5 _ _ (bG (H:=H3) (a:=p4) (o:=.tup [.int x4,.int y4]));have S35:=S3.trans S45;have S05:=S2.trans S35;have lls:rm<ls.length:=by rw[ld2.1,nw.1,dn];exact rmn
    have el:=aj lls;have lm':=aW lls;have ed':=aj (show rm<dss'.length by rw[nw.1,dn];exact rmn);have hls:=ld2.2.2 rm _ _ el ed';obtain⟨dl',nwr⟩:=nw.2 rm _ _ ed ed';generalize ls[rm]=la at *;generalize dss'[rm]'(by rw[nw.1,dn];exact rmn)=ds' at *;have h5l:=S35 _ _ hls;refine⟨_,rfl,_,rfl,D1,_,(rm:Nat),_,rfl,rfl,S35 _ _ h2,bY (j:=rm) (by rw[aq,el];rfl),_,rfl,_,rfl,l,_,(rm:Nat),_,rfl,rfl,S05 _ _ hl,bY (j:=rm) (by rw[aq,lo];rfl),la,_,(j:Nat),j,rfl,rfl,h5l,Wi (by rw[ak];lia),?_⟩;have SH:=fM (o:=.lst ((ds'.map V.ref).set j (.ref t5))) (nl la lm') S05;have nD:D1≠la:=λz=>nd (z ▸ lm');have tp:∀p us,H5 p=some (.tup us)->upd H5 la (.lst ((ds'.map V.ref).set j (.ref t5))) p=some (.tup us):=λp us e=>(bL (d8 e h5l)).trans e;refine⟨SH _ _ hlc,_,_,_,_,_,_,dss'.set rm (ds'.set j t5),rfl,SH,(bL nD).trans (S35 _ _ h2),⟨by rw[List.length_set];exact ld2.1,ld2.2.1,λi l' dsi e1 e2=>?_⟩,by rw[List.length_set];exact nw.1,λi dsi dsi' e1 e2=>?_⟩
    .by_cases z:i=rm
     .subst z;rw[List.getElem?_set_self (by rw[nw.1,dn];exact rmn)]at e2;cases e2;rw[el]at e1;cases e1;rw[bG,List.map_set]
     .rw[List.getElem?_set_ne (λw=>z w.symm)]at e2;have ne:l'≠la:=λw=>by
       subst w;exact z ((List.getElem?_inj (ao.mp e1).1 ld2.2.1).mp (e1.trans el.symm))
      exact(bL ne).trans (S35 _ _ (ld2.2.2 i l' dsi e1 e2))
    .by_cases z:i=rm
     .subst z;rw[List.getElem?_set_self (by rw[nw.1,dn];exact rmn)]at e2;cases e2;rw[ed]at e1;cases e1;refine⟨by rw[List.length_set];exact dl',λj' d d' e3 e4=>?_⟩;by_cases zj:j'=j
      .subst zj;rw[List.getElem?_set_self (by lia)]at e4;cases e4;rw[ej]at e3;cases e3;exact .inr ⟨so,p,p4,lp,x4,y4,d1,tp _ _ h5,tp _ _ h45,y40,⟨g4,b4,b5⟩⟩
      .rw[List.getElem?_set_ne (λw=>zj w.symm)]at e4;exact(nwr j' d d' e3 e4).imp λp us e=>tp _ _ (S35 _ _ e)
     .rw[List.getElem?_set_ne (λw=>z w.symm)]at e2;obtain⟨a1,a2⟩:=nw.2 i dsi dsi' e1 e2;exact⟨a1,λj' d d' e3 e4=>(a2 j' d d' e3 e4).imp λp us e=>tp _ _ (S35 _ _ e)⟩
  .rintro σ' H2 ⟨u4,u5,u6,u7,u8,u9,dss',rfl,S2,h2,ld2,nw⟩ _;subst hR1;dsimp only;refine gM ⟨_,rfl,q D1 _ dss' H2 S2 hD h2 ⟨by rw[ak,ld2.1],λk ds' e=>?_⟩ nw⟩;have lk:=(ao.mp e).1;have el:=aj (show k<ls.length by rw[ld2.1];exact lk);refine⟨_,by rw[aq,el];rfl,ld2.2.2 k _ ds' el e,λd' hd'=>?_⟩;have ek:=aj (show k<dss.length by rw[<- nw.1];exact lk);obtain⟨l1,nj⟩:=nw.2 k _ ds' ek e;generalize dss[k]'(by rw[<- nw.1];exact lk)=ds at *;obtain⟨j,ej⟩:=aX hd';have lj:=aj (show j<ds.length by rw[<- l1];exact(ao.mp ej).1);obtain⟨_,_,_,dd⟩:=rd.at_ k _ ek;exact(nj j _ d' lj ej).dd S2 (dd _ (aC lj))
theorem o8.few{n:Nat}{H:Hp}{dss:List (Ε)}{rms:List (Str×List Dr)}(h:o8 K n H dss rms)(ok:Km rms):Ef rms:=by
 refine⟨ok.len,ok.few,λg hg d hd=>?_⟩;obtain⟨j,hj⟩:=aX hg;have lj:j<dss.length:=by rw[<- h.len];exact(ao.mp hj).1
 obtain⟨_,z⟩:=(h.at_ j _ g (aj lj) hj).mem hd;exact aM z.few.1 (by decide)
theorem o8.dn{n:Nat}{H:Hp}{dss:List (Ε)}{rms:List (Str×List Dr)}(h:o8 K n H dss rms){k:Nat}{ds:Ε}(e:dss[k]?=some ds):dnR rms k=ds.length:=by
 have lk:k<rms.length:=by rw[h.len];exact(ao.mp e).1
 unfold dnR;rw[aj lk];exact(h.at_ k _ _ e (aj lk)).len
theorem o8.fitR{n:Nat}{H:Hp}{dss:List (Ε)}{rms:List (Str×List Dr)}(h:o8 K n H dss rms){ps:List (Option Nat)}(pf:U3 dss ps):acs rms ps:=by
 refine⟨by rw[pf.1,h.len],λk x e=>?_⟩;rw[aq]at e;cases eo:ps[k]? with
 |none=>rw[eo]at e;cases e
 |some o =>
  rw[eo]at e;cases e;have lk:k<dss.length:=by rw[<- pf.1];exact(ao.mp eo).1
  rw[h.dn (aj lk)];exact pf.2 k _ o (aj lk) eo
theorem Vt{n:Nat}{H:Hp}{r:Addr}{xs:Μ}{dss:List (Ε)}{fcss:List (List FC)}{ps:List (Option Nat)}(pf:U3 dss ps)(rml:sX H r fcss)(hr:H r=some (.lst xs))(rd:RD n H xs dss)(ld:dss.length=fcss.length):Ih fcss ps:=by
 obtain⟨xs',hr',xl,xa⟩:=rml.ex;rw[hr]at hr';cases hr';refine⟨by rw[pf.1,ld],λk fcs o e1 e2=>?_⟩;have lk:k<dss.length:=by rw[ld];exact(ao.mp e1).1
 have ek:dss[k]?=some dss[k]:=aj lk;have f:=pf.2 k _ o ek e2;obtain⟨l,ds,c1,c2,c3,c4⟩:=xa k fcs e1;obtain⟨l',d1,d2,_⟩:=rd.at_ k _ ek;rw[c1]at d1;cases d1;rw[c2]at d2;have dl:ds.length=dss[k].length:=by
  have:=ZH List.length (HO.lst.inj (Option.some.inj d2));rwa[ak,ak]at this
 have fl:=c4.len;rw[<- dl,<- fl]at f;unfold JQ at f;refine⟨λe=>?_,λj e=>?_⟩
 .subst e;by_cases z:fcs.length=0
  .exact List.eq_nil_of_length_eq_zero z
  .rw[ZZ z]at f;cases f
 .subst e;by_cases z:fcs.length=0
  .rw[ZY z]at f;exact absurd (of_decide_eq_true f) (λw=>by cases w)
  .rw[ZZ z]at f;have f:(decide ((0:Int)<=(j:Nat))&&decide (((j:Nat):Int)<(fcs.length:Nat)))=true:=f;have:=of_decide_eq_true (Bool.and_eq_true_iff.mp f).2;omega
theorem zu.pays{H:Hp}{o:Addr}{s:Ι}{fcss:Γ}(h:zu K D H o s fcss):∀fcs∈fcss,∀fc∈fcs,0<fc.1.2/\Bn 40 fc.1.1/\Bn 40 fc.1.2:=λfcs a fc b=>by
 obtain⟨p,rms,_,_,_,_,fl,dn⟩:=h.ex;obtain⟨k,ek⟩:=aX a;have lk:k<rms.length:=by rw[<- fl];exact(ao.mp ek).1
 have d:=dn k _ fcs (aj lk) ek;obtain⟨j,ej⟩:=aX b;have lj:j<(rms[k]).2.length:=by rw[d.len];exact(ao.mp ej).1
 exact(d.at_ j _ fc (aj lj) ej).2.pay
theorem Yx{H:Hp}{o:Addr}{x y:Int}{m:Nat}{fcss:List (List FC)}(h:zu K D H o (x,y) fcss)(x0:0<=x)(xy:x<y)(y1:y<=100)(n8:fcss.length<=8)(dm:∀fcs∈fcss,fcs.length<=m/\∀fc∈fcs,Kl fc):Z_ (x,y) fcss:=by
 refine⟨x0,xy,y1,n8,λfcs a fc b=>?_⟩;obtain⟨p,rms,_,_,_,_,fl,dn⟩:=h.ex;obtain⟨k,ek⟩:=aX a;have lk:k<rms.length:=by rw[<- fl];exact(ao.mp ek).1
 have d:=dn k _ fcs (aj lk) ek;obtain⟨j,ej⟩:=aX b;have lj:j<(rms[k]).2.length:=by rw[d.len];exact(ao.mp ej).1
 have df:=(d.at_ j _ fc (aj lj) ej).2;have dM:=(dm fcs a).2 fc b;obtain⟨M,M0,M1,M2,M3⟩:=dM.ex;have y0:0<y:=Int.lt_of_le_of_lt x0 xy;have p0:=XZ y0 (show(0:Int)<(M:Nat)by lia);have p1:=Int.mul_le_mul y1 M1 (Wp _) (by decide);have e:(((y*(M:Nat)).toNat:Nat):Int)=y*(M:Nat):=Int.toNat_of_nonneg (XY p0);refine⟨⟨(y*(M:Nat)).toNat,by lia,by lia,dM.few,?_,λc hc=>?_⟩,dM.f0,dM.gc,dM.big,dM.one⟩
 .rw[e];exact Int.dvd_trans M2 (Int.dvd_mul_left _ _)
 .obtain⟨c0,c1,c2,c3⟩:=M3 c hc;exact⟨(df.ch c hc).1,c0,by rw[e];exact Int.mul_dvd_mul_left y c1,c2,c3⟩
theorem ZC{H:Hp}{ps:Μ}{rs rs':List Nat}{ws ws':List Int}{S S':Int}(a:PI H ps rs ws S)(b:PI H ps rs' ws' S')(la:rs.length=ws.length)(lb:rs'.length=ws'.length):K6 rs ws S=K6 rs' ws' S':=by
 have l1:=a.len;have l2:=b.len;refine List.ext_getElem? λk=>?_;unfold K6;rw[List.getElem?_zipWith,List.getElem?_zipWith];by_cases l:k<ps.length
 .have e1:=aj (show k<rs.length by exact aV l (Nat.le_of_eq l1));have e2:=aj (show k<ws.length by lia);have e3:=aj (show k<rs'.length by exact aV l (Nat.le_of_eq l2));have e4:=aj (show k<ws'.length by lia);obtain⟨t,c,x1,x2,x3⟩:=a.at_ k _ _ e1 e2;obtain⟨t',c',y1,y2,y3⟩:=b.at_ k _ _ e3 e4;rw[x1]at y1;cases y1;rw[x2]at y2;injection y2 with y2;injection y2 with y2;injection y2 with p1 p2;injection p1 with p1;injection p2 with p2 _;injection p2 with p2;subst p2;rw[x3]at y3;injection y3 with y3;injection y3 with y3;injection y3 with q1 q2;injection q1 with q1;injection q2 with q2 _;injection q2 with q2;rw[e1,e2,e3,e4];show some (_,_)=some (_,_);rw[Int.natCast_inj.mp p1,show Ac.lw ws[k] S=Ac.lw ws'[k] S' from Prod.ext q1 q2]
 .rw[aN (show rs.length<=k by lia),aN (show rs'.length<=k by lia)]
theorem aai{as bs:Ε}(h:as.map V.ref=bs.map V.ref):as=bs:=List.map_inj_right (λ_ _ e=>by injection e) |>.mp h
theorem RN{n k:Nat}{H:Hp}{r:Addr}{xs:Μ}{dss:List (Ε)}{fcss:List (List FC)}{fcs:List FC}{ds:Ε}(rml:sX H r fcss)(hr:H r=some (.lst xs))(rd:RD n H xs dss)(e1:fcss[k]?=some fcs)(e2:dss[k]?=some ds):Yv fcss.length H ds fcs:=by
 obtain⟨xs',hr',_,xa⟩:=rml.ex;rw[hr]at hr';cases hr';obtain⟨l,ds',c1,c2,_,c4⟩:=xa k fcs e1;obtain⟨l',d1,d2,_⟩:=rd.at_ k ds e2;rw[c1]at d1;cases d1;rw[c2]at d2;rw[<- aai (HO.lst.inj (Option.some.inj d2))];exact c4
theorem Xr{n:Nat}{H0 H:Hp}{r r':Addr}{xs xs':Μ}{dss dss':List (Ε)}{fcss fcss':List (List FC)}{pl:List (Option Nat)}(S:Same H0 H)(nw:K3 H0 H dss dss')(rml:sX H r fcss)(hr:H r=some (.lst xs))(rd:RD n H xs dss)(rml':sX H r' fcss')(hr':H r'=some (.lst xs'))(rd':RD n H xs' dss')(fl:fcss.length=dss.length)(fl':fcss'.length=dss.length)(ft:Ih fcss pl)(ft':Ih fcss' pl)(i:Nat)(G:Nat->Rat):gR (ccs ((pick fcss pl).getD i none)) G=gR (ccs ((pick fcss' pl).getD i none)) G:=by
 by_cases l:i<dss.length
 .have e1:=aj (show i<fcss.length by lia);have e2:=aj (show i<fcss'.length by lia);have e3:=aj l;have e4:=aj (show i<dss'.length by rw[nw.1];exact l);have eo:=aj (show i<pl.length by rw[ft.1];lia);have c:=RN rml hr rd e1 e3;have c':=RN rml' hr' rd' e2 e4;have nd:=(nw.2 i _ _ e3 e4).2;have p:=CP ft e1 eo;have p':=CP ft' e2 eo;rw[au,au];rcases p with⟨z,p⟩|⟨j,fc,z,ej,p⟩<;>rcases p' with⟨z',p'⟩|⟨j',fc',z',ej',p'⟩<;>rw[z]at z'
  .rw[p,p']
  .cases z'
  .cases z'
  .cases z';rw[p,p'];show gR fc.2 G=gR fc'.2 G;have lj:=(ao.mp ej).1;have lj':=(ao.mp ej').1;rw[c.len]at lj;rw[c'.len]at lj';have ed:=aj lj;have ed':=aj lj';obtain⟨q1,lp,so,S1,rs,ws,ps,a1,a2,a3,a4,a5,a6⟩:=(c.at_ j _ fc ed ej).ex;obtain⟨q2,lp',so',S2,rs',ws',ps',b1,b2,b3,b4,b5,b6⟩:=(c'.at_ j _ fc' ed' ej').ex;have lpp:lp=lp':=by
    rcases nd j _ _ ed ed' with w|⟨so2,u,u',lp2,_,_,w1,w2,_⟩
    .rw[w,a1]at b1;cases b1
     rfl
    .have w1:=S _ _ w1;rw[a1]at w1;rw[b1]at w2;cases w1;cases w2
     rfl
   subst lpp;rw[a3]at b3;cases b3;rw[a6,b6,ZC a4 b4 a5.len b5.len]
 .rw[au,au,aN (by rw[jD ft];lia),aN (by rw[jD ft'];lia)]
theorem Io.other{s:Ι}{cs cs':List (Option FC)}{st:Nat}{as:Ψ}(h:Io s cs' st as)(l:cs'.length=cs.length)(e:∀(i:Nat)(G:Nat->Rat),gR (ccs (cs.getD i none)) G=gR (ccs (cs'.getD i none)) G):Io s cs st as:=by
 refine⟨by rw[h.len,l],h.low,h.bd,λx=>?_⟩;have:=h.eqn x;rw[l]at this;rw[<- this];refine eG λi _=>?_;unfold E_;rw[e]
theorem aa1{s:Ι}{cs:List (Option FC)}{st:Nat}{as ws:Ψ}(v:Io s cs st as)(w:Lw s cs ws):fK (λi=>K24.wq as i*vl (sE (cs.getD i none))) cs.length=K24.wq ws st:=by
 rw[<- v.eqn (K24.wq ws)];refine eG λi hi=>?_;have ec:=aj hi;have ew:=aj (show i<ws.length by rw[w.len];exact hi);obtain⟨z,nz⟩:=w.at_ i _ _ ec ew;have e1:K24.wq ws i=vl (ws[i]'(by rw[w.len];exact hi)):=by unfold K24.wq;rw[au,ew];rfl
 unfold E_;rw[au,ec,e1];generalize ws[i]'(by rw[w.len];exact hi)=a at *;show _*vl (sE cs[i])=_*(_-_*gR (ccs cs[i]) _);generalize cs[i]=c at *;cases c with
 |none =>
  rw[z rfl];show _*vl (0,1)=_*(0-vl s*0);rw[W9]
  grind
 |some fc =>
  rw[nz fc rfl];show _*vl fc.1=_*(V4 s fc.1 fc.2 ws-vl s*gR fc.2 (K24.wq ws));unfold V4
  grind
theorem abf{s:Ι}{fcss:List (List FC)}{pl:List (Option Nat)}{st:Nat}{as:Ψ}(ft:Ih fcss pl)(one:∀fcs∈fcss,∀fc∈fcs,gR fc.2 (λ_=>1)=1)(v:Io s (pick fcss pl) st as):(as.map vl).sum=1+vl s*((BK as pl).map vl).sum:=by
 have al:=v.len;have cl:=jD ft;rw[Yd,V8 (by rw[al,cl,ft.1])];have e:=v.eqn λ_=>1;rw[<- al,eG (g:=λi=>1*K24.wq as i+(-(vl s))*(λi=>K24.wq as i*(if(pl.getD i none).isSome then 1 else 0)) i) λi hi=>?_,Bp]at e
 .have e:1*fK (K24.wq as) as.length + -(vl s)*fK (λi=>K24.wq as i*(if(pl.getD i none).isSome then 1 else 0)) as.length=1:=e
  grind
 .have eo:=aj (show i<pl.length by rw[ft.1,<- cl,<- al];exact hi);have ef:=aj (show i<fcss.length by rw[<- cl,<- al];exact hi);have p:=CP ft ef eo;have mf:=aW (show i<fcss.length by rw[<- cl,<- al];exact hi);unfold E_;dsimp only;rw[au,au,eo];rcases p with⟨z,p⟩|⟨j,fc,z,ej,p⟩<;>rw[p]
  .show K24.wq as i*(1-vl s*0)=1*K24.wq as i + -(vl s)*(K24.wq as i*(if(pl[i]'(by rw[ft.1,<- cl,<- al];exact hi)).isSome then 1 else 0));rw[z];show _=_+_*(_*0)
   grind
  .show K24.wq as i*(1-vl s*gR fc.2 λ_=>1)=1*K24.wq as i + -(vl s)*(K24.wq as i*(if(pl[i]'(by rw[ft.1,<- cl,<- al];exact hi)).isSome then 1 else 0));rw[one _ mf fc (aC ej),z];show _=_+_*(_*1)
   grind
theorem ints_of:∀{l:Μ},(∀v∈l,∃i,v=V.int i)->∃cs:List Int,l=cs.map V.int
 |[],_=>⟨[],rfl⟩
 |v::l,h=>by
  obtain⟨i,rfl⟩:=h v aP;obtain⟨cs,rfl⟩:=ints_of λu hu=>h u (aJ _ hu);exact⟨i::cs,rfl⟩
theorem Ei{α:Type}{g:α->PyData}(h:∀x,PyData.canLay0 (g x)=true):∀xs:List α,PyData.canLayAll0 (xs.map g)=true
 |[]=>rfl
 |x::xs=>by rw[List.map_cons];unfold PyData.canLayAll0;rw[Ei h xs,h x];rfl
theorem Jg{α:Type}{g:α->PyData}{n:Nat}(h:∀x,PyData.depth (g x)<=n):∀xs:List α,PyData.depthAll (xs.map g)<=n
 |[]=>bA _
 |x::xs=>by
  rw[List.map_cons];unfold PyData.depthAll;have:=Jg h xs;have:=h x;lia
theorem aal{α:Type}{g:α->PyData}(h:∀x,PyData.canLay0 (g x)=true)(d:∀x,PyData.depth (g x)<=2)(xs:List α):SeqAt.shaped (.list (xs.map g))=true/\PyData.eqv (.list (xs.map g)) (.list (xs.map g))=true:=by
 have h1:PyData.canLay0 (.list (xs.map g))=true:=by unfold PyData.canLay0;exact Ei h xs
 have h2:PyData.depth (.list (xs.map g))<=64:=by unfold PyData.depth;have:=Jg d xs;lia
 refine⟨?_,PySem.SeqAt.eqv_refl _ h1⟩;unfold SeqAt.shaped;rw[h1,Zs h2];rfl
theorem FLK.shows{H:Hp} : ∀{xs:Μ}{fs:Ψ},FLK K H xs fs->dz K H xs (fs.map frD)
 |_,_,.nil=>.nil
 |_,_,.cons e t=>.cons (.tup e (.cons (.int _) (.cons (.int _) .nil))) (FLK.shows t)
theorem if_not{a b:Prop}(h:b):if false=true then a else b:=h
theorem oH{H:Hp}{a:Addr}{u v:HO} : upd (upd H a u) a v=upd H a v:=by
 funext b
 by_cases z:b=a
 .rw[z,bG,bG]
 .rw[bL z,bL z,bL z]
def HF(K:Frag)(D:Adr)(n:Nat)(H:Hp)(ps o:Addr)(dss:List (Ε))(rms:List (Str×List Dr)):Prop:=j5 D H o ps rms/\Km rms/\o8 K n H dss rms
theorem HF.same{n:Nat}{H H':Hp}{ps o:Addr}{dss:List (Ε)}{rms:List (Str×List Dr)}(h:HF K D n H ps o dss rms)(S:Same H H'):HF K D n H' ps o dss rms:=⟨h.1.same S,h.2.1,h.2.2.same S⟩
def Two(K:Frag)(D:Adr)(n:Nat)(ps:Addr)(dss dss':List (Ε))(G:Hp):Nat->Μ->Prop
 |0,ys=>ys=[]
 |1,ys=>∃o rms,ys=[.ref o]/\HF K D n G ps o dss rms
 |_,ys=>∃o rms o' rms',ys=[.ref o,.ref o']/\HF K D n G ps o dss rms/\HF K D n G ps o' dss' rms'
theorem aeI(F:Fun K Mh Mh Rk f fd)(T:Txt K mg D)(aa6:∀a ns,OkF P w K mg base 1 yM yx (BL K a ns))(dh:OkF P w K mg base 1 iz iC gP)(O9:OkF P w K mg base 3 Dm Aq QM)(Vh:OkF P w K mg base 2 Fz Gi Wr)(Y_:∀a ns,OkF P w K mg base 5 vM wR (Hz K a ns))(Iz:OkF P w K mg base 2 yQ yw K5)(N8:OkF P w K mg base 4 oG nW Qy)(acv:OkF P w K mg base 9 FJ Fo (VL K D))(oA:OkF P w K mg base 9 m8 ni (Yi K D))(rF:OkF P w K mg base 9 qd qe (ZG K D))(uJ:OkF P w K mg base 3 oR oh (Z4 K))(PL:OkF P w K mg base 2 Dq CN Jf)(Ah:OkF P w K mg base 1 Ao Df (FW K))(PN:OkF P w K mg base 2 FT Gb Eh):cJ P w K mg base CX0 10 f fd TJ (Wy K):=by
 refine F.ok pq ?_ ?_
 .rintro _ _ _ _ ⟨a,ns,rfl,_⟩;rfl
 .rintro cdv A outer s H _ Q E hr ⟨a,ns,rfl,hs,hl,_,hQ⟩;have rY:=aa6 a ns;have Px:=Y_ a ns;have TY:=acv.frameL;refine⟨_,(bI (bZ (i:=1) pq.nd (hx:=(Or.inr rfl)) (bR O9 hr.md (bF (bR rY hr.md (bF pv0 (bF bK))))))
   (bI (bZ (i:=2) pq.nd (bR Vh hr.md (bF (bR rY hr.md (bF pv0 (bF bK))))))
   (bI (bZ (i:=3) pq.nd (bR Px hr.md (bF pv0 (bF bK (bF pv2 (bF bK))))))
   (bI (bZ (i:=4) pq.nd (bR Iz hr.md (bF (bR rY hr.md (bF pv0 (bF bK))) (bF pv3))))
   (bI (bZ (i:=5) pq.nd (bR N8 hr.md (bF pv3 (bF pv4 (bF (mZ Bt pv0 (iQ bK) (iQ bK)))))))
   (bI (yh (bQ Rk) adi ["_law_script","_law_share_here","_law_many","_law_rooms","_law_plan","_law_other","_law_halls","_law_start","_law_found","_law_worths","_law_again","?_law_some"] ["_law_some"] (cV ((pG (bF pv3 (bF pv5)))).mono) (dH (i:=0)) cU (bR TY hr.md (bF (bR rY hr.md (bF pv1 (bF bK))) (bF pv2 (bF pv0)))) (cB (i:=6) pq.nd))
   (bI (bZ (i:=7) pq.nd (bV lB (bT bU (bR dh hr.md (bF (bR rY hr.md (bF pv0 (bF bK))) (bF bK))) bK) pv2))
   (bI (bZ (i:=8) pq.nd (bR oA hr.md (bF (bT bU pv6 bK) (bF pv4 (bF pv7)))))
   (bI (bZ (i:=9) pq.nd (pG (bF (bR rF hr.md (bF (bT bU pv6 bK) (bF pv4))) (bF (bR rF hr.md (bF (bT bU pv6 bK) (bF pv4)))))))
   (bI (bZ (i:=10) pq.nd (bR oA hr.md (bF (bT bU pv6 bK) (bF pv4 (bF pv7)))))
   (bI (fL PassesOwn.never rfl (cV ((pG (bF pv8 (bF (bT bU pv9 bK) (bF (bT bU pv9 bK) (bF (pv 10))))))).mono) (cB (i:=11) pq.nd)
    (bO (cW (fU (fj (bR uJ hr.md (bF (pv 11) (bF pv2)))))
     (bO (cg vh))
     cF)))
   (bI (cW (PW.pt (pw_or (cD (yS (K:=K) rfl hr.units) pv8 (pv 10) (cH _)) (pw_or1 (fU (fj (bR PL hr.md (bF pv8 (bF pv1 (bF pv4)))))))))
    (bO (cg vh))
    cF)
   (bI (cW (fU (fj (bR Ah hr.md (bF (bT bU (bT bU pv9 bK) pv7) (bF (bR PN hr.md (bF pv8 (bF pv3 (bF pv4)))))))))
    (bO (cg vh))
    cF)
   (bO (cg (bR Ah hr.md (bF (bT bU (bT bU pv9 bK) pv7) (bF (bR PN hr.md (bF pv8 (bF pv5 (bF pv4)))))))))))))))))))))),?_⟩
  have z9:100<sizeLine:=by decide
  refine b_ λR1 hR1=>?_;refine cL ⟨_,rfl,2,rfl,hs,hl,by decide,_,rfl,λps x y H1 S1 h1 x0 xy y1 gx=>?_⟩;subst hR1;dsimp only[cQ,L2.start,List.set_cons_succ,List.set_cons_zero];refine b_ λR1 hR1=>?_;refine cL ⟨_,rfl,0,rfl,Same.sql S1 hs,hl,by decide,_,rfl,λn H2 n1 n6 S2=>?_⟩;have S02:=S1.trans S2;subst hR1;dsimp only[cQ,List.set_cons_succ,List.set_cons_zero];refine b_ λR1 hR1=>?_;refine cL ⟨_,rfl,_,rfl,5,n,6,rfl,Same.sql S02 hs,hl,by decide,by exact aM n6 (by decide),by decide,λr xs dss H3 S3 f3 h3 dl rd dm=>?_⟩;have S03:=S02.trans S3;subst hR1;dsimp only[cQ,List.set_cons_succ,List.set_cons_zero];refine b_ λR1 hR1=>?_;refine cL ⟨_,rfl,3,rfl,Same.sql S03 hs,hl,by decide,_,rfl,_,r,xs,n,dss,rfl,h3,rd,by lia,λds h=>aM (dm ds h) (by decide),λlp pl H4 S4 f4 h4 pf=>?_⟩;have S04:=S03.trans S4;have hr4:=S4 _ _ h3;have rd4:=rd.same S4;have hp4:=S4 _ _ (S3 _ _ (S2 _ _ h1))
  clear rd h3 h1
  subst hR1;dsimp only[cQ,List.set_cons_succ,List.set_cons_zero];refine b_ λR1 hR1=>?_;refine cL ⟨_,rfl,_,rfl,_,rfl,_,rfl,_,rfl,a,_,rfl,Same.sql S04 hs,λpc hpc=>?_⟩;have ci:∀v∈nC (ns.map V.int) (some 30) (some 54),∃i,v=V.int i:=λv hv=>by
   unfold nC at hv;obtain⟨i,_,rfl⟩:=YV.mp (List.mem_of_mem_drop (List.mem_of_mem_take hv));exact⟨i,rfl⟩
  have Sc:Same H4 (upd H4 pc (.lst (nC (ns.map V.int) (some 30) (some 54)))):=Same.upd hpc;have ec:upd H4 pc (.lst (nC (ns.map V.int) (some 30) (some 54))) pc=_:=bG;generalize upd H4 pc (.lst (nC (ns.map V.int) (some 30) (some 54)))=H5 at Sc ec ⊢;generalize nC (ns.map V.int) (some 30) (some 54)=cv at ci ec ⊢;obtain⟨cs,rfl⟩:=ints_of ci;refine⟨r,lp,pc,xs,n,dss,pl,cs,rfl,Sc _ _ hr4,rd4.same Sc,dl,n1,by exact aM n6 (by decide),λds h=>aM (dm ds h) (by decide),Sc _ _ h4,pf,ec,λr' xs' dss' H6 S6 f6 h6 rd6 nw=>?_⟩;have S46:=Sc.trans S6;have S06:=S04.trans S46;have hp6:=S46 _ _ hp4;have hr6:=S46 _ _ hr4;have rdo:=rd4.same S46;have h46:=S46 _ _ h4;have dl':dss'.length=n:=by rw[nw.1,dl]
  have dm':∀ds∈dss',ds.length<=6:=λds hd=>by
   obtain⟨k,ek⟩:=aX hd;have e:=aj (show k<dss.length by rw[<- nw.1];exact(ao.mp ek).1);rw[(nw.2 k _ ds e ek).1];exact dm _ (aC e)
  have pf':U3 dss' pl:=⟨by rw[pf.1,nw.1],λk ds o e1 e2=>by
   have e:=aj (show k<dss.length by rw[<- nw.1];exact(ao.mp e1).1);rw[(nw.2 k _ ds e e1).1];exact pf.2 k _ o e e2⟩
  clear rd4 hr4 hp4 h4 ec S4 S3 S2 S1
  subst hR1;dsimp only[cQ,List.set_cons_succ,List.set_cons_zero];refine b_ λR1 hR1=>?_;refine cL (cM ⟨_,rfl,_,rfl,fQ,λl2 H7 S7 f7 h7=>⟨l2,_,rfl,h7,(show 2<=sizeLine by decide),λD1 hD=>⟨λk ys Hc=>∃G,G D1=none/\Hc=upd G D1 (.lst ys)/\Same H7 G/\Two K D n ps dss dss' G k ys,⟨H7,hD,rfl,λ_ _ z=>z,rfl⟩,?_,?_⟩⟩⟩)
  .rintro k v ys Hc hk ⟨G,g0,rfl,SG,tw⟩ hy hlc;have S0G:=S06.trans (S7.trans SG);have S6G:=S7.trans SG;have sq:=Same.sql (S0G.trans (Same.upd g0 (o:=.lst ys))) hs;have fin:∀(v:V)(G':Hp),Same G G'->G' D1=none->Two K D n ps dss dss' G' (k+1) (ys++[v])->upd G' D1 (.lst ys) D1=some (.lst ys)/\upd G' D1 (.lst ys) l2=some (.lst [.ref r,.ref r'])/\∃G2,G2 D1=none/\upd (upd G' D1 (.lst ys)) D1 (.lst (ys++[v]))=upd G2 D1 (.lst (ys++[v]))/\Same H7 G2/\Two K D n ps dss dss' G2 (k+1) (ys++[v]):=λv G' S' g' t'=>⟨bG,Same.upd g' _ _ (S' _ _ (SG _ _ h7)),G',g',oH,SG.trans S',t'⟩
   match k,hk,tw with
   |0,hk,tw =>
    cases hk;obtain rfl:ys=[]:=tw;exact⟨_,rfl,1,rfl,sq,hl,by decide,_,rfl,_,rfl,D1,G,[],g0,rfl,_,x,y,ps,r,xs,dss,n,6,rfl,S6G _ _ hp6,x0,xy,y1,gx,S6G _ _ hr6,rdo.same S6G,dl,by exact aM n6 (by decide),by decide,dm,λo G' rms S' fo hh ok hi g'=>fin _ G' S' g' ⟨o,rms,rfl,hh,ok,hi⟩⟩
   |1,hk,tw =>
    cases hk;obtain⟨o,rms,rfl,hf⟩:=tw;exact⟨_,rfl,1,rfl,sq,hl,by decide,_,rfl,_,rfl,D1,G,_,g0,rfl,_,x,y,ps,r',xs',dss',n,6,rfl,S6G _ _ hp6,x0,xy,y1,gx,S6G _ _ h6,rd6.same S6G,dl',by exact aM n6 (by decide),by decide,dm',λo' G' rms' S' fo hh ok hi g'=>fin _ G' S' g' ⟨o,rms,o',rms',rfl,hf.same S',hh,ok,hi⟩⟩
   |k+2,hk,_=>cases hk
  rintro ys Hc ⟨G,g0,rfl,SG,tw⟩ hy;obtain⟨o,rms,o',rms',rfl,⟨hh,ok,hi⟩,⟨hh',ok',hi'⟩⟩:=tw;have S6G:=S7.trans SG;have hp:=S6G _ _ hp6;have hrG:=S6G _ _ hr6;have rdG:=rdo.same S6G;have hrG':=S6G _ _ h6;have rdG':=rd6.same S6G;have hlG:=S6G _ _ h46;obtain⟨fcss,fn,hn,rml,dmm⟩:=Sq (m:=6) hh ok hi hp x0 xy y1 hrG rdG dl (aM n6 (by decide)) dm (by decide);obtain⟨fcss',fn',hn',rml',dmm'⟩:=Sq (m:=6) hh' ok' hi' hp x0 xy y1 hrG' rdG' dl' (aM n6 (by decide)) dm' (by decide);have hW:=Yx hn x0 xy y1 (by lia) dmm;have hW':=Yx hn' x0 xy y1 (by lia) dmm';have few:=hi.few ok;have few':=hi'.few ok';have ft:=Vt pf rml hrG rdG (Eq.trans dl (Eq.symm fn));have ft':=Vt pf' rml' hrG' rdG' (Eq.trans dl' (Eq.symm fn'));have fr:=hi.fitR pf;have fr':=hi'.fitR pf';have rl:rms.length=fcss.length:=by rw[hi.len,dl,fn]
  have rl':rms'.length=fcss'.length:=by rw[hi'.len,dl',fn']
  have nwG:=nw.imp (H2:=G) λp us e=>S6G _ _ e;have ws:=Xr (S6.trans S6G) nwG rml hrG rdG rml' hrG' rdG' (Eq.trans fn (Eq.symm dl)) (Eq.trans fn' (Eq.symm dl)) ft ft';have cl:=jD ft;have cl':=jD ft';have pb:=hn.pays;have pb':=hn'.pays;have GX:Same G (upd G D1 (.lst [.ref o,.ref o'])):=Same.upd g0;have hD1:upd G D1 (.lst [.ref o,.ref o']) D1=_:=bG;have S0X:=S06.trans (S6G.trans GX);generalize upd G D1 (.lst [.ref o,.ref o'])=HX at GX hD1 S0X ⊢
  clear rdo rd6 hr6 h6 h46 hp6 nw SG S7 h7 hi hi' ok ok' nwG
  subst hR1;dsimp only[cQ,List.set_cons_succ,List.set_cons_zero];refine b_ λR1 hR1=>?_;refine cL ⟨_,rfl,4,rfl,Same.sql S0X hs,hl,by decide,_,1,rfl,by decide,λl1 ys HA SA fA hA lnA hxA=>?_⟩;obtain⟨s0,rfl⟩ : ∃s0,ys=[s0]:=by
   match ys,lnA with
   |[s0],_=>exact⟨s0,rfl⟩
  obtain⟨st,est,stn⟩ : ∃st:Nat,s0.fmod (n:Nat)=st/\st<n:=by
   rw[aY _ (Wp _)];have g0:0<=s0%(n:Int):=Z3 _ (by lia);have g1:s0%(n:Int)<n:=YY _ (by lia);exact⟨(s0%(n:Int)).toNat,by lia,by lia⟩
  refine⟨l1,_,0,_,rfl,rfl,hA,cY,_,rfl,_,_,rfl,rfl,by lia,?_⟩;have GA:=GX.trans SA;have hDA:=SA _ _ hD1;subst hR1;dsimp only[cQ,List.set_cons_succ,List.set_cons_zero];rw[est];refine b_ λR1 hR1=>?_;refine cL ⟨_,rfl,D1,_,0,_,rfl,rfl,hDA,cY,_,rfl,_,rfl,o,ps,lp,rms,(x,y),fcss,pl,st,rfl,hh.same GA,few,fr,rl,by lia,by exact aM (Nat.le_of_eq fn) n6,GA _ _ hlG,ft,hn.same GA,GA _ _ hp,hW,λlf zf vf HB SB fB hB flB vis _=>?_⟩;have GB:=GA.trans SB;have hDB:=SB _ _ hDA;subst hR1;dsimp only[cQ,List.set_cons_succ,List.set_cons_zero];refine b_ λR1 hR1=>?_;refine cL ⟨_,rfl,D1,_,0,_,rfl,rfl,hDB,cY,_,rfl,o,ps,lp,rms,(x,y),fcss,pl,rfl,hh.same GB,few,fr,GB _ _ hlG,ft,hn.same GB,GB _ _ hp,hW,λla za wa HC SC fC hC flC wor=>?_⟩;have GC:=GB.trans SC;refine⟨_,rfl,D1,_,1,_,rfl,rfl,SC _ _ hDB,cR,_,rfl,o',ps,lp,rms',(x,y),fcss',pl,rfl,hh'.same GC,few',fr',GC _ _ hlG,ft',hn'.same GC,GC _ _ hp,hW',λlb zb wb HD SD fD hD' flD wor'=>⟨fQ,λlw HE SE fE hE=>?_⟩⟩;have SCE:=SD.trans SE;have SBE:=SC.trans SCE;have GE:=GC.trans SCE;subst hR1;dsimp only[cQ,List.set_cons_succ,List.set_cons_zero];refine b_ λR1 hR1=>?_;refine cL ⟨_,rfl,D1,_,1,_,rfl,rfl,SBE _ _ hDB,cR,_,rfl,_,rfl,o',ps,lp,rms',(x,y),fcss',pl,st,rfl,hh'.same GE,few',fr',rl',by lia,by exact aM (Nat.le_of_eq fn') n6,GE _ _ hlG,ft',hn'.same GE,GE _ _ hp,hW',λlg zg vg HG SG fG hG flG vis' uni=>?_⟩;have efg:vf=vg:=uni vf (vis.other (by lia) λi G=>(ws i G).symm);subst efg;have SBG:=SBE.trans SG;have GG:=GE.trans SG;have hf:=SBG _ _ hB;have ff:=flB.same SBG;have ha:=SG _ _ (SCE _ _ hC);have fa:=(flC.same SCE).same SG;have hb:=SG _ _ (SE _ _ hD');have fb:=(flD.same SE).same SG;have hw:=SG _ _ hE;have vl_:vf.length=n:=by rw[vis.len,cl,fn]
  have wl:=wor.len;have wl':=wor'.len;subst hR1;dsimp only[cQ,List.set_cons_succ,List.set_cons_zero];refine b_ λR1 hR1=>?_;refine gK (eN ⟨_,rfl,_,rfl,lw,_,0,_,rfl,rfl,hw,cY,_,rfl,lw,_,1,_,rfl,rfl,hw,cR,_,rfl,(show 4<=sizeLine by decide),λl4 HI SI fI hI=>⟨l4,_,rfl,hI,λk σ H'=>∃u,σ=[some (.ref a),some (.ref ps),some (.int n),some (.ref r),some (.ref lp),some (.ref r'),some (.ref D1),some (.int st),some (.ref lf),some (.ref lw),some (.ref lg),u]/\Same HG H',⟨none,rfl,SI⟩,?_,?_⟩⟩)
  .rintro k v σ' H' hk ⟨u,rfl,S'⟩ h4';obtain⟨l5,zs,fs,rfl,q1,q2,q3,q4⟩ : ∃l5 zs fs,v=.ref l5/\HG l5=some (.lst zs)/\FL HG zs fs/\fs.length=n/\∀f∈fs,0<f.2/\Int.gcd f.1 f.2=1:=by
    match k,hk with
    |0,hk=>cases hk;exact⟨lf,zf,vf,rfl,hf,ff,vl_,vis.low⟩
    |1,hk=>cases hk;exact⟨la,za,wa,rfl,ha,fa,by lia,wor.low⟩
    |2,hk=>cases hk;exact⟨lb,zb,wb,rfl,hb,fb,by lia,wor'.low⟩
    |3,hk=>cases hk;exact⟨lg,zg,vf,rfl,hG,flG,vl_,vis.low⟩
    |k+4,hk=>cases hk
   dsimp only[cQ,List.set_cons_succ,List.set_cons_zero];refine sI ⟨_,rfl,_,rfl,l5,zs,fs,n,rfl,S' _ _ q1,Jl (q2.same S'),q3,by exact aM n6 (by decide),q4,λH2 S2=>⟨true,rfl,?_⟩⟩;exact⟨S2 _ _ h4',_,rfl,S'.trans S2⟩
  rintro σ' H' ⟨u,rfl,S'⟩ _;have two:=aal (g:=frD) (λ_=>rfl) (λ_=>Xs 1) vf;have bv:∀a∈vf,0<a.2/\Bn 335 a.1/\Bn 335 a.2:=λa h=>⟨(vis.low a h).1,vis.bd a h⟩;have b1:Bn 2 x:=by unfold Bn;lia
  have b2:Bn 2 y:=by unfold Bn;lia
  have y0:0<y:=by exact Int.lt_of_le_of_lt x0 xy
  have G':=GG.trans S';subst hR1;dsimp only[cQ,List.set_cons_succ,List.set_cons_zero];refine b_ λR1 hR1=>?_;refine gK (sI (show tOr _ _ _ _ _ from⟨_,rfl,_,rfl,_,_,.lst (S' _ _ hf) (Jl (ff.same S')).shows,.lst (S' _ _ hG) (Jl (flG.same S')).shows,two.1,two.1,false,ZH (λb=>V.bl (!b)) two.2,?_⟩));refine if_not ?_;refine⟨_,rfl,_,rfl,_,rfl,lf,ps,lp,zf,vf,(x,y),pl,rfl,S' _ _ hf,ff.same S',G' _ _ hp,y0,b1,b2,G' _ _ hlG,by rw[vl_,ft.1,fn],by exact aM (Nat.le_of_eq vl_) n6,bv,abf ft (λfcs h fc h'=>(hW.2.2.2.2 fcs h fc h').2.one) vis,λH2 S2=>⟨true,rfl,?_⟩⟩;show R1 _ _ _;subst hR1;have S'2:=S'.trans S2;have G2:=G'.trans S2;have pay:∀{lx r:Addr}{zs:Μ}{wx:Ψ}{fcss:List (List FC)}(H3:Hp),Same HG H3->H3 lx=some (.lst zs)->FL H3 zs wx->sX H3 r fcss->Ih fcss pl->fcss.length=n->(∀fcs∈fcss,∀fc∈fcs,0<fc.1.2/\Bn 40 fc.1.1/\Bn 40 fc.1.2)->Io (x,y) (pick fcss pl) st vf->Lw (x,y) (pick fcss pl) wx->∃pw,atI zs (st:Nat)=some (.ref pw)/\∀Q:VK,(∀H4,Same H3 H4->Q (.bl true) H4)->Eh [.ref lf,.ref r,.ref lp] H3 (λv H4=>FW K [.ref pw,v] H4 Q E0) E0:=λ{lx r zs wx fcss}H3 S3 hz fz rm ft fn pb vis wor=>by
   have lz:st<zs.length:=by rw[fz.length,wor.len,jD ft,fn];exact stn
   obtain⟨pw,g,ex,eg,hg⟩:=fz.get (aj lz);refine⟨pw,bY (j:=st) (by rw[aj lz,ex]),λQ q=>⟨lf,r,lp,zf,vf,fcss,pl,rfl,S3 _ _ hf,ff.same S3,rm,S3 _ _ (GG _ _ hlG),ft,by exact Eq.trans vl_ (Eq.symm fn),by exact aM (Nat.le_of_eq fn) n6,bv,pb,λt H4 S4 f4 so=>?_⟩⟩;obtain⟨ta,ba,x1,x2,x3,x4,x5⟩:=so;refine⟨pw,t,g,(ta,ba),rfl,.of (S4 _ _ hg),.of x1,wor.wb.fb (aC eg),⟨x2,x3.bd (by decide),x4.bd (by decide)⟩,λb hb=>?_⟩;have e:=aa1 vis wor;rw[jD ft]at e;rw[hb.mpr (by rw[x5,e];unfold K24.wq;rw[au,eg];rfl)];exact q H4 S4
  refine b_ λR1 hR1=>?_;obtain⟨pw,ep,pd⟩:=pay (r:=r) H2 S'2 (S'2 _ _ ha) (fa.same S'2) (rml.same G2) ft fn pb vis wor;refine gK (sI ⟨_,rfl,lw,_,0,_,rfl,rfl,S'2 _ _ hw,cY,_,rfl,la,za,_,_,rfl,rfl,S'2 _ _ ha,ep,_,rfl,_,rfl,_,rfl,?_⟩);dsimp only[Fd];refine pd _ λH4 S4=>⟨true,rfl,?_⟩;show R1 _ _ _;subst hR1;have S'4:=S'2.trans S4;have G4:=G2.trans S4;obtain⟨pw',ep',pd'⟩:=pay (r:=r') H4 S'4 (S'4 _ _ hb) (fb.same S'4) (rml'.same G4) ft' fn' pb' vis' wor';refine gM ⟨_,rfl,lw,_,1,_,rfl,rfl,S'4 _ _ hw,cR,_,rfl,lb,zb,_,_,rfl,rfl,S'4 _ _ hb,ep',_,rfl,_,rfl,_,rfl,?_⟩;dsimp only[Fd];exact pd' _ λH5 S5=>hQ _
end
theorem law_fn{l:PySem.W.OpenLaw}{w:World}{K:Frag}{mg:Str->Ζ}(T0:∃D,Txt K mg D)(base:Heap)(f:Addr)(fd:FuncData)(F:Fun K Mh Mh Rk f fd) :
  cJ l.prog w K mg base CX0 10 f fd TJ (Wy K):=by
 obtain⟨D,T⟩:=T0;have o {k:Nat}{n:Str}{st:Stmt}{ps:Β}{sp:Sp} (h:dB K mg n st ps) (g:∀f fd,Fun K n n st f fd->cJ l.prog w K mg base CX0 k f fd ps sp):OkF l.prog w K mg base k n ps sp:=h.ok g;have i {X:CXT}{k:Nat}{n m:Str}{st:Stmt}{ps:Β}{f:Addr}{sp:Sp} (h:zT K n m st ps f) (g:∀fd,Fun K n m st f fd->cJ l.prog w K mg base X k f fd ps sp):OkI l.prog w K mg base X k f ps sp:=h.ok g;have rY:∀a ns,OkF l.prog w K mg base 1 yM yx (BL K a ns):=λa ns=>T.aes.ok λ_ _ F=>abx F a ns;have dY:=o T.Uq λ_ _ F=>QC F T;have Lh:=o T.ae8 λ_ _ F=>aeo F T;have dZ:=o T.Xj λ_ _ F=>Tt F T;have jm:=o T.ZX λ_ _ F=>Xu F Lh;have eX:=o T.ab1 λ_ _ F=>ZP F T dY dZ;have rH:=o T.abe λ_ _ F=>ZQ F;have Um:=o T.ad1 λ_ _ F=>aaX F eX;have qp:=o T.abP λ_ _ F=>Yj F eX;have jK:=o T.XR λ_ _ F=>Vj F T;have iK:=o T.Ul λ_ _ F=>Ro F T dY dZ;have jM:=o T.Nm λ_ _ F=>JG F T jK iK;have Eo:=o T.Az λ_ _ F=>Aa F T jK;have P0:=o T.IW λ_ _ F=>Ew F T iK rH;have lR:=i T.Mj λ_ F=>Oh F T jM;have vP:=i T.Lq λ_ F=>Pk F T lR Eo;have wY:=i T.Ou λ_ F=>Ms F T;have Zh:=o T.V1 λ_ _ F=>Kz F dZ;have Bq:OkF l.prog w K mg base 2 tu tY Cp:=T.V1.ok λ_ _ F=>(Kz F dZ).imp λ_ _ _ _ h=>aae h;have M6:=o T.f_total λ_ _ F=>aam F T Bq eX;have abv:=o T.JK λ_ _ F=>HS F T Eo P0 M6;have Ye:=o T.J5 λ_ _ F=>GJ F T Um;have fV:=i T.J9 λ_ F=>JR F T lR abv Ye;have vW:=i T.M7 λ_ F=>M4 F T jM P0 qp fV;have wO:=i T.Pj λ_ F=>Ng F T fV;have rZ:=o T.Kg λ_ _ F=>Hq F T iK rH;have uo:=o T.PK λ_ _ F=>Jy F T jK;have o9:=o T.Et λ_ _ F=>Dv F T wY;have wU:=o T.Ri λ_ _ F=>Ph F T o9;have vI:=i T.M5 λ_ F=>Ov F T rZ uo wU;have gU:=i T.Ow λ_ F=>Pg F T;have fH:=i T.z_ λ_ F=>zU F T dY gU;have iZ:=i T.Jb λ_ F=>Gr F T fH;have dh:=o T.YX λ_ _ F=>XS F T;have Vh:=o T.aeD λ_ _ F=>aa7 F T dh;have Gh:=o T.aco λ_ _ F=>aaw F T dh;have Lx:=o T.abW λ_ _ F=>Zg F T vP fV vW wO;have TY:=o T.aeb λ_ _ F=>abo F T Gh Lx vI;have Kv:=o T.agB λ_ _ F=>adI F T jm;have O9:=o T.acg λ_ _ F=>Y5 F T dh jm;have Ug:=o T.adB λ_ _ F=>abR F T dh jm Kv;have Px:∀a ns,OkF l.prog w K mg base 5 vM wR (Hz K a ns):=λa ns=>T.abJ.ok λ_ _ F=>aas F T a ns (rY a ns) dh Ug;have Tn:=o T.aev λ_ _ F=>acz F T dY;have jX:=o T.O7 λ_ _ F=>JC F T Tn gU iZ;have Iz:=o T.YZ λ_ _ F=>X7 F T dh;have Ma:=o T.acD λ_ _ F=>aav F eX;have Ud:=o T.adT λ_ _ F=>X4 F eX;have tG:=o T.Yl λ_ _ F=>abh F T dZ;have u_:=o T.Sh λ_ _ F=>Hi F T tG;have zX:=o T.Uk λ_ _ F=>JN F T dZ tG;have wL:=o T.Rb λ_ _ F=>Ig F T u_ zX;have lM:=o T.SJ λ_ _ F=>Mz F T eX;have qD:=o T.Gy λ_ _ F=>Eu F T eX;have uF:=o T.Mv λ_ _ F=>JF F T;have uQ:=o T.aa2 λ_ _ F=>Zk F T wL;have wJ:=o T.Tc λ_ _ F=>Pr F T uQ lM Ud;have qN:=o T.GP λ_ _ F=>Er F T uQ lM qp;have DN:=o T.Xh λ_ _ F=>U5 F T Zh uF wJ qN qD;have zR:=o T.U4 λ_ _ F=>Tw F T;have rT:=o T.JD λ_ _ F=>Gu F T;have xK:=o T.R4 λ_ _ F=>LQ F T;have Dz:=o T.WW λ_ _ F=>T9 F T;have vH:=o T.QF λ_ _ F=>MP F T;have i_:=o T.Jz λ_ _ F=>G8 F T zR rT DN xK Dz vH;have rW:=o T.JX λ_ _ F=>Xp F T;have lU:=o T.QG λ_ _ F=>PJ F T rW qp Ma;have iu:=o T.Ht λ_ _ F=>Ey F T iZ;have vC:=o T.RM λ_ _ F=>Nr F T Lh;have uJ:=o T.LC λ_ _ F=>JL F T vC;have Ah:=o T.adz λ_ _ F=>aa8 F T;have rF:=o T.R7 λ_ _ F=>MK F T jX iu lU i_;have GF:=o T.aaG λ_ _ F=>WM F T;have oA:=o T.Kd λ_ _ F=>Jh F T jX fH gU iu lU GF i_;have Im:=o T.afE λ_ _ F=>abr F T;have PN:=o T.adS λ_ _ F=>abI F T Im;have PL:=o T.abq λ_ _ F=>aaq F T Im Ah;have acK:=o T.Nx λ_ _ F=>Z5 F T dh Kv;exact aeI F T rY dh O9 Vh Px Iz acK TY oA rF uJ PL Ah PN
end K24
end
open PySem PySem.W PyProof.Rows
set_option maxRecDepth 100000 in
set_option maxHeartbeats 0 in
theorem PySem.Challenge.cw_chancehall_k24_whole_two_roads_holds : PySem.Challenge.rw_chancehall_k24_whole_two_roads.Holds := by
 w_on
 refine holds_law H24.wsd λsaid=>?_;refine holds_open (q:=H24.qv) (loose:=[]) (XP:=XL H24.qv []) (YP:=InK H24.KH) H24.left (InK.of H24.asK) InK.keeps H24.hX XL.keeps (by rfl) (by rfl) (by rfl) H24.hR (by rfl) said (by decide +kernel) ⟨rfl,rfl,rfl,rfl,rfl,by decide +kernel⟩ ?hw ?hc
 (case hw=>w_witness2)
 k_fill
 refine L2.aio (l:=PySem.Challenge.rw_chancehall_k24_whole_two_roads) (k:=10) (x := "_law_script") rfl rfl ⟨rfl,by decide,by decide⟩ (λw h Y=>(show(H24.KH w.params).In h from Y)) ?F
 case F =>
  intro w mg fa h KX G hmg;refine⟨K24.Rk,?_,λbase f fd F=>K24.law_fn ?T base f fd F⟩
  .exact L2.q_f 1 λ_ _ _ _ _ _ _=>rfl
  case T =>
   refine⟨⟨415,436,455,474,491,576,135,136,398,405,433,452,471,488,533,540,561,573⟩,⟨L2.q_c,L2.q_c,L2.q_c,L2.q_c,L2.q_c,L2.q_c,L2.q_c,L2.q_c,L2.q_g,L2.q_t,L2.q_t,L2.q_4,L2.q_m,L2.q_n,L2.q_n,L2.q_n,L2.q_M,L2.q_4,L2.q_m,L2.q_n,L2.q_n,L2.q_n,L2.q_M,L2.q_4,L2.q_m,L2.q_n,L2.q_n,L2.q_n,L2.q_M,L2.q_4,L2.q_m,L2.q_n,L2.q_n,L2.q_n,L2.q_M,L2.q_4,L2.q_m,L2.q_n,L2.q_n,L2.q_n,L2.q_M,L2.q_4,L2.q_m,L2.q_m,L2.q_m,L2.q_n,L2.q_n,L2.q_n,L2.q_n,L2.q_n,L2.q_n,L2.q_B,L2.q_h 3 λ_ _ _ _ _ _ _ _ _=>rfl,L2.q_h 1 λ_ _ _ _ _ _ _=>rfl,L2.q_h 4 λ_ _ _ _ _ _ _ _ _ _=>rfl,L2.q_B,L2.q_h 4 λ_ _ _ _ _ _ _ _ _ _=>rfl,L2.q_h 6 λ_ _ _ _ _ _ _ _ _ _ _ _=>rfl,L2.q_h 4 λ_ _ _ _ _ _ _ _ _ _=>rfl,L2.q_h 3 λ_ _ _ _ _ _ _ _ _=>rfl,L2.q_h 1 λ_ _ _ _ _ _ _=>rfl,L2.q_h 2 λ_ _ _ _ _ _ _ _=>rfl,L2.q_h 2 λ_ _ _ _ _ _ _ _=>rfl,L2.q_z,L2.q_z,L2.q_z,L2.q_z,L2.q_z,L2.q_z,L2.q_z,L2.q_z,L2.q_z,L2.q_z,L2.q_z,L2.q_z,L2.q_z,L2.q_z,L2.q_f 1 λ_ _ _ _ _ _ _=>rfl,L2.q_f 2 λ_ _ _ _ _ _ _ _=>rfl,L2.q_f 2 λ_ _ _ _ _ _ _ _=>rfl,L2.q_f 1 λ_ _ _ _ _ _ _=>rfl,L2.q_f 2 λ_ _ _ _ _ _ _ _=>rfl,L2.q_f 2 λ_ _ _ _ _ _ _ _=>rfl,L2.q_f 2 λ_ _ _ _ _ _ _ _=>rfl,L2.q_f 2 λ_ _ _ _ _ _ _ _=>rfl,L2.q_f 2 λ_ _ _ _ _ _ _ _=>rfl,L2.q_f 1 λ_ _ _ _ _ _ _=>rfl,L2.q_f 1 λ_ _ _ _ _ _ _=>rfl,L2.q_f 2 λ_ _ _ _ _ _ _ _=>rfl,L2.q_f 2 λ_ _ _ _ _ _ _ _=>rfl,L2.q_f 2 λ_ _ _ _ _ _ _ _=>rfl,L2.q_f 2 λ_ _ _ _ _ _ _ _=>rfl,L2.q_f 3 λ_ _ _ _ _ _ _ _ _=>rfl,L2.q_f 2 λ_ _ _ _ _ _ _ _=>rfl,L2.q_f 2 λ_ _ _ _ _ _ _ _=>rfl,L2.q_f 1 λ_ _ _ _ _ _ _=>rfl,L2.q_f 3 λ_ _ _ _ _ _ _ _ _=>rfl,L2.q_f 3 λ_ _ _ _ _ _ _ _ _=>rfl,L2.q_f 5 λ_ _ _ _ _ _ _ _ _ _ _=>rfl,L2.q_f 4 λ_ _ _ _ _ _ _ _ _ _=>rfl,L2.q_f 2 λ_ _ _ _ _ _ _ _=>rfl,L2.q_f 1 λ_ _ _ _ _ _ _=>rfl,L2.q_f 2 λ_ _ _ _ _ _ _ _=>rfl,L2.q_f 2 λ_ _ _ _ _ _ _ _=>rfl,L2.q_f 3 λ_ _ _ _ _ _ _ _ _=>rfl,L2.q_f 3 λ_ _ _ _ _ _ _ _ _=>rfl,L2.q_f 1 λ_ _ _ _ _ _ _=>rfl,L2.q_f 2 λ_ _ _ _ _ _ _ _=>rfl,L2.q_f 2 λ_ _ _ _ _ _ _ _=>rfl,L2.q_f 2 λ_ _ _ _ _ _ _ _=>rfl,L2.q_f 1 λ_ _ _ _ _ _ _=>rfl,L2.q_f 2 λ_ _ _ _ _ _ _ _=>rfl,L2.q_f 3 λ_ _ _ _ _ _ _ _ _=>rfl,L2.q_f 1 λ_ _ _ _ _ _ _=>rfl,L2.q_f 2 λ_ _ _ _ _ _ _ _=>rfl,L2.q_f 1 λ_ _ _ _ _ _ _=>rfl,L2.q_f 1 λ_ _ _ _ _ _ _=>rfl,L2.q_f 1 λ_ _ _ _ _ _ _=>rfl,L2.q_f 1 λ_ _ _ _ _ _ _=>rfl,L2.q_f 1 λ_ _ _ _ _ _ _=>rfl,L2.q_f 1 λ_ _ _ _ _ _ _=>rfl,L2.q_f 2 λ_ _ _ _ _ _ _ _=>rfl,L2.q_f 2 λ_ _ _ _ _ _ _ _=>rfl,L2.q_f 2 λ_ _ _ _ _ _ _ _=>rfl,L2.q_f 2 λ_ _ _ _ _ _ _ _=>rfl,L2.q_f 2 λ_ _ _ _ _ _ _ _=>rfl,L2.q_f 2 λ_ _ _ _ _ _ _ _=>rfl,L2.q_f 1 λ_ _ _ _ _ _ _=>rfl,L2.q_f 2 λ_ _ _ _ _ _ _ _=>rfl,L2.q_f 2 λ_ _ _ _ _ _ _ _=>rfl,L2.q_f 2 λ_ _ _ _ _ _ _ _=>rfl,L2.q_f 1 λ_ _ _ _ _ _ _=>rfl,L2.q_f 3 λ_ _ _ _ _ _ _ _ _=>rfl,L2.q_f 2 λ_ _ _ _ _ _ _ _=>rfl,L2.q_f 4 λ_ _ _ _ _ _ _ _ _ _=>rfl,L2.q_f 3 λ_ _ _ _ _ _ _ _ _=>rfl,L2.q_f 3 λ_ _ _ _ _ _ _ _ _=>rfl,L2.q_f 2 λ_ _ _ _ _ _ _ _=>rfl,L2.q_f 1 λ_ _ _ _ _ _ _=>rfl,L2.q_f 3 λ_ _ _ _ _ _ _ _ _=>rfl,L2.q_f 1 λ_ _ _ _ _ _ _=>rfl,L2.q_f 3 λ_ _ _ _ _ _ _ _ _=>rfl,L2.q_f 3 λ_ _ _ _ _ _ _ _ _=>rfl⟩⟩
#print axioms PySem.Challenge.cw_chancehall_k24_whole_two_roads_holds
