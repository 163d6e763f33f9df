import PyProof.Rows.All
import Wide.All
import OpenK.AllK
import Wide.FinOn
import Lean
import PyProof.EqAt
import PyProof.EqKinds
import PyProof.TupleCall
import PyProof.EqLayable
import KE.KIntText
import PyProof.EnumMake
import PyProof.EnumStmt
import PyProof.EnumFor
import PyProof.Rows.EnumRows
import PyProof.ExcInit
import PyProof.ExcClass2
import PyProof.InstStoreFacts
import KE.KRevIter
import PySem.Challenge.RW_chancehall_k28_whole_no_plan_beats_it
def aj := @List.getElem?_eq_getElem
def ak := @List.length_map
def ao := @List.getElem?_eq_some_iff
def aq := @List.getElem?_map
def au := @List.getD_eq_getElem?_getD
def aA := @List.length_append
def aC := @List.mem_of_getElem?
def aD := @List.getElem?_append_right
def aF := @List.getElem?_append_left
def aG := @Nat.le_refl
def aH := @PySem.Heap.get?_push_of_some
def aJ := @List.mem_cons_of_mem
def aK := @PySem.Heap.lt_size
def aL := @Nat.le_trans
def aM := @List.getElem?_eq_none
def aN := @List.length_replicate
def aO := @List.mem_cons_self
def aP := @List.mem_append_right
def aQ := @Nat.ne_of_lt
def aR := @Nat.lt_of_lt_of_le
def aU := @List.getElem_mem
def aV := @List.getElem?_of_mem
def aW := @PySem.Heap.get?_push_size
def aX := @List.size_toArray
def aY := @List.length_take
def aZ := @Nat.zero_le
def bf := @List.map_append
def bw := @Bool.false_ne_true
open PySem.W (Frag instObj methodObj lookIn plainGet hasDictIn findIn handedIn plainGet_of isFn plainOver takerIn makesIn emptyDict keepIn specialIn mroIn kitOne kia_one kitx_list kitx_tuple callWith_K methodCall_KW codeIn nsIn mg_of excIn readsIn findCls)
section
open PySem PySem.Spec PyProof.Rows
abbrev Γ:=List (Int×Int)
abbrev Δ:=List (Addr×Obj)
abbrev Θ:=List Value
abbrev Φ:=List Str
abbrev Ψ:=List Addr
abbrev Ω:=Option Value
abbrev Ξ:=Option Addr
abbrev Β:=Int×Int
abbrev Ε:=Value->Shared->Prop
def Zs:=@decide_eq_true
def Zp:=@decide_eq_false
def ZZ:=@if_neg
def ZY:=@if_pos
def ZU:=@wpAny_bind
def ZT:=@wpAny_pure
def ZH:=@congrArg
def Z3:=@Int.emod_nonneg
def YY:=@Int.emod_lt_of_pos
def YV:=@List.mem_map
def YU:=@List.mem_cons
def YR:=@List.mem_singleton
def Y1:=@List.mem_append
def Y2:=@Nat.le_of_lt
def Y3:=@Nat.lt_of_le_of_lt
def Xs:=@Nat.le_succ
def XZ:=@Int.mul_pos
def XY:=@Int.le_of_lt
def XX:=@Nat.lt_of_le_of_ne
def XW:=@Bool.false_eq_true
def XV:=@Rat.intCast_mul
def XU:=@Rat.mul_comm
def XT:=@Nat.pow_le_pow_right
def XG:=@Int.natAbs_natCast
def X0:=@List.getElem?_replicate
def X1:=@Nat.lt_succ_self
def X2:=@Nat.le_add_right
def X9:=@Nat.lt_irrefl
def Wp:=@Int.natCast_nonneg
def WZ:=@List.append_assoc
def WV:=@Nat.not_lt_zero
def WU:=@Nat.lt_add_right
def WS:=@Int.ne_of_gt
def WP:=@List.map_map
def WJ:=@List.length_range
def WG:=@Nat.le_of_eq
def WH:=@PySem.boot_len
def W1:=@Nat.mul_le_mul
def VZ:=@PassesOwn.never
def VY:=@List.length_zip
def VX:=@Int.natAbs_mul
def VW:=@Nat.le_of_not_lt
def VU:=@List.length_set
def VT:=@List.getElem?_range
def VS:=@Nat.one_pos
def VQ:=@Rat.le_refl
def Up:=@Nat.pow_add
def UZ:=@Nat.le_of_lt_succ
def UY:=@Nat.le_of_dvd
def UX:=@List.of_mem_zip
def UV:=@Nat.min_self
def UU:=@List.getElem_map
def UT:=@Nat.mul_pos
def US:=@Nat.ne_of_gt
def UR:=@List.not_mem_nil
def UQ:=@List.getElem?_set_ne
def UP:=@Rat.divInt_eq_div
def UK:=@Nat.one_dvd
def UH:=@Nat.le_of_ble_eq_true
def U1:=@List.map_congr_left
def U2:=@Rat.le_trans
def Tx:=@Rat.mul_le_mul_of_nonneg_left
def Tu:=@List.mem_append_left
def Ts:=@List.getElem?_set_self
def Tk:=@Nat.not_lt_of_le
def Th:=@Nat.lt_trans
def TZ:=@List.length_drop
def TW:=@Int.natCast_mul
def TU:=@Nat.mul_le_mul_left
def TR:=@Nat.succ_pos
def TK:=@Rat.zero_divInt
def TH:=@Nat.dvd_trans
def T1:=@Nat.add_sub_cancel_left
def T2:=@List.drop_eq_nil_of_le
def JY:=@List.length_zipWith
def JU:=@Int.one_mul
def JS:=@Rat.divInt_add_divInt
def JP:=@Rat.le_of_lt
def JJ:=@Int.lt_of_not_ge
def Qr:=@Int.gcd_dvd_right
def QY:=@Rat.divInt_eq_divInt_iff
def QU:=@Rat.divInt_mul_divInt
def QR:=@List.ext_getElem
def QQ:=@List.getElem_range
def QP:=@Rat.mul_le_mul_of_nonneg_right
def Q1:=@List.drop_eq_getElem_cons
def Q2:=@Bool.and_eq_true
def Q3:=@List.ext_getElem?
def Q4:=@Rat.intCast_zero
def Zzz:=@Int.mul_ediv_cancel_left
def Zzy:=@Nat.mul_le_mul_right
def Zzx:=@Rat.divInt_nonneg
def Zzw:=@List.take_of_length_le
def Zzv:=@Int.fdiv_eq_ediv_of_nonneg
def Zzu:=@List.set_eq_of_length_le
def Zzt:=@Int.gcd_pos_of_ne_zero_right
def Zzs:=@Int.ediv_pos_of_pos_of_dvd
def Zzr:=@Nat.le_mul_of_pos_left
end
set_option Elab.async false
set_option linter.all false
set_option maxRecDepth 100000
set_option maxHeartbeats 4000000
namespace L2.Once
open PySem PySem.W
def z:Pos:=⟨0,0,0,0⟩
noncomputable def tE:Obj:=⟨.type "tuple",none,.seq ⟨[]⟩ 0,⟨[]⟩⟩
noncomputable def fE:Obj:=⟨.none,none,.fields ⟨[]⟩,⟨[]⟩⟩
noncomputable def tN(t:Nat)(l:Φ):Obj:=⟨.type "tuple",none,.seq ⟨(l.zipIdx t).map λx=>.str x.1 x.2⟩ 0,⟨[]⟩⟩
noncomputable def cO(n q:Str)(t:Nat)(l a f:Int)(r u:Nat):Obj:=⟨.type "code",none,.fields ⟨[.str n t,.str q (t+1),.str "/claim/cut.py" (t+2),.int l 0,.int a 0,.int 0 0,.int 0 0,.int f 0,.ref r,.bool true,.int 181 0,.ref (r+1),.none,.ref (r+2),.ref (r+3),.ref (r+4),.int u 0,.int l 0,.str "/claim/cut.py" (u+1)]⟩,⟨[]⟩⟩
def o11:Obj:={ cls:=.type "tuple",data:=.seq #[] }
def o12:Obj:={ cls:=.none,data:=.fields #[] }
def o13:Obj:={ cls:=.type "code",data:=.fields #[.str "<module>" 182,.str "<module>" 183,.str "/claim/cut.py" 184,.int 1 0,.int 0 0,.int 0 0,.int 0 0,.int 0 0,.ref 11,.bool false,.int 181 0,.ref 12,.none,.none,.none,.none,.int 185 0,.int 1 0,.str "/claim/cut.py" 186] }
def o14:Obj:={ cls:=.type "frame",slots:=#[some (.ref 13),some (.ref 3),some (.ref 3),none,some (.str "__main__" 164),none,some (.ref 0)] }
noncomputable def cP(n q:Str)(t:Nat)(l a f:Int)(r u:Nat):Obj:=⟨.type "code",none,.fields ⟨[.str n t,.str q (t+1),.str "/claim/cut.py" (t+2),.int l 0,.int a 0,.int 0 0,.int 0 0,.int f 0,.ref r,.bool true,.int 181 0,.ref (r+1),.none,.none,.none,.ref (r+2),.int u 0,.int l 0,.str "/claim/cut.py" (u+1)]⟩,⟨[]⟩⟩
noncomputable def dE(P:Params)(x:Str)(t:Nat)(v:Value):DictEntry:=⟨PyData.keyHash P x,.str x t,v⟩
abbrev lf(o:Obj):BT:=.node o .nil .nil
noncomputable def tr(P:Params):BT:=.node (boot_o_0 P)
 (.node (boot_o_1 P) (.node (boot_o_3 P) (lf (boot_o_7 P)) (lf o11)) (.node (boot_o_5 P) (lf (boot_o_9 P)) (lf o13)))
 (.node (boot_o_2 P) (.node (boot_o_4 P) (lf (boot_o_8 P)) (lf o12)) (.node (boot_o_6 P) (lf (boot_o_10 P)) (lf o14)))
noncomputable def S0(w:World)(os:OsState):Shared:=⟨boot_heap w.params,Array.mk [],boot_drawn,boot_toks,os⟩
noncomputable def Sa(w:World)(os:OsState):Shared:=⟨⟨Array.mk [boot_o_0 w.params,boot_o_1 w.params,boot_o_2 w.params,boot_o_3 w.params,boot_o_4 w.params,boot_o_5 w.params,boot_o_6 w.params,boot_o_7 w.params,boot_o_8 w.params,boot_o_9 w.params,boot_o_10 w.params,o11,o12,o13,o14],{}⟩,Array.mk [],{},187,os⟩
noncomputable def Sb(w:World)(os:OsState):SharedT:=⟨tr w.params,15,{},⟨[]⟩,{},187,os⟩
def env(p:Program):Env:={ scope:=p.main.scope,locals:=mainNs,globals:=mainNs,cells:=[],code:=.ref 13,frame:=some 14 }
def cE(p:Program):Code:=.body (behindTheImports p) (env p)
abbrev ann:Ω:=some (.ref 6)
abbrev B:List Frame:=[topFrame z]
theorem size(w:World):((boot_heap w.params).isNs mainGlobals&&(Array.mk [] : Array GenState).size==0,(boot_heap w.params).objs.size,(boot_heap w.params).nsMap mainGlobals "__annotations__")=(true,11,ann):=by
 rw[Fast.te8920871248978507458];kernel_rfl
def n_(p:Program)(w:World)(M:Nat)(S:SharedT)(l:List Stmt)(q:Pos)(G:Shared->Prop):Prop:=∃s,topRun treeTable p w 11 ann M S.abs (restOf l (env p) (cE p) q B)=some s/\G s
theorem n_.cut{p:Program}{w:World}{n M:Nat}{S S':SharedT}{l1 l2:List Stmt}{q q':Pos}{G:Shared->Prop}(h:segRunT treeTable p w 11 ann 1 n S (piecesOf l1 (env p) (cE p) q B)=some (.next,S',cE p,q'))(k:n_ p w M S' l2 q' G):n_ p w (n+M) S (l1++l2) q G :=
 let⟨s,a,b⟩:=k
 ⟨s,piece_app (segRun_of h) a,b⟩
theorem n_.cutAt{p:Program}{w:World}{n m M:Nat}{S S':SharedT}{l:List Stmt}{q q':Pos}{G:Shared->Prop}(h:segRunT treeTable p w 11 ann 1 n S (piecesOf (l.take m) (env p) (cE p) q B)=some (.next,S',cE p,q'))(k:n_ p w M S' (l.drop m) q' G):n_ p w (n+M) S l q G:=by
 have:=n_.cut h k;rwa[List.take_append_drop]at this
def Good{α:Type}(p q:Program)(loose:Φ)(Xt:Shared->Bool)(Yf:Shared->α)(Ya:World->α)(g0:Bool)(w:World)(s:Shared):Prop :=
 (staticsOk (importedModules p.main.body) (boot_heap w.params) s.heap&&namesBound p s.heap&&gensDone s&&laidKept (boot_heap w.params) s.heap,openSeen q loose (importedModules p.main.body) Xt g0 s,Yf s)=(true,openGood q loose,Ya w)
theorem n_.last{p q:Program}{loose:Φ}{Xt:Shared->Bool}{α:Type}{Yf:Shared->α}{Ya:World->α}{g0:Bool}{w:World}{n k:Nat}{S:SharedT}{l:List Stmt}{q0 e:Pos}
 (big:(segRunT treeTable p w 11 ann 1 n S (piecesOf l (env p) (cE p) q0 B)).map (λr =>
    (r.1,r.2.2.1,r.2.2.2,(topRun treeTable p w 11 ann k r.2.1.abs ⟨doneF .next,cE p,e,B⟩).map λs =>
     (staticsOk (importedModules p.main.body) (boot_heap w.params) s.heap&&namesBound p s.heap&&gensDone s&&laidKept (boot_heap w.params) s.heap,openSeen q loose (importedModules p.main.body) Xt g0 s,Yf s))) =
   some (.next,cE p,e,some (true,openGood q loose,Ya w))):n_ p w (n+k) S l q0 (Good p q loose Xt Yf Ya g0 w):=by
 obtain⟨⟨f,sT,c,ps⟩,r1,r2⟩:=Option.map_eq_some_iff.mp big;obtain⟨rfl,rfl,rfl,r3⟩ : f=.next/\c=cE p/\ps=e/\_:=by simpa only[Prod.mk.injEq]using r2
 obtain⟨s,t1,t2⟩:=Option.map_eq_some_iff.mp r3;have q1:=piece_app (rest:=[]) (segRun_of r1) (piece_nil t1);rw[List.append_nil]at q1;exact⟨s,q1,t2⟩
theorem YH{p q:Program}{loose:Φ}{Xt:Shared->Bool}{α:Type}{Yf:Shared->α}{Ya:World->α}{N:Nat}{g0:Bool}{a b M:Nat}
 (h9:∀w:World,(fencedOpening treeTable p w N).map (λs=>(s.heap,s.gens,s.drawn,s.toks))=some (boot_heap w.params,Array.mk [],boot_drawn,boot_toks))
 (pre:∀w:World,(λos=>topGo treeTable p w 11 ann a (S0 w os) (topStub p))=λos=>some (Sa w os,⟨denote treeTable (cE p),cE p,z,B⟩))
 (block:∀w:World,(λos=>segRun treeTable p w 11 ann 1 b (Sa w os) (blockOf (behindTheImports p) (env p) (cE p) z B))=λos=>some (.next,(Sb w os).abs,cE p,z))
 (l9:∀(w:World)(os:OsState),n_ p w M (Sb w os) (behindTheImports p) z (Good p q loose Xt Yf Ya g0 w))
 (le:Nat.ble (a+(b+M)) N=true):LeftO p q loose Xt Yf Ya N g0:=λw=>by
 obtain⟨⟨h,gs,d,ks,os⟩,e1,e2⟩:=Option.map_eq_some_iff.mp (h9 w);obtain⟨rfl,rfl,rfl,rfl⟩ : h=boot_heap w.params/\gs=Array.mk []/\d=boot_drawn/\ks=boot_toks:=by simpa using e2
 obtain⟨z1,z2,z3⟩ : _/\_/\_:=by simpa only[Prod.mk.injEq]using size w
 obtain⟨s,q1,t2⟩:=l9 w os;obtain⟨l1,l2,l3⟩ : _/\_/\_:=by simpa only[Good,Prod.mk.injEq]using t2
 have q2:=go_top (congrFun (pre w) os) (piece_block (congrFun (block w) os) q1);have q3:=topRun_mono (N-(a+(b+M))) _ _ _ _ q2;rw[show a+(b+M)+(N-(a+(b+M)))=N by have:=UH le;omega]at q3;have t:topFrom treeTable p w N ⟨boot_heap w.params,Array.mk [],boot_drawn,boot_toks,os⟩=some s:=by
  unfold topFrom;dsimp only;rw[z1,z2,z3,show topRun treeTable p w 11 ann N ⟨boot_heap w.params,Array.mk [],boot_drawn,boot_toks,os⟩ (topStub p)=some s from q3];show(match staticsOk (importedModules p.main.body) (boot_heap w.params) s.heap&&namesBound p s.heap&&gensDone s&&laidKept (boot_heap w.params) s.heap with|true=>_|false=>_)=_;rw[l1]
 unfold openEnds;rw[e1];show(topFrom treeTable p w N _).map _=_;rw[t];exact ZH some (Prod.ext l2 l3)
end L2.Once
namespace L2
open PySem
def iR(s:Stmt):Arguments:=match s with
 |.FunctionDef _ a _ _ _ _ _ _ _ _=>a
 |_=>{ posonlyargs:=[],args:=[],vararg:=none,kwonlyargs:=[],kw_defaults:=[],kwarg:=none,defaults:=[] }
def fK(s:Stmt):List Stmt:=match s with
 |.FunctionDef _ _ b _ _ _ _ _ _ _=>b
 |_=>[]
def bH(s:Stmt):Scope:=match s with
 |.FunctionDef _ _ _ _ _ _ sc _ _ _=>sc
 |_=>{ kind:=.function,names:=[],isGenerator:=false,isCoroutine:=false }
end L2
namespace K28
open PySem L2
def top(i:Nat):Stmt:=PySem.Challenge.pw_chancehall_k28_whole_no_plan_beats_it.main.body.getD i (.Pass ⟨0,0,0,0⟩)
def fW(i j:Nat):Stmt:=match top i with|.ClassDef _ _ _ b _ _ _ _ _ _ _=>b.getD j (.Pass ⟨0,0,0,0⟩)|_=>.Pass ⟨0,0,0,0⟩
end K28
namespace H28
open PySem PySem.W L2 L2.Once K28
noncomputable section
noncomputable abbrev p:Program:=PySem.Challenge.pw_chancehall_k28_whole_no_plan_beats_it
noncomputable section
def dR(P:Params)(x:Str)(t m:Nat):DictEntry:=dE P x t (.ref m)
noncomputable def wD(l:List DictEntry)(n:Nat):Obj:=⟨.type "dict",none,.dict ⟨l⟩ n,⟨[]⟩⟩
noncomputable def i3(a b:Nat)(c:Nat)(l:Θ):Θ:=.int a 0::.int b 0::.ref c::l
noncomputable def nd(o:Obj)(l r:BT):BT:=.node o l r
noncomputable def n1(o x:Obj):BT:=.node o (lf x) .nil
noncomputable def n2(o x y:Obj):BT:=.node o (lf x) (lf y)
noncomputable def wA:Obj:=⟨.type "builtin_function_or_method",none,.fields ⟨[.builtin "type.__prepare__",.type "type"]⟩,⟨[]⟩⟩
noncomputable def wB(n:Nat):Obj:=⟨.type "builtin_function_or_method",none,.fields ⟨[.builtin "object.__init_subclass__",.ref n]⟩,⟨[]⟩⟩
noncomputable def wC(n:Str)(t l r u:Nat):Obj:=⟨.type "code",none,.fields ⟨[.str n t,.str n (t+1),.str "/claim/cut.py" (t+2),.int l 0,.int 0 0,.int 0 0,.int 0 0,.int 0 0,.ref r,.bool false,.int 181 0,.ref (r+1),.none,.none,.none,.none,.int u 0,.int l 0,.str "/claim/cut.py" (u+1)]⟩,⟨[]⟩⟩
noncomputable def wF(c d:Nat)(n:Str)(t:Nat):Obj:=⟨.type "frame",none,.plain,⟨[some (.ref c),some (.ref 3),some (.ref d),none,some (.str n t),none,some (.ref 0)]⟩⟩
noncomputable def wG(t n:Nat):Obj:=⟨.type "getset_descriptor",none,.fields ⟨[.str "__weakref__" t,.ref n,.builtin "ExceptionGroup.__weakref__",.none]⟩,⟨[]⟩⟩
noncomputable def wK(n:Str)(b m:Θ)(d:Nat)(s:Θ)(o:Ω)(t u:Nat)(x:String):Obj:=⟨.type "type",none,.cls ⟨n,b,m,d,n,true,[],s,false,none,false⟩,⟨[o,none,some (.str n t),some (.str n u),some (.builtin x),some (.bool true)]⟩⟩
noncomputable def wS(n:Nat):Obj:=⟨.type "super",none,.fields ⟨[.ref n,.ref n,.ref n]⟩,⟨[]⟩⟩
noncomputable def wT(n:Nat):Obj:=⟨.type "tuple",none,.seq ⟨[.ref n]⟩ 0,⟨[]⟩⟩
noncomputable def fO(n q:Str)(s:Stmt)(m:Value)(c:Nat):Obj:=⟨.type "function",none,.func (fnOf n q (iR s) (fK s) (bH s) .none .none .none m none (.ref c) .none),⟨[]⟩⟩
noncomputable def fT(n q:Str)(s:Stmt):Obj:=⟨.none,none,.func { fnOf n q (iR s) (fK s) (bH s) .none .none .none .none none .none .none with globals:=0,builtins:=0 },⟨[]⟩⟩
def amd(P:Params):Obj:=wD (dE P "__name__" 165 (.str "law_chancehall_k28_whole_no_plan_beats_it" 1006)::dE P "__doc__" 166 .none::dE P "__package__" 167 .none::dE P "__loader__" 168 (.builtin "__main__.__loader__#opaque")::dE P "__spec__" 169 .none::dR P "__annotations__" 170 6::dR P "__builtins__" 171 4::dE P "__file__" 173 (.str "/claim/cut.py" 172)::dE P "__cached__" 174 .none::dR P "_wall" 193 21::dR P "HallError" 213 31::dR P "NoNumber" 229 44::dR P "NoName" 245 56::dR P "NoChance" 261 68::dR P "NoShare" 277 80::dR P "NoRoom" 302 99::dR P "NoPlan" 327 118::dR P "is_whole" 336 127::dR P "divisor" 347 134::dR P "NOUGHT" 352 135::dR P "ONE" 355 136::dR P "ratio" 364 143::dR P "is_ratio" 373 150::dR P "plus" 381 157::dR P "minus" 389 164::dR P "times" 397 171::dR P "over" 405 178::dR P "under" 413 185::dR P "level" 421 190::dR P "total" 429 197::dR P "greatest" 438 204::dR P "first_plan" 446 209::dR P "fits" 454 216::dR P "check_plan" 464 223::dR P "behind_door" 470 228::dR P "raised_look" 480 235::dR P "lowest" 488 240::dR P "row_times" 494 245::dR P "row_plus" 500 250::dR P "take_step" 509 257::dR P "number_at" 517 264::dR P "fractions_of" 523 269::dR P "first_from" 533 276::dR P "go_on" 542 283::dR P "begin_row" 554 290::dR P "clear_column" 566 297::dR P "reduced" 572 302::dR P "width_of" 581 309::dR P "with_rights" 587 314::dR P "begins_of" 593 319::dR P "odd_row" 603 326::dR P "answer_of" 615 333::dR P "single_rows" 621 338::dR P "only_answer" 632 345::dR P "chosen_doors" 640 350::dR P "left_rows" 653 357::dR P "worths_of" 659 362::dR P "better_door" 670 369::dR P "mended" 676 374::dR P "mendings" 686 381::dR P "best_of" 693 388::dE P "LONGEST_WORD" 697 (.int 8 696)::dR P "is_word" 703 393::dR P "check_head" 713 400::dR P "check_room_name" 720 407::dR P "check_chance" 727 414::dR P "check_pairs" 733 419::dR P "joined_ways" 739 424::dR P "Door" 786 455::dR P "Sure" 813 476::dR P "Mixed" 840 495::dR P "Toss" 868 514::dR P "Even" 890 531::dR P "check_share" 899 540::dR P "numbers_of" 909 547::dR P "numbered_ways" 920 554::dR P "offers_of" 931 561::dR P "Hall" 1005 616::dR P "_law_cell" 1015 627::dR P "_law_stream" 1027 634::dR P "_law_gcd" 1037 641::dR P "_law_ratio" 1046 648::dR P "_law_is_ratio" 1054 655::dR P "_law_are_ratios" 1060 660::dR P "_law_same" 1068 667::dR P "_law_names" 1074 672::dR P "_law_share" 1083 679::dR P "_law_pay" 1092 686::dR P "_law_door" 1098 691::dR P "_law_doors" 1104 696::dR P "_law_built" 1110 701::dR P "_law_hall" 1116 706::dR P "_law_chosen" 1127 713::dR P "_law_look" 1141 720::dR P "_law_below" 1149 727::dR P "_law_right" 1161 734::dR P "_law_size" 1169 741::dR P "_law_corridor" 1180 748::dR P "_law_rooms" 1188 755::dR P "_law_start" 1194 760::dR P "_law_is_choice" 1202 767::dR P "_law_best" 1208 772::dR P "_law_ahead" 1221 779::[]) 103
def aii:Obj:=⟨.none,none,.fields ⟨i3 1 0 20 <|i3 5 0 27 <|i3 7 0 40 <|i3 9 0 52 <|i3 11 0 64 <|i3 13 0 76 <|i3 15 0 88 <|i3 20 0 107 <|i3 26 0 126 <|i3 28 0 133 <|i3 39 0 142 <|i3 48 0 149 <|i3 56 0 156 <|i3 58 0 163 <|i3 60 0 170 <|i3 62 0 177 <|i3 64 0 184 <|i3 67 0 189 <|i3 72 0 196 <|i3 75 0 203 <|i3 82 0 208 <|i3 84 0 215 <|i3 88 0 222 <|i3 95 0 227 <|i3 98 0 234 <|i3 102 0 239 <|i3 107 0 244 <|i3 109 0 249 <|i3 116 0 256 <|i3 125 0 263 <|i3 127 0 268 <|i3 129 0 275 <|i3 134 0 282 <|i3 137 0 289 <|i3 143 0 296 <|i3 148 0 301 <|i3 160 0 308 <|i3 164 0 313 <|i3 166 0 318 <|i3 173 0 325 <|i3 178 0 332 <|i3 183 0 337 <|i3 185 0 344 <|i3 193 0 349 <|i3 195 0 356 <|i3 202 0 361 <|i3 208 0 368 <|i3 213 0 373 <|i3 221 0 380 <|i3 229 0 387 <|i3 233 0 392 <|i3 238 0 399 <|i3 243 0 406 <|i3 246 0 413 <|i3 249 0 418 <|i3 255 0 423 <|i3 260 0 430 <|i3 273 0 465 <|i3 279 0 484 <|i3 285 0 503 <|i3 291 0 522 <|i3 296 0 539 <|i3 299 0 546 <|i3 307 0 553 <|i3 314 0 560 <|i3 323 0 567 <|i3 353 0 626 <|i3 355 0 633 <|i3 366 0 640 <|i3 371 0 647 <|i3 374 0 654 <|i3 381 0 659 <|i3 385 0 666 <|i3 387 0 671 <|i3 396 0 678 <|i3 400 0 685 <|i3 408 0 690 <|i3 425 0 695 <|i3 439 0 700 <|i3 449 0 705 <|i3 456 0 712 <|i3 465 0 719 <|i3 475 0 726 <|i3 477 0 733 <|i3 487 0 740 <|i3 494 0 747 <|i3 500 0 754 <|i3 505 0 759 <|i3 509 0 766 <|i3 513 0 771 <|i3 525 0 778 <|[]⟩,⟨[]⟩⟩
def q21:Obj:=fO "_wall" "_wall" (top 0) (.str "__main__" 164) 20
noncomputable def q22:Obj:=⟨.type "tuple",none,.seq ⟨.type "ValueError"::[]⟩ 0,⟨[]⟩⟩
def q23:Obj:=wA
def q24(P:Params):Obj:=wD (dE P "__module__" 203 (.str "chancehall.errors" 194)::dE P "__qualname__" 205 (.str "HallError" 204)::dE P "__firstlineno__" 207 (.int 5 206)::dR P "__static_attributes__" 208 29::[]) 4
def q27:Obj:=wC "HallError" 198 5 25 201
def q28:Obj:=wF 27 24 "chancehall.errors" 194
def q30(P:Params):Obj:=wD (dE P "__module__" 203 (.str "chancehall.errors" 194)::dE P "__firstlineno__" 207 (.int 5 206)::dR P "__static_attributes__" 208 29::dR P "__weakref__" 210 32::dE P "__doc__" 211 .none::[]) 3
def q31:Obj:=wK "HallError" [.type "ValueError"] [.ref 31,.type "ValueError",.type "Exception",.type "BaseException",.type "object"] 30 [.ref 44,.ref 56,.ref 68,.ref 80,.ref 99,.ref 118] (some (.ref 22)) 196 204 "ValueError.__new__"
def q32:Obj:=wG 209 31
def q33:Obj:=wS 31
def q34:Obj:=wB 31
def q35:Obj:=wT 31
def q36:Obj:=wA
def q37(P:Params):Obj:=wD (dE P "__module__" 221 (.str "chancehall.errors" 194)::dE P "__qualname__" 223 (.str "NoNumber" 222)::dE P "__firstlineno__" 225 (.int 7 224)::dR P "__static_attributes__" 226 42::[]) 4
def q40:Obj:=wC "NoNumber" 216 7 38 219
def q41:Obj:=wF 40 37 "chancehall.errors" 194
def q43(P:Params):Obj:=wD (dE P "__module__" 221 (.str "chancehall.errors" 194)::dE P "__firstlineno__" 225 (.int 7 224)::dR P "__static_attributes__" 226 42::dE P "__doc__" 227 .none::[]) 2
def q44:Obj:=wK "NoNumber" [.ref 31] [.ref 44,.ref 31,.type "ValueError",.type "Exception",.type "BaseException",.type "object"] 43 [] (some (.ref 35)) 214 222 "ValueError.__new__"
def q45:Obj:=wS 44
def q46:Obj:=wB 44
def q47:Obj:=wT 31
def q48:Obj:=wA
def q49(P:Params):Obj:=wD (dE P "__module__" 237 (.str "chancehall.errors" 194)::dE P "__qualname__" 239 (.str "NoName" 238)::dE P "__firstlineno__" 241 (.int 9 240)::dR P "__static_attributes__" 242 54::[]) 4
def q52:Obj:=wC "NoName" 232 9 50 235
def q53:Obj:=wF 52 49 "chancehall.errors" 194
def q55(P:Params):Obj:=wD (dE P "__module__" 237 (.str "chancehall.errors" 194)::dE P "__firstlineno__" 241 (.int 9 240)::dR P "__static_attributes__" 242 54::dE P "__doc__" 243 .none::[]) 2
def q56:Obj:=wK "NoName" [.ref 31] [.ref 56,.ref 31,.type "ValueError",.type "Exception",.type "BaseException",.type "object"] 55 [] (some (.ref 47)) 230 238 "ValueError.__new__"
def q57:Obj:=wS 56
def q58:Obj:=wB 56
def q59:Obj:=wT 31
def q60:Obj:=wA
def q61(P:Params):Obj:=wD (dE P "__module__" 253 (.str "chancehall.errors" 194)::dE P "__qualname__" 255 (.str "NoChance" 254)::dE P "__firstlineno__" 257 (.int 11 256)::dR P "__static_attributes__" 258 66::[]) 4
def q64:Obj:=wC "NoChance" 248 11 62 251
def q65:Obj:=wF 64 61 "chancehall.errors" 194
def q67(P:Params):Obj:=wD (dE P "__module__" 253 (.str "chancehall.errors" 194)::dE P "__firstlineno__" 257 (.int 11 256)::dR P "__static_attributes__" 258 66::dE P "__doc__" 259 .none::[]) 2
def q68:Obj:=wK "NoChance" [.ref 31] [.ref 68,.ref 31,.type "ValueError",.type "Exception",.type "BaseException",.type "object"] 67 [] (some (.ref 59)) 246 254 "ValueError.__new__"
def q69:Obj:=wS 68
def q70:Obj:=wB 68
def q71:Obj:=wT 31
def q72:Obj:=wA
def q73(P:Params):Obj:=wD (dE P "__module__" 269 (.str "chancehall.errors" 194)::dE P "__qualname__" 271 (.str "NoShare" 270)::dE P "__firstlineno__" 273 (.int 13 272)::dR P "__static_attributes__" 274 78::[]) 4
def q76:Obj:=wC "NoShare" 264 13 74 267
def q77:Obj:=wF 76 73 "chancehall.errors" 194
def q79(P:Params):Obj:=wD (dE P "__module__" 269 (.str "chancehall.errors" 194)::dE P "__firstlineno__" 273 (.int 13 272)::dR P "__static_attributes__" 274 78::dE P "__doc__" 275 .none::[]) 2
def q80:Obj:=wK "NoShare" [.ref 31] [.ref 80,.ref 31,.type "ValueError",.type "Exception",.type "BaseException",.type "object"] 79 [] (some (.ref 71)) 262 270 "ValueError.__new__"
def q81:Obj:=wS 80
def q82:Obj:=wB 80
def q83:Obj:=wT 31
def q84:Obj:=wA
def q85(P:Params):Obj:=wD (dE P "__module__" 285 (.str "chancehall.errors" 194)::dE P "__qualname__" 287 (.str "NoRoom" 286)::dE P "__firstlineno__" 289 (.int 15 288)::dR P "__init__" 297 96::dR P "__static_attributes__" 299 97::[]) 5
def q87:Obj:=⟨.none,none,.fields ⟨i3 17 4 95 <|[]⟩,⟨[]⟩⟩
def q88:Obj:=wC "NoRoom" 280 15 86 283
def q89:Obj:=wF 88 85 "chancehall.errors" 194
def q95:Obj:=cO "__init__" "NoRoom.__init__" 290 17 2 3 90 295
def q96:Obj:=fO "__init__" "NoRoom.__init__" (fW 7 0) (.str "chancehall.errors" 194) 95
def q98(P:Params):Obj:=wD (dE P "__module__" 285 (.str "chancehall.errors" 194)::dE P "__firstlineno__" 289 (.int 15 288)::dR P "__init__" 297 96::dR P "__static_attributes__" 299 97::dE P "__doc__" 300 .none::[]) 2
def q99:Obj:=wK "NoRoom" [.ref 31] [.ref 99,.ref 31,.type "ValueError",.type "Exception",.type "BaseException",.type "object"] 98 [] (some (.ref 83)) 278 286 "ValueError.__new__"
def amA:Obj:=wS 99
def anZ:Obj:=wB 99
def aki:Obj:=wT 31
def amJ:Obj:=wA
def al8(P:Params):Obj:=wD (dE P "__module__" 310 (.str "chancehall.errors" 194)::dE P "__qualname__" 312 (.str "NoPlan" 311)::dE P "__firstlineno__" 314 (.int 20 313)::dR P "__init__" 322 115::dR P "__static_attributes__" 324 116::[]) 5
def anB:Obj:=⟨.none,none,.fields ⟨i3 22 4 114 <|[]⟩,⟨[]⟩⟩
def anC:Obj:=wC "NoPlan" 305 20 105 308
def amc:Obj:=wF 107 104 "chancehall.errors" 194
def akY:Obj:=cO "__init__" "NoPlan.__init__" 315 22 2 3 109 320
def aiP:Obj:=fO "__init__" "NoPlan.__init__" (fW 8 0) (.str "chancehall.errors" 194) 114
def air(P:Params):Obj:=wD (dE P "__module__" 310 (.str "chancehall.errors" 194)::dE P "__firstlineno__" 314 (.int 20 313)::dR P "__init__" 322 115::dR P "__static_attributes__" 324 116::dE P "__doc__" 325 .none::[]) 2
def ajs:Obj:=wK "NoPlan" [.ref 31] [.ref 118,.ref 31,.type "ValueError",.type "Exception",.type "BaseException",.type "object"] 117 [] (some (.ref 102)) 303 311 "ValueError.__new__"
def anh:Obj:=wS 118
def amV:Obj:=wB 118
def aj1:Obj:=fO "is_whole" "is_whole" (top 10) (.str "chancehall.wholes" 328) 126
def ale:Obj:=tN 340 ["one","other","left","right","rest"]
def agZ:Obj:=fO "divisor" "divisor" (top 11) (.str "chancehall.wholes" 328) 133
noncomputable def ajd:Obj:=⟨.type "tuple",none,.seq ⟨.int 0 350::.int 1 351::[]⟩ 0,⟨[]⟩⟩
noncomputable def aiG:Obj:=⟨.type "tuple",none,.seq ⟨.int 1 353::.int 1 354::[]⟩ 0,⟨[]⟩⟩
def akq:Obj:=fO "ratio" "ratio" (top 15) (.str "chancehall.ratios" 348) 142
def aji:Obj:=fO "is_ratio" "is_ratio" (top 16) (.str "chancehall.ratios" 348) 149
def aiv:Obj:=fO "plus" "plus" (top 17) (.str "chancehall.ratios" 348) 156
def aie:Obj:=fO "minus" "minus" (top 18) (.str "chancehall.ratios" 348) 163
def akv:Obj:=fO "times" "times" (top 19) (.str "chancehall.ratios" 348) 170
def ag8:Obj:=fO "over" "over" (top 20) (.str "chancehall.ratios" 348) 177
def akB:Obj:=fO "under" "under" (top 21) (.str "chancehall.ratios" 348) 184
def ahw:Obj:=fO "level" "level" (top 23) (.str "chancehall.levels" 414) 189
def aje:Obj:=fO "total" "total" (top 24) (.str "chancehall.levels" 414) 196
def als:Obj:=fO "greatest" "greatest" (top 25) (.str "chancehall.levels" 414) 203
def ajo:Obj:=cP "first_plan" "first_plan" 441 82 1 3 205 444
def aiF:Obj:=fO "first_plan" "first_plan" (top 27) (.str "chancehall.plans" 439) 208
def aly:Obj:=fO "fits" "fits" (top 28) (.str "chancehall.plans" 439) 215
def agT:Obj:=cO "check_plan" "check_plan" 455 88 2 3 217 462
def akW:Obj:=fO "check_plan" "check_plan" (top 29) (.str "chancehall.plans" 439) 222
def ahg:Obj:=cP "behind_door" "behind_door" 465 95 2 3 224 468
def aix:Obj:=fO "behind_door" "behind_door" (top 30) (.str "chancehall.plans" 439) 227
def alw:Obj:=tN 474 ["hall","offer","leveled","behind"]
def ajK:Obj:=cO "raised_look" "raised_look" 471 98 3 3 229 478
def ahE:Obj:=fO "raised_look" "raised_look" (top 31) (.str "chancehall.plans" 439) 234
def ahr:Obj:=fO "lowest" "lowest" (top 33) (.str "chancehall.papers" 481) 239
def akn:Obj:=cP "row_times" "row_times" 489 107 2 3 241 492
def ait:Obj:=fO "row_times" "row_times" (top 34) (.str "chancehall.papers" 481) 244
def ak0:Obj:=cP "row_plus" "row_plus" 495 109 3 3 246 498
def alr:Obj:=fO "row_plus" "row_plus" (top 35) (.str "chancehall.papers" 481) 249
def ahs:Obj:=cO "take_step" "take_step" 501 116 2 3 251 507
def ak5:Obj:=fO "take_step" "take_step" (top 36) (.str "chancehall.papers" 481) 256
def aiQ:Obj:=cO "number_at" "number_at" 510 125 2 3 258 515
def ais:Obj:=fO "number_at" "number_at" (top 37) (.str "chancehall.papers" 481) 263
def ahN:Obj:=cP "fractions_of" "fractions_of" 518 127 1 3 265 521
def akh:Obj:=fO "fractions_of" "fractions_of" (top 38) (.str "chancehall.papers" 481) 268
def akF:Obj:=tN 527 ["leveled","place","column","row"]
def ak1:Obj:=cO "first_from" "first_from" 524 129 3 3 270 531
def ahd:Obj:=fO "first_from" "first_from" (top 39) (.str "chancehall.papers" 481) 275
def ahG:Obj:=fO "go_on" "go_on" (top 40) (.str "chancehall.papers" 481) 282
def ahP:Obj:=tN 546 ["leveled","steps","place","found","column","first"]
def ajQ:Obj:=cO "begin_row" "begin_row" 543 137 5 3 284 552
def ajB:Obj:=fO "begin_row" "begin_row" (top 41) (.str "chancehall.papers" 481) 289
def ah4:Obj:=tN 558 ["leveled","steps","place","column","row","often"]
def akg:Obj:=cO "clear_column" "clear_column" 555 143 4 3 291 564
def akk:Obj:=fO "clear_column" "clear_column" (top 42) (.str "chancehall.papers" 481) 296
def aiY:Obj:=fO "reduced" "reduced" (top 43) (.str "chancehall.papers" 481) 301
def aiX:Obj:=cO "width_of" "width_of" 575 160 1 3 303 579
def aij:Obj:=fO "width_of" "width_of" (top 45) (.str "chancehall.solving" 573) 308
def ajc:Obj:=cP "with_rights" "with_rights" 582 164 2 3 310 585
def ajj:Obj:=fO "with_rights" "with_rights" (top 46) (.str "chancehall.solving" 573) 313
def aks:Obj:=cP "begins_of" "begins_of" 588 166 2 3 315 591
def akr:Obj:=fO "begins_of" "begins_of" (top 47) (.str "chancehall.solving" 573) 318
def aiL:Obj:=fO "odd_row" "odd_row" (top 48) (.str "chancehall.solving" 573) 325
def ai8:Obj:=tN 607 ["end","begins","wide","answer","row","column"]
def aiT:Obj:=cO "answer_of" "answer_of" 604 178 3 3 327 613
def aip:Obj:=fO "answer_of" "answer_of" (top 49) (.str "chancehall.solving" 573) 332
def akd:Obj:=cP "single_rows" "single_rows" 616 183 1 3 334 619
def aky:Obj:=fO "single_rows" "single_rows" (top 50) (.str "chancehall.solving" 573) 337
def aj8:Obj:=tN 625 ["rows","rights","wide","end","begins"]
def ajL:Obj:=cO "only_answer" "only_answer" 622 185 2 3 339 630
def ag5:Obj:=fO "only_answer" "only_answer" (top 51) (.str "chancehall.solving" 573) 344
def akp:Obj:=cP "chosen_doors" "chosen_doors" 635 193 2 3 346 638
def agR:Obj:=fO "chosen_doors" "chosen_doors" (top 53) (.str "chancehall.worths" 633) 349
def ajO:Obj:=tN 644 ["share","chosen","rows","room","offer","behind","chance"]
def ahi:Obj:=cO "left_rows" "left_rows" 641 195 2 3 351 651
def ajg:Obj:=fO "left_rows" "left_rows" (top 54) (.str "chancehall.worths" 633) 356
def ahB:Obj:=cP "worths_of" "worths_of" 654 202 2 3 358 657
def ain:Obj:=fO "worths_of" "worths_of" (top 55) (.str "chancehall.worths" 633) 361
def aj0:Obj:=cO "better_door" "better_door" 662 208 2 3 363 668
def akN:Obj:=fO "better_door" "better_door" (top 57) (.str "chancehall.mending" 660) 368
def aiu:Obj:=fO "mended" "mended" (top 58) (.str "chancehall.mending" 660) 373
def ajX:Obj:=cO "mendings" "mendings" 677 221 2 3 375 684
def ai6:Obj:=fO "mendings" "mendings" (top 59) (.str "chancehall.mending" 660) 380
def ah1:Obj:=fO "best_of" "best_of" (top 60) (.str "chancehall.mending" 660) 387
def ahc:Obj:=fO "is_word" "is_word" (top 63) (.str "chancehall.words" 694) 392
def ag0:Obj:=cO "check_head" "check_head" 706 238 2 3 394 711
def aiR:Obj:=fO "check_head" "check_head" (top 65) (.str "chancehall.doors" 704) 399
def amH:Obj:=fT "check_room_name" "check_room_name" (top 66)
def ahO:Obj:=cO "check_room_name" "check_room_name" 714 243 1 3 401 718
def akJ:Obj:=fO "check_room_name" "check_room_name" (top 66) (.str "chancehall.doors" 704) 406
def ajq:Obj:=cO "check_chance" "check_chance" 721 246 1 3 408 725
def alg:Obj:=fO "check_chance" "check_chance" (top 67) (.str "chancehall.doors" 704) 413
def alx:Obj:=cP "check_pairs" "check_pairs" 728 249 1 3 415 731
def ajx:Obj:=fO "check_pairs" "check_pairs" (top 68) (.str "chancehall.doors" 704) 418
def ajW:Obj:=cP "joined_ways" "joined_ways" 734 255 1 3 420 737
def alD:Obj:=fO "joined_ways" "joined_ways" (top 69) (.str "chancehall.doors" 704) 423
def amv:Obj:=wA
def al7(P:Params):Obj:=wD (dE P "__module__" 747 (.str "chancehall.doors" 704)::dE P "__qualname__" 749 (.str "Door" 748)::dE P "__firstlineno__" 751 (.int 260 750)::dR P "__init__" 760 438::dR P "ways" 767 445::dR P "chance_to" 775 452::dR P "__static_attributes__" 779 453::[]) 7
def anP:Obj:=⟨.none,none,.fields ⟨i3 262 4 437 <|i3 268 4 444 <|i3 271 4 451 <|[]⟩,⟨[]⟩⟩
def anc:Obj:=wC "Door" 742 260 428 745
def an0:Obj:=wF 430 427 "chancehall.doors" 704
def aiC:Obj:=cO "__init__" "Door.__init__" 752 262 3 3 432 758
def ajn:Obj:=fO "__init__" "Door.__init__" (fW 70 0) (.str "chancehall.doors" 704) 437
def ahh:Obj:=fO "ways" "Door.ways" (fW 70 1) (.str "chancehall.doors" 704) 444
def ahZ:Obj:=cO "chance_to" "Door.chance_to" 768 271 2 3 446 773
def aiU:Obj:=fO "chance_to" "Door.chance_to" (fW 70 2) (.str "chancehall.doors" 704) 451
def ajp(P:Params):Obj:=wD (dE P "__module__" 747 (.str "chancehall.doors" 704)::dE P "__firstlineno__" 751 (.int 260 750)::dR P "__init__" 760 438::dR P "ways" 767 445::dR P "chance_to" 775 452::dR P "__static_attributes__" 779 453::dR P "__dict__" 781 456::dR P "__weakref__" 783 457::dE P "__doc__" 784 .none::[]) 4
def akj:Obj:=wK "Door" [.type "object"] [.ref 455,.type "object"] 454 [.ref 476,.ref 495] none 740 748 "object.__new__"
noncomputable def aht:Obj:=⟨.type "getset_descriptor",none,.fields ⟨.str "__dict__" 780::.ref 455::.builtin "function.__dict__"::.builtin "function.__dict__#set"::[]⟩,⟨[]⟩⟩
def alb:Obj:=wG 782 455
def amR:Obj:=wS 455
def anW:Obj:=wB 455
def akZ:Obj:=wT 455
def anV:Obj:=wA
def anJ(P:Params):Obj:=wD (dE P "__module__" 794 (.str "chancehall.doors" 704)::dE P "__qualname__" 796 (.str "Sure" 795)::dE P "__firstlineno__" 798 (.int 273 797)::dR P "__init__" 808 473::dR P "__static_attributes__" 810 474::[]) 5
def an2:Obj:=⟨.none,none,.fields ⟨i3 275 4 472 <|[]⟩,⟨[]⟩⟩
def al2:Obj:=wC "Sure" 789 273 463 792
def ang:Obj:=wF 465 462 "chancehall.doors" 704
def akO:Obj:=cO "__init__" "Sure.__init__" 799 275 4 3 467 806
def aiE:Obj:=fO "__init__" "Sure.__init__" (fW 71 0) (.str "chancehall.doors" 704) 472
def akz(P:Params):Obj:=wD (dE P "__module__" 794 (.str "chancehall.doors" 704)::dE P "__firstlineno__" 798 (.int 273 797)::dR P "__init__" 808 473::dR P "__static_attributes__" 810 474::dE P "__doc__" 811 .none::[]) 2
def alc:Obj:=wK "Sure" [.ref 455] [.ref 476,.ref 455,.type "object"] 475 [] (some (.ref 460)) 787 795 "object.__new__"
def anz:Obj:=wS 476
def amK:Obj:=wB 476
def akl:Obj:=wT 455
def anL:Obj:=wA
def anU(P:Params):Obj:=wD (dE P "__module__" 821 (.str "chancehall.doors" 704)::dE P "__qualname__" 823 (.str "Mixed" 822)::dE P "__firstlineno__" 825 (.int 279 824)::dR P "__init__" 835 492::dR P "__static_attributes__" 837 493::[]) 5
def anF:Obj:=⟨.none,none,.fields ⟨i3 281 4 491 <|[]⟩,⟨[]⟩⟩
def amP:Obj:=wC "Mixed" 816 279 482 819
def amF:Obj:=wF 484 481 "chancehall.doors" 704
def akc:Obj:=cO "__init__" "Mixed.__init__" 826 281 4 3 486 833
def ajv:Obj:=fO "__init__" "Mixed.__init__" (fW 72 0) (.str "chancehall.doors" 704) 491
def ahD(P:Params):Obj:=wD (dE P "__module__" 821 (.str "chancehall.doors" 704)::dE P "__firstlineno__" 825 (.int 279 824)::dR P "__init__" 835 492::dR P "__static_attributes__" 837 493::dE P "__doc__" 838 .none::[]) 2
def alv:Obj:=wK "Mixed" [.ref 455] [.ref 495,.ref 455,.type "object"] 494 [.ref 514,.ref 531] (some (.ref 479)) 814 822 "object.__new__"
def amh:Obj:=wS 495
def al4:Obj:=wB 495
def ai0:Obj:=wT 495
def anf:Obj:=wA
def am8(P:Params):Obj:=wD (dE P "__module__" 848 (.str "chancehall.doors" 704)::dE P "__qualname__" 850 (.str "Toss" 849)::dE P "__firstlineno__" 852 (.int 285 851)::dR P "__init__" 864 511::dR P "__static_attributes__" 865 512::[]) 5
def al1:Obj:=⟨.none,none,.fields ⟨i3 287 4 510 <|[]⟩,⟨[]⟩⟩
def an5:Obj:=wC "Toss" 843 285 501 846
def anY:Obj:=wF 503 500 "chancehall.doors" 704
def akm:Obj:=tN 856 ["self","name","pay","chance","room","other"]
def aiS:Obj:=cO "__init__" "Toss.__init__" 853 287 6 3 505 862
def ak3:Obj:=fO "__init__" "Toss.__init__" (fW 73 0) (.str "chancehall.doors" 704) 510
def ald(P:Params):Obj:=wD (dE P "__module__" 848 (.str "chancehall.doors" 704)::dE P "__firstlineno__" 852 (.int 285 851)::dR P "__init__" 864 511::dR P "__static_attributes__" 865 512::dE P "__doc__" 866 .none::[]) 2
def ajJ:Obj:=wK "Toss" [.ref 495] [.ref 514,.ref 495,.ref 455,.type "object"] 513 [] (some (.ref 498)) 841 849 "object.__new__"
def an4:Obj:=wS 514
def anO:Obj:=wB 514
def ajH:Obj:=wT 495
def alV:Obj:=wA
def aml(P:Params):Obj:=wD (dE P "__module__" 876 (.str "chancehall.doors" 704)::dE P "__qualname__" 878 (.str "Even" 877)::dE P "__firstlineno__" 880 (.int 291 879)::dR P "__init__" 886 528::dR P "__static_attributes__" 887 529::[]) 5
def anr:Obj:=⟨.none,none,.fields ⟨i3 293 4 527 <|[]⟩,⟨[]⟩⟩
def ami:Obj:=wC "Even" 871 291 520 874
def amQ:Obj:=wF 522 519 "chancehall.doors" 704
def ahk:Obj:=cP "__init__" "Even.__init__" 881 293 4 3 524 884
def aiy:Obj:=fO "__init__" "Even.__init__" (fW 74 0) (.str "chancehall.doors" 704) 527
def ahz(P:Params):Obj:=wD (dE P "__module__" 876 (.str "chancehall.doors" 704)::dE P "__firstlineno__" 880 (.int 291 879)::dR P "__init__" 886 528::dR P "__static_attributes__" 887 529::dE P "__doc__" 888 .none::[]) 2
def ajN:Obj:=wK "Even" [.ref 495] [.ref 531,.ref 495,.ref 455,.type "object"] 530 [] (some (.ref 517)) 869 877 "object.__new__"
def alR:Obj:=wS 531
def al0:Obj:=wB 531
def aik:Obj:=cO "check_share" "check_share" 893 296 1 3 534 897
def akV:Obj:=fO "check_share" "check_share" (top 76) (.str "chancehall.halls" 891) 539
def ah9:Obj:=cO "numbers_of" "numbers_of" 900 299 1 3 541 907
def akI:Obj:=fO "numbers_of" "numbers_of" (top 77) (.str "chancehall.halls" 891) 546
def aho:Obj:=tN 913 ["door","numbers","numbered","name","chance"]
def ahf:Obj:=cO "numbered_ways" "numbered_ways" 910 307 2 3 548 918
def aiB:Obj:=fO "numbered_ways" "numbered_ways" (top 78) (.str "chancehall.halls" 891) 553
def aiK:Obj:=tN 924 ["doors","numbers","taken","told","door"]
def alz:Obj:=cO "offers_of" "offers_of" 921 314 2 3 555 929
def aj2:Obj:=fO "offers_of" "offers_of" (top 79) (.str "chancehall.halls" 891) 560
def alM:Obj:=wA
def ank(P:Params):Obj:=wD (dE P "__module__" 939 (.str "chancehall.halls" 891)::dE P "__qualname__" 941 (.str "Hall" 940)::dE P "__firstlineno__" 943 (.int 323 942)::dR P "__init__" 949 573::dR P "size" 956 580::dR P "names" 963 587::dR P "place" 971 594::dR P "check_room" 979 601::dR P "door_at" 988 608::dR P "offers" 994 613::dR P "__static_attributes__" 998 614::[]) 11
def an6:Obj:=⟨.none,none,.fields ⟨i3 325 4 572 <|i3 331 4 579 <|i3 334 4 586 <|i3 337 4 593 <|i3 342 4 600 <|i3 346 4 607 <|i3 349 4 612 <|[]⟩,⟨[]⟩⟩
def al6:Obj:=wC "Hall" 934 323 565 937
def am2:Obj:=wF 567 564 "chancehall.halls" 891
def ahv:Obj:=cP "__init__" "Hall.__init__" 944 325 3 3 569 947
def ahU:Obj:=fO "__init__" "Hall.__init__" (fW 80 0) (.str "chancehall.halls" 891) 572
def alm:Obj:=fO "size" "Hall.size" (fW 80 1) (.str "chancehall.halls" 891) 579
def akR:Obj:=fO "names" "Hall.names" (fW 80 2) (.str "chancehall.halls" 891) 586
def alA:Obj:=fO "place" "Hall.place" (fW 80 3) (.str "chancehall.halls" 891) 593
def anT:Obj:=fT "check_room" "Hall.check_room" (fW 80 4)
def aiN:Obj:=cO "check_room" "Hall.check_room" 972 342 2 3 595 977
def ajr:Obj:=fO "check_room" "Hall.check_room" (fW 80 4) (.str "chancehall.halls" 891) 600
def alB:Obj:=cO "door_at" "Hall.door_at" 980 346 3 3 602 986
def akM:Obj:=fO "door_at" "Hall.door_at" (fW 80 5) (.str "chancehall.halls" 891) 607
def ahR:Obj:=cP "offers" "Hall.offers" 989 349 2 3 609 992
def ahp:Obj:=fO "offers" "Hall.offers" (fW 80 6) (.str "chancehall.halls" 891) 612
def ak9(P:Params):Obj:=wD (dE P "__module__" 939 (.str "chancehall.halls" 891)::dE P "__firstlineno__" 943 (.int 323 942)::dR P "__init__" 949 573::dR P "size" 956 580::dR P "names" 963 587::dR P "place" 971 594::dR P "check_room" 979 601::dR P "door_at" 988 608::dR P "offers" 994 613::dR P "__static_attributes__" 998 614::dR P "__dict__" 1000 617::dR P "__weakref__" 1002 618::dE P "__doc__" 1003 .none::[]) 4
def ahb:Obj:=wK "Hall" [.type "object"] [.ref 616,.type "object"] 615 [] none 932 940 "object.__new__"
noncomputable def ai4:Obj:=⟨.type "getset_descriptor",none,.fields ⟨.str "__dict__" 999::.ref 616::.builtin "function.__dict__"::.builtin "function.__dict__#set"::[]⟩,⟨[]⟩⟩
def alG:Obj:=wG 1001 616
def amg:Obj:=wS 616
def amE:Obj:=wB 616
def ai7:Obj:=cO "_law_cell" "_law_cell" 1008 353 2 3 621 1013
def ahV:Obj:=fO "_law_cell" "_law_cell" (top 82) (.str "law_chancehall_k28_whole_no_plan_beats_it" 1006) 626
def ah6:Obj:=tN 1019 ["_law_cell_here","_law_many","_law_found","_law_number","_law_digits","_law_k"]
def akX:Obj:=cO "_law_stream" "_law_stream" 1016 355 2 3 628 1025
def ai9:Obj:=fO "_law_stream" "_law_stream" (top 83) (.str "law_chancehall_k28_whole_no_plan_beats_it" 1006) 633
def akt:Obj:=tN 1031 ["_law_one","_law_other","_law_low","_law_high"]
def ahe:Obj:=cO "_law_gcd" "_law_gcd" 1028 366 2 3 635 1035
def ahS:Obj:=fO "_law_gcd" "_law_gcd" (top 84) (.str "law_chancehall_k28_whole_no_plan_beats_it" 1006) 640
def ahu:Obj:=tN 1041 ["_law_top","_law_bottom","_law_common"]
def akT:Obj:=cO "_law_ratio" "_law_ratio" 1038 371 2 3 642 1044
def ak6:Obj:=fO "_law_ratio" "_law_ratio" (top 85) (.str "law_chancehall_k28_whole_no_plan_beats_it" 1006) 647
def alq:Obj:=cO "_law_is_ratio" "_law_is_ratio" 1047 374 1 3 649 1052
def akC:Obj:=fO "_law_is_ratio" "_law_is_ratio" (top 86) (.str "law_chancehall_k28_whole_no_plan_beats_it" 1006) 654
def anE:Obj:=fT "_law_are_ratios" "_law_are_ratios" (top 87)
def aiw:Obj:=cP "_law_are_ratios" "_law_are_ratios" 1055 381 2 3 656 1058
def aia:Obj:=fO "_law_are_ratios" "_law_are_ratios" (top 87) (.str "law_chancehall_k28_whole_no_plan_beats_it" 1006) 659
def aic:Obj:=cO "_law_same" "_law_same" 1061 385 2 3 661 1066
def ahx:Obj:=fO "_law_same" "_law_same" (top 88) (.str "law_chancehall_k28_whole_no_plan_beats_it" 1006) 666
def ahn:Obj:=cP "_law_names" "_law_names" 1069 387 2 3 668 1072
def ah2:Obj:=fO "_law_names" "_law_names" (top 89) (.str "law_chancehall_k28_whole_no_plan_beats_it" 1006) 671
def aiM:Obj:=tN 1078 ["_law_cell_here","_law_xs","_law_bottom"]
def ajh:Obj:=cO "_law_share" "_law_share" 1075 396 1 3 673 1081
def ahq:Obj:=fO "_law_share" "_law_share" (top 90) (.str "law_chancehall_k28_whole_no_plan_beats_it" 1006) 678
def akf:Obj:=tN 1087 ["_law_cell_here","_law_x","_law_y"]
def ajb:Obj:=cO "_law_pay" "_law_pay" 1084 400 3 3 680 1090
def akK:Obj:=fO "_law_pay" "_law_pay" (top 91) (.str "law_chancehall_k28_whole_no_plan_beats_it" 1006) 685
def alF:Obj:=cP "_law_door" "_law_door" 1093 408 2 3 687 1096
def ajV:Obj:=fO "_law_door" "_law_door" (top 92) (.str "law_chancehall_k28_whole_no_plan_beats_it" 1006) 690
def ajA:Obj:=cP "_law_doors" "_law_doors" 1099 425 4 3 692 1102
def aj5:Obj:=fO "_law_doors" "_law_doors" (top 93) (.str "law_chancehall_k28_whole_no_plan_beats_it" 1006) 695
def ajS:Obj:=cP "_law_built" "_law_built" 1105 439 3 3 697 1108
def alj:Obj:=fO "_law_built" "_law_built" (top 94) (.str "law_chancehall_k28_whole_no_plan_beats_it" 1006) 700
def akG:Obj:=cP "_law_hall" "_law_hall" 1111 449 3 3 702 1114
def ag1:Obj:=fO "_law_hall" "_law_hall" (top 95) (.str "law_chancehall_k28_whole_no_plan_beats_it" 1006) 705
def aj9:Obj:=tN 1120 ["_law_cell_here","_law_rooms_here","_law_xs","_law_found","_law_k"]
def aiI:Obj:=cO "_law_chosen" "_law_chosen" 1117 456 2 3 707 1125
def ahy:Obj:=fO "_law_chosen" "_law_chosen" (top 96) (.str "law_chancehall_k28_whole_no_plan_beats_it" 1006) 712
def ahT:Obj:=tN 1131 ["_law_share_here","_law_door_here","_law_worths","_law_top","_law_bottom","_law_room","_law_chance","_law_part"]
def ahj:Obj:=cO "_law_look" "_law_look" 1128 465 3 3 714 1139
def ajw:Obj:=fO "_law_look" "_law_look" (top 97) (.str "law_chancehall_k28_whole_no_plan_beats_it" 1006) 719
def aib:Obj:=cO "_law_below" "_law_below" 1142 475 2 3 721 1147
def ai2:Obj:=fO "_law_below" "_law_below" (top 98) (.str "law_chancehall_k28_whole_no_plan_beats_it" 1006) 726
def akL:Obj:=tN 1153 ["_law_found","_law_share_here","_law_rooms_here","_law_plan","_law_k","_law_due"]
def aj3:Obj:=cO "_law_right" "_law_right" 1150 477 4 3 728 1159
def agX:Obj:=fO "_law_right" "_law_right" (top 99) (.str "law_chancehall_k28_whole_no_plan_beats_it" 1006) 733
def ag7:Obj:=cO "_law_size" "_law_size" 1162 487 1 3 735 1167
def ali:Obj:=fO "_law_size" "_law_size" (top 100) (.str "law_chancehall_k28_whole_no_plan_beats_it" 1006) 740
def alu:Obj:=tN 1173 ["_law_cell_here","_law_many","_law_pay_here","_law_found","_law_k"]
def alQ:Obj:=fT "_law_corridor" "_law_corridor" (top 101)
def aio:Obj:=cO "_law_corridor" "_law_corridor" 1170 494 2 3 742 1178
def ahK:Obj:=fO "_law_corridor" "_law_corridor" (top 101) (.str "law_chancehall_k28_whole_no_plan_beats_it" 1006) 747
def aj7:Obj:=cO "_law_rooms" "_law_rooms" 1181 500 1 3 749 1186
def ajm:Obj:=fO "_law_rooms" "_law_rooms" (top 102) (.str "law_chancehall_k28_whole_no_plan_beats_it" 1006) 754
def alC:Obj:=cP "_law_start" "_law_start" 1189 505 2 3 756 1192
def akQ:Obj:=fO "_law_start" "_law_start" (top 103) (.str "law_chancehall_k28_whole_no_plan_beats_it" 1006) 759
def anj:Obj:=fT "_law_is_choice" "_law_is_choice" (top 104)
def ah7:Obj:=cO "_law_is_choice" "_law_is_choice" 1195 509 2 3 761 1200
def aiJ:Obj:=fO "_law_is_choice" "_law_is_choice" (top 104) (.str "law_chancehall_k28_whole_no_plan_beats_it" 1006) 766
def akP:Obj:=cP "_law_best" "_law_best" 1203 513 3 3 768 1206
def ajk:Obj:=fO "_law_best" "_law_best" (top 105) (.str "law_chancehall_k28_whole_no_plan_beats_it" 1006) 771
def aiO:Obj:=tN 1212 ["_law_share_here","_law_rooms_here","_law_plan","_law_worths","_law_found","_law_k","_law_due"]
def ahL:Obj:=cO "_law_ahead" "_law_ahead" 1209 525 4 3 773 1219
def ajF:Obj:=fO "_law_ahead" "_law_ahead" (top 106) (.str "law_chancehall_k28_whole_no_plan_beats_it" 1006) 778
def tr1(P:Params):BT:=nd (boot_o_0 P) (nd (boot_o_1 P) (nd (amd P) (nd (boot_o_7 P) (nd tE (nd q31 (nd fE (nd aj1 (n2 (fT "take_step" "take_step" (top 36)) ak3 aiJ) (n1 fE (fT "_law_gcd" "_law_gcd" (top 84)))) (nd tE (n1 akr fE) (n1 fE fE))) (nd q95 (nd fE (n1 tE (tN 903 ["rooms","numbers","room","name"])) (n1 tE ahn)) (nd akW (n1 tE alB) (n1 akl tE)))) (nd q47 (nd (q79 P) (nd akq (n1 fE ahk) (n1 ag0 akC)) (nd (fT "first_plan" "first_plan" (top 27)) (n1 fE tE) (n1 tE ahj))) (nd (tN 318 ["self","room"]) (nd tE (n1 tE (fT "offers_of" "offers_of" (top 79))) (n1 an0 tE)) (nd (cP "lowest" "lowest" 483 102 2 3 236 486) (n1 (fT "better_door" "better_door" (top 57)) (tN 1011 ["_law_script","_law_k"])) (n1 alv (tN 1184 ["_law_script","_law_xs"])))))) (nd q23 (nd fE (nd q71 (nd ajd (n2 aiQ (aml P) aiO) (n1 (fT "is_word" "is_word" (top 63)) akT)) (nd fE (n1 tE (tN 960 ["self"])) (n1 akj (fT "_law_chosen" "_law_chosen" (top 96))))) (nd amJ (nd (tN 393 ["one","other"]) (n1 (fT "clear_column" "clear_column" (top 42)) tE) (n1 ajW ahq)) (nd alw (n1 fE (ak9 P)) (n1 fE fE)))) (nd (q55 P) (nd q87 (nd tE (n1 (tN 537 ["leveled","steps","step"]) fE) (n1 akJ (tN 1064 ["_law_one","_law_other"]))) (nd (cO "fits" "fits" 447 84 2 3 210 452) (n1 (fT "only_answer" "only_answer" (top 51)) anT) (n1 (fT "__init__" "Sure.__init__" (fW 71 0)) ai2))) (nd anh (nd (fT "under" "under" (top 21)) (n1 fE al6) (n1 tE ajA)) (nd fE (n1 tE tE) (n1 an5 alC)))))) (nd o11 (nd (fT "_wall" "_wall" (top 0)) (nd q35 (nd (q67 P) (nd tE (n2 fE an4 akP) (n1 (cO "best_of" "best_of" 687 229 1 3 382 691) fE)) (nd (fT "total" "total" (top 24)) (n1 tE (cO "size" "Hall.size" 950 331 1 3 574 954)) (n1 ahZ tE))) (nd q99 (nd (cO "minus" "minus" 382 58 2 3 158 387) (n1 tE akI) (n1 ajx aiM)) (nd ahg (n1 (fT "left_rows" "left_rows" (top 54)) (fT "offers" "Hall.offers" (fW 80 6))) (n1 anF (fT "_law_size" "_law_size" (top 100)))))) (nd fE (nd q83 (nd tE (n1 ak1 ajN) (n1 (tN 717 ["room"]) aiw)) (nd fE (n1 tE tE) (n1 tE (tN 1145 ["_law_one","_law_other"])))) (nd aiP (nd tE (n1 (fT "width_of" "width_of" (top 45)) alM) (n1 tE ajV)) (nd (fT "row_times" "row_times" (top 34)) (n1 fE ahV) (n1 anf ajm))))) (nd q27 (nd (q43 P) (nd fE (nd (tN 359 ["top","bottom","common"]) (n2 (fT "fractions_of" "fractions_of" (top 38)) amQ ajF) (n1 fE (tN 1050 ["_law_found","_law_number"]))) (nd (cO "greatest" "greatest" 430 75 1 3 198 436) (n1 (fT "answer_of" "answer_of" (top 49)) akR) (n1 anW fE))) (nd anC (nd akv (n1 fE tE) (n1 (al7 P) tE)) (nd ahE (n1 tE amg) (n1 akc aio)))) (nd q59 (nd fE (nd (fT "plus" "plus" (top 17)) (n1 ahG aik) (n1 tE ahx)) (nd (tN 458 ["hall","plan","room","thing"]) (n1 fE fE) (n1 (akz P) tE))) (nd (tN 333 ["thing"]) (nd fE (n1 tE (fT "__init__" "Hall.__init__" (fW 80 0))) (n1 (fT "ways" "Door.ways" (fW 70 1)) (fT "_law_built" "_law_built" (top 94)))) (nd tE (n1 (fT "mendings" "mendings" (top 59)) tE) (n1 akm (tN 1198 ["_law_found","_law_doors_here"])))))))) (nd (boot_o_5 P) (nd (boot_o_9 P) (nd (tN 190 ["k"]) (nd q33 (nd q65 (nd fE (n2 ak5 (ald P) fE) (n1 tE ahS)) (nd (tN 425 ["fractions","leveled"]) (n1 fE tE) (n1 tE akG))) (nd (tN 298 ["room"]) (nd tE (n1 ajQ (fT "numbers_of" "numbers_of" (top 77))) (n1 (fT "check_pairs" "check_pairs" (top 68)) tE)) (nd fE (n1 ajO tE) (n1 (anU P) (tN 1165 ["_law_cell_here","_law_xs"]))))) (nd (q49 P) (nd q81 (nd fE (n1 tE tE) (n1 tE fE)) (nd aiF (n1 akd (cO "place" "Hall.place" 964 337 2 3 588 969)) (n1 al2 tE))) (nd (fT "__init__" "NoPlan.__init__" (fW 8 0)) (nd (cO "over" "over" 398 62 2 3 172 403) (n1 (tN 578 ["rows"]) aj2) (n1 fE (fT "_law_door" "_law_door" (top 92)))) (nd tE (n1 akN (fT "_law_cell" "_law_cell" (top 82))) (n1 al4 (fT "_law_rooms" "_law_rooms" (top 102))))))) (nd tE (nd q41 (nd (q73 P) (nd tE (n2 tE anr (fT "_law_ahead" "_law_ahead" (top 106))) (n1 ahc tE)) (nd tE (n1 ai8 (fT "names" "Hall.names" (fW 80 2))) (n1 alb ahy))) (nd tE (nd (fT "times" "times" (top 19)) (n1 akk ahf) (n1 tE fE)) (nd (fT "raised_look" "raised_look" (top 31)) (n1 ahB ai4) (n1 tE tE)))) (nd q57 (nd q89 (nd (tN 377 ["one","other"]) (n1 (fT "go_on" "go_on" (top 40)) tE) (n1 fE (fT "_law_same" "_law_same" (top 88)))) (nd tE (n1 ag5 ajr) (n1 aiE fE))) (nd tE (nd akB (n1 ajc tE) (n1 (tN 764 ["self"]) tE)) (nd ak0 (n1 (tN 680 ["hall","plan","told","coming"]) akX) (n1 tE tE)))))) (nd o13 (nd q21 (nd (q37 P) (nd q69 (nd (cO "divisor" "divisor" 337 28 2 3 128 345) (n2 tE ajH tE) (n1 tE tE)) (nd aje (n1 (cO "odd_row" "odd_row" 594 173 3 3 320 601) tE) (n1 (tN 776 ["leads","name","pay"]) aj9))) (nd anZ (nd tE (n1 ah4 fE) (n1 fE (fT "_law_share" "_law_share" (top 90)))) (nd tE (n1 ajg ahp) (n1 amF ali)))) (nd q53 (nd (q85 P) (nd (cO "is_ratio" "is_ratio" 365 48 1 3 144 371) (n1 tE al0) (n1 amH tE)) (nd tE (n1 aj8 (tN 975 ["self","room"])) (n1 (tN 802 ["self","name","pay","room"]) (fT "_law_below" "_law_below" (top 98))))) (nd (air P) (nd (tN 409 ["one","other"]) (n1 aij tE) (n1 aiC fE)) (nd ait (n1 (cP "mended" "mended" 671 213 3 3 370 674) fE) (n1 tE fE))))) (nd tE (nd q45 (nd q77 (nd (fT "ratio" "ratio" (top 15)) (n1 akh fE) (n1 tE (fT "_law_is_ratio" "_law_is_ratio" (top 86)))) (nd tE (n1 aip fE) (n1 anV tE))) (nd tE (nd fE (n1 (cP "reduced" "reduced" 567 148 2 3 298 570) aiK) (n1 anP ajb)) (nd fE (n1 (tN 665 ["seen","door","most"]) tE) (n1 (tN 836 ["leads"]) tE)))) (nd (q61 P) (nd tE (nd aiv (n1 fE tE) (n1 ajq fE)) (nd (fT "check_plan" "check_plan" (top 29)) (n1 akp tE) (n1 anz aj3))) (nd (fT "is_whole" "is_whole" (top 10)) (nd (cP "level" "level" 416 67 1 3 186 419) (n1 (fT "begins_of" "begins_of" (top 47)) ahU) (n1 ahh alj)) (nd (tN 504 ["leveled","step","row"]) (n1 ai6 akt) (n1 (fT "__init__" "Toss.__init__" (fW 73 0)) anj)))))))) (nd (boot_o_2 P) (nd (boot_o_4 P) (nd (boot_o_8 P) (nd fE (nd q32 (nd q64 (nd tE (n2 ahs tE tE) (n1 (tN 690 ["hall"]) ahe)) (nd fE (n1 tE (tN 953 ["self"])) (n1 (tN 771 ["self","room"]) (fT "_law_hall" "_law_hall" (top 95))))) (nd q96 (nd (tN 385 ["one","other"]) (n1 (fT "begin_row" "begin_row" (top 41)) tE) (n1 fE ah2)) (nd tE (n1 fE akM) (n1 anL fE)))) (nd q48 (nd q80 (nd tE (n1 akF aiy) (n1 aiR tE)) (nd ajo (n1 (fT "single_rows" "single_rows" (top 50)) (fT "place" "Hall.place" (fW 80 3))) (n1 an2 ajw))) (nd tE (nd (fT "over" "over" (top 20)) (n1 fE alz) (n1 tE fE)) (nd ahr (n1 aj0 tE) (n1 amh tE))))) (nd (q24 P) (nd q40 (nd q72 (nd aiG (n2 ais tE tE) (n1 (cP "is_word" "is_word" 698 233 1 3 389 701) ak6)) (nd (tN 433 ["fractions","found","one"]) (n1 fE tE) (n1 aht aiI))) (nd (al8 P) (nd tE (n1 akg (fT "numbered_ways" "numbered_ways" (top 78))) (n1 alD tE)) (nd tE (n1 (fT "worths_of" "worths_of" (top 55)) ahb) (n1 (tN 829 ["self","name","pay","pairs"]) alu)))) (nd q56 (nd q88 (nd fE (n1 tE (tN 896 ["share"])) (n1 tE tE)) (nd aly (n1 ajL aiN) (n1 akO tE))) (nd amV (nd (cO "under" "under" 406 64 2 3 179 411) (n1 (fT "with_rights" "with_rights" (top 46)) am2) (n1 fE aj5)) (nd (fT "row_plus" "row_plus" (top 35)) (n1 fE (fT "_law_stream" "_law_stream" (top 83))) (n1 anY akQ)))))) (nd aii (nd (cO "_wall" "_wall" 187 1 1 3 15 191) (nd q36 (nd q68 (nd (fT "divisor" "divisor" (top 11)) (n2 (tN 513 ["row","column"]) anO ajk) (n1 ah1 ahu)) (nd (cO "total" "total" 422 72 1 3 191 427) (n1 (fT "odd_row" "odd_row" (top 48)) alm) (n1 aiU fE))) (nd amA (nd aie (n1 fE tE) (n1 tE tE)) (nd aix (n1 ahi ahR) (n1 amP ag7)))) (nd q52 (nd q84 (nd (fT "is_ratio" "is_ratio" (top 16)) (n1 ahd alR) (n1 tE aia)) (nd (tN 450 ["thing","many"]) (n1 fE fE) (n1 fE tE))) (nd (tN 323 ["room"]) (nd fE (n1 aiX (ank P)) (n1 (fT "__init__" "Door.__init__" (fW 70 0)) tE)) (nd akn (n1 (fT "mended" "mended" (top 58)) tE) (n1 (am8 P) tE))))) (nd q28 (nd q44 (nd q76 (nd tE (n1 ahN tE) (n1 (tN 709 ["name","pay"]) tE)) (nd als (n1 aiT tE) (n1 akZ ahT))) (nd amc (nd tE (n1 (fT "reduced" "reduced" (top 43)) fE) (n1 tE (fT "_law_pay" "_law_pay" (top 91)))) (nd tE (n1 fE amE) (n1 ajv ahK)))) (nd q60 (nd (tN 293 ["self","room"]) (nd (cO "plus" "plus" 374 56 2 3 151 379) (n1 tE akV) (n1 (fT "check_chance" "check_chance" (top 67)) tE)) (nd tE (n1 (fT "chosen_doors" "chosen_doors" (top 53)) (tN 983 ["self","room","name"])) (n1 alc (fT "_law_right" "_law_right" (top 99))))) (nd tE (nd (fT "level" "level" (top 23)) (n1 fE ahv) (n1 (cO "ways" "Door.ways" 761 268 1 3 439 765) ajS)) (nd fE (n1 ajX fE) (n1 tE tE))))))) (nd (boot_o_6 P) (nd (boot_o_10 P) (nd tE (nd q34 (nd tE (nd ale (n2 tE ajJ (fT "_law_best" "_law_best" (top 105))) (n1 (fT "best_of" "best_of" (top 60)) tE)) (nd tE (n1 (tN 597 ["end","begins","wide","row"]) (fT "size" "Hall.size" (fW 80 1))) (n1 (fT "chance_to" "Door.chance_to" (fW 70 2)) ag1))) (nd (q98 P) (nd (fT "minus" "minus" (top 18)) (n1 ajB ah9) (n1 alx fE)) (nd (fT "behind_door" "behind_door" (top 30)) (n1 tE fE) (n1 tE tE)))) (nd tE (nd q82 (nd (tN 368 ["thing","top","bottom"]) (n1 (fT "first_from" "first_from" (top 39)) (ahz P)) (n1 fE anE)) (nd tE (n1 aky alA) (n1 ang fE))) (nd akY (nd ag8 (n1 tE tE) (n1 (tN 755 ["self","name","pay"]) alF)) (nd fE (n1 tE ai7) (n1 ai0 aj7))))) (nd fE (nd tE (nd tE (nd fE (n2 fE ami ahL) (n1 tE fE)) (nd (fT "greatest" "greatest" (top 25)) (n1 tE (cO "names" "Hall.names" 957 334 1 3 581 961)) (n1 amR tE))) (nd anB (nd (cO "times" "times" 390 60 2 3 165 395) (n1 tE aiB) (n1 amv akf)) (nd ajK (n1 ain alG) (n1 (fT "__init__" "Mixed.__init__" (fW 72 0)) alQ)))) (nd q58 (nd tE (nd tE (n1 (cO "go_on" "go_on" 534 134 3 3 277 540) (fT "check_share" "check_share" (top 76))) (n1 (tN 724 ["chance"]) aic)) (nd fE (n1 tE tE) (n1 (tN 809 ["leads"]) akL))) (nd fE (nd tE (n1 ajj fE) (n1 tE fE)) (nd alr (n1 tE ai9) (n1 fE fE)))))) (nd o14 (nd q22 (nd tE (nd q70 (nd agZ (n2 (fT "number_at" "number_at" (top 37)) alV fE) (n1 fE (fT "_law_ratio" "_law_ratio" (top 85)))) (nd tE (n1 aiL fE) (n1 (ajp P) tE))) (nd aki (nd fE (n1 tE aho) (n1 (fT "joined_ways" "joined_ways" (top 69)) ajh)) (nd fE (n1 tE (tN 995 ["numbers","offered","share"])) (n1 tE tE)))) (nd tE (nd tE (nd aji (n1 fE tE) (n1 ahO fE)) (nd (fT "fits" "fits" (top 28)) (n1 tE tE) (n1 tE aib))) (nd ajs (nd tE (n1 tE an6) (n1 ajn (fT "_law_doors" "_law_doors" (top 93)))) (nd tE (n1 aiu ah6) (n1 al1 (fT "_law_start" "_law_start" (top 103))))))) (nd (q30 P) (nd q46 (nd tE (nd (cO "ratio" "ratio" 356 39 2 3 137 362) (n1 tE (fT "__init__" "Even.__init__" (fW 74 0))) (n1 (fT "check_head" "check_head" (top 65)) alq)) (nd fE (n1 tE (tN 967 ["self","name"])) (n1 (anJ P) (fT "_law_look" "_law_look" (top 97))))) (nd fE (nd (tN 401 ["one","other"]) (n1 aiY tE) (n1 anc akK)) (nd (fT "lowest" "lowest" (top 33)) (n1 tE fE) (n1 (ahD P) fE)))) (nd tE (nd (fT "__init__" "NoRoom.__init__" (fW 7 0)) (nd tE (n1 ahP fE) (n1 alg (fT "_law_names" "_law_names" (top 89)))) (nd agT (n1 agR (fT "door_at" "Hall.door_at" (fW 80 5))) (n1 amK agX))) (nd (cO "is_whole" "is_whole" 330 26 1 3 121 334) (nd ahw (n1 aks tE) (n1 tE tE)) (nd tE (n1 tE tE) (n1 aiS ah7))))))))
def S1(w:World)(os:OsState):SharedT:=⟨tr1 w.params,780,{},⟨[]⟩,{},1222,os⟩
noncomputable def e1:Pos:=⟨525,0,532,21⟩
def KH:Params->Frag:=λP=>(
 (nat_lit 2,boot_o_2 P)::(nat_lit 3,wD (dE P "__name__" 165 (.str "law_chancehall_k28_whole_no_plan_beats_it" 1006)::dE P "__doc__" 166 .none::dE P "__package__" 167 .none::dE P "__loader__" 168 (.builtin "__main__.__loader__#opaque")::dE P "__spec__" 169 .none::dR P "__annotations__" 170 6::dR P "__builtins__" 171 4::dE P "__file__" 173 (.str "/claim/cut.py" 172)::dE P "__cached__" 174 .none::dR P "_wall" 193 21::dR P "HallError" 213 31::dR P "NoNumber" 229 44::dR P "NoName" 245 56::dR P "NoChance" 261 68::dR P "NoShare" 277 80::dR P "NoRoom" 302 99::dR P "NoPlan" 327 118::dR P "is_whole" 336 127::dR P "divisor" 347 134::dR P "NOUGHT" 352 135::dR P "ONE" 355 136::dR P "ratio" 364 143::dR P "is_ratio" 373 150::dR P "plus" 381 157::dR P "minus" 389 164::dR P "times" 397 171::dR P "over" 405 178::dR P "under" 413 185::dR P "level" 421 190::dR P "total" 429 197::dR P "greatest" 438 204::dR P "first_plan" 446 209::dR P "fits" 454 216::dR P "check_plan" 464 223::dR P "behind_door" 470 228::dR P "raised_look" 480 235::dR P "lowest" 488 240::dR P "row_times" 494 245::dR P "row_plus" 500 250::dR P "take_step" 509 257::dR P "number_at" 517 264::dR P "fractions_of" 523 269::dR P "first_from" 533 276::dR P "go_on" 542 283::dR P "begin_row" 554 290::dR P "clear_column" 566 297::dR P "reduced" 572 302::dR P "width_of" 581 309::dR P "with_rights" 587 314::dR P "begins_of" 593 319::dR P "odd_row" 603 326::dR P "answer_of" 615 333::dR P "single_rows" 621 338::dR P "only_answer" 632 345::dR P "chosen_doors" 640 350::dR P "left_rows" 653 357::dR P "worths_of" 659 362::dR P "better_door" 670 369::dR P "mended" 676 374::dR P "mendings" 686 381::dR P "best_of" 693 388::dE P "LONGEST_WORD" 697 (.int 8 696)::dR P "is_word" 703 393::dR P "check_head" 713 400::dR P "check_room_name" 720 407::dR P "check_chance" 727 414::dR P "check_pairs" 733 419::dR P "joined_ways" 739 424::dR P "Door" 786 455::dR P "Sure" 813 476::dR P "Mixed" 840 495::dR P "Toss" 868 514::dR P "Even" 890 531::dR P "check_share" 899 540::dR P "numbers_of" 909 547::dR P "numbered_ways" 920 554::dR P "offers_of" 931 561::dR P "Hall" 1005 616::dR P "_law_cell" 1015 627::dR P "_law_stream" 1027 634::dR P "_law_gcd" 1037 641::dR P "_law_ratio" 1046 648::dR P "_law_is_ratio" 1054 655::dR P "_law_are_ratios" 1060 660::dR P "_law_same" 1068 667::dR P "_law_names" 1074 672::dR P "_law_share" 1083 679::dR P "_law_pay" 1092 686::dR P "_law_door" 1098 691::dR P "_law_doors" 1104 696::dR P "_law_built" 1110 701::dR P "_law_hall" 1116 706::dR P "_law_chosen" 1127 713::dR P "_law_look" 1141 720::dR P "_law_below" 1149 727::dR P "_law_right" 1161 734::dR P "_law_size" 1169 741::dR P "_law_corridor" 1180 748::dR P "_law_rooms" 1188 755::dR P "_law_start" 1194 760::dR P "_law_is_choice" 1202 767::dR P "_law_best" 1208 772::dR P "_law_ahead" 1221 779::dR P "_law_none_above" 1227 784::dR P "law" 1242 791::[]) 105)::(nat_lit 15,tE)::(nat_lit 17,tN 190 ["k"])::(nat_lit 18,tE)::(nat_lit 20,cO "_wall" "_wall" 187 1 1 3 15 191)::(nat_lit 21,q21)::(nat_lit 22,q22)::(nat_lit 29,tE)::(nat_lit 30,q30 P)::(nat_lit 31,q31)::(nat_lit 32,q32)::(nat_lit 35,q35)::(nat_lit 42,tE)::(nat_lit 43,q43 P)::(nat_lit 44,q44)::(nat_lit 47,q47)::(nat_lit 54,tE)::(nat_lit 55,q55 P)::(nat_lit 56,q56)::(nat_lit 59,q59)::(nat_lit 66,tE)::(nat_lit 67,q67 P)::(nat_lit 68,q68)::(nat_lit 71,q71)::(nat_lit 78,tE)::(nat_lit 79,q79 P)::(nat_lit 80,q80)::(nat_lit 83,q83)::(nat_lit 90,tE)::(nat_lit 92,tN 293 ["self","room"])::(nat_lit 93,tE)::(nat_lit 95,q95)::(nat_lit 96,q96)::(nat_lit 97,tN 298 ["room"])::(nat_lit 98,q98 P)::(nat_lit 99,q99)::(nat_lit 102,aki)::(nat_lit 109,tE)::(nat_lit 111,tN 318 ["self","room"])::(nat_lit 112,tE)::(nat_lit 114,akY)::(nat_lit 115,aiP)::(nat_lit 116,tN 323 ["room"])::(nat_lit 117,air P)::(nat_lit 118,ajs)::(nat_lit 121,tE)::(nat_lit 123,tN 333 ["thing"])::(nat_lit 124,tE)::(nat_lit 126,cO "is_whole" "is_whole" 330 26 1 3 121 334)::(nat_lit 127,aj1)::(nat_lit 128,tE)::(nat_lit 130,ale)::(nat_lit 131,tE)::(nat_lit 133,cO "divisor" "divisor" 337 28 2 3 128 345)::(nat_lit 134,agZ)::(nat_lit 135,ajd)::(nat_lit 136,aiG)::(nat_lit 137,tE)::(nat_lit 139,tN 359 ["top","bottom","common"])::(nat_lit 140,tE)::(nat_lit 142,cO "ratio" "ratio" 356 39 2 3 137 362)::(nat_lit 143,akq)::(nat_lit 144,tE)::(nat_lit 146,tN 368 ["thing","top","bottom"])::(nat_lit 147,tE)::(nat_lit 149,cO "is_ratio" "is_ratio" 365 48 1 3 144 371)::(nat_lit 150,aji)::(nat_lit 151,tE)::(nat_lit 153,tN 377 ["one","other"])::(nat_lit 154,tE)::(nat_lit 156,cO "plus" "plus" 374 56 2 3 151 379)::(nat_lit 157,aiv)::(nat_lit 158,tE)::(nat_lit 160,tN 385 ["one","other"])::(nat_lit 161,tE)::(nat_lit 163,cO "minus" "minus" 382 58 2 3 158 387)::(nat_lit 164,aie)::(nat_lit 165,tE)::(nat_lit 167,tN 393 ["one","other"])::(nat_lit 168,tE)::(nat_lit 170,cO "times" "times" 390 60 2 3 165 395)::(nat_lit 171,akv)::(nat_lit 172,tE)::(nat_lit 174,tN 401 ["one","other"])::(nat_lit 175,tE)::(nat_lit 177,cO "over" "over" 398 62 2 3 172 403)::(nat_lit 178,ag8)::(nat_lit 179,tE)::(nat_lit 181,tN 409 ["one","other"])::(nat_lit 182,tE)::(nat_lit 184,cO "under" "under" 406 64 2 3 179 411)::(nat_lit 185,akB)::(nat_lit 186,tE)::(nat_lit 189,cP "level" "level" 416 67 1 3 186 419)::(nat_lit 190,ahw)::(nat_lit 191,tE)::(nat_lit 193,tN 425 ["fractions","leveled"])::(nat_lit 194,tE)::(nat_lit 196,cO "total" "total" 422 72 1 3 191 427)::(nat_lit 197,aje)::(nat_lit 198,tE)::(nat_lit 200,tN 433 ["fractions","found","one"])::(nat_lit 201,tE)::(nat_lit 203,cO "greatest" "greatest" 430 75 1 3 198 436)::(nat_lit 204,als)::(nat_lit 205,tE)::(nat_lit 208,ajo)::(nat_lit 209,aiF)::(nat_lit 210,tE)::(nat_lit 212,tN 450 ["thing","many"])::(nat_lit 213,tE)::(nat_lit 215,cO "fits" "fits" 447 84 2 3 210 452)::(nat_lit 216,aly)::(nat_lit 217,tE)::(nat_lit 219,tN 458 ["hall","plan","room","thing"])::(nat_lit 220,tE)::(nat_lit 222,agT)::(nat_lit 223,akW)::(nat_lit 224,tE)::(nat_lit 227,ahg)::(nat_lit 228,aix)::(nat_lit 229,tE)::(nat_lit 231,alw)::(nat_lit 232,tE)::(nat_lit 234,ajK)::(nat_lit 235,ahE)::(nat_lit 236,tE)::(nat_lit 239,cP "lowest" "lowest" 483 102 2 3 236 486)::(nat_lit 240,ahr)::(nat_lit 241,tE)::(nat_lit 244,akn)::(nat_lit 245,ait)::(nat_lit 246,tE)::(nat_lit 249,ak0)::(nat_lit 250,alr)::(nat_lit 251,tE)::(nat_lit 253,tN 504 ["leveled","step","row"])::(nat_lit 254,tE)::(nat_lit 256,ahs)::(nat_lit 257,ak5)::(nat_lit 258,tE)::(nat_lit 260,tN 513 ["row","column"])::(nat_lit 261,tE)::(nat_lit 263,aiQ)::(nat_lit 264,ais)::(nat_lit 265,tE)::(nat_lit 268,ahN)::(nat_lit 269,akh)::(nat_lit 270,tE)::(nat_lit 272,akF)::(nat_lit 273,tE)::(nat_lit 275,ak1)::(nat_lit 276,ahd)::(nat_lit 277,tE)::(nat_lit 279,tN 537 ["leveled","steps","step"])::(nat_lit 280,tE)::(nat_lit 282,cO "go_on" "go_on" 534 134 3 3 277 540)::(nat_lit 283,ahG)::(nat_lit 284,tE)::(nat_lit 286,ahP)::(nat_lit 287,tE)::(nat_lit 289,ajQ)::(nat_lit 290,ajB)::(nat_lit 291,tE)::(nat_lit 293,ah4)::(nat_lit 294,tE)::(nat_lit 296,akg)::(nat_lit 297,akk)::(nat_lit 298,tE)::(nat_lit 301,cP "reduced" "reduced" 567 148 2 3 298 570)::(nat_lit 302,aiY)::(nat_lit 303,tE)::(nat_lit 305,tN 578 ["rows"])::(nat_lit 306,tE)::(nat_lit 308,aiX)::(nat_lit 309,aij)::(nat_lit 310,tE)::(nat_lit 313,ajc)::(nat_lit 314,ajj)::(nat_lit 315,tE)::(nat_lit 318,aks)::(nat_lit 319,akr)::(nat_lit 320,tE)::(nat_lit 322,tN 597 ["end","begins","wide","row"])::(nat_lit 323,tE)::(nat_lit 325,cO "odd_row" "odd_row" 594 173 3 3 320 601)::(nat_lit 326,aiL)::(nat_lit 327,tE)::(nat_lit 329,ai8)::(nat_lit 330,tE)::(nat_lit 332,aiT)::(nat_lit 333,aip)::(nat_lit 334,tE)::(nat_lit 337,akd)::(nat_lit 338,aky)::(nat_lit 339,tE)::(nat_lit 341,aj8)::(nat_lit 342,tE)::(nat_lit 344,ajL)::(nat_lit 345,ag5)::(nat_lit 346,tE)::(nat_lit 349,akp)::(nat_lit 350,agR)::(nat_lit 351,tE)::(nat_lit 353,ajO)::(nat_lit 354,tE)::(nat_lit 356,ahi)::(nat_lit 357,ajg)::(nat_lit 358,tE)::(nat_lit 361,ahB)::(nat_lit 362,ain)::(nat_lit 363,tE)::(nat_lit 365,tN 665 ["seen","door","most"])::(nat_lit 366,tE)::(nat_lit 368,aj0)::(nat_lit 369,akN)::(nat_lit 370,tE)::(nat_lit 373,cP "mended" "mended" 671 213 3 3 370 674)::(nat_lit 374,aiu)::(nat_lit 375,tE)::(nat_lit 377,tN 680 ["hall","plan","told","coming"])::(nat_lit 378,tE)::(nat_lit 380,ajX)::(nat_lit 381,ai6)::(nat_lit 382,tE)::(nat_lit 384,tN 690 ["hall"])::(nat_lit 385,tE)::(nat_lit 387,cO "best_of" "best_of" 687 229 1 3 382 691)::(nat_lit 388,ah1)::(nat_lit 389,tE)::(nat_lit 392,cP "is_word" "is_word" 698 233 1 3 389 701)::(nat_lit 393,ahc)::(nat_lit 394,tE)::(nat_lit 396,tN 709 ["name","pay"])::(nat_lit 397,tE)::(nat_lit 399,ag0)::(nat_lit 400,aiR)::(nat_lit 401,tE)::(nat_lit 403,tN 717 ["room"])::(nat_lit 404,tE)::(nat_lit 406,ahO)::(nat_lit 407,akJ)::(nat_lit 408,tE)::(nat_lit 410,tN 724 ["chance"])::(nat_lit 411,tE)::(nat_lit 413,ajq)::(nat_lit 414,alg)::(nat_lit 415,tE)::(nat_lit 418,alx)::(nat_lit 419,ajx)::(nat_lit 420,tE)::(nat_lit 423,ajW)::(nat_lit 424,alD)::(nat_lit 432,tE)::(nat_lit 434,tN 755 ["self","name","pay"])::(nat_lit 435,tE)::(nat_lit 437,aiC)::(nat_lit 438,ajn)::(nat_lit 439,tE)::(nat_lit 441,tN 764 ["self"])::(nat_lit 442,tE)::(nat_lit 444,cO "ways" "Door.ways" 761 268 1 3 439 765)::(nat_lit 445,ahh)::(nat_lit 446,tE)::(nat_lit 448,tN 771 ["self","room"])::(nat_lit 449,tE)::(nat_lit 451,ahZ)::(nat_lit 452,aiU)::(nat_lit 453,tN 776 ["leads","name","pay"])::(nat_lit 454,ajp P)::(nat_lit 455,akj)::(nat_lit 456,aht)::(nat_lit 457,alb)::(nat_lit 460,akZ)::(nat_lit 467,tE)::(nat_lit 469,tN 802 ["self","name","pay","room"])::(nat_lit 470,tE)::(nat_lit 472,akO)::(nat_lit 473,aiE)::(nat_lit 474,tN 809 ["leads"])::(nat_lit 475,akz P)::(nat_lit 476,alc)::(nat_lit 479,akl)::(nat_lit 486,tE)::(nat_lit 488,tN 829 ["self","name","pay","pairs"])::(nat_lit 489,tE)::(nat_lit 491,akc)::(nat_lit 492,ajv)::(nat_lit 493,tN 836 ["leads"])::(nat_lit 494,ahD P)::(nat_lit 495,alv)::(nat_lit 498,ai0)::(nat_lit 505,tE)::(nat_lit 507,akm)::(nat_lit 508,tE)::(nat_lit 510,aiS)::(nat_lit 511,ak3)::(nat_lit 512,tE)::(nat_lit 513,ald P)::(nat_lit 514,ajJ)::(nat_lit 517,ajH)::(nat_lit 524,tE)::(nat_lit 527,ahk)::(nat_lit 528,aiy)::(nat_lit 529,tE)::(nat_lit 530,ahz P)::(nat_lit 531,ajN)::(nat_lit 534,tE)::(nat_lit 536,tN 896 ["share"])::(nat_lit 537,tE)::(nat_lit 539,aik)::(nat_lit 540,akV)::(nat_lit 541,tE)::(nat_lit 543,tN 903 ["rooms","numbers","room","name"])::(nat_lit 544,tE)::(nat_lit 546,ah9)::(nat_lit 547,akI)::(nat_lit 548,tE)::(nat_lit 550,aho)::(nat_lit 551,tE)::(nat_lit 553,ahf)::(nat_lit 554,aiB)::(nat_lit 555,tE)::(nat_lit 557,aiK)::(nat_lit 558,tE)::(nat_lit 560,alz)::(nat_lit 561,aj2)::(nat_lit 569,tE)::(nat_lit 572,ahv)::(nat_lit 573,ahU)::(nat_lit 574,tE)::(nat_lit 576,tN 953 ["self"])::(nat_lit 577,tE)::(nat_lit 579,cO "size" "Hall.size" 950 331 1 3 574 954)::(nat_lit 580,alm)::(nat_lit 581,tE)::(nat_lit 583,tN 960 ["self"])::(nat_lit 584,tE)::(nat_lit 586,cO "names" "Hall.names" 957 334 1 3 581 961)::(nat_lit 587,akR)::(nat_lit 588,tE)::(nat_lit 590,tN 967 ["self","name"])::(nat_lit 591,tE)::(nat_lit 593,cO "place" "Hall.place" 964 337 2 3 588 969)::(nat_lit 594,alA)::(nat_lit 595,tE)::(nat_lit 597,tN 975 ["self","room"])::(nat_lit 598,tE)::(nat_lit 600,aiN)::(nat_lit 601,ajr)::(nat_lit 602,tE)::(nat_lit 604,tN 983 ["self","room","name"])::(nat_lit 605,tE)::(nat_lit 607,alB)::(nat_lit 608,akM)::(nat_lit 609,tE)::(nat_lit 612,ahR)::(nat_lit 613,ahp)::(nat_lit 614,tN 995 ["numbers","offered","share"])::(nat_lit 615,ak9 P)::(nat_lit 616,ahb)::(nat_lit 617,ai4)::(nat_lit 618,alG)::(nat_lit 621,tE)::(nat_lit 623,tN 1011 ["_law_script","_law_k"])::(nat_lit 624,tE)::(nat_lit 626,ai7)::(nat_lit 627,ahV)::(nat_lit 628,tE)::(nat_lit 630,ah6)::(nat_lit 631,tE)::(nat_lit 633,akX)::(nat_lit 634,ai9)::(nat_lit 635,tE)::(nat_lit 637,akt)::(nat_lit 638,tE)::(nat_lit 640,ahe)::(nat_lit 641,ahS)::(nat_lit 642,tE)::(nat_lit 644,ahu)::(nat_lit 645,tE)::(nat_lit 647,akT)::(nat_lit 648,ak6)::(nat_lit 649,tE)::(nat_lit 651,tN 1050 ["_law_found","_law_number"])::(nat_lit 652,tE)::(nat_lit 654,alq)::(nat_lit 655,akC)::(nat_lit 656,tE)::(nat_lit 659,aiw)::(nat_lit 660,aia)::(nat_lit 661,tE)::(nat_lit 663,tN 1064 ["_law_one","_law_other"])::(nat_lit 664,tE)::(nat_lit 666,aic)::(nat_lit 667,ahx)::(nat_lit 668,tE)::(nat_lit 671,ahn)::(nat_lit 672,ah2)::(nat_lit 673,tE)::(nat_lit 675,aiM)::(nat_lit 676,tE)::(nat_lit 678,ajh)::(nat_lit 679,ahq)::(nat_lit 680,tE)::(nat_lit 682,akf)::(nat_lit 683,tE)::(nat_lit 685,ajb)::(nat_lit 686,akK)::(nat_lit 687,tE)::(nat_lit 690,alF)::(nat_lit 691,ajV)::(nat_lit 692,tE)::(nat_lit 695,ajA)::(nat_lit 696,aj5)::(nat_lit 697,tE)::(nat_lit 700,ajS)::(nat_lit 701,alj)::(nat_lit 702,tE)::(nat_lit 705,akG)::(nat_lit 706,ag1)::(nat_lit 707,tE)::(nat_lit 709,aj9)::(nat_lit 710,tE)::(nat_lit 712,aiI)::(nat_lit 713,ahy)::(nat_lit 714,tE)::(nat_lit 716,ahT)::(nat_lit 717,tE)::(nat_lit 719,ahj)::(nat_lit 720,ajw)::(nat_lit 721,tE)::(nat_lit 723,tN 1145 ["_law_one","_law_other"])::(nat_lit 724,tE)::(nat_lit 726,aib)::(nat_lit 727,ai2)::(nat_lit 728,tE)::(nat_lit 730,akL)::(nat_lit 731,tE)::(nat_lit 733,aj3)::(nat_lit 734,agX)::(nat_lit 735,tE)::(nat_lit 737,tN 1165 ["_law_cell_here","_law_xs"])::(nat_lit 738,tE)::(nat_lit 740,ag7)::(nat_lit 741,ali)::(nat_lit 742,tE)::(nat_lit 744,alu)::(nat_lit 745,tE)::(nat_lit 747,aio)::(nat_lit 748,ahK)::(nat_lit 749,tE)::(nat_lit 751,tN 1184 ["_law_script","_law_xs"])::(nat_lit 752,tE)::(nat_lit 754,aj7)::(nat_lit 755,ajm)::(nat_lit 756,tE)::(nat_lit 759,alC)::(nat_lit 760,akQ)::(nat_lit 761,tE)::(nat_lit 763,tN 1198 ["_law_found","_law_doors_here"])::(nat_lit 764,tE)::(nat_lit 766,ah7)::(nat_lit 767,aiJ)::(nat_lit 768,tE)::(nat_lit 771,akP)::(nat_lit 772,ajk)::(nat_lit 773,tE)::(nat_lit 775,aiO)::(nat_lit 776,tE)::(nat_lit 778,ahL)::(nat_lit 779,ajF)::(nat_lit 780,tE)::(nat_lit 783,cP "_law_none_above" "_law_none_above" 1222 533 2 3 780 1225)::(nat_lit 784,fO "_law_none_above" "_law_none_above" (top 107) (.str "law_chancehall_k28_whole_no_plan_beats_it" 1006) 783)::(nat_lit 785,tE)::(nat_lit 787,tN 1231 ["_law_script","_law_share_here","_law_rooms_here","_law_hall_here","_law_best_here","_law_plan","_law_numbers","_law_cell_here","_law_found"])::(nat_lit 788,tE)::(nat_lit 790,cO "law" "law" 1228 535 1 3 785 1240)::(nat_lit 791,fO "law" "law" (top 108) (.str "law_chancehall_k28_whole_no_plan_beats_it" 1006) 790)::([] : List (Nat×Obj)))
noncomputable abbrev asH:List Nat:=[2,3,15,17,18,20,21,22,29,30,31,32,35,42,43,44,47,54,55,56,59,66,67,68,71,78,79,80,83,90,92,93,95,96,97,98,99,102,109,111,112,114,115,116,117,118,121,123,124,126,127,128,130,131,133,134,135,136,137,139,140,142,143,144,146,147,149,150,151,153,154,156,157,158,160,161,163,164,165,167,168,170,171,172,174,175,177,178,179,181,182,184,185,186,189,190,191,193,194,196,197,198,200,201,203,204,205,208,209,210,212,213,215,216,217,219,220,222,223,224,227,228,229,231,232,234,235,236,239,240,241,244,245,246,249,250,251,253,254,256,257,258,260,261,263,264,265,268,269,270,272,273,275,276,277,279,280,282,283,284,286,287,289,290,291,293,294,296,297,298,301,302,303,305,306,308,309,310,313,314,315,318,319,320,322,323,325,326,327,329,330,332,333,334,337,338,339,341,342,344,345,346,349,350,351,353,354,356,357,358,361,362,363,365,366,368,369,370,373,374,375,377,378,380,381,382,384,385,387,388,389,392,393,394,396,397,399,400,401,403,404,406,407,408,410,411,413,414,415,418,419,420,423,424,432,434,435,437,438,439,441,442,444,445,446,448,449,451,452,453,454,455,456,457,460,467,469,470,472,473,474,475,476,479,486,488,489,491,492,493,494,495,498,505,507,508,510,511,512,513,514,517,524,527,528,529,530,531,534,536,537,539,540,541,543,544,546,547,548,550,551,553,554,555,557,558,560,561,569,572,573,574,576,577,579,580,581,583,584,586,587,588,590,591,593,594,595,597,598,600,601,602,604,605,607,608,609,612,613,614,615,616,617,618,621,623,624,626,627,628,630,631,633,634,635,637,638,640,641,642,644,645,647,648,649,651,652,654,655,656,659,660,661,663,664,666,667,668,671,672,673,675,676,678,679,680,682,683,685,686,687,690,691,692,695,696,697,700,701,702,705,706,707,709,710,712,713,714,716,717,719,720,721,723,724,726,727,728,730,731,733,734,735,737,738,740,741,742,744,745,747,748,749,751,752,754,755,756,759,760,761,763,764,766,767,768,771,772,773,775,776,778,779,780,783,784,785,787,788,790,791]
end
def qv:Program:=view p [0,2,3,4,5,6,7,8,10,11,13,14,15,16,17,18,19,20,21,23,24,25,27,28,29,30,31,33,34,35,36,37,38,39,40,41,42,43,45,46,47,48,49,50,51,53,54,55,57,58,59,60,62,63,65,66,67,68,69,70,71,72,73,74,76,77,78,79,80,82,83,84,85,86,87,88,89,90,91,92,93,94,95,96,97,98,99,100,101,102,103,104,105,106,107,108]
noncomputable abbrev R:RowW:=PySem.Challenge.rw_chancehall_k28_whole_no_plan_beats_it.row.toRowW
def Xt(s:Shared):Bool:=xlAt qv [] s&&recOk R.records s
noncomputable def e:Pos:=⟨535,0,551,108⟩
set_option maxHeartbeats 0
theorem lko:looksOpen PySem.Challenge.rw_chancehall_k28_whole_no_plan_beats_it.row.prog=true:=by kernel_rfl
theorem wsd:PySem.Challenge.rw_chancehall_k28_whole_no_plan_beats_it.wellSaid=true:=by
 unfold OpenLaw.wellSaid OpenRow.wellSaid OpenRow.partSaid;rw[lko]
 kernel_rfl
theorem asK:∀P,asH=(KH P).map (·.1):=λ_=>by kernel_rfl
theorem pre(w:World):(λos=>topGo treeTable p w 11 ann 12 (S0 w os) (topStub p))=λos=>some (Sa w os,⟨denote treeTable (cE p),cE p,z,B⟩):=by
 rw[Fast.te15667345088766844465,Fast.te14364793385576792824,Fast.te11892475500146522536];kernel_rfl
theorem block(w:World):(λos=>segRun treeTable p w 11 ann 1 1 (Sa w os) (blockOf (behindTheImports p) (env p) (cE p) z B))=λos=>some (.next,(Sb w os).abs,cE p,z):=by
 rw[Fast.te14374325043358763698,Fast.te14364793385576792824];kernel_rfl
theorem aiH(w:World):(λos=>segRunT treeTable p w 11 ann 1 30000 (Sb w os) (piecesOf ((behindTheImports p).take 107) (env p) (cE p) z B))=λos=>some (.next,S1 w os,cE p,e1):=by
 rw[Fast.te10110043849684766642,Fast.te14364793385576792824];kernel_rfl
theorem comb{R S A B C X Y Z:Type _}{o:Option R}{f:R->A}{g:R->B}{k:R->C}{h:R->Option S}{f1:S->X}{f2:S->Y}{f3:S->Z}{a:A}{b:B}{c:C}{x:X}{y:Y}{z:Z}(h1:(o.map λr=>(f r,g r,k r,(h r).map f1))=some (a,b,c,some x))(h2:(o.map λr=>(f r,g r,k r,(h r).map f2))=some (a,b,c,some y))(h3:(o.map λr=>(f r,g r,k r,(h r).map f3))=some (a,b,c,some z)):(o.map λr=>(f r,g r,k r,(h r).map λs=>(f1 s,f2 s,f3 s)))=some (a,b,c,some (x,y,z)):=by
 cases o with
 |none=>cases h1
 |some r =>
  simp only[Option.map_some,Option.some.injEq,Prod.mk.injEq]at h1 h2 h3 ⊢;obtain⟨a1,a2,a3,a4⟩:=h1;obtain⟨_,_,_,b4⟩:=h2;obtain⟨_,_,_,c4⟩:=h3;cases hr:h r with
  |none=>rw[hr]at a4;cases a4
  |some s =>
   rw[hr]at a4 b4 c4;refine⟨a1,a2,a3,?_⟩;simp only[Option.map_some,Option.some.injEq]at a4 b4 c4 ⊢;rw[a4,b4,c4]
theorem alU{R S A B C X Y:Type _}{o:Option R}{f:R->A}{g:R->B}{k:R->C}{h:R->Option S}{f1:S->X}{f2:S->Y}{a:A}{b:B}{c:C}{x:X}{y:Y}(h1:(o.map λr=>(f r,g r,k r,(h r).map f1))=some (a,b,c,some x))(h2:(o.map λr=>(f r,g r,k r,(h r).map f2))=some (a,b,c,some y)):(o.map λr=>(f r,g r,k r,(h r).map λs=>(f1 s,f2 s)))=some (a,b,c,some (x,y)):=by
 cases o with
 |none=>cases h1
 |some r =>
  simp only[Option.map_some,Option.some.injEq,Prod.mk.injEq]at h1 h2 ⊢;obtain⟨a1,a2,a3,a4⟩:=h1;obtain⟨_,_,_,b4⟩:=h2;cases hr:h r with
  |none=>rw[hr]at a4;cases a4
  |some s =>
   rw[hr]at a4 b4;refine⟨a1,a2,a3,?_⟩;simp only[Option.map_some,Option.some.injEq]at a4 b4 ⊢;rw[a4,b4]
theorem sn0(w:World):(λos=>(segRunT treeTable p w 11 ann 1 50000 (S1 w os) (piecesOf ((behindTheImports p).drop 107) (env p) (cE p) e1 B)).map λr=>(r.1,r.2.2.1,r.2.2.2,(topRun treeTable p w 11 ann 2 r.2.1.abs ⟨doneF .next,cE p,e,B⟩).map λs=>(openSeen qv [] (importedModules p.main.body) Xt true s).1))=λ_=>some (.next,cE p,e,some ((openGood qv []).1)):=by
 rw[Fast.te10110043849684766642,Fast.te14364793385576792824,Fast.te14082659384304107361,Fast.te4187177175401517315,Fast.te5923862056798008813];kernel_rfl
theorem sn1(w:World):(λos=>(segRunT treeTable p w 11 ann 1 50000 (S1 w os) (piecesOf ((behindTheImports p).drop 107) (env p) (cE p) e1 B)).map λr=>(r.1,r.2.2.1,r.2.2.2,(topRun treeTable p w 11 ann 2 r.2.1.abs ⟨doneF .next,cE p,e,B⟩).map λs=>(openSeen qv [] (importedModules p.main.body) Xt true s).2))=λ_=>some (.next,cE p,e,some ((openGood qv []).2)):=by
 rw[Fast.te10110043849684766642,Fast.te14364793385576792824,Fast.te14082659384304107361];kernel_rfl
theorem alO(w:World):(λos=>(segRunT treeTable p w 11 ann 1 50000 (S1 w os) (piecesOf ((behindTheImports p).drop 107) (env p) (cE p) e1 B)).map λr=>(r.1,r.2.2.1,r.2.2.2,(topRun treeTable p w 11 ann 2 r.2.1.abs ⟨doneF .next,cE p,e,B⟩).map λs=>openSeen qv [] (importedModules p.main.body) Xt true s))=λ_=>some (.next,cE p,e,some (openGood qv [])):=funext λos=>alU (congrFun (sn0 w) os) (congrFun (sn1 w) os)
theorem anR(w:World):(λos=>(segRunT treeTable p w 11 ann 1 50000 (S1 w os) (piecesOf ((behindTheImports p).drop 107) (env p) (cE p) e1 B)).map λr=>(r.1,r.2.2.1,r.2.2.2,(topRun treeTable p w 11 ann 2 r.2.1.abs ⟨doneF .next,cE p,e,B⟩).map λs=>staticsOk (importedModules p.main.body) (boot_heap w.params) s.heap&&namesBound p s.heap&&gensDone s&&laidKept (boot_heap w.params) s.heap))=λ_=>some (.next,cE p,e,some (true)):=by
 rw[Fast.te10110043849684766642,Fast.te14364793385576792824,Fast.te14082659384304107361];kernel_rfl
theorem anw(w:World):(λos=>(segRunT treeTable p w 11 ann 1 50000 (S1 w os) (piecesOf ((behindTheImports p).drop 107) (env p) (cE p) e1 B)).map λr=>(r.1,r.2.2.1,r.2.2.2,(topRun treeTable p w 11 ann 2 r.2.1.abs ⟨doneF .next,cE p,e,B⟩).map λs=>asH.map s.heap.get?))=λ_=>some (.next,cE p,e,some ((KH w.params).map λp=>some p.2)):=by
 rw[Fast.te10110043849684766642,Fast.te14364793385576792824,Fast.te14082659384304107361];kernel_rfl
theorem big(w:World):(λos=>(segRunT treeTable p w 11 ann 1 50000 (S1 w os) (piecesOf ((behindTheImports p).drop 107) (env p) (cE p) e1 B)).map λr=>(r.1,r.2.2.1,r.2.2.2,(topRun treeTable p w 11 ann 2 r.2.1.abs ⟨doneF .next,cE p,e,B⟩).map λs=>(staticsOk (importedModules p.main.body) (boot_heap w.params) s.heap&&namesBound p s.heap&&gensDone s&&laidKept (boot_heap w.params) s.heap,openSeen qv [] (importedModules p.main.body) Xt true s,asH.map s.heap.get?)))=λ_=>some (.next,cE p,e,some (true,openGood qv [],(KH w.params).map λp=>some p.2)):=funext λos=>comb (congrFun (anR w) os) (congrFun (alO w) os) (congrFun (anw w) os)
theorem left:LeftO p qv [] Xt (λs=>asH.map s.heap.get?) (λw=>(KH w.params).map λp=>some p.2) 200000 :=
 YH (boot_open rfl rfl λ_=>rfl) pre block (λw os=>n_.cutAt (congrFun (aiH w) os) (n_.last (congrFun (big w) os))) rfl
theorem hX(s:Shared)(h:Xt s=true):XL qv [] (s.heap.nsMap mainGlobals) s.heap:=xl_of s (Bool.and_eq_true_iff.mp h).1
theorem hR(s:Shared)(h:Xt s=true):RecFacts R.records s.heap:=recFacts_of (Bool.and_eq_true_iff.mp h).2
end
end H28
noncomputable section
namespace L2
open PySem PySem.Spec PyProof.Rows
noncomputable abbrev Key:=Sum Int Str
noncomputable def BW:Key->Value->Bool
 |.inl k,v=>Value.isInt k v
 |.inr x,v=>Value.isStrOf x v
noncomputable def anQ(w:World):Key->Int
 |.inl k=>hashInt k
 |.inr x=>hashStr w x
theorem fM:∀{k:Key}{v:Value},BW k v=true->(∃i t,k=Sum.inl i/\v=Value.int i t)\/(∃x t,k=Sum.inr x/\v=Value.str x t)
 |.inl i,v,h=>by
  obtain⟨t,e⟩:=Value.isInt_shape (k:=i) (v:=v) h;exact .inl ⟨i,t,rfl,e⟩
 |.inr x,v,h=>by
  obtain⟨t,e⟩:=Value.isStrOf_shape (x:=x) (v:=v) h;exact .inr ⟨x,t,rfl,e⟩
theorem Xp(i:Int)(t:Tok):BW (.inl i) (.int i t)=true:=by simp[BW,Value.isInt]
theorem X6(x:Str)(t:Tok):BW (.inr x) (.str x t)=true:=by simp[BW,Value.isStrOf]
theorem ae0(a b:Int):decide ((Sum.inl a:Key)=Sum.inl b)=(a==b):=by
 by_cases e:a=b
 .subst e;simp
 .have h:¬(Sum.inl a:Key)=Sum.inl b:=λq=>e (Sum.inl.inj q);rw[Zp h];exact(beq_eq_false_iff_ne.mpr e).symm
theorem afA(a b:Str):decide ((Sum.inr a:Key)=Sum.inr b)=decide (a=b):=by
 by_cases e:a=b
 .subst e;simp
 .have h:¬(Sum.inr a:Key)=Sum.inr b:=λq=>e (Sum.inr.inj q);rw[Zp h,Zp e]
theorem agD(a:Int)(b:Str):decide ((Sum.inl a:Key)=Sum.inr b)=false:=Zp (λq=>nomatch q)
theorem agG(a:Str)(b:Int):decide ((Sum.inr a:Key)=Sum.inl b)=false:=Zp (λq=>nomatch q)
def iM(prog:Program)(w:World):PySem.KeyKind prog w Key where
 is:=BW
 hash:=anQ w
 inj:=λv a b ha hb=>by
  rcases fM ha with⟨i,t,rfl,rfl⟩|⟨x,t,rfl,rfl⟩
  .rcases fM hb with⟨j,u,rfl,e⟩|⟨y,u,rfl,e⟩
   .injection e with e1 _;rw[e1]
   .exact nomatch e
  .rcases fM hb with⟨j,u,rfl,e⟩|⟨y,u,rfl,e⟩
   .exact nomatch e
   .injection e with e1 _;rw[e1]
 byValue:=λk v h=>by
  rcases fM h with⟨i,t,rfl,rfl⟩|⟨x,t,rfl,rfl⟩<;>rfl
 pyHash:=λhv h=>by
  rcases fM hv with⟨i,t,rfl,rfl⟩|⟨x,t,rfl,rfl⟩
  .exact wpAny_pyHash_int h
  .exact wpAny_pyHash_str h
 eqBool:=λhu hv h=>by
  rcases fM hu with⟨i,t,rfl,rfl⟩|⟨x,t,rfl,rfl⟩
  .rcases fM hv with⟨j,u,rfl,rfl⟩|⟨y,u,rfl,rfl⟩
   .rw[ae0]at h;exact wpAny_eqBool_int h
   .rw[agD]at h;exact SeqAt.EqAt.int_str i t y u _ _ _ _ h
  .rcases fM hv with⟨j,u,rfl,rfl⟩|⟨y,u,rfl,rfl⟩
   .rw[agG]at h;exact SeqAt.EqAt.str_int x t j u _ _ _ _ h
   .rw[afA]at h;exact wpAny_eqBool_str h
 «strs»:=λk x t v h=>by
  rcases fM h with⟨i,u,rfl,e⟩|⟨y,u,rfl,e⟩
  .exact nomatch e
  .injection e with e1 _;subst e1;cases v<;>rfl
theorem QV(prog:Program)(w:World)(i:Int)(t:Tok):(iM prog w).is (.inl i) (.int i t)=true:=Xp i t
theorem Tr(prog:Program)(w:World)(x:Str)(t:Tok):(iM prog w).is (.inr x) (.str x t)=true:=X6 x t
inductive V where
 |non|bl (b:Bool)|int (i:Int)|str (x:Str)|byt (b:Array UInt8)|flt (b:UInt64)|ref (a:Addr)|ty (n:String)
 deriving DecidableEq
noncomputable abbrev Ζ:=List V
def RelV:V->Value->Prop
 |.non,u=>u=Value.none
 |.bl b,u=>u=Value.bool b
 |.int i,u=>∃t,u=Value.int i t
 |.str x,u=>∃t,u=Value.str x t
 |.byt b,u=>∃t,u=Value.bytes b t
 |.flt b,u=>∃t,u=Value.float b t
 |.ref a,u=>u=Value.ref a
 |.ty n,u=>u=Value.type n
abbrev Vals:Ζ->Θ->Prop:=Paired RelV
theorem Vals.length{xs:Ζ}{us:Θ}(r:Vals xs us):xs.length=us.length:=Paired.length r
theorem Vals.get:∀{xs:Ζ}{us:Θ}{i:Nat}{x:V},Vals xs us->xs[i]?=some x->∃u,us[i]?=some u/\RelV x u
 |_,_,_,_,.nil,e=>by simp at e
 |_,_,0,_,.cons r _,e=>by simp at e;subst e;exact⟨_,rfl,r⟩
 |_,_,i+1,x,.cons _ t,e=>by
  obtain⟨u,h1,h2⟩:=Vals.get (i:=i) (x:=x) t (by simpa using e);exact⟨u,by simpa using h1,h2⟩
theorem Vals.set{x:V}{u:Value}(r:RelV x u):∀{xs:Ζ}{us:Θ}(i:Nat),Vals xs us->Vals (xs.set i x) (us.set i u)
 |_,_,_,.nil=>.nil
 |_,_,0,.cons _ t=>.cons r t
 |_,_,i+1,.cons q t=>.cons q (Vals.set r i t)
theorem Vals.append:∀{xs ys:Ζ}{us ws:Θ},Vals xs us->Vals ys ws->Vals (xs++ys) (us++ws)
 |_,_,_,_,.nil,s=>s
 |_,_,_,_,.cons r t,s=>.cons r (Vals.append t s)
theorem Vals.take:∀{xs:Ζ}{us:Θ}(n:Nat),Vals xs us->Vals (xs.take n) (us.take n)
 |_,_,0,_=>.nil
 |_,_,_+1,.nil=>.nil
 |_,_,n+1,.cons r t=>.cons r (Vals.take n t)
theorem Vals.drop:∀{xs:Ζ}{us:Θ}(n:Nat),Vals xs us->Vals (xs.drop n) (us.drop n)
 |_,_,0,r=>r
 |_,_,_+1,.nil=>.nil
 |_,_,n+1,.cons _ t=>Vals.drop n t
def zE:Option V->Ω->Prop
 |some v,some u=>RelV v u
 |none,none=>True
 |_,_=>False
def KV{κ:Type} : List (κ×V)->List (κ×Value)->Prop:=Paired λ(p:κ×V)(q:κ×Value)=>p.1=q.1/\RelV p.2 q.2
noncomputable def kV:Key->V
 |.inl i=>.int i
 |.inr x=>.str x
inductive HO where
  |lst (xs:Ζ)
  |tup (xs:Ζ)
  |dK (kvs:List (Key×V))
  |set (S:Int->Bool) (n:Nat)
  |ins (C dx:Addr) (fs:List (Str×V))
  |own (x:Addr)
  |xd (fs:List (Str×V))
  |met (f x:Addr)
  |rng (lo hi:Int)
  |frz (o:Obj) (u:HO)
  |tbl (ps:Array Value)
  |ext (φ:Heap->Prop)
noncomputable abbrev Hp:=Addr->Option HO
noncomputable def upd(H:Hp)(a:Addr)(o:HO):Hp:=λb=>if b=a then some o else H b
theorem cM{H:Hp}{a:Addr}{o:HO} : upd H a o a=some o:=by unfold upd;rw[ZY rfl]
theorem cD{H:Hp}{a b:Addr}{o:HO}(h:b≠a):upd H a o b=H b:=by unfold upd;rw[ZZ h]
theorem ahC{H:Hp}{a b:Addr}{o u:HO}(h:H a=some o)(h':H b=some u)(d:o≠u):a≠b:=by
 intro e;subst e;rw[h]at h';exact d (Option.some.inj h')
theorem lW{H:Hp}{a b:Addr}{o:HO}(h:H a=some o)(h':H b=none):a≠b:=by
 intro e;subst e;rw[h]at h';cases h'
section
variable(P:Program)(w:World)
def gk(H:Hp)(h:Heap)(a:Addr):HO->Prop
 |.lst xs=>xs.length<=sizeLine/\∃(its:Θ)(n:Nat),Vals xs its/\h.get? a=some { cls:=.type "list",data:=.seq its.toArray n }
 |.tup xs=>xs.length<=sizeLine/\∃its:Θ,Vals xs its/\IsTup h a its.toArray
 |.dK kvs=>kvs.length<=sizeLine/\(a==sysModules)=false/\∃vs,KV kvs vs/\h.DictOf (iM P w) a vs
 |.set S n=>h.SetOf (intKind P w) a S n
 |.ins C dx fs=>H dx=some (.own a)/\fs.length<=1000/\dx≠a/\h.get? a=some (instObj C dx) /\
   ∃mA,h.Ns1 dx mA/\(∀f,zE (fs.lookup f) (mA f))/\PySem.Within mA (fs.map (·.1))
 |.own _=>∃o,h.get? a=some o
 |.xd fs=>∃mA,h.Ns1 a mA/\∀f,zE (fs.lookup f) (mA f)
 |.rng lo hi=>∃t u v,h.get? a=some { cls:=.type "range",data:=.fields #[.int lo t,.int hi u,.int 1 v] }
 |.frz o u=>h.get? a=some o/\gk H h a u
 |.tbl ps=>h.get? a=some { cls:=.none,data:=.fields ps }
 |.met f x=>h.get? a=some (methodObj (.ref f) (.ref x))
 |.ext φ=>φ h/\(∃o,h.get? a=some o)/\∀h1 h2:Heap,φ h1->(∀o,h1.get? a=some o->h2.get? a=some o)->φ h2
def HOk(H:Hp)(h:Heap):Prop:=∀a o,H a=some o->gk P w H h a o
end
section
variable{P:Program}{w:World}{H H':Hp}{h h':Heap}{a:Addr}{o:HO}
theorem gk.lt(x:gk P w H h a o):a<h.objs.size:=by
 cases o with
 |lst xs=>obtain⟨_,_,_,_,e⟩:=x;exact aK e
 |tup xs=>obtain⟨_,_,_,p⟩:=x;exact p.lt
 |dK kvs=>obtain⟨_,_,_,_,o,_,_,e,_⟩:=x;exact aK e
 |set S n=>obtain⟨o,_,_,_,e,_⟩:=x;exact aK e
 |ins C dx fs=>obtain⟨_,_,_,e,_⟩:=x;exact aK e
 |own y=>obtain⟨_,e⟩:=x;exact aK e
 |xd fs=>obtain⟨_,⟨_,_,_,e,_⟩,_⟩:=x;exact aK e
 |rng lo hi=>obtain⟨_,_,_,e⟩:=x;exact aK e
 |frz ob u=>obtain⟨e,_⟩:=x;exact aK e
 |tbl ps=>exact aK (show h.get? a=some _ from x)
 |met f y=>exact aK (show h.get? a=some _ from x)
 |ext φ=>obtain⟨_,⟨_,e⟩,_⟩:=x;exact aK e
theorem gk.stay(x:gk P w H h a o)(k:∀b u,(b=a\/H b=some (.own a))->h.get? b=some u->h'.get? b=some u)
 (ho:∀b,H b=some (.own a)->H' b=some (.own a))(ht:∀b xs,H b=some (.tup xs)->H' b=some (.tup xs)):gk P w H' h' a o:=by
 induction o with
 |lst xs=>obtain⟨z,its,n,r,e⟩:=x;exact⟨z,its,n,r,k _ _ (.inl rfl) e⟩
 |tup xs=>obtain⟨z,its,r,ob,e,c⟩:=x;exact⟨z,its,r,ob,k _ _ (.inl rfl) e,c⟩
 |dK kvs=>obtain⟨z,y,vs,r,ob,es,ep,e,c⟩:=x;exact⟨z,y,vs,r,ob,es,ep,k _ _ (.inl rfl) e,c⟩
 |set S n=>obtain⟨ob,es,ep,t,e,c⟩:=x;exact⟨ob,es,ep,t,k _ _ (.inl rfl) e,c⟩
 |ins C dx fs =>
  obtain⟨d,z,ne,e,mA,⟨od,es,ep,e2,c⟩,r⟩:=x;exact⟨ho _ d,z,ne,k _ _ (.inl rfl) e,mA,⟨od,es,ep,k _ _ (.inr d) e2,c⟩,r⟩
 |own y=>obtain⟨ob,e⟩:=x;exact⟨ob,k _ _ (.inl rfl) e⟩
 |xd fs=>obtain⟨mA,⟨od,es,ep,e,c⟩,r⟩:=x;exact⟨mA,⟨od,es,ep,k _ _ (.inl rfl) e,c⟩,r⟩
 |rng lo hi=>obtain⟨t,u,v,e⟩:=x;exact⟨t,u,v,k _ _ (.inl rfl) e⟩
 |frz ob u ih=>obtain⟨e,q⟩:=x;exact⟨k _ _ (.inl rfl) e,ih q⟩
 |tbl ps =>
  have e:h.get? a=some { cls:=.none,data:=.fields ps }:=x;show h'.get? a=some { cls:=.none,data:=.fields ps };exact k a _ (.inl rfl) e
 |met f y =>
  have e:h.get? a=some (methodObj (.ref f) (.ref y)):=x;show h'.get? a=some (methodObj (.ref f) (.ref y));exact k a _ (.inl rfl) e
 |ext φ=>obtain⟨p,⟨o,e⟩,st⟩:=x;exact⟨st _ _ p λo q=>k _ _ (.inl rfl) q,⟨o,k _ _ (.inl rfl) e⟩,st⟩
theorem HOk.lt(x:HOk P w H h)(e:H a=some o):a<h.objs.size:=(x a o e).lt
theorem HOk.fresh(x:HOk P w H h)(e:h.objs.size<=a):H a=none:=by
 cases q:H a with
 |none=>rfl
 |some u=>exact absurd (aR (x.lt q) e) (X9 _)
theorem HOk.kept(x:HOk P w H h)(k:∀b u,h.get? b=some u->h'.get? b=some u):HOk P w H h':=λa o e =>
 (x a o e).stay (λb u _ q=>k b u q) (λ_ q=>q) λ_ _ q=>q
theorem HOk.laid(x:HOk P w H h)(k:∀b u,h.get? b=some u->h'.get? b=some u)(hp:h.objs.size<=a)(new:gk P w (upd H a o) h' a o):HOk P w (upd H a o) h':=λb u e=>by
 have hn:=x.fresh hp;by_cases hb:b=a
 .subst hb;rw[cM]at e;cases e;exact new
 .rw[cD hb]at e;exact(x b u e).stay (λc v _ q=>k c v q) (λc q=>by rw[cD (lW q hn)];exact q) λc xs q=>by rw[cD (lW q hn)];exact q
end
def Rd(H:Hp)(a:Addr)(u:HO):Prop:=H a=some u\/∃o,H a=some (.frz o u)
theorem Rd.ok{P:Program}{w:World}{H:Hp}{h:Heap}{a:Addr}{u:HO}(r:Rd H a u)(x:HOk P w H h):gk P w H h a u:=by
 rcases r with r|⟨o,r⟩
 .exact x a u r
 .obtain⟨_,q⟩:=x a _ r;exact q
def Mut:Option HO->Prop
 |some (.lst _)=>True
 |some (.dK _)=>True
 |some (.set _ _)=>True
 |some (.ins _ _ _)=>True
 |some (.ext _)=>True
 |_=>False
section
variable{P:Program}{w:World}{H:Hp}{h h':Heap}{x e:Addr}{o':HO}
theorem HOk.write(ok:HOk P w H h)(mu:Mut (H x))(he:e=x\/H e=some (.own x))(k:∀b u,b≠e->h.get? b=some u->h'.get? b=some u)(hV:∃u,h'.get? e=some u)
 (new:gk P w (upd H x o') h' x o'):HOk P w (upd H x o') h':=λb u q=>by
 have ia:∀c y,H c=some (.own y)->c≠x:=λc y r z=>by subst z;rw[r]at mu;exact mu
 have kx:∀c xs,H c=some (.tup xs)->c≠x:=λc xs r z=>by subst z;rw[r]at mu;exact mu
 by_cases hb:b=x
 .subst hb;rw[cM]at q;cases q;exact new
 .rw[cD hb]at q;by_cases hbe:b=e
  .have q':H b=some (.own x):=by
    rcases he with z|z
    .exact absurd (hbe.trans z) hb
    .rw[hbe];exact z
   rw[q]at q';cases q';obtain⟨v,hv⟩:=hV;exact⟨v,by rw[hbe];exact hv⟩
  .refine(ok b u q).stay (λc v hc r=>k c v ?_ r) (λc r=>by rw[cD (ia c b r)];exact r) λc xs r=>by rw[cD (kx c xs r)];exact r
   rcases hc with rfl|hc
   .exact hbe
   .rintro rfl;rcases he with z|z
    .exact ia c b hc z
    .rw[hc]at z;cases z;exact hb rfl
end
structure Un(fs ex:Ψ)(H H':Hp)(h h':Heap):Prop where
 keep:∀b o,h.get? b=some o->H b=none->b∉fs->b∉ex->h'.get? b=some o
 slot:∀b o,h.get? b=some o->H b=none->b∈fs->b∉ex->∃sl,h'.get? b=some { o with slots:=sl }
 free:∀b o,h.get? b=some o->H b=none->b∉ex->H' b=none
 there:∀b o,h.get? b=some o->b∉ex->∃o',h'.get? b=some o'
 tups:∀b xs,H b=some (.tup xs)->H' b=some (.tup xs)
 frzs:∀b o u,H b=some (.frz o u)->H' b=some (.frz o u)
 tbls:∀b ps,H b=some (.tbl ps)->∃more,H' b=some (.tbl (ps++more))
section
variable{fs fs' ex ex':Ψ}{H H1 H2:Hp}{h h1 h2 h':Heap}{a x e:Addr}{o:HO}
theorem Un.any(u:Un fs ex H H1 h h1){b:Addr}{ob:Obj}(q:h.get? b=some ob)(n:H b=none)(hx:b∉ex):∃sl,h1.get? b=some { ob with slots:=sl }:=by
 by_cases hb:b∈fs
 .exact u.slot b ob q n hb hx
 .exact⟨ob.slots,u.keep b ob q n hb hx⟩
theorem Un.kept(k:∀b u,h.get? b=some u->h'.get? b=some u):Un fs ex H H h h' :=
 ⟨λb ob q _ _ _=>k b ob q,λb ob q _ _ _=>⟨ob.slots,k b ob q⟩,λ_ _ _ n _=>n,λb ob q _=>⟨ob,k b ob q⟩,λ_ _ q=>q,λ_ _ _ q=>q,λ_ ps q=>⟨#[],by rw[q];simp⟩⟩
theorem Un.refl:Un fs ex H H h h:=Un.kept λ_ _ q=>q
theorem Un.laid(k:∀b u,h.get? b=some u->h'.get? b=some u)(hp:h.objs.size<=a)(hn:H a=none):Un fs ex H (upd H a o) h h' where
 keep:=λb u q _ _ _=>k b u q
 slot:=λb u q _ _ _=>⟨u.slots,k b u q⟩
 free:=λb u q n _=>by rw[cD (aQ (aR (aK q) hp))];exact n
 there:=λb u q _=>⟨u,k b u q⟩
 tups:=λb xs q=>by rw[cD (lW q hn)];exact q
 frzs:=λb u xs q=>by rw[cD (lW q hn)];exact q
 tbls:=λb ps q=>⟨#[],by rw[cD (lW q hn),q];simp⟩
theorem Un.write(mu:Mut (H x))(he:e=x\/H e=some (.own x))(k:∀b u,b≠e->h.get? b=some u->h'.get? b=some u)(hV:∃u,h'.get? e=some u):Un fs ex H (upd H x o) h h':=by
 have hx:∀b,H b=none->b≠x:=λb n z=>by subst z;rw[n]at mu;exact mu
 have hb:∀b,H b=none->b≠e:=λb n z=>by
  subst z;rcases he with r|r
  .exact hx b n r
  .rw[n]at r;cases r
 have hm:∀b u,H b=some u->¬Mut (some u)->b≠x:=λb u q nm z=>by subst z;rw[q]at mu;exact nm mu
 refine⟨λb u q n _ _=>k b u (hb b n) q,λb u q n _ _=>⟨u.slots,k b u (hb b n) q⟩,λb u q n _=>by rw[cD (hx b n)];exact n,λb u q _=>?_,
  λb xs q=>by rw[cD (hm b _ q λz=>z)];exact q,λb u xs q=>by rw[cD (hm b _ q λz=>z)];exact q,λb ps q=>⟨#[],by rw[cD (hm b _ q λz=>z),q];simp⟩⟩
 by_cases hbe:b=e
 .subst hbe;exact hV
 .exact⟨u,k b u hbe q⟩
end
noncomputable def trk(h:Heap)(H:Hp):Ψ:=(List.range h.objs.size).filter λa=>(H a).isSome
def Mj(h:Heap)(H:Hp):Heap:=PySem.W.hideAll h (trk h H)
theorem Yg(h:Heap)(H:Hp):(Mj h H).objs.size=h.objs.size:=PySem.W.hideAll_size _ _
theorem Z4{h:Heap}{H:Hp}{b:Addr}{o:Obj}(e:h.get? b=some o)(n:H b=none):(Mj h H).get? b=some o :=
 PySem.W.hideAll_get _ e λhm=>by
  have q:(H b).isSome=true:=(List.mem_filter.mp hm).2;rw[n]at q;simp at q
theorem abX{h:Heap}{H:Hp}{b:Addr}{o:Obj}(e:(Mj h H).get? b=some o):h.get? b=some o/\H b=none:=by
 have e':h.get? b=some o:=PySem.W.of_hideAll (trk h H) e;refine⟨e',?_⟩;cases q:H b with
 |none=>rfl
 |some x =>
  have hm:b∈trk h H:=List.mem_filter.mpr ⟨List.mem_range.mpr (aK e'),by simp[q]⟩;have z:(Mj h H).get? b=none:=PySem.W.hideAll_none (trk h H) hm;rw[z]at e;cases e
noncomputable def adb(g h:Heap)(L:Addr):Δ:=(List.range h.objs.size).filterMap λa=>if a=L\/(g.get? a).isSome=true then none else(h.get? a).map λo=>(a,o)
def rest(g h:Heap)(L d:Addr):Δ:=(adb g h L).filter λp=>decide (p.1≠d)
structure Mod(K:Frag)(mg:Str->Ω)(base:Heap):Prop where
 kin:K.In base
 glob:base.Ns mainGlobals mg
 blt:∃mb,base.Ns builtinsNs mb/\∀x:Str,x≠"__name__"->mb x=bootBuiltins x
 nolimit:base.NoLimit
structure Cx where
 prog:Program
 w:World
 K:Frag
 mg:Str->Ω
 base:Heap
 A:Around
 N:Φ
 s₀:Shared
 H₀:Hp
 env:Env
 outer:List Env
 stack:List Env
 ex:Ψ
 fn:Str->Bool
 calm:Bool
 pn:Δ
 xe:Ε
noncomputable def frs(l:List Env):Ψ:=l.filterMap (·.frame)
abbrev Cx.fs(X:Cx):Ψ:=frs X.outer
def Vis(sc:Scope)(x:Str):Prop:=sc.names.lookup x=some .local\/sc.names.lookup x=some .cell\/sc.names.lookup x=some .free
def Loc(sc:Scope)(x:Str):Prop:=sc.names.lookup x=some .local\/sc.names.lookup x=some .cell
def Look(env:Env)(h:Heap)(m:Str->Ω)(x:Str)(u:Value):Prop :=
 (env.kindOf x=some .local/\m x=some u)\/((env.kindOf x=some .cell\/env.kindOf x=some .free)/\∃c,env.cells.lookup x=some c/\h.IsCell c (some u))
structure Cx.Ok(X:Cx):Prop where
 mod:Mod X.K X.mg X.base
 kind:X.env.scope.kind=.function
 glob:X.env.globals=mainGlobals
 blt:X.env.builtins=builtinsNs
 above:X.s₀.heap.objs.size<=X.env.locals
 inj:∀x y c,X.env.cells.lookup x=some c->X.env.cells.lookup y=some c->x=y
 has:∀x,(X.env.kindOf x=some .cell\/X.env.kindOf x=some .free)->∃c,X.env.cells.lookup x=some c
 cab:∀x c,X.fn x=true->X.env.cells.lookup x=some c->X.s₀.heap.objs.size<=c
 hd:X.calm=true->X.A.handled=none
 frames:X.A.frames=some X.stack
 stk:X.stack=X.outer\/(X.stack=X.env::X.outer/\X.env.frame=some X.env.locals)
 exf:∀b∈X.ex,b≠X.env.locals/\∀x c,X.env.cells.lookup x=some c->c≠b
 bs:∀b o,X.base.get? b=some o->X.s₀.heap.get? b=some o/\X.H₀ b=none
 bsz:X.base.objs.size<=X.s₀.heap.objs.size
 noex:∀b o,X.base.get? b=some o->b∉X.ex
 exfs:∀b∈X.ex,b∉X.fs
 funs:X.s₀.heap.FunFrames X.base X.outer
 frf:∀b∈X.fs,X.H₀ b=none
structure Inv(X:Cx)(aa:Δ)(σ:List (Option V))(H:Hp)(s:Shared):Prop where
 ok:X.Ok
 os:s.os=X.s₀.os
 bare:AllBare s.gens
 base:Un X.fs X.ex X.H₀ H X.s₀.heap s.heap
 loc:∃m,s.heap.Ns X.env.locals m/\∀(i:Nat)(x:Str)(v:V),X.N[i]?=some x->σ[i]?=some (some v)->Vis X.env.scope x->∃u,RelV v u/\Look X.env s.heap m x u
 cell:∀x c,X.env.cells.lookup x=some c->∃v,s.heap.IsCell c v
 free:H X.env.locals=none
 freeC:∀x c,X.env.cells.lookup x=some c->H c=none
 pin:∀p∈X.pn++aa,s.heap.get? p.1=some p.2/\H p.1=none/\p.1≠X.env.locals/\p.1∉X.fs/\∀v,p.2.data≠.cell v
 hok:HOk X.prog X.w H s.heap
 len:σ.length=X.N.length
section
variable{X:Cx}{aa:Δ}{σ:List (Option V)}{H H':Hp}{s:Shared}{h':Heap}
theorem Cx.Ok.nofr(ok:X.Ok){b:Addr}{o:Obj}(e:X.base.get? b=some o):b∉X.fs:=λhb=>by
 have:=(ok.funs.mem hb).1;rw[e]at this;cases this
theorem Inv.bs(I:Inv X aa σ H s):∀b o,X.base.get? b=some o->s.heap.get? b=some o/\H b=none:=λb o e =>
 ⟨I.base.keep b o (I.ok.bs b o e).1 (I.ok.bs b o e).2 (I.ok.nofr e) (I.ok.noex b o e),I.base.free b o (I.ok.bs b o e).1 (I.ok.bs b o e).2 (I.ok.noex b o e)⟩
theorem Inv.bk(I:Inv X aa σ H s):∀b o,X.base.get? b=some o->s.heap.get? b=some o:=λb o e=>(I.bs b o e).1
theorem Inv.mod(I:Inv X aa σ H s):Mod X.K X.mg X.base:=I.ok.mod
theorem Inv.kIn(I:Inv X aa σ H s):X.K.In s.heap:=I.ok.mod.kin.keeps I.bk
theorem Inv.lt(I:Inv X aa σ H s):X.env.locals<s.heap.objs.size:=by obtain⟨_,hn,_⟩:=I.loc;exact hn.lt
theorem Inv.sz(I:Inv X aa σ H s):X.s₀.heap.objs.size<=s.heap.objs.size:=aL I.ok.above (Y2 I.lt)
theorem Inv.nofs(I:Inv X aa σ H s){a:Addr}(h:s.heap.objs.size<=a):a∉X.fs:=λhb=>by
 obtain⟨_,o,ho,_⟩:=I.ok.funs.mem hb;exact absurd (aR (aK ho) (aL I.sz h)) (X9 _)
theorem Inv.cne(I:Inv X aa σ H s):∀x c,X.env.cells.lookup x=some c->c≠X.env.locals:=λx c e z=>by
 obtain⟨v,o,ho,hd⟩:=I.cell x c e;obtain⟨m,⟨o',es,ep,di,bu,_⟩,_⟩:=I.loc;rw[z,di]at ho;cases ho;rw[bu]at hd;cases hd
theorem Inv.funs(I:Inv X aa σ H s):s.heap.FunFrames X.base X.outer:=by
 have all:∀(l:List Env),(∀b∈frs l,b∈X.fs)->X.s₀.heap.FunFrames X.base l->s.heap.FunFrames X.base l:=by
  intro l
  induction l with
  |nil=>intro _ _;trivial
  |cons env r ih =>
   intro hs hl;obtain⟨hk,⟨L,o,hf,hn,ho,hd⟩,hr⟩:=hl;have hL:L∈X.fs:=hs L (by unfold frs;rw[List.filterMap_cons,hf];exact aO);obtain⟨sl,e⟩:=I.base.slot L o ho (I.ok.frf L hL) hL λz=>I.ok.exfs L z hL;exact⟨hk,⟨L,_,hf,hn,e,hd⟩,ih (λb hb=>hs b (by unfold frs;rw[List.filterMap_cons,hf];exact aJ _ hb)) hr⟩
 exact all X.outer (λ_ hb=>hb) I.ok.funs
theorem Inv.stack(I:Inv X aa σ H s):s.heap.FunFrames X.base X.stack:=by
 rcases I.ok.stk with e|⟨e,hf⟩
 .rw[e];exact I.funs
 .rw[e];obtain⟨m,hn,_⟩:=I.loc;refine .cons (by rw[I.ok.kind];decide) hf hn ?_ I.funs;exact Heap.get?_none_of_le (aL I.ok.bsz I.ok.above)
theorem Inv.stkSub(I:Inv X aa σ H s):∀b∈frs X.stack,b∈X.env.locals::X.fs:=λb hb=>by
 rcases I.ok.stk with e|⟨e,hf⟩
 .rw[e]at hb;exact aJ _ hb
 .rw[e]at hb;unfold frs at hb;rw[List.filterMap_cons,hf]at hb;exact hb
theorem Inv.stkFree(I:Inv X aa σ H s):∀b∈frs X.stack,H b=none:=λb hb=>by
 rcases YU.mp (I.stkSub b hb)with e|hb
 .rw[e];exact I.free
 .obtain⟨_,o,ho,_⟩:=I.ok.funs.mem hb;exact I.base.free b o ho (I.ok.frf b hb) λz=>I.ok.exfs b z hb
theorem Inv.step{g':Array GenState}{t':Nat}{d':Drawn}{ch:Ψ}(I:Inv X aa σ H s)
 (fq:∀b∈ch,(b∈X.ex\/X.s₀.heap.objs.size<=b)/\b≠X.env.locals/\(∀x c,X.env.cells.lookup x=some c->c≠b)/\∀p∈X.pn++aa,p.1≠b)
 (keep:∀b o,b≠X.env.locals->b∉X.fs->b∉ch->s.heap.get? b=some o->H b=none->h'.get? b=some o)
 (slot:∀b o,b≠X.env.locals->b∈X.fs->b∉ch->s.heap.get? b=some o->H b=none->∃sl,h'.get? b=some { o with slots:=sl })(free:∀b o,b∉ch->s.heap.get? b=some o->H b=none->H' b=none)
 (there:∀b o,b∉ch->s.heap.get? b=some o->∃o',h'.get? b=some o')
 (tups:∀b xs,H b=some (.tup xs)->H' b=some (.tup xs))(frzs:∀b o u,H b=some (.frz o u)->H' b=some (.frz o u))(tbls:∀b ps,H b=some (.tbl ps)->∃more,H' b=some (.tbl (ps++more)))
 (ns:∀m,s.heap.Ns X.env.locals m->h'.Ns X.env.locals m)(hok:HOk X.prog X.w H' h')(hg:AllBare g') :
  Inv X aa σ H' { s with heap:=h',gens:=g',drawn:=d',toks:=t' }:=by
 have neL:∀b o,X.s₀.heap.get? b=some o->b≠X.env.locals:=λb o e=>aQ (aR (aK e) I.ok.above);have js:∀b o,X.s₀.heap.get? b=some o->b∉X.ex->b∉ch:=λb o e hx hb=>by
  rcases(fq b hb).1 with z|z
  .exact hx z
  .exact absurd (aR (aK e) z) (X9 _)
 have gm:∀x c,X.env.cells.lookup x=some c->∀v,s.heap.IsCell c v->h'.IsCell c v:=λx c e v hP=>by
  obtain⟨o,ho,hd⟩:=hP;have ie:c∉ch:=λz=>(fq c z).2.2.1 x c e rfl;by_cases hc:c∈X.fs
  .obtain⟨sl,q⟩:=slot c o (I.cne x c e) hc ie ho (I.freeC x c e);exact⟨_,q,hd⟩
  .exact⟨o,keep c o (I.cne x c e) hc ie ho (I.freeC x c e),hd⟩
 refine⟨I.ok,I.os,hg,⟨λb o e n hb hx=>?_,λb o e n hb hx=>?_,λb o e n hx=>?_,λb o e hx=>?_,λb xs e=>tups b xs (I.base.tups b xs e),λb o xs e=>frzs b o xs (I.base.frzs b o xs e),λb ps e=>?_⟩,?_,λx c e=>?_,?_,λx c e=>?_,λp hp=>?_,hok,I.len⟩
 .exact keep b o (neL b o e) hb (js b o e hx) (I.base.keep b o e n hb hx) (I.base.free b o e n hx)
 .obtain⟨sl,e1⟩:=I.base.slot b o e n hb hx;obtain⟨sl',e2⟩:=slot b _ (neL b o e) hb (js b o e hx) e1 (I.base.free b o e n hx);exact⟨sl',e2⟩
 .obtain⟨o',e1⟩:=I.base.there b o e hx;exact free b o' (js b o e hx) e1 (I.base.free b o e n hx)
 .obtain⟨o',e1⟩:=I.base.there b o e hx;exact there b o' (js b o e hx) e1
 .obtain⟨m1,e1⟩:=I.base.tbls b ps e;obtain⟨m2,e2⟩:=tbls b _ e1;exact⟨m1++m2,by rw[e2,Array.append_assoc]⟩
 .obtain⟨m,hn,hl⟩:=I.loc;refine⟨m,ns m hn,λi x v e1 e2 e3=>?_⟩;obtain⟨u,r,l⟩:=hl i x v e1 e2 e3;refine⟨u,r,?_⟩;rcases l with l|⟨k,c,e,z⟩
  .exact .inl l
  .exact .inr ⟨k,c,e,gm x c e _ z⟩
 .obtain⟨v,z⟩:=I.cell x c e;exact⟨v,gm x c e v z⟩
 .obtain⟨m,⟨o,_,_,ho,_⟩,_⟩:=I.loc;exact free _ o (λz=>(fq _ z).2.1 rfl) ho I.free
 .obtain⟨v,o,ho,hd⟩:=I.cell x c e;exact free c o (λz=>(fq c z).2.2.1 x c e rfl) ho (I.freeC x c e)
 .obtain⟨e,n,ne,nf,d⟩:=I.pin p hp;have ie:p.1∉ch:=λz=>(fq p.1 z).2.2.2 p hp rfl;exact⟨keep p.1 p.2 ne nf ie e n,free p.1 p.2 ie e n,ne,nf,d⟩
theorem Inv.un{t':Nat}(I:Inv X aa σ H s)(u:Un X.fs [] H H' s.heap h')(hok:HOk X.prog X.w H' h'):Inv X aa σ H' { s with heap:=h',toks:=t' }:=by
 obtain⟨m,⟨o,es,ep,ho,r⟩,_⟩:=id I.loc;obtain⟨sl,hL⟩:=u.any ho I.free (by simp);exact I.step (g':=s.gens) (d':=s.drawn) (ch:=[]) (λ_ z=>nomatch z) (λb o _ hb _ e n=>u.keep b o e n hb (by simp)) (λb o _ hb _ e n=>u.slot b o e n hb (by simp)) (λb o _ e n=>u.free b o e n (by simp)) (λb o _ e=>u.there b o e (by simp)) u.tups u.frzs u.tbls (λm' hm=>by
  obtain⟨o',l6,l7,di,r'⟩:=hm;rw[ho]at di;cases di;exact⟨_,l6,l7,hL,r'⟩) hok I.bare
theorem Inv.call{g':Array GenState}{t':Nat}{d':Drawn}{ch:Ψ}(I:Inv X aa σ H s)(u:Un (frs X.stack) ch H H' s.heap h')(hok:HOk X.prog X.w H' h')(hg:AllBare g')
 (fq:∀b∈ch,(b∈X.ex\/X.s₀.heap.objs.size<=b)/\b≠X.env.locals/\(∀x c,X.env.cells.lookup x=some c->c≠b)/\∀p∈X.pn++aa,p.1≠b) :
  Inv X aa σ H' { s with heap:=h',gens:=g',drawn:=d',toks:=t' }:=by
 obtain⟨m,⟨o,es,ep,ho,r⟩,_⟩:=id I.loc;obtain⟨sl,hL⟩:=u.any ho I.free λz=>(fq _ z).2.1 rfl;exact I.step (ch:=ch) fq (λb o hL hb hc e n=>u.keep b o e n (λz=>(YU.mp (I.stkSub b z)).elim hL hb) hc) (λb o _ _ hc e n=>u.any e n hc) (λb o hc e n=>u.free b o e n hc) (λb o hc e=>u.there b o e hc) u.tups u.frzs u.tbls (λm' hm=>by
  obtain⟨o',l6,l7,di,r'⟩:=hm;rw[ho]at di;cases di;exact⟨_,l6,l7,hL,r'⟩) hok hg
theorem Inv.turned{t':Nat}{it:Addr}(I:Inv X aa σ H s)(k:∀b o,b≠it->s.heap.get? b=some o->h'.get? b=some o)(hn:H it=none)(hL:it≠X.env.locals)
 (h1:it∈X.ex\/X.s₀.heap.objs.size<=it)(h2:∀x c,X.env.cells.lookup x=some c->c≠it)(h3:∀p∈X.pn++aa,p.1≠it):Inv X aa σ H { s with heap:=h',toks:=t' }:=by
 have ic:∀b u,H b=some u->b≠it:=λb u e z=>by rw[z,hn]at e;cases e
 refine I.step (g':=s.gens) (d':=s.drawn) (ch:=[it]) (λb hb=>?_) (λb o _ _ hc e _=>k b o (λz=>hc (by simp[z])) e) (λb o _ _ hc e _=>⟨o.slots,k b o (λz=>hc (by simp[z])) e⟩) (λ_ _ _ _ n=>n)
  (λb o hc e=>⟨o,k b o (λz=>hc (by simp[z])) e⟩) (λ_ _ e=>e) (λ_ _ _ e=>e) (λb ps e=>⟨#[],by rw[e];simp⟩) (λm hm=>?_) (λb u e=>?_) I.bare
 .have e:b=it:=by simpa using hb
  subst e;exact⟨h1,hL,h2,h3⟩
 .obtain⟨o,es,ep,ho,r⟩:=hm;exact⟨o,es,ep,k _ o (Ne.symm hL) ho,r⟩
 .refine(I.hok b u e).stay (λc v hc q=>k c v ?_ q) (λ_ q=>q) λ_ _ q=>q;rcases hc with z|z
  .rw[z];exact ic b u e
  .exact ic c _ z
theorem Inv.tok(I:Inv X aa σ H s)(t:Nat):Inv X aa σ H { s with toks:=t }:=I.un (h':=s.heap) (t':=t) Un.refl I.hok
theorem Inv.kept{t':Nat}(I:Inv X aa σ H s)(k:∀b u,s.heap.get? b=some u->h'.get? b=some u):Inv X aa σ H { s with heap:=h',toks:=t' }:=I.un (Un.kept k) (I.hok.kept k)
theorem Inv.laid{a:Addr}{o:HO}{t':Nat}(I:Inv X aa σ H s)(k:∀b u,s.heap.get? b=some u->h'.get? b=some u)(hp:s.heap.objs.size<=a)(new:gk X.prog X.w (upd H a o) h' a o) :
  Inv X aa σ (upd H a o) { s with heap:=h',toks:=t' }:=I.un (Un.laid k hp (I.hok.fresh hp)) (I.hok.laid k hp new)
theorem Inv.write{x e:Addr}{o:HO}{t':Nat}(I:Inv X aa σ H s)(mu:Mut (H x))(he:e=x\/H e=some (.own x))(k:∀b u,b≠e->s.heap.get? b=some u->h'.get? b=some u)(hV:∃u,h'.get? e=some u)
 (new:gk X.prog X.w (upd H x o) h' x o):Inv X aa σ (upd H x o) { s with heap:=h',toks:=t' }:=I.un (Un.write mu he k hV) (I.hok.write mu he k hV new)
theorem Inv.pins_of{fS:Δ}(I:Inv X aa σ H s)(h:∀p∈fS,s.heap.get? p.1=some p.2/\H p.1=none/\p.1≠X.env.locals/\p.1∉X.fs/\∀v,p.2.data≠.cell v):Inv X fS σ H s :=
 ⟨I.ok,I.os,I.bare,I.base,I.loc,I.cell,I.free,I.freeC,λp hp=>(Y1.mp hp).elim (λz=>I.pin p (Tu _ z)) (h p),I.hok,I.len⟩
theorem RJ{N:Φ}(hN:N.Nodup){i j:Nat}{x:Str}(a:N[i]?=some x)(b:N[j]?=some x):i=j:=by
 obtain⟨h1,e1⟩:=ao.mp a;obtain⟨h2,e2⟩:=ao.mp b;exact(List.getElem_inj hN).mp (e1.trans e2.symm)
theorem YG{M:Model}{A:Around}{E:Ε}{i:Nat}{x:Str}{v:V}{u:Value}{Q:Unit->Shared->Prop}(I:Inv X aa σ H s)(hN:X.N.Nodup)(hi:X.N[i]?=some x)(hx:Loc X.env.scope x)(r:RelV v u)
 (h:∀s',Inv X aa (σ.set i (some v)) H s'->(∃a,Heap.SameBut a s.heap s'.heap/\(a=X.env.locals\/X.env.cells.lookup x=some a))->Q () s')(hf:X.fn x=true\/X.env.scope.names.lookup x=some .local):wpAny M A (storeName X.env x u) Q E s:=by
 obtain⟨m,hn,hl⟩:=id I.loc;have k7:(X.env.scope.kind == .class || (X.env.scope.kind == .module&&X.env.locals != X.env.globals))=false:=by rw[I.ok.kind];rfl
 have hiσ:i<σ.length:=by rw[I.len];exact(ao.mp hi).1
 have cne:=I.cne;have dC:∀{a:Addr}{h':Heap},(∃o,s.heap.get? a=some o/\H a=none)->Heap.SameBut a s.heap h'->HOk X.prog X.w H h':=λ{a h'}ha hs b ob e=>by
  obtain⟨_,_,b9⟩:=ha;refine(I.hok b ob e).stay (λc w' hc q=>(hs.2 c ?_).trans q) (λ_ q=>q) λ_ _ q=>q;rintro rfl;rcases hc with rfl|hc
  .rw[b9]at e;cases e
  .rw[b9]at hc;cases hc
 rcases hx with hk|hk
 .refine wpAny_storeName_local hk hn (λh' hn' hs=>?_) k7;obtain⟨oL,_,_,hoL,_⟩:=id hn;refine h _ ⟨I.ok,I.os,I.bare,⟨λb o e n hb hx=>?_,λb o e n hb hx=>?_,I.base.free,λb o e hx=>?_,I.base.tups,I.base.frzs,I.base.tbls⟩,⟨_,hn',λj y v' e1 e2 e3=>?_⟩,λy c e=>?_,I.free,I.freeC,λp hp=>?_,dC ⟨oL,hoL,I.free⟩ hs,by simpa using I.len⟩ ⟨_,hs,.inl rfl⟩
  .exact(hs.2 b (aQ (aR (aK e) I.ok.above))).trans (I.base.keep b o e n hb hx)
  .obtain⟨sl,e1⟩:=I.base.slot b o e n hb hx;exact⟨sl,(hs.2 b (aQ (aR (aK e) I.ok.above))).trans e1⟩
  .obtain⟨o',e1⟩:=I.base.there b o e hx;exact⟨o',(hs.2 b (aQ (aR (aK e) I.ok.above))).trans e1⟩
  .by_cases hj:j=i
   .subst hj;rw[hi]at e1;cases e1;rw[Ts hiσ]at e2;cases e2;exact⟨u,r,.inl ⟨hk,by simp⟩⟩
   .rw[UQ (Ne.symm hj)]at e2;obtain⟨u',r',q⟩:=hl j y v' e1 e2 e3;refine⟨u',r',?_⟩;rcases q with⟨k,e⟩|⟨k,c,e,z⟩
    .refine .inl ⟨k,?_⟩;have:y≠x:=λe=>hj (RJ hN e1 (e ▸ hi));simp[this,e]
    .exact .inr ⟨k,c,e,z.sameBut hs (cne y c e)⟩
  .obtain⟨w',z⟩:=I.cell y c e;exact⟨w',z.sameBut hs (cne y c e)⟩
  .obtain⟨e,n,ne,nf,d⟩:=I.pin p hp;exact⟨(hs.2 p.1 ne).trans e,n,ne,nf,d⟩
 .have iP:X.fn x=true:=by
   rcases hf with z|z
   .exact z
   .rw[z]at hk;cases hk
  obtain⟨c,hc⟩:=I.ok.has x (.inl hk);obtain⟨w',z⟩:=I.cell x c hc;refine wpAny_storeName_cell I.ok.kind hk hc z (λh' dq hs=>?_);obtain⟨oc,hoc,kN⟩:=id z;refine h { s with heap:=h' } ⟨I.ok,I.os,I.bare,⟨λb o e n hb hx=>?_,λb o e n hb hx=>?_,I.base.free,λb o e hx=>?_,I.base.tups,I.base.frzs,I.base.tbls⟩,⟨m,hn.sameBut hs (Ne.symm (cne x c hc)),λj y v' e1 e2 e3=>?_⟩,λy c' e=>?_,I.free,I.freeC,λp hp=>?_,dC ⟨oc,hoc,I.freeC x c hc⟩ hs,by simpa using I.len⟩ ⟨c,hs,.inr hc⟩
  .exact(hs.2 b (aQ (aR (aK e) (I.ok.cab x c iP hc)))).trans (I.base.keep b o e n hb hx)
  .obtain⟨sl,e1⟩:=I.base.slot b o e n hb hx;exact⟨sl,(hs.2 b (aQ (aR (aK e) (I.ok.cab x c iP hc)))).trans e1⟩
  .obtain⟨o',e1⟩:=I.base.there b o e hx;exact⟨o',(hs.2 b (aQ (aR (aK e) (I.ok.cab x c iP hc)))).trans e1⟩
  .by_cases hj:j=i
   .subst hj;rw[hi]at e1;cases e1;rw[Ts hiσ]at e2;cases e2;exact⟨u,r,.inr ⟨.inl hk,c,hc,dq⟩⟩
   .rw[UQ (Ne.symm hj)]at e2;obtain⟨u',r',q⟩:=hl j y v' e1 e2 e3;refine⟨u',r',?_⟩;rcases q with q|⟨k,c',e,z'⟩
    .exact .inl q
    .refine .inr ⟨k,c',e,z'.sameBut hs ?_⟩;rintro rfl;exact hj (RJ hN e1 (I.ok.inj _ _ _ e hc ▸ hi))
  .by_cases j':c'=c
   .subst j';exact⟨_,dq⟩
   .obtain⟨w2,z2⟩:=I.cell y c' e;exact⟨w2,z2.sameBut hs j'⟩
  .obtain⟨e,n,ne,nf,d⟩:=I.pin p hp;refine⟨(hs.2 p.1 ?_).trans e,n,ne,nf,d⟩;intro q;rw[q,hoc]at e;have q':oc=p.2:=Option.some.inj e;exact d w' (by rw[<- q'];exact kN)
theorem v9{M:Model}{A:Around}{E:Ε}{i:Nat}{x:Str}{v:V}{u:Value}{Q:Unit->Shared->Prop}(I:Inv X aa σ H s)(hN:X.N.Nodup)(hi:X.N[i]?=some x)(hx:Loc X.env.scope x)(r:RelV v u)
 (h:∀s',Inv X aa (σ.set i (some v)) H s'->Q () s')(hf:X.fn x=true\/X.env.scope.names.lookup x=some .local:=by first|exact .inl rfl|exact .inr rfl|assumption):wpAny M A (storeName X.env x u) Q E s :=
 YG I hN hi hx r (λs' I' _=>h s' I') hf
theorem Inv.call'{s':Shared}{ch:Ψ}(I:Inv X aa σ H s)(ho:s'.os=s.os)(u:Un (frs X.stack) ch H H' s.heap s'.heap)(hok:HOk X.prog X.w H' s'.heap)(hg:AllBare s'.gens)
 (fq:∀b∈ch,(b∈X.ex\/X.s₀.heap.objs.size<=b)/\b≠X.env.locals/\(∀x c,X.env.cells.lookup x=some c->c≠b)/\∀p∈X.pn++aa,p.1≠b):Inv X aa σ H' s':=by
 obtain⟨h',g',d',t',o'⟩:=s';have e:o'=s.os:=ho;subst e;exact I.call (g':=g') (t':=t') (d':=d') u hok hg fq
end
abbrev XK:=Value->Ξ->Hp->Prop
noncomputable abbrev St:=List (Option V)
abbrev VK:=V->Hp->Prop
abbrev TE:=St->Hp->VK->Prop
abbrev TT:=St->Hp->(Bool->Hp->Prop)->Prop
abbrev TA:=St->Hp->(Ζ->Hp->Prop)->Prop
structure Ends where
 nx:St->Hp->Prop
 rt:VK
 bk:St->Hp->Prop:=λ_ _=>False
 ct:St->Hp->Prop:=λ_ _=>False
abbrev TS:=Ends->St->Hp->Prop
def EP(X:Cx)(aa:Δ)(σ:St)(Q:VK)(u:Value)(s':Shared):Prop:=∃v H',Inv X aa σ H' s'/\RelV v u/\Q v H'
def TP(X:Cx)(aa:Δ)(σ:St)(Q:Bool->Hp->Prop)(b:Bool)(s':Shared):Prop:=∃H',Inv X aa σ H' s'/\Q b H'
def AP(X:Cx)(aa:Δ)(σ:St)(Q:Ζ->Hp->Prop)(us:Θ)(s':Shared):Prop:=∃vs H',Inv X aa σ H' s'/\Vals vs us/\Q vs H'
def SP(X:Cx)(aa:Δ)(D:Ends)(f:Flow)(s':Shared):Prop :=
 match f with
 |.next=>∃σ' H',Inv X aa σ' H' s'/\D.nx σ' H'
 |.brk=>∃σ' H',Inv X aa σ' H' s'/\D.bk σ' H'
 |.cont=>∃σ' H',Inv X aa σ' H' s'/\D.ct σ' H'
 |.ret u=>∃v σ' H',Inv X aa σ' H' s'/\RelV v u/\D.rt v H'
def PE(X:Cx)(e:Expr)(t:TE):Prop :=
 ∀(aa:Δ)(s:Shared)(σ:St)(H:Hp)(Q:VK),Inv X aa σ H s->t σ H Q->wpAny (model X.prog X.w) X.A (eval e X.env) (EP X aa σ Q) X.xe s
def PT(X:Cx)(e:Expr)(t:TT):Prop :=
 ∀(aa:Δ)(s:Shared)(σ:St)(H:Hp)(Q:Bool->Hp->Prop),Inv X aa σ H s->t σ H Q->wpAny (model X.prog X.w) X.A (isTrue e X.env (eval e X.env)) (TP X aa σ Q) X.xe s
def PW(X:Cx)(e:Expr)(t:TT):Prop :=
 ∀(ck:Sem Value)(aa:Δ)(s:Shared)(σ:St)(H:Hp)(Q:Bool->Hp->Prop),Inv X aa σ H s->t σ H Q->wpAny (model X.prog X.w) X.A (isTrue e X.env ck) (TP X aa σ Q) X.xe s
theorem PW.pt{X:Cx}{e:Expr}{t:TT}(h:PW X e t):PT X e t:=h _
def PA(X:Cx)(es:List Expr)(t:TA):Prop :=
 ∀(pos:Pos)(aa:Δ)(s:Shared)(σ:St)(H:Hp)(Q:Ζ->Hp->Prop),Inv X aa σ H s->t σ H Q->wpAny (model X.prog X.w) X.A (spliced (backTo pos (starEach es X.env))) (AP X aa σ Q) X.xe s
def PS(X:Cx)(st:Stmt)(t:TS):Prop :=
 ∀(aa:Δ)(s:Shared)(σ:St)(H:Hp)(D:Ends),Inv X aa σ H s->t D σ H->wpAny (model X.prog X.w) X.A (exec st X.env) (SP X aa D) X.xe s
def PSs(X:Cx)(st:List Stmt)(t:TS):Prop :=
 ∀(aa:Δ)(s:Shared)(σ:St)(H:Hp)(D:Ends),Inv X aa σ H s->t D σ H->wpAny (model X.prog X.w) X.A (execs st X.env) (SP X aa D) X.xe s
theorem thn{α:Type}{t:Sem α}{Q Q':α->Shared->Prop}{M:Model}{A:Around}{E:Ε}{s:Shared}(h:wpAny M A t Q E s)(hQ:∀a s,Q a s->Q' a s):wpAny M A t Q' E s:=wpAny_mono h hQ λ_ _ x=>x
section
variable{X:Cx}
def ajM(i:Nat):TE:=λσ H Q=>∃v,σ[i]?=some (some v)/\Q v H
def tC(v:V):TE:=λ_ H Q=>Q v H
theorem agr{i:Nat}{x:Str}{pos:Pos}(hN:X.N[i]?=some x)(hv:Vis X.env.scope x)(hd:(x==("__debug__":Str))=false:=by decide)(be:(x==("__classdict__":Str))=false:=by decide):PE X (.Name x pos) (ajM i):=by
 intro aa s σ H Q I h;obtain⟨v,e,h⟩:=h;obtain⟨m,hn,hl⟩:=I.loc;obtain⟨u,r,l⟩:=hl i x v hN e hv;have bn:EP X aa σ Q u s:=⟨v,H,I,r,h⟩;rcases l with⟨hk,hm⟩|⟨hk,c,hc,cK⟩
 .exact wpAny_Name (wpAny_loadName_local I.ok.kind hk hn hm bn) hd
 .rcases hk with hk|hk
  .exact wpAny_Name (wpAny_loadName_cell I.ok.kind hk hc cK bn) hd
  .exact wpAny_Name (wpAny_loadName_free I.ok.kind hk hc cK bn be) hd
theorem agk{i j pos} : PE X (.Constant (.int i) j pos) (tC (.int i)):=λ_ _ _ H _ I h=>wpAny_Constant_int ⟨.int i,H,I.tok _,⟨_,rfl⟩,h⟩
theorem alf{b j pos} : PE X (.Constant (.bool b) j pos) (tC (.bl b)):=λ_ _ _ H _ I h=>Constant_bool ⟨.bl b,H,I,rfl,h⟩
theorem agl{j pos} : PE X (.Constant .none j pos) (tC .non):=λ_ _ _ H _ I h=>Constant_none ⟨.non,H,I,rfl,h⟩
theorem ae5{x j pos} : PE X (.Constant (.str x) j pos) (tC (.str x)):=λ_ _ _ H _ I h=>Calls.Constant_str ⟨.str x,H,I.tok _,⟨_,rfl⟩,h⟩
def Gl(X:Cx)(x:Str):Prop:=X.env.kindOf x=some .globalImplicit
theorem GD{E:Ε}{aa:Δ}{s:Shared}{σ:St}{H:Hp}{x:Str}{u:Value}{pos:Pos}{Q:Ε}(I:Inv X aa σ H s)(hg:Gl X x)(hm:X.mg x=some u)(h:Q u s)
 (hd:(x==("__debug__":Str))=false:=by decide):wpAny (model X.prog X.w) X.A (eval (.Name x pos) X.env) Q E s :=
 Calls.Name_function_global I.ok.kind hg (Calls.loadGlobal_global (by rw[I.ok.glob];exact I.mod.glob.keeps I.bk) hm h) hd
theorem Ai{E:Ε}{aa:Δ}{s:Shared}{σ:St}{H:Hp}{x:Str}{u:Value}{pos:Pos}{Q:Ε}(I:Inv X aa σ H s)(hg:Gl X x)(hm:X.mg x=none)(hv:bootBuiltins x=some u)(h:Q u s)
 (hn:x≠"__name__":=by decide)(hd:(x==("__debug__":Str))=false:=by decide):wpAny (model X.prog X.w) X.A (eval (.Name x pos) X.env) Q E s:=by
 obtain⟨mb,h1,h2⟩:=I.mod.blt;exact Calls.Name_function_global I.ok.kind hg (Calls.loadGlobal_builtin (by rw[I.ok.glob];exact I.mod.glob.keeps I.bk) hm (by rw[I.ok.blt];exact h1.keeps I.bk) ((h2 x hn).trans hv) h) hd
theorem W9{x:Str}{v:V}{u:Value}{pos:Pos}(hg:Gl X x)(hm:X.mg x=some u)(r:RelV v u)(hd:(x==("__debug__":Str))=false:=by decide):PE X (.Name x pos) (tC v) :=
 λ_ _ _ H _ I h=>GD I hg hm ⟨v,H,I,r,h⟩ hd
theorem adI{x:Str}{v:V}{u:Value}{pos:Pos}(hg:Gl X x)(hm:X.mg x=none)(hv:bootBuiltins x=some u)(r:RelV v u)(hn:x≠"__name__":=by decide)(hd:(x==("__debug__":Str))=false:=by decide):PE X (.Name x pos) (tC v) :=
 λ_ _ _ H _ I h=>Ai I hg hm hv ⟨v,H,I,r,h⟩ hn hd
variable{a b:Expr}{ta tb:TE}{pos:Pos}
def PC(X:Cx)(op:CmpOp)(a b:Expr)(t:TE):Prop :=
 ∀(aa:Δ)(s:Shared)(σ:St)(H:Hp)(Q:VK),Inv X aa σ H s->t σ H Q ->
  wpAny (model X.prog X.w) X.A (eval a X.env) (λv s₁=>wpAny (model X.prog X.w) X.A (eval b X.env) (λu s₂=>wpAny (model X.prog X.w) X.A (compareOp op v u) (EP X aa σ Q) X.xe s₂) X.xe s₁) X.xe s
def tB(t:TE):TT:=λσ H Q=>t σ H λx H1=>∃c,x=.bl c/\Q c H1
theorem aa0{op:CmpOp}{t:TE}(h:PC X op a b t)(h1:behindInMarks op b=false:=by rfl):PT X (.Compare a [op] [b] pos) (tB t):=by
 intro aa s σ H Q I hw;refine wpAny_isTrue_Compare1 (thn (h aa s σ H _ I hw) λv s1 h1=>thn h1 λu s2 h2=>thn h2 λc s3 hP=>?_) h1;obtain⟨x,H1,I1,r1,q1⟩:=hP;obtain⟨d,rfl,q⟩:=q1;cases r1;exact wpAny_truthy_bool ⟨H1,I1,q⟩
variable{tA jn:TT}{rest:List Expr}
def amI(t u:TT):TT:=λσ H Q=>t σ H λc H1=>if c=true then u σ H1 Q else Q false H1
def tOr(t u:TT):TT:=λσ H Q=>t σ H λc H1=>if c=true then Q true H1 else u σ H1 Q
def alS(t:TT):TT:=λσ H Q=>t σ H λc H1=>Q (!c) H1
theorem pw_and1(ha:PT X a tA):PW X (.BoolOp .And [a] pos) tA:=by
 intro wh aa s σ H Q I h;refine isTrue_and (thn (ha aa s σ H Q I h) λc s1 e=>?_);cases c with
 |true=>exact isTrue_and_nil e
 |false=>exact e
theorem pw_or1(ha:PT X a tA):PW X (.BoolOp .Or [a] pos) tA:=by
 intro wh aa s σ H Q I h;refine isTrue_or (thn (ha aa s σ H Q I h) λc s1 e=>?_);cases c with
 |false=>exact isTrue_or_nil e
 |true=>exact e
theorem pw_and(ha:PT X a tA)(hb:PW X (.BoolOp .And (b::rest) pos) jn):PW X (.BoolOp .And (a::b::rest) pos) (amI tA jn):=by
 intro wh aa s σ H Q I h;refine isTrue_and (thn (ha aa s σ H _ I h) λc s1 hP=>?_);obtain⟨H1,I1,q1⟩:=hP;cases c with
 |true=>exact hb wh aa s1 σ H1 Q I1 q1
 |false=>exact⟨H1,I1,q1⟩
theorem pw_or(ha:PT X a tA)(hb:PW X (.BoolOp .Or (b::rest) pos) jn):PW X (.BoolOp .Or (a::b::rest) pos) (tOr tA jn):=by
 intro wh aa s σ H Q I h;refine isTrue_or (thn (ha aa s σ H _ I h) λc s1 hP=>?_);obtain⟨H1,I1,q1⟩:=hP;cases c with
 |true=>exact⟨H1,I1,q1⟩
 |false=>exact hb wh aa s1 σ H1 Q I1 q1
theorem ae7(ha:PT X a tA):PT X (.UnaryOp .Not a pos) (alS tA):=by
 intro aa s σ H Q I h;exact isTrue_not (ha aa s σ H (λc H1=>Q (!c) H1) I h)
def aiV(ta tb:TE):TE:=λσ H Q=>ta σ H λx H1=>∃c,x=.bl c/\if c=true then tb σ H1 Q else Q (.bl false) H1
def agS(ta:TE):TE:=λσ H Q=>ta σ H λx H1=>∃c,x=.bl c/\Q (.bl (!c)) H1
theorem afc{op}{t:TE}(h:PE X a t):PE X (.BoolOp op [a] pos) t:=λaa s σ H Q I hw=>BoolOp_one (h aa s σ H Q I hw)
theorem afb(ha:PE X a ta)(hb:PE X (.BoolOp .And (b::rest) pos) tb):PE X (.BoolOp .And (a::b::rest) pos) (aiV ta tb):=by
 intro aa s σ H Q I h;refine BoolOp_and (thn (ha aa s σ H _ I h) λv s1 hP=>?_);obtain⟨x,H1,I1,r1,q1⟩:=hP;obtain⟨c,rfl,q1⟩:=q1;cases r1;refine wpAny_truthy_bool ?_;cases c with
 |true=>exact hb aa s1 σ H1 Q I1 q1
 |false=>exact⟨.bl false,H1,I1,rfl,q1⟩
theorem afp(ha:PE X a ta):PE X (.UnaryOp .Not a pos) (agS ta):=by
 intro aa s σ H Q I h;refine UnaryOp_ (thn (ha aa s σ H _ I h) λv s1 hP=>?_);obtain⟨x,H1,I1,r1,q1⟩:=hP;obtain⟨c,rfl,q1⟩:=q1;cases r1;exact not_of (wpAny_truthy_bool ⟨.bl (!c),H1,I1,rfl,q1⟩)
def tIf(t:TT)(ta tb:TE):TE:=λσ H Q=>t σ H λc H1=>if c=true then ta σ H1 Q else tb σ H1 Q
theorem aar{c:Expr}(hc:PT X c tA)(ha:PE X a ta)(hb:PE X b tb):PE X (.IfExp c a b pos) (tIf tA ta tb):=by
 intro aa s σ H Q I h;refine wpAny_IfExp (thn (hc aa s σ H _ I h) λd s1 hP=>?_);obtain⟨H1,I1,q1⟩:=hP;cases d with
 |true=>exact ha aa s1 σ H1 Q I1 q1
 |false=>exact hb aa s1 σ H1 Q I1 q1
end
def SqL(K:Frag)(H:Hp)(a:Addr)(xs:Ζ):Prop :=
 Rd H a (.lst xs) \/
  ∃(o:Obj)(its:Array Value)(n:Nat),K.lookup a=some o/\o.cls=.type "list"/\o.dict=none/\o.data=.seq its n/\its.size<=sizeLine/\Vals xs its.toList
def SqT(K:Frag)(H:Hp)(a:Addr)(xs:Ζ):Prop :=
 Rd H a (.tup xs) \/
  ∃(o:Obj)(its:Array Value)(n:Nat),K.lookup a=some o/\o.cls=.type "tuple"/\o.data=.seq its n/\its.size<=sizeLine/\Vals xs its.toList
noncomputable def al3:Value->Option V
 |.none=>some .non
 |.bool b=>some (.bl b)
 |.int i _=>some (.int i)
 |.str x _=>some (.str x)
 |.bytes b _=>some (.byt b)
 |.float b _=>some (.flt b)
 |.ref a=>some (.ref a)
 |.type n=>some (.ty n)
 |_=>none
theorem RelV.abs{x:V}{u:Value}(r:RelV x u):al3 u=some x:=by
 cases x with
 |non=>cases r;rfl
 |bl _=>cases r;rfl
 |int _=>obtain⟨t,rfl⟩:=r;rfl
 |str _=>obtain⟨t,rfl⟩:=r;rfl
 |byt _=>obtain⟨t,rfl⟩:=r;rfl
 |flt _=>obtain⟨t,rfl⟩:=r;rfl
 |ref _=>cases r;rfl
 |ty _=>cases r;rfl
theorem RelV.inj{x y:V}{u:Value}(r:RelV x u)(q:RelV y u):x=y:=Option.some.inj (r.abs.symm.trans q.abs)
theorem Vals.inj:∀{xs ys:Ζ}{us:Θ},Vals xs us->Vals ys us->xs=ys
 |_,_,_,.nil,.nil=>rfl
 |_,_,_,.cons r t,.cons r' t'=>by rw[r.inj r',Vals.inj t t']
section
variable{X:Cx}{aa:Δ}{σ:St}{H:Hp}{s:Shared}{a:Addr}{xs ys:Ζ}
theorem SqL.of{K:Frag}(h:H a=some (.lst xs)):SqL K H a xs:=.inl (.inl h)
theorem SqT.of{K:Frag}(h:H a=some (.tup xs)):SqT K H a xs:=.inl (.inl h)
theorem Inv.list(I:Inv X aa σ H s)(h:SqL X.K H a xs):∃its:Θ,Vals xs its/\PlainL s.heap a its.toArray/\xs.length<=sizeLine:=by
 rcases h with h|⟨o,its,n,hk,hc,hd,hs,hz,r⟩
 .obtain⟨z,its,n,r,e⟩:=h.ok I.hok;exact⟨its,r,⟨_,n,e,rfl,rfl,rfl⟩,z⟩
 .refine⟨its.toList,r,⟨o,n,I.kIn a o hk,hc,hd,by simpa using hs⟩,?_⟩;have e:=r.length;simp only[Array.length_toList]at e;exact aL (WG e) hz
theorem Inv.tuple(I:Inv X aa σ H s)(h:SqT X.K H a xs):∃its:Θ,Vals xs its/\IsTup s.heap a its.toArray/\xs.length<=sizeLine:=by
 rcases h with h|⟨o,its,n,hk,hc,hs,hz,r⟩
 .obtain⟨z,its,r,p⟩:=h.ok I.hok;exact⟨its,r,p,z⟩
 .refine⟨its.toList,r,⟨o,I.kIn a o hk,hc,n,by simpa using hs⟩,?_⟩;have e:=r.length;simp only[Array.length_toList]at e;exact aL (WG e) hz
theorem Inv.list_inj(I:Inv X aa σ H s)(h:SqL X.K H a xs)(h':SqL X.K H a ys):xs=ys:=by
 obtain⟨its,r,⟨o,n,e,_,_,d⟩,_⟩:=I.list h;obtain⟨its',r',⟨o',n',e',_,_,d'⟩,_⟩:=I.list h';rw[e]at e';cases e';rw[d]at d';injection d' with d1 _;have:its=its':=by simpa using ZH Array.toList d1
 subst this;exact r.inj r'
theorem Inv.tuple_inj(I:Inv X aa σ H s)(h:SqT X.K H a xs)(h':SqT X.K H a ys):xs=ys:=by
 obtain⟨its,r,⟨o,e,_,n,d⟩,_⟩:=I.tuple h;obtain⟨its',r',⟨o',e',_,n',d'⟩,_⟩:=I.tuple h';rw[e]at e';cases e';rw[d]at d';injection d' with d1 _;have:its=its':=by simpa using ZH Array.toList d1
 subst this;exact r.inj r'
end
noncomputable abbrev Cx.wish(X:Cx)(E:Ε):Cx:={ X with xe:=E }
noncomputable abbrev Cx.nox(X:Cx):Cx:=X.wish λ_ _=>False
theorem Cx.Ok.wish{X:Cx}(ok:X.Ok)(E:Ε):(X.wish E).Ok :=
 ⟨ok.mod,ok.kind,ok.glob,ok.blt,ok.above,ok.inj,ok.has,ok.cab,ok.hd,ok.frames,ok.stk,ok.exf,ok.bs,ok.bsz,ok.noex,ok.exfs,ok.funs,ok.frf⟩
theorem Cx.Ok.unwish{X:Cx}{E:Ε}(ok:(X.wish E).Ok):X.Ok :=
 ⟨ok.mod,ok.kind,ok.glob,ok.blt,ok.above,ok.inj,ok.has,ok.cab,ok.hd,ok.frames,ok.stk,ok.exf,ok.bs,ok.bsz,ok.noex,ok.exfs,ok.funs,ok.frf⟩
section
variable{X:Cx}{aa:Δ}{σ:St}{H:Hp}{s:Shared}{E:Ε}
theorem Inv.wish(I:Inv X aa σ H s)(E:Ε):Inv (X.wish E) aa σ H s:=⟨I.ok.wish E,I.os,I.bare,I.base,I.loc,I.cell,I.free,I.freeC,I.pin,I.hok,I.len⟩
theorem Inv.unwish(I:Inv (X.wish E) aa σ H s):Inv X aa σ H s:=⟨I.ok.unwish,I.os,I.bare,I.base,I.loc,I.cell,I.free,I.freeC,I.pin,I.hok,I.len⟩
theorem SP.unwish{D:Ends}{f:Flow}{s':Shared}(h:SP (X.wish E) aa D f s'):SP X aa D f s':=by
 cases f with
 |next=>obtain⟨σ',H',I,q⟩:=h;exact⟨σ',H',I.unwish,q⟩
 |brk=>obtain⟨σ',H',I,q⟩:=h;exact⟨σ',H',I.unwish,q⟩
 |cont=>obtain⟨σ',H',I,q⟩:=h;exact⟨σ',H',I.unwish,q⟩
 |ret u=>obtain⟨v,σ',H',I,r,q⟩:=h;exact⟨v,σ',H',I.unwish,r,q⟩
theorem PSs.nox{st:List Stmt}{t:TS}(h:PSs X.nox st t):PSs X st t:=λaa s σ H D I hw =>
 wpAny_mono (h aa s σ H D (I.wish _) hw) (λ_ _ q=>q.unwish) λ_ _ z=>False.elim z
end
section
variable{X:Cx}{st:Stmt}{rest:List Stmt}{t u:TS}{e:Expr}{te:TE}{pos:Pos}
def ako:TS:=λD σ H=>D.nx σ H
def ahM(t u:TS):TS:=λD σ H=>t { D with nx:=u D } σ H
theorem acP:PSs X [] ako:=λ_ _ σ H _ I h=>wpAny_execs_nil ⟨σ,H,I,h⟩
theorem Zf(h1:PS X st t)(h2:PSs X rest u):PSs X (st::rest) (ahM t u):=by
 intro aa s σ H D I h;refine wpAny_execs_cons (thn (h1 aa s σ H { D with nx:=u D } I h) λf s1 q=>?_);cases f with
 |next =>
  obtain⟨σ',H',I',q⟩:=q;exact h2 aa s1 σ' H' D I' q
 |ret v=>exact q
 |brk=>exact q
 |cont=>exact q
theorem acK(h1:PS X st t):PSs X [st] t:=by
 intro aa s σ H D I h;refine wpAny_execs_cons (thn (h1 aa s σ H D I h) λf s1 q=>?_);cases f with
 |next=>exact wpAny_execs_nil q
 |ret v=>exact q
 |brk=>exact q
 |cont=>exact q
theorem Inv.quiet{aa:Δ}{σ:St}{H:Hp}{s:Shared}(I:Inv X aa σ H s):interactive X.env=false:=by simp[interactive,I.ok.kind]
def ahH(te:TE):TS:=λD σ H=>te σ H λ_ H1=>D.nx σ H1
theorem yZ(he:PE X e te)(hs:swapsWith e none pos.line X.env=pure false:=by rfl):PS X (.Expr e pos) (ahH te):=by
 intro aa s σ H D I h;exact wpAny_Expr_any (thn (he aa s σ H _ I h) λv s1 hP=>by obtain⟨x,H1,I1,r1,q1⟩:=hP;exact⟨σ,H1,I1,q1⟩) I.quiet hs
def anx(te:TE):TS:=λD σ H=>te σ H D.rt
theorem Uy(he:PE X e te):PS X (.Return (some e) pos) (anx te):=by
 intro aa s σ H D I h;exact wpAny_Return_some (thn (he aa s σ H _ I h) λv s1 hP=>by obtain⟨x,H1,I1,r1,q1⟩:=hP;exact⟨x,σ,H1,I1,r1,q1⟩)
def amk(c:TT)(t u:TS):TS:=λD σ H=>c σ H λb H1=>if b=true then t D σ H1 else u D σ H1
theorem alp{c:Expr}{a b:List Stmt}{tc:TT}(hc:PT X c tc)(ha:PSs X a t)(hb:PSs X b u):PS X (.If c a b pos) (amk tc t u):=by
 intro aa s σ H D I h;refine wpAny_If (thn (hc aa s σ H _ I h) λd s1 hP=>?_);obtain⟨H1,I1,q1⟩:=hP;cases d with
 |true=>exact ha aa s1 σ H1 D I1 q1
 |false=>exact hb aa s1 σ H1 D I1 q1
def agp:TS:=λ_ _ _=>False
theorem abw:PS X st agp:=λ_ _ _ _ _ _ h=>h.elim
end
abbrev TG:=V->St->Hp->(St->Hp->Prop)->Prop
abbrev TGs:=Ζ->St->Hp->(St->Hp->Prop)->Prop
def PG(X:Cx)(gv:Expr)(t:TG):Prop :=
 ∀(aa:Δ)(s:Shared)(σ:St)(H:Hp)(v:V)(u:Value)(Q:St->Hp->Prop),Inv X aa σ H s->RelV v u->t v σ H Q ->
  wpAny (model X.prog X.w) X.A (assign gv X.env u) (λ_ s'=>∃σ' H',Inv X aa σ' H' s'/\Q σ' H') X.xe s
def PGs(X:Cx)(ts:List Expr)(t:TGs):Prop :=
 ∀(aa:Δ)(s:Shared)(σ:St)(H:Hp)(vs:Ζ)(us:Θ)(Q:St->Hp->Prop),Inv X aa σ H s->Vals vs us->t vs σ H Q ->
  wpAny (model X.prog X.w) X.A (assignInOrder ((assignEach ts X.env).map (·.2)) us) (λ_ s'=>∃σ' H',Inv X aa σ' H' s'/\Q σ' H') X.xe s
abbrev aeD:=V->V->V->Hp->(Hp->Prop)->Prop
def aja(X:Cx)(t:aeD):Prop :=
 ∀(aa:Δ)(s:Shared)(σ:St)(H:Hp)(o i v:V)(ov iv u:Value)(Q:Hp->Prop),Inv X aa σ H s->RelV o ov->RelV i iv->RelV v u->t o i v H Q ->
  wpAny (model X.prog X.w) X.A (setItem ov iv u) (λ_ s'=>∃H',Inv X aa σ H' s'/\Q H') X.xe s
abbrev TIp:=V->V->Hp->VK->Prop
def PIp(X:Cx)(op:Operator)(t:TIp):Prop :=
 ∀(aa:Δ)(s:Shared)(σ:St)(H:Hp)(x y:V)(v u:Value)(Q:VK),Inv X aa σ H s->RelV x v->RelV y u->t x y H Q ->
  wpAny (model X.prog X.w) X.A (inplaceOp op v u) (EP X aa σ Q) X.xe s
section
variable{X:Cx}{pos:Pos}
def zU(i:Nat):TG:=λv σ H Q=>Q (σ.set i (some v)) H
theorem m6{i:Nat}{x:Str}(hN:X.N.Nodup)(hi:X.N[i]?=some x)(hx:Loc X.env.scope x)(hf:X.fn x=true\/X.env.scope.names.lookup x=some .local:=by first|exact .inl rfl|exact .inr rfl|assumption):PG X (.Name x pos) (zU i):=by
 intro aa s σ H v u Q I r h;exact wpAny_assign_Name (v9 I hN hi hx r (λs' I'=>⟨_,H,I',h⟩) hf)
def anp:TGs:=λvs σ H Q=>vs=[]/\Q σ H
def ajz(t:TG)(u:TGs):TGs:=λvs σ H Q=>∃v r,vs=v::r/\t v σ H λσ' H'=>u r σ' H' Q
theorem adO:PGs X [] anp:=by
 intro aa s σ H vs us Q I r h;obtain⟨e,h⟩:=h;subst e;cases r;exact assignInOrder_nil ⟨σ,H,I,h⟩
theorem aaf{e:Expr}{es:List Expr}{t:TG}{u:TGs}(h1:PG X e t)(h2:PGs X es u)
 (hs:(assignEach (e::es) X.env).map (·.2)=assign e X.env::(assignEach es X.env).map (·.2):=by rfl):PGs X (e::es) (ajz t u):=by
 intro aa s σ H vs us Q I r h;obtain⟨v,vr,e1,h⟩:=h;subst e1;cases r with
 |cons r rr =>
  rw[hs];refine assignInOrder_cons (thn (h1 aa s σ H _ _ _ I r h) λ_ s1 hP=>?_);obtain⟨σ1,H1,I1,q1⟩:=hP;exact h2 aa s1 σ1 H1 _ _ Q I1 rr q1
def am5(K:Frag)(n:Nat)(t:TGs):TG:=λv σ H Q=>∃a xs,v=.ref a/\SqT K H a xs/\xs.length=n/\t xs σ H Q
theorem afa{es:List Expr}{k:Nat}{t:TGs}{n:Nat}(hc:X.calm=true)(h:PGs X es t)
 (hn:(assignEach es X.env).length=n:=by rfl)(b8:(assignEach es X.env).findIdx? (·.1)=none:=by rfl):PG X (.Tuple es k pos) (am5 X.K n t):=by
 intro aa s σ H v u Q I r hw;obtain⟨a,xs,e1,hq,hl,hw⟩:=hw;subst e1;cases r;obtain⟨its,rv,ht,hz⟩:=I.tuple hq;refine assign_Tuple_tuple (I.ok.hd hc) ht (by simp[hn,<- hl,rv.length]) b8 λh' hx=>?_;have I1:Inv X aa σ H { s with heap:=h' }:=I.kept (t':=s.toks) λb o e=>hx b o (aQ (aK e)) e;exact h aa _ σ H xs _ Q I1 (by simpa using rv) hw
def amq(to ti:TE)(t:aeD):TG:=λv σ H Q=>to σ H λo H1=>ti σ H1 λi H2=>t o i v H2 λH3=>Q σ H3
theorem ZS{o i:Expr}{to ti:TE}{t:aeD}(ho:PE X o to)(hi:PE X i ti)(hs:aja X t)
 (ha:∀v,assign (.Subscript o i pos) X.env v=(do
   let ov <- holding [v] (eval o X.env)
   let iv <- holding [v,ov] (eval i X.env)
   standAt pos
   holding [v,ov,iv] (setItem ov iv v)
   release [v,ov,iv] []):=by intro _;rfl):PG X (.Subscript o i pos) (amq to ti t):=by
 intro aa s σ H v u Q I r h;rw[ha];refine ZU (wpAny_holding (thn (ho aa s σ H _ I h) λov s1 hP=>?_));obtain⟨x,H1,I1,r1,q1⟩:=hP;refine ZU (wpAny_holding (thn (hi aa s1 σ H1 _ I1 q1) λiv s2 hP=>?_));obtain⟨y,H2,I2,r2,q2⟩:=hP;refine ZU (wpAny_standAt (ZU (wpAny_holding (thn (hs aa s2 σ H2 x y v ov iv u _ I2 r1 r2 r q2) λ_ s3 hP=>?_))));obtain⟨H3,I3,q3⟩:=hP;exact wpAny_release ⟨σ,H3,I3,q3⟩
def ab2(te:TE)(g:TG):TS:=λD σ H=>te σ H λx H1=>g x σ H1 D.nx
theorem TV{tg e:Expr}{te:TE}{g:TG}(he:PE X e te)(hg:PG X tg g)(hs:swapsWithSole [tg] e pos.line X.env=pure false:=by rfl)(hw:swappedStores [tg] e X.env=pure none:=by rfl)
 (h1:(assignEach [tg] X.env).map (·.2)=[assign tg X.env]:=by rfl):PS X (.Assign [tg] e pos) (ab2 te g):=by
 intro aa s σ H D I h;refine wpAny_Assign_stores (thn (he aa s σ H _ I h) λv s1 hP=>?_) hs hw;obtain⟨x,H1,I1,r1,q1⟩:=hP;rw[h1];exact thn (hg aa s1 σ H1 x v _ I1 r1 q1) λ_ s2 q=>q
theorem ZW{i:Nat}{x:Str}{e:Expr}{te:TE}{br:Pos}(hN:X.N.Nodup)(hi:X.N[i]?=some x)(hx:Loc X.env.scope x)(he:PE X e te)(hs:swapsWith e (some (.Name x br)) pos.line X.env=pure false:=by rfl)(hf:X.fn x=true\/X.env.scope.names.lookup x=some .local:=by first|exact .inl rfl|exact .inr rfl|assumption) :
  PS X (.Assign [.Name x br] e pos) (ab2 te (zU i)):=by
 intro aa s σ H D I h;refine wpAny_Assign_Name (thn (he aa s σ H _ I h) λv s1 hP=>?_) hs;obtain⟨y,H1,I1,r1,q1⟩:=hP;exact v9 I1 hN hi hx r1 (λs2 I2=>⟨_,H1,I2,q1⟩) hf
def anm(i j:Nat)(ta:TA):TS:=λD σ H=>ta σ H λvs H1=>∃v w,vs=[v,w]/\D.nx ((σ.set i (some v)).set j (some w)) H1
theorem afQ{i j:Nat}{x y:Str}{a b:Expr}{ta:TA}{px py pt:Pos}{kt k2 pt2}(hc:X.calm=true)(hN:X.N.Nodup)(hi:X.N[i]?=some x)(hj:X.N[j]?=some y)(hU:i≠j)
 (hx:X.env.scope.names.lookup x=some .local)(hy:X.env.scope.names.lookup y=some .local)(ha:PA X [a,b] ta)
 (hw:swappedStores [.Tuple [.Name x px,.Name y py] kt pt] (.Tuple [a,b] k2 pt2) X.env=pure (some [x,y]))
 (hs:swapsWithSole [.Tuple [.Name x px,.Name y py] kt pt] (.Tuple [a,b] k2 pt2) pos.line X.env=pure false:=by rfl) :
  PS X (.Assign [.Tuple [.Name x px,.Name y py] kt pt] (.Tuple [a,b] k2 pt2) pos) (anm i j ta):=by
 intro aa s σ H D I h;rw[exec_Assign_arm];refine ZU (wpAny_standAt ?_);rw[hs];refine ZU (ZT ?_);rw[ZZ (by decide)];refine ZU (Tuple_ (thn (ha _ aa s σ H _ I h) λus s1 hP=>?_));obtain⟨vs,H1,I1,r1,q1⟩:=hP;obtain⟨v,w,e1,q1⟩:=q1;subst e1;obtain⟨u1,u2,rfl,rv,eS⟩ : ∃u1 u2,us=[u1,u2]/\RelV v u1/\RelV w u2:=by
  cases r1 with
  |cons p q =>
   cases q with
   |cons p' q' =>
    cases q';exact⟨_,_,rfl,p,p'⟩
 refine wpAny_newObj_type ?_ (by show 2<=sizeLine;decide);have I2:Inv X aa σ H1 { s1 with heap:=s1.heap.push { cls:=.type "tuple",data:=.seq [u1,u2].toArray } }:=I1.kept (t':=s1.toks) λb o e=>aH _ e;rw[hw];refine ZU (ZT ?_);show wpAny (model X.prog X.w) X.A (do rule "assign.swapped-stores"; let items <- unpackItems (.ref s1.heap.objs.size) 2 none;assignInOrder [λv=>bindName X.env y v,λv=>bindName X.env x v] items.reverse;pure Flow.next) _ _ _;refine ZU (wpAny_rule (ZU (unpackItems_tuple (items:=#[u1,u2]) (I.ok.hd hc) (IsTup.new s1.heap _) λh' hE=>?_)));have I3:=I2.kept (h':=h') (t':=s1.toks) λb o e=>hE b o (aQ (aK e)) e;show wpAny _ _ (assignInOrder [λv=>bindName X.env y v,λv=>bindName X.env x v] [u2,u1] >>= λ_=>pure Flow.next) _ _ _;refine ZU (assignInOrder_cons (wpAny_bindName (v9 I3 hN hj (.inl hy) eS (λs2 I4=>?_) (.inr hy))));refine assignInOrder_cons (wpAny_bindName (v9 I4 hN hi (.inl hx) rv (λs3 I5=>assignInOrder_nil (ZT ?_)) (.inr hx)));rw[List.set_comm _ _ (Ne.symm hU)]at I5;exact⟨_,H1,I5,q1⟩
def amB(i:Nat)(te:TE)(ti:TIp):TS:=λD σ H=>∃x,σ[i]?=some (some x)/\te σ H λy H1=>ti x y H1 λz H2=>D.nx (σ.set i (some z)) H2
theorem agg{i:Nat}{x:Str}{e:Expr}{te:TE}{op:Operator}{ti:TIp}{br:Pos}(hN:X.N.Nodup)(hi:X.N[i]?=some x)(hx:Loc X.env.scope x)(he:PE X e te)(ho:PIp X op ti)(hf:X.fn x=true\/X.env.scope.names.lookup x=some .local:=by first|exact .inl rfl|exact .inr rfl|assumption) :
  PS X (.AugAssign (.Name x br) op e pos) (amB i te ti):=by
 intro aa s σ H D I h;obtain⟨v,e1,h⟩:=h;obtain⟨m,hn,hl⟩:=I.loc;have vis:Vis X.env.scope x:=by rcases hx with k|k;exact .inl k;exact .inr (.inl k)
 obtain⟨u,r,l⟩:=hl i x v hi e1 vis;refine wpAny_AugAssign_Name ?_;have go:wpAny (model X.prog X.w) X.A (eval e X.env) (λw s₂=>wpAny (model X.prog X.w) X.A (inplaceOp op u w) (λr s₃=>wpAny (model X.prog X.w) X.A (storeName X.env x r) (λ_=>SP X aa D .next) X.xe s₃) X.xe s₂) X.xe s:=by
  refine thn (he aa s σ H _ I h) λw s1 hP=>?_;obtain⟨y,H1,I1,r1,q1⟩:=hP;refine thn (ho aa s1 σ H1 v y u w _ I1 r r1 q1) λz s2 hP=>?_;obtain⟨zv,H2,I2,r2,q2⟩:=hP;exact v9 I2 hN hi hx r2 (λs3 I3=>⟨_,H2,I3,q2⟩) hf
 rcases l with⟨hk,hm⟩|⟨hk,c,hc,cK⟩
 .exact wpAny_loadName_local I.ok.kind hk hn hm go
 .rcases hk with hk|hk
  .exact wpAny_loadName_cell I.ok.kind hk hc cK go
  .rcases hx with k|k
   .have:X.env.scope.names.lookup x=some .free:=hk;rw[k]at this;cases this
   .have:X.env.scope.names.lookup x=some .free:=hk;rw[k]at this;cases this
def ipI(f:Int->Int->Int):TIp:=λx y H Q=>∃i j,x=.int i/\y=.int j/\Q (.int (f i j)) H
theorem afn:PIp X .Add (ipI λi j=>i+j):=by
 intro aa s σ H x y v u Q I r1 r2 h;obtain⟨i,j,e1,e2,q⟩:=h;subst e1;subst e2;obtain⟨t,rfl⟩:=r1;obtain⟨t',rfl⟩:=r2;exact iadd_int ⟨.int _,H,I.tok _,⟨_,rfl⟩,q⟩
end
section
variable{X:Cx}{pos:Pos}
def aeU(c:TT)(tb:TS):TS:=λD σ H=>∃W:Nat->St->Hp->Prop,(∃m,W m σ H)/\∀m σ H,W m σ H ->
 c σ H λb H1=>if b=true then ∃N:St->Hp->Prop,(∀σ' H',N σ' H'->∃m',m'<m/\W m' σ' H')/\tb { D with nx:=N,ct:=N,bk:=D.nx } σ H1 else D.nx σ H1
theorem Y0{c:Expr}{b6:List Stmt}{tc:TT}{tb:TS}(hp:PassesOwn (model X.prog X.w) X.A X.env X.xe)(hc:PT X c tc)(hb:PSs X b6 tb):PS X (.While c b6 [] pos) (aeU tc tb):=by
 intro aa s σ H D I h;obtain⟨W,⟨m0,w0⟩,eR⟩:=h;refine wpAny_While (codeAny_whileLoop (λn s'=>∃σ' H',Inv X aa σ' H' s'/\W n σ' H') ?_ m0 ⟨σ,H,I,w0⟩);rintro n s1 ⟨σ1,H1,I1,w1⟩;refine wpAny_passesOwn hp (thn (hc aa s1 σ1 H1 _ I1 (eR n σ1 H1 w1)) λb s2 hP=>?_);obtain⟨H2,I2,q2⟩:=hP;cases b with
 |true =>
  obtain⟨N,hN,q2⟩:=q2;rw[ZY rfl];refine wpAny_passesOwn hp (thn (hb aa s2 σ1 H2 _ I2 q2) λf s3 q3=>?_);cases f with
  |next =>
   obtain⟨σ3,H3,I3,n3⟩:=q3;obtain⟨m',hm,w3⟩:=hN σ3 H3 n3;exact⟨m',hm,σ3,H3,I3,w3⟩
  |cont =>
   obtain⟨σ3,H3,I3,n3⟩:=q3;obtain⟨m',hm,w3⟩:=hN σ3 H3 n3;exact⟨m',hm,σ3,H3,I3,w3⟩
  |brk=>exact q3
  |ret v=>exact q3
 |false =>
  rw[ZZ bw];exact wpAny_execs_nil ⟨σ1,H2,I2,q2⟩
end
structure It where
 go:Nat->Hp->Prop
 yld:Nat->Hp->V->Hp->Prop
 stop:Nat->Hp->Prop
def Gi(X:Cx)(aa:Δ)(H:Hp)(b:Addr):Prop :=
 H b=none/\b≠X.env.locals/\b∉X.fs/\(b∈X.ex\/X.s₀.heap.objs.size<=b)/\(∀x c,X.env.cells.lookup x=some c->c≠b)/\∀p∈X.pn++aa,p.1≠b
theorem Inv.fpOk{X:Cx}{aa:Δ}{σ:St}{H H':Hp}{s:Shared}{b:Addr}(I:Inv X aa σ H s)(hb:s.heap.objs.size<=b)(hn:H' b=none):Gi X aa H' b:=by
 refine⟨hn,US (aR I.lt hb),I.nofs hb,.inr (aL I.sz hb),λx c e z=>?_,λp hp z=>?_⟩
 .obtain⟨v,q⟩:=I.cell x c e;exact absurd (aR q.lt (by rw[z];exact hb)) (X9 _)
 .exact absurd (aR (aK (I.pin p hp).1) (by rw[z];exact hb)) (X9 _)
structure Turn(P:Program)(w:World)(K:Frag)(tg:Expr)(J:It)(fp:Ψ)(it:Addr)(tn:Nat->Heap->Prop):Prop where
 mem:it∈fp
 obj:∀i h,tn i h->∀b∈fp,∃o,h.get? b=some o/\∀v,o.data≠.cell v
 keep:∀i h h',tn i h->(∀b∈fp,∀o,h.get? b=some o->h'.get? b=some o)->tn i h'
 item:∀(X:Cx),X.prog=P->X.w=w->X.K=K->X.calm=true->∀(i:Nat)(aa:Δ)(s:Shared)(σ:St)(H:Hp)(E:Ε),Inv X aa σ H s->(∀b∈fp,Gi X aa H b)->tn i s.heap->J.go i H ->
  wpAny (model P w) X.A (pyNext (.ref it)) (λr s1=>∃u,r=some u /\
   wpAny (model P w) X.A (letOwnedTupleGo tg (.ref it) u) (λ_ s2=>∃x H',Inv X aa σ H' s2/\RelV x u/\J.yld i H x H'/\tn (i+1) s2.heap/\∀b∈fp,H' b=none) E s1) E s
 done:∀(X:Cx),X.prog=P->X.w=w->X.K=K->X.calm=true->∀(i:Nat)(aa:Δ)(s:Shared)(σ:St)(H:Hp)(E:Ε),Inv X aa σ H s->(∀b∈fp,Gi X aa H b)->tn i s.heap->J.stop i H ->
  wpAny (model P w) X.A (pyNext (.ref it)) (λr s1=>r=none/\Inv X aa σ H s1) E s
 self:∀(A:Around)(i:Nat)(s:Shared)(Q:Ε)(E:Ε),tn i s.heap->Q (.ref it) s->wpAny (model P w) A (pyIter (.ref it)) Q E s
abbrev TI:=St->Hp->(It->Hp->Prop)->Prop
def PIE(X:Cx)(aa:Δ)(σ:St)(tg:Expr)(R:It->Hp->Prop)(kD:Value)(s2:Shared):Prop :=
 ∃(it:Addr)(fp:Ψ)(tn:Nat->Heap->Prop)(J:It)(H':Hp),kD=.ref it/\Inv X aa σ H' s2/\Turn X.prog X.w X.K tg J fp it tn/\tn 0 s2.heap/\(∀b∈fp,Gi X aa H' b)/\R J H'
def PI(X:Cx)(tg iter:Expr)(wi:TI):Prop :=
 ∀(aa:Δ)(s:Shared)(σ:St)(H:Hp)(R:It->Hp->Prop),Inv X aa σ H s->wi σ H R ->
  wpAny (model X.prog X.w) X.A (eval iter X.env) (λv s1=>wpAny (model X.prog X.w) X.A (pyIter v) (PIE X aa σ tg R) X.xe s1) X.xe s
theorem Qx{M:Model}{A:Around}{E:Ε}{s:Shared}{tg:Expr}{it:Addr}{u:Value}{o:Obj}{n:String}{vs:Array Value}{Q:Unit->Shared->Prop}(ho:s.heap.get? it=some o)(hc:o.cls=.type n)(hd:o.data=.fields vs)
   (hn : ["enumerate","zip","dict_itemiterator","dict_reverseitemiterator","odict_iterator","itertools.zip_longest","itertools.pairwise"].contains n=false)(hQ:Q () s):wpAny M A (letOwnedTupleGo tg (.ref it) u) Q E s:=by
  unfold letOwnedTupleGo;cases tg<;>first
    |exact ZT hQ
    |(cases u<;>first
        |exact ZT hQ
        | (refine ZU (wpAny_load ho ?_)
           rw[hc,hd];show wpAny M A (if(["enumerate","zip","dict_itemiterator","dict_reverseitemiterator","odict_iterator","itertools.zip_longest","itertools.pairwise"].contains n&&vs[0]?==some (rawInt _))=true then _ else _) Q E s;rw[ZZ (by intro h;rw[hn,Bool.false_and]at h;cases h)];exact ZT hQ))
noncomputable def Itl(K:Frag)(a:Addr):It :=
 ⟨λi H=>∃xs x,SqL K H a xs/\xs[i]?=some x,λi H x H'=>H'=H/\∀xs,SqL K H a xs->xs[i]?=some x,λi H=>∃xs,SqL K H a xs/\xs.length<=i⟩
noncomputable def Itt(K:Frag)(a:Addr):It :=
 ⟨λi H=>∃xs x,SqT K H a xs/\xs[i]?=some x,λi H x H'=>H'=H/\∀xs,SqT K H a xs->xs[i]?=some x,λi H=>∃xs,SqT K H a xs/\xs.length<=i⟩
noncomputable def Itr(lo:Int)(n:Nat):It:=⟨λi _=>i<n,λi H x H'=>H'=H/\x=.int (lo+i),λi _=>n<=i⟩
theorem XQ{P:Program}{w:World}{K:Frag}{tg:Expr}(a it:Addr):Turn P w K tg (Itl K a) [it] it (λi h=>h.IsListIter it a i) where
 mem:=by simp
 obj:=λi h st b hb=>by
  have e:b=it:=by simpa using hb
  subst e;obtain⟨o,e,c,d⟩:=st;exact⟨o,e,λv z=>by rw[d]at z;cases z⟩
 keep:=λi h h' st k=>st.at λo e=>k it (by simp) o e
 item:=by
  intro X hP hw hK hc i aa s σ H E I hf st hg;subst hP hw hK;obtain⟨xs,x,hq,hx⟩:=hg;obtain⟨its,rv,p,hz⟩:=I.list hq;obtain⟨u,hu,ru⟩:=rv.get hx;obtain⟨f0,f1,f2,f3,f4,f5⟩:=hf it (by simp);refine wpAny_pyNext_list_item st p.isList (x:=u) (by simpa using hu) λh' df sb=>?_;have I1:Inv X aa σ H { s with heap:=h' }:=I.turned (t':=s.toks) (λb o hb e=>(sb.2 b hb).trans e) f0 f1 f3 f4 f5;obtain⟨o,e,c,d⟩:=id df;exact⟨u,rfl,Qx (s:={ s with heap:=h' }) e c d (by decide) ⟨x,H,I1,ru,⟨rfl,λys hy=>by rw[I.list_inj hy hq];exact hx⟩,df,λb hb=>(hf b hb).1⟩⟩
 done:=by
  intro X hP hw hK hc i aa s σ H E I hf st hg;subst hP hw hK;obtain⟨xs,hq,hx⟩:=hg;obtain⟨its,rv,p,hz⟩:=I.list hq;obtain⟨f0,f1,f2,f3,f4,f5⟩:=hf it (by simp);have hl:=rv.length;exact wpAny_pyNext_list_end (I.ok.hd hc) st p.isList (by simp;lia) λh' eb=>⟨rfl,I.turned (t':=s.toks) (λb o hb e=>eb b o hb e) f0 f1 f3 f4 f5⟩
 self:=λ_ _ _ _ _ st h=>wpAny_pyIter_listiter st h
theorem T6{P:Program}{w:World}{K:Frag}{tg:Expr}(a it:Addr):Turn P w K tg (Itt K a) [it] it (λi h=>h.IsTupleIter it a i) where
 mem:=by simp
 obj:=λi h st b hb=>by
  have e:b=it:=by simpa using hb
  subst e;obtain⟨o,e,c,d⟩:=st;exact⟨o,e,λv z=>by rw[d]at z;cases z⟩
 keep:=λi h h' st k=>st.at λo e=>k it (by simp) o e
 item:=by
  intro X hP hw hK hc i aa s σ H E I hf st hg;subst hP hw hK;obtain⟨xs,x,hq,hx⟩:=hg;obtain⟨its,rv,p,hz⟩:=I.tuple hq;obtain⟨u,hu,ru⟩:=rv.get hx;obtain⟨f0,f1,f2,f3,f4,f5⟩:=hf it (by simp);refine wpAny_pyNext_tuple_item st (show s.heap.IsTuple a its.toArray from p) (x:=u) (by simpa using hu) λh' df sb=>?_;have I1:Inv X aa σ H { s with heap:=h' }:=I.turned (t':=s.toks) (λb o hb e=>(sb.2 b hb).trans e) f0 f1 f3 f4 f5;obtain⟨o,e,c,d⟩:=id df;exact⟨u,rfl,Qx (s:={ s with heap:=h' }) e c d (by decide) ⟨x,H,I1,ru,⟨rfl,λys hy=>by rw[I.tuple_inj hy hq];exact hx⟩,df,λb hb=>(hf b hb).1⟩⟩
 done:=by
  intro X hP hw hK hc i aa s σ H E I hf st hg;subst hP hw hK;obtain⟨xs,hq,hx⟩:=hg;obtain⟨its,rv,p,hz⟩:=I.tuple hq;obtain⟨f0,f1,f2,f3,f4,f5⟩:=hf it (by simp);have hl:=rv.length;exact wpAny_pyNext_tuple_end (I.ok.hd hc) st (show s.heap.IsTuple a its.toArray from p) (by simp;lia) λh' eb=>⟨rfl,I.turned (t':=s.toks) (λb o hb e=>eb b o hb e) f0 f1 f3 f4 f5⟩
 self:=λ_ _ _ _ _ st h=>wpAny_pyIter_tupleiter st h
theorem T5{P:Program}{w:World}{K:Frag}{tg:Expr}(it:Addr)(lo:Int)(n:Nat):Turn P w K tg (Itr lo n) [it] it (λi h=>IsRangeIter h it (lo+(i:Nat)*1) ((n:Int)-(i:Nat)) 1) where
 mem:=by simp
 obj:=λi h st b hb=>by
  have e:b=it:=by simpa using hb
  subst e;exact⟨_,st,λv z=>by
   have z':Data.fields _=Data.cell v:=z;cases z'⟩
 keep:=λi h h' st k=>k it (by simp) _ st
 item:=by
  intro X hP hw hK hc i aa s σ H E I hf st hg;subst hP hw hK;obtain⟨f0,f1,f2,f3,f4,f5⟩:=hf it (by simp);have W:=Walks.range (prog:=X.prog) (w:=X.w) (I.ok.hd hc) it lo 1 n;refine W.item i s _ _ hg st λv h' tk hv df kk=>?_;obtain⟨t,rfl⟩:=hv;have I1:Inv X aa σ H { s with heap:=h',toks:=tk }:=I.turned (λb o hb e=>kk b o (by simpa using hb) e) f0 f1 f3 f4 f5;refine⟨_,rfl,Qx (s:={ s with heap:=h',toks:=tk }) (n:="range_iterator") df rfl rfl (by decide) ⟨.int (lo+i),H,I1,⟨t,?_⟩,⟨rfl,rfl⟩,df,λb hb=>(hf b hb).1⟩⟩;rw[Int.mul_one]
 done:=by
  intro X hP hw hK hc i aa s σ H E I hf st hg;subst hP hw hK;obtain⟨f0,f1,f2,f3,f4,f5⟩:=hf it (by simp);exact wpAny_pyNext_range_end (I.ok.hd hc) st (by have:n<=i:=hg;lia) λh' eb=>⟨rfl,I.turned (t':=s.toks) (λb o hb e=>eb b o hb e) f0 f1 f3 f4 f5⟩
 self:=λ_ _ _ _ _ st h=>wpAny_pyIter_rangeiter st h
section
variable{X:Cx}{tg:Expr}
def aj6(K:Frag)(tl:TE):TI:=λσ H R=>tl σ H λx H1=>∃a,x=.ref a/\(∃xs,SqL K H1 a xs)/\R (Itl K a) H1
def ant(K:Frag)(tl:TE):TI:=λσ H R=>tl σ H λx H1=>∃a,x=.ref a/\(∃xs,SqT K H1 a xs)/\R (Itt K a) H1
theorem abT{l:Expr}{tl:TE}(hl:PE X l tl):PI X tg l (aj6 X.K tl):=by
 intro aa s σ H R I h;refine thn (hl aa s σ H _ I h) λv s1 hP=>?_;obtain⟨x,H1,I1,r1,q1⟩:=hP;obtain⟨a,e,⟨xs,hq⟩,q⟩:=q1;subst e;cases r1;obtain⟨its,rv,p,hz⟩:=I1.list hq;refine wpAny_pyIter_list p.isList ?_;refine⟨s1.heap.objs.size,[s1.heap.objs.size],_,_,H1,rfl,I1.kept (t':=s1.toks) λb o e=>aH _ e,XQ a _,⟨_,aW _ rfl,rfl,rfl⟩,λb hb=>?_,q⟩;have e:b=s1.heap.objs.size:=by simpa using hb
 subst e;exact I1.fpOk (aG _) (I1.hok.fresh (aG _))
theorem afO{l:Expr}{tl:TE}(hl:PE X l tl):PI X tg l (ant X.K tl):=by
 intro aa s σ H R I h;refine thn (hl aa s σ H _ I h) λv s1 hP=>?_;obtain⟨x,H1,I1,r1,q1⟩:=hP;obtain⟨a,e,⟨xs,hq⟩,q⟩:=q1;subst e;cases r1;obtain⟨its,rv,p,hz⟩:=I1.tuple hq;refine wpAny_pyIter_tuple (show s1.heap.IsTuple a its.toArray from p) ?_;refine⟨s1.heap.objs.size,[s1.heap.objs.size],_,_,H1,rfl,I1.kept (t':=s1.toks) λb o e=>aH _ e,T6 a _,⟨_,aW _ rfl,rfl,rfl⟩,λb hb=>?_,q⟩;have e:b=s1.heap.objs.size:=by simpa using hb
 subst e;exact I1.fpOk (aG _) (I1.hok.fresh (aG _))
theorem QF{aa:Δ}{σ:St}{H:Hp}{s:Shared}{R:It->Hp->Prop}{E:Ε}{lo hi:Int}{t u v:Tok}{tk:Nat}(I:Inv X aa σ H s)(h1 : -(2^62)<=lo)(h2:lo<2^62)(h3 : -(2^62)<=hi)(h4:hi<2^62)
 (q:R (Itr lo (hi-lo).toNat) H):wpAny (model X.prog X.w) X.A (pyIter (.ref s.heap.objs.size)) (PIE X aa σ tg R) E { s with heap:=s.heap.push { cls:=.type "range",data:=.fields #[.int lo t,.int hi u,.int 1 v] },toks:=tk }:=by
 refine wpAny_pyIter_range (IsRange.new ..) (small_one h1 h2 h3 h4) ?_;have I1:Inv X aa σ H { s with heap:=s.heap.push { cls:=.type "range",data:=.fields #[.int lo t,.int hi u,.int 1 v] },toks:=tk }:=I.kept λb o e=>aH _ e;refine⟨(s.heap.push { cls:=.type "range",data:=.fields #[.int lo t,.int hi u,.int 1 v] }).objs.size,[(s.heap.push { cls:=.type "range",data:=.fields #[.int lo t,.int hi u,.int 1 v] }).objs.size],_,_,H,rfl,
  I1.kept (t':=tk) λb o e=>aH _ e,T5 _ lo (hi-lo).toNat,?_,λb hb=>?_,q⟩
 .have e1:lo+((0:Nat):Int)*1=lo:=by simp
  have e2:(((hi-lo).toNat:Nat):Int)-((0:Nat):Int)=Builtin.Range.rangeSize lo hi 1:=by rw[rangeSize_one];split<;>lia
  show IsRangeIter _ _ (lo+((0:Nat):Int)*1) ((((hi-lo).toNat:Nat):Int)-((0:Nat):Int)) 1;rw[e1,e2];exact aW _ rfl
 .have e:b=(s.heap.push { cls:=.type "range",data:=.fields #[.int lo t,.int hi u,.int 1 v] }).objs.size:=by simpa using hb
  subst e;exact I1.fpOk (aG _) (I1.hok.fresh (aG _))
def ajG(ta:TA):TI:=λσ H R=>ta σ H λvs H1=>∃j:Int,vs=[.int j]/\-(2^62)<=j/\j<2^62/\R (Itr 0 j.toNat) H1
def ahQ(ta:TA):TI:=λσ H R=>ta σ H λvs H1=>∃i j:Int,vs=[.int i,.int j]/\(-(2^62)<=i/\i<2^62/\-(2^62)<=j/\j<2^62)/\R (Itr i (j-i).toNat) H1
theorem Yy{a:Expr}{ta:TA}{p pos:Pos}(hg:Gl X "range")(hm:X.mg "range"=none)(ha:PA X [a] ta)(hs:starEach [a] X.env=[(false,eval a X.env)]:=by rfl):PI X tg (.Call (.Name "range" p) [a] [] pos) (ajG ta):=by
 intro aa s σ H R I h;refine Call_ (Ai I hg hm boot_range (PyProof.Rows.callWith_type1 (thn (ha pos aa s σ H _ I h) λus s1 hP=>?_) hs rfl));obtain⟨vs,H1,I1,r1,q1⟩:=hP;obtain⟨j,e,q1,q2,q⟩:=q1;subst e;cases r1 with
 |cons r rr =>
  cases rr;obtain⟨t,rfl⟩:=r;exact call_range_1 (QF I1 (XY (by decide)) (JJ (by decide)) q1 q2 (by simpa using q))
theorem Yh{a b:Expr}{ta:TA}{p pos:Pos}(hg:Gl X "range")(hm:X.mg "range"=none)(ha:PA X [a,b] ta)(hs:starEach [a,b] X.env=[(false,eval a X.env),(false,eval b X.env)]:=by rfl)(eK:starEach [b] X.env=[(false,eval b X.env)]:=by rfl) :
  PI X tg (.Call (.Name "range" p) [a,b] [] pos) (ahQ ta):=by
 intro aa s σ H R I h;refine Call_ (Ai I hg hm boot_range (PyProof.Rows.callWith_type1 (thn (ha pos aa s σ H _ I h) λus s1 hP=>?_) (by rw[hs,eK]) (by rw[eK];rfl)));obtain⟨vs,H1,I1,r1,q1⟩:=hP;obtain⟨i,j,e,⟨q1,q2,q3,q4⟩,q⟩:=q1;subst e;cases r1 with
 |cons r rr =>
  cases rr with
  |cons r' rr =>
   cases rr;obtain⟨t,rfl⟩:=r;obtain⟨t',rfl⟩:=r';exact call_range_2 (QF I1 q1 q2 q3 q4 q)
def amD(wi:TI)(g:TG)(tb:TS):TS:=λD σ H=>wi σ H λJ H1=>∃W:Nat->Nat->St->Hp->Prop,(∃m,W 0 m σ H1)/\∀i m σ H,W i m σ H ->
 (J.stop i H/\D.nx σ H)\/(J.go i H/\∃N:St->Hp->Prop,(∀σ' H',N σ' H'->∃m',m'<m/\W (i+1) m' σ' H')/\∀x H',J.yld i H x H'->g x σ H' λσ2 H2=>tb { D with nx:=N,ct:=N,bk:=D.nx } σ2 H2)
noncomputable def Ia(fp:Ψ)(h:Heap):Δ:=fp.filterMap λb=>(h.get? b).map λo=>(b,o)
theorem qu{fp:Ψ}{h:Heap}{b:Addr}{o:Obj}(hb:b∈fp)(e:h.get? b=some o):(b,o)∈Ia fp h:=List.mem_filterMap.mpr ⟨b,hb,by rw[e];rfl⟩
theorem Yn{fp:Ψ}{h:Heap}{p:Addr×Obj}(hp:p∈Ia fp h):p.1∈fp/\h.get? p.1=some p.2:=by
 obtain⟨b,hb,e⟩:=List.mem_filterMap.mp hp;cases q:h.get? b with
 |none=>rw[q]at e;cases e
 |some o =>
  rw[q]at e;have e':(b,o)=p:=Option.some.inj e;subst e';exact⟨hb,q⟩
theorem Inv.pinned{aa:Δ}{σ:St}{H:Hp}{s:Shared}{fp:Ψ}(I:Inv X aa σ H s)(hf:∀b∈fp,Gi X aa H b)(ho:∀b∈fp,∃o,s.heap.get? b=some o/\∀v,o.data≠.cell v):Inv X (aa++Ia fp s.heap) σ H s :=
 I.pins_of λp hp=>(Y1.mp hp).elim (λz=>I.pin p (aP _ z)) λz=>by
  obtain⟨hb,e⟩:=Yn z;obtain⟨f0,f1,f2,_⟩:=hf p.1 hb;obtain⟨o,e',d⟩:=ho p.1 hb;rw[e]at e';cases e';exact⟨e,f0,f1,f2,d⟩
theorem Inv.unpinned{aa pl:Δ}{σ:St}{H:Hp}{s:Shared}(I:Inv X (aa++pl) σ H s):Inv X aa σ H s:=I.pins_of λp hp=>I.pin p (aP _ (Tu _ hp))
theorem afw{iter:Expr}{b6:List Stmt}{wi:TI}{g:TG}{tb:TS}{pos:Pos}(hp:PassesOwn (model X.prog X.w) X.A X.env X.xe)(hc:X.calm=true)(hi:PI X tg iter wi)(hg:PG X tg g)(hb:PSs X b6 tb)
 (hs:∀x,foldedSetIterable iter X.env x=pure x:=by intro _;rfl):PS X (.For tg iter b6 [] pos) (amD wi g tb):=by
 intro aa s σ H D I h;refine wpAny_For (thn (hi aa s σ H _ I h) λv s1 h1=>thn h1 λkD s2 h2=>?_) hs;obtain⟨it,fp,tn,J,H2,e,I2,T,fN,f2,W,⟨m0,w0⟩,eR⟩:=h2;subst e

 have gx:∀{H':Hp},(∀b∈fp,H' b=none)->∀b∈fp,Gi X aa H' b:=λhn b hb=>⟨hn b hb,(f2 b hb).2⟩;refine codeAny_forLoop_any (λn s'=>∃i σ' H',Inv X aa σ' H' s'/\tn i s'.heap/\(∀b∈fp,H' b=none)/\W i n σ' H') ?_ m0 ⟨0,σ,H2,I2,fN,λb hb=>(f2 b hb).1,w0⟩;rintro n s3 ⟨i,σ3,H3,I3,g6,fr3,w3⟩;rcases eR i n σ3 H3 w3 with⟨stop,qn⟩|⟨go,N,hN,step⟩
 .refine wpAny_passesOwn hp (thn (T.done X rfl rfl rfl hc i aa s3 σ3 H3 X.xe I3 (gx fr3) g6 stop) λr s4 hP=>?_);obtain⟨hr,I4⟩:=hP;subst hr;exact wpAny_execs_nil ⟨σ3,H3,I4,qn⟩
 .refine wpAny_passesOwn hp (thn (T.item X rfl rfl rfl hc i aa s3 σ3 H3 X.xe I3 (gx fr3) g6 go) λr s4 hP=>?_);obtain⟨u,hr,h4⟩:=hP;subst hr;refine wpAny_passesOwn hp (thn h4 λ_ s5 hP=>?_);obtain⟨x,H5,I5,r5,y5,ki,fr5⟩:=hP;have I5':=I5.pinned (gx fr5) (T.obj _ _ ki);refine wpAny_passesOwn hp (thn (hg _ s5 σ3 H5 x u _ I5' r5 (step x H5 y5)) λ_ s6 hP=>?_);obtain⟨σ6,H6,I6,q6⟩:=hP;refine wpAny_passesOwn hp (thn (hb _ s6 σ6 H6 _ I6 q6) λf s7 q7=>?_);have again:∀{σ7:St}{H7:Hp},Inv X (aa++Ia fp s5.heap) σ7 H7 s7->N σ7 H7->∃m,m<n/\∃i σ' H',Inv X aa σ' H' s7/\tn i s7.heap/\(∀b∈fp,H' b=none)/\W i m σ' H':=λ{σ7 H7}I7 n7=>by
   obtain⟨m',hm,w7⟩:=hN σ7 H7 n7;refine⟨m',hm,i+1,σ7,H7,I7.unpinned,T.keep _ _ _ ki λb hb o e=>(I7.pin (b,o) (aP _ (aP _ (qu hb e)))).1,λb hb=>?_,w7⟩;obtain⟨o,e,d⟩:=T.obj _ _ ki b hb;exact(I7.pin (b,o) (aP _ (aP _ (qu hb e)))).2.1
  cases f with
  |next=>obtain⟨σ7,H7,I7,n7⟩:=q7;exact again I7 n7
  |cont=>obtain⟨σ7,H7,I7,n7⟩:=q7;exact again I7 n7
  |brk=>obtain⟨σ7,H7,I7,q7⟩:=q7;exact⟨σ7,H7,I7.unpinned,q7⟩
  |ret v=>obtain⟨x7,σ7,H7,I7,r7,q7⟩:=q7;exact⟨x7,σ7,H7,I7.unpinned,r7,q7⟩
end
abbrev R2:=V->V->Hp->VK->Prop
def OpR(X:Cx)(f:Value->Value->Sem Value)(r:R2):Prop :=
 ∀(aa:Δ)(s:Shared)(σ:St)(H:Hp)(x y:V)(v u:Value)(Q:VK),Inv X aa σ H s->RelV x v->RelV y u->r x y H Q ->
  wpAny (model X.prog X.w) X.A (f v u) (EP X aa σ Q) X.xe s
def UnR(X:Cx)(f:Value->Sem Value)(r:V->Hp->VK->Prop):Prop :=
 ∀(aa:Δ)(s:Shared)(σ:St)(H:Hp)(x:V)(v:Value)(Q:VK),Inv X aa σ H s->RelV x v->r x H Q ->
  wpAny (model X.prog X.w) X.A (f v) (EP X aa σ Q) X.xe s
def i_(X:Cx)(f:Value)(r:Ζ->Hp->VK->Prop):Prop :=
 ∀(aa:Δ)(s:Shared)(σ:St)(H:Hp)(xs:Ζ)(us:Θ)(Q:VK),Inv X aa σ H s->Vals xs us->r xs H Q ->
  wpAny (model X.prog X.w) X.A (call f us) (EP X aa σ Q) X.xe s
def amo(X:Cx)(r:V->Hp->(Bool->Hp->Prop)->Prop):Prop :=
 ∀(aa:Δ)(s:Shared)(σ:St)(H:Hp)(x:V)(v:Value)(Q:Bool->Hp->Prop),Inv X aa σ H s->RelV x v->r x H Q ->
  wpAny (model X.prog X.w) X.A (truthy v) (TP X aa σ Q) X.xe s
def tOp(r:R2)(ta tb:TE):TE:=λσ H Q=>ta σ H λx H1=>tb σ H1 λy H2=>r x y H2 Q
def tUn(r:V->Hp->VK->Prop)(ta:TE):TE:=λσ H Q=>ta σ H λx H1=>r x H1 Q
def rI(C:Int->Int->Prop)(g:Int->Int->V):R2:=λx y H Q=>∃i j,x=.int i/\y=.int j/\C i j/\Q (g i j) H
def rI0(g:Int->Int->V):R2:=λx y H Q=>∃i j,x=.int i/\y=.int j/\Q (g i j) H
def rU(g:Int->V):V->Hp->VK->Prop:=λx H Q=>∃i,x=.int i/\Q (g i) H
section
variable{X:Cx}{a b c:Expr}{ta tb tc:TE}{pos:Pos}
theorem ags(ha:PE X a ta)(hb:PE X b tb){aa:Δ}{s:Shared}{σ:St}{H:Hp}{R:V->V->Hp->Prop}(I:Inv X aa σ H s)
 (h:ta σ H λx H1=>tb σ H1 λy H2=>R x y H2){Q:Ε}{f:Value->Value->Sem Value}
 (hf:∀v u s2 x y H2,Inv X aa σ H2 s2->RelV x v->RelV y u->R x y H2->wpAny (model X.prog X.w) X.A (f v u) Q X.xe s2) :
  wpAny (model X.prog X.w) X.A (eval a X.env) (λv s₁=>wpAny (model X.prog X.w) X.A (eval b X.env) (λu s₂=>wpAny (model X.prog X.w) X.A (f v u) Q X.xe s₂) X.xe s₁) X.xe s:=by
 refine thn (ha aa s σ H _ I h) λv s1 hP=>?_;obtain⟨x,H1,I1,r1,q1⟩:=hP;refine thn (hb aa s1 σ H1 _ I1 q1) λu s2 hP=>?_;obtain⟨y,H2,I2,r2,q2⟩:=hP;exact hf v u s2 x y H2 I2 r1 r2 q2
theorem ajt{op:Operator}{r:R2}(ho:OpR X (binaryOp op) r)(ha:PE X a ta)(hb:PE X b tb):PE X (.BinOp a op b pos) (tOp r ta tb):=by
 intro aa s σ H Q I h;exact wpAny_BinOp (ags ha hb I h λv u s2 x y H2 I2 rx ry q=>ho aa s2 σ H2 x y v u Q I2 rx ry q)
theorem aif{op:UnaryOp}{r:V->Hp->VK->Prop}(ho:UnR X (unaryOp op) r)(ha:PE X a ta):PE X (.UnaryOp op a pos) (tUn r ta):=by
 intro aa s σ H Q I h;exact UnaryOp_ (thn (ha aa s σ H _ I h) λv s1 hP=>by obtain⟨x,H1,I1,r1,q1⟩:=hP;exact ho aa s1 σ H1 x v Q I1 r1 q1)
theorem Dw{op:Operator}{r:R2}(ho:OpR X (inplaceOp op) r){aa:Δ}{s:Shared}{σ:St}{H:Hp}{x y:V}{v u:Value}{Q:VK}(I:Inv X aa σ H s)
 (rx:RelV x v)(ry:RelV y u)(q:r x y H Q):wpAny (model X.prog X.w) X.A (inplaceOp op v u) (EP X aa σ Q) X.xe s:=ho aa s σ H x y v u Q I rx ry q
theorem opI{f:Value->Value->Sem Value}{C:Int->Int->Prop}{g:Int->Int->Int}
 (rule:∀(i j:Int)(t u:Tok)(s:Shared)(Q:Ε)(E:Ε),C i j->Q (.int (g i j) s.toks) { s with toks:=s.toks+1 }->wpAny (model X.prog X.w) X.A (f (.int i t) (.int j u)) Q E s) :
  OpR X f (rI C λi j=>.int (g i j)):=by
 intro aa s σ H x y v u Q I rx ry h;obtain⟨i,j,rfl,rfl,hc,q⟩:=h;obtain⟨t,rfl⟩:=rx;obtain⟨t',rfl⟩:=ry;exact rule i j t t' s _ _ hc ⟨.int (g i j),H,I.tok _,⟨_,rfl⟩,q⟩
theorem aiq{f:Value->Value->Sem Value}{g:Int->Int->Int}
 (rule:∀(i j:Int)(t u:Tok)(s:Shared)(Q:Ε)(E:Ε),Q (.int (g i j) s.toks) { s with toks:=s.toks+1 }->wpAny (model X.prog X.w) X.A (f (.int i t) (.int j u)) Q E s) :
  OpR X f (rI0 λi j=>.int (g i j)):=by
 intro aa s σ H x y v u Q I rx ry h;obtain⟨i,j,rfl,rfl,q⟩:=h;obtain⟨t,rfl⟩:=rx;obtain⟨t',rfl⟩:=ry;exact rule i j t t' s _ _ ⟨.int (g i j),H,I.tok _,⟨_,rfl⟩,q⟩
theorem abJ{f:Value->Value->Sem Value}{g:Int->Int->Bool}
 (rule:∀(i j:Int)(t u:Tok)(s:Shared)(Q:Ε)(E:Ε),Q (.bool (g i j)) s->wpAny (model X.prog X.w) X.A (f (.int i t) (.int j u)) Q E s) :
  OpR X f (rI0 λi j=>.bl (g i j)):=by
 intro aa s σ H x y v u Q I rx ry h;obtain⟨i,j,rfl,rfl,q⟩:=h;obtain⟨t,rfl⟩:=rx;obtain⟨t',rfl⟩:=ry;exact rule i j t t' s _ _ ⟨.bl (g i j),H,I,rfl,q⟩
def ajy(i j:Int):Prop:=0<=j/\j<=1000000/\i.natAbs<2^64
def adG(i j:Int):Prop:=(-(2^64)<i/\i<2^64)\/(-(2^64)<j/\j<2^64)
theorem adG.ok{i j:Int}(h:adG i j):IntMulOk i j:=by
 rcases h with⟨h1,h2⟩|⟨h1,h2⟩
 .exact .of_left (intBits_le_64 h1 h2)
 .exact .of_right (intBits_le_64 h1 h2)
theorem agI:OpR X (binaryOp .Add) (rI0 λi j=>.int (i+j)):=aiq λ_ _ _ _ _ _ _ q=>add_int q
theorem afu:OpR X (binaryOp .Sub) (rI0 λi j=>.int (i-j)):=aiq λ_ _ _ _ _ _ _ q=>sub_int q
theorem aeT:OpR X (binaryOp .Mult) (rI adG λi j=>.int (i*j)):=opI λ_ _ _ _ _ _ _ hc q=>mul_int q hc.ok
theorem afe:OpR X (binaryOp .Mod) (rI (λ_ j=>0<j) λi j=>.int (i%j)):=opI λi j _ _ _ _ _ hc q=>by
 have h1:(0:Int)<j:=hc;exact mod_int' (WS hc) (by rw[Int.fmod_eq_emod_of_nonneg i (XY hc)];exact q)
theorem afl:OpR X (binaryOp .Pow) (rI ajy λi j=>.int (i^j.toNat)):=opI λ_ _ _ _ _ _ _ hc q=>pow_int_small hc.1 hc.2.1 hc.2.2 q
theorem unI{f:Value->Sem Value}{g:Int->Int}
 (rule:∀(i:Int)(t:Tok)(s:Shared)(Q:Ε)(E:Ε),Q (.int (g i) s.toks) { s with toks:=s.toks+1 }->wpAny (model X.prog X.w) X.A (f (.int i t)) Q E s) :
  UnR X f (rU λi=>.int (g i)):=by
 intro aa s σ H x v Q I rx h;obtain⟨i,rfl,q⟩:=h;obtain⟨t,rfl⟩:=rx;exact rule i t s _ _ ⟨.int (g i),H,I.tok _,⟨_,rfl⟩,q⟩
theorem aex:UnR X (unaryOp .USub) (rU λi=>.int (-i)):=unI λ_ _ _ _ _ q=>neg_int q
end
noncomputable def acG:V->V->Bool
 |.non,.non=>true|.non,.int _=>true|.int _,.non=>true|.non,.bl _=>true|.bl _,.non=>true|.non,.str _=>true|.str _,.non=>true
 |.int _,.int _=>true|.bl _,.bl _=>true|.str _,.str _=>true|.byt _,.byt _=>true
 |.int _,.str _=>true|.str _,.int _=>true|.bl _,.str _=>true|.str _,.bl _=>true
 |_,_=>false
def rEq:R2:=λx y H Q=>acG x y=true/\Q (.bl (decide (x=y))) H
def rNe:R2:=λx y H Q=>acG x y=true/\Q (.bl (!decide (x=y))) H
theorem WW{i j:Int} : decide (V.int i=V.int j)=(i==j):=by
 rw[Bool.eq_iff_iff];simp
theorem ZJ{i j:Bool} : decide (V.bl i=V.bl j)=(i==j):=by
 rw[Bool.eq_iff_iff];simp
theorem Wn{i j:Str} : decide (V.str i=V.str j)=(i==j):=by
 rw[Bool.eq_iff_iff];simp
theorem Wo{i j:Array UInt8} : decide (V.byt i=V.byt j)=(i.toList==j.toList):=by
 rw[Bool.eq_iff_iff];cases i;cases j;simp
section
variable{X:Cx}{a b c:Expr}{ta tb tc:TE}{pos:Pos}
theorem cZ{aa:Δ}{σ:St}{H:Hp}{s:Shared}{Q:VK}{k k':Bool}(I:Inv X aa σ H s)(q:Q (.bl k) H)(e:k=k'):EP X aa σ Q (.bool k') s:=by
 subst e;exact⟨.bl k,H,I,rfl,q⟩
theorem ag9:OpR X (compareOp .Eq) rEq:=by
 intro aa s σ H x y v u Q I rx ry h;obtain⟨hs,q⟩:=h;cases x with
 |non =>
  cases rx;cases y with
  |non=>cases ry;exact PySem.EqNone.eq_none_none (cZ I q (by simp))
  |bl j=>cases ry;exact PySem.EqNone.eq_none_bool (cZ I q (by simp))
  |int j=>obtain⟨t',rfl⟩:=ry;exact PySem.EqNone.eq_none_int (cZ I q (by simp))
  |str j=>obtain⟨t',rfl⟩:=ry;exact PySem.EqNone.eq_none_str (cZ I q (by simp))
  |_=>exact absurd (show false=true from hs) bw
 |bl i =>
  cases rx;cases y with
  |non=>cases ry;exact PySem.EqNone.eq_bool_none (cZ I q (by simp))
  |bl j=>cases ry;exact eq_bool (cZ I q ZJ)
  |str j=>obtain⟨t',rfl⟩:=ry;exact PySem.EqMixed.eq_bool_str (cZ I q (by simp))
  |_=>exact absurd (show false=true from hs) bw
 |int i =>
  obtain⟨t,rfl⟩:=rx;cases y with
  |non=>cases ry;exact PySem.EqNone.eq_int_none (cZ I q (by simp))
  |int j=>obtain⟨t',rfl⟩:=ry;exact eq_int (cZ I q WW)
  |str j=>obtain⟨t',rfl⟩:=ry;exact PySem.EqMixed.eq_int_str (cZ I q (by simp))
  |_=>exact absurd (show false=true from hs) bw
 |str i =>
  obtain⟨t,rfl⟩:=rx;cases y with
  |non=>cases ry;exact PySem.EqNone.eq_str_none (cZ I q (by simp))
  |bl j=>cases ry;exact PySem.EqMixed.eq_str_bool (cZ I q (by simp))
  |int j=>obtain⟨t',rfl⟩:=ry;exact PySem.EqMixed.eq_str_int (cZ I q (by simp))
  |str j=>obtain⟨t',rfl⟩:=ry;exact eq_str (cZ I q Wn)
  |_=>exact absurd (show false=true from hs) bw
 |byt i =>
  obtain⟨t,rfl⟩:=rx;cases y with
  |byt j=>obtain⟨t',rfl⟩:=ry;exact PySem.W.eq_bytes (cZ I q Wo)
  |_=>exact absurd (show false=true from hs) bw
 |_=>cases y<;>exact absurd (show false=true from hs) bw
theorem aju:OpR X (compareOp .NotEq) rNe:=by
 intro aa s σ H x y v u Q I rx ry h;obtain⟨hs,q⟩:=h;cases x with
 |non =>
  cases rx;cases y with
  |non=>cases ry;exact PySem.EqNone.ne_none_none (cZ I q (by simp))
  |bl j=>cases ry;exact PySem.EqNone.ne_none_bool (cZ I q (by simp))
  |int j=>obtain⟨t',rfl⟩:=ry;exact PySem.EqNone.ne_none_int (cZ I q (by simp))
  |str j=>obtain⟨t',rfl⟩:=ry;exact PySem.EqNone.ne_none_str (cZ I q (by simp))
  |_=>exact absurd (show false=true from hs) bw
 |bl i =>
  cases rx;cases y with
  |non=>cases ry;exact PySem.EqNone.ne_bool_none (cZ I q (by simp))
  |bl j=>cases ry;exact ne_bool (cZ I q (ZH not ZJ))
  |str j=>obtain⟨t',rfl⟩:=ry;exact PySem.EqMixed.ne_bool_str (cZ I q (by simp))
  |_=>exact absurd (show false=true from hs) bw
 |int i =>
  obtain⟨t,rfl⟩:=rx;cases y with
  |non=>cases ry;exact PySem.EqNone.ne_int_none (cZ I q (by simp))
  |int j=>obtain⟨t',rfl⟩:=ry;exact ne_int (cZ I q (ZH not WW))
  |str j=>obtain⟨t',rfl⟩:=ry;exact PySem.EqMixed.ne_int_str (cZ I q (by simp))
  |_=>exact absurd (show false=true from hs) bw
 |str i =>
  obtain⟨t,rfl⟩:=rx;cases y with
  |non=>cases ry;exact PySem.EqNone.ne_str_none (cZ I q (by simp))
  |bl j=>cases ry;exact PySem.EqMixed.ne_str_bool (cZ I q (by simp))
  |int j=>obtain⟨t',rfl⟩:=ry;exact PySem.EqMixed.ne_str_int (cZ I q (by simp))
  |str j=>obtain⟨t',rfl⟩:=ry;exact ne_str (cZ I q (ZH not Wn))
  |_=>exact absurd (show false=true from hs) bw
 |byt i =>
  obtain⟨t,rfl⟩:=rx;cases y with
  |byt j=>obtain⟨t',rfl⟩:=ry;exact PySem.W.ne_bytes (cZ I q (ZH not Wo))
  |_=>exact absurd (show false=true from hs) bw
 |_=>cases y<;>exact absurd (show false=true from hs) bw
theorem ahJ:OpR X (compareOp .Lt) (rI0 λi j=>.bl (decide (i<j))):=abJ λ_ _ _ _ _ _ _ q=>lt_int q
theorem akD:OpR X (compareOp .LtE) (rI0 λi j=>.bl (decide (i<=j))):=abJ λ_ _ _ _ _ _ _ q=>le_int q
theorem alh:OpR X (compareOp .Gt) (rI0 λi j=>.bl (decide (j<i))):=abJ λ_ _ _ _ _ _ _ q=>gt_int q
theorem ah5:OpR X (compareOp .GtE) (rI0 λi j=>.bl (decide (j<=i))):=abJ λ_ _ _ _ _ _ _ q=>ge_int q
theorem aeR:OpR X (compareOp .Is) (λx y H Q=>y=.non/\Q (.bl (decide (x=.non))) H):=by
 intro aa s σ H x y v u Q I rx ry h;obtain⟨rfl,q⟩:=h;cases ry;refine is_none_gen (cZ I q ?_);cases x<;>first
  |(cases rx;rfl)
  |(obtain⟨t,rfl⟩:=rx;rfl)
theorem adM:OpR X (compareOp .IsNot) (λx y H Q=>y=.non/\Q (.bl (!decide (x=.non))) H):=by
 intro aa s σ H x y v u Q I rx ry h;obtain⟨rfl,q⟩:=h;cases ry;refine isnot_none_gen (cZ I q ?_);cases x<;>first
  |(cases rx;rfl)
  |(obtain⟨t,rfl⟩:=rx;rfl)
theorem aao(b:Expr){op:CmpOp}(h:op≠.In:=by decide)(h2:op≠.NotIn:=by decide):behindInMarks op b=false:=by
 have e1:(op==CmpOp.In)=false:=by cases op<;>first|rfl|exact absurd rfl h
 have e2:(op==CmpOp.NotIn)=false:=by cases op<;>first|rfl|exact absurd rfl h2
 cases b<;>simp[behindInMarks,e1,e2]
theorem adw{op:CmpOp}{r:R2}(ho:OpR X (compareOp op) r)(ha:PE X a ta)(hb:PE X b tb)(hm:behindInMarks op b=false):PE X (.Compare a [op] [b] pos) (tOp r ta tb):=by
 intro aa s σ H Q I h;exact wpAny_Compare1 (ags ha hb I h λv u s2 x y H2 I2 rx ry q=>ho aa s2 σ H2 x y v u Q I2 rx ry q) hm
def aen(t:TE):TT:=λσ H Q=>t σ H λx H'=>∃k,x=.bl k/\Q k H'
theorem acO{op:CmpOp}{r:R2}(ho:OpR X (compareOp op) r)(ha:PE X a ta)(hb:PE X b tb)(hm:behindInMarks op b=false):PT X (.Compare a [op] [b] pos) (aen (tOp r ta tb)):=by
 intro aa s σ H Q I h;refine wpAny_isTrue_Compare1 (thn (ha aa s σ H _ I h) λv s1 ⟨x,H1,I1,r1,q1⟩=>thn (hb aa s1 σ H1 _ I1 q1) λu s2 ⟨y,H2,I2,r2,q2⟩ =>
  thn (ho aa s2 σ H2 x y v u _ I2 r1 r2 q2) λc s3 ⟨z,H3,I3,r3,k,e,q3⟩=>?_) hm
 subst e;cases r3;exact wpAny_truthy_bool ⟨H3,I3,q3⟩
def TX(r r':R2)(ta tb tc:TE):TE:=λσ H Q=>ta σ H λx H1=>tb σ H1 λy H2=>r x y H2 λz H3=>∃k,z=.bl k /\
 (if k=true then tc σ H3 λw' H4=>r' y w' H4 Q else Q (.bl false) H3)
theorem abt{op du:CmpOp}{r r':R2}(ho:OpR X (compareOp op) r)(di:OpR X (compareOp du) r')(ha:PE X a ta)(hb:PE X b tb)(hc:PE X c tc)
 (hm:lastMarks [op,du] [b,c]=false:=by with_unfolding_all rfl):PE X (.Compare a [op,du] [b,c] pos) (TX r r' ta tb tc):=by
 intro aa s σ H Q I h;refine Compare_chain (thn (ha aa s σ H _ I h) λv s1 ⟨x,H1,I1,r1,q1⟩=>chain_link (thn (hb aa s1 σ H1 _ I1 q1) λu s2 ⟨y,H2,I2,r2,q2⟩ =>
  thn (ho aa s2 σ H2 x y v u _ I2 r1 r2 q2) λd s3 ⟨z,H3,I3,r3,k,e,q3⟩=>?_)) hm
 subst e;cases r3;refine wpAny_truthy_bool ?_;cases k with
 |false=>exact ite_ff ⟨.bl false,H3,I3,rfl,q3⟩
 |true=>exact ite_tt (chain_last (thn (hc aa s3 σ H3 _ I3 q3) λw' s4 hP=>by obtain⟨z',H4,I4,r4,q4⟩:=hP;exact di aa s4 σ H4 y z' u w' Q I4 r2 r4 q4))
theorem Zc{op du:CmpOp}{r r':R2}(ho:OpR X (compareOp op) r)(di:OpR X (compareOp du) r')(ha:PE X a ta)(hb:PE X b tb)(hc:PE X c tc)
 (hm:lastMarks [op,du] [b,c]=false:=by with_unfolding_all rfl):PT X (.Compare a [op,du] [b,c] pos) (aen (TX r r' ta tb tc)):=by
 intro aa s σ H Q I h;refine isTrue_chain (thn (ha aa s σ H _ I h) λv s1 ⟨x,H1,I1,r1,q1⟩=>test_link (thn (hb aa s1 σ H1 _ I1 q1) λu s2 ⟨y,H2,I2,r2,q2⟩ =>
  thn (ho aa s2 σ H2 x y v u _ I2 r1 r2 q2) λd s3 ⟨z,H3,I3,r3,k,e,q3⟩=>?_)) hm
 subst e;cases r3;refine wpAny_truthy_bool ?_;cases k with
 |false =>
  obtain⟨k',e',q'⟩:=q3;cases e';exact ite_ff ⟨H3,I3,q'⟩
 |true =>
  refine ite_tt (test_last (thn (hc aa s3 σ H3 _ I3 q3) λw' s4 ⟨z',H4,I4,r4,q4⟩=>thn (di aa s4 σ H4 y z' u w' _ I4 r2 r4 q4) λd' s5 hP=>?_));obtain⟨z2,H5,I5,r5,k2,e2,q5⟩:=hP;subst e2;cases r5;exact wpAny_truthy_bool ⟨H5,I5,q5⟩
def ahF(K:Frag)(x:V)(H:Hp)(k:Bool):Prop :=
 match x with
 |.non=>k=false
 |.bl b=>k=b
 |.int i=>k=(i != 0)
 |.str y=>y.length<=sizeLine/\k=((y.length:Int) != 0)
 |.byt y=>y.size<=sizeLine/\k=((y.size:Int) != 0)
 |.ref p=>(∃xs,SqL K H p xs/\k = !xs.isEmpty)\/(∃xs,SqT K H p xs/\k = !xs.isEmpty)\/∃kvs,H p=some (.dK kvs)/\k = !kvs.isEmpty
 |_=>False
theorem U5{κ:Type}{kvs:List (κ×V)}{vs:List (κ×Value)}(r:KV kvs vs):(!vs.isEmpty) = !kvs.isEmpty:=by
 cases r<;>rfl
theorem JT{xs:Ζ}{its:Θ}(r:Vals xs its):(!its.toArray.isEmpty) = !xs.isEmpty:=by
 cases r<;>simp
theorem wj:(sizeLine:Nat)<2^63:=by rw[sizeLine_eq];decide
theorem afC:amo X (λx H Q=>∃k,ahF X.K x H k/\Q k H):=by
 intro aa s σ H x v Q I rx h;obtain⟨k,e,q⟩:=h;have hl:=wj;have hs:sizeLine=16777216:=sizeLine_eq;cases x with
 |non =>
  cases rx;have e':k=false:=e;subst e';exact truthy_none ⟨H,I,q⟩
 |bl b =>
  cases rx;have e':k=b:=e;subst e';exact wpAny_truthy_bool ⟨H,I,q⟩
 |int i =>
  obtain⟨t,rfl⟩:=rx;have e':k=(i != 0):=e;subst e';exact PySem.P.truthy_int ⟨H,I,q⟩
 |str y =>
  obtain⟨t,rfl⟩:=rx;obtain⟨hy,e'⟩ : y.length<=sizeLine/\k=((y.length:Int) != 0):=e;subst e';exact PySem.P.truthy_str (by lia) ⟨H,I.tok _,q⟩
 |byt y =>
  obtain⟨t,rfl⟩:=rx;obtain⟨hy,e'⟩ : y.size<=sizeLine/\k=((y.size:Int) != 0):=e;subst e';exact PySem.W.truthy_bytes (aL hy (by decide)) ⟨H,I.tok _,q⟩
 |ref p =>
  cases rx;have e':(∃xs,SqL X.K H p xs/\k = !xs.isEmpty)\/(∃xs,SqT X.K H p xs/\k = !xs.isEmpty)\/∃kvs,H p=some (.dK kvs)/\k = !kvs.isEmpty:=e;rcases e' with⟨xs,hx,e'⟩|⟨xs,hx,e'⟩|⟨kvs,hx,e'⟩
  .subst e';obtain⟨its,r,pl,hz⟩:=I.list hx;have aI:=r.length;exact wpAny_truthy_list pl.isList (by simp only[aX];lia) ⟨H,I.tok _,by rw[JT r];exact q⟩
  .subst e';obtain⟨its,r,pl,hz⟩:=I.tuple hx;have aI:=r.length;exact truthy_tuple pl (by simp only[aX];lia) ⟨H,I.tok _,by rw[JT r];exact q⟩
  .subst e';obtain⟨hz,hS,vs,r,m⟩ : kvs.length<=sizeLine/\(p==sysModules)=false/\∃vs,KV kvs vs/\s.heap.DictOf (iM X.prog X.w) p vs:=I.hok p _ hx;have aI:kvs.length=vs.length:=Paired.length r;exact wpAny_truthy_dict hS m (by lia) ⟨H,I.tok _,by rw[U5 r];exact q⟩
 |_=>exact(show False from e).elim
theorem aaZ(ha:PE X a ta)(he:∀ck,isTrue a X.env ck=(do let v <- ck;standAt a.pos;holding [v] (truthy v))) :
  PT X a (λσ H Q=>ta σ H λx H'=>∃k,ahF X.K x H' k/\Q k H'):=by
 intro aa s σ H Q I h;exact isTrue_plain (thn (ha aa s σ H _ I h) λv s1 hP=>by obtain⟨x,H1,I1,r1,q1⟩:=hP;exact afC aa s1 σ H1 x v Q I1 r1 q1) (he _)
theorem Uv:OpR X (binaryOp .Add) (λx y H Q=>∃i j,x=.str i/\y=.str j/\i.length+j.length<=sizeLine/\Q (.str (i++j)) H):=by
 intro aa s σ H x y v u Q I rx ry h;obtain⟨i,j,rfl,rfl,hz,q⟩:=h;obtain⟨t,rfl⟩:=rx;obtain⟨t',rfl⟩:=ry;exact add_str (λt' tk=>⟨.str (i++j),H,I.tok _,⟨_,rfl⟩,q⟩) hz
theorem vals1{x:V}{us:Θ}(r:Vals [x] us):∃u,us=[u]/\RelV x u:=by
 cases r with
 |cons r1 r2=>cases r2;exact⟨_,rfl,r1⟩
theorem Z2:i_ X (.builtin "abs") (λxs H Q=>∃i,xs=[.int i]/\Q (.int (if i<0 then -i else i)) H):=by
 intro aa s σ H xs us Q I r h;obtain⟨i,rfl,q⟩:=h;obtain⟨u,rfl,t,rfl⟩:=vals1 r;exact call_abs_int λu tk=>⟨.int (if i<0 then -i else i),H,I.tok _,⟨_,rfl⟩,q⟩
theorem X4:i_ X (.type "int") (λxs H Q=>(∃i,xs=[.int i]/\Q (.int i) H)\/∃k,xs=[.bl k]/\Q (.int (if k then 1 else 0)) H):=by
 intro aa s σ H xs us Q I r h;rcases h with⟨i,rfl,q⟩|⟨k,rfl,q⟩
 .obtain⟨u,rfl,t,rfl⟩:=vals1 r;exact call_int_int ⟨.int i,H,I,⟨_,rfl⟩,q⟩
 .obtain⟨u,rfl,r1⟩:=vals1 r;cases r1;exact call_int_bool ⟨.int (if k then 1 else 0),H,I.tok _,⟨_,rfl⟩,q⟩
end
structure Vl(h:Heap)(x dx C:Addr)(mA:Str->Ω):Prop where
 obj:h.get? x=some (instObj C dx)
 ns:h.Ns1 dx mA
 ne:dx≠x
theorem YL{h:Heap}{dx:Addr}{mA:Str->Ω}(n:h.Ns1 dx mA):∃od,h.get? dx=some od/\∀name,lookIn name od=some (mA name):=by
 obtain⟨o,es,ep,ho,hd,hk,_,hm⟩:=n;refine⟨o,ho,λname=>?_⟩;have e:=hm name;unfold nsFind findBy at e;rw[<- Array.find?_toList]at e;unfold lookIn;rw[hd];dsimp only;split
 .rename_i y q
  rw[q]at e;exact ZH some e
 .rename_i q
  rw[q]at e;have a:es.toList.any (·.refKey)=false:=by
   rw[List.any_eq_false];intro y hy;obtain⟨z,t,gT⟩:=hk y (Array.mem_toList_iff.mp hy);simp[DictEntry.refKey,gT]
  have a':¬es.toList.any (·.refKey)=true:=by rw[a];exact bw
  rw[ZZ a'];exact ZH some e
theorem Vl.look{h:Heap}{x dx C:Addr}{mA:Str->Ω}(I:Vl h x dx C mA):∃od,PySem.W.InstAt h x (instObj C dx) C (some od)/\∀name,lookIn name od=some (mA name) :=
 let⟨od,ho,hl⟩:=YL I.ns
 ⟨od,⟨I.obj,rfl,rfl,ho⟩,hl⟩
section
variable{prog:Program}{w:World}{A:Around}{E:Ε}{s:Shared}{K:Frag}{x dx C f:Addr}{mA:Str->Ω}{name:Str}{v:Value}
theorem get_map{l5:Bool}{Q:Ε}(X:K.In s.heap)(I:Vl s.heap x dx C mA)(hg:plainGet K C name=true)(hh:hasDictIn K C=true)
 (ha:findIn K (.ref C) name=some none)(hv:mA name=some v)(kH:handedIn v=true)(h:Q v { s with toks:=s.toks+1 }) :
  wpAny (model prog w) A (getAttr (.ref x) name l5) Q E s:=by
 obtain⟨od,J,hl⟩:=I.look;exact PySem.W.get_value X J (plainGet_of hg).1 (PySem.W.findObj_own hh ha rfl (by rw[hl,hv])) kH h
theorem aaW{pl:Sem Bool}{Q:Value×Θ->Shared->Prop}(X:K.In s.heap)(I:Vl s.heap x dx C mA)(hg:plainGet K C name=true)
 (hf:findIn K (.ref C) name=some (some (.ref f)))(ht:isFn K (.ref f)=true)(hv:mA name=none)(h:Q (.ref f,[.ref x]) s) :
  wpAny (model prog w) A (getMethod (.ref x) name pl) Q E s:=by
 obtain⟨od,J,hl⟩:=I.look;exact PySem.W.method_fn X J (plainGet_of hg).1 (plainGet_of hg).2 hf (beq_iff_eq.mp ht) (by show(lookIn name od).map (·.isSome)=some false;rw[hl,hv];rfl) h
theorem adf{ns:Φ}{Q:Unit->Shared->Prop}(X:K.In s.heap)(I:Vl s.heap x dx C mA)
 (hs:findIn K (.ref C) "__setattr__"=some (some (.builtin "object.__setattr__")))(hp:plainOver K C=true)(ht:takerIn K C name=some none)(hh:hasDictIn K C=true)
 (hw:PySem.Within mA ns)(hsz:ns.length<=sizeLine)
 (h:∀h',Vl h' x dx C (λy=>if y=name then some v else mA y)->Heap.SameBut dx s.heap h'->Q () { s with heap:=h',toks:=s.toks+2 }) :
  wpAny (model prog w) A (setAttr (.ref x) name v) Q E s:=by
 obtain⟨od,J,hl⟩:=I.look;refine PySem.W.set_plain X J hs (PySem.W.osa_open (s:={ s with toks:=s.toks+1 }) (r:=none) X J hp ht λb=>?_);obtain⟨cd,hc,bu⟩:=PySem.W.any_some hh;have hx:s.heap.get? x=some ⟨.ref C,some dx,.plain,#[]⟩:=I.obj;refine ZU (ZT (ZU (ZU (wpAny_loadPart hx (ZU (PySem.W.Looks.here (s:={ s with toks:=s.toks+1 }) (PySem.W.looks_clsIn X hc) ?_))))));rw[bu];refine ZT (a:=some dx) (ZU (ZT (ZU ?_)));refine wpAny_nsSet1 (s:={ s with toks:=s.toks+1 }) I.ns λh' hG eK=>?_;obtain⟨oD,esD,epD,hoD,hdD,hcD⟩:=hG.count (PySem.Within.cons name v hw);refine ZU (wpAny_lookBehind hoD (by rw[hdD];exact pastItsLine_dict (aL hcD (by rw[List.length_cons];exact Nat.succ_le_succ hsz))) ?_);exact ZT (h _ ⟨(eK.2 _ (Ne.symm I.ne)).trans I.obj,hG,I.ne⟩ eK)
theorem Zt{R:Result->Shared->Prop}{vs:Θ}{kw:List (Str×Value)}(X:K.In s.heap)(hm:makesIn K C=true)
 (hi:findIn K (.ref C) "__init__"=some (some (.ref f)))(hf:PySem.W.typeIn K (.ref f)=some (.type "function"))
 (h:codeAny (model prog w) (A.under (.builtin "type.__call__" ⟨.ref C::vs,kw⟩)) (.call (.ref f) ⟨.ref (s.heap.objs.size+1)::vs,kw⟩) (PySem.W.InitBack (s.heap.objs.size+1) R)
   { s with heap:=(s.heap.push emptyDict).push (instObj C s.heap.objs.size) }) :
  codeAny (model prog w) A (.call (.ref C) ⟨vs,kw⟩) R s:=by
 obtain⟨hh,g,d,t,os⟩:=s;exact PySem.W.make_core (PySem.W.makes_of X hm) (PySem.W.looks_findIn X hi) (λself=>PySem.W.bind_fn X self hf) (.inl rfl) h
end
noncomputable def vG(f:Str)(v:V):List (Str×V)->List (Str×V)
 |[]=>[(f,v)]
 |(g,x)::r=>if g=f then(g,v)::r else(g,x)::vG f v r
theorem Fp(f g:Str)(v:V):∀fs:List (Str×V),(vG f v fs).lookup g=if g=f then some v else fs.lookup g
 |[]=>by
  show List.lookup g [(f,v)]=_;by_cases h:g=f
  .have hb:(g==f)=true:=beq_iff_eq.mpr h;simp only[List.lookup,hb,ZY h]
  .have hb:(g==f)=false:=beq_eq_false_iff_ne.mpr h;simp only[List.lookup,hb,ZZ h]
 |(k,x)::r=>by
  have ih:=Fp f g v r;rw[show vG f v ((k,x)::r)=(if k=f then(k,v)::r else(k,x)::vG f v r)from rfl];by_cases hk:k=f
  .rw[ZY hk];by_cases h:g=k
   .have hb:(g==k)=true:=beq_iff_eq.mpr h;simp only[List.lookup,hb,ZY (h.trans hk)]
   .have hb:(g==k)=false:=beq_eq_false_iff_ne.mpr h;simp only[List.lookup,hb,ZZ (λe:g=f=>h (e.trans hk.symm))]
  .rw[ZZ hk];by_cases h:g=k
   .have hb:(g==k)=true:=beq_iff_eq.mpr h;simp only[List.lookup,hb,ZZ (λe:g=f=>hk (h.symm.trans e))]
   .have hb:(g==k)=false:=beq_eq_false_iff_ne.mpr h;simp only[List.lookup,hb];exact ih
theorem Ej(f:Str)(v:V):∀fs:List (Str×V),f∈(vG f v fs).map (·.1)/\∀g,g∈fs.map (·.1)->g∈(vG f v fs).map (·.1)
 |[]=>⟨by simp[vG],λg h=>by simp at h⟩
 |(k,x)::r=>by
  obtain⟨i1,i2⟩:=Ej f v r;rw[show vG f v ((k,x)::r)=(if k=f then(k,v)::r else(k,x)::vG f v r)from rfl];by_cases hk:k=f
  .rw[ZY hk];subst hk;exact⟨by simp,λg h=>by simpa using h⟩
  .rw[ZZ hk];refine⟨?_,λg h=>?_⟩
   .rw[List.map_cons];exact aJ _ i1
   .rw[List.map_cons]at h ⊢;rcases YU.mp h with e|e
    .exact YU.mpr (.inl e)
    .exact aJ _ (i2 g e)
theorem FJ(f:Str)(v:V):∀fs:List (Str×V),(vG f v fs).length<=fs.length+1
 |[]=>by simp[vG]
 |(k,x)::r=>by
  have ih:=FJ f v r;rw[show vG f v ((k,x)::r)=(if k=f then(k,v)::r else(k,x)::vG f v r)from rfl];by_cases hk:k=f
  .rw[ZY hk,List.length_cons,List.length_cons];exact Xs _
  .rw[ZZ hk,List.length_cons,List.length_cons];exact Nat.succ_le_succ ih
theorem zE.some_of{v:V}{o:Ω}(r:zE (some v) o):∃u,o=some u/\RelV v u:=by
 cases o with
 |none=>exact(show False from r).elim
 |some u=>exact⟨u,rfl,r⟩
theorem zE.none_of{o:Ω}(r:zE none o):o=none:=by
 cases o with
 |none=>rfl
 |some u=>exact(show False from r).elim
theorem Xn{v:V}{u:Value}(r:RelV v u):handedIn u=true:=by
 cases v with
 |non=>cases(show u=Value.none from r);rfl
 |bl b=>cases(show u=Value.bool b from r);rfl
 |int i=>obtain⟨t,e⟩:=(show ∃t,u=Value.int i t from r);cases e;rfl
 |str x=>obtain⟨t,e⟩:=(show ∃t,u=Value.str x t from r);cases e;rfl
 |byt b=>obtain⟨t,e⟩:=(show ∃t,u=Value.bytes b t from r);cases e;rfl
 |flt b=>obtain⟨t,e⟩:=(show ∃t,u=Value.float b t from r);cases e;rfl
 |ref a=>cases(show u=Value.ref a from r);rfl
 |ty n=>cases(show u=Value.type n from r);rfl
section
variable{P:Program}{w:World}{H H':Hp}{h h':Heap}{a C dx:Addr}{fs fs':List (Str×V)}
theorem Ht(hok:HOk P w H h)(e:H a=some (.ins C dx fs)):∃mA,Vl h a dx C mA/\(∀f,zE (fs.lookup f) (mA f))/\PySem.Within mA (fs.map (·.1))/\fs.length<=1000/\H dx=some (.own a):=by
 obtain⟨d,z,ne,ob,mA,n,r,q⟩:=(show gk P w H h a (.ins C dx fs)from hok a _ e);exact⟨mA,⟨ob,n,ne⟩,r,q,z,d⟩
end
structure Cls(K:Frag)(C:Addr):Prop where
 pg:plainGet K C Str.empty=true
 hd:hasDictIn K C=true
 po:plainOver K C=true
 sa:findIn K (.ref C) "__setattr__"=some (some (.builtin "object.__setattr__"))
theorem Cls.get{K:Frag}{C:Addr}(c:Cls K C)(f:Str):plainGet K C f=true:=c.pg
def cA(K:Frag)(C:Addr)(f:Str):Prop:=findIn K (.ref C) f=some none
theorem cA.taker{K:Frag}{C:Addr}{f:Str}(n:cA K C f):takerIn K C f=some none:=by
 unfold takerIn;rw[show findIn K (.ref C) f=some none from n]
 rfl
structure Meth(K:Frag)(C:Addr)(m:Str)(f:Addr):Prop where
 at_:findIn K (.ref C) m=some (some (.ref f))
 fn:isFn K (.ref f)=true
 kp:keepIn K (.ref f)=true
section
variable{X:Cx}{aa:Δ}{σ:St}{H:Hp}{s:Shared}{a C dx:Addr}{fs:List (Str×V)}{f:Str}{v:V}{A:Around}{E:Ε}
theorem U_{b:Bool}{Q:Ε}(I:Inv X aa σ H s)(e:H a=some (.ins C dx fs))(c:Cls X.K C)(n:cA X.K C f)(l:fs.lookup f=some v)
 (h:∀u s',Inv X aa σ H s'->RelV v u->Q u s'):wpAny (model X.prog X.w) A (getAttr (.ref a) f b) Q E s:=by
 obtain⟨mA,O,r,_,_,_⟩:=Ht I.hok e;obtain⟨u,hu,ru⟩:=zE.some_of (v:=v) (o:=mA f) (by rw[<- l];exact r f);exact get_map I.kIn O (c.get f) c.hd n hu (Xn ru) (h u _ (I.tok _) ru)
theorem JF{m:Str}{g:Addr}{pl:Sem Bool}{Q:Value×Θ->Shared->Prop}(I:Inv X aa σ H s)(e:H a=some (.ins C dx fs))(c:Cls X.K C)(k:Meth X.K C m g)(l:fs.lookup m=none)
 (h:Q (.ref g,[.ref a]) s):wpAny (model X.prog X.w) A (getMethod (.ref a) m pl) Q E s:=by
 obtain⟨mA,O,r,_,_,_⟩:=Ht I.hok e;have hn:mA m=none:=zE.none_of (by rw[<- l];exact r m);exact aaW I.kIn O (c.get m) k.at_ k.fn hn h
theorem T7{y:V}{u:Value}{Q:Unit->Shared->Prop}(I:Inv X aa σ H s)(e:H a=some (.ins C dx fs))(c:Cls X.K C)(n:cA X.K C f)(hl:fs.length<1000)(ry:RelV y u)
 (h:∀s',Inv X aa σ (upd H a (.ins C dx (vG f y fs))) s'->Q () s'):wpAny (model X.prog X.w) A (setAttr (.ref a) f u) Q E s:=by
 obtain⟨mA,O,r,wi,_,ho⟩:=Ht I.hok e;have hz:(fs.map (·.1)).length<=sizeLine:=by rw[ak,sizeLine_eq];exact aL (Y2 hl) (by decide)
 refine adf I.kIn O c.sa c.po n.taker c.hd wi hz λh' O' sb=>h _ ?_;have hd:∃o,h'.get? dx=some o:=by obtain⟨o,_,_,e',_⟩:=O'.ns;exact⟨o,e'⟩
 refine I.write (x:=a) (e:=dx) (by rw[e];exact True.intro) (.inr ho) (λb q hb z=>(sb.2 b hb).trans z) hd ?_;refine⟨by rw[cD O.ne];exact ho,?_,O.ne,O'.obj,_,O'.ns,λg=>?_,λg hg=>?_⟩
 .have:=FJ f y fs;lia
 .show zE ((vG f y fs).lookup g) (if g=f then some u else mA g);rw[Fp];by_cases q:g=f
  .rw[ZY q,ZY q];exact ry
  .rw[ZZ q,ZZ q];exact r g
 .by_cases q:g=f
  .rw[q];exact(Ej f y fs).1
  .refine(Ej f y fs).2 g (wi g λz=>hg ?_);show(if g=f then some u else mA g)=none;rw[ZZ q];exact z
theorem Inv.made(I:Inv X aa σ H s):Inv X aa σ (upd (upd H s.heap.objs.size (.own (s.heap.objs.size+1))) (s.heap.objs.size+1) (.ins C s.heap.objs.size []))
  { s with heap:=(s.heap.push emptyDict).push (instObj C s.heap.objs.size) }:=by
 have e1:(s.heap.push emptyDict).get? s.heap.objs.size=some emptyDict:=aW s.heap rfl;have e2:((s.heap.push emptyDict).push (instObj C s.heap.objs.size)).get? (s.heap.objs.size+1)=some (instObj C s.heap.objs.size):=by
  have:=aW (s.heap.push emptyDict) (o:=instObj C s.heap.objs.size) rfl;rwa[Heap.size_push]at this
 have e3:(s.heap.push emptyDict).Ns s.heap.objs.size (λ_=>none):=⟨emptyDict,#[],_,e1,rfl,(λe he=>absurd he (by simp)),λ_=>rfl⟩;have I1:=I.laid (a:=s.heap.objs.size) (o:=.own (s.heap.objs.size+1)) (h':=s.heap.push emptyDict) (t':=s.toks) (λb u q=>aH _ q) (aG _) ⟨_,e1⟩;refine I1.laid (a:=s.heap.objs.size+1) (o:=.ins C s.heap.objs.size []) (t':=s.toks) (λb u q=>aH _ q) (WG (Heap.size_push _ _)) ?_;have ne:s.heap.objs.size≠s.heap.objs.size+1:=aQ (X1 _);refine⟨by rw[cD ne,cM],aZ _,ne,e2,λ_=>none,(Heap.Ns1.of_empty e3).at λo q=>aH _ q,λ_=>True.intro,λy hy=>absurd rfl hy⟩
theorem acj{prog:Program}{w:World}{env:Env}{e:Expr}{f:Str}{pos:Pos}{s:Shared}{Q:Ε}(hb:attributeBase e f env (eval e env)=eval e env)
 (h:wpAny (model prog w) A (eval e env) (λo s₁=>wpAny (model prog w) A (getAttr o f true) Q E s₁) E s):wpAny (model prog w) A (eval (.Attribute e f pos) env) Q E s :=
 Attribute_any_ h (by rw[arm_eval_Attribute,hb])
end
def amU(K:Frag)(ta:TE)(f:Str):TE:=λσ H Q=>ta σ H λx H1=>∃a C dx fs v,x=.ref a/\H1 a=some (.ins C dx fs)/\Cls K C/\cA K C f/\fs.lookup f=some v/\Q v H1
def anA(K:Frag)(ta tv:TE)(f:Str):TS:=λD σ H=>tv σ H λy H1=>ta σ H1 λx H2=>∃a C dx fs,x=.ref a/\H2 a=some (.ins C dx fs)/\Cls K C/\cA K C f/\fs.length<1000 /\
 D.nx σ (upd H2 a (.ins C dx (vG f y fs)))
section
variable{X:Cx}{o e az:Expr}{f:Str}{pos br ay:Pos}{ta tv:TE}
theorem Ze(he:PE X e ta)(hb:attributeBase e f X.env (eval e X.env)=eval e X.env):PE X (.Attribute e f pos) (amU X.K ta f):=by
 intro aa s σ H Q I h;refine acj hb (thn (he aa s σ H _ I h) λu s1 h=>?_);obtain⟨x,H1,I1,rx,a,C,dx,fs,v,rfl,ea,c,n,l,q⟩:=h;obtain rfl:u=Value.ref a:=rx;exact U_ I1 ea c n l λu' s2 I2 ru=>⟨v,H1,I2,ru,q⟩
theorem agJ(ha:PE X o ta)(hv:PE X az tv)(hs:swapsWith az (some (.Attribute o f br)) pos.line X.env=pure false):PS X (.Assign [.Attribute o f br] az pos) (anA X.K ta tv f):=by
 intro aa s σ H D I h;refine plainObj_wpAny_Assign_Attribute (thn (hv aa s σ H _ I h) λu s1 ⟨y,H1,I1,ry,q⟩=>thn (ha aa s1 σ H1 _ I1 q) λov s2 h=>?_) hs;obtain⟨x,H2,I2,rx,a,C,dx,fs,rfl,ea,c,n,l,q2⟩:=h;obtain rfl:ov=Value.ref a:=rx;exact T7 I2 ea c n l ry λs3 I3=>⟨σ,_,I3,q2⟩
end
section
variable{X:Cx}{aa:Δ}{σ:St}{H:Hp}{s:Shared}{A:Around}{E:Ε}{Q:Ε}{c:Value}{b:Bool}
inductive Ey(K:Frag)(H:Hp):V->Value->Prop where
 |non:Ey K H .non (.type "NoneType")
 |bl (x:Bool):Ey K H (.bl x) (.type "bool")
 |int (i:Int):Ey K H (.int i) (.type "int")
 |str (x:Str):Ey K H (.str x) (.type "str")
 |flt (x:UInt64):Ey K H (.flt x) (.type "float")
 |lst {a:Addr}{xs:Ζ} (e:H a=some (.lst xs)):Ey K H (.ref a) (.type "list")
 |frz {a:Addr}{o:Obj}{xs:Ζ} (e:H a=some (.frz o (.lst xs))):Ey K H (.ref a) (.type "list")
 |tup {a:Addr}{xs:Ζ} (e:H a=some (.tup xs)):Ey K H (.ref a) (.type "tuple")
 |dK {a:Addr}{kvs:List (Key×V)} (e:H a=some (.dK kvs)):Ey K H (.ref a) (.type "dict")
 |ins {a C dx:Addr}{fs:List (Str×V)} (e:H a=some (.ins C dx fs)) (cl:Cls K C) (ha:findIn K (.ref C) "__class__"=some (some (.builtin "object.__class__")))
   (hn:specialIn K (.builtin "object.__class__") "__get__"=some (some (.builtin "getset_descriptor.__get__"))) (htk:PySem.W.takesIn K (.builtin "object.__class__")=some true)
   (hm:mroIn K C (.type "object")=some true):Ey K H (.ref a) (.ref C)
theorem Yz{x:V}{u t:Value}(I:Inv X aa σ H s)(rx:RelV x u)(ty:Ey X.K H x t)(e:kitOne X.K t c=some b)(h:∀tk,Q (.bool b) { s with toks:=tk }) :
  wpAny (model X.prog X.w) A (call (.builtin "isinstance") [u,c]) Q E s:=by
 cases ty with
 |non=>cases(show u=Value.none from rx);exact kia_one PySem.W.kitx_none I.kIn True.intro e (λz=>nomatch z) h
 |bl y=>cases(show u=Value.bool y from rx);exact kia_one PySem.W.kitx_bool I.kIn True.intro e (λz=>nomatch z) h
 |int i=>obtain⟨t,q⟩:=(show ∃t,u=Value.int i t from rx);cases q;exact kia_one PySem.W.kitx_int I.kIn True.intro e (λz=>nomatch z) h
 |str y=>obtain⟨t,q⟩:=(show ∃t,u=Value.str y t from rx);cases q;exact kia_one PySem.W.kitx_str I.kIn True.intro e (λz=>nomatch z) h
 |flt y=>obtain⟨t,q⟩:=(show ∃t,u=Value.float y t from rx);cases q;exact kia_one PySem.W.kitx_float I.kIn True.intro e (λz=>nomatch z) h
 |@lst a xs ea =>
  cases(show u=Value.ref a from rx);obtain⟨_,_,n,_,h1⟩:=(show gk X.prog X.w H s.heap a (.lst xs)from I.hok a _ ea);exact kia_one kitx_list I.kIn ⟨_,h1,rfl⟩ e (λz=>nomatch z) h
 |@frz a ob xs ea =>
  cases(show u=Value.ref a from rx);obtain⟨_,_,_,n,_,h1⟩:=(show gk X.prog X.w H s.heap a (.frz ob (.lst xs))from I.hok a _ ea);exact kia_one kitx_list I.kIn ⟨_,h1,rfl⟩ e (λz=>nomatch z) h
 |@tup a xs ea =>
  cases(show u=Value.ref a from rx);obtain⟨_,_,_,p⟩:=(show gk X.prog X.w H s.heap a (.tup xs)from I.hok a _ ea);obtain⟨o,h1,h2,_⟩:=p;exact kia_one kitx_tuple I.kIn ⟨o,h1,h2⟩ e (λz=>nomatch z) h
 |@dK a kvs ea =>
  cases(show u=Value.ref a from rx);obtain⟨_,_,vs,_,p⟩:=(show gk X.prog X.w H s.heap a (.dK kvs)from I.hok a _ ea);obtain⟨o,es,ep,h1,h2,_⟩:=p;exact kia_one PySem.W.kitx_dict I.kIn ⟨o,h1,h2.1⟩ e (λz=>nomatch z) h
 |@ins a C dx fs ea cl ha hn htk hm =>
  cases(show u=Value.ref a from rx);obtain⟨mA,O,_⟩:=Ht I.hok ea;obtain⟨od,J,_⟩:=O.look;exact kia_one (PySem.W.kitx_own (cl.get _) cl.hd ha hn htk hm) I.kIn J e (λz=>nomatch z) h
end
structure fB(k:Nat)(A:Around):Prop where
 hd:A.handled=none
 dp:A.depth+3*k+5<recursionLimit
 un:A.units+16*k+200<cLine
theorem fB.mono{j k:Nat}{A:Around}(r:fB k A)(h:j<=k):fB j A:=⟨r.hd,by have:=r.dp;lia,by have:=r.un;lia⟩
theorem fB.md{k n:Nat}{A:Around}(h:fB n A)(e:k<=n:=by decide):fB k A:=h.mono e
theorem fB.deeper{k:Nat}{A:Around}(r:fB (k+1) A)(env:Env):fB k (A.deeper env) :=
 ⟨r.hd,by have:=r.dp;show A.depth+1+3*k+5<_;lia,by have:=r.un;show A.units+3+16*k+200<_;lia⟩
theorem Uh{A:Around}{C:Addr}{us:Θ}{kw:List (Str×Value)} : (A.under (.builtin "type.__call__" ⟨.ref C::us,kw⟩)).depth=A.depth+1:=by
 first|rfl|simp[Around.under,Code.weight,Code.isCreation,Code.isGuard,Code.isCaller,Code.frames,Code.isFrame,guardIds]
theorem UG{A:Around}{C:Addr}{us:Θ}{kw:List (Str×Value)} : (A.under (.builtin "type.__call__" ⟨.ref C::us,kw⟩)).units=A.units+1:=by
 first|rfl|simp[Around.under,Code.cUnits,Code.frames,Code.isFrame]
theorem fB.make{k:Nat}{A:Around}(r:fB (k+1) A)(C:Addr)(us:Θ)(kw:List (Str×Value)):fB k (A.under (.builtin "type.__call__" ⟨.ref C::us,kw⟩)) :=
 ⟨r.hd,by have:=r.dp;rw[Uh];lia,by have:=r.un;rw[UG];lia⟩
theorem fB.depth{k:Nat}{A:Around}(r:fB k A):A.depth<recursionLimit:=by have:=r.dp;lia
theorem fB.units{k:Nat}{A:Around}(r:fB k A):A.units+64<cLine:=by have:=r.un;lia
def afV:TA:=λ_ H Q=>Q [] H
def ajU(ta:TE)(tr:TA):TA:=λσ H Q=>ta σ H λx H1=>tr σ H1 λxs H2=>Q (x::xs) H2
section
variable{X:Cx}{e:Expr}{es:List Expr}{te:TE}{t:TA}{pos:Pos}
theorem M7:PA X [] afV:=λ_ _ _ _ H Q I h=>Calls.spliced_nil ⟨[],H,I,.nil,h⟩
theorem pF(ha:PE X e te)(hr:PA X es t)(hs:starEach (e::es) X.env=(false,eval e X.env)::starEach es X.env:=by rfl):PA X (e::es) (ajU te t):=by
 intro pos aa s σ H Q I h;rw[hs];show wpAny _ _ (spliced ((false,eval e X.env)::backTo pos (starEach es X.env))) _ _ s;refine Calls.spliced_cons (thn (ha aa s σ H _ I h) λu s1 hP=>?_);obtain⟨x,H1,I1,r1,q1⟩:=hP;exact thn (hr pos aa s1 σ H1 _ I1 q1) λus s2 hP=>by obtain⟨xs,H2,I2,r2,q2⟩:=hP;exact⟨x::xs,H2,I2,.cons r1 r2,q2⟩
def am7(t:TA):TE:=λσ H Q=>t σ H λxs H1=>xs.length<=sizeLine/\∀p,H1 p=none->Q (.ref p) (upd H1 p (.tup xs))
def an1(t:TA):TE:=λσ H Q=>t σ H λxs H1=>xs.length<=sizeLine/\∀p,H1 p=none->Q (.ref p) (upd H1 p (.lst xs))
theorem afK{x1}(h:PA X es t):PE X (.Tuple es x1 pos) (am7 t):=by
 intro aa s σ H Q I hq;refine wpAny_Tuple_spliced (thn (h pos aa s σ H _ I hq) λus s1 ⟨xs,H1,I1,r,z,q⟩=>⟨by rw[<- r.length];exact z,?_⟩);have hf:H1 s1.heap.objs.size=none:=I1.hok.fresh (aG _);refine⟨.ref s1.heap.objs.size,upd H1 s1.heap.objs.size (.tup xs),I1.laid (t':=s1.toks) (λb u e=>aH _ e) (aG _) ?_,rfl,q _ hf⟩;exact⟨z,us,r,⟨_,aW _ rfl,rfl,_,rfl⟩⟩
theorem aeY(h:PA X es t):PE X (.List es pos) (an1 t):=by
 intro aa s σ H Q I hq;refine wpAny_List_spliced (thn (h pos aa s σ H _ I hq) λus s1 ⟨xs,H1,I1,r,z,q⟩=>⟨by rw[<- r.length];exact z,?_⟩);have hf:H1 s1.heap.objs.size=none:=I1.hok.fresh (aG _);refine⟨.ref s1.heap.objs.size,upd H1 s1.heap.objs.size (.lst xs),I1.laid (t':=s1.toks) (λb u e=>aH _ e) (aG _) ?_,rfl,q _ hf⟩;exact⟨z,us,0,r,aW _ rfl⟩
end
abbrev Sp:=Ζ->Hp->VK->XK->Prop
abbrev CXT:=List Env->Hp->Shared->XK->Value->Shared->Prop
structure TF(P:Program)(w:World)(K:Frag)(mg:Str->Ω)(base:Heap)(A:Around)(outer:List Env)(s:Shared)(H:Hp):Prop where
 frames:A.frames=some outer
 mod:Mod K mg base
 bs:∀b o,base.get? b=some o->s.heap.get? b=some o/\H b=none
 bsz:base.objs.size<=s.heap.objs.size
 funs:s.heap.FunFrames base outer
 frf:∀b∈frs outer,H b=none
 hok:HOk P w H s.heap
 bare:AllBare s.gens
def CE(outer:List Env)(P:Program)(w:World)(H:Hp)(s:Shared)(Q:VK)(u:Value)(s':Shared):Prop :=
 ∃v H',s'.os=s.os/\AllBare s'.gens/\Un (frs outer) [] H H' s.heap s'.heap/\HOk P w H' s'.heap/\RelV v u/\Q v H'
def CR(CX:CXT)(outer:List Env)(P:Program)(w:World)(H:Hp)(s:Shared)(Q:VK)(E:XK)(r:Result)(s':Shared):Prop :=
 match r with
 |.ok (.ret u)=>CE outer P w H s Q u s'
 |.ok _=>False
 |.error e=>CX outer H s E e s'
structure cj(P:Program)(w:World)(K:Frag)(mg:Str->Ω)(base:Heap)(CX:CXT)(k:Nat)(f:Addr)(fd:FuncData)(ps:Φ)(sp:Sp):Prop where
 len:∀vs H Q E,sp vs H Q E->vs.length=ps.length
 run:∀(A:Around)(outer:List Env)(s:Shared)(H:Hp)(args:Args)(us:Θ)(vs:Ζ)(Q:VK)(E:XK),fB k A->TF P w K mg base A outer s H->BindsTo s fd args (ps.zip us)->Vals vs us->sp vs H Q E ->
  codeAny (model P w) A (.call (.ref f) args) (CR CX outer P w H s Q E) s
theorem cj.imp{P:Program}{w:World}{K:Frag}{mg:Str->Ω}{base:Heap}{CX:CXT}{k:Nat}{f:Addr}{fd:FuncData}{ps:Φ}{sp sp':Sp}(F:cj P w K mg base CX k f fd ps sp)
 (h:∀vs H Q E,sp' vs H Q E->sp vs H Q E):cj P w K mg base CX k f fd ps sp' :=
 ⟨λvs H Q E q=>F.len vs H Q E (h _ _ _ _ q),λA outer s H args us vs Q E hr he hb hv hs=>F.run A outer s H args us vs Q E hr he hb hv (h _ _ _ _ hs)⟩
theorem TF.make{P:Program}{w:World}{K:Frag}{mg:Str->Ω}{base:Heap}{A:Around}{outer:List Env}{s:Shared}{H:Hp}(e:TF P w K mg base A outer s H)(C:Addr)(us:Θ)(kw:List (Str×Value)) :
  TF P w K mg base (A.under (.builtin "type.__call__" ⟨.ref C::us,kw⟩)) outer s H:=⟨by first|exact e.frames|(simpa[Around.under,Code.envs,Code.isFrame,pushEnvs]using e.frames),e.mod,e.bs,e.bsz,e.funs,e.frf,e.hok,e.bare⟩
section
variable{X:Cx}{aa:Δ}{σ:St}{H:Hp}{s s':Shared}
theorem Inv.env0(I:Inv X aa σ H s):TF X.prog X.w X.K X.mg X.base X.A X.stack s H :=
 ⟨I.ok.frames,I.ok.mod,I.bs,aL I.ok.bsz I.sz,I.stack,I.stkFree,I.hok,I.bare⟩
theorem Inv.after{Q:VK}{u:Value}(I:Inv X aa σ H s)(h:CE X.stack X.prog X.w H s Q u s'):EP X aa σ Q u s':=by
 obtain⟨v,H',os,bare,un,hok,r,q⟩:=h;obtain⟨hh,g,d,t,os'⟩:=s';obtain rfl:os'=s.os:=os;exact⟨v,H',I.call (h':=hh) (g':=g) (d':=d) (t':=t) (ch:=[]) un hok bare (λb z=>absurd z (by simp)),r,q⟩
end
def alE(sp:Sp)(c5:Ζ)(E:XK)(t:TA):TE:=λσ H Q=>t σ H λvs H1=>sp (vs++c5) H1 Q E
def aek(C:Addr)(m:Str)(sp:Sp)(c5:Ζ)(E:XK)(ta:TE)(t:TA):TE:=λσ H Q=>ta σ H λx H1=>∃a dx fs,x=.ref a/\H1 a=some (.ins C dx fs)/\fs.lookup m=none /\
 t σ H1 λvs H2=>sp (x::(vs++c5)) H2 Q E
def ajI(C:Addr)(sp:Sp)(c5:Ζ)(E:XK)(t:TA):TE:=λσ H Q=>t σ H λvs H1=>∀x dx,H1 x=none->H1 dx=none->dx≠x ->
 sp (.ref x::(vs++c5)) (upd (upd H1 dx (.own x)) x (.ins C dx [])) (λv H2=>v=.non/\Q (.ref x) H2) E
def Binds(K:Frag)(fd:FuncData)(ps:Φ)(ds:Θ):Prop :=
 ∀(s:Shared)(us:Θ),K.In s.heap->(us++ds).length=ps.length->BindsTo s fd ⟨us,[]⟩ (ps.zip (us++ds))
theorem Binds.all{K:Frag}{fd:FuncData}{ps:Φ}(h:∀us:Θ,us.length=ps.length->bindArgs fd ⟨us,[]⟩=pure (ps.zip us)):Binds K fd ps []:=λs us _ hl=>by
 rw[List.append_nil]at hl ⊢;exact .of_eq (h us hl)
def Passes(CX:CXT)(X:Cx)(E:XK):Prop:=∀(aa:Δ)(σ:St)(H:Hp)(s:Shared)(e:Value)(s':Shared),Inv X aa σ H s->CX X.stack H s E e s'->X.xe e s'
section
variable{X:Cx}{CX:CXT}{k:Nat}{f C:Addr}{fd:FuncData}{ps:Φ}{sp:Sp}{c5:Ζ}{ds:Θ}{E:XK}{x m:Str}{p pos am:Pos}{e o:Expr}{es:List Expr}{ta:TE}{t:TA}
theorem Nx{aa:Δ}{σ:St}{H:Hp}{s:Shared}{Q:VK}{us:Θ}{vs:Ζ}(F:cj X.prog X.w X.K X.mg X.base CX k f fd ps sp)(hr:fB k X.A)(hb:Binds X.K fd ps ds)(hd:Vals c5 ds)(hx:Passes CX X E)
 (I:Inv X aa σ H s)(r:Vals vs us)(h:sp (vs++c5) H Q E):wpAny (model X.prog X.w) X.A (call (.ref f) us) (EP X aa σ Q) X.xe s:=by
 have r2:Vals (vs++c5) (us++ds):=r.append hd;have hl:(us++ds).length=ps.length:=by rw[<- r2.length];exact F.len _ _ _ _ h
 refine wpAny_call (codeAny_mono (F.run X.A X.stack s H ⟨us,[]⟩ (us++ds) (vs++c5) Q E hr I.env0 (hb s us I.kIn hl) r2 h) λr s' hq=>?_);cases r with
 |error e=>exact hx aa σ H s e s' I hq
 |ok fl =>
  cases fl with
  |ret u=>exact I.after hq
  |next=>exact False.elim hq
  |brk=>exact False.elim hq
  |cont=>exact False.elim hq
theorem ac8(F:cj X.prog X.w X.K X.mg X.base CX k f fd ps sp)(hr:fB k X.A)(hg:Gl X x)(hm:X.mg x=some (.ref f))(hk:keepIn X.K (.ref f)=true)(hb:Binds X.K fd ps ds)(hd:Vals c5 ds)(hx:Passes CX X E)
 (ha:PA X (e::es) t)(cc:(x==("__debug__":Str))=false:=by decide)(he:starEach (e::es) X.env=(false,eval e X.env)::starEach es X.env:=by rfl)(bg:(backTo pos (starEach es X.env)).any (·.1)=false:=by rfl) :
  PE X (.Call (.Name x p) (e::es) [] pos) (alE sp c5 E t):=by
 intro aa s σ H Q I h;refine wpAny_Call_Name_kw (GD I hg hm ?_ cc);refine callWith_K (h₀:=X.base) I.ok.mod.kin hk (thn (ha pos aa s σ H _ I h) λus s1 ⟨vs,H1,I1,r,q⟩=>⟨I1.kIn,?_⟩) he bg;exact Nx F hr hb hd hx I1 r q
theorem adk{pl:Sem Bool}(he:PE X o ta)(c:Cls X.K C)(hm:Meth X.K C m f)(F:cj X.prog X.w X.K X.mg X.base CX k f fd ps sp)(hr:fB k X.A)(hb:Binds X.K fd ps ds)(hd:Vals c5 ds)(hx:Passes CX X E)(ha:PA X (e::es) t)
 (b8:starEach (e::es) X.env=(false,eval e X.env)::starEach es X.env:=by rfl)(bg:(backTo pos (starEach es X.env)).any (·.1)=false:=by rfl)
 (ht:eval (.Call (.Attribute o m am) (e::es) [] pos) X.env=(do
   let ov <- eval o X.env
   standAt am.atName
   let(f,first) <- holding [ov] (getMethod ov m pl)
   callWith pos f first (backTo pos (starEach (e::es) X.env)) (backToKw pos (keywordEach [] X.env))):=by rfl) :
  PE X (.Call (.Attribute o m am) (e::es) [] pos) (aek C m sp c5 E ta t):=by
 intro aa s σ H Q I h;refine methodCall_KW (pl:=pl) (thn (he aa s σ H _ I h) λu s1 hP=>?_) ht;obtain⟨x,H1,I1,rx,a,dx,fs,ex,ea,l,q⟩:=hP;subst ex;obtain rfl:u=Value.ref a:=rx;refine JF I1 ea c hm l ?_;refine callWith_K (first:=[.ref a]) (h₀:=X.base) I.ok.mod.kin hm.kp (thn (ha pos aa s1 σ H1 _ I1 q) λus s2 ⟨vs,H2,I2,r,q2⟩=>⟨I2.kIn,?_⟩) b8 bg;exact Nx (us:=.ref a::us) (vs:=.ref a::vs) F hr hb hd hx I2 (.cons rfl r) q2
theorem Zg{pl:Sem Bool}(he:PE X o ta)(c:Cls X.K C)(hm:Meth X.K C m f)(F:cj X.prog X.w X.K X.mg X.base CX k f fd ps sp)(hr:fB k X.A)(hb:Binds X.K fd ps ds)(hd:Vals c5 ds)(hx:Passes CX X E)
 (ht:eval (.Call (.Attribute o m am) [] [] pos) X.env=(do
   let ov <- eval o X.env
   standAt am.atName
   let(f,first) <- holding [ov] (getMethod ov m pl)
   callWith pos f first (backTo pos (starEach [] X.env)) (backToKw pos (keywordEach [] X.env))):=by rfl) :
  PE X (.Call (.Attribute o m am) [] [] pos) (aek C m sp c5 E ta afV):=by
 intro aa s σ H Q I h;refine methodCall_KW (pl:=pl) (thn (he aa s σ H _ I h) λu s1 hP=>?_) ht;obtain⟨x,H1,I1,rx,a,dx,fs,ex,ea,l,q⟩:=hP;subst ex;obtain rfl:u=Value.ref a:=rx;refine JF I1 ea c hm l ?_;exact PySem.W.callWith_K0 (first:=[.ref a]) I1.kIn hm.kp (Nx (us:=[.ref a]) (vs:=[.ref a]) F hr hb hd hx I1 (.cons rfl .nil) q)
structure Mk(K:Frag)(C f:Addr):Prop where
 makes:makesIn K C=true
 init:findIn K (.ref C) "__init__"=some (some (.ref f))
 fn:isFn K (.ref f)=true
 kp:keepIn K (.ref C)=true
theorem aac{aa:Δ}{σ:St}{H:Hp}{s:Shared}{Q:VK}{us:Θ}{vs:Ζ}(M:Mk X.K C f)(F:cj X.prog X.w X.K X.mg X.base CX k f fd ps sp)(hr:fB (k+1) X.A)(hb:Binds X.K fd ps ds)(hd:Vals c5 ds)
 (hx:Passes CX X E)(I:Inv X aa σ H s)(r:Vals vs us)
 (h:∀x dx,H x=none->H dx=none->dx≠x->sp (.ref x::(vs++c5)) (upd (upd H dx (.own x)) x (.ins C dx [])) (λv H2=>v=.non/\Q (.ref x) H2) E) :
  wpAny (model X.prog X.w) X.A (call (.ref C) us) (EP X aa σ Q) X.xe s:=by
 have hq:=h (s.heap.objs.size+1) s.heap.objs.size (I.hok.fresh (Xs _)) (I.hok.fresh (aG _)) (aQ (X1 _));have I2:=Inv.made (C:=C) I;have r2:Vals (V.ref (s.heap.objs.size+1)::(vs++c5)) (Value.ref (s.heap.objs.size+1)::(us++ds)):=.cons rfl (r.append hd);have hl:(Value.ref (s.heap.objs.size+1)::us++ds).length=ps.length:=by
  have e:=r2.length;rw[F.len _ _ _ _ hq]at e;exact e.symm
 refine wpAny_call (Zt (f:=f) I.kIn M.makes M.init (beq_iff_eq.mp M.fn) (codeAny_mono (F.run _ X.stack _ _ ⟨Value.ref (s.heap.objs.size+1)::us,[]⟩ (Value.ref (s.heap.objs.size+1)::(us++ds)) _ _ E (hr.make C us [])
  (I2.env0.make C us []) (hb _ (Value.ref (s.heap.objs.size+1)::us) I2.kIn hl) r2 hq) λr s' dA=>?_))
 cases r with
 |error e=>exact hx aa σ _ _ e s' I2 dA
 |ok fl =>
  cases fl with
  |ret u =>
   obtain⟨v,H',I3,rv,ev,q3⟩:=I2.after dA;subst ev;exact⟨rv,⟨V.ref (s.heap.objs.size+1),H',I3,rfl,q3⟩⟩
  |next=>exact False.elim dA
  |brk=>exact False.elim dA
  |cont=>exact False.elim dA
theorem adN(M:Mk X.K C f)(F:cj X.prog X.w X.K X.mg X.base CX k f fd ps sp)(hr:fB (k+1) X.A)(hg:Gl X x)(hm:X.mg x=some (.ref C))(hb:Binds X.K fd ps ds)(hd:Vals c5 ds)(hx:Passes CX X E)
 (ha:PA X (e::es) t)(cc:(x==("__debug__":Str))=false:=by decide)(he:starEach (e::es) X.env=(false,eval e X.env)::starEach es X.env:=by rfl)(bg:(backTo pos (starEach es X.env)).any (·.1)=false:=by rfl) :
  PE X (.Call (.Name x p) (e::es) [] pos) (ajI C sp c5 E t):=by
 intro aa s σ H Q I h;refine wpAny_Call_Name_kw (GD I hg hm ?_ cc);refine callWith_K (h₀:=X.base) I.ok.mod.kin M.kp (thn (ha pos aa s σ H _ I h) λus s1 ⟨vs,H1,I1,r,q⟩=>⟨I1.kIn,?_⟩) he bg;exact aac M F hr hb hd hx I1 r q
end
structure bK(N P:Φ)(sc:Scope):Prop where
 kind:sc.kind=.function
 co:sc.isCoroutine=false
 gen:sc.isGenerator=false
 nd:N.Nodup
 pre:N.take P.length=P
 par:∀x∈P,sc.names.lookup x=some .local\/sc.names.lookup x=some .cell
 nofree:∀y∈sc.names,y.2≠.free
theorem Lh{kindOf:Str->Option NameKind}{x:Str} : ∀{binds:List (Str×Value)}{m:Str->Ω},(∀v,(x,v)∉binds)->bindL kindOf binds m x=m x
 |[],_,_=>rfl
 |(n,v)::r,m,h=>by
  unfold bindL;rw[Lh λw hw=>h w (aJ _ hw)];split
  .have:x≠n:=by rintro rfl;exact h v aO
   simp[this]
  .rfl
theorem Ld{kindOf:Str->Option NameKind}{x:Str} : ∀{binds:List (Str×Value)}{m:Str->Ω},(∀v,(x,v)∉binds)->bindC kindOf binds m x=m x
 |[],_,_=>rfl
 |(n,v)::r,m,h=>by
  unfold bindC;rw[Ld λw hw=>h w (aJ _ hw)];split
  .rfl
  .have:x≠n:=by rintro rfl;exact h v aO
   simp[this]
theorem K9{kindOf:Str->Option NameKind}{x:Str}{v:Value} : ∀{P:Φ}{vs:Θ}{i:Nat}{m:Str->Ω},P.Nodup->P[i]?=some x->vs[i]?=some v->kindOf x=some .local ->
  bindL kindOf (P.zip vs) m x=some v
 |[],_,_,_,_,h,_,_=>by simp at h
 |_::_,[],_,_,_,_,h,_=>by simp at h
 |p::P,w::vs,0,m,nd,h1,h2,hk=>by
  simp at h1 h2;subst h1;subst h2;show bindL kindOf ((p,w)::P.zip vs) m p=_;unfold bindL;rw[Lh λv hv=>(List.nodup_cons.mp nd).1 (UX hv).1,ZY hk];simp
 |p::P,w::vs,i+1,m,nd,h1,h2,hk=>by
  show bindL kindOf ((p,w)::P.zip vs) m x=_;unfold bindL;exact K9 (i:=i) (List.nodup_cons.mp nd).2 (by simpa using h1) (by simpa using h2) hk
theorem Ln{kindOf:Str->Option NameKind}{x:Str}{v:Value} : ∀{P:Φ}{vs:Θ}{i:Nat}{m:Str->Ω},P.Nodup->P[i]?=some x->vs[i]?=some v->kindOf x≠some .local ->
  bindC kindOf (P.zip vs) m x=some v
 |[],_,_,_,_,h,_,_=>by simp at h
 |_::_,[],_,_,_,_,h,_=>by simp at h
 |p::P,w::vs,0,m,nd,h1,h2,hk=>by
  simp at h1 h2;subst h1;subst h2;show bindC kindOf ((p,w)::P.zip vs) m p=_;unfold bindC;rw[Ld λv hv=>(List.nodup_cons.mp nd).1 (UX hv).1,ZZ hk];simp
 |p::P,w::vs,i+1,m,nd,h1,h2,hk=>by
  show bindC kindOf ((p,w)::P.zip vs) m x=_;unfold bindC;exact Ln (i:=i) (List.nodup_cons.mp nd).2 (by simpa using h1) (by simpa using h2) hk
noncomputable def start(N:Φ)(vs:Ζ):St:=vs.map some++List.replicate (N.length-vs.length) none
def MF(CX:CXT)(P:Program)(w:World)(K:Frag)(mg:Str->Ω)(base:Heap)(N:Φ)(ai:Str)(scope:Scope)(f:Addr)(cd:Value)(A:Around)(outer:List Env)(s:Shared)(H:Hp)(E:XK):Cx where
 prog:=P
 w:=w
 K:=K
 mg:=mg
 base:=base
 A:=A.deeper (envOfC ai scope s.heap.objs.size f cd)
 N:=N
 s₀:=s
 H₀:=H
 env:=envOfC ai scope s.heap.objs.size f cd
 outer:=outer
 stack:=envOfC ai scope s.heap.objs.size f cd::outer
 ex:=[]
 calm:=true
 fn:=λ_=>true
 pn:=[]
 xe:=λe s'=>wpAny (model P w) (A.deeper (envOfC ai scope s.heap.objs.size f cd)) (leaving (envOfC ai scope s.heap.objs.size f cd) e) (λ_ km=>CX outer H s E e km) (λe' km=>CX outer H s E e' km) s'
theorem QL{sc:Scope}{n:Nat}{x:Str}(h:sc.names.lookup x=some .cell):∃c,(cellsFrom n sc.names []).lookup x=some c:=by
 have q:=PySem.W.cellsFrom_some sc.names n [] (.inl h);exact Option.isSome_iff_exists.mp q
theorem X7{CX:CXT}{P:Program}{w:World}{K:Frag}{mg:Str->Ω}{base:Heap}{N ps:Φ}{ai:Str}{scope:Scope}{f:Addr}{cd:Value}{A:Around}{outer:List Env}{s s1:Shared}{H:Hp}{E:XK}{us:Θ}{vs:Ζ}
 (S:bK N ps scope)(hd:A.handled=none)(e0:TF P w K mg base A outer s H)(hl:vs.length=ps.length)(r:Vals vs us)
 (x:InCallC s s.heap.objs.size (bindL (envOfC ai scope s.heap.objs.size f cd).kindOf (ps.zip us) λ_=>none) (cellsFrom (s.heap.objs.size+1) scope.names []) (bindC (envOfC ai scope s.heap.objs.size f cd).kindOf (ps.zip us) λ_=>none) s1) :
  Inv (MF CX P w K mg base N ai scope f cd A outer s H E) [] (start N vs) H s1:=by
 have bg:ps.length<=N.length:=by have:=ZH List.length S.pre;rw[aY]at this;lia
 obtain⟨h1,tk,rfl,hk⟩:=x.done;have ib:∀b:Addr,b∉(MF CX P w K mg base N ai scope f cd A outer s H E).ex:=λb z=>absurd (show b∈([] : Ψ)from z) (by simp);refine⟨⟨e0.mod,S.kind,rfl,rfl,aG _,λy z c h1 h2=>?_,λy hy=>?_,λy c _ h=>?_,λ_=>hd,Around.frames_deeper e0.frames,.inr ⟨rfl,rfl⟩,λb z=>absurd z (ib b),e0.bs,e0.bsz,λb _ _=>ib b,λb z=>absurd z (ib b),e0.funs,e0.frf⟩,
  rfl,e0.bare,Un.kept hk,⟨_,x.toInCall.ns,λi y v h1 h2 h3=>?_⟩,λy c h=>⟨_,x.cell y c h⟩,e0.hok.fresh (aG _),λy c h=>?_,λp hp=>absurd (show p∈([] : Δ)from hp) (by simp),e0.hok.kept hk,?_⟩
 .exact name_of_addr x.apart (PySem.mem_of_lookup h1) (PySem.mem_of_lookup h2)
 .have hy:scope.names.lookup y=some .cell\/scope.names.lookup y=some .free:=hy;rcases hy with hy|hy
  .exact QL hy
  .exact absurd rfl (S.nofree _ (PySem.mem_of_lookup hy))
 .exact Y2 (x.above y c (PySem.mem_of_lookup h))
 .have hi:i<vs.length:=by
   unfold start at h2;by_cases hi:i<vs.length
   .exact hi
   .rw[aD (by simpa using hi)]at h2;rw[X0]at h2;split at h2<;>cases h2
  have ha:vs[i]?=some v:=by
   unfold start at h2;rw[aF (by simpa using hi),aq]at h2;cases e:vs[i]? with
   |none=>rw[e]at h2;cases h2
   |some a=>rw[e]at h2;cases h2;rfl
  obtain⟨u,hu,rv⟩:=r.get ha;have hp:ps[i]?=some y:=by
   rw[<- S.pre,List.getElem?_take_of_lt (aR hi (WG hl))];exact h1
  have ndP:ps.Nodup:=by rw[<- S.pre];exact S.nd.sublist (List.take_sublist _ _)
  refine⟨u,rv,?_⟩;rcases S.par y (aC hp)with k|k
  .exact .inl ⟨k,K9 ndP hp hu k⟩
  .obtain⟨c,e⟩:=QL (n:=s.heap.objs.size+1) k;refine .inr ⟨.inl k,c,e,?_⟩;have q:=x.cell y c e;rw[Ln ndP hp hu (by show scope.names.lookup y≠_;rw[k];decide)]at q;exact q
 .exact e0.hok.fresh (Y2 (x.above y c (PySem.mem_of_lookup h)))
 .unfold start;show _=N.length;rw[aA,ak,aN];lia
theorem ak8{CX:CXT}{P:Program}{w:World}{K:Frag}{mg:Str->Ω}{base:Heap}{k:Nat}{f:Addr}{name ai:Str}{eT:Arguments}{b6:List Stmt}{scope:Scope}{dV kV bv pm af ct oc:Value}{an od:Ξ}
 {dQ:Array (Ω)}{N ps:Φ}{sp:Sp}(lk:K.lookup f=some ⟨oc,od,.func (PySem.W.fnOf name ai eT b6 scope dV kV bv pm an af ct),dQ⟩)(be:codeIn K af ai=true)(S:bK N ps scope)
 (len:∀vs H Q E,sp vs H Q E->vs.length=ps.length)
 (ce:∀(A:Around)(outer:List Env)(s:Shared)(H:Hp)(vs:Ζ)(Q:VK)(E:XK),fB k (A.deeper (envOfC ai scope s.heap.objs.size f af))->sp vs H Q E ->
   ∃t,PSs (MF CX P w K mg base N ai scope f af A outer s H E) b6 t/\t { nx:=λ_ H'=>Q .non H',rt:=Q } (start N vs) H) :
  cj P w K mg base CX (k+1) f (PySem.W.fnOf name ai eT b6 scope dV kV bv pm an af ct) ps sp:=by
 refine⟨len,λA outer s H args us vs Q E hr e0 hb r f8=>?_⟩;have hl:=len _ _ _ _ f8;have KX:K.In s.heap:=e0.mod.kin.keeps λb o e=>(e0.bs b o e).1;have lim:s.heap.NoLimit:=e0.mod.nolimit.keeps λb o e=>(e0.bs b o e).1;have cf:∀y∈ps.zip us,scope.names.lookup y.1=some .local\/(scope.names.lookup y.1=some .cell/\((cellsFrom (s.heap.objs.size+1) scope.names []).lookup y.1).isSome=true):=λ⟨n,v⟩ hy=>by
  rcases S.par n (UX hy).1 with q|q
  .exact .inl q
  .exact .inr ⟨q,PySem.W.cellsFrom_some _ _ _ (.inl q)⟩
 refine codeAny_call_function hr.depth (KX _ _ lk) rfl S.co S.gen rfl (PySem.W.codeRec_of KX be) (hb _ _ _ _ ?_);refine wpAny_newFunctionEnv_cells S.kind cf λenv he s1 x=>?_;subst he;refine⟨lim.keeps x.toInCall.keep,codeAny_func ?_⟩;obtain⟨t,ht,hq⟩:=ce A outer s H vs Q E (hr.deeper _) f8;have I:Inv (MF CX P w K mg base N ai scope f af A outer s H E) [] (start N vs) H s1:=X7 S hr.hd e0 hl r x;refine wpAny_mono (ht [] s1 (start N vs) H _ I hq) (λfl s' hs=>?_) λe s' hs=>hs;have bn:∀{σ':St}{H':Hp}{v:V}{u:Value},Inv (MF CX P w K mg base N ai scope f af A outer s H E) [] σ' H' s'->RelV v u->Q v H'->CE outer P w H s Q u s' :=
  λ{σ' H' v u}J rv q=>⟨v,H',J.os,J.bare,J.base,J.hok,rv,q⟩
 cases fl with
 |ret u =>
  obtain⟨v,σ',H',J,rv,q⟩:=hs;exact bn J rv q
 |next =>
  obtain⟨σ',H',J,q⟩:=hs;exact bn (v:=V.non) (u:=Value.none) J rfl q
 |brk =>
  obtain⟨_,_,_,q⟩:=hs;exact False.elim q
 |cont =>
  obtain⟨_,_,_,q⟩:=hs;exact False.elim q
section
variable{X:Cx}{x:Str}{p pos:Pos}{e:Expr}{es:List Expr}{t:TA}{id T:String}{r:Ζ->Hp->VK->Prop}
def tCB(r:Ζ->Hp->VK->Prop)(t:TA):TE:=λσ H Q=>t σ H λvs H1=>r vs H1 Q
theorem SN(hc:i_ X (.builtin id) r)(hg:Gl X x)(hm:X.mg x=none)(hv:bootBuiltins x=some (.builtin id))(ha:PA X (e::es) t)(hn:x≠"__name__":=by decide)(cc:(x==("__debug__":Str))=false:=by decide)
 (he:starEach (e::es) X.env=(false,eval e X.env)::starEach es X.env:=by rfl)(bg:(backTo pos (starEach es X.env)).any (·.1)=false:=by rfl):PE X (.Call (.Name x p) (e::es) [] pos) (tCB r t):=by
 intro aa s σ H Q I h;refine wpAny_Call_Name_kw (Ai I hg hm hv ?_ hn cc);exact PyProof.Rows.callWith_builtin1 (thn (ha pos aa s σ H _ I h) λus s1 hP=>by obtain⟨vs,H1,I1,r1,q1⟩:=hP;exact hc aa s1 σ H1 vs us Q I1 r1 q1) he bg
theorem YD(hc:i_ X (.type T) r)(hg:Gl X x)(hm:X.mg x=none)(hv:bootBuiltins x=some (.type T))(ha:PA X (e::es) t)(hn:x≠"__name__":=by decide)(cc:(x==("__debug__":Str))=false:=by decide)
 (he:starEach (e::es) X.env=(false,eval e X.env)::starEach es X.env:=by rfl)(bg:(backTo pos (starEach es X.env)).any (·.1)=false:=by rfl):PE X (.Call (.Name x p) (e::es) [] pos) (tCB r t):=by
 intro aa s σ H Q I h;refine wpAny_Call_Name_kw (Ai I hg hm hv ?_ hn cc);exact PyProof.Rows.callWith_type1 (thn (ha pos aa s σ H _ I h) λus s1 hP=>by obtain⟨vs,H1,I1,r1,q1⟩:=hP;exact hc aa s1 σ H1 vs us Q I1 r1 q1) he bg
end
end L2
namespace HT
open PySem PyProof.Rows
section
variable{prog:Program}{w:World}{A:Around}{E:Ε}{s:Shared}
noncomputable def sIx(n d:Nat):Option Int->Nat
 |none=>d
 |some v=>if v<0 then(v+(n:Int)).toNat else min v.toNat n
theorem uf(n d k:Nat):sIx n d (some (k:Int))=min k n:=by
 show(if(k:Int)<0 then((k:Int)+(n:Int)).toNat else min (k:Int).toNat n)=min k n;rw[ZZ (Int.not_lt_of_ge (Wp _)),Int.toNat_natCast]
theorem afH(n d:Nat)(hd:d<=n)(o:Option Int):sIx n d o<=n:=by
 cases o with
 |none=>exact hd
 |some v =>
  show(if v<0 then(v+(n:Int)).toNat else min v.toNat n)<=n;by_cases hv:v<0
  .rw[ZY hv];lia
  .rw[ZZ hv];exact Nat.min_le_right _ _
end
end HT
namespace L2
open PySem PySem.Spec PyProof.Rows
abbrev TO:=St->Hp->(Option Int->Hp->Prop)->Prop
def PO(X:Cx)(e:Option Expr)(t:TO):Prop :=
 ∀(aa:Δ)(s:Shared)(σ:St)(H:Hp)(Q:Option Int->Hp->Prop),Inv X aa σ H s->t σ H Q ->
  wpAny (model X.prog X.w) X.A (evalPart e X.env) (λu s'=>∃o H',Inv X aa σ H' s'/\IsPart u o/\Q o H') X.xe s
def acw:TO:=λ_ H Q=>Q none H
def aha(t:TE):TO:=λσ H Q=>t σ H λx H1=>∃i,x=.int i/\Q (some i) H1
theorem intsAre_of{ns:List Int} : ∀{us:Θ},Vals (ns.map V.int) us->IntsAre us ns:=by
 induction ns with
 |nil=>intro us r;rw[List.map_nil]at r;cases r;exact .nil
 |cons n ns ih =>
  intro us r;rw[List.map_cons]at r;cases r with
  |cons r1 r2 =>
   obtain⟨t,e⟩:=r1;subst e;exact .cons n t (ih r2)
section
variable{X:Cx}{e:Expr}{te:TE}{lo hi:Option Expr}{tl th:TO}{pos p2:Pos}
theorem acI:PO X none acw:=by
 intro aa s σ H Q I h;rw[evalPart_none];exact ZT ⟨none,H,I,.none,h⟩
theorem acn(h:PE X e te):PO X (some e) (aha te):=by
 intro aa s σ H Q I hw;rw[evalPart_some];refine thn (h aa s σ H _ I hw) λu s1 hP=>?_;obtain⟨x,H1,I1,r1,q1⟩:=hP;obtain⟨i,rfl,q⟩:=q1;obtain⟨t,rfl⟩:=r1;exact⟨some i,H1,I1,.int i t,q⟩
def SlR(X:Cx)(r:V->Option Int->Option Int->Hp->VK->Prop):Prop :=
 ∀(aa:Δ)(s:Shared)(σ:St)(H:Hp)(x:V)(v vl vu:Value)(lo hi:Option Int)(sl:Addr)(Q:VK),Inv X aa σ H s->RelV x v->s.heap.IsSliceOf sl vl vu .none->IsPart vl lo->IsPart vu hi->r x lo hi H Q ->
  ∃T id,typeLookup (.type T) "__getitem__"=pure (some (.builtin id))/\s.TypeIs v T/\wpAny (model X.prog X.w) X.A (getItem v (.ref sl)) (EP X aa σ Q) X.xe s
theorem SlR.or{r r':V->Option Int->Option Int->Hp->VK->Prop}(h:SlR X r)(h':SlR X r'):SlR X (λx lo hi H Q=>r x lo hi H Q\/r' x lo hi H Q):=by
 intro aa s σ H x v vl vu lo hi sl Q I rx hs pl pu q;rcases q with q|q
 .exact h aa s σ H x v vl vu lo hi sl Q I rx hs pl pu q
 .exact h' aa s σ H x v vl vu lo hi sl Q I rx hs pl pu q
def tSl(r:V->Option Int->Option Int->Hp->VK->Prop)(te:TE)(tl th:TO):TE:=λσ H Q=>te σ H λx H1=>tl σ H1 λl H2=>th σ H2 λu H3=>r x l u H3 Q
theorem aaN{r:V->Option Int->Option Int->Hp->VK->Prop}(hr:SlR X r)(he:PE X e te)(hl:PO X lo tl)(hu:PO X hi th):PE X (.Subscript e (.Slice lo hi none p2) pos) (tSl r te tl th):=by
 intro aa s σ H Q I h;refine Subscript_ (thn (he aa s σ H _ I h) λv s1 hP=>?_);obtain⟨x,H1,I1,r1,q1⟩:=hP;refine wpAny_Slice (thn (hl aa s1 σ H1 _ I1 q1) λvl s2 ⟨l,H2,I2,pl,q2⟩=>thn (hu aa s2 σ H2 _ I2 q2) λvu s3 hP=>?_);obtain⟨u,H3,I3,pu,q3⟩:=hP;rw[evalPart_none];refine ZT ?_;have I4:Inv X aa σ H3 { s3 with heap:=s3.heap.push { cls:=.type "slice",data:=.fields #[vl,vu,.none] } }:=I3.kept (t':=s3.toks) λb ob q=>aH _ q;obtain⟨T,id,hT,ht,hg⟩:=hr aa { s3 with heap:=s3.heap.push { cls:=.type "slice",data:=.fields #[vl,vu,.none] } } σ H3 x v vl vu l u s3.heap.objs.size Q I4 r1 (Heap.IsSliceOf.new ..) pl pu q3;show wpAny (model X.prog X.w) X.A (subscriptTail e (.Slice lo hi none p2) v (.ref s3.heap.objs.size)) (EP X aa σ Q) X.xe { s3 with heap:=s3.heap.push { cls:=.type "slice",data:=.fields #[vl,vu,.none] } };exact tail_any (ops:=[.ref s3.heap.objs.size,v]) ht hT hg (by with_unfolding_all rfl)
noncomputable def Yr(xs:Ζ)(lo hi:Option Int):Ζ:=(xs.drop (HT.sIx xs.length 0 lo)).take (HT.sIx xs.length xs.length hi-HT.sIx xs.length 0 lo)
theorem Tv(xs:Ζ)(lo hi:Option Int):(Yr xs lo hi).length<=xs.length:=by
 unfold Yr;rw[aY,TZ];lia
end
noncomputable def ixN(n:Nat)(i:Int):Option Nat:=if 0<=i then(if i<n then some i.toNat else none)else if -(n:Int)<=i then some (i+n).toNat else none
def atI{α:Type}(xs:List α)(i:Int):Option α:=(ixN xs.length i).bind λj=>xs[j]?
theorem Wh{n:Nat}{i:Int}{j:Nat}(h:ixN n i=some j):seqIndex? i n=some j/\j<n/\-(n:Int)<=i/\i<n:=by
 unfold ixN at h;by_cases h0:0<=i
 .rw[ZY h0]at h;by_cases h1:i<n
  .rw[ZY h1]at h;have e:i.toNat=j:=Option.some.inj h;exact⟨by rw[seqIndex_of h0 h1,e],by lia,by lia,h1⟩
  .rw[ZZ h1]at h;cases h
 .rw[ZZ h0]at h;by_cases h1 : -(n:Int)<=i
  .rw[ZY h1]at h;have e:(i+n).toNat=j:=Option.some.inj h;exact⟨by rw[seqIndex_neg (JJ h0) h1,e],by lia,h1,by lia⟩
  .rw[ZZ h1]at h;cases h
theorem O4{α:Type}{xs:List α}{i:Int}{v:α}(h:atI xs i=some v):∃j,seqIndex? i xs.length=some j/\xs[j]?=some v/\j<xs.length/\-(xs.length:Int)<=i/\i<xs.length:=by
 unfold atI at h;cases e:ixN xs.length i with
 |none=>rw[e]at h;cases h
 |some j =>
  rw[e]at h;obtain⟨h1,h2,h3,h4⟩:=Wh e;exact⟨j,h1,h,h2,h3,h4⟩
def uR(b:Expr):Prop:=∀o i,subscripted b false o i=operate [o,i] (getItem o i)
def IxR(X:Cx)(r:R2):Prop :=
 ∀(az bi:Expr)(aa:Δ)(s:Shared)(σ:St)(H:Hp)(x y:V)(v u:Value)(Q:VK),Inv X aa σ H s->RelV x v->RelV y u->r x y H Q ->
  subscripted bi false v u=operate [v,u] (getItem v u)->wpAny (model X.prog X.w) X.A (subscriptTail az bi v u) (EP X aa σ Q) X.xe s
def MtR(X:Cx)(id:String)(r:V->Ζ->Hp->VK->Prop):Prop :=
 ∀(aa:Δ)(s:Shared)(σ:St)(H:Hp)(x:V)(xs:Ζ)(v:Value)(us:Θ)(Q:VK),Inv X aa σ H s->RelV x v->Vals xs us->r x xs H Q ->
  wpAny (model X.prog X.w) X.A (call (.builtin id) (v::us)) (EP X aa σ Q) X.xe s
section
variable{X:Cx}{a b:Expr}{ta tb:TE}{pos:Pos}
theorem IxR.or{r r':R2}(h:IxR X r)(h':IxR X r'):IxR X (λx y H Q=>r x y H Q\/r' x y H Q):=by
 intro az bi aa s σ H x y v u Q I rx ry q hs;rcases q with q|q
 .exact h az bi aa s σ H x y v u Q I rx ry q hs
 .exact h' az bi aa s σ H x y v u Q I rx ry q hs
theorem K8{r:R2}(hr:IxR X r)(ha:PE X a ta)(hb:PE X b tb)(hs:uR b):PE X (.Subscript a b pos) (tOp r ta tb):=by
 intro aa s σ H Q I h;exact Subscript_ (ags ha hb I h λv u s2 x y H2 I2 rx ry q=>hr a b aa s2 σ H2 x y v u Q I2 rx ry q (hs _ _))
def am1(K:Frag):R2:=λx y H Q=>∃p xs i v,x=.ref p/\y=.int i/\SqL K H p xs/\atI xs i=some v/\Q v H
def alW(K:Frag):R2:=λx y H Q=>∃p xs i v,x=.ref p/\y=.int i/\SqT K H p xs/\atI xs i=some v/\Q v H
def amL:R2:=λx y H Q=>∃z i c,x=.str z/\y=.int i/\z.length<=sizeLine/\atI z.cps.toList i=some c/\Q (.str ⟨#[c]⟩) H
theorem yW:IxR X (am1 X.K):=by
 intro az bi aa s σ H x y v u Q I rx ry h hs;obtain⟨p,xs,i,z,rfl,rfl,hq,he,q⟩:=h;cases rx;obtain⟨t,rfl⟩:=ry;obtain⟨its,r,pl,hz⟩:=I.list hq;obtain⟨j,h1,h2,h3,h4,h5⟩:=O4 he;obtain⟨w,ew,eS⟩:=r.get h2;have hl:=r.length;have hn:=wj;have bn:EP X aa σ Q w s:=⟨z,H,I,eS,q⟩;by_cases h0:0<=i
 .have hj:i.toNat=j:=by
   rw[seqIndex_of h0 h5]at h1;exact Option.some.inj h1
  exact item_listR pl.isList h0 (by lia) (by rw[hj];simpa using ew) bn hs
 .have hj:(i+(its.toArray.size:Int)).toNat=j:=by
   rw[seqIndex_neg (JJ h0) h4]at h1;rw[aX,<- hl];exact Option.some.inj h1
  exact subscriptTail_builtinR (x:=w) pl.isList.typeIs slot_list_getitem.lookup
   (wpAny_getItem_list_neg (Q:=λr s'=>r=w/\EP X aa σ Q r s') pl.isList (JJ h0) (by rw[aX]<;>lia) (by lia) (by rw[hj];simpa using ew) ⟨rfl,bn⟩) hs
theorem af7:IxR X (alW X.K):=by
 intro az bi aa s σ H x y v u Q I rx ry h hs;obtain⟨p,xs,i,z,rfl,rfl,hq,he,q⟩:=h;cases rx;obtain⟨t,rfl⟩:=ry;obtain⟨its,r,pl,hz⟩:=I.tuple hq;obtain⟨j,h1,h2,h3,h4,h5⟩:=O4 he;obtain⟨w,ew,eS⟩:=r.get h2;have hl:=r.length;have hn:=wj;have bn:EP X aa σ Q w s:=⟨z,H,I,eS,q⟩;exact subscriptTail_builtinR (x:=w) pl.typeIs slot_tuple_getitem.lookup
  (getItem_tuple (j:=j) (Q:=λr s'=>r=w/\EP X aa σ Q r s') pl (by lia) (by lia) (by rw[aX,<- hl];exact h1) (by simpa using ew) ⟨rfl,bn⟩) hs
theorem aeG:IxR X amL:=by
 intro az bi aa s σ H x y v u Q I rx ry h hs;obtain⟨z,i,c,rfl,rfl,hz,he,q⟩:=h;obtain⟨t,rfl⟩:=rx;obtain⟨t',rfl⟩:=ry;obtain⟨j,h1,h2,h3,h4,h5⟩:=O4 he;have hl:z.cps.toList.length=z.length:=by simp[Str.length]
 rw[hl]at h1 h4 h5;have hn:=wj;exact tail_any (typeIs_str s z t) slot_str_getitem.lookup (getItem_str (c:=c) (by
  have e1:decide (i < -(2^63:Int))=false:=Zp (by lia);have e2:decide (i>=2^63)=false:=Zp (by lia);rw[e1,e2,Bool.or_false]) (by rw[h1];simpa using h2) ⟨.str ⟨#[c]⟩,H,I.tok _,⟨_,rfl⟩,q⟩) hs
theorem Ua(its:Θ)(n j:Nat)(u:Value):Obj.mapSeq (·.setIfInBounds j u) { cls:=.type "list",data:=.seq its.toArray n }={ cls:=.type "list",data:=.seq (its.set j u).toArray n }:=by
 simp[Obj.mapSeq]
theorem Inv.lst{aa:Δ}{σ:St}{H:Hp}{s:Shared}{p:Addr}{xs:Ζ}(I:Inv X aa σ H s)(h:H p=some (.lst xs)) :
  ∃(its:Θ)(n:Nat),Vals xs its/\s.heap.get? p=some { cls:=.type "list",data:=.seq its.toArray n }/\xs.length<=sizeLine:=by
 obtain⟨z,its,n,r,e⟩:=I.hok p _ h;exact⟨its,n,r,e,z⟩
theorem Inv.lstUpd{aa:Δ}{σ:St}{H:Hp}{s:Shared}{p:Addr}{xs ys:Ζ}{its its':Θ}{n n':Nat}{f:Obj->Obj}(I:Inv X aa σ H s)(h:H p=some (.lst xs))
 (ho:s.heap.get? p=some { cls:=.type "list",data:=.seq its.toArray n })(hf:f { cls:=.type "list",data:=.seq its.toArray n }={ cls:=.type "list",data:=.seq its'.toArray n' })(r:Vals ys its')(hz:ys.length<=sizeLine)(t:Nat) :
  Inv X aa σ (upd H p (.lst ys)) { s with heap:=s.heap.update p f,toks:=t }:=by
 have e:(s.heap.update p f).get? p=some { cls:=.type "list",data:=.seq its'.toArray n' }:=by
  rw[Heap.get?_update_self f ho (by rw[hf]<;>rfl),hf]
 refine I.write (x:=p) (e:=p) (by rw[h];trivial) (.inl rfl) (λb u hb q=>(Heap.get?_update_other _ _ (Ne.symm hb)).trans q) ⟨_,e⟩ ?_;exact⟨hz,its',n',r,e⟩
def akU:V->V->V->Hp->(Hp->Prop)->Prop:=λo i v H Q=>∃p xs k j,o=.ref p/\i=.int k/\H p=some (.lst xs)/\ixN xs.length k=some j/\Q (upd H p (.lst (xs.set j v)))
theorem set_list:aja X akU:=by
 intro aa s σ H o i v ov iv u Q I ro ri rv h;obtain⟨p,xs,k,j,rfl,rfl,hp,hj,q⟩:=h;cases ro;obtain⟨t,rfl⟩:=ri;obtain⟨its,n,r,ho,hz⟩:=I.lst hp;obtain⟨h1,h2,h3,h4⟩:=Wh hj;have hl:=r.length;have hn:=wj;have I':Inv X aa σ (upd H p (.lst (xs.set j v))) { s with heap:=s.heap.update p (Obj.mapSeq (·.setIfInBounds j u)) } :=
  I.lstUpd hp ho (Ua its n j u) (r.set rv j) (by rw[VU];exact hz) s.toks
 by_cases h0:0<=k
 .have hk:k.toNat=j:=by
   rw[seqIndex_of h0 h4]at h1;exact Option.some.inj h1
  exact PySem.W.ki_setAt ho h0 (by lia) (by rw[aX,<- hl];exact h4) (by rw[hk];exact⟨_,I',q⟩)
 .have hk:(k+(its.toArray.size:Int)).toNat=j:=by
   rw[seqIndex_neg (JJ h0) h3]at h1;rw[aX,<- hl];exact Option.some.inj h1
  exact PySem.W.ki_setBack ho (JJ h0) (by rw[aX,<- hl];exact h3) (by lia) (by rw[hk];exact⟨_,I',q⟩)
theorem Mi(lo hi:Option Int)(n:Nat):(sliceBounds lo hi none n).1=((HT.sIx n 0 lo:Nat):Int)/\(sliceBounds lo hi none n).2.1=((HT.sIx n n hi:Nat):Int)/\(sliceBounds lo hi none n).2.2=1:=by
 refine⟨?_,?_,rfl⟩
 .cases lo with
  |none=>simp[sliceBounds,HT.sIx]
  |some i =>
   simp only[sliceBounds,HT.sIx,Option.getD_none,show(1:Int)>0 by decide,if_true];by_cases h:i<0
   .simp only[h,if_true]<;>lia
   .simp only[h,if_false]<;>lia
 .cases hi with
  |none=>simp[sliceBounds,HT.sIx]
  |some i =>
   simp only[sliceBounds,HT.sIx,Option.getD_none,show(1:Int)>0 by decide,if_true];by_cases h:i<0
   .simp only[h,if_true]<;>lia
   .simp only[h,if_false]<;>lia
theorem Kg(its:Θ)(lo hi:Option Int):slicePick its.toArray lo hi none=((its.drop (HT.sIx its.length 0 lo)).take (HT.sIx its.length its.length hi-HT.sIx its.length 0 lo)).toArray:=by
 obtain⟨h1,h2,h3⟩:=Mi lo hi its.toArray.size;unfold slicePick;rw[h1,h2,h3];simp only[sliceRange_one,pick_run,aX]<;>rfl
def anb(K:Frag):V->Option Int->Option Int->Hp->VK->Prop:=λx lo hi H Q=>∃a xs,x=.ref a/\SqL K H a xs/\∀p,H p=none->Q (.ref p) (upd H p (.lst (Yr xs lo hi)))
theorem acq:SlR X (anb X.K):=by
 intro aa s σ H x v vl vu lo hi sl Q I rx hs pl pu h;obtain⟨a,xs,rfl,hx,q⟩:=h;cases rx;obtain⟨its,r,ht,hz⟩:=I.list hx;have aI:=r.length;refine⟨"list",_,slot_list_getitem.lookup,ht.isList.typeIs,?_⟩;refine wpAny_getItem_list_slice ht.isList hs pl pu .none (by simp) ?_ (by rw[aX]<;>lia);rw[Kg,<- aI];refine⟨.ref s.heap.objs.size,_,I.laid (t':=s.toks) (o:=.lst (Yr xs lo hi)) (λb ob q=>aH _ q) (aG _) ?_,rfl,q _ (I.hok.fresh (aG _))⟩;exact⟨aL (Tv xs lo hi) hz,_,0,(r.drop (HT.sIx xs.length 0 lo)).take (HT.sIx xs.length xs.length hi-HT.sIx xs.length 0 lo),aW _ rfl⟩
noncomputable def eqV:V->V->Bool
 |.non,.non=>true
 |.bl a,.bl b=>a==b
 |.bl a,.int b=>(if a then 1 else 0)==b
 |.int a,.bl b=>a==(if b then 1 else 0)
 |.int a,.int b=>a==b
 |.str a,.str b=>a==b
 |_,_=>false
theorem PJ:i_ X (.builtin "len") (λxs H Q=>∃p ys,xs=[.ref p]/\(SqL X.K H p ys\/SqT X.K H p ys)/\Q (.int ys.length) H):=by
 intro aa s σ H xs us Q I r h;obtain⟨p,ys,rfl,hq,q⟩:=h;obtain⟨u,rfl,rx⟩:=vals1 r;cases rx;have hn:=wj;rcases hq with hq|hq
 .obtain⟨its,r',pl,hz⟩:=I.list hq;have aI:=r'.length;exact Calls.call_len_list pl.isList (by simp only[aX]<;>lia) ⟨.int ys.length,H,I.tok _,⟨s.toks+1,by rw[aX,aI]⟩,q⟩
 .obtain⟨its,r',pl,hz⟩:=I.tuple hq;have aI:=r'.length;exact len_tuple pl (by simp only[aX]<;>lia) ⟨.int ys.length,H,I.tok _,⟨s.toks+1,by rw[aX,aI]⟩,q⟩
theorem O2:i_ X (.builtin "len") (λxs H Q=>∃z,xs=[.str z]/\z.length<=sizeLine/\Q (.int z.length) H):=by
 intro aa s σ H xs us Q I r h;obtain⟨z,rfl,hz,q⟩:=h;obtain⟨u,rfl,t,rfl⟩:=vals1 r;have hn:=wj;exact len_str (by lia) ⟨.int z.length,H,I.tok _,⟨_,rfl⟩,q⟩
theorem Qt:i_ X (.type "list") (λxs H Q=>∃p ys,xs=[.ref p]/\(SqL X.K H p ys\/SqT X.K H p ys)/\∀l,H l=none->Q (.ref l) (upd H l (.lst ys))):=by
 intro aa s σ H xs us Q I r h;obtain⟨p,ys,rfl,hq,q⟩:=h;obtain⟨u,rfl,rx⟩:=vals1 r;cases rx;have bn:∀(its:Θ),Vals ys its->ys.length<=sizeLine->∀(h':Heap)(c':Nat),(∀b o',s.heap.get? b=some o'->h'.get? b=some o') ->
   h'.get? s.heap.objs.size=some { cls:=.type "list",dict:=none,data:=.seq its.toArray c',slots:=#[] }->EP X aa σ Q (.ref s.heap.objs.size) { s with heap:=h' }:=λits r' hz h' c' kp e =>
  ⟨.ref s.heap.objs.size,_,I.laid (t':=s.toks) kp (aG _) (show gk X.prog X.w _ h' _ (.lst ys)from⟨hz,its,c',r',e⟩),rfl,q _ (I.hok.fresh (aG _))⟩
 rcases hq with hq|hq
 .obtain⟨its,r',pl,hz⟩:=I.list hq;have aI:=r'.length;obtain⟨o,ho,hc,n,hd⟩:=pl.isList;exact call_list_seq p (.inl rfl) ho hc hd (λh' c' kp e=>bn its r' hz h' c' kp e) (by simp only[aX]<;>lia)
 .obtain⟨its,r',pl,hz⟩:=I.tuple hq;have aI:=r'.length;obtain⟨o,ho,hc,n,hd⟩:=pl;exact call_list_seq p (.inr rfl) ho hc hd (λh' c' kp e=>bn its r' hz h' c' kp e) (by simp only[aX]<;>lia)
def tyV(K:Frag)(T:String)(x:V)(H:Hp):Prop:=match x with
 |.str _=>T="str"
 |.int _=>T="int"
 |.ref p=>(T="list"/\∃xs,SqL K H p xs)\/(T="tuple"/\∃o,K.lookup p=some o/\o.cls=.type "tuple"/\o.dict=none) \/
   (T="dict"/\(∃kvs,H p=some (.dK kvs)))\/(T="set"/\∃S n,H p=some (.set S n))
 |_=>False
theorem aeO{aa:Δ}{σ:St}{H:Hp}{s:Shared}{T:String}{x:V}{v:Value}(I:Inv X aa σ H s)(r:RelV x v)(ty:tyV X.K T x H) :
  s.TypeIs v T/\∀a,v=.ref a->∃ob,s.heap.get? a=some ob/\ob.dict=none:=by
 cases x with
 |str z =>
  obtain⟨t,rfl⟩:=r;cases(show T="str" from ty);exact⟨typeIs_str s z t,λ_ e=>nomatch e⟩
 |int i =>
  obtain⟨t,rfl⟩:=r;cases(show T="int" from ty);exact⟨typeIs_int s i t,λ_ e=>nomatch e⟩
 |ref p =>
  cases r;rcases ty with⟨rfl,xs,hq⟩|⟨rfl,o,hk,hc,hd⟩|⟨rfl,hk⟩|⟨rfl,S,n,hk⟩
  .obtain⟨its,_,pl,_⟩:=I.list hq;refine⟨pl.isList.typeIs,λa e=>?_⟩;cases e;obtain⟨o,n,e,c,hd,_⟩:=pl;exact⟨o,e,hd⟩
  .refine⟨⟨o,I.kIn p o hk,hc⟩,λa e=>?_⟩;cases e;exact⟨o,I.kIn _ o hk,hd⟩
  .have z:∃o,s.heap.get? p=some o/\o.ExactDict:=by
    obtain⟨kvs,hk⟩:=hk;obtain⟨_,_,_,_,o,_,_,e,ex,_⟩:=I.hok p _ hk;exact⟨o,e,ex⟩
   obtain⟨o,e,ex⟩:=z;refine⟨⟨o,e,ex.1⟩,λa e2=>?_⟩;cases e2;exact⟨o,e,ex.2.1⟩
  .obtain⟨o,_,_,_,e,ex,_⟩:=I.hok p _ hk;refine⟨⟨o,e,ex.1⟩,λa e2=>?_⟩;cases e2;exact⟨o,e,ex.2.1⟩
 |_=>exact False.elim ty
def tBM(K:Frag)(T:String)(r:V->Ζ->Hp->VK->Prop)(to:TE)(t:TA):TE:=λσ H Q=>to σ H λx H1=>tyV K T x H1/\t σ H1 λxs H2=>r x xs H2 Q
variable{o e:Expr}{es:List Expr}{to:TE}{t:TA}{name:Str}{am ag:Pos}{T id:String}{r:V->Ζ->Hp->VK->Prop}
theorem abn(pa:PlainAttrs T)(slot:Slot T name id)(im:typeOf (.builtin id)=pure (.type "method_descriptor"))(hm:MtR X id r)(ho:PE X o to)(ha:PA X (e::es) t)
 (i4:attributeBase o name X.env (eval o X.env)=eval o X.env:=by rfl)
 (k3:((backTo ag (starEach (e::es) X.env)).all (λx=>!x.1)&&(backToKw ag (keywordEach [] X.env)).all (λx=>x.1.isSome)
   && decide ((e::es).length+([] : List Keyword).length+(if([] : List Keyword).isEmpty then 0 else 1)<30))=true:=by rfl)
 (iN:(am.endLine==ag.line)=true:=by rfl)(hs:starEach (e::es) X.env=(false,eval e X.env)::starEach es X.env:=by rfl)(gL:(backTo ag (starEach es X.env)).any (·.1)=false:=by rfl) :
  PE X (.Call (.Attribute o name am) (e::es) [] ag) (tBM X.K T r to t):=by
 intro aa s σ H Q I h;refine wpAny_Call_method_late i4 k3 iN rfl (thn (ho aa s σ H _ I h) λv s1 hP=>?_);obtain⟨x,H1,I1,r1,ty,q1⟩:=hP;obtain⟨h1,h2⟩:=aeO I1 r1 ty;refine⟨T,id,pa,slot,im,h1,h2,?_⟩;have hA:=ha ag aa s1 σ H1 _ I1 q1;rw[hs]at hA ⊢;refine Calls.callWith_builtin (by show(false || (backTo ag (starEach es X.env)).any (·.1))=false;rw[gL]<;>rfl) (Calls.evalArgs_plain ?_);exact thn hA λus s2 hP=>by obtain⟨vs,H2,I2,r2,q2⟩:=hP;exact hm aa s2 σ H2 x vs v us Q I2 r1 r2 q2

end
def MtM(X:Cx)(id:String)(r:V->Ζ->Hp->VK->Prop):Prop :=
 ∀(aa:Δ)(s:Shared)(σ:St)(H:Hp)(x:V)(xs:Ζ)(v:Value)(us:Θ)(Q:VK),Inv X aa σ H s->RelV x v->Vals xs us->r x xs H Q ->
  wpAny (model X.prog X.w) X.A (call (.builtin id) (v::us)) (EP X aa σ Q) X.xe s
theorem Vals.one:∀{x:V}{us:Θ},Vals [x] us->∃u,us=[u]/\RelV x u
 |_,_,.cons r .nil=>⟨_,rfl,r⟩
theorem Vals.two{x y:V}{us:Θ}(h:Vals [x,y] us):∃u v,us=[u,v]/\RelV x u/\RelV y v:=by
 cases h with|cons r t=>cases t with|cons q t=>cases t;exact⟨_,_,rfl,r,q⟩
theorem Vals.rep{xs:Ζ}{us:Θ}(h:Vals xs us):∀k:Nat,Vals (List.replicate k xs).flatten (List.replicate k us).flatten
 |0=>.nil
 |k+1=>by
  rw[List.replicate_succ,List.replicate_succ,List.flatten_cons,List.flatten_cons];exact Vals.append h (Vals.rep h k)
theorem foldl_rep(its:Θ):∀(k:Nat)(acc:Θ),
  List.foldl (λx1 x2=>x1++x2) acc.toArray (List.replicate k its.toArray)=(acc++(List.replicate k its).flatten).toArray
 |0,acc=>by simp
 |k+1,acc=>by
  have e:acc.toArray++its.toArray=(acc++its).toArray:=by simp
  have e2:(acc++its)++(List.replicate k its).flatten=acc++(List.replicate (k+1) its).flatten:=by
   rw[List.replicate_succ,List.flatten_cons,WZ]
  rw[<- e2,<- foldl_rep its k (acc++its),<- e,List.replicate_succ,List.foldl_cons]
section
variable{X:Cx}{aa:Δ}{σ:St}{H:Hp}{s:Shared}{l b:Addr}{xs ys zs:Ζ}
theorem Inv.lset{its its':Θ}{n:Nat}{f:Array Value->Array Value}{t':Nat}(I:Inv X aa σ H s)(hH:H l=some (.lst xs))
 (e:s.heap.get? l=some { cls:=.type "list",data:=.seq its.toArray n })(hf:f its.toArray=its'.toArray)(hv:Vals ys its')(hz:ys.length<=sizeLine) :
  Inv X aa σ (upd H l (.lst ys)) { s with heap:=s.heap.update l (Obj.mapSeq f),toks:=t' }:=by
 have q:=PySem.IsL.update e f;rw[hf]at q;refine I.write (x:=l) (e:=l) (by rw[hH];exact trivial) (.inl rfl) (λb' u hb hu=>(Heap.get?_update_other s.heap (Obj.mapSeq f) (Ne.symm hb)).trans hu) ⟨_,q⟩ ?_;exact⟨hz,its',_,hv,q⟩
theorem Inv.lnew{its:Θ}{t':Nat}(I:Inv X aa σ H s)(hv:Vals ys its)(hz:ys.length<=sizeLine) :
  Inv X aa σ (upd H s.heap.objs.size (.lst ys)) { s with heap:=s.heap.push { cls:=.type "list",data:=.seq its.toArray },toks:=t' } :=
 I.laid (λ_ _ q=>aH _ q) (aG _) ⟨hz,its,0,hv,aW _ rfl⟩
theorem Inv.fresh(I:Inv X aa σ H s):H s.heap.objs.size=none:=I.hok.fresh (aG _)
theorem Inv.lstM(I:Inv X aa σ H s)(hH:H l=some (.lst xs)):xs.length<=sizeLine/\∃(its:Θ)(n:Nat),Vals xs its/\xs.length=its.length/\s.heap.get? l=some { cls:=.type "list",data:=.seq its.toArray n }:=by
 obtain⟨z,its,n,r,e⟩:=I.hok l _ hH;exact⟨z,its,n,r,r.length,e⟩
theorem Z1{n:Nat}(h:n<=sizeLine):Builtin.List.listTooLong n=false:=by
 unfold Builtin.List.listTooLong;exact Zp (Tk h)
end
section
variable{X:Cx}
def adn:V->Ζ->Hp->VK->Prop:=λx vs H Q=>∃l xs y,x=.ref l/\vs=[y]/\H l=some (.lst xs)/\xs.length<sizeLine/\Q .non (upd H l (.lst (xs++[y])))
theorem K7:MtM X "list.append" adn:=by
 intro aa s σ H x vs v us Q I rx rv h;obtain⟨l,xs,y,rfl,rfl,hH,hz,q⟩:=h;cases rx;obtain⟨u,rfl,ru⟩:=rv.one;obtain⟨z,its,n,r,hl,e⟩:=I.lstM hH;refine call_meets F.slot_list_append ⟨_,e,rfl⟩ F.entry_list_append (F.args_list_append_2 _ _) (PySem.list_append l its.toArray n u (by rw[aX];lia)) ⟨e,?_⟩;refine⟨.non,_,I.lset (its':=its++[u]) hH e (by simp) (r.append (.cons ru .nil)) ?_,rfl,q⟩;rw[aA,List.length_singleton];exact hz
def al5:R2:=λx y H Q=>∃l b xs zs,x=.ref l/\y=.ref b/\H l=some (.lst xs)/\H b=some (.lst zs)/\xs.length+zs.length<=sizeLine/\∀p,H p=none->Q (.ref p) (upd H p (.lst (xs++zs)))
theorem ae9:OpR X (binaryOp .Add) al5:=by
 intro aa s σ H x y v u Q I rx ry h;obtain⟨l,b,xs,zs,rfl,rfl,hH,hB,hz,q⟩:=h;cases rx;cases ry;obtain⟨z,its,n,r,hl,e⟩:=I.lstM hH;obtain⟨z2,ii,n2,r2,hl2,e2⟩:=I.lstM hB;refine PySem.P.add_list e e2 ?_ (by rw[aX,aX];lia);have ea:its.toArray++ii.toArray=(its++ii).toArray:=by simp
 rw[ea];exact⟨.ref _,_,I.lnew (t':=s.toks) (r.append r2) (by rw[aA];omega),rfl,q _ I.fresh⟩
def amf:R2:=λx y H Q=>∃l k xs,x=.ref l/\y=.int k/\H l=some (.lst xs)/\-(2^63)<=k/\k<2^63/\xs.length*k.toNat<=sizeLine /\
 ∀p,H p=none->Q (.ref p) (upd H p (.lst (List.replicate k.toNat xs).flatten))
theorem len_rep{α:Type}(xs:List α)(k:Nat):(List.replicate k xs).flatten.length=k*xs.length:=by
 induction k with
 |zero=>simp
 |succ k ih=>rw[List.replicate_succ,List.flatten_cons,aA,ih,Nat.succ_mul,Nat.add_comm]
theorem aez:OpR X (binaryOp .Mult) amf:=by
 intro aa s σ H x y v u Q I rx ry h;obtain⟨l,k,xs,rfl,rfl,hH,h1,h2,hz,q⟩:=h;cases rx;obtain⟨t,rfl⟩:=ry;obtain⟨z,its,n,r,hl,e⟩:=I.lstM hH;have aI:its.toArray.size*k.toNat<=sizeLine:=by rw[aX,<- hl];exact hz
 have lh:¬its.toArray.size*k.toNat>(2^63-1)/8:=by
  have:(sizeLine:Nat)<=(2^63-1)/8:=by decide
  lia
 have kX:¬(!Builtin.List.listFitsIndex k)=true:=by
  rw[fitsIndex_both h1 h2];exact bw
 have iL:¬Builtin.List.listTooLong (its.toArray.size*k.toNat)=true:=by
  rw[Z1 aI];exact bw
 have kP:List.foldl (λx1 x2=>x1++x2) #[] (List.replicate (if its.toArray.isEmpty=true then 0 else k.toNat) its.toArray)=(List.replicate k.toNat its).flatten.toArray:=by
  have f0:∀m:Nat,List.foldl (λx1 x2=>x1++x2) #[] (List.replicate m its.toArray)=(List.replicate m its).flatten.toArray:=λm=>by
   have:=foldl_rep its m [];rw[List.nil_append]at this;exact this
  rw[f0];cases its with
  |nil=>simp
  |cons a r'=>rw[ZZ (by simp)]
 refine wpAny_binaryOp_repeat_ref (T:="list") (U:="int") (by decide) ⟨_,e,rfl⟩ (λs'=>typeIs_int s' k t) noFill_list_mul F.fills_int_mul F.slot_int_rmul repeat_list F.slot_int_index.lookup
  (call_meets F.slot_int_rmul (typeIs_int s k t) F.entry_int_rmul (F.args_int_rmul_2 _ _) (int___rmul___int_list k t l its.toArray n)
   ⟨e,rfl,⟨_,e,rfl⟩,call_meets F.slot_list_mul ⟨_,e,rfl⟩ F.entry_list_mul (F.args_list_mul_2 _ _) (AutoListH.list___mul___list_int_3 l its.toArray n k t kX lh iL) ⟨e,?_⟩⟩)
 rw[kP];exact⟨.ref _,_,I.lnew (t':=s.toks) (r.rep k.toNat) (by rw[len_rep,Nat.mul_comm];exact hz),rfl,q _ I.fresh⟩
end
end L2
namespace Att
open PySem PySem.W PySem.Calls PyProof.Rows
theorem Gd{P:Params}{h:Heap} : ∀(ns:List Int)(vs:Θ),WellAll P h vs (ns.map WData.int)->IntsAre vs ns:=by
 intro ns
 induction ns with
 |nil =>
  intro vs w;rw[List.map_nil]at w;cases w;exact .nil
 |cons n ns ih =>
  intro vs w;rw[List.map_cons]at w;cases w with
  |cons a b =>
   cases a;exact .cons _ _ (ih _ b)
theorem Xu{l:OpenLaw}{n:Nat}(hn:l.most=some n){P:Params}{h:Heap}{args:List WData}{gu:Θ}
 (eI:l.row.toRowW.claim.pre args=true)(kF:WellAll P h gu args) :
  ∃a vs ns,gu=[Value.ref a]/\args=[WData.list (ns.map WData.int)]/\h.get? a=some { cls:=.type "list",data:=.seq vs.toArray }/\IntsAre vs ns/\ns.length<=n:=by
 have f':WShape.hasAll [] args [.list .int]=true:=(pre_splitW eI).1;have hc:l.pre.holds [] { args:=args }=true:=(pre_splitW eI).2;obtain⟨d,r,rfl,h1,h2⟩:=hasAllW_cons f';obtain rfl:=hasAllW_nil h2;obtain⟨xs,rfl,h3⟩:=hasW_list h1;obtain⟨ns,rfl⟩:=items_int h3;have aI:ns.length<=n:=by
  unfold OpenLaw.pre at hc;have h4:(WTm.not (.lt (.lit (.int (n:Int))) (.len (.arg 0)))).holds [] { args:=[.list (ns.map .int)] }=true:=by
   have h4:=(holds_andW hc).1;rw[hn]at h4;exact h4
  have h5:=condW_of h4 (w_not (w_lt w_lit (w_len_list (w_arg rfl))));rw[ak]at h5;refine VW λq=>?_;have q':(n:Int)<((ns.length:Nat):Int):=by omega
  first
   |(rw[Zs q']at h5;exact absurd h5 (by decide))
   |(simp at h5;omega)
 cases kF with
 |cons w1 w2 =>
  cases w2;cases w1 with
  |list ho g3=>exact⟨_,_,ns,rfl,rfl,ho,Gd ns _ g3,aI⟩
theorem XS(l:OpenLaw)(args:List WData):l.row.toRowW.claim.post args (.bool true) args=true :=
 postW_of (r:=l.row.toRowW) (X:=(true==true))
  (show WShape.has [] (.bool true) .bool=true by first|rfl|decide|simp[WShape.has,WShape.arms,WShape.armsAll])
  (show(WTm.eq .res (.lit (.bool true))).value [] { args:=args,res:=some (.bool true),after:=args }=some (.bool (true==true))from w_eq_bool (w_res rfl) w_lit) rfl
theorem RW{l:OpenLaw}{n:Nat}{q:Program}{loose:Φ}{XP:(Str->Ω)->Heap->Prop}{YP:World->Heap->Prop}{d:DefRec}
 (hn:l.most=some n)(iS:d.params.defaults=[])
 (call:∀(w:World)(s₀ s₁:Shared)(mg mb:Str->Ω)(fa:Addr)(o:Obj)(pm cd bv:Value)(a:Addr)(vs:Θ)(ns:List Int),
   Ground q loose [] XP w s₀ mg mb s₁.heap->YP w s₁.heap ->
   s₁.heap.get? fa=some o->o.data=.func (docDef d.name d.params d.body d.scope pm cd bv)->s₁.heap.CodeRec cd d.name->mg d.name=some (.ref fa) ->
   s₁.heap.get? a=some { cls:=.type "list",data:=.seq vs.toArray }->IntsAre vs ns->ns.length<=n->s₁.gens = #[] ->
   codeAny (model l.prog w) callerA (.call (.ref fa) ⟨[.ref a],[]⟩) (λr s'=>r=.ok (.ret (.bool true))/\OldK s₁.heap s'.heap/\s'.os=s₁.os/\AllBare s'.gens) s₁) :
  WalkO q loose XP YP l.row.toRowW d [] (λf vs=>PySem.call f vs):=by
 intro w s₀ s₁ mg mb G Y fa o pm cd bv dV kV ho hd be hD gi hg args gu as eI hlay hrd kF hlo;obtain rfl:dV=.none:=Dflts.none hD iS;obtain rfl:kV=.none:=Dflts.noKw hD;obtain⟨a,vs,ns,rfl,rfl,gN,fg,aI⟩:=Xu hn eI kF;refine enter_call (codeAny_mono (call w s₀ s₁ mg mb fa o pm cd bv a vs ns G Y ho (fd_plain hd) be gi gN fg aI hg) λr s' hq=>?_);obtain⟨rfl,h2,h3,h4⟩:=hq;exact⟨.inl ⟨.bool true,.bool true,[],rfl,λ_=>rfl,.bool true,XS l _,λ_=>⟨List.Pairwise.nil,λ_ hm=>(nomatch hm)⟩⟩,h2,h3,h4⟩
end Att
namespace L2
open PySem PySem.Spec PyProof.Rows
theorem Fl:∀{vs:Θ}{ns:List Int},IntsAre vs ns->Vals (ns.map V.int) vs
 |_,_,.nil=>.nil
 |_,_,.cons n t h=>.cons ⟨t,rfl⟩ (Fl h)
def Only(H:Hp):Prop:=∀b,H b=none\/∃o xs,H b=some (.frz o (.lst xs))
theorem abG{P:Program}{w:World}{K:Frag}{mg mb:Str->Ω}{CX:CXT}{k:Nat}{fa a:Addr}{fd:FuncData}{x:Str}{sp:Sp}{s₁:Shared}{vs:Θ}{ns:List Int}
 (KX:K.In s₁.heap)(eh:s₁.heap.Ns mainGlobals mg)(hb:s₁.heap.Ns builtinsNs mb)(hbb:∀x:Str,x≠"__name__"->mb x=bootBuiltins x)(kQ:s₁.heap.NoLimit)(hg:s₁.gens = #[])
 (ha:s₁.heap.get? a=some { cls:=.type "list",data:=.seq vs.toArray })(hi:IntsAre vs ns)(hl:ns.length<=sizeLine)(hr:fB k callerA)
 (F:∀base:Heap,K.In base->base.Ns mainGlobals mg->cj P w K mg base CX k fa fd [x] sp)(iX:∀(s:Shared)(u:Value),BindsTo s fd ⟨[u],[]⟩ [(x,u)])
 (f8:∀H:Hp,Only H->SqL K H a (ns.map V.int)->sp [.ref a] H (λv _=>v=.bl true) λ_ _ _=>False)
 (lS:∀H e s',CX [] H s₁ (λ_ _ _=>False) e s'->False) :
  codeAny (model P w) callerA (.call (.ref fa) ⟨[.ref a],[]⟩) (λr s'=>r=.ok (.ret (.bool true))/\OldK s₁.heap s'.heap/\s'.os=s₁.os/\AllBare s'.gens) s₁:=by
 have rv:=Fl hi;have kC:=hi.length

 have core:∀H:Hp,Only H->SqL K H a (ns.map V.int)->HOk P w H s₁.heap->(∀b,H b≠none->b=a)->(H a≠none->K.lookup a=none) ->
   codeAny (model P w) callerA (.call (.ref fa) ⟨[.ref a],[]⟩) (λr s'=>r=.ok (.ret (.bool true))/\OldK s₁.heap s'.heap/\s'.os=s₁.os/\AllBare s'.gens) s₁:=by
  intro H hO hS hok hA hK;have eC:∀{b:Addr}{o:Obj},s₁.heap.get? b=some o->H b=none->(Mj s₁.heap H).get? b=some o:=λe n=>Z4 e n;have ib:∀{b:Addr}{o:Obj}{es:Array DictEntry}{ep:Nat},s₁.heap.get? b=some o->o.data=.dict es ep->H b=none:=λ{b o es ep}e d=>by
   cases q:H b with
   |none=>rfl
   |some u =>
    have e':b=a:=hA b (by rw[q];simp);subst e';rw[ha]at e;cases e;have d':Data.seq vs.toArray _=Data.dict es ep:=d;cases d'
  have jp:∀{b:Addr}{m:Str->Ω},s₁.heap.Ns b m->(Mj s₁.heap H).Ns b m:=λ{b m}⟨o,es,ep,e,d,r⟩=>⟨o,es,ep,eC e (ib e d),d,r⟩;have hKb:K.In (Mj s₁.heap H):=λb o e=>eC (KX b o e) (by
   cases q:H b with
   |none=>rfl
   |some u =>
    have e':b=a:=hA b (by rw[q];simp);subst e';rw[hK (by rw[q];simp)]at e;cases e)
  have hM:Mod K mg (Mj s₁.heap H):=⟨hKb,jp eh,⟨mb,jp hb,hbb⟩,let⟨mc,h1,h2⟩:=kQ;⟨mc,jp h1,h2⟩⟩;have e0:TF P w K mg (Mj s₁.heap H) callerA [] s₁ H:=⟨rfl,hM,λb o e=>abX e,WG (Yg _ _),trivial,λb hb=>absurd (show b∈([] : Ψ)from hb) (by simp),hok,.of_eq hg⟩;refine codeAny_mono ((F _ hKb (jp eh)).run callerA [] s₁ H ⟨[.ref a],[]⟩ [.ref a] [.ref a] _ _ hr e0 (iX s₁ (.ref a)) (.cons rfl .nil) (f8 H hO hS)) λr s' h=>?_;cases r with
  |error e=>exact(lS H e s' h).elim
  |ok fl =>
   cases fl with
   |next=>exact False.elim h
   |brk=>exact False.elim h
   |cont=>exact False.elim h
   |ret u =>
    obtain⟨v,H',os,bare,un,hok',r',q⟩:=h;have q':v=.bl true:=q;subst q';obtain rfl:u=Value.bool true:=r';refine⟨rfl,OldK.of_keep λb o e=>?_,os,bare⟩;cases q:H b with
    |none=>exact un.keep b o e q (by intro z;exact absurd (show b∈([] : Ψ)from z) (by simp)) (by simp)
    |some u =>
     rcases hO b with z|⟨ob,xs,z⟩
     .rw[q]at z;cases z
     .have z2:=un.frzs b ob _ z;obtain⟨e1,_⟩:=hok b _ z;obtain⟨e2,_⟩:=hok' b _ z2;rw[e]at e1;cases e1;exact e2
 cases hk:K.lookup a with
 |some o =>

  have e:=KX a o hk;rw[ha]at e;cases e;refine core (λ_=>none) (λ_=>.inl rfl) (.inr ⟨_,vs.toArray,_,hk,rfl,rfl,rfl,by rw[aX,kC];exact hl,by simpa using rv⟩) (λb u z=>by have z':(none:Option HO)=some u:=z;cases z') (λb z=>absurd rfl z) λz=>absurd rfl z
 |none =>
  refine core (λb=>if b=a then some (.frz { cls:=.type "list",data:=.seq vs.toArray } (.lst (ns.map V.int)))else none) (λb=>?_) (.inl (.inr ⟨{ cls:=.type "list",data:=.seq vs.toArray },ZY rfl⟩)) (λb u z=>?_) (λb z=>?_) λ_=>hk
  .by_cases hb:b=a
   .exact .inr ⟨_,_,ZY hb⟩
   .exact .inl (ZZ hb)
  .by_cases hb:b=a
   .have z':=(ZY hb).symm.trans z;cases z';subst hb;exact⟨ha,by rw[ak];exact hl,vs,_,rv,ha⟩
   .have z':=(ZZ hb).symm.trans z;cases z'
  .by_cases hb:b=a
   .exact hb
   .exact absurd (ZZ hb) z
noncomputable abbrev KOf{K:Frag}{h:Heap}(_:K.In h):Frag:=K
theorem V2{l:PySem.W.OpenLaw}{n k:Nat}{q:Program}{loose:Φ}{XP:(Str->Ω)->Heap->Prop}{YP:World->Heap->Prop}{d:DefRec}{K:Params->Frag}{CX:World->CXT}{sp:World->Sp}{x:Str}
 (hn:l.most=some n)(hG:n<=sizeLine)(iS:d.params.defaults=[])(hr:fB k callerA)
 (hY:∀(w:World)(h:Heap),YP w h->(K w.params).In h)
 (F:∀(w:World)(mg:Str->Ω)(fa:Addr)(h:Heap),(K w.params).In h->h.Ns mainGlobals mg->mg d.name=some (.ref fa) ->
   ∃fd:FuncData,(∀(s:Shared)(u:Value),BindsTo s fd ⟨[u],[]⟩ [(x,u)]) /\
    ∀base:Heap,(K w.params).In base->base.Ns mainGlobals mg->cj l.prog w (K w.params) mg base (CX w) k fa fd [x] (sp w))
 (f8:∀(w:World)(H:Hp)(a:Addr)(ns:List Int),ns.length<=n->Only H->SqL (K w.params) H a (ns.map V.int)->sp w [.ref a] H (λv _=>v=.bl true) λ_ _ _=>False)
 (lS:∀(w:World)(H:Hp)(s:Shared)(e:Value)(s':Shared),CX w [] H s (λ_ _ _=>False) e s'->False) :
  PySem.W.WalkO q loose XP YP l.row.toRowW d [] (λf vs=>PySem.call f vs):=by
 refine Att.RW hn iS λw s₀ s₁ mg mb fa o pm cd bv a vs ns G Y ho hd be gi gN fg aI hg=>?_;have KX:=hY w _ Y;obtain⟨fd,hb,hF⟩:=F w mg fa _ KX G.T.g gi;exact abG KX G.T.g G.T.b G.T.builtins G.T.nolimit hg gN fg (aL aI hG) hr hF hb (λH hO hS=>f8 w H a ns aI hO hS) λH e s'=>lS w H s₁ e s'
end L2

namespace L2
open PySem PySem.Spec PyProof.Rows
abbrev CX0:CXT:=λ_ _ _ _ _ _=>False
abbrev E0:XK:=λ_ _ _=>False
theorem Rv{X:Cx} : Passes CX0 X E0:=λ_ _ _ _ _ _ _ h=>h.elim
structure Fun(K:Frag)(x ai:Str)(st:Stmt)(f:Addr)(fd:FuncData):Prop where
 ex:∃(oc:Value)(od:Ξ)(kV bv pm:Value)(an:Ξ)(af ct:Value)(dQ:Array (Ω)),
  fd=PySem.W.fnOf x ai (iR st) (fK st) (bH st) .none kV bv pm an af ct/\K.lookup f=some ⟨oc,od,.func fd,dQ⟩/\codeIn K af ai=true
 kp:keepIn K (.ref f)=true
section
variable{P:Program}{w:World}{K:Frag}{mg:Str->Ω}{base:Heap}
theorem Fun.ok{x ai:Str}{st:Stmt}{f:Addr}{fd:FuncData}{N ps:Φ}{k:Nat}{sp:Sp}(F:Fun K x ai st f fd)(S:bK N ps (bH st))(len:∀vs H Q E,sp vs H Q E->vs.length=ps.length)
 (ce:∀(af:Value)(A:Around)(outer:List Env)(s:Shared)(H:Hp)(vs:Ζ)(Q:VK)(E:XK),fB k (A.deeper (envOfC ai (bH st) s.heap.objs.size f af))->sp vs H Q E ->
   ∃t,PSs (MF CX0 P w K mg base N ai (bH st) f af A outer s H E).nox (fK st) t/\t { nx:=λ_ H'=>Q .non H',rt:=Q } (start N vs) H):cj P w K mg base CX0 (k+1) f fd ps sp:=by
 obtain⟨oc,od,kV,bv,pm,an,af,ct,dQ,rfl,lk,be⟩:=F.ex;refine ak8 lk be S len λA outer s H vs Q E hr f8=>?_;obtain⟨t,h,q⟩:=ce af A outer s H vs Q E hr f8;exact⟨t,h.nox,q⟩
theorem aau{x ai:Str}{st:Stmt}{f:Addr}{oc:Value}{od an:Ξ}{dQ:Array (Ω)}{kV bv pm af ct:Value}(l:K.lookup f=some ⟨oc,od,.func (PySem.W.fnOf x ai (iR st) (fK st) (bH st) .none kV bv pm an af ct),dQ⟩)
 (c:codeIn K af ai=true)(k:keepIn K (.ref f)=true):Fun K x ai st f (PySem.W.fnOf x ai (iR st) (fK st) (bH st) .none kV bv pm an af ct):=⟨⟨oc,od,kV,bv,pm,an,af,ct,dQ,rfl,l,c⟩,k⟩
end
theorem zG{A:Around}{k:Nat}(hr:fB k A):A.units+1<cLine:=Y3 (Nat.add_le_add_left (by decide:1<=64) _) hr.units
section
variable{X:Cx}
noncomputable def sV(sc:Scope)(x:Str):Bool:=(sc.names.lookup x).any λk=>k == .local || k == .cell || k == .free
theorem aeH{sc:Scope}{x:Str}(h:sV sc x=true):Vis sc x:=by
 unfold sV at h;unfold Vis;cases e:sc.names.lookup x with
 |none=>rw[e]at h;cases h
 |some k=>rw[e]at h;cases k<;>first|exact .inl rfl|exact .inr (.inl rfl)|exact .inr (.inr rfl)|cases h
theorem pv(i:Nat){x:Str}{pos:Pos}(hN:X.N[i]?=some x:=by rfl)(hv:sV X.env.scope x=true:=by rfl)(hd:(x==("__debug__":Str))=false:=by decide)
 (be:(x==("__classdict__":Str))=false:=by decide):PE X (.Name x pos) (ajM i):=agr hN (aeH hv) hd be
end
theorem amS{A B:Prop}(h:B):if false=true then A else B:=by
 rw[ZZ bw];exact h
theorem amY{A B:Prop}(h:A):if true=true then A else B:=by
 rw[ZY rfl];exact h
def Same(H H':Hp):Prop:=∀b o,H b=some o->H' b=some o
theorem Same.refl(H:Hp):Same H H:=λ_ _ h=>h
theorem Same.trans{H H1 H2:Hp}(a:Same H H1)(b:Same H1 H2):Same H H2:=λc o h=>b c o (a c o h)
theorem Same.free{H H':Hp}(e:Same H H'){l:Addr}(h:H' l=Option.none):H l=Option.none:=by
 cases q:H l with
 |none=>rfl
 |some o =>
  rw[e l o q]at h;cases h
theorem Same.seq{K:Frag}{H H':Hp}{a:Addr}{xs:Ζ}(e:Same H H')(h:SqL K H a xs):SqL K H' a xs:=by
 rcases h with(h|⟨o,h⟩)|h
 .exact .inl (.inl (e _ _ h))
 .exact .inl (.inr ⟨o,e _ _ h⟩)
 .exact .inr h
def Bd(i:Int):Prop:=i.natAbs<2^8000
theorem Bd.log2{i:Int}(h:Bd i):i.natAbs.log2<8000:=by
 by_cases h0:i.natAbs=0
 .rw[h0,Nat.log2_zero];exact TR _
 .exact(Nat.log2_lt h0).mpr h
theorem Bd.bits{i:Int}(h:Bd i):Builtin.Int.intBits i<=2^20:=by
 have e:(2:Nat)^20=1048576:=by decide
 have:=h.log2;unfold Builtin.Int.intBits;split
 .exact aZ _
 .lia
section
variable{X:Cx}
theorem acs:OpR X (binaryOp .Mult) (rI (λi j=>Bd i/\Bd j) λi j=>.int (i*j)):=opI λ_ _ _ _ _ _ _ hc q=>mul_int q (.of_bits hc.1.bits hc.2.bits)
theorem aby:OpR X (binaryOp .FloorDiv) (rI (λ_ j=>j≠0/\Bd j) λi j=>.int (i.fdiv j)):=opI λ_ _ _ _ _ _ _ hc q=>floordiv_int hc.1 q (.inl (PyProof.noPylong_of_log2 (by have:=hc.2.log2;exact Th this (by decide))))
theorem RX:i_ X (.builtin "isinstance") (λxs H Q=>∃x c cv t b,xs=[x,c]/\((∃T,c=.ty T/\cv=Value.type T)\/∃C,c=.ref C/\cv=Value.ref C)/\Ey X.K H x t/\kitOne X.K t cv=some b/\Q (.bl b) H):=by
 intro aa s σ H xs us Q I r h;obtain⟨x,c,cv,t,b,rfl,rc,ty,e,q⟩:=h;obtain⟨u,v,rfl,ru,rv⟩:=r.two;have e2:v=cv:=by
  rcases rc with⟨T,rfl,rfl⟩|⟨T,rfl,rfl⟩
  .exact rv
  .exact rv
 subst e2;exact Yz I ru ty e λtk=>⟨.bl b,H,I.tok _,rfl,q⟩
theorem Rm:i_ X (.builtin "sorted") (λxs H Q=>∃l ns,xs=[.ref l]/\SqL X.K H l (ns.map V.int)/\ns.length<64/\∀(ms:List Int)p,H p=none->ms.Perm ns->ms.Pairwise (· <= ·)->Q (.ref p) (upd H p (.lst (ms.map V.int)))):=by
 intro aa s σ H xs us Q I r h;obtain⟨l,ns,rfl,hl,h64,q⟩:=h;obtain⟨u,rfl,ru⟩:=r.one;cases ru;obtain⟨its,rv,p,hz⟩:=I.list hl;have hI:=intsAre_of rv;have aI:its.length=ns.length:=by have:=rv.length;simpa using this.symm
 refine sorted_ints (vs:=its) p.isList hI (Y3 (WG aI) h64) λout ns' a1 a2 a3=>?_;obtain⟨e,he⟩:=sortedAll_at s.heap its out;have j3:H (s.heap.objs.size+1)=none:=I.hok.fresh (Xs _);refine⟨.ref _,_,I.laid (a:=s.heap.objs.size+1) (o:=.lst (ns'.map V.int)) (t':=s.toks) (λb u e=>sortedAll_old e) (Xs _) ?_,rfl,q ns' _ j3 a2 a3⟩;refine⟨?_,out.toList,e,Fl a1,he⟩;rw[ak,a2.length_eq];rw[ak]at hz;exact hz
end
section
variable{prog:Program}{w:World}{A:Around}{E:Ε}{s:Shared}
theorem Lx{it t:Addr}{items:Array Value}(gS:t≠it):∀(n i:Nat)(s:Shared)(Q:Θ->Shared->Prop),s.heap.IsListIter it t i->PlainL s.heap t items->i+n<=items.size ->
  (∀h',h'.IsListIter it t (i+n)->Heap.SameBut it s.heap h'->Q ((items.toList.drop i).take n) { s with heap:=h' })->wpAny (model prog w) A (draw (.ref it) n) Q E s
 |0,i,s,Q,hit,_,_,hQ=>by
  show wpAny _ _ (pure []) Q E s;exact ZT (by simpa using hQ s.heap hit (Heap.SameBut.refl ..))
 |n+1,i,s,Q,hit,ht,hle,hQ=>by
  have fc:i<items.size:=by lia
  show wpAny _ _ (pyNext (.ref it) >>= _) Q E s;refine ZU (wpAny_pyNext_list_item hit ht.isList (x:=items[i]) (by simp[fc]) λh₁ gV io=>?_);have kK:PlainL h₁ t items:=by
   obtain⟨o,k,e,r⟩:=ht;exact⟨o,k,(io.2 t gS).trans e,r⟩
  refine ZU (wpAny_holding (Lx gS n (i+1) _ _ gV kK (by lia) λh₂ kR hs₂=>ZT ?_));have hd:items.toList.drop i=items[i]::items.toList.drop (i+1):=by simp[Q1,fc]
  have:=hQ h₂ (by rw[show i+(n+1)=i+1+n by lia];exact kR) (io.trans hs₂);rw[hd,List.take_succ_cons]at this;exact this
theorem Ew{t:Addr}{items:Array Value}{Q:Θ->Shared->Prop}(hh:A.handled=none)(ht:PlainL s.heap t items)
 (hQ:∀h',Heap.ExtBut s.heap.objs.size s.heap h'->Q items.toList { s with heap:=h' }):wpAny (model prog w) A (unpackItems (.ref t) items.size none) Q E s:=by
 have fc:t≠s.heap.objs.size:=by obtain⟨o,_,ho,_⟩:=ht;exact aQ (aK ho)
 unfold unpackItems;refine ZU ?_
 .unfold notIterableAtAll;refine ZU (wpAny_specialOf ht.isList.typeIs slot_list_iter.lookup ?_);refine ZT ?_;simp only[XW,if_false];refine ZU (wpAny_holding (wpAny_pyIter_list ht.isList ?_));have ht0:PlainL (s.heap.push { cls:=.type "list_iterator",data:=.fields #[.ref t,.int 0 0] }) t items:=by
   obtain⟨o,k,e,r⟩:=ht;exact⟨o,k,aH _ e,r⟩
  refine ZU (wpAny_holding (Lx fc items.size 0 _ _ ⟨_,aW _ rfl,rfl,rfl⟩ ht0 (by lia) λh₁ gV io=>?_));have g3:List.take items.size (List.drop 0 items.toList)=items.toList:=by
   rw[List.drop_zero];exact Zzw (by simp)
  rw[g3];rw[ZZ (by simp)];have kK:PlainL h₁ t items:=by
   obtain⟨o,k,e,r⟩:=ht0;exact⟨o,k,(io.2 t fc).trans e,r⟩
  refine ZU (wpAny_holding (wpAny_pyNext_list_end hh gV kK.isList (by simp) λh₂ he₂=>?_));simp only[Option.isSome_none,XW,if_false];refine ZT (hQ h₂ λb o hb e=>he₂ b o hb (io.extBut b o hb (aH _ e)))
theorem DG{env:Env}{bX:List Expr}{x1}{pos:Pos}{t:Addr}{items:Array Value}{Q:Unit->Shared->Prop}(hh:A.handled=none)(ht:PlainL s.heap t items)
 (hn:(assignEach bX env).length=items.size)(iq:(assignEach bX env).findIdx? (·.1)=none)
 (h:∀h',Heap.ExtBut s.heap.objs.size s.heap h'->wpAny (model prog w) A (assignInOrder ((assignEach bX env).map (·.2)) items.toList) Q E { s with heap:=h' }) :
  wpAny (model prog w) A (assign (.Tuple bX x1 pos) env (.ref t)) Q E s:=by
 rw[assign_Tuple];refine ZU (wpAny_standAt ?_);unfold unpack;rw[hn,iq];exact ZU (wpAny_holding (Ew hh ht h))
end
section
variable{X:Cx}{pos:Pos}
def aj4(K:Frag)(n:Nat)(t:TGs):TG:=λv σ H Q=>∃a xs,v=.ref a/\SqL K H a xs/\xs.length=n/\t xs σ H Q
theorem ab1{es:List Expr}{k:Nat}{t:TGs}{n:Nat}(hc:X.calm=true)(h:PGs X es t)
 (hn:(assignEach es X.env).length=n:=by rfl)(b8:(assignEach es X.env).findIdx? (·.1)=none:=by rfl):PG X (.Tuple es k pos) (aj4 X.K n t):=by
 intro aa s σ H v u Q I r hw;obtain⟨a,xs,e1,hq,hl,hw⟩:=hw;subst e1;cases r;obtain⟨its,rv,ht,hz⟩:=I.list hq;refine DG (I.ok.hd hc) ht (by simp[hn,<- hl,rv.length]) b8 λh' hx=>?_;have I1:Inv X aa σ H { s with heap:=h' }:=I.kept (t':=s.toks) λb o e=>hx b o (aQ (aK e)) e;exact h aa _ σ H xs _ Q I1 (by simpa using rv) hw
end
theorem Same.upd{H:Hp}{p:Addr}{o:HO}(hp:H p=none):Same H (upd H p o):=λb u e=>by
 rw[cD (lW e hp)];exact e
section
variable{X:Cx}
theorem IxR.imp{r r':R2}(h:IxR X r)(i:∀x y H Q,r' x y H Q->r x y H Q):IxR X r':=by
 intro b pos aa s σ H x y v u Q I rx ry q hs;exact h _ _ _ _ _ _ _ _ _ _ _ I rx ry (i _ _ _ _ q) hs
theorem i_.imp{f:Value}{r r':Ζ->Hp->VK->Prop}(h:i_ X f r)(i:∀xs H Q,r' xs H Q->r xs H Q):i_ X f r':=λaa s σ H xs us Q I rx q=>h aa s σ H xs us Q I rx (i _ _ _ q)
noncomputable def tyS(H:Hp):V->Option String
 |.non=>some "NoneType"
 |.bl _=>some "bool"
 |.int _=>some "int"
 |.str _=>some "str"
 |.ref a=>match H a with
  |some (.lst _)=>some "list"
  |some (.tup _)=>some "tuple"
  |some (.dK _)=>some "dict"
  |_=>none
 |_=>none
theorem agc{K:Frag}{H:Hp}{x:V}{t:String}(h:tyS H x=some t):Ey K H x (.type t):=by
 cases x with
 |non=>cases h;exact .non
 |bl=>cases h;exact .bl _
 |int=>cases h;exact .int _
 |str=>cases h;exact .str _
 |byt=>cases h
 |flt=>cases h
 |ty=>cases h
 |ref a =>
  have h:(match H a with
   |some (.lst _)=>some "list"
   |some (.tup _)=>some "tuple"
   |some (.dK _)=>some "dict"
   |_=>none)=some t:=h
  split at h
  .cases h;exact .lst (by assumption)
  .cases h;exact .tup (by assumption)
  .cases h;exact .dK (by assumption)
  .cases h
noncomputable def MK(t T:String):Bool:=(t==T) || (t=="bool" && T=="int")
theorem Wg{K:Frag}{t T:String}(ht:t∈["NoneType","bool","int","str","list","tuple","dict"])(hT:T∈["bool","int","str","list","tuple","dict"]):kitOne K (.type t) (.type T)=some (MK t T):=by
 simp only[YU,UR,or_false]at ht hT;rcases ht with rfl|rfl|rfl|rfl|rfl|rfl|rfl<;>rcases hT with rfl|rfl|rfl|rfl|rfl|rfl<;>with_unfolding_all rfl
theorem agw{H:Hp}{x:V}{t:String}(h:tyS H x=some t):t∈["NoneType","bool","int","str","list","tuple","dict"]:=by
 cases x with
 |non=>cases h;decide
 |bl=>cases h;decide
 |int=>cases h;decide
 |str=>cases h;decide
 |byt=>cases h
 |flt=>cases h
 |ty=>cases h
 |ref a =>
  have h:(match H a with
   |some (.lst _)=>some "list"
   |some (.tup _)=>some "tuple"
   |some (.dK _)=>some "dict"
   |_=>none)=some t:=h
  split at h<;>cases h<;>decide
def am3:Ζ->Hp->VK->Prop:=λxs H Q=>∃x T t,xs=[x,.ty T]/\T∈["bool","int","str","list","tuple","dict"]/\tyS H x=some t/\Q (.bl (MK t T)) H
theorem xM:i_ X (.builtin "isinstance") am3:=RX.imp λxs H Q hP=>by obtain⟨x,T,t,a,b,c,d⟩:=hP;exact⟨x,.ty T,.type T,.type t,_,a,.inl ⟨T,rfl,rfl⟩,agc c,Wg (agw c) b,d⟩
theorem PG.imp{e:Expr}{t t':TG}(h:PG X e t)(i:∀v σ H Q,t' v σ H Q->t v σ H Q):PG X e t':=λaa s σ H v u Q I r q=>h aa s σ H v u Q I r (i _ _ _ _ q)
def aiz:Ζ->Hp->VK->Prop:=λxs H Q=>∃l ns,xs=[.ref l]/\H l=some (.lst (ns.map V.int))/\ns.length<64/\∀(ms:List Int)p,H p=none->ms.Perm ns->ms.Pairwise (· <= ·)->Q (.ref p) (upd H p (.lst (ms.map V.int)))
theorem Ye:i_ X (.builtin "sorted") aiz:=Rm.imp λxs H Q hP=>by obtain⟨l,ns,a,b,c⟩:=hP;exact⟨l,ns,a,.of b,c⟩
end
def OkF(P:Program)(w:World)(K:Frag)(mg:Str->Ω)(base:Heap)(k:Nat)(x:Str)(ps:Φ)(sp:Sp):Prop :=
 ∃f fd,cj P w K mg base CX0 k f fd ps sp/\Binds K fd ps []/\mg x=some (.ref f)/\keepIn K (.ref f)=true
def cJ(K:Frag)(mg:Str->Ω)(x:Str)(st:Stmt)(ps:Φ):Prop :=
 ∃f fd,Fun K x x st f fd/\(∀us:Θ,us.length=ps.length->bindArgs fd ⟨us,[]⟩=pure (ps.zip us))/\mg x=some (.ref f)
theorem cJ.ok{P:Program}{w:World}{K:Frag}{mg:Str->Ω}{base:Heap}{k:Nat}{x:Str}{st:Stmt}{ps:Φ}{sp:Sp}(h:cJ K mg x st ps)
 (hf:∀f fd,Fun K x x st f fd->cj P w K mg base CX0 k f fd ps sp):OkF P w K mg base k x ps sp:=by
 obtain⟨f,fd,a,b,c⟩:=h;exact⟨f,fd,hf f fd a,.all b,c,a.kp⟩
theorem ada{K:Frag}{h:Heap}{mg:Str->Ω}{x:Str}{st:Stmt}{ps:Φ}{f:Addr}{oc:Value}{od an:Ξ}{dQ:Array (Ω)}{kV bv pm af ct:Value}(X:K.In h)(G:h.Ns mainGlobals mg)
 (a:nsIn K mainGlobals x=some (some (.ref f)))(l:K.lookup f=some ⟨oc,od,.func (PySem.W.fnOf x x (iR st) (fK st) (bH st) .none kV bv pm an af ct),dQ⟩)
 (c:codeIn K af x=true)(k:keepIn K (.ref f)=true)
 (hb:∀(kV bv pm:Value)(an:Ξ)(af ct:Value)(us:Θ),us.length=ps.length->bindArgs (PySem.W.fnOf x x (iR st) (fK st) (bH st) .none kV bv pm an af ct) ⟨us,[]⟩=pure (ps.zip us)):cJ K mg x st ps :=
 ⟨f,_,aau l c k,hb kV bv pm an af ct,mg_of X G a⟩
def W7(K:Frag):Sp:=λvs H Q _=>∃(a:Addr)(ns:List Int),vs=[.ref a]/\SqL K H a (ns.map V.int)/\ns.length<=63/\Only H/\∀H',Q (.bl true) H'
theorem aku{l:PySem.W.OpenLaw}{k:Nat}{x:Str}{q:Program}{loose:Φ}{XP:(Str->Ω)->Heap->Prop}{YP:World->Heap->Prop}{d:DefRec}{K:Params->Frag}(hn:l.most=some 63)(iS:d.params.defaults=[])
 (hr:fB k callerA)(hY:∀(w:World)(h:Heap),YP w h->(K w.params).In h)
 (F:∀(w:World)(mg:Str->Ω)(fa:Addr)(h:Heap),(K w.params).In h->h.Ns mainGlobals mg->mg d.name=some (.ref fa) ->
   ∃st,cJ (K w.params) mg d.name st [x]/\∀(base:Heap)(f:Addr)(fd:FuncData),Fun (K w.params) d.name d.name st f fd->cj l.prog w (K w.params) mg base CX0 k f fd [x] (W7 (K w.params))) :
  PySem.W.WalkO q loose XP YP l.row.toRowW d [] (λf vs=>PySem.call f vs):=by
 refine L2.V2 (n:=63) (k:=k) (x:=x) (CX:=λ_=>CX0) (sp:=λw=>W7 (K w.params)) hn (by decide) iS hr hY (λw mg fa h KX G gi=>?_) (λ_ _ a ns hl hO hS=>⟨a,ns,rfl,hS,hl,hO,λ_=>rfl⟩) λ_ _ _ _ _ z=>z;obtain⟨st,⟨f,fd,hf,hb,hm⟩,ok⟩:=F w mg fa h KX G gi;rw[hm]at gi;have e:f=fa:=by injection gi with z;injection z
 subst e;exact⟨fd,λs u=>.of_eq (hb [u] rfl),λbase _ _=>ok base f fd hf⟩
section
variable{X:Cx}{p pos:Pos}{e:Expr}{es:List Expr}{t:TA}{x:Str}{k:Nat}{ps:Φ}{sp:Sp}
def T8(sp:Sp)(t:TA):TE:=λσ H Q=>t σ H λvs H1=>sp vs H1 Q E0
theorem Jt(G:OkF X.prog X.w X.K X.mg X.base k x ps sp)(hr:fB k X.A)(hg:Gl X x)(ha:PA X (e::es) t)(cc:(x==("__debug__":Str))=false:=by decide)
 (he:starEach (e::es) X.env=(false,eval e X.env)::starEach es X.env:=by rfl)(bg:(backTo pos (starEach es X.env)).any (·.1)=false:=by rfl):PE X (.Call (.Name x p) (e::es) [] pos) (T8 sp t):=by
 obtain⟨f,fd,F,b,hm,kp⟩:=G;intro aa s σ H Q I h;refine ac8 F hr hg hm kp b .nil Rv ha cc he bg aa s σ H Q I ?_;show t σ H λvs H1=>sp (vs++[]) H1 Q E0;simp only[List.append_nil];exact h
end
theorem agM(a:Int):(if a<0 then -a else a)=((a.natAbs:Nat):Int):=by split<;>omega
theorem tO(a:Int){b:Int}(h:0<b):Int.fdiv a b=a/b:=Zzv a (XY h)
abbrev bmV:Θ:=[.type "ValueError",.type "Exception",.type "BaseException",.type "object"]
def aoc(K:Frag)(C:Addr):Prop:=excIn K C bmV "ValueError.__new__"=true
noncomputable def vI(cells:List (Str×Addr)):List (Str×NameKind)->List (Str×Addr)->List (Str×Addr)
 |[],acc=>acc
 |(n,k)::r,acc=>vI cells r (if k == .free then(n,(cells.lookup n).getD 0)::acc else acc)
theorem VJ{scope:Scope}{env:Env}(h:∀y∈scope.names,y.2=.free->∃c,env.cells.lookup y.1=some c):closureFor scope env=pure (vI env.cells scope.names []):=by
 unfold closureFor;have go:∀(l:List (Str×NameKind))(acc:List (Str×Addr)),(∀y∈l,y.2=.free->∃c,env.cells.lookup y.1=some c) ->
   (forIn l acc (λ(x:Str×NameKind)(r:List (Str×Addr))=>if(x.2==NameKind.free)=true then(do let a <- cellOf env x.1;pure (ForInStep.yield ((x.1,a)::r)))else pure (ForInStep.yield r)):Sem (List (Str×Addr)))=pure (vI env.cells l acc):=by
  intro l
  induction l with
  |nil=>intro acc _;rfl
  |cons y r ih =>
   intro acc hy;obtain⟨n,k⟩:=y;rw[List.forIn_cons];by_cases hk:k=.free
   .subst hk;obtain⟨c,hc⟩:=hy (n,.free) aO rfl;have e1:cellOf env n=pure c:=by unfold cellOf;rw[show env.cells.lookup n=some c from hc]
    simp only[beq_self_eq_true,if_true,e1,pure_bind];rw[ih _ λz hz=>hy z (aJ _ hz)];show pure _=pure (vI env.cells r (if(NameKind.free==NameKind.free)=true then(n,(env.cells.lookup n).getD 0)::acc else acc));rw[show env.cells.lookup n=some c from hc]
    rfl
   .have hb:(k==NameKind.free)=false:=by simpa using hk
    simp only[hb,XW,if_false,pure_bind];rw[ih _ λz hz=>hy z (aJ _ hz)];show pure _=pure (vI env.cells r (if(k==NameKind.free)=true then(n,(env.cells.lookup n).getD 0)::acc else acc));rw[hb]
    rfl
 have e:=go scope.names [] h;show(forIn scope.names [] (λ(x:Str×NameKind)(r:List (Str×Addr))=>if(x.2==NameKind.free)=true then(do let a <- cellOf env x.1;pure (ForInStep.yield ((x.1,a)::r)))else pure (ForInStep.yield r)):Sem (List (Str×Addr))) >>= (λcs=>pure cs)=_;rw[e]
 rfl
theorem Td{cells:List (Str×Addr)} : ∀{names:List (Str×NameKind)}{acc:List (Str×Addr)}{x:Str}{c:Addr},(∀y∈names,y.2=.free->∃c,cells.lookup y.1=some c)->(x,c)∈vI cells names acc->(x,c)∈acc\/cells.lookup x=some c
 |[],_,_,_,_,h=>.inl h
 |(n,k)::r,acc,x,c,hf,h=>by
  unfold vI at h;rcases Td (λy hy=>hf y (aJ _ hy)) h with z|z
  .by_cases hk:k=.free
   .subst hk;simp only[beq_self_eq_true,if_true]at z;rcases YU.mp z with e|e
    .obtain⟨c',dq⟩:=hf (n,.free) aO rfl;cases e;rw[show cells.lookup n=some c' from dq];exact .inr rfl
    .exact .inl e
   .have hb:(k==NameKind.free)=false:=by simpa using hk
    simp only[hb,XW,if_false]at z;exact .inl z
  .exact .inr z
theorem RM{cells:List (Str×Addr)} : ∀{names:List (Str×NameKind)}{acc:List (Str×Addr)}{x:Str},((x,NameKind.free)∈names\/∃c,(x,c)∈acc)->∃c,(x,c)∈vI cells names acc
 |[],_,_,h=>by
  rcases h with h|h
  .cases h
  .exact h
 |(n,k)::r,acc,x,h=>by
  unfold vI;refine RM ?_;rcases h with h|⟨c,h⟩
  .rcases YU.mp h with e|e
   .cases e;exact .inr ⟨_,by simp only[beq_self_eq_true,if_true];exact aO⟩
   .exact .inl e
  .refine .inr ⟨c,?_⟩;split
   .exact aJ _ h
   .exact h
theorem qg{α:Type}{x:Str}{c:α} : ∀{l:List (Str×α)},(x,c)∈l->∃c',l.lookup x=some c'
 |(y,d)::r,h=>by
  rw[List.lookup_cons];cases hb:x==y with
  |true=>exact⟨d,rfl⟩
  |false =>
   rcases YU.mp h with e|e
   .cases e;simp at hb
   .exact qg e
section
variable{X:Cx}{aS iter:Expr}{x:Str}{px pos:Pos}{scope:Scope}{wi:TI}{te:TE}
theorem Inv.nostk'{aa:Δ}{σ:L2.St}{H:Hp}{s:Shared}(I:Inv X aa σ H s){b:Addr}(h1:b≠X.env.locals)(h2:b∉X.fs):b∉frs X.stack:=λz=>by
 rcases YU.mp (I.stkSub b z)with e|e
 .exact h1 e
 .exact h2 e
theorem DQ{env:Env} : ∀{names:List (Str×NameKind)}{y:Str},(names.map λ(n,k)=>if(k==NameKind.free&&env.scope.kind == .function&&env.kindOf n==some .cell)then(n,NameKind.cell)else(n,k)).lookup y=some .cell \/
  (names.map λ(n,k)=>if(k==NameKind.free&&env.scope.kind == .function&&env.kindOf n==some .cell)then(n,NameKind.cell)else(n,k)).lookup y=some .free->(∀z∈names,z.2≠.cell)->(y,NameKind.free)∈names
 |[],y,h,_=>by rcases h with h|h<;>cases h
 |(n,k)::r,y,h,hc=>by
  have ih:=@DQ env r y;simp only[List.map_cons]at h;by_cases hcond:(k==NameKind.free&&env.scope.kind == .function&&env.kindOf n==some .cell)=true
  .rw[ZY hcond]at h;simp only[List.lookup_cons]at h;cases hb:y==n with
   |true =>
    have hk:k=.free:=by
     simp only[Q2,beq_iff_eq]at hcond;exact hcond.1.1
    have:y=n:=by simpa using hb
    subst this hk;exact aO
   |false =>
    rw[hb]at h;exact aJ _ (ih h λz hz=>hc z (aJ _ hz))
  .rw[ZZ hcond]at h;simp only[List.lookup_cons]at h;cases hb:y==n with
   |true =>
    rw[hb]at h;have:y=n:=by simpa using hb
    subst this;rcases h with h|h
    .exact absurd (Option.some.inj h) (hc (y,k) aO)
    .have:k=.free:=Option.some.inj h;subst this;exact aO
   |false =>
    rw[hb]at h;exact aJ _ (ih h λz hz=>hc z (aJ _ hz))
end
section
variable{X:Cx}
def eqF:Ζ->Ζ->Bool
 |[],[]=>true
 |x::xs,y::ys=>eqV x y&&eqF xs ys
 |_,_=>false
theorem Inv.tupIs{aa:Δ}{σ:L2.St}{H:Hp}{s:Shared}{a:Addr}{xs:Ζ}(I:Inv X aa σ H s)(h:H a=some (.tup xs)):∃its,Vals xs its/\IsTup s.heap a its.toArray/\s.heap.IsTuple a its.toArray:=by
 obtain⟨its,rv,ht,_⟩:=I.tuple (SqT.of h);exact⟨its,rv,ht,ht⟩
theorem Inv.lstIs{aa:Δ}{σ:L2.St}{H:Hp}{s:Shared}{a:Addr}{xs:Ζ}(I:Inv X aa σ H s)(h:H a=some (.lst xs)):∃its,Vals xs its/\s.heap.IsList a its.toArray:=by
 obtain⟨its,rv,ht,_⟩:=I.list (SqL.of h);exact⟨its,rv,ht.isList⟩
end
open PySem.SeqAt in
mutual
inductive Shows(H:Hp):V->PyData->Prop
 |non:Shows H .non .none
 |bl (b:Bool):Shows H (.bl b) (.bool b)
 |int (i:Int):Shows H (.int i) (.int i)
 |str (x:Str):Shows H (.str x) (.str x)
 |lst {a:Addr}{xs:Ζ}{ds:List PyData} : H a=some (.lst xs)->eY H xs ds->Shows H (.ref a) (.list ds)
 |tup {a:Addr}{xs:Ζ}{ds:List PyData} : H a=some (.tup xs)->eY H xs ds->Shows H (.ref a) (.tuple ds)
inductive eY(H:Hp):Ζ->List PyData->Prop
 |nil:eY H [] []
 |cons {x:V}{xs:Ζ}{d:PyData}{ds:List PyData} : Shows H x d->eY H xs ds->eY H (x::xs) (d::ds)
end
mutual
theorem Shows.same{H H':Hp}(S:Same H H'):∀{x:V}{d:PyData},Shows H x d->Shows H' x d
 |_,_,.non=>.non
 |_,_,.bl b=>.bl b
 |_,_,.int i=>.int i
 |_,_,.str x=>.str x
 |_,_,.lst e h=>.lst (S _ _ e) (eY.same S h)
 |_,_,.tup e h=>.tup (S _ _ e) (eY.same S h)
theorem eY.same{H H':Hp}(S:Same H H'):∀{xs:Ζ}{ds:List PyData},eY H xs ds->eY H' xs ds
 |_,_,.nil=>.nil
 |_,_,.cons h t=>.cons (Shows.same S h) (eY.same S t)
end
theorem eY.ints(H:Hp):∀ns:List Int,eY H (ns.map V.int) (ns.map PyData.int)
 |[]=>.nil
 |n::ns=>.cons (.int n) (eY.ints H ns)
section
variable{X:Cx}{aa:Δ}{σ:L2.St}{H:Hp}{s:Shared}
mutual
theorem Inv.reads(I:Inv X aa σ H s):∀{x:V}{d:PyData}{v:Value},Shows H x d->RelV x v->∃as,Reads s.heap v d as
 |_,_,_,.non,r=>by cases r;exact⟨_,.none⟩
 |_,_,_,.bl b,r=>by cases r;exact⟨_,.bool b⟩
 |_,_,_,.int i,r=>by obtain⟨t,rfl⟩:=r;exact⟨_,.int i t⟩
 |_,_,_,.str x,r=>by obtain⟨t,rfl⟩:=r;exact⟨_,.str x t⟩
 |_,_,_,.lst e h,r=>by
  cases r;obtain⟨its,rv,⟨o,ho,hc,n,hd⟩⟩:=I.lstIs e;obtain⟨as,q⟩:=Inv.readsAll I h rv;exact⟨_,.list ho hc hd q⟩
 |_,_,_,.tup e h,r=>by
  cases r;obtain⟨its,rv,_,⟨o,ho,hc,n,hd⟩⟩:=I.tupIs e;obtain⟨as,q⟩:=Inv.readsAll I h rv;exact⟨_,.tuple ho hc hd q⟩
theorem Inv.readsAll(I:Inv X aa σ H s):∀{xs:Ζ}{ds:List PyData}{vs:Θ},eY H xs ds->Vals xs vs->∃as,ReadsAll s.heap vs ds as
 |_,_,_,.nil,r=>by cases r;exact⟨_,.nil⟩
 |_,_,_,.cons h t,r=>by
  cases r with
  |cons r1 r2 =>
   obtain⟨a,q1⟩:=Inv.reads I h r1;obtain⟨b,q2⟩:=Inv.readsAll I t r2;exact⟨_,.cons q1 q2⟩
end
def ake:Ζ->Hp->VK->Prop:=λxs H Q=>∃(l:Addr)(ns:List Int),xs=[.ref l]/\H l=some (.lst (ns.map V.int))/\Q (.int ns.sum) H
theorem YJ(hc:X.calm=true):i_ X (.builtin "sum") ake:=by
 intro aa s σ H xs us Q I r h;obtain⟨l,ns,rfl,hl,q⟩:=h;obtain⟨u,rfl,ru⟩:=r.one;cases ru;obtain⟨its,rv,p⟩:=I.lstIs hl;have hI:=intsAre_of rv;obtain⟨xs,e⟩:=hI.allInts.items;have hn:=hI.numsOf;rw[show its=its.toArray.toList from rfl,e,nums_intItems]at hn;rw[e]at p;refine sum_intListG (I.ok.hd hc) p λh' tk t' k=>⟨.int ns.sum,H,I.kept k,?_,q⟩;rw[preSum_eq,Zzw (by simp),hn];exact⟨_,rfl⟩
end
section
variable{X:Cx}
def tM(t:TE):TE:=λσ H Q=>∃R:VK,t σ H R/\∀x H',R x H'->Q x H'
def tMA(t:TA):TA:=λσ H Q=>∃R:Ζ->Hp->Prop,t σ H R/\∀x H',R x H'->Q x H'
theorem PE.mono{a:Expr}{t:TE}(h:PE X a t):PE X a (tM t):=λaa s σ H Q I ⟨R,h1,h2⟩ =>
 thn (h aa s σ H R I h1) λv s' hP=>by obtain⟨x,H',I',r,q⟩:=hP;exact⟨x,H',I',r,h2 x H' q⟩
theorem PA.mono{es:List Expr}{t:TA}(h:PA X es t):PA X es (tMA t):=λpos aa s σ H Q I ⟨R,h1,h2⟩ =>
 thn (h pos aa s σ H R I h1) λv s' hP=>by obtain⟨x,H',I',r,q⟩:=hP;exact⟨x,H',I',r,h2 x H' q⟩
theorem PE.imp{a:Expr}{t t':TE}(h:PE X a t)(i:∀σ H Q,t' σ H Q->t σ H Q):PE X a t':=λaa s σ H Q I q=>h aa s σ H Q I (i σ H Q q)
def an8(to:TE)(t:TA):TE:=λσ H Q=>to σ H λx H1=>∃l xs,x=.ref l/\H1 l=some (.lst xs)/\t σ H1 λvs H2=>∃y ys,vs=[y]/\H2 l=some (.lst ys)/\ys.length<sizeLine/\Q .non (upd H2 l (.lst (ys++[y])))
theorem ZD{o e:Expr}{to:TE}{t:TA}{am ag:Pos}(ho:PE X o to)(ha:PA X [e] t)(hb:attributeBase o "append" X.env (eval o X.env)=eval o X.env:=by rfl)
 (hf:((backTo ag (starEach [e] X.env)).all (λx=>!x.1)&&(backToKw ag (keywordEach [] X.env)).all (λx=>x.1.isSome)&&decide ([e].length+([] : List Keyword).length+(if([] : List Keyword).isEmpty then 0 else 1)<30))=true:=by rfl)
 (hl:(am.endLine==ag.line)=true:=by rfl)(hs:starEach [e] X.env=(false,eval e X.env)::starEach [] X.env:=by rfl)(hp:(backTo ag (starEach [] X.env)).any (·.1)=false:=by rfl) :
  PE X (.Call (.Attribute o "append" am) [e] [] ag) (an8 to t):=by
 refine(abn PySem.F.plainAttrs_list PySem.F.slot_list_append PySem.F.type_list_append K7 ho.mono ha.mono hb hf hl hs hp).imp λσ H Q h=>?_;refine⟨_,h,?_⟩;rintro x H1 ⟨l,xs,rfl,hx,h2⟩;refine⟨.inl ⟨rfl,_,SqL.of hx⟩,_,h2,?_⟩;rintro vs H2 ⟨y,ys,rfl,hy,hz,q⟩;exact⟨l,ys,y,rfl,rfl,hy,hz,q⟩
def afE:Ζ->Hp->VK->Prop:=λxs H Q=>∃p ys,xs=[.ref p]/\H p=some (.lst ys)/\∀l,H l=none->Q (.ref l) (upd H l (.lst ys))
theorem VP:i_ X (.type "list") afE:=Qt.imp λxs H Q hP=>by obtain⟨p,ys,a,b,c⟩:=hP;exact⟨p,ys,a,.inl (.of b),c⟩
end
mutual
theorem Vk:∀ns:List Int,PyData.canLayAll0 (ns.map PyData.int)=true
 |[]=>rfl
 |n::ns=>by
  rw[List.map_cons];unfold PyData.canLayAll0;rw[Vk ns];rfl
end
inductive FL(H:Hp):Ζ->Γ->Prop
 |nil:FL H [] []
 |cons {p:Addr}{f:Β}{xs:Ζ}{fs:Γ} : H p=some (.tup [.int f.1,.int f.2])->FL H xs fs->FL H (.ref p::xs) (f::fs)
noncomputable def Its(x:Str):It:=⟨λi _=>i<x.cps.size,λi H v H'=>H'=H/\∃c,x.cps[i]?=some c/\v=.str ⟨#[c]⟩,λi _=>i=x.cps.size⟩
theorem Rj{P:Program}{w:World}{K:Frag}{tg:Expr}(it:Addr)(x:Str)(t:Tok)(ty:String)(im : ["enumerate","zip","dict_itemiterator","dict_reverseitemiterator","odict_iterator","itertools.zip_longest","itertools.pairwise"].contains ty=false)
 (W:∀A:Around,A.handled=none->Walks P w A it [it] [it] x.cps.size (SignAt x) (λi h=>h.IsStrIter it ty x t i))
 (ir:∀(A:Around)(i:Nat)(s:Shared)(Q:Ε)(E:Ε),s.heap.IsStrIter it ty x t i->Q (.ref it) s->wpAny (model P w) A (pyIter (.ref it)) Q E s):Turn P w K tg (Its x) [it] it (λi h=>h.IsStrIter it ty x t i) where
 mem:=by simp
 obj:=λi h st b hb=>by
  have e:b=it:=by simpa using hb
  subst e;obtain⟨o,ho,_,hd⟩:=st;exact⟨o,ho,λv z=>by rw[hd]at z;cases z⟩
 keep:=λi h h' st k=>let⟨o,ho,r⟩:=st;⟨o,k it (by simp) o ho,r⟩
 item:=by
  intro X hP hw hK hc i aa s σ H E I hf st hg;subst hP hw hK;obtain⟨f0,f1,f2,f3,f4,f5⟩:=hf it (by simp);refine(W X.A (I.ok.hd hc)).item i s _ _ hg st λv h' tk hv df kk=>?_;obtain⟨c,u,hx,rfl⟩:=hv;have I1:Inv X aa σ H { s with heap:=h',toks:=tk }:=I.turned (λb o hb e=>kk b o (by simpa using hb) e) f0 f1 f3 f4 f5;obtain⟨o,ho,gX,hd⟩:=id df;exact⟨_,rfl,Qx (s:={ s with heap:=h',toks:=tk }) ho gX hd im ⟨.str ⟨#[c]⟩,H,I1,⟨u,rfl⟩,⟨rfl,c,hx,rfl⟩,df,λb hb=>(hf b hb).1⟩⟩
 done:=by
  intro X hP hw hK hc i aa s σ H E I hf st hg;subst hP hw hK;obtain⟨f0,f1,f2,f3,f4,f5⟩:=hf it (by simp);have kU:i=x.cps.size:=hg;subst kU;exact(W X.A (I.ok.hd hc)).done s _ _ st λh' tk kk=>⟨rfl,I.turned (λb o hb e=>kk b o (by simpa using hb) e) f0 f1 f3 f4 f5⟩
 self:=ir
section
variable{X:Cx}{tg:Expr}
def amu(te:TE):TI:=λσ H R=>te σ H λv H1=>∃x,v=.str x/\R (Its x) H1
theorem agb{l:Expr}{tl:TE}(hl:PE X l tl):PI X tg l (amu tl):=by
 intro aa s σ H R I h;refine thn (hl aa s σ H _ I h) λv s1 hP=>?_;obtain⟨x,H1,I1,r1,y,ey,q⟩:=hP;subst ey;obtain⟨t,rfl⟩:=r1;have fp:∀b∈[s1.heap.objs.size],Gi X aa H1 b:=λb hb=>by
  have e:b=s1.heap.objs.size:=by simpa using hb
  subst e;exact I1.fpOk (aG _) (I1.hok.fresh (aG _))
 have k:∀o:Obj,Inv X aa σ H1 { s1 with heap:=s1.heap.push o }:=λo=>I1.kept (t':=s1.toks) λb ob z=>aH _ z;cases ha:y.cps.all (· < 128)
 .exact wpAny_pyIter_wide ha ⟨s1.heap.objs.size,[s1.heap.objs.size],_,Its y,H1,rfl,k _,Rj _ y t "str_iterator" (by decide) (λA hA=>Walks.strWide hA _ y t) (λA i s Q E st h=>wpAny_pyIter_striter_wide st h),⟨_,aW _ rfl,rfl,rfl⟩,fp,q⟩
 .exact wpAny_pyIter_ascii ha ⟨s1.heap.objs.size,[s1.heap.objs.size],_,Its y,H1,rfl,k _,Rj _ y t "str_ascii_iterator" (by decide) (λA hA=>Walks.strAscii hA _ y t) (λA i s Q E st h=>wpAny_pyIter_striter_ascii st h),⟨_,aW _ rfl,rfl,rfl⟩,fp,q⟩
end
noncomputable def Gg(x:Str)(lo hi:Option Int):Str:=⟨((x.cps.toList.drop (HT.sIx x.length 0 lo)).take (HT.sIx x.length x.length hi-HT.sIx x.length 0 lo)).toArray⟩
theorem strIdx(lo hi:Option Int)(n:Nat):Builtin.Str.strSliceIndices lo hi 1 n=(List.range (HT.sIx n n hi-HT.sIx n 0 lo)).map (HT.sIx n 0 lo + ·):=by
 rw[<- sliceRange_one];unfold Builtin.Str.strSliceIndices;have h1:∀(o:Option Int)(d:Nat),d<=n->(match o with
   |none=>(d:Int)
   |some i=>(let i:=if i<0 then i+(n:Int)else i;if(1:Int)>0 then max 0 (min i n)else max (-1) (min i (n-1))))=((HT.sIx n d o:Nat):Int):=by
  intro o d hd;cases o with
  |none=>rfl
  |some i =>
   simp only[HT.sIx,show(1:Int)>0 by decide,if_true];by_cases h:i<0
   .simp only[h,if_true]<;>lia
   .simp only[h,if_false]<;>lia
 have e1:=h1 lo 0 (aZ _);have e2:=h1 hi n (aG _);simp only[show(1:Int)>0 by decide,if_true]at e1 e2 ⊢;rw[<- e1,<- e2]
 rfl
theorem abM(x:Str)(lo hi:Option Int):(⟨((Builtin.Str.strSliceIndices lo hi 1 x.length).filterMap (x.cps[·]?)).toArray⟩ : Str)=Gg x lo hi:=by
 rw[strIdx,pick_run];rfl
theorem Vx(x:Str)(lo hi:Option Int)(h:(Builtin.Str.strSliceIndices lo hi 1 x.length).length=x.length):Gg x lo hi=x:=by
 rw[strIdx,ak,WJ]at h;have h2:=HT.afH x.length x.length (aG _) hi;unfold Gg;have hx:x.length=x.cps.size:=rfl;have e:x.cps.toList.length=x.length:=by simp[hx]
 by_cases z:x.length=0
 .have:x.cps.toList=[]:=List.length_eq_zero_iff.mp (Eq.trans e z);rw[this];obtain⟨⟨l⟩⟩:=x;simp at this;subst this;simp
 .have e0:HT.sIx x.length 0 lo=0:=by lia
  rw[e0,List.drop_zero,Zzw (by lia)]
def amj:V->Option Int->Option Int->Hp->VK->Prop:=λx lo hi H Q=>∃y,x=.str y/\y.length<=sizeLine/\Q (.str (Gg y lo hi)) H
theorem part_of{v:Value}{o:Option Int}(h:IsPart v o):∃l:Option (Int×Tok),v=partValue l/\l.map (·.1)=o:=by
 cases h with
 |none=>exact⟨none,rfl,rfl⟩
 |int i t=>exact⟨some (i,t),rfl,rfl⟩
theorem afJ{X:Cx} : SlR X amj:=by
 intro aa s σ H x v vl vu lo hi sl Q I rx hs pl pu h;obtain⟨y,rfl,hz,q⟩:=h;obtain⟨t,rfl⟩:=rx;obtain⟨l,rfl,el⟩:=part_of pl;obtain⟨u,rfl,eu⟩:=part_of pu;refine⟨"str",_,F.slot_str_getitem.lookup,typeIs_str s y t,wpAny_getItem_str_slice (l:=l) (u:=u) (st:=none) hs rfl ?_⟩;unfold sliceMade slicePicked;rw[el,eu];split
 .rename_i hw
  have jS:=(Bool.and_eq_true_iff.mp hw).2;rw[beq_iff_eq]at jS;have e:=Vx y lo hi jS;rw[e]at q;exact⟨.str y,H,I,⟨t,rfl⟩,q⟩
 .have e:=abM y lo hi;refine⟨?_,.str (Gg y lo hi),H,I.tok _,⟨s.toks,?_⟩,q⟩
  .refine aL ?_ hz;refine aL (WG (ZH Str.length e)) ?_;show((y.cps.toList.drop _).take _).toArray.size<=y.cps.size;rw[aX,aY,TZ,Array.length_toList];lia
  .rw[<- e];rfl
section
variable{X:Cx}
def akb:R2:=λx y H Q=>∃i j,x=.str i/\y=.str j/\i.length+j.length<=sizeLine/\Q (.str (i++j)) H
theorem ad2:OpR X (binaryOp .Add) akb:=Uv
def alJ:R2:=λx y H Q=>∃i j,x=.str i/\y=.str j/\Q (.bl (!decide (j.cps.toList<i.cps.toList))) H
theorem agL:OpR X (compareOp .LtE) alJ:=by
 intro aa s σ H x y v u Q I rx ry h;obtain⟨i,j,rfl,rfl,q⟩:=h;obtain⟨t,rfl⟩:=rx;obtain⟨t',rfl⟩:=ry;exact PySem.P.le_str (cZ I q rfl)
theorem OpR.imp{f:Value->Value->Sem Value}{r r':R2}(h:OpR X f r)(i:∀x y H Q,r' x y H Q->r x y H Q):OpR X f r':=λaa s σ H x y v u Q I rx ry q=>h aa s σ H x y v u Q I rx ry (i _ _ _ _ q)
theorem Ek:∀{bs:List Bool}{us:Θ},Vals (bs.map V.bl) us->∀(i:Nat)(v:Value),us[i]?=some v->∃b,bs[i]?=some b/\v=.bool b
 |[],_,.nil,i,v,h=>by cases i<;>cases h
 |b::bs,_,.cons r t,0,v,h=>by
  rw[List.getElem?_cons_zero]at h;cases h;exact⟨b,rfl,r⟩
 |b::bs,_,.cons r t,i+1,v,h=>by
  rw[List.getElem?_cons_succ]at h;exact Ek t i v h
def ai1:Ζ->Hp->VK->Prop:=λxs H Q=>∃(l:Addr)(bs:List Bool),xs=[.ref l]/\H l=some (.lst (bs.map V.bl))/\Q (.bl (bs.all id)) H
theorem vC:∀bs:List Bool,((List.range bs.length).all λi=>(bs[i]?).getD true)=bs.all id
 |[]=>rfl
 |b::bs=>by
  rw[List.length_cons,List.range_succ_eq_map,List.all_cons,List.all_map,List.all_cons];have:=vC bs;simp only[Function.comp_def,List.getElem?_cons_succ,List.getElem?_cons_zero,Option.getD_some,id]at this ⊢;rw[this]
theorem Xl(hc:X.calm=true):i_ X (.builtin "all") ai1:=by
 intro aa s σ H xs us Q I r h;obtain⟨l,bs,rfl,hl,q⟩:=h;obtain⟨u,rfl,ru⟩:=r.one;cases ru;obtain⟨its,rv,p⟩:=I.lstIs hl;have fc:l<s.heap.objs.size:=by obtain⟨_,e,_⟩:=p;exact aK e
 refine call_all_walk (wpAny_pyIter_list p ?_);refine⟨s.heap.objs.size,[s.heap.objs.size,l],[s.heap.objs.size],its.toArray.size,_,_,λi=>(bs[i]?).getD true,rfl,Walks.list (A:=X.A.in1) (I.ok.hd hc) _ l (aQ fc) its.toArray,
  ⟨⟨_,aW _ rfl,rfl,rfl⟩,p.push _⟩,λi v s' Q' E' hP hQ=>?_,λh' tk hk=>?_⟩
 .obtain⟨b,e,rfl⟩:=Ek rv i v (by simpa using hP);simp only[e,Option.getD_some]at hQ;exact wpAny_truthy_bool hQ
 .have e:((List.range its.toArray.size).all λi=>(bs[i]?).getD true)=bs.all id:=by
   rw[aX,<- rv.length,ak];exact vC bs
  refine⟨.bl (bs.all id),H,I.kept (t':=tk) λb o q=>hk b o (λhm=>?_) (aH _ q),?_,q⟩
  .rw[YR.mp hm]at q;exact X9 _ (aK q)
  .rw[e];rfl
def tSM(r:V->Ζ->Hp->VK->Prop)(to:TE)(t:TA):TE:=λσ H Q=>to σ H λx H1=>(∃y,x=.str y)/\t σ H1 λvs H2=>r x vs H2 Q
theorem ajZ{o e:Expr}{to:TE}{t:TA}{name:Str}{id:String}{r:V->Ζ->Hp->VK->Prop}{am ag:Pos}(slot:Slot "str" name id)(im:typeOf (.builtin id)=pure (.type "method_descriptor"))(hm:MtM X id r)(ho:PE X o to)(ha:PA X [e] t)
 (hb:attributeBase o name X.env (eval o X.env)=eval o X.env:=by rfl)
 (hf:((backTo ag (starEach [e] X.env)).all (λx=>!x.1)&&(backToKw ag (keywordEach [] X.env)).all (λx=>x.1.isSome)&&decide ([e].length+([] : List Keyword).length+(if([] : List Keyword).isEmpty then 0 else 1)<30))=true:=by rfl)
 (hl:(am.endLine==ag.line)=true:=by rfl)(hs:starEach [e] X.env=(false,eval e X.env)::starEach [] X.env:=by rfl)(hp:(backTo ag (starEach [] X.env)).any (·.1)=false:=by rfl) :
  PE X (.Call (.Attribute o name am) [e] [] ag) (tSM r to t):=by
 refine(abn PySem.F.plainAttrs_str slot im hm ho.mono ha hb hf hl hs hp).imp λσ H Q h=>?_;refine⟨_,h,?_⟩;rintro x H1 ⟨⟨y,rfl⟩,h2⟩;exact⟨rfl,h2⟩
theorem aa2{x:Str}{v:V}{pos:Pos}(hg:Gl X x)(hm:∃u,X.mg x=some u/\RelV v u)(hd:(x==("__debug__":Str))=false:=by decide):PE X (.Name x pos) (tC v):=by
 obtain⟨u,h1,h2⟩:=hm;exact W9 hg h1 h2 hd
end
noncomputable def hid(y:Str):Str:=Str.ofString "?"++y
def Lj(xs:Φ)(N:Φ):Φ:=N.map λy=>if y∈xs then hid y else y
def Cx.compG(X:Cx)(N':Φ)(scope:Scope)(xs:Φ)(C:Addr)(s₀:Shared)(H₀:Hp)(ex:Ψ)(pn:Δ):Cx :=
 { X with env:=compEnvC scope (vI X.env.cells scope.names []) C X.env,N:=xs++N',s₀:=s₀,H₀:=H₀,outer:=X.stack,ex:=ex,fn:=λ_=>false,pn:=pn,xe:=λ_ _=>False }
def PTs(X:Cx)(aE:List Expr)(tc:TT):Prop:=∀(aa:Δ)(s:Shared)(σ:L2.St)(H:Hp)(Q:Bool->Hp->Prop),Inv X aa σ H s->tc σ H Q ->
 wpAny (model X.prog X.w) X.A (forIn aE true λc r=>if r=true then do let ok <- isTrue c X.env (eval c X.env);pure (ForInStep.yield ok)else pure (ForInStep.yield r)) (λb s'=>∃H',Inv X aa σ H' s'/\Q b H') X.xe s
def an7:TT:=λ_ H Q=>Q true H
theorem abW{X:Cx} : PTs X [] an7:=λ_ _ _ H _ I q=>wpAny_tests_nil ⟨H,I,q⟩
theorem adu{X:Cx}{c:Expr}{tc:TT}(h:PT X c tc):PTs X [c] tc:=λaa s σ H Q I q=>wpAny_tests_one (h aa s σ H Q I q)
def rR(wi:TI)(n:Nat)(gt:TG)(tc:TT)(te:TE):TE:=λσ H Q=>wi σ H λJ H1=>∀D,H1 D=none->∃W:Nat->Nat->Ζ->Hp->Prop,(∃m,W 0 m [] (upd H1 D (.lst [])))/\∀i m ys Hc,W i m ys Hc ->
 (J.stop i Hc/\Q (.ref D) Hc)\/(J.go i Hc/\∀x H',J.yld i Hc x H'->∀pre:L2.St,pre.length=n->gt x (pre++σ) H' λσ2 H2=>∃b5:L2.St,b5.length=n/\σ2=b5++σ/\tc σ2 H2 λb H3 =>
  match b with
  |true=>te σ2 H3 λy H4=>ys.length<sizeLine/\H4 D=some (.lst ys)/\∃m',m'<m/\W (i+1) m' (ys++[y]) (upd H4 D (.lst (ys++[y])))
  |false=>∃m',m'<m/\W (i+1) m' ys H3)
def Cx.compE(X:Cx)(ext:Addr->List (Str×Addr))(fn:Str->Bool)(N':Φ)(scope:Scope)(xs:Φ)(C:Addr)(s₀:Shared)(H₀:Hp)(ex:Ψ)(pn:Δ):Cx :=
 { X with env:=compEnvC scope (ext C++vI X.env.cells scope.names []) C X.env,N:=xs++N',s₀:=s₀,H₀:=H₀,outer:=X.stack,ex:=ex,fn:=fn,pn:=pn,xe:=λ_ _=>False }
structure RB(X:Cx)(scope:Scope)(xs:Φ)(ext:Addr->List (Str×Addr))(fn:Str->Bool):Prop where
 new:∀{M:Model}{A:Around}{E:Ε}{s:Shared}{globals:Addr}{bE:List (Str×Addr)}{ai:Str}{outer:Env}{Q:Env->Shared->Prop},(∀g,g.Ns s.heap.objs.size (λx=>([] : List (Str×Value)).reverse.lookup x)->(∀y c,(ext s.heap.objs.size).lookup y=some c->g.IsCell c none)->(∀b o,s.heap.get? b=some o->g.get? b=some o)->Q (newEnv scope s.heap.objs.size globals (ext s.heap.objs.size++bE) ai none .none (some outer) builtinsNs) { s with heap:=g,toks:=s.toks+([] : List (Str×Value)).length }) ->
  wpAny M A (newFunctionEnv scope globals bE [] ai none .none (some outer)) Q E s
 up:∀C y c,(ext C).lookup y=some c->C<c
 one:∀C y z c,(ext C).lookup y=some c->(ext C).lookup z=some c->y=z
 nw:∀C y,fn y=true->∃c,(ext C).lookup y=some c
 off:∀C y,y∉xs->(ext C).lookup y=none
 kd:∀C y,((relabel scope X.env).names.lookup y=some .cell\/(relabel scope X.env).names.lookup y=some .free)->(∃c,(ext C).lookup y=some c)\/(y,NameKind.free)∈scope.names
theorem ahX{X:Cx}{scope:Scope}{xs:Φ}(hk:scope.kind=.function)(cK:∀y∈scope.names,y.2≠.cell):RB X scope xs (λ_=>[]) (λ_=>false) :=
 ⟨λhQ=>wpAny_newFunctionEnv cK (by intro y hy;simp at hy) (λg eh hsb=>hQ g eh (λ_ _ z=>(nomatch z)) λb o e=>(hsb.2 b (aQ (aK e))).trans (aH _ e)) hk,λ_ _ _ z=>(nomatch z),λ_ _ _ _ z=>(nomatch z),λ_ _ z=>(nomatch z),λ_ _ _=>rfl,λ_ _ e=>.inr (DQ e cK)⟩
section
variable{X:Cx}{aS iter:Expr}{pos:Pos}{scope:Scope}{wi:TI}{te:TE}
theorem K_{ext:Addr->List (Str×Addr)}{fn:Str->Bool}{use:Option (Value->Sem Unit)}{post:Ε}{Qv:VK}{aa:Δ}{s:Shared}{σ:L2.St}{H:Hp}{pp:Pos}{xs N':Φ}{tg:Expr}{aE:List Expr}{gt:TG}{tc:TT}(E:RB X scope xs ext fn)(hc:X.calm=true)(f':Lj xs X.N=N')(cf:scope.kind=.function)(cy:∀y∈scope.names,y.2=.local->scope.names.lookup y.1=some .local)
 (b9:∀y∈scope.names,y.2=.free->X.env.kindOf y.1=some .cell\/X.env.kindOf y.1=some .free)(ff:∀y∈X.N,y∉xs->(relabel scope X.env).names.lookup y≠some .local)(hq:∀y∈X.N,y∈xs->(relabel scope X.env).names.lookup (hid y)=none)(hi:PI X tg iter wi)
 (hg:∀C s₀ H₀ ex pn,PG (X.compE ext fn N' scope xs C s₀ H₀ ex pn) tg gt)(ht:∀C s₀ H₀ ex pn,PTs (X.compE ext fn N' scope xs C s₀ H₀ ex pn) aE tc)(he:∀C s₀ H₀ ex pn,PE (X.compE ext fn N' scope xs C s₀ H₀ ex pn) aS te)(hs:∀z,foldedSetIterable iter X.env z=pure z)(I:Inv X aa σ H s)(h:rR wi xs.length gt tc te σ H Qv)
 (mf:∀(C D:Addr)(Hc:Hp)(s6:Shared)(m:Str->Ω)(fl:Flow),s6.heap.Ns C m->Inv X aa σ Hc s6->Gi X aa Hc C->Qv (.ref D) Hc->compPost (model X.prog X.w) X.A X.xe use post (.ref D) C (.ok fl) s6) :
  wpAny (model X.prog X.w) X.A (comprehension (.ListComp aS [⟨tg,iter,aE,0⟩] scope pos) scope X.env pp (newList []) false (eval iter X.env) use) post X.xe s:=by
 have j3:∀y∈scope.names,y.2=.free->∃c,X.env.cells.lookup y.1=some c:=λy hy e=>I.ok.has y.1 (b9 y hy e);refine wpAny_comprehension_free (use:=use) (Q:=post) rfl hs (VJ j3) cf cy (thn (hi aa s σ H _ I h) λv s1 h1=>thn h1 λkD s2 h2=>?_);obtain⟨it,fp,tn,J,H2,e,I2,T,fN,f2,R⟩:=h2;subst e;have nD:H2 s2.heap.objs.size=none:=I2.hok.fresh (aG _);obtain⟨W,⟨m0,w0⟩,eR⟩:=R s2.heap.objs.size nD;refine wpAny_newObj_type ?_ (by show 0<=sizeLine;exact aZ _);have I3:Inv X aa σ (upd H2 s2.heap.objs.size (.lst [])) { s2 with heap:=s2.heap.push { cls:=.type "list",dict:=none,data:=.seq ([] : Θ).toArray } }:=I2.lnew (t':=s2.toks) (ys:=[]) (its:=[]) .nil (aZ _);have ku:∀b o,s2.heap.get? b=some o->(s2.heap.push { cls:=.type "list",dict:=none,data:=.seq ([] : Θ).toArray }).get? b=some o:=λb o e=>aH _ e;generalize hs3:({ s2 with heap:=s2.heap.push { cls:=.type "list",dict:=none,data:=.seq ([] : Θ).toArray } } : Shared)=s3 at I3 ⊢;have g6:tn 0 s3.heap:=T.keep _ _ _ fN λb _ o e=>by rw[<- hs3];exact ku b o e
 generalize hH3:upd H2 s2.heap.objs.size (.lst [])=H3 at I3 w0;have f3:∀b∈fp,Gi X aa H3 b:=λb hb=>by
  obtain⟨a1,a2⟩:=f2 b hb;refine⟨?_,a2⟩;obtain⟨o,e,_⟩:=T.obj _ _ fN b hb;rw[<- hH3,cD (aQ (aK e))];exact a1
 refine E.new λg eh gX kg=>?_;have clm:∀{y:Str}{c:Addr},(vI X.env.cells scope.names []).lookup y=some c->X.env.cells.lookup y=some c:=λ{y c}e=>by
  rcases Td j3 (PySem.mem_of_lookup e)with z|z
  .cases z
  .exact z
 have f7:∀{y:Str},(ext s3.heap.objs.size).lookup y=none->((relabel scope X.env).names.lookup y=some .cell\/(relabel scope X.env).names.lookup y=some .free)->(X.env.kindOf y=some .cell\/X.env.kindOf y=some .free)/\∃c,(ext s3.heap.objs.size++vI X.env.cells scope.names []).lookup y=some c/\X.env.cells.lookup y=some c:=λ{y}ny e=>by
  rcases E.kd s3.heap.objs.size y e with⟨c,z⟩|z
  .rw[ny]at z;cases z
  .obtain⟨c,dq⟩:=RM (cells:=X.env.cells) (acc:=[]) (.inl z);obtain⟨c,dq⟩:=qg dq;exact⟨b9 _ z rfl,c,by rw[List.lookup_append,ny];exact dq,clm dq⟩
 have i8:∀{y:Str}{c:Addr},(ext s3.heap.objs.size++vI X.env.cells scope.names []).lookup y=some c->(ext s3.heap.objs.size).lookup y=some c\/X.env.cells.lookup y=some c:=λ{y c}e=>by
  rw[List.lookup_append]at e;cases hy:(ext s3.heap.objs.size).lookup y with
  |some d=>rw[hy]at e;exact .inl e
  |none=>rw[hy]at e;exact .inr (clm e)
 have cll:∀{y z c},(ext s3.heap.objs.size).lookup z=some c->¬X.env.cells.lookup y=some c:=λ{y z c}e1 e=>by
  obtain⟨v,o,h1,_⟩:=I3.cell y c e;exact X9 _ (Th (aK h1) (E.up _ _ _ e1))
 have kA:∀b∈fp,b<s3.heap.objs.size:=λb hb=>by
  obtain⟨o,e,_⟩:=T.obj _ _ g6 b hb;exact aK e
 have nst:∀b∈fp,b∉frs X.stack:=λb hb=>I3.nostk' (f3 b hb).2.1 (f3 b hb).2.2.1;have cfp:∀b∈fp,∀y c,(ext s3.heap.objs.size++vI X.env.cells scope.names []).lookup y=some c->c≠b:=λb hb y c e=>by
  rcases i8 e with z|z
  .exact US (Th (kA b hb) (E.up _ _ _ z))
  .exact(f3 b hb).2.2.2.2.1 y c z
 generalize hX:X.compE ext fn N' scope xs s3.heap.objs.size s3 H3 fp (X.pn++aa)=Y;have ok':Y.Ok:=by
  subst hX;exact⟨I3.ok.mod,cf,I3.ok.glob,I3.ok.blt,aG _,λy z c h1 h2=>by
    rcases i8 h1 with e1|e1<;>rcases i8 h2 with e2|e2
    .exact E.one _ _ _ _ e1 e2
    .exact absurd e2 (cll e1)
    .exact absurd e1 (cll e2)
    .exact I3.ok.inj y z c e1 e2,λy hy=>by
    cases hz:(ext s3.heap.objs.size).lookup y with
    |some c=>exact⟨c,List.lookup_append.trans (by rw[hz];rfl)⟩
    |none=>exact let⟨_,c,q,_⟩:=f7 hz hy;⟨c,q⟩,λy c iP e=>by
    obtain⟨d,z⟩:=E.nw s3.heap.objs.size y iP;have e:(ext s3.heap.objs.size++vI X.env.cells scope.names []).lookup y=some c:=e;rw[List.lookup_append,z]at e;cases e;exact Y2 (E.up _ _ _ z),I3.ok.hd,I3.ok.frames,.inl rfl,
   λb hb=>⟨aQ (kA b hb),cfp b hb⟩,I3.bs,aL I3.ok.bsz I3.sz,λb o e hb=>by
    rcases(f3 b hb).2.2.2.1 with z|z
    .exact I3.ok.noex b o e z
    .exact absurd (aR (aR (aK e) I3.ok.bsz) z) (X9 _),nst,I3.stack,I3.stkFree⟩
 have J4:∀tk,Inv Y [] (List.replicate xs.length none++σ) H3 { s3 with heap:=g,toks:=tk }:=λtk=>by
  subst hX;refine⟨ok',rfl,I3.bare,Un.kept kg,⟨_,eh,λi y v e1 e2 e3=>?_⟩,λy c e=>?_,I3.hok.fresh (aG _),λy c e=>(i8 e).elim (λz=>I3.hok.fresh (Y2 (E.up _ _ _ z))) (I3.freeC y c),λp hp=>?_,I3.hok.kept kg,?_⟩
  .by_cases hin:i<xs.length
   .rw[aF (by rw[aN];exact hin),X0,ZY hin]at e2;cases e2
   .obtain⟨j,rfl⟩ : ∃j,i=xs.length+j:=⟨i-xs.length,by lia⟩;have e0:N'[j]?=some y:=by
     have e1:(xs++N')[xs.length+j]?=some y:=e1;rw[aD (X2 _ _)]at e1;rw[show xs.length+j-xs.length=j by exact T1 _ _]at e1;exact e1
    have ka:σ[j]?=some (some v):=by
     rw[aD (by rw[aN];exact X2 _ _),aN]at e2;rw[show xs.length+j-xs.length=j by exact T1 _ _]at e2;exact e2
    rw[<- f']at e0;obtain⟨y0,hZ,ey⟩ : ∃y0,X.N[j]?=some y0/\(if y0∈xs then hid y0 else y0)=y:=by
     unfold Lj at e0;rw[aq]at e0;cases hz:X.N[j]? with
     |none=>rw[hz]at e0;cases e0
     |some y0=>rw[hz]at e0;exact⟨y0,rfl,Option.some.inj e0⟩
    have e3:(relabel scope X.env).names.lookup y=some .local\/(relabel scope X.env).names.lookup y=some .cell\/(relabel scope X.env).names.lookup y=some .free:=e3;have ne:¬y0∈xs:=λz=>by
     rw[ZY z]at ey;subst ey;rw[hq y0 (aC hZ) z]at e3;rcases e3 with z|z|z<;>cases z
    rw[ZZ ne]at ey;subst ey;have e3':(relabel scope X.env).names.lookup y0=some .cell\/(relabel scope X.env).names.lookup y0=some .free:=by
     rcases e3 with z|z
     .exact absurd z (ff y0 (aC hZ) ne)
     .exact z
    obtain⟨kd,c,gX,j'⟩:=f7 (E.off _ _ ne) e3';obtain⟨m,_,hl⟩:=I3.loc;obtain⟨u,r,lk⟩:=hl j y0 v hZ ka (.inr kd);refine⟨u,r,.inr ⟨e3',c,gX,?_⟩⟩;rcases lk with⟨k1,_⟩|⟨_,c',q1,o,q2,q3⟩
    .exfalso;have k1':X.env.kindOf y0=some .local:=k1;rcases kd with k2|k2<;>rw[k1']at k2<;>cases k2
    .rw[j']at q1;cases q1;exact⟨o,kg _ _ q2,q3⟩
  .rcases i8 e with z|z
   .exact⟨none,gX y c z⟩
   .obtain⟨v,o,q2,q3⟩:=I3.cell y c z;exact⟨v,o,kg _ _ q2,q3⟩
  .have db:p∈X.pn++aa:=by simpa[Cx.compE]using hp
   obtain⟨a1,a2,a3,a4,a5⟩:=I3.pin p db;exact⟨kg _ _ a1,a2,aQ (aK a1),I3.nostk' a3 a4,a5⟩
  .show(List.replicate xs.length none++σ).length=(xs++N').length;have hln:N'.length=X.N.length:=by rw[<- f'];unfold Lj;rw[ak]
   rw[aA,aN,aA,I3.len,hln]
 have l4:∀{Hc:Hp},(∀b∈fp,Hc b=none)->∀b∈fp,Gi Y [] Hc b:=λ{Hc}hn b hb=>by
  subst hX;exact⟨hn b hb,aQ (kA b hb),nst b hb,.inl hb,cfp b hb,λp hp=>(f3 b hb).2.2.2.2.2 p (by simpa[Cx.compE]using hp)⟩
 have gE:∀s4:Shared,s4={ s3 with heap:=g,toks:=s3.toks+([] : List (Str×Value)).length } ->
   codeAny (model X.prog X.w) X.A (.compLoop (.ListComp aS [⟨tg,iter,aE,0⟩] scope pos) 0 (.ref it) (.ref s2.heap.objs.size) Y.env) (compPost (model X.prog X.w) X.A X.xe use post (.ref s2.heap.objs.size) s3.heap.objs.size) s4:=by
  rintro s4 rfl;have YP:Y.prog=X.prog/\Y.w=X.w/\Y.K=X.K/\Y.calm=X.calm/\Y.A=X.A/\Y.env.locals=s3.heap.objs.size:=by subst hX;exact⟨rfl,rfl,rfl,rfl,rfl,rfl⟩
  obtain⟨y1,y2,y3,y4,y5,y6⟩:=YP;have he':PE Y aS te:=by subst hX;exact he _ _ _ _ _
  have kU:PG Y tg gt:=by subst hX;exact hg _ _ _ _ _
  have ht':PTs Y aE tc:=by subst hX;exact ht _ _ _ _ _
  have i':Y.xe=λ_ _=>False:=by subst hX;rfl
  have yb:∀{Hc:Hp}{w':L2.St}{pn:Δ}{s':Shared},Inv Y pn w' Hc s'->Un (frs X.stack) fp H3 Hc s3.heap s'.heap:=λ{Hc w' pn s'}Z=>by
   have:=Z.base;subst hX;exact this
  have yos:∀{Hc:Hp}{w':L2.St}{pn:Δ}{s':Shared},Inv Y pn w' Hc s'->s'.os=s3.os:=λ{Hc w' pn s'}Z=>by
   have:=Z.os;subst hX;exact this
  refine codeAny_loop rfl (λn s'=>∃i ys Hc,∃w':L2.St,w'.length=xs.length/\Inv Y [] (w'++σ) Hc s'/\tn i s'.heap/\(∀b∈fp,Hc b=none)/\W i n ys Hc) (λn s5 hI=>?_) m0 ⟨0,[],H3,List.replicate xs.length none,aN,J4 _,T.keep _ _ _ g6 λb _ o e=>kg b o e,λb hb=>(f3 b hb).1,w0⟩;obtain⟨i,ys,Hc,w',jS,Z,stc,frc,wc⟩:=hI;show wpAny _ _ ((compTurn (.ListComp aS [⟨tg,iter,aE,0⟩] scope pos) 0 (.ref it) (.ref s2.heap.objs.size) Y.env).onRaise (λz=>do noteFrame z Y.env;theTreesLotGoes z)) _ _ s5;refine wpAny_noted (wpAny_noRaise ?_);rw[compTurn_list];show wpAny (model X.prog X.w) X.A _ _ _ _;rcases eR i n ys Hc wc with⟨stop,qn⟩|⟨go,step⟩
  .have hd:=T.done Y y1 y2 y3 (y4.trans hc) i [] s5 (w'++σ) Hc (λ_ _=>False) Z (l4 frc) stc stop;rw[y5]at hd;refine ZU (wpAny_standAt (ZU (thn hd λr s6 hP=>?_)));obtain⟨hr,Z6⟩:=hP;subst hr;refine ZT ?_;obtain⟨m,iE,_⟩:=Z6.loc;rw[y6]at iE;have u6:=yb Z6;have hok:HOk X.prog X.w Hc s6.heap:=by
    have z:=Z6.hok;rw[y1,y2]at z;exact z
   have cn:Hc s3.heap.objs.size=none:=by
    have z:=Z6.free;rw[y6]at z;exact z
   have I6:Inv X aa σ Hc s6:=I3.call' (s':=s6) (ch:=fp) (yos Z6) u6 hok Z6.bare λb hb=>⟨(f3 b hb).2.2.2.1,(f3 b hb).2.1,(f3 b hb).2.2.2.2.1,(f3 b hb).2.2.2.2.2⟩;have fC:Gi X aa Hc s3.heap.objs.size:=I3.fpOk (aG _) cn;exact mf _ _ Hc s6 m _ iE I6 fC qn
  .have hd:=T.item Y y1 y2 y3 (y4.trans hc) i [] s5 (w'++σ) Hc (λ_ _=>False) Z (l4 frc) stc go;rw[y5]at hd;refine ZU (wpAny_standAt (ZU (thn hd λr s6 hP=>?_)));obtain⟨u,hr,h6⟩:=hP;subst hr;refine ZU (thn h6 λ_ s7 hP=>?_);obtain⟨xv,H7,Z7,r7,yl,kf,fr7⟩:=hP;have Z7':=Z7.pinned (l4 fr7) (T.obj _ _ kf);have b8:=kU _ s7 _ H7 xv u _ Z7' r7 (step xv H7 yl w' jS);rw[y1,y2,y5,i']at b8;refine ZU (thn b8 λ_ s8 hP=>?_);obtain⟨σ8,H8,Z8,pre,eI,e8,q8⟩:=hP;subst e8;have hte:=ht' _ s8 _ H8 _ Z8 q8;rw[y1,y2,y5,i']at hte;have bn:∀{m':Nat}{i9:Ζ}{H9:Hp}{s9:Shared},Inv Y ([]++Ia fp s7.heap) (pre++σ) H9 s9->m'<n->W (i+1) m' i9 H9->∃m,m<n/\∃i ys Hc,∃w':L2.St,w'.length=xs.length/\Inv Y [] (w'++σ) Hc s9/\tn i s9.heap/\(∀b∈fp,Hc b=none)/\W i m ys Hc:=λ{m' i9 H9 s9}Z9 iF w9 =>
    ⟨m',iF,i+1,i9,H9,pre,eI,Z9.unpinned,T.keep _ _ _ kf λb hb o e=>(Z9.pin (b,o) (aP _ (aP _ (qu hb e)))).1,λb hb=>by
     obtain⟨o,e,_⟩:=T.obj _ _ kf b hb;exact(Z9.pin (b,o) (aP _ (aP _ (qu hb e)))).2.1,w9⟩
   refine ZU (thn hte λok s9 hP=>?_);obtain⟨H9,Z9,q9⟩:=hP;cases ok with
   |false =>
    obtain⟨m',iF,w9⟩:=q9;exact ZT ⟨rfl,bn Z9 iF w9⟩
   |true =>
    have hel:=he' _ s9 _ H9 _ Z9 q9;rw[y1,y2,y5,i']at hel;refine ZU (ZU (thn hel λev s10 hP=>?_));obtain⟨yv,H10,Z10,r10,hz,lP,m',iF,w10⟩:=hP;have lI:=K7 (X:=Y) _ s10 _ H10 (.ref s2.heap.objs.size) [yv] (.ref s2.heap.objs.size) [ev] (λ_ Hf=>Hf=upd H10 s2.heap.objs.size (.lst (ys++[yv]))) Z10 rfl (.cons r10 .nil) ⟨_,ys,yv,rfl,rfl,lP,hz,rfl⟩;rw[y1,y2,y5,i']at lI;refine ZU (thn lI λav s11 hP=>?_);obtain⟨_,H11,Z11,_,e11⟩:=hP;subst e11;exact ZT (ZT ⟨rfl,bn Z11 iF w10⟩)
 have k4:Y.env=compEnvC scope (ext s3.heap.objs.size++vI X.env.cells scope.names []) s3.heap.objs.size X.env:=by subst hX;rfl
 rw[k4]at gE;exact codeAny_compStart_list (gE _ rfl) (T.self _ 0 _ _ _ (T.keep _ _ _ g6 λb _ o e=>kg b o e) (gE _ rfl))
theorem R6{ext:Addr->List (Str×Addr)}{fn:Str->Bool}{xs N':Φ}{tg:Expr}{aE:List Expr}{gt:TG}{tc:TT}(E:RB X scope xs ext fn)(hc:X.calm=true)(f':Lj xs X.N=N')(cf:scope.kind=.function)(cy:∀y∈scope.names,y.2=.local->scope.names.lookup y.1=some .local)
 (b9:∀y∈scope.names,y.2=.free->X.env.kindOf y.1=some .cell\/X.env.kindOf y.1=some .free)(ff:∀y∈X.N,y∉xs->(relabel scope X.env).names.lookup y≠some .local)(hq:∀y∈X.N,y∈xs->(relabel scope X.env).names.lookup (hid y)=none)(hi:PI X tg iter wi)
 (hg:∀C s₀ H₀ ex pn,PG (X.compE ext fn N' scope xs C s₀ H₀ ex pn) tg gt)(ht:∀C s₀ H₀ ex pn,PTs (X.compE ext fn N' scope xs C s₀ H₀ ex pn) aE tc)(he:∀C s₀ H₀ ex pn,PE (X.compE ext fn N' scope xs C s₀ H₀ ex pn) aS te)(hs:∀z,foldedSetIterable iter X.env z=pure z) :
  PE X (.ListComp aS [⟨tg,iter,aE,0⟩] scope pos) (rR wi xs.length gt tc te):=by
 intro aa s σ H Q I h;rw[eval_ListComp];exact K_ E hc f' cf cy b9 ff hq hi hg ht he hs I h λC D Hc s6 m fl hn I6 fC q=>⟨m,hn,λh' kL=>⟨.ref D,Hc,I6.turned (it:=C) (h':=h') (t':=s6.toks) (λb o hb e=>(kL.2 b hb).trans e) fC.1 fC.2.1 fC.2.2.2.1 fC.2.2.2.2.1 fC.2.2.2.2.2,rfl,q⟩⟩
end
section
variable{κ:Type}[DecidableEq κ]
noncomputable def Ja(kvs:List (κ×V))(k:κ):Option V:=(kvs.find? λkv=>decide (kv.1=k)).map (·.2)
noncomputable def putK(kvs:List (κ×V))(k:κ)(v:V):List (κ×V) :=
 if(kvs.any λkv=>decide (kv.1=k))=true then kvs.map (λkv=>if kv.1=k then(kv.1,v)else kv)else kvs++[(k,v)]
theorem Ss{p:κ×V}{r:List (κ×V)}{k:κ}(e:p.1=k):Ja (p::r) k=some p.2:=by simp[Ja,List.find?_cons,e]
theorem Ib{p:κ×V}{r:List (κ×V)}{k:κ}(e:¬p.1=k):Ja (p::r) k=Ja r k:=by simp[Ja,List.find?_cons,e]
theorem Sv(kvs:List (κ×V))(k:κ)(v:V):(putK kvs k v).length<=kvs.length+1:=by
 unfold putK;split
 .rw[ak];exact Xs _
 .rw[aA,List.length_cons,List.length_nil];exact aG _
theorem zE.isSome_eq{o:Option V}{u:Ω}(r:zE o u):o.isSome=u.isSome:=by
 cases o with
 |none=>cases u with
  |none=>rfl
  |some _=>exact(show False from r).elim
 |some _=>cases u with
  |none=>exact(show False from r).elim
  |some _=>rfl
theorem zE.getD{o:Option V}{u:Ω}{d:V}{d':Value}(r:zE o u)(rd:RelV d d'):RelV (o.getD d) (u.getD d'):=by
 cases o with
 |none=>cases u with
  |none=>exact rd
  |some _=>exact(show False from r).elim
 |some _=>cases u with
  |none=>exact(show False from r).elim
  |some _=>exact r
theorem KV.val{kvs:List (κ×V)}{vs:List (κ×Value)}(r:KV kvs vs)(k:κ):zE (Ja kvs k) (valueAt vs k):=by
 unfold KV at r
 induction r with
 |nil=>exact True.intro
 |@cons p q ps qs h t ih =>
  obtain⟨h1,h2⟩:=h;by_cases e:p.1=k
  .have e':q.1=k:=h1.symm.trans e;have b:valueAt (q::qs) k=some q.2:=by simp[valueAt,List.find?_cons,e']
   rw[Ss e,b];exact h2
  .have e':¬q.1=k:=λz=>e (h1.trans z);have b:valueAt (q::qs) k=valueAt qs k:=by simp[valueAt,List.find?_cons,e']
   rw[Ib e,b];exact ih
theorem KV.any{kvs:List (κ×V)}{vs:List (κ×Value)}(r:KV kvs vs)(k:κ):(kvs.any λkv=>decide (kv.1=k))=vs.any λkv=>decide (kv.1=k):=by
 unfold KV at r
 induction r with
 |nil=>rfl
 |cons h t ih=>rw[List.any_cons,List.any_cons,ih,h.1]
theorem KV.repl{kvs:List (κ×V)}{vs:List (κ×Value)}(r:KV kvs vs)(k:κ){y:V}{u:Value}(ry:RelV y u) :
  KV (kvs.map λkv=>if kv.1=k then(kv.1,y)else kv) (vs.map λkv=>if kv.1=k then(kv.1,u)else kv):=by
 unfold KV at r ⊢
 induction r with
 |nil=>exact .nil
 |@cons p q ps qs h t ih =>
  rw[List.map_cons,List.map_cons];refine .cons ?_ ih;obtain⟨h1,h2⟩:=h;by_cases e:p.1=k
  .rw[ZY e,ZY (h1.symm.trans e)];exact⟨h1,ry⟩
  .rw[ZZ e,ZZ (λz=>e (h1.trans z))];exact⟨h1,h2⟩
theorem KV.put{kvs:List (κ×V)}{vs:List (κ×Value)}(r:KV kvs vs)(k:κ){y:V}{u:Value}(ry:RelV y u):KV (putK kvs k y) (stored vs k u):=by
 unfold putK stored;rw[r.any k];by_cases e:(vs.any λkv=>decide (kv.1=k))=true
 .rw[ZY e,ZY e];exact r.repl k ry
 .rw[ZZ e,ZZ e];exact Paired.snoc r ⟨rfl,ry⟩
theorem KV.length{kvs:List (κ×V)}{vs:List (κ×Value)}(r:KV kvs vs):kvs.length=vs.length:=Paired.length r
end
theorem Rh{P:Program}{w:World}{k:Key}{u:Value}(r:RelV (kV k) u):(iM P w).is k u=true:=by
 cases k with
 |inl i=>obtain⟨t,e⟩:=(show ∃t,u=Value.int i t from r);subst e;exact QV P w i t
 |inr x=>obtain⟨t,e⟩:=(show ∃t,u=Value.str x t from r);subst e;exact Tr P w x t
section
variable{P:Program}{w:World}{H:Hp}{h:Heap}{a:Addr}
theorem ala{u:HO}(ok:HOk P w H h)(e:Rd H a u):gk P w H h a u:=e.ok ok
theorem HY{kvs:List (Key×V)}(ok:HOk P w H h)(e:Rd H a (.dK kvs)):kvs.length<=sizeLine/\(a==sysModules)=false/\∃vs,KV kvs vs/\h.DictOf (iM P w) a vs :=
 show gk P w H h a (.dK kvs)from ala ok e
theorem alk{kvs:List (Key×V)}(ok:HOk P w H h)(e:H a=some (.dK kvs)):kvs.length<=sizeLine/\(a==sysModules)=false/\∃vs,KV kvs vs/\h.DictOf (iM P w) a vs:=HY ok (.inl e)
end
def Eo(H:Hp)(a:Addr)(y:V)(r:Option V):Prop :=
 (∃kvs k,Rd H a (.dK kvs)/\y=kV k/\r=Ja kvs k)\/False
def ahY(H:Hp)(a:Addr)(y v:V)(H':Hp):Prop :=
 (∃kvs k,H a=some (.dK kvs)/\y=kV k/\kvs.length<sizeLine/\H'=upd H a (.dK (putK kvs k v)))\/False
theorem Eo.k{H:Hp}{a:Addr}{kvs:List (Key×V)}{k:Key}(e:H a=some (.dK kvs)):Eo H a (kV k) (Ja kvs k):=.inl ⟨kvs,k,.inl e,rfl,rfl⟩
section
variable{X:Cx}{aa:Δ}{σ:St}{H:Hp}{s:Shared}{a:Addr}{y v:V}{u r:Value}{o:Option V}{A:Around}{E:Ε}
theorem Inv.big(I:Inv X aa σ H s):sysModules<s.heap.objs.size:=by
 have h:mainGlobals<s.heap.objs.size:=(I.mod.glob.keeps I.bk).lt;exact Th (by decide) h
theorem XD{Q:Ε}(hu:A.units+1<cLine)(I:Inv X aa σ H s)(g:Eo H a y (some v))(ry:RelV y u)(h:∀w' s',Inv X aa σ H s'->RelV v w'->Q w' s') :
  wpAny (model X.prog X.w) A (getItem (.ref a) u) Q E s:=by
 rcases g with⟨kvs,k,e,ey,l⟩|hF
 .subst ey;obtain⟨z,hd,vs,rel,dd⟩:=HY I.hok e;obtain⟨w',hw,eS⟩:=zE.some_of (v:=v) (o:=valueAt vs k) (by rw[l];exact rel.val k);exact wpAny_getItem_of (Rh ry) dd.mapOf hw (h w' _ (I.tok _) eS)
 .exact hF.elim
theorem ana{Q:Ε}(hu:A.units+1<cLine)(I:Inv X aa σ H s)(g:Eo H a y o)(ry:RelV y u)(h:∀s',Inv X aa σ H s'->Q (.bool o.isSome) s') :
  wpAny (model X.prog X.w) A (compareOp .In u (.ref a)) Q E s:=by
 rcases g with⟨kvs,k,e,ey,l⟩|hF
 .subst ey;obtain⟨z,hd,vs,rel,dd⟩:=HY I.hok e;refine wpAny_in_of (Rh ry) hd dd.mapOf ?_;rw[<- (rel.val k).isSome_eq,<- l];exact h _ (I.tok _)
 .exact hF.elim
theorem ad4{Q:Ε}(hu:A.units+1<cLine)(I:Inv X aa σ H s)(g:Eo H a y o)(ry:RelV y u)(h:∀s',Inv X aa σ H s'->Q (.bool (!o.isSome)) s') :
  wpAny (model X.prog X.w) A (compareOp .NotIn u (.ref a)) Q E s:=by
 rcases g with⟨kvs,k,e,ey,l⟩|hF
 .subst ey;obtain⟨z,hd,vs,rel,dd⟩:=HY I.hok e;refine wpAny_notIn_of (Rh ry) hd dd.mapOf ?_;rw[<- (rel.val k).isSome_eq,<- l];exact h _ (I.tok _)
 .exact hF.elim
theorem acp{h':Heap}{t':Nat}{ob:HO}(I:Inv X aa σ H s)(mu:Mut (H a))(hs:Heap.SameBut a s.heap h')(he:∃q,h'.get? a=some q)(new:gk X.prog X.w (upd H a ob) h' a ob) :
  Inv X aa σ (upd H a ob) { s with heap:=h',toks:=t' } :=
 I.write (x:=a) (e:=a) mu (.inl rfl) (λb q hb z=>(hs.2 b hb).trans z) he new
theorem ago{P:Program}{w:World}{H':Hp}{h':Heap}{kvs:List (Key×V)}{vs:List (Key×Value)}(z:kvs.length<=sizeLine)(hd:(a==sysModules)=false)(rel:KV kvs vs)(dd:h'.DictOf (iM P w) a vs) :
  gk P w H' h' a (.dK kvs):=⟨z,hd,vs,rel,dd⟩
theorem YK{H':Hp}{Q:Unit->Shared->Prop}(hu:A.units+1<cLine)(I:Inv X aa σ H s)(g:ahY H a y v H')(ry:RelV y u)(rv:RelV v r)(h:∀s',Inv X aa σ H' s'->Q () s') :
  wpAny (model X.prog X.w) A (setItem (.ref a) u r) Q E s:=by
 rcases g with⟨kvs,k,e,ey,l,eH⟩|hF
 .subst ey eH;obtain⟨z,hd,vs,rel,dd⟩:=alk I.hok e;have hz:vs.length<=sizeLine:=by rw[<- rel.length];exact z
  have hl:(putK kvs k v).length<=sizeLine:=by have:=Sv kvs k v;lia
  refine wpAny_setItem_pairs (hsz:=hz) (Rh ry) dd λh' dd' hs=>h _ ?_;have he:∃q,h'.get? a=some q:=by obtain⟨q,_,_,hq,_⟩:=dd';exact⟨q,hq⟩
  exact acp I (by rw[e];exact True.intro) hs he (ago hl hd (rel.put k rv) dd')
 .exact hF.elim
end
def afF(i:Expr):Prop:=∀ov iv,subscripted i false ov iv=operate [ov,iv] (getItem ov iv)
theorem acM{prog:Program}{w:World}{A:Around}{E:Ε}{s:Shared}{env:Env}{az bi:Expr}{pos:Pos}{T id:String}{Q:Ε}
 (hl:typeLookup (.type T) "__getitem__"=pure (some (.builtin id)))(hs:afF bi)
 (h:wpAny (model prog w) A (eval az env) (λo s₁=>wpAny (model prog w) A (eval bi env) (λi s₂=>s₂.TypeIs o T/\wpAny (model prog w) A (getItem o i) Q E s₂) E s₁) E s) :
  wpAny (model prog w) A (eval (.Subscript az bi pos) env) Q E s:=by
 refine Subscript_ (wpAny_mono h (λo s₁ h₁=>wpAny_mono h₁ (λi s₂ h₂=>?_) λ_ _ x=>x) λ_ _ x=>x);obtain⟨hT,h₂⟩:=h₂;unfold subscriptTail;refine ZU ?_;rw[getitemInPython_of_ne hT.not_modules];refine ZU (wpAny_specialOf hT hl ?_);have bn:wpAny (model prog w) A (subscripted bi false o i) (λr s₃=>wpAny (model prog w) A (letTemporaryGo az o r >>= λ_=>pure r) Q E s₃) E s₂:=by
  rw[hs o i];exact wpAny_operating (wpAny_mono h₂ (λr s₃ h₃=>ZU (wpAny_letTemporaryGo (ZT h₃))) λ_ _ x=>x)
 first
  |exact ZT (ZU bn)
  |exact ZU (ZT (ZU bn))
  |exact ZU bn
theorem Ra{X:Cx}{aa:Δ}{σ:St}{H:Hp}{s:Shared}{a:Addr}{y:V}{o:Option V}(I:Inv X aa σ H s)(g:Eo H a y o):s.TypeIs (.ref a) "dict":=by
 rcases g with⟨kvs,k,e,_,_⟩|hF
 .obtain⟨_,_,vs,_,dd⟩:=HY I.hok e;exact dd.typeIs
 .exact hF.elim
def agW(td ty:TE):TE:=λσ H Q=>td σ H λx H1=>ty σ H1 λy H2=>∃a v,x=.ref a/\Eo H2 a y (some v)/\Q v H2
def anD(ty td:TE):TE:=λσ H Q=>ty σ H λy H1=>td σ H1 λx H2=>∃a o,x=.ref a/\Eo H2 a y o/\Q (.bl o.isSome) H2
def ac3(ty td:TE):TE:=λσ H Q=>ty σ H λy H1=>td σ H1 λx H2=>∃a o,x=.ref a/\Eo H2 a y o/\Q (.bl (!o.isSome)) H2
def ajY(td ty tv:TE):TS:=λD σ H=>tv σ H λv H1=>td σ H1 λx H2=>ty σ H2 λy H3=>∃a H4,x=.ref a/\ahY H3 a y v H4/\D.nx σ H4
section
variable{X:Cx}{o i e az:Expr}{pos br ay:Pos}{td ty tv:TE}
theorem adR(hu:X.A.units+1<cLine)(ho:PE X o td)(hi:PE X i ty)(hs:afF i):PE X (.Subscript o i pos) (agW td ty):=by
 intro aa s σ H Q I h;refine acM PySem.F.slot_dict_getitem.lookup hs (thn (ho aa s σ H _ I h) λu s1 ⟨x,H1,I1,rx,q1⟩=>thn (hi aa s1 σ H1 _ I1 q1) λiv s2 hP=>?_);obtain⟨y,H2,I2,ry,a,v,ex,g,q2⟩:=hP;subst ex;obtain rfl:u=Value.ref a:=rx;exact⟨Ra I2 g,XD hu I2 g ry λw' s3 I3 eS=>⟨v,H2,I3,eS,q2⟩⟩
theorem afq(hu:X.A.units+1<cLine)(hi:PE X i ty)(ho:PE X o td):PC X .In i o (anD ty td):=by
 intro aa s σ H Q I h;refine thn (hi aa s σ H _ I h) λiv s1 ⟨y,H1,I1,ry,q1⟩=>thn (ho aa s1 σ H1 _ I1 q1) λu s2 hP=>?_;obtain⟨x,H2,I2,rx,a,ov,ex,g,q2⟩:=hP;subst ex;obtain rfl:u=Value.ref a:=rx;exact ana hu I2 g ry λs3 I3=>⟨.bl ov.isSome,H2,I3,rfl,q2⟩
theorem Yi(hu:X.A.units+1<cLine)(hi:PE X i ty)(ho:PE X o td):PC X .NotIn i o (ac3 ty td):=by
 intro aa s σ H Q I h;refine thn (hi aa s σ H _ I h) λiv s1 ⟨y,H1,I1,ry,q1⟩=>thn (ho aa s1 σ H1 _ I1 q1) λu s2 hP=>?_;obtain⟨x,H2,I2,rx,a,ov,ex,g,q2⟩:=hP;subst ex;obtain rfl:u=Value.ref a:=rx;exact ad4 hu I2 g ry λs3 I3=>⟨.bl (!ov.isSome),H2,I3,rfl,q2⟩
theorem acL(hu:X.A.units+1<cLine)(ho:PE X o td)(hi:PE X i ty)(hv:PE X az tv)(hs:swapsWith az (some (.Subscript o i br)) pos.line X.env=pure false) :
  PS X (.Assign [.Subscript o i br] az pos) (ajY td ty tv):=by
 intro aa s σ H D I h;refine wpAny_Assign_Subscript (thn (hv aa s σ H _ I h) λr s1 ⟨v,H1,I1,rv,q1⟩=>thn (ho aa s1 σ H1 _ I1 q1) λu s2 ⟨x,H2,I2,rx,q2⟩=>thn (hi aa s2 σ H2 _ I2 q2) λiv s3 hP=>?_) hs;obtain⟨y,H3,I3,ry,a,H4,ex,g,q3⟩:=hP;subst ex;obtain rfl:u=Value.ref a:=rx;exact YK hu I3 g ry rv λs4 I4=>⟨σ,H4,I4,q3⟩
end
theorem Zr{P:Program}{w:World}{H:Hp}(h:Heap)(hb:sysModules<h.objs.size):gk P w H (h.push { cls:=.type "dict",data:=.dict #[] }) h.objs.size (.dK []) :=
 ⟨aZ _,beq_eq_false_iff_ne.mpr (Ne.symm (aQ hb)),[],.nil,Heap.DictOf.new h⟩
def afD:TE:=λ_ H Q=>∀p,H p=none->Q (.ref p) (upd H p (.dK []))
section
variable{X:Cx}{pos:Pos}
theorem aa1:PE X (.Dict [] [] pos) afD:=λaa s σ H Q I h =>
 wpAny_Dict_empty ⟨.ref s.heap.objs.size,_,I.laid (a:=s.heap.objs.size) (o:=.dK []) (t':=s.toks) (λ_ _ q=>aH _ q) (aG _) (Zr s.heap I.big),rfl,h _ (I.hok.fresh (aG _))⟩
end
abbrev VV:List (V×V)->List (Value×Value)->Prop:=Paired λp q=>RelV p.1 q.1/\RelV p.2 q.2
structure M2(X:Cx)(o:Expr)(m:Str)(am:Pos)(e f:Expr)(ag:Pos):Prop where
 base:attributeBase o m X.env (eval o X.env)=eval o X.env
 few:((backTo ag (starEach [e,f] X.env)).all (λx=>!x.1)&&(backToKw ag (keywordEach [] X.env)).all (λx=>x.1.isSome)
  && decide (([e,f] : List Expr).length+([] : List Keyword).length+(if([] : List Keyword).isEmpty then 0 else 1)<30))=true
 line:(am.endLine==ag.line)=true
 trees:backTo ag (starEach [e,f] X.env)=[(false,eval e X.env),(false,eval f X.env)]
def IsD(H:Hp)(a:Addr):Prop:=(∃kvs,Rd H a (.dK kvs))\/False
theorem afS{X:Cx}{aa:Δ}{σ:St}{H:Hp}{s:Shared}{a:Addr}(I:Inv X aa σ H s)(d:IsD H a) :
  s.TypeIs (.ref a) "dict"/\(∀b,Value.ref a=.ref b->∃ob,s.heap.get? b=some ob/\ob.dict=none)/\(a==sysModules)=false:=by
 rcases d with⟨kvs,e⟩|hF
 .obtain⟨_,hd,vs,_,dd⟩:=HY I.hok e;refine⟨dd.typeIs,λb q=>?_,hd⟩;cases q;obtain⟨ob,_,_,h1,h2,_⟩:=dd;exact⟨ob,h1,h2.2.1⟩
 .exact hF.elim
section
variable{X:Cx}{aa:Δ}{σ:St}{H:Hp}{s:Shared}{a:Addr}{y d:V}{u r:Value}{o:Option V}{A:Around}{E:Ε}
theorem agn{Q:Ε}(hu:A.units+1<cLine)(I:Inv X aa σ H s)(g:Eo H a y o)(ry:RelV y u)(rd:RelV d r)(h:∀w' s',Inv X aa σ H s'->RelV (o.getD d) w'->Q w' s') :
  wpAny (model X.prog X.w) A (call (.builtin "dict.get") [.ref a,u,r]) Q E s:=by
 rcases g with⟨kvs,k,e,ey,l⟩|hF
 .subst ey;obtain⟨z,hd,vs,rel,dd⟩:=HY I.hok e;refine call_meetsIn PySem.F.slot_dict_get dd.typeIs PySem.F.entry_dict_get (PySem.F.args_dict_get_3 _ _ _) (meets_dict_get_default (iM X.prog X.w) a (Rh ry) hd r) ⟨_,dd.mapOf,h _ _ (I.tok _) ?_⟩;rw[l];exact(rel.val k).getD rd
 .exact hF.elim
end
def agt(td ty tx:TE):TE:=λσ H Q=>td σ H λx H1=>∃a,x=.ref a/\IsD H1 a/\ty σ H1 λy H2=>tx σ H2 λz H3=>∃o,Eo H3 a y o/\Q (o.getD z) H3
section
variable{X:Cx}{o e f:Expr}{am ag:Pos}{td ty tx:TE}
theorem abq(hu:X.A.units+1<cLine)(ho:PE X o td)(he:PE X e ty)(hf:PE X f tx)(m:M2 X o "get" am e f ag):PE X (.Call (.Attribute o "get" am) [e,f] [] ag) (agt td ty tx):=by
 intro aa s σ H Q I h;refine wpAny_Call_method m.base m.few m.line PySem.F.plainAttrs_dict PySem.F.slot_dict_get PySem.F.type_dict_get (thn (ho aa s σ H _ I h) λu s1 hP=>?_);obtain⟨x,H1,I1,rx,a,ex,d,q1⟩:=hP;subst ex;obtain rfl:u=Value.ref a:=rx;obtain⟨t1,t2,_⟩:=afS I1 d;refine⟨t1,t2,?_⟩;rw[m.trees];refine Calls.callWith_builtin rfl (Calls.evalArgs_plain (Calls.spliced_cons (thn (he aa s1 σ H1 _ I1 q1) λiv s2 ⟨y,H2,I2,ry,q2⟩ =>
  Calls.spliced_cons (thn (hf aa s2 σ H2 _ I2 q2) λfv s3 ⟨z,H3,I3,rz,ov,g,q3⟩=>Calls.spliced_nil ?_))))
 exact agn hu I3 g ry rz λw' s4 I4 eS=>⟨_,H3,I4,eS,q3⟩
end
def Itk(a:Addr)(o:Obj)(kvs:List (Key×V)):It:=⟨λi H=>H a=some (.frz o (.dK kvs))/\i<kvs.length,λi H v H'=>H'=H/\∃k y,kvs[i]?=some (k,y)/\v=kV k,λi H=>H a=some (.frz o (.dK kvs))/\i=kvs.length⟩
theorem akE{P:Program}{w:World}{k:Key}{u:Value}(h:(iM P w).is k u=true):RelV (kV k) u:=by
 have h:BW k u=true:=h;cases k with
 |inl i =>
  cases u<;>simp[BW,Value.isInt]at h
  .subst h;exact⟨_,rfl⟩
 |inr x =>
  cases u<;>simp[BW,Value.isStrOf]at h
  .subst h;exact⟨_,rfl⟩
theorem KV.at{κ:Type}{kvs:List (κ×V)}{vs:List (κ×Value)}(r:KV kvs vs):∀{i:Nat}{k:κ}{y:V},kvs[i]?=some (k,y)->∃u,vs[i]?=some (k,u)/\RelV y u:=by
 unfold KV at r
 induction r with
 |nil=>intro i k y h;cases h
 |@cons p q ps qs h t ih =>
  intro i k y e;cases i with
  |zero =>
   rw[List.getElem?_cons_zero]at e;cases e;obtain⟨q1,q2⟩:=q;obtain⟨h1,h2⟩:=h;cases h1;exact⟨q2,rfl,h2⟩
  |succ i =>
   rw[List.getElem?_cons_succ]at e ⊢;exact ih e
theorem Xq{P:Program}{w:World}{K:Frag}{tg:Expr}(it a:Addr)(o:Obj)(kvs:List (Key×V))(vs:List (Key×Value))(ep:Nat)(rel:KV kvs vs)(hD:∀h:Heap,h.get? a=some o->h.DictAt (iM P w) a vs ep) :
  Turn P w K tg (Itk a o kvs) [it] it (λi h=>h.IsKeyIter it a i vs.length ep) where
 mem:=by simp
 obj:=λi h st b hb=>by
  have e:b=it:=by simpa using hb
  subst e;obtain⟨o,ho,_,hd⟩:=st;exact⟨o,ho,λv z=>by rw[hd]at z;cases z⟩
 keep:=λi h h' st k=>let⟨o,ho,r⟩:=st;⟨o,k it (by simp) o ho,r⟩
 item:=by
  intro X hP hw hK hc i aa s σ H E I hf st hg;subst hP hw hK;obtain⟨hg,fc⟩:=hg;obtain⟨ho,_⟩:=(show gk X.prog X.w H s.heap a (.frz o (.dK kvs))from I.hok a _ hg);obtain⟨f0,f1,f2,f3,f4,f5⟩:=hf it (by simp);obtain⟨⟨k,y⟩,hx⟩ : ∃p,kvs[i]?=some p:=⟨kvs[i],by simp[fc]⟩;obtain⟨u,hu,ru⟩:=rel.at hx;refine wpAny_pyNext_dict_item st (hD _ ho) hu λda h' gT df sb=>?_;have I1:Inv X aa σ H { s with heap:=h' }:=I.turned (t':=s.toks) (λb ob hb e=>(sb.2 b hb).trans e) f0 f1 f3 f4 f5;obtain⟨oi,e,c,d⟩:=id df;exact⟨da,rfl,Qx (s:={ s with heap:=h' }) e c d (by decide) ⟨kV k,H,I1,akE gT,⟨rfl,k,y,hx,rfl⟩,df,λb hb=>(hf b hb).1⟩⟩
 done:=by
  intro X hP hw hK hc i aa s σ H E I hf st hg;subst hP hw hK;obtain⟨hg,rfl⟩:=hg;obtain⟨ho,_⟩:=(show gk X.prog X.w H s.heap a (.frz o (.dK kvs))from I.hok a _ hg);obtain⟨f0,f1,f2,f3,f4,f5⟩:=hf it (by simp);have hl:=rel.length;exact wpAny_pyNext_dict_end (I.ok.hd hc) st (hD _ ho) (by simp;exact WG (Eq.symm hl)) λh' eb=>⟨rfl,I.turned (t':=s.toks) (λb ob hb e=>eb b ob hb e) f0 f1 f3 f4 f5⟩
 self:=λ_ _ _ _ _ st h=>wpAny_pyIter_keyiter st h
section
variable{X:Cx}{tg:Expr}
def ahm(te:TE):TI:=λσ H R=>te σ H λx H1=>∃a kvs,x=.ref a/\H1 a=some (.dK kvs)/\∀o,R (Itk a o kvs) (upd H1 a (.frz o (.dK kvs)))
theorem ad0{l:Expr}{tl:TE}(hl:PE X l tl):PI X tg l (ahm tl):=by
 intro aa s σ H R I h;refine thn (hl aa s σ H _ I h) λv s1 hP=>?_;obtain⟨x,H1,I1,r1,a,kvs,ex,ha,q⟩:=hP;subst ex;cases r1;have ok:=(show gk X.prog X.w H1 s1.heap a (.dK kvs)from I1.hok a _ ha);obtain⟨z,hd,vs,rel,o,es,ep,e,ex,ed,ek,epr,en⟩:=ok;have hD:∀h:Heap,h.get? a=some o->h.DictAt (iM X.prog X.w) a vs ep:=λh e=>⟨o,es,e,ex,ed,ek,epr,en⟩;have I2:Inv X aa σ (upd H1 a (.frz o (.dK kvs))) s1:=by
  have:=I1.write (x:=a) (e:=a) (o:=.frz o (.dK kvs)) (h':=s1.heap) (t':=s1.toks) (by rw[ha];exact True.intro) (.inl rfl) (λb u hb z=>z) ⟨o,e⟩ ⟨e,z,hd,vs,rel,o,es,ep,e,ex,ed,ek,epr,en⟩;exact this
 refine wpAny_pyIter_dict hd (hD _ e) ?_;refine⟨s1.heap.objs.size,[s1.heap.objs.size],_,Itk a o kvs,_,rfl,I2.kept (t':=s1.toks) λb ob z=>aH _ z,Xq _ a o kvs vs ep rel hD,⟨_,aW _ rfl,rfl,rfl⟩,λb hb=>?_,q o⟩;have e:b=s1.heap.objs.size:=by simpa using hb
 subst e;exact I2.fpOk (aG _) (I2.hok.fresh (aG _))
def tMG(g:TG):TG:=λv σ H Q=>∃R:L2.St->Hp->Prop,g v σ H R/\∀σ' H',R σ' H'->Q σ' H'
def tMT(t:TT):TT:=λσ H Q=>∃R:Bool->Hp->Prop,t σ H R/\∀b H',R b H'->Q b H'
theorem PG.mono{e:Expr}{g:TG}(h:PG X e g):PG X e (tMG g):=λaa s σ H v u Q I r hP=>by obtain⟨R,h1,h2⟩:=hP;exact thn (h aa s σ H v u R I r h1) λ_ s' hP=>by obtain⟨σ',H',I',q⟩:=hP;exact⟨σ',H',I',h2 σ' H' q⟩
theorem PTs.mono{aE:List Expr}{t:TT}(h:PTs X aE t):PTs X aE (tMT t):=λaa s σ H Q I hP=>by obtain⟨R,h1,h2⟩:=hP;exact thn (h aa s σ H R I h1) λb s' hP=>by obtain⟨H',I',q⟩:=hP;exact⟨H',I',h2 b H' q⟩
end
structure Fw(K:Frag)(B:Addr)(m:Str)(f:Addr):Prop where
 ga:specialIn K (.ref B) "__getattribute__"=some (some (.builtin "type.__getattribute__"))
 rd:readsIn K B (.type "type")=true
 at_:findCls K (.ref B) (.type "type") m=some (.val (.ref f))
 hd:handedIn (.ref f)=true
 kp:keepIn K (.ref f)=true
section
variable{X:Cx}{k:Nat}{f B:Addr}{fd:FuncData}{ps:Φ}{sp:Sp}{c5:Ζ}{ds:Θ}{x m:Str}{p pos am:Pos}{e:Expr}{es:List Expr}{t:TA}{Ex:Value->Ξ->L2.St->Hp->Prop}
theorem Fw.get{aa:Δ}{σ:L2.St}{H:Hp}{s:Shared}{pl:Sem Bool}{A:Around}{E:Ε}{Q:Value×Θ->Shared->Prop}(c:Fw X.K B m f)(I:Inv X aa σ H s)(h:∀t,Q (.ref f,[]) { s with toks:=t }) :
  wpAny (model X.prog X.w) A (getMethod (.ref B) m pl) Q E s :=
 PySem.W.method_cls I.kIn c.ga (PySem.W.cls_value I.kIn c.rd c.at_ c.hd (h _))
theorem adF{pl:Sem Bool}(c:Fw X.K B m f)(F:cj X.prog X.w X.K X.mg X.base CX0 k f fd ps sp)(hr:fB k X.A)(hg:Gl X x)(hm:X.mg x=some (.ref B))(hb:Binds X.K fd ps [])(ha:PA X (e::es) t)(cc:(x==("__debug__":Str))=false:=by decide)
 (b8:starEach (e::es) X.env=(false,eval e X.env)::starEach es X.env:=by rfl)(bg:(backTo pos (starEach es X.env)).any (·.1)=false:=by rfl)
 (ht:eval (.Call (.Attribute (.Name x p) m am) (e::es) [] pos) X.env=(do
   let ov <- eval (.Name x p) X.env
   standAt am.atName
   let(f,first) <- holding [ov] (getMethod ov m pl)
   callWith pos f first (backTo pos (starEach (e::es) X.env)) (backToKw pos (keywordEach [] X.env))):=by rfl) :
  PE X (.Call (.Attribute (.Name x p) m am) (e::es) [] pos) (T8 sp t):=by
 intro aa s σ H Q I h;refine methodCall_KW (pl:=pl) (GD I hg hm (c.get I λtk=>?_) cc) ht;refine callWith_K (first:=[]) (h₀:=X.base) I.ok.mod.kin c.kp (thn (ha pos aa _ σ H _ (I.tok tk) h) λus s2 ⟨vs,H2,I2,r,q2⟩=>⟨I2.kIn,?_⟩) b8 bg;exact Nx (us:=us) (vs:=vs) F hr hb .nil Rv I2 r (by rw[List.append_nil];exact q2)
end
theorem Same.tup{K:Frag}{H H':Hp}{a:Addr}{xs:Ζ}(e:Same H H')(h:SqT K H a xs):SqT K H' a xs:=by
 rcases h with(h|⟨o,h⟩)|h
 .exact .inl (.inl (e _ _ h))
 .exact .inl (.inr ⟨o,e _ _ h⟩)
 .exact .inr h
mutual
inductive gF(K:Frag)(H:Hp):V->PyData->Prop
 |non:gF K H .non .none
 |bl (b:Bool):gF K H (.bl b) (.bool b)
 |int (i:Int):gF K H (.int i) (.int i)
 |str (x:Str):gF K H (.str x) (.str x)
 |lst {a:Addr}{xs:Ζ}{ds:List PyData} : H a=some (.lst xs)->eV K H xs ds->gF K H (.ref a) (.list ds)
 |tup {a:Addr}{xs:Ζ}{ds:List PyData} : SqT K H a xs->eV K H xs ds->gF K H (.ref a) (.tuple ds)
inductive eV(K:Frag)(H:Hp):Ζ->List PyData->Prop
 |nil:eV K H [] []
 |cons {x:V}{xs:Ζ}{d:PyData}{ds:List PyData} : gF K H x d->eV K H xs ds->eV K H (x::xs) (d::ds)
end
mutual
theorem gF.same{K:Frag}{H H':Hp}(S:Same H H'):∀{x:V}{d:PyData},gF K H x d->gF K H' x d
 |_,_,.non=>.non
 |_,_,.bl b=>.bl b
 |_,_,.int i=>.int i
 |_,_,.str x=>.str x
 |_,_,.lst e h=>.lst (S _ _ e) (eV.same S h)
 |_,_,.tup e h=>.tup (S.tup e) (eV.same S h)
theorem eV.same{K:Frag}{H H':Hp}(S:Same H H'):∀{xs:Ζ}{ds:List PyData},eV K H xs ds->eV K H' xs ds
 |_,_,.nil=>.nil
 |_,_,.cons h t=>.cons (gF.same S h) (eV.same S t)
end
section
variable{X:Cx}{aa:Δ}{σ:L2.St}{H:Hp}{s:Shared}
mutual
theorem Inv.readsK(I:Inv X aa σ H s):∀{x:V}{d:PyData}{v:Value},gF X.K H x d->RelV x v->∃as,Reads s.heap v d as
 |_,_,_,.non,r=>by cases r;exact⟨_,.none⟩
 |_,_,_,.bl b,r=>by cases r;exact⟨_,.bool b⟩
 |_,_,_,.int i,r=>by obtain⟨t,rfl⟩:=r;exact⟨_,.int i t⟩
 |_,_,_,.str x,r=>by obtain⟨t,rfl⟩:=r;exact⟨_,.str x t⟩
 |_,_,_,.lst e h,r=>by
  cases r;obtain⟨its,rv,⟨o,ho,hc,n,hd⟩⟩:=I.lstIs e;obtain⟨as,q⟩:=Inv.readsAllK I h rv;exact⟨_,.list ho hc hd q⟩
 |_,_,_,.tup e h,r=>by
  cases r;obtain⟨its,rv,⟨o,ho,hc,n,hd⟩,_⟩:=I.tuple e;obtain⟨as,q⟩:=Inv.readsAllK I h rv;exact⟨_,.tuple ho hc hd q⟩
theorem Inv.readsAllK(I:Inv X aa σ H s):∀{xs:Ζ}{ds:List PyData}{vs:Θ},eV X.K H xs ds->Vals xs vs->∃as,ReadsAll s.heap vs ds as
 |_,_,_,.nil,r=>by cases r;exact⟨_,.nil⟩
 |_,_,_,.cons h t,r=>by
  cases r with
  |cons r1 r2 =>
   obtain⟨a,q1⟩:=Inv.readsK I h r1;obtain⟨b,q2⟩:=Inv.readsAllK I t r2;exact⟨_,.cons q1 q2⟩
end
def afU(K:Frag)(neg:Bool):R2:=λx y H Q=>∃d e,gF K H x d/\gF K H y e/\SeqAt.shaped d=true/\SeqAt.shaped e=true/\Q (.bl (if neg then !PyData.eqv d e else PyData.eqv d e)) H
theorem aey(hu:X.A.units+64<cLine):OpR X (compareOp .Eq) (afU X.K false):=by
 intro aa s σ H x y v u Q I rx ry h;obtain⟨d,e,hd,he,sd,se,q⟩:=h;obtain⟨as,ra⟩:=I.readsK hd rx;obtain⟨bs,rb⟩:=I.readsK he ry;exact SeqAt.compareEq_shaped ra rb sd se hu ⟨.bl _,H,I,rfl,q⟩
theorem afi(hu:X.A.units+64<cLine):OpR X (compareOp .NotEq) (afU X.K true):=by
 intro aa s σ H x y v u Q I rx ry h;obtain⟨d,e,hd,he,sd,se,q⟩:=h;obtain⟨as,ra⟩:=I.readsK hd rx;obtain⟨bs,rb⟩:=I.readsK he ry;exact SeqAt.compareNe_shaped ra rb sd se hu ⟨.bl _,H,I,rfl,q⟩
end
section
variable{X:Cx}
def adV(K:Frag):Ζ->Hp->VK->Prop:=λxs H Q=>∃p T ys,xs=[.ref p,.ty T]/\T∈["bool","int","str","list","tuple","dict"]/\SqT K H p ys/\Q (.bl (MK "tuple" T)) H
theorem Qz:i_ X (.builtin "isinstance") (adV X.K):=by
 intro aa s σ H xs us Q I r h;obtain⟨p,T,ys,rfl,hT,hp,q⟩:=h;obtain⟨u,v,rfl,ru,rv⟩:=r.two;cases ru;cases rv;obtain⟨its,rvs,⟨o,ho,hc,n,hd⟩,_⟩:=I.tuple hp;refine kia_one (kitx_tuple (a:=p)) I.kIn ⟨o,ho,hc⟩ (Wg (K:=X.K) (t:="tuple") (by decide) hT) (λz=>nomatch z) λtk=>⟨.bl _,H,I.tok _,rfl,q⟩
end
def OkI(P:Program)(w:World)(K:Frag)(mg:Str->Ω)(base:Heap)(CX:CXT)(k:Nat)(f:Addr)(ps:Φ)(sp:Sp):Prop:=∃fd,cj P w K mg base CX k f fd ps sp/\Binds K fd ps []
def Ay(K:Frag)(x ai:Str)(st:Stmt)(ps:Φ)(f:Addr):Prop:=∃fd,Fun K x ai st f fd/\∀us:Θ,us.length=ps.length->bindArgs fd ⟨us,[]⟩=pure (ps.zip us)
theorem Ay.ok{P:Program}{w:World}{K:Frag}{mg:Str->Ω}{base:Heap}{CX:CXT}{k:Nat}{x ai:Str}{st:Stmt}{ps:Φ}{f:Addr}{sp:Sp}(h:Ay K x ai st ps f)(hf:∀fd,Fun K x ai st f fd->cj P w K mg base CX k f fd ps sp):OkI P w K mg base CX k f ps sp :=
 by obtain⟨fd,a,b⟩:=h;exact⟨fd,hf fd a,.all b⟩
theorem adQ{K:Frag}{x ai:Str}{st:Stmt}{ps:Φ}{f:Addr}{oc:Value}{od an:Ξ}{dQ:Array (Ω)}{kV bv pm af ct:Value}
 (l:K.lookup f=some ⟨oc,od,.func (PySem.W.fnOf x ai (iR st) (fK st) (bH st) .none kV bv pm an af ct),dQ⟩)(c:codeIn K af ai=true)(k:keepIn K (.ref f)=true)
 (hb:∀(kV bv pm:Value)(an:Ξ)(af ct:Value)(us:Θ),us.length=ps.length->bindArgs (PySem.W.fnOf x ai (iR st) (fK st) (bH st) .none kV bv pm an af ct) ⟨us,[]⟩=pure (ps.zip us)):Ay K x ai st ps f :=
 ⟨_,aau l c k,hb kV bv pm an af ct⟩
section
variable{X:Cx}{k:Nat}{f C B:Addr}{ps:Φ}{sp:Sp}{x m:Str}{p pos am:Pos}{e o:Expr}{es:List Expr}{ta:TE}{t:TA}{Ex:Value->Ξ->L2.St->Hp->Prop}
def abv(C:Addr)(m:Str)(sp:Sp)(ta:TE)(t:TA):TE:=λσ H Q=>ta σ H λx H1=>∃a dx fs,x=.ref a/\H1 a=some (.ins C dx fs)/\fs.lookup m=none/\t σ H1 λvs H2=>sp (x::vs) H2 Q E0
theorem Z5{pl:Sem Bool}(he:PE X o ta)(c:Cls X.K C)(hm:Meth X.K C m f)(G:OkI X.prog X.w X.K X.mg X.base CX0 k f ps sp)(hr:fB k X.A)(ha:PA X (e::es) t)
 (b8:starEach (e::es) X.env=(false,eval e X.env)::starEach es X.env:=by rfl)(bg:(backTo pos (starEach es X.env)).any (·.1)=false:=by rfl)
 (ht:eval (.Call (.Attribute o m am) (e::es) [] pos) X.env=(do
   let ov <- eval o X.env
   standAt am.atName
   let(f,first) <- holding [ov] (getMethod ov m pl)
   callWith pos f first (backTo pos (starEach (e::es) X.env)) (backToKw pos (keywordEach [] X.env))):=by rfl) :
  PE X (.Call (.Attribute o m am) (e::es) [] pos) (abv C m sp ta t):=by
 obtain⟨fd,F,hb⟩:=G;refine(adk (pl:=pl) he.mono c hm F hr hb .nil Rv ha.mono b8 bg ht).imp λσ H Q h=>⟨_,h,?_⟩;rintro x H1 ⟨a,dx,fs,h1,h2,h3,h4⟩;refine⟨a,dx,fs,h1,h2,h3,_,h4,λvs H2 q=>?_⟩;show sp (x::(vs++[])) H2 Q E0;rw[List.append_nil];exact q
theorem XC{pl:Sem Bool}(he:PE X o ta)(c:Cls X.K C)(hm:Meth X.K C m f)(G:OkI X.prog X.w X.K X.mg X.base CX0 k f ps sp)(hr:fB k X.A)
 (ht:eval (.Call (.Attribute o m am) [] [] pos) X.env=(do
   let ov <- eval o X.env
   standAt am.atName
   let(f,first) <- holding [ov] (getMethod ov m pl)
   callWith pos f first (backTo pos (starEach [] X.env)) (backToKw pos (keywordEach [] X.env))):=by rfl) :
  PE X (.Call (.Attribute o m am) [] [] pos) (abv C m sp ta afV):=by
 obtain⟨fd,F,hb⟩:=G;refine(Zg (pl:=pl) he.mono c hm F hr hb .nil Rv ht).imp λσ H Q h=>⟨_,h,?_⟩;rintro x H1 ⟨a,dx,fs,h1,h2,h3,h4⟩;exact⟨a,dx,fs,h1,h2,h3,h4⟩
theorem aaS{D:Addr}{pos:Pos}(hg:Gl X x)(hm:X.mg x=some (.ref D))(hd:(x==("__debug__":Str))=false:=by decide):PE X (.Name x pos) (tC (.ref D)):=W9 hg hm rfl hd
end
theorem Lg{h:Heap}{o ob:Obj}{b:Addr}(e:(h.push o).get? b=some ob)(hs:b≠h.objs.size):h.get? b=some ob:=by
 obtain⟨e1,e2⟩:=Heap.get?_some_iff.mp e;refine Heap.get?_some_iff.mpr ⟨?_,e2⟩;cases h;simpa[Heap.push,Array.getElem?_push,hs]using e1
section
variable{X:Cx}
theorem QX:∀{ys:Φ}{vs:Θ},Vals (ys.map V.str) vs->StrsAre vs ys
 |[],_,h=>by cases h;exact .nil
 |y::ys,_,h=>by
  rw[List.map_cons]at h;cases h with
  |cons a b =>
   obtain⟨t,rfl⟩:=a;exact .cons y t (QX b)
def rJoin:V->Ζ->Hp->VK->Prop:=λx vs H Q=>∃a l ys,x=.str a/\vs=[.ref l]/\H l=some (.lst (ys.map V.str))/\(ys.map (·.length)).sum+ys.length*a.length<=16777216/\Q (.str (Txt.join a ys)) H
theorem adH:MtM X "str.join" rJoin:=by
 intro aa s σ H x vs v us Q I rx rv h;obtain⟨a,l,ys,rfl,rfl,hl,hz,q⟩:=h;obtain⟨t,rfl⟩:=rx;obtain⟨u,rfl,ru⟩:=rv.one;cases ru;obtain⟨_,its,n,r,_,e⟩:=I.lstM hl;exact join_list ⟨_,e,rfl,n,rfl⟩ (by simpa using QX r) hz λt' k=>⟨.str _,H,I.tok _,⟨_,rfl⟩,q⟩
end
section
variable{X:Cx}{aS iter:Expr}{pos:Pos}{scope:Scope}{wi:TI}{te:TE}
theorem Zz{ext:Addr->List (Str×Addr)}{fn:Str->Bool}{i0:Nat}{y0:Str}{py b7:Pos}{xs N':Φ}{tg:Expr}{aE:List Expr}{gt:TG}{tc:TT}(E:RB X scope xs ext fn)(hc:X.calm=true)(f':Lj xs X.N=N')(cf:scope.kind=.function)(cy:∀y∈scope.names,y.2=.local->scope.names.lookup y.1=some .local)
 (b9:∀y∈scope.names,y.2=.free->X.env.kindOf y.1=some .cell\/X.env.kindOf y.1=some .free)(ff:∀y∈X.N,y∉xs->(relabel scope X.env).names.lookup y≠some .local)(hq:∀y∈X.N,y∈xs->(relabel scope X.env).names.lookup (hid y)=none)(hi:PI X tg iter wi)
 (hg:∀C s₀ H₀ ex pn,PG (X.compE ext fn N' scope xs C s₀ H₀ ex pn) tg gt)(ht:∀C s₀ H₀ ex pn,PTs (X.compE ext fn N' scope xs C s₀ H₀ ex pn) aE tc)(he:∀C s₀ H₀ ex pn,PE (X.compE ext fn N' scope xs C s₀ H₀ ex pn) aS te)(fF:PG X (.Name y0 py) (zU i0))(fy:swapsWith (.ListComp aS [⟨tg,iter,aE,0⟩] scope pos) (some (.Name y0 py)) b7.line X.env=pure true)(hs:∀z,foldedSetIterable iter X.env z=pure z) :
  PS X (.Assign [.Name y0 py] (.ListComp aS [⟨tg,iter,aE,0⟩] scope pos) b7) (ab2 (rR wi xs.length gt tc te) (zU i0)):=by
 intro aa s σ H D0 I h;have h:rR wi xs.length gt tc te σ H (λx H1=>zU i0 x σ H1 D0.nx):=h;rw[exec_Assign_Name_used _ _ _ _ fy];refine ZU (wpAny_standAt (ZU ?_));show wpAny _ X.A (comprehension (.ListComp aS [⟨tg,iter,aE,0⟩] scope pos) scope X.env _ (newList []) false (eval iter X.env) (some (assign (.Name y0 py) X.env)) >>= λ_=>_) _ _ s;refine ZU (wpAny_mono (K_ (use:=some (assign (.Name y0 py) X.env)) (post:=λ_ s'=>SP X aa D0 .next s') E hc f' cf cy b9 ff hq hi hg ht he hs I h λC D Hc s6 m fl iE I6 fC qn=>?_) (λ_ s' hq=>ZT (ZT hq)) λ_ _ e=>e);obtain⟨oc,es,ep,ho,k5,_⟩:=id iE;have I7:=I6.pinned (fp:=[C]) (λb hb=>by rw[YR.mp hb];exact fC) λb hb=>by
  rw[YR.mp hb];exact⟨oc,ho,λv z=>by rw[k5]at z;cases z⟩
 show wpAny _ X.A (assign (.Name y0 py) X.env _) _ _ s6;refine thn (fF _ s6 σ Hc (.ref D) _ D0.nx I7 rfl qn) λ_ s7 hP=>?_;obtain⟨σ7,H7,Z7,q7⟩:=hP;have pn7:=Z7.pin (C,oc) (aP _ (aP _ (qu (by simp) ho)));refine⟨m,iE.at' λo e=>?_,λh' kL=>⟨σ7,H7,Z7.unpinned.turned (it:=C) (h':=h') (t':=s7.toks) (λb o hb e=>(kL.2 b hb).trans e) pn7.2.1 fC.2.1 fC.2.2.2.1 fC.2.2.2.2.1 fC.2.2.2.2.2,q7⟩⟩;rw[ho]at e;cases e;exact pn7.1
end
section
variable{X:Cx}{aa:Δ}{σ:L2.St}{H:Hp}{s:Shared}{h':Heap}
theorem Inv.turnedL{t':Nat}{ch:Ψ}(I:Inv X aa σ H s)(k:∀b o,b∉ch->s.heap.get? b=some o->h'.get? b=some o)(hf:∀b∈ch,Gi X aa H b):Inv X aa σ H { s with heap:=h',toks:=t' }:=by
 have ic:∀b u,H b=some u->b∉ch:=λb u e z=>by rw[(hf b z).1]at e;cases e
 refine I.step (g':=s.gens) (d':=s.drawn) (ch:=ch) (λb hb=>⟨(hf b hb).2.2.2.1,(hf b hb).2.1,(hf b hb).2.2.2.2.1,(hf b hb).2.2.2.2.2⟩) (λb o _ _ hc e _=>k b o hc e) (λb o _ _ hc e _=>⟨o.slots,k b o hc e⟩) (λ_ _ _ _ n=>n) (λb o hc e=>⟨o,k b o hc e⟩) (λ_ _ e=>e) (λ_ _ _ e=>e) (λb ps e=>⟨#[],by rw[e];simp⟩) (λm hm=>?_) (λb u e=>?_) I.bare
 .obtain⟨o,es,ep,ho,r⟩:=hm;exact⟨o,es,ep,k _ o (λz=>(hf _ z).2.1 rfl) ho,r⟩
 .refine(I.hok b u e).stay (λc v hc q=>k c v ?_ q) (λ_ q=>q) λ_ _ q=>q;rcases hc with z|z
  .rw[z];exact ic b u e
  .exact ic c _ z
end
def Itz(a b:Addr):It:=⟨λi H=>∃xs ys,H a=some (.lst xs)/\H b=some (.lst ys)/\i<xs.length/\i<ys.length,λi H v H'=>∃xs ys x y t,H a=some (.lst xs)/\H b=some (.lst ys)/\xs[i]?=some x/\ys[i]?=some y/\H t=none/\v=.ref t/\H'=upd H t (.tup [x,y]),λi H=>∃xs ys,H a=some (.lst xs)/\H b=some (.lst ys)/\(xs.length<=i\/ys.length<=i)⟩
theorem pU{h g:Heap}{a l:Addr}{i:Nat}(x:h.IsListIter a l i)(k:∀o,h.get? a=some o->g.get? a=some o):g.IsListIter a l i:=by obtain⟨o,e,r⟩:=x;exact⟨o,k o e,r⟩
theorem Ph{xs:Ζ}{vs:Θ} : Vals xs vs->∀{i:Nat}{x:V},xs[i]?=some x->∃u,vs[i]?=some u/\RelV x u:=by
 intro h
 induction h with
 |nil=>intro i x e;cases e
 |cons a b ih =>
  intro i x e;cases i with
  |zero=>rw[List.getElem?_cons_zero]at e;cases e;exact⟨_,rfl,a⟩
  |succ i=>rw[List.getElem?_cons_succ]at e ⊢;exact ih e
theorem ZK{P:Program}{w:World}{K:Frag}{bX:List Expr}{x1}{pos:Pos}(z TI TO i1 i2 l1 l2:Addr)(D:ZipApart z TI TO i1 i2 l1 l2) :
  Turn P w K (.Tuple bX x1 pos) (Itz l1 l2) [z,TI,TO,i1,i2] z (λi h=>IsZip h z TI TO .none/\IsPair h TI (.ref i1) (.ref i2)/\(∃p q,IsPair h TO p q)/\h.IsListIter i1 l1 i/\h.IsListIter i2 l2 i) where
 mem:=by simp
 obj:=by
  rintro i h ⟨s1,s2,⟨p,q,s3⟩,⟨o4,s4,_,d4⟩,⟨o5,s5,_,d5⟩⟩ b hb;simp only[YU,UR,or_false]at hb;rcases hb with rfl|rfl|rfl|rfl|rfl
  .exact⟨_,s1,λv e=>by cases e⟩
  .exact⟨_,s2,λv e=>by cases e⟩
  .exact⟨_,s3,λv e=>by cases e⟩
  .exact⟨_,s4,λv e=>by rw[d4]at e;cases e⟩
  .exact⟨_,s5,λv e=>by rw[d5]at e;cases e⟩
 keep:=λi h h' ⟨s1,s2,⟨p,q,s3⟩,s4,s5⟩ k=>⟨k z (by simp) _ s1,k TI (by simp) _ s2,⟨p,q,k TO (by simp) _ s3⟩,pU s4 (k i1 (by simp)),pU s5 (k i2 (by simp))⟩
 item:=by
  intro X hP hw hK hc i aa s σ H E I hf st hg;subst hP hw hK;obtain⟨s1,s2,⟨p,q,s3⟩,s4,s5⟩:=st;obtain⟨xs,ys,ha,hb,kB,lt2⟩:=hg;obtain⟨_,e9,n1,fR,le1,g1⟩:=I.lstM ha;obtain⟨_,ik,n2,kq,le2,g2⟩:=I.lstM hb;have ex:xs[i]?=some xs[i]:=aj kB;have ey:ys[i]?=some ys[i]:=aj lt2;obtain⟨u,hu,ru⟩:=Ph fR ex;obtain⟨v,hv,rv⟩:=Ph kq ey;refine wpAny_pyNext_zip_item D s1 s2 s3 s4 s5 (xs:=e9.toArray) (ys:=ik.toArray) ⟨_,g1,rfl,n1,rfl⟩ ⟨_,g2,rfl,n2,rfl⟩ (x:=u) (y:=v) (by simpa using hu) (by simpa using hv) λh' a1 a2 a3 a4 a5 a6 a7=>⟨_,rfl,?_⟩;refine wpAny_letOwnedTupleGo_zip a1 λh2 fN sb=>?_;have nt:H s.heap.objs.size=none:=I.fresh;have I1:=I.laid (a:=s.heap.objs.size) (o:=.tup [xs[i],ys[i]]) (h':=s.heap.push { cls:=.type "tuple",data:=.seq #[u,v] }) (t':=s.toks) (λb q z=>aH _ z) (aG _)
   ⟨(by show 2<=sizeLine;decide),[u,v],.cons ru (.cons rv .nil),_,aW _ rfl,rfl,_,rfl⟩
  have nz:z≠s.heap.objs.size:=aQ (aK s1);have nO:TO≠s.heap.objs.size:=aQ (aK s3);have nI:TI≠s.heap.objs.size:=aQ (aK s2);have kz:i1≠s.heap.objs.size:=by obtain⟨o,e,_⟩:=s4;exact aQ (aK e)
  have n2':i2≠s.heap.objs.size:=by obtain⟨o,e,_⟩:=s5;exact aQ (aK e)
  have i5:∀b∈[z,TI,TO,i1,i2],upd H s.heap.objs.size (.tup [xs[i],ys[i]]) b=none:=by
   intro b hb;have f0:=(hf b hb).1;simp only[YU,UR,or_false]at hb;rcases hb with rfl|rfl|rfl|rfl|rfl
   .exact(cD nz).trans f0
   .exact(cD nI).trans f0
   .exact(cD nO).trans f0
   .exact(cD kz).trans f0
   .exact(cD n2').trans f0
  have I2:=I1.turnedL (ch:=[z,TO,i1,i2]) (h':=h2) (t':=s.toks) (λb ob hb e=>by
   simp only[YU,UR,or_false,not_or]at hb;obtain⟨b1,b2,b3,b4⟩:=hb;refine(sb.2 b b1).trans ?_;by_cases hs:b=s.heap.objs.size
   .subst hs;have e2:=aW s.heap (o:={ cls:=.type "tuple",data:=.seq #[u,v] }) rfl;have e:(s.heap.push { cls:=.type "tuple",data:=.seq #[u,v] }).get? s.heap.objs.size=some ob:=e;rw[e2]at e;cases e;exact a5
   .exact a7 b _ b1 b2 b3 b4 (Lg e hs)) λb hb=>by
    have fr:b∈[z,TI,TO,i1,i2]:=by
     simp only[YU,UR,or_false]at hb ⊢;rcases hb with h|h|h|h<;>simp[h]
    exact⟨i5 b fr,(hf b fr).2⟩
  have mv:∀c o,c≠z->h'.get? c=some o->h2.get? c=some o:=λc o n e=>(sb.2 c n).trans e;exact⟨.ref _,_,I2,rfl,⟨xs,ys,_,_,_,ha,hb,ex,ey,nt,rfl,rfl⟩,⟨fN,mv _ _ D.TIz (a7 _ _ D.TIz D.TITO D.TIi1 D.TIi2 s2),⟨_,_,mv _ _ D.TOz a2⟩,pU a3 λo e=>mv _ _ D.i1z e,pU a4 λo e=>mv _ _ D.i2z e⟩,i5⟩
 done:=by
  intro X hP hw hK hc i aa s σ H E I hf st hg;subst hP hw hK;obtain⟨s1,s2,⟨p,q,s3⟩,s4,s5⟩:=st;obtain⟨xs,ys,ha,hb,lt⟩:=hg;obtain⟨_,e9,n1,fR,le1,g1⟩:=I.lstM ha;obtain⟨_,ik,n2,kq,le2,g2⟩:=I.lstM hb;refine wpAny_pyNext_zip_end (I.ok.hd hc) D s1 s2 s3 s4 s5 (xs:=e9.toArray) (ys:=ik.toArray) ⟨_,g1,rfl,n1,rfl⟩ ⟨_,g2,rfl,n2,rfl⟩ (by simp;lia) λh' k=>⟨rfl,I.turnedL (ch:=[z,TO,i1,i2]) (t':=s.toks) (λb ob hb e=>?_) λb hb=>?_⟩
  .simp only[YU,UR,or_false,not_or]at hb;exact k b ob hb.1 hb.2.1 hb.2.2.1 hb.2.2.2 e
  .exact hf b (by
    simp only[YU,UR,or_false]at hb ⊢;rcases hb with h|h|h|h<;>simp[h])
 self:=λ_ _ _ _ _ ⟨s1,_⟩ h=>wpAny_pyIter_zip s1 h
section
variable{X:Cx}
theorem YF(n l1 l2:Nat)(h1:l1<n)(h2:l2<n):ZipApart (n+4) (n+2) (n+3) n (n+1) l1 l2:=by
 constructor<;>first|exact aQ (by omega)|exact US (by lia)
theorem adz(n b:Nat)(h:b=n+4\/b=n+2\/b=n+3\/b=n\/b=n+1):n<=b:=by lia
theorem boot_zip:bootBuiltins "zip"=some (.type "zip"):=by decide +kernel
def alP(ta:TA):TI:=λσ H R=>ta σ H λvs H1=>∃a b xs ys,vs=[.ref a,.ref b]/\H1 a=some (.lst xs)/\H1 b=some (.lst ys)/\R (Itz a b) H1
theorem aeM{a b:Expr}{ta:TA}{bX:List Expr}{x1}{p pos ay:Pos}(hg:Gl X "zip")(hm:X.mg "zip"=none)(ha:PA X [a,b] ta)(hs:starEach [a,b] X.env=[(false,eval a X.env),(false,eval b X.env)]:=by rfl)(eK:starEach [b] X.env=[(false,eval b X.env)]:=by rfl) :
  PI X (.Tuple bX x1 ay) (.Call (.Name "zip" p) [a,b] [] pos) (alP ta):=by
 intro aa s σ H R I h;refine Call_ (Ai I hg hm boot_zip (PyProof.Rows.callWith_type1 (thn (ha pos aa s σ H _ I h) λus s1 hP=>?_) (by rw[hs,eK]) (by rw[eK];rfl)));obtain⟨vs,H1,I1,r1,q1⟩:=hP;obtain⟨l1,l2,xs,ys,e,h1,h2,q⟩:=q1;subst e;obtain⟨u,v,rfl,ru,rv⟩:=r1.two;cases ru;cases rv;obtain⟨_,e9,n1,fR,le1,g1⟩:=I1.lstM h1;obtain⟨_,ik,n2,kq,le2,g2⟩:=I1.lstM h2;have z1:=aK g1;have z2:=aK g2;refine call_zip_2 (xs:=e9.toArray) (ys:=ik.toArray) ⟨_,g1,rfl,n1,rfl⟩ ⟨_,g2,rfl,n2,rfl⟩ λh' a1 a2 a3 a4 a5 a6 a7=>?_;refine wpAny_pyIter_zip a1 ?_;refine⟨_,[s1.heap.objs.size+4,s1.heap.objs.size+2,s1.heap.objs.size+3,s1.heap.objs.size,s1.heap.objs.size+1],_,Itz l1 l2,H1,rfl,I1.kept (t':=s1.toks) λb ob e=>a7 b ob e,ZK _ _ _ _ _ l1 l2 (YF _ _ _ z1 z2),⟨a1,a2,⟨_,_,a3⟩,a4,a5⟩,λb hb=>?_,q⟩;have fr:s1.heap.objs.size<=b:=by
  simp only[YU,UR,or_false]at hb;exact adz _ _ hb
 exact I1.fpOk fr (I1.hok.fresh fr)
end
noncomputable def rlb(sc scope:Scope):Scope:={ scope with names:=scope.names.map λ(n,k)=>if(k==NameKind.free&&sc.kind == .function&&sc.names.lookup n==some .cell)then(n,NameKind.cell)else(n,k) }
section
variable{X:Cx}
theorem W6(c:Nat):∀(n:Nat)(acc:Array Nat),((List.replicate n #[c]).foldl (· ++ ·) acc).toList=acc.toList++List.replicate n c
 |0,acc=>by simp
 |n+1,acc=>by
  rw[List.replicate_succ,List.foldl_cons,W6 c n,Array.toList_append,WZ]
  rfl
def akH:R2:=λx y H Q=>∃c n,x=.str ⟨#[c]⟩/\y=.int n/\1<=n/\n<=1000/\∀z:Str,z.cps.toList=List.replicate n.toNat c->Q (.str z) H
theorem adW:OpR X (binaryOp .Mult) akH:=by
 intro aa s σ H x y v u Q I rx ry h;obtain⟨c,n,rfl,rfl,h0,h1,q⟩:=h;obtain⟨t,rfl⟩:=rx;obtain⟨t',rfl⟩:=ry;have hi:(⟨#[c]⟩ : Str).length=1:=rfl;have made:∀z:Str,z.cps.toList=List.replicate n.toNat c->(Made.str z).post (EP X aa σ Q) s:=λz hz=>⟨by
  have:z.length=n.toNat:=by
   show z.cps.size=_;rw[<- Array.length_toList,hz,aN]
  exact aL (show z.length<=1001 by lia) (by decide),.str z,H,I.tok _,⟨_,rfl⟩,q z hz⟩
 refine PySem.P.mul_str ?_ (λ_ _=>?_) (λ_ _=>?_) ?_
 .rw[Zp (by lia),Zp (by lia)];rfl
 .rw[hi];have:1<=(2^63-1:Int)/n:=Int.le_ediv_of_mul_le (by omega) (by lia);lia
 .rw[hi];unfold Builtin.Str.tooLong;exact Zp (by
   have:n.toNat<=1000:=by lia
   have e:1000<=sizeLine:=by decide
   lia)
 .split
  .lia
  .split
   .rename_i hc
    rw[hi]at hc;have e:n.toNat=1:=by
     simp at hc;lia
    refine⟨.str ⟨#[c]⟩,H,I,⟨t,rfl⟩,q _ ?_⟩;rw[e];rfl
   .refine made _ ?_;show((List.replicate n.toNat #[c]).foldl (· ++ ·) #[]).toList=_;rw[W6];rfl
end
def Cx.compGC(X:Cx)(N':Φ)(scope:Scope)(x0:Str)(C:Addr)(s₀:Shared)(H₀:Hp)(ex:Ψ)(pn:Δ):Cx :=
 { X with env:=compEnvC scope ((x0,C+1)::vI X.env.cells scope.names []) C X.env,N:=[x0]++N',s₀:=s₀,H₀:=H₀,outer:=X.stack,ex:=ex,fn:=λz=>z==x0,pn:=pn,xe:=λ_ _=>False }
theorem zL{env:Env}{x0:Str} : ∀{names:List (Str×NameKind)}{y:Str},y≠x0->((names.map λ(n,k)=>if(k==NameKind.free&&env.scope.kind == .function&&env.kindOf n==some .cell)then(n,NameKind.cell)else(n,k)).lookup y=some .cell \/
  (names.map λ(n,k)=>if(k==NameKind.free&&env.scope.kind == .function&&env.kindOf n==some .cell)then(n,NameKind.cell)else(n,k)).lookup y=some .free)->(∀z∈names,z.2=.cell->z.1=x0)->(y,NameKind.free)∈names
 |[],y,_,h,_=>by rcases h with h|h<;>cases h
 |(n,k)::r,y,ny,h,hc=>by
  have ih:=@zL env x0 r y ny;have dq:∀z∈r,z.2=.cell->z.1=x0:=λz hz=>hc z (aJ _ hz);simp only[List.map_cons]at h;by_cases hcond:(k==NameKind.free&&env.scope.kind == .function&&env.kindOf n==some .cell)=true
  .rw[ZY hcond]at h;have hk:k=.free:=by
    simp only[Q2,beq_iff_eq]at hcond;exact hcond.1.1
   subst hk;simp only[List.lookup_cons]at h;cases hb:y==n with
   |true=>rw[show y=n by simpa using hb];exact aO
   |false=>rw[hb]at h;exact aJ _ (ih h dq)
  .rw[ZZ hcond]at h;simp only[List.lookup_cons]at h;cases hb:y==n with
   |true =>
    have e:y=n:=by simpa using hb
    rw[hb]at h;rcases h with h|h
    .cases h;exact absurd (e.trans (hc (n,.cell) aO rfl)) ny
    .cases h;rw[e];exact aO
   |false=>rw[hb]at h;exact aJ _ (ih h dq)
theorem Kd{M:Model}{A:Around}{E:Ε}{s:Shared}{scope:Scope}{globals:Addr}{bE:List (Str×Addr)}{ai:Str}{outer:Env}{x0:Str}{Q:Env->Shared->Prop}(fI:∀n acc,cellsFrom n scope.names acc=(x0,n)::acc)(fA:∀h,pushCells h scope.names=h.push { cls:=.type "cell",data:=.cell none })
 (hQ:∀g,g.Ns s.heap.objs.size (λx=>([] : List (Str×Value)).reverse.lookup x)->g.IsCell (s.heap.objs.size+1) none->(∀b o,s.heap.get? b=some o->g.get? b=some o)->Q (newEnv scope s.heap.objs.size globals ((x0,s.heap.objs.size+1)::bE) ai none .none (some outer) builtinsNs) { s with heap:=g,toks:=s.toks+([] : List (Str×Value)).length }) :
  wpAny M A (newFunctionEnv scope globals bE [] ai none .none (some outer)) Q E s:=by
 simp only[newFunctionEnv,Option.isSome_some,if_true];refine ZU (wpAny_alloc ?_);refine ZU (wpAny_layCells _ (λname kind cells=>by cases hkc:kind==NameKind.cell<;>simp[hkc]) _ _ _ _ ?_);rw[fI,fA];have z1:(s.heap.push { cls:=.type "dict",data:=.dict #[] }).objs.size=s.heap.objs.size+1:=Heap.size_push ..;show wpAny _ _ (forIn ([] : List (Str×Value)) _ _ >>= _) _ _ _;rw[List.forIn_nil];refine ZU (ZT (ZT ?_));have c1:=aW (s.heap.push { cls:=.type "dict",data:=.dict #[] }) (o:={ cls:=.type "cell",data:=.cell none }) rfl;rw[z1]at c1;show Q (newEnv scope s.heap.objs.size globals ((x0,(s.heap.push { cls:=.type "dict",data:=.dict #[] }).objs.size)::bE) ai none .none (some outer) builtinsNs) _;rw[z1];exact hQ _ ((Heap.Ns.new s.heap (.type "dict")).at' λo e=>aH _ e) ⟨_,c1,rfl⟩ λb o e=>aH _ (aH _ e)
theorem WM{x0 y:Str}{d c:Addr}(e : [(x0,d)].lookup y=some c):y=x0/\c=d:=by
 rw[List.lookup_cons]at e;cases hy:y==x0 with
 |true=>rw[hy]at e;cases e;exact⟨by simpa using hy,rfl⟩
 |false=>rw[hy]at e;cases e
theorem ext1{X:Cx}{scope:Scope}{x0:Str}(fI:∀n acc,cellsFrom n scope.names acc=(x0,n)::acc)(fA:∀h,pushCells h scope.names=h.push { cls:=.type "cell",data:=.cell none })(k8:∀y∈scope.names,y.2=.cell->y.1=x0):RB X scope [x0] (λC=>[(x0,C+1)]) (λz=>z==x0) :=
 ⟨λhQ=>Kd fI fA λg eh gX kg=>hQ g eh (λy c e=>by rw[(WM e).2];exact gX) kg,λC y c e=>by rw[(WM e).2];exact X1 _,λC y z c e1 e2=>(WM e1).1.trans (WM e2).1.symm,λC y e=>⟨C+1,by rw[beq_iff_eq.mp e];exact List.lookup_cons_self⟩,λC y e=>by
  rw[List.lookup_cons,beq_eq_false_iff_ne.mpr λz=>e (by rw[z];simp)]
  rfl,λC y e=>by
  by_cases ny:y=x0
  .exact .inl ⟨C+1,by rw[ny];exact List.lookup_cons_self⟩
  .exact .inr (zL ny e k8)⟩
section
variable{X:Cx}
def ak4:Ζ->Hp->VK->Prop:=λxs H Q=>∃(l:Addr)(bs:List Bool),xs=[.ref l]/\H l=some (.lst (bs.map V.bl))/\Q (.bl (bs.any id)) H
theorem vo:∀bs:List Bool,((List.range bs.length).any λi=>(bs[i]?).getD true)=bs.any id
 |[]=>rfl
 |b::bs=>by
  rw[List.length_cons,List.range_succ_eq_map,List.any_cons,List.any_map,List.any_cons];have:=vo bs;simp only[Function.comp_def,List.getElem?_cons_succ,List.getElem?_cons_zero,Option.getD_some,id]at this ⊢;rw[this]
theorem YB(hc:X.calm=true):i_ X (.builtin "any") ak4:=by
 intro aa s σ H xs us Q I r h;obtain⟨l,bs,rfl,hl,q⟩:=h;obtain⟨u,rfl,ru⟩:=r.one;cases ru;obtain⟨its,rv,p⟩:=I.lstIs hl;have fc:l<s.heap.objs.size:=by obtain⟨_,e,_⟩:=p;exact aK e
 refine call_any_walk (wpAny_pyIter_list p ?_);refine⟨s.heap.objs.size,[s.heap.objs.size,l],[s.heap.objs.size],its.toArray.size,_,_,λi=>(bs[i]?).getD true,rfl,Walks.list (A:=X.A.in1) (I.ok.hd hc) _ l (aQ fc) its.toArray,
  ⟨⟨_,aW _ rfl,rfl,rfl⟩,p.push _⟩,λi v s' Q' E' hP hQ=>?_,λh' tk hk=>?_⟩
 .obtain⟨b,e,rfl⟩:=Ek rv i v (by simpa using hP);simp only[e,Option.getD_some]at hQ;exact wpAny_truthy_bool hQ
 .have e:((List.range its.toArray.size).any λi=>(bs[i]?).getD true)=bs.any id:=by
   rw[aX,<- rv.length,ak];exact vo bs
  refine⟨.bl (bs.any id),H,I.kept (t':=tk) λb o q=>hk b o (λhm=>?_) (aH _ q),?_,q⟩
  .rw[YR.mp hm]at q;exact X9 _ (aK q)
  .rw[e];rfl
end
def Ite(l:Addr):It:=⟨λi H=>∃xs,H l=some (.lst xs)/\i<xs.length,λi H v H'=>∃xs x t,H l=some (.lst xs)/\xs[i]?=some x/\H t=none/\v=.ref t/\H'=upd H t (.tup [.int i,x]),λi H=>∃xs,H l=some (.lst xs)/\xs.length<=i⟩
theorem X5{P:Program}{w:World}{K:Frag}{bX:List Expr}{x1}{pos:Pos}(e it l:Addr)(gS:e≠it) :
  Turn P w K (.Tuple bX x1 pos) (Ite l) [e,it] e (λi h=>(∃old,IsEnum h e it ((i:Nat):Int) old)/\h.IsListIter it l i) where
 mem:=by simp
 obj:=by
  rintro i h ⟨⟨old,s1⟩,⟨o4,s4,_,d4⟩⟩ b hb;simp only[YU,UR,or_false]at hb;rcases hb with rfl|rfl
  .exact⟨_,s1,λv e=>by cases e⟩
  .exact⟨_,s4,λv e=>by rw[d4]at e;cases e⟩
 keep:=λi h h' ⟨⟨old,s1⟩,s4⟩ k=>⟨⟨old,k e (by simp) _ s1⟩,pU s4 (k it (by simp))⟩
 item:=by
  intro X hP hw hK hc i aa s σ H E I hf st hg;subst hP hw hK;obtain⟨⟨old,s1⟩,s4⟩:=st;obtain⟨xs,ha,kB⟩:=hg;obtain⟨_,e9,n1,fR,le1,g1⟩:=I.lstM ha;have ex:xs[i]?=some xs[i]:=aj kB;obtain⟨u,hu,ru⟩:=Ph fR ex;refine wpAny_pyNext_enum_item s1 s4 (items:=e9.toArray) ⟨_,g1,rfl,n1,rfl⟩ (x:=u) (by simpa using hu) gS λh' a1 a3 a5 a6 a7=>⟨_,rfl,?_⟩;refine wpAny_letOwnedTupleGo_enum a1 λh2 fN sb=>?_;have nt:H s.heap.objs.size=none:=I.fresh;have I1:=I.laid (a:=s.heap.objs.size) (o:=.tup [.int i,xs[i]]) (h':=s.heap.push { cls:=.type "tuple",data:=.seq #[.int i s.toks,u] }) (t':=s.toks+1) (λb q z=>aH _ z) (aG _)
   ⟨(by show 2<=sizeLine;decide),[.int i s.toks,u],.cons ⟨_,rfl⟩ (.cons ru .nil),_,aW _ rfl,rfl,_,rfl⟩
  have nz:e≠s.heap.objs.size:=aQ (aK s1);have kz:it≠s.heap.objs.size:=by obtain⟨o,e,_⟩:=s4;exact aQ (aK e)
  have i5:∀b∈[e,it],upd H s.heap.objs.size (.tup [.int i,xs[i]]) b=none:=by
   intro b hb;have f0:=(hf b hb).1;simp only[YU,UR,or_false]at hb;rcases hb with rfl|rfl
   .exact(cD nz).trans f0
   .exact(cD kz).trans f0
  have I2:=I1.turnedL (ch:=[e,it]) (h':=h2) (t':=s.toks+1) (λb ob hb z=>by
   simp only[YU,UR,or_false,not_or]at hb;obtain⟨b1,b3⟩:=hb;refine(sb.2 b b1).trans ?_;by_cases hs:b=s.heap.objs.size
   .subst hs;have e2:=aW s.heap (o:={ cls:=.type "tuple",data:=.seq #[.int i s.toks,u] }) rfl;have z:(s.heap.push { cls:=.type "tuple",data:=.seq #[.int i s.toks,u] }).get? s.heap.objs.size=some ob:=z;rw[e2]at z;cases z;exact a5
   .exact a7 b _ b1 b3 (Lg z hs)) λb hb=>⟨i5 b hb,(hf b hb).2⟩
  have mv:∀c o,c≠e->h'.get? c=some o->h2.get? c=some o:=λc o n z=>(sb.2 c n).trans z;exact⟨.ref _,_,I2,rfl,⟨xs,_,_,ha,ex,nt,rfl,rfl⟩,⟨⟨_,by rw[Int.natCast_add];exact fN⟩,pU a3 λo z=>mv _ _ (λy=>gS y.symm) z⟩,i5⟩
 done:=by
  intro X hP hw hK hc i aa s σ H E I hf st hg;subst hP hw hK;obtain⟨⟨old,s1⟩,s4⟩:=st;obtain⟨xs,ha,lt⟩:=hg;obtain⟨_,e9,n1,fR,le1,g1⟩:=I.lstM ha;have hl:=fR.length;refine wpAny_pyNext_enum_end (I.ok.hd hc) s1 s4 (items:=e9.toArray) ⟨_,g1,rfl,n1,rfl⟩ (by simp;lia) λh' k=>⟨rfl,I.turnedL (ch:=[e,it]) (t':=s.toks) (λb ob hb z=>?_) hf⟩;simp only[YU,UR,or_false,not_or]at hb;exact k b ob hb.2 z
 self:=λ_ _ _ _ _ ⟨⟨_,s1⟩,_⟩ h=>wpAny_pyIter_enum s1 h
section
variable{X:Cx}
def ah0(ta:TA):TI:=λσ H R=>ta σ H λvs H1=>∃a xs,vs=[.ref a]/\H1 a=some (.lst xs)/\R (Ite a) H1
theorem acZ{a:Expr}{ta:TA}{bX:List Expr}{x1}{p pos ay:Pos}(hg:Gl X "enumerate")(hm:X.mg "enumerate"=none)(ha:PA X [a] ta)(hs:starEach [a] X.env=[(false,eval a X.env)]:=by rfl) :
  PI X (.Tuple bX x1 ay) (.Call (.Name "enumerate" p) [a] [] pos) (ah0 ta):=by
 intro aa s σ H R I h;refine Call_ (Ai I hg hm boot_enumerate (PyProof.Rows.callWith_type1 (thn (ha pos aa s σ H _ I h) λus s1 hP=>?_) (by rw[hs];rfl) (by rfl)));obtain⟨vs,H1,I1,r1,q1⟩:=hP;obtain⟨l1,xs,e,h1,q⟩:=q1;subst e;obtain⟨u,rfl,ru⟩:=r1.one;cases ru;obtain⟨_,e9,n1,fR,le1,g1⟩:=I1.lstM h1;refine call_enumerate_list (items:=e9.toArray) ⟨_,g1,rfl,n1,rfl⟩ λh' a1 a2 a3 a7=>?_;refine wpAny_pyIter_enum a1 ?_;refine⟨_,[s1.heap.objs.size+1,s1.heap.objs.size],_,Ite l1,H1,rfl,I1.kept (t':=s1.toks) λb ob e=>a7 b ob e,X5 _ _ l1 (Nat.succ_ne_self _),⟨⟨_,a1⟩,a2⟩,λb hb=>?_,q⟩;have fr:s1.heap.objs.size<=b:=by
  simp only[YU,UR,or_false]at hb;rcases hb with z|z
  .rw[z];exact Xs _
  .rw[z];exact aG _
 exact I1.fpOk fr (I1.hok.fresh fr)
end
noncomputable def out(H:Hp)(a:Addr):Hp:=λb=>if b=a then none else H b
theorem fsc{N P:Φ}{sc:Scope}(h1:sc.kind=.function:=by rfl)(h2:sc.isCoroutine=false:=by rfl)(h3:sc.isGenerator=false:=by rfl)(h4:N.Nodup/\(∀x∈P,sc.names.lookup x=some .local\/sc.names.lookup x=some .cell)/\∀y∈sc.names,y.2≠.free:=by decide +kernel)(h5:N.take P.length=P:=by rfl):bK N P sc:=⟨h1,h2,h3,h4.1,h5,h4.2.1,h4.2.2⟩
abbrev CK0(sc scope:Scope)(N N' xs:Φ):Prop:=Lj xs N=N'/\(∀y∈scope.names,y.2=.local->scope.names.lookup y.1=some .local)/\(∀y∈scope.names,y.2=.free->sc.names.lookup y.1=some .cell\/sc.names.lookup y.1=some .free) /\
 (∀y∈N,y∉xs->(scope.names.map λ(n,k)=>if(k==NameKind.free&&sc.kind == .function&&sc.names.lookup n==some .cell)then(n,NameKind.cell)else(n,k)).lookup y≠some .local)/\∀y∈N,y∈xs->(scope.names.map λ(n,k)=>if(k==NameKind.free&&sc.kind == .function&&sc.names.lookup n==some .cell)then(n,NameKind.cell)else(n,k)).lookup (hid y)=none
abbrev CK(sc scope:Scope)(N N' xs:Φ):Prop:=(∀y∈scope.names,y.2≠.cell)/\CK0 sc scope N N' xs
section
variable{X:Cx}{aS iter tg:Expr}{pos:Pos}{scope:Scope}{wi:TI}{te:TE}{aE:List Expr}{gt:TG}{tc:TT}
theorem aa9(sc:Scope)(N N' xs:Φ)(hi:PI X tg iter wi)(hg:∀{C s₀ H₀ ex pn},PG (X.compG N' scope xs C s₀ H₀ ex pn) tg gt)(ht:∀{C s₀ H₀ ex pn},PTs (X.compG N' scope xs C s₀ H₀ ex pn) aE tc)(he:∀{C s₀ H₀ ex pn},PE (X.compG N' scope xs C s₀ H₀ ex pn) aS te)
 (cx:X.env.scope=sc:=by rfl)(cS:X.N=N:=by rfl)(hc:X.calm=true:=by rfl)(hk:scope.kind=.function:=by rfl)(h:CK sc scope N N' xs:=by decide +kernel)(hs:∀z,foldedSetIterable iter X.env z=pure z:=by intro _;rfl):PE X (.ListComp aS [⟨tg,iter,aE,0⟩] scope pos) (rR wi xs.length (tMG gt) (tMT tc) (tM te)) :=
 by
 subst cx cS;exact R6 (ahX hk h.1) hc h.2.1 hk h.2.2.1 h.2.2.2.1 h.2.2.2.2.1 h.2.2.2.2.2 hi (λ_ _ _ _ _=>hg.mono) (λ_ _ _ _ _=>ht.mono) (λ_ _ _ _ _=>he.mono) hs
theorem Z0{i0:Nat}{y0:Str}{py b7:Pos}(sc:Scope)(N N' xs:Φ)(hi:PI X tg iter wi)(hg:∀{C s₀ H₀ ex pn},PG (X.compG N' scope xs C s₀ H₀ ex pn) tg gt)(ht:∀{C s₀ H₀ ex pn},PTs (X.compG N' scope xs C s₀ H₀ ex pn) aE tc)(he:∀{C s₀ H₀ ex pn},PE (X.compG N' scope xs C s₀ H₀ ex pn) aS te)(fF:PG X (.Name y0 py) (zU i0))
 (cx:X.env.scope=sc:=by rfl)(cS:X.N=N:=by rfl)(hc:X.calm=true:=by rfl)(hk:scope.kind=.function:=by rfl)(h:CK sc scope N N' xs:=by decide +kernel)(fy:swapsWith (.ListComp aS [⟨tg,iter,aE,0⟩] scope pos) (some (.Name y0 py)) b7.line X.env=pure true:=by rfl)(hs:∀z,foldedSetIterable iter X.env z=pure z:=by intro _;rfl) :
  PS X (.Assign [.Name y0 py] (.ListComp aS [⟨tg,iter,aE,0⟩] scope pos) b7) (ab2 (rR wi xs.length (tMG gt) (tMT tc) (tM te)) (zU i0)) :=
 by
 subst cx cS;exact Zz (ahX hk h.1) hc h.2.1 hk h.2.2.1 h.2.2.2.1 h.2.2.2.2.1 h.2.2.2.2.2 hi (λ_ _ _ _ _=>hg.mono) (λ_ _ _ _ _=>ht.mono) (λ_ _ _ _ _=>he.mono) fF fy hs
theorem abj(sc:Scope)(N N':Φ)(x0:Str)(hi:PI X tg iter wi)(hg:∀{C s₀ H₀ ex pn},PG (X.compGC N' scope x0 C s₀ H₀ ex pn) tg gt)(ht:∀{C s₀ H₀ ex pn},PTs (X.compGC N' scope x0 C s₀ H₀ ex pn) aE tc)(he:∀{C s₀ H₀ ex pn},PE (X.compGC N' scope x0 C s₀ H₀ ex pn) aS te)
 (cx:X.env.scope=sc:=by rfl)(cS:X.N=N:=by rfl)(hc:X.calm=true:=by rfl)(hk:scope.kind=.function:=by rfl)(fI:∀n acc,cellsFrom n scope.names acc=(x0,n)::acc:=by intro _ _;rfl)(fA:∀h,pushCells h scope.names=h.push { cls:=.type "cell",data:=.cell none }:=by intro _;rfl)(h:(∀y∈scope.names,y.2=.cell->y.1=x0)/\CK0 sc scope N N' [x0]:=by decide +kernel)(hs:∀z,foldedSetIterable iter X.env z=pure z:=by intro _;rfl):PE X (.ListComp aS [⟨tg,iter,aE,0⟩] scope pos) (rR wi 1 (tMG gt) (tMT tc) (tM te)):=by
 subst cx cS;exact R6 (ext1 fI fA h.1) hc h.2.1 hk h.2.2.1 h.2.2.2.1 h.2.2.2.2.1 h.2.2.2.2.2 hi (λ_ _ _ _ _=>hg.mono) (λ_ _ _ _ _=>ht.mono) (λ_ _ _ _ _=>he.mono) hs
theorem aeZ{N0:Φ}{x0:Str}{sO:Scope}{C0:Addr}{s0:Shared}{H0:Hp}{eB:Ψ}{dP:Δ}(sc:Scope)(N N' xs:Φ)(hi:PI (X.compGC N0 sO x0 C0 s0 H0 eB dP) tg iter wi)(hg:∀{C s₀ H₀ ex pn},PG ((X.compGC N0 sO x0 C0 s0 H0 eB dP).compG N' scope xs C s₀ H₀ ex pn) tg gt)(ht:∀{C s₀ H₀ ex pn},PTs ((X.compGC N0 sO x0 C0 s0 H0 eB dP).compG N' scope xs C s₀ H₀ ex pn) aE tc)(he:∀{C s₀ H₀ ex pn},PE ((X.compGC N0 sO x0 C0 s0 H0 eB dP).compG N' scope xs C s₀ H₀ ex pn) aS te)
 (cx:X.env.scope=sc:=by rfl)(cS : [x0]++N0=N:=by rfl)(hc:X.calm=true:=by rfl)(hk:scope.kind=.function:=by rfl)(h:CK (rlb sc sO) scope N N' xs:=by decide +kernel)(hs:∀z,foldedSetIterable iter (X.compGC N0 sO x0 C0 s0 H0 eB dP).env z=pure z:=by intro _;rfl):PE (X.compGC N0 sO x0 C0 s0 H0 eB dP) (.ListComp aS [⟨tg,iter,aE,0⟩] scope pos) (rR wi xs.length (tMG gt) (tMT tc) (tM te)):=by
 subst cx cS;exact aa9 (X:=X.compGC N0 sO x0 C0 s0 H0 eB dP) (rlb X.env.scope sO) _ N' xs hi hg ht he rfl rfl hc hk h hs
end
theorem ah8{K:Frag}{a:Addr}{i j:Int}{d:Ξ}{n:Nat}{sl:Array (Ω)}{t u:Tok}(l:K.lookup a=some ⟨.type "tuple",d,.seq #[.int i t,.int j u] n,sl⟩):∀H,SqT K H a [.int i,.int j]:=λH=>.inr ⟨_,_,_,l,rfl,rfl,(by show 2<=sizeLine;decide),.cons ⟨_,rfl⟩ (.cons ⟨_,rfl⟩ .nil)⟩
theorem amw{K:Frag}{h:Heap}{mg:Str->Ω}{x:Str}{i:Int}{t:Tok}(X:K.In h)(G:h.Ns mainGlobals mg)(l:nsIn K mainGlobals x=some (some (.int i t))):∃u,mg x=some u/\RelV (.int i) u:=⟨_,mg_of X G l,_,rfl⟩
def Lst:Nat->(Θ->Prop)->Prop
 |0,P=>P []
 |n+1,P=>∀a,Lst n λl=>P (a::l)
theorem Ol:∀(n:Nat){P:Θ->Prop},Lst n P->∀us:Θ,us.length=n->P us
 |0,_,h,[],_=>h
 |n+1,_,h,a::l,e=>Ol n (h a) l (Nat.succ.inj e)
section
variable{K:Frag}{h:Heap}{mg:Str->Ω}{x m ai:Str}{v:Value}{C f:Addr}{st:Stmt}{ps:Φ}{oc:Value}{od an:Ξ}{dQ:Array (Ω)}{kV bv pm af ct:Value}{i j:Int}{d:Ξ}{n:Nat}{sl:Array (Ω)}{t u:Tok}
theorem q_c(X:K.In h:=by assumption)(G:h.Ns mainGlobals mg:=by assumption)(e:nsIn K mainGlobals x=some (some v):=by k_is):mg x=some v:=mg_of X G e
theorem q_z(X:K.In h:=by assumption)(G:h.Ns mainGlobals mg:=by assumption)(e:nsIn K mainGlobals x=some none:=by k_is):mg x=none:=PySem.W.mg_none_of X G e
theorem q_n(e:findIn K (.ref C) x=some none:=by k_is):cA K C x:=e
theorem q_m(a:findIn K (.ref C) m=some (some (.ref f)):=by k_is)(b:isFn K (.ref f)=true:=by k_is)(c:keepIn K (.ref f)=true:=by k_is):Meth K C m f:=⟨a,b,c⟩
theorem q_M(a:makesIn K C=true:=by k_is)(b:findIn K (.ref C) "__init__"=some (some (.ref f)):=by k_is)(c:isFn K (.ref f)=true:=by k_is)(e:keepIn K (.ref C)=true:=by k_is):Mk K C f:=⟨a,b,c,e⟩
theorem q_4(a:plainGet K C Str.empty=true:=by k_is)(b:hasDictIn K C=true:=by k_is)(c:plainOver K C=true:=by k_is)(e:findIn K (.ref C) "__setattr__"=some (some (.builtin "object.__setattr__")):=by k_is):Cls K C:=⟨a,b,c,e⟩
theorem q_B(a:specialIn K (.ref C) "__getattribute__"=some (some (.builtin "type.__getattribute__")):=by k_is)(b:readsIn K C (.type "type")=true:=by k_is)(c:findCls K (.ref C) (.type "type") m=some (.val (.ref f)):=by k_is)(e:keepIn K (.ref f)=true:=by k_is):Fw K C m f:=⟨a,b,c,rfl,e⟩
theorem q_g(X:K.In h:=by assumption)(G:h.Ns mainGlobals mg:=by assumption)(l:nsIn K mainGlobals x=some (some (.int i t)):=by k_is):∃u,mg x=some u/\RelV (.int i) u:=amw X G l
theorem q_t(l:K.lookup C=some ⟨.type "tuple",d,.seq #[.int i t,.int j u] n,sl⟩:=by k_is):∀H,SqT K H C [.int i,.int j]:=ah8 l
theorem q_f(N:Nat)(hb:∀(kV bv pm:Value)(an:Ξ)(af ct:Value),Lst N λus=>bindArgs (PySem.W.fnOf x x (iR st) (fK st) (bH st) .none kV bv pm an af ct) ⟨us,[]⟩=pure (ps.zip us))(hN:ps.length=N:=by rfl)(X:K.In h:=by assumption)(G:h.Ns mainGlobals mg:=by assumption)
 (a:nsIn K mainGlobals x=some (some (.ref f)):=by k_is)(l:K.lookup f=some ⟨oc,od,.func (PySem.W.fnOf x x (iR st) (fK st) (bH st) .none kV bv pm an af ct),dQ⟩:=by k_is)
 (c:codeIn K af x=true:=by k_is)(k:keepIn K (.ref f)=true:=by k_is):cJ K mg x st ps:=ada X G a l c k λkV bv pm an af ct us e=>Ol N (hb kV bv pm an af ct) us (e.trans hN)
theorem q_h(N:Nat)(hb:∀(kV bv pm:Value)(an:Ξ)(af ct:Value),Lst N λus=>bindArgs (PySem.W.fnOf x ai (iR st) (fK st) (bH st) .none kV bv pm an af ct) ⟨us,[]⟩=pure (ps.zip us))(hN:ps.length=N:=by rfl)
 (l:K.lookup f=some ⟨oc,od,.func (PySem.W.fnOf x ai (iR st) (fK st) (bH st) .none kV bv pm an af ct),dQ⟩:=by k_is)(c:codeIn K af ai=true:=by k_is)(k:keepIn K (.ref f)=true:=by k_is):Ay K x ai st ps f:=adQ l c k λkV bv pm an af ct us e=>Ol N (hb kV bv pm an af ct) us (e.trans hN)
end
section
variable{X:Cx}{es:List Expr}{t:TA}{pos:Pos}
def ajR:R2:=λx y H Q=>∃l b xs zs,x=.ref l/\y=.ref b/\H l=some (.lst xs)/\H b=some (.lst zs)/\xs.length+zs.length<=sizeLine/\∀p H',Same H H'->H p=none->H' p=some (.lst (xs++zs))->Q (.ref p) H'
theorem adp:OpR X (binaryOp .Add) ajR:=ae9.imp λx y H Q hP=>by obtain⟨l,b,xs,zs,e1,e2,h1,h2,z,q⟩:=hP;exact⟨l,b,xs,zs,e1,e2,h1,h2,z,λp hp=>q p _ (Same.upd hp) hp cM⟩
end
section
variable{X:Cx}{k:Nat}{f C B:Addr}{ps:Φ}{sp:Sp}{x m:Str}{p pos am:Pos}{e:Expr}{es:List Expr}{t:TA}
def agO(C:Addr)(sp:Sp)(t:TA):TE:=λσ H Q=>t σ H λvs H1=>∀x dx,H1 x=none->H1 dx=none->dx≠x->sp (.ref x::vs) (upd (upd H1 dx (.own x)) x (.ins C dx [])) (λv H2=>v=.non/\Q (.ref x) H2) E0
theorem aaw(M:Mk X.K C f)(G:OkI X.prog X.w X.K X.mg X.base CX0 k f ps sp)(hr:fB (k+1) X.A)(hg:Gl X x)(hm:X.mg x=some (.ref C))(ha:PA X (e::es) t)(cc:(x==("__debug__":Str))=false:=by decide)
 (he:starEach (e::es) X.env=(false,eval e X.env)::starEach es X.env:=by rfl)(bg:(backTo pos (starEach es X.env)).any (·.1)=false:=by rfl):PE X (.Call (.Name x p) (e::es) [] pos) (agO C sp t):=by
 obtain⟨fd,F,hb⟩:=G;refine(adN M F hr hg hm hb .nil Rv ha.mono cc he bg).imp λσ H Q h=>⟨_,h,λvs H1 q x dx h1 h2 h3=>?_⟩;rw[List.append_nil];exact q x dx h1 h2 h3
theorem aag{pl:Sem Bool}(c:Fw X.K B m f)(G:OkI X.prog X.w X.K X.mg X.base CX0 k f ps sp)(hr:fB k X.A)(hg:Gl X x)(hm:X.mg x=some (.ref B))(ha:PA X (e::es) t)(cc:(x==("__debug__":Str))=false:=by decide)
 (b8:starEach (e::es) X.env=(false,eval e X.env)::starEach es X.env:=by rfl)(bg:(backTo pos (starEach es X.env)).any (·.1)=false:=by rfl)
 (ht:eval (.Call (.Attribute (.Name x p) m am) (e::es) [] pos) X.env=(do
   let ov <- eval (.Name x p) X.env
   standAt am.atName
   let(f,first) <- holding [ov] (getMethod ov m pl)
   callWith pos f first (backTo pos (starEach (e::es) X.env)) (backToKw pos (keywordEach [] X.env))):=by rfl) :
  PE X (.Call (.Attribute (.Name x p) m am) (e::es) [] pos) (T8 sp t):=by
 obtain⟨fd,F,hb⟩:=G;exact adF (pl:=pl) c F hr hg hm hb ha cc b8 bg ht
end
inductive T where
 |any|non|bl (b:Bool)|int (i:Int)|str (s:Str)|val (v:V)
 |tup (ts:List T)|lst (ts:List T)|scr (ts:List T)
 |dct (ks:List Key) (ts:List T)|ins (C:Addr) (ks:Φ) (ts:List T)
mutual
inductive Rep(K:Frag)(F:Hp):V->T->Prop
 |any (v:V):Rep K F v .any
 |non:Rep K F .non .non
 |bl (b:Bool):Rep K F (.bl b) (.bl b)
 |int (i:Int):Rep K F (.int i) (.int i)
 |str (s:Str):Rep K F (.str s) (.str s)
 |val (v:V):Rep K F v (.val v)
 |tup {a:Addr}{xs:Ζ}{ts:List T} : SqT K F a xs->bZ K F xs ts->Rep K F (.ref a) (.tup ts)
 |lst {a:Addr}{xs:Ζ}{ts:List T} : F a=some (.lst xs)->bZ K F xs ts->Rep K F (.ref a) (.lst ts)
 |scr {a:Addr}{xs:Ζ}{ts:List T} : SqL K F a xs->bZ K F xs ts->Rep K F (.ref a) (.scr ts)
 |dct {a:Addr}{ks:List Key}{xs:Ζ}{ts:List T} : Rd F a (.dK (ks.zip xs))->ks.length=xs.length->bZ K F xs ts->Rep K F (.ref a) (.dct ks ts)
 |ins {a C dx:Addr}{ks:Φ}{xs:Ζ}{ts:List T} : F a=some (.ins C dx (ks.zip xs))->F dx=some (.own a)->ks.length=xs.length->bZ K F xs ts->Rep K F (.ref a) (.ins C ks ts)
inductive bZ(K:Frag)(F:Hp):Ζ->List T->Prop
 |nil:bZ K F [] []
 |cons {x:V}{xs:Ζ}{t:T}{ts:List T} : Rep K F x t->bZ K F xs ts->bZ K F (x::xs) (t::ts)
end
section
variable{K:Frag}{F F' H H':Hp}
theorem Same.rd{a:Addr}{u:HO}(S:Same F F')(h:Rd F a u):Rd F' a u:=h.imp (S _ _) λhP=>by obtain⟨o,e⟩:=hP;exact⟨o,S _ _ e⟩
mutual
theorem Rep.same(S:Same F F'):∀{x:V}{t:T},Rep K F x t->Rep K F' x t
 |_,_,.any v=>.any v
 |_,_,.non=>.non
 |_,_,.bl b=>.bl b
 |_,_,.int i=>.int i
 |_,_,.str s=>.str s
 |_,_,.val v=>.val v
 |_,_,.tup e h=>.tup (S.tup e) (bZ.same S h)
 |_,_,.lst e h=>.lst (S _ _ e) (bZ.same S h)
 |_,_,.scr e h=>.scr (S.seq e) (bZ.same S h)
 |_,_,.dct e l h=>.dct (S.rd e) l (bZ.same S h)
 |_,_,.ins e d l h=>.ins (S _ _ e) (S _ _ d) l (bZ.same S h)
theorem bZ.same(S:Same F F'):∀{xs:Ζ}{ts:List T},bZ K F xs ts->bZ K F' xs ts
 |_,_,.nil=>.nil
 |_,_,.cons h t=>.cons (Rep.same S h) (bZ.same S t)
end
theorem Rep.lstI{x:V}{ts:List T}(h:Rep K F x (.lst ts)):∃a xs,x=.ref a/\F a=some (.lst xs)/\bZ K F xs ts:=by cases h;exact⟨_,_,rfl,by assumption,by assumption⟩
theorem Rep.tupI{x:V}{ts:List T}(h:Rep K F x (.tup ts)):∃a xs,x=.ref a/\SqT K F a xs/\bZ K F xs ts:=by cases h;exact⟨_,_,rfl,by assumption,by assumption⟩
theorem Rep.scrI{x:V}{ts:List T}(h:Rep K F x (.scr ts)):∃a xs,x=.ref a/\SqL K F a xs/\bZ K F xs ts:=by cases h;exact⟨_,_,rfl,by assumption,by assumption⟩
theorem Rep.dctI{x:V}{ks:List Key}{ts:List T}(h:Rep K F x (.dct ks ts)):∃a xs,x=.ref a/\Rd F a (.dK (ks.zip xs))/\ks.length=xs.length/\bZ K F xs ts:=by cases h;exact⟨_,_,rfl,by assumption,by assumption,by assumption⟩
theorem Rep.insI{x:V}{C:Addr}{ks:Φ}{ts:List T}(h:Rep K F x (.ins C ks ts)):∃a dx xs,x=.ref a/\F a=some (.ins C dx (ks.zip xs))/\F dx=some (.own a)/\ks.length=xs.length/\bZ K F xs ts:=by cases h;exact⟨_,_,_,rfl,by assumption,by assumption,by assumption,by assumption⟩
theorem bZ.len:∀{xs:Ζ}{ts:List T},bZ K F xs ts->xs.length=ts.length
 |_,_,.nil=>rfl
 |_,_,.cons _ t=>ZH (· + 1) (bZ.len t)
theorem bZ.app:∀{xs ys:Ζ}{ts us:List T},bZ K F xs ts->bZ K F ys us->bZ K F (xs++ys) (ts++us)
 |_,_,_,_,.nil,h=>h
 |_,_,_,_,.cons a b,h=>.cons a (bZ.app b h)
theorem bZ.at_:∀{xs:Ζ}{ts:List T}{i:Nat}{t:T},bZ K F xs ts->ts[i]?=some t->∃x,xs[i]?=some x/\Rep K F x t
 |_,_,_,_,.nil,e=>by cases e
 |_,_,0,_,.cons a _,e=>by cases e;exact⟨_,rfl,a⟩
 |_,_,i+1,_,.cons _ b,e=>by
  obtain⟨x,q,r⟩:=bZ.at_ (i:=i) b (by simpa using e);exact⟨x,by simpa using q,r⟩
theorem bZ.of_at:∀{xs:Ζ}{ts:List T},xs.length=ts.length->(∀(i:Nat)x t,xs[i]?=some x->ts[i]?=some t->Rep K F x t)->bZ K F xs ts
 |[],[],_,_=>.nil
 |x::xs,t::ts,l,h=>.cons (h 0 x t rfl rfl) (bZ.of_at (Nat.succ.inj l) λi y u e1 e2=>h (i+1) y u e1 e2)
 |[],_::_,l,_=>by cases l
 |_::_,[],l,_=>by cases l
theorem bZ.set{x:V}{t:T}(r:Rep K F x t):∀{xs:Ζ}{ts:List T}(i:Nat),bZ K F xs ts->bZ K F (xs.set i x) (ts.set i t)
 |_,_,_,.nil=>.nil
 |_,_,0,.cons _ h=>.cons r h
 |_,_,i+1,.cons a h=>.cons a (bZ.set r i h)
theorem bZ.take:∀{xs:Ζ}{ts:List T}(n:Nat),bZ K F xs ts->bZ K F (xs.take n) (ts.take n)
 |_,_,0,_=>.nil
 |_,_,_+1,.nil=>.nil
 |_,_,n+1,.cons a h=>.cons a (bZ.take n h)
theorem bZ.drop:∀{xs:Ζ}{ts:List T}(n:Nat),bZ K F xs ts->bZ K F (xs.drop n) (ts.drop n)
 |_,_,0,h=>h
 |_,_,_+1,.nil=>.nil
 |_,_,n+1,.cons _ h=>bZ.drop n h
noncomputable def hd(S:Addr->Prop)(H:Hp):Hp:=λb=>open Classical in if S b then none else H b
theorem pY{S:Addr->Prop}{b:Addr}(h:S b):hd S H b=none:=by unfold hd;rw[ZY h]
theorem cU{S:Addr->Prop}{b:Addr}(h:¬S b):hd S H b=H b:=by unfold hd;rw[ZZ h]
theorem cW{S:Addr->Prop}{b:Addr}{o:HO}(e:hd S H b=some o):¬S b/\H b=some o:=by
 by_cases h:S b
 .rw[pY h]at e;cases e
 .rw[cU h]at e;exact⟨h,e⟩
theorem g8{S S':Addr->Prop}(i:∀b,S' b->S b\/H b=none)(e:Same H H'):Same (hd S H) (hd S' H'):=λb o h=>by
 obtain⟨n,h⟩:=cW h;rw[cU λz=>?_]
 .exact e _ _ h
 .rcases i b z with y|y
  .exact n y
  .rw[h]at y;cases y
theorem dI{S:Addr->Prop} : Same (hd S H) H:=λ_ _ h=>(cW h).2
theorem bV{S:Addr->Prop}(e:Same H H'):Same (hd S H) (hd S H'):=g8 (λ_=>.inl) e
theorem Xc:hd (λ_=>False) H=H:=funext λ_=>cU id
inductive OT where
 |und|fz (t:T)|l1 (ts:List T)|l2 (ar:List (List T))|d1 (ks:List Key) (ts:List T)|ob (a dx C:Addr) (ks:Φ) (ts:List T)|la (a:Addr) (ts:List T)
noncomputable def frz:OT->T
 |.und=>.any
 |.fz t=>t
 |.l1 ts=>.lst ts
 |.l2 ar=>.lst (ar.map T.lst)
 |.d1 ks ts=>.dct ks ts
 |.ob _ _ C ks ts=>.ins C ks ts
 |.la _ ts=>.lst ts
def Slo(K:Frag)(F H:Hp)(v:Option V)(A:Ψ):OT->Prop
 |.und=>A=[]
 |.fz t=>A=[]/\∃u,v=some u/\Rep K F u t
 |.l1 ts=>∃a xs,v=some (.ref a)/\A=[a]/\H a=some (.lst xs)/\bZ K F xs ts
 |.l2 ar=>∃a bs,v=some (.ref a)/\A=a::bs/\(a::bs).Nodup/\H a=some (.lst (bs.map V.ref))/\bs.length=ar.length/\∀(i:Nat)b ts,bs[i]?=some b->ar[i]?=some ts->∃xs,H b=some (.lst xs)/\bZ K F xs ts
 |.d1 ks ts=>∃a xs,v=some (.ref a)/\A=[a]/\H a=some (.dK (ks.zip xs))/\ks.length=xs.length/\bZ K F xs ts
 |.ob a dx C ks ts=>∃xs,v=some (.ref a)/\A=[a,dx]/\H a=some (.ins C dx (ks.zip xs))/\H dx=some (.own a)/\ks.length=xs.length/\bZ K F xs ts
 |.la a ts=>∃xs,v=some (.ref a)/\A=[a]/\H a=some (.lst xs)/\bZ K F xs ts
theorem Slo.same{v:Option V}{A:Ψ}(S:Same F F')(E:Same H H'):∀{x:OT},Slo K F H v A x->Slo K F' H' v A x
 |.und,h=>h
 |.fz _,⟨a,u,e,r⟩=>⟨a,u,e,r.same S⟩
 |.l1 _,⟨a,xs,e,z,h,r⟩=>⟨a,xs,e,z,E _ _ h,r.same S⟩
 |.l2 _,⟨a,bs,e,z,n,h,l,r⟩=>⟨a,bs,e,z,n,E _ _ h,l,λi b ts e1 e2=>let⟨xs,q,r⟩:=r i b ts e1 e2;⟨xs,E _ _ q,r.same S⟩⟩
 |.d1 _ _,⟨a,xs,e,z,h,l,r⟩=>⟨a,xs,e,z,E _ _ h,l,r.same S⟩
 |.ob _ _ _ _ _,⟨xs,e,z,h,d,l,r⟩=>⟨xs,e,z,E _ _ h,E _ _ d,l,r.same S⟩
 |.la _ _,⟨xs,e,z,h,r⟩=>⟨xs,e,z,E _ _ h,r.same S⟩
theorem Slo.off{v:Option V}{A:Ψ} : ∀{x:OT},Slo K F H v A x->(∀b∈A,∀u,H b=some u->H' b=some u)->Slo K F H' v A x
 |.und,s,_=>s
 |.fz _,s,_=>s
 |.l1 _,⟨a,xs,e,z,w,r⟩,off=>⟨a,xs,e,z,off a (by rw[z];simp) _ w,r⟩
 |.l2 _,⟨a,bs,e,z,nd,w,l,r⟩,off=>⟨a,bs,e,z,nd,off a (by rw[z];simp) _ w,l,λi b ts e1 e2=>let⟨xs,q,r⟩:=r i b ts e1 e2;⟨xs,off b (by rw[z];exact aJ _ (aC e1)) _ q,r⟩⟩
 |.d1 _ _,⟨a,xs,e,z,w,r⟩,off=>⟨a,xs,e,z,off a (by rw[z];simp) _ w,r⟩
 |.ob a dx _ _ _,⟨xs,e,z,w,d,r⟩,off=>⟨xs,e,z,off a (by rw[z];simp) _ w,off dx (by rw[z];simp) _ d,r⟩
 |.la a _,⟨xs,e,z,w,r⟩,off=>⟨xs,e,z,off a (by rw[z];simp) _ w,r⟩
def ZV(H:Hp)(a:Addr):Prop:=∃o,H a=some o/\((∃xs,o=.lst xs)\/(∃k,o=.dK k)\/(∃C d f,o=.ins C d f)\/∃x,o=.own x)
theorem Slo.sole{v:Option V}{A:Ψ}{x:OT}(h:Slo K F H v A x){a:Addr}(ha:a∈A):ZV H a:=by
 cases x with
 |und=>rw[show A=[]from h]at ha;cases ha
 |fz t=>rw[h.1]at ha;cases ha
 |l1 ts=>obtain⟨b,xs,_,rfl,e,_⟩:=h;cases YR.mp ha;exact⟨_,e,.inl ⟨_,rfl⟩⟩
 |l2 ar =>
  obtain⟨b,bs,_,rfl,_,e,l,r⟩:=h;rcases YU.mp ha with z|z
  .exact⟨_,z ▸ e,.inl ⟨_,rfl⟩⟩
  .obtain⟨i,hi⟩:=aV z;have li:i<ar.length:=l ▸ (ao.mp hi).1;obtain⟨xs,q,_⟩:=r i a _ hi (aj li);exact⟨_,q,.inl ⟨_,rfl⟩⟩
 |d1 ks ts=>obtain⟨b,xs,_,rfl,e,_⟩:=h;cases YR.mp ha;exact⟨_,e,.inr (.inl ⟨_,rfl⟩)⟩
 |ob b dx C ks ts =>
  obtain⟨xs,_,rfl,e,d,_⟩:=h;rcases YU.mp ha with z|z
  .exact⟨_,z ▸ e,.inr (.inr (.inl ⟨_,_,_,rfl⟩))⟩
  .cases YR.mp z;exact⟨_,d,.inr (.inr (.inr ⟨_,rfl⟩))⟩
 |la b ts=>obtain⟨xs,_,rfl,e,_⟩:=h;cases YR.mp ha;exact⟨_,e,.inl ⟨_,rfl⟩⟩
theorem Slo.frz{u:V}{A:Ψ}{x:OT}(h:Slo K F H (some u) A x)(S:Same F F')(E:∀a∈A,F' a=H a):Rep K F' u (frz x):=by
 cases x with
 |und=>exact .any _
 |fz t=>obtain⟨_,w,e,r⟩:=h;cases e;exact r.same S
 |l1 ts=>obtain⟨b,xs,e,rfl,q,r⟩:=h;cases e;exact .lst ((E _ (by simp)).trans q) (r.same S)
 |l2 ar =>
  obtain⟨b,bs,e,rfl,_,q,l,r⟩:=h;cases e;refine .lst ((E _ (by simp)).trans q) (bZ.of_at (by simp[l]) λi x t e1 e2=>?_);rw[aq]at e1 e2;cases e3:bs[i]? with
  |none=>rw[e3]at e1;cases e1
  |some c =>
   cases e4:ar[i]? with
   |none=>rw[e4]at e2;cases e2
   |some ts =>
    rw[e3]at e1;rw[e4]at e2;cases e1;cases e2;obtain⟨xs,q,r⟩:=r i c ts e3 e4;exact .lst ((E _ (aJ _ (aC e3))).trans q) (r.same S)
 |d1 ks ts=>obtain⟨b,xs,e,rfl,q,l,r⟩:=h;cases e;exact .dct (.inl ((E _ (by simp)).trans q)) l (r.same S)
 |ob b dx C ks ts=>obtain⟨xs,e,rfl,q,d,l,r⟩:=h;cases e;exact .ins ((E _ (by simp)).trans q) ((E _ (by simp)).trans d) l (r.same S)
 |la b ts=>obtain⟨xs,e,rfl,q,r⟩:=h;cases e;exact .lst ((E _ (by simp)).trans q) (r.same S)
def Ow(own:Nat->Ψ)(b:Addr):Prop:=∃i,b∈own i
structure SR(K:Frag)(own:Nat->Ψ)(H:Hp)(σ:L2.St)(o:List OT):Prop where
 len:o.length=σ.length
 sl:∀i x,o[i]?=some x->Slo K (hd (Ow own) H) H (σ[i]?.join) (own i) x
 out:∀i,o.length<=i->∀a∈own i,∃xs,H a=some (.lst xs)
 dis:∀i j a,a∈own i->a∈own j->i=j
variable{own:Nat->Ψ}{σ:L2.St}{o:List OT}
theorem SR.same(h:SR K own H σ o)(E:Same H H'):SR K own H' σ o:=⟨h.len,λi x e=>(h.sl i x e).same (bV E) E,λi hi a ha=>let⟨xs,e⟩:=h.out i hi a ha;⟨xs,E _ _ e⟩,h.dis⟩
theorem SR.sole(h:SR K own H σ o){b:Addr}(z:Ow own b):ZV H b:=by
 obtain⟨i,z⟩:=z;by_cases hi:i<o.length
 .exact(h.sl i _ (aj hi)).sole z
 .obtain⟨xs,e⟩:=h.out i (Nat.not_lt.mp hi) b z;exact⟨_,e,.inl ⟨_,rfl⟩⟩
theorem ZV.ne{a:Addr}(h:ZV H a):H a≠none:=by
 obtain⟨o,e,_⟩:=h;rw[e];exact λz=>by cases z
def NR(K:Frag)(S:Addr->Prop)(H H':Hp)(v:V)(x:OT):Prop:=∃B,(∀a∈B,H a=none)/\Slo K (hd (λb=>S b\/b∈B) H') H' (some v) B x
theorem NR.rep{S:Addr->Prop}{v:V}{x:OT}(h:NR K S H H' v x)(hs:∀b,S b->H b≠none):Rep K (hd S H') v (L2.frz x):=by
 obtain⟨B,n,r⟩:=h;exact r.frz (g8 (λb z=>.inl (.inl z)) (λ_ _ z=>z)) λa ha=>cU λz=>hs a z (n a ha)
theorem NR.fz{S:Addr->Prop}{v:V}{t:T}(h:Rep K (hd S H') v t):NR K S H H' v (.fz t):=⟨[],λ_ z=>(nomatch z),rfl,v,rfl,h.same (g8 (λb z=>.inl (z.elim id λy=>(nomatch y))) λ_ _ z=>z)⟩
theorem NR.l1{S:Addr->Prop}{a:Addr}{xs:Ζ}{ts:List T}(n:H a=none)(e:H' a=some (.lst xs))(h:bZ K (hd (λb=>S b\/b=a) H') xs ts):NR K S H H' (.ref a) (.l1 ts) :=
 ⟨[a],λ_ z=>(YR.mp z) ▸ n,a,xs,rfl,rfl,e,h.same (g8 (λb z=>.inl (z.imp id YR.mp)) λ_ _ z=>z)⟩
theorem NR.back{S:Addr->Prop}{H0:Hp}{v:V}{x:OT}(h:NR K S H H' v x)(E:Same H0 H):NR K S H0 H' v x:=by
 obtain⟨B,n,r⟩:=h;exact⟨B,λa ha=>E.free (n a ha),r⟩
noncomputable def own1(own:Nat->Ψ)(i:Nat)(B:Ψ):Nat->Ψ:=λj=>if j=i then B else own j
theorem jd{i:Nat}{B:Ψ} : own1 own i B i=B:=ZY rfl
theorem fu{i j:Nat}{B:Ψ}(h:j≠i):own1 own i B j=own j:=ZZ h
theorem Ow.of1{i:Nat}{B:Ψ}{b:Addr}(h:Ow (own1 own i B) b):Ow own b\/b∈B:=by
 obtain⟨j,h⟩:=h;by_cases z:j=i
 .rw[z,jd]at h;exact .inr h
 .rw[fu z]at h;exact .inl ⟨j,h⟩
theorem SR.put(h:SR K own H σ o)(E:Same H H'){v:V}{x:OT}(n:NR K (Ow own) H H' v x){i:Nat}(hi:i<o.length):∃ah,SR K ah H' (σ.set i (some v)) (o.set i x)/\Same (hd (Ow own) H) (hd (Ow ah) H'):=by
 obtain⟨B,nb,r⟩:=n;have le:Same (hd (Ow own) H) (hd (Ow (own1 own i B)) H'):=g8 (λb z=>z.of1.imp id (nb b)) E;refine⟨own1 own i B,⟨by rw[VU,VU,h.len],λj y e=>?_,λj hj=>?_,λj k a e1 e2=>?_⟩,le⟩
 .by_cases z:j=i
  .subst z;rw[Ts hi]at e;cases e;rw[jd,Ts (h.len ▸ hi)];exact r.same (g8 (λb z=>.inl z.of1) λ_ _ z=>z) λ_ _ z=>z
  .rw[UQ (Ne.symm z)]at e;rw[fu z,UQ (Ne.symm z)];exact(h.sl j y e).same le E
 .rw[VU]at hj;rw[fu (by lia)];intro a ha;obtain⟨xs,e⟩:=h.out j hj a ha;exact⟨xs,E _ _ e⟩
 .by_cases z:j=i<;>by_cases y:k=i
  .rw[z,y]
  .rw[z,jd]at e1;rw[fu y]at e2;exact absurd (nb a e1) (h.sole ⟨k,e2⟩).ne
  .rw[y,jd]at e2;rw[fu z]at e1;exact absurd (nb a e2) (h.sole ⟨j,e1⟩).ne
  .rw[fu z]at e1;rw[fu y]at e2;exact h.dis j k a e1 e2
theorem SR.frz(h:SR K own H σ o){i:Nat}{x:OT}(e:o[i]?=some x){u:V}(hu:σ[i]?=some (some u)):∃ah,SR K ah H σ (o.set i (.fz (L2.frz x)))/\Same (hd (Ow own) H) (hd (Ow ah) H):=by
 have hi:i<o.length:=(ao.mp e).1;have le:Same (hd (Ow own) H) (hd (Ow (own1 own i [])) H):=g8 (λb z=>.inl (z.of1.elim id λy=>(nomatch y))) λ_ _ z=>z;have hs:=h.sl i x e;rw[hu]at hs;refine⟨own1 own i [],⟨by rw[VU,h.len],λj y e'=>?_,λj hj=>?_,λj k a e1 e2=>?_⟩,le⟩
 .by_cases z:j=i
  .subst z;rw[Ts hi]at e';cases e';rw[jd,hu];exact⟨rfl,u,rfl,Slo.frz hs le λa ha=>cU λz=>by
    obtain⟨k,z⟩:=z;by_cases y:k=j
    .rw[y,jd]at z;cases z
    .rw[fu y]at z;exact y (h.dis k j a z ha)⟩
  .rw[UQ (Ne.symm z)]at e';rw[fu z];exact(h.sl j y e').same le λ_ _ z=>z
 .rw[VU]at hj;rw[fu (by lia)];exact h.out j hj
 .by_cases z:j=i
  .rw[z,jd]at e1;cases e1
  by_cases y:k=i
  .rw[y,jd]at e2;cases e2
  .rw[fu z]at e1;rw[fu y]at e2;exact h.dis j k a e1 e2
theorem SR.chg(h:SR K own H σ o){i:Nat}{x:OT}(e:o[i]?=some x){y:OT}(E:∀b u,b∉own i->H b=some u->H' b=some u)(r:Slo K (hd (Ow own) H') H' (σ[i]?.join) (own i) y):SR K own H' σ (o.set i y)/\Same (hd (Ow own) H) (hd (Ow own) H'):=by
 have hi:i<o.length:=(ao.mp e).1;have le:Same (hd (Ow own) H) (hd (Ow own) H'):=λb u z=>by
  obtain⟨n,z⟩:=cW z;rw[cU n];exact E b u (λq=>n ⟨i,q⟩) z
 refine⟨⟨by rw[VU,h.len],λj z e'=>?_,λj hj a ha=>?_,h.dis⟩,le⟩
 rotate_left
 .rw[VU]at hj;obtain⟨xs,e2⟩:=h.out j hj a ha;exact⟨xs,E a _ (λz=>by have:=h.dis j i a ha z;lia) e2⟩
 by_cases q:j=i
 .subst q;rw[Ts hi]at e';cases e';exact r
 .rw[UQ (Ne.symm q)]at e';exact((h.sl j z e').same le λ_ _ z=>z).off λb hb u=>E b u λz=>q (h.dis j i b hb z)
theorem SR.get(h:SR K own H σ o){i:Nat}{t:T}(e:o[i]?=some (.fz t)):∃u,σ[i]?=some (some u)/\Rep K (hd (Ow own) H) u t:=by
 obtain⟨_,u,q,r⟩:=h.sl i _ e;refine⟨u,?_,r⟩;cases z:σ[i]? with
 |none=>rw[z]at q;cases q
 |some w=>rw[z]at q;exact ZH some q
end
end L2
namespace L2
open PySem PySem.Spec PyProof.Rows
abbrev RE:=List OT->(OT->Prop)->Prop
abbrev RT:=List OT->(Bool->Prop)->Prop
abbrev RA:=List OT->(List T->Prop)->Prop
def tQ(K:Frag)(r:RE):TE:=λσ H Q=>∃own o R,SR K own H σ o/\r o R/\∀H' v x,R x->Same H H'->NR K (Ow own) H H' v x->Q v H'
def tQT(K:Frag)(r:RT):TT:=λσ H Q=>∃own o R,SR K own H σ o/\r o R/\∀H' b,R b->Same H H'->Q b H'
def tQA(K:Frag)(n:Nat)(r:RA):TA:=λσ H Q=>∃own o R,SR K own H σ o/\r o R/\∀H' vs ts,R ts->ts.length=n->Same H H'->bZ K (hd (Ow own) H') vs ts->Q vs H'
def QE(X:Cx)(e:Expr)(r:RE):Prop:=PE X e (tQ X.K r)
def QT(X:Cx)(e:Expr)(r:RT):Prop:=PT X e (tQT X.K r)
def QW(X:Cx)(e:Expr)(r:RT):Prop:=PW X e (tQT X.K r)
def QA(X:Cx)(es:List Expr)(r:RA):Prop:=PA X es (tQA X.K es.length r)
theorem PT.imp{X:Cx}{e:Expr}{t t':TT}(h:PT X e t)(i:∀σ H Q,t' σ H Q->t σ H Q):PT X e t':=λaa s σ H Q I q=>h aa s σ H Q I (i σ H Q q)
theorem PW.imp{X:Cx}{e:Expr}{t t':TT}(h:PW X e t)(i:∀σ H Q,t' σ H Q->t σ H Q):PW X e t':=λwh aa s σ H Q I q=>h wh aa s σ H Q I (i σ H Q q)
theorem PA.imp{X:Cx}{es:List Expr}{t t':TA}(h:PA X es t)(i:∀σ H Q,t' σ H Q->t σ H Q):PA X es t':=λp aa s σ H Q I q=>h p aa s σ H Q I (i σ H Q q)
section
variable{K:Frag}{own:Nat->Ψ}{H:Hp}{σ:L2.St}{o:List OT}
theorem tQ.mk{r:RE}{R:OT->Prop}{Q:VK}(h:SR K own H σ o)(hr:r o R)(k:∀H' v x,R x->Same H H'->Rep K (hd (Ow own) H') v (frz x)->Q v H'):tQ K r σ H Q :=
 ⟨own,o,R,h,hr,λH' v x rx E n=>k H' v x rx E (n.rep λb z=>(h.sole z).ne)⟩
noncomputable def slot:List OT->Nat->OT
 |[],_=>.und
 |x::_,0=>x
 |_::l,n+1=>slot l n
theorem gZ:∀{o:List OT}{i:Nat}{x:OT},slot o i=x->x≠.und->o[i]?=some x
 |[],_,_,e,n=>absurd e.symm n
 |_::_,0,_,e,_=>ZH some e
 |_::l,i+1,x,e,n=>by simpa using gZ (o:=l) (i:=i) e n
end
def afx(i:Nat):RE:=λo q=>match slot o i with|.fz t=>q (.fz t)|_=>False
def rC(t:T):RE:=λ_ q=>q (.fz t)
def rOp(g:T->T->(OT->Prop)->Prop)(a b:RE):RE:=λo q=>a o λx=>b o λy=>g (frz x) (frz y) q
def rUn(g:T->(OT->Prop)->Prop)(a:RE):RE:=λo q=>a o λx=>g (frz x) q
def sw(b:Bool)(p q:Prop):Prop:=match b with|true=>p|false=>q
theorem sw2{b:Bool}{p q:Prop}(h1:b=true->p)(h2:b=false->q):sw b p q:=by
 cases b
 .exact h2 rfl
 .exact h1 rfl
theorem swD{c:Prop}[Decidable c]{p q:Prop}(h1:c->p)(h2:¬c->q):sw (decide c) p q:=sw2 (λe=>h1 (of_decide_eq_true e)) λe=>h2 (of_decide_eq_false e)
theorem swT{b:Bool}{p q:Prop}(e:b=true)(h:p):sw b p q:=by subst e;exact h
theorem swF{b:Bool}{p q:Prop}(e:b=false)(h:q):sw b p q:=by subst e;exact h
section
variable{X:Cx}{a b c:Expr}{ra rb rc:RE}{pos:Pos}
theorem qv(i:Nat){x:Str}{pos:Pos}(hN:X.N[i]?=some x:=by rfl)(hv:sV X.env.scope x=true:=by rfl)(hd:(x==("__debug__":Str))=false:=by decide)
 (be:(x==("__classdict__":Str))=false:=by decide):QE X (.Name x pos) (afx i):=(pv i hN hv hd be).imp λσ H Q hP=>by
 obtain⟨own,o,R,h,hr,k⟩:=hP;unfold afx at hr;cases e:slot o i with
 |fz t =>
  rw[e]at hr;obtain⟨u,q,r⟩:=h.get (gZ e (by intro z;cases z));exact⟨u,q,k H u _ hr (.refl _) (NR.fz r)⟩
 |_=>rw[e]at hr;exact hr.elim
theorem qC{e:Expr}{v:V}{t:T}(h:PE X e (tC v))(r:∀F,Rep X.K F v t):QE X e (rC t):=h.imp λσ H Q hP=>by obtain⟨own,o,R,_,hr,k⟩:=hP;exact k H v _ hr (.refl _) (NR.fz (r _))
theorem bA{i j pos} : QE X (.Constant (.int i) j pos) (rC (.int i)):=qC agk λ_=>.int _
theorem j9{b j pos} : QE X (.Constant (.bool b) j pos) (rC (.bl b)):=qC alf λ_=>.bl _
theorem gA{j pos} : QE X (.Constant .none j pos) (rC .non):=qC agl λ_=>.non
theorem uZ{x j pos} : QE X (.Constant (.str x) j pos) (rC (.str x)):=qC ae5 λ_=>.str _
theorem Zm{x:Str}{v:V}{t:T}{pos:Pos}(hg:Gl X x)(hm:∃u,X.mg x=some u/\RelV v u)(r:∀F,Rep X.K F v t)(hd:(x==("__debug__":Str))=false:=by decide):QE X (.Name x pos) (rC t):=qC (aa2 hg hm hd) r
def GO(X:Cx)(f:Value->Value->Sem Value)(g:T->T->(OT->Prop)->Prop):Prop:=OpR X f λx y H Q=>∃S t u R,(∀b,S b->H b≠none)/\Rep X.K (hd S H) x t/\Rep X.K (hd S H) y u/\g t u R/\∀H' v z,R z->Same H H'->NR X.K S H H' v z->Q v H'
theorem q2{g:T->T->(OT->Prop)->Prop}{σ:L2.St}{H:Hp}{Q:VK}(h:tQ X.K (rOp g ra rb) σ H Q):tOp (λx y H Q=>∃S t u R,(∀b,S b->H b≠none)/\Rep X.K (hd S H) x t/\Rep X.K (hd S H) y u/\g t u R/\∀H' v z,R z->Same H H'->NR X.K S H H' v z->Q v H') (tQ X.K ra) (tQ X.K rb) σ H Q:=by
 obtain⟨own,o,R,h,hr,k⟩:=h;exact tQ.mk h hr λH1 v x q E1 r1=>tQ.mk (h.same E1) q λH2 w y q2 E2 r2=>⟨Ow own,_,_,R,λb z=>((h.same (E1.trans E2)).sole z).ne,r1.same (bV E2),r2,q2,λH' u z rz E3 n=>k H' u z rz (E1.trans (E2.trans E3)) (n.back (E1.trans E2))⟩
theorem bL{op:Operator}{g:T->T->(OT->Prop)->Prop}(ho:GO X (binaryOp op) g)(ha:QE X a ra)(hb:QE X b rb):QE X (.BinOp a op b pos) (rOp g ra rb):=(ajt ho ha hb).imp λ_ _ _=>q2
theorem nW{op:CmpOp}{g:T->T->(OT->Prop)->Prop}(ho:GO X (compareOp op) g)(ha:QE X a ra)(hb:QE X b rb)(hm:behindInMarks op b=false:=by exact aao _):QE X (.Compare a [op] [b] pos) (rOp g ra rb):=(adw ho ha hb hm).imp λ_ _ _=>q2
def gI(g:Int->Int->OT):T->T->(OT->Prop)->Prop
 |.int i,.int j,q=>q (g i j)
 |_,_,_=>False
theorem GO.ints{f:Value->Value->Sem Value}{g:Int->Int->V}{t:Int->Int->T}(h:OpR X f (rI0 g))(r:∀i j F,Rep X.K F (g i j) (t i j)):GO X f (gI λi j=>.fz (t i j)):=h.imp λx y H Q hP=>by
 obtain⟨S,t,u,R,_,hx,hy,hg,k⟩:=hP;cases hx<;>try exact hg.elim
 cases hy<;>try exact hg.elim
 exact⟨_,_,rfl,rfl,k H _ _ hg (.refl _) (NR.fz (r _ _ _))⟩
theorem t_:GO X (binaryOp .Sub) (gI λi j=>.fz (.int (i-j))):=.ints afu λ_ _ _=>.int _
theorem vK:GO X (compareOp .Lt) (gI λi j=>.fz (.bl (decide (i<j)))):=.ints ahJ λ_ _ _=>.bl _
theorem LC:GO X (compareOp .LtE) (gI λi j=>.fz (.bl (decide (i<=j)))):=.ints akD λ_ _ _=>.bl _
theorem Jc:GO X (compareOp .Gt) (gI λi j=>.fz (.bl (decide (j<i)))):=.ints alh λ_ _ _=>.bl _
theorem aeh:GO X (compareOp .GtE) (gI λi j=>.fz (.bl (decide (j<=i)))):=.ints ah5 λ_ _ _=>.bl _
def amC:T->T->(OT->Prop)->Prop
 |.int i,.int j,q=>q (.fz (.int (i+j)))
 |.str a,.str b,q=>a.length+b.length<=sizeLine/\q (.fz (.str (a++b)))
 |.lst a,.lst b,q=>a.length+b.length<=sizeLine/\q (.l1 (a++b))
 |_,_,_=>False
theorem Af{S:Addr->Prop}{H H':Hp}{p:Addr}{xs:Ζ}{ts:List T}(r:bZ X.K (hd S H) xs ts)(E:Same H H')(n:H p=none)(e:H' p=some (.lst xs)):NR X.K S H H' (.ref p) (.l1 ts) :=
 NR.l1 n e (r.same (g8 (λb z=>z.imp id λ(y:b=p)=>y ▸ n) E))
theorem cR:GO X (binaryOp .Add) amC:=λaa s σ H x y v u Q I rx ry hP=>by
 obtain⟨S,t,w,R,_,hx,hy,hg,k⟩:=hP;cases t<;>try exact hg.elim
 .cases hx;cases w<;>try exact hg.elim
  cases hy;exact agI aa s σ H _ _ v u Q I rx ry ⟨_,_,rfl,rfl,k H _ _ hg (.refl _) (NR.fz (.int _))⟩
 .cases hx;cases w<;>try exact hg.elim
  cases hy;exact ad2 aa s σ H _ _ v u Q I rx ry ⟨_,_,rfl,rfl,hg.1,k H _ _ hg.2 (.refl _) (NR.fz (.str _))⟩
 .cases w<;>try exact hg.elim
  obtain⟨a,xs,rfl,e1,r1⟩:=hx.lstI;obtain⟨b,ys,rfl,e2,r2⟩:=hy.lstI;exact adp aa s σ H _ _ v u Q I rx ry ⟨a,b,xs,ys,rfl,rfl,(cW e1).2,(cW e2).2,by rw[r1.len,r2.len];exact hg.1,λp H' E n e=>k H' _ _ hg.2 E (Af (r1.app r2) E n e)⟩
def amm:T->T->(OT->Prop)->Prop
 |.int i,.int j,q=>(Bd i/\Bd j)/\q (.fz (.int (i*j)))
 |.lst a,.int j,q=>(-(2^63)<=j/\j<2^63/\a.length*j.toNat<=sizeLine)/\∀z,z=(List.replicate j.toNat a).flatten->q (.l1 z)
 |.str a,.int j,q=>(∃c,a=⟨#[c]⟩/\1<=j/\j<=1000/\∀z:Str,z.cps.toList=List.replicate j.toNat c->q (.fz (.str z)))
 |_,_,_=>False
def anl:T->T->(OT->Prop)->Prop
 |.int i,.int j,q=>(j≠0/\Bd j)/\q (.fz (.int (i.fdiv j)))
 |_,_,_=>False
def amb:T->T->(OT->Prop)->Prop
 |.int i,.int j,q=>0<j/\q (.fz (.int (i%j)))
 |_,_,_=>False
def an9:T->T->(OT->Prop)->Prop
 |.int i,.int j,q=>ajy i j/\q (.fz (.int (i^j.toNat)))
 |_,_,_=>False
theorem lX:GO X (binaryOp .FloorDiv) anl:=aby.imp λx y H Q hP=>by
 obtain⟨S,t,u,R,_,hx,hy,hg,k⟩:=hP;cases hx<;>try exact hg.elim
 cases hy<;>try exact hg.elim
 exact⟨_,_,rfl,rfl,hg.1,k H _ _ hg.2 (.refl _) (NR.fz (.int _))⟩
theorem cC:GO X (binaryOp .Mod) amb:=afe.imp λx y H Q hP=>by
 obtain⟨S,t,u,R,_,hx,hy,hg,k⟩:=hP;cases hx<;>try exact hg.elim
 cases hy<;>try exact hg.elim
 exact⟨_,_,rfl,rfl,hg.1,k H _ _ hg.2 (.refl _) (NR.fz (.int _))⟩
theorem Vv:GO X (binaryOp .Pow) an9:=afl.imp λx y H Q hP=>by
 obtain⟨S,t,u,R,_,hx,hy,hg,k⟩:=hP;cases hx<;>try exact hg.elim
 cases hy<;>try exact hg.elim
 exact⟨_,_,rfl,rfl,hg.1,k H _ _ hg.2 (.refl _) (NR.fz (.int _))⟩
def amG:T->(OT->Prop)->Prop
 |.int i,q=>q (.fz (.int (-i)))
 |_,_=>False
theorem Aa(ha:QE X a ra):QE X (.UnaryOp .USub a pos) (rUn amG ra):=(aif aex ha).imp λσ H Q ⟨own,o,R,h,hr,k⟩=>tQ.mk h hr λH1 v x q E1 r1=>by
 revert r1 q
 generalize frz x=t;intro q r1;cases r1<;>try exact q.elim
 exact⟨_,rfl,k _ _ _ q E1 (NR.fz (.int _))⟩
noncomputable def Wj:T->Option Bool
 |.non=>some true
 |.any=>none
 |.val v=>some (decide (v=.non))
 |_=>some false
def gIs(neg:Bool):T->T->(OT->Prop)->Prop:=λt u q=>match u,Wj t with
 |.non,some b=>q (.fz (.bl (xor neg b)))
 |_,_=>False
theorem Rr{F:Hp}{K:Frag}{x:V}{t:T}{b:Bool}(h:Rep K F x t)(e:Wj t=some b):decide (x=.non)=b:=by
 cases h<;>cases e<;>first|rfl|(apply Zp;intro z;cases z)
theorem Fg:GO X (compareOp .Is) (gIs false):=aeR.imp λx y H Q hP=>by
 obtain⟨S,t,u,R,_,hx,hy,hg,k⟩:=hP;cases hy<;>try exact hg.elim
 unfold gIs at hg;cases e:Wj t with
 |none=>rw[e]at hg;exact hg.elim
 |some b=>rw[e]at hg;exact⟨rfl,k H _ _ hg (.refl _) (NR.fz (by rw[Rr hx e,Bool.false_xor];exact .bl _))⟩
theorem Bj:GO X (compareOp .IsNot) (gIs true):=adM.imp λx y H Q hP=>by
 obtain⟨S,t,u,R,_,hx,hy,hg,k⟩:=hP;cases hy<;>try exact hg.elim
 unfold gIs at hg;cases e:Wj t with
 |none=>rw[e]at hg;exact hg.elim
 |some b=>rw[e]at hg;exact⟨rfl,k H _ _ hg (.refl _) (NR.fz (by rw[Rr hx e,Bool.true_xor];exact .bl _))⟩
end
structure Hid(H:Hp)(S:Addr->Prop):Prop where
 sole:∀b,S b->ZV H b
 ins:∀a C dx fs,S a->H a=some (.ins C dx fs)->S dx
 own:∀b x,S b->H b=some (.own x)->S x
theorem SR.mate{K:Frag}{own:Nat->Ψ}{H:Hp}{σ:L2.St}{o:List OT}(h:SR K own H σ o){j:Nat}{b:Addr}(hb:b∈own j):(∀C d f,H b=some (.ins C d f)->d∈own j)/\∀x,H b=some (.own x)->x∈own j:=by
 have nl:∀{xs:Ζ},H b=some (.lst xs)->(∀C d f,H b=some (.ins C d f)->d∈own j)/\∀x,H b=some (.own x)->x∈own j:=λq=>⟨(λ_ _ _ e=>by rw[q]at e;cases e),(λ_ e=>by rw[q]at e;cases e)⟩;by_cases hj:j<o.length
 .have s:=h.sl j _ (aj hj);cases y:o[j]with
  |und=>rw[y]at s;rw[show own j=[]from s]at hb;cases hb
  |fz t=>rw[y]at s;rw[s.1]at hb;cases hb
  |l1 ts=>rw[y]at s;obtain⟨c,xs,_,w,q,_⟩:=s;rw[w]at hb;cases YR.mp hb;exact nl q
  |l2 ar =>
   rw[y]at s;obtain⟨c,bs,_,w1,_,q1,l,r⟩:=s;rw[w1]at hb;rcases YU.mp hb with z|z
   .exact nl (z ▸ q1)
   .obtain⟨i,hi⟩:=aV z;obtain⟨xs,q2,_⟩:=r i b _ hi (aj (l ▸ (ao.mp hi).1));exact nl q2
  |d1 ks ts=>rw[y]at s;obtain⟨c,xs,_,w,q,_⟩:=s;rw[w]at hb;cases YR.mp hb;exact⟨(λ_ _ _ e=>by rw[q]at e;cases e),(λ_ e=>by rw[q]at e;cases e)⟩
  |la c ts=>rw[y]at s;obtain⟨xs,_,w,q,_⟩:=s;rw[w]at hb;cases YR.mp hb;exact nl q
  |ob c d C' ks ts =>
   rw[y]at s;obtain⟨xs,_,w,q,q2,_⟩:=s;rw[w]at hb ⊢;rcases YU.mp hb with z|z
   .refine⟨λ_ _ _ e=>?_,λ_ e=>?_⟩
    .rw[z,q]at e;cases e;simp
    .rw[z,q]at e;cases e
   .cases YR.mp z;refine⟨λ_ _ _ e=>?_,λ_ e=>?_⟩
    .rw[q2]at e;cases e
    .rw[q2]at e;cases e;simp
 .obtain⟨xs,q⟩:=h.out j (Nat.not_lt.mp hj) b hb;exact nl q
theorem SR.hid{K:Frag}{own:Nat->Ψ}{H:Hp}{σ:L2.St}{o:List OT}(h:SR K own H σ o):Hid H (Ow own) :=
 ⟨λb z=>h.sole z,λa C dx fs ⟨j,z⟩ e=>⟨j,(h.mate z).1 C dx fs e⟩,λb x ⟨j,z⟩ e=>⟨j,(h.mate z).2 x e⟩⟩
noncomputable def mrg(S:Addr->Prop)(H G:Hp):Hp:=λb=>open Classical in if S b then H b else G b
theorem vU{S:Addr->Prop}{H G:Hp}{b:Addr}(h:S b):mrg S H G b=H b:=by unfold mrg;rw[ZY h]
theorem kJ{S:Addr->Prop}{H G:Hp}{b:Addr}(h:¬S b):mrg S H G b=G b:=by unfold mrg;rw[ZZ h]
def spH(sp:Sp):Sp:=λvs H Q _=>∃S:Addr->Prop,Hid H S/\sp vs (hd S H) (λv G=>(∀b,S b->G b=none)->Q v (mrg S H G)) λ_ _ _=>False
section
variable{P:Program}{w:World}{K:Frag}{mg:Str->Ω}{base:Heap}
theorem cj.hid{k:Nat}{f:Addr}{fd:FuncData}{ps:Φ}{sp:Sp}(F:cj P w K mg base CX0 k f fd ps sp):cj P w K mg base CX0 k f fd ps (spH sp):=by
 refine⟨λvs H Q E h=>?_,λA outer s H args us vs Q E hr e0 hb r h=>?_⟩
 .obtain⟨S,_,z⟩:=h;exact F.len vs _ _ _ z
 obtain⟨S,hS,z⟩:=h;have non:∀{b:Addr},H b=none->hd S H b=none:=λ{b}e=>by
  by_cases z:S b
  .exact pY z
  .rw[cU z];exact e
 have dS:∀{b:Addr}{u:HO},S b->H b=some u->(∀xs,u≠.tup xs)/\(∀o v,u≠.frz o v)/\∀ps,u≠.tbl ps:=λ{b u}z e=>by
  obtain⟨o,q,w⟩:=hS.sole b z;rw[e]at q;cases q;rcases w with⟨_,rfl⟩|⟨_,rfl⟩|⟨_,_,_,rfl⟩|⟨_,rfl⟩<;>exact⟨λ_ z=>(nomatch z),λ_ _ z=>(nomatch z),λ_ z=>(nomatch z)⟩
 have e1:TF P w K mg base A outer s (hd S H):=⟨e0.frames,e0.mod,λb o e=>⟨(e0.bs b o e).1,non (e0.bs b o e).2⟩,e0.bsz,e0.funs,λb hb=>non (e0.frf b hb),λb u e=>by
  obtain⟨nb,e'⟩:=cW e;refine(e0.hok b u e').stay (λ_ _ _ z=>z) (λd z=>?_) λd xs z=>?_
  .rw[cU λy=>nb (hS.own d b y z)];exact z
  .rw[cU λy=>(dS y z).1 xs rfl];exact z,e0.bare⟩
 refine codeAny_mono (F.run A outer s (hd S H) args us vs _ _ hr e1 hb r z) λres s' hs=>?_;cases res with
 |error e=>exact hs.elim
 |ok fl =>
  cases fl with
  |next=>exact False.elim hs
  |brk=>exact False.elim hs
  |cont=>exact False.elim hs
  |ret u =>
   obtain⟨v,G,os,bare,un,hok,rv,q⟩:=hs;have there:∀{b:Addr},S b->∃o,s.heap.get? b=some o:=λ{b}y=>by
    obtain⟨u,e,w⟩:=hS.sole b y;have x:=e0.hok b u e;rcases w with⟨xs,rfl⟩|⟨kk,rfl⟩|⟨C,d,f,rfl⟩|⟨y,rfl⟩
    .obtain⟨_,_,_,_,e2⟩:=x;exact⟨_,e2⟩
    .obtain⟨_,_,_,_,_,_,_,e2,_⟩:=x;exact⟨_,e2⟩
    .obtain⟨_,_,_,e2,_⟩:=x;exact⟨_,e2⟩
    .exact x
   have keep:∀{b:Addr}{o:Obj},S b->s.heap.get? b=some o->s'.heap.get? b=some o:=λ{b o}y e=>un.keep b o e (pY y) (λz=>(hS.sole b y).ne (e0.frf b z)) (by simp);have a9:∀b,S b->G b=none:=λb y=>by
    obtain⟨o,ho⟩:=there y;exact un.free b o ho (pY y) (by simp)
   have no':∀{b:Addr}{u:HO},G b=some u->¬S b:=λe z=>by rw[a9 _ z]at e;cases e
   have c9:∀{b:Addr}{u:HO},G b=some u->mrg S H G b=some u:=λe=>(kJ (no' e)).trans e;refine⟨v,mrg S H G,os,bare,⟨λb o e n=>un.keep b o e (non n),λb o e n=>un.slot b o e (non n),λb o e n z=>?_,un.there,λb xs e=>?_,λb o u e=>?_,λb ps e=>?_⟩,λb u e=>?_,rv,q a9⟩
   .rw[kJ λy=>(hS.sole b y).ne n];exact un.free b o e (non n) z
   .have n:¬S b:=λy=>(dS y e).1 xs rfl;exact c9 (un.tups b xs ((cU n).trans e))
   .have n:¬S b:=λy=>(dS y e).2.1 o u rfl;exact c9 (un.frzs b o u ((cU n).trans e))
   .have n:¬S b:=λy=>(dS y e).2.2 ps rfl;obtain⟨more,this⟩:=un.tbls b ps ((cU n).trans e);exact⟨more,c9 this⟩
   .by_cases z:S b
    .rw[vU z]at e;have x:=e0.hok b u e;obtain⟨u',e',w⟩:=hS.sole b z;rw[e]at e';cases e';rcases w with⟨xs,rfl⟩|⟨kk,rfl⟩|⟨C,d,f,rfl⟩|⟨y,rfl⟩
     .obtain⟨z1,its,n,r,e2⟩:=x;exact⟨z1,its,n,r,keep z e2⟩
     .obtain⟨z1,y,vs,r,ob,es,ep,e2,c⟩:=x;exact⟨z1,y,vs,r,ob,es,ep,keep z e2,c⟩
     .obtain⟨d1,z1,ne,e2,mA,⟨od,es,ep,e3,c⟩,r⟩:=x;have sd:=hS.ins b C d f z e;exact⟨(vU sd).trans d1,z1,ne,keep z e2,mA,⟨od,es,ep,keep sd e3,c⟩,r⟩
     .obtain⟨ob,e2⟩:=x;exact⟨ob,keep z e2⟩
    .rw[kJ z]at e;exact(hok b u e).stay (λ_ _ _ z=>z) (λd z=>c9 z) λd xs z=>c9 z
abbrev ST:=List T->(OT->Prop)->Prop
def spT(K:Frag)(S:ST):Sp:=λvs H Q _=>∃ts R,bZ K H vs ts/\S ts R/\∀H' v x,R x->Same H H'->NR K (λ_=>False) H H' v x->Q v H'
abbrev OkT(P:Program)(w:World)(K:Frag)(mg:Str->Ω)(base:Heap)(k:Nat)(x:Str)(ps:Φ)(S:ST):Prop:=OkF P w K mg base k x ps (spT K S)
end
section
variable{X:Cx}
def ae2:RA:=λ_ q=>q []
def aeo(a:RE)(r:RA):RA:=λo q=>a o λx=>r o λts=>q (frz x::ts)
theorem bC:QA X [] ae2:=M7.imp λσ H Q hP=>by obtain⟨own,o,R,h,hr,k⟩:=hP;exact k H [] [] hr rfl (.refl _) .nil
theorem tQA.mk{K:Frag}{own:Nat->Ψ}{H:Hp}{σ:L2.St}{o:List OT}{r:RA}{R:List T->Prop}{Q:Ζ->Hp->Prop}(h:SR K own H σ o)(hr:r o R){n:Nat}(k:∀H' vs ts,R ts->ts.length=n->Same H H'->bZ K (hd (Ow own) H') vs ts->Q vs H'):tQA K n r σ H Q:=⟨own,o,R,h,hr,k⟩
theorem bx{e:Expr}{es:List Expr}{a:RE}{r:RA}(ha:QE X e a)(hr:QA X es r)(hs:starEach (e::es) X.env=(false,eval e X.env)::starEach es X.env:=by rfl):QA X (e::es) (aeo a r):=(pF ha hr hs).imp λσ H Q ⟨own,o,R,h,hr,k⟩ =>
 tQ.mk h hr λH1 v x q E1 r1=>tQA.mk (h.same E1) q λH2 vs ts q2 ln E2 r2=>k H2 (v::vs) (frz x::ts) q2 (ZH (· + 1) ln) (E1.trans E2) (.cons (r1.same (bV E2)) r2)
def aat(S:ST)(r:RA):RE:=λo q=>r o λts=>S ts q
theorem bI{p pos:Pos}{e:Expr}{es:List Expr}{r:RA}{x:Str}{k:Nat}{ps:Φ}{S:ST}(G:OkT X.prog X.w X.K X.mg X.base k x ps S)(hr:fB k X.A)(hg:Gl X x)(ha:QA X (e::es) r)(cc:(x==("__debug__":Str))=false:=by decide)
 (he:starEach (e::es) X.env=(false,eval e X.env)::starEach es X.env:=by rfl)(bg:(backTo pos (starEach es X.env)).any (·.1)=false:=by rfl):QE X (.Call (.Name x p) (e::es) [] pos) (aat S r):=by
 obtain⟨f,fd,F,b,hm,kp⟩:=G;refine(Jt (sp:=spH (spT X.K S)) ⟨f,fd,F.hid,b,hm,kp⟩ hr hg ha cc he bg).imp λσ H Q ⟨own,o,R,h,hr,k⟩=>tQA.mk h hr λH1 vs ts q _ E1 r1=>?_;have h1:=h.same E1;refine⟨Ow own,h1.hid,ts,R,r1,q,λG v x rx E n a9=>?_⟩;have EH:Same H1 (mrg (Ow own) H1 G):=λb u e=>by
  by_cases z:Ow own b
  .rw[vU z];exact e
  .rw[kJ z];exact E b u ((cU z).trans e)
 have EG:Same G (mrg (Ow own) H1 G):=λb u e=>by rw[kJ λz=>by rw[a9 b z]at e;cases e];exact e
 refine k _ v x rx (E1.trans EH) (NR.back (H:=H1) ?_ E1);obtain⟨B,nb,s⟩:=n;have out:∀a∈B,¬Ow own a:=λa ha z=>(s.sole ha).ne (a9 a z);refine⟨B,λa ha=>by have:=nb a ha;rwa[cU (out a ha)]at this,s.same (g8 (λb z=>?_) EG) EG⟩;rcases z with z|z
 .exact .inr (a9 b z)
 .exact .inl (.inr z)
end
def rB(a:RE):RT:=λo q=>a o λx=>match frz x with|.bl b=>q b|_=>False
def tru:T->(Bool->Prop)->Prop
 |.bl b,q=>q b
 |.int i,q=>q (i != 0)
 |.non,q=>q false
 |.lst ts,q=>q (!ts.isEmpty)
 |.tup ts,q=>q (!ts.isEmpty)
 |_,_=>False
def anq(a:RE):RT:=λo q=>a o λx=>tru (frz x) q
def agd(a b:RT):RT:=λo q=>a o λc=>sw c (b o q) (q false)
def rOr(a b:RT):RT:=λo q=>a o λc=>sw c (q true) (b o q)
def amn(a:RT):RT:=λo q=>a o λc=>q (!c)
def aiD(a b:RE):RE:=λo q=>a o λx=>match frz x with|.bl c=>sw c (b o q) (q (.fz (.bl false)))|_=>False
def alo(a:RE):RE:=λo q=>a o λx=>match frz x with|.bl c=>q (.fz (.bl (!c)))|_=>False
def rIf(c:RT)(a b:RE):RE:=λo q=>c o λk=>sw k (a o q) (b o q)
theorem tQT.mk{K:Frag}{own:Nat->Ψ}{H:Hp}{σ:L2.St}{o:List OT}{r:RT}{R:Bool->Prop}{Q:Bool->Hp->Prop}(h:SR K own H σ o)(hr:r o R)(k:∀H' b,R b->Same H H'->Q b H'):tQT K r σ H Q:=⟨own,o,R,h,hr,k⟩
theorem Rep.isEmpty{K:Frag}{F:Hp}{xs:Ζ}{ts:List T}(h:bZ K F xs ts):xs.isEmpty=ts.isEmpty:=by cases h<;>rfl
theorem I_{c:Bool}{p q p' q':Prop}(h:sw c p q)(i:p->p')(j:q->q'):if c=true then p' else q':=by
 cases c
 .exact amS (j h)
 .exact amY (i h)
section
variable{X:Cx}{a b c:Expr}{ra rb rc:RE}{qa qb qc:RT}{pos:Pos}{rest:List Expr}
theorem bY{op:CmpOp}{g:T->T->(OT->Prop)->Prop}(ho:GO X (compareOp op) g)(ha:QE X a ra)(hb:QE X b rb)(hm:behindInMarks op b=false:=by exact aao _):QT X (.Compare a [op] [b] pos) (rB (rOp g ra rb)) :=
 (acO ho ha hb hm).imp λσ H Q ⟨own,o,R,h,hr,k⟩=>q2 (ra:=ra) (rb:=rb) (tQ.mk h hr λH1 v x q E1 r1=>by
  revert r1 q
  generalize frz x=t;intro q r1;cases r1<;>try exact q.elim
  exact⟨_,rfl,k _ _ q E1⟩)
theorem cV(ha:QE X a ra)(he:∀ck,isTrue a X.env ck=(do let v <- ck;standAt a.pos;holding [v] (truthy v)):=by exact λ_=>rfl):QT X a (anq ra):=(aaZ ha he).imp λσ H Q ⟨own,o,R,h,hr,k⟩=>tQ.mk h hr λH1 v x q E1 r1=>by
 revert r1 q
 generalize frz x=t;intro q r1;cases t<;>try exact q.elim
 .cases r1;exact⟨false,rfl,k _ _ q E1⟩
 .cases r1;exact⟨_,rfl,k _ _ q E1⟩
 .cases r1;exact⟨_,rfl,k _ _ q E1⟩
 .obtain⟨p,xs,rfl,e,r⟩:=r1.tupI;exact⟨_,.inr (.inl ⟨xs,dI.tup e,rfl⟩),by rw[Rep.isEmpty r];exact k _ _ q E1⟩
 .obtain⟨p,xs,rfl,e,r⟩:=r1.lstI;exact⟨_,.inl ⟨xs,.of (cW e).2,rfl⟩,by rw[Rep.isEmpty r];exact k _ _ q E1⟩
theorem dB(ha:QT X a qa):QT X (.UnaryOp .Not a pos) (amn qa):=(ae7 ha).imp λσ H Q hP=>by obtain⟨own,o,R,h,hr,k⟩:=hP;exact tQT.mk h hr λH1 b q E1=>k H1 _ q E1
theorem Hi(ha:QT X a qa):QW X (.BoolOp .And [a] pos) qa:=pw_and1 ha
theorem gR(ha:QT X a qa):QW X (.BoolOp .Or [a] pos) qa:=pw_or1 ha
theorem Np(ha:QT X a qa)(hb:QW X (.BoolOp .And (b::rest) pos) qb):QW X (.BoolOp .And (a::b::rest) pos) (agd qa qb):=(pw_and ha hb).imp λσ H Q hP=>by obtain⟨own,o,R,h,hr,k⟩:=hP;exact tQT.mk h hr λH1 c q E1=>I_ q (λq=>tQT.mk (h.same E1) q λH2 d q E2=>k H2 d q (E1.trans E2)) λq=>k H1 _ q E1
theorem iZ(ha:QT X a qa)(hb:QW X (.BoolOp .Or (b::rest) pos) qb):QW X (.BoolOp .Or (a::b::rest) pos) (rOr qa qb):=(pw_or ha hb).imp λσ H Q hP=>by obtain⟨own,o,R,h,hr,k⟩:=hP;exact tQT.mk h hr λH1 c q E1=>I_ q (λq=>k H1 _ q E1) λq=>tQT.mk (h.same E1) q λH2 d q E2=>k H2 d q (E1.trans E2)
theorem QW.qt(h:QW X a qa):QT X a qa:=PW.pt h
theorem Fe{op}(h:QE X a ra):QE X (.BoolOp op [a] pos) ra:=afc h
theorem yI(ha:QE X a ra)(hb:QE X (.BoolOp .And (b::rest) pos) rb):QE X (.BoolOp .And (a::b::rest) pos) (aiD ra rb):=(afb ha hb).imp λσ H Q ⟨own,o,R,h,hr,k⟩=>tQ.mk h hr λH1 v x q E1 r1=>by
 revert r1 q
 generalize frz x=t;intro q r1;cases r1<;>try exact q.elim
 exact⟨_,rfl,I_ q (λq=>⟨own,o,R,h.same E1,q,λH2 v x q E2 n=>k H2 v x q (E1.trans E2) (n.back E1)⟩) λq=>k H1 _ _ q E1 (NR.fz (.bl _))⟩
theorem VR(ha:QE X a ra):QE X (.UnaryOp .Not a pos) (alo ra):=(afp ha).imp λσ H Q ⟨own,o,R,h,hr,k⟩=>tQ.mk h hr λH1 v x q E1 r1=>by
 revert r1 q
 generalize frz x=t;intro q r1;cases r1<;>try exact q.elim
 exact⟨_,rfl,k H1 _ _ q E1 (NR.fz (.bl _))⟩
theorem R0{c:Expr}(hc:QT X c qc)(ha:QE X a ra)(hb:QE X b rb):QE X (.IfExp c a b pos) (rIf qc ra rb):=(aar hc ha hb).imp λσ H Q ⟨own,o,R,h,hr,k⟩=>tQT.mk h hr λH1 c q E1 =>
 I_ q (λq=>⟨own,o,R,h.same E1,q,λH2 v x q E2 n=>k H2 v x q (E1.trans E2) (n.back E1)⟩) λq=>⟨own,o,R,h.same E1,q,λH2 v x q E2 n=>k H2 v x q (E1.trans E2) (n.back E1)⟩
def rCh(g g':T->T->(OT->Prop)->Prop)(a b c:RE):RE:=λo q=>a o λx=>b o λy=>g (frz x) (frz y) λz=>match frz z with|.bl k=>sw k (c o λw=>g' (frz y) (frz w) q) (q (.fz (.bl false)))|_=>False
theorem q3{op du:CmpOp}{g g':T->T->(OT->Prop)->Prop}(ho:GO X (compareOp op) g)(di:GO X (compareOp du) g'){σ:L2.St}{H:Hp}{Q:VK}(h:tQ X.K (rCh g g' ra rb rc) σ H Q):TX (λx y H Q=>∃S t u R,(∀b,S b->H b≠none)/\Rep X.K (hd S H) x t/\Rep X.K (hd S H) y u/\g t u R/\∀H' v z,R z->Same H H'->NR X.K S H H' v z->Q v H') (λx y H Q=>∃S t u R,(∀b,S b->H b≠none)/\Rep X.K (hd S H) x t/\Rep X.K (hd S H) y u/\g' t u R/\∀H' v z,R z->Same H H'->NR X.K S H H' v z->Q v H') (tQ X.K ra) (tQ X.K rb) (tQ X.K rc) σ H Q:=by
 obtain⟨own,o,R,h,hr,k⟩:=h;refine tQ.mk h hr λH1 v x q E1 r1=>tQ.mk (h.same E1) q λH2 w y q2 E2 r2=>?_;have h2:=h.same (E1.trans E2);refine⟨Ow own,_,_,_,λb z=>(h2.sole z).ne,r1.same (bV E2),r2,q2,λH3 u z rz E3 n=>?_⟩;have kn:=n.rep λb z=>(h2.sole z).ne
 revert kn rz
 generalize frz z=t;intro rz kn;cases kn<;>try exact rz.elim
 have h3:=h2.same E3;refine⟨_,rfl,I_ rz (λq=>tQ.mk h3 q λH4 w' z q4 E4 r4=>⟨Ow own,_,_,R,λb z=>((h3.same E4).sole z).ne,r2.same (bV (E3.trans E4)),r4,q4,λH' u z rz E5 n=>k H' u z rz (E1.trans (E2.trans (E3.trans (E4.trans E5)))) (n.back (E1.trans (E2.trans (E3.trans E4))))⟩) λq=>k H3 _ _ q (E1.trans (E2.trans E3)) (NR.fz (.bl _))⟩
theorem Ju{op du:CmpOp}{g g':T->T->(OT->Prop)->Prop}(ho:GO X (compareOp op) g)(di:GO X (compareOp du) g')(ha:QE X a ra)(hb:QE X b rb)(hc:QE X c rc)(hm:lastMarks [op,du] [b,c]=false:=by with_unfolding_all rfl):QE X (.Compare a [op,du] [b,c] pos) (rCh g g' ra rb rc):=(abt ho di ha hb hc hm).imp λ_ _ _=>q3 ho di
theorem QH{op du:CmpOp}{g g':T->T->(OT->Prop)->Prop}(ho:GO X (compareOp op) g)(di:GO X (compareOp du) g')(ha:QE X a ra)(hb:QE X b rb)(hc:QE X c rc)(hm:lastMarks [op,du] [b,c]=false:=by with_unfolding_all rfl):QT X (.Compare a [op,du] [b,c] pos) (rB (rCh g g' ra rb rc)) :=
 (Zc ho di ha hb hc hm).imp λσ H Q ⟨own,o,R,h,hr,k⟩=>q3 (ra:=ra) (rb:=rb) (rc:=rc) ho di (tQ.mk h hr λH1 v x q E1 r1=>by
  revert r1 q
  generalize frz x=t;intro q r1;cases r1<;>try exact q.elim
  exact⟨_,rfl,k _ _ q E1⟩)
end
noncomputable def nth{α:Type} : List α->Nat->Option α
 |[],_=>none
 |x::_,0=>some x
 |_::l,n+1=>nth l n
theorem sJ{α:Type} : ∀(l:List α)(n:Nat),nth l n=l[n]?
 |[],_=>rfl
 |_::_,0=>rfl
 |_::l,n+1=>by simpa[nth]using sJ l n
def ixT{α:Type}(ts:List α):Int->Option α
 |.ofNat n=>nth ts n
 |.negSucc n=>nth ts.reverse n
theorem Ue{α:Type}(ts:List α)(i:Int):ixT ts i=atI ts i:=by
 unfold ixT atI ixN;cases i with
 |ofNat n =>
  show nth ts n=_;rw[sJ,ZY (show 0<=Int.ofNat n from Wp n)];by_cases h:n<ts.length
  .rw[ZY (by show(n:Int)<_;lia)];rfl
  .rw[ZZ (by show ¬(n:Int)<_;lia),aM (Nat.not_lt.mp h)];rfl
 |negSucc n =>
  show nth ts.reverse n=_;rw[sJ,ZZ (by lia)];by_cases h:n<ts.length
  .rw[ZY (by lia),List.getElem?_reverse h];show _=ts[_]?;rw[show(Int.negSucc n+(ts.length:Int)).toNat=ts.length-1-n by lia]
  .rw[ZZ (by lia),aM (by rw[List.length_reverse];exact VW h)];rfl
theorem bZ.ix{K:Frag}{F:Hp}{xs:Ζ}{ts:List T}{i:Int}{t:T}(h:bZ K F xs ts)(e:ixT ts i=some t):∃x,atI xs i=some x/\Rep K F x t:=by
 rw[Ue]at e;unfold atI at e ⊢;rw[h.len];cases j:ixN ts.length i with
 |none=>rw[j]at e;cases e
 |some n=>rw[j]at e;exact h.at_ e
def oT{α:Type}(x:Option α)(q:α->Prop):Prop:=match x with|some t=>q t|none=>False
theorem aeb{α:Type}{x:Option α}{q:α->Prop}(h:oT x q):∃t,x=some t/\q t:=by
 cases x with
 |none=>exact h.elim
 |some t=>exact⟨t,rfl,h⟩
def gIx:T->T->(OT->Prop)->Prop
 |.tup ts,.int i,q=>oT (ixT ts i) λt=>q (.fz t)
 |.lst ts,.int i,q=>∃t,ixT ts i=some t/\q (.fz t)
 |.scr ts,.int i,q=>∃t,ixT ts i=some t/\q (.fz t)
 |.str s,.int i,q=>s.length<=sizeLine/\∃c,ixT s.cps.toList i=some c/\q (.fz (.str ⟨#[c]⟩))
 |_,_,_=>False
section
variable{X:Cx}{a b c e:Expr}{ra rb rc re:RE}{qa qb qc:RT}{pos p2:Pos}{lo hi:Option Expr}
theorem gix:IxR X (λx y H Q=>∃S t u R,(∀b,S b->H b≠none)/\Rep X.K (hd S H) x t/\Rep X.K (hd S H) y u/\gIx t u R/\∀H' v z,R z->Same H H'->NR X.K S H H' v z->Q v H'):=by
 refine(yW.or (af7.or aeG)).imp λx y H Q h=>?_;obtain⟨S,t,u,R,_,hx,hy,hg,k⟩:=h;cases u with
 |int i=>?_
 |_=>cases t<;>exact hg.elim
 cases hy;cases t with
 |any=>exact hg.elim
 |non=>exact hg.elim
 |bl _=>exact hg.elim
 |int _=>exact hg.elim
 |val _=>exact hg.elim
 |dct _ _=>exact hg.elim
 |ins _ _ _=>exact hg.elim
 |str s=>?_
 |tup ts=>?_
 |lst ts=>?_
 |scr ts=>?_
 .cases hx;obtain⟨z,c,e,q⟩:=hg;rw[Ue]at e;exact .inr (.inr ⟨_,_,c,rfl,rfl,z,e,k H _ _ q (.refl _) (NR.fz (.str _))⟩)
 .obtain⟨p,xs,rfl,e,r⟩:=hx.tupI;obtain⟨t,j,q⟩:=aeb hg;obtain⟨v,e',r'⟩:=r.ix j;exact .inr (.inl ⟨p,xs,i,v,rfl,rfl,dI.tup e,e',k H _ _ q (.refl _) (NR.fz r')⟩)
 .obtain⟨p,xs,rfl,e,r⟩:=hx.lstI;obtain⟨t,j,q⟩:=hg;obtain⟨v,e',r'⟩:=r.ix j;exact .inl ⟨p,xs,_,v,rfl,rfl,.of (cW e).2,e',k H _ _ q (.refl _) (NR.fz r')⟩
 .obtain⟨p,xs,rfl,e,r⟩:=hx.scrI;obtain⟨t,j,q⟩:=hg;obtain⟨v,e',r'⟩:=r.ix j;exact .inl ⟨p,xs,_,v,rfl,rfl,dI.seq e,e',k H _ _ q (.refl _) (NR.fz r')⟩
theorem bJ(ha:QE X a ra)(hb:QE X b rb)(hs:uR b:=by exact λ_ _=>rfl):QE X (.Subscript a b pos) (rOp gIx ra rb):=(K8 gix ha hb hs).imp λ_ _ _=>q2
abbrev RO:=List OT->(Option Int->Prop)->Prop
def tQO(K:Frag)(r:RO):TO:=λσ H Q=>∃own o R,SR K own H σ o/\r o R/\∀H' b,R b->Same H H'->Q b H'
def QO(X:Cx)(e:Option Expr)(r:RO):Prop:=PO X e (tQO X.K r)
def anK:RO:=λ_ q=>q none
def ai5(a:RE):RO:=λo q=>a o λx=>match frz x with|.int i=>q (some i)|_=>False
theorem PO.imp{X:Cx}{e:Option Expr}{t t':TO}(h:PO X e t)(i:∀σ H Q,t' σ H Q->t σ H Q):PO X e t':=λaa s σ H Q I q=>h aa s σ H Q I (i σ H Q q)
theorem Pj:QO X none anK:=acI.imp λσ H Q hP=>by obtain⟨own,o,R,h,hr,k⟩:=hP;exact k H _ hr (.refl _)
theorem gn(h:QE X e re):QO X (some e) (ai5 re):=(acn h).imp λσ H Q ⟨own,o,R,h,hr,k⟩=>tQ.mk h hr λH1 v x q E1 r1=>by
 revert r1 q
 generalize frz x=t;intro q r1;cases r1<;>try exact q.elim
 exact⟨_,rfl,k _ _ q E1⟩
noncomputable def fX{α:Type}(xs:List α)(lo hi:Option Int):List α:=(xs.drop (HT.sIx xs.length 0 lo)).take (HT.sIx xs.length xs.length hi-HT.sIx xs.length 0 lo)
theorem bZ.cut{K:Frag}{F:Hp}{xs:Ζ}{ts:List T}(h:bZ K F xs ts)(lo hi:Option Int):bZ K F (Yr xs lo hi) (fX ts lo hi):=by
 unfold Yr fX;rw[h.len];exact(h.drop _).take _
def gSl:T->Option Int->Option Int->(OT->Prop)->Prop
 |.lst ts,lo,hi,q=>q (.l1 (fX ts lo hi))
 |.scr ts,lo,hi,q=>q (.l1 (fX ts lo hi))
 |.str s,lo,hi,q=>s.length<=sizeLine/\q (.fz (.str (Gg s lo hi)))
 |_,_,_,_=>False
def rSl(a:RE)(lo hi:RO):RE:=λo q=>a o λx=>lo o λl=>hi o λu=>gSl (frz x) l u q
theorem lC{rl rh:RO}(he:QE X e re)(hl:QO X lo rl)(hu:QO X hi rh):QE X (.Subscript e (.Slice lo hi none p2) pos) (rSl re rl rh):=(aaN (acq.or afJ) he hl hu).imp λσ H Q ⟨own,o,R,h,hr,k⟩ =>
 tQ.mk h hr λH1 v x q E1 r1=>⟨own,o,_,h.same E1,q,λH2 l q E2=>⟨own,o,_,(h.same E1).same E2,q,λH3 u q E3=>by
  have E:=E1.trans (E2.trans E3);have r1:=r1.same (bV (E2.trans E3))
  revert r1 q
  generalize frz x=t;intro q r1;cases t<;>try exact q.elim
  .cases r1;exact .inr ⟨_,rfl,q.1,k _ _ _ q.2 E (NR.fz (.str _))⟩
  .obtain⟨p,xs,rfl,e,r⟩:=r1.lstI;exact .inl ⟨p,xs,rfl,.of (cW e).2,λa ha=>k _ _ _ q (E.trans (Same.upd ha)) ((Af (r.cut l u) (Same.upd ha) ha cM).back E)⟩
  .obtain⟨p,xs,rfl,e,r⟩:=r1.scrI;exact .inl ⟨p,xs,rfl,dI.seq e,λa ha=>k _ _ _ q (E.trans (Same.upd ha)) ((Af (r.cut l u) (Same.upd ha) ha cM).back E)⟩⟩⟩
end
section
variable{X:Cx}{e:Expr}{es:List Expr}{r:RA}{pos:Pos}
def aln(r:RA):RE:=λo q=>r o λts=>q (.fz (.tup ts))
def akx(r:RA):RE:=λo q=>r o λts=>q (.l1 ts)
theorem dg{k:Nat}(h:QA X es r)(hz:es.length<=sizeLine:=by decide):QE X (.Tuple es k pos) (aln r):=(afK h).imp λσ H Q ⟨own,o,R,h,hr,k⟩=>tQA.mk h hr λH1 vs ts q ln E1 r1 =>
 ⟨by rw[r1.len,ln];exact hz,λp hp=>k _ _ _ q (E1.trans (Same.upd hp)) (NR.fz (.tup (.of (by rw[cU λz=>(h.sole z).ne (E1.free hp)];exact cM)) (r1.same (bV (Same.upd hp)))))⟩
theorem eE(h:QA X es r)(hz:es.length<=sizeLine:=by decide):QE X (.List es pos) (akx r):=(aeY h).imp λσ H Q ⟨own,o,R,h,hr,k⟩=>tQA.mk h hr λH1 vs ts q ln E1 r1 =>
 ⟨by rw[r1.len,ln];exact hz,λp hp=>k _ _ _ q (E1.trans (Same.upd hp)) ((Af r1 (Same.upd hp) hp cM).back E1)⟩
def GC(X:Cx)(f:Value)(g:ST):Prop:=i_ X f λxs H Q=>∃S ts R,(∀b,S b->H b≠none)/\bZ X.K (hd S H) xs ts/\g ts R/\∀H' v z,R z->Same H H'->NR X.K S H H' v z->Q v H'
variable{x:Str}{p:Pos}{id Ty:String}{g:ST}
theorem bR(hc:GC X (.builtin id) g)(hg:Gl X x)(hm:X.mg x=none)(hv:bootBuiltins x=some (.builtin id))(ha:QA X (e::es) r)(hn:x≠"__name__":=by decide)(cc:(x==("__debug__":Str))=false:=by decide)
 (he:starEach (e::es) X.env=(false,eval e X.env)::starEach es X.env:=by rfl)(bg:(backTo pos (starEach es X.env)).any (·.1)=false:=by rfl):QE X (.Call (.Name x p) (e::es) [] pos) (aat g r) :=
 (SN hc hg hm hv ha hn cc he bg).imp λσ H Q hP=>by obtain⟨own,o,R,h,hr,k⟩:=hP;exact tQA.mk h hr λH1 vs ts q _ E1 r1=>⟨Ow own,ts,R,λb z=>((h.same E1).sole z).ne,r1,q,λH' v z rz E n=>k H' v z rz (E1.trans E) (n.back E1)⟩
theorem pQ(hc:GC X (.type Ty) g)(hg:Gl X x)(hm:X.mg x=none)(hv:bootBuiltins x=some (.type Ty))(ha:QA X (e::es) r)(hn:x≠"__name__":=by decide)(cc:(x==("__debug__":Str))=false:=by decide)
 (he:starEach (e::es) X.env=(false,eval e X.env)::starEach es X.env:=by rfl)(bg:(backTo pos (starEach es X.env)).any (·.1)=false:=by rfl):QE X (.Call (.Name x p) (e::es) [] pos) (aat g r) :=
 (YD hc hg hm hv ha hn cc he bg).imp λσ H Q hP=>by obtain⟨own,o,R,h,hr,k⟩:=hP;exact tQA.mk h hr λH1 vs ts q _ E1 r1=>⟨Ow own,ts,R,λb z=>((h.same E1).sole z).ne,r1,q,λH' v z rz E n=>k H' v z rz (E1.trans E) (n.back E1)⟩
theorem bZ.one{K:Frag}{F:Hp}{xs:Ζ}{t:T}(h:bZ K F xs [t]):∃x,xs=[x]/\Rep K F x t:=by
 cases h with
 |cons a b=>cases b;exact⟨_,rfl,a⟩
theorem bZ.two{K:Frag}{F:Hp}{xs:Ζ}{t u:T}(h:bZ K F xs [t,u]):∃x y,xs=[x,y]/\Rep K F x t/\Rep K F y u:=by
 cases h with
 |cons a b =>
  obtain⟨y,rfl,c⟩:=b.one;exact⟨_,y,rfl,a,c⟩
def g1(g:T->(OT->Prop)->Prop):ST:=λts q=>match ts with|[t]=>g t q|_=>False
theorem GC.one{f:Value}{g:T->(OT->Prop)->Prop}{r:Ζ->Hp->VK->Prop}(h:i_ X f r)(i:∀S t x H Q R,Rep X.K (hd S H) x t->g t R->(∀H' v z,R z->Same H H'->NR X.K S H H' v z->Q v H')->r [x] H Q):GC X f (g1 g):=h.imp λxs H Q hP=>by
 obtain⟨S,ts,R,_,rs,hg,k⟩:=hP
 match ts,hg with
 |[t],hg =>
  obtain⟨x,rfl,rx⟩:=rs.one;exact i S t x H Q R rx hg k
def anv:T->(OT->Prop)->Prop
 |.lst ts,q=>q (.fz (.int ts.length))
 |.tup ts,q=>q (.fz (.int ts.length))
 |.scr ts,q=>q (.fz (.int ts.length))
 |_,_=>False
theorem cN:GC X (.builtin "len") (g1 anv):=.one PJ λS t x H Q R rx hg k=>by
 cases t<;>try exact hg.elim
 .obtain⟨p,xs,rfl,e,r⟩:=rx.tupI;exact⟨p,xs,rfl,.inr (dI.tup e),k H _ _ hg (.refl _) (NR.fz (by rw[r.len];exact .int _))⟩
 .obtain⟨p,xs,rfl,e,r⟩:=rx.lstI;exact⟨p,xs,rfl,.inl (.of (cW e).2),k H _ _ hg (.refl _) (NR.fz (by rw[r.len];exact .int _))⟩
 .obtain⟨p,xs,rfl,e,r⟩:=rx.scrI;exact⟨p,xs,rfl,.inl (dI.seq e),k H _ _ hg (.refl _) (NR.fz (by rw[r.len];exact .int _))⟩
def alT:T->(OT->Prop)->Prop
 |.str s,q=>s.length<=sizeLine/\q (.fz (.int s.length))
 |_,_=>False
def aoa:T->(OT->Prop)->Prop
 |.dct ks _,q=>q (.fz (.int ks.length))
 |_,_=>False
theorem X8:i_ X (.builtin "len") (λxs H Q=>∃p kvs,xs=[.ref p]/\Rd H p (.dK kvs)/\Q (.int kvs.length) H):=by
 intro aa s σ H xs us Q I r h;obtain⟨p,kvs,rfl,hp,q⟩:=h;obtain⟨u,rfl,rx⟩:=vals1 r;cases rx;have hok:kvs.length<=sizeLine/\(p==sysModules)=false/\∃vs,KV kvs vs/\s.heap.DictOf (iM X.prog X.w) p vs:=by
  rcases hp with hp|⟨o,hp⟩
  .exact I.hok p _ hp
  .exact(I.hok p _ hp).2
 obtain⟨hz,hS,vs,rr,m⟩:=hok;have hl:=wj;have aI:kvs.length=vs.length:=rr.length;exact call_len_dict hS m (by lia) ⟨.int kvs.length,H,I.tok _,⟨_,by rw[aI]⟩,q⟩
theorem Wu:GC X (.builtin "len") (g1 aoa):=.one X8 λS t x H Q R rx hg k=>by
 cases t<;>try exact hg.elim
 obtain⟨p,xs,rfl,e,l,r⟩:=rx.dctI;exact⟨p,_,rfl,dI.rd e,k H _ _ hg (.refl _) (NR.fz (by rw[VY,l,UV];exact .int _))⟩
def alH:T->(OT->Prop)->Prop
 |.int i,q=>q (.fz (.int i.natAbs))
 |_,_=>False
theorem HB:GC X (.builtin "abs") (g1 alH):=.one Z2 λS t x H Q R rx hg k=>by
 cases t<;>try exact hg.elim
 cases rx;exact⟨_,rfl,k H _ _ hg (.refl _) (NR.fz (by rw[agM];exact .int _))⟩
theorem bZ.ints{K:Frag}{F:Hp} : ∀{xs:Ζ}{ns:List Int},bZ K F xs (ns.map T.int)->xs=ns.map V.int
 |_,[],.nil=>rfl
 |_,n::ns,.cons a b=>by cases a;rw[bZ.ints b];rfl
theorem bZ.bls{K:Frag}{F:Hp} : ∀{xs:Ζ}{ns:List Bool},bZ K F xs (ns.map T.bl)->xs=ns.map V.bl
 |_,[],.nil=>rfl
 |_,n::ns,.cons a b=>by cases a;rw[bZ.bls b];rfl
theorem Fj{K:Frag}{F:Hp} : ∀(ns:List Int),bZ K F (ns.map V.int) (ns.map T.int)
 |[]=>.nil
 |_::ns=>.cons (.int _) (Fj ns)
def am4:T->(OT->Prop)->Prop
 |.lst ts,q=>∃ns:List Int,ts=ns.map T.int/\q (.fz (.int ns.sum))
 |_,_=>False
theorem VG(hc:X.calm=true):GC X (.builtin "sum") (g1 am4):=.one (YJ hc) λS t x H Q R rx hg k=>by
 cases t<;>try exact hg.elim
 obtain⟨p,xs,rfl,e,r⟩:=rx.lstI;obtain⟨ns,rfl,q⟩:=hg;exact⟨p,ns,rfl,(r.ints ▸ (cW e).2),k H _ _ q (.refl _) (NR.fz (.int _))⟩
def ajP(f:List Bool->Bool):T->(OT->Prop)->Prop
 |.lst ts,q=>∃bs:List Bool,ts=bs.map T.bl/\q (.fz (.bl (f bs)))
 |_,_=>False
theorem Uu(hc:X.calm=true):GC X (.builtin "all") (g1 (ajP λbs=>bs.all λb=>b)):=.one (Xl hc) λS t x H Q R rx hg k=>by
 cases t<;>try exact hg.elim
 obtain⟨p,xs,rfl,e,r⟩:=rx.lstI;obtain⟨ns,rfl,q⟩:=hg;exact⟨p,ns,rfl,(r.bls ▸ (cW e).2),k H _ _ q (.refl _) (NR.fz (.bl _))⟩
theorem aeV(hc:X.calm=true):GC X (.builtin "any") (g1 (ajP λbs=>bs.any λb=>b)):=.one (YB hc) λS t x H Q R rx hg k=>by
 cases t<;>try exact hg.elim
 obtain⟨p,xs,rfl,e,r⟩:=rx.lstI;obtain⟨ns,rfl,q⟩:=hg;exact⟨p,ns,rfl,(r.bls ▸ (cW e).2),k H _ _ q (.refl _) (NR.fz (.bl _))⟩
def anI:T->(OT->Prop)->Prop
 |.lst ts,q=>∃ns:List Int,ts=ns.map T.int/\ns.length<64/\∀ms:List Int,ms.Perm ns->ms.Pairwise (· <= ·)->q (.l1 (ms.map T.int))
 |_,_=>False
theorem Yo:GC X (.builtin "sorted") (g1 anI):=.one Ye λS t x H Q R rx hg k=>by
 cases t<;>try exact hg.elim
 obtain⟨p,xs,rfl,e,r⟩:=rx.lstI;obtain⟨ns,rfl,l,q⟩:=hg;exact⟨p,ns,rfl,(r.ints ▸ (cW e).2),l,λms a ha m1 m2=>k _ _ _ (q ms m1 m2) (Same.upd ha) (Af (Fj ms) (Same.upd ha) ha cM)⟩
def ajE:T->(OT->Prop)->Prop
 |.lst ts,q=>q (.l1 ts)
 |_,_=>False
theorem Cu:GC X (.type "list") (g1 ajE):=.one VP λS t x H Q R rx hg k=>by
 cases t<;>try exact hg.elim
 obtain⟨p,xs,rfl,e,r⟩:=rx.lstI;exact⟨p,xs,rfl,(cW e).2,λa ha=>k _ _ _ hg (Same.upd ha) (Af r (Same.upd ha) ha cM)⟩
def anN:T->(OT->Prop)->Prop
 |.int i,q=>q (.fz (.int i))
 |.bl b,q=>q (.fz (.int (if b then 1 else 0)))
 |_,_=>False
theorem aeF:GC X (.type "int") (g1 anN):=.one X4 λS t x H Q R rx hg k=>by
 cases t<;>try exact hg.elim
 .cases rx;exact .inr ⟨_,rfl,k H _ _ hg (.refl _) (NR.fz (.int _))⟩
 .cases rx;exact .inl ⟨_,rfl,k H _ _ hg (.refl _) (NR.fz (.int _))⟩
inductive Knd where
 |int|bool|str|list|tuple
noncomputable def Knd.s:Knd->String
 |.int=>"int"
 |.bool=>"bool"
 |.str=>"str"
 |.list=>"list"
 |.tuple=>"tuple"
noncomputable def isK:Knd->T->Option Bool
 |.int,.int _=>some true
 |.int,.bl _=>some true
 |.bool,.bl _=>some true
 |.str,.str _=>some true
 |.list,.lst _=>some true
 |.tuple,.tup _=>some true
 |_,.any=>none
 |_,.val _=>none
 |_,.scr _=>none
 |_,.ins _ _ _=>none
 |_,.dct _ _=>none
 |_,_=>some false
theorem afN(kd:Knd):GC X (.builtin "isinstance") (λts q=>match ts with|[t,.val v]=>v=.ty kd.s/\oT (isK kd t) λb=>q (.fz (.bl b))|_=>False):=by
 intro aa s σ H xs us Q I rs h;obtain⟨S,ts,R,_,rp,hg,k⟩:=h
 match ts,hg with
 |[t,.val v],hg =>
  obtain⟨x,y,rfl,rx,ry⟩:=rp.two;cases ry;obtain⟨rfl,hg⟩:=hg;obtain⟨b,j,q⟩:=aeb hg;have hk:kd.s∈["bool","int","str","list","tuple","dict"]:=by cases kd<;>decide
  cases t with
  |tup ts =>
   obtain⟨p,ys,rfl,e,r⟩:=rx.tupI;have eb:b=MK "tuple" kd.s:=by cases kd<;>cases j<;>decide
   exact Qz aa s σ H _ us Q I rs ⟨p,kd.s,ys,rfl,hk,dI.tup e,k H _ _ q (.refl _) (NR.fz (eb ▸ .bl _))⟩
  |lst ts =>
   obtain⟨p,ys,rfl,e,r⟩:=rx.lstI;have eb:b=MK "list" kd.s:=by cases kd<;>cases j<;>decide
   exact xM aa s σ H _ us Q I rs ⟨_,kd.s,"list",rfl,hk,by show(match H p with|some (.lst _)=>some "list" |some (.tup _)=>some "tuple" |some (.dK _)=>some "dict" |_=>none)=_;rw[(cW e).2],k H _ _ q (.refl _) (NR.fz (eb ▸ .bl _))⟩
  |non =>
   cases rx;have eb:b=MK "NoneType" kd.s:=by cases kd<;>cases j<;>decide
   exact xM aa s σ H _ us Q I rs ⟨_,kd.s,"NoneType",rfl,hk,rfl,k H _ _ q (.refl _) (NR.fz (eb ▸ .bl _))⟩
  |bl c =>
   cases rx;have eb:b=MK "bool" kd.s:=by cases kd<;>cases j<;>decide
   exact xM aa s σ H _ us Q I rs ⟨_,kd.s,"bool",rfl,hk,rfl,k H _ _ q (.refl _) (NR.fz (eb ▸ .bl _))⟩
  |int i =>
   cases rx;have eb:b=MK "int" kd.s:=by cases kd<;>cases j<;>decide
   exact xM aa s σ H _ us Q I rs ⟨_,kd.s,"int",rfl,hk,rfl,k H _ _ q (.refl _) (NR.fz (eb ▸ .bl _))⟩
  |str c =>
   cases rx;have eb:b=MK "str" kd.s:=by cases kd<;>cases j<;>decide
   exact xM aa s σ H _ us Q I rs ⟨_,kd.s,"str",rfl,hk,rfl,k H _ _ q (.refl _) (NR.fz (eb ▸ .bl _))⟩
  |_=>cases kd<;>cases j
def alX(kd:Knd)(a:RE):RE:=λo q=>a o λx=>oT (isK kd (frz x)) λb=>q (.fz (.bl b))
theorem j6(kd:Knd){a:Expr}{ra:RE}{y:Str}{p2:Pos}(ha:QE X a ra)(hg:Gl X "isinstance")(hm:X.mg "isinstance"=none)(hg2:Gl X y)(j2:X.mg y=none)(kG:bootBuiltins y=some (.type kd.s))(hG:y≠"__name__":=by decide)(k6:(y==("__debug__":Str))=false:=by decide)
 (he:starEach (a::[.Name y p2]) X.env=(false,eval a X.env)::starEach [.Name y p2] X.env:=by rfl):QE X (.Call (.Name "isinstance" p) [a,.Name y p2] [] pos) (alX kd ra) :=
 (SN (afN kd) hg hm boot_isinstance (pF ha (pF (adI (v:=.ty kd.s) hg2 j2 kG rfl hG k6) M7) he) (by decide) (by decide) he).imp λσ H Q ⟨own,o,R,h,hr,k⟩=>tQ.mk h hr λH1 v x q E1 r1 =>
  ⟨Ow own,[frz x,.val (.ty kd.s)],R,λb z=>((h.same E1).sole z).ne,.cons r1 (.cons (.val _) .nil),⟨rfl,q⟩,λH' v z rz E n=>k H' v z rz (E1.trans E) (n.back E1)⟩
end
structure DT where
 nx:List OT->Prop
 rt:OT->Prop
 bk:List OT->Prop:=λ_=>False
 ct:List OT->Prop:=λ_=>False
abbrev RS:=DT->List OT->Prop
structure Lnk(K:Frag)(F:Hp)(E:DT)(D:Ends):Prop where
 nx:∀own H σ o,E.nx o->Same F (hd (Ow own) H)->SR K own H σ o->D.nx σ H
 rt:∀S H v x B,E.rt x->Same F (hd S H)->Slo K (hd S H) H (some v) B x->(∀a∈B,S a)->D.rt v H
 bk:∀own H σ o,E.bk o->Same F (hd (Ow own) H)->SR K own H σ o->D.bk σ H
 ct:∀own H σ o,E.ct o->Same F (hd (Ow own) H)->SR K own H σ o->D.ct σ H
theorem Lnk.step{K:Frag}{F F':Hp}{E:DT}{D:Ends}(h:Lnk K F E D)(S:Same F F'):Lnk K F' E D :=
 ⟨λown H σ o e s=>h.nx own H σ o e (S.trans s),λT H v x B e s=>h.rt T H v x B e (S.trans s),λown H σ o e s=>h.bk own H σ o e (S.trans s),λown H σ o e s=>h.ct own H σ o e (S.trans s)⟩
def tQS(K:Frag)(r:RS):TS:=λD σ H=>∃own o E,SR K own H σ o/\r E o/\Lnk K (hd (Ow own) H) E D
def QS(X:Cx)(st:Stmt)(r:RS):Prop:=PS X st (tQS X.K r)
def QSs(X:Cx)(st:List Stmt)(r:RS):Prop:=PSs X st (tQS X.K r)
theorem PS.imp{X:Cx}{st:Stmt}{t t':TS}(h:PS X st t)(i:∀D σ H,t' D σ H->t D σ H):PS X st t':=λaa s σ H D I q=>h aa s σ H D I (i D σ H q)
theorem PSs.imp{X:Cx}{st:List Stmt}{t t':TS}(h:PSs X st t)(i:∀D σ H,t' D σ H->t D σ H):PSs X st t':=λaa s σ H D I q=>h aa s σ H D I (i D σ H q)
def ak7:RS:=λE o=>E.nx o
def jc(a b:RS):RS:=λE o=>a { E with nx:=b E } o
def ag2(i:Nat)(a:RE):RS:=λE o=>a o λx=>E.nx (o.set i (.fz (frz x)))
def af6(i:Nat)(a:RE):RS:=λE o=>a o λx=>E.nx (o.set i x)
def agV(a:RE):RS:=λE o=>a o λ_=>E.nx o
def ams(a:RE):RS:=λE o=>a o E.rt
def aew(i:Nat):RS:=λE o=>match slot o i with|.und=>False|x=>E.rt x
def akS(c:RT)(a b:RS):RS:=λE o=>c o λk=>sw k (a E o) (b E o)
def afr:RS:=λ_ _=>False
def ahI(i:Nat)(a:RS):RS:=λE o=>match slot o i with|.und=>False|x=>a E (o.set i (.fz (frz x)))
section
variable{K:Frag}{own:Nat->Ψ}{H H':Hp}{σ:L2.St}{o:List OT}
theorem SR.putA(h:SR K own H σ o)(E:Same H H'){v:V}{x:OT}(n:NR K (Ow own) H H' v x)(i:Nat):∃ah,SR K ah H' (σ.set i (some v)) (o.set i x)/\Same (hd (Ow own) H) (hd (Ow ah) H'):=by
 by_cases hi:i<o.length
 .exact h.put E n hi
 .rw[Zzu (Nat.not_lt.mp hi),Zzu (h.len ▸ Nat.not_lt.mp hi)];exact⟨own,h.same E,bV E⟩
theorem NR.frz{S:Addr->Prop}{v:V}{x:OT}(n:NR K S H H' v x)(hs:∀b,S b->H b≠none):NR K S H H' v (.fz (L2.frz x)):=NR.fz (n.rep hs)
theorem Slo.val{F:Hp}{v:Option V}{A:Ψ}{x:OT}(h:Slo K F H v A x)(n:x≠.und):∃u,v=some u:=by
 cases x with
 |und=>exact absurd rfl n
 |fz t=>exact⟨_,h.2.choose_spec.1⟩
 |l1 ts=>obtain⟨a,xs,e,_⟩:=h;exact⟨_,e⟩
 |l2 ts=>obtain⟨a,xs,e,_⟩:=h;exact⟨_,e⟩
 |d1 ks ts=>obtain⟨a,xs,e,_⟩:=h;exact⟨_,e⟩
 |ob a d C ks ts=>obtain⟨xs,e,_⟩:=h;exact⟨_,e⟩
 |la a ts=>obtain⟨xs,e,_⟩:=h;exact⟨_,e⟩
theorem SR.val(h:SR K own H σ o){i:Nat}{x:OT}(e:slot o i=x)(n:x≠.und):∃u,σ[i]?=some (some u)/\Slo K (hd (Ow own) H) H (some u) (own i) x:=by
 have s:=h.sl i x (gZ e n);obtain⟨u,hu⟩:=s.val n;rw[hu]at s;refine⟨u,?_,s⟩;cases z:σ[i]? with
 |none=>rw[z]at hu;cases hu
 |some w=>rw[z]at hu;exact ZH some hu
end
section
variable{X:Cx}{st:Stmt}{sts:List Stmt}{a b:RS}{e:Expr}{re:RE}{pos:Pos}
theorem bT:QSs X [] ak7:=acP.imp λD σ H hP=>by obtain⟨own,o,E,h,hr,L⟩:=hP;exact L.nx own H σ o hr (.refl _) h
theorem amt{D:Ends}{σ:L2.St}{H:Hp}(h:tQS X.K (jc a b) D σ H):ahM (tQS X.K a) (tQS X.K b) D σ H:=by
 obtain⟨own,o,E,h,hr,L⟩:=h;exact⟨own,o,_,h,hr,λah H' σ' o' q S h'=>⟨ah,o',E,h',q,L.step S⟩,L.rt,L.bk,L.ct⟩
theorem bF(h1:QS X st a)(h2:QSs X sts b):QSs X (st::sts) (jc a b):=(Zf h1 h2).imp λ_ _ _=>amt
theorem bG(h:QS X st a):QSs X [st] a:=acK h
theorem bO(i:Nat){x:Str}{br:Pos}(hN:X.N.Nodup)(hx:Loc X.env.scope x)(he:QE X e re)(hi:X.N[i]?=some x:=by rfl)(hs:swapsWith e (some (.Name x br)) pos.line X.env=pure false:=by rfl)(hf:X.fn x=true\/X.env.scope.names.lookup x=some .local:=by first|exact .inl rfl|exact .inr rfl|assumption) :
  QS X (.Assign [.Name x br] e pos) (ag2 i re):=(ZW hN hi hx he hs hf).imp λD σ H ⟨own,o,E,h,hr,L⟩=>⟨own,o,_,h,hr,λH' v y q S n=>by
 obtain⟨ah,h',S'⟩:=h.putA S (n.frz λb z=>(h.sole z).ne) i;exact L.nx ah H' _ _ q S' h'⟩
theorem iw(i:Nat){x:Str}{br:Pos}(hN:X.N.Nodup)(hx:Loc X.env.scope x)(he:QE X e re)(hi:X.N[i]?=some x:=by rfl)(hs:swapsWith e (some (.Name x br)) pos.line X.env=pure false:=by rfl)(hf:X.fn x=true\/X.env.scope.names.lookup x=some .local:=by first|exact .inl rfl|exact .inr rfl|assumption) :
  QS X (.Assign [.Name x br] e pos) (af6 i re):=(ZW hN hi hx he hs hf).imp λD σ H ⟨own,o,E,h,hr,L⟩=>⟨own,o,_,h,hr,λH' v y q S n=>by
 obtain⟨ah,h',S'⟩:=h.putA S n i;exact L.nx ah H' _ _ q S' h'⟩
theorem jF(he:QE X e re)(hs:swapsWith e none pos.line X.env=pure false:=by rfl):QS X (.Expr e pos) (agV re):=(yZ he hs).imp λD σ H hP=>by obtain⟨own,o,E,h,hr,L⟩:=hP;exact⟨own,o,_,h,hr,λH' v y q S n=>L.nx own H' σ o q (bV S) (h.same S)⟩
theorem bM(he:QE X e re):QS X (.Return (some e) pos) (ams re):=(Uy he).imp λD σ H ⟨own,o,E,h,hr,L⟩=>⟨own,o,_,h,hr,λH' v y q S n=>by
 obtain⟨B,nb,s⟩:=n;exact L.rt _ H' v y B q (g8 (λb z=>z.imp id (nb b)) S) s λa ha=>.inr ha⟩
theorem jy(i:Nat){x:Str}{p:Pos}(hN:X.N[i]?=some x:=by rfl)(hv:sV X.env.scope x=true:=by rfl)(hd:(x==("__debug__":Str))=false:=by decide)(be:(x==("__classdict__":Str))=false:=by decide):QS X (.Return (some (.Name x p)) pos) (aew i):=(Uy (pv i hN hv hd be)).imp λD σ H hP=>by
 obtain⟨own,o,E,h,hr,L⟩:=hP;have hr:E.rt (slot o i)/\slot o i≠.und:=by
  unfold aew at hr;cases e:slot o i<;>rw[e]at hr<;>first|exact hr.elim|exact⟨hr,λz=>by cases z⟩
 obtain⟨u,e,s⟩:=h.val rfl hr.2;exact⟨u,e,L.rt (Ow own) H u _ _ hr.1 (.refl _) s λa ha=>⟨i,ha⟩⟩
theorem cB{c:Expr}{ss ts:List Stmt}{qc:RT}(hc:QT X c qc)(ha:QSs X ss a)(hb:QSs X ts b):QS X (.If c ss ts pos) (akS qc a b):=(alp hc ha hb).imp λD σ H ⟨own,o,E,h,hr,L⟩=>tQT.mk h hr λH1 c q E1 =>
 I_ q (λq=>⟨own,o,E,h.same E1,q,L.step (bV E1)⟩) λq=>⟨own,o,E,h.same E1,q,L.step (bV E1)⟩
theorem fQ:QS X st afr:=abw.imp λD σ H hP=>by obtain⟨own,o,E,h,hr,L⟩:=hP;exact hr
theorem JB(i:Nat)(hs:QS X st a):QS X st (ahI i a):=PS.imp hs λD σ H hP=>by
 obtain⟨own,o,E,h,hr,L⟩:=hP;have hr:a E (o.set i (.fz (frz (slot o i))))/\slot o i≠.und:=by
  unfold ahI at hr;cases e:slot o i<;>rw[e]at hr<;>first|exact hr.elim|exact⟨hr,λz=>by cases z⟩
 obtain⟨u,e1,s⟩:=h.val rfl hr.2;obtain⟨ah,h',S⟩:=h.frz (gZ rfl hr.2) e1;exact⟨ah,_,E,h',hr.1,L.step S⟩
theorem Ep{S:Addr->Prop}{H:Hp}{D:Addr}{u:HO}(h:S D):hd S (upd H D u)=hd S H:=funext λb=>by
 by_cases z:S b
 .rw[pY z,pY z]
 .rw[cU z,cU z,cD λ(e:b=D)=>z (e.symm ▸ h)]
noncomputable def asL:OT->Option (List T×(List T->OT))
 |.l1 ts=>some (ts,.l1)
 |.la a ts=>some (ts,.la a)
 |_=>none
def onL(x:OT)(k:List T->(List T->OT)->Prop):Prop:=match asL x with|some (ts,c)=>k ts c|none=>False
theorem Eb{x:OT}{k:List T->(List T->OT)->Prop}(h:onL x k):∃ts c,k ts c/\((x=.l1 ts/\c=.l1)\/∃a,x=.la a ts/\c=.la a):=by
 cases x with
 |l1 ts=>exact⟨ts,_,h,.inl ⟨rfl,rfl⟩⟩
 |la a ts=>exact⟨ts,_,h,.inr ⟨a,rfl,rfl⟩⟩
 |_=>exact h.elim
def amM(i:Nat)(a:RE):RS:=λE o=>onL (slot o i) λts c=>a o λy=>ts.length<sizeLine/\E.nx (o.set i (c (ts++[frz y])))
theorem SR.l1{K:Frag}{own:Nat->Ψ}{H:Hp}{σ:L2.St}{o:List OT}(h:SR K own H σ o){i:Nat}{ts:List T}{c:List T->OT}(e:(slot o i=.l1 ts/\c=.l1)\/∃a,slot o i=.la a ts/\c=.la a):∃l xs,σ[i]?=some (some (.ref l))/\own i=[l]/\H l=some (.lst xs)/\bZ K (hd (Ow own) H) xs ts/\∀(H':Hp)(ys:Ζ)us,H' l=some (.lst ys)->bZ K (hd (Ow own) H') ys us->Slo K (hd (Ow own) H') H' (some (.ref l)) [l] (c us):=by
 rcases e with⟨e,rfl⟩|⟨a,e,rfl⟩
 .obtain⟨u,e1,l,xs,e2,e3,e4,r⟩:=h.val e (by intro z;cases z);cases e2;exact⟨l,xs,e1,e3,e4,r,λH' ys us a b=>⟨l,ys,rfl,rfl,a,b⟩⟩
 .obtain⟨u,e1,xs,e2,e3,e4,r⟩:=h.val e (by intro z;cases z);cases e2;exact⟨a,xs,e1,e3,e4,r,λH' ys us a b=>⟨ys,rfl,rfl,a,b⟩⟩
theorem Jg{o:List OT}{i:Nat}{ts:List T}{c:List T->OT}(e:(slot o i=.l1 ts/\c=.l1)\/∃a,slot o i=.la a ts/\c=.la a):∃x,o[i]?=some x:=by
 rcases e with⟨e,_⟩|⟨a,e,_⟩
 .exact⟨_,gZ e (by intro z;cases z)⟩
 .exact⟨_,gZ e (by intro z;cases z)⟩
theorem SR.chg1{K:Frag}{own:Nat->Ψ}{H:Hp}{σ:L2.St}{o:List OT}(h:SR K own H σ o){i:Nat}{us:List T}{c:List T->OT}(e:∃x,o[i]?=some x){l:Addr}{ys:Ζ}(eσ:σ[i]?=some (some (.ref l)))(eo:own i=[l])(sl:∀(H':Hp)(ys:Ζ)us,H' l=some (.lst ys)->bZ K (hd (Ow own) H') ys us->Slo K (hd (Ow own) H') H' (some (.ref l)) [l] (c us))(r:bZ K (hd (Ow own) H) ys us):SR K own (upd H l (.lst ys)) σ (o.set i (c us))/\Same (hd (Ow own) H) (hd (Ow own) (upd H l (.lst ys))):=by
 obtain⟨x,e⟩:=e;refine h.chg e (λb u hb e=>(cD λz=>hb (by rw[eo,z];simp)).trans e) ?_;rw[eσ,eo];exact sl _ ys us cM (by rw[Ep ⟨i,by rw[eo];simp⟩];exact r)
theorem nY(i:Nat){x:Str}{am ag p:Pos}(he:QE X e re)(hN:X.N[i]?=some x:=by rfl)(hv:sV X.env.scope x=true:=by rfl)(bu:(x==("__debug__":Str))=false:=by decide)(be:(x==("__classdict__":Str))=false:=by decide)
 (hb:attributeBase (.Name x p) "append" X.env (eval (.Name x p) X.env)=eval (.Name x p) X.env:=by rfl)
 (hf:((backTo ag (starEach [e] X.env)).all (λx=>!x.1)&&(backToKw ag (keywordEach [] X.env)).all (λx=>x.1.isSome)&&decide ([e].length+([] : List Keyword).length+(if([] : List Keyword).isEmpty then 0 else 1)<30))=true:=by rfl)
 (hl:(am.endLine==ag.line)=true:=by rfl)(b8:starEach [e] X.env=(false,eval e X.env)::starEach [] X.env:=by rfl)(hp:(backTo ag (starEach [] X.env)).any (·.1)=false:=by rfl)
 (hs:swapsWith (.Call (.Attribute (.Name x p) "append" am) [e] [] ag) none pos.line X.env=pure false:=by rfl) :
  QS X (.Expr (.Call (.Attribute (.Name x p) "append" am) [e] [] ag) pos) (amM i re):=(yZ (ZD (pv i hN hv bu be) (pF he M7 b8) hb hf hl b8 hp) hs).imp λD σ H hP=>by
 obtain⟨own,o,E,h,hr,L⟩:=hP;obtain⟨ts,c,hr,es⟩:=Eb hr;obtain⟨l,xs,e1,e2,e3,r,sl⟩:=h.l1 es;refine⟨_,e1,l,xs,rfl,e3,tQ.mk h hr λH1 v y q E1 r1=>⟨v,xs,rfl,E1 _ _ e3,by rw[r.len];exact q.1,?_⟩⟩;obtain⟨h',S⟩:=(h.same E1).chg1 (Jg es) e1 e2 sl ((r.same (bV E1)).app (.cons r1 .nil));exact L.nx own _ σ _ q.2 ((bV E1).trans S) h'
def alI(i:Nat)(a b:RE):RS:=λE o=>onL (slot o i) λts c=>a o λy=>b o λk=>(match frz k with|.int j=>∃n,ixN ts.length j=some n/\E.nx (o.set i (c (ts.set n (frz y))))|_=>False)
theorem DW(i:Nat){x:Str}{k:Expr}{rk:RE}{ay p:Pos}(he:QE X e re)(hk:QE X k rk)(hN:X.N[i]?=some x:=by rfl)(hv:sV X.env.scope x=true:=by rfl)(bu:(x==("__debug__":Str))=false:=by decide)(be:(x==("__classdict__":Str))=false:=by decide)
 (ha:∀v,assign (.Subscript (.Name x p) k ay) X.env v=(do
   let ov <- holding [v] (eval (.Name x p) X.env)
   let iv <- holding [v,ov] (eval k X.env)
   standAt ay
   holding [v,ov,iv] (setItem ov iv v)
   release [v,ov,iv] []):=by intro _;rfl)
 (hs:swapsWithSole [.Subscript (.Name x p) k ay] e pos.line X.env=pure false:=by rfl)(hw:swappedStores [.Subscript (.Name x p) k ay] e X.env=pure none:=by rfl)
 (h1:(assignEach [.Subscript (.Name x p) k ay] X.env).map (·.2)=[assign (.Subscript (.Name x p) k ay) X.env]:=by rfl):QS X (.Assign [.Subscript (.Name x p) k ay] e pos) (alI i re rk):=(TV he (ZS (pv i hN hv bu be) hk set_list ha) hs hw h1).imp λD σ H hP=>by
 obtain⟨own,o,E,h,hr,L⟩:=hP;obtain⟨ts,c,hr,es⟩:=Eb hr;obtain⟨l,xs,e1,e2,e3,r,sl⟩:=h.l1 es;refine tQ.mk h hr λH1 v y q E1 r1=>⟨_,e1,tQ.mk (h.same E1) q λH2 w z q E2 r2=>?_⟩;have r1:=r1.same (bV E2)
 revert r2 q
 generalize frz z=t;intro q r2;cases t<;>try exact q.elim
 cases r2;obtain⟨n,en,q⟩:=q;have bP:=E1.trans E2;refine⟨l,xs,_,n,rfl,rfl,bP _ _ e3,by rw[r.len];exact en,?_⟩;obtain⟨h',S⟩:=(h.same bP).chg1 (Jg es) e1 e2 sl (bZ.set r1 n (r.same (bV bP)));exact L.nx own _ σ _ q ((bV bP).trans S) h'
def amX(i:Nat)(b:RE):RE:=λo q=>onL (slot o i) λts _=>b o λy=>(match frz y with|.int j=>∃t,ixT ts j=some t/\q (.fz t)|_=>False)
theorem tY(i:Nat){x:Str}{p:Pos}{b:Expr}{rb:RE}(hb:QE X b rb)(hN:X.N[i]?=some x:=by rfl)(hv:sV X.env.scope x=true:=by rfl)(bu:(x==("__debug__":Str))=false:=by decide)
 (be:(x==("__classdict__":Str))=false:=by decide)(hs:uR b:=by exact λ_ _=>rfl):QE X (.Subscript (.Name x p) b pos) (amX i rb):=(K8 yW (pv i hN hv bu be) hb hs).imp λσ H Q hP=>by
 obtain⟨own,o,R,h,hr,k⟩:=hP;obtain⟨ts,c,hr,es⟩:=Eb hr;obtain⟨a,xs,e1,e2,e3,r,sl⟩:=h.l1 es;refine⟨_,e1,tQ.mk h hr λH1 v y q E1 r1=>?_⟩
 revert r1 q
 generalize frz y=t;intro q r1;cases t<;>try exact q.elim
 cases r1;obtain⟨t,j,q⟩:=q;obtain⟨v,e',r'⟩:=r.ix j;exact⟨a,xs,_,v,rfl,rfl,.of (E1 _ _ e3),e',k H1 _ _ q E1 (NR.fz (r'.same (bV E1)))⟩
def ad8(i:Nat)(f:Int->Int->Int)(a:RE):RS:=λE o=>match slot o i with|.fz (.int k)=>a o λy=>(match frz y with|.int j=>E.nx (o.set i (.fz (.int (f k j))))|_=>False)|_=>False
theorem aeX(i:Nat){x:Str}{op:Operator}{f:Int->Int->Int}{br:Pos}(hN:X.N.Nodup)(hx:Loc X.env.scope x)(ho:PIp X op (ipI f))(he:QE X e re)(hi:X.N[i]?=some x:=by rfl)(hf:X.fn x=true\/X.env.scope.names.lookup x=some .local:=by first|exact .inl rfl|exact .inr rfl|assumption):QS X (.AugAssign (.Name x br) op e pos) (ad8 i f re):=(agg hN hi hx he ho hf).imp λD σ H hP=>by
 obtain⟨own,o,E,h,hr,L⟩:=hP;unfold ad8 at hr;cases es:slot o i with
 |fz t =>
  rw[es]at hr;cases t<;>try exact hr.elim
  obtain⟨u,e1,r⟩:=h.get (gZ es (by intro z;cases z));cases r;refine⟨_,e1,tQ.mk h hr λH1 v y q E1 r1=>?_⟩
  revert r1 q
  generalize frz y=t;intro q r1;cases t<;>try exact q.elim
  cases r1;refine⟨_,_,rfl,rfl,?_⟩;obtain⟨ah,h',S⟩:=(h.same E1).putA (.refl _) (NR.fz (.int _)) i;exact L.nx ah _ _ _ q ((bV E1).trans S) h'
 |_=>rw[es]at hr;exact hr.elim
def Eu(n:Nat)(own ah:Nat->Ψ)(σ σ':L2.St):Prop:=(∀j,ah j=own j\/(j<n/\ah j=[]))/\σ'.length=σ.length/\∀j,n<=j->σ'[j]?=σ[j]?
theorem Eu.refl{n:Nat}{own:Nat->Ψ}{σ:L2.St} : Eu n own own σ σ:=⟨λ_=>.inl rfl,rfl,λ_ _=>rfl⟩
theorem Eu.trans{n:Nat}{own own1 bS:Nat->Ψ}{σ σ1 σ2:L2.St}(a:Eu n own own1 σ σ1)(b:Eu n own1 bS σ1 σ2):Eu n own bS σ σ2 :=
 ⟨λj=>(b.1 j).elim (λe=>(a.1 j).imp (λz=>e.trans z) λz=>⟨z.1,e.trans z.2⟩) .inr,b.2.1.trans a.2.1,λj hj=>(b.2.2 j hj).trans (a.2.2 j hj)⟩
theorem Eu.same{n:Nat}{own ah:Nat->Ψ}{σ σ':L2.St}(a:Eu n own ah σ σ'){H:Hp} : Same (hd (Ow own) H) (hd (Ow ah) H):=g8 (λb hP=>by obtain⟨j,z⟩:=hP;exact .inl ⟨j,(a.1 j).elim (λe=>e ▸ z) λe=>by rw[e.2]at z;cases z⟩) λ_ _ z=>z
def tQG(K:Frag)(n:Nat)(g:T->List OT->(List OT->Prop)->Prop):TG:=λv σ H Q=>∃own o t R,SR K own H σ o/\Rep K (hd (Ow own) H) v t/\g t o R/\∀ah σ' o',R o'->Eu n own ah σ σ'->SR K ah H σ' o'->Q σ' H
def QG(X:Cx)(n:Nat)(tg:Expr)(g:T->List OT->(List OT->Prop)->Prop):Prop:=PG X tg (tQG X.K n g)
def QGs(X:Cx)(n:Nat)(tg:List Expr)(g:List T->List OT->(List OT->Prop)->Prop):Prop:=PGs X tg λv σ H Q=>∃own o t R,SR X.K own H σ o/\bZ X.K (hd (Ow own) H) v t/\g t o R/\∀ah σ' o',R o'->Eu n own ah σ σ'->SR X.K ah H σ' o'->Q σ' H
theorem PGs.imp{tg:List Expr}{t t':TGs}(h:PGs X tg t)(i:∀v σ H Q,t' v σ H Q->t v σ H Q):PGs X tg t':=λaa s σ H v u Q I r q=>h aa s σ H v u Q I r (i _ _ _ _ q)
def hName(i:Nat):T->List OT->(List OT->Prop)->Prop:=λt o q=>q (o.set i (.fz t))
def am6:List T->List OT->(List OT->Prop)->Prop:=λts o q=>match ts with|[]=>q o|_=>False
def agY(g:T->List OT->(List OT->Prop)->Prop)(gs:List T->List OT->(List OT->Prop)->Prop):List T->List OT->(List OT->Prop)->Prop:=λts o q=>match ts with|t::ts=>g t o λo'=>gs ts o' q|_=>False
def alL(n:Nat)(gs:List T->List OT->(List OT->Prop)->Prop):T->List OT->(List OT->Prop)->Prop:=λt o q=>match t with|.tup ts=>ts.length=n/\gs ts o q|_=>False
theorem SR.setF{K:Frag}{own:Nat->Ψ}{H:Hp}{σ:L2.St}{o:List OT}(h:SR K own H σ o){v:V}{t:T}(r:Rep K (hd (Ow own) H) v t){n i:Nat}(hi:i<n):∃ah,SR K ah H (σ.set i (some v)) (o.set i (.fz t))/\Eu n own ah σ (σ.set i (some v)):=by
 have le:Same (hd (Ow own) H) (hd (Ow (own1 own i [])) H):=g8 (λb z=>.inl (z.of1.elim id λy=>(nomatch y))) λ_ _ z=>z;have go:Eu n own (own1 own i []) σ (σ.set i (some v)):=⟨λj=>by
  by_cases z:j=i
  .exact .inr ⟨z ▸ hi,by rw[z,jd]⟩
  .exact .inl (fu z),VU,λj hj=>UQ (by lia)⟩
 by_cases hl:i<o.length
 .refine⟨own1 own i [],⟨by rw[VU,VU,h.len],λj y e=>?_,λj hj a ha=>?_,λj k a e1 e2=>?_⟩,go⟩
  .by_cases z:j=i
   .subst z;rw[Ts hl]at e;cases e;rw[jd,Ts (h.len ▸ hl)];exact⟨rfl,v,rfl,r.same le⟩
   .rw[UQ (Ne.symm z)]at e;rw[fu z,UQ (Ne.symm z)];exact(h.sl j y e).same le λ_ _ z=>z
  .rw[VU]at hj;rw[fu (by lia)]at ha;exact h.out j hj a ha
  .by_cases z:j=i
   .rw[z,jd]at e1;cases e1
   by_cases y:k=i
   .rw[y,jd]at e2;cases e2
   .rw[fu z]at e1;rw[fu y]at e2;exact h.dis j k a e1 e2
 .refine⟨own,?_,⟨λ_=>.inl rfl,go.2⟩⟩;rw[Zzu (Nat.not_lt.mp hl),Zzu (h.len ▸ Nat.not_lt.mp hl)];exact h
theorem b_{n:Nat}(i:Nat){x:Str}(hN:X.N.Nodup)(hx:Loc X.env.scope x)(hi:X.N[i]?=some x:=by rfl)(hn:i<n:=by decide)(hf:X.fn x=true\/X.env.scope.names.lookup x=some .local:=by first|exact .inl rfl|exact .inr rfl|assumption):QG X n (.Name x pos) (hName i):=(m6 hN hi hx hf).imp λv σ H Q hP=>by
 obtain⟨own,o,t,R,h,r,hg,k⟩:=hP;obtain⟨ah,h',S⟩:=h.setF r hn;exact k ah _ _ hg S h'
theorem dO{n:Nat} : QGs X n [] am6:=adO.imp λv σ H Q hP=>by
 obtain⟨own,o,t,R,h,r,hg,k⟩:=hP;cases r with
 |nil=>exact⟨rfl,k own σ o hg .refl h⟩
 |cons _ _=>exact hg.elim
theorem bU{n:Nat}{e:Expr}{es:List Expr}{g:T->List OT->(List OT->Prop)->Prop}{gs:List T->List OT->(List OT->Prop)->Prop}(h1:QG X n e g)(h2:QGs X n es gs)(hs:(assignEach (e::es) X.env).map (·.2)=assign e X.env::(assignEach es X.env).map (·.2):=by rfl):QGs X n (e::es) (agY g gs):=(aaf h1 h2 hs).imp λv σ H Q hP=>by
 obtain⟨own,o,t,R,h,r,hg,k⟩:=hP;cases r with
 |nil=>exact hg.elim
 |cons a b=>exact⟨_,_,rfl,own,o,_,_,h,a,hg,λah σ' o' q S h'=>⟨ah,o',_,R,h',b.same S.same,q,λbS σ2 o2 q S2 h2=>k bS σ2 o2 q (S.trans S2) h2⟩⟩
theorem fD{m:Nat}{es:List Expr}{k:Nat}{gs:List T->List OT->(List OT->Prop)->Prop}{n:Nat}(hc:X.calm=true)(h:QGs X m es gs)(hn:(assignEach es X.env).length=n:=by rfl)(b8:(assignEach es X.env).findIdx? (·.1)=none:=by rfl):QG X m (.Tuple es k pos) (alL n gs):=(afa hc h hn b8).imp λv σ H Q hP=>by
 obtain⟨own,o,t,R,h,r,hg,k⟩:=hP;cases t<;>try exact hg.elim
 obtain⟨a,xs,rfl,e,r⟩:=r.tupI;exact⟨a,xs,rfl,dI.tup e,r.len.trans hg.1,own,o,_,R,h,r,hg.2,k⟩
def al9(a:RE)(g:T->List OT->(List OT->Prop)->Prop):RS:=λE o=>a o λx=>g (frz x) o E.nx
theorem Ul{n:Nat}{tg:Expr}{g:T->List OT->(List OT->Prop)->Prop}(he:QE X e re)(hg:QG X n tg g)(hs:swapsWithSole [tg] e pos.line X.env=pure false:=by rfl)(hw:swappedStores [tg] e X.env=pure none:=by rfl)(h1:(assignEach [tg] X.env).map (·.2)=[assign tg X.env]:=by rfl):QS X (.Assign [tg] e pos) (al9 re g) :=
 (TV he hg hs hw h1).imp λD σ H hP=>by obtain⟨own,o,E,h,hr,L⟩:=hP;exact tQ.mk h hr λH1 v y q E1 r1=>⟨own,o,_,_,h.same E1,r1,q,λah σ' o' q S h'=>L.nx ah H1 σ' o' q ((bV E1).trans S.same) h'⟩
end
section
variable{P:Program}{w:World}{K:Frag}{mg:Str->Ω}{base:Heap}
noncomputable def start'(n:Nat)(ts:List T):List OT:=ts.map OT.fz++List.replicate (n-ts.length) .und
theorem SR.start{H:Hp}{vs:Ζ}{ts:List T}(r:bZ K H vs ts)(N:Φ):SR K (λ_=>[]) H (start N vs) (start' N.length ts):=by
 have e0:Ow (λ_=>[])=λ_=>False:=funext λb=>propext ⟨λhP=>by obtain⟨_,z⟩:=hP;exact(nomatch z),False.elim⟩;refine⟨by unfold start' L2.start;simp[r.len],λi x e=>?_,λ_ _ _ z=>(nomatch z),λi j a z=>(nomatch z)⟩;rw[e0,Xc];unfold start' at e;unfold L2.start;by_cases hi:i<ts.length
 .rw[aF (by simpa using hi),aq,aj hi]at e;cases e;obtain⟨v,e1,r1⟩:=r.at_ (aj hi);rw[aF (by rw[ak,r.len];exact hi),aq,e1];exact⟨rfl,v,rfl,r1⟩
 .rw[aD (by simpa using hi),ak,X0]at e;by_cases hj:i-ts.length<N.length-ts.length
  .rw[ZY hj]at e;cases e;rfl
  .rw[ZZ hj]at e;cases e
theorem Fun.okT{x ai:Str}{st:Stmt}{f:Addr}{fd:FuncData}{N ps:Φ}{k:Nat}{S:ST}(F:Fun K x ai st f fd)(sc:bK N ps (bH st))(len:∀ts R,S ts R->ts.length=ps.length)
 (ce:∀(af:Value)(A:Around)(outer:List Env)(s:Shared)(H:Hp)(E:XK),fB k (A.deeper (envOfC ai (bH st) s.heap.objs.size f af)) ->
   ∃r,QSs (MF CX0 P w K mg base N ai (bH st) f af A outer s H E).nox (fK st) r/\∀ts R,S ts R->r { nx:=λ_=>R (.fz .non),rt:=R } (start' N.length ts)):cj P w K mg base CX0 (k+1) f fd ps (spT K S):=by
 refine F.ok sc (λvs H Q E h=>?_) λaf A outer s H vs Q E hr h=>?_
 .obtain⟨ts,R,r,hS,_⟩:=h;exact r.len.trans (len ts R hS)
 .obtain⟨ts,R,r,hS,q⟩:=h;obtain⟨rd,h1,h2⟩:=ce af A outer s H E hr;have e0:hd (Ow λ_=>[]) H=H:=by rw[show Ow (λ_=>[])=λ_=>False from funext λb=>propext ⟨λhP=>by obtain⟨_,z⟩:=hP;exact(nomatch z),False.elim⟩,Xc]
  have bn:∀(S:Addr->Prop)H' v x B,R x->Same H (hd S H')->Slo K (hd S H') H' (some v) B x->(∀a∈B,S a)->Q v H':=λS' H' v x B rx E s hB =>
   q H' v x rx (E.trans dI) ⟨B,λa ha=>E.free (pY (hB a ha)),s.same (g8 (λb z=>.inl (z.elim False.elim (hB b))) λ_ _ z=>z) λ_ _ z=>z⟩
  refine⟨_,h1,λ_=>[],_,_,SR.start r N,h2 ts R hS,⟨λown H' σ o rx E h=>?_,λS' H' v x B rx E s hB=>bn S' H' v x B rx (e0 ▸ E) s hB,λ_ _ _ _ z=>z.elim,λ_ _ _ _ z=>z.elim⟩⟩;exact bn (Ow own) H' .non _ [] rx (e0 ▸ E) ⟨rfl,_,rfl,.non⟩ λ_ z=>(nomatch z)
end
abbrev RI:=List OT->(List T->Prop)->Prop
def Wlk(K:Frag)(J:It)(F:Hp)(xs:List T):Prop:=∀(S:Addr->Prop)(H:Hp)(i:Nat),(∀b,S b->H b≠none)->Same F (hd S H) ->
 (i=xs.length->J.stop i H)/\∀t,xs[i]?=some t->J.go i H/\∀x H',J.yld i H x H'->Same H H'/\Rep K (hd S H') x t
def tQI(K:Frag)(r:RI):TI:=λσ H Q=>∃own o R,SR K own H σ o/\r o R/\∀H' J xs,R xs->Same H H'->Wlk K J (hd (Ow own) H') xs->Q J H'
def QI(X:Cx)(tg it:Expr)(r:RI):Prop:=PI X tg it (tQI X.K r)
theorem PI.imp{X:Cx}{tg it:Expr}{t t':TI}(h:PI X tg it t)(i:∀σ H Q,t' σ H Q->t σ H Q):PI X tg it t':=λaa s σ H Q I q=>h aa s σ H Q I (i σ H Q q)
def amO(a:RE):RI:=λo q=>a o λx=>match frz x with|.lst ts=>q ts|_=>False
def am9(a:RE):RI:=λo q=>a o λx=>match frz x with|.tup ts=>q ts|_=>False
theorem aai{S:Addr->Prop}{H:Hp}{t:Addr}{u:HO}(n:H t=none)(hs:∀b,S b->H b≠none):hd S (upd H t u) t=some u:=by rw[cU λz=>hs t z n];exact cM
section
variable{X:Cx}{tg:Expr}{e a b:Expr}{re ra rb:RE}{p pos ay:Pos}
theorem cH(he:QE X e re):QI X tg e (amO re):=(abT he).imp λσ H Q ⟨own,o,R,h,hr,k⟩=>tQ.mk h hr λH1 v x q E1 r1=>by
 revert r1 q
 generalize frz x=t;intro q r1;cases t<;>try exact q.elim
 obtain⟨a,xs,rfl,e,r⟩:=r1.lstI;refine⟨a,rfl,⟨xs,.of (cW e).2⟩,k H1 _ _ q E1 λS H2 i _ SF=>⟨λhi=>⟨xs,.of (cW (SF _ _ e)).2,by rw[r.len];exact WG hi.symm⟩,λt ht=>?_⟩⟩;obtain⟨y,ey,ry⟩:=r.at_ ht;refine⟨⟨xs,y,.of (cW (SF _ _ e)).2,ey⟩,?_⟩;rintro x H3 ⟨rfl,hx⟩;have:=hx xs (.of (cW (SF _ _ e)).2);rw[ey]at this;cases this;exact⟨.refl _,ry.same SF⟩
theorem afI(he:QE X e re):QI X tg e (am9 re):=(afO he).imp λσ H Q ⟨own,o,R,h,hr,k⟩=>tQ.mk h hr λH1 v x q E1 r1=>by
 revert r1 q
 generalize frz x=t;intro q r1;cases t<;>try exact q.elim
 obtain⟨a,xs,rfl,e,r⟩:=r1.tupI;refine⟨a,rfl,⟨xs,dI.tup e⟩,k H1 _ _ q E1 λS H2 i _ SF=>⟨λhi=>⟨xs,(SF.trans dI).tup e,by rw[r.len];exact WG hi.symm⟩,λt ht=>?_⟩⟩;obtain⟨y,ey,ry⟩:=r.at_ ht;refine⟨⟨xs,y,(SF.trans dI).tup e,ey⟩,?_⟩;rintro x H3 ⟨rfl,hx⟩;have:=hx xs ((SF.trans dI).tup e);rw[ey]at this;cases this;exact⟨.refl _,ry.same SF⟩
noncomputable def rng(lo:Int)(n:Nat):List T:=(List.range n).map λk:Nat=>.int (lo+k)
theorem W4{K:Frag}{lo:Int}{n:Nat}{F:Hp} : Wlk K (Itr lo n) F (rng lo n):=λS H i _ _=>⟨λhi=>by rw[rng,ak,WJ]at hi;exact WG hi.symm,λt ht=>by
 unfold rng at ht;rw[aq]at ht;by_cases hi:i<n
 .rw[VT hi]at ht;cases ht;refine⟨hi,?_⟩;rintro x H' ⟨rfl,rfl⟩;exact⟨.refl _,.int _⟩
 .rw[aM (by simpa using hi)]at ht;cases ht⟩
def alZ(r:RA):RI:=λo q=>r o λts=>match ts with|[.int j]=>(-(2^62)<=j/\j<2^62)/\q (rng 0 j.toNat)|_=>False
def amT(r:RA):RI:=λo q=>r o λts=>match ts with|[.int i,.int j]=>(-(2^62)<=i/\i<2^62/\-(2^62)<=j/\j<2^62)/\q (rng i (j-i).toNat)|_=>False
theorem c7{r:RA}(hg:Gl X "range")(hm:X.mg "range"=none)(ha:QA X [a] r)(hs:starEach [a] X.env=[(false,eval a X.env)]:=by rfl):QI X tg (.Call (.Name "range" p) [a] [] pos) (alZ r):=(Yy hg hm ha hs).imp λσ H Q ⟨own,o,R,h,hr,k⟩=>⟨own,o,_,h,hr,λH1 vs ts q _ E1 r1=>by
 match ts,q with
 |[.int j],q =>
  obtain⟨x,rfl,rx⟩:=r1.one;cases rx;exact⟨j,rfl,q.1.1,q.1.2,k H1 _ _ q.2 E1 W4⟩⟩
theorem Ls{r:RA}(hg:Gl X "range")(hm:X.mg "range"=none)(ha:QA X [a,b] r)(hs:starEach [a,b] X.env=[(false,eval a X.env),(false,eval b X.env)]:=by rfl)(eK:starEach [b] X.env=[(false,eval b X.env)]:=by rfl):QI X tg (.Call (.Name "range" p) [a,b] [] pos) (amT r):=(Yh hg hm ha hs eK).imp λσ H Q ⟨own,o,R,h,hr,k⟩=>⟨own,o,_,h,hr,λH1 vs ts q _ E1 r1=>by
 match ts,q with
 |[.int i,.int j],q =>
  obtain⟨x,y,rfl,rx,ry⟩:=r1.two;cases rx;cases ry;exact⟨i,j,rfl,q.1,k H1 _ _ q.2 E1 W4⟩⟩
def zR(ts:List T):List T:=ts.zipIdx.map λp=>.tup [.int (p.2:Nat),p.1]
def anG(r:RA):RI:=λo q=>r o λts=>match ts with|[.lst ts]=>q (zR ts)|_=>False
theorem Dq{r:RA}{bX:List Expr}{x1}(hg:Gl X "enumerate")(hm:X.mg "enumerate"=none)(ha:QA X [a] r)(hs:starEach [a] X.env=[(false,eval a X.env)]:=by rfl):QI X (.Tuple bX x1 ay) (.Call (.Name "enumerate" p) [a] [] pos) (anG r):=(acZ hg hm ha hs).imp λσ H Q ⟨own,o,R,h,hr,k⟩=>⟨own,o,_,h,hr,λH1 vs ts q _ E1 r1=>by
 match ts,q with
 |[.lst ts],q =>
  obtain⟨x,rfl,rx⟩:=r1.one;obtain⟨a,xs,rfl,e,r⟩:=rx.lstI;refine⟨a,xs,rfl,(cW e).2,k H1 _ _ q E1 λS H2 i hs SF=>⟨λhi=>⟨xs,(cW (SF _ _ e)).2,by rw[r.len,hi];simp[zR]⟩,λt ht=>?_⟩⟩;unfold zR at ht;rw[aq]at ht;by_cases hi:i<ts.length
  .rw[aj (by simpa using hi),List.getElem_zipIdx]at ht;cases ht;obtain⟨y,ey,ry⟩:=r.at_ (aj hi);refine⟨⟨xs,(cW (SF _ _ e)).2,by rw[r.len];exact hi⟩,?_⟩;rintro x H3 ⟨eQ,x',t,e',ex,n,rfl,rfl⟩;rw[(cW (SF _ _ e)).2]at e';cases e';rw[ey]at ex;cases ex;refine⟨Same.upd n,.tup (.of (aai n hs)) (.cons ?_ (.cons (ry.same (SF.trans (bV (Same.upd n)))) .nil))⟩;rw[show((0+i:Nat):Int)=(i:Int)by lia];exact .int _
  .rw[aM (by simpa using hi)]at ht;cases ht⟩
def Aj(ts us:List T):List T:=(ts.zip us).map λp=>.tup [p.1,p.2]
def alY(r:RA):RI:=λo q=>r o λts=>match ts with|[.lst ts,.lst us]=>q (Aj ts us)|_=>False
theorem DX{r:RA}{bX:List Expr}{x1}(hg:Gl X "zip")(hm:X.mg "zip"=none)(ha:QA X [a,b] r)(hs:starEach [a,b] X.env=[(false,eval a X.env),(false,eval b X.env)]:=by rfl)(eK:starEach [b] X.env=[(false,eval b X.env)]:=by rfl):QI X (.Tuple bX x1 ay) (.Call (.Name "zip" p) [a,b] [] pos) (alY r):=(aeM hg hm ha hs eK).imp λσ H Q ⟨own,o,R,h,hr,k⟩=>⟨own,o,_,h,hr,λH1 vs ts q _ E1 r1=>by
 match ts,q with
 |[.lst ts,.lst us],q =>
  obtain⟨x,y,rfl,rx,ry⟩:=r1.two;obtain⟨a,xs,rfl,e,r⟩:=rx.lstI;obtain⟨b,ys,rfl,e2,r2⟩:=ry.lstI;refine⟨a,b,xs,ys,rfl,(cW e).2,(cW e2).2,k H1 _ _ q E1 λS H2 i hs SF=>⟨λhi=>⟨xs,ys,(cW (SF _ _ e)).2,(cW (SF _ _ e2)).2,?_⟩,λt ht=>?_⟩⟩
  .rw[r.len,r2.len];rw[Aj,ak,VY]at hi;lia
  .unfold Aj at ht;rw[aq]at ht;by_cases hi:i<ts.length/\i<us.length
   .rw[aj (by rw[VY];omega),List.getElem_zip]at ht;cases ht;obtain⟨y,ey,ry⟩:=r.at_ (aj hi.1);obtain⟨z,ez,rz⟩:=r2.at_ (aj hi.2);refine⟨⟨xs,ys,(cW (SF _ _ e)).2,(cW (SF _ _ e2)).2,by rw[r.len];exact hi.1,by rw[r2.len];exact hi.2⟩,?_⟩;rintro x H3 ⟨eQ,i9,x',y',t,e',ka,ex,ey',n,rfl,rfl⟩;rw[(cW (SF _ _ e)).2]at e';cases e';rw[(cW (SF _ _ e2)).2]at ka;cases ka;rw[ey]at ex;cases ex;rw[ez]at ey';cases ey';have S3:=SF.trans (bV (S:=S) (Same.upd (o:=.tup [y,z]) n));exact⟨Same.upd n,.tup (.of (aai n hs)) (.cons (ry.same S3) (.cons (rz.same S3) .nil))⟩
   .rw[aM (by rw[VY];omega)]at ht;cases ht⟩
def vB(g:T->List OT->(List OT->Prop)->Prop)(b:RS)(E:DT):List T->List OT->Prop
 |[],o=>E.nx o
 |t::ts,o=>∃N:List OT->Prop,(∀o,N o->vB g b E ts o)/\g t o λo'=>b { E with nx:=N,ct:=N,bk:=E.nx } o'
def ama(it:RI)(g:T->List OT->(List OT->Prop)->Prop)(b:RS):RS:=λE o=>it o λxs=>vB g b E xs o
theorem dJ{n:Nat}{iter:Expr}{b6:List Stmt}{ri:RI}{g:T->List OT->(List OT->Prop)->Prop}{rb:RS}(hp:PassesOwn (model X.prog X.w) X.A X.env X.xe)(hc:X.calm=true)(hi:QI X tg iter ri)(hg:QG X n tg g)(hb:QSs X b6 rb)
 (hs:∀x,foldedSetIterable iter X.env x=pure x:=by intro _;rfl):QS X (.For tg iter b6 [] pos) (ama ri g rb):=(afw hp hc hi hg hb hs).imp λD σ H ⟨own,o,E,h,hr,L⟩=>⟨own,o,_,h,hr,λH1 J xs q E1 wk=>by
 refine⟨λi m σ' H'=>∃ah o',SR X.K ah H' σ' o'/\Same (hd (Ow own) H1) (hd (Ow ah) H')/\vB g rb E (xs.drop i) o'/\i<=xs.length/\m=xs.length-i,⟨_,own,o,h.same E1,.refl _,q,aZ _,rfl⟩,?_⟩;rintro i m σ' H' ⟨ah,o',h',S',hl,il,rfl⟩;obtain⟨w1,w2⟩:=wk (Ow ah) H' i (λb z=>(h'.sole z).ne) S';have S0:=(bV E1).trans S';by_cases hi:i<xs.length
 .right;obtain⟨go,yl⟩:=w2 _ (aj hi);rw[Q1 hi]at hl;obtain⟨N,hN,hl⟩:=hl;refine⟨go,λσ2 H2=>∃bS o2,SR X.K bS H2 σ2 o2/\Same (hd (Ow own) H1) (hd (Ow bS) H2)/\vB g rb E (xs.drop (i+1)) o2,λσ2 H2 ⟨bS,o2,a,b,c⟩=>⟨xs.length-(i+1),by omega,bS,o2,a,b,c,hi,rfl⟩,λx H2 y=>?_⟩;obtain⟨E2,rx⟩:=yl x H2 y;refine⟨ah,o',_,_,h'.same E2,rx,hl,λeW σ3 o3 q3 g4 h3=>⟨eW,o3,_,h3,q3,?_⟩⟩;have S3:=S'.trans ((bV (S:=Ow ah) E2).trans g4.same);have L3:=L.step ((bV E1).trans S3);exact⟨λcr H4 σ4 o4 q S h=>⟨cr,o4,h,S3.trans S,hN _ q⟩,L3.rt,λcr H4 σ4 o4 q S h=>L3.nx cr H4 σ4 o4 q S h,λcr H4 σ4 o4 q S h=>⟨cr,o4,h,S3.trans S,hN _ q⟩⟩
 .left;refine⟨w1 (by lia),?_⟩;rw[T2 (Nat.not_lt.mp hi)]at hl;exact L.nx ah H' σ' o' hl S0 h'⟩
def agy(c:RT)(b:RS):RS:=λE o=>∃W:Nat->List OT->Prop,(∃m,W m o)/\∀m o,W m o->c o λk=>sw k (∃N:List OT->Prop,(∀o',N o'->∃m',m'<m/\W m' o')/\b { E with nx:=N,ct:=N,bk:=E.nx } o) (E.nx o)
theorem Jv{c:Expr}{b6:List Stmt}{rc:RT}{rb:RS}(hp:PassesOwn (model X.prog X.w) X.A X.env X.xe)(hc:QT X c rc)(hb:QSs X b6 rb):QS X (.While c b6 [] pos) (agy rc rb):=(Y0 hp hc hb).imp λD σ H hP=>by
 obtain⟨own,o,E,h,hr,L⟩:=hP;obtain⟨W,⟨m0,w0⟩,st⟩:=hr;refine⟨λm σ' H'=>∃ah o',SR X.K ah H' σ' o'/\Same (hd (Ow own) H) (hd (Ow ah) H')/\W m o',⟨m0,own,o,h,.refl _,w0⟩,?_⟩;rintro m σ' H' ⟨ah,o',h',S',wm⟩;refine tQT.mk h' (st m o' wm) λH1 k q E1=>I_ q (λhP=>?_) λq=>L.nx ah H1 σ' o' q (S'.trans (bV E1)) (h'.same E1);obtain⟨N,hN,q⟩:=hP;have S1:=S'.trans (bV E1);have L1:=L.step S1;refine⟨λσ2 H2=>∃bS o2,SR X.K bS H2 σ2 o2/\Same (hd (Ow own) H) (hd (Ow bS) H2)/\N o2,λσ2 H2 hP=>?_,ah,o',_,h'.same E1,q,⟨λcr H4 σ4 o4 q S h=>⟨cr,o4,h,S1.trans S,q⟩,L1.rt,λcr H4 σ4 o4 q S h=>L1.nx cr H4 σ4 o4 q S h,λcr H4 σ4 o4 q S h=>⟨cr,o4,h,S1.trans S,q⟩⟩⟩;obtain⟨bS,o2,a,b,c⟩:=hP;obtain⟨m',lt,w⟩:=hN o2 c;exact⟨m',lt,bS,o2,a,b,w⟩
end
def iB(g:T->List OT->(List OT->Prop)->Prop)(c:RT)(e:RE)(o:List OT):List T->(List T->Prop)->Prop
 |[],q=>q []
 |t::ts,q=>∃(N:T->Prop)(M:Prop),(∀y,N y->iB g c e o ts λus=>q (y::us))/\(M->iB g c e o ts q)/\g t o λo'=>c o' λb=>sw b (e o' λy=>N (frz y)) M
def ame:RT:=λ_ q=>q true
def Xz(it:RI)(n:Nat)(g:T->List OT->(List OT->Prop)->Prop)(c:RT)(e:RE):RE:=λo q=>it o λxs=>xs.length<=sizeLine/\iB g c e (List.replicate n .und++o) xs λus=>q (.l1 us)
noncomputable def ownS(n L:Nat)(own:Nat->Ψ)(D:Addr):Nat->Ψ:=λi=>if i<n then[]else if i<n+L then own (i-n)else if i=n+L then[D]else own (i-n-1)
theorem Ow.ownS{n L:Nat}{own:Nat->Ψ}{D b:Addr} : Ow (ownS n L own D) b↔Ow own b\/b=D:=by
 constructor
 .rintro⟨i,z⟩;unfold L2.ownS at z;by_cases h1:i<n
  .rw[ZY h1]at z;cases z
  rw[ZZ h1]at z;by_cases h2:i<n+L
  .rw[ZY h2]at z;exact .inl ⟨_,z⟩
  rw[ZZ h2]at z;by_cases h3:i=n+L
  .rw[ZY h3]at z;exact .inr (YR.mp z)
  .rw[ZZ h3]at z;exact .inl ⟨_,z⟩
 .rintro(⟨i,z⟩|rfl)
  .by_cases h:i<L
   .exact⟨n+i,by unfold L2.ownS;rw[ZZ (Tk (X2 _ _)),ZY (Nat.add_lt_add_left h _),show n+i-n=i by exact T1 _ _];exact z⟩
   .exact⟨n+i+1,by unfold L2.ownS;rw[ZZ (by lia),ZZ (by lia),ZZ (by lia),show n+i+1-n-1=i by lia];exact z⟩
  .exact⟨n+L,by unfold L2.ownS;rw[ZZ (Tk (X2 _ _)),ZZ (X9 _),ZY rfl];simp⟩
theorem SR.block{K:Frag}{own:Nat->Ψ}{H:Hp}{σ:L2.St}{o:List OT}(h:SR K own H σ o){D:Addr}{ys:Ζ}{H':Hp}(E:Same H H')(nD:H D=none)(eD:H' D=some (.lst ys))(pre:L2.St):SR K (ownS pre.length o.length own D) H' (pre++σ) (List.replicate pre.length .und++o):=by
 have le:Same (hd (Ow own) H) (hd (Ow (ownS pre.length o.length own D)) H'):=g8 (λb z=>(Ow.ownS.mp z).imp id λ(e:b=D)=>e ▸ nD) E;have fx:∀j,D∉own j:=λj z=>(h.sole ⟨j,z⟩).ne nD;refine⟨by simp[h.len],λi x e=>?_,λi hi a ha=>?_,λi j a e1 e2=>?_⟩
 .by_cases h1:i<pre.length
  .rw[aF (by simpa using h1),X0,ZY h1]at e;cases e;show ownS _ _ _ _ i=[];unfold ownS;rw[ZY h1]
  .rw[aD (by simpa using h1),aN]at e;have h2:i-pre.length<o.length:=(ao.mp e).1;rw[aD (Nat.not_lt.mp h1)];have:ownS pre.length o.length own D i=own (i-pre.length):=by unfold ownS;rw[ZZ h1,ZY (by omega)]
   rw[this];exact(h.sl _ x e).same le E
 .rw[aA,aN]at hi;unfold ownS at ha;rw[ZZ (by lia),ZZ (Tk hi)]at ha;by_cases h3:i=pre.length+o.length
  .rw[ZY h3]at ha;cases YR.mp ha;exact⟨_,eD⟩
  .rw[ZZ h3]at ha;obtain⟨xs,e⟩:=h.out _ (by lia) a ha;exact⟨xs,E _ _ e⟩
 .unfold ownS at e1 e2;by_cases a1:i<pre.length
  .rw[ZY a1]at e1;cases e1
  by_cases b1:j<pre.length
  .rw[ZY b1]at e2;cases e2
  rw[ZZ a1]at e1;rw[ZZ b1]at e2;by_cases a2:i<pre.length+o.length<;>by_cases b2:j<pre.length+o.length
  .rw[ZY a2]at e1;rw[ZY b2]at e2;have:=h.dis _ _ a e1 e2;omega
  .rw[ZY a2]at e1;rw[ZZ b2]at e2;by_cases b3:j=pre.length+o.length
   .rw[ZY b3]at e2;cases YR.mp e2;exact absurd e1 (fx _)
   .rw[ZZ b3]at e2;have:=h.dis _ _ a e1 e2;omega
  .rw[ZZ a2]at e1;rw[ZY b2]at e2;by_cases a3:i=pre.length+o.length
   .rw[ZY a3]at e1;cases YR.mp e1;exact absurd e2 (fx _)
   .rw[ZZ a3]at e1;have:=h.dis _ _ a e1 e2;lia
  .rw[ZZ a2]at e1;rw[ZZ b2]at e2;by_cases a3:i=pre.length+o.length<;>by_cases b3:j=pre.length+o.length
   .exact Eq.trans a3 (Eq.symm b3)
   .rw[ZY a3]at e1;rw[ZZ b3]at e2;cases YR.mp e1;exact absurd e2 (fx _)
   .rw[ZZ a3]at e1;rw[ZY b3]at e2;cases YR.mp e2;exact absurd e1 (fx _)
   .rw[ZZ a3]at e1;rw[ZZ b3]at e2;have:=h.dis _ _ a e1 e2;lia
theorem Tc{n:Nat}{own ah:Nat->Ψ}{pre σ σ':L2.St}(hp:pre.length=n)(g:Eu n own ah (pre++σ) σ'):∃b5:L2.St,b5.length=n/\σ'=b5++σ:=by
 obtain⟨_,l,k⟩:=g;refine⟨σ'.take n,by rw[aY,l,aA];lia,?_⟩;refine Q3 λi=>?_;by_cases hi:i<n
 .rw[aF (by rw[aY,l,aA];lia),List.getElem?_take_of_lt hi]
 .rw[aD (by rw[aY,l,aA];lia),k i (VW hi),aD (by lia),aY,l,aA]
  congr 1
  lia
theorem Tf{K:Frag}{σ:L2.St}{Q:VK}{n:Nat}{g:T->List OT->(List OT->Prop)->Prop}{rc:RT}{re:RE}{own:Nat->Ψ}{o:List OT}{H1:Hp}{J:It}{xs:List T}{R:OT->Prop}{D:Addr}(h1:SR K own H1 σ o)(wk:Wlk K J (hd (Ow own) H1) xs)(lx:xs.length<=sizeLine)(q:iB g rc re (List.replicate n .und++o) xs λus=>R (.l1 us))(nD:H1 D=none)(k:∀H' v x,R x->Same H1 H'->NR K (Ow own) H1 H' v x->Q v H') :
  ∃W:Nat->Nat->Ζ->Hp->Prop,(∃m,W 0 m [] (upd H1 D (.lst [])))/\∀i m ys Hc,W i m ys Hc ->
   (J.stop i Hc/\Q (.ref D) Hc)\/(J.go i Hc/\∀x H',J.yld i Hc x H'->∀pre:L2.St,pre.length=n->tMG (tQG K n g) x (pre++σ) H' λσ2 H2=>∃b5:L2.St,b5.length=n/\σ2=b5++σ/\tMT (tQT K rc) σ2 H2 λb H3 =>
    match b with
    |true=>tM (tQ K re) σ2 H3 λy H4=>ys.length<sizeLine/\H4 D=some (.lst ys)/\∃m',m'<m/\W (i+1) m' (ys++[y]) (upd H4 D (.lst (ys++[y])))
    |false=>∃m',m'<m/\W (i+1) m' ys H3):=by
 generalize hO:List.replicate n OT.und++o=ob at q;refine⟨λi m ys Hc=>∃ts,Hc D=some (.lst ys)/\Same H1 Hc/\bZ K (hd (λb=>Ow own b\/b=D) Hc) ys ts/\ys.length<=i/\i<=xs.length/\m=xs.length-i/\iB g rc re ob (xs.drop i) λus=>R (.l1 (ts++us)),⟨_,[],cM,Same.upd nD,.nil,aG _,aZ _,rfl,q⟩,?_⟩;rintro i m ys Hc ⟨ts,eD,Ec,rs,il,ix,rfl,hl⟩;have hn:∀b,Ow own b\/b=D->Hc b≠none:=λb z=>z.elim (λz=>((h1.same Ec).sole z).ne) λe z=>by rw[e,eD]at z;cases z
 have SD:Same (hd (Ow own) H1) (hd (λb=>Ow own b\/b=D) Hc):=g8 (λb z=>z.imp id λ(e:b=D)=>e ▸ nD) Ec;obtain⟨w1,w2⟩:=wk (λb=>Ow own b\/b=D) Hc i hn SD;by_cases hi:i<xs.length
 .right;obtain⟨go,yl⟩:=w2 _ (aj hi);rw[Q1 hi]at hl;obtain⟨N,M,hN,hM,hl⟩:=hl;refine⟨go,λx H2 y pre hp=>?_⟩;obtain⟨E2,rx⟩:=yl x H2 y;have eO:(λb=>Ow own b\/b=D)=Ow (ownS n o.length own D):=funext λb=>propext Ow.ownS.symm;have hb:SR K (ownS n o.length own D) H2 (pre++σ) ob:=by
   have:=h1.block (Ec.trans E2) nD (E2 _ _ eD) pre;rw[hp,hO]at this;exact this
  rw[eO]at rx rs;refine⟨_,⟨ownS n o.length own D,ob,_,_,hb,rx,hl,λeW σ3 o3 q3 g4 h3=>?_⟩,λ_ _ z=>z⟩;obtain⟨b5,db,rfl⟩:=Tc hp g4;have e3:eW=ownS n o.length own D:=funext λj=>by
   rcases g4.1 j with e|⟨e1,e2⟩
   .exact e
   .rw[e2];unfold ownS;rw[ZY e1]
  subst e3;refine⟨b5,db,rfl,_,tQT.mk h3 q3 λH3 b q4 E3=>?_,λ_ _ z=>z⟩;have q4:sw b (re o3 λy=>N (frz y)) M:=q4;cases b with
  |false=>exact⟨xs.length-(i+1),by lia,ts,E3 _ _ (E2 _ _ eD),Ec.trans (E2.trans E3),by rw[eO];exact rs.same (bV (E2.trans E3)),by exact aL il (X2 _ _),by exact hi,rfl,hM q4⟩
  |true =>
   refine⟨_,tQ.mk (h3.same E3) q4 λH4 v y q5 E4 r4=>⟨by lia,E4 _ _ (E3 _ _ (E2 _ _ eD)),xs.length-(i+1),by lia,ts++[frz y],cM,λb u e=>?_,?_,by rw[aA,List.length_singleton];exact Nat.succ_le_succ il,by exact hi,rfl,?_⟩,λ_ _ z=>z⟩
   .rw[cD λz=>by rw[z,nD]at e;cases e];exact E4 _ _ (E3 _ _ (E2 _ _ (Ec _ _ e)))
   .rw[Ep (S:=λb=>Ow own b\/b=D) (.inr rfl),eO];exact(rs.same (bV (E2.trans (E3.trans E4)))).app (.cons r4 .nil)
   .have:=hN _ q5;simp only[WZ,List.singleton_append];exact this
 .left;have:i=xs.length:=by lia
  refine⟨w1 this,?_⟩;rw[T2 (VW hi)]at hl;have hl:R (.l1 (ts++[])):=hl;rw[List.append_nil]at hl;exact k Hc _ _ hl Ec (NR.l1 nD eD rs)
theorem HJ{K:Frag}{σ:L2.St}{H:Hp}{Q:VK}{ri:RI}{n:Nat}{g:T->List OT->(List OT->Prop)->Prop}{rc:RT}{re:RE}(h:tQ K (Xz ri n g rc re) σ H Q):rR (tQI K ri) n (tMG (tQG K n g)) (tMT (tQT K rc)) (tM (tQ K re)) σ H Q:=by
 obtain⟨own,o,R,h,hr,k⟩:=h;exact⟨own,o,_,h,hr,λH1 J xs q E1 wk D nD=>Tf (h.same E1) wk q.1 q.2 nD λH' v x rx E n=>k H' v x rx (E1.trans E) (n.back E1)⟩
section
variable{X:Cx}{tg iter aS:Expr}{aE:List Expr}{ri:RI}{g:T->List OT->(List OT->Prop)->Prop}{rc:RT}{re:RE}{scope:Scope}{pos:Pos}
def QTs(X:Cx)(aE:List Expr)(r:RT):Prop:=PTs X aE (tQT X.K r)
theorem cF:QTs X [] ame:=λaa s σ H Q I hP=>by obtain⟨own,o,R,h,hr,k⟩:=hP;exact abW aa s σ H Q I (k H true hr (.refl _))
theorem Wf{c:Expr}{rc:RT}(h:QT X c rc):QTs X [c] rc:=adu h
theorem dH(sc:Scope)(N N' xs:Φ)(hi:QI X tg iter ri)(hg:∀{C s₀ H₀ ex pn},QG (X.compG N' scope xs C s₀ H₀ ex pn) xs.length tg g)(ht:∀{C s₀ H₀ ex pn},QTs (X.compG N' scope xs C s₀ H₀ ex pn) aE rc)(he:∀{C s₀ H₀ ex pn},QE (X.compG N' scope xs C s₀ H₀ ex pn) aS re)
 (cx:X.env.scope=sc:=by rfl)(cS:X.N=N:=by rfl)(hc:X.calm=true:=by rfl)(hk:scope.kind=.function:=by rfl)(h:CK sc scope N N' xs:=by decide +kernel)(hs:∀z,foldedSetIterable iter X.env z=pure z:=by intro _;rfl):QE X (.ListComp aS [⟨tg,iter,aE,0⟩] scope pos) (Xz ri xs.length g rc re) :=
 (aa9 (gt:=tQG X.K xs.length g) (tc:=tQT X.K rc) (te:=tQ X.K re) sc N N' xs hi hg ht he cx cS hc hk h hs).imp λ_ _ _=>HJ
theorem ab5(sc:Scope)(N N':Φ)(x0:Str)(hi:QI X tg iter ri)(hg:∀{C s₀ H₀ ex pn},QG (X.compGC N' scope x0 C s₀ H₀ ex pn) 1 tg g)(ht:∀{C s₀ H₀ ex pn},QTs (X.compGC N' scope x0 C s₀ H₀ ex pn) aE rc)(he:∀{C s₀ H₀ ex pn},QE (X.compGC N' scope x0 C s₀ H₀ ex pn) aS re)
 (cx:X.env.scope=sc:=by rfl)(cS:X.N=N:=by rfl)(hc:X.calm=true:=by rfl)(hk:scope.kind=.function:=by rfl)(fI:∀n acc,cellsFrom n scope.names acc=(x0,n)::acc:=by intro _ _;rfl)(fA:∀h,pushCells h scope.names=h.push { cls:=.type "cell",data:=.cell none }:=by intro _;rfl)(h:(∀y∈scope.names,y.2=.cell->y.1=x0)/\CK0 sc scope N N' [x0]:=by decide +kernel)(hs:∀z,foldedSetIterable iter X.env z=pure z:=by intro _;rfl):QE X (.ListComp aS [⟨tg,iter,aE,0⟩] scope pos) (Xz ri 1 g rc re) :=
 (abj (gt:=tQG X.K 1 g) (tc:=tQT X.K rc) (te:=tQ X.K re) sc N N' x0 hi hg ht he cx cS hc hk fI fA h hs).imp λ_ _ _=>HJ
theorem WK{N0:Φ}{x0:Str}{sO:Scope}{C0:Addr}{s0:Shared}{H0:Hp}{eB:Ψ}{dP:Δ}(sc:Scope)(N N' xs:Φ)(hi:QI (X.compGC N0 sO x0 C0 s0 H0 eB dP) tg iter ri)(hg:∀{C s₀ H₀ ex pn},QG ((X.compGC N0 sO x0 C0 s0 H0 eB dP).compG N' scope xs C s₀ H₀ ex pn) xs.length tg g)(ht:∀{C s₀ H₀ ex pn},QTs ((X.compGC N0 sO x0 C0 s0 H0 eB dP).compG N' scope xs C s₀ H₀ ex pn) aE rc)(he:∀{C s₀ H₀ ex pn},QE ((X.compGC N0 sO x0 C0 s0 H0 eB dP).compG N' scope xs C s₀ H₀ ex pn) aS re)
 (cx:X.env.scope=sc:=by rfl)(cS : [x0]++N0=N:=by rfl)(hc:X.calm=true:=by rfl)(hk:scope.kind=.function:=by rfl)(h:CK (rlb sc sO) scope N N' xs:=by decide +kernel)(hs:∀z,foldedSetIterable iter (X.compGC N0 sO x0 C0 s0 H0 eB dP).env z=pure z:=by intro _;rfl):QE (X.compGC N0 sO x0 C0 s0 H0 eB dP) (.ListComp aS [⟨tg,iter,aE,0⟩] scope pos) (Xz ri xs.length g rc re) :=
 PE.imp (aeZ (gt:=tQG X.K xs.length g) (tc:=tQT X.K rc) (te:=tQ X.K re) sc N N' xs hi hg ht he cx cS hc hk h hs) λ_ _ _=>HJ
theorem agh{i0:Nat}{y0:Str}{py b7:Pos}(sc:Scope)(N N' xs:Φ)(hi:QI X tg iter ri)(hg:∀{C s₀ H₀ ex pn},QG (X.compG N' scope xs C s₀ H₀ ex pn) xs.length tg g)(ht:∀{C s₀ H₀ ex pn},QTs (X.compG N' scope xs C s₀ H₀ ex pn) aE rc)(he:∀{C s₀ H₀ ex pn},QE (X.compG N' scope xs C s₀ H₀ ex pn) aS re)(fF:PG X (.Name y0 py) (zU i0))
 (cx:X.env.scope=sc:=by rfl)(cS:X.N=N:=by rfl)(hc:X.calm=true:=by rfl)(hk:scope.kind=.function:=by rfl)(h:CK sc scope N N' xs:=by decide +kernel)(fy:swapsWith (.ListComp aS [⟨tg,iter,aE,0⟩] scope pos) (some (.Name y0 py)) b7.line X.env=pure true:=by rfl)(hs:∀z,foldedSetIterable iter X.env z=pure z:=by intro _;rfl) :
  QS X (.Assign [.Name y0 py] (.ListComp aS [⟨tg,iter,aE,0⟩] scope pos) b7) (af6 i0 (Xz ri xs.length g rc re)):=(Z0 (gt:=tQG X.K xs.length g) (tc:=tQT X.K rc) (te:=tQ X.K re) sc N N' xs hi hg ht he fF cx cS hc hk h fy hs).imp λD σ H ⟨own,o,E,h,hr,L⟩=>HJ ⟨own,o,_,h,hr,λH' v y q S n=>by
 obtain⟨ah,h',S'⟩:=h.putA S n i0;exact L.nx ah H' _ _ q S' h'⟩
theorem eU{N' xs:Φ}{C s₀ H₀ ex pn}{n i:Nat}{x:Str}{p:Pos}(hN:(xs++N').Nodup:=by decide +kernel)(hi:(xs++N')[i]?=some x:=by rfl)(hn:i<n:=by decide)(hx:Loc (X.compG N' scope xs C s₀ H₀ ex pn).env.scope x:=by exact Or.inl rfl)(hf:(X.compG N' scope xs C s₀ H₀ ex pn).fn x=true\/(X.compG N' scope xs C s₀ H₀ ex pn).env.scope.names.lookup x=some .local:=by exact Or.inr rfl):QG (X.compG N' scope xs C s₀ H₀ ex pn) n (.Name x p) (hName i):=b_ i hN hx hi hn hf
theorem aes{N':Φ}{x0:Str}{C s₀ H₀ ex pn}{p:Pos}(hN:([x0]++N').Nodup:=by decide +kernel)(hx:Loc (X.compGC N' scope x0 C s₀ H₀ ex pn).env.scope x0:=by exact Or.inr rfl):QG (X.compGC N' scope x0 C s₀ H₀ ex pn) 1 (.Name x0 p) (hName 0)   := b_ 0 hN hx rfl (by decide) (.inl (beq_self_eq_true _))
end
theorem Xr{g:T->List OT->(List OT->Prop)->Prop}{c:RT}{e:RE}{o:List OT}{t:T}{ts:List T}{q:List T->Prop}(h:g t o λo'=>c o' λb=>sw b (e o' λy=>iB g c e o ts λus=>q (frz y::us)) (iB g c e o ts q)):iB g c e o (t::ts) q:=⟨λy=>iB g c e o ts λus=>q (y::us),_,λ_ h=>h,id,h⟩
section
variable{X:Cx}{a b e:Expr}{ra rb re:RE}{rt:RT}{pos:Pos}
theorem bZ.reps{K:Frag}{F:Hp}{xs:Ζ}{ts:List T}(h:bZ K F xs ts):∀n:Nat,bZ K F (List.replicate n xs).flatten (List.replicate n ts).flatten
 |0=>.nil
 |n+1=>by rw[List.replicate_succ,List.replicate_succ,List.flatten_cons,List.flatten_cons];exact h.app (bZ.reps h n)
theorem cG:GO X (binaryOp .Mult) amm:=λaa s σ H x y v u Q I rx ry h=>by
 obtain⟨S,t,w,R,_,hx,hy,hg,k⟩:=h;cases w with
 |int j=>?_
 |_=>cases t<;>exact hg.elim
 cases hy;cases t<;>try exact hg.elim
 .cases hx;exact acs aa s σ H _ _ v u Q I rx ry ⟨_,_,rfl,rfl,hg.1,k H _ _ hg.2 (.refl _) (NR.fz (.int _))⟩
 .cases hx;obtain⟨c,rfl,h1,h2,q⟩:=hg;exact adW aa s σ H _ _ v u Q I rx ry ⟨c,j,rfl,rfl,h1,h2,λz hz=>k H _ _ (q z hz) (.refl _) (NR.fz (.str _))⟩
 .obtain⟨p,xs,rfl,e,r⟩:=hx.lstI;obtain⟨⟨h1,h2,h3⟩,q⟩:=hg;exact aez aa s σ H _ _ v u Q I rx ry ⟨p,j,xs,rfl,rfl,(cW e).2,h1,h2,by rw[r.len];exact h3,λa ha=>k _ _ _ (q _ rfl) (Same.upd ha) (Af (r.reps j.toNat) (Same.upd ha) ha cM)⟩
mutual
def ofD:PyData->T
 |.none=>.non
 |.bool b=>.bl b
 |.int i=>.int i
 |.str s=>.str s
 |.list ds=>.lst (Zv ds)
 |.tuple ds=>.tup (Zv ds)
 |.dict _=>.any
def Zv:List PyData->List T
 |[]=>[]
 |d::ds=>ofD d::Zv ds
end
mutual
theorem Rep.shows{K:Frag}{F:Hp} : ∀{x:V}{t:T},Rep K F x t->∀d,t=ofD d->d.canLay0=true->gF K F x d
 |_,_,.any v,d,e,s=>by cases d<;>cases e;cases s
 |_,_,.non,d,e,_=>by cases d<;>cases e;exact .non
 |_,_,.bl b,d,e,_=>by cases d<;>cases e;exact .bl _
 |_,_,.int i,d,e,_=>by cases d<;>cases e;exact .int _
 |_,_,.str s,d,e,_=>by cases d<;>cases e;exact .str _
 |_,_,.val v,d,e,_=>by cases d<;>cases e
 |_,_,.tup q h,d,e,s=>by
  cases d<;>cases e;exact .tup q (bZ.shows h _ rfl s)
 |_,_,.lst q h,d,e,s=>by
  cases d<;>cases e;exact .lst q (bZ.shows h _ rfl s)
 |_,_,.scr q h,d,e,_=>by cases d<;>cases e
 |_,_,.dct q l h,d,e,_=>by cases d<;>cases e
 |_,_,.ins q d' l h,d,e,_=>by cases d<;>cases e
theorem bZ.shows{K:Frag}{F:Hp} : ∀{xs:Ζ}{ts:List T},bZ K F xs ts->∀ds,ts=Zv ds->PyData.canLayAll0 ds=true->eV K F xs ds
 |_,_,.nil,ds,e,_=>by cases ds<;>cases e;exact .nil
 |_,_,.cons a b,ds,e,s=>by
  cases ds<;>cases e;obtain⟨s1,s2⟩:=Bool.and_eq_true_iff.mp s;exact .cons (Rep.shows a _ rfl s1) (bZ.shows b _ rfl s2)
end
noncomputable def xr:Bool->Bool->Bool
 |false,b=>b
 |true,b=>!b
noncomputable def eqS:T->T->Option Bool
 |.int i,.int j=>some (decide (i=j))
 |.str i,.str j=>some (decide (i=j))
 |.bl i,.bl j=>some (decide (i=j))
 |.non,.non=>some true
 |.non,.int _=>some false
 |.int _,.non=>some false
 |.non,.str _=>some false
 |.str _,.non=>some false
 |.int _,.str _=>some false
 |.str _,.int _=>some false
 |.tup [.int a,.int b],.tup [.int c,.int d]=>some (decide (a=c)&&decide (b=d))
 |_,_=>none
def gEq(neg:Bool)(t u:T)(q:OT->Prop):Prop:=match eqS t u with
 |some b=>q (.fz (.bl (xr neg b)))
 |none=>∃d e,t=ofD d/\u=ofD e/\SeqAt.shaped d=true/\SeqAt.shaped e=true/\q (.fz (.bl (xr neg (PyData.eqv d e))))
theorem Y7(a b c d:Int):PyData.eqv (.tuple [.int a,.int b]) (.tuple [.int c,.int d])=(decide (a=c)&&decide (b=d)):=by
 simp only[PyData.eqv,PyData.eqvAll,Bool.and_true]
 rfl
theorem af5{K:Frag}{F H:Hp}{x y:V}{t u:T}{b:Bool}(S:Same F H)(hx:Rep K F x t)(hy:Rep K F y u)(e:eqS t u=some b):(acG x y=true/\decide (x=y)=b)\/∃d e,gF K H x d/\gF K H y e/\SeqAt.shaped d=true/\SeqAt.shaped e=true/\PyData.eqv d e=b:=by
 unfold eqS at e;split at e<;>cases e
 .cases hx;cases hy;exact .inl ⟨rfl,by simp⟩
 .cases hx;cases hy;exact .inl ⟨rfl,by simp⟩
 .cases hx;cases hy;exact .inl ⟨rfl,by simp⟩
 .cases hx;cases hy;exact .inl ⟨rfl,rfl⟩
 .cases hx;cases hy;exact .inl ⟨rfl,rfl⟩
 .cases hx;cases hy;exact .inl ⟨rfl,rfl⟩
 .cases hx;cases hy;exact .inl ⟨rfl,rfl⟩
 .cases hx;cases hy;exact .inl ⟨rfl,rfl⟩
 .cases hx;cases hy;exact .inl ⟨rfl,rfl⟩
 .cases hx;cases hy;exact .inl ⟨rfl,rfl⟩
 .exact .inr ⟨.tuple [.int _,.int _],.tuple [.int _,.int _],(hx.shows _ rfl rfl).same S,(hy.shows _ rfl rfl).same S,rfl,rfl,Y7 _ _ _ _⟩
theorem aah(neg:Bool){op:CmpOp}(h1:OpR X (compareOp op) λx y H Q=>acG x y=true/\Q (.bl (xr neg (decide (x=y)))) H)(h2:OpR X (compareOp op) (afU X.K neg)):GO X (compareOp op) (gEq neg):=λaa s σ H x y v u Q I rx ry h=>by
 obtain⟨S,t,w,R,_,hx,hy,hg,k⟩:=h;have xe:∀b:Bool,(if neg then !b else b)=xr neg b:=λb=>by cases neg<;>rfl
 unfold gEq at hg;cases es:eqS t w with
 |some b =>
  rw[es]at hg;rcases af5 dI hx hy es with⟨a,c⟩|⟨d,e,s1,s2,s3,s4,c⟩
  .exact h1 aa s σ H x y v u Q I rx ry ⟨a,by rw[c];exact k H _ _ hg (.refl _) (NR.fz (.bl _))⟩
  .exact h2 aa s σ H x y v u Q I rx ry ⟨d,e,s1,s2,s3,s4,by rw[xe,c];exact k H _ _ hg (.refl _) (NR.fz (.bl _))⟩
 |none =>
  rw[es]at hg;obtain⟨d,e,e1,e2,s1,s2,q⟩:=hg;exact h2 aa s σ H x y v u Q I rx ry ⟨d,e,(hx.shows d e1 (Bool.and_eq_true_iff.mp s1).1).same dI,(hy.shows e e2 (Bool.and_eq_true_iff.mp s2).1).same dI,s1,s2,by rw[xe];exact k H _ _ q (.refl _) (NR.fz (.bl _))⟩
theorem go_eq(hu:X.A.units+64<cLine):GO X (compareOp .Eq) (gEq false):=aah false ag9 (aey hu)
theorem nQ(hu:X.A.units+64<cLine):GO X (compareOp .NotEq) (gEq true):=aah true aju (afi hu)
def flat:OT->Prop
 |.fz (.int _)=>True
 |.fz (.bl _)=>True
 |.fz (.str _)=>True
 |.fz .non=>True
 |_=>False
def amW(i:Nat)(a:RE):RE:=λo q=>match slot o i with|.und=>False|x=>a (o.set i (.fz (frz x))) λy=>flat y/\q y
def ai3(i:Nat)(a:RT):RT:=λo q=>match slot o i with|.und=>False|x=>a (o.set i (.fz (frz x))) q
theorem Wq{i:Nat}{o:List OT}{P:OT->Prop}(h:match slot o i with|.und=>False|x=>P x):P (slot o i)/\slot o i≠.und:=by
 cases e:slot o i<;>rw[e]at h<;>first|exact h.elim|exact⟨h,λz=>by cases z⟩
theorem L_(i:Nat)(h:QE X e re):QE X e (amW i re):=PE.imp h λσ H Q hP=>by
 obtain⟨own,o,R,h,hr,k⟩:=hP;obtain⟨hr,ne⟩:=Wq (P:=λx=>re (o.set i (.fz (frz x))) λy=>flat y/\R y) hr;obtain⟨u,e1,s⟩:=h.val rfl ne;obtain⟨ah,h',S⟩:=h.frz (gZ rfl ne) e1;refine⟨ah,_,_,h',hr,λH' v x q E n=>k H' v x q.2 E ?_⟩;have fl:=q.1;have rp:=n.rep λb z=>(h'.sole z).ne;cases x with
 |fz t=>cases t<;>first|exact fl.elim|(cases rp;first|exact NR.fz (.int _)|exact NR.fz (.bl _)|exact NR.fz (.str _)|exact NR.fz .non)
 |_=>exact fl.elim
theorem Ub(i:Nat)(h:QT X e rt):QT X e (ai3 i rt):=PT.imp h λσ H Q hP=>by
 obtain⟨own,o,R,h,hr,k⟩:=hP;obtain⟨hr,ne⟩:=Wq (P:=λx=>rt (o.set i (.fz (frz x))) R) hr;obtain⟨u,e1,s⟩:=h.val rfl ne;obtain⟨ah,h',S⟩:=h.frz (gZ rfl ne) e1;exact⟨ah,_,_,h',hr,k⟩
noncomputable def Yp:T->Option Key
 |.int i=>some (.inl i)
 |.str s=>some (.inr s)
 |_=>none
noncomputable def qm{α:Type} : List Key->List α->Key->Option α
 |k::ks,t::ts,j=>if k=j then some t else qm ks ts j
 |_,_,_=>none
theorem Pr{K:Frag}{F:Hp}{x:V}{t:T}{k:Key}(h:Rep K F x t)(e:Yp t=some k):x=kV k:=by
 cases h<;>cases e<;>rfl
theorem DY{K:Frag}{F:Hp}{k:Key} : ∀{ks:List Key}{xs:Ζ}{ts:List T},bZ K F xs ts->(∀t,qm ks ts k=some t->∃x,Ja (ks.zip xs) k=some x/\Rep K F x t)/\(qm ks ts k=none->Ja (ks.zip xs) k=none)
 |[],_,_,_=>⟨λ_ z=>(nomatch z),λ_=>rfl⟩
 |_::_,_,_,.nil=>⟨λ_ z=>(nomatch z),λ_=>rfl⟩
 |j::ks,_,_,.cons a b=>by
  by_cases h:j=k
  .refine⟨λt z=>?_,λz=>?_⟩
   .unfold qm at z;rw[ZY h]at z;cases z;exact⟨_,Ss h,a⟩
   .unfold qm at z;rw[ZY h]at z;cases z
  .obtain⟨i1,i2⟩:=DY (k:=k) (ks:=ks) b;refine⟨λt z=>?_,λz=>?_⟩
   .unfold qm at z;rw[ZZ h]at z;obtain⟨x,e,r⟩:=i1 t z;exact⟨x,(Ib h).trans e,r⟩
   .unfold qm at z;rw[ZZ h]at z;exact(Ib h).trans (i2 z)
def ahW:T->T->(OT->Prop)->Prop
 |.dct ks ts,u,q=>∃k t,Yp u=some k/\qm ks ts k=some t/\q (.fz t)
 |_,_,_=>False
theorem Ou(hu:X.A.units+1<cLine)(ha:QE X a ra)(hb:QE X b rb)(hs:afF b:=by exact λ_ _=>rfl):QE X (.Subscript a b pos) (rOp ahW ra rb):=(adR hu ha hb hs).imp λσ H Q ⟨own,o,R,h,hr,k⟩=>tQ.mk h hr λH1 v x q E1 r1=>tQ.mk (h.same E1) q λH2 w y q E2 r2=>by
 have r1:=r1.same (bV E2)
 revert r1 q
 generalize frz x=t;intro q r1;cases t<;>try exact q.elim
 obtain⟨d,xs,rfl,e,l,r⟩:=r1.dctI;obtain⟨j,t,e1,e2,q⟩:=q;obtain⟨z,e3,r3⟩:=(DY r).1 t e2;cases Pr r2 e1;exact⟨d,z,rfl,.inl ⟨_,_,dI.rd e,rfl,e3.symm⟩,k H2 _ _ q (E1.trans E2) (NR.fz r3)⟩
def afs(neg:Bool):T->T->(OT->Prop)->Prop
 |u,.dct ks ts,q=>∃k,Yp u=some k/\q (.fz (.bl (xr neg (qm ks ts k).isSome)))
 |_,_,_=>False
theorem aan{neg:Bool}{σ:L2.St}{H:Hp}{Q:VK}(h:tQ X.K (rOp (afs neg) ra rb) σ H Q):(tQ X.K ra) σ H λy H1=>(tQ X.K rb) σ H1 λx H2=>∃a o,x=.ref a/\Eo H2 a y o/\Q (.bl (xr neg o.isSome)) H2:=by
 obtain⟨own,o,R,h,hr,k⟩:=h;refine tQ.mk h hr λH1 v x q E1 r1=>tQ.mk (h.same E1) q λH2 w y q E2 r2=>?_;have r1:=r1.same (bV E2)
 revert r2 q
 generalize frz y=t;intro q r2;cases t with
 |dct ks ts =>
  obtain⟨d,xs,rfl,e,l,r⟩:=r2.dctI;obtain⟨j,e1,q⟩:=q;cases Pr r1 e1;refine⟨d,_,rfl,.inl ⟨_,_,dI.rd e,rfl,rfl⟩,?_⟩;have:(Ja (ks.zip xs) j).isSome=(qm ks ts j).isSome:=by
   cases z:qm ks ts j with
   |none=>rw[(DY r).2 z];rfl
   |some t=>obtain⟨x,e,_⟩:=(DY r).1 t z;rw[e];rfl
  rw[this];exact k H2 _ _ q (E1.trans E2) (NR.fz (.bl _))
 |_=>cases frz x<;>exact q.elim
theorem ad9{r:RE}{tt:TE}(i:∀σ H Q,tQ X.K r σ H Q->tt σ H Q){σ:L2.St}{H:Hp}{Q:Bool->Hp->Prop}(h:tQT X.K (rB r) σ H Q):tB tt σ H Q:=by
 obtain⟨own,o,R,h,hr,k⟩:=h;refine i σ H _ (tQ.mk h hr λH1 v x q E1 r1=>?_)
 revert r1 q
 generalize frz x=t;intro q r1;cases r1<;>try exact q.elim
 exact⟨_,rfl,k _ _ q E1⟩
theorem aaV(hu:X.A.units+1<cLine)(ha:QE X a ra)(hb:QE X b rb)(h1:behindInMarks .In b=false:=by rfl):QT X (.Compare a [.In] [b] pos) (rB (rOp (afs false) ra rb)):=(aa0 (afq hu ha hb) h1).imp λ_ _ _=>ad9 λ_ _ _=>aan (neg:=false)
theorem Ys(hu:X.A.units+1<cLine)(ha:QE X a ra)(hb:QE X b rb)(h1:behindInMarks .NotIn b=false:=by rfl):QT X (.Compare a [.NotIn] [b] pos) (rB (rOp (afs true) ra rb)):=(aa0 (Yi hu ha hb) h1).imp λ_ _ _=>ad9 λ_ _ _=>aan (neg:=true)
def ag4:RE:=λ_ q=>q (.d1 [] [])
theorem Pq:QE X (.Dict [] [] pos) ag4:=aa1.imp λσ H Q ⟨own,o,R,h,hr,k⟩ p hp=>k _ _ _ hr (Same.upd hp) ⟨[p],λa ha=>(YR.mp ha) ▸ hp,p,[],rfl,rfl,cM,rfl,.nil⟩
def aob(i:Nat)(a b:RE):RS:=λE o=>match slot o i with|.d1 ks ts=>a o λy=>b o λk=>∃j,Yp (frz k)=some j/\qm ks ts j=none/\ks.length<sizeLine/\ks.length=ts.length/\E.nx (o.set i (.d1 (ks++[j]) (ts++[frz y])))|_=>False
end
noncomputable def lkF{α:Type} : Φ->List α->Str->Option α
 |k::ks,t::ts,f=>if k=f then some t else lkF ks ts f
 |_,_,_=>none
noncomputable def Iv:Φ->Str->Φ
 |[],f=>[f]
 |k::ks,f=>if k=f then k::ks else k::Iv ks f
noncomputable def zW{α:Type} : Φ->List α->Str->α->List α
 |k::ks,t::ts,f,v=>if k=f then v::ts else t::zW ks ts f v
 |_,ts,_,v=>ts++[v]
theorem aaR{K:Frag}{F:Hp}{f:Str} : ∀{ks:Φ}{xs:Ζ}{ts:List T},bZ K F xs ts->(∀t,lkF ks ts f=some t->∃x,(ks.zip xs).lookup f=some x/\Rep K F x t)/\(lkF ks ts f=none->(ks.zip xs).lookup f=none)
 |[],_,_,_=>⟨λ_ z=>(nomatch z),λ_=>rfl⟩
 |_::_,_,_,.nil=>⟨λ_ z=>(nomatch z),λ_=>rfl⟩
 |j::ks,_,_,.cons a b=>by
  obtain⟨i1,i2⟩:=aaR (f:=f) (ks:=ks) b;by_cases h:j=f
  .refine⟨λt z=>?_,λz=>?_⟩
   .unfold lkF at z;rw[ZY h]at z;cases z;exact⟨_,by rw[List.zip_cons_cons,List.lookup_cons,h,beq_self_eq_true],a⟩
   .unfold lkF at z;rw[ZY h]at z;cases z
  .have e:∀x(r:List (Str×V)),((j,x)::r).lookup f=r.lookup f:=λx r=>by rw[List.lookup_cons,beq_false_of_ne (Ne.symm h)]
   refine⟨λt z=>?_,λz=>?_⟩
   .unfold lkF at z;rw[ZZ h]at z;obtain⟨x,e1,r⟩:=i1 t z;exact⟨x,(e _ _).trans e1,r⟩
   .unfold lkF at z;rw[ZZ h]at z;exact(e _ _).trans (i2 z)
theorem RG{f:Str}{v:V} : ∀{ks:Φ}{xs:Ζ},ks.length=xs.length->vG f v (ks.zip xs)=(Iv ks f).zip (zW ks xs f v)/\(Iv ks f).length=(zW ks xs f v).length
 |[],[],_=>⟨rfl,rfl⟩
 |k::ks,x::xs,l=>by
  obtain⟨i1,i2⟩:=RG (f:=f) (v:=v) (ks:=ks) (xs:=xs) (Nat.succ.inj l);show(if k=f then(k,v)::ks.zip xs else(k,x)::vG f v (ks.zip xs))=_/\_;unfold Iv zW;by_cases h:k=f
  .rw[ZY h,ZY h,ZY h];exact⟨rfl,l⟩
  .rw[ZZ h,ZZ h,ZZ h,i1];exact⟨rfl,ZH (· + 1) i2⟩
 |[],_::_,l=>by cases l
 |_::_,[],l=>by cases l
theorem bZ.put{K:Frag}{F:Hp}{f:Str}{v:V}{t:T}(r:Rep K F v t):∀{ks:Φ}{xs:Ζ}{ts:List T},bZ K F xs ts->bZ K F (zW ks xs f v) (zW ks ts f t)
 |[],_,_,h=>h.app (.cons r .nil)
 |_::_,_,_,.nil=>.cons r .nil
 |k::ks,_,_,.cons a b=>by
  unfold zW;by_cases h:k=f
  .rw[ZY h,ZY h];exact .cons r b
  .rw[ZZ h,ZZ h];exact .cons a (bZ.put r b)
abbrev SI:=Addr->Φ->List T->List T->(Φ->List T->Prop)->Prop
def Slf(a dx b:Addr):Prop:=b=a\/b=dx
def spI(K:Frag)(S:SI):Sp:=λvs H Q _=>∃a dx C ks xs ts us as R,vs=.ref a::us/\H a=some (.ins C dx (ks.zip xs))/\H dx=some (.own a)/\ks.length=xs.length/\bZ K (hd (Slf a dx) H) xs ts/\bZ K (hd (Slf a dx) H) us as/\S C ks ts as R /\
 ∀H' d6 eQ eJ,R d6 eJ->Same (hd (Slf a dx) H) (hd (Slf a dx) H')->H' a=some (.ins C dx (d6.zip eQ))->H' dx=some (.own a)->d6.length=eQ.length->bZ K (hd (Slf a dx) H') eQ eJ->Q .non H'
section
variable{P:Program}{w:World}{K:Frag}{mg:Str->Ω}{base:Heap}
def startI(n:Nat)(a dx C:Addr)(ks:Φ)(ts as:List T):List OT:=.ob a dx C ks ts::start' (n-1) as
noncomputable def agU(a dx:Addr):Nat->Ψ
 |0=>[a,dx]
 |_+1=>[]
theorem Xf(a dx:Addr):Ow (agU a dx)=Slf a dx:=funext λb=>propext ⟨(λh=>by
  obtain⟨i,z⟩:=h;cases i with
  |zero =>
   rcases YU.mp z with z|z
   .exact .inl z
   .exact .inr (YR.mp z)
  |succ i=>cases z),λz=>⟨0,by show b∈[a,dx];rcases z with rfl|rfl<;>simp⟩⟩
theorem SR.startI{H:Hp}{a dx C:Addr}{ks:Φ}{xs:Ζ}{ts as:List T}{us:Ζ}(ha:H a=some (.ins C dx (ks.zip xs)))(bu:H dx=some (.own a))(l:ks.length=xs.length)(r:bZ K (hd (Slf a dx) H) xs ts)(r2:bZ K (hd (Slf a dx) H) us as)(N:Φ)(hN:us.length+1<=N.length) :
  SR K (agU a dx) H (L2.start N (.ref a::us)) (L2.startI N.length a dx C ks ts as):=by
 have eO:=Xf a dx;refine⟨?_,λi x e=>?_,λi hi b hb=>?_,λi j b e1 e2=>?_⟩
 .unfold L2.startI start' L2.start;have:=r2.len;simp only[List.length_cons,aA,ak,aN];lia
 .rw[eO];unfold L2.startI at e;cases i with
  |zero =>
   cases e;exact⟨xs,rfl,rfl,ha,bu,l,r⟩
  |succ i =>
   rw[List.getElem?_cons_succ]at e;show Slo K _ _ _ [] x;unfold start' at e;unfold L2.start;rw[List.map_cons,List.cons_append,List.getElem?_cons_succ];by_cases hi:i<as.length
   .rw[aF (by simpa using hi),aq,aj hi]at e;cases e;obtain⟨v,e1,r1⟩:=r2.at_ (aj hi);rw[aF (by rw[ak,r2.len];exact hi),aq,e1];exact⟨rfl,v,rfl,r1⟩
   .rw[aD (by simpa using hi),ak,X0]at e;by_cases hj:i-as.length<N.length-1-as.length
    .rw[ZY hj]at e;cases e;rfl
    .rw[ZZ hj]at e;cases e
 .unfold L2.startI at hi;cases i with
  |zero=>cases hi
  |succ i=>cases hb
 .cases i with
  |zero =>
   cases j with
   |zero=>rfl
   |succ j=>cases e2
  |succ i=>cases e1
theorem Fun.okI{x ai:Str}{st:Stmt}{f:Addr}{fd:FuncData}{N ps:Φ}{k:Nat}{S:SI}(F:Fun K x ai st f fd)(sc:bK N ps (bH st))(len:∀C ks ts as R,S C ks ts as R->as.length+1=ps.length)(hn:ps.length<=N.length)
 (ce:∀(af:Value)(A:Around)(outer:List Env)(s:Shared)(H:Hp)(E:XK),fB k (A.deeper (envOfC ai (bH st) s.heap.objs.size f af)) ->
   ∃r,QSs (MF CX0 P w K mg base N ai (bH st) f af A outer s H E).nox (fK st) r/\∀a dx C ks ts as R,S C ks ts as R->r { nx:=λo=>∃d6 eJ,slot o 0=.ob a dx C d6 eJ/\R d6 eJ,rt:=λ_=>False } (startI N.length a dx C ks ts as)):cj P w K mg base CX0 (k+1) f fd ps (spI K S):=by
 refine F.ok sc (λvs H Q E h=>?_) λaf A outer s H vs Q E hr h=>?_
 .obtain⟨a,dx,C,ks,xs,ts,us,as,R,rfl,_,_,_,_,r2,hS,_⟩:=h;rw[List.length_cons,r2.len];exact len _ _ _ _ _ hS
 .obtain⟨a,dx,C,ks,xs,ts,us,as,R,rfl,ha,bu,l,r,r2,hS,q⟩:=h;obtain⟨rd,h1,h2⟩:=ce af A outer s H E hr;have s0:=SR.startI ha bu l r r2 N (by rw[r2.len,len _ _ _ _ _ hS];exact hn);have eO:=Xf a dx;refine⟨_,h1,_,_,_,s0,h2 a dx C ks ts as R hS,⟨λown H' σ o rx E h=>?_,λ_ _ _ _ _ z=>z.elim,λ_ _ _ _ z=>z.elim,λ_ _ _ _ z=>z.elim⟩⟩;obtain⟨d6,eJ,es,rx⟩:=rx;rw[eO]at E;obtain⟨u,_,eQ,e1,e2,e3,e4,e5,e6⟩:=h.val es (by intro z;cases z);have sub:Same (hd (Ow own) H') (hd (Slf a dx) H'):=g8 (λb z=>.inl ⟨0,by rw[e2];rcases z with rfl|rfl<;>simp⟩) λ_ _ z=>z;exact q H' d6 eQ eJ rx (E.trans sub) e3 e4 e5 (e6.same sub)
end
section
variable{X:Cx}{e:Expr}{es:List Expr}{re:RE}{r:RA}{f:Str}{pos am p:Pos}{Fm:Addr->Prop}
def aeu(Fm:Addr->Prop)(i:Nat)(f:Str):RE:=λo q=>match slot o i with|.ob _ _ C ks ts=>Fm C/\∃t,lkF ks ts f=some t/\q (.fz t)|_=>False
theorem acW(i:Nat){x:Str}(c:∀C,Fm C->Cls X.K C/\cA X.K C f)(hN:X.N[i]?=some x:=by rfl)(hv:sV X.env.scope x=true:=by rfl)(bu:(x==("__debug__":Str))=false:=by decide)(be:(x==("__classdict__":Str))=false:=by decide)(hb:attributeBase (.Name x p) f X.env (eval (.Name x p) X.env)=eval (.Name x p) X.env:=by rfl):QE X (.Attribute (.Name x p) f pos) (aeu Fm i f):=(Ze (pv i hN hv bu be) hb).imp λσ H Q hP=>by
 obtain⟨own,o,R,h,hr,k⟩:=hP;unfold aeu at hr;cases es:slot o i with
 |ob a dx C ks ts =>
  rw[es]at hr;obtain⟨u,e1,xs,e2,e3,e4,e5,l,r⟩:=h.val es (by intro z;cases z);cases e2;obtain⟨hf,t,e6,q⟩:=hr;obtain⟨v,e7,r7⟩:=(aaR r).1 t e6;exact⟨_,e1,a,C,dx,_,v,rfl,e4,(c C hf).1,(c C hf).2,e7,k H _ _ q (.refl _) (NR.fz r7)⟩
 |_=>rw[es]at hr;exact hr.elim
def ad7(Fm:Addr->Prop)(i:Nat)(f:Str)(a:RE):RS:=λE o=>match slot o i with|.ob b dx C ks ts=>a o λy=>(Fm C/\ks.length<1000)/\E.nx (o.set i (.ob b dx C (Iv ks f) (zW ks ts f (frz y))))|_=>False
theorem qM(i:Nat){x:Str}{ay:Pos}(c:∀C,Fm C->Cls X.K C/\cA X.K C f)(he:QE X e re)(hN:X.N[i]?=some x:=by rfl)(hv:sV X.env.scope x=true:=by rfl)(bu:(x==("__debug__":Str))=false:=by decide)(be:(x==("__classdict__":Str))=false:=by decide)(hs:swapsWith e (some (.Attribute (.Name x p) f ay)) pos.line X.env=pure false:=by rfl):QS X (.Assign [.Attribute (.Name x p) f ay] e pos) (ad7 Fm i f re):=(agJ (pv i hN hv bu be) he hs).imp λD σ H hP=>by
 obtain⟨own,o,E,h,hr,L⟩:=hP;unfold ad7 at hr;cases es:slot o i with
 |ob a dx C ks ts =>
  rw[es]at hr;obtain⟨u,e1,xs,e2,e3,e4,e5,l,r⟩:=h.val es (by intro z;cases z);cases e2;refine tQ.mk h hr λH1 v y q E1 r1=>⟨_,e1,a,C,dx,_,rfl,E1 _ _ e4,(c C q.1.1).1,(c C q.1.1).2,by rw[VY,<- l,UV];exact q.1.2,?_⟩;obtain⟨pz,pl⟩:=RG (f:=f) (v:=v) l;rw[pz];have gS:dx≠a:=ahC e5 e4 (by intro z;cases z);obtain⟨h',S⟩:=(h.same E1).chg (gZ es (by intro z;cases z)) (y:=.ob a dx C (Iv ks f) (zW ks ts f (frz y))) (H':=upd H1 a (.ins C dx ((Iv ks f).zip (zW ks xs f v)))) (λb u hb e=>(cD λz=>hb (by rw[e3,z];simp)).trans e) (by
   rw[e1,Ep ⟨i,by rw[e3];simp⟩];exact⟨_,rfl,e3,cM,(cD gS).trans (E1 _ _ e5),pl,bZ.put r1 (r.same (bV E1))⟩)
  exact L.nx own _ σ _ q.2 ((bV E1).trans S) h'
 |_=>rw[es]at hr;exact hr.elim
def ane(Fm:Addr->Prop)(f:Str)(a:RE):RE:=λo q=>a o λx=>match frz x with|.ins C ks ts=>Fm C/\∃t,lkF ks ts f=some t/\q (.fz t)|_=>False
theorem uh(c:∀C,Fm C->Cls X.K C/\cA X.K C f)(he:QE X e re)(hb:attributeBase e f X.env (eval e X.env)=eval e X.env:=by rfl):QE X (.Attribute e f pos) (ane Fm f re):=(Ze he hb).imp λσ H Q ⟨own,o,R,h,hr,k⟩=>tQ.mk h hr λH1 v x q E1 r1=>by
 revert r1 q
 generalize frz x=t;intro q r1;cases t<;>try exact q.elim
 obtain⟨a,dx,xs,rfl,e,d,l,r⟩:=r1.insI;obtain⟨hf,t,e6,q⟩:=q;obtain⟨v,e7,r7⟩:=(aaR r).1 t e6;exact⟨a,_,dx,_,v,rfl,(cW e).2,(c _ hf).1,(c _ hf).2,e7,k H1 _ _ q E1 (NR.fz r7)⟩
abbrev OkM(X:Cx)(k:Nat)(fa:Addr)(ps:Φ)(S:ST):Prop:=OkI X.prog X.w X.K X.mg X.base CX0 k fa ps (spT X.K S)
theorem OkI.hid{P:Program}{w:World}{K:Frag}{mg:Str->Ω}{base:Heap}{k:Nat}{fa:Addr}{ps:Φ}{sp:Sp}(G:OkI P w K mg base CX0 k fa ps sp):OkI P w K mg base CX0 k fa ps (spH sp):=by obtain⟨fd,F,b⟩:=G;exact⟨fd,F.hid,b⟩
theorem Qy{S:ST}{H1:Hp}{σ:L2.St}{own:Nat->Ψ}{o:List OT}{R:OT->Prop}{Q:VK}{vs:Ζ}{ts:List T}{E:XK}(h1:SR X.K own H1 σ o)(r1:bZ X.K (hd (Ow own) H1) vs ts)(q:S ts R)(k:∀H' v x,R x->Same H1 H'->NR X.K (Ow own) H1 H' v x->Q v H'):spH (spT X.K S) vs H1 Q E:=by
 refine⟨Ow own,h1.hid,ts,R,r1,q,λG v x rx E n a9=>?_⟩;have EH:Same H1 (mrg (Ow own) H1 G):=λb u e=>by
  by_cases z:Ow own b
  .rw[vU z];exact e
  .rw[kJ z];exact E b u ((cU z).trans e)
 have EG:Same G (mrg (Ow own) H1 G):=λb u e=>by rw[kJ λz=>by rw[a9 b z]at e;cases e];exact e
 refine k _ v x rx EH ?_;obtain⟨B,nb,s⟩:=n;have out:∀a∈B,¬Ow own a:=λa ha z=>(s.sole ha).ne (a9 a z);refine⟨B,λa ha=>by have:=nb a ha;rwa[cU (out a ha)]at this,s.same (g8 (λb z=>?_) EG) EG⟩;rcases z with z|z
 .exact .inr (a9 b z)
 .exact .inl (.inr z)
def aej(C:Addr)(KS:Φ)(S:ST)(a:RE)(r:RA):RE:=λo q=>a o λx=>match frz x with|.ins C' ks ts=>(C'=C/\ks=KS)/\r o λas=>S (.ins C' ks ts::as) q|_=>False
theorem O_{f:Str} : ∀{KS:Φ}{xs:Ζ},f∉KS->(KS.zip xs).lookup f=none
 |[],_,_=>rfl
 |_::_,[],_=>rfl
 |k::KS,x::xs,h=>by
  rw[List.zip_cons_cons,List.lookup_cons,beq_false_of_ne λ(z:f=k)=>h (by rw[z];exact aO ..)];exact O_ λz=>h (aJ _ z)
theorem Dp{o:Expr}{ro:RE}{k:Nat}{fa C:Addr}{ps KS:Φ}{S:ST}{pl:Sem Bool}(he:QE X o ro)(c:Cls X.K C)(hm:Meth X.K C f fa)(G:OkM X k fa ps S)(hr:fB k X.A)(ha:QA X (e::es) r)(hk:f∉KS:=by decide +kernel)
 (b8:starEach (e::es) X.env=(false,eval e X.env)::starEach es X.env:=by rfl)(bg:(backTo pos (starEach es X.env)).any (·.1)=false:=by rfl)
 (ht:eval (.Call (.Attribute o f am) (e::es) [] pos) X.env=(do
   let ov <- eval o X.env
   standAt am.atName
   let(f,first) <- holding [ov] (getMethod ov f pl)
   callWith pos f first (backTo pos (starEach (e::es) X.env)) (backToKw pos (keywordEach [] X.env))):=by rfl) :
  QE X (.Call (.Attribute o f am) (e::es) [] pos) (aej C KS S ro r):=(Z5 (pl:=pl) he c hm (OkI.hid G) hr ha b8 bg ht).imp λσ H Q ⟨own,o,R,h,hr,k⟩=>tQ.mk h hr λH1 v x q E1 r1=>by
 revert r1 q
 generalize frz x=t;intro q r1;cases t<;>try exact q.elim
 obtain⟨a,dx,xs,rfl,e,d,l,r⟩:=r1.insI;obtain⟨⟨rfl,rfl⟩,q⟩:=q;refine⟨a,dx,_,rfl,(cW e).2,O_ hk,tQA.mk (h.same E1) q λH2 vs as q _ E2 r2=>?_⟩;exact Qy ((h.same E1).same E2) (.cons (r1.same (bV E2)) r2) q λH' v x rx E n=>k H' v x rx (E1.trans (E2.trans E)) (n.back (E1.trans E2))
theorem Dy{o:Expr}{ro:RE}{k:Nat}{fa C:Addr}{ps KS:Φ}{S:ST}{pl:Sem Bool}(he:QE X o ro)(c:Cls X.K C)(hm:Meth X.K C f fa)(G:OkM X k fa ps S)(hr:fB k X.A)(hk:f∉KS:=by decide +kernel)
 (ht:eval (.Call (.Attribute o f am) [] [] pos) X.env=(do
   let ov <- eval o X.env
   standAt am.atName
   let(f,first) <- holding [ov] (getMethod ov f pl)
   callWith pos f first (backTo pos (starEach [] X.env)) (backToKw pos (keywordEach [] X.env))):=by rfl) :
  QE X (.Call (.Attribute o f am) [] [] pos) (aej C KS S ro ae2):=(XC (pl:=pl) he c hm (OkI.hid G) hr ht).imp λσ H Q ⟨own,o,R,h,hr,k⟩=>tQ.mk h hr λH1 v x q E1 r1=>by
 revert r1 q
 generalize frz x=t;intro q r1;cases t<;>try exact q.elim
 obtain⟨a,dx,xs,rfl,e,d,l,r⟩:=r1.insI;obtain⟨⟨rfl,rfl⟩,q⟩:=q;refine⟨a,dx,_,rfl,(cW e).2,O_ hk,?_⟩;exact Qy (E:=E0) (h.same E1) (.cons r1 .nil) q λH' v x rx E n=>k H' v x rx (E1.trans E) (n.back E1)
def aiW(C:Addr)(S:SI)(r:RA):RE:=λo q=>r o λas=>S C [] [] as λks ts=>q (.fz (.ins C ks ts))
theorem Bm{x:Str}{k:Nat}{fa C:Addr}{ps:Φ}{S:SI}(M:Mk X.K C fa)(G:OkI X.prog X.w X.K X.mg X.base CX0 k fa ps (spI X.K S))(hr:fB (k+1) X.A)(hg:Gl X x)(hm:X.mg x=some (.ref C))(ha:QA X (e::es) r)(cc:(x==("__debug__":Str))=false:=by decide)
 (he:starEach (e::es) X.env=(false,eval e X.env)::starEach es X.env:=by rfl)(bg:(backTo pos (starEach es X.env)).any (·.1)=false:=by rfl):QE X (.Call (.Name x p) (e::es) [] pos) (aiW C S r):=(aaw M (OkI.hid G) hr hg hm ha cc he bg).imp λσ H Q ⟨own,o,R,h,hr,k⟩=>tQA.mk h hr λH1 vs as q _ E1 r1 a dx na nd ne=>by
 have h1:=h.same E1;have E2:Same H1 (upd (upd H1 dx (.own a)) a (.ins C dx [])):=(Same.upd nd).trans (Same.upd ((cD (Ne.symm ne)).trans na));have h2:=h1.same E2;have oa:¬Ow own a:=λz=>(h1.sole z).ne na;have od:¬Ow own dx:=λz=>(h1.sole z).ne nd;refine⟨Ow own,h2.hid,a,dx,C,[],[],[],vs,as,_,rfl,(cU oa).trans cM,(cU od).trans ((cD ne).trans cM),rfl,.nil,r1.same (λb u e=>?_),q,λG d6 eQ eJ rx E ea ed l r a9=>⟨rfl,?_⟩⟩
 .obtain⟨n,e⟩:=cW e;have n2:¬Slf a dx b:=λz=>by rcases z with rfl|rfl<;>rw[e]at *<;>contradiction
  rw[cU n2,cU n];exact E2 _ _ e
 .have EG:Same G (mrg (Ow own) (upd (upd H1 dx (.own a)) a (.ins C dx [])) G):=λb u e=>by rw[kJ λz=>by rw[a9 b z]at e;cases e];exact e
  refine k _ _ _ rx (E1.trans λb u e=>?_) (NR.fz (.ins (dx:=dx) (ks:=d6) (xs:=eQ) ?_ ?_ l (r.same λb u e=>?_)))
  .by_cases z:Ow own b
   .rw[vU z];exact E2 _ _ e
   .have n2:¬Slf a dx b:=λz=>by rcases z with rfl|rfl<;>rw[e]at *<;>contradiction
    exact EG _ _ (cW (E b u ((cU n2).trans ((cU z).trans (E2 _ _ e))))).2
  .rw[cU oa];exact EG _ _ ea
  .rw[cU od];exact EG _ _ ed
  .have e':=(cW e).2;rw[cU λz=>by rw[a9 b z]at e';cases e'];exact EG _ _ e'
def aem(i:Nat)(S:SI)(r:RA):RS:=λE o=>match slot o i with|.ob a dx C ks ts=>r o λas=>S C ks ts as λd6 eJ=>E.nx (o.set i (.ob a dx C d6 eJ))|_=>False
theorem GP(i:Nat){x y m:Str}{p2 ag:Pos}{k:Nat}{fa B:Addr}{ps:Φ}{S:SI}{pl:Sem Bool}(c:Fw X.K B m fa)(G:OkI X.prog X.w X.K X.mg X.base CX0 k fa ps (spI X.K S))(hr:fB k X.A)(hg:Gl X x)(hm:X.mg x=some (.ref B))(ha:QA X es r)
 (hN:X.N[i]?=some y:=by rfl)(hv:sV X.env.scope y=true:=by rfl)(bu:(y==("__debug__":Str))=false:=by decide)(be:(y==("__classdict__":Str))=false:=by decide)(cc:(x==("__debug__":Str))=false:=by decide)
 (b8:starEach (.Name y p2::es) X.env=(false,eval (.Name y p2) X.env)::starEach es X.env:=by rfl)(bg:(backTo ag (starEach es X.env)).any (·.1)=false:=by rfl)
 (ht:eval (.Call (.Attribute (.Name x p) m am) (.Name y p2::es) [] ag) X.env=(do
   let ov <- eval (.Name x p) X.env
   standAt am.atName
   let(f,first) <- holding [ov] (getMethod ov m pl)
   callWith ag f first (backTo ag (starEach (.Name y p2::es) X.env)) (backToKw ag (keywordEach [] X.env))):=by rfl)
 (hs:swapsWith (.Call (.Attribute (.Name x p) m am) (.Name y p2::es) [] ag) none pos.line X.env=pure false:=by rfl) :
  QS X (.Expr (.Call (.Attribute (.Name x p) m am) (.Name y p2::es) [] ag) pos) (aem i S r):=(yZ (aag (pl:=pl) c (OkI.hid G) hr hg hm (pF (pv i hN hv bu be) ha b8) cc b8 bg ht) hs).imp λD σ H hP=>by
 obtain⟨own,o,E,h,hr,L⟩:=hP;unfold aem at hr;cases es:slot o i with
 |ob a dx C ks ts =>
  rw[es]at hr;obtain⟨u,e1,xs,e2,e3,e4,e5,l,r⟩:=h.val es (by intro z;cases z);cases e2;refine⟨_,e1,tQA.mk h hr λH1 vs as q _ E1 r1=>?_⟩;have h1:=h.same E1;have sub:∀b,Slf a dx b->b∈own i:=λb z=>by rw[e3];rcases z with rfl|rfl<;>simp
  have bus:∀b,b∈own i->Slf a dx b:=λb z=>by
   rw[e3]at z;rcases YU.mp z with z|z
   .exact .inl z
   .exact .inr (YR.mp z)
  have hid:Hid H1 (λb=>Ow own b/\¬Slf a dx b):=⟨λb z=>h1.sole z.1,λb C d f ⟨⟨j,z⟩,n⟩ e=>⟨⟨j,(h1.mate z).1 C d f e⟩,λy=>n (bus b ((h1.dis j i d ((h1.mate z).1 C d f e) (sub d y)) ▸ z))⟩,λb x ⟨⟨j,z⟩,n⟩ e=>⟨⟨j,(h1.mate z).2 x e⟩,λy=>n (bus b ((h1.dis j i x ((h1.mate z).2 x e) (sub x y)) ▸ z))⟩⟩;have eqF:∀H':Hp,hd (Slf a dx) (hd (λb=>Ow own b/\¬Slf a dx b) H')=hd (Ow own) H':=λH'=>funext λb=>by
   by_cases z:Slf a dx b
   .rw[pY z,pY ⟨i,sub b z⟩]
   .rw[cU z];by_cases y:Ow own b
    .rw[pY (⟨y,z⟩ : Ow own b/\¬Slf a dx b),pY y]
    .rw[cU (λw=>y w.1),cU y]
  have na:¬(Ow own a/\¬Slf a dx a):=λz=>z.2 (.inl rfl);have nd:¬(Ow own dx/\¬Slf a dx dx):=λz=>z.2 (.inr rfl);refine⟨_,hid,a,dx,C,ks,xs,ts,vs,as,_,rfl,(cU na).trans (E1 _ _ e4),(cU nd).trans (E1 _ _ e5),l,by rw[eqF];exact r.same (bV E1),by rw[eqF];exact r1,q,λG d6 eQ eJ rx EE ea ed l' r' a9=>?_⟩;rw[eqF]at EE;have c9:∀{b:Addr}{u:HO},G b=some u->mrg (λb=>Ow own b/\¬Slf a dx b) H1 G b=some u:=λ{b u}e=>(kJ λz=>by rw[a9 b z]at e;cases e).trans e;obtain⟨h',S'⟩:=h1.chg (gZ es (by intro z;cases z)) (y:=.ob a dx C d6 eJ) (H':=mrg (λb=>Ow own b/\¬Slf a dx b) H1 G) (λb u hb e=>by
   by_cases z:Ow own b
   .rw[vU ⟨z,λy=>hb (sub b y)⟩];exact e
   .exact c9 (cW (EE b u ((cU z).trans e))).2) (by
   rw[e1];refine⟨eQ,rfl,e3,c9 ea,c9 ed,l',r'.same λb u e=>?_⟩;obtain⟨n1,e⟩:=cW e;rw[cU λz=>by rw[a9 b ⟨z,n1⟩]at e;cases e];exact c9 e)
  exact L.nx own _ σ _ rx ((bV E1).trans S') h'
 |_=>rw[es]at hr;exact hr.elim
end
section
variable{X:Cx}{a b c e:Expr}{ra rb rc re:RE}{pos p:Pos}
theorem lR{x:Str}{A:Addr}{i j:Int}{pos:Pos}(hg:Gl X x)(hm:X.mg x=some (.ref A))(kt:∀H,SqT X.K H A [.int i,.int j])(hd:(x==("__debug__":Str))=false:=by decide):QE X (.Name x pos) (rC (.tup [.int i,.int j])):=qC (aaS hg hm hd) λF=>.tup (kt F) (.cons (.int _) (.cons (.int _) .nil))
theorem QE.any{Fm:Addr->Prop}{r:Addr->RE}(h:∀C,Fm C->QE X e (r C)):QE X e (λo q=>∃C,Fm C/\r C o q):=λaa s σ H Q I ⟨own,o,R,hs,⟨C,hC,hr⟩,k⟩=>h C hC aa s σ H Q I ⟨own,o,R,hs,hr,k⟩
theorem uE{tg iter aS:Expr}{aE:List Expr}{ri:RI}{g:T->List OT->(List OT->Prop)->Prop}{rc:RT}{scope:Scope}{i0:Nat}{y0:Str}{py b7:Pos}(sc:Scope)(N N' xs:Φ)(hi:QI X tg iter ri)(hg:∀{C s₀ H₀ ex pn},QG (X.compG N' scope xs C s₀ H₀ ex pn) xs.length tg g)(ht:∀{C s₀ H₀ ex pn},QTs (X.compG N' scope xs C s₀ H₀ ex pn) aE rc)(he:∀{C s₀ H₀ ex pn},QE (X.compG N' scope xs C s₀ H₀ ex pn) aS re)(fF:PG X (.Name y0 py) (zU i0))
 (cx:X.env.scope=sc:=by rfl)(cS:X.N=N:=by rfl)(hc:X.calm=true:=by rfl)(hk:scope.kind=.function:=by rfl)(h:CK sc scope N N' xs:=by decide +kernel)(fy:swapsWith (.ListComp aS [⟨tg,iter,aE,0⟩] scope pos) (some (.Name y0 py)) b7.line X.env=pure true:=by rfl)(hs:∀z,foldedSetIterable iter X.env z=pure z:=by intro _;rfl) :
  QS X (.Assign [.Name y0 py] (.ListComp aS [⟨tg,iter,aE,0⟩] scope pos) b7) (ag2 i0 (Xz ri xs.length g rc re)):=(Z0 (gt:=tQG X.K xs.length g) (tc:=tQT X.K rc) (te:=tQ X.K re) sc N N' xs hi hg ht he fF cx cS hc hk h fy hs).imp λD σ H ⟨own,o,E,h,hr,L⟩=>HJ ⟨own,o,_,h,hr,λH' v y q S n=>by
 obtain⟨ah,h',S'⟩:=h.putA S (n.frz λb z=>(h.sole z).ne) i0;exact L.nx ah H' _ _ q S' h'⟩
def amZ(i j:Nat)(r:RA):RS:=λE o=>r o λts=>match ts with|[t,u]=>E.nx ((o.set i (.fz t)).set j (.fz u))|_=>False
theorem af8(i j:Nat){x y:Str}{r:RA}{px py pt:Pos}{kt k2 pt2}(hc:X.calm=true)(hN:X.N.Nodup)(hU:i≠j)(ha:QA X [a,b] r)(hi:X.N[i]?=some x:=by rfl)(hj:X.N[j]?=some y:=by rfl)
 (hx:X.env.scope.names.lookup x=some .local:=by rfl)(hy:X.env.scope.names.lookup y=some .local:=by rfl)
 (hw:swappedStores [.Tuple [.Name x px,.Name y py] kt pt] (.Tuple [a,b] k2 pt2) X.env=pure (some [x,y]):=by rfl)
 (hs:swapsWithSole [.Tuple [.Name x px,.Name y py] kt pt] (.Tuple [a,b] k2 pt2) pos.line X.env=pure false:=by rfl) :
  QS X (.Assign [.Tuple [.Name x px,.Name y py] kt pt] (.Tuple [a,b] k2 pt2) pos) (amZ i j r):=(afQ hc hN hi hj hU hx hy ha hw hs).imp λD σ H ⟨own,o,E,h,hr,L⟩=>⟨own,o,_,h,hr,λH1 vs ts q _ E1 r1=>by
 match ts,q with
 |[t,u],q =>
  obtain⟨v,w,rfl,rv,ko⟩:=r1.two;refine⟨v,w,rfl,?_⟩;obtain⟨ah,h',go⟩:=(h.same E1).setF rv (X1 i);obtain⟨bS,h2,S2⟩:=h'.putA (.refl _) (NR.fz (ko.same go.same)) j;exact L.nx bS H1 _ _ q ((bV E1).trans (go.same.trans S2)) h2⟩
theorem ix2{α β:Type}{xs:List α}{ys:List β}{j:Int}{y:β}(l:xs.length=ys.length)(e:ixT ys j=some y):∃n x,ixN ys.length j=some n/\ys[n]?=some y/\xs[n]?=some x/\atI xs j=some x:=by
 rw[Ue]at e;unfold atI at e ⊢;rw[l];cases z:ixN ys.length j with
 |none=>rw[z]at e;cases e
 |some n =>
  rw[z]at e;have hn:n<xs.length:=l ▸ (ao.mp e).1;exact⟨n,xs[n],rfl,e,aj hn,aj hn⟩
theorem Ig{α:Type} : ∀{l:List α},l.Nodup->∀{i j:Nat}{x:α},l[i]?=some x->l[j]?=some x->i=j
 |[],_,_,_,_,e,_=>by cases e
 |y::l,nd,i,j,x,e1,e2=>by
  obtain⟨n1,n2⟩:=List.nodup_cons.mp nd;cases i with
  |zero =>
   cases j with
   |zero=>rfl
   |succ j=>cases e1;exact absurd (aC (by simpa using e2)) n1
  |succ i =>
   cases j with
   |zero=>cases e2;exact absurd (aC (by simpa using e1)) n1
   |succ j=>exact ZH (· + 1) (Ig n2 (by simpa using e1) (by simpa using e2))
theorem SR.l2{K:Frag}{own:Nat->Ψ}{H:Hp}{σ:L2.St}{o:List OT}(h:SR K own H σ o){i:Nat}{ar:List (List T)}(e:slot o i=.l2 ar):∃l bs,σ[i]?=some (some (.ref l))/\own i=l::bs/\(l::bs).Nodup/\H l=some (.lst (bs.map V.ref))/\bs.length=ar.length/\∀(i:Nat)b ts,bs[i]?=some b->ar[i]?=some ts->∃xs,H b=some (.lst xs)/\bZ K (hd (Ow own) H) xs ts:=by
 obtain⟨u,e1,l,bs,e2,e3,nd,e4,ln,r⟩:=h.val e (by intro z;cases z);cases e2;exact⟨l,bs,e1,e3,nd,e4,ln,r⟩
theorem SR.chg2{K:Frag}{own:Nat->Ψ}{H:Hp}{σ:L2.St}{o:List OT}(h:SR K own H σ o){i n:Nat}{ar:List (List T)}(e:slot o i=.l2 ar){l b:Addr}{bs:Ψ}{ys:Ζ}{us:List T}(eσ:σ[i]?=some (some (.ref l)))(eo:own i=l::bs)(nd:(l::bs).Nodup)(e4:H l=some (.lst (bs.map V.ref)))(ln:bs.length=ar.length)(r:∀(i:Nat)b ts,bs[i]?=some b->ar[i]?=some ts->∃xs,H b=some (.lst xs)/\bZ K (hd (Ow own) H) xs ts)(eb:bs[n]?=some b)(ry:bZ K (hd (Ow own) H) ys us) :
  SR K own (upd H b (.lst ys)) σ (o.set i (.l2 (ar.set n us)))/\Same (hd (Ow own) H) (hd (Ow own) (upd H b (.lst ys))):=by
 have bm:=aC eb;obtain⟨nl,jv⟩:=List.nodup_cons.mp nd;refine h.chg (gZ e (by intro z;cases z)) (λc u hc e=>(cD λz=>hc (by rw[eo,z];exact aJ _ bm)).trans e) ?_;rw[eσ,Ep ⟨i,by rw[eo];exact aJ _ bm⟩];refine⟨l,bs,rfl,eo,nd,(cD λ(z:l=b)=>nl (by rw[z];exact bm)).trans e4,by rw[VU];exact ln,λk c ts e1 e2=>?_⟩;by_cases z:k=n
 .subst z;rw[eb]at e1;cases e1;rw[Ts (ln ▸ (ao.mp eb).1)]at e2;cases e2;exact⟨ys,cM,ry⟩
 .rw[UQ (Ne.symm z)]at e2;obtain⟨xs,q,rx⟩:=r k c ts e1 e2;refine⟨xs,(cD λy=>?_).trans q,rx⟩;have h1:=(ao.mp e1).1;have h2:=(ao.mp eb).1;exact z (Ig jv e1 (by rw[eb,y]))
theorem UW{bs:Ψ}{j:Int}{c:Addr}(e:atI bs j=some c):atI (bs.map V.ref) j=some (.ref c):=by
 have:atI (bs.map V.ref) j=(atI bs j).map V.ref:=by unfold atI;rw[ak];cases ixN bs.length j<;>simp
 rw[this,e];rfl
def aer(i:Nat)(a b:RE):RE:=λo q=>match slot o i with
 |.l2 ar=>a o λx=>(match frz x with|.int j=>∃ts,ixT ar j=some ts/\b o λy=>(match frz y with|.int m=>∃t,ixT ts m=some t/\q (.fz t)|_=>False)|_=>False)
 |_=>False
theorem adl(i:Nat){x:Str}{p2:Pos}(ha:QE X a ra)(hb:QE X b rb)(hN:X.N[i]?=some x:=by rfl)(hv:sV X.env.scope x=true:=by rfl)(bu:(x==("__debug__":Str))=false:=by decide)
 (be:(x==("__classdict__":Str))=false:=by decide)(iA:uR a:=by exact λ_ _=>rfl)(hs:uR b:=by exact λ_ _=>rfl):QE X (.Subscript (.Subscript (.Name x p) a p2) b pos) (aer i ra rb):=(K8 yW (K8 yW (pv i hN hv bu be) ha iA) hb hs).imp λσ H Q hP=>by
 obtain⟨own,o,R,h,hr,k⟩:=hP;unfold aer at hr;cases es:slot o i with
 |l2 ar =>
  rw[es]at hr;obtain⟨l,bs,e1,e3,nd,e4,ln,r⟩:=h.l2 es;refine⟨_,e1,tQ.mk h hr λH1 v x q E1 r1=>?_⟩
  revert r1 q
  generalize frz x=t;intro q r1;cases t<;>try exact q.elim
  cases r1;obtain⟨ts,ej,q⟩:=q;obtain⟨n,c,_,et,ec,ei⟩:=ix2 (xs:=bs) ln ej;obtain⟨xs,eq,rx⟩:=r n c ts ec et;refine⟨l,bs.map V.ref,_,.ref c,rfl,rfl,.of (E1 _ _ e4),?_,tQ.mk (h.same E1) q λH2 w y q E2 r2=>?_⟩
  .exact UW ei
  .revert r2 q
   generalize frz y=t;intro q r2;cases t<;>try exact q.elim
   cases r2;obtain⟨t,em,q⟩:=q;obtain⟨z,e7,r7⟩:=rx.ix em;have bP:=E1.trans E2;exact⟨c,xs,_,z,rfl,rfl,.of (bP _ _ eq),e7,k H2 _ _ q bP (NR.fz (r7.same (bV bP)))⟩
 |_=>rw[es]at hr;exact hr.elim
def ael(i:Nat)(a b:RE):RS:=λE o=>match slot o i with
 |.l2 ar=>a o λx=>(match frz x with|.int j=>∃n ts,ixN ar.length j=some n/\ar[n]?=some ts/\ts.length<sizeLine/\b o λy=>E.nx (o.set i (.l2 (ar.set n (ts++[frz y]))))|_=>False)
 |_=>False
theorem ix3{α β:Type}{xs:List α}{ys:List β}{j:Int}{n:Nat}{y:β}(l:xs.length=ys.length)(e:ixN ys.length j=some n)(ey:ys[n]?=some y):∃x,xs[n]?=some x/\atI xs j=some x:=by
 have hn:n<xs.length:=l ▸ (ao.mp ey).1;exact⟨xs[n],aj hn,by unfold atI;rw[l,e];exact aj hn⟩
theorem acQ(i:Nat){x:Str}{am ag p2:Pos}(ha:QE X a ra)(he:QE X e re)(hN:X.N[i]?=some x:=by rfl)(hv:sV X.env.scope x=true:=by rfl)(bu:(x==("__debug__":Str))=false:=by decide)(be:(x==("__classdict__":Str))=false:=by decide)(iA:uR a:=by exact λ_ _=>rfl)
 (hb:attributeBase (.Subscript (.Name x p) a p2) "append" X.env (eval (.Subscript (.Name x p) a p2) X.env)=eval (.Subscript (.Name x p) a p2) X.env:=by rfl)
 (hf:((backTo ag (starEach [e] X.env)).all (λx=>!x.1)&&(backToKw ag (keywordEach [] X.env)).all (λx=>x.1.isSome)&&decide ([e].length+([] : List Keyword).length+(if([] : List Keyword).isEmpty then 0 else 1)<30))=true:=by rfl)
 (hl:(am.endLine==ag.line)=true:=by rfl)(b8:starEach [e] X.env=(false,eval e X.env)::starEach [] X.env:=by rfl)(hp:(backTo ag (starEach [] X.env)).any (·.1)=false:=by rfl)
 (hs:swapsWith (.Call (.Attribute (.Subscript (.Name x p) a p2) "append" am) [e] [] ag) none pos.line X.env=pure false:=by rfl) :
  QS X (.Expr (.Call (.Attribute (.Subscript (.Name x p) a p2) "append" am) [e] [] ag) pos) (ael i ra re):=(yZ (ZD (K8 yW (pv i hN hv bu be) ha iA) (pF he M7 b8) hb hf hl b8 hp) hs).imp λD σ H hP=>by
 obtain⟨own,o,E,h,hr,L⟩:=hP;unfold ael at hr;cases es:slot o i with
 |l2 ar =>
  rw[es]at hr;obtain⟨l,bs,e1,e3,nd,e4,ln,r⟩:=h.l2 es;refine⟨_,e1,tQ.mk h hr λH1 v x q E1 r1=>?_⟩
  revert r1 q
  generalize frz x=t;intro q r1;cases t<;>try exact q.elim
  cases r1;obtain⟨n,ts,en,et,sz,q⟩:=q;obtain⟨c,ec,ei⟩:=ix3 (xs:=bs) ln en et;obtain⟨xs,eq,rx⟩:=r n c ts ec et;refine⟨l,bs.map V.ref,_,.ref c,rfl,rfl,.of (E1 _ _ e4),UW ei,c,xs,rfl,E1 _ _ eq,tQ.mk (h.same E1) q λH2 w y q E2 r2=>?_⟩;have bP:=E1.trans E2;refine⟨w,xs,rfl,bP _ _ eq,by rw[rx.len];exact sz,?_⟩;obtain⟨h',S⟩:=(h.same bP).chg2 es e1 e3 nd (bP _ _ e4) ln (λi b ts a c=>let⟨xs,p,q⟩:=r i b ts a c;⟨xs,bP _ _ p,q.same (bV bP)⟩) ec ((rx.same (bV bP)).app (.cons r2 .nil));exact L.nx own _ σ _ q ((bV bP).trans S) h'
 |_=>rw[es]at hr;exact hr.elim
def aed(i:Nat)(c a b:RE):RS:=λE o=>match slot o i with
 |.l2 ar=>c o λy=>a o λx=>(match frz x with|.int j=>∃n ts,ixN ar.length j=some n/\ar[n]?=some ts/\b o λz=>(match frz z with|.int m=>∃k,ixN ts.length m=some k/\E.nx (o.set i (.l2 (ar.set n (ts.set k (frz y)))))|_=>False)|_=>False)
 |_=>False
theorem adE(i:Nat){x:Str}{ay p2:Pos}(he:QE X e re)(ha:QE X a ra)(hk:QE X b rb)(hN:X.N[i]?=some x:=by rfl)(hv:sV X.env.scope x=true:=by rfl)(bu:(x==("__debug__":Str))=false:=by decide)(be:(x==("__classdict__":Str))=false:=by decide)(iA:uR a:=by exact λ_ _=>rfl)
 (hq:∀v,assign (.Subscript (.Subscript (.Name x p) a p2) b ay) X.env v=(do
   let ov <- holding [v] (eval (.Subscript (.Name x p) a p2) X.env)
   let iv <- holding [v,ov] (eval b X.env)
   standAt ay
   holding [v,ov,iv] (setItem ov iv v)
   release [v,ov,iv] []):=by intro _;rfl)
 (hs:swapsWithSole [.Subscript (.Subscript (.Name x p) a p2) b ay] e pos.line X.env=pure false:=by rfl)(hw:swappedStores [.Subscript (.Subscript (.Name x p) a p2) b ay] e X.env=pure none:=by rfl)
 (h1:(assignEach [.Subscript (.Subscript (.Name x p) a p2) b ay] X.env).map (·.2)=[assign (.Subscript (.Subscript (.Name x p) a p2) b ay) X.env]:=by rfl):QS X (.Assign [.Subscript (.Subscript (.Name x p) a p2) b ay] e pos) (aed i re ra rb):=(TV he (ZS (K8 yW (pv i hN hv bu be) ha iA) hk set_list hq) hs hw h1).imp λD σ H hP=>by
 obtain⟨own,o,E,h,hr,L⟩:=hP;unfold aed at hr;cases es:slot o i with
 |l2 ar =>
  rw[es]at hr;obtain⟨l,bs,e1,e3,nd,e4,ln,r⟩:=h.l2 es;refine tQ.mk h hr λH0 v0 y q E0' r0=>⟨_,e1,tQ.mk (h.same E0') q λH1 v x q E1 r1=>?_⟩
  revert r1 q
  generalize frz x=t;intro q r1;cases t<;>try exact q.elim
  cases r1;obtain⟨n,ts,en,et,q⟩:=q;obtain⟨c,ec,ei⟩:=ix3 (xs:=bs) ln en et;obtain⟨xs,eq,rx⟩:=r n c ts ec et;have E01:=E0'.trans E1;refine⟨l,bs.map V.ref,_,.ref c,rfl,rfl,.of (E01 _ _ e4),UW ei,tQ.mk (h.same E01) q λH2 w z q E2 r2=>?_⟩
  revert r2 q
  generalize frz z=t;intro q r2;cases t<;>try exact q.elim
  cases r2;obtain⟨k,ek,q⟩:=q;have bP:=E01.trans E2;refine⟨c,xs,_,k,rfl,rfl,bP _ _ eq,by rw[rx.len];exact ek,?_⟩;obtain⟨h',S⟩:=(h.same bP).chg2 es e1 e3 nd (bP _ _ e4) ln (λi b ts a c=>let⟨xs,p,q⟩:=r i b ts a c;⟨xs,bP _ _ p,q.same (bV bP)⟩) ec (bZ.set (r0.same (bV (E1.trans E2))) k (rx.same (bV bP)));exact L.nx own _ σ _ q ((bV bP).trans S) h'
 |_=>rw[es]at hr;exact hr.elim
def anH:T->T->(OT->Prop)->Prop
 |.str i,.str j,q=>q (.fz (.bl (!decide (j.cps.toList<i.cps.toList))))
 |_,_,_=>False
theorem aaj:GO X (compareOp .LtE) anH:=agL.imp λx y H Q hP=>by
 obtain⟨S,t,u,R,_,hx,hy,hg,k⟩:=hP;cases hx<;>try exact hg.elim
 cases hy<;>try exact hg.elim
 exact⟨_,_,rfl,rfl,k H _ _ hg (.refl _) (NR.fz (.bl _))⟩
theorem adL:GC X (.builtin "len") (g1 alT):=.one O2 λS t x H Q R rx hg k=>by
 cases t<;>try exact hg.elim
 cases rx;exact⟨_,rfl,hg.1,k H _ _ hg.2 (.refl _) (NR.fz (.int _))⟩
def amr(a:RE):RI:=λo q=>a o λx=>match frz x with|.str s=>q (s.cps.toList.map λc=>.str ⟨#[c]⟩)|_=>False
theorem agH{tg:Expr}(he:QE X e re):QI X tg e (amr re):=(agb he).imp λσ H Q ⟨own,o,R,h,hr,k⟩=>tQ.mk h hr λH1 v x q E1 r1=>by
 revert r1 q
 generalize frz x=t;intro q r1;cases t<;>try exact q.elim
 cases r1;refine⟨_,rfl,k H1 _ _ q E1 λS H2 i _ SF=>⟨λhi=>show i=_ by simpa using hi,λt ht=>?_⟩⟩;rw[aq]at ht;cases z:(‹Str›.cps.toList)[i]? with
 |none=>rw[z]at ht;cases ht
 |some c =>
  rw[z]at ht;cases ht;refine⟨show i<_ by simpa using(ao.mp z).1,?_⟩;rintro x H3 ⟨rfl,c',e',rfl⟩;rw[<- Array.getElem?_toList,z]at e';cases e';exact⟨.refl _,.str _⟩
end
abbrev HG:=T->List OT->(List OT->Prop)->Prop
section
variable{α β:Type}{g:HG}{b:RS}{E:DT}{o:List OT}
theorem Wt(h:α->T)(l:List α)(J:List α->List OT->Prop)(st:∀as a bs o,l=as++a::bs->J as o->g (h a) o λo'=>b { E with nx:=J (as++[a]),ct:=J (as++[a]),bk:=E.nx } o')(bn:∀o,J l o->E.nx o):∀(bs as:List α)(o:List OT),l=as++bs->J as o->vB g b E (bs.map h) o
 |[],as,o,e,j=>bn o (by rw[List.append_nil]at e;rw[e];exact j)
 |a::bs,as,o,e,j=>⟨J (as++[a]),λo k=>Wt h l J st bn bs (as++[a]) o (by rw[e];simp) k,st as a bs o e j⟩
theorem f9(h:α->T)(l:List α)(J:List α->List OT->Prop)(j:J [] o)(st:∀as a bs o,l=as++a::bs->J as o->g (h a) o λo'=>b { E with nx:=J (as++[a]),ct:=J (as++[a]),bk:=E.nx } o')(bn:∀o,J l o->E.nx o):vB g b E (l.map h) o:=Wt h l J st bn l [] o rfl j
theorem Br(J:Nat->List OT->Prop):∀(xs:List T)(k:Nat){o:List OT},J k o->(∀i t o,xs[i]?=some t->J (k+i) o->g t o λo'=>b { E with nx:=J (k+i+1),ct:=J (k+i+1),bk:=E.nx } o')->(∀o,J (k+xs.length) o->E.nx o)->vB g b E xs o
 |[],_,o,j,_,bn=>bn o j
 |t::ts,k,o,j,st,bn=>⟨J (k+1),λo z=>Br J ts (k+1) z (λi t o e z=>by
   have:=st (i+1) t o (by simpa using e) (by rw[show k+(i+1)=k+1+i by lia];exact z);rw[show k+(i+1)+1=k+1+i+1 by lia]at this;exact this) (λo z=>bn o (by rw[List.length_cons,show k+(ts.length+1)=k+1+ts.length by lia];exact z)),st 0 t o rfl j⟩
theorem ju{n:Nat}(J:Nat->List OT->Prop)(j:J 0 o)(st:∀k o,k<n->J k o->g (.int (k:Nat)) o λo'=>b { E with nx:=J (k+1),ct:=J (k+1),bk:=E.nx } o')(bn:∀o,J n o->E.nx o):vB g b E (rng 0 n) o:=by
 refine Br J (rng 0 n) 0 j (λi t o e z=>?_) λo z=>bn o (by rw[rng,ak,WJ,Nat.zero_add]at z;exact z);unfold rng at e;rw[aq]at e;by_cases hi:i<n
 .rw[VT hi]at e;cases e;rw[Nat.zero_add]at z ⊢;have:=st i o hi z;show g (.int (0+((i:Nat):Int))) o _;rw[show(0:Int)+((i:Nat):Int)=((i:Nat):Int)by exact Int.zero_add _];exact this
 .rw[aM (by simpa using hi)]at e;cases e
theorem yU(h:α->T)(l:List α)(J:Nat->List OT->Prop)(j:J 0 o)(st:∀k a o,l[k]?=some a->J k o->g (.tup [.int (k:Nat),h a]) o λo'=>b { E with nx:=J (k+1),ct:=J (k+1),bk:=E.nx } o')(bn:∀o,J l.length o->E.nx o):vB g b E (zR (l.map h)) o:=by
 refine Br J (zR (l.map h)) 0 j (λi t o e z=>?_) λo z=>bn o (by rw[zR,ak,List.length_zipIdx,ak,Nat.zero_add]at z;exact z);unfold zR at e;rw[aq]at e;by_cases hi:i<l.length
 .rw[aj (by simpa using hi),List.getElem_zipIdx,UU]at e;cases e;rw[Nat.zero_add]at z ⊢;have:=st i _ o (aj hi) z;exact this
 .rw[aM (by simpa using hi)]at e;cases e
variable{c:RT}{e:RE}{q:List T->Prop}
theorem comp_map(h:α->T)(f:α->T):∀(l:List α){q:List T->Prop},(∀a∈l,∀(N:T->Prop)(M:Prop),N (f a)->g (h a) o λo'=>c o' λb=>sw b (e o' λy=>N (frz y)) M)->q (l.map f)->iB g c e o (l.map h) q
 |[],_,_,k=>k
 |a::l,q,st,k=>⟨λy=>y=f a,False,λy z=>comp_map h f l (λa ha=>st a (aJ _ ha)) (z ▸ k),False.elim,st a (aO ..) (λy=>y=f a) False rfl⟩
theorem qK(h:α->T)(p:α->Bool)(f:α->T):∀(l:List α){q:List T->Prop},(∀a∈l,∀(N:T->Prop)(M:Prop),(p a=true->N (f a))->(p a=false->M)->g (h a) o λo'=>c o' λb=>sw b (e o' λy=>N (frz y)) M)->q ((l.filter p).map f)->iB g c e o (l.map h) q
 |[],_,_,k=>k
 |a::l,q,st,k=>⟨λy=>y=f a/\p a=true,p a=false,λy z=>qK h p f l (λa ha=>st a (aJ _ ha)) (by rw[List.filter_cons_of_pos z.2]at k;exact z.1 ▸ k),λz=>qK h p f l (λa ha=>st a (aJ _ ha)) (by rw[List.filter_cons_of_neg (by rw[z];decide)]at k;exact k),st a (aO ..) (λy=>y=f a/\p a=true) (p a=false) (λz=>⟨rfl,z⟩) id⟩
inductive afY(R:α->T->Prop):List α->List T->Prop
 |nil:afY R [] []
 |cons {a:α}{t:T}{l:List α}{ts:List T} : R a t->afY R l ts->afY R (a::l) (t::ts)
theorem O5(f:Nat->T)(n:Nat)(st:∀k,k<n->∀(N:T->Prop)(M:Prop),N (f k)->g (.int (k:Nat)) o λo'=>c o' λb=>sw b (e o' λy=>N (frz y)) M)(k:q ((List.range n).map f)):iB g c e o (rng 0 n) q:=by
 refine comp_map (λk:Nat=>.int (0+k)) f (List.range n) (λa ha N M hN=>?_) k;have:=st a (List.mem_range.mp ha) N M hN;show g (.int (0+((a:Nat):Int))) o _;rw[show(0:Int)+((a:Nat):Int)=((a:Nat):Int)by exact Int.zero_add _];exact this
theorem zip_map{α β:Type}(h:α->T)(k:β->T)(xs:List α)(ys:List β):Aj (xs.map h) (ys.map k)=(xs.zip ys).map λp=>.tup [h p.1,k p.2]:=by
 unfold Aj;rw[List.zip_map,WP]
 rfl
theorem YX{α:Type}(h:α->T)(xs:List α):zR (xs.map h)=xs.zipIdx.map λp=>.tup [.int (p.2:Nat),h p.1]:=by
 unfold zR;rw[List.zipIdx_map,WP]
 rfl
end
noncomputable def N8(ks:List Key)(j:Key):Bool:=ks.any λk=>decide (k=j)
def kpK(ks:List Key)(j:Key):List Key:=if N8 ks j=true then ks else ks++[j]
def kpT{α:Type}(ks:List Key)(ts:List α)(j:Key)(t:α):List α:=if N8 ks j=true then ks.zipWith (λk x=>if k=j then t else x) ts else ts++[t]
theorem YT{j:Key}{v:V}{ks:List Key}{xs:Ζ}(l:ks.length=xs.length):putK (ks.zip xs) j v=(kpK ks j).zip (kpT ks xs j v)/\(kpK ks j).length=(kpT ks xs j v).length:=by
 have any:∀{ks:List Key}{xs:Ζ},ks.length=xs.length->((ks.zip xs).any λkv=>decide (kv.1=j))=N8 ks j:=λ{ks}=>by
  induction ks with
  |nil=>intro xs _;rfl
  |cons k ks ih =>
   intro xs l;cases xs with
   |nil=>cases l
   |cons x xs=>rw[List.zip_cons_cons,List.any_cons,ih (Nat.succ.inj l)];rfl
 unfold putK kpK kpT;rw[any l];by_cases h:N8 ks j=true
 .rw[ZY h,ZY h,ZY h];refine⟨?_,by rw[JY,l,UV]⟩
  clear any h
  induction ks generalizing xs with
  |nil=>rfl
  |cons k ks ih =>
   cases xs with
   |nil=>cases l
   |cons x xs =>
    rw[List.zip_cons_cons,List.map_cons,ih (Nat.succ.inj l),List.zipWith_cons_cons,List.zip_cons_cons];by_cases h:k=j
    .rw[ZY h,ZY h]
    .rw[ZZ h,ZZ h]
 .rw[ZZ h,ZZ h,ZZ h];exact⟨by rw[List.zip_append l];rfl,by simp[l]⟩
theorem bZ.kp{K:Frag}{F:Hp}{j:Key}{v:V}{t:T}(r:Rep K F v t){ks:List Key}{xs:Ζ}{ts:List T}(h:bZ K F xs ts):bZ K F (kpT ks xs j v) (kpT ks ts j t):=by
 unfold kpT;by_cases z:N8 ks j=true
 .rw[ZY z,ZY z]
  clear z
  induction ks generalizing xs ts with
  |nil=>exact .nil
  |cons k ks ih =>
   cases h with
   |nil=>exact .nil
   |cons a b =>
    rw[List.zipWith_cons_cons,List.zipWith_cons_cons];refine .cons ?_ (ih b);by_cases y:k=j
    .rw[ZY y,ZY y];exact r
    .rw[ZZ y,ZZ y];exact a
 .rw[ZZ z,ZZ z];exact h.app (.cons r .nil)
section
variable{X:Cx}{a b c e:Expr}{ra rb rc re:RE}{pos p:Pos}
def aef(i:Nat)(a b:RE):RS:=λE o=>match slot o i with|.d1 ks ts=>a o λy=>b o λk=>∃j,Yp (frz k)=some j/\ks.length<sizeLine/\E.nx (o.set i (.d1 (kpK ks j) (kpT ks ts j (frz y))))|_=>False
theorem SR.d1{K:Frag}{own:Nat->Ψ}{H:Hp}{σ:L2.St}{o:List OT}(h:SR K own H σ o){i:Nat}{ks:List Key}{ts:List T}(e:slot o i=.d1 ks ts):∃l xs,σ[i]?=some (some (.ref l))/\own i=[l]/\H l=some (.dK (ks.zip xs))/\ks.length=xs.length/\bZ K (hd (Ow own) H) xs ts:=by
 obtain⟨u,e1,l,xs,e2,e3,e4,r⟩:=h.val e (by intro z;cases z);cases e2;exact⟨l,xs,e1,e3,e4,r⟩
theorem Nb(i:Nat){x:Str}{ay:Pos}(hu:X.A.units+1<cLine)(he:QE X e re)(hb:QE X b rb)(hN:X.N[i]?=some x:=by rfl)(hv:sV X.env.scope x=true:=by rfl)(bu:(x==("__debug__":Str))=false:=by decide)(be:(x==("__classdict__":Str))=false:=by decide)
 (hs:swapsWith e (some (.Subscript (.Name x p) b ay)) pos.line X.env=pure false:=by rfl):QS X (.Assign [.Subscript (.Name x p) b ay] e pos) (aef i re rb):=(acL hu (pv i hN hv bu be) hb he hs).imp λD σ H hP=>by
 obtain⟨own,o,E,h,hr,L⟩:=hP;unfold aef at hr;cases es:slot o i with
 |d1 ks ts =>
  rw[es]at hr;obtain⟨l,xs,e1,e3,e4,ln,r⟩:=h.d1 es;refine tQ.mk h hr λH1 v y q E1 r1=>⟨_,e1,tQ.mk (h.same E1) q λH2 w z q E2 r2=>?_⟩;obtain⟨j,ek,sz,q⟩:=q;have bP:=E1.trans E2;cases Pr r2 ek;obtain⟨pk,pl⟩:=YT (j:=j) (v:=v) ln;have lz:(ks.zip xs).length<sizeLine:=by rw[VY,<- ln,UV];exact sz
  refine⟨l,_,rfl,.inl ⟨_,j,bP _ _ e4,rfl,lz,rfl⟩,?_⟩;rw[pk];obtain⟨h',S⟩:=(h.same bP).chg (gZ es (by intro z;cases z)) (y:=.d1 (kpK ks j) (kpT ks ts j (frz y))) (H':=upd H2 l (.dK ((kpK ks j).zip (kpT ks xs j v)))) (λb u hb e=>(cD λz=>hb (by rw[e3,z];simp)).trans e) (by
   rw[e1,Ep ⟨i,by rw[e3];simp⟩];exact⟨l,_,rfl,e3,cM,pl,bZ.kp (r1.same (bV E2)) (r.same (bV bP))⟩)
  exact L.nx own _ σ _ q ((bV bP).trans S) h'
 |_=>rw[es]at hr;exact hr.elim
def aep(i:Nat)(a b:RE):RE:=λo q=>match slot o i with|.d1 ks ts=>a o λy=>b o λz=>∃j,Yp (frz y)=some j/\q (.fz ((qm ks ts j).getD (frz z)))|_=>False
theorem acd(i:Nat){x:Str}{am ag:Pos}(hu:X.A.units+1<cLine)(ha:QE X a ra)(hb:QE X b rb)(m:M2 X (.Name x p) "get" am a b ag:=by first|exact⟨rfl,rfl,rfl,rfl⟩|constructor<;>rfl)(hN:X.N[i]?=some x:=by rfl)(hv:sV X.env.scope x=true:=by rfl)(bu:(x==("__debug__":Str))=false:=by decide)(be:(x==("__classdict__":Str))=false:=by decide) :
  QE X (.Call (.Attribute (.Name x p) "get" am) [a,b] [] ag) (aep i ra rb):=(abq hu (pv i hN hv bu be) ha hb m).imp λσ H Q hP=>by
 obtain⟨own,o,R,h,hr,k⟩:=hP;unfold aep at hr;cases es:slot o i with
 |d1 ks ts =>
  rw[es]at hr;obtain⟨l,xs,e1,e3,e4,ln,r⟩:=h.d1 es;refine⟨_,e1,l,rfl,.inl ⟨_,.inl e4⟩,tQ.mk h hr λH1 v y q E1 r1=>tQ.mk (h.same E1) q λH2 w z q E2 r2=>?_⟩;obtain⟨j,ek,q⟩:=q;have bP:=E1.trans E2;cases Pr r1 ek;refine⟨_,Eo.k (bP _ _ e4),?_⟩;have r:=r.same (bV bP);cases z1:qm ks ts j with
  |none =>
   rw[z1]at q;rw[(DY r).2 z1];exact k H2 _ _ q bP (NR.fz r2)
  |some t =>
   rw[z1]at q;obtain⟨u,e5,r5⟩:=(DY r).1 t z1;rw[e5];exact k H2 _ _ q bP (NR.fz r5)
 |_=>rw[es]at hr;exact hr.elim
noncomputable def kT:Key->T
 |.inl i=>.int i
 |.inr s=>.str s
def aea(i n:Nat)(g:T->List OT->(List OT->Prop)->Prop)(c:RT)(e:RE):RS:=λE o=>match slot o i with
 |.d1 ks ts=>ks.length<=sizeLine/\iB g c e (List.replicate n .und++o.set i (.fz (.dct ks ts))) (ks.map kT) λus=>E.rt (.l1 us)
 |_=>False
theorem ab3{K:Frag}{a:Addr}{ob:Obj}{ks:List Key}{xs:Ζ}{F:Hp}(l:ks.length=xs.length)(e:F a=some (.frz ob (.dK (ks.zip xs)))):Wlk K (Itk a ob (ks.zip xs)) F (ks.map kT):=λS H i _ SF=>by
 have eH:=(cW (SF _ _ e)).2;have lz:(ks.zip xs).length=ks.length:=by rw[VY,<- l,UV]
 refine⟨λhi=>⟨eH,by rw[lz];simpa using hi⟩,λt ht=>?_⟩;rw[aq]at ht;cases z:ks[i]? with
 |none=>rw[z]at ht;cases ht
 |some k =>
  rw[z]at ht;cases ht;have hi:=(ao.mp z).1;refine⟨⟨eH,by rw[lz];exact hi⟩,?_⟩;rintro x H' ⟨rfl,k',y,e1,rfl⟩;rw[aj (by rw[lz];exact hi),List.getElem_zip]at e1;rw[aj hi]at z;cases z;cases e1;refine⟨.refl _,?_⟩;cases ks[i]with
  |inl j=>exact .int _
  |inr s=>exact .str _
theorem adP{tg aS:Expr}{aE:List Expr}{g:T->List OT->(List OT->Prop)->Prop}{rc:RT}{scope:Scope}{x:Str}{ag:Pos}(i:Nat)(sc:Scope)(N N' xs:Φ)(hg:∀{C s₀ H₀ ex pn},QG (X.compG N' scope xs C s₀ H₀ ex pn) xs.length tg g)(ht:∀{C s₀ H₀ ex pn},QTs (X.compG N' scope xs C s₀ H₀ ex pn) aE rc)(he:∀{C s₀ H₀ ex pn},QE (X.compG N' scope xs C s₀ H₀ ex pn) aS re)
 (hN:X.N[i]?=some x:=by rfl)(hv:sV X.env.scope x=true:=by rfl)(bu:(x==("__debug__":Str))=false:=by decide)(be:(x==("__classdict__":Str))=false:=by decide)
 (cx:X.env.scope=sc:=by rfl)(cS:X.N=N:=by rfl)(hc:X.calm=true:=by rfl)(hk:scope.kind=.function:=by rfl)(h:CK sc scope N N' xs:=by decide +kernel)(hs:∀z,foldedSetIterable (.Name x p) X.env z=pure z:=by intro _;rfl) :
  QS X (.Return (some (.ListComp aS [⟨tg,.Name x p,aE,0⟩] scope ag)) pos) (aea i xs.length g rc re):=(Uy (aa9 (gt:=tQG X.K xs.length g) (tc:=tQT X.K rc) (te:=tQ X.K re) sc N N' xs (ad0 (tg:=tg) (pv i hN hv bu be)) hg ht he cx cS hc hk h hs)).imp λD σ H hP=>by
 obtain⟨own,o,E,h,hr,L⟩:=hP;unfold aea at hr;cases es:slot o i with
 |d1 ks ts =>
  rw[es]at hr;obtain⟨l,ys,e1,e3,e4,ln,r⟩:=h.d1 es;refine⟨_,e1,l,_,rfl,e4,λob DD nD=>?_⟩;have eo:∀b,Ow (own1 own i []) b->Ow own b/\b≠l:=λb hP=>by
   obtain⟨j,z⟩:=hP;by_cases y:j=i
   .rw[y,jd]at z;cases z
   .rw[fu y]at z;exact⟨⟨j,z⟩,λw=>y (h.dis j i b z (by rw[e3,w];simp))⟩
  have nl:¬Ow (own1 own i []) l:=λz=>(eo l z).2 rfl;have ol:Ow own l:=⟨i,by rw[e3];simp⟩;have S1:Same (hd (Ow own) H) (hd (Ow (own1 own i [])) (upd H l (.frz ob (.dK (ks.zip ys))))):=λb u e=>by
   obtain⟨n,e⟩:=cW e;rw[cU λz=>n (eo b z).1,cD λ(z:b=l)=>n (z.symm ▸ ol)];exact e
  have h1:SR X.K (own1 own i []) (upd H l (.frz ob (.dK (ks.zip ys)))) σ (o.set i (.fz (.dct ks ts))):=by
   have hi:i<o.length:=(ao.mp (gZ es (by intro z;cases z))).1;refine⟨by rw[VU,h.len],λj y e'=>?_,λj hj a ha=>?_,λj k a z1 z2=>?_⟩
   .by_cases z:j=i
    .subst z;rw[Ts hi]at e';cases e';rw[jd,e1];exact⟨rfl,_,rfl,.dct (.inr ⟨ob,by rw[cU nl];exact cM⟩) ln (r.same S1)⟩
    .rw[UQ (Ne.symm z)]at e';rw[fu z];exact((h.sl j y e').same S1 (.refl _)).off λb hb u e=>(cD λw=>z (h.dis j i b hb (by rw[e3,w];simp))).trans e
   .rw[VU]at hj;rw[fu (by lia)]at ha;obtain⟨xs,e⟩:=h.out j hj a ha;exact⟨xs,(cD λw=>by have:=h.dis j i a ha (by rw[e3,w];simp);lia).trans e⟩
   .by_cases z:j=i
    .rw[z,jd]at z1;cases z1
    by_cases y:k=i
    .rw[y,jd]at z2;cases z2
    .rw[fu z]at z1;rw[fu y]at z2;exact h.dis j k a z1 z2
  have L1:=L.step S1;refine Tf h1 (ab3 ln (by rw[cU nl];exact cM)) (by simpa using hr.1) hr.2 nD λH' v y rx E n=>?_;obtain⟨B,nb,s⟩:=n;exact L1.rt _ H' v y B rx (g8 (λb z=>z.imp id (nb b)) E) s λa ha=>.inr ha
 |_=>rw[es]at hr;exact hr.elim
end
def ae6(K:Frag)(as:Ψ)(H:Hp)(ar:List (List T)):Prop:=ar.length=as.length/\∀(j:Nat)a ts,as[j]?=some a->ar[j]?=some ts->∃xs,H a=some (.lst xs)/\bZ K (hd (· ∈ as) H) xs ts
abbrev SO:=List (List T)->List T->(List (List T)->Prop)->Prop
def spO(K:Frag)(S:SO):Sp:=λvs H Q _=>∃(as:Ψ)(ar:List (List T))(us:Ζ)(ts:List T)(R:List (List T)->Prop),vs=as.map V.ref++us/\as.Nodup/\ae6 K as H ar/\bZ K (hd (· ∈ as) H) us ts/\S ar ts R /\
 ∀H' a8,R a8->Same (hd (· ∈ as) H) (hd (· ∈ as) H')->ae6 K as H' a8->Q .non H'
noncomputable def ownL(as:Ψ)(i:Nat):Ψ:=match as[i]? with|some a=>[a]|none=>[]
theorem GK{as:Ψ}{i:Nat}{b:Addr}(h:b∈ownL as i):as[i]?=some b:=by
 unfold ownL at h;cases e:as[i]? with
 |none=>rw[e]at h;cases h
 |some a=>rw[e]at h;cases YR.mp h;rfl
theorem V_{as:Ψ}{i:Nat}{b:Addr}(h:as[i]?=some b):ownL as i=[b]:=by unfold ownL;rw[h]
theorem Ow.ownL(as:Ψ):Ow (L2.ownL as)=(· ∈ as):=funext λb=>propext ⟨λ⟨i,z⟩=>aC (GK z),λz=>by
 obtain⟨i,e⟩:=aV z;exact⟨i,by rw[V_ e];simp⟩⟩
def startO(n:Nat)(as:Ψ)(ar:List (List T))(ts:List T):List OT:=List.zipWith OT.la as ar++start' (n-as.length) ts
section
variable{P:Program}{w:World}{K:Frag}{mg:Str->Ω}{base:Heap}
theorem SR.startO{H:Hp}{as:Ψ}{ar:List (List T)}{us:Ζ}{ts:List T}(nd:as.Nodup)(h:ae6 K as H ar)(r:bZ K (hd (· ∈ as) H) us ts)(N:Φ)(hN:as.length+us.length<=N.length):SR K (ownL as) H (L2.start N (as.map V.ref++us)) (L2.startO N.length as ar ts):=by
 have zl:(List.zipWith OT.la as ar).length=as.length:=by rw[JY,h.1,UV]
 refine⟨?_,λi x e=>?_,λi hi b hb=>?_,λi j b e1 e2=>Ig nd (GK e1) (GK e2)⟩
 .unfold L2.startO start' L2.start;have:=r.len;simp only[aA,ak,aN,zl];lia
 .rw[Ow.ownL];unfold L2.startO at e;unfold L2.start;by_cases hi:i<as.length
  .rw[aF (by rw[zl];exact hi),List.getElem?_zipWith]at e;have ea:=aj hi;have et:=aj (l:=ar) (by rw[h.1];exact hi);rw[ea,et]at e;cases e;rw[V_ ea,aF (by simp;exact WU _ hi),aq,aF (by simpa using hi),aq,ea];obtain⟨xs,q,rx⟩:=h.2 i _ _ ea et;exact⟨xs,rfl,rfl,q,rx⟩
  .have on:ownL as i=[]:=by unfold ownL;rw[aM (Nat.not_lt.mp hi)]
   rw[on];rw[aD (by rw[zl];exact Nat.not_lt.mp hi),zl]at e;unfold start' at e;by_cases hj:i-as.length<ts.length
   .rw[aF (by simpa using hj),aq,aj hj]at e;cases e;obtain⟨v,e1,r1⟩:=r.at_ (aj hj);have:=r.len;rw[aF (by simp;lia),aq,aD (by simpa using Nat.not_lt.mp hi),ak,e1];exact⟨rfl,v,rfl,r1⟩
   .rw[aD (by simpa using hj),ak,X0]at e;split at e
    .cases e;rfl
    .cases e
 .unfold L2.startO at hi;rw[aA,zl]at hi;have:=(ao.mp (GK hb)).1;lia
theorem slot_of:∀{o:List OT}{i:Nat}{x:OT},o[i]?=some x->slot o i=x
 |[],_,_,e=>by cases e
 |_::_,0,_,e=>by cases e;rfl
 |_::l,i+1,x,e=>slot_of (o:=l) (by simpa using e)
theorem Fun.okO{x ai:Str}{st:Stmt}{f:Addr}{fd:FuncData}{N ps:Φ}{k:Nat}{S:SO}(F:Fun K x ai st f fd)(sc:bK N ps (bH st))(len:∀ar ts R,S ar ts R->ar.length+ts.length=ps.length)(hn:ps.length<=N.length)
 (ce:∀(af:Value)(A:Around)(outer:List Env)(s:Shared)(H:Hp)(E:XK),fB k (A.deeper (envOfC ai (bH st) s.heap.objs.size f af)) ->
   ∃r,QSs (MF CX0 P w K mg base N ai (bH st) f af A outer s H E).nox (fK st) r/\∀as ar ts R,ar.length=as.length->S ar ts R->r { nx:=λo=>∃a8,(∀j,slot o j=slot (List.zipWith OT.la as a8) j\/as.length<=j)/\a8.length=as.length/\R a8,rt:=λ_=>False } (startO N.length as ar ts)):cj P w K mg base CX0 (k+1) f fd ps (spO K S):=by
 refine F.ok sc (λvs H Q E h=>?_) λaf A outer s H vs Q E hr h=>?_
 .obtain⟨as,ar,us,ts,R,rfl,_,l,r,hS,_⟩:=h;rw[aA,ak,<- l.1,r.len];exact len _ _ _ hS
 .obtain⟨as,ar,us,ts,R,rfl,nd,l,r,hS,q⟩:=h;obtain⟨rd,h1,h2⟩:=ce af A outer s H E hr;have s0:=SR.startO nd l r N (by rw[<- l.1,r.len,len _ _ _ hS];exact hn);refine⟨_,h1,_,_,_,s0,h2 as ar ts R l.1 hS,⟨λown H' σ o rx E h=>?_,λ_ _ _ _ _ z=>z.elim,λ_ _ _ _ z=>z.elim,λ_ _ _ _ z=>z.elim⟩⟩;obtain⟨a8,es,tl,rx⟩:=rx;rw[Ow.ownL]at E;have da:∀(j:Nat)a t,as[j]?=some a->a8[j]?=some t->slot o j=.la a t:=λj a t e1 e2=>by
   rcases es j with z|z
   .rw[z];exact slot_of (by rw[List.getElem?_zipWith,e1,e2])
   .exact absurd (ao.mp e1).1 (Nat.not_lt.mpr z)
  have sub:Same (hd (Ow own) H') (hd (· ∈ as) H'):=g8 (λb z=>.inl (by
   obtain⟨j,e⟩:=aV z;have lj:j<a8.length:=tl ▸ (ao.mp e).1;obtain⟨u,_,xs,_,e3,_⟩:=h.val (da j b _ e (aj lj)) (by intro z;cases z);exact⟨j,by rw[e3];simp⟩)) λ_ _ z=>z
  refine q H' a8 rx (E.trans sub) ⟨tl,λj a t e1 e2=>?_⟩;obtain⟨u,_,xs,_,_,e4,r4⟩:=h.val (da j a t e1 e2) (by intro z;cases z);exact⟨xs,e4,r4.same sub⟩
end
section
variable{X:Cx}{es:List Expr}{r:RA}{pos p p1 p2 ag:Pos}
theorem aaP{K:Frag}{own:Nat->Ψ}{H:Hp}{σ:L2.St}{o:List OT}(h:SR K own H σ o){as:Ψ}(hs:∀a∈as,∃j,own j=[a]):Hid H (λb=>Ow own b/\b∉as)/\∀H':Hp,hd (· ∈ as) (hd (λb=>Ow own b/\b∉as) H')=hd (Ow own) H':=by
 have in1:∀{b x:Addr}{j:Nat},b∈own j->b∉as->x∈own j->x∉as:=λ{b x j}hb n hx z=>by
  obtain⟨k,ek⟩:=hs x z;have:=h.dis j k x hx (by rw[ek];simp);subst this;rw[ek]at hb hx;cases YR.mp hb;exact n z
 refine⟨⟨λb z=>h.sole z.1,λb C d f ⟨⟨j,z⟩,n⟩ e=>⟨⟨j,(h.mate z).1 C d f e⟩,in1 z n ((h.mate z).1 C d f e)⟩,λb x ⟨⟨j,z⟩,n⟩ e=>⟨⟨j,(h.mate z).2 x e⟩,in1 z n ((h.mate z).2 x e)⟩⟩,λH'=>funext λb=>?_⟩;by_cases z:b∈as
 .obtain⟨k,ek⟩:=hs b z;rw[pY z,pY ⟨k,by rw[ek];simp⟩]
 .rw[cU z];by_cases y:Ow own b
  .rw[pY (⟨y,z⟩ : Ow own b/\b∉as),pY y]
  .rw[cU (λw=>y w.1),cU y]
def anM(i:Nat)(S:SO)(r:RA):RS:=λE o=>onL (slot o i) λts c=>r o λas=>S [ts] as λar=>match ar with|[t]=>E.nx (o.set i (c t))|_=>False
theorem aeW(i:Nat){x y:Str}{k:Nat}{ps:Φ}{S:SO}(G:OkF X.prog X.w X.K X.mg X.base k x ps (spO X.K S))(hr:fB k X.A)(hg:Gl X x)(ha:QA X es r)(hN:X.N[i]?=some y:=by rfl)(hv:sV X.env.scope y=true:=by rfl)(bu:(y==("__debug__":Str))=false:=by decide)(be:(y==("__classdict__":Str))=false:=by decide)(cc:(x==("__debug__":Str))=false:=by decide)
 (he:starEach (.Name y p1::es) X.env=(false,eval (.Name y p1) X.env)::starEach es X.env:=by rfl)(bg:(backTo ag (starEach es X.env)).any (·.1)=false:=by rfl)(hs:swapsWith (.Call (.Name x p) (.Name y p1::es) [] ag) none pos.line X.env=pure false:=by rfl):QS X (.Expr (.Call (.Name x p) (.Name y p1::es) [] ag) pos) (anM i S r):=by
 obtain⟨f,fd,F,b,hm,kp⟩:=G;refine(yZ (Jt (sp:=spH (spO X.K S)) ⟨f,fd,F.hid,b,hm,kp⟩ hr hg (pF (pv i hN hv bu be) ha he) cc he bg) hs).imp λD σ H hP=>?_;obtain⟨own,o,E,h,hr,L⟩:=hP;obtain⟨ts,c,hr,es⟩:=Eb hr;obtain⟨l,xs,e1,e2,e3,r0,sl⟩:=h.l1 es;refine⟨_,e1,tQA.mk h hr λH1 vs as q _ E1 r1=>?_⟩;have h1:=h.same E1;obtain⟨hid,eqF⟩:=aaP h1 (as:=[l]) λa ha=>⟨i,by rw[YR.mp ha];exact e2⟩;have nl:¬(Ow own l/\l∉[l]):=λz=>z.2 (by simp);refine⟨_,hid,[l],[ts],vs,as,_,rfl,by simp,⟨rfl,λj a t ea et=>?_⟩,by rw[eqF];exact r1,q,λG a8 rx EE ls a9=>?_⟩
 .cases j with
  |zero=>cases ea;cases et;exact⟨xs,(cU nl).trans (E1 _ _ e3),by rw[eqF];exact r0.same (bV E1)⟩
  |succ j=>cases ea
 .match a8,rx,ls with
  |[t],rx,ls =>
   obtain⟨ys,ey,ry⟩:=ls.2 0 l t rfl rfl;rw[eqF]at EE;have c9:∀{b:Addr}{u:HO},G b=some u->mrg (λb=>Ow own b/\b∉[l]) H1 G b=some u:=λ{b u}e=>(kJ λz=>by rw[a9 b z]at e;cases e).trans e;obtain⟨x,ex⟩:=Jg es;obtain⟨h',S'⟩:=h1.chg ex (y:=c t) (H':=mrg (λb=>Ow own b/\b∉[l]) H1 G) (λb u hb e=>by
    by_cases z:Ow own b
    .rw[vU ⟨z,λy=>hb (by rw[e2];exact y)⟩];exact e
    .exact c9 (cW (EE b u ((cU z).trans e))).2) (by
    rw[e1,e2];refine sl _ ys t (c9 ey) (ry.same λb u e=>?_);obtain⟨n1,e⟩:=cW e;rw[cU λz=>by rw[a9 b ⟨z,n1⟩]at e;cases e];exact c9 e)
   exact L.nx own _ σ _ rx ((bV E1).trans S') h'
def anS(i j:Nat)(S:SO)(r:RA):RS:=λE o=>onL (slot o i) λts c=>onL (slot o j) λus d=>r o λas=>S [ts,us] as λar=>match ar with|[t,u]=>E.nx ((o.set i (c t)).set j (d u))|_=>False
theorem Ji(i j:Nat){x y z:Str}{k:Nat}{ps:Φ}{S:SO}(G:OkF X.prog X.w X.K X.mg X.base k x ps (spO X.K S))(hr:fB k X.A)(hg:Gl X x)(ha:QA X es r)(hU:i≠j:=by decide)(hN:X.N[i]?=some y:=by rfl)(hv:sV X.env.scope y=true:=by rfl)(bu:(y==("__debug__":Str))=false:=by decide)(be:(y==("__classdict__":Str))=false:=by decide)(hN2:X.N[j]?=some z:=by rfl)(kG:sV X.env.scope z=true:=by rfl)(k6:(z==("__debug__":Str))=false:=by decide)(k9:(z==("__classdict__":Str))=false:=by decide)(cc:(x==("__debug__":Str))=false:=by decide)
 (he:starEach (.Name y p1::.Name z p2::es) X.env=(false,eval (.Name y p1) X.env)::starEach (.Name z p2::es) X.env:=by rfl)(he2:starEach (.Name z p2::es) X.env=(false,eval (.Name z p2) X.env)::starEach es X.env:=by rfl)(bg:(backTo ag (starEach (.Name z p2::es) X.env)).any (·.1)=false:=by rfl)(hs:swapsWith (.Call (.Name x p) (.Name y p1::.Name z p2::es) [] ag) none pos.line X.env=pure false:=by rfl):QS X (.Expr (.Call (.Name x p) (.Name y p1::.Name z p2::es) [] ag) pos) (anS i j S r):=by
 obtain⟨f,fd,F,b,hm,kp⟩:=G;refine(yZ (Jt (sp:=spH (spO X.K S)) ⟨f,fd,F.hid,b,hm,kp⟩ hr hg (pF (pv i hN hv bu be) (pF (pv j hN2 kG k6 k9) ha he2) he) cc he bg) hs).imp λD σ H hP=>?_;obtain⟨own,o,E,h,hr,L⟩:=hP;obtain⟨ts,c,hr,es⟩:=Eb hr;obtain⟨us,d,hr,es2⟩:=Eb hr;obtain⟨l,xs,e1,e2,e3,r0,sl⟩:=h.l1 es;obtain⟨m,zs,f1,f2,f3,s0,sl2⟩:=h.l1 es2;have lm:l≠m:=λz=>hU (h.dis i j l (by rw[e2];simp) (by rw[f2,z];simp));refine⟨_,e1,_,f1,tQA.mk h hr λH1 vs as q _ E1 r1=>?_⟩;have h1:=h.same E1;obtain⟨hid,eqF⟩:=aaP h1 (as:=[l,m]) λa ha=>by
  rcases YU.mp ha with z|z
  .exact⟨i,by rw[z];exact e2⟩
  .exact⟨j,by rw[YR.mp z];exact f2⟩
 have nl:¬(Ow own l/\l∉[l,m]):=λz=>z.2 (by simp);have nm:¬(Ow own m/\m∉[l,m]):=λz=>z.2 (by simp);refine⟨_,hid,[l,m],[ts,us],vs,as,_,rfl,by simp[lm],⟨rfl,λj a t ea et=>?_⟩,by rw[eqF];exact r1,q,λG a8 rx EE ls a9=>?_⟩
 .match j,ea,et with
  |0,ea,et=>cases ea;cases et;exact⟨xs,(cU nl).trans (E1 _ _ e3),by rw[eqF];exact r0.same (bV E1)⟩
  |1,ea,et=>cases ea;cases et;exact⟨zs,(cU nm).trans (E1 _ _ f3),by rw[eqF];exact s0.same (bV E1)⟩
  |j+2,ea,_=>cases ea
 .match a8,rx,ls with
  |[t,u],rx,ls =>
   obtain⟨ys,ey,ry⟩:=ls.2 0 l t rfl rfl;obtain⟨ws,ew,ko⟩:=ls.2 1 m u rfl rfl;rw[eqF]at EE;have c9:∀{b:Addr}{u:HO},G b=some u->mrg (λb=>Ow own b/\b∉[l,m]) H1 G b=some u:=λ{b u}e=>(kJ λz=>by rw[a9 b z]at e;cases e).trans e;generalize hM:mrg (λb=>Ow own b/\b∉[l,m]) H1 G=M at c9;have keep:∀b u,b≠l->b≠m->H1 b=some u->M b=some u:=λb u n1 n2 e=>by
    by_cases z:Ow own b
    .rw[<- hM,vU ⟨z,by simp[n1,n2]⟩];exact e
    .exact c9 (cW (EE b u ((cU z).trans e))).2
   have back:∀(M':Hp),(∀b,b≠m->M' b=M b)->Same (hd (· ∈ [l,m]) G) (hd (Ow own) M'):=λM' hM' b u e=>by
    obtain⟨n1,e⟩:=cW e;rw[cU (λz=>by rw[a9 b ⟨z,n1⟩]at e;cases e),hM' b λz=>n1 (by simp[z])];exact c9 e
   obtain⟨x,ex⟩:=Jg es;obtain⟨x2,ex2⟩:=Jg es2;obtain⟨h2,S2⟩:=h1.chg ex (y:=c t) (H':=upd M m (.lst zs)) (λb u hb e=>by
    by_cases z:b=m
    .rw[z,cM];rw[z,E1 _ _ f3]at e;exact e
    .rw[cD z];exact keep b u (λy=>hb (by rw[e2,y];simp)) z e) (by
    rw[e1,e2];exact sl _ ys t ((cD lm).trans (c9 ey)) (ry.same (back _ λb n=>cD n)))
   obtain⟨h3,S3⟩:=h2.chg (show(o.set i (c t))[j]?=some x2 by rw[UQ hU];exact ex2) (y:=d u) (H':=M) (λb w hb e=>by rw[cD λz=>hb (by rw[f2,z];simp)]at e;exact e) (by
    rw[f1,f2];exact sl2 _ ws u (c9 ew) (ko.same (back _ λ_ _=>rfl)))
   exact L.nx own _ σ _ rx ((bV E1).trans (S2.trans S3)) h3
end
def JV(g:T->List OT->(List OT->Prop)->Prop)(c:RT)(e:RE)(o:List OT):List T->(List (List T)->Prop)->Prop
 |[],q=>q []
 |t::ts,q=>∃(N:List T->Prop)(M:Prop),(∀y,N y->JV g c e o ts λus=>q (y::us))/\(M->JV g c e o ts q)/\g t o λo'=>c o' λb=>sw b (e o' λy=>match y with|.l1 us=>N us|_=>False) M
def abo(it:RI)(n:Nat)(g:T->List OT->(List OT->Prop)->Prop)(c:RT)(e:RE):RE:=λo q=>it o λxs=>xs.length<=sizeLine/\JV g c e (List.replicate n .und++o) xs λus=>q (.l2 us)
noncomputable def ownL2(n L:Nat)(own:Nat->Ψ)(A:Ψ):Nat->Ψ:=λi=>if i<n then[]else if i<n+L then own (i-n)else if i=n+L then A else own (i-n-1)
theorem Ow.ownL2{n L:Nat}{own:Nat->Ψ}{A:Ψ}{b:Addr} : Ow (ownL2 n L own A) b↔Ow own b\/b∈A:=by
 constructor
 .rintro⟨i,z⟩;unfold L2.ownL2 at z;by_cases h1:i<n
  .rw[ZY h1]at z;cases z
  rw[ZZ h1]at z;by_cases h2:i<n+L
  .rw[ZY h2]at z;exact .inl ⟨_,z⟩
  rw[ZZ h2]at z;by_cases h3:i=n+L
  .rw[ZY h3]at z;exact .inr z
  .rw[ZZ h3]at z;exact .inl ⟨_,z⟩
 .rintro(⟨i,z⟩|z)
  .by_cases h:i<L
   .exact⟨n+i,by unfold L2.ownL2;rw[ZZ (Tk (X2 _ _)),ZY (Nat.add_lt_add_left h _),show n+i-n=i by exact T1 _ _];exact z⟩
   .exact⟨n+i+1,by unfold L2.ownL2;rw[ZZ (by lia),ZZ (by lia),ZZ (by lia),show n+i+1-n-1=i by lia];exact z⟩
  .exact⟨n+L,by unfold L2.ownL2;rw[ZZ (Tk (X2 _ _)),ZZ (X9 _),ZY rfl];exact z⟩
theorem SR.blockL{K:Frag}{own:Nat->Ψ}{H:Hp}{σ:L2.St}{o:List OT}(h:SR K own H σ o){A:Ψ}{H':Hp}(E:Same H H')(nA:∀a∈A,H a=none)(eA:∀a∈A,∃ys,H' a=some (.lst ys))(pre:L2.St):SR K (ownL2 pre.length o.length own A) H' (pre++σ) (List.replicate pre.length .und++o):=by
 have le:Same (hd (Ow own) H) (hd (Ow (ownL2 pre.length o.length own A)) H'):=g8 (λb z=>(Ow.ownL2.mp z).imp id (nA b)) E;have fx:∀j,∀a∈A,a∉own j:=λj a ha z=>(h.sole ⟨j,z⟩).ne (nA a ha);refine⟨by simp[h.len],λi x e=>?_,λi hi a ha=>?_,λi j a e1 e2=>?_⟩
 .by_cases h1:i<pre.length
  .rw[aF (by simpa using h1),X0,ZY h1]at e;cases e;show ownL2 _ _ _ _ i=[];unfold ownL2;rw[ZY h1]
  .rw[aD (by simpa using h1),aN]at e;have h2:i-pre.length<o.length:=(ao.mp e).1;rw[aD (Nat.not_lt.mp h1)];have:ownL2 pre.length o.length own A i=own (i-pre.length):=by unfold ownL2;rw[ZZ h1,ZY (by omega)]
   rw[this];exact(h.sl _ x e).same le E
 .rw[aA,aN]at hi;unfold ownL2 at ha;rw[ZZ (by lia),ZZ (Tk hi)]at ha;by_cases h3:i=pre.length+o.length
  .rw[ZY h3]at ha;exact eA a ha
  .rw[ZZ h3]at ha;obtain⟨xs,e⟩:=h.out _ (by lia) a ha;exact⟨xs,E _ _ e⟩
 .unfold ownL2 at e1 e2;by_cases a1:i<pre.length
  .rw[ZY a1]at e1;cases e1
  by_cases b1:j<pre.length
  .rw[ZY b1]at e2;cases e2
  rw[ZZ a1]at e1;rw[ZZ b1]at e2;by_cases a2:i<pre.length+o.length<;>by_cases b2:j<pre.length+o.length
  .rw[ZY a2]at e1;rw[ZY b2]at e2;have:=h.dis _ _ a e1 e2;omega
  .rw[ZY a2]at e1;rw[ZZ b2]at e2;by_cases b3:j=pre.length+o.length
   .rw[ZY b3]at e2;exact absurd e1 (fx _ a e2)
   .rw[ZZ b3]at e2;have:=h.dis _ _ a e1 e2;omega
  .rw[ZZ a2]at e1;rw[ZY b2]at e2;by_cases a3:i=pre.length+o.length
   .rw[ZY a3]at e1;exact absurd e2 (fx _ a e1)
   .rw[ZZ a3]at e1;have:=h.dis _ _ a e1 e2;lia
  .rw[ZZ a2]at e1;rw[ZZ b2]at e2;by_cases a3:i=pre.length+o.length<;>by_cases b3:j=pre.length+o.length
   .exact Eq.trans a3 (Eq.symm b3)
   .rw[ZY a3]at e1;rw[ZZ b3]at e2;exact absurd e2 (fx _ a e1)
   .rw[ZZ a3]at e1;rw[ZY b3]at e2;exact absurd e1 (fx _ a e2)
   .rw[ZZ a3]at e1;rw[ZZ b3]at e2;have:=h.dis _ _ a e1 e2;lia
theorem Xm{K:Frag}{σ:L2.St}{Q:VK}{n:Nat}{g:T->List OT->(List OT->Prop)->Prop}{rc:RT}{re:RE}{own:Nat->Ψ}{o:List OT}{H1:Hp}{J:It}{xs:List T}{R:OT->Prop}{D:Addr}(h1:SR K own H1 σ o)(wk:Wlk K J (hd (Ow own) H1) xs)(lx:xs.length<=sizeLine)(q:JV g rc re (List.replicate n .und++o) xs λus=>R (.l2 us))(nD:H1 D=none)(k:∀H' v x,R x->Same H1 H'->NR K (Ow own) H1 H' v x->Q v H') :
  ∃W:Nat->Nat->Ζ->Hp->Prop,(∃m,W 0 m [] (upd H1 D (.lst [])))/\∀i m ys Hc,W i m ys Hc ->
   (J.stop i Hc/\Q (.ref D) Hc)\/(J.go i Hc/\∀x H',J.yld i Hc x H'->∀pre:L2.St,pre.length=n->tMG (tQG K n g) x (pre++σ) H' λσ2 H2=>∃b5:L2.St,b5.length=n/\σ2=b5++σ/\tMT (tQT K rc) σ2 H2 λb H3 =>
    match b with
    |true=>tM (tQ K re) σ2 H3 λy H4=>ys.length<sizeLine/\H4 D=some (.lst ys)/\∃m',m'<m/\W (i+1) m' (ys++[y]) (upd H4 D (.lst (ys++[y])))
    |false=>∃m',m'<m/\W (i+1) m' ys H3):=by
 generalize hO:List.replicate n OT.und++o=ob at q;refine⟨λi m ys Hc=>∃(bs:Ψ)(ar:List (List T)),ys=bs.map V.ref/\Hc D=some (.lst ys)/\Same H1 Hc/\(D::bs).Nodup/\(∀b∈bs,H1 b=none)/\bs.length=ar.length/\(∀(i:Nat)b ts,bs[i]?=some b->ar[i]?=some ts->∃xs,Hc b=some (.lst xs)/\bZ K (hd (λb=>Ow own b\/b∈D::bs) Hc) xs ts)/\ys.length<=i/\i<=xs.length/\m=xs.length-i/\JV g rc re ob (xs.drop i) λus=>R (.l2 (ar++us)),⟨_,[],[],rfl,cM,Same.upd nD,by simp,λ_ z=>(nomatch z),rfl,(λi b ts e=>by cases e),aG _,aZ _,rfl,q⟩,?_⟩;rintro i m ys Hc ⟨bs,ar,rfl,eD,Ec,nd,nb,bl,rs,il,ix,rfl,hl⟩;have nA:∀a∈D::bs,H1 a=none:=λa ha=>by
  rcases YU.mp ha with z|z
  .rw[z];exact nD
  .exact nb a z
 have eA:∀a∈D::bs,∃ys,Hc a=some (.lst ys):=λa ha=>by
  rcases YU.mp ha with z|z
  .exact⟨_,z ▸ eD⟩
  .obtain⟨j,e⟩:=aV z;have lj:=(ao.mp e).1;obtain⟨zs,e2,_⟩:=rs j a _ e (aj (aR lj (WG bl)));exact⟨zs,e2⟩
 have hn:∀b,Ow own b\/b∈D::bs->Hc b≠none:=λb z=>z.elim (λz=>((h1.same Ec).sole z).ne) λe z=>by obtain⟨ys,ey⟩:=eA b e;rw[ey]at z;cases z
 have SD:Same (hd (Ow own) H1) (hd (λb=>Ow own b\/b∈D::bs) Hc):=g8 (λb z=>z.imp id (nA b)) Ec;obtain⟨w1,w2⟩:=wk (λb=>Ow own b\/b∈D::bs) Hc i hn SD;by_cases hi:i<xs.length
 .right;obtain⟨go,yl⟩:=w2 _ (aj hi);rw[Q1 hi]at hl;obtain⟨N,M,hN,hM,hl⟩:=hl;refine⟨go,λx H2 y pre hp=>?_⟩;obtain⟨E2,rx⟩:=yl x H2 y;have eO:(λb=>Ow own b\/b∈D::bs)=Ow (ownL2 n o.length own (D::bs)):=funext λb=>propext Ow.ownL2.symm;have hb:SR K (ownL2 n o.length own (D::bs)) H2 (pre++σ) ob:=by
   have:=h1.blockL (Ec.trans E2) nA (λa ha=>let⟨ys,e⟩:=eA a ha;⟨ys,E2 _ _ e⟩) pre;rw[hp,hO]at this;exact this
  rw[eO]at rx rs;refine⟨_,⟨ownL2 n o.length own (D::bs),ob,_,_,hb,rx,hl,λeW σ3 o3 q3 g4 h3=>?_⟩,λ_ _ z=>z⟩;obtain⟨b5,db,rfl⟩:=Tc hp g4;have e3:eW=ownL2 n o.length own (D::bs):=funext λj=>by
   rcases g4.1 j with e|⟨e1,e2⟩
   .exact e
   .rw[e2];unfold ownL2;rw[ZY e1]
  subst e3;refine⟨b5,db,rfl,_,tQT.mk h3 q3 λH3 b q4 E3=>?_,λ_ _ z=>z⟩;have q4:sw b (re o3 λy=>match y with|.l1 us=>N us|_=>False) M:=q4;cases b with
  |false=>exact⟨xs.length-(i+1),by lia,bs,ar,rfl,E3 _ _ (E2 _ _ eD),Ec.trans (E2.trans E3),nd,nb,bl,λj b ts e1 e2=>by
    obtain⟨zs,ez,rz⟩:=rs j b ts e1 e2;rw[eO];exact⟨zs,E3 _ _ (E2 _ _ ez),rz.same (bV (E2.trans E3))⟩,by exact aL il (X2 _ _),by exact hi,rfl,hM q4⟩
  |true =>
   refine⟨_,⟨_,_,_,h3.same E3,q4,λH4 v y q5 E4 r4=>?_⟩,λ_ _ z=>z⟩
   match y,q5,r4 with
   |.l1 us,q5,r4 =>
    obtain⟨B,nB,p,zs,ev,rfl,ep,rp⟩:=r4;cases ev;have np:H3 p=none:=nB p (by simp);have pn:∀{a:Addr}{u:HO},H3 a=some u->a≠p:=λe z=>by rw[z,np]at e;cases e
    have E:Same Hc H3:=E2.trans E3;have pD:D≠p:=pn (E _ _ eD);have pb:p∉bs:=λz=>by
     obtain⟨ys,ey⟩:=eA p (aJ _ z);exact pn (E _ _ ey) rfl
    have inD:∀(H:Hp)(u:HO),hd (λb=>Ow own b\/b∈D::(bs++[p])) (upd H D u)=hd (λb=>Ow own b\/b∈D::(bs++[p])) H:=λH u=>Ep (S:=λb=>Ow own b\/b∈D::(bs++[p])) (.inr (by simp));refine⟨by lia,E4 _ _ (E _ _ eD),xs.length-(i+1),by lia,bs++[p],ar++[us],by rw[bf];rfl,cM,λb u e=>?_,?_,λb hb=>?_,by simp[bl],λj b ts e1 e2=>?_,by rw[aA,List.length_singleton];exact Nat.succ_le_succ il,by exact hi,rfl,?_⟩
    .rw[cD λz=>by rw[z,nD]at e;cases e];exact E4 _ _ (E _ _ (Ec _ _ e))
    .rw[<- List.cons_append];exact List.nodup_append.mpr ⟨nd,by simp,λa ha c hc z=>by
      rw[YR.mp hc]at z;rcases YU.mp ha with y|y
      .exact pD (y.symm.trans z)
      .exact pb (z ▸ y)⟩
    .rcases Y1.mp hb with z|z
     .exact nb b z
     .rw[YR.mp z];exact(Ec.trans E).free np
    .rw[inD];by_cases hj:j<bs.length
     .rw[aF hj]at e1;rw[aF (aR hj (WG bl))]at e2;obtain⟨zs,ez,rz⟩:=rs j b ts e1 e2;have bD:b≠D:=λz=>(List.nodup_cons.mp nd).1 (z ▸ aC e1);refine⟨zs,by rw[cD bD];exact E4 _ _ (E _ _ ez),rz.same ?_⟩;rw[<- eO];exact g8 (λc z=>by
       rcases z with z|z
       .exact .inl (.inl z)
       .rw[<- List.cons_append]at z;rcases Y1.mp z with y|y
        .exact .inl (.inr y)
        .rw[YR.mp y];exact .inr (E.free np)) (E.trans E4)
     .rw[aD (VW hj)]at e1;rw[aD (by lia)]at e2;have j0:j-bs.length=0:=by
       have:=(ao.mp e1).1;simp at this;omega
      rw[j0]at e1;rw[show j-ar.length=0 by lia]at e2;cases e1;cases e2;refine⟨_,by rw[cD (Ne.symm pD)];exact ep,rp.same (g8 (λc z=>.inl ?_) λ_ _ z=>z)⟩;rcases z with z|z
      .exact .inl (Ow.ownL2.mpr (.inl z))
      .rw[<- List.cons_append]at z;rcases Y1.mp z with y|y
       .exact .inl (Ow.ownL2.mpr (.inr y))
       .exact .inr y
    .have:=hN _ q5;simp only[WZ,List.singleton_append];exact this
 .left;have:i=xs.length:=by lia
  refine⟨w1 this,?_⟩;rw[T2 (VW hi)]at hl;have hl:R (.l2 (ar++[])):=hl;rw[List.append_nil]at hl;exact k Hc _ _ hl Ec ⟨D::bs,nA,D,bs,rfl,rfl,nd,eD,bl,rs⟩
theorem Wi{K:Frag}{σ:L2.St}{H:Hp}{Q:VK}{ri:RI}{n:Nat}{g:T->List OT->(List OT->Prop)->Prop}{rc:RT}{re:RE}(h:tQ K (abo ri n g rc re) σ H Q):rR (tQI K ri) n (tMG (tQG K n g)) (tMT (tQT K rc)) (tM (tQ K re)) σ H Q:=by
 obtain⟨own,o,R,h,hr,k⟩:=h;exact⟨own,o,_,h,hr,λH1 J xs q E1 wk D nD=>Xm (h.same E1) wk q.1 q.2 nD λH' v x rx E n=>k H' v x rx (E1.trans E) (n.back E1)⟩
section
variable{X:Cx}{tg iter aS:Expr}{aE:List Expr}{ri:RI}{g:T->List OT->(List OT->Prop)->Prop}{rc:RT}{re:RE}{scope:Scope}{pos:Pos}
theorem aaI(sc:Scope)(N N':Φ)(x0:Str)(hi:QI X tg iter ri)(hg:∀{C s₀ H₀ ex pn},QG (X.compGC N' scope x0 C s₀ H₀ ex pn) 1 tg g)(ht:∀{C s₀ H₀ ex pn},QTs (X.compGC N' scope x0 C s₀ H₀ ex pn) aE rc)(he:∀{C s₀ H₀ ex pn},QE (X.compGC N' scope x0 C s₀ H₀ ex pn) aS re)
 (cx:X.env.scope=sc:=by rfl)(cS:X.N=N:=by rfl)(hc:X.calm=true:=by rfl)(hk:scope.kind=.function:=by rfl)(fI:∀n acc,cellsFrom n scope.names acc=(x0,n)::acc:=by intro _ _;rfl)(fA:∀h,pushCells h scope.names=h.push { cls:=.type "cell",data:=.cell none }:=by intro _;rfl)(h:(∀y∈scope.names,y.2=.cell->y.1=x0)/\CK0 sc scope N N' [x0]:=by decide +kernel)(hs:∀z,foldedSetIterable iter X.env z=pure z:=by intro _;rfl):QE X (.ListComp aS [⟨tg,iter,aE,0⟩] scope pos) (abo ri 1 g rc re) :=
 (abj (gt:=tQG X.K 1 g) (tc:=tQT X.K rc) (te:=tQ X.K re) sc N N' x0 hi hg ht he cx cS hc hk fI fA h hs).imp λ_ _ _=>Wi
theorem ac2{i0:Nat}{y0:Str}{py b7:Pos}(sc:Scope)(N N' xs:Φ)(hi:QI X tg iter ri)(hg:∀{C s₀ H₀ ex pn},QG (X.compG N' scope xs C s₀ H₀ ex pn) xs.length tg g)(ht:∀{C s₀ H₀ ex pn},QTs (X.compG N' scope xs C s₀ H₀ ex pn) aE rc)(he:∀{C s₀ H₀ ex pn},QE (X.compG N' scope xs C s₀ H₀ ex pn) aS re)(fF:PG X (.Name y0 py) (zU i0))
 (cx:X.env.scope=sc:=by rfl)(cS:X.N=N:=by rfl)(hc:X.calm=true:=by rfl)(hk:scope.kind=.function:=by rfl)(h:CK sc scope N N' xs:=by decide +kernel)(fy:swapsWith (.ListComp aS [⟨tg,iter,aE,0⟩] scope pos) (some (.Name y0 py)) b7.line X.env=pure true:=by rfl)(hs:∀z,foldedSetIterable iter X.env z=pure z:=by intro _;rfl) :
  QS X (.Assign [.Name y0 py] (.ListComp aS [⟨tg,iter,aE,0⟩] scope pos) b7) (af6 i0 (abo ri xs.length g rc re)):=(Z0 (gt:=tQG X.K xs.length g) (tc:=tQT X.K rc) (te:=tQ X.K re) sc N N' xs hi hg ht he fF cx cS hc hk h fy hs).imp λD σ H ⟨own,o,E,h,hr,L⟩=>Wi ⟨own,o,_,h,hr,λH' v y q S n=>by
 obtain⟨ah,h',S'⟩:=h.putA S n i0;exact L.nx ah H' _ _ q S' h'⟩
theorem Lf{α:Type}(h:α->T)(f:α->List T){c:RT}{e:RE}{o:List OT} : ∀(l:List α){q:List (List T)->Prop},(∀a∈l,∀(N:List T->Prop)(M:Prop),N (f a)->g (h a) o λo'=>c o' λb=>sw b (e o' λy=>match y with|.l1 us=>N us|_=>False) M)->q (l.map f)->JV g c e o (l.map h) q
 |[],_,_,k=>k
 |a::l,q,st,k=>⟨λy=>y=f a,False,λy z=>Lf h f l (λa ha=>st a (aJ _ ha)) (z ▸ k),False.elim,st a (aO ..) (λy=>y=f a) False rfl⟩
theorem Rn{c:RT}{e:RE}{o:List OT}{q:List (List T)->Prop}(f:Nat->List T)(n:Nat)(st:∀k,k<n->∀(N:List T->Prop)(M:Prop),N (f k)->g (.int (k:Nat)) o λo'=>c o' λb=>sw b (e o' λy=>match y with|.l1 us=>N us|_=>False) M)(k:q ((List.range n).map f)):JV g c e o (rng 0 n) q:=by
 refine Lf (λk:Nat=>.int (0+k)) f (List.range n) (λa ha N M hN=>?_) k;have:=st a (List.mem_range.mp ha) N M hN;show g (.int (0+((a:Nat):Int))) o _;rw[show(0:Int)+((a:Nat):Int)=((a:Nat):Int)by exact Int.zero_add _];exact this
end
section
variable{X:Cx}
noncomputable abbrev Iw(f:Β):PyData:=.tuple [.int f.1,.int f.2]
noncomputable abbrev frP(f:Β):T:=.tup [.int f.1,.int f.2]
def acV(K:Frag):V->Ζ->Hp->VK->Prop:=λx vs H Q=>∃(l:Addr)(b:V)(xs:Ζ)(fs:Γ)(f:Β)(j:Nat),x=.ref l/\vs=[b]/\H l=some (.lst xs)/\xs.length=fs.length/\(∀(i:Nat)x g,xs[i]?=some x->fs[i]?=some g->gF K H x (Iw g))/\gF K H b (Iw f)/\xs.length<=sizeLine/\fs[j]?=some f/\(∀i g,i<j->fs[i]?=some g->g≠f)/\Q (.int (j:Nat)) H
open Classical in
def aeN(h:Heap)(f:Β)(v:Value):Bool:=decide (∃as,Reads h v (Iw f) as)
open Classical in
theorem Oz{h:Heap}{v:Value}{g f:Β}{as:Ψ}(r:Reads h v (Iw g) as):aeN h f v=(decide (g.1=f.1)&&decide (g.2=f.2)):=by
 unfold aeN;by_cases e:g=f
 .subst e;rw[Zs ⟨as,r⟩,Zs rfl,Zs rfl];rfl
 .have nd:¬∃as,Reads h v (Iw f) as:=λ⟨bs,z⟩=>e (by
   have:=SeqAt.Reads.unique _ _ _ _ _ rfl r z;injection this with this;injection this with t1 t2;injection t2 with t2;injection t1 with t1;injection t2 with t2;exact Prod.ext t1 t2)
  rw[Zp nd];by_cases h1:g.1=f.1
  .by_cases h2:g.2=f.2
   .exact absurd (Prod.ext h1 h2) e
   .rw[Zp h2,Bool.and_false]
  .rw[Zp h1,Bool.false_and]
theorem XJ(hu:X.A.units+64<cLine):MtM X "list.index" (acV X.K):=by
 intro aa s σ H x vs v us Q I rx rv h;obtain⟨l,b,xs,fs,f,j,rfl,rfl,hl,lf,fl,hb,hz,ej,nj,q⟩:=h;cases rx;obtain⟨u,rfl,ru⟩:=rv.one;obtain⟨bs,rb⟩:=I.readsK hb ru;obtain⟨z,its,n,r,iO,e⟩:=I.lstM hl;have lr:=r.length;have ke:∀(i:Nat)(hi:i<its.toArray.size),∃g as,fs[i]?=some g/\Reads s.heap its.toArray[i] (Iw g) as:=λi hi=>by
  rw[aX]at hi;have ex:xs[i]?=some (xs[i]'(by lia)):=aj _;have eg:fs[i]?=some (fs[i]'(by lia)):=aj _;obtain⟨u,eu,ru⟩:=r.get ex;obtain⟨as,ra⟩:=I.readsK (fl i _ _ ex eg) ru;refine⟨_,as,eg,?_⟩;rw[List.getElem_toArray,(ao.mp eu).2];exact ra
 have lj:=(ao.mp ej).1;have hj:j<its.toArray.size:=by rw[aX];lia
 rw[sizeLine_eq]at hz;refine call_meets F.slot_list_index ⟨_,e,rfl⟩ F.entry_list_index (F.args_list_index_2 _ _) (SeqAt.list_indexAt l its.toArray n _ _ _ (aeN s.heap f) j hj (by lia) ?_ λm hm lm=>?_) ⟨e,λy hy=>?_,⟨.int _,H,I.tok _,⟨_,rfl⟩,q⟩⟩
 .obtain⟨g,as,e2,e3⟩:=ke j hj;rw[ej]at e2;cases e2;rw[Oz e3,Zs rfl,Zs rfl];rfl
 .obtain⟨g,as,e2,e3⟩:=ke m hm;have ne:=nj m g lm e2;rw[Oz e3];by_cases h1:g.1=f.1
  .by_cases h2:g.2=f.2
   .exact absurd (Prod.ext h1 h2) ne
   .rw[Zp h2,Bool.and_false]
  .rw[Zp h1,Bool.false_and]
 .obtain⟨i,hi,ei⟩:=Array.getElem_of_mem hy;obtain⟨g,as,e2,e3⟩:=ke i hi;rw[<- ei,Oz e3,<- Y7];exact SeqAt.eqAt_reads _ _ _ _ _ _ _ _ e3 rb rfl rfl (by
   have d:(Iw g).depth<=3:=UH rfl;have m:=Nat.min_le_left (Iw g).depth (Iw f).depth;show X.A.units+1+min (Iw g).depth (Iw f).depth<cLine;lia)
def amy(a:RE)(r:RA):RE:=λo q=>a o λx=>match frz x with
 |.lst ts=>r o λus=>∃(fs:Γ)(f:Β)(j:Nat),ts=fs.map frP/\us=[frP f]/\fs.length<=sizeLine/\fs[j]?=some f/\(∀i g,i<j->fs[i]?=some g->g≠f)/\q (.fz (.int (j:Nat)))
 |_=>False
theorem agf{o e:Expr}{ra:RE}{r:RA}{am ag:Pos}(hu:X.A.units+64<cLine)(ho:QE X o ra)(ha:QA X [e] r)(hb:attributeBase o "index" X.env (eval o X.env)=eval o X.env:=by rfl)
 (hf:((backTo ag (starEach [e] X.env)).all (λx=>!x.1)&&(backToKw ag (keywordEach [] X.env)).all (λx=>x.1.isSome)&&decide ([e].length+([] : List Keyword).length+(if([] : List Keyword).isEmpty then 0 else 1)<30))=true:=by rfl)
 (hl:(am.endLine==ag.line)=true:=by rfl)(hs:starEach [e] X.env=(false,eval e X.env)::starEach [] X.env:=by rfl)(hp:(backTo ag (starEach [] X.env)).any (·.1)=false:=by rfl) :
  QE X (.Call (.Attribute o "index" am) [e] [] ag) (amy ra r):=by
 refine(abn PySem.F.plainAttrs_list PySem.F.slot_list_index PySem.F.type_list_index (XJ hu) ho.mono ha.mono hb hf hl hs hp).imp λσ H Q hP=>?_;obtain⟨own,o,R,h,hr,k⟩:=hP;refine⟨_,tQ.mk h hr λH1 v x q E1 r1=>?_,λ_ _ z=>z⟩;cases ex:frz x with
 |lst ts =>
  rw[ex]at q r1;obtain⟨p,xs,rfl,e,rx⟩:=r1.lstI;refine⟨.inl ⟨rfl,_,SqL.of (dI _ _ e)⟩,_,tQA.mk (h.same E1) q λH2 vs us q2 _ E2 r2=>?_,λ_ _ z=>z⟩;obtain⟨fs,f,j,rfl,rfl,lf,ej,nj,q3⟩:=q2;obtain⟨y,rfl,ry⟩:=r2.one;have S2:Same (hd (Ow own) H1) H2:=(bV E2).trans dI;refine⟨p,y,xs,fs,f,j,rfl,rfl,E2 _ _ (dI _ _ e),by rw[rx.len,ak],λi x g ex eg=>?_,(ry.shows _ rfl rfl).same dI,by rw[rx.len,ak];exact lf,ej,nj,k H2 _ _ q3 (E1.trans E2) (NR.fz (.int _))⟩;obtain⟨v,ev,rv⟩:=rx.at_ (show(fs.map frP)[i]?=some (frP g)by rw[aq,eg];rfl);rw[ex]at ev;cases ev;exact(rv.shows _ rfl rfl).same S2
 |_=>rw[ex]at q;exact q.elim
end
section
variable{X:Cx}
theorem bZ.strs{K:Frag}{F:Hp} : ∀{xs:Ζ}{ys:Φ},bZ K F xs (ys.map T.str)->xs=ys.map V.str
 |_,[],h=>by cases h;rfl
 |_,y::ys,h=>by
  cases h with
  |cons a b =>
   cases a;rw[bZ.strs b];rfl
def rJn(a:RE)(r:RA):RE:=λo q=>a o λx=>match frz x with
 |.str s=>r o λus=>∃ys:Φ,us=[.lst (ys.map T.str)]/\(ys.map (·.length)).sum+ys.length*s.length<=16777216/\q (.fz (.str (Txt.join s ys)))
 |_=>False
theorem abP{o e:Expr}{ra:RE}{r:RA}{am ag:Pos}(ho:QE X o ra)(ha:QA X [e] r)(hb:attributeBase o "join" X.env (eval o X.env)=eval o X.env:=by rfl)
 (hf:((backTo ag (starEach [e] X.env)).all (λx=>!x.1)&&(backToKw ag (keywordEach [] X.env)).all (λx=>x.1.isSome)&&decide ([e].length+([] : List Keyword).length+(if([] : List Keyword).isEmpty then 0 else 1)<30))=true:=by rfl)
 (hl:(am.endLine==ag.line)=true:=by rfl)(hs:starEach [e] X.env=(false,eval e X.env)::starEach [] X.env:=by rfl)(hp:(backTo ag (starEach [] X.env)).any (·.1)=false:=by rfl) :
  QE X (.Call (.Attribute o "join" am) [e] [] ag) (rJn ra r):=by
 refine(ajZ PySem.F.slot_str_join PySem.F.type_str_join adH ho ha hb hf hl hs hp).imp λσ H Q hP=>?_;obtain⟨own,o,R,h,hr,k⟩:=hP;refine tQ.mk h hr λH1 v x q E1 r1=>?_;cases ex:frz x with
 |str s =>
  rw[ex]at q r1;cases r1;refine⟨⟨s,rfl⟩,tQA.mk (h.same E1) q λH2 vs us q2 _ E2 r2=>?_⟩;obtain⟨ys,rfl,lz,q3⟩:=q2;obtain⟨y,rfl,ry⟩:=r2.one;obtain⟨p,xs,rfl,e,rx⟩:=ry.lstI;exact⟨s,p,ys,rfl,rfl,rx.strs ▸ (cW e).2,lz,k H2 _ _ q3 (E1.trans E2) (NR.fz (.str _))⟩
 |_=>rw[ex]at q;exact q.elim
noncomputable def notStar:Expr->Bool
 |.Starred ..=>false
 |_=>true
theorem agq{e:Expr}{es:List Expr}{env:Env}(h:notStar e=true):starEach (e::es) env=(false,eval e env)::starEach es env:=by
 cases e<;>first|rfl|cases h
structure QEB(X:Cx)(e:Expr)(r:RE):Prop where
 out:QE X e r
structure QAB(X:Cx)(es:List Expr)(r:RA):Prop where
 out:QA X es r
theorem Et{e:Expr}{r:RE}(h:QE X e r):QEB X e r:=⟨h⟩
theorem dG{i j pos} : QEB X (.Constant (.int i) j pos) (rC (.int i)):=⟨bA⟩
theorem Lq(i:Nat){x:Str}{pos:Pos}(hN:X.N[i]?=some x:=by rfl)(hv:sV X.env.scope x=true:=by rfl)(hd:(x==("__debug__":Str))=false:=by decide)(be:(x==("__classdict__":Str))=false:=by decide):QEB X (.Name x pos) (afx i):=⟨qv i hN hv hd be⟩
theorem Nq{op:Operator}{g:T->T->(OT->Prop)->Prop}{a b:Expr}{ra rb:RE}{pos:Pos}(ho:GO X (binaryOp op) g)(ha:QEB X a ra)(hb:QEB X b rb):QEB X (.BinOp a op b pos) (rOp g ra rb):=⟨bL ho ha.out hb.out⟩
theorem cQ:QAB X [] ae2:=⟨bC⟩
theorem bN{e:Expr}{es:List Expr}{a:RE}{r:RA}(ha:QEB X e a)(hr:QAB X es r)(hn:notStar e=true:=by rfl):QAB X (e::es) (aeo a r):=⟨bx ha.out hr.out (agq hn)⟩
theorem dY{es:List Expr}{r:RA}{pos:Pos}{k:Nat}(h:QAB X es r)(hz:es.length<=sizeLine:=by decide):QEB X (.Tuple es k pos) (aln r):=⟨dg h.out hz⟩
theorem oY{es:List Expr}{r:RA}{pos:Pos}(h:QAB X es r)(hz:es.length<=sizeLine:=by decide):QEB X (.List es pos) (akx r):=⟨eE h.out hz⟩
def ag6:T->T->(OT->Prop)->Prop
 |.int i,.int j,q=>adG i j/\q (.fz (.int (i*j)))
 |_,_,_=>False
theorem WX:GO X (binaryOp .Mult) ag6:=aeT.imp λx y H Q hP=>by
 obtain⟨S,t,u,R,_,hx,hy,hg,k⟩:=hP;cases hx<;>try exact hg.elim
 cases hy<;>try exact hg.elim
 exact⟨_,_,rfl,rfl,hg.1,k H _ _ hg.2 (.refl _) (NR.fz (.int _))⟩
def ano(n:Nat)(gs:List T->List OT->(List OT->Prop)->Prop):T->List OT->(List OT->Prop)->Prop
 |.lst ts,o,q=>ts.length=n/\gs ts o q
 |_,_,_=>False
theorem aeC{pos:Pos}{m:Nat}{es:List Expr}{k:Nat}{gs:List T->List OT->(List OT->Prop)->Prop}{n:Nat}(hc:X.calm=true)(h:QGs X m es gs)(hn:(assignEach es X.env).length=n:=by rfl)(b8:(assignEach es X.env).findIdx? (·.1)=none:=by rfl):QG X m (.Tuple es k pos) (ano n gs):=(ab1 hc h hn b8).imp λv σ H Q hP=>by
 obtain⟨own,o,t,R,h,r,hg,k⟩:=hP;cases t<;>try exact hg.elim
 obtain⟨a,xs,rfl,e,r⟩:=r.lstI;exact⟨a,xs,rfl,SqL.of (dI _ _ e),r.len.trans hg.1,own,o,_,R,h,r,hg.2,k⟩
end
section
variable{a b c d e f x y:RS}{E:DT}{o:List OT}
theorem sq1(J:List OT->Prop)(k:∀o',J o'->y E o')(h:∀Y:List OT->Prop,(∀o',J o'->Y o')->jc x (λ_=>Y) E o):jc x y E o:=h (y E) k
theorem sq2(J:List OT->Prop)(k:∀o',J o'->y E o')(h:∀Y:List OT->Prop,(∀o',J o'->Y o')->jc a (jc x (λ_=>Y)) E o):jc a (jc x y) E o:=h (y E) k
theorem sq4(J:List OT->Prop)(k:∀o',J o'->y E o')(h:∀Y:List OT->Prop,(∀o',J o'->Y o')->jc a (jc b (jc c (jc x (λ_=>Y)))) E o):jc a (jc b (jc c (jc x y))) E o:=h (y E) k
theorem sq7(J:List OT->Prop)(k:∀o',J o'->y E o')(h:∀Y:List OT->Prop,(∀o',J o'->Y o')->jc a (jc b (jc c (jc d (jc e (jc f (jc x (λ_=>Y))))))) E o):jc a (jc b (jc c (jc d (jc e (jc f (jc x y)))))) E o:=h (y E) k
end
end L2
namespace Ac
noncomputable def lw(t b:Int):Int×Int:=(t/(Int.gcd t b:Nat),b/(Int.gcd t b:Nat))
theorem akA{t b:Int}(hb:0<b):(0:Int)<(Int.gcd t b:Nat):=by
 have:=Zzt t (show b≠0 by exact WS hb);lia
section
variable{κ:Type}[DecidableEq κ]
noncomputable def look(acc:List (κ×Int))(r:κ):Int:=((acc.find? λg=>decide (g.1=r)).map (·.2)).getD 0
noncomputable def put(acc:List (κ×Int))(r:κ)(y:Int):List (κ×Int):=if(acc.any λg=>decide (g.1=r))=true then acc.map (λg=>if g.1=r then(g.1,y)else g)else acc++[(r,y)]
def alK(gs:List (κ×Int)):List (κ×Int):=gs.foldl (λa g=>put a g.1 (look a g.1+g.2)) []
def ways(gs:List (κ×Int))(S:Int):List (κ×Int×Int):=((alK gs).filter λg=>decide (0<g.2)).map λg=>(g.1,lw g.2 S)
end
end Ac
namespace Rw
open Ac
def rep(r:List Int×Int):Γ:=r.1.map λt=>lw t r.2
noncomputable def gcL(ts:List Int)(b:Int):Int:=ts.foldl (λc t=>((Int.gcd t c:Nat):Int)) b
theorem gw:∀{ts:List Int}{b:Int},0<b->0<gcL ts b
 |[],_,h=>h
 |t::ts,b,h=>gw (ts:=ts) (akA (t:=t) h)
theorem gB:∀{ts:List Int}{b:Int},gcL ts b ∣ b/\∀t∈ts,gcL ts b ∣ t
 |[],b=>⟨Int.dvd_refl b,by simp⟩
 |t::ts,b=>by
  obtain⟨h1,h2⟩:=gB (ts:=ts) (b:=((Int.gcd t b:Nat):Int));refine⟨Int.dvd_trans h1 (Qr t b),λx hx=>?_⟩;rcases YU.mp hx with rfl|hx
  .exact Int.dvd_trans h1 (Int.gcd_dvd_left x b)
  .exact h2 x hx
theorem rK{ts:List Int}{b:Int}(h:0<b):gcL ts b<=b:=Int.le_of_dvd h gB.1
def iC(r:List Int×Int):List Int×Int:=(r.1.map λt=>t/gcL r.1 r.2,r.2/gcL r.1 r.2)
theorem jE(r:List Int×Int):(iC r).1.length=r.1.length:=by unfold iC;rw[ak]
noncomputable def gU(r:List Int×Int)(c:Β):List Int×Int:=(r.1.map λt=>t*c.1,r.2*c.2)
noncomputable def nG(r o:List Int×Int)(c:Β):List Int×Int :=
 (List.zipWith (λa b=>a*(o.2*c.2/((Int.gcd r.2 (o.2*c.2):Nat):Int))+b*(r.2/((Int.gcd r.2 (o.2*c.2):Nat):Int)*c.1)) r.1 o.1,r.2*(o.2*c.2/((Int.gcd r.2 (o.2*c.2):Nat):Int)))
structure Big(N:Nat)(r:List Int×Int):Prop where
 pos:0<r.2
 bot:r.2.natAbs<=N
 top:∀t∈r.1,t.natAbs<=N
theorem Big.le{N M:Nat}{r:List Int×Int}(h:Big N r)(hn:N<=M):Big M r:=⟨h.pos,aL h.bot hn,λt ht=>aL (h.top t ht) hn⟩
theorem Rt{d t g x:Int}(h1:d ∣ t*x)(h2:d ∣ g*x):d ∣ ((Int.gcd t g:Nat):Int)*x:=by
 have h:=Int.dvd_coe_gcd h1 h2;rw[Int.gcd_mul_right]at h;rw[TW]at h;rcases Int.natAbs_eq x with e|e
 .rw[e];exact h
 .rw[e,Int.mul_neg];exact Int.dvd_neg.mpr h
theorem yN{d x:Int} : ∀{ts:List Int}{b:Int},d ∣ b*x->(∀t∈ts,d ∣ t*x)->d ∣ gcL ts b*x
 |[],_,h,_=>h
 |t::ts,b,h,k=>yN (ts:=ts) (Rt (k t aO) h) λu hu=>k u (aJ _ hu)
def Alk(r s:List Int×Int):Prop:=r.1.length=s.1.length/\∀(k:Nat)(a b:Int),r.1[k]?=some a->s.1[k]?=some b->a*s.2=b*r.2
theorem kE{r:List Int×Int}(h:0<r.2):gcL (iC r).1 (iC r).2=1:=by
 have g0:=gw (ts:=r.1) h;obtain⟨d1,d2⟩:=gB (ts:=r.1) (b:=r.2);have p:0<(iC r).2:=Zzs h (XY g0) d1;have q0:=gw (ts:=(iC r).1) p;obtain⟨e1,e2⟩:=gB (ts:=(iC r).1) (b:=(iC r).2);have da:gcL (iC r).1 (iC r).2*gcL r.1 r.2 ∣ gcL r.1 r.2*1:=by
  refine yN ?_ λt ht=>?_
  .obtain⟨u,hu⟩:=e1;have hu:r.2/gcL r.1 r.2=gcL (iC r).1 (iC r).2*u:=hu;refine⟨u,?_⟩;rw[Int.mul_one,Int.mul_right_comm,<- hu,Int.ediv_mul_cancel d1]
  .obtain⟨u,hu⟩:=e2 (t/gcL r.1 r.2) (YV.mpr ⟨t,ht,rfl⟩);refine⟨u,?_⟩;rw[Int.mul_one,Int.mul_right_comm,<- hu,Int.ediv_mul_cancel (d2 t ht)]
 rw[Int.mul_one]at da;have:=Int.le_of_dvd g0 da;have:gcL (iC r).1 (iC r).2<=1:=by
  refine Int.le_of_mul_le_mul_right (a:=gcL r.1 r.2) ?_ g0;lia
 lia
theorem least{N:Nat}{r s:List Int×Int}(hr:0<r.2)(g:gcL r.1 r.2=1)(a:Alk r s)(h:Big N s):Big N r:=by
 have d:r.2 ∣ gcL r.1 r.2*s.2:=yN ⟨s.2,rfl⟩ λt ht=>by
  obtain⟨k,hk,rfl⟩:=List.mem_iff_getElem.mp ht;have hs:k<s.1.length:=by rw[<- a.1];exact hk
  rw[a.2 k _ _ (aj hk) (aj hs)];exact⟨_,Int.mul_comm _ _⟩
 rw[g,JU]at d;obtain⟨m,hm⟩:=d;have m0:0<m:=Int.pos_of_mul_pos_right (by rw[<- hm];exact h.pos) hr;refine⟨hr,?_,λt ht=>?_⟩
 .have:=Int.le_of_dvd h.pos ⟨m,hm⟩;have:=h.bot;lia
 .obtain⟨k,hk,rfl⟩:=List.mem_iff_getElem.mp ht;have hs:k<s.1.length:=by rw[<- a.1];exact hk
  have e:=a.2 k _ _ (aj hk) (aj hs);rw[hm,Int.mul_comm r.2 m,<- Int.mul_assoc]at e;have e:=Int.eq_of_mul_eq_mul_right (WS hr) e;have b:=h.top _ (aU hs);rw[<- e,VX]at b;exact aL (Nat.le_mul_of_pos_right _ (by omega)) b
noncomputable def gr(N:Nat):Nat->Nat
 |0=>N
 |m+1=>2*(gr N m*gr N m)
noncomputable def sg(f:Nat->Rat):Nat->Rat
 |0=>0
 |n+1=>sg f n+f n
noncomputable def sz(f:Nat->Int):Nat->Int
 |0=>0
 |n+1=>sz f n+f n
theorem fY(f g:Nat->Rat):∀n,sg (λj=>f j+g j) n=sg f n+sg g n
 |0=>by unfold sg;grind
 |n+1=>by unfold sg;rw[fY f g n];grind
theorem fG(c:Rat)(f:Nat->Rat):∀n,sg (λj=>c*f j) n=c*sg f n
 |0=>by unfold sg;grind
 |n+1=>by unfold sg;rw[fG c f n];grind
theorem bW{f g:Nat->Rat} : ∀{n},(∀j,j<n->f j=g j)->sg f n=sg g n
 |0,_=>rfl
 |n+1,h=>by unfold sg;rw[bW λj hj=>h j (WU _ hj),h n (X1 _)]
theorem gD:∀n,sg (λ_=>0) n=0
 |0=>rfl
 |n+1=>by unfold sg;rw[gD n];grind
theorem gQ{v:Nat->Rat}{k:Nat} : ∀{n},sg (λj=>(if j=k then 1 else 0)*v j) n=if k<n then v k else 0
 |0=>by rw[ZZ (WV _)];rfl
 |n+1=>by
  unfold sg;rw[gQ];by_cases h:k<n
  .rw[ZY h,ZZ (US h),ZY (WU _ h)];grind
  .by_cases e:n=k
   .subst e;rw[ZZ h,ZY rfl,ZY (X1 _)];grind
   .rw[ZZ h,ZZ e,ZZ (by lia)];grind
theorem WY(f:Nat->Nat->Rat)(m:Nat):∀n,sg (λk=>sg (λl=>f k l) m) n=sg (λl=>sg (λk=>f k l) n) m
 |0=>by
  show(0:Rat)=sg (λ_=>0) m;rw[gD]
 |n+1=>by
  show sg (λk=>sg (λl=>f k l) m) n+sg (λl=>f n l) m=sg (λl=>sg (λk=>f k l) n+f n l) m;rw[fY,WY f m n]
theorem Hl(f:Nat->Int):∀n,((sz f n:Int):Rat)=sg (λk=>(f k:Rat)) n
 |0=>Q4
 |n+1=>by unfold sz sg;rw[Rat.intCast_add,Hl f n]
theorem HX{f:Nat->Int}{B:Nat} : ∀{n},(∀k,k<n->(f k).natAbs<=B)->(sz f n).natAbs<=n*B
 |0,_=>by unfold sz;simp
 |n+1,h=>by
  unfold sz;have:=HX (n:=n) λk hk=>h k (WU _ hk);have:=h n (X1 _);rw[Nat.add_mul,Nat.one_mul];omega
theorem aa6(f g:Nat->Int):∀n,sz (λk=>f k-g k) n=sz f n-sz g n
 |0=>rfl
 |n+1=>by unfold sz;rw[aa6 f g n];lia
theorem R_{f g:Nat->Int} : ∀{n},(∀j,j<n->f j=g j)->sz f n=sz g n
 |0,_=>rfl
 |n+1,h=>by unfold sz;rw[R_ λj hj=>h j (WU _ hj),h n (X1 _)]
theorem Q0{α:Type}(q:α->Bool):∀L:List α,(L.filter q).length+(L.filter λx=>!q x).length=L.length
 |[]=>rfl
 |x::L=>by
  have:=Q0 q L;rw[List.filter_cons,List.filter_cons];cases h:q x with
  |true=>rw[ZY rfl,ZZ (by simp),List.length_cons,List.length_cons];lia
  |false=>rw[ZZ (by simp),ZY (by simp),List.length_cons,List.length_cons];lia
theorem aaF{α:Type}(f:α->Nat)(n:Nat):∀(W:Nat)(L:List α),(∀x∈L,f x<W)->W*n<L.length->∃v,n<(L.filter λx=>f x==v).length
 |0,L,h,hl=>by
  cases L with
  |nil=>simp at hl
  |cons x L=>exact absurd (h x aO) (WV _)
 |W+1,L,h,hl=>by
  by_cases e:n<(L.filter λx=>f x==W).length
  .exact⟨W,e⟩
  .have pl:=Q0 (λx=>f x==W) L;rw[Nat.add_mul,Nat.one_mul]at hl;obtain⟨v,hv⟩:=aaF f n W (L.filter λx=>!(f x==W)) (λx hx=>by
    obtain⟨a,b⟩:=List.mem_filter.mp hx;have:=h x a;have ne:f x≠W:=λz=>by rw[z]at b;simp at b
    lia) (by omega)
   exact⟨v,aR hv (List.Sublist.length_le (List.Sublist.filter _ List.filter_sublist))⟩
theorem digits_inj{W:Nat}(hW:0<W):∀(n c d:Nat),c<W^n->d<W^n->(∀k,k<n->c/W^k%W=d/W^k%W)->c=d
 |0,c,d,hc,hd,_=>by
  rw[Nat.pow_zero]at hc hd;lia
 |n+1,c,d,hc,hd,h=>by
  have h0:=h 0 (TR _);rw[Nat.pow_zero,Nat.div_one,Nat.div_one]at h0;have e:=digits_inj hW n (c/W) (d/W) (Nat.div_lt_of_lt_mul (by rw[Nat.mul_comm,<- Nat.pow_succ];exact hc)) (Nat.div_lt_of_lt_mul (by rw[Nat.mul_comm,<- Nat.pow_succ];exact hd)) λk hk=>by
   have:=h (k+1) (Nat.succ_lt_succ hk);rw[Nat.div_div_eq_div_mul,Nat.div_div_eq_div_mul,<- Nat.pow_succ'];exact this
  rw[<- Nat.div_add_mod c W,<- Nat.div_add_mod d W,e,h0]
theorem Yq{p N:Nat}(hN:1<=N):(2*((p+1)*((2*(p+1)*N)^p*N))+1)^p<((2*(p+1)*N)^p+1)^(p+1):=by
 have w:2*((p+1)*((2*(p+1)*N)^p*N))+1<=2*(p+1)*N*((2*(p+1)*N)^p+1):=by
  have e:2*((p+1)*((2*(p+1)*N)^p*N))=2*(p+1)*N*(2*(p+1)*N)^p:=by ac_rfl
  have x1:1<=2*(p+1)*N:=W1 (show 1<=2*(p+1)by lia) hN;rw[e];generalize 2*(p+1)*N=X at *;rw[Nat.mul_add,Nat.mul_one];exact Nat.add_le_add_left x1 _
 refine Y3 (Nat.pow_le_pow_left w p) ?_;rw[Nat.mul_pow,Nat.pow_succ,Nat.mul_comm];exact Nat.mul_lt_mul_of_pos_left (X1 _) (Nat.pow_pos (TR _))
theorem Vy{p N:Nat}{C:Nat->Nat->Int}(hN:1<=N)(hC:∀k l,k<=p->l<p->(C k l).natAbs<=N) :
  ∃aw:Nat->Int,(∃k,k<=p/\aw k≠0)/\(∀k,(aw k).natAbs<=(2*(p+1)*N)^p)/\∀l,l<p->sz (λk=>aw k*C k l) (p+1)=0:=by
 have ps:=Yq (p:=p) hN;generalize hB:(2*(p+1)*N)^p=B at *;generalize hO:(p+1)*(B*N)=O at *;have mh:∀c k:Nat,c/(B+1)^k%(B+1)<=B:=λc k=>UZ (Nat.mod_lt _ (TR _));have eb:∀l c,l<p->(sz (λk=>((c/(B+1)^k%(B+1):Nat):Int)*C k l) (p+1)).natAbs<=O:=λl c hl=>by
  rw[<- hO];refine HX λk hk=>?_;rw[VX,XG];exact W1 (mh c k) (hC k l (UZ hk) hl)
 have all:∀q,q<=p->∃L:List Nat,L.Nodup/\(∀c∈L,c<(B+1)^(p+1))/\(∀l,l<q->∀c∈L,∀d∈L,sz (λk=>((c/(B+1)^k%(B+1):Nat):Int)*C k l) (p+1)=sz (λk=>((d/(B+1)^k%(B+1):Nat):Int)*C k l) (p+1))/\(2*O+1)^(p-q)<L.length:=by
  intro q
  induction q with
  |zero=>exact λ_=>⟨List.range ((B+1)^(p+1)),List.nodup_range,λc hc=>List.mem_range.mp hc,λl hl=>absurd hl (WV _),by rw[WJ,Nat.sub_zero];exact ps⟩
  |succ q ih =>
   intro hq;obtain⟨L,nd,lt,eq,ln⟩:=ih (aL (Xs _) hq);have e1:(2*O+1)^(p-q)=(2*O+1)*(2*O+1)^(p-(q+1)):=by rw[<- Nat.pow_succ',show(p-(q+1)).succ=p-q by lia]
   rw[e1]at ln;obtain⟨v,hv⟩:=aaF (λc=>(sz (λk=>((c/(B+1)^k%(B+1):Nat):Int)*C k q) (p+1)+O).toNat) _ _ L (λc _=>by
    have:=eb q c (aR (X1 _) hq);omega) ln
   refine⟨_,List.Pairwise.sublist List.filter_sublist nd,λc hc=>lt c (List.mem_filter.mp hc).1,λl hl c hc d hd=>?_,hv⟩;obtain⟨c1,c2⟩:=List.mem_filter.mp hc;obtain⟨d1,d2⟩:=List.mem_filter.mp hd;by_cases e:l<q
   .exact eq l e c c1 d d1
   .have e:l=q:=by lia
    subst e;have c2:=beq_iff_eq.mp c2;have d2:=beq_iff_eq.mp d2;have:=eb l c (aR hl hq);have:=eb l d (aR hl hq);omega
 obtain⟨L,nd,lt,eq,ln⟩:=all p (aG p);rw[Nat.sub_self,Nat.pow_zero]at ln
 match L,nd,lt,eq,ln with
 |c::d::L,nd,lt,eq,_ =>
  have ne:c≠d:=λz=>by
   rw[z]at nd;exact(List.nodup_cons.mp nd).1 aO
  refine⟨λk=>((c/(B+1)^k%(B+1):Nat):Int)-((d/(B+1)^k%(B+1):Nat):Int),?_,λk=>?_,λl hl=>?_⟩
  .by_cases h:∀k,k<p+1->c/(B+1)^k%(B+1)=d/(B+1)^k%(B+1)
   .exact absurd (digits_inj (TR B) (p+1) c d (lt c aO) (lt d (aJ _ aO)) h) ne
   .obtain⟨k,hk⟩:=Classical.not_forall.mp h;obtain⟨k1,k2⟩:=Classical.not_imp.mp hk;exact⟨k,by exact UZ k1,λz=>k2 (by
     have z:((c/(B+1)^k%(B+1):Nat):Int)-((d/(B+1)^k%(B+1):Nat):Int)=0:=z;generalize c/(B+1)^k%(B+1)=x at *;generalize d/(B+1)^k%(B+1)=y at *;lia)⟩
  .have:=mh c k;have:=mh d k;show(((c/(B+1)^k%(B+1):Nat):Int)-((d/(B+1)^k%(B+1):Nat):Int)).natAbs<=B;omega
  .rw[R_ (g:=λk=>((c/(B+1)^k%(B+1):Nat):Int)*C k l-((d/(B+1)^k%(B+1):Nat):Int)*C k l) λk _=>Int.sub_mul _ _ _,aa6,eq l hl c aO d (aJ _ aO)];exact Int.sub_self _
 |[_],_,_,_,ln=>exact absurd ln (by simp)
 |[],_,_,_,ln=>exact absurd ln (by simp)
structure fU(A:Nat->Nat->Int)(b:Nat->Int)(m wd:Nat)(R:Nat->Nat->Rat)(p:Nat)(pv s:Nat->Nat):Prop where
 pm:p<=m
 sm:∀i,i<m->s i<m
 pw:∀l,l<p->pv l<wd
 unit:∀i l,i<m->l<p->R i (pv l)=if i=l then 1 else 0
 dec:∀i j,i<m->j<wd->(A (s i) j:Rat)=(if i<p then 0 else(b (s i):Rat)*R i j)+sg (λl=>(A (s i) (pv l):Rat)*R l j) p
 ind:∀aw:Nat->Rat,(∀j,j<wd->sg (λk=>aw k*(A (s k) j:Rat)) p=0)->∀k,k<p->aw k=0
section
variable{A:Nat->Nat->Int}{b:Nat->Int}{m wd p:Nat}{R:Nat->Nat->Rat}{pv s:Nat->Nat}
theorem fU.comb(h:fU A b m wd R p pv s)(aw:Nat->Rat){j:Nat}(hj:j<wd):sg (λk=>aw k*(A (s k) j:Rat)) p=sg (λl=>sg (λk=>aw k*(A (s k) (pv l):Rat)) p*R l j) p:=by
 have pm:=h.pm;rw[bW (g:=λk=>sg (λl=>aw k*(A (s k) (pv l):Rat)*R l j) p) λk hk=>?_]
 .rw[WY];refine bW λl hl=>?_;rw[bW (g:=λk=>R l j*(aw k*(A (s k) (pv l):Rat))) λk _=>XU _ _,fG,XU]
 .rw[h.dec k j (aR hk pm) hj,ZY hk,Rat.zero_add,<- fG];exact bW λl _=>(Rat.mul_assoc _ _ _).symm
theorem gW{x:Int}(h:x≠0):(x:Rat)≠0:=λz=>h (Rat.intCast_inj.mp (z.trans Rat.intCast_zero.symm))
theorem ah3{m N q:Nat}(hN:1<=N)(hq:q+1<=m):(2*(q+1)*N)^(q+1)<=(2*m*N)^m:=by
 have x:2*(q+1)*N<=2*m*N:=W1 (by lia) (aG N);have y:1<=2*m*N:=W1 (show 1<=2*m by lia) hN;exact aL (Nat.pow_le_pow_left x _) (XT y hq)
theorem ac7{m N q:Nat}(hN:1<=N)(hq:q+1<=m):(q+1)*((2*(q+1)*N)^q*N)<=(2*m*N)^m:=by
 refine aL ?_ (ah3 hN hq);have e:(2*(q+1)*N)^(q+1)=2*((q+1)*((2*(q+1)*N)^q*N)):=by
  rw[Nat.pow_succ];ac_rfl
 lia
theorem fU.bound{N:Nat}(h:fU A b m wd R p pv s)(hN:1<=N)(hA:∀i j,i<m->j<wd->(A i j).natAbs<=N)(hb:∀i,i<m->0<b i/\(b i).natAbs<=N){i:Nat}(hi:i<m) :
    ∃(v:Nat->Int)(u:Int),u≠0/\u.natAbs<=(2*m*N)^m/\(∀j,j<wd->(v j).natAbs<=(2*m*N)^m)/\∀j,j<wd->R i j*(u:Rat)=(v j:Rat):=by
  have pm:=h.pm;by_cases ip:i<p
  . obtain⟨q,rfl⟩ : ∃q,p=q+1:=⟨p-1,by lia⟩
    obtain⟨aw,⟨k0,hJ,f6⟩,bl,zr⟩:=Vy (p:=q) (C:=λk l=>A (s k) (if l<i then pv l else pv (l+1))) hN λk l hk hl=>by
      refine hA _ _ (h.sm k (by lia)) ?_;by_cases e:l<i
      . rw[ZY e];exact h.pw l (WU _ hl)
      . rw[ZZ e];exact h.pw (l+1) (Nat.succ_lt_succ hl)
    have cast:∀j,((sz (λk=>aw k*A (s k) j) (q+1):Int):Rat)=sg (λk=>(aw k:Rat)*(A (s k) j:Rat)) (q+1):=λj=>by
      rw[Hl];exact bW λk _=>XV _ _
    have zl:∀l,l<q+1->l≠i->sz (λk=>aw k*A (s k) (pv l)) (q+1)=0:=λl hl ne=>by
      by_cases e:l<i
      . have:=zr l (aR e (UZ ip))
        rw[ZY e]at this;exact this
      . have:=zr (l-1) (by omega)
        rw[ZZ (by lia),show l-1+1=l by lia]at this;exact this
    have da:∀j,j<wd->((sz (λk=>aw k*A (s k) j) (q+1):Int):Rat)=((sz (λk=>aw k*A (s k) (pv i)) (q+1):Int):Rat)*R i j:=λj hj=>by
      rw[cast,h.comb (λk=>(aw k:Rat)) hj,bW (g:=λl=>(if l=i then 1 else 0)*(((sz (λk=>aw k*A (s k) (pv i)) (q+1):Int):Rat)*R l j)) λl hl=>?_,gQ,ZY ip];rw[<- cast (pv l)];by_cases e:l=i
      . rw[ZY e,e,Rat.one_mul]
      . rw[ZZ e,zl l hl e,Q4];grind
    refine⟨λj=>sz (λk=>aw k*A (s k) j) (q+1),sz (λk=>aw k*A (s k) (pv i)) (q+1),λz=>?_,?_,λj hj=>?_,λj hj=>?_⟩
    . have:=h.ind (λk=>(aw k:Rat)) (λj hj=>by
        rw[<- cast,da j hj,z,Q4];grind) k0 (Y3 hJ (X1 _))
      exact gW f6 this
    . exact aL (HX λk hk=>by rw[VX];exact W1 (bl k) (hA _ _ (h.sm k (aR hk pm)) (h.pw i ip))) (ac7 hN (by omega))
    . exact aL (HX λk hk=>by rw[VX];exact W1 (bl k) (hA _ _ (h.sm k (aR hk pm)) hj)) (ac7 hN (by omega))
    . rw[da j hj,XU]
  . obtain⟨aw,⟨k0,hJ,f6⟩,bl,zr⟩:=Vy (p:=p) (C:=λk l=>A (s (if k<p then k else i)) (pv l)) hN λk l hk hl=>by
      refine hA _ _ (h.sm _ ?_) (h.pw l hl);by_cases e:k<p
      . rw[ZY e];exact aR e pm
      . rw[ZZ e];exact hi
    have cast:∀j,((sz (λk=>aw k*A (s (if k<p then k else i)) j) (p+1):Int):Rat)=sg (λk=>(aw k:Rat)*(A (s k) j:Rat)) p+(aw p:Rat)*(A (s i) j:Rat):=λj=>by
      rw[Hl];show sg _ p+((aw p*A (s (if p<p then p else i)) j:Int):Rat)=_;rw[ZZ (X9 _),XV,bW (g:=λk=>(aw k:Rat)*(A (s k) j:Rat)) λk hk=>by rw[ZY hk,XV]]
    have da:∀j,j<wd->((sz (λk=>aw k*A (s (if k<p then k else i)) j) (p+1):Int):Rat)=((aw p*b (s i):Int):Rat)*R i j:=λj hj=>by
      have e0:sg (λl=>sg (λk=>(aw k:Rat)*(A (s k) (pv l):Rat)) p*R l j) p+(aw p:Rat)*sg (λl=>(A (s i) (pv l):Rat)*R l j) p=0:=by
        rw[<- fG,<- fY,bW (g:=λ_=>0) λl hl=>?_,gD];have:=cast (pv l);rw[zr l hl,Q4]at this
        calc _=(sg (λk=>(aw k:Rat)*(A (s k) (pv l):Rat)) p+(aw p:Rat)*(A (s i) (pv l):Rat))*R l j:=by grind
          _=0:=by rw[<- this];grind
      rw[cast,h.comb (λk=>(aw k:Rat)) hj,h.dec i j hi hj,ZZ ip,XV]
      grind
    have bp:=hb _ (h.sm i hi);have lp:aw p≠0:=λz=>by
      have kp:k0<p:=by
        by_cases e:k0=p
        . rw[e,z]at f6;exact absurd rfl f6
        . exact XX hJ e
      have:=h.ind (λk=>(aw k:Rat)) (λj hj=>by
        have c:=cast j;rw[da j hj,z,Int.zero_mul,Q4]at c
        grind) k0 kp
      exact gW f6 this
    refine⟨λj=>sz (λk=>aw k*A (s (if k<p then k else i)) j) (p+1),aw p*b (s i),λz=>?_,?_,λj hj=>?_,λj hj=>?_⟩
    . rcases Int.mul_eq_zero.mp z with y|y
      . exact lp y
      . lia
    . rw[VX]
      refine aL (W1 (bl p) bp.2) (aL ?_ (ac7 hN (show p+1<=m by lia)));exact Zzr _ (TR p)
    . exact aL (HX λk hk=>by
        rw[VX];refine W1 (bl k) (hA _ _ (h.sm _ ?_) hj);by_cases e:k<p
        . rw[ZY e];exact aR e pm
        . rw[ZZ e];exact hi) (ac7 hN (show p+1<=m by lia))
    . rw[da j hj,XU]
theorem fU.congr(h:fU A b m wd R p pv s){R':Nat->Nat->Rat}(e:∀i j,i<m->R i j=R' i j):fU A b m wd R' p pv s:=by
 have pm:=h.pm;refine⟨h.pm,h.sm,h.pw,λi l hi hl=>by rw[<- e i _ hi];exact h.unit i l hi hl,λi j hi hj=>?_,h.ind⟩;rw[h.dec i j hi hj,e i j hi,bW λl hl=>by rw[e l j (aR hl pm)]]
theorem fU.zero(hb:∀i,i<m->0<b i):fU A b m wd (λi j=>(A i j:Rat)/(b i:Rat)) 0 pv id:=by
 refine⟨aZ _,λi hi=>hi,λl hl=>absurd hl (WV _),λi l _ hl=>absurd hl (WV _),λi j hi hj=>?_,λaw _ k hk=>absurd hk (WV _)⟩;rw[ZZ (WV _)];have:=gW (WS (hb i hi));show(A i j:Rat)=(b i:Rat)*((A i j:Rat)/(b i:Rat))+0
 grind
def sw(p q x:Nat):Nat:=if x=p then q else if x=q then p else x
theorem fU.swap(h:fU A b m wd R p pv s){q:Nat}(hp:p<=q)(hq:q<m){R':Nat->Nat->Rat}(hR:∀i j,i<m->j<wd->R' i j=R (sw p q i) j):fU A b m wd R' p pv (λi=>s (sw p q i)):=by
 have pm:=h.pm;have sl:∀l,l<p->sw p q l=l:=λl hl=>by unfold sw;rw[ZZ (aQ hl),ZZ (by lia)]
 have sm:∀i,i<m->sw p q i<m:=λi hi=>by
  unfold sw;split
  .exact hq
  .split<;>omega
 have sp:∀i,(sw p q i<p)↔i<p:=λi=>by
  unfold sw;split
  .lia
  .split<;>lia
 refine⟨pm,λi hi=>h.sm _ (sm i hi),h.pw,λi l hi hl=>?_,λi j hi hj=>?_,λaw hz=>?_⟩
 .rw[hR i _ hi (h.pw l hl),h.unit _ l (sm i hi) hl];by_cases e:i=l
  .rw[ZY e,e,ZY (sl l hl)]
  .rw[ZZ e,ZZ λz=>e ?_];have:i<p:=(sp i).mp (Y3 (WG z) hl);rw[<- z,sl i this]
 .rw[h.dec _ j (sm i hi) hj,hR i j hi hj]
  congr 1
  .by_cases e:i<p
   .rw[ZY e,ZY ((sp i).mpr e)]
   .rw[ZZ e,ZZ λz=>e ((sp i).mp z)]
  .exact bW λl hl=>by rw[hR l j (aR hl pm) hj,sl l hl]
 .exact h.ind aw λj hj=>by
   rw[<- hz j hj];exact bW λk hk=>by rw[sl k hk]
theorem fU.pivot(h:fU A b m wd R p pv s)(hp:p<m)(hb:∀i,i<m->0<b i){c:Nat}(hc:c<wd)(h0:R p c≠0){R':Nat->Nat->Rat}(kM:∀j,j<wd->R' p j*R p c=R p j)(kS:∀i j,i<m->i≠p->j<wd->R' i j=R i j-R i c*R' p j) :
  fU A b m wd R' (p+1) (λl=>if l=p then c else pv l) s:=by
 have pm:=h.pm;have one:R' p c=1:=by
  have:=kM c hc
  grind
 have zp:∀l,l<p->R' p (pv l)=0:=λl hl=>by
  have:=kM (pv l) (h.pw l hl);rw[h.unit p l hp hl,ZZ (US hl)]at this
  grind
 have pvl:∀l,l<p->(if l=p then c else pv l)=pv l:=λl hl=>ZZ (aQ hl);have old:∀i j,i<m->i≠p->j<wd->R i j=R' i j+R i c*R' p j:=λi j hi ne hj=>by rw[kS i j hi ne hj];grind
 have dec:∀i j,i<m->j<wd->(A (s i) j:Rat)=(if i<p+1 then 0 else(b (s i):Rat)*R' i j)+sg (λl=>(A (s i) (if l=p then c else pv l):Rat)*R' l j) (p+1):=λi j hi hj=>by
  have dj:=h.dec i j hi hj;have dc:=h.dec i c hi hc;have ej:sg (λl=>(A (s i) (pv l):Rat)*R l j) p=sg (λl=>(A (s i) (pv l):Rat)*R' l j) p+R' p j*sg (λl=>(A (s i) (pv l):Rat)*R l c) p:=by
   rw[<- fG,<- fY];exact bW λl hl=>by rw[old l j (Th hl hp) (aQ hl) hj];grind
  rw[ej]at dj;show _=_+(sg _ p+(A (s i) (if p=p then c else pv p):Rat)*R' p j);rw[ZY rfl,bW (g:=λl=>(A (s i) (pv l):Rat)*R' l j) λl hl=>by rw[pvl l hl]];by_cases e:i<p
  .rw[ZY (WU _ e)];rw[ZY e]at dj dc
   grind
  .rw[ZZ e]at dj dc;by_cases e2:i=p
   .rw[ZY (by lia)];subst e2;have:=kM j hj
    grind
   .rw[ZZ (by lia)];have:=old i j hi e2 hj
    grind
 refine⟨hp,h.sm,λl hl=>?_,λi l hi hl=>?_,dec,λaw hz=>?_⟩
 .by_cases e:l=p
  .show(if l=p then c else pv l)<wd;rw[ZY e];exact hc
  .show(if l=p then c else pv l)<wd;rw[ZZ e];exact h.pw l (XX (UZ hl) e)
 .show R' i (if l=p then c else pv l)=_;by_cases e:l=p
  .rw[ZY e,e];by_cases ip:i=p
   .rw[ZY ip,ip];exact one
   .rw[ZZ ip,kS i c hi ip hc,one];grind
  .rw[ZZ e];have iO:l<p:=by exact XX (UZ hl) e
   by_cases ip:i=p
   .rw[ip,zp l iO,ZZ (Ne.symm e)]
   .rw[kS i _ hi ip (h.pw l iO),zp l iO,h.unit i l hi iO];grind
 .have lp:aw p=0:=by
   by_cases z:aw p=0
   .exact z
   .exfalso

    have hj:∀j,j<wd->sg (λk=>aw k*(A (s k) j:Rat)) p=-(aw p*(A (s p) j:Rat)):=λj hj=>by
     have:sg (λk=>aw k*(A (s k) j:Rat)) p+aw p*(A (s p) j:Rat)=0:=hz j hj
     grind
    have dq:=h.comb aw hc;rw[hj c hc,bW (g:=λl=>-(aw p)*((A (s p) (pv l):Rat)*R l c)) λl hl=>by rw[hj _ (h.pw l hl)];grind,fG]at dq;have dc:=h.dec p c hp hc;rw[ZZ (X9 p)]at dc;have b0:=gW (WS (hb _ (h.sm p hp)));have:aw p*((b (s p):Rat)*R p c)=0:=by rw[dc]at dq;grind
    grind
  intro k hk;by_cases e:k=p
  .rw[e];exact lp
  .refine h.ind aw (λj hj=>?_) k (XX (UZ hk) e);have:sg (λk=>aw k*(A (s k) j:Rat)) p+aw p*(A (s p) j:Rat)=0:=hz j hj;rw[lp]at this
   grind
end
noncomputable def vr(r:List Int×Int)(j:Nat):Rat:=((r.1.getD j 0:Int):Rat)/(r.2:Rat)
theorem Le{f:Int->Int}(h0:f 0=0)(xs:List Int)(j:Nat):(xs.map f).getD j 0=f (xs.getD j 0):=by
 rw[au,au,aq];cases xs[j]? with
 |none=>exact h0.symm
 |some t=>rfl
theorem p7{r:List Int×Int}(h:0<r.2)(j:Nat):vr (iC r) j=vr r j:=by
 have g0:=gw (ts:=r.1) h;obtain⟨d1,d2⟩:=gB (ts:=r.1) (b:=r.2);have e1:(iC r).1.getD j 0=r.1.getD j 0/gcL r.1 r.2:=Le (f:=λt=>t/gcL r.1 r.2) (Int.zero_ediv _) r.1 j;have d3:gcL r.1 r.2 ∣ r.1.getD j 0:=by
  rw[au];cases e:r.1[j]? with
  |none=>exact⟨0,by rw[Int.mul_zero];rfl⟩
  |some t=>exact d2 t (aC e)
 have e2:(iC r).2=r.2/gcL r.1 r.2:=rfl;unfold vr;rw[e1,e2];generalize r.1.getD j 0=t at *;generalize gcL r.1 r.2=g at *;obtain⟨u,hu⟩:=d3;obtain⟨v,hv⟩:=d1;rw[hu,hv,Zzz _ (WS g0),Zzz _ (WS g0),XV,XV];have v0:v≠0:=λz=>by rw[hv,z,Int.mul_zero]at h;lia
 have:=gW v0;have:=gW (WS g0)
 grind
theorem jo{r:List Int×Int}{c:Β}(h:0<r.2)(hc:0<c.2)(j:Nat):vr (gU r c) j=vr r j*((c.1:Rat)/(c.2:Rat)):=by
 have e1:(gU r c).1.getD j 0=r.1.getD j 0*c.1:=Le (f:=λt=>t*c.1) (Int.zero_mul _) r.1 j;have e2:(gU r c).2=r.2*c.2:=rfl;unfold vr;rw[e1,e2,XV,XV];have:=gW (WS h);have:=gW (WS hc)
 grind
theorem mG{r p:List Int×Int}{c:Β}(hr:0<r.2)(hp:0<p.2)(hc:0<c.2)(hl:r.1.length=p.1.length)(j:Nat):vr (nG r p c) j=vr r j+((c.1:Rat)/(c.2:Rat))*vr p j:=by
 have hB:=XZ hp hc;have g0:=akA (t:=r.2) hB;obtain⟨u,hu⟩:=Int.gcd_dvd_left r.2 (p.2*c.2);obtain⟨v,hv⟩:=Qr r.2 (p.2*c.2);have es:nG r p c=(List.zipWith (λx y=>x*v+y*(u*c.1)) r.1 p.1,r.2*v):=by
  unfold nG;generalize((Int.gcd r.2 (p.2*c.2):Nat):Int)=g at g0 hu hv ⊢;have e1:p.2*c.2/g=v:=by rw[hv,Zzz _ (WS g0)]
  have e2:r.2/g=u:=by
   conv=>lhs;rw[hu]
   exact Zzz _ (WS g0)
  rw[e1,e2]
 generalize((Int.gcd r.2 (p.2*c.2):Nat):Int)=g at g0 hu hv;have v0:0<v:=Int.pos_of_mul_pos_right (by rw[<- hv];exact hB) g0;have ez:(List.zipWith (λx y=>x*v+y*(u*c.1)) r.1 p.1).getD j 0=r.1.getD j 0*v+p.1.getD j 0*(u*c.1):=by
  rw[au,au,au,List.getElem?_zipWith];by_cases e:j<r.1.length
  .rw[aj e,aj (aR e (WG hl))];rfl
  .rw[aM (VW e),aM (by lia)];show(0:Int)=0*v+0*(u*c.1);rw[Int.zero_mul,Int.zero_mul];rfl
 rw[es];unfold vr;show((List.zipWith (λx y=>x*v+y*(u*c.1)) r.1 p.1).getD j 0:Rat)/((r.2*v:Int):Rat)=_;rw[ez];generalize r.1.getD j 0=x;generalize p.1.getD j 0=y;have hu':(r.2:Rat)=(g:Rat)*(u:Rat):=by rw[<- XV,<- hu]
 have kH:(p.2:Rat)*(c.2:Rat)=(g:Rat)*(v:Rat):=by rw[<- XV,<- XV,hv]
 have r0:=gW (WS hr);have p0:=gW (WS hp);have c0:=gW (WS hc);have q0:=gW (WS v0);have k0:=gW (WS g0);rw[Rat.intCast_add,XV,XV,XV,XV];generalize(r.2:Rat)=r2 at *;generalize(p.2:Rat)=p2 at *;generalize(c.2:Rat)=c2 at *;generalize(c.1:Rat)=c1 at *;generalize(g:Rat)=gg at *;generalize(u:Rat)=uu at *;generalize(v:Rat)=vv at *;generalize(x:Rat)=xx at *;generalize(y:Rat)=yy at *;have e1:(xx*vv+yy*(uu*c1))/(r2*vv)=xx/r2+yy*(uu*c1)/(r2*vv):=by grind
 have e2:yy*(uu*c1)/(r2*vv)=c1/c2*(yy/p2):=by
  have:uu*(c2*p2)=r2*vv:=by rw[hu',XU c2 p2,kH];grind
  grind
 rw[e1,e2]
theorem mY{M wd:Nat}{r:List Int×Int}(hr:0<r.2)(g:gcL r.1 r.2=1)(hw:r.1.length=wd){v:Nat->Int}{u:Int}(u0:u≠0)(ub:u.natAbs<=M)(vb:∀j,j<wd->(v j).natAbs<=M)(e:∀j,j<wd->vr r j*(u:Rat)=(v j:Rat)):Big M r:=by
 refine least (s:=((List.range wd).map λj=>v j*u.sign,u.natAbs)) hr g ⟨?_,λk a b ha hb=>?_⟩ ⟨?_,?_,λt ht=>?_⟩
 .show r.1.length=((List.range wd).map λj=>v j*u.sign).length;rw[hw,ak,WJ]
 .have kw:k<wd:=by rw[<- hw];exact(ao.mp ha).1
  have hb:((List.range wd).map λj=>v j*u.sign)[k]?=some b:=hb;rw[aq,VT kw]at hb;cases hb;show a*((u.natAbs:Nat):Int)=v k*u.sign*r.2;have ek:=e k kw;unfold vr at ek;rw[au,ha]at ek;have ek:(a:Rat)/(r.2:Rat)*(u:Rat)=(v k:Rat):=ek;have r0:=gW (WS hr);have k2:a*u=v k*r.2:=by
   refine Rat.intCast_inj.mp ?_;rw[XV,XV]
   grind
  have k1:((u.natAbs:Nat):Int)=u*u.sign:=(Int.mul_sign_self u).symm;rw[k1,<- Int.mul_assoc,k2];ac_rfl
 .show(0:Int)<(u.natAbs:Nat);lia
 .show(((u.natAbs:Nat):Int)).natAbs<=M;rw[XG];exact ub
 .obtain⟨j,hj,rfl⟩:=YV.mp ht;rw[VX,Int.natAbs_sign_of_ne_zero u0,Nat.mul_one];exact vb j (List.mem_range.mp hj)
end Rw
namespace K28
open PySem PyProof.Rows L2
noncomputable abbrev Ba:Stmt:=top 10
noncomputable abbrev iy:Φ:=["thing"]
noncomputable abbrev ig:Str:="is_whole"
noncomputable abbrev Ux:Φ:=["thing"]
theorem TJ:bK Ux iy (bH Ba):=fsc
noncomputable abbrev En:Stmt:=top 11
noncomputable abbrev iu:Φ:=["one","other"]
noncomputable abbrev iz:Str:="divisor"
noncomputable abbrev Yw:Φ:=["one","other","left","right","rest"]
theorem lY:bK Yw iu (bH En):=fsc
noncomputable abbrev Oo:Stmt:=top 15
noncomputable abbrev nC:Φ:=["top","bottom"]
noncomputable abbrev nJ:Str:="ratio"
noncomputable abbrev abS:Φ:=["top","bottom","common"]
theorem JL:bK abS nC (bH Oo):=fsc
noncomputable abbrev Ah:Stmt:=top 16
noncomputable abbrev jQ:Φ:=["thing"]
noncomputable abbrev jT:Str:="is_ratio"
noncomputable abbrev TY:Φ:=["thing","top","bottom"]
theorem v8:bK TY jQ (bH Ah):=fsc
noncomputable abbrev Vp:Stmt:=top 17
noncomputable abbrev Ci:Φ:=["one","other"]
noncomputable abbrev Dg:Str:="plus"
noncomputable abbrev afL:Φ:=["one","other"]
theorem acg:bK afL Ci (bH Vp):=fsc
noncomputable abbrev Qh:Stmt:=top 18
noncomputable abbrev sZ:Φ:=["one","other"]
noncomputable abbrev tK:Str:="minus"
noncomputable abbrev acB:Φ:=["one","other"]
theorem YZ:bK acB sZ (bH Qh):=fsc
noncomputable abbrev Ob:Stmt:=top 19
noncomputable abbrev vR:Φ:=["one","other"]
noncomputable abbrev vM:Str:="times"
noncomputable abbrev ac4:Φ:=["one","other"]
theorem YQ:bK ac4 vR (bH Ob):=fsc
noncomputable abbrev T3:Stmt:=top 20
noncomputable abbrev Hv:Φ:=["one","other"]
noncomputable abbrev G4:Str:="over"
noncomputable abbrev agK:Φ:=["one","other"]
theorem acv:bK agK Hv (bH T3):=fsc
noncomputable abbrev Qf:Stmt:=top 21
noncomputable abbrev qz:Φ:=["one","other"]
noncomputable abbrev qy:Str:="under"
noncomputable abbrev ab8:Φ:=["one","other"]
theorem Zk:bK ab8 qz (bH Qf):=fsc
noncomputable abbrev Gy:Stmt:=top 23
noncomputable abbrev pW:Φ:=["fractions"]
noncomputable abbrev pZ:Str:="level"
noncomputable abbrev W0:Φ:=["fractions","bottom","one"]
theorem Bh:bK W0 pW (bH Gy):=fsc
noncomputable abbrev M_:Stmt:=top 24
noncomputable abbrev DK:Φ:=["fractions"]
noncomputable abbrev Bx:Str:="total"
noncomputable abbrev ady:Φ:=["fractions","leveled"]
theorem Tg:bK ady DK (bH M_):=fsc
noncomputable abbrev zY:Stmt:=top 25
noncomputable abbrev q_:Φ:=["fractions"]
noncomputable abbrev qX:Str:="greatest"
noncomputable abbrev Vw:Φ:=["fractions","found","one"]
theorem qJ:bK Vw q_ (bH zY):=fsc
noncomputable abbrev ou:Stmt:=top 27
noncomputable abbrev mQ:Φ:=["hall"]
noncomputable abbrev nu:Str:="first_plan"
noncomputable abbrev vm:Φ:=["hall"]
theorem J8:bK vm mQ (bH ou):=fsc
noncomputable abbrev Vq:Stmt:=top 28
noncomputable abbrev Gz:Φ:=["thing","many"]
noncomputable abbrev Hj:Str:="fits"
noncomputable abbrev agz:Φ:=["thing","many"]
theorem abO:bK agz Gz (bH Vq):=fsc
noncomputable abbrev uT:Stmt:=top 29
noncomputable abbrev gM:Φ:=["hall","plan"]
noncomputable abbrev gK:Str:="check_plan"
noncomputable abbrev Pb:Φ:=["hall","plan","room","thing"]
theorem rN:bK Pb gM (bH uT):=fsc
noncomputable abbrev jt:Stmt:=top 30
noncomputable abbrev kY:Φ:=["offer","tops"]
noncomputable abbrev kj:Str:="behind_door"
noncomputable abbrev jr:Φ:=["offer","tops","leveled"]
theorem wX:bK jr kY (bH jt):=fsc
noncomputable abbrev rT:Stmt:=top 31
noncomputable abbrev lQ:Φ:=["hall","offer","leveled"]
noncomputable abbrev jY:Str:="raised_look"
noncomputable abbrev KN:Φ:=["hall","offer","leveled","behind"]
theorem xO:bK KN lQ (bH rT):=fsc
noncomputable abbrev BR:Stmt:=top 33
noncomputable abbrev tV:Φ:=["tops","bottom"]
noncomputable abbrev tH:Str:="lowest"
noncomputable abbrev Tw:Φ:=["tops","bottom","common","top"]
theorem zB:bK Tw tV (bH BR):=fsc
noncomputable abbrev qI:Stmt:=top 34
noncomputable abbrev oK:Φ:=["row","often"]
noncomputable abbrev oR:Str:="row_times"
noncomputable abbrev xX:Φ:=["row","often"]
theorem Mh:bK xX oK (bH qI):=fsc
noncomputable abbrev vg:Stmt:=top 35
noncomputable abbrev rA:Φ:=["row","other","often"]
noncomputable abbrev qR:Str:="row_plus"
noncomputable abbrev Aq:Φ:=["row","other","often","bottom","common","own","added","tops"]
theorem jO:bK Aq rA (bH vg):=fsc
noncomputable abbrev xU:Stmt:=top 36
noncomputable abbrev o8:Φ:=["leveled","step"]
noncomputable abbrev pH:Str:="take_step"
noncomputable abbrev QD:Φ:=["leveled","step","row"]
theorem Bw:bK QD o8 (bH xU):=fsc
noncomputable abbrev w6:Stmt:=top 37
noncomputable abbrev lM:Φ:=["row","column"]
noncomputable abbrev kO:Str:="number_at"
noncomputable abbrev SM:Φ:=["row","column"]
theorem Og:bK SM lM (bH w6):=fsc
noncomputable abbrev g_:Stmt:=top 38
noncomputable abbrev jG:Φ:=["leveled"]
noncomputable abbrev jB:Str:="fractions_of"
noncomputable abbrev iD:Φ:=["leveled"]
theorem FQ:bK iD jG (bH g_):=fsc
noncomputable abbrev uD:Stmt:=top 39
noncomputable abbrev mU:Φ:=["leveled","place","column"]
noncomputable abbrev mF:Str:="first_from"
noncomputable abbrev Mx:Φ:=["leveled","place","column","row"]
theorem zP:bK Mx mU (bH uD):=fsc
noncomputable abbrev N_:Stmt:=top 40
noncomputable abbrev yC:Φ:=["leveled","steps","step"]
noncomputable abbrev wu:Str:="go_on"
noncomputable abbrev abN:Φ:=["leveled","steps","step"]
theorem ZQ:bK abN yC (bH N_):=fsc
noncomputable abbrev yx:Stmt:=top 41
noncomputable abbrev pB:Φ:=["leveled","steps","place","found","column"]
noncomputable abbrev o9:Str:="begin_row"
noncomputable abbrev QB:Φ:=["leveled","steps","place","found","column","first"]
theorem CJ:bK QB pB (bH yx):=fsc
noncomputable abbrev qe:Stmt:=top 42
noncomputable abbrev jw:Φ:=["leveled","steps","place","column"]
noncomputable abbrev jA:Str:="clear_column"
noncomputable abbrev Jj:Φ:=["leveled","steps","place","column","row","often"]
theorem n6:bK Jj jw (bH qe):=fsc
noncomputable abbrev za:Stmt:=top 43
noncomputable abbrev uJ:Φ:=["rows","wide"]
noncomputable abbrev uK:Str:="reduced"
noncomputable abbrev El:Φ:=["rows","wide","leveled","steps","place","column","found"]
theorem jH:bK El uJ (bH za):=fsc
noncomputable abbrev Ag:Stmt:=top 45
noncomputable abbrev qZ:Φ:=["rows"]
noncomputable abbrev qG:Str:="width_of"
noncomputable abbrev U0:Φ:=["rows"]
theorem SX:bK U0 qZ (bH Ag):=fsc
noncomputable abbrev mL:Stmt:=top 46
noncomputable abbrev lA:Φ:=["rows","rights"]
noncomputable abbrev kh:Str:="with_rights"
noncomputable abbrev sH:Φ:=["rows","rights"]
theorem JR:bK sH lA (bH mL):=fsc
noncomputable abbrev qH:Stmt:=top 47
noncomputable abbrev oM:Φ:=["end","wide"]
noncomputable abbrev oH:Str:="begins_of"
noncomputable abbrev wM:Φ:=["end","wide","begins","row","columns"]
theorem pG:bK wM oM (bH qH):=fsc
noncomputable abbrev EY:Stmt:=top 48
noncomputable abbrev uy:Φ:=["end","begins","wide"]
noncomputable abbrev uw:Str:="odd_row"
noncomputable abbrev Yt:Φ:=["end","begins","wide","row"]
theorem HS:bK Yt uy (bH EY):=fsc
noncomputable abbrev yD:Stmt:=top 49
noncomputable abbrev oU:Φ:=["end","begins","wide"]
noncomputable abbrev pI:Str:="answer_of"
noncomputable abbrev QJ:Φ:=["end","begins","wide","answer","row","column"]
theorem oN:bK QJ oU (bH yD):=fsc
noncomputable abbrev jh:Stmt:=top 50
noncomputable abbrev kI:Φ:=["many"]
noncomputable abbrev j4:Str:="single_rows"
noncomputable abbrev jq:Φ:=["many"]
theorem HF:bK jq kI (bH jh):=fsc
noncomputable abbrev sS:Stmt:=top 51
noncomputable abbrev k_:Φ:=["rows","rights"]
noncomputable abbrev j7:Str:="only_answer"
noncomputable abbrev J6:Φ:=["rows","rights","wide","end","begins"]
theorem lF:bK J6 k_ (bH sS):=fsc
noncomputable abbrev lg:Stmt:=top 53
noncomputable abbrev jC:Φ:=["hall","plan"]
noncomputable abbrev jD:Str:="chosen_doors"
noncomputable abbrev qj:Φ:=["hall","plan"]
theorem Gx:bK qj jC (bH lg):=fsc
noncomputable abbrev yG:Stmt:=top 54
noncomputable abbrev pN:Φ:=["share","chosen"]
noncomputable abbrev o7:Str:="left_rows"
noncomputable abbrev Rp:Φ:=["share","chosen","rows","room","offer","behind","chance"]
theorem iH:bK Rp pN (bH yG):=fsc
noncomputable abbrev qL:Stmt:=top 55
noncomputable abbrev lB:Φ:=["hall","plan"]
noncomputable abbrev lE:Str:="worths_of"
noncomputable abbrev xT:Φ:=["hall","plan","chosen","pays"]
theorem vf:bK xT lB (bH qL):=fsc
noncomputable abbrev rH:Stmt:=top 57
noncomputable abbrev jZ:Φ:=["seen","door"]
noncomputable abbrev lD:Str:="better_door"
noncomputable abbrev J9:Φ:=["seen","door","most"]
theorem vZ:bK J9 jZ (bH rH):=fsc
noncomputable abbrev BX:Stmt:=top 58
noncomputable abbrev yQ:Φ:=["hall","plan","worths"]
noncomputable abbrev yO:Str:="mended"
noncomputable abbrev Jr:Φ:=["hall","plan","worths","leveled","told","room","door","seen"]
theorem pR:bK Jr yQ (bH BX):=fsc
noncomputable abbrev Am:Stmt:=top 59
noncomputable abbrev nF:Φ:=["hall","plan"]
noncomputable abbrev nP:Str:="mendings"
noncomputable abbrev U9:Φ:=["hall","plan","told","coming"]
theorem qW:bK U9 nF (bH Am):=fsc
noncomputable abbrev Fd:Stmt:=top 60
noncomputable abbrev u9:Φ:=["hall"]
noncomputable abbrev vd:Str:="best_of"
noncomputable abbrev XM:Φ:=["hall"]
theorem Ve:bK XM u9 (bH Fd):=fsc
noncomputable abbrev yS:Stmt:=top 63
noncomputable abbrev lZ:Φ:=["thing"]
noncomputable abbrev mD:Str:="is_word"
noncomputable abbrev Em:Φ:=["thing"]
theorem Ud:bK Em lZ (bH yS):=fsc
noncomputable abbrev tZ:Stmt:=top 65
noncomputable abbrev jg:Φ:=["name","pay"]
noncomputable abbrev jk:Str:="check_head"
noncomputable abbrev Qo:Φ:=["name","pay"]
theorem J0:bK Qo jg (bH tZ):=fsc
noncomputable abbrev lH:Stmt:=top 66
noncomputable abbrev eZ:Φ:=["room"]
noncomputable abbrev fj:Str:="check_room_name"
noncomputable abbrev CG:Φ:=["room"]
theorem Av:bK CG eZ (bH lH):=fsc
noncomputable abbrev pX:Stmt:=top 67
noncomputable abbrev gH:Φ:=["chance"]
noncomputable abbrev gG:Str:="check_chance"
noncomputable abbrev JC:Φ:=["chance"]
theorem Gk:bK JC gH (bH pX):=fsc
noncomputable abbrev mZ:Stmt:=top 68
noncomputable abbrev kW:Φ:=["pairs"]
noncomputable abbrev jX:Str:="check_pairs"
noncomputable abbrev sE:Φ:=["pairs","room","chance"]
theorem p8:bK sE kW (bH mZ):=fsc
noncomputable abbrev mO:Stmt:=top 69
noncomputable abbrev kZ:Φ:=["pairs"]
noncomputable abbrev lO:Str:="joined_ways"
noncomputable abbrev zT:Φ:=["pairs","chances","room","chance"]
theorem lN:bK zT kZ (bH mO):=fsc
noncomputable abbrev rP:Stmt:=top 76
noncomputable abbrev lK:Φ:=["share"]
noncomputable abbrev j5:Str:="check_share"
noncomputable abbrev J3:Φ:=["share"]
theorem JG:bK J3 lK (bH rP):=fsc
noncomputable abbrev uQ:Stmt:=top 77
noncomputable abbrev mK:Φ:=["rooms"]
noncomputable abbrev mH:Str:="numbers_of"
noncomputable abbrev Mr:Φ:=["rooms","numbers","room","name"]
theorem m5:bK Mr mK (bH uQ):=fsc
noncomputable abbrev nT:Stmt:=top 78
noncomputable abbrev iT:Φ:=["door","numbers"]
noncomputable abbrev iJ:Str:="numbered_ways"
noncomputable abbrev Gr:Φ:=["door","numbers","numbered","name","chance"]
theorem iW:bK Gr iT (bH nT):=fsc
noncomputable abbrev yH:Stmt:=top 79
noncomputable abbrev oW:Φ:=["doors","numbers"]
noncomputable abbrev oG:Str:="offers_of"
noncomputable abbrev Rq:Φ:=["doors","numbers","taken","told","door"]
theorem oX:bK Rq oW (bH yH):=fsc
noncomputable abbrev Va:Stmt:=top 82
noncomputable abbrev uX:Φ:=["_law_script","_law_k"]
noncomputable abbrev uW:Str:="_law_cell"
noncomputable abbrev aeP:Φ:=["_law_script","_law_k"]
theorem ab4:bK aeP uX (bH Va):=fsc
noncomputable abbrev JN:Stmt:=top 83
noncomputable abbrev fJ:Φ:=["_law_cell_here","_law_many"]
noncomputable abbrev fH:Str:="_law_stream"
noncomputable abbrev Zd:Φ:=["_law_cell_here","_law_many","_law_found","_law_number","_law_digits","_law_k"]
theorem jN:bK Zd fJ (bH JN):=fsc
noncomputable abbrev ZR:Stmt:=top 84
noncomputable abbrev Je:Φ:=["_law_one","_law_other"]
noncomputable abbrev JX:Str:="_law_gcd"
noncomputable abbrev ail:Φ:=["_law_one","_law_other","_law_low","_law_high"]
theorem Qw:bK ail Je (bH ZR):=fsc
noncomputable abbrev Jh:Stmt:=top 85
noncomputable abbrev lV:Φ:=["_law_top","_law_bottom"]
noncomputable abbrev mC:Str:="_law_ratio"
noncomputable abbrev YS:Φ:=["_law_top","_law_bottom","_law_common"]
theorem Lb:bK YS lV (bH Jh):=fsc
noncomputable abbrev yM:Stmt:=top 86
noncomputable abbrev pP:Φ:=["_law_found"]
noncomputable abbrev pA:Str:="_law_is_ratio"
noncomputable abbrev S6:Φ:=["_law_found","_law_number"]
theorem Df:bK S6 pP (bH yM):=fsc
noncomputable abbrev pK:Stmt:=top 87
noncomputable abbrev nq:Φ:=["_law_found","_law_many"]
noncomputable abbrev m9:Str:="_law_are_ratios"
noncomputable abbrev uG:Φ:=["_law_found","_law_many"]
theorem Kz:bK uG nq (bH pK):=fsc
noncomputable abbrev s_same:Stmt:=top 88
noncomputable abbrev Hu:Φ:=["_law_one","_law_other"]
noncomputable abbrev GQ:Str:="_law_same"
noncomputable abbrev afX:Φ:=["_law_one","_law_other"]
theorem adv:bK afX Hu (bH s_same):=fsc
noncomputable abbrev yV:Stmt:=top 89
noncomputable abbrev CW:Φ:=["_law_cell_here","_law_many"]
noncomputable abbrev Dc:Str:="_law_names"
noncomputable abbrev vh:Φ:=["_law_cell_here","_law_many","_law_letters","_law_xs","_law_base","_law_at","_law_step"]
theorem tG:bK vh CW (bH yV):=fsc
noncomputable abbrev M6:Stmt:=top 90
noncomputable abbrev Dd:Φ:=["_law_cell_here"]
noncomputable abbrev BK:Str:="_law_share"
noncomputable abbrev acE:Φ:=["_law_cell_here","_law_xs","_law_bottom"]
theorem Ie:bK acE Dd (bH M6):=fsc
noncomputable abbrev aa7:Stmt:=top 91
noncomputable abbrev Ni:Φ:=["_law_cell_here","_law_x","_law_y"]
noncomputable abbrev P0:Str:="_law_pay"
noncomputable abbrev ahA:Φ:=["_law_cell_here","_law_x","_law_y"]
theorem afh:bK ahA Ni (bH aa7):=fsc
noncomputable abbrev Az:Stmt:=top 92
noncomputable abbrev G5:Φ:=["_law_cell_here","_law_many"]
noncomputable abbrev Hx:Str:="_law_door"
noncomputable abbrev uN:Φ:=["_law_cell_here","_law_many","_law_xs","_law_rooms_here","_law_sort","_law_pairs","_law_bottom","_law_part","_law_weights"]
theorem jx:bK uN G5 (bH Az):=fsc
noncomputable abbrev GF:Stmt:=top 93
noncomputable abbrev BZ:Φ:=["_law_script","_law_at","_law_many","_law_most"]
noncomputable abbrev Dt:Str:="_law_doors"
noncomputable abbrev Ww:Φ:=["_law_script","_law_at","_law_many","_law_most","_law_rooms_here","_law_first","_law_cells","_law_k","_law_cell_here","_law_room","_law_door_here"]
theorem jj:bK Ww BZ (bH GF):=fsc
noncomputable abbrev Dv:Stmt:=top 94
noncomputable abbrev Cw:Φ:=["_law_title","_law_door_here","_law_names_here"]
noncomputable abbrev CT:Str:="_law_built"
noncomputable abbrev Bk:Φ:=["_law_title","_law_door_here","_law_names_here","_law_told","_law_sort","_law_pay_here","_law_pairs"]
theorem yF:bK Bk Cw (bH Dv):=fsc
noncomputable abbrev PB:Stmt:=top 95
noncomputable abbrev Hw:Φ:=["_law_cell_here","_law_share_here","_law_rooms_here"]
noncomputable abbrev GR:Str:="_law_hall"
noncomputable abbrev VB:Φ:=["_law_cell_here","_law_share_here","_law_rooms_here","_law_names_here","_law_found","_law_k","_law_titles"]
theorem Bu:bK VB Hw (bH PB):=fsc
noncomputable abbrev Ij:Stmt:=top 96
noncomputable abbrev tX:Φ:=["_law_cell_here","_law_rooms_here"]
noncomputable abbrev tU:Str:="_law_chosen"
noncomputable abbrev abl:Φ:=["_law_cell_here","_law_rooms_here","_law_xs","_law_found","_law_k"]
theorem zj:bK abl tX (bH Ij):=fsc
noncomputable abbrev T4:Stmt:=top 97
noncomputable abbrev zf:Φ:=["_law_share_here","_law_door_here","_law_worths"]
noncomputable abbrev zA:Str:="_law_look"
noncomputable abbrev afz:Φ:=["_law_share_here","_law_door_here","_law_worths","_law_top","_law_bottom","_law_room","_law_chance","_law_part"]
theorem m_:bK afz zf (bH T4):=fsc
noncomputable abbrev Pz:Stmt:=top 98
noncomputable abbrev yK:Φ:=["_law_one","_law_other"]
noncomputable abbrev yE:Str:="_law_below"
noncomputable abbrev adS:Φ:=["_law_one","_law_other"]
theorem ZC:bK adS yK (bH Pz):=fsc
noncomputable abbrev Oe:Stmt:=top 99
noncomputable abbrev wJ:Φ:=["_law_found","_law_share_here","_law_rooms_here","_law_plan"]
noncomputable abbrev xu:Str:="_law_right"
noncomputable abbrev ab7:Φ:=["_law_found","_law_share_here","_law_rooms_here","_law_plan","_law_k","_law_due"]
theorem Dr:bK ab7 wJ (bH Oe):=fsc
noncomputable abbrev Uj:Stmt:=top 100
noncomputable abbrev G7:Φ:=["_law_cell_here"]
noncomputable abbrev Ho:Str:="_law_size"
noncomputable abbrev ae3:Φ:=["_law_cell_here","_law_xs"]
theorem WQ:bK ae3 G7 (bH Uj):=fsc
noncomputable abbrev Ad:Stmt:=top 101
noncomputable abbrev qQ:Φ:=["_law_cell_here","_law_many"]
noncomputable abbrev qP:Str:="_law_corridor"
noncomputable abbrev Vg:Φ:=["_law_cell_here","_law_many","_law_pay_here","_law_found","_law_k"]
theorem qY:bK Vg qQ (bH Ad):=fsc
noncomputable abbrev Oc:Stmt:=top 102
noncomputable abbrev Cg:Φ:=["_law_script"]
noncomputable abbrev Dz:Str:="_law_rooms"
noncomputable abbrev ac6:Φ:=["_law_script","_law_xs"]
theorem Ry:bK ac6 Cg (bH Oc):=fsc
noncomputable abbrev Hs:Stmt:=top 103
noncomputable abbrev Bo:Φ:=["_law_script","_law_rooms_here"]
noncomputable abbrev CV:Str:="_law_start"
noncomputable abbrev PL:Φ:=["_law_script","_law_rooms_here"]
theorem Za:bK PL Bo (bH Hs):=fsc
noncomputable abbrev vW:Stmt:=top 104
noncomputable abbrev oE:Φ:=["_law_found","_law_doors_here"]
noncomputable abbrev pL:Str:="_law_is_choice"
noncomputable abbrev S7:Φ:=["_law_found","_law_doors_here"]
theorem Ml:bK S7 oE (bH vW):=fsc
noncomputable abbrev MJ:Stmt:=top 105
noncomputable abbrev G9:Φ:=["_law_best_here","_law_share_here","_law_rooms_here"]
noncomputable abbrev G_:Str:="_law_best"
noncomputable abbrev Vu:Φ:=["_law_best_here","_law_share_here","_law_rooms_here","_law_k","_law_door_here"]
theorem Qs:bK Vu G9 (bH MJ):=fsc
noncomputable abbrev Mq:Stmt:=top 106
noncomputable abbrev Cm:Φ:=["_law_share_here","_law_rooms_here","_law_plan","_law_worths"]
noncomputable abbrev Bv:Str:="_law_ahead"
noncomputable abbrev adU:Φ:=["_law_share_here","_law_rooms_here","_law_plan","_law_worths","_law_found","_law_k","_law_due"]
theorem vY:bK adU Cm (bH Mq):=fsc
noncomputable abbrev oJ:Stmt:=top 107
noncomputable abbrev mJ:Φ:=["_law_some","_law_best_here"]
noncomputable abbrev mW:Str:="_law_none_above"
noncomputable abbrev uI:Φ:=["_law_some","_law_best_here"]
theorem Ke:bK uI mJ (bH oJ):=fsc
noncomputable abbrev V6:Stmt:=top 108
noncomputable abbrev VF:Φ:=["_law_script"]
noncomputable abbrev NK:Str:="law"
noncomputable abbrev aiZ:Φ:=["_law_script","_law_share_here","_law_rooms_here","_law_hall_here","_law_best_here","_law_plan","_law_numbers","_law_cell_here","_law_found"]
theorem sI:bK aiZ VF (bH V6):=fsc
noncomputable abbrev xW:Stmt:=fW 70 0
noncomputable abbrev j8:Φ:=["self","name","pay"]
noncomputable abbrev Bp:Str:="__init__"
noncomputable abbrev B_:Str:="Door.__init__"
noncomputable abbrev Rk:Φ:=["self","name","pay"]
theorem Mv:bK Rk j8 (bH xW):=fsc
noncomputable abbrev vQ:Stmt:=fW 70 1
noncomputable abbrev oF:Φ:=["self"]
noncomputable abbrev Bc:Str:="ways"
noncomputable abbrev Du:Str:="Door.ways"
noncomputable abbrev Q8:Φ:=["self"]
theorem Qi:bK Q8 oF (bH vQ):=fsc
noncomputable abbrev wH:Stmt:=fW 71 0
noncomputable abbrev pO:Φ:=["self","name","pay","room"]
noncomputable abbrev Bb:Str:="__init__"
noncomputable abbrev Bt:Str:="Sure.__init__"
noncomputable abbrev R8:Φ:=["self","name","pay","room"]
theorem Mg:bK R8 pO (bH wH):=fsc
noncomputable abbrev uP:Stmt:=fW 72 0
noncomputable abbrev gO:Φ:=["self","name","pay","pairs"]
noncomputable abbrev zH:Str:="__init__"
noncomputable abbrev zV:Str:="Mixed.__init__"
noncomputable abbrev Ox:Φ:=["self","name","pay","pairs"]
theorem KC:bK Ox gO (bH uP):=fsc
noncomputable abbrev wg:Stmt:=fW 73 0
noncomputable abbrev pJ:Φ:=["self","name","pay","chance","room","other"]
noncomputable abbrev Cp:Str:="__init__"
noncomputable abbrev Cj:Str:="Toss.__init__"
noncomputable abbrev Tj:Φ:=["self","name","pay","chance","room","other"]
theorem Oi:bK Tj pJ (bH wg):=fsc
noncomputable abbrev qN:Stmt:=fW 74 0
noncomputable abbrev oZ:Φ:=["self","name","pay","rooms"]
noncomputable abbrev BJ:Str:="__init__"
noncomputable abbrev Cd:Str:="Even.__init__"
noncomputable abbrev yr:Φ:=["self","name","pay","rooms"]
theorem Nz:bK yr oZ (bH qN):=fsc
noncomputable abbrev qT:Stmt:=fW 80 0
noncomputable abbrev o_:Φ:=["self","share","rooms"]
noncomputable abbrev Cy:Str:="__init__"
noncomputable abbrev Ck:Str:="Hall.__init__"
noncomputable abbrev xQ:Φ:=["self","share","rooms"]
theorem Qp:bK xQ o_ (bH qT):=fsc
noncomputable abbrev vX:Stmt:=fW 80 1
noncomputable abbrev iI:Φ:=["self"]
noncomputable abbrev Bs:Str:="size"
noncomputable abbrev Cr:Str:="Hall.size"
noncomputable abbrev Te:Φ:=["self"]
theorem Qd:bK Te iI (bH vX):=fsc
noncomputable abbrev lJ:Stmt:=fW 80 4
noncomputable abbrev gq:Φ:=["self","room"]
noncomputable abbrev qw:Str:="check_room"
noncomputable abbrev qd:Str:="Hall.check_room"
noncomputable abbrev BP:Φ:=["self","room"]
theorem z_:bK BP gq (bH lJ):=fsc
noncomputable abbrev ni:Stmt:=fW 80 6
noncomputable abbrev eX:Φ:=["self","room"]
noncomputable abbrev wZ:Str:="offers"
noncomputable abbrev wY:Str:="Hall.offers"
noncomputable abbrev rF:Φ:=["self","room"]
theorem IV:bK rF eX (bH ni):=fsc
structure Adr where
 Door:Addr
 Sure:Addr
 Mixed:Addr
 Toss:Addr
 Even:Addr
 Hall:Addr
 NOUGHT:Addr
 ONE:Addr
 Door_init:Addr
 Door_ways:Addr
 Sure_init:Addr
 Mixed_init:Addr
 Toss_init:Addr
 Even_init:Addr
 Hall_init:Addr
 Hall_size:Addr
 Hall_check_room:Addr
 Hall_offers:Addr
structure Txt(K:Frag)(mg:Str->Ω)(D:Adr):Prop where
 ZP:mg "Door"=some (.ref D.Door)
 afP:mg "Even"=some (.ref D.Even)
 af0:mg "Hall"=some (.ref D.Hall)
 Od:mg "Mixed"=some (.ref D.Mixed)
 ji:mg "NOUGHT"=some (.ref D.NOUGHT)
 Fy:mg "ONE"=some (.ref D.ONE)
 agN:mg "Sure"=some (.ref D.Sure)
 afG:mg "Toss"=some (.ref D.Toss)
 IW:∃u,mg "LONGEST_WORD"=some u/\RelV (.int 8) u
 gP:∀H,SqT K H D.NOUGHT [.int 0,.int 1]
 vL:∀H,SqT K H D.ONE [.int 1,.int 1]
 abd:Cls K D.Door
 Nk:Meth K D.Door "ways" D.Door_ways
 KR:cA K D.Door "leads"
 O6:cA K D.Door "name"
 Gb:cA K D.Door "numbers"
 Gu:cA K D.Door "offered"
 RN:cA K D.Door "pay"
 Ky:cA K D.Door "share"
 adA:Mk K D.Sure D.Sure_init
 abe:Cls K D.Sure
 Pa:Meth K D.Sure "ways" D.Door_ways
 K3:cA K D.Sure "leads"
 NP:cA K D.Sure "name"
 FT:cA K D.Sure "numbers"
 Gw:cA K D.Sure "offered"
 Sh:cA K D.Sure "pay"
 J_:cA K D.Sure "share"
 aaH:Mk K D.Mixed D.Mixed_init
 Yl:Cls K D.Mixed
 Kh:Meth K D.Mixed "ways" D.Door_ways
 Jo:cA K D.Mixed "leads"
 J1:cA K D.Mixed "name"
 Ea:cA K D.Mixed "numbers"
 Es:cA K D.Mixed "offered"
 Oa:cA K D.Mixed "pay"
 Ip:cA K D.Mixed "share"
 ab9:Mk K D.Toss D.Toss_init
 aak:Cls K D.Toss
 Nj:Meth K D.Toss "ways" D.Door_ways
 K4:cA K D.Toss "leads"
 NT:cA K D.Toss "name"
 Ga:cA K D.Toss "numbers"
 Gf:cA K D.Toss "offered"
 S_:cA K D.Toss "pay"
 Kv:cA K D.Toss "share"
 ac1:Mk K D.Even D.Even_init
 aaA:Cls K D.Even
 Pn:Meth K D.Even "ways" D.Door_ways
 Ko:cA K D.Even "leads"
 Mt:cA K D.Even "name"
 Gn:cA K D.Even "numbers"
 FZ:cA K D.Even "offered"
 Sw:cA K D.Even "pay"
 Kc:cA K D.Even "share"
 adt:Mk K D.Hall D.Hall_init
 jW:Cls K D.Hall
 Ao:Meth K D.Hall "check_room" D.Hall_check_room
 lG:Meth K D.Hall "offers" D.Hall_offers
 u5:Meth K D.Hall "size" D.Hall_size
 J2:cA K D.Hall "leads"
 Ot:cA K D.Hall "name"
 Gj:cA K D.Hall "numbers"
 Gm:cA K D.Hall "offered"
 RD:cA K D.Hall "pay"
 K1:cA K D.Hall "share"
 BL:Fw K D.Door "__init__" D.Door_init
 PX:Ay K Bp B_ xW j8 D.Door_init
 Qk:Ay K Bc Du vQ oF D.Door_ways
 Ql:Ay K Bb Bt wH pO D.Sure_init
 zJ:Fw K D.Mixed "__init__" D.Mixed_init
 Ka:Ay K zH zV uP gO D.Mixed_init
 Ny:Ay K Cp Cj wg pJ D.Toss_init
 Pu:Ay K BJ Cd qN oZ D.Even_init
 Pk:Ay K Cy Ck qT o_ D.Hall_init
 Nu:Ay K Bs Cr vX iI D.Hall_size
 z9:Ay K qw qd lJ gq D.Hall_check_room
 Jy:Ay K wZ wY ni eX D.Hall_offers
 RQ:mg "abs"=none
 aas:mg "all"=none
 ahl:mg "any"=none
 V1:mg "bool"=none
 nH:mg "enumerate"=none
 Xi:mg "int"=none
 cT:mg "isinstance"=none
 dF:mg "len"=none
 uo:mg "list"=none
 dZ:mg "range"=none
 aax:mg "sorted"=none
 ajl:mg "str"=none
 Zu:mg "sum"=none
 O8:mg "tuple"=none
 Lk:mg "zip"=none
 Vd:cJ K mg ig Ba iy
 YC:cJ K mg iz En iu
 acH:cJ K mg nJ Oo nC
 U7:cJ K mg jT Ah jQ
 aeB:cJ K mg Dg Vp Ci
 acz:cJ K mg tK Qh sZ
 adg:cJ K mg vM Ob vR
 aeS:cJ K mg G4 T3 Hv
 abQ:cJ K mg qy Qf qz
 adX:cJ K mg pZ Gy pW
 f_total:cJ K mg Bx M_ DK
 Vt:cJ K mg qX zY q_
 Qm:cJ K mg nu ou mQ
 agu:cJ K mg Hj Vq Gz
 Oq:cJ K mg gK uT gM
 Kr:cJ K mg kj jt kY
 Kp:cJ K mg jY rT lQ
 Zx:cJ K mg tH BR tV
 Q5:cJ K mg oR qI oK
 Vr:cJ K mg qR vg rA
 S5:cJ K mg pH xU o8
 QM:cJ K mg kO w6 lM
 Jp:cJ K mg jB g_ jG
 Qa:cJ K mg mF uD mU
 adh:cJ K mg wu N_ yC
 Sq:cJ K mg o9 yx pB
 JK:cJ K mg jA qe jw
 Yx:cJ K mg uK za uJ
 Vn:cJ K mg qG Ag qZ
 KZ:cJ K mg kh mL lA
 RZ:cJ K mg oH qH oM
 Xk:cJ K mg uw EY uy
 RP:cJ K mg pI yD oU
 Ks:cJ K mg j4 jh kI
 Kq:cJ K mg j7 sS k_
 Jf:cJ K mg jD lg jC
 R4:cJ K mg o7 yG pN
 Ro:cJ K mg lE qL lB
 KJ:cJ K mg lD rH jZ
 abr:cJ K mg yO BX yQ
 Vj:cJ K mg nP Am nF
 Yj:cJ K mg vd Fd u9
 X3:cJ K mg mD yS lZ
 OD:cJ K mg jk tZ jg
 CP:cJ K mg fj lH eZ
 H_:cJ K mg gG pX gH
 Kw:cJ K mg jX mZ kW
 Km:cJ K mg lO mO kZ
 J7:cJ K mg j5 rP lK
 Nf:cJ K mg mH uQ mK
 Gq:cJ K mg iJ nT iT
 R5:cJ K mg oG yH oW
 afj:cJ K mg uW Va uX
 abA:cJ K mg fH JN fJ
 ajC:cJ K mg JX ZR Je
 ZM:cJ K mg mC Jh lV
 Ri:cJ K mg pA yM pP
 Nt:cJ K mg m9 pK nq
 agi:cJ K mg GQ s_same Hu
 ad5:cJ K mg Dc yV CW
 ad1:cJ K mg BK M6 Dd
 ajD:cJ K mg P0 aa7 Ni
 aeE:cJ K mg Hx Az G5
 acY:cJ K mg Dt GF BZ
 adJ:cJ K mg CT Dv Cw
 agB:cJ K mg GR PB Hw
 aa5:cJ K mg tU Ij tX
 f_look:cJ K mg zA T4 zf
 adZ:cJ K mg yE Pz yK
 adB:cJ K mg xu Oe wJ
 agA:cJ K mg Ho Uj G7
 Ui:cJ K mg qP Ad qQ
 acC:cJ K mg Dz Oc Cg
 ace:cJ K mg CV Hs Bo
 Q_:cJ K mg pL vW oE
 agC:cJ K mg G_ MJ G9
 adK:cJ K mg Bv Mq Cm
 Qj:cJ K mg mW oJ mJ
def Fam(D:Adr)(C:Addr):Prop:=C=D.Door\/C=D.Sure\/C=D.Mixed\/C=D.Toss\/C=D.Even\/C=D.Hall
theorem Txt.cl{K:Frag}{mg:Str->Ω}{D:Adr}(T:Txt K mg D):∀C,Fam D C->Cls K C:=by
 rintro C (rfl|rfl|rfl|rfl|rfl|rfl)
 .exact T.abd
 .exact T.abe
 .exact T.Yl
 .exact T.aak
 .exact T.aaA
 .exact T.jW
theorem Txt.Ce{K:Frag}{mg:Str->Ω}{D:Adr}(T:Txt K mg D):∀C,Fam D C->cA K C "leads":=by
 rintro C (rfl|rfl|rfl|rfl|rfl|rfl)
 .exact T.KR
 .exact T.K3
 .exact T.Jo
 .exact T.K4
 .exact T.Ko
 .exact T.J2
theorem Txt.Hq{K:Frag}{mg:Str->Ω}{D:Adr}(T:Txt K mg D):∀C,Fam D C->cA K C "name":=by
 rintro C (rfl|rfl|rfl|rfl|rfl|rfl)
 .exact T.O6
 .exact T.NP
 .exact T.J1
 .exact T.NT
 .exact T.Mt
 .exact T.Ot
theorem Txt.z6{K:Frag}{mg:Str->Ω}{D:Adr}(T:Txt K mg D):∀C,Fam D C->cA K C "numbers":=by
 rintro C (rfl|rfl|rfl|rfl|rfl|rfl)
 .exact T.Gb
 .exact T.FT
 .exact T.Ea
 .exact T.Ga
 .exact T.Gn
 .exact T.Gj
theorem Txt.JW{K:Frag}{mg:Str->Ω}{D:Adr}(T:Txt K mg D):∀C,Fam D C->cA K C "offered":=by
 rintro C (rfl|rfl|rfl|rfl|rfl|rfl)
 .exact T.Gu
 .exact T.Gw
 .exact T.Es
 .exact T.Gf
 .exact T.FZ
 .exact T.Gm
theorem Txt.Zh{K:Frag}{mg:Str->Ω}{D:Adr}(T:Txt K mg D):∀C,Fam D C->cA K C "pay":=by
 rintro C (rfl|rfl|rfl|rfl|rfl|rfl)
 .exact T.RN
 .exact T.Sh
 .exact T.Oa
 .exact T.S_
 .exact T.Sw
 .exact T.RD
theorem Txt.Ih{K:Frag}{mg:Str->Ω}{D:Adr}(T:Txt K mg D):∀C,Fam D C->cA K C "share":=by
 rintro C (rfl|rfl|rfl|rfl|rfl|rfl)
 .exact T.Ky
 .exact T.J_
 .exact T.Ip
 .exact T.Kv
 .exact T.Kc
 .exact T.K1
def dh(D:Adr)(C:Addr):Prop:=C=D.Door\/C=D.Sure\/C=D.Mixed\/C=D.Toss\/C=D.Even
theorem dh.fam{D:Adr}{C:Addr}(h:dh D C):Fam D C:=by
 unfold dh at h;unfold Fam;rcases h with h|h|h|h|h<;>simp[h]
theorem Txt.Pg{K:Frag}{mg:Str->Ω}{D:Adr}(T:Txt K mg D):∀C,dh D C->Meth K C "ways" D.Door_ways:=by
 rintro C (rfl|rfl|rfl|rfl|rfl)
 .exact T.Nk
 .exact T.Pa
 .exact T.Kh
 .exact T.Nj
 .exact T.Pn
section
variable{P:Program}{w:World}{K:Frag}{mg:Str->Ω}{base:Heap}{D:Adr}{f:Addr}{fd:FuncData}
noncomputable abbrev frT(f:Β):T:=.tup [.int f.1,.int f.2]
noncomputable def isW:T->Option Bool
 |.int _=>some true
 |.bl _=>some false
 |.non=>some false
 |.str _=>some false
 |.tup _=>some false
 |.lst _=>some false
 |_=>none
def nM:ST:=λts q=>∃t b,ts=[t]/\isW t=some b/\q (.fz (.bl b))
theorem RL(F:Fun K ig ig Ba f fd)(T:Txt K mg D):cj P w K mg base CX0 1 f fd iy (spT K nM):=by
 refine F.okT TJ (λts R hP=>by obtain⟨t,b,e,_⟩:=hP;exact e ▸ rfl) λaf A outer s H E hr=>?_;refine⟨_,(bG (bM (yI (j6 .int (qv 0) (by rfl) T.cT (by rfl) T.Xi boot_int) (Fe (VR (j6 .bool (qv 0) (by rfl) T.cT (by rfl) T.V1 boot_bool)))))),?_⟩;rintro _ R ⟨t,b,rfl,h,q⟩;cases t<;>cases h<;>exact q
def mj:ST:=λts q=>∃a b,ts=[.int a,.int b]/\q (.fz (.int (Int.gcd a b)))
theorem U6(F:Fun K iz iz En f fd)(T:Txt K mg D):cj P w K mg base CX0 1 f fd iu (spT K mj):=by
 refine F.okT lY (λts R hP=>by obtain⟨t,b,e,_⟩:=hP;exact e ▸ rfl) λaf A outer s H E hr=>?_;refine⟨_,(bF (bO 2 lY.nd (Or.inl rfl) (bR HB (by rfl) T.RQ boot_abs (bx (qv 0) bC)))
  (bF (bO 3 lY.nd (Or.inl rfl) (bR HB (by rfl) T.RQ boot_abs (bx (qv 1) bC)))
  (bF (Jv VZ (bY (nQ hr.units) (qv 3) bA)
  (bF (bO 4 lY.nd (Or.inl rfl) (bL cC (qv 2) (qv 3)))
  (bF (bO 2 lY.nd (Or.inl rfl) (qv 3))
  (bG (bO 3 lY.nd (Or.inl rfl) (qv 4))))))
  (bG (bM (qv 2)))))),?_⟩
 rintro _ R ⟨a,b,rfl,q⟩;refine⟨λm o=>∃(l r:Nat)(x:OT),o=[.fz (.int a),.fz (.int b),.fz (.int l),.fz (.int r),x]/\Nat.gcd l r=Int.gcd a b/\m=r,⟨_,_,_,_,rfl,rfl,rfl⟩,?_⟩;rintro m _ ⟨l,r,x,rfl,hg,hm⟩;refine sw2 (λh=>?_) λh=>?_
 .have hr:r≠0:=by intro z;subst z;cases h
  refine⟨λo=>∃x,o=[.fz (.int a),.fz (.int b),.fz (.int r),.fz (.int ((l%r:Nat):Int)),x],?_,?_⟩
  .rintro _ ⟨x,rfl⟩;exact⟨l%r,by have:=Nat.mod_lt l (Nat.pos_of_ne_zero hr);lia,r,l%r,x,rfl,(Nat.gcd_comm r (l%r)).trans ((Nat.gcd_rec r l).symm.trans ((Nat.gcd_comm r l).trans hg)),rfl⟩
  .exact⟨by lia,_,by rw[Int.natCast_emod];rfl⟩
 .have hr:r=0:=by
   by_cases z:r=0
   .exact z
   .have:(decide ((r:Int)=0))=false:=Zp (by lia);rw[show xr true (decide ((r:Int)=0)) = !decide ((r:Int)=0)from rfl,this]at h;cases h
  subst hr;rw[Nat.gcd_zero_right]at hg;rw[<- hg]at q;exact q
structure Low(t b x y:Int):Prop where
 pos:0<y
 gcd:Int.gcd x y=1
 eq:x*b=t*y
 lx:x.natAbs<=t.natAbs
 ly:y.natAbs<=b.natAbs
theorem Hy{c q:Int}(h:c≠0):Int.fdiv (c*q) c=q:=by
 rw[Int.fdiv_eq_ediv_of_dvd (Int.dvd_mul_right c q),Zzz _ h]
theorem Jk{c q:Int}(h:c≠0):q.natAbs<=(c*q).natAbs:=by
 rw[VX];exact Zzr _ (by lia)
theorem xg{t b c:Int}(hb:b≠0)(hc:c≠0)(hg:c.natAbs=Int.gcd t b)(hs:0<c*b):Low t b (Int.fdiv t c) (Int.fdiv b c):=by
 have d1:c ∣ t:=Int.natAbs_dvd.mp (by rw[hg];exact Int.gcd_dvd_left t b);have d2:c ∣ b:=Int.natAbs_dvd.mp (by rw[hg];exact Qr t b);obtain⟨x,rfl⟩:=d1;obtain⟨y,rfl⟩:=d2;rw[Hy hc,Hy hc];refine⟨?_,?_,?_,Jk hc,Jk hc⟩
 .rw[<- Int.mul_assoc]at hs;have hp:0<c*c:=by
   rcases Int.lt_or_lt_of_ne hc with z|z
   .exact Int.mul_pos_of_neg_of_neg z z
   .exact XZ z z
  exact Int.pos_of_mul_pos_right hs hp
 .rw[Int.gcd_mul_left]at hg;have hp:0<c.natAbs:=by lia
  exact Nat.eq_of_mul_eq_mul_left hp (by rw[Nat.mul_one];exact hg.symm)
 .rw[Int.mul_left_comm,Int.mul_assoc]
theorem mX{a b:Int}(hb:b≠0):(0:Int)<(Int.gcd a b:Nat):=by
 have:=Zzt a hb;lia
theorem LQ{i j:Int}(h:i.natAbs<=j.natAbs)(k:Bd j):Bd i:=Y3 h k
theorem aam{i:Int}(h:Bd i):Bd (-i):=by unfold Bd at *;rw[Int.natAbs_neg];exact h
theorem Um{a b:Int}(hb:b≠0)(h:Bd b):Bd ((Int.gcd a b:Nat):Int):=LQ (by
 have:=UY (by lia) (Int.gcd_dvd_natAbs_right a b);omega) h
def sY:ST:=λts q=>∃t b,ts=[.int t,.int b]/\b≠0/\Bd b/\∀x y,Low t b x y->q (.fz (frT (x,y)))
theorem ZL(F:Fun K nJ nJ Oo f fd)(T:Txt K mg D)(dN:OkT P w K mg base 1 ig iy nM)(dX:OkT P w K mg base 1 iz iu mj):cj P w K mg base CX0 2 f fd nC (spT K sY):=by
 refine F.okT JL (λts R hP=>by obtain⟨t,b,e,_⟩:=hP;exact e ▸ rfl) λaf A outer s H E hr=>?_;refine⟨_,(bF (cB (QW.qt (iZ (dB (cV (bI dN hr.md (by rfl) (bx (qv 0) bC)))) (gR (dB (cV (bI dN hr.md (by rfl) (bx (qv 1) bC)))))))
  (bG fQ)
  bT)
  (bF (cB (bY (go_eq hr.units) (qv 1) bA)
  (bG fQ)
  bT)
  (bF (bO 2 JL.nd (Or.inl rfl) (bI dX hr.md (by rfl) (bx (qv 0) (bx (qv 1) bC))))
  (bF (cB (bY vK (qv 1) bA)
  (bG (bO 2 JL.nd (Or.inl rfl) (Aa (qv 2))))
  bT)
  (bG (bM (dg (bx (bL lX (qv 0) (qv 2)) (bx (bL lX (qv 1) (qv 2)) bC))))))))),?_⟩
 rintro _ R ⟨t,b,rfl,hb,hd,q⟩;refine⟨_,_,rfl,rfl,_,_,rfl,rfl,?_⟩;have g0:=mX (a:=t) hb;have g1:=Um (a:=t) hb hd;refine swF (Zp hb) ⟨_,_,rfl,swD (λhn=>⟨⟨by omega,aam g1⟩,⟨by omega,aam g1⟩,q _ _ (xg hb (by omega) (by lia) (Int.mul_pos_of_neg_of_neg (by lia) hn))⟩) λhn=>⟨⟨by exact WS g0,g1⟩,⟨by exact WS g0,g1⟩,q _ _ (xg hb (WS g0) (by lia) (XZ g0 (by lia)))⟩⟩
noncomputable abbrev frR(r:Rat):T:=.tup [.int r.num,.int r.den]
theorem iK{t b x y:Int}(h:Low t b x y)(hb:b≠0):frT (x,y)=frR (Rat.divInt t b):=by
 have hy:=h.pos;have e:Rat.divInt t b=⟨x,y.toNat,by lia,by have:=h.gcd;unfold Int.gcd at this;rw[show y.toNat=y.natAbs by lia];exact this⟩:=by
  rw[Rat.mk_eq_divInt,show((y.toNat:Nat):Int)=y by exact Int.toNat_of_nonneg (XY hy)];exact(QY hb (WS hy)).mpr h.eq.symm
 rw[e];show T.tup [.int x,.int y]=.tup [.int x,.int (y.toNat:Nat)];rw[show((y.toNat:Nat):Int)=y by exact Int.toNat_of_nonneg (XY hy)]
theorem rd(r:Rat):Rat.divInt r.num r.den=r:=Rat.num_divInt_den r
theorem jK(r:Rat):((r.den:Nat):Int)≠0:=by have:=r.den_pos;lia
def Bq(r:Rat):Prop:=Bd r.num/\Bd (r.den:Nat)
def Nh:ST:=λts q=>∃a b:Rat,ts=[frR a,frR b]/\Bq a/\Bq b/\Bd ((a.den:Int)*b.den)/\q (.fz (frR (a+b)))
def Dj:ST:=λts q=>∃a b:Rat,ts=[frR a,frR b]/\Bq a/\Bq b/\Bd ((a.den:Int)*b.den)/\q (.fz (frR (a-b)))
def JD:ST:=λts q=>∃a b:Rat,ts=[frR a,frR b]/\Bq a/\Bq b/\Bd ((a.den:Int)*b.den)/\q (.fz (frR (a*b)))
def Ws:ST:=λts q=>∃a b:Rat,ts=[frR a,frR b]/\b≠0/\Bq a/\Bq b/\Bd ((a.den:Int)*b.num)/\q (.fz (frR (a/b)))
def vO:ST:=λts q=>∃a b:Rat,ts=[frR a,frR b]/\Bq a/\Bq b/\q (.fz (.bl (decide (a<b))))
theorem lU{a b:Int}(ha:a≠0)(hb:b≠0):a*b≠0:=λz=>(Int.mul_eq_zero.mp z).elim ha hb
section
variable(dU:OkT P w K mg base 2 nJ nC sY)
include dU
theorem adx(F:Fun K Dg Dg Vp f fd):cj P w K mg base CX0 3 f fd Ci (spT K Nh):=by
 refine F.okT acg (λts R hP=>by obtain⟨t,b,e,_⟩:=hP;exact e ▸ rfl) λaf A outer s H E hr=>?_;refine⟨_,(bG (bM (bI dU hr.md (by rfl) (bx (bL cR (bL cG (bJ (qv 0) bA) (bJ (qv 1) bA)) (bL cG (bJ (qv 1) bA) (bJ (qv 0) bA))) (bx (bL cG (bJ (qv 0) bA) (bJ (qv 1) bA)) bC))))),?_⟩;rintro _ R ⟨a,b,rfl,ha,hb,hd,q⟩;refine⟨⟨ha.1,hb.2⟩,⟨hb.1,ha.2⟩,⟨ha.2,hb.2⟩,_,_,rfl,lU (jK a) (jK b),hd,λx y l=>?_⟩;rw[iK l (lU (jK a) (jK b)),<- JS _ _ (jK a) (jK b),rd,rd];exact q
theorem Zo(F:Fun K tK tK Qh f fd):cj P w K mg base CX0 3 f fd sZ (spT K Dj):=by
 refine F.okT YZ (λts R hP=>by obtain⟨t,b,e,_⟩:=hP;exact e ▸ rfl) λaf A outer s H E hr=>?_;refine⟨_,(bG (bM (bI dU hr.md (by rfl) (bx (bL t_ (bL cG (bJ (qv 0) bA) (bJ (qv 1) bA)) (bL cG (bJ (qv 1) bA) (bJ (qv 0) bA))) (bx (bL cG (bJ (qv 0) bA) (bJ (qv 1) bA)) bC))))),?_⟩;rintro _ R ⟨a,b,rfl,ha,hb,hd,q⟩;refine⟨⟨ha.1,hb.2⟩,⟨hb.1,ha.2⟩,⟨ha.2,hb.2⟩,_,_,rfl,lU (jK a) (jK b),hd,λx y l=>?_⟩;rw[iK l (lU (jK a) (jK b)),<- Rat.divInt_sub_divInt _ _ (jK a) (jK b),rd,rd];exact q
theorem abg(F:Fun K vM vM Ob f fd):cj P w K mg base CX0 3 f fd vR (spT K JD):=by
 refine F.okT YQ (λts R hP=>by obtain⟨t,b,e,_⟩:=hP;exact e ▸ rfl) λaf A outer s H E hr=>?_;refine⟨_,(bG (bM (bI dU hr.md (by rfl) (bx (bL cG (bJ (qv 0) bA) (bJ (qv 1) bA)) (bx (bL cG (bJ (qv 0) bA) (bJ (qv 1) bA)) bC))))),?_⟩;rintro _ R ⟨a,b,rfl,ha,hb,hd,q⟩;refine⟨⟨ha.1,hb.1⟩,⟨ha.2,hb.2⟩,_,_,rfl,lU (jK a) (jK b),hd,λx y l=>?_⟩;rw[iK l (lU (jK a) (jK b)),<- QU,rd,rd];exact q
theorem adD(F:Fun K G4 G4 T3 f fd):cj P w K mg base CX0 3 f fd Hv (spT K Ws):=by
 refine F.okT acv (λts R hP=>by obtain⟨t,b,e,_⟩:=hP;exact e ▸ rfl) λaf A outer s H E hr=>?_;refine⟨_,(bG (bM (bI dU hr.md (by rfl) (bx (bL cG (bJ (qv 0) bA) (bJ (qv 1) bA)) (bx (bL cG (bJ (qv 0) bA) (bJ (qv 1) bA)) bC))))),?_⟩;rintro _ R ⟨a,b,rfl,h0,ha,hb,hd,q⟩;have nb:b.num≠0:=λz=>h0 (by rw[<- rd b,z];exact TK _);refine⟨⟨ha.1,hb.2⟩,⟨ha.2,hb.1⟩,_,_,rfl,lU (jK a) nb,hd,λx y l=>?_⟩;rw[iK l (lU (jK a) nb),<- QU,rd,<- Rat.inv_def,<- Rat.div_def];exact q
end
theorem aaB(F:Fun K qy qy Qf f fd):cj P w K mg base CX0 1 f fd qz (spT K vO):=by
 refine F.okT Zk (λts R hP=>by obtain⟨t,b,e,_⟩:=hP;exact e ▸ rfl) λaf A outer s H E hr=>?_;refine⟨_,(bG (bM (nW vK (bL cG (bJ (qv 0) bA) (bJ (qv 1) bA)) (bL cG (bJ (qv 1) bA) (bJ (qv 0) bA))))),?_⟩;rintro _ R ⟨a,b,rfl,ha,hb,q⟩;refine⟨⟨ha.1,hb.2⟩,⟨hb.1,ha.2⟩,?_⟩;rw[show decide (a<b)=decide (a.num*(b.den:Int)<b.num*(a.den:Int))from decide_eq_decide.mpr (Rat.lt_iff a b)]at q;exact q
def qU:ST:=λts q=>∃r:Rat,ts=[frR r]/\q (.fz (.bl true))
theorem QZ(F:Fun K jT jT Ah f fd)(T:Txt K mg D)(dN:OkT P w K mg base 1 ig iy nM)(dX:OkT P w K mg base 1 iz iu mj):cj P w K mg base CX0 2 f fd jQ (spT K qU):=by
 refine F.okT v8 (λts R hP=>by obtain⟨t,e,_⟩:=hP;exact e ▸ rfl) λaf A outer s H E hr=>?_;refine⟨_,(bF (cB (QW.qt (iZ (dB (cV (j6 .tuple (qv 0) (by rfl) T.cT (by rfl) T.O8 boot_tuple))) (gR (bY (nQ hr.units) (bR cN (by rfl) T.dF WH (bx (qv 0) bC)) bA))))
  (bG (bM j9))
  bT)
  (bF (bO 1 v8.nd (Or.inl rfl) (bJ (qv 0) bA))
  (bF (bO 2 v8.nd (Or.inl rfl) (bJ (qv 0) bA))
  (bF (cB (QW.qt (iZ (dB (cV (bI dN hr.md (by rfl) (bx (qv 1) bC)))) (gR (dB (cV (bI dN hr.md (by rfl) (bx (qv 2) bC)))))))
  (bG (bM j9))
  bT)
  (bG (bM (yI (nW aeh (qv 2) bA) (Fe (nW (go_eq hr.units) (bI dX hr.md (by rfl) (bx (qv 1) (bx (qv 2) bC))) bA))))))))),?_⟩
 rintro _ R ⟨r,rfl,q⟩;refine⟨_,_,rfl,rfl,_,_,rfl,rfl,?_⟩;have:=r.den_pos;refine swT (Zs (by lia)) ⟨_,_,rfl,?_⟩;rw[show Int.gcd r.num r.den=1 from r.reduced];exact q
noncomputable def anu:List Rat->Nat
 |[]=>1
 |r::rs=>Nat.lcm r.den (anu rs)
noncomputable def cI(n:Nat):List Rat->Nat
 |[]=>n
 |r::rs=>cI (Nat.lcm n r.den) rs
theorem d9:∀(rs:List Rat){n:Nat},0<n->0<cI n rs
 |[],_,h=>h
 |r::rs,_,h=>d9 rs (Nat.lcm_pos h r.den_pos)
theorem h_:∀(rs:List Rat){n:Nat},n ∣ cI n rs/\∀r∈rs,r.den ∣ cI n rs
 |[],n=>⟨Nat.dvd_refl n,λ_ z=>(nomatch z)⟩
 |r::rs,n=>by
  obtain⟨a,b⟩:=h_ rs (n:=Nat.lcm n r.den);refine⟨TH (Nat.dvd_lcm_left ..) a,λx hx=>?_⟩;rcases YU.mp hx with rfl|z
  .exact TH (Nat.dvd_lcm_right ..) a
  .exact b x z
theorem jJ:∀(rs:List Rat){n m:Nat},n ∣ m->(∀r∈rs,r.den ∣ m)->cI n rs ∣ m
 |[],_,_,h,_=>h
 |r::rs,_,_,h,k=>jJ rs (Nat.lcm_dvd h (k r (aO ..))) λx hx=>k x (aJ _ hx)
theorem Hz:∀(as bs:List Rat)(n:Nat),cI n (as++bs)=cI (cI n as) bs
 |[],_,_=>rfl
 |_::as,bs,_=>Hz as bs _
noncomputable def tops(B:Nat)(rs:List Rat):List Int:=rs.map λr=>r.num*((B/r.den:Nat):Int)
theorem V0{m n:Nat}(h:Bd (n:Int))(l:m<=n):Bd (m:Int):=LQ (by omega) h
theorem abD(n d:Nat):(Int.fdiv (n:Int) ((Int.gcd n d:Nat):Int))*d=((Nat.lcm n d:Nat):Int):=by
 rw[show Int.gcd (n:Int) (d:Int)=Nat.gcd n d from rfl,Int.fdiv_eq_ediv_of_dvd (Int.natCast_dvd_natCast.mpr (Nat.gcd_dvd_left n d)),<- Int.natCast_ediv,<- TW,Nat.lcm,Nat.div_mul_right_comm (Nat.gcd_dvd_left n d)]
theorem Ir(m n:Nat):Int.fdiv (m:Int) (n:Int)=((m/n:Nat):Int):=by rw[Zzv _ (Wp _)];rfl
def xP:ST:=λts q=>∃rs:List Rat,ts=[.lst (rs.map frR)]/\rs.length<=1000/\(∀r∈rs,Bd r.num)/\Bd (cI 1 rs:Nat)/\q (.fz (.tup [.lst ((tops (cI 1 rs) rs).map T.int),.int (cI 1 rs:Nat)]))
theorem Y9(F:Fun K pZ pZ Gy f fd)(dX:OkT P w K mg base 1 iz iu mj):cj P w K mg base CX0 2 f fd pW (spT K xP):=by
 refine F.okT Bh (λts R hP=>by obtain⟨t,e,_⟩:=hP;exact e ▸ rfl) λaf A outer s H E hr=>?_;refine⟨_,(bF (bO 1 Bh.nd (Or.inr rfl) bA)
  (bF (dJ VZ rfl (cH (qv 0)) (b_ (n:=99) 2 Bh.nd (Or.inl rfl))
  (bG (bO 1 Bh.nd (Or.inr rfl) (bL cG (bL lX (qv 1) (bI dX hr.md (by rfl) (bx (qv 1) (bx (bJ (qv 2) bA) bC)))) (bJ (qv 2) bA)))))
  (bG (bM (dg (bx (dH (bH Gy) W0 ["fractions","bottom","?one"] ["one"] (cH (qv 0)) (eU (i:=0)) cF (bL cG (bJ (qv 0) bA) (bL lX (qv 2) (bJ (qv 0) bA)))) (bx (qv 1) bC))))))),?_⟩
 rintro _ R ⟨rs,rfl,rl,hn,hB,q⟩;refine f9 frR rs (λas o=>∃x,o=[.fz (.lst (rs.map frR)),.fz (.int (cI 1 as:Nat)),x]) ⟨_,rfl⟩ ?_ ?_
 .rintro as a bs _ e ⟨x,rfl⟩;have d1:=(h_ (a::bs) (n:=cI 1 as)).1;have el:cI 1 rs=cI (cI 1 as) (a::bs):=by rw[e];exact Hz as (a::bs) 1
  have hp:=d9 as VS;have hB0:=d9 rs VS;have b1:Bd (cI 1 as:Nat):=V0 hB (el ▸ UY (el ▸ hB0) d1);have b2:Bd (a.den:Nat):=V0 hB (UY hB0 ((h_ rs).2 a (e ▸ by simp)));refine⟨_,_,rfl,⟨by have:=mX (a:=(cI 1 as:Nat)) (jK a);exact WS this,Um (jK a) b2⟩,⟨LQ ?_ b1,b2⟩,.fz (frR a),?_⟩
  .rw[show Int.gcd ((cI 1 as:Nat):Int) (a.den:Int)=Nat.gcd (cI 1 as) a.den from rfl,Ir];exact Nat.div_le_self ..
  .rw[abD,Hz]
   rfl
 .rintro _ ⟨x,rfl⟩;refine⟨aL (by simpa using rl) (by decide),comp_map frR (λr=>.int (r.num*((cI 1 rs/r.den:Nat):Int))) rs (λr hr N M hN=>?_) ?_⟩
  .have b2:Bd (r.den:Nat):=V0 hB (UY (d9 rs VS) ((h_ rs).2 r hr));refine⟨⟨jK r,b2⟩,⟨hn r hr,LQ ?_ hB⟩,?_⟩
   .rw[Ir];exact Nat.div_le_self ..
   .rw[Ir];exact hN
  .have:(tops (cI 1 rs) rs).map T.int=rs.map (λr=>.int (r.num*((cI 1 rs/r.den:Nat):Int))):=by unfold tops;rw[WP];rfl
   rw[this]at q;exact q
noncomputable def Xa(l:List Nat):Bool:=decide (1<=l.length)&&decide (l.length<=8)&&l.all λc=>decide (97<=c)&&decide (c<=122)
abbrev Wd(n:Str):Prop:=Xa n.cps.toList=true
theorem Wd.len{n:Str}(h:Wd n):1<=n.length/\n.length<=8:=by
 unfold Wd Xa at h;simp only[Q2,decide_eq_true_eq,Array.length_toList]at h;exact h.1
theorem Wy(c d:Nat):(!decide ((⟨#[d]⟩ : Str).cps.toList<(⟨#[c]⟩ : Str).cps.toList))=decide (c<=d):=by
 have:((⟨#[d]⟩ : Str).cps.toList<(⟨#[c]⟩ : Str).cps.toList)↔d<c:=by
  show[d]<[c]↔d<c;constructor
  .intro h;cases h with
   |rel h=>exact h
   |cons h=>cases h
  .exact λh=>.rel h
 rw[show decide ((⟨#[d]⟩ : Str).cps.toList<(⟨#[c]⟩ : Str).cps.toList)=decide (d<c)from decide_eq_decide.mpr this];by_cases h:c<=d
 .rw[Zs h,Zp (Tk h)];rfl
 .rw[Zp h,Zs (Nat.lt_of_not_le h)];rfl
def u_:ST:=λts q=>∃n:Str,ts=[.str n]/\Wd n/\q (.fz (.bl true))
theorem Ug(F:Fun K mD mD yS f fd)(T:Txt K mg D):cj P w K mg base CX0 1 f fd lZ (spT K u_):=by
 refine F.okT Ud (λts R hP=>by obtain⟨t,e,_⟩:=hP;exact e ▸ rfl) λaf A outer s H E hr=>?_;refine⟨_,(bF (cB (QW.qt (iZ (dB (cV (j6 .str (qv 0) (by rfl) T.cT (by rfl) T.ajl boot_str))) (gR (dB (QH LC LC bA (bR adL (by rfl) T.dF WH (bx (qv 0) bC)) (Zm (by rfl) T.IW λ_=>.int _))))))
  (bG (bM j9))
  bT)
  (bG (bM (bR (Uu rfl) (by rfl) T.aas boot_all (bx (dH (bH yS) Em Em ["sign"] (agH (qv 0)) (eU (i:=0)) cF (Ju aaj aaj uZ (qv 0) uZ)) bC))))),?_⟩
 rintro _ R ⟨n,rfl,hw,q⟩;obtain⟨l1,l8⟩:=hw.len;refine⟨aL l8 (by decide),swT (Zs (by lia)) (swF (by rw[Zs (show((n.length:Nat):Int)<=8 by lia)];rfl) ⟨by rw[ak];exact aL l8 (by decide),comp_map (λc=>.str ⟨#[c]⟩) (λc=>.bl (decide (97<=c)&&decide (c<=122))) n.cps.toList (λc _ N M hN=>?_) ⟨n.cps.toList.map λc=>decide (97<=c)&&decide (c<=122),by rw[WP];rfl,?_⟩⟩)⟩
 .have e1:(!decide ((⟨#[c]⟩ : Str).cps.toList<("a":Str).cps.toList))=decide (97<=c):=by rw[show("a":Str)=⟨#[97]⟩from by decide +kernel];exact Wy 97 c
  have e2:(!decide (("z":Str).cps.toList<(⟨#[c]⟩ : Str).cps.toList))=decide (c<=122):=by rw[show("z":Str)=⟨#[122]⟩from by decide +kernel];exact Wy c 122
  refine sw2 (λh=>?_) λh=>?_
  .rw[<- e1,h,<- e2]at hN;exact hN
  .rw[<- e1,h]at hN;exact hN
 .have:((n.cps.toList.map λc=>decide (97<=c)&&decide (c<=122)).all λb=>b)=true:=by
   unfold Wd Xa at hw;rw[Q2]at hw;rw[List.all_map];exact hw.2
  rw[<- this]at q;exact q
def rY:ST:=λts q=>∃(n:Str)(r:Rat),ts=[.str n,frR r]/\Wd n/\q (.fz .non)
theorem KQ(F:Fun K jk jk tZ f fd)(iU:OkT P w K mg base 1 mD lZ u_)(gC:OkT P w K mg base 2 jT jQ qU):cj P w K mg base CX0 3 f fd jg (spT K rY):=by
 refine F.okT J0 (λts R hP=>by obtain⟨t,r,e,_⟩:=hP;exact e ▸ rfl) λaf A outer s H E hr=>?_;refine⟨_,(bF (cB (dB (cV (bI iU hr.md (by rfl) (bx (qv 0) bC))))
  (bG fQ)
  bT)
  (bG (cB (dB (cV (bI gC hr.md (by rfl) (bx (qv 1) bC))))
  (bG fQ)
  bT))),?_⟩
 rintro _ R ⟨n,r,rfl,hw,q⟩;exact⟨_,rfl,hw,_,rfl,q⟩
def jM:ST:=λts q=>∃n:Str,ts=[.str n]/\Wd n/\q (.fz .non)
theorem zZ(F:Fun K fj fj lH f fd)(iU:OkT P w K mg base 1 mD lZ u_):cj P w K mg base CX0 2 f fd eZ (spT K jM):=by
 refine F.okT Av (λts R hP=>by obtain⟨t,e,_⟩:=hP;exact e ▸ rfl) λaf A outer s H E hr=>?_;refine⟨_,(bG (cB (dB (cV (bI iU hr.md (by rfl) (bx (qv 0) bC))))
  (bG fQ)
  bT)),?_⟩
 rintro _ R ⟨n,rfl,hw,q⟩;exact⟨_,rfl,hw,q⟩
def Ch(r:Rat):Prop:=0<=r/\r<=1/\Bd (r.den:Nat)
theorem Ch.bq{r:Rat}(h:Ch r):Bq r:=by
 have h0:=Rat.num_nonneg.mpr h.1;have h1:=(Rat.le_iff r 1).mp h.2.1;exact⟨LQ (by have:r.num*((1:Rat).den:Int)<=(1:Rat).num*(r.den:Int):=h1;simp at this;omega) h.2.2,h.2.2⟩
theorem bq0:Bq 0:=⟨Nat.two_pow_pos 8000,Nat.one_lt_two_pow (by decide)⟩
theorem bq1:Bq 1:=⟨Nat.one_lt_two_pow (by decide),Nat.one_lt_two_pow (by decide)⟩
def nR:ST:=λts q=>∃r:Rat,ts=[frR r]/\Ch r/\q (.fz .non)
theorem Gp(F:Fun K gG gG pX f fd)(T:Txt K mg D)(gC:OkT P w K mg base 2 jT jQ qU)(gY:OkT P w K mg base 1 qy qz vO):cj P w K mg base CX0 3 f fd gH (spT K nR):=by
 refine F.okT Gk (λts R hP=>by obtain⟨t,e,_⟩:=hP;exact e ▸ rfl) λaf A outer s H E hr=>?_;refine⟨_,(bG (cB (QW.qt (iZ (dB (cV (bI gC hr.md (by rfl) (bx (qv 0) bC)))) (iZ (cV (bI gY hr.md (by rfl) (bx (qv 0) (bx (lR (by rfl) T.ji T.gP) bC)))) (gR (cV (bI gY hr.md (by rfl) (bx (lR (by rfl) T.Fy T.vL) (bx (qv 0) bC))))))))
  (bG fQ)
  bT)),?_⟩
 rintro _ R ⟨r,rfl,hc,q⟩;refine⟨_,rfl,r,0,rfl,hc.bq,bq0,?_⟩;rw[Zp (Rat.not_lt.mpr hc.1)];refine⟨1,r,rfl,bq1,hc.bq,?_⟩;rw[Zp (Rat.not_lt.mpr hc.2.1)];exact q
noncomputable def Bl(rs:List Rat):Rat:=rs.foldr (· + ·) 0
theorem Sd{B:Nat}(hB:B≠0):∀{rs:List Rat},(∀r∈rs,r.den ∣ B)->Rat.divInt (tops B rs).sum B=Bl rs
 |[],_=>by show Rat.divInt 0 _=0;exact TK _
 |r::rs,h=>by
  have ih:=Sd hB (rs:=rs) λx hx=>h x (aJ _ hx);have lT:((B:Nat):Int)≠0:=by lia
  obtain⟨m,hm⟩:=h r (aO ..);show Rat.divInt (r.num*((B/r.den:Nat):Int)+(tops B rs).sum) B=r+Bl rs;have e1:r+Bl rs=Rat.divInt (r.num*B+(tops B rs).sum*r.den) (r.den*B):=by rw[<- JS _ _ (jK r) lT,rd,ih]
  rw[e1];refine(QY lT (lU (jK r) lT)).mpr ?_;have:B/r.den=m:=by rw[hm];exact Nat.mul_div_cancel_left _ r.den_pos
  rw[this,hm];simp only[TW]
  grind
def S8:ST:=λts q=>∃rs:List Rat,ts=[.lst (rs.map frR)]/\rs.length<=1000/\(∀r∈rs,Bd r.num)/\Bd (cI 1 rs:Nat)/\q (.fz (frR (Bl rs)))
theorem aay(F:Fun K Bx Bx M_ f fd)(T:Txt K mg D)(jz:OkT P w K mg base 2 pZ pW xP)(dU:OkT P w K mg base 2 nJ nC sY):cj P w K mg base CX0 3 f fd DK (spT K S8):=by
 refine F.okT Tg (λts R hP=>by obtain⟨t,e,_⟩:=hP;exact e ▸ rfl) λaf A outer s H E hr=>?_;refine⟨_,(bF (bO 1 Tg.nd (Or.inl rfl) (bI jz hr.md (by rfl) (bx (qv 0) bC)))
  (bG (bM (bI dU hr.md (by rfl) (bx (bR (VG rfl) (by rfl) T.Zu boot_sum (bx (bJ (qv 1) bA) bC)) (bx (bJ (qv 1) bA) bC)))))),?_⟩
 rintro _ R ⟨rs,rfl,rl,hn,hB,q⟩;have hp:=d9 rs VS;have hz:((cI 1 rs:Nat):Int)≠0:=by lia
 refine⟨rs,rfl,rl,hn,hB,_,rfl,_,_,rfl,hz,hB,λx y l=>?_⟩;rw[iK l hz,Sd (US hp) (h_ rs).2];exact q
abbrev wyT(p:Str×Rat):T:=.tup [.str p.1,frR p.2]
def wU:ST:=λts q=>∃ps:List (Str×Rat),ts=[.lst (ps.map wyT)]/\ps.length<=1000/\(∀p∈ps,Wd p.1/\Ch p.2)/\Bd (cI 1 (ps.map (·.2)):Nat)/\Bl (ps.map (·.2))=1/\q (.fz .non)
theorem I9(F:Fun K jX jX mZ f fd)(T:Txt K mg D)(d7:OkT P w K mg base 2 fj eZ jM)(fZ:OkT P w K mg base 3 gG gH nR)(M5:OkT P w K mg base 3 Bx DK S8):cj P w K mg base CX0 4 f fd kW (spT K wU):=by
 refine F.okT p8 (λts R hP=>by obtain⟨t,e,_⟩:=hP;exact e ▸ rfl) λaf A outer s H E hr=>?_;refine⟨_,(bF (dJ VZ rfl (cH (qv 0)) (fD (n:=2) rfl (bU (b_ (n:=99) 1 p8.nd (Or.inl rfl)) (bU (b_ (n:=99) 2 p8.nd (Or.inl rfl)) dO)))
  (bF (jF (bI d7 hr.md (by rfl) (bx (qv 1) bC)))
  (bG (jF (bI fZ hr.md (by rfl) (bx (qv 2) bC))))))
  (bG (cB (bY (nQ hr.units) (bI M5 hr.md (by rfl) (bx (dH (bH mZ) sE sE ["pair"] (cH (qv 0)) (eU (i:=0)) cF (bJ (qv 0) bA)) bC)) (lR (by rfl) T.Fy T.vL))
  (bG fQ)
  bT))),?_⟩
 rintro _ R ⟨ps,rfl,pl,hp,hB,hs,q⟩;refine f9 wyT ps (λ_ o=>∃x y,o=[.fz (.lst (ps.map wyT)),x,y]) ⟨_,_,rfl⟩ ?_ ?_
 .rintro as a bs _ e ⟨x,y,rfl⟩;obtain⟨h1,h2⟩:=hp a (e ▸ by simp);exact⟨rfl,_,rfl,h1,_,rfl,h2,_,_,rfl⟩
 .rintro _ ⟨x,y,rfl⟩;refine⟨aL (by simpa using pl) (by decide),comp_map wyT (λp=>frR p.2) ps (λp _ N M hN=>hN) ⟨ps.map (·.2),by rw[WP];rfl,by simpa using pl,λr hr=>?_,hB,?_⟩⟩
  .obtain⟨p,db,rfl⟩:=YV.mp hr;exact(hp p db).2.bq.1
  .rw[hs];exact q
def addW(ws:List (Str×Rat))(p:Str×Rat):List (Str×Rat):=if(ws.any λx=>decide (x.1=p.1))=true then ws.map (λx=>if x.1=p.1 then(x.1,x.2+p.2)else x)else ws++[p]
def jm(ps:List (Str×Rat)):List (Str×Rat):=ps.foldl addW []
noncomputable abbrev wKs(ws:List (Str×Rat)):List Key:=ws.map λx=>.inr x.1
abbrev wTs(ws:List (Str×Rat)):List T:=ws.map λx=>frR x.2
theorem af9(ws:List (Str×Rat))(n:Str):N8 (wKs ws) (.inr n)=ws.any λx=>decide (x.1=n):=by
 unfold N8;rw[List.any_map]
 congr 1
 funext x
 exact decide_eq_decide.mpr ⟨λz=>Sum.inr.inj z,λz=>ZH Sum.inr z⟩
theorem Vh(n:Str):∀ws:List (Str×Rat),qm (wKs ws) (wTs ws) (.inr n)=(ws.find? λx=>decide (x.1=n)).map λx=>frR x.2
 |[]=>rfl
 |x::ws=>by
  show(if(Sum.inr x.1:Key)=.inr n then some (frR x.2)else qm (wKs ws) (wTs ws) (.inr n))=_;by_cases h:x.1=n
  .rw[ZY (ZH Sum.inr h),List.find?_cons_of_pos (p:=λx:Str×Rat=>decide (x.1=n)) (Zs h)];rfl
  .rw[ZZ λz=>h (Sum.inr.inj z),List.find?_cons_of_neg (p:=λx:Str×Rat=>decide (x.1=n)) (by show ¬decide (x.1=n)=true;rw[Zp h];decide),Vh n ws]
noncomputable def A_(ws:List (Str×Rat))(n:Str):Rat:=((ws.find? λx=>decide (x.1=n)).map (·.2)).getD 0
theorem abU(ws:List (Str×Rat))(n:Str):((qm (wKs ws) (wTs ws) (.inr n)).getD (frR 0))=frR (A_ ws n):=by
 rw[Vh];unfold A_;cases(ws.find? λx=>decide (x.1=n))<;>rfl
theorem Wv{ws:List (Str×Rat)}{n:Str}(nd:(ws.map (·.1)).Nodup){x:Str×Rat}(hx:x∈ws)(e:x.1=n):(ws.find? λy=>decide (y.1=n))=some x:=by
 induction ws with
 |nil=>cases hx
 |cons y ws ih =>
  obtain⟨n1,n2⟩:=List.nodup_cons.mp nd;rcases YU.mp hx with rfl|z
  .exact List.find?_cons_of_pos (p:=λy:Str×Rat=>decide (y.1=n)) (Zs e)
  .rw[List.find?_cons_of_neg (p:=λy:Str×Rat=>decide (y.1=n)) (by show ¬decide (y.1=n)=true;rw[Zp λw=>n1 (YV.mpr ⟨x,z,e.trans w.symm⟩)];decide)];exact ih n2 z
theorem ak2(ws:List (Str×Rat))(p:Str×Rat)(nd:(ws.map (·.1)).Nodup):kpK (wKs ws) (.inr p.1)=wKs (addW ws p)/\kpT (wKs ws) (wTs ws) (.inr p.1) (frR (A_ ws p.1+p.2))=wTs (addW ws p):=by
 unfold kpK kpT addW;rw[af9];by_cases h:(ws.any λx=>decide (x.1=p.1))=true
 .rw[ZY h,ZY h,ZY h];refine⟨by simp only[wKs,WP];refine U1 λx _=>?_;show(Sum.inr x.1:Key)=.inr (if x.1=p.1 then(x.1,x.2+p.2)else x).1;split<;>rfl,?_⟩
  clear h
  rw[show wTs (ws.map λx=>if x.1=p.1 then(x.1,x.2+p.2)else x)=ws.map ((λx=>frR x.2) ∘ λx=>if x.1=p.1 then(x.1,x.2+p.2)else x)from WP]
  suffices H:∀(us:List (Str×Rat)),(∀x∈us,x.1=p.1->x.2=A_ ws p.1)->List.zipWith (λ(k:Key)x=>if k=.inr p.1 then frR (A_ ws p.1+p.2)else x) (wKs us) (wTs us)=us.map ((λx=>frR x.2) ∘ λx=>if x.1=p.1 then(x.1,x.2+p.2)else x)from H ws λx hx e=>by
   unfold A_;rw[Wv nd hx e];rfl
  intro us
  induction us with
  |nil=>intro _;rfl
  |cons x us ih =>
   intro H;show List.zipWith _ (Sum.inr x.1::wKs us) (frR x.2::wTs us)=_;rw[List.zipWith_cons_cons,ih λy hy=>H y (aJ _ hy),List.map_cons]
   congr 1
   by_cases e:x.1=p.1
   .rw[ZY (ZH Sum.inr e)];show _=frR (if x.1=p.1 then(x.1,x.2+p.2)else x).2;rw[ZY e,H x (aO ..) e]
   .rw[ZZ λz=>e (Sum.inr.inj z)];show _=frR (if x.1=p.1 then(x.1,x.2+p.2)else x).2;rw[ZZ e]
 .rw[ZZ h,ZZ h,ZZ h];have n0:A_ ws p.1=0:=by
   unfold A_;rw[List.find?_eq_none.mpr λx hx z=>h (List.any_eq_true.mpr ⟨x,hx,z⟩)];rfl
  rw[n0,Rat.zero_add];simp only[wKs,wTs,bf];exact⟨rfl,rfl⟩
theorem abL{ws:List (Str×Rat)}{p:Str×Rat}(nd:(ws.map (·.1)).Nodup):((addW ws p).map (·.1)).Nodup:=by
 unfold addW;by_cases h:(ws.any λx=>decide (x.1=p.1))=true
 .rw[ZY h,WP];rw[show ws.map ((λx=>x.1) ∘ λx=>if x.1=p.1 then(x.1,x.2+p.2)else x)=ws.map (·.1)from U1 λx _=>by show(if x.1=p.1 then(x.1,x.2+p.2)else x).1=x.1;split<;>rfl];exact nd
 .rw[ZZ h,bf];refine List.nodup_append.mpr ⟨nd,by simp,λa ha b hb z=>h ?_⟩;obtain⟨x,hx,rfl⟩:=YV.mp ha;rw[List.map_singleton,YR]at hb;exact List.any_eq_true.mpr ⟨x,hx,Zs (z.trans hb)⟩
theorem Xo(as bs:List (Str×Rat)):jm (as++bs)=bs.foldl addW (jm as):=List.foldl_append ..
theorem RK(ps:List (Str×Rat)):((jm ps).map (·.1)).Nodup:=by
 suffices H:∀(ps ws:List (Str×Rat)),(ws.map (·.1)).Nodup->((ps.foldl addW ws).map (·.1)).Nodup from H ps [] .nil
 intro ps
 induction ps with
 |nil=>exact λ_ h=>h
 |cons p ps ih=>exact λws h=>ih _ (abL h)
theorem Lr(ps:List (Str×Rat)):(jm ps).length<=ps.length:=by
 suffices H:∀(ps ws:List (Str×Rat)),(ps.foldl addW ws).length<=ws.length+ps.length from by simpa[jm]using H ps []
 intro ps
 induction ps with
 |nil=>exact λ_=>aG _
 |cons p ps ih =>
  intro ws;have h1:(addW ws p).length<=ws.length+1:=by
   unfold addW;split
   .rw[ak];exact Xs _
   .rw[aA,List.length_singleton];exact aG _
  have:=ih (addW ws p);rw[List.foldl_cons,List.length_cons];lia
def aec(ps:List (Str×Rat)):Prop:=∀as a bs,ps=as++a::bs->Bq (A_ (jm as) a.1)/\Bq a.2/\Bd (((A_ (jm as) a.1).den:Int)*a.2.den)
def Cv(ps:List (Str×Rat)):List (Str×Rat):=(jm ps).filter λp=>!decide (p.2=0)
def wV:ST:=λts q=>∃ps:List (Str×Rat),ts=[.lst (ps.map wyT)]/\ps.length<=1000/\aec ps/\q (.l1 ((Cv ps).map wyT))
theorem Jw(F:Fun K lO lO mO f fd)(T:Txt K mg D)(Ez:OkT P w K mg base 3 Dg Ci Nh):cj P w K mg base CX0 4 f fd kZ (spT K wV):=by
 refine F.okT lN (λts R hP=>by obtain⟨t,e,_⟩:=hP;exact e ▸ rfl) λaf A outer s H E hr=>?_;refine⟨_,(bF (iw 1 lN.nd (Or.inr rfl) Pq)
  (bF (dJ VZ rfl (cH (qv 0)) (fD (n:=2) rfl (bU (b_ (n:=99) 2 lN.nd (Or.inl rfl)) (bU (b_ (n:=99) 3 lN.nd (Or.inl rfl)) dO)))
  (bG (Nb 1 (zG hr) (bI Ez hr.md (by rfl) (bx (acd 1 (zG hr) (qv 2) (lR (by rfl) T.ji T.gP)) (bx (qv 3) bC))) (qv 2))))
  (bG (adP 1 (bH mO) zT ["pairs","chances","?room","chance"] ["room"] (eU (i:=0)) (Wf (bY (nQ hr.units) (Ou (zG hr) (qv 2) (qv 0)) (lR (by rfl) T.ji T.gP))) (dg (bx (qv 0) (bx (Ou (zG hr) (qv 2) (qv 0)) bC))))))),?_⟩
 rintro _ R ⟨ps,rfl,pl,hb,q⟩;refine f9 wyT ps (λas o=>∃x y,o=[.fz (.lst (ps.map wyT)),.d1 (wKs (jm as)) (wTs (jm as)),x,y]) ⟨_,_,rfl⟩ ?_ ?_
 .rintro as a bs _ e ⟨x,y,rfl⟩;obtain⟨h1,h2,h3⟩:=hb as a bs e;refine⟨rfl,_,rfl,A_ (jm as) a.1,a.2,ZH (λt=>[t,frR a.2]) (abU (jm as) a.1),h1,h2,h3,_,rfl,?_,.fz (.str a.1),.fz (frR a.2),?_⟩
  .have:=Lr as;have:as.length<=ps.length:=by rw[e];simp
   rw[ak];exact Y3 (show _<=1000 by lia) (by decide)
  .obtain⟨k1,k2⟩:=ak2 (jm as) a (RK as);rw[show jm (as++[a])=addW (jm as) a from by rw[Xo];rfl,<- k1,<- k2]
   rfl
 .rintro _ ⟨x,y,rfl⟩;have jl:=Lr ps;refine⟨by rw[ak];exact aL (show _<=1000 by exact aL jl pl) (by decide),?_⟩;rw[show(wKs (jm ps)).map kT=(jm ps).map λp=>.str p.1 from WP];refine qK (λp=>.str p.1) (λp=>!decide (p.2=0)) wyT (jm ps) (λp hp N M hN hM=>?_) ?_
  rotate_left
  .exact q
  have ev:qm (wKs (jm ps)) (wTs (jm ps)) (.inr p.1)=some (frR p.2):=by rw[Vh,Wv (RK ps) hp rfl];rfl
  refine⟨_,_,rfl,ev,?_⟩;have ez:(decide (p.2.num=0)&&decide ((p.2.den:Int)=1))=decide (p.2=0):=by
   by_cases z:p.2=0
   .rw[z];decide
   .rw[Zp z,Zp λy=>z (Rat.num_eq_zero.mp y)];rfl
  refine sw2 (λh=>⟨_,_,rfl,ev,hN ?_⟩) λh=>hM ?_
  .rw[<- h];exact ZH (λb=>!b) ez.symm
  .rw[<- h];exact ZH (λb=>!b) ez.symm
noncomputable abbrev uz:Φ:=["name","pay","leads"]
abbrev drT(C:Addr)(n:Str)(p:Rat)(ws:List (Str×Rat)):T:=.ins C uz [.str n,frR p,.lst (ws.map wyT)]
def Mw(D:Adr):SI:=λC ks ts as R=>∃(n:Str)(p:Rat),ks=[]/\ts=[]/\Fam D C/\as=[.str n,frR p]/\Wd n/\R uz [.str n,frR p,.lst []]
theorem Oh(F:Fun K Bp B_ xW f fd)(T:Txt K mg D)(iY:OkT P w K mg base 3 jk jg rY):cj P w K mg base CX0 4 f fd j8 (spI K (Mw D)):=by
 refine F.okI Mv (λC ks ts as R hP=>by obtain⟨n,p,_,_,_,e,_⟩:=hP;exact e ▸ rfl) (by decide) λaf A outer s H E hr=>?_;refine⟨_,(bF (jF (bI iY hr.md (by rfl) (bx (qv 1) (bx (qv 2) bC))))
  (bF (qM (Fm:=Fam D) 0 (λC h=>⟨T.cl C h,T.Hq C h⟩) (qv 1))
  (bF (qM (Fm:=Fam D) 0 (λC h=>⟨T.cl C h,T.Zh C h⟩) (qv 2))
  (bG (qM (Fm:=Fam D) 0 (λC h=>⟨T.cl C h,T.Ce C h⟩) (eE bC)))))),?_⟩
 rintro a dx C _ _ _ R ⟨n,p,rfl,rfl,hC,rfl,hw,q⟩;exact⟨_,_,rfl,hw,⟨hC,by decide⟩,⟨hC,by decide⟩,⟨hC,by decide⟩,_,_,rfl,q⟩
theorem abE(D:Adr):Fam D D.Sure:=by simp[Fam]
theorem Xv(D:Adr):Fam D D.Mixed:=by simp[Fam]
theorem aaT(D:Adr):Fam D D.Toss:=by simp[Fam]
theorem aav(D:Adr):Fam D D.Even:=by simp[Fam]
theorem xG(D:Adr):Fam D D.Hall:=by simp[Fam]
def V4(D:Adr):SI:=λC ks ts as R=>∃(n m:Str)(p:Rat),ks=[]/\ts=[]/\Fam D C/\as=[.str n,frR p,.str m]/\Wd n/\Wd m/\R uz [.str n,frR p,.lst ([(m,1)].map wyT)]
theorem Qc(F:Fun K Bb Bt wH f fd)(T:Txt K mg D)(jR:OkI P w K mg base CX0 4 D.Door_init j8 (spI K (Mw D)))(d7:OkT P w K mg base 2 fj eZ jM):cj P w K mg base CX0 5 f fd pO (spI K (V4 D)):=by
 refine F.okI Mg (λC ks ts as R hP=>by obtain⟨n,p,_,_,_,_,e,_⟩:=hP;exact e ▸ rfl) (by decide) λaf A outer s H E hr=>?_;refine⟨_,(bF (GP 0 T.BL jR hr.md (by rfl) T.ZP (bx (qv 1) (bx (qv 2) bC)))
  (bF (jF (bI d7 hr.md (by rfl) (bx (qv 3) bC)))
  (bG (qM (Fm:=Fam D) 0 (λC h=>⟨T.cl C h,T.Ce C h⟩) (eE (bx (dg (bx (qv 3) (bx (lR (by rfl) T.Fy T.vL) bC))) bC)))))),?_⟩
 rintro a dx C _ _ _ R ⟨n,m,p,rfl,rfl,hC,rfl,hw,hm,q⟩;exact⟨_,_,rfl,rfl,hC,rfl,hw,_,rfl,hm,⟨hC,by decide⟩,_,_,rfl,q⟩
structure Prs(ps:List (Str×Rat)):Prop where
 few:ps.length<=1000
 ok:∀p∈ps,Wd p.1/\Ch p.2
 bd:Bd (cI 1 (ps.map (·.2)):Nat)
 one:Bl (ps.map (·.2))=1
 jb:aec ps
def Ds(D:Adr):SI:=λC ks ts as R=>∃(n:Str)(p:Rat)(ps:List (Str×Rat)),ks=[]/\ts=[]/\Fam D C/\as=[.str n,frR p,.lst (ps.map wyT)]/\Wd n/\Prs ps/\R uz [.str n,frR p,.lst ((Cv ps).map wyT)]
theorem KD(F:Fun K zH zV uP f fd)(T:Txt K mg D)(jR:OkI P w K mg base CX0 4 D.Door_init j8 (spI K (Mw D)))(rE:OkT P w K mg base 4 jX kW wU)(su:OkT P w K mg base 4 lO kZ wV):cj P w K mg base CX0 5 f fd gO (spI K (Ds D)):=by
 refine F.okI KC (λC ks ts as R hP=>by obtain⟨n,p,_,_,_,_,e,_⟩:=hP;exact e ▸ rfl) (by decide) λaf A outer s H E hr=>?_;refine⟨_,(bF (GP 0 T.BL jR hr.md (by rfl) T.ZP (bx (qv 1) (bx (qv 2) bC)))
  (bF (jF (bI rE hr.md (by rfl) (bx (qv 3) bC)))
  (bG (qM (Fm:=Fam D) 0 (λC h=>⟨T.cl C h,T.Ce C h⟩) (bI su hr.md (by rfl) (bx (qv 3) bC)))))),?_⟩
 rintro a dx C _ _ _ R ⟨n,p,ps,rfl,rfl,hC,rfl,hw,h,q⟩;exact⟨_,_,rfl,rfl,hC,rfl,hw,_,rfl,h.few,h.ok,h.bd,h.one,_,rfl,h.few,h.jb,⟨hC,by decide⟩,_,_,rfl,q⟩
def V9(D:Adr):SI:=λC ks ts as R=>∃(n x y:Str)(p c:Rat),ks=[]/\ts=[]/\Fam D C/\as=[.str n,frR p,frR c,.str x,.str y]/\Wd n/\Ch c/\Prs [(x,c),(y,1-c)]/\R uz [.str n,frR p,.lst ((Cv [(x,c),(y,1-c)]).map wyT)]
theorem Mp(F:Fun K Cp Cj wg f fd)(T:Txt K mg D)(iY:OkT P w K mg base 3 jk jg rY)(fZ:OkT P w K mg base 3 gG gH nR)(oA:OkT P w K mg base 3 tK sZ Dj)(d_:OkI P w K mg base CX0 5 D.Mixed_init gO (spI K (Ds D))):cj P w K mg base CX0 6 f fd pJ (spI K (V9 D)):=by
 refine F.okI Oi (λC ks ts as R hP=>by obtain⟨n,_,_,p,_,_,_,_,e,_⟩:=hP;exact e ▸ rfl) (by decide) λaf A outer s H E hr=>?_;refine⟨_,(bF (jF (bI iY hr.md (by rfl) (bx (qv 1) (bx (qv 2) bC))))
  (bF (jF (bI fZ hr.md (by rfl) (bx (qv 3) bC)))
  (bG (GP 0 T.zJ d_ hr.md (by rfl) T.Od (bx (qv 1) (bx (qv 2) (bx (eE (bx (dg (bx (qv 4) (bx (qv 3) bC))) (bx (dg (bx (qv 5) (bx (bI oA hr.md (by rfl) (bx (lR (by rfl) T.Fy T.vL) (bx (qv 3) bC))) bC))) bC))) bC))))))),?_⟩
 rintro a dx C _ _ _ R ⟨n,x,y,p,c,rfl,rfl,hC,rfl,hw,hc,h,q⟩;refine⟨_,_,rfl,hw,_,rfl,hc,1,c,rfl,bq1,hc.bq,?_,n,p,_,rfl,rfl,hC,rfl,hw,h,_,_,rfl,q⟩;rw[show(((1:Rat).den:Nat):Int)*(c.den:Int)=(c.den:Int)from JU _];exact hc.2.2
noncomputable def even(bj:Φ):List (Str×Rat):=bj.map λr=>(r,mkRat 1 bj.length)
theorem T_{n:Nat}(h:0<n):frR (mkRat 1 n)=.tup [.int 1,.int (n:Nat)]:=by
 have:mkRat 1 n=⟨1,n,by exact US h,by show Nat.Coprime 1 n;exact Nat.coprime_one_left n⟩:=by
  rw[Rat.mk_eq_divInt];rfl
 rw[this]
def WL(D:Adr):SI:=λC ks ts as R=>∃(n:Str)(p:Rat)(bj:Φ),ks=[]/\ts=[]/\Fam D C/\as=[.str n,frR p,.lst (bj.map T.str)]/\Wd n/\Prs (even bj)/\R uz [.str n,frR p,.lst ((Cv (even bj)).map wyT)]
theorem Px(F:Fun K BJ Cd qN f fd)(T:Txt K mg D)(d_:OkI P w K mg base CX0 5 D.Mixed_init gO (spI K (Ds D))):cj P w K mg base CX0 6 f fd oZ (spI K (WL D)):=by
 refine F.okI Nz (λC ks ts as R hP=>by obtain⟨n,p,_,_,_,_,e,_⟩:=hP;exact e ▸ rfl) (by decide) λaf A outer s H E hr=>?_;refine⟨_,(bG (GP 0 T.zJ d_ hr.md (by rfl) T.Od (bx (qv 1) (bx (qv 2) (bx (dH (bH qN) yr yr ["room"] (cH (qv 3)) (eU (i:=0)) cF (dg (bx (qv 0) (bx (dg (bx bA (bx (bR cN (by rfl) T.dF WH (bx (qv 4) bC)) bC))) bC)))) bC))))),?_⟩;rintro a dx C _ _ _ R ⟨n,p,bj,rfl,rfl,hC,rfl,hw,h,q⟩;have hl:bj.length<=1000:=by have:=h.few;rwa[even,ak]at this
 refine⟨by rw[ak];exact aL hl (by decide),comp_map L2.T.str (λr=>wyT (r,mkRat 1 bj.length)) bj (λr hr N M hN=>?_) ⟨n,p,even bj,rfl,rfl,hC,?_,hw,h,_,_,rfl,q⟩⟩
 .rw[show wyT (r,mkRat 1 bj.length)=.tup [.str r,frR (mkRat 1 bj.length)]from rfl,T_ (List.length_pos_of_mem hr),<- ak (f:=L2.T.str)]at hN;exact hN
 .unfold even;rw[WP]
  rfl
def Dl(D:Adr):ST:=λts q=>∃(C:Addr)(n:Str)(p:Rat)(ws:List (Str×Rat)),ts=[drT C n p ws]/\Fam D C/\q (.l1 (ws.map wyT))
theorem OJ(F:Fun K Bc Du vQ f fd)(T:Txt K mg D):cj P w K mg base CX0 1 f fd oF (spT K (Dl D)):=by
 refine F.okT Qi (λts R hP=>by obtain⟨C,n,p,ws,e,_⟩:=hP;exact e ▸ rfl) λaf A outer s H E hr=>?_;refine⟨_,(bG (bM (pQ Cu (by rfl) T.uo boot_list (bx (uh (Fm:=Fam D) (λC h=>⟨T.cl C h,T.Ce C h⟩) (qv 0)) bC)))),?_⟩;rintro _ R ⟨C,n,p,ws,rfl,hC,q⟩;exact⟨hC,_,rfl,q⟩
structure bQ where
 name:Str
 pay:Rat
 ways:List (Nat×Rat)
abbrev nwT(p:Nat×Rat):T:=.tup [.int (p.1:Nat),frR p.2]
abbrev ofT(o:bQ):T:=.tup [.str o.name,frR o.pay,.lst (o.ways.map nwT)]
noncomputable abbrev mV:Φ:=["share","numbers","offered"]
noncomputable abbrev nmK(ns:Φ):List Key:=ns.map Sum.inr
noncomputable abbrev nmT(ns:Φ):List T:=(List.range ns.length).map λk:Nat=>.int k
abbrev hlT(D:Adr)(s:Rat)(ns:Φ)(off:List (List bQ)):T:=.ins D.Hall mV [frR s,.dct (nmK ns) (nmT ns),.lst (off.map λds=>.lst (ds.map ofT))]
def xV:ST:=λts q=>∃r:Rat,ts=[frR r]/\0<=r/\r<1/\Bq r/\q (.fz .non)
theorem HD(F:Fun K j5 j5 rP f fd)(T:Txt K mg D)(gC:OkT P w K mg base 2 jT jQ qU)(gY:OkT P w K mg base 1 qy qz vO):cj P w K mg base CX0 3 f fd lK (spT K xV):=by
 refine F.okT JG (λts R hP=>by obtain⟨t,e,_⟩:=hP;exact e ▸ rfl) λaf A outer s H E hr=>?_;refine⟨_,(bG (cB (QW.qt (iZ (dB (cV (bI gC hr.md (by rfl) (bx (qv 0) bC)))) (iZ (cV (bI gY hr.md (by rfl) (bx (qv 0) (bx (lR (by rfl) T.ji T.gP) bC)))) (gR (dB (cV (bI gY hr.md (by rfl) (bx (qv 0) (bx (lR (by rfl) T.Fy T.vL) bC)))))))))
  (bG fQ)
  bT)),?_⟩
 rintro _ R ⟨r,rfl,h0,h1,hb,q⟩;refine⟨_,rfl,r,0,rfl,hb,bq0,?_⟩;rw[Zp (Rat.not_lt.mpr h0)];refine⟨r,1,rfl,hb,bq1,?_⟩;rw[Zs h1];exact q
theorem aa3(ns:Φ)(n:Str)(h:n∉ns):N8 (nmK ns) (.inr n)=false:=by
 unfold N8;rw[List.any_map];exact List.any_eq_false.mpr λx hx z=>h ((Sum.inr.inj (of_decide_eq_true z)) ▸ hx)
theorem Us{α:Type}(n:Str):∀(ns:Φ)(ts:List α),n∉ns->qm (nmK ns) ts (.inr n)=none
 |[],_,_=>rfl
 |_::_,[],_=>rfl
 |m::ns,t::ts,h=>by
  show(if(Sum.inr m:Key)=.inr n then some t else qm (nmK ns) ts (.inr n))=none;rw[ZZ λz=>h (by rw[Sum.inr.inj z];exact aO ..)];exact Us n ns ts λz=>h (aJ _ z)
theorem W8{α:Type}{n:Str} : ∀{ns:Φ}{ts:List α}{k:Nat}{t:α},ns.Nodup->ns[k]?=some n->ts[k]?=some t->qm (nmK ns) ts (.inr n)=some t
 |[],_,_,_,_,e,_=>by cases e
 |m::ns,[],_,_,_,_,e=>by cases e
 |m::ns,u::ts,k,t,nd,e1,e2=>by
  obtain⟨n1,n2⟩:=List.nodup_cons.mp nd;show(if(Sum.inr m:Key)=.inr n then some u else qm (nmK ns) ts (.inr n))=some t;cases k with
  |zero=>cases e1;cases e2;exact ZY rfl
  |succ k =>
   have hZ:ns[k]?=some n:=by simpa using e1
   rw[ZZ λ(z:(Sum.inr m:Key)=.inr n)=>n1 (by rw[Sum.inr.inj z];exact aC hZ)];exact W8 n2 hZ (by simpa using e2)
theorem afv(ns:Φ)(n:Str)(h:n∉ns):kpK (nmK ns) (.inr n)=nmK (ns++[n])/\kpT (nmK ns) (nmT ns) (.inr n) (.int (ns.length:Nat))=nmT (ns++[n]):=by
 unfold kpK kpT;rw[aa3 ns n h];refine⟨by rw[ZZ (by decide)];simp[nmK],?_⟩;rw[ZZ (by decide)];simp only[nmT,aA,List.length_singleton,List.range_succ,bf,List.map_singleton]
noncomputable abbrev rmT(p:Str×List T):T:=.tup [.str p.1,.lst p.2]
def zN:ST:=λts q=>∃fm:List (Str×List T),ts=[.lst (fm.map rmT)]/\fm.length<=1000/\(∀p∈fm,Wd p.1)/\(fm.map (·.1)).Nodup/\q (.d1 (nmK (fm.map (·.1))) (nmT (fm.map (·.1))))
theorem Kf(F:Fun K mH mH uQ f fd)(T:Txt K mg D)(iU:OkT P w K mg base 1 mD lZ u_):cj P w K mg base CX0 2 f fd mK (spT K zN):=by
 refine F.okT m5 (λts R hP=>by obtain⟨t,e,_⟩:=hP;exact e ▸ rfl) λaf A outer s H E hr=>?_;refine⟨_,(bF (iw 1 m5.nd (Or.inl rfl) Pq)
  (bF (dJ VZ rfl (cH (qv 0)) (b_ (n:=99) 2 m5.nd (Or.inl rfl))
  (bF (bO 3 m5.nd (Or.inl rfl) (bJ (qv 2) bA))
  (bF (cB (QW.qt (iZ (dB (cV (bI iU hr.md (by rfl) (bx (qv 3) bC)))) (gR (Ub 1 (aaV (zG hr) (qv 3) (qv 1))))))
  (bG fQ)
  bT)
  (bG (Nb 1 (zG hr) (L_ 1 (bR Wu (by rfl) T.dF WH (bx (qv 1) bC))) (qv 3))))))
  (bG (jy 1)))),?_⟩
 rintro _ R ⟨fm,rfl,rl,hw,nd,q⟩;refine f9 rmT fm (λas o=>∃x y,o=[.fz (.lst (fm.map rmT)),.d1 (nmK (as.map (·.1))) (nmT (as.map (·.1))),x,y]) ⟨_,_,rfl⟩ ?_ ?_
 .rintro as a bs _ e ⟨x,y,rfl⟩;have na:a.1∉as.map (·.1):=by
   rw[e,bf,List.map_cons]at nd;exact λz=>(List.nodup_append.mp nd).2.2 a.1 z a.1 (aO ..) rfl
  have al:as.length<=fm.length:=by rw[e];simp
  refine⟨_,rfl,hw a (e ▸ by simp),_,rfl,?_⟩;rw[Us a.1 _ _ na];refine⟨trivial,_,rfl,by rw[ak,ak];exact Y3 (show _<=1000 by exact aL al rl) (by decide),.fz (rmT a),.fz (.str a.1),?_⟩;obtain⟨k1,k2⟩:=afv (as.map (·.1)) a.1 na;rw[bf,List.map_singleton,<- k1,<- k2];simp only[ak]
  rfl
 .rintro _ ⟨x,y,rfl⟩;exact q
structure NWk(ns:Φ)(us:List (Nat×Rat)):Prop where
 few:us.length<=1000
 lt:∀p∈us,p.1<ns.length
abbrev Q9(ns:Φ)(us:List (Nat×Rat)):List (Str×Rat):=us.map λp=>(ns.getD p.1 ⟨#[]⟩,p.2)
def tW(D:Adr):ST:=λts q=>∃(C:Addr)(n:Str)(p:Rat)(ns:Φ)(us:List (Nat×Rat)),ts=[drT C n p (Q9 ns us),.dct (nmK ns) (nmT ns)]/\dh D C/\ns.Nodup/\NWk ns us/\q (.l1 (us.map nwT))
theorem Ed(F:Fun K iJ iJ nT f fd)(T:Txt K mg D)(wN:OkI P w K mg base CX0 1 D.Door_ways oF (spT K (Dl D))):cj P w K mg base CX0 2 f fd iT (spT K (tW D)):=by
 refine F.okT iW (λts R hP=>by obtain⟨C,n,p,ns,us,e,_⟩:=hP;exact e ▸ rfl) λaf A outer s H E hr=>?_;refine⟨_,(bF (iw 2 iW.nd (Or.inl rfl) (eE bC))
  (bF (dJ VZ rfl (cH (QE.any λC(hC:dh D C)=>Dy (qv 0) (T.cl C hC.fam) (T.Pg C hC) wN hr.md (KS:=uz))) (fD (n:=2) rfl (bU (b_ (n:=99) 3 iW.nd (Or.inl rfl)) (bU (b_ (n:=99) 4 iW.nd (Or.inl rfl)) dO)))
  (bF (cB (Ys (zG hr) (qv 3) (qv 1))
  (bG fQ)
  bT)
  (bG (nY 2 (dg (bx (Ou (zG hr) (qv 1) (qv 3)) (bx (qv 4) bC)))))))
  (bG (jy 2)))),?_⟩
 rintro _ R ⟨C,n,p,ns,us,rfl,hC,nd,hu,q⟩;refine⟨C,hC,⟨rfl,rfl⟩,C,n,p,_,rfl,hC.fam,?_⟩;show vB _ _ _ (List.map wyT (Q9 ns us)) _;rw[show(Q9 ns us).map wyT=us.map λp=>wyT (ns.getD p.1 ⟨#[]⟩,p.2)from WP];refine f9 (λp=>wyT (ns.getD p.1 ⟨#[]⟩,p.2)) us (λas o=>∃x y,o=[.fz (drT C n p (Q9 ns us)),.fz (.dct (nmK ns) (nmT ns)),.l1 (as.map nwT),x,y]) ⟨_,_,rfl⟩ ?_ ?_
 .rintro as a bs _ e ⟨x,y,rfl⟩;have lt:=hu.lt a (e ▸ by simp);have al:as.length<us.length:=by rw[e];simp
  have few:=hu.few;have en:ns[a.1]?=some (ns.getD a.1 ⟨#[]⟩):=by rw[au,aj lt];rfl
  have ev:qm (nmK ns) (nmT ns) (.inr (ns.getD a.1 ⟨#[]⟩))=some (.int (a.1:Nat)):=W8 nd en (by rw[aq,VT lt];rfl);refine⟨rfl,_,rfl,?_⟩;rw[ev];refine⟨_,_,rfl,ev,by rw[ak];exact Y3 (show _<=1000 by exact aL (Y2 al) few) (by decide),.fz (.str (ns.getD a.1 ⟨#[]⟩)),.fz (frR a.2),?_⟩;rw[bf]
  rfl
 .rintro _ ⟨x,y,rfl⟩;exact q
structure Made where
 cls:Addr
 of:bQ
abbrev mdT(ns:Φ)(m:Made):T:=drT m.cls m.of.name m.of.pay (Q9 ns m.of.ways)
structure Mds(D:Adr)(ns:Φ)(ds:List Made):Prop where
 few:ds.length<=1000
 cls:∀m∈ds,dh D m.cls
 ways:∀m∈ds,NWk ns m.of.ways
 nd:(ds.map λm=>m.of.name).Nodup
theorem ac9(ns:Φ)(n:Str)(h:n∉ns):kpK (nmK ns) (.inr n)=nmK (ns++[n])/\kpT (nmK ns) (ns.map λ_=>L2.T.bl true) (.inr n) (.bl true)=(ns++[n]).map λ_=>L2.T.bl true:=by
 unfold kpK kpT;rw[aa3 ns n h];refine⟨by rw[ZZ (by decide)];simp[nmK],?_⟩;rw[ZZ (by decide)];simp
def Ca(D:Adr):ST:=λts q=>∃(ns:Φ)(ds:List Made),ts=[.lst (ds.map (mdT ns)),.dct (nmK ns) (nmT ns)]/\ns.Nodup/\Mds D ns ds/\q (.l1 (ds.map λm=>ofT m.of))
theorem Nr(F:Fun K oG oG yH f fd)(T:Txt K mg D)(nU:OkT P w K mg base 2 iJ iT (tW D)):cj P w K mg base CX0 3 f fd oW (spT K (Ca D)):=by
 refine F.okT oX (λts R hP=>by obtain⟨ns,ds,e,_⟩:=hP;exact e ▸ rfl) λaf A outer s H E hr=>?_;refine⟨_,(bF (iw 2 oX.nd (Or.inl rfl) Pq)
  (bF (iw 3 oX.nd (Or.inl rfl) (eE bC))
  (bF (dJ VZ rfl (cH (qv 0)) (b_ (n:=99) 4 oX.nd (Or.inl rfl))
  (bF (cB (Ub 2 (aaV (zG hr) (uh (Fm:=Fam D) (λC h=>⟨T.cl C h,T.Hq C h⟩) (qv 4)) (qv 2)))
  (bG fQ)
  bT)
  (bF (Nb 2 (zG hr) j9 (uh (Fm:=Fam D) (λC h=>⟨T.cl C h,T.Hq C h⟩) (qv 4)))
  (bG (nY 3 (dg (bx (uh (Fm:=Fam D) (λC h=>⟨T.cl C h,T.Hq C h⟩) (qv 4)) (bx (uh (Fm:=Fam D) (λC h=>⟨T.cl C h,T.Zh C h⟩) (qv 4)) (bx (bI nU hr.md (by rfl) (bx (qv 4) (bx (qv 1) bC))) bC)))))))))
  (bG (jy 3))))),?_⟩
 rintro _ R ⟨ns,ds,rfl,nd,hd,q⟩;refine f9 (mdT ns) ds (λas o=>∃x,o=[.fz (.lst (ds.map (mdT ns))),.fz (.dct (nmK ns) (nmT ns)),.d1 (nmK (as.map λm=>m.of.name)) ((as.map λm=>m.of.name).map λ_=>.bl true),.l1 (as.map λm=>ofT m.of),x]) ⟨_,rfl⟩ ?_ ?_
 .rintro as a bs _ e ⟨x,rfl⟩;have na:a.of.name∉as.map λm=>m.of.name:=by
   have nd:=hd.nd;rw[e,bf,List.map_cons]at nd;exact λz=>(List.nodup_append.mp nd).2.2 _ z _ (aO ..) rfl
  have al:as.length<ds.length:=by rw[e];simp
  have few:=hd.few;have ma:a∈ds:=e ▸ by simp
  have hc:=hd.cls a ma;refine⟨hc.fam,_,rfl,_,rfl,?_⟩;rw[Us _ _ _ na];refine⟨hc.fam,_,rfl,_,rfl,by rw[ak,ak];exact Y3 (show _<=1000 by exact aL (Y2 al) few) (by decide),hc.fam,_,rfl,hc.fam,_,rfl,_,_,_,ns,a.of.ways,rfl,hc,nd,hd.ways a ma,by rw[ak];exact Y3 (show _<=1000 by exact aL (Y2 al) few) (by decide),.fz (mdT ns a),?_⟩;obtain⟨k1,k2⟩:=ac9 (as.map λm=>m.of.name) a.of.name na;rw[show(as++[a]).map (λm=>m.of.name)=as.map (λm=>m.of.name)++[a.of.name]from bf,<- k1,<- k2,bf]
  rfl
 .rintro _ ⟨x,rfl⟩;exact q
structure aee(D:Adr)(ns:Φ)(ae:List (List Made)):Prop where
 len:ae.length=ns.length
 few:ns.length<=1000
 wd:∀n∈ns,Wd n
 nd:ns.Nodup
 mds:∀ds∈ae,Mds D ns ds
abbrev Ak(ns:Φ)(ae:List (List Made)):List T:=(ns.zip ae).map λp=>rmT (p.1,p.2.map (mdT ns))
noncomputable abbrev offs(ae:List (List Made)):List (List bQ):=ae.map λds=>ds.map λm=>m.of
def Wb(D:Adr):SI:=λC ks ts as R=>∃(s:Rat)(ns:Φ)(ae:List (List Made)),C=D.Hall/\ks=[]/\ts=[]/\as=[frR s,.lst (Ak ns ae)]/\0<=s/\s<1/\Bq s/\aee D ns ae/\R mV [frR s,.dct (nmK ns) (nmT ns),.lst ((offs ae).map λds=>.lst (ds.map ofT))]
theorem O9(F:Fun K Cy Ck qT f fd)(T:Txt K mg D)(rM:OkT P w K mg base 3 j5 lK xV)(ud:OkT P w K mg base 2 mH mK zN)(yu:OkT P w K mg base 3 oG oW (Ca D)):cj P w K mg base CX0 4 f fd o_ (spI K (Wb D)):=by
 refine F.okI Qp (λC ks ts as R hP=>by obtain⟨n,p,_,_,_,_,e,_⟩:=hP;exact e ▸ rfl) (by decide) λaf A outer s H E hr=>?_;refine⟨_,(bF (jF (bI rM hr.md (by rfl) (bx (qv 1) bC)))
  (bF (qM (Fm:=Fam D) 0 (λC h=>⟨T.cl C h,T.Ih C h⟩) (qv 1))
  (bF (qM (Fm:=Fam D) 0 (λC h=>⟨T.cl C h,T.z6 C h⟩) (bI ud hr.md (by rfl) (bx (qv 2) bC)))
  (bG (qM (Fm:=Fam D) 0 (λC h=>⟨T.cl C h,T.JW C h⟩) (dH (bH qT) xQ xQ ["room"] (cH (qv 2)) (eU (i:=0)) cF (bI yu hr.md (by rfl) (bx (bJ (qv 0) bA) (bx (acW (Fm:=Fam D) 1 (λC h=>⟨T.cl C h,T.z6 C h⟩)) bC))))))))),?_⟩
 rintro a dx C _ _ _ R ⟨s,ns,ae,rfl,rfl,rfl,rfl,s0,s1,sb,h,q⟩;have z1:(ns.zip ae).map (·.1)=ns:=List.map_fst_zip (by have:=h.len;exact WG (Eq.symm this));have z2:(ns.zip ae).map (·.2)=ae:=List.map_snd_zip (by have:=h.len;exact WG this);have zl:(ns.zip ae).length=ns.length:=by rw[VY,h.len,UV]
 have hf:=xG D;have few:=h.few;refine⟨_,rfl,s0,s1,sb,⟨hf,by decide⟩,(ns.zip ae).map λp=>(p.1,p.2.map (mdT ns)),by rw[WP];rfl,by rw[ak,zl];exact few,λp hp=>?_,?_,⟨hf,by decide⟩,?_⟩
 .obtain⟨x,hx,rfl⟩:=YV.mp hp;exact h.wd x.1 (z1 ▸ YV.mpr ⟨x,hx,rfl⟩)
 .rw[WP];exact z1.symm ▸ h.nd
 .rw[show((ns.zip ae).map λp=>(p.1,p.2.map (mdT ns))).map (·.1)=ns from List.map_map.trans z1];refine⟨by rw[ak,zl];exact aL few (by decide),comp_map (λp=>rmT (p.1,p.2.map (mdT ns))) (λp=>.lst (p.2.map λm=>ofT m.of)) (ns.zip ae) (λp hp N M hN=>?_) ⟨⟨hf,by decide⟩,_,_,rfl,?_⟩⟩
  .exact⟨hf,_,rfl,ns,p.2,rfl,h.nd,h.mds p.2 (z2 ▸ YV.mpr ⟨p,hp,rfl⟩),hN⟩
  .have:(ns.zip ae).map (λp=>L2.T.lst (p.2.map λm=>ofT m.of))=(offs ae).map λds=>.lst (ds.map ofT):=by
    rw[show(offs ae).map (λds=>L2.T.lst (ds.map ofT))=ae.map λds=>.lst (ds.map λm=>ofT m.of)from by simp[offs,WP,Function.comp_def]]
    conv=>rhs;rw[<- z2,WP]
    rfl
   rw[<- this]at q;exact q
structure Om(ns:Φ)(off:List (List bQ)):Prop where
 len:off.length=ns.length
 few:ns.length<=1000
 fews:∀ds∈off,ds.length<=1000
def oV(D:Adr):ST:=λts q=>∃(s:Rat)(ns:Φ)(off:List (List bQ)),ts=[hlT D s ns off]/\q (.fz (.int (ns.length:Nat)))
theorem Qe(F:Fun K Bs Cr vX f fd)(T:Txt K mg D):cj P w K mg base CX0 1 f fd iI (spT K (oV D)):=by
 refine F.okT Qd (λts R hP=>by obtain⟨s,ns,off,e,_⟩:=hP;exact e ▸ rfl) λaf A outer s H E hr=>?_;refine⟨_,(bG (bM (bR Wu (by rfl) T.dF WH (bx (uh (Fm:=Fam D) (λC h=>⟨T.cl C h,T.z6 C h⟩) (qv 0)) bC)))),?_⟩;rintro _ R ⟨s,ns,off,rfl,q⟩;refine⟨xG D,_,rfl,?_⟩;rw[<- ak (f:=(Sum.inr:Str->Key))]at q;exact q
def zF(D:Adr):ST:=λts q=>∃(s:Rat)(ns:Φ)(off:List (List bQ))(k:Nat),ts=[hlT D s ns off,.int k]/\k<ns.length/\q (.fz .non)
theorem J5(F:Fun K qw qd lJ f fd)(T:Txt K mg D)(dN:OkT P w K mg base 1 ig iy nM)(fL:OkI P w K mg base CX0 1 D.Hall_size iI (spT K (oV D))):cj P w K mg base CX0 2 f fd gq (spT K (zF D)):=by
 refine F.okT z_ (λts R hP=>by obtain⟨s,ns,off,k,e,_⟩:=hP;exact e ▸ rfl) λaf A outer s H E hr=>?_;refine⟨_,(bG (cB (QW.qt (iZ (dB (cV (bI dN hr.md (by rfl) (bx (qv 1) bC)))) (gR (dB (QH LC vK bA (qv 1) (Dy (qv 0) T.jW T.u5 fL hr.md (KS:=mV)))))))
  (bG fQ)
  bT)),?_⟩
 rintro _ R ⟨s,ns,off,k,rfl,hk,q⟩;refine⟨_,_,rfl,rfl,⟨rfl,rfl⟩,_,_,_,rfl,?_⟩;show sw (!decide ((k:Int)<(ns.length:Nat))) _ _;rw[Zs (show(k:Int)<(ns.length:Nat)by lia)];exact q
def tL(D:Adr):ST:=λts q=>∃(s:Rat)(ns:Φ)(off:List (List bQ))(k:Nat)(ds:List bQ),ts=[hlT D s ns off,.int k]/\Om ns off/\off[k]?=some ds/\q (.l1 (ds.map ofT))
theorem dM{α:Type}{l:List α}{h:α->T}{k:Nat}{a:α}(e:l[k]?=some a):ixT (l.map h) (k:Nat)=some (h a):=by
 show nth (l.map h) k=_;rw[sJ,aq,e];rfl
theorem XR(F:Fun K wZ wY ni f fd)(T:Txt K mg D)(j_:OkI P w K mg base CX0 2 D.Hall_check_room gq (spT K (zF D))):cj P w K mg base CX0 3 f fd eX (spT K (tL D)):=by
 refine F.okT IV (λts R hP=>by obtain⟨s,ns,off,k,ds,e,_⟩:=hP;exact e ▸ rfl) λaf A outer s H E hr=>?_;refine⟨_,(bF (jF (Dp (qv 0) T.jW T.Ao j_ hr.md (bx (qv 1) bC) (KS:=mV)))
  (bG (bM (dH (bH ni) rF rF ["name","pay","numbered"] (cH (bJ (uh (Fm:=Fam D) (λC h=>⟨T.cl C h,T.JW C h⟩) (qv 0)) (qv 1))) (fD (n:=3) rfl (bU (eU (i:=0)) (bU (eU (i:=1)) (bU (eU (i:=2)) dO)))) cF (dg (bx (qv 0) (bx (qv 1) (bx (pQ Cu (by rfl) T.uo boot_list (bx (qv 2) bC)) bC)))))))),?_⟩
 rintro _ R ⟨s,ns,off,k,ds,rfl,h,e,q⟩;have lk:k<ns.length:=by rw[<- h.len];exact(ao.mp e).1
 refine⟨⟨rfl,rfl⟩,s,ns,off,k,rfl,lk,xG D,_,rfl,.lst (ds.map ofT),dM (h:=λds=>L2.T.lst (ds.map ofT)) e,by rw[ak];exact aL (h.fews ds (aC e)) (by decide),comp_map ofT ofT ds (λo _ N M hN=>⟨rfl,hN⟩) q⟩
open Rw (vr iC gU nG gcL gw gB rK kE Big p7 jo mG jE mY fU)
noncomputable abbrev Row:=List Int×Int
noncomputable abbrev rwT(r:Row):T:=.tup [.lst (r.1.map T.int),.int r.2]
noncomputable def NN:Nat:=10^600
theorem afg{i:Int}(h:i.natAbs<=NN*NN*NN):Bd i:=Y3 h (by decide +kernel)
theorem bdN{i:Int}(h:i.natAbs<=NN):Bd i:=afg (aL h (by decide +kernel))
theorem ab6{i:Int}(h:i.natAbs<=NN*NN):Bd i:=afg (aL h (by decide +kernel))
theorem ade{a b:Int}{m n:Nat}(h1:a.natAbs<=m)(h2:b.natAbs<=n):(a*b).natAbs<=m*n:=by rw[VX];exact W1 h1 h2
theorem tO{a b:Int}(h:0<b):Int.fdiv a b=a/b:=Zzv _ (XY h)
def Er:ST:=λts q=>∃r:Row,ts=[.lst (r.1.map T.int),.int r.2]/\0<r.2/\Bd r.2/\r.1.length<=1000/\q (.fz (rwT (iC r)))
theorem XF(F:Fun K tH tH BR f fd)(dX:OkT P w K mg base 1 iz iu mj):cj P w K mg base CX0 2 f fd tV (spT K Er):=by
 refine F.okT zB (λts R hP=>by obtain⟨r,e,_⟩:=hP;exact e ▸ rfl) λaf A outer s H E hr=>?_;refine⟨_,(bF (bO 2 zB.nd (Or.inr rfl) (qv 1))
  (bF (dJ VZ rfl (cH (qv 0)) (b_ (n:=99) 3 zB.nd (Or.inl rfl))
  (bG (bO 2 zB.nd (Or.inr rfl) (bI dX hr.md (by rfl) (bx (qv 3) (bx (qv 2) bC))))))
  (bG (bM (dg (bx (dH (bH BR) Tw ["tops","bottom","common","?top"] ["top"] (cH (qv 0)) (eU (i:=0)) cF (bL lX (qv 0) (qv 3))) (bx (bL lX (qv 1) (qv 2)) bC))))))),?_⟩
 rintro _ R ⟨⟨tops,b⟩,rfl,hb,bb,tl,q⟩;have hb:0<b:=hb;have bb:Bd b:=bb;refine f9 L2.T.int tops (λas o=>∃x,o=[.fz (.lst (tops.map L2.T.int)),.fz (.int b),.fz (.int (gcL as b)),x]) ⟨_,rfl⟩ ?_ ?_
 .rintro as a bs _ e ⟨x,rfl⟩;refine⟨_,_,rfl,.fz (.int a),?_⟩;rw[show gcL (as++[a]) b=((Int.gcd a (gcL as b):Nat):Int)from by unfold gcL;rw[List.foldl_append];rfl]
  rfl
 .rintro _ ⟨x,rfl⟩;have g0:=gw (ts:=tops) hb;have g1:Bd (gcL tops b):=LQ (by have:=rK (ts:=tops) hb;omega) bb;refine⟨by rw[ak];exact aL tl (by decide),comp_map L2.T.int (λt=>.int (t/gcL tops b)) tops (λt ht N M hN=>⟨⟨by exact WS g0,g1⟩,?_⟩) ⟨⟨by exact WS g0,g1⟩,?_⟩⟩
  .rw[tO g0];exact hN
  .rw[tO g0];have:(iC (tops,b)).1.map L2.T.int=tops.map λt=>.int (t/gcL tops b):=WP;rw[<- this];exact q
structure Fn(c:Rat):Prop where
 n:c.num.natAbs<=NN
 d:c.den<=NN
noncomputable abbrev pr(c:Rat):Int×Int:=(c.num,c.den)
def C_:ST:=λts q=>∃(r:Row)(c:Rat),ts=[rwT r,frR c]/\Big NN r/\r.1.length<=1000/\Fn c/\q (.fz (rwT (iC (gU r (pr c)))))
theorem P_(F:Fun K oR oR qI f fd)(T:Txt K mg D)(tu:OkT P w K mg base 2 tH tV Er):cj P w K mg base CX0 3 f fd oK (spT K C_):=by
 refine F.okT Mh (λts R hP=>by obtain⟨r,c,e,_⟩:=hP;exact e ▸ rfl) λaf A outer s H E hr=>?_;refine⟨_,(bG (bM (bI tu hr.md (by rfl) (bx (dH (bH qI) xX xX ["top"] (cH (bJ (qv 0) bA)) (eU (i:=0)) cF (bL cG (qv 0) (bJ (qv 2) bA))) (bx (bL cG (bJ (qv 0) bA) (bJ (qv 1) bA)) bC))))),?_⟩;rintro _ R ⟨r,c,rfl,hr,rl,hc,q⟩;have:=c.den_pos;have cd:((c.den:Nat):Int).natAbs<=NN:=hc.d;refine⟨by rw[ak];exact aL rl (by decide),comp_map L2.T.int (λt=>.int (t*c.num)) r.1 (λt ht N M hN=>⟨⟨bdN (hr.top t ht),bdN hc.n⟩,hN⟩) ⟨⟨bdN hr.bot,bdN cd⟩,gU r (pr c),?_,XZ hr.pos (show(0:Int)<(c.den:Nat)by lia),ab6 (ade hr.bot cd),by show(r.1.map _).length<=1000;rw[ak];exact rl,q⟩⟩;show _=[L2.T.lst ((r.1.map λt=>t*c.num).map L2.T.int),.int (r.2*c.den)];rw[WP]
 rfl
def Fq:ST:=λts q=>∃(r o:Row)(c:Rat),ts=[rwT r,rwT o,frR c]/\Big NN r/\Big NN o/\r.1.length<=1000/\o.1.length=r.1.length/\Fn c/\q (.fz (rwT (iC (nG r o (pr c)))))
theorem SJ(F:Fun K qR qR vg f fd)(T:Txt K mg D)(dX:OkT P w K mg base 1 iz iu mj)(tu:OkT P w K mg base 2 tH tV Er):cj P w K mg base CX0 3 f fd rA (spT K Fq):=by
 refine F.okT jO (λts R hP=>by obtain⟨r,o,c,e,_⟩:=hP;exact e ▸ rfl) λaf A outer s H E hr=>?_;refine⟨_,(bF (bO 3 jO.nd (Or.inl rfl) (bL cG (bJ (qv 1) bA) (bJ (qv 2) bA)))
  (bF (bO 4 jO.nd (Or.inl rfl) (bI dX hr.md (by rfl) (bx (bJ (qv 0) bA) (bx (qv 3) bC))))
  (bF (bO 5 jO.nd (Or.inr rfl) (bL lX (qv 3) (qv 4)))
  (bF (bO 6 jO.nd (Or.inr rfl) (bL cG (bL lX (bJ (qv 0) bA) (qv 4)) (bJ (qv 2) bA)))
  (bF (uE (bH vg) Aq Aq ["one","another"] (DX (by rfl) T.Lk (bx (bJ (qv 0) bA) (bx (bJ (qv 1) bA) bC))) (fD (n:=2) rfl (bU (eU (i:=0)) (bU (eU (i:=1)) dO))) cF (bL cR (bL cG (qv 0) (qv 7)) (bL cG (qv 1) (qv 8))) (m6 (i:=7) jO.nd rfl (Or.inl rfl)))
  (bG (bM (bI tu hr.md (by rfl) (bx (qv 7) (bx (bL cG (bJ (qv 0) bA) (qv 5)) bC)))))))))),?_⟩
 rintro _ R ⟨r,o,c,rfl,hr,ho,rl,ol,hc,q⟩;have:=c.den_pos;have cd:((c.den:Nat):Int).natAbs<=NN:=hc.d;have hB:0<o.2*(c.den:Int):=XZ ho.pos (by lia);have bB:=ade ho.bot cd;have g0:=mX (a:=r.2) (WS hB);have gr:((Int.gcd r.2 (o.2*(c.den:Int)):Nat):Int)≠0:=by exact WS g0
 have gl:Int.gcd r.2 (o.2*(c.den:Int))<=r.2.natAbs:=UY (by have:=hr.pos;omega) (Int.gcd_dvd_natAbs_left ..);have gb:Bd ((Int.gcd r.2 (o.2*(c.den:Int)):Nat):Int):=bdN (by have:=hr.bot;lia);have d2:(o.2*(c.den:Int)/((Int.gcd r.2 (o.2*(c.den:Int)):Nat):Int)).natAbs<=NN*NN:=aL (Int.natAbs_ediv_le_natAbs _ _) bB;have d1:(r.2/((Int.gcd r.2 (o.2*(c.den:Int)):Nat):Int)).natAbs<=NN:=aL (Int.natAbs_ediv_le_natAbs _ _) hr.bot;refine⟨⟨bdN ho.bot,bdN cd⟩,_,_,rfl,⟨gr,gb⟩,⟨gr,gb⟩,⟨by rw[tO g0];exact bdN d1,bdN hc.n⟩,?_⟩;rw[tO g0,tO g0];refine⟨by unfold Aj;rw[ak,VY,ak,ak,ol,UV];exact aL rl (by decide),?_⟩;rw[zip_map];refine comp_map (λp=>.tup [.int p.1,.int p.2]) (λp=>.int (p.1*(o.2*(c.den:Int)/((Int.gcd r.2 (o.2*(c.den:Int)):Nat):Int))+p.2*(r.2/((Int.gcd r.2 (o.2*(c.den:Int)):Nat):Int)*c.num))) (r.1.zip o.1) (λp hp N M hN=>⟨rfl,⟨bdN (hr.top _ (UX hp).1),ab6 d2⟩,⟨bdN (ho.top _ (UX hp).2),ab6 (ade d1 hc.n)⟩,hN⟩) ⟨⟨bdN hr.bot,ab6 d2⟩,nG r o (pr c),?_,?_,afg ?_,?_,q⟩
 .show _=[L2.T.lst ((List.zipWith _ r.1 o.1).map L2.T.int),_];rw[List.map_zipWith,List.zip,List.map_zipWith]
  rfl
 .exact XZ hr.pos (Zzs hB (XY g0) (Qr ..))
 .rw[Nat.mul_assoc];exact ade hr.bot d2
 .show(List.zipWith _ r.1 o.1).length<=1000;rw[JY,ol,UV];exact rl
open Rw (vr iC gU nG gcL gw gB rK kE Big p7 jo mG jE mY fU)
inductive Stp where
 |swap (i j:Nat)|times (i:Nat) (c:Rat)|add (i j:Nat) (c:Rat)
def stT:Stp->T
 |.swap i j=>.tup [.str "swap",.int i,.int j]
 |.times i c=>.tup [.str "times",.int i,frR c]
 |.add i j c=>.tup [.str "add",.int i,.int j,frR c]
noncomputable def rAt(rs:List Row)(i:Nat):Row:=rs.getD i ([],1)
def yj(rs:List Row):Stp->List Row
 |.swap i j=>(rs.set i (rAt rs j)).set j (rAt rs i)
 |.times i c=>rs.set i (iC (gU (rAt rs i) (pr c)))
 |.add i j c=>rs.set i (iC (nG (rAt rs i) (rAt rs j) (pr c)))
def ajT(n:Nat):Stp->Prop
 |.swap i j=>i<n/\j<n
 |.times i c=>i<n/\Fn c
 |.add i j c=>i<n/\j<n/\Fn c
theorem zy{rs:List Row}{i:Nat}(h:i<rs.length):rs[i]?=some (rAt rs i):=by
 unfold rAt;rw[au,aj h];rfl
theorem eG{rs:List Row}{i:Nat}(h:i<rs.length):rAt rs i∈rs:=aC (zy h)
theorem Aw{n i:Nat}(h:i<n):ixN n ((i:Nat):Int)=some i:=by
 unfold ixN;rw[ZY (Wp _),ZY (by lia)];rfl
theorem uH{rs:List Row}{i:Nat}(h:i<rs.length):ixT (rs.map rwT) ((i:Nat):Int)=some (rwT (rAt rs i)):=dM (zy h)
structure Rws(rs:List Row)(wd:Nat):Prop where
 big:∀r∈rs,Big NN r
 wds:∀r∈rs,r.1.length=wd
 few:rs.length<=100
 wde:wd<=1000
def Dh:SO:=λar ts R=>∃(rs:List Row)(st:Stp)(wd:Nat),ar=[rs.map rwT]/\ts=[stT st]/\Rws rs wd/\ajT rs.length st/\R [(yj rs st).map rwT]
theorem M9(F:Fun K pH pH xU f fd)(T:Txt K mg D)(vV:OkT P w K mg base 3 oR oK C_)(z8:OkT P w K mg base 3 qR rA Fq):cj P w K mg base CX0 4 f fd o8 (spO K Dh):=by
 refine F.okO Bw (λar ts R ⟨rs,st,wd,e1,e2,_⟩=>by rw[e1,e2];rfl) (by decide) λaf A outer s H E hr=>?_;refine⟨_,(bF (bO 2 Bw.nd (Or.inl rfl) (tY 0 (bJ (qv 1) bA)))
  (bG (cB (bY (go_eq hr.units) (bJ (qv 1) bA) uZ)
  (bF (DW 0 (tY 0 (bJ (qv 1) bA)) (bJ (qv 1) bA))
  (bG (DW 0 (qv 2) (bJ (qv 1) bA))))
  (bG (cB (bY (go_eq hr.units) (bJ (qv 1) bA) uZ)
  (bG (DW 0 (bI vV hr.md (by rfl) (bx (qv 2) (bx (bJ (qv 1) bA) bC))) (bJ (qv 1) bA)))
  (bG (DW 0 (bI z8 hr.md (by rfl) (bx (qv 2) (bx (tY 0 (bJ (qv 1) bA)) (bx (bJ (qv 1) bA) bC)))) (bJ (qv 1) bA)))))))),?_⟩
 rintro as ar ts R tl ⟨rs,st,wd,rfl,rfl,h,hs,q⟩;obtain⟨a,rfl⟩ : ∃a,as=[a]:=by
  match as,tl with
  |[a],_=>exact⟨a,rfl⟩
 have bn:∀(L:List L2.T)(x y:OT),R [L]->∃a8,(∀j,slot [.la a L,x,y] j=slot (List.zipWith OT.la [a] a8) j\/[a].length<=j)/\a8.length=[a].length/\R a8:=λL x y q=>⟨[L],λj=>by
  cases j with
  |zero=>exact .inl rfl
  |succ j=>exact .inr (by simp),rfl,q⟩
 have lm:(rs.map rwT).length=rs.length:=ak _
 match st,hs,q with
 |.swap i j,hs,q =>
  refine⟨_,uH hs.1,_,uH hs.2,i,Aw (lm ▸ hs.1),j,Aw (by rw[VU,lm];exact hs.2),bn _ _ _ ?_⟩;rw[yj,List.map_set,List.map_set]at q;exact q
 |.times i c,hs,q =>
  have m:=eG hs.1;refine⟨_,uH hs.1,rAt rs i,c,rfl,h.big _ m,by rw[h.wds _ m];exact h.wde,hs.2,i,Aw (lm ▸ hs.1),bn _ _ _ ?_⟩;rw[yj,List.map_set]at q;exact q
 |.add i j c,hs,q =>
  have m:=eG hs.1;have n:=eG hs.2.1;refine⟨_,uH hs.1,_,uH hs.2.1,rAt rs i,rAt rs j,c,rfl,h.big _ m,h.big _ n,by rw[h.wds _ m];exact h.wde,by rw[h.wds _ m,h.wds _ n],hs.2.2,i,Aw (lm ▸ hs.1),bn _ _ _ ?_⟩;rw[yj,List.map_set]at q;exact q
open Rw (vr iC gU nG gcL gw gB rK kE Big p7 jo mG jE mY fU)
def um:ST:=λts q=>∃(r:Row)(k:Nat),ts=[rwT r,.int k]/\k<r.1.length/\Big NN r/\q (.fz (frR (vr r k)))
theorem Ma(F:Fun K kO kO w6 f fd)(dU:OkT P w K mg base 2 nJ nC sY):cj P w K mg base CX0 3 f fd lM (spT K um):=by
 refine F.okT Og (λts R hP=>by obtain⟨r,k,e,_⟩:=hP;exact e ▸ rfl) λaf A outer s H E hr=>?_;refine⟨_,(bG (bM (bI dU hr.md (by rfl) (bx (bJ (bJ (qv 0) bA) (qv 1)) (bx (bJ (qv 0) bA) bC))))),?_⟩;rintro _ R ⟨r,k,rfl,hk,hr,q⟩;have h0:=hr.pos;refine⟨_,dM (aj hk),_,_,rfl,by exact WS h0,bdN hr.bot,λx y l=>?_⟩;rw[iK l (WS h0),UP];unfold vr at q;rw[au,aj hk]at q;exact q
def vq:ST:=λts q=>∃(rs:List Row)(wd:Nat),ts=[.lst (rs.map rwT)]/\Rws rs wd/\q (.l1 (rs.map λr=>.lst ((List.range wd).map λk=>frR (vr r k))))
theorem Ge(F:Fun K jB jB g_ f fd)(dU:OkT P w K mg base 2 nJ nC sY):cj P w K mg base CX0 3 f fd jG (spT K vq):=by
 refine F.okT FQ (λts R hP=>by obtain⟨r,k,e,_⟩:=hP;exact e ▸ rfl) λaf A outer s H E hr=>?_;refine⟨_,(bG (bM (ab5 (bH g_) iD iD "row" (cH (qv 0)) aes cF (WK (bH g_) ("row"::iD) ("row"::iD) ["top"] (cH (bJ (qv 0) bA)) (eU (i:=0)) cF (bI dU hr.md (by rfl) (bx (qv 0) (bx (bJ (qv 1) bA) bC))))))),?_⟩;rintro _ R ⟨rs,wd,rfl,h,q⟩;refine⟨by rw[ak];exact aL h.few (by decide),comp_map rwT (λr=>.lst ((List.range wd).map λk=>frR (vr r k))) rs (λr hr N M hN=>⟨by rw[ak,h.wds r hr];exact aL h.wde (by decide),?_⟩) q⟩;have hb:=h.big r hr;have h0:=hb.pos;refine comp_map T.int (λt=>frR ((t:Rat)/(r.2:Rat))) r.1 (λt ht N M hN=>⟨_,_,rfl,by exact WS h0,bdN hb.bot,λx y l=>by rw[iK l (WS h0),UP];exact hN⟩) ?_;have e:(r.1.map λt:Int=>frR ((t:Rat)/(r.2:Rat)))=(List.range wd).map λk=>frR (vr r k):=by
  refine QR (by rw[ak,ak,WJ,h.wds r hr]) λn h1 h2=>?_;rw[ak]at h1;rw[UU,UU,QQ];unfold vr;rw[au,aj h1]
  rfl
 rw[e];exact hN
theorem abI{lo n i:Nat}{t:T}(e:(rng (lo:Nat) n)[i]?=some t):i<n/\t=.int ((lo+i:Nat):Int):=by
 unfold rng at e;rw[aq]at e;by_cases hi:i<n
 .rw[VT hi]at e;cases e;exact⟨hi,rfl⟩
 .rw[aM (by simpa using hi)]at e;cases e
theorem Zi{r:Row}{k:Nat}(h:0<r.2)(hk:k<r.1.length):vr r k=0↔r.1[k]=0:=by
 have e:vr r k=(r.1[k] : Rat)/(r.2:Rat):=by unfold vr;rw[au,aj hk];rfl
 have n:(r.2:Rat)≠0:=λz=>by have:=Rat.intCast_eq_zero_iff.mp z;lia
 rw[e];constructor
 .intro z;have:(r.1[k] : Rat)=0:=by grind
  exact Rat.intCast_eq_zero_iff.mp this
 .intro z;rw[z];grind
def zM:ST:=λts R=>∃(rs:List Row)(wd p k:Nat),ts=[.lst (rs.map rwT),.int p,.int k]/\Rws rs wd/\p<=rs.length/\k<wd/\(∀q,p<=q->q<rs.length->vr (rAt rs q) k≠0->R (.fz (.int q)))/\((∀i,p<=i->i<rs.length->vr (rAt rs i) k=0)->R (.fz .non))
theorem Kl(F:Fun K mF mF uD f fd)(T:Txt K mg D):cj P w K mg base CX0 1 f fd mU (spT K zM):=by
 refine F.okT zP (λts R hP=>by obtain⟨r,_,_,k,e,_⟩:=hP;exact e ▸ rfl) λaf A outer s H E hr=>?_;refine⟨_,(bF (dJ VZ rfl (Ls (by rfl) T.dZ (bx (qv 1) (bx (bR cN (by rfl) T.dF WH (bx (qv 0) bC)) bC))) (b_ (n:=99) 3 zP.nd (Or.inl rfl))
  (bG (cB (bY (nQ hr.units) (bJ (bJ (bJ (qv 0) (qv 3)) bA) (qv 2)) bA)
  (bG (bM (qv 3)))
  bT)))
  (bG (bM gA))),?_⟩
 rintro _ R ⟨rs,wd,p,k,rfl,h,hp,hk,q,q0⟩;have at_:∀i,i<rs.length->k<(rAt rs i).1.length:=λi hi=>by rw[h.wds _ (eG hi)];exact hk
 have few:=h.few;have lm:(rs.map rwT).length=rs.length:=ak _;refine⟨⟨by lia,by lia,by lia,by lia⟩,Br (λi o=>∃x,o=[.fz (.lst (rs.map rwT)),.fz (.int p),.fz (.int k),x]/\∀j,p<=j->j<p+i->vr (rAt rs j) k=0) _ 0 ⟨_,rfl,λj _ _=>by lia⟩ (λi t o e z=>?_) λo z=>?_⟩
 .obtain⟨hi,rfl⟩:=abI e;rw[lm]at hi;have eL:p+i<rs.length:=by omega
  obtain⟨x,rfl,hz⟩:=z;have v0:=Zi (h.big _ (eG eL)).pos (at_ _ eL);refine⟨_,uH eL,_,dM (aj (at_ _ eL)),?_⟩;by_cases c:(rAt rs (p+i)).1[k]'(at_ _ eL)=0
  .refine swF (by show xr true (decide (_=_))=false;rw[Zs c];rfl) ⟨_,rfl,λj hj hl=>?_⟩;by_cases ej:j=p+i
   .rw[ej];exact v0.mpr c
   .exact hz j hj (by lia)
  .exact swT (by show xr true (decide (_=_))=true;rw[Zp c];rfl) (q _ (X2 _ _) eL λz=>c (v0.mp z))
 .obtain⟨x,rfl,hz⟩:=z;refine q0 λj hj hl=>hz j hj ?_;unfold rng;rw[ak,WJ,lm];lia
def HN:SO:=λar ts R=>∃(rs:List Row)(ss:List T)(st:Stp)(wd:Nat),ar=[rs.map rwT,ss]/\ts=[stT st]/\Rws rs wd/\ajT rs.length st/\ss.length<sizeLine/\R [(yj rs st).map rwT,ss++[stT st]]
theorem Zw(F:Fun K wu wu N_ f fd)(yt:OkF P w K mg base 4 pH o8 (spO K Dh)):cj P w K mg base CX0 5 f fd yC (spO K HN):=by
 refine F.okO ZQ (λar ts R ⟨rs,ss,st,wd,e1,e2,_⟩=>by rw[e1,e2];rfl) (by decide) λaf A outer s H E hr=>?_;refine⟨_,(bF (aeW 0 yt hr.md (by rfl) (bx (qv 2) bC))
  (bG (nY 1 (qv 2)))),?_⟩
 rintro as ar ts R tl ⟨rs,ss,st,wd,rfl,rfl,h,hs,hl,q⟩;obtain⟨a,b,rfl⟩ : ∃a b,as=[a,b]:=by
  match as,tl with
  |[a,b],_=>exact⟨a,b,rfl⟩
 refine⟨rs,st,wd,rfl,rfl,h,hs,hl,[(yj rs st).map rwT,ss++[stT st]],λj=>?_,rfl,q⟩
 match j with
 |0=>exact .inl rfl
 |1=>exact .inl rfl
 |j+2=>exact .inr (by simp)
open Rw (vr iC gU nG gcL gw gB rK kE Big p7 jo mG jE mY fU)
theorem GZ{rs:List Row}{i:Nat}{r:Row}(h:i<rs.length)(j:Nat):rAt (rs.set i r) j=if j=i then r else rAt rs j:=by
 unfold rAt;rw[au,au,List.getElem?_set];by_cases e:i=j
 .subst e;rw[ZY rfl,ZY rfl,ZY h];rfl
 .rw[ZZ e,ZZ (Ne.symm e)]
theorem Fn.of{a b:Int}(hb:b≠0)(h1:a.natAbs<=NN)(h2:b.natAbs<=NN):Fn (Rat.divInt a b):=by
 have hg:=Zzt a hb;have low:∃x y,Low a b x y:=by
  rcases Int.lt_or_lt_of_ne hb with z|z
  .exact⟨_,_,xg (c:=-((Int.gcd a b:Nat):Int)) hb (by lia) (by lia) (Int.mul_pos_of_neg_of_neg (by lia) z)⟩
  .exact⟨_,_,xg (c:=((Int.gcd a b:Nat):Int)) hb (by lia) (by lia) (XZ (by lia) z)⟩
 obtain⟨x,y,l⟩:=low;have e:=iK l hb;injection e with e;injection e with e1 e;injection e with e2 e;injection e1 with e1;injection e2 with e2;exact⟨by rw[<- e1];exact aL l.lx h1,by have:=l.ly;lia⟩
theorem aal{r:Row}{k:Nat}(hk:k<r.1.length):vr r k=Rat.divInt r.1[k] r.2:=by
 unfold vr;rw[au,aj hk,UP];rfl
theorem Fn.vr{r:Row}{k:Nat}(h:Big NN r)(hk:k<r.1.length):Fn (vr r k):=by
 have:=h.pos;rw[aal hk];exact Fn.of (WS this) (h.top _ (aU _)) h.bot
theorem Fn.inv{c:Rat}(h:Fn c)(h0:c≠0):Fn (1/c):=by
 have nb:c.num≠0:=λz=>h0 (by rw[<- rd c,z];exact TK _);rw[Rat.div_def,Rat.one_mul,Rat.inv_def];exact Fn.of nb h.d h.n
theorem Fn.neg{c:Rat}(h:Fn c):Fn (0-c):=by
 rw[Rat.sub_eq_add_neg,Rat.zero_add];exact⟨by show(-c.num).natAbs<=NN;rw[Int.natAbs_neg];exact h.n,h.d⟩
theorem Fn.bq{c:Rat}(h:Fn c):Bq c:=⟨bdN h.n,bdN h.d⟩
theorem Rws.fn{rs:List Row}{wd i k:Nat}(h:Rws rs wd)(hi:i<rs.length)(hk:k<wd):Fn (Rw.vr (rAt rs i) k):=Fn.vr (h.big _ (eG hi)) (by rw[h.wds _ (eG hi)];exact hk)
theorem Rws.of{rs dt:List Row}{wd:Nat}(h:Rws rs wd)(hl:dt.length=rs.length)(hr:∀i,i<rs.length->Big NN (rAt dt i)/\(rAt dt i).1.length=wd):Rws dt wd:=by
 have:∀r∈dt,Big NN r/\r.1.length=wd:=λr hm=>by
  obtain⟨i,hi,e0⟩:=List.getElem_of_mem hm;have e:=zy hi;rw[aj hi,e0]at e;injection e with e;rw[e];exact hr i (hl ▸ hi)
 exact⟨λr hm=>(this r hm).1,λr hm=>(this r hm).2,hl ▸ h.few,h.wde⟩
theorem Jm(rs:List Row)(st:Stp):(yj rs st).length=rs.length:=by cases st<;>simp[yj]
def bgP(r:Row)(k:Nat):Row:=if vr r k=1 then r else iC (gU r (pr (1/vr r k)))
def bgA(rs:List Row)(p q k i:Nat):Row:=if i=p then bgP (rAt rs q) k else rAt rs (Rw.sw p q i)
def swR(rs:List Row)(p q:Nat):List Row:=if q=p then rs else yj rs (.swap p q)
theorem acU(rs:List Row)(p q:Nat):(swR rs p q).length=rs.length:=by
 unfold swR;split
 .rfl
 .exact Jm _ _
theorem afm{rs:List Row}{p q:Nat}(hp:p<rs.length)(hq:q<rs.length)(i:Nat):rAt (swR rs p q) i=rAt rs (Rw.sw p q i):=by
 unfold swR Rw.sw;by_cases e:q=p
 .subst e;rw[ZY rfl];by_cases c:i=q
  .rw[ZY c,c]
  .rw[ZZ c,ZZ c]
 .rw[ZZ e];show rAt ((rs.set p (rAt rs q)).set q (rAt rs p)) i=_;rw[GZ (by rw[VU];exact hq),GZ hp];by_cases c:i=q
  .subst c;rw[ZY rfl,ZZ e,ZY rfl]
  .rw[ZZ c];by_cases d:i=p
   .rw[ZY d,ZY d]
   .rw[ZZ d,ZZ d,ZZ c]
def CN:SO:=λar ts R=>∃(rs:List Row)(ss:List T)(wd p q k:Nat),ar=[rs.map rwT,ss]/\ts=[.int p,.int q,.int k]/\Rws rs wd/\p<rs.length/\q<rs.length/\k<wd/\vr (rAt rs q) k≠0/\ss.length+2<sizeLine /\
 ∀dt h8,dt.length=rs.length->(∀i,i<rs.length->rAt dt i=bgA rs p q k i)->h8.length<=ss.length+2->R [dt.map rwT,h8]
theorem agF{x y:RS}{E:DT}{o:List OT}(J:List OT->Prop)(k:∀o',J o'->y E o')(h:(∀o',J o'->y E o')->jc x y E o):jc x y E o:=h k
theorem eqR(v u:Rat):(decide (v.num=u.num)&&decide (((v.den:Nat):Int)=u.den))=decide (v=u):=by
 rw[<- Bool.decide_and];refine decide_eq_decide.mpr ⟨λ⟨a,b⟩=>Rat.ext a (by lia),λz=>by rw[z];exact⟨rfl,rfl⟩⟩
theorem fin2{R:List (List T)->Prop}{a b:Addr}(L M:List T){o:List OT}(q:R [L,M]):∃a8,(∀j,slot (.la a L::.la b M::o) j=slot (List.zipWith OT.la [a,b] a8) j\/[a,b].length<=j)/\a8.length=[a,b].length/\R a8:=⟨[L,M],λj=>by
 match j with
 |0=>exact .inl rfl
 |1=>exact .inl rfl
 |j+2=>exact .inr (by simp),rfl,q⟩
theorem Zj{α β:Type}{as:List α}{x y:β}(tl : [x,y].length=as.length):∃a b,as=[a,b]:=by
 match as,tl with
 |[a,b],_=>exact⟨a,b,rfl⟩
theorem Ng(F:Fun K o9 o9 yx f fd)(T:Txt K mg D)(uO:OkF P w K mg base 5 wu yC (spO K HN))(jU:OkT P w K mg base 3 kO lM um)(Ut:OkT P w K mg base 3 G4 Hv Ws):cj P w K mg base CX0 6 f fd pB (spO K CN):=by
 refine F.okO CJ (λar ts R ⟨rs,ss,wd,p,q,k,e1,e2,_⟩=>by rw[e1,e2];rfl) (by decide) λaf A outer s H E hr=>?_;refine⟨_,(bF (cB (bY (nQ hr.units) (qv 3) (qv 2))
  (bG (Ji 0 1 uO hr.md (by rfl) (bx (dg (bx uZ (bx (qv 2) (bx (qv 3) bC)))) bC)))
  bT)
  (bF (bO 5 CJ.nd (Or.inl rfl) (bI jU hr.md (by rfl) (bx (tY 0 (qv 2)) (bx (qv 4) bC))))
  (bG (cB (bY (nQ hr.units) (qv 5) (lR (by rfl) T.Fy T.vL))
  (bG (Ji 0 1 uO hr.md (by rfl) (bx (dg (bx uZ (bx (qv 2) (bx (bI Ut hr.md (by rfl) (bx (lR (by rfl) T.Fy T.vL) (bx (qv 5) bC))) bC)))) bC)))
  bT)))),?_⟩
 rintro as ar ts R tl ⟨rs,ss,wd,p,q,k,rfl,rfl,h,hp,hq,hk,h0,hl,ok⟩;obtain⟨a,b,rfl⟩:=Zj tl;have sl:=acU rs p q;have sa:=afm hp hq;have gy:Rw.sw p q p=q:=ZY rfl;have swl:∀i,i<rs.length->Rw.sw p q i<rs.length:=λi hi=>by
  unfold Rw.sw;split
  .exact hq
  .split<;>omega
 have hS:Rws (swR rs p q) wd:=h.of sl λi hi=>by rw[sa];exact⟨h.big _ (eG (swl i hi)),h.wds _ (eG (swl i hi))⟩
 refine agF (λo=>∃dL,o=[.la a ((swR rs p q).map rwT),.la b dL,.fz (.int p),.fz (.int q),.fz (.int k),.und]/\dL.length<=ss.length+1) ?_ λgo=>?_
 .rintro _ ⟨dL,rfl,l1⟩;have db:p<(swR rs p q).length:=by lia
  have hk':k<(rAt (swR rs p q) p).1.length:=by rw[hS.wds _ (eG db)];exact hk
  have fn:=hS.fn db hk;refine⟨_,uH db,_,k,rfl,hk',hS.big _ (eG db),?_⟩;have v:vr (rAt (swR rs p q) p) k=vr (rAt rs q) k:=by rw[sa,gy]
  rw[v];rw[v]at fn;by_cases e:vr (rAt rs q) k=1
  .refine swF (by show xr true (_&&_)=false;rw[show(decide ((vr (rAt rs q) k).num=1)&&decide (((vr (rAt rs q) k).den:Int)=1))=_ from eqR _ 1,Zs e];rfl) (fin2 _ _ (ok _ _ sl (λi hi=>?_) (aL l1 (Xs _))));rw[sa];unfold bgA bgP;split
   .rename_i c;rw[c,gy]
   .rfl
  .refine swT (by show xr true (_&&_)=true;rw[show(decide ((vr (rAt rs q) k).num=1)&&decide (((vr (rAt rs q) k).den:Int)=1))=_ from eqR _ 1,Zp e];rfl) ⟨1,_,rfl,h0,bq1,fn.bq,by show Bd (1*_);rw[JU];exact bdN fn.n,swR rs p q,dL,.times p (1/vr (rAt rs q) k),wd,rfl,rfl,hS,⟨db,fn.inv h0⟩,by lia,fin2 _ _ (ok _ _ (by rw[Jm];exact sl) (λi hi=>?_) (by rw[aA];show _+1<=_;exact Nat.succ_le_succ l1))⟩;show rAt ((swR rs p q).set p _) i=_;rw[GZ db,sa,sa,gy];unfold bgA bgP;split
   .rfl
   .rfl
 .by_cases e:q=p
  .refine swF (by show xr true (decide (_=_))=false;rw[Zs (by lia)];rfl) (go [.la a (rs.map rwT),.la b ss,.fz (.int p),.fz (.int q),.fz (.int k),.und] ⟨ss,?_,by exact Xs _⟩);unfold swR;rw[ZY e]
  .refine swT (by show xr true (decide (_=_))=true;rw[Zp (by lia)];rfl) ⟨rs,ss,.swap p q,wd,rfl,rfl,h,⟨hp,hq⟩,by lia,go [.la a ((yj rs (.swap p q)).map rwT),.la b (ss++[stT (.swap p q)]),.fz (.int p),.fz (.int q),.fz (.int k),.und] ⟨ss++[stT (.swap p q)],?_,by simp⟩⟩;unfold swR;rw[ZZ e]
open Rw (vr iC gU nG gcL gw gB rK kE Big p7 jo mG jE mY fU)
def clA(rs:List Row)(p k i:Nat):Row:=if i=p\/vr (rAt rs i) k=0 then rAt rs i else iC (nG (rAt rs i) (rAt rs p) (pr (0-vr (rAt rs i) k)))
def vA:SO:=λar ts R=>∃(rs:List Row)(ss:List T)(wd p k:Nat),ar=[rs.map rwT,ss]/\ts=[.int p,.int k]/\Rws rs wd/\p<rs.length/\k<wd/\ss.length+rs.length<sizeLine/\(∀i,i<rs.length->Big NN (clA rs p k i)) /\
 ∀dt h8,dt.length=rs.length->(∀i,i<rs.length->rAt dt i=clA rs p k i)->h8.length<=ss.length+rs.length->R [dt.map rwT,h8]
theorem abK{rs:List Row}{p k i wd:Nat}(h:Rws rs wd)(hp:p<rs.length)(hi:i<rs.length):(clA rs p k i).1.length=wd:=by
 unfold clA;split
 .exact h.wds _ (eG hi)
 .rw[jE];show(List.zipWith _ (rAt rs i).1 (rAt rs p).1).length=wd;rw[JY,h.wds _ (eG hi),h.wds _ (eG hp),UV]
theorem Gv(F:Fun K jA jA qe f fd)(T:Txt K mg D)(uO:OkF P w K mg base 5 wu yC (spO K HN))(jU:OkT P w K mg base 3 kO lM um)(oA:OkT P w K mg base 3 tK sZ Dj):cj P w K mg base CX0 6 f fd jw (spO K vA):=by
 refine F.okO n6 (λar ts R ⟨rs,ss,wd,p,k,e1,e2,_⟩=>by rw[e1,e2];rfl) (by decide) λaf A outer s H E hr=>?_;refine⟨_,(bG (dJ VZ rfl (c7 (by rfl) T.dZ (bx (L_ 0 (bR cN (by rfl) T.dF WH (bx (qv 0) bC))) bC)) (b_ (n:=99) 4 n6.nd (Or.inl rfl))
  (bG (cB (QW.qt (Np (bY (nQ hr.units) (qv 4) (qv 2)) (Hi (bY (nQ hr.units) (bJ (bJ (tY 0 (qv 4)) bA) (qv 3)) bA))))
  (bF (bO 5 n6.nd (Or.inl rfl) (bI oA hr.md (by rfl) (bx (lR (by rfl) T.ji T.gP) (bx (bI jU hr.md (by rfl) (bx (tY 0 (qv 4)) (bx (qv 3) bC))) bC))))
  (bG (Ji 0 1 uO hr.md (by rfl) (bx (dg (bx uZ (bx (qv 4) (bx (qv 2) (bx (qv 5) bC))))) bC))))
  bT)))),?_⟩
 rintro as ar ts R tl ⟨rs,ss,wd,p,k,rfl,rfl,h,hp,hk,hl,hb,ok⟩;obtain⟨a,b,rfl⟩:=Zj tl;have lm:(rs.map rwT).length=rs.length:=ak _;have few:=h.few;refine⟨trivial,⟨by lia,by lia⟩,ju (λn o=>∃c6 dL x y,o=[.la a (c6.map rwT),.la b dL,.fz (.int p),.fz (.int k),x,y]/\c6.length=rs.length/\(∀i,i<rs.length->rAt c6 i=if i<n then clA rs p k i else rAt rs i)/\dL.length<=ss.length+n) ⟨rs,ss,_,_,rfl,rfl,λi _=>by rw[ZZ (WV _)],aG _⟩ ?_ ?_⟩
 .rintro n _ hn ⟨c6,dL,x,y,rfl,l1,gp,s1⟩;have hn:n<rs.length:=by rw[lm]at hn;lia
  have rn:rAt c6 n=rAt rs n:=by rw[gp n hn,ZZ (X9 _)]
  have rp:rAt c6 p=rAt rs p:=by
   rw[gp p hp];split
   .unfold clA;rw[ZY (.inl rfl)]
   .rfl
  have h1:Rws c6 wd:=h.of l1 λi hi=>by
   rw[gp i hi];split
   .exact⟨hb i hi,abK h hp hi⟩
   .exact⟨h.big _ (eG hi),h.wds _ (eG hi)⟩
  have stay:clA rs p k n=rAt rs n->∀i,i<rs.length->rAt c6 i=if i<n+1 then clA rs p k i else rAt rs i:=λe i hi=>by
   rw[gp i hi];by_cases c:i=n
   .subst c;rw[ZZ (X9 _),ZY (X1 _),e]
   .by_cases d:i<n
    .rw[ZY d,ZY (WU _ d)]
    .rw[ZZ d,ZZ (by lia)]
  by_cases e:n=p
  .exact swF (by show xr true (decide (_=_))=false;rw[Zs (by lia)];rfl) ⟨c6,dL,_,_,rfl,l1,stay (ZY (.inl e)),by lia⟩
  .have gf:n<c6.length:=by lia
   have hk1:k<(rAt c6 n).1.length:=by rw[h1.wds _ (eG gf)];exact hk
   have v0:=Zi (h1.big _ (eG gf)).pos hk1;refine swT (by show xr true (decide (_=_))=true;rw[Zp (by lia)];rfl) ⟨_,uH gf,_,dM (aj hk1),?_⟩;by_cases c:(rAt c6 n).1[k]'hk1=0
   .exact swF (by show xr true (decide (_=_))=false;rw[Zs c];rfl) ⟨c6,dL,_,_,rfl,l1,stay (ZY (.inr (by rw[<- rn];exact v0.mpr c))),by lia⟩
   .have fn:=h1.fn gf hk;refine swT (by show xr true (decide (_=_))=true;rw[Zp c];rfl) ⟨_,uH gf,_,k,rfl,hk1,h1.big _ (eG gf),0,_,rfl,bq0,fn.bq,by show Bd (1*_);rw[JU];exact bdN fn.d,c6,dL,.add n p (0-vr (rAt c6 n) k),wd,rfl,rfl,h1,⟨gf,by lia,fn.neg⟩,by lia,yj c6 (.add n p (0-vr (rAt c6 n) k)),dL++[stT (.add n p (0-vr (rAt c6 n) k))],_,_,rfl,by rw[Jm];exact l1,λi hi=>?_,by rw[aA];show _+1<=_;lia⟩;show rAt (c6.set n _) i=_;rw[GZ gf,rn,rp];by_cases d:i=n
    .rw[ZY d,d,ZY (X1 _)];unfold clA;rw[ZZ λz=>z.elim e λz=>c (v0.mp (by rw[rn];exact z))]
    .rw[ZZ d,gp i hi];by_cases d':i<n
     .rw[ZY d',ZY (WU _ d')]
     .rw[ZZ d',ZZ (by lia)]
 .rintro _ ⟨c6,dL,x,y,rfl,l1,gp,s1⟩;rw[lm]at gp s1;exact fin2 _ _ (ok c6 dL l1 (λi hi=>by rw[gp i hi,ZY (by lia)]) (by lia))
open Rw (vr iC gU nG gcL gw gB rK kE Big p7 jo mG jE mY fU sg fY fG bW gD gQ)
theorem abm(c:Rat):(((pr c).1:Int):Rat)/(((pr c).2:Int):Rat)=c:=by rw[<- UP];exact rd c
theorem LR(c:Rat):0<(pr c).2:=by have:=c.den_pos;show(0:Int)<(c.den:Nat);lia
theorem V5{r:Row}(h:0<r.2):0<(iC r).2:=Zzs h (XY (gw h)) gB.1
theorem afZ{r:Row}{k:Nat}(h:0<r.2)(h0:vr r k≠0):0<(bgP r k).2/\(bgP r k).1.length=r.1.length/\(gcL (bgP r k).1 (bgP r k).2=1\/bgP r k=r)/\∀j,vr (bgP r k) j*vr r k=vr r j:=by
 unfold bgP;by_cases e:vr r k=1
 .rw[ZY e];exact⟨h,rfl,.inr rfl,λj=>by rw[e,Rat.mul_one]⟩
 .rw[ZZ e];have tp:0<(gU r (pr (1/vr r k))).2:=XZ h (LR _);refine⟨V5 tp,by rw[jE];unfold gU;rw[ak],.inl (kE tp),λj=>?_⟩;rw[p7 tp,jo h (LR _),abm]
  grind
theorem agP{rs:List Row}{p k i:Nat}(hi:0<(rAt rs i).2)(hp:0<(rAt rs p).2)(hl:(rAt rs i).1.length=(rAt rs p).1.length):0<(clA rs p k i).2/\(gcL (clA rs p k i).1 (clA rs p k i).2=1\/clA rs p k i=rAt rs i)/\∀j,vr (clA rs p k i) j=if i=p then vr (rAt rs p) j else vr (rAt rs i) j-vr (rAt rs i) k*vr (rAt rs p) j:=by
 unfold clA;by_cases e:i=p
 .rw[ZY (.inl e)];exact⟨hi,.inr rfl,λj=>by rw[ZY e,e]⟩
 .by_cases z:vr (rAt rs i) k=0
  .rw[ZY (.inr z)];exact⟨hi,.inr rfl,λj=>by rw[ZZ e,z];grind⟩
  .rw[ZZ λy=>y.elim e z];have tp:0<(nG (rAt rs i) (rAt rs p) (pr (0-vr (rAt rs i) k))).2:=by
    have hB:=XZ hp (LR (0-vr (rAt rs i) k));exact XZ hi (Zzs hB (XY (mX (WS hB))) (Qr _ _))
   refine⟨V5 tp,.inl (kE tp),λj=>?_⟩;rw[p7 tp,mG hi hp (LR _) hl,abm,ZZ e]
   grind
structure FnB(M:Nat)(c:Rat):Prop where
 n:c.num.natAbs<=M
 d:c.den<=M
theorem FnB.vr{M:Nat}{r:Row}{k:Nat}(h:Big M r)(hk:k<r.1.length):FnB M (Rw.vr r k):=by
 have hb:=h.pos;have hg:=Zzt r.1[k] (WS hb);have l:=xg (t:=r.1[k]) (c:=((Int.gcd r.1[k] r.2:Nat):Int)) (WS hb) (by lia) (by lia) (XZ (by lia) hb);have e:=iK l (WS hb);rw[aal hk];injection e with e;injection e with e1 e;injection e with e2 e;injection e1 with e1;injection e2 with e2;exact⟨by rw[<- e1];exact aL l.lx (h.top _ (aU _)),by have:=l.ly;have:=h.bot;omega⟩
structure B0(rs0:List Row)(wd N:Nat):Prop where
 big:∀i,i<rs0.length->Big N (rAt rs0 i)/\(rAt rs0 i).1.length=wd
 one:1<=N
 mb:(2*rs0.length*N)^rs0.length<=NN
 nn:N<=NN
abbrev aT(rs0:List Row)(i j:Nat):Int:=(rAt rs0 i).1.getD j 0
abbrev aB(rs0:List Row)(i:Nat):Int:=(rAt rs0 i).2
structure Gs(rs0:List Row)(wd N c:Nat)(rs:List Row):Prop where
 len:rs.length=rs0.length
 row:∀i,i<rs0.length->0<(rAt rs i).2/\(rAt rs i).1.length=wd/\(gcL (rAt rs i).1 (rAt rs i).2=1\/Big N (rAt rs i))
 st:∃pv s,fU (aT rs0) (aB rs0) rs0.length wd (λi j=>vr (rAt rs i) j) c pv s
 unit:∀i l,i<rs0.length->l<c->vr (rAt rs i) l=if i=l then 1 else 0
 ker:∀x:Nat->Rat,(∀i,i<rs0.length->sg (λj=>vr (rAt rs i) j*x j) wd=0)->∀i,i<rs0.length->sg (λj=>vr (rAt rs0 i) j*x j) wd=0
section
variable{rs0 rs:List Row}{wd N c q:Nat}
theorem B0.zero(h:B0 rs0 wd N):Gs rs0 wd N 0 rs0:=⟨rfl,λi hi=>⟨(h.big i hi).1.pos,(h.big i hi).2,.inr (h.big i hi).1⟩,⟨λ_=>0,id,fU.zero λi hi=>(h.big i hi).1.pos⟩,λ_ _ _ z=>absurd z (WV _),λ_ z=>z⟩
theorem amx{m N:Nat}(hm:1<=m)(h1:1<=N):N<=(2*m*N)^m:=by
  have x:N<=2*m*N:=Zzr _ (by lia);have y:1<=2*m*N:=W1 (show 1<=2*m by lia) h1
  calc N<=(2*m*N)^1:=by rw[Nat.pow_one];exact x
    _<=_:=XT y hm
theorem B0.sbigM(h:B0 rs0 wd N){R:Nat->Nat->Rat}{p:Nat}(st:∃pv s,fU (aT rs0) (aB rs0) rs0.length wd R p pv s){i:Nat}(hi:i<rs0.length){r:Row}(hr:0<r.2)(hw:r.1.length=wd)(g:gcL r.1 r.2=1\/Big N r)(e:∀j,j<wd->vr r j=R i j):Big ((2*rs0.length*N)^rs0.length) r:=by
 rcases g with g|g
 .obtain⟨pv,s,st⟩:=st;obtain⟨v,u,u0,ub,vb,ee⟩:=st.bound h.one (λi j hi hj=>by
   have b:=h.big i hi;show((rAt rs0 i).1.getD j 0).natAbs<=N;rw[au,aj (by rw[b.2];exact hj)];exact b.1.top _ (aU _)) (λi hi=>⟨(h.big i hi).1.pos,(h.big i hi).1.bot⟩) hi
  exact mY hr g hw u0 ub vb λj hj=>by rw[e j hj];exact ee j hj
 .exact g.le (amx (by lia) h.one)
theorem B0.sbig(h:B0 rs0 wd N){R:Nat->Nat->Rat}{p:Nat}(st:∃pv s,fU (aT rs0) (aB rs0) rs0.length wd R p pv s){i:Nat}(hi:i<rs0.length){r:Row}(hr:0<r.2)(hw:r.1.length=wd)(g:gcL r.1 r.2=1\/Big N r)(e:∀j,j<wd->vr r j=R i j):Big NN r:=(h.sbigM st hi hr hw g e).le h.mb
theorem Gs.bigM(g:Gs rs0 wd N c rs)(h:B0 rs0 wd N){i:Nat}(hi:i<rs0.length):Big ((2*rs0.length*N)^rs0.length) (rAt rs i):=h.sbigM g.st hi (g.row i hi).1 (g.row i hi).2.1 (g.row i hi).2.2 λ_ _=>rfl
theorem Gs.big(g:Gs rs0 wd N c rs)(h:B0 rs0 wd N){i:Nat}(hi:i<rs0.length):Big NN (rAt rs i):=h.sbig g.st hi (g.row i hi).1 (g.row i hi).2.1 (g.row i hi).2.2 λ_ _=>rfl
theorem Wc{p q i m:Nat}(hp:p<m)(hq:q<m)(hi:i<m):Rw.sw p q i<m:=by
 unfold Rw.sw;split
 .exact hq
 .split<;>omega
theorem ad6(p q i:Nat):Rw.sw p q (Rw.sw p q i)=i:=by
 unfold Rw.sw;by_cases a:i=p
 .subst a;rw[ZY rfl];by_cases b:q=i
  .rw[ZY b,b]
  .rw[ZZ b,ZY rfl]
 .by_cases b:i=q
  .subst b;rw[ZZ a,ZY rfl,ZY rfl]
  .rw[ZZ a,ZZ b,ZZ a,ZZ b]
theorem Gs.next(g:Gs rs0 wd N c rs)(h:B0 rs0 wd N)(hc:c<rs0.length)(cw:c<wd)(hq:c<=q)(dA:q<rs0.length)(h0:vr (rAt rs q) c≠0){rs2:List Row}(e2:∀i,i<rs0.length->rAt rs2 i=bgA rs c q c i) :
  (∀i,i<rs0.length->Big NN (rAt rs2 i)/\(rAt rs2 i).1.length=wd)/\(∀i,i<rs0.length->Big NN (clA rs2 c c i))/\∀gz:List Row,gz.length=rs0.length->(∀i,i<rs0.length->rAt gz i=clA rs2 c c i)->Gs rs0 wd N (c+1) gz:=by
 have gy:Rw.sw c q c=q:=ZY rfl;obtain⟨b1,b2,b3,b4⟩:=afZ (g.row q dA).1 h0;have ec:rAt rs2 c=bgP (rAt rs q) c:=by rw[e2 c hc];exact ZY rfl
 have ei:∀i,i<rs0.length->i≠c->rAt rs2 i=rAt rs (Rw.sw c q i):=λi hi ne=>by rw[e2 i hi];exact ZZ ne
 have ci:∀i,i<rs0.length->0<(rAt rs2 i).2/\(rAt rs2 i).1.length=wd/\(gcL (rAt rs2 i).1 (rAt rs2 i).2=1\/Big N (rAt rs2 i)):=λi hi=>by
  by_cases e:i=c
  .rw[e,ec];refine⟨b1,by rw[b2];exact(g.row q dA).2.1,b3.elim .inl λz=>?_⟩;rw[z];exact(g.row q dA).2.2
  .rw[ei i hi e];exact g.row _ (Wc hc dA hi)
 have cl:=λi(hi:i<rs0.length)=>agP (rs:=rs2) (p:=c) (k:=c) (i:=i) (ci i hi).1 (ci c hc).1 (by rw[(ci i hi).2.1,(ci c hc).2.1]);have clw:∀i,i<rs0.length->(clA rs2 c c i).1.length=wd:=λi hi=>by
  unfold clA;split
  .exact(ci i hi).2.1
  .rw[jE];show(List.zipWith _ (rAt rs2 i).1 (rAt rs2 c).1).length=wd;rw[JY,(ci i hi).2.1,(ci c hc).2.1,UV]
 have clg:∀i,i<rs0.length->gcL (clA rs2 c c i).1 (clA rs2 c c i).2=1\/Big N (clA rs2 c c i):=λi hi=>(cl i hi).2.1.elim .inl λz=>by rw[z];exact(ci i hi).2.2
 have Vc:∀j,vr (clA rs2 c c c) j*vr (rAt rs q) c=vr (rAt rs q) j:=λj=>by
  rw[(cl c hc).2.2 j,ZY rfl,ec];exact b4 j
 have Vi:∀i,i<rs0.length->i≠c->∀j,vr (clA rs2 c c i) j=vr (rAt rs (Rw.sw c q i)) j-vr (rAt rs (Rw.sw c q i)) c*vr (clA rs2 c c c) j:=λi hi ne j=>by
  rw[(cl i hi).2.2 j,(cl c hc).2.2 j,ZZ ne,ZY rfl,ei i hi ne]
 have df:∃pv s,fU (aT rs0) (aB rs0) rs0.length wd (λi j=>vr (clA rs2 c c i) j) (c+1) pv s:=by
  obtain⟨pv,s,st⟩:=g.st;have s1:=st.swap hq dA (R':=λi j=>vr (rAt rs (Rw.sw c q i)) j) λi j _ _=>rfl;exact⟨_,_,s1.pivot hc (λi hi=>(h.big i hi).1.pos) cw (by show vr (rAt rs (Rw.sw c q c)) c≠0;rw[gy];exact h0) (R':=λi j=>vr (clA rs2 c c i) j) (λj _=>by show vr (clA rs2 c c c) j*vr (rAt rs (Rw.sw c q c)) c=vr (rAt rs (Rw.sw c q c)) j;rw[gy];exact Vc j) λi j hi ne _=>Vi i hi ne j⟩
 have mm:∀i,i<rs0.length->Big NN (clA rs2 c c i):=λi hi=>h.sbig df hi (cl i hi).1 (clw i hi) (clg i hi) λ_ _=>rfl;refine⟨λi hi=>⟨?_,(ci i hi).2.1⟩,mm,λgz l3 e3=>⟨l3,λi hi=>by rw[e3 i hi];exact⟨(cl i hi).1,clw i hi,clg i hi⟩,?_,λi l hi hl=>?_,λx hx=>g.ker x λi hi=>?_⟩⟩
 .by_cases e:i=c
  .rw[e];refine h.sbig df hc (ci c hc).1 (ci c hc).2.1 (ci c hc).2.2 λj _=>?_;show _=vr (clA rs2 c c c) j;rw[(cl c hc).2.2 j,ZY rfl]
  .rw[ei i hi e];exact g.big h (Wc hc dA hi)
 .obtain⟨pv,s,st⟩:=df;exact⟨pv,s,st.congr λi j hi=>by rw[e3 i hi]⟩
 .rw[e3 i hi];have v0:l<c->vr (clA rs2 c c c) l=0:=λhl=>by
   have:=Vc l;rw[g.unit q l dA hl,ZZ (by lia)]at this
   grind
  have v1:vr (clA rs2 c c c) c=1:=by
   have:=Vc c
   grind
  by_cases e:i=c
  .subst e;by_cases z:l<i
   .rw[v0 z,ZZ (US z)]
   .rw[show l=i by lia,v1,ZY rfl]
  .rw[Vi i hi e l];by_cases z:l<c
   .rw[v0 z,g.unit _ l (Wc hc dA hi) z];have:(Rw.sw c q i=l)=(i=l):=by
     unfold Rw.sw;rw[ZZ e];split
     .exact propext ⟨λ_=>by lia,λ_=>by lia⟩
     .rfl
    simp only[this]
    grind
   .rw[show l=c by lia,v1,ZZ e]
    grind
 .have lv:=hx c hc;rw[e3 c hc]at lv;by_cases e:i=q
  .rw[e,bW (g:=λj=>vr (rAt rs q) c*(vr (clA rs2 c c c) j*x j)) λj _=>by rw[<- Vc j];grind,fG,lv]
   grind
  .have hs:=Wc hc dA hi;have ne:Rw.sw c q i≠c:=λz=>by
    have:=ad6 c q i;rw[z,gy]at this;exact e this.symm
   have hi0:=hx _ hs;rw[e3 _ hs]at hi0;rw[bW (g:=λj=>vr (clA rs2 c c (Rw.sw c q i)) j*x j+vr (rAt rs i) c*(vr (clA rs2 c c c) j*x j)) λj _=>by rw[Vi _ hs ne,ad6];grind,fY,fG,lv,hi0]
   grind
theorem Gs.found(g:Gs rs0 wd N c rs)(hc:c<rs0.length)(cw:c<wd)(inj:∀x:Nat->Rat,(∀j,rs0.length<=j->x j=0)->(∀i,i<rs0.length->sg (λj=>vr (rAt rs0 i) j*x j) wd=0)->∀j,j<rs0.length->x j=0):¬∀i,c<=i->i<rs0.length->vr (rAt rs i) c=0:=λhz=>by
 have:=inj (λj=>if j<c then -(vr (rAt rs j) c)else if j=c then 1 else 0) (λj hj=>by rw[ZZ (by lia),ZZ (by lia)]) (g.ker _ λi hi=>?_) c hc
 .rw[ZZ (X9 _),ZY rfl]at this;exact absurd this (by decide)
 .rw[bW (g:=λj=>(if j=i then 1 else 0)*(if j<c then -(vr (rAt rs j) c)else 0)+(if j=c then 1 else 0)*vr (rAt rs i) c) λj hj=>?_,fY,gQ (v:=λj=>if j<c then -(vr (rAt rs j) c)else 0),gQ (v:=λ_=>vr (rAt rs i) c),ZY cw]
  .by_cases e:i<c
   .rw[ZY (Th e cw),ZY e]
    grind
   .rw[hz i (VW e) hi];rw[ZZ e]
    grind
  .by_cases a:j<c
   .rw[ZY a,ZY a,g.unit i j hi a,ZZ (show j≠c by exact aQ a)];by_cases b:i=j
    .rw[ZY b,ZY b.symm];grind
    .rw[ZZ b,ZZ (Ne.symm b)];grind
   .rw[ZZ a,ZZ a];by_cases b:j=c
    .rw[ZY b,b];grind
    .rw[ZZ b];grind
theorem Gs.answer(g:Gs rs0 (rs0.length+1) N rs0.length rs){i:Nat}(hi:i<rs0.length):sg (λj=>vr (rAt rs0 i) j*vr (rAt rs j) rs0.length) rs0.length=vr (rAt rs0 i) rs0.length:=by
 have:=g.ker (λj=>if j<rs0.length then vr (rAt rs j) rs0.length else -1) (λi hi=>?_) i hi
 .show _=_;rw[show sg (λj=>vr (rAt rs0 i) j*(if j<rs0.length then vr (rAt rs j) rs0.length else -1)) (rs0.length+1)=sg (λj=>vr (rAt rs0 i) j*(if j<rs0.length then vr (rAt rs j) rs0.length else -1)) rs0.length+vr (rAt rs0 i) rs0.length*(if rs0.length<rs0.length then vr (rAt rs rs0.length) rs0.length else -1)from rfl,ZZ (X9 _),bW (g:=λj=>vr (rAt rs0 i) j*vr (rAt rs j) rs0.length) λj hj=>by rw[ZY hj]]at this
  grind
 .rw[show sg (λj=>vr (rAt rs i) j*(if j<rs0.length then vr (rAt rs j) rs0.length else -1)) (rs0.length+1)=sg (λj=>vr (rAt rs i) j*(if j<rs0.length then vr (rAt rs j) rs0.length else -1)) rs0.length+vr (rAt rs i) rs0.length*(if rs0.length<rs0.length then vr (rAt rs rs0.length) rs0.length else -1)from rfl,ZZ (X9 _),bW (g:=λj=>(if j=i then 1 else 0)*vr (rAt rs j) rs0.length) λj hj=>by rw[ZY hj,g.unit i j hi hj];simp only[eq_comm],gQ (v:=λj=>vr (rAt rs j) rs0.length),ZY hi]
  grind
end
open Rw (vr iC gU nG gcL gw gB rK kE Big p7 jo mG jE mY fU sg fY fG bW gD gQ)
abbrev iQ(r:List Rat):Row:=(tops (cI 1 r) r,((cI 1 r:Nat):Int))
abbrev I8(r:List Rat):T:=.lst (r.map frR)
theorem aci(r:List Rat):(iQ r).1.length=r.length:=ak _
theorem Iz(r:List Rat)(j:Nat):vr (iQ r) j=r.getD j 0:=by
 unfold vr;have hB:=d9 r VS;show(((tops (cI 1 r) r).getD j 0:Int):Rat)/(((cI 1 r:Nat):Int):Rat)=_;unfold tops;rw[au,au,aq];by_cases h:j<r.length
 .rw[aj h];show((r[j].num*((cI 1 r/r[j].den:Nat):Int):Int):Rat)/_=r[j];obtain⟨k,hk⟩:=(h_ r (n:=1)).2 r[j] (aU h);have hd:=r[j].den_pos;rw[show cI 1 r/r[j].den=k by rw[hk];exact Nat.mul_div_cancel_left _ hd];have hJ:k≠0:=λz=>by rw[z]at hk;lia
  rw[<- UP,hk,TW,Rat.divInt_mul_right (by lia)];exact rd _
 .rw[aM (Nat.not_lt.mp h)];show((0:Int):Rat)/_=0
  grind
structure Sys(ac:List (List Rat))(N:Nat):Prop where
 wid:∀r∈ac,r.length=ac.length+1
 few:ac.length<=100
 lev:∀r∈ac,Big N (iQ r)
 num:∀r∈ac,∀c∈r,Bd c.num
 one:1<=N
 mb:(2*ac.length*N)^ac.length<=NN
 nn:N<=NN
 inj:∀x:Nat->Rat,(∀j,ac.length<=j->x j=0)->(∀r∈ac,sg (λj=>r.getD j 0*x j) (ac.length+1)=0)->∀j,j<ac.length->x j=0
theorem Py{ac:List (List Rat)}{i:Nat}(h:i<ac.length):rAt (ac.map iQ) i=iQ ac[i]:=by
 have:=zy (rs:=ac.map iQ) (i:=i) (by rw[ak];exact h);rw[aq,aj h]at this;injection this with this;exact this.symm
theorem Sys.b0{ac:List (List Rat)}{N:Nat}(h:Sys ac N):B0 (ac.map iQ) (ac.length+1) N:=⟨λi hi=>by
 rw[ak]at hi;rw[Py hi];exact⟨h.lev _ (aU hi),by rw[aci];exact h.wid _ (aU hi)⟩,h.one,by rw[ak];exact h.mb,h.nn⟩
theorem Rws.mk'{rs:List Row}{wd:Nat}(hr:∀i,i<rs.length->Big NN (rAt rs i)/\(rAt rs i).1.length=wd)(h1:rs.length<=100)(h2:wd<=1000):Rws rs wd:=by
 have:∀r∈rs,Big NN r/\r.1.length=wd:=λr hm=>by
  obtain⟨i,hi,e0⟩:=List.getElem_of_mem hm;have e:=zy hi;rw[aj hi,e0]at e;injection e with e;rw[e];exact hr i hi
 exact⟨λr hm=>(this r hm).1,λr hm=>(this r hm).2,h1,h2⟩
theorem Sys.rws{ac:List (List Rat)}{N c:Nat}{rs:List Row}(h:Sys ac N)(g:Gs (ac.map iQ) (ac.length+1) N c rs):Rws rs (ac.length+1):=by
 have l:=g.len;have few:=h.few;rw[ak]at l;refine Rws.mk' (λi hi=>?_) (aL (WG l) few) (by lia);have eL:i<(ac.map iQ).length:=by rw[g.len]at hi;exact hi
 exact⟨g.big h.b0 eL,(g.row i eL).2.1⟩
theorem ae8{ac:List (List Rat)}{i n:Nat}(hi:i<ac.length)(x:Nat->Rat):sg (λj=>vr (rAt (ac.map iQ) i) j*x j) n=sg (λj=>ac[i].getD j 0*x j) n:=bW λj _=>by rw[Py hi,Iz]
theorem Sys.inj'{ac:List (List Rat)}{N:Nat}(h:Sys ac N):∀x:Nat->Rat,(∀j,(ac.map iQ).length<=j->x j=0)->(∀i,i<(ac.map iQ).length->sg (λj=>vr (rAt (ac.map iQ) i) j*x j) (ac.length+1)=0)->∀j,j<(ac.map iQ).length->x j=0:=by
 rw[ak];intro x h1 h2;refine h.inj x h1 λr hr=>?_;obtain⟨i,hi,rfl⟩:=List.getElem_of_mem hr;rw[<- ae8 hi];exact h2 i hi
def K5(m:Nat)(y:Nat->Rat):List T:=(List.range m).map λi=>.lst ((List.range (m+1)).map λj=>frR (if j<m then if i=j then 1 else 0 else y i))
theorem afW{ac:List (List Rat)}{N:Nat}{rs:List Row}(h:Sys ac N)(g:Gs (ac.map iQ) (ac.length+1) N ac.length rs):(rs.map λr=>T.lst ((List.range (ac.length+1)).map λk=>frR (vr r k)))=K5 ac.length λi=>vr (rAt rs i) ac.length:=by
 have l:=g.len;rw[ak]at l;unfold K5;refine QR (by rw[ak,ak,WJ,l]) λi h1 h2=>?_;rw[ak]at h1;rw[UU,UU,QQ];have e:=zy h1;rw[aj h1]at e;injection e with e;rw[e]
 congr 1
 refine U1 λj hj=>?_;have hj:=List.mem_range.mp hj;by_cases c:j<ac.length
 .rw[ZY c,g.unit i j (by rw[ak];exact aR h1 (WG l)) c]
 .rw[ZZ c,show j=ac.length by lia]
theorem ae1{ac:List (List Rat)}{N:Nat}{rs:List Row}(g:Gs (ac.map iQ) (ac.length+1) N ac.length rs):∀r∈ac,sg (λj=>r.getD j 0*vr (rAt rs j) ac.length) ac.length=r.getD ac.length 0:=λr hr=>by
 obtain⟨i,hi,rfl⟩:=List.getElem_of_mem hr;have l:(ac.map iQ).length=ac.length:=ak _;have:=Gs.answer (rs0:=ac.map iQ) (N:=N) (rs:=rs) (by rw[l];exact g) (i:=i) (by rw[l];exact hi);rw[l,Py hi,Iz]at this;rw[<- this];exact bW λj _=>by rw[Iz]
def Jz:ST:=λts R=>∃(ac:List (List Rat))(N:Nat),ts=[.lst (ac.map I8),.int ac.length]/\Sys ac N/\∀(ss:List T)(y:Nat->Rat),(∀r∈ac,sg (λj=>r.getD j 0*y j) ac.length=r.getD ac.length 0)->(∀i,i<ac.length->FnB ((2*ac.length*N)^ac.length) (y i))->R (.fz (.tup [.lst ss,.lst (K5 ac.length y)]))
theorem Vm(F:Fun K uK uK za f fd)(T:Txt K mg D)(jz:OkT P w K mg base 2 pZ pW xP)(uc:OkT P w K mg base 1 mF mU zM)(w5:OkF P w K mg base 6 o9 pB (spO K CN))(qx:OkF P w K mg base 6 jA jw (spO K vA))(qD:OkT P w K mg base 3 jB jG vq):cj P w K mg base CX0 7 f fd uJ (spT K Jz):=by
 refine F.okT jH (λts R hP=>by obtain⟨_,_,e,_⟩:=hP;exact e ▸ rfl) λaf A outer s H E hr=>?_;refine⟨_,(bF (agh (bH za) El El ["row"] (cH (qv 0)) (eU (i:=0)) cF (bI jz hr.md (by rfl) (bx (qv 0) bC)) (m6 (i:=2) jH.nd rfl (Or.inl rfl)))
  (bF (iw 3 jH.nd (Or.inl rfl) (eE bC))
  (bF (bO 4 jH.nd (Or.inl rfl) bA)
  (bF (dJ VZ rfl (c7 (by rfl) T.dZ (bx (qv 1) bC)) (b_ (n:=99) 5 jH.nd (Or.inl rfl))
  (bF (bO 6 jH.nd (Or.inl rfl) (L_ 2 (bI uc hr.md (by rfl) (bx (qv 2) (bx (qv 4) (bx (qv 5) bC))))))
  (bG (cB (bY Bj (qv 6) gA)
  (bF (Ji 2 3 w5 hr.md (by rfl) (bx (qv 4) (bx (qv 6) (bx (qv 5) bC))))
  (bF (Ji 2 3 qx hr.md (by rfl) (bx (qv 4) (bx (qv 5) bC)))
  (bG (aeX 4 jH.nd (Or.inl rfl) afn bA))))
  bT))))
  (bG (JB 3 (JB 2 (bM (dg (bx (qv 3) (bx (bI qD hr.md (by rfl) (bx (qv 2) bC)) bC))))))))))),?_⟩
 rintro _ R ⟨ac,N,rfl,h,ok⟩;have lm:(ac.map I8).length=ac.length:=ak _;have ll:(ac.map iQ).length=ac.length:=ak _;have few:=h.few;have b0:=h.b0;have e0:(ac.map λr=>rwT (iQ r))=(ac.map iQ).map rwT:=by rw[WP];rfl
 refine⟨by rw[lm];exact aL few (by decide),comp_map I8 (λr=>rwT (iQ r)) ac (λr hr N' M hN=>⟨r,rfl,by rw[h.wid r hr];lia,h.num r hr,bdN (aL (h.lev r hr).bot h.nn),hN⟩) ?_⟩;rw[e0];refine⟨⟨by lia,by lia⟩,ju (λc o=>∃rs ss x y,o=[.fz (.lst (ac.map I8)),.fz (.int ac.length),.l1 (rs.map rwT),.l1 ss,.fz (.int (c:Nat)),x,y]/\Gs (ac.map iQ) (ac.length+1) N c rs/\ss.length<=102*c) ⟨_,[],_,_,rfl,b0.zero,aG _⟩ ?_ ?_⟩
 .rintro c _ hc ⟨rs,ss,x,y,rfl,g,sl⟩;have hc:c<ac.length:=by lia
  have dq:c<(ac.map iQ).length:=by lia
  have l:=g.len;have hR:=h.rws g;have big:(20000:Nat)<sizeLine:=by decide
  refine⟨rs,_,c,c,rfl,hR,by lia,by exact WU _ hc,λq h1 h2 h3=>⟨trivial,rs,ss,_,c,q,c,rfl,rfl,hR,by exact Y3 h1 h2,h2,by exact WU _ hc,h3,by lia,λrs2 ss2 l2 e2 s2=>?_⟩,λz=>(g.found dq (WU _ hc) h.inj' λi a b=>z i a (by lia)).elim⟩;obtain⟨n1,n2,n3⟩:=g.next b0 dq (WU _ hc) h1 (aR h2 (WG l)) h3 (rs2:=rs2) λi hi=>e2 i (by lia);exact⟨rs2,ss2,_,c,c,rfl,rfl,Rws.mk' (λi hi=>n1 i (by lia)) (by lia) (by lia),by lia,by exact WU _ hc,by lia,λi hi=>n2 i (by lia),λgz ss3 l3 e3 s3=>⟨gz,ss3,.fz (.int c),.fz (.int q),rfl,n3 gz (by lia) λi hi=>e3 i (by lia),by lia⟩⟩
 .rintro _ ⟨rs,ss,x,y,rfl,g,sl⟩;have g:Gs (ac.map iQ) (ac.length+1) N ac.length rs:=g;have hR:=h.rws g;have l:=g.len;refine⟨rs,_,rfl,hR,?_⟩;have:=ok ss _ (ae1 g) λi hi=>by
   have eL:i<(ac.map iQ).length:=by lia
   have b:=g.bigM b0 eL;rw[ll]at b;exact FnB.vr b (by rw[(g.row i eL).2.1];exact X1 _)
  rw[<- afW h g]at this;exact this
open Rw (vr iC gU nG gcL gw gB rK kE Big p7 jo mG jE mY fU sg fY fG bW gD gQ)
def FN:ST:=λts q=>∃(ac:List (List Rat))(n:Nat),ts=[.lst (ac.map I8)]/\(∀r∈ac,r.length=n)/\(ac=[]->n=0)/\q (.fz (.int n))
theorem Q6(F:Fun K qG qG Ag f fd)(T:Txt K mg D):cj P w K mg base CX0 1 f fd qZ (spT K FN):=by
 refine F.okT SX (λts R hP=>by obtain⟨_,_,e,_⟩:=hP;exact e ▸ rfl) λaf A outer s H E hr=>?_;refine⟨_,(bF (cB (bY (go_eq hr.units) (bR cN (by rfl) T.dF WH (bx (qv 0) bC)) bA)
  (bG (bM bA))
  bT)
  (bG (bM (bR cN (by rfl) T.dF WH (bx (bJ (qv 0) bA) bC))))),?_⟩
 rintro _ R ⟨ac,n,rfl,h,h0,q⟩
 match ac,h,h0 with
 |[],h,h0=>rw[h0 rfl]at q;exact q
 |r::ac,h,h0 =>
  have e:(r.map frR).length=n:=by rw[ak];exact h r (aO ..)
  rw[<- e]at q;exact⟨_,rfl,q⟩
theorem R7(i:Nat):∀m,(List.range m).filter (λj=>decide (j=i))=if i<m then[i]else[]
 |0=>by rw[ZZ (WV _)];rfl
 |m+1=>by
  rw[List.range_succ,List.filter_append,R7 i m];by_cases e:m=i
  .subst e;rw[ZZ (X9 _),ZY (X1 _)];simp
  .rw[List.filter_cons_of_neg (by simpa using e)];by_cases c:i<m
   .rw[ZY c,ZY (WU _ c)];rfl
   .rw[ZZ c,ZZ (by lia)];rfl
def wI:ST:=λts q=>∃(ac:List (List Rat))(ax:List Rat),ts=[.lst (ac.map I8),.lst (ax.map frR)]/\ac.length<=100/\(∀r∈ac,r.length<=100)/\q (.l1 ((List.zipWith (λr c=>r++[c]) ac ax).map I8))
theorem Jl(F:Fun K kh kh mL f fd)(T:Txt K mg D):cj P w K mg base CX0 1 f fd lA (spT K wI):=by
 refine F.okT JR (λts R hP=>by obtain⟨_,_,e,_⟩:=hP;exact e ▸ rfl) λaf A outer s H E hr=>?_;refine⟨_,(bG (bM (dH (bH mL) sH sH ["row","right"] (DX (by rfl) T.Lk (bx (qv 0) (bx (qv 1) bC))) (fD (n:=2) rfl (bU (eU (i:=0)) (bU (eU (i:=1)) dO))) cF (bL cR (qv 0) (eE (bx (qv 1) bC)))))),?_⟩;rintro _ R ⟨ac,ax,rfl,h1,h2,q⟩;have zl:(ac.zip ax).length<=ac.length:=by rw[VY];exact Nat.min_le_left ..
 refine⟨by unfold Aj;rw[ak,VY,ak,ak];exact aL (aL (Nat.min_le_left ..) h1) (by decide),?_⟩;rw[zip_map];refine comp_map (λp=>.tup [I8 p.1,frR p.2]) (λp=>I8 (p.1++[p.2])) (ac.zip ax) (λp hp N M hN=>⟨rfl,?a,?b⟩) ?c
 case a =>
  have:=h2 _ (UX hp).1;show(p.1.map frR).length+1<=sizeLine;rw[ak];exact aL (show _<=101 by exact Nat.succ_le_succ this) (by decide)
 case b =>
  show N (.lst (p.1.map frR++[frR p.2]));rw[show(p.1.map frR++[frR p.2])=(p.1++[p.2]).map frR by rw[bf];rfl];exact hN
 case c =>
  rw[List.map_zipWith]at q;rw[List.zip,List.map_zipWith];exact q
def CZ:ST:=λts q=>∃(m:Nat)(y:Nat->Rat),ts=[.lst (K5 m y),.int m]/\m<=100/\q (.l1 ((List.range m).map λi:Nat=>.int i))
theorem MP(F:Fun K oH oH qH f fd)(T:Txt K mg D):cj P w K mg base CX0 1 f fd oM (spT K CZ):=by
 refine F.okT pG (λts R hP=>by obtain⟨_,_,e,_⟩:=hP;exact e ▸ rfl) λaf A outer s H E hr=>?_;refine⟨_,(bF (iw 2 pG.nd (Or.inl rfl) (eE bC))
  (bF (dJ VZ rfl (cH (qv 0)) (b_ (n:=99) 3 pG.nd (Or.inr rfl))
  (bF (uE (bH qH) wM wM ["column"] (c7 (by rfl) T.dZ (bx (qv 1) bC)) (eU (i:=0)) (Wf (bY (nQ hr.units) (bJ (qv 4) (qv 0)) (lR (by rfl) T.ji T.gP))) (qv 0) (m6 (i:=4) pG.nd rfl (Or.inl rfl)))
  (bG (cB (bY Jc (bR cN (by rfl) T.dF WH (bx (qv 4) bC)) bA)
  (bG (nY 2 (bJ (qv 4) bA)))
  bT))))
  (bG (jy 2)))),?_⟩
 rintro _ R ⟨m,y,rfl,h,q⟩;have sz:(1000:Nat)<=sizeLine:=by decide
 refine f9 _ (List.range m) (λas o=>∃x z,o=[.fz (.lst (K5 m y)),.fz (.int m),.l1 (as.map λi:Nat=>.int i),x,z]) ⟨_,_,rfl⟩ ?_ ?_
 .rintro as i bs _ e ⟨x,z,rfl⟩;have hi:i<m:=List.mem_range.mp (e ▸ by simp);have la:as.length<m:=by have:=ZH List.length e;rw[WJ,aA,List.length_cons]at this;lia
  refine⟨⟨by lia,by lia⟩,by rw[rng,ak,WJ];exact aL (show _<=1000 by lia) sz,qK (λk:Nat=>.int (0+k)) (λj=>decide (j=i)) (λj=>.int (0+(j:Nat))) (List.range m) (λj hj N M h1 h2=>?_) ?_⟩
  .have hj:=List.mem_range.mp hj;show hName 0 (L2.T.int (0+((j:Nat):Int))) _ _;rw[show(0:Int)+((j:Nat):Int)=((j:Nat):Int)by lia]at h1 ⊢;refine⟨_,dM (VT (WU _ hj)),?_⟩;by_cases c:j=i
   .refine swT ?_ (h1 (Zs c));show xr true (_&&_)=true;rw[ZY hj,ZY c.symm]
    rfl
   .refine swF ?_ (h2 (Zp c));show xr true (_&&_)=false;rw[ZY hj,ZZ (Ne.symm c)]
    rfl
  .rw[R7,ZY hi];refine⟨_,rfl,by rw[ak];lia,.fz (.lst ((List.range (m+1)).map λj=>frR (if j<m then if i=j then 1 else 0 else y i))),.fz (.lst [.int (0+(i:Nat))]),?_⟩;rw[bf];show[_,_,OT.l1 (as.map _++[L2.T.int (0+(i:Nat))]),_,OT.fz (.lst [L2.T.int (0+(i:Nat))])]=[_,_,OT.l1 (as.map _++[L2.T.int (i:Nat)]),_,_];rw[show(0:Int)+((i:Nat):Int)=((i:Nat):Int)by exact Int.zero_add _]
 .rintro _ ⟨x,z,rfl⟩;exact q
def Jx:ST:=λts q=>∃(m:Nat)(y:Nat->Rat),ts=[.lst (K5 m y),.lst ((List.range m).map λi:Nat=>.int i),.int m]/\m<=100/\q (.fz .non)
theorem TQ(F:Fun K uw uw EY f fd)(T:Txt K mg D):cj P w K mg base CX0 1 f fd uy (spT K Jx):=by
 refine F.okT HS (λts R hP=>by obtain⟨_,_,e,_⟩:=hP;exact e ▸ rfl) λaf A outer s H E hr=>?_;refine⟨_,(bF (dJ VZ rfl (Ls (by rfl) T.dZ (bx (bR cN (by rfl) T.dF WH (bx (qv 1) bC)) (bx (bR cN (by rfl) T.dF WH (bx (qv 0) bC)) bC))) (b_ (n:=99) 3 HS.nd (Or.inl rfl))
  (bG (cB (bY (nQ hr.units) (bJ (bJ (qv 0) (qv 3)) (qv 2)) (lR (by rfl) T.ji T.gP))
  (bG (bM (qv 3)))
  bT)))
  (bG (bM gA))),?_⟩
 rintro _ R ⟨m,y,rfl,h,q⟩;have l1:((List.range m).map λi:Nat=>L2.T.int i).length=m:=by rw[ak,WJ]
 have l2:(K5 m y).length=m:=by unfold K5;rw[ak,WJ]
 refine⟨⟨by lia,by lia,by lia,by lia⟩,Br (λ_ _=>True) _ 0 trivial (λi t o e z=>?_) λo _=>q⟩;have:=(abI e).1;lia
def Dm:ST:=λts q=>∃(m:Nat)(y:Nat->Rat),ts=[.lst (K5 m y),.lst ((List.range m).map λi:Nat=>.int i),.int m]/\m<=100/\q (.l1 ((List.range m).map λi=>frR (y i)))
theorem N6(F:Fun K pI pI yD f fd)(T:Txt K mg D):cj P w K mg base CX0 1 f fd oU (spT K Dm):=by
 refine F.okT oN (λts R hP=>by obtain⟨_,_,e,_⟩:=hP;exact e ▸ rfl) λaf A outer s H E hr=>?_;refine⟨_,(bF (iw 3 oN.nd (Or.inl rfl) (bL cG (eE (bx (lR (by rfl) T.ji T.gP) bC)) (qv 2)))
  (bF (dJ VZ rfl (Dq (by rfl) T.nH (bx (qv 1) bC)) (fD (n:=2) rfl (bU (b_ (n:=99) 4 oN.nd (Or.inl rfl)) (bU (b_ (n:=99) 5 oN.nd (Or.inl rfl)) dO)))
  (bG (DW 3 (bJ (bJ (qv 0) (qv 4)) (qv 2)) (qv 5))))
  (bG (jy 3)))),?_⟩
 rintro _ R ⟨m,y,rfl,h,q⟩;refine⟨⟨by lia,by lia,by show 1*_<=_;exact aL (show _<=100 by lia) (by decide)⟩,λz ez=>?_⟩;have ez:z=(List.range m).map λi=>if i<0 then frR (y i)else frR 0:=by
  rw[ez,List.flatten_replicate_singleton];refine QR (by rw[aN,ak,WJ];rfl) λn h1 h2=>?_;rw[List.getElem_replicate,UU,ZZ (WV _)]
  rfl
 subst ez;refine yU (λi:Nat=>.int i) (List.range m) (λk o=>∃x z,o=[.fz (.lst (K5 m y)),.fz (.lst ((List.range m).map λi:Nat=>.int i)),.fz (.int m),.l1 ((List.range m).map λi=>if i<k then frR (y i)else frR 0),x,z]) ⟨_,_,rfl⟩ ?_ ?_
 .rintro k i _ e ⟨x,z,rfl⟩;have hk:k<m:=by have:=(ao.mp e).1;rwa[WJ]at this
  rw[VT hk]at e;cases e;refine⟨rfl,_,dM (VT hk),_,dM (VT (X1 m)),k,Aw (by rw[ak,WJ];exact hk),.fz (.int k),.fz (.int k),?_⟩;have:((List.range m).map λi=>if i<k then frR (y i)else frR 0).set k (frR (if m<m then if k=m then 1 else 0 else y k))=(List.range m).map λi=>if i<k+1 then frR (y i)else frR 0:=by
   rw[ZZ (X9 _)];refine QR (by rw[VU,ak,ak]) λn h1 h2=>?_;rw[List.getElem_set,UU,UU,QQ];by_cases c:k=n
   .rw[ZY c,ZY (by lia),c]
   .rw[ZZ c];by_cases d:n<k
    .rw[ZY d,ZY (WU _ d)]
    .rw[ZZ d,ZZ (by lia)]
  rw[<- this]
  rfl
 .rintro _ ⟨x,z,rfl⟩;have:((List.range m).map λi=>if i<(List.range m).length then frR (y i)else frR 0)=(List.range m).map λi=>frR (y i):=U1 λi hi=>by rw[WJ,ZY (List.mem_range.mp hi)]
  rw[<- this]at q;exact q
open Rw (vr iC gU nG gcL gw gB rK kE Big p7 jo mG jE mY fU sg fY fG bW gD gQ)
noncomputable abbrev Dw(ac:List (List Rat))(ax:List Rat):List (List Rat):=List.zipWith (λr c=>r++[c]) ac ax
def yc:ST:=λts R=>∃(ac:List (List Rat))(ax:List Rat)(N:Nat),ts=[.lst (ac.map I8),.lst (ax.map frR)]/\ax.length=ac.length/\(∀r∈ac,r.length=ac.length)/\Sys (Dw ac ax) N/\∀y:Nat->Rat,(∀r∈Dw ac ax,sg (λj=>r.getD j 0*y j) ac.length=r.getD ac.length 0)->(∀i,i<ac.length->FnB ((2*ac.length*N)^ac.length) (y i))->R (.l1 ((List.range ac.length).map λi=>frR (y i)))
theorem JM(F:Fun K j7 j7 sS f fd)(T:Txt K mg D)(Ae:OkT P w K mg base 1 qG qZ FN)(rJ:OkT P w K mg base 1 kh lA wI)(Ei:OkT P w K mg base 7 uK uJ Jz)(wW:OkT P w K mg base 1 oH oM CZ)(Fi:OkT P w K mg base 1 uw uy Jx)(yJ:OkT P w K mg base 1 pI oU Dm):cj P w K mg base CX0 8 f fd k_ (spT K yc):=by
 refine F.okT lF (λts R hP=>by obtain⟨_,_,_,e,_⟩:=hP;exact e ▸ rfl) λaf A outer s H E hr=>?_;refine⟨_,(bF (bO 2 lF.nd (Or.inl rfl) (bI Ae hr.md (by rfl) (bx (qv 0) bC)))
  (bF (bO 3 lF.nd (Or.inl rfl) (bJ (bI Ei hr.md (by rfl) (bx (bI rJ hr.md (by rfl) (bx (qv 0) (bx (qv 1) bC))) (bx (qv 2) bC))) bA))
  (bF (bO 4 lF.nd (Or.inl rfl) (bI wW hr.md (by rfl) (bx (qv 3) (bx (qv 2) bC))))
  (bF (cB (QW.qt (iZ (bY vK (bR cN (by rfl) T.dF WH (bx (qv 4) bC)) (qv 2)) (gR (bY Bj (bI Fi hr.md (by rfl) (bx (qv 3) (bx (qv 4) (bx (qv 2) bC)))) gA))))
  (bG (bM gA))
  bT)
  (bG (bM (bI yJ hr.md (by rfl) (bx (qv 3) (bx (qv 4) (bx (qv 2) bC)))))))))),?_⟩
 rintro _ R ⟨ac,ax,N,rfl,hl,hw,h,ok⟩;have la:(Dw ac ax).length=ac.length:=by rw[JY,hl,UV]
 have few:=h.few;rw[la]at few;refine⟨ac,ac.length,rfl,hw,λz=>by rw[z];rfl,ac,ax,rfl,few,λr hr=>by rw[hw r hr];exact few,Dw ac ax,N,?_,h,λss y h1 h2=>?_⟩
 .rw[la];rfl
 .rw[la]at h1 h2 ⊢;have lr:((List.range ac.length).map λi:Nat=>L2.T.int i).length=ac.length:=by rw[ak,WJ]
  exact⟨ac.length,y,rfl,few,swF (Zp (by show ¬((((List.range ac.length).map λi:Nat=>L2.T.int i).length:Nat):Int)<_;lia)) ⟨ac.length,y,rfl,few,ac.length,y,rfl,few,ok y h1 h2⟩⟩
def aad(m:Nat):List (List T):=(List.range m).map λi=>(List.range m).map λj=>frR (if j=i then 1 else 0)
def vJ:ST:=λts q=>∃m:Nat,ts=[.int m]/\m<=100/\q (.l2 (aad m))
theorem Io(F:Fun K j4 j4 jh f fd)(T:Txt K mg D):cj P w K mg base CX0 1 f fd kI (spT K vJ):=by
 refine F.okT HF (λts R hP=>by obtain⟨_,e,_⟩:=hP;exact e ▸ rfl) λaf A outer s H E hr=>?_;refine⟨_,(bG (bM (aaI (bH jh) jq jq "row" (c7 (by rfl) T.dZ (bx (qv 0) bC)) aes cF (WK (bH jh) ("row"::jq) ("row"::jq) ["column"] (c7 (by rfl) T.dZ (bx (qv 1) bC)) (eU (i:=0)) cF (R0 (bY (go_eq hr.units) (qv 0) (qv 1)) (lR (by rfl) T.Fy T.vL) (lR (by rfl) T.ji T.gP)))))),?_⟩;rintro _ R ⟨m,rfl,h,q⟩;have sz:(100:Nat)<=sizeLine:=by decide
 have rl:(rng 0 m).length<=sizeLine:=by rw[rng,ak,WJ];exact aL h sz
 refine⟨⟨by lia,by lia⟩,rl,Rn (λi=>(List.range m).map λj=>frR (if j=i then 1 else 0)) m (λi hi N M hN=>⟨⟨by lia,by lia⟩,rl,O5 (λj=>frR (if j=i then 1 else 0)) m (λj hj N M hN=>?_) hN⟩) q⟩;by_cases e:j=i
 .rw[ZY e]at hN;exact swT (Zs (by lia)) hN
 .rw[ZZ e]at hN;exact swF (Zp (by lia)) hN
noncomputable def dT:Option Nat->T
 |none=>.non
 |some d=>.int d
noncomputable def xq:Option Nat->Nat->Bool
 |none,n=>decide (n=0)
 |some d,n=>decide (d<n)
structure PlT(off:List (List bQ))(pl:List (Option Nat)):Prop where
 len:pl.length=off.length
 ok:∀(k:Nat)(d:Option Nat)(ds:List bQ),pl[k]?=some d->off[k]?=some ds->xq d ds.length=true
def W2:ST:=λts q=>∃(d:Option Nat)(n:Nat),ts=[dT d,.int n]/\q (.fz (.bl (xq d n)))
theorem ado(F:Fun K Hj Hj Vq f fd)(T:Txt K mg D)(dN:OkT P w K mg base 1 ig iy nM):cj P w K mg base CX0 2 f fd Gz (spT K W2):=by
 refine F.okT abO (λts R hP=>by obtain⟨_,_,e,_⟩:=hP;exact e ▸ rfl) λaf A outer s H E hr=>?_;refine⟨_,(bF (cB (bY (go_eq hr.units) (qv 1) bA)
  (bG (bM (nW Fg (qv 0) gA)))
  bT)
  (bG (bM (yI (bI dN hr.md (by rfl) (bx (qv 0) bC)) (Fe (Ju LC vK bA (qv 0) (qv 1))))))),?_⟩
 rintro _ R ⟨d,n,rfl,q⟩;by_cases e:n=0
 .subst e;cases d with
  |none=>exact q
  |some d=>exact q
 .refine swF (Zp (by lia)) ?_;cases d with
  |none =>
   rw[show xq none n=false from Zp e]at q;exact⟨_,_,rfl,rfl,q⟩
  |some d =>
   rw[show xq (some d) n=decide ((d:Int)<(n:Int))from decide_eq_decide.mpr (by omega)]at q;exact⟨_,_,rfl,rfl,q⟩
def mR(D:Adr):ST:=λts q=>∃(s:Rat)(ns:Φ)(off:List (List bQ))(pl:List (Option Nat)),ts=[hlT D s ns off,.lst (pl.map dT)]/\Om ns off/\PlT off pl/\q (.fz (.bl true))
theorem Ku(F:Fun K gK gK uT f fd)(T:Txt K mg D)(VL:OkT P w K mg base 2 Hj Gz W2)(fL:OkI P w K mg base CX0 1 D.Hall_size iI (spT K (oV D)))(cY:OkI P w K mg base CX0 3 D.Hall_offers eX (spT K (tL D))):cj P w K mg base CX0 4 f fd gM (spT K (mR D)):=by
 refine F.okT rN (λts R hP=>by obtain⟨_,_,_,_,e,_⟩:=hP;exact e ▸ rfl) λaf A outer s H E hr=>?_;refine⟨_,(bF (cB (QW.qt (iZ (dB (cV (j6 .list (qv 1) (by rfl) T.cT (by rfl) T.uo boot_list))) (gR (bY (nQ hr.units) (bR cN (by rfl) T.dF WH (bx (qv 1) bC)) (Dy (qv 0) T.jW T.u5 fL hr.md (KS:=mV))))))
  (bG fQ)
  bT)
  (bF (dJ VZ rfl (Dq (by rfl) T.nH (bx (qv 1) bC)) (fD (n:=2) rfl (bU (b_ (n:=99) 2 rN.nd (Or.inl rfl)) (bU (b_ (n:=99) 3 rN.nd (Or.inl rfl)) dO)))
  (bG (cB (dB (cV (bI VL hr.md (by rfl) (bx (qv 3) (bx (bR cN (by rfl) T.dF WH (bx (Dp (qv 0) T.jW T.lG cY hr.md (bx (qv 2) bC) (KS:=mV)) bC)) bC)))))
  (bG fQ)
  bT)))
  (bG (bM j9)))),?_⟩
 rintro _ R ⟨s,ns,off,pl,rfl,h,hp,q⟩;refine⟨⟨rfl,rfl⟩,_,_,_,rfl,swF ?_ ?_⟩
 .show xr true (decide ((((pl.map dT).length:Nat):Int)=(ns.length:Nat)))=false;rw[ak,hp.len,h.len,Zs rfl]
  rfl
 .refine yU dT pl (λk o=>∃x y,o=[.fz (hlT D s ns off),.fz (.lst (pl.map dT)),x,y]) ⟨_,_,rfl⟩ ?_ ?_
  .rintro k d _ e ⟨x,y,rfl⟩;have lk:k<off.length:=by rw[<- hp.len];exact(ao.mp e).1
   have ek:=aj lk;refine⟨rfl,⟨rfl,rfl⟩,_,_,_,k,_,rfl,h,ek,d,(off[k]).length,?_,?_⟩
   .show[dT d,L2.T.int ((((off[k]).map ofT).length:Nat):Int)]=_;rw[ak]
   .rw[hp.ok k d _ e ek];exact⟨_,_,rfl⟩
  .rintro _ ⟨x,y,rfl⟩;exact q
def chO(off:List (List bQ))(pl:List (Option Nat)):List (Option bQ):=pl.zipIdx.map λp=>p.1.bind λd=>(off.getD p.2 [])[d]?
def opT:Option bQ->T
 |none=>.non
 |some o=>ofT o
def vD(D:Adr):ST:=λts q=>∃(s:Rat)(ns:Φ)(off:List (List bQ))(pl:List (Option Nat)),ts=[hlT D s ns off,.lst (pl.map dT)]/\Om ns off/\PlT off pl/\q (.l1 ((chO off pl).map opT))
theorem Gh(F:Fun K jD jD lg f fd)(T:Txt K mg D)(cY:OkI P w K mg base CX0 3 D.Hall_offers eX (spT K (tL D))):cj P w K mg base CX0 4 f fd jC (spT K (vD D)):=by
 refine F.okT Gx (λts R hP=>by obtain⟨_,_,_,_,e,_⟩:=hP;exact e ▸ rfl) λaf A outer s H E hr=>?_;refine⟨_,(bG (bM (dH (bH lg) qj qj ["room","door"] (Dq (by rfl) T.nH (bx (qv 1) bC)) (fD (n:=2) rfl (bU (eU (i:=0)) (bU (eU (i:=1)) dO))) cF (R0 (bY Fg (qv 1) gA) gA (bJ (Dp (qv 2) T.jW T.lG cY hr.md (bx (qv 0) bC) (KS:=mV)) (qv 1)))))),?_⟩;rintro _ R ⟨s,ns,off,pl,rfl,h,hp,q⟩;refine⟨by unfold zR;rw[ak,List.length_zipIdx,ak,hp.len,h.len];exact aL h.few (by decide),?_⟩;rw[YX];refine comp_map (λp=>.tup [.int (p.2:Nat),dT p.1]) (λp=>opT (p.1.bind λd=>(off.getD p.2 [])[d]?)) pl.zipIdx (λp hm N M hN=>⟨rfl,?a⟩) ?b
 case b =>
  unfold chO at q;rw[WP]at q;exact q
 case a =>
  obtain⟨d,k⟩:=p;have e:=List.mem_zipIdx_iff_getElem?.mp hm;have lk:k<off.length:=by rw[<- hp.len];exact(ao.mp e).1
  have ek:=aj lk;have eg:off.getD k []=off[k]:=by rw[au,ek];rfl
  have ft:=hp.ok k d _ e ek;cases d with
  |none=>exact hN
  |some d =>
   have ld:d<(off[k]).length:=of_decide_eq_true ft;have hN:N (opT ((off.getD k [])[d]?)):=hN;rw[eg,aj ld]at hN;exact⟨⟨rfl,rfl⟩,_,_,_,k,_,rfl,h,ek,_,dM (aj ld),hN⟩
open Rw (sg)
def rowsOf(f:Nat->Nat->Rat)(m:Nat):List (List T):=(List.range m).map λi=>(List.range m).map λj=>frR (f i j)
noncomputable def rO:List (Nat×Rat)->Nat->Rat
 |[],_=>0
 |w::ws,j=>(if w.1=j then w.2 else 0)+rO ws j
noncomputable def je:Option bQ->List (Nat×Rat)
 |none=>[]
 |some o=>o.ways
structure WyB(s:Rat)(m:Nat)(ws:List (Nat×Rat)):Prop where
 nd:(ws.map (·.1)).Nodup
 few:ws.length<=1000
 lt:∀w∈ws,w.1<m
 bq:∀w∈ws,Bq w.2/\Bd ((s.den:Int)*w.2.den)/\Bq (s*w.2)
def eN(s:Rat)(cs:List (Option bQ))(i j:Nat):Rat:=(if j=i then 1 else 0)-s*rO (je (cs.getD i none)) j
def Di:ST:=λts q=>∃(s:Rat)(cs:List (Option bQ)),ts=[frR s,.lst (cs.map opT)]/\cs.length<=100/\Bq s/\(∀o∈cs,WyB s cs.length (je o))/\q (.l2 (rowsOf (eN s cs) cs.length))
theorem aaD(f:Nat->Nat->Rat)(m:Nat):(rowsOf f m).length=m:=by unfold rowsOf;rw[ak,WJ]
theorem WT{f:Nat->Nat->Rat}{m i:Nat}(h:i<m):(rowsOf f m)[i]?=some ((List.range m).map λj=>frR (f i j)):=by
 unfold rowsOf;rw[aq,VT h];rfl
theorem uY{f g:Nat->Nat->Rat}{m:Nat}(h:∀i j,i<m->j<m->f i j=g i j):rowsOf f m=rowsOf g m:=U1 λi hi=>U1 λj hj=>by rw[h i j (List.mem_range.mp hi) (List.mem_range.mp hj)]
theorem aaJ{f g:Nat->Nat->Rat}{m i k:Nat}{v:Rat}(h:∀a b,a<m->b<m->g a b=if a=i/\b=k then v else f a b):(rowsOf f m).set i (((List.range m).map λj=>frR (f i j)).set k (frR v))=rowsOf g m:=by
 unfold rowsOf;refine QR (by rw[VU,ak,ak]) λa h1 h2=>?_;have ha:a<m:=by rw[ak,WJ]at h2;exact h2
 rw[List.getElem_set];by_cases e:i=a
 .rw[ZY e,UU,QQ];refine QR (by rw[VU,ak,ak]) λb h3 h4=>?_;have hb:b<m:=by rw[ak,WJ]at h4;exact h4
  rw[List.getElem_set,UU,UU,QQ,h a b ha hb];by_cases c:k=b
  .rw[ZY c,ZY ⟨e.symm,c.symm⟩]
  .rw[ZZ c,ZZ λz=>c z.2.symm,e]
 .rw[ZZ e,UU,UU,QQ];refine U1 λb hb=>?_;rw[h a b ha (List.mem_range.mp hb),ZZ λz=>e z.1.symm]
theorem abZ{f:Nat->Nat->Rat}{m i:Nat}(h:i<m):ixT (rowsOf f m) ((i:Nat):Int)=some ((List.range m).map λj=>frR (f i j)):=by
 show nth (rowsOf f m) i=_;rw[sJ,WT h]
theorem Y8(as:List (Nat×Rat))(w:Nat×Rat)(j:Nat):rO (as++[w]) j=rO as j+if w.1=j then w.2 else 0:=by
 induction as with
 |nil=>show(_+(0:Rat))=0+_;grind
 |cons a as ih=>show _+rO (as++[w]) j=(_+rO as j)+_;rw[ih];grind
theorem X_{ws:List (Nat×Rat)}{j:Nat}(h:j∉ws.map (·.1)):rO ws j=0:=by
 induction ws with
 |nil=>rfl
 |cons a as ih =>
  show(if a.1=j then a.2 else 0)+rO as j=0;rw[ih λz=>h (aJ _ z),ZZ λz=>h (by rw[<- z];exact aO ..)]
  grind
def ux(s:Rat)(cs:List (Option bQ))(n:Nat)(as:List (Nat×Rat))(i j:Nat):Rat:=if i<n then eN s cs i j else if i=n then(if j=i then 1 else 0)-s*rO as j else if j=i then 1 else 0
theorem adY(s:Rat)(cs:List (Option bQ))(n i j:Nat):ux s cs n [] i j=if i<n then eN s cs i j else if j=i then 1 else 0:=by
 unfold ux;split
 .rfl
 .split
  .show _-s*0=_;grind
  .rfl
theorem acf{s:Rat}{cs:List (Option bQ)}{n:Nat}(i j:Nat):ux s cs n (je (cs.getD n none)) i j=if i<n+1 then eN s cs i j else if j=i then 1 else 0:=by
 unfold ux;by_cases a:i<n
 .rw[ZY a,ZY (show i<n+1 by exact WU _ a)]
 .by_cases b:i=n
  .subst b;rw[ZZ a,ZY rfl,ZY (show i<i+1 by exact X1 _)]
   rfl
  .rw[ZZ a,ZZ b,ZZ (show ¬i<n+1 by lia)]
theorem Uo(s:Rat)(cs:List (Option bQ))(n:Nat)(as:List (Nat×Rat))(j:Nat):ux s cs n as n j=(if j=n then 1 else 0)-s*rO as j:=by unfold ux;rw[ZZ (X9 _),ZY rfl]
theorem af2{s:Rat}{cs:List (Option bQ)}{n i:Nat}(as bs:List (Nat×Rat))(j:Nat)(h:i≠n):ux s cs n as i j=ux s cs n bs i j:=by unfold ux;rw[ZZ h,ZZ h]
theorem Qu(F:Fun K o7 o7 yG f fd)(T:Txt K mg D)(sG:OkT P w K mg base 1 j4 kI vJ)(oA:OkT P w K mg base 3 tK sZ Dj)(uL:OkT P w K mg base 3 vM vR JD):cj P w K mg base CX0 4 f fd pN (spT K Di):=by
 refine F.okT iH (λts R hP=>by obtain⟨_,_,e,_⟩:=hP;exact e ▸ rfl) λaf A outer s H E hr=>?_;refine⟨_,(bF (iw 2 iH.nd (Or.inl rfl) (bI sG hr.md (by rfl) (bx (bR cN (by rfl) T.dF WH (bx (qv 1) bC)) bC)))
  (bF (dJ VZ rfl (Dq (by rfl) T.nH (bx (qv 1) bC)) (fD (n:=2) rfl (bU (b_ (n:=99) 3 iH.nd (Or.inl rfl)) (bU (b_ (n:=99) 4 iH.nd (Or.inl rfl)) dO)))
  (bG (cB (bY Bj (qv 4) gA)
  (bG (dJ VZ rfl (cH (bJ (qv 4) bA)) (fD (n:=2) rfl (bU (b_ (n:=99) 5 iH.nd (Or.inl rfl)) (bU (b_ (n:=99) 6 iH.nd (Or.inl rfl)) dO)))
  (bG (adE 2 (bI oA hr.md (by rfl) (bx (adl 2 (qv 3) (qv 5)) (bx (bI uL hr.md (by rfl) (bx (qv 0) (bx (qv 6) bC))) bC))) (qv 3) (qv 5)))))
  bT)))
  (bG (jy 2)))),?_⟩
 rintro _ R ⟨s,cs,rfl,hm,hs,hw,q⟩;refine⟨cs.length,?_,hm,?_⟩
 .show[L2.T.int (((cs.map opT).length:Nat):Int)]=_;rw[ak]
 .have lc:∀x:Nat,((cs.map opT).length:Nat)=cs.length:=λ_=>ak _;refine yU opT cs (λn o=>∃x y z u,o=[.fz (frR s),.fz (.lst (cs.map opT)),.l2 (rowsOf (λi j=>if i<n then eN s cs i j else if j=i then 1 else 0) cs.length),x,y,z,u]) ⟨.und,.und,.und,.und,?_⟩ ?_ ?_
  .show[_,_,OT.l2 (rowsOf (λi j=>if j=i then 1 else 0) cs.length),_,_,_,_]=_;rw[uY (f:=λi j=>if j=i then 1 else 0) (g:=λi j=>if i<0 then eN s cs i j else if j=i then 1 else 0) λi j _ _=>by rw[ZZ (WV _)]]
  .rintro n oo _ e ⟨x,y,z,u,rfl⟩;have hn:n<cs.length:=(ao.mp e).1;have eg:cs.getD n none=oo:=by rw[au,e];rfl
   have hb:=hw oo (aC e);rw[show rowsOf (λi j=>if i<n then eN s cs i j else if j=i then 1 else 0) cs.length=rowsOf (ux s cs n []) cs.length from uY λi j _ _=>(adY s cs n i j).symm];rw[show rowsOf (λi j=>if i<n+1 then eN s cs i j else if j=i then 1 else 0) cs.length=rowsOf (ux s cs n (je oo)) cs.length from uY λi j _ _=>by rw[<- eg];exact(acf i j).symm];refine⟨rfl,?_⟩
   match oo,hb with
   |none,hb=>exact⟨_,_,_,_,rfl⟩
   |some o,hb =>
    refine f9 nwT o.ways (λas ot=>∃z u,ot=[.fz (frR s),.fz (.lst (cs.map opT)),.l2 (rowsOf (ux s cs n as) cs.length),.fz (.int n),.fz (ofT o),z,u]) ⟨_,_,rfl⟩ ?_ ?_
    .rintro as ⟨k,c⟩ bs _ e2 ⟨z,u,rfl⟩;have j2:(k,c)∈o.ways:=e2 ▸ by simp
     have hk:=hb.lt _ j2;obtain⟨c1,c2,c3⟩:=hb.bq _ j2;have nk:k∉as.map (·.1):=λz=>by
      have nd:=hb.nd;rw[show je (some o)=o.ways from rfl,e2,bf]at nd;exact(List.nodup_append.mp nd).2.2 k z k (by simp) rfl
     have cell:ux s cs n as n k=if k=n then 1 else 0:=by
      unfold ux;rw[ZZ (X9 _),ZY rfl,X_ nk]
      grind
     have q1:Bq (ux s cs n as n k)/\Bd (((ux s cs n as n k).den:Int)*(s*c).den):=by
      rw[cell];split
      .exact⟨bq1,by show Bd (1*_);rw[JU];exact c3.2⟩
      .exact⟨bq0,by show Bd (1*_);rw[JU];exact c3.2⟩
     refine⟨rfl,_,(abZ hn),_,dM (VT hk),s,c,rfl,hs,c1,c2,_,_,rfl,q1.1,c3,q1.2,n,_,Aw (by rw[aaD];exact hn),WT hn,k,Aw (by rw[ak,WJ];exact hk),.fz (.int k),.fz (frR c),?_⟩;rw[<- aaJ (f:=ux s cs n as) (g:=ux s cs n (as++[(k,c)])) (i:=n) (k:=k) (v:=ux s cs n as n k-s*c) λa b _ _=>?_]
     .rfl
     .by_cases a1:a=n
      .subst a1;rw[Uo,Y8];by_cases b1:b=k
       .subst b1;rw[ZY (show a=a/\b=b from⟨rfl,rfl⟩),Uo,ZY (show(b,c).1=b from rfl)]
        grind
       .rw[ZZ (show ¬(a=a/\b=k)from λz=>b1 z.2),Uo,ZZ (show ¬(k,c).1=b from λz=>b1 z.symm)]
        grind
      .rw[ZZ (show ¬(a=n/\b=k)from λz=>a1 z.1)];exact af2 _ _ _ a1
    .rintro _ ⟨z,u,rfl⟩;exact⟨_,_,_,_,rfl⟩
  .rintro _ ⟨x,y,z,u,rfl⟩;rw[show rowsOf (eN s cs) cs.length=rowsOf (λi j=>if i<cs.length then eN s cs i j else if j=i then 1 else 0) cs.length from uY λi j hi _=>by rw[ZY hi]]at q;exact q
open Rw (sg)
noncomputable def jV:Option bQ->Rat
 |none=>0
 |some o=>o.pay
def Ar(s:Rat)(cs:List (Option bQ)):List (List Rat):=(List.range cs.length).map λi=>(List.range cs.length).map λj=>eN s cs i j
theorem an3(s:Rat)(cs:List (Option bQ)):(rowsOf (eN s cs) cs.length).map T.lst=(Ar s cs).map I8:=by
 unfold rowsOf Ar;rw[WP,WP];refine U1 λi _=>?_;show T.lst _=T.lst (List.map frR _);rw[WP]
 rfl
theorem Ov(s:Rat)(cs:List (Option bQ)):(Ar s cs).length=cs.length:=by unfold Ar;rw[ak,WJ]
theorem afy{s:Rat}{cs:List (Option bQ)} : ∀r∈Ar s cs,r.length=cs.length:=λr hr=>by
 obtain⟨i,_,rfl⟩:=YV.mp hr;rw[ak,WJ]
def zu(s:Rat)(cs:List (Option bQ))(y:Nat->Rat):Prop:=∀i,i<cs.length->sg (λj=>eN s cs i j*y j) cs.length=jV (cs.getD i none)
structure WoB(s:Rat)(cs:List (Option bQ))(N:Nat):Prop where
 bs:Bq s
 ways:∀o∈cs,WyB s cs.length (je o)
 sys:Sys (Dw (Ar s cs) (cs.map jV)) N
theorem Vb{s:Rat}{cs:List (Option bQ)}{i:Nat}(h:i<cs.length):(Dw (Ar s cs) (cs.map jV))[i]?=some (((List.range cs.length).map λj=>eN s cs i j)++[jV (cs.getD i none)]):=by
 unfold Dw Ar;rw[List.getElem?_zipWith,aq,VT h,aq,au,aj h]
 rfl
theorem aaC{s:Rat}{cs:List (Option bQ)}{y:Nat->Rat}(h:∀r∈Dw (Ar s cs) (cs.map jV),sg (λj=>r.getD j 0*y j) cs.length=r.getD cs.length 0):zu s cs y:=λi hi=>by
 have:=h _ (aC (Vb hi));have l:((List.range cs.length).map λj=>eN s cs i j).length=cs.length:=by rw[ak,WJ]
 rw[show(((List.range cs.length).map λj=>eN s cs i j)++[jV (cs.getD i none)]).getD cs.length 0=jV (cs.getD i none)by
  rw[au,aD (by rw[l];exact aG _),l,Nat.sub_self];rfl]at this
 rw[<- this];refine Rw.bW λj hj=>?_;rw[au,aF (by rw[l];exact hj),aq,VT hj]
 rfl
def uM(D:Adr):ST:=λts R=>∃(s:Rat)(ns:Φ)(off:List (List bQ))(pl:List (Option Nat))(N:Nat),ts=[hlT D s ns off,.lst (pl.map dT)]/\Om ns off/\PlT off pl/\off.length<=100/\WoB s (chO off pl) N/\∀y:Nat->Rat,zu s (chO off pl) y->(∀i,i<off.length->FnB ((2*off.length*N)^off.length) (y i))->R (.l1 ((List.range off.length).map λi=>frR (y i)))
theorem Fb{off:List (List bQ)}{pl:List (Option Nat)}(h:PlT off pl):(chO off pl).length=off.length:=by unfold chO;rw[ak,List.length_zipIdx,h.len]
theorem Nv(F:Fun K lE lE qL f fd)(T:Txt K mg D)(eF:OkT P w K mg base 4 gK gM (mR D))(qF:OkT P w K mg base 4 jD jC (vD D))(wQ:OkT P w K mg base 4 o7 pN Di)(rG:OkT P w K mg base 8 j7 k_ yc):cj P w K mg base CX0 9 f fd lB (spT K (uM D)):=by
 refine F.okT vf (λts R hP=>by obtain⟨_,_,_,_,_,e,_⟩:=hP;exact e ▸ rfl) λaf A outer s H E hr=>?_;refine⟨_,(bF (jF (bI eF hr.md (by rfl) (bx (qv 0) (bx (qv 1) bC))))
  (bF (bO 2 vf.nd (Or.inl rfl) (bI qF hr.md (by rfl) (bx (qv 0) (bx (qv 1) bC))))
  (bF (uE (bH qL) xT xT ["offer"] (cH (qv 2)) (eU (i:=0)) cF (R0 (bY Fg (qv 0) gA) (lR (by rfl) T.ji T.gP) (bJ (qv 0) bA)) (m6 (i:=3) vf.nd rfl (Or.inl rfl)))
  (bG (bM (bI rG hr.md (by rfl) (bx (bI wQ hr.md (by rfl) (bx (uh (Fm:=Fam D) (λC h=>⟨T.cl C h,T.Ih C h⟩) (qv 0)) (bx (qv 2) bC))) (bx (qv 3) bC)))))))),?_⟩
 rintro _ R ⟨s,ns,off,pl,N,rfl,h,hp,few,hw,ok⟩;have cl:=Fb hp;refine⟨_,_,_,_,rfl,h,hp,_,_,_,_,rfl,h,hp,?_⟩;refine⟨by rw[ak,cl];exact aL few (by decide),comp_map opT (λo=>frR (jV o)) (chO off pl) (λo ho N M hN=>by cases o<;>exact hN) ?_⟩;refine⟨xG D,_,rfl,s,chO off pl,rfl,by exact aL (WG cl) few,hw.bs,hw.ways,Ar s (chO off pl),(chO off pl).map jV,N,?_,by rw[ak,Ov],by rw[Ov];exact afy,hw.sys,?_⟩
 .show[L2.T.lst ((rowsOf (eN s (chO off pl)) (chO off pl).length).map L2.T.lst),L2.T.lst ((chO off pl).map λo=>frR (jV o))]=_;rw[an3,WP]
  rfl
 .rw[Ov,cl];exact λy h1 h2=>ok y (aaC (by rw[cl];exact h1)) h2
noncomputable def FW(ws:List (Nat×Rat))(tp:List Int):Rat:=(ws.map λw=>w.2*((tp.getD w.1 0:Int):Rat)).sum
structure BhB(ws:List (Nat×Rat))(tp:List Int):Prop where
 few:ws.length<=1000
 lt:∀w∈ws,w.1<tp.length
 num:∀w∈ws,Bd w.2.num
 lcm:Bd (cI 1 (ws.map (·.2)):Nat)
 part:∀t∈tops (cI 1 (ws.map (·.2))) (ws.map (·.2)),Bd t
 top:∀t∈tp,Bd t
def xZ:ST:=λts q=>∃(o:bQ)(tp:List Int),ts=[ofT o,.lst (tp.map T.int)]/\BhB o.ways tp/\q (.fz (frR (FW o.ways tp)))
theorem Nm{B:Nat}(hB:0<B)(tp:List Int):∀ws:List (Nat×Rat),(∀w∈ws,w.2.den ∣ B)->Rat.divInt ((ws.map λw=>w.2.num*((B/w.2.den:Nat):Int)*tp.getD w.1 0).sum) B=FW ws tp
 |[],_=>by
  show Rat.divInt 0 B=0;exact TK _
 |w::ws,h=>by
  have ih:=Nm hB tp ws λx hx=>h x (aJ _ hx);show Rat.divInt (w.2.num*((B/w.2.den:Nat):Int)*tp.getD w.1 0+(ws.map λw=>w.2.num*((B/w.2.den:Nat):Int)*tp.getD w.1 0).sum) B=w.2*((tp.getD w.1 0:Int):Rat)+FW ws tp;rw[<- ih,UP,UP,Rat.intCast_add,XV];have e:((w.2.num*((B/w.2.den:Nat):Int):Int):Rat)/((B:Int):Rat)=w.2:=by
   obtain⟨k,hk⟩:=h w (aO ..);have hd:=w.2.den_pos;rw[show B/w.2.den=k by rw[hk];exact Nat.mul_div_cancel_left _ hd];have hJ:k≠0:=λz=>by rw[z]at hk;lia
   rw[<- UP,hk,TW,Rat.divInt_mul_right (by lia)];exact rd _
  have hb:((B:Int):Rat)≠0:=λz=>by have:=Rat.intCast_eq_zero_iff.mp z;lia
  grind
theorem Y5{α:Type}(ws:List α)(g h:α->Int):((ws.map g).zip ws).map (λp=>p.1*h p.2)=ws.map λw=>g w*h w:=by
 induction ws with
 |nil=>rfl
 |cons w ws ih=>exact ZH (List.cons _) ih
theorem HW(F:Fun K kj kj jt f fd)(T:Txt K mg D)(jz:OkT P w K mg base 2 pZ pW xP)(dU:OkT P w K mg base 2 nJ nC sY):cj P w K mg base CX0 3 f fd kY (spT K xZ):=by
 refine F.okT wX (λts R hP=>by obtain⟨_,_,e,_⟩:=hP;exact e ▸ rfl) λaf A outer s H E hr=>?_;refine⟨_,(bF (bO 2 wX.nd (Or.inl rfl) (bI jz hr.md (by rfl) (bx (dH (bH jt) jr jr ["room","chance"] (cH (bJ (qv 0) bA)) (fD (n:=2) rfl (bU (eU (i:=0)) (bU (eU (i:=1)) dO))) cF (qv 1)) bC)))
  (bG (bM (bI dU hr.md (by rfl) (bx (bR (VG rfl) (by rfl) T.Zu boot_sum (bx (dH (bH jt) jr jr ["part","way"] (DX (by rfl) T.Lk (bx (bJ (qv 2) bA) (bx (bJ (qv 0) bA) bC))) (fD (n:=2) rfl (bU (eU (i:=0)) (bU (eU (i:=1)) dO))) cF (bL cG (qv 0) (bJ (qv 3) (bJ (qv 1) bA)))) bC)) (bx (bJ (qv 2) bA) bC)))))),?_⟩
 rintro _ R ⟨o,tp,rfl,h,q⟩;refine⟨by rw[ak];exact aL h.few (by decide),comp_map nwT (λw=>frR w.2) o.ways (λw hw N M hN=>⟨rfl,hN⟩) ?_⟩;have hB:=d9 (o.ways.map (·.2)) VS;refine⟨o.ways.map (·.2),by rw[WP];rfl,by rw[ak];exact h.few,λr hr=>?_,h.lcm,?_⟩
 .obtain⟨w,hw,rfl⟩:=YV.mp hr;exact h.num w hw
 .refine⟨by unfold Aj;rw[ak,VY,ak,ak];exact aL (aL (Nat.min_le_right ..) h.few) (by decide),?_⟩;rw[zip_map];refine comp_map (λp:Int×(Nat×Rat)=>.tup [.int p.1,nwT p.2]) (λp=>.int (p.1*tp.getD p.2.1 0)) _ (λp hp N M hN=>?a) ?b
  case a =>
   have m2:=(UX hp).2;have lt:=h.lt _ m2;have hN:N (.int (p.1*tp.getD p.2.1 0)):=hN;rw[au,aj lt]at hN;exact⟨rfl,_,dM (aj lt),⟨h.part _ (UX hp).1,h.top _ (aU lt)⟩,hN⟩
  case b =>
   refine⟨((tops (cI 1 (o.ways.map (·.2))) (o.ways.map (·.2))).zip o.ways).map λp=>p.1*tp.getD p.2.1 0,by rw[WP];rfl,_,_,rfl,by lia,h.lcm,λx y l=>?_⟩;rw[iK l (by lia)];unfold tops;rw[WP,Y5 o.ways _ λw=>tp.getD w.1 0];have:=Nm hB tp o.ways λw hw=>(h_ (o.ways.map (·.2))).2 w.2 (YV.mpr ⟨w,hw,rfl⟩);rw[<- this]at q;exact q
def Fv:ST:=λts q=>∃(r:Rat)(rs:List Rat),ts=[.lst ((r::rs).map frR)]/\(∀x∈r::rs,Bq x)/\∀m,m∈r::rs->(∀x∈r::rs,x<=m)->q (.fz (frR m))
theorem Ti(F:Fun K qX qX zY f fd)(T:Txt K mg D)(gY:OkT P w K mg base 1 qy qz vO):cj P w K mg base CX0 2 f fd q_ (spT K Fv):=by
 refine F.okT qJ (λts R hP=>by obtain⟨_,_,e,_⟩:=hP;exact e ▸ rfl) λaf A outer s H E hr=>?_;refine⟨_,(bF (bO 1 qJ.nd (Or.inl rfl) gA)
  (bF (dJ VZ rfl (cH (qv 0)) (b_ (n:=99) 2 qJ.nd (Or.inl rfl))
  (bG (cB (QW.qt (iZ (bY Fg (qv 1) gA) (gR (cV (bI gY hr.md (by rfl) (bx (qv 1) (bx (qv 2) bC)))))))
  (bG (bO 1 qJ.nd (Or.inl rfl) (qv 2)))
  bT)))
  (bG (bM (qv 1))))),?_⟩
 rintro _ R ⟨r,rs,rfl,h,q⟩;refine f9 frR (r::rs) (λas o=>(as=[]/\∃x,o=[.fz (.lst ((r::rs).map frR)),.fz .non,x])\/∃m x,o=[.fz (.lst ((r::rs).map frR)),.fz (frR m),x]/\m∈as/\∀x∈as,x<=m) (.inl ⟨rfl,_,rfl⟩) ?_ ?_
 .rintro as a bs _ e (⟨rfl,x,rfl⟩|⟨m,x,rfl,hm,hE⟩)
  .exact .inr ⟨a,_,rfl,by simp,λx hx=>by rw[show x=a by simpa using hx];exact VQ⟩
  .have ba:Bq a:=h a (e ▸ by simp);have bm:Bq m:=h m (e ▸ Tu _ hm);exact⟨m,a,rfl,bm,ba,swD (λlt=>.inr ⟨a,_,rfl,by simp,λx hx=>(Y1.mp hx).elim (λz=>U2 (hE x z) (JP lt)) λz=>by rw[YR.mp z];exact VQ⟩) λky=>.inr ⟨m,_,rfl,Tu _ hm,λx hx=>(Y1.mp hx).elim (hE x) λz=>by rw[YR.mp z];exact Rat.not_lt.mp ky⟩⟩
 .rintro _ (⟨z,_⟩|⟨m,x,rfl,hm,hx⟩)
  .cases z
  .exact q m hm hx
structure LkB(s:Rat)(o:bQ)(tp:List Int)(B:Nat):Prop where
 bh:BhB o.ways tp
 pay:Bq o.pay
 bs:Bq s
 b:Bd (B:Int)
 dw:Bq (FW o.ways tp)
 d1:Bd ((s.den:Int)*(FW o.ways tp).den)
 p1:Bq (o.pay*(B:Rat))
 p2:Bq (s*FW o.ways tp)
 d2:Bd (((o.pay*(B:Rat)).den:Int)*(s*FW o.ways tp).den)
def oh(s:Rat)(tp:List Int)(B:Nat)(o:bQ):Rat:=o.pay*(B:Rat)+s*FW o.ways tp
def yq(D:Adr):ST:=λts q=>∃(s:Rat)(ns:Φ)(off:List (List bQ))(o:bQ)(tp:List Int)(B:Nat),ts=[hlT D s ns off,ofT o,.tup [.lst (tp.map T.int),.int (B:Nat)]]/\LkB s o tp B/\q (.fz (frR (oh s tp B o)))
theorem Jb(F:Fun K jY jY rT f fd)(T:Txt K mg D)(rW:OkT P w K mg base 3 kj kY xZ)(Ez:OkT P w K mg base 3 Dg Ci Nh)(uL:OkT P w K mg base 3 vM vR JD):cj P w K mg base CX0 4 f fd lQ (spT K (yq D)):=by
 refine F.okT xO (λts R hP=>by obtain⟨_,_,_,_,_,_,e,_⟩:=hP;exact e ▸ rfl) λaf A outer s H E hr=>?_;refine⟨_,(bF (bO 3 xO.nd (Or.inl rfl) (bI rW hr.md (by rfl) (bx (qv 1) (bx (bJ (qv 2) bA) bC))))
  (bG (bM (bI Ez hr.md (by rfl) (bx (bI uL hr.md (by rfl) (bx (bJ (qv 1) bA) (bx (dg (bx (bJ (qv 2) bA) (bx bA bC))) bC))) (bx (bI uL hr.md (by rfl) (bx (uh (Fm:=Fam D) (λC h=>⟨T.cl C h,T.Ih C h⟩) (qv 0)) (bx (qv 3) bC))) bC)))))),?_⟩
 rintro _ R ⟨s,ns,off,o,tp,B,rfl,h,q⟩;refine⟨o,tp,rfl,h.bh,o.pay,(B:Rat),rfl,h.pay,⟨h.b,bq1.2⟩,?_,xG D,_,rfl,s,FW o.ways tp,rfl,h.bs,h.dw,h.d1,_,_,rfl,h.p1,h.p2,h.d2,q⟩;show Bd ((o.pay.den:Int)*1);rw[Int.mul_one];exact h.pay.2
def Xe(rs:List Rat)(d b:Nat):Prop:=(∀x∈rs,x<=rs.getD d 0)/\b=d\/((rs.getD d 0)<rs.getD b 0/\b<rs.length/\(∀x∈rs,x<=rs.getD b 0)/\∀i,i<b->rs.getD i 0≠rs.getD b 0)
theorem aeA{a b:Rat}(h:(a.num,((a.den:Nat):Int))=(b.num,((b.den:Nat):Int))):a=b:=by
 injection h with h1 h2;exact Rat.ext h1 (by lia)
theorem aaq{rs:List Rat}{m:Rat}(h:m∈rs):∃j:Nat,rs[j]?=some m/\∀(i:Nat)g,i<j->rs[i]?=some g->g≠m:=by
 induction rs with
 |nil=>cases h
 |cons r rs ih =>
  by_cases e:r=m
  .exact⟨0,by rw[e];rfl,λi _ z=>absurd z (WV _)⟩
  .obtain⟨j,e1,e2⟩:=ih ((YU.mp h).resolve_left λz=>e z.symm);refine⟨j+1,e1,λi g hi eg=>?_⟩;cases i with
   |zero=>cases eg;exact e
   |succ i=>exact e2 i g (Nat.lt_of_succ_lt_succ hi) eg
def yw:ST:=λts q=>∃(rs:List Rat)(d:Nat),ts=[.lst (rs.map frR),.int (d:Nat)]/\d<rs.length/\rs.length<=1000/\(∀x∈rs,Bq x)/\∀b:Nat,Xe rs d b->q (.fz (.int (b:Nat)))
theorem IK(F:Fun K lD lD rH f fd)(T:Txt K mg D)(zX:OkT P w K mg base 2 qX q_ Fv)(gY:OkT P w K mg base 1 qy qz vO):cj P w K mg base CX0 3 f fd jZ (spT K yw):=by
 refine F.okT vZ (λts R hP=>by obtain⟨_,_,e,_⟩:=hP;exact e ▸ rfl) λaf A outer s H E hr=>?_;refine⟨_,(bF (bO 2 vZ.nd (Or.inl rfl) (bI zX hr.md (by rfl) (bx (qv 0) bC)))
  (bF (cB (cV (bI gY hr.md (by rfl) (bx (bJ (qv 0) (qv 1)) (bx (qv 2) bC))))
  (bG (bM (agf hr.units (qv 0) (bx (qv 2) bC))))
  bT)
  (bG (bM (qv 1))))),?_⟩
 rintro _ R ⟨rs,d,rfl,hd,few,hb,q⟩;have ed:=aj hd;have gd:rs.getD d 0=rs[d]:=by rw[au,ed];rfl
 obtain⟨r,dt,e0⟩ : ∃r dt,rs=r::dt:=by
  cases rs with
  |nil=>exact absurd hd (WV _)
  |cons r rs=>exact⟨r,rs,rfl⟩
 refine⟨r,dt,by rw[e0];rfl,λx hx=>hb x (e0 ▸ hx),λm hm hx=>?_⟩;rw[<- e0]at hm hx;refine⟨_,dM ed,_,m,rfl,hb _ (aU hd),hb m hm,swD (λlt=>?_) λky=>?_⟩
 .obtain⟨j,ej,nj⟩:=aaq hm;have gj:rs.getD j 0=m:=by rw[au,ej];rfl
  refine⟨rs.map λr=>(r.num,((r.den:Nat):Int)),(m.num,((m.den:Nat):Int)),j,by rw[WP];rfl,rfl,by rw[ak];exact aL few (by decide),by rw[aq,ej];rfl,λi g hi eg=>?_,q j (.inr ⟨by rw[gd,gj];exact lt,(ao.mp ej).1,by rw[gj];exact hx,λi hi=>?_⟩)⟩
  .rw[aq]at eg;have li:i<rs.length:=Th hi (ao.mp ej).1;rw[aj li]at eg;cases eg;exact λz=>nj i _ hi (aj li) (aeA z)
  .have li:i<rs.length:=Th hi (ao.mp ej).1;rw[gj,au,aj li];exact nj i _ hi (aj li)
 .refine q d (.inl ⟨λx hE=>?_,rfl⟩);rw[gd];exact U2 (hx x hE) (Rat.not_lt.mp ky)
structure Mf(s:Rat)(off:List (List bQ))(tp:List Int)(B:Nat)(pl bo:List (Option Nat)):Prop where
 len:bo.length=pl.length
 none:∀k:Nat,pl[k]?=some none->bo[k]?=some none
 some:∀(k d:Nat)(ds:List bQ),pl[k]?=some (some d)->off[k]?=some ds->∃b,bo[k]?=some (some b)/\Xe (ds.map (oh s tp B)) d b
structure MeB(s:Rat)(off:List (List bQ))(ys:List Rat):Prop where
 few:ys.length<=1000
 num:∀r∈ys,Bd r.num
 lcm:Bd (cI 1 ys:Nat)
 look:∀ds∈off,∀o∈ds,LkB s o (tops (cI 1 ys) ys) (cI 1 ys)/\Bq (oh s (tops (cI 1 ys) ys) (cI 1 ys) o)
def Li(D:Adr):ST:=λts R=>∃(s:Rat)(ns:Φ)(off:List (List bQ))(pl:List (Option Nat))(ys:List Rat),ts=[hlT D s ns off,.lst (pl.map dT),.lst (ys.map frR)]/\Om ns off/\PlT off pl/\MeB s off ys/\∀bo:List (Option Nat),Mf s off (tops (cI 1 ys) ys) (cI 1 ys) pl bo->R (.l1 (bo.map dT))
theorem Ym(F:Fun K yO yO BX f fd)(T:Txt K mg D)(eF:OkT P w K mg base 4 gK gM (mR D))(jz:OkT P w K mg base 2 pZ pW xP)(rZ:OkT P w K mg base 4 jY lQ (yq D))(rQ:OkT P w K mg base 3 lD jZ yw)(cY:OkI P w K mg base CX0 3 D.Hall_offers eX (spT K (tL D))):cj P w K mg base CX0 5 f fd yQ (spT K (Li D)):=by
 refine F.okT pR (λts R hP=>by obtain⟨_,_,_,_,_,e,_⟩:=hP;exact e ▸ rfl) λaf A outer s H E hr=>?_;refine⟨_,(bF (jF (bI eF hr.md (by rfl) (bx (qv 0) (bx (qv 1) bC))))
  (bF (bO 3 pR.nd (Or.inr rfl) (bI jz hr.md (by rfl) (bx (qv 2) bC)))
  (bF (iw 4 pR.nd (Or.inl rfl) (eE bC))
  (bF (dJ VZ rfl (Dq (by rfl) T.nH (bx (qv 1) bC)) (fD (n:=2) rfl (bU (b_ (n:=99) 5 pR.nd (Or.inl rfl)) (bU (b_ (n:=99) 6 pR.nd (Or.inl rfl)) dO)))
  (bF (uE (bH BX) Jr Jr ["offer"] (cH (Dp (qv 0) T.jW T.lG cY hr.md (bx (qv 5) bC) (KS:=mV))) (eU (i:=0)) cF (bI rZ hr.md (by rfl) (bx (qv 1) (bx (qv 0) (bx (qv 4) bC)))) (m6 (i:=7) pR.nd rfl (Or.inl rfl)))
  (bG (nY 4 (R0 (bY Fg (qv 6) gA) gA (bI rQ hr.md (by rfl) (bx (qv 7) (bx (qv 6) bC))))))))
  (bG (jy 4)))))),?_⟩
 rintro _ R ⟨s,ns,off,pl,ys,rfl,h,hp,hm,ok⟩;refine⟨_,_,_,_,rfl,h,hp,ys,rfl,hm.few,hm.num,hm.lcm,?_⟩;have lk:=hm.look;generalize cI 1 ys=B at *;generalize tops B ys=tp at *;refine yU dT pl (λk o=>∃bo x y z,o=[.fz (hlT D s ns off),.fz (.lst (pl.map dT)),.fz (.lst (ys.map frR)),.fz (.tup [.lst (tp.map L2.T.int),.int (B:Nat)]),.l1 (bo.map dT),x,y,z]/\bo.length=k/\(∀i:Nat,i<k->pl[i]?=some none->bo[i]?=some none)/\∀(i d:Nat)(ds:List bQ),i<k->pl[i]?=some (some d)->off[i]?=some ds->∃b,bo[i]?=some (some b)/\Xe (ds.map (oh s tp B)) d b) ⟨[],.und,.und,.und,rfl,rfl,λi z=>absurd z (WV _),λi d ds z=>absurd z (WV _)⟩ ?_ ?_
 .rintro k d _ e ⟨bo,x,y,z,rfl,l1,h1,h2⟩;have lk':k<off.length:=by rw[<- hp.len];exact(ao.mp e).1
  have ek:=aj lk';have few:=h.few;have hl:=h.len;have lm:(bo.map dT).length<sizeLine:=by rw[ak];exact aR (show _<1001 by lia) (by decide)
  have mem:=aU lk';have fd:=h.fews _ mem;have jI:∀{i:Nat}(v:Option Nat),i<k->(bo++[v])[i]?=bo[i]?:=λv hi=>aF (by lia);have rgt:∀v:Option Nat,(bo++[v])[k]?=some v:=λv=>by rw[aD (WG l1),l1,Nat.sub_self];rfl
  have ma:∀v:Option Nat,bo.map dT++[dT v]=(bo++[v]).map dT:=λv=>by rw[bf];rfl
  refine⟨rfl,⟨rfl,rfl⟩,_,_,_,k,_,rfl,h,ek,by rw[ak];exact aL fd (by decide),comp_map ofT (λo=>frR (oh s tp B o)) off[k] (λo ho N M hN=>⟨s,ns,off,o,tp,B,rfl,(lk _ mem o ho).1,hN⟩) ?_⟩;cases d with
  |none =>
   refine⟨lm,bo++[none],.fz (.int k),.fz .non,.fz (.lst (off[k].map λo=>frR (oh s tp B o))),?_,by simp[l1],λi hi ei=>?_,λi d ds hi ei=>?_⟩
   .rw[<- ma]
    rfl
   .by_cases c:i=k
    .rw[c];exact rgt none
    .rw[jI none (XX (UZ hi) c)];exact h1 i (XX (UZ hi) c) ei
   .by_cases c:i=k
    .rw[c,e]at ei;cases ei
    .rw[jI none (XX (UZ hi) c)];exact h2 i d ds (XX (UZ hi) c) ei
  |some d =>
   have ld:d<(off[k]).length:=of_decide_eq_true (hp.ok k (some d) _ e ek);refine⟨off[k].map (oh s tp B),d,by rw[WP];rfl,by rw[ak];exact ld,by rw[ak];exact fd,λx hx=>?_,λb hb=>⟨lm,bo++[some b],.fz (.int k),.fz (.int d),.fz (.lst (off[k].map λo=>frR (oh s tp B o))),?_,by simp[l1],λi hi ei=>?_,λi d' ds hi ei es=>?_⟩⟩
   .obtain⟨o,ho,rfl⟩:=YV.mp hx;exact(lk _ mem o ho).2
   .rw[<- ma]
    rfl
   .by_cases c:i=k
    .rw[c,e]at ei;cases ei
    .rw[jI (some b) (XX (UZ hi) c)];exact h1 i (XX (UZ hi) c) ei
   .by_cases c:i=k
    .subst c;rw[e]at ei;rw[ek]at es;cases ei;cases es;exact⟨b,rgt (some b),hb⟩
    .rw[jI (some b) (XX (UZ hi) c)];exact h2 i d' ds (XX (UZ hi) c) ei es
 .rintro _ ⟨bo,x,y,z,rfl,l1,h1,h2⟩;exact ok bo ⟨l1,λk e=>h1 k (ao.mp e).1 e,λk d ds e=>h2 k d ds (ao.mp e).1 e⟩
open Rw (sg fY fG bW gD gQ)
noncomputable def dw(ws:List (Nat×Rat))(x:Nat->Rat):Rat:=(ws.map λw=>w.2*x w.1).sum
noncomputable def Ef(ws:List (Nat×Rat)):Rat:=(ws.map (·.2)).sum
theorem cX(w:Nat×Rat)(ws:List (Nat×Rat))(x:Nat->Rat):dw (w::ws) x=w.2*x w.1+dw ws x:=rfl
theorem zm(w:Nat×Rat)(ws:List (Nat×Rat)):Ef (w::ws)=w.2+Ef ws:=rfl
theorem Xb{M:Rat}{x:Nat->Rat} : ∀{ws:List (Nat×Rat)},(∀w∈ws,0<=w.2/\x w.1<=M)->dw ws x<=Ef ws*M
 |[],_=>by show(0:Rat)<=0*M;rw[Rat.zero_mul];exact VQ
 |w::ws,h=>by
  rw[cX,zm];have:=Xb (ws:=ws) λv hv=>h v (aJ _ hv);obtain⟨a,b⟩:=h w (aO ..);have:=Tx b a
  grind
theorem aev{m:Nat}{x:Nat->Rat} : ∀{ws:List (Nat×Rat)},(∀w∈ws,w.1<m)->sg (λj=>rO ws j*x j) m=dw ws x
 |[],_=>by
  show sg (λj=>0*x j) m=0;rw[bW (g:=λ_=>0) λj _=>Rat.zero_mul _,gD]
 |w::ws,h=>by
  rw[cX,<- aev (m:=m) (ws:=ws) λv hv=>h v (aJ _ hv)];rw[bW (g:=λj=>(if j=w.1 then 1 else 0)*(w.2*x j)+rO ws j*x j) λj _=>?_,fY,gQ (v:=λj=>w.2*x j),ZY (h w (aO ..))];show((if w.1=j then w.2 else 0)+rO ws j)*x j=_;by_cases e:w.1=j
  .rw[ZY e,ZY e.symm];grind
  .rw[ZZ e,ZZ (Ne.symm e)];grind
theorem aaQ(x:Nat->Rat):∀{m:Nat},0<m->∃i,i<m/\∀j,j<m->x j<=x i
 |0,h=>absurd h (WV _)
 |1,_=>⟨0,VS,λj hj=>by rw[show j=0 by exact Nat.eq_zero_of_le_zero (UZ hj)];exact VQ⟩
 |m+2,_=>by
  obtain⟨i,hi,h⟩:=aaQ x (m:=m+1) (TR _);by_cases c:x i<=x (m+1)
  .refine⟨m+1,by exact X1 _,λj hj=>?_⟩;by_cases e:j=m+1
   .rw[e];exact VQ
   .exact U2 (h j (XX (UZ hj) e)) c
  .refine⟨i,by exact Th hi (X1 _),λj hj=>?_⟩;by_cases e:j=m+1
   .rw[e];exact JP (Rat.not_le.mp c)
   .exact h j (XX (UZ hj) e)
structure ShB(s:Rat)(m:Nat)(ws:List (Nat×Rat)):Prop where
 lt:∀w∈ws,w.1<m
 nn:∀w∈ws,0<=w.2
 one:Ef ws<=1
theorem sub_le{m:Nat}{s:Rat}{ws:Nat->List (Nat×Rat)}{x:Nat->Rat}(s0:0<=s)(s1:s<1)(hw:∀i,i<m->ShB s m (ws i))(h:∀i,i<m->x i<=s*dw (ws i) x):∀j,j<m->x j<=0:=λj hj=>by
 obtain⟨i,hi,mx⟩:=aaQ x (m:=m) (by lia);refine U2 (mx j hj) (Rat.not_lt.mp λp=>?_);have b:=hw i hi;have d:dw (ws i) x<=Ef (ws i)*x i:=Xb λw hw=>⟨b.nn w hw,mx _ (b.lt w hw)⟩;have e:Ef (ws i)*x i<=1*x i:=QP b.one (JP p);have f:=Tx (U2 d e) s0;have g:=h i hi;have k:s*x i<1*x i:=Rat.mul_lt_mul_of_pos_right s1 p
 grind
theorem Vf{s:Rat}{cs:List (Option bQ)}{x:Nat->Rat}{i:Nat}(hi:i<cs.length)(h:∀w∈je (cs.getD i none),w.1<cs.length):sg (λj=>eN s cs i j*x j) cs.length=x i-s*dw (je (cs.getD i none)) x:=by
 rw[<- aev h,bW (g:=λj=>(if j=i then 1 else 0)*x j+(-s)*(rO (je (cs.getD i none)) j*x j)) λj _=>by unfold eN;grind,fY,fG,gQ (v:=x),ZY hi]
 grind
theorem D_{s:Rat}{cs:List (Option bQ)}{y:Nat->Rat}(h:∀i,i<cs.length->ShB s cs.length (je (cs.getD i none))):zu s cs y↔∀i,i<cs.length->y i=jV (cs.getD i none)+s*dw (je (cs.getD i none)) y:=by
 constructor
 .intro w i hi;have:=w i hi;rw[Vf hi (h i hi).lt]at this
  grind
 .intro w i hi;rw[Vf hi (h i hi).lt];have:=w i hi
  grind
theorem Mz(x:Nat->Rat):∀ws:List (Nat×Rat),dw ws (λj=>-(x j))=-(dw ws x)
 |[]=>by show(0:Rat)=-0;grind
 |w::ws=>by rw[cX,cX,Mz x ws];grind
theorem aeI{s:Rat}{cs:List (Option bQ)}(s0:0<=s)(s1:s<1)(h:∀i,i<cs.length->ShB s cs.length (je (cs.getD i none)))(x:Nat->Rat)(hx:∀i,i<cs.length->sg (λj=>eN s cs i j*x j) cs.length=0):∀j,j<cs.length->x j=0:=λj hj=>by
 have e:∀i,i<cs.length->x i=s*dw (je (cs.getD i none)) x:=λi hi=>by
  have:=hx i hi;rw[Vf hi (h i hi).lt]at this
  grind
 have a:=sub_le s0 s1 h (x:=x) (λi hi=>by rw[<- e i hi];exact VQ) j hj;have b:=sub_le s0 s1 h (x:=λj=>-(x j)) (λi hi=>by
  show -(x i)<=_;rw[Mz,e i hi]
  grind) j hj
 grind
open Rw (sg fY fG bW gD gQ Big)
theorem ur(s:Rat)(cs:List (Option bQ)):(Dw (Ar s cs) (cs.map jV)).length=cs.length:=by rw[JY,Ov,ak,UV]
theorem acJ{s:Rat}{cs:List (Option bQ)}(s0:0<=s)(s1:s<1)(h:∀i,i<cs.length->ShB s cs.length (je (cs.getD i none)))(x:Nat->Rat)(h0:∀j,cs.length<=j->x j=0)(hx:∀r∈Dw (Ar s cs) (cs.map jV),sg (λj=>r.getD j 0*x j) (cs.length+1)=0):∀j,j<cs.length->x j=0:=by
 refine aeI s0 s1 h x λi hi=>?_;have:=hx _ (aC (Vb hi));have l:((List.range cs.length).map λj=>eN s cs i j).length=cs.length:=by rw[ak,WJ]
 rw[<- this];show _=sg (λj=>(((List.range cs.length).map λj=>eN s cs i j)++[jV (cs.getD i none)]).getD j 0*x j) cs.length+_*x cs.length;rw[h0 _ (aG _),Rat.mul_zero,Rat.add_zero];refine bW λj hj=>?_;rw[au,aF (by rw[l];exact hj),aq,VT hj]
 rfl
theorem acD{A Q:Nat}{r:List Rat}(hA:1<=A)(hQ:0<Q)(h:∀c∈r,c.den ∣ Q/\c.num.natAbs<=A*c.den):Big (A*Q) (iQ r):=by
 have hB:=d9 r VS;have hd:cI 1 r ∣ Q:=jJ r (UK _) λc hc=>(h c hc).1;have le:=UY hQ hd;refine⟨by show(0:Int)<(cI 1 r:Nat);lia,?_,λt ht=>?_⟩
 .show((cI 1 r:Nat):Int).natAbs<=A*Q;rw[XG];exact aL le (Zzr _ hA)
 .obtain⟨c,hc,rfl⟩:=YV.mp ht;rw[VX,XG];refine aL (Zzy _ (h c hc).2) ?_;rw[Nat.mul_assoc,Nat.mul_div_cancel' ((h_ r).2 c hc)];exact TU _ le
theorem Hh{s:Rat}{cs:List (Option bQ)}{r:List Rat}(hr:r∈Dw (Ar s cs) (cs.map jV)):∃i,i<cs.length/\r=((List.range cs.length).map λj=>eN s cs i j)++[jV (cs.getD i none)]:=by
 obtain⟨i,e⟩:=aV hr;have hi:i<cs.length:=by have:=(ao.mp e).1;rw[ur]at this;exact this
 rw[Vb hi]at e;injection e with e;exact⟨i,hi,e.symm⟩
theorem Yc(ys:List Rat)(k:Nat):(((tops (cI 1 ys) ys).getD k 0:Int):Rat)=ys.getD k 0*((cI 1 ys:Nat):Rat):=by
 have h:=Iz ys k;unfold Rw.vr at h;have hB:=d9 ys VS;have n:((((cI 1 ys:Nat):Int)):Rat)≠0:=λz=>by have:=Rat.intCast_eq_zero_iff.mp z;lia
 have e:((((cI 1 ys:Nat):Int)):Rat)=((cI 1 ys:Nat):Rat):=rfl;rw[<- e,<- h];show _=(((tops (cI 1 ys) ys).getD k 0:Int):Rat)/_*_
 grind
theorem V8(ys:List Rat):∀ws:List (Nat×Rat),FW ws (tops (cI 1 ys) ys)=dw ws (λk=>ys.getD k 0)*((cI 1 ys:Nat):Rat)
 |[]=>by show(0:Rat)=0*_;rw[Rat.zero_mul]
 |w::ws=>by
  show w.2*(((tops (cI 1 ys) ys).getD w.1 0:Int):Rat)+FW ws _=_;rw[V8 ys ws,cX,Yc]
  grind
def Yu(s:Rat)(y:Nat->Rat)(o:bQ):Rat:=o.pay+s*dw o.ways y
theorem G8(s:Rat)(ys:List Rat)(o:bQ):oh s (tops (cI 1 ys) ys) (cI 1 ys) o=Yu s (λk=>ys.getD k 0) o*((cI 1 ys:Nat):Rat):=by
 unfold oh Yu;rw[V8]
 grind
theorem JQ{x z:Nat->Rat} : ∀{ws:List (Nat×Rat)},(∀w∈ws,x w.1=z w.1)->dw ws x=dw ws z
 |[],_=>rfl
 |w::ws,h=>by rw[cX,cX,h w (aO ..),JQ λv hv=>h v (aJ _ hv)]
theorem Mu{x z:Nat->Rat} : ∀{ws:List (Nat×Rat)},(∀w∈ws,0<=w.2/\x w.1<=z w.1)->dw ws x<=dw ws z
 |[],_=>VQ
 |w::ws,h=>by
  rw[cX,cX];have:=Mu (ws:=ws) λv hv=>h v (aJ _ hv);obtain⟨a,b⟩:=h w (aO ..);have:=Tx b a
  grind
theorem Js(x z:Nat->Rat):∀ws:List (Nat×Rat),dw ws (λj=>x j-z j)=dw ws x-dw ws z
 |[]=>by show(0:Rat)=0-0;grind
 |w::ws=>by rw[cX,cX,cX,Js x z ws];grind
def n8(s:Rat)(y:Nat->Rat)(c:Option bQ):Rat:=jV c+s*dw (je c) y
theorem Bg{m:Nat}{s:Rat}{c:Nat->Option bQ}{y z:Nat->Rat}(s0:0<=s)(s1:s<1)(hw:∀i,i<m->ShB s m (je (c i)))(hy:∀i,i<m->y i<=n8 s y (c i))(hz:∀i,i<m->z i=n8 s z (c i)):∀i,i<m->y i<=z i:=λi hi=>by
 have:=sub_le s0 s1 hw (x:=λj=>y j-z j) (λi hi=>by
  rw[Js];show y i-z i<=_;have a:=hy i hi;have b:=hz i hi;unfold n8 at a b
  grind) i hi
 grind
theorem aaL{m:Nat}{s:Rat}{c:Nat->Option bQ}{y z:Nat->Rat}(s0:0<=s)(s1:s<1)(hw:∀i,i<m->ShB s m (je (c i)))(hy:∀i,i<m->y i<=n8 s y (c i))(hz:∀i,i<m->z i=n8 s z (c i)){i:Nat}(hi:i<m)(lt:y i<n8 s y (c i)):y i<z i:=by
 have le:=Bg s0 s1 hw hy hz;have m1:=Mu (ws:=je (c i)) (x:=y) (z:=z) λw hm=>⟨(hw i hi).nn w hm,le _ ((hw i hi).lt w hm)⟩;have m2:=Tx m1 s0;have e:=hz i hi;unfold n8 at lt e
 grind
theorem FP{off:List (List bQ)}{pl:List (Option Nat)}{i:Nat}{d:Option Nat}(e:pl[i]?=some d):(chO off pl).getD i none=d.bind λd=>(off.getD i [])[d]?:=by
 unfold chO;rw[au,aq,List.getElem?_zipIdx,e];simp
theorem aco{s:Rat}{ys:List Rat}{ds:List bQ}{d b:Nat}(hd:d<ds.length)(h:Xe (ds.map (oh s (tops (cI 1 ys) ys) (cI 1 ys))) d b):b=d\/∃o p,ds[d]?=some o/\ds[b]?=some p/\Yu s (λk=>ys.getD k 0) o<Yu s (λk=>ys.getD k 0) p:=by
 rcases h with⟨_,e⟩|⟨lt,lb,_⟩
 .exact .inl e
 .rw[ak]at lb;refine .inr ⟨_,_,aj hd,aj lb,?_⟩;rw[au,au,aq,aq,aj hd,aj lb]at lt;have lt:oh s (tops (cI 1 ys) ys) (cI 1 ys) ds[d]<oh s (tops (cI 1 ys) ys) (cI 1 ys) ds[b]:=lt;rw[G8,G8]at lt;have hB:=d9 ys VS;have p:(0:Rat)<((cI 1 ys:Nat):Rat):=by
   have:((0:Int):Rat)<(((cI 1 ys:Nat):Int):Rat):=Rat.intCast_lt_intCast.mpr (by lia);exact this
  exact(Rat.mul_lt_mul_right p).mp lt
theorem LK{s:Rat}{off:List (List bQ)}{tp:List Int}{B:Nat}{pl bo:List (Option Nat)}(hp:PlT off pl)(h:Mf s off tp B pl bo):PlT off bo:=by
 refine⟨by rw[h.len,hp.len],λk d ds e1 e2=>?_⟩;have lk:k<pl.length:=by rw[<- h.len];exact(ao.mp e1).1
 have ek:=aj lk;have ft:=hp.ok k _ ds ek e2;cases ed:pl[k]with
 |none =>
  rw[ed]at ek ft;rw[h.none k ek]at e1;cases e1;exact ft
 |some c =>
  rw[ed]at ek ft;obtain⟨b,e3,hb⟩:=h.some k c ds ek e2;rw[e3]at e1;cases e1;have lc:c<ds.length:=of_decide_eq_true ft;rcases hb with⟨_,rfl⟩|⟨_,lb,_⟩
  .exact ft
  .rw[ak]at lb;exact Zs lb
theorem rise{s:Rat}{off:List (List bQ)}{pl bo:List (Option Nat)}{ys:List Rat}{z:Nat->Rat}(s0:0<=s)(s1:s<1)(hw:∀ds∈off,∀o∈ds,ShB s off.length o.ways)(hp:PlT off pl)(h:Mf s off (tops (cI 1 ys) ys) (cI 1 ys) pl bo)
 (hy:∀i,i<off.length->ys.getD i 0=n8 s (λk=>ys.getD k 0) ((chO off pl).getD i none))(hz:∀i,i<off.length->z i=n8 s z ((chO off bo).getD i none)):(∀i,i<off.length->ys.getD i 0<=z i)/\∀i,i<off.length->bo[i]?≠pl[i]?->ys.getD i 0<z i:=by
 have db:=LK hp h;have sh:∀{ql:List (Option Nat)},PlT off ql->∀i,i<off.length->ShB s off.length (je ((chO off ql).getD i none)):=λ{ql}hq i hi=>by
  have ei:=aj (show i<ql.length by rw[hq.len];exact hi);rw[FP ei];cases ql[i]'(by rw[hq.len];exact hi)with
  |none=>exact⟨λ_ z=>(nomatch z),λ_ z=>(nomatch z),by show(0:Rat)<=1;decide⟩
  |some d =>
   show ShB s off.length (je ((off.getD i [])[d]?));rw[au,aj hi];show ShB s off.length (je (off[i][d]?));cases ed:off[i][d]? with
   |none=>exact⟨λ_ z=>(nomatch z),λ_ z=>(nomatch z),by show(0:Rat)<=1;decide⟩
   |some o=>exact hw _ (aU hi) o (aC ed)
 have da:∀i,i<off.length->(bo[i]?=pl[i]?/\ys.getD i 0=n8 s (λk=>ys.getD k 0) ((chO off bo).getD i none))\/ys.getD i 0<n8 s (λk=>ys.getD k 0) ((chO off bo).getD i none):=λi hi=>by
  have lp:i<pl.length:=by rw[hp.len];exact hi
  have ei:=aj lp;have eo:=aj hi;have go:off.getD i []=off[i]:=by rw[au,eo];rfl
  have g9:=hy i hi;rw[FP ei]at g9;cases ed:pl[i]with
  |none =>
   rw[ed]at ei g9;have e':=h.none i ei;exact .inl ⟨by rw[e',ei],by rw[FP e'];exact g9⟩
  |some d =>
   rw[ed]at ei g9;obtain⟨b,e',hb⟩:=h.some i d _ ei eo;have ld:d<(off[i]).length:=of_decide_eq_true (hp.ok i (some d) _ ei eo);rcases aco ld hb with rfl|⟨o,p,e1,e2,lt⟩
   .exact .inl ⟨by rw[e',ei],by rw[FP e'];exact g9⟩
   .refine .inr ?_;rw[FP e',g9];show n8 s _ ((off.getD i [])[d]?)<n8 s _ ((off.getD i [])[b]?);rw[go,e1,e2];exact lt
 have le1:∀i,i<off.length->ys.getD i 0<=n8 s (λk=>ys.getD k 0) ((chO off bo).getD i none):=λi hi=>(da i hi).elim (λz=>by rw[<- z.2];exact VQ) JP;exact⟨Bg (y:=λk=>ys.getD k 0) s0 s1 (sh db) le1 hz,λi hi ne=>aaL (y:=λk=>ys.getD k 0) s0 s1 (sh db) le1 hz hi ((da i hi).resolve_left λz=>ne z.1)⟩
theorem Fz{α:Type}{g:α->PyData}(h:∀x,PyData.canLay0 (g x)=true):∀xs:List α,PyData.canLayAll0 (xs.map g)=true
 |[]=>rfl
 |x::xs=>by rw[List.map_cons];unfold PyData.canLayAll0;rw[Fz h xs,h x];rfl
theorem JH{α:Type}{g:α->PyData}{n:Nat}(h:∀x,PyData.depth (g x)<=n):∀xs:List α,PyData.depthAll (xs.map g)<=n
 |[]=>aZ _
 |x::xs=>by
  rw[List.map_cons];unfold PyData.depthAll;have:=JH h xs;have:=h x;lia
theorem Jd{α:Type}{g:α->PyData}{h:α->T}(e:∀x,h x=ofD (g x)):∀xs:List α,xs.map h=Zv (xs.map g)
 |[]=>rfl
 |x::xs=>by rw[List.map_cons,List.map_cons,Jd e xs,e x];rfl
theorem QC{α:Type}[DecidableEq α]{g:α->PyData}(h:∀x y,PyData.eqv (g x) (g y)=decide (x=y)):∀xs ys:List α,PyData.eqvAll (xs.map g) (ys.map g)=decide (xs=ys)
 |[],[]=>rfl
 |[],_::_=>rfl
 |_::_,[]=>rfl
 |x::xs,y::ys=>by
  rw[List.map_cons,List.map_cons];unfold PyData.eqvAll;rw[h,QC h xs ys,<- Bool.decide_and];exact decide_eq_decide.mpr ⟨λz=>by rw[z.1,z.2],λz=>List.cons.inj z⟩
structure EqD{α:Type}[DecidableEq α](h:α->T)(g:α->PyData):Prop where
 of:∀x,h x=ofD (g x)
 lay:∀x,PyData.canLay0 (g x)=true
 dep:∀x,PyData.depth (g x)<=60
 eqv:∀x y,PyData.eqv (g x) (g y)=decide (x=y)
theorem EqD.lst{α:Type}[DecidableEq α]{h:α->T}{g:α->PyData}(E:EqD h g)(xs:List α):SeqAt.shaped (.list (xs.map g))=true:=by
 have h1:PyData.canLay0 (.list (xs.map g))=true:=by unfold PyData.canLay0;exact Fz E.lay xs
 have h2:PyData.depth (.list (xs.map g))<=64:=by unfold PyData.depth;have:=JH E.dep xs;lia
 unfold SeqAt.shaped;rw[h1,Zs h2];rfl
theorem EqD.gEq{α:Type}[DecidableEq α]{h:α->T}{g:α->PyData}(E:EqD h g){neg:Bool}{a c:List α}{q:OT->Prop}(hq:q (.fz (.bl (xr neg (decide (a=c)))))):gEq neg (.lst (a.map h)) (.lst (c.map h)) q:=by
 refine⟨.list (a.map g),.list (c.map g),ZH L2.T.lst (Jd E.of a),ZH L2.T.lst (Jd E.of c),E.lst a,E.lst c,?_⟩;unfold PyData.eqv;rw[QC E.eqv];exact hq
noncomputable def dD:Option Nat->PyData
 |none=>.none
 |some d=>.int (d:Nat)
theorem Z_:EqD dT dD:=⟨λx=>by cases x<;>rfl,λx=>by cases x<;>rfl,λx=>by cases x<;>exact aZ _,λx y=>by
 cases x<;>cases y
 .rfl
 .rfl
 .rfl
 .rename_i a b
  show decide ((a:Int)=(b:Int))=_;exact decide_eq_decide.mpr ⟨λz=>by rw[Int.ofNat.inj z],λz=>by rw[Option.some.inj z]⟩⟩
noncomputable def sW:List (List bQ)->List (List (Option Nat))
 |[]=>[[]]
 |ds::off=>((if ds=[]then[none]else(List.range ds.length).map some).map λd=>(sW off).map λpl=>d::pl).flatten
theorem WD:∀{off:List (List bQ)}{pl:List (Option Nat)},PlT off pl->pl∈sW off
 |[],pl,h=>by
  have:=h.len;rw[List.length_eq_zero_iff.mp this];exact YR.mpr rfl
 |ds::off,[],h=>by have:=h.len;cases this
 |ds::off,d::pl,h=>by
  have ih:=WD (off:=off) (pl:=pl) ⟨Nat.succ.inj h.len,λk d ds e1 e2=>h.ok (k+1) d ds e1 e2⟩;have ft:=h.ok 0 d ds rfl rfl;refine List.mem_flatten.mpr ⟨_,YV.mpr ⟨d,?_,rfl⟩,YV.mpr ⟨pl,ih,rfl⟩⟩;cases d with
  |none =>
   have:ds.length=0:=of_decide_eq_true ft;rw[ZY (List.length_eq_zero_iff.mp this)];exact YR.mpr rfl
  |some d =>
   have:d<ds.length:=of_decide_eq_true ft;rw[ZZ λz=>by rw[z]at this;cases this];exact YV.mpr ⟨d,List.mem_range.mpr this,rfl⟩
theorem Lw{α:Type} : ∀{l l':List α},l.Nodup->(∀a∈l,a∈l')->l.length<=l'.length
 |[],_,_,_=>aZ _
 |a::l,l',nd,h=>by
  obtain⟨s,t,rfl⟩:=List.append_of_mem (h a (aO ..));have jv:=List.nodup_cons.mp nd;have:=Lw (l:=l) (l':=s++t) jv.2 λb hb=>by
   have m:=h b (aJ _ hb);rcases Y1.mp m with z|z
   .exact Tu _ z
   .rcases YU.mp z with y|y
    .exact absurd (y ▸ hb) jv.1
    .exact aP _ y
  rw[List.length_cons,aA,List.length_cons];rw[aA]at this;lia
def nZ(s:Rat)(off:List (List bQ))(pl:List (Option Nat))(ys:List Rat):Prop:=ys.length=off.length/\∀i,i<off.length->ys.getD i 0=n8 s (λk=>ys.getD k 0) ((chO off pl).getD i none)
abbrev Mnd(s:Rat)(off:List (List bQ))(ys:List Rat)(pl bo:List (Option Nat)):Prop:=Mf s off (tops (cI 1 ys) ys) (cI 1 ys) pl bo
structure MnB(s:Rat)(off:List (List bQ))(N:Nat):Prop where
 s0:0<=s
 s1:s<1
 few:off.length<=100
 sh:∀ds∈off,∀o∈ds,ShB s off.length o.ways
 wo:∀pl,PlT off pl->WoB s (chO off pl) N
 me:∀ys:List Rat,ys.length=off.length->(∀r∈ys,FnB ((2*off.length*N)^off.length) r)->MeB s off ys
 pls:(sW off).length<sizeLine
theorem yR{s:Rat}{off:List (List bQ)}(hw:∀ds∈off,∀o∈ds,ShB s off.length o.ways){ql:List (Option Nat)}(hq:PlT off ql)(i:Nat)(hi:i<off.length):ShB s off.length (je ((chO off ql).getD i none)):=by
 have ei:=aj (show i<ql.length by rw[hq.len];exact hi);rw[FP ei];cases ql[i]'(by rw[hq.len];exact hi)with
 |none=>exact⟨λ_ z=>(nomatch z),λ_ z=>(nomatch z),by show(0:Rat)<=1;decide⟩
 |some d =>
  show ShB s off.length (je ((off.getD i [])[d]?));rw[au,aj hi];show ShB s off.length (je (off[i][d]?));cases ed:off[i][d]? with
  |none=>exact⟨λ_ z=>(nomatch z),λ_ z=>(nomatch z),by show(0:Rat)<=1;decide⟩
  |some o=>exact hw _ (aU hi) o (aC ed)
theorem R9{s:Rat}{off:List (List bQ)}{pl:List (Option Nat)}{ys zs:List Rat}(s0:0<=s)(s1:s<1)(hw:∀ds∈off,∀o∈ds,ShB s off.length o.ways)(hp:PlT off pl)(hy:nZ s off pl ys)(hz:nZ s off pl zs)(i:Nat)(hi:i<off.length):ys.getD i 0=zs.getD i 0 :=
 Rat.le_antisymm (Bg (y:=λk=>ys.getD k 0) (z:=λk=>zs.getD k 0) s0 s1 (yR hw hp) (λi hi=>by rw[<- hy.2 i hi];exact VQ) hz.2 i hi) (Bg (y:=λk=>zs.getD k 0) (z:=λk=>ys.getD k 0) s0 s1 (yR hw hp) (λi hi=>by rw[<- hz.2 i hi];exact VQ) hy.2 i hi)
noncomputable abbrev PWs:=List (Option Nat)×List Rat
abbrev pwT(p:PWs):T:=.tup [.lst (p.1.map dT),.lst (p.2.map frR)]
structure Told(s:Rat)(off:List (List bQ))(M:Nat)(pl:List (Option Nat))(ps:List PWs):Prop where
 hd:∀p,ps[0]?=some p->p.1=pl
 ok:∀p∈ps,PlT off p.1/\nZ s off p.1 p.2/\∀r∈p.2,FnB M r
 up:∀(k:Nat)p q,ps[k]?=some p->ps[k+1]?=some q->Mnd s off p.2 p.1 q.1/\q.1≠p.1
def More(m:Nat)(ys zs:List Rat):Prop:=(∀i,i<m->ys.getD i 0<=zs.getD i 0)/\∃i,i<m/\ys.getD i 0<zs.getD i 0
theorem More.trans{m:Nat}{xs ys zs:List Rat}(h:More m xs ys)(k:More m ys zs):More m xs zs :=
 ⟨λi hi=>U2 (h.1 i hi) (k.1 i hi),let⟨i,hi,l⟩:=h.2;⟨i,hi,by have:=k.1 i hi;grind⟩⟩
theorem ag3{off:List (List bQ)}{pl bo:List (Option Nat)}(hp:PlT off pl)(db:PlT off bo)(n:bo≠pl):∃i,i<off.length/\bo[i]?≠pl[i]?:=by
 refine Classical.byContradiction λc=>n (Q3 λi=>?_);by_cases hi:i<off.length
 .exact Decidable.byContradiction λz=>c ⟨i,hi,z⟩
 .rw[aM (by rw[db.len];exact VW hi),aM (by rw[hp.len];exact VW hi)]
theorem Told.step{s:Rat}{off:List (List bQ)}{M N:Nat}{pl:List (Option Nat)}{ps:List PWs}(h:Told s off M pl ps)(B:MnB s off N){k:Nat}{p q:PWs}(e1:ps[k]?=some p)(e2:ps[k+1]?=some q):More off.length p.2 q.2:=by
 obtain⟨u,n⟩:=h.up k p q e1 e2;obtain⟨a1,a2,_⟩:=h.ok p (aC e1);obtain⟨b1,b2,_⟩:=h.ok q (aC e2);obtain⟨c1,c2⟩:=rise (z:=λk=>q.2.getD k 0) B.s0 B.s1 B.sh a1 u a2.2 b2.2;obtain⟨i,hi,ne⟩:=ag3 a1 b1 n;exact⟨c1,i,hi,c2 i hi ne⟩
theorem Told.more{s:Rat}{off:List (List bQ)}{M N:Nat}{pl:List (Option Nat)}{ps:List PWs}(h:Told s off M pl ps)(B:MnB s off N){j:Nat}{p:PWs}(e1:ps[j]?=some p):∀(k:Nat){q:PWs},j<k->ps[k]?=some q->More off.length p.2 q.2
 |0,_,l,_=>absurd l (WV _)
 |k+1,q,l,e2=>by
  have lk:k<ps.length:=by have:=(ao.mp e2).1;exact Th (X1 _) this
  have ek:=aj lk;have st:=h.step B ek e2;by_cases c:j=k
  .subst c;rw[e1]at ek;cases ek;exact st
  .exact(h.more B e1 k (XX (UZ l) c) ek).trans st
theorem Told.ne{s:Rat}{off:List (List bQ)}{M N:Nat}{pl:List (Option Nat)}{ps:List PWs}(h:Told s off M pl ps)(B:MnB s off N){j k:Nat}{p q:PWs}(l:j<k)(e1:ps[j]?=some p)(e2:ps[k]?=some q):p.1≠q.1:=λz=>by
 obtain⟨_,i,hi,lt⟩:=h.more B e1 k l e2;obtain⟨a1,a2,_⟩:=h.ok p (aC e1);obtain⟨b1,b2,_⟩:=h.ok q (aC e2);rw[<- z]at b2;rw[R9 B.s0 B.s1 B.sh a1 a2 b2 i hi]at lt;exact absurd lt (by grind)
theorem Told.nodup{s:Rat}{off:List (List bQ)}{M N:Nat}{pl:List (Option Nat)}{ps:List PWs}(h:Told s off M pl ps)(B:MnB s off N):(ps.map (·.1)).Nodup:=by
 refine List.pairwise_iff_getElem.mpr λi j hi hj l=>?_;rw[ak]at hi hj;rw[UU,UU];exact h.ne B l (aj hi) (aj hj)
theorem Told.len{s:Rat}{off:List (List bQ)}{M N:Nat}{pl:List (Option Nat)}{ps:List PWs}(h:Told s off M pl ps)(B:MnB s off N):ps.length<=(sW off).length:=by
 have:=Lw (h.nodup B) (l':=sW off) λa ha=>by
  obtain⟨p,hp,rfl⟩:=YV.mp ha;exact WD (h.ok p hp).1
 rwa[ak]at this
theorem Told.snoc{s:Rat}{off:List (List bQ)}{M:Nat}{pl:List (Option Nat)}{ps:List PWs}{x:PWs}(h:Told s off M pl ps)(h0:ps=[]->x.1=pl)(hx:PlT off x.1/\nZ s off x.1 x.2/\∀r∈x.2,FnB M r)(hl:∀p,ps.getLast?=some p->Mnd s off p.2 p.1 x.1/\x.1≠p.1):Told s off M pl (ps++[x]):=by
 refine⟨λp e=>?_,λp hp=>?_,λk p q e1 e2=>?_⟩
 .cases ps with
  |nil=>cases e;exact h0 rfl
  |cons y ps=>exact h.hd p e
 .rcases Y1.mp hp with z|z
  .exact h.ok p z
  .cases YR.mp z;exact hx
 .have lk:k+1<(ps++[x]).length:=(ao.mp e2).1;rw[aA,List.length_singleton]at lk;rw[aF (Nat.lt_of_succ_lt_succ lk)]at e1;by_cases c:k+1<ps.length
  .rw[aF c]at e2;exact h.up k p q e1 e2
  .rw[aD (VW c),show k+1-ps.length=0 by omega]at e2;cases e2;exact hl p (by rw[List.getLast?_eq_getElem?,show ps.length-1=k by omega];exact e1)
theorem ani{t:T}{ts:List T}{q:OT->Prop}(h:q (.fz t)):gIx (.tup (t::ts)) (.int 0) q:=h
theorem agQ{c d:RT}{o:List OT}{q:Bool->Prop}(b:Bool)(h:∀q:Bool->Prop,q b->rOr c d o q)(hq:q b):rOr c d o q:=h q hq
theorem Hr{α:Type}{h:α->T}{ps:List α}{p:α}(e:ps.getLast?=some p):ixT (ps.map h) (-1)=some (h p):=by
 show nth (ps.map h).reverse 0=_;rw[sJ,<- List.map_reverse,aq,<- List.head?_eq_getElem?,List.head?_reverse,e]
 rfl
structure ZF(s:Rat)(off:List (List bQ))(M:Nat)(pl:List (Option Nat))(ps:List PWs):Prop where
 told:Told s off M pl ps
 ne:ps≠[]
 last:∀p,ps.getLast?=some p->Mnd s off p.2 p.1 p.1
def vN(D:Adr):ST:=λts R=>∃(s:Rat)(ns:Φ)(off:List (List bQ))(pl:List (Option Nat))(N:Nat),ts=[hlT D s ns off,.lst (pl.map dT)]/\Om ns off/\PlT off pl/\MnB s off N/\∀ps:List PWs,ZF s off ((2*off.length*N)^off.length) pl ps->R (.l1 (ps.map pwT))
theorem Sy(F:Fun K nP nP Am f fd)(T:Txt K mg D)(eF:OkT P w K mg base 4 gK gM (mR D))(jP:OkT P w K mg base 9 lE lB (uM D))(Im:OkT P w K mg base 5 yO yQ (Li D)):cj P w K mg base CX0 10 f fd nF (spT K (vN D)):=by
 refine F.okT qW (λts R hP=>by obtain⟨_,_,_,_,_,e,_⟩:=hP;exact e ▸ rfl) λaf A outer s H E hr=>?_;refine⟨_,(bF (jF (bI eF hr.md (by rfl) (bx (qv 0) (bx (qv 1) bC))))
  (bF (iw 2 qW.nd (Or.inl rfl) (eE bC))
  (bF (bO 3 qW.nd (Or.inl rfl) (pQ Cu (by rfl) T.uo boot_list (bx (qv 1) bC)))
  (bF (Jv VZ (QW.qt (iZ (bY (go_eq hr.units) (L_ 2 (bR cN (by rfl) T.dF WH (bx (qv 2) bC))) bA) (gR (bY (nQ hr.units) (qv 3) (bJ (tY 2 (Aa bA)) bA)))))
  (bF (nY 2 (dg (bx (qv 3) (bx (bI jP hr.md (by rfl) (bx (qv 0) (bx (qv 3) bC))) bC))))
  (bG (bO 3 qW.nd (Or.inl rfl) (bI Im hr.md (by rfl) (bx (qv 0) (bx (qv 3) (bx (bJ (tY 2 (Aa bA)) bA) bC))))))))
  (bG (jy 2)))))),?_⟩
 rintro _ R ⟨s,ns,off,pl,N,rfl,h,hp,B,ok⟩;generalize eM:(2*off.length*N)^off.length=M at ok;refine⟨_,_,_,_,rfl,h,hp,?_⟩;refine⟨λm o=>∃(ps:List PWs)(cl:List (Option Nat)),o=[.fz (hlT D s ns off),.fz (.lst (pl.map dT)),.l1 (ps.map pwT),.fz (.lst (cl.map dT))]/\Told s off M pl ps/\PlT off cl/\(ps=[]->cl=pl)/\(∀p,ps.getLast?=some p->Mnd s off p.2 p.1 cl)/\m+ps.length=(sW off).length,⟨(sW off).length,[],pl,rfl,⟨λ_ z=>(nomatch z),λ_ z=>(nomatch z),λ_ _ _ z=>(nomatch z)⟩,hp,λ_=>rfl,λ_ z=>(nomatch z),rfl⟩,?_⟩;rintro m _ ⟨ps,cl,rfl,t,hc,c0,cu,em⟩;refine agQ (decide (ps.getLast?.map (·.1)≠some cl)) (λq hq=>?_) (swD (λhn=>?_) λhn=>?_)
 .cases e:ps.getLast? with
  |none =>
   have e0:=List.getLast?_eq_none_iff.mp e;subst e0;exact⟨trivial,hq⟩
  |some p =>
   have n0:ps.length≠0:=λz=>by rw[List.length_eq_zero_iff.mp z]at e;cases e
   rw[e]at hq;refine⟨trivial,swF (Zp (by rw[ak];lia)) ⟨_,Hr e,?_⟩⟩;dsimp only[rC,frz];refine ani (t:=.lst (p.1.map dT)) ?_;refine Z_.gEq ?_;have e2:xr true (decide (cl=p.1))=decide ((some p).map (·.1)≠some cl):=by
    by_cases c:cl=p.1
    .rw[Zs c,c];simp
     rfl
    .rw[Zp c];have:¬(p.1=cl):=λz=>c z.symm;simp[this]
     rfl
   rw[e2];exact hq
 .refine⟨λo'=>∃(ys:List Rat)(eP:List (Option Nat)),o'=[.fz (hlT D s ns off),.fz (.lst (pl.map dT)),.l1 ((ps++[(cl,ys)]).map pwT),.fz (.lst (eP.map dT))]/\nZ s off cl ys/\(∀r∈ys,FnB M r)/\Mnd s off ys cl eP,?_,?_⟩
  .rintro _ ⟨ys,eP,rfl,h1,h2,h3⟩;have t':Told s off M pl (ps++[(cl,ys)]):=t.snoc c0 ⟨hc,h1,h2⟩ λp e=>⟨cu p e,λz=>hn (by rw[e];exact ZH some z.symm)⟩;have l:=t'.len B;rw[aA,List.length_singleton]at l;refine⟨(sW off).length-(ps.length+1),by omega,ps++[(cl,ys)],eP,rfl,t',LK hc h3,λz=>absurd z (by simp),λp e=>?_,by rw[aA,List.length_singleton];exact Nat.sub_add_cancel l⟩;rw[List.getLast?_concat]at e;cases e;exact h3
  .have sl:(ps.map pwT).length<sizeLine:=by
    rw[ak];have:=t.len B;have:=B.pls;lia
   refine⟨s,ns,off,cl,N,rfl,h,hc,B.few,B.wo cl hc,λy hw hb=>⟨sl,?_⟩⟩;have ym:((List.range off.length).map y).map frR=(List.range off.length).map λi=>frR (y i):=by rw[WP];rfl
   have yl:((List.range off.length).map y).length=off.length:=by rw[ak,WJ]
   have yg:∀k,k<off.length->((List.range off.length).map y).getD k 0=y k:=λk hk=>by rw[au,aq,VT hk];rfl
   have fb:∀r∈(List.range off.length).map y,FnB ((2*off.length*N)^off.length) r:=λr hr=>by
    obtain⟨i,hi,rfl⟩:=YV.mp hr;exact hb i (List.mem_range.mp hi)
   have wy:nZ s off cl ((List.range off.length).map y):=⟨yl,λi hi=>by
    have sp:=yR B.sh hc;have eP:=Fb hc;rw[yg i hi,(D_ (by rw[eP];exact sp)).mp hw i (by rw[eP];exact hi)];unfold n8;rw[JQ (x:=λk=>((List.range off.length).map y).getD k 0) (z:=y) λw hm=>yg w.1 ((sp i hi).lt w hm)]⟩
   rw[<- ym];have el:(ps++[(cl,(List.range off.length).map y)]).getLast?=some (cl,(List.range off.length).map y):=by simp
   have il:=Hr (h:=pwT) el;rw[bf]at il;refine⟨_,il,s,ns,off,cl,(List.range off.length).map y,rfl,h,hc,B.me _ yl fb,λeP hm=>⟨_,eP,?_,wy,eM ▸ fb,hm⟩⟩;rw[bf]
   rfl
 .have hn:ps.getLast?.map (·.1)=some cl:=Decidable.not_not.mp hn;refine ok ps ⟨t,(λz=>by rw[z]at hn;cases hn),λp e=>?_⟩;rw[e]at hn;cases hn;exact cu p e
theorem fV{i:Int}(h:i.natAbs<18446744073709551616):Bd i:=aR h (aL (by decide:18446744073709551616<=2^64) (XT (by decide) (by decide)))
noncomputable abbrev scT(ns:List Int):T:=.scr (ns.map T.int)
def Cz:ST:=λts q=>∃(ns:List Int)(k:Nat),ts=[scT ns,.int (k:Nat)]/\ns.length<=100/\q (.fz (.int (ns.getD k 0)))
theorem zc{α β:Type}(h:α->β)(l:List α)(lo hi:Option Int):fX (l.map h) lo hi=(fX l lo hi).map h:=by unfold fX;rw[ak,List.map_take,List.map_drop]
theorem adT{α:Type}(l:List α)(k:Nat):fX l (some (k:Int)) (some ((k:Int)+1))=(l.drop k).take 1:=by
 unfold fX HT.sIx;show List.take ((if(k:Int)+1<0 then _ else min ((k:Int)+1).toNat l.length)-(if(k:Int)<0 then _ else min (k:Int).toNat l.length)) (List.drop (if(k:Int)<0 then _ else min (k:Int).toNat l.length) l)=_;rw[ZZ (by lia),ZZ (Int.not_lt_of_ge (Wp _))];by_cases h:k<l.length
 .rw[show min ((k:Int)+1).toNat l.length=k+1 by lia,show min (k:Int).toNat l.length=k by lia,show k+1-k=1 by exact T1 _ _]
 .rw[show min (k:Int).toNat l.length=l.length by lia,List.drop_length,T2 (VW h),List.take_nil,List.take_nil]
theorem ac0(F:Fun K uW uW Va f fd):cj P w K mg base CX0 1 f fd uX (spT K Cz):=by
 refine F.okT ab4 (λts R hP=>by obtain⟨_,_,e,_⟩:=hP;exact e ▸ rfl) λaf A outer s H E hr=>?_;refine⟨_,(bG (bM (bJ (bL cR (lC (qv 0) (gn (qv 1)) (gn (bL cR (qv 1) bA))) (eE (bx bA bC))) bA))),?_⟩;rintro _ R ⟨ns,k,rfl,hl,q⟩;have e:fX (ns.map L2.T.int) (some (k:Int)) (some ((k:Int)+1))=((ns.drop k).take 1).map L2.T.int:=by rw[zc,adT]
 refine⟨?_,.int (ns.getD k 0),?_,q⟩
 .show(fX (ns.map L2.T.int) (some (k:Int)) (some ((k:Int)+1))).length+1<=sizeLine;rw[e,ak,aY];exact aL (show _<=2 by lia) (by decide)
 .show ixT (fX (ns.map L2.T.int) (some (k:Int)) (some ((k:Int)+1))++[L2.T.int 0]) 0=_;rw[e];by_cases h:k<ns.length
  .rw[Q1 h,List.take_succ_cons,au,aj h]
   rfl
  .rw[T2 (VW h),au,aM (VW h)]
   rfl
noncomputable def strN(c:Int):Nat->Int×Int
 |0=>((c%1999999973+31)*765432101%1999999973,if c<0\/10^18<=c then(c.natAbs:Int)else 0)
 |k+1=>(((strN c k).1*((strN c k).1%65521+40487)+7*(k:Int)+5)%1999999973,(strN c k).2.fdiv 1000000)
def strm(c:Int)(k:Nat):Int:=if 0<(strN c k).2 then(strN c k).2%1000000 else(strN c (k+1)).1
theorem Wm(c:Int):∀k,0<=(strN c k).1/\(strN c k).1<1999999973
 |0=>⟨Z3 _ (by decide),YY _ (by decide)⟩
 |_+1=>⟨Z3 _ (by decide),YY _ (by decide)⟩
theorem iV(c:Int)(k:Nat):0<=strm c k/\strm c k<2000000000:=by
 unfold strm;have:=Wm c (k+1);split<;>lia
abbrev jL(c:Int)(n:Nat):List Int:=(List.range n).map (strm c)
def gJ:ST:=λts q=>∃(c:Int)(n:Nat),ts=[.int c,.int (n:Nat)]/\n<=1000/\q (.l1 ((jL c n).map T.int))
theorem Yv(F:Fun K fH fH JN f fd)(T:Txt K mg D):cj P w K mg base CX0 1 f fd fJ (spT K gJ):=by
 refine F.okT jN (λts R hP=>by obtain⟨_,_,e,_⟩:=hP;exact e ▸ rfl) λaf A outer s H E hr=>?_;refine⟨_,(bF (iw 2 jN.nd (Or.inl rfl) (eE bC))
  (bF (bO 3 jN.nd (Or.inl rfl) (bL cC (bL cG (bL cR (bL cC (qv 0) bA) bA) bA) bA))
  (bF (bO 4 jN.nd (Or.inl rfl) bA)
  (bF (cB (QW.qt (iZ (bY vK (qv 0) bA) (gR (bY aeh (qv 0) (bL Vv bA bA)))))
  (bG (bO 4 jN.nd (Or.inl rfl) (bR HB (by rfl) T.RQ boot_abs (bx (qv 0) bC))))
  bT)
  (bF (dJ VZ rfl (c7 (by rfl) T.dZ (bx (qv 1) bC)) (b_ (n:=99) 5 jN.nd (Or.inl rfl))
  (bF (bO 3 jN.nd (Or.inl rfl) (bL cC (bL cR (bL cR (bL cG (qv 3) (bL cR (bL cC (qv 3) bA) bA)) (bL cG bA (qv 5))) bA) bA))
  (bF (nY 2 (bJ (eE (bx (qv 3) (bx (bL cC (qv 4) bA) bC))) (pQ aeF (by rfl) T.Xi boot_int (bx (nW Jc (qv 4) bA) bC))))
  (bG (bO 4 jN.nd (Or.inl rfl) (bL lX (qv 4) bA))))))
  (bG (jy 2))))))),?_⟩
 rintro _ R ⟨c,n,rfl,hn,q⟩;refine sq4 (λo=>o=[.fz (.int c),.fz (.int (n:Nat)),.l1 [],.fz (.int (strN c 0).1),.fz (.int (strN c 0).2),.und]) ?_ λY go=>?_
 .rintro _ rfl;refine⟨⟨by lia,by lia⟩,?_⟩;refine ju (λk o=>∃x,o=[.fz (.int c),.fz (.int (n:Nat)),.l1 ((jL c k).map L2.T.int),.fz (.int (strN c k).1),.fz (.int (strN c k).2),x]) ⟨_,rfl⟩ ?_ ?_
  .rintro k _ hk ⟨x,rfl⟩;have b:=Wm c k;refine⟨by decide,⟨fV (by lia),fV (by lia)⟩,⟨fV (by decide),fV (by lia)⟩,by decide,by decide,.int (strm c k),?_,?_,⟨by decide,fV (by decide)⟩,.fz (.int k),?_⟩
   .by_cases h:0<(strN c k).2
    .rw[Zs h];unfold strm;rw[ZY h]
     rfl
    .rw[Zp h];unfold strm;rw[ZZ h]
     rfl
   .rw[ak,ak,WJ];exact aR (show k<1001 by lia) (by decide)
   .rw[show jL c (k+1)=jL c k++[strm c k]by simp[jL,List.range_succ],bf]
    rfl
  .rintro _ ⟨x,rfl⟩;exact q
 .refine⟨by decide,⟨fV (by lia),fV (by decide)⟩,by decide,?_⟩;refine swD (λh=>go _ ?_) λh=>⟨⟨by decide,by decide,by decide⟩,swD (λh'=>go _ ?_) λh'=>go _ ?_⟩
  .show _=[_,_,_,_,OT.fz (L2.T.int (if c<0\/10^18<=c then(c.natAbs:Int)else 0)),_];rw[ZY (.inl h)]
   rfl
  .show _=[_,_,_,_,OT.fz (L2.T.int (if c<0\/10^18<=c then(c.natAbs:Int)else 0)),_];rw[ZY (.inr h')]
   rfl
  .show _=[_,_,_,_,OT.fz (L2.T.int (if c<0\/10^18<=c then(c.natAbs:Int)else 0)),_];rw[ZZ (λz=>z.elim h h')]
   rfl
def U3:ST:=λts q=>∃a b:Int,ts=[.int a,.int b]/\q (.fz (.int (Int.gcd a b)))
theorem agx(F:Fun K JX JX ZR f fd)(T:Txt K mg D):cj P w K mg base CX0 1 f fd Je (spT K U3):=by
 refine F.okT Qw (λts R hP=>by obtain⟨_,_,e,_⟩:=hP;exact e ▸ rfl) λaf A outer s H E hr=>?_;refine⟨_,(bF (Ul (bR Yo (by rfl) T.aax boot_sorted (bx (eE (bx (bR HB (by rfl) T.RQ boot_abs (bx (qv 0) bC)) (bx (bR HB (by rfl) T.RQ boot_abs (bx (qv 1) bC)) bC))) bC)) (aeC (n:=2) rfl (bU (b_ (n:=99) 2 Qw.nd (Or.inl rfl)) (bU (b_ (n:=99) 3 Qw.nd (Or.inl rfl)) dO))))
  (bF (Jv VZ (bY Jc (qv 2) bA)
  (bG (af8 2 3 rfl Qw.nd (by decide) (bx (bL cC (qv 3) (qv 2)) (bx (qv 2) bC)))))
  (bG (bM (qv 3))))),?_⟩
 rintro _ R ⟨a,b,rfl,q⟩;refine⟨[(a.natAbs:Int),(b.natAbs:Int)],rfl,by simp,λms pm so=>?_⟩;obtain⟨l,h,rfl,hg⟩ : ∃l h:Nat,ms=[(l:Int),(h:Int)]/\Nat.gcd l h=Int.gcd a b:=by
  have ln:=pm.length_eq
  match ms,ln with
  |[x,y],_ =>
   have hx:x=(a.natAbs:Int)\/x=(b.natAbs:Int):=by simpa using pm.subset (aO ..)
   rcases hx with rfl|rfl
   .have:=(List.perm_cons _).mp pm;have:=List.perm_singleton.mp this;cases this;exact⟨_,_,rfl,rfl⟩
   .have:=(List.perm_cons _).mp (pm.trans (List.Perm.swap _ _ _));have:=List.perm_singleton.mp this;cases this;exact⟨_,_,rfl,Nat.gcd_comm _ _⟩
 refine⟨rfl,λm o=>∃(l h:Nat),o=[.fz (.int a),.fz (.int b),.fz (.int l),.fz (.int h)]/\Nat.gcd l h=Int.gcd a b/\m=l,⟨_,_,_,rfl,hg,rfl⟩,?_⟩;rintro m _ ⟨l,h,rfl,hg,rfl⟩;refine swD (λhl=>?_) λhl=>?_
 .refine⟨λo=>o=[.fz (.int a),.fz (.int b),.fz (.int ((h%m:Nat):Int)),.fz (.int m)],?_,?_⟩
  .rintro _ rfl;exact⟨h%m,Nat.mod_lt _ (by lia),h%m,m,rfl,(Nat.gcd_rec m h).symm.trans hg,rfl⟩
  .exact⟨hl,by rw[Int.natCast_emod];rfl⟩
 .have:m=0:=by lia
  subst this;rw[Nat.gcd_zero_left]at hg;rw[<- hg]at q;exact q
def tD:ST:=λts q=>∃a b:Int,ts=[.int a,.int b]/\0<b/\Bd b/\q (.fz (frR (Rat.divInt a b)))
theorem Xy(F:Fun K mC mC Jh f fd)(La:OkT P w K mg base 1 JX Je U3):cj P w K mg base CX0 2 f fd lV (spT K tD):=by
 refine F.okT Lb (λts R hP=>by obtain⟨_,_,e,_⟩:=hP;exact e ▸ rfl) λaf A outer s H E hr=>?_;refine⟨_,(bF (bO 2 Lb.nd (Or.inl rfl) (bI La hr.md (by rfl) (bx (qv 0) (bx (qv 1) bC))))
  (bG (bM (dg (bx (bL lX (qv 0) (qv 2)) (bx (bL lX (qv 1) (qv 2)) bC)))))),?_⟩
 rintro _ R ⟨a,b,rfl,hb,hd,q⟩;have nb:b≠0:=by exact WS hb
 have g0:=mX (a:=a) nb;have g1:=Um (a:=a) nb hd;refine⟨_,_,rfl,⟨by exact WS g0,g1⟩,⟨by exact WS g0,g1⟩,?_⟩;have l:=xg (t:=a) nb (c:=(Int.gcd a b:Nat)) (WS g0) (by lia) (XZ g0 hb);rw[<- iK l nb]at q;exact q
def Dk:ST:=λts q=>∃r:Rat,ts=[frR r]/\q (.fz (.bl true))
theorem Qg(F:Fun K pA pA yM f fd)(T:Txt K mg D)(La:OkT P w K mg base 1 JX Je U3):cj P w K mg base CX0 2 f fd pP (spT K Dk):=by
 refine F.okT Df (λts R hP=>by obtain⟨_,e,_⟩:=hP;exact e ▸ rfl) λaf A outer s H E hr=>?_;refine⟨_,(bF (cB (QW.qt (iZ (dB (cV (j6 .tuple (qv 0) (by rfl) T.cT (by rfl) T.O8 boot_tuple))) (gR (bY (nQ hr.units) (bR cN (by rfl) T.dF WH (bx (qv 0) bC)) bA))))
  (bG (bM j9))
  bT)
  (bF (dJ VZ rfl (afI (qv 0)) (b_ (n:=99) 1 Df.nd (Or.inl rfl))
  (bG (cB (QW.qt (iZ (dB (cV (j6 .int (qv 1) (by rfl) T.cT (by rfl) T.Xi boot_int))) (gR (cV (j6 .bool (qv 1) (by rfl) T.cT (by rfl) T.V1 boot_bool)))))
  (bG (bM j9))
  bT)))
  (bG (bM (yI (nW Jc (bJ (qv 0) bA) bA) (Fe (nW (go_eq hr.units) (bI La hr.md (by rfl) (bx (bJ (qv 0) bA) (bx (bJ (qv 0) bA) bC))) bA))))))),?_⟩
 rintro _ R ⟨r,rfl,q⟩;have:=r.den_pos;refine⟨λo=>∃x,o=[.fz (frR r),x],?_,⟨_,rfl⟩⟩;rintro _ ⟨x,rfl⟩;refine⟨λo=>∃x,o=[.fz (frR r),x],?_,⟨_,rfl⟩⟩;rintro _ ⟨x,rfl⟩;refine swT (Zs (by lia)) ⟨_,_,rfl,?_⟩;rw[show Int.gcd r.num r.den=1 from r.reduced];exact q
def zK:ST:=λts q=>∃(rs:List Rat)(m:Nat),ts=[.lst (rs.map frR),.int (m:Nat)]/\rs.length=m/\m<=1000/\q (.fz (.bl true))
theorem K6(F:Fun K m9 m9 pK f fd)(T:Txt K mg D)(wO:OkT P w K mg base 2 pA pP Dk):cj P w K mg base CX0 3 f fd nq (spT K zK):=by
 refine F.okT Kz (λts R hP=>by obtain⟨_,_,e,_⟩:=hP;exact e ▸ rfl) λaf A outer s H E hr=>?_;refine⟨_,(bF (cB (QW.qt (iZ (dB (cV (j6 .list (qv 0) (by rfl) T.cT (by rfl) T.uo boot_list))) (gR (bY (nQ hr.units) (bR cN (by rfl) T.dF WH (bx (qv 0) bC)) (qv 1)))))
  (bG (bM j9))
  bT)
  (bG (bM (bR (Uu rfl) (by rfl) T.aas boot_all (bx (dH (bH pK) uG uG ["_law_one"] (cH (qv 0)) (eU (i:=0)) cF (bI wO hr.md (by rfl) (bx (qv 0) bC))) bC))))),?_⟩
 rintro _ R ⟨rs,m,rfl,hl,hm,q⟩;refine swF (by rw[ak,hl,Zs rfl];rfl) ⟨by rw[ak,hl];exact aL hm (by decide),comp_map frR (λ_=>.bl true) rs (λr _ N M hN=>⟨r,rfl,hN⟩) ⟨rs.map λ_=>true,by rw[WP];rfl,?_⟩⟩;have e:((rs.map λ_=>true).all λb=>b)=true:=by simp
 rw[<- e]at q;exact q
noncomputable def Xx(c:Nat):Bool:=decide (97<=c)&&decide (c<=122)
noncomputable def ltL:List Nat:=(Str.ofString "abcdefghijklmnopqrstuvwxyz").cps.toList
theorem afM:∀i:Fin 26,nth ltL i.val=some (97+i.val):=by decide +kernel
theorem abh{i:Int}(h0:0<=i)(h1:i<26):ixT ltL i=some (97+i.toNat):=by
 obtain⟨k,rfl⟩:=Int.eq_ofNat_of_zero_le h0;exact afM ⟨k,by lia⟩
theorem T9{n:Nat}(h:n<26):Xx (97+n)=true:=by
 unfold Xx;rw[Zs (show 97<=97+n by exact X2 _ _),Zs (show 97+n<=122 by lia)];rfl
theorem pC(x:Str):x.cps.toList.length=x.length:=Array.length_toList
theorem W5(x y:Str):(x++y).cps.toList=x.cps.toList++y.cps.toList:=by
 show(x.cps++y.cps).toList=_;rw[Array.toList_append]
theorem adi(x y:Str):(x++y).length=x.length+y.length:=by
 show(x.cps++y.cps).size=_;rw[Array.size_append];rfl
theorem aaY{x:Str}{n:Nat} : (Gg x none (some (n:Int))).cps.toList=x.cps.toList.take n:=by
 unfold Gg;have hl:x.cps.toList.length=x.length:=Array.length_toList;show((x.cps.toList.drop 0).take (HT.sIx x.length x.length (some (n:Int))-0))=_;rw[HT.uf,List.drop_zero,Nat.sub_zero,<- hl];rw[List.take_eq_take_iff];lia
theorem Tt{x:Str}{n:Nat} : (Gg x (some (n:Int)) none).cps.toList=x.cps.toList.drop n:=by
 unfold Gg;have hl:x.cps.toList.length=x.length:=Array.length_toList;show((x.cps.toList.drop (HT.sIx x.length 0 (some (n:Int)))).take (x.length-HT.sIx x.length 0 (some (n:Int))))=_;rw[HT.uf,<- hl];by_cases h:n<=x.cps.toList.length
 .rw[Nat.min_eq_left h];exact Zzw (by rw[TZ];exact aG _)
 .rw[T2 (by lia:x.cps.toList.length<=n),T2 (by lia),List.take_nil]
theorem WR{α:Type}{ys:List α}{a b:Nat}(ab:a<=b)(h:b<=ys.length):fX ys (some (a:Int)) (some (b:Int))=(ys.drop a).take (b-a):=by
 unfold fX;rw[HT.uf,HT.uf,Nat.min_eq_left h,Nat.min_eq_left (aL ab h)]
theorem aei{x:Str}(h:x.cps.toList.all Xx=true)(lo:1<=x.length)(hi:x.length<=8):Wd x:=by
 unfold Wd Xa;rw[pC,Zs lo,Zs hi];exact h
structure Nms(ns:Φ)(n:Nat):Prop where
 len:ns.length=n
 nd:ns.Nodup
 wd:∀x∈ns,Wd x
theorem W_{R:Nat->Str->Prop}{n:Nat}{ns:Φ}(h:∀(i:Nat)x,ns[i]?=some x->R i x)(l:ns.length=n)(u:∀i j x,i<j->j<n->R i x->R j x->False):ns.Nodup:=by
 unfold List.Nodup;rw[List.pairwise_iff_getElem];intro i j hi hj ij e;exact u i j ns[i] ij (l ▸ hj) (h i _ (aj hi)) (by rw[e];exact h j _ (aj hj))
theorem Ly{g:HG}{c:RT}{e:RE}{o:List OT}{q:List T->Prop}(R:Nat->Str->Prop)(n:Nat)(st:∀k,k<n->∀(N:T->Prop)(M:Prop),(∀x,R k x->N (.str x))->g (.int (k:Nat)) o λo'=>c o' λb=>sw b (e o' λy=>N (frz y)) M)(k:∀ns:Φ,ns.length=n->(∀(i:Nat)x,ns[i]?=some x->R i x)->q (ns.map T.str)):iB g c e o (rng 0 n) q:=by
 have go:∀(m j:Nat),j+m=n->∀(us:Φ),us.length=j->(∀(i:Nat)x,us[i]?=some x->R i x)->∀{q:List T->Prop},(∀ns:Φ,ns.length=n->(∀(i:Nat)x,ns[i]?=some x->R i x)->(∃vs,ns=us++vs/\q (vs.map T.str))\/¬∃vs,ns=us++vs)->iB g c e o ((List.range' j m).map λk:Nat=>.int ((0:Int)+k)) q:=by
  intro m
  induction m with
  |zero =>
   intro j ej us lu hu q hq;rcases hq us (by lia) hu with⟨vs,e,z⟩|z
   .have:vs=[]:=by simpa using e
    rw[this]at z;exact z
   .exact absurd ⟨[],(List.append_nil us).symm⟩ z
  |succ m ih =>
   intro j ej us lu hu q hq;rw[List.range'_succ,List.map_cons];refine Xr ?_;rw[Int.zero_add];refine st j (by lia) (λt=>iB g c e o ((List.range' (j+1) m).map λk:Nat=>.int ((0:Int)+k)) λus=>q (t::us)) (iB g c e o ((List.range' (j+1) m).map λk:Nat=>.int ((0:Int)+k)) q) λx hx=>?_;refine ih (j+1) (by lia) (us++[x]) (by simp[lu]) (λi y ey=>?_) λns ln hn=>?_
   .by_cases hi:i<us.length
    .rw[aF hi]at ey;exact hu i y ey
    .have hl:=(ao.mp ey).1;rw[aA,List.length_singleton]at hl;have:i=us.length:=by lia
     subst this;rw[aD (aG _),Nat.sub_self]at ey;cases ey;exact lu ▸ hx
   .by_cases z:∃vs,ns=us++[x]++vs
    .obtain⟨vs,e⟩:=z;refine .inl ⟨vs,e,?_⟩;rcases hq ns ln hn with⟨ws,e',q'⟩|z
     .rw[e,WZ]at e';have:=List.append_cancel_left e';rw[<- this]at q';exact q'
     .exact absurd ⟨x::vs,by rw[e,WZ];rfl⟩ z
    .exact .inr z
 have:=go n 0 (Nat.zero_add _) [] rfl (λi x z=>by cases z) (q:=q) λns ln hn=>.inl ⟨ns,rfl,k ns ln hn⟩;rw[<- List.range_eq_range']at this;exact this
def nm1(c:Nat)(i:Nat)(x:Str):Prop:=x.cps.toList=List.replicate (i+1) c
def nm2(b:List Nat)(at_:Nat)(x0 st:Int)(i:Nat)(x:Str):Prop:=x.cps.toList=b.take at_++(97+((x0+st*i)%26).toNat)::b.drop at_
theorem abY{b:List Nat}{at_:Nat}{x0 st:Int}{i j:Nat}{x:Str}(hs:st=1\/st=3\/st=5\/st=7\/st=9\/st=11)(ij:i<j)(hj:j<26)(h1:nm2 b at_ x0 st i x)(h2:nm2 b at_ x0 st j x):False:=by
 have e:=h1.symm.trans h2;have e:=List.append_cancel_left e;injection e with e _;rcases hs with rfl|rfl|rfl|rfl|rfl|rfl<;>omega
theorem aga{c i:Nat}{x:Str}(hc:Xx c=true)(hi:i<8)(h:nm1 c i x):Wd x:=by
 have l:=pC x;rw[h,aN]at l;refine aei ?_ (by lia) (by lia);rw[h,List.all_eq_true];intro d hd;rw[(List.mem_replicate.mp hd).2];exact hc
theorem agv{b:List Nat}{at_:Nat}{x0 st:Int}{i:Nat}{x:Str}(hb:b.all Xx=true)(hl:b.length<=7)(h:nm2 b at_ x0 st i x):Wd x:=by
 have l:=pC x;rw[h,aA,List.length_cons,aY,TZ]at l;refine aei ?_ (by lia) (by omega);rw[h,List.all_eq_true];rw[List.all_eq_true]at hb;intro d hd;rcases Y1.mp hd with hd|hd
 .exact hb d (List.mem_of_mem_take hd)
 .rcases YU.mp hd with rfl|hd
  .exact T9 (by lia)
  .exact hb d (List.mem_of_mem_drop hd)
theorem Lz:∀(ys:Φ)(acc:Array Nat),(ys.foldl (λacc p=>acc++(Str.ofString "").cps++p.cps) acc).toList=acc.toList++(ys.map λy=>y.cps.toList).flatten
 |[],acc=>by simp
 |y::ys,acc=>by
  have e0:(Str.ofString "").cps = #[]:=by decide +kernel
  rw[List.foldl_cons,Lz ys,e0,Array.append_empty,Array.toList_append,List.map_cons,List.flatten_cons,WZ]
theorem glue(ys:Φ):(Txt.join (Str.ofString "") ys).cps.toList=(ys.map λy=>y.cps.toList).flatten:=by
 show((ys.drop 1).foldl (λacc p=>acc++(Str.ofString "").cps++p.cps) (ys.headD Str.empty).cps).toList=_;rw[Lz];cases ys with
 |nil=>rfl
 |cons y ys=>rfl
theorem afT{c d:RT}{x y z:RS}{E:DT}{o:List OT}(b:Bool)(h:∀q:Bool->Prop,q b->agd c d o q)(hq:sw b (x { E with nx:=z E } o) (y { E with nx:=z E } o)):jc (akS (agd c d) x y) z E o:=h (λk=>sw k (x { E with nx:=z E } o) (y { E with nx:=z E } o)) hq
def Tz:ST:=λts q=>∃(c:Int)(n:Nat),ts=[.int c,.int (n:Nat)]/\n<=26/\∀ns:Φ,Nms ns n->q (.l1 (ns.map T.str))
theorem dW{c:Int}{n k:Nat}(h:k<n):ixT ((jL c n).map T.int) (k:Nat)=some (.int (strm c k)):=by
 show nth ((jL c n).map T.int) k=_;rw[sJ,aq,aq,VT h];rfl
theorem aap(F:Fun K Dc Dc yV f fd)(T:Txt K mg D)(cL:OkT P w K mg base 1 fH fJ gJ):cj P w K mg base CX0 2 f fd CW (spT K Tz):=by
 refine F.okT tG (λts R hP=>by obtain⟨_,_,e,_⟩:=hP;exact e ▸ rfl) λaf A outer s H E hr=>?_;refine⟨_,(bF (bO 2 tG.nd (Or.inr rfl) uZ)
  (bF (bO 3 tG.nd (Or.inr rfl) (bI cL hr.md (by rfl) (bx (qv 0) (bx bA bC))))
  (bF (cB (QW.qt (Np (bY (go_eq hr.units) (bL cC (bJ (qv 3) bA) bA) bA) (Hi (bY LC (qv 1) bA))))
  (bG (bM (dH (bH yV) vh vh ["_law_k"] (c7 (by rfl) T.dZ (bx (qv 1) bC)) (eU (i:=0)) cF (bL cG (bJ (qv 3) (bL cC (bJ (qv 4) bA) bA)) (bL cR (qv 0) bA)))))
  bT)
  (bF (bO 4 tG.nd (Or.inr rfl) (abP uZ (bx (dH (bH yV) vh vh ["_law_x"] (cH (lC (qv 3) (gn bA) (gn (bL cR bA (bL cC (bJ (qv 3) bA) bA))))) (eU (i:=0)) cF (bJ (qv 3) (bL cC (qv 0) bA))) bC)))
  (bF (bO 5 tG.nd (Or.inr rfl) (bL cC (bJ (qv 3) bA) bA))
  (bF (bO 6 tG.nd (Or.inr rfl) (bJ (eE (bx bA (bx bA (bx bA (bx bA (bx bA (bx bA bC))))))) (bL cC (bJ (qv 3) bA) bA)))
  (bG (bM (dH (bH yV) vh vh ["_law_k"] (c7 (by rfl) T.dZ (bx (qv 1) bC)) (eU (i:=0)) cF (bL cR (bL cR (lC (qv 5) Pj (gn (qv 6))) (bJ (qv 3) (bL cC (bL cR (bJ (qv 4) bA) (bL cG (qv 7) (qv 0))) bA))) (lC (qv 5) (gn (qv 6)) Pj))))))))))),?_⟩
 rintro _ R ⟨c,n,rfl,hn,q⟩;refine⟨c,11,rfl,by decide,?_⟩;have s0:=iV c 0;have s1:=iV c 1;have lL:(Str.ofString "abcdefghijklmnopqrstuvwxyz").length<=sizeLine:=aL (show _<=1000 by decide +kernel) (by decide);have rl:(rng 0 n).length<=sizeLine:=by rw[rng,ak,WJ];exact aL hn (by decide)
 dsimp only;refine afT (decide (strm c 0%3=1)&&decide ((n:Int)<=8)) (λq hq=>?_) ?_
 .refine⟨_,dW (k:=0) (by decide),by decide,?_⟩;refine swD (λh=>?_) λh=>?_
  .rw[Zs h,Bool.true_and]at hq;exact hq
  .rw[Zp h,Bool.false_and]at hq;exact hq
 .refine sw2 (λhb=>?_) λhb=>?_
  .simp only[Q2,decide_eq_true_eq]at hb;refine⟨⟨by lia,by lia⟩,rl,Ly (nm1 (97+(strm c 1%26).toNat)) n (λk hk N M hN=>?_) λns ln eh=>q ns ⟨ln,W_ eh ln λi j x ij hj h1 h2=>?_,λx hx=>?_⟩⟩
   .refine⟨_,dW (k:=1) (by decide),by decide,lL,_,abh (Z3 _ (by decide)) (YY _ (by decide)),_,rfl,by lia,by lia,λz hz=>hN z ?_⟩;rw[show((k:Int)+1).toNat=k+1 by lia]at hz;exact hz
   .have:=ZH List.length (h1.symm.trans h2);rw[aN,aN]at this;lia
   .obtain⟨i,hi⟩:=aV hx;have li:=(ao.mp hi).1;exact aga (T9 (by lia)) (by lia) (eh i x hi)
  .obtain⟨m,em,hm⟩ : ∃m:Nat,strm c 1%8=m/\m<=7:=⟨(strm c 1%8).toNat,by lia,by lia⟩;have ec:fX ((jL c 11).map L2.T.int) (some 2) (some (2+strm c 1%8))=(((jL c 11).drop 2).take m).map L2.T.int:=by
    rw[em,zc];have:=WR (ys:=jL c 11) (a:=2) (b:=2+m) (X2 _ _) (by rw[ak,WJ];lia);rw[show 2+m-2=m by exact T1 _ _]at this;exact ZH (List.map L2.T.int) this
   have ml:(((jL c 11).drop 2).take m).length=m:=by rw[aY,TZ,ak,WJ];lia
   refine⟨_,dW (k:=1) (by decide),by decide,?_⟩;dsimp only[frz];show(fX ((jL c 11).map L2.T.int) (some 2) (some (2+strm c 1%8))).length<=sizeLine/\_;rw[ec];have c26:∀x∈((jL c 11).drop 2).take m,0<=x:=λx hx=>by
    obtain⟨k,_,rfl⟩:=YV.mp (List.mem_of_mem_drop (List.mem_of_mem_take hx));exact(iV c k).1
   generalize((jL c 11).drop 2).take m=us at ml c26 ⊢;have e0:(Str.ofString "").length=0:=by decide +kernel
   refine⟨by rw[ak,ml];exact aL hm (by decide),comp_map L2.T.int (λx=>.str ⟨#[97+(x%26).toNat]⟩) us (λx hx N M hN=>⟨by decide,lL,_,abh (Z3 _ (by decide)) (YY _ (by decide)),hN⟩) ⟨us.map λx=>⟨#[97+(x%26).toNat]⟩,by rw[WP];rfl,?_,?_⟩⟩
   .rw[e0,Nat.mul_zero,Nat.add_zero,WP,show((λx:Str=>x.length) ∘ λx:Int=>(⟨#[97+(x%26).toNat]⟩ : Str))=λ_=>1 from rfl,List.map_const',List.sum_replicate_nat];lia
   have bc:(Txt.join (Str.ofString "") (us.map λx=>(⟨#[97+(x%26).toNat]⟩ : Str))).cps.toList=us.map λx=>97+(x%26).toNat:=by
    rw[glue,WP]
    clear ml c26 ec
    induction us with
    |nil=>rfl
    |cons x us ih=>rw[List.map_cons,List.flatten_cons,ih];rfl
   have bl:(Txt.join (Str.ofString "") (us.map λx=>(⟨#[97+(x%26).toNat]⟩ : Str))).length<=7:=by rw[<- pC,bc,ak];exact aL (WG ml) hm
   have ba:(us.map λx=>97+(x%26).toNat).all Xx=true:=by
    rw[List.all_eq_true];intro d hd;obtain⟨x,hx,rfl⟩:=YV.mp hd;exact T9 (by lia)
   rw[<- bc]at ba;generalize Txt.join (Str.ofString "") (us.map λx=>(⟨#[97+(x%26).toNat]⟩ : Str))=st at bl ba ⊢
   clear bc
   have s9:=iV c 9;have s10:=iV c 10;obtain⟨ap,eap,lI⟩ : ∃ap:Nat,strm c 9%8=ap/\ap<=7:=⟨(strm c 9%8).toNat,by lia,by lia⟩;obtain⟨sv,es,hs⟩ : ∃sv:Int,ixT [L2.T.int 1,L2.T.int 3,L2.T.int 5,L2.T.int 7,L2.T.int 9,L2.T.int 11] (strm c 10%6)=some (.int sv)/\(sv=1\/sv=3\/sv=5\/sv=7\/sv=9\/sv=11):=by
    obtain e|e|e|e|e|e:strm c 10%6=0\/strm c 10%6=1\/strm c 10%6=2\/strm c 10%6=3\/strm c 10%6=4\/strm c 10%6=5:=by lia
    .exact⟨1,by rw[e];rfl,by decide⟩
    .exact⟨3,by rw[e];rfl,by decide⟩
    .exact⟨5,by rw[e];rfl,by decide⟩
    .exact⟨7,by rw[e];rfl,by decide⟩
    .exact⟨9,by rw[e];rfl,by decide⟩
    .exact⟨11,by rw[e];rfl,by decide⟩
   have z7:(16:Nat)<=sizeLine:=by decide
   refine⟨_,dW (k:=9) (by decide),by decide,?_⟩;dsimp only[frz];rw[eap];refine⟨_,dW (k:=10) (by decide),by decide,_,es,⟨by lia,by lia⟩,rl,Ly (nm2 st.cps.toList ap (strm c 0) sv) n (λk hk N M hN=>?_) λns ln eh=>q ns ⟨ln,W_ eh ln λi j x ij hj h1 h2=>abY hs ij (aR hj hn) h1 h2,λx hx=>?_⟩⟩
   .have t1:(Gg st none (some (ap:Int))).length<=7:=by rw[<- pC,aaY,aY,pC];lia
    have t2:(Gg st (some (ap:Int)) none).length<=7:=by rw[<- pC,Tt,TZ,pC];exact aL (Nat.sub_le _ _) bl
    have t3:∀d:Nat,({ cps:=#[d] } : Str).length=1:=λ_=>rfl;refine⟨by exact aL bl (by decide),_,dW (k:=0) (by decide),⟨fV (by lia),fV (by lia)⟩,by decide,lL,_,abh (Z3 _ (by decide)) (YY _ (by decide)),by rw[t3];lia,by exact aL bl (by decide),by rw[adi,t3];lia,hN _ ?_⟩;unfold nm2;rw[W5,W5,aaY,Tt,WZ];rfl
   .obtain⟨i,hi⟩:=aV hx;exact agv ba (by rw[pC];exact bl) (eh i x hi)
theorem aaM{α:Type}(l:List α)(h:α->T){i:Int}(h0:0<=i)(h1:i<l.length):∃a∈l,ixT (l.map h) i=some (h a):=by
 obtain⟨k,rfl⟩:=Int.eq_ofNat_of_zero_le h0;have hk:k<l.length:=by lia
 refine⟨l[k],aU hk,?_⟩;show nth (l.map h) k=_;rw[sJ,aq,aj hk];rfl
theorem div_pos{a b:Int}(hb:0<b):(Rat.divInt a b).den<=b.toNat/\(Rat.divInt a b).num.natAbs<=a.natAbs:=by
 have l:=xg (t:=a) (b:=b) (c:=(Int.gcd a b:Nat)) (WS hb) (by have:=mX (a:=a) (b:=b) (WS hb);exact WS this) (by lia) (XZ (mX (WS hb)) hb);have e:=iK l (WS hb);injection e with e;injection e with e1 e2;injection e2 with e2 _;injection e1 with e1;injection e2 with e2;have h1:=l.lx;have h2:=l.ly;have h3:=l.pos;have e1:a.fdiv ((Int.gcd a b:Nat):Int)=(Rat.divInt a b).num:=e1;have e2:b.fdiv ((Int.gcd a b:Nat):Int)=((Rat.divInt a b).den:Nat):=e2;rw[e1]at h1;rw[e2]at h2 h3;omega
theorem Vz{a b:Int}(ha:0<=a)(h:a<b):0<=Rat.divInt a b/\Rat.divInt a b<1:=by
 have hb:0<b:=by exact Int.lt_of_le_of_lt ha h
 refine⟨Zzx ha (XY hb),?_⟩;have e:Rat.divInt a b=(a:Rat)/(b:Rat):=UP a b;rw[e];have fr:(0:Rat)<(b:Rat):=by exact_mod_cast hb
 rw[Rat.div_lt_iff fr,Rat.one_mul]
 exact_mod_cast h
structure Shr(s:Rat):Prop where
 lo:0<=s
 hi:s<1
 den:s.den<=100
def Ru:ST:=λts q=>∃c:Int,ts=[.int c]/\∀s:Rat,Shr s->q (.fz (frR s))
theorem Y6(F:Fun K BK BK M6 f fd)(T:Txt K mg D)(cL:OkT P w K mg base 1 fH fJ gJ)(fP:OkT P w K mg base 2 mC lV tD):cj P w K mg base CX0 3 f fd Dd (spT K Ru):=by
 refine F.okT Ie (λts R hP=>by obtain⟨_,e,_⟩:=hP;exact e ▸ rfl) λaf A outer s H E hr=>?_;refine⟨_,(bF (bO 1 Ie.nd (Or.inl rfl) (bI cL hr.md (by rfl) (bx (qv 0) (bx bA bC))))
  (bF (bO 2 Ie.nd (Or.inl rfl) (bL cR bA (bL cC (bJ (qv 1) bA) (bJ (eE (bx bA (bx bA (bx bA (bx bA bC))))) (bL cC (bJ (qv 1) bA) bA)))))
  (bG (bM (bI fP hr.md (by rfl) (bx (bL cC (bJ (qv 1) bA) (qv 2)) (bx (qv 2) bC))))))),?_⟩
 rintro _ R ⟨c,rfl,q⟩;have s0:=iV c 0;have s1:=iV c 1;have s2:=iV c 2;refine⟨c,3,rfl,by decide,_,dW (k:=0) (by decide),_,dW (k:=1) (by decide),by decide,?_⟩;obtain⟨d,hd,ed⟩:=aaM [4,6,10,100] L2.T.int (i:=strm c 1%4) (Z3 _ (by decide)) (by show strm c 1%4<4;exact YY _ (by decide));have d0:0<d/\d<=100:=by simp at hd;lia
 refine⟨_,ed,d0.1,?_⟩;have b0:0<1+strm c 0%d/\1+strm c 0%d<=100:=by
  have:=Z3 (strm c 0) (show d≠0 by lia);have:=YY (strm c 0) d0.1;lia
 refine⟨_,dW (k:=2) (by decide),b0.1,_,_,rfl,b0.1,fV (by omega),q _ ?_⟩;generalize 1+strm c 0%d=b at b0 ⊢;have a0:=Z3 (strm c 2) (show b≠0 by lia);have a1:=YY (strm c 2) b0.1;obtain⟨x,y⟩:=Vz a0 a1;exact⟨x,y,by have:=(div_pos (a:=strm c 2%b) b0.1).1;lia⟩
structure Pay(p:Rat):Prop where
 num:p.num.natAbs<=10^30
 den:p.den<=1000
def abb:ST:=λts q=>∃c x y:Int,ts=[.int c,.int x,.int y]/\(0<=x/\x<2000000000)/\(0<=y/\y<2000000000)/\∀p:Rat,Pay p->q (.fz (frR p))
theorem af3(F:Fun K P0 P0 aa7 f fd)(T:Txt K mg D)(fP:OkT P w K mg base 2 mC lV tD):cj P w K mg base CX0 3 f fd Ni (spT K abb):=by
 refine F.okT afh (λts R hP=>by obtain⟨_,_,_,e,_⟩:=hP;exact e ▸ rfl) λaf A outer s H E hr=>?_;refine⟨_,(bF (cB (bY vK (bL cC (qv 1) bA) bA)
  (bG (bM (dg (bx (bL t_ (bL cC (qv 2) bA) bA) (bx bA bC)))))
  bT)
  (bF (cB (bY vK (bL cC (qv 1) bA) bA)
  (bG (bM (bI fP hr.md (by rfl) (bx (bL t_ (bL cC (qv 2) bA) bA) (bx (bL cR bA (bL cC (bL lX (qv 1) bA) bA)) bC)))))
  bT)
  (bF (cB (bY (go_eq hr.units) (bL cC (qv 1) bA) bA)
  (bG (bM (dg (bx (bL t_ (bL cC (qv 0) bA) bA) (bx bA bC)))))
  bT)
  (bG (bM (bI fP hr.md (by rfl) (bx (bL t_ (bL cC (bL cR (bL WX (qv 0) bA) (qv 2)) (bL cR (bL cG bA (bL Vv bA bA)) bA)) (bL Vv bA bA)) (bx (bL cR bA (bL cC (bL lX (qv 1) bA) bA)) bC)))))))),?_⟩
 rintro _ R ⟨c,x,y,rfl,hx,hy,q⟩;have b30:Bd (10^30):=Y3 (aG _) (by decide +kernel);have lo:∀a b:Int,0<b->a.natAbs<=10^30->b<=1000->R (.fz (frR (Rat.divInt a b))):=λa b h0 h1 h2=>by
  obtain⟨x,y⟩:=div_pos (a:=a) h0;exact q _ ⟨aL y h1,by lia⟩
 have one:∀a:Int,a.natAbs<=10^30->R (.fz (.tup [.int a,.int 1])):=λa h=>q (a:Rat) ⟨h,show(1:Nat)<=1000 by decide⟩;have d8:x.fdiv 8=x/8:=Zzv _ (by decide);refine⟨by decide,swD (λh=>⟨by decide,one _ (by lia)⟩) λh=>⟨by decide,swD (λh=>⟨by decide,⟨by decide,fV (by decide)⟩,by decide,?_⟩) λh=>⟨by decide,swD (λh=>⟨by decide,one _ (by lia)⟩) λh=>?_⟩⟩⟩
 .exact⟨_,_,rfl,by lia,fV (by lia),lo _ _ (by lia) (by lia) (by lia)⟩
 .refine⟨.inr (by constructor<;>decide),⟨by decide,by decide,by decide⟩,⟨fV (by decide),b30⟩,by decide,⟨by decide,by decide,by decide⟩,⟨by decide,fV (by decide)⟩,by decide,?_⟩;exact⟨_,_,rfl,by lia,fV (by lia),lo _ _ (by lia) (by
   have e:(10:Int)^Int.toNat 30=10^30:=rfl;rw[e];lia) (by lia)⟩
def st_size:ST:=λts q=>∃c:Int,ts=[.int c]/\∀n:Nat,n<=6->q (.fz (.int (n:Nat)))
theorem abV(F:Fun K Ho Ho Uj f fd)(T:Txt K mg D)(cL:OkT P w K mg base 1 fH fJ gJ):cj P w K mg base CX0 2 f fd G7 (spT K st_size):=by
 refine F.okT WQ (λts R hP=>by obtain⟨_,e,_⟩:=hP;exact e ▸ rfl) λaf A outer s H E hr=>?_;refine⟨_,(bF (bO 1 WQ.nd (Or.inl rfl) (bI cL hr.md (by rfl) (bx (qv 0) (bx bA bC))))
  (bF (cB (bY (go_eq hr.units) (bL cC (bJ (qv 1) bA) bA) bA)
  (bG (bM bA))
  bT)
  (bF (cB (bY (go_eq hr.units) (bL cC (bJ (qv 1) bA) bA) bA)
  (bG (bM (bL cR bA (bL cC (bJ (qv 1) bA) bA))))
  bT)
  (bG (bM (bL cR bA (bL cC (bJ (qv 1) bA) bA))))))),?_⟩
 rintro _ R ⟨c,rfl,q⟩;have s1:=iV c 1;have s1':0<=strm c 1:=s1.1;refine⟨c,2,rfl,by decide,_,dW (k:=0) (by decide),by decide,swD (λh=>q 0 (by decide)) λh=>⟨_,dW (k:=0) (by decide),by decide,swD (λh=>⟨_,dW (k:=1) (by decide),by decide,?_⟩) λh=>⟨_,dW (k:=1) (by decide),by decide,?_⟩⟩⟩
 .have:=q (5+strm c 1%2).toNat (by lia);rw[show(((5+strm c 1%2).toNat:Nat):Int)=5+strm c 1%2 by lia]at this;exact this
 .have:=q (1+strm c 1%4).toNat (by lia);rw[show(((1+strm c 1%4).toNat:Nat):Int)=1+strm c 1%4 by lia]at this;exact this
structure LD where
 sort:Nat
 pay:Rat
 prs:List (Nat×Rat)
abbrev ldT(d:LD):T:=.tup [.int (d.sort:Nat),frR d.pay,.lst (d.prs.map nwT)]
structure LDk(m:Nat)(d:LD):Prop where
 sort:d.sort<4
 pay:Pay d.pay
 few:d.prs.length<=4
 lt:∀p∈d.prs,p.1<m
 nn:∀p∈d.prs,0<=p.2
 one:Bl (d.prs.map (·.2))=1
 dn:∃q:Nat,0<q/\q<=4000/\∀p∈d.prs,p.2.den ∣ q
 s0:d.sort=0->∃a,d.prs=[(a,1)]
 s1:d.sort=1->∃a b x,d.prs=[(a,x),(b,1-x)]
 s2:d.sort=2->∃rs:List Nat,d.prs=rs.map λr=>(r,mkRat 1 rs.length)
theorem acX{α:Type}(l:List α){n:Nat} : fX l none (some (n:Int))=l.take n:=by
 unfold fX;show(l.drop 0).take (HT.sIx l.length l.length (some (n:Int))-0)=_;rw[HT.uf,List.drop_zero,Nat.sub_zero];rw[List.take_eq_take_iff];lia
theorem O7{a b:Int}(hb:0<b):(Rat.divInt a b).den ∣ b.toNat:=by
 have l:=xg (t:=a) (b:=b) (c:=(Int.gcd a b:Nat)) (WS hb) (by have:=mX (a:=a) (b:=b) (WS hb);exact WS this) (by lia) (XZ (mX (WS hb)) hb);have e:=iK l (WS hb);injection e with e;injection e with _ e2;injection e2 with e2 _;injection e2 with e2;have e2:b.fdiv ((Int.gcd a b:Nat):Int)=((Rat.divInt a b).den:Nat):=e2;have d:((Int.gcd a b:Nat):Int) ∣ b:=Qr a b;rw[Int.fdiv_eq_ediv_of_dvd d]at e2;obtain⟨x,hx⟩:=d;have g0:=mX (a:=a) (b:=b) (WS hb);rw[Int.ediv_eq_of_eq_mul_right (WS g0) hx]at e2;exact Int.natCast_dvd_natCast.mp ⟨(Int.gcd a b:Nat),by rw[<- e2,Int.toNat_of_nonneg (XY hb),Int.mul_comm];exact hx⟩
theorem V7{S:Int}(hS:S≠0):∀ws:List Int,Bl (ws.map λw=>Rat.divInt w S)=Rat.divInt ws.sum S
 |[]=>by show(0:Rat)=Rat.divInt 0 S;rw[TK]
 |w::ws=>by
  show Rat.divInt w S+Bl (ws.map λw=>Rat.divInt w S)=Rat.divInt (w+ws.sum) S;rw[V7 hS ws,JS _ _ hS hS];refine(QY (lU hS hS) hS).mpr ?_
  grind
theorem Rx{n:Nat}(h:0<n):∀k:Nat,Bl (List.replicate k (mkRat 1 n))=mkRat k n
 |0=>by show(0:Rat)=mkRat 0 n;rw[Rat.zero_mkRat]
 |k+1=>by
  rw[List.replicate_succ];show mkRat 1 n+Bl (List.replicate k (mkRat 1 n))=_;rw[Rx h k,Rat.mkRat_add_mkRat _ _ (US h) (US h),Rat.mkRat_eq_iff (Nat.mul_ne_zero (US h) (US h)) (US h)]
  push_cast
  grind
theorem ach{n:Nat}(h:0<n):mkRat n n=1:=by
 rw[show(1:Rat)=mkRat 1 1 from rfl,Rat.mkRat_eq_iff (US h) (Nat.succ_ne_zero _)];lia
theorem one_sub{a b:Int}(hb:b≠0):1-Rat.divInt a b=Rat.divInt (b-a) b:=by
 rw[show(1:Rat)=Rat.divInt 1 1 from rfl,Rat.divInt_sub_divInt _ _ (by decide) hb,JU,Int.mul_one]
theorem Tn(x:Rat):1-x=⟨(x.den:Int)-x.num,x.den,x.den_nz,by
  have:=x.reduced;show Nat.Coprime ((x.den:Int)-x.num).natAbs x.den;have h:Int.gcd ((x.den:Int)-x.num) (x.den:Int)=1:=by
   rw[Int.gcd_self_sub_left];exact this
  exact h⟩:=by
 rw[Rat.mk_eq_divInt,<- one_sub (jK x),rd]
theorem YM(x:Rat):frR (1-x)=.tup [.int ((x.den:Int)-x.num),.int x.den]:=by rw[Tn]
theorem Xj(x:Rat):(1-x).den=x.den:=by rw[Tn]
theorem LDk.sure{m a:Nat}{p:Rat}(ha:a<m)(hp:Pay p):LDk m ⟨0,p,[(a,1)]⟩ :=
 ⟨Nat.zero_lt_succ _,hp,UH rfl,by simp[ha],by simp;decide,by simp[Bl];exact Rat.add_zero 1,⟨1,by decide,by decide,by simp⟩,λ_=>⟨_,rfl⟩,(λz=>by cases z),(λz=>by cases z)⟩
theorem LDk.toss{m a b q:Nat}{p x:Rat}(ha:a<m)(hb:b<m)(hp:Pay p)(x0:0<=x)(x1:0<=1-x)(q0:0<q)(q1:q<=4000)(hd:x.den ∣ q):LDk m ⟨1,p,[(a,x),(b,1-x)]⟩ :=
 ⟨UH rfl,hp,UH rfl,by simp[ha,hb],by simp[x0,x1],by simp[Bl];grind,⟨q,q0,q1,by simp[hd,Xj]⟩,(λz=>by cases z),λ_=>⟨_,_,_,rfl⟩,(λz=>by cases z)⟩
theorem afR{n:Nat}(h:0<n):(mkRat 1 n).den=n:=by
 have e:=T_ h;injection e with e;injection e with _ e;injection e with e _;injection e with e;lia
theorem LDk.even{m:Nat}{p:Rat}{rs:List Nat}(h0:0<rs.length)(h4:rs.length<=4)(hr:∀r∈rs,r<m)(hp:Pay p):LDk m ⟨2,p,rs.map λr=>(r,mkRat 1 rs.length)⟩:=by
 have nn:(0:Rat)<=mkRat 1 rs.length:=by rw[<- Rat.divInt_ofNat];exact Zzx (by decide) (Wp _)
 refine⟨UH rfl,hp,by rw[ak];exact h4,λx hx=>?_,λx hx=>?_,?_,⟨rs.length,h0,by exact aL h4 (by decide),λx hx=>?_⟩,(λz=>by cases z),(λz=>by cases z),λ_=>⟨rs,rfl⟩⟩
 .obtain⟨r,h,rfl⟩:=YV.mp hx;exact hr r h
 .obtain⟨r,h,rfl⟩:=YV.mp hx;exact nn
 .rw[WP,show((λx:Nat×Rat=>x.2) ∘ λr=>(r,mkRat 1 rs.length))=λ_=>mkRat 1 rs.length from rfl,List.map_const',Rx h0,ach h0]
 .obtain⟨r,h,rfl⟩:=YV.mp hx;rw[afR h0];exact Nat.dvd_refl _
theorem LDk.mix{m:Nat}{p:Rat}{rs:List Nat}{ws:List Int}(hl:ws.length<=4)(hr:∀r∈rs,r<m)(hw:∀w∈ws,0<=w)(le:ws.length<=rs.length)(s0:0<ws.sum)(s1:ws.sum<=4000)(hp:Pay p):LDk m ⟨3,p,(rs.zip ws).map λx=>(x.1,Rat.divInt x.2 ws.sum)⟩:=by
 have m2:(rs.zip ws).map (λx=>x.2)=ws:=List.map_snd_zip le;refine⟨UH rfl,hp,by rw[ak,VY];lia,λx hx=>?_,λx hx=>?_,?_,⟨ws.sum.toNat,by lia,by lia,λx hx=>?_⟩,(λz=>by cases z),(λz=>by cases z),(λz=>by cases z)⟩
 .obtain⟨r,h,rfl⟩:=YV.mp hx;exact hr _ (UX h).1
 .obtain⟨r,h,rfl⟩:=YV.mp hx;exact Zzx (hw _ (UX h).2) (XY s0)
 .rw[WP,show((λx:Nat×Rat=>x.2) ∘ λx:Nat×Int=>(x.1,Rat.divInt x.2 ws.sum))=(λw=>Rat.divInt w ws.sum) ∘ λx:Nat×Int=>x.2 from rfl,<- WP,m2,V7 (WS s0)];have e:=one_sub (a:=ws.sum) (b:=ws.sum) (WS s0);rw[Int.sub_self,TK]at e
  grind
 .obtain⟨r,h,rfl⟩:=YV.mp hx;exact O7 s0
theorem aaG:∀{ws:List Int},(∀w∈ws,0<=w)->0<=ws.sum
 |[],_=>by decide
 |w::ws,h=>by
  have:=h w (aO ..);have:=aaG (ws:=ws) λx hx=>h x (aJ _ hx);rw[List.sum_cons];lia
theorem Zq{b:Int} : ∀{ws:List Int},(∀w∈ws,w<=b)->ws.sum<=b*ws.length
 |[],_=>by simp
 |w::ws,h=>by
  have:=h w (aO ..);have:=Zq (ws:=ws) λx hx=>h x (aJ _ hx);rw[List.sum_cons,List.length_cons];have:b*((ws.length+1:Nat):Int)=b*ws.length+b:=by grind
  lia
def W3:ST:=λts q=>∃(c:Int)(m:Nat),ts=[.int c,.int (m:Nat)]/\0<m/\m<=1000/\∀(r:Nat)(d:LD),r<m->LDk m d->q (.fz (.tup [.int (r:Nat),ldT d]))
theorem abR(F:Fun K Hx Hx Az f fd)(T:Txt K mg D)(cL:OkT P w K mg base 1 fH fJ gJ)(fP:OkT P w K mg base 2 mC lV tD)(mr:OkT P w K mg base 3 P0 Ni abb):cj P w K mg base CX0 4 f fd G5 (spT K W3):=by
 refine F.okT jx (λts R hP=>by obtain⟨_,_,e,_⟩:=hP;exact e ▸ rfl) λaf A outer s H E hr=>?_;refine⟨_,(bF (bO 2 jx.nd (Or.inr rfl) (bI cL hr.md (by rfl) (bx (qv 0) (bx bA bC))))
  (bF (bO 3 jx.nd (Or.inr rfl) (dH (bH Az) uN uN ["_law_x"] (cH (lC (qv 2) (gn bA) (gn bA))) (eU (i:=0)) cF (bL cC (qv 0) (qv 2))))
  (bF (bO 4 jx.nd (Or.inl rfl) (bL cC (bJ (qv 2) bA) bA))
  (bF (bO 5 jx.nd (Or.inl rfl) (QEB.out (oY (bN (dY (bN (Et (bJ (qv 3) bA)) (bN (dY (bN dG (bN dG cQ))) cQ))) cQ))))
  (bF (cB (bY (go_eq hr.units) (qv 4) bA)
  (bF (bO 6 jx.nd (Or.inl rfl) (bL cR bA (bL cC (bJ (qv 2) bA) bA)))
  (bF (bO 7 jx.nd (Or.inl rfl) (bI fP hr.md (by rfl) (bx (bL cC (bJ (qv 2) bA) (bL cR (qv 6) bA)) (bx (qv 6) bC))))
  (bG (bO 5 jx.nd (Or.inl rfl) (QEB.out (oY (bN (dY (bN (Et (bJ (qv 3) bA)) (bN (Lq 7) cQ))) (bN (dY (bN (Et (bJ (qv 3) bA)) (bN (dY (bN (Nq t_ (Et (bJ (qv 7) bA)) (Et (bJ (qv 7) bA))) (bN (Et (bJ (qv 7) bA)) cQ))) cQ))) cQ))))))))
  bT)
  (bF (cB (bY (go_eq hr.units) (qv 4) bA)
  (bF (bO 3 jx.nd (Or.inr rfl) (lC (qv 3) Pj (gn (bL cR bA (bL cC (bJ (qv 2) bA) bA)))))
  (bG (uE (bH Az) uN uN ["_law_room"] (cH (qv 3)) (eU (i:=0)) cF (dg (bx (qv 0) (bx (dg (bx bA (bx (bR cN (by rfl) T.dF WH (bx (qv 4) bC)) bC))) bC))) (m6 (i:=5) jx.nd rfl (Or.inl rfl)))))
  bT)
  (bF (cB (bY (go_eq hr.units) (qv 4) bA)
  (bF (iw 8 jx.nd (Or.inr rfl) (dH (bH Az) uN uN ["_law_x"] (cH (lC (qv 2) (gn bA) (gn (bL cR bA (bL cC (bJ (qv 2) bA) bA))))) (eU (i:=0)) cF (bL cC (qv 0) (bJ (eE (bx bA (bx bA (bx bA (bx bA bC))))) (bL cC (bJ (qv 3) bA) bA)))))
  (bF (DW 8 (bL cR (tY 8 (Aa bA)) bA) (Aa bA))
  (bG (JB 8 (uE (bH Az) uN uN ["_law_k"] (c7 (by rfl) T.dZ (bx (bR cN (by rfl) T.dF WH (bx (qv 8) bC)) bC)) (eU (i:=0)) cF (dg (bx (bJ (qv 4) (qv 0)) (bx (bI fP hr.md (by rfl) (bx (bJ (qv 9) (qv 0)) (bx (bR (VG rfl) (by rfl) T.Zu boot_sum (bx (qv 9) bC)) bC))) bC))) (m6 (i:=5) jx.nd rfl (Or.inl rfl)))))))
  bT)
  (bG (bM (dg (bx (bL cC (bJ (qv 2) bA) (qv 1)) (bx (dg (bx (qv 4) (bx (bI mr hr.md (by rfl) (bx (qv 0) (bx (bJ (qv 2) bA) (bx (bJ (qv 2) bA) bC)))) (bx (qv 5) bC)))) bC)))))))))))),?_⟩
 rintro _ R ⟨c,m,rfl,m0,m1,q⟩;have mz:(0:Int)<(m:Nat):=by lia
 have sl:∀k,0<=strm c k/\strm c k<2000000000:=iV c;obtain⟨rm,g7,rme⟩ : ∃rm:Nat->Nat,(∀k,rm k<m)/\∀k,strm c k%(m:Nat)=(rm k:Nat):=⟨λk=>(strm c k%(m:Nat)).toNat,λk=>by
  have:=YY (strm c k) mz;have:=Z3 (strm c k) (show((m:Nat):Int)≠0 by exact WS mz);show(strm c k%(m:Nat)).toNat<m;lia,λk=>by
  have:=Z3 (strm c k) (show((m:Nat):Int)≠0 by exact WS mz);show _=((strm c k%(m:Nat)).toNat:Int);lia⟩
 obtain⟨so,eso,hso⟩ : ∃so:Nat,strm c 6%4=(so:Nat)/\so<4:=⟨(strm c 6%4).toNat,by have:=sl 6;lia,by have:=sl 6;lia⟩;refine sq7 (λo=>∃(x3 x6 x7 x8:OT)(prs:List (Nat×Rat)),o=[.fz (.int c),.fz (.int (m:Nat)),.fz (.lst ((jL c 14).map L2.T.int)),x3,.fz (.int (so:Nat)),.fz (.lst (prs.map nwT)),x6,x7,x8]/\∀p,Pay p->LDk m ⟨so,p,prs⟩) ?_ λY go=>?_
 .rintro _ ⟨x3,x6,x7,x8,prs,rfl,hk⟩;refine⟨_,dW (k:=13) (by decide),mz,_,dW (k:=0) (by decide),_,dW (k:=1) (by decide),c,_,_,rfl,sl 0,sl 1,λp hp=>?_⟩;have:=q (rm 13) ⟨so,p,prs⟩ (g7 13) (hk p hp);rw[<- rme]at this;exact this
 .refine⟨c,14,rfl,by decide,?_⟩;have ec:fX ((jL c 14).map L2.T.int) (some 2) (some 6)=[2,3,4,5].map (λk=>L2.T.int (strm c k)):=rfl;show(fX ((jL c 14).map L2.T.int) (some 2) (some 6)).length<=sizeLine/\iB _ _ _ _ (fX ((jL c 14).map L2.T.int) (some 2) (some 6)) _;rw[ec];refine⟨show 4<=sizeLine by decide,comp_map (λk=>L2.T.int (strm c k)) (λk=>.int (rm k:Nat)) [2,3,4,5] (λk _ N M hN=>⟨mz,by rw[rme];exact hN⟩) ⟨_,dW (k:=6) (by decide),by decide,?_⟩⟩;dsimp only[frz];rw[eso];refine⟨_,rfl,?_⟩;obtain rfl|rfl|rfl|rfl:so=0\/so=1\/so=2\/so=3:=by lia
  .exact go _ ⟨_,_,_,_,[(rm 2,1)],rfl,λp hp=>.sure (g7 2) hp⟩
  .have x8:=sl 8;have x9:=sl 9;refine⟨_,dW (k:=8) (by decide),by decide,_,dW (k:=9) (by decide),by lia,_,_,rfl,by lia,fV (by lia),_,rfl,_,rfl,?_⟩;obtain⟨b,eb,b0,b1⟩ : ∃b:Int,1+strm c 8%6=b/\0<b/\b<=6:=⟨_,rfl,by lia,by lia⟩;rw[eb];have a0:=Z3 (strm c 9) (show b+1≠0 by lia);have a1:=YY (strm c 9) (show 0<b+1 by exact Int.lt_trans b0 (Int.lt_succ _));generalize strm c 9%(b+1)=a at a0 a1 ⊢;have nn:0<=Rat.divInt a b:=Zzx a0 (XY b0);have l1:0<=1-Rat.divInt a b:=by rw[one_sub (WS b0)];exact Zzx (by omega) (XY b0)
   have dd:=O7 (a:=a) b0;generalize Rat.divInt a b=x at nn l1 dd ⊢;refine go _ ⟨.fz (.lst ([2,3,4,5].map λk=>L2.T.int (rm k:Nat))),.fz (.int b),.fz (frR x),.und,[(rm 2,x),(rm 3,1-x)],?_,λp hp=>.toss (g7 2) (g7 3) hp nn l1 (show 0<b.toNat by lia) (by lia) dd⟩;rw[show[(rm 2,x),(rm 3,1-x)].map nwT=[.tup [.int (rm 2:Nat),frR x],.tup [.int (rm 3:Nat),frR (1-x)]]from rfl,YM]
   rfl
  .have x7:=sl 7;obtain⟨n,en,n0,n4⟩ : ∃n:Nat,1+strm c 7%4=(n:Nat)/\0<n/\n<=4:=⟨(1+strm c 7%4).toNat,by lia,by lia,by lia⟩;refine⟨_,dW (k:=7) (by decide),by decide,?_⟩;show(fX ([2,3,4,5].map λk=>L2.T.int (rm k:Nat)) none (some (1+strm c 7%4))).length<=sizeLine/\iB _ _ _ _ (fX ([2,3,4,5].map λk=>L2.T.int (rm k:Nat)) none (some (1+strm c 7%4))) _;have ec2:fX ([2,3,4,5].map λk=>L2.T.int (rm k:Nat)) none (some (1+strm c 7%4))=(([2,3,4,5].map rm).take n).map λr:Nat=>L2.T.int (r:Nat):=by
    rw[en,acX,List.map_take,WP]
    rfl
   have rl:(([2,3,4,5].map rm).take n).length=n:=by rw[aY];show min n 4=n;lia
   have rlt:∀r∈([2,3,4,5].map rm).take n,r<m:=λr hr=>by
    obtain⟨k,_,rfl⟩:=YV.mp (List.mem_of_mem_take hr);exact g7 k
   rw[ec2];generalize([2,3,4,5].map rm).take n=rs at rl rlt ⊢;have r0:0<rs.length:=by lia
   have e2:(rs.map λr=>(r,mkRat 1 rs.length)).map nwT=rs.map λr=>nwT (r,mkRat 1 rs.length):=by rw[WP];rfl
   refine⟨by rw[ak];exact aL (show _<=4 by exact aL (WG rl) n4) (by decide),comp_map (λr:Nat=>L2.T.int (r:Nat)) (λr=>nwT (r,mkRat 1 rs.length)) rs (λr hr N M hN=>?_) (go _ ⟨.fz (.lst (rs.map λr:Nat=>L2.T.int (r:Nat))),.und,.und,.und,rs.map λr=>(r,mkRat 1 rs.length),by rw[e2];rfl,λp hp=>.even r0 (aL (WG rl) n4) rlt hp⟩)⟩;rw[show nwT (r,mkRat 1 rs.length)=.tup [.int (r:Nat),frR (mkRat 1 rs.length)]from rfl,T_ r0,<- ak (f:=λr:Nat=>L2.T.int (r:Nat))]at hN;exact hN
  .have x7:=sl 7;have x12:=sl 12;obtain⟨n,en,n0,n4⟩ : ∃n:Nat,9+strm c 7%4=((8+n:Nat):Int)/\0<n/\n<=4:=⟨(1+strm c 7%4).toNat,by lia,by lia,by lia⟩;refine⟨_,dW (k:=7) (by decide),by decide,?_⟩;show(fX ((jL c 14).map L2.T.int) (some 8) (some (9+strm c 7%4))).length<=sizeLine/\iB _ _ _ _ (fX ((jL c 14).map L2.T.int) (some 8) (some (9+strm c 7%4))) _;have ec3:fX ((jL c 14).map L2.T.int) (some 8) (some (9+strm c 7%4))=(((jL c 14).drop 8).take n).map L2.T.int:=by
    rw[en,zc];have:=WR (ys:=jL c 14) (a:=8) (b:=8+n) (X2 _ _) (by rw[ak,WJ];lia);rw[show 8+n-8=n by exact T1 _ _]at this;exact ZH (List.map L2.T.int) this
   have ul:(((jL c 14).drop 8).take n).length=n:=by rw[aY,TZ,ak,WJ];lia
   rw[ec3];generalize((jL c 14).drop 8).take n=us at ul ⊢;obtain⟨d,hd,ed⟩:=aaM [3,3,3,1000] L2.T.int (i:=strm c 12%4) (Z3 _ (by decide)) (by show strm c 12%4<4;exact YY _ (by decide));have d0:0<d/\d<=1000:=by simp at hd;lia
   refine⟨by rw[ak];exact aL (show _<=4 by exact aL (WG ul) n4) (by decide),comp_map L2.T.int (λx=>L2.T.int (x%d)) us (λx hx N M hN=>⟨_,dW (k:=12) (by decide),by decide,_,ed,d0.1,hN⟩) ?_⟩;have em:us.map (λx=>L2.T.int (x%d))=(us.map (· % d)).map L2.T.int:=by rw[WP];rfl
   rw[em];have wl:(us.map (· % d)).length=n:=by rw[ak];exact ul
   have ww:∀w∈us.map (· % d),0<=w/\w<1000:=λw hw=>by
    obtain⟨x,_,rfl⟩:=YV.mp hw;have:=Z3 x (show d≠0 by lia);have:=YY x d0.1;lia
   generalize us.map (· % d)=ws at wl ww ⊢;obtain⟨vs,v,rfl⟩ : ∃vs v,ws=vs++[v]:=by
    rcases List.eq_nil_or_concat ws with rfl|⟨vs,v,e⟩
    .cases wl;cases n0
    .exact⟨vs,v,by rw[e,List.concat_eq_append]⟩
   rw[aA,List.length_singleton]at wl;have ixl:ixT ((vs++[v]).map L2.T.int) (-1)=some (.int v):=by
    show nth ((vs++[v]).map L2.T.int).reverse 0=_;rw[bf,List.reverse_append]
    rfl
   have ixn:ixN ((vs++[v]).map L2.T.int).length (-1)=some vs.length:=by
    unfold ixN;rw[ak,aA,List.length_singleton];rw[ZZ (by decide),ZY (by lia)]
    congr 1
    lia
   refine⟨_,ixl,_,ixn,?_⟩;have es:((vs++[v]).map L2.T.int).set vs.length (.int (v+1))=(vs++[v+1]).map L2.T.int:=by
    rw[bf,bf,List.set_append_right _ _ (by rw[ak];exact aG _),ak,Nat.sub_self]
    rfl
   dsimp only[frz];rw[es];have kc:(vs++[v+1]).length=n:=by rw[aA,List.length_singleton];exact wl
   have kb:∀w∈vs++[v+1],0<=w/\w<=1000:=λw hw=>by
    rcases Y1.mp hw with z|z
    .have:=ww w (Tu _ z);lia
    .have:=ww v (aP _ (YR.mpr rfl));rw[YR.mp z];lia
   have s0:0<(vs++[v+1]).sum:=by
    have:0<=vs.sum:=aaG λw hw=>(ww w (Tu _ hw)).1;have:=(ww v (aP _ (YR.mpr rfl))).1;rw[List.sum_append];show 0<vs.sum+(v+1+0);lia
   have s1:(vs++[v+1]).sum<=1000*(vs++[v+1]).length:=Zq λw hw=>(kb w hw).2;generalize vs++[v+1]=us at kc kb s0 s1 ⊢;have ul':(us.map L2.T.int).length=us.length:=ak ..;have r4:∀k,k<4->([2,3,4,5].map rm)[k]?=some (rm (k+2)):=λk hk=>by
    obtain rfl|rfl|rfl|rfl:k=0\/k=1\/k=2\/k=3:=by lia
    all_goals rfl
   have z:∀k(hk:k<us.length),((([2,3,4,5].map rm).zip us).map λx=>(x.1,Rat.divInt x.2 us.sum))[k]?=some (rm (k+2),Rat.divInt (us.getD k 0) us.sum):=λk hk=>by
    rw[aq,List.getElem?_zip_eq_some (z:=(rm (k+2),us.getD k 0)) |>.mpr ⟨r4 k (by lia),by rw[au,aj hk];rfl⟩]
    rfl
   have ep:(List.range (us.map L2.T.int).length).map (λk=>nwT (rm (k+2),Rat.divInt (us.getD k 0) us.sum))=((([2,3,4,5].map rm).zip us).map λx=>(x.1,Rat.divInt x.2 us.sum)).map nwT:=by
    refine Q3 λk=>?_;rw[ul'];by_cases hk:k<us.length
    .rw[aq,VT hk,aq,z k hk]
     rfl
    .rw[aM (by rw[ak,WJ];exact VW hk),aM (by rw[ak,ak,VY];omega)]
   refine⟨⟨by lia,by lia⟩,by rw[rng,ak,WJ];exact aL (show _<=4 by lia) (by decide),O5 (λk=>nwT (rm (k+2),Rat.divInt (us.getD k 0) us.sum)) (us.map L2.T.int).length (λk hk N M hN=>?_) (go _ ⟨.fz (.lst ([2,3,4,5].map λk=>L2.T.int (rm k:Nat))),.und,.und,.fz (.lst (us.map L2.T.int)),(([2,3,4,5].map rm).zip us).map λx=>(x.1,Rat.divInt x.2 us.sum),by rw[ep];rfl,λp hp=>LDk.mix (rs:=[2,3,4,5].map rm) (aL (WG kc) n4) (λr hr=>?_) (λw hw=>(kb w hw).1) (show us.length<=4 by exact aL (WG kc) n4) s0 (by lia) hp⟩)⟩
   .rw[ul']at hk;have ek:us[k]?=some (us.getD k 0):=by rw[au,aj hk];rfl
    have e4:=r4 k (by lia);rw[aq]at e4;refine⟨.int (rm (k+2):Nat),?_,_,dM ek,us,rfl,_,_,rfl,s0,fV (by lia),hN⟩;show nth _ k=_;rw[sJ,aq];cases z2:([2,3,4,5] : List Nat)[k]? with
    |none=>rw[z2]at e4;cases e4
    |some j=>rw[z2]at e4;injection e4 with e4;show some (L2.T.int (rm j:Nat))=_;rw[show rm j=rm (k+2)from e4]
   .obtain⟨k,_,rfl⟩:=YV.mp hr;exact g7 k
structure DSk(m mo:Nat)(ae:List (List LD)):Prop where
 len:ae.length=m
 few:∀ds∈ae,ds.length<=mo
 ok:∀ds∈ae,∀d∈ds,LDk m d
abbrev dsT(ae:List (List LD)):List (List T):=ae.map λds=>ds.map ldT
abbrev vH(ae:List (List LD)):T:=.lst (ae.map λds=>.lst (ds.map ldT))
theorem adq(ae:List (List LD)):frz (.l2 (dsT ae))=vH ae:=by
 show L2.T.lst ((ae.map λds=>ds.map ldT).map L2.T.lst)=_;rw[WP]
 rfl
theorem DSk.add{m mo:Nat}{ae:List (List LD)}(h:DSk m mo ae){k:Nat}{ds:List LD}{d:LD}(e:ae[k]?=some ds)(lt:ds.length<mo)(hd:LDk m d):DSk m mo (ae.set k (ds++[d])):=by
 refine⟨by rw[VU,h.len],λx hx=>?_,λx hx y hy=>?_⟩
 .rcases List.mem_or_eq_of_mem_set hx with z|rfl
  .exact h.few x z
  .rw[aA,List.length_singleton];exact lt
 .rcases List.mem_or_eq_of_mem_set hx with z|rfl
  .exact h.ok x z y hy
  .rcases Y1.mp hy with z|z
   .exact h.ok ds (aC e) y z
   .rw[YR.mp z];exact hd
theorem aeL{ae:List (List LD)}{r:Nat}{ds:List LD}(e:ae[r]?=some ds):ixT ((dsT ae).map L2.T.lst) (r:Nat)=some (.lst (ds.map ldT)):=by
 show nth ((dsT ae).map L2.T.lst) r=_;rw[sJ,aq,aq,e];rfl
def RV:ST:=λts q=>∃(ns:List Int)(a m mo:Nat),ts=[scT ns,.int (a:Nat),.int (m:Nat),.int (mo:Nat)]/\ns.length<=100/\m<=300/\mo<=1000/\∀ae:List (List LD),DSk m mo ae->q (.l2 (dsT ae))
theorem Y_(F:Fun K Dt Dt GF f fd)(T:Txt K mg D)(iG:OkT P w K mg base 1 uW uX Cz)(cL:OkT P w K mg base 1 fH fJ gJ)(Ur:OkT P w K mg base 4 Hx G5 W3):cj P w K mg base CX0 5 f fd BZ (spT K RV):=by
 refine F.okT jj (λts R hP=>by obtain⟨_,_,_,_,e,_⟩:=hP;exact e ▸ rfl) λaf A outer s H E hr=>?_;refine⟨_,(bF (ac2 (bH GF) Ww ["_law_script","_law_at","_law_many","_law_most","_law_rooms_here","_law_first","_law_cells","?_law_k","_law_cell_here","_law_room","_law_door_here"] ["_law_k"] (c7 (by rfl) T.dZ (bx (qv 2) bC)) (eU (i:=0)) cF (eE bC) (m6 (i:=4) jj.nd rfl (Or.inl rfl)))
  (bF (cB (bY Jc (qv 2) bA)
  (bF (bO 5 jj.nd (Or.inl rfl) (bI iG hr.md (by rfl) (bx (qv 0) (bx (qv 1) bC))))
  (bF (bO 6 jj.nd (Or.inl rfl) (bI cL hr.md (by rfl) (bx (qv 5) (bx (bL cC (bL cC (bL WX (qv 5) bA) bA) (bL cR (bL cG bA (qv 2)) bA)) bC))))
  (bF (bO 6 jj.nd (Or.inl rfl) (bL cR (qv 6) (lC (qv 0) (gn (bL cR (qv 1) bA)) (gn (bL cR (qv 1) bA)))))
  (bG (dJ VZ rfl (c7 (by rfl) T.dZ (bx (bR cN (by rfl) T.dF WH (bx (qv 6) bC)) bC)) (b_ (n:=99) 7 jj.nd (Or.inl rfl))
  (bF (bO 8 jj.nd (Or.inl rfl) (bJ (qv 6) (qv 7)))
  (bF (cB (QW.qt (Np (bY (go_eq hr.units) (bL cC (qv 5) bA) bA) (Hi (bY (go_eq hr.units) (bL cC (qv 7) bA) bA))))
  (bG (bO 8 jj.nd (Or.inl rfl) (bL cC (qv 8) bA)))
  bT)
  (bF (Ul (bI Ur hr.md (by rfl) (bx (qv 8) (bx (qv 2) bC))) (fD (n:=2) rfl (bU (b_ (n:=99) 9 jj.nd (Or.inl rfl)) (bU (b_ (n:=99) 10 jj.nd (Or.inl rfl)) dO))))
  (bG (cB (Ub 4 (bY vK (bR cN (by rfl) T.dF WH (bx (bJ (qv 4) (qv 9)) bC)) (qv 3)))
  (bG (acQ 4 (qv 9) (qv 10)))
  bT))))))))))
  bT)
  (bG (jy 4)))),?_⟩
 rintro _ R ⟨ns,a,m,mo,rfl,nl,m1,mo1,q⟩;have e0:(List.range m).map (λ_=>([] : List L2.T))=dsT (List.replicate m []):=by
  unfold dsT;rw[List.map_replicate,List.map_const',WJ]
  rfl
 have h0:DSk m mo (List.replicate m []):=⟨aN,λx hx=>by rw[(List.mem_replicate.mp hx).2];exact aZ _,λx hx y hy=>by rw[(List.mem_replicate.mp hx).2]at hy;cases hy⟩;refine⟨⟨by lia,by lia⟩,by rw[rng,ak,WJ];exact aL m1 (by decide),Rn (λ_=>[]) m (λk hk N M hN=>hN) ?_⟩;rw[e0];refine swD (λhm=>?_) λhm=>q _ h0;refine⟨ns,a,rfl,nl,?_⟩;dsimp only[frz];generalize ns.getD a 0=fi;have mz:(0:Int)<3*(m:Nat)+1:=by lia
 obtain⟨n,en,n1⟩ : ∃n:Nat,fi*48271%104729%(3*(m:Nat)+1)=(n:Nat)/\n<=3*m:=⟨(fi*48271%104729%(3*(m:Nat)+1)).toNat,by
  have:=Z3 (fi*48271%104729) (show(3*(m:Nat)+1:Int)≠0 by exact WS mz);lia,by
  have:=YY (fi*48271%104729) mz;have:=Z3 (fi*48271%104729) (show(3*(m:Nat)+1:Int)≠0 by exact WS mz);lia⟩
 refine⟨.inr (by constructor<;>decide),by decide,⟨fV (by decide),fV (by lia)⟩,mz,fi,n,by rw[en];rfl,by lia,?_⟩;have ec:(jL fi n).map L2.T.int++fX (ns.map L2.T.int) (some ((a:Nat)+1)) (some ((a:Nat)+25))=(jL fi n++fX ns (some ((a:Nat)+1)) (some ((a:Nat)+25))).map L2.T.int:=by rw[zc,bf]
 have cl:(fX ns (some ((a:Nat)+1)) (some ((a:Nat)+25))).length<=100:=by
  unfold fX;rw[aY,TZ];lia
 show((jL fi n).map L2.T.int).length+(fX (ns.map L2.T.int) (some ((a:Nat)+1)) (some ((a:Nat)+25))).length<=sizeLine/\_;refine⟨?_,?_⟩
 .rw[zc,ak,ak,ak,WJ];exact aL (show _<=1100 by lia) (by decide)
 dsimp only[frz];rw[ec];have sl:(jL fi n++fX ns (some ((a:Nat)+1)) (some ((a:Nat)+25))).length<=1100:=by rw[aA,ak,WJ];lia
 generalize jL fi n++fX ns (some ((a:Nat)+1)) (some ((a:Nat)+25))=cs at sl ⊢;refine⟨⟨by rw[ak];lia,by rw[ak];lia⟩,ju (λk o=>∃(ae:List (List LD))(x7 x8 x9 ja:OT),o=[.fz (scT ns),.fz (.int (a:Nat)),.fz (.int (m:Nat)),.fz (.int (mo:Nat)),.l2 (dsT ae),.fz (.int fi),.fz (.lst (cs.map L2.T.int)),x7,x8,x9,ja]/\DSk m mo ae) ⟨_,_,_,_,_,rfl,h0⟩ ?_ ?_⟩
 .rintro k _ hk ⟨ae,x7,x8,x9,ja,rfl,h⟩;rw[ak]at hk;dsimp only[hName];refine sq2 (λo=>∃c:Int,o=[.fz (scT ns),.fz (.int (a:Nat)),.fz (.int (m:Nat)),.fz (.int (mo:Nat)),.l2 (dsT ae),.fz (.int fi),.fz (.lst (cs.map L2.T.int)),.fz (.int (k:Nat)),.fz (.int c),x9,ja]) ?_ λY go=>?_
  .rintro _ ⟨c,rfl⟩;refine⟨c,m,rfl,by lia,by exact aL m1 (by decide),λr d hr hd=>⟨rfl,?_⟩⟩;have lr:r<ae.length:=by rw[h.len];exact hr
   have er:=aj lr;refine⟨_,aeL er,swD (λlt=>?_) λ_=>⟨ae,.fz (.int (k:Nat)),.fz (.int c),.fz (.int (r:Nat)),.fz (ldT d),rfl,h⟩⟩;have lt:((ae[r].map ldT).length:Int)<(mo:Nat):=lt;rw[ak]at lt;refine⟨r,ae[r].map ldT,?_,by rw[aq,er];rfl,by rw[ak];exact aR (show _<1001 by lia) (by decide),ae.set r (ae[r]++[d]),.fz (.int (k:Nat)),.fz (.int c),.fz (.int (r:Nat)),.fz (ldT d),?_,h.add er (by lia) hd⟩
   .unfold ixN;rw[ak,ZY (Wp _),ZY (by lia)]
    rfl
   .rw[show dsT (ae.set r (ae[r]++[d]))=(dsT ae).set r (ae[r].map ldT++[ldT d])by
     unfold dsT;rw[List.map_set,bf]
     rfl]
    rfl
  .refine⟨_,dM (aj hk),by decide,swD (λh1=>⟨by decide,swD (λh2=>⟨by decide,go _ ⟨_,rfl⟩⟩) λh2=>go _ ⟨_,rfl⟩⟩) λh1=>go _ ⟨_,rfl⟩⟩
 .rintro _ ⟨ae,x7,x8,x9,ja,rfl,h⟩;exact q ae h
def Ab(ws:List (Nat×Rat))(p:Nat×Rat):List (Nat×Rat):=if(ws.any λx=>decide (x.1=p.1))=true then ws.map (λx=>if x.1=p.1 then(x.1,x.2+p.2)else x)else ws++[p]
def DN(ps:List (Nat×Rat)):List (Nat×Rat):=ps.foldl Ab []
def vP(ps:List (Nat×Rat)):List (Nat×Rat):=(DN ps).filter λp=>!decide (p.2=0)
noncomputable abbrev nmP(ns:Φ)(p:Nat×Rat):Str×Rat:=(ns.getD p.1 ⟨#[]⟩,p.2)
theorem NQ{ns:Φ}(nd:ns.Nodup){i j:Nat}(hi:i<ns.length)(hj:j<ns.length):(ns.getD i ⟨#[]⟩=ns.getD j ⟨#[]⟩)↔i=j:=by
 constructor
 .intro h;rw[au,au,aj hi,aj hj]at h;rcases Nat.lt_trichotomy i j with l|l|l
  .exact absurd h ((List.pairwise_iff_getElem.mp nd) i j hi hj l)
  .exact l
  .exact absurd h.symm ((List.pairwise_iff_getElem.mp nd) j i hj hi l)
 .intro h;rw[h]
theorem agj{ns:Φ}(nd:ns.Nodup){ws:List (Nat×Rat)}{p:Nat×Rat}(hw:∀w∈ws,w.1<ns.length)(hp:p.1<ns.length):addW (ws.map (nmP ns)) (nmP ns p)=(Ab ws p).map (nmP ns):=by
 have an:((ws.map (nmP ns)).any λx=>decide (x.1=(nmP ns p).1))=ws.any λx=>decide (x.1=p.1):=by
  rw[List.any_map];refine Bool.eq_iff_iff.mpr ⟨λh=>?_,λh=>?_⟩
  .obtain⟨x,hx,e⟩:=List.any_eq_true.mp h;exact List.any_eq_true.mpr ⟨x,hx,Zs ((NQ nd (hw x hx) hp).mp (of_decide_eq_true e))⟩
  .obtain⟨x,hx,e⟩:=List.any_eq_true.mp h;exact List.any_eq_true.mpr ⟨x,hx,Zs ((NQ nd (hw x hx) hp).mpr (of_decide_eq_true e))⟩
 unfold addW Ab;rw[an];split
 .rw[WP,WP];refine U1 λx hx=>?_;show(if(nmP ns x).1=(nmP ns p).1 then _ else _)=nmP ns (if x.1=p.1 then _ else _);by_cases e:x.1=p.1
  .rw[ZY e,ZY ((NQ nd (hw x hx) hp).mpr e)]
  .rw[ZZ e,ZZ λz=>e ((NQ nd (hw x hx) hp).mp z)]
 .rw[bf];rfl
theorem G3{ws:List (Nat×Rat)}{p w:Nat×Rat}(h:w∈Ab ws p):(w∈ws/\w.1≠p.1)\/w=p\/∃x∈ws,x.1=p.1/\w=(x.1,x.2+p.2):=by
 unfold Ab at h;split at h
 .obtain⟨x,hx,rfl⟩:=YV.mp h;by_cases e:x.1=p.1
  .rw[ZY e];exact .inr (.inr ⟨x,hx,e,rfl⟩)
  .rw[ZZ e];exact .inl ⟨hx,e⟩
 .rename_i n
  rcases Y1.mp h with z|z
  .exact .inl ⟨z,λe=>n (List.any_eq_true.mpr ⟨w,z,Zs e⟩)⟩
  .exact .inr (.inl (YR.mp z))
theorem Xg{ns:Φ}(nd:ns.Nodup){ps:List (Nat×Rat)}(h:∀p∈ps,p.1<ns.length):jm (ps.map (nmP ns))=(DN ps).map (nmP ns):=by
 suffices H:∀(ps ws:List (Nat×Rat)),(∀p∈ps,p.1<ns.length)->(∀w∈ws,w.1<ns.length)->(ps.map (nmP ns)).foldl addW (ws.map (nmP ns))=(ps.foldl Ab ws).map (nmP ns)from H ps [] h λ_ z=>(nomatch z)
 intro ps
 induction ps with
 |nil=>exact λ_ _ _=>rfl
 |cons p ps ih =>
  intro ws hp hw;rw[List.map_cons,List.foldl_cons,List.foldl_cons,agj nd hw (hp p (aO ..))];refine ih _ (λq hq=>hp q (aJ _ hq)) λw hm=>?_;rcases G3 hm with⟨z,_⟩|rfl|⟨x,hx,_,rfl⟩
  .exact hw w z
  .exact hp w (aO ..)
  .exact hw x hx
theorem acS{ns:Φ}(nd:ns.Nodup){ps:List (Nat×Rat)}(h:∀p∈ps,p.1<ns.length):Cv (ps.map (nmP ns))=(vP ps).map (nmP ns):=by
 unfold Cv vP;rw[Xg nd h,List.filter_map]
 rfl
theorem uU{r:Rat}{q:Nat}(hq:0<q):r.den ∣ q↔∃x:Int,r=Rat.divInt x q:=by
 constructor
 .rintro⟨k,rfl⟩;refine⟨r.num*k,?_⟩;have hk:((k:Nat):Int)≠0:=λz=>by rw[show k=0 by lia]at hq;lia
  conv=>lhs;rw[<- rd r]
  refine(QY (jK r) (by push_cast;exact lU (jK r) hk)).mpr ?_
  push_cast
  grind
 .rintro⟨x,rfl⟩;have:=O7 (a:=x) (b:=(q:Nat)) (by lia);exact this
theorem xY{a b:Rat}{q:Nat}(hq:0<q)(ha:a.den ∣ q)(hb:b.den ∣ q):(a+b).den ∣ q:=by
 obtain⟨x,rfl⟩:=(uU hq).mp ha;obtain⟨y,rfl⟩:=(uU hq).mp hb;have h0:((q:Nat):Int)≠0:=by lia
 refine(uU hq).mpr ⟨x+y,?_⟩;rw[JS _ _ h0 h0];refine(QY (lU h0 h0) h0).mpr ?_
 grind
theorem den_mul{a b:Rat}{q r:Nat}(hq:0<q)(hr:0<r)(ha:a.den ∣ q)(hb:b.den ∣ r):(a*b).den ∣ q*r:=by
 obtain⟨x,rfl⟩:=(uU hq).mp ha;obtain⟨y,rfl⟩:=(uU hr).mp hb;refine(uU (UT hq hr)).mpr ⟨x*y,?_⟩;rw[QU]
 push_cast
 rfl
theorem acF{a:Rat} : (-a).den=a.den:=rfl
structure JnI(m q:Nat)(as ws:List (Nat×Rat)):Prop where
 nd:(ws.map (·.1)).Nodup
 lt:∀w∈ws,w.1<m
 nn:∀w∈ws,0<=w.2
 dn:∀w∈ws,w.2.den ∣ q
 sum:∀y:Nat->Rat,dw ws y=dw as y
 few:ws.length<=as.length
theorem Il(as bs:List (Nat×Rat))(y:Nat->Rat):dw (as++bs) y=dw as y+dw bs y:=by
 induction as with
 |nil=>show dw bs y=0+_;rw[Rat.zero_add]
 |cons a as ih=>rw[List.cons_append,cX,cX,ih,Rat.add_assoc]
theorem VD(p:Nat×Rat)(y:Nat->Rat):dw [p] y=p.2*y p.1:=by rw[cX];show _+0=_;rw[Rat.add_zero]
theorem afk{ws:List (Nat×Rat)}{p:Nat×Rat}(nd:(ws.map (·.1)).Nodup)(y:Nat->Rat):dw (Ab ws p) y=dw ws y+p.2*y p.1:=by
 unfold Ab;split
 .rename_i h
  induction ws with
  |nil=>cases h
  |cons x ws ih =>
   obtain⟨n1,n2⟩:=List.nodup_cons.mp nd;rw[List.map_cons,cX,cX];by_cases e:x.1=p.1
   .rw[ZY e];have rest:ws.map (λx=>if x.1=p.1 then(x.1,x.2+p.2)else x)=ws:=by
     conv=>rhs;rw[<- List.map_id ws]
     refine U1 λz hz=>?_;rw[ZZ λw=>n1 (YV.mpr ⟨z,hz,w.trans e.symm⟩)]
     rfl
    rw[rest,<- e];show(x.2+p.2)*y x.1+dw ws y=_
    grind
   .rw[ZZ e,ih n2 (by
     rw[List.any_cons,Zp e,Bool.false_or]at h;exact h)]
    grind
 .rw[Il,VD]
theorem af4{ws:List (Nat×Rat)}{p:Nat×Rat}(nd:(ws.map (·.1)).Nodup):((Ab ws p).map (·.1)).Nodup:=by
 unfold Ab;by_cases h:(ws.any λx=>decide (x.1=p.1))=true
 .rw[ZY h,WP];rw[show ws.map ((λx=>x.1) ∘ λx=>if x.1=p.1 then(x.1,x.2+p.2)else x)=ws.map (·.1)from U1 λx _=>by show(if x.1=p.1 then(x.1,x.2+p.2)else x).1=x.1;split<;>rfl];exact nd
 .rw[ZZ h,bf];refine List.nodup_append.mpr ⟨nd,by simp,λa ha b hb z=>h ?_⟩;obtain⟨x,hx,rfl⟩:=YV.mp ha;rw[List.map_singleton,YR]at hb;exact List.any_eq_true.mpr ⟨x,hx,Zs (z.trans hb)⟩
theorem acu{m q:Nat}(hq:0<q){as ws:List (Nat×Rat)}{p:Nat×Rat}(hp:p.1<m/\0<=p.2/\p.2.den ∣ q)(h:JnI m q as ws):JnI m q (as++[p]) (Ab ws p):=by
 refine⟨af4 h.nd,λw hw=>?_,λw hw=>?_,λw hw=>?_,λy=>by rw[afk h.nd,h.sum,Il,VD],?_⟩
 .rcases G3 hw with⟨z,_⟩|rfl|⟨x,hx,_,rfl⟩
  .exact h.lt w z
  .exact hp.1
  .exact h.lt x hx
 .rcases G3 hw with⟨z,_⟩|rfl|⟨x,hx,_,rfl⟩
  .exact h.nn w z
  .exact hp.2.1
  .have:=h.nn x hx;have:=hp.2.1;show 0<=x.2+p.2
   grind
 .rcases G3 hw with⟨z,_⟩|rfl|⟨x,hx,_,rfl⟩
  .exact h.dn w z
  .exact hp.2.2
  .exact xY hq (h.dn x hx) hp.2.2
 .have:=h.few;unfold Ab;split
  .rw[ak,aA];exact aL this (X2 _ _)
  .rw[aA,aA];simp;omega
theorem Lp{m q:Nat}(hq:0<q):∀{ps:List (Nat×Rat)},(∀p∈ps,p.1<m/\0<=p.2/\p.2.den ∣ q)->JnI m q ps (DN ps):=by
 intro ps h
 suffices H:∀(ps as ws:List (Nat×Rat)),(∀p∈ps,p.1<m/\0<=p.2/\p.2.den ∣ q)->JnI m q as ws->JnI m q (as++ps) (ps.foldl Ab ws)from H ps [] [] h ⟨.nil,λ_ z=>(nomatch z),λ_ z=>(nomatch z),λ_ z=>(nomatch z),λ_=>rfl,aG _⟩
 intro ps
 induction ps with
 |nil=>intro as ws _ h;rw[List.append_nil];exact h
 |cons p ps ih =>
  intro as ws hp h;have:=ih (as++[p]) (Ab ws p) (λx hx=>hp x (aJ _ hx)) (acu hq (hp p (aO ..)) h);rw[WZ]at this;exact this
theorem Eh(y:Nat->Rat):∀ws:List (Nat×Rat),dw (ws.filter λp=>!decide (p.2=0)) y=dw ws y
 |[]=>rfl
 |w::ws=>by
  by_cases e:w.2=0
  .rw[List.filter_cons_of_neg (by rw[Zs e];decide),Eh y ws,cX,e,Rat.zero_mul,Rat.zero_add]
  .rw[List.filter_cons_of_pos (by rw[Zp e];rfl),cX,cX,Eh y ws]
theorem GJ{m q:Nat}(hq:0<q){ps:List (Nat×Rat)}(h:∀p∈ps,p.1<m/\0<=p.2/\p.2.den ∣ q):JnI m q ps (vP ps):=by
 have j:=Lp hq h;have sub:∀w∈vP ps,w∈DN ps:=λw hw=>(List.mem_filter.mp hw).1;refine⟨(List.filter_sublist.map _).nodup j.nd,λw hw=>j.lt w (sub w hw),λw hw=>j.nn w (sub w hw),λw hw=>j.dn w (sub w hw),λy=>?_,aL (List.length_filter_le ..) j.few⟩;unfold vP;rw[Eh,j.sum]
theorem tR{w:Nat×Rat} : ∀{ws:List (Nat×Rat)},(∀w∈ws,0<=w.2)->w∈ws->w.2<=dw ws λ_=>1
 |[],_,h=>by cases h
 |x::ws,nn,h=>by
  rw[cX];have n0:∀ws:List (Nat×Rat),(∀w∈ws,0<=w.2)->0<=dw ws λ_=>1:=λws=>by
   induction ws with
   |nil=>intro _;exact VQ
   |cons y ws ih =>
    intro h;rw[cX];have:=h y (aO ..);have:=ih λw hw=>h w (aJ _ hw)
    grind
  rcases YU.mp h with rfl|z
  .have:=n0 ws λw hw=>nn w (aJ _ hw)
   grind
  .have:=tR (ws:=ws) (λw hw=>nn w (aJ _ hw)) z;have:=nn x (aO ..)
   grind
theorem zx:∀ps:List (Nat×Rat),(dw ps λ_=>1)=Bl (ps.map (·.2))
 |[]=>rfl
 |p::ps=>by
  rw[cX,zx ps,Rat.mul_one]
  rfl
theorem LDk.all{m:Nat}{d:LD}(h:LDk m d):∃q:Nat,0<q/\q<=4000/\∀p∈d.prs,p.1<m/\0<=p.2/\p.2.den ∣ q:=by
 obtain⟨q,q0,q1,hq⟩:=h.dn;exact⟨q,q0,q1,λp hp=>⟨h.lt p hp,h.nn p hp,hq p hp⟩⟩
theorem ZX{q:Nat}{r:Rat}(q0:0<q)(q1:q<=4000)(h0:0<=r)(h1:r<=1)(hd:r.den ∣ q):Ch r:=⟨h0,h1,fV (by have:=UY q0 hd;lia)⟩
theorem LDk.prsOk{m:Nat}{d:LD}{ns:Φ}(h:LDk m d)(hn:Nms ns m):Prs (d.prs.map (nmP ns)):=by
 obtain⟨q,q0,q1,hq⟩:=h.all;have le1:∀p∈d.prs,p.2<=1:=λp hp=>by
  rw[<- h.one,<- zx];exact tR h.nn hp
 have few:=h.few;have m2:(d.prs.map (nmP ns)).map (·.2)=d.prs.map (·.2):=by rw[WP];rfl
 refine⟨by rw[ak];exact aL few (by decide),λp hp=>?_,?_,by rw[m2];exact h.one,λas a bs e=>?_⟩
 .obtain⟨x,hx,rfl⟩:=YV.mp hp;obtain⟨x1,x2,x3⟩:=hq x hx;have lx:x.1<ns.length:=by rw[hn.len];exact x1
  refine⟨hn.wd _ ?_,ZX q0 q1 x2 (le1 x hx) x3⟩;show ns.getD x.1 ⟨#[]⟩∈ns;rw[au,aj lx];exact aU lx
 .rw[m2];have:=jJ (d.prs.map (·.2)) (n:=1) (m:=q) (UK _) λr hr=>by
   obtain⟨x,hx,rfl⟩:=YV.mp hr;exact(hq x hx).2.2
  have:=UY q0 this;exact fV (by lia)
 .obtain⟨h7,bs',e0,rfl,e2⟩:=List.map_eq_append_iff.mp e;obtain⟨a',cs',rfl,rfl,rfl⟩:=List.map_eq_cons_iff.mp e2;have sub:∀p∈h7,p∈d.prs:=λp hp=>e0 ▸ Tu _ hp;have ha:=hq a' (e0 ▸ aP _ (aO ..));have ca:Ch a'.2:=ZX q0 q1 ha.2.1 (le1 a' (e0 ▸ aP _ (aO ..))) ha.2.2;have j:=Lp q0 (ps:=h7) (m:=m) λp hp=>hq p (sub p hp);rw[Xg hn.nd λp hp=>by rw[hn.len];exact(hq p (sub p hp)).1];have cn:Ch (A_ ((DN h7).map (nmP ns)) (nmP ns a').1):=by
   unfold A_;cases ef:((DN h7).map (nmP ns)).find? λx=>decide (x.1=(nmP ns a').1)with
   |none=>exact⟨VQ,by show(0:Rat)<=1;decide,fV (by decide)⟩
   |some x =>
    obtain⟨y,hy,rfl⟩:=YV.mp (List.mem_of_find?_eq_some ef);refine ZX q0 q1 (j.nn y hy) ?_ (j.dn y hy);have l1:=tR j.nn hy;rw[j.sum]at l1;have l2:=h.one;rw[<- zx,e0,Il]at l2;have l3:0<=dw (a'::cs') λ_=>1:=by
     have:∀ws:List (Nat×Rat),(∀w∈ws,0<=w.2)->0<=dw ws λ_=>1:=λws=>by
      induction ws with
      |nil=>intro _;exact VQ
      |cons y ws ih =>
       intro h;rw[cX];have:=h y (aO ..);have:=ih λw hw=>h w (aJ _ hw)
       grind
     exact this _ λw hw=>h.nn w (e0 ▸ aP _ hw)
    show y.2<=1
    grind
  refine⟨cn.bq,ca.bq,?_⟩;have:=cn.2.2;have:=UY q0 ha.2.2;have mi:(A_ ((DN h7).map (nmP ns)) (nmP ns a').1).den<=4000:=by
   unfold A_;cases ef:((DN h7).map (nmP ns)).find? λx=>decide (x.1=(nmP ns a').1)with
   |none=>exact UH rfl
   |some x =>
    obtain⟨y,hy,rfl⟩:=YV.mp (List.mem_of_find?_eq_some ef);have:=UY q0 (j.dn y hy);exact aL this q1
  refine fV ?_;rw[VX,XG,XG];exact Y3 (W1 mi (show a'.2.den<=4000 by exact aL this q1)) (by decide)
noncomputable def clsOf(D:Adr):Nat->Addr
 |0=>D.Sure
 |1=>D.Toss
 |2=>D.Even
 |_=>D.Mixed
abbrev UJ(t:Str)(d:LD):bQ:=⟨t,d.pay,vP d.prs⟩
abbrev xH(D:Adr)(t:Str)(d:LD):Made:=⟨clsOf D d.sort,UJ t d⟩
theorem abx(D:Adr):∀k,dh D (clsOf D k)
 |0=>by unfold dh clsOf;simp
 |1=>by unfold dh clsOf;simp
 |2=>by unfold dh clsOf;simp
 |_+3=>by unfold dh clsOf;simp
def QK(D:Adr):ST:=λts q=>∃(t:Str)(d:LD)(ns:Φ)(m:Nat),ts=[.str t,ldT d,.lst (ns.map T.str)]/\Wd t/\Nms ns m/\LDk m d/\q (.fz (mdT ns (xH D t d)))
theorem abH(F:Fun K CT CT Dv f fd)(T:Txt K mg D)(xJ:OkI P w K mg base CX0 5 D.Sure_init pO (spI K (V4 D)))(d_:OkI P w K mg base CX0 5 D.Mixed_init gO (spI K (Ds D)))(xR:OkI P w K mg base CX0 6 D.Toss_init pJ (spI K (V9 D)))(v7:OkI P w K mg base CX0 6 D.Even_init oZ (spI K (WL D))):cj P w K mg base CX0 8 f fd Cw (spT K (QK D)):=by
 refine F.okT yF (λts R hP=>by obtain⟨_,_,_,_,e,_⟩:=hP;exact e ▸ rfl) λaf A outer s H E hr=>?_;refine⟨_,(bF (Ul (qv 1) (fD (n:=3) rfl (bU (b_ (n:=99) 4 yF.nd (Or.inl rfl)) (bU (b_ (n:=99) 5 yF.nd (Or.inl rfl)) (bU (b_ (n:=99) 6 yF.nd (Or.inl rfl)) dO)))))
  (bF (uE (bH Dv) Bk Bk ["_law_room","_law_chance"] (cH (qv 6)) (fD (n:=2) rfl (bU (eU (i:=0)) (bU (eU (i:=1)) dO))) cF (dg (bx (bJ (qv 4) (qv 0)) (bx (qv 1) bC))) (m6 (i:=3) yF.nd rfl (Or.inl rfl)))
  (bF (cB (bY (go_eq hr.units) (qv 4) bA)
  (bG (bM (Bm T.adA xJ hr.md (by rfl) T.agN (bx (qv 0) (bx (qv 5) (bx (bJ (bJ (qv 3) bA) bA) bC))))))
  bT)
  (bF (cB (bY (go_eq hr.units) (qv 4) bA)
  (bG (bM (Bm T.ab9 xR hr.md (by rfl) T.afG (bx (qv 0) (bx (qv 5) (bx (bJ (bJ (qv 3) bA) bA) (bx (bJ (bJ (qv 3) bA) bA) (bx (bJ (bJ (qv 3) bA) bA) bC))))))))
  bT)
  (bF (cB (bY (go_eq hr.units) (qv 4) bA)
  (bG (bM (Bm T.ac1 v7 hr.md (by rfl) T.afP (bx (qv 0) (bx (qv 5) (bx (dH (bH Dv) Bk Bk ["_law_room","_law_chance"] (cH (qv 3)) (fD (n:=2) rfl (bU (eU (i:=0)) (bU (eU (i:=1)) dO))) cF (qv 0)) bC))))))
  bT)
  (bG (bM (Bm T.aaH d_ hr.md (by rfl) T.Od (bx (qv 0) (bx (qv 5) (bx (qv 3) bC))))))))))),?_⟩
 rintro _ R ⟨t,d,ns,m,rfl,wt,hn,hd,q⟩;have few:=hd.few;have en:∀p∈d.prs,ixT (ns.map L2.T.str) (p.1:Nat)=some (.str (nmP ns p).1):=λp hp=>by
  have lp:p.1<ns.length:=by rw[hn.len];exact hd.lt p hp
  exact dM (by rw[aj lp];show _=some (ns.getD p.1 ⟨#[]⟩);rw[au,aj lp];rfl)
 have em:(d.prs.map (nmP ns)).map wyT=d.prs.map λp=>wyT (nmP ns p):=by rw[WP];rfl
 have pk:=hd.prsOk hn;have wk:=acS hn.nd (ps:=d.prs) λp hp=>by rw[hn.len];exact hd.lt p hp
 refine⟨rfl,by rw[ak];exact aL few (by decide),comp_map nwT (λp=>wyT (nmP ns p)) d.prs (λp hp N M hN=>⟨rfl,_,en p hp,hN⟩) ?_⟩;rw[<- em];obtain⟨so,pay,prs⟩:=d;have s4:so<4:=hd.sort;have s0:=hd.s0;have s1:=hd.s1;have s2:=hd.s2;dsimp only at *;obtain rfl|rfl|rfl|rfl:so=0\/so=1\/so=2\/so=3:=by lia
 .obtain⟨a,rfl⟩:=s0 rfl;have e1:vP [(a,1)]=[(a,1)]:=by simp[vP,DN,Ab]
  have q':R (.fz (drT D.Sure t pay ([(a,1)].map (nmP ns)))):=by rw[<- e1];exact q
  exact⟨_,rfl,t,_,pay,rfl,rfl,abE D,rfl,wt,(pk.ok (nmP ns (a,1)) (YR.mpr rfl)).1,q'⟩
 .obtain⟨a,b,x,rfl⟩:=s1 rfl;have q':R (.fz (drT D.Toss t pay (Cv ([(a,x),(b,1-x)].map (nmP ns))))):=by rw[wk];exact q
  exact⟨_,rfl,_,rfl,_,rfl,t,_,_,pay,x,rfl,rfl,aaT D,rfl,wt,(pk.ok (nmP ns (a,x)) (aO ..)).2,pk,q'⟩
 .obtain⟨rs,rfl⟩:=s2 rfl;have q':R (.fz (drT D.Even t pay (Cv ((rs.map λr=>(r,mkRat 1 rs.length)).map (nmP ns))))):=by rw[wk];exact q
  have ev:even (((rs.map λr=>(r,mkRat 1 rs.length)).map (nmP ns)).map (·.1))=(rs.map λr=>(r,mkRat 1 rs.length)).map (nmP ns):=by
   have el:(((rs.map λr=>(r,mkRat 1 rs.length)).map (nmP ns)).map (·.1)).length=rs.length:=by simp
   unfold even;rw[el];simp[Function.comp_def]
  refine⟨by rw[ak,ak];exact aL few (by decide),comp_map wyT (λp=>.str p.1) ((rs.map λr=>(r,mkRat 1 rs.length)).map (nmP ns)) (λp hp N M hN=>⟨rfl,hN⟩) ⟨t,pay,((rs.map λr=>(r,mkRat 1 rs.length)).map (nmP ns)).map (·.1),rfl,rfl,aav D,?_,wt,by rw[ev];exact pk,?_⟩⟩
  .rw[show(((rs.map λr=>(r,mkRat 1 rs.length)).map (nmP ns)).map (·.1)).map L2.T.str=((rs.map λr=>(r,mkRat 1 rs.length)).map (nmP ns)).map λp=>L2.T.str p.1 from WP]
   rfl
  .rw[ev];exact q'
 .have q':R (.fz (drT D.Mixed t pay (Cv (prs.map (nmP ns))))):=by rw[wk];exact q
  exact⟨t,pay,prs.map (nmP ns),rfl,rfl,Xv D,rfl,wt,pk,q'⟩
structure wR(ae:List (List LD))(off:List (List bQ)):Prop where
 len:off.length=ae.length
 at_:∀(k:Nat)ds os,ae[k]?=some ds->off[k]?=some os->∃tl:Φ,tl.length=ds.length/\os=(tl.zip ds).map λp=>UJ p.1 p.2
theorem S9{α β:Type} : ∀{xs:List α}{ys:List β}{x:α}(y:β),xs[ys.length]?=some x->xs.zip (ys++[y])=xs.zip ys++[(x,y)]
 |[],ys,_,_,e=>by cases e
 |a::xs,[],x,y,e=>by cases e;simp
 |a::xs,b::ys,x,y,e=>by
  rw[List.cons_append,List.zip_cons_cons,List.zip_cons_cons,S9 (xs:=xs) (ys:=ys) y (by simpa using e)]
  rfl
theorem Bf{α β:Type}(f:α->T)(g:β->T):∀(xs:List α)(ys:List β),Aj (xs.map f) (ys.map g)=(xs.zip ys).map λp=>.tup [f p.1,g p.2]
 |[],ys=>by cases ys<;>rfl
 |_::_,[]=>rfl
 |x::xs,y::ys=>by
  rw[List.zip_cons_cons,List.map_cons,List.map_cons,List.map_cons,<- Bf f g xs ys]
  rfl
def Wx(D:Adr):ST:=λts q=>∃(c:Int)(s:Rat)(m mo:Nat)(ae:List (List LD)),ts=[.int c,frR s,vH ae]/\Shr s/\DSk m mo ae/\m<=26/\mo<=26/\∀ns off,Nms ns m->Om ns off->wR ae off->q (.fz (hlT D s ns off))
theorem ad3(F:Fun K GR GR PB f fd)(T:Txt K mg D)(GX:OkT P w K mg base 2 Dc CW Tz)(NZ:OkT P w K mg base 8 CT Cw (QK D))(xK:OkI P w K mg base CX0 4 D.Hall_init o_ (spI K (Wb D))):cj P w K mg base CX0 9 f fd Hw (spT K (Wx D)):=by
 refine F.okT Bu (λts R hP=>by obtain⟨_,_,_,_,_,e,_⟩:=hP;exact e ▸ rfl) λaf A outer s H E hr=>?_;refine⟨_,(bF (bO 3 Bu.nd (Or.inr rfl) (bI GX hr.md (by rfl) (bx (qv 0) (bx (bR cN (by rfl) T.dF WH (bx (qv 2) bC)) bC))))
  (bF (iw 4 Bu.nd (Or.inl rfl) (eE bC))
  (bF (dJ VZ rfl (c7 (by rfl) T.dZ (bx (bR cN (by rfl) T.dF WH (bx (qv 2) bC)) bC)) (b_ (n:=99) 5 Bu.nd (Or.inl rfl))
  (bF (bO 6 Bu.nd (Or.inl rfl) (bI GX hr.md (by rfl) (bx (bL cR (qv 0) (qv 5)) (bx (bR cN (by rfl) T.dF WH (bx (bJ (qv 2) (qv 5)) bC)) bC))))
  (bG (nY 4 (dg (bx (bJ (qv 3) (qv 5)) (bx (dH (bH PB) VB VB ["_law_title","_law_door_here"] (DX (by rfl) T.Lk (bx (qv 6) (bx (bJ (qv 2) (qv 5)) bC))) (fD (n:=2) rfl (bU (eU (i:=0)) (bU (eU (i:=1)) dO))) cF (bI NZ hr.md (by rfl) (bx (qv 0) (bx (qv 1) (bx (qv 5) bC))))) bC)))))))
  (bG (JB 4 (bM (Bm T.adt xK hr.md (by rfl) T.af0 (bx (qv 1) (bx (qv 4) bC))))))))),?_⟩
 rintro _ R ⟨c,s,m,mo,ae,rfl,hs,hd,m1,mo1,q⟩;have dl:(ae.map λds=>L2.T.lst (ds.map ldT)).length=m:=by rw[ak,hd.len]
 refine⟨c,m,by rw[<- dl];rfl,m1,λns hn=>?_⟩;have nl:=hn.len;have e0:Ak ns []=[]:=by simp[Ak]
 refine⟨⟨by rw[dl];lia,by rw[dl];lia⟩,ju (λk o=>∃(ms:List (List Made))(x5 x6:OT),o=[.fz (.int c),.fz (frR s),.fz (vH ae),.fz (.lst (ns.map L2.T.str)),.l1 (Ak ns ms),x5,x6]/\ms.length=k/\∀(i:Nat)ds x,ae[i]?=some ds->ms[i]?=some x->∃tl,Nms tl ds.length/\x=(tl.zip ds).map λp=>xH D p.1 p.2) ⟨[],.und,.und,by rw[e0];rfl,rfl,λi ds x _ z=>by cases z⟩ ?_ ?_⟩
 .rintro k _ hk ⟨ms,x5,x6,rfl,lm,hm⟩;have hk:k<m:=by rw[dl]at hk;lia
  have lk:k<ae.length:=by rw[hd.len];exact hk
  have ek:=aj lk;have mem:=aU lk;have fk:=hd.few _ mem;have i6:ixT (ae.map λds=>L2.T.lst (ds.map ldT)) (k:Nat)=some (.lst (ae[k].map ldT)):=dM ek;have nk:ns[k]?=some (ns.getD k ⟨#[]⟩):=by rw[au,aj (by lia)];rfl
  refine⟨_,i6,c+k,ae[k].length,by rw[<- ak (as:=ae[k]) (f:=ldT)];rfl,by exact aL fk mo1,λtl ht=>?_⟩;refine⟨_,dM nk,_,i6,?_⟩;have zl:(tl.zip ae[k]).length<=26:=by rw[VY];lia
  show(Aj (tl.map L2.T.str) (ae[k].map ldT)).length<=sizeLine/\iB _ _ _ _ (Aj (tl.map L2.T.str) (ae[k].map ldT)) _;rw[Bf];refine⟨by rw[ak];exact aL zl (by decide),comp_map (λp=>.tup [.str p.1,ldT p.2]) (λp=>mdT ns (xH D p.1 p.2)) (tl.zip ae[k]) (λp hp N M hN=>⟨rfl,p.1,p.2,ns,m,rfl,ht.wd _ (UX hp).1,hn,hd.ok _ mem _ (UX hp).2,hN⟩) ⟨?_,ms++[(tl.zip ae[k]).map λp=>xH D p.1 p.2],.fz (.int (k:Nat)),.fz (.lst (tl.map L2.T.str)),?_,by rw[aA,lm];rfl,λi ds x e1 e2=>?_⟩⟩
  .rw[ak,VY];exact aR (show _<1000 by lia) (by decide)
  .rw[show Ak ns (ms++[(tl.zip ae[k]).map λp=>xH D p.1 p.2])=Ak ns ms++[.tup [.str (ns.getD k ⟨#[]⟩),.lst ((tl.zip ae[k]).map λp=>mdT ns (xH D p.1 p.2))]]by
    unfold Ak;rw[S9 (x:=ns.getD k ⟨#[]⟩) _ (by rw[lm];exact nk),bf,List.map_singleton]
    congr 2
    show rmT (_,((tl.zip ae[k]).map λp=>xH D p.1 p.2).map (mdT ns))=_;rw[WP]
    rfl]
   rfl
  .by_cases hi:i<ms.length
   .rw[aF hi]at e2;exact hm i ds x e1 e2
   .have li:=(ao.mp e2).1;rw[aA,List.length_singleton]at li;have:i=k:=by lia
    subst this;rw[aD (WG lm),show i-ms.length=0 by lia]at e2;cases e2;rw[ek]at e1;cases e1;exact⟨tl,ht,rfl⟩
 .rintro _ ⟨ms,x5,x6,rfl,lm,hm⟩;have lm:ms.length=m:=by rw[lm];exact dl
  have all:∀x∈ms,∃ds∈ae,∃tl,Nms tl ds.length/\x=(tl.zip ds).map λp=>xH D p.1 p.2:=λx hx=>by
   obtain⟨i,hi⟩:=aV hx;have li:=(ao.mp hi).1;have ld:i<ae.length:=by rw[hd.len];exact aR li (WG lm)
   exact⟨_,aU ld,hm i _ x (aj ld) hi⟩
  have rk:aee D ns ms:=by
   refine⟨by rw[lm,nl],by lia,hn.wd,hn.nd,λx hx=>?_⟩;obtain⟨ds,dk,tl,ht,rfl⟩:=all x hx;have fd:=hd.few ds dk;have g5:=ht.len;refine⟨by rw[ak,VY];lia,λy hy=>?_,λy hy=>?_,?_⟩
   .obtain⟨p,_,rfl⟩:=YV.mp hy;exact abx D _
   .obtain⟨p,hp,rfl⟩:=YV.mp hy;have lk:=hd.ok ds dk p.2 (UX hp).2;obtain⟨qq,q0,q1,hq⟩:=lk.all;have j:=GJ q0 hq;have:=j.few;have:=lk.few;exact⟨by show(vP p.2.prs).length<=1000;lia,λw hw=>by rw[nl];exact j.lt w hw⟩
   .rw[WP];show((tl.zip ds).map λp=>p.1).Nodup;rw[List.map_fst_zip (WG g5)];exact ht.nd
  have bs:Bq s:=⟨fV (by
   have h0:=Rat.num_nonneg.mpr hs.lo;have h1:=(Rat.lt_iff s 1).mp hs.hi;have h1:s.num*((1:Rat).den:Int)<(1:Rat).num*(s.den:Int):=h1;have:=hs.den;simp at h1;lia),fV (by have:=hs.den;lia)⟩
  refine⟨s,ns,ms,rfl,rfl,rfl,rfl,hs.lo,hs.hi,bs,rk,q ns (offs ms) hn ⟨?_,by lia,λos ge=>?_⟩ ⟨?_,λk ds os e1 e2=>?_⟩⟩
  .rw[ak,lm,nl]
  .obtain⟨x,hx,rfl⟩:=YV.mp ge;rw[ak];exact(rk.mds x hx).few
  .rw[ak,lm,hd.len]
  .rw[aq]at e2;cases e3:ms[k]? with
   |none=>rw[e3]at e2;cases e2
   |some x =>
    rw[e3]at e2;cases e2;obtain⟨tl,ht,rfl⟩:=hm k ds x e1 e3;exact⟨tl,ht.len,WP⟩
abbrev Fx(k:Nat)(p:Rat):LD:=⟨0,p,[(k,1)]⟩
def alN(ae:List (List LD)):Prop:=∀ds∈ae,∀d∈ds,d.pay.den=1/\d.pay.num.natAbs<=9/\∀p∈d.prs,p.2=1
theorem MN{p:Rat}(h1:p.den=1)(h2:p.num.natAbs<=9):Pay p:=⟨aL h2 (by decide),by exact aL (WG h1) (by decide)⟩
def Ft:ST:=λts q=>∃(c:Int)(m:Nat),ts=[.int c,.int ((m+1:Nat):Int)]/\m<26/\∀ae:List (List LD),DSk (m+1) 4 ae->(∀ds∈ae,ds.length=2)->alN ae->q (.l1 (ae.map λds=>.lst (ds.map ldT)))
theorem Rb(F:Fun K qP qP Ad f fd)(T:Txt K mg D)(cL:OkT P w K mg base 1 fH fJ gJ):cj P w K mg base CX0 2 f fd qQ (spT K Ft):=by
 refine F.okT qY (λts R hP=>by obtain⟨_,_,e,_⟩:=hP;exact e ▸ rfl) λaf A outer s H E hr=>?_;refine⟨_,(bF (bO 2 qY.nd (Or.inl rfl) (bL cR bA (bL cC (bJ (bI cL hr.md (by rfl) (bx (qv 0) (bx bA bC))) bA) bA)))
  (bF (iw 3 qY.nd (Or.inl rfl) (eE bC))
  (bF (dJ VZ rfl (c7 (by rfl) T.dZ (bx (bL t_ (qv 1) bA) bC)) (b_ (n:=99) 4 qY.nd (Or.inl rfl))
  (bG (nY 3 (QEB.out (oY (bN (dY (bN dG (bN (dY (bN dG (bN dG cQ))) (bN (oY (bN (dY (bN (Lq 4) (bN (dY (bN dG (bN dG cQ))) cQ))) cQ)) cQ)))) (bN (dY (bN dG (bN (dY (bN dG (bN dG cQ))) (bN (oY (bN (dY (bN (Nq cR (Lq 4) dG) (bN (dY (bN dG (bN dG cQ))) cQ))) cQ)) cQ)))) cQ)))))))
  (bG (JB 3 (bM (bL cR (qv 3) (QEB.out (oY (bN (oY (bN (dY (bN dG (bN (dY (bN dG (bN dG cQ))) (bN (oY (bN (dY (bN (Nq t_ (Lq 1) dG) (bN (dY (bN dG (bN dG cQ))) cQ))) cQ)) cQ)))) (bN (dY (bN dG (bN (dY (bN (Lq 2) (bN dG cQ))) (bN (oY (bN (dY (bN (Nq t_ (Lq 1) dG) (bN (dY (bN dG (bN dG cQ))) cQ))) cQ)) cQ)))) cQ))) cQ)))))))))),?_⟩
 rintro _ R ⟨c,m,rfl,m1,q⟩;have s0:=iV c 0;have e1:((m+1:Nat):Int)-1=(m:Nat):=by lia
 obtain⟨p,ep,p9⟩ : ∃p:Nat,1+strm c 0%9=(p:Nat)/\p<=9:=⟨(1+strm c 0%9).toNat,by lia,by lia⟩;refine⟨c,1,rfl,by decide,_,dW (k:=0) (by decide),by decide,?_⟩;refine⟨⟨by lia,by lia⟩,?_⟩;show vB _ _ _ (rng 0 ((((m+1:Nat):Int)-1).toNat)) _;rw[show((((m+1:Nat):Int)-1).toNat)=m by lia];refine ju (λk o=>∃x,o=[.fz (.int c),.fz (.int ((m+1:Nat):Int)),.fz (.int (p:Nat)),.l1 (((List.range k).map λk=>[Fx k 0,Fx (k+1) 0]).map λds=>.lst (ds.map ldT)),x]) ⟨.und,?_⟩ ?_ ?_
 .rw[<- ep];rfl
 .rintro k _ hk ⟨x,rfl⟩;refine⟨?_,.fz (.int (k:Nat)),?_⟩
  .rw[ak,ak,WJ];exact aR (show k<100 by lia) (by decide)
  .rw[List.range_succ,bf,bf]
   rfl
 .rintro _ ⟨x,rfl⟩;have cor:=q ((List.range m).map (λk=>[Fx k 0,Fx (k+1) 0])++[[Fx m 0,Fx m ((p:Int):Rat)]]) ⟨by simp,λds dk=>?_,λds dk d hd=>?_⟩ (λds dk=>?_) (λds dk d hd=>?_)
  .rw[bf]at cor;refine⟨?_,?_⟩
   .show(((List.range m).map λk=>[Fx k 0,Fx (k+1) 0]).map λds=>L2.T.lst (ds.map ldT)).length+1<=sizeLine;rw[ak,ak,WJ];exact aL (show m+1<=100 by lia) (by decide)
   .show R (OT.l1 (_++[L2.T.lst [L2.T.tup [.int 0,.tup [.int 0,.int 1],.lst [.tup [.int (((m+1:Nat):Int)-1),.tup [.int 1,.int 1]]]],L2.T.tup [.int 0,.tup [.int (p:Nat),.int 1],.lst [.tup [.int (((m+1:Nat):Int)-1),.tup [.int 1,.int 1]]]]]]));rw[e1];exact cor
  .rcases Y1.mp dk with z|z
   .obtain⟨k,_,rfl⟩:=YV.mp z;exact UH rfl
   .rw[YR.mp z];exact UH rfl
  .rcases Y1.mp dk with z|z
   .obtain⟨k,hk,rfl⟩:=YV.mp z;have:=List.mem_range.mp hk;rcases YU.mp hd with rfl|z
    .exact .sure (WU _ this) (MN rfl (by decide))
    .rw[YR.mp z];exact .sure (Nat.succ_lt_succ this) (MN rfl (by decide))
   .rw[YR.mp z]at hd;rcases YU.mp hd with rfl|z
    .exact .sure (X1 _) (MN rfl (by decide))
    .rw[YR.mp z];exact .sure (X1 _) (MN rfl (by show(p:Int).natAbs<=9;omega))
  .rcases Y1.mp dk with z|z
   .obtain⟨k,_,rfl⟩:=YV.mp z
    rfl
   .rw[YR.mp z]
    rfl
  .rcases Y1.mp dk with z|z
   .obtain⟨k,hk,rfl⟩:=YV.mp z;rcases YU.mp hd with rfl|z
    .exact⟨rfl,aZ 9,by simp⟩
    .rw[YR.mp z];exact⟨rfl,aZ 9,by simp⟩
   .rw[YR.mp z]at hd;rcases YU.mp hd with rfl|z
    .exact⟨rfl,aZ 9,by simp⟩
    .rw[YR.mp z];exact⟨rfl,by show(p:Int).natAbs<=9;omega,by simp⟩
structure PlD(ae:List (List LD))(pl:List (Option Nat)):Prop where
 len:pl.length=ae.length
 ok:∀(k:Nat)(d:Option Nat)(ds:List LD),pl[k]?=some d->ae[k]?=some ds->xq d ds.length=true
theorem PlD.snoc{ae:List (List LD)}{k:Nat}{pl:List (Option Nat)}(h:∀(i:Nat)(d:Option Nat)(ds:List LD),i<k->pl[i]?=some d->ae[i]?=some ds->xq d ds.length=true)(l:pl.length=k){ds:List LD}(ek:ae[k]?=some ds){d:Option Nat}(hd:xq d ds.length=true):∀(i:Nat)(c:Option Nat)(es:List LD),i<k+1->(pl++[d])[i]?=some c->ae[i]?=some es->xq c es.length=true:=λi c es hi e1 e2=>by
 by_cases z:i<k
 .rw[aF (by lia)]at e1;exact h i c es z e1 e2
 .have:i=k:=by lia
  subst this;rw[aD (WG l),show i-pl.length=0 by lia]at e1;cases e1;rw[ek]at e2;cases e2;exact hd
def Fo:ST:=λts q=>∃(c:Int)(ae:List (List LD)),ts=[.int c,vH ae]/\ae.length<=100/\∀pl:List (Option Nat),PlD ae pl->q (.l1 (pl.map dT))
theorem Xw(F:Fun K tU tU Ij f fd)(T:Txt K mg D)(cL:OkT P w K mg base 1 fH fJ gJ):cj P w K mg base CX0 2 f fd tX (spT K Fo):=by
 refine F.okT zj (λts R hP=>by obtain⟨_,_,e,_⟩:=hP;exact e ▸ rfl) λaf A outer s H E hr=>?_;refine⟨_,(bF (bO 2 zj.nd (Or.inl rfl) (bI cL hr.md (by rfl) (bx (qv 0) (bx (bR cN (by rfl) T.dF WH (bx (qv 1) bC)) bC))))
  (bF (iw 3 zj.nd (Or.inl rfl) (eE bC))
  (bF (dJ VZ rfl (c7 (by rfl) T.dZ (bx (bR cN (by rfl) T.dF WH (bx (qv 1) bC)) bC)) (b_ (n:=99) 4 zj.nd (Or.inl rfl))
  (bG (cB (bY (go_eq hr.units) (bR cN (by rfl) T.dF WH (bx (bJ (qv 1) (qv 4)) bC)) bA)
  (bG (nY 3 gA))
  (bG (nY 3 (bL cC (bJ (qv 2) (qv 4)) (bR cN (by rfl) T.dF WH (bx (bJ (qv 1) (qv 4)) bC))))))))
  (bG (jy 3))))),?_⟩
 rintro _ R ⟨c,ae,rfl,few,q⟩;have dl:(ae.map λds=>L2.T.lst (ds.map ldT)).length=ae.length:=ak ..;refine⟨c,ae.length,by rw[<- dl];rfl,by exact aL few (by decide),⟨by rw[dl];lia,by rw[dl];lia⟩,?_⟩;refine ju (λk o=>∃(pl:List (Option Nat))(x:OT),o=[.fz (.int c),.fz (vH ae),.fz (.lst ((jL c ae.length).map L2.T.int)),.l1 (pl.map dT),x]/\pl.length=k/\∀(i:Nat)(d:Option Nat)(ds:List LD),i<k->pl[i]?=some d->ae[i]?=some ds->xq d ds.length=true) ⟨[],.und,rfl,rfl,λi d ds z=>absurd z (WV _)⟩ ?_ ?_
 .rintro k _ hk ⟨pl,x,rfl,l,h⟩;have hk:k<ae.length:=by rw[dl]at hk;lia
  have ek:=aj hk;have i6:ixT (ae.map λds=>L2.T.lst (ds.map ldT)) (k:Nat)=some (.lst (ae[k].map ldT)):=dM ek;have lm:(pl.map dT).length<sizeLine:=by rw[ak];exact aR (show _<1000 by lia) (by decide)
  have s0:=iV c k;refine⟨_,i6,?_⟩;by_cases e:ae[k].length=0
  .refine swT (Zs (by rw[ak];lia)) ⟨lm,pl++[none],.fz (.int (k:Nat)),by rw[bf];rfl,by simp[l],PlD.snoc h l ek (Zs e)⟩
  .have p0:(0:Int)<(ae[k].map ldT).length:=by rw[ak];lia
   refine swF (Zp (by rw[ak];lia)) ⟨_,dW (k:=k) hk,_,i6,p0,lm,?_⟩;have a0:=Z3 (strm c k) (show((ae[k].map ldT).length:Int)≠0 by exact WS p0);have a1:=YY (strm c k) p0;obtain⟨n,en⟩:=Int.eq_ofNat_of_zero_le a0;refine⟨pl++[some n],.fz (.int (k:Nat)),?_,by simp[l],PlD.snoc h l ek (Zs ?_)⟩
   .rw[bf];show _=[_,_,_,OT.l1 (pl.map dT++[L2.T.int (n:Nat)]),_];rw[<- en]
    rfl
   .rw[ak]at a1 en;lia
 .rintro _ ⟨pl,x,rfl,l,h⟩;have l:pl.length=ae.length:=by rw[l];exact dl
  exact q pl ⟨l,λk d ds e1 e2=>h k d ds (by rw[dl];have:=(ao.mp e1).1;lia) e1 e2⟩
open Rw (sg fY fG bW gD gQ Big)
def Rz(n d:Nat)(r:Rat):Prop:=r.num.natAbs<=10^n/\r.den<=10^d
theorem Uz{n d:Nat}{a b:Int}(hb:0<b)(h1:a.natAbs<=10^n)(h2:b.toNat<=10^d):Rz n d (Rat.divInt a b):=by
 obtain⟨x,y⟩:=div_pos (a:=a) hb;exact⟨aL y h1,aL x h2⟩
theorem Rz.mul{n d n' d':Nat}{a b:Rat}(ha:Rz n d a)(hb:Rz n' d' b):Rz (n+n') (d+d') (a*b):=by
 have e:a*b=Rat.divInt (a.num*b.num) (a.den*b.den):=by rw[<- QU,rd,rd]
 have p:(0:Int)<(a.den:Int)*b.den:=XZ (by have:=a.den_pos;lia) (by have:=b.den_pos;lia);rw[e];refine Uz p ?_ ?_
 .rw[VX,Up];exact W1 ha.1 hb.1
 .rw[<- TW,Int.toNat_natCast,Up];exact W1 ha.2 hb.2
theorem Rz.add{n d n' d' k:Nat}{a b:Rat}(ha:Rz n d a)(hb:Rz n' d' b)(h1:n+d'<=k)(h2:n'+d<=k):Rz (k+1) (d+d') (a+b):=by
 have e:a+b=Rat.divInt (a.num*b.den+b.num*a.den) (a.den*b.den):=by rw[<- JS _ _ (jK a) (jK b),rd,rd]
 have p:(0:Int)<(a.den:Int)*b.den:=XZ (by have:=a.den_pos;lia) (by have:=b.den_pos;lia);rw[e];refine Uz p ?_ ?_
 .have x:(a.num*b.den).natAbs<=10^k:=by
   rw[VX,XG];exact aL (W1 ha.1 hb.2) (by rw[<- Up];exact XT (by decide) h1)
  have y:(b.num*a.den).natAbs<=10^k:=by
   rw[VX,XG];exact aL (W1 hb.1 ha.2) (by rw[<- Up];exact XT (by decide) h2)
  have z:=Int.natAbs_add_le (a.num*b.den) (b.num*a.den);rw[Nat.pow_succ];lia
 .rw[<- TW,Int.toNat_natCast,Up];exact W1 ha.2 hb.2
theorem uV{n:Nat}{i:Int}(h:i.natAbs<=10^n)(hn:n<=2400):Bd i:=Y3 (aL h (XT (by decide) hn)) (by decide +kernel)
theorem Rz.bq{n d:Nat}{r:Rat}(h:Rz n d r)(hn:n<=2400)(hd:d<=2400):Bq r:=⟨uV h.1 hn,uV (by rw[XG];exact h.2) hd⟩
theorem Rz.dd{n d n' d':Nat}{a b:Rat}(ha:Rz n d a)(hb:Rz n' d' b)(h:d+d'<=2400):Bd ((a.den:Int)*b.den):=uV (n:=d+d') (by
 rw[VX,XG,XG,Up];exact W1 ha.2 hb.2) h
theorem Ik{r:Rat}{A:Nat}(h1:r<=(A:Rat))(h2 : -(A:Rat)<=r):r.num.natAbs<=A*r.den:=by
 have a:=(Rat.le_iff r (A:Rat)).mp h1;have b:=(Rat.le_iff (-(A:Rat)) r).mp h2;have a:r.num*((1:Nat):Int)<=(A:Int)*(r.den:Int):=a;have b : -(A:Int)*(r.den:Int)<=r.num*((1:Nat):Int):=b;have c:((A*r.den:Nat):Int)=(A:Int)*r.den:=TW ..;rw[Int.neg_mul]at b;omega
structure OfB(m PN PD CQ:Nat)(o:bQ):Prop where
 pn:o.pay.num.natAbs<=PN
 pd:o.pay.den<=PD
 cq:∃q:Nat,0<q/\q<=CQ/\∀w∈o.ways,w.2.den ∣ q
 nd:(o.ways.map (·.1)).Nodup
 few:o.ways.length<=1000
 lt:∀w∈o.ways,w.1<m
 nn:∀w∈o.ways,0<=w.2
 one:Ef o.ways<=1
theorem G6:∀ws:List (Nat×Rat),Ef ws=dw ws λ_=>1
 |[]=>rfl
 |w::ws=>by rw[zm,cX,G6 ws,Rat.mul_one]
theorem OfB.le1{m PN PD CQ:Nat}{o:bQ}(h:OfB m PN PD CQ o){w:Nat×Rat}(hw:w∈o.ways):w.2<=1:=by
 have:=tR h.nn hw;rw[<- G6]at this;exact U2 this h.one
theorem abF{m mo:Nat}{ae:List (List LD)}{off:List (List bQ)}(hd:DSk m mo ae)(ho:wR ae off):∀ds∈off,∀o∈ds,OfB m (10^30) 1000 4000 o:=λos ge o j1=>by
 obtain⟨k,ek⟩:=aV ge;have lk:k<ae.length:=by rw[<- ho.len];exact(ao.mp ek).1
 obtain⟨tl,_,rfl⟩:=ho.at_ k _ os (aj lk) ek;obtain⟨p,hp,rfl⟩:=YV.mp j1;have lk:=hd.ok _ (aU lk) p.2 (UX hp).2;obtain⟨q,q0,q1,hq⟩:=lk.all;have j:=GJ q0 hq;have f1:=j.few;have f2:=lk.few;exact⟨lk.pay.num,lk.pay.den,⟨q,q0,q1,j.dn⟩,j.nd,by show(vP p.2.prs).length<=1000;lia,j.lt,j.nn,by
  show Ef (vP p.2.prs)<=1;rw[G6,j.sum,zx,lk.one];exact VQ⟩
theorem Sg{m mo:Nat}{ae:List (List LD)}{off:List (List bQ)}(hd:DSk m mo ae)(ht:∀ds∈ae,∀d∈ds,d.pay.den=1/\d.pay.num.natAbs<=9/\∀p∈d.prs,p.2=1)(ho:wR ae off):∀ds∈off,∀o∈ds,OfB m 9 1 1 o:=λos ge o j1=>by
 have B:=abF hd ho os ge o j1;obtain⟨k,ek⟩:=aV ge;have lk:k<ae.length:=by rw[<- ho.len];exact(ao.mp ek).1
 obtain⟨tl,_,rfl⟩:=ho.at_ k _ os (aj lk) ek;obtain⟨p,hp,rfl⟩:=YV.mp j1;obtain⟨t1,t2,t3⟩:=ht _ (aU lk) p.2 (UX hp).2;have lk:=hd.ok _ (aU lk) p.2 (UX hp).2;have j:=GJ (q:=1) VS (m:=m) (ps:=p.2.prs) λx hx=>⟨lk.lt x hx,lk.nn x hx,by rw[t3 x hx];exact Nat.dvd_refl 1⟩;exact⟨t2,by show p.2.pay.den<=1;exact WG t1,⟨1,VS,aG _,j.dn⟩,B.nd,B.few,B.lt,B.nn,B.one⟩
open Rw (sg fY fG bW gD gQ Big)
theorem aeJ{ws:List (Nat×Rat)}(nn:∀w∈ws,0<=w.2)(j:Nat):0<=rO ws j/\rO ws j<=Ef ws:=by
 induction ws with
 |nil=>exact⟨VQ,VQ⟩
 |cons w ws ih =>
  have:=nn w (aO ..);obtain⟨a,b⟩:=ih λx hx=>nn x (aJ _ hx);rw[zm];show 0<=(if w.1=j then w.2 else 0)+rO ws j/\(if w.1=j then w.2 else 0)+rO ws j<=_;split<;>grind
theorem Y4{q:Nat}(hq:0<q){ws:List (Nat×Rat)}(h:∀w∈ws,w.2.den ∣ q)(j:Nat):(rO ws j).den ∣ q:=by
 induction ws with
 |nil=>exact UK _
 |cons w ws ih =>
  refine xY hq ?_ (ih λx hx=>h x (aJ _ hx));split
  .exact h w (aO ..)
  .exact UK _
abbrev qO(c:Option bQ):Nat:=cI 1 ((je c).map (·.2))
def CoB(m PN PD CQ:Nat)(c:Option bQ):Prop:=∀o,c=some o->OfB m PN PD CQ o
theorem CoB.sh{s:Rat}{m PN PD CQ:Nat}{c:Option bQ}(h:CoB m PN PD CQ c):ShB s m (je c):=by
 cases c with
 |none=>exact⟨λ_ z=>(nomatch z),λ_ z=>(nomatch z),by show(0:Rat)<=1;decide⟩
 |some o=>have b:=h o rfl;exact⟨b.lt,b.nn,b.one⟩
theorem aaK(c:Option bQ):0<qO c:=d9 _ VS
theorem afd{c:Option bQ}{w:Nat×Rat}(hw:w∈je c):w.2.den ∣ qO c:=(h_ _).2 _ (YV.mpr ⟨w,hw,rfl⟩)
theorem CoB.q{m PN PD CQ:Nat}{c:Option bQ}(h:CoB m PN PD CQ c)(h1:1<=CQ):qO c<=CQ:=by
 cases c with
 |none=>exact h1
 |some o =>
  obtain⟨q,q0,q1,hq⟩:=(h o rfl).cq;refine aL (UY q0 (jJ _ (UK _) λr hr=>?_)) q1;obtain⟨w,hw,rfl⟩:=YV.mp hr;exact hq w hw
theorem CoB.pd{m PN PD CQ:Nat}{c:Option bQ}(h:CoB m PN PD CQ c)(h1:1<=PD):(jV c).den<=PD:=by
 cases c with
 |none=>exact h1
 |some o=>exact(h o rfl).pd
theorem CoB.pn{m PN PD CQ:Nat}{c:Option bQ}(h:CoB m PN PD CQ c):(jV c).num.natAbs<=PN:=by
 cases c with
 |none=>exact aZ _
 |some o=>exact(h o rfl).pn
theorem wL:((1:Nat):Rat)=1:=rfl
theorem afo{s:Rat}{m PN PD CQ:Nat}{cs:List (Option bQ)}{i j:Nat}(s0:0<=s)(s1:s<1)(h:CoB m PN PD CQ (cs.getD i none)):(eN s cs i j).den ∣ s.den*qO (cs.getD i none)/\(eN s cs i j).num.natAbs<=1*(eN s cs i j).den:=by
 have sh:=CoB.sh (s:=s) h;obtain⟨a,b⟩:=aeJ sh.nn j;have b1:=U2 b sh.one;have c1:s*rO (je (cs.getD i none)) j<=1:=by
  have:=Tx b1 s0
  grind
 have c0:0<=s*rO (je (cs.getD i none)) j:=Rat.mul_nonneg s0 a;have sd:=s.den_pos;have qp:=aaK (cs.getD i none);refine⟨?_,Ik ?_ ?_⟩
 .unfold eN;rw[Rat.sub_eq_add_neg];refine xY (UT sd qp) ?_ ?_
  .split<;>exact UK _
  .rw[acF];exact den_mul sd qp (Nat.dvd_refl _) (Y4 qp (λw hw=>afd hw) j)
 .unfold eN;rw[wL];split<;>grind
 .unfold eN;rw[wL];split<;>grind
theorem Wz{s:Rat}{cs:List (Option bQ)}{PN PD CQ:Nat}(hs:Shr s)(few:cs.length<=100)(h:∀c∈cs,CoB cs.length PN PD CQ c)(h1:1<=PD)(h2:1<=CQ){N:Nat}(hN:N=(PN+1)*(100*CQ*PD))(mb:(2*cs.length*N)^cs.length<=NN)(nn:N<=NN):Sys (Dw (Ar s cs) (cs.map jV)) N:=by
 have gc:∀i,i<cs.length->CoB cs.length PN PD CQ (cs.getD i none):=λi hi=>h _ (by rw[au,aj hi];exact aU hi);have sd:=s.den_pos;have all:∀i,i<cs.length->∀c∈((List.range cs.length).map λj=>eN s cs i j)++[jV (cs.getD i none)],c.den ∣ s.den*qO (cs.getD i none)*(jV (cs.getD i none)).den/\c.num.natAbs<=(PN+1)*c.den:=λi hi c hc=>by
  rcases Y1.mp hc with z|z
  .obtain⟨j,_,rfl⟩:=YV.mp z;obtain⟨a,b⟩:=afo (j:=j) hs.lo hs.hi (gc i hi);exact⟨TH a (Nat.dvd_mul_right _ _),aL b (Zzy _ (Nat.le_add_left _ _))⟩
  .rw[YR.mp z];refine⟨Nat.dvd_mul_left _ _,?_⟩;have:=(gc i hi).pn;have:=(jV (cs.getD i none)).den_pos;exact aL (show _<=(PN+1)*1 by lia) (TU _ this)
 have qp:∀i,i<cs.length->0<s.den*qO (cs.getD i none)*(jV (cs.getD i none)).den/\s.den*qO (cs.getD i none)*(jV (cs.getD i none)).den<=100*CQ*PD:=λi hi =>
  ⟨UT (UT sd (aaK _)) (Rat.den_pos _),W1 (W1 hs.den ((gc i hi).q h2)) ((gc i hi).pd h1)⟩
 refine⟨λr hr=>?_,by rw[ur];exact few,λr hr=>?_,λr hr c hm=>?_,?_,by rw[ur];exact mb,nn,?_⟩
 .obtain⟨i,hi,rfl⟩:=Hh hr;rw[ur,aA,ak,WJ];rfl
 .obtain⟨i,hi,rfl⟩:=Hh hr;obtain⟨a,b⟩:=qp i hi;exact(acD (Nat.le_add_left _ _) a (all i hi)).le (by rw[hN];exact TU _ b)
 .obtain⟨i,hi,rfl⟩:=Hh hr;obtain⟨a,b⟩:=all i hi c hm;obtain⟨p,q⟩:=qp i hi;exact bdN (aL b (aL (TU _ (aL (UY p a) q)) (by rw[<- hN];exact nn)))
 .rw[hN];exact UT (TR _) (UT (UT (by decide) (aR (X1 _) h2)) (aR (X1 _) h1))
 .rw[ur];exact λx h0 hx=>acJ hs.lo hs.hi (λi hi=>(gc i hi).sh) x h0 hx
theorem M8{s:Rat}(hs:Shr s):Rz 2 2 s:=by
 have a:=Ik (r:=s) (A:=1) (JP hs.hi) (by have:=hs.lo;rw[wL];grind);have:=hs.den;exact⟨aL a (by lia),this⟩
theorem Zy{m PN PD CQ:Nat}{o:bQ}(h:OfB m PN PD CQ o)(hc:CQ<=10^4){w:Nat×Rat}(hw:w∈o.ways):Rz 4 4 w.2:=by
 obtain⟨q,q0,q1,hq⟩:=h.cq;have d:=UY q0 (hq w hw);have a:=Ik (r:=w.2) (A:=1) (h.le1 hw) (by have:=h.nn w hw;rw[wL];grind);exact⟨aL a (by lia),by lia⟩
theorem aeg{m PN PD CQ:Nat}{off:List (List bQ)}{pl:List (Option Nat)}(ob:∀ds∈off,∀o∈ds,OfB m PN PD CQ o):∀c∈chO off pl,CoB m PN PD CQ c:=λc hc o eo=>by
 obtain⟨p,hp,rfl⟩:=YV.mp hc;cases e:p.1 with
 |none=>rw[e]at eo;cases eo
 |some d =>
  rw[e]at eo;have eo:(off.getD p.2 [])[d]?=some o:=eo;by_cases l:p.2<off.length
  .rw[au,aj l]at eo;exact ob _ (aU l) o (aC eo)
  .have:off[p.2]?=none:=aM (VW l);rw[au,this]at eo;cases eo
theorem aft{s:Rat}{off:List (List bQ)}{PN PD CQ N:Nat}(hs:Shr s)(few:off.length<=100)(ob:∀ds∈off,∀o∈ds,OfB off.length PN PD CQ o)(h1:1<=PD)(h2:1<=CQ)(hc:CQ<=10^4)(hN:N=(PN+1)*(100*CQ*PD))(mb:(2*off.length*N)^off.length<=NN)(nn:N<=NN){pl:List (Option Nat)}(hp:PlT off pl):WoB s (chO off pl) N:=by
 have cl:=Fb hp;have co:=aeg (pl:=pl) ob;have sz:=M8 hs;refine⟨sz.bq (by decide) (by decide),λc hm=>?_,Wz hs (aL (WG cl) few) (by rw[cl];exact co) h1 h2 hN (by rw[cl];exact mb) nn⟩;rw[cl];cases c with
 |none=>exact⟨.nil,aZ _,λ_ z=>(nomatch z),λ_ z=>(nomatch z)⟩
 |some o =>
  have b:=co _ hm o rfl;refine⟨b.nd,b.few,b.lt,λw hw=>?_⟩;have wz:=Zy b hc hw;exact⟨wz.bq (by decide) (by decide),sz.dd wz (by decide),(sz.mul wz).bq (by decide) (by decide)⟩
theorem U4(rs:List Rat)(n M:Nat)(hM:0<M):(∀r∈rs,r.den<=M)->cI n rs<=n*M^rs.length:=by
 induction rs generalizing n with
 |nil=>intro _;show n<=n*1;lia
 |cons r rs ih =>
  intro h;have l1:Nat.lcm n r.den<=n*M:=aL (by unfold Nat.lcm;exact Nat.div_le_self _ _) (TU _ (h r (aO ..)));refine aL (ih (Nat.lcm n r.den) λx hx=>h x (aJ _ hx)) ?_;rw[List.length_cons,Nat.pow_succ,Nat.mul_comm (M^rs.length),<- Nat.mul_assoc];exact Zzy _ l1
theorem Xd{α:Type}(g:α->Int)(b:Nat):∀ws:List α,(∀w∈ws,(g w).natAbs<=b)->(ws.map g).sum.natAbs<=ws.length*b
 |[],_=>by simp
 |w::ws,h=>by
  have a:=h w (aO ..);have c:=Xd g b ws λx hx=>h x (aJ _ hx);rw[List.map_cons,List.sum_cons,List.length_cons,Nat.add_mul,Nat.one_mul];have:=Int.natAbs_add_le (g w) (ws.map g).sum;lia
theorem agm{s:Rat}{m PN PD CQ t b:Nat}{o:bQ}{tp:List Int}{B:Nat}(hs:Shr s)(h:OfB m PN PD CQ o)(hc:CQ<=10^4)(hn:PN<=10^30)(hp:PD<=10^3)(tl:tp.length=m)(ht:∀x∈tp,x.natAbs<=10^t)(hB:B<=10^b)(lt:t<=2000)(lb:b<=2000):LkB s o tp B/\Bq (oh s tp B o):=by
 obtain⟨q,q0,q1,hq⟩:=h.cq;have lq:cI 1 (o.ways.map (·.2))<=10^4:=aL (UY q0 (jJ _ (UK _) λr hr=>by
  obtain⟨w,hw,rfl⟩:=YV.mp hr;exact hq w hw)) (aL q1 hc)
 have lp:=d9 (o.ways.map (·.2)) VS;have sz:=M8 hs;have pz:Rz 30 3 o.pay:=⟨aL h.pn hn,aL h.pd hp⟩;have bz:Rz b 0 (B:Rat):=⟨hB,aG 1⟩;have part:∀w∈o.ways,(w.2.num*((cI 1 (o.ways.map (·.2))/w.2.den:Nat):Int)).natAbs<=10^8:=λw hw=>by
  rw[VX,XG];exact aL (W1 (Zy h hc hw).1 (aL (Nat.div_le_self _ _) lq)) (by decide)
 have top:∀k,(tp.getD k 0).natAbs<=10^t:=λk=>by
  rw[au];cases e:tp[k]? with
  |none=>exact aZ _
  |some x=>exact ht x (aC e)
 have dz:Rz (t+11) 4 (FW o.ways tp):=by
  rw[<- Nm lp tp o.ways λw hw=>(h_ _).2 _ (YV.mpr ⟨w,hw,rfl⟩)];refine Uz (by lia) ?_ (by rw[Int.toNat_natCast];exact lq);refine aL (Xd _ (10^8*10^t) o.ways λw hw=>?_) ?_
  .rw[VX];exact W1 (part w hw) (top w.1)
  .refine aL (Zzy _ h.few) ?_;rw[show(1000:Nat)=10^3 from rfl,<- Nat.mul_assoc,<- Up,<- Up];exact XT (by decide) (by lia)
 have p1:=pz.mul bz;have p2:=sz.mul dz;refine⟨⟨⟨h.few,λw hw=>by rw[tl];exact h.lt w hw,λw hw=>((Zy h hc hw).bq (by decide) (by decide)).1,uV (n:=4) (by rw[XG];exact lq) (by decide),λx hx=>?_,λx hx=>uV (ht x hx) (aL lt (by decide))⟩,pz.bq (by decide) (by decide),sz.bq (by decide) (by decide),uV (n:=b) (by rw[XG];exact hB) (aL lb (by decide)),dz.bq (by lia) (by decide),sz.dd dz (by decide),p1.bq (by lia) (by decide),p2.bq (by lia) (by decide),p1.dd p2 (by decide)⟩,(p1.add p2 (k:=2100) (by lia) (by lia)).bq (by decide) (by decide)⟩;unfold tops at hx;rw[WP]at hx;obtain⟨w,hw,rfl⟩:=YV.mp hx;exact uV (n:=8) (part w hw) (by decide)
theorem Zb{c:Nat}(hc:1<=c):∀{off:List (List bQ)},(∀ds∈off,ds.length<=c)->(sW off).length<=c^off.length
 |[],_=>aG 1
 |ds::off,h=>by
  have ih:=Zb hc (off:=off) λx hx=>h x (aJ _ hx);have l:∀(as:List (Option Nat)),((as.map λd=>(sW off).map λpl=>d::pl).flatten).length=as.length*(sW off).length:=λas=>by
   induction as with
   |nil=>simp
   |cons a as ih=>rw[List.map_cons,List.flatten_cons,aA,ak,ih,List.length_cons,Nat.add_mul,Nat.one_mul,Nat.add_comm]
  unfold sW;rw[l,List.length_cons,Nat.pow_succ,Nat.mul_comm];refine W1 ih ?_;split
  .exact hc
  .rw[ak,WJ];exact h ds (aO ..)
theorem abk{s:Rat}{off:List (List bQ)}{PN PD CQ N e:Nat}(hs:Shr s)(few:off.length<=100)(ob:∀ds∈off,∀o∈ds,OfB off.length PN PD CQ o)(h1:1<=PD)(h2:1<=CQ)(hc:CQ<=10^4)(hn:PN<=10^30)(hp:PD<=10^3)(hN:N=(PN+1)*(100*CQ*PD))(mb:(2*off.length*N)^off.length<=10^e)(he:e<=600)(nn:N<=NN)(le:e+e*off.length<=2000)(pls:(sW off).length<sizeLine):MnB s off N:=by
 have mn:(2*off.length*N)^off.length<=NN:=aL mb (XT (by decide) he);refine⟨hs.lo,hs.hi,few,λds dk o ho=>let b:=ob ds dk o ho;⟨b.lt,b.nn,b.one⟩,λpl bg=>aft hs few ob h1 h2 hc hN mn nn bg,λys yl yb=>?_,pls⟩;have yn:∀r∈ys,r.num.natAbs<=10^e:=λr hr=>aL (yb r hr).n mb;have yd:∀r∈ys,r.den<=10^e:=λr hr=>aL (yb r hr).d mb;have lc:cI 1 ys<=10^(e*off.length):=by
  have:=U4 ys 1 (10^e) (Nat.pow_pos (by decide)) yd;rw[Nat.one_mul,yl,<- Nat.pow_mul]at this;exact this
 refine⟨by lia,λr hr=>uV (yn r hr) (aL he (by decide)),uV (n:=e*off.length) (by rw[XG];exact lc) (by lia),λds dk o ho=>agm (t:=e+e*off.length) (b:=e*off.length) hs (ob ds dk o ho) hc hn hp (by unfold tops;rw[ak];exact yl) (λx hx=>?_) lc (by omega) (by lia)⟩;obtain⟨r,hr,rfl⟩:=YV.mp hx;rw[VX,XG,Up];exact W1 (yn r hr) (aL (Nat.div_le_self _ _) lc)
theorem ae4{m:Nat}(h:m<=6):(2*m*((10^30+1)*(100*4000*1000)))^m<=10^246:=by
 obtain rfl|rfl|rfl|rfl|rfl|rfl|rfl:m=0\/m=1\/m=2\/m=3\/m=4\/m=5\/m=6:=by lia
 all_goals decide +kernel
theorem acN{m:Nat}(h:m<=8):(2*m*((9+1)*(100*1*1)))^m<=10^40:=by
 obtain rfl|rfl|rfl|rfl|rfl|rfl|rfl|rfl|rfl:m=0\/m=1\/m=2\/m=3\/m=4\/m=5\/m=6\/m=7\/m=8:=by lia
 all_goals decide +kernel
def Small(m:Nat)(ae:List (List LD)):Prop:=m<=6\/(m<=8/\∀ds∈ae,∀d∈ds,d.pay.den=1/\d.pay.num.natAbs<=9/\∀p∈d.prs,p.2=1)
theorem acy{s:Rat}{m:Nat}{ae:List (List LD)}{off:List (List bQ)}(hs:Shr s)(hd:DSk m 4 ae)(sm:Small m ae)(ho:wR ae off):∃N,MnB s off N:=by
 have ol:off.length=m:=by rw[ho.len,hd.len]
 have fo:∀ds∈off,ds.length<=4:=λos ge=>by
  obtain⟨k,ek⟩:=aV ge;have lk:k<ae.length:=by rw[<- ho.len];exact(ao.mp ek).1
  obtain⟨tl,_,rfl⟩:=ho.at_ k _ os (aj lk) ek;have:=hd.few _ (aU lk);rw[ak,VY];lia
 have pl:=Zb (by decide:1<=4) fo;rcases sm with h|⟨h,ht⟩
 .have l:4^off.length<=4^8:=XT (by decide) (by lia);exact⟨_,abk (e:=246) hs (by lia) (by rw[ol];exact abF hd ho) (by decide) (by decide) (by decide) (by decide) (by decide) rfl (ae4 (aL (WG ol) h)) (by decide) (by decide +kernel) (by have:246*off.length<=246*6:=TU _ (aL (WG ol) h);lia) (Y3 (aL pl l) (by decide))⟩
 .have l:4^off.length<=4^8:=XT (by decide) (aL (WG ol) h);exact⟨_,abk (e:=40) hs (by lia) (by rw[ol];exact Sg hd ht ho) (by decide) (by decide) (by decide) (by decide) (by decide) rfl (acN (aL (WG ol) h)) (by decide) (by decide +kernel) (by have:40*off.length<=40*8:=TU _ (aL (WG ol) h);lia) (Y3 (aL pl l) (by decide))⟩
theorem Wk{ae:List (List LD)}{off:List (List bQ)}(ho:wR ae off){pl:List (Option Nat)}(h:PlD ae pl):PlT off pl:=by
 refine⟨by rw[h.len,ho.len],λk d os e1 e2=>?_⟩;have lk:k<ae.length:=by rw[<- ho.len];exact(ao.mp e2).1
 have ek:=aj lk;obtain⟨tl,g5,rfl⟩:=ho.at_ k _ os ek e2;have:=h.ok k d _ e1 ek;rw[ak,VY,g5,UV];exact this
noncomputable abbrev pT(a b:Int):T:=.tup [.int a,.int b]
theorem div_mul{a b:Int}(hb:0<b):Rat.divInt a b*(b:Rat)=(a:Rat):=by
 have:(b:Rat)≠0:=λz=>by have:=Rat.intCast_eq_zero_iff.mp z;lia
 rw[UP]
 grind
theorem cast_pos{b:Int}(hb:0<b):(0:Rat)<(b:Rat):=Rat.intCast_lt_intCast.mpr hb
theorem aeQ{a b c d:Int}(hb:0<b)(hd:0<d):Rat.divInt a b<Rat.divInt c d↔a*d<c*b:=by
 have e1:=div_mul (a:=a) hb;have e2:=div_mul (a:=c) hd;have pb:=cast_pos hb;have pd:=cast_pos hd;rw[<- Rat.intCast_lt_intCast,XV,XV,<- e1,<- e2];generalize Rat.divInt a b=x;generalize Rat.divInt c d=y;have pp:(0:Rat)<(b:Rat)*(d:Rat):=Rat.mul_pos pb pd;rw[show x*(b:Rat)*(d:Rat)=x*((b:Rat)*(d:Rat))from Rat.mul_assoc ..,show y*(d:Rat)*(b:Rat)=y*((b:Rat)*(d:Rat))by grind];exact(Rat.mul_lt_mul_right pp).symm
theorem div_eq{a b c d:Int}(hb:0<b)(hd:0<d):Rat.divInt a b=Rat.divInt c d↔a*d=c*b:=QY (WS hb) (WS hd)
noncomputable abbrev VV:Nat:=10^32
structure YsB(ys:List Rat):Prop where
 dn:∀y∈ys,y.den<=10^580
 hi:∀y∈ys,y<=(VV:Rat)
 lo:∀y∈ys,-(VV:Rat)<=y
theorem YsB.num{ys:List Rat}(h:YsB ys){y:Rat}(hy:y∈ys):y.num.natAbs<=10^612:=by
 refine aL (Ik (h.hi y hy) (h.lo y hy)) ?_;rw[show 10^612=VV*10^580 by unfold VV;rw[<- Up]];exact TU _ (h.dn y hy)
theorem YsB.z{ys:List Rat}(h:YsB ys){y:Rat}(hy:y∈ys):Rz 612 580 y:=⟨h.num hy,h.dn y hy⟩
theorem YsB.get{ys:List Rat}(h:YsB ys)(k:Nat):Rz 612 580 (ys.getD k 0)/\ys.getD k 0<=(VV:Rat)/\-(VV:Rat)<=ys.getD k 0:=by
 rw[au];cases e:ys[k]? with
 |none=>exact⟨⟨aZ _,Nat.pow_pos (by decide)⟩,by show(0:Rat)<=_;decide +kernel,by show _<=(0:Rat);decide +kernel⟩
 |some y=>have m:=aC e;exact⟨h.z m,h.hi y m,h.lo y m⟩
theorem ab0{a b:Int}{A:Nat}(hb:0<b)(h1:Rat.divInt a b<=(A:Rat))(h2 : -(A:Rat)<=Rat.divInt a b):a.natAbs<=A*b.toNat:=by
 have e:=div_mul (a:=a) hb;have pb:=cast_pos hb;have x:(a:Rat)<=(((A:Int)*b:Int):Rat):=by
  rw[<- e,XV];exact QP h1 (JP pb)
 have y:((-((A:Int)*b):Int):Rat)<=(a:Rat):=by
  rw[<- e,Rat.intCast_neg,XV];have:=QP h2 (JP pb);rw[Rat.neg_mul]at this;exact this
 have x:=Rat.intCast_le_intCast.mp x;have y:=Rat.intCast_le_intCast.mp y;have c:((A*b.toNat:Nat):Int)=(A:Int)*b:=by rw[TW,Int.toNat_of_nonneg (XY hb)]
 omega
def Ax(s:Rat)(y:Nat->Rat)(d:LD):Rat:=d.pay+s*dw d.prs y
theorem U8{y:Nat->Rat}{C:Rat}(hC:0<=C){ws:List (Nat×Rat)}(nn:∀w∈ws,0<=w.2)(one:(dw ws λ_=>1)<=1)(hi:∀k,y k<=C)(lo:∀k,-C<=y k):dw ws y<=C/\-C<=dw ws y:=by
 have a:=Xb (M:=C) (x:=y) (ws:=ws) λw hw=>⟨nn w hw,hi w.1⟩;have b:=Xb (M:=C) (x:=λk=>-(y k)) (ws:=ws) λw hw=>⟨nn w hw,by have:=lo w.1;grind⟩;rw[Mz]at b;rw[<- G6]at one;have c:Ef ws*C<=1*C:=QP one hC;constructor<;>grind
theorem aeK{as bs:List (Nat×Rat)}(nn:∀w∈as++bs,0<=w.2)(one:(dw (as++bs) λ_=>1)<=1):(dw as λ_=>1)<=1:=by
 rw[Il]at one;have:0<=dw bs λ_=>1:=by
  clear one
  induction bs with
  |nil=>exact VQ
  |cons w ws ih =>
   rw[cX];have:=ih λx hx=>nn x (by rcases Y1.mp hx with z|z;exact Tu _ z;exact aP _ (aJ _ z));have:=nn w (aP _ (aO ..))
   grind
 grind
open Rw (sg fY fG bW gD gQ Big sz)
def sU(s:Rat)(y:Nat->Rat)(ae:List (List LD))(pl:List (Option Nat))(k:Nat):Rat:=match(pl.getD k none).bind λd=>(ae.getD k [])[d]? with
 |none=>0
 |some d=>Ax s y d
theorem Wr{s:Rat}{y:Nat->Rat}{m:Nat}{d:LD}{t:Str}(h:LDk m d):Yu s y (UJ t d)=Ax s y d:=by
 obtain⟨q,q0,_,hq⟩:=h.all;unfold Yu Ax;rw[(GJ q0 hq).sum]
theorem acA{ae:List (List LD)}{off:List (List bQ)}(ho:wR ae off)(k d:Nat):∃t:Str,(off.getD k [])[d]?=((ae.getD k [])[d]?).map (UJ t):=by
 by_cases hk:k<ae.length
 .have e1:=aj hk;have e2:=aj (show k<off.length by rw[ho.len];exact hk);obtain⟨tl,l,eo⟩:=ho.at_ k _ _ e1 e2;rw[au,au,e1,e2];show ∃t,(off[k]'(by rw[ho.len];exact hk))[d]?=(ae[k][d]?).map (UJ t);rw[eo,aq];by_cases hd:d<ae[k].length
  .refine⟨tl[d]'(by lia),?_⟩;rw[aj (show d<(tl.zip ae[k]).length by rw[VY];lia),aj hd,List.getElem_zip]
   rfl
  .exact⟨⟨#[]⟩,by rw[aM (show(tl.zip ae[k]).length<=d by rw[VY];lia),aM (show ae[k].length<=d by exact VW hd)];rfl⟩
 .have e1:ae[k]?=none:=aM (VW hk);have e2:off[k]?=none:=aM (by rw[ho.len];exact VW hk);exact⟨⟨#[]⟩,by rw[au,au,e1,e2];rfl⟩
theorem Uq{s:Rat}{y:Nat->Rat}{m mo:Nat}{ae:List (List LD)}{off:List (List bQ)}(hd:DSk m mo ae)(ho:wR ae off){pl:List (Option Nat)}{k:Nat}(hk:k<pl.length):n8 s y ((chO off pl).getD k none)=sU s y ae pl k:=by
 have ek:=aj hk;rw[FP ek];unfold sU;rw[show pl.getD k none=pl[k]by rw[au,ek];rfl];cases pl[k]with
 |none =>
  show(0:Rat)+s*0=0
  grind
 |some d =>
  obtain⟨t,et⟩:=acA ho k d;show n8 s y ((off.getD k [])[d]?)=match(ae.getD k [])[d]? with|none=>0|some d=>Ax s y d
  rw[et];cases ed:(ae.getD k [])[d]? with
  |none =>
   show(0:Rat)+s*0=0
   grind
  |some x =>
   have lx:LDk m x:=by
    by_cases c:k<ae.length
    .rw[au,aj c]at ed;exact hd.ok _ (aU c) x (aC ed)
    .have:ae[k]?=none:=aM (VW c);rw[au,this]at ed;cases ed
   exact Wr lx
structure Opt(s:Rat)(m:Nat)(ae:List (List LD))(ys:List Rat):Prop where
 len:ys.length=m
 le:∀(k:Nat)ds,ae[k]?=some ds->∀d∈ds,Ax s (λj=>ys.getD j 0) d<=ys.getD k 0
 no:∀k,k<m->ae.getD k []=[]->ys.getD k 0=0
theorem V3{s:Rat}{m mo:Nat}{ae:List (List LD)}{ys:List Rat}(hd:DSk m mo ae)(h:Opt s m ae ys){pl:List (Option Nat)}(hp:PlD ae pl){k:Nat}(hk:k<m):sU s (λj=>ys.getD j 0) ae pl k<=ys.getD k 0:=by
 have lk:k<ae.length:=by rw[hd.len];exact hk
 have ek:=aj lk;have lp:k<pl.length:=by rw[hp.len];exact lk
 have ep:=aj lp;have ft:=hp.ok k _ _ ep ek;have gd:ae.getD k []=ae[k]:=by rw[au,ek];rfl
 unfold sU;rw[gd,show pl.getD k none=pl[k]by rw[au,ep];rfl];cases e:pl[k]with
 |none =>
  rw[e]at ft;have:ae[k].length=0:=of_decide_eq_true ft;rw[h.no k hk (by rw[gd];exact List.length_eq_zero_iff.mp this)];exact VQ
 |some d =>
  rw[e]at ft;have ld:d<ae[k].length:=of_decide_eq_true ft;show(match ae[k][d]? with|none=>0|some d=>Ax s _ d)<=_;rw[aj ld];exact h.le k _ ek _ (aU ld)
theorem abz{s:Rat}{m mo:Nat}{ae:List (List LD)}(s0:0<=s)(hd:DSk m mo ae){x y:Nat->Rat}(h:∀j,j<m->x j<=y j)(pl:List (Option Nat))(k:Nat):sU s x ae pl k<=sU s y ae pl k:=by
 unfold sU;cases e:(pl.getD k none).bind λd=>(ae.getD k [])[d]? with
 |none=>exact VQ
 |some d =>
  have ld:LDk m d:=by
   cases ep:pl.getD k none with
   |none=>rw[ep]at e;cases e
   |some c =>
    rw[ep]at e;have e:(ae.getD k [])[c]?=some d:=e;by_cases z:k<ae.length
    .rw[au,aj z]at e;exact hd.ok _ (aU z) d (aC e)
    .have:ae[k]?=none:=aM (VW z);rw[au,this]at e;cases e
  show Ax s x d<=Ax s y d;unfold Ax;have:=Mu (ws:=d.prs) (x:=x) (z:=y) λw hw=>⟨ld.nn w hw,h _ (ld.lt w hw)⟩;have:=Tx this s0
  grind
theorem aaX{s:Rat}{m mo M:Nat}{ae:List (List LD)}{off:List (List bQ)}(hd:DSk m mo ae)(ho:wR ae off){pl:List (Option Nat)}{ps:List PWs}(h:ZF s off M pl ps){p:PWs}(e:ps.getLast?=some p):Opt s m ae p.2:=by
 have mem:p∈ps:=List.mem_of_getLast? e;obtain⟨k1,k2,_⟩:=h.told.ok p mem;have ol:off.length=m:=by rw[ho.len,hd.len]
 have lst:=h.last p e;refine⟨by rw[k2.1,ol],λk ds ek x hx=>?_,λk hk e0=>?_⟩
 .have lk:k<ae.length:=(ao.mp ek).1;have lo:k<off.length:=by rw[ho.len];exact lk
  have eo:=aj lo;obtain⟨tl,g5,eos⟩:=ho.at_ k ds _ ek eo;have lp:k<p.1.length:=by rw[k1.len];exact lo
  have ep:=aj lp;have ft:=k1.ok k _ _ ep eo;have ol':off[k].length=ds.length:=by rw[eos,ak,VY];lia
  obtain⟨j,ej⟩:=aV hx;have lj:j<ds.length:=(ao.mp ej).1;have lj':j<off[k].length:=by rw[ol'];exact lj
  have eoj:off[k][j]=UJ (tl[j]'(by lia)) x:=by
   have:(off[k])[j]?=some (UJ (tl[j]'(by lia)) x):=by
    rw[eos,aq,aj (show j<(tl.zip ds).length by rw[VY];lia),List.getElem_zip];rw[aj lj]at ej;cases ej
    rfl
   rw[aj lj']at this;exact Option.some.inj this
  have lx:=hd.ok ds (aC ek) x hx;have yk:=k2.2 k lo;rw[FP ep]at yk;cases ed:p.1[k]with
  |none =>
   rw[ed]at ft;have:off[k].length=0:=of_decide_eq_true ft;lia
  |some c =>
   rw[ed]at ep yk;have lc:c<off[k].length:=by rw[ed]at ft;exact of_decide_eq_true ft
   obtain⟨b,eb,bet⟩:=lst.some k c _ ep eo;rw[ep]at eb;cases eb;have fh:oh s (tops (cI 1 p.2) p.2) (cI 1 p.2) off[k][j]<=oh s (tops (cI 1 p.2) p.2) (cI 1 p.2) off[k][c]:=by
    rcases bet with⟨le,_⟩|⟨lt,_⟩
    .have:=le _ (YV.mpr ⟨_,aU lj',rfl⟩);rw[au,aq,aj lc]at this;exact this
    .exact absurd lt (by grind)
   rw[G8,G8]at fh;have hB:=d9 p.2 VS;have pp:(0:Rat)<((cI 1 p.2:Nat):Rat):=by
    have:((0:Int):Rat)<(((cI 1 p.2:Nat):Int):Rat):=Rat.intCast_lt_intCast.mpr (by lia);exact this
   have fh:=Rat.not_lt.mp λlt=>absurd fh (Rat.not_le.mpr ((Rat.mul_lt_mul_right pp).mpr lt));rw[eoj,Wr lx]at fh;have yk:p.2.getD k 0=n8 s (λk=>p.2.getD k 0) ((off.getD k [])[c]?):=yk;rw[au (l:=off),eo]at yk;have yk:p.2.getD k 0=n8 s (λk=>p.2.getD k 0) (off[k][c]?):=yk;rw[aj lc]at yk;rw[yk];exact fh
 .have lo:k<off.length:=by rw[ol];exact hk
  have lp:k<p.1.length:=by rw[k1.len];exact lo
  rw[k2.2 k lo,Uq hd ho lp];unfold sU;rw[e0];cases p.1.getD k none<;>rfl
theorem Cq{s:Rat}{m mo:Nat}{ae:List (List LD)}{off:List (List bQ)}(s0:0<=s)(s1:s<1)(sh:∀ds∈off,∀o∈ds,ShB s off.length o.ways)(hd:DSk m mo ae)(ho:wR ae off){pl:List (Option Nat)}(hp:PlD ae pl){zs ys:List Rat}(hz:nZ s off pl zs)(h:Opt s m ae ys):∀k,k<m->zs.getD k 0<=ys.getD k 0:=λk hk=>by
 have ol:off.length=m:=by rw[ho.len,hd.len]
 have pt:=Wk ho hp;have:=sub_le (m:=off.length) (ws:=λi=>je ((chO off pl).getD i none)) s0 s1 (yR sh pt) (x:=λj=>zs.getD j 0-ys.getD j 0) (λi hi=>by
  have a:=hz.2 i hi;have b:=V3 hd h hp (k:=i) (aR hi (WG ol));rw[<- Uq hd ho (by rw[pt.len];exact hi)]at b;unfold n8 at a b;rw[Js];show zs.getD i 0-ys.getD i 0<=_
  grind) k (by lia)
 grind
open Rw (sg fY fG bW gD gQ Big vr)
theorem VN{ac:List (List Rat)}{N:Nat}(h:Sys ac N){y:Nat->Rat}(hy:∀r∈ac,sg (λj=>r.getD j 0*y j) ac.length=r.getD ac.length 0):∃D:Nat,0<D/\D<=(2*(ac.length+1)*N)^ac.length/\∀i,i<ac.length->(y i).den ∣ D:=by
 have row:∀l,l<ac.length->ac.getD l []∈ac:=λl hl=>by
  rw[au,aj hl];exact aU hl
 obtain⟨aw,⟨k0,hJ,f6⟩,bl,zr⟩:=Rw.Vy (p:=ac.length) (N:=N) (C:=λk l=>(iQ (ac.getD l [])).1.getD k 0) h.one λk l hk hl=>by
  have B:=h.lev _ (row l hl);rw[au];cases e:(iQ (ac.getD l [])).1[k]? with
  |none=>exact aZ _
  |some t=>exact B.top t (aC e)
 have zq:∀r∈ac,sg (λj=>r.getD j 0*(aw j:Rat)) (ac.length+1)=0:=λr hr=>by
  obtain⟨l,el⟩:=aV hr;have hl:=(ao.mp el).1;have er:ac.getD l []=r:=by rw[au,el];rfl
  have z:=zr l hl;rw[er]at z;have z':sg (λk=>((aw k*(iQ r).1.getD k 0:Int):Rat)) (ac.length+1)=0:=by rw[<- Rw.Hl,z];rfl
  have hB:=d9 r VS;have nB:(((iQ r).2:Int):Rat)≠0:=λw=>by
   have:(iQ r).2=0:=Rat.intCast_eq_zero_iff.mp w;have:((cI 1 r:Nat):Int)=0:=this;lia
  rw[bW (g:=λk=>(1/(((iQ r).2:Int):Rat))*((aw k*(iQ r).1.getD k 0:Int):Rat)) λj _=>?_,fG,z',Rat.mul_zero];rw[<- Iz r j,XV];unfold vr
  grind
 have last:∀(f:Nat->Rat),sg f (ac.length+1)=sg f ac.length+f ac.length:=λf=>rfl;have nm:aw ac.length≠0:=λz=>by
  have:=h.inj (λj=>if j<ac.length then(aw j:Rat)else 0) (λj hj=>ZZ (Tk hj)) λr hr=>by
   refine(bW λj hj=>?_).trans (zq r hr);by_cases c:j<ac.length
   .rw[ZY c]
   .rw[ZZ c,show j=ac.length by lia,z];rfl
  by_cases c:k0<ac.length
  .have w:=this k0 c;rw[ZY c]at w;exact f6 (Rat.intCast_eq_zero_iff.mp w)
  .exact f6 (by rw[show k0=ac.length by lia];exact z)
 have ey:∀i,i<ac.length->(aw ac.length:Rat)*y i+(aw i:Rat)=0:=λi hi=>by
  have:=h.inj (λj=>if j<ac.length then(aw ac.length:Rat)*y j+(aw j:Rat)else 0) (λj hj=>ZZ (Tk hj)) (λr hr=>by
   rw[last,ZZ (X9 _),Rat.mul_zero,Rat.add_zero];rw[bW (g:=λj=>(aw ac.length:Rat)*(r.getD j 0*y j)+r.getD j 0*(aw j:Rat)) λj hj=>by rw[ZY hj];grind,fY,fG,hy r hr];have:=zq r hr;rw[last]at this
   grind) i hi
  rw[ZY hi]at this;exact this
 have np:0<(aw ac.length).natAbs:=by lia
 refine⟨(aw ac.length).natAbs,np,bl _,λi hi=>(uU np).mpr ?_⟩;have e:=ey i hi;have nr:(aw ac.length:Rat)≠0:=λz=>nm (Rat.intCast_eq_zero_iff.mp z);rcases Int.natAbs_eq (aw ac.length)with c|c
 .refine⟨-(aw i),?_⟩;rw[<- c,UP,Rat.intCast_neg]
  grind
 .refine⟨aw i,?_⟩;rw[show(((aw ac.length).natAbs:Nat):Int)=-(aw ac.length)by lia,UP,Rat.intCast_neg]
  grind
theorem Shr.left{s:Rat}(h:Shr s):(1:Rat)<=(1-s)*100:=by
 have e:=(one_sub (a:=s.num) (b:=(s.den:Nat)) (jK s));rw[rd]at e;have h1:=(Rat.lt_iff s 1).mp h.hi;have h1:s.num*((1:Nat):Int)<1*(s.den:Int):=h1;have hd:=h.den;have dp:=s.den_pos;have m:=div_mul (a:=(s.den:Int)-s.num) (b:=(s.den:Nat)) (by lia);rw[<- e]at m;have a:((1:Int):Rat)<=(((s.den:Int)-s.num:Int):Rat):=Rat.intCast_le_intCast.mpr (by lia);have b:(((s.den:Nat):Int):Rat)<=((100:Int):Rat):=Rat.intCast_le_intCast.mpr (by lia);have p:(0:Rat)<=1-s:=by have:=h.hi;grind
 have c:=Tx b p;have i1:((1:Int):Rat)=1:=rfl;have i2:((100:Int):Rat)=100:=rfl;rw[m]at c;rw[i1]at a;rw[i2]at c;exact U2 a c
theorem Q7{r:Rat}{A:Nat}(h:r.num.natAbs<=A):r<=(A:Rat)/\-(A:Rat)<=r:=by
 have dp:=r.den_pos;constructor
 .refine(Rat.le_iff r (A:Rat)).mpr ?_;show r.num*((1:Nat):Int)<=(A:Int)*(r.den:Int);have:(A:Int)*1<=(A:Int)*(r.den:Int):=Int.mul_le_mul_of_nonneg_left (by lia) (Wp _);omega
 .refine(Rat.le_iff (-(A:Rat)) r).mpr ?_;show -(A:Int)*(r.den:Int)<=r.num*((1:Nat):Int);have:(A:Int)*1<=(A:Int)*(r.den:Int):=Int.mul_le_mul_of_nonneg_left (by lia) (Wp _);rw[Int.neg_mul];omega
theorem aaE{s p x:Rat}(hs:Shr s)(hp:p.num.natAbs<=10^30)(h1:x<=(VV:Rat))(h2 : -(VV:Rat)<=x):p+s*x<=(VV:Rat)/\-(VV:Rat)<=p+s*x:=by
 obtain⟨a,b⟩:=Q7 hp;have l:=hs.left;have c1:=Tx h1 hs.lo;have c2:=Tx h2 hs.lo;have v:(VV:Rat)=100*((10^30:Nat):Rat):=by decide +kernel
 have pp:(0:Rat)<=((10^30:Nat):Rat):=by decide +kernel
 have d:=QP l pp;constructor<;>grind
theorem XH{m PN PD CQ:Nat}{s:Rat}{c:Nat->Option bQ}{y:Nat->Rat}(hs:Shr s)(hc:∀i,i<m->CoB m PN PD CQ (c i))(hn:PN<=10^30)(hy:∀i,i<m->y i=n8 s y (c i)):∀i,i<m->y i<=(VV:Rat)/\-(VV:Rat)<=y i:=λi hi=>by
 have vp:(0:Rat)<=(VV:Rat):=by decide +kernel
 have cst:∀(C:Rat)(ws:List (Nat×Rat)),dw ws (λ_=>C)=C*Ef ws:=λC ws=>by
  induction ws with
  |nil=>show(0:Rat)=C*0;grind
  |cons w ws ih=>rw[cX,zm,ih];grind
 have l:=hs.left;have v:(VV:Rat)=100*((10^30:Nat):Rat):=by decide +kernel
 have pp:(0:Rat)<=((10^30:Nat):Rat):=by decide +kernel
 have d:=QP l pp;have da:∀k,k<m->(jV (c k)<=((10^30:Nat):Rat)/\-((10^30:Nat):Rat)<=jV (c k))/\s*((VV:Rat)*Ef (je (c k)))<=s*(VV:Rat):=λk hk=>by
  refine⟨Q7 (aL (hc k hk).pn hn),?_⟩;have one:=(CoB.sh (s:=s) (hc k hk)).one;have:=Tx one vp;have:=Tx this hs.lo
  grind
 constructor
 .have:=sub_le (m:=m) (ws:=λi=>je (c i)) hs.lo hs.hi (λi hi=>(hc i hi).sh) (x:=λj=>y j-(VV:Rat)) (λk hk=>by
   rw[Js,cst];have e:=hy k hk;unfold n8 at e;obtain⟨⟨a,b⟩,g⟩:=da k hk;show y k-(VV:Rat)<=_
   grind) i hi
  grind
 .have:=sub_le (m:=m) (ws:=λi=>je (c i)) hs.lo hs.hi (λi hi=>(hc i hi).sh) (x:=λj=>-(y j)-(VV:Rat)) (λk hk=>by
   rw[Js (λj=>-(y j)),cst,Mz];have e:=hy k hk;unfold n8 at e;obtain⟨⟨a,b⟩,g⟩:=da k hk;show -(y k)-(VV:Rat)<=_
   grind) i hi
  grind
def DR:ST:=λts q=>∃a b c d:Int,ts=[pT a b,pT c d]/\0<b/\0<d/\(Bd a/\Bd b/\Bd c/\Bd d)/\q (.fz (.bl (decide (Rat.divInt a b<Rat.divInt c d))))
theorem Yd(F:Fun K yE yE Pz f fd):cj P w K mg base CX0 1 f fd yK (spT K DR):=by
 refine F.okT ZC (λts R hP=>by obtain⟨_,_,_,_,e,_⟩:=hP;exact e ▸ rfl) λaf A outer s H E hr=>?_;refine⟨_,(bG (bM (nW vK (bL cG (bJ (qv 0) bA) (bJ (qv 1) bA)) (bL cG (bJ (qv 1) bA) (bJ (qv 0) bA))))),?_⟩;rintro _ R ⟨a,b,c,d,rfl,hb,hd,⟨ba,bb,bc,bd⟩,q⟩;refine⟨⟨ba,bd⟩,⟨bc,bb⟩,?_⟩;rw[decide_eq_decide.mpr (aeQ hb hd)]at q;exact q
def R3:ST:=λts q=>∃a b c d:Int,ts=[pT a b,pT c d]/\0<b/\0<d/\(Bd a/\Bd b/\Bd c/\Bd d)/\q (.fz (.bl (decide (Rat.divInt a b=Rat.divInt c d))))
theorem YW(F:Fun K GQ GQ s_same f fd):cj P w K mg base CX0 1 f fd Hu (spT K R3):=by
 refine F.okT adv (λts R hP=>by obtain⟨_,_,_,_,e,_⟩:=hP;exact e ▸ rfl) λaf A outer s H E hr=>?_;refine⟨_,(bG (bM (nW (go_eq hr.units) (bL cG (bJ (qv 0) bA) (bJ (qv 1) bA)) (bL cG (bJ (qv 1) bA) (bJ (qv 0) bA))))),?_⟩;rintro _ R ⟨a,b,c,d,rfl,hb,hd,⟨ba,bb,bc,bd⟩,q⟩;refine⟨⟨ba,bd⟩,⟨bc,bb⟩,?_⟩;rw[decide_eq_decide.mpr (div_eq hb hd)]at q;exact q
def Hg:ST:=λts q=>∃(s:Rat)(m:Nat)(d:LD)(ys:List Rat),ts=[frR s,ldT d,.lst (ys.map frR)]/\Shr s/\LDk m d/\ys.length=m/\YsB ys/\∀a b:Int,0<b->Bd a->Bd b->Rat.divInt a b=Ax s (λk=>ys.getD k 0) d->q (.fz (pT a b))
theorem acr(F:Fun K zA zA T4 f fd)(T:Txt K mg D):cj P w K mg base CX0 1 f fd zf (spT K Hg):=by
 refine F.okT m_ (λts R hP=>by obtain⟨_,_,_,_,e,_⟩:=hP;exact e ▸ rfl) λaf A outer s H E hr=>?_;refine⟨_,(bF (bO 3 m_.nd (Or.inl rfl) bA)
  (bF (bO 4 m_.nd (Or.inl rfl) bA)
  (bF (dJ VZ rfl (cH (bJ (qv 1) bA)) (fD (n:=2) rfl (bU (b_ (n:=99) 5 m_.nd (Or.inl rfl)) (bU (b_ (n:=99) 6 m_.nd (Or.inl rfl)) dO)))
  (bF (bO 7 m_.nd (Or.inl rfl) (bL cG (bJ (qv 6) bA) (bJ (bJ (qv 2) (qv 5)) bA)))
  (bF (bO 3 m_.nd (Or.inl rfl) (bL cR (bL cG (qv 3) (qv 7)) (bL cG (bL cG (bJ (qv 6) bA) (bJ (bJ (qv 2) (qv 5)) bA)) (qv 4))))
  (bG (bO 4 m_.nd (Or.inl rfl) (bL cG (qv 4) (qv 7)))))))
  (bF (bO 3 m_.nd (Or.inl rfl) (bL cG (qv 3) (bJ (qv 0) bA)))
  (bF (bO 4 m_.nd (Or.inl rfl) (bL cG (qv 4) (bJ (qv 0) bA)))
  (bG (bM (dg (bx (bL cR (bL cG (bJ (bJ (qv 1) bA) bA) (qv 4)) (bL cG (qv 3) (bJ (bJ (qv 1) bA) bA))) (bx (bL cG (qv 4) (bJ (bJ (qv 1) bA) bA)) bC)))))))))),?_⟩
 rintro _ R ⟨s,m,d,ys,rfl,hs,hd,yl,hy,q⟩;obtain⟨qq,q0,q1,hq⟩:=hd.all;have one:(dw d.prs λ_=>1)<=1:=by rw[zx,hd.one];exact VQ
 have few:=hd.few;have cz:∀p∈d.prs,Rz 4 4 p.2:=λp hp=>by
  have a:=Ik (r:=p.2) (A:=1) (by
   have:=tR hd.nn hp;exact U2 this one) (by have:=hd.nn p hp;rw[wL];grind)
  have:=UY q0 (hq p hp).2.2;exact⟨aL a (by lia),by lia⟩
 have pb:∀{a b:Int}{k:Nat},k<=4->0<b->b.toNat<=10^(584*k)->Rat.divInt a b<=(VV:Rat)->-(VV:Rat)<=Rat.divInt a b->Bd a/\Bd b/\a.natAbs<=10^(32+584*k):=λ{a b k}hk h0 h1 h2 h3=>by
  have x:=ab0 h0 h2 h3;have y:a.natAbs<=10^(32+584*k):=aL x (by rw[Up];exact TU _ h1);exact⟨uV y (by lia),uV (n:=584*k) (by lia) (by lia),y⟩
 refine f9 nwT d.prs (λas o=>∃(t b:Int)(x5 x6 x7:OT),o=[.fz (frR s),.fz (ldT d),.fz (.lst (ys.map frR)),.fz (.int t),.fz (.int b),x5,x6,x7]/\0<b/\b.toNat<=10^(584*as.length)/\Rat.divInt t b=dw as λk=>ys.getD k 0) ⟨0,1,.und,.und,.und,rfl,by decide,by simp,rfl⟩ ?_ ?_
 .rintro as p bs _ e ⟨t,b,x5,x6,x7,rfl,b0,b1,ev⟩;have pm:p∈d.prs:=by rw[e];simp
  obtain⟨p1,p2,_⟩:=hq p pm;have al:as.length+1<=d.prs.length:=by rw[e];simp
  have ey:ys[p.1]?=some (ys.getD p.1 0):=by rw[au,aj (by lia)];rfl
  obtain⟨yz,yh,yo⟩:=hy.get p.1;have c:=cz p pm;have va:=U8 (y:=λk=>ys.getD k 0) (C:=(VV:Rat)) (by decide +kernel) (ws:=as) (λw hw=>hd.nn w (by rw[e];exact Tu _ hw)) (aeK (bs:=p::bs) (by rw[<- e];exact hd.nn) (by rw[<- e];exact one)) (λk=>(hy.get k).2.1) λk=>(hy.get k).2.2;rw[<- ev]at va;obtain⟨bt,bb,_⟩:=pb (k:=as.length) (by lia) b0 b1 va.1 va.2;have dp:=p.2.den_pos;have dy:=(ys.getD p.1 0).den_pos;have part:((p.2.den:Int)*((ys.getD p.1 0).den:Int)).natAbs<=10^584:=by
   rw[VX,XG,XG,show 10^584=10^4*10^580 by rw[<- Up]];exact W1 c.2 yz.2
  have pp:0<(p.2.den:Int)*((ys.getD p.1 0).den:Int):=XZ (by lia) (by lia);have ct:(p.2.num*(ys.getD p.1 0).num).natAbs<=10^616:=by
   rw[VX,show 10^616=10^4*10^612 by rw[<- Up]];exact W1 c.1 yz.1
  have cb:=c.bq (by decide) (by decide);have yb:=yz.bq (by decide) (by decide);refine⟨rfl,_,dM ey,⟨cb.2,yb.2⟩,⟨bt,uV part (by decide)⟩,_,dM ey,⟨cb.1,yb.1⟩,⟨uV ct (by decide),bb⟩,⟨bb,uV part (by decide)⟩,t*((p.2.den:Int)*((ys.getD p.1 0).den:Int))+p.2.num*(ys.getD p.1 0).num*b,b*((p.2.den:Int)*((ys.getD p.1 0).den:Int)),.fz (.int (p.1:Nat)),.fz (frR p.2),.fz (.int ((p.2.den:Int)*((ys.getD p.1 0).den:Int))),rfl,XZ b0 pp,?_,?_⟩
  .rw[aA,List.length_singleton,Nat.mul_add,Up,Int.toNat_mul (XY b0) (XY pp)];exact W1 b1 (by rw[Nat.mul_one];lia)
  .rw[Il,VD,<- ev,<- JS _ _ (WS b0) (WS pp),<- QU,rd,rd]
 .rintro _ ⟨t,b,x5,x6,x7,rfl,b0,b1,ev⟩;have va:=U8 (y:=λk=>ys.getD k 0) (C:=(VV:Rat)) (by decide +kernel) (ws:=d.prs) hd.nn one (λk=>(hy.get k).2.1) λk=>(hy.get k).2.2;rw[<- ev]at va;obtain⟨bt,bb,tn⟩:=pb (k:=d.prs.length) few b0 b1 va.1 va.2;have sz:=M8 hs;have sb:=sz.bq (by decide) (by decide);have pz:Rz 30 3 d.pay:=⟨hd.pay.num,hd.pay.den⟩;have pq:=pz.bq (by decide) (by decide);have sd:=s.den_pos;have pd:=d.pay.den_pos;have b4:b.natAbs<=10^2336:=aL (show b.natAbs<=10^(584*d.prs.length)by lia) (XT (by decide) (by lia));have t4:t.natAbs<=10^2368:=aL tn (XT (by decide) (by lia));have bs:(b*(s.den:Int)).natAbs<=10^2338:=by
   rw[VX,XG,show 2338=2336+2 from rfl,Up];exact W1 b4 sz.2
  have ts:(t*s.num).natAbs<=10^2370:=by
   rw[VX,show 2370=2368+2 from rfl,Up];exact W1 t4 sz.1
  refine⟨⟨bt,sb.1⟩,⟨bb,sb.2⟩,⟨pq.1,uV bs (by decide)⟩,⟨uV ts (by decide),pq.2⟩,⟨uV bs (by decide),pq.2⟩,q _ _ (XZ (XZ b0 (by lia)) (by lia)) ?_ ?_ ?_⟩
  .refine uV (n:=2374) ?_ (by decide);have x:(d.pay.num*(b*(s.den:Int))).natAbs<=10^2373:=by
    rw[VX];exact aL (W1 pz.1 bs) (by rw[<- Up];exact XT (by decide) (by decide))
   have y:(t*s.num*(d.pay.den:Int)).natAbs<=10^2373:=by
    rw[VX,XG,show 2373=2370+3 from rfl,Up];exact W1 ts pz.2
   have z:=Int.natAbs_add_le (d.pay.num*(b*(s.den:Int))) (t*s.num*(d.pay.den:Int));rw[show 2374=2373+1 from rfl,Nat.pow_succ];refine aL z ?_;lia
  .refine uV (n:=2341) ?_ (by decide);rw[VX,XG,show 2341=2338+3 from rfl,Up];exact W1 bs pz.2
  .unfold Ax;rw[Int.mul_comm (b*(s.den:Int)),<- JS _ _ (jK d.pay) (lU (WS b0) (jK s)),rd,<- QU,rd,ev,XU]
noncomputable def Iu(off:List (List bQ)):List (Option Nat):=off.map λds=>if 0<ds.length then some 0 else none
theorem Zn(off:List (List bQ)):PlT off (Iu off):=by
 refine⟨ak ..,λk d ds e1 e2=>?_⟩;unfold Iu at e1;rw[aq,e2]at e1;cases e1;show xq (if 0<ds.length then some 0 else none) ds.length=true;split
 .rename_i h;exact Zs h
 .rename_i h;exact Zs (by lia)
def zO(D:Adr):ST:=λts q=>∃(s:Rat)(ns:Φ)(off:List (List bQ)),ts=[hlT D s ns off]/\Om ns off/\q (.l1 ((Iu off).map dT))
theorem KY(F:Fun K nu nu ou f fd)(T:Txt K mg D)(fL:OkI P w K mg base CX0 1 D.Hall_size iI (spT K (oV D)))(cY:OkI P w K mg base CX0 3 D.Hall_offers eX (spT K (tL D))):cj P w K mg base CX0 4 f fd mQ (spT K (zO D)):=by
 refine F.okT J8 (λts R hP=>by obtain⟨_,_,_,e,_⟩:=hP;exact e ▸ rfl) λaf A outer s H E hr=>?_;refine⟨_,(bG (bM (dH (bH ou) vm vm ["room"] (c7 (by rfl) T.dZ (bx (Dy (qv 0) T.jW T.u5 fL hr.md (KS:=mV)) bC)) (eU (i:=0)) cF (R0 (bY Jc (bR cN (by rfl) T.dF WH (bx (Dp (qv 1) T.jW T.lG cY hr.md (bx (qv 0) bC) (KS:=mV)) bC)) bA) bA gA)))),?_⟩;rintro _ R ⟨s,ns,off,rfl,h,q⟩;have few:=h.few;have hl:=h.len;have em:(List.range ns.length).map (λk=>dT (if 0<(off.getD k []).length then some 0 else none))=(Iu off).map dT:=by
  refine Q3 λk=>?_;unfold Iu;rw[aq,aq,aq];by_cases hk:k<ns.length
  .rw[VT hk,aj (show k<off.length by lia)];show some (dT (if 0<(off.getD k []).length then some 0 else none))=some (dT (if 0<off[k].length then some 0 else none));rw[show off.getD k []=off[k]by rw[au,aj (show k<off.length by lia)];rfl]
  .rw[aM (by rw[WJ];exact VW hk),aM (show off.length<=k by lia)]
   rfl
 refine⟨⟨rfl,rfl⟩,s,ns,off,rfl,⟨by lia,by lia⟩,by rw[rng,ak,WJ];exact aL (show _<=1000 by lia) (by decide),O5 (λk=>dT (if 0<(off.getD k []).length then some 0 else none)) ns.length (λk hk N M hN=>?_) ?_⟩
 .have ek:=aj (show k<off.length by lia);rw[au,ek]at hN;have hN:N (dT (if 0<off[k].length then some 0 else none)):=hN;refine⟨⟨rfl,rfl⟩,s,ns,off,k,_,rfl,h,ek,?_⟩;by_cases c:0<off[k].length
  .rw[ZY c]at hN;exact swT (Zs (by rw[ak];lia)) hN
  .rw[ZZ c]at hN;exact swF (Zp (by rw[ak];lia)) hN
 .rw[em];exact q
def Ii(D:Adr):ST:=λts q=>∃(s:Rat)(ns:Φ)(off:List (List bQ))(N:Nat),ts=[hlT D s ns off]/\Om ns off/\MnB s off N/\∀(ps:List PWs)(p:PWs),ZF s off ((2*off.length*N)^off.length) (Iu off) ps->ps.getLast?=some p->q (.fz (pwT p))
theorem Vo(F:Fun K vd vd Fd f fd)(T:Txt K mg D)(uq:OkT P w K mg base 4 nu mQ (zO D))(mq:OkT P w K mg base 10 nP nF (vN D)):cj P w K mg base CX0 11 f fd u9 (spT K (Ii D)):=by
 refine F.okT Ve (λts R hP=>by obtain⟨_,_,_,_,e,_⟩:=hP;exact e ▸ rfl) λaf A outer s H E hr=>?_;refine⟨_,(bG (bM (bJ (bI mq hr.md (by rfl) (bx (qv 0) (bx (bI uq hr.md (by rfl) (bx (qv 0) bC)) bC))) (Aa bA)))),?_⟩;rintro _ R ⟨s,ns,off,N,rfl,h,B,q⟩;refine⟨s,ns,off,rfl,h,s,ns,off,Iu off,N,rfl,h,Zn off,B,λps hm=>?_⟩;cases e:ps.getLast? with
 |none=>exact absurd (List.getLast?_eq_none_iff.mp e) hm.ne
 |some p=>exact⟨_,Hr e,q ps p hm e⟩
theorem ZG{ae:List (List LD)}{k:Nat}{ds:List LD}(e:ae[k]?=some ds):ixT (ae.map λds=>L2.T.lst (ds.map ldT)) (k:Nat)=some (.lst (ds.map ldT)):=dM (h:=λds=>L2.T.lst (ds.map ldT)) e
theorem aaO{s:Rat}{y:Nat->Rat}{ae:List (List LD)}{pl:List (Option Nat)}{k:Nat}{ds:List LD}{c:Option Nat}(ek:ae[k]?=some ds)(ep:pl[k]?=some c):sU s y ae pl k=match c.bind λd=>ds[d]? with|none=>0|some d=>Ax s y d:=by
 unfold sU;rw[au,au,ek,ep]
 rfl
def Jq:ST:=λts q=>∃(s:Rat)(m mo:Nat)(ae:List (List LD))(pl:List (Option Nat))(ys:List Rat),ts=[.lst (ys.map frR),frR s,vH ae,.lst (pl.map dT)]/\Shr s/\DSk m mo ae/\m<=100/\PlD ae pl/\ys.length=m/\YsB ys/\(∀k,k<m->ys.getD k 0=sU s (λj=>ys.getD j 0) ae pl k)/\q (.fz (.bl true))
theorem aae(F:Fun K xu xu Oe f fd)(T:Txt K mg D)(ug:OkT P w K mg base 3 m9 nq zK)(uF:OkT P w K mg base 1 zA zf Hg)(VH:OkT P w K mg base 1 GQ Hu R3):cj P w K mg base CX0 4 f fd wJ (spT K Jq):=by
 refine F.okT Dr (λts R hP=>by obtain⟨_,_,_,_,_,_,e,_⟩:=hP;exact e ▸ rfl) λaf A outer s H E hr=>?_;refine⟨_,(bF (cB (dB (cV (bI ug hr.md (by rfl) (bx (qv 0) (bx (bR cN (by rfl) T.dF WH (bx (qv 2) bC)) bC)))))
  (bG (bM j9))
  bT)
  (bF (dJ VZ rfl (c7 (by rfl) T.dZ (bx (bR cN (by rfl) T.dF WH (bx (qv 2) bC)) bC)) (b_ (n:=99) 4 Dr.nd (Or.inl rfl))
  (bF (bO 5 Dr.nd (Or.inl rfl) (dg (bx bA (bx bA bC))))
  (bF (cB (bY Bj (bJ (qv 3) (qv 4)) gA)
  (bG (bO 5 Dr.nd (Or.inl rfl) (bI uF hr.md (by rfl) (bx (qv 1) (bx (bJ (bJ (qv 2) (qv 4)) (bJ (qv 3) (qv 4))) (bx (qv 0) bC))))))
  bT)
  (bG (cB (dB (cV (bI VH hr.md (by rfl) (bx (bJ (qv 0) (qv 4)) (bx (qv 5) bC)))))
  (bG (bM j9))
  bT)))))
  (bG (bM j9)))),?_⟩
 rintro _ R ⟨s,m,mo,ae,pl,ys,rfl,hs,hd,m1,hp,yl,hy,ok,q⟩;have dl:(ae.map λds=>L2.T.lst (ds.map ldT)).length=m:=by rw[ak,hd.len]
 refine⟨ys,_,rfl,by rw[dl];exact yl,by rw[dl];exact aL m1 (by decide),⟨by rw[dl];lia,by rw[dl];lia⟩,ju (λk o=>∃x y,o=[.fz (.lst (ys.map frR)),.fz (frR s),.fz (vH ae),.fz (.lst (pl.map dT)),x,y]) ⟨_,_,rfl⟩ ?_ ?_⟩
 .rintro k _ hk ⟨x,y,rfl⟩;have hk:k<m:=by rw[dl]at hk;lia
  have lk:k<ae.length:=by rw[hd.len];exact hk
  have ek:=aj lk;have lp:k<pl.length:=by rw[hp.len];exact lk
  have ep:=aj lp;have ey:ys[k]?=some (ys.getD k 0):=by rw[au,aj (by lia)];rfl
  have yb:=(hy.get k).1.bq (by decide) (by decide);have de:=ok k hk;rw[aaO ek ep]at de;have ft:=hp.ok k _ _ ep ek;have yp:=(ys.getD k 0).den_pos;dsimp only[hName];refine sq2 (λo=>∃a b:Int,o=[.fz (.lst (ys.map frR)),.fz (frR s),.fz (vH ae),.fz (.lst (pl.map dT)),.fz (.int (k:Nat)),.fz (pT a b)]/\0<b/\Bd a/\Bd b/\Rat.divInt a b=ys.getD k 0) ?_ λY go=>?_
  .rintro _ ⟨a,b,rfl,b0,ba,bb,ev⟩;refine⟨_,dM ey,_,_,a,b,rfl,by lia,b0,⟨yb.1,yb.2,ba,bb⟩,swF ?_ ⟨_,_,rfl⟩⟩;rw[rd,ev,Zs rfl]
   rfl
  .refine⟨_,dM ep,?_⟩;cases c:pl[k]with
   |none =>
    rw[c]at de;exact go _ ⟨0,1,rfl,by decide,fV (by decide),fV (by decide),by rw[de];exact TK _⟩
   |some j =>
    rw[c]at de ft ep;have lj:j<ae[k].length:=of_decide_eq_true ft;have ej:=aj lj;have de:ys.getD k 0=match ae[k][j]? with|none=>0|some d=>Ax s _ d:=de
    rw[ej]at de;refine⟨_,ZG ek,_,dM ep,?_⟩;refine⟨_,dM ej,s,m,ae[k][j],ys,rfl,hs,hd.ok _ (aU lk) _ (aU lj),yl,hy,λa b b0 ba bb ev=>go _ ⟨a,b,rfl,b0,ba,bb,ev.trans de.symm⟩⟩
 .rintro _ ⟨x,y,rfl⟩;exact q
def DP:ST:=λts q=>∃(c:Option Nat)(ds:List LD),ts=[dT c,.lst (ds.map ldT)]/\xq c ds.length=true/\q (.fz (.bl true))
theorem PK(F:Fun K pL pL vW f fd)(T:Txt K mg D):cj P w K mg base CX0 1 f fd oE (spT K DP):=by
 refine F.okT Ml (λts R hP=>by obtain⟨_,_,e,_⟩:=hP;exact e ▸ rfl) λaf A outer s H E hr=>?_;refine⟨_,(bF (cB (bY (go_eq hr.units) (bR cN (by rfl) T.dF WH (bx (qv 1) bC)) bA)
  (bG (bM (nW Fg (qv 0) gA)))
  bT)
  (bG (bM (yI (j6 .int (qv 0) (by rfl) T.cT (by rfl) T.Xi boot_int) (yI (VR (j6 .bool (qv 0) (by rfl) T.cT (by rfl) T.V1 boot_bool)) (Fe (Ju LC vK bA (qv 0) (bR cN (by rfl) T.dF WH (bx (qv 1) bC))))))))),?_⟩
 rintro _ R ⟨c,ds,rfl,h,q⟩;by_cases e:ds.length=0
 .refine swT (Zs (by rw[ak];lia)) ?_;cases c with
  |none=>exact q
  |some d=>have:d<ds.length:=of_decide_eq_true h;omega
 .refine swF (Zp (by rw[ak];lia)) ?_;cases c with
  |none=>have:ds.length=0:=of_decide_eq_true h;lia
  |some d =>
   have ld:d<ds.length:=of_decide_eq_true h;rw[show true=decide ((d:Int)<((ds.map ldT).length:Nat))from(Zs (by rw[ak];lia)).symm]at q;exact q
theorem O1{zs:List Rat}{m k:Nat}(l:zs.length=m)(hk:k<m):zs[k]?=some (zs.getD k 0):=by rw[au,aj (by lia)];rfl
def zQ:ST:=λts q=>∃(m:Nat)(zs ys:List Rat),ts=[.lst (zs.map frR),.lst (ys.map frR)]/\zs.length=m/\ys.length=m/\m<=100/\YsB zs/\YsB ys/\(∀k,k<m->zs.getD k 0<=ys.getD k 0)/\q (.fz (.bl true))
theorem JZ(F:Fun K mW mW oJ f fd)(T:Txt K mg D)(yX:OkT P w K mg base 1 yE yK DR):cj P w K mg base CX0 2 f fd mJ (spT K zQ):=by
 refine F.okT Ke (λts R hP=>by obtain⟨_,_,_,e,_⟩:=hP;exact e ▸ rfl) λaf A outer s H E hr=>?_;refine⟨_,(bG (bM (VR (bR (aeV rfl) (by rfl) T.ahl boot_any (bx (dH (bH oJ) uI uI ["_law_one","_law_high"] (DX (by rfl) T.Lk (bx (qv 0) (bx (qv 1) bC))) (fD (n:=2) rfl (bU (eU (i:=0)) (bU (eU (i:=1)) dO))) cF (bI yX hr.md (by rfl) (bx (qv 1) (bx (qv 0) bC)))) bC))))),?_⟩;rintro _ R ⟨m,zs,ys,rfl,l1,l2,m1,hz,hy,le,q⟩;show(Aj (zs.map frR) (ys.map frR)).length<=sizeLine/\iB _ _ _ _ (Aj (zs.map frR) (ys.map frR)) _;rw[Bf];refine⟨by rw[ak,VY];exact aL (show _<=1000 by lia) (by decide),comp_map (λp:Rat×Rat=>.tup [frR p.1,frR p.2]) (λ_=>.bl false) (zs.zip ys) (λp hp N M hN=>?_) ⟨(zs.zip ys).map λ_=>false,by rw[WP];rfl,?_⟩⟩
 .obtain⟨k,ek⟩:=aV hp;obtain⟨e1,e2⟩:=List.getElem?_zip_eq_some.mp ek;have hk:k<m:=by rw[<- l1];exact(ao.mp e1).1
  have b1:=(hz.z (aC e1)).bq (by decide) (by decide);have b2:=(hy.z (aC e2)).bq (by decide) (by decide);have l:=le k hk;rw[au,au,e1,e2]at l;have l:p.1<=p.2:=l;have d1:=p.1.den_pos;have d2:=p.2.den_pos;refine⟨rfl,_,_,_,_,rfl,by lia,by lia,⟨b2.1,b2.2,b1.1,b1.2⟩,?_⟩;rw[rd,rd,Zp (Rat.not_lt.mpr l)];exact hN
 .rw[show true = !(((zs.zip ys).map λ_=>false).any λb=>b)by simp]at q;exact q
def Wa:ST:=λts q=>∃(s:Rat)(m mo:Nat)(ae:List (List LD))(p:PWs),ts=[pwT p,frR s,vH ae]/\Shr s/\DSk m mo ae/\m<=100/\PlD ae p.1/\YsB p.2/\Opt s m ae p.2/\(∀k,k<m->p.2.getD k 0=sU s (λj=>p.2.getD j 0) ae p.1 k)/\q (.fz (.bl true))
theorem adC(F:Fun K G_ G_ MJ f fd)(T:Txt K mg D)(yL:OkT P w K mg base 1 pL oE DP)(yP:OkT P w K mg base 4 xu wJ Jq)(yX:OkT P w K mg base 1 yE yK DR)(uF:OkT P w K mg base 1 zA zf Hg):cj P w K mg base CX0 5 f fd G9 (spT K Wa):=by
 refine F.okT Qs (λts R hP=>by obtain⟨_,_,_,_,_,e,_⟩:=hP;exact e ▸ rfl) λaf A outer s H E hr=>?_;refine⟨_,(bF (cB (QW.qt (iZ (dB (cV (j6 .tuple (qv 0) (by rfl) T.cT (by rfl) T.O8 boot_tuple))) (iZ (bY (nQ hr.units) (bR cN (by rfl) T.dF WH (bx (qv 0) bC)) bA) (iZ (dB (cV (j6 .list (bJ (qv 0) bA) (by rfl) T.cT (by rfl) T.uo boot_list))) (gR (bY (nQ hr.units) (bR cN (by rfl) T.dF WH (bx (bJ (qv 0) bA) bC)) (bR cN (by rfl) T.dF WH (bx (qv 2) bC))))))))
  (bG (bM j9))
  bT)
  (bF (cB (dB (cV (bR (Uu rfl) (by rfl) T.aas boot_all (bx (dH (bH MJ) Vu Vu ["_law_found","_law_doors_here"] (DX (by rfl) T.Lk (bx (bJ (qv 0) bA) (bx (qv 2) bC))) (fD (n:=2) rfl (bU (eU (i:=0)) (bU (eU (i:=1)) dO))) cF (bI yL hr.md (by rfl) (bx (qv 0) (bx (qv 1) bC)))) bC))))
  (bG (bM j9))
  bT)
  (bF (cB (dB (cV (bI yP hr.md (by rfl) (bx (bJ (qv 0) bA) (bx (qv 1) (bx (qv 2) (bx (bJ (qv 0) bA) bC)))))))
  (bG (bM j9))
  bT)
  (bF (dJ VZ rfl (c7 (by rfl) T.dZ (bx (bR cN (by rfl) T.dF WH (bx (qv 2) bC)) bC)) (b_ (n:=99) 3 Qs.nd (Or.inl rfl))
  (bG (dJ VZ rfl (cH (bJ (qv 2) (qv 3))) (b_ (n:=99) 4 Qs.nd (Or.inl rfl))
  (bG (cB (cV (bI yX hr.md (by rfl) (bx (bJ (bJ (qv 0) bA) (qv 3)) (bx (bI uF hr.md (by rfl) (bx (qv 1) (bx (qv 4) (bx (bJ (qv 0) bA) bC)))) bC))))
  (bG (bM j9))
  bT)))))
  (bG (bM j9)))))),?_⟩
 rintro _ R ⟨s,m,mo,ae,p,rfl,hs,hd,m1,hp,hy,ho,ok,q⟩;have dl:(ae.map λds=>L2.T.lst (ds.map ldT)).length=m:=by rw[ak,hd.len]
 have pl:(p.1.map dT).length=m:=by rw[ak,hp.len,hd.len]
 refine swF ?_ ?_
 .show xr true (decide ((((p.1.map dT).length:Nat):Int)=((ae.map λds=>L2.T.lst (ds.map ldT)).length:Nat)))=false;rw[dl,pl,Zs rfl]
  rfl
 show(Aj (p.1.map dT) (ae.map λds=>L2.T.lst (ds.map ldT))).length<=sizeLine/\iB _ _ _ _ (Aj (p.1.map dT) (ae.map λds=>L2.T.lst (ds.map ldT))) _;rw[Bf];refine⟨by rw[ak,VY];exact aL (show _<=1000 by have:=hd.len;lia) (by decide),comp_map (λx:Option Nat×List LD=>.tup [dT x.1,.lst (x.2.map ldT)]) (λ_=>.bl true) (p.1.zip ae) (λx hx N M hN=>?_) ⟨(p.1.zip ae).map λ_=>true,by rw[WP];rfl,?_⟩⟩
 .obtain⟨k,ek⟩:=aV hx;obtain⟨e1,e2⟩:=List.getElem?_zip_eq_some.mp ek;exact⟨rfl,x.1,x.2,rfl,hp.ok k _ _ e1 e2,hN⟩
 refine swF (by simp) ⟨s,m,mo,ae,p.1,p.2,rfl,hs,hd,m1,hp,ho.len,hy,ok,?_⟩;refine⟨⟨by rw[dl];lia,by rw[dl];lia⟩,ju (λk o=>∃x y,o=[.fz (pwT p),.fz (frR s),.fz (vH ae),x,y]) ⟨_,_,rfl⟩ ?_ ?_⟩
 .rintro k _ hk ⟨x,y,rfl⟩;have hk:k<m:=by rw[dl]at hk;lia
  have lk:k<ae.length:=by rw[hd.len];exact hk
  have ek:=aj lk;have ey:=O1 ho.len hk;have yb:=(hy.get k).1.bq (by decide) (by decide);have yp:=(p.2.getD k 0).den_pos;refine⟨_,ZG ek,f9 ldT ae[k] (λ_ o=>∃y,o=[.fz (pwT p),.fz (frR s),.fz (vH ae),.fz (.int (k:Nat)),y]) ⟨_,rfl⟩ ?_ ?_⟩
  .rintro as d bs _ e ⟨y,rfl⟩;have dm:d∈ae[k]:=by rw[e];simp
   refine⟨_,dM ey,s,m,d,p.2,rfl,hs,hd.ok _ (aU lk) d dm,ho.len,hy,λa b b0 ba bb ev=>⟨_,_,a,b,rfl,by lia,b0,⟨yb.1,yb.2,ba,bb⟩,swF ?_ ⟨_,rfl⟩⟩⟩;rw[rd,ev];exact Zp (Rat.not_lt.mpr (ho.le k _ ek d dm))
  .rintro _ ⟨y,rfl⟩;exact⟨_,_,rfl⟩
 .rintro _ ⟨x,y,rfl⟩;exact q
def jf(s:Rat)(m:Nat)(ae:List (List LD))(pl:List (Option Nat))(ys:List Rat):List Rat:=(List.range m).map λk=>sU s (λj=>ys.getD j 0) ae pl k
theorem Yb{s:Rat}{m:Nat}{ae:List (List LD)}{pl:List (Option Nat)}{ys:List Rat}{k:Nat}(hk:k<m):(jf s m ae pl ys).getD k 0=sU s (λj=>ys.getD j 0) ae pl k:=by
 unfold jf;rw[au,aq,VT hk]
 rfl
def Rf:ST:=λts q=>∃(s:Rat)(m mo:Nat)(ae:List (List LD))(pl:List (Option Nat))(ys:List Rat),ts=[frR s,vH ae,.lst (pl.map dT),.lst (ys.map frR)]/\Shr s/\DSk m mo ae/\m<=100/\PlD ae pl/\ys.length=m/\YsB ys/\q (.l1 ((jf s m ae pl ys).map frR))
theorem aaz(F:Fun K Bv Bv Mq f fd)(T:Txt K mg D)(uF:OkT P w K mg base 1 zA zf Hg)(fP:OkT P w K mg base 2 mC lV tD):cj P w K mg base CX0 3 f fd Cm (spT K Rf):=by
 refine F.okT vY (λts R hP=>by obtain⟨_,_,_,_,_,_,e,_⟩:=hP;exact e ▸ rfl) λaf A outer s H E hr=>?_;refine⟨_,(bF (iw 4 vY.nd (Or.inl rfl) (eE bC))
  (bF (dJ VZ rfl (c7 (by rfl) T.dZ (bx (bR cN (by rfl) T.dF WH (bx (qv 1) bC)) bC)) (b_ (n:=99) 5 vY.nd (Or.inl rfl))
  (bF (bO 6 vY.nd (Or.inl rfl) (dg (bx bA (bx bA bC))))
  (bF (cB (bY Bj (bJ (qv 2) (qv 5)) gA)
  (bG (bO 6 vY.nd (Or.inl rfl) (bI uF hr.md (by rfl) (bx (qv 0) (bx (bJ (bJ (qv 1) (qv 5)) (bJ (qv 2) (qv 5))) (bx (qv 3) bC))))))
  bT)
  (bG (nY 4 (bI fP hr.md (by rfl) (bx (bJ (qv 6) bA) (bx (bJ (qv 6) bA) bC))))))))
  (bG (jy 4)))),?_⟩
 rintro _ R ⟨s,m,mo,ae,pl,ys,rfl,hs,hd,m1,hp,yl,hy,q⟩;have dl:(ae.map λds=>L2.T.lst (ds.map ldT)).length=m:=by rw[ak,hd.len]
 refine⟨⟨by rw[dl];lia,by rw[dl];lia⟩,ju (λk o=>∃x y,o=[.fz (frR s),.fz (vH ae),.fz (.lst (pl.map dT)),.fz (.lst (ys.map frR)),.l1 ((jf s k ae pl ys).map frR),x,y]) ⟨.und,.und,rfl⟩ ?_ ?_⟩
 .rintro k _ hk ⟨x,y,rfl⟩;have hk:k<m:=by rw[dl]at hk;lia
  have lk:k<ae.length:=by rw[hd.len];exact hk
  have ek:=aj lk;have lp:k<pl.length:=by rw[hp.len];exact lk
  have ep:=aj lp;have ft:=hp.ok k _ _ ep ek;have lm:((jf s k ae pl ys).map frR).length<sizeLine:=by
   unfold jf;rw[ak,ak,WJ];exact aR (show k<1000 by lia) (by decide)
  have es:jf s (k+1) ae pl ys=jf s k ae pl ys++[sU s (λj=>ys.getD j 0) ae pl k]:=by
   unfold jf;rw[List.range_succ,bf]
   rfl
  dsimp only[hName];refine sq2 (λo=>∃a b:Int,o=[.fz (frR s),.fz (vH ae),.fz (.lst (pl.map dT)),.fz (.lst (ys.map frR)),.l1 ((jf s k ae pl ys).map frR),.fz (.int (k:Nat)),.fz (pT a b)]/\0<b/\Bd b/\Rat.divInt a b=sU s (λj=>ys.getD j 0) ae pl k) ?_ λY go=>?_
  .rintro _ ⟨a,b,rfl,b0,bb,ev⟩;refine⟨a,b,rfl,b0,bb,lm,.fz (.int (k:Nat)),.fz (pT a b),?_⟩;rw[es,bf,ev]
   rfl
  .refine⟨_,dM ep,?_⟩;have de:=aaO (s:=s) (y:=λj=>ys.getD j 0) ek ep;cases c:pl[k]with
   |none =>
    rw[c]at de;exact go _ ⟨0,1,rfl,by decide,fV (by decide),by rw[de];exact TK _⟩
   |some j =>
    rw[c]at de ft ep;have lj:j<ae[k].length:=of_decide_eq_true ft;have ej:=aj lj;have de:sU s _ ae pl k=match ae[k][j]? with|none=>0|some d=>Ax s _ d:=de
    rw[ej]at de;refine⟨_,ZG ek,_,dM ep,?_⟩;refine⟨_,dM ej,s,m,ae[k][j],ys,rfl,hs,hd.ok _ (aU lk) _ (aU lj),yl,hy,λa b b0 ba bb ev=>go _ ⟨a,b,rfl,b0,bb,ev.trans de.symm⟩⟩
 .rintro _ ⟨x,y,rfl⟩;rw[show((((ae.map λds=>L2.T.lst (ds.map ldT)).length:Nat):Int).toNat)=m by rw[dl];rfl];exact q
open Rw (sg fY fG bW gD gQ Big vr)
structure YsK(e:Nat)(ys:List Rat):Prop where
 cm:∃L:Nat,0<L/\L<=10^e/\∀y∈ys,y.den ∣ L
 hi:∀y∈ys,y<=(VV:Rat)
 lo:∀y∈ys,-(VV:Rat)<=y
theorem YsK.b{e:Nat}{ys:List Rat}(h:YsK e ys)(he:e<=580):YsB ys:=by
 obtain⟨L,l0,l1,hl⟩:=h.cm;exact⟨λy hy=>aL (UY l0 (hl y hy)) (aL l1 (XT (by decide) he)),h.hi,h.lo⟩
theorem YsK.mono{e e':Nat}{ys:List Rat}(h:YsK e ys)(he:e<=e'):YsK e' ys:=by
 obtain⟨L,l0,l1,hl⟩:=h.cm;exact⟨⟨L,l0,aL l1 (XT (by decide) he),hl⟩,h.hi,h.lo⟩
theorem Yk{s:Rat}{cs:List (Option bQ)}{y:Nat->Rat}(h:zu s cs y):∀r∈Dw (Ar s cs) (cs.map jV),sg (λj=>r.getD j 0*y j) cs.length=r.getD cs.length 0:=λr hr=>by
 obtain⟨i,hi,rfl⟩:=Hh hr;have l:((List.range cs.length).map λj=>eN s cs i j).length=cs.length:=by rw[ak,WJ]
 rw[show(((List.range cs.length).map λj=>eN s cs i j)++[jV (cs.getD i none)]).getD cs.length 0=jV (cs.getD i none)by
  rw[au,aD (by rw[l];exact aG _),l,Nat.sub_self];rfl]
 rw[<- h i hi];refine bW λj hj=>?_;rw[au,aF (by rw[l];exact hj),aq,VT hj]
 rfl
theorem Uc{s:Rat}{off:List (List bQ)}(sh:∀ds∈off,∀o∈ds,ShB s off.length o.ways){pl:List (Option Nat)}(hp:PlT off pl){zs:List Rat}(h:nZ s off pl zs):zu s (chO off pl) λk=>zs.getD k 0:=by
 have cl:=Fb hp;refine(D_ (by rw[cl];exact yR sh hp)).mpr λi hi=>?_;exact h.2 i (by rw[<- cl];exact hi)
theorem SQ{s:Rat}{off:List (List bQ)}(sh:∀ds∈off,∀o∈ds,ShB s off.length o.ways){pl:List (Option Nat)}(hc:PlT off pl){y:Nat->Rat}(hw:zu s (chO off pl) y):nZ s off pl ((List.range off.length).map y):=by
 have yl:((List.range off.length).map y).length=off.length:=by rw[ak,WJ]
 have yg:∀k,k<off.length->((List.range off.length).map y).getD k 0=y k:=λk hk=>by rw[au,aq,VT hk];rfl
 refine⟨yl,λi hi=>?_⟩;have sp:=yR sh hc;have eP:=Fb hc;rw[yg i hi,(D_ (by rw[eP];exact sp)).mp hw i (by rw[eP];exact hi)];unfold n8;rw[JQ (x:=λk=>((List.range off.length).map y).getD k 0) (z:=y) λw hm=>yg w.1 ((sp i hi).lt w hm)]
theorem mem_getD{ys:List Rat}{m:Nat}(l:ys.length=m){y:Rat}(h:y∈ys):∃k,k<m/\y=ys.getD k 0:=by
 obtain⟨k,e⟩:=aV h;exact⟨k,by rw[<- l];exact(ao.mp e).1,by rw[au,e];rfl⟩
theorem acT{m:Nat}(h:m<=6):(2*(m+1)*((10^30+1)*(100*4000*1000)))^m<=10^244:=by
 obtain rfl|rfl|rfl|rfl|rfl|rfl|rfl:m=0\/m=1\/m=2\/m=3\/m=4\/m=5\/m=6:=by lia
 all_goals decide +kernel
theorem abf{m:Nat}(h:m<=8):(2*(m+1)*((9+1)*(100*1*1)))^m<=10^244:=by
 obtain rfl|rfl|rfl|rfl|rfl|rfl|rfl|rfl|rfl:m=0\/m=1\/m=2\/m=3\/m=4\/m=5\/m=6\/m=7\/m=8:=by lia
 all_goals decide +kernel
theorem Sx{s:Rat}{off:List (List bQ)}{PN PD CQ N:Nat}(hs:Shr s)(few:off.length<=100)(ob:∀ds∈off,∀o∈ds,OfB off.length PN PD CQ o)(h1:1<=PD)(h2:1<=CQ)(hn:PN<=10^30)(hN:N=(PN+1)*(100*CQ*PD))(mb:(2*(off.length+1)*N)^off.length<=10^244)(nn:N<=NN){pl:List (Option Nat)}(hp:PlT off pl){zs:List Rat}(hz:nZ s off pl zs):YsK 244 zs:=by
 have cl:=Fb hp;have co:=aeg (pl:=pl) ob;have sh:∀ds∈off,∀o∈ds,ShB s off.length o.ways:=λds dk o ho=>let b:=ob ds dk o ho;⟨b.lt,b.nn,b.one⟩;have mn:(2*off.length*N)^off.length<=NN:=aL (Nat.pow_le_pow_left (Zzy _ (by lia)) _) (aL mb (XT (by decide) (by decide)));have sy:=Wz hs (cs:=chO off pl) (aL (WG cl) few) (by rw[cl];exact co) h1 h2 hN (by rw[cl];exact mn) nn;have wo:=Uc sh hp hz;obtain⟨D,d0,d1,hD⟩:=VN sy (y:=λk=>zs.getD k 0) (by rw[ur];exact Yk wo);rw[ur,cl]at d1 hD;have cg:∀i,i<off.length->CoB off.length PN PD CQ ((chO off pl).getD i none):=λi hi=>co _ (by rw[au,aj (by rw[cl];exact hi)];exact aU _);have ab:=XH hs cg hn (y:=λk=>zs.getD k 0) hz.2;refine⟨⟨D,d0,aL d1 mb,λy hy=>?_⟩,λy hy=>?_,λy hy=>?_⟩
 .obtain⟨k,hk,rfl⟩:=mem_getD hz.1 hy;exact hD k hk
 .obtain⟨k,hk,rfl⟩:=mem_getD hz.1 hy;exact(ab k hk).1
 .obtain⟨k,hk,rfl⟩:=mem_getD hz.1 hy;exact(ab k hk).2
theorem Tq{s:Rat}{m:Nat}{ae:List (List LD)}{off:List (List bQ)}(hs:Shr s)(hd:DSk m 4 ae)(sm:Small m ae)(ho:wR ae off){pl:List (Option Nat)}(hp:PlT off pl){zs:List Rat}(hz:nZ s off pl zs):YsK 244 zs:=by
 have ol:off.length=m:=by rw[ho.len,hd.len]
 rcases sm with h|⟨h,ht⟩
 .exact Sx hs (by lia) (by rw[ol];exact abF hd ho) (by decide) (by decide) (by decide) rfl (acT (aL (WG ol) h)) (by decide +kernel) hp hz
 .exact Sx hs (by lia) (by rw[ol];exact Sg hd ht ho) (by decide) (by decide) (by decide) rfl (abf (aL (WG ol) h)) (by decide +kernel) hp hz
noncomputable def prN(f:Nat->Nat):Nat->Nat
 |0=>1
 |n+1=>prN f n*f n
theorem Xh{f:Nat->Nat}{k:Nat} : ∀{m:Nat},k<m->f k ∣ prN f m
 |0,h=>absurd h (WV _)
 |m+1,h=>by
  by_cases c:k=m
  .rw[c];exact Nat.dvd_mul_left _ _
  .exact TH (Xh (show k<m by exact XX (UZ h) c)) (Nat.dvd_mul_right _ _)
theorem Uk{f:Nat->Nat}{c:Nat}(h:∀k,f k<=c):∀m,prN f m<=c^m
 |0=>aG 1
 |m+1=>by rw[Nat.pow_succ];exact W1 (Uk h m) (h m)
theorem N7{f:Nat->Nat}(h:∀k,0<f k):∀m,0<prN f m
 |0=>VS
 |m+1=>UT (N7 h m) (h m)
noncomputable def dr(ae:List (List LD))(pl:List (Option Nat))(k:Nat):Option LD:=(pl.getD k none).bind λd=>(ae.getD k [])[d]?
def fk(ae:List (List LD))(pl:List (Option Nat))(k:Nat):Nat:=match dr ae pl k with
 |none=>1
 |some d=>cI 1 (d.prs.map (·.2))*d.pay.den
theorem aa4{m mo:Nat}{ae:List (List LD)}(hd:DSk m mo ae){pl:List (Option Nat)}{k:Nat}{d:LD}(e:dr ae pl k=some d):LDk m d/\∃ds∈ae,d∈ds:=by
 unfold dr at e;cases ep:pl.getD k none with
 |none=>rw[ep]at e;cases e
 |some c =>
  rw[ep]at e;have e:(ae.getD k [])[c]?=some d:=e;by_cases z:k<ae.length
  .rw[au,aj z]at e;exact⟨hd.ok _ (aU z) d (aC e),_,aU z,aC e⟩
  .have:ae[k]?=none:=aM (VW z);rw[au,this]at e;cases e
theorem abB(ae:List (List LD))(pl:List (Option Nat))(k:Nat):0<fk ae pl k:=by
 unfold fk;split
 .exact VS
 .exact UT (d9 _ VS) (Rat.den_pos _)
theorem aiA{m mo:Nat}{ae:List (List LD)}(hd:DSk m mo ae)(sm:Small m ae)(pl:List (Option Nat)):prN (fk ae pl) m<=10^40:=by
 rcases sm with h|⟨h,ht⟩
 .have:∀k,fk ae pl k<=4000*1000:=λk=>by
   unfold fk;cases e:dr ae pl k with
   |none=>exact UH rfl
   |some d =>
    have lk:=(aa4 hd e).1;obtain⟨q,q0,q1,hq⟩:=lk.all;refine W1 (aL (UY q0 (jJ _ (UK _) λr hr=>?_)) q1) lk.pay.den;obtain⟨x,hx,rfl⟩:=YV.mp hr;exact(hq x hx).2.2
  exact aL (Uk this m) (aL (XT (by decide) h) (by decide +kernel))
 .have:∀k,fk ae pl k<=1:=λk=>by
   unfold fk;cases e:dr ae pl k with
   |none=>exact aG _
   |some d =>
    obtain⟨_,ds,dk,hdm⟩:=aa4 hd e;obtain⟨t1,_,t3⟩:=ht ds dk d hdm;show cI 1 (d.prs.map (·.2))*d.pay.den<=1;rw[t1,Nat.mul_one];exact UY VS (jJ _ (UK _) λr hr=>by
     obtain⟨x,hx,rfl⟩:=YV.mp hr;rw[t3 x hx];exact Nat.dvd_refl 1)
  have:=Uk this m;rw[Nat.one_pow]at this;exact aL this (Nat.pow_pos (by decide))
theorem aa8{q L:Nat}(hq:0<q)(hL:0<L){y:Nat->Rat}(hy:∀k,(y k).den ∣ L):∀{ws:List (Nat×Rat)},(∀w∈ws,w.2.den ∣ q)->(dw ws y).den ∣ q*L
 |[],_=>UK _
 |w::ws,h=>by
  rw[cX];exact xY (UT hq hL) (den_mul hq hL (h w (aO ..)) (hy w.1)) (aa8 hq hL hy λx hx=>h x (aJ _ hx))
theorem ac5{s:Rat}{m mo e:Nat}{ae:List (List LD)}(hs:Shr s)(hd:DSk m mo ae)(sm:Small m ae)(pl:List (Option Nat)){ys:List Rat}(h:YsK e ys):YsK (e+42) (jf s m ae pl ys):=by
 obtain⟨L,l0,l1,hl⟩:=h.cm;have gl:∀k,(ys.getD k 0).den ∣ L:=λk=>by
  rw[au];cases e:ys[k]? with
  |none=>exact UK _
  |some y=>exact hl y (aC e)
 have gh:∀k,ys.getD k 0<=(VV:Rat)/\-(VV:Rat)<=ys.getD k 0:=λk=>by
  rw[au];cases e:ys[k]? with
  |none=>exact⟨by show(0:Rat)<=_;decide +kernel,by show _<=(0:Rat);decide +kernel⟩
  |some y=>exact⟨h.hi y (aC e),h.lo y (aC e)⟩
 have sd:=s.den_pos;have de:∀k,sU s (λj=>ys.getD j 0) ae pl k=match dr ae pl k with|none=>0|some d=>Ax s (λj=>ys.getD j 0) d:=λk=>rfl
 have bd:∀k,sU s (λj=>ys.getD j 0) ae pl k<=(VV:Rat)/\-(VV:Rat)<=sU s (λj=>ys.getD j 0) ae pl k:=λk=>by
  rw[de];cases e:dr ae pl k with
  |none=>exact⟨by show(0:Rat)<=_;decide +kernel,by show _<=(0:Rat);decide +kernel⟩
  |some d =>
   have lk:=(aa4 hd e).1;have va:=U8 (y:=λk=>ys.getD k 0) (C:=(VV:Rat)) (by decide +kernel) (ws:=d.prs) lk.nn (by rw[zx,lk.one];exact VQ) (λk=>(gh k).1) λk=>(gh k).2;exact aaE hs lk.pay.num va.1 va.2
 refine⟨⟨L*(s.den*prN (fk ae pl) m),UT l0 (UT sd (N7 (abB ae pl) m)),?_,λy hy=>?_⟩,λy hy=>?_,λy hy=>?_⟩
 .rw[Up,show 10^42=10^2*10^40 by rw[<- Up]];exact W1 l1 (W1 hs.den (aiA hd sm pl))
 .obtain⟨k,hk,rfl⟩:=YV.mp hy;have hk:=List.mem_range.mp hk;have dv:=Xh (f:=fk ae pl) hk;rw[de];cases e:dr ae pl k with
  |none=>exact UK _
  |some d =>
   have fe:fk ae pl k=cI 1 (d.prs.map (·.2))*d.pay.den:=by unfold fk;rw[e]
   rw[fe]at dv;have lp:=d9 (d.prs.map (·.2)) VS;have pd:=d.pay.den_pos;have all:=UT l0 (UT sd (N7 (abB ae pl) m));show(d.pay+s*dw d.prs λj=>ys.getD j 0).den ∣ _;refine xY all ?_ ?_
   .exact TH (TH (Nat.dvd_mul_left _ _) dv) (TH (Nat.dvd_mul_left _ _) (Nat.dvd_mul_left _ _))
   .have a:=den_mul sd (UT lp l0) (Nat.dvd_refl s.den) (aa8 lp l0 gl (ws:=d.prs) λw hw=>(h_ _).2 _ (YV.mpr ⟨w,hw,rfl⟩));refine TH a ?_;obtain⟨t,ht⟩:=dv;exact⟨t*d.pay.den,by rw[ht];grind⟩
 .obtain⟨k,hk,rfl⟩:=YV.mp hy;exact(bd k).1
 .obtain⟨k,hk,rfl⟩:=YV.mp hy;exact(bd k).2
def Tp:ST:=λts q=>∃ns:List Int,ts=[scT ns]/\ns.length<=63/\∀(m:Nat)(ae:List (List LD))(x:OT),frz x=vH ae->DSk m 4 ae->Small m ae->(strm (ns.getD 0 0) 0%8=3->∀ds∈ae,ds.length=2)->q x
theorem abC(F:Fun K Dz Dz Oc f fd)(T:Txt K mg D)(iG:OkT P w K mg base 1 uW uX Cz)(cL:OkT P w K mg base 1 fH fJ gJ)(Al:OkT P w K mg base 2 qP qQ Ft)(Vs:OkT P w K mg base 2 Ho G7 st_size)(Qn:OkT P w K mg base 5 Dt BZ RV):cj P w K mg base CX0 6 f fd Cg (spT K Tp):=by
 refine F.okT Ry (λts R hP=>by obtain⟨_,e,_⟩:=hP;exact e ▸ rfl) λaf A outer s H E hr=>?_;refine⟨_,(bF (bO 1 Ry.nd (Or.inl rfl) (bI cL hr.md (by rfl) (bx (bI iG hr.md (by rfl) (bx (qv 0) (bx bA bC))) (bx bA bC))))
  (bF (cB (bY (go_eq hr.units) (bL cC (bJ (qv 1) bA) bA) bA)
  (bG (bM (bI Al hr.md (by rfl) (bx (bI iG hr.md (by rfl) (bx (qv 0) (bx bA bC))) (bx (bL cR bA (bL cC (bJ (qv 1) bA) bA)) bC)))))
  bT)
  (bG (bM (bI Qn hr.md (by rfl) (bx (qv 0) (bx bA (bx (bI Vs hr.md (by rfl) (bx (bI iG hr.md (by rfl) (bx (qv 0) (bx bA bC))) bC)) (bx bA bC))))))))),?_⟩
 rintro _ R ⟨ns,rfl,nl,q⟩;have s1:=iV (ns.getD 0 0) 1;refine⟨ns,0,rfl,by exact aL nl (by decide),_,2,rfl,by decide,_,dW (k:=0) (by decide),by decide,swD (λh=>?_) λh=>?_⟩
 .refine⟨ns,5,rfl,by exact aL nl (by decide),_,dW (k:=1) (by decide),by decide,?_⟩;obtain⟨m,em,m7⟩ : ∃m:Nat,4+strm (ns.getD 0 0) 1%5=((m+1:Nat):Int)/\m<=7:=⟨(3+strm (ns.getD 0 0) 1%5).toNat,by lia,by lia⟩;exact⟨_,m,by rw[<- em];rfl,by exact Y3 m7 (by decide),λae hd h2 ht=>q (m+1) ae _ rfl hd (.inr ⟨by exact Nat.succ_le_succ m7,ht⟩) λ_=>h2⟩
 .refine⟨ns,0,rfl,by exact aL nl (by decide),_,rfl,λm hm=>⟨ns,5,m,4,rfl,by exact aL nl (by decide),by exact aL hm (by decide),by decide,λae hd=>q m ae _ (adq ae) hd (.inl hm) λz=>absurd z h⟩⟩
def Rg:ST:=λts q=>∃(ns:List Int)(ae:List (List LD)),ts=[scT ns,vH ae]/\ns.length<=63/\ae.length<=100/\(strm (ns.getD 0 0) 0%8=3->∀ds∈ae,ds.length=2)/\∀pl:List (Option Nat),PlD ae pl->q (.l1 (pl.map dT))
theorem abp(F:Fun K CV CV Hs f fd)(T:Txt K mg D)(iG:OkT P w K mg base 1 uW uX Cz)(cL:OkT P w K mg base 1 fH fJ gJ)(sX:OkT P w K mg base 2 tU tX Fo):cj P w K mg base CX0 3 f fd Bo (spT K Rg):=by
 refine F.okT Za (λts R hP=>by obtain⟨_,_,e,_⟩:=hP;exact e ▸ rfl) λaf A outer s H E hr=>?_;refine⟨_,(bF (cB (QW.qt (Np (bY (go_eq hr.units) (bL cC (bJ (bI cL hr.md (by rfl) (bx (bI iG hr.md (by rfl) (bx (qv 0) (bx bA bC))) (bx bA bC))) bA) bA) bA) (Hi (bY (go_eq hr.units) (bL cC (bI iG hr.md (by rfl) (bx (qv 0) (bx bA bC))) bA) bA))))
  (bG (bM (dH (bH Hs) PL PL ["_law_doors_here"] (cH (qv 1)) (eU (i:=0)) cF bA)))
  bT)
  (bG (bM (bI sX hr.md (by rfl) (bx (bI iG hr.md (by rfl) (bx (qv 0) (bx bA bC))) (bx (qv 1) bC)))))),?_⟩
 rintro _ R ⟨ns,ae,rfl,nl,dl,h2,q⟩;refine sq1 (λo=>o=[.fz (scT ns),.fz (vH ae)]) ?_ λY go=>?_
 .rintro _ rfl;exact⟨ns,3,rfl,by exact aL nl (by decide),_,ae,rfl,dl,q⟩
 .refine⟨ns,0,rfl,by exact aL nl (by decide),_,1,rfl,by decide,_,dW (k:=0) (by decide),by decide,swD (λh=>⟨ns,3,rfl,by exact aL nl (by decide),by decide,swD (λh3=>?_) λ_=>go _ rfl⟩) λ_=>go _ rfl⟩;refine⟨by rw[ak];exact aL dl (by decide),comp_map (λds=>L2.T.lst (ds.map ldT)) (λ_=>.int 0) ae (λds _ N M hN=>hN) ?_⟩;have e:ae.map (λ_=>L2.T.int 0)=(ae.map λ_=>some 0).map dT:=by rw[WP];rfl
  rw[e];refine q _ ⟨ak ..,λk d ds e1 e2=>?_⟩;rw[aq,e2]at e1;cases e1;have:=h2 h ds (aC e2);exact Zs (by lia)
theorem M4{ae:List (List LD)}{off:List (List bQ)}(ho:wR ae off){pl:List (Option Nat)}(h:PlT off pl):PlD ae pl:=by
 refine⟨by rw[h.len,ho.len],λk d ds e1 e2=>?_⟩;have lk:k<off.length:=by rw[ho.len];exact(ao.mp e2).1
 have ek:=aj lk;obtain⟨tl,g5,eo⟩:=ho.at_ k ds _ e2 ek;have:=h.ok k d _ e1 ek;rw[eo,ak,VY,g5,UV]at this;exact this
noncomputable def rD(r:Rat):PyData:=.tuple [.int r.num,.int r.den]
theorem acR:EqD frR rD:=⟨λ_=>rfl,λ_=>rfl,λr=>by unfold rD PyData.depth PyData.depthAll PyData.depthAll PyData.depthAll PyData.depth;decide,λx y=>by
 unfold rD;rw[Y7,<- Bool.decide_and];exact decide_eq_decide.mpr ⟨λz=>Rat.ext z.1 (by have:=z.2;lia),λz=>by rw[z];exact⟨rfl,rfl⟩⟩⟩
theorem amN{t u:T}{ts:List T}{q:OT->Prop}(h:q (.fz u)):gIx (.tup (t::u::ts)) (.int 1) q:=h
theorem ajf(ns:List Int):(fX ns (some 30) (some 38)).length<=8:=by
 show(fX ns (some ((30:Nat):Int)) (some ((38:Nat):Int))).length<=8;unfold fX;rw[HT.uf,HT.uf,aY,TZ];omega
def abu:ST:=λts q=>∃ns:List Int,ts=[scT ns]/\ns.length<=63/\q (.fz (.bl true))
theorem afB(F:Fun K NK NK V6 f fd)(T:Txt K mg D)(iG:OkT P w K mg base 1 uW uX Cz)(Ms:OkT P w K mg base 3 BK Dd Ru)(N5:OkT P w K mg base 6 Dz Cg Tp)(Uw:OkT P w K mg base 9 GR Hw (Wx D))(E_:OkT P w K mg base 11 vd u9 (Ii D))(UL:OkT P w K mg base 5 G_ G9 Wa)(Qq:OkT P w K mg base 3 CV Bo Rg)(jP:OkT P w K mg base 9 lE lB (uM D))(yP:OkT P w K mg base 4 xu wJ Jq)(oO:OkT P w K mg base 2 mW mJ zQ)(sX:OkT P w K mg base 2 tU tX Fo)(Oj:OkT P w K mg base 3 Bv Cm Rf)(mq:OkT P w K mg base 10 nP nF (vN D)):cj P w K mg base CX0 12 f fd VF (spT K abu):=by
 refine F.okT sI (λts R hP=>by obtain⟨_,e,_⟩:=hP;exact e ▸ rfl) λaf A outer s H E hr=>?_;refine⟨_,(bF (bO 1 sI.nd (Or.inl rfl) (bI Ms hr.md (by rfl) (bx (bI iG hr.md (by rfl) (bx (qv 0) (bx bA bC))) bC)))
  (bF (bO 2 sI.nd (Or.inl rfl) (bI N5 hr.md (by rfl) (bx (qv 0) bC)))
  (bF (bO 3 sI.nd (Or.inl rfl) (bI Uw hr.md (by rfl) (bx (bI iG hr.md (by rfl) (bx (qv 0) (bx bA bC))) (bx (qv 1) (bx (qv 2) bC)))))
  (bF (bO 4 sI.nd (Or.inl rfl) (bI E_ hr.md (by rfl) (bx (qv 3) bC)))
  (bF (cB (dB (cV (bI UL hr.md (by rfl) (bx (qv 4) (bx (qv 1) (bx (qv 2) bC))))))
  (bG (bM j9))
  bT)
  (bF (bO 5 sI.nd (Or.inl rfl) (bI Qq hr.md (by rfl) (bx (qv 0) (bx (qv 2) bC))))
  (bF (bO 6 sI.nd (Or.inl rfl) (bI jP hr.md (by rfl) (bx (qv 3) (bx (pQ Cu (by rfl) T.uo boot_list (bx (qv 5) bC)) bC))))
  (bF (cB (QW.qt (iZ (dB (cV (bI yP hr.md (by rfl) (bx (qv 6) (bx (qv 1) (bx (qv 2) (bx (qv 5) bC))))))) (gR (dB (cV (bI oO hr.md (by rfl) (bx (qv 6) (bx (bJ (qv 4) bA) bC))))))))
  (bG (bM j9))
  bT)
  (bF (dJ VZ rfl (cH (lC (qv 0) (gn bA) (gn bA))) (b_ (n:=99) 7 sI.nd (Or.inl rfl))
  (bF (bO 6 sI.nd (Or.inl rfl) (bI Oj hr.md (by rfl) (bx (qv 1) (bx (qv 2) (bx (bI sX hr.md (by rfl) (bx (qv 7) (bx (qv 2) bC))) (bx (qv 6) bC))))))
  (bG (cB (dB (cV (bI oO hr.md (by rfl) (bx (qv 6) (bx (bJ (qv 4) bA) bC)))))
  (bG (bM j9))
  bT))))
  (bF (bO 8 sI.nd (Or.inl rfl) (bI mq hr.md (by rfl) (bx (qv 3) (bx (pQ Cu (by rfl) T.uo boot_list (bx (qv 5) bC)) bC))))
  (bG (bM (yI (j6 .list (qv 8) (by rfl) T.cT (by rfl) T.uo boot_list) (yI (nW Jc (bR cN (by rfl) T.dF WH (bx (qv 8) bC)) bA) (Fe (nW (go_eq hr.units) (bJ (bJ (qv 8) (Aa bA)) bA) (bJ (qv 4) bA))))))))))))))))),?_⟩
 rintro _ R ⟨ns,rfl,nl,q⟩;refine⟨ns,2,rfl,by exact aL nl (by decide),_,rfl,λs hs=>⟨ns,rfl,nl,λm ae x ex hd sm h2=>?_⟩⟩;dsimp only;rw[ex];have m8:m<=8:=by rcases sm with z|z;exact aL z (by decide);exact z.1
 refine⟨ns,1,rfl,by exact aL nl (by decide),_,s,m,4,ae,rfl,hs,hd,by exact aL m8 (by decide),by decide,λnm off hn hok ho=>?_⟩;obtain⟨N,B⟩:=acy hs hd sm ho;have ol:off.length=m:=by rw[ho.len,hd.len]
 refine⟨s,nm,off,N,rfl,hok,B,λps p hm el=>?_⟩;have kr:p∈ps:=List.mem_of_getLast? el;obtain⟨k1,k2,_⟩:=hm.told.ok p kr;have fw:=aaX hd ho hm el;have yk:=Tq hs hd sm ho k1 k2;have yb:=yk.b (by decide);have i7:∀{pl:List (Option Nat)}{zs:List Rat},PlT off pl->nZ s off pl zs->∀k,k<m->zs.getD k 0=sU s (λj=>zs.getD j 0) ae pl k:=λ{pl zs}hp hz k hk=>by
  rw[hz.2 k (by lia),Uq hd ho (by rw[hp.len];lia)]
 refine⟨s,m,4,ae,p,rfl,hs,hd,by exact aL m8 (by decide),M4 ho k1,yb,fw,i7 k1 k2,?_⟩;refine⟨ns,ae,rfl,nl,by have:=hd.len;lia,h2,λpl bg=>?_⟩;have hp:=Wk ho bg;refine⟨s,nm,off,pl,N,rfl,hok,hp,B.few,B.wo pl hp,λy hw hb=>?_⟩;have ym:((List.range off.length).map y).map frR=(List.range off.length).map λi=>frR (y i):=by rw[WP];rfl
 have wz:=SQ B.sh hp hw;rw[<- ym];generalize(List.range off.length).map y=zs at wz ⊢;have zk:=Tq hs hd sm ho hp wz;have zl:zs.length=m:=by rw[wz.1,ol]
 refine⟨s,m,4,ae,pl,zs,rfl,hs,hd,by exact aL m8 (by decide),bg,zl,zk.b (by decide),i7 hp wz,m,zs,p.2,rfl,zl,fw.len,by exact aL m8 (by decide),zk.b (by decide),yb,Cq hs.lo hs.hi B.sh hd ho bg wz fw,?_⟩;have ec:fX (ns.map L2.T.int) (some 30) (some 38)=(fX ns (some 30) (some 38)).map L2.T.int:=zc ..;have c8:=ajf ns;show vB _ _ _ (fX (ns.map L2.T.int) (some 30) (some 38)) _;rw[ec];generalize fX ns (some 30) (some 38)=cs at c8 ⊢;refine f9 L2.T.int cs (λas o=>∃(zs:List Rat)(x:OT),o=[.fz (scT ns),.fz (frR s),.fz (vH ae),.fz (hlT D s nm off),.fz (pwT p),.fz (.lst (pl.map dT)),.fz (.lst (zs.map frR)),x,.und]/\zs.length=m/\YsK (244+42*as.length) zs/\∀k,k<m->zs.getD k 0<=p.2.getD k 0) ⟨zs,.und,rfl,zl,zk,Cq hs.lo hs.hi B.sh hd ho bg wz fw⟩ ?_ ?_
 .rintro as c bs _ e ⟨zs,x,rfl,l,hk,le⟩;have al:as.length+1<=cs.length:=by rw[e];simp
  refine⟨c,ae,rfl,by have:=hd.len;lia,λql hql=>?_⟩;have nk:=ac5 hs hd sm ql hk;have nl':(jf s m ae ql zs).length=m:=by unfold jf;rw[ak,WJ]
  have nle:∀k,k<m->(jf s m ae ql zs).getD k 0<=p.2.getD k 0:=λk hk=>by
   rw[Yb hk];exact U2 (abz hs.lo hd le ql k) (V3 hd fw hql hk)
  refine⟨s,m,4,ae,ql,zs,rfl,hs,hd,by exact aL m8 (by decide),hql,l,hk.b (by lia),m,jf s m ae ql zs,p.2,rfl,nl',fw.len,by exact aL m8 (by decide),nk.b (by lia),yb,nle,jf s m ae ql zs,.fz (.int c),rfl,nl',nk.mono (by rw[aA,List.length_singleton];lia),nle⟩
 .rintro _ ⟨zs',x,rfl,l,hk,le⟩;refine⟨s,nm,off,pl,N,rfl,hok,hp,B,λqs hq=>?_⟩;have qn:0<qs.length:=Nat.pos_of_ne_zero λz=>hq.ne (List.length_eq_zero_iff.mp z);refine swT (Zs (by rw[ak];lia)) ?_;cases e:qs.getLast? with
  |none=>exact absurd (List.getLast?_eq_none_iff.mp e) hq.ne
  |some r =>
   obtain⟨r1,r2,_⟩:=hq.told.ok r (List.mem_of_getLast? e);have ro:=aaX hd ho hq e;have eq:r.2=p.2:=by
    refine Q3 λk=>?_;by_cases hk:k<m
    .rw[O1 ro.len hk,O1 fw.len hk];exact ZH some (Rat.le_antisymm (Cq hs.lo hs.hi B.sh hd ho (M4 ho r1) r2 fw k hk) (Cq hs.lo hs.hi B.sh hd ho (M4 ho k1) k2 ro k hk))
    .rw[aM (by have:=ro.len;lia),aM (by have:=fw.len;lia)]
   refine⟨_,Hr e,?_⟩;dsimp only[rC,frz];refine amN (u:=.lst (r.2.map frR)) ?_;refine acR.gEq ?_;rw[Zs eq];exact q
end
theorem agE{K:Frag}{vs:Ζ}{H:Hp}{Q:VK}{E:XK}(h:W7 K vs H Q E):spT K abu vs H Q E:=by
 obtain⟨a,ns,rfl,hs,hl,_,hQ⟩:=h;refine⟨[scT ns],λx=>x=.fz (.bl true),.cons (.scr hs (Fj ns)) .nil,⟨ns,rfl,hl,rfl⟩,?_⟩;rintro H' v _ rfl _ ⟨B,_,_,u,e,r⟩;cases e;cases r;exact hQ H'
theorem law_fn{l:PySem.W.OpenLaw}{w:World}{K:Frag}{mg:Str->Ω}(T0:∃D,Txt K mg D)(base:Heap)(f:Addr)(fd:FuncData)(F:Fun K NK NK V6 f fd) :
  cj l.prog w K mg base CX0 12 f fd VF (W7 K):=by
 obtain⟨D,T⟩:=T0;have o {k:Nat}{n:Str}{st:Stmt}{ps:Φ}{sp:Sp} (h:cJ K mg n st ps) (g:∀f fd,Fun K n n st f fd->cj l.prog w K mg base CX0 k f fd ps sp):OkF l.prog w K mg base k n ps sp:=h.ok g;have i {k:Nat}{n m:Str}{st:Stmt}{ps:Φ}{f:Addr}{sp:Sp} (h:Ay K n m st ps f) (g:∀fd,Fun K n m st f fd->cj l.prog w K mg base CX0 k f fd ps sp):OkI l.prog w K mg base CX0 k f ps sp:=h.ok g;have dN:=o T.Vd λ_ _ F=>RL F T;have dX:=o T.YC λ_ _ F=>U6 F T;have dU:=o T.acH λ_ _ F=>ZL F T dN dX;have Ez:=o T.aeB λ_ _ F=>adx dU F;have oA:=o T.acz λ_ _ F=>Zo dU F;have uL:=o T.adg λ_ _ F=>abg dU F;have Ut:=o T.aeS λ_ _ F=>adD dU F;have gY:=o T.abQ λ_ _ F=>aaB F;have gC:=o T.U7 λ_ _ F=>QZ F T dN dX;have jz:=o T.adX λ_ _ F=>Y9 F dX;have iU:=o T.X3 λ_ _ F=>Ug F T;have iY:=o T.OD λ_ _ F=>KQ F iU gC;have d7:=o T.CP λ_ _ F=>zZ F iU;have fZ:=o T.H_ λ_ _ F=>Gp F T gC gY;have M5:=o T.f_total λ_ _ F=>aay F T jz dU;have rE:=o T.Kw λ_ _ F=>I9 F T d7 fZ M5;have su:=o T.Km λ_ _ F=>Jw F T Ez;have jR:=i T.PX λ_ F=>Oh F T iY;have xJ:=i T.Ql λ_ F=>Qc F T jR d7;have d_:=i T.Ka λ_ F=>KD F T jR rE su;have xR:=i T.Ny λ_ F=>Mp F T iY fZ oA d_;have v7:=i T.Pu λ_ F=>Px F T d_;have wN:=i T.Qk λ_ F=>OJ F T;have rM:=o T.J7 λ_ _ F=>HD F T gC gY;have ud:=o T.Nf λ_ _ F=>Kf F T iU;have nU:=o T.Gq λ_ _ F=>Ed F T wN;have yu:=o T.R5 λ_ _ F=>Nr F T nU;have xK:=i T.Pk λ_ F=>O9 F T rM ud yu;have fL:=i T.Nu λ_ F=>Qe F T;have j_:=i T.z9 λ_ F=>J5 F T dN fL;have cY:=i T.Jy λ_ F=>XR F T j_;have tu:=o T.Zx λ_ _ F=>XF F dX;have vV:=o T.Q5 λ_ _ F=>P_ F T tu;have z8:=o T.Vr λ_ _ F=>SJ F T dX tu;have yt:=o T.S5 λ_ _ F=>M9 F T vV z8;have jU:=o T.QM λ_ _ F=>Ma F dU;have qD:=o T.Jp λ_ _ F=>Ge F dU;have uc:=o T.Qa λ_ _ F=>Kl F T;have uO:=o T.adh λ_ _ F=>Zw F yt;have w5:=o T.Sq λ_ _ F=>Ng F T uO jU Ut;have qx:=o T.JK λ_ _ F=>Gv F T uO jU oA;have Ei:=o T.Yx λ_ _ F=>Vm F T jz uc w5 qx qD;have Ae:=o T.Vn λ_ _ F=>Q6 F T;have rJ:=o T.KZ λ_ _ F=>Jl F T;have wW:=o T.RZ λ_ _ F=>MP F T;have Fi:=o T.Xk λ_ _ F=>TQ F T;have yJ:=o T.RP λ_ _ F=>N6 F T;have rG:=o T.Kq λ_ _ F=>JM F T Ae rJ Ei wW Fi yJ;have sG:=o T.Ks λ_ _ F=>Io F T;have VL:=o T.agu λ_ _ F=>ado F T dN;have eF:=o T.Oq λ_ _ F=>Ku F T VL fL cY;have qF:=o T.Jf λ_ _ F=>Gh F T cY;have wQ:=o T.R4 λ_ _ F=>Qu F T sG oA uL;have jP:=o T.Ro λ_ _ F=>Nv F T eF qF wQ rG;have rW:=o T.Kr λ_ _ F=>HW F T jz dU;have zX:=o T.Vt λ_ _ F=>Ti F T gY;have rZ:=o T.Kp λ_ _ F=>Jb F T rW Ez uL;have rQ:=o T.KJ λ_ _ F=>IK F T zX gY;have Im:=o T.abr λ_ _ F=>Ym F T eF jz rZ rQ cY;have mq:=o T.Vj λ_ _ F=>Sy F T eF jP Im;have iG:=o T.afj λ_ _ F=>ac0 F;have cL:=o T.abA λ_ _ F=>Yv F T;have La:=o T.ajC λ_ _ F=>agx F T;have fP:=o T.ZM λ_ _ F=>Xy F La;have wO:=o T.Ri λ_ _ F=>Qg F T La;have ug:=o T.Nt λ_ _ F=>K6 F T wO;have GX:=o T.ad5 λ_ _ F=>aap F T cL;have Ms:=o T.ad1 λ_ _ F=>Y6 F T cL fP;have mr:=o T.ajD λ_ _ F=>af3 F T fP;have Vs:=o T.agA λ_ _ F=>abV F T cL;have Ur:=o T.aeE λ_ _ F=>abR F T cL fP mr;have Qn:=o T.acY λ_ _ F=>Y_ F T iG cL Ur;have NZ:=o T.adJ λ_ _ F=>abH F T xJ d_ xR v7;have Uw:=o T.agB λ_ _ F=>ad3 F T GX NZ xK;have Al:=o T.Ui λ_ _ F=>Rb F T cL;have sX:=o T.aa5 λ_ _ F=>Xw F T cL;have yX:=o T.adZ λ_ _ F=>Yd F;have VH:=o T.agi λ_ _ F=>YW F;have uF:=o T.f_look λ_ _ F=>acr F T;have uq:=o T.Qm λ_ _ F=>KY F T fL cY;have E_:=o T.Yj λ_ _ F=>Vo F T uq mq;have yP:=o T.adB λ_ _ F=>aae F T ug uF VH;have yL:=o T.Q_ λ_ _ F=>PK F T;have oO:=o T.Qj λ_ _ F=>JZ F T yX;have UL:=o T.agC λ_ _ F=>adC F T yL yP yX uF;have Oj:=o T.adK λ_ _ F=>aaz F T uF fP;have N5:=o T.acC λ_ _ F=>abC F T iG cL Al Vs Qn;have Qq:=o T.ace λ_ _ F=>abp F T iG cL sX;exact(afB F T iG Ms N5 Uw E_ UL Qq jP yP oO sX Oj mq).imp λ_ _ _ _ h=>agE h
end K28
end
open PySem PySem.W PyProof.Rows
set_option maxRecDepth 100000 in
set_option maxHeartbeats 0 in
theorem PySem.Challenge.cw_chancehall_k28_whole_no_plan_beats_it_holds : PySem.Challenge.rw_chancehall_k28_whole_no_plan_beats_it.Holds := by
 w_on
 refine holds_law H28.wsd λkl=>?_;refine holds_open (q:=H28.qv) (loose:=[]) (XP:=XL H28.qv []) (YP:=InK H28.KH) H28.left (InK.of H28.asK) InK.keeps H28.hX XL.keeps (by rfl) (by rfl) (by rfl) H28.hR (by rfl) kl (by decide +kernel) ⟨rfl,rfl,rfl,rfl,rfl,by decide +kernel⟩ ?hw ?hc
 (case hw=>w_witness2)
 k_fill
 refine L2.aku (l:=PySem.Challenge.rw_chancehall_k28_whole_no_plan_beats_it) (k:=12) (x := "_law_script") rfl rfl ⟨rfl,by decide,by decide⟩ (λw h Y=>(show(H28.KH w.params).In h from Y)) ?F
 case F =>
  intro w mg fa h KX G gi;refine⟨K28.V6,?_,λbase f fd F=>K28.law_fn ?T base f fd F⟩
  .exact L2.q_f 1 λ_ _ _ _ _ _ _=>rfl
  case T =>
   refine⟨⟨455,476,495,514,531,616,135,136,438,445,473,492,511,528,573,580,601,613⟩,⟨L2.q_c,L2.q_c,L2.q_c,L2.q_c,L2.q_c,L2.q_c,L2.q_c,L2.q_c,L2.q_g,L2.q_t,L2.q_t,L2.q_4,L2.q_m,L2.q_n,L2.q_n,L2.q_n,L2.q_n,L2.q_n,L2.q_n,L2.q_M,L2.q_4,L2.q_m,L2.q_n,L2.q_n,L2.q_n,L2.q_n,L2.q_n,L2.q_n,L2.q_M,L2.q_4,L2.q_m,L2.q_n,L2.q_n,L2.q_n,L2.q_n,L2.q_n,L2.q_n,L2.q_M,L2.q_4,L2.q_m,L2.q_n,L2.q_n,L2.q_n,L2.q_n,L2.q_n,L2.q_n,L2.q_M,L2.q_4,L2.q_m,L2.q_n,L2.q_n,L2.q_n,L2.q_n,L2.q_n,L2.q_n,L2.q_M,L2.q_4,L2.q_m,L2.q_m,L2.q_m,L2.q_n,L2.q_n,L2.q_n,L2.q_n,L2.q_n,L2.q_n,L2.q_B,L2.q_h 3 λ_ _ _ _ _ _ _ _ _=>rfl,L2.q_h 1 λ_ _ _ _ _ _ _=>rfl,L2.q_h 4 λ_ _ _ _ _ _ _ _ _ _=>rfl,L2.q_B,L2.q_h 4 λ_ _ _ _ _ _ _ _ _ _=>rfl,L2.q_h 6 λ_ _ _ _ _ _ _ _ _ _ _ _=>rfl,L2.q_h 4 λ_ _ _ _ _ _ _ _ _ _=>rfl,L2.q_h 3 λ_ _ _ _ _ _ _ _ _=>rfl,L2.q_h 1 λ_ _ _ _ _ _ _=>rfl,L2.q_h 2 λ_ _ _ _ _ _ _ _=>rfl,L2.q_h 2 λ_ _ _ _ _ _ _ _=>rfl,L2.q_z,L2.q_z,L2.q_z,L2.q_z,L2.q_z,L2.q_z,L2.q_z,L2.q_z,L2.q_z,L2.q_z,L2.q_z,L2.q_z,L2.q_z,L2.q_z,L2.q_z,L2.q_f 1 λ_ _ _ _ _ _ _=>rfl,L2.q_f 2 λ_ _ _ _ _ _ _ _=>rfl,L2.q_f 2 λ_ _ _ _ _ _ _ _=>rfl,L2.q_f 1 λ_ _ _ _ _ _ _=>rfl,L2.q_f 2 λ_ _ _ _ _ _ _ _=>rfl,L2.q_f 2 λ_ _ _ _ _ _ _ _=>rfl,L2.q_f 2 λ_ _ _ _ _ _ _ _=>rfl,L2.q_f 2 λ_ _ _ _ _ _ _ _=>rfl,L2.q_f 2 λ_ _ _ _ _ _ _ _=>rfl,L2.q_f 1 λ_ _ _ _ _ _ _=>rfl,L2.q_f 1 λ_ _ _ _ _ _ _=>rfl,L2.q_f 1 λ_ _ _ _ _ _ _=>rfl,L2.q_f 1 λ_ _ _ _ _ _ _=>rfl,L2.q_f 2 λ_ _ _ _ _ _ _ _=>rfl,L2.q_f 2 λ_ _ _ _ _ _ _ _=>rfl,L2.q_f 2 λ_ _ _ _ _ _ _ _=>rfl,L2.q_f 3 λ_ _ _ _ _ _ _ _ _=>rfl,L2.q_f 2 λ_ _ _ _ _ _ _ _=>rfl,L2.q_f 2 λ_ _ _ _ _ _ _ _=>rfl,L2.q_f 3 λ_ _ _ _ _ _ _ _ _=>rfl,L2.q_f 2 λ_ _ _ _ _ _ _ _=>rfl,L2.q_f 2 λ_ _ _ _ _ _ _ _=>rfl,L2.q_f 1 λ_ _ _ _ _ _ _=>rfl,L2.q_f 3 λ_ _ _ _ _ _ _ _ _=>rfl,L2.q_f 3 λ_ _ _ _ _ _ _ _ _=>rfl,L2.q_f 5 λ_ _ _ _ _ _ _ _ _ _ _=>rfl,L2.q_f 4 λ_ _ _ _ _ _ _ _ _ _=>rfl,L2.q_f 2 λ_ _ _ _ _ _ _ _=>rfl,L2.q_f 1 λ_ _ _ _ _ _ _=>rfl,L2.q_f 2 λ_ _ _ _ _ _ _ _=>rfl,L2.q_f 2 λ_ _ _ _ _ _ _ _=>rfl,L2.q_f 3 λ_ _ _ _ _ _ _ _ _=>rfl,L2.q_f 3 λ_ _ _ _ _ _ _ _ _=>rfl,L2.q_f 1 λ_ _ _ _ _ _ _=>rfl,L2.q_f 2 λ_ _ _ _ _ _ _ _=>rfl,L2.q_f 2 λ_ _ _ _ _ _ _ _=>rfl,L2.q_f 2 λ_ _ _ _ _ _ _ _=>rfl,L2.q_f 2 λ_ _ _ _ _ _ _ _=>rfl,L2.q_f 2 λ_ _ _ _ _ _ _ _=>rfl,L2.q_f 3 λ_ _ _ _ _ _ _ _ _=>rfl,L2.q_f 2 λ_ _ _ _ _ _ _ _=>rfl,L2.q_f 1 λ_ _ _ _ _ _ _=>rfl,L2.q_f 1 λ_ _ _ _ _ _ _=>rfl,L2.q_f 2 λ_ _ _ _ _ _ _ _=>rfl,L2.q_f 1 λ_ _ _ _ _ _ _=>rfl,L2.q_f 1 λ_ _ _ _ _ _ _=>rfl,L2.q_f 1 λ_ _ _ _ _ _ _=>rfl,L2.q_f 1 λ_ _ _ _ _ _ _=>rfl,L2.q_f 1 λ_ _ _ _ _ _ _=>rfl,L2.q_f 1 λ_ _ _ _ _ _ _=>rfl,L2.q_f 2 λ_ _ _ _ _ _ _ _=>rfl,L2.q_f 2 λ_ _ _ _ _ _ _ _=>rfl,L2.q_f 2 λ_ _ _ _ _ _ _ _=>rfl,L2.q_f 2 λ_ _ _ _ _ _ _ _=>rfl,L2.q_f 2 λ_ _ _ _ _ _ _ _=>rfl,L2.q_f 2 λ_ _ _ _ _ _ _ _=>rfl,L2.q_f 1 λ_ _ _ _ _ _ _=>rfl,L2.q_f 2 λ_ _ _ _ _ _ _ _=>rfl,L2.q_f 2 λ_ _ _ _ _ _ _ _=>rfl,L2.q_f 2 λ_ _ _ _ _ _ _ _=>rfl,L2.q_f 1 λ_ _ _ _ _ _ _=>rfl,L2.q_f 3 λ_ _ _ _ _ _ _ _ _=>rfl,L2.q_f 2 λ_ _ _ _ _ _ _ _=>rfl,L2.q_f 4 λ_ _ _ _ _ _ _ _ _ _=>rfl,L2.q_f 3 λ_ _ _ _ _ _ _ _ _=>rfl,L2.q_f 3 λ_ _ _ _ _ _ _ _ _=>rfl,L2.q_f 2 λ_ _ _ _ _ _ _ _=>rfl,L2.q_f 3 λ_ _ _ _ _ _ _ _ _=>rfl,L2.q_f 2 λ_ _ _ _ _ _ _ _=>rfl,L2.q_f 4 λ_ _ _ _ _ _ _ _ _ _=>rfl,L2.q_f 1 λ_ _ _ _ _ _ _=>rfl,L2.q_f 2 λ_ _ _ _ _ _ _ _=>rfl,L2.q_f 1 λ_ _ _ _ _ _ _=>rfl,L2.q_f 2 λ_ _ _ _ _ _ _ _=>rfl,L2.q_f 2 λ_ _ _ _ _ _ _ _=>rfl,L2.q_f 3 λ_ _ _ _ _ _ _ _ _=>rfl,L2.q_f 4 λ_ _ _ _ _ _ _ _ _ _=>rfl,L2.q_f 2 λ_ _ _ _ _ _ _ _=>rfl⟩⟩
#print axioms PySem.Challenge.cw_chancehall_k28_whole_no_plan_beats_it_holds
